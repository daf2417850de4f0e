/-
  Several texts in one: Kx, FrameQ, Cur, FrameY, CurE, V6a, V6b, V6c, V6d, Num.
-/
import Derived.Test.YtjlojlgdkfpcdaaGreatDoorMg3
import Derived.Test.YtjlojlgdkfpcdaaGreatDoorShelf
import Derived.Test.YtjlojlgdkfpcdaaGreatDoorShelb
import Derived.Laws.IdiomStrings
import Derived.Lib.IndexMore
import Derived.Deep.MidRow
import Derived.Test.YtjlojlgdkfpcdaaGreatDoorMg1
import Derived.Stop.LaidErr
import Derived.Test.YtjlojlgdkfpcdaaGreatDoorMg0
import Derived.Deep.QuietTactic
import Derived.BigQuiet
import Derived.Deep.RegionWith
import Derived.Deep.RegionHeld3
import Derived.Deep.DeepCutAuto
import Derived.Laws.Bits64b
import Derived.ChangeSlices
set_option maxRecDepth 100000
set_option maxHeartbeats 2000000
namespace Go.Proofs.YtjlojlgdkfpcdaaGreatDoor
open Go.RowKit
def zU1:List Value:=[.int .u16 0,.int .u16 1,.int .u16 3,.int .u16 7,.int .u16 8,.int .u16 16,.int .u16 48,.int .u16 104,.int .u16 3,.int .u16 488,.int .u16 1000]
def TabK (w:World):Prop:=(∃ m,w.cell? ⟨4,0,none⟩=some (iQ m))/\w.rangeAt 0 0 zU1/\w.rangeAt 3 0 zD5
theorem TabK.l {w w':World} (h:TabK w) (x:Ext w w'):TabK w':=by
 obtain ⟨⟨m,a⟩,b,c⟩:=h;exact ⟨⟨m,cell_later x a⟩,fun i v hv=>cell_later x (b i v hv),fun i v hv=>cell_later x (c i v hv)⟩
theorem zMM:layCutPrefix_ren.f 103=26:=by kernel_rfl
theorem zET:layTrimLeft_ren.f 161=163:=by kernel_rfl
theorem zLK:layTrimPrefix_ren.f 101=105:=by kernel_rfl
theorem fTrimK:layTrim_ren.f 160=108:=by kernel_rfl
theorem fCutK:layCut_ren.f 145=161:=by kernel_rfl
theorem zVT:layCut_ren.g 1=4:=by kernel_rfl
theorem zJB (l:BL) (c:UInt8) (w:World) :
  Calls Tryz.prog 26 #[sV l,sV [c]] w fun e w'=>e=.returned (.tuple #[sV (Lib.trimPrefix l [c]),.bool (Lib.hasPrefix l [c])])/\w'=w:=by
 have h:=Any.strings_CutPrefix layCutPrefix ⟨l.toArray⟩ ⟨#[c]⟩ w;rw [zMM] at h;exact h
theorem zLU (l:BL) (w:World) :
  Calls Tryz.prog 105 #[sV l,sV [35,44]] w fun e w'=>e=.returned (sV (Lib.trimPrefix l [35,44]))/\w'=w:=by
 have h:=Any.strings_TrimPrefix layTrimPrefix ⟨l.toArray⟩ ⟨#[35,44]⟩ w;rw [zLK] at h;exact h
theorem zQO (l:BL) (c:UInt8) (hc:c=48\/c=46\/c=35\/c=37) (w:World) :
  Calls Tryz.prog 163 #[sV l,sV [c]] w fun e w'=>e=.returned (sV (Lib.trimLeftS l [c]))/\Ext w w':=by
 rcases hc with rfl | rfl | rfl | rfl
 ·have h:=Any.strings_TrimLeft_laid layTrimLeft (by kernel_rfl) ⟨l.toArray⟩ ⟨#[48]⟩ w (by decide) (ascii_of_all (by decide));rw [zET] at h;exact h
 ·have h:=Any.strings_TrimLeft_laid layTrimLeft (by kernel_rfl) ⟨l.toArray⟩ ⟨#[46]⟩ w (by decide) (ascii_of_all (by decide));rw [zET] at h;exact h
 ·have h:=Any.strings_TrimLeft_laid layTrimLeft (by kernel_rfl) ⟨l.toArray⟩ ⟨#[35]⟩ w (by decide) (ascii_of_all (by decide));rw [zET] at h;exact h
 ·have h:=Any.strings_TrimLeft_laid layTrimLeft (by kernel_rfl) ⟨l.toArray⟩ ⟨#[37]⟩ w (by decide) (ascii_of_all (by decide));rw [zET] at h;exact h
theorem trimK (l:BL) (w:World) (hl:l.length<=1000) :
  Calls Tryz.prog 108 #[sV l,sV [34]] w fun e w'=>e=.returned (sV (Lib.trimS l [34]))/\Ext w w':=by
 have h:=Any.strings_Trim_laid layTrim (by kernel_rfl) ⟨l.toArray⟩ ⟨#[34]⟩ w (by show l.length<=_;omega) (by decide) (ascii_of_all (by decide));rw [fTrimK] at h;exact h
theorem cutK (l:BL) (w:World) (hl:l.length<=1000) (T:TabK w) :
  Calls Tryz.prog 161 #[sV l,sV [34]] w fun e w'=>e=.returned (.tuple #[sV (Lib.cut l [34]).1,sV (Lib.cut l [34]).2.1,.bool (Lib.cut l [34]).2.2])/\Ext w w':=by
 obtain ⟨⟨m,hm⟩,_,_⟩:=T;have h:=Any.strings_Cut layCut ⟨l.toArray⟩ ⟨#[34]⟩ m w (by show l.length<_;omega) (by rw [zVT];exact hm);rw [fCutK] at h;exact h.mono fun e w' ⟨he,n,hw⟩=>⟨he,by rw [hw];exact ⟨rfl,rfl,rfl,Nat.le_refl _,fun _ _=>rfl⟩⟩
theorem prefI (l p:BL) (w:World):Calls Tryz.prog 109 #[sV l,sV p] w fun e w'=>e=.returned (.bool (Lib.hasPrefix l p))/\w'=w:=by
 rw [zDN];have EX:=zF9 l 0 p.length;rw [Nat.sub_zero,List.drop_zero] at EX;have z1:(⟨l.toArray⟩:ByteArray).size=l.length:=rfl;have z2:(⟨p.toArray⟩:ByteArray).size=p.length:=rfl;obtain ⟨b,hb⟩:=nm ((l.take p.length == p));have HB:((⟨(l.take p.length).toArray⟩:ByteArray).toList == (⟨p.toArray⟩:ByteArray).toList)=b:=by rw [ByteArray.toList_eq,ByteArray.toList_eq];exact hb
 rw [hb];show Calls Tryz.prog 109 #[.string ⟨l.toArray⟩,.string ⟨p.toArray⟩] w _;obtain ⟨s,hs⟩:=nm ((⟨l.toArray⟩:ByteArray));obtain ⟨t,ht⟩:=nm ((⟨p.toArray⟩:ByteArray));obtain ⟨x,hx⟩:=nm ((⟨(l.take p.length).toArray⟩:ByteArray));obtain ⟨n,hn⟩:=nm (l.length);obtain ⟨k,hk⟩:=nm (p.length);rw [hs] at EX z1 ⊢;rw [ht] at z2 HB ⊢;rw [hx] at EX HB;rw [hn] at z1 ⊢;rw [hk] at z2 EX ⊢;clear hb hs ht hx hn hk;by_cases h:k<=n
 ·have i1:(k:Int)<=(n:Int):=by omega
  have i2:(0:Int)<=(k:Int):=by omega
  rw [decide_eq_true h];cases b
  all_goals
   go_enter Tryz.func109,Tryz.ntmps109;go_wp2_with fail;go_ret
   first | exact ⟨rfl,rfl⟩ | exact ⟨by simp [EX],rfl⟩ | exact ⟨by simp [EX,HB],rfl⟩
 ·have i1:(n:Int)<(k:Int):=by omega
  rw [decide_eq_false h];go_enter Tryz.func109,Tryz.ntmps109;go_wp2_with fail;go_ret;exact ⟨rfl,rfl⟩
theorem zVN (l p:BL) (w:World):Calls Tryz.prog 97 #[sV l,sV p] w fun e w'=>e=.returned (.bool (Lib.hasPrefix l p))/\w'=w:=by
 have H:=prefI l p w;go_enter Tryz.func97,Tryz.ntmps97;go_wp2_with fail;refine H.mono ?_;rintro e w1 ⟨rfl,rfl⟩;go_wp2_with fail;go_ret;exact ⟨rfl,rfl⟩
theorem zGX (a:Nat) (ha:a<65536):bits .and .u16 (a:Int) 1=((a % 2:Nat):Int):=by
 have h1:(BitVec.ofInt 16 (a:Int)).toNat=a:=by
  rw [BitVec.ofInt_natCast,BitVec.toNat_ofNat];exact Nat.mod_eq_of_lt (by omega)
 have h2:(BitVec.ofInt 16 (1:Int)).toNat=1:=by decide
 show IntKind.u16.wrap ((BitVec.ofInt 16 (a:Int) &&& BitVec.ofInt 16 (1:Int)).toNat:Int)=_;rw [BitVec.toNat_and,h1,h2,Nat.and_one_is_mod,IntKind.wrap_u16];omega
theorem hasI (p k:Nat) (hp:p<65536) (hk:k<=12) (w:World):Calls Tryz.prog 53 #[.int .u16 (p:Int),iQ (k:Int)] w fun e w'=>e=.returned (.bool (p / 2 ^ k % 2 == 1))/\w'=w:=by
 have hq:p / 2 ^ k<65536:=Nat.lt_of_le_of_lt (Nat.div_le_self _ _) hp;have hc:((p:Int) / 2 ^ k)=((p / 2 ^ k:Nat):Int):=by rw [Int.natCast_ediv];simp
 have hb:=zGX (p / 2 ^ k) hq;rw [<- hc] at hb;have hr:((((p / 2 ^ k) % 2:Nat):Int) == 1)=(p / 2 ^ k % 2 == 1):=by
  rcases Nat.mod_two_eq_zero_or_one (p / 2 ^ k) with h | h <;> rw [h] <;> rfl
 have HB:Hid ((bits BinOp.and IntKind.u16 ((p:Int) / 2 ^ k) 1 == 1)=(p / 2 ^ k % 2 == 1)):=by show _=_;rw [hb,hr]
 clear hb hr hc hq;go_enter Tryz.func53,Tryz.ntmps53;go_wp2_with fail;go_ret;exact ⟨zA5 HB.out,rfl⟩
end Go.Proofs.YtjlojlgdkfpcdaaGreatDoor

namespace Go.Proofs.YtjlojlgdkfpcdaaGreatDoor
open Go.ChangeShapes Go.WideShapes Go.ChangeAt Go.RowKit
theorem zJX {P:Program} {w:World} {g:Nat} {t:TypeId} {zero:Array Value} (h:w.ShapedOpen P) (hg:g<P.globals.size)
  (h0:((begin P (fun _ _=>0) default).world.heap[g]?).bind Obj.row?=some (zero,t)) (hz:zero.size=1)
  (hb:P.buildable t=true) (hc:P.cellTypes P.depth t=some [t]) (hu:P.underlying t=some (.int .i64)):∃ m,w.cell? ⟨g,0,none⟩=some (iQ m):=by
 obtain ⟨cs,hh,hs,hr⟩:=h.1 g zero t hg h0;obtain ⟨ts,hts,_,hall⟩:=hr hb;rw [hc] at hts;cases hts;have h1:0<cs.size:=by omega
 obtain ⟨u,hu',hok⟩:=hall 0 cs[0] (by simp [h1]);have:u=t:=by simpa using hu'.symm
 subst this;have hcell:w.cell? ⟨g,0,none⟩=some cs[0]:=by simp [World.cell?,hh,h1]
 rw [hcell];unfold Cell.ok at hok;rw [hu] at hok;cases hv:cs[0] <;> rw [hv] at hok <;> first | exact ⟨_,by rw [hok.1]⟩ | simp at hok
theorem zPJ {W:World} (h:W.ShapedOpen Tryz.prog):∃ m,W.cell? ⟨4,0,none⟩=some (iQ m):=
 zJX (t:=3) (zero:=#[iQ 0]) h (of_decide_eq_true (by kernel_rfl)) (by kernel_rfl) rfl (by kernel_rfl) (by kernel_rfl) Tryz.underlying3
theorem zT8:Tryz.prog.globalNamed "loop.example/g00025/impl.mayBeAhead" = some 0:=by kernel_rfl
theorem zJ2:(Tryz.prog.globals[0]?).map (·.type)=some 95:=by kernel_rfl
theorem zT6:Tryz.prog.globalNamed "loop.example/g00025/impl.dateWords" = some 3:=by kernel_rfl
theorem zJ1:(Tryz.prog.globals[3]?).map (·.type)=some 197:=by kernel_rfl
theorem zS4:Tryz.prog.cellsOf 94=1:=by kernel_rfl
theorem zR3:Tryz.prog.cellsOf 9=1:=by kernel_rfl
theorem zBT {H:Type} {enc:TypeId × Value->H} {w:World} {base:Nat} {sp:Nat->Bool} {held:Bool} {fuel:Nat} {cs:List Value} {z:Int} {p:List MemPlace} (o:Nat)
  (h:DataW.trod enc Tryz.prog w base sp held fuel 94 ((cs.drop o).take 1)=some (.lit (.int .u16 z),p)):cs[o]?=some (.int .u16 z):=by
 obtain ⟨n,hc,hx,_⟩:=DataW.trod_int Tryz.underlying94 h;simp only [Prod.mk.injEq,DataW.lit.injEq,Lit.int.injEq,true_and] at hx;have:=congrArg (·[0]?) hc;simp only [List.getElem?_take,List.getElem?_drop,List.getElem?_cons_zero] at this;simpa [hx.1] using this
theorem zAY {H:Type} {enc:TypeId × Value->H} {w:World} {base:Nat} {sp:Nat->Bool} {held:Bool} {fuel:Nat} {cs:List Value} {l:List UInt8} {p:List MemPlace} (o:Nat)
  (h:DataW.trod enc Tryz.prog w base sp held fuel 9 ((cs.drop o).take 1)=some (.lit (.string l),p)):cs[o]?=some (sV l):=by
 obtain ⟨s,hc,hx,_⟩:=DataW.trod_string Tryz.underlying9 h;simp only [Prod.mk.injEq,DataW.lit.injEq,Lit.string.injEq] at hx;have:=congrArg (·[0]?) hc;simp only [List.getElem?_take,List.getElem?_drop,List.getElem?_cons_zero] at this;have hs:s=⟨l.toArray⟩:=by
  cases s;rw [hx.1]
 rw [hs] at this;simpa using this
theorem ahead_of {rest:List (String × DataW Unit)} {W:World} (h:laidMet Tryz.prog (("loop.example/g00025/impl.mayBeAhead", Rows.laid_loop_example_g00025_impl_mayBeAhead) :: rest) W):W.rangeAt 0 0 zU1:=by
 obtain ⟨ps,⟨g',t',cs,fuel,p,q,hg',ht',hvar,hd,_,_⟩,_⟩:=h;obtain rfl:=Option.some.inj (zT8.symm.trans hg');obtain rfl:=Option.some.inj (zJ2.symm.trans ht');have C:=fun i v (h:cs[i]?=some v)=>(World.var?_cell zT8 hvar i).trans (by simpa using h);obtain ⟨_,_,k0⟩:=zA3 Tryz.underlying95 hd 0 (by decide) _ rfl;obtain ⟨_,_,k1⟩:=zA3 Tryz.underlying95 hd 1 (by decide) _ rfl;obtain ⟨_,_,k2⟩:=zA3 Tryz.underlying95 hd 2 (by decide) _ rfl;obtain ⟨_,_,k3⟩:=zA3 Tryz.underlying95 hd 3 (by decide) _ rfl;obtain ⟨_,_,k4⟩:=zA3 Tryz.underlying95 hd 4 (by decide) _ rfl;obtain ⟨_,_,k5⟩:=zA3 Tryz.underlying95 hd 5 (by decide) _ rfl;obtain ⟨_,_,k6⟩:=zA3 Tryz.underlying95 hd 6 (by decide) _ rfl;obtain ⟨_,_,k7⟩:=zA3 Tryz.underlying95 hd 7 (by decide) _ rfl;obtain ⟨_,_,k8⟩:=zA3 Tryz.underlying95 hd 8 (by decide) _ rfl;obtain ⟨_,_,k9⟩:=zA3 Tryz.underlying95 hd 9 (by decide) _ rfl;obtain ⟨_,_,k10⟩:=zA3 Tryz.underlying95 hd 10 (by decide) _ rfl;rw [zS4] at k0 k1 k2 k3 k4 k5 k6 k7 k8 k9 k10;have a0:=zBT (0 * 1) k0;have a1:=zBT (1 * 1) k1;have a2:=zBT (2 * 1) k2;have a3:=zBT (3 * 1) k3;have a4:=zBT (4 * 1) k4;have a5:=zBT (5 * 1) k5;have a6:=zBT (6 * 1) k6;have a7:=zBT (7 * 1) k7;have a8:=zBT (8 * 1) k8;have a9:=zBT (9 * 1) k9;have a10:=zBT (10 * 1) k10;intro i z hz
 match i,hz with
 | 0,hz=>cases hz;exact C 0 _ (by simpa using a0)
 | 1,hz=>cases hz;exact C 1 _ (by simpa using a1)
 | 2,hz=>cases hz;exact C 2 _ (by simpa using a2)
 | 3,hz=>cases hz;exact C 3 _ (by simpa using a3)
 | 4,hz=>cases hz;exact C 4 _ (by simpa using a4)
 | 5,hz=>cases hz;exact C 5 _ (by simpa using a5)
 | 6,hz=>cases hz;exact C 6 _ (by simpa using a6)
 | 7,hz=>cases hz;exact C 7 _ (by simpa using a7)
 | 8,hz=>cases hz;exact C 8 _ (by simpa using a8)
 | 9,hz=>cases hz;exact C 9 _ (by simpa using a9)
 | 10,hz=>cases hz;exact C 10 _ (by simpa using a10)
theorem zIG:∀ g t,Tryz.prog.globalNamed "loop.example/g00025/impl.mayBeAhead" = some g->(Tryz.prog.globals[g]?).map (·.type)=some t->Tryz.prog.readableRec t=true/\t<Tryz.prog.types.size:=by
 intro g t hg ht;obtain rfl:=Option.some.inj (zT8.symm.trans hg);obtain rfl:=Option.some.inj (zJ2.symm.trans ht);exact ⟨by kernel_rfl,of_decide_eq_true (by kernel_rfl)⟩
theorem zU8 {rest:List (String × DataW Unit)} {W:World} (h:laidMet Tryz.prog (("loop.example/g00025/impl.dateWords", Rows.laid_loop_example_g00025_impl_dateWords) :: rest) W):W.rangeAt 3 0 zD5:=by
 obtain ⟨ps,⟨g',t',cs,fuel,p,q,hg',ht',hvar,hd,_,_⟩,_⟩:=h;obtain rfl:=Option.some.inj (zT6.symm.trans hg');obtain rfl:=Option.some.inj (zJ1.symm.trans ht');have C:=fun i v (h:cs[i]?=some v)=>(World.var?_cell zT6 hvar i).trans (by simpa using h);obtain ⟨_,_,k0⟩:=zA3 Tryz.underlying197 hd 0 (by decide) _ rfl;obtain ⟨_,_,k1⟩:=zA3 Tryz.underlying197 hd 1 (by decide) _ rfl;obtain ⟨_,_,k2⟩:=zA3 Tryz.underlying197 hd 2 (by decide) _ rfl;obtain ⟨_,_,k3⟩:=zA3 Tryz.underlying197 hd 3 (by decide) _ rfl;obtain ⟨_,_,k4⟩:=zA3 Tryz.underlying197 hd 4 (by decide) _ rfl;obtain ⟨_,_,k5⟩:=zA3 Tryz.underlying197 hd 5 (by decide) _ rfl;obtain ⟨_,_,k6⟩:=zA3 Tryz.underlying197 hd 6 (by decide) _ rfl;obtain ⟨_,_,k7⟩:=zA3 Tryz.underlying197 hd 7 (by decide) _ rfl;obtain ⟨_,_,k8⟩:=zA3 Tryz.underlying197 hd 8 (by decide) _ rfl;obtain ⟨_,_,k9⟩:=zA3 Tryz.underlying197 hd 9 (by decide) _ rfl;obtain ⟨_,_,k10⟩:=zA3 Tryz.underlying197 hd 10 (by decide) _ rfl;obtain ⟨_,_,k11⟩:=zA3 Tryz.underlying197 hd 11 (by decide) _ rfl;obtain ⟨_,_,k12⟩:=zA3 Tryz.underlying197 hd 12 (by decide) _ rfl;obtain ⟨_,_,k13⟩:=zA3 Tryz.underlying197 hd 13 (by decide) _ rfl;rw [zR3] at k0 k1 k2 k3 k4 k5 k6 k7 k8 k9 k10 k11 k12 k13;have a0:=zAY (0 * 1) k0;have a1:=zAY (1 * 1) k1;have a2:=zAY (2 * 1) k2;have a3:=zAY (3 * 1) k3;have a4:=zAY (4 * 1) k4;have a5:=zAY (5 * 1) k5;have a6:=zAY (6 * 1) k6;have a7:=zAY (7 * 1) k7;have a8:=zAY (8 * 1) k8;have a9:=zAY (9 * 1) k9;have a10:=zAY (10 * 1) k10;have a11:=zAY (11 * 1) k11;have a12:=zAY (12 * 1) k12;have a13:=zAY (13 * 1) k13;intro i z hz
 match i,hz with
 | 0,hz=>cases hz;exact C 0 _ (by simpa using a0)
 | 1,hz=>cases hz;exact C 1 _ (by simpa using a1)
 | 2,hz=>cases hz;exact C 2 _ (by simpa using a2)
 | 3,hz=>cases hz;exact C 3 _ (by simpa using a3)
 | 4,hz=>cases hz;exact C 4 _ (by simpa using a4)
 | 5,hz=>cases hz;exact C 5 _ (by simpa using a5)
 | 6,hz=>cases hz;exact C 6 _ (by simpa using a6)
 | 7,hz=>cases hz;exact C 7 _ (by simpa using a7)
 | 8,hz=>cases hz;exact C 8 _ (by simpa using a8)
 | 9,hz=>cases hz;exact C 9 _ (by simpa using a9)
 | 10,hz=>cases hz;exact C 10 _ (by simpa using a10)
 | 11,hz=>cases hz;exact C 11 _ (by simpa using a11)
 | 12,hz=>cases hz;exact C 12 _ (by simpa using a12)
 | 13,hz=>cases hz;exact C 13 _ (by simpa using a13)
theorem zI9:∀ g t,Tryz.prog.globalNamed "loop.example/g00025/impl.dateWords" = some g->(Tryz.prog.globals[g]?).map (·.type)=some t->Tryz.prog.readableRec t=true/\t<Tryz.prog.types.size:=by
 intro g t hg ht;obtain rfl:=Option.some.inj (zT6.symm.trans hg);obtain rfl:=Option.some.inj (zJ1.symm.trans ht);exact ⟨by kernel_rfl,of_decide_eq_true (by kernel_rfl)⟩
end Go.Proofs.YtjlojlgdkfpcdaaGreatDoor

namespace Go.Proofs.YtjlojlgdkfpcdaaGreatDoor
open Go.RowKit
structure Only (b:Nat) (w w':World):Prop where
 os:w'.os=w.os
 tape:w'.tape=w.tape
 output:w'.output=w.output
 size:w.heap.size<=w'.heap.size
 block:∀ k,k ≠ b->k<w.heap.size->w'.heap[k]?=w.heap[k]?
theorem Only.refl (b:Nat) (w:World):Only b w w:=⟨rfl,rfl,rfl,Nat.le_refl _,fun _ _ _=>rfl⟩
theorem Only.trans {b:Nat} {u v w:World} (h:Only b u v) (k:Only b v w):Only b u w:=
 ⟨k.os.trans h.os,k.tape.trans h.tape,k.output.trans h.output,Nat.le_trans h.size k.size,fun i hi hl=>(k.block i hi (Nat.lt_of_lt_of_le hl h.size)).trans (h.block i hi hl)⟩
theorem Only.of_ext {b:Nat} {w w':World} (h:Ext w w'):Only b w w':=⟨h.os,h.tape,h.output,h.size,fun k _ hl=>h.block k hl⟩
theorem Only.ext {b:Nat} {w0 w w':World} (x:Ext w0 w) (h:Only b w w') (hb:w0.heap.size<=b):Ext w0 w':=
 ⟨h.os.trans x.os,h.tape.trans x.tape,h.output.trans x.output,Nat.le_trans x.size h.size,fun k hk=>(h.block k (by omega) (Nat.lt_of_lt_of_le hk x.size)).trans (x.block k hk)⟩
theorem Only.drewN {b:Nat} {w w':World} (h:Only b w w') (n:Nat):Only b w (w'.drewN n):=⟨h.os,h.tape,h.output,h.size,h.block⟩
theorem Only.set {b i:Nat} {w w':World} (h:Only b w w') (u:Value):Only b w (w'.setCell ⟨b,i,none⟩ u):=
 h.trans ⟨rfl,rfl,rfl,by simp [World.setCell],fun k hk _=>Below.heap_setCell _ _ _ _ hk⟩
theorem Only.cell {b k o:Nat} {w w':World} (h:Only b w w') (hk:k ≠ b) {v:Value} (hc:w.cell? ⟨k,o,none⟩=some v):w'.cell? ⟨k,o,none⟩=some v:=by
 have hl:k<w.heap.size:=World.block_lt_of_cell? _ _ hc;unfold World.cell? at hc ⊢;rw [h.block k hk hl];exact hc
def zCP (w:World) (base:Nat) (v:Value) (n:Nat):Prop:=
 ((∃ p cap,v=.slice p 0 cap)/\n=0)\/∃ (pb po cap:Nat),pb<base/\v=.slice (some ⟨pb,po,none⟩) n cap/\n<=cap/\∀ i,i<n->∃ x:Int,0<=x/\x<=255/\w.cell? ⟨pb,po+i,none⟩=some (.int .u8 x)
theorem zCP.only {w w':World} {base b n:Nat} {v:Value} (h:zCP w base v n) (o:Only b w w') (hb:base<=b):zCP w' base v n:=by
 rcases h with h | ⟨pb,po,cap,h1,h2,h3,h4⟩
 ·exact .inl h
 ·refine .inr ⟨pb,po,cap,h1,h2,h3,fun i hi=>?_⟩;obtain ⟨x,x0,x1,hx⟩:=h4 i hi;exact ⟨x,x0,x1,o.cell (by omega) hx⟩
def Cur (w:World) (b base K:Nat):Prop:=∃ (v:Value) (n:Nat) (a s:Int),Box3 w b v (iQ a) (.int .u64 s)/\zCP w base v n/\n<=1048576/\0<=a/\a<=K/\0<=s/\s<18446744073709551616/\base<=b
theorem xdNc {a b:World} (h:Ext a b) (n:Nat):Ext a (b.drewN n):=⟨h.os,h.tape,h.output,h.size,h.block⟩
theorem zEW {b i j:Nat} (h:i ≠ j):(⟨b,i,none⟩:Addr) ≠ ⟨b,j,none⟩:=fun e=>h (by cases e;rfl)
theorem Box3.put1c {w:World} {b:Nat} {v0 v1 v2:Value} (h:Box3 w b v0 v1 v2) (u:Value):Box3 (w.setCell ⟨b,1,none⟩ u) b v0 u v2:=by
 obtain ⟨⟨q0,q1,q2⟩,f0,f1,f2⟩:=h;refine ⟨⟨?_,World.cell?_setCell_same _ _ _ q1,?_⟩,?_,?_,?_⟩
 ·rw [World.cell?_setCell_other _ _ _ _ (zEW (by decide))];exact q0
 ·rw [World.cell?_setCell_other _ _ _ _ (zEW (by decide))];exact q2
 ·simp [World.frozen?_setCell,f0]
 ·simp [World.frozen?_setCell,f1]
 ·simp [World.frozen?_setCell,f2]
theorem Box3.put2c {w:World} {b:Nat} {v0 v1 v2:Value} (h:Box3 w b v0 v1 v2) (u:Value):Box3 (w.setCell ⟨b,2,none⟩ u) b v0 v1 u:=by
 obtain ⟨⟨q0,q1,q2⟩,f0,f1,f2⟩:=h;refine ⟨⟨?_,?_,World.cell?_setCell_same _ _ _ q2⟩,?_,?_,?_⟩
 ·rw [World.cell?_setCell_other _ _ _ _ (zEW (by decide))];exact q0
 ·rw [World.cell?_setCell_other _ _ _ _ (zEW (by decide))];exact q1
 ·simp [World.frozen?_setCell,f0]
 ·simp [World.frozen?_setCell,f1]
 ·simp [World.frozen?_setCell,f2]
theorem and255 (x:Int) (h0:0<=x) (h1:x<18446744073709551616):0<=bits BinOp.and IntKind.u64 x 255/\bits BinOp.and IntKind.u64 x 255<=255:=by
 obtain ⟨n,rfl⟩:∃ n:Nat,x=n:=⟨x.toNat,by omega⟩;have h:=bits_and_u64_nat n 255 (by omega) (by decide);have e:((255:Nat):Int)=255:=rfl;rw [e] at h;rw [h];have:=Nat.and_le_right (n:=n) (m:=255);omega
theorem or_fits (x y:Int) (h0:0<=x) (h1:x<18446744073709551616) (k0:0<=y) (k1:y<18446744073709551616):0<=bits BinOp.or IntKind.u64 x y/\bits BinOp.or IntKind.u64 x y<18446744073709551616:=by
 obtain ⟨n,rfl⟩:∃ n:Nat,x=n:=⟨x.toNat,by omega⟩;obtain ⟨m,rfl⟩:∃ m:Nat,y=m:=⟨y.toNat,by omega⟩;rw [bits_or_u64_nat n m (by omega) (by omega)];have hx:n ||| m<2 ^ 64:=Nat.or_lt_two_pow (by omega) (by omega);omega
theorem Cur.drewN {w:World} {b base K:Nat} (h:Cur w b base K) (n:Nat):Cur (w.drewN n) b base K:=by
 obtain ⟨v,k,a,s,B,hc,r⟩:=h;exact ⟨v,k,a,s,B.l (xdNc (xr _) n),hc.only (b:=b) ((Only.refl b w).drewN n) r.2.2.2.2.2,r⟩
theorem zV2 (b base K:Nat) (w:World) (h:Cur w b base K) (hK:K<=1000000000) :
  Calls Tryz.prog 43 #[.pointer (some ⟨b,0,none⟩)] w fun e w'=>∃ v:Int,e=.returned (iQ v)/\(0<=v/\v<=255)/\Cur w' b base (K+1)/\Only b w w':=by
 obtain ⟨v,n,a,s,B,hc,hn,a0,a1,s0,s1,hbb⟩:=h;have B':=B;obtain ⟨⟨q0,q1,q2⟩,g0,g1,g2⟩:=B';have wb:∀ x:Int,0<=IntKind.u64.wrap x/\IntKind.u64.wrap x<18446744073709551616:=fun x=>by rw [IntKind.wrap_u64];omega
 rcases hc with ⟨⟨np,ncap,rfl⟩,rfl⟩ | ⟨pb,po,cap,hpb,rfl,hnc,hx⟩
 ·have f1:decide (a<0)=false:=by simp;omega
  have f2:decide (a+1<=0)=false:=by simp;omega
  obtain ⟨S,hS⟩:=nm (IntKind.u64.wrap (IntKind.u64.wrap (IntKind.u64.wrap (s * 6364136223846793005))+1442695040888963407));have hS2:=wb (IntKind.u64.wrap (IntKind.u64.wrap (s * 6364136223846793005))+1442695040888963407);rw [hS] at hS2;have CU:Hid (∀ n,Cur (((w.drewN n).setCell ⟨b,1,none⟩ (iQ (a+1))).setCell ⟨b,2,none⟩ (.int .u64 S)) b base (K+1)):=fun n =>
   ⟨_,0,a+1,S,((B.l (xdNc (xr _) n)).put1c _).put2c _,.inl ⟨⟨_,_,rfl⟩,rfl⟩,by omega,by omega,by omega,hS2.1,hS2.2,hbb⟩
  have ON:Hid (∀ n,Only b w (((w.drewN n).setCell ⟨b,1,none⟩ (iQ (a+1))).setCell ⟨b,2,none⟩ (.int .u64 S))):=fun n=>(((Only.refl b w).drewN n).set _).set _;clear B wb;go_enter Tryz.func43,Tryz.ntmps43;go_wp2_with fail;go_quiet (fail);go_wp2_with fail;go_quiet (fail);go_wp2_with fail;obtain ⟨V,hV⟩:=nm (bits BinOp.and IntKind.u64 (S / 1099511627776) 255);have bv:=and255 (S / 1099511627776) (by omega) (by omega);rw [hV] at bv;go_ret;refine ⟨V,?_,bv,(CU.out _).drewN _,(ON.out _).drewN _⟩;rw [hV];exact zA8 (by unfold wrap64;omega)
 ·by_cases hlt:a<n
  ·obtain ⟨i,rfl⟩:∃ i:Nat,a=i:=⟨a.toNat,by omega⟩;obtain ⟨x,x0,x1,hxc⟩:=hx i (by omega);have f1:decide ((i:Int)<n)=true:=by simp;omega
   have f2:decide ((i:Int)+1<=n)=true:=by simp;omega
   have i1:(i:Int)<(n:Int):=by omega
   have wx:IntKind.u64.wrap x=x:=by rw [IntKind.wrap_u64];omega
   have wx2:IntKind.i64.wrap x=x:=by rw [IntKind.wrap_i64];omega
   obtain ⟨S,hS⟩:=nm (IntKind.u64.wrap (IntKind.u64.wrap (IntKind.u64.wrap (s * 6364136223846793005)+x)+1442695040888963407));have hS2:=wb (IntKind.u64.wrap (IntKind.u64.wrap (s * 6364136223846793005)+x)+1442695040888963407);rw [hS] at hS2;have CU:Hid (∀ w2:World,Only b w w2->Box3 w2 b (.slice (some ⟨pb,po,none⟩) n cap) (iQ i) (.int .u64 s)->Cur ((w2.setCell ⟨b,1,none⟩ (iQ ((i:Int)+1))).setCell ⟨b,2,none⟩ (.int .u64 S)) b base (K+1)/\Only b w ((w2.setCell ⟨b,1,none⟩ (iQ ((i:Int)+1))).setCell ⟨b,2,none⟩ (.int .u64 S))):=fun w2 o bx =>
    ⟨⟨_,n,(i:Int)+1,S,(bx.put1c _).put2c _,zCP.only (.inr ⟨pb,po,cap,hpb,rfl,hnc,hx⟩) ((o.set _).set _) hbb,hn,by omega,by omega,hS2.1,hS2.2,hbb⟩,(o.set _).set _⟩
   have BB:Hid (∀ k,Box3 (w.drewN k) b (.slice (some ⟨pb,po,none⟩) n cap) (iQ i) (.int .u64 s)):=fun k=>B.l (xdNc (xr _) k);clear B wb hx;go_enter Tryz.func43,Tryz.ntmps43;go_wp2_with fail;go_quiet (fail);go_wp2_with fail;go_quiet (fail);go_wp2_with fail;go_quiet (fail);go_wp2_with fail;go_ret;have cu:=fun a'=>CU.out (w.drewN a') ((Only.refl b w).drewN a') (BB.out a');exact ⟨x,rfl,⟨x0,x1⟩,(cu _).1.drewN _,(cu _).2.drewN _⟩
  ·have f1:decide (a<(n:Int))=false:=by simp;omega
   have f2:decide (a+1<=(n:Int))=false:=by simp;omega
   obtain ⟨S,hS⟩:=nm (IntKind.u64.wrap (IntKind.u64.wrap (IntKind.u64.wrap (s * 6364136223846793005))+1442695040888963407));have hS2:=wb (IntKind.u64.wrap (IntKind.u64.wrap (s * 6364136223846793005))+1442695040888963407);rw [hS] at hS2;have ON:Hid (∀ k,Only b w (((w.drewN k).setCell ⟨b,1,none⟩ (iQ (a+1))).setCell ⟨b,2,none⟩ (.int .u64 S))):=fun k=>(((Only.refl b w).drewN k).set _).set _;have CU:Hid (∀ k,Cur (((w.drewN k).setCell ⟨b,1,none⟩ (iQ (a+1))).setCell ⟨b,2,none⟩ (.int .u64 S)) b base (K+1)):=fun k =>
    ⟨_,n,a+1,S,((B.l (xdNc (xr _) k)).put1c _).put2c _,zCP.only (.inr ⟨pb,po,cap,hpb,rfl,hnc,hx⟩) (ON.out k) hbb,hn,by omega,by omega,hS2.1,hS2.2,hbb⟩
   clear B wb hx;go_enter Tryz.func43,Tryz.ntmps43;go_wp2_with fail;go_quiet (fail);go_wp2_with fail;go_quiet (fail);go_wp2_with fail;obtain ⟨V,hV⟩:=nm (bits BinOp.and IntKind.u64 (S / 1099511627776) 255);have bv:=and255 (S / 1099511627776) (by omega) (by omega);rw [hV] at bv;go_ret;refine ⟨V,?_,bv,(CU.out _).drewN _,(ON.out _).drewN _⟩;rw [hV];exact zA8 (by unfold wrap64;omega)
theorem Cur.ext {w w':World} {b base K:Nat} (h:Cur w b base K) (x:Ext w w'):Cur w' b base K:=by
 obtain ⟨v,k,a,s,B,hc,r⟩:=h;exact ⟨v,k,a,s,B.l x,hc.only (b:=b) (Only.of_ext x) r.2.2.2.2.2,r⟩
theorem Cur.lt {w:World} {b base K:Nat} (h:Cur w b base K):b<w.heap.size:=by
 obtain ⟨v,k,a,s,B,_⟩:=h;exact World.block_lt_of_cell? _ _ B.1.1
theorem Cur.more {w:World} {b base K K':Nat} (h:Cur w b base K) (hk:K<=K'):Cur w b base K':=by
 obtain ⟨v,k,a,s,B,hc,h1,h2,h3,r⟩:=h;exact ⟨v,k,a,s,B,hc,h1,h2,by omega,r⟩
theorem zBA (b base K:Nat) (n:Int) (w:World) (h:Cur w b base K) (hK:K<=100000000) (n0:1<n) (n1:n<=100000000) :
  Calls Tryz.prog 18 #[.pointer (some ⟨b,0,none⟩),iQ n] w fun e w'=>∃ v:Int,e=.returned (iQ v)/\(0<=v/\v<n)/\Cur w' b base (K+2)/\Only b w w':=by
 have f1:decide (n<=1)=false:=by simp;omega
 by_cases h2:n > 200
 ·have f2:decide (n > 200)=true:=by simp;omega
  go_enter Tryz.func18,Tryz.ntmps18;go_wp2_with fail;refine (zV2 b base K w h (by omega)).mono ?_;rintro e w1 ⟨x,rfl,⟨x0,x1⟩,c1,o1⟩;go_wp2_with fail;refine (zV2 b base (K+1) w1 c1 (by omega)).mono ?_;rintro e w2 ⟨y,rfl,⟨y0,y1⟩,c2,o2⟩;have hm:(x * 256+y).tmod n=(x * 256+y) % n:=Int.tmod_eq_emod_of_nonneg (by omega);have b1:=Int.emod_nonneg (x * 256+y) (show n ≠ 0 by omega);have b2:=Int.emod_lt_of_pos (x * 256+y) (show 0<n by omega);go_wp2_with fail;go_ret;exact ⟨_,rfl,⟨b1,b2⟩,c2,o1.trans o2⟩
 ·have f2:decide (n > 200)=false:=by simp;omega
  go_enter Tryz.func18,Tryz.ntmps18;go_wp2_with fail;refine (zV2 b base K w h (by omega)).mono ?_;rintro e w1 ⟨x,rfl,⟨x0,x1⟩,c1,o1⟩;have b1:=Int.emod_nonneg x (show n ≠ 0 by omega);have b2:=Int.emod_lt_of_pos x (show 0<n by omega);go_wp2_with fail;go_ret;exact ⟨_,rfl,⟨b1,b2⟩,c1.more (by omega),o1⟩
theorem oneC (b base K:Nat) (n:Int) (w:World) (h:Cur w b base K) (hK:K<=100000000) (n0:1<n) (n1:n<=100000000) :
  Calls Tryz.prog 17 #[.pointer (some ⟨b,0,none⟩),iQ n] w fun e w'=>∃ v:Bool,e=.returned (.bool v)/\Cur w' b base (K+2)/\Only b w w':=by
 go_enter Tryz.func17,Tryz.ntmps17;go_wp2_with fail;refine (zBA b base K n w h hK n0 n1).mono ?_;rintro e w1 ⟨x,rfl,_,c1,o1⟩;go_wp2_with fail;go_ret;exact ⟨_,rfl,c1,o1⟩
theorem wideC (b base K:Nat) (w:World) (h:Cur w b base K) (hK:K<=10000000) :
  Calls Tryz.prog 59 #[.pointer (some ⟨b,0,none⟩)] w fun e w'=>∃ v:Int,e=.returned (.int .u64 v)/\(0<=v/\v<18446744073709551616)/\Cur w' b base (K+8)/\Only b w w':=by
 go_enter Tryz.func59,Tryz.ntmps59;go_wp2_with fail;go_loopw [3,4] (fun a i wr=>∃ (k:Nat) (x:Int),k<=8/\i=.int .i64 k/\a=.int .u64 x/\0<=x/\x<18446744073709551616/\Cur wr b base (K+k)/\Only b w wr) (fun _ i _=>8 - (intOf i).toNat)
 case atStart=>exact ⟨0,0,by omega,rfl,rfl,by omega,by omega,h,Only.refl b w⟩
 case round =>
  obtain ⟨k,x,hk,rfl,rfl,x0,x1,c,o⟩:=hrel;by_cases hlt:k<8
  ·have hlt':(k:Int)<8:=by omega
   go_wp2_with fail;refine (zV2 b base (K+k) wr c (by omega)).mono ?_;rintro e w2 ⟨y,rfl,⟨y0,y1⟩,c2,o2⟩;have wy:IntKind.u64.wrap y=y:=by rw [IntKind.wrap_u64];omega
   have wz:0<=IntKind.u64.wrap (x * 256)/\IntKind.u64.wrap (x * 256)<18446744073709551616:=by rw [IntKind.wrap_u64];omega
   have oz:=or_fits (IntKind.u64.wrap (x * 256)) y wz.1 wz.2 y0 (by omega);have HO:=hid oz;clear wz oz;go_wp2_with fail;go_roundw
   case rel=>exact ⟨k+1,_,by omega,by go_num,rfl,HO.out.1,HO.out.2,c2,o.trans o2⟩
   case measure=>simp [intOf];omega
  ·obtain rfl:k=8:=by omega
   go_wp2_with fail;go_ret;exact ⟨x,rfl,⟨x0,x1⟩,c,o⟩
end Go.Proofs.YtjlojlgdkfpcdaaGreatDoor

namespace Go.Proofs.YtjlojlgdkfpcdaaGreatDoor
open Go.ChangeShapes Go.WideShapes Go.ChangeAt Go.RowKit
theorem zS8 {H:Type} {enc:TypeId × Value->H} {P:Program} {t e:TypeId} (ht:P.underlying t=some (.slice e)) (he:P.underlying e=some (.int .u8)) (hc:P.cellsOf e=1) {W:World} {base:Nat} {v:Value} {d:DataW H} {p:List MemPlace}
  (hv:Value.okWide P W .any base t v) (h:DataW.Trod enc P W 0 (fun _=>true) true t v d p):∃ n,zCP W W.heap.size v n:=by
 obtain ⟨a0,len,cap,rfl⟩:=okWide_slice ht hv;obtain ⟨fuel,hf⟩:=h
 rcases open_ints ht he hc hf with ⟨hcs,hx⟩ | ⟨a,len',cap',zs,hcs,_,hl,hm,hz,hx,hcell,hwz⟩
 ·simp [Value.cells] at hcs;obtain ⟨rfl,rfl,rfl⟩:=hcs;exact ⟨0,.inl ⟨⟨_,_,rfl⟩,rfl⟩⟩
 ·simp [Value.cells] at hcs;obtain ⟨rfl,rfl,rfl⟩:=hcs;simp only [if_true] at hz;by_cases h0:len=0
  ·subst h0;exact ⟨0,.inl ⟨⟨_,_,rfl⟩,rfl⟩⟩
  ·obtain ⟨pb,po,sp⟩:=a;have hc0:=hcell 0 (by omega);have hsp:sp=none:=by simpa [Addr.add] using World.cell?_spot hc0
   subst hsp;have hlt:pb<W.heap.size:=by
    have:=World.block_lt_of_cell? _ _ hc0;simpa [Addr.add] using this
   refine ⟨len,.inr ⟨pb,po,cap,hlt,rfl,hl,fun i hi=>?_⟩⟩;have hci:=hcell i (by omega);have hi':i<zs.length:=by omega
   have hmem:zs.getD i 0 ∈ zs:=by
    rw [List.getD,List.getElem?_eq_getElem hi',Option.getD_some];exact List.getElem_mem hi'
   have hw:=hwz _ hmem;have b1:IntKind.u8.min=0:=rfl;have b2:IntKind.u8.max=255:=rfl;simp only [Lit.wf,Bool.and_eq_true,decide_eq_true_eq] at hw;refine ⟨zs.getD i 0,by omega,by omega,?_⟩;rw [<- hci];unfold Addr.add
   split
   ·next e=>subst e;rfl
   ·rfl
end Go.Proofs.YtjlojlgdkfpcdaaGreatDoor

namespace Go.Proofs.YtjlojlgdkfpcdaaGreatDoor
open Go.RowKit
theorem Only.setNew {b g i:Nat} {w w':World} (h:Only b w w') (hg:w.heap.size<=g) (u:Value):Only b w (w'.setCell ⟨g,i,none⟩ u):=by
 refine ⟨h.os,h.tape,h.output,?_,fun k hk hl=>?_⟩
 ·have:=h.size;simpa [World.setCell] using this
 ·rw [Below.heap_setCell _ _ _ _ (by show k ≠ g;omega)];exact h.block k hk hl
theorem zI5 {b g i j:Nat} (h:b ≠ g):(⟨g,i,none⟩:Addr) ≠ ⟨b,j,none⟩:=fun e=>h (by cases e;rfl)
theorem Box3.farc {w:World} {b g i:Nat} {v0 v1 v2:Value} (h:Box3 w b v0 v1 v2) (hb:b ≠ g) (u:Value):Box3 (w.setCell ⟨g,i,none⟩ u) b v0 v1 v2:=by
 obtain ⟨⟨q0,q1,q2⟩,f0,f1,f2⟩:=h;refine ⟨⟨?_,?_,?_⟩,?_,?_,?_⟩
 ·rw [World.cell?_setCell_other _ _ _ _ (zI5 hb)];exact q0
 ·rw [World.cell?_setCell_other _ _ _ _ (zI5 hb)];exact q1
 ·rw [World.cell?_setCell_other _ _ _ _ (zI5 hb)];exact q2
 ·simp [World.frozen?_setCell,f0]
 ·simp [World.frozen?_setCell,f1]
 ·simp [World.frozen?_setCell,f2]
theorem Cur.far {w:World} {b base K g i:Nat} (h:Cur w b base K) (hb:b ≠ g) (hg:base<=g) (u:Value):Cur (w.setCell ⟨g,i,none⟩ u) b base K:=by
 obtain ⟨v,k,a,s,B,hc,r⟩:=h;exact ⟨v,k,a,s,B.farc hb u,hc.only (b:=g) ((Only.refl g w).set u) hg,r⟩
theorem Cur.made (w:World) (v:Value) (n base:Nat) (t:TypeId) (hc:zCP w base v n) (hn:n<=1048576) (hb:base<=w.heap.size):Cur (w.alloc (.cells #[v,iQ 0,.int .u64 0] t)) w.heap.size base 0:=
 ⟨v,n,0,0,Box3.made w _ _ _ _,hc.only (b:=w.heap.size) (Only.of_ext (x1 _ _)) hb,hn,by omega,by omega,by omega,by omega,hb⟩
abbrev valV (k:Int) (n:Bool) (d x:Int) (t:List UInt8):Value:=.agg #[iQ k,.bool n,iQ d,iQ x,sV t]
abbrev valL (k:Int) (n:Bool) (d x:Int) (t:List UInt8):List Value:=[iQ k,.bool n,iQ d,iQ x,sV t]
def zE7 (n:Bool) (d x:Int):Bool:=!n && decide (d=0) && decide (x=0)
def zAR (k:Int) (n:Bool) (d x:Int) (t:List UInt8):Bool:=
 if k=1 then zA1 n d x && (t == []) else
 zE7 n d x && (if k=0 then t == [] else if k=2 then zE4 1000 t else if k=3 then zQ9 t else if k=4 then memB errL t else false)
theorem zT4 (k:Int) (n:Bool) (d x:Int) (t:List UInt8) (w:World) (hl:t.length<=2000000) (d1 : -9223372036854775808<=d) (d2:d<=9223372036854775807) (hT:Tens w) (hE:zE6 w) :
  Calls Tryz.prog 34 #[valV k n d x t] w fun e w'=>e=.returned (.bool (zAR k n d x t))/\Ext w w':=by
 have X0:=x1 w (.cells #[iQ k,.bool n,iQ d,iQ x,sV t] 33);have B:=zA2 w (valL k n d x t) 33;have T1:=hT.l X0;have E1:=hE.l X0;obtain ⟨p,hp⟩:=nm ((t == []));clear hT hE;by_cases h1:k=1
 ·subst h1;have C:=fun W (X:Ext (w.alloc (.cells #[iQ 1,.bool n,iQ d,iQ x,sV t] 33)) W)=>zVS n d x W d1 d2 (T1.l X);have e:zAR 1 n d x t=(zA1 n d x && p):=by simp [zAR,hp]
  rw [e];obtain ⟨q,hq⟩:=nm (zA1 n d x);rw [hq] at C ⊢;clear e hq d1 d2;cases q
  ·go_enter Tryz.func34,Tryz.ntmps34;go_wp2_with (go_at_call 66;refine (C _ (xr _)).mono ?_;rintro e w1 ⟨rfl,e1⟩);go_ret;exact ⟨rfl,xt X0 e1⟩
  ·cases p
   all_goals
    go_enter Tryz.func34,Tryz.ntmps34;go_wp2_with (go_at_call 66;refine (C _ (xr _)).mono ?_;rintro e w1 ⟨rfl,e1⟩;have a4:=((B.l e1) 4 _ rfl).1);go_ret;exact ⟨rfl,xt X0 e1⟩
 ·by_cases hz:zE7 n d x=true
  ·obtain ⟨rfl,rfl,rfl⟩:n=false/\d=0/\x=0:=by simpa [zE7,and_assoc] using hz
   clear hz d1 d2 T1;by_cases h0:k=0
   ·subst h0;have e:zAR 0 false 0 0 t=p:=(by simp [zAR,zE7,hp]);rw [e];clear e;cases p
    all_goals
     go_enter Tryz.func34,Tryz.ntmps34;go_wp2_with fail;go_ret;exact ⟨rfl,X0⟩
   ·clear hp;by_cases h2:k=2
    ·subst h2;have C:=fun W=>plainI t W hl;have e:zAR 2 false 0 0 t=(zBW t && decide ((t.length:Int)<=1000)):=by
      have e2:decide (t.length<=1000)=decide ((t.length:Int)<=1000):=decide_eq_decide.2 (by omega);simp [zAR,zE7,zE4,zBW,e2]
     rw [e];obtain ⟨m,hm⟩:=nm (t.length);have hs:(⟨t.toArray⟩:ByteArray).size=m:=hm;rw [hm] at hl ⊢;obtain ⟨q,hq⟩:=nm (zBW t);rw [hq] at C ⊢;clear e hq hm h0 h1;cases q
     all_goals
      go_enter Tryz.func34,Tryz.ntmps34;go_wp2_with (go_at_call 67;refine (C _).mono ?_;rintro e w1 ⟨rfl,rfl⟩);go_ret;exact ⟨zA5 (by simp),X0⟩
    ·by_cases h3:k=3
     ·subst h3;have C:=fun W=>boolI t W;have e:zAR 3 false 0 0 t=zQ9 t:=(by simp [zAR,zE7]);rw [e];clear e h0 h1 h2;go_enter Tryz.func34,Tryz.ntmps34;go_wp2_with (go_at_call 68;refine (C _).mono ?_;rintro e w1 ⟨rfl,rfl⟩);go_ret;exact ⟨rfl,X0⟩
     ·by_cases h4:k=4
      ·subst h4;have C:=errI t _ E1;have e:zAR 4 false 0 0 t=memB errL t:=(by simp [zAR,zE7]);rw [e];clear e h0 h1 h2 h3;go_enter Tryz.func34,Tryz.ntmps34;go_wp2_with (go_at_call 69;refine C.mono ?_;rintro e w1 ⟨rfl,rfl⟩);go_ret;exact ⟨rfl,X0⟩
      ·have e:zAR k false 0 0 t=false:=(by simp [zAR,zE7,h0,h1,h2,h3,h4]);rw [e];clear e;go_enter Tryz.func34,Tryz.ntmps34;go_wp2_with fail;go_ret;exact ⟨rfl,X0⟩
  ·have e:zAR k n d x t=false:=by simp only [Bool.not_eq_true] at hz;simp [zAR,hz,h1]
   rw [e];clear e hp B T1 E1 hl;have hz':n=true\/(n=false/\(d ≠ 0\/(d=0/\x ≠ 0))):=by
    cases n
    ·right;refine ⟨rfl,?_⟩;by_cases hd:d=0
     ·right;refine ⟨hd,fun hx=>hz ?_⟩;simp [zE7,hd,hx]
     ·exact Or.inl hd
    ·exact Or.inl rfl
   clear hz
   rcases hz' with rfl | ⟨rfl,hd | ⟨rfl,hx⟩⟩
   all_goals
    go_enter Tryz.func34,Tryz.ntmps34;go_wp2_with fail;go_ret;exact ⟨rfl,X0⟩
theorem goodVS (k:Int) (n:Bool) (d x:Int) (t:List UInt8) (w:World) (hl:t.length<=2000000) :
  Calls Tryz.prog 37 #[valV k n d x t] w fun e w'=>e=.returned (.bool (zAR k n d x t))/\Ext w w':=by
 have X0:=x1 w (.cells #[iQ k,.bool n,iQ d,iQ x,sV t] 33);have B:=zA2 w (valL k n d x t) 33;obtain ⟨p,hp⟩:=nm ((t == []));by_cases h1:k=1
 ·subst h1;have C:=fun W=>zVR n d x W;have e:zAR 1 n d x t=(zA1 n d x && p):=by simp [zAR,hp]
  rw [e];obtain ⟨q,hq⟩:=nm (zA1 n d x);rw [hq] at C ⊢;clear e hq;cases p
  ·go_enter Tryz.func37,Tryz.ntmps37;go_wp2_with fail;go_ret;exact ⟨zA5 (by simp),X0⟩
  ·go_enter Tryz.func37,Tryz.ntmps37;go_wp2_with (go_at_call 76;refine (C _).mono ?_;rintro e w1 ⟨rfl,e1⟩);go_ret;exact ⟨zA5 (by simp),xt X0 e1⟩
 ·by_cases hz:zE7 n d x=true
  ·obtain ⟨rfl,rfl,rfl⟩:n=false/\d=0/\x=0:=by simpa [zE7,and_assoc] using hz
   clear hz;by_cases h0:k=0
   ·subst h0;have e:zAR 0 false 0 0 t=p:=(by simp [zAR,zE7,hp]);rw [e];clear e;cases p
    all_goals
     go_enter Tryz.func37,Tryz.ntmps37;go_wp2_with fail;go_ret;exact ⟨rfl,X0⟩
   ·clear hp;by_cases h2:k=2
    ·subst h2;have C:=fun W=>printS 1000 t W hl;have e:zAR 2 false 0 0 t=zE4 1000 t:=(by simp [zAR,zE7]);rw [e];clear e h0 h1;go_enter Tryz.func37,Tryz.ntmps37;go_wp2_with (go_at_call 77;refine (C _).mono ?_;rintro e w1 ⟨rfl,rfl⟩);go_ret;exact ⟨rfl,X0⟩
    ·by_cases h3:k=3
     ·subst h3;obtain ⟨p,hp⟩:=nm ((t == [84,82,85,69]));obtain ⟨q,hq⟩:=nm ((t == [70,65,76,83,69]));have e:zAR 3 false 0 0 t=(p || q):=(by simp only [zAR,zE7,zQ9,hp,hq];rfl);rw [e];clear e h0 h1 h2;cases p <;> cases q
      all_goals
       go_enter Tryz.func37,Tryz.ntmps37;go_wp2_with fail;go_ret;exact ⟨rfl,X0⟩
     ·by_cases h4:k=4
      ·subst h4;have C:=fun W=>zTC W;have D:=fun g W V=>inS errL t g 9 W (by decide) V;have e:zAR 4 false 0 0 t=memB errL t:=(by simp [zAR,zE7]);rw [e];clear e h0 h1 h2 h3;go_enter Tryz.func37,Tryz.ntmps37;go_wp2_with fail;go_region_with (first
        | (go_at_call 63;refine (C _).mono ?_;rintro e w1 ⟨g,rfl,V,e1⟩;have a4:=((B.l (xt (xd (xr _)) e1)) 4 _ rfl).1)
        | (go_at_call 78;refine (D g _ V).mono ?_;rintro e w2 ⟨rfl,rfl⟩))
       all_goals
        go_wp2_with fail;go_ret;exact ⟨rfl,xt (xd X0) e1⟩
      ·have e:zAR k false 0 0 t=false:=(by simp [zAR,zE7,h0,h1,h2,h3,h4]);rw [e];clear e;go_enter Tryz.func37,Tryz.ntmps37;go_wp2_with fail;go_ret;exact ⟨rfl,X0⟩
  ·have e:zAR k n d x t=false:=by simp only [Bool.not_eq_true] at hz;simp [zAR,hz,h1]
   rw [e];clear e B hl;have hz':n=true\/(n=false/\(d ≠ 0\/(d=0/\x ≠ 0))):=by
    cases n
    ·right;refine ⟨rfl,?_⟩;by_cases hd:d=0
     ·right;refine ⟨hd,fun hx=>hz ?_⟩;simp [zE7,hd,hx]
     ·exact Or.inl hd
    ·exact Or.inl rfl
   clear hz;by_cases h0:k=0
   ·subst h0;cases p
    all_goals rcases hz' with rfl | ⟨rfl,hd | ⟨rfl,hx⟩⟩
    all_goals
     go_enter Tryz.func37,Tryz.ntmps37;go_wp2_with fail;go_ret;exact ⟨rfl,X0⟩
   ·clear hp
    rcases hz' with rfl | ⟨rfl,hd | ⟨rfl,hx⟩⟩
    all_goals
     go_enter Tryz.func37,Tryz.ntmps37;go_wp2_with fail;go_ret;exact ⟨rfl,X0⟩
def setL (w:World) (b:Nat):Nat->List Value->World
 | _,[]=>w
 | o,v :: vs=>setL (w.setCell ⟨b,o,none⟩ v) b (o+1) vs
theorem Vec.farL {b k:Nat} {l:List Value} (hk:k ≠ b):∀ (us:List Value) (o:Nat) {w:World},Vec w b l->Vec (setL w k o us) b l
 | [],_,_,h=>h
 | u :: us,o,_,h=>Vec.farL hk us (o+1) (h.far hk u)
theorem Ext.setL {a:World} {b:Nat} (hb:a.heap.size<=b):∀ (us:List Value) (o:Nat) {w:World},Ext a w->Ext a (setL w b o us)
 | [],_,_,h=>h
 | u :: us,o,_,h=>Ext.setL hb us (o+1) (xset h hb u)
theorem Vec.put5 {w:World} {b:Nat} {v0 v1 v2 v3 v4:Value} (h:Vec w b [v0,v1,v2,v3,v4]) (u0 u1 u2 u3 u4:Value):Vec (setL w b 0 [u0,u1,u2,u3,u4]) b [u0,u1,u2,u3,u4]:=
 ((((h.put 0 (by simp) u0).put 1 (by simp) u1).put 2 (by simp) u2).put 3 (by simp) u3).put 4 (by simp) u4
abbrev errT:List UInt8:=[35,86,65,76,85,69,33]
abbrev zQM:List UInt8:=[84,82,85,69]
abbrev zLJ:List UInt8:=[70,65,76,83,69]
abbrev boolW (b:Bool):Value:=valV 3 false 0 0 (if b then zQM else zLJ)
abbrev errW:Value:=valV 4 false 0 0 errT
theorem textVI (l:List UInt8) (w:World):Calls Tryz.prog 123 #[sV l] w fun e w'=>e=.returned (valV 2 false 0 0 l)/\Ext w w':=by
 go_enter Tryz.func123,Tryz.ntmps123
 go_wp2
 exact bodyPost_ret (v:=valV 2 false 0 0 l) (by simp [results,Tryz.results123,go_sem]) rfl ⟨rfl,by first | exact x1 _ _ | exact xa (x1 _ _) _⟩
theorem zIN (l:List UInt8) (w:World):Calls Tryz.prog 60 #[sV l] w fun e w'=>e=.returned (valV 2 false 0 0 l)/\Ext w w':=by
 go_enter Tryz.func60,Tryz.ntmps60
 go_wp2
 exact bodyPost_ret (v:=valV 2 false 0 0 l) (by simp [results,Tryz.results60,go_sem]) rfl ⟨rfl,by first | exact x1 _ _ | exact xa (x1 _ _) _⟩
theorem errVI (l:List UInt8) (w:World):Calls Tryz.prog 122 #[sV l] w fun e w'=>e=.returned (valV 4 false 0 0 l)/\Ext w w':=by
 go_enter Tryz.func122,Tryz.ntmps122
 go_wp2
 exact bodyPost_ret (v:=valV 4 false 0 0 l) (by simp [results,Tryz.results122,go_sem]) rfl ⟨rfl,by first | exact x1 _ _ | exact xa (x1 _ _) _⟩
theorem zVX (l:List UInt8) (w:World):Calls Tryz.prog 62 #[sV l] w fun e w'=>e=.returned (valV 4 false 0 0 l)/\Ext w w':=by
 go_enter Tryz.func62,Tryz.ntmps62
 go_wp2
 exact bodyPost_ret (v:=valV 4 false 0 0 l) (by simp [results,Tryz.results62,go_sem]) rfl ⟨rfl,by first | exact x1 _ _ | exact xa (x1 _ _) _⟩
theorem numVI (n:Bool) (d x:Int) (w:World):Calls Tryz.prog 126 #[decV n d x] w fun e w'=>e=.returned (valV 1 n d x [])/\Ext w w':=by
 go_enter Tryz.func126,Tryz.ntmps126
 go_wp2
 exact bodyPost_ret (v:=valV 1 n d x []) (by simp [results,Tryz.results126,go_sem]) rfl ⟨rfl,by first | exact x1 _ _ | exact xa (x1 _ _) _⟩
theorem zSC (n:Bool) (d x:Int) (w:World):Calls Tryz.prog 28 #[decV n d x] w fun e w'=>e=.returned (valV 1 n d x [])/\Ext w w':=by
 go_enter Tryz.func28,Tryz.ntmps28
 go_wp2
 exact bodyPost_ret (v:=valV 1 n d x []) (by simp [results,Tryz.results28,go_sem]) rfl ⟨rfl,by first | exact x1 _ _ | exact xa (x1 _ _) _⟩
theorem boolVS (b:Bool) (w:World):Calls Tryz.prog 61 #[.bool b] w fun e w'=>e=.returned (boolW b)/\Ext w w':=by
 cases b
 ·go_enter Tryz.func61,Tryz.ntmps61
  go_wp2
  exact bodyPost_ret (v:=valV 3 false 0 0 zLJ) (by simp [results,Tryz.results61,go_sem,zLJ]) rfl ⟨rfl,x1 _ _⟩
 ·go_enter Tryz.func61,Tryz.ntmps61
  go_wp2
  exact bodyPost_ret (v:=valV 3 false 0 0 zQM) (by simp [results,Tryz.results61,go_sem,zQM]) rfl ⟨rfl,x1 _ _⟩
theorem zPP {k:Int} {n:Bool} {d x:Int} {t:List UInt8} (h:zAR k n d x t=true) (h1:k ≠ 1):n=false/\d=0/\x=0:=by
 simp only [zAR,h1,if_false,Bool.and_eq_true] at h;have:=h.1;simpa [zE7,and_assoc] using this
theorem zMG {n:Bool} {d x:Int} {t:List UInt8} (h:zAR 0 n d x t=true):t=[]:=by simpa [zAR] using (show _/\_ by simpa [zAR] using h).2
end Go.Proofs.YtjlojlgdkfpcdaaGreatDoor

namespace Go.Proofs.YtjlojlgdkfpcdaaGreatDoor
def lv:List Int->Int
 | []=>0
 | x :: xs=>x+1000000000 * lv xs
def Lim (xs:List Int):Prop:=∀ x ∈ xs,0<=x/\x<1000000000
theorem Lim.nil:Lim []:=fun _ h=>by cases h
theorem Lim.cons {x:Int} {xs:List Int} (h0:0<=x) (h1:x<1000000000) (h:Lim xs):Lim (x :: xs):=fun y hy=>by
 rcases List.mem_cons.1 hy with rfl | hy
 ·exact ⟨h0,h1⟩
 ·exact h y hy
theorem Lim.head {x:Int} {xs:List Int} (h:Lim (x :: xs)):0<=x/\x<1000000000:=h x (by simp)
theorem Lim.tail {x:Int} {xs:List Int} (h:Lim (x :: xs)):Lim xs:=fun y hy=>h y (by simp [hy])
theorem Lim.app {xs ys:List Int} (h:Lim xs) (k:Lim ys):Lim (xs++ys):=fun y hy=>by
 rcases List.mem_append.1 hy with hy | hy
 ·exact h y hy
 ·exact k y hy
theorem Lim.take {xs:List Int} (h:Lim xs) (n:Nat):Lim (xs.take n):=fun y hy=>h y (List.mem_of_mem_take hy)
theorem Lim.drop {xs:List Int} (h:Lim xs) (n:Nat):Lim (xs.drop n):=fun y hy=>h y (List.mem_of_mem_drop hy)
theorem Lim.getD {xs:List Int} (h:Lim xs) (i:Nat):0<=xs.getD i 0/\xs.getD i 0<1000000000:=by
 by_cases hi:i<xs.length
 ·rw [List.getD_eq_getElem?_getD,List.getElem?_eq_getElem hi];exact h _ (List.getElem_mem hi)
 ·rw [List.getD_eq_getElem?_getD,List.getElem?_eq_none (by omega)];simp
theorem zCY:∀ {xs:List Int},Lim xs->0<=lv xs
 | [],_=>by simp [lv]
 | x :: xs,h=>by
  have:=zCY h.tail;have:=h.head;simp only [lv];omega
theorem zL1:∀ (xs ys:List Int),lv (xs++ys)=lv xs+1000000000 ^ xs.length * lv ys
 | [],ys=>by simp [lv]
 | x :: xs,ys=>by
  simp only [List.cons_append,lv,zL1 xs ys,List.length_cons,Int.pow_succ];rw [Int.mul_add,Int.mul_comm (1000000000 ^ xs.length) 1000000000,<- Int.mul_assoc];omega
theorem zL0:∀ {xs:List Int},Lim xs->lv xs<1000000000 ^ xs.length
 | [],_=>by simp [lv]
 | x :: xs,h=>by
  have:=zL0 h.tail;have:=h.head;simp only [lv,List.length_cons,Int.pow_succ];omega
theorem zDX (n:Nat):(0:Int)<1000000000 ^ n:=Int.pow_pos (by decide)
theorem zPK {xs:List Int} (h:Lim xs) (hn:0<xs.length) (ht:xs.getD (xs.length - 1) 0 ≠ 0):1000000000 ^ (xs.length - 1)<=lv xs:=by
 obtain ⟨ys,y,rfl⟩:∃ ys y,xs=ys++[y]:=⟨xs.dropLast,xs.getLast (by intro e;simp [e] at hn),(List.dropLast_concat_getLast _).symm⟩;have h1:(ys++[y]).getD ((ys++[y]).length - 1) 0=y:=by simp
 rw [h1] at ht;have hy:=h y (by simp);have h0:=zCY (fun z hz=>h z (by simp [hz]):Lim ys);rw [zL1];simp only [List.length_append,List.length_singleton,Nat.add_sub_cancel,lv];have hp:=zDX ys.length;have:(1000000000:Int) ^ ys.length * 1<=1000000000 ^ ys.length * (y+1000000000 * 0):=Int.mul_le_mul_of_nonneg_left (by omega) (by omega);omega
theorem zEF {xs:List Int} {k:Nat} (h:Lim xs) (ht:xs.length=0\/xs.getD (xs.length - 1) 0 ≠ 0) (hk:lv xs<1000000000 ^ k):xs.length<=k:=by
 rcases ht with ht | ht
 ·omega
 ·by_cases hn:xs.length<=k
  ·exact hn
  ·have h1:=zPK h (by omega) ht;have h2:(1000000000:Int) ^ k<=1000000000 ^ (xs.length - 1):=by
    have:=Nat.pow_le_pow_right (n:=1000000000) (by decide) (show k<=xs.length - 1 by omega);have h3:((1000000000 ^ k:Nat):Int)<=((1000000000 ^ (xs.length - 1):Nat):Int):=(by exact_mod_cast this);simpa using h3
   omega
theorem zD6 (xs:List Int) (i:Nat) (h:i<xs.length):lv (xs.take (i+1))=lv (xs.take i)+1000000000 ^ i * xs.getD i 0:=by
 rw [List.take_succ_eq_append_getElem h,zL1];simp [lv,List.length_take,Nat.min_eq_left (Nat.le_of_lt h),h]
theorem zHQ:∀ (xs:List Int) (i:Nat) (v:Int),i<xs.length->lv (xs.set i v)=lv xs+1000000000 ^ i * (v - xs.getD i 0)
 | [],_,_,h=>by simp at h
 | x :: xs,0,v,_=>by simp [lv];omega
 | x :: xs,i+1,v,h=>by
  have:=zHQ xs i v (by simpa using h);simp only [List.set_cons_succ,lv,this,List.getD_cons_succ,Int.pow_succ];rw [Int.mul_add,Int.mul_comm (1000000000 ^ i) 1000000000,Int.mul_assoc];omega
theorem zBY {xs:List Int} {i j:Nat} {v:Int} (h:i<xs.length):(xs.set i v).getD j 0=if j=i then v else xs.getD j 0:=by
 simp only [List.getD_eq_getElem?_getD,List.getElem?_set];by_cases e:i=j
 ·subst e;simp [h]
 ·rw [if_neg e,if_neg (fun h=>e h.symm)]
theorem Lim.set {xs:List Int} (h:Lim xs) (i:Nat) {v:Int} (h0:0<=v) (h1:v<1000000000):Lim (xs.set i v):=fun y hy=>by
 rcases List.mem_or_eq_of_mem_set hy with hy | rfl
 ·exact h y hy
 ·exact ⟨h0,h1⟩
theorem zB2 (n:Nat):lv (List.replicate n 0)=0:=by
 induction n with
 | zero=>rfl
 | succ n ih=>simp [List.replicate_succ,lv,ih]
theorem Lim.zeros (n:Nat):Lim (List.replicate n 0):=fun y hy=>by
 rw [List.eq_of_mem_replicate hy];decide
theorem zB9 (n i:Nat):(List.replicate n (0:Int)).getD i 0=0:=by
 simp only [List.getD_eq_getElem?_getD,List.getElem?_replicate]
 split <;> rfl
end Go.Proofs.YtjlojlgdkfpcdaaGreatDoor

