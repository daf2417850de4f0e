/-
  Several texts in one: Kx, FrameQ, Sb0, Num, CmpNum, PutN, PutM, ImA.
-/
import Derived.Test.YtjlojlgdkfpcdaaGreatDoorMg3
import Derived.Test.YtjlojlgdkfpcdaaGreatDoorShelf
import Derived.Test.YtjlojlgdkfpcdaaGreatDoorShelb
import Derived.Laws.IdiomStrings
import Derived.Lib.IndexMore
import Derived.Deep.MidRow
import Derived.Test.YtjlojlgdkfpcdaaGreatDoorMg1
import Derived.Stop.LaidErr
import Derived.Test.YtjlojlgdkfpcdaaGreatDoorMg0
import Derived.Lib.ItoaNum
import Derived.Laws.Externs
import Derived.Shelf.Spec.BitsCarry
namespace Go.Proofs.YtjlojlgdkfpcdaaGreatDoor
open Go.RowKit
def aheadV:List Value:=[.int .u16 0,.int .u16 1,.int .u16 3,.int .u16 7,.int .u16 8,.int .u16 16,.int .u16 48,.int .u16 104,.int .u16 3,.int .u16 488,.int .u16 1000]
def TabK (w:World):Prop:=(∃ m,w.cell? ⟨4,0,none⟩=some (.int .i64 m))∧w.rangeAt 0 0 aheadV∧w.rangeAt 3 0 marksV
theorem TabK.later {w w':World} (h:TabK w) (x:Ext w w'):TabK w':=by
 obtain ⟨⟨m,a⟩,b,c⟩:=h;exact ⟨⟨m,cell_later x a⟩,fun i v hv=>cell_later x (b i v hv),fun i v hv=>cell_later x (c i v hv)⟩
theorem fCutPrefixK:layCutPrefix_ren.f 103=26:=by kernel_rfl
theorem fTrimLeftK:layTrimLeft_ren.f 161=163:=by kernel_rfl
theorem fTrimPrefixK:layTrimPrefix_ren.f 101=105:=by kernel_rfl
theorem fTrimK:layTrim_ren.f 160=108:=by kernel_rfl
theorem fCutK:layCut_ren.f 145=161:=by kernel_rfl
theorem gMaxLenK:layCut_ren.g 1=4:=by kernel_rfl
theorem cutPrefixK (l:BL) (c:UInt8) (w:World) :
  Calls Tryz.prog 26 #[sV l,sV [c]] w fun e w'=>e=.returned (.tuple #[sV (Lib.trimPrefix l [c]),.bool (Lib.hasPrefix l [c])])∧w'=w:=by
 have h:=Any.strings_CutPrefix layCutPrefix ⟨l.toArray⟩ ⟨#[c]⟩ w;rw [fCutPrefixK] at h;exact h
theorem trimPrefixK (l:BL) (w:World) :
  Calls Tryz.prog 105 #[sV l,sV [35,44]] w fun e w'=>e=.returned (sV (Lib.trimPrefix l [35,44]))∧w'=w:=by
 have h:=Any.strings_TrimPrefix layTrimPrefix ⟨l.toArray⟩ ⟨#[35,44]⟩ w;rw [fTrimPrefixK] at h;exact h
theorem trimLeftK (l:BL) (c:UInt8) (hc:c=48∨c=46∨c=35∨c=37) (w:World) :
  Calls Tryz.prog 163 #[sV l,sV [c]] w fun e w'=>e=.returned (sV (Lib.trimLeftS l [c]))∧Ext w w':=by
 rcases hc with rfl | rfl | rfl | rfl
 ·have h:=Any.strings_TrimLeft_laid layTrimLeft (by kernel_rfl) ⟨l.toArray⟩ ⟨#[48]⟩ w (by decide) (ascii_of_all (by decide));rw [fTrimLeftK] at h;exact h
 ·have h:=Any.strings_TrimLeft_laid layTrimLeft (by kernel_rfl) ⟨l.toArray⟩ ⟨#[46]⟩ w (by decide) (ascii_of_all (by decide));rw [fTrimLeftK] at h;exact h
 ·have h:=Any.strings_TrimLeft_laid layTrimLeft (by kernel_rfl) ⟨l.toArray⟩ ⟨#[35]⟩ w (by decide) (ascii_of_all (by decide));rw [fTrimLeftK] at h;exact h
 ·have h:=Any.strings_TrimLeft_laid layTrimLeft (by kernel_rfl) ⟨l.toArray⟩ ⟨#[37]⟩ w (by decide) (ascii_of_all (by decide));rw [fTrimLeftK] at h;exact h
theorem trimK (l:BL) (w:World) (hl:l.length≤1000) :
  Calls Tryz.prog 108 #[sV l,sV [34]] w fun e w'=>e=.returned (sV (Lib.trimS l [34]))∧Ext w w':=by
 have h:=Any.strings_Trim_laid layTrim (by kernel_rfl) ⟨l.toArray⟩ ⟨#[34]⟩ w (by show l.length≤_;omega) (by decide) (ascii_of_all (by decide));rw [fTrimK] at h;exact h
theorem cutK (l:BL) (w:World) (hl:l.length≤1000) (T:TabK w) :
  Calls Tryz.prog 161 #[sV l,sV [34]] w fun e w'=>e=.returned (.tuple #[sV (Lib.cut l [34]).1,sV (Lib.cut l [34]).2.1,.bool (Lib.cut l [34]).2.2])∧Ext w w':=by
 obtain ⟨⟨m,hm⟩,_,_⟩:=T;have h:=Any.strings_Cut layCut ⟨l.toArray⟩ ⟨#[34]⟩ m w (by show l.length<_;omega) (by rw [gMaxLenK];exact hm);rw [fCutK] at h;exact h.mono fun e w' ⟨he,n,hw⟩=>⟨he,by rw [hw];exact ⟨rfl,rfl,rfl,Nat.le_refl _,fun _ _=>rfl⟩⟩
set_option maxRecDepth 8000 in
set_option maxHeartbeats 1000000 in
theorem prefI (l p:BL) (w:World):Calls Tryz.prog 109 #[sV l,sV p] w fun e w'=>e=.returned (.bool (Lib.hasPrefix l p))∧w'=w:=by
 rw [prefK_iff];have EX:=ext_sub l 0 p.length;rw [Nat.sub_zero,List.drop_zero] at EX;have z1:(⟨l.toArray⟩:ByteArray).size=l.length:=rfl;have z2:(⟨p.toArray⟩:ByteArray).size=p.length:=rfl;obtain ⟨b,hb⟩:∃ b,(l.take p.length == p)=b:=⟨_,rfl⟩;have HB:((⟨(l.take p.length).toArray⟩:ByteArray).toList == (⟨p.toArray⟩:ByteArray).toList)=b:=by rw [ByteArray.toList_eq,ByteArray.toList_eq];exact hb
 rw [hb];show Calls Tryz.prog 109 #[.string ⟨l.toArray⟩,.string ⟨p.toArray⟩] w _;obtain ⟨s,hs⟩:∃ s,(⟨l.toArray⟩:ByteArray)=s:=⟨_,rfl⟩;obtain ⟨t,ht⟩:∃ s,(⟨p.toArray⟩:ByteArray)=s:=⟨_,rfl⟩;obtain ⟨x,hx⟩:∃ x,(⟨(l.take p.length).toArray⟩:ByteArray)=x:=⟨_,rfl⟩;obtain ⟨n,hn⟩:∃ n,l.length=n:=⟨_,rfl⟩;obtain ⟨k,hk⟩:∃ n,p.length=n:=⟨_,rfl⟩;rw [hs] at EX z1 ⊢;rw [ht] at z2 HB ⊢;rw [hx] at EX HB;rw [hn] at z1 ⊢;rw [hk] at z2 EX ⊢;clear hb hs ht hx hn hk;by_cases h:k≤n
 ·have i1:(k:Int)≤(n:Int):=by omega
  have i2:(0:Int)≤(k:Int):=by omega
  rw [decide_eq_true h];cases b
  all_goals
   go_enter Tryz.func109,Tryz.ntmps109;go_wp2_with fail;go_ret
   first | exact ⟨rfl,rfl⟩ | exact ⟨by simp [EX],rfl⟩ | exact ⟨by simp [EX,HB],rfl⟩
 ·have i1:(n:Int)<(k:Int):=by omega
  rw [decide_eq_false h];go_enter Tryz.func109,Tryz.ntmps109;go_wp2_with fail;go_ret;exact ⟨rfl,rfl⟩
theorem hasPrefI (l p:BL) (w:World):Calls Tryz.prog 97 #[sV l,sV p] w fun e w'=>e=.returned (.bool (Lib.hasPrefix l p))∧w'=w:=by
 have H:=prefI l p w;go_enter Tryz.func97,Tryz.ntmps97;go_wp2_with fail;refine H.mono ?_;rintro e w1 ⟨rfl,rfl⟩;go_wp2_with fail;go_ret;exact ⟨rfl,rfl⟩
theorem bits_and_u16_one (a:Nat) (ha:a<65536):bits .and .u16 (a:Int) 1=((a % 2:Nat):Int):=by
 have h1:(BitVec.ofInt 16 (a:Int)).toNat=a:=by
  rw [BitVec.ofInt_natCast,BitVec.toNat_ofNat];exact Nat.mod_eq_of_lt (by omega)
 have h2:(BitVec.ofInt 16 (1:Int)).toNat=1:=by decide
 show IntKind.u16.wrap ((BitVec.ofInt 16 (a:Int) &&& BitVec.ofInt 16 (1:Int)).toNat:Int)=_;rw [BitVec.toNat_and,h1,h2,Nat.and_one_is_mod,IntKind.wrap_u16];omega
set_option maxHeartbeats 1000000 in
theorem hasI (p k:Nat) (hp:p<65536) (hk:k≤12) (w:World):Calls Tryz.prog 53 #[.int .u16 (p:Int),.int .i64 (k:Int)] w fun e w'=>e=.returned (.bool (p / 2 ^ k % 2 == 1))∧w'=w:=by
 have hq:p / 2 ^ k<65536:=Nat.lt_of_le_of_lt (Nat.div_le_self _ _) hp;have hc:((p:Int) / 2 ^ k)=((p / 2 ^ k:Nat):Int):=by rw [Int.natCast_ediv];simp
 have hb:=bits_and_u16_one (p / 2 ^ k) hq;rw [← hc] at hb;have hr:((((p / 2 ^ k) % 2:Nat):Int) == 1)=(p / 2 ^ k % 2 == 1):=by
  rcases Nat.mod_two_eq_zero_or_one (p / 2 ^ k) with h | h <;> rw [h] <;> rfl
 have HB:Hid ((bits BinOp.and IntKind.u16 ((p:Int) / 2 ^ k) 1 == 1)=(p / 2 ^ k % 2 == 1)):=by show _=_;rw [hb,hr]
 clear hb hr hc hq;go_enter Tryz.func53,Tryz.ntmps53;go_wp2_with fail;go_ret;exact ⟨ret_bool HB.out,rfl⟩
end Go.Proofs.YtjlojlgdkfpcdaaGreatDoor

namespace Go.Proofs.YtjlojlgdkfpcdaaGreatDoor
open Go.ChangeShapes Go.WideShapes Go.ChangeAt Go.RowKit
theorem int_of_shapeK {P:Program} {w:World} {g:Nat} {t:TypeId} {zero:Array Value} (h:w.ShapedOpen P) (hg:g<P.globals.size)
  (h0:((begin P (fun _ _=>0) default).world.heap[g]?).bind Obj.row?=some (zero,t)) (hz:zero.size=1)
  (hb:P.buildable t=true) (hc:P.cellTypes P.depth t=some [t]) (hu:P.underlying t=some (.int .i64)):∃ m,w.cell? ⟨g,0,none⟩=some (.int .i64 m):=by
 obtain ⟨cs,hh,hs,hr⟩:=h.1 g zero t hg h0;obtain ⟨ts,hts,_,hall⟩:=hr hb;rw [hc] at hts;cases hts;have h1:0<cs.size:=by omega
 obtain ⟨u,hu',hok⟩:=hall 0 cs[0] (by simp [h1]);have:u=t:=by simpa using hu'.symm
 subst this;have hcell:w.cell? ⟨g,0,none⟩=some cs[0]:=by simp [World.cell?,hh,h1]
 rw [hcell];unfold Cell.ok at hok;rw [hu] at hok;cases hv:cs[0] <;> rw [hv] at hok <;> first | exact ⟨_,by rw [hok.1]⟩ | simp at hok
theorem maxLen_ofK {W:World} (h:W.ShapedOpen Tryz.prog):∃ m,W.cell? ⟨4,0,none⟩=some (.int .i64 m):=
 int_of_shapeK (t:=3) (zero:=#[.int .i64 0]) h (of_decide_eq_true (by kernel_rfl)) (by kernel_rfl) rfl (by kernel_rfl) (by kernel_rfl) Tryz.underlying3
theorem gAhead:Tryz.prog.globalNamed "loop.example/g00025/impl.mayBeAhead" = some 0:=by kernel_rfl
theorem gAheadType:(Tryz.prog.globals[0]?).map (·.type)=some 95:=by kernel_rfl
theorem gWords:Tryz.prog.globalNamed "loop.example/g00025/impl.dateWords" = some 3:=by kernel_rfl
theorem gWordsType:(Tryz.prog.globals[3]?).map (·.type)=some 197:=by kernel_rfl
theorem partCells:Tryz.prog.cellsOf 94=1:=by kernel_rfl
theorem strCellsK:Tryz.prog.cellsOf 9=1:=by kernel_rfl
theorem u16_cell {H:Type} {enc:TypeId × Value→H} {w:World} {base:Nat} {sp:Nat→Bool} {held:Bool} {fuel:Nat} {cs:List Value} {z:Int} {p:List MemPlace} (o:Nat)
  (h:DataW.trod enc Tryz.prog w base sp held fuel 94 ((cs.drop o).take 1)=some (.lit (.int .u16 z),p)):cs[o]?=some (.int .u16 z):=by
 obtain ⟨n,hc,hx,_⟩:=DataW.trod_int Tryz.underlying94 h;simp only [Prod.mk.injEq,DataW.lit.injEq,Lit.int.injEq,true_and] at hx;have:=congrArg (·[0]?) hc;simp only [List.getElem?_take,List.getElem?_drop,List.getElem?_cons_zero] at this;simpa [hx.1] using this
theorem str_cellK {H:Type} {enc:TypeId × Value→H} {w:World} {base:Nat} {sp:Nat→Bool} {held:Bool} {fuel:Nat} {cs:List Value} {l:List UInt8} {p:List MemPlace} (o:Nat)
  (h:DataW.trod enc Tryz.prog w base sp held fuel 9 ((cs.drop o).take 1)=some (.lit (.string l),p)):cs[o]?=some (sV l):=by
 obtain ⟨s,hc,hx,_⟩:=DataW.trod_string Tryz.underlying9 h;simp only [Prod.mk.injEq,DataW.lit.injEq,Lit.string.injEq] at hx;have:=congrArg (·[0]?) hc;simp only [List.getElem?_take,List.getElem?_drop,List.getElem?_cons_zero] at this;have hs:s=⟨l.toArray⟩:=by
  cases s;rw [hx.1]
 rw [hs] at this;simpa using this
set_option maxRecDepth 100000 in
theorem ahead_of {rest:List (String × DataW Unit)} {W:World} (h:laidMet Tryz.prog (("loop.example/g00025/impl.mayBeAhead", Rows.laid_loop_example_g00025_impl_mayBeAhead) :: rest) W):W.rangeAt 0 0 aheadV:=by
 obtain ⟨ps,⟨g',t',cs,fuel,p,q,hg',ht',hvar,hd,_,_⟩,_⟩:=h;obtain rfl:=Option.some.inj (gAhead.symm.trans hg');obtain rfl:=Option.some.inj (gAheadType.symm.trans ht');have C:=fun i v (h:cs[i]?=some v)=>(World.var?_cell gAhead hvar i).trans (by simpa using h);obtain ⟨_,_,k0⟩:=trod_elem Tryz.underlying95 hd 0 (by decide) _ rfl;obtain ⟨_,_,k1⟩:=trod_elem Tryz.underlying95 hd 1 (by decide) _ rfl;obtain ⟨_,_,k2⟩:=trod_elem Tryz.underlying95 hd 2 (by decide) _ rfl;obtain ⟨_,_,k3⟩:=trod_elem Tryz.underlying95 hd 3 (by decide) _ rfl;obtain ⟨_,_,k4⟩:=trod_elem Tryz.underlying95 hd 4 (by decide) _ rfl;obtain ⟨_,_,k5⟩:=trod_elem Tryz.underlying95 hd 5 (by decide) _ rfl;obtain ⟨_,_,k6⟩:=trod_elem Tryz.underlying95 hd 6 (by decide) _ rfl;obtain ⟨_,_,k7⟩:=trod_elem Tryz.underlying95 hd 7 (by decide) _ rfl;obtain ⟨_,_,k8⟩:=trod_elem Tryz.underlying95 hd 8 (by decide) _ rfl;obtain ⟨_,_,k9⟩:=trod_elem Tryz.underlying95 hd 9 (by decide) _ rfl;obtain ⟨_,_,k10⟩:=trod_elem Tryz.underlying95 hd 10 (by decide) _ rfl;rw [partCells] at k0 k1 k2 k3 k4 k5 k6 k7 k8 k9 k10;have a0:=u16_cell (0 * 1) k0;have a1:=u16_cell (1 * 1) k1;have a2:=u16_cell (2 * 1) k2;have a3:=u16_cell (3 * 1) k3;have a4:=u16_cell (4 * 1) k4;have a5:=u16_cell (5 * 1) k5;have a6:=u16_cell (6 * 1) k6;have a7:=u16_cell (7 * 1) k7;have a8:=u16_cell (8 * 1) k8;have a9:=u16_cell (9 * 1) k9;have a10:=u16_cell (10 * 1) k10;intro i z hz
 match i,hz with
 | 0,hz=>cases hz;exact C 0 _ (by simpa using a0)
 | 1,hz=>cases hz;exact C 1 _ (by simpa using a1)
 | 2,hz=>cases hz;exact C 2 _ (by simpa using a2)
 | 3,hz=>cases hz;exact C 3 _ (by simpa using a3)
 | 4,hz=>cases hz;exact C 4 _ (by simpa using a4)
 | 5,hz=>cases hz;exact C 5 _ (by simpa using a5)
 | 6,hz=>cases hz;exact C 6 _ (by simpa using a6)
 | 7,hz=>cases hz;exact C 7 _ (by simpa using a7)
 | 8,hz=>cases hz;exact C 8 _ (by simpa using a8)
 | 9,hz=>cases hz;exact C 9 _ (by simpa using a9)
 | 10,hz=>cases hz;exact C 10 _ (by simpa using a10)
theorem ahead_readable:∀ g t,Tryz.prog.globalNamed "loop.example/g00025/impl.mayBeAhead" = some g→(Tryz.prog.globals[g]?).map (·.type)=some t→Tryz.prog.readableRec t=true∧t<Tryz.prog.types.size:=by
 intro g t hg ht;obtain rfl:=Option.some.inj (gAhead.symm.trans hg);obtain rfl:=Option.some.inj (gAheadType.symm.trans ht);exact ⟨by kernel_rfl,of_decide_eq_true (by kernel_rfl)⟩
set_option maxRecDepth 100000 in
theorem words_of {rest:List (String × DataW Unit)} {W:World} (h:laidMet Tryz.prog (("loop.example/g00025/impl.dateWords", Rows.laid_loop_example_g00025_impl_dateWords) :: rest) W):W.rangeAt 3 0 marksV:=by
 obtain ⟨ps,⟨g',t',cs,fuel,p,q,hg',ht',hvar,hd,_,_⟩,_⟩:=h;obtain rfl:=Option.some.inj (gWords.symm.trans hg');obtain rfl:=Option.some.inj (gWordsType.symm.trans ht');have C:=fun i v (h:cs[i]?=some v)=>(World.var?_cell gWords hvar i).trans (by simpa using h);obtain ⟨_,_,k0⟩:=trod_elem Tryz.underlying197 hd 0 (by decide) _ rfl;obtain ⟨_,_,k1⟩:=trod_elem Tryz.underlying197 hd 1 (by decide) _ rfl;obtain ⟨_,_,k2⟩:=trod_elem Tryz.underlying197 hd 2 (by decide) _ rfl;obtain ⟨_,_,k3⟩:=trod_elem Tryz.underlying197 hd 3 (by decide) _ rfl;obtain ⟨_,_,k4⟩:=trod_elem Tryz.underlying197 hd 4 (by decide) _ rfl;obtain ⟨_,_,k5⟩:=trod_elem Tryz.underlying197 hd 5 (by decide) _ rfl;obtain ⟨_,_,k6⟩:=trod_elem Tryz.underlying197 hd 6 (by decide) _ rfl;obtain ⟨_,_,k7⟩:=trod_elem Tryz.underlying197 hd 7 (by decide) _ rfl;obtain ⟨_,_,k8⟩:=trod_elem Tryz.underlying197 hd 8 (by decide) _ rfl;obtain ⟨_,_,k9⟩:=trod_elem Tryz.underlying197 hd 9 (by decide) _ rfl;obtain ⟨_,_,k10⟩:=trod_elem Tryz.underlying197 hd 10 (by decide) _ rfl;obtain ⟨_,_,k11⟩:=trod_elem Tryz.underlying197 hd 11 (by decide) _ rfl;obtain ⟨_,_,k12⟩:=trod_elem Tryz.underlying197 hd 12 (by decide) _ rfl;obtain ⟨_,_,k13⟩:=trod_elem Tryz.underlying197 hd 13 (by decide) _ rfl;rw [strCellsK] at k0 k1 k2 k3 k4 k5 k6 k7 k8 k9 k10 k11 k12 k13;have a0:=str_cellK (0 * 1) k0;have a1:=str_cellK (1 * 1) k1;have a2:=str_cellK (2 * 1) k2;have a3:=str_cellK (3 * 1) k3;have a4:=str_cellK (4 * 1) k4;have a5:=str_cellK (5 * 1) k5;have a6:=str_cellK (6 * 1) k6;have a7:=str_cellK (7 * 1) k7;have a8:=str_cellK (8 * 1) k8;have a9:=str_cellK (9 * 1) k9;have a10:=str_cellK (10 * 1) k10;have a11:=str_cellK (11 * 1) k11;have a12:=str_cellK (12 * 1) k12;have a13:=str_cellK (13 * 1) k13;intro i z hz
 match i,hz with
 | 0,hz=>cases hz;exact C 0 _ (by simpa using a0)
 | 1,hz=>cases hz;exact C 1 _ (by simpa using a1)
 | 2,hz=>cases hz;exact C 2 _ (by simpa using a2)
 | 3,hz=>cases hz;exact C 3 _ (by simpa using a3)
 | 4,hz=>cases hz;exact C 4 _ (by simpa using a4)
 | 5,hz=>cases hz;exact C 5 _ (by simpa using a5)
 | 6,hz=>cases hz;exact C 6 _ (by simpa using a6)
 | 7,hz=>cases hz;exact C 7 _ (by simpa using a7)
 | 8,hz=>cases hz;exact C 8 _ (by simpa using a8)
 | 9,hz=>cases hz;exact C 9 _ (by simpa using a9)
 | 10,hz=>cases hz;exact C 10 _ (by simpa using a10)
 | 11,hz=>cases hz;exact C 11 _ (by simpa using a11)
 | 12,hz=>cases hz;exact C 12 _ (by simpa using a12)
 | 13,hz=>cases hz;exact C 13 _ (by simpa using a13)
theorem words_readable:∀ g t,Tryz.prog.globalNamed "loop.example/g00025/impl.dateWords" = some g→(Tryz.prog.globals[g]?).map (·.type)=some t→Tryz.prog.readableRec t=true∧t<Tryz.prog.types.size:=by
 intro g t hg ht;obtain rfl:=Option.some.inj (gWords.symm.trans hg);obtain rfl:=Option.some.inj (gWordsType.symm.trans ht);exact ⟨by kernel_rfl,of_decide_eq_true (by kernel_rfl)⟩
end Go.Proofs.YtjlojlgdkfpcdaaGreatDoor

namespace Go.Proofs.YtjlojlgdkfpcdaaGreatDoor
open Go.RowKit
abbrev BLs:=List UInt8
def padZ (n:Nat) (l:BLs):BLs:=List.replicate (n - l.length) 48++l
theorem padZ_len (n:Nat) (l:BLs):(padZ n l).length=max n l.length:=by
 unfold padZ;rw [List.length_append,List.length_replicate];omega
theorem padZ_pad (a b:Nat) (l:BLs):padZ a (padZ b l)=padZ (max a b) l:=by
 unfold padZ;rw [List.length_append,List.length_replicate,← List.append_assoc,List.replicate_append_replicate]
 congr 2
 omega
theorem padZ_self {n:Nat} {l:BLs} (h:n≤l.length):padZ n l=l:=by
 unfold padZ;rw [show n - l.length=0 by omega];rfl
def aheadZ (p:Nat) (l:BLs):BLs:=l.take (l.length - p)
def lastZ (p:Nat) (l:BLs):BLs:=l.drop (l.length - p)
theorem ahead_pad (w p:Nat) (l:BLs) (h:p≤l.length):aheadZ p (padZ (w+p) l)=padZ w (aheadZ p l):=by
 unfold aheadZ padZ;rw [List.length_append,List.length_replicate,List.length_take,Nat.min_eq_left (by omega)];have e:w+p - l.length+l.length - p=(w+p - l.length)+(l.length - p):=by omega
 rw [e,List.take_append,List.length_replicate,List.take_of_length_le (by simp),Nat.add_sub_cancel_left]
 congr 2
 omega
theorem last_pad (w p:Nat) (l:BLs) (h:p≤l.length):lastZ p (padZ (w+p) l)=lastZ p l:=by
 unfold lastZ padZ;rw [List.length_append,List.length_replicate];have e:w+p - l.length+l.length - p=(w+p - l.length)+(l.length - p):=by omega
 rw [e,List.drop_append,List.length_replicate,List.drop_eq_nil_of_le (by simp),Nat.add_sub_cancel_left];rfl
def trimZ (m:Nat):Nat→BLs→BLs
 | 0,l=>l
 | f+1,l=>if m<l.length∧l.getLast?=some 48 then trimZ m f l.dropLast else l
def trim0 (l:BLs):BLs:=(l.reverse.dropWhile (· == 48)).reverse
theorem trim0_snoc (l:BLs) (c:UInt8):trim0 (l++[c])=if c=48 then trim0 l else l++[c]:=by
 unfold trim0;rw [List.reverse_append,List.reverse_singleton,List.singleton_append,List.dropWhile_cons];by_cases h:c=48
 ·rw [if_pos (by simp [h]),if_pos h]
 ·rw [if_neg (by simp [h]),if_neg h];simp
def grpZ:Nat→BLs→BLs
 | 0,l=>l
 | f+1,l=>if 3<l.length then grpZ f (l.take (l.length - 3))++44 :: l.drop (l.length - 3) else l
def digZ (d k:Nat):BLs:=if d=0 then [48] else Lib.decDigits d++List.replicate k 48
def restZ (pl p:Nat) (X:BLs):BLs:=let r:=lastZ p X;r.take pl++trim0 (r.drop pl)
def numZ (wh pl mb:Nat) (gr:Bool) (tm:Nat) (X:BLs):BLs:=
 let w:=padZ wh (aheadZ (pl+mb) X)
 let r:=restZ pl (pl+mb) X
 (if gr then grpZ w.length w else w)++((if r=[] then [] else 46 :: r)++List.replicate tm 37)
end Go.Proofs.YtjlojlgdkfpcdaaGreatDoor

namespace Go.Proofs.YtjlojlgdkfpcdaaGreatDoor
def lv:List Int→Int
 | []=>0
 | x :: xs=>x+1000000000 * lv xs
def Lim (xs:List Int):Prop:=∀ x ∈ xs,0≤x∧x<1000000000
theorem Lim.nil:Lim []:=fun _ h=>by cases h
theorem Lim.cons {x:Int} {xs:List Int} (h0:0≤x) (h1:x<1000000000) (h:Lim xs):Lim (x :: xs):=fun y hy=>by
 rcases List.mem_cons.1 hy with rfl | hy
 ·exact ⟨h0,h1⟩
 ·exact h y hy
theorem Lim.head {x:Int} {xs:List Int} (h:Lim (x :: xs)):0≤x∧x<1000000000:=h x (by simp)
theorem Lim.tail {x:Int} {xs:List Int} (h:Lim (x :: xs)):Lim xs:=fun y hy=>h y (by simp [hy])
theorem Lim.app {xs ys:List Int} (h:Lim xs) (k:Lim ys):Lim (xs++ys):=fun y hy=>by
 rcases List.mem_append.1 hy with hy | hy
 ·exact h y hy
 ·exact k y hy
theorem Lim.take {xs:List Int} (h:Lim xs) (n:Nat):Lim (xs.take n):=fun y hy=>h y (List.mem_of_mem_take hy)
theorem Lim.drop {xs:List Int} (h:Lim xs) (n:Nat):Lim (xs.drop n):=fun y hy=>h y (List.mem_of_mem_drop hy)
theorem Lim.getD {xs:List Int} (h:Lim xs) (i:Nat):0≤xs.getD i 0∧xs.getD i 0<1000000000:=by
 by_cases hi:i<xs.length
 ·rw [List.getD_eq_getElem?_getD,List.getElem?_eq_getElem hi];exact h _ (List.getElem_mem hi)
 ·rw [List.getD_eq_getElem?_getD,List.getElem?_eq_none (by omega)];simp
theorem lv_nonneg:∀ {xs:List Int},Lim xs→0≤lv xs
 | [],_=>by simp [lv]
 | x :: xs,h=>by
  have:=lv_nonneg h.tail;have:=h.head;simp only [lv];omega
theorem lv_app:∀ (xs ys:List Int),lv (xs++ys)=lv xs+1000000000 ^ xs.length * lv ys
 | [],ys=>by simp [lv]
 | x :: xs,ys=>by
  simp only [List.cons_append,lv,lv_app xs ys,List.length_cons,Int.pow_succ];rw [Int.mul_add,Int.mul_comm (1000000000 ^ xs.length) 1000000000,← Int.mul_assoc];omega
theorem lv_lt:∀ {xs:List Int},Lim xs→lv xs<1000000000 ^ xs.length
 | [],_=>by simp [lv]
 | x :: xs,h=>by
  have:=lv_lt h.tail;have:=h.head;simp only [lv,List.length_cons,Int.pow_succ];omega
theorem pos_pow (n:Nat):(0:Int)<1000000000 ^ n:=Int.pow_pos (by decide)
theorem lv_ge {xs:List Int} (h:Lim xs) (hn:0<xs.length) (ht:xs.getD (xs.length - 1) 0 ≠ 0):1000000000 ^ (xs.length - 1)≤lv xs:=by
 obtain ⟨ys,y,rfl⟩:∃ ys y,xs=ys++[y]:=⟨xs.dropLast,xs.getLast (by intro e;simp [e] at hn),(List.dropLast_concat_getLast _).symm⟩;have h1:(ys++[y]).getD ((ys++[y]).length - 1) 0=y:=by simp
 rw [h1] at ht;have hy:=h y (by simp);have h0:=lv_nonneg (fun z hz=>h z (by simp [hz]):Lim ys);rw [lv_app];simp only [List.length_append,List.length_singleton,Nat.add_sub_cancel,lv];have hp:=pos_pow ys.length;have:(1000000000:Int) ^ ys.length * 1≤1000000000 ^ ys.length * (y+1000000000 * 0):=Int.mul_le_mul_of_nonneg_left (by omega) (by omega);omega
theorem len_le {xs:List Int} {k:Nat} (h:Lim xs) (ht:xs.length=0∨xs.getD (xs.length - 1) 0 ≠ 0) (hk:lv xs<1000000000 ^ k):xs.length≤k:=by
 rcases ht with ht | ht
 ·omega
 ·by_cases hn:xs.length≤k
  ·exact hn
  ·have h1:=lv_ge h (by omega) ht;have h2:(1000000000:Int) ^ k≤1000000000 ^ (xs.length - 1):=by
    have:=Nat.pow_le_pow_right (n:=1000000000) (by decide) (show k≤xs.length - 1 by omega);have h3:((1000000000 ^ k:Nat):Int)≤((1000000000 ^ (xs.length - 1):Nat):Int):=(by exact_mod_cast this);simpa using h3
   omega
theorem lv_take_succ (xs:List Int) (i:Nat) (h:i<xs.length):lv (xs.take (i+1))=lv (xs.take i)+1000000000 ^ i * xs.getD i 0:=by
 rw [List.take_succ_eq_append_getElem h,lv_app];simp [lv,List.length_take,Nat.min_eq_left (Nat.le_of_lt h),h]
theorem lv_set:∀ (xs:List Int) (i:Nat) (v:Int),i<xs.length→lv (xs.set i v)=lv xs+1000000000 ^ i * (v - xs.getD i 0)
 | [],_,_,h=>by simp at h
 | x :: xs,0,v,_=>by simp [lv];omega
 | x :: xs,i+1,v,h=>by
  have:=lv_set xs i v (by simpa using h);simp only [List.set_cons_succ,lv,this,List.getD_cons_succ,Int.pow_succ];rw [Int.mul_add,Int.mul_comm (1000000000 ^ i) 1000000000,Int.mul_assoc];omega
theorem getD_set {xs:List Int} {i j:Nat} {v:Int} (h:i<xs.length):(xs.set i v).getD j 0=if j=i then v else xs.getD j 0:=by
 simp only [List.getD_eq_getElem?_getD,List.getElem?_set];by_cases e:i=j
 ·subst e;simp [h]
 ·rw [if_neg e,if_neg (fun h=>e h.symm)]
theorem Lim.set {xs:List Int} (h:Lim xs) (i:Nat) {v:Int} (h0:0≤v) (h1:v<1000000000):Lim (xs.set i v):=fun y hy=>by
 rcases List.mem_or_eq_of_mem_set hy with hy | rfl
 ·exact h y hy
 ·exact ⟨h0,h1⟩
theorem lv_replicate (n:Nat):lv (List.replicate n 0)=0:=by
 induction n with
 | zero=>rfl
 | succ n ih=>simp [List.replicate_succ,lv,ih]
theorem Lim.zeros (n:Nat):Lim (List.replicate n 0):=fun y hy=>by
 rw [List.eq_of_mem_replicate hy];decide
theorem getD_zeros (n i:Nat):(List.replicate n (0:Int)).getD i 0=0:=by
 simp only [List.getD_eq_getElem?_getD,List.getElem?_replicate]
 split <;> rfl
end Go.Proofs.YtjlojlgdkfpcdaaGreatDoor

namespace Go.Proofs.YtjlojlgdkfpcdaaGreatDoor
def cmpI (a b:Int):Int:=if a<b then -1 else if b<a then 1 else 0
theorem cmpI_lt {a b:Int} (h:a<b):cmpI a b = -1:=by unfold cmpI;rw [if_pos h]
theorem cmpI_gt {a b:Int} (h:b<a):cmpI a b=1:=by unfold cmpI;rw [if_neg (by omega),if_pos h]
theorem cmpI_eq (a:Int):cmpI a a=0:=by unfold cmpI;rw [if_neg (by omega),if_neg (by omega)]
theorem cmpI_neg (a b:Int) : -cmpI a b=cmpI (-a) (-b):=by unfold cmpI;split <;> (try split) <;> (try split) <;> (try split) <;> omega
theorem pow_le_pow {i j:Nat} (h:i≤j):(1000000000:Int) ^ i≤1000000000 ^ j:=by
 have:=Nat.pow_le_pow_right (n:=1000000000) (by decide) h;have h3:((1000000000 ^ i:Nat):Int)≤((1000000000 ^ j:Nat):Int):=by exact_mod_cast this
 simpa using h3
theorem lv_len {xs ys:List Int} (lx:Lim xs) (ly:Lim ys) (ty:ys.getD (ys.length - 1) 0 ≠ 0) (h:xs.length<ys.length):lv xs<lv ys:=by
 have h1:=lv_lt lx;have h2:=lv_ge ly (by omega) ty;have h3:=pow_le_pow (show xs.length≤ys.length - 1 by omega);omega
theorem lv_split (xs:List Int) (j:Nat) (h:j<xs.length):lv xs=lv (xs.take j)+1000000000 ^ j * (xs.getD j 0+1000000000 * lv (xs.drop (j+1))):=by
 have e:xs=xs.take j++(xs[j] :: xs.drop (j+1)):=by rw [← List.drop_eq_getElem_cons h,List.take_append_drop]
 have h1:=congrArg lv e;rw [lv_app] at h1;simp only [lv,List.length_take,Nat.min_eq_left (Nat.le_of_lt h)] at h1;rw [h1];simp [h]
theorem lv_top {xs ys:List Int} {j:Nat} (lx:Lim xs) (ly:Lim ys) (hx:j<xs.length) (hy:j<ys.length) (hd:xs.drop (j+1)=ys.drop (j+1)) (h:xs.getD j 0<ys.getD j 0):lv xs<lv ys:=by
 rw [lv_split xs j hx,lv_split ys j hy,hd];have h1:=lv_lt (lx.take j);have h2:=lv_nonneg (ly.take j);have e:(xs.take j).length=j:=by simp;omega
 rw [e] at h1;generalize lv (ys.drop (j+1))=D at *;generalize xs.getD j 0=x at *;generalize ys.getD j 0=y at *;generalize lv (xs.take j)=X at *;generalize lv (ys.take j)=Y at *;have hp:=pos_pow j;have h3:(1000000000:Int) ^ j * (x+1000000000 * D+1)≤1000000000 ^ j * (y+1000000000 * D):=Int.mul_le_mul_of_nonneg_left (by omega) (by omega);rw [Int.mul_add _ _ 1,Int.mul_one] at h3;omega
theorem drop_step {xs ys:List Int} {j:Nat} (hx:j<xs.length) (hy:j<ys.length) (hd:xs.drop (j+1)=ys.drop (j+1)) (h:xs.getD j 0=ys.getD j 0):xs.drop j=ys.drop j:=by
 rw [List.drop_eq_getElem_cons hx,List.drop_eq_getElem_cons hy,hd];have e1:xs.getD j 0=xs[j]:=by simp [hx]
 have e2:ys.getD j 0=ys[j]:=by simp [hy]
 rw [← e1,← e2,h]
end Go.Proofs.YtjlojlgdkfpcdaaGreatDoor

namespace Go.Proofs.YtjlojlgdkfpcdaaGreatDoor
theorem ten_pow_pos (n:Nat):0<10 ^ n:=Nat.pow_pos (by decide)
def nd (a:Nat):Nat:=if h:a=0 then 0 else nd (a / 10)+1
termination_by a
decreasing_by omega
theorem nd_zero:nd 0=0:=by rw [nd];simp
theorem nd_pos {a:Nat} (h:a ≠ 0):nd a=nd (a / 10)+1:=by rw [nd];simp [h]
theorem nd_dig (a:Nat):a<10 ^ nd a∧(nd a=0∨10 ^ (nd a - 1)≤a):=by
 induction a using Nat.strongRecOn with
 | ind a ih =>
  by_cases h:a=0
  ·subst h;rw [nd_zero];simp
  ·rw [nd_pos h];obtain ⟨h1,h2⟩:=ih (a / 10) (by omega);refine ⟨by rw [Nat.pow_succ];omega,.inr ?_⟩;rw [Nat.add_sub_cancel];by_cases h3:a / 10=0
   ·rw [h3,nd_zero];simp;omega
   ·have h4:nd (a / 10) ≠ 0:=(by rw [nd_pos h3];omega);have h5:=h2.resolve_left h4;obtain ⟨m,hm⟩:∃ m,nd (a / 10)=m+1:=⟨nd (a / 10) - 1,by omega⟩;rw [hm] at h5 ⊢;rw [Nat.pow_succ];simp at h5;omega
theorem pow10_le {i j:Nat} (h:i≤j):10 ^ i≤10 ^ j:=Nat.pow_le_pow_right (by decide) h
theorem pow10_lt_iff {i j:Nat} (h:10 ^ i<10 ^ j):i<j:=by
 by_cases e:i<j
 ·exact e
 ·have:=pow10_le (show j≤i by omega);omega
theorem nd_eq {a k:Nat} (h1:a<10 ^ k) (h2:k=0∨10 ^ (k - 1)≤a):nd a=k:=by
 obtain ⟨h3,h4⟩:=nd_dig a;have e1:k≤nd a:=by
  rcases h2 with h2 | h2
  ·omega
  ·have:=pow10_lt_iff (i:=k - 1) (j:=nd a) (by omega);omega
 have e2:nd a≤k:=by
  rcases h4 with h4 | h4
  ·omega
  ·have:=pow10_lt_iff (i:=nd a - 1) (j:=k) (by omega);omega
 omega
theorem nd_ge {a k:Nat} (h:10 ^ k≤a):k<nd a:=pow10_lt_iff (Nat.lt_of_le_of_lt h (nd_dig a).1)
theorem nd_le {a k:Nat} (h:a<10 ^ k):nd a≤k:=by
 rcases (nd_dig a).2 with h2 | h2
 ·omega
 ·have:=pow10_lt_iff (i:=nd a - 1) (j:=k) (by omega);omega
theorem nd_lt {a k:Nat} (h:k<nd a):10 ^ k≤a:=by
 rcases (nd_dig a).2 with h2 | h2
 ·omega
 ·exact Nat.le_trans (pow10_le (by omega)) h2
def restN (P cut:Nat) (more:Bool):Nat:=
 if 10 ^ cut<2 * (P % 10 ^ cut)∨(2 * (P % 10 ^ cut)=10 ^ cut∧more=true) then 3
 else if 2 * (P % 10 ^ cut)=10 ^ cut then 2
 else if 0<P % 10 ^ cut∨more=true then 1 else 0
def goesOn (mode:Nat) (odd:Bool) (rest:Nat):Bool:=
 if mode=0 then decide (rest=3) || (decide (rest=2) && odd) else if mode=1 then decide (2≤rest) else if mode=2 then false else decide (rest ≠ 0)
def rndM (mode P cut:Nat) (more:Bool):Nat:=P / 10 ^ cut+if goesOn mode (decide (P / 10 ^ cut % 2=1)) (restN P cut more)=true then 1 else 0
def strip (P:Nat) (e:Int):Nat × Int:=if h:P ≠ 0∧P % 10=0 then strip (P / 10) (e+1) else (P,e)
termination_by P
decreasing_by omega
theorem strip_ten {P:Nat} {e:Int} (h0:P ≠ 0) (h:P % 10=0):strip P e=strip (P / 10) (e+1):=by rw [strip];simp [h0,h]
theorem strip_stop {P:Nat} {e:Int} (h:P % 10 ≠ 0):strip P e=(P,e):=by rw [strip];simp [h]
structure DR where
 ok:Bool
 neg:Bool
 d:Int
 e:Int
def fitR (neg:Bool) (P:Nat) (e:Int):DR:=
 if P=0 then ⟨true,false,0,0⟩
 else if 300<(strip P e).2 then ⟨false,false,0,0⟩
 else if (strip P e).2 < -300 then ⟨true,false,0,0⟩
 else ⟨true,neg,(strip P e).1,(strip P e).2⟩
def putR (neg:Bool) (P:Nat) (e:Int) (more:Bool):DR:=
 if 15<nd P then fitR neg (rndM 0 P (nd P - 15) more) (e+((nd P - 15:Nat):Int)) else fitR neg P e
theorem strip_pow (a:Nat) (ha:a % 10 ≠ 0) (m:Nat) (e:Int):strip (a * 10 ^ m) e=(a,e+m):=by
 induction m generalizing e with
 | zero=>rw [Nat.pow_zero,Nat.mul_one,strip_stop ha];simp
 | succ m ih =>
  have h1:a * 10 ^ (m+1)=a * 10 ^ m * 10:=by rw [Nat.pow_succ,Nat.mul_assoc]
  have hp:0<a * 10 ^ m:=Nat.mul_pos (by omega) (ten_pow_pos m);rw [h1,strip_ten (by omega) (by omega),Nat.mul_div_cancel _ (by decide),ih]
  congr 1
  omega
theorem strip_scale (P:Nat) (m:Nat) (e:Int) (h0:P ≠ 0):strip (P * 10 ^ m) e=strip P (e+m):=by
 induction m generalizing e with
 | zero=>simp
 | succ m ih =>
  have h1:P * 10 ^ (m+1)=P * 10 ^ m * 10:=by rw [Nat.pow_succ,Nat.mul_assoc]
  have hp:0<P * 10 ^ m:=Nat.mul_pos (by omega) (ten_pow_pos m);rw [h1,strip_ten (by omega) (by omega),Nat.mul_div_cancel _ (by decide),ih]
  congr 1
  omega
theorem strip_good (P:Nat) (e:Int) (h0:P ≠ 0):(strip P e).1 % 10 ≠ 0:=by
 induction P using Nat.strongRecOn generalizing e with
 | ind P ih =>
  by_cases h:P % 10=0
  ·rw [strip_ten h0 h];exact ih (P / 10) (by omega) (e+1) (by omega)
  ·rw [strip_stop h];exact h
theorem rest_step (P n:Nat) (more:Bool) :
  restN P (n+1) more=restN (P / 10 ^ n) 1 (more || decide (P % 10 ^ n ≠ 0)):=by
 obtain ⟨T,hT⟩:∃ T,10 ^ n=T:=⟨_,rfl⟩;have hp:0<T:=by rw [← hT];exact ten_pow_pos n
 have e1:P % 10 ^ (n+1)=P % T+T * (P / T % 10):=by
  rw [Nat.pow_succ,hT,Nat.mod_mul]
 have e2:(10:Nat) ^ (n+1)=T * 10:=by rw [Nat.pow_succ,hT]
 unfold restN;rw [e1,e2,hT,Nat.pow_one];have hs:=Nat.mod_lt P hp;generalize P % T=s at *;have hl:P / T % 10<10:=Nat.mod_lt _ (by decide);generalize P / T % 10=l at *;have e3:l=0∨l=1∨l=2∨l=3∨l=4∨l=5∨l=6∨l=7∨l=8∨l=9:=by omega
 have e4:(more || decide (s ≠ 0))=true ↔ more=true∨s ≠ 0:=by simp
 simp only [e4];clear e4;clear e1 e2 hT hl;cases more
 all_goals simp only [Bool.false_eq_true,and_true,and_false,or_true,true_or,or_false,false_or]
 all_goals rcases e3 with h | h | h | h | h | h | h | h | h | h <;> subst h <;> (repeat' split) <;> omega
end Go.Proofs.YtjlojlgdkfpcdaaGreatDoor

namespace Go.Proofs.YtjlojlgdkfpcdaaGreatDoor
theorem div_pow (N i j:Nat):N / 10 ^ i / 10 ^ j=N / 10 ^ (i+j):=by rw [Nat.div_div_eq_div_mul,Nat.pow_add]
theorem mod_pow (N i j:Nat):N % 10 ^ (i+j)=N % 10 ^ i+10 ^ i * (N / 10 ^ i % 10 ^ j):=by rw [Nat.pow_add,Nat.mod_mul]
theorem mod_pow_zero (N i j:Nat):N % 10 ^ (i+j) ≠ 0 ↔ N % 10 ^ i ≠ 0∨N / 10 ^ i % 10 ^ j ≠ 0:=by
 rw [mod_pow];have hp:=ten_pow_pos i;by_cases h:N / 10 ^ i % 10 ^ j=0
 ·rw [h];simp
 ·have:0<10 ^ i * (N / 10 ^ i % 10 ^ j):=Nat.mul_pos hp (by omega);constructor
  ·intro _;exact .inr h
  ·intro _;omega
theorem nd_div (N j:Nat):nd (N / 10 ^ j)=nd N - j:=by
 induction j with
 | zero=>simp
 | succ j ih =>
  rw [← div_pow N j 1,Nat.pow_one];by_cases h:N / 10 ^ j=0
  ·rw [h] at ih ⊢;simp only [Nat.zero_div,nd_zero] at *;omega
  ·have:=nd_pos h;omega
theorem nd_mul (P j:Nat) (h:P ≠ 0):nd (P * 10 ^ j)=nd P+j:=by
 have:=nd_div (P * 10 ^ j) j;rw [Nat.mul_div_cancel _ (ten_pow_pos j)] at this;have h2:0<nd P:=by rw [nd_pos h];omega
 omega
theorem rest_none {P c:Nat} (h:P % 10 ^ c=0):restN P c false=0:=by
 have hp:=ten_pow_pos c;unfold restN;rw [h,if_neg (by simp),if_neg (by omega),if_neg (by simp)]
theorem rest_below {P c:Nat} (h:2 * (P % 10 ^ c)<10 ^ c):restN P c false≤1:=by
 unfold restN;rw [if_neg (by simp;omega),if_neg (by omega)]
 split <;> omega
theorem rest_above {P c:Nat} {m:Bool} (h:10 ^ c<2 * (P % 10 ^ c)):restN P c m=3:=by
 unfold restN;rw [if_pos (.inl h)]
theorem goes_none (mode:Nat) (odd:Bool) (hm:mode≤3):goesOn mode odd 0=false:=by
 unfold goesOn;have:mode=0∨mode=1∨mode=2∨mode=3:=by omega
 rcases this with rfl | rfl | rfl | rfl <;> simp
theorem goes_below (odd:Bool) {r:Nat} (h:r≤1):goesOn 0 odd r=false:=by
 unfold goesOn;have:r=0∨r=1:=by omega
 rcases this with rfl | rfl <;> simp
theorem rnd_exact (mode Q c:Nat) (hm:mode≤3):rndM mode (Q * 10 ^ c) c false=Q:=by
 unfold rndM;rw [rest_none (Nat.mul_mod_left _ _),Nat.mul_div_cancel _ (ten_pow_pos c),goes_none _ _ hm];simp
theorem fit_scale (neg:Bool) (P m:Nat) (e:Int):fitR neg (P * 10 ^ m) e=fitR neg P (e+m):=by
 unfold fitR;by_cases h:P=0
 ·subst h;simp
 ·have:P * 10 ^ m ≠ 0:=by have:=Nat.mul_pos (show 0<P by omega) (ten_pow_pos m);omega
  rw [if_neg h,if_neg this,strip_scale P m e h]
theorem fit_good (neg:Bool) (d:Nat) (e:Int) (h:d % 10 ≠ 0) (e0 : -300≤e) (e1:e≤300):fitR neg d e=⟨true,neg,d,e⟩:=by
 unfold fitR;rw [if_neg (by omega),strip_stop h];simp only;rw [if_neg (by omega),if_neg (by omega)]
theorem put_good (neg:Bool) (d:Nat) (e:Int) (h:d % 10 ≠ 0) (hd:d<1000000000000000) (e0 : -300≤e) (e1:e≤300):putR neg d e false=⟨true,neg,d,e⟩:=by
 unfold putR;rw [if_neg (by have:=nd_le (a:=d) (k:=15) (by omega);omega),fit_good neg d e h e0 e1]
theorem rnd_near_up (Q b c:Nat) (h:2 * b<10 ^ c):rndM 0 (Q * 10 ^ c+b) c false=Q:=by
 have hp:=ten_pow_pos c;have e1:(Q * 10 ^ c+b) / 10 ^ c=Q:=by rw [Nat.mul_comm,Nat.mul_add_div hp,Nat.div_eq_of_lt (by omega)];omega
 have e2:(Q * 10 ^ c+b) % 10 ^ c=b:=by rw [Nat.mul_comm,Nat.mul_add_mod,Nat.mod_eq_of_lt (by omega)]
 unfold rndM;rw [e1,goes_below _ (rest_below (by rw [e2];exact h))];simp
theorem rnd_near_down (Q b c:Nat) (hb:0<b) (h:2 * b<10 ^ c) (hQ:0<Q):rndM 0 (Q * 10 ^ c - b) c false=Q:=by
 have hp:=ten_pow_pos c;obtain ⟨q,rfl⟩:∃ q,Q=q+1:=⟨Q - 1,by omega⟩;have e0:(q+1) * 10 ^ c - b=q * 10 ^ c+(10 ^ c - b):=by rw [Nat.add_mul];omega
 rw [e0];have e1:(q * 10 ^ c+(10 ^ c - b)) / 10 ^ c=q:=by rw [Nat.mul_comm,Nat.mul_add_div hp,Nat.div_eq_of_lt (by omega)];omega
 have e2:(q * 10 ^ c+(10 ^ c - b)) % 10 ^ c=10 ^ c - b:=by rw [Nat.mul_comm,Nat.mul_add_mod,Nat.mod_eq_of_lt (by omega)]
 unfold rndM;rw [e1,rest_above (by rw [e2];omega)];simp [goesOn]
theorem far_pow:(10:Nat) ^ 37=10000000000000000000000000000000000000∧(10:Nat) ^ 38=100000000000000000000000000000000000000∧(10:Nat) ^ 16=10000000000000000:=by decide
theorem put_far (neg minus:Bool) (a b m:Nat) (e:Int) (ha:a % 10 ≠ 0) (ha1:a<1000000000000000) (hb:0<b) (hb1:b<1000000000000000) (hm:38<nd a+m) (e0 : -300≤e+m) (e1:e+m≤300) :
  putR neg (if minus then a * 10 ^ m - b else a * 10 ^ m+b) e false=⟨true,neg,a,e+m⟩:=by
 have na:=nd_mul a m (by omega);have n15:=nd_le (a:=a) (k:=15) (by omega);obtain ⟨A,hA⟩:∃ A,a * 10 ^ m=A:=⟨_,rfl⟩;obtain ⟨f1,f2,f3⟩:=far_pow;have A38:10 ^ 38≤A:=by rw [← hA];exact nd_lt (by omega)
 obtain ⟨X,hX⟩:∃ X,(if minus then A - b else A+b)=X:=⟨_,rfl⟩;have Xlo:10 ^ 37≤X:=by rw [← hX];split <;> omega
 have nlo:=nd_ge Xlo;have nhi:nd X≤nd a+m:=by
  apply nd_le;have h1:(a+1) * 10 ^ m≤10 ^ nd a * 10 ^ m:=Nat.mul_le_mul_right _ (nd_dig a).1;rw [← Nat.pow_add,Nat.add_mul,hA] at h1;have h2:10 ^ 16≤10 ^ m:=pow10_le (by omega);have:=ten_pow_pos m;rw [← hX];split <;> omega
 obtain ⟨c,hc⟩:∃ c,nd X - 15=c:=⟨_,rfl⟩;obtain ⟨r,hr⟩:∃ r,m=r+c:=⟨m - c,by omega⟩;have c16:10 ^ 16≤10 ^ c:=pow10_le (by omega);have hQ:A=a * 10 ^ r * 10 ^ c:=by rw [← hA,hr,Nat.pow_add,Nat.mul_assoc]
 have Qp:0<a * 10 ^ r:=Nat.mul_pos (by omega) (ten_pow_pos r);have hR:rndM 0 X c false=a * 10 ^ r:=by
  rw [← hX,hQ];cases minus
  ·exact rnd_near_up _ _ _ (by omega)
  ·exact rnd_near_down _ _ _ hb (by omega) Qp
 rw [hA,hX];unfold putR;rw [if_pos (by omega),hc,hR,fit_scale,show e+(c:Int)+(r:Int)=e+(m:Int) by omega,fit_good neg a _ ha e0 e1]
end Go.Proofs.YtjlojlgdkfpcdaaGreatDoor

namespace Go.Proofs.YtjlojlgdkfpcdaaGreatDoor
open Go.RowKit
theorem add64_call (x y c:Int) (hx:0≤x) (hy:0≤y) (h0:0≤c) (hc:c≤1) (w:World) :
  (callFunc 222 #[.int .u64 x,.int .u64 y,.int .u64 c]).run Tryz.prog w=.ok (.value (.tuple #[.int .u64 ((x+y+c) % 18446744073709551616),.int .u64 ((x+y+c) / 18446744073709551616)])) w:=by
 rw [run_callFunc_extern Tryz.func222 (by kernel_rfl) (by kernel_rfl) (by kernel_rfl) (e:=add64Entry) (by kernel_rfl),run_add64 x y c hx hy h0 hc];rfl
theorem sub64_call (x y c:Nat) (hc:c≤1) (w:World) :
  (callFunc 253 #[.int .u64 x,.int .u64 y,.int .u64 c]).run Tryz.prog w=.ok (.value (.tuple #[.int .u64 (((x+18446744073709551616 - y - c) % 18446744073709551616:Nat):Int),.int .u64 ((if x<y+c then 1 else 0:Nat):Int)])) w:=by
 rw [run_callFunc_extern Tryz.func253 (by kernel_rfl) (by kernel_rfl) (by kernel_rfl) (e:=sub64Entry) (by kernel_rfl),run_sub64 x y c hc];rfl
theorem carry_sum {l l':Nat} (h2:l<18446744073709551616) (h2':l'<18446744073709551616):∃ S C:Nat,S<18446744073709551616∧C≤1∧C * 18446744073709551616+S=l+l':=by
 by_cases h:l+l'<18446744073709551616
 ·exact ⟨l+l',0,h,by omega,by omega⟩
 ·exact ⟨l+l' - 18446744073709551616,1,by omega,by omega,by omega⟩
theorem carry_all {a b h l h' l' S C:Nat} (e1:h * 18446744073709551616+l=a) (e2:h' * 18446744073709551616+l'=b) (hSC:C * 18446744073709551616+S=l+l') (hlt:a+b<340282366920938463463374607431768211456):h+h'+C<18446744073709551616∧(h+h'+C) * 18446744073709551616+S=a+b:=by
 omega
theorem borrow_dif {l l':Nat} (h2:l<18446744073709551616) (h2':l'<18446744073709551616):∃ S C:Nat,S<18446744073709551616∧C≤1∧S+l'=l+C * 18446744073709551616∧(l+18446744073709551616 - l' - 0) % 18446744073709551616=S∧(if l<l'+0 then 1 else 0)=C:=by
 by_cases h:l<l'
 ·exact ⟨l+18446744073709551616 - l',1,by omega,by omega,by omega,by omega,by rw [if_pos (by omega)]⟩
 ·exact ⟨l - l',0,by omega,by omega,by omega,by omega,by rw [if_neg (by omega)]⟩
theorem borrow_lin {A B D l l' S a b:Nat} (e1:A+B+D+l=a) (e2:A+l'=b) (hSC:S+l'=l+B):D+S=a - b:=by omega
theorem borrow_all {a b h l h' l' S C:Nat} (e1:h * 18446744073709551616+l=a) (e2:h' * 18446744073709551616+l'=b) (hS:S<18446744073709551616) (hC:C≤1) (h1:h<18446744073709551616) (hSC:S+l'=l+C * 18446744073709551616) (hlt:b≤a) :
  ∃ H:Nat,H<18446744073709551616∧(h+18446744073709551616 - h' - C) % 18446744073709551616=H∧(if h<h'+C then 1 else 0)=0∧H * 18446744073709551616+S=a - b:=by
 have hc:h'+C≤h:=by omega
 obtain ⟨H,rfl⟩:∃ H,h=h'+C+H:=⟨h - h' - C,by omega⟩;have e3:h'+C+H+18446744073709551616 - h' - C=H+18446744073709551616:=by omega
 refine ⟨H,by omega,by rw [e3,Nat.add_mod_right,Nat.mod_eq_of_lt (by omega)],by rw [if_neg (by omega)],?_⟩;rw [Nat.add_mul,Nat.add_mul] at e1;exact borrow_lin e1 e2 hSC
set_option maxRecDepth 4000 in
set_option maxHeartbeats 1000000 in
theorem plus_any {v u:Value} {a b:Nat} (w:World) (hv:WV v a) (hu:WV u b) (hlt:a+b<340282366920938463463374607431768211456) :
  Calls Tryz.prog 196 #[v,u] w fun e w'=>∃ v',e=.returned v'∧WV v' (a+b)∧Ext w w':=by
 obtain ⟨h,l,rfl,h1,h2,e1⟩:=hv;obtain ⟨h',l',rfl,h1',h2',e2⟩:=hu;obtain ⟨S,C,hS,hC,hSC⟩:=carry_sum h2 h2';obtain ⟨c1,c2⟩:=carry_all e1 e2 hSC hlt;have A1:∀ w,(callFunc 222 #[.int .u64 l,.int .u64 l',.int .u64 0]).run Tryz.prog w=.ok (.value (.tuple #[.int .u64 S,.int .u64 C])) w:=fun w=>by
  rw [add64_call l l' 0 (by omega) (by omega) (by omega) (by omega)];have r1:((l:Int)+l'+0) % 18446744073709551616=S:=by omega
  have r2:((l:Int)+l'+0) / 18446744073709551616=C:=by omega
  rw [r1,r2]
 obtain ⟨H,hH⟩:∃ H:Nat,h+h'+C=H:=⟨_,rfl⟩;rw [hH] at c1 c2;have A2:∀ w,(callFunc 222 #[.int .u64 h,.int .u64 h',.int .u64 C]).run Tryz.prog w=.ok (.value (.tuple #[.int .u64 H,.int .u64 0])) w:=fun w=>by
  rw [add64_call h h' C (by omega) (by omega) (by omega) (by omega)];have r1:((h:Int)+h'+C) % 18446744073709551616=H:=by omega
  have r2:((h:Int)+h'+C) / 18446744073709551616=0:=by omega
  rw [r1,r2]
 have HW:Hid (WV (.agg #[.int .u64 H,.int .u64 S]) (a+b)):=⟨H,S,rfl,c1,hS,c2⟩;clear e1 e2 hSC hH hlt h1 h2 h1' h2' hS hC c1 c2;go_enter Tryz.func196,Tryz.ntmps196
 go_wp2
 exact bodyPost_ret (v:=.agg #[.int .u64 H,.int .u64 S]) (by simp [results,Tryz.results196,go_sem]) rfl ⟨_,rfl,HW.out,xa (xa (x1 _ _) _) _⟩
set_option maxRecDepth 4000 in
set_option maxHeartbeats 1000000 in
theorem wminus_any {v u:Value} {a b:Nat} (w:World) (hv:WV v a) (hu:WV u b) (hlt:b≤a) :
  Calls Tryz.prog 244 #[v,u] w fun e w'=>∃ v',e=.returned v'∧WV v' (a - b)∧Ext w w':=by
 obtain ⟨h,l,rfl,h1,h2,e1⟩:=hv;obtain ⟨h',l',rfl,h1',h2',e2⟩:=hu;obtain ⟨S,C,hS,hC,hSC,r1,r2⟩:=borrow_dif h2 h2';obtain ⟨H,c1,r3,r4,c2⟩:=borrow_all e1 e2 hS hC h1 hSC hlt;have A1:∀ w,(callFunc 253 #[.int .u64 l,.int .u64 l',.int .u64 0]).run Tryz.prog w=.ok (.value (.tuple #[.int .u64 S,.int .u64 C])) w:=fun w=>by
  have:=sub64_call l l' 0 (by omega) w;rw [r1,r2] at this;exact this
 have A2:∀ w,(callFunc 253 #[.int .u64 h,.int .u64 h',.int .u64 C]).run Tryz.prog w=.ok (.value (.tuple #[.int .u64 H,.int .u64 0])) w:=fun w=>by
  have:=sub64_call h h' C hC w;rw [r3,r4] at this;exact this
 have HW:Hid (WV (.agg #[.int .u64 H,.int .u64 S]) (a - b)):=⟨H,S,rfl,c1,hS,c2⟩;clear e1 e2 hSC hlt h1 h2 h1' h2' hS hC r1 r2 r3 r4 c1 c2;go_enter Tryz.func244,Tryz.ntmps244
 go_wp2
 exact bodyPost_ret (v:=.agg #[.int .u64 H,.int .u64 S]) (by simp [results,Tryz.results244,go_sem]) rfl ⟨_,rfl,HW.out,xa (xa (x1 _ _) _) _⟩
def rest1 (last:Nat) (more:Bool):Nat:=if 5<last∨last=5∧more=true then 3 else if last=5 then 2 else if 0<last∨more=true then 1 else 0
theorem rest1_eq (P:Nat) (more:Bool):rest1 (P % 10) more=restN P 1 more:=by
 unfold rest1 restN;rw [Nat.pow_one];generalize P % 10=l;have e1:(5<l∨l=5∧more=true) ↔ (10<2 * l∨2 * l=10∧more=true):=by
  constructor <;> (intro h;rcases h with h | h)
  ·exact .inl (by omega)
  ·exact .inr ⟨by omega,h.2⟩
  ·exact .inl (by omega)
  ·exact .inr ⟨by omega,h.2⟩
 have e2:l=5 ↔ 2 * l=10:=by omega
 simp only [e1,← e2]
set_option maxRecDepth 4000 in
set_option maxHeartbeats 1000000 in
theorem restOf_any (l:Nat) (more:Bool) (w:World) :
  Calls Tryz.prog 195 #[.int .u64 l,.bool more] w fun e w'=>e=.returned (.int .i64 (rest1 l more))∧w'=w:=by
 have H:Hid (∀ k:Nat,((5<l∨l=5∧more=true)∧k=3∨l=5∧more=false∧k=2∨l<5∧(0<l∨more=true)∧k=1∨l=0∧more=false∧k=0)→(k:Int)=rest1 l more):=fun k h=>by
  unfold rest1;cases more <;> simp at h <;> simp <;> (repeat' split) <;> omega
 cases more
 ·go_enter Tryz.func195,Tryz.ntmps195
  go_wp2
  all_goals go_ret
  all_goals refine ⟨ret_int ?_,rfl⟩
  all_goals first | rfl | exact H.out 3 (by simp;omega) | exact H.out 2 (by simp;omega) | exact H.out 1 (by simp;omega) | exact H.out 0 (by simp;omega)
 ·go_enter Tryz.func195,Tryz.ntmps195
  go_wp2
  all_goals go_ret
  all_goals refine ⟨ret_int ?_,rfl⟩
  all_goals first | rfl | exact H.out 3 (by simp;omega) | exact H.out 2 (by simp;omega) | exact H.out 1 (by simp;omega) | exact H.out 0 (by simp;omega)
set_option maxRecDepth 4000 in
set_option maxHeartbeats 1000000 in
theorem toEven_any (odd:Bool) (r:Nat) (w:World) :
  Calls Tryz.prog 188 #[.bool odd,.int .i64 r] w fun e w'=>e=.returned (.bool (goesOn 0 odd r))∧w'=w:=by
 by_cases h3:r=3
 ·subst h3;go_enter Tryz.func188,Tryz.ntmps188
  go_wp2
  go_ret;exact ⟨rfl,rfl⟩
 ·by_cases h2:r=2
  ·subst h2;cases odd
   all_goals
    go_enter Tryz.func188,Tryz.ntmps188
    go_wp2
    go_ret;exact ⟨rfl,rfl⟩
  ·have H:Hid (goesOn 0 odd r=false):=by simp [goesOn,Hid,h3,h2]
   have c3:(((r:Int)) == 3)=false:=by rw [beq_eq_false_iff_ne];omega
   have c2:(((r:Int)) == 2)=false:=by rw [beq_eq_false_iff_ne];omega
   clear h2 h3;go_enter Tryz.func188,Tryz.ntmps188
   go_wp2
   go_ret;exact ⟨ret_bool H.out.symm,rfl⟩
set_option maxRecDepth 4000 in
set_option maxHeartbeats 1000000 in
theorem toAway_any (odd:Bool) (r:Nat) (w:World) :
  Calls Tryz.prog 190 #[.bool odd,.int .i64 r] w fun e w'=>e=.returned (.bool (goesOn 1 odd r))∧w'=w:=by
 have H:Hid (goesOn 1 odd r=decide (2≤r)):=rfl;go_enter Tryz.func190,Tryz.ntmps190
 go_wp2
 all_goals go_ret
 all_goals refine ⟨ret_bool ?_,rfl⟩
 all_goals (rw [H.out];rw [Bool.eq_iff_iff];simp) <;> omega
set_option maxRecDepth 4000 in
set_option maxHeartbeats 1000000 in
theorem toDown_any (odd:Bool) (r:Nat) (w:World) :
  Calls Tryz.prog 191 #[.bool odd,.int .i64 r] w fun e w'=>e=.returned (.bool (goesOn 2 odd r))∧w'=w:=by
 have H:Hid (goesOn 2 odd r=false):=rfl;go_enter Tryz.func191,Tryz.ntmps191
 go_wp2
 all_goals go_ret
 all_goals exact ⟨ret_bool H.out.symm,rfl⟩
set_option maxRecDepth 4000 in
set_option maxHeartbeats 1000000 in
theorem toUp_any (odd:Bool) (r:Nat) (w:World) :
  Calls Tryz.prog 192 #[.bool odd,.int .i64 r] w fun e w'=>e=.returned (.bool (goesOn 3 odd r))∧w'=w:=by
 have H:Hid (goesOn 3 odd r=decide (r ≠ 0)):=rfl;go_enter Tryz.func192,Tryz.ntmps192
 go_wp2
 all_goals go_ret
 all_goals refine ⟨ret_bool ?_,rfl⟩
 all_goals (rw [H.out];rw [Bool.eq_iff_iff];simp)
abbrev resV (r:DR):Value:=.agg #[.bool r.ok,.bool r.neg,.int .i64 r.d,.int .i64 r.e]
theorem fit_at {neg:Bool} {P d:Nat} {e x:Int} (h0:P ≠ 0) (h:strip P e=(d,x)) :
  resV (fitR neg P e)=if 300<x then .agg #[.bool false,.bool false,.int .i64 0,.int .i64 0] else if x < -300 then .agg #[.bool true,.bool false,.int .i64 0,.int .i64 0] else .agg #[.bool true,.bool neg,.int .i64 d,.int .i64 x]:=by
 unfold fitR;rw [if_neg h0,h];by_cases h1:300<x
 ·rw [if_pos h1,if_pos h1]
 ·rw [if_neg h1,if_neg h1];by_cases h2:x < -300
  ·rw [if_pos h2,if_pos h2]
  ·rw [if_neg h2,if_neg h2]
set_option maxRecDepth 4000 in
set_option maxHeartbeats 1000000 in
theorem fitted_any (neg:Bool) (P:Nat) (e:Int) (w:World) (hP:P<9223372036854775808) (e0 : -100000≤e) (e1:e≤100000) :
  Calls Tryz.prog 189 #[.bool neg,.int .u64 P,.int .i64 e] w fun r w'=>r=.returned (resV (fitR neg P e))∧Ext w w':=by
 by_cases h0:P=0
 ·subst h0;have H:Hid (resV (fitR neg 0 e)=.agg #[.bool true,.bool false,.int .i64 0,.int .i64 0]):=rfl;go_enter Tryz.func189,Tryz.ntmps189
  go_wp2
  exact bodyPost_ret (v:=.agg #[.bool true,.bool false,.int .i64 0,.int .i64 0]) (by simp [results,Tryz.results189,go_sem]) rfl ⟨by rw [H.out],x1 _ _⟩
 ·have c0:(((P:Int)) == 0)=false:=by rw [beq_eq_false_iff_ne];omega
  have ST:Hid (∀ (d:Nat) (x:Int),strip d x=strip P e→d % 10 ≠ 0→resV (fitR neg P e)=if 300<x then .agg #[.bool false,.bool false,.int .i64 0,.int .i64 0] else if x < -300 then .agg #[.bool true,.bool false,.int .i64 0,.int .i64 0] else .agg #[.bool true,.bool neg,.int .i64 d,.int .i64 x]):=fun d x h hd=>fit_at h0 (by rw [← h,strip_stop hd]);have hn:nd P≤19:=nd_le (by omega);have HN:=hid hn;clear hn;go_enter Tryz.func189,Tryz.ntmps189;go_wp2_with fail
  go_loop [1,2] (fun v x=>∃ (d:Nat) (y:Int),d ≠ 0∧d<9223372036854775808∧y - e+nd d=nd P∧v=.int .u64 d∧x=.int .i64 y∧strip d y=strip P e) (fun v _=>(intOf v).toNat)
  case atStart=>exact ⟨P,e,h0,hP,by omega,rfl,rfl,rfl⟩
  case round =>
   obtain ⟨d,y,d0,d1,hle,rfl,rfl,hs⟩:=hrel;have y0:y≤100020:=by have:=HN.out;omega
   have y1 : -100020≤y:=by
    have:nd d≤19:=nd_le (by omega);omega
   by_cases hm:d % 10=0
   ·have cm:(((d:Int)) % 10 == 0)=true:=(by rw [beq_iff_eq];omega);have HS:Hid (strip (d / 10) (y+1)=strip P e∧d / 10 ≠ 0∧y+1 - e+nd (d / 10)=nd P):=by
     have:=nd_pos d0;exact ⟨by rw [← strip_ten d0 hm];exact hs,by omega,by omega⟩
    have hd:Hid (((d:Int)) / 10=((d / 10:Nat):Int)):=(by show _=_;omega);clear hs hle c0 h0;go_wp2_with fail
    go_round
    case rel=>exact ⟨d / 10,y+1,HS.out.2.1,by omega,HS.out.2.2,by rw [← hd.out],rfl,HS.out.1⟩
    case measure=>simp [intOf];omega
   ·have cm:(((d:Int)) % 10 == 0)=false:=(by rw [beq_eq_false_iff_ne];omega);have HR:=ST.out d y hs hm;have d0':(0:Int)≤(d:Int):=(by omega);clear hs hle c0 h0 ST hm d0;by_cases h1:300<y
    ·rw [if_pos h1] at HR;have H:=hid HR;clear HR
     go_wp2
     exact bodyPost_ret (v:=.agg #[.bool false,.bool false,.int .i64 0,.int .i64 0]) (by simp [results,Tryz.results189,go_sem]) rfl ⟨by rw [H.out],x1 _ _⟩
    ·rw [if_neg h1] at HR;by_cases h2:y < -300
     ·rw [if_pos h2] at HR;have H:=hid HR;clear HR
      go_wp2
      exact bodyPost_ret (v:=.agg #[.bool true,.bool false,.int .i64 0,.int .i64 0]) (by simp [results,Tryz.results189,go_sem]) rfl ⟨by rw [H.out],x1 _ _⟩
     ·rw [if_neg h2] at HR;have H:=hid HR;clear HR
      go_wp2
      exact bodyPost_ret (v:=.agg #[.bool true,.bool neg,.int .i64 d,.int .i64 y]) (by simp [results,Tryz.results189,go_sem]) rfl ⟨by rw [H.out],x1 _ _⟩
end Go.Proofs.YtjlojlgdkfpcdaaGreatDoor

