import Derived.Test.YteliaeejooekbaaGreatDoorMg1
import Derived.Deep.Strs
import Derived.Stop.LaidErr
import Derived.Test.YteliaeejooekbaaGreatDoorBase
import Derived.Lib.Bytealg
import Derived.Laws.IdiomStrings
set_option maxRecDepth 100000
set_option maxHeartbeats 1000000
namespace Go.Proofs.YteliaeejooekbaaGreatDoor
open Go.RowKit
def memB (L:List (List UInt8)) (l:List UInt8):Bool:=L.any fun t=>t == l
theorem zKQ {L:List (List UInt8)} {l t:List UInt8} {k:Nat} (h:L[k]?=some t) (e:(t == l)=true):memB L l=true:=by
 unfold memB;rw [List.any_eq_true];exact ⟨t,List.mem_of_getElem? h,e⟩
theorem zNH {L:List (List UInt8)} {l:List UInt8} (h:∀ (j:Nat) (t:List UInt8),L[j]?=some t->(t == l)=false):memB L l=false:=by
 unfold memB;rw [List.any_eq_false];intro t ht;obtain ⟨j,hj⟩:=List.getElem?_of_mem ht;rw [h j t hj];decide
def errL:List (List UInt8):=[[35,78,85,76,76,33],[35,68,73,86,47,48,33],[35,86,65,76,85,69,33],[35,82,69,70,33],[35,78,65,77,69,63],[35,78,85,77,33],[35,78,47,65],[35,83,80,73,76,76,33],[35,67,89,67,76,69,33]]
def opsL:List (List UInt8):=[[94],[42],[47],[43],[45],[38],[61],[60],[62],[60,61],[62,61],[60,62]]
theorem inS (L:List (List UInt8)) (l:List UInt8) (g cap:Nat) (w:World) (hL:L.length<=100) (V:Vec w g (L.map sV)) :
  Calls Tryz.prog 121 #[.slice (some ⟨g,0,none⟩) L.length cap,sV l] w fun e w'=>e=.returned (.bool (memB L l))/\w'=w:=by
 obtain ⟨n,hn⟩:=nm (L.length);have HN:Hid _:=hn;have HV:Hid _:=V;have HY:Hid (∀ t (k:Nat),L[k]?=some t->(t == l)=true->memB L l=true):=fun t k h e=>zKQ h e;have HX:Hid ((∀ (j:Nat) t,L[j]?=some t->(t == l)=false)->memB L l=false):=fun h=>zNH h;obtain ⟨R,hR⟩:=nm (memB L l);rw [hR] at HY HX ⊢;rw [hn] at hL ⊢;clear hn V hR;go_enter Tryz.func121,Tryz.ntmps121;go_wp2_with fail
 go_loop [9] (fun i=>∃ k:Nat,k<=n/\i=.int .i64 k/\Hid (∀ (j:Nat) t,j<k->L[j]?=some t->(t == l)=false)) (fun i=>n - (intOf i).toNat)
 case atStart=>exact ⟨0,by omega,rfl,fun j t hj=>by omega⟩
 case round =>
  obtain ⟨k,hk,rfl,HA⟩:=hrel;by_cases hlt:k<n
  ·obtain ⟨t,ht⟩:∃ t,L[k]?=some t:=⟨_,List.getElem?_eq_getElem (by rw [HN.out];exact hlt)⟩;have a0:=(HV.out k (sV t) (by rw [List.getElem?_map,ht];rfl)).1;have i2:(k:Int)<(n:Int):=by omega
   obtain ⟨p,hp⟩:=nm ((t == l));cases p
   ·have HA2:Hid (∀ (j:Nat) t,j<k+1->L[j]?=some t->(t == l)=false):=fun j t' hj h=>by
     rcases Nat.lt_or_ge j k with hjk | hjk
     ·exact HA.out j t' hjk h
     ·obtain rfl:j=k:=(by omega);rw [ht] at h;cases h;exact hp
    clear HA ht;go_wp2_with fail
    go_round
    case rel=>exact ⟨k+1,by omega,by go_num,HA2⟩
    case measure=>simp [intOf];omega
   ·have hr:=HY.out t k ht hp;subst hr;clear HA ht;go_wp2_with fail;go_ret;exact ⟨rfl,rfl⟩
  ·obtain rfl:k=n:=by omega
   have hr:=HX.out (fun j t h=>HA.out j t (by have:=(List.getElem?_eq_some_iff.1 h).1;rw [HN.out] at this;exact this) h);subst hr;clear HA;go_wp2_with fail;go_ret;exact ⟨rfl,rfl⟩
theorem zT7 (w:World):Calls Tryz.prog 95 #[] w fun e w'=>∃ g,e=.returned (.slice (some ⟨g,0,none⟩) 9 9)/\Vec w' g (errL.map sV)/\Ext w w':=by
 go_enter Tryz.func95,Tryz.ntmps95;go_wp2_with fail;go_ret;exact ⟨_,rfl,zA5 w (errL.map sV) 9,x1 _ _⟩
theorem opsS (w:World):Calls Tryz.prog 82 #[] w fun e w'=>∃ g,e=.returned (.slice (some ⟨g,0,none⟩) 12 12)/\Vec w' g (opsL.map sV)/\Ext w w':=by
 go_enter Tryz.func82,Tryz.ntmps82;go_wp2_with fail;go_ret;exact ⟨_,rfl,zA5 w (opsL.map sV) 9,x1 _ _⟩
def zB4 (w:World):Prop:=∀ i t,errL[i]?=some t->w.cell? ⟨1,i,none⟩=some (sV t)
theorem zB4.l {w w':World} (h:zB4 w) (e:Ext w w'):zB4 w':=fun i t ht=>cell_later e (h i t ht)
abbrev errV:Value:=.agg #[sV [35,78,85,76,76,33],sV [35,68,73,86,47,48,33],sV [35,86,65,76,85,69,33],sV [35,82,69,70,33],sV [35,78,65,77,69,63],sV [35,78,85,77,33],sV [35,78,47,65],sV [35,83,80,73,76,76,33],sV [35,67,89,67,76,69,33]]
theorem zTH (W:World):(Instr.index 193 errV (iQ 0)).run Tryz.prog W=.ok (sV [35,78,85,76,76,33]) W:=by kernel_rfl
theorem zTG (W:World):(Instr.index 193 errV (iQ 1)).run Tryz.prog W=.ok (sV [35,68,73,86,47,48,33]) W:=by kernel_rfl
theorem zTF (W:World):(Instr.index 193 errV (iQ 2)).run Tryz.prog W=.ok (sV [35,86,65,76,85,69,33]) W:=by kernel_rfl
theorem zTE (W:World):(Instr.index 193 errV (iQ 3)).run Tryz.prog W=.ok (sV [35,82,69,70,33]) W:=by kernel_rfl
theorem zTD (W:World):(Instr.index 193 errV (iQ 4)).run Tryz.prog W=.ok (sV [35,78,65,77,69,63]) W:=by kernel_rfl
theorem zTC (W:World):(Instr.index 193 errV (iQ 5)).run Tryz.prog W=.ok (sV [35,78,85,77,33]) W:=by kernel_rfl
theorem zTB (W:World):(Instr.index 193 errV (iQ 6)).run Tryz.prog W=.ok (sV [35,78,47,65]) W:=by kernel_rfl
theorem zTA (W:World):(Instr.index 193 errV (iQ 7)).run Tryz.prog W=.ok (sV [35,83,80,73,76,76,33]) W:=by kernel_rfl
theorem zT9 (W:World):(Instr.index 193 errV (iQ 8)).run Tryz.prog W=.ok (sV [35,67,89,67,76,69,33]) W:=by kernel_rfl
theorem zV9 (k:Nat) (hk:k<9):∃ t,errL[k]?=some t/\∀ W:World,(Instr.index 193 errV (iQ k)).run Tryz.prog W=.ok (sV t) W:=by
 match k,hk with
 | 0,_=>exact ⟨_,rfl,zTH⟩
 | 1,_=>exact ⟨_,rfl,zTG⟩
 | 2,_=>exact ⟨_,rfl,zTF⟩
 | 3,_=>exact ⟨_,rfl,zTE⟩
 | 4,_=>exact ⟨_,rfl,zTD⟩
 | 5,_=>exact ⟨_,rfl,zTC⟩
 | 6,_=>exact ⟨_,rfl,zTB⟩
 | 7,_=>exact ⟨_,rfl,zTA⟩
 | 8,_=>exact ⟨_,rfl,zT9⟩
theorem errI (l:List UInt8) (w:World) (hE:zB4 w):Calls Tryz.prog 135 #[sV l] w fun e w'=>e=.returned (.bool (memB errL l))/\w'=w:=by
 have e0:=hE 0 _ rfl;have e1:=hE 1 _ rfl;have e2:=hE 2 _ rfl;have e3:=hE 3 _ rfl;have e4:=hE 4 _ rfl;have e5:=hE 5 _ rfl;have e6:=hE 6 _ rfl;have e7:=hE 7 _ rfl;have e8:=hE 8 _ rfl;have HY:Hid (∀ t (k:Nat),errL[k]?=some t->(t == l)=true->memB errL l=true):=fun t k h e=>zKQ h e;have HX:Hid ((∀ (j:Nat) t,errL[j]?=some t->(t == l)=false)->memB errL l=false):=fun h=>zNH h;obtain ⟨R,hR⟩:=nm (memB errL l);rw [hR] at HY HX ⊢;clear hR hE;go_enter Tryz.func135,Tryz.ntmps135;go_wp2_with fail;clear e0 e1 e2 e3 e4 e5 e6 e7 e8
 go_loop [6] (fun i=>∃ k:Nat,k<=9/\i=.int .i64 k/\Hid (∀ (j:Nat) t,j<k->errL[j]?=some t->(t == l)=false)) (fun i=>9 - (intOf i).toNat)
 case atStart=>exact ⟨0,by omega,rfl,fun j t hj=>by omega⟩
 case round =>
  obtain ⟨k,hk,rfl,HA⟩:=hrel;by_cases hlt:k<9
  ·obtain ⟨t,ht,hix⟩:=zV9 k hlt;have i2:(k:Int)<9:=by omega
   obtain ⟨p,hp⟩:=nm ((t == l));cases p
   ·have HA2:Hid (∀ (j:Nat) t,j<k+1->errL[j]?=some t->(t == l)=false):=fun j t' hj h=>by
     rcases Nat.lt_or_ge j k with hjk | hjk
     ·exact HA.out j t' hjk h
     ·obtain rfl:j=k:=(by omega);rw [ht] at h;cases h;exact hp
    clear HA ht;go_wp2_with fail
    go_round
    case rel=>exact ⟨k+1,by omega,by go_num,HA2⟩
    case measure=>simp [intOf];omega
   ·have hr:=HY.out t k ht hp;subst hr;clear HA ht;go_wp2_with fail;go_ret;exact ⟨rfl,rfl⟩
  ·obtain rfl:k=9:=by omega
   have hr:=HX.out (fun j t h=>HA.out j t (by have:=(List.getElem?_eq_some_iff.1 h).1;simpa [errL] using this) h);subst hr;clear HA;go_wp2_with fail;go_ret;exact ⟨rfl,rfl⟩
end Go.Proofs.YteliaeejooekbaaGreatDoor
namespace Go.Proofs.YteliaeejooekbaaGreatDoor
open Go.ChangeShapes Go.WideShapes Go.ChangeAt Go.RowKit
theorem zT2:Tryz.prog.globalNamed "loop.example/g00025/impl.errorTexts" = some 1:=by kernel_rfl
theorem zIX:(Tryz.prog.globals[1]?).map (·.type)=some 193:=by kernel_rfl
theorem zI5:Tryz.prog.cellsOf 9=1:=by kernel_rfl
theorem zBR {H:Type} {enc:TypeId × Value->H} {w:World} {base:Nat} {sp:Nat->Bool} {held:Bool} {fuel:Nat} {cs:List Value} {l:List UInt8} {p:List MemPlace} (o:Nat)
  (h:DataW.trod enc Tryz.prog w base sp held fuel 9 ((cs.drop (o * Tryz.prog.cellsOf 9)).take (Tryz.prog.cellsOf 9))=some (.lit (.string l),p)):cs[o]?=some (sV l):=by
 rw [zI5,Nat.mul_one] at h;obtain ⟨s,hc,hx,_⟩:=DataW.trod_string Tryz.underlying9 h;simp only [Prod.mk.injEq,DataW.lit.injEq,Lit.string.injEq] at hx;have:=congrArg (·[0]?) hc;simp only [List.getElem?_take,List.getElem?_drop,List.getElem?_cons_zero] at this;have hs:s=⟨l.toArray⟩:=by
  cases s;rw [hx.1]
 rw [hs] at this;simpa using this
theorem zT6 {rest:List (String × DataW Unit)} {W:World} (h:laidMet Tryz.prog (("loop.example/g00025/impl.errorTexts", Rows.laid_loop_example_g00025_impl_errorTexts) :: rest) W):zB4 W:=by
 obtain ⟨ps,⟨g',t',cs,fuel,p,q,hg',ht',hvar,hd,_,_⟩,_⟩:=h;obtain rfl:=Option.some.inj (zT2.symm.trans hg');obtain rfl:=Option.some.inj (zIX.symm.trans ht');have C:=fun i v (h:cs.toList[i]?=some v)=>(World.var?_cell zT2 hvar i).trans (by simpa using h);intro i t hi;have h9:i<9:=(List.getElem?_eq_some_iff.1 hi).1
 match i,h9,hi with
 | 0,h9,hi=>cases hi;obtain ⟨_,_,k⟩:=zAJ Tryz.underlying193 hd 0 h9 _ rfl;exact C 0 _ (zBR 0 k)
 | 1,h9,hi=>cases hi;obtain ⟨_,_,k⟩:=zAJ Tryz.underlying193 hd 1 h9 _ rfl;exact C 1 _ (zBR 1 k)
 | 2,h9,hi=>cases hi;obtain ⟨_,_,k⟩:=zAJ Tryz.underlying193 hd 2 h9 _ rfl;exact C 2 _ (zBR 2 k)
 | 3,h9,hi=>cases hi;obtain ⟨_,_,k⟩:=zAJ Tryz.underlying193 hd 3 h9 _ rfl;exact C 3 _ (zBR 3 k)
 | 4,h9,hi=>cases hi;obtain ⟨_,_,k⟩:=zAJ Tryz.underlying193 hd 4 h9 _ rfl;exact C 4 _ (zBR 4 k)
 | 5,h9,hi=>cases hi;obtain ⟨_,_,k⟩:=zAJ Tryz.underlying193 hd 5 h9 _ rfl;exact C 5 _ (zBR 5 k)
 | 6,h9,hi=>cases hi;obtain ⟨_,_,k⟩:=zAJ Tryz.underlying193 hd 6 h9 _ rfl;exact C 6 _ (zBR 6 k)
 | 7,h9,hi=>cases hi;obtain ⟨_,_,k⟩:=zAJ Tryz.underlying193 hd 7 h9 _ rfl;exact C 7 _ (zBR 7 k)
 | 8,h9,hi=>cases hi;obtain ⟨_,_,k⟩:=zAJ Tryz.underlying193 hd 8 h9 _ rfl;exact C 8 _ (zBR 8 k)
theorem zHQ:∀ g t,Tryz.prog.globalNamed "loop.example/g00025/impl.errorTexts" = some g->(Tryz.prog.globals[g]?).map (·.type)=some t->Tryz.prog.readableRec t=true/\t<Tryz.prog.types.size:=by
 intro g t hg ht;obtain rfl:=Option.some.inj (zT2.symm.trans hg);obtain rfl:=Option.some.inj (zIX.symm.trans ht);exact ⟨by kernel_rfl,of_decide_eq_true (by kernel_rfl)⟩
end Go.Proofs.YteliaeejooekbaaGreatDoor
namespace Go.Proofs.YteliaeejooekbaaGreatDoor
open Go.RowKit
def colN (n:Nat):List UInt8:=if n<=26 then [UInt8.ofNat (64+n)] else [UInt8.ofNat (64+(n - 1) / 26),UInt8.ofNat (65+(n - 1) % 26)]
def zAM (n:Int):List UInt8:=if 1<=n/\n<=200 then colN n.toNat else []
def zAI (c:UInt8):Bool:=decide (65<=c.toNat/\c.toNat<=90)
def zUU (a:Nat) (c:UInt8):Nat:=a * 26+(c.toNat - 64)
def valF (acc:Nat) (l:List UInt8):Nat:=l.foldl zUU acc
theorem zFQ (acc:Nat):valF acc []=acc:=by unfold valF;exact List.foldl_nil
theorem zDV (acc:Nat) (c:UInt8) (r:List UInt8):valF acc (c :: r)=valF (acc * 26+(c.toNat - 64)) r:=by unfold valF;rw [List.foldl_cons,zUU]
theorem zK6 (acc:Nat) (a b:List UInt8):valF acc (a++b)=valF (valF acc a) b:=by unfold valF;rw [List.foldl_append]
def colV (l:List UInt8):Int:=if l.all zAI=true/\valF 0 l<=200 then valF 0 l else 0
def zDQ (m:Nat):List UInt8:=if m=0 then [] else colN m
theorem zGD:∀ m:Nat,m<201->1<=m->zDQ m=zDQ ((m - 1) / 26)++[UInt8.ofNat (65+(m - 1) % 26)]:=by decide +kernel
theorem zF5:∀ n:Nat,n<201->1<=n->valF 0 (colN n)=n/\(colN n).all zAI=true/\(colN n).length<=2/\1<=(colN n).length:=by decide +kernel
theorem zHH:∀ (l:List UInt8) (acc:Nat),l.all zAI=true->acc<=valF acc l/\(1<=l.length->acc * 26+1<=valF acc l)
 | [],acc,_=>⟨Nat.le_refl _,fun h=>absurd h (by decide)⟩
 | c :: r,acc,h=>by
  simp only [List.all_cons,Bool.and_eq_true,zAI,decide_eq_true_eq] at h;have:=(zHH r (acc * 26+(c.toNat - 64)) h.2).1;rw [zDV];omega
theorem zHZ {l:List UInt8} (h:l.all zAI=true) (hl:3<=l.length):200<valF 0 l:=by
 obtain ⟨a,b,c,r,rfl⟩:∃ a b c r,l=a :: b :: c :: r:=by
  cases l with
  | nil=>simp at hl
  | cons a l =>
   cases l with
   | nil=>simp at hl
   | cons b l =>
    cases l with
    | nil=>simp at hl
    | cons c r=>exact ⟨a,b,c,r,rfl⟩
 simp only [List.all_cons,Bool.and_eq_true,zAI,decide_eq_true_eq] at h;have:=(zHH r ((((0 * 26+(a.toNat - 64)) * 26)+(b.toNat - 64)) * 26+(c.toNat - 64)) h.2.2.2).1;rw [zDV,zDV,zDV];omega
theorem zNT {c:UInt8} (h:zAI c=true):∃ a:Nat,a<26/\c=UInt8.ofNat (65+a):=by
 simp only [zAI,decide_eq_true_eq] at h;refine ⟨c.toNat - 65,by omega,?_⟩;rw [show 65+(c.toNat - 65)=c.toNat by omega];simp
theorem zQL:∀ a:Nat,a<26->colN (valF 0 [UInt8.ofNat (65+a)])=[UInt8.ofNat (65+a)]:=by decide +kernel
theorem zQK:∀ a:Nat,a<26->∀ b:Nat,b<26->colN (valF 0 [UInt8.ofNat (65+a),UInt8.ofNat (65+b)])=[UInt8.ofNat (65+a),UInt8.ofNat (65+b)]:=by decide +kernel
theorem zTN {l:List UInt8} (h:l.all zAI=true) (h1:1<=l.length) (h2:l.length<=2):colN (valF 0 l)=l:=by
 match l,h,h1,h2 with
 | [a],h,_,_ =>
  obtain ⟨x,hx,rfl⟩:=zNT (c:=a) (by simpa using h);exact zQL x hx
 | [a,b],h,_,_ =>
  simp only [List.all_cons,Bool.and_eq_true] at h;obtain ⟨x,hx,rfl⟩:=zNT h.1;obtain ⟨y,hy,rfl⟩:=zNT h.2.1;exact zQK x hx y hy
theorem zM5 {l:List UInt8} (h:l.all zAI=true) (hv:valF 0 l<=200):zAM (valF 0 l)=l:=by
 have h2:l.length<=2:=by
  rcases Nat.lt_or_ge l.length 3 with k | k
  ·omega
  ·have:=zHZ h k;omega
 cases l with
 | nil=>rfl
 | cons a r =>
  have h1:=(zHH (a :: r) 0 h).2 (by simp);rw [zAM,if_pos (by omega),Int.toNat_natCast];exact zTN h (by simp) h2
theorem zOM {n:Int} (h1:1<=n) (h2:n<=200):colV (colN n.toNat)=n:=by
 obtain ⟨a,b,_,_⟩:=zF5 n.toNat (by omega) (by omega);rw [colV,if_pos ⟨b,by omega⟩,a];omega
theorem zOL {l t:List UInt8} (ht:t=l.take 4):(if zAM (valF 0 t)=l then (valF 0 t:Int) else 0)=colV l:=by
 by_cases hg:l.all zAI=true/\valF 0 l<=200
 ·have h2:l.length<=2:=by
   rcases Nat.lt_or_ge l.length 3 with k | k
   ·omega
   ·have:=zHZ hg.1 k;omega
  have e:t=l:=by rw [ht,List.take_of_length_le (by omega)]
  rw [e,zM5 hg.1 hg.2,if_pos rfl,colV,if_pos hg]
 ·rw [colV,if_neg hg,if_neg];intro hc;apply hg;unfold zAM at hc
  split at hc
  ·rename_i hr;obtain ⟨a,b,_,_⟩:=zF5 (valF 0 t:Int).toNat (by omega) (by omega);rw [hc] at a b;exact ⟨b,by omega⟩
  ·subst hc;exact ⟨rfl,by rw [zFQ];omega⟩
theorem zQI {l t:List UInt8} (ht:t=l.take 4) (h:¬ t.all zAI=true):colV l=0:=by
 rw [colV,if_neg];intro hg;apply h;rw [ht];rw [List.all_eq_true] at hg ⊢;exact fun x hx=>hg.1 x (List.mem_of_mem_take hx)
theorem zL1 {p r:List UInt8} {c:UInt8} (h:zAI c=false\/(p.all zAI=true/\zAI c=true/\200<valF 0 (p++[c]))):colV (p++c :: r)=0:=by
 rw [colV,if_neg];rintro ⟨h1,h2⟩
 rcases h with h | ⟨hp,hc,hv⟩
 ·simp [h] at h1
 ·have e:p++c :: r=(p++[c])++r:=by simp
  rw [e,zK6] at h2;have:=(zHH r (valF 0 (p++[c])) (by rw [List.all_eq_true] at h1 ⊢;intro x hx;exact h1 x (by simp [hx]))).1;omega
theorem zHY (p:List UInt8) (c:UInt8):valF 0 (p++[c])=valF 0 p * 26+(c.toNat - 64):=by
 rw [zK6,zDV,zFQ]
def letters:List UInt8:=[65,66,67,68,69,70,71,72,73,74,75,76,77,78,79,80,81,82,83,84,85,86,87,88,89,90]
theorem zO3:∀ n:Nat,n<256->Lib.indexByte letters (UInt8.ofNat n)=if 65<=n/\n<=90 then (n:Int) - 65 else -1:=by decide +kernel
theorem zIR (c:UInt8):Lib.indexByte letters c=if zAI c then (c.toNat:Int) - 65 else -1:=by
 have h:=zO3 c.toNat (UInt8.toNat_lt c);rw [UInt8.ofNat_toNat] at h;rw [h,zAI];simp
theorem zGM (c:UInt8):letters.contains c=zAI c:=by
 have h:∀ n:Nat,n<256->letters.contains (UInt8.ofNat n)=zAI (UInt8.ofNat n):=by decide +kernel
 have:=h c.toNat (UInt8.toNat_lt c)
 rwa [UInt8.ofNat_toNat] at this
abbrev refV (r c:Int) (rf cf:Bool):Value:=.agg #[iQ r,iQ c,.bool rf,.bool cf]
def zAL (r c:Int):Bool:=decide ((1<=r/\r<=1000)/\(1<=c/\c<=200))
theorem zUY (n:Int) (w:World) :
  Calls Tryz.prog 86 #[iQ n] w fun e w'=>e=.returned (.bool (decide (1<=n/\n<=1000)))/\w'=w:=by
 go_enter Tryz.func86,Tryz.ntmps86
 go_wp2
 all_goals go_ret
 all_goals refine ⟨zA1 ?_,rfl⟩
 all_goals simp_all
 all_goals (intros;omega)
theorem zO0 (n:Int) (w:World) :
  Calls Tryz.prog 87 #[iQ n] w fun e w'=>e=.returned (.bool (decide (1<=n/\n<=200)))/\w'=w:=by
 go_enter Tryz.func87,Tryz.ntmps87
 go_wp2
 all_goals go_ret
 all_goals refine ⟨zA1 ?_,rfl⟩
 all_goals simp_all
 all_goals (intros;omega)
theorem zGJ (r c:Int) (rf cf:Bool) (w:World) :
  Calls Tryz.prog 70 #[refV r c rf cf] w fun e w'=>e=.returned (.bool (zAL r c))/\Ext w w':=by
 have C1:=fun w=>zUY r w;have C2:=fun w=>zO0 c w;have e:zAL r c=(decide (1<=r/\r<=1000) && decide (1<=c/\c<=200)):=by unfold zAL;simp
 rw [e];obtain ⟨c1,h1⟩:=nm (decide (1<=r/\r<=1000));obtain ⟨c2,h2⟩:=nm (decide (1<=c/\c<=200));rw [h1] at C1 ⊢;rw [h2] at C2 ⊢;clear h1 h2 e;go_enter Tryz.func70,Tryz.ntmps70;cases c1 <;> cases c2
 all_goals go_wp2_with (first | (go_at_call 86;refine (C1 _).mono ?_;rintro e w' ⟨rfl,rfl⟩) | (go_at_call 87;refine (C2 _).mono ?_;rintro e w' ⟨rfl,rfl⟩))
 all_goals go_ret
 all_goals exact ⟨rfl,x1 _ _⟩
theorem zCJ (r c:Int) (rf cf:Bool) (w:World) :
  Calls Tryz.prog 30 #[refV r c rf cf] w fun e w'=>e=.returned (.bool (zAL r c))/\Ext w w':=by
 go_enter Tryz.func30,Tryz.ntmps30
 go_wp2
 all_goals go_ret
 all_goals refine ⟨zA1 ?_,?_⟩
 all_goals first | exact x1 _ _ | skip
 all_goals simp_all [zAL]
 all_goals (intros;omega)
theorem zKS:∀ a:Nat,a<26->((⟨#[65,66,67,68,69,70,71,72,73,74,75,76,77,78,79,80,81,82,83,84,85,86,87,88,89,90]⟩:ByteArray).extract a (a+1)).data.toList=[UInt8.ofNat (65+a)]:=by decide +kernel
theorem zJY (n:Int) (w:World) (h1:1<=n) (h2:n<=200) :
  Calls Tryz.prog 189 #[iQ n] w fun e w'=>∃ s,e=.returned (.string s)/\s.data.toList=colN n.toNat/\w'=w:=by
 have C1:=fun w=>zO0 n w;simp only [show (1<=n/\n<=200) from ⟨h1,h2⟩,and_self,decide_true] at C1;go_enter Tryz.func189,Tryz.ntmps189;go_wp2_with (first | (go_at_call 87;refine (C1 _).mono ?_;rintro e w' ⟨rfl,rfl⟩))
 go_loop [0,3] (fun a b=>∃ (m:Nat) (s:ByteArray),a=.int .i64 m/\b=.string s/\m<=200/\Hid (zDQ m++s.data.toList=colN n.toNat)/\s.size+m<=200) (fun a _=>(intOf a).toNat)
 case atStart=>exact ⟨n.toNat,_,by rw [Int.toNat_of_nonneg (by omega)],rfl,by omega,by show zDQ n.toNat++[]=_;unfold zDQ;rw [if_neg (by omega),List.append_nil],by show 0+n.toNat<=200;omega⟩
 case round =>
  obtain ⟨m,s,rfl,rfl,hm,HN,HS⟩:=hrel;by_cases hm0:m=0
  ·subst hm0;have HE:Hid (s.data.toList=colN n.toNat):=HN.out;go_wp2_with fail;go_ret;exact ⟨s,rfl,HE.out,rfl⟩
  ·have hm1:(1:Int)<=m:=by omega
   obtain ⟨a,ha⟩:∃ a:Nat,(m - 1) % 26=a:=⟨_,rfl⟩;obtain ⟨q,hq⟩:∃ q:Nat,(m - 1) / 26=q:=⟨_,rfl⟩;have ha':((m:Int) - 1).tmod 26=(a:Int):=by rw [Int.tmod_eq_emod_of_nonneg (by omega)];omega
   have hq':((m:Int) - 1).tdiv 26=(q:Int):=by rw [Int.tdiv_eq_ediv_of_nonneg (by omega)];omega
   have a26:a<26:=by omega
   have q200:q<m:=by omega
   have HN2:Hid (zDQ q++((⟨#[65,66,67,68,69,70,71,72,73,74,75,76,77,78,79,80,81,82,83,84,85,86,87,88,89,90]⟩:ByteArray).extract a (a+1)++s).data.toList=colN n.toNat):=by
    have h:=HN.out;rw [zGD m (by omega) (by omega),ha,hq] at h;have e:=zKS a a26;show zDQ q++_=_;rw [ByteArray.data_append,Array.toList_append,e,<- List.append_assoc];exact h
   have hmin:min (a+1) 26 - a=1:=by omega
   clear HN ha hq;go_wp2_with fail
   go_round
   case rel=>exact ⟨q,_,rfl,rfl,by omega,HN2,by
    have:((⟨#[65,66,67,68,69,70,71,72,73,74,75,76,77,78,79,80,81,82,83,84,85,86,87,88,89,90]⟩:ByteArray).extract a (a+1)).size=1:=(by rw [zBJ (zKS a a26)];rfl);rw [ByteArray.size_append,this];omega⟩
   case measure=>simp [intOf];omega
theorem zQJ (n:Int) (w:World) :
  Calls Tryz.prog 189 #[iQ n] w fun e w'=>∃ s,e=.returned (.string s)/\s.data.toList=zAM n/\w'=w:=by
 by_cases h:1<=n/\n<=200
 ·rw [zAM,if_pos h];exact zJY n w h.1 h.2
 ·rw [zAM,if_neg h];have C1:=fun w=>zO0 n w;simp only [h,decide_false] at C1;go_enter Tryz.func189,Tryz.ntmps189;go_wp2_with (first | (go_at_call 87;refine (C1 _).mono ?_;rintro e w' ⟨rfl,rfl⟩));go_ret;exact ⟨_,rfl,rfl,rfl⟩
theorem zJX (n:Int) (w:World) (h1:1<=n) (h2:n<=200) :
  Calls Tryz.prog 179 #[iQ n] w fun e w'=>∃ s,e=.returned (.string s)/\s.data.toList=colN n.toNat/\Ext w w':=by
 have f1:decide (n<1)=false:=by simp;omega
 have f2:decide (n > 200)=false:=by simp;omega
 go_enter Tryz.func179,Tryz.ntmps179;go_wp2_with fail;go_loopw [0,3] (fun a b wr=>∃ (m:Nat) (s:ByteArray),a=.int .i64 m/\b=.string s/\m<=200/\Hid (zDQ m++s.data.toList=colN n.toNat)/\s.size+m<=200/\Ext w wr) (fun a _ _=>(intOf a).toNat)
 case atStart=>exact ⟨n.toNat,_,by rw [Int.toNat_of_nonneg (by omega)],rfl,by omega,by show zDQ n.toNat++[]=_;unfold zDQ;rw [if_neg (by omega),List.append_nil],by show 0+n.toNat<=200;omega,xr _⟩
 case round =>
  obtain ⟨m,s,rfl,rfl,hm,HN,HS,X⟩:=hrel;by_cases hm0:m=0
  ·subst hm0;have HE:Hid (s.data.toList=colN n.toNat):=HN.out;go_wp2_with fail;go_ret;exact ⟨s,rfl,HE.out,X⟩
  ·have hm1:(1:Int)<=m:=by omega
   obtain ⟨a,ha⟩:∃ a:Nat,(m - 1) % 26=a:=⟨_,rfl⟩;obtain ⟨q,hq⟩:∃ q:Nat,(m - 1) / 26=q:=⟨_,rfl⟩;have ha':((m:Int) - 1).tmod 26=(a:Int):=by rw [Int.tmod_eq_emod_of_nonneg (by omega)];omega
   have hq':((m:Int) - 1).tdiv 26=(q:Int):=by rw [Int.tdiv_eq_ediv_of_nonneg (by omega)];omega
   have a26:a<26:=by omega
   have q200:q<m:=by omega
   have hcv:=run_convert_bytes_back (P:=Tryz.prog) (wr.alloc (.cells #[.int .u8 (65+(a:Int))] 5)) 22 9 5 ⟨wr.heap.size,0,none⟩ 1 [UInt8.ofNat (65+a)] Tryz.underlying22 Tryz.underlying5 Tryz.underlying9 (fun j hj=>by
    have hj':j=0:=(by simpa using hj);subst hj';simp [go_sem];omega)
   rw [List.length_singleton] at hcv;obtain ⟨t,ht⟩:∃ t:ByteArray,(⟨[UInt8.ofNat (65+a)].toArray⟩:ByteArray)=t:=⟨_,rfl⟩;rw [ht] at hcv;have hts:t.data.toList=[UInt8.ofNat (65+a)]:=by rw [<- ht]
   have htz:=zBJ hts;have HN2:Hid (zDQ q++(t++s).data.toList=colN n.toNat):=by
    have h:=HN.out;rw [zGD m (by omega) (by omega),ha,hq] at h;show zDQ q++_=_;rw [ByteArray.data_append,Array.toList_append,hts,<- List.append_assoc];exact h
   simp only [List.length_singleton] at htz;clear ha hq hts ht HN;go_wp2_with fail;go_roundw
   case rel=>exact ⟨q,_,rfl,rfl,by omega,HN2,by rw [ByteArray.size_append];omega,xa X _⟩
   case measure=>simp [intOf];omega
theorem zL2 (n:Int) (w:World) :
  Calls Tryz.prog 179 #[iQ n] w fun e w'=>∃ s,e=.returned (.string s)/\s.data.toList=zAM n/\Ext w w':=by
 by_cases h:1<=n/\n<=200
 ·rw [zAM,if_pos h];exact zJX n w h.1 h.2
 ·rw [zAM,if_neg h];by_cases h1:n<1
  ·have f1:decide (n<1)=true:=by simp;omega
   go_enter Tryz.func179,Tryz.ntmps179;go_wp2_with fail;go_ret;exact ⟨_,rfl,rfl,xr _⟩
  ·have f1:decide (n<1)=false:=by simp;omega
   have f2:decide (n > 200)=true:=by simp;omega
   go_enter Tryz.func179,Tryz.ntmps179;go_wp2_with fail;go_ret;exact ⟨_,rfl,rfl,xr _⟩
theorem zHT {s t:ByteArray} {l:List UInt8} (h:s.data.toList=l) (k:t.data.toList=l):s=t:=by
 cases s;cases t;simp only [ByteArray.mk.injEq];exact Array.toList_inj.1 (h.trans k.symm)
theorem zG3 {s t:ByteArray} (h:s.toList=t.toList):s=t:=by
 rw [ByteArray.toList_eq,ByteArray.toList_eq] at h;exact zHT rfl h.symm
theorem zR1 {t s:ByteArray} (h:(!t.toList == s.toList)=true):¬ t=s:=by rintro rfl;simp at h
theorem zR2 {t s:ByteArray} (h:(!t.toList == s.toList)=false):t=s:=zG3 (by simpa using h)
theorem zMN {t s:ByteArray} (h:¬ t=s):(t.toList == s.toList)=false:=by
 rw [beq_eq_false_iff_ne];exact fun q=>h (zG3 q)
end Go.Proofs.YteliaeejooekbaaGreatDoor
