/-
  Several texts in one: L5, L6, L7, Sd4, Sto, Stc.
-/
import Derived.Test.YtjlojlgdkfpcdaaGreatDoorMg32
import Derived.Test.YtjlojlgdkfpcdaaGreatDoorShelc
import Derived.BigRegion
import Derived.Test.YtjlojlgdkfpcdaaGreatDoorMg20
import Derived.Test.YtjlojlgdkfpcdaaGreatDoorMg29
import Derived.Test.YtjlojlgdkfpcdaaGreatDoorMg31
import Derived.Test.YtjlojlgdkfpcdaaGreatDoorMg28
import Derived.Test.YtjlojlgdkfpcdaaGreatDoorMg23
import Derived.Lib.Builder
import Derived.Test.YtjlojlgdkfpcdaaGreatDoorMg0
import Derived.Deep.MidRow
import Derived.Test.YtjlojlgdkfpcdaaGreatDoorMg1
set_option maxRecDepth 8000
set_option maxHeartbeats 8000000
namespace Go.Proofs.YtjlojlgdkfpcdaaGreatDoor
open Go.RowKit
theorem extraK:Builder.Extra Tryz.prog layRepeat_ren:={
 sizeBuilder:=by kernel_rfl
 liesBuilder:=by kernel_rfl
 t5:=layRepeat.t5
 a5:=layRepeat.a5
 z5:=layRepeat.z5
 v5:=layRepeat.v5
 infoByte:=by kernel_rfl
 cellsByte:=by kernel_rfl
 sizeByte:=by kernel_rfl
 neB5:=by decide }
theorem zVW:layRepeat_ren.f 105=45:=by kernel_rfl
theorem zJL (c:UInt8) (n:Nat):repF [c] n=List.replicate n c:=by
 induction n with
 | zero=>rfl
 | succ n ih=>rw [List.replicate_succ',<- ih];rfl
theorem zG7 (c:UInt8) (n:Nat) (hn:n<=1000) (w:World) :
  Calls Tryz.prog 45 #[sV [c],iQ (n:Int)] w fun e w'=>e=.returned (sV (repF [c] n))/\Ext w w':=by
 have h:=Any.strings_Repeat layRepeat extraK ⟨#[c]⟩ n w (by omega) (by show 1 * n<=_;omega);rw [zVW] at h;refine h.mono fun e w' ⟨he,hw⟩=>⟨?_,hw⟩;rw [he,zJL];have e:=Lib.repeatL_replicate c 1 n;simp only [Nat.mul_one] at e;rw [<- e];rfl
theorem quoI (s:BL) (hs:s.length<=2000000) (w:World):Calls Tryz.prog 44 #[sV s] w fun e w'=>e=.returned (sV (quoB s))/\w'=w:=by
 by_cases h:s=[]
 ·subst h;go_enter Tryz.func44,Tryz.ntmps44;go_wp2_with fail;go_ret;exact ⟨rfl,rfl⟩
 ·have he:(s == [])=false:=by rw [beq_eq_false_iff_ne];exact h
  have HQ:Hid (quoB s=34 :: (s++[34])):=zJN h;have z:=szB s;go_enter Tryz.func44,Tryz.ntmps44;go_wp2_with fail;go_ret;exact ⟨by rw [HQ.out];simp only [zAE];rfl,rfl⟩
theorem zUK (x y z u:Int):∃ m,(∀ W:World,(Builtin.min_ #[3,3,3,3] 3 #[iQ x,iQ y,iQ z,iQ u]).run Tryz.prog W=.ok (iQ m) W)/\(0<=m ↔ (0<=x/\0<=y/\0<=z/\0<=u)):=by
 refine ⟨(if u<(if z<(if y<x then y else x) then z else (if y<x then y else x)) then u else (if z<(if y<x then y else x) then z else (if y<x then y else x))),fun W=>by simp [Builtin.min_,Builtin.min2],?_⟩
 repeat' split
 all_goals omega
theorem zUL (x y z u:Int):∃ m,(∀ W:World,(Builtin.max_ #[3,3,3,3] 3 #[iQ x,iQ y,iQ z,iQ u]).run Tryz.prog W=.ok (iQ m) W)/\(m<=9 ↔ (x<=9/\y<=9/\z<=9/\u<=9)):=by
 refine ⟨(if u > (if z > (if y > x then y else x) then z else (if y > x then y else x)) then u else (if z > (if y > x then y else x) then z else (if y > x then y else x))),fun W=>by simp [Builtin.max_,Builtin.max2],?_⟩
 repeat' split
 all_goals omega
def cntB (f:KT):Bool:=decide (0<=f.wh/\0<=f.pl/\0<=f.mb/\0<=f.tm/\f.wh<=9/\f.pl<=9/\f.mb<=9/\f.tm<=9)
theorem cntI (f:KT) (w:World):Calls Tryz.prog 19 #[.agg f.cells.toArray] w fun e w'=>e=.returned (.bool (cntB f))/\Ext w w':=by
 obtain ⟨ng,bf,af,wh,pl,mb,gr,tm,dt⟩:=f;have V0:=zA2 w (KT.cells ⟨ng,bf,af,wh,pl,mb,gr,tm,dt⟩) 28;have X0:=x1 w (.cells (KT.cells ⟨ng,bf,af,wh,pl,mb,gr,tm,dt⟩).toArray 28);obtain ⟨w0,hw0⟩:=nm (w.alloc (.cells (KT.cells ⟨ng,bf,af,wh,pl,mb,gr,tm,dt⟩).toArray 28));rw [hw0] at V0 X0;have hw0:w.alloc (.cells #[.bool ng,sV bf,sV af,iQ wh,iQ pl,iQ mb,.bool gr,iQ tm,sV dt] 28)=w0:=hw0;have a3:=(V0 3 _ rfl).1;have a4:=(V0 4 _ rfl).1;have a5:=(V0 5 _ rfl).1;have a7:=(V0 7 _ rfl).1;clear V0;obtain ⟨mn,hmn,h1⟩:=zUK wh pl mb tm;obtain ⟨mx,hmx,h2⟩:=zUL wh pl mb tm;have HB:Hid (cntB ⟨ng,bf,af,wh,pl,mb,gr,tm,dt⟩=(decide (0<=mn) && decide (mx<=9))):=by
  show _=_;unfold cntB;rw [<- Bool.decide_and]
  congr 1
  rw [h1,h2];dsimp only;apply propext;constructor
  ·rintro ⟨q1,q2,q3,q4,q5,q6,q7,q8⟩;exact ⟨⟨q1,q2,q3,q4⟩,q5,q6,q7,q8⟩
  ·rintro ⟨⟨q1,q2,q3,q4⟩,q5,q6,q7,q8⟩;exact ⟨q1,q2,q3,q4,q5,q6,q7,q8⟩
 obtain ⟨R,hR⟩:=nm (cntB ⟨ng,bf,af,wh,pl,mb,gr,tm,dt⟩);rw [hR] at HB ⊢;clear hR h1 h2;go_enter Tryz.func19,Tryz.ntmps19;go_wp2_with fail;go_quiet (fail);clear a3 a4 a5 a7 hmn hmx
 all_goals
  by_cases g1:0<=mn
  ·go_wp2_with fail;go_ret;exact ⟨zA5 (by rw [HB.out,decide_eq_true g1,Bool.true_and]),xdNk X0 _⟩
  ·have g2:mn<0:=by omega
   go_wp2_with fail;go_ret;exact ⟨zA5 (by rw [HB.out,decide_eq_false (show ¬ 0<=mn by omega),Bool.false_and]),xdNk X0 _⟩
def zBB (f:KT):BL:=quoB f.bf++(if f.gr then [35,44] else [])++repF [48] f.wh.toNat++(if (decide (0<f.pl+f.mb)) then 46 :: (repF [48] f.pl.toNat++repF [35] f.mb.toNat) else [])++repF [37] f.tm.toNat++f.dt++quoB f.af
theorem codePI (f:KT) (w:World) (hc:cntB f=true) (hb:f.bf.length<=1048576) (ha:f.af.length<=1048576) (hd:f.dt.length<=1048576) :
  Calls Tryz.prog 20 #[.agg f.cells.toArray] w fun e w'=>e=.returned (sV (zBB f))/\Ext w w':=by
 obtain ⟨ng,bf,af,wh,pl,mb,gr,tm,dt⟩:=f;dsimp only at hb ha hd;have hcc:0<=wh/\0<=pl/\0<=mb/\0<=tm/\wh<=9/\pl<=9/\mb<=9/\tm<=9:=of_decide_eq_true hc;obtain ⟨m1,rfl⟩:∃ n:Nat,wh=n:=⟨wh.toNat,by omega⟩;obtain ⟨m2,rfl⟩:∃ n:Nat,pl=n:=⟨pl.toNat,by omega⟩;obtain ⟨m3,rfl⟩:∃ n:Nat,mb=n:=⟨mb.toNat,by omega⟩;obtain ⟨m4,rfl⟩:∃ n:Nat,tm=n:=⟨tm.toNat,by omega⟩;have b1:m1<=9:=by omega
 have b2:m2<=9:=by omega
 have b3:m3<=9:=by omega
 have b4:m4<=9:=by omega
 clear hc hcc;obtain ⟨C,hC⟩:=nm (zBB ⟨ng,bf,af,m1,m2,m3,gr,m4,dt⟩);obtain ⟨Q1,hQ1⟩:=nm (quoB bf);obtain ⟨Q2,hQ2⟩:=nm (quoB af);obtain ⟨G,hG⟩:=nm ((if gr then ([35,44]:BL) else []));obtain ⟨FL,hFL⟩:=nm (decide (0<(m2:Int)+(m3:Int)));obtain ⟨y1,hy1⟩:=nm (repF [48] m1);obtain ⟨y2,hy2⟩:=nm (repF [48] m2);obtain ⟨y3,hy3⟩:=nm (repF [35] m3);obtain ⟨y4,hy4⟩:=nm (repF [37] m4);obtain ⟨P,hP⟩:=nm ((if FL then (46 :: (y2++y3):BL) else []));have HC:Hid (Q1++G++y1++P++y4++dt++Q2=C):=by
  show _=_;rw [<- hC,<- hP,<- hG,<- hQ1,<- hQ2,<- hFL,<- hy1,<- hy2,<- hy3,<- hy4];unfold zBB;simp
 have C1:=fun W=>quoI bf (by omega) W;have C2:=fun W=>quoI af (by omega) W;simp only [hQ1] at C1;simp only [hQ2] at C2;have R1:=fun W=>zG7 48 m1 (by omega) W;have R2:=fun W=>zG7 48 m2 (by omega) W;have R3:=fun W=>zG7 35 m3 (by omega) W;have R4:=fun W=>zG7 37 m4 (by omega) W;simp only [hy1] at R1;simp only [hy2] at R2;simp only [hy3] at R3;simp only [hy4] at R4;have l1:Q1.length<=1048578:=by have:=zC8 bf;rw [hQ1] at this;omega
 have l2:Q2.length<=1048578:=by have:=zC8 af;rw [hQ2] at this;omega
 have n1:y1.length<=9:=by rw [<- hy1,zAJ _ _ rfl];exact b1
 have n2:y2.length<=9:=by rw [<- hy2,zAJ _ _ rfl];exact b2
 have n3:y3.length<=9:=by rw [<- hy3,zAJ _ _ rfl];exact b3
 have n4:y4.length<=9:=by rw [<- hy4,zAJ _ _ rfl];exact b4
 have lG:G.length<=2:=by rw [<- hG];split <;> simp
 have lP:P.length<=19:=by rw [<- hP];split <;> simp <;> omega
 have HGr:Hid ((if gr then ([35,44]:BL) else [])=G):=hG;have HP:Hid ((if FL then (46 :: (y2++y3):BL) else [])=P):=hP;have HFL:Hid (decide (0<(m2:Int)+(m3:Int))=FL):=hFL;have HY:Hid (repF [48] m2=y2/\repF [35] m3=y3):=⟨hy2,hy3⟩;rw [hC];clear hC hQ1 hQ2 hG hy1 hy2 hy3 hy4 hP;have V0:=zA2 w (KT.cells ⟨ng,bf,af,m1,m2,m3,gr,m4,dt⟩) 28;have X0:=x1 w (.cells (KT.cells ⟨ng,bf,af,m1,m2,m3,gr,m4,dt⟩).toArray 28);obtain ⟨B,hB⟩:=nm (w.heap.size);rw [hB] at V0;obtain ⟨w0,hw0⟩:=nm (w.alloc (.cells (KT.cells ⟨ng,bf,af,m1,m2,m3,gr,m4,dt⟩).toArray 28));rw [hw0] at V0 X0;have hw0:w.alloc (.cells #[.bool ng,sV bf,sV af,iQ m1,iQ m2,iQ m3,.bool gr,iQ m4,sV dt] 28)=w0:=hw0;have HV:Hid (∀ W,Ext w0 W->Vec W B [.bool ng,sV bf,sV af,iQ m1,iQ m2,iQ m3,.bool gr,iQ m4,sV dt]):=fun W e=>V0.l e;have a1:=(V0 1 _ rfl).1;have a6:=(V0 6 _ rfl).1;clear V0;go_enter Tryz.func20,Tryz.ntmps20;go_wp2_with fail;clear hw0 hB;refine (C1 _).mono ?_;rintro e w1 ⟨rfl,h1⟩;rw [h1];clear h1;go_upto_if 8 with fail;clear a1 a6;go_cut [3] (fun s wc=>s=sV (Q1++G)/\wc=w0)
 case first =>
  cases gr
  ·have hg:G=[]:=HGr.out.symm;subst hg;go_wp2_with fail;go_meet
   case rel=>exact ⟨by rw [List.append_nil],rfl⟩
  ·have hg:G=[35,44]:=HGr.out.symm;subst hg;have hs:=szB Q1;go_wp2_with fail;go_meet
   case rel=>exact ⟨by simp only [zAE],rfl⟩
 case rest =>
  obtain ⟨rfl,hw⟩:=hcut;obtain rfl:=hw.symm;have a3:=(HV.out w0 (xr _) 3 _ rfl).1;have sA:=szB (Q1++G);rw [List.length_append] at sA;have sB:=szB y1;go_wp2_with fail;refine (R1 _).mono ?_;rintro e w1 ⟨rfl,e1⟩;have a4:=(HV.out w1 e1 4 _ rfl).1;have a5:=(HV.out w1 e1 5 _ rfl).1;have A1:Hid (Value.string (⟨(Q1++G).toArray⟩++⟨y1.toArray⟩)=sV (Q1++G++y1)):=by show _=_;rw [zAE]
  go_upto_if 21 with fail;clear a3 a4 a5 sA sB;go_cut [3] (fun s wc=>s=sV (Q1++G++y1++P)/\Ext w0 wc)
  case first =>
   cases FL
   ·have hp:P=[]:=HP.out.symm;subst hp;go_wp2_with fail;go_meet
    case rel=>exact ⟨by rw [A1.out,List.append_nil],e1⟩
   ·have HP2:Hid (P=46 :: (y2++y3)):=HP.out.symm;have V1:=HV.out w1 e1;have a4:=(V1 4 _ rfl).1;have a5:=(V1 5 _ rfl).1;have q2:m2<=1000:=(by omega);have q3:m3<=1000:=(by omega);have k2:(repF [48] m2).length<=9:=(by rw [zAJ _ _ rfl];exact b2);have k3:(repF [35] m3).length<=9:=(by rw [zAJ _ _ rfl];exact b3);have sA:=szB (Q1++G);rw [List.length_append] at sA;have sB:=szB y1;have sC:=szB (repF [48] m2);have sD:=szB (repF [35] m3);have g4:¬ (9223372036854775807<1+(repF [48] m2).length):=(by omega);have g8:¬ (9223372036854775807<1+(repF [48] m2).length+(repF [35] m3).length):=(by omega);have g9:¬ (9223372036854775807<Q1.length+G.length+y1.length+(1+(repF [48] m2).length+(repF [35] m3).length)):=(by omega);clear sA sB sC sD;go_wp2_with fail;go_region_held3 (fun w'=>w'.cell? ⟨B,4,none⟩=some (iQ m2)/\w'.cell? ⟨B,5,none⟩=some (iQ m3)) (go_keep)
     (first
      | (go_at_call 45;refine (zG7 _ _ (by first | exact q2 | exact q3) _).mono ?_;rintro e w' ⟨rfl,E⟩;first | (have s4:=cell_later E r4;have s5:=cell_later E r5) | (have Y:=xt (xd (xr _)) E;have r4:=cell_later Y a4;have r5:=cell_later Y a5)))
    go_wp2_with fail;go_meet
    case rel=>exact ⟨by rw [HP2.out,<- HY.out.1,<- HY.out.2];simp only [zAE];simp,xt e1 (xt Y E)⟩
  case rest =>
   obtain ⟨rfl,E0⟩:=hcut;have V1:=HV.out wc E0;have a7:=(V1 7 _ rfl).1;have a8:=(V1 8 _ rfl).1;have a2:=(V1 2 _ rfl).1;have D2:∀ W,Calls Tryz.prog 44 #[sV af] W fun e w'=>e=.returned (sV Q2)/\Ext W w':=fun W=>(C2 W).mono fun _ _ ⟨h1,h2⟩=>⟨h1,by rw [h2];exact xr _⟩;obtain ⟨Z,hZ⟩:=nm (Q1++G++y1++P);have lZ:Z.length<=2000000:=by rw [<- hZ];simp only [List.length_append];omega
   have HZ:Hid (Q1++G++y1++P=Z):=hZ;rw [hZ];have g4:¬ (9223372036854775807<Z.length+y4.length):=by omega
   have g8:¬ (9223372036854775807<Z.length+y4.length+dt.length):=by omega
   have g9:¬ (9223372036854775807<Z.length+y4.length+dt.length+Q2.length):=by omega
   clear hZ;clear V1 C1 C2;go_wp2_with fail;go_region_held3 (fun w'=>w'.cell? ⟨B,7,none⟩=some (iQ m4)/\w'.cell? ⟨B,8,none⟩=some (sV dt)/\w'.cell? ⟨B,2,none⟩=some (sV af)) (go_keep)
    (first
     | (go_at_call 45;refine (R4 _).mono ?_;rintro e w' ⟨rfl,E⟩;first | (have s7:=cell_later E r7;have s8:=cell_later E r8;have s2:=cell_later E r2) | (have Y:=xt (xd (xr _)) E;have r7:=cell_later Y a7;have r8:=cell_later Y a8;have r2:=cell_later Y a2))
     | (go_at_call 44;refine (D2 _).mono ?_;rintro e w' ⟨rfl,E⟩;first | (have s7:=cell_later E r7;have s8:=cell_later E r8;have s2:=cell_later E r2) | (have Y:=xt (xd (xr _)) E;have r7:=cell_later Y a7;have r8:=cell_later Y a8;have r2:=cell_later Y a2)))
   go_wp2_with fail;go_ret;exact ⟨by rw [<- HC.out,HZ.out];simp only [zAE];rfl,xt (xt X0 E0) (xt Y E)⟩
theorem zJ7:Builder.Extra Tryz.prog layJoin_ren:={
 sizeBuilder:=by kernel_rfl
 liesBuilder:=by kernel_rfl
 t5:=layRepeat.t5
 a5:=layRepeat.a5
 z5:=layRepeat.z5
 v5:=layRepeat.v5
 infoByte:=by kernel_rfl
 cellsByte:=by kernel_rfl
 sizeByte:=by kernel_rfl
 neB5:=by decide }
theorem fJoinK:layJoin_ren.f 156=21:=by kernel_rfl
theorem joinI (v:Value) (l:List BL) (base:Nat) (w:World) (h:OwnT w base v l) (hn:l.length<=1000) (hlen:(Lib.join l [59]).length<=100000000) :
  Calls Tryz.prog 21 #[v,sV [59]] w fun e w'=>e=.returned (sV (Lib.join l [59]))/\Ext w w':=by
 rcases h.2 with ⟨rfl,h0⟩ | ⟨g,cap,cur,rfl,hb,hg,hc,_⟩
 ·have hl:l=[]:=List.length_eq_zero_iff.1 h0;subst hl;have q:=Any.strings_Join_none layJoin zJ7 none 0 ⟨#[59]⟩ w;rw [fJoinK] at q;exact q.mono fun e w' ⟨he,hw⟩=>⟨he,hw ▸ xr _⟩
 ·have hlt:g<w.heap.size:=by
   rcases Nat.lt_or_ge g w.heap.size with h' | h'
   ·exact h'
   ·rw [Array.getElem?_eq_none h'] at hg;cases hg
  have hm:(l.map fun x=>(⟨x.toArray⟩:ByteArray)).map (·.data.toList)=l:=by rw [List.map_map];simp [Function.comp_def]
  have q:=Any.strings_Join layJoin zJ7 g 0 cap (l.map fun x=>(⟨x.toArray⟩:ByteArray)) ⟨#[59]⟩ w (fun j x hx=>?_) hlt (by rw [List.length_map];omega) (by rw [List.length_map];exact hc) (by rw [hm];show (Lib.join l [59]).length<=_;omega)
  ·rw [fJoinK,hm,List.length_map] at q;exact q
  ·rw [List.getElem?_map] at hx;obtain ⟨y,hy,rfl⟩:=Option.map_eq_some_iff.1 hx;have:=h.cells (g:=g) rfl j (sV y) (by rw [List.getElem?_map,hy];rfl);rw [show (⟨g,0,none⟩:Addr).add j=⟨g,0+j,none⟩ by unfold Addr.add;split <;> simp_all] at this;exact this
def zFG (l:List KT):BL:=if 3<l.length then [] else if l.any (fun f=>!cntB f) then [] else if zAZ (Lib.join (l.map zBB) [59])=l then Lib.join (l.map zBB) [59] else []
abbrev BldD (w:World) (B b:Nat) (l:List UInt8):Prop:=Lib.IsBuilder 80 5 B b (Lib.byteCells l) w
theorem t72D:layJoin_ren.t 72=80:=by kernel_rfl
theorem t5D:layJoin_ren.t 5=5:=by kernel_rfl
theorem fWriteD:layJoin_ren.f 166=47:=by kernel_rfl
theorem zVV:layJoin_ren.f 169=48:=by kernel_rfl
theorem zGT {w w':World} {B b:Nat} {p:Value} {bs:List Value} (h:Lib.BuilderAt 80 5 B b p bs w) (x:Ext w w'):Lib.BuilderAt 80 5 B b p bs w':=by
 have hlt:=h.lt;obtain ⟨h1,v,h2,h3,h4⟩:=h;refine ⟨h1,v,by rw [x.block b hlt];exact h2,⟨h3.1,h3.2.imp id ?_⟩,h4⟩;rintro ⟨g,cap,cur,rfl,q2,q3,q4⟩;have hg:g<w.heap.size:=by
  rcases Nat.lt_or_ge g w.heap.size with h' | h'
  ·exact h'
  ·rw [Array.getElem?_eq_none h'] at q3;cases q3
 exact ⟨g,cap,cur,rfl,q2,by rw [x.block g hg];exact q3,q4⟩
theorem zQA {w w':World} {B b:Nat} {l:List UInt8} (h:BldD w B b l) (x:Ext w w'):BldD w' B b l:=h.imp (fun q=>zGT q x) (fun q=>zGT q x)
theorem zIF (a b:List UInt8):Lib.byteCells (a++b)=Lib.byteCells a++Lib.byteCells b:=by simp [Lib.byteCells]
theorem writeD (B b:Nat) (l t:List UInt8) (w:World) (h:BldD w B b l) (hl:l.length+t.length<=100000000) (hB:B<=w.heap.size) :
  Calls Tryz.prog 47 #[.pointer (some ⟨b,0,none⟩),sV t] w fun e w'=>e=.returned (.tuple #[iQ t.length,.nilIface])/\BldD w' B b (l++t)/\Below B w w':=by
 have q:=Any.Builder_WriteString (P:=Tryz.prog) (ρ:=layJoin_ren) { layJoin with } zJ7 B b (Lib.byteCells l) ⟨t.toArray⟩ w (by rw [t72D,t5D];exact h) (by rw [Lib.byteCells_length];show l.length+t.length<=_;omega) hB;rw [fWriteD,t72D,t5D] at q;refine q.mono fun e w' ⟨he,hb,hx⟩=>⟨he,.inr ?_,hx⟩;rw [zIF];exact hb
theorem strD (B b:Nat) (l:List UInt8) (w:World) (h:BldD w B b l) (hB:B<=w.heap.size) :
  Calls Tryz.prog 48 #[.pointer (some ⟨b,0,none⟩)] w fun e w'=>e=.returned (sV l)/\Below B w w':=by
 have q:=Any.Builder_String_any (P:=Tryz.prog) (ρ:=layJoin_ren) { layJoin with } zJ7 B b l w (by rw [t72D,t5D];exact h) hB;rw [zVV] at q;exact q
theorem zGE (z:Int) (w:World) (h0 : -1000000<=z) (h1:z<=1000000):∃ y m d,IsDt 1 z y m d:=by
 obtain ⟨e,w',fr,⟨y,m,d,_,⟨h,_⟩,_⟩,_⟩:=zTO 1 z w (.inl rfl) (by omega) (by omega) [];exact ⟨y,m,d,h⟩
theorem zPB {f:Nat} {R:BL} {qs:List BL} (h:zA6 f R=some qs) (h0:R ≠ []):∃ f' qs',qs=zAC R :: qs'/\zAC R ∈ zAG/\zA6 f' (R.drop (zAC R).length)=some qs'/\1<=(zAC R).length/\(zAC R).length<=R.length:=by
 cases f with
 | zero=>rw [zA6,if_neg h0] at h;cases h
 | succ f =>
  rw [zA6,if_neg h0] at h
  split at h
  ·cases h
  ·next hw =>
   cases hp:zA6 f (R.drop (zAC R).length) with
   | none=>rw [hp] at h;cases h
   | some qs' =>
    rw [hp] at h;cases h;refine ⟨f,qs',rfl,zIH R hw,hp,?_,zFF R⟩;cases hl:zAC R with
    | nil=>exact absurd hl hw
    | cons a b=>simp
theorem zP9 {f:Nat} {qs:List BL} (h:zA6 f []=some qs):qs=[]:=by
 cases f with
 | zero=>rw [zA6,if_pos rfl] at h;cases h;rfl
 | succ f=>rw [zA6,if_pos rfl] at h;cases h;rfl
theorem Vec.put3 {w:World} {b:Nat} {v0 v1 v2:Value} (h:Vec w b [v0,v1,v2]) (u0 u1 u2:Value):Vec (setL w b 0 [u0,u1,u2]) b [u0,u1,u2]:=
 ((h.put 0 (by simp) u0).put 1 (by simp) u1).put 2 (by simp) u2
theorem zHC {w w':World} {g:Nat} {L:List Value} (V:Vec w g L) (h:w'.heap[g]?=w.heap[g]?):Vec w' g L:=fun i v hv=>by
 have q:=V i v hv;unfold World.cell? World.frozen? at q ⊢;simp only [h];exact q
theorem zPT (k:Int) (n:Bool) (d x:Int) (t:List UInt8) (W:World):(Instr.field 33 (valV k n d x t) 1).run Tryz.prog W=.ok (decV n d x) W:=by kernel_rfl
theorem zQ0 (RP:RepC) (n:Bool) (d e:Int) (g:zA1 n d e=true) (dt:BLs) (ps:List BLs) (hp:zA6 dt.length dt=some ps) (hps:1<=ps.length/\ps.length<=12) (hl:dt.length<=1000) (w:World) (IT:zD2 w) (hT:Tens w) (hM:zCJ w) (hC:Cals w) (TK:TabK w) :
  Calls Tryz.prog 71 #[sV dt,decV n d e] w fun r w'=>r=.returned (sV (zBS n d e ps))/\Ext w w':=by
 obtain ⟨A,hA⟩:=nm (zBS n d e ps);have HA:Hid (zBS n d e ps=A):=hA;rw [hA];clear hA;obtain ⟨sf,s0,s1⟩:=zHI n d e g;obtain ⟨g0,g1,-⟩:=zAN g;obtain ⟨F,hF⟩:=nm (zAL n d e);have HFD:FitD F:=by rw [<- hF];exact zIP _ _ _ _ _
 rw [hF] at sf s0 s1;have HF:=hid hF;obtain ⟨fok,fn,fd,fe⟩:=F;have sf:fok=true:=sf;subst sf;obtain ⟨z,hz⟩:=nm (intR fn fd fe);obtain ⟨zk,hzk⟩:=nm (zCF fn fd fe);obtain ⟨sc,hsc⟩:=nm (intR (secR n d e fn fd fe).neg (secR n d e fn fd fe).d (secR n d e fn fd fe).e);have s0:0<=sc:=by rw [<- hsc];exact s0
 have s1:sc<=1000000:=by rw [<- hsc];exact s1
 have f0:0<=fd:=HFD.1;have f1:fd<1000000000000000:=HFD.2;have HD:Hid (A=if (zk && decide (-1000000<=z/\z<=1000000))=true then zCH (ymdZ z).1 (ymdZ z).2.1 (ymdZ z).2.2 sc ps else [35]):=by
  show A=_;rw [<- HA.out];unfold zBS;simp only [HF.out,hz,hzk,hsc]
 obtain ⟨k1,hk1⟩:∃ k:Int,1=k:=⟨_,rfl⟩;obtain ⟨t1,ht1⟩:∃ t:List UInt8,[]=t:=⟨_,rfl⟩;have CV:Hid (∀ W,Calls Tryz.prog 126 #[decV n d e] W fun r w'=>r=.returned (valV k1 n d e t1)/\Ext W w'):=fun W=>by rw [<- hk1,<- ht1];exact numVI n d e W
 have CF:Hid (∀ W,Ext w W->Calls Tryz.prog 125 #[valV k1 n d e t1] W fun r w'=>r=.returned (valV k1 fn fd fe t1)/\Ext W w'):=fun W X=>by rw [<- hk1,<- ht1];exact floorVI n d e fn fd fe W g0 g1 (hT.l X) HF.out
 have CN:Hid (∀ W,Ext w W->Calls Tryz.prog 127 #[decV fn fd fe] W fun r w'=>r=.returned (.tuple #[iQ z,.bool zk])/\Ext W w'):=fun W X=>by rw [<- hz,<- hzk];exact intI fn fd fe W (by omega) (by omega) (hT.l X)
 have CD:Hid (∀ W,Calls Tryz.prog 128 #[iQ z] W fun r w'=>r=.returned (.bool (decide (-1000000<=z/\z<=1000000)))/\w'=W):=fun W=>dayI z W;have CS:Hid (∀ W,Ext w W->Calls Tryz.prog 130 #[decV n d e,decV fn fd fe] W fun r w'=>r=.returned (iQ sc)/\Ext W w'):=fun W X=>by rw [<- hsc];exact secondI n d e fn fd fe W g0 g1 f0 f1 (hT.l X)
 have FV:=zPT k1 fn fd fe t1;have HPS:=hid hps;have HPP:=hid hp;have HS0:Hid (0<=sc/\sc<=1000000):=⟨s0,s1⟩;have HIT:=hid IT;have HRP:=hid RP;have HMC:=hid (And.intro hM (And.intro hC TK));have HDL:=hid hl;clear hF hz hzk hsc s0 s1 f0 f1 hk1 ht1 HA HF HFD hp hps g g0 g1 hT hM hC TK IT RP hl;obtain ⟨wa,ha,X1,VD,-⟩:=zC7 w [.bool n,iQ d,iQ e] 31;have HVD:=hid VD;have c0:=vC3 VD;clear VD;obtain ⟨q0,hq0⟩:=nm (w.heap.size);rw [hq0] at HVD c0;have HQ0:Hid (w.heap.size=q0):=hq0;go_enter Tryz.func71,Tryz.ntmps71;go_wp2_with fail;refine (CV.out _).mono ?_;rintro r w2 ⟨rfl,e2⟩;have X2:=xt X1 e2;go_wp2_with fail;refine (CF.out _ X2).mono ?_;rintro r w3 ⟨rfl,e3⟩;have X3:=xt X2 e3;obtain ⟨w4,h4,X4,V4,-⟩:=zC7 w3 [.bool fn,iQ fd,iQ fe] 31;obtain ⟨q1,hq1⟩:=nm (w3.heap.size);rw [hq1] at V4;have Y4:=xt X3 X4;have HV4:=hid V4;have HV0:=hid (HVD.out.l (xt e2 (xt e3 X4)));have c4:=vC3 V4;have hq01:q0 ≠ q1:=by have:=(xt e2 e3).size;have h:=World.block_lt_of_cell? _ _ c0.1;have h:q0<wa.heap.size:=h;omega
 have HQ1:Hid (w3.heap.size=q1):=hq1;clear ha c0 hq0 V4 X2 e2 X3 e3 X4;go_wp2_with fail;clear h4 hq1;refine (CN.out _ Y4).mono ?_;rintro r w5 ⟨rfl,e5⟩;have Y5:=xt Y4 e5;have HV0:=hid (HV0.out.l e5);have HV4:=hid (HV4.out.l e5);clear c4;cases zk
 ·have HE:Hid (A=[35]):=by show _=_;rw [HD.out];rfl
  go_wp2_with fail;go_ret;exact ⟨retZ (by rw [HE.out]),Y5⟩
 obtain ⟨dk,hdk⟩:=nm (decide (-1000000<=z/\z<=1000000));rw [hdk] at CD HD;cases dk
 ·have HE:Hid (A=[35]):=by show _=_;rw [HD.out];rfl
  go_wp2_with (go_at_call 128;refine (CD.out _).mono ?_;rintro r w6 ⟨rfl,rfl⟩);go_ret;exact ⟨retZ (by rw [HE.out]),Y5⟩
 have hz0 : -1000000<=z/\z<=1000000:=of_decide_eq_true hdk;have HZ:=hid hz0;clear hdk hz0;obtain ⟨y,mo,da,hdt⟩:=zGE z w HZ.out.1 HZ.out.2;obtain ⟨hy,hmo,hda⟩:=zME hdt HZ.out.1 HZ.out.2;have HE:Hid (A=zCH y mo da sc ps):=by
  show A=_;rw [HD.out,zQD hdt];rfl
 have HIN:Hid ((-5000<=y/\y<=9999)/\(1<=mo/\mo<=12)/\1<=da/\da<=31):=⟨hy,hmo,hda⟩;have CY:Hid (∀ W,Ext w W->Calls Tryz.prog 129 #[iQ 1,iQ z] W fun r w'=>r=.returned (.agg #[iQ y,iQ mo,iQ da])/\Ext W w'):=fun W X=>by
  refine (DateOfI 1 z W (HMC.out.1.l X) (HMC.out.2.1.l X)).mono ?_;rintro r w' ⟨y',m',d',rfl,hr,e'⟩;unfold zDJ at hr;rw [if_pos ⟨.inl rfl,HZ.out⟩] at hr;obtain ⟨rfl,rfl,rfl⟩:=hr.1.one hdt;exact ⟨rfl,e'⟩
 clear hdt hy hmo hda CN CF CV FV HD;go_upto_region 5 with (go_at_call 128;refine (CD.out _).mono ?_;rintro r w6 ⟨rfl,h6⟩;have h6:=h6.symm;subst h6);have l0:q0<w5.heap.size:=World.block_lt_of_cell? _ _ (vC3 HV0.out).1;have l1:q1<w5.heap.size:=World.block_lt_of_cell? _ _ (vC3 HV4.out).1;clear hq01;go_cut [8,9] (fun v s wx=>(∃ b,v=.pointer (some ⟨b,0,none⟩)/\Vec wx b [iQ y,iQ mo,iQ da]/\Ext w wx)/\s=iQ sc)
 case first =>
  refine zAQ (fun lx:Nat->Value=>{ tmps:=#[sV dt,decV n d e,undef,Value.pointer (some ⟨q0,0,none⟩),Value.string { data:=#[] },Value.pointer (some ⟨q1,0,none⟩),Value.int .i64 z,Value.bool true,lx 8,lx 9,undef,undef,Value.agg #[Value.bool n,Value.int .i64 d,Value.int .i64 e],valV k1 n d e t1,valV k1 fn fd fe t1,decV fn fd fe,Value.tuple #[Value.int .i64 z,Value.bool true],Value.agg #[Value.bool fn,Value.int .i64 fd,Value.int .i64 fe],Value.tuple #[Value.int .i64 z,Value.bool true],Value.int .i64 z,Value.bool true,Value.bool true,Value.bool false,Value.bool false,Value.int .i64 z,Value.bool true,Value.bool false,Value.bool false,lx 28,lx 29,lx 30,lx 31,lx 32,undef,undef,undef,undef,undef,undef,undef,undef,undef,undef,undef,undef,undef,undef],defers:=[] }) (fun L lx lw=>Hid (Ext w5 lw/\Vec lw (q0) [.bool n,iQ d,iQ e]/\Vec lw (q1) [.bool fn,iQ fd,iQ fe]/\(L 0=true->lx 28=iQ z)/\(L 1=true->lx 29=.agg #[iQ y,iQ mo,iQ da])/\(L 2=true->lx 30=decV n d e)/\(L 3=true->lx 31=decV fn fd fe)/\(L 4=true->lx 32=iQ sc)/\(L 5=true->∃ b,lx 8=.pointer (some ⟨b,0,none⟩)/\w5.heap.size<=b/\(L 6=false->Vec lw b [iQ 0,iQ 0,iQ 0])/\(L 6=true->Vec lw b [iQ y,iQ mo,iQ da]))/\(L 6=true->L 5=true)/\(L 7=true->lx 9=iQ sc))) rfl (by kernel_rfl) (fun jj=>undef) rfl ?_ ?_ ?_
  ·exact ⟨xd (xr _),HV0.out.l (xd (xr _)),HV4.out.l (xd (xr _)),(fun h=>by cases h),(fun h=>by cases h),(fun h=>by cases h),(fun h=>by cases h),(fun h=>by cases h),(fun h=>by cases h),(fun h=>by cases h),(fun h=>by cases h)⟩
  ·intro L lx wl i o K hK ho hL haf hI;obtain ⟨X,f0,f1,f2,f3,f4,f5,f6,f7,f8,f9⟩:=hI.out
   match i,ho,hL,haf,hK with
   | 0,ho,hL,haf,hK =>
    cases ho
    (try dsimp only)
    go_wp2_with fail;exact hK (fun jj=>if jj=28 then iQ z else lx jj) _ ⟨X,f0,f1,(fun _=>rfl),f3,f4,f5,f6,f7,f8,f9⟩
   | 1,ho,hL,haf,hK =>
    cases ho
    (try dsimp only)
    rw [f2 (haf ⟨0,.data⟩ (by simp) rfl)];go_wp2_with fail;refine (CY.out wl (xt Y5 X)).mono ?_;rintro rr w' ⟨rfl,E⟩;go_wp2_with fail;exact hK (fun jj=>if jj=29 then .agg #[iQ y,iQ mo,iQ da] else if jj=28 then iQ z else lx jj) _ ⟨xt X E,(f0.l E),(f1.l E),(fun _=>rfl),(fun _=>rfl),f4,f5,f6,(fun h=>by obtain ⟨b,h1,h2,h3,h4⟩:=f7 h;exact ⟨b,h1,h2,fun h=>(h3 h).l E,fun h=>(h4 h).l E⟩),f8,f9⟩
   | 2,ho,hL,haf,hK =>
    cases ho
    (try dsimp only)
    have a0:=(f0 0 _ rfl).1;have a1:=(f0 1 _ rfl).1;have a2:=(f0 2 _ rfl).1;go_wp2_with fail;exact hK (fun jj=>if jj=30 then decV n d e else lx jj) _ ⟨X,f0,f1,f2,f3,(fun _=>rfl),f5,f6,f7,f8,f9⟩
   | 3,ho,hL,haf,hK =>
    cases ho
    (try dsimp only)
    have a0:=(f1 0 _ rfl).1;have a1:=(f1 1 _ rfl).1;have a2:=(f1 2 _ rfl).1;go_wp2_with fail;exact hK (fun jj=>if jj=31 then decV fn fd fe else lx jj) _ ⟨X,f0,f1,f2,f3,f4,(fun _=>rfl),f6,f7,f8,f9⟩
   | 4,ho,hL,haf,hK =>
    cases ho
    (try dsimp only)
    rw [f4 (haf ⟨2,.data⟩ (by simp) rfl),f5 (haf ⟨3,.data⟩ (by simp) rfl)];go_wp2_with fail;refine (CS.out wl (xt Y5 X)).mono ?_;rintro rr w' ⟨rfl,E⟩;go_wp2_with fail;exact hK (fun jj=>if jj=32 then iQ sc else if jj=30 then decV n d e else if jj=31 then decV fn fd fe else lx jj) _ ⟨xt X E,(f0.l E),(f1.l E),f2,f3,(fun _=>rfl),(fun _=>rfl),(fun _=>rfl),(fun h=>by obtain ⟨b,h1,h2,h3,h4⟩:=f7 h;exact ⟨b,h1,h2,fun h=>(h3 h).l E,fun h=>(h4 h).l E⟩),f8,f9⟩
   | 5,ho,hL,haf,hK =>
    cases ho
    (try dsimp only)
    have hst:L 6=true->False:=fun h=>(by have:=f8 h;rw [hL] at this;cases this);have E:=x1 wl (.cells #[iQ 0,iQ 0,iQ 0] 121);go_wp2_with fail;exact hK (fun jj=>if jj=8 then .pointer (some ⟨wl.heap.size,0,none⟩) else lx jj) _ ⟨xt X E,(f0.l E),(f1.l E),f2,f3,f4,f5,f6,(fun _=>⟨wl.heap.size,rfl,by have:=X.size;omega,fun _=>zA2 wl [iQ 0,iQ 0,iQ 0] _,fun h=>(hst h).elim⟩),(fun _=>rfl),f9⟩
   | 6,ho,hL,haf,hK =>
    cases ho
    (try dsimp only)
    have hmk:L 5=true:=haf ⟨5,.data⟩ (by simp) rfl;obtain ⟨b,eb',hb,hz,_⟩:=f7 hmk;have bx:=hz hL;rw [eb',f3 (haf ⟨1,.data⟩ (by simp) rfl)];have b0:=(bx 0 _ rfl).1;have b1:=(bx 1 _ rfl).1;have b2:=(bx 2 _ rfl).1;have fb0:=(bx 0 _ rfl).2;have fb1:=(bx 1 _ rfl).2;have fb2:=(bx 2 _ rfl).2;have hX:=Ext.setL (b:=b) (by omega) [iQ y,iQ mo,iQ da] 0 X;have hB:=bx.put3 (iQ y) (iQ mo) (iQ da);go_wp2_with fail;exact hK (fun jj=>if jj=8 then .pointer (some ⟨b,0,none⟩) else if jj=29 then .agg #[iQ y,iQ mo,iQ da] else lx jj) _ ⟨hX,(Vec.farL (k:=b) (by omega) [iQ y,iQ mo,iQ da] 0 f0),(Vec.farL (k:=b) (by omega) [iQ y,iQ mo,iQ da] 0 f1),f2,(fun _=>rfl),f4,f5,f6,(fun _=>⟨b,rfl,hb,(fun h=>by cases h),fun _=>hB⟩),(fun _=>hmk),f9⟩
   | 7,ho,hL,haf,hK =>
    cases ho
    (try dsimp only)
    rw [f6 (haf ⟨4,.data⟩ (by simp) rfl)];go_wp2_with fail;exact hK (fun jj=>if jj=9 then iQ sc else if jj=32 then iQ sc else lx jj) _ ⟨X,f0,f1,f2,f3,f4,f5,(fun _=>rfl),f7,f8,(fun _=>rfl)⟩
   | k+8,ho,_,_,_=>simp at ho
  ·intro L lx wr hall hI;obtain ⟨XR,f0,f1,f2,f3,f4,f5,f6,f7,f8,f9⟩:=hI.out;clear hI;have G0:=f0;have G1:=f1;replace f2:=f2 (hall 0 (by simp));replace f3:=f3 (hall 1 (by simp));replace f4:=f4 (hall 2 (by simp));replace f5:=f5 (hall 3 (by simp));replace f6:=f6 (hall 4 (by simp));obtain ⟨bb,eb,lb,_,hz⟩:=f7 (hall 5 (by simp));have BN:=hz (hall 6 (by simp));replace f9:=f9 (hall 7 (by simp))
   (try dsimp only)
   rw [eb];rw [f2,f3,f4,f5,f6,f9];clear hall hz f0 f1 f2 f3 f4 f5 f6 f7 f8 f9;go_wp2_with fail;go_meet
   case rel=>exact ⟨⟨_,rfl,BN,xt Y5 XR⟩,rfl⟩
 case rest =>
  obtain ⟨⟨b4,rfl,V8,X8⟩,rfl⟩:=hcut
  rename World=>w8
  have XB:=x1 w8 (.cells #[.pointer none,.slice none 0 0] 80);have FB:=Lib.fresh_isBuilder 80 5 w8;obtain ⟨wb,hwb⟩:=nm (w8.alloc (.cells #[.pointer none,.slice none 0 0] 80));rw [hwb] at XB FB;have V9:=V8.l XB;have l4:b4<w8.heap.size:=World.block_lt_of_cell? _ _ (vC3 V8).1;obtain ⟨B,hB⟩:=nm (w8.heap.size);rw [hB] at FB;have hmem:Hid (∀ m ∈ ps,m ∈ zAG):=zCE _ _ _ HPP.out;have HAL:Hid (A.length<=240):=by
   show _<=_;rw [HE.out];have h:=zFY (y:=y) (mo:=mo) (da:=da) (sec:=sc) (by have:=HIN.out;omega) (by have:=HIN.out;omega) (by have:=HIN.out;omega) (by have:=HIN.out;omega) (by have:=HIN.out;omega) (by have:=HIN.out;omega) HS0.out.1 HS0.out.2 ps hmem.out;have:=HPS.out.2;omega
  have HS:Hid (BldD wb B B []/\Vec wb b4 [iQ y,iQ mo,iQ da]/\Below B w8 wb/\Ext w wb/\∃ f qs,zA6 f dt=some qs/\[]++zCH y mo da sc qs=A):=
   ⟨FB,V9,by rw [<- hB];exact XB,xt X8 XB,_,ps,HPP.out,by rw [HE.out];rfl⟩
  have HB:=hid hB;have HLB:Hid (b4<B):=by show _<_;omega
  have HX8:=hid X8;clear V8 X8 XB FB V9 l4 hB CY CS CD HZ HV0 HV4 l0 l1 Y4 Y5 e5 HVD X1 HQ0 HQ1;go_wp2_with fail
  (try rw [hwb])
  (try rw [HB.out])
  clear hwb;go_loopw [0] (fun v wr=>∃ (R l:BLs),v=sV R/\R.length<=1000/\Hid (BldD wr B B l/\Vec wr b4 [.int .i64 y,.int .i64 mo,.int .i64 da]/\Below B w8 wr/\Ext w wr/\∃ f qs,zA6 f R=some qs/\l++zCH y mo da sc qs=A)) (fun v _=>lenV v)
  case atStart=>exact ⟨dt,[],rfl,HDL.out,HS⟩
  case round =>
   clear HS;obtain ⟨R,l,rfl,hR,HS⟩:=hrel;obtain ⟨SB,SV,SX,SY,f,qs,hqs,hA⟩:=HS.out;by_cases hlt:R=[]
   ·subst hlt;have hq:=zP9 hqs;subst hq;have HL:Hid (l=A):=(by show _=_;rw [<- hA];simp [zCH]);have CT:=hid (strD B B l wr SB (by have:=SX.size;have:=HB.out;omega));clear hqs hA SB SV HS;go_wp2_with fail;refine (CT.out).mono ?_;rintro r wz ⟨rfl,ez⟩;go_wp2_with fail;go_ret;exact ⟨retZ (by rw [HL.out]),xt HX8.out (by show Below w8.heap.size w8 wz;rw [HB.out];exact SX.trans ez)⟩
   ·obtain ⟨f',qs',rfl,hwm,hq',hw1,hw2⟩:=zPB hqs hlt;obtain ⟨m,hm⟩:=nm (zAC R);have CW:Hid (∀ W,Ext w W->Calls Tryz.prog 131 #[sV R] W fun e w'=>e=.returned (sV m)/\w'=W):=fun W X=>(by rw [<- hm];exact wordI R W (HMC.out.2.2.l X));rw [hm] at hwm hq' hw1 hw2 hA;have CX:Hid (∀ W,Ext w W->Calls Tryz.prog 132 #[sV m,.agg #[iQ y,iQ mo,iQ da],iQ sc] W fun r w'=>r=.returned (sV (zC0 y mo da sc m))/\Ext W w'):=fun W X=>zTN HRP.out y mo da sc m hwm w W HIT.out X HIN.out.1 HIN.out.2.1 HIN.out.2.2 HS0.out;have hA2:(l++zC0 y mo da sc m)++zCH y mo da sc qs'=A:=(by rw [<- hA,zCH,List.append_assoc]);obtain ⟨T,hT⟩:=nm (zC0 y mo da sc m);rw [hT] at CX hA2;have hlT:l.length+T.length<=240:=by
     have h:=HAL.out;rw [<- hA2,List.length_append,List.length_append] at h;omega
    obtain ⟨N,hN⟩:=nm (R.length);obtain ⟨K,hK⟩:=nm (m.length);rw [hK] at hw1 hw2 hq';rw [hN] at hw2 hR;have HQ:Hid (zA6 f' (R.drop K)=some qs'/\(l++T)++zCH y mo da sc qs'=A):=⟨hq',hA2⟩;have E1:(⟨R.toArray⟩:ByteArray).extract K N=⟨(R.drop K).toArray⟩:=(by rw [<- hN];exact zD7 R K);have i1:(K:Int)<=(N:Int):=(by omega);have i0:R.isEmpty=false:=(by cases R with | nil=>exact absurd rfl hlt | cons _ _=>rfl);have i00:(R == [])=false:=(by cases R with | nil=>exact absurd rfl hlt | cons _ _=>rfl);have HLN:=hid (And.intro hN (And.intro hK (And.intro hw1 (And.intro hw2 (And.intro hR hlT)))));have HSS:=hid (And.intro SB (And.intro SV (And.intro SX SY)));clear hm hwm hq' hA hA2 hT hlT hqs hlt SB SV SX SY HS hw1 hR;go_wp2_with fail;refine (CW.out _ HSS.out.2.2.2).mono ?_;rintro r w1 ⟨rfl,hw1⟩;rw [hw1];clear hw1;have cv:=vC3 HSS.out.2.1;go_wp2_with fail;refine (CX.out _ HSS.out.2.2.2).mono ?_;rintro r w2 ⟨rfl,e2⟩;have CWr:=hid (writeD B B l T w2 (zQA HSS.out.1 e2) (by have:=HLN.out.2.2.2.2.2;omega) (by have:=HSS.out.2.2.1.size;have:=HB.out;have:=e2.size;omega));have SB2:Below B wr w2:=e2.mono (by have:=HSS.out.2.2.1.size;have:=HB.out;omega);clear cv;go_wp2_with fail;refine (CWr.out).mono ?_;rintro r w3 ⟨rfl,B3,E3⟩;have XX:Below B w8 w3:=HSS.out.2.2.1.trans (SB2.trans E3);have HS3:Hid (BldD w3 B B (l++T)/\Vec w3 b4 [iQ y,iQ mo,iQ da]/\Below B w8 w3/\Ext w w3/\∃ f qs,zA6 f (R.drop K)=some qs/\(l++T)++zCH y mo da sc qs=A):=
     ⟨B3,zHC (HSS.out.2.1.l e2) (E3.block b4 (by have:=HLB.out;omega)),XX,xt HX8.out (by show Below w8.heap.size w8 w3;rw [HB.out];exact XX),_,_,HQ.out.1,HQ.out.2⟩
    clear B3 E3 CWr SB2 e2 CW CX XX;go_wp2_with fail;go_roundw
    case rel=>exact ⟨R.drop K,l++T,rfl,by rw [List.length_drop];have:=HLN.out;omega,HS3⟩
    case measure=>show (R.drop K).length<R.length;rw [List.length_drop];have:=HLN.out;omega
theorem zAW {P:Program} {ops:Array Oper} {rest:List Oper} {op:Oper} {a:Act} {w w':World} {Q:Exit->Act->World->Prop} (hgd:op.guard=none) (ty:TypeId) (x y:Operand) (ho:op.op=.store ty x y)
  (b o:Nat) (cells:Array Value) (hx:a.eval x=.pointer (some ⟨b,o,none⟩)) (hy:a.eval y=.agg cells)
  (ht:w.there b o cells.size) (hi:(P.info? ty).map (·.size)=some cells.size) (h1:cells.all (·.oneCell')=true) (e:w.setCells b o cells.toList=w')
  (h:wpList P ops Q rest (a.put op.dst undef) w'):wpList P ops Q (op :: rest) a w:=
 wpList_store_mid hgd ty x y ho b o cells hx hy ht hi h1 (by rw [e];exact h)
theorem Ext.setCells {a:World} {b:Nat} (hb:a.heap.size<=b):∀ (vs:List Value) (o:Nat) (w:World),Ext a w->Ext a (w.setCells b o vs)
 | [],_,_,h=>h
 | v :: vs,o,_,h=>Ext.setCells hb vs (o+1) _ (xset (p:=⟨b,o,none⟩) h hb v)
def setsN (M:List Value):Nat->List Value->List Value
 | _,[]=>M
 | o,u :: us=>setsN (M.set o u) (o+1) us
theorem zCQ {g:Nat}:∀ (us:List Value) (o:Nat) (w:World) (M:List Value),Vec w g M->o+us.length<=M.length->Vec (w.setCells g o us) g (setsN M o us)
 | [],_,_,_,V,_=>V
 | u :: us,o,w,M,V,h=>by
  rw [List.length_cons] at h;exact zCQ us (o+1) _ (M.set o u) (V.put o (by omega) u) (by rw [List.length_set];omega)
theorem zEO {w:World} {g o k:Nat} {M:List Value} (V:Vec w g M) (h:o+k<=M.length):w.there g o k:=fun j hj=>by
 obtain ⟨u,hu⟩:∃ u,M[o+j]?=some u:=⟨_,List.getElem?_eq_getElem (by omega)⟩;exact ⟨by rw [(V _ u hu).1];rfl,(V _ u hu).2⟩
theorem zDH (g:Nat):∀ (us:List Value) (o:Nat) (w:World),w.grownBy (w.setCells g o us) (some g)
 | [],_,w=>⟨rfl,rfl,rfl,Nat.le_refl _,fun _ _ _=>rfl⟩
 | u :: us,o,w=>by
  have ih:=zDH g us (o+1) (w.setCell ⟨g,o,none⟩ u);refine ⟨ih.os,ih.tape,ih.output,?_,fun k hk hne=>?_⟩
  ·have:=ih.size;rw [World.size_setCell] at this;exact this
  ·exact (ih.block k (by rw [World.size_setCell];exact hk) hne).trans (Below.heap_setCell _ _ _ _ (fun e=>hne (by rw [e])))
end Go.Proofs.YtjlojlgdkfpcdaaGreatDoor

