/-
  Chapter 6: the law FnValues.
-/
import Derived.Test.YtkadkfmidlhedaaGreatDoorMg25
import Derived.Test.YtkadkfmidlhedaaGreatDoorX9i
import Derived.Test.YtkadkfmidlhedaaGreatDoorMg41
import Derived.Test.YtkadkfmidlhedaaGreatDoorMg42
import Derived.Test.YtkadkfmidlhedaaGreatDoorW9c
import Derived.Test.YtkadkfmidlhedaaGreatDoorMg50
set_option maxRecDepth 8000
set_option maxHeartbeats 40000000
namespace Go.Proofs.YtkadkfmidlhedaaGreatDoor
open Go.RowKit
theorem zHC:∀ (a b:List UInt8),-1<=Lib.compareBytes a b/\Lib.compareBytes a b<=1
 | [],[]=>by decide
 | [],_ :: _=>by unfold Lib.compareBytes;omega
 | _ :: _,[]=>by unfold Lib.compareBytes;omega
 | x :: a,y :: b=>by
  unfold Lib.compareBytes
  split
  ·omega
  ·split
   ·omega
   ·exact zHC a b
theorem zJO (k:Int) (n:Bool) (d x:Int) (t:List UInt8) (k':Int) (n':Bool) (d' x':Int) (t':List UInt8) : -2<=zA0 k n d x t k' n' d' x' t'/\zA0 k n d x t k' n' d' x' t'<=2:=by
 have b1:=zHC ((bt k t k').map upC) ((bt k' t' k).map upC);have b2:=zHC (bt k t k') (bt k' t' k);unfold zA0 cmpR cmpI
 repeat' split
 all_goals omega
theorem zCQ.raise {w:World} {base base' n:Nat} {v:Value} (h:zCQ w base v n) (hb:base<=base'):zCQ w base' v n:=by
 rcases h with h | ⟨pb,po,cap,q1,q2⟩
 ·exact .inl h
 ·exact .inr ⟨pb,po,cap,by omega,q2⟩
theorem zV3 (w:World) (R C:Int) (p:Option Addr) (n c:Nat) (R' C':Int) (p':Option Addr) (n' c':Nat) :
  ∃ u0 u1 y1 y2,w.alloc (.cells #[iQ 0,iQ 0,.slice none 0 0] 35)=u0/\u0.alloc (.cells #[iQ 0,iQ 0,.slice none 0 0] 35)=u1/\u0.heap.size=w.heap.size+1/\((u1.setCell ⟨w.heap.size,0,none⟩ (iQ R)).setCell ⟨w.heap.size,1,none⟩ (iQ C)).setCell ⟨w.heap.size,2,none⟩ (.slice p n c)=y1/\((y1.setCell ⟨w.heap.size+1,0,none⟩ (iQ R')).setCell ⟨w.heap.size+1,1,none⟩ (iQ C')).setCell ⟨w.heap.size+1,2,none⟩ (.slice p' n' c')=y2 /\
   Vec u1 w.heap.size [iQ 0,iQ 0,.slice none 0 0]/\Vec y1 (w.heap.size+1) [iQ 0,iQ 0,.slice none 0 0]/\Vec y2 w.heap.size [iQ R,iQ C,.slice p n c]/\Vec y2 (w.heap.size+1) [iQ R',iQ C',.slice p' n' c']/\Ext w y2:=by
 obtain ⟨u0,u1,h0,h1,s0,s1,B0,B1,X⟩:=mkB2 w [iQ 0,iQ 0,.slice none 0 0] [iQ 0,iQ 0,.slice none 0 0] 35 35;have P0:=B0.put3 (iQ R) (iQ C) (.slice p n c);have P1:=Vec.farL (k:=w.heap.size) (by omega) [iQ R,iQ C,.slice p n c] 0 B1;have X1:=Ext.setL (b:=w.heap.size) (Nat.le_refl _) [iQ R,iQ C,.slice p n c] 0 X;exact ⟨u0,u1,_,_,h0,h1,s0,rfl,rfl,B0,P1,Vec.farL (k:=w.heap.size+1) (by omega) [iQ R',iQ C',.slice p' n' c'] 0 P0,P1.put3 (iQ R') (iQ C') (.slice p' n' c'),Ext.setL (b:=w.heap.size+1) (Nat.le_succ _) [iQ R',iQ C',.slice p' n' c'] 0 X1⟩
theorem zQD {k:Int} {m:Bool} {d x:Int} {t:List UInt8} (hg:zA4 k m d x t=true) (hk:k=1\/k=3) (ht:t.length<=2000):(zHI k m d x t).length<=1048576:=by
 unfold zHI;rw [if_pos hg];unfold zCY
 rcases hk with rfl | rfl
 ·rw [if_neg (by decide),if_pos rfl];obtain ⟨gb,_⟩:=zCK hg;unfold zBW;rw [if_pos gb];unfold zA1 at gb;by_cases h0:d=0
  ·rw [if_pos h0];simp
  ·rw [if_neg h0] at gb ⊢;simp only [decide_eq_true_eq] at gb;have:=zL3 d.toNat x (by omega) (by omega) (by omega);rw [List.length_append];have:(if m=true then [45] else ([]:List UInt8)).length<=1:=by split <;> simp
   omega
 ·rw [if_neg (by decide),if_neg (by decide)];omega
theorem zP3 (v:Value) (n:Nat) (w:World) (h:zCQ w w.heap.size v n) (hT:Tens w) (hE:zAH w) (hI:zEN w) :
  Calls Tryz.prog 3 #[v] w fun e w'=>e=.returned (.bool true)/\Ext w w':=by
 obtain ⟨p,cap,rfl⟩:∃ p cap,v=.slice p n cap:=by
  rcases h with ⟨⟨p,cap,rfl⟩,rfl⟩ | ⟨pb,po,cap,_,rfl,_⟩
  ·exact ⟨_,_,rfl⟩
  ·exact ⟨_,_,rfl⟩
 by_cases hb:(1048576:Int)<n
 ·clear hT hE hI;go_enter Tryz.func3,Tryz.ntmps3;go_wp2_with fail;go_ret;exact ⟨rfl,xr _⟩
 have hb1:¬ (1048576:Int)<n:=hb;go_enter Tryz.func3,Tryz.ntmps3;go_wp2_with fail;refine (zUY _ n w h (by omega)).mono ?_;rintro e w1 ⟨⟨k,m,d,x,t,k',m',d',x',t',rfl,⟨q1,q2,q3⟩,q4,q5,q6⟩,e1⟩;obtain ⟨u0,u1,y1,w2,h0,h1,s0,hy1,hy2,Z0,Z1,A1,A2,E2⟩:=zWL w1 k m d x t k' m' d' x' t';obtain ⟨z0,z1,z2,z3,z4⟩:=Z0.five;obtain ⟨f0,f1,f2,f3,f4⟩:=Z0.fiveF;obtain ⟨g0,g1,g2,g3,g4⟩:=Z1.five;obtain ⟨j0,j1,j2,j3,j4⟩:=Z1.fiveF;obtain ⟨a0,a1,a2,a3,a4⟩:=A1.five;obtain ⟨c0,c1,c2,c3,c4⟩:=A2.five;have X2:=xt e1 E2;have bnd:=zJO k m d x t k' m' d' x' t';have HSW:Hid (zA0 k m d x t k' m' d' x' t' ≠ 2->zA0 k' m' d' x' t' k m d x t = -zA0 k m d x t k' m' d' x' t'):=zIP k m d x t k' m' d' x' t';have CI:Hid (∀ W,Ext w W->Calls Tryz.prog 9 #[valV k m d x t,valV k' m' d' x' t'] W fun e w'=>e=.returned (iQ (zA0 k m d x t k' m' d' x' t'))/\Ext W w'):=fun W x2=>zCW k m d x t k' m' d' x' t' W (by omega) (by omega) (by omega) (by omega) (by omega) (by omega) (hT.l x2) (hE.l x2);have CJ:Hid (∀ W,Ext w W->Calls Tryz.prog 9 #[valV k' m' d' x' t',valV k m d x t] W fun e w'=>e=.returned (iQ (zA0 k' m' d' x' t' k m d x t))/\Ext W w'):=fun W x2=>zCW k' m' d' x' t' k m d x t W (by omega) (by omega) (by omega) (by omega) (by omega) (by omega) (hT.l x2) (hE.l x2);have CS:Hid (∀ W,Calls Tryz.prog 10 #[valV k m d x t,valV k' m' d' x' t'] W fun e w'=>e=.returned (iQ (zA0 k m d x t k' m' d' x' t'))/\Ext W w'):=fun W=>zRX k m d x t k' m' d' x' t' W (by omega) (by omega);obtain ⟨c,hc⟩:=nm (zA0 k m d x t k' m' d' x' t');rw [hc] at bnd HSW CI CS;clear hc;go_wp2_with fail;clear h0 h1 s0 hy1 hy2 Z0 Z1 z0 z1 z2 z3 z4 f0 f1 f2 f3 f4 g0 g1 g2 g3 g4 j0 j1 j2 j3 j4 a0 a1 a2 a3 a4 c0 c1 c2 c3 c4;refine (CI.out w2 X2).mono ?_;rintro e w3 ⟨rfl,e3⟩;go_upto_region 5 with fail;go_cut [38] (fun s wc=>s=.bool false/\Hid (Ext w2 wc))
 case first =>
  obtain ⟨a0,a1,a2,a3,a4⟩:=(A1.l e3).five;obtain ⟨c0,c1,c2,c3,c4⟩:=(A2.l e3).five;go_wp2_with fail;refine (CS.out w3).mono ?_;rintro e w4 ⟨rfl,e4⟩;have e34:=xt e3 e4;obtain ⟨a0,a1,a2,a3,a4⟩:=(A1.l e34).five;obtain ⟨c0,c1,c2,c3,c4⟩:=(A2.l e34).five;by_cases hc2:c=2
  ·subst hc2;go_wp2_with fail;go_meet
   exact ⟨rfl,e34⟩
  ·have hcb:(c != 2)=true:=by simpa using hc2
   have hsw:=HSW.out hc2;have CJ2:=CJ.out w4 (xt X2 e34);rw [hsw] at CJ2;have wn:IntKind.i64.wrap (-c) = -c:=by rw [IntKind.wrap_i64];omega
   go_wp2_with fail;refine CJ2.mono ?_;rintro e w5 ⟨rfl,e5⟩;go_wp2_with fail;go_meet
   exact ⟨rfl,xt e34 e5⟩
 case rest =>
  obtain ⟨rfl,hW⟩:=hcut
  rename World=>w5
  have e5:=hW.out;clear hW CI CJ CS HSW bnd e3;have A1:=A1.l e5;have A2:=A2.l e5;have X5:=xt X2 e5;go_upto_region 7 with fail;obtain ⟨gv,hgv⟩:=nm (zA4 k m d x t);obtain ⟨b1,e1⟩:=nm ((k == 1));obtain ⟨b3,e3⟩:=nm ((k == 3));obtain ⟨sh,hsh⟩:=nm (zHI k m d x t);obtain ⟨ww,hww⟩:=nm ((gv && (b1 || b3)));have hk:ww=true->zA4 k m d x t=true/\(k=1\/k=3):=fun h=>by rw [<- hww,<- hgv,<- e1,<- e3] at h;simpa using h
  have CG:Hid (∀ W,Calls Tryz.prog 11 #[valV k m d x t] W fun e w'=>e=.returned (.bool gv)/\Ext W w'):=fun W=>by rw [<- hgv];exact zHX k m d x t W (by omega)
  have CH:Hid (ww=true->∀ W,Ext w W->Calls Tryz.prog 13 #[valV k m d x t] W fun e w'=>e=.returned (sV sh)/\Ext W w'):=fun _ W x2=>by rw [<- hsh];exact zX1 k m d x t W (by omega) (by omega) (by omega) (hT.l x2) (hE.l x2) (hI.l x2)
  have CT:Hid (ww=true->∀ W,Ext w W->Calls Tryz.prog 12 #[sV sh] W fun e w'=>e=.returned (valV k m d x t)/\Ext W w'):=fun h1 W x2=>by rw [<- zM0 (hk h1).1 (hk h1).2,hsh];exact zVD sh W (by rw [<- hsh];exact zQD (hk h1).1 (hk h1).2 q3) (hT.l x2) (hE.l x2)
  have VN:Hid (∀ W,(binOp BinOp.neq 26 (valV k m d x t) (valV k m d x t)).run Tryz.prog W=.ok (.bool false) W):=fun W=>by rw [zSV];simp [eqVB]
  clear hsh hk hgv;go_cut [57] (fun s wc=>s=.bool false/\Hid (Ext w5 wc))
  case first =>
   refine zCF (fun lx:Nat->Value=>{ tmps:=#[Value.slice p n cap,undef,Value.bool false,Value.pointer (some ⟨w1.heap.size,0,none⟩),Value.pointer (some ⟨w1.heap.size+1,0,none⟩),Value.int .i64 c,undef,undef,undef,undef,undef,u11,u12,u13,u14,u15,u16,u17,u18,u19,u20,u21,u22,u23,u24,u25,u26,u27,u28,u29,u30,u31,u32,u33,u34,u35,u36,u37,Value.bool false,lx 39,lx 40,lx 41,lx 42,lx 43,lx 44,lx 45,lx 46,lx 47,lx 48,lx 49,lx 50,lx 51,lx 52,lx 53,lx 54,lx 55,lx 56,lx 57,u58,u59,u60,u61,u62,u63,u64,u65,u66,u67,u68,u69,u70,u71,u72,u73,u74,u75,u76,u77,u78,u79,u80,u81,u82,u83,u84,u85,u86,u87,u88,u89,u90,u91,u92,u93,u94,u95,u96,u97,u98,u99,u100,u101,u102,u103,u104,u105,u106,u107],defers:=[] }) (fun L lx lw=>Hid (Ext w5 lw/\(L 0=true->lx 39=valV k m d x t)/\(L 1=true->lx 40=Value.bool gv)/\(L 2=true->lx 41=Value.bool gv)/\(L 3=true->lx 42=cond gv (Value.pointer (some ⟨w1.heap.size,0,none⟩)) undef)/\(L 4=true->lx 43=cond gv (iQ k) undef)/\(L 5=true->lx 44=cond gv (Value.bool b1) undef)/\(L 6=true->lx 45=cond gv (Value.bool b1) undef)/\(L 7=true->lx 46=cond (gv && !b1) (Value.pointer (some ⟨w1.heap.size,0,none⟩)) undef)/\(L 8=true->lx 47=cond (gv && !b1) (iQ k) undef)/\(L 9=true->lx 48=cond (gv && !b1) (Value.bool b3) undef)/\(L 10=true->lx 49=cond gv (Value.bool (b1 || b3)) undef)/\(L 11=true->lx 50=Value.bool ww)/\(L 12=true->lx 51=Value.bool ww)/\(L 13=true->lx 52=cond ww (valV k m d x t) undef)/\(L 14=true->lx 53=cond ww (sV sh) undef)/\(L 15=true->lx 54=cond ww (valV k m d x t) undef)/\(L 16=true->lx 55=cond ww (valV k m d x t) undef)/\(L 17=true->lx 56=cond ww (Value.bool false) undef)/\(L 18=true->lx 57=Value.bool false))) rfl (by kernel_rfl) (fun jj=>if jj=39 then u39 else if jj=40 then u40 else if jj=41 then u41 else if jj=42 then u42 else if jj=43 then u43 else if jj=44 then u44 else if jj=45 then u45 else if jj=46 then u46 else if jj=47 then u47 else if jj=48 then u48 else if jj=49 then u49 else if jj=50 then u50 else if jj=51 then u51 else if jj=52 then u52 else if jj=53 then u53 else if jj=54 then u54 else if jj=55 then u55 else if jj=56 then u56 else if jj=57 then u57 else undef) rfl ?_ ?_ ?_
   ·refine ⟨xd (xr _),?_,?_,?_,?_,?_,?_,?_,?_,?_,?_,?_,?_,?_,?_,?_,?_,?_,?_,?_⟩ <;> (intro h;cases h)
   ·intro L lx wl i o K hK ho hL haf hI;obtain ⟨X6,f0,f1,f2,f3,f4,f5,f6,f7,f8,f9,f10,f11,f12,f13,f14,f15,f16,f17,f18⟩:=hI.out
    match i,ho,hL,haf,hK with
    | 0,ho,hL,haf,hK =>
     cases ho;have hJ:=show Hid _ from hK (fun jj=>if jj=39 then valV k m d x t else lx jj);clear hK;refine Eq.mpr (if_pos (by rfl)) ?_
     (try dsimp only)
     obtain ⟨a0,a1,a2,a3,a4⟩:=(A1.l X6).five;go_wp2_with fail;exact hJ.out _ ⟨X6,fun _=>rfl,f1,f2,f3,f4,f5,f6,f7,f8,f9,f10,f11,f12,f13,f14,f15,f16,f17,f18⟩
    | 1,ho,hL,haf,hK =>
     cases ho;rw [f0 (haf ⟨0,.data⟩ (by simp) rfl)];have hJ:=show Hid _ from hK (fun jj=>if jj=40 then Value.bool gv else if jj=39 then valV k m d x t else lx jj);clear hK;refine Eq.mpr (if_pos (by rfl)) ?_
     (try dsimp only)
     go_wp2_with fail;refine (CG.out wl).mono ?_;rintro rr w' ⟨rfl,E6⟩;go_wp2_with fail;exact hJ.out _ ⟨(xt X6 E6),fun _=>rfl,fun _=>rfl,f2,f3,f4,f5,f6,f7,f8,f9,f10,f11,f12,f13,f14,f15,f16,f17,f18⟩
    | 2,ho,hL,haf,hK =>
     cases ho;rw [f1 (haf ⟨1,.data⟩ (by simp) rfl)];have hJ:=show Hid _ from hK (fun jj=>if jj=41 then Value.bool gv else if jj=40 then Value.bool gv else lx jj);clear hK;refine Eq.mpr (if_pos (by rfl)) ?_
     (try dsimp only)
     go_wp2_with fail;exact hJ.out _ ⟨X6,f0,fun _=>rfl,fun _=>rfl,f3,f4,f5,f6,f7,f8,f9,f10,f11,f12,f13,f14,f15,f16,f17,f18⟩
    | 3,ho,hL,haf,hK =>
     cases ho;rw [f2 (haf ⟨2,.guard⟩ (by simp) rfl)];have hJ:=show Hid _ from hK (fun jj=>if jj=42 then cond gv (Value.pointer (some ⟨w1.heap.size,0,none⟩)) undef else if jj=41 then Value.bool gv else lx jj);clear hK;cases gv <;> first | (refine Eq.mpr (if_pos (by rfl)) ?_;(try dsimp only);go_wp2_with fail;exact hJ.out _ ⟨X6,f0,f1,fun _=>rfl,fun _=>rfl,f4,f5,f6,f7,f8,f9,f10,f11,f12,f13,f14,f15,f16,f17,f18⟩) | (refine Eq.mpr (if_neg (fun h=>Bool.noConfusion (show false=true from h))) ?_;exact hJ.out _ ⟨X6,f0,f1,fun _=>rfl,fun _=>rfl,f4,f5,f6,f7,f8,f9,f10,f11,f12,f13,f14,f15,f16,f17,f18⟩)
    | 4,ho,hL,haf,hK =>
     cases ho;rw [f3 (haf ⟨3,.data⟩ (by simp) rfl),f2 (haf ⟨2,.guard⟩ (by simp) rfl)];have hJ:=show Hid _ from hK (fun jj=>if jj=43 then cond gv (iQ k) undef else if jj=42 then cond gv (Value.pointer (some ⟨w1.heap.size,0,none⟩)) undef else if jj=41 then Value.bool gv else lx jj);clear hK;cases gv <;> first | (refine Eq.mpr (if_pos (by rfl)) ?_;(try dsimp only);have a0:=((A1.l X6) 0 _ rfl).1;go_wp2_with fail;exact hJ.out _ ⟨X6,f0,f1,fun _=>rfl,fun _=>rfl,fun _=>rfl,f5,f6,f7,f8,f9,f10,f11,f12,f13,f14,f15,f16,f17,f18⟩) | (refine Eq.mpr (if_neg (fun h=>Bool.noConfusion (show false=true from h))) ?_;exact hJ.out _ ⟨X6,f0,f1,fun _=>rfl,fun _=>rfl,fun _=>rfl,f5,f6,f7,f8,f9,f10,f11,f12,f13,f14,f15,f16,f17,f18⟩)
    | 5,ho,hL,haf,hK =>
     cases ho;rw [f4 (haf ⟨4,.data⟩ (by simp) rfl),f2 (haf ⟨2,.guard⟩ (by simp) rfl)];have hJ:=show Hid _ from hK (fun jj=>if jj=44 then cond gv (Value.bool b1) undef else if jj=43 then cond gv (iQ k) undef else if jj=41 then Value.bool gv else lx jj);clear hK;cases gv <;> cases b1 <;> first | (refine Eq.mpr (if_pos (by rfl)) ?_;(try dsimp only);go_wp2_with fail;exact hJ.out _ ⟨X6,f0,f1,fun _=>rfl,f3,fun _=>rfl,fun _=>rfl,f6,f7,f8,f9,f10,f11,f12,f13,f14,f15,f16,f17,f18⟩) | (refine Eq.mpr (if_neg (fun h=>Bool.noConfusion (show false=true from h))) ?_;exact hJ.out _ ⟨X6,f0,f1,fun _=>rfl,f3,fun _=>rfl,fun _=>rfl,f6,f7,f8,f9,f10,f11,f12,f13,f14,f15,f16,f17,f18⟩)
    | 6,ho,hL,haf,hK =>
     cases ho;rw [f5 (haf ⟨5,.data⟩ (by simp) rfl),f2 (haf ⟨2,.guard⟩ (by simp) rfl)];have hJ:=show Hid _ from hK (fun jj=>if jj=45 then cond gv (Value.bool b1) undef else if jj=44 then cond gv (Value.bool b1) undef else if jj=41 then Value.bool gv else lx jj);clear hK;cases gv <;> first | (refine Eq.mpr (if_pos (by rfl)) ?_;(try dsimp only);go_wp2_with fail;exact hJ.out _ ⟨X6,f0,f1,fun _=>rfl,f3,f4,fun _=>rfl,fun _=>rfl,f7,f8,f9,f10,f11,f12,f13,f14,f15,f16,f17,f18⟩) | (refine Eq.mpr (if_neg (fun h=>Bool.noConfusion (show false=true from h))) ?_;exact hJ.out _ ⟨X6,f0,f1,fun _=>rfl,f3,f4,fun _=>rfl,fun _=>rfl,f7,f8,f9,f10,f11,f12,f13,f14,f15,f16,f17,f18⟩)
    | 7,ho,hL,haf,hK =>
     cases ho;rw [f6 (haf ⟨6,.guard⟩ (by simp) rfl)];have hJ:=show Hid _ from hK (fun jj=>if jj=46 then cond (gv && !b1) (Value.pointer (some ⟨w1.heap.size,0,none⟩)) undef else if jj=45 then cond gv (Value.bool b1) undef else lx jj);clear hK;cases gv <;> cases b1 <;> first | (refine Eq.mpr (if_pos (by rfl)) ?_;(try dsimp only);go_wp2_with fail;exact hJ.out _ ⟨X6,f0,f1,f2,f3,f4,f5,fun _=>rfl,fun _=>rfl,f8,f9,f10,f11,f12,f13,f14,f15,f16,f17,f18⟩) | (refine Eq.mpr (if_neg (fun h=>Bool.noConfusion (show false=true from h))) ?_;exact hJ.out _ ⟨X6,f0,f1,f2,f3,f4,f5,fun _=>rfl,fun _=>rfl,f8,f9,f10,f11,f12,f13,f14,f15,f16,f17,f18⟩)
    | 8,ho,hL,haf,hK =>
     cases ho;rw [f7 (haf ⟨7,.data⟩ (by simp) rfl),f6 (haf ⟨6,.guard⟩ (by simp) rfl)];have hJ:=show Hid _ from hK (fun jj=>if jj=47 then cond (gv && !b1) (iQ k) undef else if jj=46 then cond (gv && !b1) (Value.pointer (some ⟨w1.heap.size,0,none⟩)) undef else if jj=45 then cond gv (Value.bool b1) undef else lx jj);clear hK;cases gv <;> cases b1 <;> first | (refine Eq.mpr (if_pos (by rfl)) ?_;(try dsimp only);have a0:=((A1.l X6) 0 _ rfl).1;go_wp2_with fail;exact hJ.out _ ⟨X6,f0,f1,f2,f3,f4,f5,fun _=>rfl,fun _=>rfl,fun _=>rfl,f9,f10,f11,f12,f13,f14,f15,f16,f17,f18⟩) | (refine Eq.mpr (if_neg (fun h=>Bool.noConfusion (show false=true from h))) ?_;exact hJ.out _ ⟨X6,f0,f1,f2,f3,f4,f5,fun _=>rfl,fun _=>rfl,fun _=>rfl,f9,f10,f11,f12,f13,f14,f15,f16,f17,f18⟩)
    | 9,ho,hL,haf,hK =>
     cases ho;rw [f8 (haf ⟨8,.data⟩ (by simp) rfl),f6 (haf ⟨6,.guard⟩ (by simp) rfl)];have hJ:=show Hid _ from hK (fun jj=>if jj=48 then cond (gv && !b1) (Value.bool b3) undef else if jj=47 then cond (gv && !b1) (iQ k) undef else if jj=45 then cond gv (Value.bool b1) undef else lx jj);clear hK;cases gv <;> cases b1 <;> cases b3 <;> first | (refine Eq.mpr (if_pos (by rfl)) ?_;(try dsimp only);go_wp2_with fail;exact hJ.out _ ⟨X6,f0,f1,f2,f3,f4,f5,fun _=>rfl,f7,fun _=>rfl,fun _=>rfl,f10,f11,f12,f13,f14,f15,f16,f17,f18⟩) | (refine Eq.mpr (if_neg (fun h=>Bool.noConfusion (show false=true from h))) ?_;exact hJ.out _ ⟨X6,f0,f1,f2,f3,f4,f5,fun _=>rfl,f7,fun _=>rfl,fun _=>rfl,f10,f11,f12,f13,f14,f15,f16,f17,f18⟩)
    | 10,ho,hL,haf,hK =>
     cases ho;rw [f6 (haf ⟨6,.data⟩ (by simp) rfl),f9 (haf ⟨9,.data⟩ (by simp) rfl),f2 (haf ⟨2,.guard⟩ (by simp) rfl)];have hJ:=show Hid _ from hK (fun jj=>if jj=49 then cond gv (Value.bool (b1 || b3)) undef else if jj=45 then cond gv (Value.bool b1) undef else if jj=48 then cond (gv && !b1) (Value.bool b3) undef else if jj=41 then Value.bool gv else lx jj);clear hK;cases gv <;> cases b1 <;> cases b3 <;> first | (refine Eq.mpr (if_pos (by rfl)) ?_;(try dsimp only);go_wp2_with fail;exact hJ.out _ ⟨X6,f0,f1,fun _=>rfl,f3,f4,f5,fun _=>rfl,f7,f8,fun _=>rfl,fun _=>rfl,f11,f12,f13,f14,f15,f16,f17,f18⟩) | (refine Eq.mpr (if_neg (fun h=>Bool.noConfusion (show false=true from h))) ?_;exact hJ.out _ ⟨X6,f0,f1,fun _=>rfl,f3,f4,f5,fun _=>rfl,f7,f8,fun _=>rfl,fun _=>rfl,f11,f12,f13,f14,f15,f16,f17,f18⟩)
    | 11,ho,hL,haf,hK =>
     cases ho;rw [f2 (haf ⟨2,.data⟩ (by simp) rfl),f10 (haf ⟨10,.data⟩ (by simp) rfl)];have hJ:=show Hid _ from hK (fun jj=>if jj=50 then Value.bool ww else if jj=41 then Value.bool gv else if jj=49 then cond gv (Value.bool (b1 || b3)) undef else lx jj);clear hK;cases gv <;> cases b1 <;> cases b3 <;> cases hww <;> (refine Eq.mpr (if_pos (by rfl)) ?_;(try dsimp only);go_wp2_with fail;exact hJ.out _ ⟨X6,f0,f1,fun _=>rfl,f3,f4,f5,f6,f7,f8,f9,fun _=>rfl,fun _=>rfl,f12,f13,f14,f15,f16,f17,f18⟩)
    | 12,ho,hL,haf,hK =>
     cases ho;rw [f11 (haf ⟨11,.data⟩ (by simp) rfl)];have hJ:=show Hid _ from hK (fun jj=>if jj=51 then Value.bool ww else if jj=50 then Value.bool ww else lx jj);clear hK;refine Eq.mpr (if_pos (by rfl)) ?_
     (try dsimp only)
     go_wp2_with fail;exact hJ.out _ ⟨X6,f0,f1,f2,f3,f4,f5,f6,f7,f8,f9,f10,fun _=>rfl,fun _=>rfl,f13,f14,f15,f16,f17,f18⟩
    | 13,ho,hL,haf,hK =>
     cases ho;rw [f12 (haf ⟨12,.guard⟩ (by simp) rfl)];have hJ:=show Hid _ from hK (fun jj=>if jj=52 then cond ww (valV k m d x t) undef else if jj=51 then Value.bool ww else lx jj);clear hK;cases ww <;> first | (refine Eq.mpr (if_pos (by rfl)) ?_;(try dsimp only);obtain ⟨a0,a1,a2,a3,a4⟩:=(A1.l X6).five;go_wp2_with fail;exact hJ.out _ ⟨X6,f0,f1,f2,f3,f4,f5,f6,f7,f8,f9,f10,f11,fun _=>rfl,fun _=>rfl,f14,f15,f16,f17,f18⟩) | (refine Eq.mpr (if_neg (fun h=>Bool.noConfusion (show false=true from h))) ?_;exact hJ.out _ ⟨X6,f0,f1,f2,f3,f4,f5,f6,f7,f8,f9,f10,f11,fun _=>rfl,fun _=>rfl,f14,f15,f16,f17,f18⟩)
    | 14,ho,hL,haf,hK =>
     cases ho;rw [f13 (haf ⟨13,.data⟩ (by simp) rfl),f12 (haf ⟨12,.guard⟩ (by simp) rfl)];have hJ:=show Hid _ from hK (fun jj=>if jj=53 then cond ww (sV sh) undef else if jj=52 then cond ww (valV k m d x t) undef else if jj=51 then Value.bool ww else lx jj);clear hK;cases ww <;> first | (refine Eq.mpr (if_pos (by rfl)) ?_;(try dsimp only);go_wp2_with fail;refine (CH.out (by first | rfl | trivial) wl (xt X5 X6)).mono ?_;rintro rr w' ⟨rfl,E6⟩;go_wp2_with fail;exact hJ.out _ ⟨(xt X6 E6),f0,f1,f2,f3,f4,f5,f6,f7,f8,f9,f10,f11,fun _=>rfl,fun _=>rfl,fun _=>rfl,f15,f16,f17,f18⟩) | (refine Eq.mpr (if_neg (fun h=>Bool.noConfusion (show false=true from h))) ?_;exact hJ.out _ ⟨X6,f0,f1,f2,f3,f4,f5,f6,f7,f8,f9,f10,f11,fun _=>rfl,fun _=>rfl,fun _=>rfl,f15,f16,f17,f18⟩)
    | 15,ho,hL,haf,hK =>
     cases ho;rw [f14 (haf ⟨14,.data⟩ (by simp) rfl),f12 (haf ⟨12,.guard⟩ (by simp) rfl)];have hJ:=show Hid _ from hK (fun jj=>if jj=54 then cond ww (valV k m d x t) undef else if jj=53 then cond ww (sV sh) undef else if jj=51 then Value.bool ww else lx jj);clear hK;cases ww <;> first | (refine Eq.mpr (if_pos (by rfl)) ?_;(try dsimp only);go_wp2_with fail;refine (CT.out (by first | rfl | trivial) wl (xt X5 X6)).mono ?_;rintro rr w' ⟨rfl,E6⟩;go_wp2_with fail;exact hJ.out _ ⟨(xt X6 E6),f0,f1,f2,f3,f4,f5,f6,f7,f8,f9,f10,f11,fun _=>rfl,f13,fun _=>rfl,fun _=>rfl,f16,f17,f18⟩) | (refine Eq.mpr (if_neg (fun h=>Bool.noConfusion (show false=true from h))) ?_;exact hJ.out _ ⟨X6,f0,f1,f2,f3,f4,f5,f6,f7,f8,f9,f10,f11,fun _=>rfl,f13,fun _=>rfl,fun _=>rfl,f16,f17,f18⟩)
    | 16,ho,hL,haf,hK =>
     cases ho;rw [f12 (haf ⟨12,.guard⟩ (by simp) rfl)];have hJ:=show Hid _ from hK (fun jj=>if jj=55 then cond ww (valV k m d x t) undef else if jj=51 then Value.bool ww else lx jj);clear hK;cases ww <;> first | (refine Eq.mpr (if_pos (by rfl)) ?_;(try dsimp only);obtain ⟨a0,a1,a2,a3,a4⟩:=(A1.l X6).five;go_wp2_with fail;exact hJ.out _ ⟨X6,f0,f1,f2,f3,f4,f5,f6,f7,f8,f9,f10,f11,fun _=>rfl,f13,f14,f15,fun _=>rfl,f17,f18⟩) | (refine Eq.mpr (if_neg (fun h=>Bool.noConfusion (show false=true from h))) ?_;exact hJ.out _ ⟨X6,f0,f1,f2,f3,f4,f5,f6,f7,f8,f9,f10,f11,fun _=>rfl,f13,f14,f15,fun _=>rfl,f17,f18⟩)
    | 17,ho,hL,haf,hK =>
     cases ho;rw [f15 (haf ⟨15,.data⟩ (by simp) rfl),f16 (haf ⟨16,.data⟩ (by simp) rfl),f12 (haf ⟨12,.guard⟩ (by simp) rfl)];have hJ:=show Hid _ from hK (fun jj=>if jj=56 then cond ww (Value.bool false) undef else if jj=54 then cond ww (valV k m d x t) undef else if jj=55 then cond ww (valV k m d x t) undef else if jj=51 then Value.bool ww else lx jj);clear hK;cases ww <;> first | (refine Eq.mpr (if_pos (by rfl)) ?_;(try dsimp only);have VE:=VN.out wl;go_wp2_with fail;exact hJ.out _ ⟨X6,f0,f1,f2,f3,f4,f5,f6,f7,f8,f9,f10,f11,fun _=>rfl,f13,f14,fun _=>rfl,fun _=>rfl,fun _=>rfl,f18⟩) | (refine Eq.mpr (if_neg (fun h=>Bool.noConfusion (show false=true from h))) ?_;exact hJ.out _ ⟨X6,f0,f1,f2,f3,f4,f5,f6,f7,f8,f9,f10,f11,fun _=>rfl,f13,f14,fun _=>rfl,fun _=>rfl,fun _=>rfl,f18⟩)
    | 18,ho,hL,haf,hK =>
     cases ho;rw [f12 (haf ⟨12,.data⟩ (by simp) rfl),f17 (haf ⟨17,.data⟩ (by simp) rfl)];have hJ:=show Hid _ from hK (fun jj=>if jj=57 then Value.bool false else if jj=51 then Value.bool ww else if jj=56 then cond ww (Value.bool false) undef else lx jj);clear hK;cases ww <;> (refine Eq.mpr (if_pos (by rfl)) ?_;(try dsimp only);go_wp2_with fail;exact hJ.out _ ⟨X6,f0,f1,f2,f3,f4,f5,f6,f7,f8,f9,f10,f11,fun _=>rfl,f13,f14,f15,f16,fun _=>rfl,fun _=>rfl⟩)
    | k+19,ho,_,_,_=>simp at ho
   ·intro L lx w6 hall hI;obtain ⟨X6,f0,f1,f2,f3,f4,f5,f6,f7,f8,f9,f10,f11,f12,f13,f14,f15,f16,f17,f18⟩:=hI.out;have v2:=f18 (hall 18 (by simp));have XQ:=X6;clear hI hall f0 f1 f2 f3 f4 f5 f6 f7 f8 f9 f10 f11 f12 f13 f14 f15 f16 f17 f18
    (try dsimp only)
    rw [v2];go_wp2_with fail;go_meet
    exact ⟨rfl,XQ⟩
  case rest =>
   obtain ⟨rfl,hW⟩:=hcut
   rename World=>w6
   have e6:=hW.out;have X6:=xt X5 e6;clear hW CG A1 A2 e5;have hcd:zCQ w6 w6.heap.size (.slice p n cap) n:=(h.only (Only.of_ext X6 (b:=w.heap.size)) (Nat.le_refl _)).raise X6.size;go_wp2_with fail;refine (zRQ _ n w6 hcd (by omega)).mono ?_;rintro e w7 ⟨⟨op,R,C,sv,l,R',C',sv',l',rfl,hop,⟨v1,v2,v3⟩,v4,v5,v6⟩,e7⟩;have X7:=xt X6 e7;clear hcd h e7 e6 q1 q2 q3 q4 q5 q6;have V1:=v1;have V2:=v4;obtain ⟨pa,ca,rfl,-,-⟩:=v1;obtain ⟨pb,cb,rfl,-,-⟩:=v4;have o1:∀ e ∈ l,e.t.length<=1048576:=fun e he=>by have:=(v3 e he).2.2;omega
   have o2:∀ e ∈ l',e.t.length<=1048576:=fun e he=>by have:=(v6 e he).2.2;omega
   have g1:∀ e ∈ l,-9223372036854775808<=e.d/\e.d<=9223372036854775807:=fun e he=>by have:=v3 e he;unfold okE at this;omega
   have g2:∀ e ∈ l',-9223372036854775808<=e.d/\e.d<=9223372036854775807:=fun e he=>by have:=v6 e he;unfold okE at this;omega
   obtain ⟨⟨R0,C0,L0⟩,hG⟩:∃ G,zDV op R C l R' C' l'=G:=⟨_,rfl⟩;have HG:Hid (zDV op R C l R' C' l'=(R0,C0,L0)):=hG;have HL:Hid (L0.length<=2000):=zRD hG;have CGI:Hid (∀ W,Ext w W->zB6 W (.slice pa l.length ca) l->zB6 W (.slice pb l'.length cb) l'->Calls Tryz.prog 15 #[sV op,grV R C (.slice pa l.length ca),grV R' C' (.slice pb l'.length cb)] W fun e w'=>(∃ p n c,e=.returned (grV R0 C0 (.slice p n c))/\zB6 w' (.slice p n c) L0)/\Ext W w'):=fun W x2 k1 k2=>(zV7 op R C _ l R' C' _ l' W k1 k2 (by omega) (by omega) (by omega) o1 o2 g1 g2 (hT.l x2) (hE.l x2) (hI.l x2)).mono fun e w' q=>by
    obtain ⟨⟨sv,j1,j2⟩,j3⟩:=q;rw [hG] at j1 j2;obtain ⟨p,n,c,rfl⟩:=zAV j2;exact ⟨⟨p,n,c,j1,zJA j2⟩,j3⟩
   have CGS:Hid (∀ W,zB6 W (.slice pa l.length ca) l->zB6 W (.slice pb l'.length cb) l'->Calls Tryz.prog 17 #[sV op,grV R C (.slice pa l.length ca),grV R' C' (.slice pb l'.length cb)] W fun e w'=>(∃ p n c,e=.returned (grV R0 C0 (.slice p n c))/\zB6 w' (.slice p n c) L0)/\Ext W w'):=fun W k1 k2=>(zV6 op R C _ l R' C' _ l' W k1 k2 (by omega) (by omega) o1 o2).mono fun e w' q=>by
    obtain ⟨⟨sv,j1,j2⟩,j3⟩:=q;rw [hG] at j1 j2;obtain ⟨p,n,c,rfl⟩:=zAV j2;exact ⟨⟨p,n,c,j1,zJA j2⟩,j3⟩
   have HO:Hid ((∀ e ∈ l,okE e)/\(∀ e ∈ l',okE e)/\op.length<=2):=⟨v3,v6,hop⟩;have HT:Hid (Tens w/\zAH w/\zEN w):=⟨hT,hE,hI⟩;obtain ⟨n1,hn1⟩:=nm (l.length);obtain ⟨n2,hn2⟩:=nm (l'.length);have HN:Hid (l.length=n1/\l'.length=n2):=⟨hn1,hn2⟩;rw [hn1] at CGI CGS V1 v2 ⊢;rw [hn2] at CGI CGS V2 v5 ⊢;clear o1 o2 g1 g2 hG v3 v6 hop hT hE hI hn1 hn2;obtain ⟨u0,u1,y1,w8,h0,h1,s0,hy1,hy2,Z0,Z1,G1,G2,E8⟩:=zV3 w7 R C pa n1 ca R' C' pb n2 cb;obtain ⟨z0,z1,z2⟩:=Z0.three;obtain ⟨f0,f1,f2⟩:=Z0.threeF;obtain ⟨k0,k1,k2⟩:=Z1.three;obtain ⟨j0,j1,j2⟩:=Z1.threeF;obtain ⟨a0,a1,a2⟩:=G1.three;obtain ⟨c0,c1,c2⟩:=G2.three;have X8:=xt X7 E8;have V1:=V1.l E8;have V2:=V2.l E8;go_wp2_with fail;clear h0 h1 s0 hy1 hy2 Z0 Z1 z0 z1 z2 f0 f1 f2 k0 k1 k2 j0 j1 j2 a0 a1 a2 c0 c1 c2 E8;refine (CGI.out w8 X8 V1 V2).mono ?_;rintro e w9 ⟨⟨pc,nc,cc,rfl,V3⟩,e9⟩;obtain ⟨wz,w10,hz,hy,G3,E10,⟨z0,z1,z2⟩,f0,f1,f2⟩:=newG w9 R0 C0 pc nc cc;have e10:=xt e9 E10;have V1:=V1.l e10;have V2:=V2.l e10;have V3:=V3.l E10;have G1:=G1.l e10;have G2:=G2.l e10;have X10:=xt X8 e10;clear CGI e9;obtain ⟨b3,hb3⟩:=nm (w9.heap.size);obtain ⟨b1,hb1⟩:=nm (w7.heap.size);rw [hb3] at hy G3 z0 z1 z2 f0 f1 f2;rw [hb1] at G1 G2;go_upto_region 11 with fail;clear hz hy z0 z1 z2 f0 f1 f2
   try rw [hb3]
   try rw [hb1]
   clear hb1 hb3 e10 E10;go_cut [74] (fun s wc=>s=.bool false/\Hid (Ext w10 wc))
   case first =>
    obtain ⟨a0,a1,a2⟩:=G1.three;obtain ⟨c0,c1,c2⟩:=G2.three;obtain ⟨d0,d1,d2⟩:=G3.three;go_region_held3 (fun w'=>(w'.cell? ⟨b1,0,none⟩=some (iQ R)/\w'.cell? ⟨b1,1,none⟩=some (iQ C)/\w'.cell? ⟨b1,2,none⟩=some (.slice pa n1 ca))/\(w'.cell? ⟨b1+1,0,none⟩=some (iQ R')/\w'.cell? ⟨b1+1,1,none⟩=some (iQ C')/\w'.cell? ⟨b1+1,2,none⟩=some (.slice pb n2 cb))/\w'.cell? ⟨b3,0,none⟩=some (iQ R0)/\w'.cell? ⟨b3,1,none⟩=some (iQ C0)/\w'.cell? ⟨b3,2,none⟩=some (.slice pc nc cc)) (go_keep)
     (first
      | (go_at_call 17;refine (CGS.out _ (V1.l (xd (xr _))) (V2.l (xd (xr _)))).mono ?_;rintro e w' ⟨⟨pd,nd,cd,rfl,V4⟩,E⟩;have Y:=xt (xd (xr _)) E;have r0:=cell_later Y a0;have r1:=cell_later Y a1;have r2:=cell_later Y a2;have s0:=cell_later Y c0;have s1:=cell_later Y c1;have s2:=cell_later Y c2;have t0:=cell_later Y d0;have t1:=cell_later Y d1;have t2:=cell_later Y d2)
      | (go_at_call 16;refine (zVC R0 C0 _ _ L0 _ (V3.l Y) V4 (by have:=HL.out;omega)).mono ?_;rintro e w'' ⟨rfl,E2⟩;have Y2:=xt Y E2;have r0:=cell_later Y2 a0;have r1:=cell_later Y2 a1;have r2:=cell_later Y2 a2;have s0:=cell_later Y2 c0;have s1:=cell_later Y2 c1;have s2:=cell_later Y2 c2;have t0:=cell_later Y2 d0;have t1:=cell_later Y2 d1;have t2:=cell_later Y2 d2))
    all_goals
     go_wp2_with fail;go_meet
     exact ⟨rfl,Y2⟩
   case rest =>
    obtain ⟨rfl,hW⟩:=hcut
    rename World=>w12
    have E12:=hW.out;have V1:=V1.l E12;have V2:=V2.l E12;have V3:=V3.l E12;have G1:=G1.l E12;have G2:=G2.l E12;have G3:=G3.l E12;have X12:=xt X10 E12;clear hW CGS E12;have d0:=(G3 0 _ rfl).1;by_cases hR:R0=0
    ·have eR:(R0 == 0)=true:=(by simpa using hR);clear hR;go_wp2_with fail;go_ret;exact ⟨rfl,X12⟩
    ·have eR:(R0 == 0)=false:=(by simpa using hR);obtain ⟨⟨ek,en,ed,ex,et⟩,⟨hk,hn,hd,hx,ht⟩,⟨qk,qn,qd,qx,qt⟩,m1,m2,m3,rfl,rfl,rfl,hap⟩:=zMO HG.out hR;obtain ⟨HO1,HO2,HO3⟩:=HO.out;obtain ⟨HT1,HT2,HT3⟩:=HT.out;obtain ⟨HN1,HN2⟩:=HN.out;have oa:=HO1 ⟨ek,en,ed,ex,et⟩ (List.mem_cons_self ..);have ob:=HO2 ⟨hk,hn,hd,hx,ht⟩ (List.mem_cons_self ..);unfold okE at oa ob;dsimp only at oa ob hap;have n10:(0:Int)<(n1:Int):=(by rw [<- HN1];simp);have n20:(0:Int)<(n2:Int):=(by rw [<- HN2];simp);have CA:Hid (∀ W,Ext w W->Calls Tryz.prog 18 #[sV op,valV ek en ed ex et,valV hk hn hd hx ht] W fun e w'=>e=.returned (valV qk qn qd qx qt)/\Ext W w'):=fun W x2=>by
      have:=zWP op ek en ed ex et hk hn hd hx ht W (by omega) (by omega) (by omega) (by omega) (by omega) (by omega) (by omega) (HT1.l x2) (HT2.l x2) (HT3.l x2);rw [hap] at this;exact this
     have CB:Hid (∀ W,Calls Tryz.prog 19 #[sV op,valV ek en ed ex et,valV hk hn hd hx ht] W fun e w'=>e=.returned (valV qk qn qd qx qt)/\Ext W w'):=fun W=>by
      have:=zWO op ek en ed ex et hk hn hd hx ht W (by omega) (by omega);rw [hap] at this;exact this
     have VQ:Hid (∀ W,(binOp BinOp.eql 26 (valV qk qn qd qx qt) (valV qk qn qd qx qt)).run Tryz.prog W=.ok (.bool true) W):=fun W=>(by rw [zSW];simp [eqVB]);obtain ⟨_,_,hv1,_,hr1⟩:=V1;obtain ⟨_,_,hv2,_,hr2⟩:=V2;obtain ⟨_,_,hv3,_,hr3⟩:=V3;injection hv1 with y1 y2 y3;subst y1 y3;injection hv2 with y1 y4 y3;subst y1 y3;injection hv3 with y1 y5 y3;subst y1 y3;clear y2 y4;have nc0:(0:Int)<(nc:Int):=(by rw [y5];simp);clear y5;obtain ⟨ba,ao,rfl,ra⟩:=hr1 (by simp);obtain ⟨b5,bo,rfl,rb⟩:=hr2 (by simp);obtain ⟨bc,co,rfl,rc⟩:=hr3 (by simp);have ra:=ra.five (k:=0) rfl;have rb:=rb.five (k:=0) rfl;have rc:=rc.five (k:=0) rfl;simp only [Nat.zero_mul,Nat.add_zero] at ra rb rc;go_upto_region 15 with fail;refine zA2 (fun lx:Nat->Value=>{ tmps:=#[Value.slice p n cap,undef,Value.bool false,Value.pointer (some ⟨w1.heap.size,0,none⟩),Value.pointer (some ⟨w1.heap.size+1,0,none⟩),Value.int .i64 c,sV op,Value.pointer (some ⟨b1,0,none⟩),Value.pointer (some ⟨b1+1,0,none⟩),Value.pointer (some ⟨b3,0,none⟩),lx 10,u11,u12,u13,u14,u15,u16,u17,u18,u19,u20,u21,u22,u23,u24,u25,u26,u27,u28,u29,u30,u31,u32,u33,u34,u35,u36,u37,u38,u39,u40,u41,u42,u43,u44,u45,u46,u47,u48,u49,u50,u51,u52,u53,u54,u55,u56,u57,u58,u59,u60,u61,u62,u63,u64,u65,u66,u67,u68,u69,u70,u71,u72,u73,Value.bool false,Value.pointer (some ⟨b3,0,none⟩),Value.int .i64 R0,Value.bool false,lx 78,lx 79,lx 80,lx 81,lx 82,lx 83,lx 84,lx 85,lx 86,lx 87,u88,u89,u90,u91,u92,u93,u94,u95,u96,u97,u98,u99,u100,u101,u102,u103,u104,u105,u106,u107],defers:=[] }) (fun L lx lw=>Hid (Ext w12 lw/\(L 0=true->lx 78=sV op)/\(L 1=true->lx 79=Value.pointer (some ⟨b1,2,none⟩))/\(L 2=true->lx 80=Value.slice (some ⟨ba,ao,none⟩) n1 ca)/\(L 3=true->lx 81=Value.pointer (some ⟨ba,ao,none⟩))/\(L 4=true->lx 82=valV ek en ed ex et)/\(L 5=true->lx 83=Value.pointer (some ⟨b1+1,2,none⟩))/\(L 6=true->lx 84=Value.slice (some ⟨b5,bo,none⟩) n2 cb)/\(L 7=true->lx 85=Value.pointer (some ⟨b5,bo,none⟩))/\(L 8=true->lx 86=valV hk hn hd hx ht)/\(L 9=true->lx 87=valV qk qn qd qx qt)/\(L 10=true->∃ b,lx 10=.pointer (some ⟨b,0,none⟩)/\w12.heap.size<=b/\(L 11=false->Vec lw b [iQ 0,.bool false,iQ 0,iQ 0,sV []])/\(L 11=true->Vec lw b [iQ qk,.bool qn,iQ qd,iQ qx,sV qt]))/\(L 11=true->L 10=true))) rfl (by kernel_rfl) (fun jj=>if jj=78 then u78 else if jj=79 then u79 else if jj=80 then u80 else if jj=81 then u81 else if jj=82 then u82 else if jj=83 then u83 else if jj=84 then u84 else if jj=85 then u85 else if jj=86 then u86 else if jj=87 then u87 else undef) rfl ?_ ?_ ?_
     ·exact ⟨xd (xr _),(fun h=>by cases h),(fun h=>by cases h),(fun h=>by cases h),(fun h=>by cases h),(fun h=>by cases h),(fun h=>by cases h),(fun h=>by cases h),(fun h=>by cases h),(fun h=>by cases h),(fun h=>by cases h),(fun h=>by cases h),(fun h=>by cases h)⟩
     ·intro L lx wl i o K hK ho hL haf hI;obtain ⟨X,f0,f1,f2,f3,f4,f5,f6,f7,f8,f9,f10,f11⟩:=hI.out
      match i,ho,hL,haf,hK with
      | 0,ho,hL,haf,hK =>
       cases ho
       (try dsimp only)
       go_wp2_with fail;exact hK (fun jj=>if jj=78 then sV op else lx jj) _ ⟨X,(fun _=>rfl),f1,f2,f3,f4,f5,f6,f7,f8,f9,f10,f11⟩
      | 1,ho,hL,haf,hK =>
       cases ho
       (try dsimp only)
       go_wp2_with fail;exact hK (fun jj=>if jj=79 then Value.pointer (some ⟨b1,2,none⟩) else lx jj) _ ⟨X,f0,(fun _=>rfl),f2,f3,f4,f5,f6,f7,f8,f9,f10,f11⟩
      | 2,ho,hL,haf,hK =>
       cases ho
       (try dsimp only)
       rw [f1 (haf ⟨1,.data⟩ (by simp) rfl)];have a2:=((G1.l X) 2 _ rfl).1;go_wp2_with fail;exact hK (fun jj=>if jj=80 then Value.slice (some ⟨ba,ao,none⟩) n1 ca else if jj=79 then Value.pointer (some ⟨b1,2,none⟩) else lx jj) _ ⟨X,f0,(fun _=>rfl),(fun _=>rfl),f3,f4,f5,f6,f7,f8,f9,f10,f11⟩
      | 3,ho,hL,haf,hK =>
       cases ho
       (try dsimp only)
       rw [f2 (haf ⟨2,.data⟩ (by simp) rfl)];go_wp2_with fail;exact hK (fun jj=>if jj=81 then Value.pointer (some ⟨ba,ao,none⟩) else if jj=80 then Value.slice (some ⟨ba,ao,none⟩) n1 ca else lx jj) _ ⟨X,f0,f1,(fun _=>rfl),(fun _=>rfl),f4,f5,f6,f7,f8,f9,f10,f11⟩
      | 4,ho,hL,haf,hK =>
       cases ho
       (try dsimp only)
       rw [f3 (haf ⟨3,.data⟩ (by simp) rfl)];obtain ⟨r0,r1,r2,r3,r4⟩:=ra;have s0:=cell_later X r0;have s1:=cell_later X r1;have s2:=cell_later X r2;have s3:=cell_later X r3;have s4:=cell_later X r4;go_wp2_with fail;exact hK (fun jj=>if jj=82 then valV ek en ed ex et else if jj=81 then Value.pointer (some ⟨ba,ao,none⟩) else lx jj) _ ⟨X,f0,f1,f2,(fun _=>rfl),(fun _=>rfl),f5,f6,f7,f8,f9,f10,f11⟩
      | 5,ho,hL,haf,hK =>
       cases ho
       (try dsimp only)
       go_wp2_with fail;exact hK (fun jj=>if jj=83 then Value.pointer (some ⟨b1+1,2,none⟩) else lx jj) _ ⟨X,f0,f1,f2,f3,f4,(fun _=>rfl),f6,f7,f8,f9,f10,f11⟩
      | 6,ho,hL,haf,hK =>
       cases ho
       (try dsimp only)
       rw [f5 (haf ⟨5,.data⟩ (by simp) rfl)];have a2:=((G2.l X) 2 _ rfl).1;go_wp2_with fail;exact hK (fun jj=>if jj=84 then Value.slice (some ⟨b5,bo,none⟩) n2 cb else if jj=83 then Value.pointer (some ⟨b1+1,2,none⟩) else lx jj) _ ⟨X,f0,f1,f2,f3,f4,(fun _=>rfl),(fun _=>rfl),f7,f8,f9,f10,f11⟩
      | 7,ho,hL,haf,hK =>
       cases ho
       (try dsimp only)
       rw [f6 (haf ⟨6,.data⟩ (by simp) rfl)];go_wp2_with fail;exact hK (fun jj=>if jj=85 then Value.pointer (some ⟨b5,bo,none⟩) else if jj=84 then Value.slice (some ⟨b5,bo,none⟩) n2 cb else lx jj) _ ⟨X,f0,f1,f2,f3,f4,f5,(fun _=>rfl),(fun _=>rfl),f8,f9,f10,f11⟩
      | 8,ho,hL,haf,hK =>
       cases ho
       (try dsimp only)
       rw [f7 (haf ⟨7,.data⟩ (by simp) rfl)];obtain ⟨r0,r1,r2,r3,r4⟩:=rb;have s0:=cell_later X r0;have s1:=cell_later X r1;have s2:=cell_later X r2;have s3:=cell_later X r3;have s4:=cell_later X r4;go_wp2_with fail;exact hK (fun jj=>if jj=86 then valV hk hn hd hx ht else if jj=85 then Value.pointer (some ⟨b5,bo,none⟩) else lx jj) _ ⟨X,f0,f1,f2,f3,f4,f5,f6,(fun _=>rfl),(fun _=>rfl),f9,f10,f11⟩
      | 9,ho,hL,haf,hK =>
       cases ho
       (try dsimp only)
       rw [f0 (haf ⟨0,.data⟩ (by simp) rfl),f4 (haf ⟨4,.data⟩ (by simp) rfl),f8 (haf ⟨8,.data⟩ (by simp) rfl)];go_wp2_with fail;refine (CA.out wl (xt X12 X)).mono ?_;rintro rr w' ⟨rfl,E⟩;go_wp2_with fail;exact hK (fun jj=>if jj=87 then valV qk qn qd qx qt else if jj=78 then sV op else if jj=82 then valV ek en ed ex et else if jj=86 then valV hk hn hd hx ht else lx jj) _ ⟨xt X E,(fun _=>rfl),f1,f2,f3,(fun _=>rfl),f5,f6,f7,(fun _=>rfl),(fun _=>rfl),(fun h=>by obtain ⟨b,h1,h2,h3,h4⟩:=f10 h;exact ⟨b,h1,h2,fun h=>(h3 h).l E,fun h=>(h4 h).l E⟩),f11⟩
      | 10,ho,hL,haf,hK =>
       cases ho
       (try dsimp only)
       have hst:L 11=true->False:=fun h=>(by have:=f11 h;rw [hL] at this;cases this);have E:=x1 wl (.cells #[iQ 0,.bool false,iQ 0,iQ 0,sV []] 26);go_wp2_with fail;exact hK (fun jj=>if jj=10 then .pointer (some ⟨wl.heap.size,0,none⟩) else lx jj) _ ⟨xt X E,f0,f1,f2,f3,f4,f5,f6,f7,f8,f9,(fun _=>⟨wl.heap.size,rfl,by have:=X.size;omega,fun _=>zA5 wl [iQ 0,.bool false,iQ 0,iQ 0,sV []] _,fun h=>(hst h).elim⟩),(fun _=>rfl)⟩
      | 11,ho,hL,haf,hK =>
       cases ho
       (try dsimp only)
       have hmk:L 10=true:=haf ⟨10,.data⟩ (by simp) rfl;obtain ⟨b,eb',hb,hz,_⟩:=f10 hmk;have bx:=hz hL;rw [eb',f9 (haf ⟨9,.data⟩ (by simp) rfl)];obtain ⟨b0,b1,b2,b3,b4⟩:=Vec.five (bx);obtain ⟨fb0,fb1,fb2,fb3,fb4⟩:=Vec.fiveF (bx);have hX:=Ext.setL (b:=b) (by omega) [iQ qk,.bool qn,iQ qd,iQ qx,sV qt] 0 X;have hB:=bx.put5 (iQ qk) (.bool qn) (iQ qd) (iQ qx) (sV qt);go_wp2_with fail;exact hK (fun jj=>if jj=10 then .pointer (some ⟨b,0,none⟩) else if jj=87 then valV qk qn qd qx qt else lx jj) _ ⟨hX,f0,f1,f2,f3,f4,f5,f6,f7,f8,(fun _=>rfl),(fun _=>⟨b,rfl,hb,(fun h=>by cases h),fun _=>hB⟩),(fun _=>hmk)⟩
      | k+12,ho,_,_,_=>simp at ho
     ·intro L lx wr hall hI;obtain ⟨XR,f0,f1,f2,f3,f4,f5,f6,f7,f8,f9,f10,f11⟩:=hI.out;clear hI;replace f0:=f0 (hall 0 (by simp));replace f1:=f1 (hall 1 (by simp));replace f2:=f2 (hall 2 (by simp));replace f3:=f3 (hall 3 (by simp));replace f4:=f4 (hall 4 (by simp));replace f5:=f5 (hall 5 (by simp));replace f6:=f6 (hall 6 (by simp));replace f7:=f7 (hall 7 (by simp));replace f8:=f8 (hall 8 (by simp));replace f9:=f9 (hall 9 (by simp));obtain ⟨bb,eb,lb,_,hz⟩:=f10 (hall 10 (by simp));have BN:=hz (hall 11 (by simp))
      (try dsimp only)
      rw [eb];rw [f0,f1,f2,f3,f4,f5,f6,f7,f8,f9];clear hall hz f0 f1 f2 f3 f4 f5 f6 f7 f8 f9 f10 f11;have X13:=xt X12 XR;have G1:=G1.l XR;have G2:=G2.l XR;have G3:=G3.l XR;obtain ⟨ra0,ra1,ra2,ra3,ra4⟩:=ra;have ra0:=cell_later XR ra0;have ra1:=cell_later XR ra1;have ra2:=cell_later XR ra2;have ra3:=cell_later XR ra3;have ra4:=cell_later XR ra4;obtain ⟨rb0,rb1,rb2,rb3,rb4⟩:=rb;have rb0:=cell_later XR rb0;have rb1:=cell_later XR rb1;have rb2:=cell_later XR rb2;have rb3:=cell_later XR rb3;have rb4:=cell_later XR rb4;obtain ⟨rc0,rc1,rc2,rc3,rc4⟩:=rc;have rc0:=cell_later XR rc0;have rc1:=cell_later XR rc1;have rc2:=cell_later XR rc2;have rc3:=cell_later XR rc3;have rc4:=cell_later XR rc4;clear CA XR
      rename World=>w13
      go_upto_region 16 with fail;refine zCF (fun lx:Nat->Value=>{ tmps:=#[Value.slice p n cap,undef,lx 2,Value.pointer (some ⟨w1.heap.size,0,none⟩),Value.pointer (some ⟨w1.heap.size+1,0,none⟩),Value.int .i64 c,sV op,Value.pointer (some ⟨b1,0,none⟩),Value.pointer (some ⟨b1+1,0,none⟩),Value.pointer (some ⟨b3,0,none⟩),Value.pointer (some ⟨bb,0,none⟩),u11,u12,u13,u14,u15,u16,u17,u18,u19,u20,u21,u22,u23,u24,u25,u26,u27,u28,u29,u30,u31,u32,u33,u34,u35,u36,u37,u38,u39,u40,u41,u42,u43,u44,u45,u46,u47,u48,u49,u50,u51,u52,u53,u54,u55,u56,u57,u58,u59,u60,u61,u62,u63,u64,u65,u66,u67,u68,u69,u70,u71,u72,u73,Value.bool false,Value.pointer (some ⟨b3,0,none⟩),Value.int .i64 R0,Value.bool false,sV op,Value.pointer (some ⟨b1,2,none⟩),Value.slice (some ⟨ba,ao,none⟩) n1 ca,Value.pointer (some ⟨ba,ao,none⟩),valV ek en ed ex et,Value.pointer (some ⟨b1+1,2,none⟩),Value.slice (some ⟨b5,bo,none⟩) n2 cb,Value.pointer (some ⟨b5,bo,none⟩),valV hk hn hd hx ht,valV qk qn qd qx qt,lx 88,lx 89,lx 90,lx 91,lx 92,lx 93,lx 94,lx 95,lx 96,lx 97,lx 98,lx 99,lx 100,lx 101,lx 102,lx 103,lx 104,lx 105,lx 106,lx 107],defers:=[] }) (fun L lx lw=>Hid (Ext w13 lw/\(L 0=true->lx 88=valV qk qn qd qx qt)/\(L 1=true->lx 89=Value.pointer (some ⟨b3,2,none⟩))/\(L 2=true->lx 90=Value.slice (some ⟨bc,co,none⟩) nc cc)/\(L 3=true->lx 91=Value.pointer (some ⟨bc,co,none⟩))/\(L 4=true->lx 92=valV qk qn qd qx qt)/\(L 5=true->lx 93=Value.bool true)/\(L 6=true->lx 94=Value.bool true)/\(L 7=true->lx 95=valV qk qn qd qx qt)/\(L 8=true->lx 96=sV op)/\(L 9=true->lx 97=Value.pointer (some ⟨b1,2,none⟩))/\(L 10=true->lx 98=Value.slice (some ⟨ba,ao,none⟩) n1 ca)/\(L 11=true->lx 99=Value.pointer (some ⟨ba,ao,none⟩))/\(L 12=true->lx 100=valV ek en ed ex et)/\(L 13=true->lx 101=Value.pointer (some ⟨b1+1,2,none⟩))/\(L 14=true->lx 102=Value.slice (some ⟨b5,bo,none⟩) n2 cb)/\(L 15=true->lx 103=Value.pointer (some ⟨b5,bo,none⟩))/\(L 16=true->lx 104=valV hk hn hd hx ht)/\(L 17=true->lx 105=valV qk qn qd qx qt)/\(L 18=true->lx 106=Value.bool true)/\(L 19=true->lx 107=Value.bool true)/\(L 20=true->lx 2=Value.bool true))) rfl (by kernel_rfl) (fun jj=>if jj=2 then Value.bool false else if jj=88 then u88 else if jj=89 then u89 else if jj=90 then u90 else if jj=91 then u91 else if jj=92 then u92 else if jj=93 then u93 else if jj=94 then u94 else if jj=95 then u95 else if jj=96 then u96 else if jj=97 then u97 else if jj=98 then u98 else if jj=99 then u99 else if jj=100 then u100 else if jj=101 then u101 else if jj=102 then u102 else if jj=103 then u103 else if jj=104 then u104 else if jj=105 then u105 else if jj=106 then u106 else if jj=107 then u107 else undef) rfl ?_ ?_ ?_
      ·refine ⟨xd (xr _),?_,?_,?_,?_,?_,?_,?_,?_,?_,?_,?_,?_,?_,?_,?_,?_,?_,?_,?_,?_,?_⟩ <;> (intro h;cases h)
      ·intro L lx wl i o K hK ho hL haf hI;obtain ⟨X6,f0,f1,f2,f3,f4,f5,f6,f7,f8,f9,f10,f11,f12,f13,f14,f15,f16,f17,f18,f19,f20⟩:=hI.out
       match i,ho,hL,haf,hK with
       | 0,ho,hL,haf,hK =>
        cases ho;have hJ:=show Hid _ from hK (fun jj=>if jj=88 then valV qk qn qd qx qt else lx jj);clear hK;refine Eq.mpr (if_pos (by rfl)) ?_
        (try dsimp only)
        obtain ⟨a0,a1,a2,a3,a4⟩:=(BN.l X6).five;go_wp2_with fail;exact hJ.out _ ⟨X6,fun _=>rfl,f1,f2,f3,f4,f5,f6,f7,f8,f9,f10,f11,f12,f13,f14,f15,f16,f17,f18,f19,f20⟩
       | 1,ho,hL,haf,hK =>
        cases ho;have hJ:=show Hid _ from hK (fun jj=>if jj=89 then Value.pointer (some ⟨b3,2,none⟩) else lx jj);clear hK;refine Eq.mpr (if_pos (by rfl)) ?_
        (try dsimp only)
        go_wp2_with fail;exact hJ.out _ ⟨X6,f0,fun _=>rfl,f2,f3,f4,f5,f6,f7,f8,f9,f10,f11,f12,f13,f14,f15,f16,f17,f18,f19,f20⟩
       | 2,ho,hL,haf,hK =>
        cases ho;rw [f1 (haf ⟨1,.data⟩ (by simp) rfl)];have hJ:=show Hid _ from hK (fun jj=>if jj=90 then Value.slice (some ⟨bc,co,none⟩) nc cc else if jj=89 then Value.pointer (some ⟨b3,2,none⟩) else lx jj);clear hK;refine Eq.mpr (if_pos (by rfl)) ?_
        (try dsimp only)
        have a2:=((G3.l X6) 2 _ rfl).1;go_wp2_with fail;exact hJ.out _ ⟨X6,f0,fun _=>rfl,fun _=>rfl,f3,f4,f5,f6,f7,f8,f9,f10,f11,f12,f13,f14,f15,f16,f17,f18,f19,f20⟩
       | 3,ho,hL,haf,hK =>
        cases ho;rw [f2 (haf ⟨2,.data⟩ (by simp) rfl)];have hJ:=show Hid _ from hK (fun jj=>if jj=91 then Value.pointer (some ⟨bc,co,none⟩) else if jj=90 then Value.slice (some ⟨bc,co,none⟩) nc cc else lx jj);clear hK;refine Eq.mpr (if_pos (by rfl)) ?_
        (try dsimp only)
        go_wp2_with fail;exact hJ.out _ ⟨X6,f0,f1,fun _=>rfl,fun _=>rfl,f4,f5,f6,f7,f8,f9,f10,f11,f12,f13,f14,f15,f16,f17,f18,f19,f20⟩
       | 4,ho,hL,haf,hK =>
        cases ho;rw [f3 (haf ⟨3,.data⟩ (by simp) rfl)];have hJ:=show Hid _ from hK (fun jj=>if jj=92 then valV qk qn qd qx qt else if jj=91 then Value.pointer (some ⟨bc,co,none⟩) else lx jj);clear hK;refine Eq.mpr (if_pos (by rfl)) ?_
        (try dsimp only)
        have s0:=cell_later X6 rc0;have s1:=cell_later X6 rc1;have s2:=cell_later X6 rc2;have s3:=cell_later X6 rc3;have s4:=cell_later X6 rc4;go_wp2_with fail;exact hJ.out _ ⟨X6,f0,f1,f2,fun _=>rfl,fun _=>rfl,f5,f6,f7,f8,f9,f10,f11,f12,f13,f14,f15,f16,f17,f18,f19,f20⟩
       | 5,ho,hL,haf,hK =>
        cases ho;rw [f0 (haf ⟨0,.data⟩ (by simp) rfl),f4 (haf ⟨4,.data⟩ (by simp) rfl)];have hJ:=show Hid _ from hK (fun jj=>if jj=93 then Value.bool true else if jj=88 then valV qk qn qd qx qt else if jj=92 then valV qk qn qd qx qt else lx jj);clear hK;refine Eq.mpr (if_pos (by rfl)) ?_
        (try dsimp only)
        have VE:=VQ.out wl;go_wp2_with fail;exact hJ.out _ ⟨X6,fun _=>rfl,f1,f2,f3,fun _=>rfl,fun _=>rfl,f6,f7,f8,f9,f10,f11,f12,f13,f14,f15,f16,f17,f18,f19,f20⟩
       | 6,ho,hL,haf,hK =>
        cases ho;rw [f5 (haf ⟨5,.data⟩ (by simp) rfl)];have hJ:=show Hid _ from hK (fun jj=>if jj=94 then Value.bool true else if jj=93 then Value.bool true else lx jj);clear hK;refine Eq.mpr (if_pos (by rfl)) ?_
        (try dsimp only)
        go_wp2_with fail;exact hJ.out _ ⟨X6,f0,f1,f2,f3,f4,fun _=>rfl,fun _=>rfl,f7,f8,f9,f10,f11,f12,f13,f14,f15,f16,f17,f18,f19,f20⟩
       | 7,ho,hL,haf,hK =>
        cases ho;rw [f6 (haf ⟨6,.guard⟩ (by simp) rfl)];have hJ:=show Hid _ from hK (fun jj=>if jj=95 then valV qk qn qd qx qt else if jj=94 then Value.bool true else lx jj);clear hK;refine Eq.mpr (if_pos (by rfl)) ?_
        (try dsimp only)
        obtain ⟨a0,a1,a2,a3,a4⟩:=(BN.l X6).five;go_wp2_with fail;exact hJ.out _ ⟨X6,f0,f1,f2,f3,f4,f5,fun _=>rfl,fun _=>rfl,f8,f9,f10,f11,f12,f13,f14,f15,f16,f17,f18,f19,f20⟩
       | 8,ho,hL,haf,hK =>
        cases ho;rw [f6 (haf ⟨6,.guard⟩ (by simp) rfl)];have hJ:=show Hid _ from hK (fun jj=>if jj=96 then sV op else if jj=94 then Value.bool true else lx jj);clear hK;refine Eq.mpr (if_pos (by rfl)) ?_
        (try dsimp only)
        go_wp2_with fail;exact hJ.out _ ⟨X6,f0,f1,f2,f3,f4,f5,fun _=>rfl,f7,fun _=>rfl,f9,f10,f11,f12,f13,f14,f15,f16,f17,f18,f19,f20⟩
       | 9,ho,hL,haf,hK =>
        cases ho;rw [f6 (haf ⟨6,.guard⟩ (by simp) rfl)];have hJ:=show Hid _ from hK (fun jj=>if jj=97 then Value.pointer (some ⟨b1,2,none⟩) else if jj=94 then Value.bool true else lx jj);clear hK;refine Eq.mpr (if_pos (by rfl)) ?_
        (try dsimp only)
        go_wp2_with fail;exact hJ.out _ ⟨X6,f0,f1,f2,f3,f4,f5,fun _=>rfl,f7,f8,fun _=>rfl,f10,f11,f12,f13,f14,f15,f16,f17,f18,f19,f20⟩
       | 10,ho,hL,haf,hK =>
        cases ho;rw [f9 (haf ⟨9,.data⟩ (by simp) rfl),f6 (haf ⟨6,.guard⟩ (by simp) rfl)];have hJ:=show Hid _ from hK (fun jj=>if jj=98 then Value.slice (some ⟨ba,ao,none⟩) n1 ca else if jj=97 then Value.pointer (some ⟨b1,2,none⟩) else if jj=94 then Value.bool true else lx jj);clear hK;refine Eq.mpr (if_pos (by rfl)) ?_
        (try dsimp only)
        have a2:=((G1.l X6) 2 _ rfl).1;go_wp2_with fail;exact hJ.out _ ⟨X6,f0,f1,f2,f3,f4,f5,fun _=>rfl,f7,f8,fun _=>rfl,fun _=>rfl,f11,f12,f13,f14,f15,f16,f17,f18,f19,f20⟩
       | 11,ho,hL,haf,hK =>
        cases ho;rw [f10 (haf ⟨10,.data⟩ (by simp) rfl),f6 (haf ⟨6,.guard⟩ (by simp) rfl)];have hJ:=show Hid _ from hK (fun jj=>if jj=99 then Value.pointer (some ⟨ba,ao,none⟩) else if jj=98 then Value.slice (some ⟨ba,ao,none⟩) n1 ca else if jj=94 then Value.bool true else lx jj);clear hK;refine Eq.mpr (if_pos (by rfl)) ?_
        (try dsimp only)
        go_wp2_with fail;exact hJ.out _ ⟨X6,f0,f1,f2,f3,f4,f5,fun _=>rfl,f7,f8,f9,fun _=>rfl,fun _=>rfl,f12,f13,f14,f15,f16,f17,f18,f19,f20⟩
       | 12,ho,hL,haf,hK =>
        cases ho;rw [f11 (haf ⟨11,.data⟩ (by simp) rfl),f6 (haf ⟨6,.guard⟩ (by simp) rfl)];have hJ:=show Hid _ from hK (fun jj=>if jj=100 then valV ek en ed ex et else if jj=99 then Value.pointer (some ⟨ba,ao,none⟩) else if jj=94 then Value.bool true else lx jj);clear hK;refine Eq.mpr (if_pos (by rfl)) ?_
        (try dsimp only)
        have s0:=cell_later X6 ra0;have s1:=cell_later X6 ra1;have s2:=cell_later X6 ra2;have s3:=cell_later X6 ra3;have s4:=cell_later X6 ra4;go_wp2_with fail;exact hJ.out _ ⟨X6,f0,f1,f2,f3,f4,f5,fun _=>rfl,f7,f8,f9,f10,fun _=>rfl,fun _=>rfl,f13,f14,f15,f16,f17,f18,f19,f20⟩
       | 13,ho,hL,haf,hK =>
        cases ho;rw [f6 (haf ⟨6,.guard⟩ (by simp) rfl)];have hJ:=show Hid _ from hK (fun jj=>if jj=101 then Value.pointer (some ⟨b1+1,2,none⟩) else if jj=94 then Value.bool true else lx jj);clear hK;refine Eq.mpr (if_pos (by rfl)) ?_
        (try dsimp only)
        go_wp2_with fail;exact hJ.out _ ⟨X6,f0,f1,f2,f3,f4,f5,fun _=>rfl,f7,f8,f9,f10,f11,f12,fun _=>rfl,f14,f15,f16,f17,f18,f19,f20⟩
       | 14,ho,hL,haf,hK =>
        cases ho;rw [f13 (haf ⟨13,.data⟩ (by simp) rfl),f6 (haf ⟨6,.guard⟩ (by simp) rfl)];have hJ:=show Hid _ from hK (fun jj=>if jj=102 then Value.slice (some ⟨b5,bo,none⟩) n2 cb else if jj=101 then Value.pointer (some ⟨b1+1,2,none⟩) else if jj=94 then Value.bool true else lx jj);clear hK;refine Eq.mpr (if_pos (by rfl)) ?_
        (try dsimp only)
        have a2:=((G2.l X6) 2 _ rfl).1;go_wp2_with fail;exact hJ.out _ ⟨X6,f0,f1,f2,f3,f4,f5,fun _=>rfl,f7,f8,f9,f10,f11,f12,fun _=>rfl,fun _=>rfl,f15,f16,f17,f18,f19,f20⟩
       | 15,ho,hL,haf,hK =>
        cases ho;rw [f14 (haf ⟨14,.data⟩ (by simp) rfl),f6 (haf ⟨6,.guard⟩ (by simp) rfl)];have hJ:=show Hid _ from hK (fun jj=>if jj=103 then Value.pointer (some ⟨b5,bo,none⟩) else if jj=102 then Value.slice (some ⟨b5,bo,none⟩) n2 cb else if jj=94 then Value.bool true else lx jj);clear hK;refine Eq.mpr (if_pos (by rfl)) ?_
        (try dsimp only)
        go_wp2_with fail;exact hJ.out _ ⟨X6,f0,f1,f2,f3,f4,f5,fun _=>rfl,f7,f8,f9,f10,f11,f12,f13,fun _=>rfl,fun _=>rfl,f16,f17,f18,f19,f20⟩
       | 16,ho,hL,haf,hK =>
        cases ho;rw [f15 (haf ⟨15,.data⟩ (by simp) rfl),f6 (haf ⟨6,.guard⟩ (by simp) rfl)];have hJ:=show Hid _ from hK (fun jj=>if jj=104 then valV hk hn hd hx ht else if jj=103 then Value.pointer (some ⟨b5,bo,none⟩) else if jj=94 then Value.bool true else lx jj);clear hK;refine Eq.mpr (if_pos (by rfl)) ?_
        (try dsimp only)
        have s0:=cell_later X6 rb0;have s1:=cell_later X6 rb1;have s2:=cell_later X6 rb2;have s3:=cell_later X6 rb3;have s4:=cell_later X6 rb4;go_wp2_with fail;exact hJ.out _ ⟨X6,f0,f1,f2,f3,f4,f5,fun _=>rfl,f7,f8,f9,f10,f11,f12,f13,f14,fun _=>rfl,fun _=>rfl,f17,f18,f19,f20⟩
       | 17,ho,hL,haf,hK =>
        cases ho;rw [f8 (haf ⟨8,.data⟩ (by simp) rfl),f12 (haf ⟨12,.data⟩ (by simp) rfl),f16 (haf ⟨16,.data⟩ (by simp) rfl),f6 (haf ⟨6,.guard⟩ (by simp) rfl)];have hJ:=show Hid _ from hK (fun jj=>if jj=105 then valV qk qn qd qx qt else if jj=96 then sV op else if jj=100 then valV ek en ed ex et else if jj=104 then valV hk hn hd hx ht else if jj=94 then Value.bool true else lx jj);clear hK;refine Eq.mpr (if_pos (by rfl)) ?_
        (try dsimp only)
        go_wp2_with fail;refine (CB.out wl).mono ?_;rintro rr w' ⟨rfl,E6⟩;go_wp2_with fail;exact hJ.out _ ⟨(xt X6 E6),f0,f1,f2,f3,f4,f5,fun _=>rfl,f7,fun _=>rfl,f9,f10,f11,fun _=>rfl,f13,f14,f15,fun _=>rfl,fun _=>rfl,f18,f19,f20⟩
       | 18,ho,hL,haf,hK =>
        cases ho;rw [f7 (haf ⟨7,.data⟩ (by simp) rfl),f17 (haf ⟨17,.data⟩ (by simp) rfl),f6 (haf ⟨6,.guard⟩ (by simp) rfl)];have hJ:=show Hid _ from hK (fun jj=>if jj=106 then Value.bool true else if jj=95 then valV qk qn qd qx qt else if jj=105 then valV qk qn qd qx qt else if jj=94 then Value.bool true else lx jj);clear hK;refine Eq.mpr (if_pos (by rfl)) ?_
        (try dsimp only)
        have VE:=VQ.out wl;go_wp2_with fail;exact hJ.out _ ⟨X6,f0,f1,f2,f3,f4,f5,fun _=>rfl,fun _=>rfl,f8,f9,f10,f11,f12,f13,f14,f15,f16,fun _=>rfl,fun _=>rfl,f19,f20⟩
       | 19,ho,hL,haf,hK =>
        cases ho;rw [f6 (haf ⟨6,.data⟩ (by simp) rfl),f18 (haf ⟨18,.data⟩ (by simp) rfl)];have hJ:=show Hid _ from hK (fun jj=>if jj=107 then Value.bool true else if jj=94 then Value.bool true else if jj=106 then Value.bool true else lx jj);clear hK;refine Eq.mpr (if_pos (by rfl)) ?_
        (try dsimp only)
        go_wp2_with fail;exact hJ.out _ ⟨X6,f0,f1,f2,f3,f4,f5,fun _=>rfl,f7,f8,f9,f10,f11,f12,f13,f14,f15,f16,f17,fun _=>rfl,fun _=>rfl,f20⟩
       | 20,ho,hL,haf,hK =>
        cases ho;rw [f19 (haf ⟨19,.data⟩ (by simp) rfl)];have hJ:=show Hid _ from hK (fun jj=>if jj=2 then Value.bool true else if jj=107 then Value.bool true else lx jj);clear hK;refine Eq.mpr (if_pos (by rfl)) ?_
        (try dsimp only)
        go_wp2_with fail;exact hJ.out _ ⟨X6,f0,f1,f2,f3,f4,f5,f6,f7,f8,f9,f10,f11,f12,f13,f14,f15,f16,f17,f18,fun _=>rfl,fun _=>rfl⟩
       | k+21,ho,_,_,_=>simp at ho
      ·intro L lx w14 hall hI;obtain ⟨X6,f0,f1,f2,f3,f4,f5,f6,f7,f8,f9,f10,f11,f12,f13,f14,f15,f16,f17,f18,f19,f20⟩:=hI.out;have v2:=f20 (hall 20 (by simp));have XQ:=X6;clear hI hall f0 f1 f2 f3 f4 f5 f6 f7 f8 f9 f10 f11 f12 f13 f14 f15 f16 f17 f18 f19 f20
       (try dsimp only)
       rw [v2];go_wp2_with fail;go_ret;exact ⟨rfl,xt X13 XQ⟩
end Go.Proofs.YtkadkfmidlhedaaGreatDoor

