/-
  Several texts in one: Qe, Qf, Qg, Ua, Ub, W9h, Uc, Ud, Qh, Ue, Uf.
-/
import Derived.Test.YtiaakhogigddbaaGreatDoorMg4
import Derived.Test.YtiaakhogigddbaaGreatDoorMg11
namespace Go.Proofs.YtiaakhogigddbaaGreatDoor
open Go.RowKit
def sameQ (a b:VT):Bool:=decide (a.k=b.k∧a.n=b.n∧a.d=b.d∧a.x=b.x∧a.t=b.t)
def cmpQ (a b:VT):Int:=compareV a.k a.n a.d a.x a.t b.k b.n b.d b.x b.t
def likeB (a b:VT):Bool:=decide (a.k=b.k) && (if a.k=4 then sameQ a b else decide (cmpQ a b=0))
set_option maxHeartbeats 1000000 in
theorem valQ_eql (k:Int) (n:Bool) (d x:Int) (t:List UInt8) (k':Int) (n':Bool) (d' x':Int) (t':List UInt8) (W:World) :
  (binOp BinOp.eql 39 (valV k n d x t) (valV k' n' d' x' t')).run Tryz.prog W=.ok (.bool (sameQ ⟨k,n,d,x,t⟩ ⟨k',n',d',x',t'⟩)) W:=by
 unfold sameQ;by_cases h:k=k'∧n=n'∧d=d'∧x=x'∧t=t'
 ·obtain ⟨rfl,rfl,rfl,rfl,rfl⟩:=h
  go_simp
 ·rw [decide_eq_false h];have H:Hid (¬ (k=k'∧n=n'∧d=d'∧x=x'∧t=t')):=h;clear h
  go_simp
  intros
  have:=H.out
  simp_all
def VT.room (e:VT):Prop:=e.t.length≤2000000 ∧ -9223372036854775808≤e.d∧e.d≤9223372036854775807
set_option maxRecDepth 8000 in
set_option maxHeartbeats 2000000 in
theorem likeI (a b:VT) (w:World) (ha:a.room) (hb:b.room) (hT:Tens w) (hE:ErrTab w) :
  Calls Tryz.prog 33 #[a.val,b.val] w fun e w'=>e=.returned (.bool (likeB a b))∧Ext w w':=by
 obtain ⟨k,n,d,x,t⟩:=a;obtain ⟨k',n',d',x',t'⟩:=b;obtain ⟨u0,u1,h0,h1,s0,s1,B0,B1,X⟩:=mkB2 w (valL k n d x t) (valL k' n' d' x' t') 39 39;have CC:Hid (∀ W,Ext w W→Calls Tryz.prog 59 #[valV k n d x t,valV k' n' d' x' t'] W fun e w'=>e=.returned (.int .i64 (cmpQ ⟨k,n,d,x,t⟩ ⟨k',n',d',x',t'⟩))∧Ext W w'):=fun W hW=>compareI k n d x t k' n' d' x' t' W ha.1 hb.1 ha.2.1 ha.2.2 hb.2.1 hb.2.2 (hT.later hW) (hE.later hW);have HC4:Hid (k=4→cmpQ ⟨k,n,d,x,t⟩ ⟨k',n',d',x',t'⟩=2):=fun h=>by subst h;unfold cmpQ compareV;rw [if_neg (fun q=>q.2.2.1 rfl)]
 have EQ:=fun W=>valQ_eql k n d x t k' n' d' x' t' W;obtain ⟨S,hS⟩:∃ S,sameQ ⟨k,n,d,x,t⟩ ⟨k',n',d',x',t'⟩=S:=⟨_,rfl⟩;obtain ⟨R,hR⟩:∃ R,cmpQ ⟨k,n,d,x,t⟩ ⟨k',n',d',x',t'⟩=R:=⟨_,rfl⟩;rw [hS] at EQ;rw [hR] at CC HC4;have HL:Hid (likeB ⟨k,n,d,x,t⟩ ⟨k',n',d',x',t'⟩=(decide (k=k') && (if k=4 then S else decide (R=0)))):=by
  show _=_;unfold likeB;rw [hS,hR]
 obtain ⟨Q,hQ⟩:∃ Q,likeB ⟨k,n,d,x,t⟩ ⟨k',n',d',x',t'⟩=Q:=⟨_,rfl⟩;rw [hQ] at HL ⊢;clear hS hR hQ hT hE ha hb;obtain ⟨a0,a1,a2,a3,a4⟩:=Vec.five B0;obtain ⟨b0,b1,b2,b3,b4⟩:=Vec.five B1;by_cases hk:k=k'
 ·subst hk;by_cases hR:R=0
  ·subst hR;have h4:k ≠ 4:=fun h=>by have:=HC4.out h;omega
   have HF:Hid (true=Q):=by show _=_;rw [HL.out,if_neg h4];simp
   have C0:=CC.out u1 X;go_enter Tryz.func33,Tryz.ntmps33;go_wp2_with (go_at_call 59;refine C0.mono ?_;rintro e w1 ⟨rfl,e1⟩);go_ret;exact ⟨ret_bool HF.out,xt X e1⟩
  ·have C0:=CC.out u1 X;have hRb:(R == 0)=false:=by simpa using hR
   by_cases h4:k=4
   ·have HF:Hid (S=Q):=(by show _=_;rw [HL.out,if_pos h4];simp);subst h4;have CE:=fun W=>isErrI 4 n d x t W;go_enter Tryz.func33,Tryz.ntmps33;go_wp2_with (first
     | (go_at_call 59;refine C0.mono ?_;rintro e w1 ⟨rfl,e1⟩;obtain ⟨a0,a1,a2,a3,a4⟩:=Vec.five (B0.later e1);obtain ⟨b0,b1,b2,b3,b4⟩:=Vec.five (B1.later e1))
     | (go_at_call 46;refine (CE w1).mono ?_;rintro e w2 ⟨rfl,e2⟩;obtain ⟨a0,a1,a2,a3,a4⟩:=Vec.five (B0.later (xt e1 e2));obtain ⟨b0,b1,b2,b3,b4⟩:=Vec.five (B1.later (xt e1 e2))))
    go_ret;exact ⟨ret_bool HF.out,xt X (xt e1 e2)⟩
   ·have HF:Hid (false=Q):=(by show _=_;rw [HL.out,if_neg h4];simp [hR]);have h4b:decide (k=4)=false:=decide_eq_false h4;have h4c:(k == 4)=false:=(by simpa using h4);have CE:=fun W=>isErrI k n d x t W;go_enter Tryz.func33,Tryz.ntmps33;go_wp2_with (first
     | (go_at_call 59;refine C0.mono ?_;rintro e w1 ⟨rfl,e1⟩;obtain ⟨a0,a1,a2,a3,a4⟩:=Vec.five (B0.later e1);obtain ⟨b0,b1,b2,b3,b4⟩:=Vec.five (B1.later e1))
     | (go_at_call 46;refine (CE w1).mono ?_;rintro e w2 ⟨rfl,e2⟩))
    go_ret;exact ⟨ret_bool HF.out,xt X (xt e1 e2)⟩
 ·have hkb:(k == k')=false:=by simpa using hk
  have HF:Hid (false=Q):=by show _=_;rw [HL.out,decide_eq_false hk];rfl
  go_enter Tryz.func33,Tryz.ntmps33;go_wp2_with fail;go_ret;exact ⟨ret_bool HF.out,X⟩
structure Takes (w:World) (fi:Nat) (li:Array Value) (L:List VT) (q:Nat→Bool):Prop where
 ent:∀ args w,(callFunc fi args).run Tryz.prog w=.ok (.enter fi args) w
 says:∀ W sv i,Ext w W→ValsIn W sv L→i<L.length→Calls Tryz.prog fi (#[sv,numV i]++li) W fun e w'=>e=.returned (.bool (q i))∧Ext W w'
structure AsksV (w:World) (f:Nat) (rc lb:Array Value) (L:List VT) (p:VT→Bool):Prop where
 ent:∀ args w,(callFunc f args).run Tryz.prog w=.ok (.enter f args) w
 says:∀ W e,Ext w W→e ∈ L→Calls Tryz.prog f (rc++#[e.val]++lb) W fun z w'=>z=.returned (.bool (p e))∧Ext W w'
set_option maxRecDepth 8000 in
set_option maxHeartbeats 2000000 in
theorem indexVI (f:Nat) (rc:Option Value) (v:Value) (l:List VT) (p:VT→Bool) (w:World) (A:AsksV w f rc.toArray #[] l p) (h:ValsIn w v l) (hl:l.length≤1048576) :
  Calls Tryz.prog 58 #[v,.func (.func f) rc.toArray #[]] w fun e w' =>
   ((e=.returned (.int .i64 (-1))∧l.any p=false)∨∃ m:Nat,e=.returned (.int .i64 m)∧l.any p=true∧m<1048576)∧Ext w w':=by
 have ent:=A.ent;have HA:Hid (∀ W e,Ext w W→e ∈ l→Calls Tryz.prog f (rc.toArray++#[e.val]) W fun z w'=>z=.returned (.bool (p e))∧Ext W w'):=fun W e hW he=>by have:=A.says W e hW he;simpa using this
 obtain ⟨pk,nk,rfl,hc,hrow⟩:=h;have HV:Hid (0<l.length→∃ b o,pk=some ⟨b,o,none⟩∧RowV w b o l):=hrow;obtain ⟨n,hn⟩:∃ n,l.length=n:=⟨_,rfl⟩;have HN:Hid (l.length=n):=hn;rw [hn] at hc hl HV ⊢;clear hrow A hn;cases rc with
 | none =>
  simp only [Option.toArray_none,Array.empty_append] at HA ⊢;go_enter Tryz.func58,Tryz.ntmps58;go_wp2_with fail;go_loopw [8] (fun i wr=>∃ k:Nat,k≤n∧i=.int .i64 k∧Hid (Ext w wr∧∀ j x,j<k→l[j]?=some x→p x=false)) (fun i _=>n - (intOf i).toNat)
  case atStart=>exact ⟨0,by omega,rfl,xr _,fun j x hj=>absurd hj (by omega)⟩
  case round =>
   obtain ⟨k,hk,rfl,HO⟩:=hrel;by_cases hlt:k<n
   ·have i2:(k:Int)<(n:Int):=(by omega);obtain ⟨⟨z,zn,zd,zx,zt⟩,hx⟩:∃ x,l[k]?=some x:=⟨_,List.getElem?_eq_getElem (by rw [HN.out];exact hlt)⟩;obtain ⟨b,o,rfl,RW⟩:=HV.out (by omega);obtain ⟨a0,a1,a2,a3,a4⟩:=(RW.later HO.out.1).five hx;have CA:=HA.out wr ⟨z,zn,zd,zx,zt⟩ HO.out.1 (List.mem_of_getElem? hx);have HX:Hid (l[k]?=some ⟨z,zn,zd,zx,zt⟩):=hx;obtain ⟨q,hq⟩:∃ q,p ⟨z,zn,zd,zx,zt⟩=q:=⟨_,rfl⟩;have HQ:Hid (p ⟨z,zn,zd,zx,zt⟩=q):=hq;rw [hq] at CA;simp only at a0 a1 a2 a3 a4;clear hx hq RW;cases q
    ·go_wp2_with (go_at_fn f;refine CA.mono ?_;rintro e w1 ⟨rfl,e1⟩);have HM:Hid (Ext w w1∧∀ j x,j<k+1→l[j]?=some x→p x=false):=⟨xt HO.out.1 e1,fun j y hj hy=>by
      by_cases e:j=k
      ·subst e;rw [HX.out] at hy;cases hy;exact HQ.out
      ·exact HO.out.2 j y (by omega) hy⟩
     go_roundw
     case rel=>exact ⟨k+1,by omega,by go_num,HM⟩
     case measure=>simp [intOf];omega
    ·go_wp2_with (go_at_fn f;refine CA.mono ?_;rintro e w1 ⟨rfl,e1⟩);go_ret;exact ⟨Or.inr ⟨k,rfl,List.any_eq_true.2 ⟨_,List.mem_of_getElem? HX.out,HQ.out⟩,by omega⟩,xt HO.out.1 e1⟩
   ·obtain rfl:k=n:=(by omega);have i2:¬ (k:Int)<(k:Int):=(by omega);go_wp2_with fail;go_ret;refine ⟨Or.inl ⟨rfl,?_⟩,HO.out.1⟩;intro x hx;obtain ⟨j,hj,rfl⟩:=List.getElem_of_mem hx;exact HO.out.2 j _ (by rw [← HN.out];exact hj) (List.getElem?_eq_getElem hj)
 | some rv =>
  simp only [Option.toArray_some] at HA ⊢;have HA2:Hid (∀ W e,Ext w W→e ∈ l→Calls Tryz.prog f #[rv,e.val] W fun z w'=>z=.returned (.bool (p e))∧Ext W w'):=fun W e hW he=>HA.out W e hW he;clear HA;go_enter Tryz.func58,Tryz.ntmps58;go_wp2_with fail;go_loopw [8] (fun i wr=>∃ k:Nat,k≤n∧i=.int .i64 k∧Hid (Ext w wr∧∀ j x,j<k→l[j]?=some x→p x=false)) (fun i _=>n - (intOf i).toNat)
  case atStart=>exact ⟨0,by omega,rfl,xr _,fun j x hj=>absurd hj (by omega)⟩
  case round =>
   obtain ⟨k,hk,rfl,HO⟩:=hrel;by_cases hlt:k<n
   ·have i2:(k:Int)<(n:Int):=(by omega);obtain ⟨⟨z,zn,zd,zx,zt⟩,hx⟩:∃ x,l[k]?=some x:=⟨_,List.getElem?_eq_getElem (by rw [HN.out];exact hlt)⟩;obtain ⟨b,o,rfl,RW⟩:=HV.out (by omega);obtain ⟨a0,a1,a2,a3,a4⟩:=(RW.later HO.out.1).five hx;have CA:=HA2.out wr ⟨z,zn,zd,zx,zt⟩ HO.out.1 (List.mem_of_getElem? hx);have HX:Hid (l[k]?=some ⟨z,zn,zd,zx,zt⟩):=hx;obtain ⟨q,hq⟩:∃ q,p ⟨z,zn,zd,zx,zt⟩=q:=⟨_,rfl⟩;have HQ:Hid (p ⟨z,zn,zd,zx,zt⟩=q):=hq;rw [hq] at CA;simp only at a0 a1 a2 a3 a4;clear hx hq RW;cases q
    ·go_wp2_with (go_at_fn f;refine CA.mono ?_;rintro e w1 ⟨rfl,e1⟩);have HM:Hid (Ext w w1∧∀ j x,j<k+1→l[j]?=some x→p x=false):=⟨xt HO.out.1 e1,fun j y hj hy=>by
      by_cases e:j=k
      ·subst e;rw [HX.out] at hy;cases hy;exact HQ.out
      ·exact HO.out.2 j y (by omega) hy⟩
     go_roundw
     case rel=>exact ⟨k+1,by omega,by go_num,HM⟩
     case measure=>simp [intOf];omega
    ·go_wp2_with (go_at_fn f;refine CA.mono ?_;rintro e w1 ⟨rfl,e1⟩);go_ret;exact ⟨Or.inr ⟨k,rfl,List.any_eq_true.2 ⟨_,List.mem_of_getElem? HX.out,HQ.out⟩,by omega⟩,xt HO.out.1 e1⟩
   ·obtain rfl:k=n:=(by omega);have i2:¬ (k:Int)<(k:Int):=(by omega);go_wp2_with fail;go_ret;refine ⟨Or.inl ⟨rfl,?_⟩,HO.out.1⟩;intro x hx;obtain ⟨j,hj,rfl⟩:=List.getElem_of_mem hx;exact HO.out.2 j _ (by rw [← HN.out];exact hj) (List.getElem?_eq_getElem hj)
set_option maxHeartbeats 2000000 in
theorem containsVI (f:Nat) (rc:Option Value) (v:Value) (l:List VT) (p:VT→Bool) (w:World) (A:AsksV w f rc.toArray #[] l p) (h:ValsIn w v l) (hl:l.length≤1048576) :
  Calls Tryz.prog 32 #[v,.func (.func f) rc.toArray #[]] w fun e w'=>e=.returned (.bool (l.any p))∧Ext w w':=by
 have C0:=indexVI f rc v l p w A h hl;obtain ⟨pk,nk,rfl,_,_⟩:=h;obtain ⟨R,hR⟩:∃ R,l.any p=R:=⟨_,rfl⟩;rw [hR] at C0 ⊢;obtain ⟨n,hn⟩:∃ n,l.length=n:=⟨_,rfl⟩;rw [hn] at C0 hl ⊢;obtain ⟨ra,hra⟩:∃ ra,rc.toArray=ra:=⟨_,rfl⟩;rw [hra] at C0 ⊢;clear A hR hn hra;go_enter Tryz.func32,Tryz.ntmps32;go_wp2_with fail;refine C0.mono ?_;rintro e w1 ⟨⟨rfl,rfl⟩ | ⟨m,rfl,rfl,hm⟩,e1⟩
 ·go_wp2_with fail;go_ret;exact ⟨rfl,e1⟩
 ·have m0:(0:Int)≤(m:Int):=by omega
  have m1:decide ((m:Int) ≥ 0)=true:=decide_eq_true m0;go_wp2_with fail;go_ret;exact ⟨rfl,e1⟩
set_option maxHeartbeats 2000000 in
theorem badI (e:VT) (w:World) (hr:e.room) (hT:Tens w) (hE:ErrTab w) :
  Calls Tryz.prog 30 #[e.val] w fun z w'=>z=.returned (.bool (!e.good))∧Ext w w':=by
 obtain ⟨k,n,d,x,t⟩:=e;have X0:=x1 w (.cells #[.int .i64 k,.bool n,.int .i64 d,.int .i64 x,sV t] 39);have B0:=vec_made w (valL k n d x t) 39;change Vec (w.alloc (.cells #[.int .i64 k,.bool n,.int .i64 d,.int .i64 x,sV t] 39)) _ _ at B0;have CG:=goodVI k n d x t (w.alloc (.cells #[.int .i64 k,.bool n,.int .i64 d,.int .i64 x,sV t] 39)) hr.1 hr.2.1 hr.2.2 (hT.later X0) (hE.later X0);obtain ⟨R,hR⟩:∃ R,goodV k n d x t=R:=⟨_,rfl⟩;have e1:VT.good ⟨k,n,d,x,t⟩=R:=hR;rw [hR] at CG;rw [e1];obtain ⟨a0,a1,a2,a3,a4⟩:=Vec.five B0;clear hR e1 hT hE hr;go_enter Tryz.func30,Tryz.ntmps30;go_wp2_with (go_at_call 31;refine CG.mono ?_;rintro e w1 ⟨rfl,e1⟩);go_ret;exact ⟨rfl,xt X0 e1⟩
theorem cmpSQ (a b:VT) (w:World) (hl:a.t.length≤2000000) (hl':b.t.length≤2000000) (ga:a.good=true) (gb:b.good=true) (h4:a.k ≠ 4) (h4':b.k ≠ 4) :
  Calls Tryz.prog 53 #[a.val,b.val] w fun e w'=>e=.returned (.int .i64 (cmpQ a b))∧Ext w w':=by
 obtain ⟨k,n,d,x,t⟩:=a;obtain ⟨k',n',d',x',t'⟩:=b;obtain ⟨v1,z1⟩:=beside_eq (k:=k) (n:=n) (d:=d) (x:=x) (t:=t) ga k';obtain ⟨v2,z2⟩:=beside_eq (k:=k') (n:=n') (d:=d') (x:=x') (t:=t') gb k;have e:cmpQ ⟨k,n,d,x,t⟩ ⟨k',n',d',x',t'⟩=cmpR (bk k k') n d x (bt k t k') (bk k' k) n' d' x' (bt k' t' k):=by
  unfold cmpQ compareV;rw [if_pos ⟨ga,gb,h4,h4'⟩]
 rw [e];exact cmpS6 k n d x t k' n' d' x' t' w _ _ _ _ _ v1 z1 (bt_len k k' hl) _ _ _ _ _ v2 z2 (bt_len k' k hl')
set_option maxHeartbeats 1000000 in
theorem isErrQ (k:Int) (n:Bool) (d x:Int) (t:List UInt8) (w:World) :
  Calls Tryz.prog 36 #[valV k n d x t] w fun e w'=>e=.returned (.bool (decide (k=4)))∧Ext w w':=by
 have X:=x1 w (.cells #[.int .i64 k,.bool n,.int .i64 d,.int .i64 x,sV t] 39);by_cases h:k=4
 ·subst h;go_enter Tryz.func36,Tryz.ntmps36;go_wp2_with fail;go_ret;exact ⟨rfl,X⟩
 ·rw [show decide (k=4)=false by simpa using h];have hb:(k == 4)=false:=by simpa using h
  go_enter Tryz.func36,Tryz.ntmps36;go_wp2_with fail;go_ret;exact ⟨rfl,X⟩
set_option maxRecDepth 8000 in
set_option maxHeartbeats 2000000 in
theorem sameS (a b:VT) (w:World) (hl:a.t.length≤2000000) (hl':b.t.length≤2000000) (ga:a.good=true) (gb:b.good=true) :
  Calls Tryz.prog 29 #[a.val,b.val] w fun e w'=>e=.returned (.bool (likeB a b))∧Ext w w':=by
 have CM:a.k=b.k→a.k ≠ 4→Hid (∀ W,Calls Tryz.prog 53 #[a.val,b.val] W fun e w'=>e=.returned (.int .i64 (cmpQ a b))∧Ext W w'):=fun hk h4 W=>cmpSQ a b W hl hl' ga gb h4 (hk ▸ h4);have HL:Hid (likeB a b=(decide (a.k=b.k) && (if a.k=4 then sameQ a b else decide (cmpQ a b=0)))):=rfl;obtain ⟨k,n,d,x,t⟩:=a;obtain ⟨k',n',d',x',t'⟩:=b;obtain ⟨u0,u1,h0,h1,s0,s1,B0,B1,X⟩:=mkB2 w (valL k n d x t) (valL k' n' d' x' t') 39 39;have EQ:=fun W=>valQ_eql k n d x t k' n' d' x' t' W;obtain ⟨S,hS⟩:∃ S,sameQ ⟨k,n,d,x,t⟩ ⟨k',n',d',x',t'⟩=S:=⟨_,rfl⟩;obtain ⟨R,hR⟩:∃ R,cmpQ ⟨k,n,d,x,t⟩ ⟨k',n',d',x',t'⟩=R:=⟨_,rfl⟩;obtain ⟨Q,hQ⟩:∃ Q,likeB ⟨k,n,d,x,t⟩ ⟨k',n',d',x',t'⟩=Q:=⟨_,rfl⟩;rw [hS] at EQ HL;rw [hR] at CM HL;rw [hQ] at HL ⊢;simp only at CM HL;clear hS hR hQ ga gb hl hl';obtain ⟨a0,a1,a2,a3,a4⟩:=Vec.five B0;obtain ⟨b0,b1,b2,b3,b4⟩:=Vec.five B1;by_cases hk:k=k'
 ·subst hk;have CE:=fun W=>isErrQ k n d x t W;by_cases h4:k=4
  ·have HF:Hid (S=Q):=by show _=_;rw [HL.out,if_pos h4];simp
   subst h4;go_enter Tryz.func29,Tryz.ntmps29;go_wp2_with (go_at_call 36;refine (CE u1).mono ?_;rintro e w1 ⟨rfl,e1⟩;obtain ⟨a0,a1,a2,a3,a4⟩:=Vec.five (B0.later e1);obtain ⟨b0,b1,b2,b3,b4⟩:=Vec.five (B1.later e1));go_ret;exact ⟨ret_bool HF.out,xt X e1⟩
  ·have HF:Hid (decide (R=0)=Q):=by show _=_;rw [HL.out,if_neg h4];simp
   have C0:=CM rfl h4;rw [decide_eq_false h4] at CE;by_cases hR:R=0
   ·subst hR;go_enter Tryz.func29,Tryz.ntmps29;go_wp2_with (first
     | (go_at_call 36;refine (CE u1).mono ?_;rintro e w1 ⟨rfl,e1⟩;obtain ⟨a0,a1,a2,a3,a4⟩:=Vec.five (B0.later e1);obtain ⟨b0,b1,b2,b3,b4⟩:=Vec.five (B1.later e1))
     | (go_at_call 53;refine (C0.out w1).mono ?_;rintro e w2 ⟨rfl,e2⟩))
    go_ret;exact ⟨ret_bool HF.out,xt X (xt e1 e2)⟩
   ·have hRb:(R == 0)=false:=(by simpa using hR);have HF:Hid (false=Q):=(by show _=_;rw [← HF.out,decide_eq_false hR]);go_enter Tryz.func29,Tryz.ntmps29;go_wp2_with (first
     | (go_at_call 36;refine (CE u1).mono ?_;rintro e w1 ⟨rfl,e1⟩;obtain ⟨a0,a1,a2,a3,a4⟩:=Vec.five (B0.later e1);obtain ⟨b0,b1,b2,b3,b4⟩:=Vec.five (B1.later e1))
     | (go_at_call 53;refine (C0.out w1).mono ?_;rintro e w2 ⟨rfl,e2⟩))
    go_ret;exact ⟨ret_bool HF.out,xt X (xt e1 e2)⟩
 ·have hkb:(k == k')=false:=by simpa using hk
  have HF:Hid (false=Q):=by show _=_;rw [HL.out,decide_eq_false hk];rfl
  go_enter Tryz.func29,Tryz.ntmps29;go_wp2_with fail;go_ret;exact ⟨ret_bool HF.out,X⟩
theorem like_bad {a b:VT} (ha:a.good=false) (hb:b.good=true):likeB a b=false:=by
 unfold likeB;by_cases h4:a.k=4
 ·rw [if_pos h4];cases hs:sameQ a b with
  | false=>simp
  | true =>
   have:a.k=b.k∧a.n=b.n∧a.d=b.d∧a.x=b.x∧a.t=b.t:=of_decide_eq_true hs;obtain ⟨k,n,d,x,t⟩:=a;obtain ⟨k',n',d',x',t'⟩:=b;simp only at this;obtain ⟨rfl,rfl,rfl,rfl,rfl⟩:=this;rw [ha] at hb;cases hb
 ·rw [if_neg h4];have:cmpQ a b=2:=by
   unfold cmpQ compareV;rw [if_neg (fun q=>by have h1:a.good=true:=q.1;rw [ha] at h1;cases h1)]
  rw [this];simp
def allowB (a:VT) (mb:Bool) (l:List VT):Bool:=if l=[] then mb else a.good && l.all VT.good && l.any (likeB a)
theorem allow_list {a:VT} {mb:Bool} {l:List VT} (h:l ≠ []):allowB a mb l=(!(l.any fun e=>!e.good) && l.any (likeB a)):=by
 unfold allowB;rw [if_neg h];have e1:(!(l.any fun e=>!e.good))=l.all VT.good:=by
  rw [List.not_any_eq_all_not]
  congr 1
  funext e
  simp
 rw [e1];cases hg:a.good with
 | true=>simp
 | false =>
  cases hl:l.all VT.good with
  | false=>simp
  | true =>
   have:l.any (likeB a)=false:=by
    rw [List.any_eq_false];intro e he;rw [like_bad hg (List.all_eq_true.1 hl e he)];exact Bool.false_ne_true
   rw [this];simp
set_option maxRecDepth 8000 in
set_option maxHeartbeats 4000000 in
theorem allowedI (a b':VT) (op:List UInt8) (v:Value) (l:List VT) (mb:Bool) (w:World) (h:ValsIn w v l) (hl:l.length≤1048576) (ha:a.room) (hr:∀ e ∈ l,e.room) (hT:Tens w) (hE:ErrTab w)
  (M:∀ W,Ext w W→Calls Tryz.prog 26 #[a.val,sV op,b'.val] W fun z w'=>z=.returned (.bool mb)∧Ext W w') :
  Calls Tryz.prog 19 #[a.val,sV op,b'.val,v] w fun e w'=>e=.returned (.bool (allowB a mb l))∧Ext w w':=by
 have HM:Hid (∀ W,Ext w W→Calls Tryz.prog 26 #[a.val,sV op,b'.val] W fun z w'=>z=.returned (.bool mb)∧Ext W w'):=M;have HB:Hid (∀ W,Ext w W→Calls Tryz.prog 32 #[v,.func (.func 30) #[] #[]] W fun e w'=>e=.returned (.bool (l.any fun e=>!e.good))∧Ext W w'):=fun W hW =>
  containsVI 30 none v l _ W ⟨enters_of Tryz.func30 (by kernel_rfl) rfl,fun W' e hX he=>by simpa using badI e W' (hr e he) (hT.later (xt hW hX)) (hE.later (xt hW hX))⟩ (h.later hW) hl
 have HK:Hid (∀ W,Ext w W→Calls Tryz.prog 32 #[v,.func (.func 33) #[a.val] #[]] W fun e w'=>e=.returned (.bool (l.any (likeB a)))∧Ext W w'):=fun W hW =>
  containsVI 33 (some a.val) v l _ W ⟨enters_of Tryz.func33 (by kernel_rfl) rfl,fun W' e hX he=>by simpa using likeI a e W' ha (hr e he) (hT.later (xt hW hX)) (hE.later (xt hW hX))⟩ (h.later hW) hl
 have HL:l ≠ []→Hid (allowB a mb l=(!(l.any fun e=>!e.good) && l.any (likeB a))):=fun h=>allow_list h;have H0:l=[]→Hid (allowB a mb l=mb):=fun h=>by show _=_;unfold allowB;rw [if_pos h]
 obtain ⟨k,n,d,x,t⟩:=a;obtain ⟨k',n',d',x',t'⟩:=b';obtain ⟨u0,u1,h0,h1,s0,s1,B0,B1,X⟩:=mkB2 w (valL k n d x t) (valL k' n' d' x' t') 39 39;obtain ⟨p,cap,rfl,hcap,hrow⟩:=h;obtain ⟨a0,a1,a2,a3,a4⟩:=Vec.five B0;obtain ⟨b0,b1,b2,b3,b4⟩:=Vec.five B1;obtain ⟨R,hR⟩:∃ R,allowB ⟨k,n,d,x,t⟩ mb l=R:=⟨_,rfl⟩;obtain ⟨Y,hY⟩:∃ Y,(l.any fun e=>!e.good)=Y:=⟨_,rfl⟩;obtain ⟨Z,hZ⟩:∃ Z,l.any (likeB ⟨k,n,d,x,t⟩)=Z:=⟨_,rfl⟩;rw [hR] at HL H0 ⊢;rw [hY] at HB HL;rw [hZ] at HK HL;have hne:l.length=0 ↔ l=[]:=List.length_eq_zero_iff;obtain ⟨N,hN⟩:∃ N,l.length=N:=⟨_,rfl⟩;rw [hN] at HB HK hne hl ⊢;clear hrow hcap hR hY hZ hN M hT hE hr ha;by_cases hl0:N=0
 ·have HF:=H0 (hne.1 hl0);subst hl0;have C0:=HM.out u1 X;clear HL H0;go_enter Tryz.func19,Tryz.ntmps19;go_wp2_with (go_at_call 26;refine C0.mono ?_;rintro e w1 ⟨rfl,e1⟩);go_ret;exact ⟨ret_bool HF.out.symm,xt X e1⟩
 ·have HF:=HL (fun e=>hl0 (hne.2 e));have f0:((N:Int) == 0)=false:=beq_eq_false_iff_ne.2 (by omega);have f1:(N == 0)=false:=beq_eq_false_iff_ne.2 hl0;have C0:=HB.out u1 X;clear HL H0 hne;cases Y
  ·have HF2:Hid (Z=R):=by show _=_;have:=HF.out;simpa using this.symm
   go_enter Tryz.func19,Tryz.ntmps19;go_wp2_with fail;refine C0.mono ?_;rintro e w1 ⟨rfl,e1⟩;obtain ⟨m0,m1,m2,m3,m4⟩:=Vec.five (B0.later e1);go_wp2_with fail;refine (HK.out w1 (xt X e1)).mono ?_;rintro e w2 ⟨rfl,e2⟩;go_wp2_with fail;go_ret;exact ⟨ret_bool HF2.out,xt X (xt e1 e2)⟩
  ·have HF2:Hid (false=R):=by show _=_;have:=HF.out;simpa using this.symm
   go_enter Tryz.func19,Tryz.ntmps19;go_wp2_with fail;refine C0.mono ?_;rintro e w1 ⟨rfl,e1⟩;go_wp2_with fail;go_ret;exact ⟨ret_bool HF2.out,xt X e1⟩
theorem allow_bad {a:VT} {mb:Bool} {l:List VT} (hg:a.good=false) (hm:mb=false):allowB a mb l=false:=by
 unfold allowB
 split
 ·exact hm
 ·rw [hg];rfl
theorem any_step {l:List VT} {k:Nat} {e:VT} (p:VT→Bool) (he:l[k]?=some e):(l.take (k+1)).any p=((l.take k).any p || p e):=by
 rw [List.take_add_one,he,List.any_append];simp
set_option maxRecDepth 8000 in
set_option maxHeartbeats 4000000 in
theorem allowedS (a b':VT) (op:List UInt8) (v:Value) (l:List VT) (mb:Bool) (w:World) (h:ValsIn w v l) (hl:l.length≤1048576) (ha:a.t.length≤2000000) (hr:∀ e ∈ l,e.t.length≤2000000) (hm:a.good=false→mb=false)
  (M:∀ W,Ext w W→Calls Tryz.prog 22 #[a.val,sV op,b'.val] W fun z w'=>z=.returned (.bool mb)∧Ext W w') :
  Calls Tryz.prog 17 #[a.val,sV op,b'.val,v] w fun e w'=>e=.returned (.bool (allowB a mb l))∧Ext w w':=by
 have HM:Hid (∀ W,Ext w W→Calls Tryz.prog 22 #[a.val,sV op,b'.val] W fun z w'=>z=.returned (.bool mb)∧Ext W w'):=M;have HG:Hid (∀ W (e:VT),e.t.length≤2000000→Calls Tryz.prog 28 #[e.val] W fun z w'=>z=.returned (.bool e.good)∧Ext W w'):=fun W e he=>goodVS e.k e.n e.d e.x e.t W he;have HS:Hid (∀ W (e:VT),e ∈ l→a.good=true→e.good=true→Calls Tryz.prog 29 #[a.val,e.val] W fun z w'=>z=.returned (.bool (likeB a e))∧Ext W w'):=fun W e he ga ge=>sameS a e W ha (hr e he) ga ge;have HBAD:a.good=false→Hid (allowB a mb l=false):=fun hg=>allow_bad hg (hm hg);have HNIL:l=[]→Hid (allowB a mb l=mb):=fun h=>by show _=_;unfold allowB;rw [if_pos h]
 have HLST:l ≠ []→a.good=true→Hid (allowB a mb l=(l.all VT.good && l.any (likeB a))):=fun h hg=>by show _=_;unfold allowB;rw [if_neg h,hg];simp
 have HRM:Hid (∀ e ∈ l,e.t.length≤2000000):=hr;obtain ⟨R,hR⟩:∃ R,allowB a mb l=R:=⟨_,rfl⟩;rw [hR] at HBAD HNIL HLST ⊢;have CG:=HG.out;obtain ⟨g,hg⟩:∃ g,a.good=g:=⟨_,rfl⟩;have HGG:Hid (a.good=g):=hg;have C0:Hid (∀ W,Calls Tryz.prog 28 #[a.val] W fun z w'=>z=.returned (.bool g)∧Ext W w'):=fun W=>by have:=HG.out W a ha;rw [hg] at this;exact this
 obtain ⟨k,n,d,x,t⟩:=a;obtain ⟨k',n',d',x',t'⟩:=b';obtain ⟨u0,u1,h0,h1,s0,s1,B0,B1,X⟩:=mkB2 w (valL k n d x t) (valL k' n' d' x' t') 39 39;obtain ⟨p,cap,rfl,hcap,hrow⟩:=h;have HROW:Hid (0<l.length→∃ b o,p=some ⟨b,o,none⟩∧RowV w b o l):=hrow;obtain ⟨a0,a1,a2,a3,a4⟩:=Vec.five B0;have hne:l.length=0 ↔ l=[]:=List.length_eq_zero_iff;obtain ⟨N,hN⟩:∃ N,l.length=N:=⟨_,rfl⟩;have HN:Hid (l.length=N):=hN;rw [hN] at hne hl HROW ⊢;have CG0:=C0.out u1;clear hrow hcap hR hN M hr ha CG hg hm;cases g
 ·have HF:=HBAD HGG.out;clear HNIL HLST HBAD;go_enter Tryz.func17,Tryz.ntmps17;go_wp2_with (go_at_call 28;refine CG0.mono ?_;rintro e w1 ⟨rfl,e1⟩);go_ret;exact ⟨ret_bool HF.out.symm,xt X e1⟩
 ·by_cases hl0:N=0
  ·have HF:=HNIL (hne.1 hl0);have f0:¬ (0:Int)<(N:Int):=by omega
   have f1:decide ((N:Int) > 0)=false:=decide_eq_false f0;have f2:¬ 0<N:=by omega
   have f3:decide (0<N)=false:=decide_eq_false f2;have f4:decide ((0:Int)<(N:Int))=false:=decide_eq_false f0;clear HNIL HLST HBAD;go_enter Tryz.func17,Tryz.ntmps17;go_wp2_with fail;refine CG0.mono ?_;rintro e w1 ⟨rfl,e1⟩;obtain ⟨m0,m1,m2,m3,m4⟩:=Vec.five (B0.later e1);obtain ⟨b0,b1,b2,b3,b4⟩:=Vec.five (B1.later e1);have CM:=HM.out w1 (xt X e1);go_wp2_with fail;refine CM.mono ?_;rintro e w2 ⟨rfl,e2⟩;go_wp2_with fail;go_ret;exact ⟨ret_bool HF.out.symm,xt X (xt e1 e2)⟩
  ·have HF:=HLST (fun e=>hl0 (hne.2 e)) HGG.out;have f0:(0:Int)<(N:Int):=by omega
   have f1:decide ((N:Int) > 0)=true:=decide_eq_true f0;have f2:0<N:=by omega
   have f3:decide (0<N)=true:=decide_eq_true f2;have f4:decide ((0:Int)<(N:Int))=true:=decide_eq_true f0;clear HNIL HLST HBAD hne;go_enter Tryz.func17,Tryz.ntmps17;go_wp2_with fail;refine CG0.mono ?_;rintro e w1 ⟨rfl,e1⟩;clear a0 a1 a2 a3 a4;go_wp2_with fail;go_loopw [9,20] (fun s9 s20 wr=>∃ (i:Nat) (fb:Bool),s20=.int .i64 i∧i≤N∧s9=.bool fb∧Hid (fb=(l.take i).any (likeB ⟨k,n,d,x,t⟩)∧(∀ j e,j<i→l[j]?=some e→e.good=true)∧Ext u1 wr)) (fun _ s20 _=>N - (intOf s20).toNat)
   case atStart=>exact ⟨0,false,rfl,by omega,rfl,by simp,fun j e hj=>absurd hj (by omega),e1⟩
   case round =>
    obtain ⟨i,fb,rfl,hiN,rfl,HX⟩:=hrel;by_cases hlt:i<N
    ·have i2:(i:Int)<(N:Int):=(by omega);obtain ⟨⟨z,zn,zd,zx,zt⟩,he⟩:∃ e,l[i]?=some e:=⟨_,List.getElem?_eq_getElem (by rw [HN.out];exact hlt)⟩;obtain ⟨b,o,rfl,RW⟩:=HROW.out (by omega);obtain ⟨c0,c1,c2,c3,c4⟩:=(RW.later (xt X HX.out.2.2)).five he;simp only at c0 c1 c2 c3 c4;have HE:Hid (l[i]?=some ⟨z,zn,zd,zx,zt⟩):=he;have VB:=vec_made wr [.int .i64 z,.bool zn,.int .i64 zd,.int .i64 zx,sV zt] 39;change Vec (wr.alloc (.cells #[.int .i64 z,.bool zn,.int .i64 zd,.int .i64 zx,sV zt] 39)) _ _ at VB;have E1:=x1 wr (.cells #[.int .i64 z,.bool zn,.int .i64 zd,.int .i64 zx,sV zt] 39);obtain ⟨v0,v1,v2,v3,v4⟩:=Vec.five VB;have CV:=HG.out (wr.alloc (.cells #[.int .i64 z,.bool zn,.int .i64 zd,.int .i64 zx,sV zt] 39)) ⟨z,zn,zd,zx,zt⟩ (HRM.out _ (List.mem_of_getElem? he));obtain ⟨ge,hge⟩:∃ ge,VT.good ⟨z,zn,zd,zx,zt⟩=ge:=⟨_,rfl⟩;have HGE:Hid (VT.good ⟨z,zn,zd,zx,zt⟩=ge):=hge;rw [hge] at CV;clear he RW hge;cases ge
     ·have HF2:Hid (false=R):=by
       show _=_;rw [HF.out];have:l.all VT.good=false:=by
        cases hal:l.all VT.good with
        | false=>rfl
        | true=>have:=(List.all_eq_true.1 hal) _ (List.mem_of_getElem? HE.out);rw [HGE.out] at this;cases this
       rw [this];rfl
      go_wp2_with fail;refine CV.mono ?_;rintro e w2 ⟨rfl,e2⟩;go_wp2_with fail;go_ret;exact ⟨ret_bool HF2.out,xt X (xt HX.out.2.2 (xt E1 e2))⟩
     ·go_wp2_with fail;refine CV.mono ?_;rintro e w2 ⟨rfl,e2⟩;clear v0 v1 v2 v3 v4 c0 c1 c2 c3 c4;have Y2:=xt HX.out.2.2 (xt E1 e2);have HST:Hid ((∀ j e,j<i+1→l[j]?=some e→e.good=true)):=fun j e hj he=>by
       by_cases hji:j=i
       ·subst hji;rw [HE.out] at he;cases he;exact HGE.out
       ·exact HX.out.2.1 j e (by omega) he
      cases fb
      ·obtain ⟨m0,m1,m2,m3,m4⟩:=Vec.five (B0.later Y2);obtain ⟨n0,n1,n2,n3,n4⟩:=Vec.five (VB.later e2);have CT:=HS.out w2 ⟨z,zn,zd,zx,zt⟩ (List.mem_of_getElem? HE.out) HGG.out HGE.out;obtain ⟨Q,hQ⟩:∃ Q,likeB ⟨k,n,d,x,t⟩ ⟨z,zn,zd,zx,zt⟩=Q:=⟨_,rfl⟩;rw [hQ] at CT;have HNX:Hid (Q=(l.take (i+1)).any (likeB ⟨k,n,d,x,t⟩)):=(by show _=_;rw [any_step _ HE.out,← HX.out.1,hQ];simp);go_wp2_with fail;refine CT.mono ?_;rintro e w3 ⟨rfl,e3⟩;have HN3:Hid (Q=(l.take (i+1)).any (likeB ⟨k,n,d,x,t⟩)∧(∀ j e,j<i+1→l[j]?=some e→e.good=true)∧Ext u1 w3):=⟨HNX.out,HST.out,xt Y2 e3⟩;clear m0 m1 m2 m3 m4 n0 n1 n2 n3 n4 hQ;go_wp2_with fail;go_roundw
       case rel=>exact ⟨i+1,Q,by go_num,by omega,rfl,HN3⟩
       case measure=>simp [intOf];omega
      ·have HN3:Hid (true=(l.take (i+1)).any (likeB ⟨k,n,d,x,t⟩)∧(∀ j e,j<i+1→l[j]?=some e→e.good=true)∧Ext u1 w2):=⟨by rw [any_step _ HE.out,← HX.out.1];rfl,HST.out,Y2⟩;go_wp2_with fail;go_roundw
       case rel=>exact ⟨i+1,true,by go_num,by omega,rfl,HN3⟩
       case measure=>simp [intOf];omega
    ·obtain rfl:N=i:=(by omega);have i2:¬ (N:Int)<(N:Int):=(by omega);have HF2:Hid (fb=R):=by
      show _=_;have e2:l.all VT.good=true:=List.all_eq_true.2 (fun e he=>by
       obtain ⟨j,hj,rfl⟩:=List.getElem_of_mem he;exact HX.out.2.1 j _ (by rw [← HN.out];exact hj) (List.getElem?_eq_getElem hj))
      rw [HF.out,e2,HX.out.1,List.take_of_length_le (by rw [HN.out];exact Nat.le_refl _)];rfl
     go_wp2_with fail;go_ret;exact ⟨ret_bool HF2.out,xt X HX.out.2.2⟩
end Go.Proofs.YtiaakhogigddbaaGreatDoor

