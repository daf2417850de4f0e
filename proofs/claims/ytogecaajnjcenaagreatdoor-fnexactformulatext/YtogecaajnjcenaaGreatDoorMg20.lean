/-
  Several texts in one: Gf4, Fp, Fn, Gf5.
-/
import Derived.Test.YtogecaajnjcenaaGreatDoorMg19
import Derived.Shelf.Abstract
import Derived.Test.YtogecaajnjcenaaGreatDoorFo
import Derived.Test.YtogecaajnjcenaaGreatDoorMg15
import Derived.Deep.RegionWith
import Derived.Deep.QuietTactic
import Derived.BigQuiet
import Derived.Test.YtogecaajnjcenaaGreatDoorShelb
import Derived.Test.YtogecaajnjcenaaGreatDoorMg11
namespace Go.Proofs.YtogecaajnjcenaaGreatDoor
open Go.RowKit
def TreesAt (w:World) (v:Value) (vs:List Value):Prop:=∃ p cap,v=.slice p vs.length cap∧vs.length≤cap∧(0<vs.length→∃ g,p=some ⟨g,0,none⟩∧Vec w g vs)
theorem TreesAt.later {w w':World} {v:Value} {vs:List Value} (h:TreesAt w v vs) (x:Ext w w'):TreesAt w' v vs:=by
 obtain ⟨p,cap,rfl,hc,hv⟩:=h;exact ⟨p,cap,rfl,hc,fun h0=>by obtain ⟨g,rfl,V⟩:=hv h0;exact ⟨g,rfl,V.later x⟩⟩
def ShapesV (vs:List Value) (es:List ET):Prop:=vs.length=es.length∧∀ (i:Nat) (v:Value) (e:ET),vs[i]?=some v→es[i]?=some e→ShapeV v e
theorem ShapesV.get {vs:List Value} {es:List ET} (h:ShapesV vs es) {i:Nat} (hi:i<vs.length):∃ v e,vs[i]?=some v∧es[i]?=some e∧ShapeV v e:=
 ⟨vs[i],es[i]'(by rw [← h.1];exact hi),List.getElem?_eq_getElem hi,List.getElem?_eq_getElem _,h.2 i _ _ (List.getElem?_eq_getElem hi) (List.getElem?_eq_getElem _)⟩
structure AsksE (f:Nat) (p:ET→Bool):Prop where
 ent:∀ args w,(callFunc f args).run Tryz.prog w=.ok (.enter f args) w
 says:∀ W v e,ShapeV v e→Calls Tryz.prog f #[v] W fun z w'=>z=.returned (.bool (p e))∧Ext W w'
def FirstE (l:List ET) (p:ET→Bool) (e:Ending):Prop:=
 (e=.returned (.int .i64 (-1))∧∀ x ∈ l,p x=false)∨∃ (m:Nat) (x:ET),e=.returned (.int .i64 m)∧l[m]?=some x∧p x=true
set_option maxRecDepth 8000 in
set_option maxHeartbeats 2000000 in
theorem indexE (f:Nat) (v:Value) (vs:List Value) (l:List ET) (p:ET→Bool) (w:World) (A:AsksE f p) (h:TreesAt w v vs) (hs:ShapesV vs l) (hl:l.length≤1048576) :
  Calls Tryz.prog 114 #[v,.func (.func f) #[] #[]] w fun e w'=>FirstE l p e∧Ext w w':=by
 have ent:=A.ent;have HA:Hid (∀ W v e,ShapeV v e→Calls Tryz.prog f #[v] W fun z w'=>z=.returned (.bool (p e))∧Ext W w'):=A.says;obtain ⟨pk,nk,rfl,hc,hrow⟩:=h;have HV:Hid (0<vs.length→∃ g,pk=some ⟨g,0,none⟩∧Vec w g vs):=hrow;have HS:Hid (ShapesV vs l):=hs;obtain ⟨n,hn⟩:∃ n,vs.length=n:=⟨_,rfl⟩;have HN:Hid (vs.length=n):=hn;have hnl:n≤1048576:=by rw [← hn,hs.1];exact hl
 rw [hn] at hc HV ⊢;clear hrow A hn hs hl;go_enter Tryz.func114,Tryz.ntmps114;go_wp2_with fail;go_loopw [8] (fun i wr=>∃ k:Nat,k≤n∧i=.int .i64 k∧Hid (Ext w wr∧∀ j x,j<k→l[j]?=some x→p x=false)) (fun i _=>n - (intOf i).toNat)
 case atStart=>exact ⟨0,by omega,rfl,xr _,fun j x hj=>absurd hj (by omega)⟩
 case round =>
  obtain ⟨k,hk,rfl,HO⟩:=hrel;by_cases hlt:k<n
  ·have i2:(k:Int)<(n:Int):=by omega
   obtain ⟨u,x,hu,hx,hux⟩:=HS.out.get (i:=k) (by rw [HN.out];exact hlt);obtain ⟨g,rfl,RW⟩:=HV.out (by omega);have a0:=((RW.later HO.out.1) k _ hu).1;have CA:=HA.out wr u x hux;have HX:Hid (l[k]?=some x):=hx;obtain ⟨q,hq⟩:∃ q,p x=q:=⟨_,rfl⟩;have HQ:Hid (p x=q):=hq;rw [hq] at CA;clear hx hq RW hu hux;cases q
   ·go_wp2_with (go_at_fn f;refine CA.mono ?_;rintro e w1 ⟨rfl,e1⟩);have HM:Hid (Ext w w1∧∀ j x,j<k+1→l[j]?=some x→p x=false):=⟨xt HO.out.1 e1,fun j y hj hy=>by
     by_cases e:j=k
     ·subst e;rw [HX.out] at hy;cases hy;exact HQ.out
     ·exact HO.out.2 j y (by omega) hy⟩
    go_roundw
    case rel=>exact ⟨k+1,by omega,by go_num,HM⟩
    case measure=>simp [intOf];omega
   ·go_wp2_with (go_at_fn f;refine CA.mono ?_;rintro e w1 ⟨rfl,e1⟩);go_ret;exact ⟨Or.inr ⟨k,_,rfl,HX.out,HQ.out⟩,xt HO.out.1 e1⟩
  ·obtain rfl:k=n:=by omega
   have i2:¬ (k:Int)<(k:Int):=by omega
   go_wp2_with fail;go_ret;refine ⟨Or.inl ⟨rfl,fun x hx=>?_⟩,HO.out.1⟩;obtain ⟨j,hj,rfl⟩:=List.getElem_of_mem hx;exact HO.out.2 j _ (by rw [← HN.out,HS.out.1];exact hj) (List.getElem?_eq_getElem hj)
set_option maxHeartbeats 2000000 in
theorem containsE (f:Nat) (v:Value) (vs:List Value) (l:List ET) (p:ET→Bool) (w:World) (A:AsksE f p) (h:TreesAt w v vs) (hs:ShapesV vs l) (hl:l.length≤1048576) :
  Calls Tryz.prog 83 #[v,.func (.func f) #[] #[]] w fun e w'=>e=.returned (.bool (l.any p))∧Ext w w':=by
 have C0:=indexE f v vs l p w A h hs hl;obtain ⟨pk,nk,rfl,_,_⟩:=h;have HR:Hid ((∀ x ∈ l,p x=false)→l.any p=false):=fun h=>by
  rw [Bool.eq_false_iff];intro hc;obtain ⟨x,hx,hp⟩:=List.any_eq_true.1 hc;rw [h x hx] at hp;cases hp
 have HS:Hid (∀ (m:Nat) x,l[m]?=some x→p x=true→l.any p=true):=fun m x hm hp=>List.any_eq_true.2 ⟨x,List.mem_of_getElem? hm,hp⟩;obtain ⟨R,hR⟩:∃ R,l.any p=R:=⟨_,rfl⟩;rw [hR] at HR HS ⊢;obtain ⟨n,hn⟩:∃ n,vs.length=n:=⟨_,rfl⟩;rw [hn] at C0 ⊢;clear A hR hn hs;go_enter Tryz.func83,Tryz.ntmps83;go_wp2_with fail;refine C0.mono ?_;rintro e w1 ⟨⟨rfl,h⟩ | ⟨m,x,rfl,hm,hp⟩,e1⟩
 ·obtain rfl:=HR.out h;clear h;go_wp2_with fail;go_ret;exact ⟨rfl,e1⟩
 ·obtain rfl:=HS.out m x hm hp;clear hm hp;have m0:(0:Int)≤(m:Int):=by omega
  have m1:decide ((m:Int) ≥ 0)=true:=decide_eq_true m0;go_wp2_with fail;go_ret;exact ⟨rfl,e1⟩
theorem asksNoVal:AsksE 84 noValE:=⟨fun args w=>by kernel_rfl,fun W v e h=>noValI v e W h⟩
theorem asksNo:AsksE 41 isNoE:=⟨fun args w=>by kernel_rfl,fun W v e h=>isNoI v e W h⟩
set_option maxRecDepth 8000 in
set_option maxHeartbeats 2000000 in
theorem kidsI (k:Int) (v:Value) (vs:List Value) (l:List ET) (w:World) (h:TreesAt w v vs) (hs:ShapesV vs l) (hl:l.length≤1048576) :
  Calls Tryz.prog 59 #[.int .i64 k,v] w fun e w'=>e=.returned (.bool (kidsB k l))∧Ext w w':=by
 have C1:=containsE 84 v vs l noValE w asksNoVal h hs hl;have C2:=containsE 41 v vs l isNoE w asksNo h hs hl;obtain ⟨p,cap,rfl,hc,hrow⟩:=h;obtain ⟨Q,hQ⟩:∃ Q,kidsB k l=Q:=⟨_,rfl⟩;have HQ:Hid (kidsB k l=Q):=hQ;rw [hQ];clear hQ;by_cases h11:k=11
 ·subst h11;clear C1 C2;by_cases h1:vs.length=1
  ·obtain ⟨g,rfl,V⟩:=hrow (by omega);obtain ⟨u,hu⟩:=List.length_eq_one_iff.1 h1;obtain ⟨x,hx⟩:=List.length_eq_one_iff.1 (show l.length=1 by rw [← hs.1];exact h1);subst hu hx;have hux:=hs.2 0 u x rfl rfl;have a0:=(V 0 u rfl).1;have CN:=isNoI u x w hux;obtain ⟨q,hq⟩:∃ q,isNoE x=q:=⟨_,rfl⟩;have HE:Hid ((!q)=Q):=by show _=_;rw [← HQ.out];simp [kidsB,hq]
   rw [hq] at CN;clear hq HQ V hux hs hrow;show Calls Tryz.prog 59 #[.int .i64 11,.slice (some ⟨g,0,none⟩) 1 cap] w _;go_enter Tryz.func59,Tryz.ntmps59;go_wp2_with (go_at_call 41;refine CN.mono ?_;rintro e w1 ⟨rfl,e1⟩);go_ret;exact ⟨ret_bool HE.out,e1⟩
  ·obtain ⟨n,hn⟩:∃ n,vs.length=n:=⟨_,rfl⟩;have hne:¬ l.length=1:=by rw [← hs.1];exact h1
   have HE:Hid (true=Q):=by show _=_;rw [← HQ.out];simp [kidsB,hne]
   rw [hn] at h1 ⊢;have h1':((n:Int) != 1)=true:=by simp;omega
   have h1'':¬ ((n:Int)=1):=by omega
   clear hrow hs hn HQ hne hc;go_enter Tryz.func59,Tryz.ntmps59;go_wp2_with fail;go_ret;exact ⟨ret_bool HE.out,xr _⟩
 ·by_cases h12:k=12
  ·subst h12;obtain ⟨q,hq⟩:∃ q,l.any noValE=q:=⟨_,rfl⟩;have HE:Hid ((!q)=Q):=by show _=_;rw [← HQ.out];simp [kidsB,hq]
   rw [hq] at C1;clear hq HQ hrow hs C2 hc;go_enter Tryz.func59,Tryz.ntmps59;go_wp2_with fail;refine C1.mono ?_;rintro e w1 ⟨rfl,e1⟩;go_wp2_with fail;go_ret;exact ⟨ret_bool HE.out,e1⟩
  ·obtain ⟨q,hq⟩:∃ q,l.any isNoE=q:=⟨_,rfl⟩;have HE:Hid ((!q)=Q):=by show _=_;rw [← HQ.out];simp [kidsB,hq,h11,h12]
   rw [hq] at C2;clear hq HQ hrow hs C1 hc;go_enter Tryz.func59,Tryz.ntmps59;go_wp2_with fail;refine C2.mono ?_;rintro e w1 ⟨rfl,e1⟩;go_wp2_with fail;go_ret;exact ⟨ret_bool HE.out,e1⟩
def sidesB (t:List UInt8) (m:Int):Bool:=(decide (1≤whole t) && decide (whole t≤20)) && (t == Lib.itoa (whole t)) && (decide (1≤m) && decide (m≤100)) && (m.tmod (whole t) == 0)
theorem xdM {a b:World} (h:Ext a b) (n:Nat):Ext a (b.drewN n):=⟨h.os,h.tape,h.output,h.size,h.block⟩
theorem fItoaS:layItoaS_ren.f 171=87:=by kernel_rfl
theorem itoaSmall (i:Nat) (hi:i<100) (w:World) :
  Calls Tryz.prog 87 #[.int .i64 (i:Int)] w fun e w'=>e=.returned (sV (Lib.decDigits i))∧w'=w:=by
 have h:=Any.strconv_Itoa_small layItoaS i hi w;rw [fItoaS] at h;exact h
set_option maxRecDepth 8000 in
set_option maxHeartbeats 4000000 in
theorem sidesI (k:Int) (t:List UInt8) (neg:Bool) (d x r c:Int) (rf cf:Bool) (r2 c2:Int) (rf2 cf2:Bool) (m:Int) (w:World) (hl:t.length≤1048576) (LW:LibW w) :
  Calls Tryz.prog 80 #[ndV k t neg d x r c rf cf r2 c2 rf2 cf2 m] w fun e w'=>e=.returned (.bool (sidesB t m))∧Ext w w':=by
 have VN:=vec_made w [.int .i64 k,sV t,.bool neg,.int .i64 d,.int .i64 x,.int .i64 r,.int .i64 c,.bool rf,.bool cf,.int .i64 r2,.int .i64 c2,.bool rf2,.bool cf2,.int .i64 m] 43;have X:=x1 w (.cells [.int .i64 k,sV t,.bool neg,.int .i64 d,.int .i64 x,.int .i64 r,.int .i64 c,.bool rf,.bool cf,.int .i64 r2,.int .i64 c2,.bool rf2,.bool cf2,.int .i64 m].toArray 43);have WH:∀ w,LibW w→Calls Tryz.prog 82 #[sV t] w fun e w'=>e=.returned (.int .i64 (whole t))∧Ext w w':=fun w h=>wholeC t w hl h;have WH:=WH _ (LW.later X);obtain ⟨Q,hQ⟩:∃ Q,sidesB t m=Q:=⟨_,rfl⟩;have HQ:Hid _:=hQ;rw [hQ];clear hQ;obtain ⟨R,hR⟩:∃ R,whole t=R:=⟨_,rfl⟩;have HW:Hid _:=hR;rw [hR] at WH;clear hR;have a1:=(VN 1 _ rfl).1;have a13:=(VN 13 _ rfl).1;go_enter Tryz.func80,Tryz.ntmps80;go_wp2_with fail;refine WH.mono ?_;rintro e w1 ⟨rfl,x1'⟩;have b1:=cell_later x1' a1;have b13:=cell_later x1' a13;have X1:=xt X x1';clear WH a1 a13 VN X x1';by_cases c1:1≤R
 ·have e1:decide (1≤R)=true:=decide_eq_true c1;by_cases c2:R≤20
  ·have e2:decide (R≤20)=true:=decide_eq_true c2;obtain ⟨i,rfl⟩:∃ i:Nat,R=(i:Int):=⟨R.toNat,by omega⟩;have hI:=fun W=>itoaSmall i (by omega) W;obtain ⟨p,hp⟩:∃ p,(t == Lib.decDigits i)=p:=⟨_,rfl⟩;have hit:Lib.itoa (i:Int)=Lib.decDigits i:=by unfold Lib.itoa;rw [if_neg (by omega)];simp
   have HS:Hid (sidesB t m=(p && (decide (1≤m) && decide (m≤100)) && (m.tmod i == 0))):=by
    show _=_;unfold sidesB;rw [HW.out,hit,e1,e2,hp];cases p <;> simp
   obtain ⟨D,hD⟩:∃ D,Lib.decDigits i=D:=⟨_,rfl⟩;rw [hD] at hI hp;clear hD hit;cases p
   ·have HB:Hid (false=Q):=(by show _=_;rw [← HQ.out,HS.out];rfl);go_wp2_with fail;go_quiet (first | (go_at_call 87;exact Calls.quiet_of_same (hI _)));go_wp2_with fail;go_ret;exact ⟨ret_bool HB.out,xdM X1 _⟩
   ·by_cases c3:1≤m
    ·have e3:decide (1≤m)=true:=decide_eq_true c3;by_cases c4:m≤100
     ·have e4:decide (m≤100)=true:=decide_eq_true c4;have hmod:m.tmod i=m % (i:Int):=Int.tmod_eq_emod_of_nonneg (by omega);have HB:Hid ((m % (i:Int) == 0)=Q):=(by show _=_;rw [← HQ.out,HS.out,e3,e4,hmod];rfl);have hi0:(i:Int) ≠ 0:=(by omega);go_wp2_with fail;go_quiet (first | (go_at_call 87;exact Calls.quiet_of_same (hI _)));go_wp2_with fail;go_ret;exact ⟨ret_bool HB.out,xdM X1 _⟩
     ·have e4:decide (m≤100)=false:=decide_eq_false c4;have HB:Hid (false=Q):=(by show _=_;rw [← HQ.out,HS.out,e3,e4];rfl);go_wp2_with fail;go_quiet (first | (go_at_call 87;exact Calls.quiet_of_same (hI _)));go_wp2_with fail;go_ret;exact ⟨ret_bool HB.out,xdM X1 _⟩
    ·have e3:decide (1≤m)=false:=decide_eq_false c3;have HB:Hid (false=Q):=(by show _=_;rw [← HQ.out,HS.out,e3];rfl);go_wp2_with fail;go_quiet (first | (go_at_call 87;exact Calls.quiet_of_same (hI _)));go_wp2_with fail;go_ret;exact ⟨ret_bool HB.out,xdM X1 _⟩
  ·have e2:decide (R≤20)=false:=decide_eq_false c2;have HB:Hid (false=Q):=by show _=_;rw [← HQ.out];unfold sidesB;rw [HW.out,e1,e2];rfl
   go_wp2_with fail;go_quiet (fail);go_wp2_with fail;go_ret;exact ⟨ret_bool HB.out,xdM X1 _⟩
 ·have e1:decide (1≤R)=false:=decide_eq_false c1;have HB:Hid (false=Q):=by show _=_;rw [← HQ.out];unfold sidesB;rw [HW.out,e1];rfl
  go_wp2_with fail;go_quiet (fail);go_wp2_with fail;go_ret;exact ⟨ret_bool HB.out,xdM X1 _⟩
theorem opField (t:ByteArray) (n:Int) (W:World):(Instr.field 104 (.agg #[.string t,.int .i64 n]) 0).run Tryz.prog W=.ok (.string t) W:=by kernel_rfl
set_option maxRecDepth 8000 in
set_option maxHeartbeats 1000000 in
theorem opI (l:List UInt8) (w:World) (hO:OpTab w):Calls Tryz.prog 78 #[.string (bs l)] w fun e w'=>e=.returned (.bool (memB opsL l))∧Ext w w':=by
 have tl:(bs l).toList=l:=by rw [ByteArray.toList_eq,bs_list]
 have hem:(bs l).toList.isEmpty=l.isEmpty:=by rw [tl]
 cases l with
 | nil =>
  have e0:memB opsL []=false:=by decide
  rw [e0];have hem':(bs []).toList.isEmpty=true:=hem;obtain ⟨s,hs⟩:∃ s,bs []=s:=⟨_,rfl⟩;rw [hs] at hem' ⊢;clear hem tl hs;go_enter Tryz.func78,Tryz.ntmps78;go_wp2_with fail;go_ret;exact ⟨rfl,xr _⟩
 | cons c l' =>
  have op:=op_is (c :: l') (by simp);have AH:=aheadI (c :: l') w hO;have F:=fun W=>opField ⟨(aheadO (c :: l')).1.toArray⟩ (aheadO (c :: l')).2 W;have hem':(bs (c :: l')).toList.isEmpty=false:=hem;obtain ⟨o,ho⟩:∃ o,aheadO (c :: l')=o:=⟨_,rfl⟩;rw [ho] at op AH F;obtain ⟨t,lev⟩:=o;obtain ⟨R,hR⟩:∃ R,memB opsL (c :: l')=R:=⟨_,rfl⟩;rw [hR] at op ⊢;have HB:((⟨t.toArray⟩:ByteArray).toList == (bs (c :: l')).toList)=R:=by
   rw [tl,ByteArray.toList_eq];exact op
  obtain ⟨s,hs⟩:∃ s,bs (c :: l')=s:=⟨_,rfl⟩;rw [hs] at hem' HB AH ⊢;obtain ⟨x,hx⟩:∃ x:ByteArray,(⟨t.toArray⟩:ByteArray)=x:=⟨_,rfl⟩;have AH:Calls Tryz.prog 81 #[.string s] w fun e w'=>e=.returned (.agg #[.string x,.int .i64 lev])∧Ext w w':=by rw [← hx];exact AH
  have F:∀ W,(Instr.field 104 (.agg #[.string x,.int .i64 lev]) 0).run Tryz.prog W=.ok (.string x) W:=by rw [← hx];exact F
  rw [hx] at HB;clear hem tl hs hx hR ho op;cases R
  all_goals
   go_enter Tryz.func78,Tryz.ntmps78;go_wp2_with fail;refine AH.mono ?_;rintro e w1 ⟨rfl,e1⟩;go_wp2_with fail;go_ret
   first | exact ⟨rfl,e1⟩ | exact ⟨by simp [HB],e1⟩
theorem xdNz {a b:World} (h:Ext a b) (n:Nat):Ext a (b.drewN n):=⟨h.os,h.tape,h.output,h.size,h.block⟩
set_option maxRecDepth 8000 in
set_option maxHeartbeats 2000000 in
theorem treeOver8 (x:NT) (k:Int) (hk:k=8∨k=9) (g cap:Nat) (T:TypeId) (a:Value) (w:World) (V:Vec w g [.iface T a]) :
  Calls Tryz.prog 58 #[nodV k x.t x.n x.d x.x x.r x.c x.f x.g x.r2 x.c2 x.f2 x.g2 x.q,.slice (some ⟨g,0,none⟩) 1 cap] w fun e w'=>e=.returned (.iface 101 (.agg #[.int .i64 k,.iface T a]))∧Ext w w':=by
 obtain ⟨wa,ha,X1,VN,-⟩:=boxed w [.int .i64 k,sV x.t,.bool x.n,.int .i64 x.d,.int .i64 x.x,.int .i64 x.r,.int .i64 x.c,.bool x.f,.bool x.g,.int .i64 x.r2,.int .i64 x.c2,.bool x.f2,.bool x.g2,.int .i64 x.q] 43;have a0:=(VN 0 _ rfl).1;have b0:=((V.later X1) 0 _ rfl).1
 rcases hk with rfl | rfl
 all_goals
  go_enter Tryz.func58,Tryz.ntmps58;go_wp2_with fail
  go_region
  go_wp2_with fail;go_ret;exact ⟨rfl,xdNz X1 _⟩
set_option maxRecDepth 8000 in
set_option maxHeartbeats 2000000 in
theorem treeOver10 (x:NT) (g cap:Nat) (T1 T2:TypeId) (a1 a2:Value) (w:World) (V:Vec w g [.iface T1 a1,.iface T2 a2]) (hO:OpTab w) :
  Calls Tryz.prog 58 #[nodV 10 x.t x.n x.d x.x x.r x.c x.f x.g x.r2 x.c2 x.f2 x.g2 x.q,.slice (some ⟨g,0,none⟩) 2 cap] w fun e w'=>e=.returned (.iface 106 (.agg #[sV (aheadO x.t).1,.int .i64 (aheadO x.t).2,.iface T1 a1,.iface T2 a2]))∧Ext w w':=by
 obtain ⟨wa,ha,X1,VN,-⟩:=boxed w [.int .i64 10,sV x.t,.bool x.n,.int .i64 x.d,.int .i64 x.x,.int .i64 x.r,.int .i64 x.c,.bool x.f,.bool x.g,.int .i64 x.r2,.int .i64 x.c2,.bool x.f2,.bool x.g2,.int .i64 x.q] 43;have a0:=(VN 0 _ rfl).1;have V1:=V.later X1;have aT:=(VN 1 _ rfl).1;obtain ⟨⟨os,ol⟩,hos⟩:∃ o,aheadO x.t=o:=⟨_,rfl⟩;have AH:Hid (∀ W,Ext wa W→Calls Tryz.prog 81 #[sV x.t] W fun e w'=>e=.returned (.agg #[sV os,.int .i64 ol])∧Ext W w'):=fun W X=>by
  have:=aheadI x.t W (hO.later (xt X1 X));rw [hos] at this;exact this
 rw [hos];clear hos V hO;go_enter Tryz.func58,Tryz.ntmps58;go_wp2_with fail;refine wp_region_letters_c (fun lx:Nat→Value=>{ tmps:=#[nodV 10 x.t x.n x.d x.x x.r x.c x.f x.g x.r2 x.c2 x.f2 x.g2 x.q,Value.slice (some ⟨g,0,none⟩) 2 cap,Value.pointer (some ⟨w.heap.size,0,none⟩),undef,lx 4,Value.pointer (some ⟨w.heap.size,0,none⟩),Value.int .i64 10,Value.bool false,Value.bool false,Value.bool false,undef,undef,undef,undef,undef,undef,undef,Value.bool true,Value.bool true,lx 19,lx 20,lx 21,lx 22,lx 23,lx 24,lx 25,lx 26,lx 27,lx 28,lx 29,undef,undef,undef,undef,undef,undef,undef,undef,undef,undef,undef,undef,undef,undef,undef,undef,undef,undef],defers:=[] }) (fun L lx lw=>Hid (Ext wa lw∧(L 0=true→lx 19=.pointer (some ⟨w.heap.size,1,none⟩))∧(L 1=true→lx 20=sV x.t)∧(L 2=true→lx 21=.agg #[sV os,.int .i64 ol])∧(L 3=true→lx 22=.slice (some ⟨g,0,none⟩) 2 cap)∧(L 4=true→lx 23=.pointer (some ⟨g,0,none⟩))∧(L 5=true→lx 24=.iface T1 a1)∧(L 6=true→lx 25=.slice (some ⟨g,0,none⟩) 2 cap)∧(L 7=true→lx 26=.pointer (some ⟨g,1,none⟩))∧(L 8=true→lx 27=.iface T2 a2)∧(L 9=true→lx 28=.agg #[sV os,.int .i64 ol,.iface T1 a1,.iface T2 a2])∧(L 10=true→lx 29=.iface 106 (.agg #[sV os,.int .i64 ol,.iface T1 a1,.iface T2 a2]))∧(L 11=true→lx 4=.iface 106 (.agg #[sV os,.int .i64 ol,.iface T1 a1,.iface T2 a2])))) rfl (by kernel_rfl) (fun jj=>if jj=4 then Value.nilIface else undef) rfl ?_ ?_ ?_
 ·exact ⟨xd (xr _),(fun h=>by cases h),(fun h=>by cases h),(fun h=>by cases h),(fun h=>by cases h),(fun h=>by cases h),(fun h=>by cases h),(fun h=>by cases h),(fun h=>by cases h),(fun h=>by cases h),(fun h=>by cases h),(fun h=>by cases h),(fun h=>by cases h)⟩
 ·intro L lx lw ix o K hK ho hL haf hI hcl;obtain ⟨E,f0,f1,f2,f3,f4,f5,f6,f7,f8,f9,f10,f11⟩:=hI.out
  match ix,ho,hL,haf,hK with
  | 0,ho,hL,haf,hK =>
   cases ho
   (try dsimp only)
   refine Eq.mpr (if_pos (by rfl)) ?_;go_wp2_with fail;exact hK (fun jj=>if jj=19 then .pointer (some ⟨w.heap.size,1,none⟩) else lx jj) _ ⟨E,(fun _=>rfl),f1,f2,f3,f4,f5,f6,f7,f8,f9,f10,f11⟩
  | 1,ho,hL,haf,hK =>
   cases ho
   (try dsimp only)
   rw [f0 (haf ⟨0,.data⟩ (by simp) rfl)];refine Eq.mpr (if_pos (by rfl)) ?_;have c1:=cell_later E aT;go_wp2_with fail;exact hK (fun jj=>if jj=20 then sV x.t else if jj=19 then .pointer (some ⟨w.heap.size,1,none⟩) else lx jj) _ ⟨E,(fun _=>rfl),(fun _=>rfl),f2,f3,f4,f5,f6,f7,f8,f9,f10,f11⟩
  | 2,ho,hL,haf,hK =>
   cases ho
   (try dsimp only)
   rw [f1 (haf ⟨1,.data⟩ (by simp) rfl)];refine Eq.mpr (if_pos (by rfl)) ?_;go_wp2_with fail;refine (AH.out lw E).mono ?_;rintro rr w' ⟨rfl,e'⟩;go_wp2_with fail;exact hK (fun jj=>if jj=21 then .agg #[sV os,.int .i64 ol] else if jj=20 then sV x.t else lx jj) _ ⟨(xt E e'),f0,(fun _=>rfl),(fun _=>rfl),f3,f4,f5,f6,f7,f8,f9,f10,f11⟩
  | 3,ho,hL,haf,hK =>
   cases ho
   (try dsimp only)
   refine Eq.mpr (if_pos (by rfl)) ?_;go_wp2_with fail;exact hK (fun jj=>if jj=22 then .slice (some ⟨g,0,none⟩) 2 cap else lx jj) _ ⟨E,f0,f1,f2,(fun _=>rfl),f4,f5,f6,f7,f8,f9,f10,f11⟩
  | 4,ho,hL,haf,hK =>
   cases ho
   (try dsimp only)
   rw [f3 (haf ⟨3,.data⟩ (by simp) rfl)];refine Eq.mpr (if_pos (by rfl)) ?_;go_wp2_with fail;exact hK (fun jj=>if jj=23 then .pointer (some ⟨g,0,none⟩) else if jj=22 then .slice (some ⟨g,0,none⟩) 2 cap else lx jj) _ ⟨E,f0,f1,f2,(fun _=>rfl),(fun _=>rfl),f5,f6,f7,f8,f9,f10,f11⟩
  | 5,ho,hL,haf,hK =>
   cases ho
   (try dsimp only)
   rw [f4 (haf ⟨4,.data⟩ (by simp) rfl)];refine Eq.mpr (if_pos (by rfl)) ?_;have c0:=((V1.later E) 0 _ rfl).1;go_wp2_with fail;exact hK (fun jj=>if jj=24 then .iface T1 a1 else if jj=23 then .pointer (some ⟨g,0,none⟩) else lx jj) _ ⟨E,f0,f1,f2,f3,(fun _=>rfl),(fun _=>rfl),f6,f7,f8,f9,f10,f11⟩
  | 6,ho,hL,haf,hK =>
   cases ho
   (try dsimp only)
   refine Eq.mpr (if_pos (by rfl)) ?_;go_wp2_with fail;exact hK (fun jj=>if jj=25 then .slice (some ⟨g,0,none⟩) 2 cap else lx jj) _ ⟨E,f0,f1,f2,f3,f4,f5,(fun _=>rfl),f7,f8,f9,f10,f11⟩
  | 7,ho,hL,haf,hK =>
   cases ho
   (try dsimp only)
   rw [f6 (haf ⟨6,.data⟩ (by simp) rfl)];refine Eq.mpr (if_pos (by rfl)) ?_;go_wp2_with fail;exact hK (fun jj=>if jj=26 then .pointer (some ⟨g,1,none⟩) else if jj=25 then .slice (some ⟨g,0,none⟩) 2 cap else lx jj) _ ⟨E,f0,f1,f2,f3,f4,f5,(fun _=>rfl),(fun _=>rfl),f8,f9,f10,f11⟩
  | 8,ho,hL,haf,hK =>
   cases ho
   (try dsimp only)
   rw [f7 (haf ⟨7,.data⟩ (by simp) rfl)];refine Eq.mpr (if_pos (by rfl)) ?_;have c0:=((V1.later E) 1 _ rfl).1;go_wp2_with fail;exact hK (fun jj=>if jj=27 then .iface T2 a2 else if jj=26 then .pointer (some ⟨g,1,none⟩) else lx jj) _ ⟨E,f0,f1,f2,f3,f4,f5,f6,(fun _=>rfl),(fun _=>rfl),f9,f10,f11⟩
  | 9,ho,hL,haf,hK =>
   cases ho
   (try dsimp only)
   rw [f2 (haf ⟨2,.data⟩ (by simp) rfl),f5 (haf ⟨5,.data⟩ (by simp) rfl),f8 (haf ⟨8,.data⟩ (by simp) rfl)];refine Eq.mpr (if_pos (by rfl)) ?_;go_wp2_with fail;exact hK (fun jj=>if jj=28 then .agg #[sV os,.int .i64 ol,.iface T1 a1,.iface T2 a2] else if jj=21 then .agg #[sV os,.int .i64 ol] else if jj=24 then .iface T1 a1 else if jj=27 then .iface T2 a2 else lx jj) _ ⟨E,f0,f1,(fun _=>rfl),f3,f4,(fun _=>rfl),f6,f7,(fun _=>rfl),(fun _=>rfl),f10,f11⟩
  | 10,ho,hL,haf,hK =>
   cases ho
   (try dsimp only)
   rw [f9 (haf ⟨9,.data⟩ (by simp) rfl)];refine Eq.mpr (if_pos (by rfl)) ?_;go_wp2_with fail;exact hK (fun jj=>if jj=29 then .iface 106 (.agg #[sV os,.int .i64 ol,.iface T1 a1,.iface T2 a2]) else if jj=28 then .agg #[sV os,.int .i64 ol,.iface T1 a1,.iface T2 a2] else lx jj) _ ⟨E,f0,f1,f2,f3,f4,f5,f6,f7,f8,(fun _=>rfl),(fun _=>rfl),f11⟩
  | 11,ho,hL,haf,hK =>
   cases ho
   (try dsimp only)
   rw [f10 (haf ⟨10,.data⟩ (by simp) rfl)];refine Eq.mpr (if_pos (by rfl)) ?_;go_wp2_with fail;exact hK (fun jj=>if jj=4 then .iface 106 (.agg #[sV os,.int .i64 ol,.iface T1 a1,.iface T2 a2]) else if jj=29 then .iface 106 (.agg #[sV os,.int .i64 ol,.iface T1 a1,.iface T2 a2]) else lx jj) _ ⟨E,f0,f1,f2,f3,f4,f5,f6,f7,f8,f9,(fun _=>rfl),(fun _=>rfl)⟩
  | k+12,ho,_,_,_=>simp at ho
 ·intro L lx w9 hall hI;obtain ⟨E,f0,f1,f2,f3,f4,f5,f6,f7,f8,f9,f10,f11⟩:=hI.out
  (try dsimp only)
  rw [f11 (hall 11 (by simp)),f0 (hall 0 (by simp)),f1 (hall 1 (by simp)),f2 (hall 2 (by simp)),f3 (hall 3 (by simp)),f4 (hall 4 (by simp)),f5 (hall 5 (by simp)),f6 (hall 6 (by simp)),f7 (hall 7 (by simp)),f8 (hall 8 (by simp)),f9 (hall 9 (by simp)),f10 (hall 10 (by simp))];clear hI hall f0 f1 f2 f3 f4 f5 f6 f7 f8 f9 f10 f11;go_wp2_with fail;go_ret;exact ⟨rfl,xt X1 E⟩
set_option maxRecDepth 8000 in
set_option maxHeartbeats 2000000 in
theorem treeOver11 (x:NT) (p:Option Addr) (n cap:Nat) (w:World) :
  Calls Tryz.prog 58 #[nodV 11 x.t x.n x.d x.x x.r x.c x.f x.g x.r2 x.c2 x.f2 x.g2 x.q,.slice p n cap] w fun e w'=>e=.returned (.iface 110 (.agg #[sV x.t,.slice p n cap]))∧Ext w w':=by
 obtain ⟨wa,ha,X1,VN,-⟩:=boxed w [.int .i64 11,sV x.t,.bool x.n,.int .i64 x.d,.int .i64 x.x,.int .i64 x.r,.int .i64 x.c,.bool x.f,.bool x.g,.int .i64 x.r2,.int .i64 x.c2,.bool x.f2,.bool x.g2,.int .i64 x.q] 43;have a0:=vC2 VN;go_enter Tryz.func58,Tryz.ntmps58;go_wp2_with fail;go_ret;exact ⟨rfl,X1⟩
set_option maxRecDepth 8000 in
set_option maxHeartbeats 2000000 in
theorem treeOver12 (x:NT) (p:Option Addr) (n cap:Nat) (w:World) (hl:x.t.length≤1048576) (LW:LibW w) :
  Calls Tryz.prog 58 #[nodV 12 x.t x.n x.d x.x x.r x.c x.f x.g x.r2 x.c2 x.f2 x.g2 x.q,.slice p n cap] w fun e w'=>e=.returned (.iface 113 (.agg #[.int .i64 (whole x.t),.slice p n cap]))∧Ext w w':=by
 obtain ⟨wa,ha,X1,VN,-⟩:=boxed w [.int .i64 12,sV x.t,.bool x.n,.int .i64 x.d,.int .i64 x.x,.int .i64 x.r,.int .i64 x.c,.bool x.f,.bool x.g,.int .i64 x.r2,.int .i64 x.c2,.bool x.f2,.bool x.g2,.int .i64 x.q] 43;have a0:=vC2 VN;have WH:Calls Tryz.prog 82 #[sV x.t] wa fun e w'=>e=.returned (.int .i64 (whole x.t))∧Ext wa w':=wholeC x.t wa hl (LW.later X1);go_enter Tryz.func58,Tryz.ntmps58;go_wp2_with fail;refine WH.mono ?_;rintro e w1 ⟨rfl,e1⟩;go_wp2_with fail;go_ret;exact ⟨rfl,xt X1 e1⟩
set_option maxRecDepth 8000 in
set_option maxHeartbeats 2000000 in
theorem treeOverL (x:NT) (p:Option Addr) (n cap:Nat) (w:World) (k:Int) (h8:k ≠ 8) (h9:k ≠ 9) (h10:k ≠ 10) (h11:k ≠ 11) (h12:k ≠ 12) :
  Calls Tryz.prog 58 #[nodV k x.t x.n x.d x.x x.r x.c x.f x.g x.r2 x.c2 x.f2 x.g2 x.q,.slice p n cap] w fun e w'=>e=.returned (.iface 98 (nodV k x.t x.n x.d x.x x.r x.c x.f x.g x.r2 x.c2 x.f2 x.g2 x.q))∧Ext w w':=by
 obtain ⟨wa,ha,X1,VN,-⟩:=boxed w [.int .i64 k,sV x.t,.bool x.n,.int .i64 x.d,.int .i64 x.x,.int .i64 x.r,.int .i64 x.c,.bool x.f,.bool x.g,.int .i64 x.r2,.int .i64 x.c2,.bool x.f2,.bool x.g2,.int .i64 x.q] 43;have a0:=(VN 0 _ rfl).1;have HRA:wa.rangeAt w.heap.size 0 [.int .i64 k,sV x.t,.bool x.n,.int .i64 x.d,.int .i64 x.x,.int .i64 x.r,.int .i64 x.c,.bool x.f,.bool x.g,.int .i64 x.r2,.int .i64 x.c2,.bool x.f2,.bool x.g2,.int .i64 x.q]:=fun j v hv=>by rw [Nat.zero_add];exact (VN j v hv).1
 go_enter Tryz.func58,Tryz.ntmps58;go_wp2_with (refine wpList_load_mid rfl 43 (.tmp 2) rfl w.heap.size 0 rfl _ _ HRA Tryz.underlying43 rfl hi14N ?_);go_ret;exact ⟨rfl,X1⟩
end Go.Proofs.YtogecaajnjcenaaGreatDoor

