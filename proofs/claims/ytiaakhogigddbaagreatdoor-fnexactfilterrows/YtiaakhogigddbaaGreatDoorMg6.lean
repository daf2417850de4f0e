/-
  Several texts in one: Qd, Fb, V6p, V6n.
-/
import Derived.Test.YtiaakhogigddbaaGreatDoorMg5
import Derived.Test.YtiaakhogigddbaaGreatDoorMg1
import Derived.Test.YtiaakhogigddbaaGreatDoorMg4
import Derived.Test.YtiaakhogigddbaaGreatDoorMg0
import Derived.Lib.Bytealg
namespace Go.Proofs.YtiaakhogigddbaaGreatDoor
open Go.RowKit
set_option maxRecDepth 8000 in
set_option maxHeartbeats 4000000 in
theorem deleteFI (f:Nat) (lb:Array Value) (l:List Nat) (p:Nat→Bool) (I:World→Prop) (A:Asks f lb l p I) (g cap:Nat) (w:World) (h:Vec w g (l.map numV)) (hc:l.length≤cap) (hl:l.length≤2000) (hw:I w)
  (hI:∀ W k u,I W→I (W.setCell ⟨g,k,none⟩ u)) :
  Calls Tryz.prog 42 #[.slice (some ⟨g,0,none⟩) l.length cap,.func (.func f) #[] lb] w fun e w' =>
   ∃ m,e=.returned (.slice (some ⟨g,0,none⟩) m cap)∧m=(l.filter fun x=>!p x).length∧Vec w' g ((l.filter fun x=>!p x).map numV)∧w.grownBy w' (some g):=by
 have IX:Hid (∀ W,Vec W g (l.map numV)→I W→Calls Tryz.prog 68 #[.slice (some ⟨g,0,none⟩) l.length cap,.func (.func f) #[] lb] W fun e w' =>
   ((e=.returned (.int .i64 (-1))∧∀ x ∈ l,p x=false)∨∃ m:Nat,e=.returned (.int .i64 m)∧m<l.length∧(∀ x,l[m]?=some x→p x=true)∧∀ j x,j<m→l[j]?=some x→p x=false)∧Ext W w'):=fun W hV hW=>indexFI f lb l p I A g cap W hV hc hl hW
 have ent:=A.ent;have HA:Hid (Asks f lb l p I):=A;have HI:Hid (∀ W k u,I W→I (W.setCell ⟨g,k,none⟩ u)):=hI;have HV:Hid (Vec w g (l.map numV)∧I w):=⟨h,hw⟩;have C0:=IX.out w h hw;obtain ⟨n,hn⟩:∃ n,l.length=n:=⟨_,rfl⟩;have HN:Hid (l.length=n):=hn;rw [hn] at hc hl C0 ⊢;clear h hw A hn hI IX;go_enter Tryz.func42,Tryz.ntmps42;go_wp2_with fail;refine C0.mono ?_;rintro e w1 ⟨⟨rfl,hall⟩ | ⟨m,rfl,hm,hpm,hbe⟩,e1⟩
 ·have e2:(l.filter fun x=>!p x)=l:=by
   rw [List.filter_eq_self];intro x hx;rw [hall x hx];rfl
  have HF:Hid ((l.filter fun x=>!p x)=l):=e2;have HVe:=HV.out.1.later e1;have HW:Hid (Vec w1 g (l.map numV)):=HVe;clear hall e2 HVe C0;go_wp2_with fail;go_ret;exact ⟨n,rfl,by rw [HF.out,HN.out],by rw [HF.out];exact HW.out,grown_ext (grown_refl w _) e1⟩
 ·have K0:Hid (Kept l p (m+1) m l∧Vec w1 g (l.map numV)∧I w1∧w.grownBy w1 (some g)):=⟨Kept.start (by rw [HN.out];exact hm) hpm hbe,HV.out.1.later e1,HA.out.later _ _ HV.out.2 e1,grown_ext (grown_refl w _) e1⟩;have hne1:((m:Int) == -1)=false:=beq_eq_false_iff_ne.2 (by omega);clear hpm hbe C0 HV e1;go_wp2_with fail;go_loopw [5,6] (fun s5 s6 wr=>∃ (i j:Nat) (M:List Nat),s5=.int .i64 i∧s6=.int .i64 j∧j≤n∧i<j∧Hid (Kept l p j i M∧Vec wr g (M.map numV)∧I wr∧w.grownBy wr (some g))) (fun _ s6 _=>n - (intOf s6).toNat)
  case atStart=>exact ⟨m,m+1,l,rfl,by go_num,by omega,by omega,K0⟩
  case round =>
   obtain ⟨i,j,M,rfl,rfl,hjn,hij,HO⟩:=hrel;by_cases hlt:j<n
   ·have i2:(j:Int)<(n:Int):=(by omega);obtain ⟨x,hx⟩:∃ x,l[j]?=some x:=⟨_,List.getElem?_eq_getElem (by rw [HN.out];exact hlt)⟩;have hMl:M.length=n:=HO.out.1.len.trans HN.out;have a0:=(HO.out.2.1 j (numV x) (by rw [List.getElem?_map,HO.out.1.rest j (Nat.le_refl _),hx];rfl)).1;have CA:=HA.out.says wr x HO.out.2.2.1 (List.mem_of_getElem? hx);have HX:Hid (l[j]?=some x):=hx;have HMl:Hid (M.length=n):=hMl;obtain ⟨q,hq⟩:∃ q,p x=q:=⟨_,rfl⟩;have HQ:Hid (p x=q):=hq;rw [hq] at CA;clear hx hq hMl K0;cases q
    ·obtain ⟨y,hy⟩:∃ y,M[i]?=some y:=⟨_,List.getElem?_eq_getElem (by rw [HMl.out];omega)⟩;have HY:Hid ((M.map numV)[i]?=some (numV y)):=(by show _=_;rw [List.getElem?_map,hy];rfl);have i3:(i:Int)<(n:Int):=(by omega);clear hy;go_wp2_with (go_at_fn f;refine CA.mono ?_;rintro e w2 ⟨rfl,e2⟩;obtain ⟨b0,f0⟩:=(HO.out.2.1.later e2) i _ HY.out);have V2:=HO.out.2.1.later e2;have HM:Hid (Kept l p (j+1) (i+1) (M.set i x)∧Vec (w2.setCell ⟨g,i,none⟩ (numV x)) g ((M.set i x).map numV)∧I (w2.setCell ⟨g,i,none⟩ (numV x))∧w.grownBy (w2.setCell ⟨g,i,none⟩ (numV x)) (some g)):=by
      refine ⟨HO.out.1.keep HX.out HQ.out,?_,HI.out _ _ _ (HA.out.later _ _ HO.out.2.2.1 e2),grown_set (grown_ext HO.out.2.2.2 e2) _⟩;rw [List.map_set];exact V2.put i (by rw [List.length_map,HMl.out];omega) _
     go_roundw
     case rel=>exact ⟨i+1,j+1,_,by go_num,by go_num,by omega,by omega,HM⟩
     case measure=>simp [intOf];omega
    ·go_wp2_with (go_at_fn f;refine CA.mono ?_;rintro e w2 ⟨rfl,e2⟩);have HM:Hid (Kept l p (j+1) i M∧Vec w2 g (M.map numV)∧I w2∧w.grownBy w2 (some g)):=⟨HO.out.1.skip HX.out HQ.out,HO.out.2.1.later e2,HA.out.later _ _ HO.out.2.2.1 e2,grown_ext HO.out.2.2.2 e2⟩;clear HO CA a0;go_roundw
     case rel=>exact ⟨i,j+1,M,rfl,by go_num,by omega,by omega,HM⟩
     case measure=>simp [intOf];omega
   ·obtain rfl:j=n:=(by omega);have i2:¬ (j:Int)<(j:Int):=(by omega);have HMl:M.length=j:=HO.out.1.len.trans HN.out;have hcl:∀ ty,(Builtin.clear_ #[31] ty #[.slice (some ⟨g,i,none⟩) (j - i) (cap - i)]).run Tryz.prog wr=.ok (.tuple #[]) (wr.setCells g i (List.replicate (j - i) (.int .i64 0))):=fun ty =>
     Lib.run_clear_slice wr _ _ ty _ Tryz.underlying31 (fun w=>Tryz.zeroValue3 w) rfl rfl g i _ _ (by omega)
      (fun t ht=>by rw [(HO.out.2.1 (i+t) _ (List.getElem?_eq_getElem (by rw [List.length_map,HMl];omega))).1];rfl)
      (fun t ht=>(HO.out.2.1 (i+t) _ (List.getElem?_eq_getElem (by rw [List.length_map,HMl];omega))).2)
    have HE:Hid (i=(l.filter fun x=>!p x).length∧Vec (wr.setCells g i (List.replicate (j - i) (.int .i64 0))) g ((l.filter fun x=>!p x).map numV)∧w.grownBy (wr.setCells g i (List.replicate (j - i) (.int .i64 0))) (some g)):=by
     have hnum:=HO.out.1.num;have hah:=HO.out.1.ahead;have htl0:l.take j=l:=List.take_of_length_le (by rw [HN.out];exact Nat.le_refl _);rw [htl0] at hnum hah;refine ⟨hnum.symm,setCells_vec _ _ _ (by rw [List.length_map,hnum];exact Nat.le_refl _) ?_,setCells_grown _ _ _ HO.out.2.2.2⟩;rw [← hah];intro t v ht;refine HO.out.2.1 t v ?_;have htl:=(List.getElem?_eq_some_iff.1 ht).1;rw [List.length_map,List.length_take] at htl;rw [List.getElem?_map,List.getElem?_take_of_lt (by omega)] at ht;rw [List.getElem?_map];exact ht
    have i5:(i:Int)≤(j:Int):=(by omega);have i6:(j:Int)≤(cap:Int):=(by omega);clear HO HMl K0;go_wp2_with fail;go_ret;exact ⟨i,rfl,HE.out.1,HE.out.2.1,HE.out.2.2⟩
set_option maxRecDepth 8000 in
set_option maxHeartbeats 1000000 in
theorem capsI (l:List UInt8) (w:World) (hl:l.length≤2000000) :
  Calls Tryz.prog 83 #[sV l] w fun e w'=>e=.returned (sV (l.map upC))∧Ext w w':=by
 obtain ⟨cap,wb,hcv,hcap,X0,V0⟩:=bytes_made l w;obtain ⟨n,hn⟩:∃ n,l.length=n:=⟨_,rfl⟩;rw [hn] at hcv hcap hl;have HN:Hid (l.length=n):=hn;have V0':Hid (Vec wb w.heap.size (encB (upK l 0))):=by show Vec _ _ _;rw [upK_zero];exact V0
 clear hn V0;go_enter Tryz.func83,Tryz.ntmps83;go_wp2_with fail;clear hcv;go_loopw [10] (fun i wr=>∃ k:Nat,k≤n∧i=.int .i64 k∧Hid (Vec wr w.heap.size (encB (upK l k)))∧Ext w wr) (fun i _=>n - (intOf i).toNat)
 case atStart=>exact ⟨0,by omega,rfl,V0',X0⟩
 case round =>
  obtain ⟨k,hk,rfl,V,X⟩:=hrel;by_cases hlt:k<n
  ·obtain ⟨c,hc⟩:∃ c,l[k]?=some c:=⟨_,List.getElem?_eq_getElem (by rw [HN.out];exact hlt)⟩;obtain ⟨a0,f0⟩:=V.out k _ (encB_at (upK_at hc));have i1:(0:Int)≤(k:Int):=by omega
   have i2:(k:Int)<(n:Int):=by omega
   have hz:c.toNat<256:=UInt8.toNat_lt c;have VP:=V.out.put k (by rw [encB_length,upK_length,HN.out];exact hlt) (.int .u8 ((upC c).toNat:Int));have es:(encB (upK l k)).set k (.int .u8 ((upC c).toNat:Int))=encB (upK l (k+1)):=by rw [upK_succ hc];simp [encB,List.map_set]
   rw [es] at VP;by_cases hs:97≤c.toNat∧c.toNat≤122
   ·have eu:=upC_small hs;rw [eu] at VP;have HV:Hid (Vec (wr.setCell ⟨w.heap.size,k,none⟩ (.int .u8 ((c.toNat:Int) - 32))) w.heap.size (encB (upK l (k+1)))):=VP;obtain ⟨z,ez⟩:∃ z:Int,(c.toNat:Int)=z:=⟨_,rfl⟩;rw [ez] at a0 HV;have z1:97≤z:=(by omega);have z2:z≤122:=(by omega);clear V VP es eu hc hs ez hz;go_wp2_with fail;go_roundw
    case rel=>exact ⟨k+1,by omega,by go_num,by first | exact HV | (show Vec _ _ _;have:=HV.out;rw [show z - 97+65=z - 32 by omega];exact this),xset X (Nat.le_refl _) _⟩
    case measure=>simp [intOf];omega
   ·have eu:=upC_other hs;have HV:Hid (Vec wr w.heap.size (encB (upK l (k+1)))):=by
     show Vec _ _ _;have:upK l (k+1)=upK l k:=by
      rw [upK_succ hc,eu];exact List.ext_getElem? fun i=>by
       rw [List.getElem?_set]
       split
       ·next e=>subst e;rw [if_pos (by rw [upK_length,HN.out];exact hlt)];exact (upK_at hc).symm
       ·rfl
     rw [this];exact V.out
    obtain ⟨z,ez⟩:∃ z:Int,(c.toNat:Int)=z:=⟨_,rfl⟩;rw [ez] at a0;have z3:0≤z∧z≤255:=(by omega);have z4:z<97∨122<z:=(by omega);clear V VP es eu hc hs ez hz
    rcases z4 with z4 | z4
    ·go_wp2_with fail;go_roundw
     case rel=>exact ⟨k+1,by omega,by go_num,HV,X⟩
     case measure=>simp [intOf];omega
    ·have z5:97≤z:=(by omega);go_wp2_with fail;go_roundw
     case rel=>exact ⟨k+1,by omega,by go_num,HV,X⟩
     case measure=>simp [intOf];omega
  ·obtain rfl:k=n:=by omega
   have hb:=bytes_back (l.map upC) w.heap.size cap wr (by have:=V.out;rw [← HN.out,upK_all] at this;exact this);rw [List.length_map,HN.out] at hb;go_wp2_with fail;go_ret;exact ⟨rfl,X⟩
set_option maxRecDepth 8000 in
set_option maxHeartbeats 1000000 in
theorem capsS (l:List UInt8) (w:World) (hl:l.length≤2000000) :
  Calls Tryz.prog 76 #[sV l] w fun e w'=>e=.returned (sV (l.map upC))∧Ext w w':=by
 obtain ⟨cap,wb,hcv,hcap,X0,V0⟩:=bytes_made l w;obtain ⟨n,hn⟩:∃ n,l.length=n:=⟨_,rfl⟩;rw [hn] at hcv hcap hl;have HN:Hid (l.length=n):=hn;have V0':Hid (Vec wb w.heap.size (encB (upK l 0))):=by show Vec _ _ _;rw [upK_zero];exact V0
 clear hn V0;go_enter Tryz.func76,Tryz.ntmps76;go_wp2_with fail;clear hcv;go_loopw [10] (fun i wr=>∃ k:Nat,k≤n∧i=.int .i64 k∧Hid (Vec wr w.heap.size (encB (upK l k)))∧Ext w wr) (fun i _=>n - (intOf i).toNat)
 case atStart=>exact ⟨0,by omega,rfl,V0',X0⟩
 case round =>
  obtain ⟨k,hk,rfl,V,X⟩:=hrel;by_cases hlt:k<n
  ·obtain ⟨c,hc⟩:∃ c,l[k]?=some c:=⟨_,List.getElem?_eq_getElem (by rw [HN.out];exact hlt)⟩;obtain ⟨a0,f0⟩:=V.out k _ (encB_at (upK_at hc));have i1:(0:Int)≤(k:Int):=by omega
   have i2:(k:Int)<(n:Int):=by omega
   have hz:c.toNat<256:=UInt8.toNat_lt c;have VP:=V.out.put k (by rw [encB_length,upK_length,HN.out];exact hlt) (.int .u8 ((upC c).toNat:Int));have es:(encB (upK l k)).set k (.int .u8 ((upC c).toNat:Int))=encB (upK l (k+1)):=by rw [upK_succ hc];simp [encB,List.map_set]
   rw [es] at VP;by_cases hs:97≤c.toNat∧c.toNat≤122
   ·have eu:=upC_small hs;rw [eu] at VP;have HV:Hid (Vec (wr.setCell ⟨w.heap.size,k,none⟩ (.int .u8 ((c.toNat:Int) - 32))) w.heap.size (encB (upK l (k+1)))):=VP;obtain ⟨z,ez⟩:∃ z:Int,(c.toNat:Int)=z:=⟨_,rfl⟩;rw [ez] at a0 HV;have z1:97≤z:=(by omega);have z2:z≤122:=(by omega);clear V VP es eu hc hs ez hz;go_wp2_with fail;go_roundw
    case rel=>exact ⟨k+1,by omega,by go_num,HV,xset X (Nat.le_refl _) _⟩
    case measure=>simp [intOf];omega
   ·have eu:=upC_other hs;have HV:Hid (Vec wr w.heap.size (encB (upK l (k+1)))):=by
     show Vec _ _ _;have:upK l (k+1)=upK l k:=by
      rw [upK_succ hc,eu];exact List.ext_getElem? fun i=>by
       rw [List.getElem?_set]
       split
       ·next e=>subst e;rw [if_pos (by rw [upK_length,HN.out];exact hlt)];exact (upK_at hc).symm
       ·rfl
     rw [this];exact V.out
    obtain ⟨z,ez⟩:∃ z:Int,(c.toNat:Int)=z:=⟨_,rfl⟩;rw [ez] at a0;have z3:0≤z∧z≤255:=(by omega);have z4:z<97∨122<z:=(by omega);clear V VP es eu hc hs ez hz
    rcases z4 with z4 | z4
    ·go_wp2_with fail;go_roundw
     case rel=>exact ⟨k+1,by omega,by go_num,HV,X⟩
     case measure=>simp [intOf];omega
    ·have z5:97≤z:=(by omega);go_wp2_with fail;go_roundw
     case rel=>exact ⟨k+1,by omega,by go_num,HV,X⟩
     case measure=>simp [intOf];omega
  ·obtain rfl:k=n:=by omega
   have hb:=bytes_back (l.map upC) w.heap.size cap wr (by have:=V.out;rw [← HN.out,upK_all] at this;exact this);rw [List.length_map,HN.out] at hb;go_wp2_with fail;go_ret;exact ⟨rfl,X⟩
set_option maxRecDepth 8000 in
set_option maxHeartbeats 2000000 in
theorem numE (w:World) (hT:Tens w) (hE:ErrTab w) :
  Calls Tryz.prog 110 #[valV 0 false 0 0 []] w fun e w'=>e=.returned (valV 1 false 0 0 [])∧Ext w w':=by
 obtain ⟨R,hR⟩:∃ R,valV 1 false 0 0 []=R:=⟨_,rfl⟩;have HR:Hid (valV 1 false 0 0 []=R):=hR;rw [hR];clear hR;obtain ⟨wa,wb,ha,hb,sa,_,B1,B2,X⟩:=mkB2 w [.int .i64 0,.bool false,.int .i64 0,.int .i64 0,sV []] [.int .i64 0,.bool false,.int .i64 0,.int .i64 0,sV []] 39 39;obtain ⟨a0,a1,a2,a3,a4⟩:=Vec.five B1;go_enter Tryz.func110,Tryz.ntmps110;go_wp2_with fail;clear ha hb sa a0 a1 a2 a3 a4;refine (goodVI 0 false 0 0 [] wb (by decide) (by decide) (by decide) (hT.later X) (hE.later X)).mono ?_;rintro e w1 ⟨rfl,e1⟩;rw [show goodV 0 false 0 0 []=true by decide];have C1:=B1.later e1;have C2:=B2.later e1;have X1:=xt X e1;obtain ⟨a0,a1,a2,a3,a4⟩:=Vec.five C1;go_wp2_with fail;clear a0 a1 a2 a3 a4;refine (numVI false 0 0 _).mono ?_;rintro e w2 ⟨rfl,e2⟩;obtain ⟨wy,hy,FX,⟨b0,b1,b2,b3,b4⟩,⟨fb0,fb1,fb2,fb3,fb4⟩,fd0,fd1,fd2,fd3,fd4⟩:=fin5 (C2.later e2) (xt X1 e2) (by omega) (1) (false) (0) (0) ([]);go_wp2_with fail;exact bodyPost_ret (v:=valV 1 false 0 0 []) (by simp [results,Tryz.results110,go_sem,fd0,fd1,fd2,fd3,fd4]) rfl ⟨congrArg Ending.returned HR.out,FX⟩
set_option maxRecDepth 8000 in
set_option maxHeartbeats 2000000 in
theorem textE (w:World) (hT:Tens w) (hE:ErrTab w) :
  Calls Tryz.prog 111 #[valV 0 false 0 0 []] w fun e w'=>e=.returned (valV 2 false 0 0 [])∧Ext w w':=by
 obtain ⟨R,hR⟩:∃ R,valV 2 false 0 0 []=R:=⟨_,rfl⟩;have HR:Hid (valV 2 false 0 0 []=R):=hR;rw [hR];clear hR;obtain ⟨wa,wb,ha,hb,sa,_,B1,B2,X⟩:=mkB2 w [.int .i64 0,.bool false,.int .i64 0,.int .i64 0,sV []] [.int .i64 0,.bool false,.int .i64 0,.int .i64 0,sV []] 39 39;obtain ⟨a0,a1,a2,a3,a4⟩:=Vec.five B1;go_enter Tryz.func111,Tryz.ntmps111;go_wp2_with fail;clear ha hb sa a0 a1 a2 a3 a4;refine (goodVI 0 false 0 0 [] wb (by decide) (by decide) (by decide) (hT.later X) (hE.later X)).mono ?_;rintro e w1 ⟨rfl,e1⟩;rw [show goodV 0 false 0 0 []=true by decide];have C1:=B1.later e1;have C2:=B2.later e1;have X1:=xt X e1;obtain ⟨a0,a1,a2,a3,a4⟩:=Vec.five C1;go_wp2_with fail;clear a0 a1 a2 a3 a4;refine (textVI [] _).mono ?_;rintro e w2 ⟨rfl,e2⟩;obtain ⟨wy,hy,FX,⟨b0,b1,b2,b3,b4⟩,⟨fb0,fb1,fb2,fb3,fb4⟩,fd0,fd1,fd2,fd3,fd4⟩:=fin5 (C2.later e2) (xt X1 e2) (by omega) (2) (false) (0) (0) ([]);go_wp2_with fail;exact bodyPost_ret (v:=valV 2 false 0 0 []) (by simp [results,Tryz.results111,go_sem,fd0,fd1,fd2,fd3,fd4]) rfl ⟨congrArg Ending.returned HR.out,FX⟩
set_option maxRecDepth 8000 in
set_option maxHeartbeats 2000000 in
theorem boolE (w:World) (hT:Tens w) (hE:ErrTab w) :
  Calls Tryz.prog 112 #[valV 0 false 0 0 []] w fun e w'=>e=.returned (valV 3 false 0 0 falseT)∧Ext w w':=by
 obtain ⟨R,hR⟩:∃ R,valV 3 false 0 0 falseT=R:=⟨_,rfl⟩;have HR:Hid (valV 3 false 0 0 falseT=R):=hR;rw [hR];clear hR;obtain ⟨wa,wb,ha,hb,sa,_,B1,B2,X⟩:=mkB2 w [.int .i64 0,.bool false,.int .i64 0,.int .i64 0,sV []] [.int .i64 0,.bool false,.int .i64 0,.int .i64 0,sV []] 39 39;obtain ⟨a0,a1,a2,a3,a4⟩:=Vec.five B1;go_enter Tryz.func112,Tryz.ntmps112;go_wp2_with fail;clear ha hb sa a0 a1 a2 a3 a4;refine (goodVI 0 false 0 0 [] wb (by decide) (by decide) (by decide) (hT.later X) (hE.later X)).mono ?_;rintro e w1 ⟨rfl,e1⟩;rw [show goodV 0 false 0 0 []=true by decide];have C1:=B1.later e1;have C2:=B2.later e1;have X1:=xt X e1;obtain ⟨a0,a1,a2,a3,a4⟩:=Vec.five C1;go_wp2_with fail;clear a0 a1 a2 a3 a4;refine (boolVI false _).mono ?_;rintro e w2 ⟨rfl,e2⟩;obtain ⟨wy,hy,FX,⟨b0,b1,b2,b3,b4⟩,⟨fb0,fb1,fb2,fb3,fb4⟩,fd0,fd1,fd2,fd3,fd4⟩:=fin5 (C2.later e2) (xt X1 e2) (by omega) (3) (false) (0) (0) (falseT);go_wp2_with fail;exact bodyPost_ret (v:=valV 3 false 0 0 falseT) (by simp [results,Tryz.results112,go_sem,fd0,fd1,fd2,fd3,fd4]) rfl ⟨congrArg Ending.returned HR.out,FX⟩
def besideV (k:Int) (n:Bool) (d x:Int) (t:List UInt8) (k':Int):Value:=
 if k ≠ 0 then valV k n d x t else if k'=1 then valV 1 false 0 0 [] else if k'=2 then valV 2 false 0 0 [] else if k'=3 then valV 3 false 0 0 falseT else valV k n d x t
set_option maxHeartbeats 1000000 in
theorem isErrI (k:Int) (n:Bool) (d x:Int) (t:List UInt8) (w:World) :
  Calls Tryz.prog 46 #[valV k n d x t] w fun e w'=>e=.returned (.bool (decide (k=4)))∧Ext w w':=by
 have X:=x1 w (.cells #[.int .i64 k,.bool n,.int .i64 d,.int .i64 x,sV t] 39);by_cases h:k=4
 ·subst h;go_enter Tryz.func46,Tryz.ntmps46;go_wp2_with fail;go_ret;exact ⟨rfl,X⟩
 ·rw [show decide (k=4)=false by simpa using h];have hb:(k == 4)=false:=by simpa using h
  go_enter Tryz.func46,Tryz.ntmps46;go_wp2_with fail;go_ret;exact ⟨rfl,X⟩
set_option maxRecDepth 8000 in
set_option maxHeartbeats 2000000 in
theorem besideI (k:Int) (n:Bool) (d x:Int) (t:List UInt8) (k':Int) (n':Bool) (d' x':Int) (t':List UInt8) (w:World) (hT:Tens w) (hE:ErrTab w) (hg:goodV k n d x t=true) :
  Calls Tryz.prog 78 #[valV k n d x t,valV k' n' d' x' t'] w fun e w'=>e=.returned (besideV k n d x t k')∧Ext w w':=by
 obtain ⟨R,hR⟩:∃ R,besideV k n d x t k'=R:=⟨_,rfl⟩;have HR0:Hid (besideV k n d x t k'=R):=hR;rw [hR];clear hR;have X1:=x1 w (.cells #[.int .i64 k,.bool n,.int .i64 d,.int .i64 x,sV t] 39);have B1:=vec_made w (valL k n d x t) 39;obtain ⟨wa,ha⟩:∃ wa,w.alloc (.cells #[.int .i64 k,.bool n,.int .i64 d,.int .i64 x,sV t] 39)=wa:=⟨_,rfl⟩;have X2:=x1 wa (.cells #[.int .i64 k',.bool n',.int .i64 d',.int .i64 x',sV t'] 39);have B2:=vec_made wa (valL k' n' d' x' t') 39;obtain ⟨wb,hb⟩:∃ wb,wa.alloc (.cells #[.int .i64 k',.bool n',.int .i64 d',.int .i64 x',sV t'] 39)=wb:=⟨_,rfl⟩;have sa:wa.heap.size=w.heap.size+1:=by rw [← ha,World.size_alloc]
 have sb:wb.heap.size=w.heap.size+1+1:=by rw [← hb,World.size_alloc,sa]
 change Vec (w.alloc (.cells #[.int .i64 k,.bool n,.int .i64 d,.int .i64 x,sV t] 39)) _ _ at B1;change Vec (wa.alloc (.cells #[.int .i64 k',.bool n',.int .i64 d',.int .i64 x',sV t'] 39)) _ _ at B2;rw [ha] at X1 B1;rw [hb] at X2 B2;rw [sa] at B2;have B1:=B1.later X2;have X:=xt X1 X2;have X3:=x1 wb (.cells #[.int .i64 0,.bool false,.int .i64 0,.int .i64 0,sV []] 39);have B3:=vec_made wb (valL 0 false 0 0 []) 39;obtain ⟨wc,hc⟩:∃ wc,wb.alloc (.cells #[.int .i64 0,.bool false,.int .i64 0,.int .i64 0,sV []] 39)=wc:=⟨_,rfl⟩;change Vec (wb.alloc (.cells #[.int .i64 0,.bool false,.int .i64 0,.int .i64 0,sV []] 39)) _ _ at B3;rw [hc] at X3 B3;rw [sb] at B3;have B1:=B1.later X3;have B2:=B2.later X3;have X:=xt X X3;clear X1 X2 X3;obtain ⟨a0,a1,a2,a3,a4⟩:=Vec.five B1;obtain ⟨c0,c1,c2,c3,c4⟩:=Vec.five B2;go_enter Tryz.func78,Tryz.ntmps78;by_cases h0:k=0
 ·subst h0;obtain ⟨rfl,rfl,rfl⟩:=goodV_zero hg (by decide);obtain rfl:=goodV_empty hg;have T1:=hT.later X;have E1:=hE.later X;clear hg hT hE;by_cases h1:k'=1
  ·subst h1;have HR:Hid (valV 1 false 0 0 []=R):=by show _=_;rw [← HR0.out];simp [besideV]
   go_wp2_with fail;clear ha hb hc sa sb a0 a1 a2 a3 a4 c0 c1 c2 c3 c4;refine (numE wc T1 E1).mono ?_;rintro e w2 ⟨rfl,e2⟩;obtain ⟨wy,hy,FX,⟨b0,b1,b2,b3,b4⟩,⟨fb0,fb1,fb2,fb3,fb4⟩,fd0,fd1,fd2,fd3,fd4⟩:=fin5 (B3.later e2) (xt X e2) (by omega) (1) (false) (0) (0) ([]);go_wp2_with fail;exact bodyPost_ret (v:=valV 1 false 0 0 []) (by simp [results,Tryz.results78,go_sem,fd0,fd1,fd2,fd3,fd4]) rfl ⟨congrArg Ending.returned HR.out,FX⟩
  ·by_cases h2:k'=2
   ·subst h2;have HR:Hid (valV 2 false 0 0 []=R):=(by show _=_;rw [← HR0.out];simp [besideV]);go_wp2_with fail;clear ha hb hc sa sb a0 a1 a2 a3 a4 c0 c1 c2 c3 c4;refine (textE wc T1 E1).mono ?_;rintro e w2 ⟨rfl,e2⟩;obtain ⟨wy,hy,FX,⟨b0,b1,b2,b3,b4⟩,⟨fb0,fb1,fb2,fb3,fb4⟩,fd0,fd1,fd2,fd3,fd4⟩:=fin5 (B3.later e2) (xt X e2) (by omega) (2) (false) (0) (0) ([]);go_wp2_with fail;exact bodyPost_ret (v:=valV 2 false 0 0 []) (by simp [results,Tryz.results78,go_sem,fd0,fd1,fd2,fd3,fd4]) rfl ⟨congrArg Ending.returned HR.out,FX⟩
   ·by_cases h3:k'=3
    ·subst h3;have HR:Hid (valV 3 false 0 0 falseT=R):=(by show _=_;rw [← HR0.out];simp [besideV]);go_wp2_with fail;clear ha hb hc sa sb a0 a1 a2 a3 a4 c0 c1 c2 c3 c4;refine (boolE wc T1 E1).mono ?_;rintro e w2 ⟨rfl,e2⟩;obtain ⟨wy,hy,FX,⟨b0,b1,b2,b3,b4⟩,⟨fb0,fb1,fb2,fb3,fb4⟩,fd0,fd1,fd2,fd3,fd4⟩:=fin5 (B3.later e2) (xt X e2) (by omega) (3) (false) (0) (0) (falseT);go_wp2_with fail;exact bodyPost_ret (v:=valV 3 false 0 0 falseT) (by simp [results,Tryz.results78,go_sem,fd0,fd1,fd2,fd3,fd4]) rfl ⟨congrArg Ending.returned HR.out,FX⟩
    ·have HR:Hid (valV 0 false 0 0 []=R):=(by show _=_;rw [← HR0.out];simp [besideV,h1,h2,h3]);obtain ⟨wy,hy,FX,⟨b0,b1,b2,b3,b4⟩,⟨fb0,fb1,fb2,fb3,fb4⟩,fd0,fd1,fd2,fd3,fd4⟩:=fin5 (B3) (X) (by omega) (0) (false) (0) (0) ([]);go_wp2_with fail;exact bodyPost_ret (v:=valV 0 false 0 0 []) (by simp [results,Tryz.results78,go_sem,fd0,fd1,fd2,fd3,fd4]) rfl ⟨congrArg Ending.returned HR.out,FX⟩
 ·have HR:Hid (valV k n d x t=R):=by show _=_;rw [← HR0.out];simp [besideV,h0]
  obtain ⟨wy,hy,FX,⟨b0,b1,b2,b3,b4⟩,⟨fb0,fb1,fb2,fb3,fb4⟩,fd0,fd1,fd2,fd3,fd4⟩:=fin5 (B3) (X) (by omega) (k) (n) (d) (x) (t);go_wp2_with fail;exact bodyPost_ret (v:=valV k n d x t) (by simp [results,Tryz.results78,go_sem,fd0,fd1,fd2,fd3,fd4]) rfl ⟨congrArg Ending.returned HR.out,FX⟩
set_option maxRecDepth 8000 in
set_option maxHeartbeats 2000000 in
theorem likeS (k:Int) (n:Bool) (d x:Int) (t:List UInt8) (k':Int) (n':Bool) (d' x':Int) (t':List UInt8) (w:World)  :
  Calls Tryz.prog 73 #[valV k n d x t,valV k' n' d' x' t'] w fun e w'=>e=.returned (besideV k n d x t k')∧Ext w w':=by
 obtain ⟨R,hR⟩:∃ R,besideV k n d x t k'=R:=⟨_,rfl⟩;have HR0:Hid (besideV k n d x t k'=R):=hR;rw [hR];clear hR;have X1:=x1 w (.cells #[.int .i64 k,.bool n,.int .i64 d,.int .i64 x,sV t] 39);have B1:=vec_made w (valL k n d x t) 39;obtain ⟨wa,ha⟩:∃ wa,w.alloc (.cells #[.int .i64 k,.bool n,.int .i64 d,.int .i64 x,sV t] 39)=wa:=⟨_,rfl⟩;have X2:=x1 wa (.cells #[.int .i64 k',.bool n',.int .i64 d',.int .i64 x',sV t'] 39);have B2:=vec_made wa (valL k' n' d' x' t') 39;obtain ⟨wb,hb⟩:∃ wb,wa.alloc (.cells #[.int .i64 k',.bool n',.int .i64 d',.int .i64 x',sV t'] 39)=wb:=⟨_,rfl⟩;have sa:wa.heap.size=w.heap.size+1:=by rw [← ha,World.size_alloc]
 have sb:wb.heap.size=w.heap.size+1+1:=by rw [← hb,World.size_alloc,sa]
 change Vec (w.alloc (.cells #[.int .i64 k,.bool n,.int .i64 d,.int .i64 x,sV t] 39)) _ _ at B1;change Vec (wa.alloc (.cells #[.int .i64 k',.bool n',.int .i64 d',.int .i64 x',sV t'] 39)) _ _ at B2;rw [ha] at X1 B1;rw [hb] at X2 B2;rw [sa] at B2;have B1:=B1.later X2;have X:=xt X1 X2;have X3:=x1 wb (.cells #[.int .i64 0,.bool false,.int .i64 0,.int .i64 0,sV []] 39);have B3:=vec_made wb (valL 0 false 0 0 []) 39;obtain ⟨wc,hc⟩:∃ wc,wb.alloc (.cells #[.int .i64 0,.bool false,.int .i64 0,.int .i64 0,sV []] 39)=wc:=⟨_,rfl⟩;change Vec (wb.alloc (.cells #[.int .i64 0,.bool false,.int .i64 0,.int .i64 0,sV []] 39)) _ _ at B3;rw [hc] at X3 B3;rw [sb] at B3;have B1:=B1.later X3;have B2:=B2.later X3;have X:=xt X X3;clear X1 X2 X3;obtain ⟨a0,a1,a2,a3,a4⟩:=Vec.five B1;obtain ⟨c0,c1,c2,c3,c4⟩:=Vec.five B2;go_enter Tryz.func73,Tryz.ntmps73;by_cases h0:k=0
 ·subst h0;by_cases h1:k'=1
  ·subst h1;have HR:Hid (valV 1 false 0 0 []=R):=by show _=_;rw [← HR0.out];simp [besideV]
   go_wp2_with fail;clear ha hb hc sa sb a0 a1 a2 a3 a4 c0 c1 c2 c3 c4;refine (numVS false 0 0 wc).mono ?_;rintro e w2 ⟨rfl,e2⟩;obtain ⟨wy,hy,FX,⟨b0,b1,b2,b3,b4⟩,⟨fb0,fb1,fb2,fb3,fb4⟩,fd0,fd1,fd2,fd3,fd4⟩:=fin5 (B3.later e2) (xt X e2) (by omega) (1) (false) (0) (0) ([]);go_wp2_with fail;exact bodyPost_ret (v:=valV 1 false 0 0 []) (by simp [results,Tryz.results73,go_sem,fd0,fd1,fd2,fd3,fd4]) rfl ⟨congrArg Ending.returned HR.out,FX⟩
  ·by_cases h2:k'=2
   ·subst h2;have HR:Hid (valV 2 false 0 0 []=R):=(by show _=_;rw [← HR0.out];simp [besideV]);go_wp2_with fail;clear ha hb hc sa sb a0 a1 a2 a3 a4 c0 c1 c2 c3 c4;refine (textVS [] wc).mono ?_;rintro e w2 ⟨rfl,e2⟩;obtain ⟨wy,hy,FX,⟨b0,b1,b2,b3,b4⟩,⟨fb0,fb1,fb2,fb3,fb4⟩,fd0,fd1,fd2,fd3,fd4⟩:=fin5 (B3.later e2) (xt X e2) (by omega) (2) (false) (0) (0) ([]);go_wp2_with fail;exact bodyPost_ret (v:=valV 2 false 0 0 []) (by simp [results,Tryz.results73,go_sem,fd0,fd1,fd2,fd3,fd4]) rfl ⟨congrArg Ending.returned HR.out,FX⟩
   ·by_cases h3:k'=3
    ·subst h3;have HR:Hid (valV 3 false 0 0 falseT=R):=(by show _=_;rw [← HR0.out];simp [besideV]);go_wp2_with fail;clear ha hb hc sa sb a0 a1 a2 a3 a4 c0 c1 c2 c3 c4;refine (boolVS false wc).mono ?_;rintro e w2 ⟨rfl,e2⟩;obtain ⟨wy,hy,FX,⟨b0,b1,b2,b3,b4⟩,⟨fb0,fb1,fb2,fb3,fb4⟩,fd0,fd1,fd2,fd3,fd4⟩:=fin5 (B3.later e2) (xt X e2) (by omega) (3) (false) (0) (0) (falseT);go_wp2_with fail;exact bodyPost_ret (v:=valV 3 false 0 0 falseT) (by simp [results,Tryz.results73,go_sem,fd0,fd1,fd2,fd3,fd4]) rfl ⟨congrArg Ending.returned HR.out,FX⟩
    ·have HR:Hid (valV 0 n d x t=R):=(by show _=_;rw [← HR0.out];simp [besideV,h1,h2,h3]);obtain ⟨wy,hy,FX,⟨b0,b1,b2,b3,b4⟩,⟨fb0,fb1,fb2,fb3,fb4⟩,fd0,fd1,fd2,fd3,fd4⟩:=fin5 (B3) (X) (by omega) (0) (n) (d) (x) (t);go_wp2_with fail;exact bodyPost_ret (v:=valV 0 n d x t) (by simp [results,Tryz.results73,go_sem,fd0,fd1,fd2,fd3,fd4]) rfl ⟨congrArg Ending.returned HR.out,FX⟩
 ·have HR:Hid (valV k n d x t=R):=by show _=_;rw [← HR0.out];simp [besideV,h0]
  obtain ⟨wy,hy,FX,⟨b0,b1,b2,b3,b4⟩,⟨fb0,fb1,fb2,fb3,fb4⟩,fd0,fd1,fd2,fd3,fd4⟩:=fin5 (B3) (X) (by omega) (k) (n) (d) (x) (t);go_wp2_with fail;exact bodyPost_ret (v:=valV k n d x t) (by simp [results,Tryz.results73,go_sem,fd0,fd1,fd2,fd3,fd4]) rfl ⟨congrArg Ending.returned HR.out,FX⟩
theorem cmp_three:∀ a b:List UInt8,Lib.compareBytes a b = -1∨Lib.compareBytes a b=0∨Lib.compareBytes a b=1
 | [],[]=>Or.inr (Or.inl rfl)
 | [],_ :: _=>Or.inl rfl
 | _ :: _,[]=>Or.inr (Or.inr rfl)
 | a :: x,b :: y=>by
  unfold Lib.compareBytes
  split
  ·exact Or.inl rfl
  ·split
   ·exact Or.inr (Or.inr rfl)
   ·exact cmp_three x y
theorem cmp_less:∀ a b:List UInt8,Op.bytesLess a b=decide (Lib.compareBytes a b = -1)
 | [],[]=>rfl
 | [],_ :: _=>rfl
 | _ :: _,[]=>rfl
 | a :: x,b :: y=>by
  unfold Lib.compareBytes Op.bytesLess;have ih:=cmp_less x y;by_cases h:a<b
  ·simp [h]
  ·by_cases h2:b<a
   ·have:¬ a=b:=fun e=>(by subst e;exact absurd h2 (UInt8.lt_irrefl a));simp [h,h2,this]
   ·have e:a=b:=UInt8.le_antisymm (UInt8.not_lt.1 h2) (UInt8.not_lt.1 h);subst e;simp [UInt8.lt_irrefl,ih]
theorem cmp_same:∀ a b:List UInt8,(a == b)=decide (Lib.compareBytes a b=0)
 | [],[]=>rfl
 | [],_ :: _=>rfl
 | _ :: _,[]=>rfl
 | a :: x,b :: y=>by
  unfold Lib.compareBytes;have ih:=cmp_same x y;by_cases h:a<b
  ·have:¬ a=b:=fun e=>by subst e;exact absurd h (UInt8.lt_irrefl a)
   simp [h,this]
  ·by_cases h2:b<a
   ·have:¬ a=b:=fun e=>(by subst e;exact absurd h2 (UInt8.lt_irrefl a));simp [h,h2,this]
   ·have e:a=b:=UInt8.le_antisymm (UInt8.not_lt.1 h2) (UInt8.not_lt.1 h);subst e;rw [if_neg (UInt8.lt_irrefl a),if_neg (UInt8.lt_irrefl a),← ih];simp
end Go.Proofs.YtiaakhogigddbaaGreatDoor

