/-
  Several texts in one: FrameY, CurE, V6a, V6b, V6c, V6d, Num, Zval.
-/
import Derived.Test.YtnphbpmdohidcaaDoorMg1
import Derived.ChangeSlices
import Derived.Test.YtnphbpmdohidcaaDoorMg0
import Derived.Deep.RegionWith
namespace Go.Proofs.YtnphbpmdohidcaaDoor
open Go.ChangeShapes Go.WideShapes Go.ChangeAt Go.RowKit
theorem open_code {H:Type} {enc:TypeId × Value→H} {P:Program} {t e:TypeId} (ht:P.underlying t=some (.slice e)) (he:P.underlying e=some (.int .u8)) (hc:P.cellsOf e=1) {W:World} {base:Nat} {v:Value} {d:DataW H} {p:List MemPlace}
  (hv:Value.okWide P W .any base t v) (h:DataW.Trod enc P W 0 (fun _=>true) true t v d p):∃ n,CodeIn W W.heap.size v n:=by
 obtain ⟨a0,len,cap,rfl⟩:=okWide_slice ht hv;obtain ⟨fuel,hf⟩:=h
 rcases open_ints ht he hc hf with ⟨hcs,hx⟩ | ⟨a,len',cap',zs,hcs,_,hl,hm,hz,hx,hcell,hwz⟩
 ·simp [Value.cells] at hcs;obtain ⟨rfl,rfl,rfl⟩:=hcs;exact ⟨0,.inl ⟨⟨_,_,rfl⟩,rfl⟩⟩
 ·simp [Value.cells] at hcs;obtain ⟨rfl,rfl,rfl⟩:=hcs;simp only [if_true] at hz;by_cases h0:len=0
  ·subst h0;exact ⟨0,.inl ⟨⟨_,_,rfl⟩,rfl⟩⟩
  ·obtain ⟨pb,po,sp⟩:=a;have hc0:=hcell 0 (by omega);have hsp:sp=none:=by simpa [Addr.add] using World.cell?_spot hc0
   subst hsp;have hlt:pb<W.heap.size:=by
    have:=World.block_lt_of_cell? _ _ hc0;simpa [Addr.add] using this
   refine ⟨len,.inr ⟨pb,po,cap,hlt,rfl,hl,fun i hi=>?_⟩⟩;have hci:=hcell i (by omega);have hi':i<zs.length:=by omega
   have hmem:zs.getD i 0 ∈ zs:=by
    rw [List.getD,List.getElem?_eq_getElem hi',Option.getD_some];exact List.getElem_mem hi'
   have hw:=hwz _ hmem;have b1:IntKind.u8.min=0:=rfl;have b2:IntKind.u8.max=255:=rfl;simp only [Lit.wf,Bool.and_eq_true,decide_eq_true_eq] at hw;refine ⟨zs.getD i 0,by omega,by omega,?_⟩;rw [← hci];unfold Addr.add
   split
   ·next e=>subst e;rfl
   ·rfl
end Go.Proofs.YtnphbpmdohidcaaDoor

namespace Go.Proofs.YtnphbpmdohidcaaDoor
open Go.RowKit
theorem Only.setNew {b g i:Nat} {w w':World} (h:Only b w w') (hg:w.heap.size≤g) (u:Value):Only b w (w'.setCell ⟨g,i,none⟩ u):=by
 refine ⟨h.os,h.tape,h.output,?_,fun k hk hl=>?_⟩
 ·have:=h.size;simpa [World.setCell] using this
 ·rw [Below.heap_setCell _ _ _ _ (by show k ≠ g;omega)];exact h.block k hk hl
theorem addr_offc {b g i j:Nat} (h:b ≠ g):(⟨g,i,none⟩:Addr) ≠ ⟨b,j,none⟩:=fun e=>h (by cases e;rfl)
theorem Box3.farc {w:World} {b g i:Nat} {v0 v1 v2:Value} (h:Box3 w b v0 v1 v2) (hb:b ≠ g) (u:Value):Box3 (w.setCell ⟨g,i,none⟩ u) b v0 v1 v2:=by
 obtain ⟨⟨q0,q1,q2⟩,f0,f1,f2⟩:=h;refine ⟨⟨?_,?_,?_⟩,?_,?_,?_⟩
 ·rw [World.cell?_setCell_other _ _ _ _ (addr_offc hb)];exact q0
 ·rw [World.cell?_setCell_other _ _ _ _ (addr_offc hb)];exact q1
 ·rw [World.cell?_setCell_other _ _ _ _ (addr_offc hb)];exact q2
 ·simp [World.frozen?_setCell,f0]
 ·simp [World.frozen?_setCell,f1]
 ·simp [World.frozen?_setCell,f2]
theorem Cur.far {w:World} {b base K g i:Nat} (h:Cur w b base K) (hb:b ≠ g) (hg:base≤g) (u:Value):Cur (w.setCell ⟨g,i,none⟩ u) b base K:=by
 obtain ⟨v,k,a,s,B,hc,r⟩:=h;exact ⟨v,k,a,s,B.farc hb u,hc.only (b:=g) ((Only.refl g w).set u) hg,r⟩
theorem Cur.made (w:World) (v:Value) (n base:Nat) (t:TypeId) (hc:CodeIn w base v n) (hn:n≤1048576) (hb:base≤w.heap.size):Cur (w.alloc (.cells #[v,.int .i64 0,.int .u64 0] t)) w.heap.size base 0:=
 ⟨v,n,0,0,Box3.made w _ _ _ _,hc.only (b:=w.heap.size) (Only.of_ext (x1 _ _)) hb,hn,by omega,by omega,by omega,by omega,hb⟩
abbrev valV (k:Int) (n:Bool) (d x:Int) (t:List UInt8):Value:=.agg #[.int .i64 k,.bool n,.int .i64 d,.int .i64 x,sV t]
abbrev valL (k:Int) (n:Bool) (d x:Int) (t:List UInt8):List Value:=[.int .i64 k,.bool n,.int .i64 d,.int .i64 x,sV t]
def zeroD (n:Bool) (d x:Int):Bool:=!n && decide (d=0) && decide (x=0)
def goodV (k:Int) (n:Bool) (d x:Int) (t:List UInt8):Bool:=
 if k=1 then goodB n d x && (t == []) else
 zeroD n d x && (if k=0 then t == [] else if k=2 then printN 1000 t else if k=3 then boolB t else if k=4 then memB errL t else false)
set_option maxRecDepth 8000 in
set_option maxHeartbeats 2000000 in
theorem goodVI (k:Int) (n:Bool) (d x:Int) (t:List UInt8) (w:World) (hl:t.length≤2000000) (d1 : -9223372036854775808≤d) (d2:d≤9223372036854775807) (hT:Tens w) (hE:ErrTab w) :
  Calls Tryd.prog 25 #[valV k n d x t] w fun e w'=>e=.returned (.bool (goodV k n d x t))∧Ext w w':=by
 have X0:=x1 w (.cells #[.int .i64 k,.bool n,.int .i64 d,.int .i64 x,sV t] 46);have B:=vec_made w (valL k n d x t) 46;have T1:=hT.later X0;have E1:=hE.later X0;obtain ⟨p,hp⟩:∃ p,(t == [])=p:=⟨_,rfl⟩;clear hT hE;by_cases h1:k=1
 ·subst h1;have C:=fun W (X:Ext (w.alloc (.cells #[.int .i64 1,.bool n,.int .i64 d,.int .i64 x,sV t] 46)) W)=>goodI n d x W d1 d2 (T1.later X);have e:goodV 1 n d x t=(goodB n d x && p):=by simp [goodV,hp]
  rw [e];obtain ⟨q,hq⟩:∃ q,goodB n d x=q:=⟨_,rfl⟩;rw [hq] at C ⊢;clear e hq d1 d2;cases q
  ·go_enter Tryd.func25,Tryd.ntmps25;go_wp2_with (go_at_call 40;refine (C _ (xr _)).mono ?_;rintro e w1 ⟨rfl,e1⟩);go_ret;exact ⟨rfl,xt X0 e1⟩
  ·cases p
   all_goals
    go_enter Tryd.func25,Tryd.ntmps25;go_wp2_with (go_at_call 40;refine (C _ (xr _)).mono ?_;rintro e w1 ⟨rfl,e1⟩;have a4:=((B.later e1) 4 _ rfl).1);go_ret;exact ⟨rfl,xt X0 e1⟩
 ·by_cases hz:zeroD n d x=true
  ·obtain ⟨rfl,rfl,rfl⟩:n=false∧d=0∧x=0:=by simpa [zeroD,and_assoc] using hz
   clear hz d1 d2 T1;by_cases h0:k=0
   ·subst h0;have e:goodV 0 false 0 0 t=p:=(by simp [goodV,zeroD,hp]);rw [e];clear e;cases p
    all_goals
     go_enter Tryd.func25,Tryd.ntmps25;go_wp2_with fail;go_ret;exact ⟨rfl,X0⟩
   ·clear hp;by_cases h2:k=2
    ·subst h2;have C:=fun W=>plainI t W hl;have e:goodV 2 false 0 0 t=(plainB t && decide ((t.length:Int)≤1000)):=by
      have e2:decide (t.length≤1000)=decide ((t.length:Int)≤1000):=decide_eq_decide.2 (by omega);simp [goodV,zeroD,printN,plainB,e2]
     rw [e];obtain ⟨m,hm⟩:∃ m,t.length=m:=⟨_,rfl⟩;have hs:(⟨t.toArray⟩:ByteArray).size=m:=hm;rw [hm] at hl ⊢;obtain ⟨q,hq⟩:∃ q,plainB t=q:=⟨_,rfl⟩;rw [hq] at C ⊢;clear e hq hm h0 h1;cases q
     all_goals
      go_enter Tryd.func25,Tryd.ntmps25;go_wp2_with (go_at_call 41;refine (C _).mono ?_;rintro e w1 ⟨rfl,rfl⟩);go_ret;exact ⟨ret_bool (by simp),X0⟩
    ·by_cases h3:k=3
     ·subst h3;have C:=fun W=>boolI t W;have e:goodV 3 false 0 0 t=boolB t:=(by simp [goodV,zeroD]);rw [e];clear e h0 h1 h2;go_enter Tryd.func25,Tryd.ntmps25;go_wp2_with (go_at_call 42;refine (C _).mono ?_;rintro e w1 ⟨rfl,rfl⟩);go_ret;exact ⟨rfl,X0⟩
     ·by_cases h4:k=4
      ·subst h4;have C:=errI t _ E1;have e:goodV 4 false 0 0 t=memB errL t:=(by simp [goodV,zeroD]);rw [e];clear e h0 h1 h2 h3;go_enter Tryd.func25,Tryd.ntmps25;go_wp2_with (go_at_call 43;refine C.mono ?_;rintro e w1 ⟨rfl,rfl⟩);go_ret;exact ⟨rfl,X0⟩
      ·have e:goodV k false 0 0 t=false:=(by simp [goodV,zeroD,h0,h1,h2,h3,h4]);rw [e];clear e;go_enter Tryd.func25,Tryd.ntmps25;go_wp2_with fail;go_ret;exact ⟨rfl,X0⟩
  ·have e:goodV k n d x t=false:=by simp only [Bool.not_eq_true] at hz;simp [goodV,hz,h1]
   rw [e];clear e hp B T1 E1 hl;have hz':n=true∨(n=false∧(d ≠ 0∨(d=0∧x ≠ 0))):=by
    cases n
    ·right;refine ⟨rfl,?_⟩;by_cases hd:d=0
     ·right;refine ⟨hd,fun hx=>hz ?_⟩;simp [zeroD,hd,hx]
     ·exact Or.inl hd
    ·exact Or.inl rfl
   clear hz
   rcases hz' with rfl | ⟨rfl,hd | ⟨rfl,hx⟩⟩
   all_goals
    go_enter Tryd.func25,Tryd.ntmps25;go_wp2_with fail;go_ret;exact ⟨rfl,X0⟩
set_option maxRecDepth 8000 in
set_option maxHeartbeats 2000000 in
theorem goodVS (k:Int) (n:Bool) (d x:Int) (t:List UInt8) (w:World) (hl:t.length≤2000000) :
  Calls Tryd.prog 30 #[valV k n d x t] w fun e w'=>e=.returned (.bool (goodV k n d x t))∧Ext w w':=by
 have X0:=x1 w (.cells #[.int .i64 k,.bool n,.int .i64 d,.int .i64 x,sV t] 46);have B:=vec_made w (valL k n d x t) 46;obtain ⟨p,hp⟩:∃ p,(t == [])=p:=⟨_,rfl⟩;by_cases h1:k=1
 ·subst h1;have C:=fun W=>goodS n d x W;have e:goodV 1 n d x t=(goodB n d x && p):=by simp [goodV,hp]
  rw [e];obtain ⟨q,hq⟩:∃ q,goodB n d x=q:=⟨_,rfl⟩;rw [hq] at C ⊢;clear e hq;cases p
  ·go_enter Tryd.func30,Tryd.ntmps30;go_wp2_with fail;go_ret;exact ⟨ret_bool (by simp),X0⟩
  ·go_enter Tryd.func30,Tryd.ntmps30;go_wp2_with (go_at_call 45;refine (C _).mono ?_;rintro e w1 ⟨rfl,e1⟩);go_ret;exact ⟨ret_bool (by simp),xt X0 e1⟩
 ·by_cases hz:zeroD n d x=true
  ·obtain ⟨rfl,rfl,rfl⟩:n=false∧d=0∧x=0:=by simpa [zeroD,and_assoc] using hz
   clear hz;by_cases h0:k=0
   ·subst h0;have e:goodV 0 false 0 0 t=p:=(by simp [goodV,zeroD,hp]);rw [e];clear e;cases p
    all_goals
     go_enter Tryd.func30,Tryd.ntmps30;go_wp2_with fail;go_ret;exact ⟨rfl,X0⟩
   ·clear hp;by_cases h2:k=2
    ·subst h2;have C:=fun W=>printS 1000 t W hl;have e:goodV 2 false 0 0 t=printN 1000 t:=(by simp [goodV,zeroD]);rw [e];clear e h0 h1;go_enter Tryd.func30,Tryd.ntmps30;go_wp2_with (go_at_call 46;refine (C _).mono ?_;rintro e w1 ⟨rfl,rfl⟩);go_ret;exact ⟨rfl,X0⟩
    ·by_cases h3:k=3
     ·subst h3;obtain ⟨p,hp⟩:∃ p,(t == [84,82,85,69])=p:=⟨_,rfl⟩;obtain ⟨q,hq⟩:∃ q,(t == [70,65,76,83,69])=q:=⟨_,rfl⟩;have e:goodV 3 false 0 0 t=(p || q):=(by simp only [goodV,zeroD,boolB,hp,hq];rfl);rw [e];clear e h0 h1 h2;cases p <;> cases q
      all_goals
       go_enter Tryd.func30,Tryd.ntmps30;go_wp2_with fail;go_ret;exact ⟨rfl,X0⟩
     ·by_cases h4:k=4
      ·subst h4;have C:=fun W=>errorsS W;have D:=fun g W V=>inS errL t g 9 W (by decide) V;have e:goodV 4 false 0 0 t=memB errL t:=(by simp [goodV,zeroD]);rw [e];clear e h0 h1 h2 h3;go_enter Tryd.func30,Tryd.ntmps30;go_wp2_with fail;go_region_with (first
        | (go_at_call 38;refine (C _).mono ?_;rintro e w1 ⟨g,rfl,V,e1⟩;have a4:=((B.later (xt (xd (xr _)) e1)) 4 _ rfl).1)
        | (go_at_call 47;refine (D g _ V).mono ?_;rintro e w2 ⟨rfl,rfl⟩))
       all_goals
        go_wp2_with fail;go_ret;exact ⟨rfl,xt (xd X0) e1⟩
      ·have e:goodV k false 0 0 t=false:=(by simp [goodV,zeroD,h0,h1,h2,h3,h4]);rw [e];clear e;go_enter Tryd.func30,Tryd.ntmps30;go_wp2_with fail;go_ret;exact ⟨rfl,X0⟩
  ·have e:goodV k n d x t=false:=by simp only [Bool.not_eq_true] at hz;simp [goodV,hz,h1]
   rw [e];clear e B hl;have hz':n=true∨(n=false∧(d ≠ 0∨(d=0∧x ≠ 0))):=by
    cases n
    ·right;refine ⟨rfl,?_⟩;by_cases hd:d=0
     ·right;refine ⟨hd,fun hx=>hz ?_⟩;simp [zeroD,hd,hx]
     ·exact Or.inl hd
    ·exact Or.inl rfl
   clear hz;by_cases h0:k=0
   ·subst h0;cases p
    all_goals rcases hz' with rfl | ⟨rfl,hd | ⟨rfl,hx⟩⟩
    all_goals
     go_enter Tryd.func30,Tryd.ntmps30;go_wp2_with fail;go_ret;exact ⟨rfl,X0⟩
   ·clear hp
    rcases hz' with rfl | ⟨rfl,hd | ⟨rfl,hx⟩⟩
    all_goals
     go_enter Tryd.func30,Tryd.ntmps30;go_wp2_with fail;go_ret;exact ⟨rfl,X0⟩
def setL (w:World) (b:Nat):Nat→List Value→World
 | _,[]=>w
 | o,v :: vs=>setL (w.setCell ⟨b,o,none⟩ v) b (o+1) vs
theorem Vec.farL {b k:Nat} {l:List Value} (hk:k ≠ b):∀ (us:List Value) (o:Nat) {w:World},Vec w b l→Vec (setL w k o us) b l
 | [],_,_,h=>h
 | u :: us,o,_,h=>Vec.farL hk us (o+1) (h.far hk u)
theorem Ext.setL {a:World} {b:Nat} (hb:a.heap.size≤b):∀ (us:List Value) (o:Nat) {w:World},Ext a w→Ext a (setL w b o us)
 | [],_,_,h=>h
 | u :: us,o,_,h=>Ext.setL hb us (o+1) (xset h hb u)
theorem Vec.put5 {w:World} {b:Nat} {v0 v1 v2 v3 v4:Value} (h:Vec w b [v0,v1,v2,v3,v4]) (u0 u1 u2 u3 u4:Value):Vec (setL w b 0 [u0,u1,u2,u3,u4]) b [u0,u1,u2,u3,u4]:=
 ((((h.put 0 (by simp) u0).put 1 (by simp) u1).put 2 (by simp) u2).put 3 (by simp) u3).put 4 (by simp) u4
abbrev errT:List UInt8:=[35,86,65,76,85,69,33]
abbrev trueT:List UInt8:=[84,82,85,69]
abbrev falseT:List UInt8:=[70,65,76,83,69]
abbrev boolW (b:Bool):Value:=valV 3 false 0 0 (if b then trueT else falseT)
abbrev errW:Value:=valV 4 false 0 0 errT
set_option maxHeartbeats 1000000 in
theorem textVS (l:List UInt8) (w:World):Calls Tryd.prog 20 #[sV l] w fun e w'=>e=.returned (valV 2 false 0 0 l)∧Ext w w':=by
 go_enter Tryd.func20,Tryd.ntmps20
 go_wp2
 exact bodyPost_ret (v:=valV 2 false 0 0 l) (by simp [results,Tryd.results20,go_sem]) rfl ⟨rfl,by first | exact x1 _ _ | exact xa (x1 _ _) _⟩
set_option maxHeartbeats 1000000 in
theorem errVS (l:List UInt8) (w:World):Calls Tryd.prog 37 #[sV l] w fun e w'=>e=.returned (valV 4 false 0 0 l)∧Ext w w':=by
 go_enter Tryd.func37,Tryd.ntmps37
 go_wp2
 exact bodyPost_ret (v:=valV 4 false 0 0 l) (by simp [results,Tryd.results37,go_sem]) rfl ⟨rfl,by first | exact x1 _ _ | exact xa (x1 _ _) _⟩
set_option maxHeartbeats 1000000 in
theorem numVS (n:Bool) (d x:Int) (w:World):Calls Tryd.prog 33 #[decV n d x] w fun e w'=>e=.returned (valV 1 n d x [])∧Ext w w':=by
 go_enter Tryd.func33,Tryd.ntmps33
 go_wp2
 exact bodyPost_ret (v:=valV 1 n d x []) (by simp [results,Tryd.results33,go_sem]) rfl ⟨rfl,by first | exact x1 _ _ | exact xa (x1 _ _) _⟩
set_option maxHeartbeats 1000000 in
theorem boolVS (b:Bool) (w:World):Calls Tryd.prog 36 #[.bool b] w fun e w'=>e=.returned (boolW b)∧Ext w w':=by
 cases b
 ·go_enter Tryd.func36,Tryd.ntmps36
  go_wp2
  exact bodyPost_ret (v:=valV 3 false 0 0 falseT) (by simp [results,Tryd.results36,go_sem,falseT]) rfl ⟨rfl,x1 _ _⟩
 ·go_enter Tryd.func36,Tryd.ntmps36
  go_wp2
  exact bodyPost_ret (v:=valV 3 false 0 0 trueT) (by simp [results,Tryd.results36,go_sem,trueT]) rfl ⟨rfl,x1 _ _⟩
theorem goodV_num {n:Bool} {d x:Int} {t:List UInt8} (h:goodV 1 n d x t=true):goodB n d x=true∧t=[]:=by simpa [goodV] using h
theorem goodV_zero {k:Int} {n:Bool} {d x:Int} {t:List UInt8} (h:goodV k n d x t=true) (h1:k ≠ 1):n=false∧d=0∧x=0:=by
 simp only [goodV,h1,if_false,Bool.and_eq_true] at h;have:=h.1;simpa [zeroD,and_assoc] using this
theorem goodV_empty {n:Bool} {d x:Int} {t:List UInt8} (h:goodV 0 n d x t=true):t=[]:=by simpa [goodV] using (show _∧_ by simpa [goodV] using h).2
end Go.Proofs.YtnphbpmdohidcaaDoor

namespace Go.Proofs.YtnphbpmdohidcaaDoor
def lv:List Int→Int
 | []=>0
 | x :: xs=>x+1000000000 * lv xs
def Lim (xs:List Int):Prop:=∀ x ∈ xs,0≤x∧x<1000000000
theorem Lim.nil:Lim []:=fun _ h=>by cases h
theorem Lim.cons {x:Int} {xs:List Int} (h0:0≤x) (h1:x<1000000000) (h:Lim xs):Lim (x :: xs):=fun y hy=>by
 rcases List.mem_cons.1 hy with rfl | hy
 ·exact ⟨h0,h1⟩
 ·exact h y hy
theorem Lim.head {x:Int} {xs:List Int} (h:Lim (x :: xs)):0≤x∧x<1000000000:=h x (by simp)
theorem Lim.tail {x:Int} {xs:List Int} (h:Lim (x :: xs)):Lim xs:=fun y hy=>h y (by simp [hy])
theorem Lim.take {xs:List Int} (h:Lim xs) (n:Nat):Lim (xs.take n):=fun y hy=>h y (List.mem_of_mem_take hy)
theorem Lim.drop {xs:List Int} (h:Lim xs) (n:Nat):Lim (xs.drop n):=fun y hy=>h y (List.mem_of_mem_drop hy)
theorem Lim.getD {xs:List Int} (h:Lim xs) (i:Nat):0≤xs.getD i 0∧xs.getD i 0<1000000000:=by
 by_cases hi:i<xs.length
 ·rw [List.getD_eq_getElem?_getD,List.getElem?_eq_getElem hi];exact h _ (List.getElem_mem hi)
 ·rw [List.getD_eq_getElem?_getD,List.getElem?_eq_none (by omega)];simp
theorem lv_nonneg:∀ {xs:List Int},Lim xs→0≤lv xs
 | [],_=>by simp [lv]
 | x :: xs,h=>by
  have:=lv_nonneg h.tail;have:=h.head;simp only [lv];omega
theorem lv_app:∀ (xs ys:List Int),lv (xs++ys)=lv xs+1000000000 ^ xs.length * lv ys
 | [],ys=>by simp [lv]
 | x :: xs,ys=>by
  simp only [List.cons_append,lv,lv_app xs ys,List.length_cons,Int.pow_succ];rw [Int.mul_add,Int.mul_comm (1000000000 ^ xs.length) 1000000000,← Int.mul_assoc];omega
theorem lv_lt:∀ {xs:List Int},Lim xs→lv xs<1000000000 ^ xs.length
 | [],_=>by simp [lv]
 | x :: xs,h=>by
  have:=lv_lt h.tail;have:=h.head;simp only [lv,List.length_cons,Int.pow_succ];omega
theorem pos_pow (n:Nat):(0:Int)<1000000000 ^ n:=Int.pow_pos (by decide)
theorem lv_ge {xs:List Int} (h:Lim xs) (hn:0<xs.length) (ht:xs.getD (xs.length - 1) 0 ≠ 0):1000000000 ^ (xs.length - 1)≤lv xs:=by
 obtain ⟨ys,y,rfl⟩:∃ ys y,xs=ys++[y]:=⟨xs.dropLast,xs.getLast (by intro e;simp [e] at hn),(List.dropLast_concat_getLast _).symm⟩;have h1:(ys++[y]).getD ((ys++[y]).length - 1) 0=y:=by simp
 rw [h1] at ht;have hy:=h y (by simp);have h0:=lv_nonneg (fun z hz=>h z (by simp [hz]):Lim ys);rw [lv_app];simp only [List.length_append,List.length_singleton,Nat.add_sub_cancel,lv];have hp:=pos_pow ys.length;have:(1000000000:Int) ^ ys.length * 1≤1000000000 ^ ys.length * (y+1000000000 * 0):=Int.mul_le_mul_of_nonneg_left (by omega) (by omega);omega
theorem len_le {xs:List Int} {k:Nat} (h:Lim xs) (ht:xs.length=0∨xs.getD (xs.length - 1) 0 ≠ 0) (hk:lv xs<1000000000 ^ k):xs.length≤k:=by
 rcases ht with ht | ht
 ·omega
 ·by_cases hn:xs.length≤k
  ·exact hn
  ·have h1:=lv_ge h (by omega) ht;have h2:(1000000000:Int) ^ k≤1000000000 ^ (xs.length - 1):=by
    have:=Nat.pow_le_pow_right (n:=1000000000) (by decide) (show k≤xs.length - 1 by omega);have h3:((1000000000 ^ k:Nat):Int)≤((1000000000 ^ (xs.length - 1):Nat):Int):=(by exact_mod_cast this);simpa using h3
   omega
theorem lv_take_succ (xs:List Int) (i:Nat) (h:i<xs.length):lv (xs.take (i+1))=lv (xs.take i)+1000000000 ^ i * xs.getD i 0:=by
 rw [List.take_succ_eq_append_getElem h,lv_app];simp [lv,List.length_take,Nat.min_eq_left (Nat.le_of_lt h),h]
theorem lv_set:∀ (xs:List Int) (i:Nat) (v:Int),i<xs.length→lv (xs.set i v)=lv xs+1000000000 ^ i * (v - xs.getD i 0)
 | [],_,_,h=>by simp at h
 | x :: xs,0,v,_=>by simp [lv];omega
 | x :: xs,i+1,v,h=>by
  have:=lv_set xs i v (by simpa using h);simp only [List.set_cons_succ,lv,this,List.getD_cons_succ,Int.pow_succ];rw [Int.mul_add,Int.mul_comm (1000000000 ^ i) 1000000000,Int.mul_assoc];omega
theorem getD_set {xs:List Int} {i j:Nat} {v:Int} (h:i<xs.length):(xs.set i v).getD j 0=if j=i then v else xs.getD j 0:=by
 simp only [List.getD_eq_getElem?_getD,List.getElem?_set];by_cases e:i=j
 ·subst e;simp [h]
 ·rw [if_neg e,if_neg (fun h=>e h.symm)]
theorem Lim.set {xs:List Int} (h:Lim xs) (i:Nat) {v:Int} (h0:0≤v) (h1:v<1000000000):Lim (xs.set i v):=fun y hy=>by
 rcases List.mem_or_eq_of_mem_set hy with hy | rfl
 ·exact h y hy
 ·exact ⟨h0,h1⟩
theorem lv_replicate (n:Nat):lv (List.replicate n 0)=0:=by
 induction n with
 | zero=>rfl
 | succ n ih=>simp [List.replicate_succ,lv,ih]
theorem Lim.zeros (n:Nat):Lim (List.replicate n 0):=fun y hy=>by
 rw [List.eq_of_mem_replicate hy];decide
theorem getD_zeros (n i:Nat):(List.replicate n (0:Int)).getD i 0=0:=by
 simp only [List.getD_eq_getElem?_getD,List.getElem?_replicate]
 split <;> rfl
end Go.Proofs.YtnphbpmdohidcaaDoor

namespace Go.Proofs.YtnphbpmdohidcaaDoor
open Go.RowKit
def C32 (w:World) (b o:Nat) (xs:List Int):Prop:=∀ i,i<xs.length→w.cell? ⟨b,o+i,none⟩=some (.int .u32 (xs.getD i 0))
theorem C32.later {w w1:World} {b o:Nat} {xs:List Int} (h:C32 w b o xs) (hb:Ext w w1):C32 w1 b o xs:=fun i hi=>cell_later hb (h i hi)
def Row (w:World) (v:Value) (xs:List Int):Prop:=
 ∃ (p:Option Addr) (cap:Nat),v=.slice p xs.length cap∧xs.length≤cap∧cap≤9223372036854775807∧((p=none∧cap=0)∨∃ b o,p=some ⟨b,o,none⟩∧C32 w b o xs)
theorem Row.later {w w1:World} {v:Value} {xs:List Int} (h:Row w v xs) (hb:Ext w w1):Row w1 v xs:=by
 obtain ⟨p,cap,e,h1,h2,h3⟩:=h;refine ⟨p,cap,e,h1,h2,?_⟩
 rcases h3 with h3 | ⟨b,o,e,h3⟩
 ·exact .inl h3
 ·exact .inr ⟨b,o,e,h3.later hb⟩
abbrev zS (z:Int):Value:=.agg #[.int .i64 z,.bool false,.slice none 0 0]
abbrev zB (neg:Bool) (p:Addr) (n cap:Nat):Value:=.agg #[.int .i64 0,.bool neg,.slice (some p) n cap]
def sgn (neg:Bool) (z:Int):Int:=if neg then -z else z
def Top (xs:List Int):Prop:=xs.length=0∨xs.getD (xs.length - 1) 0 ≠ 0
def ZV (w:World) (v:Value) (z:Int):Prop:=
 (-1000000000000000000<z∧z<1000000000000000000∧v=zS z) ∨
 ∃ neg b o cap xs,v=zB neg ⟨b,o,none⟩ xs.length cap∧xs.length≤cap∧cap≤9223372036854775807∧C32 w b o xs∧Lim xs∧3≤xs.length∧Top xs∧z=sgn neg (lv xs)
theorem ZV.later {w w1:World} {v:Value} {z:Int} (h:ZV w v z) (hb:Ext w w1):ZV w1 v z:=by
 rcases h with h | ⟨neg,b,o,cap,xs,e,h1,h2,h3,h4⟩
 ·exact .inl h
 ·exact .inr ⟨neg,b,o,cap,xs,e,h1,h2,h3.later hb,h4⟩
theorem ZV.small {w:World} {z:Int} (h1 : -1000000000000000000<z) (h2:z<1000000000000000000):ZV w (zS z) z:=.inl ⟨h1,h2,rfl⟩
theorem big_ge {xs:List Int} (h:Lim xs) (h3:3≤xs.length) (ht:Top xs):1000000000000000000≤lv xs:=by
 have h1:=lv_ge h (by omega) (ht.resolve_left (by omega));have h2:(1000000000:Int) ^ 2≤1000000000 ^ (xs.length - 1):=by
  have:=Nat.pow_le_pow_right (n:=1000000000) (by decide) (show 2≤xs.length - 1 by omega);have h3:((1000000000 ^ 2:Nat):Int)≤((1000000000 ^ (xs.length - 1):Nat):Int):=by exact_mod_cast this
  simpa using h3
 omega
def smallB (z:Int):Bool:=decide (-1000000000000000000<z∧z<1000000000000000000)
theorem small_big {neg:Bool} {xs:List Int} (h:Lim xs) (h3:3≤xs.length) (ht:Top xs):smallB (sgn neg (lv xs))=false:=by
 have:=big_ge h h3 ht;unfold smallB sgn;cases neg <;> simp <;> omega
theorem smallB_true {z:Int} (h1 : -1000000000000000000<z) (h2:z<1000000000000000000):smallB z=true:=by simp [smallB,h1,h2]
theorem ZV.small_of {w:World} {v:Value} {z:Int} (h:ZV w v z) (hs:smallB z=true) : -1000000000000000000<z∧z<1000000000000000000∧v=zS z:=by
 rcases h with h | ⟨neg,b,o,cap,xs,rfl,h1,h2,h3,h4,h5,h6,rfl⟩
 ·exact h
 ·rw [small_big h4 h5 h6] at hs;cases hs
set_option maxHeartbeats 400000 in
theorem isSmall_any {v:Value} {z:Int} (w:World) (h:ZV w v z) :
  Calls Tryd.prog 66 #[v] w fun e w'=>e=.returned (.bool (smallB z))∧Ext w w':=by
 rcases h with ⟨h1,h2,rfl⟩ | ⟨neg,b,o,cap,xs,rfl,h1,h2,h3,h4,h5,h6,h7⟩
 ·go_enter Tryd.func66,Tryd.ntmps66
  go_wp2
  go_ret;exact ⟨ret_bool (smallB_true h1 h2).symm,x1 _ _⟩
 ·have h9:(((xs.length:Int) == 0))=false:=by rw [beq_eq_false_iff_ne];omega
  subst h7;have H:=small_big (neg:=neg) h4 h5 h6;clear h6 h4 h3;go_enter Tryd.func66,Tryd.ntmps66
  go_wp2
  go_ret;exact ⟨ret_bool H.symm,x1 _ _⟩
theorem sgn_neg {neg:Bool} {xs:List Int} (h:Lim xs) (h3:3≤xs.length) (ht:Top xs):decide (sgn neg (lv xs)<0)=neg:=by
 have:=big_ge h h3 ht;cases neg <;> simp [sgn] <;> omega
set_option maxHeartbeats 400000 in
theorem neg_any {v:Value} {z:Int} (w:World) (h:ZV w v z) :
  Calls Tryd.prog 52 #[v] w fun e w'=>e=.returned (.bool (decide (z<0)))∧Ext w w':=by
 rcases h with ⟨h1,h2,rfl⟩ | ⟨neg,b,o,cap,xs,rfl,h1,h2,h3,h4,h5,h6,h7⟩
 ·go_enter Tryd.func52,Tryd.ntmps52
  go_wp2
  go_ret;exact ⟨rfl,x1 _ _⟩
 ·have h9:(0:Int)<(xs.length:Int):=by omega
  subst h7;have H:=sgn_neg (neg:=neg) h4 h5 h6;clear h6 h4 h3;go_enter Tryd.func52,Tryd.ntmps52
  go_wp2
  go_ret;exact ⟨ret_bool H.symm,x1 _ _⟩
set_option maxHeartbeats 400000 in
theorem zero_any {v:Value} {z:Int} (w:World) (h:ZV w v z) :
  Calls Tryd.prog 55 #[v] w fun e w'=>e=.returned (.bool (z == 0))∧Ext w w':=by
 rcases h with ⟨h1,h2,rfl⟩ | ⟨neg,b,o,cap,xs,rfl,h1,h2,h3,h4,h5,h6,h7⟩
 ·go_enter Tryd.func55,Tryd.ntmps55
  go_wp2
  all_goals go_ret
  all_goals exact ⟨rfl,x1 _ _⟩
 ·have h9:(((xs.length:Int) == 0))=false:=by rw [beq_eq_false_iff_ne];omega
  have H:(sgn neg (lv xs) == 0)=false:=by
   have:=big_ge h4 h5 h6;rw [beq_eq_false_iff_ne];cases neg <;> simp [sgn] <;> omega
  subst h7;clear h6 h4 h3;go_enter Tryd.func55,Tryd.ntmps55
  go_wp2
  all_goals go_ret
  all_goals exact ⟨ret_bool H.symm,x1 _ _⟩
set_option maxHeartbeats 400000 in
theorem minus_any {v:Value} {z:Int} (w:World) (h:ZV w v z) :
  Calls Tryd.prog 64 #[v] w fun e w'=>∃ v',e=.returned v'∧ZV w' v' (-z)∧Ext w w':=by
 rcases h with ⟨h1,h2,rfl⟩ | ⟨neg,b,o,cap,xs,rfl,h1,h2,h3,h4,h5,h6,rfl⟩
 ·go_enter Tryd.func64,Tryd.ntmps64
  go_wp2
  exact bodyPost_ret (v:=zS (-z)) (by simp [results,Tryd.results64,go_sem]) rfl ⟨_,rfl,.inl ⟨by omega,by omega,rfl⟩,xa (xa (x1 _ _) _) _⟩
 ·have h9:(((xs.length:Int) == 0))=false:=by rw [beq_eq_false_iff_ne];omega
  have H : -sgn neg (lv xs)=sgn (!neg) (lv xs):=by cases neg <;> simp [sgn]
  rw [H];clear H;go_enter Tryd.func64,Tryd.ntmps64
  go_wp2
  exact bodyPost_ret (v:=zB (!neg) ⟨b,o,none⟩ xs.length cap) (by simp [results,Tryd.results64,go_sem]) rfl
   ⟨_,rfl,.inr ⟨!neg,b,o,cap,xs,rfl,h1,h2,((h3.later (x1 _ _)).later (x1 _ _)).later (x1 _ _),h4,h5,h6,rfl⟩,xa (xa (x1 _ _) _) _⟩
def No32 (u:Value):Prop:=∀ n,u ≠ .int .u32 n
theorem C32.apart {w:World} {b o:Nat} {xs:List Int} {p:Addr} {u:Value} (h:C32 w b o xs) (hp:w.cell? p=some u) (hu:No32 u):∀ i,i<xs.length→(⟨b,o+i,none⟩:Addr) ≠ p:=by
 rintro i hi rfl;rw [h i hi] at hp;exact hu _ (Option.some.inj hp).symm
theorem C32.set {w:World} {b o:Nat} {xs:List Int} {p:Addr} {u:Value} (h:C32 w b o xs) (hp:w.cell? p=some u) (hu:No32 u) (a:Value):C32 (w.setCell p a) b o xs:=fun i hi=>by
 rw [World.cell?_setCell_other _ _ _ _ (h.apart hp hu i hi).symm];exact h i hi
theorem ZV.set {w:World} {v:Value} {z:Int} {p:Addr} {u:Value} (h:ZV w v z) (hp:w.cell? p=some u) (hu:No32 u) (a:Value):ZV (w.setCell p a) v z:=by
 rcases h with h | ⟨neg,b,o,cap,xs,e,h1,h2,h3,h4⟩
 ·exact .inl h
 ·exact .inr ⟨neg,b,o,cap,xs,e,h1,h2,h3.set hp hu a,h4⟩
theorem ZV.shape {w:World} {v:Value} {z:Int} (h:ZV w v z):∃ a0 a1 p n cap,v=.agg #[.int .i64 a0,.bool a1,.slice p n cap]:=by
 rcases h with ⟨_,_,rfl⟩ | ⟨neg,b,o,cap,xs,rfl,_⟩
 ·exact ⟨_,_,_,_,_,rfl⟩
 ·exact ⟨_,_,_,_,_,rfl⟩
theorem no32_i64 (n:Int):No32 (.int .i64 n):=fun _ h=>by cases h
theorem no32_bool (n:Bool):No32 (.bool n):=fun _ h=>by cases h
theorem no32_slice (p:Option Addr) (n c:Nat):No32 (.slice p n c):=fun _ h=>by cases h
abbrev ZBox (w:World) (b:Nat):Prop:=∃ a0 a1 p n cap,Box3 w b (.int .i64 a0) (.bool a1) (.slice p n cap)
abbrev set3 (w:World) (b:Nat) (a0 a1 a2:Value):World:=((w.setCell ⟨b,0,none⟩ a0).setCell ⟨b,1,none⟩ a1).setCell ⟨b,2,none⟩ a2
theorem addr_ne {b i j:Nat} (h:i ≠ j):(⟨b,i,none⟩:Addr) ≠ ⟨b,j,none⟩:=fun e=>h (by cases e;rfl)
theorem ZV.set3 {w:World} {v:Value} {z:Int} {b:Nat} {a0:Int} {a1:Bool} {p:Option Addr} {n cap:Nat} (h:ZV w v z) (hb:Box3 w b (.int .i64 a0) (.bool a1) (.slice p n cap)) (c0 c1 c2:Value):ZV (set3 w b c0 c1 c2) v z:=by
 obtain ⟨⟨q0,q1,q2⟩,_⟩:=hb;have k1:(w.setCell ⟨b,0,none⟩ c0).cell? ⟨b,1,none⟩=some (.bool a1):=by rw [World.cell?_setCell_other _ _ _ _ (addr_ne (by decide))];exact q1
 have k2:((w.setCell ⟨b,0,none⟩ c0).setCell ⟨b,1,none⟩ c1).cell? ⟨b,2,none⟩=some (.slice p n cap):=by
  rw [World.cell?_setCell_other _ _ _ _ (addr_ne (by decide)),World.cell?_setCell_other _ _ _ _ (addr_ne (by decide))];exact q2
 exact ((h.set q0 (no32_i64 _) _).set k1 (no32_bool _) _).set k2 (no32_slice _ _ _) _
theorem Ext.set3 {w w1:World} {b:Nat} (h:Ext w w1) (hb:w.heap.size≤b) (c0 c1 c2:Value):Ext w (set3 w1 b c0 c1 c2):=xset (xset (xset h hb _) hb _) hb _
set_option maxHeartbeats 400000 in
theorem abs_any {v:Value} {z:Int} (w:World) (h:ZV w v z) :
  Calls Tryd.prog 53 #[v] w fun e w'=>∃ v',e=.returned v'∧ZV w' v' (z.natAbs:Int)∧Ext w w':=by
 obtain ⟨a0,a1,p,n,cap,rfl⟩:=h.shape;by_cases hz:z<0
 ·have hd:decide (z<0)=true:=by simpa using hz
  have e1:(z.natAbs:Int) = -z:=by omega
  rw [e1];clear e1;go_enter Tryd.func53,Tryd.ntmps53;go_wp2_with fail;refine (neg_any _ (h.later (xa (x1 _ _) _))).mono ?_;rintro e w1 ⟨rfl,b1⟩;obtain ⟨⟨q0,q1,q2⟩,_⟩:=((Box3.made w (.int .i64 a0) (.bool a1) (.slice p n cap) 69).later (x1 _ _)).later b1;go_wp2_with fail;refine (minus_any _ ((h.later (xa (x1 _ _) _)).later b1)).mono ?_;rintro e w2 ⟨v',rfl,hz2,b2⟩;obtain ⟨a0',a1',p',n',cap',rfl⟩:=hz2.shape;have B:=((Box3.made (w.alloc (.cells #[.int .i64 a0,.bool a1,.slice p n cap] 69)) (.int .i64 0) (.bool false) (.slice none 0 0) 69).later b1).later b2;simp only [World.size_alloc] at B;have Hz:=hz2.set3 B (.int .i64 a0') (.bool a1') (.slice p' n' cap');have Hx:=Ext.set3 (b:=w.heap.size+1) (xt (xt (xa (x1 _ _) _) b1) b2) (by omega) (.int .i64 a0') (.bool a1') (.slice p' n' cap');obtain ⟨⟨r0,r1,r2⟩,s0,s1,s2⟩:=B
  go_wp2
  exact bodyPost_ret (v:=.agg #[.int .i64 a0',.bool a1',.slice p' n' cap']) (by simp [results,Tryd.results53,go_sem,r0,r1,r2]) rfl ⟨_,rfl,Hz,Hx⟩
 ·have hd:decide (z<0)=false:=by simpa using hz
  have e1:(z.natAbs:Int)=z:=by omega
  rw [e1];clear e1;go_enter Tryd.func53,Tryd.ntmps53;go_wp2_with fail;refine (neg_any _ (h.later (xa (x1 _ _) _))).mono ?_;rintro e w1 ⟨rfl,b1⟩;obtain ⟨⟨q0,q1,q2⟩,_⟩:=((Box3.made w (.int .i64 a0) (.bool a1) (.slice p n cap) 69).later (x1 _ _)).later b1;have B:=(Box3.made (w.alloc (.cells #[.int .i64 a0,.bool a1,.slice p n cap] 69)) (.int .i64 0) (.bool false) (.slice none 0 0) 69).later b1;simp only [World.size_alloc] at B;have Hz:=((h.later (xa (x1 _ _) _)).later b1).set3 B (.int .i64 a0) (.bool a1) (.slice p n cap);have Hx:=Ext.set3 (b:=w.heap.size+1) (xt (xa (x1 _ _) _) b1) (by omega) (.int .i64 a0) (.bool a1) (.slice p n cap);obtain ⟨⟨r0,r1,r2⟩,s0,s1,s2⟩:=B
  go_wp2
  exact bodyPost_ret (v:=.agg #[.int .i64 a0,.bool a1,.slice p n cap]) (by simp [results,Tryd.results53,go_sem,r0,r1,r2]) rfl ⟨_,rfl,Hz,Hx⟩
set_option maxHeartbeats 400000 in
theorem abs64_any (n:Int) (w:World) (h1 : -1000000000000000000<n) (h2:n<1000000000000000000) :
  Calls Tryd.prog 75 #[.int .i64 n] w fun e w'=>e=.returned (.int .i64 (n.natAbs:Int))∧w'=w:=by
 go_enter Tryd.func75,Tryd.ntmps75
 go_wp2
 all_goals go_ret
 all_goals exact ⟨ret_int (by omega),rfl⟩
theorem abs64_eq (n x:Int) (w:World) (h1 : -1000000000000000000<n) (h2:n<1000000000000000000) (hx:(n.natAbs:Int)=x) :
  Calls Tryd.prog 75 #[.int .i64 n] w fun e w'=>e=.returned (.int .i64 x)∧w'=w:=by
 rw [← hx];exact abs64_any n w h1 h2
theorem three (u:Int) (h1:1000000000000000000≤u) (h2:u<9000000000000000000) :
  Lim [u % 1000000000,u / 1000000000 % 1000000000,u / 1000000000 / 1000000000]∧Top [u % 1000000000,u / 1000000000 % 1000000000,u / 1000000000 / 1000000000]∧lv [u % 1000000000,u / 1000000000 % 1000000000,u / 1000000000 / 1000000000]=u:=by
 refine ⟨Lim.cons (by omega) (by omega) (Lim.cons (by omega) (by omega) (Lim.cons (by omega) (by omega) Lim.nil)),.inr ?_,?_⟩
 ·show u / 1000000000 / 1000000000 ≠ 0;omega
 ·simp only [lv];omega
theorem C32.three {w:World} {a b c:Int} {t:TypeId} {g:Nat} (hg:g=w.heap.size):C32 (w.alloc (.cells #[.int .u32 a,.int .u32 b,.int .u32 c] t)) g 0 [a,b,c]:=by
 subst hg;intro i hi
 match i,hi with
 | 0,_ | 1,_ | 2,_=>simp [go_sem]
theorem C32.two {w:World} {a b:Int} {t:TypeId} {g:Nat} (hg:g=w.heap.size):C32 (w.alloc (.cells #[.int .u32 a,.int .u32 b] t)) g 0 [a,b]:=by
 subst hg;intro i hi
 match i,hi with
 | 0,_ | 1,_=>simp [go_sem]
theorem C32.one {w:World} {a:Int} {t:TypeId} {g:Nat} (hg:g=w.heap.size):C32 (w.alloc (.cells #[.int .u32 a] t)) g 0 [a]:=by
 subst hg;intro i hi
 match i,hi with
 | 0,_=>simp [go_sem]
set_option maxHeartbeats 400000 in
theorem small_any (z:Int) (w:World) (h1 : -9000000000000000000<z) (h2:z<9000000000000000000) :
  Calls Tryd.prog 35 #[.int .i64 z] w fun e w'=>∃ v',e=.returned v'∧ZV w' v' z∧Ext w w':=by
 by_cases hs : -1000000000000000000<z∧z<1000000000000000000
 ·obtain ⟨s1,s2⟩:=hs;go_enter Tryd.func35,Tryd.ntmps35
  go_wp2
  exact bodyPost_ret (v:=zS z) (by simp [results,Tryd.results35,go_sem]) rfl ⟨_,rfl,ZV.small s1 s2,x1 _ _⟩
 ·by_cases hn:z<0
  ·obtain ⟨u,rfl⟩:∃ u,z = -u:=⟨-z,by omega⟩;have u1:1000000000000000000≤u:=by omega
   have u2:u<9000000000000000000:=by omega
   clear hs h1 h2 hn;go_enter Tryd.func35,Tryd.ntmps35
   go_wp2
   obtain ⟨t1,t2,t3⟩:=three u u1 u2;refine bodyPost_ret (v:=zB true ⟨w.heap.size+1,0,none⟩ 3 3) (by simp [results,Tryd.results35,go_sem]) rfl ⟨_,rfl,.inr ⟨true,w.heap.size+1,0,3,_,rfl,by simp,by decide,C32.three (by simp),t1,by simp,t2,?_⟩,xa (x1 _ _) _⟩;rw [t3];rfl
  ·have u1:1000000000000000000≤z:=by omega
   have hd:decide (z<0)=false:=by simpa using hn
   clear hs hn h1;go_enter Tryd.func35,Tryd.ntmps35
   go_wp2
   obtain ⟨t1,t2,t3⟩:=three z u1 h2;refine bodyPost_ret (v:=zB false ⟨w.heap.size+1,0,none⟩ 3 3) (by simp [results,Tryd.results35,go_sem]) rfl ⟨_,rfl,.inr ⟨false,w.heap.size+1,0,3,_,rfl,by simp,by decide,C32.three (by simp),t1,by simp,t2,?_⟩,xa (x1 _ _) _⟩;rw [t3];rfl
def Limbs (w:World) (v:Value) (u:Int):Prop:=∃ xs,Row w v xs∧Lim xs∧Top xs∧lv xs=u
theorem Limbs.later {w w1:World} {v:Value} {u:Int} (h:Limbs w v u) (hb:Ext w w1):Limbs w1 v u:=by
 obtain ⟨xs,h1,h2⟩:=h;exact ⟨xs,h1.later hb,h2⟩
theorem Limbs.nil (w:World):Limbs w (.slice none 0 0) 0:=⟨[],⟨none,0,rfl,Nat.le_refl _,by decide,.inl ⟨rfl,rfl⟩⟩,Lim.nil,.inl rfl,rfl⟩
theorem Limbs.one {w:World} {u:Int} {t:TypeId} {g:Nat} (hg:g=w.heap.size) (h1:0<u) (h2:u<1000000000):Limbs (w.alloc (.cells #[.int .u32 u] t)) (.slice (some ⟨g,0,none⟩) 1 1) u:=
 ⟨[u],⟨_,1,rfl,Nat.le_refl _,by decide,.inr ⟨g,0,rfl,C32.one hg⟩⟩,Lim.cons (by omega) h2 Lim.nil,.inr (show u ≠ 0 by omega),by simp [lv]⟩
theorem Limbs.two {w:World} {u:Int} {t:TypeId} {g:Nat} (hg:g=w.heap.size) (h1:1000000000≤u) (h2:u<1000000000000000000) :
  Limbs (w.alloc (.cells #[.int .u32 (u % 1000000000),.int .u32 (u / 1000000000)] t)) (.slice (some ⟨g,0,none⟩) 2 2) u:=
 ⟨[u % 1000000000,u / 1000000000],⟨_,2,rfl,Nat.le_refl _,by decide,.inr ⟨g,0,rfl,C32.two hg⟩⟩,Lim.cons (by omega) (by omega) (Lim.cons (by omega) (by omega) Lim.nil),.inr (show u / 1000000000 ≠ 0 by omega),by simp only [lv];omega⟩
set_option maxHeartbeats 400000 in
theorem limbs_any {v:Value} {z:Int} (w:World) (h:ZV w v z) :
  Calls Tryd.prog 68 #[v] w fun e w'=>∃ v',e=.returned v'∧Limbs w' v' (z.natAbs:Int)∧Ext w w':=by
 rcases h with ⟨h1,h2,rfl⟩ | ⟨neg,b,o,cap,xs,rfl,h1,h2,h3,h4,h5,h6,rfl⟩
 ·by_cases hn:z<0
  ·obtain ⟨u,rfl⟩:∃ u,z = -u:=⟨-z,by omega⟩;have u1:0<u:=by omega
   have u2:u<1000000000000000000:=by omega
   have e1:((-u).natAbs:Int)=u:=by omega
   rw [e1];clear h1 h2 hn e1;by_cases hb:u<1000000000
   ·go_enter Tryd.func68,Tryd.ntmps68
    go_wp2
    go_ret;exact ⟨_,rfl,Limbs.one (by simp) u1 hb,xa (x1 _ _) _⟩
   ·go_enter Tryd.func68,Tryd.ntmps68
    go_wp2
    go_ret;exact ⟨_,rfl,Limbs.two (by simp) (by omega) u2,xa (x1 _ _) _⟩
  ·have e1:(z.natAbs:Int)=z:=by omega
   rw [e1];have u1:0≤z:=by omega
   clear h1 hn e1;by_cases hz:z=0
   ·subst hz;go_enter Tryd.func68,Tryd.ntmps68
    go_wp2
    go_ret;exact ⟨_,rfl,Limbs.nil _,x1 _ _⟩
   ·by_cases hb:z<1000000000
    ·go_enter Tryd.func68,Tryd.ntmps68
     go_wp2
     go_ret;exact ⟨_,rfl,Limbs.one (by simp) (by omega) hb,xa (x1 _ _) _⟩
    ·go_enter Tryd.func68,Tryd.ntmps68
     go_wp2
     go_ret;exact ⟨_,rfl,Limbs.two (by simp) (by omega) h2,xa (x1 _ _) _⟩
 ·have h9:(0:Int)<(xs.length:Int):=by omega
  have e1:((sgn neg (lv xs)).natAbs:Int)=lv xs:=by
   have:=lv_nonneg h4;unfold sgn;cases neg <;> simp <;> omega
  rw [e1];have L:Hid (∀ w1,Ext w w1→Limbs w1 (.slice (some ⟨b,o,none⟩) xs.length cap) (lv xs)):=fun w1 hx=>⟨xs,⟨_,cap,rfl,h1,h2,.inr ⟨b,o,rfl,h3.later hx⟩⟩,h4,h6,rfl⟩;clear h4 h6 h3 e1;go_enter Tryd.func68,Tryd.ntmps68
  go_wp2
  go_ret;exact ⟨_,rfl,L.out _ (x1 _ _),x1 _ _⟩
end Go.Proofs.YtnphbpmdohidcaaDoor

