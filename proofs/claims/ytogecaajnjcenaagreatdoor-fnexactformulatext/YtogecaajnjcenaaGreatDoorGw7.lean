/-
  Chapter 4: how the program tells any tree: by induction.
-/
import Derived.Test.YtogecaajnjcenaaGreatDoorMg41
import Derived.Test.YtogecaajnjcenaaGreatDoorMg43
namespace Go.Proofs.YtogecaajnjcenaaGreatDoor
open Go.RowKit
theorem tellTree (w0:World) (how:Value) (D:NT→List UInt8) (T:Int→Int→Bool→Bool→List UInt8) (C:TextI w0 how D T) (b:Nat) {U:Nat→Prop} (hU:∀ k,U k→k<w0.heap.size) {v:Value} {e:ET} (h:TreeV w0 U v e) :
  OkE e→TellP w0 b how v (textE D T e):=by
 have lists:∀ (es:List ET) (p:Option Addr) (s:Nat→Value),(0<es.length→∃ g,p=some ⟨g,0,none⟩∧U g∧∀ i,i<es.length→w0.cell? ⟨g,i,none⟩=some (s i))→(∀ i e,es[i]?=some e→TreeV w0 U (s i) e)→(∀ i e,es[i]?=some e→OkE e→TellP w0 b how (s i) (textE D T e))→(∀ k ∈ es,OkE k) →
   (0<(es.map (textE D T)).length→∃ g,p=some ⟨g,0,none⟩∧g<w0.heap.size∧∀ i,i<(es.map (textE D T)).length→w0.cell? ⟨g,i,none⟩=some (s i)) ∧
   (∀ i,i<(es.map (textE D T)).length→∃ T a,s i=.iface T a)∧(∀ i,i<(es.map (textE D T)).length→TellP w0 b how (s i) ((es.map (textE D T)).getD i [])):=fun es p s hp hs ih ok=>by
  rw [List.length_map];have get:∀ i,i<es.length→∃ e,es[i]?=some e:=fun i hi=>⟨_,List.getElem?_eq_getElem hi⟩;refine ⟨fun h0=>?_,fun i hi=>?_,fun i hi=>?_⟩
  ·obtain ⟨g,h1,h2,h3⟩:=hp h0;exact ⟨g,h1,hU g h2,h3⟩
  ·obtain ⟨e,he⟩:=get i hi;obtain ⟨T',a,h1,_⟩:=levTree (hs i e he);exact ⟨T',a,h1⟩
  ·obtain ⟨e,he⟩:=get i hi;have h1:(es.map (textE D T)).getD i []=textE D T e:=by simp [he]
   rw [h1];exact ih i e he (ok e (List.mem_of_getElem? he))
 induction h with
 | leaf x es hk=>exact fun ok=>tellLeaf w0 how D T C x es b ok.right.1 (good_t ok.right.1) (good_refX ok.right.1) hk
 | signed x v e hk h ih =>
  intro ok;obtain ⟨T',a,rfl,LV⟩:=levTree h;have q:=tellSig w0 b how x.k hk T' a (textE D T e) (lvE e) LV (ih (ok.right.2.2 _ (by simp)));have e1:textE D T (.mk x [e])=if x.k=8 then 45 :: kidT (lvE e) 6 (textE D T e) else kidT (lvE e) 7 (textE D T e)++[37]:=by
   rw [asm_leaf D T x]
   rcases hk with hk | hk
   ·rw [asm8 D T x hk,if_pos hk];rfl
   ·rw [asm9 D T x hk,if_neg (by rw [hk];decide)];rfl
  rw [e1];exact q
 | pair x l r e f hk h1 h2 ih1 ih2 =>
  intro ok;obtain ⟨T1,a1,rfl,LV1⟩:=levTree h1;obtain ⟨T2,a2,rfl,LV2⟩:=levTree h2;obtain ⟨o1,o2,o3⟩:=ahead_ops x.t (ok.kids.2.1 hk).2;have q:=tellPair w0 b how x.t (lvOp x.t) ⟨o2,o3⟩ T1 a1 (textE D T e) (lvE e) LV1 (ih1 (ok.right.2.2 _ (by simp))) T2 a2 (textE D T f) (lvE f) LV2 (ih2 (ok.right.2.2 _ (by simp)));rw [asm_leaf D T x,asm10 D T x hk,o1];exact q
 | call x p cap es s hk hcc hp hs ih =>
  intro ok;obtain ⟨l1,l2,l3⟩:=lists es p s hp hs ih ok.right.2.2;have q:=tellCall w0 b how x.t (good_t ok.right.1) p cap s (es.map (textE D T)) l1 l2 l3 (by have:=ok.kids.2.2.2 hk;rw [List.length_map];omega);rw [asm_leaf D T x,asm11 D T x hk];rw [List.length_map] at q ⊢;exact q
 | array x p cap es s hk h20 hcc hp hs ih =>
  intro ok;obtain ⟨l1,l2,l3⟩:=lists es p s hp hs ih ok.right.2.2;obtain ⟨g1,g2,g3,g4,g5⟩:=ok.kids.2.2.1 hk;have q:=tellArray w0 b how (whole x.t).toNat p cap s (es.map (textE D T)) ⟨g1,by rw [List.length_map];exact g5⟩ l1 l2 l3 (by rw [List.length_map];omega);rw [asm_leaf D T x,asm12 D T x hk];rw [List.length_map] at q ⊢;rw [← g3] at q;exact q
end Go.Proofs.YtogecaajnjcenaaGreatDoor

