/-
  Several texts in one: Gt0, Qx, Vc.
-/
import Derived.Test.YtogecaajnjcenaaGreatDoorMg20
import Derived.Test.YtogecaajnjcenaaGreatDoorBase
import Derived.BigQuiet
import Derived.Test.YtogecaajnjcenaaGreatDoorMg1
namespace Go.Proofs.YtogecaajnjcenaaGreatDoor
open Go.RowKit
inductive TreeV (w:World) (U:Nat→Prop):Value→ET→Prop
 | leaf (x:NT) (es:List ET) (hk:x.k ≠ 8∧x.k ≠ 9∧x.k ≠ 10∧x.k ≠ 11∧x.k ≠ 12):TreeV w U (.iface 98 x.val) (.mk x es)
 | signed (x:NT) (v:Value) (e:ET) (hk:x.k=8∨x.k=9) (h:TreeV w U v e):TreeV w U (.iface 101 (.agg #[.int .i64 x.k,v])) (.mk x [e])
 | pair (x:NT) (l r:Value) (e f:ET) (hk:x.k=10) (h1:TreeV w U l e) (h2:TreeV w U r f):TreeV w U (.iface 106 (.agg #[sV (aheadO x.t).1,.int .i64 (aheadO x.t).2,l,r])) (.mk x [e,f])
 | call (x:NT) (p:Option Addr) (cap:Nat) (es:List ET) (s:Nat→Value) (hk:x.k=11) (hc:es.length≤cap)
   (hp:0<es.length→∃ g,p=some ⟨g,0,none⟩∧U g∧∀ i,i<es.length→w.cell? ⟨g,i,none⟩=some (s i))
   (hs:∀ i e,es[i]?=some e→TreeV w U (s i) e):TreeV w U (.iface 110 (.agg #[sV x.t,.slice p es.length cap])) (.mk x es)
 | array (x:NT) (p:Option Addr) (cap:Nat) (es:List ET) (s:Nat→Value) (hk:x.k=12) (h20:0≤whole x.t∧whole x.t≤20) (hc:es.length≤cap)
   (hp:0<es.length→∃ g,p=some ⟨g,0,none⟩∧U g∧∀ i,i<es.length→w.cell? ⟨g,i,none⟩=some (s i))
   (hs:∀ i e,es[i]?=some e→TreeV w U (s i) e):TreeV w U (.iface 113 (.agg #[.int .i64 (whole x.t),.slice p es.length cap])) (.mk x es)
theorem TreeV.keep {w w':World} {U U':Nat→Prop} {v:Value} {e:ET} (h:TreeV w U v e) (hw:∀ k,U k→w'.heap[k]?=w.heap[k]?) (hu:∀ k,U k→U' k):TreeV w' U' v e:=by
 have hc:∀ (es:List ET) (s:Nat→Value) (p:Option Addr),(0<es.length→∃ g,p=some ⟨g,0,none⟩∧U g∧∀ i,i<es.length→w.cell? ⟨g,i,none⟩=some (s i))→(0<es.length→∃ g,p=some ⟨g,0,none⟩∧U' g∧∀ i,i<es.length→w'.cell? ⟨g,i,none⟩=some (s i)):=fun es s p h h0=>by
  obtain ⟨g,h1,h2,h3⟩:=h h0;refine ⟨g,h1,hu g h2,fun i hi=>?_⟩;rw [← h3 i hi];unfold World.cell?;simp only [hw g h2]
 induction h with
 | leaf x es hk=>exact .leaf x es hk
 | signed x v e hk _ ih=>exact .signed x v e hk ih
 | pair x l r e f hk _ _ ih1 ih2=>exact .pair x l r e f hk ih1 ih2
 | call x p cap es s hk hcc hp _ ih=>exact .call x p cap es s hk hcc (hc es s p hp) ih
 | array x p cap es s hk h20 hcc hp _ ih=>exact .array x p cap es s hk h20 hcc (hc es s p hp) ih
theorem TreeV.later {w w':World} {U:Nat→Prop} {v:Value} {e:ET} (h:TreeV w U v e) (hU:∀ k,U k→k<w.heap.size) (x:Ext w w'):TreeV w' U v e:=h.keep (fun k hk=>x.block k (hU k hk)) (fun _ h=>h)
theorem TreeV.kind {w:World} {U:Nat→Prop} {v:Value} {e:ET} (h:TreeV w U v e):KindV v e.n.k:=by
 cases h with
 | leaf x es hk=>exact KindV.leaf x
 | signed x v e hk h=>exact KindV.signed _ _
 | pair x l r e f hk h1 h2=>show KindV _ x.k;rw [hk];exact KindV.pair _ _ _ _
 | call x p cap es s hk hc hp hs=>show KindV _ x.k;rw [hk];exact KindV.call _ _ _ _
 | array x p cap es s hk h20 hc hp hs=>show KindV _ x.k;rw [hk];exact KindV.array _ _ _ _ h20.1 h20.2
theorem TreeV.shape {w:World} {U:Nat→Prop} {v:Value} {e:ET} (h:TreeV w U v e):ShapeV v e:=by
 refine ⟨h.kind,fun h8=>?_⟩;cases h with
 | leaf x es hk=>exact absurd h8 hk.1
 | signed x v e hk h=>exact ⟨v,e,by rw [show x.k=8 from h8],rfl,h.kind⟩
 | pair x l r e f hk h1 h2=>exact absurd (hk.symm.trans h8) (by decide)
 | call x p cap es s hk hc hp hs=>exact absurd (hk.symm.trans h8) (by decide)
 | array x p cap es s hk h20 hc hp hs=>exact absurd (hk.symm.trans h8) (by decide)
structure TreesV (w:World) (U:Nat→Prop) (vs:List Value) (es:List ET):Prop where
 len:vs.length=es.length
 get:∀ (i:Nat) (v:Value) (e:ET),vs[i]?=some v→es[i]?=some e→TreeV w U v e
theorem TreesV.shapes {w:World} {U:Nat→Prop} {vs:List Value} {es:List ET} (h:TreesV w U vs es):ShapesV vs es:=⟨h.len,fun i v e h1 h2=>(h.get i v e h1 h2).shape⟩
theorem TreesV.nil {w:World} {U:Nat→Prop}:TreesV w U [] []:=⟨rfl,fun i v e h=>by cases h⟩
theorem TreesV.keep {w w':World} {U U':Nat→Prop} {vs:List Value} {es:List ET} (h:TreesV w U vs es) (hw:∀ k,U k→w'.heap[k]?=w.heap[k]?) (hu:∀ k,U k→U' k):TreesV w' U' vs es:=⟨h.len,fun i v e h1 h2=>(h.get i v e h1 h2).keep hw hu⟩
theorem TreesV.snoc {w:World} {U:Nat→Prop} {vs:List Value} {es:List ET} (h:TreesV w U vs es) {v:Value} {e:ET} (hv:TreeV w U v e):TreesV w U (vs++[v]) (es++[e]):=by
 refine ⟨by rw [List.length_append,List.length_append,h.len];rfl,fun i u f h1 h2=>?_⟩;by_cases hi:i<vs.length
 ·rw [List.getElem?_append_left hi] at h1;rw [List.getElem?_append_left (by rw [← h.len];exact hi)] at h2;exact h.get i u f h1 h2
 ·rw [List.getElem?_append_right (by omega)] at h1;rw [List.getElem?_append_right (by rw [← h.len];omega),← h.len] at h2;have e0:i - vs.length=0:=by
   rcases Nat.eq_zero_or_pos (i - vs.length) with h | h
   ·exact h
   ·rw [List.getElem?_eq_none (by simp;omega)] at h1;cases h1
  rw [e0] at h1 h2;cases h1;cases h2;exact hv
theorem treeOverT (U:Nat→Prop) (x:NT) (v:Value) (vs:List Value) (ks:List ET) (w:World) (h:TreesAt w v vs) (hs:TreesV w U vs ks) (hU:∀ k,U k→k<w.heap.size) (hv:∀ g,v.ownBlock=some g→U g) (h8:x.k=8∨x.k=9→vs.length=1) (h10:x.k=10→vs.length=2) (h12:x.k=12→0≤whole x.t∧whole x.t≤20) (hl:x.t.length≤1048576) (hO:OpTab w) (LW:LibW w) :
  Calls Tryz.prog 58 #[x.val,v] w fun e w'=>∃ u,e=.returned u∧TreeV w' U u (.mk x ks)∧Ext w w':=by
 obtain ⟨p,cap,rfl,hc,hrow⟩:=h;have hgt:∀ {w'},Ext w w'→TreesV w' U vs ks:=fun x=>hs.keep (fun k hk=>x.block k (hU k hk)) (fun _ h=>h);have hcells:∀ {w'},Ext w w'→(0<ks.length→∃ g,p=some ⟨g,0,none⟩∧U g∧∀ i,i<ks.length→w'.cell? ⟨g,i,none⟩=some (vs.getD i .nilIface)):=fun x h0=>by
  rw [← hs.len] at h0;obtain ⟨g,rfl,V⟩:=hrow h0;refine ⟨g,rfl,hv g (by simp [Value.ownBlock]),fun i hi=>?_⟩;rw [← hs.len] at hi;have e1:vs[i]?=some (vs.getD i .nilIface):=by rw [List.getD_eq_getElem?_getD,List.getElem?_eq_getElem hi];rfl
  exact ((V.later x) i _ e1).1
 have hsub:∀ {w'},Ext w w'→∀ i e,ks[i]?=some e→TreeV w' U (vs.getD i .nilIface) e:=fun x i e he=>by
  have hi:i<vs.length:=by rw [hs.len];exact (List.getElem?_eq_some_iff.1 he).1
  exact (hgt x).get i _ e (by rw [List.getD_eq_getElem?_getD,List.getElem?_eq_getElem hi];rfl) he
 by_cases k8:x.k=8∨x.k=9
 ·have h1:=h8 k8;obtain ⟨g,rfl,V⟩:=hrow (by omega);obtain ⟨u',hu'⟩:=List.length_eq_one_iff.1 h1;obtain ⟨e',he'⟩:=List.length_eq_one_iff.1 (show ks.length=1 by rw [← hs.len];exact h1);subst hu' he';obtain ⟨T,a,rfl⟩:=(hs.get 0 _ _ rfl rfl).kind.iface;refine (treeOver8 x x.k k8 g cap T a w V).mono ?_;rintro e w' ⟨rfl,e1⟩;exact ⟨_,rfl,.signed x _ e' k8 ((hgt e1).get 0 _ _ rfl rfl),e1⟩
 ·by_cases k10:x.k=10
  ·have h2:=h10 k10;obtain ⟨g,rfl,V⟩:=hrow (by omega);obtain ⟨u1,u2,hu⟩:∃ u1 u2,vs=[u1,u2]:=by
    match vs,h2 with
    | [a,b],_=>exact ⟨a,b,rfl⟩
   subst hu;obtain ⟨e1,e2,hk⟩:∃ e1 e2,ks=[e1,e2]:=by
    have:=hs.len
    match ks,this with
    | [a,b],_=>exact ⟨a,b,rfl⟩
   subst hk;obtain ⟨T1,a1,rfl⟩:=(hs.get 0 _ _ rfl rfl).kind.iface;obtain ⟨T2,a2,rfl⟩:=(hs.get 1 _ _ rfl rfl).kind.iface;have:=treeOver10 x g cap T1 T2 a1 a2 w V hO;rw [← k10] at this;refine this.mono ?_;rintro e w' ⟨rfl,e3⟩;exact ⟨_,rfl,.pair x _ _ e1 e2 k10 ((hgt e3).get 0 _ _ rfl rfl) ((hgt e3).get 1 _ _ rfl rfl),e3⟩
  ·by_cases k11:x.k=11
   ·have:=treeOver11 x p vs.length cap w;rw [← k11] at this;refine this.mono ?_;rintro e w' ⟨rfl,e3⟩;rw [hs.len];exact ⟨_,rfl,.call x p cap ks (fun i=>vs.getD i .nilIface) k11 (by rw [← hs.len];exact hc) (hcells e3) (hsub e3),e3⟩
   ·by_cases k12:x.k=12
    ·have:=treeOver12 x p vs.length cap w hl LW;rw [← k12] at this;refine this.mono ?_;rintro e w' ⟨rfl,e3⟩;rw [hs.len];exact ⟨_,rfl,.array x p cap ks (fun i=>vs.getD i .nilIface) k12 (h12 k12) (by rw [← hs.len];exact hc) (hcells e3) (hsub e3),e3⟩
    ·refine (treeOverL x p vs.length cap w x.k (fun q=>k8 (.inl q)) (fun q=>k8 (.inr q)) k10 k11 k12).mono ?_;rintro e w' ⟨rfl,e3⟩;exact ⟨_,rfl,.leaf x ks ⟨fun q=>k8 (.inl q),fun q=>k8 (.inr q),k10,k11,k12⟩,e3⟩
structure ExtW (w:World) where
 wld:World
 ext:Ext w wld
instance (w:World):Nonempty (ExtW w):=⟨⟨w,xr w⟩⟩
theorem wp_region_quiet_ext {P:Program} {id:Nat} {Q:Exit→Act→World→Prop} {a:Act} {w:World} {l:List Oper} (hm:P.follows .mixedOrders=true) (hB:Region.lexB .any l.toArray=true)
  (h:wpQuiet P l.toArray (fun w'=>∃ p:ExtW w,w'=p.wld) (fun a'=>∀ w',(∃ p:ExtW w,w'=p.wld)→Q .normal a' w') l a):(Code.region id l.toArray true).wp P Q a w:=
 wp_region_quiet (C:=fun w'=>∃ p:ExtW w,w'=p.wld) hm hB ⟨⟨_,xd (xr w)⟩,rfl⟩ (by simpa using h)
theorem quiet_ext {P:Program} {f:FuncId} {args:Array Value} {w:World} {p:ExtW w} {v:Value} (h:Calls P f args p.wld fun e w'=>e=.returned v∧Ext p.wld w') :
  Calls P f args p.wld fun e w''=>e=.returned v∧∃ q:ExtW w,w''=q.wld:=
 h.mono fun _ w' ⟨he,X⟩=>⟨he,⟨w',xt p.ext X⟩,rfl⟩
theorem quiet_end {P:Program} {ops:Array Oper} {Q:Exit→Act→World→Prop} {a:Act} {w:World} (h:∀ w',Ext w w'→Q .normal a w') :
  wpQuiet P ops (fun w'=>∃ p:ExtW w,w'=p.wld) (fun a'=>∀ w',(∃ p:ExtW w,w'=p.wld)→Q .normal a' w') [] a:=
 wpQuiet_nil (by rintro _ ⟨p,rfl⟩;exact h p.wld p.ext)
theorem Vec.c14 {w:World} {b:Nat} {c0 c1 c2 c3 c4 c5 c6 c7 c8 c9 c10 c11 c12 c13:Value} {l:List Value} (h:Vec w b (c0 :: c1 :: c2 :: c3 :: c4 :: c5 :: c6 :: c7 :: c8 :: c9 :: c10 :: c11 :: c12 :: c13 :: l)):w.cell? ⟨b,0,none⟩=some c0∧w.cell? ⟨b,1,none⟩=some c1∧w.cell? ⟨b,2,none⟩=some c2∧w.cell? ⟨b,3,none⟩=some c3∧w.cell? ⟨b,4,none⟩=some c4∧w.cell? ⟨b,5,none⟩=some c5∧w.cell? ⟨b,6,none⟩=some c6∧w.cell? ⟨b,7,none⟩=some c7∧w.cell? ⟨b,8,none⟩=some c8∧w.cell? ⟨b,9,none⟩=some c9∧w.cell? ⟨b,10,none⟩=some c10∧w.cell? ⟨b,11,none⟩=some c11∧w.cell? ⟨b,12,none⟩=some c12∧w.cell? ⟨b,13,none⟩=some c13:=
 ⟨(h 0 _ rfl).1,(h 1 _ rfl).1,(h 2 _ rfl).1,(h 3 _ rfl).1,(h 4 _ rfl).1,(h 5 _ rfl).1,(h 6 _ rfl).1,(h 7 _ rfl).1,(h 8 _ rfl).1,(h 9 _ rfl).1,(h 10 _ rfl).1,(h 11 _ rfl).1,(h 12 _ rfl).1,(h 13 _ rfl).1⟩
theorem Vec.e14 {w:World} {b:Nat} {c0 c1 c2 c3 c4 c5 c6 c7 c8 c9 c10 c11 c12 c13:Value} {l:List Value} (h:Vec w b (c0 :: c1 :: c2 :: c3 :: c4 :: c5 :: c6 :: c7 :: c8 :: c9 :: c10 :: c11 :: c12 :: c13 :: l)):(∀ p:ExtW w,p.wld.cell? ⟨b,0,none⟩=some c0)∧(∀ p:ExtW w,p.wld.cell? ⟨b,1,none⟩=some c1)∧(∀ p:ExtW w,p.wld.cell? ⟨b,2,none⟩=some c2)∧(∀ p:ExtW w,p.wld.cell? ⟨b,3,none⟩=some c3)∧(∀ p:ExtW w,p.wld.cell? ⟨b,4,none⟩=some c4)∧(∀ p:ExtW w,p.wld.cell? ⟨b,5,none⟩=some c5)∧(∀ p:ExtW w,p.wld.cell? ⟨b,6,none⟩=some c6)∧(∀ p:ExtW w,p.wld.cell? ⟨b,7,none⟩=some c7)∧(∀ p:ExtW w,p.wld.cell? ⟨b,8,none⟩=some c8)∧(∀ p:ExtW w,p.wld.cell? ⟨b,9,none⟩=some c9)∧(∀ p:ExtW w,p.wld.cell? ⟨b,10,none⟩=some c10)∧(∀ p:ExtW w,p.wld.cell? ⟨b,11,none⟩=some c11)∧(∀ p:ExtW w,p.wld.cell? ⟨b,12,none⟩=some c12)∧(∀ p:ExtW w,p.wld.cell? ⟨b,13,none⟩=some c13):=
 ⟨fun p=>(h.later p.ext 0 _ rfl).1,fun p=>(h.later p.ext 1 _ rfl).1,fun p=>(h.later p.ext 2 _ rfl).1,fun p=>(h.later p.ext 3 _ rfl).1,fun p=>(h.later p.ext 4 _ rfl).1,fun p=>(h.later p.ext 5 _ rfl).1,fun p=>(h.later p.ext 6 _ rfl).1,fun p=>(h.later p.ext 7 _ rfl).1,fun p=>(h.later p.ext 8 _ rfl).1,fun p=>(h.later p.ext 9 _ rfl).1,fun p=>(h.later p.ext 10 _ rfl).1,fun p=>(h.later p.ext 11 _ rfl).1,fun p=>(h.later p.ext 12 _ rfl).1,fun p=>(h.later p.ext 13 _ rfl).1⟩
end Go.Proofs.YtogecaajnjcenaaGreatDoor

