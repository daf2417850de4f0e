/-
  Several texts in one: V7d, V7e, W9a, W9b, X9f, V7f, W9t, X9g.
-/
import Derived.Test.YtnphbpmdohidcaaDoorMg14
import Derived.BigQuiet
import Derived.Deep.QuietTactic
import Derived.Deep.DeepCutAuto
import Derived.Deep.AppendLies
import Derived.OwnWalk
import Derived.Laws.OwnMore
import Derived.Deep.RegionHeld3
import Derived.Laws.IdiomStrings
namespace Go.Proofs.YtnphbpmdohidcaaDoor
open Go.RowKit
abbrev grV (r c:Int) (v:Value):Value:=.agg #[.int .i64 r,.int .i64 c,v]
def gsidesB (r c n:Int):Bool:=decide (1≤r∧1≤c∧r * c≤2000∧n=r * c)
def VT.good (e:VT):Bool:=goodV e.k e.n e.d e.x e.t
def goodG (r c:Int) (l:List VT):Bool:=gsidesB r c l.length && l.all VT.good
theorem all_step {l:List VT} {k:Nat} {e:VT} (he:l[k]?=some e):(l.take (k+1)).all VT.good=((l.take k).all VT.good && e.good):=by
 rw [List.take_add_one,he];simp
theorem all_bad {l:List VT} {k:Nat} {e:VT} (he:l[k]?=some e) (hb:e.good=false):l.all VT.good=false:=by
 cases h:l.all VT.good with
 | false=>rfl
 | true=>have:=(List.all_eq_true.1 h) e (List.mem_of_getElem? he);rw [hb] at this;cases this
set_option maxRecDepth 8000 in
set_option maxHeartbeats 2000000 in
theorem goodGS (r c:Int) (v:Value) (l:List VT) (w:World) (h:ValsIn w v l) (hl:l.length≤2000000) (ht:∀ e ∈ l,e.t.length≤2000000) :
  Calls Tryd.prog 17 #[grV r c v] w fun e w'=>e=.returned (.bool (goodG r c l))∧Ext w w':=by
 obtain ⟨p,cap,rfl,hcap,hrow⟩:=h;obtain ⟨n,hn⟩:∃ n,l.length=n:=⟨_,rfl⟩;have HN:Hid (l.length=n):=hn;have HG:Hid (goodG r c l=(gsidesB r c n && l.all VT.good)):=by show _=_;unfold goodG;rw [hn]
 obtain ⟨R,hR⟩:∃ R,goodG r c l=R:=⟨_,rfl⟩;rw [hR] at HG ⊢;rw [hn] at hcap hl hrow ⊢;have HRow:Hid (0<n→∃ b o,p=some ⟨b,o,none⟩∧RowV w b o l):=hrow;have HT:Hid (∀ e ∈ l,e.t.length≤2000000):=ht;have X0:=x1 w (.cells #[.int .i64 r,.int .i64 c,.slice p n cap] 25);clear hn hrow hR ht;by_cases h1:r<1
 ·have HF:Hid (false=R):=by show _=_;rw [HG.out,show gsidesB r c n=false by simp [gsidesB];omega];rfl
  go_enter Tryd.func17,Tryd.ntmps17;go_wp2_with fail;go_ret;exact ⟨ret_bool HF.out,X0⟩
 by_cases h2:c<1
 ·have HF:Hid (false=R):=by show _=_;rw [HG.out,show gsidesB r c n=false by simp [gsidesB];omega];rfl
  go_enter Tryd.func17,Tryd.ntmps17;go_wp2_with fail;go_ret;exact ⟨ret_bool HF.out,X0⟩
 have grow1:r≤r * c:=by have:=Int.mul_le_mul_of_nonneg_left (show (1:Int)≤c by omega) (show 0≤r by omega);omega
 have grow2:c≤r * c:=by have:=Int.mul_le_mul_of_nonneg_right (show (1:Int)≤r by omega) (show 0≤c by omega);omega
 by_cases h3:2000<r
 ·have HF:Hid (false=R):=by show _=_;rw [HG.out,show gsidesB r c n=false by simp [gsidesB];omega];rfl
  clear grow1 grow2;go_enter Tryd.func17,Tryd.ntmps17;go_wp2_with fail;go_ret;exact ⟨ret_bool HF.out,X0⟩
 by_cases h4:2000<c
 ·have HF:Hid (false=R):=by show _=_;rw [HG.out,show gsidesB r c n=false by simp [gsidesB];omega];rfl
  clear grow1 grow2;go_enter Tryd.func17,Tryd.ntmps17;go_wp2_with fail;go_ret;exact ⟨ret_bool HF.out,X0⟩
 obtain ⟨m,hm⟩:∃ m,r * c=m:=⟨_,rfl⟩;have m0:m≤4000000:=by rw [← hm];have:=Int.mul_le_mul (show r≤2000 by omega) (show c≤2000 by omega) (by omega) (by omega);omega
 have m1:1≤m:=by omega
 have hwr:IntKind.i64.wrap (r * c)=m:=by rw [hm,IntKind.wrap_i64];omega
 have HS:Hid (gsidesB r c n=decide (m≤2000∧(n:Int)=m)):=by
  show _=_;unfold gsidesB;rw [hm];exact decide_eq_decide.2 (by omega)
 clear grow1 grow2;by_cases h5:2000<m
 ·have HF:Hid (false=R):=by show _=_;rw [HG.out,HS.out,decide_eq_false (by omega)];rfl
  clear hm;go_enter Tryd.func17,Tryd.ntmps17;go_wp2_with fail;go_ret;exact ⟨ret_bool HF.out,X0⟩
 by_cases h6:(n:Int) ≠ m
 ·have HF:Hid (false=R):=by show _=_;rw [HG.out,HS.out,decide_eq_false (by omega)];rfl
  clear hm;go_enter Tryd.func17,Tryd.ntmps17;go_wp2_with fail;go_ret;exact ⟨ret_bool HF.out,X0⟩
 have h6':(n:Int)=m:=by omega
 have HF:Hid (l.all VT.good=R):=by show _=_;rw [HG.out,HS.out,decide_eq_true (by omega)];rfl
 clear hm h6 HS HG;subst h6';go_enter Tryd.func17,Tryd.ntmps17;go_wp2_with fail;clear hwr;go_loopw [45] (fun i wr=>∃ k:Nat,k≤n∧i=.int .i64 k∧Hid ((l.take k).all VT.good=true)∧Ext w wr) (fun i _=>n - (intOf i).toNat)
 case atStart=>exact ⟨0,by omega,rfl,by show _=_;simp,X0⟩
 case round =>
  obtain ⟨k,hk,rfl,HA,X⟩:=hrel;by_cases hlt:k<n
  ·obtain ⟨e,he⟩:∃ e,l[k]?=some e:=⟨_,List.getElem?_eq_getElem (by rw [HN.out];exact hlt)⟩;obtain ⟨b,o,rfl,hR⟩:=HRow.out (by omega);obtain ⟨a0,a1,a2,a3,a4⟩:=(hR.later X).five he;have het:=HT.out e (List.mem_of_getElem? he);have HY:Hid ((l.take (k+1)).all VT.good=e.good):=by show _=_;rw [all_step he,HA.out];rfl
   have HZ:Hid (e.good=false→l.all VT.good=false):=fun hb=>all_bad he hb;have Y:=x1 wr (.cells #[.int .i64 e.k,.bool e.n,.int .i64 e.d,.int .i64 e.x,sV e.t] 46);have C:=fun W=>goodVS e.k e.n e.d e.x e.t W het;change ∀ W,Calls _ _ _ _ fun r w'=>r=.returned (.bool e.good)∧_ at C;obtain ⟨q,hq⟩:∃ q,e.good=q:=⟨_,rfl⟩;rw [hq] at C HY HZ;clear hq;obtain ⟨ek,en,ed,ex,et⟩:=e;have i2:(k:Int)<(n:Int):=by omega
   clear hR he HA;dsimp only at a0 a1 a2 a3 a4 C Y;go_wp2_with fail;clear a0 a1 a2 a3 a4;refine (C _).mono ?_;rintro rr w' ⟨rfl,E⟩;cases q
   ·have HB:Hid (false=R):=(by show _=_;rw [← HF.out];exact (HZ.out rfl).symm);go_wp2_with fail;go_ret;exact ⟨ret_bool HB.out,xt (xt X Y) E⟩
   ·go_wp2_with fail;go_roundw
    case rel=>exact ⟨k+1,by omega,by go_num,HY,xt (xt X Y) E⟩
    case measure=>simp [intOf];omega
  ·obtain rfl:k=n:=by omega
   have HB:Hid (true=R):=by
    show _=_;rw [← HF.out];have:=HA.out;rw [List.take_of_length_le (by rw [HN.out];exact Nat.le_refl _)] at this;exact this.symm
   clear HA;go_wp2_with fail;go_ret;exact ⟨ret_bool HB.out,X⟩
theorem xdNv {a b:World} (h:Ext a b) (n:Nat):Ext a (b.drewN n):=⟨h.os,h.tape,h.output,h.size,h.block⟩
set_option maxRecDepth 8000 in
set_option maxHeartbeats 2000000 in
theorem goodGI (r c:Int) (v:Value) (l:List VT) (w:World) (h:ValsIn w v l) (hl:l.length≤2000000) (ht:∀ e ∈ l,e.t.length≤2000000) (hd:∀ e ∈ l,-9223372036854775808≤e.d∧e.d≤9223372036854775807) (hT:Tens w) (hE:ErrTab w) :
  Calls Tryd.prog 10 #[grV r c v] w fun e w'=>e=.returned (.bool (goodG r c l))∧Ext w w':=by
 obtain ⟨p,cap,rfl,hcap,hrow⟩:=h;obtain ⟨n,hn⟩:∃ n,l.length=n:=⟨_,rfl⟩;have HN:Hid (l.length=n):=hn;have HG:Hid (goodG r c l=(gsidesB r c n && l.all VT.good)):=by show _=_;unfold goodG;rw [hn]
 obtain ⟨R,hR⟩:∃ R,goodG r c l=R:=⟨_,rfl⟩;rw [hR] at HG ⊢;rw [hn] at hcap hl hrow ⊢;have HRow:Hid (0<n→∃ b o,p=some ⟨b,o,none⟩∧RowV w b o l):=hrow;have HT:Hid (∀ e ∈ l,e.t.length≤2000000):=ht;have X0:=x1 w (.cells #[.int .i64 r,.int .i64 c,.slice p n cap] 25);have HD:Hid (∀ e ∈ l,-9223372036854775808≤e.d∧e.d≤9223372036854775807):=hd;have HTT:Hid (Tens w):=hT;have HEE:Hid (ErrTab w):=hE;clear hn hrow hR ht hd hT hE;by_cases h1:r<1
 ·have HF:Hid (false=R):=by show _=_;rw [HG.out,show gsidesB r c n=false by simp [gsidesB];omega];rfl
  have g1:decide (r<1)=true:=by simpa using h1
  go_enter Tryd.func10,Tryd.ntmps10;go_wp2_with fail;go_quiet (fail);go_wp2_with fail;go_ret;exact ⟨ret_bool HF.out,xdNv X0 _⟩
 have g1:decide (r<1)=false:=by simpa using h1
 by_cases h2:c<1
 ·have HF:Hid (false=R):=by show _=_;rw [HG.out,show gsidesB r c n=false by simp [gsidesB];omega];rfl
  have g2:decide (c<1)=true:=by simpa using h2
  go_enter Tryd.func10,Tryd.ntmps10;go_wp2_with fail;go_quiet (fail);go_wp2_with fail;go_ret;exact ⟨ret_bool HF.out,xdNv X0 _⟩
 have g2:decide (c<1)=false:=by simpa using h2
 have hdiv:r≤2000 / c ↔ r * c≤2000:=Int.le_ediv_iff_mul_le (by omega);have htd:Int.tdiv 2000 c=2000 / c:=Int.tdiv_eq_ediv_of_nonneg (by omega);obtain ⟨dv,hdv⟩:∃ dv,2000 / c=dv:=⟨_,rfl⟩;have dv0:0≤dv:=by rw [← hdv];exact Int.ediv_nonneg (by omega) (by omega)
 have dv1:dv≤2000:=by rw [← hdv];exact Int.ediv_le_self c (by omega)
 rw [hdv] at hdiv htd;clear hdv;by_cases h5:dv<r
 ·have HF:Hid (false=R):=by
   show _=_;rw [HG.out,show gsidesB r c n=false by simp only [gsidesB,decide_eq_false_iff_not];omega];rfl
  have g5:decide (dv<r)=true:=by simpa using h5
  clear hdiv;go_enter Tryd.func10,Tryd.ntmps10;go_wp2_with fail;go_quiet (fail);go_wp2_with fail;go_ret;exact ⟨ret_bool HF.out,xdNv X0 _⟩
 have g5:decide (dv<r)=false:=by simpa using h5
 obtain ⟨m,hm⟩:∃ m,r * c=m:=⟨_,rfl⟩;rw [hm] at hdiv;have m2:m≤2000:=by omega
 have m1:1≤m:=by rw [← hm];have:=Int.mul_le_mul_of_nonneg_left (show (1:Int)≤c by omega) (show 0≤r by omega);omega
 have hwr:IntKind.i64.wrap (r * c)=m:=by rw [hm,IntKind.wrap_i64];omega
 have HS:Hid (gsidesB r c n=decide (m≤2000∧(n:Int)=m)):=by
  show _=_;unfold gsidesB;rw [hm];exact decide_eq_decide.2 (by omega)
 clear hdiv;by_cases h6:(n:Int) ≠ m
 ·have HF:Hid (false=R):=by show _=_;rw [HG.out,HS.out,decide_eq_false (by omega)];rfl
  clear hm;have g6:((n:Int) != m)=true:=by simpa using h6
  go_enter Tryd.func10,Tryd.ntmps10;go_wp2_with fail;go_quiet (fail);go_wp2_with fail;go_ret;exact ⟨ret_bool HF.out,xdNv X0 _⟩
 have h6':(n:Int)=m:=by omega
 have HF:Hid (l.all VT.good=R):=by show _=_;rw [HG.out,HS.out,decide_eq_true (by omega)];rfl
 clear hm h6 HS HG;subst h6';go_enter Tryd.func10,Tryd.ntmps10;go_wp2_with fail;go_quiet (fail);go_wp2_with fail;clear hwr htd;go_loopw [35] (fun i wr=>∃ k:Nat,k≤n∧i=.int .i64 k∧Hid ((l.take k).all VT.good=true)∧Ext w wr) (fun i _=>n - (intOf i).toNat)
 case atStart=>exact ⟨0,by omega,rfl,by show _=_;simp,xdNv X0 _⟩
 case round =>
  obtain ⟨k,hk,rfl,HA,X⟩:=hrel;by_cases hlt:k<n
  ·obtain ⟨e,he⟩:∃ e,l[k]?=some e:=⟨_,List.getElem?_eq_getElem (by rw [HN.out];exact hlt)⟩;obtain ⟨b,o,rfl,hR⟩:=HRow.out (by omega);obtain ⟨a0,a1,a2,a3,a4⟩:=(hR.later X).five he;have het:=HT.out e (List.mem_of_getElem? he);have HY:Hid ((l.take (k+1)).all VT.good=e.good):=by show _=_;rw [all_step he,HA.out];rfl
   have HZ:Hid (e.good=false→l.all VT.good=false):=fun hb=>all_bad he hb;have Y:=x1 wr (.cells #[.int .i64 e.k,.bool e.n,.int .i64 e.d,.int .i64 e.x,sV e.t] 46);have hed:=HD.out e (List.mem_of_getElem? he);have C:=goodVI e.k e.n e.d e.x e.t _ het hed.1 hed.2 (HTT.out.later (xt X Y)) (HEE.out.later (xt X Y));change Calls _ _ _ _ fun r w'=>r=.returned (.bool e.good)∧_ at C;clear hed;obtain ⟨q,hq⟩:∃ q,e.good=q:=⟨_,rfl⟩;rw [hq] at C HY HZ;clear hq;obtain ⟨ek,en,ed,ex,et⟩:=e;have i2:(k:Int)<(n:Int):=by omega
   clear hR he HA;dsimp only at a0 a1 a2 a3 a4 C Y;go_wp2_with fail;clear a0 a1 a2 a3 a4;refine C.mono ?_;rintro rr w' ⟨rfl,E⟩;cases q
   ·have HB:Hid (false=R):=(by show _=_;rw [← HF.out];exact (HZ.out rfl).symm);go_wp2_with fail;go_ret;exact ⟨ret_bool HB.out,xt (xt X Y) E⟩
   ·go_wp2_with fail;go_roundw
    case rel=>exact ⟨k+1,by omega,by go_num,HY,xt (xt X Y) E⟩
    case measure=>simp [intOf];omega
  ·obtain rfl:k=n:=by omega
   have HB:Hid (true=R):=by
    show _=_;rw [← HF.out];have:=HA.out;rw [List.take_of_length_le (by rw [HN.out];exact Nat.le_refl _)] at this;exact this.symm
   clear HA;go_wp2_with fail;go_ret;exact ⟨ret_bool HB.out,X⟩
def flatV:List VT→List Value
 | []=>[]
 | x :: l=>x.cells++flatV l
theorem flatV_append (l m:List VT):flatV (l++m)=flatV l++flatV m:=by
 induction l with
 | nil=>rfl
 | cons x l ih=>simp [flatV,ih]
theorem flatV_length (l:List VT):(flatV l).length=l.length * 5:=by
 induction l with
 | nil=>rfl
 | cons x l ih=>simp [flatV,VT.cells,valL,ih];omega
theorem flatV_at {l:List VT} {i:Nat} {x:VT} (h:l[i]?=some x) (j:Nat) (hj:j<5):(flatV l)[i * 5+j]?=x.cells[j]?:=by
 induction l generalizing i with
 | nil=>cases h
 | cons y l ih =>
  have h5:y.cells.length=5:=rfl;cases i with
  | zero =>
   have:y=x:=by simpa using h
   subst this;show (y.cells++flatV l)[0 * 5+j]?=_;rw [Nat.zero_mul,Nat.zero_add,List.getElem?_append_left (by omega)]
  | succ i =>
   show (y.cells++flatV l)[(i+1) * 5+j]?=_;rw [List.getElem?_append_right (by omega),show (i+1) * 5+j - y.cells.length=i * 5+j by omega];exact ih (by simpa using h)
abbrev OwnW (w:World) (base:Nat) (v:Value) (l:List VT):Prop:=w.ownsRow base 46 5 v l.length (flatV l)
theorem ownW_later {w w':World} {base:Nat} {v:Value} {l:List VT} (h:OwnW w base v l) (hx:Ext w w'):OwnW w' base v l:=by
 refine ⟨h.1,h.2.imp id ?_⟩;rintro ⟨g,cap,cur,h1,h2,h3,h4⟩;have hlt:g<w.heap.size:=by
  rcases Nat.lt_or_ge g w.heap.size with h' | h'
  ·exact h'
  ·rw [Array.getElem?_eq_none h'] at h3;cases h3
 exact ⟨g,cap,cur,h1,h2,by rw [hx.block g hlt];exact h3,h4⟩
theorem ownW_block {w:World} {base:Nat} {v:Value} {l:List VT} (h:OwnW w base v l):∀ r,v.ownBlock=some r→base≤r:=by
 intro r hr
 rcases h.2 with ⟨rfl,_⟩ | ⟨g,cap,cur,rfl,h2,_⟩
 ·cases hr
 ·have:g=r:=by simpa [Value.ownBlock] using hr
  omega
theorem ownW_base {w:World} {base base':Nat} {v:Value} {l:List VT} (h:OwnW w base v l) (hb:base'≤base):OwnW w base' v l:=by
 refine ⟨h.1,h.2.imp id ?_⟩;rintro ⟨g,cap,cur,h1,h2,h3⟩;exact ⟨g,cap,cur,h1,Nat.le_trans hb h2,h3⟩
theorem ownW_keep {w w':World} {base:Nat} {v:Value} {l:List VT} {row:Option Nat} (h:OwnW w base v l) (hg:w.grownBy w' row) (hr:∀ k,row=some k→k<base):OwnW w' base v l:=by
 refine ⟨h.1,h.2.imp id ?_⟩;rintro ⟨g,cap,cur,h1,h2,h3,h4⟩;have hlt:g<w.heap.size:=by
  rcases Nat.lt_or_ge g w.heap.size with h' | h'
  ·exact h'
  ·rw [Array.getElem?_eq_none h'] at h3;cases h3
 exact ⟨g,cap,cur,h1,h2,by rw [hg.block g hlt (fun e=>by have:=hr g e.symm;omega)];exact h3,h4⟩
theorem ownW_slice {w:World} {base:Nat} {v:Value} {l:List VT} (h:OwnW w base v l):∃ p n c,v=.slice p n c:=by
 rcases h.2 with ⟨rfl,_⟩ | ⟨g,cap,cur,rfl,_⟩
 ·exact ⟨_,_,_,rfl⟩
 ·exact ⟨_,_,_,rfl⟩
theorem ownW_vals {w:World} {base:Nat} {v:Value} {l:List VT} (h:OwnW w base v l):ValsIn w v l:=by
 rcases h.2 with ⟨rfl,h0⟩ | ⟨g,cap,cur,rfl,hb,hg,hc,_,hcs,htake⟩
 ·exact ⟨none,0,by rw [h0],by omega,fun h=>absurd h0 (by omega)⟩
 ·refine ⟨_,cap,rfl,hc,fun _=>⟨g,0,rfl,fun i e hi c u hu=>?_⟩⟩;have:=h.cells (g:=g) rfl (i * 5+c) u ((flatV_at hi c (cells_lt hu)).trans hu);rw [show (⟨g,0,none⟩:Addr).add (i * 5+c)=⟨g,0+i * 5+c,none⟩ by unfold Addr.add;split <;> simp_all] at this;exact this
theorem ownW_far {w:World} {base:Nat} {v:Value} {l:List VT} (h:OwnW w base v l) {p:Addr} (hp:p.block<base) (u:Value):OwnW (w.setCell p u) base v l:=by
 refine ⟨h.1,h.2.imp id ?_⟩;rintro ⟨g,cap,cur,h1,h2,h3,h4⟩;exact ⟨g,cap,cur,h1,h2,by rw [heap_setCell_other _ _ _ _ (by omega)];exact h3,h4⟩
theorem vec_same {w w':World} {b:Nat} {l:List Value} (h:Vec w b l) (e:w'.heap[b]?=w.heap[b]?):Vec w' b l:=fun i u hi=>by
 have:=h i u hi;unfold World.cell? World.frozen? at this ⊢;simp only [e];exact this
theorem finG {a w:World} {b:Nat} (V:Vec w b [.int .i64 0,.int .i64 0,.slice none 0 0]) (X:Ext a w) (hb:a.heap.size≤b) (R C:Int) (sv:Value) :
  ∃ wy,((w.setCell ⟨b,0,none⟩ (.int .i64 R)).setCell ⟨b,1,none⟩ (.int .i64 C)).setCell ⟨b,2,none⟩ sv=wy∧Ext a wy∧(w.cell? ⟨b,0,none⟩=some (.int .i64 0)∧w.cell? ⟨b,1,none⟩=some (.int .i64 0)∧w.cell? ⟨b,2,none⟩=some (.slice none 0 0))∧(w.frozen? ⟨b,0,none⟩=false∧w.frozen? ⟨b,1,none⟩=false∧w.frozen? ⟨b,2,none⟩=false)∧wy.cell? ⟨b,0,none⟩=some (.int .i64 R)∧wy.cell? ⟨b,1,none⟩=some (.int .i64 C)∧wy.cell? ⟨b,2,none⟩=some sv:=
 ⟨_,rfl,Ext.setL (b:=b) hb [.int .i64 R,.int .i64 C,sv] 0 X,V.three,V.threeF,Vec.three (((V.put 0 (by simp) (.int .i64 R)).put 1 (by simp) (.int .i64 C)).put 2 (by simp) sv)⟩
theorem newG (w:World) (R C:Int) (p:Option Addr) (n c:Nat) :
  ∃ wz wy,w.alloc (.cells #[.int .i64 0,.int .i64 0,.slice none 0 0] 25)=wz∧((wz.setCell ⟨w.heap.size,0,none⟩ (.int .i64 R)).setCell ⟨w.heap.size,1,none⟩ (.int .i64 C)).setCell ⟨w.heap.size,2,none⟩ (.slice p n c)=wy∧Vec wy w.heap.size [.int .i64 R,.int .i64 C,.slice p n c]∧Ext w wy∧(wz.cell? ⟨w.heap.size,0,none⟩=some (.int .i64 0)∧wz.cell? ⟨w.heap.size,1,none⟩=some (.int .i64 0)∧wz.cell? ⟨w.heap.size,2,none⟩=some (.slice none 0 0))∧wz.frozen? ⟨w.heap.size,0,none⟩=false∧wz.frozen? ⟨w.heap.size,1,none⟩=false∧wz.frozen? ⟨w.heap.size,2,none⟩=false:=by
 have Z:=vec_made w [.int .i64 0,.int .i64 0,.slice none 0 0] 25;exact ⟨_,_,rfl,rfl,((Z.put 0 (by simp) (.int .i64 R)).put 1 (by simp) (.int .i64 C)).put 2 (by simp) _,Ext.setL (b:=w.heap.size) (Nat.le_refl _) [.int .i64 R,.int .i64 C,.slice p n c] 0 (x1 w _),Z.three,Z.threeF⟩
theorem goodG_all {r c:Int} {l:List VT} (h:goodG r c l=true):gsidesB r c l.length=true∧(∀ e ∈ l,e.good=true)∧(1≤r∧r≤2000)∧1≤c∧c≤2000:=by
 unfold goodG at h;rw [Bool.and_eq_true] at h;have hs:1≤r∧1≤c∧r * c≤2000∧(l.length:Int)=r * c:=of_decide_eq_true h.1;have g1:r≤r * c:=by have:=Int.mul_le_mul_of_nonneg_left (show (1:Int)≤c by omega) (show 0≤r by omega);omega
 have g2:c≤r * c:=by have:=Int.mul_le_mul_of_nonneg_right (show (1:Int)≤r by omega) (show 0≤c by omega);omega
 exact ⟨h.1,List.all_eq_true.1 h.2,by omega⟩
theorem infoW:∃ inf,Tryd.prog.info? 46=some inf∧inf.zero=some (valV 0 false 0 0 [])∧inf.size=5∧inf.bytes=48:=by
 obtain ⟨inf,e1,e2⟩:=Option.map_eq_some_iff.1 infoV;simp only [Prod.mk.injEq] at e2;exact ⟨inf,e1,e2.1,e2.2.1,e2.2.2⟩
def okE (e:VT):Prop:=0≤e.d∧e.d<1000000000000000∧e.t.length≤2000
theorem Only.own {w w':World} {b base:Nat} {v:Value} {l:List VT} (o:Only b w w') (h:OwnW w base v l) (hb:b<base):OwnW w' base v l:=ownW_keep h o.to_grown (fun k hk=>by cases hk;exact hb)
theorem Vec.put3 {w:World} {b:Nat} {v0 v1 v2:Value} (h:Vec w b [v0,v1,v2]) (u0 u1 u2:Value):Vec (((w.setCell ⟨b,0,none⟩ u0).setCell ⟨b,1,none⟩ u1).setCell ⟨b,2,none⟩ u2) b [u0,u1,u2]:=
 ((h.put 0 (by simp) u0).put 1 (by simp) u1).put 2 (by simp) u2
def RowAt (w:World) (v:Value) (n:Nat) (M:List Value):Prop:=
 M.length=n * 5∧∃ p cap,v=.slice p n cap∧n≤cap∧(0<n→∃ g,p=some ⟨g,0,none⟩∧Vec w g M)
theorem RowAt.later {w w':World} {v:Value} {n:Nat} {M:List Value} (h:RowAt w v n M) (e:Ext w w'):RowAt w' v n M:=by
 obtain ⟨h1,p,cap,hv,hc,hg⟩:=h;refine ⟨h1,p,cap,hv,hc,fun h0=>?_⟩;obtain ⟨g,hp,hV⟩:=hg h0;exact ⟨g,hp,hV.later e⟩
theorem RowAt.of_row {w:World} {base:Nat} {v:Value} {l:List VT} (h:OwnW w base v l):RowAt w v l.length (flatV l):=by
 refine ⟨flatV_length l,?_⟩
 rcases h.2 with ⟨rfl,h0⟩ | ⟨g,cap,cur,rfl,hb,hg,hc,_,hcs,htake⟩
 ·exact ⟨none,0,by rw [h0],by omega,fun h=>absurd h0 (by omega)⟩
 ·refine ⟨_,cap,rfl,hc,fun _=>⟨g,rfl,fun i u hi=>⟨?_,?_⟩⟩⟩
  ·have:=h.cells (g:=g) rfl i u hi;rw [show (⟨g,0,none⟩:Addr).add i=⟨g,i,none⟩ by unfold Addr.add;split <;> simp_all] at this;exact this
  ·simp [World.frozen?,hg]
theorem RowAt.vals {w:World} {v:Value} {l:List VT} (h:RowAt w v l.length (flatV l)):ValsIn w v l:=by
 obtain ⟨_,p,cap,rfl,hc,hg⟩:=h;refine ⟨p,cap,rfl,hc,fun h0=>?_⟩;obtain ⟨g,hp,V⟩:=hg h0;refine ⟨g,0,hp,fun i e hi c u hu=>?_⟩;rw [Nat.zero_add];exact (V _ u ((flatV_at hi c (cells_lt hu)).trans hu)).1
theorem RowAt.far {w:World} {v:Value} {l:List VT} (h:RowAt w v l.length (flatV l)) {b:Nat} {i0 i1:Int} {s:Value} (B:Vec w b [.int .i64 i0,.int .i64 i1,s]) (us:List Value):RowAt (setL w b 0 us) v l.length (flatV l):=by
 obtain ⟨h1,p,cap,rfl,hc,hg⟩:=h;refine ⟨h1,p,cap,rfl,hc,fun h0=>?_⟩;obtain ⟨g,hp,V⟩:=hg h0;refine ⟨g,hp,Vec.farL (fun e=>?_) us 0 V⟩;subst e;obtain ⟨e0,he⟩:∃ e,l[0]?=some e:=⟨_,List.getElem?_eq_getElem h0⟩;have q1:=(V (0 * 5+1) _ ((flatV_at he 1 (by omega)).trans rfl)).1;have q2:=(B 1 _ rfl).1;rw [show 0 * 5+1=1 from rfl,q2] at q1;cases q1
theorem RowAt.keep {w w':World} {v:Value} {n:Nat} {M:List Value} {row:Option Nat} (h:RowAt w v n M) (hg:w.grownBy w' row) (hr:∀ g,0<n→v.ownBlock=some g→some g ≠ row):RowAt w' v n M:=by
 obtain ⟨h1,p,cap,rfl,hc,hp⟩:=h;refine ⟨h1,p,cap,rfl,hc,fun h0=>?_⟩;obtain ⟨g,rfl,V⟩:=hp h0;have hlt:g<w.heap.size:=World.block_lt_of_cell? w ⟨g,0,none⟩ (V 0 _ (List.getElem?_eq_getElem (by omega))).1;exact ⟨g,rfl,vec_same V (hg.block g hlt (hr g h0 rfl))⟩
structure OnlyTwo (b:Nat) (r:Option Nat) (w w':World):Prop where
 os:w'.os=w.os
 tape:w'.tape=w.tape
 output:w'.output=w.output
 size:w.heap.size≤w'.heap.size
 block:∀ k,k ≠ b→some k ≠ r→k<w.heap.size→w'.heap[k]?=w.heap[k]?
theorem Only.two {b:Nat} {w w':World} (h:Only b w w') (r:Option Nat):OnlyTwo b r w w':=⟨h.os,h.tape,h.output,h.size,fun k hk _ hl=>h.block k hk hl⟩
theorem OnlyTwo.vec {b k:Nat} {r:Option Nat} {w w':World} {l:List Value} (h:OnlyTwo b r w w') (hk:k ≠ b) (hr:some k ≠ r) (hl:k<w.heap.size) (V:Vec w k l):Vec w' k l:=vec_same V (h.block k hk hr hl)
theorem two_row {b g:Nat} {a w:World} (h:OnlyTwo b (some g) a w) (i:Nat) (u:Value):OnlyTwo b (some g) a (w.setCell ⟨g,i,none⟩ u):=
 ⟨h.os,h.tape,h.output,by rw [World.size_setCell];exact h.size,fun k h1 h2 h3=>by rw [heap_setCell_other _ _ _ _ (fun e=>h2 (congrArg some e))];exact h.block k h1 h2 h3⟩
theorem RowAt.only {w w':World} {b n:Nat} {v:Value} {M:List Value} (h:RowAt w v n M) (o:Only b w w') (hb:∀ g,v.ownBlock=some g→b ≠ g):RowAt w' v n M:=h.keep o.to_grown (fun g _ hg e=>hb g hg (by cases e;rfl))
theorem finOG {a w:World} {b base K r g n cap:Nat} {M:List Value} {i0 i1:Int} {s0:Value} (V:Vec w r [.int .i64 i0,.int .i64 i1,s0]) (C:Cur w b base K) (RA:RowAt w (.slice (some ⟨g,0,none⟩) n cap) n M) (T:OnlyTwo b (some g) a w) (hr:a.heap.size≤r) (hb:b ≠ r) (hbase:base≤r) (hgr:g<a.heap.size) (R C':Int) :
  ∃ wy,((w.setCell ⟨r,0,none⟩ (.int .i64 R)).setCell ⟨r,1,none⟩ (.int .i64 C')).setCell ⟨r,2,none⟩ (.slice (some ⟨g,0,none⟩) n cap)=wy∧w.cell? ⟨r,0,none⟩=some (.int .i64 i0)∧w.cell? ⟨r,1,none⟩=some (.int .i64 i1)∧w.cell? ⟨r,2,none⟩=some s0∧w.frozen? ⟨r,0,none⟩=false∧w.frozen? ⟨r,1,none⟩=false∧w.frozen? ⟨r,2,none⟩=false∧wy.cell? ⟨r,0,none⟩=some (.int .i64 R)∧wy.cell? ⟨r,1,none⟩=some (.int .i64 C')∧wy.cell? ⟨r,2,none⟩=some (.slice (some ⟨g,0,none⟩) n cap)∧Cur wy b base K∧RowAt wy (.slice (some ⟨g,0,none⟩) n cap) n M∧OnlyTwo b (some g) a wy:=by
 obtain ⟨v0,v1,v2⟩:=Vec.three (((V.put 0 (by simp) (.int .i64 R)).put 1 (by simp) (.int .i64 C')).put 2 (by simp) (.slice (some ⟨g,0,none⟩) n cap));obtain ⟨u0,u1,u2⟩:=V.three;obtain ⟨f0,f1,f2⟩:=V.threeF;have st:∀ {w1:World} {i:Nat} {u:Value},OnlyTwo b (some g) a w1→OnlyTwo b (some g) a (w1.setCell ⟨r,i,none⟩ u):=fun h=>⟨h.os,h.tape,h.output,by rw [World.size_setCell];exact h.size,fun k h1 h2 h3=>by rw [heap_setCell_other _ _ _ _ (by show k ≠ r;omega)];exact h.block k h1 h2 h3⟩;have sr:∀ {w1:World} {i:Nat} {u:Value},RowAt w1 (.slice (some ⟨g,0,none⟩) n cap) n M→RowAt (w1.setCell ⟨r,i,none⟩ u) (.slice (some ⟨g,0,none⟩) n cap) n M:=fun h=>by
  obtain ⟨h1,p,c,hv,hc,hp⟩:=h;refine ⟨h1,p,c,hv,hc,fun h0=>?_⟩;obtain ⟨g',rfl,V'⟩:=hp h0;cases hv;exact ⟨g,rfl,V'.far (by show r ≠ g;omega) _⟩
 exact ⟨_,rfl,u0,u1,u2,f0,f1,f2,v0,v1,v2,((C.far hb hbase _).far hb hbase _).far hb hbase _,sr (sr (sr RA)),st (st (st T))⟩
set_option maxRecDepth 8000 in
set_option maxHeartbeats 2000000 in
theorem oddGridC (b base K:Nat) (R C:Int) (sv:Value) (l:List VT) (w:World) (h:Cur w b base K) (hK:K≤900000) (hr:RowAt w sv l.length (flatV l)) (hb:∀ g,sv.ownBlock=some g→b ≠ g∧base≤g) (h0:0<l.length) (hl:l.length≤64) (he:∀ q ∈ l,okE q) (R0:0≤R) (R1:R≤10) :
  Calls Tryd.prog 23 #[.pointer (some ⟨b,0,none⟩),grV R C sv] w fun e w'=>(∃ (R' C':Int) (l':List VT),e=.returned (grV R' C' sv)∧RowAt w' sv l'.length (flatV l')∧l'.length=l.length∧∀ q ∈ l',okE q)∧Cur w' b base (K+4)∧OnlyTwo b sv.ownBlock w w':=by
 have bl:=h.lt;have bb:=h.baseC;obtain ⟨hM,ps,cap,rfl,hcap,hp⟩:=id hr;obtain ⟨g,rfl,VR⟩:=hp h0;have hbg:=hb g rfl;have ltg:g<w.heap.size:=World.block_lt_of_cell? w ⟨g,0,none⟩ (VR 0 _ (List.getElem?_eq_getElem (by omega))).1;have hOb:Hid ((Value.slice (some ⟨g,0,none⟩) l.length cap).ownBlock=some g):=rfl;obtain ⟨n,hn⟩:∃ n,l.length=n:=⟨_,rfl⟩;have HN:Hid (l.length=n):=hn;rw [hn] at hr hcap h0 hl hOb ⊢;clear hp hn;obtain ⟨u0,u1,hh0,h1,s0,s1,B0,B1,X⟩:=mkB2 w [.int .i64 R,.int .i64 C,.slice (some ⟨g,0,none⟩) n cap] [.int .i64 0,.int .i64 0,.slice none 0 0] 25 25;have C0:=h.ext X;go_enter Tryd.func23,Tryd.ntmps23;go_wp2_with fail;clear hh0 h1;refine (pickC b base K 40 _ C0 (by omega) (by omega) (by omega)).mono ?_;rintro e w1 ⟨y,rfl,⟨y0,y9⟩,C1,o1⟩;have V0:=o1.vecC (by omega) B0;have V1:=o1.vecC (by omega) B1;have O1:=(Only.of_ext X).trans o1;have RA:RowAt w1 (.slice (some ⟨g,0,none⟩) n cap) n (flatV l):=hr.only O1 (fun q hq=>by have:=hb q hq;omega);clear C0 o1 X B0 B1 s0 s1;by_cases q0:y=0
 ·subst q0;clear y0 y9;go_upto_region 3 with fail;refine wp_region_letters (fun lx:Nat→Value=>{ tmps:=#[Value.pointer (some ⟨b,0,none⟩),grV R C (Value.slice (some ⟨g,0,none⟩) n cap),undef,Value.pointer (some ⟨w.heap.size,0,none⟩),Value.pointer (some ⟨w.heap.size+1,0,none⟩),Value.pointer (some ⟨b,0,none⟩),Value.int .i64 0,Value.bool true,Value.bool true,lx 9,lx 10,lx 11,lx 12,lx 13,lx 14,lx 15,undef,undef,undef,undef,undef,undef,undef,undef,undef,undef],defers:=[] }) (fun L lx lw=>Hid (Only b w lw∧(L 3=false→Cur lw b base (K+2))∧(L 3=true→Cur lw b base (K+2+2))∧(L 7=false→Vec lw w.heap.size [.int .i64 R,.int .i64 C,.slice (some ⟨g,0,none⟩) n cap])∧(L 7=true→∃ R2:Int,Vec lw w.heap.size [.int .i64 R2,.int .i64 C,.slice (some ⟨g,0,none⟩) n cap])∧Vec lw (w.heap.size+1) [.int .i64 0,.int .i64 0,.slice none 0 0]∧(L 0=true→lx 9=Value.pointer (some ⟨w.heap.size,0,none⟩))∧(L 1=true→lx 10=.int .i64 R)∧(L 2=true→lx 11=Value.pointer (some ⟨b,0,none⟩))∧(L 3=true→∃ z:Int,lx 12=.int .i64 z∧0≤z∧z<3)∧(L 4=true→∃ z:Int,lx 13=.int .i64 z ∧ -1≤z∧z<2)∧(L 5=true→∃ z:Int,lx 14=.int .i64 z)∧(L 6=true→lx 15=Value.pointer (some ⟨w.heap.size,0,none⟩))∧(L 7=true→L 1=true))) rfl (by kernel_rfl) (fun jj=>undef) rfl ?_ ?_ ?_
  ·have DD:=xd (xr w1);exact ⟨O1.trans (Only.of_ext DD),(fun _=>C1.ext DD),(fun z=>by cases z),(fun _=>V0.later DD),(fun z=>by cases z),V1.later DD,(fun z=>by cases z),(fun z=>by cases z),(fun z=>by cases z),(fun z=>by cases z),(fun z=>by cases z),(fun z=>by cases z),(fun z=>by cases z),(fun z=>by cases z)⟩
  ·intro L lx wl i o K1 hK ho hL haf hI;obtain ⟨f0,f1,f2,f3,f4,f5,f6,f7,f8,f9,f10,f11,f12,f13⟩:=hI.out
   match i,ho,hL,haf,hK with
   | 0,ho,hL,haf,hK =>
    cases ho
    (try dsimp only)
    go_wp2_with fail;exact hK (fun jj=>if jj=9 then Value.pointer (some ⟨w.heap.size,0,none⟩) else lx jj) _ ⟨f0,f1,f2,f3,f4,f5,(fun _=>rfl),f7,f8,f9,f10,f11,f12,f13⟩
   | 1,ho,hL,haf,hK =>
    cases ho
    (try dsimp only)
    have h7:L 7=false:=by
     cases hh:L 7 with
     | false=>rfl
     | true=>have:=f13 hh;rw [hL] at this;cases this
    have a0:=((f3 h7) 0 _ rfl).1;rw [f6 (haf ⟨0,.data⟩ (by simp) rfl)];go_wp2_with fail;exact hK (fun jj=>if jj=10 then .int .i64 R else if jj=9 then Value.pointer (some ⟨w.heap.size,0,none⟩) else lx jj) _ ⟨f0,f1,f2,f3,f4,f5,(fun _=>rfl),(fun _=>rfl),f8,f9,f10,f11,f12,(fun _=>rfl)⟩
   | 2,ho,hL,haf,hK =>
    cases ho
    (try dsimp only)
    go_wp2_with fail;exact hK (fun jj=>if jj=11 then Value.pointer (some ⟨b,0,none⟩) else lx jj) _ ⟨f0,f1,f2,f3,f4,f5,f6,f7,(fun _=>rfl),f9,f10,f11,f12,f13⟩
   | 3,ho,hL,haf,hK =>
    cases ho
    (try dsimp only)
    rw [f8 (haf ⟨2,.data⟩ (by simp) rfl)];go_wp2_with fail;refine (pickC b base _ 3 wl (f1 hL) (by omega) (by omega) (by omega)).mono ?_;rintro rr w' ⟨z,rfl,zb,CC,o⟩;go_wp2_with fail;exact hK (fun jj=>if jj=12 then .int .i64 z else if jj=11 then Value.pointer (some ⟨b,0,none⟩) else lx jj) _ ⟨(f0.trans o),(fun z=>by cases z),(fun _=>CC),(fun z=>o.vecC (by omega) (f3 z)),(fun z=>by obtain ⟨r2,g1⟩:=f4 z;exact ⟨r2,o.vecC (by omega) g1⟩),(o.vecC (by omega) f5),f6,f7,(fun _=>rfl),(fun _=>⟨z,rfl,zb⟩),f10,f11,f12,f13⟩
   | 4,ho,hL,haf,hK =>
    cases ho
    (try dsimp only)
    obtain ⟨z,e12,z0,z1⟩:=f9 (haf ⟨3,.data⟩ (by simp) rfl);rw [e12];go_wp2_with fail;exact hK (fun jj=>if jj=13 then .int .i64 (z - 1) else if jj=12 then .int .i64 z else lx jj) _ ⟨f0,f1,f2,f3,f4,f5,f6,f7,f8,(fun _=>⟨z,rfl,z0,z1⟩),(fun _=>⟨z - 1,rfl,by omega,by omega⟩),f11,f12,f13⟩
   | 5,ho,hL,haf,hK =>
    cases ho
    (try dsimp only)
    obtain ⟨z,e13,z0,z1⟩:=f10 (haf ⟨4,.data⟩ (by simp) rfl);rw [f7 (haf ⟨1,.data⟩ (by simp) rfl),e13];go_wp2_with fail;exact hK (fun jj=>if jj=14 then .int .i64 (R+z) else if jj=10 then .int .i64 R else if jj=13 then .int .i64 z else lx jj) _ ⟨f0,f1,f2,f3,f4,f5,f6,(fun _=>rfl),f8,f9,(fun _=>⟨z,rfl,z0,z1⟩),(fun _=>⟨R+z,rfl⟩),f12,f13⟩
   | 6,ho,hL,haf,hK =>
    cases ho
    (try dsimp only)
    go_wp2_with fail;exact hK (fun jj=>if jj=15 then Value.pointer (some ⟨w.heap.size,0,none⟩) else lx jj) _ ⟨f0,f1,f2,f3,f4,f5,f6,f7,f8,f9,f10,f11,(fun _=>rfl),f13⟩
   | 7,ho,hL,haf,hK =>
    cases ho
    (try dsimp only)
    obtain ⟨z,e14⟩:=f11 (haf ⟨5,.data⟩ (by simp) rfl);have VC:=f3 hL;have q0:=(VC 0 _ rfl).1;have p0:=(VC 0 _ rfl).2;rw [f12 (haf ⟨6,.data⟩ (by simp) rfl),e14];have VD:Vec (wl.setCell ⟨w.heap.size,0,none⟩ (.int .i64 z)) w.heap.size [.int .i64 z,.int .i64 C,.slice (some ⟨g,0,none⟩) n cap]:=VC.put 0 (by simp) _;go_wp2_with fail;exact hK (fun jj=>if jj=14 then .int .i64 z else if jj=15 then Value.pointer (some ⟨w.heap.size,0,none⟩) else lx jj) _ ⟨(f0.setNew (Nat.le_refl _) _),(fun z=>(f1 z).far (by omega) (by omega) _),(fun z=>(f2 z).far (by omega) (by omega) _),(fun z=>by cases z),(fun _=>⟨z,VD⟩),(f5.far (p:=⟨w.heap.size,0,none⟩) (by show w.heap.size ≠ _;omega) _),f6,f7,f8,f9,f10,(fun _=>⟨z,rfl⟩),(fun _=>rfl),(fun _=>(haf ⟨1,.phase⟩ (by simp) rfl))⟩
   | k+8,ho,_,_,_=>simp at ho
  ·intro L lx w5 hall hI;obtain ⟨f0,f1,f2,f3,f4,f5,f6,f7,f8,f9,f10,f11,f12,f13⟩:=hI.out;clear hI;obtain ⟨R2,W0⟩:=f4 (hall 7 (by simp));have V0:=W0;have V1:=f5;have C1:=f2 (hall 3 (by simp));have O1:=f0;have RA:RowAt w5 (.slice (some ⟨g,0,none⟩) n cap) n (flatV l):=hr.only O1 (fun q hq=>by have:=hb q hq;omega);clear hall f0 f1 f2 f3 f4 f5 f6 f7 f8 f9 f10 f11 f12 f13 W0
   (try dsimp only)
   have T1:=O1.two (some g);obtain ⟨a0,a1,a2⟩:=Vec.three (V0);obtain ⟨wy,hy,b0,b1,b2,fb0,fb1,fb2,fd0,fd1,fd2,CF,RF,TF⟩:=finOG V1 C1 RA T1 (Nat.le_succ _) (by omega) (by omega) ltg (R2) (C);go_wp2_with fail;exact bodyPost_ret (v:=grV (R2) (C) (.slice (some ⟨g,0,none⟩) n cap)) (by simp [results,Tryd.results23,go_sem,fd0,fd1,fd2]) rfl ⟨⟨_,_,l,rfl,by rw [HN.out];exact RF,by rw [HN.out],he⟩,CF.more (by omega),by rw [hOb.out];exact TF⟩
 ·have e0:(y == 0)=false:=by simpa using q0
  by_cases q1:y=1
  ·subst q1;clear y0 y9;obtain ⟨e0,m,rfl⟩:∃ e0 m,l=e0 :: m:=by
    cases l with
    | nil=>have:=HN.out;simp at this;omega
    | cons e0 m=>exact ⟨e0,m,rfl⟩
   obtain ⟨hM1,p1,c1,hv1,_,hp1⟩:=RA;obtain ⟨g',hg',VR1⟩:=hp1 h0;have hgg:g=g':=by cases hv1;cases hg';rfl
   subst hgg;obtain ⟨b0,fb0⟩:=VR1 0 _ rfl;obtain ⟨b1,fb1⟩:=VR1 1 _ rfl;obtain ⟨b2,fb2⟩:=VR1 2 _ rfl;obtain ⟨b3,fb3⟩:=VR1 3 _ rfl;obtain ⟨b4,fb4⟩:=VR1 4 _ rfl;obtain ⟨dd0,dd1,dd2⟩:=Vec.three V0;have VN:Vec (setL w1 g 0 [.int .i64 9,.bool false,.int .i64 0,.int .i64 0,sV []]) g (flatV (⟨9,false,0,0,[]⟩ :: m)):=((((VR1.put 0 (by simp [flatV]) _).put 1 (by simp [flatV]) _).put 2 (by simp [flatV]) _).put 3 (by simp [flatV]) _).put 4 (by simp [flatV]) _;have V0:=Vec.farL (k:=g) (by omega) [.int .i64 9,.bool false,.int .i64 0,.int .i64 0,sV []] 0 V0;have V1:=Vec.farL (k:=g) (by omega) [.int .i64 9,.bool false,.int .i64 0,.int .i64 0,sV []] 0 V1;have C1:Cur (setL w1 g 0 [.int .i64 9,.bool false,.int .i64 0,.int .i64 0,sV []]) b base _:=((((C1.far (g:=g) (i:=0) hbg.1 hbg.2 _).far (g:=g) (i:=1) hbg.1 hbg.2 _).far (g:=g) (i:=2) hbg.1 hbg.2 _).far (g:=g) (i:=3) hbg.1 hbg.2 _).far (g:=g) (i:=4) hbg.1 hbg.2 _;have T1:OnlyTwo b (some g) w (setL w1 g 0 [.int .i64 9,.bool false,.int .i64 0,.int .i64 0,sV []]):=two_row (two_row (two_row (two_row (two_row (O1.two (some g)) _ _) _ _) _ _) _ _) _ _;obtain ⟨ws,hs⟩:∃ q,setL w1 g 0 [.int .i64 9,.bool false,.int .i64 0,.int .i64 0,sV []]=q:=⟨_,rfl⟩;rw [hs] at VN V0 V1 C1 T1;have hs:((((w1.setCell ⟨g,0,none⟩ (.int .i64 9)).setCell ⟨g,1,none⟩ (.bool false)).setCell ⟨g,2,none⟩ (.int .i64 0)).setCell ⟨g,3,none⟩ (.int .i64 0)).setCell ⟨g,4,none⟩ (sV [])=ws:=hs;have RA:RowAt ws (.slice (some ⟨g,0,none⟩) n cap) n (flatV (⟨9,false,0,0,[]⟩ :: m)):=⟨by rw [flatV_length];have:=HN.out;simp at this ⊢;omega,_,cap,rfl,hcap,fun _=>⟨g,rfl,VN⟩⟩;have i2:(0:Int)<(n:Int):=by omega
   have hL1:(⟨9,false,0,0,[]⟩ :: m:List VT).length=n:=by have:=HN.out;simp at this ⊢;omega
   obtain ⟨a0,a1,a2⟩:=Vec.three (V0);obtain ⟨wy,hy,c0,c1,c2,fc0,fc1,fc2,fd0,fd1,fd2,CF,RF,TF⟩:=finOG V1 C1 RA T1 (Nat.le_succ _) (by omega) (by omega) ltg (R) (C);go_wp2_with fail;exact bodyPost_ret (v:=grV (R) (C) (.slice (some ⟨g,0,none⟩) n cap)) (by simp [results,Tryd.results23,go_sem,fd0,fd1,fd2]) rfl ⟨⟨_,_,(⟨9,false,0,0,[]⟩ :: m),rfl,by rw [hL1];exact RF,hL1,(fun q hq=>by rcases List.mem_cons.1 hq with rfl | hq;exact ⟨by show (0:Int)≤0;omega,by show (0:Int)<_;omega,by simp⟩;exact he q (List.mem_cons_of_mem _ hq))⟩,CF.more (by omega),by rw [hOb.out];exact TF⟩
  ·have e1:(y == 1)=false:=by simpa using q1
   by_cases q2:y=2
   ·subst q2;clear y0 y9;obtain ⟨b1,fb1⟩:=V0 1 _ rfl;have V2:Vec (w1.setCell ⟨w.heap.size,1,none⟩ (.int .i64 0)) w.heap.size [.int .i64 R,.int .i64 0,.slice (some ⟨g,0,none⟩) n cap]:=V0.put 1 (by simp) _;have V1:=V1.far (p:=⟨w.heap.size,1,none⟩) (by show w.heap.size ≠ _;omega) (.int .i64 0);have C1:=C1.far (g:=w.heap.size) (i:=1) (by omega) (by omega) (.int .i64 0);have O1:=O1.setNew (g:=w.heap.size) (i:=1) (Nat.le_refl _) (.int .i64 0);obtain ⟨ws,hs⟩:∃ q,w1.setCell ⟨w.heap.size,1,none⟩ (.int .i64 0)=q:=⟨_,rfl⟩;rw [hs] at V1 V2 C1 O1;have V0:=V2;have RA:RowAt ws (.slice (some ⟨g,0,none⟩) n cap) n (flatV l):=hr.only O1 (fun q hq=>by have:=hb q hq;omega);clear V2;have T1:=O1.two (some g);obtain ⟨a0,a1,a2⟩:=Vec.three (V0);obtain ⟨wy,hy,b0,b1,b2,fb0,fb1,fb2,fd0,fd1,fd2,CF,RF,TF⟩:=finOG V1 C1 RA T1 (Nat.le_succ _) (by omega) (by omega) ltg (R) (0);go_wp2_with fail;exact bodyPost_ret (v:=grV (R) (0) (.slice (some ⟨g,0,none⟩) n cap)) (by simp [results,Tryd.results23,go_sem,fd0,fd1,fd2]) rfl ⟨⟨_,_,l,rfl,by rw [HN.out];exact RF,by rw [HN.out],he⟩,CF.more (by omega),by rw [hOb.out];exact TF⟩
   ·have e2:(y == 2)=false:=(by simpa using q2);have T1:=O1.two (some g);obtain ⟨a0,a1,a2⟩:=Vec.three (V0);obtain ⟨wy,hy,b0,b1,b2,fb0,fb1,fb2,fd0,fd1,fd2,CF,RF,TF⟩:=finOG V1 C1 RA T1 (Nat.le_succ _) (by omega) (by omega) ltg (R) (C);go_wp2_with fail;exact bodyPost_ret (v:=grV (R) (C) (.slice (some ⟨g,0,none⟩) n cap)) (by simp [results,Tryd.results23,go_sem,fd0,fd1,fd2]) rfl ⟨⟨_,_,l,rfl,by rw [HN.out];exact RF,by rw [HN.out],he⟩,CF.more (by omega),by rw [hOb.out];exact TF⟩
end Go.Proofs.YtnphbpmdohidcaaDoor

