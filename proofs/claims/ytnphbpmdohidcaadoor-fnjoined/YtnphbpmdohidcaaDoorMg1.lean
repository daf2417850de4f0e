/-
  Several texts in one: FrameB, Frame, Vek, Sv1, Fa, Fe, Fk, FrameX, Cur.
-/
import Derived.Test.YtnphbpmdohidcaaDoorRows
import Derived.Test.YtnphbpmdohidcaaDoorMg0
import Derived.WalkKit
import Derived.ProofKit
import Derived.OpenShut
import Derived.WalkSmall
import Derived.Lib.SmallJoins
import Derived.Deep.DeepHandedRow
import Derived.Lib.LaidTab
import Derived.Laws.IdiomStrings
import Derived.Deep.Strs
import Derived.Stop.LaidErr
import Derived.Deep.QuietTactic
import Derived.BigQuiet
import Derived.Deep.RegionWith
import Derived.Deep.RegionHeld3
import Derived.Deep.DeepCutAuto
import Derived.Laws.Bits64b
namespace Go.Proofs.YtnphbpmdohidcaaDoor
open Go.ChangeShapes Go.WideShapes Go.ChangeAt Go.RowKit
theorem own:ownKnob Tryd.prog.godebug=none:=by kernel_rfl
theorem laidOut:laidOutB Tryd.prog=true:=by kernel_rfl
theorem vars_below {H:Type} {enc:TypeId × Value→H} {P:Program} (hl:laidOutB P=true) {W W':World} (bel:Below W.heap.size W W') :
  ∀ {ns:List String} {gs:List (DataW H)} {q:List MemPlace},(∀ n ∈ ns,∀ g t,P.globalNamed n=some g→(P.globals[g]?).map (·.type)=some t→P.readableRec t=true∧t<P.types.size) →
   (∀ x ∈ q,x.block<W.heap.size)→DataW.TrodVars enc P W (fun _=>true) ns gs q→DataW.TrodVars enc P W' (fun b=>decide (b<W.heap.size)) ns gs q
 | [],[],_,_,_,h=>h
 | [],_ :: _,_,_,_,h=>h.elim
 | _ :: _,[],_,_,_,h=>h.elim
 | n :: ns,d :: ds,q,hr,hlt,h=>by
  obtain ⟨g,t,cs,fuel,p,r,h1,h2,h3,h4,h5,rfl⟩:=h;obtain ⟨r1,r2⟩:=hr n (by simp) g t h1 h2;have hg:g<W.heap.size:=by
   unfold World.var? at h3;simp only [h1,Option.bind_some] at h3;by_cases hk:g<W.heap.size
   ·exact hk
   ·rw [Array.getElem?_eq_none (by omega)] at h3;cases h3
  refine ⟨g,t,cs,fuel,p,r,h1,h2,var?_below bel h1 hg h3,?_,?_,rfl⟩
  ·exact DataW.trod_stays (kids_book hl r1) (book_sized r1) (fun h=>by cases h) ⟨r2,book_self t⟩ h4 (fun x hx=>bel.same (hlt x (by simp [hx]))) (fun x hx=>by simpa using hlt x (by simp [hx]))
  ·exact vars_below hl bel (fun m hm=>hr m (by simp [hm])) (fun x hx=>hlt x (by simp [hx])) h5
theorem trod_elem {H:Type} {enc:TypeId × Value→H} {P:Program} {w:World} {base:Nat} {sp:Nat→Bool} {held:Bool} {fuel:Nat} {t e:TypeId} {n:Nat} {cs:List Value} {ds:List (DataW H)} {p:List MemPlace}
  (ht:P.underlying t=some (.array n e)) (h:DataW.trod enc P w base sp held fuel t cs=some (.agg ds,p)) (i:Nat) (hi:i<n) (d:DataW H) (hd:ds[i]?=some d) :
  ∃ fuel' p',DataW.trod enc P w base sp held fuel' e ((cs.drop (i * P.cellsOf e)).take (P.cellsOf e))=some (d,p'):=by
 cases fuel with
 | zero=>simp [DataW.trod] at h
 | succ fuel =>
  simp only [DataW.trod,ht] at h
  split at h
  ·obtain ⟨xs,hm,hx⟩:=Option.map_eq_some_iff.1 h;obtain ⟨b,hb,hf⟩:=Lib.mapM_at hm i i (by simp [hi]);have e1:xs.map (·.1)=ds:=by
    have:=congrArg Prod.fst hx;simpa using this
   rw [← e1,List.getElem?_map,hb] at hd;simp only [Option.map_some,Option.some.injEq] at hd;subst hd;exact ⟨fuel,b.2,hf⟩
  ·cases h
end Go.Proofs.YtnphbpmdohidcaaDoor

namespace Go.Proofs.YtnphbpmdohidcaaDoor
open Go.ChangeShapes Go.WideShapes Go.ChangeAt Go.RowKit
theorem gTens:Tryd.prog.globalNamed "loop.example/g00025/impl.tens" = some 0:=by kernel_rfl
theorem gTensType:(Tryd.prog.globals[0]?).map (·.type)=some 93:=by kernel_rfl
theorem tens_of {rest:List (String × DataW Unit)} {W:World} (h:laidMet Tryd.prog (("loop.example/g00025/impl.tens", Rows.laid_loop_example_g00025_impl_tens) :: rest) W):Tens W:=by
 have t:Lib.TabIs Tryd.prog W "loop.example/g00025/impl.tens" .u64 [1,10,100,1000,10000,100000,1000000,10000000,100000000,1000000000,10000000000,100000000000,1000000000000,10000000000000,100000000000000,1000000000000000,10000000000000000,100000000000000000,1000000000000000000,10000000000000000000]:=
  Lib.tabIs_of_head (rest:=rest) gTens gTensType Tryd.underlying93 Tryd.underlying32 (by kernel_rfl) (by kernel_rfl) h
 intro i hi;have e:∀ i:Nat,i<20→([1,10,100,1000,10000,100000,1000000,10000000,100000000,1000000000,10000000000,100000000000,1000000000000,10000000000000,100000000000000,1000000000000000,10000000000000000,100000000000000000,1000000000000000000,10000000000000000000]:List Int).getD i 0=((10 ^ i:Nat):Int):=by decide +kernel
 rw [← e i hi];exact t.cell gTens i hi
theorem tens_readable1:∀ g t,Tryd.prog.globalNamed "loop.example/g00025/impl.tens" = some g→(Tryd.prog.globals[g]?).map (·.type)=some t→Tryd.prog.readableRec t=true∧t<Tryd.prog.types.size:=by
 intro g t hg ht;obtain rfl:=Option.some.inj (gTens.symm.trans hg);obtain rfl:=Option.some.inj (gTensType.symm.trans ht);exact ⟨by kernel_rfl,of_decide_eq_true (by kernel_rfl)⟩
end Go.Proofs.YtnphbpmdohidcaaDoor

namespace Go.Proofs.YtnphbpmdohidcaaDoor
open Go.RowKit
def Vec (w:World) (b:Nat) (l:List Value):Prop:=∀ i v,l[i]?=some v→w.cell? ⟨b,i,none⟩=some v∧w.frozen? ⟨b,i,none⟩=false
theorem Vec.later {w w1:World} {b:Nat} {l:List Value} (h:Vec w b l) (hb:Ext w w1):Vec w1 b l:=fun i v hi=>⟨cell_later hb (h i v hi).1,frozen_later hb (h i v hi).1 (h i v hi).2⟩
theorem Vec.far {w:World} {b:Nat} {l:List Value} (h:Vec w b l) {p:Addr} (hp:p.block ≠ b) (u:Value):Vec (w.setCell p u) b l:=fun i v hi=>by
 refine ⟨?_,by rw [World.frozen?_setCell];exact (h i v hi).2⟩;rw [World.cell?_setCell_other _ _ _ _ (fun e=>hp (congrArg Addr.block e))];exact (h i v hi).1
theorem Vec.put {w:World} {b:Nat} {l:List Value} (h:Vec w b l) (i:Nat) (hi:i<l.length) (u:Value):Vec (w.setCell ⟨b,i,none⟩ u) b (l.set i u):=fun j v hj=>by
 refine ⟨?_,?_⟩
 ·by_cases e:j=i
  ·subst e;rw [List.getElem?_set_self hi] at hj;cases hj;exact World.cell?_setCell_same' _ _ _ (by rw [(h j l[j] (List.getElem?_eq_getElem hi)).1];rfl)
  ·rw [List.getElem?_set_ne (fun q=>e q.symm)] at hj;rw [World.cell?_setCell_other _ _ _ _ (fun q=>e (congrArg Addr.off q).symm)];exact (h j v hj).1
 ·rw [World.frozen?_setCell];by_cases e:j=i
  ·subst e;exact (h j l[j] (List.getElem?_eq_getElem hi)).2
  ·rw [List.getElem?_set_ne (fun q=>e q.symm)] at hj;exact (h j v hj).2
theorem size_ofL' {s:ByteArray} {l:List UInt8} (h:s.data.toList=l):s.size=l.length:=by
 rw [← h,Array.length_toList];rfl
theorem byte_atA {s:ByteArray} {l:List UInt8} (h:s.data.toList=l) {p:Nat} (hp:p<s.size):(s[p]'hp)=l.getD p 0:=by
 subst h;simp only [ByteArray.getElem_eq_getElem_data];have hp':p<s.data.size:=hp;simp only [List.getD,Array.getElem?_toList];rw [Array.getElem?_eq_getElem hp'];rfl
theorem take_at {l:List UInt8} {i:Nat} (h:i<l.length):l.take (i+1)=l.take i++[l.getD i 0]:=by
 rw [List.take_add_one];simp [h]
abbrev sV (l:List UInt8):Value:=.string ⟨l.toArray⟩
theorem vec_made (w:World) (l:List Value) (t:TypeId):Vec (w.alloc (.cells l.toArray t)) w.heap.size l:=by
 intro i v hi;have hb:=heap_alloc_new w (.cells l.toArray t);refine ⟨?_,?_⟩
 ·unfold World.cell?;simp only [hb];simpa using hi
 ·unfold World.frozen?;simp only [hb];simp
def upC (c:UInt8):UInt8:=if 97≤c.toNat∧c.toNat≤122 then UInt8.ofNat (c.toNat - 32) else c
theorem upC_small {c:UInt8} (h:97≤c.toNat∧c.toNat≤122):((upC c).toNat:Int)=(c.toNat:Int) - 32:=by
 unfold upC;rw [if_pos h,UInt8.toNat_ofNat'];omega
theorem upC_other {c:UInt8} (h:¬ (97≤c.toNat∧c.toNat≤122)):upC c=c:=by unfold upC;rw [if_neg h]
def encB (l:List UInt8):List Value:=l.map fun c=>Value.int .u8 (c.toNat:Int)
theorem encB_length (l:List UInt8):(encB l).length=l.length:=by simp [encB]
theorem encB_at {l:List UInt8} {i:Nat} {c:UInt8} (h:l[i]?=some c):(encB l)[i]?=some (.int .u8 (c.toNat:Int)):=by simp [encB,h]
def upK (l:List UInt8) (k:Nat):List UInt8:=(l.take k).map upC++l.drop k
theorem upK_length (l:List UInt8) (k:Nat):(upK l k).length=l.length:=by simp [upK];omega
theorem upK_zero (l:List UInt8):upK l 0=l:=by simp [upK]
theorem upK_all (l:List UInt8):upK l l.length=l.map upC:=by simp [upK]
theorem upK_at {l:List UInt8} {k:Nat} {c:UInt8} (h:l[k]?=some c):(upK l k)[k]?=some c:=by
 have hk:k<l.length:=(List.getElem?_eq_some_iff.1 h).1;unfold upK;rw [List.getElem?_append_right (by simp;omega)];simp only [List.length_map,List.length_take,List.getElem?_drop];rw [show k+(k - min k l.length)=k by omega];exact h
theorem upK_succ {l:List UInt8} {k:Nat} {c:UInt8} (h:l[k]?=some c):upK l (k+1)=(upK l k).set k (upC c):=by
 have hk:k<l.length:=(List.getElem?_eq_some_iff.1 h).1;apply List.ext_getElem?;intro i;rw [List.getElem?_set];unfold upK;by_cases e:k=i
 ·subst e;rw [if_pos rfl,List.getElem?_append_left (by simp;omega)];rw [if_pos (by simp;omega)];simp [h]
 ·rw [if_neg e]
  rcases Nat.lt_or_ge i k with hi | hi
  ·rw [List.getElem?_append_left (by simp;omega),List.getElem?_append_left (by simp;omega)];simp [hi,Nat.lt_succ_of_lt hi]
  ·rw [List.getElem?_append_right (by simp;omega),List.getElem?_append_right (by simp;omega)];simp only [List.length_map,List.length_take,List.getElem?_drop]
   congr 1
   omega
theorem bytes_made (l:List UInt8) (w:World):∃ cap w',(convert 9 22 (sV l)).run Tryd.prog w=.ok (.slice (some ⟨w.heap.size,0,none⟩) l.length cap) w'∧l.length≤cap∧Ext w w'∧Vec w' w.heap.size (encB l):=by
 have hcv:=run_bytes_of_string (P:=Tryd.prog) w 9 22 5 ⟨l.toArray⟩ Tryd.underlying9 Tryd.underlying22 Tryd.underlying5;refine ⟨_,_,hcv,grownCap_ge _ _ _ _,xa (xd (xr _)) _,fun j u hj=>?_⟩;have hjl:j<l.length:=by
  have:=(List.getElem?_eq_some_iff.1 hj).1;simpa [encB] using this
 obtain ⟨C,hC⟩:∃ C,grownCap w (⟨l.toArray⟩:ByteArray).size 0 5=C:=⟨_,rfl⟩;rw [hC];have hb:(w.drew.alloc (.cells (bytesRow ⟨l.toArray⟩ C) 5 ((bytesRow ⟨l.toArray⟩ C).size,(bytesRow ⟨l.toArray⟩ C).size+1))).heap[w.heap.size]?=some (.cells (bytesRow ⟨l.toArray⟩ C) 5 ((bytesRow ⟨l.toArray⟩ C).size,(bytesRow ⟨l.toArray⟩ C).size+1)):=heap_alloc_new w.drew _;refine ⟨?_,?_⟩
 ·unfold World.cell?;simp only [hb];rw [← hj];unfold bytesRow encB;rw [Array.getElem?_append_left (by simp;exact hjl)];simp
 ·unfold World.frozen?;simp only [hb];have:j<(bytesRow ⟨l.toArray⟩ C).size:=by unfold bytesRow;simp;omega
  simp;omega
theorem bytes_back (l:List UInt8) (g cap:Nat) (w:World) (h:Vec w g (encB l)):(convert 22 9 (.slice (some ⟨g,0,none⟩) l.length cap)).run Tryd.prog w=.ok (sV l) w:=by
 refine run_convert_bytes_back (P:=Tryd.prog) w 22 9 5 ⟨g,0,none⟩ cap l Tryd.underlying22 Tryd.underlying5 Tryd.underlying9 (fun j hj=>?_);have:=(h j _ (encB_at (List.getElem?_eq_getElem hj))).1;rw [show (⟨g,0,none⟩:Addr).add j=⟨g,j,none⟩ by unfold Addr.add;split <;> simp_all];exact this
def shownC (c:UInt8):Bool:=decide (32≤c.toNat∧c.toNat≤126)
def plainB (l:List UInt8):Bool:=l.all shownC
def printN (m:Nat) (l:List UInt8):Bool:=l.all shownC && decide (l.length≤m)
set_option maxRecDepth 8000 in
set_option maxHeartbeats 1000000 in
theorem plainI (l:List UInt8) (w:World) (hl:l.length≤2000000):Calls Tryd.prog 41 #[sV l] w fun e w'=>e=.returned (.bool (plainB l))∧w'=w:=by
 obtain ⟨s,hs⟩:∃ s:ByteArray,(⟨l.toArray⟩:ByteArray)=s:=⟨_,rfl⟩;have hsl:s.data.toList=l:=by rw [← hs]
 have hsz:=size_ofL' hsl;show Calls Tryd.prog 41 #[.string ⟨l.toArray⟩] w _;rw [hs];clear hs;obtain ⟨n,hn⟩:∃ n,l.length=n:=⟨_,rfl⟩;have HN:Hid (l.length=n):=hn;have HS:Hid (s.data.toList=l):=hsl;rw [hn] at hl hsz;clear hn hsl;go_enter Tryd.func41,Tryd.ntmps41;go_wp2_with fail
 go_loop [6] (fun i=>∃ k:Nat,k≤n∧i=.int .i64 k∧Hid ((l.take k).all shownC=true)) (fun i=>n - (intOf i).toNat)
 case atStart=>exact ⟨0,by omega,rfl,by show _=_;simp⟩
 case round =>
  obtain ⟨k,hk,rfl,HA⟩:=hrel;by_cases hlt:k<n
  ·have hks:k<s.size:=by omega
   have hb0:=byte_atA HS.out hks;have htk:=take_at (l:=l) (i:=k) (by rw [HN.out];exact hlt);obtain ⟨c,hcc⟩:∃ c,l.getD k 0=c:=⟨_,rfl⟩;rw [hcc] at hb0 htk;have hb:((s[k]'hks).toNat:Int)=(c.toNat:Int):=by rw [hb0]
   have i2:(k:Int)<(n:Int):=by omega
   by_cases hc:shownC c=true
   ·have hc':32≤c.toNat∧c.toNat≤126:=(by simpa [shownC] using hc);have HA2:Hid ((l.take (k+1)).all shownC=true):=by
     show _=_;rw [htk,List.all_append,HA.out,List.all_cons,hc];rfl
    obtain ⟨N,hN⟩:∃ N:Int,(c.toNat:Int)=N:=⟨_,rfl⟩;rw [hN] at hb;have n1:32≤N:=(by omega);have n2:N≤126:=(by omega);clear hN hc hc' hb0 htk hcc HA;go_wp2_with fail
    go_round
    case rel=>exact ⟨k+1,by omega,by go_num,HA2⟩
    case measure=>simp [intOf];omega
   ·have HF:Hid (plainB l=false):=by
     show _=_;have hm:c ∈ l:=by
      have:c ∈ l.take (k+1):=(by rw [htk];simp);exact List.mem_of_mem_take this
     have hf:l.all shownC=false:=by
      cases hq:l.all shownC with
      | false=>rfl
      | true=>exact absurd ((List.all_eq_true.1 hq) c hm) hc
     unfold plainB;rw [hf]
    have hc':c.toNat<32∨126<c.toNat:=by
     have:¬ (32≤c.toNat∧c.toNat≤126):=(by simpa [shownC] using hc);omega
    obtain ⟨N,hN⟩:∃ N:Int,(c.toNat:Int)=N:=⟨_,rfl⟩;rw [hN] at hb;have n1:N<32∨126<N:=(by omega);clear hN hc hc' hb0 htk hcc HA
    rcases n1 with n1 | n1
    ·go_wp2_with fail;go_ret;exact ⟨ret_bool (by rw [HF.out]),rfl⟩
    ·have n2:32≤N:=(by omega);go_wp2_with fail;go_ret;exact ⟨ret_bool (by rw [HF.out]),rfl⟩
  ·obtain rfl:k=n:=by omega
   have HT:Hid (plainB l=true):=by
    show _=_;have h1:=HA.out;rw [List.take_of_length_le (by rw [HN.out];omega)] at h1;exact h1
   clear HA;go_wp2_with fail;go_ret;exact ⟨ret_bool (by rw [HT.out]),rfl⟩
set_option maxRecDepth 8000 in
set_option maxHeartbeats 1000000 in
theorem printS (m:Nat) (l:List UInt8) (w:World) (hl:l.length≤2000000):Calls Tryd.prog 46 #[sV l,.int .i64 (m:Int)] w fun e w'=>e=.returned (.bool (printN m l))∧w'=w:=by
 obtain ⟨s,hs⟩:∃ s:ByteArray,(⟨l.toArray⟩:ByteArray)=s:=⟨_,rfl⟩;have hsl:s.data.toList=l:=by rw [← hs]
 have hsz:=size_ofL' hsl;show Calls Tryd.prog 46 #[.string ⟨l.toArray⟩,.int .i64 (m:Int)] w _;rw [hs];clear hs;obtain ⟨n,hn⟩:∃ n,l.length=n:=⟨_,rfl⟩;have HN:Hid (l.length=n):=hn;have HS:Hid (s.data.toList=l):=hsl;rw [hn] at hl hsz;clear hn hsl;go_enter Tryd.func46,Tryd.ntmps46;go_wp2_with fail
 go_loop [5] (fun i=>∃ k:Nat,k≤n∧i=.int .i64 k∧Hid ((l.take k).all shownC=true)) (fun i=>n - (intOf i).toNat)
 case atStart=>exact ⟨0,by omega,rfl,by show _=_;simp⟩
 case round =>
  obtain ⟨k,hk,rfl,HA⟩:=hrel;by_cases hlt:k<n
  ·have hks:k<s.size:=by omega
   have hb0:=byte_atA HS.out hks;have htk:=take_at (l:=l) (i:=k) (by rw [HN.out];exact hlt);obtain ⟨c,hcc⟩:∃ c,l.getD k 0=c:=⟨_,rfl⟩;rw [hcc] at hb0 htk;have hb:((s[k]'hks).toNat:Int)=(c.toNat:Int):=by rw [hb0]
   have i2:(k:Int)<(n:Int):=by omega
   by_cases hc:shownC c=true
   ·have hc':32≤c.toNat∧c.toNat≤126:=(by simpa [shownC] using hc);have HA2:Hid ((l.take (k+1)).all shownC=true):=by
     show _=_;rw [htk,List.all_append,HA.out,List.all_cons,hc];rfl
    obtain ⟨N,hN⟩:∃ N:Int,(c.toNat:Int)=N:=⟨_,rfl⟩;rw [hN] at hb;have n1:32≤N:=(by omega);have n2:N≤126:=(by omega);clear hN hc hc' hb0 htk hcc HA;go_wp2_with fail
    go_round
    case rel=>exact ⟨k+1,by omega,by go_num,HA2⟩
    case measure=>simp [intOf];omega
   ·have HF:Hid (printN m l=false):=by
     show _=_;have hm:c ∈ l:=by
      have:c ∈ l.take (k+1):=(by rw [htk];simp);exact List.mem_of_mem_take this
     have hf:l.all shownC=false:=by
      cases hq:l.all shownC with
      | false=>rfl
      | true=>exact absurd ((List.all_eq_true.1 hq) c hm) hc
     unfold printN;rw [hf];rfl
    have hc':c.toNat<32∨126<c.toNat:=by
     have:¬ (32≤c.toNat∧c.toNat≤126):=(by simpa [shownC] using hc);omega
    obtain ⟨N,hN⟩:∃ N:Int,(c.toNat:Int)=N:=⟨_,rfl⟩;rw [hN] at hb;have n1:N<32∨126<N:=(by omega);clear hN hc hc' hb0 htk hcc HA
    rcases n1 with n1 | n1
    ·go_wp2_with fail;go_ret;exact ⟨ret_bool (by rw [HF.out]),rfl⟩
    ·have n2:32≤N:=(by omega);go_wp2_with fail;go_ret;exact ⟨ret_bool (by rw [HF.out]),rfl⟩
  ·obtain rfl:k=n:=by omega
   have HT:Hid (printN m l=decide ((k:Int)≤(m:Int))):=by
    show _=_;have h1:=HA.out;rw [List.take_of_length_le (by rw [HN.out];omega)] at h1;unfold printN;rw [h1,HN.out];simp
   clear HA;go_wp2_with fail;go_ret;exact ⟨ret_bool (by rw [HT.out];simp),rfl⟩
def boolB (l:List UInt8):Bool:=(l == [84,82,85,69]) || (l == [70,65,76,83,69])
set_option maxHeartbeats 1000000 in
theorem boolI (l:List UInt8) (w:World):Calls Tryd.prog 42 #[sV l] w fun e w'=>e=.returned (.bool (boolB l))∧w'=w:=by
 obtain ⟨p,hp⟩:∃ p,(l == [84,82,85,69])=p:=⟨_,rfl⟩;obtain ⟨q,hq⟩:∃ q,(l == [70,65,76,83,69])=q:=⟨_,rfl⟩;have e:boolB l=(p || q):=by unfold boolB;rw [hp,hq]
 rw [e];clear e;cases p <;> cases q
 all_goals
  go_enter Tryd.func42,Tryd.ntmps42;go_wp2_with fail;go_ret;exact ⟨rfl,rfl⟩
def memB (L:List (List UInt8)) (l:List UInt8):Bool:=L.any fun t=>t == l
theorem memB_yes {L:List (List UInt8)} {l t:List UInt8} {k:Nat} (h:L[k]?=some t) (e:(t == l)=true):memB L l=true:=by
 unfold memB;rw [List.any_eq_true];exact ⟨t,List.mem_of_getElem? h,e⟩
theorem memB_no {L:List (List UInt8)} {l:List UInt8} (h:∀ (j:Nat) (t:List UInt8),L[j]?=some t→(t == l)=false):memB L l=false:=by
 unfold memB;rw [List.any_eq_false];intro t ht;obtain ⟨j,hj⟩:=List.getElem?_of_mem ht;rw [h j t hj];decide
def errL:List (List UInt8):=[[35,78,85,76,76,33],[35,68,73,86,47,48,33],[35,86,65,76,85,69,33],[35,82,69,70,33],[35,78,65,77,69,63],[35,78,85,77,33],[35,78,47,65],[35,83,80,73,76,76,33],[35,67,89,67,76,69,33]]
set_option maxRecDepth 8000 in
set_option maxHeartbeats 1000000 in
theorem inS (L:List (List UInt8)) (l:List UInt8) (g cap:Nat) (w:World) (hL:L.length≤100) (V:Vec w g (L.map sV)) :
  Calls Tryd.prog 47 #[.slice (some ⟨g,0,none⟩) L.length cap,sV l] w fun e w'=>e=.returned (.bool (memB L l))∧w'=w:=by
 obtain ⟨n,hn⟩:∃ n,L.length=n:=⟨_,rfl⟩;have HN:Hid (L.length=n):=hn;have HV:Hid (Vec w g (L.map sV)):=V;have HY:Hid (∀ t (k:Nat),L[k]?=some t→(t == l)=true→memB L l=true):=fun t k h e=>memB_yes h e;have HX:Hid ((∀ (j:Nat) t,L[j]?=some t→(t == l)=false)→memB L l=false):=fun h=>memB_no h;obtain ⟨R,hR⟩:∃ R,memB L l=R:=⟨_,rfl⟩;rw [hR] at HY HX ⊢;rw [hn] at hL ⊢;clear hn V hR;go_enter Tryd.func47,Tryd.ntmps47;go_wp2_with fail
 go_loop [9] (fun i=>∃ k:Nat,k≤n∧i=.int .i64 k∧Hid (∀ (j:Nat) t,j<k→L[j]?=some t→(t == l)=false)) (fun i=>n - (intOf i).toNat)
 case atStart=>exact ⟨0,by omega,rfl,fun j t hj=>by omega⟩
 case round =>
  obtain ⟨k,hk,rfl,HA⟩:=hrel;by_cases hlt:k<n
  ·obtain ⟨t,ht⟩:∃ t,L[k]?=some t:=⟨_,List.getElem?_eq_getElem (by rw [HN.out];exact hlt)⟩;have a0:=(HV.out k (sV t) (by rw [List.getElem?_map,ht];rfl)).1;have i2:(k:Int)<(n:Int):=by omega
   obtain ⟨p,hp⟩:∃ p,(t == l)=p:=⟨_,rfl⟩;cases p
   ·have HA2:Hid (∀ (j:Nat) t,j<k+1→L[j]?=some t→(t == l)=false):=fun j t' hj h=>by
     rcases Nat.lt_or_ge j k with hjk | hjk
     ·exact HA.out j t' hjk h
     ·obtain rfl:j=k:=(by omega);rw [ht] at h;cases h;exact hp
    clear HA ht;go_wp2_with fail
    go_round
    case rel=>exact ⟨k+1,by omega,by go_num,HA2⟩
    case measure=>simp [intOf];omega
   ·have hr:=HY.out t k ht hp;subst hr;clear HA ht;go_wp2_with fail;go_ret;exact ⟨rfl,rfl⟩
  ·obtain rfl:k=n:=by omega
   have hr:=HX.out (fun j t h=>HA.out j t (by have:=(List.getElem?_eq_some_iff.1 h).1;rw [HN.out] at this;exact this) h);subst hr;clear HA;go_wp2_with fail;go_ret;exact ⟨rfl,rfl⟩
set_option maxRecDepth 8000 in
set_option maxHeartbeats 1000000 in
theorem errorsS (w:World):Calls Tryd.prog 38 #[] w fun e w'=>∃ g,e=.returned (.slice (some ⟨g,0,none⟩) 9 9)∧Vec w' g (errL.map sV)∧Ext w w':=by
 go_enter Tryd.func38,Tryd.ntmps38;go_wp2_with fail;go_ret;exact ⟨_,rfl,vec_made w (errL.map sV) 9,x1 _ _⟩
def ErrTab (w:World):Prop:=∀ i t,errL[i]?=some t→w.cell? ⟨1,i,none⟩=some (sV t)
theorem ErrTab.later {w w':World} (h:ErrTab w) (e:Ext w w'):ErrTab w':=fun i t ht=>cell_later e (h i t ht)
abbrev errV:Value:=.agg #[sV [35,78,85,76,76,33],sV [35,68,73,86,47,48,33],sV [35,86,65,76,85,69,33],sV [35,82,69,70,33],sV [35,78,65,77,69,63],sV [35,78,85,77,33],sV [35,78,47,65],sV [35,83,80,73,76,76,33],sV [35,67,89,67,76,69,33]]
theorem err_at0 (W:World):(Instr.index 95 errV (.int .i64 0)).run Tryd.prog W=.ok (sV [35,78,85,76,76,33]) W:=by kernel_rfl
theorem err_at1 (W:World):(Instr.index 95 errV (.int .i64 1)).run Tryd.prog W=.ok (sV [35,68,73,86,47,48,33]) W:=by kernel_rfl
theorem err_at2 (W:World):(Instr.index 95 errV (.int .i64 2)).run Tryd.prog W=.ok (sV [35,86,65,76,85,69,33]) W:=by kernel_rfl
theorem err_at3 (W:World):(Instr.index 95 errV (.int .i64 3)).run Tryd.prog W=.ok (sV [35,82,69,70,33]) W:=by kernel_rfl
theorem err_at4 (W:World):(Instr.index 95 errV (.int .i64 4)).run Tryd.prog W=.ok (sV [35,78,65,77,69,63]) W:=by kernel_rfl
theorem err_at5 (W:World):(Instr.index 95 errV (.int .i64 5)).run Tryd.prog W=.ok (sV [35,78,85,77,33]) W:=by kernel_rfl
theorem err_at6 (W:World):(Instr.index 95 errV (.int .i64 6)).run Tryd.prog W=.ok (sV [35,78,47,65]) W:=by kernel_rfl
theorem err_at7 (W:World):(Instr.index 95 errV (.int .i64 7)).run Tryd.prog W=.ok (sV [35,83,80,73,76,76,33]) W:=by kernel_rfl
theorem err_at8 (W:World):(Instr.index 95 errV (.int .i64 8)).run Tryd.prog W=.ok (sV [35,67,89,67,76,69,33]) W:=by kernel_rfl
theorem err_at (k:Nat) (hk:k<9):∃ t,errL[k]?=some t∧∀ W:World,(Instr.index 95 errV (.int .i64 k)).run Tryd.prog W=.ok (sV t) W:=by
 match k,hk with
 | 0,_=>exact ⟨_,rfl,err_at0⟩
 | 1,_=>exact ⟨_,rfl,err_at1⟩
 | 2,_=>exact ⟨_,rfl,err_at2⟩
 | 3,_=>exact ⟨_,rfl,err_at3⟩
 | 4,_=>exact ⟨_,rfl,err_at4⟩
 | 5,_=>exact ⟨_,rfl,err_at5⟩
 | 6,_=>exact ⟨_,rfl,err_at6⟩
 | 7,_=>exact ⟨_,rfl,err_at7⟩
 | 8,_=>exact ⟨_,rfl,err_at8⟩
set_option maxRecDepth 8000 in
set_option maxHeartbeats 1000000 in
theorem errI (l:List UInt8) (w:World) (hE:ErrTab w):Calls Tryd.prog 43 #[sV l] w fun e w'=>e=.returned (.bool (memB errL l))∧w'=w:=by
 have e0:=hE 0 _ rfl;have e1:=hE 1 _ rfl;have e2:=hE 2 _ rfl;have e3:=hE 3 _ rfl;have e4:=hE 4 _ rfl;have e5:=hE 5 _ rfl;have e6:=hE 6 _ rfl;have e7:=hE 7 _ rfl;have e8:=hE 8 _ rfl;have HY:Hid (∀ t (k:Nat),errL[k]?=some t→(t == l)=true→memB errL l=true):=fun t k h e=>memB_yes h e;have HX:Hid ((∀ (j:Nat) t,errL[j]?=some t→(t == l)=false)→memB errL l=false):=fun h=>memB_no h;obtain ⟨R,hR⟩:∃ R,memB errL l=R:=⟨_,rfl⟩;rw [hR] at HY HX ⊢;clear hR hE;go_enter Tryd.func43,Tryd.ntmps43;go_wp2_with fail;clear e0 e1 e2 e3 e4 e5 e6 e7 e8
 go_loop [6] (fun i=>∃ k:Nat,k≤9∧i=.int .i64 k∧Hid (∀ (j:Nat) t,j<k→errL[j]?=some t→(t == l)=false)) (fun i=>9 - (intOf i).toNat)
 case atStart=>exact ⟨0,by omega,rfl,fun j t hj=>by omega⟩
 case round =>
  obtain ⟨k,hk,rfl,HA⟩:=hrel;by_cases hlt:k<9
  ·obtain ⟨t,ht,hix⟩:=err_at k hlt;have i2:(k:Int)<9:=by omega
   obtain ⟨p,hp⟩:∃ p,(t == l)=p:=⟨_,rfl⟩;cases p
   ·have HA2:Hid (∀ (j:Nat) t,j<k+1→errL[j]?=some t→(t == l)=false):=fun j t' hj h=>by
     rcases Nat.lt_or_ge j k with hjk | hjk
     ·exact HA.out j t' hjk h
     ·obtain rfl:j=k:=(by omega);rw [ht] at h;cases h;exact hp
    clear HA ht;go_wp2_with fail
    go_round
    case rel=>exact ⟨k+1,by omega,by go_num,HA2⟩
    case measure=>simp [intOf];omega
   ·have hr:=HY.out t k ht hp;subst hr;clear HA ht;go_wp2_with fail;go_ret;exact ⟨rfl,rfl⟩
  ·obtain rfl:k=9:=by omega
   have hr:=HX.out (fun j t h=>HA.out j t (by have:=(List.getElem?_eq_some_iff.1 h).1;simpa [errL] using this) h);subst hr;clear HA;go_wp2_with fail;go_ret;exact ⟨rfl,rfl⟩
end Go.Proofs.YtnphbpmdohidcaaDoor

namespace Go.Proofs.YtnphbpmdohidcaaDoor
open Go.ChangeShapes Go.WideShapes Go.ChangeAt Go.RowKit
theorem gErrs:Tryd.prog.globalNamed "loop.example/g00025/impl.errorTexts" = some 1:=by kernel_rfl
theorem gErrsType:(Tryd.prog.globals[1]?).map (·.type)=some 95:=by kernel_rfl
theorem strCellsX:Tryd.prog.cellsOf 9=1:=by kernel_rfl
theorem str_cellX {H:Type} {enc:TypeId × Value→H} {w:World} {base:Nat} {sp:Nat→Bool} {held:Bool} {fuel:Nat} {cs:List Value} {l:List UInt8} {p:List MemPlace} (o:Nat)
  (h:DataW.trod enc Tryd.prog w base sp held fuel 9 ((cs.drop (o * Tryd.prog.cellsOf 9)).take (Tryd.prog.cellsOf 9))=some (.lit (.string l),p)):cs[o]?=some (sV l):=by
 rw [strCellsX,Nat.mul_one] at h;obtain ⟨s,hc,hx,_⟩:=DataW.trod_string Tryd.underlying9 h;simp only [Prod.mk.injEq,DataW.lit.injEq,Lit.string.injEq] at hx;have:=congrArg (·[0]?) hc;simp only [List.getElem?_take,List.getElem?_drop,List.getElem?_cons_zero] at this;have hs:s=⟨l.toArray⟩:=by
  cases s;rw [hx.1]
 rw [hs] at this;simpa using this
set_option maxRecDepth 100000 in
theorem errs_of {rest:List (String × DataW Unit)} {W:World} (h:laidMet Tryd.prog (("loop.example/g00025/impl.errorTexts", Rows.laid_loop_example_g00025_impl_errorTexts) :: rest) W):ErrTab W:=by
 obtain ⟨ps,⟨g',t',cs,fuel,p,q,hg',ht',hvar,hd,_,_⟩,_⟩:=h;obtain rfl:=Option.some.inj (gErrs.symm.trans hg');obtain rfl:=Option.some.inj (gErrsType.symm.trans ht');have C:=fun i v (h:cs.toList[i]?=some v)=>(World.var?_cell gErrs hvar i).trans (by simpa using h);intro i t hi;have h9:i<9:=(List.getElem?_eq_some_iff.1 hi).1
 match i,h9,hi with
 | 0,h9,hi=>cases hi;obtain ⟨_,_,k⟩:=trod_elem Tryd.underlying95 hd 0 h9 _ rfl;exact C 0 _ (str_cellX 0 k)
 | 1,h9,hi=>cases hi;obtain ⟨_,_,k⟩:=trod_elem Tryd.underlying95 hd 1 h9 _ rfl;exact C 1 _ (str_cellX 1 k)
 | 2,h9,hi=>cases hi;obtain ⟨_,_,k⟩:=trod_elem Tryd.underlying95 hd 2 h9 _ rfl;exact C 2 _ (str_cellX 2 k)
 | 3,h9,hi=>cases hi;obtain ⟨_,_,k⟩:=trod_elem Tryd.underlying95 hd 3 h9 _ rfl;exact C 3 _ (str_cellX 3 k)
 | 4,h9,hi=>cases hi;obtain ⟨_,_,k⟩:=trod_elem Tryd.underlying95 hd 4 h9 _ rfl;exact C 4 _ (str_cellX 4 k)
 | 5,h9,hi=>cases hi;obtain ⟨_,_,k⟩:=trod_elem Tryd.underlying95 hd 5 h9 _ rfl;exact C 5 _ (str_cellX 5 k)
 | 6,h9,hi=>cases hi;obtain ⟨_,_,k⟩:=trod_elem Tryd.underlying95 hd 6 h9 _ rfl;exact C 6 _ (str_cellX 6 k)
 | 7,h9,hi=>cases hi;obtain ⟨_,_,k⟩:=trod_elem Tryd.underlying95 hd 7 h9 _ rfl;exact C 7 _ (str_cellX 7 k)
 | 8,h9,hi=>cases hi;obtain ⟨_,_,k⟩:=trod_elem Tryd.underlying95 hd 8 h9 _ rfl;exact C 8 _ (str_cellX 8 k)
theorem errs_readable:∀ g t,Tryd.prog.globalNamed "loop.example/g00025/impl.errorTexts" = some g→(Tryd.prog.globals[g]?).map (·.type)=some t→Tryd.prog.readableRec t=true∧t<Tryd.prog.types.size:=by
 intro g t hg ht;obtain rfl:=Option.some.inj (gErrs.symm.trans hg);obtain rfl:=Option.some.inj (gErrsType.symm.trans ht);exact ⟨by kernel_rfl,of_decide_eq_true (by kernel_rfl)⟩
end Go.Proofs.YtnphbpmdohidcaaDoor

namespace Go.Proofs.YtnphbpmdohidcaaDoor
open Go.RowKit
structure Only (b:Nat) (w w':World):Prop where
 os:w'.os=w.os
 tape:w'.tape=w.tape
 output:w'.output=w.output
 size:w.heap.size≤w'.heap.size
 block:∀ k,k ≠ b→k<w.heap.size→w'.heap[k]?=w.heap[k]?
theorem Only.refl (b:Nat) (w:World):Only b w w:=⟨rfl,rfl,rfl,Nat.le_refl _,fun _ _ _=>rfl⟩
theorem Only.trans {b:Nat} {u v w:World} (h:Only b u v) (k:Only b v w):Only b u w:=
 ⟨k.os.trans h.os,k.tape.trans h.tape,k.output.trans h.output,Nat.le_trans h.size k.size,fun i hi hl=>(k.block i hi (Nat.lt_of_lt_of_le hl h.size)).trans (h.block i hi hl)⟩
theorem Only.of_ext {b:Nat} {w w':World} (h:Ext w w'):Only b w w':=⟨h.os,h.tape,h.output,h.size,fun k _ hl=>h.block k hl⟩
theorem Only.ext {b:Nat} {w0 w w':World} (x:Ext w0 w) (h:Only b w w') (hb:w0.heap.size≤b):Ext w0 w':=
 ⟨h.os.trans x.os,h.tape.trans x.tape,h.output.trans x.output,Nat.le_trans x.size h.size,fun k hk=>(h.block k (by omega) (Nat.lt_of_lt_of_le hk x.size)).trans (x.block k hk)⟩
theorem Only.drewN {b:Nat} {w w':World} (h:Only b w w') (n:Nat):Only b w (w'.drewN n):=⟨h.os,h.tape,h.output,h.size,h.block⟩
theorem Only.set {b i:Nat} {w w':World} (h:Only b w w') (u:Value):Only b w (w'.setCell ⟨b,i,none⟩ u):=
 h.trans ⟨rfl,rfl,rfl,by simp [World.setCell],fun k hk _=>Below.heap_setCell _ _ _ _ hk⟩
theorem Only.cell {b k o:Nat} {w w':World} (h:Only b w w') (hk:k ≠ b) {v:Value} (hc:w.cell? ⟨k,o,none⟩=some v):w'.cell? ⟨k,o,none⟩=some v:=by
 have hl:k<w.heap.size:=World.block_lt_of_cell? _ _ hc;unfold World.cell? at hc ⊢;rw [h.block k hk hl];exact hc
def CodeIn (w:World) (base:Nat) (v:Value) (n:Nat):Prop:=
 ((∃ p cap,v=.slice p 0 cap)∧n=0)∨∃ (pb po cap:Nat),pb<base∧v=.slice (some ⟨pb,po,none⟩) n cap∧n≤cap∧∀ i,i<n→∃ x:Int,0≤x∧x≤255∧w.cell? ⟨pb,po+i,none⟩=some (.int .u8 x)
theorem CodeIn.only {w w':World} {base b n:Nat} {v:Value} (h:CodeIn w base v n) (o:Only b w w') (hb:base≤b):CodeIn w' base v n:=by
 rcases h with h | ⟨pb,po,cap,h1,h2,h3,h4⟩
 ·exact .inl h
 ·refine .inr ⟨pb,po,cap,h1,h2,h3,fun i hi=>?_⟩;obtain ⟨x,x0,x1,hx⟩:=h4 i hi;exact ⟨x,x0,x1,o.cell (by omega) hx⟩
def Cur (w:World) (b base K:Nat):Prop:=∃ (v:Value) (n:Nat) (a s:Int),Box3 w b v (.int .i64 a) (.int .u64 s)∧CodeIn w base v n∧n≤1048576∧0≤a∧a≤K∧0≤s∧s<18446744073709551616∧base≤b
theorem xdNc {a b:World} (h:Ext a b) (n:Nat):Ext a (b.drewN n):=⟨h.os,h.tape,h.output,h.size,h.block⟩
theorem addr_nearc {b i j:Nat} (h:i ≠ j):(⟨b,i,none⟩:Addr) ≠ ⟨b,j,none⟩:=fun e=>h (by cases e;rfl)
theorem Box3.put1c {w:World} {b:Nat} {v0 v1 v2:Value} (h:Box3 w b v0 v1 v2) (u:Value):Box3 (w.setCell ⟨b,1,none⟩ u) b v0 u v2:=by
 obtain ⟨⟨q0,q1,q2⟩,f0,f1,f2⟩:=h;refine ⟨⟨?_,World.cell?_setCell_same _ _ _ q1,?_⟩,?_,?_,?_⟩
 ·rw [World.cell?_setCell_other _ _ _ _ (addr_nearc (by decide))];exact q0
 ·rw [World.cell?_setCell_other _ _ _ _ (addr_nearc (by decide))];exact q2
 ·simp [World.frozen?_setCell,f0]
 ·simp [World.frozen?_setCell,f1]
 ·simp [World.frozen?_setCell,f2]
theorem Box3.put2c {w:World} {b:Nat} {v0 v1 v2:Value} (h:Box3 w b v0 v1 v2) (u:Value):Box3 (w.setCell ⟨b,2,none⟩ u) b v0 v1 u:=by
 obtain ⟨⟨q0,q1,q2⟩,f0,f1,f2⟩:=h;refine ⟨⟨?_,?_,World.cell?_setCell_same _ _ _ q2⟩,?_,?_,?_⟩
 ·rw [World.cell?_setCell_other _ _ _ _ (addr_nearc (by decide))];exact q0
 ·rw [World.cell?_setCell_other _ _ _ _ (addr_nearc (by decide))];exact q1
 ·simp [World.frozen?_setCell,f0]
 ·simp [World.frozen?_setCell,f1]
 ·simp [World.frozen?_setCell,f2]
theorem and255 (x:Int) (h0:0≤x) (h1:x<18446744073709551616):0≤bits BinOp.and IntKind.u64 x 255∧bits BinOp.and IntKind.u64 x 255≤255:=by
 obtain ⟨n,rfl⟩:∃ n:Nat,x=n:=⟨x.toNat,by omega⟩;have h:=bits_and_u64_nat n 255 (by omega) (by decide);have e:((255:Nat):Int)=255:=rfl;rw [e] at h;rw [h];have:=Nat.and_le_right (n:=n) (m:=255);omega
theorem or_fits (x y:Int) (h0:0≤x) (h1:x<18446744073709551616) (k0:0≤y) (k1:y<18446744073709551616):0≤bits BinOp.or IntKind.u64 x y∧bits BinOp.or IntKind.u64 x y<18446744073709551616:=by
 obtain ⟨n,rfl⟩:∃ n:Nat,x=n:=⟨x.toNat,by omega⟩;obtain ⟨m,rfl⟩:∃ m:Nat,y=m:=⟨y.toNat,by omega⟩;rw [bits_or_u64_nat n m (by omega) (by omega)];have hx:n ||| m<2 ^ 64:=Nat.or_lt_two_pow (by omega) (by omega);omega
theorem Cur.drewN {w:World} {b base K:Nat} (h:Cur w b base K) (n:Nat):Cur (w.drewN n) b base K:=by
 obtain ⟨v,k,a,s,B,hc,r⟩:=h;exact ⟨v,k,a,s,B.later (xdNc (xr _) n),hc.only (b:=b) ((Only.refl b w).drewN n) r.2.2.2.2.2,r⟩
set_option maxRecDepth 8000 in
set_option maxHeartbeats 2000000 in
theorem nextC (b base K:Nat) (w:World) (h:Cur w b base K) (hK:K≤1000000000) :
  Calls Tryd.prog 24 #[.pointer (some ⟨b,0,none⟩)] w fun e w'=>∃ v:Int,e=.returned (.int .i64 v)∧(0≤v∧v≤255)∧Cur w' b base (K+1)∧Only b w w':=by
 obtain ⟨v,n,a,s,B,hc,hn,a0,a1,s0,s1,hbb⟩:=h;have B':=B;obtain ⟨⟨q0,q1,q2⟩,g0,g1,g2⟩:=B';have wb:∀ x:Int,0≤IntKind.u64.wrap x∧IntKind.u64.wrap x<18446744073709551616:=fun x=>by rw [IntKind.wrap_u64];omega
 rcases hc with ⟨⟨np,ncap,rfl⟩,rfl⟩ | ⟨pb,po,cap,hpb,rfl,hnc,hx⟩
 ·have f1:decide (a<0)=false:=by simp;omega
  have f2:decide (a+1≤0)=false:=by simp;omega
  obtain ⟨S,hS⟩:∃ S,IntKind.u64.wrap (IntKind.u64.wrap (IntKind.u64.wrap (s * 6364136223846793005))+1442695040888963407)=S:=⟨_,rfl⟩;have hS2:=wb (IntKind.u64.wrap (IntKind.u64.wrap (s * 6364136223846793005))+1442695040888963407);rw [hS] at hS2;have CU:Hid (∀ n,Cur (((w.drewN n).setCell ⟨b,1,none⟩ (.int .i64 (a+1))).setCell ⟨b,2,none⟩ (.int .u64 S)) b base (K+1)):=fun n =>
   ⟨_,0,a+1,S,((B.later (xdNc (xr _) n)).put1c _).put2c _,.inl ⟨⟨_,_,rfl⟩,rfl⟩,by omega,by omega,by omega,hS2.1,hS2.2,hbb⟩
  have ON:Hid (∀ n,Only b w (((w.drewN n).setCell ⟨b,1,none⟩ (.int .i64 (a+1))).setCell ⟨b,2,none⟩ (.int .u64 S))):=fun n=>(((Only.refl b w).drewN n).set _).set _;clear B wb;go_enter Tryd.func24,Tryd.ntmps24;go_wp2_with fail;go_quiet (fail);go_wp2_with fail;go_quiet (fail);go_wp2_with fail;obtain ⟨V,hV⟩:∃ V,bits BinOp.and IntKind.u64 (S / 1099511627776) 255=V:=⟨_,rfl⟩;have bv:=and255 (S / 1099511627776) (by omega) (by omega);rw [hV] at bv;go_ret;refine ⟨V,?_,bv,(CU.out _).drewN _,(ON.out _).drewN _⟩;rw [hV];exact ret_int (by unfold wrap64;omega)
 ·by_cases hlt:a<n
  ·obtain ⟨i,rfl⟩:∃ i:Nat,a=i:=⟨a.toNat,by omega⟩;obtain ⟨x,x0,x1,hxc⟩:=hx i (by omega);have f1:decide ((i:Int)<n)=true:=by simp;omega
   have f2:decide ((i:Int)+1≤n)=true:=by simp;omega
   have i1:(i:Int)<(n:Int):=by omega
   have wx:IntKind.u64.wrap x=x:=by rw [IntKind.wrap_u64];omega
   have wx2:IntKind.i64.wrap x=x:=by rw [IntKind.wrap_i64];omega
   obtain ⟨S,hS⟩:∃ S,IntKind.u64.wrap (IntKind.u64.wrap (IntKind.u64.wrap (s * 6364136223846793005)+x)+1442695040888963407)=S:=⟨_,rfl⟩;have hS2:=wb (IntKind.u64.wrap (IntKind.u64.wrap (s * 6364136223846793005)+x)+1442695040888963407);rw [hS] at hS2;have CU:Hid (∀ w2:World,Only b w w2→Box3 w2 b (.slice (some ⟨pb,po,none⟩) n cap) (.int .i64 i) (.int .u64 s)→Cur ((w2.setCell ⟨b,1,none⟩ (.int .i64 ((i:Int)+1))).setCell ⟨b,2,none⟩ (.int .u64 S)) b base (K+1)∧Only b w ((w2.setCell ⟨b,1,none⟩ (.int .i64 ((i:Int)+1))).setCell ⟨b,2,none⟩ (.int .u64 S))):=fun w2 o bx =>
    ⟨⟨_,n,(i:Int)+1,S,(bx.put1c _).put2c _,CodeIn.only (.inr ⟨pb,po,cap,hpb,rfl,hnc,hx⟩) ((o.set _).set _) hbb,hn,by omega,by omega,hS2.1,hS2.2,hbb⟩,(o.set _).set _⟩
   have BB:Hid (∀ k,Box3 (w.drewN k) b (.slice (some ⟨pb,po,none⟩) n cap) (.int .i64 i) (.int .u64 s)):=fun k=>B.later (xdNc (xr _) k);clear B wb hx;go_enter Tryd.func24,Tryd.ntmps24;go_wp2_with fail;go_quiet (fail);go_wp2_with fail;go_quiet (fail);go_wp2_with fail;go_quiet (fail);go_wp2_with fail;go_ret;have cu:=fun a'=>CU.out (w.drewN a') ((Only.refl b w).drewN a') (BB.out a');exact ⟨x,rfl,⟨x0,x1⟩,(cu _).1.drewN _,(cu _).2.drewN _⟩
  ·have f1:decide (a<(n:Int))=false:=by simp;omega
   have f2:decide (a+1≤(n:Int))=false:=by simp;omega
   obtain ⟨S,hS⟩:∃ S,IntKind.u64.wrap (IntKind.u64.wrap (IntKind.u64.wrap (s * 6364136223846793005))+1442695040888963407)=S:=⟨_,rfl⟩;have hS2:=wb (IntKind.u64.wrap (IntKind.u64.wrap (s * 6364136223846793005))+1442695040888963407);rw [hS] at hS2;have ON:Hid (∀ k,Only b w (((w.drewN k).setCell ⟨b,1,none⟩ (.int .i64 (a+1))).setCell ⟨b,2,none⟩ (.int .u64 S))):=fun k=>(((Only.refl b w).drewN k).set _).set _;have CU:Hid (∀ k,Cur (((w.drewN k).setCell ⟨b,1,none⟩ (.int .i64 (a+1))).setCell ⟨b,2,none⟩ (.int .u64 S)) b base (K+1)):=fun k =>
    ⟨_,n,a+1,S,((B.later (xdNc (xr _) k)).put1c _).put2c _,CodeIn.only (.inr ⟨pb,po,cap,hpb,rfl,hnc,hx⟩) (ON.out k) hbb,hn,by omega,by omega,hS2.1,hS2.2,hbb⟩
   clear B wb hx;go_enter Tryd.func24,Tryd.ntmps24;go_wp2_with fail;go_quiet (fail);go_wp2_with fail;go_quiet (fail);go_wp2_with fail;obtain ⟨V,hV⟩:∃ V,bits BinOp.and IntKind.u64 (S / 1099511627776) 255=V:=⟨_,rfl⟩;have bv:=and255 (S / 1099511627776) (by omega) (by omega);rw [hV] at bv;go_ret;refine ⟨V,?_,bv,(CU.out _).drewN _,(ON.out _).drewN _⟩;rw [hV];exact ret_int (by unfold wrap64;omega)
theorem Cur.ext {w w':World} {b base K:Nat} (h:Cur w b base K) (x:Ext w w'):Cur w' b base K:=by
 obtain ⟨v,k,a,s,B,hc,r⟩:=h;exact ⟨v,k,a,s,B.later x,hc.only (b:=b) (Only.of_ext x) r.2.2.2.2.2,r⟩
theorem Cur.lt {w:World} {b base K:Nat} (h:Cur w b base K):b<w.heap.size:=by
 obtain ⟨v,k,a,s,B,_⟩:=h;exact World.block_lt_of_cell? _ _ B.1.1
theorem Cur.more {w:World} {b base K K':Nat} (h:Cur w b base K) (hk:K≤K'):Cur w b base K':=by
 obtain ⟨v,k,a,s,B,hc,h1,h2,h3,r⟩:=h;exact ⟨v,k,a,s,B,hc,h1,h2,by omega,r⟩
set_option maxRecDepth 8000 in
set_option maxHeartbeats 1000000 in
theorem pickC (b base K:Nat) (n:Int) (w:World) (h:Cur w b base K) (hK:K≤100000000) (n0:1<n) (n1:n≤100000000) :
  Calls Tryd.prog 9 #[.pointer (some ⟨b,0,none⟩),.int .i64 n] w fun e w'=>∃ v:Int,e=.returned (.int .i64 v)∧(0≤v∧v<n)∧Cur w' b base (K+2)∧Only b w w':=by
 have f1:decide (n≤1)=false:=by simp;omega
 by_cases h2:n > 200
 ·have f2:decide (n > 200)=true:=by simp;omega
  go_enter Tryd.func9,Tryd.ntmps9;go_wp2_with fail;refine (nextC b base K w h (by omega)).mono ?_;rintro e w1 ⟨x,rfl,⟨x0,x1⟩,c1,o1⟩;go_wp2_with fail;refine (nextC b base (K+1) w1 c1 (by omega)).mono ?_;rintro e w2 ⟨y,rfl,⟨y0,y1⟩,c2,o2⟩;have hm:(x * 256+y).tmod n=(x * 256+y) % n:=Int.tmod_eq_emod_of_nonneg (by omega);have b1:=Int.emod_nonneg (x * 256+y) (show n ≠ 0 by omega);have b2:=Int.emod_lt_of_pos (x * 256+y) (show 0<n by omega);go_wp2_with fail;go_ret;exact ⟨_,rfl,⟨b1,b2⟩,c2,o1.trans o2⟩
 ·have f2:decide (n > 200)=false:=by simp;omega
  go_enter Tryd.func9,Tryd.ntmps9;go_wp2_with fail;refine (nextC b base K w h (by omega)).mono ?_;rintro e w1 ⟨x,rfl,⟨x0,x1⟩,c1,o1⟩;have b1:=Int.emod_nonneg x (show n ≠ 0 by omega);have b2:=Int.emod_lt_of_pos x (show 0<n by omega);go_wp2_with fail;go_ret;exact ⟨_,rfl,⟨b1,b2⟩,c1.more (by omega),o1⟩
set_option maxHeartbeats 400000 in
theorem oneC (b base K:Nat) (n:Int) (w:World) (h:Cur w b base K) (hK:K≤100000000) (n0:1<n) (n1:n≤100000000) :
  Calls Tryd.prog 21 #[.pointer (some ⟨b,0,none⟩),.int .i64 n] w fun e w'=>∃ v:Bool,e=.returned (.bool v)∧Cur w' b base (K+2)∧Only b w w':=by
 go_enter Tryd.func21,Tryd.ntmps21;go_wp2_with fail;refine (pickC b base K n w h hK n0 n1).mono ?_;rintro e w1 ⟨x,rfl,_,c1,o1⟩;go_wp2_with fail;go_ret;exact ⟨_,rfl,c1,o1⟩
set_option maxRecDepth 8000 in
set_option maxHeartbeats 1000000 in
theorem wideC (b base K:Nat) (w:World) (h:Cur w b base K) (hK:K≤10000000) :
  Calls Tryd.prog 60 #[.pointer (some ⟨b,0,none⟩)] w fun e w'=>∃ v:Int,e=.returned (.int .u64 v)∧(0≤v∧v<18446744073709551616)∧Cur w' b base (K+8)∧Only b w w':=by
 go_enter Tryd.func60,Tryd.ntmps60;go_wp2_with fail;go_loopw [3,4] (fun a i wr=>∃ (k:Nat) (x:Int),k≤8∧i=.int .i64 k∧a=.int .u64 x∧0≤x∧x<18446744073709551616∧Cur wr b base (K+k)∧Only b w wr) (fun _ i _=>8 - (intOf i).toNat)
 case atStart=>exact ⟨0,0,by omega,rfl,rfl,by omega,by omega,h,Only.refl b w⟩
 case round =>
  obtain ⟨k,x,hk,rfl,rfl,x0,x1,c,o⟩:=hrel;by_cases hlt:k<8
  ·have hlt':(k:Int)<8:=by omega
   go_wp2_with fail;refine (nextC b base (K+k) wr c (by omega)).mono ?_;rintro e w2 ⟨y,rfl,⟨y0,y1⟩,c2,o2⟩;have wy:IntKind.u64.wrap y=y:=by rw [IntKind.wrap_u64];omega
   have wz:0≤IntKind.u64.wrap (x * 256)∧IntKind.u64.wrap (x * 256)<18446744073709551616:=by rw [IntKind.wrap_u64];omega
   have oz:=or_fits (IntKind.u64.wrap (x * 256)) y wz.1 wz.2 y0 (by omega);have HO:Hid (0≤bits BinOp.or IntKind.u64 (IntKind.u64.wrap (x * 256)) y∧bits BinOp.or IntKind.u64 (IntKind.u64.wrap (x * 256)) y<18446744073709551616):=oz;clear wz oz;go_wp2_with fail;go_roundw
   case rel=>exact ⟨k+1,_,by omega,by go_num,rfl,HO.out.1,HO.out.2,c2,o.trans o2⟩
   case measure=>simp [intOf];omega
  ·obtain rfl:k=8:=by omega
   go_wp2_with fail;go_ret;exact ⟨x,rfl,⟨x0,x1⟩,c,o⟩
end Go.Proofs.YtnphbpmdohidcaaDoor

