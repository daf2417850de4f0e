/-
  Several texts in one: FrameB, Frame, Vek, Sv1, Fa, Fe, Fk, FrameX, LibD.
-/
import Derived.Test.YtkadkfmidlhedaaGreatDoorRows
import Derived.Test.YtkadkfmidlhedaaGreatDoorMg0
import Derived.WalkKit
import Derived.ProofKit
import Derived.OpenShut
import Derived.WalkSmall
import Derived.Lib.SmallJoins
import Derived.Deep.DeepHandedRow
import Derived.Lib.LaidTab
import Derived.Laws.IdiomStrings
import Derived.Deep.Strs
import Derived.Stop.LaidErr
import Derived.Lib.ItoaNum
set_option maxRecDepth 100000
set_option maxHeartbeats 1000000
namespace Go.Proofs.YtkadkfmidlhedaaGreatDoor
open Go.ChangeShapes Go.WideShapes Go.ChangeAt Go.RowKit
theorem own:ownKnob Tryz.prog.godebug=none:=by kernel_rfl
theorem zP4:laidOutB Tryz.prog=true:=by kernel_rfl
theorem zHN {H:Type} {enc:TypeId × Value->H} {P:Program} (hl:laidOutB P=true) {W W':World} (bel:Below W.heap.size W W') :
  ∀ {ns:List String} {gs:List (DataW H)} {q:List MemPlace},(∀ n ∈ ns,∀ g t,P.globalNamed n=some g->(P.globals[g]?).map (·.type)=some t->P.readableRec t=true/\t<P.types.size) ->
   (∀ x ∈ q,x.block<W.heap.size)->DataW.TrodVars enc P W (fun _=>true) ns gs q->DataW.TrodVars enc P W' (fun b=>decide (b<W.heap.size)) ns gs q
 | [],[],_,_,_,h=>h
 | [],_ :: _,_,_,_,h=>h.elim
 | _ :: _,[],_,_,_,h=>h.elim
 | n :: ns,d :: ds,q,hr,hlt,h=>by
  obtain ⟨g,t,cs,fuel,p,r,h1,h2,h3,h4,h5,rfl⟩:=h;obtain ⟨r1,r2⟩:=hr n (by simp) g t h1 h2;have hg:g<W.heap.size:=by
   unfold World.var? at h3;simp only [h1,Option.bind_some] at h3;by_cases hk:g<W.heap.size
   ·exact hk
   ·rw [Array.getElem?_eq_none (by omega)] at h3;cases h3
  refine ⟨g,t,cs,fuel,p,r,h1,h2,var?_below bel h1 hg h3,?_,?_,rfl⟩
  ·exact DataW.trod_stays (kids_book hl r1) (book_sized r1) (fun h=>by cases h) ⟨r2,book_self t⟩ h4 (fun x hx=>bel.same (hlt x (by simp [hx]))) (fun x hx=>by simpa using hlt x (by simp [hx]))
  ·exact zHN hl bel (fun m hm=>hr m (by simp [hm])) (fun x hx=>hlt x (by simp [hx])) h5
theorem zBM {H:Type} {enc:TypeId × Value->H} {P:Program} {w:World} {base:Nat} {sp:Nat->Bool} {held:Bool} {fuel:Nat} {t e:TypeId} {n:Nat} {cs:List Value} {ds:List (DataW H)} {p:List MemPlace}
  (ht:P.underlying t=some (.array n e)) (h:DataW.trod enc P w base sp held fuel t cs=some (.agg ds,p)) (i:Nat) (hi:i<n) (d:DataW H) (hd:ds[i]?=some d) :
  ∃ fuel' p',DataW.trod enc P w base sp held fuel' e ((cs.drop (i * P.cellsOf e)).take (P.cellsOf e))=some (d,p'):=by
 cases fuel with
 | zero=>simp [DataW.trod] at h
 | succ fuel =>
  simp only [DataW.trod,ht] at h
  split at h
  ·obtain ⟨xs,hm,hx⟩:=Option.map_eq_some_iff.1 h;obtain ⟨b,hb,hf⟩:=Lib.mapM_at hm i i (by simp [hi]);have e1:xs.map (·.1)=ds:=by
    have:=congrArg Prod.fst hx;simpa using this
   rw [<- e1,List.getElem?_map,hb] at hd;simp only [Option.map_some,Option.some.injEq] at hd;subst hd;exact ⟨fuel,b.2,hf⟩
  ·cases h
end Go.Proofs.YtkadkfmidlhedaaGreatDoor

namespace Go.Proofs.YtkadkfmidlhedaaGreatDoor
open Go.ChangeShapes Go.WideShapes Go.ChangeAt Go.RowKit
theorem zUJ:Tryz.prog.globalNamed "loop.example/g00025/impl.tens" = some 2:=by kernel_rfl
theorem zJL:(Tryz.prog.globals[2]?).map (·.type)=some 137:=by kernel_rfl
theorem zT1 {rest:List (String × DataW Unit)} {W:World} (h:laidMet Tryz.prog (("loop.example/g00025/impl.tens", Rows.laid_loop_example_g00025_impl_tens) :: rest) W):Tens W:=by
 have t:Lib.TabIs Tryz.prog W "loop.example/g00025/impl.tens" .u64 [1,10,100,1000,10000,100000,1000000,10000000,100000000,1000000000,10000000000,100000000000,1000000000000,10000000000000,100000000000000,1000000000000000,10000000000000000,100000000000000000,1000000000000000000,10000000000000000000]:=
  Lib.tabIs_of_head (rest:=rest) zUJ zJL Tryz.underlying137 Tryz.underlying62 (by kernel_rfl) (by kernel_rfl) h
 intro i hi;have e:∀ i:Nat,i<20->([1,10,100,1000,10000,100000,1000000,10000000,100000000,1000000000,10000000000,100000000000,1000000000000,10000000000000,100000000000000,1000000000000000,10000000000000000,100000000000000000,1000000000000000000,10000000000000000000]:List Int).getD i 0=((10 ^ i:Nat):Int):=by decide +kernel
 rw [<- e i hi];exact t.cell zUJ i hi
theorem zHH:∀ g t,Tryz.prog.globalNamed "loop.example/g00025/impl.tens" = some g->(Tryz.prog.globals[g]?).map (·.type)=some t->Tryz.prog.readableRec t=true/\t<Tryz.prog.types.size:=by
 intro g t hg ht;obtain rfl:=Option.some.inj (zUJ.symm.trans hg);obtain rfl:=Option.some.inj (zJL.symm.trans ht);exact ⟨by kernel_rfl,of_decide_eq_true (by kernel_rfl)⟩
end Go.Proofs.YtkadkfmidlhedaaGreatDoor

namespace Go.Proofs.YtkadkfmidlhedaaGreatDoor
open Go.RowKit
def Vec (w:World) (b:Nat) (l:List Value):Prop:=∀ i v,l[i]?=some v->w.cell? ⟨b,i,none⟩=some v/\w.frozen? ⟨b,i,none⟩=false
theorem Vec.l {w w1:World} {b:Nat} {l:List Value} (h:Vec w b l) (hb:Ext w w1):Vec w1 b l:=fun i v hi=>⟨cell_later hb (h i v hi).1,zAK hb (h i v hi).1 (h i v hi).2⟩
theorem Vec.far {w:World} {b:Nat} {l:List Value} (h:Vec w b l) {p:Addr} (hp:p.block ≠ b) (u:Value):Vec (w.setCell p u) b l:=fun i v hi=>by
 refine ⟨?_,by rw [World.frozen?_setCell];exact (h i v hi).2⟩;rw [World.cell?_setCell_other _ _ _ _ (fun e=>hp (congrArg Addr.block e))];exact (h i v hi).1
theorem Vec.put {w:World} {b:Nat} {l:List Value} (h:Vec w b l) (i:Nat) (hi:i<l.length) (u:Value):Vec (w.setCell ⟨b,i,none⟩ u) b (l.set i u):=fun j v hj=>by
 refine ⟨?_,?_⟩
 ·by_cases e:j=i
  ·subst e;rw [List.getElem?_set_self hi] at hj;cases hj;exact World.cell?_setCell_same' _ _ _ (by rw [(h j l[j] (List.getElem?_eq_getElem hi)).1];rfl)
  ·rw [List.getElem?_set_ne (fun q=>e q.symm)] at hj;rw [World.cell?_setCell_other _ _ _ _ (fun q=>e (congrArg Addr.off q).symm)];exact (h j v hj).1
 ·rw [World.frozen?_setCell];by_cases e:j=i
  ·subst e;exact (h j l[j] (List.getElem?_eq_getElem hi)).2
  ·rw [List.getElem?_set_ne (fun q=>e q.symm)] at hj;exact (h j v hj).2
theorem zJ0 {s:ByteArray} {l:List UInt8} (h:s.data.toList=l):s.size=l.length:=by
 rw [<- h,Array.length_toList];rfl
theorem zFG {s:ByteArray} {l:List UInt8} (h:s.data.toList=l) {p:Nat} (hp:p<s.size):(s[p]'hp)=l.getD p 0:=by
 subst h;simp only [ByteArray.getElem_eq_getElem_data];have hp':p<s.data.size:=hp;simp only [List.getD,Array.getElem?_toList];rw [Array.getElem?_eq_getElem hp'];rfl
theorem zNI {l:List UInt8} {i:Nat} (h:i<l.length):l.take (i+1)=l.take i++[l.getD i 0]:=by
 rw [List.take_add_one];simp [h]
abbrev sV (l:List UInt8):Value:=.string ⟨l.toArray⟩
theorem zA5 (w:World) (l:List Value) (t:TypeId):Vec (w.alloc (.cells l.toArray t)) w.heap.size l:=by
 intro i v hi;have hb:=heap_alloc_new w (.cells l.toArray t);refine ⟨?_,?_⟩
 ·unfold World.cell?;simp only [hb];simpa using hi
 ·unfold World.frozen?;simp only [hb];simp
def upC (c:UInt8):UInt8:=if 97<=c.toNat/\c.toNat<=122 then UInt8.ofNat (c.toNat - 32) else c
theorem zIT {c:UInt8} (h:97<=c.toNat/\c.toNat<=122):((upC c).toNat:Int)=(c.toNat:Int) - 32:=by
 unfold upC;rw [if_pos h,UInt8.toNat_ofNat'];omega
theorem zIU {c:UInt8} (h:¬ (97<=c.toNat/\c.toNat<=122)):upC c=c:=by unfold upC;rw [if_neg h]
def encB (l:List UInt8):List Value:=l.map fun c=>Value.int .u8 (c.toNat:Int)
theorem zH6 (l:List UInt8):(encB l).length=l.length:=by simp [encB]
theorem zKI {l:List UInt8} {i:Nat} {c:UInt8} (h:l[i]?=some c):(encB l)[i]?=some (.int .u8 (c.toNat:Int)):=by simp [encB,h]
def upK (l:List UInt8) (k:Nat):List UInt8:=(l.take k).map upC++l.drop k
theorem zEC (l:List UInt8) (k:Nat):(upK l k).length=l.length:=by simp [upK];omega
theorem zKT (l:List UInt8):upK l 0=l:=by simp [upK]
theorem zNA (l:List UInt8):upK l l.length=l.map upC:=by simp [upK]
theorem zKU {l:List UInt8} {k:Nat} {c:UInt8} (h:l[k]?=some c):(upK l k)[k]?=some c:=by
 have hk:k<l.length:=(List.getElem?_eq_some_iff.1 h).1;unfold upK;rw [List.getElem?_append_right (by simp;omega)];simp only [List.length_map,List.length_take,List.getElem?_drop];rw [show k+(k - min k l.length)=k by omega];exact h
theorem zGB {l:List UInt8} {k:Nat} {c:UInt8} (h:l[k]?=some c):upK l (k+1)=(upK l k).set k (upC c):=by
 have hk:k<l.length:=(List.getElem?_eq_some_iff.1 h).1;apply List.ext_getElem?;intro i;rw [List.getElem?_set];unfold upK;by_cases e:k=i
 ·subst e;rw [if_pos rfl,List.getElem?_append_left (by simp;omega)];rw [if_pos (by simp;omega)];simp [h]
 ·rw [if_neg e]
  rcases Nat.lt_or_ge i k with hi | hi
  ·rw [List.getElem?_append_left (by simp;omega),List.getElem?_append_left (by simp;omega)];simp [hi,Nat.lt_succ_of_lt hi]
  ·rw [List.getElem?_append_right (by simp;omega),List.getElem?_append_right (by simp;omega)];simp only [List.length_map,List.length_take,List.getElem?_drop]
   congr 1
   omega
theorem zI4 (l:List UInt8) (w:World):∃ cap w',(convert 9 22 (sV l)).run Tryz.prog w=.ok (.slice (some ⟨w.heap.size,0,none⟩) l.length cap) w'/\l.length<=cap/\Ext w w'/\Vec w' w.heap.size (encB l):=by
 have hcv:=run_bytes_of_string (P:=Tryz.prog) w 9 22 5 ⟨l.toArray⟩ Tryz.underlying9 Tryz.underlying22 Tryz.underlying5;refine ⟨_,_,hcv,grownCap_ge _ _ _ _,xa (xd (xr _)) _,fun j u hj=>?_⟩;have hjl:j<l.length:=by
  have:=(List.getElem?_eq_some_iff.1 hj).1;simpa [encB] using this
 obtain ⟨C,hC⟩:=nm (grownCap w (⟨l.toArray⟩:ByteArray).size 0 5);rw [hC];have hb:(w.drew.alloc (.cells (bytesRow ⟨l.toArray⟩ C) 5 ((bytesRow ⟨l.toArray⟩ C).size,(bytesRow ⟨l.toArray⟩ C).size+1))).heap[w.heap.size]?=some (.cells (bytesRow ⟨l.toArray⟩ C) 5 ((bytesRow ⟨l.toArray⟩ C).size,(bytesRow ⟨l.toArray⟩ C).size+1)):=heap_alloc_new w.drew _;refine ⟨?_,?_⟩
 ·unfold World.cell?;simp only [hb];rw [<- hj];unfold bytesRow encB;rw [Array.getElem?_append_left (by simp;exact hjl)];simp
 ·unfold World.frozen?;simp only [hb];have:j<(bytesRow ⟨l.toArray⟩ C).size:=by unfold bytesRow;simp;omega
  simp;omega
theorem zI5 (l:List UInt8) (g cap:Nat) (w:World) (h:Vec w g (encB l)):(convert 22 9 (.slice (some ⟨g,0,none⟩) l.length cap)).run Tryz.prog w=.ok (sV l) w:=by
 refine run_convert_bytes_back (P:=Tryz.prog) w 22 9 5 ⟨g,0,none⟩ cap l Tryz.underlying22 Tryz.underlying5 Tryz.underlying9 (fun j hj=>?_);have:=(h j _ (zKI (List.getElem?_eq_getElem hj))).1;rw [show (⟨g,0,none⟩:Addr).add j=⟨g,j,none⟩ by unfold Addr.add;split <;> simp_all];exact this
def zAC (c:UInt8):Bool:=decide (32<=c.toNat/\c.toNat<=126)
def zGX (l:List UInt8):Bool:=l.all zAC
def zEO (m:Nat) (l:List UInt8):Bool:=l.all zAC && decide (l.length<=m)
theorem zVU (l:List UInt8) (w:World) (hl:l.length<=2000000):Calls Tryz.prog 88 #[sV l] w fun e w'=>e=.returned (.bool (zGX l))/\w'=w:=by
 obtain ⟨s,hs⟩:∃ s:ByteArray,(⟨l.toArray⟩:ByteArray)=s:=⟨_,rfl⟩;have hsl:s.data.toList=l:=by rw [<- hs]
 have hsz:=zJ0 hsl;show Calls Tryz.prog 88 #[.string ⟨l.toArray⟩] w _;rw [hs];clear hs;obtain ⟨n,hn⟩:=nm (l.length);have HN:Hid (l.length=n):=hn;have HS:Hid (s.data.toList=l):=hsl;rw [hn] at hl hsz;clear hn hsl;go_enter Tryz.func88,Tryz.ntmps88;go_wp2_with fail
 go_loop [6] (fun i=>∃ k:Nat,k<=n/\i=.int .i64 k/\Hid ((l.take k).all zAC=true)) (fun i=>n - (intOf i).toNat)
 case atStart=>exact ⟨0,by omega,rfl,by show _=_;simp⟩
 case round =>
  obtain ⟨k,hk,rfl,HA⟩:=hrel;by_cases hlt:k<n
  ·have hks:k<s.size:=by omega
   have hb0:=zFG HS.out hks;have htk:=zNI (l:=l) (i:=k) (by rw [HN.out];exact hlt);obtain ⟨c,hcc⟩:=nm (l.getD k 0);rw [hcc] at hb0 htk;have hb:((s[k]'hks).toNat:Int)=(c.toNat:Int):=by rw [hb0]
   have i2:(k:Int)<(n:Int):=by omega
   by_cases hc:zAC c=true
   ·have hc':32<=c.toNat/\c.toNat<=126:=(by simpa [zAC] using hc);have HA2:Hid ((l.take (k+1)).all zAC=true):=by
     show _=_;rw [htk,List.all_append,HA.out,List.all_cons,hc];rfl
    obtain ⟨N,hN⟩:∃ N:Int,(c.toNat:Int)=N:=⟨_,rfl⟩;rw [hN] at hb;have n1:32<=N:=(by omega);have n2:N<=126:=(by omega);clear hN hc hc' hb0 htk hcc HA;go_wp2_with fail
    go_round
    case rel=>exact ⟨k+1,by omega,by go_num,HA2⟩
    case measure=>simp [intOf];omega
   ·have HF:Hid (zGX l=false):=by
     show _=_;have hm:c ∈ l:=by
      have:c ∈ l.take (k+1):=(by rw [htk];simp);exact List.mem_of_mem_take this
     have hf:l.all zAC=false:=by
      cases hq:l.all zAC with
      | false=>rfl
      | true=>exact absurd ((List.all_eq_true.1 hq) c hm) hc
     unfold zGX;rw [hf]
    have hc':c.toNat<32\/126<c.toNat:=by
     have:¬ (32<=c.toNat/\c.toNat<=126):=(by simpa [zAC] using hc);omega
    obtain ⟨N,hN⟩:∃ N:Int,(c.toNat:Int)=N:=⟨_,rfl⟩;rw [hN] at hb;have n1:N<32\/126<N:=(by omega);clear hN hc hc' hb0 htk hcc HA
    rcases n1 with n1 | n1
    ·go_wp2_with fail;go_ret;exact ⟨zA6 (by rw [HF.out]),rfl⟩
    ·have n2:32<=N:=(by omega);go_wp2_with fail;go_ret;exact ⟨zA6 (by rw [HF.out]),rfl⟩
  ·obtain rfl:k=n:=by omega
   have HT:Hid (zGX l=true):=by
    show _=_;have h1:=HA.out;rw [List.take_of_length_le (by rw [HN.out];omega)] at h1;exact h1
   clear HA;go_wp2_with fail;go_ret;exact ⟨zA6 (by rw [HT.out]),rfl⟩
theorem zVO (m:Nat) (l:List UInt8) (w:World) (hl:l.length<=2000000):Calls Tryz.prog 44 #[sV l,iQ (m:Int)] w fun e w'=>e=.returned (.bool (zEO m l))/\w'=w:=by
 obtain ⟨s,hs⟩:∃ s:ByteArray,(⟨l.toArray⟩:ByteArray)=s:=⟨_,rfl⟩;have hsl:s.data.toList=l:=by rw [<- hs]
 have hsz:=zJ0 hsl;show Calls Tryz.prog 44 #[.string ⟨l.toArray⟩,iQ (m:Int)] w _;rw [hs];clear hs;obtain ⟨n,hn⟩:=nm (l.length);have HN:Hid (l.length=n):=hn;have HS:Hid (s.data.toList=l):=hsl;rw [hn] at hl hsz;clear hn hsl;go_enter Tryz.func44,Tryz.ntmps44;go_wp2_with fail
 go_loop [5] (fun i=>∃ k:Nat,k<=n/\i=.int .i64 k/\Hid ((l.take k).all zAC=true)) (fun i=>n - (intOf i).toNat)
 case atStart=>exact ⟨0,by omega,rfl,by show _=_;simp⟩
 case round =>
  obtain ⟨k,hk,rfl,HA⟩:=hrel;by_cases hlt:k<n
  ·have hks:k<s.size:=by omega
   have hb0:=zFG HS.out hks;have htk:=zNI (l:=l) (i:=k) (by rw [HN.out];exact hlt);obtain ⟨c,hcc⟩:=nm (l.getD k 0);rw [hcc] at hb0 htk;have hb:((s[k]'hks).toNat:Int)=(c.toNat:Int):=by rw [hb0]
   have i2:(k:Int)<(n:Int):=by omega
   by_cases hc:zAC c=true
   ·have hc':32<=c.toNat/\c.toNat<=126:=(by simpa [zAC] using hc);have HA2:Hid ((l.take (k+1)).all zAC=true):=by
     show _=_;rw [htk,List.all_append,HA.out,List.all_cons,hc];rfl
    obtain ⟨N,hN⟩:∃ N:Int,(c.toNat:Int)=N:=⟨_,rfl⟩;rw [hN] at hb;have n1:32<=N:=(by omega);have n2:N<=126:=(by omega);clear hN hc hc' hb0 htk hcc HA;go_wp2_with fail
    go_round
    case rel=>exact ⟨k+1,by omega,by go_num,HA2⟩
    case measure=>simp [intOf];omega
   ·have HF:Hid (zEO m l=false):=by
     show _=_;have hm:c ∈ l:=by
      have:c ∈ l.take (k+1):=(by rw [htk];simp);exact List.mem_of_mem_take this
     have hf:l.all zAC=false:=by
      cases hq:l.all zAC with
      | false=>rfl
      | true=>exact absurd ((List.all_eq_true.1 hq) c hm) hc
     unfold zEO;rw [hf];rfl
    have hc':c.toNat<32\/126<c.toNat:=by
     have:¬ (32<=c.toNat/\c.toNat<=126):=(by simpa [zAC] using hc);omega
    obtain ⟨N,hN⟩:∃ N:Int,(c.toNat:Int)=N:=⟨_,rfl⟩;rw [hN] at hb;have n1:N<32\/126<N:=(by omega);clear hN hc hc' hb0 htk hcc HA
    rcases n1 with n1 | n1
    ·go_wp2_with fail;go_ret;exact ⟨zA6 (by rw [HF.out]),rfl⟩
    ·have n2:32<=N:=(by omega);go_wp2_with fail;go_ret;exact ⟨zA6 (by rw [HF.out]),rfl⟩
  ·obtain rfl:k=n:=by omega
   have HT:Hid (zEO m l=decide ((k:Int)<=(m:Int))):=by
    show _=_;have h1:=HA.out;rw [List.take_of_length_le (by rw [HN.out];omega)] at h1;unfold zEO;rw [h1,HN.out];simp
   clear HA;go_wp2_with fail;go_ret;exact ⟨zA6 (by rw [HT.out];simp),rfl⟩
def zE9 (l:List UInt8):Bool:=(l == [84,82,85,69]) || (l == [70,65,76,83,69])
theorem zWM (l:List UInt8) (w:World):Calls Tryz.prog 49 #[sV l] w fun e w'=>e=.returned (.bool (zE9 l))/\w'=w:=by
 obtain ⟨p,hp⟩:=nm ((l == [84,82,85,69]));obtain ⟨q,hq⟩:=nm ((l == [70,65,76,83,69]));have e:zE9 l=(p || q):=by unfold zE9;rw [hp,hq]
 rw [e];clear e;cases p <;> cases q
 all_goals
  go_enter Tryz.func49,Tryz.ntmps49;go_wp2_with fail;go_ret;exact ⟨rfl,rfl⟩
def memB (L:List (List UInt8)) (l:List UInt8):Bool:=L.any fun t=>t == l
theorem zLC {L:List (List UInt8)} {l t:List UInt8} {k:Nat} (h:L[k]?=some t) (e:(t == l)=true):memB L l=true:=by
 unfold memB;rw [List.any_eq_true];exact ⟨t,List.mem_of_getElem? h,e⟩
theorem zOZ {L:List (List UInt8)} {l:List UInt8} (h:∀ (j:Nat) (t:List UInt8),L[j]?=some t->(t == l)=false):memB L l=false:=by
 unfold memB;rw [List.any_eq_false];intro t ht;obtain ⟨j,hj⟩:=List.getElem?_of_mem ht;rw [h j t hj];decide
def errL:List (List UInt8):=[[35,78,85,76,76,33],[35,68,73,86,47,48,33],[35,86,65,76,85,69,33],[35,82,69,70,33],[35,78,65,77,69,63],[35,78,85,77,33],[35,78,47,65],[35,83,80,73,76,76,33],[35,67,89,67,76,69,33]]
def opsL:List (List UInt8):=[[94],[42],[47],[43],[45],[38],[61],[60],[62],[60,61],[62,61],[60,62]]
theorem inS (L:List (List UInt8)) (l:List UInt8) (g cap:Nat) (w:World) (hL:L.length<=100) (V:Vec w g (L.map sV)) :
  Calls Tryz.prog 45 #[.slice (some ⟨g,0,none⟩) L.length cap,sV l] w fun e w'=>e=.returned (.bool (memB L l))/\w'=w:=by
 obtain ⟨n,hn⟩:=nm (L.length);have HN:Hid (L.length=n):=hn;have HV:Hid (Vec w g (L.map sV)):=V;have HY:Hid (∀ t (k:Nat),L[k]?=some t->(t == l)=true->memB L l=true):=fun t k h e=>zLC h e;have HX:Hid ((∀ (j:Nat) t,L[j]?=some t->(t == l)=false)->memB L l=false):=fun h=>zOZ h;obtain ⟨R,hR⟩:=nm (memB L l);rw [hR] at HY HX ⊢;rw [hn] at hL ⊢;clear hn V hR;go_enter Tryz.func45,Tryz.ntmps45;go_wp2_with fail
 go_loop [9] (fun i=>∃ k:Nat,k<=n/\i=.int .i64 k/\Hid (∀ (j:Nat) t,j<k->L[j]?=some t->(t == l)=false)) (fun i=>n - (intOf i).toNat)
 case atStart=>exact ⟨0,by omega,rfl,fun j t hj=>by omega⟩
 case round =>
  obtain ⟨k,hk,rfl,HA⟩:=hrel;by_cases hlt:k<n
  ·obtain ⟨t,ht⟩:∃ t,L[k]?=some t:=⟨_,List.getElem?_eq_getElem (by rw [HN.out];exact hlt)⟩;have a0:=(HV.out k (sV t) (by rw [List.getElem?_map,ht];rfl)).1;have i2:(k:Int)<(n:Int):=by omega
   obtain ⟨p,hp⟩:=nm ((t == l));cases p
   ·have HA2:Hid (∀ (j:Nat) t,j<k+1->L[j]?=some t->(t == l)=false):=fun j t' hj h=>by
     rcases Nat.lt_or_ge j k with hjk | hjk
     ·exact HA.out j t' hjk h
     ·obtain rfl:j=k:=(by omega);rw [ht] at h;cases h;exact hp
    clear HA ht;go_wp2_with fail
    go_round
    case rel=>exact ⟨k+1,by omega,by go_num,HA2⟩
    case measure=>simp [intOf];omega
   ·have hr:=HY.out t k ht hp;subst hr;clear HA ht;go_wp2_with fail;go_ret;exact ⟨rfl,rfl⟩
  ·obtain rfl:k=n:=by omega
   have hr:=HX.out (fun j t h=>HA.out j t (by have:=(List.getElem?_eq_some_iff.1 h).1;rw [HN.out] at this;exact this) h);subst hr;clear HA;go_wp2_with fail;go_ret;exact ⟨rfl,rfl⟩
theorem zPF (w:World):Calls Tryz.prog 46 #[] w fun e w'=>∃ g,e=.returned (.slice (some ⟨g,0,none⟩) 9 9)/\Vec w' g (errL.map sV)/\Ext w w':=by
 go_enter Tryz.func46,Tryz.ntmps46;go_wp2_with fail;go_ret;exact ⟨_,rfl,zA5 w (errL.map sV) 9,x1 _ _⟩
theorem opsS (w:World):Calls Tryz.prog 65 #[] w fun e w'=>∃ g,e=.returned (.slice (some ⟨g,0,none⟩) 12 12)/\Vec w' g (opsL.map sV)/\Ext w w':=by
 go_enter Tryz.func65,Tryz.ntmps65;go_wp2_with fail;go_ret;exact ⟨_,rfl,zA5 w (opsL.map sV) 9,x1 _ _⟩
def zAH (w:World):Prop:=∀ i t,errL[i]?=some t->w.cell? ⟨0,i,none⟩=some (sV t)
theorem zAH.l {w w':World} (h:zAH w) (e:Ext w w'):zAH w':=fun i t ht=>cell_later e (h i t ht)
abbrev errV:Value:=.agg #[sV [35,78,85,76,76,33],sV [35,68,73,86,47,48,33],sV [35,86,65,76,85,69,33],sV [35,82,69,70,33],sV [35,78,65,77,69,63],sV [35,78,85,77,33],sV [35,78,47,65],sV [35,83,80,73,76,76,33],sV [35,67,89,67,76,69,33]]
theorem zUV (W:World):(Instr.index 122 errV (iQ 0)).run Tryz.prog W=.ok (sV [35,78,85,76,76,33]) W:=by kernel_rfl
theorem zUU (W:World):(Instr.index 122 errV (iQ 1)).run Tryz.prog W=.ok (sV [35,68,73,86,47,48,33]) W:=by kernel_rfl
theorem zUT (W:World):(Instr.index 122 errV (iQ 2)).run Tryz.prog W=.ok (sV [35,86,65,76,85,69,33]) W:=by kernel_rfl
theorem zUS (W:World):(Instr.index 122 errV (iQ 3)).run Tryz.prog W=.ok (sV [35,82,69,70,33]) W:=by kernel_rfl
theorem zUR (W:World):(Instr.index 122 errV (iQ 4)).run Tryz.prog W=.ok (sV [35,78,65,77,69,63]) W:=by kernel_rfl
theorem zUQ (W:World):(Instr.index 122 errV (iQ 5)).run Tryz.prog W=.ok (sV [35,78,85,77,33]) W:=by kernel_rfl
theorem zUP (W:World):(Instr.index 122 errV (iQ 6)).run Tryz.prog W=.ok (sV [35,78,47,65]) W:=by kernel_rfl
theorem zUO (W:World):(Instr.index 122 errV (iQ 7)).run Tryz.prog W=.ok (sV [35,83,80,73,76,76,33]) W:=by kernel_rfl
theorem zUN (W:World):(Instr.index 122 errV (iQ 8)).run Tryz.prog W=.ok (sV [35,67,89,67,76,69,33]) W:=by kernel_rfl
theorem zWD (k:Nat) (hk:k<9):∃ t,errL[k]?=some t/\∀ W:World,(Instr.index 122 errV (iQ k)).run Tryz.prog W=.ok (sV t) W:=by
 match k,hk with
 | 0,_=>exact ⟨_,rfl,zUV⟩
 | 1,_=>exact ⟨_,rfl,zUU⟩
 | 2,_=>exact ⟨_,rfl,zUT⟩
 | 3,_=>exact ⟨_,rfl,zUS⟩
 | 4,_=>exact ⟨_,rfl,zUR⟩
 | 5,_=>exact ⟨_,rfl,zUQ⟩
 | 6,_=>exact ⟨_,rfl,zUP⟩
 | 7,_=>exact ⟨_,rfl,zUO⟩
 | 8,_=>exact ⟨_,rfl,zUN⟩
theorem errI (l:List UInt8) (w:World) (hE:zAH w):Calls Tryz.prog 51 #[sV l] w fun e w'=>e=.returned (.bool (memB errL l))/\w'=w:=by
 have e0:=hE 0 _ rfl;have e1:=hE 1 _ rfl;have e2:=hE 2 _ rfl;have e3:=hE 3 _ rfl;have e4:=hE 4 _ rfl;have e5:=hE 5 _ rfl;have e6:=hE 6 _ rfl;have e7:=hE 7 _ rfl;have e8:=hE 8 _ rfl;have HY:Hid (∀ t (k:Nat),errL[k]?=some t->(t == l)=true->memB errL l=true):=fun t k h e=>zLC h e;have HX:Hid ((∀ (j:Nat) t,errL[j]?=some t->(t == l)=false)->memB errL l=false):=fun h=>zOZ h;obtain ⟨R,hR⟩:=nm (memB errL l);rw [hR] at HY HX ⊢;clear hR hE;go_enter Tryz.func51,Tryz.ntmps51;go_wp2_with fail;clear e0 e1 e2 e3 e4 e5 e6 e7 e8
 go_loop [6] (fun i=>∃ k:Nat,k<=9/\i=.int .i64 k/\Hid (∀ (j:Nat) t,j<k->errL[j]?=some t->(t == l)=false)) (fun i=>9 - (intOf i).toNat)
 case atStart=>exact ⟨0,by omega,rfl,fun j t hj=>by omega⟩
 case round =>
  obtain ⟨k,hk,rfl,HA⟩:=hrel;by_cases hlt:k<9
  ·obtain ⟨t,ht,hix⟩:=zWD k hlt;have i2:(k:Int)<9:=by omega
   obtain ⟨p,hp⟩:=nm ((t == l));cases p
   ·have HA2:Hid (∀ (j:Nat) t,j<k+1->errL[j]?=some t->(t == l)=false):=fun j t' hj h=>by
     rcases Nat.lt_or_ge j k with hjk | hjk
     ·exact HA.out j t' hjk h
     ·obtain rfl:j=k:=(by omega);rw [ht] at h;cases h;exact hp
    clear HA ht;go_wp2_with fail
    go_round
    case rel=>exact ⟨k+1,by omega,by go_num,HA2⟩
    case measure=>simp [intOf];omega
   ·have hr:=HY.out t k ht hp;subst hr;clear HA ht;go_wp2_with fail;go_ret;exact ⟨rfl,rfl⟩
  ·obtain rfl:k=9:=by omega
   have hr:=HX.out (fun j t h=>HA.out j t (by have:=(List.getElem?_eq_some_iff.1 h).1;simpa [errL] using this) h);subst hr;clear HA;go_wp2_with fail;go_ret;exact ⟨rfl,rfl⟩
end Go.Proofs.YtkadkfmidlhedaaGreatDoor

namespace Go.Proofs.YtkadkfmidlhedaaGreatDoor
open Go.ChangeShapes Go.WideShapes Go.ChangeAt Go.RowKit
theorem zUK:Tryz.prog.globalNamed "loop.example/g00025/impl.errorTexts" = some 0:=by kernel_rfl
theorem zJM:(Tryz.prog.globals[0]?).map (·.type)=some 122:=by kernel_rfl
theorem zNN:Tryz.prog.cellsOf 9=1:=by kernel_rfl
theorem zBQ {H:Type} {enc:TypeId × Value->H} {w:World} {base:Nat} {sp:Nat->Bool} {held:Bool} {fuel:Nat} {cs:List Value} {l:List UInt8} {p:List MemPlace} (o:Nat)
  (h:DataW.trod enc Tryz.prog w base sp held fuel 9 ((cs.drop (o * Tryz.prog.cellsOf 9)).take (Tryz.prog.cellsOf 9))=some (.lit (.string l),p)):cs[o]?=some (sV l):=by
 rw [zNN,Nat.mul_one] at h;obtain ⟨s,hc,hx,_⟩:=DataW.trod_string Tryz.underlying9 h;simp only [Prod.mk.injEq,DataW.lit.injEq,Lit.string.injEq] at hx;have:=congrArg (·[0]?) hc;simp only [List.getElem?_take,List.getElem?_drop,List.getElem?_cons_zero] at this;have hs:s=⟨l.toArray⟩:=by
  cases s;rw [hx.1]
 rw [hs] at this;simpa using this
theorem zUM {rest:List (String × DataW Unit)} {W:World} (h:laidMet Tryz.prog (("loop.example/g00025/impl.errorTexts", Rows.laid_loop_example_g00025_impl_errorTexts) :: rest) W):zAH W:=by
 obtain ⟨ps,⟨g',t',cs,fuel,p,q,hg',ht',hvar,hd,_,_⟩,_⟩:=h;obtain rfl:=Option.some.inj (zUK.symm.trans hg');obtain rfl:=Option.some.inj (zJM.symm.trans ht');have C:=fun i v (h:cs.toList[i]?=some v)=>(World.var?_cell zUK hvar i).trans (by simpa using h);intro i t hi;have h9:i<9:=(List.getElem?_eq_some_iff.1 hi).1
 match i,h9,hi with
 | 0,h9,hi=>cases hi;obtain ⟨_,_,k⟩:=zBM Tryz.underlying122 hd 0 h9 _ rfl;exact C 0 _ (zBQ 0 k)
 | 1,h9,hi=>cases hi;obtain ⟨_,_,k⟩:=zBM Tryz.underlying122 hd 1 h9 _ rfl;exact C 1 _ (zBQ 1 k)
 | 2,h9,hi=>cases hi;obtain ⟨_,_,k⟩:=zBM Tryz.underlying122 hd 2 h9 _ rfl;exact C 2 _ (zBQ 2 k)
 | 3,h9,hi=>cases hi;obtain ⟨_,_,k⟩:=zBM Tryz.underlying122 hd 3 h9 _ rfl;exact C 3 _ (zBQ 3 k)
 | 4,h9,hi=>cases hi;obtain ⟨_,_,k⟩:=zBM Tryz.underlying122 hd 4 h9 _ rfl;exact C 4 _ (zBQ 4 k)
 | 5,h9,hi=>cases hi;obtain ⟨_,_,k⟩:=zBM Tryz.underlying122 hd 5 h9 _ rfl;exact C 5 _ (zBQ 5 k)
 | 6,h9,hi=>cases hi;obtain ⟨_,_,k⟩:=zBM Tryz.underlying122 hd 6 h9 _ rfl;exact C 6 _ (zBQ 6 k)
 | 7,h9,hi=>cases hi;obtain ⟨_,_,k⟩:=zBM Tryz.underlying122 hd 7 h9 _ rfl;exact C 7 _ (zBQ 7 k)
 | 8,h9,hi=>cases hi;obtain ⟨_,_,k⟩:=zBM Tryz.underlying122 hd 8 h9 _ rfl;exact C 8 _ (zBQ 8 k)
theorem zIL:∀ g t,Tryz.prog.globalNamed "loop.example/g00025/impl.errorTexts" = some g->(Tryz.prog.globals[g]?).map (·.type)=some t->Tryz.prog.readableRec t=true/\t<Tryz.prog.types.size:=by
 intro g t hg ht;obtain rfl:=Option.some.inj (zUK.symm.trans hg);obtain rfl:=Option.some.inj (zJM.symm.trans ht);exact ⟨by kernel_rfl,of_decide_eq_true (by kernel_rfl)⟩
end Go.Proofs.YtkadkfmidlhedaaGreatDoor

namespace Go.Proofs.YtkadkfmidlhedaaGreatDoor
open Go.RowKit
def RepC:Prop:=∀ (c:Int) (w:World),0<=c->c<=1000->Calls Tryz.prog 199 #[.string ⟨#[48]⟩,iQ c] w fun e w'=>∃ s,e=.returned (.string s)/\s.data.toList=List.replicate c.toNat 48/\Ext w w'
def zEN (w0:World):Prop:=∀ (n:Int) (w:World),-1000000000000000<n->n<1000000000000000->Ext w0 w->Calls Tryz.prog 149 #[iQ n] w fun e w'=>∃ s,e=.returned (.string s)/\s.data.toList=Lib.itoa n/\Ext w w'
end Go.Proofs.YtkadkfmidlhedaaGreatDoor

