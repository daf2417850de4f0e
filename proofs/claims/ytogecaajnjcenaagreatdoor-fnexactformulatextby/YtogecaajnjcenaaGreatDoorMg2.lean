/-
  Several texts in one: Fe, Fk, N7a.
-/
import Derived.Test.YtogecaajnjcenaaGreatDoorMg1
import Derived.Laws.MakeOwn
namespace Go.Proofs.YtogecaajnjcenaaGreatDoor
open Go.RowKit
def shownC (c:UInt8):Bool:=decide (32≤c.toNat∧c.toNat≤126)
def plainB (l:List UInt8):Bool:=l.all shownC
def printN (m:Nat) (l:List UInt8):Bool:=l.all shownC && decide (l.length≤m)
def printB (l:List UInt8):Bool:=printN 200 l
set_option maxHeartbeats 1000000 in
theorem plainByteI (N:Int) (q:Bool) (w:World) (h:(decide (32≤N) && decide (N≤126))=q):Calls Tryz.prog 127 #[.int .u8 N] w fun e w'=>e=.returned (.bool q)∧w'=w:=by
 subst h;by_cases h1:32≤N
 ·by_cases h2:N≤126
  ·go_enter Tryz.func127,Tryz.ntmps127;go_wp2_with fail;go_ret;exact ⟨ret_bool (by simp [h1,h2]),rfl⟩
  ·go_enter Tryz.func127,Tryz.ntmps127;go_wp2_with fail;go_ret;exact ⟨ret_bool (by simp;omega),rfl⟩
 ·go_enter Tryz.func127,Tryz.ntmps127;go_wp2_with fail;go_ret;exact ⟨ret_bool (by simp;omega),rfl⟩
set_option maxRecDepth 8000 in
set_option maxHeartbeats 1000000 in
theorem plainI (l:List UInt8) (w:World) (hl:l.length≤2000000):Calls Tryz.prog 106 #[sV l] w fun e w'=>e=.returned (.bool (plainB l))∧w'=w:=by
 obtain ⟨s,hs⟩:∃ s:ByteArray,(⟨l.toArray⟩:ByteArray)=s:=⟨_,rfl⟩;have hsl:s.data.toList=l:=by rw [← hs]
 have hsz:=size_ofL' hsl;show Calls Tryz.prog 106 #[.string ⟨l.toArray⟩] w _;rw [hs];clear hs;obtain ⟨n,hn⟩:∃ n,l.length=n:=⟨_,rfl⟩;have HN:Hid _:=hn;have HS:Hid _:=hsl;rw [hn] at hl hsz;clear hn hsl;go_enter Tryz.func106,Tryz.ntmps106;go_wp2_with fail
 go_loop [6] (fun i=>∃ k:Nat,k≤n∧i=.int .i64 k∧Hid ((l.take k).all shownC=true)) (fun i=>n - (intOf i).toNat)
 case atStart=>exact ⟨0,by omega,rfl,by show _=_;simp⟩
 case round =>
  obtain ⟨k,hk,rfl,HA⟩:=hrel;by_cases hlt:k<n
  ·have hks:k<s.size:=by omega
   have hb0:=byte_atA HS.out hks;have htk:=take_at (l:=l) (i:=k) (by rw [HN.out];exact hlt);obtain ⟨c,hcc⟩:∃ c,l.getD k 0=c:=⟨_,rfl⟩;rw [hcc] at hb0 htk;have hb:((s[k]'hks).toNat:Int)=(c.toNat:Int):=by rw [hb0]
   have i2:(k:Int)<(n:Int):=by omega
   by_cases hc:shownC c=true
   ·have hc':32≤c.toNat∧c.toNat≤126:=(by simpa [shownC] using hc);have HA2:Hid ((l.take (k+1)).all shownC=true):=by
     show _=_;rw [htk,List.all_append,HA.out,List.all_cons,hc];rfl
    obtain ⟨N,hN⟩:∃ N:Int,(c.toNat:Int)=N:=⟨_,rfl⟩;rw [hN] at hb;have n1:32≤N:=(by omega);have n2:N≤126:=(by omega);have PB:(decide (32≤N) && decide (N≤126))=true:=(by simp;omega);clear hN hc hc' hb0 htk hcc HA;go_wp2_with (go_at_call 127;refine (plainByteI N _ _ PB).mono ?_;rintro e w' ⟨rfl,rfl⟩)
    go_round
    case rel=>exact ⟨k+1,by omega,by go_num,HA2⟩
    case measure=>simp [intOf];omega
   ·have HF:Hid (plainB l=false):=by
     show _=_;have hm:c ∈ l:=by
      have:c ∈ l.take (k+1):=(by rw [htk];simp);exact List.mem_of_mem_take this
     have hf:l.all shownC=false:=by
      cases hq:l.all shownC with
      | false=>rfl
      | true=>exact absurd ((List.all_eq_true.1 hq) c hm) hc
     unfold plainB;rw [hf]
    have hc':c.toNat<32∨126<c.toNat:=by
     have:¬ (32≤c.toNat∧c.toNat≤126):=(by simpa [shownC] using hc);omega
    obtain ⟨N,hN⟩:∃ N:Int,(c.toNat:Int)=N:=⟨_,rfl⟩;rw [hN] at hb;have n1:N<32∨126<N:=(by omega);have PB:(decide (32≤N) && decide (N≤126))=false:=(by simp;omega);clear hN hc hc' hb0 htk hcc HA;go_wp2_with (go_at_call 127;refine (plainByteI N _ _ PB).mono ?_;rintro e w' ⟨rfl,rfl⟩);go_ret;exact ⟨ret_bool (by rw [HF.out]),rfl⟩
  ·obtain rfl:k=n:=by omega
   have HT:Hid (plainB l=true):=by
    show _=_;have h1:=HA.out;rw [List.take_of_length_le (by rw [HN.out];omega)] at h1;exact h1
   clear HA;go_wp2_with fail;go_ret;exact ⟨ret_bool (by rw [HT.out]),rfl⟩
set_option maxHeartbeats 1000000 in
theorem quotI (l:List UInt8) (w:World) (hl:l.length≤2000000):Calls Tryz.prog 74 #[sV l] w fun e w'=>e=.returned (.bool (printB l))∧w'=w:=by
 have C:=fun W=>plainI l W hl;obtain ⟨n,hn⟩:∃ n,l.length=n:=⟨_,rfl⟩;have hs:(⟨l.toArray⟩:ByteArray).size=n:=hn;have e:printB l=(plainB l && decide ((n:Int)≤200)):=by unfold printB printN plainB;rw [hn];congr 1;simp;omega
 rw [e];rw [hn] at hl;clear e;obtain ⟨p,hp⟩:∃ p,plainB l=p:=⟨_,rfl⟩;rw [hp] at C ⊢;clear hp hn;go_enter Tryz.func74,Tryz.ntmps74;cases p
 all_goals go_wp2_with (go_at_call 106;refine (C _).mono ?_;rintro e w' ⟨rfl,rfl⟩)
 all_goals go_ret
 all_goals exact ⟨ret_bool (by simp),rfl⟩
set_option maxRecDepth 8000 in
set_option maxHeartbeats 1000000 in
theorem printS (m:Nat) (l:List UInt8) (w:World) (hl:l.length≤2000000):Calls Tryz.prog 90 #[sV l,.int .i64 (m:Int)] w fun e w'=>e=.returned (.bool (printN m l))∧w'=w:=by
 obtain ⟨s,hs⟩:∃ s:ByteArray,(⟨l.toArray⟩:ByteArray)=s:=⟨_,rfl⟩;have hsl:s.data.toList=l:=by rw [← hs]
 have hsz:=size_ofL' hsl;show Calls Tryz.prog 90 #[.string ⟨l.toArray⟩,.int .i64 (m:Int)] w _;rw [hs];clear hs;obtain ⟨n,hn⟩:∃ n,l.length=n:=⟨_,rfl⟩;have HN:Hid _:=hn;have HS:Hid _:=hsl;rw [hn] at hl hsz;clear hn hsl;go_enter Tryz.func90,Tryz.ntmps90;go_wp2_with fail
 go_loop [5] (fun i=>∃ k:Nat,k≤n∧i=.int .i64 k∧Hid ((l.take k).all shownC=true)) (fun i=>n - (intOf i).toNat)
 case atStart=>exact ⟨0,by omega,rfl,by show _=_;simp⟩
 case round =>
  obtain ⟨k,hk,rfl,HA⟩:=hrel;by_cases hlt:k<n
  ·have hks:k<s.size:=by omega
   have hb0:=byte_atA HS.out hks;have htk:=take_at (l:=l) (i:=k) (by rw [HN.out];exact hlt);obtain ⟨c,hcc⟩:∃ c,l.getD k 0=c:=⟨_,rfl⟩;rw [hcc] at hb0 htk;have hb:((s[k]'hks).toNat:Int)=(c.toNat:Int):=by rw [hb0]
   have i2:(k:Int)<(n:Int):=by omega
   by_cases hc:shownC c=true
   ·have hc':32≤c.toNat∧c.toNat≤126:=(by simpa [shownC] using hc);have HA2:Hid ((l.take (k+1)).all shownC=true):=by
     show _=_;rw [htk,List.all_append,HA.out,List.all_cons,hc];rfl
    obtain ⟨N,hN⟩:∃ N:Int,(c.toNat:Int)=N:=⟨_,rfl⟩;rw [hN] at hb;have n1:32≤N:=(by omega);have n2:N≤126:=(by omega);clear hN hc hc' hb0 htk hcc HA;go_wp2_with fail
    go_round
    case rel=>exact ⟨k+1,by omega,by go_num,HA2⟩
    case measure=>simp [intOf];omega
   ·have HF:Hid (printN m l=false):=by
     show _=_;have hm:c ∈ l:=by
      have:c ∈ l.take (k+1):=(by rw [htk];simp);exact List.mem_of_mem_take this
     have hf:l.all shownC=false:=by
      cases hq:l.all shownC with
      | false=>rfl
      | true=>exact absurd ((List.all_eq_true.1 hq) c hm) hc
     unfold printN;rw [hf];rfl
    have hc':c.toNat<32∨126<c.toNat:=by
     have:¬ (32≤c.toNat∧c.toNat≤126):=(by simpa [shownC] using hc);omega
    obtain ⟨N,hN⟩:∃ N:Int,(c.toNat:Int)=N:=⟨_,rfl⟩;rw [hN] at hb;have n1:N<32∨126<N:=(by omega);clear hN hc hc' hb0 htk hcc HA
    rcases n1 with n1 | n1
    ·go_wp2_with fail;go_ret;exact ⟨ret_bool (by rw [HF.out]),rfl⟩
    ·have n2:32≤N:=(by omega);go_wp2_with fail;go_ret;exact ⟨ret_bool (by rw [HF.out]),rfl⟩
  ·obtain rfl:k=n:=by omega
   have HT:Hid (printN m l=decide ((k:Int)≤(m:Int))):=by
    show _=_;have h1:=HA.out;rw [List.take_of_length_le (by rw [HN.out];omega)] at h1;unfold printN;rw [h1,HN.out];simp
   clear HA;go_wp2_with fail;go_ret;exact ⟨ret_bool (by rw [HT.out];simp),rfl⟩
def boolB (l:List UInt8):Bool:=(l == [84,82,85,69]) || (l == [70,65,76,83,69])
set_option maxHeartbeats 1000000 in
theorem boolI (l:List UInt8) (w:World):Calls Tryz.prog 75 #[sV l] w fun e w'=>e=.returned (.bool (boolB l))∧w'=w:=by
 obtain ⟨p,hp⟩:∃ p,(l == [84,82,85,69])=p:=⟨_,rfl⟩;obtain ⟨q,hq⟩:∃ q,(l == [70,65,76,83,69])=q:=⟨_,rfl⟩;have e:boolB l=(p || q):=by unfold boolB;rw [hp,hq]
 rw [e];clear e;cases p <;> cases q
 all_goals
  go_enter Tryz.func75,Tryz.ntmps75;go_wp2_with fail;go_ret;exact ⟨rfl,rfl⟩
def memB (L:List (List UInt8)) (l:List UInt8):Bool:=L.any fun t=>t == l
theorem memB_yes {L:List (List UInt8)} {l t:List UInt8} {k:Nat} (h:L[k]?=some t) (e:(t == l)=true):memB L l=true:=by
 unfold memB;rw [List.any_eq_true];exact ⟨t,List.mem_of_getElem? h,e⟩
theorem memB_no {L:List (List UInt8)} {l:List UInt8} (h:∀ (j:Nat) (t:List UInt8),L[j]?=some t→(t == l)=false):memB L l=false:=by
 unfold memB;rw [List.any_eq_false];intro t ht;obtain ⟨j,hj⟩:=List.getElem?_of_mem ht;rw [h j t hj];decide
def errL:List (List UInt8):=[[35,78,85,76,76,33],[35,68,73,86,47,48,33],[35,86,65,76,85,69,33],[35,82,69,70,33],[35,78,65,77,69,63],[35,78,85,77,33],[35,78,47,65],[35,83,80,73,76,76,33],[35,67,89,67,76,69,33]]
def opsL:List (List UInt8):=[[94],[42],[47],[43],[45],[38],[61],[60],[62],[60,61],[62,61],[60,62]]
set_option maxRecDepth 8000 in
set_option maxHeartbeats 1000000 in
theorem inS (L:List (List UInt8)) (l:List UInt8) (g cap:Nat) (w:World) (hL:L.length≤100) (V:Vec w g (L.map sV)) :
  Calls Tryz.prog 91 #[.slice (some ⟨g,0,none⟩) L.length cap,sV l] w fun e w'=>e=.returned (.bool (memB L l))∧w'=w:=by
 obtain ⟨n,hn⟩:∃ n,L.length=n:=⟨_,rfl⟩;have HN:Hid _:=hn;have HV:Hid _:=V;have HY:Hid (∀ t (k:Nat),L[k]?=some t→(t == l)=true→memB L l=true):=fun t k h e=>memB_yes h e;have HX:Hid ((∀ (j:Nat) t,L[j]?=some t→(t == l)=false)→memB L l=false):=fun h=>memB_no h;obtain ⟨R,hR⟩:∃ R,memB L l=R:=⟨_,rfl⟩;rw [hR] at HY HX ⊢;rw [hn] at hL ⊢;clear hn V hR;go_enter Tryz.func91,Tryz.ntmps91;go_wp2_with fail
 go_loop [9] (fun i=>∃ k:Nat,k≤n∧i=.int .i64 k∧Hid (∀ (j:Nat) t,j<k→L[j]?=some t→(t == l)=false)) (fun i=>n - (intOf i).toNat)
 case atStart=>exact ⟨0,by omega,rfl,fun j t hj=>by omega⟩
 case round =>
  obtain ⟨k,hk,rfl,HA⟩:=hrel;by_cases hlt:k<n
  ·obtain ⟨t,ht⟩:∃ t,L[k]?=some t:=⟨_,List.getElem?_eq_getElem (by rw [HN.out];exact hlt)⟩;have a0:=(HV.out k (sV t) (by rw [List.getElem?_map,ht];rfl)).1;have i2:(k:Int)<(n:Int):=by omega
   obtain ⟨p,hp⟩:∃ p,(t == l)=p:=⟨_,rfl⟩;cases p
   ·have HA2:Hid (∀ (j:Nat) t,j<k+1→L[j]?=some t→(t == l)=false):=fun j t' hj h=>by
     rcases Nat.lt_or_ge j k with hjk | hjk
     ·exact HA.out j t' hjk h
     ·obtain rfl:j=k:=(by omega);rw [ht] at h;cases h;exact hp
    clear HA ht;go_wp2_with fail
    go_round
    case rel=>exact ⟨k+1,by omega,by go_num,HA2⟩
    case measure=>simp [intOf];omega
   ·have hr:=HY.out t k ht hp;subst hr;clear HA ht;go_wp2_with fail;go_ret;exact ⟨rfl,rfl⟩
  ·obtain rfl:k=n:=by omega
   have hr:=HX.out (fun j t h=>HA.out j t (by have:=(List.getElem?_eq_some_iff.1 h).1;rw [HN.out] at this;exact this) h);subst hr;clear HA;go_wp2_with fail;go_ret;exact ⟨rfl,rfl⟩
set_option maxRecDepth 8000 in
set_option maxHeartbeats 1000000 in
theorem errorsS (w:World):Calls Tryz.prog 92 #[] w fun e w'=>∃ g,e=.returned (.slice (some ⟨g,0,none⟩) 9 9)∧Vec w' g (errL.map sV)∧Ext w w':=by
 go_enter Tryz.func92,Tryz.ntmps92;go_wp2_with fail;go_ret;exact ⟨_,rfl,vec_made w (errL.map sV) 9,x1 _ _⟩
set_option maxRecDepth 8000 in
set_option maxHeartbeats 1000000 in
theorem opsS (w:World):Calls Tryz.prog 94 #[] w fun e w'=>∃ g,e=.returned (.slice (some ⟨g,0,none⟩) 12 12)∧Vec w' g (opsL.map sV)∧Ext w w':=by
 go_enter Tryz.func94,Tryz.ntmps94;go_wp2_with fail;go_ret;exact ⟨_,rfl,vec_made w (opsL.map sV) 9,x1 _ _⟩
def ErrTab (w:World):Prop:=∀ i t,errL[i]?=some t→w.cell? ⟨1,i,none⟩=some (sV t)
theorem ErrTab.later {w w':World} (h:ErrTab w) (e:Ext w w'):ErrTab w':=fun i t ht=>cell_later e (h i t ht)
abbrev errV:Value:=.agg #[sV [35,78,85,76,76,33],sV [35,68,73,86,47,48,33],sV [35,86,65,76,85,69,33],sV [35,82,69,70,33],sV [35,78,65,77,69,63],sV [35,78,85,77,33],sV [35,78,47,65],sV [35,83,80,73,76,76,33],sV [35,67,89,67,76,69,33]]
theorem err_at0 (W:World):(Instr.index 160 errV (.int .i64 0)).run Tryz.prog W=.ok (sV [35,78,85,76,76,33]) W:=by kernel_rfl
theorem err_at1 (W:World):(Instr.index 160 errV (.int .i64 1)).run Tryz.prog W=.ok (sV [35,68,73,86,47,48,33]) W:=by kernel_rfl
theorem err_at2 (W:World):(Instr.index 160 errV (.int .i64 2)).run Tryz.prog W=.ok (sV [35,86,65,76,85,69,33]) W:=by kernel_rfl
theorem err_at3 (W:World):(Instr.index 160 errV (.int .i64 3)).run Tryz.prog W=.ok (sV [35,82,69,70,33]) W:=by kernel_rfl
theorem err_at4 (W:World):(Instr.index 160 errV (.int .i64 4)).run Tryz.prog W=.ok (sV [35,78,65,77,69,63]) W:=by kernel_rfl
theorem err_at5 (W:World):(Instr.index 160 errV (.int .i64 5)).run Tryz.prog W=.ok (sV [35,78,85,77,33]) W:=by kernel_rfl
theorem err_at6 (W:World):(Instr.index 160 errV (.int .i64 6)).run Tryz.prog W=.ok (sV [35,78,47,65]) W:=by kernel_rfl
theorem err_at7 (W:World):(Instr.index 160 errV (.int .i64 7)).run Tryz.prog W=.ok (sV [35,83,80,73,76,76,33]) W:=by kernel_rfl
theorem err_at8 (W:World):(Instr.index 160 errV (.int .i64 8)).run Tryz.prog W=.ok (sV [35,67,89,67,76,69,33]) W:=by kernel_rfl
theorem err_at (k:Nat) (hk:k<9):∃ t,errL[k]?=some t∧∀ W:World,(Instr.index 160 errV (.int .i64 k)).run Tryz.prog W=.ok (sV t) W:=by
 match k,hk with
 | 0,_=>exact ⟨_,rfl,err_at0⟩
 | 1,_=>exact ⟨_,rfl,err_at1⟩
 | 2,_=>exact ⟨_,rfl,err_at2⟩
 | 3,_=>exact ⟨_,rfl,err_at3⟩
 | 4,_=>exact ⟨_,rfl,err_at4⟩
 | 5,_=>exact ⟨_,rfl,err_at5⟩
 | 6,_=>exact ⟨_,rfl,err_at6⟩
 | 7,_=>exact ⟨_,rfl,err_at7⟩
 | 8,_=>exact ⟨_,rfl,err_at8⟩
set_option maxRecDepth 8000 in
set_option maxHeartbeats 1000000 in
theorem errI (l:List UInt8) (w:World) (hE:ErrTab w):Calls Tryz.prog 76 #[sV l] w fun e w'=>e=.returned (.bool (memB errL l))∧w'=w:=by
 have e0:=hE 0 _ rfl;have e1:=hE 1 _ rfl;have e2:=hE 2 _ rfl;have e3:=hE 3 _ rfl;have e4:=hE 4 _ rfl;have e5:=hE 5 _ rfl;have e6:=hE 6 _ rfl;have e7:=hE 7 _ rfl;have e8:=hE 8 _ rfl;have HY:Hid (∀ t (k:Nat),errL[k]?=some t→(t == l)=true→memB errL l=true):=fun t k h e=>memB_yes h e;have HX:Hid ((∀ (j:Nat) t,errL[j]?=some t→(t == l)=false)→memB errL l=false):=fun h=>memB_no h;obtain ⟨R,hR⟩:∃ R,memB errL l=R:=⟨_,rfl⟩;rw [hR] at HY HX ⊢;clear hR hE;go_enter Tryz.func76,Tryz.ntmps76;go_wp2_with fail;clear e0 e1 e2 e3 e4 e5 e6 e7 e8
 go_loop [6] (fun i=>∃ k:Nat,k≤9∧i=.int .i64 k∧Hid (∀ (j:Nat) t,j<k→errL[j]?=some t→(t == l)=false)) (fun i=>9 - (intOf i).toNat)
 case atStart=>exact ⟨0,by omega,rfl,fun j t hj=>by omega⟩
 case round =>
  obtain ⟨k,hk,rfl,HA⟩:=hrel;by_cases hlt:k<9
  ·obtain ⟨t,ht,hix⟩:=err_at k hlt;have i2:(k:Int)<9:=by omega
   obtain ⟨p,hp⟩:∃ p,(t == l)=p:=⟨_,rfl⟩;cases p
   ·have HA2:Hid (∀ (j:Nat) t,j<k+1→errL[j]?=some t→(t == l)=false):=fun j t' hj h=>by
     rcases Nat.lt_or_ge j k with hjk | hjk
     ·exact HA.out j t' hjk h
     ·obtain rfl:j=k:=(by omega);rw [ht] at h;cases h;exact hp
    clear HA ht;go_wp2_with fail
    go_round
    case rel=>exact ⟨k+1,by omega,by go_num,HA2⟩
    case measure=>simp [intOf];omega
   ·have hr:=HY.out t k ht hp;subst hr;clear HA ht;go_wp2_with fail;go_ret;exact ⟨rfl,rfl⟩
  ·obtain rfl:k=9:=by omega
   have hr:=HX.out (fun j t h=>HA.out j t (by have:=(List.getElem?_eq_some_iff.1 h).1;simpa [errL] using this) h);subst hr;clear HA;go_wp2_with fail;go_ret;exact ⟨rfl,rfl⟩
structure NT where
 k:Int
 t:List UInt8
 n:Bool
 d:Int
 x:Int
 r:Int
 c:Int
 f:Bool
 g:Bool
 r2:Int
 c2:Int
 f2:Bool
 g2:Bool
 q:Int
abbrev NT.cells (e:NT):List Value:=[.int .i64 e.k,sV e.t,.bool e.n,.int .i64 e.d,.int .i64 e.x,.int .i64 e.r,.int .i64 e.c,.bool e.f,.bool e.g,.int .i64 e.r2,.int .i64 e.c2,.bool e.f2,.bool e.g2,.int .i64 e.q]
abbrev nodV (k:Int) (t:List UInt8) (n:Bool) (d:Int) (x:Int) (r:Int) (c:Int) (f:Bool) (g:Bool) (r2:Int) (c2:Int) (f2:Bool) (g2:Bool) (q:Int):Value:=.agg #[.int .i64 k,sV t,.bool n,.int .i64 d,.int .i64 x,.int .i64 r,.int .i64 c,.bool f,.bool g,.int .i64 r2,.int .i64 c2,.bool f2,.bool g2,.int .i64 q]
def RowN (w:World) (b o:Nat) (l:List NT):Prop:=∀ (i:Nat) (e:NT),l[i]?=some e→∀ (c:Nat) (u:Value),e.cells[c]?=some u→w.cell? ⟨b,o+i * 14+c,none⟩=some u
theorem RowN.later {w w':World} {b o:Nat} {l:List NT} (h:RowN w b o l) (x:Ext w w'):RowN w' b o l:=fun i e hi c u hc=>cell_later x (h i e hi c u hc)
theorem RowN.all {w:World} {b o:Nat} {l:List NT} (h:RowN w b o l) {k:Nat} {e:NT} (he:l[k]?=some e) :
  w.cell? ⟨b,o+k * 14,none⟩=some (.int .i64 e.k)∧w.cell? ⟨b,o+k * 14+1,none⟩=some (sV e.t)∧w.cell? ⟨b,o+k * 14+2,none⟩=some (.bool e.n)∧w.cell? ⟨b,o+k * 14+3,none⟩=some (.int .i64 e.d)∧w.cell? ⟨b,o+k * 14+4,none⟩=some (.int .i64 e.x)∧w.cell? ⟨b,o+k * 14+5,none⟩=some (.int .i64 e.r)∧w.cell? ⟨b,o+k * 14+6,none⟩=some (.int .i64 e.c)∧w.cell? ⟨b,o+k * 14+7,none⟩=some (.bool e.f)∧w.cell? ⟨b,o+k * 14+8,none⟩=some (.bool e.g)∧w.cell? ⟨b,o+k * 14+9,none⟩=some (.int .i64 e.r2)∧w.cell? ⟨b,o+k * 14+10,none⟩=some (.int .i64 e.c2)∧w.cell? ⟨b,o+k * 14+11,none⟩=some (.bool e.f2)∧w.cell? ⟨b,o+k * 14+12,none⟩=some (.bool e.g2)∧w.cell? ⟨b,o+k * 14+13,none⟩=some (.int .i64 e.q):=
 ⟨h k e he 0 _ rfl,h k e he 1 _ rfl,h k e he 2 _ rfl,h k e he 3 _ rfl,h k e he 4 _ rfl,h k e he 5 _ rfl,h k e he 6 _ rfl,h k e he 7 _ rfl,h k e he 8 _ rfl,h k e he 9 _ rfl,h k e he 10 _ rfl,h k e he 11 _ rfl,h k e he 12 _ rfl,h k e he 13 _ rfl⟩
def NodesIn (w:World) (v:Value) (l:List NT):Prop:=
 ∃ p cap,v=.slice p l.length cap∧l.length≤cap∧(0<l.length→∃ b o,p=some ⟨b,o,none⟩∧RowN w b o l)
theorem NodesIn.later {w w':World} {v:Value} {l:List NT} (h:NodesIn w v l) (x:Ext w w'):NodesIn w' v l:=by
 obtain ⟨p,cap,h1,h2,h3⟩:=h;refine ⟨p,cap,h1,h2,fun h0=>?_⟩;obtain ⟨b,o,h4,h5⟩:=h3 h0;exact ⟨b,o,h4,h5.later x⟩
def OwnN (w:World) (g:Nat) (l:List NT):Prop:=∀ (i:Nat) (e:NT),l[i]?=some e→∀ (c:Nat) (u:Value),e.cells[c]?=some u→w.cell? ⟨g,i * 14+c,none⟩=some u∧w.frozen? ⟨g,i * 14+c,none⟩=false
theorem OwnN.later {w w':World} {g:Nat} {l:List NT} (h:OwnN w g l) (x:Ext w w'):OwnN w' g l:=fun i e hi c u hc=>⟨cell_later x (h i e hi c u hc).1,frozen_later x (h i e hi c u hc).1 (h i e hi c u hc).2⟩
theorem OwnN.row {w:World} {g:Nat} {l:List NT} (h:OwnN w g l):RowN w g 0 l:=fun i e hi c u hc=>by rw [Nat.zero_add];exact (h i e hi c u hc).1
theorem OwnN.nodes {w:World} {g:Nat} {l:List NT} (h:OwnN w g l):NodesIn w (.slice (some ⟨g,0,none⟩) l.length l.length) l:=
 ⟨_,_,rfl,Nat.le_refl _,fun _=>⟨g,0,rfl,h.row⟩⟩
def zeroNT:NT:=⟨0,[],false,0,0,0,0,false,false,0,0,false,false,0⟩
theorem ncells_lt {e:NT} {c:Nat} {u:Value} (h:e.cells[c]?=some u):c<14:=(List.getElem?_eq_some_iff.1 h).1
theorem OwnN.made (w:World) (n:Nat) (t:TypeId):OwnN (w.alloc (.cells (madeCells #[.int .i64 0,sV [],.bool false,.int .i64 0,.int .i64 0,.int .i64 0,.int .i64 0,.bool false,.bool false,.int .i64 0,.int .i64 0,.bool false,.bool false,.int .i64 0] (n * 14)) t)) w.heap.size (List.replicate n zeroNT):=by
 intro i e hi c u hc;have hb:=heap_alloc_new w (.cells (madeCells #[.int .i64 0,sV [],.bool false,.int .i64 0,.int .i64 0,.int .i64 0,.int .i64 0,.bool false,.bool false,.int .i64 0,.int .i64 0,.bool false,.bool false,.int .i64 0] (n * 14)) t);obtain ⟨hin,rfl⟩:i<n∧e=zeroNT:=by
  rw [List.getElem?_replicate] at hi
  split at hi
  ·cases hi;exact ⟨by assumption,rfl⟩
  ·cases hi
 have h5:=ncells_lt hc;have hlt:i * 14+c<n * 14:=by omega
 refine ⟨?_,?_⟩
 ·unfold World.cell?;simp only [hb];have e1:(madeCells #[.int .i64 0,sV [],.bool false,.int .i64 0,.int .i64 0,.int .i64 0,.int .i64 0,.bool false,.bool false,.int .i64 0,.int .i64 0,.bool false,.bool false,.int .i64 0] (n * 14))[i * 14+c]?=some u:=by
   unfold madeCells;have hm:(i * 14+c) % 14=c:=by omega
   rw [Array.getElem?_map,Array.getElem?_eq_getElem (by simpa using hlt)];simp only [Array.getElem_range,Option.map_some];have hs:(#[.int .i64 0,sV [],.bool false,.int .i64 0,.int .i64 0,.int .i64 0,.int .i64 0,.bool false,.bool false,.int .i64 0,.int .i64 0,.bool false,.bool false,.int .i64 0]:Array Value).size=14:=rfl;rw [hs,hm,← hc]
   match c,h5 with
   | 0,_=>rfl
   | 1,_=>rfl
   | 2,_=>rfl
   | 3,_=>rfl
   | 4,_=>rfl
   | 5,_=>rfl
   | 6,_=>rfl
   | 7,_=>rfl
   | 8,_=>rfl
   | 9,_=>rfl
   | 10,_=>rfl
   | 11,_=>rfl
   | 12,_=>rfl
   | 13,_=>rfl
  simpa using e1
 ·unfold World.frozen?;simp only [hb];simp
set_option maxHeartbeats 4000000 in
theorem OwnN.put {w:World} {g k:Nat} {l:List NT} (h:OwnN w g l) (hk:k<l.length) (e:NT) :
  OwnN ((((((((((((((w.setCell ⟨g,k * 14,none⟩ (.int .i64 e.k)).setCell ⟨g,k * 14+1,none⟩ (sV e.t)).setCell ⟨g,k * 14+2,none⟩ (.bool e.n)).setCell ⟨g,k * 14+3,none⟩ (.int .i64 e.d)).setCell ⟨g,k * 14+4,none⟩ (.int .i64 e.x)).setCell ⟨g,k * 14+5,none⟩ (.int .i64 e.r)).setCell ⟨g,k * 14+6,none⟩ (.int .i64 e.c)).setCell ⟨g,k * 14+7,none⟩ (.bool e.f)).setCell ⟨g,k * 14+8,none⟩ (.bool e.g)).setCell ⟨g,k * 14+9,none⟩ (.int .i64 e.r2)).setCell ⟨g,k * 14+10,none⟩ (.int .i64 e.c2)).setCell ⟨g,k * 14+11,none⟩ (.bool e.f2)).setCell ⟨g,k * 14+12,none⟩ (.bool e.g2)).setCell ⟨g,k * 14+13,none⟩ (.int .i64 e.q)) g (l.set k e):=by
 intro i q hi c u hc;have h5:=ncells_lt hc;obtain ⟨q0,hq0⟩:∃ q0,l[i]?=some q0:=by
  have:i<l.length:=by have:=(List.getElem?_eq_some_iff.1 hi).1;simpa using this
  exact ⟨_,List.getElem?_eq_getElem this⟩
 obtain ⟨u0,hu0⟩:∃ u0,q0.cells[c]?=some u0:=⟨_,List.getElem?_eq_getElem (show c<q0.cells.length from h5)⟩;have old:=h i q0 hq0 c u0 hu0;refine ⟨?_,by simp only [World.frozen?_setCell];exact old.2⟩;by_cases hik:i=k
 ·subst hik;rw [List.getElem?_set_self (by simpa using hk)] at hi;cases hi;have S:∀ (c:Nat),c<14→∀ W:World,(∀ c,c<14→(W.cell? ⟨g,i * 14+c,none⟩).isSome=true)→∀ v,(W.setCell ⟨g,i * 14+c,none⟩ v).cell? ⟨g,i * 14+c,none⟩=some v:=fun c hc W hW v=>World.cell?_setCell_same' _ _ _ (by have:=hW c hc;exact this);have sm:∀ c,c<14→(w.cell? ⟨g,i * 14+c,none⟩).isSome=true:=fun c hc=>by
   obtain ⟨v,hv⟩:∃ v,q0.cells[c]?=some v:=⟨_,List.getElem?_eq_getElem (show c<q0.cells.length from hc)⟩;rw [(h i q0 hq0 c v hv).1];rfl
  have keep:∀ (c0:Nat) (v:Value) (W:World),(∀ c,c<14→(W.cell? ⟨g,i * 14+c,none⟩).isSome=true)→∀ c,c<14→((W.setCell ⟨g,i * 14+c0,none⟩ v).cell? ⟨g,i * 14+c,none⟩).isSome=true:=fun c0 v W hW c hc=>by
   by_cases e:c=c0
   ·subst e;rw [S c hc W hW v];rfl
   ·rw [World.cell?_setCell_other _ _ _ _ (fun q=>e (by have:=congrArg Addr.off q;simp at this;omega))];exact hW c hc
  have O:∀ (c0 c:Nat) (v:Value) (W:World),c ≠ c0→(W.setCell ⟨g,i * 14+c0,none⟩ v).cell? ⟨g,i * 14+c,none⟩=W.cell? ⟨g,i * 14+c,none⟩:=fun c0 c v W hne=>World.cell?_setCell_other _ _ _ _ (fun q=>hne (by have:=congrArg Addr.off q;simp at this;omega));have s0:=sm;have s1:=keep 0 (.int .i64 e.k) _ s0;have s2:=keep 1 (sV e.t) _ s1;have s3:=keep 2 (.bool e.n) _ s2;have s4:=keep 3 (.int .i64 e.d) _ s3;have s5:=keep 4 (.int .i64 e.x) _ s4;have s6:=keep 5 (.int .i64 e.r) _ s5;have s7:=keep 6 (.int .i64 e.c) _ s6;have s8:=keep 7 (.bool e.f) _ s7;have s9:=keep 8 (.bool e.g) _ s8;have s10:=keep 9 (.int .i64 e.r2) _ s9;have s11:=keep 10 (.int .i64 e.c2) _ s10;have s12:=keep 11 (.bool e.f2) _ s11;have s13:=keep 12 (.bool e.g2) _ s12
  match c,h5,hc with
  | 0,_,hc=>cases hc;exact (O 13 0 _ _ (by decide)).trans ((O 12 0 _ _ (by decide)).trans ((O 11 0 _ _ (by decide)).trans ((O 10 0 _ _ (by decide)).trans ((O 9 0 _ _ (by decide)).trans ((O 8 0 _ _ (by decide)).trans ((O 7 0 _ _ (by decide)).trans ((O 6 0 _ _ (by decide)).trans ((O 5 0 _ _ (by decide)).trans ((O 4 0 _ _ (by decide)).trans ((O 3 0 _ _ (by decide)).trans ((O 2 0 _ _ (by decide)).trans ((O 1 0 _ _ (by decide)).trans (S 0 (by decide) _ s0 _)))))))))))))
  | 1,_,hc=>cases hc;exact (O 13 1 _ _ (by decide)).trans ((O 12 1 _ _ (by decide)).trans ((O 11 1 _ _ (by decide)).trans ((O 10 1 _ _ (by decide)).trans ((O 9 1 _ _ (by decide)).trans ((O 8 1 _ _ (by decide)).trans ((O 7 1 _ _ (by decide)).trans ((O 6 1 _ _ (by decide)).trans ((O 5 1 _ _ (by decide)).trans ((O 4 1 _ _ (by decide)).trans ((O 3 1 _ _ (by decide)).trans ((O 2 1 _ _ (by decide)).trans (S 1 (by decide) _ s1 _))))))))))))
  | 2,_,hc=>cases hc;exact (O 13 2 _ _ (by decide)).trans ((O 12 2 _ _ (by decide)).trans ((O 11 2 _ _ (by decide)).trans ((O 10 2 _ _ (by decide)).trans ((O 9 2 _ _ (by decide)).trans ((O 8 2 _ _ (by decide)).trans ((O 7 2 _ _ (by decide)).trans ((O 6 2 _ _ (by decide)).trans ((O 5 2 _ _ (by decide)).trans ((O 4 2 _ _ (by decide)).trans ((O 3 2 _ _ (by decide)).trans (S 2 (by decide) _ s2 _)))))))))))
  | 3,_,hc=>cases hc;exact (O 13 3 _ _ (by decide)).trans ((O 12 3 _ _ (by decide)).trans ((O 11 3 _ _ (by decide)).trans ((O 10 3 _ _ (by decide)).trans ((O 9 3 _ _ (by decide)).trans ((O 8 3 _ _ (by decide)).trans ((O 7 3 _ _ (by decide)).trans ((O 6 3 _ _ (by decide)).trans ((O 5 3 _ _ (by decide)).trans ((O 4 3 _ _ (by decide)).trans (S 3 (by decide) _ s3 _))))))))))
  | 4,_,hc=>cases hc;exact (O 13 4 _ _ (by decide)).trans ((O 12 4 _ _ (by decide)).trans ((O 11 4 _ _ (by decide)).trans ((O 10 4 _ _ (by decide)).trans ((O 9 4 _ _ (by decide)).trans ((O 8 4 _ _ (by decide)).trans ((O 7 4 _ _ (by decide)).trans ((O 6 4 _ _ (by decide)).trans ((O 5 4 _ _ (by decide)).trans (S 4 (by decide) _ s4 _)))))))))
  | 5,_,hc=>cases hc;exact (O 13 5 _ _ (by decide)).trans ((O 12 5 _ _ (by decide)).trans ((O 11 5 _ _ (by decide)).trans ((O 10 5 _ _ (by decide)).trans ((O 9 5 _ _ (by decide)).trans ((O 8 5 _ _ (by decide)).trans ((O 7 5 _ _ (by decide)).trans ((O 6 5 _ _ (by decide)).trans (S 5 (by decide) _ s5 _))))))))
  | 6,_,hc=>cases hc;exact (O 13 6 _ _ (by decide)).trans ((O 12 6 _ _ (by decide)).trans ((O 11 6 _ _ (by decide)).trans ((O 10 6 _ _ (by decide)).trans ((O 9 6 _ _ (by decide)).trans ((O 8 6 _ _ (by decide)).trans ((O 7 6 _ _ (by decide)).trans (S 6 (by decide) _ s6 _)))))))
  | 7,_,hc=>cases hc;exact (O 13 7 _ _ (by decide)).trans ((O 12 7 _ _ (by decide)).trans ((O 11 7 _ _ (by decide)).trans ((O 10 7 _ _ (by decide)).trans ((O 9 7 _ _ (by decide)).trans ((O 8 7 _ _ (by decide)).trans (S 7 (by decide) _ s7 _))))))
  | 8,_,hc=>cases hc;exact (O 13 8 _ _ (by decide)).trans ((O 12 8 _ _ (by decide)).trans ((O 11 8 _ _ (by decide)).trans ((O 10 8 _ _ (by decide)).trans ((O 9 8 _ _ (by decide)).trans (S 8 (by decide) _ s8 _)))))
  | 9,_,hc=>cases hc;exact (O 13 9 _ _ (by decide)).trans ((O 12 9 _ _ (by decide)).trans ((O 11 9 _ _ (by decide)).trans ((O 10 9 _ _ (by decide)).trans (S 9 (by decide) _ s9 _))))
  | 10,_,hc=>cases hc;exact (O 13 10 _ _ (by decide)).trans ((O 12 10 _ _ (by decide)).trans ((O 11 10 _ _ (by decide)).trans (S 10 (by decide) _ s10 _)))
  | 11,_,hc=>cases hc;exact (O 13 11 _ _ (by decide)).trans ((O 12 11 _ _ (by decide)).trans (S 11 (by decide) _ s11 _))
  | 12,_,hc=>cases hc;exact (O 13 12 _ _ (by decide)).trans (S 12 (by decide) _ s12 _)
  | 13,_,hc=>cases hc;exact S 13 (by decide) _ s13 _
 ·rw [List.getElem?_set_ne (fun q=>hik q.symm)] at hi;have O:∀ (c0:Nat) (v:Value) (W:World),c0<14→(W.setCell ⟨g,k * 14+c0,none⟩ v).cell? ⟨g,i * 14+c,none⟩=W.cell? ⟨g,i * 14+c,none⟩:=fun c0 v W h0=>World.cell?_setCell_other _ _ _ _ (fun q=>hik (by have:=congrArg Addr.off q;simp at this;omega));exact (O 13 _ _ (by decide)).trans ((O 12 _ _ (by decide)).trans ((O 11 _ _ (by decide)).trans ((O 10 _ _ (by decide)).trans ((O 9 _ _ (by decide)).trans ((O 8 _ _ (by decide)).trans ((O 7 _ _ (by decide)).trans ((O 6 _ _ (by decide)).trans ((O 5 _ _ (by decide)).trans ((O 4 _ _ (by decide)).trans ((O 3 _ _ (by decide)).trans ((O 2 _ _ (by decide)).trans ((O 1 _ _ (by decide)).trans ((O 0 _ _ (by decide)).trans ((h i q hi c u hc).1))))))))))))))
theorem OwnN.all {w:World} {g:Nat} {l:List NT} (h:OwnN w g l) {k:Nat} {e:NT} (he:l[k]?=some e) :
  (w.cell? ⟨g,k * 14,none⟩=some (.int .i64 e.k)∧w.cell? ⟨g,k * 14+1,none⟩=some (sV e.t)∧w.cell? ⟨g,k * 14+2,none⟩=some (.bool e.n)∧w.cell? ⟨g,k * 14+3,none⟩=some (.int .i64 e.d)∧w.cell? ⟨g,k * 14+4,none⟩=some (.int .i64 e.x)∧w.cell? ⟨g,k * 14+5,none⟩=some (.int .i64 e.r)∧w.cell? ⟨g,k * 14+6,none⟩=some (.int .i64 e.c)∧w.cell? ⟨g,k * 14+7,none⟩=some (.bool e.f)∧w.cell? ⟨g,k * 14+8,none⟩=some (.bool e.g)∧w.cell? ⟨g,k * 14+9,none⟩=some (.int .i64 e.r2)∧w.cell? ⟨g,k * 14+10,none⟩=some (.int .i64 e.c2)∧w.cell? ⟨g,k * 14+11,none⟩=some (.bool e.f2)∧w.cell? ⟨g,k * 14+12,none⟩=some (.bool e.g2)∧w.cell? ⟨g,k * 14+13,none⟩=some (.int .i64 e.q))∧w.frozen? ⟨g,k * 14,none⟩=false∧w.frozen? ⟨g,k * 14+1,none⟩=false∧w.frozen? ⟨g,k * 14+2,none⟩=false∧w.frozen? ⟨g,k * 14+3,none⟩=false∧w.frozen? ⟨g,k * 14+4,none⟩=false∧w.frozen? ⟨g,k * 14+5,none⟩=false∧w.frozen? ⟨g,k * 14+6,none⟩=false∧w.frozen? ⟨g,k * 14+7,none⟩=false∧w.frozen? ⟨g,k * 14+8,none⟩=false∧w.frozen? ⟨g,k * 14+9,none⟩=false∧w.frozen? ⟨g,k * 14+10,none⟩=false∧w.frozen? ⟨g,k * 14+11,none⟩=false∧w.frozen? ⟨g,k * 14+12,none⟩=false∧w.frozen? ⟨g,k * 14+13,none⟩=false:=
 ⟨⟨(h k e he 0 _ rfl).1,(h k e he 1 _ rfl).1,(h k e he 2 _ rfl).1,(h k e he 3 _ rfl).1,(h k e he 4 _ rfl).1,(h k e he 5 _ rfl).1,(h k e he 6 _ rfl).1,(h k e he 7 _ rfl).1,(h k e he 8 _ rfl).1,(h k e he 9 _ rfl).1,(h k e he 10 _ rfl).1,(h k e he 11 _ rfl).1,(h k e he 12 _ rfl).1,(h k e he 13 _ rfl).1⟩,(h k e he 0 _ rfl).2,(h k e he 1 _ rfl).2,(h k e he 2 _ rfl).2,(h k e he 3 _ rfl).2,(h k e he 4 _ rfl).2,(h k e he 5 _ rfl).2,(h k e he 6 _ rfl).2,(h k e he 7 _ rfl).2,(h k e he 8 _ rfl).2,(h k e he 9 _ rfl).2,(h k e he 10 _ rfl).2,(h k e he 11 _ rfl).2,(h k e he 12 _ rfl).2,(h k e he 13 _ rfl).2⟩
end Go.Proofs.YtogecaajnjcenaaGreatDoor

