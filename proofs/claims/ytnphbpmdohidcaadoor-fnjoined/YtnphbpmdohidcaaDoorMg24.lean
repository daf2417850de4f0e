/-
  Several texts in one: J14, X9i, J17.
-/
import Derived.Test.YtnphbpmdohidcaaDoorMg21
import Derived.Test.YtnphbpmdohidcaaDoorMg20
import Derived.Test.YtnphbpmdohidcaaDoorMg15
import Derived.BigQuiet
import Derived.Deep.QuietTactic
import Derived.Test.YtnphbpmdohidcaaDoorMg17
import Derived.Test.YtnphbpmdohidcaaDoorJ12
import Derived.Test.YtnphbpmdohidcaaDoorMg18
namespace Go.Proofs.YtnphbpmdohidcaaDoor
open Go.RowKit
def cntG (g:Nat→Nat→Bool) (R S:Nat):Nat:=match R with
 | 0=>0
 | R+1=>cntG g R S+((List.range S).filter (g R)).length
theorem cntG_cols (g:Nat→Nat→Bool) (R S:Nat):cntG g R (S+1)=cntG g R S+((List.range R).filter fun i=>g i S).length:=by
 induction R with
 | zero=>rfl
 | succ R ih =>
  unfold cntG;rw [ih,List.range_succ (n:=S),List.filter_append,List.length_append,List.range_succ (n:=R),List.filter_append,List.length_append];have e:([S].filter (g R)).length=([R].filter fun i=>g i S).length:=by
   rw [List.filter_cons,List.filter_cons];cases g R S <;> rfl
  omega
theorem cntG_swap (g h:Nat→Nat→Bool) (R S:Nat) (e:∀ i k,i<R→k<S→g i k=h k i):cntG g R S=cntG h S R:=by
 induction R with
 | zero =>
  induction S with
  | zero=>rfl
  | succ S ih =>
   rw [cntG,cntG,← ih (fun i k hi _=>absurd hi (by omega))];simp [cntG]
 | succ R ih =>
  rw [cntG_cols,← ih (fun i k hi hk=>e i k (by omega) hk),cntG]
  congr 2
  refine List.filter_congr fun k hk=>?_;exact e R k (by omega) (List.mem_range.1 hk)
theorem prsS_cnt (la lb:List VT) (ca cb rb lt rt i:Nat):(prsS la lb ca cb rb lt rt i).length=cntG (goesB la lb ca cb lt rt) i rb:=by
 induction i with
 | zero=>rfl
 | succ i ih =>
  rw [prsS_succ,List.length_append,ih,cntG];unfold prsI;rw [List.length_map]
theorem goes_swap {la lb:List VT} {ra ca rb cb lt rt:Nat} (h1:la.length=ra * ca) (h2:lb.length=rb * cb) (ga:∀ e ∈ la,e.good=true) (gb:∀ e ∈ lb,e.good=true) (t1:1≤lt) (t2:lt≤ca) (t3:1≤rt) (t4:rt≤cb) {i k:Nat} (hi:i<ra) (hk:k<rb) :
  goesB la lb ca cb lt rt i k=goesB lb la cb ca rt lt k i:=by
 unfold goesB;have g1:=ga _ (cel_mem (l:=la) (k:=i * ca+(lt - 1)) (by rw [h1];exact place_lt hi (by omega)));have g2:=gb _ (cel_mem (l:=lb) (k:=k * cb+(rt - 1)) (by rw [h2];exact place_lt hk (by omega)));rw [← goes_same g1 g2,← goes_same g2 g1];generalize cel la (i * ca+(lt - 1))=a;generalize cel lb (k * cb+(rt - 1))=b;cases hs:sameQ (nrm b) (nrm a) with
 | true =>
  have e:=sameQ_iff.1 hs;have hkk:(nrm b).k=(nrm a).k:=by rw [e]
  have hkk:b.k=a.k:=hkk;rw [sameQ_iff.2 e.symm,hkk]
 | false =>
  have:sameQ (nrm a) (nrm b)=false:=by
   cases hs2:sameQ (nrm a) (nrm b) with
   | false=>rfl
   | true =>
    rw [sameQ_iff.2 (sameQ_iff.1 hs2).symm] at hs;cases hs
  rw [this,Bool.and_false,Bool.and_false]
theorem join_rows (ra ca:Int) (la:List VT) (rb cb:Int) (lb:List VT) (lt rt:Int) :
  (joinR ra ca la rb cb lb lt rt).1=0∨(joinR rb cb lb ra ca la rt lt).1=0∨(joinR ra ca la rb cb lb lt rt).1=(joinR rb cb lb ra ca la rt lt).1:=by
 by_cases h1:goodG ra ca la=true∧goodG rb cb lb=true∧¬ (lt<1∨ca<lt)∧¬ (rt<1∨cb<rt)∧cb ≠ 1
 ·by_cases h2:goodG rb cb lb=true∧goodG ra ca la=true∧¬ (rt<1∨cb<rt)∧¬ (lt<1∨ca<lt)∧ca ≠ 1
  ·have e1:joinR ra ca la rb cb lb lt rt=joinN la ra.toNat ca.toNat lb rb.toNat cb.toNat lt.toNat rt.toNat:=by unfold joinR;rw [if_pos h1]
   have e2:joinR rb cb lb ra ca la rt lt=joinN lb rb.toNat cb.toNat la ra.toNat ca.toNat rt.toNat lt.toNat:=by unfold joinR;rw [if_pos h2]
   obtain ⟨hga,hgb,hlt,hrt,_⟩:=h1;have a1:=(goodG_all hga).2.1;have b1:=(goodG_all hgb).2.1;obtain ⟨RA,CA,hra,hca,hla,_,_,_,_,_⟩:=good_dims hga;obtain ⟨RB,CB,hrb,hcb,hlb,_,_,_,_,_⟩:=good_dims hgb;obtain ⟨LT,hLT⟩:=Int.eq_ofNat_of_zero_le (show 0≤lt by omega);obtain ⟨RT,hRT⟩:=Int.eq_ofNat_of_zero_le (show 0≤rt by omega);subst hra hca hrb hcb hLT hRT;rw [e1,e2];simp only [Int.toNat_natCast];have n1:(prsJ la RA CA lb RB CB LT RT).length=(prsJ lb RB CB la RA CA RT LT).length:=by
    rw [prs_both hla hlb a1 b1 (by omega) (by omega) (by omega) (by omega),prs_both hlb hla b1 a1 (by omega) (by omega) (by omega) (by omega),prsS_cnt,prsS_cnt];exact cntG_swap _ _ _ _ fun i k hi hk=>goes_swap hla hlb a1 b1 (by omega) (by omega) (by omega) (by omega) hi hk
   unfold joinN;rw [n1]
   split
   ·exact Or.inl rfl
   ·split
    ·exact Or.inr (Or.inl rfl)
    ·exact Or.inr (Or.inr rfl)
  ·right;left;unfold joinR;rw [if_neg h2]
 ·left;unfold joinR;rw [if_neg h1]
set_option maxRecDepth 8000 in
set_option maxHeartbeats 2000000 in
theorem zGridL (R C:Int) (v v':Value) (l:List VT) (w:World) (h:ValsIn w v l) (h':ValsIn w v' l) (hl:l.length≤2000000) :
  Calls Tryd.prog 6 #[grV R C v,grV R C v'] w fun e w'=>e=.returned (.bool true)∧Ext w w':=by
 obtain ⟨p,cap,rfl,hcap,hrow⟩:=h;obtain ⟨p',cap',rfl,hcap',hrow'⟩:=h';obtain ⟨n,hn⟩:∃ n,l.length=n:=⟨_,rfl⟩;have HN:Hid (l.length=n):=hn;rw [hn] at hcap hcap' hl hrow hrow' ⊢;have HRow:Hid (0<n→∃ b o,p=some ⟨b,o,none⟩∧RowV w b o l):=hrow;have HRow':Hid (0<n→∃ b o,p'=some ⟨b,o,none⟩∧RowV w b o l):=hrow';clear hn hrow hrow';obtain ⟨u0,u1,h0,h1,s0,s1,B0,B1,X⟩:=mkB2 w [.int .i64 R,.int .i64 C,.slice p n cap] [.int .i64 R,.int .i64 C,.slice p' n cap'] 25 25;obtain ⟨a0,a1,a2⟩:=Vec.three B0;obtain ⟨c0,c1,c2⟩:=Vec.three B1;go_enter Tryd.func6,Tryd.ntmps6;go_wp2_with fail;clear h0 h1 s0 s1;have HV0:Hid (Ext u1 u1):=xr u1;go_loopw [30] (fun i wr=>∃ k:Nat,k≤n∧i=.int .i64 k∧Ext u1 wr) (fun i _=>n - (intOf i).toNat)
 case atStart=>exact ⟨0,by omega,rfl,HV0.out⟩
 case round =>
  obtain ⟨k,hk,rfl,Y⟩:=hrel;by_cases hlt:k<n
  ·obtain ⟨e,he⟩:∃ e,l[k]?=some e:=⟨_,List.getElem?_eq_getElem (by rw [HN.out];exact hlt)⟩;obtain ⟨b,o,rfl,hR⟩:=HRow.out (by omega);obtain ⟨b',o',rfl,hR'⟩:=HRow'.out (by omega);obtain ⟨e0,e1,e2,e3,e4⟩:=(hR.later (xt X Y)).five he;obtain ⟨g0,g1,g2,g3,g4⟩:=(hR'.later (xt X Y)).five he;have d2:=cell_later Y a2;have f2:=cell_later Y c2;obtain ⟨ek,en,ed,ex,et⟩:=e;have i2:(k:Int)<(n:Int):=by omega
   clear hR hR' he;dsimp only at e0 e1 e2 e3 e4 g0 g1 g2 g3 g4;go_wp2_with fail;go_quiet (fail);go_wp2_with fail;go_roundw
   case rel=>exact ⟨k+1,by omega,by go_num,xdNv Y _⟩
   case measure=>simp [intOf];omega
  ·obtain rfl:k=n:=by omega
   go_wp2_with fail;go_ret;exact ⟨rfl,xt X Y⟩
theorem boxes2J (w:World) (R C:Int) (p:Option Addr) (n c:Nat) (R' C':Int) (p':Option Addr) (n' c':Nat) :
  ∃ u0 u1 y1 y2,w.alloc (.cells #[.int .i64 0,.int .i64 0,.slice none 0 0] 25)=u0∧u0.alloc (.cells #[.int .i64 0,.int .i64 0,.slice none 0 0] 25)=u1∧u0.heap.size=w.heap.size+1∧((u1.setCell ⟨w.heap.size,0,none⟩ (.int .i64 R)).setCell ⟨w.heap.size,1,none⟩ (.int .i64 C)).setCell ⟨w.heap.size,2,none⟩ (.slice p n c)=y1∧((y1.setCell ⟨w.heap.size+1,0,none⟩ (.int .i64 R')).setCell ⟨w.heap.size+1,1,none⟩ (.int .i64 C')).setCell ⟨w.heap.size+1,2,none⟩ (.slice p' n' c')=y2 ∧
   Vec u1 w.heap.size [.int .i64 0,.int .i64 0,.slice none 0 0]∧Vec y1 (w.heap.size+1) [.int .i64 0,.int .i64 0,.slice none 0 0]∧Vec y2 w.heap.size [.int .i64 R,.int .i64 C,.slice p n c]∧Vec y2 (w.heap.size+1) [.int .i64 R',.int .i64 C',.slice p' n' c']∧Ext w y2:=by
 obtain ⟨u0,u1,h0,h1,s0,s1,B0,B1,X⟩:=mkB2 w [.int .i64 0,.int .i64 0,.slice none 0 0] [.int .i64 0,.int .i64 0,.slice none 0 0] 25 25;have P0:=B0.put3 (.int .i64 R) (.int .i64 C) (.slice p n c);have P1:=Vec.farL (k:=w.heap.size) (by omega) [.int .i64 R,.int .i64 C,.slice p n c] 0 B1;have X1:=Ext.setL (b:=w.heap.size) (Nat.le_refl _) [.int .i64 R,.int .i64 C,.slice p n c] 0 X;exact ⟨u0,u1,_,_,h0,h1,s0,rfl,rfl,B0,P1,Vec.farL (k:=w.heap.size+1) (by omega) [.int .i64 R',.int .i64 C',.slice p' n' c'] 0 P0,P1.put3 (.int .i64 R') (.int .i64 C') (.slice p' n' c'),Ext.setL (b:=w.heap.size+1) (Nat.le_succ _) [.int .i64 R',.int .i64 C',.slice p' n' c'] 0 X1⟩
theorem joinR_lenF (ra ca:Int) (la:List VT) (rb cb:Int) (lb:List VT) (lt rt:Int):(joinR ra ca la rb cb lb lt rt).2.2.length≤2000:=by
 unfold joinR
 split
 ·unfold joinN
  split
  ·simp
  ·rename_i h;simp only [gridN_length];omega
 ·simp
theorem ok_room {l:List VT} (h:∀ q ∈ l,okE q):∀ q ∈ l,q.room:=fun q hq=>by
 obtain ⟨h1,h2,h3⟩:=h q hq;exact ⟨by omega,by omega,by omega⟩
set_option maxRecDepth 8000 in
set_option maxHeartbeats 8000000 in
theorem lawFnJoined (v:Value) (n:Nat) (w:World) (h:CodeIn w w.heap.size v n) (hT:Tens w) (hE:ErrTab w) :
  Calls Tryd.prog 3 #[v] w fun e w'=>e=.returned (.bool true)∧Ext w w':=by
 obtain ⟨p,cap,rfl⟩:∃ p cap,v=.slice p n cap:=by
  rcases h with ⟨⟨p,cap,rfl⟩,rfl⟩ | ⟨pb,po,cap,_,rfl,_⟩
  ·exact ⟨_,_,rfl⟩
  ·exact ⟨_,_,rfl⟩
 by_cases hb:(1048576:Int)<n
 ·clear hT hE;go_enter Tryd.func3,Tryd.ntmps3;go_wp2_with fail;go_ret;exact ⟨rfl,xr _⟩
 have hb1:¬ (1048576:Int)<n:=hb;go_enter Tryd.func3,Tryd.ntmps3;go_wp2_with fail;refine (drawJoin _ n w h (by omega)).mono ?_;rintro e w1 ⟨⟨R1,C1,sv1,l1,R2,C2,sv2,l2,lt,rt,rfl,tb1,tb2,⟨v1,m1,k1⟩,v2,m2,k2⟩,e1⟩;obtain ⟨p1,c1,rfl,_⟩:=id v1;obtain ⟨p2,c2,rfl,_⟩:=id v2;have JR:=join_rows R1 C1 l1 R2 C2 l2 lt rt;have JL:=joinR_lenF R1 C1 l1 R2 C2 l2 lt rt;have JM:=joinR_lenF R2 C2 l2 R1 C1 l1 rt lt;have hr1:=ok_room k1;have hr2:=ok_room k2;obtain ⟨⟨Rn,Cn,L0⟩,hG⟩:∃ G,joinR R1 C1 l1 R2 C2 l2 lt rt=G:=⟨_,rfl⟩;obtain ⟨⟨Rm,Cm,L9⟩,hH⟩:∃ G,joinR R2 C2 l2 R1 C1 l1 rt lt=G:=⟨_,rfl⟩;obtain ⟨R0,hR0⟩:∃ z:Int,(Rn:Int)=z:=⟨_,rfl⟩;obtain ⟨C0,hC0⟩:∃ z:Int,(Cn:Int)=z:=⟨_,rfl⟩;obtain ⟨R9,hR9⟩:∃ z:Int,(Rm:Int)=z:=⟨_,rfl⟩;obtain ⟨C9,hC9⟩:∃ z:Int,(Cm:Int)=z:=⟨_,rfl⟩;obtain ⟨N0,hN0⟩:∃ n,L0.length=n:=⟨_,rfl⟩;obtain ⟨N9,hN9⟩:∃ n,L9.length=n:=⟨_,rfl⟩;rw [hG,hH] at JR;rw [hG] at JL;rw [hH] at JM;have HZ0:Hid (L0.length≤2000000):=by have JL:L0.length≤2000:=JL;show _≤_;omega
 have HZ9:Hid (L9.length≤2000000):=by have JM:L9.length≤2000:=JM;show _≤_;omega
 have HJ:Hid (R0=0∨R9=0∨R0=R9):=by
  have JR:Rn=0∨Rm=0∨Rn=Rm:=JR;show _∨_;omega
 have HLN1:Hid (l1.length=l1.length):=rfl;have CI1:Hid (∀ W,Ext w1 W→Calls Tryd.prog 5 #[grV R1 C1 (.slice p1 l1.length c1),grV R2 C2 (.slice p2 l2.length c2),.int .i64 lt,.int .i64 rt] W fun e w'=>(∃ pp cc,e=.returned (grV R0 C0 (.slice pp N0 cc))∧ValsIn w' (.slice pp N0 cc) L0)∧Ext W w'):=fun W x2=>by
  have:=joinI R1 C1 _ l1 R2 C2 _ l2 lt rt W (v1.later x2) (v2.later x2) (by omega) (by omega) hr1 hr2 (hT.later (xt e1 x2)) (hE.later (xt e1 x2)) (by omega) (by omega) (by omega) (by omega);rw [hG] at this;simp only [hR0,hC0] at this;refine this.mono fun e w' ⟨s,h1,h2,h3⟩=>?_;have q:=RowAt.vals (RowAt.of_row h2);obtain ⟨pp,cc,rfl,_⟩:=id q;rw [hN0] at h1 q;exact ⟨⟨pp,cc,h1,q⟩,h3⟩
 have CS1:Hid (∀ W,Ext w1 W→Calls Tryd.prog 7 #[grV R1 C1 (.slice p1 l1.length c1),grV R2 C2 (.slice p2 l2.length c2),.int .i64 lt,.int .i64 rt] W fun e w'=>(∃ pp cc,e=.returned (grV R0 C0 (.slice pp N0 cc))∧ValsIn w' (.slice pp N0 cc) L0)∧Ext W w'):=fun W x2=>by
  have:=joinS R1 C1 _ l1 R2 C2 _ l2 lt rt W (v1.later x2) (v2.later x2) (by omega) (by omega) hr1 hr2 (by omega) (by omega) (by omega) (by omega);rw [hG] at this;simp only [hR0,hC0] at this;refine this.mono fun e w' ⟨s,h1,h2,h3⟩=>?_;have q:=RowAt.vals (RowAt.of_row h2);obtain ⟨pp,cc,rfl,_⟩:=id q;rw [hN0] at h1 q;exact ⟨⟨pp,cc,h1,q⟩,h3⟩
 have CI2:Hid (∀ W,Ext w1 W→Calls Tryd.prog 5 #[grV R2 C2 (.slice p2 l2.length c2),grV R1 C1 (.slice p1 l1.length c1),.int .i64 rt,.int .i64 lt] W fun e w'=>(∃ pp cc,e=.returned (grV R9 C9 (.slice pp N9 cc))∧ValsIn w' (.slice pp N9 cc) L9)∧Ext W w'):=fun W x2=>by
  have:=joinI R2 C2 _ l2 R1 C1 _ l1 rt lt W (v2.later x2) (v1.later x2) (by omega) (by omega) hr2 hr1 (hT.later (xt e1 x2)) (hE.later (xt e1 x2)) (by omega) (by omega) (by omega) (by omega);rw [hH] at this;simp only [hR9,hC9] at this;refine this.mono fun e w' ⟨s,h1,h2,h3⟩=>?_;have q:=RowAt.vals (RowAt.of_row h2);obtain ⟨pp,cc,rfl,_⟩:=id q;rw [hN9] at h1 q;exact ⟨⟨pp,cc,h1,q⟩,h3⟩
 have CS2:Hid (∀ W,Ext w1 W→Calls Tryd.prog 7 #[grV R2 C2 (.slice p2 l2.length c2),grV R1 C1 (.slice p1 l1.length c1),.int .i64 rt,.int .i64 lt] W fun e w'=>(∃ pp cc,e=.returned (grV R9 C9 (.slice pp N9 cc))∧ValsIn w' (.slice pp N9 cc) L9)∧Ext W w'):=fun W x2=>by
  have:=joinS R2 C2 _ l2 R1 C1 _ l1 rt lt W (v2.later x2) (v1.later x2) (by omega) (by omega) hr2 hr1 (by omega) (by omega) (by omega) (by omega);rw [hH] at this;simp only [hR9,hC9] at this;refine this.mono fun e w' ⟨s,h1,h2,h3⟩=>?_;have q:=RowAt.vals (RowAt.of_row h2);obtain ⟨pp,cc,rfl,_⟩:=id q;rw [hN9] at h1 q;exact ⟨⟨pp,cc,h1,q⟩,h3⟩
 obtain ⟨n1,hn1⟩:∃ n,l1.length=n:=⟨_,rfl⟩;obtain ⟨n2,hn2⟩:∃ n,l2.length=n:=⟨_,rfl⟩;rw [hn1,hn2] at CI1 CS1 CI2 CS2;rw [hn1,hn2];clear hn1 hn2 hr1 hr2 k1 k2 JR JL JM hG hH hR0 hC0 hR9 hC9 hN0 hN9 v1 v2 hT hE m1 m2 HLN1;obtain ⟨u0,u1,y1,w2,h0,h1,s0,hy1,hy2,Z0,Z1,A1,A2,E2⟩:=boxes2J w1 R1 C1 p1 n1 c1 R2 C2 p2 n2 c2;obtain ⟨z0,z1,z2⟩:=Z0.three;obtain ⟨f0,f1,f2⟩:=Z0.threeF;obtain ⟨g0,g1,g2⟩:=Z1.three;obtain ⟨j0,j1,j2⟩:=Z1.threeF;obtain ⟨a0,a1,a2⟩:=A1.three;obtain ⟨c0,d1,d2⟩:=A2.three;go_wp2_with fail;clear h0 h1 s0 hy1 hy2 Z0 Z1 z0 z1 z2 f0 f1 f2 g0 g1 g2 j0 j1 j2 a0 a1 a2 c0 d1 d2;refine (CI1.out w2 E2).mono ?_;rintro e w3 ⟨⟨p3,c3,rfl,v3⟩,e3⟩;obtain ⟨wz,w4,hz,hy,B4,X4,⟨zz0,zz1,zz2⟩,fz0,fz1,fz2⟩:=newG w3 R0 C0 p3 N0 c3;have A1:=(A1.later e3).later X4;have A2:=(A2.later e3).later X4;have X24:=xt (xt E2 e3) X4;have v3:=v3.later X4;go_upto_region 5 with fail;clear hz hy zz0 zz1 zz2 fz0 fz1 fz2 X4 e3 E2;obtain ⟨ga,hga⟩:∃ g,w1.heap.size=g:=⟨_,rfl⟩;rw [hga] at A1 A2 ⊢;obtain ⟨gc,hgc⟩:∃ g,w3.heap.size=g:=⟨_,rfl⟩;rw [hgc] at B4 ⊢;refine wp_region_letters (fun lx:Nat→Value=>{ tmps:=#[Value.slice p n cap,undef,Value.bool false,Value.pointer (some ⟨ga,0,none⟩),Value.pointer (some ⟨ga+1,0,none⟩),Value.int .i64 lt,Value.int .i64 rt,Value.pointer (some ⟨gc,0,none⟩),undef,Value.slice p n cap,Value.int .i64 n,Value.bool false,Value.tuple #[grV R1 C1 (Value.slice p1 n1 c1),grV R2 C2 (Value.slice p2 n2 c2),Value.int .i64 lt,Value.int .i64 rt],Value.slice p n cap,Value.tuple #[grV R1 C1 (Value.slice p1 n1 c1),grV R2 C2 (Value.slice p2 n2 c2),Value.int .i64 lt,Value.int .i64 rt],grV R1 C1 (Value.slice p1 n1 c1),grV R2 C2 (Value.slice p2 n2 c2),Value.int .i64 lt,Value.int .i64 rt,Value.agg #[Value.int .i64 R1,Value.int .i64 C1,Value.slice p1 n1 c1],Value.agg #[Value.int .i64 R2,Value.int .i64 C2,Value.slice p2 n2 c2],Value.int .i64 lt,Value.int .i64 rt,grV R0 C0 (Value.slice p3 N0 c3),lx 24,lx 25,lx 26,lx 27,lx 28,lx 29,lx 30,lx 31,undef,undef,undef,undef,undef,undef,undef,undef,undef,undef,undef,undef,undef,undef,undef,undef,undef,undef,undef,undef,undef,undef,undef,undef,undef,undef,undef,undef],defers:=[] }) (fun L lx lw=>Hid (Ext w4 lw∧(L 0=true→lx 24=Value.agg #[.int .i64 R0,.int .i64 C0,.slice p3 N0 c3])∧(L 1=true→lx 25=Value.agg #[.int .i64 R1,.int .i64 C1,.slice p1 n1 c1])∧(L 2=true→lx 26=Value.agg #[.int .i64 R2,.int .i64 C2,.slice p2 n2 c2])∧(L 3=true→lx 27=.int .i64 lt)∧(L 4=true→lx 28=.int .i64 rt)∧(L 5=true→∃ pp cc,lx 29=grV R0 C0 (.slice pp N0 cc)∧ValsIn lw (.slice pp N0 cc) L0)∧(L 6=true→lx 30=.bool true)∧(L 7=true→lx 31=.bool false))) rfl (by kernel_rfl) (fun jj=>undef) rfl ?_ ?_ ?_
 ·exact ⟨xd (xr _),(fun z=>by cases z),(fun z=>by cases z),(fun z=>by cases z),(fun z=>by cases z),(fun z=>by cases z),(fun z=>by cases z),(fun z=>by cases z),(fun z=>by cases z)⟩
 ·intro L lx wl i o K1 hK ho hL haf hI;obtain ⟨f0,f1,f2,f3,f4,f5,f6,f7,f8⟩:=hI.out
  match i,ho,hL,haf,hK with
  | 0,ho,hL,haf,hK =>
   cases ho
   (try dsimp only)
   obtain ⟨a0,a1,a2⟩:=Vec.three (B4.later f0);go_wp2_with fail;exact hK (fun jj=>if jj=24 then Value.agg #[.int .i64 R0,.int .i64 C0,.slice p3 N0 c3] else lx jj) _ ⟨f0,(fun _=>rfl),f2,f3,f4,f5,f6,f7,f8⟩
  | 1,ho,hL,haf,hK =>
   cases ho
   (try dsimp only)
   obtain ⟨a0,a1,a2⟩:=Vec.three (A1.later f0);go_wp2_with fail;exact hK (fun jj=>if jj=25 then Value.agg #[.int .i64 R1,.int .i64 C1,.slice p1 n1 c1] else lx jj) _ ⟨f0,f1,(fun _=>rfl),f3,f4,f5,f6,f7,f8⟩
  | 2,ho,hL,haf,hK =>
   cases ho
   (try dsimp only)
   obtain ⟨a0,a1,a2⟩:=Vec.three (A2.later f0);go_wp2_with fail;exact hK (fun jj=>if jj=26 then Value.agg #[.int .i64 R2,.int .i64 C2,.slice p2 n2 c2] else lx jj) _ ⟨f0,f1,f2,(fun _=>rfl),f4,f5,f6,f7,f8⟩
  | 3,ho,hL,haf,hK =>
   cases ho
   (try dsimp only)
   go_wp2_with fail;exact hK (fun jj=>if jj=27 then .int .i64 lt else lx jj) _ ⟨f0,f1,f2,f3,(fun _=>rfl),f5,f6,f7,f8⟩
  | 4,ho,hL,haf,hK =>
   cases ho
   (try dsimp only)
   go_wp2_with fail;exact hK (fun jj=>if jj=28 then .int .i64 rt else lx jj) _ ⟨f0,f1,f2,f3,f4,(fun _=>rfl),f6,f7,f8⟩
  | 5,ho,hL,haf,hK =>
   cases ho
   (try dsimp only)
   rw [f2 (haf ⟨1,.data⟩ (by simp) rfl),f3 (haf ⟨2,.data⟩ (by simp) rfl),f4 (haf ⟨3,.data⟩ (by simp) rfl),f5 (haf ⟨4,.data⟩ (by simp) rfl)];go_wp2_with fail;refine (CS1.out wl (xt X24 f0)).mono ?_;rintro rr w' ⟨⟨pp,cc,rfl,VV⟩,E⟩;go_wp2_with fail;exact hK (fun jj=>if jj=29 then grV R0 C0 (.slice pp N0 cc) else if jj=25 then Value.agg #[.int .i64 R1,.int .i64 C1,.slice p1 n1 c1] else if jj=26 then Value.agg #[.int .i64 R2,.int .i64 C2,.slice p2 n2 c2] else if jj=27 then .int .i64 lt else if jj=28 then .int .i64 rt else lx jj) _ ⟨xt f0 E,f1,(fun _=>rfl),(fun _=>rfl),(fun _=>rfl),(fun _=>rfl),(fun _=>⟨pp,cc,rfl,VV⟩),f7,f8⟩
  | 6,ho,hL,haf,hK =>
   cases ho
   (try dsimp only)
   obtain ⟨pp,cc,q5,VV⟩:=f6 (haf ⟨5,.data⟩ (by simp) rfl);rw [f1 (haf ⟨0,.data⟩ (by simp) rfl),q5];go_wp2_with fail;refine (zGridL R0 C0 (.slice p3 N0 c3) (.slice pp N0 cc) L0 wl (v3.later f0) VV HZ0.out).mono ?_;rintro rr w' ⟨rfl,E⟩;go_wp2_with fail;exact hK (fun jj=>if jj=30 then .bool true else if jj=24 then Value.agg #[.int .i64 R0,.int .i64 C0,.slice p3 N0 c3] else if jj=29 then grV R0 C0 (.slice pp N0 cc) else lx jj) _ ⟨xt f0 E,(fun _=>rfl),f2,f3,f4,f5,(fun _=>⟨pp,cc,rfl,VV.later E⟩),(fun _=>rfl),f8⟩
  | 7,ho,hL,haf,hK =>
   cases ho
   (try dsimp only)
   rw [f7 (haf ⟨6,.data⟩ (by simp) rfl)];go_wp2_with fail;exact hK (fun jj=>if jj=31 then .bool false else if jj=30 then .bool true else lx jj) _ ⟨f0,f1,f2,f3,f4,f5,f6,(fun _=>rfl),(fun _=>rfl)⟩
  | k+8,ho,_,_,_=>simp at ho
 ·intro L lx w5 hall hI;obtain ⟨f0,f1,f2,f3,f4,f5,f6,f7,f8⟩:=hI.out;clear hI;have qz:=f8 (hall 7 (by simp));have e5:=f0
  (try dsimp only)
  rw [qz];clear hall f0 f1 f2 f3 f4 f5 f6 f7 f8 qz;have A1:=A1.later e5;have A2:=A2.later e5;have B4:=B4.later e5;have X25:=xt X24 e5;obtain ⟨a0,a1,a2⟩:=A1.three;obtain ⟨d0,d1,d2⟩:=A2.three;go_wp2_with fail;clear a0 a1 a2 d0 d1 d2 v3 CI1 CS1;refine (CI2.out w5 X25).mono ?_;rintro e w6 ⟨⟨p6,c6,rfl,v6⟩,e6⟩;obtain ⟨wz,w7,hz,hy,B7,X7,⟨zz0,zz1,zz2⟩,fz0,fz1,fz2⟩:=newG w6 R9 C9 p6 N9 c6;have A1:=(A1.later e6).later X7;have A2:=(A2.later e6).later X7;have B4:=(B4.later e6).later X7;have X27:=xt (xt X25 e6) X7;have v6:=v6.later X7;go_upto_region 8 with fail;clear hz hy zz0 zz1 zz2 fz0 fz1 fz2 X7 e6 X25 X24 e5;obtain ⟨gd,hgd⟩:∃ g,w6.heap.size=g:=⟨_,rfl⟩;rw [hgd] at B7 ⊢;refine wp_region_letters (fun ly:Nat→Value=>{ tmps:=#[Value.slice p n cap,undef,Value.bool false,Value.pointer (some ⟨ga,0,none⟩),Value.pointer (some ⟨ga+1,0,none⟩),Value.int .i64 lt,Value.int .i64 rt,Value.pointer (some ⟨gc,0,none⟩),Value.pointer (some ⟨gd,0,none⟩),Value.slice p n cap,Value.int .i64 n,Value.bool false,Value.tuple #[grV R1 C1 (Value.slice p1 n1 c1),grV R2 C2 (Value.slice p2 n2 c2),Value.int .i64 lt,Value.int .i64 rt],Value.slice p n cap,Value.tuple #[grV R1 C1 (Value.slice p1 n1 c1),grV R2 C2 (Value.slice p2 n2 c2),Value.int .i64 lt,Value.int .i64 rt],grV R1 C1 (Value.slice p1 n1 c1),grV R2 C2 (Value.slice p2 n2 c2),Value.int .i64 lt,Value.int .i64 rt,Value.agg #[Value.int .i64 R1,Value.int .i64 C1,Value.slice p1 n1 c1],Value.agg #[Value.int .i64 R2,Value.int .i64 C2,Value.slice p2 n2 c2],Value.int .i64 lt,Value.int .i64 rt,grV R0 C0 (Value.slice p3 N0 c3),lx 24,lx 25,lx 26,lx 27,lx 28,lx 29,lx 30,Value.bool false,Value.agg #[Value.int .i64 R2,Value.int .i64 C2,Value.slice p2 n2 c2],Value.agg #[Value.int .i64 R1,Value.int .i64 C1,Value.slice p1 n1 c1],Value.int .i64 rt,Value.int .i64 lt,grV R9 C9 (Value.slice p6 N9 c6),ly 37,ly 38,ly 39,ly 40,ly 41,ly 42,ly 43,ly 44,undef,undef,undef,undef,undef,undef,undef,undef,undef,undef,undef,undef,undef,undef,undef],defers:=[] }) (fun L ly lw=>Hid (Ext w7 lw∧(L 0=true→ly 37=Value.agg #[.int .i64 R9,.int .i64 C9,.slice p6 N9 c6])∧(L 1=true→ly 38=Value.agg #[.int .i64 R2,.int .i64 C2,.slice p2 n2 c2])∧(L 2=true→ly 39=Value.agg #[.int .i64 R1,.int .i64 C1,.slice p1 n1 c1])∧(L 3=true→ly 40=.int .i64 rt)∧(L 4=true→ly 41=.int .i64 lt)∧(L 5=true→∃ pp cc,ly 42=grV R9 C9 (.slice pp N9 cc)∧ValsIn lw (.slice pp N9 cc) L9)∧(L 6=true→ly 43=.bool true)∧(L 7=true→ly 44=.bool false))) rfl (by kernel_rfl) (fun jj=>undef) rfl ?_ ?_ ?_
  ·exact ⟨xd (xr _),(fun z=>by cases z),(fun z=>by cases z),(fun z=>by cases z),(fun z=>by cases z),(fun z=>by cases z),(fun z=>by cases z),(fun z=>by cases z),(fun z=>by cases z)⟩
  ·intro L ly wl i o K1 hK ho hL haf hI;obtain ⟨f0,f1,f2,f3,f4,f5,f6,f7,f8⟩:=hI.out
   match i,ho,hL,haf,hK with
   | 0,ho,hL,haf,hK =>
    cases ho
    (try dsimp only)
    obtain ⟨a0,a1,a2⟩:=Vec.three (B7.later f0);go_wp2_with fail;exact hK (fun jj=>if jj=37 then Value.agg #[.int .i64 R9,.int .i64 C9,.slice p6 N9 c6] else ly jj) _ ⟨f0,(fun _=>rfl),f2,f3,f4,f5,f6,f7,f8⟩
   | 1,ho,hL,haf,hK =>
    cases ho
    (try dsimp only)
    obtain ⟨a0,a1,a2⟩:=Vec.three (A2.later f0);go_wp2_with fail;exact hK (fun jj=>if jj=38 then Value.agg #[.int .i64 R2,.int .i64 C2,.slice p2 n2 c2] else ly jj) _ ⟨f0,f1,(fun _=>rfl),f3,f4,f5,f6,f7,f8⟩
   | 2,ho,hL,haf,hK =>
    cases ho
    (try dsimp only)
    obtain ⟨a0,a1,a2⟩:=Vec.three (A1.later f0);go_wp2_with fail;exact hK (fun jj=>if jj=39 then Value.agg #[.int .i64 R1,.int .i64 C1,.slice p1 n1 c1] else ly jj) _ ⟨f0,f1,f2,(fun _=>rfl),f4,f5,f6,f7,f8⟩
   | 3,ho,hL,haf,hK =>
    cases ho
    (try dsimp only)
    go_wp2_with fail;exact hK (fun jj=>if jj=40 then .int .i64 rt else ly jj) _ ⟨f0,f1,f2,f3,(fun _=>rfl),f5,f6,f7,f8⟩
   | 4,ho,hL,haf,hK =>
    cases ho
    (try dsimp only)
    go_wp2_with fail;exact hK (fun jj=>if jj=41 then .int .i64 lt else ly jj) _ ⟨f0,f1,f2,f3,f4,(fun _=>rfl),f6,f7,f8⟩
   | 5,ho,hL,haf,hK =>
    cases ho
    (try dsimp only)
    rw [f2 (haf ⟨1,.data⟩ (by simp) rfl),f3 (haf ⟨2,.data⟩ (by simp) rfl),f4 (haf ⟨3,.data⟩ (by simp) rfl),f5 (haf ⟨4,.data⟩ (by simp) rfl)];go_wp2_with fail;refine (CS2.out wl (xt X27 f0)).mono ?_;rintro rr w' ⟨⟨pp,cc,rfl,VV⟩,E⟩;go_wp2_with fail;exact hK (fun jj=>if jj=42 then grV R9 C9 (.slice pp N9 cc) else if jj=38 then Value.agg #[.int .i64 R2,.int .i64 C2,.slice p2 n2 c2] else if jj=39 then Value.agg #[.int .i64 R1,.int .i64 C1,.slice p1 n1 c1] else if jj=40 then .int .i64 rt else if jj=41 then .int .i64 lt else ly jj) _ ⟨xt f0 E,f1,(fun _=>rfl),(fun _=>rfl),(fun _=>rfl),(fun _=>rfl),(fun _=>⟨pp,cc,rfl,VV⟩),f7,f8⟩
   | 6,ho,hL,haf,hK =>
    cases ho
    (try dsimp only)
    obtain ⟨pp,cc,q5,VV⟩:=f6 (haf ⟨5,.data⟩ (by simp) rfl);rw [f1 (haf ⟨0,.data⟩ (by simp) rfl),q5];go_wp2_with fail;refine (zGridL R9 C9 (.slice p6 N9 c6) (.slice pp N9 cc) L9 wl (v6.later f0) VV HZ9.out).mono ?_;rintro rr w' ⟨rfl,E⟩;go_wp2_with fail;exact hK (fun jj=>if jj=43 then .bool true else if jj=37 then Value.agg #[.int .i64 R9,.int .i64 C9,.slice p6 N9 c6] else if jj=42 then grV R9 C9 (.slice pp N9 cc) else ly jj) _ ⟨xt f0 E,(fun _=>rfl),f2,f3,f4,f5,(fun _=>⟨pp,cc,rfl,VV.later E⟩),(fun _=>rfl),f8⟩
   | 7,ho,hL,haf,hK =>
    cases ho
    (try dsimp only)
    rw [f7 (haf ⟨6,.data⟩ (by simp) rfl)];go_wp2_with fail;exact hK (fun jj=>if jj=44 then .bool false else if jj=43 then .bool true else ly jj) _ ⟨f0,f1,f2,f3,f4,f5,f6,(fun _=>rfl),(fun _=>rfl)⟩
   | k+8,ho,_,_,_=>simp at ho
  ·intro L ly w8 hall hI;obtain ⟨f0,f1,f2,f3,f4,f5,f6,f7,f8⟩:=hI.out;clear hI;have qz:=f8 (hall 7 (by simp));have e8:=f0
   (try dsimp only)
   rw [qz];clear hall f0 f1 f2 f3 f4 f5 f6 f7 f8 qz;have B4:=B4.later e8;have B7:=B7.later e8;have XF:=xt e1 (xt X27 e8);have b0:=(B4 0 _ rfl).1;have b7:=(B7 0 _ rfl).1;by_cases q0:R0=0
   ·subst q0;clear HJ;go_wp2_with fail;go_ret;exact ⟨rfl,XF⟩
   ·have q0':(R0 == 0)=false:=(by simpa using q0);by_cases q9:R9=0
    ·subst q9;clear HJ;go_wp2_with fail;go_ret;exact ⟨rfl,XF⟩
    ·have q9':(R9 == 0)=false:=(by simpa using q9);obtain rfl:R0=R9:=(by have:=HJ.out;omega);clear HJ;go_wp2_with fail;go_ret;exact ⟨rfl,XF⟩
end Go.Proofs.YtnphbpmdohidcaaDoor

