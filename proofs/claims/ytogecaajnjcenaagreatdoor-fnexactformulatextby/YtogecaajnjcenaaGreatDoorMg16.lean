/-
  Several texts in one: Fj, Good, Ft, Gs1, Fx1, Fx3.
-/
import Derived.Test.YtogecaajnjcenaaGreatDoorMg15
import Derived.Test.YtogecaajnjcenaaGreatDoorMg3
import Derived.Test.YtogecaajnjcenaaGreatDoorMg14
import Derived.Test.YtogecaajnjcenaaGreatDoorMg12
namespace Go.Proofs.YtogecaajnjcenaaGreatDoor
open Go.RowKit
theorem nameB_not {l:List UInt8} {c:UInt8} (h:c ∈ l) (hc:wordC c=false):nameB l=false:=by
 have hf:l.all wordC=false:=by
  cases hq:l.all wordC with
  | false=>rfl
  | true=>have:=(List.all_eq_true.1 hq) c h;rw [hc] at this;cases this
 unfold nameB;rw [hf];simp
set_option maxRecDepth 8000 in
set_option maxHeartbeats 4000000 in
theorem nameS (l:List UInt8) (w:World) (hl:l.length≤1048576) :
  Calls Tryz.prog 93 #[sV l] w fun e w'=>e=.returned (.bool (nameB l))∧Ext w w':=by
 have CP:∀ w,Calls Tryz.prog 95 #[sV l] w fun e w'=>e=.returned (sV (l.map upC))∧Ext w w':=fun w=>capsS l w (by omega);have hul:(l.map upC).length≤1048576:=by simpa using hl
 have SC:∀ w,Calls Tryz.prog 125 #[sV (l.map upC)] w fun e w'=>e=.returned (.bool (placeB (l.map upC)))∧w'=w:=fun w=>secondS (l.map upC) w (by omega);have RR:∀ w,Calls Tryz.prog 126 #[sV (l.map upC)] w fun e w'=>∃ r c rf cf,e=.returned (.tuple #[refV r c rf cf,.bool (refOkB (l.map upC))])∧Ext w w':=fun w=>(readRefS (l.map upC) w hul).mono fun e w' ⟨ok,r,c,rf,cf,he,hr,hx⟩=>⟨r,c,rf,cf,by rw [he,refOk_of hr],hx⟩;have NN:Hid (∀ c,c ∈ l→wordC c=false→nameB l=false):=fun c h hc=>nameB_not h hc;have eN:Hid (l.all wordC=true→nameB l=((letZ ((l.getD 0 0).toNat:Int) || (((l.getD 0 0).toNat:Int) == 95)) && !decide (20<l.length) && !refOkB (l.map upC) && !((l.map upC == [84,82,85,69]) || (l.map upC == [70,65,76,83,69])) && !placeB (l.map upC))):=fun h=>by unfold nameB boolB;rw [h,Bool.and_true]
 have eF:Hid ((letZ ((l.getD 0 0).toNat:Int) || (((l.getD 0 0).toNat:Int) == 95))=false∨20<l.length→nameB l=false):=fun h=>by
  unfold nameB
  rcases h with h | h
  ·rw [h];rfl
  ·rw [decide_eq_true h];simp
 have e0:Hid (l.length=0→nameB l=false):=fun h=>by
  have:l=[]:=List.eq_nil_of_length_eq_zero h;subst this;unfold nameB;rfl
 obtain ⟨R,hR⟩:∃ R,nameB l=R:=⟨_,rfl⟩;rw [hR] at NN eN eF e0 ⊢;clear hR;obtain ⟨u,hu⟩:∃ u,l.map upC=u:=⟨_,rfl⟩;rw [hu] at CP SC RR eN;clear hu hul;obtain ⟨P,hP⟩:∃ P,placeB u=P:=⟨_,rfl⟩;obtain ⟨Q,hQ⟩:∃ Q,refOkB u=Q:=⟨_,rfl⟩;rw [hP] at SC eN;rw [hQ] at RR eN;clear hP hQ;obtain ⟨s,hs⟩:∃ s:ByteArray,(⟨l.toArray⟩:ByteArray)=s:=⟨_,rfl⟩;have hsl:s.data.toList=l:=by rw [← hs]
 have hsz:=size_ofL' hsl;have CP:∀ w,Calls Tryz.prog 95 #[.string s] w fun e w'=>e=.returned (sV u)∧Ext w w':=by rw [← hs];exact CP
 show Calls Tryz.prog 93 #[.string ⟨l.toArray⟩] w _;rw [hs];clear hs;obtain ⟨n,hn⟩:∃ n,l.length=n:=⟨_,rfl⟩;have HN:Hid _:=hn;have HS:Hid _:=hsl;rw [hn] at hl hsz eN eF e0;clear hn hsl
 rcases Nat.eq_zero_or_pos n with h0 | h0
 ·have hr:=e0.out h0;subst hr;subst h0;clear NN eN eF e0 CP SC RR;go_enter Tryz.func93,Tryz.ntmps93;go_wp2_with fail;go_ret;exact ⟨rfl,xr _⟩
 ·clear e0;have p0:¬ ((n:Int)<1):=by omega
  by_cases h20:20<n
  ·have hr:=eF.out (.inr h20);subst hr;have i1:(20:Int)<(n:Int):=by omega
   clear NN eN eF CP SC RR;go_enter Tryz.func93,Tryz.ntmps93;go_wp2_with fail;go_ret;exact ⟨rfl,xr _⟩
  ·have i1:(n:Int)≤20:=by omega
   have hks:0<s.size:=by omega
   have hb0:=byte_atA HS.out hks;have hd:decide (20<n)=false:=decide_eq_false h20;rw [hd] at eN;obtain ⟨N,hN⟩:∃ N:Int,((l.getD 0 0).toNat:Int)=N:=⟨_,rfl⟩;have hb:((s[0]'hks).toNat:Int)=N:=by rw [hb0];exact hN
   rw [hN] at eN eF;have LT:=fun w=>ltrS N w;obtain ⟨A,hA⟩:∃ A,letZ N=A:=⟨_,rfl⟩;obtain ⟨B,hB⟩:∃ B,(N == 95)=B:=⟨_,rfl⟩;have hB':(N != 95)=!B:=by rw [← hB];rfl
   rw [hA] at LT eN eF;rw [hB] at eN eF;clear hN hb0 hA hd;by_cases hAB:A=false∧B=false
   ·obtain ⟨rfl,rfl⟩:=hAB;have hr:=eF.out (.inl rfl);subst hr;clear NN eN eF CP SC RR;go_enter Tryz.func93,Tryz.ntmps93;go_wp2_with fail;refine (LT _).mono ?_;rintro e w2 ⟨rfl,rfl⟩;go_wp2_with fail;go_ret;exact ⟨rfl,xr _⟩
   ·have hE:(A=true∧B=true)∨(A=true∧B=false)∨(A=false∧B=true):=by
     cases A <;> cases B <;> simp_all
    have eN':Hid (l.all wordC=true→R=(!Q && !((u == [84,82,85,69]) || (u == [70,65,76,83,69])) && !P)):=fun h=>by
     rw [eN.out h]
     rcases hE with ⟨rfl,rfl⟩ | ⟨rfl,rfl⟩ | ⟨rfl,rfl⟩ <;> rfl
    clear hAB eN eF;go_enter Tryz.func93,Tryz.ntmps93;go_upto_region 1 with fail;go_cut [25] (fun v wc=>v=.bool false∧wc=w)
    case first =>
     rcases hE with ⟨rfl,rfl⟩ | ⟨rfl,rfl⟩ | ⟨rfl,rfl⟩
     all_goals
      go_wp2_with fail;refine (LT _).mono ?_;rintro e w2 ⟨rfl,h2⟩;rw [h2];clear h2;go_wp2_with fail;go_meet
      case rel=>exact ⟨by first | rfl | (congr 1;exact decide_eq_false (by omega)),rfl⟩
    case rest =>
     obtain ⟨rfl,hwc⟩:=hcut;rw [hwc];clear hwc hE LT hb hB hB';go_wp2_with fail
     go_loop [3] (fun i=>∃ k:Nat,k≤n∧i=.int .i64 k∧Hid ((l.take k).all wordC=true)) (fun i=>n - (intOf i).toNat)
     case atStart=>exact ⟨0,by omega,rfl,by show _=_;simp⟩
     case round =>
      obtain ⟨k,hk,rfl,HA⟩:=hrel;by_cases hlt:k<n
      ·have hkk:k<s.size:=(by omega);have hb0:=byte_atA HS.out hkk;have htk:=take_at (l:=l) (i:=k) (by rw [HN.out];exact hlt);obtain ⟨c,hcc⟩:∃ c,l.getD k 0=c:=⟨_,rfl⟩;rw [hcc] at hb0 htk;have hb:((s[k]'hkk).toNat:Int)=(c.toNat:Int):=(by rw [hb0]);have i2:(k:Int)<(n:Int):=(by omega);have W:=fun w=>wordS (c.toNat:Int) w;obtain ⟨p,hp⟩:∃ p,wordC c=p:=⟨_,rfl⟩;have hp':wordZ (c.toNat:Int)=p:=hp;rw [hp'] at W;obtain ⟨M,hM⟩:∃ M:Int,(c.toNat:Int)=M:=⟨_,rfl⟩;rw [hM] at hb W;cases p
       ·have hm:c ∈ l:=by
         have:c ∈ l.take (k+1):=(by rw [htk];simp);exact List.mem_of_mem_take this
        have hr:=NN.out c hm hp;subst hr;clear NN eN' HA hm hp hp' hM htk hcc hb0 CP SC RR;go_wp2_with fail;refine (W _).mono ?_;rintro e w2 ⟨rfl,h2⟩;rw [h2];clear h2;go_wp2_with fail;go_ret;exact ⟨rfl,xr _⟩
       ·have HA2:Hid ((l.take (k+1)).all wordC=true):=by
         show _=_;rw [htk,List.all_append,HA.out,List.all_cons,hp];rfl
        clear HA hp hp' hM htk hcc hb0;go_wp2_with fail;refine (W _).mono ?_;rintro e w2 ⟨rfl,h2⟩;rw [h2];clear h2;go_wp2_with fail
        go_round
        case rel=>exact ⟨k+1,by omega,by go_num,HA2⟩
        case measure=>simp [intOf];omega
      ·obtain rfl:k=n:=(by omega);have hall:l.all wordC=true:=by
        have:=HA.out;rw [List.take_of_length_le (by rw [HN.out];omega)] at this;exact this
       have hr:=eN'.out hall;subst hr;clear hall eN' HA NN;obtain ⟨t1,ht1⟩:∃ t,(u == [84,82,85,69])=t:=⟨_,rfl⟩;obtain ⟨t2,ht2⟩:∃ t,(u == [70,65,76,83,69])=t:=⟨_,rfl⟩;have HT1:Hid _:=ht1;have HT2:Hid _:=ht2;go_wp2_with fail;refine (CP _).mono ?_;rintro e w4 ⟨rfl,e4⟩;cases t1
       ·cases t2
        ·go_wp2_with fail;refine (SC _).mono ?_;rintro e w5 ⟨rfl,h5⟩;rw [h5];clear h5;cases P
         ·go_wp2_with fail;refine (RR _).mono ?_;rintro e w6 ⟨r,c,rf,cf,rfl,e6⟩;go_wp2_with fail;go_ret;exact ⟨by rw [HT1.out,HT2.out];simp,xa (xt e4 e6) _⟩
         ·go_wp2_with fail;go_ret;exact ⟨by simp,e4⟩
        ·go_wp2_with fail;go_ret;exact ⟨by rw [HT1.out,HT2.out];simp,e4⟩
       ·go_wp2_with fail;go_ret;exact ⟨by rw [HT1.out];simp,e4⟩
def goodB (neg:Bool) (d x:Int):Bool:=
 if d=0 then (!neg && decide (x=0)) else decide (0<d∧d<1000000000000000∧d % 10 ≠ 0 ∧ -300≤x∧x≤300)
set_option maxHeartbeats 400000 in
theorem goodI (neg:Bool) (d x:Int) (w:World) (h1 : -9223372036854775808≤d) (h2:d≤9223372036854775807) (hT:Tens w) :
  Calls Tryz.prog 73 #[.agg #[.bool neg,.int .i64 d,.int .i64 x]] w fun e w'=>e=.returned (.bool (goodB neg d x))∧Ext w w':=by
 have hT':=fun o=>Lib.cell?_alloc_some o hT.at15;clear hT;go_enter Tryz.func73,Tryz.ntmps73
 go_wp2
 all_goals go_ret
 all_goals refine ⟨ret_bool ?_,?_⟩
 all_goals first | exact x1 _ _ | skip
 all_goals clear hT'
 all_goals simp_all [goodB]
 all_goals (intros;omega)
set_option maxHeartbeats 400000 in
theorem goodS (neg:Bool) (d x:Int) (w:World) :
  Calls Tryz.prog 50 #[.agg #[.bool neg,.int .i64 d,.int .i64 x]] w fun e w'=>e=.returned (.bool (goodB neg d x))∧Ext w w':=by
 go_enter Tryz.func50,Tryz.ntmps50
 go_wp2
 all_goals go_ret
 all_goals refine ⟨ret_bool ?_,?_⟩
 all_goals first | exact x1 _ _ | skip
 all_goals simp_all [goodB]
 all_goals (intros;omega)
set_option maxHeartbeats 400000 in
theorem toDec (neg:Bool) (d x:Int) (w:World) :
  Calls Tryz.prog 21 #[.agg #[.bool neg,.int .i64 d,.int .i64 x]] w fun e w'=>e=.returned (.agg #[.bool neg,.int .i64 d,.int .i64 x])∧Ext w w':=by
 go_enter Tryz.func21,Tryz.ntmps21
 go_wp2
 exact bodyPost_ret (v:=.agg #[.bool neg,.int .i64 d,.int .i64 x]) (by simp [results,Tryz.results21,go_sem]) rfl ⟨rfl,xa (xa (x1 _ _) _) _⟩
abbrev exV (k:Int) (t:List UInt8) (neg:Bool) (d x r c:Int) (rf cf:Bool) (r2 c2:Int) (rf2 cf2:Bool) (m:Int) (s:Value):Value:=.agg #[.int .i64 k,sV t,.bool neg,.int .i64 d,.int .i64 x,.int .i64 r,.int .i64 c,.bool rf,.bool cf,.int .i64 r2,.int .i64 c2,.bool rf2,.bool cf2,.int .i64 m,s]
inductive KidsS (w:World) (U:Nat→Prop):Value→List ET→Prop
 | mk (p:Option Addr) (cap:Nat) (es:List ET) (s:Nat→Value) (hc:es.length≤cap)
   (hp:0<es.length→∃ g,p=some ⟨g,0,none⟩∧U g∧∀ (i:Nat) (e:ET),es[i]?=some e→∀ (c:Nat) (u:Value),(e.n.cells++[s i])[c]?=some u→w.cell? ⟨g,i * 15+c,none⟩=some u)
   (hk:∀ (i:Nat) (e:ET),es[i]?=some e→KidsS w U (s i) e.kids):KidsS w U (.slice p es.length cap) es
theorem KidsS.keep {w w':World} {U U':Nat→Prop} {v:Value} {es:List ET} (h:KidsS w U v es) (hw:∀ k,U k→w'.heap[k]?=w.heap[k]?) (hu:∀ k,U k→U' k):KidsS w' U' v es:=by
 induction h with
 | mk p cap es s hc hp hk ih =>
  refine KidsS.mk p cap es s hc (fun h0=>?_) ih;obtain ⟨g,h1,h2,h3⟩:=hp h0;refine ⟨g,h1,hu g h2,fun i e hi c u hcu=>?_⟩;rw [← h3 i e hi c u hcu];unfold World.cell?;simp only [hw g h2]
theorem KidsS.later {w w':World} {U:Nat→Prop} {v:Value} {es:List ET} (h:KidsS w U v es) (hU:∀ k,U k→k<w.heap.size) (x:Ext w w'):KidsS w' U v es:=h.keep (fun k hk=>x.block k (hU k hk)) (fun _ h=>h)
theorem KidsS.slice {w:World} {U:Nat→Prop} {v:Value} {es:List ET} (h:KidsS w U v es):∃ p cap,v=.slice p es.length cap∧es.length≤cap:=by
 cases h with
 | mk p cap es s hc hp hk=>exact ⟨p,cap,rfl,hc⟩
theorem KidsS.row {w:World} {U:Nat→Prop} {v:Value} {es:List ET} (h:KidsS w U v es) {j:Nat} {e:ET} (hj:es[j]?=some e):∃ cap g s,v=.slice (some ⟨g,0,none⟩) es.length cap∧w.rangeAt g (j * 15) (e.n.cells++[s])∧KidsS w U s e.kids:=by
 cases h with
 | mk p cap es s hc hp hk =>
  obtain ⟨g,rfl,_,h3⟩:=hp (by have:=(List.getElem?_eq_some_iff.1 hj).1;omega);exact ⟨cap,g,s j,rfl,fun c u hu=>h3 j e hj c u hu,hk j e hj⟩
abbrev NT.ex (x:NT) (s:Value):Value:=exV x.k x.t x.n x.d x.x x.r x.c x.f x.g x.r2 x.c2 x.f2 x.g2 x.q s
abbrev NT.exL (x:NT) (s:Value):List Value:=[.int .i64 x.k,sV x.t,.bool x.n,.int .i64 x.d,.int .i64 x.x,.int .i64 x.r,.int .i64 x.c,.bool x.f,.bool x.g,.int .i64 x.r2,.int .i64 x.c2,.bool x.f2,.bool x.g2,.int .i64 x.q,s]
theorem hi15E:(Tryz.prog.info? 55).map (·.size)=some 15:=by kernel_rfl
set_option maxRecDepth 8000 in
set_option maxHeartbeats 2000000 in
theorem constS (x:NT) (s:Value) (ks:List ET) (U:Nat→Prop) (w:World) (h:KidsS w U s ks) :
  Calls Tryz.prog 96 #[x.ex s] w fun e w'=>e=.returned (.bool (constE (.mk x ks)))∧Ext w w':=by
 cases h with
 | mk p cap es sv hc hp hkk =>
 obtain ⟨Q,hQ⟩:∃ Q,constE (.mk x ks)=Q:=⟨_,rfl⟩;have HQ:Hid _:=hQ;rw [hQ];clear hQ;obtain ⟨n,hn⟩:∃ n,ks.length=n:=⟨_,rfl⟩;have HN:Hid _:=hn;have HP:Hid _:=hp;rw [hn];clear hp hkk hc hn;obtain ⟨k,hk⟩:∃ k,x.k=k:=⟨_,rfl⟩;have X:=x1 w (.cells (x.exL (.slice p n cap)).toArray 55);have VN:=vec_made w (x.exL (.slice p n cap)) 55;obtain ⟨wa,ha⟩:∃ q,w.alloc (.cells (x.exL (.slice p n cap)).toArray 55)=q:=⟨_,rfl⟩;rw [ha] at X VN;have a0:=(VN 0 _ rfl).1;have a14:=(VN 14 _ rfl).1;have HK:Hid _:=hk;have ha':w.alloc (.cells #[.int .i64 k,sV x.t,.bool x.n,.int .i64 x.d,.int .i64 x.x,.int .i64 x.r,.int .i64 x.c,.bool x.f,.bool x.g,.int .i64 x.r2,.int .i64 x.c2,.bool x.f2,.bool x.g2,.int .i64 x.q,.slice p n cap] 55)=wa:=by rw [← hk];exact ha
 show Calls Tryz.prog 96 #[exV x.k x.t x.n x.d x.x x.r x.c x.f x.g x.r2 x.c2 x.f2 x.g2 x.q (.slice p n cap)] w _;rw [hk] at a0 ⊢;clear VN hk ha;have CU:Hid (∀ {b:Bool},(decide (k=1∨k=2∨k=3∨k=4) || (decide (k=8) && decide (ks.length=1) && ks.head?.any fun x=>decide (x.n.k=1)))=b→b=Q):=fun h=>by
  rw [← HQ.out,← h];unfold constE;show _=(decide (x.k=1∨x.k=2∨x.k=3∨x.k=4) || (decide (x.k=8) && decide (ks.length=1) && ks.head?.any fun x=>decide (x.n.k=1)));rw [HK.out]
 clear HQ HK;by_cases h14:k=1∨k=2∨k=3∨k=4
 ·have HE:Hid (true=Q):=CU.out (by simp [h14]);clear CU a14
  rcases h14 with rfl | rfl | rfl | rfl
  all_goals
   go_enter Tryz.func96,Tryz.ntmps96;go_wp2_with fail;go_ret;exact ⟨ret_bool HE.out,X⟩
 ·have q1:¬ k=1:=fun q=>h14 (.inl q);have q2:¬ k=2:=fun q=>h14 (.inr (.inl q));have q3:¬ k=3:=fun q=>h14 (.inr (.inr (.inl q)));have q4:¬ k=4:=fun q=>h14 (.inr (.inr (.inr q)));by_cases h8:k=8
  ·subst h8;by_cases h1:n=1
   ·subst h1;obtain ⟨e,he⟩:=List.length_eq_one_iff.1 HN.out;subst he;obtain ⟨g,rfl,_,hcell⟩:=HP.out (by simp);have c0:=cell_later X (hcell 0 e rfl 0 _ rfl);rw [Nat.zero_mul,Nat.add_zero] at c0;obtain ⟨j,hj⟩:∃ j,e.n.k=j:=⟨_,rfl⟩;have HE:Hid ((decide (j=1))=Q):=CU.out (by simp [hj]);rw [hj] at c0;clear CU h14 hj HP hcell q1 q2 q3 q4 HN;go_enter Tryz.func96,Tryz.ntmps96;go_wp2_with fail;go_ret;exact ⟨(ret_bool (by first | rfl | simp | (cases hq:_ == _ <;> simp_all))).trans (ret_bool HE.out),X⟩
   ·have HE:Hid (false=Q):=CU.out (by simp [HN.out,h1]);have g1:¬ (n:Int)=1:=(by omega);have g2:((n:Int) == 1)=false:=(by simp;omega);clear CU h14 HP HN q1 q2 q3 q4;go_enter Tryz.func96,Tryz.ntmps96;go_wp2_with fail;go_ret;exact ⟨ret_bool HE.out,X⟩
  ·have HE:Hid (false=Q):=CU.out (by simp [h14,h8]);clear CU h14 a14 HP HN;go_enter Tryz.func96,Tryz.ntmps96;go_wp2_with fail;go_ret;exact ⟨ret_bool HE.out,X⟩
set_option maxRecDepth 8000 in
set_option maxHeartbeats 2000000 in
theorem opLevelS (t:List UInt8) (w:World) (h:t ∈ opsL):Calls Tryz.prog 38 #[sV t] w fun e w'=>e=.returned (.int .i64 (lvOp t))∧w'=w:=by
 simp only [opsL,List.mem_cons,List.not_mem_nil,or_false] at h
 rcases h with rfl | rfl | rfl | rfl | rfl | rfl | rfl | rfl | rfl | rfl | rfl | rfl
 all_goals
  (first | rw [show lvOp _=5 from by decide +kernel] | rw [show lvOp _=4 from by decide +kernel] | rw [show lvOp _=3 from by decide +kernel] | rw [show lvOp _=2 from by decide +kernel] | rw [show lvOp _=1 from by decide +kernel])
  go_enter Tryz.func38,Tryz.ntmps38;go_wp2_with fail;go_ret;exact ⟨rfl,rfl⟩
set_option maxRecDepth 8000 in
set_option maxHeartbeats 2000000 in
theorem levelS (x:NT) (p:Option Addr) (n c:Nat) (ks:List ET) (w:World) (ho:x.k=10→x.t ∈ opsL) :
  Calls Tryz.prog 55 #[x.ex (.slice p n c)] w fun e w'=>e=.returned (.int .i64 (lvE (.mk x ks)))∧Ext w w':=by
 obtain ⟨L,hL⟩:∃ L,lvE (.mk x ks)=L:=⟨_,rfl⟩;have HL:Hid (L=(if x.k=8 then 6 else if x.k=9 then 7 else if x.k=10 then lvOp x.t else 8)):=hL.symm;rw [hL];clear hL;obtain ⟨k,t,ng,d,e,r,cc,f,g,r2,c2,f2,g2,q⟩:=x;obtain ⟨wa,ha,X1,VN,-⟩:=boxed w [.int .i64 k,sV t,.bool ng,.int .i64 d,.int .i64 e,.int .i64 r,.int .i64 cc,.bool f,.bool g,.int .i64 r2,.int .i64 c2,.bool f2,.bool g2,.int .i64 q,.slice p n c] 55;have a:=vC2 VN;by_cases h8:k=8
 ·subst h8;have HL2:Hid (L=6):=HL.out;clear HL ho;go_enter Tryz.func55,Tryz.ntmps55;go_wp2_with fail;go_ret;exact ⟨ret_int HL2.out.symm,X1⟩
 by_cases h9:k=9
 ·subst h9;have HL2:Hid (L=7):=HL.out;clear HL ho;go_enter Tryz.func55,Tryz.ntmps55;go_wp2_with fail;go_ret;exact ⟨ret_int HL2.out.symm,X1⟩
 by_cases h10:k=10
 ·subst h10;have HL2:Hid (L=lvOp t):=HL.out;have HO:Hid (∀ W,Calls Tryz.prog 38 #[sV t] W fun e w'=>e=.returned (.int .i64 (lvOp t))∧w'=W):=fun W=>opLevelS t W (ho rfl);clear HL ho;go_enter Tryz.func55,Tryz.ntmps55;go_wp2_with fail;refine (HO.out _).mono ?_;rintro e w1 ⟨rfl,rfl⟩;go_wp2_with fail;go_ret;exact ⟨ret_int HL2.out.symm,X1⟩
 ·have HL2:Hid (L=8):=by
   show L=8;rw [HL.out];show (if k=8 then (6:Int) else if k=9 then 7 else if k=10 then lvOp t else 8)=8;rw [if_neg h8,if_neg h9,if_neg h10]
  have i8:(k == 8)=false:=by simp;exact h8
  have i9:(k == 9)=false:=by simp;exact h9
  have i10:(k == 10)=false:=by simp;exact h10
  clear HL ho;go_enter Tryz.func55,Tryz.ntmps55;go_wp2_with fail;go_ret;exact ⟨ret_int HL2.out.symm,X1⟩
structure TellS (row col:Int) (T:Int→Int→Bool→Bool→List UInt8):Prop where
 tell:∀ (r c:Int) (f g:Bool) (w:World),goodRB r c=true→Calls Tryz.prog 36 #[.agg #[.int .i64 row,.int .i64 col],refV r c f g] w fun e w'=>e=.returned (sV (T r c f g))∧Ext w w'
theorem kidS (row col:Int) (x:NT) (p:Option Addr) (n c:Nat) (ks:List ET) (least:Int) (u:List UInt8) (w:World) (hu:u.length≤1000000000000) (ho:x.k=10→x.t ∈ opsL)
  (ht:∀ W,Ext w W→Calls Tryz.prog 20 #[.agg #[.int .i64 row,.int .i64 col],x.ex (.slice p n c)] W fun e w'=>e=.returned (sV u)∧Ext W w') :
  Calls Tryz.prog 37 #[.agg #[.int .i64 row,.int .i64 col],x.ex (.slice p n c),.int .i64 least] w fun e w'=>e=.returned (sV (kidT (lvE (.mk x ks)) least u))∧Ext w w':=by
 have LV:Hid (∀ W,Calls Tryz.prog 55 #[x.ex (.slice p n c)] W fun e w'=>e=.returned (.int .i64 (lvE (.mk x ks)))∧Ext W w'):=fun W=>levelS x p n c ks W ho;have HT:Hid (∀ W,Ext w W→Calls Tryz.prog 20 #[.agg #[.int .i64 row,.int .i64 col],x.ex (.slice p n c)] W fun e w'=>e=.returned (sV u)∧Ext W w'):=ht;obtain ⟨lv,hlv⟩:∃ lv,lvE (.mk x ks)=lv:=⟨_,rfl⟩;rw [hlv] at LV ⊢;obtain ⟨R,hR⟩:∃ R,kidT lv least u=R:=⟨_,rfl⟩;have HR:Hid _:=hR;rw [hR];clear ho ht hlv hR;have HU:Hid (u.length≤1000000000000):=hu;clear hu;obtain ⟨k,t,ng,d,e,r,cc,f,g,r2,c2,f2,g2,q⟩:=x;obtain ⟨wa,ha,X1,VW,-⟩:=boxed w [.int .i64 row,.int .i64 col] 39;obtain ⟨wb,hb,X2,VN,-⟩:=boxed wa [.int .i64 k,sV t,.bool ng,.int .i64 d,.int .i64 e,.int .i64 r,.int .i64 cc,.bool f,.bool g,.int .i64 r2,.int .i64 c2,.bool f2,.bool g2,.int .i64 q,.slice p n c] 55;have HA:Hid _:=ha;have HB:Hid _:=hb;obtain ⟨gN,hg⟩:∃ z,wa.heap.size=z:=⟨_,rfl⟩;have HG:Hid _:=hg;rw [hg] at VN;have VW:=VW.later X2;have X:=xt X1 X2;have HRN:Hid (∀ W,Ext wb W→W.rangeAt gN 0 [.int .i64 k,sV t,.bool ng,.int .i64 d,.int .i64 e,.int .i64 r,.int .i64 cc,.bool f,.bool g,.int .i64 r2,.int .i64 c2,.bool f2,.bool g2,.int .i64 q,.slice p n c]):=fun W x j u hu=>by rw [Nat.zero_add];exact ((VN.later x) j u hu).1
 have hz:w.heap.size+1=gN:=by rw [← hg,← ha,World.size_alloc]
 have HZ:Hid _:=hz;clear ha hb hg hz X1 X2 VN;have R0:=HRN.out wb (xr _);go_enter Tryz.func37,Tryz.ntmps37;go_upto_region 1 with fail;rw [HA.out,HB.out]
 (try rw [HG.out])
 (try rw [HZ.out])
 go_wp2_with (refine wpList_load_mid rfl 55 (.tmp 4) rfl gN 0 rfl _ _ R0 Tryz.underlying55 rfl hi15E ?_);refine (LV.out wb).mono ?_;rintro e w1 ⟨rfl,e1⟩;have R1:=HRN.out w1 e1;have a:=vC2 (VW.later e1);have Y1:=xt X e1;clear R0 LV HRN HA HB HG HZ VW;have CT:=HT.out w1 Y1;by_cases hl:lv<least
 ·have HK:Hid (R=40 :: (u++[41])):=HR.out.symm.trans (if_pos hl);have q1:(9223372036854775807<1+u.length)=False:=eq_false (by have:=HU.out;omega);have q2:(9223372036854775807<1+u.length+1)=False:=eq_false (by have:=HU.out;omega);go_wp2_with (refine wpList_load_mid rfl 55 (.tmp 4) rfl gN 0 rfl _ _ R1 Tryz.underlying55 rfl hi15E ?_);refine CT.mono ?_;rintro e w2 ⟨rfl,e2⟩;go_wp2_with fail;go_ret;exact ⟨ret_str (by rw [HK.out];refine bs_of ?_;simp),xt Y1 e2⟩
 ·have HK:Hid (R=u):=HR.out.symm.trans (if_neg hl);go_wp2_with (refine wpList_load_mid rfl 55 (.tmp 4) rfl gN 0 rfl _ _ R1 Tryz.underlying55 rfl hi15E ?_);refine CT.mono ?_;rintro e w2 ⟨rfl,e2⟩;go_wp2_with fail;go_ret;exact ⟨ret_str (by rw [HK.out]),xt Y1 e2⟩
end Go.Proofs.YtogecaajnjcenaaGreatDoor

