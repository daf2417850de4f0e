/-
  Several texts in one: Gs9, Au5.
-/
import Derived.Test.YtcjjobciokfehaaGreatDoorGs8
import Derived.Test.YtcjjobciokfehaaGreatDoorMg41
import Derived.Test.YtcjjobciokfehaaGreatDoorN7d
import Derived.Test.YtcjjobciokfehaaGreatDoorAu4
import Derived.Test.YtcjjobciokfehaaGreatDoorNm
namespace Go.Proofs.YtcjjobciokfehaaGreatDoor
open Go.RowKit
def AreasB (w:World) (v:Value) (n:Nat) (L:List Value) (g:Nat):Prop:=
 L.length=n * 8∧n≤1000∧∃ p cap,v=.slice p n cap∧(0<n→p=some ⟨g,0,none⟩∧Vec w g L)
theorem AreasB.at {w:World} {v:Value} {n:Nat} {L:List Value} {g base:Nat} (h:AreasB w v n L g) (hb:0<n→base≤g):AreasAt w base v n L:=by
 obtain ⟨h1,h2,p,cap,h3,h4⟩:=h;refine ⟨h1,h2,p,cap,h3,fun h0=>?_⟩;obtain ⟨h5,V⟩:=h4 h0;refine ⟨g,h5,hb h0,?_,V⟩;obtain ⟨u,hu⟩:∃ u,L[0]?=some u:=⟨_,List.getElem?_eq_getElem (by omega)⟩;exact World.block_lt_of_cell? _ _ (V 0 u hu).1
theorem AreasB.later {w w':World} {v:Value} {n:Nat} {L:List Value} {g:Nat} (h:AreasB w v n L g) (x:Ext w w'):AreasB w' v n L g:=by
 obtain ⟨h1,h2,p,cap,h3,h4⟩:=h;exact ⟨h1,h2,p,cap,h3,fun h0=>⟨(h4 h0).1,(h4 h0).2.later x⟩⟩
theorem AreasB.turned {w w':World} {v:Value} {n:Nat} {L:List Value} {g lo hi:Nat} (h:AreasB w v n L g) (hb:0<n→g<lo∨hi≤g) (t:TurnedIn lo hi w w'):AreasB w' v n L g:=by
 obtain ⟨h1,h2,p,cap,h3,h4⟩:=h;exact ⟨h1,h2,p,cap,h3,fun h0=>⟨(h4 h0).1,t.vec g _ (hb h0) (h4 h0).2⟩⟩
theorem vec_below {w w':World} {b g:Nat} {L:List Value} (V:Vec w g L) (hg:g<b) (x:Below b w w'):Vec w' g L:=fun i u hu=>by
 have hb:=x.block g hg;have h:=V i u hu;unfold World.cell? World.frozen? at *;simp only [hb];exact h
theorem AreasB.below {w w':World} {v:Value} {n:Nat} {L:List Value} {g b:Nat} (h:AreasB w v n L g) (hb:0<n→g<b) (x:Below b w w'):AreasB w' v n L g:=by
 obtain ⟨h1,h2,p,cap,h3,h4⟩:=h;exact ⟨h1,h2,p,cap,h3,fun h0=>⟨(h4 h0).1,vec_below (h4 h0).2 (hb h0) x⟩⟩
theorem areasB_of {w:World} {base:Nat} {v:Value} {l:List Ar} (h:OwnA w base v l) (hn:l.length≤1000):∃ g,AreasB w v l.length (flatA l) g∧(0<l.length→base≤g∧g<w.heap.size):=by
 obtain ⟨h1,h2,p,cap,h3,h4⟩:=AreasAt.of_own h hn;by_cases h0:0<l.length
 ·obtain ⟨g,h5,h6,h7,V⟩:=h4 h0;exact ⟨g,⟨h1,h2,p,cap,h3,fun _=>⟨h5,V⟩⟩,fun _=>⟨h6,h7⟩⟩
 ·exact ⟨0,⟨h1,h2,p,cap,h3,fun h=>absurd h h0⟩,fun h=>absurd h h0⟩
theorem usedAR_len (f:List NT) (hf:goodSF NT.good f=true→f.length≤300):(usedAR f).length≤300∧(usedAR f ≠ []→f ≠ []):=by
 unfold usedAR
 split
 ·next h =>
  have h1:=usedY_len (adrT f f.length);have h2:=adrT_len f f.length;have h3:=hf h;refine ⟨by omega,fun h4 h5=>h4 (List.eq_nil_of_length_eq_zero ?_)⟩;have:f.length=0:=by rw [h5];rfl
  omega
 ·exact ⟨Nat.zero_le _,fun h=>absurd rfl h⟩
theorem OwnN.ltA {w:World} {g:Nat} {l:List NT} (h:OwnN w g l) (h0:l ≠ []):g<w.heap.size:=by
 cases l with
 | nil=>exact absurd rfl h0
 | cons x l=>exact World.block_lt_of_cell? _ _ (h 0 x rfl 0 _ rfl).1
set_option maxRecDepth 8000 in
set_option maxHeartbeats 8000000 in
theorem lawUsedA (v:Value) (f:List NT) (w:World) (h:NodesIn w v f) (hl:f.length≤9223372036854775807) (ht:∀ e ∈ f,e.t.length≤9223372036854775807) (hd:∀ e ∈ f,-9223372036854775808≤e.d∧e.d≤9223372036854775807) (hT:Tens w) (hE:ErrTab w) (hO:OpTab w) (LW:LibW w) (IT:ItoaC w) :
  Calls Tryz.prog 4 #[v] w fun e w'=>e=.returned (.bool true)∧Ext w w':=by
 have C0:=szNodes v f 1048576 w h (by omega) (by omega) hl ht;go_enter Tryz.func4,Tryz.ntmps4;go_wp2_with fail;refine C0.mono ?_;rintro e w1 ⟨⟨z,rfl,z0,z1,hz⟩,e1⟩;clear C0;by_cases hn:z<0
 ·clear hz;go_wp2_with fail;go_ret;exact ⟨rfl,e1⟩
 ·obtain ⟨hl1,ht1⟩:=hz (by omega);have hl2:f.length≤1048576:=by omega
  have hr:∀ x ∈ f,x.fits:=fun x hx=>⟨by have:=ht1 x hx;omega,hd x hx⟩;have hx:∀ x ∈ f,x.t.length≤1048576:=fun x hx=>(hr x hx).1;have HTN:Hid (∀ W,Ext w W→Calls Tryz.prog 8 #[v] W fun e w'=>(∃ g,e=.returned (.slice (some ⟨g,0,none⟩) f.length f.length)∧W.heap.size≤g∧OwnN w' g f)∧Ext W w'):=fun W X=>toNodes v f W (h.later X) (by omega);have HEQ:Hid (∀ W g g',OwnN W g f→OwnN W g' f→Calls Tryz.prog 10 #[.slice (some ⟨g,0,none⟩) f.length f.length,.slice (some ⟨g',0,none⟩) f.length f.length] W fun e w'=>e=.returned (.bool true)∧Ext W w'):=fun W g g' o o'=>eqNodes _ _ f W o.nodes o'.nodes (by omega);have HUS:Hid (∀ W g,OwnN W g f→Calls Tryz.prog 11 #[.slice (some ⟨g,0,none⟩) f.length f.length] W fun e w'=>UsedAPost f W e w'):=fun W g o=>usedAS _ f W o.nodes hx;have HUI:Hid (∀ W g,Ext w W→OwnN W g f→Calls Tryz.prog 12 #[.slice (some ⟨g,0,none⟩) f.length f.length] W fun e w'=>UsedAPost f W e w'):=fun W g X o=>usedAI _ f W o.nodes hr hl2 (hT.later X) (hE.later X) (hO.later X) (LW.later X) (IT.laterG X);have HMN:Hid (∀ W g,OwnN W g f→Calls Tryz.prog 14 #[.slice (some ⟨g,0,none⟩) f.length f.length,.int .i64 1] W fun e w'=>e=.returned (.int .i64 ((1+f.length * 14:Nat):Int))∧TurnedIn g (g+1) W w'):=fun W g o=>markNodes g f.length _ 1 W (flat14_len f) o.vec hl2 (by omega) (by omega);have hul:=usedAR_len f (fun hh=>by
   rcases Nat.lt_or_ge 300 f.length with h' | h'
   ·rw [goodSF_long (Or.inr h')] at hh;cases hh
   ·exact h')
  unfold UsedAPost at HUS HUI;obtain ⟨l,hL⟩:∃ l,usedAR f=l:=⟨_,rfl⟩;rw [hL] at HUS HUI hul;have hll:l.length≤1000:=by omega
  have HLF:Hid (0<l.length→f ≠ []):=fun h1=>hul.2 (fun h2=>by rw [h2] at h1;cases h1);have HQS:Hid (∀ W u u' g g',AreasB W u l.length (flatA l) g→AreasB W u' l.length (flatA l) g'→Calls Tryz.prog 13 #[u,u'] W fun e w'=>e=.returned (.bool true)∧Ext W w'):=fun W u u' g g' a b=>eqAreas 0 0 u u' l W (a.at (fun _=>Nat.zero_le _)) (b.at (fun _=>Nat.zero_le _));have HOW:Hid (∀ W base u,OwnA W base u l→∃ g,AreasB W u l.length (flatA l) g∧(0<l.length→base≤g∧g<W.heap.size)):=fun W base u o=>areasB_of o hll;obtain ⟨n,hn'⟩:∃ n,f.length=n:=⟨_,rfl⟩;rw [hn'] at HTN HEQ HUS HUI HMN hl2;obtain ⟨N,hN⟩:∃ N,l.length=N:=⟨_,rfl⟩;have HNL:Hid (l.length=N):=hN;rw [hN] at HLF HQS HOW hll;have HFL:Hid (flatA l=flatA l):=rfl;obtain ⟨FL,hFL⟩:∃ q,flatA l=q:=⟨_,rfl⟩;rw [hFL] at HQS HOW;have HMS:Hid (∀ W u base,AreasAt W base u N FL→Calls Tryz.prog 15 #[u,.int .i64 1] W fun e w'=>e=.returned (.int .i64 ((1+N * 8:Nat):Int))∧(∃ M,AreasAt w' base u N M∧Marked M N)∧Below base W w'):=fun W u base o=>markAreas base u N FL W o;have HHS:Hid (∀ W u base M,AreasAt W base u N M→Marked M N→Calls Tryz.prog 16 #[u,.int .i64 1] W fun e w'=>e=.returned (.int .i64 ((1+N * 8:Nat):Int))∧w'=W):=fun W u base M o k=>heldAreas base u N M W o k;obtain ⟨q,hq⟩:∃ q,1+N * 8=q:=⟨_,rfl⟩;obtain ⟨r,hrr⟩:∃ r,1+n * 14=r:=⟨_,rfl⟩;rw [hq] at HMS HHS;rw [hrr] at HMN;have hq0:¬ (q:Int)<0:=by omega
  have hr0:¬ (r:Int)<0:=by omega
  clear hL hn' hl ht hd hl1 ht1 hz hl2 hr hx h hT hE hO LW IT hul hll hq hrr hN hFL HFL;go_wp2_with fail;refine (HTN.out w1 e1).mono ?_;rintro e w2 ⟨⟨g2,rfl,hg2,O2⟩,e2⟩;have X2:=xt e1 e2;go_wp2_with fail;refine (HUS.out w2 g2 O2).mono ?_;rintro e w3 ⟨v3,rfl,U3,e3⟩;obtain ⟨b3,T3,hb3⟩:=HOW.out _ _ _ U3;obtain ⟨p3,c3,rfl,_⟩:=ownA_slice U3;have X3:=xt X2 e3;clear O2 U3 hg2;rw [HNL.out] at T3 ⊢;go_wp2_with fail;refine (HTN.out w3 X3).mono ?_;rintro e w4 ⟨⟨g4,rfl,hg4,O4⟩,e4⟩;have X4:=xt X3 e4;have hs4:Hid (0<N→g4<w4.heap.size):=fun h1=>O4.ltA (HLF.out h1);go_wp2_with fail;refine (HUI.out w4 g4 X4 O4).mono ?_;rintro e w5 ⟨v5,rfl,U5,e5⟩;obtain ⟨b5,T5,hb5⟩:=HOW.out _ _ _ U5;obtain ⟨p5,c5,rfl,_⟩:=ownA_slice U5;rw [HNL.out] at T5 ⊢;have X5:=xt X4 e5;have O5:=O4.later e5;have T35:=(T3.later e4).later e5;have HB:Hid ((0<N→b3<g4∧g4<b5∧w4.heap.size≤b5)∧w.heap.size≤g4∧w.heap.size≤w4.heap.size∧(0<N→b3<w4.heap.size)):=by
   have s3:=X3.size;have s4:=X4.size;have s34:=e4.size;exact ⟨fun h1=>⟨by have:=hb3 h1;omega,by have:=hs4.out h1;have:=hb5 h1;omega,(hb5 h1).1⟩,by omega,by omega,fun h1=>by have:=hb3 h1;omega⟩
  clear O4 U5 T3 hb3 hb5 hs4 hg4;go_wp2_with fail;refine (HQS.out w5 _ _ _ _ T5 T35).mono ?_;rintro e w6 ⟨rfl,e6⟩;have X6:=xt X5 e6;have O6:=O5.later e6;have T56:=T5.later e6;have T36:=T35.later e6;clear O5 T5 T35 X2 X3 X4 X5;go_wp2_with fail;refine (HTN.out w6 X6).mono ?_;rintro e w7 ⟨⟨g7,rfl,_,O7⟩,e7⟩;go_wp2_with fail;refine (HEQ.out w7 g4 g7 (O6.later e7) O7).mono ?_;rintro e w8 ⟨rfl,e8⟩;have X8:=xt (xt X6 e7) e8;have O8:=(O6.later e7).later e8;have T58:=(T56.later e7).later e8;have T38:=(T36.later e7).later e8;clear O6 O7 T56 T36 X6;go_wp2_with fail;refine (HMN.out w8 g4 O8).mono ?_;rintro e w9 ⟨rfl,t9⟩;have X9:=t9.ext w X8 HB.out.2.1;have T59:=T58.turned (fun h1=>Or.inr (HB.out.1 h1).2.1) t9;have T39:=T38.turned (fun h1=>Or.inl (HB.out.1 h1).1) t9;clear O8 T58 T38 X8 t9;go_wp2_with fail;refine (HQS.out w9 _ _ _ _ T59 T39).mono ?_;rintro e w10 ⟨rfl,e10⟩;have X10:=xt X9 e10;have T510:=(T59.later e10).at (base:=w4.heap.size) (fun h1=>(HB.out.1 h1).2.2);have T310:=T39.later e10;clear T59 T39 X9;go_wp2_with fail;refine (HMS.out w10 _ _ T510).mono ?_;rintro e w11 ⟨rfl,⟨M,M11,hM⟩,t11⟩;have X11:Ext w w11:=Below.trans X10 (t11.mono HB.out.2.2.1);have T311:=T310.below HB.out.2.2.2 t11;have HMK:Hid (Marked M N):=hM;clear T510 T310 X10 t11 hM;go_wp2_with fail;refine (HHS.out w11 _ _ M M11 HMK.out).mono ?_;rintro e w12 ⟨rfl,rfl⟩;go_wp2_with fail;refine (HTN.out _ X11).mono ?_;rintro e w13 ⟨⟨g13,rfl,_,O13⟩,e13⟩;have X13:=xt X11 e13;go_wp2_with fail;refine (HUI.out w13 g13 X13 O13).mono ?_;rintro e w14 ⟨v14,rfl,U14,e14⟩;obtain ⟨b14,T14,_⟩:=HOW.out _ _ _ U14;obtain ⟨p14,c14,rfl,_⟩:=ownA_slice U14;rw [HNL.out] at T14 ⊢;have X14:=xt X13 e14;have M14:=(M11.later e13).later e14;have T314:=(T311.later e13).later e14;clear M11 T311 X11 X13 O13 U14;go_wp2_with fail;refine (HQS.out w14 _ _ _ _ T14 T314).mono ?_;rintro e w15 ⟨rfl,e15⟩;have X15:=xt X14 e15;have M15:=M14.later e15;clear M14 T314 T14 X14;go_wp2_with fail;refine (HHS.out w15 _ _ M M15 HMK.out).mono ?_;rintro e w16 ⟨rfl,rfl⟩;go_wp2_with fail;go_ret;exact ⟨rfl,X15⟩
end Go.Proofs.YtcjjobciokfehaaGreatDoor

