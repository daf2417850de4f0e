/-
  Several texts in one: Nm, Nh, Rw0, Rw1.
-/
import Derived.Test.YtnbagcclckekkaaGreatDoorMg40
import Derived.Test.YtnbagcclckekkaaGreatDoorMg2
import Derived.Test.YtnbagcclckekkaaGreatDoorMg13
import Derived.Deep.RegionHeld3
import Derived.Test.YtnbagcclckekkaaGreatDoorAu0
import Derived.Test.YtnbagcclckekkaaGreatDoorMg27
import Derived.Test.YtnbagcclckekkaaGreatDoorFo
import Derived.Lib.AppendZeros
import Derived.RangeFuncNested
import Derived.RangeFuncBox
namespace Go.Proofs.YtnbagcclckekkaaGreatDoor
open Go.RowKit
theorem flat14_at:∀ {L:List NT} {i:Nat} {q:NT},L[i]?=some q→∀ (c:Nat),c<14→(L.flatMap NT.cells)[i * 14+c]?=q.cells[c]?
 | x :: L,0,q,h,c,hc=>by
  cases h;rw [List.flatMap_cons,Nat.zero_mul,Nat.zero_add];exact List.getElem?_append_left hc
 | x :: L,i+1,q,h,c,hc=>by
  have:(i+1) * 14+c=x.cells.length+(i * 14+c):=by show _=14+_;omega
  rw [List.flatMap_cons,this,List.getElem?_append_right (by omega),Nat.add_sub_cancel_left];exact flat14_at (by simpa using h) c hc
theorem flat14_len:∀ (L:List NT),(L.flatMap NT.cells).length=L.length * 14
 | []=>rfl
 | x :: L=>by
  have h:x.cells.length=14:=rfl;rw [List.flatMap_cons,List.length_append,flat14_len L,h];show 14+L.length * 14=(L.length+1) * 14;omega
theorem OwnN.vec {w:World} {g:Nat} {l:List NT} (h:OwnN w g l):Vec w g (l.flatMap NT.cells):=fun j u hu=>by
 have hj:j<l.length * 14:=by rw [← flat14_len];exact (List.getElem?_eq_some_iff.1 hu).1
 obtain ⟨e,he⟩:∃ e,l[j / 14]?=some e:=⟨_,List.getElem?_eq_getElem (by omega)⟩;have e1:j=j / 14 * 14+j % 14:=by omega
 have h2:=flat14_at he (j % 14) (by omega);rw [e1,h2] at hu;have:=h (j / 14) e he (j % 14) u hu;rw [← e1] at this;exact this
set_option maxRecDepth 8000 in
set_option maxHeartbeats 8000000 in
theorem markNodes (g n:Nat) (L:List Value) (k0:Nat) (w:World) (hL:L.length=n * 14) (V:Vec w g L) (hn:n≤1048576) (k1:1≤k0) (k2:k0≤1000) :
  Calls Tryz.prog 12 #[.slice (some ⟨g,0,none⟩) n n,.int .i64 k0] w fun e w'=>e=.returned (.int .i64 ((k0+n * 14:Nat):Int))∧TurnedIn g (g+1) w w':=by
 have H0:Hid (∃ M:List Value,M.length=n * 14∧Vec w g M):=⟨L,hL,V⟩;clear hL V;go_enter Tryz.func12,Tryz.ntmps12;go_wp2_with fail;go_loopw [1,5] (fun q i wr=>∃ k:Nat,k≤n∧i=.int .i64 k∧q=.int .i64 ((k0+k * 14:Nat):Int)∧Hid (∃ M:List Value,M.length=n * 14∧Vec wr g M)∧Hid (TurnedIn g (g+1) w wr)) (fun _ i _=>n - (intOf i).toNat)
 case atStart=>exact ⟨0,by omega,rfl,rfl,H0,TurnedIn.refl _ _ w⟩
 case round =>
  clear H0;obtain ⟨k,hk,rfl,rfl,HM,HT⟩:=hrel;by_cases hlt:k<n
  ·obtain ⟨M,hM,V⟩:=HM.out;have G0:=HT.out;obtain ⟨m,hm⟩:∃ m:Nat,k0+k * 14=m:=⟨_,rfl⟩;have hm':m≤50000000:=by omega
   have hmk:Hid (k0+(k+1) * 14=m+14):=by show _=_;omega
   rw [hm];have i1:(0:Int)≤(k:Int):=by omega
   have i2:(k:Int)<(n:Int):=by omega
   have HMl:Hid (M.length=n * 14):=hM;clear hm HM HT;obtain ⟨a0,f0⟩:=V (k * 14) _ (List.getElem?_eq_getElem (by omega));have V1:=V.put (k * 14) (by omega) (.int .i64 ((m:Int)));have G1:=G0.put g (k * 14) ⟨Nat.le_refl _,Nat.lt_succ_self _⟩ (.int .i64 ((m:Int)));have T1:=fun W=>markTextL (m+1) W (by omega) (by omega);rw [show ((m+1:Nat):Int)=(m:Int)+1 by omega] at T1;clear V G0;go_wp2_with fail;clear a0 f0;refine (T1 _).mono ?_;rintro e w1 ⟨rfl,e1⟩;have V1:=V1.later e1;have G1:=G1.step e1;clear e1 T1;obtain ⟨a1,f1⟩:=V1 (k * 14+1) _ (List.getElem?_eq_getElem (by simp only [List.length_set];omega));obtain ⟨a2,f2⟩:=V1 (k * 14+2) _ (List.getElem?_eq_getElem (by simp only [List.length_set];omega));obtain ⟨a3,f3⟩:=V1 (k * 14+3) _ (List.getElem?_eq_getElem (by simp only [List.length_set];omega));obtain ⟨a4,f4⟩:=V1 (k * 14+4) _ (List.getElem?_eq_getElem (by simp only [List.length_set];omega));obtain ⟨a5,f5⟩:=V1 (k * 14+5) _ (List.getElem?_eq_getElem (by simp only [List.length_set];omega));obtain ⟨a6,f6⟩:=V1 (k * 14+6) _ (List.getElem?_eq_getElem (by simp only [List.length_set];omega));obtain ⟨a7,f7⟩:=V1 (k * 14+7) _ (List.getElem?_eq_getElem (by simp only [List.length_set];omega));obtain ⟨a8,f8⟩:=V1 (k * 14+8) _ (List.getElem?_eq_getElem (by simp only [List.length_set];omega));obtain ⟨a9,f9⟩:=V1 (k * 14+9) _ (List.getElem?_eq_getElem (by simp only [List.length_set];omega));obtain ⟨a10,f10⟩:=V1 (k * 14+10) _ (List.getElem?_eq_getElem (by simp only [List.length_set];omega));obtain ⟨a11,f11⟩:=V1 (k * 14+11) _ (List.getElem?_eq_getElem (by simp only [List.length_set];omega));obtain ⟨a12,f12⟩:=V1 (k * 14+12) _ (List.getElem?_eq_getElem (by simp only [List.length_set];omega));obtain ⟨a13,f13⟩:=V1 (k * 14+13) _ (List.getElem?_eq_getElem (by simp only [List.length_set];omega));have V2:=V1.put (k * 14+1) (by simp only [List.length_set];omega) (sV (markT (m+1)));have G2:=G1.put g (k * 14+1) ⟨Nat.le_refl _,Nat.lt_succ_self _⟩ (sV (markT (m+1)));have V3:=V2.put (k * 14+2) (by simp only [List.length_set];omega) (.bool (((m:Int)+1+1) % 3 == 0));have G3:=G2.put g (k * 14+2) ⟨Nat.le_refl _,Nat.lt_succ_self _⟩ (.bool (((m:Int)+1+1) % 3 == 0));have V4:=V3.put (k * 14+3) (by simp only [List.length_set];omega) (.int .i64 ((m:Int)+1+1+1));have G4:=G3.put g (k * 14+3) ⟨Nat.le_refl _,Nat.lt_succ_self _⟩ (.int .i64 ((m:Int)+1+1+1));have V5:=V4.put (k * 14+4) (by simp only [List.length_set];omega) (.int .i64 ((m:Int)+1+1+1+1));have G5:=G4.put g (k * 14+4) ⟨Nat.le_refl _,Nat.lt_succ_self _⟩ (.int .i64 ((m:Int)+1+1+1+1));have V6:=V5.put (k * 14+5) (by simp only [List.length_set];omega) (.int .i64 ((m:Int)+1+1+1+1+1));have G6:=G5.put g (k * 14+5) ⟨Nat.le_refl _,Nat.lt_succ_self _⟩ (.int .i64 ((m:Int)+1+1+1+1+1));have V7:=V6.put (k * 14+6) (by simp only [List.length_set];omega) (.int .i64 ((m:Int)+1+1+1+1+1+1));have G7:=G6.put g (k * 14+6) ⟨Nat.le_refl _,Nat.lt_succ_self _⟩ (.int .i64 ((m:Int)+1+1+1+1+1+1));have V8:=V7.put (k * 14+7) (by simp only [List.length_set];omega) (.bool (((m:Int)+1+1+1+1+1+1+1) % 3 == 0));have G8:=G7.put g (k * 14+7) ⟨Nat.le_refl _,Nat.lt_succ_self _⟩ (.bool (((m:Int)+1+1+1+1+1+1+1) % 3 == 0));have V9:=V8.put (k * 14+8) (by simp only [List.length_set];omega) (.bool (((m:Int)+1+1+1+1+1+1+1+1) % 3 == 0));have G9:=G8.put g (k * 14+8) ⟨Nat.le_refl _,Nat.lt_succ_self _⟩ (.bool (((m:Int)+1+1+1+1+1+1+1+1) % 3 == 0));have V10:=V9.put (k * 14+9) (by simp only [List.length_set];omega) (.int .i64 ((m:Int)+1+1+1+1+1+1+1+1+1));have G10:=G9.put g (k * 14+9) ⟨Nat.le_refl _,Nat.lt_succ_self _⟩ (.int .i64 ((m:Int)+1+1+1+1+1+1+1+1+1));have V11:=V10.put (k * 14+10) (by simp only [List.length_set];omega) (.int .i64 ((m:Int)+1+1+1+1+1+1+1+1+1+1));have G11:=G10.put g (k * 14+10) ⟨Nat.le_refl _,Nat.lt_succ_self _⟩ (.int .i64 ((m:Int)+1+1+1+1+1+1+1+1+1+1));have V12:=V11.put (k * 14+11) (by simp only [List.length_set];omega) (.bool (((m:Int)+1+1+1+1+1+1+1+1+1+1+1) % 3 == 0));have G12:=G11.put g (k * 14+11) ⟨Nat.le_refl _,Nat.lt_succ_self _⟩ (.bool (((m:Int)+1+1+1+1+1+1+1+1+1+1+1) % 3 == 0));have V13:=V12.put (k * 14+12) (by simp only [List.length_set];omega) (.bool (((m:Int)+1+1+1+1+1+1+1+1+1+1+1+1) % 3 == 0));have G13:=G12.put g (k * 14+12) ⟨Nat.le_refl _,Nat.lt_succ_self _⟩ (.bool (((m:Int)+1+1+1+1+1+1+1+1+1+1+1+1) % 3 == 0));have V14:=V13.put (k * 14+13) (by simp only [List.length_set];omega) (.int .i64 ((m:Int)+1+1+1+1+1+1+1+1+1+1+1+1+1));have G14:=G13.put g (k * 14+13) ⟨Nat.le_refl _,Nat.lt_succ_self _⟩ (.int .i64 ((m:Int)+1+1+1+1+1+1+1+1+1+1+1+1+1));obtain ⟨wf,hwf⟩:∃ wf,((((((((((((w1.setCell ⟨g,k * 14+1,none⟩ (sV (markT (m+1)))).setCell ⟨g,k * 14+2,none⟩ (.bool (((m:Int)+1+1) % 3 == 0))).setCell ⟨g,k * 14+3,none⟩ (.int .i64 ((m:Int)+1+1+1))).setCell ⟨g,k * 14+4,none⟩ (.int .i64 ((m:Int)+1+1+1+1))).setCell ⟨g,k * 14+5,none⟩ (.int .i64 ((m:Int)+1+1+1+1+1))).setCell ⟨g,k * 14+6,none⟩ (.int .i64 ((m:Int)+1+1+1+1+1+1))).setCell ⟨g,k * 14+7,none⟩ (.bool (((m:Int)+1+1+1+1+1+1+1) % 3 == 0))).setCell ⟨g,k * 14+8,none⟩ (.bool (((m:Int)+1+1+1+1+1+1+1+1) % 3 == 0))).setCell ⟨g,k * 14+9,none⟩ (.int .i64 ((m:Int)+1+1+1+1+1+1+1+1+1))).setCell ⟨g,k * 14+10,none⟩ (.int .i64 ((m:Int)+1+1+1+1+1+1+1+1+1+1))).setCell ⟨g,k * 14+11,none⟩ (.bool (((m:Int)+1+1+1+1+1+1+1+1+1+1+1) % 3 == 0))).setCell ⟨g,k * 14+12,none⟩ (.bool (((m:Int)+1+1+1+1+1+1+1+1+1+1+1+1) % 3 == 0))).setCell ⟨g,k * 14+13,none⟩ (.int .i64 ((m:Int)+1+1+1+1+1+1+1+1+1+1+1+1+1))=wf:=⟨_,rfl⟩;have HWF:Hid (((((((((((((w1.setCell ⟨g,k * 14+1,none⟩ (sV (markT (m+1)))).setCell ⟨g,k * 14+2,none⟩ (.bool (((m:Int)+1+1) % 3 == 0))).setCell ⟨g,k * 14+3,none⟩ (.int .i64 ((m:Int)+1+1+1))).setCell ⟨g,k * 14+4,none⟩ (.int .i64 ((m:Int)+1+1+1+1))).setCell ⟨g,k * 14+5,none⟩ (.int .i64 ((m:Int)+1+1+1+1+1))).setCell ⟨g,k * 14+6,none⟩ (.int .i64 ((m:Int)+1+1+1+1+1+1))).setCell ⟨g,k * 14+7,none⟩ (.bool (((m:Int)+1+1+1+1+1+1+1) % 3 == 0))).setCell ⟨g,k * 14+8,none⟩ (.bool (((m:Int)+1+1+1+1+1+1+1+1) % 3 == 0))).setCell ⟨g,k * 14+9,none⟩ (.int .i64 ((m:Int)+1+1+1+1+1+1+1+1+1))).setCell ⟨g,k * 14+10,none⟩ (.int .i64 ((m:Int)+1+1+1+1+1+1+1+1+1+1))).setCell ⟨g,k * 14+11,none⟩ (.bool (((m:Int)+1+1+1+1+1+1+1+1+1+1+1) % 3 == 0))).setCell ⟨g,k * 14+12,none⟩ (.bool (((m:Int)+1+1+1+1+1+1+1+1+1+1+1+1) % 3 == 0))).setCell ⟨g,k * 14+13,none⟩ (.int .i64 ((m:Int)+1+1+1+1+1+1+1+1+1+1+1+1+1))=wf):=hwf;rw [hwf] at V14 G14;have HF:Hid (∃ M:List Value,M.length=n * 14∧Vec wf g M):=⟨_,by simp only [List.length_set];exact HMl.out,V14⟩;have HG:Hid (TurnedIn g (g+1) w wf):=G14;clear V1 G1 V2 G2 V3 G3 V4 G4 V5 G5 V6 G6 V7 G7 V8 G8 V9 G9 V10 G10 V11 G11 V12 G12 V13 G13 V14 G14 hwf;go_wp2_with fail;rw [HWF.out];go_roundw
   case rel=>exact ⟨k+1,by omega,by go_num,by rw [hmk.out];go_num,HF,HG⟩
   case measure=>simp [intOf];omega
  ·obtain rfl:k=n:=by omega
   go_wp2_with fail;go_ret;exact ⟨rfl,HT.out⟩
def markNT (m:Nat):NT:=⟨(m:Int),markT (m+1),((m:Int)+1+1) % 3 == 0,(m:Int)+1+1+1,(m:Int)+1+1+1+1,(m:Int)+1+1+1+1+1,(m:Int)+1+1+1+1+1+1,((m:Int)+1+1+1+1+1+1+1) % 3 == 0,((m:Int)+1+1+1+1+1+1+1+1) % 3 == 0,(m:Int)+1+1+1+1+1+1+1+1+1,(m:Int)+1+1+1+1+1+1+1+1+1+1,((m:Int)+1+1+1+1+1+1+1+1+1+1+1) % 3 == 0,((m:Int)+1+1+1+1+1+1+1+1+1+1+1+1) % 3 == 0,(m:Int)+1+1+1+1+1+1+1+1+1+1+1+1+1⟩
def MarkedN (M:List Value) (k0 n:Nat):Prop:=∀ i,i<n→∀ j,j<14→M[i * 14+j]?=(markNT (k0+i * 14)).cells[j]?
theorem setsN_length (us:List Value):∀ (M:List Value) (o:Nat),(setsN M o us).length=M.length:=by
 induction us with
 | nil=>intro M o;rfl
 | cons u us ih=>intro M o;unfold setsN;rw [ih];simp
theorem setsN_far (us:List Value):∀ (M:List Value) (o i:Nat),i<o→(setsN M o us)[i]?=M[i]?:=by
 induction us with
 | nil=>intro M o i _;rfl
 | cons u us ih=>intro M o i h;unfold setsN;rw [ih _ _ _ (by omega),List.getElem?_set_ne (by omega)]
theorem setsN_at (us:List Value):∀ (M:List Value) (o j:Nat),o+us.length≤M.length→j<us.length→(setsN M o us)[o+j]?=us[j]?:=by
 induction us with
 | nil=>intro M o j _ h;cases h
 | cons u us ih =>
  intro M o j h hj;simp at h hj;unfold setsN;cases j with
  | zero=>rw [setsN_far _ _ _ _ (by omega),Nat.add_zero,List.getElem?_set_self (by omega)];rfl
  | succ j =>
   rw [show o+(j+1)=(o+1)+j by omega,ih _ _ _ (by simp;omega) (by omega)];rfl
theorem MarkedN.next {M:List Value} {k0 k n:Nat} (h:MarkedN M k0 k) (hM:M.length=n * 14) (hk:k<n) (m:Nat) (hm:k0+k * 14=m):MarkedN (setsN M (k * 14) (markNT m).cells) k0 (k+1):=by
 intro i hi j hj;by_cases e:i=k
 ·subst e;rw [setsN_at _ _ _ _ (by show i * 14+14≤_;omega) hj,hm]
 ·rw [setsN_far _ _ _ _ (by omega)];exact h i (by omega) j hj
def NodesB (w:World) (v:Value) (n:Nat) (M:List Value) (g:Nat):Prop:=
 M.length=n * 14∧∃ p cap,v=.slice p n cap∧n≤cap∧(0<n→p=some ⟨g,0,none⟩∧Vec w g M)
theorem NodesB.later {w w':World} {v:Value} {n:Nat} {M:List Value} {g:Nat} (h:NodesB w v n M g) (x:Ext w w'):NodesB w' v n M g:=by
 obtain ⟨h1,p,cap,h3,hc,h4⟩:=h;exact ⟨h1,p,cap,h3,hc,fun h0=>⟨(h4 h0).1,(h4 h0).2.later x⟩⟩
theorem NodesB.turned {w w':World} {v:Value} {n:Nat} {M:List Value} {g lo hi:Nat} (h:NodesB w v n M g) (hb:0<n→g<lo∨hi≤g) (t:TurnedIn lo hi w w'):NodesB w' v n M g:=by
 obtain ⟨h1,p,cap,h3,hc,h4⟩:=h;exact ⟨h1,p,cap,h3,hc,fun h0=>⟨(h4 h0).1,t.vec g _ (hb h0) (h4 h0).2⟩⟩
theorem NodesB.nodes {w:World} {v:Value} {l:List NT} {g:Nat} (h:NodesB w v l.length (l.flatMap NT.cells) g):NodesIn w v l:=by
 obtain ⟨h1,p,cap,h3,hc,h4⟩:=h;refine ⟨p,cap,h3,hc,fun h0=>?_⟩;obtain ⟨h5,V⟩:=h4 h0;refine ⟨g,0,h5,fun i e hi c u hcu=>?_⟩;have:=(V (i * 14+c) u (by rw [flat14_at hi c (ncells_lt hcu)];exact hcu)).1;rw [Nat.zero_add];exact this
set_option maxRecDepth 8000 in
set_option maxHeartbeats 8000000 in
theorem markNodesB (v:Value) (n:Nat) (L:List Value) (g k0:Nat) (w:World) (h:NodesB w v n L g) (hn:n≤1048576) (k1:1≤k0) (k2:k0≤1000) :
  Calls Tryz.prog 12 #[v,.int .i64 k0] w fun e w'=>e=.returned (.int .i64 ((k0+n * 14:Nat):Int))∧(∃ M,NodesB w' v n M g∧MarkedN M k0 n)∧TurnedIn g (g+1) w w':=by
 obtain ⟨hL,p,cap,rfl,hcap,hp⟩:=h;have H0:Hid (∃ M:List Value,M.length=n * 14∧MarkedN M k0 0∧(0<n→Vec w g M)):=⟨L,hL,fun i hi=>absurd hi (by omega),fun h0=>(hp h0).2⟩;have HP:Hid (0<n→p=some ⟨g,0,none⟩):=fun h0=>(hp h0).1;clear hL hp;go_enter Tryz.func12,Tryz.ntmps12;go_wp2_with fail;go_loopw [1,5] (fun q i wr=>∃ k:Nat,k≤n∧i=.int .i64 k∧q=.int .i64 ((k0+k * 14:Nat):Int)∧Hid (∃ M:List Value,M.length=n * 14∧MarkedN M k0 k∧(0<n→Vec wr g M))∧Hid (TurnedIn g (g+1) w wr)) (fun _ i _=>n - (intOf i).toNat)
 case atStart=>exact ⟨0,by omega,rfl,rfl,H0,TurnedIn.refl _ _ w⟩
 case round =>
  clear H0;obtain ⟨k,hk,rfl,rfl,HM,HT⟩:=hrel;by_cases hlt:k<n
  ·obtain rfl:=HP.out (by omega);obtain ⟨M,hM,hMK,V⟩:=HM.out;have V:=V (by omega);have G0:=HT.out;obtain ⟨m,hm⟩:∃ m:Nat,k0+k * 14=m:=⟨_,rfl⟩;have HMN:Hid (MarkedN (setsN M (k * 14) (markNT m).cells) k0 (k+1)):=hMK.next hM hlt m hm;have hm':m≤50000000:=by omega
   have hmk:Hid (k0+(k+1) * 14=m+14):=by show _=_;omega
   rw [hm];have i1:(0:Int)≤(k:Int):=by omega
   have i2:(k:Int)<(n:Int):=by omega
   have HMl:Hid (M.length=n * 14):=hM;clear hm HM HT hMK;obtain ⟨a0,f0⟩:=V (k * 14) _ (List.getElem?_eq_getElem (by omega));have V1:=V.put (k * 14) (by omega) (.int .i64 ((m:Int)));have G1:=G0.put g (k * 14) ⟨Nat.le_refl _,Nat.lt_succ_self _⟩ (.int .i64 ((m:Int)));have T1:=fun W=>markTextL (m+1) W (by omega) (by omega);rw [show ((m+1:Nat):Int)=(m:Int)+1 by omega] at T1;clear V G0;go_wp2_with fail;clear a0 f0;refine (T1 _).mono ?_;rintro e w1 ⟨rfl,e1⟩;have V1:=V1.later e1;have G1:=G1.step e1;clear e1 T1;obtain ⟨a1,f1⟩:=V1 (k * 14+1) _ (List.getElem?_eq_getElem (by simp only [List.length_set];omega));obtain ⟨a2,f2⟩:=V1 (k * 14+2) _ (List.getElem?_eq_getElem (by simp only [List.length_set];omega));obtain ⟨a3,f3⟩:=V1 (k * 14+3) _ (List.getElem?_eq_getElem (by simp only [List.length_set];omega));obtain ⟨a4,f4⟩:=V1 (k * 14+4) _ (List.getElem?_eq_getElem (by simp only [List.length_set];omega));obtain ⟨a5,f5⟩:=V1 (k * 14+5) _ (List.getElem?_eq_getElem (by simp only [List.length_set];omega));obtain ⟨a6,f6⟩:=V1 (k * 14+6) _ (List.getElem?_eq_getElem (by simp only [List.length_set];omega));obtain ⟨a7,f7⟩:=V1 (k * 14+7) _ (List.getElem?_eq_getElem (by simp only [List.length_set];omega));obtain ⟨a8,f8⟩:=V1 (k * 14+8) _ (List.getElem?_eq_getElem (by simp only [List.length_set];omega));obtain ⟨a9,f9⟩:=V1 (k * 14+9) _ (List.getElem?_eq_getElem (by simp only [List.length_set];omega));obtain ⟨a10,f10⟩:=V1 (k * 14+10) _ (List.getElem?_eq_getElem (by simp only [List.length_set];omega));obtain ⟨a11,f11⟩:=V1 (k * 14+11) _ (List.getElem?_eq_getElem (by simp only [List.length_set];omega));obtain ⟨a12,f12⟩:=V1 (k * 14+12) _ (List.getElem?_eq_getElem (by simp only [List.length_set];omega));obtain ⟨a13,f13⟩:=V1 (k * 14+13) _ (List.getElem?_eq_getElem (by simp only [List.length_set];omega));have V2:=V1.put (k * 14+1) (by simp only [List.length_set];omega) (sV (markT (m+1)));have G2:=G1.put g (k * 14+1) ⟨Nat.le_refl _,Nat.lt_succ_self _⟩ (sV (markT (m+1)));have V3:=V2.put (k * 14+2) (by simp only [List.length_set];omega) (.bool (((m:Int)+1+1) % 3 == 0));have G3:=G2.put g (k * 14+2) ⟨Nat.le_refl _,Nat.lt_succ_self _⟩ (.bool (((m:Int)+1+1) % 3 == 0));have V4:=V3.put (k * 14+3) (by simp only [List.length_set];omega) (.int .i64 ((m:Int)+1+1+1));have G4:=G3.put g (k * 14+3) ⟨Nat.le_refl _,Nat.lt_succ_self _⟩ (.int .i64 ((m:Int)+1+1+1));have V5:=V4.put (k * 14+4) (by simp only [List.length_set];omega) (.int .i64 ((m:Int)+1+1+1+1));have G5:=G4.put g (k * 14+4) ⟨Nat.le_refl _,Nat.lt_succ_self _⟩ (.int .i64 ((m:Int)+1+1+1+1));have V6:=V5.put (k * 14+5) (by simp only [List.length_set];omega) (.int .i64 ((m:Int)+1+1+1+1+1));have G6:=G5.put g (k * 14+5) ⟨Nat.le_refl _,Nat.lt_succ_self _⟩ (.int .i64 ((m:Int)+1+1+1+1+1));have V7:=V6.put (k * 14+6) (by simp only [List.length_set];omega) (.int .i64 ((m:Int)+1+1+1+1+1+1));have G7:=G6.put g (k * 14+6) ⟨Nat.le_refl _,Nat.lt_succ_self _⟩ (.int .i64 ((m:Int)+1+1+1+1+1+1));have V8:=V7.put (k * 14+7) (by simp only [List.length_set];omega) (.bool (((m:Int)+1+1+1+1+1+1+1) % 3 == 0));have G8:=G7.put g (k * 14+7) ⟨Nat.le_refl _,Nat.lt_succ_self _⟩ (.bool (((m:Int)+1+1+1+1+1+1+1) % 3 == 0));have V9:=V8.put (k * 14+8) (by simp only [List.length_set];omega) (.bool (((m:Int)+1+1+1+1+1+1+1+1) % 3 == 0));have G9:=G8.put g (k * 14+8) ⟨Nat.le_refl _,Nat.lt_succ_self _⟩ (.bool (((m:Int)+1+1+1+1+1+1+1+1) % 3 == 0));have V10:=V9.put (k * 14+9) (by simp only [List.length_set];omega) (.int .i64 ((m:Int)+1+1+1+1+1+1+1+1+1));have G10:=G9.put g (k * 14+9) ⟨Nat.le_refl _,Nat.lt_succ_self _⟩ (.int .i64 ((m:Int)+1+1+1+1+1+1+1+1+1));have V11:=V10.put (k * 14+10) (by simp only [List.length_set];omega) (.int .i64 ((m:Int)+1+1+1+1+1+1+1+1+1+1));have G11:=G10.put g (k * 14+10) ⟨Nat.le_refl _,Nat.lt_succ_self _⟩ (.int .i64 ((m:Int)+1+1+1+1+1+1+1+1+1+1));have V12:=V11.put (k * 14+11) (by simp only [List.length_set];omega) (.bool (((m:Int)+1+1+1+1+1+1+1+1+1+1+1) % 3 == 0));have G12:=G11.put g (k * 14+11) ⟨Nat.le_refl _,Nat.lt_succ_self _⟩ (.bool (((m:Int)+1+1+1+1+1+1+1+1+1+1+1) % 3 == 0));have V13:=V12.put (k * 14+12) (by simp only [List.length_set];omega) (.bool (((m:Int)+1+1+1+1+1+1+1+1+1+1+1+1) % 3 == 0));have G13:=G12.put g (k * 14+12) ⟨Nat.le_refl _,Nat.lt_succ_self _⟩ (.bool (((m:Int)+1+1+1+1+1+1+1+1+1+1+1+1) % 3 == 0));have V14:=V13.put (k * 14+13) (by simp only [List.length_set];omega) (.int .i64 ((m:Int)+1+1+1+1+1+1+1+1+1+1+1+1+1));have G14:=G13.put g (k * 14+13) ⟨Nat.le_refl _,Nat.lt_succ_self _⟩ (.int .i64 ((m:Int)+1+1+1+1+1+1+1+1+1+1+1+1+1));obtain ⟨wf,hwf⟩:∃ wf,((((((((((((w1.setCell ⟨g,k * 14+1,none⟩ (sV (markT (m+1)))).setCell ⟨g,k * 14+2,none⟩ (.bool (((m:Int)+1+1) % 3 == 0))).setCell ⟨g,k * 14+3,none⟩ (.int .i64 ((m:Int)+1+1+1))).setCell ⟨g,k * 14+4,none⟩ (.int .i64 ((m:Int)+1+1+1+1))).setCell ⟨g,k * 14+5,none⟩ (.int .i64 ((m:Int)+1+1+1+1+1))).setCell ⟨g,k * 14+6,none⟩ (.int .i64 ((m:Int)+1+1+1+1+1+1))).setCell ⟨g,k * 14+7,none⟩ (.bool (((m:Int)+1+1+1+1+1+1+1) % 3 == 0))).setCell ⟨g,k * 14+8,none⟩ (.bool (((m:Int)+1+1+1+1+1+1+1+1) % 3 == 0))).setCell ⟨g,k * 14+9,none⟩ (.int .i64 ((m:Int)+1+1+1+1+1+1+1+1+1))).setCell ⟨g,k * 14+10,none⟩ (.int .i64 ((m:Int)+1+1+1+1+1+1+1+1+1+1))).setCell ⟨g,k * 14+11,none⟩ (.bool (((m:Int)+1+1+1+1+1+1+1+1+1+1+1) % 3 == 0))).setCell ⟨g,k * 14+12,none⟩ (.bool (((m:Int)+1+1+1+1+1+1+1+1+1+1+1+1) % 3 == 0))).setCell ⟨g,k * 14+13,none⟩ (.int .i64 ((m:Int)+1+1+1+1+1+1+1+1+1+1+1+1+1))=wf:=⟨_,rfl⟩;have HWF:Hid (((((((((((((w1.setCell ⟨g,k * 14+1,none⟩ (sV (markT (m+1)))).setCell ⟨g,k * 14+2,none⟩ (.bool (((m:Int)+1+1) % 3 == 0))).setCell ⟨g,k * 14+3,none⟩ (.int .i64 ((m:Int)+1+1+1))).setCell ⟨g,k * 14+4,none⟩ (.int .i64 ((m:Int)+1+1+1+1))).setCell ⟨g,k * 14+5,none⟩ (.int .i64 ((m:Int)+1+1+1+1+1))).setCell ⟨g,k * 14+6,none⟩ (.int .i64 ((m:Int)+1+1+1+1+1+1))).setCell ⟨g,k * 14+7,none⟩ (.bool (((m:Int)+1+1+1+1+1+1+1) % 3 == 0))).setCell ⟨g,k * 14+8,none⟩ (.bool (((m:Int)+1+1+1+1+1+1+1+1) % 3 == 0))).setCell ⟨g,k * 14+9,none⟩ (.int .i64 ((m:Int)+1+1+1+1+1+1+1+1+1))).setCell ⟨g,k * 14+10,none⟩ (.int .i64 ((m:Int)+1+1+1+1+1+1+1+1+1+1))).setCell ⟨g,k * 14+11,none⟩ (.bool (((m:Int)+1+1+1+1+1+1+1+1+1+1+1) % 3 == 0))).setCell ⟨g,k * 14+12,none⟩ (.bool (((m:Int)+1+1+1+1+1+1+1+1+1+1+1+1) % 3 == 0))).setCell ⟨g,k * 14+13,none⟩ (.int .i64 ((m:Int)+1+1+1+1+1+1+1+1+1+1+1+1+1))=wf):=hwf;rw [hwf] at V14 G14;have VF:Vec wf g (setsN M (k * 14) (markNT m).cells):=V14;have HF:Hid (∃ M:List Value,M.length=n * 14∧MarkedN M k0 (k+1)∧(0<n→Vec wf g M)):=⟨_,(setsN_length _ _ _).trans HMl.out,HMN.out,fun _=>VF⟩;have HG:Hid (TurnedIn g (g+1) w wf):=G14;clear V1 G1 V2 G2 V3 G3 V4 G4 V5 G5 V6 G6 V7 G7 V8 G8 V9 G9 V10 G10 V11 G11 V12 G12 V13 G13 V14 G14 hwf VF HMN;go_wp2_with fail;rw [HWF.out];go_roundw
   case rel=>exact ⟨k+1,by omega,by go_num,by rw [hmk.out];go_num,HF,HG⟩
   case measure=>simp [intOf];omega
  ·obtain rfl:k=n:=by omega
   go_wp2_with fail;go_ret;obtain ⟨M,hM,hMK,V⟩:=HM.out;exact ⟨rfl,⟨M,⟨hM,p,cap,rfl,hcap,fun h0=>⟨HP.out h0,V h0⟩⟩,hMK⟩,HT.out⟩
set_option maxRecDepth 8000 in
set_option maxHeartbeats 8000000 in
theorem heldNodesB (v:Value) (n:Nat) (M:List Value) (g k0:Nat) (w:World) (h:NodesB w v n M g) (hM:MarkedN M k0 n) (hn:n≤1048576) (k1:1≤k0) (k2:k0≤1000) :
  Calls Tryz.prog 13 #[v,.int .i64 k0] w fun e w'=>e=.returned (.int .i64 ((k0+n * 14:Nat):Int))∧Ext w w':=by
 obtain ⟨hL,p,cap,rfl,hcap,hp⟩:=h;have H1:Hid (MarkedN M k0 n):=hM;have H2:Hid (0<n→p=some ⟨g,0,none⟩∧Vec w g M):=hp;clear hL hp hM;go_enter Tryz.func13,Tryz.ntmps13;go_wp2_with fail;go_loopw [1,5] (fun q i wr=>∃ k:Nat,k≤n∧i=.int .i64 k∧q=.int .i64 ((k0+k * 14:Nat):Int)∧Ext w wr) (fun _ i _=>n - (intOf i).toNat)
 case atStart=>exact ⟨0,by omega,rfl,rfl,xr _⟩
 case round =>
  obtain ⟨k,hk,rfl,rfl,X0⟩:=hrel;by_cases hlt:k<n
  ·obtain ⟨rfl,V0⟩:=H2.out (by omega);have F:=H1.out k hlt;obtain ⟨m,hm⟩:∃ m:Nat,k0+k * 14=m:=⟨_,rfl⟩;have hm':m≤50000000:=by omega
   have hmk:Hid (k0+(k+1) * 14=m+14):=by show _=_;omega
   rw [hm] at F ⊢;have T1:=fun W=>markTextL (m+1) W (by omega) (by omega);rw [show ((m+1:Nat):Int)=(m:Int)+1 by omega] at T1;obtain ⟨tx1,htx1⟩:∃ tx,markT (m+1)=tx:=⟨_,rfl⟩;simp only [htx1] at T1;have hp1:(tx1 == tx1)=true:=by simp
   have HA:Hid (∀ W,Ext wr W→W.cell? ⟨g,k * 14,none⟩=some (.int .i64 ((m:Int)))∧W.cell? ⟨g,k * 14+1,none⟩=some (sV tx1)∧W.cell? ⟨g,k * 14+2,none⟩=some (.bool (((m:Int)+1+1) % 3 == 0))∧W.cell? ⟨g,k * 14+3,none⟩=some (.int .i64 ((m:Int)+1+1+1))∧W.cell? ⟨g,k * 14+4,none⟩=some (.int .i64 ((m:Int)+1+1+1+1))∧W.cell? ⟨g,k * 14+5,none⟩=some (.int .i64 ((m:Int)+1+1+1+1+1))∧W.cell? ⟨g,k * 14+6,none⟩=some (.int .i64 ((m:Int)+1+1+1+1+1+1))∧W.cell? ⟨g,k * 14+7,none⟩=some (.bool (((m:Int)+1+1+1+1+1+1+1) % 3 == 0))∧W.cell? ⟨g,k * 14+8,none⟩=some (.bool (((m:Int)+1+1+1+1+1+1+1+1) % 3 == 0))∧W.cell? ⟨g,k * 14+9,none⟩=some (.int .i64 ((m:Int)+1+1+1+1+1+1+1+1+1))∧W.cell? ⟨g,k * 14+10,none⟩=some (.int .i64 ((m:Int)+1+1+1+1+1+1+1+1+1+1))∧W.cell? ⟨g,k * 14+11,none⟩=some (.bool (((m:Int)+1+1+1+1+1+1+1+1+1+1+1) % 3 == 0))∧W.cell? ⟨g,k * 14+12,none⟩=some (.bool (((m:Int)+1+1+1+1+1+1+1+1+1+1+1+1) % 3 == 0))∧W.cell? ⟨g,k * 14+13,none⟩=some (.int .i64 ((m:Int)+1+1+1+1+1+1+1+1+1+1+1+1+1))):=fun W e=>by
    have V:=(V0.later X0).later e;have q1:=(V (k * 14+1) _ (F 1 (by omega))).1;exact ⟨(V (k * 14+0) _ (F 0 (by omega))).1,by rw [← htx1];exact q1,(V (k * 14+2) _ (F 2 (by omega))).1,(V (k * 14+3) _ (F 3 (by omega))).1,(V (k * 14+4) _ (F 4 (by omega))).1,(V (k * 14+5) _ (F 5 (by omega))).1,(V (k * 14+6) _ (F 6 (by omega))).1,(V (k * 14+7) _ (F 7 (by omega))).1,(V (k * 14+8) _ (F 8 (by omega))).1,(V (k * 14+9) _ (F 9 (by omega))).1,(V (k * 14+10) _ (F 10 (by omega))).1,(V (k * 14+11) _ (F 11 (by omega))).1,(V (k * 14+12) _ (F 12 (by omega))).1,(V (k * 14+13) _ (F 13 (by omega))).1⟩
   have i1:(0:Int)≤(k:Int):=by omega
   have i2:(k:Int)<(n:Int):=by omega
   clear V0 F htx1 hm;obtain ⟨a0,a1,a2,a3,a4,a5,a6,a7,a8,a9,a10,a11,a12,a13⟩:=HA.out wr (xr _);clear a2 a3 a4 a5 a6 a7 a8 a9 a10 a11 a12 a13;go_wp2_with fail;clear a0;go_region_held3 (fun w'=>w'.cell? ⟨g,k * 14+1,none⟩=some (sV tx1)) (go_keep)
    (first
     | (go_at_call 31;refine (T1 _).mono ?_;rintro e v1 ⟨rfl,E1⟩;have Y1:=xt (xd (xr _)) E1;have r1:=cell_later Y1 a1))
   obtain ⟨_,_,a2,a3,a4,a5,a6,a7,a8,a9,a10,a11,a12,a13⟩:=HA.out v1 Y1;clear a1 r1;go_wp2_with fail;go_roundw
   case rel=>exact ⟨k+1,by omega,by go_num,by rw [hmk.out];go_num,xt X0 Y1⟩
   case measure=>simp [intOf];omega
  ·obtain rfl:k=n:=by omega
   go_wp2_with fail;go_ret;exact ⟨rfl,X0⟩
def lostNT:NT:=⟨4,[35,82,69,70,33],false,0,0,0,0,false,false,0,0,false,false,0⟩
structure AT where
 r:Int
 c:Int
 f:Bool
 g:Bool
 r2:Int
 c2:Int
 f2:Bool
 g2:Bool
abbrev AT.val (a:AT):Value:=.agg #[.int .i64 a.r,.int .i64 a.c,.bool a.f,.bool a.g,.int .i64 a.r2,.int .i64 a.c2,.bool a.f2,.bool a.g2]
def NT.at (x:NT):AT:=⟨x.r,x.c,x.f,x.g,x.er,x.ec,x.ef,x.eg⟩
def backN (k:Int) (a:AT):NT:=if k=5 then ⟨5,[],false,0,0,a.r,a.c,a.f,a.g,0,0,false,false,0⟩ else ⟨6,[],false,0,0,a.r,a.c,a.f,a.g,a.r2,a.c2,a.f2,a.g2,0⟩
def toldN (k:Int):Option AT→NT
 | none=>lostNT
 | some a=>backN k a
def rwN (T:AT→Option AT) (x:NT):NT:=if x.k=5∨x.k=6 then toldN x.k (T x.at) else x
def rwP (T:AT→Option AT) {f:List NT} (ys:List (YA f)):List NT:=ys.foldl (fun l y=>l.set y.i (rwN T y.x)) f
theorem rwP_snoc (T:AT→Option AT) {f:List NT} (ys:List (YA f)) (y:YA f):rwP T (ys++[y])=(rwP T ys).set y.i (rwN T y.x):=by
 unfold rwP;rw [List.foldl_append];rfl
theorem rwP_len (T:AT→Option AT) {f:List NT} (ys:List (YA f)):(rwP T ys).length=f.length:=by
 unfold rwP;have:∀ (ys:List (YA f)) (l:List NT),(ys.foldl (fun l y=>l.set y.i (rwN T y.x)) l).length=l.length:=by
  intro ys
  induction ys with
  | nil=>intro l;rfl
  | cons y ys ih=>intro l;rw [List.foldl_cons,ih,List.length_set]
 exact this ys f
theorem rwP_take (T:AT→Option AT) (f:List NT):∀ k,k≤f.length→rwP T (adrT f k)=(f.take k).map (rwN T)++f.drop k
 | 0,_=>by rw [List.take_zero,List.drop_zero];rfl
 | k+1,h=>by
  obtain ⟨x,hx⟩:∃ x,f[k]?=some x:=⟨_,List.getElem?_eq_getElem (by omega)⟩;have ih:=rwP_take T f k (by omega);have hd:f.drop k=x :: f.drop (k+1):=by
   rw [List.drop_eq_getElem_cons (by omega)]
   congr 1
   rw [List.getElem?_eq_getElem (by omega)] at hx;exact Option.some.inj hx
  have ht:(f.take (k+1)).map (rwN T)=(f.take k).map (rwN T)++[rwN T x]:=by
   rw [List.take_add_one,hx,List.map_append];rfl
  by_cases hk:x.k=5∨x.k=6
  ·rw [adrT_yes hx hk,rwP_snoc,ih,ht];show ((f.take k).map (rwN T)++f.drop k).set k (rwN T x)=_;have hl:((f.take k).map (rwN T)).length=k:=by rw [List.length_map,List.length_take];omega
   rw [List.set_append_right _ _ (by omega),hl,Nat.sub_self,hd,List.set_cons_zero,List.append_assoc];rfl
  ·rw [adrT_no hx hk,ih,ht,hd,List.append_assoc];have:rwN T x=x:=by unfold rwN;rw [if_neg hk]
   rw [this];rfl
theorem rwP_all (T:AT→Option AT) (f:List NT):rwP T (adrT f f.length)=f.map (rwN T):=by
 rw [rwP_take T f f.length (Nat.le_refl _),List.take_length,List.drop_length,List.append_nil]
noncomputable def rwR (T:AT→Option AT) (f:List NT):List NT:=if goodSF NT.good f=true then f.map (rwN T) else []
abbrev OwnNd (w:World) (base:Nat) (v:Value) (l:List NT):Prop:=w.ownsRow base 59 14 v l.length (l.flatMap NT.cells)
theorem ownNd_nil (w:World) (base:Nat):OwnNd w base (.slice none 0 0) []:=World.ownsRow_nil _ _ _ _
theorem ownNd_lt {w:World} {base:Nat} {v:Value} {l:List NT} (h:OwnNd w base v l):∀ r,v.ownBlock=some r→base≤r∧r<w.heap.size:=by
 intro r hr
 rcases h.2 with ⟨rfl,_⟩ | ⟨g,cap,cur,rfl,h2,h3,_⟩
 ·cases hr
 ·have:g=r:=by simpa [Value.ownBlock] using hr
  subst this;refine ⟨h2,?_⟩
  rcases Nat.lt_or_ge g w.heap.size with h' | h'
  ·exact h'
  ·rw [Array.getElem?_eq_none h'] at h3;cases h3
theorem ownNd_block {w w':World} {base:Nat} {v:Value} {l:List NT} (h:OwnNd w base v l) (hx:∀ r,v.ownBlock=some r→w'.heap[r]?=w.heap[r]?):OwnNd w' base v l:=by
 refine ⟨h.1,h.2.imp id ?_⟩;rintro ⟨g,cap,cur,rfl,h2,h3,h4⟩;exact ⟨g,cap,cur,rfl,h2,by rw [hx g rfl];exact h3,h4⟩
theorem ownNd_later {w w':World} {base:Nat} {v:Value} {l:List NT} (h:OwnNd w base v l) (hx:Ext w w'):OwnNd w' base v l:=ownNd_block h fun r hr=>hx.block r (ownNd_lt h r hr).2
theorem ownNd_slice {w:World} {base:Nat} {v:Value} {l:List NT} (h:OwnNd w base v l):∃ p c,v=.slice p l.length c∧l.length≤c:=by
 rcases h.2 with ⟨rfl,h0⟩ | ⟨g,cap,cur,rfl,_,_,h3,_⟩
 ·exact ⟨none,0,by rw [h0],by omega⟩
 ·exact ⟨_,_,rfl,h3⟩
theorem infoNd:∃ inf z,Tryz.prog.info? 59=some inf∧inf.zero=some z∧z.cells.size=14∧inf.size=14∧inf.bytes≤1000:=by
 have h:(Tryz.prog.info? 59).map (fun i=>(i.zero.map (·.cells.size),i.size,decide (i.bytes≤1000)))=some (some 14,14,true):=by kernel_rfl
 cases h':Tryz.prog.info? 59 with
 | none=>rw [h'] at h;cases h
 | some inf =>
  rw [h'] at h;simp at h;obtain ⟨h1,h2,h3⟩:=h;obtain ⟨z,hz,hz2⟩:=h1;exact ⟨inf,z,rfl,hz,hz2,h2,h3⟩
theorem ncells_one (x:NT):∀ u ∈ x.cells,u.oneCell'=true:=by
 intro u hu;simp only [NT.cells,List.mem_cons,List.not_mem_nil,or_false] at hu
 rcases hu with rfl | rfl | rfl | rfl | rfl | rfl | rfl | rfl | rfl | rfl | rfl | rfl | rfl | rfl <;> rfl
theorem app_nd (w:World) (base:Nat) (v:Value) (l:List NT) (O:OwnNd w base v l) (x:NT) (b:Nat) (V:w.rangeAt b 0 x.cells) (hl:l.length≤900000) (hb:base≤w.heap.size) :
  ∃ v' w',(Builtin.append_ #[26,26] 26 #[v,.slice (some ⟨b,0,none⟩) 1 1]).run Tryz.prog w=.ok v' w'∧OwnNd w' base v' (l++[x])∧w.grownBy w' v.ownBlock∧(v'.ownBlock=v.ownBlock∨v'.ownBlock=some w.heap.size):=by
 obtain ⟨inf,z,hi,hz,hzs,hsz,hby⟩:=infoNd;obtain ⟨v',w',hrun,O',GW,hbl⟩:=app_srcB (P:=Tryz.prog) w base 26 26 26 59 inf z Tryz.underlying26 hi hz 14 hsz hby hzs v l.length _ O (.slice (some ⟨b,0,none⟩) 1 1) 1 x.cells
  (Src.ofSlice (size:=14) w Tryz.underlying26 ⟨b,0,none⟩ 1 1 x.cells rfl (fun j u hj=>by rw [Addr.add_lit];exact V j u hj) (ncells_one x)) (by omega) hb
 refine ⟨v',w',hrun,?_,GW,hbl⟩;show World.ownsRow _ _ _ _ _ _ _;rw [List.length_append,List.flatMap_append,List.flatMap_cons,List.flatMap_nil,List.append_nil];exact O'
theorem nodesB_of {w:World} {base:Nat} {v:Value} {l:List NT} (h:OwnNd w base v l):∃ g,NodesB w v l.length (l.flatMap NT.cells) g∧(0<l.length→base≤g∧g<w.heap.size):=by
 rcases h.2 with ⟨rfl,h0⟩ | ⟨g,cap,cur,rfl,h2,h3,h4,h5,h6,h7⟩
 ·have hl:l=[]:=List.eq_nil_of_length_eq_zero h0;subst hl;exact ⟨0,⟨rfl,none,0,rfl,Nat.le_refl _,fun h=>(by cases h)⟩,fun h=>(by cases h)⟩
 ·refine ⟨g,⟨flat14_len l,_,cap,rfl,h4,fun _=>⟨rfl,fun i u hi=>⟨?_,?_⟩⟩⟩,fun _=>⟨h2,(ownNd_lt h g rfl).2⟩⟩
  ·have:=h.cells (g:=g) rfl i u hi;rw [Addr.add_lit,Nat.zero_add] at this;exact this
  ·simp [World.frozen?,h3]
theorem RowN.cellsAt {w:World} {b o:Nat} {l:List NT} (h:RowN w b o l):∀ (j:Nat) (u:Value),(l.flatMap NT.cells)[j]?=some u→w.cell? ⟨b,o+j,none⟩=some u:=fun j u hu=>by
 have hj:j<l.length * 14:=by rw [← flat14_len];exact (List.getElem?_eq_some_iff.1 hu).1
 obtain ⟨e,he⟩:∃ e,l[j / 14]?=some e:=⟨_,List.getElem?_eq_getElem (by omega)⟩;have e1:j=j / 14 * 14+j % 14:=by omega
 have h2:=flat14_at he (j % 14) (by omega);rw [← e1,hu] at h2;have:=h (j / 14) e he (j % 14) u h2.symm;rw [show o+j=o+j / 14 * 14+j % 14 by omega];exact this
theorem nodes_src {w:World} {b o:Nat} {l:List NT} (h:RowN w b o l) (n cap:Nat) (hn:l.length=n):Src Tryz.prog 14 26 (.slice (some ⟨b,o,none⟩) n cap) n (l.flatMap NT.cells) w:=
 Src.ofSlice (size:=14) w Tryz.underlying26 ⟨b,o,none⟩ n cap _ (by rw [flat14_len,hn]) (fun j u hj=>by rw [Addr.add_lit];exact h.cellsAt j u hj) (fun u hu=>by
  obtain ⟨x,_,hx⟩:=List.mem_flatMap.1 hu;exact ncells_one x u hx)
theorem ext_grownN {w w1 w2:World} {row:Option Nat} (x:Ext w w1) (g:w1.grownBy w2 row) (hr:∀ r,row=some r→w.heap.size≤r):Ext w w2:=
 ⟨g.os.trans x.os,g.tape.trans x.tape,g.output.trans x.output,Nat.le_trans x.size g.size,fun k hk=>(g.block k (Nat.lt_of_lt_of_le hk x.size) (fun e=>by have:=hr k e.symm;omega)).trans (x.block k hk)⟩
set_option maxRecDepth 8000 in
set_option maxHeartbeats 2000000 in
theorem cloneNd (b o n cap:Nat) (l:List NT) (w:World) (h:RowN w b o l) (hn:l.length=n) (_:n≤cap) (hl:n≤2000) :
  Calls Tryz.prog 55 #[.slice (some ⟨b,o,none⟩) n cap] w fun e w'=>∃ g c,e=.returned (.slice (some ⟨g,0,none⟩) n c)∧OwnNd w' w.heap.size (.slice (some ⟨g,0,none⟩) n c) l∧Ext w w':=by
 have hq:∀ W,Sem.run Tryz.prog (binOp BinOp.eql 26 (.slice (some ⟨b,o,none⟩) n cap) (.slice none 0 0)) W=.ok (.bool false) W:=fun W=>by kernel_rfl
 obtain ⟨inf,z,hi,hz,hzs,hsz,hby⟩:=infoNd;have X0:=x1 w (.cells #[] 59);obtain ⟨v',w',hrun,O',GW,hb⟩:=app_srcB (P:=Tryz.prog) (w.alloc (.cells #[] 59)) w.heap.size 26 26 26 59 inf z Tryz.underlying26 hi hz 14 hsz hby hzs _ 0 [] (World.ownsRow_made w #[] 0 (Nat.le_refl _) (by simp) (by simp)) (.slice (some ⟨b,o,none⟩) n cap) n _ (nodes_src (h.later X0) n cap hn) (by omega) X0.size;have HB:∃ g,v'.ownBlock=some g:=by
  rcases hb with hb | hb
  ·exact ⟨_,hb⟩
  ·exact ⟨_,hb⟩
 obtain ⟨g,hg⟩:=HB;rw [Nat.zero_add,List.nil_append] at O';have O2:OwnNd w' w.heap.size v' l:=by
  show World.ownsRow _ _ _ _ _ _ _;rw [hn];exact O'
 obtain ⟨p2,c2,ev,_⟩:=ownNd_slice O2;subst ev;have hp:p2=some ⟨g,0,none⟩:=by
  rcases O2.2 with ⟨e,_⟩ | ⟨g',cap',cur,e,_⟩
  ·rw [e] at hg;cases hg
  ·cases e;cases hg;rfl
 subst hp;rw [hn] at hrun O2;have XE:=ext_grownN X0 GW (fun k hk=>by cases hk;exact Nat.le_refl _);have HO:Hid (OwnNd w' w.heap.size (.slice (some ⟨g,0,none⟩) n c2) l):=O2;clear O' hg hb O2 GW hi hz hsz hby h;go_enter Tryz.func55,Tryz.ntmps55;go_wp2_with (at_builtin;refine Lib.wpList_append_run _ rfl _ _ _ _ rfl _ _ rfl rfl _ _ hrun ?_);go_ret;exact ⟨g,c2,rfl,HO.out,XE⟩
theorem flatF_set {α:Type} (f:α→List Value) (k:Nat) (hf:∀ x,(f x).length=k):∀ (l:List α) (i:Nat) (x:α),i<l.length→(l.set i x).flatMap f=(l.flatMap f).take (i * k)++f x++(l.flatMap f).drop (i * k+k)
 | y :: l,0,x,_=>by
  rw [List.set_cons_zero,List.flatMap_cons,List.flatMap_cons,Nat.zero_mul,List.take_zero,Nat.zero_add,List.nil_append,← hf y,List.drop_left]
 | y :: l,i+1,x,h=>by
  have ih:=flatF_set f k hf l i x (by simpa using h);rw [List.set_cons_succ,List.flatMap_cons,List.flatMap_cons,ih];have e1:(i+1) * k=(f y).length+i * k:=by rw [hf,Nat.add_mul];omega
  have e2:(i+1) * k+k=(f y).length+(i * k+k):=by rw [hf,Nat.add_mul];omega
  rw [e2,e1,List.take_length_add_append,List.drop_length_add_append];simp only [List.append_assoc]
theorem setsN_eq:∀ (us M:List Value) (o:Nat),o+us.length≤M.length→setsN M o us=M.take o++us++M.drop (o+us.length)
 | [],M,o,_=>by
  rw [setsN,List.append_nil,List.length_nil,Nat.add_zero,List.take_append_drop]
 | u :: us,M,o,h=>by
  rw [List.length_cons] at h;have ih:=setsN_eq us (M.set o u) (o+1) (by rw [List.length_set];omega);rw [setsN,ih];have e1:(M.set o u).take (o+1)=M.take o++[u]:=by
   rw [List.take_add_one,List.getElem?_set_self (by omega),List.take_set_of_le (Nat.le_refl _)];rfl
  have e2:(M.set o u).drop (o+1+us.length)=M.drop (o+(u :: us).length):=by
   rw [List.drop_set_of_lt (by omega),List.length_cons]
   congr 1
   omega
  rw [e1,e2,List.append_assoc,List.append_assoc,List.append_assoc];rfl
theorem setsN_node (l:List NT) (i:Nat) (x:NT) (hi:i<l.length):setsN (l.flatMap NT.cells) (i * 14) x.cells=(l.set i x).flatMap NT.cells:=by
 have hx:x.cells.length=14:=rfl;rw [setsN_eq _ _ _ (by rw [flat14_len,hx];omega),hx,flatF_set NT.cells 14 (fun _=>rfl) l i x hi]
theorem vec_own {β:Type} (g:Nat) (F:β→List Value):Own (fun s W=>Vec W g (F s)):=fun s X Y row V hg hrow i u hu=>by
 have c:=V i u hu;have hlt:g<X.heap.size:=World.block_lt_of_cell? _ _ c.1;have hb:Y.heap[g]?=X.heap[g]?:=hg.block g hlt (fun e=>by
  obtain ⟨o,ho,hc⟩:=hrow g e.symm;have h1:=c.1;unfold World.cell? at h1;simp only [ho] at h1;cases o <;> simp_all [Obj.isCells])
 unfold World.cell? World.frozen? at *;simp only [hb];exact c
def RwPostB (l:List NT) (w:World) (e:Ending) (w':World):Prop:=∃ v g,e=.returned v∧NodesB w' v l.length (l.flatMap NT.cells) g∧(0<l.length→w.heap.size≤g∧g<w'.heap.size)∧Ext w w'
theorem keeps_setCells {w:World} {g o:Nat} {us L:List Value} (V:Vec w g L) (hL:0<L.length):KeepsOthers w (w.setCells g o us):=
 KeepsOthers.of_grownBy (grown_setCells g us o w) fun j ob ej hj=>by
  cases ej;obtain ⟨u,hu⟩:∃ u,L[0]?=some u:=⟨_,List.getElem?_eq_getElem hL⟩;have h1:=(V 0 u hu).1;unfold World.cell? at h1;simp only [hj] at h1;cases ob <;> simp_all [Obj.isCells]
theorem below_setCellsN {n₀ g o:Nat} {w w':World} {us:List Value} (h:Below n₀ w w') (hg:n₀≤g) (hs:n₀≤w'.heap.size):Below n₀ w (w'.setCells g o us):=
 have G:=grown_setCells g us o w'
 ⟨G.os.trans h.os,G.tape.trans h.tape,G.output.trans h.output,Nat.le_trans h.size G.size,fun k hk=>(G.block k (by omega) (fun e=>by cases e;omega)).trans (h.block k hk)⟩
end Go.Proofs.YtnbagcclckekkaaGreatDoor

