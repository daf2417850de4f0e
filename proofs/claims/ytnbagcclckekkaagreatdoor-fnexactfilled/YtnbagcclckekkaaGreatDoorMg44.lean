/-
  Several texts in one: Fil1, Tf2.
-/
import Derived.Test.YtnbagcclckekkaaGreatDoorMg41
import Derived.Test.YtnbagcclckekkaaGreatDoorTf1
import Derived.Test.YtnbagcclckekkaaGreatDoorFil0
import Derived.Test.YtnbagcclckekkaaGreatDoorGs8
namespace Go.Proofs.YtnbagcclckekkaaGreatDoor
open Go.RowKit
def fT (rows cols:Int) (x:AT):Option AT:=
 if goodAB (fillN x.r x.f rows) (fillN x.c x.g cols) (fillN x.r2 x.f2 rows) (fillN x.c2 x.g2 cols)=true then some ⟨fillN x.r x.f rows,fillN x.c x.g cols,x.f,x.g,fillN x.r2 x.f2 rows,fillN x.c2 x.g2 cols,x.f2,x.g2⟩ else none
def isFillB (n:Int):Bool:=decide (-1000≤n) && decide (n≤1000)
noncomputable def fillR (rows cols:Int) (f:List NT):List NT:=if (isFillB rows && isFillB cols)=true then rwR (fT rows cols) f else []
set_option maxHeartbeats 1000000 in
theorem isFillI (n:Int) (w:World):Calls Tryz.prog 34 #[.int .i64 n] w fun e w'=>e=.returned (.bool (isFillB n))∧w'=w:=by
 have HB:Hid (isFillB n=(decide (-1000≤n) && decide (n≤1000))):=rfl;rw [HB.out];by_cases h1 : -1000≤n
 ·by_cases h2:n≤1000
  ·have d1:decide (-1000≤n)=true:=decide_eq_true h1;have d2:decide (n≤1000)=true:=decide_eq_true h2;rw [d1,d2];go_enter Tryz.func34,Tryz.ntmps34;go_wp2_with fail;go_ret;exact ⟨rfl,rfl⟩
  ·have d1:decide (-1000≤n)=true:=decide_eq_true h1;have d2:decide (n≤1000)=false:=decide_eq_false h2;rw [d1,d2];go_enter Tryz.func34,Tryz.ntmps34;go_wp2_with fail;go_ret;exact ⟨rfl,rfl⟩
 ·have d1:decide (-1000≤n)=false:=decide_eq_false h1;rw [d1,Bool.false_and];go_enter Tryz.func34,Tryz.ntmps34;go_wp2_with fail;go_ret;exact ⟨rfl,rfl⟩
set_option maxHeartbeats 1000000 in
theorem fillByI (rows cols:Int) (w:World):Calls Tryz.prog 35 #[.int .i64 rows,.int .i64 cols] w fun e w'=>e=.returned (.func (.func 61) #[] #[.pointer (some ⟨w.heap.size,0,none⟩),.pointer (some ⟨w.heap.size+1,0,none⟩)])∧w'=(w.alloc (.cells #[.int .i64 rows] 3)).alloc (.cells #[.int .i64 cols] 3):=by
 go_enter Tryz.func35,Tryz.ntmps35;go_wp2_with fail;go_ret;exact ⟨rfl,rfl⟩
theorem vec_farF {w w':World} {g r:Nat} {L:List Value} (V:Vec w g L) (G:w.grownBy w' (some r)) (h:g ≠ r):Vec w' g L:=fun i u hu=>by
 have c:=V i u hu;have hb:w'.heap[g]?=w.heap[g]?:=G.block g (World.block_lt_of_cell? _ _ c.1) (fun e=>h (by cases e;rfl));unfold World.cell? World.frozen? at *;simp only [hb];exact c
theorem ga_bounds {r c r2 c2:Int} (h:goodAB r c r2 c2=true):(-100000≤r∧r≤100000)∧(-100000≤c∧c≤100000)∧(-100000≤r2∧r2≤100000)∧(-100000≤c2∧c2≤100000):=by
 unfold goodAB goodRB at h;simp at h;omega
set_option maxRecDepth 8000 in
set_option maxHeartbeats 8000000 in
theorem tellF (rows cols:Int) (Bc bR bC:Nat) (x:AT) (w:World) (hx:goodAB x.r x.c x.r2 x.c2=true) (h1 : -100000≤rows∧rows≤100000) (h2 : -100000≤cols∧cols≤100000)
  (VB:Vec w Bc [.func (.func 61) #[] #[.pointer (some ⟨bR,0,none⟩),.pointer (some ⟨bC,0,none⟩)]]) (VR:Vec w bR [.int .i64 rows]) (VC:Vec w bC [.int .i64 cols]) :
  Calls Tryz.prog 36 #[x.val,.pointer (some ⟨Bc,0,none⟩)] w fun e w'=>(∃ b:AT,e=.returned (.tuple #[b.val,.bool (fT rows cols x).isSome])∧∀ z,fT rows cols x=some z→b=z)∧Ext w w':=by
 obtain ⟨r,c,f,g,r2,c2,f2,g2⟩:=x;dsimp only at hx;obtain ⟨hb1,hb2,hb3,hb4⟩:=ga_bounds hx;have C1:=fun W (X:Ext w W)=>fillI r c f g rows cols bR bC W hb1 hb2 h1 h2 (cell_later X (VR 0 _ rfl).1) (cell_later X (VC 0 _ rfl).1);have C2:=fun W (X:Ext w W)=>fillI r2 c2 f2 g2 rows cols bR bC W hb3 hb4 h1 h2 (cell_later X (VR 0 _ rfl).1) (cell_later X (VC 0 _ rfl).1);have hfT:fT rows cols ⟨r,c,f,g,r2,c2,f2,g2⟩=if goodAB (fillN r f rows) (fillN c g cols) (fillN r2 f2 rows) (fillN c2 g2 cols)=true then some ⟨fillN r f rows,fillN c g cols,f,g,fillN r2 f2 rows,fillN c2 g2 cols,f2,g2⟩ else none:=rfl;rw [hfT];obtain ⟨n1,e1⟩:∃ n,fillN r f rows=n:=⟨_,rfl⟩;obtain ⟨n2,e2⟩:∃ n,fillN c g cols=n:=⟨_,rfl⟩;obtain ⟨n5,e5⟩:∃ n,fillN r2 f2 rows=n:=⟨_,rfl⟩;obtain ⟨n6,e6⟩:∃ n,fillN c2 g2 cols=n:=⟨_,rfl⟩;rw [e1,e2] at C1;rw [e5,e6] at C2;rw [e1,e2,e5,e6];have C3:=fun W=>goodAI n1 n2 f g n5 n6 f2 g2 W;obtain ⟨q,hq⟩:∃ q,goodAB n1 n2 n5 n6=q:=⟨_,rfl⟩;rw [hq] at C3 ⊢;obtain ⟨OP,hOP⟩:∃ o,(if q=true then some (⟨n1,n2,f,g,n5,n6,f2,g2⟩:AT) else none)=o:=⟨_,rfl⟩;rw [hOP];have hs:OP.isSome=q:=by rw [← hOP];cases q <;> rfl
 have HT:Hid (∀ z,OP=some z→(⟨n1,n2,f,g,n5,n6,f2,g2⟩:AT)=z):=fun z hz=>by
  rw [← hOP] at hz;cases q
  ·cases hz
  ·exact Option.some.inj hz
 rw [hs];have HC1:Hid (∀ W,Ext w W→Calls Tryz.prog 61 #[.agg #[.int .i64 r,.int .i64 c,.bool f,.bool g],.pointer (some ⟨bR,0,none⟩),.pointer (some ⟨bC,0,none⟩)] W fun e w'=>e=.returned (.agg #[.int .i64 n1,.int .i64 n2,.bool f,.bool g])∧Ext W w'):=C1;have HC2:Hid (∀ W,Ext w W→Calls Tryz.prog 61 #[.agg #[.int .i64 r2,.int .i64 c2,.bool f2,.bool g2],.pointer (some ⟨bR,0,none⟩),.pointer (some ⟨bC,0,none⟩)] W fun e w'=>e=.returned (.agg #[.int .i64 n5,.int .i64 n6,.bool f2,.bool g2])∧Ext W w'):=C2;have HC3:Hid (∀ W,Calls Tryz.prog 37 #[.agg #[.int .i64 n1,.int .i64 n2,.bool f,.bool g,.int .i64 n5,.int .i64 n6,.bool f2,.bool g2]] W fun e w'=>e=.returned (.bool q)∧Ext W w'):=C3;have HVB:Hid (Vec w Bc [.func (.func 61) #[] #[.pointer (some ⟨bR,0,none⟩),.pointer (some ⟨bC,0,none⟩)]]):=VB;have XB:Ext w ((w.alloc (.cells #[.int .i64 r,.int .i64 c,.bool f,.bool g,.int .i64 r2,.int .i64 c2,.bool f2,.bool g2] 45)).alloc (.cells #[.int .i64 0,.int .i64 0,.bool false,.bool false,.int .i64 0,.int .i64 0,.bool false,.bool false] 45)):=xa (x1 _ _) _;have VA:Vec ((w.alloc (.cells #[.int .i64 r,.int .i64 c,.bool f,.bool g,.int .i64 r2,.int .i64 c2,.bool f2,.bool g2] 45)).alloc (.cells #[.int .i64 0,.int .i64 0,.bool false,.bool false,.int .i64 0,.int .i64 0,.bool false,.bool false] 45)) w.heap.size [.int .i64 r,.int .i64 c,.bool f,.bool g,.int .i64 r2,.int .i64 c2,.bool f2,.bool g2]:=(vec_made w [.int .i64 r,.int .i64 c,.bool f,.bool g,.int .i64 r2,.int .i64 c2,.bool f2,.bool g2] 45).later (x1 _ _);have VZ:=vec_made (w.alloc (.cells #[.int .i64 r,.int .i64 c,.bool f,.bool g,.int .i64 r2,.int .i64 c2,.bool f2,.bool g2] 45)) [.int .i64 0,.int .i64 0,.bool false,.bool false,.int .i64 0,.int .i64 0,.bool false,.bool false] 45;change Vec ((w.alloc (.cells #[.int .i64 r,.int .i64 c,.bool f,.bool g,.int .i64 r2,.int .i64 c2,.bool f2,.bool g2] 45)).alloc (.cells #[.int .i64 0,.int .i64 0,.bool false,.bool false,.int .i64 0,.int .i64 0,.bool false,.bool false] 45)) _ _ at VZ;rw [World.size_alloc] at VZ;obtain ⟨wb,hwb⟩:∃ z,(w.alloc (.cells #[.int .i64 r,.int .i64 c,.bool f,.bool g,.int .i64 r2,.int .i64 c2,.bool f2,.bool g2] 45)).alloc (.cells #[.int .i64 0,.int .i64 0,.bool false,.bool false,.int .i64 0,.int .i64 0,.bool false,.bool false] 45)=z:=⟨_,rfl⟩;have HWB:Hid ((w.alloc (.cells #[.int .i64 r,.int .i64 c,.bool f,.bool g,.int .i64 r2,.int .i64 c2,.bool f2,.bool g2] 45)).alloc (.cells #[.int .i64 0,.int .i64 0,.bool false,.bool false,.int .i64 0,.int .i64 0,.bool false,.bool false] 45)=wb):=hwb;rw [hwb] at XB VA VZ;have HVA:Hid (Vec wb w.heap.size [.int .i64 r,.int .i64 c,.bool f,.bool g,.int .i64 r2,.int .i64 c2,.bool f2,.bool g2]):=VA;have HVZ:Hid (Vec wb (w.heap.size+1) [.int .i64 0,.int .i64 0,.bool false,.bool false,.int .i64 0,.int .i64 0,.bool false,.bool false]):=VZ;clear VB VR VC C1 C2 C3 hwb VA VZ hfT hx hb1 hb2 hb3 hb4 h1 h2 e1 e2 e5 e6 hq hOP hs;go_enter Tryz.func36,Tryz.ntmps36;go_upto_region 1 with fail;rw [HWB.out];refine wp_region_letters_c (fun lx:Nat→Value=>{ tmps:=#[.agg #[.int .i64 r,.int .i64 c,.bool f,.bool g,.int .i64 r2,.int .i64 c2,.bool f2,.bool g2],.pointer (some ⟨Bc,0,none⟩),.pointer (some ⟨w.heap.size,0,none⟩),.pointer (some ⟨w.heap.size+1,0,none⟩),.bool false,lx 5,lx 6,lx 7,lx 8,lx 9,lx 10,lx 11,lx 12,lx 13,lx 14,undef,undef,undef],defers:=[] }) (fun L lx lw=>Hid (Ext w lw∧Vec lw w.heap.size [.int .i64 r,.int .i64 c,.bool f,.bool g,.int .i64 r2,.int .i64 c2,.bool f2,.bool g2]∧Vec lw (w.heap.size+1) [.int .i64 0,.int .i64 0,.bool false,.bool false,.int .i64 0,.int .i64 0,.bool false,.bool false]∧(L 9=true→∃ b,lx 5=.pointer (some ⟨b,0,none⟩)∧w.heap.size+2≤b∧(L 10=false→Vec lw b [.int .i64 0,.int .i64 0,.bool false,.bool false,.int .i64 0,.int .i64 0,.bool false,.bool false])∧(L 10=true→Vec lw b [.int .i64 n1,.int .i64 n2,.bool f,.bool g,.int .i64 n5,.int .i64 n6,.bool f2,.bool g2]))∧(L 10=true→L 9=true)∧(L 0=true→lx 6=.func (.func 61) #[] #[.pointer (some ⟨bR,0,none⟩),.pointer (some ⟨bC,0,none⟩)])∧(L 1=true→lx 7=.pointer (some ⟨w.heap.size,0,none⟩))∧(L 2=true→lx 8=.agg #[.int .i64 r,.int .i64 c,.bool f,.bool g])∧(L 3=true→lx 9=.agg #[.int .i64 n1,.int .i64 n2,.bool f,.bool g])∧(L 4=true→lx 10=.func (.func 61) #[] #[.pointer (some ⟨bR,0,none⟩),.pointer (some ⟨bC,0,none⟩)])∧(L 5=true→lx 11=.pointer (some ⟨w.heap.size,4,none⟩))∧(L 6=true→lx 12=.agg #[.int .i64 r2,.int .i64 c2,.bool f2,.bool g2])∧(L 7=true→lx 13=.agg #[.int .i64 n5,.int .i64 n6,.bool f2,.bool g2])∧(L 8=true→lx 14=.agg #[.int .i64 n1,.int .i64 n2,.bool f,.bool g,.int .i64 n5,.int .i64 n6,.bool f2,.bool g2]))) rfl (by kernel_rfl) (fun jj=>undef) rfl ?_ ?_ ?_
 ·exact ⟨xd XB,HVA.out.later (xd (xr _)),HVZ.out.later (xd (xr _)),(fun h=>by cases h),(fun h=>by cases h),(fun h=>by cases h),(fun h=>by cases h),(fun h=>by cases h),(fun h=>by cases h),(fun h=>by cases h),(fun h=>by cases h),(fun h=>by cases h),(fun h=>by cases h),(fun h=>by cases h)⟩
 ·intro L lx lw ix o K hK ho hL haf hI hcl;obtain ⟨E,VA,VZ,fa,fs,j0,j1,j2,j3,j4,j5,j6,j7,j8⟩:=hI.out
  match ix,ho,hL,haf,hK with
  | 0,ho,hL,haf,hK =>
   cases ho
   (try dsimp only)
   refine Eq.mpr (if_pos (by rfl)) ?_;have b0:=(HVB.out.later E 0 _ rfl).1;go_wp2_with fail;exact hK (fun jj=>if jj=6 then .func (.func 61) #[] #[.pointer (some ⟨bR,0,none⟩),.pointer (some ⟨bC,0,none⟩)] else lx jj) _ ⟨E,VA,VZ,fa,fs,(fun _=>rfl),j1,j2,j3,j4,j5,j6,j7,j8⟩
  | 1,ho,hL,haf,hK =>
   cases ho
   (try dsimp only)
   refine Eq.mpr (if_pos (by rfl)) ?_;go_wp2_with fail;exact hK (fun jj=>if jj=7 then .pointer (some ⟨w.heap.size,0,none⟩) else lx jj) _ ⟨E,VA,VZ,fa,fs,j0,(fun _=>rfl),j2,j3,j4,j5,j6,j7,j8⟩
  | 2,ho,hL,haf,hK =>
   cases ho
   (try dsimp only)
   rw [j1 (haf ⟨1,.data⟩ (by simp) rfl)];refine Eq.mpr (if_pos (by rfl)) ?_;have a0:=(VA 0 _ rfl).1;have a1:=(VA 1 _ rfl).1;have a2:=(VA 2 _ rfl).1;have a3:=(VA 3 _ rfl).1;go_wp2_with fail;exact hK (fun jj=>if jj=8 then .agg #[.int .i64 r,.int .i64 c,.bool f,.bool g] else if jj=7 then .pointer (some ⟨w.heap.size,0,none⟩) else lx jj) _ ⟨E,VA,VZ,fa,fs,j0,(fun _=>rfl),(fun _=>rfl),j3,j4,j5,j6,j7,j8⟩
  | 3,ho,hL,haf,hK =>
   cases ho
   (try dsimp only)
   rw [j0 (haf ⟨0,.data⟩ (by simp) rfl),j2 (haf ⟨2,.data⟩ (by simp) rfl)];refine Eq.mpr (if_pos (by rfl)) ?_;go_wp2_with fail;refine (HC1.out lw E).mono ?_;rintro rr w' ⟨rfl,e'⟩;go_wp2_with fail;exact hK (fun jj=>if jj=9 then .agg #[.int .i64 n1,.int .i64 n2,.bool f,.bool g] else if jj=6 then .func (.func 61) #[] #[.pointer (some ⟨bR,0,none⟩),.pointer (some ⟨bC,0,none⟩)] else if jj=8 then .agg #[.int .i64 r,.int .i64 c,.bool f,.bool g] else lx jj) _ ⟨(xt E e'),(VA.later e'),(VZ.later e'),(fun h=>by obtain ⟨b,h1,h2,h3,h4⟩:=fa h;exact ⟨b,h1,h2,fun h=>(h3 h).later e',fun h=>(h4 h).later e'⟩),fs,(fun _=>rfl),j1,(fun _=>rfl),(fun _=>rfl),j4,j5,j6,j7,j8⟩
  | 4,ho,hL,haf,hK =>
   cases ho
   (try dsimp only)
   refine Eq.mpr (if_pos (by rfl)) ?_;have b0:=(HVB.out.later E 0 _ rfl).1;go_wp2_with fail;exact hK (fun jj=>if jj=10 then .func (.func 61) #[] #[.pointer (some ⟨bR,0,none⟩),.pointer (some ⟨bC,0,none⟩)] else lx jj) _ ⟨E,VA,VZ,fa,fs,j0,j1,j2,j3,(fun _=>rfl),j5,j6,j7,j8⟩
  | 5,ho,hL,haf,hK =>
   cases ho
   (try dsimp only)
   refine Eq.mpr (if_pos (by rfl)) ?_;go_wp2_with fail;exact hK (fun jj=>if jj=11 then .pointer (some ⟨w.heap.size,4,none⟩) else lx jj) _ ⟨E,VA,VZ,fa,fs,j0,j1,j2,j3,j4,(fun _=>rfl),j6,j7,j8⟩
  | 6,ho,hL,haf,hK =>
   cases ho
   (try dsimp only)
   rw [j5 (haf ⟨5,.data⟩ (by simp) rfl)];refine Eq.mpr (if_pos (by rfl)) ?_;have a4:=(VA 4 _ rfl).1;have a5:=(VA 5 _ rfl).1;have a6:=(VA 6 _ rfl).1;have a7:=(VA 7 _ rfl).1;go_wp2_with fail;exact hK (fun jj=>if jj=12 then .agg #[.int .i64 r2,.int .i64 c2,.bool f2,.bool g2] else if jj=11 then .pointer (some ⟨w.heap.size,4,none⟩) else lx jj) _ ⟨E,VA,VZ,fa,fs,j0,j1,j2,j3,j4,(fun _=>rfl),(fun _=>rfl),j7,j8⟩
  | 7,ho,hL,haf,hK =>
   cases ho
   (try dsimp only)
   rw [j4 (haf ⟨4,.data⟩ (by simp) rfl),j6 (haf ⟨6,.data⟩ (by simp) rfl)];refine Eq.mpr (if_pos (by rfl)) ?_;go_wp2_with fail;refine (HC2.out lw E).mono ?_;rintro rr w' ⟨rfl,e'⟩;go_wp2_with fail;exact hK (fun jj=>if jj=13 then .agg #[.int .i64 n5,.int .i64 n6,.bool f2,.bool g2] else if jj=10 then .func (.func 61) #[] #[.pointer (some ⟨bR,0,none⟩),.pointer (some ⟨bC,0,none⟩)] else if jj=12 then .agg #[.int .i64 r2,.int .i64 c2,.bool f2,.bool g2] else lx jj) _ ⟨(xt E e'),(VA.later e'),(VZ.later e'),(fun h=>by obtain ⟨b,h1,h2,h3,h4⟩:=fa h;exact ⟨b,h1,h2,fun h=>(h3 h).later e',fun h=>(h4 h).later e'⟩),fs,j0,j1,j2,j3,(fun _=>rfl),j5,(fun _=>rfl),(fun _=>rfl),j8⟩
  | 8,ho,hL,haf,hK =>
   cases ho
   (try dsimp only)
   rw [j3 (haf ⟨3,.data⟩ (by simp) rfl),j7 (haf ⟨7,.data⟩ (by simp) rfl)];refine Eq.mpr (if_pos (by rfl)) ?_;go_wp2_with fail;exact hK (fun jj=>if jj=14 then .agg #[.int .i64 n1,.int .i64 n2,.bool f,.bool g,.int .i64 n5,.int .i64 n6,.bool f2,.bool g2] else if jj=9 then .agg #[.int .i64 n1,.int .i64 n2,.bool f,.bool g] else if jj=13 then .agg #[.int .i64 n5,.int .i64 n6,.bool f2,.bool g2] else lx jj) _ ⟨E,VA,VZ,fa,fs,j0,j1,j2,(fun _=>rfl),j4,j5,j6,(fun _=>rfl),(fun _=>rfl)⟩
  | 9,ho,hL,haf,hK =>
   cases ho
   (try dsimp only)
   refine Eq.mpr (if_pos (by rfl)) ?_;have hst:L 10=true→False:=fun h=>by have:=fs h;rw [hL] at this;cases this
   have e':=x1 lw (.cells #[.int .i64 0,.int .i64 0,.bool false,.bool false,.int .i64 0,.int .i64 0,.bool false,.bool false] 45);go_wp2_with fail;exact hK (fun jj=>if jj=5 then .pointer (some ⟨lw.heap.size,0,none⟩) else lx jj) _ ⟨(xt E e'),(VA.later e'),(VZ.later e'),(fun _=>⟨lw.heap.size,rfl,by have:=World.block_lt_of_cell? _ _ (VZ 0 _ rfl).1;dsimp only at this;omega,fun _=>vec_made lw [.int .i64 0,.int .i64 0,.bool false,.bool false,.int .i64 0,.int .i64 0,.bool false,.bool false] _,fun h=>(hst h).elim⟩),(fun _=>rfl),j0,j1,j2,j3,j4,j5,j6,j7,j8⟩
  | 10,ho,hL,haf,hK =>
   cases ho
   (try dsimp only)
   rw [j8 (haf ⟨8,.data⟩ (by simp) rfl)];have hmk:L 9=true:=haf ⟨9,.data⟩ (by simp) rfl;obtain ⟨b,eb,hb,hz,_⟩:=fa hmk;have bx:=hz hL;rw [eb];refine Eq.mpr (if_pos (by rfl)) ?_;have VT:lw.there b 0 8:=vec_thereN bx (by simp);have one:(#[.int .i64 n1,.int .i64 n2,.bool f,.bool g,.int .i64 n5,.int .i64 n6,.bool f2,.bool g2]:Array Value).all (·.oneCell')=true:=by simp [Value.oneCell']
   have VN:Vec (lw.setCells b 0 [.int .i64 n1,.int .i64 n2,.bool f,.bool g,.int .i64 n5,.int .i64 n6,.bool f2,.bool g2]) b [.int .i64 n1,.int .i64 n2,.bool f,.bool g,.int .i64 n5,.int .i64 n6,.bool f2,.bool g2]:=vec_setCellsN [.int .i64 n1,.int .i64 n2,.bool f,.bool g,.int .i64 n5,.int .i64 n6,.bool f2,.bool g2] 0 lw [.int .i64 0,.int .i64 0,.bool false,.bool false,.int .i64 0,.int .i64 0,.bool false,.bool false] bx (by simp);have GN:=grown_setCells b [.int .i64 n1,.int .i64 n2,.bool f,.bool g,.int .i64 n5,.int .i64 n6,.bool f2,.bool g2] 0 lw;have XN:=Ext.setCells (b:=b) (by omega) [.int .i64 n1,.int .i64 n2,.bool f,.bool g,.int .i64 n5,.int .i64 n6,.bool f2,.bool g2] 0 lw E;refine wpList_store_mid rfl _ _ _ rfl b 0 #[.int .i64 n1,.int .i64 n2,.bool f,.bool g,.int .i64 n5,.int .i64 n6,.bool f2,.bool g2] rfl rfl VT hi8T one ?_;show wpList _ _ _ _ _ (lw.setCells b 0 [.int .i64 n1,.int .i64 n2,.bool f,.bool g,.int .i64 n5,.int .i64 n6,.bool f2,.bool g2]);go_wp2_with fail;exact hK (fun jj=>if jj=14 then .agg #[.int .i64 n1,.int .i64 n2,.bool f,.bool g,.int .i64 n5,.int .i64 n6,.bool f2,.bool g2] else if jj=5 then .pointer (some ⟨b,0,none⟩) else lx jj) _ ⟨(XN),(vec_farF VA GN (by omega)),(vec_farF VZ GN (by omega)),(fun _=>⟨b,rfl,hb,(fun h=>by cases h),fun _=>VN⟩),(fun _=>hmk),j0,j1,j2,j3,j4,j5,j6,j7,(fun _=>rfl)⟩
  | k+11,ho,_,_,_=>simp at ho
 ·intro L lx w9 hall hI;obtain ⟨E,VA,VZ,fa,fs,j0,j1,j2,j3,j4,j5,j6,j7,j8⟩:=hI.out;obtain ⟨bb,eb,lb,_,hz⟩:=fa (hall 9 (by simp));have BN:=hz (hall 10 (by simp));have VZ9:=VZ;have E9:=E;rw [eb]
  (try dsimp only)
  rw [j0 (hall 0 (by simp)),j1 (hall 1 (by simp)),j2 (hall 2 (by simp)),j3 (hall 3 (by simp)),j4 (hall 4 (by simp)),j5 (hall 5 (by simp)),j6 (hall 6 (by simp)),j7 (hall 7 (by simp)),j8 (hall 8 (by simp))];clear hI hall fa fs hz VA VZ E HVA HVZ HWB XB HC1 HC2 j0 j1 j2 j3 j4 j5 j6 j7 j8;go_upto_region 2 with fail;refine wp_region_letters_c (fun lx:Nat→Value=>{ tmps:=#[.agg #[.int .i64 r,.int .i64 c,.bool f,.bool g,.int .i64 r2,.int .i64 c2,.bool f2,.bool g2],.pointer (some ⟨Bc,0,none⟩),.pointer (some ⟨w.heap.size,0,none⟩),.pointer (some ⟨w.heap.size+1,0,none⟩),lx 4,.pointer (some ⟨bb,0,none⟩),.func (.func 61) #[] #[.pointer (some ⟨bR,0,none⟩),.pointer (some ⟨bC,0,none⟩)],.pointer (some ⟨w.heap.size,0,none⟩),.agg #[.int .i64 r,.int .i64 c,.bool f,.bool g],.agg #[.int .i64 n1,.int .i64 n2,.bool f,.bool g],.func (.func 61) #[] #[.pointer (some ⟨bR,0,none⟩),.pointer (some ⟨bC,0,none⟩)],.pointer (some ⟨w.heap.size,4,none⟩),.agg #[.int .i64 r2,.int .i64 c2,.bool f2,.bool g2],.agg #[.int .i64 n5,.int .i64 n6,.bool f2,.bool g2],.agg #[.int .i64 n1,.int .i64 n2,.bool f,.bool g,.int .i64 n5,.int .i64 n6,.bool f2,.bool g2],lx 15,lx 16,lx 17],defers:=[] }) (fun L lx lw=>Hid (Ext w lw∧Vec lw bb [.int .i64 n1,.int .i64 n2,.bool f,.bool g,.int .i64 n5,.int .i64 n6,.bool f2,.bool g2]∧(L 3=false→Vec lw (w.heap.size+1) [.int .i64 0,.int .i64 0,.bool false,.bool false,.int .i64 0,.int .i64 0,.bool false,.bool false])∧(L 3=true→Vec lw (w.heap.size+1) [.int .i64 n1,.int .i64 n2,.bool f,.bool g,.int .i64 n5,.int .i64 n6,.bool f2,.bool g2])∧(L 0=true→lx 15=.agg #[.int .i64 n1,.int .i64 n2,.bool f,.bool g,.int .i64 n5,.int .i64 n6,.bool f2,.bool g2])∧(L 1=true→lx 16=.agg #[.int .i64 n1,.int .i64 n2,.bool f,.bool g,.int .i64 n5,.int .i64 n6,.bool f2,.bool g2])∧(L 2=true→lx 17=.bool q)∧(L 4=true→lx 4=.bool q))) rfl (by kernel_rfl) (fun jj=>if jj=4 then .bool false else undef) rfl ?_ ?_ ?_
  ·exact ⟨xd E9,BN.later (xd (xr _)),fun _=>VZ9.later (xd (xr _)),(fun h=>by cases h),(fun h=>by cases h),(fun h=>by cases h),(fun h=>by cases h),(fun h=>by cases h)⟩
  ·intro L lx lw ix o K hK ho hL haf hI hcl;obtain ⟨E,VN,fz,fc,j0,j1,j2,j4⟩:=hI.out
   match ix,ho,hL,haf,hK with
   | 0,ho,hL,haf,hK =>
    cases ho
    (try dsimp only)
    refine Eq.mpr (if_pos (by rfl)) ?_;have a0:=(VN 0 _ rfl).1;have a1:=(VN 1 _ rfl).1;have a2:=(VN 2 _ rfl).1;have a3:=(VN 3 _ rfl).1;have a4:=(VN 4 _ rfl).1;have a5:=(VN 5 _ rfl).1;have a6:=(VN 6 _ rfl).1;have a7:=(VN 7 _ rfl).1;go_wp2_with fail;exact hK (fun jj=>if jj=15 then .agg #[.int .i64 n1,.int .i64 n2,.bool f,.bool g,.int .i64 n5,.int .i64 n6,.bool f2,.bool g2] else lx jj) _ ⟨E,VN,fz,fc,(fun _=>rfl),j1,j2,j4⟩
   | 1,ho,hL,haf,hK =>
    cases ho
    (try dsimp only)
    refine Eq.mpr (if_pos (by rfl)) ?_;have a0:=(VN 0 _ rfl).1;have a1:=(VN 1 _ rfl).1;have a2:=(VN 2 _ rfl).1;have a3:=(VN 3 _ rfl).1;have a4:=(VN 4 _ rfl).1;have a5:=(VN 5 _ rfl).1;have a6:=(VN 6 _ rfl).1;have a7:=(VN 7 _ rfl).1;go_wp2_with fail;exact hK (fun jj=>if jj=16 then .agg #[.int .i64 n1,.int .i64 n2,.bool f,.bool g,.int .i64 n5,.int .i64 n6,.bool f2,.bool g2] else lx jj) _ ⟨E,VN,fz,fc,j0,(fun _=>rfl),j2,j4⟩
   | 2,ho,hL,haf,hK =>
    cases ho
    (try dsimp only)
    rw [j1 (haf ⟨1,.data⟩ (by simp) rfl)];refine Eq.mpr (if_pos (by rfl)) ?_;go_wp2_with fail;refine (HC3.out lw).mono ?_;rintro rr w' ⟨rfl,e'⟩;go_wp2_with fail;exact hK (fun jj=>if jj=17 then .bool q else if jj=16 then .agg #[.int .i64 n1,.int .i64 n2,.bool f,.bool g,.int .i64 n5,.int .i64 n6,.bool f2,.bool g2] else lx jj) _ ⟨(xt E e'),(VN.later e'),(fun h=>(fz h).later e'),(fun h=>(fc h).later e'),j0,(fun _=>rfl),(fun _=>rfl),j4⟩
   | 3,ho,hL,haf,hK =>
    cases ho
    (try dsimp only)
    rw [j0 (haf ⟨0,.data⟩ (by simp) rfl)];have bx:=fz hL;refine Eq.mpr (if_pos (by rfl)) ?_;have VT:lw.there (w.heap.size+1) 0 8:=vec_thereN bx (by simp);have one:(#[.int .i64 n1,.int .i64 n2,.bool f,.bool g,.int .i64 n5,.int .i64 n6,.bool f2,.bool g2]:Array Value).all (·.oneCell')=true:=(by simp [Value.oneCell']);have VR:Vec (lw.setCells (w.heap.size+1) 0 [.int .i64 n1,.int .i64 n2,.bool f,.bool g,.int .i64 n5,.int .i64 n6,.bool f2,.bool g2]) (w.heap.size+1) [.int .i64 n1,.int .i64 n2,.bool f,.bool g,.int .i64 n5,.int .i64 n6,.bool f2,.bool g2]:=vec_setCellsN [.int .i64 n1,.int .i64 n2,.bool f,.bool g,.int .i64 n5,.int .i64 n6,.bool f2,.bool g2] 0 lw [.int .i64 0,.int .i64 0,.bool false,.bool false,.int .i64 0,.int .i64 0,.bool false,.bool false] bx (by simp);have GN:=grown_setCells (w.heap.size+1) [.int .i64 n1,.int .i64 n2,.bool f,.bool g,.int .i64 n5,.int .i64 n6,.bool f2,.bool g2] 0 lw;have XN:=Ext.setCells (b:=w.heap.size+1) (by omega) [.int .i64 n1,.int .i64 n2,.bool f,.bool g,.int .i64 n5,.int .i64 n6,.bool f2,.bool g2] 0 lw E;refine wpList_store_mid rfl _ _ _ rfl (w.heap.size+1) 0 #[.int .i64 n1,.int .i64 n2,.bool f,.bool g,.int .i64 n5,.int .i64 n6,.bool f2,.bool g2] rfl rfl VT hi8T one ?_;show wpList _ _ _ _ _ (lw.setCells (w.heap.size+1) 0 [.int .i64 n1,.int .i64 n2,.bool f,.bool g,.int .i64 n5,.int .i64 n6,.bool f2,.bool g2]);go_wp2_with fail;exact hK (fun jj=>if jj=15 then .agg #[.int .i64 n1,.int .i64 n2,.bool f,.bool g,.int .i64 n5,.int .i64 n6,.bool f2,.bool g2] else lx jj) _ ⟨(XN),(vec_farF VN GN (by omega)),(fun h=>by cases h),(fun _=>VR),(fun _=>rfl),j1,j2,j4⟩
   | 4,ho,hL,haf,hK =>
    cases ho
    (try dsimp only)
    rw [j2 (haf ⟨2,.data⟩ (by simp) rfl)];refine Eq.mpr (if_pos (by rfl)) ?_;go_wp2_with fail;exact hK (fun jj=>if jj=4 then .bool q else if jj=17 then .bool q else lx jj) _ ⟨E,VN,fz,fc,j0,j1,(fun _=>rfl),(fun _=>rfl)⟩
   | k+5,ho,_,_,_=>simp at ho
  ·intro L lx w9 hall hI;obtain ⟨E,VN,fz,fc,j0,j1,j2,j4⟩:=hI.out;have BR:=fc (hall 3 (by simp));have E8:=E
   (try dsimp only)
   rw [j0 (hall 0 (by simp)),j1 (hall 1 (by simp)),j2 (hall 2 (by simp)),j4 (hall 4 (by simp))];clear hI hall fz fc VN E E9 VZ9 BN HC3 j0 j1 j2 j4;have z0:=(BR 0 _ rfl).1;have z1:=(BR 1 _ rfl).1;have z2:=(BR 2 _ rfl).1;have z3:=(BR 3 _ rfl).1;have z4:=(BR 4 _ rfl).1;have z5:=(BR 5 _ rfl).1;have z6:=(BR 6 _ rfl).1;have z7:=(BR 7 _ rfl).1;go_wp2_with fail;exact bodyPost_ret (v:=.tuple #[.agg #[.int .i64 n1,.int .i64 n2,.bool f,.bool g,.int .i64 n5,.int .i64 n6,.bool f2,.bool g2],.bool q]) (by simp [results,Tryz.results36,go_sem,z0,z1,z2,z3,z4,z5,z6,z7]) rfl ⟨⟨⟨n1,n2,f,g,n5,n6,f2,g2⟩,rfl,HT.out⟩,E8⟩
set_option maxRecDepth 8000 in
set_option maxHeartbeats 4000000 in
theorem fillFI (rows cols:Int) (v:Value) (f:List NT) (w:World) (h:NodesIn w v f) (hr:∀ x ∈ f,x.fits) (hl:f.length≤1048576) (hT:Tens w) (hE:ErrTab w) (hO:OpTab w) (LW:LibW w) (IT:ItoaC w) :
  Calls Tryz.prog 15 #[v,.int .i64 rows,.int .i64 cols] w fun e w'=>RwPostB (fillR rows cols f) w e w':=by
 have HS1:Hid (∀ W,Calls Tryz.prog 34 #[.int .i64 rows] W fun e w'=>e=.returned (.bool (isFillB rows))∧w'=W):=fun W=>isFillI rows W;have HS2:Hid (∀ W,Calls Tryz.prog 34 #[.int .i64 cols] W fun e w'=>e=.returned (.bool (isFillB cols))∧w'=W):=fun W=>isFillI cols W;have HFB:Hid (Calls Tryz.prog 35 #[.int .i64 rows,.int .i64 cols] w fun e w'=>e=.returned (.func (.func 61) #[] #[.pointer (some ⟨w.heap.size,0,none⟩),.pointer (some ⟨w.heap.size+1,0,none⟩)])∧w'=(w.alloc (.cells #[.int .i64 rows] 3)).alloc (.cells #[.int .i64 cols] 3)):=fillByI rows cols w;have X1:Ext w ((w.alloc (.cells #[.int .i64 rows] 3)).alloc (.cells #[.int .i64 cols] 3)):=xa (x1 _ _) _;have X2:Ext w (((w.alloc (.cells #[.int .i64 rows] 3)).alloc (.cells #[.int .i64 cols] 3)).alloc (.cells #[.func (.func 61) #[] #[.pointer (some ⟨w.heap.size,0,none⟩),.pointer (some ⟨w.heap.size+1,0,none⟩)]] 73)):=xa X1 _;have VR:Vec (((w.alloc (.cells #[.int .i64 rows] 3)).alloc (.cells #[.int .i64 cols] 3)).alloc (.cells #[.func (.func 61) #[] #[.pointer (some ⟨w.heap.size,0,none⟩),.pointer (some ⟨w.heap.size+1,0,none⟩)]] 73)) w.heap.size [.int .i64 rows]:=((vec_made w [.int .i64 rows] 3).later (x1 _ _)).later (x1 _ _);have VC:Vec (((w.alloc (.cells #[.int .i64 rows] 3)).alloc (.cells #[.int .i64 cols] 3)).alloc (.cells #[.func (.func 61) #[] #[.pointer (some ⟨w.heap.size,0,none⟩),.pointer (some ⟨w.heap.size+1,0,none⟩)]] 73)) (w.heap.size+1) [.int .i64 cols]:=by
  have:=(vec_made (w.alloc (.cells #[.int .i64 rows] 3)) [.int .i64 cols] 3).later (x1 _ (.cells #[.func (.func 61) #[] #[.pointer (some ⟨w.heap.size,0,none⟩),.pointer (some ⟨w.heap.size+1,0,none⟩)]] 73));rw [World.size_alloc] at this;exact this
 have VB:Vec (((w.alloc (.cells #[.int .i64 rows] 3)).alloc (.cells #[.int .i64 cols] 3)).alloc (.cells #[.func (.func 61) #[] #[.pointer (some ⟨w.heap.size,0,none⟩),.pointer (some ⟨w.heap.size+1,0,none⟩)]] 73)) (w.heap.size+1+1) [.func (.func 61) #[] #[.pointer (some ⟨w.heap.size,0,none⟩),.pointer (some ⟨w.heap.size+1,0,none⟩)]]:=by
  have:=vec_made ((w.alloc (.cells #[.int .i64 rows] 3)).alloc (.cells #[.int .i64 cols] 3)) [.func (.func 61) #[] #[.pointer (some ⟨w.heap.size,0,none⟩),.pointer (some ⟨w.heap.size+1,0,none⟩)]] 73;rw [World.size_alloc,World.size_alloc] at this;exact this
 have HB1:Hid (isFillB rows=true → -100000≤rows∧rows≤100000):=fun h=>by unfold isFillB at h;simp at h;omega
 have HB2:Hid (isFillB cols=true → -100000≤cols∧cols≤100000):=fun h=>by unfold isFillB at h;simp at h;omega
 obtain ⟨wf,hwf⟩:∃ z,((w.alloc (.cells #[.int .i64 rows] 3)).alloc (.cells #[.int .i64 cols] 3)).alloc (.cells #[.func (.func 61) #[] #[.pointer (some ⟨w.heap.size,0,none⟩),.pointer (some ⟨w.heap.size+1,0,none⟩)]] 73)=z:=⟨_,rfl⟩;have HWF:Hid (((w.alloc (.cells #[.int .i64 rows] 3)).alloc (.cells #[.int .i64 cols] 3)).alloc (.cells #[.func (.func 61) #[] #[.pointer (some ⟨w.heap.size,0,none⟩),.pointer (some ⟨w.heap.size+1,0,none⟩)]] 73)=wf):=hwf;rw [hwf] at VR VC VB X2;have HRW:Hid (isFillB rows=true→isFillB cols=true→Calls Tryz.prog 27 #[v,.func (.func 36) #[] #[.pointer (some ⟨w.heap.size+1+1,0,none⟩)]] wf fun e w'=>RwPostB (rwR (fT rows cols) f) wf e w'):=fun b1 b2 =>
  rewrittenI (fT rows cols) 36 (w.heap.size+1+1) v f wf (h.later X2) hr hl (hT.later X2) (hE.later X2) (hO.later X2) (LW.later X2) (IT.laterG X2)
   (fun x _ hg hk W2 X3=>tellF rows cols (w.heap.size+1+1) w.heap.size (w.heap.size+1) x.at W2 (good_ends hg hk) (HB1.out b1) (HB2.out b2) (VB.later X3) (VR.later X3) (VC.later X3)) (enters_of Tryz.func36 (by kernel_rfl) rfl)
 have HU:Hid (fillR rows cols f=if (isFillB rows && isFillB cols)=true then rwR (fT rows cols) f else []):=rfl;rw [HU.out];obtain ⟨B1,hB1⟩:∃ q,isFillB rows=q:=⟨_,rfl⟩;obtain ⟨B2,hB2⟩:∃ q,isFillB cols=q:=⟨_,rfl⟩;rw [hB1] at HS1 HRW ⊢;rw [hB2] at HS2 HRW ⊢;clear hB1 hB2 hwf VR VC VB h hr hl hT hE hO LW IT HU HB1 HB2 X1;have hst:=fun (W:World) (q:Addr)=>run_store Tryz.prog W q (.func (.func 61) #[] #[.pointer (some ⟨w.heap.size,0,none⟩),.pointer (some ⟨w.heap.size+1,0,none⟩)]) Mode.plain rfl;cases B1
 ·clear HRW;go_enter Tryz.func15,Tryz.ntmps15;go_wp2_with fail;refine (HS1.out w).mono ?_;rintro e w1 ⟨rfl,rfl⟩;go_wp2_with fail;go_ret;exact rwPostB_nil (xr _)
 cases B2
 ·clear HRW;go_enter Tryz.func15,Tryz.ntmps15;go_wp2_with fail;refine (HS1.out w).mono ?_;rintro e w1 ⟨rfl,rfl⟩;go_wp2_with fail;refine (HS2.out w1).mono ?_;rintro e w2 ⟨rfl,rfl⟩;go_wp2_with fail;go_ret;exact rwPostB_nil (xr _)
 ·have HRX:=Hid.out HRW rfl rfl;have HRY:Hid (Calls Tryz.prog 27 #[v,.func (.func 36) #[] #[.pointer (some ⟨w.heap.size+1+1,0,none⟩)]] wf fun e w'=>RwPostB (rwR (fT rows cols) f) wf e w'):=HRX;clear HRX HRW;go_enter Tryz.func15,Tryz.ntmps15;go_wp2_with fail;refine (HS1.out w).mono ?_;rintro e w1 ⟨rfl,hw1⟩;obtain rfl:=hw1.symm;go_wp2_with fail;refine (HS2.out _).mono ?_;rintro e w2 ⟨rfl,hw2⟩;obtain rfl:=hw2.symm;go_wp2_with fail;refine HFB.out.mono ?_;rintro e w3 ⟨rfl,hw3⟩;obtain rfl:=hw3.symm;go_wp2_with fail
  (try rw [HWF.out])
  refine HRY.out.mono ?_;rintro e w4 ⟨vo,g,rfl,h2,h3,h4⟩;have HP:Hid (RwPostB (rwR (fT rows cols) f) w (.returned vo) w4):=RwPostB.ext ⟨vo,g,rfl,h2,h3,h4⟩ X2;clear h2 h3 h4;go_wp2_with fail;go_ret;exact HP.out
theorem take_map_succ {T:AT→Option AT} {f:List NT} {k:Nat} {x:NT} (h:f[k]?=some x):(f.take (k+1)).map (rwN T)=(f.take k).map (rwN T)++[rwN T x]:=by
 rw [List.take_add_one,h,List.map_append];rfl
end Go.Proofs.YtnbagcclckekkaaGreatDoor

