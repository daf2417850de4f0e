/-
  Several texts in one: Gf2, Gf3, Gf4, Fp, Fn.
-/
import Derived.Test.YtnbagcclckekkaaGreatDoorMg20
import Derived.Test.YtnbagcclckekkaaGreatDoorShelb
import Derived.Test.YtnbagcclckekkaaGreatDoorMg13
import Derived.Deep.RegionWith
import Derived.Deep.QuietTactic
import Derived.BigQuiet
import Derived.BigRegion
import Derived.Shelf.Abstract
import Derived.Test.YtnbagcclckekkaaGreatDoorFo
import Derived.Test.YtnbagcclckekkaaGreatDoorMg19
import Derived.Test.YtnbagcclckekkaaGreatDoorMg9
namespace Go.Proofs.YtnbagcclckekkaaGreatDoor
open Go.RowKit
theorem mNodeL (v:Value) (w:World):(Go.method 365 158 v "loop.example/g00025/impl.node").run Tryz.prog w=.ok (232,v) w:=by kernel_rfl
theorem mNodeS (v:Value) (w:World):(Go.method 365 147 v "loop.example/g00025/impl.node").run Tryz.prog w=.ok (220,v) w:=by kernel_rfl
theorem mNodeP (v:Value) (w:World):(Go.method 365 152 v "loop.example/g00025/impl.node").run Tryz.prog w=.ok (223,v) w:=by kernel_rfl
theorem mNodeC (v:Value) (w:World):(Go.method 365 154 v "loop.example/g00025/impl.node").run Tryz.prog w=.ok (226,v) w:=by kernel_rfl
theorem mNodeA (v:Value) (w:World):(Go.method 365 156 v "loop.example/g00025/impl.node").run Tryz.prog w=.ok (229,v) w:=by kernel_rfl
theorem mKidsS (v:Value) (w:World):(Go.method 365 147 v "loop.example/g00025/impl.kids").run Tryz.prog w=.ok (218,v) w:=by kernel_rfl
inductive KindV:Value→Int→Prop
 | leaf (x:NT):KindV (.iface 158 x.val) x.k
 | signed (k:Int) (kid:Value):KindV (.iface 147 (.agg #[.int .i64 k,kid])) k
 | pair (t:List UInt8) (lev:Int) (l r:Value):KindV (.iface 152 (.agg #[sV t,.int .i64 lev,l,r])) 10
 | call (t:List UInt8) (p:Option Addr) (n c:Nat):KindV (.iface 154 (.agg #[sV t,.slice p n c])) 11
 | array (r:Int) (p:Option Addr) (n c:Nat) (h0:0≤r) (h1:r≤20):KindV (.iface 156 (.agg #[.int .i64 r,.slice p n c])) 12
theorem field_kind (k:Int) (l:Value) (n:Bool) (d x r c:Int) (f g:Bool) (r2 c2:Int) (f2 g2:Bool) (q:Int) (W:World):(Instr.field 59 (.agg #[.int .i64 k,l,.bool n,.int .i64 d,.int .i64 x,.int .i64 r,.int .i64 c,.bool f,.bool g,.int .i64 r2,.int .i64 c2,.bool f2,.bool g2,.int .i64 q]) 0).run Tryz.prog W=.ok (.int .i64 k) W:=by kernel_rfl
theorem fItoaSm:layItoaS_ren.f 171=131:=by kernel_rfl
theorem itoaSm (i:Nat) (hi:i<100) (w:World) :
  Calls Tryz.prog 131 #[.int .i64 (i:Int)] w fun e w'=>e=.returned (sV (Lib.decDigits i))∧w'=w:=by
 have h:=Any.strconv_Itoa_small layItoaS i hi w;rw [fItoaSm] at h;exact h
set_option maxRecDepth 8000 in
set_option maxHeartbeats 1000000 in
theorem node_array (r:Int) (p:Option Addr) (n c:Nat) (w:World) (h0:0≤r) (h1:r≤20):Calls Tryz.prog 229 #[.agg #[.int .i64 r,.slice p n c]] w fun e w'=>(∃ t,e=.returned (.agg #[.int .i64 12,sV t,.bool false,.int .i64 0,.int .i64 0,.int .i64 0,.int .i64 0,.bool false,.bool false,.int .i64 0,.int .i64 0,.bool false,.bool false,.int .i64 (n:Int)]))∧Ext w w':=by
 obtain ⟨i,rfl⟩:∃ i:Nat,r=(i:Int):=⟨r.toNat,by omega⟩;obtain ⟨D,hD⟩:∃ D,Lib.decDigits i=D:=⟨_,rfl⟩;have IT:∀ W,Calls Tryz.prog 131 #[.int .i64 (i:Int)] W fun e w'=>e=.returned (sV D)∧w'=W:=fun W=>by rw [← hD];exact itoaSm i (by omega) W
 have VN:=vec_made w [.int .i64 (i:Int),.slice p n c] 156;have X1:=x1 w (.cells [.int .i64 (i:Int),.slice p n c].toArray 156);obtain ⟨wa,ha⟩:∃ wa,w.alloc (.cells [.int .i64 (i:Int),.slice p n c].toArray 156)=wa:=⟨_,rfl⟩;have VZ:=vec_made wa [.int .i64 0,.string ⟨#[]⟩,.bool false,.int .i64 0,.int .i64 0,.int .i64 0,.int .i64 0,.bool false,.bool false,.int .i64 0,.int .i64 0,.bool false,.bool false,.int .i64 0] 59;have X2:=x1 wa (.cells [.int .i64 0,.string ⟨#[]⟩,.bool false,.int .i64 0,.int .i64 0,.int .i64 0,.int .i64 0,.bool false,.bool false,.int .i64 0,.int .i64 0,.bool false,.bool false,.int .i64 0].toArray 59);have sa:wa.heap.size=w.heap.size+1:=by rw [← ha,World.size_alloc]
 obtain ⟨wb,hb⟩:∃ wb,wa.alloc (.cells [.int .i64 0,.string ⟨#[]⟩,.bool false,.int .i64 0,.int .i64 0,.int .i64 0,.int .i64 0,.bool false,.bool false,.int .i64 0,.int .i64 0,.bool false,.bool false,.int .i64 0].toArray 59)=wb:=⟨_,rfl⟩;rw [ha] at VN X1;rw [hb] at VZ X2;rw [sa] at VZ;have VN:=VN.later X2;have X:=xt X1 X2;clear X1 X2 hD h0 h1;have a0:=(VN 0 _ rfl).1;have a1:=(VN 1 _ rfl).1;go_enter Tryz.func229,Tryz.ntmps229;go_wp2_with fail;refine wp_region_letters_c (fun lx:Nat→Value=>{ tmps:=#[.agg #[.int .i64 (i:Int),.slice p n c],.pointer (some ⟨w.heap.size,0,none⟩),.pointer (some ⟨w.heap.size+1,0,none⟩),lx 3,lx 4,lx 5,lx 6,lx 7,lx 8,lx 9],defers:=[] }) (fun L lx lw=>Hid ((L 7=false→Ext wb lw)∧(L 7=true→lw.rangeAt (w.heap.size+1) 0 [.int .i64 12,sV D,.bool false,.int .i64 0,.int .i64 0,.int .i64 0,.int .i64 0,.bool false,.bool false,.int .i64 0,.int .i64 0,.bool false,.bool false,.int .i64 (n:Int)]∧Ext w lw)∧(L 0=true→lx 3=.pointer (some ⟨w.heap.size,0,none⟩))∧(L 1=true→lx 4=.int .i64 (i:Int))∧(L 2=true→lx 5=sV D)∧(L 3=true→lx 6=.pointer (some ⟨w.heap.size,1,none⟩))∧(L 4=true→lx 7=.slice p n c)∧(L 5=true→lx 8=.int .i64 (n:Int))∧(L 6=true→lx 9=.agg #[.int .i64 12,sV D,.bool false,.int .i64 0,.int .i64 0,.int .i64 0,.int .i64 0,.bool false,.bool false,.int .i64 0,.int .i64 0,.bool false,.bool false,.int .i64 (n:Int)]))) rfl (by kernel_rfl) (fun _=>undef) rfl ?_ ?_ ?_
 ·exact ⟨(fun _=>xd (xr _)),(fun h=>by cases h),(fun h=>by cases h),(fun h=>by cases h),(fun h=>by cases h),(fun h=>by cases h),(fun h=>by cases h),(fun h=>by cases h),(fun h=>by cases h)⟩
 ·intro L lx wl ix o K hK ho hL haf hI hcl;obtain ⟨E,S,f0,f1,f2,f3,f4,f5,f6⟩:=hI.out
  match ix,ho,hL,haf,hK with
  | 0,ho,hL,haf,hK =>
   cases ho
   (try dsimp only)
   have h7:L 7=false:=hcl.bars (i:=7) (j:=0) [6,2,1,0] hL (by kernel_rfl) rfl;refine Eq.mpr (if_pos (by rfl)) ?_;go_wp2_with fail;exact hK (fun jj=>if jj=3 then .pointer (some ⟨w.heap.size,0,none⟩) else lx jj) _ ⟨E,S,(fun _=>rfl),f1,f2,f3,f4,f5,f6⟩
  | 1,ho,hL,haf,hK =>
   cases ho
   (try dsimp only)
   have h7:L 7=false:=hcl.bars (i:=7) (j:=1) [6,2,1] hL (by kernel_rfl) rfl;rw [f0 (haf ⟨0,.data⟩ (by simp) rfl)];refine Eq.mpr (if_pos (by rfl)) ?_;have c0:=cell_later (E h7) a0;go_wp2_with fail;exact hK (fun jj=>if jj=4 then .int .i64 (i:Int) else if jj=3 then .pointer (some ⟨w.heap.size,0,none⟩) else lx jj) _ ⟨E,S,(fun _=>rfl),(fun _=>rfl),f2,f3,f4,f5,f6⟩
  | 2,ho,hL,haf,hK =>
   cases ho
   (try dsimp only)
   have h7:L 7=false:=hcl.bars (i:=7) (j:=2) [6,2] hL (by kernel_rfl) rfl;rw [f1 (haf ⟨1,.data⟩ (by simp) rfl)];refine Eq.mpr (if_pos (by rfl)) ?_;go_wp2_with fail;refine (IT wl).mono ?_;rintro rr w' ⟨rfl,rfl⟩;go_wp2_with fail;exact hK (fun jj=>if jj=5 then sV D else if jj=4 then .int .i64 (i:Int) else lx jj) _ ⟨E,S,f0,(fun _=>rfl),(fun _=>rfl),f3,f4,f5,f6⟩
  | 3,ho,hL,haf,hK =>
   cases ho
   (try dsimp only)
   have h7:L 7=false:=hcl.bars (i:=7) (j:=3) [6,5,4,3] hL (by kernel_rfl) rfl;refine Eq.mpr (if_pos (by rfl)) ?_;go_wp2_with fail;exact hK (fun jj=>if jj=6 then .pointer (some ⟨w.heap.size,1,none⟩) else lx jj) _ ⟨E,S,f0,f1,f2,(fun _=>rfl),f4,f5,f6⟩
  | 4,ho,hL,haf,hK =>
   cases ho
   (try dsimp only)
   have h7:L 7=false:=hcl.bars (i:=7) (j:=4) [6,5,4] hL (by kernel_rfl) rfl;rw [f3 (haf ⟨3,.data⟩ (by simp) rfl)];refine Eq.mpr (if_pos (by rfl)) ?_;have c1:=cell_later (E h7) a1;go_wp2_with fail;exact hK (fun jj=>if jj=7 then .slice p n c else if jj=6 then .pointer (some ⟨w.heap.size,1,none⟩) else lx jj) _ ⟨E,S,f0,f1,f2,(fun _=>rfl),(fun _=>rfl),f5,f6⟩
  | 5,ho,hL,haf,hK =>
   cases ho
   (try dsimp only)
   have h7:L 7=false:=hcl.bars (i:=7) (j:=5) [6,5] hL (by kernel_rfl) rfl;rw [f4 (haf ⟨4,.data⟩ (by simp) rfl)];refine Eq.mpr (if_pos (by rfl)) ?_;go_wp2_with fail;exact hK (fun jj=>if jj=8 then .int .i64 (n:Int) else if jj=7 then .slice p n c else lx jj) _ ⟨E,S,f0,f1,f2,f3,(fun _=>rfl),(fun _=>rfl),f6⟩
  | 6,ho,hL,haf,hK =>
   cases ho
   (try dsimp only)
   have h7:L 7=false:=hcl.bars (i:=7) (j:=6) [6] hL (by kernel_rfl) rfl;rw [f2 (haf ⟨2,.data⟩ (by simp) rfl),f5 (haf ⟨5,.data⟩ (by simp) rfl)];refine Eq.mpr (if_pos (by rfl)) ?_;go_wp2_with fail;exact hK (fun jj=>if jj=9 then .agg #[.int .i64 12,sV D,.bool false,.int .i64 0,.int .i64 0,.int .i64 0,.int .i64 0,.bool false,.bool false,.int .i64 0,.int .i64 0,.bool false,.bool false,.int .i64 (n:Int)] else if jj=5 then sV D else if jj=8 then .int .i64 (n:Int) else lx jj) _ ⟨E,S,f0,f1,(fun _=>rfl),f3,f4,(fun _=>rfl),(fun _=>rfl)⟩
  | 7,ho,hL,haf,hK =>
   cases ho
   (try dsimp only)
   rw [f6 (haf ⟨6,.data⟩ (by simp) rfl)];refine Eq.mpr (if_pos (by rfl)) ?_;have E7:=E hL;have VT:=(VZ.later E7).there;have VR:=World.rangeAt_setCells_same wl (w.heap.size+1) 0 [.int .i64 12,sV D,.bool false,.int .i64 0,.int .i64 0,.int .i64 0,.int .i64 0,.bool false,.bool false,.int .i64 0,.int .i64 0,.bool false,.bool false,.int .i64 (n:Int)] VT;have XR:=Ext.setCells (b:=w.heap.size+1) (by omega) [.int .i64 12,sV D,.bool false,.int .i64 0,.int .i64 0,.int .i64 0,.int .i64 0,.bool false,.bool false,.int .i64 0,.int .i64 0,.bool false,.bool false,.int .i64 (n:Int)] 0 wl (xt X E7);have one:(#[.int .i64 12,sV D,.bool false,.int .i64 0,.int .i64 0,.int .i64 0,.int .i64 0,.bool false,.bool false,.int .i64 0,.int .i64 0,.bool false,.bool false,.int .i64 (n:Int)]:Array Value).all (·.oneCell')=true:=by simp [Value.oneCell']
   refine wpList_store_mid rfl _ _ _ rfl (w.heap.size+1) 0 #[.int .i64 12,sV D,.bool false,.int .i64 0,.int .i64 0,.int .i64 0,.int .i64 0,.bool false,.bool false,.int .i64 0,.int .i64 0,.bool false,.bool false,.int .i64 (n:Int)] rfl rfl VT hi14N one ?_;go_wp2_with fail;exact hK (fun jj=>if jj=9 then .agg #[.int .i64 12,sV D,.bool false,.int .i64 0,.int .i64 0,.int .i64 0,.int .i64 0,.bool false,.bool false,.int .i64 0,.int .i64 0,.bool false,.bool false,.int .i64 (n:Int)] else lx jj) _ ⟨(fun h=>by cases h),(fun _=>⟨VR,XR⟩),f0,f1,f2,f3,f4,f5,(fun _=>rfl)⟩
  | k+8,ho,_,_,_=>simp at ho
 ·intro L lx wq hall hI;obtain ⟨E,S,f0,f1,f2,f3,f4,f5,f6⟩:=hI.out;obtain ⟨VR,XR⟩:=S (hall 7 (by simp));have e0:=rangeAt_cell VR (i:=0) rfl;have e1:=rangeAt_cell VR (i:=1) rfl;have e2:=rangeAt_cell VR (i:=2) rfl;have e3:=rangeAt_cell VR (i:=3) rfl;have e4:=rangeAt_cell VR (i:=4) rfl;have e5:=rangeAt_cell VR (i:=5) rfl;have e6:=rangeAt_cell VR (i:=6) rfl;have e7:=rangeAt_cell VR (i:=7) rfl;have e8:=rangeAt_cell VR (i:=8) rfl;have e9:=rangeAt_cell VR (i:=9) rfl;have e10:=rangeAt_cell VR (i:=10) rfl;have e11:=rangeAt_cell VR (i:=11) rfl;have e12:=rangeAt_cell VR (i:=12) rfl;have e13:=rangeAt_cell VR (i:=13) rfl
  (try dsimp only)
  go_wp2_with fail;exact bodyPost_ret (v:=.agg #[.int .i64 12,sV D,.bool false,.int .i64 0,.int .i64 0,.int .i64 0,.int .i64 0,.bool false,.bool false,.int .i64 0,.int .i64 0,.bool false,.bool false,.int .i64 (n:Int)]) (by simp [results,Tryz.results229,go_sem,e0,e1,e2,e3,e4,e5,e6,e7,e8,e9,e10,e11,e12,e13]) rfl ⟨⟨D,rfl⟩,XR⟩
set_option maxRecDepth 8000 in
set_option maxHeartbeats 1000000 in
theorem isNothingI (v:Value) (k:Int) (w:World) (h:KindV v k):Calls Tryz.prog 84 #[v] w fun e w'=>e=.returned (.bool (decide (k=13)))∧Ext w w':=by
 have M1:=mNodeL;have M2:=mNodeS;have M3:=mNodeP;have M4:=mNodeC;have M5:=mNodeA;have F:=field_kind;cases h with
 | leaf x =>
  go_enter Tryz.func84,Tryz.ntmps84;go_wp2_with fail;refine (node_leaf x w).mono ?_;rintro e w1 ⟨rfl,e1⟩;go_wp2_with fail;go_ret;exact ⟨ret_bool (by first | rfl | simp | (cases hq:_ == _ <;> simp_all)),e1⟩
 | signed k kid =>
  go_enter Tryz.func84,Tryz.ntmps84;go_wp2_with fail;refine (node_signed k kid w).mono ?_;rintro e w1 ⟨rfl,e1⟩;go_wp2_with fail;go_ret;exact ⟨ret_bool (by first | rfl | simp | (cases hq:_ == _ <;> simp_all)),e1⟩
 | pair t lev l r =>
  go_enter Tryz.func84,Tryz.ntmps84;go_wp2_with fail;refine (node_pair t lev l r w).mono ?_;rintro e w1 ⟨rfl,e1⟩;go_wp2_with fail;go_ret;exact ⟨ret_bool (by first | rfl | simp | (cases hq:_ == _ <;> simp_all)),e1⟩
 | call t p n c =>
  go_enter Tryz.func84,Tryz.ntmps84;go_wp2_with fail;refine (node_call t p n c w).mono ?_;rintro e w1 ⟨rfl,e1⟩;go_wp2_with fail;go_ret;exact ⟨ret_bool (by first | rfl | simp | (cases hq:_ == _ <;> simp_all)),e1⟩
 | array r p n c h0 h1 =>
  go_enter Tryz.func84,Tryz.ntmps84;go_wp2_with fail;refine (node_array r p n c w h0 h1).mono ?_;rintro e w1 ⟨⟨t,rfl⟩,e1⟩;go_wp2_with fail;go_ret;exact ⟨ret_bool (by first | rfl | simp | (cases hq:_ == _ <;> simp_all)),e1⟩
def ShapeV (v:Value) (e:ET):Prop:=KindV v e.n.k∧(e.n.k=8→∃ kid x,v=.iface 147 (.agg #[.int .i64 8,kid])∧e.kids=[x]∧KindV kid x.n.k)
theorem KindV.iface {v:Value} {k:Int} (h:KindV v k):∃ T a,v=.iface T a:=by
 cases h <;> exact ⟨_,_,rfl⟩
set_option maxRecDepth 8000 in
set_option maxHeartbeats 1000000 in
theorem kids_signed (k:Int) (T:TypeId) (a:Value) (w:World):Calls Tryz.prog 218 #[.agg #[.int .i64 k,(.iface T a)]] w fun e w'=>∃ b,e=.returned (.slice (some ⟨b,0,none⟩) 1 1)∧Vec w' b [(.iface T a)]∧Ext w w':=by
 have VN:=vec_made w [.int .i64 k,(.iface T a)] 147;have X1:=x1 w (.cells [.int .i64 k,(.iface T a)].toArray 147);obtain ⟨wa,ha⟩:∃ wa,w.alloc (.cells [.int .i64 k,(.iface T a)].toArray 147)=wa:=⟨_,rfl⟩;rw [ha] at VN X1;have a1:=(VN 1 _ rfl).1;have V2:=vec_made wa [(.iface T a)] 115;have X2:=x1 wa (.cells [(.iface T a)].toArray 115);go_enter Tryz.func218,Tryz.ntmps218;go_wp2_with fail;go_ret;exact ⟨_,rfl,V2,xt X1 X2⟩
set_option maxRecDepth 8000 in
set_option maxHeartbeats 2000000 in
theorem noVal_minus (kid:Value) (j:Int) (w:World) (h:KindV kid j):Calls Tryz.prog 114 #[.iface 147 (.agg #[.int .i64 8,kid])] w fun e w'=>e=.returned (.bool (!decide (j=1)))∧Ext w w':=by
 have M1:=mNodeL;have M2:=mNodeS;have M3:=mNodeP;have M4:=mNodeC;have M5:=mNodeA;have M6:=mKidsS;have F:=field_kind;go_enter Tryz.func114,Tryz.ntmps114;go_wp2_with fail;refine (node_signed 8 kid w).mono ?_;rintro e w1 ⟨rfl,e1⟩;go_wp2_with fail;obtain ⟨T,a,rfl⟩:=h.iface;refine (kids_signed 8 T a w1).mono ?_;rintro e w2 ⟨b,rfl,V,e2⟩;have c0:=(V 0 _ rfl).1;have X2:=xt e1 e2;clear V e1 e2;cases h with
 | leaf x =>
  go_wp2_with fail;refine (node_leaf x w2).mono ?_;rintro e w3 ⟨rfl,e3⟩;go_wp2_with fail;go_ret;exact ⟨ret_bool (by first | rfl | simp | (cases hq:_ == _ <;> simp_all)),xt X2 e3⟩
 | signed k kid2 =>
  go_wp2_with fail;refine (node_signed j kid2 w2).mono ?_;rintro e w3 ⟨rfl,e3⟩;go_wp2_with fail;go_ret;exact ⟨ret_bool (by first | rfl | simp | (cases hq:_ == _ <;> simp_all)),xt X2 e3⟩
 | pair t lev l r =>
  go_wp2_with fail;refine (node_pair t lev l r w2).mono ?_;rintro e w3 ⟨rfl,e3⟩;go_wp2_with fail;go_ret;exact ⟨ret_bool (by first | rfl | simp | (cases hq:_ == _ <;> simp_all)),xt X2 e3⟩
 | call t p n c =>
  go_wp2_with fail;refine (node_call t p n c w2).mono ?_;rintro e w3 ⟨rfl,e3⟩;go_wp2_with fail;go_ret;exact ⟨ret_bool (by first | rfl | simp | (cases hq:_ == _ <;> simp_all)),xt X2 e3⟩
 | array r p n c h0 h1 =>
  go_wp2_with fail;refine (node_array r p n c w2 h0 h1).mono ?_;rintro e w3 ⟨⟨t,rfl⟩,e3⟩;go_wp2_with fail;go_ret;exact ⟨ret_bool (by first | rfl | simp | (cases hq:_ == _ <;> simp_all)),xt X2 e3⟩
set_option maxRecDepth 8000 in
set_option maxHeartbeats 2000000 in
theorem noVal_other (v:Value) (k:Int) (w:World) (h:KindV v k) (h8:k ≠ 8):Calls Tryz.prog 114 #[v] w fun e w'=>e=.returned (.bool (if k=1∨k=2∨k=3∨k=4 then false else true))∧Ext w w':=by
 have M1:=mNodeL;have M2:=mNodeS;have M3:=mNodeP;have M4:=mNodeC;have M5:=mNodeA;have F:=field_kind;cases h with
 | leaf x =>
  obtain ⟨k,hk⟩:∃ k,x.k=k:=⟨_,rfl⟩;have ND:=node_leaf x w;rw [hk] at ND h8 ⊢;show Calls Tryz.prog 114 #[.iface 158 (.agg #[.int .i64 x.k,sV x.t,.bool x.n,.int .i64 x.d,.int .i64 x.x,.int .i64 x.r,.int .i64 x.c,.bool x.f,.bool x.g,.int .i64 x.r2,.int .i64 x.c2,.bool x.f2,.bool x.g2,.int .i64 x.q])] w _;rw [hk];clear hk;by_cases h14:k=1∨k=2∨k=3∨k=4
  ·rw [if_pos h14]
   rcases h14 with rfl | rfl | rfl | rfl
   all_goals
    go_enter Tryz.func114,Tryz.ntmps114;go_wp2_with fail;refine ND.mono ?_;rintro e w3 ⟨rfl,e3⟩;go_wp2_with fail;go_ret;exact ⟨rfl,e3⟩
  ·rw [if_neg h14];have q1:¬ k=1:=fun q=>h14 (.inl q);have q2:¬ k=2:=fun q=>h14 (.inr (.inl q));have q3:¬ k=3:=fun q=>h14 (.inr (.inr (.inl q)));have q4:¬ k=4:=fun q=>h14 (.inr (.inr (.inr q)));clear h14;go_enter Tryz.func114,Tryz.ntmps114;go_wp2_with fail;refine ND.mono ?_;rintro e w3 ⟨rfl,e3⟩;go_wp2_with fail;go_ret;exact ⟨rfl,e3⟩
 | signed k kid =>
  have ND:=node_signed k kid w;by_cases h14:k=1∨k=2∨k=3∨k=4
  ·rw [if_pos h14]
   rcases h14 with rfl | rfl | rfl | rfl
   all_goals
    go_enter Tryz.func114,Tryz.ntmps114;go_wp2_with fail;refine ND.mono ?_;rintro e w3 ⟨rfl,e3⟩;go_wp2_with fail;go_ret;exact ⟨rfl,e3⟩
  ·rw [if_neg h14];have q1:¬ k=1:=fun q=>h14 (.inl q);have q2:¬ k=2:=fun q=>h14 (.inr (.inl q));have q3:¬ k=3:=fun q=>h14 (.inr (.inr (.inl q)));have q4:¬ k=4:=fun q=>h14 (.inr (.inr (.inr q)));clear h14;go_enter Tryz.func114,Tryz.ntmps114;go_wp2_with fail;refine ND.mono ?_;rintro e w3 ⟨rfl,e3⟩;go_wp2_with fail;go_ret;exact ⟨rfl,e3⟩
 | pair t lev l r =>
  go_enter Tryz.func114,Tryz.ntmps114;go_wp2_with fail;refine (node_pair t lev l r w).mono ?_;rintro e w3 ⟨rfl,e3⟩;go_wp2_with fail;go_ret;exact ⟨by simp,e3⟩
 | call t p n c =>
  go_enter Tryz.func114,Tryz.ntmps114;go_wp2_with fail;refine (node_call t p n c w).mono ?_;rintro e w3 ⟨rfl,e3⟩;go_wp2_with fail;go_ret;exact ⟨by simp,e3⟩
 | array r p n c h0 h1 =>
  go_enter Tryz.func114,Tryz.ntmps114;go_wp2_with fail;refine (node_array r p n c w h0 h1).mono ?_;rintro e w3 ⟨⟨t,rfl⟩,e3⟩;go_wp2_with fail;go_ret;exact ⟨by simp,e3⟩
theorem noValI (v:Value) (e:ET) (w:World) (h:ShapeV v e):Calls Tryz.prog 114 #[v] w fun r w'=>r=.returned (.bool (noValE e))∧Ext w w':=by
 by_cases h8:e.n.k=8
 ·obtain ⟨kid,x,rfl,hk,hx⟩:=h.2 h8;have:=noVal_minus kid _ w hx;have he:noValE e=!decide (x.n.k=1):=by
   unfold noValE;rw [if_neg (by omega),if_pos h8,hk];simp
  rw [he];exact this
 ·have:=noVal_other v _ w h.1 h8;have he:noValE e=if e.n.k=1∨e.n.k=2∨e.n.k=3∨e.n.k=4 then false else true:=by
   unfold noValE;by_cases h14:e.n.k=1∨e.n.k=2∨e.n.k=3∨e.n.k=4
   ·rw [if_pos h14,if_pos h14]
   ·rw [if_neg h14,if_neg h14,if_neg h8]
  rw [he];exact this
theorem isNoI (v:Value) (e:ET) (w:World) (h:ShapeV v e):Calls Tryz.prog 84 #[v] w fun r w'=>r=.returned (.bool (isNoE e))∧Ext w w':=isNothingI v _ w h.1
def TreesAt (w:World) (v:Value) (vs:List Value):Prop:=∃ p cap,v=.slice p vs.length cap∧vs.length≤cap∧(0<vs.length→∃ g,p=some ⟨g,0,none⟩∧Vec w g vs)
theorem TreesAt.later {w w':World} {v:Value} {vs:List Value} (h:TreesAt w v vs) (x:Ext w w'):TreesAt w' v vs:=by
 obtain ⟨p,cap,rfl,hc,hv⟩:=h;exact ⟨p,cap,rfl,hc,fun h0=>by obtain ⟨g,rfl,V⟩:=hv h0;exact ⟨g,rfl,V.later x⟩⟩
def ShapesV (vs:List Value) (es:List ET):Prop:=vs.length=es.length∧∀ (i:Nat) (v:Value) (e:ET),vs[i]?=some v→es[i]?=some e→ShapeV v e
theorem ShapesV.nil:ShapesV [] []:=⟨rfl,fun i v e h=>by cases h⟩
theorem ShapesV.snoc {vs:List Value} {es:List ET} (h:ShapesV vs es) {v:Value} {e:ET} (hv:ShapeV v e):ShapesV (vs++[v]) (es++[e]):=by
 refine ⟨by simp [h.1],fun i u d hu hd=>?_⟩;by_cases hi:i<vs.length
 ·rw [List.getElem?_append_left hi] at hu;rw [List.getElem?_append_left (by rw [← h.1];exact hi)] at hd;exact h.2 i u d hu hd
 ·have hi':i=vs.length:=by
   have:=(List.getElem?_eq_some_iff.1 hu).1;simp at this;omega
  subst hi';rw [List.getElem?_append_right (Nat.le_refl _)] at hu;rw [h.1,List.getElem?_append_right (Nat.le_refl _)] at hd;simp at hu hd;subst hu hd;exact hv
theorem ShapesV.get {vs:List Value} {es:List ET} (h:ShapesV vs es) {i:Nat} (hi:i<vs.length):∃ v e,vs[i]?=some v∧es[i]?=some e∧ShapeV v e:=
 ⟨vs[i],es[i]'(by rw [← h.1];exact hi),List.getElem?_eq_getElem hi,List.getElem?_eq_getElem _,h.2 i _ _ (List.getElem?_eq_getElem hi) (List.getElem?_eq_getElem _)⟩
structure AsksE (f:Nat) (p:ET→Bool):Prop where
 ent:∀ args w,(callFunc f args).run Tryz.prog w=.ok (.enter f args) w
 says:∀ W v e,ShapeV v e→Calls Tryz.prog f #[v] W fun z w'=>z=.returned (.bool (p e))∧Ext W w'
def FirstE (l:List ET) (p:ET→Bool) (e:Ending):Prop:=
 (e=.returned (.int .i64 (-1))∧∀ x ∈ l,p x=false)∨∃ (m:Nat) (x:ET),e=.returned (.int .i64 m)∧l[m]?=some x∧p x=true
set_option maxRecDepth 8000 in
set_option maxHeartbeats 2000000 in
theorem indexE (f:Nat) (v:Value) (vs:List Value) (l:List ET) (p:ET→Bool) (w:World) (A:AsksE f p) (h:TreesAt w v vs) (hs:ShapesV vs l) (hl:l.length≤1048576) :
  Calls Tryz.prog 134 #[v,.func (.func f) #[] #[]] w fun e w'=>FirstE l p e∧Ext w w':=by
 have ent:=A.ent;have HA:Hid (∀ W v e,ShapeV v e→Calls Tryz.prog f #[v] W fun z w'=>z=.returned (.bool (p e))∧Ext W w'):=A.says;obtain ⟨pk,nk,rfl,hc,hrow⟩:=h;have HV:Hid (0<vs.length→∃ g,pk=some ⟨g,0,none⟩∧Vec w g vs):=hrow;have HS:Hid (ShapesV vs l):=hs;obtain ⟨n,hn⟩:∃ n,vs.length=n:=⟨_,rfl⟩;have HN:Hid (vs.length=n):=hn;have hnl:n≤1048576:=by rw [← hn,hs.1];exact hl
 rw [hn] at hc HV ⊢;clear hrow A hn hs hl;go_enter Tryz.func134,Tryz.ntmps134;go_wp2_with fail;go_loopw [8] (fun i wr=>∃ k:Nat,k≤n∧i=.int .i64 k∧Hid (Ext w wr∧∀ j x,j<k→l[j]?=some x→p x=false)) (fun i _=>n - (intOf i).toNat)
 case atStart=>exact ⟨0,by omega,rfl,xr _,fun j x hj=>absurd hj (by omega)⟩
 case round =>
  obtain ⟨k,hk,rfl,HO⟩:=hrel;by_cases hlt:k<n
  ·have i2:(k:Int)<(n:Int):=by omega
   obtain ⟨u,x,hu,hx,hux⟩:=HS.out.get (i:=k) (by rw [HN.out];exact hlt);obtain ⟨g,rfl,RW⟩:=HV.out (by omega);have a0:=((RW.later HO.out.1) k _ hu).1;have CA:=HA.out wr u x hux;have HX:Hid (l[k]?=some x):=hx;obtain ⟨q,hq⟩:∃ q,p x=q:=⟨_,rfl⟩;have HQ:Hid (p x=q):=hq;rw [hq] at CA;clear hx hq RW hu hux;cases q
   ·go_wp2_with (go_at_fn f;refine CA.mono ?_;rintro e w1 ⟨rfl,e1⟩);have HM:Hid (Ext w w1∧∀ j x,j<k+1→l[j]?=some x→p x=false):=⟨xt HO.out.1 e1,fun j y hj hy=>by
     by_cases e:j=k
     ·subst e;rw [HX.out] at hy;cases hy;exact HQ.out
     ·exact HO.out.2 j y (by omega) hy⟩
    go_roundw
    case rel=>exact ⟨k+1,by omega,by go_num,HM⟩
    case measure=>simp [intOf];omega
   ·go_wp2_with (go_at_fn f;refine CA.mono ?_;rintro e w1 ⟨rfl,e1⟩);go_ret;exact ⟨Or.inr ⟨k,_,rfl,HX.out,HQ.out⟩,xt HO.out.1 e1⟩
  ·obtain rfl:k=n:=by omega
   have i2:¬ (k:Int)<(k:Int):=by omega
   go_wp2_with fail;go_ret;refine ⟨Or.inl ⟨rfl,fun x hx=>?_⟩,HO.out.1⟩;obtain ⟨j,hj,rfl⟩:=List.getElem_of_mem hx;exact HO.out.2 j _ (by rw [← HN.out,HS.out.1];exact hj) (List.getElem?_eq_getElem hj)
set_option maxHeartbeats 2000000 in
theorem containsE (f:Nat) (v:Value) (vs:List Value) (l:List ET) (p:ET→Bool) (w:World) (A:AsksE f p) (h:TreesAt w v vs) (hs:ShapesV vs l) (hl:l.length≤1048576) :
  Calls Tryz.prog 113 #[v,.func (.func f) #[] #[]] w fun e w'=>e=.returned (.bool (l.any p))∧Ext w w':=by
 have C0:=indexE f v vs l p w A h hs hl;obtain ⟨pk,nk,rfl,_,_⟩:=h;have HR:Hid ((∀ x ∈ l,p x=false)→l.any p=false):=fun h=>by
  rw [Bool.eq_false_iff];intro hc;obtain ⟨x,hx,hp⟩:=List.any_eq_true.1 hc;rw [h x hx] at hp;cases hp
 have HS:Hid (∀ (m:Nat) x,l[m]?=some x→p x=true→l.any p=true):=fun m x hm hp=>List.any_eq_true.2 ⟨x,List.mem_of_getElem? hm,hp⟩;obtain ⟨R,hR⟩:∃ R,l.any p=R:=⟨_,rfl⟩;rw [hR] at HR HS ⊢;obtain ⟨n,hn⟩:∃ n,vs.length=n:=⟨_,rfl⟩;rw [hn] at C0 ⊢;clear A hR hn hs;go_enter Tryz.func113,Tryz.ntmps113;go_wp2_with fail;refine C0.mono ?_;rintro e w1 ⟨⟨rfl,h⟩ | ⟨m,x,rfl,hm,hp⟩,e1⟩
 ·obtain rfl:=HR.out h;clear h;go_wp2_with fail;go_ret;exact ⟨rfl,e1⟩
 ·obtain rfl:=HS.out m x hm hp;clear hm hp;have m0:(0:Int)≤(m:Int):=by omega
  have m1:decide ((m:Int) ≥ 0)=true:=decide_eq_true m0;go_wp2_with fail;go_ret;exact ⟨rfl,e1⟩
theorem asksNoVal:AsksE 114 noValE:=⟨fun args w=>by kernel_rfl,fun W v e h=>noValI v e W h⟩
theorem asksNo:AsksE 84 isNoE:=⟨fun args w=>by kernel_rfl,fun W v e h=>isNoI v e W h⟩
set_option maxRecDepth 8000 in
set_option maxHeartbeats 2000000 in
theorem kidsI (k:Int) (v:Value) (vs:List Value) (l:List ET) (w:World) (h:TreesAt w v vs) (hs:ShapesV vs l) (hl:l.length≤1048576) :
  Calls Tryz.prog 91 #[.int .i64 k,v] w fun e w'=>e=.returned (.bool (kidsB k l))∧Ext w w':=by
 have C1:=containsE 114 v vs l noValE w asksNoVal h hs hl;have C2:=containsE 84 v vs l isNoE w asksNo h hs hl;obtain ⟨p,cap,rfl,hc,hrow⟩:=h;obtain ⟨Q,hQ⟩:∃ Q,kidsB k l=Q:=⟨_,rfl⟩;have HQ:Hid (kidsB k l=Q):=hQ;rw [hQ];clear hQ;by_cases h11:k=11
 ·subst h11;clear C1 C2;by_cases h1:vs.length=1
  ·obtain ⟨g,rfl,V⟩:=hrow (by omega);obtain ⟨u,hu⟩:=List.length_eq_one_iff.1 h1;obtain ⟨x,hx⟩:=List.length_eq_one_iff.1 (show l.length=1 by rw [← hs.1];exact h1);subst hu hx;have hux:=hs.2 0 u x rfl rfl;have a0:=(V 0 u rfl).1;have CN:=isNoI u x w hux;obtain ⟨q,hq⟩:∃ q,isNoE x=q:=⟨_,rfl⟩;have HE:Hid ((!q)=Q):=by show _=_;rw [← HQ.out];simp [kidsB,hq]
   rw [hq] at CN;clear hq HQ V hux hs hrow;show Calls Tryz.prog 91 #[.int .i64 11,.slice (some ⟨g,0,none⟩) 1 cap] w _;go_enter Tryz.func91,Tryz.ntmps91;go_wp2_with (go_at_call 84;refine CN.mono ?_;rintro e w1 ⟨rfl,e1⟩);go_ret;exact ⟨ret_bool HE.out,e1⟩
  ·obtain ⟨n,hn⟩:∃ n,vs.length=n:=⟨_,rfl⟩;have hne:¬ l.length=1:=by rw [← hs.1];exact h1
   have HE:Hid (true=Q):=by show _=_;rw [← HQ.out];simp [kidsB,hne]
   rw [hn] at h1 ⊢;have h1':((n:Int) != 1)=true:=by simp;omega
   have h1'':¬ ((n:Int)=1):=by omega
   clear hrow hs hn HQ hne hc;go_enter Tryz.func91,Tryz.ntmps91;go_wp2_with fail;go_ret;exact ⟨ret_bool HE.out,xr _⟩
 ·by_cases h12:k=12
  ·subst h12;obtain ⟨q,hq⟩:∃ q,l.any noValE=q:=⟨_,rfl⟩;have HE:Hid ((!q)=Q):=by show _=_;rw [← HQ.out];simp [kidsB,hq]
   rw [hq] at C1;clear hq HQ hrow hs C2 hc;go_enter Tryz.func91,Tryz.ntmps91;go_wp2_with fail;refine C1.mono ?_;rintro e w1 ⟨rfl,e1⟩;go_wp2_with fail;go_ret;exact ⟨ret_bool HE.out,e1⟩
  ·obtain ⟨q,hq⟩:∃ q,l.any isNoE=q:=⟨_,rfl⟩;have HE:Hid ((!q)=Q):=by show _=_;rw [← HQ.out];simp [kidsB,hq,h11,h12]
   rw [hq] at C2;clear hq HQ hrow hs C1 hc;go_enter Tryz.func91,Tryz.ntmps91;go_wp2_with fail;refine C2.mono ?_;rintro e w1 ⟨rfl,e1⟩;go_wp2_with fail;go_ret;exact ⟨ret_bool HE.out,e1⟩
def sidesB (t:List UInt8) (m:Int):Bool:=(decide (1≤whole t) && decide (whole t≤20)) && (t == Lib.itoa (whole t)) && (decide (1≤m) && decide (m≤100)) && (m.tmod (whole t) == 0)
theorem xdM {a b:World} (h:Ext a b) (n:Nat):Ext a (b.drewN n):=⟨h.os,h.tape,h.output,h.size,h.block⟩
theorem fItoaS:layItoaS_ren.f 171=131:=by kernel_rfl
theorem itoaSmall (i:Nat) (hi:i<100) (w:World) :
  Calls Tryz.prog 131 #[.int .i64 (i:Int)] w fun e w'=>e=.returned (sV (Lib.decDigits i))∧w'=w:=by
 have h:=Any.strconv_Itoa_small layItoaS i hi w;rw [fItoaS] at h;exact h
set_option maxRecDepth 8000 in
set_option maxHeartbeats 4000000 in
theorem sidesI (k:Int) (t:List UInt8) (neg:Bool) (d x r c:Int) (rf cf:Bool) (r2 c2:Int) (rf2 cf2:Bool) (m:Int) (w:World) (hl:t.length≤1048576) (LW:LibW w) :
  Calls Tryz.prog 110 #[ndV k t neg d x r c rf cf r2 c2 rf2 cf2 m] w fun e w'=>e=.returned (.bool (sidesB t m))∧Ext w w':=by
 have VN:=vec_made w [.int .i64 k,sV t,.bool neg,.int .i64 d,.int .i64 x,.int .i64 r,.int .i64 c,.bool rf,.bool cf,.int .i64 r2,.int .i64 c2,.bool rf2,.bool cf2,.int .i64 m] 59;have X:=x1 w (.cells [.int .i64 k,sV t,.bool neg,.int .i64 d,.int .i64 x,.int .i64 r,.int .i64 c,.bool rf,.bool cf,.int .i64 r2,.int .i64 c2,.bool rf2,.bool cf2,.int .i64 m].toArray 59);have WH:∀ w,LibW w→Calls Tryz.prog 112 #[sV t] w fun e w'=>e=.returned (.int .i64 (whole t))∧Ext w w':=fun w h=>wholeC t w hl h;have WH:=WH _ (LW.later X);obtain ⟨Q,hQ⟩:∃ Q,sidesB t m=Q:=⟨_,rfl⟩;have HQ:Hid (sidesB t m=Q):=hQ;rw [hQ];clear hQ;obtain ⟨R,hR⟩:∃ R,whole t=R:=⟨_,rfl⟩;have HW:Hid (whole t=R):=hR;rw [hR] at WH;clear hR;have a1:=(VN 1 _ rfl).1;have a13:=(VN 13 _ rfl).1;go_enter Tryz.func110,Tryz.ntmps110;go_wp2_with fail;refine WH.mono ?_;rintro e w1 ⟨rfl,x1'⟩;have b1:=cell_later x1' a1;have b13:=cell_later x1' a13;have X1:=xt X x1';clear WH a1 a13 VN X x1';by_cases c1:1≤R
 ·have e1:decide (1≤R)=true:=decide_eq_true c1;by_cases c2:R≤20
  ·have e2:decide (R≤20)=true:=decide_eq_true c2;obtain ⟨i,rfl⟩:∃ i:Nat,R=(i:Int):=⟨R.toNat,by omega⟩;have hI:=fun W=>itoaSmall i (by omega) W;obtain ⟨p,hp⟩:∃ p,(t == Lib.decDigits i)=p:=⟨_,rfl⟩;have hit:Lib.itoa (i:Int)=Lib.decDigits i:=by unfold Lib.itoa;rw [if_neg (by omega)];simp
   have HS:Hid (sidesB t m=(p && (decide (1≤m) && decide (m≤100)) && (m.tmod i == 0))):=by
    show _=_;unfold sidesB;rw [HW.out,hit,e1,e2,hp];cases p <;> simp
   obtain ⟨D,hD⟩:∃ D,Lib.decDigits i=D:=⟨_,rfl⟩;rw [hD] at hI hp;clear hD hit;cases p
   ·have HB:Hid (false=Q):=(by show _=_;rw [← HQ.out,HS.out];rfl);go_wp2_with fail;go_quiet (first | (go_at_call 131;exact Calls.quiet_of_same (hI _)));go_wp2_with fail;go_ret;exact ⟨ret_bool HB.out,xdM X1 _⟩
   ·by_cases c3:1≤m
    ·have e3:decide (1≤m)=true:=decide_eq_true c3;by_cases c4:m≤100
     ·have e4:decide (m≤100)=true:=decide_eq_true c4;have hmod:m.tmod i=m % (i:Int):=Int.tmod_eq_emod_of_nonneg (by omega);have HB:Hid ((m % (i:Int) == 0)=Q):=(by show _=_;rw [← HQ.out,HS.out,e3,e4,hmod];rfl);have hi0:(i:Int) ≠ 0:=(by omega);go_wp2_with fail;go_quiet (first | (go_at_call 131;exact Calls.quiet_of_same (hI _)));go_wp2_with fail;go_ret;exact ⟨ret_bool HB.out,xdM X1 _⟩
     ·have e4:decide (m≤100)=false:=decide_eq_false c4;have HB:Hid (false=Q):=(by show _=_;rw [← HQ.out,HS.out,e3,e4];rfl);go_wp2_with fail;go_quiet (first | (go_at_call 131;exact Calls.quiet_of_same (hI _)));go_wp2_with fail;go_ret;exact ⟨ret_bool HB.out,xdM X1 _⟩
    ·have e3:decide (1≤m)=false:=decide_eq_false c3;have HB:Hid (false=Q):=(by show _=_;rw [← HQ.out,HS.out,e3];rfl);go_wp2_with fail;go_quiet (first | (go_at_call 131;exact Calls.quiet_of_same (hI _)));go_wp2_with fail;go_ret;exact ⟨ret_bool HB.out,xdM X1 _⟩
  ·have e2:decide (R≤20)=false:=decide_eq_false c2;have HB:Hid (false=Q):=by show _=_;rw [← HQ.out];unfold sidesB;rw [HW.out,e1,e2];rfl
   go_wp2_with fail;go_quiet (fail);go_wp2_with fail;go_ret;exact ⟨ret_bool HB.out,xdM X1 _⟩
 ·have e1:decide (1≤R)=false:=decide_eq_false c1;have HB:Hid (false=Q):=by show _=_;rw [← HQ.out];unfold sidesB;rw [HW.out,e1];rfl
  go_wp2_with fail;go_quiet (fail);go_wp2_with fail;go_ret;exact ⟨ret_bool HB.out,xdM X1 _⟩
theorem opField (t:ByteArray) (n:Int) (W:World):(Instr.field 149 (.agg #[.string t,.int .i64 n]) 0).run Tryz.prog W=.ok (.string t) W:=by kernel_rfl
set_option maxRecDepth 8000 in
set_option maxHeartbeats 1000000 in
theorem opI (l:List UInt8) (w:World) (hO:OpTab w):Calls Tryz.prog 108 #[.string (bs l)] w fun e w'=>e=.returned (.bool (memB opsL l))∧Ext w w':=by
 have tl:(bs l).toList=l:=by rw [ByteArray.toList_eq,bs_list]
 have hem:(bs l).toList.isEmpty=l.isEmpty:=by rw [tl]
 cases l with
 | nil =>
  have e0:memB opsL []=false:=by decide
  rw [e0];have hem':(bs []).toList.isEmpty=true:=hem;obtain ⟨s,hs⟩:∃ s,bs []=s:=⟨_,rfl⟩;rw [hs] at hem' ⊢;clear hem tl hs;go_enter Tryz.func108,Tryz.ntmps108;go_wp2_with fail;go_ret;exact ⟨rfl,xr _⟩
 | cons c l' =>
  have op:=op_is (c :: l') (by simp);have AH:=aheadI (c :: l') w hO;have F:=fun W=>opField ⟨(aheadO (c :: l')).1.toArray⟩ (aheadO (c :: l')).2 W;have hem':(bs (c :: l')).toList.isEmpty=false:=hem;obtain ⟨o,ho⟩:∃ o,aheadO (c :: l')=o:=⟨_,rfl⟩;rw [ho] at op AH F;obtain ⟨t,lev⟩:=o;obtain ⟨R,hR⟩:∃ R,memB opsL (c :: l')=R:=⟨_,rfl⟩;rw [hR] at op ⊢;have HB:((⟨t.toArray⟩:ByteArray).toList == (bs (c :: l')).toList)=R:=by
   rw [tl,ByteArray.toList_eq];exact op
  obtain ⟨s,hs⟩:∃ s,bs (c :: l')=s:=⟨_,rfl⟩;rw [hs] at hem' HB AH ⊢;obtain ⟨x,hx⟩:∃ x:ByteArray,(⟨t.toArray⟩:ByteArray)=x:=⟨_,rfl⟩;have AH:Calls Tryz.prog 111 #[.string s] w fun e w'=>e=.returned (.agg #[.string x,.int .i64 lev])∧Ext w w':=by rw [← hx];exact AH
  have F:∀ W,(Instr.field 149 (.agg #[.string x,.int .i64 lev]) 0).run Tryz.prog W=.ok (.string x) W:=by rw [← hx];exact F
  rw [hx] at HB;clear hem tl hs hx hR ho op;cases R
  all_goals
   go_enter Tryz.func108,Tryz.ntmps108;go_wp2_with fail;refine AH.mono ?_;rintro e w1 ⟨rfl,e1⟩;go_wp2_with fail;go_ret
   first | exact ⟨rfl,e1⟩ | exact ⟨by simp [HB],e1⟩
end Go.Proofs.YtnbagcclckekkaaGreatDoor

