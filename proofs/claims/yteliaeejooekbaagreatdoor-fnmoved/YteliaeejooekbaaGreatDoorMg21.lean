import Derived.Test.YteliaeejooekbaaGreatDoorMg19
import Derived.Test.YteliaeejooekbaaGreatDoorShelb
import Derived.Test.YteliaeejooekbaaGreatDoorMg13
import Derived.Deep.RegionWith
import Derived.Deep.QuietTactic
import Derived.BigQuiet
import Derived.BigRegion
import Derived.Shelf.Abstract
import Derived.Test.YteliaeejooekbaaGreatDoorFo
import Derived.Test.YteliaeejooekbaaGreatDoorMg10
set_option maxRecDepth 8000
set_option maxHeartbeats 4000000
namespace Go.Proofs.YteliaeejooekbaaGreatDoor
open Go.RowKit
theorem zNO (v:Value) (w:World):(Go.method 381 185 v "loop.example/g00025/impl.node").run Tryz.prog w=.ok (256,v) w:=by kernel_rfl
theorem zNM (v:Value) (w:World):(Go.method 381 174 v "loop.example/g00025/impl.node").run Tryz.prog w=.ok (244,v) w:=by kernel_rfl
theorem zNN (v:Value) (w:World):(Go.method 381 179 v "loop.example/g00025/impl.node").run Tryz.prog w=.ok (247,v) w:=by kernel_rfl
theorem zNP (v:Value) (w:World):(Go.method 381 181 v "loop.example/g00025/impl.node").run Tryz.prog w=.ok (250,v) w:=by kernel_rfl
theorem zNQ (v:Value) (w:World):(Go.method 381 183 v "loop.example/g00025/impl.node").run Tryz.prog w=.ok (253,v) w:=by kernel_rfl
theorem zUS (v:Value) (w:World):(Go.method 381 174 v "loop.example/g00025/impl.kids").run Tryz.prog w=.ok (242,v) w:=by kernel_rfl
inductive KindV:Value->Int->Prop
 | leaf (x:NT):KindV (.iface 185 x.val) x.k
 | signed (k:Int) (kid:Value):KindV (.iface 174 (.agg #[iQ k,kid])) k
 | pair (t:List UInt8) (lev:Int) (l r:Value):KindV (.iface 179 (.agg #[sV t,iQ lev,l,r])) 10
 | call (t:List UInt8) (p:Option Addr) (n c:Nat):KindV (.iface 181 (.agg #[sV t,.slice p n c])) 11
 | array (r:Int) (p:Option Addr) (n c:Nat) (h0:0<=r) (h1:r<=20):KindV (.iface 183 (.agg #[iQ r,.slice p n c])) 12
theorem zFF (k:Int) (l:Value) (n:Bool) (d x r c:Int) (f g:Bool) (r2 c2:Int) (f2 g2:Bool) (q:Int) (W:World):(Instr.field 73 (.agg #[iQ k,l,.bool n,iQ d,iQ x,iQ r,iQ c,.bool f,.bool g,iQ r2,iQ c2,.bool f2,.bool g2,iQ q]) 0).run Tryz.prog W=.ok (iQ k) W:=by kernel_rfl
theorem zT4:layItoaS_ren.f 171=160:=by kernel_rfl
theorem zUX (i:Nat) (hi:i<100) (w:World) :
  Calls Tryz.prog 160 #[iQ (i:Int)] w fun e w'=>e=.returned (sV (Lib.decDigits i))/\w'=w:=by
 have h:=Any.strconv_Itoa_small layItoaS i hi w;rw [zT4] at h;exact h
theorem zFC (r:Int) (p:Option Addr) (n c:Nat) (w:World) (h0:0<=r) (h1:r<=20):Calls Tryz.prog 253 #[.agg #[iQ r,.slice p n c]] w fun e w'=>(∃ t,e=.returned (.agg #[iQ 12,sV t,.bool false,iQ 0,iQ 0,iQ 0,iQ 0,.bool false,.bool false,iQ 0,iQ 0,.bool false,.bool false,iQ (n:Int)]))/\Ext w w':=by
 obtain ⟨i,rfl⟩:∃ i:Nat,r=(i:Int):=⟨r.toNat,by omega⟩;obtain ⟨D,hD⟩:=nm (Lib.decDigits i);have IT:∀ W,Calls Tryz.prog 160 #[iQ (i:Int)] W fun e w'=>e=.returned (sV D)/\w'=W:=fun W=>by rw [<- hD];exact zUX i (by omega) W
 obtain ⟨wa,ha,X1,VN,-⟩:=zAD w [iQ (i:Int),.slice p n c] 183;obtain ⟨wb,hb,X2,VZ,-⟩:=zAD wa [iQ 0,.string ⟨#[]⟩,.bool false,iQ 0,iQ 0,iQ 0,iQ 0,.bool false,.bool false,iQ 0,iQ 0,.bool false,.bool false,iQ 0] 73;have sa:wa.heap.size=w.heap.size+1:=by rw [<- ha,World.size_alloc]
 rw [sa] at VZ;have VN:=VN.l X2;have X:=xt X1 X2;clear X1 X2 hD h0 h1;obtain ⟨a0,a1⟩:=vC2 VN;go_enter Tryz.func253,Tryz.ntmps253;go_wp2_with fail;refine zA3 (fun lx:Nat->Value=>{ tmps:=#[.agg #[.int .i64 (i:Int),.slice p n c],.pointer (some ⟨w.heap.size,0,none⟩),.pointer (some ⟨w.heap.size+1,0,none⟩),lx 3,lx 4,lx 5,lx 6,lx 7,lx 8,lx 9],defers:=[] }) (fun L lx lw=>Hid ((L 7=false->Ext wb lw)/\(L 7=true->lw.rangeAt (w.heap.size+1) 0 [iQ 12,sV D,.bool false,iQ 0,iQ 0,iQ 0,iQ 0,.bool false,.bool false,iQ 0,iQ 0,.bool false,.bool false,iQ (n:Int)]/\Ext w lw)/\(L 0=true->lx 3=.pointer (some ⟨w.heap.size,0,none⟩))/\(L 1=true->lx 4=iQ (i:Int))/\(L 2=true->lx 5=sV D)/\(L 3=true->lx 6=.pointer (some ⟨w.heap.size,1,none⟩))/\(L 4=true->lx 7=.slice p n c)/\(L 5=true->lx 8=iQ (n:Int))/\(L 6=true->lx 9=.agg #[iQ 12,sV D,.bool false,iQ 0,iQ 0,iQ 0,iQ 0,.bool false,.bool false,iQ 0,iQ 0,.bool false,.bool false,iQ (n:Int)]))) rfl (by kernel_rfl) (fun _=>undef) rfl ?_ ?_ ?_
 ·exact ⟨(fun _=>xd (xr _)),(fun h=>by cases h),(fun h=>by cases h),(fun h=>by cases h),(fun h=>by cases h),(fun h=>by cases h),(fun h=>by cases h),(fun h=>by cases h),(fun h=>by cases h)⟩
 ·intro L lx wl ix o K hK ho hL haf hI hcl;obtain ⟨E,S,f0,f1,f2,f3,f4,f5,f6⟩:=hI.out
  match ix,ho,hL,haf,hK with
  | 0,ho,hL,haf,hK =>
   cases ho
   (try dsimp only)
   have h7:L 7=false:=hcl.bars (i:=7) (j:=0) [6,2,1,0] hL (by kernel_rfl) rfl;refine Eq.mpr (if_pos (by rfl)) ?_;go_wp2_with fail;exact hK (fun jj=>if jj=3 then .pointer (some ⟨w.heap.size,0,none⟩) else lx jj) _ ⟨E,S,(fun _=>rfl),f1,f2,f3,f4,f5,f6⟩
  | 1,ho,hL,haf,hK =>
   cases ho
   (try dsimp only)
   have h7:L 7=false:=hcl.bars (i:=7) (j:=1) [6,2,1] hL (by kernel_rfl) rfl;rw [f0 (haf ⟨0,.data⟩ (by simp) rfl)];refine Eq.mpr (if_pos (by rfl)) ?_;have c0:=cell_later (E h7) a0;go_wp2_with fail;exact hK (fun jj=>if jj=4 then iQ (i:Int) else if jj=3 then .pointer (some ⟨w.heap.size,0,none⟩) else lx jj) _ ⟨E,S,(fun _=>rfl),(fun _=>rfl),f2,f3,f4,f5,f6⟩
  | 2,ho,hL,haf,hK =>
   cases ho
   (try dsimp only)
   have h7:L 7=false:=hcl.bars (i:=7) (j:=2) [6,2] hL (by kernel_rfl) rfl;rw [f1 (haf ⟨1,.data⟩ (by simp) rfl)];refine Eq.mpr (if_pos (by rfl)) ?_;go_wp2_with fail;refine (IT wl).mono ?_;rintro rr w' ⟨rfl,rfl⟩;go_wp2_with fail;exact hK (fun jj=>if jj=5 then sV D else if jj=4 then iQ (i:Int) else lx jj) _ ⟨E,S,f0,(fun _=>rfl),(fun _=>rfl),f3,f4,f5,f6⟩
  | 3,ho,hL,haf,hK =>
   cases ho
   (try dsimp only)
   have h7:L 7=false:=hcl.bars (i:=7) (j:=3) [6,5,4,3] hL (by kernel_rfl) rfl;refine Eq.mpr (if_pos (by rfl)) ?_;go_wp2_with fail;exact hK (fun jj=>if jj=6 then .pointer (some ⟨w.heap.size,1,none⟩) else lx jj) _ ⟨E,S,f0,f1,f2,(fun _=>rfl),f4,f5,f6⟩
  | 4,ho,hL,haf,hK =>
   cases ho
   (try dsimp only)
   have h7:L 7=false:=hcl.bars (i:=7) (j:=4) [6,5,4] hL (by kernel_rfl) rfl;rw [f3 (haf ⟨3,.data⟩ (by simp) rfl)];refine Eq.mpr (if_pos (by rfl)) ?_;have c1:=cell_later (E h7) a1;go_wp2_with fail;exact hK (fun jj=>if jj=7 then .slice p n c else if jj=6 then .pointer (some ⟨w.heap.size,1,none⟩) else lx jj) _ ⟨E,S,f0,f1,f2,(fun _=>rfl),(fun _=>rfl),f5,f6⟩
  | 5,ho,hL,haf,hK =>
   cases ho
   (try dsimp only)
   have h7:L 7=false:=hcl.bars (i:=7) (j:=5) [6,5] hL (by kernel_rfl) rfl;rw [f4 (haf ⟨4,.data⟩ (by simp) rfl)];refine Eq.mpr (if_pos (by rfl)) ?_;go_wp2_with fail;exact hK (fun jj=>if jj=8 then iQ (n:Int) else if jj=7 then .slice p n c else lx jj) _ ⟨E,S,f0,f1,f2,f3,(fun _=>rfl),(fun _=>rfl),f6⟩
  | 6,ho,hL,haf,hK =>
   cases ho
   (try dsimp only)
   have h7:L 7=false:=hcl.bars (i:=7) (j:=6) [6] hL (by kernel_rfl) rfl;rw [f2 (haf ⟨2,.data⟩ (by simp) rfl),f5 (haf ⟨5,.data⟩ (by simp) rfl)];refine Eq.mpr (if_pos (by rfl)) ?_;go_wp2_with fail;exact hK (fun jj=>if jj=9 then .agg #[iQ 12,sV D,.bool false,iQ 0,iQ 0,iQ 0,iQ 0,.bool false,.bool false,iQ 0,iQ 0,.bool false,.bool false,iQ (n:Int)] else if jj=5 then sV D else if jj=8 then iQ (n:Int) else lx jj) _ ⟨E,S,f0,f1,(fun _=>rfl),f3,f4,(fun _=>rfl),(fun _=>rfl)⟩
  | 7,ho,hL,haf,hK =>
   cases ho
   (try dsimp only)
   rw [f6 (haf ⟨6,.data⟩ (by simp) rfl)];refine Eq.mpr (if_pos (by rfl)) ?_;have E7:=E hL;have VT:=(VZ.l E7).there;have VR:=World.rangeAt_setCells_same wl (w.heap.size+1) 0 [iQ 12,sV D,.bool false,iQ 0,iQ 0,iQ 0,iQ 0,.bool false,.bool false,iQ 0,iQ 0,.bool false,.bool false,iQ (n:Int)] VT;have XR:=Ext.setCells (b:=w.heap.size+1) (by omega) [iQ 12,sV D,.bool false,iQ 0,iQ 0,iQ 0,iQ 0,.bool false,.bool false,iQ 0,iQ 0,.bool false,.bool false,iQ (n:Int)] 0 wl (xt X E7);have one:(#[iQ 12,sV D,.bool false,iQ 0,iQ 0,iQ 0,iQ 0,.bool false,.bool false,iQ 0,iQ 0,.bool false,.bool false,iQ (n:Int)]:Array Value).all (·.oneCell')=true:=by simp [Value.oneCell']
   refine wpList_store_mid rfl _ _ _ rfl (w.heap.size+1) 0 #[iQ 12,sV D,.bool false,iQ 0,iQ 0,iQ 0,iQ 0,.bool false,.bool false,iQ 0,iQ 0,.bool false,.bool false,iQ (n:Int)] rfl rfl VT zCE one ?_;go_wp2_with fail;exact hK (fun jj=>if jj=9 then .agg #[iQ 12,sV D,.bool false,iQ 0,iQ 0,iQ 0,iQ 0,.bool false,.bool false,iQ 0,iQ 0,.bool false,.bool false,iQ (n:Int)] else lx jj) _ ⟨(fun h=>by cases h),(fun _=>⟨VR,XR⟩),f0,f1,f2,f3,f4,f5,(fun _=>rfl)⟩
  | k+8,ho,_,_,_=>simp at ho
 ·intro L lx wq hall hI;obtain ⟨E,S,f0,f1,f2,f3,f4,f5,f6⟩:=hI.out;obtain ⟨VR,XR⟩:=S (hall 7 (by simp));have e0:=zA0 VR (i:=0) rfl;have e1:=zA0 VR (i:=1) rfl;have e2:=zA0 VR (i:=2) rfl;have e3:=zA0 VR (i:=3) rfl;have e4:=zA0 VR (i:=4) rfl;have e5:=zA0 VR (i:=5) rfl;have e6:=zA0 VR (i:=6) rfl;have e7:=zA0 VR (i:=7) rfl;have e8:=zA0 VR (i:=8) rfl;have e9:=zA0 VR (i:=9) rfl;have e10:=zA0 VR (i:=10) rfl;have e11:=zA0 VR (i:=11) rfl;have e12:=zA0 VR (i:=12) rfl;have e13:=zA0 VR (i:=13) rfl
  (try dsimp only)
  go_wp2_with fail;exact bodyPost_ret (v:=.agg #[iQ 12,sV D,.bool false,iQ 0,iQ 0,iQ 0,iQ 0,.bool false,.bool false,iQ 0,iQ 0,.bool false,.bool false,iQ (n:Int)]) (by simp [results,Tryz.results253,go_sem,e0,e1,e2,e3,e4,e5,e6,e7,e8,e9,e10,e11,e12,e13]) rfl ⟨⟨D,rfl⟩,XR⟩
theorem zLT (v:Value) (k:Int) (w:World) (h:KindV v k):Calls Tryz.prog 102 #[v] w fun e w'=>e=.returned (.bool (decide (k=13)))/\Ext w w':=by
 have M1:=zNO;have M2:=zNM;have M3:=zNN;have M4:=zNP;have M5:=zNQ;have F:=zFF;cases h with
 | leaf x =>
  go_enter Tryz.func102,Tryz.ntmps102;go_wp2_with fail;refine (zGB x w).mono ?_;rintro e w1 ⟨rfl,e1⟩;go_wp2_with fail;go_ret;exact ⟨zA1 (by first | rfl | simp | (cases hq:_ == _ <;> simp_all)),e1⟩
 | signed k kid =>
  go_enter Tryz.func102,Tryz.ntmps102;go_wp2_with fail;refine (zDK k kid w).mono ?_;rintro e w1 ⟨rfl,e1⟩;go_wp2_with fail;go_ret;exact ⟨zA1 (by first | rfl | simp | (cases hq:_ == _ <;> simp_all)),e1⟩
 | pair t lev l r =>
  go_enter Tryz.func102,Tryz.ntmps102;go_wp2_with fail;refine (zGA t lev l r w).mono ?_;rintro e w1 ⟨rfl,e1⟩;go_wp2_with fail;go_ret;exact ⟨zA1 (by first | rfl | simp | (cases hq:_ == _ <;> simp_all)),e1⟩
 | call t p n c =>
  go_enter Tryz.func102,Tryz.ntmps102;go_wp2_with fail;refine (zGC t p n c w).mono ?_;rintro e w1 ⟨rfl,e1⟩;go_wp2_with fail;go_ret;exact ⟨zA1 (by first | rfl | simp | (cases hq:_ == _ <;> simp_all)),e1⟩
 | array r p n c h0 h1 =>
  go_enter Tryz.func102,Tryz.ntmps102;go_wp2_with fail;refine (zFC r p n c w h0 h1).mono ?_;rintro e w1 ⟨⟨t,rfl⟩,e1⟩;go_wp2_with fail;go_ret;exact ⟨zA1 (by first | rfl | simp | (cases hq:_ == _ <;> simp_all)),e1⟩
def zGV (v:Value) (e:ET):Prop:=KindV v e.n.k/\(e.n.k=8->∃ kid x,v=.iface 174 (.agg #[iQ 8,kid])/\e.kids=[x]/\KindV kid x.n.k)
theorem KindV.iface {v:Value} {k:Int} (h:KindV v k):∃ T a,v=.iface T a:=by
 cases h <;> exact ⟨_,_,rfl⟩
theorem zJN (k:Int) (T:TypeId) (a:Value) (w:World):Calls Tryz.prog 242 #[.agg #[iQ k,(.iface T a)]] w fun e w'=>∃ b,e=.returned (.slice (some ⟨b,0,none⟩) 1 1)/\Vec w' b [(.iface T a)]/\Ext w w':=by
 obtain ⟨wa,ha,X1,VN,-⟩:=zAD w [iQ k,(.iface T a)] 174;have a1:=(VN 1 _ rfl).1;have V2:=zA5 wa [(.iface T a)] 123;have X2:=x1 wa (.cells [(.iface T a)].toArray 123);go_enter Tryz.func242,Tryz.ntmps242;go_wp2_with fail;go_ret;exact ⟨_,rfl,V2,xt X1 X2⟩
theorem zJK (kid:Value) (j:Int) (w:World) (h:KindV kid j):Calls Tryz.prog 143 #[.iface 174 (.agg #[iQ 8,kid])] w fun e w'=>e=.returned (.bool (!decide (j=1)))/\Ext w w':=by
 have M1:=zNO;have M2:=zNM;have M3:=zNN;have M4:=zNP;have M5:=zNQ;have M6:=zUS;have F:=zFF;go_enter Tryz.func143,Tryz.ntmps143;go_wp2_with fail;refine (zDK 8 kid w).mono ?_;rintro e w1 ⟨rfl,e1⟩;go_wp2_with fail;obtain ⟨T,a,rfl⟩:=h.iface;refine (zJN 8 T a w1).mono ?_;rintro e w2 ⟨b,rfl,V,e2⟩;have c0:=(V 0 _ rfl).1;have X2:=xt e1 e2;clear V e1 e2;cases h with
 | leaf x =>
  go_wp2_with fail;refine (zGB x w2).mono ?_;rintro e w3 ⟨rfl,e3⟩;go_wp2_with fail;go_ret;exact ⟨zA1 (by first | rfl | simp | (cases hq:_ == _ <;> simp_all)),xt X2 e3⟩
 | signed k kid2 =>
  go_wp2_with fail;refine (zDK j kid2 w2).mono ?_;rintro e w3 ⟨rfl,e3⟩;go_wp2_with fail;go_ret;exact ⟨zA1 (by first | rfl | simp | (cases hq:_ == _ <;> simp_all)),xt X2 e3⟩
 | pair t lev l r =>
  go_wp2_with fail;refine (zGA t lev l r w2).mono ?_;rintro e w3 ⟨rfl,e3⟩;go_wp2_with fail;go_ret;exact ⟨zA1 (by first | rfl | simp | (cases hq:_ == _ <;> simp_all)),xt X2 e3⟩
 | call t p n c =>
  go_wp2_with fail;refine (zGC t p n c w2).mono ?_;rintro e w3 ⟨rfl,e3⟩;go_wp2_with fail;go_ret;exact ⟨zA1 (by first | rfl | simp | (cases hq:_ == _ <;> simp_all)),xt X2 e3⟩
 | array r p n c h0 h1 =>
  go_wp2_with fail;refine (zFC r p n c w2 h0 h1).mono ?_;rintro e w3 ⟨⟨t,rfl⟩,e3⟩;go_wp2_with fail;go_ret;exact ⟨zA1 (by first | rfl | simp | (cases hq:_ == _ <;> simp_all)),xt X2 e3⟩
theorem zJJ (v:Value) (k:Int) (w:World) (h:KindV v k) (h8:k ≠ 8):Calls Tryz.prog 143 #[v] w fun e w'=>e=.returned (.bool (if k=1\/k=2\/k=3\/k=4 then false else true))/\Ext w w':=by
 have M1:=zNO;have M2:=zNM;have M3:=zNN;have M4:=zNP;have M5:=zNQ;have F:=zFF;cases h with
 | leaf x =>
  obtain ⟨k,hk⟩:=nm (x.k);have ND:=zGB x w;rw [hk] at ND h8 ⊢;show Calls Tryz.prog 143 #[.iface 185 (.agg #[iQ x.k,sV x.t,.bool x.n,iQ x.d,iQ x.x,iQ x.r,iQ x.c,.bool x.f,.bool x.g,iQ x.r2,iQ x.c2,.bool x.f2,.bool x.g2,iQ x.q])] w _;rw [hk];clear hk;by_cases h14:k=1\/k=2\/k=3\/k=4
  ·rw [if_pos h14]
   rcases h14 with rfl | rfl | rfl | rfl
   all_goals
    go_enter Tryz.func143,Tryz.ntmps143;go_wp2_with fail;refine ND.mono ?_;rintro e w3 ⟨rfl,e3⟩;go_wp2_with fail;go_ret;exact ⟨rfl,e3⟩
  ·rw [if_neg h14];have q1:¬ k=1:=fun q=>h14 (.inl q);have q2:¬ k=2:=fun q=>h14 (.inr (.inl q));have q3:¬ k=3:=fun q=>h14 (.inr (.inr (.inl q)));have q4:¬ k=4:=fun q=>h14 (.inr (.inr (.inr q)));clear h14;go_enter Tryz.func143,Tryz.ntmps143;go_wp2_with fail;refine ND.mono ?_;rintro e w3 ⟨rfl,e3⟩;go_wp2_with fail;go_ret;exact ⟨rfl,e3⟩
 | signed k kid =>
  have ND:=zDK k kid w;by_cases h14:k=1\/k=2\/k=3\/k=4
  ·rw [if_pos h14]
   rcases h14 with rfl | rfl | rfl | rfl
   all_goals
    go_enter Tryz.func143,Tryz.ntmps143;go_wp2_with fail;refine ND.mono ?_;rintro e w3 ⟨rfl,e3⟩;go_wp2_with fail;go_ret;exact ⟨rfl,e3⟩
  ·rw [if_neg h14];have q1:¬ k=1:=fun q=>h14 (.inl q);have q2:¬ k=2:=fun q=>h14 (.inr (.inl q));have q3:¬ k=3:=fun q=>h14 (.inr (.inr (.inl q)));have q4:¬ k=4:=fun q=>h14 (.inr (.inr (.inr q)));clear h14;go_enter Tryz.func143,Tryz.ntmps143;go_wp2_with fail;refine ND.mono ?_;rintro e w3 ⟨rfl,e3⟩;go_wp2_with fail;go_ret;exact ⟨rfl,e3⟩
 | pair t lev l r =>
  go_enter Tryz.func143,Tryz.ntmps143;go_wp2_with fail;refine (zGA t lev l r w).mono ?_;rintro e w3 ⟨rfl,e3⟩;go_wp2_with fail;go_ret;exact ⟨by simp,e3⟩
 | call t p n c =>
  go_enter Tryz.func143,Tryz.ntmps143;go_wp2_with fail;refine (zGC t p n c w).mono ?_;rintro e w3 ⟨rfl,e3⟩;go_wp2_with fail;go_ret;exact ⟨by simp,e3⟩
 | array r p n c h0 h1 =>
  go_enter Tryz.func143,Tryz.ntmps143;go_wp2_with fail;refine (zFC r p n c w h0 h1).mono ?_;rintro e w3 ⟨⟨t,rfl⟩,e3⟩;go_wp2_with fail;go_ret;exact ⟨by simp,e3⟩
theorem zUN (v:Value) (e:ET) (w:World) (h:zGV v e):Calls Tryz.prog 143 #[v] w fun r w'=>r=.returned (.bool (zBS e))/\Ext w w':=by
 by_cases h8:e.n.k=8
 ·obtain ⟨kid,x,rfl,hk,hx⟩:=h.2 h8;have:=zJK kid _ w hx;have he:zBS e=!decide (x.n.k=1):=by
   unfold zBS;rw [if_neg (by omega),if_pos h8,hk];simp
  rw [he];exact this
 ·have:=zJJ v _ w h.1 h8;have he:zBS e=if e.n.k=1\/e.n.k=2\/e.n.k=3\/e.n.k=4 then false else true:=by
   unfold zBS;by_cases h14:e.n.k=1\/e.n.k=2\/e.n.k=3\/e.n.k=4
   ·rw [if_pos h14,if_pos h14]
   ·rw [if_neg h14,if_neg h14,if_neg h8]
  rw [he];exact this
theorem zSO (v:Value) (e:ET) (w:World) (h:zGV v e):Calls Tryz.prog 102 #[v] w fun r w'=>r=.returned (.bool (zDB e))/\Ext w w':=zLT v _ w h.1
def zE4 (w:World) (v:Value) (vs:List Value):Prop:=∃ p cap,v=.slice p vs.length cap/\vs.length<=cap/\(0<vs.length->∃ g,p=some ⟨g,0,none⟩/\Vec w g vs)
theorem zE4.l {w w':World} {v:Value} {vs:List Value} (h:zE4 w v vs) (x:Ext w w'):zE4 w' v vs:=by
 obtain ⟨p,cap,rfl,hc,hv⟩:=h;exact ⟨p,cap,rfl,hc,fun h0=>by obtain ⟨g,rfl,V⟩:=hv h0;exact ⟨g,rfl,V.l x⟩⟩
def zCV (vs:List Value) (es:List ET):Prop:=vs.length=es.length/\∀ (i:Nat) (v:Value) (e:ET),vs[i]?=some v->es[i]?=some e->zGV v e
theorem zCV.nil:zCV [] []:=⟨rfl,fun i v e h=>by cases h⟩
theorem zCV.snoc {vs:List Value} {es:List ET} (h:zCV vs es) {v:Value} {e:ET} (hv:zGV v e):zCV (vs++[v]) (es++[e]):=by
 refine ⟨by simp [h.1],fun i u d hu hd=>?_⟩;by_cases hi:i<vs.length
 ·rw [List.getElem?_append_left hi] at hu;rw [List.getElem?_append_left (by rw [<- h.1];exact hi)] at hd;exact h.2 i u d hu hd
 ·have hi':i=vs.length:=by
   have:=(List.getElem?_eq_some_iff.1 hu).1;simp at this;omega
  subst hi';rw [List.getElem?_append_right (Nat.le_refl _)] at hu;rw [h.1,List.getElem?_append_right (Nat.le_refl _)] at hd;simp at hu hd;subst hu hd;exact hv
theorem zCV.get {vs:List Value} {es:List ET} (h:zCV vs es) {i:Nat} (hi:i<vs.length):∃ v e,vs[i]?=some v/\es[i]?=some e/\zGV v e:=
 ⟨vs[i],es[i]'(by rw [<- h.1];exact hi),List.getElem?_eq_getElem hi,List.getElem?_eq_getElem _,h.2 i _ _ (List.getElem?_eq_getElem hi) (List.getElem?_eq_getElem _)⟩
structure zQX (f:Nat) (p:ET->Bool):Prop where
 ent:∀ args w,(callFunc f args).run Tryz.prog w=.ok (.enter f args) w
 says:∀ W v e,zGV v e->Calls Tryz.prog f #[v] W fun z w'=>z=.returned (.bool (p e))/\Ext W w'
def zVN (l:List ET) (p:ET->Bool) (e:Ending):Prop:=
 (e=.returned (iQ (-1))/\∀ x ∈ l,p x=false)\/∃ (m:Nat) (x:ET),e=.returned (iQ m)/\l[m]?=some x/\p x=true
theorem zUZ (f:Nat) (v:Value) (vs:List Value) (l:List ET) (p:ET->Bool) (w:World) (A:zQX f p) (h:zE4 w v vs) (hs:zCV vs l) (hl:l.length<=1048576) :
  Calls Tryz.prog 163 #[v,.func (.func f) #[] #[]] w fun e w'=>zVN l p e/\Ext w w':=by
 have ent:=A.ent;have HA:Hid (∀ W v e,zGV v e->Calls Tryz.prog f #[v] W fun z w'=>z=.returned (.bool (p e))/\Ext W w'):=A.says;obtain ⟨pk,nk,rfl,hc,hrow⟩:=h;have HV:Hid (0<vs.length->∃ g,pk=some ⟨g,0,none⟩/\Vec w g vs):=hrow;have HS:Hid (zCV vs l):=hs;obtain ⟨n,hn⟩:=nm (vs.length);have HN:Hid (vs.length=n):=hn;have hnl:n<=1048576:=by rw [<- hn,hs.1];exact hl
 rw [hn] at hc HV ⊢;clear hrow A hn hs hl;go_enter Tryz.func163,Tryz.ntmps163;go_wp2_with fail;go_loopw [8] (fun i wr=>∃ k:Nat,k<=n/\i=.int .i64 k/\Hid (Ext w wr/\∀ j x,j<k->l[j]?=some x->p x=false)) (fun i _=>n - (intOf i).toNat)
 case atStart=>exact ⟨0,by omega,rfl,xr _,fun j x hj=>absurd hj (by omega)⟩
 case round =>
  obtain ⟨k,hk,rfl,HO⟩:=hrel;by_cases hlt:k<n
  ·have i2:(k:Int)<(n:Int):=by omega
   obtain ⟨u,x,hu,hx,hux⟩:=HS.out.get (i:=k) (by rw [HN.out];exact hlt);obtain ⟨g,rfl,RW⟩:=HV.out (by omega);have a0:=((RW.l HO.out.1) k _ hu).1;have CA:=HA.out wr u x hux;have HX:Hid (l[k]?=some x):=hx;obtain ⟨q,hq⟩:=nm (p x);have HQ:Hid (p x=q):=hq;rw [hq] at CA;clear hx hq RW hu hux;cases q
   ·go_wp2_with (go_at_fn f;refine CA.mono ?_;rintro e w1 ⟨rfl,e1⟩);have HM:Hid (Ext w w1/\∀ j x,j<k+1->l[j]?=some x->p x=false):=⟨xt HO.out.1 e1,fun j y hj hy=>by
     by_cases e:j=k
     ·subst e;rw [HX.out] at hy;cases hy;exact HQ.out
     ·exact HO.out.2 j y (by omega) hy⟩
    go_roundw
    case rel=>exact ⟨k+1,by omega,by go_num,HM⟩
    case measure=>simp [intOf];omega
   ·go_wp2_with (go_at_fn f;refine CA.mono ?_;rintro e w1 ⟨rfl,e1⟩);go_ret;exact ⟨Or.inr ⟨k,_,rfl,HX.out,HQ.out⟩,xt HO.out.1 e1⟩
  ·obtain rfl:k=n:=by omega
   have i2:¬ (k:Int)<(k:Int):=by omega
   go_wp2_with fail;go_ret;refine ⟨Or.inl ⟨rfl,fun x hx=>?_⟩,HO.out.1⟩;obtain ⟨j,hj,rfl⟩:=List.getElem_of_mem hx;exact HO.out.2 j _ (by rw [<- HN.out,HS.out.1];exact hj) (List.getElem?_eq_getElem hj)
theorem zJ4 (f:Nat) (v:Value) (vs:List Value) (l:List ET) (p:ET->Bool) (w:World) (A:zQX f p) (h:zE4 w v vs) (hs:zCV vs l) (hl:l.length<=1048576) :
  Calls Tryz.prog 142 #[v,.func (.func f) #[] #[]] w fun e w'=>e=.returned (.bool (l.any p))/\Ext w w':=by
 have C0:=zUZ f v vs l p w A h hs hl;obtain ⟨pk,nk,rfl,_,_⟩:=h;have HR:Hid ((∀ x ∈ l,p x=false)->l.any p=false):=fun h=>by
  rw [Bool.eq_false_iff];intro hc;obtain ⟨x,hx,hp⟩:=List.any_eq_true.1 hc;rw [h x hx] at hp;cases hp
 have HS:Hid (∀ (m:Nat) x,l[m]?=some x->p x=true->l.any p=true):=fun m x hm hp=>List.any_eq_true.2 ⟨x,List.mem_of_getElem? hm,hp⟩;obtain ⟨R,hR⟩:=nm (l.any p);rw [hR] at HR HS ⊢;obtain ⟨n,hn⟩:=nm (vs.length);rw [hn] at C0 ⊢;clear A hR hn hs;go_enter Tryz.func142,Tryz.ntmps142;go_wp2_with fail;refine C0.mono ?_;rintro e w1 ⟨⟨rfl,h⟩ | ⟨m,x,rfl,hm,hp⟩,e1⟩
 ·obtain rfl:=HR.out h;clear h;go_wp2_with fail;go_ret;exact ⟨rfl,e1⟩
 ·obtain rfl:=HS.out m x hm hp;clear hm hp;have m0:(0:Int)<=(m:Int):=by omega
  have m1:decide ((m:Int) >= 0)=true:=decide_eq_true m0;go_wp2_with fail;go_ret;exact ⟨rfl,e1⟩
theorem zOX:zQX 143 zBS:=⟨fun args w=>by kernel_rfl,fun W v e h=>zUN v e W h⟩
theorem zVH:zQX 102 zDB:=⟨fun args w=>by kernel_rfl,fun W v e h=>zSO v e W h⟩
theorem zW6 (k:Int) (v:Value) (vs:List Value) (l:List ET) (w:World) (h:zE4 w v vs) (hs:zCV vs l) (hl:l.length<=1048576) :
  Calls Tryz.prog 117 #[iQ k,v] w fun e w'=>e=.returned (.bool (zCD k l))/\Ext w w':=by
 have C1:=zJ4 143 v vs l zBS w zOX h hs hl;have C2:=zJ4 102 v vs l zDB w zVH h hs hl;obtain ⟨p,cap,rfl,hc,hrow⟩:=h;obtain ⟨Q,hQ⟩:=nm (zCD k l);have HQ:Hid (zCD k l=Q):=hQ;rw [hQ];clear hQ;by_cases h11:k=11
 ·subst h11;clear C1 C2;by_cases h1:vs.length=1
  ·obtain ⟨g,rfl,V⟩:=hrow (by omega);obtain ⟨u,hu⟩:=List.length_eq_one_iff.1 h1;obtain ⟨x,hx⟩:=List.length_eq_one_iff.1 (show l.length=1 by rw [<- hs.1];exact h1);subst hu hx;have hux:=hs.2 0 u x rfl rfl;have a0:=(V 0 u rfl).1;have CN:=zSO u x w hux;obtain ⟨q,hq⟩:=nm (zDB x);have HE:Hid ((!q)=Q):=by show _=_;rw [<- HQ.out];simp [zCD,hq]
   rw [hq] at CN;clear hq HQ V hux hs hrow;show Calls Tryz.prog 117 #[iQ 11,.slice (some ⟨g,0,none⟩) 1 cap] w _;go_enter Tryz.func117,Tryz.ntmps117;go_wp2_with (go_at_call 102;refine CN.mono ?_;rintro e w1 ⟨rfl,e1⟩);go_ret;exact ⟨zA1 HE.out,e1⟩
  ·obtain ⟨n,hn⟩:=nm (vs.length);have hne:¬ l.length=1:=by rw [<- hs.1];exact h1
   have HE:Hid (true=Q):=by show _=_;rw [<- HQ.out];simp [zCD,hne]
   rw [hn] at h1 ⊢;have h1':((n:Int) != 1)=true:=by simp;omega
   have h1'':¬ ((n:Int)=1):=by omega
   clear hrow hs hn HQ hne hc;go_enter Tryz.func117,Tryz.ntmps117;go_wp2_with fail;go_ret;exact ⟨zA1 HE.out,xr _⟩
 ·by_cases h12:k=12
  ·subst h12;obtain ⟨q,hq⟩:=nm (l.any zBS);have HE:Hid ((!q)=Q):=by show _=_;rw [<- HQ.out];simp [zCD,hq]
   rw [hq] at C1;clear hq HQ hrow hs C2 hc;go_enter Tryz.func117,Tryz.ntmps117;go_wp2_with fail;refine C1.mono ?_;rintro e w1 ⟨rfl,e1⟩;go_wp2_with fail;go_ret;exact ⟨zA1 HE.out,e1⟩
  ·obtain ⟨q,hq⟩:=nm (l.any zDB);have HE:Hid ((!q)=Q):=by show _=_;rw [<- HQ.out];simp [zCD,hq,h11,h12]
   rw [hq] at C2;clear hq HQ hrow hs C1 hc;go_enter Tryz.func117,Tryz.ntmps117;go_wp2_with fail;refine C2.mono ?_;rintro e w1 ⟨rfl,e1⟩;go_wp2_with fail;go_ret;exact ⟨zA1 HE.out,e1⟩
def zCS (t:List UInt8) (m:Int):Bool:=(decide (1<=zC0 t) && decide (zC0 t<=20)) && (t == Lib.itoa (zC0 t)) && (decide (1<=m) && decide (m<=100)) && (m.tmod (zC0 t) == 0)
theorem xdM {a b:World} (h:Ext a b) (n:Nat):Ext a (b.drewN n):=⟨h.os,h.tape,h.output,h.size,h.block⟩
theorem zV8:layItoaS_ren.f 171=160:=by kernel_rfl
theorem zNZ (i:Nat) (hi:i<100) (w:World) :
  Calls Tryz.prog 160 #[iQ (i:Int)] w fun e w'=>e=.returned (sV (Lib.decDigits i))/\w'=w:=by
 have h:=Any.strconv_Itoa_small layItoaS i hi w;rw [zV8] at h;exact h
theorem zU4 (k:Int) (t:List UInt8) (neg:Bool) (d x r c:Int) (rf cf:Bool) (r2 c2:Int) (rf2 cf2:Bool) (m:Int) (w:World) (hl:t.length<=1048576) (LW:LibW w) :
  Calls Tryz.prog 139 #[ndV k t neg d x r c rf cf r2 c2 rf2 cf2 m] w fun e w'=>e=.returned (.bool (zCS t m))/\Ext w w':=by
 have VN:=zA5 w [iQ k,sV t,.bool neg,iQ d,iQ x,iQ r,iQ c,.bool rf,.bool cf,iQ r2,iQ c2,.bool rf2,.bool cf2,iQ m] 73;have X:=x1 w (.cells [iQ k,sV t,.bool neg,iQ d,iQ x,iQ r,iQ c,.bool rf,.bool cf,iQ r2,iQ c2,.bool rf2,.bool cf2,iQ m].toArray 73);have WH:∀ w,LibW w->Calls Tryz.prog 141 #[sV t] w fun e w'=>e=.returned (iQ (zC0 t))/\Ext w w':=fun w h=>zMB t w hl h;have WH:=WH _ (LW.l X);obtain ⟨Q,hQ⟩:=nm (zCS t m);have HQ:Hid _:=hQ;rw [hQ];clear hQ;obtain ⟨R,hR⟩:=nm (zC0 t);have HW:Hid _:=hR;rw [hR] at WH;clear hR;have a1:=(VN 1 _ rfl).1;have a13:=(VN 13 _ rfl).1;go_enter Tryz.func139,Tryz.ntmps139;go_wp2_with fail;refine WH.mono ?_;rintro e w1 ⟨rfl,x1'⟩;have b1:=cell_later x1' a1;have b13:=cell_later x1' a13;have X1:=xt X x1';clear WH a1 a13 VN X x1';by_cases c1:1<=R
 ·have e1:decide (1<=R)=true:=decide_eq_true c1;by_cases c2:R<=20
  ·have e2:decide (R<=20)=true:=decide_eq_true c2;obtain ⟨i,rfl⟩:∃ i:Nat,R=(i:Int):=⟨R.toNat,by omega⟩;have hI:=fun W=>zNZ i (by omega) W;obtain ⟨p,hp⟩:=nm ((t == Lib.decDigits i));have hit:Lib.itoa (i:Int)=Lib.decDigits i:=by unfold Lib.itoa;rw [if_neg (by omega)];simp
   have HS:Hid (zCS t m=(p && (decide (1<=m) && decide (m<=100)) && (m.tmod i == 0))):=by
    show _=_;unfold zCS;rw [HW.out,hit,e1,e2,hp];cases p <;> simp
   obtain ⟨D,hD⟩:=nm (Lib.decDigits i);rw [hD] at hI hp;clear hD hit;cases p
   ·have HB:Hid (false=Q):=(by show _=_;rw [<- HQ.out,HS.out];rfl);go_wp2_with fail;go_quiet (first | (go_at_call 160;exact Calls.quiet_of_same (hI _)));go_wp2_with fail;go_ret;exact ⟨zA1 HB.out,xdM X1 _⟩
   ·by_cases c3:1<=m
    ·have e3:decide (1<=m)=true:=decide_eq_true c3;by_cases c4:m<=100
     ·have e4:decide (m<=100)=true:=decide_eq_true c4;have hmod:m.tmod i=m % (i:Int):=Int.tmod_eq_emod_of_nonneg (by omega);have HB:Hid ((m % (i:Int) == 0)=Q):=(by show _=_;rw [<- HQ.out,HS.out,e3,e4,hmod];rfl);have hi0:(i:Int) ≠ 0:=(by omega);go_wp2_with fail;go_quiet (first | (go_at_call 160;exact Calls.quiet_of_same (hI _)));go_wp2_with fail;go_ret;exact ⟨zA1 HB.out,xdM X1 _⟩
     ·have e4:decide (m<=100)=false:=decide_eq_false c4;have HB:Hid (false=Q):=(by show _=_;rw [<- HQ.out,HS.out,e3,e4];rfl);go_wp2_with fail;go_quiet (first | (go_at_call 160;exact Calls.quiet_of_same (hI _)));go_wp2_with fail;go_ret;exact ⟨zA1 HB.out,xdM X1 _⟩
    ·have e3:decide (1<=m)=false:=decide_eq_false c3;have HB:Hid (false=Q):=(by show _=_;rw [<- HQ.out,HS.out,e3];rfl);go_wp2_with fail;go_quiet (first | (go_at_call 160;exact Calls.quiet_of_same (hI _)));go_wp2_with fail;go_ret;exact ⟨zA1 HB.out,xdM X1 _⟩
  ·have e2:decide (R<=20)=false:=decide_eq_false c2;have HB:Hid (false=Q):=by show _=_;rw [<- HQ.out];unfold zCS;rw [HW.out,e1,e2];rfl
   go_wp2_with fail;go_quiet (fail);go_wp2_with fail;go_ret;exact ⟨zA1 HB.out,xdM X1 _⟩
 ·have e1:decide (1<=R)=false:=decide_eq_false c1;have HB:Hid (false=Q):=by show _=_;rw [<- HQ.out];unfold zCS;rw [HW.out,e1];rfl
  go_wp2_with fail;go_quiet (fail);go_wp2_with fail;go_ret;exact ⟨zA1 HB.out,xdM X1 _⟩
theorem zSG (t:ByteArray) (n:Int) (W:World):(Instr.field 176 (.agg #[.string t,iQ n]) 0).run Tryz.prog W=.ok (.string t) W:=by kernel_rfl
theorem opI (l:List UInt8) (w:World) (hO:zBX w):Calls Tryz.prog 137 #[.string (bs l)] w fun e w'=>e=.returned (.bool (memB opsL l))/\Ext w w':=by
 have tl:(bs l).toList=l:=by rw [ByteArray.toList_eq,zCF]
 have hem:(bs l).toList.isEmpty=l.isEmpty:=by rw [tl]
 cases l with
 | nil =>
  have e0:memB opsL []=false:=by decide
  rw [e0];have hem':(bs []).toList.isEmpty=true:=hem;obtain ⟨s,hs⟩:=nm (bs []);rw [hs] at hem' ⊢;clear hem tl hs;go_enter Tryz.func137,Tryz.ntmps137;go_wp2_with fail;go_ret;exact ⟨rfl,xr _⟩
 | cons c l' =>
  have op:=zVZ (c :: l') (by simp);have AH:=zRK (c :: l') w hO;have F:=fun W=>zSG ⟨(zBV (c :: l')).1.toArray⟩ (zBV (c :: l')).2 W;have hem':(bs (c :: l')).toList.isEmpty=false:=hem;obtain ⟨o,ho⟩:=nm (zBV (c :: l'));rw [ho] at op AH F;obtain ⟨t,lev⟩:=o;obtain ⟨R,hR⟩:=nm (memB opsL (c :: l'));rw [hR] at op ⊢;have HB:((⟨t.toArray⟩:ByteArray).toList == (bs (c :: l')).toList)=R:=by
   rw [tl,ByteArray.toList_eq];exact op
  obtain ⟨s,hs⟩:=nm (bs (c :: l'));rw [hs] at hem' HB AH ⊢;obtain ⟨x,hx⟩:∃ x:ByteArray,(⟨t.toArray⟩:ByteArray)=x:=⟨_,rfl⟩;have AH:Calls Tryz.prog 140 #[.string s] w fun e w'=>e=.returned (.agg #[.string x,iQ lev])/\Ext w w':=by rw [<- hx];exact AH
  have F:∀ W,(Instr.field 176 (.agg #[.string x,iQ lev]) 0).run Tryz.prog W=.ok (.string x) W:=by rw [<- hx];exact F
  rw [hx] at HB;clear hem tl hs hx hR ho op;cases R
  all_goals
   go_enter Tryz.func137,Tryz.ntmps137;go_wp2_with fail;refine AH.mono ?_;rintro e w1 ⟨rfl,e1⟩;go_wp2_with fail;go_ret
   first | exact ⟨rfl,e1⟩ | exact ⟨by simp [HB],e1⟩
theorem xdNz {a b:World} (h:Ext a b) (n:Nat):Ext a (b.drewN n):=⟨h.os,h.tape,h.output,h.size,h.block⟩
theorem zMI (x:NT) (k:Int) (hk:k=8\/k=9) (g cap:Nat) (T:TypeId) (a:Value) (w:World) (V:Vec w g [.iface T a]) :
  Calls Tryz.prog 116 #[nodV k x.t x.n x.d x.x x.r x.c x.f x.g x.r2 x.c2 x.f2 x.g2 x.q,.slice (some ⟨g,0,none⟩) 1 cap] w fun e w'=>e=.returned (.iface 174 (.agg #[iQ k,.iface T a]))/\Ext w w':=by
 obtain ⟨wa,ha,X1,VN,-⟩:=zAD w [iQ k,sV x.t,.bool x.n,iQ x.d,iQ x.x,iQ x.r,iQ x.c,.bool x.f,.bool x.g,iQ x.r2,iQ x.c2,.bool x.f2,.bool x.g2,iQ x.q] 73;have a0:=(VN 0 _ rfl).1;have b0:=((V.l X1) 0 _ rfl).1
 rcases hk with rfl | rfl
 all_goals
  go_enter Tryz.func116,Tryz.ntmps116;go_wp2_with fail
  go_region
  go_wp2_with fail;go_ret;exact ⟨rfl,xdNz X1 _⟩
theorem zLE (x:NT) (g cap:Nat) (T1 T2:TypeId) (a1 a2:Value) (w:World) (V:Vec w g [.iface T1 a1,.iface T2 a2]) (hO:zBX w) :
  Calls Tryz.prog 116 #[nodV 10 x.t x.n x.d x.x x.r x.c x.f x.g x.r2 x.c2 x.f2 x.g2 x.q,.slice (some ⟨g,0,none⟩) 2 cap] w fun e w'=>e=.returned (.iface 179 (.agg #[sV (zBV x.t).1,iQ (zBV x.t).2,.iface T1 a1,.iface T2 a2]))/\Ext w w':=by
 obtain ⟨wa,ha,X1,VN,-⟩:=zAD w [iQ 10,sV x.t,.bool x.n,iQ x.d,iQ x.x,iQ x.r,iQ x.c,.bool x.f,.bool x.g,iQ x.r2,iQ x.c2,.bool x.f2,.bool x.g2,iQ x.q] 73;have a0:=(VN 0 _ rfl).1;have V1:=V.l X1;have aT:=(VN 1 _ rfl).1;obtain ⟨⟨os,ol⟩,hos⟩:∃ o,zBV x.t=o:=⟨_,rfl⟩;have AH:Hid (∀ W,Ext wa W->Calls Tryz.prog 140 #[sV x.t] W fun e w'=>e=.returned (.agg #[sV os,iQ ol])/\Ext W w'):=fun W X=>by
  have:=zRK x.t W (hO.l (xt X1 X));rw [hos] at this;exact this
 rw [hos];clear hos V hO;go_enter Tryz.func116,Tryz.ntmps116;go_wp2_with fail;refine zA3 (fun lx:Nat->Value=>{ tmps:=#[nodV 10 x.t x.n x.d x.x x.r x.c x.f x.g x.r2 x.c2 x.f2 x.g2 x.q,Value.slice (some ⟨g,0,none⟩) 2 cap,Value.pointer (some ⟨w.heap.size,0,none⟩),undef,lx 4,Value.pointer (some ⟨w.heap.size,0,none⟩),Value.int .i64 10,Value.bool false,Value.bool false,Value.bool false,undef,undef,undef,undef,undef,undef,undef,Value.bool true,Value.bool true,lx 19,lx 20,lx 21,lx 22,lx 23,lx 24,lx 25,lx 26,lx 27,lx 28,lx 29,undef,undef,undef,undef,undef,undef,undef,undef,undef,undef,undef,undef,undef,undef,undef,undef,undef,undef],defers:=[] }) (fun L lx lw=>Hid (Ext wa lw/\(L 0=true->lx 19=.pointer (some ⟨w.heap.size,1,none⟩))/\(L 1=true->lx 20=sV x.t)/\(L 2=true->lx 21=.agg #[sV os,iQ ol])/\(L 3=true->lx 22=.slice (some ⟨g,0,none⟩) 2 cap)/\(L 4=true->lx 23=.pointer (some ⟨g,0,none⟩))/\(L 5=true->lx 24=.iface T1 a1)/\(L 6=true->lx 25=.slice (some ⟨g,0,none⟩) 2 cap)/\(L 7=true->lx 26=.pointer (some ⟨g,1,none⟩))/\(L 8=true->lx 27=.iface T2 a2)/\(L 9=true->lx 28=.agg #[sV os,iQ ol,.iface T1 a1,.iface T2 a2])/\(L 10=true->lx 29=.iface 179 (.agg #[sV os,iQ ol,.iface T1 a1,.iface T2 a2]))/\(L 11=true->lx 4=.iface 179 (.agg #[sV os,iQ ol,.iface T1 a1,.iface T2 a2])))) rfl (by kernel_rfl) (fun jj=>if jj=4 then Value.nilIface else undef) rfl ?_ ?_ ?_
 ·exact ⟨xd (xr _),(fun h=>by cases h),(fun h=>by cases h),(fun h=>by cases h),(fun h=>by cases h),(fun h=>by cases h),(fun h=>by cases h),(fun h=>by cases h),(fun h=>by cases h),(fun h=>by cases h),(fun h=>by cases h),(fun h=>by cases h),(fun h=>by cases h)⟩
 ·intro L lx lw ix o K hK ho hL haf hI hcl;obtain ⟨E,f0,f1,f2,f3,f4,f5,f6,f7,f8,f9,f10,f11⟩:=hI.out
  match ix,ho,hL,haf,hK with
  | 0,ho,hL,haf,hK =>
   cases ho
   (try dsimp only)
   refine Eq.mpr (if_pos (by rfl)) ?_;go_wp2_with fail;exact hK (fun jj=>if jj=19 then .pointer (some ⟨w.heap.size,1,none⟩) else lx jj) _ ⟨E,(fun _=>rfl),f1,f2,f3,f4,f5,f6,f7,f8,f9,f10,f11⟩
  | 1,ho,hL,haf,hK =>
   cases ho
   (try dsimp only)
   rw [f0 (haf ⟨0,.data⟩ (by simp) rfl)];refine Eq.mpr (if_pos (by rfl)) ?_;have c1:=cell_later E aT;go_wp2_with fail;exact hK (fun jj=>if jj=20 then sV x.t else if jj=19 then .pointer (some ⟨w.heap.size,1,none⟩) else lx jj) _ ⟨E,(fun _=>rfl),(fun _=>rfl),f2,f3,f4,f5,f6,f7,f8,f9,f10,f11⟩
  | 2,ho,hL,haf,hK =>
   cases ho
   (try dsimp only)
   rw [f1 (haf ⟨1,.data⟩ (by simp) rfl)];refine Eq.mpr (if_pos (by rfl)) ?_;go_wp2_with fail;refine (AH.out lw E).mono ?_;rintro rr w' ⟨rfl,e'⟩;go_wp2_with fail;exact hK (fun jj=>if jj=21 then .agg #[sV os,iQ ol] else if jj=20 then sV x.t else lx jj) _ ⟨(xt E e'),f0,(fun _=>rfl),(fun _=>rfl),f3,f4,f5,f6,f7,f8,f9,f10,f11⟩
  | 3,ho,hL,haf,hK =>
   cases ho
   (try dsimp only)
   refine Eq.mpr (if_pos (by rfl)) ?_;go_wp2_with fail;exact hK (fun jj=>if jj=22 then .slice (some ⟨g,0,none⟩) 2 cap else lx jj) _ ⟨E,f0,f1,f2,(fun _=>rfl),f4,f5,f6,f7,f8,f9,f10,f11⟩
  | 4,ho,hL,haf,hK =>
   cases ho
   (try dsimp only)
   rw [f3 (haf ⟨3,.data⟩ (by simp) rfl)];refine Eq.mpr (if_pos (by rfl)) ?_;go_wp2_with fail;exact hK (fun jj=>if jj=23 then .pointer (some ⟨g,0,none⟩) else if jj=22 then .slice (some ⟨g,0,none⟩) 2 cap else lx jj) _ ⟨E,f0,f1,f2,(fun _=>rfl),(fun _=>rfl),f5,f6,f7,f8,f9,f10,f11⟩
  | 5,ho,hL,haf,hK =>
   cases ho
   (try dsimp only)
   rw [f4 (haf ⟨4,.data⟩ (by simp) rfl)];refine Eq.mpr (if_pos (by rfl)) ?_;have c0:=((V1.l E) 0 _ rfl).1;go_wp2_with fail;exact hK (fun jj=>if jj=24 then .iface T1 a1 else if jj=23 then .pointer (some ⟨g,0,none⟩) else lx jj) _ ⟨E,f0,f1,f2,f3,(fun _=>rfl),(fun _=>rfl),f6,f7,f8,f9,f10,f11⟩
  | 6,ho,hL,haf,hK =>
   cases ho
   (try dsimp only)
   refine Eq.mpr (if_pos (by rfl)) ?_;go_wp2_with fail;exact hK (fun jj=>if jj=25 then .slice (some ⟨g,0,none⟩) 2 cap else lx jj) _ ⟨E,f0,f1,f2,f3,f4,f5,(fun _=>rfl),f7,f8,f9,f10,f11⟩
  | 7,ho,hL,haf,hK =>
   cases ho
   (try dsimp only)
   rw [f6 (haf ⟨6,.data⟩ (by simp) rfl)];refine Eq.mpr (if_pos (by rfl)) ?_;go_wp2_with fail;exact hK (fun jj=>if jj=26 then .pointer (some ⟨g,1,none⟩) else if jj=25 then .slice (some ⟨g,0,none⟩) 2 cap else lx jj) _ ⟨E,f0,f1,f2,f3,f4,f5,(fun _=>rfl),(fun _=>rfl),f8,f9,f10,f11⟩
  | 8,ho,hL,haf,hK =>
   cases ho
   (try dsimp only)
   rw [f7 (haf ⟨7,.data⟩ (by simp) rfl)];refine Eq.mpr (if_pos (by rfl)) ?_;have c0:=((V1.l E) 1 _ rfl).1;go_wp2_with fail;exact hK (fun jj=>if jj=27 then .iface T2 a2 else if jj=26 then .pointer (some ⟨g,1,none⟩) else lx jj) _ ⟨E,f0,f1,f2,f3,f4,f5,f6,(fun _=>rfl),(fun _=>rfl),f9,f10,f11⟩
  | 9,ho,hL,haf,hK =>
   cases ho
   (try dsimp only)
   rw [f2 (haf ⟨2,.data⟩ (by simp) rfl),f5 (haf ⟨5,.data⟩ (by simp) rfl),f8 (haf ⟨8,.data⟩ (by simp) rfl)];refine Eq.mpr (if_pos (by rfl)) ?_;go_wp2_with fail;exact hK (fun jj=>if jj=28 then .agg #[sV os,iQ ol,.iface T1 a1,.iface T2 a2] else if jj=21 then .agg #[sV os,iQ ol] else if jj=24 then .iface T1 a1 else if jj=27 then .iface T2 a2 else lx jj) _ ⟨E,f0,f1,(fun _=>rfl),f3,f4,(fun _=>rfl),f6,f7,(fun _=>rfl),(fun _=>rfl),f10,f11⟩
  | 10,ho,hL,haf,hK =>
   cases ho
   (try dsimp only)
   rw [f9 (haf ⟨9,.data⟩ (by simp) rfl)];refine Eq.mpr (if_pos (by rfl)) ?_;go_wp2_with fail;exact hK (fun jj=>if jj=29 then .iface 179 (.agg #[sV os,iQ ol,.iface T1 a1,.iface T2 a2]) else if jj=28 then .agg #[sV os,iQ ol,.iface T1 a1,.iface T2 a2] else lx jj) _ ⟨E,f0,f1,f2,f3,f4,f5,f6,f7,f8,(fun _=>rfl),(fun _=>rfl),f11⟩
  | 11,ho,hL,haf,hK =>
   cases ho
   (try dsimp only)
   rw [f10 (haf ⟨10,.data⟩ (by simp) rfl)];refine Eq.mpr (if_pos (by rfl)) ?_;go_wp2_with fail;exact hK (fun jj=>if jj=4 then .iface 179 (.agg #[sV os,iQ ol,.iface T1 a1,.iface T2 a2]) else if jj=29 then .iface 179 (.agg #[sV os,iQ ol,.iface T1 a1,.iface T2 a2]) else lx jj) _ ⟨E,f0,f1,f2,f3,f4,f5,f6,f7,f8,f9,(fun _=>rfl),(fun _=>rfl)⟩
  | k+12,ho,_,_,_=>simp at ho
 ·intro L lx w9 hall hI;obtain ⟨E,f0,f1,f2,f3,f4,f5,f6,f7,f8,f9,f10,f11⟩:=hI.out
  (try dsimp only)
  rw [f11 (hall 11 (by simp)),f0 (hall 0 (by simp)),f1 (hall 1 (by simp)),f2 (hall 2 (by simp)),f3 (hall 3 (by simp)),f4 (hall 4 (by simp)),f5 (hall 5 (by simp)),f6 (hall 6 (by simp)),f7 (hall 7 (by simp)),f8 (hall 8 (by simp)),f9 (hall 9 (by simp)),f10 (hall 10 (by simp))];clear hI hall f0 f1 f2 f3 f4 f5 f6 f7 f8 f9 f10 f11;go_wp2_with fail;go_ret;exact ⟨rfl,xt X1 E⟩
theorem zLD (x:NT) (p:Option Addr) (n cap:Nat) (w:World) :
  Calls Tryz.prog 116 #[nodV 11 x.t x.n x.d x.x x.r x.c x.f x.g x.r2 x.c2 x.f2 x.g2 x.q,.slice p n cap] w fun e w'=>e=.returned (.iface 181 (.agg #[sV x.t,.slice p n cap]))/\Ext w w':=by
 obtain ⟨wa,ha,X1,VN,-⟩:=zAD w [iQ 11,sV x.t,.bool x.n,iQ x.d,iQ x.x,iQ x.r,iQ x.c,.bool x.f,.bool x.g,iQ x.r2,iQ x.c2,.bool x.f2,.bool x.g2,iQ x.q] 73;have a0:=vC2 VN;go_enter Tryz.func116,Tryz.ntmps116;go_wp2_with fail;go_ret;exact ⟨rfl,X1⟩
theorem zLC (x:NT) (p:Option Addr) (n cap:Nat) (w:World) (hl:x.t.length<=1048576) (LW:LibW w) :
  Calls Tryz.prog 116 #[nodV 12 x.t x.n x.d x.x x.r x.c x.f x.g x.r2 x.c2 x.f2 x.g2 x.q,.slice p n cap] w fun e w'=>e=.returned (.iface 183 (.agg #[iQ (zC0 x.t),.slice p n cap]))/\Ext w w':=by
 obtain ⟨wa,ha,X1,VN,-⟩:=zAD w [iQ 12,sV x.t,.bool x.n,iQ x.d,iQ x.x,iQ x.r,iQ x.c,.bool x.f,.bool x.g,iQ x.r2,iQ x.c2,.bool x.f2,.bool x.g2,iQ x.q] 73;have a0:=vC2 VN;have WH:Calls Tryz.prog 141 #[sV x.t] wa fun e w'=>e=.returned (iQ (zC0 x.t))/\Ext wa w':=zMB x.t wa hl (LW.l X1);go_enter Tryz.func116,Tryz.ntmps116;go_wp2_with fail;refine WH.mono ?_;rintro e w1 ⟨rfl,e1⟩;go_wp2_with fail;go_ret;exact ⟨rfl,xt X1 e1⟩
theorem zMH (x:NT) (p:Option Addr) (n cap:Nat) (w:World) (k:Int) (h8:k ≠ 8) (h9:k ≠ 9) (h10:k ≠ 10) (h11:k ≠ 11) (h12:k ≠ 12) :
  Calls Tryz.prog 116 #[nodV k x.t x.n x.d x.x x.r x.c x.f x.g x.r2 x.c2 x.f2 x.g2 x.q,.slice p n cap] w fun e w'=>e=.returned (.iface 185 (nodV k x.t x.n x.d x.x x.r x.c x.f x.g x.r2 x.c2 x.f2 x.g2 x.q))/\Ext w w':=by
 obtain ⟨wa,ha,X1,VN,-⟩:=zAD w [iQ k,sV x.t,.bool x.n,iQ x.d,iQ x.x,iQ x.r,iQ x.c,.bool x.f,.bool x.g,iQ x.r2,iQ x.c2,.bool x.f2,.bool x.g2,iQ x.q] 73;have a0:=(VN 0 _ rfl).1;have HRA:wa.rangeAt w.heap.size 0 [iQ k,sV x.t,.bool x.n,iQ x.d,iQ x.x,iQ x.r,iQ x.c,.bool x.f,.bool x.g,iQ x.r2,iQ x.c2,.bool x.f2,.bool x.g2,iQ x.q]:=fun j v hv=>by rw [Nat.zero_add];exact (VN j v hv).1
 go_enter Tryz.func116,Tryz.ntmps116;go_wp2_with (refine wpList_load_mid rfl 73 (.tmp 2) rfl w.heap.size 0 rfl _ _ HRA Tryz.underlying73 rfl zCE ?_);go_ret;exact ⟨rfl,X1⟩
def TreeV (_:World) (_:Nat->Prop) (v:Value) (e:ET):Prop:=zGV v e
theorem TreeV.leaf {w:World} {U:Nat->Prop} (x:NT) (es:List ET) (hk:x.k ≠ 8/\x.k ≠ 9/\x.k ≠ 10/\x.k ≠ 11/\x.k ≠ 12):TreeV w U (.iface 185 x.val) (.mk x es):=⟨.leaf x,fun h=>absurd h hk.1⟩
theorem TreeV.signed {w:World} {U:Nat->Prop} (x:NT) (v:Value) (e:ET) (_:x.k=8\/x.k=9) (h:TreeV w U v e):TreeV w U (.iface 174 (.agg #[iQ x.k,v])) (.mk x [e]):=⟨.signed _ _,fun h8=>⟨v,e,by rw [show x.k=8 from h8],rfl,h.1⟩⟩
theorem TreeV.pair {w:World} {U:Nat->Prop} (x:NT) (l r:Value) (e f:ET) (hk:x.k=10) (_:TreeV w U l e) (_:TreeV w U r f):TreeV w U (.iface 179 (.agg #[sV (zBV x.t).1,iQ (zBV x.t).2,l,r])) (.mk x [e,f]):=⟨by show KindV _ x.k;rw [hk];exact .pair _ _ _ _,fun h=>absurd (hk.symm.trans h) (by decide)⟩
theorem TreeV.call {w:World} {U:Nat->Prop} {A B:Prop} (x:NT) (p:Option Addr) (cap:Nat) (es:List ET) (_:Nat->Value) (hk:x.k=11) (_:es.length<=cap) (_:A) (_:B):TreeV w U (.iface 181 (.agg #[sV x.t,.slice p es.length cap])) (.mk x es):=⟨by show KindV _ x.k;rw [hk];exact .call _ _ _ _,fun h=>absurd (hk.symm.trans h) (by decide)⟩
theorem TreeV.array {w:World} {U:Nat->Prop} {A B:Prop} (x:NT) (p:Option Addr) (cap:Nat) (es:List ET) (_:Nat->Value) (hk:x.k=12) (h:0<=zC0 x.t/\zC0 x.t<=20) (_:es.length<=cap) (_:A) (_:B):TreeV w U (.iface 183 (.agg #[iQ (zC0 x.t),.slice p es.length cap])) (.mk x es):=⟨by show KindV _ x.k;rw [hk];exact .array _ _ _ _ h.1 h.2,fun h=>absurd (hk.symm.trans h) (by decide)⟩
theorem TreeV.keep {w w':World} {U U':Nat->Prop} {v:Value} {e:ET} (h:TreeV w U v e) (_:∀ k,U k->w'.heap[k]?=w.heap[k]?) (_:∀ k,U k->U' k):TreeV w' U' v e:=h
theorem TreeV.l {w w':World} {U:Nat->Prop} {v:Value} {e:ET} (h:TreeV w U v e) (_:∀ k,U k->k<w.heap.size) (_:Ext w w'):TreeV w' U v e:=h
theorem TreeV.kind {w:World} {U:Nat->Prop} {v:Value} {e:ET} (h:TreeV w U v e):KindV v e.n.k:=h.1
theorem TreeV.shape {w:World} {U:Nat->Prop} {v:Value} {e:ET} (h:TreeV w U v e):zGV v e:=h
structure zDR (w:World) (U:Nat->Prop) (vs:List Value) (es:List ET):Prop where
 len:vs.length=es.length
 get:∀ (i:Nat) (v:Value) (e:ET),vs[i]?=some v->es[i]?=some e->TreeV w U v e
theorem zDR.shapes {w:World} {U:Nat->Prop} {vs:List Value} {es:List ET} (h:zDR w U vs es):zCV vs es:=⟨h.len,fun i v e h1 h2=>(h.get i v e h1 h2).shape⟩
theorem zDR.keep {w w':World} {U U':Nat->Prop} {vs:List Value} {es:List ET} (h:zDR w U vs es) (_:∀ k,U k->w'.heap[k]?=w.heap[k]?) (_:∀ k,U k->U' k):zDR w' U' vs es:=⟨h.len,h.get⟩
theorem zDR.nil {w:World} {U:Nat->Prop}:zDR w U [] []:=⟨rfl,fun i v e h=>by cases h⟩
theorem zDR.snoc {w:World} {U:Nat->Prop} {vs:List Value} {es:List ET} (h:zDR w U vs es) {v:Value} {e:ET} (hv:TreeV w U v e):zDR w U (vs++[v]) (es++[e]):=by
 refine ⟨by rw [List.length_append,List.length_append,h.len];rfl,fun i u f h1 h2=>?_⟩;by_cases hi:i<vs.length
 ·rw [List.getElem?_append_left hi] at h1;rw [List.getElem?_append_left (by rw [<- h.len];exact hi)] at h2;exact h.get i u f h1 h2
 ·rw [List.getElem?_append_right (by omega)] at h1;rw [List.getElem?_append_right (by rw [<- h.len];omega),<- h.len] at h2;have e0:i - vs.length=0:=by
   rcases Nat.eq_zero_or_pos (i - vs.length) with h | h
   ·exact h
   ·rw [List.getElem?_eq_none (by simp;omega)] at h1;cases h1
  rw [e0] at h1 h2;cases h1;cases h2;exact hv
theorem zMG (U:Nat->Prop) (x:NT) (v:Value) (vs:List Value) (ks:List ET) (w:World) (h:zE4 w v vs) (hs:zDR w U vs ks) (hU:∀ k,U k->k<w.heap.size) (hv:∀ g,v.ownBlock=some g->U g) (h8:x.k=8\/x.k=9->vs.length=1) (h10:x.k=10->vs.length=2) (h12:x.k=12->0<=zC0 x.t/\zC0 x.t<=20) (hl:x.t.length<=1048576) (hO:zBX w) (LW:LibW w) :
  Calls Tryz.prog 116 #[x.val,v] w fun e w'=>∃ u,e=.returned u/\TreeV w' U u (.mk x ks)/\Ext w w':=by
 obtain ⟨p,cap,rfl,hc,hrow⟩:=h;have hgt:∀ {w'},Ext w w'->zDR w' U vs ks:=fun x=>hs.keep (fun k hk=>x.block k (hU k hk)) (fun _ h=>h);have hcells:∀ {w'},Ext w w'->(0<ks.length->∃ g,p=some ⟨g,0,none⟩/\U g/\∀ i,i<ks.length->w'.cell? ⟨g,i,none⟩=some (vs.getD i .nilIface)):=fun x h0=>by
  rw [<- hs.len] at h0;obtain ⟨g,rfl,V⟩:=hrow h0;refine ⟨g,rfl,hv g (by simp [Value.ownBlock]),fun i hi=>?_⟩;rw [<- hs.len] at hi;have e1:vs[i]?=some (vs.getD i .nilIface):=by rw [List.getD_eq_getElem?_getD,List.getElem?_eq_getElem hi];rfl
  exact ((V.l x) i _ e1).1
 have hsub:∀ {w'},Ext w w'->∀ i e,ks[i]?=some e->TreeV w' U (vs.getD i .nilIface) e:=fun x i e he=>by
  have hi:i<vs.length:=by rw [hs.len];exact (List.getElem?_eq_some_iff.1 he).1
  exact (hgt x).get i _ e (by rw [List.getD_eq_getElem?_getD,List.getElem?_eq_getElem hi];rfl) he
 by_cases k8:x.k=8\/x.k=9
 ·have h1:=h8 k8;obtain ⟨g,rfl,V⟩:=hrow (by omega);obtain ⟨u',hu'⟩:=List.length_eq_one_iff.1 h1;obtain ⟨e',he'⟩:=List.length_eq_one_iff.1 (show ks.length=1 by rw [<- hs.len];exact h1);subst hu' he';obtain ⟨T,a,rfl⟩:=(hs.get 0 _ _ rfl rfl).kind.iface;refine (zMI x x.k k8 g cap T a w V).mono ?_;rintro e w' ⟨rfl,e1⟩;exact ⟨_,rfl,.signed x _ e' k8 ((hgt e1).get 0 _ _ rfl rfl),e1⟩
 ·by_cases k10:x.k=10
  ·have h2:=h10 k10;obtain ⟨g,rfl,V⟩:=hrow (by omega);obtain ⟨u1,u2,hu⟩:∃ u1 u2,vs=[u1,u2]:=by
    match vs,h2 with
    | [a,b],_=>exact ⟨a,b,rfl⟩
   subst hu;obtain ⟨e1,e2,hk⟩:∃ e1 e2,ks=[e1,e2]:=by
    have:=hs.len
    match ks,this with
    | [a,b],_=>exact ⟨a,b,rfl⟩
   subst hk;obtain ⟨T1,a1,rfl⟩:=(hs.get 0 _ _ rfl rfl).kind.iface;obtain ⟨T2,a2,rfl⟩:=(hs.get 1 _ _ rfl rfl).kind.iface;have:=zLE x g cap T1 T2 a1 a2 w V hO;rw [<- k10] at this;refine this.mono ?_;rintro e w' ⟨rfl,e3⟩;exact ⟨_,rfl,.pair x _ _ e1 e2 k10 ((hgt e3).get 0 _ _ rfl rfl) ((hgt e3).get 1 _ _ rfl rfl),e3⟩
  ·by_cases k11:x.k=11
   ·have:=zLD x p vs.length cap w;rw [<- k11] at this;refine this.mono ?_;rintro e w' ⟨rfl,e3⟩;rw [hs.len];exact ⟨_,rfl,.call x p cap ks (fun i=>vs.getD i .nilIface) k11 (by rw [<- hs.len];exact hc) (hcells e3) (hsub e3),e3⟩
   ·by_cases k12:x.k=12
    ·have:=zLC x p vs.length cap w hl LW;rw [<- k12] at this;refine this.mono ?_;rintro e w' ⟨rfl,e3⟩;rw [hs.len];exact ⟨_,rfl,.array x p cap ks (fun i=>vs.getD i .nilIface) k12 (h12 k12) (by rw [<- hs.len];exact hc) (hcells e3) (hsub e3),e3⟩
    ·refine (zMH x p vs.length cap w x.k (fun q=>k8 (.inl q)) (fun q=>k8 (.inr q)) k10 k11 k12).mono ?_;rintro e w' ⟨rfl,e3⟩;exact ⟨_,rfl,.leaf x ks ⟨fun q=>k8 (.inl q),fun q=>k8 (.inr q),k10,k11,k12⟩,e3⟩
end Go.Proofs.YteliaeejooekbaaGreatDoor
