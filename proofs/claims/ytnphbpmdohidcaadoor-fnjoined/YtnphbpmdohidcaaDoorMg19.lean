/-
  Several texts in one: J4, J5, J6.
-/
import Derived.Test.YtnphbpmdohidcaaDoorMg18
import Derived.Lib.AppendZeros
import Derived.Test.YtnphbpmdohidcaaDoorMg17
namespace Go.Proofs.YtnphbpmdohidcaaDoor
open Go.RowKit
set_option maxRecDepth 8000 in
set_option maxHeartbeats 2000000 in
theorem likenessI (e:VT) (w:World) (hl:e.t.length≤2000000) :
  Calls Tryd.prog 27 #[e.val] w fun r w'=>r=.returned (nrm e).val∧Ext w w':=by
 obtain ⟨k,n,d,x,t⟩:=e;obtain ⟨u0,u1,h0,h1,s0,s1,B0,B1,X⟩:=mkB2 w (valL k n d x t) (valL 0 false 0 0 []) 46 46;obtain ⟨a0,a1,a2,a3,a4⟩:=Vec.five B0;have CC:=capsI t u1 hl;go_enter Tryd.func27,Tryd.ntmps27;go_wp2_with fail;clear a0 a1 a2 a3 a4 h0 h1 s0 s1;refine CC.mono ?_;rintro r w1 ⟨rfl,e1⟩;obtain ⟨T,hT⟩:∃ T,t.map upC=T:=⟨_,rfl⟩;have HT:Hid (t.map upC=T):=hT;rw [hT];have C0:=B0.later e1;have C1:=B1.later e1;obtain ⟨-,-,-,-,k4⟩:=Vec.five C0;obtain ⟨-,-,-,-,f4⟩:=Vec.fiveF C0;have D0:Vec (w1.setCell ⟨w.heap.size,4,none⟩ (sV T)) w.heap.size (valL k n d x T):=C0.put 4 (by simp) _;have D1:=C1.far (p:=⟨w.heap.size,4,none⟩) (by show w.heap.size ≠ _;omega) (sV T);have XD:=xset (xt X e1) (p:=⟨w.heap.size,4,none⟩) (Nat.le_refl _) (sV T);obtain ⟨wd,hd⟩:∃ wd,w1.setCell ⟨w.heap.size,4,none⟩ (sV T)=wd:=⟨_,rfl⟩;rw [hd] at D0 D1 XD;obtain ⟨a0,a1,a2,a3,a4⟩:=Vec.five D0;obtain ⟨wy,hy,FX,⟨b0,b1,b2,b3,b4⟩,⟨fb0,fb1,fb2,fb3,fb4⟩,fd0,fd1,fd2,fd3,fd4⟩:=fin5 D1 XD (by omega) k n d x T;clear C0 C1 D0 D1 hT B0 B1 X;go_wp2_with fail;exact bodyPost_ret (v:=valV k n d x T) (by simp [results,Tryd.results27,go_sem,fd0,fd1,fd2,fd3,fd4]) rfl ⟨by unfold nrm;rw [HT.out],FX⟩
theorem ext_grownJ {w a b:World} {r:Option Nat} (X:Ext w a) (G:a.grownBy b r) (hr:∀ k,r=some k→w.heap.size≤k):Ext w b:=by
 refine ⟨by rw [← X.os];exact G.os,by rw [← X.tape];exact G.tape,by rw [← X.output];exact G.output,Nat.le_trans X.size G.size,fun k hk=>?_⟩;rw [G.block k (Nat.lt_of_lt_of_le hk X.size) (fun e=>by have:=hr k e.symm;omega)];exact X.block k hk
theorem lookF_ne {w:World} {base m:Nat} {f:VT→Option GE} (h:RowsF w base m f) {K:VT} (hK:InK K):(lookF f K).ownBlock ≠ some m:=by
 unfold lookF;cases hf:f K with
 | none=>simp [Value.ownBlock]
 | some e =>
  have:=(h.1 K hK e hf).2.1;simpa [Value.ownBlock] using this
theorem lookF_lt {w:World} {base m:Nat} {f:VT→Option GE} (h:RowsF w base m f) {K:VT} (hK:InK K):∀ k,(lookF f K).ownBlock=some k→k<w.heap.size:=by
 intro k hk;unfold lookF at hk;cases hf:f K with
 | none=>rw [hf] at hk;cases hk
 | some e =>
  rw [hf] at hk;have:e.g=k:=by simpa [Value.ownBlock] using hk
  rw [← this];exact (h.1 K hK e hf).2.2
set_option maxRecDepth 8000 in
set_option maxHeartbeats 4000000 in
theorem putG (K:VT) (hKK:InK K) (f:VT→Option GE) (m n y base:Nat) (w0 w:World) (X0:Ext w0 w) (hb:base=w0.heap.size) (hm0:base≤m) (M:MapF w m n f) (R:RowsF w base m f) (hn:n≤2000) (hns:(nsF f K).length≤2000) :
  Calls Tryd.prog 26 #[.map (some m),K.val,.int .i64 y] w fun r w'=>r=.returned (.tuple #[])∧∃ e:GE,e.ns=nsF f K++[y]∧MapF w' m (n+1) (updF f K e)∧RowsF w' base m (updF f K e)∧Ext w0 w':=by
 have hml:=M.lt;have X1:=x1 w (.cells #[.int .i64 K.k,.bool K.n,.int .i64 K.d,.int .i64 K.x,sV K.t] 46);have B:=vec_made w (valL K.k K.n K.d K.x K.t) 46;change Vec (w.alloc (.cells #[.int .i64 K.k,.bool K.n,.int .i64 K.d,.int .i64 K.x,sV K.t] 46)) _ _ at B;obtain ⟨u0,hu0⟩:∃ u,w.alloc (.cells #[.int .i64 K.k,.bool K.n,.int .i64 K.d,.int .i64 K.x,sV K.t] 46)=u:=⟨_,rfl⟩;have hus:u0.heap.size=w.heap.size+1:=by rw [← hu0,World.size_alloc]
 rw [hu0] at X1 B;have M1:=M.later X1;have R1:=R.later X1;have hSl:=lookF_lt R hKK;obtain ⟨S,hS⟩:∃ S,lookF f K=S:=⟨_,rfl⟩;have HS:Hid (lookF f K=S):=hS;rw [hS] at hSl;clear hS M R;go_enter Tryd.func26,Tryd.ntmps26;go_wp2_with fail;refine wp_region_letters_g (fun lx:Nat→Value=>{ tmps:=#[.map (some m),K.val,.int .i64 y,undef,.pointer (some ⟨w.heap.size,0,none⟩),undef,lx 6,lx 7,lx 8,lx 9,lx 10,lx 11,lx 12,lx 13],defers:=[] }) (fun L lx lw=>Hid (Ext w0 lw∧Vec lw w.heap.size (valL K.k K.n K.d K.x K.t)∧m<lw.heap.size∧(L 0=true→lx 6=.map (some m))∧(L 1=true→lx 7=K.val)∧(L 2=true→lx 8=.map (some m))∧(L 3=true→lx 9=K.val)∧(L 4=true→lx 10=S)∧(L 5=true→lx 11=.int .i64 y)∧(L 6=true→∃ b,lx 12=.slice (some ⟨b,0,none⟩) 1 1∧b ≠ m∧w0.heap.size≤b∧(L 7=false→Vec lw b [.int .i64 y]))∧(L 8=false→MapF lw m n f)∧(L 7=false→RowsF lw base m f)∧(L 7=true→∃ e:GE,lx 13=e.sl∧e.ns=nsF f K++[y]∧RowsF lw base m (updF f K e)∧(L 8=true→MapF lw m (n+1) (updF f K e)))∧(L 8=true→L 7=true)∧(L 8=true→L 4=true))) rfl (by kernel_rfl) (fun _=>undef) rfl ?_ ?_ ?_
 ·exact ⟨xd (xt X0 X1),B.later (xd (xr _)),by show m<u0.heap.size;omega,(fun h=>by cases h),(fun h=>by cases h),(fun h=>by cases h),(fun h=>by cases h),(fun h=>by cases h),(fun h=>by cases h),(fun h=>by cases h),(fun _=>M1.later (xd (xr _))),(fun _=>R1.later (xd (xr _))),(fun h=>by cases h),(fun h=>by cases h),(fun h=>by cases h)⟩
 ·intro L lx wl i o KK hK ho hL haf hI;obtain ⟨X,G,HM,f0,f1,f2,f3,f4,f5,f6,f7,f8,f9,g7,g4⟩:=hI.out
  match i,ho,hL,haf,hK with
  | 0,ho,hL,haf,hK =>
   cases ho
   (try dsimp only)
   refine Eq.mpr (if_pos (by rfl)) ?_;go_wp2_with fail;exact hK (fun jj=>if jj=6 then .map (some m) else lx jj) _ ⟨X,G,HM,(fun _=>rfl),f1,f2,f3,f4,f5,f6,f7,f8,f9,g7,g4⟩
  | 1,ho,hL,haf,hK =>
   cases ho
   (try dsimp only)
   refine Eq.mpr (if_pos (by rfl)) ?_;obtain ⟨a0,a1,a2,a3,a4⟩:=Vec.five G;go_wp2_with fail;exact hK (fun jj=>if jj=7 then K.val else lx jj) _ ⟨X,G,HM,f0,(fun _=>rfl),f2,f3,f4,f5,f6,f7,f8,f9,g7,g4⟩
  | 2,ho,hL,haf,hK =>
   cases ho
   (try dsimp only)
   refine Eq.mpr (if_pos (by rfl)) ?_;go_wp2_with fail;exact hK (fun jj=>if jj=8 then .map (some m) else lx jj) _ ⟨X,G,HM,f0,f1,(fun _=>rfl),f3,f4,f5,f6,f7,f8,f9,g7,g4⟩
  | 3,ho,hL,haf,hK =>
   cases ho
   (try dsimp only)
   refine Eq.mpr (if_pos (by rfl)) ?_;obtain ⟨a0,a1,a2,a3,a4⟩:=Vec.five G;go_wp2_with fail;exact hK (fun jj=>if jj=9 then K.val else lx jj) _ ⟨X,G,HM,f0,f1,f2,(fun _=>rfl),f4,f5,f6,f7,f8,f9,g7,g4⟩
  | 4,ho,hL,haf,hK =>
   cases ho
   (try dsimp only)
   refine Eq.mpr (if_pos (by rfl)) ?_;rw [f2 (haf ⟨2,.data⟩ (by simp) rfl),f3 (haf ⟨3,.data⟩ (by simp) rfl)];have h8:L 8=false:=by
    cases hh:L 8 with
    | false=>rfl
    | true=>have:=g4 hh;rw [hL] at this;cases this
   have hlk:=(f7 h8).look hKK;rw [HS.out] at hlk;go_wp2_with fail;exact hK (fun jj=>if jj=10 then S else if jj=8 then .map (some m) else if jj=9 then K.val else lx jj) _ ⟨X,G,HM,f0,f1,(fun _=>rfl),(fun _=>rfl),(fun _=>rfl),f5,f6,f7,f8,f9,g7,(fun _=>rfl)⟩
  | 5,ho,hL,haf,hK =>
   cases ho
   (try dsimp only)
   refine Eq.mpr (if_pos (by rfl)) ?_;go_wp2_with fail;exact hK (fun jj=>if jj=11 then .int .i64 y else lx jj) _ ⟨X,G,HM,f0,f1,f2,f3,f4,(fun _=>rfl),f6,f7,f8,f9,g7,g4⟩
  | 6,ho,hL,haf,hK =>
   cases ho
   (try dsimp only)
   refine Eq.mpr (if_pos (by rfl)) ?_;rw [f5 (haf ⟨5,.data⟩ (by simp) rfl)];go_wp2_with fail;exact hK (fun jj=>if jj=12 then .slice (some ⟨wl.heap.size,0,none⟩) 1 1 else if jj=11 then .int .i64 y else lx jj) _ ⟨(xa X _),(G.later (x1 _ _)),(by rw [World.size_alloc];omega),f0,f1,f2,f3,f4,(fun _=>rfl),(fun _=>⟨wl.heap.size,rfl,by omega,X.size,fun _=>vec_made wl [.int .i64 y] _⟩),(fun h=>(f7 h).later (x1 _ _)),(fun h=>(f8 h).later (x1 _ _)),(fun h=>by obtain ⟨e,h1,h2,h3,h4⟩:=f9 h;exact ⟨e,h1,h2,h3.later (x1 _ _),fun h=>(h4 h).later (x1 _ _)⟩),g7,g4⟩
  | 7,ho,hL,haf,hK =>
   cases ho
   (try dsimp only)
   refine Eq.mpr (if_pos (by rfl)) ?_;obtain ⟨b,eb,hbm,hb0,hvb⟩:=f6 (haf ⟨6,.data⟩ (by simp) rfl);have hv1:=hvb hL;have RR:=f8 hL;have h8:L 8=false:=by
    cases hh:L 8 with
    | false=>rfl
    | true=>have:=g7 hh;rw [hL] at this;cases this
   rw [f4 (haf ⟨4,.data⟩ (by simp) rfl),eb];have OS:OwnI wl base S (nsF f K):=by rw [← HS.out];exact lookF_own RR hKK
   obtain ⟨inf,hi,hz,hsz,hby⟩:=infoI;obtain ⟨v',w',hrun,O,GW,hbl⟩:=app_srcG (P:=Tryd.prog) wl base 60 60 60 3 inf (.int .i64 0) Tryd.underlying60 hi hz 1 hsz (by rw [hby];omega) rfl S (nsF f K).length _ OS (.slice (some ⟨b,0,none⟩) 1 1) 1 [.int .i64 y] (Src.ofSlice (size:=1) wl Tryd.underlying60 ⟨b,0,none⟩ 1 1 [.int .i64 y] rfl (fun j u hj=>by rw [Addr.add_lit];have:=(hv1 j u hj).1;rw [Nat.zero_add];exact this) (fun u hu=>by obtain rfl:=List.mem_singleton.1 hu;rfl)) (by omega) (by have:=X.size;omega);have O2:OwnI w' base v' (nsF f K++[y]):=by show World.ownsRow _ _ _ _ _ _ _;rw [List.length_append,List.map_append];exact O
   rw [← HS.out] at GW hbl;obtain ⟨e,rfl,hne,RE⟩:=RR.grow hKK HM O2 GW hbl;rw [HS.out] at GW;have hrow:∀ k,S.ownBlock=some k→base≤k:=ownI_block OS;have hmr:some m ≠ S.ownBlock:=fun q=>by
    have:=lookF_ne RR hKK;rw [HS.out] at this;exact this q.symm
   have X2:Ext w0 w':=ext_grownJ X GW (fun k hk=>by have:=hrow k hk;omega);have G2:=vec_keep G GW (fun q=>by have:=hSl _ q.symm;omega);refine Lib.wpList_append_run _ rfl (.tmp 10) (.tmp 12) 60 60 rfl _ _ rfl rfl _ _ hrun ?_;go_wp2_with fail;exact hK (fun jj=>if jj=13 then e.sl else if jj=10 then S else if jj=12 then .slice (some ⟨b,0,none⟩) 1 1 else lx jj) _ ⟨(X2),(G2),(Nat.lt_of_lt_of_le HM GW.size),f0,f1,f2,f3,(fun _=>rfl),f5,(fun _=>⟨b,rfl,hbm,hb0,(fun h=>by cases h)⟩),(fun h=>(f7 h).kept GW hmr),(fun h=>by cases h),(fun _=>⟨e,rfl,hne,RE,(fun h=>by have h8':L 8=true:=h;rw [h8] at h8';cases h8')⟩),(fun _=>rfl),g4⟩
  | 8,ho,hL,haf,hK =>
   cases ho
   (try dsimp only)
   refine Eq.mpr (if_pos (by rfl)) ?_;obtain ⟨e,ee,hne,RE,_⟩:=f9 (haf ⟨7,.data⟩ (by simp) rfl);obtain ⟨u,hu,MU,GU⟩:=(f7 hL).put (by omega) hKK e;rw [f0 (haf ⟨0,.data⟩ (by simp) rfl),f1 (haf ⟨1,.data⟩ (by simp) rfl),ee];have X2:Ext w0 u:=ext_grownJ X GU (fun k hk=>by cases hk;omega);have G2:=vec_keep G GU (fun q=>by have:w.heap.size=m:=(by simpa using q);omega);go_wp2_with fail;exact hK (fun jj=>if jj=6 then .map (some m) else if jj=7 then K.val else if jj=13 then e.sl else lx jj) _ ⟨(X2),(G2),(Nat.lt_of_lt_of_le HM GU.size),(fun _=>rfl),(fun _=>rfl),f2,f3,f4,f5,(fun h=>by obtain ⟨b,h1,h2,h3,h4⟩:=f6 h;exact ⟨b,h1,h2,h3,fun h=>vec_keep (h4 h) GU (fun q=>h2 (by simpa using q))⟩),(fun h=>by cases h),(fun h=>by have h7:L 7=false:=h;rw [haf ⟨7,.data⟩ (by simp) rfl] at h7;cases h7),(fun _=>⟨e,rfl,hne,RE.map GU,fun _=>MU⟩),(fun _=>haf ⟨7,.data⟩ (by simp) rfl),(fun _=>haf ⟨4,.phase⟩ (by simp) rfl)⟩
  | k+9,ho,_,_,_=>simp at ho
 ·intro L lx wl hall hI;obtain ⟨X,G,HM,f0,f1,f2,f3,f4,f5,f6,f7,f8,f9,g7,g4⟩:=hI.out;obtain ⟨e,_,hne,RE,hM⟩:=f9 (hall 7 (by simp));have MU:=hM (hall 8 (by simp));exact bodyPost_end (results_none rfl _ _ _) rfl ⟨rfl,e,hne,MU,RE,X⟩
def grpN (r : List VT) (y : Nat) (K : VT) : List Nat := (List.range y).filter fun j => decide ((cel r j).k ≠ 0) && sameQ (nrm (cel r j)) K
theorem grpN_succ (r : List VT) (y : Nat) (K : VT) : grpN r (y + 1) K = grpN r y K ++ (if (decide ((cel r y).k ≠ 0) && sameQ (nrm (cel r y)) K) = true then [y] else []) := by
  unfold grpN
  rw [List.range_succ, List.filter_append]
  congr 1
  rw [List.filter_cons]
  simp
theorem grpN_length (r : List VT) (y : Nat) (K : VT) : (grpN r y K).length ≤ y := by
  unfold grpN
  refine Nat.le_trans (List.length_filter_le _ _) (by simp)
def prsN (l r : List VT) (R x : Nat) : List (Nat × Nat) := (List.range x).flatMap fun i => (grpN r R (nrm (cel l i))).map fun j => (i, j)
theorem prsN_succ (l r : List VT) (R x : Nat) : prsN l r R (x + 1) = prsN l r R x ++ (grpN r R (nrm (cel l x))).map fun j => (x, j) := by
  unfold prsN
  rw [List.range_succ, List.flatMap_append]
  simp
theorem prsN_mono (l r : List VT) (R : Nat) {x y : Nat} (h : x ≤ y) : (prsN l r R x).length ≤ (prsN l r R y).length := by
  induction y with
  | zero => obtain rfl : x = 0 := by omega
            exact Nat.le_refl _
  | succ y ih =>
    by_cases e : x = y + 1
    · subst e; exact Nat.le_refl _
    · have := ih (by omega)
      rw [prsN_succ, List.length_append]
      omega
theorem inK_nrm {e : VT} (hg : e.good = true) (hr : e.room) : InK (nrm e) := by
  obtain ⟨k, n, d, x, t⟩ := e
  obtain ⟨h1, h2, h3⟩ := hr
  have hg' : goodV k n d x t = true := hg
  simp only at h1 h2 h3
  refine ⟨?_, ⟨h2, h3⟩, ?_, ?_⟩
  · show InJ k
    rcases goodV_kinds hg' with h | h | h | ⟨h, _⟩ | ⟨h, _⟩ <;> (subst h; exact ⟨by omega, by omega⟩)
  · show InJ x
    by_cases hk : k = 1
    · subst hk
      obtain ⟨g, _⟩ := goodV_num hg'
      unfold goodB at g
      split at g
      · simp at g; rw [g.2]; exact ⟨by omega, by omega⟩
      · have := of_decide_eq_true g
        exact ⟨by omega, by omega⟩
    · obtain ⟨_, _, h⟩ := goodV_zero hg' hk
      rw [h]; exact ⟨by omega, by omega⟩
  · show (t.map upC).length ≤ 2000000
    rw [List.length_map]; exact h1
abbrev prV (p : Nat × Nat) : List Value := [numV p.1, numV p.2]
abbrev OwnP (w : World) (base : Nat) (v : Value) (l : List (Nat × Nat)) : Prop := w.ownsRow base 47 2 v l.length (l.flatMap prV)
theorem ownP_nil (w : World) (base : Nat) : OwnP w base (.slice none 0 0) [] := World.ownsRow_nil _ _ _ _
theorem ownP_later {w w' : World} {base : Nat} {v : Value} {l : List (Nat × Nat)} (h : OwnP w base v l) (hx : Ext w w') : OwnP w' base v l := by
  refine ⟨h.1, h.2.imp id ?_⟩
  rintro ⟨g, cap, cur, h1, h2, h3, h4⟩
  have hlt : g < w.heap.size := by
    rcases Nat.lt_or_ge g w.heap.size with h' | h'
    · exact h'
    · rw [Array.getElem?_eq_none h'] at h3; cases h3
  exact ⟨g, cap, cur, h1, h2, by rw [hx.block g hlt]; exact h3, h4⟩
theorem ownP_slice {w : World} {base : Nat} {v : Value} {l : List (Nat × Nat)} (h : OwnP w base v l) : ∃ p c, v = .slice p l.length c ∧ l.length ≤ c := by
  rcases h.2 with ⟨rfl, h0⟩ | ⟨g, cap, cur, rfl, _, _, h3, _⟩
  · exact ⟨none, 0, by rw [h0], by omega⟩
  · exact ⟨_, _, rfl, h3⟩
theorem ownP_block {w : World} {base : Nat} {v : Value} {l : List (Nat × Nat)} (h : OwnP w base v l) : ∀ r, v.ownBlock = some r → base ≤ r := by
  intro r hr
  rcases h.2 with ⟨rfl, _⟩ | ⟨g, cap, cur, rfl, h2, _⟩
  · cases hr
  · have : g = r := by simpa [Value.ownBlock] using hr
    omega
theorem infoP : ∃ inf, Tryd.prog.info? 47 = some inf ∧ inf.zero = some (.agg #[.int .i64 0, .int .i64 0]) ∧ inf.size = 2 ∧ inf.bytes = 16 := by
  have h : (Tryd.prog.info? 47).map (fun i => (i.zero, i.size, i.bytes)) = some (some (.agg #[.int .i64 0, .int .i64 0]), 2, 16) := by kernel_rfl
  cases h' : Tryd.prog.info? 47 with
  | none => rw [h'] at h; cases h
  | some inf =>
    rw [h'] at h
    simp at h
    exact ⟨inf, rfl, h.1, h.2.1, h.2.2⟩
theorem app_pair (w : World) (base : Nat) (v : Value) (l : List (Nat × Nat)) (O : OwnP w base v l) (x y b : Nat) (V : Vec w b [numV x, numV y]) (hl : l.length ≤ 1000000) (hb : base ≤ w.heap.size) :
    ∃ v' w', (Builtin.append_ #[39, 39] 39 #[v, .slice (some ⟨b, 0, none⟩) 1 1]).run Tryd.prog w = .ok v' w' ∧ OwnP w' base v' (l ++ [(x, y)]) ∧ w.grownBy w' v.ownBlock := by
  obtain ⟨inf, hi, hz, hsz, hby⟩ := infoP
  obtain ⟨v', w', hrun, O', GW, _⟩ := app_srcG (P := Tryd.prog) w base 39 39 39 47 inf (.agg #[.int .i64 0, .int .i64 0]) Tryd.underlying39 hi hz 2 hsz (by rw [hby]; omega) rfl v l.length _ O (.slice (some ⟨b, 0, none⟩) 1 1) 1 [numV x, numV y]
    (Src.ofSlice (size := 2) w Tryd.underlying39 ⟨b, 0, none⟩ 1 1 [numV x, numV y] rfl (fun j u hj => by rw [Addr.add_lit, Nat.zero_add]; exact (V j u hj).1) (fun u hu => by simp at hu; rcases hu with rfl | rfl <;> rfl)) (by omega) hb
  refine ⟨v', w', hrun, ?_, GW⟩
  show World.ownsRow _ _ _ _ _ _ _
  rw [List.length_append, List.flatMap_append]
  simpa using O'
theorem ownP_at {w : World} {base : Nat} {v : Value} {l : List (Nat × Nat)} (h : OwnP w base v l) {g : Nat} {n c : Nat} (hv : v = .slice (some ⟨g, 0, none⟩) n c) {i : Nat} {p : Nat × Nat} (hi : l[i]? = some p) : w.cell? ⟨g, i * 2, none⟩ = some (numV p.1) ∧ w.cell? ⟨g, i * 2 + 1, none⟩ = some (numV p.2) := by
  have key : ∀ (l : List (Nat × Nat)) (i : Nat) (p : Nat × Nat), l[i]? = some p → (l.flatMap prV)[i * 2]? = some (numV p.1) ∧ (l.flatMap prV)[i * 2 + 1]? = some (numV p.2) := by
    intro l
    induction l with
    | nil => intro i p h; simp at h
    | cons q l ih =>
      intro i p h
      cases i with
      | zero =>
        have : q = p := by simpa using h
        subst this
        simp
      | succ i =>
        have h' : l[i]? = some p := by simpa using h
        obtain ⟨a, b⟩ := ih i p h'
        rw [List.flatMap_cons]
        refine ⟨?_, ?_⟩
        · rw [show (i + 1) * 2 = i * 2 + 2 by omega, List.getElem?_append_right (by simp), show i * 2 + 2 - (prV q).length = i * 2 by simp]
          exact a
        · rw [show (i + 1) * 2 + 1 = i * 2 + 1 + 2 by omega, List.getElem?_append_right (by simp), show i * 2 + 1 + 2 - (prV q).length = i * 2 + 1 by simp]
          exact b
  obtain ⟨a, b⟩ := key l i p hi
  have := h.cells (g := g) (by rw [hv]; rfl)
  have e : ∀ j, (⟨g, 0, none⟩ : Addr).add j = ⟨g, j, none⟩ := fun j => by unfold Addr.add; split <;> simp_all
  refine ⟨?_, ?_⟩
  · have := this _ _ a; rw [e] at this; exact this
  · have := this _ _ b; rw [e] at this; exact this
theorem ownP_base {w:World} {a b:Nat} {v:Value} {l:List (Nat × Nat)} (h:OwnP w a v l) (hb:b≤a):OwnP w b v l:=by
 refine ⟨h.1,h.2.imp id ?_⟩;rintro ⟨g,cap,cur,h1,h2,h3,h4⟩;exact ⟨g,cap,cur,h1,by omega,h3,h4⟩
def prsR (l r:List VT) (most:Nat):List (Nat × Nat):=if most<(prsN l r r.length l.length).length then [] else prsN l r r.length l.length
theorem nsF_upd {f:VT→Option GE} {K Q:VT} {e:GE}:nsF (updF f K e) Q=if sameQ K Q=true then e.ns else nsF f Q:=by
 by_cases h:K=Q
 ·subst h;rw [if_pos (sameQ_iff.2 rfl)];unfold nsF;rw [updF_same]
 ·rw [if_neg (fun q=>h (sameQ_iff.1 q))];unfold nsF;rw [updF_other h]
set_option maxRecDepth 8000 in
set_option maxHeartbeats 4000000 in
theorem pairedI (lv rv:Value) (l r:List VT) (most:Nat) (w:World) (hl:ValsIn w lv l) (hr:ValsIn w rv r) (ll:l.length≤2000) (lr:r.length≤2000) (gl:∀ e ∈ l,e.good=true∧e.room) (gr:∀ e ∈ r,e.good=true∧e.room) (hm:most≤2000) :
  Calls Tryd.prog 12 #[lv,rv,.int .i64 most] w fun e w'=>∃ v,e=.returned v∧OwnP w' w.heap.size v (prsR l r most)∧Ext w w':=by
 obtain ⟨pl,cl,rfl,hcl,hrl⟩:=hl;obtain ⟨pr,cr,rfl,hcr,hrr⟩:=hr;obtain ⟨NL,hNL⟩:∃ n,l.length=n:=⟨_,rfl⟩;obtain ⟨NR,hNR⟩:∃ n,r.length=n:=⟨_,rfl⟩;have HNL:Hid (l.length=NL):=hNL;have HNR:Hid (r.length=NR):=hNR;rw [hNL] at hcl hrl ll ⊢;rw [hNR] at hcr hrr lr ⊢;have HRL:Hid (0<NL→∃ b o,pl=some ⟨b,o,none⟩∧RowV w b o l):=hrl;have HRR:Hid (0<NR→∃ b o,pr=some ⟨b,o,none⟩∧RowV w b o r):=hrr;have GL:Hid (∀ e ∈ l,e.good=true∧e.room):=gl;have GR:Hid (∀ e ∈ r,e.good=true∧e.room):=gr;have HP:Hid (prsR l r most=if most<(prsN l r NR NL).length then [] else prsN l r NR NL):=by show _=_;unfold prsR;rw [hNL,hNR]
 have M0:=MapF.made w;have XM:=x1 w (.map #[] 0);obtain ⟨m,hme⟩:∃ m,w.heap.size=m:=⟨_,rfl⟩;obtain ⟨u0,hu0⟩:∃ u,w.alloc (.map #[] 0)=u:=⟨_,rfl⟩;have hmk:(Instr.makeMap 58 none).run Tryd.prog w=.ok (.map (some m)) u0:=by rw [run_makeMap,hu0,hme]
 rw [hu0] at M0 XM;rw [hme] at M0;have HM0:Hid (MapF u0 m 0 (fun _=>none)):=M0;clear hrl hrr gl gr hNL hNR hu0 M0;go_enter Tryd.func12,Tryd.ntmps12;go_wp2_with fail;clear hmk;go_loopw [18] (fun i wr=>∃ y:Nat,y≤NR∧i=.int .i64 y∧Hid (∃ f n,n≤y∧MapF wr m n f∧RowsF wr w.heap.size m f∧(∀ K,InK K→nsF f K=grpN r y K)∧Ext w wr)) (fun i _=>NR - (intOf i).toNat)
 case atStart=>exact ⟨0,by omega,rfl,fun _=>none,0,Nat.le_refl _,HM0.out,RowsF.nil _ _ _,fun _ _=>rfl,XM⟩
 case round =>
  obtain ⟨y,hy,rfl,HI⟩:=hrel;by_cases hlt:y<NR
  ·have i2:(y:Int)<(NR:Int):=by omega
   obtain ⟨b,o,rfl,RW⟩:=HRR.out (by omega);have HX:Hid (Ext w wr):=by obtain ⟨f,n,_,_,_,_,X⟩:=HI.out;exact X
   have hat:=cel_at (l:=r) (k:=y) (by rw [HNR.out];exact hlt);have hgm:=GR.out _ (cel_mem (l:=r) (k:=y) (by rw [HNR.out];exact hlt));obtain ⟨d0,d1,d2,d3,d4⟩:=(RW.later HX.out).five hat;obtain ⟨e,he⟩:∃ e,cel r y=e:=⟨_,rfl⟩;rw [he] at hgm d0 d1 d2 d3 d4;have HE:Hid (cel r y=e):=he;have HGM:Hid (e.good=true∧e.room):=hgm;have ub:=vec_made wr (valL e.k e.n e.d e.x e.t) 46;have ux:=x1 wr (.cells #[.int .i64 e.k,.bool e.n,.int .i64 e.d,.int .i64 e.x,sV e.t] 46);change Vec (wr.alloc (.cells #[.int .i64 e.k,.bool e.n,.int .i64 e.d,.int .i64 e.x,sV e.t] 46)) _ _ at ub;obtain ⟨u1,hu1⟩:∃ u,wr.alloc (.cells #[.int .i64 e.k,.bool e.n,.int .i64 e.d,.int .i64 e.x,sV e.t] 46)=u:=⟨_,rfl⟩;rw [hu1] at ub ux;obtain ⟨a0,a1,a2,a3,a4⟩:=Vec.five ub;clear RW hat hgm he;by_cases hk:e.k=0
   ·have hk1:(e.k == 0)=true:=(by simpa using hk);have hk2:(e.k != 0)=false:=(by simpa using hk);have HN:Hid (∃ f n,n≤y+1∧MapF u1 m n f∧RowsF u1 w.heap.size m f∧(∀ K,InK K→nsF f K=grpN r (y+1) K)∧Ext w u1):=by
     obtain ⟨f,n,h1,h2,h3,h4,h5⟩:=HI.out;refine ⟨f,n,by omega,h2.later ux,h3.later ux,fun K hK=>?_,xt h5 ux⟩;rw [grpN_succ,HE.out,hk,h4 K hK];simp
    clear ub ux HI HX hk;go_wp2_with fail;go_roundw
    case rel=>exact ⟨y+1,by omega,by go_num,HN⟩
    case measure=>simp [intOf];omega
   ·have hk1:(e.k == 0)=false:=(by simpa using hk);have hk2:(e.k != 0)=true:=(by simpa using hk);have HK0:Hid (e.k ≠ 0):=hk;clear hk;go_wp2_with fail;clear a0 a1 a2 a3 a4 d0 d1 d2 d3 d4 hu1;refine (likenessI e u1 (HGM.out.2.1)).mono ?_;rintro q w1 ⟨rfl,e1⟩;obtain ⟨f,n,h1,h2,h3,h4,h5⟩:=HI.out;have hKK:InK (nrm e):=inK_nrm HGM.out.1 HGM.out.2;have PG:=putG (nrm e) hKK f m n y w.heap.size w w1 (xt h5 (xt ux e1)) rfl (by omega) (h2.later (xt ux e1)) (h3.later (xt ux e1)) (by omega) (by rw [h4 _ hKK];have:=grpN_length r y (nrm e);omega);have H4:Hid (∀ K,InK K→nsF f K=grpN r y K):=h4;clear h2 h3 h4 h5 HI HX ub ux e1;obtain ⟨K,hKe⟩:∃ K,nrm e=K:=⟨_,rfl⟩;rw [hKe] at PG hKK ⊢;have HKE:Hid (nrm e=K):=hKe;clear hKe;obtain ⟨k5,n5,d5,x5,t5⟩:=K;go_wp2_with fail;refine PG.mono ?_;rintro q w2 ⟨rfl,ee,hne,MU,RU,XU⟩;have HN:Hid (∃ f n,n≤y+1∧MapF w2 m n f∧RowsF w2 w.heap.size m f∧(∀ K,InK K→nsF f K=grpN r (y+1) K)∧Ext w w2):=by
     refine ⟨_,n+1,by omega,MU,RU,fun Q hQ=>?_,XU⟩;rw [nsF_upd,grpN_succ,HE.out,HKE.out,decide_eq_true HK0.out,Bool.true_and];by_cases hq:sameQ ⟨k5,n5,d5,x5,t5⟩ Q=true
     ·rw [if_pos hq,if_pos hq,hne,← H4.out Q hQ,sameQ_iff.1 hq]
     ·rw [if_neg hq,if_neg hq,H4.out Q hQ,List.append_nil]
    clear PG MU RU XU;go_wp2_with fail;go_roundw
    case rel=>exact ⟨y+1,by omega,by go_num,HN⟩
    case measure=>simp [intOf];omega
  ·obtain rfl:NR=y:=by omega
   obtain ⟨ws,hws⟩:∃ ws,wr=ws:=⟨_,rfl⟩;have HI2:=HI.out;rw [hws] at HI2 ⊢;obtain ⟨f,n,_,h2,h3,h4,h5⟩:=HI2;have HMF:Hid (MapF ws m n f):=h2;have HRF:Hid (RowsF ws w.heap.size m f):=h3;have H4:Hid (∀ K,InK K→nsF f K=grpN r NR K):=h4;have HWS:Hid (Ext w ws):=h5;clear HI hws h2 h3 h4 h5 wr;have hsw:w.heap.size≤ws.heap.size:=HWS.out.size;go_wp2_with fail;go_loopw [10,34] (fun v i wr=>∃ (x nn cc:Nat) (p:Option Addr),x≤NL∧i=.int .i64 x∧v=.slice p nn cc∧nn≤most∧Hid (Ext ws wr∧(prsN l r NR x).length=nn∧OwnP wr ws.heap.size (.slice p nn cc) (prsN l r NR x))) (fun _ i _=>NL - (intOf i).toNat)
   case atStart=>exact ⟨0,0,0,none,by omega,rfl,rfl,by omega,xr _,rfl,ownP_nil _ _⟩
   case round =>
    obtain ⟨x,nn,cc,p,hx,rfl,rfl,hnn,HJ⟩:=hrel;by_cases hlt:x<NL
    ·have i2:(x:Int)<(NL:Int):=(by omega);obtain ⟨b,o,rfl,RW⟩:=HRL.out (by omega);have hat:=cel_at (l:=l) (k:=x) (by rw [HNL.out];exact hlt);have hgm:=GL.out _ (cel_mem (l:=l) (k:=x) (by rw [HNL.out];exact hlt));obtain ⟨d0,d1,d2,d3,d4⟩:=(RW.later (xt HWS.out HJ.out.1)).five hat;obtain ⟨e,he⟩:∃ e,cel l x=e:=⟨_,rfl⟩;rw [he] at hgm d0 d1 d2 d3 d4;have HE:Hid (cel l x=e):=he;have HGM:Hid (e.good=true∧e.room):=hgm;have ub:=vec_made wr (valL e.k e.n e.d e.x e.t) 46;have ux:=x1 wr (.cells #[.int .i64 e.k,.bool e.n,.int .i64 e.d,.int .i64 e.x,sV e.t] 46);change Vec (wr.alloc (.cells #[.int .i64 e.k,.bool e.n,.int .i64 e.d,.int .i64 e.x,sV e.t] 46)) _ _ at ub;obtain ⟨u1,hu1⟩:∃ u,wr.alloc (.cells #[.int .i64 e.k,.bool e.n,.int .i64 e.d,.int .i64 e.x,sV e.t] 46)=u:=⟨_,rfl⟩;rw [hu1] at ub ux;obtain ⟨a0,a1,a2,a3,a4⟩:=Vec.five ub;clear RW hat hgm he;go_wp2_with fail;clear a0 a1 a2 a3 a4 d0 d1 d2 d3 d4 hu1;refine (likenessI e u1 (HGM.out.2.1)).mono ?_;rintro q w1 ⟨rfl,e1⟩;have hKK:InK (nrm e):=inK_nrm HGM.out.1 HGM.out.2;have HX1:Hid (Ext ws w1):=xt HJ.out.1 (xt ux e1);have HOP:Hid (OwnP w1 ws.heap.size (.slice p nn cc) (prsN l r NR x)):=ownP_later HJ.out.2.2 (xt ux e1);have HLEN:Hid ((prsN l r NR x).length=nn):=HJ.out.2.1;have hlk:=(HMF.out.later HX1.out).look hKK;have OK:=lookF_own HRF.out hKK;rw [H4.out _ hKK] at OK;obtain ⟨pk,ck,ek,hck⟩:=ownI_slice OK;rw [ek] at hlk OK;have HNS:=ownI_nums OK;obtain ⟨ns,hns⟩:∃ ns,grpN r NR (nrm e)=ns:=⟨_,rfl⟩;have HNS1:Hid (grpN r NR (nrm e)=ns):=hns;have hnl:=grpN_length r NR (nrm e);rw [hns] at hlk hck HNS hnl;obtain ⟨NN,hNN⟩:∃ n,ns.length=n:=⟨_,rfl⟩;rw [hNN] at hlk hck hnl;have HNN:Hid (ns.length=NN):=hNN;have HNV:Hid (0<NN→∃ g,pk=some ⟨g,0,none⟩∧Vec ws g (ns.map numV)):=by
      obtain ⟨p1,c1,ev,_,hv⟩:=HNS;cases ev;intro h0;exact hv (by rw [HNN.out];exact h0)
     have HSUC:Hid (prsN l r NR (x+1)=prsN l r NR x++ns.map fun j=>(x,j)):=(by show _=_;rw [prsN_succ,HE.out,HNS1.out]);clear ub ux e1 HJ OK ek hns hNN HNS;obtain ⟨⟨k5,n5,d5,x5,t5⟩,hKe⟩:∃ K,nrm e=K:=⟨_,rfl⟩;rw [hKe] at hlk ⊢;clear hKe;go_wp2_with fail;clear hlk;go_loopw [10,44] (fun v i wq=>∃ (k nn' cc':Nat) (p':Option Addr),k≤NN∧i=.int .i64 k∧v=.slice p' nn' cc'∧Hid (nn'=nn+k)∧Hid (Ext ws wq∧OwnP wq ws.heap.size (.slice p' nn' cc') (prsN l r NR x++(ns.take k).map fun j=>(x,j)))) (fun _ i _=>NN - (intOf i).toNat)
     case atStart=>exact ⟨0,nn,cc,p,by omega,rfl,rfl,rfl,HX1.out,by simpa using HOP.out⟩
     case round =>
      obtain ⟨k,nn',cc',p',hk,rfl,rfl,hnn',HQ⟩:=hrel;by_cases hkl:k<NN
      ·have i3:(k:Int)<(NN:Int):=(by omega);obtain ⟨g,rfl,NV⟩:=HNV.out (by omega);obtain ⟨z,hz⟩:∃ z,ns[k]?=some z:=⟨_,List.getElem?_eq_getElem (by rw [HNN.out];exact hkl)⟩;have c1:=((NV.later HQ.out.1) k (numV z) (by rw [List.getElem?_map,hz];rfl)).1;have HZ:Hid (ns.take (k+1)=ns.take k++[z]):=(by show _=_;rw [List.take_add_one,hz];rfl);have hwx:=x1 wr (.cells #[.int .i64 x,.int .i64 z] 47);have hwb:=vec_made wr [.int .i64 x,.int .i64 z] 47;change Vec (wr.alloc (.cells #[.int .i64 x,.int .i64 z] 47)) _ _ at hwb;obtain ⟨wa,hwa⟩:∃ u,wr.alloc (.cells #[.int .i64 x,.int .i64 z] 47)=u:=⟨_,rfl⟩;rw [hwa] at hwx hwb;have hlen:(prsN l r NR x++(ns.take k).map fun j=>(x,j)).length≤1000000:=by
        rw [List.length_append,HLEN.out,List.length_map,List.length_take];omega
       obtain ⟨v',w',hrun,O',GW⟩:=app_pair wa ws.heap.size (.slice p' nn' cc') _ (ownP_later HQ.out.2 hwx) x z wr.heap.size hwb hlen (Nat.le_trans HQ.out.1.size hwx.size);have hbl:=ownP_block (ownP_later HQ.out.2 hwx);have XW:Hid (Ext ws w'):=ext_grownJ (xt HQ.out.1 hwx) GW (fun q hq=>hbl q hq);have HO2:Hid (OwnP w' ws.heap.size v' (prsN l r NR x++(ns.take (k+1)).map fun j=>(x,j))):=by
        show World.ownsRow _ _ _ _ _ _ _;rw [HZ.out,List.map_append,← List.append_assoc];exact O'
       obtain ⟨p2,c2,e2,hc2⟩:=ownP_slice HO2.out;have hn2:(prsN l r NR x++(ns.take (k+1)).map fun j=>(x,j)).length=nn'+1:=by
        rw [List.length_append,HLEN.out,List.length_map,List.length_take,HNN.out];have:=hnn'.out;omega
       rw [hn2] at e2;subst e2;clear hwx hwb O' GW hbl hlen hc2 hn2 hz NV;go_wp2_with (at_builtin;refine Lib.wpList_append_run _ rfl _ _ _ _ rfl _ _ rfl rfl _ _ hrun ?_);go_roundw
       case rel=>exact ⟨k+1,nn'+1,c2,p2,by omega,by go_num,rfl,by show _=_;have:=hnn'.out;omega,XW.out,HO2.out⟩
       case measure=>simp [intOf];omega
      ·obtain rfl:NN=k:=(by omega);have HFIN:Hid (OwnP wr ws.heap.size (.slice p' nn' cc') (prsN l r NR (x+1))):=by
        have:=HQ.out.2;rw [List.take_of_length_le (by rw [HNN.out];exact Nat.le_refl _)] at this;show World.ownsRow _ _ _ _ _ _ _;rw [HSUC.out];exact this
       have HFL:Hid ((prsN l r NR (x+1)).length=nn'):=(by show _=_;rw [HSUC.out,List.length_append,HLEN.out,List.length_map,HNN.out];have:=hnn'.out;omega);have HXF:Hid (Ext ws wr):=HQ.out.1;clear HQ;by_cases hbig:most<nn'
       ·have t1:decide ((nn':Int) > (most:Int))=true:=decide_eq_true (by omega);have t2:decide ((most:Int)<(nn':Int))=true:=decide_eq_true (by omega);have HEM:Hid (prsR l r most=[]):=by
         show _=_;rw [HP.out,if_pos];have:=prsN_mono l r NR (show x+1≤NL by omega);rw [HFL.out] at this;omega
        go_wp2_with fail;go_ret;exact ⟨_,rfl,by rw [HEM.out];exact ownP_nil _ _,xt HWS.out HXF.out⟩
       ·have t1:decide ((nn':Int) > (most:Int))=false:=decide_eq_false (by omega);have t2:decide ((most:Int)<(nn':Int))=false:=decide_eq_false (by omega);have hb3:nn'≤most:=(by omega);clear hbig;go_wp2_with fail;go_roundw
        case rel=>exact ⟨x+1,nn',cc',p',by omega,by go_num,rfl,hb3,HXF.out,HFL.out,HFIN.out⟩
        case measure=>simp [intOf];omega
    ·obtain rfl:NL=x:=(by omega);have HEM:Hid (prsR l r most=prsN l r NR NL):=(by show _=_;rw [HP.out,if_neg];rw [HJ.out.2.1];omega);go_wp2_with fail;go_ret;exact ⟨_,rfl,by rw [HEM.out];exact ownP_base HJ.out.2.2 hsw,xt HWS.out HJ.out.1⟩
end Go.Proofs.YtnphbpmdohidcaaDoor

