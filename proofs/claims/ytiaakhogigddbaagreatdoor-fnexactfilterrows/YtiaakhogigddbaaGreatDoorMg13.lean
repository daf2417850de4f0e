/-
  Several texts in one: Qf, Qg, Ua, Ub, W9h.
-/
import Derived.Test.YtiaakhogigddbaaGreatDoorMg12
import Derived.Test.YtiaakhogigddbaaGreatDoorMg5
namespace Go.Proofs.YtiaakhogigddbaaGreatDoor
open Go.RowKit
structure Takes (w : World) (fi : Nat) (li : Array Value) (L : List VT) (q : Nat → Bool) : Prop where
  ent : ∀ args w, (callFunc fi args).run Tryz.prog w = .ok (.enter fi args) w
  says : ∀ W sv i, Ext w W → ValsIn W sv L → i < L.length → Calls Tryz.prog fi (#[sv, numV i] ++ li) W fun e w' => e = .returned (.bool (q i)) ∧ Ext W w'
set_option maxRecDepth 8000 in
set_option maxHeartbeats 2000000 in
theorem by1I (w : World) (fi : Nat) (li : Array Value) (L : List VT) (q : Nat → Bool) (T : Takes w fi li L q) (bi bc : Nat) (sv : Value) (W : World) (i : Nat) (X : Ext w W) (hV : ValsIn W sv L) (hi : i < L.length)
    (Bi : Vec W bi [.func (.func fi) #[] li]) (Bc : Vec W bc [sv]) :
    Calls Tryz.prog 44 #[numV i, .pointer (some ⟨bi, 0, none⟩), .pointer (some ⟨bc, 0, none⟩)] W fun e w' => e = .returned (.bool (!(q i))) ∧ Ext W w' := by
  have ent := T.ent
  have C0 := T.says W sv i X hV hi
  obtain ⟨R, hR⟩ : ∃ R, q i = R := ⟨_, rfl⟩
  rw [hR] at C0 ⊢
  have a0 := (Bi 0 _ rfl).1
  have b0 := (Bc 0 _ rfl).1
  obtain ⟨p, n, rfl⟩ : ∃ p n, sv = .slice p L.length n := by obtain ⟨p, n, h, _⟩ := hV; exact ⟨p, n, h⟩
  clear hR T hV Bi Bc
  go_enter Tryz.func44, Tryz.ntmps44
  go_wp2_with (go_at_fn fi; refine C0.mono ?_; rintro e w1 ⟨rfl, e1⟩)
  go_ret
  exact ⟨rfl, e1⟩
def rowsR (g : Bool) (r c x : Int) (q : Nat → Bool) : List Nat := if g && !decide (x < 1 ∨ c < x) then (List.range r.toNat).filter q else []
theorem rowsR_le {r c x : Int} {l : List VT} {q : Nat → Bool} : (rowsR (goodG r c l) r c x q).length ≤ 2000 := by
  unfold rowsR
  split
  · next h =>
    rw [Bool.and_eq_true] at h
    have := (goodG_all h.1).2.2.1
    have h2 := List.length_filter_le q (List.range r.toNat)
    rw [List.length_range] at h2
    omega
  · exact Nat.zero_le _
def AnsI (w w' : World) (v : Value) (l : List Nat) : Prop := NumsAt w' v l ∧ (0 < l.length → ∀ g, v.ownBlock = some g → w.heap.size ≤ g) ∧ Ext w w'
set_option maxRecDepth 8000 in
set_option maxHeartbeats 4000000 in
theorem rowsByI (r c : Int) (v : Value) (l : List VT) (x : Int) (fi : Nat) (li : Array Value) (q : Nat → Bool) (w : World) (h : ValsIn w v l) (hl : l.length ≤ 1048576) (hr : ∀ e ∈ l, e.room) (hT : Tens w) (hE : ErrTab w)
    (x1' : -9223372036854775808 ≤ x) (x2' : x ≤ 9223372036854775807) (T : goodG r c l = true → 1 ≤ x → x ≤ c → Takes w fi li (colL l c.toNat (x.toNat - 1) r.toNat) q) :
    Calls Tryz.prog 24 #[grV r c v, .int .i64 x, .func (.func fi) #[] li] w fun e w' => ∃ ans, e = .returned ans ∧ AnsI w w' ans (rowsR (goodG r c l) r c x q) := by
  obtain ⟨u0, u1, h0, h1, s0, s1, B0, B1, X⟩ := mkB2 w [.int .i64 r, .int .i64 c, v] [.func (.func fi) #[] li] 35 55
  have CG : Hid (∀ W, Ext w W → Calls Tryz.prog 39 #[grV r c v] W fun e w' => e = .returned (.bool (goodG r c l)) ∧ Ext W w') := fun W hW => goodGI r c v l W (h.later hW) (by omega) (fun e he => (hr e he).1) (fun e he => (hr e he).2) (hT.later hW) (hE.later hW)
  have CL := fun W => lacksI r c v x W
  have HV : Hid (ValsIn w v l) := h
  have HT : Hid (goodG r c l = true → 1 ≤ x → x ≤ c → Takes w fi li (colL l c.toNat (x.toNat - 1) r.toNat) q) := T
  have HR : Hid (rowsR (goodG r c l) r c x q = if goodG r c l && !decide (x < 1 ∨ c < x) then (List.range r.toNat).filter q else []) := rfl
  obtain ⟨RR, hRR⟩ : ∃ RR, rowsR (goodG r c l) r c x q = RR := ⟨_, rfl⟩
  rw [hRR] at HR ⊢
  have HG : Hid (goodG r c l = true → gsidesB r c l.length = true ∧ (1 ≤ r ∧ r ≤ 2000) ∧ 1 ≤ c ∧ c ≤ 2000) := fun h => ⟨(goodG_all h).1, (goodG_all h).2.2⟩
  obtain ⟨a0, a1, a2⟩ := Vec.three B0
  obtain ⟨G, hG⟩ : ∃ G, goodG r c l = G := ⟨_, rfl⟩
  rw [hG] at CG HT HR HG
  have C0 := CG.out u1 X
  clear hRR hG T h hT hE CG
  obtain ⟨pv, nv, rfl⟩ : ∃ p n, v = .slice p l.length n := by obtain ⟨p, n, h, _⟩ := HV.out; exact ⟨p, n, h⟩
  cases G
  · have HF : Hid ([] = RR) := by show _ = _; rw [HR.out]; rfl
    go_enter Tryz.func24, Tryz.ntmps24
    go_wp2_with (go_at_call 39; refine C0.mono ?_; rintro e w1 ⟨rfl, e1⟩)
    go_ret
    exact ⟨_, rfl, by rw [← HF.out]; exact ⟨nums_nil _, fun h => absurd h (by simp), xt X e1⟩⟩
  · by_cases hx : x < 1 ∨ c < x
    · have HF : Hid ([] = RR) := by show _ = _; rw [HR.out, decide_eq_true hx]; rfl
      rw [decide_eq_true hx] at CL
      go_enter Tryz.func24, Tryz.ntmps24
      go_wp2_with (first
        | (go_at_call 39; refine C0.mono ?_; rintro e w1 ⟨rfl, e1⟩; obtain ⟨a0, a1, a2⟩ := Vec.three (B0.later e1))
        | (go_at_call 40; refine (CL w1).mono ?_; rintro e w2 ⟨rfl, e2⟩))
      go_ret
      exact ⟨_, rfl, by rw [← HF.out]; exact ⟨nums_nil _, fun h => absurd h (by simp), xt X (xt e1 e2)⟩⟩
    · rw [decide_eq_false hx] at CL
      have hG := HG.out rfl
      have hs : 1 ≤ r ∧ 1 ≤ c ∧ r * c ≤ 2000 ∧ (l.length : Int) = r * c := of_decide_eq_true hG.1
      obtain ⟨r, rfl⟩ := Int.eq_ofNat_of_zero_le (show 0 ≤ r by omega)
      obtain ⟨c, rfl⟩ := Int.eq_ofNat_of_zero_le (show 0 ≤ c by omega)
      obtain ⟨x, rfl⟩ := Int.eq_ofNat_of_zero_le (show 0 ≤ x by omega)
      have hrc : l.length = r * c := by
        have h4 := hs.2.2.2
        have e : ((r * c : Nat) : Int) = (r : Int) * (c : Int) := by simp
        omega
      have hrc2 : l.length ≤ 2000 := by have := hs.2.2.1; omega
      have HF : Hid ((List.range r).filter q = RR) := by show _ = _; rw [HR.out, decide_eq_false hx]; rfl
      have TK := HT.out rfl (by omega) (by omega)
      rw [Int.toNat_natCast, Int.toNat_natCast, Int.toNat_natCast] at TK
      have HK : Hid (Takes w fi li (colL l c (x - 1) r) q) := TK
      have hx1 : ((x : Int) - 1) = ((x - 1 : Nat) : Int) := by omega
      obtain ⟨j, hj⟩ : ∃ j, x - 1 = j := ⟨_, rfl⟩
      rw [hj] at hx1 HK
      have j1 : j < c := by omega
      have r1 : r ≤ 2000 := by omega
      have r0 : 1 ≤ r := by omega
      have CC : Hid (∀ W, Ext w W → Calls Tryz.prog 41 #[grV r c (.slice pv l.length nv), .int .i64 j] W fun e w' => ∃ sv, e = .returned sv ∧ OwnW w' W.heap.size sv (colL l c j r) ∧ Ext W w') := fun W hW => columnI r c _ l j W (HV.out.later hW) hrc hrc2 j1 r1
      clear HT HR HG hG hs hrc hrc2 hl hr
      obtain ⟨N, hN⟩ : ∃ N, l.length = N := ⟨_, rfl⟩
      rw [hN] at CC C0 CL B0 a2 h0 ⊢
      have HVn : Hid (ValsIn w (.slice pv N nv) l) := by rw [← hN]; exact HV.out
      clear HV hN
      go_enter Tryz.func24, Tryz.ntmps24
      go_wp2_with (first
        | (go_at_call 39; refine C0.mono ?_; rintro e w1 ⟨rfl, e1⟩; obtain ⟨a0, a1, a2⟩ := Vec.three (B0.later e1))
        | (go_at_call 40; refine (CL w1).mono ?_; rintro e w2 ⟨rfl, e2⟩; obtain ⟨a0, a1, a2⟩ := Vec.three (B0.later (xt e1 e2)))
        | (go_at_call 41; refine (CC.out w2 (xt X (xt e1 e2))).mono ?_; rintro e w3 ⟨sv, rfl, OW, e3⟩; obtain ⟨ps, ns, cs, rfl⟩ := ownW_slice OW; have c0 := (((B0.later (xt e1 (xt e2 e3))).later (x1 w3 (.cells #[.slice ps ns cs] 33))) 0 _ rfl).1))
      have B3 := vec_made w3 [.slice ps ns cs] 33
      change Vec (w3.alloc (.cells #[.slice ps ns cs] 33)) _ _ at B3
      have X3 := x1 w3 (.cells #[.slice ps ns cs] 33)
      have S3 : (w3.alloc (.cells #[.slice ps ns cs] 33)).heap.size = w3.heap.size + 1 := by rw [World.size_alloc]
      obtain ⟨u3, hu3⟩ : ∃ u, w3.alloc (.cells #[.slice ps ns cs] 33) = u := ⟨_, rfl⟩
      rw [hu3] at B3 X3 S3 ⊢
      clear c0 hu3
      refine (fromI r u3 r1).mono ?_
      rintro e w4 ⟨sw, rfl, OI, e4⟩
      obtain ⟨pr, hpr⟩ : ∃ pr cr, sw = .slice pr r cr := by obtain ⟨p, n, h, _⟩ := ownI_slice OI; rw [List.length_range] at h; exact ⟨p, n, h⟩
      obtain ⟨cr, rfl⟩ := hpr
      obtain ⟨p', cap', hsl, hca, hvv⟩ := ownI_nums OI
      rw [List.length_range] at hsl hca hvv
      cases hsl
      obtain ⟨g, rfl, VG⟩ := hvv (by omega)
      have gb := ownI_block OI g rfl
      have X4 := xt X (xt e1 (xt e2 (xt e3 (xt X3 e4))))
      have sz3 : w3.heap.size ≤ u3.heap.size := by omega
      have RA : RowAt w4 (.slice ps ns cs) r (flatV (colL l c j r)) := by have := RowAt.of_row (ownW_later OW (xt X3 e4)); rwa [colL_length] at this
      have ltS : ∀ z, (Value.slice ps ns cs).ownBlock = some z → z < w3.heap.size := ownW_lt OW
      have Bi4 := B1.later (xt e1 (xt e2 (xt e3 (xt X3 e4))))
      have Bc4 := B3.later e4
      have lw : w.heap.size + 1 < w3.heap.size := by have := (xt e1 (xt e2 e3)).size; omega
      have CD : Hid (Calls Tryz.prog 42 #[.slice (some ⟨g, 0, none⟩) r cr, .func (.func 44) #[] #[.pointer (some ⟨w.heap.size + 1, 0, none⟩), .pointer (some ⟨w3.heap.size, 0, none⟩)]] w4 fun e w' =>
          ∃ m, e = .returned (.slice (some ⟨g, 0, none⟩) m cr) ∧ m = ((List.range r).filter fun x => !!(q x)).length ∧ Vec w' g (((List.range r).filter fun x => !!(q x)).map numV) ∧ w4.grownBy w' (some g)) := by
        have := deleteFI 44 #[.pointer (some ⟨w.heap.size + 1, 0, none⟩), .pointer (some ⟨w3.heap.size, 0, none⟩)] (List.range r) (fun x => !(q x))
          (fun W => Ext w W ∧ RowAt W (.slice ps ns cs) r (flatV (colL l c j r)) ∧ Vec W (w.heap.size + 1) [.func (.func fi) #[] li] ∧ Vec W w3.heap.size [.slice ps ns cs])
          ⟨enters_of Tryz.func44 (by kernel_rfl) rfl, fun W y hW hy => by
            have hyr : y < r := List.mem_range.1 hy
            exact by1I w fi li (colL l c j r) q HK.out _ _ _ W y hW.1 (by have := hW.2.1; rw [show r = (colL l c j r).length by rw [colL_length]] at this; exact RowAt.vals (by simpa [colL_length] using this)) (by rw [colL_length]; exact hyr) hW.2.2.1 hW.2.2.2,
           fun W W' hW hx => ⟨xt hW.1 hx, hW.2.1.later hx, hW.2.2.1.later hx, hW.2.2.2.later hx⟩⟩ g cr w4 VG (by rw [List.length_range]; exact hca) (by rw [List.length_range]; exact r1) ⟨X4, RA, Bi4, Bc4⟩
          (fun W k u hW => ⟨xset hW.1 (p := ⟨g, k, none⟩) (by show _ ≤ g; omega) u, hW.2.1.keep (grown_set (grown_refl W (some g)) u) (fun z _ hz => by have := ltS z hz; intro e; cases e; omega), hW.2.2.1.far (p := ⟨g, k, none⟩) (by show g ≠ _; omega) u, hW.2.2.2.far (p := ⟨g, k, none⟩) (by show g ≠ _; omega) u⟩)
        rw [List.length_range] at this
        exact this
      have HE : Hid (Ext w w4 ∧ w.heap.size ≤ g) := ⟨X4, by omega⟩
      clear VG RA Bi4 Bc4 B3 OI OW
      go_wp2_with fail
      refine CD.out.mono ?_
      rintro e w5 ⟨m, rfl, hm, VM, gM⟩
      have e2' : ((List.range r).filter fun x => !!(q x)) = (List.range r).filter q := by simp
      rw [e2'] at hm VM
      have HA : Hid (AnsI w w5 (.slice (some ⟨g, 0, none⟩) m cr) RR) := by
        have h5 := List.length_filter_le q (List.range r)
        rw [List.length_range] at h5
        refine ⟨⟨_, cr, by rw [← HF.out, hm], by rw [← HF.out]; omega, fun _ => ⟨g, rfl, by rw [← HF.out]; exact VM⟩⟩, fun _ z hz => ?_, HE.out.1.grown gM HE.out.1.size (fun z hz => ?_)⟩
        · cases hz; exact HE.out.2
        · cases hz; exact HE.out.2
      clear VM gM hm
      go_wp2_with fail
      go_ret
      exact ⟨_, rfl, HA.out⟩
theorem good_dims {r c:Int} {l:List VT} (h:goodG r c l=true):∃ R C:Nat,r=R∧c=C∧l.length=R * C∧R * C≤2000∧1≤R∧1≤C∧R≤2000∧C≤2000:=by
 have hg:=goodG_all h;have hs:1≤r∧1≤c∧r * c≤2000∧(l.length:Int)=r * c:=of_decide_eq_true hg.1;obtain ⟨R,rfl⟩:=Int.eq_ofNat_of_zero_le (show 0≤r by omega);obtain ⟨C,rfl⟩:=Int.eq_ofNat_of_zero_le (show 0≤c by omega);have e:((R * C:Nat):Int)=(R:Int) * (C:Int):=by simp
 refine ⟨R,C,rfl,rfl,?_,?_,?_,?_,?_,?_⟩ <;> omega
def MeetsFrom (w:World) (f:Nat) (L:List VT) (op:List UInt8) (b:VT) (q:VT→Bool):Prop:=∀ W e,Ext w W→e ∈ L→Calls Tryz.prog f #[e.val,sV op,b.val] W fun z w'=>z=.returned (.bool (q e))∧Ext W w'
set_option maxRecDepth 8000 in
set_option maxHeartbeats 4000000 in
theorem filt1I (v:Value) (L:List VT) (i:Nat) (op:List UInt8) (b':VT) (q:VT→Bool) (bo bb:Nat) (w:World) (h:ValsIn w v L) (hi:i<L.length) (Bo:Vec w bo [sV op]) (Bb:Vec w bb b'.cells) (M:MeetsFrom w 26 L op b' q) :
  Calls Tryz.prog 25 #[v,numV i,.pointer (some ⟨bo,0,none⟩),.pointer (some ⟨bb,0,none⟩)] w fun e w'=>e=.returned (.bool (q (cel L i)))∧Ext w w':=by
 obtain ⟨p,cap,rfl,hcap,hrow⟩:=h;obtain ⟨b,o,rfl,RW⟩:=hrow (by omega);obtain ⟨n,hn⟩:∃ n,L.length=n:=⟨_,rfl⟩;have e1:=cel_at hi;have CM:Hid (∀ W,Ext w W→Calls Tryz.prog 26 #[(cel L i).val,sV op,b'.val] W fun z w'=>z=.returned (.bool (q (cel L i)))∧Ext W w'):=fun W hW=>M W _ hW (cel_mem hi);obtain ⟨R,hR⟩:∃ R,q (cel L i)=R:=⟨_,rfl⟩;rw [hR] at CM ⊢;obtain ⟨⟨k,m,d,x,t⟩,hA⟩:∃ A,cel L i=A:=⟨_,rfl⟩;obtain ⟨k',m',d',x',t'⟩:=b';rw [hA] at e1 CM;obtain ⟨c0,c1,c2,c3,c4⟩:=RW.five e1;obtain ⟨d0,d1,d2,d3,d4⟩:=Vec.five Bb;have co:=(Bo 0 _ rfl).1;rw [hn] at hi ⊢;have i2:(i:Int)<(n:Int):=by omega
 clear hcap RW hrow hR hA e1 hn M Bo Bb;go_enter Tryz.func25,Tryz.ntmps25;go_wp2_with fail;go_region_held3 (fun w'=>w'.cell? ⟨b,o+i * 5,none⟩=some (.int .i64 k)∧w'.cell? ⟨b,o+i * 5+1,none⟩=some (.bool m)∧w'.cell? ⟨b,o+i * 5+2,none⟩=some (.int .i64 d)∧w'.cell? ⟨b,o+i * 5+3,none⟩=some (.int .i64 x)∧w'.cell? ⟨b,o+i * 5+4,none⟩=some (sV t)∧w'.cell? ⟨bo,0,none⟩=some (sV op)∧w'.cell? ⟨bb,0,none⟩=some (.int .i64 k')∧w'.cell? ⟨bb,1,none⟩=some (.bool m')∧w'.cell? ⟨bb,2,none⟩=some (.int .i64 d')∧w'.cell? ⟨bb,3,none⟩=some (.int .i64 x')∧w'.cell? ⟨bb,4,none⟩=some (sV t')) (go_keep)
  (first
   | (go_at_call 26;refine (CM.out _ (xd (xr _))).mono ?_;rintro e w' ⟨rfl,E⟩;have Y:=xt (xd (xr _)) E;have rc0:=cell_later Y c0;have rc1:=cell_later Y c1;have rc2:=cell_later Y c2;have rc3:=cell_later Y c3;have rc4:=cell_later Y c4;have ro:=cell_later Y co;have rd0:=cell_later Y d0;have rd1:=cell_later Y d1;have rd2:=cell_later Y d2;have rd3:=cell_later Y d3;have rd4:=cell_later Y d4))
 all_goals
  go_wp2_with fail;go_ret;exact ⟨rfl,Y⟩
def filterR (r c:Int) (l:List VT) (x:Int) (q:VT→Bool):List Nat:=rowsR (goodG r c l) r c x (fun i=>q (cel (colL l c.toNat (x.toNat - 1) r.toNat) i))
set_option maxRecDepth 8000 in
set_option maxHeartbeats 4000000 in
theorem filterI (r c:Int) (v:Value) (l:List VT) (x:Int) (op:List UInt8) (b':VT) (q:VT→Bool) (w:World) (h:ValsIn w v l) (hl:l.length≤1048576) (hr:∀ e ∈ l,e.room) (hT:Tens w) (hE:ErrTab w)
  (x1' : -9223372036854775808≤x) (x2':x≤9223372036854775807) (M:MeetsFrom w 26 l op b' q) :
  Calls Tryz.prog 10 #[grV r c v,.int .i64 x,sV op,b'.val] w fun e w'=>∃ ans,e=.returned ans∧AnsI w w' ans (filterR r c l x q):=by
 obtain ⟨k',m',d',y',t'⟩:=b';obtain ⟨u0,u1,u2,h0,h1,h2,s0,s1,s2,B0,B1,B2,X⟩:=mkB3 w [.int .i64 r,.int .i64 c,v] [sV op] (valL k' m' d' y' t') 35 9 39;have C0:Hid (Calls Tryz.prog 24 #[grV r c v,.int .i64 x,.func (.func 25) #[] #[.pointer (some ⟨w.heap.size+1,0,none⟩),.pointer (some ⟨w.heap.size+1+1,0,none⟩)]] u2 fun e w'=>∃ ans,e=.returned ans∧AnsI u2 w' ans (filterR r c l x q)):=by
  refine rowsByI r c v l x 25 _ _ u2 (h.later X) hl hr (hT.later X) (hE.later X) x1' x2' (fun hg g1 g2=>⟨enters_of Tryz.func25 (by kernel_rfl) rfl,fun W' sv i hX hV hi=>?_⟩);obtain ⟨R,C,rfl,rfl,hlen,h3,h4,h5,h6,h7⟩:=good_dims hg;rw [Int.toNat_natCast,Int.toNat_natCast] at hV hi ⊢;refine filt1I sv _ i op ⟨k',m',d',y',t'⟩ q _ _ W' hV hi (B1.later hX) (B2.later hX) (fun W e hW he=>M W e (xt X (xt hX hW)) ?_);obtain ⟨j,hj,rfl⟩:=List.getElem_of_mem he;rw [colL_length] at hj;have e2:=colL_at l C (x.toNat - 1) R hj;rw [List.getElem?_eq_getElem (by rw [colL_length];exact hj)] at e2;rw [Option.some.inj e2];exact cel_mem (by rw [hlen];exact place_lt hj (by omega))
 obtain ⟨RR,hRR⟩:∃ RR,filterR r c l x q=RR:=⟨_,rfl⟩;rw [hRR] at C0 ⊢;obtain ⟨p,n,rfl⟩:∃ p n,v=.slice p l.length n:=by obtain ⟨p,n,h,_⟩:=h;exact ⟨p,n,h⟩
 obtain ⟨N,hN⟩:∃ N,l.length=N:=⟨_,rfl⟩;rw [hN] at C0 B0 h0 ⊢;obtain ⟨a0,a1,a2⟩:=Vec.three B0;clear h hl hr hT hE hRR hN M;go_enter Tryz.func10,Tryz.ntmps10;go_wp2_with fail;refine C0.out.mono ?_;rintro e w1 ⟨ans,rfl,A1,A2,A3⟩;have HA:Hid (AnsI w w1 ans RR):=⟨A1,fun h0 g hg=>Nat.le_trans X.size (A2 h0 g hg),xt X A3⟩;obtain ⟨p1,n1,rfl⟩:∃ p n,ans=.slice p RR.length n:=by obtain ⟨p,n,h,_⟩:=A1;exact ⟨p,n,h⟩
 clear A1 A2 A3 a0 a1 a2 h0 h1 h2;go_wp2_with fail;go_ret;exact ⟨_,rfl,HA.out⟩
theorem celF_col {l:List VT} {c j n i:Nat} (hi:i<n):cel (colL l c j n) i=cel l (i * c+j):=by
 have:=colL_at l c j n hi;unfold cel at this ⊢;rw [List.getD_eq_getElem?_getD,this];rfl
theorem filter_succ (q:Nat→Bool) (k:Nat):(List.range (k+1)).filter q=(List.range k).filter q++(if q k then [k] else []):=by
 rw [List.range_succ,List.filter_append];cases h:q k <;> simp [h]
theorem filter_lt (q:Nat→Bool) (k:Nat):((List.range k).filter q).length≤k:=by
 have:=List.length_filter_le q (List.range k)
 rwa [List.length_range] at this
set_option maxRecDepth 8000 in
set_option maxHeartbeats 4000000 in
theorem filterS (r c:Int) (v:Value) (l:List VT) (x:Int) (op:List UInt8) (b':VT) (mq:VT→Bool) (w:World) (h:ValsIn w v l) (hl:l.length≤1048576) (hr:∀ e ∈ l,e.room)
  (x1' : -9223372036854775808≤x) (x2':x≤9223372036854775807) (M:MeetsFrom w 22 l op b' mq) :
  Calls Tryz.prog 7 #[grV r c v,.int .i64 x,sV op,b'.val] w fun e w'=>∃ ans,e=.returned ans∧AnsI w w' ans (filterR r c l x mq):=by
 have HM:Hid (MeetsFrom w 22 l op b' mq):=M;obtain ⟨k',m',d',y',t'⟩:=b';obtain ⟨v0,u0,h0,hu0,s0,S0,B0,B1,X0⟩:=mkB2 w [.int .i64 r,.int .i64 c,v] (valL k' m' d' y' t') 35 39;have C0:=goodGS r c v l u0 (h.later X0) (by omega) (fun e he=>(hr e he).1);have HV:Hid (ValsIn w v l):=h;have HG:Hid (goodG r c l=true→(∃ R C:Nat,r=R∧c=C∧l.length=R * C∧R * C≤2000∧1≤R∧1≤C∧R≤2000∧C≤2000)∧∀ e ∈ l,e.good=true):=fun h=>⟨good_dims h,(goodG_all h).2.1⟩;have HR:Hid (filterR r c l x mq=if goodG r c l && !decide (x<1∨c<x) then (List.range r.toNat).filter (fun i=>mq (cel (colL l c.toNat (x.toNat - 1) r.toNat) i)) else []):=rfl;obtain ⟨RR,hRR⟩:∃ RR,filterR r c l x mq=RR:=⟨_,rfl⟩;rw [hRR] at HR ⊢;obtain ⟨G,hG⟩:∃ G,goodG r c l=G:=⟨_,rfl⟩;rw [hG] at C0 HR HG;obtain ⟨p,n,rfl⟩:∃ p n,v=.slice p l.length n:=by obtain ⟨p,n,h,_⟩:=h;exact ⟨p,n,h⟩
 obtain ⟨N,hN⟩:∃ N,l.length=N:=⟨_,rfl⟩;have HN:Hid (l.length=N):=hN;rw [hN] at C0 B0 h0 HV HG hl ⊢;obtain ⟨a0,a1,a2⟩:=Vec.three B0;clear hRR hG h hr hN M;cases G
 ·have HF:Hid ([]=RR):=by show _=_;rw [HR.out];rfl
  go_enter Tryz.func7,Tryz.ntmps7;go_wp2_with (go_at_call 21;refine C0.mono ?_;rintro e w1 ⟨rfl,e1⟩);go_ret;exact ⟨_,rfl,by rw [← HF.out];exact ⟨nums_nil _,fun h=>absurd h (by simp),xt X0 e1⟩⟩
 ·obtain ⟨⟨R,C,rfl,rfl,hlen,h3,h4,h5,h6,h7⟩,hgd⟩:=HG.out rfl;have HLN:Hid (N=R * C):=hlen;have n2000:N≤2000:=by omega
  clear HG hgd hlen;by_cases hx1:x<1
  ·have HF:Hid ([]=RR):=by show _=_;rw [HR.out,decide_eq_true (Or.inl hx1)];rfl
   go_enter Tryz.func7,Tryz.ntmps7;go_wp2_with (go_at_call 21;refine C0.mono ?_;rintro e w1 ⟨rfl,e1⟩);go_ret;exact ⟨_,rfl,by rw [← HF.out];exact ⟨nums_nil _,fun h=>absurd h (by simp),xt X0 e1⟩⟩
  ·by_cases hx2:(C:Int)<x
   ·have HF:Hid ([]=RR):=(by show _=_;rw [HR.out,decide_eq_true (Or.inr hx2)];rfl);go_enter Tryz.func7,Tryz.ntmps7;go_wp2_with (go_at_call 21;refine C0.mono ?_;rintro e w1 ⟨rfl,e1⟩;obtain ⟨a0,a1,a2⟩:=Vec.three (B0.later e1));go_ret;exact ⟨_,rfl,by rw [← HF.out];exact ⟨nums_nil _,fun h=>absurd h (by simp),xt X0 e1⟩⟩
   ·obtain ⟨x,rfl⟩:=Int.eq_ofNat_of_zero_le (show 0≤x by omega);obtain ⟨j,rfl⟩:∃ j,x=j+1:=⟨x - 1,by omega⟩;have j1:j<C:=(by omega);obtain ⟨q,hq⟩:∃ q:Nat→Bool,(fun i=>mq (cel (colL l C j R) i))=q:=⟨_,rfl⟩;have HF:Hid ((List.range R).filter q=RR):=by
     show _=_;rw [HR.out,decide_eq_false (fun h=>h.elim hx1 hx2),← hq];rfl
    have HQ:Hid ((fun i=>mq (cel (colL l C j R) i))=q):=hq;have jx:((j+1:Nat):Int)=(j:Int)+1:=(by omega);obtain ⟨z,hz⟩:∃ z,j+1=z:=⟨_,rfl⟩;have HZ:Hid (j+1=z):=hz;rw [hz] at hx1 hx2 ⊢;have z1:(z:Int)≤2000:=(by omega);have f1:decide ((z:Int)<1)=false:=decide_eq_false (by omega);have f2:decide (C<z)=false:=decide_eq_false (by omega);have f3:decide ((C:Int)<(z:Int))=false:=decide_eq_false (by omega);have z0:(1:Int)≤(z:Int):=(by omega);have zC:(z:Int)≤(C:Int):=(by omega);clear hx1 hx2;clear HR hq jx hz x1' x2';go_enter Tryz.func7,Tryz.ntmps7;go_wp2_with (go_at_call 21;refine C0.mono ?_;rintro e w1 ⟨rfl,e1⟩;obtain ⟨a0,a1,a2⟩:=Vec.three (B0.later e1));have HX1:Hid (Ext u0 w1):=e1;clear a0 a1 a2 C0 h0 hu0;go_loopw [9,10] (fun s i wr=>∃ (k nn cc:Nat) (pp:Option Addr),k≤R∧i=.int .i64 k∧s=.slice pp nn cc∧Hid (OwnI wr (w.heap.size+1+1) (.slice pp nn cc) ((List.range k).filter q)∧Ext u0 wr)) (fun _ i _=>R - (intOf i).toNat)
    case atStart=>exact ⟨0,0,0,none,by omega,rfl,rfl,World.ownsRow_nil _ _ _ _,HX1.out⟩
    case round =>
     obtain ⟨k,nn,cc,pp,hk,rfl,rfl,HO⟩:=hrel;have B2:=B0.later HO.out.2;obtain ⟨a0,a1,a2⟩:=Vec.three B2;by_cases hlt:k<R
     ·have i2:(k:Int)<(R:Int):=(by omega);have Y0:=HO.out.2;obtain ⟨m,hm⟩:∃ m,k * C=m:=⟨_,rfl⟩;have p1:=place_lt hlt j1;rw [hm,← HLN.out] at p1;have hm':(k:Int) * (C:Int)=(m:Int):=(by rw [← hm];simp);have e1:=cel_at (show m+j<l.length by rw [HN.out];exact p1);have HK0:Hid (q k=mq (cel l (m+j))):=by
       show _=_;rw [← HQ.out];simp only;rw [celF_col hlt,hm]
      have CL:Hid (∀ W,Ext wr W→Calls Tryz.prog 22 #[(cel l (m+j)).val,sV op,valV k' m' d' y' t'] W fun e w'=>e=.returned (.bool (mq (cel l (m+j))))∧Ext W w'):=fun W hW=>HM.out W _ (xt X0 (xt Y0 hW)) (List.mem_of_getElem? e1);obtain ⟨LK,hLK⟩:∃ LK,mq (cel l (m+j))=LK:=⟨_,rfl⟩;rw [hLK] at CL HK0;obtain ⟨⟨k1,n1,d1',x1,t1⟩,hA⟩:∃ A,cel l (m+j)=A:=⟨_,rfl⟩;rw [hA] at e1 CL;obtain ⟨p',cap',hsl,hcap,hrow⟩:=HV.out.later (xt X0 Y0);rw [HN.out] at hsl;cases hsl;obtain ⟨b,o,rfl,RW⟩:=hrow (by rw [HN.out];omega);obtain ⟨c0,c1,c2,c3,c4⟩:=RW.five e1;obtain ⟨d0,d1,d2,d3,d4⟩:=Vec.five (B1.later Y0);obtain ⟨f1',hf1⟩:∃ f,m+j=f:=⟨_,rfl⟩;rw [hf1] at c0 c1 c2 c3 c4 p1;have hz':=HZ.out;have wr1:IntKind.i64.wrap ((k:Int) * (C:Int))=(m:Int):=(by rw [hm',IntKind.wrap_i64];omega);have wr2:IntKind.i64.wrap ((m:Int)+(z:Int))=((f1'+1:Nat):Int):=(by rw [IntKind.wrap_i64];omega);have wr3:IntKind.i64.wrap (((f1'+1:Nat):Int) - 1)=(f1':Int):=(by rw [IntKind.wrap_i64];omega);obtain ⟨g1,hg1⟩:∃ g:Nat,f1'+1=g:=⟨_,rfl⟩;rw [hg1] at wr2 wr3;have i3:(f1':Int)<(N:Int):=(by omega);clear hm hm' hA e1 RW hrow hcap hf1 hg1 hz' hLK p1;go_wp2_with fail;go_region_held3 (fun w'=>w'.cell? ⟨w.heap.size,1,none⟩=some (.int .i64 C)∧w'.cell? ⟨w.heap.size,2,none⟩=some (.slice (some ⟨b,o,none⟩) N n)∧w'.cell? ⟨b,o+f1' * 5,none⟩=some (.int .i64 k1)∧w'.cell? ⟨b,o+f1' * 5+1,none⟩=some (.bool n1)∧w'.cell? ⟨b,o+f1' * 5+2,none⟩=some (.int .i64 d1')∧w'.cell? ⟨b,o+f1' * 5+3,none⟩=some (.int .i64 x1)∧w'.cell? ⟨b,o+f1' * 5+4,none⟩=some (sV t1)∧w'.cell? ⟨w.heap.size+1,0,none⟩=some (.int .i64 k')∧w'.cell? ⟨w.heap.size+1,1,none⟩=some (.bool m')∧w'.cell? ⟨w.heap.size+1,2,none⟩=some (.int .i64 d')∧w'.cell? ⟨w.heap.size+1,3,none⟩=some (.int .i64 y')∧w'.cell? ⟨w.heap.size+1,4,none⟩=some (sV t')) (go_keep)
       (first
        | (go_at_call 22;refine (CL.out _ (xd (xr _))).mono ?_;rintro e w' ⟨rfl,E⟩;have Y:=xt (xd (xr _)) E;have ra1:=cell_later Y a1;have ra2:=cell_later Y a2;have rc0:=cell_later Y c0;have rc1:=cell_later Y c1;have rc2:=cell_later Y c2;have rc3:=cell_later Y c3;have rc4:=cell_later Y c4;have rd0:=cell_later Y d0;have rd1:=cell_later Y d1;have rd2:=cell_later Y d2;have rd3:=cell_later Y d3;have rd4:=cell_later Y d4))
      cases LK
      ·have HN1:Hid (OwnI w' (w.heap.size+1+1) (.slice pp nn cc) ((List.range (k+1)).filter q)∧Ext u0 w'):=by
        refine ⟨?_,xt Y0 Y⟩;have hq':q k=false:=HK0.out;rw [filter_succ,hq'];simpa using ownI_later HO.out.1 Y
       clear CL;go_wp2_with fail;go_roundw
       case rel=>exact ⟨k+1,nn,cc,pp,by omega,by go_num,rfl,HN1⟩
       case measure=>simp [intOf];omega
      ·have HK:Hid (q k=true):=(by show _=_;rw [HK0.out]);clear CL;have OQ:Hid (OwnI w' (w.heap.size+1+1) (.slice pp nn cc) ((List.range k).filter q)):=ownI_later HO.out.1 Y;have Y1:=xt Y0 Y;have hs1:w.heap.size+1+1≤(w').heap.size:=(by have:=Y1.size;omega);have fl:=filter_lt q k;obtain ⟨inf,hi,hz,hz1,hz2⟩:=infoI;clear HO a0 a1 a2 B2;go_wp2_with (at_builtin;refine wpList_append_own _ rfl _ _ 31 rfl (w.heap.size+1+1) 3 inf (.int .i64 0) 1 8 Tryz.underlying31 hi hz hz1 hz2 rfl (by decide) _ _ _ rfl (OQ.out.alloc _) ⟨(w').heap.size,0,none⟩ 1 1 [.int .i64 (k:Int)] rfl rfl (World.news_of_block (heap_alloc_new (w') (.cells [.int .i64 (k:Int)].toArray 3))) (by simp [Value.oneCell']) (by simp only [maxLen];omega) (by omega) (by simp;omega) ?_);intro v7 wC ownC gC _;have lb:=ownI_block OQ.out;have Y5:Ext u0 wC:=(xa Y1 _).grown gC (xa Y1 _).size (fun r hr=>by have:=lb r hr;omega);have OC:OwnI wC (w.heap.size+1+1) v7 ((List.range (k+1)).filter q):=by
        have hq':q k=true:=HK.out;rw [filter_succ,hq'];show World.ownsRow _ _ _ _ _ _ _;rw [List.map_append,List.length_append];exact ownC
       obtain ⟨p7,c7,rfl,_⟩:=ownI_slice OC;obtain ⟨n7,hn7⟩:∃ n7,((List.range (k+1)).filter q).length=n7:=⟨_,rfl⟩;have HN1:Hid (OwnI wC (w.heap.size+1+1) (.slice p7 n7 c7) ((List.range (k+1)).filter q)∧Ext u0 wC):=⟨by rw [← hn7];exact OC,Y5⟩;rw [hn7];clear ownC gC lb OQ Y1 hi hz hz1 hz2 Y5 OC hn7;go_wp2_with fail;go_roundw
       case rel=>exact ⟨k+1,n7,c7,p7,by omega,by go_num,rfl,HN1⟩
       case measure=>simp [intOf];omega
     ·obtain rfl:k=R:=(by omega);have i2:¬ (k:Int)<(k:Int):=(by omega);go_wp2_with fail;go_ret;refine ⟨_,rfl,?_⟩;rw [← HF.out];exact ⟨ownI_nums HO.out.1,fun _ g hg=>by have:=ownI_block HO.out.1 g hg;omega,xt X0 HO.out.2⟩
theorem ext_grown {a b c:World} {r:Option Nat} (e:Ext a b) (h:b.grownBy c r):a.grownBy c r:=
 ⟨h.os.trans e.os,h.tape.trans e.tape,h.output.trans e.output,Nat.le_trans e.size h.size,fun k hk hne=>(h.block k (Nat.lt_of_lt_of_le hk e.size) hne).trans (e.block k hk)⟩
set_option maxRecDepth 8000 in
set_option maxHeartbeats 2000000 in
theorem markGridL (r c:Int) (v:Value) (n:Nat) (L:List Value) (k0:Nat) (w:World) (h:RowAt w v n L) (hn:n≤1048576) (k1:1≤k0) (k2:k0≤10000000) :
  Calls Tryz.prog 13 #[grV r c v,.int .i64 k0] w fun e w'=>e=.returned (.int .i64 ((k0+n * 5:Nat):Int))∧(∃ M,RowAt w' v n M∧MarkedV M k0 n)∧w.grownBy w' (if n=0 then none else v.ownBlock):=by
 have X:=x1 w (.cells #[.int .i64 r,.int .i64 c,v] 35);have C:=markVals v n L k0 _ (h.later X) hn k1 k2;obtain ⟨m,hm⟩:∃ m:Nat,k0+n * 5=m:=⟨_,rfl⟩;obtain ⟨row,hrow⟩:∃ q,(if n=0 then none else v.ownBlock)=q:=⟨_,rfl⟩;rw [hm,hrow] at C;rw [hm,hrow];clear h hm hrow;go_enter Tryz.func13,Tryz.ntmps13;go_wp2_with fail;refine C.mono ?_;rintro e w1 ⟨rfl,hM,g1⟩;have HM:Hid (∃ M,RowAt w1 v n M∧MarkedV M k0 n):=hM;clear hM C;go_wp2_with fail;go_ret;exact ⟨rfl,HM.out,ext_grown X g1⟩
end Go.Proofs.YtiaakhogigddbaaGreatDoor

