/-
  Chapter 12: pairedRows, of the program.
-/
import Derived.Test.YtjlephnmofhjaaaDoorMg18
namespace Go.Proofs.YtjlephnmofhjaaaDoor
open Go.RowKit

theorem ownP_base {w : World} {a b : Nat} {v : Value} {l : List (Nat × Nat)} (h : OwnP w a v l) (hb : b ≤ a) : OwnP w b v l := by
 refine ⟨h.1, h.2.imp id ?_⟩
 rintro ⟨g, cap, cur, h1, h2, h3, h4⟩
 exact ⟨g, cap, cur, h1, by omega, h3, h4⟩
/-- What pairedRows answers. -/
def prsR (l r : List VT) (most : Nat) : List (Nat × Nat) := if most < (prsN l r r.length l.length).length then [] else prsN l r r.length l.length
theorem nsF_upd {f : VT → Option GE} {K Q : VT} {e : GE} : nsF (updF f K e) Q = if sameQ K Q = true then e.ns else nsF f Q := by
 by_cases h : K = Q
 ·
  subst h
  rw [if_pos (sameQ_iff.2 rfl)]
  unfold nsF
  rw [updF_same]
 ·
  rw [if_neg (fun q => h (sameQ_iff.1 q))]
  unfold nsF
  rw [updF_other h]
set_option maxRecDepth 8000 in
set_option maxHeartbeats 4000000 in
theorem pairedI (lv rv : Value) (l r : List VT) (most : Nat) (w : World) (hl : ValsIn w lv l) (hr : ValsIn w rv r) (ll : l.length ≤ 2000) (lr : r.length ≤ 2000) (gl : ∀ e ∈ l, e.good = true ∧ e.room) (gr : ∀ e ∈ r, e.good = true ∧ e.room) (hm : most ≤ 2000) :
  Calls Tryd.prog 17 #[lv, rv, .int .i64 most] w fun e w' => ∃ v, e = .returned v ∧ OwnP w' w.heap.size v (prsR l r most) ∧ Ext w w' := by
 obtain ⟨pl, cl, rfl, hcl, hrl⟩ := hl
 obtain ⟨pr, cr, rfl, hcr, hrr⟩ := hr
 obtain ⟨NL, hNL⟩ : ∃ n, l.length = n := ⟨_, rfl⟩
 obtain ⟨NR, hNR⟩ : ∃ n, r.length = n := ⟨_, rfl⟩
 have HNL : Hid (l.length = NL) := hNL
 have HNR : Hid (r.length = NR) := hNR
 rw [hNL] at hcl hrl ll ⊢
 rw [hNR] at hcr hrr lr ⊢
 have HRL : Hid (0 < NL → ∃ b o, pl = some ⟨b, o, none⟩ ∧ RowV w b o l) := hrl
 have HRR : Hid (0 < NR → ∃ b o, pr = some ⟨b, o, none⟩ ∧ RowV w b o r) := hrr
 have GL : Hid (∀ e ∈ l, e.good = true ∧ e.room) := gl
 have GR : Hid (∀ e ∈ r, e.good = true ∧ e.room) := gr
 have HP : Hid (prsR l r most = if most < (prsN l r NR NL).length then [] else prsN l r NR NL) := by show _ = _; unfold prsR; rw [hNL, hNR]
 have M0 := MapF.made w
 have XM := x1 w (.map #[] 0)
 obtain ⟨m, hme⟩ : ∃ m, w.heap.size = m := ⟨_, rfl⟩
 obtain ⟨u0, hu0⟩ : ∃ u, w.alloc (.map #[] 0) = u := ⟨_, rfl⟩
 have hmk : (Instr.makeMap 59 none).run Tryd.prog w = .ok (.map (some m)) u0 := by rw [run_makeMap, hu0, hme]
 rw [hu0] at M0 XM
 rw [hme] at M0
 have HM0 : Hid (MapF u0 m 0 (fun _ => none)) := M0
 clear hrl hrr gl gr hNL hNR hu0 M0
 go_enter Tryd.func17, Tryd.ntmps17
 go_wp2_with fail
 clear hmk
 go_loopw [18] (fun i wr => ∃ y : Nat, y ≤ NR ∧ i = .int .i64 y ∧ Hid (∃ f n, n ≤ y ∧ MapF wr m n f ∧ RowsF wr w.heap.size m f ∧ (∀ K, InK K → nsF f K = grpN r y K) ∧ Ext w wr)) (fun i _ => NR - (intOf i).toNat)
 case atStart => exact ⟨0, by omega, rfl, fun _ => none, 0, Nat.le_refl _, HM0.out, RowsF.nil _ _ _, fun _ _ => rfl, XM⟩
 case round =>
  obtain ⟨y, hy, rfl, HI⟩ := hrel
  by_cases hlt : y < NR
  ·
   have i2 : (y : Int) < (NR : Int) := by omega
   obtain ⟨b, o, rfl, RW⟩ := HRR.out (by omega)
   have HX : Hid (Ext w wr) := by obtain ⟨f, n, _, _, _, _, X⟩ := HI.out; exact X
   have hat := cel_at (l := r) (k := y) (by rw [HNR.out]; exact hlt)
   have hgm := GR.out _ (cel_mem (l := r) (k := y) (by rw [HNR.out]; exact hlt))
   obtain ⟨d0, d1, d2, d3, d4⟩ := (RW.later HX.out).five hat
   obtain ⟨e, he⟩ : ∃ e, cel r y = e := ⟨_, rfl⟩
   rw [he] at hgm d0 d1 d2 d3 d4
   have HE : Hid (cel r y = e) := he
   have HGM : Hid (e.good = true ∧ e.room) := hgm
   have ub := vec_made wr (valL e.k e.n e.d e.x e.t) 39
   have ux := x1 wr (.cells #[.int .i64 e.k, .bool e.n, .int .i64 e.d, .int .i64 e.x, sV e.t] 39)
   change Vec (wr.alloc (.cells #[.int .i64 e.k, .bool e.n, .int .i64 e.d, .int .i64 e.x, sV e.t] 39)) _ _ at ub
   obtain ⟨u1, hu1⟩ : ∃ u, wr.alloc (.cells #[.int .i64 e.k, .bool e.n, .int .i64 e.d, .int .i64 e.x, sV e.t] 39) = u := ⟨_, rfl⟩
   rw [hu1] at ub ux
   obtain ⟨a0, a1, a2, a3, a4⟩ := Vec.five ub
   clear RW hat hgm he
   by_cases hk : e.k = 0
   ·
    have hk1 : (e.k == 0) = true := by simpa using hk
    have hk2 : (e.k != 0) = false := by simpa using hk
    have HN : Hid (∃ f n, n ≤ y + 1 ∧ MapF u1 m n f ∧ RowsF u1 w.heap.size m f ∧ (∀ K, InK K → nsF f K = grpN r (y + 1) K) ∧ Ext w u1) := by
     obtain ⟨f, n, h1, h2, h3, h4, h5⟩ := HI.out
     refine ⟨f, n, by omega, h2.later ux, h3.later ux, fun K hK => ?_, xt h5 ux⟩
     rw [grpN_succ, HE.out, hk, h4 K hK]
     simp
    clear ub ux HI HX hk
    go_wp2_with fail
    go_roundw
    case rel => exact ⟨y + 1, by omega, by go_num, HN⟩
    case measure => simp [intOf]; omega
   ·
    have hk1 : (e.k == 0) = false := by simpa using hk
    have hk2 : (e.k != 0) = true := by simpa using hk
    have HK0 : Hid (e.k ≠ 0) := hk
    clear hk
    go_wp2_with fail
    clear a0 a1 a2 a3 a4 d0 d1 d2 d3 d4 hu1
    refine (likenessI e u1 (HGM.out.2.1)).mono ?_
    rintro q w1 ⟨rfl, e1⟩
    obtain ⟨f, n, h1, h2, h3, h4, h5⟩ := HI.out
    have hKK : InK (nrm e) := inK_nrm HGM.out.1 HGM.out.2
    have PG := putG (nrm e) hKK f m n y w.heap.size w w1 (xt h5 (xt ux e1)) rfl (by omega) (h2.later (xt ux e1)) (h3.later (xt ux e1)) (by omega) (by rw [h4 _ hKK]; have := grpN_length r y (nrm e); omega)
    have H4 : Hid (∀ K, InK K → nsF f K = grpN r y K) := h4
    clear h2 h3 h4 h5 HI HX ub ux e1
    obtain ⟨K, hKe⟩ : ∃ K, nrm e = K := ⟨_, rfl⟩
    rw [hKe] at PG hKK ⊢
    have HKE : Hid (nrm e = K) := hKe
    clear hKe
    obtain ⟨k5, n5, d5, x5, t5⟩ := K
    go_wp2_with fail
    refine PG.mono ?_
    rintro q w2 ⟨rfl, ee, hne, MU, RU, XU⟩
    have HN : Hid (∃ f n, n ≤ y + 1 ∧ MapF w2 m n f ∧ RowsF w2 w.heap.size m f ∧ (∀ K, InK K → nsF f K = grpN r (y + 1) K) ∧ Ext w w2) := by
     refine ⟨_, n + 1, by omega, MU, RU, fun Q hQ => ?_, XU⟩
     rw [nsF_upd, grpN_succ, HE.out, HKE.out, decide_eq_true HK0.out, Bool.true_and]
     by_cases hq : sameQ ⟨k5, n5, d5, x5, t5⟩ Q = true
     ·
      rw [if_pos hq, if_pos hq, hne, ← H4.out Q hQ, sameQ_iff.1 hq]
     ·
      rw [if_neg hq, if_neg hq, H4.out Q hQ, List.append_nil]
    clear PG MU RU XU
    go_wp2_with fail
    go_roundw
    case rel => exact ⟨y + 1, by omega, by go_num, HN⟩
    case measure => simp [intOf]; omega
  ·
   obtain rfl : NR = y := by omega
   obtain ⟨ws, hws⟩ : ∃ ws, wr = ws := ⟨_, rfl⟩
   have HI2 := HI.out
   rw [hws] at HI2 ⊢
   obtain ⟨f, n, _, h2, h3, h4, h5⟩ := HI2
   have HMF : Hid (MapF ws m n f) := h2
   have HRF : Hid (RowsF ws w.heap.size m f) := h3
   have H4 : Hid (∀ K, InK K → nsF f K = grpN r NR K) := h4
   have HWS : Hid (Ext w ws) := h5
   clear HI hws h2 h3 h4 h5 wr
   have hsw : w.heap.size ≤ ws.heap.size := HWS.out.size
   go_wp2_with fail
   go_loopw [10, 34] (fun v i wr => ∃ (x nn cc : Nat) (p : Option Addr), x ≤ NL ∧ i = .int .i64 x ∧ v = .slice p nn cc ∧ nn ≤ most ∧ Hid (Ext ws wr ∧ (prsN l r NR x).length = nn ∧ OwnP wr ws.heap.size (.slice p nn cc) (prsN l r NR x))) (fun _ i _ => NL - (intOf i).toNat)
   case atStart => exact ⟨0, 0, 0, none, by omega, rfl, rfl, by omega, xr _, rfl, ownP_nil _ _⟩
   case round =>
    obtain ⟨x, nn, cc, p, hx, rfl, rfl, hnn, HJ⟩ := hrel
    by_cases hlt : x < NL
    ·
     have i2 : (x : Int) < (NL : Int) := by omega
     obtain ⟨b, o, rfl, RW⟩ := HRL.out (by omega)
     have hat := cel_at (l := l) (k := x) (by rw [HNL.out]; exact hlt)
     have hgm := GL.out _ (cel_mem (l := l) (k := x) (by rw [HNL.out]; exact hlt))
     obtain ⟨d0, d1, d2, d3, d4⟩ := (RW.later (xt HWS.out HJ.out.1)).five hat
     obtain ⟨e, he⟩ : ∃ e, cel l x = e := ⟨_, rfl⟩
     rw [he] at hgm d0 d1 d2 d3 d4
     have HE : Hid (cel l x = e) := he
     have HGM : Hid (e.good = true ∧ e.room) := hgm
     have ub := vec_made wr (valL e.k e.n e.d e.x e.t) 39
     have ux := x1 wr (.cells #[.int .i64 e.k, .bool e.n, .int .i64 e.d, .int .i64 e.x, sV e.t] 39)
     change Vec (wr.alloc (.cells #[.int .i64 e.k, .bool e.n, .int .i64 e.d, .int .i64 e.x, sV e.t] 39)) _ _ at ub
     obtain ⟨u1, hu1⟩ : ∃ u, wr.alloc (.cells #[.int .i64 e.k, .bool e.n, .int .i64 e.d, .int .i64 e.x, sV e.t] 39) = u := ⟨_, rfl⟩
     rw [hu1] at ub ux
     obtain ⟨a0, a1, a2, a3, a4⟩ := Vec.five ub
     clear RW hat hgm he
     go_wp2_with fail
     clear a0 a1 a2 a3 a4 d0 d1 d2 d3 d4 hu1
     refine (likenessI e u1 (HGM.out.2.1)).mono ?_
     rintro q w1 ⟨rfl, e1⟩
     have hKK : InK (nrm e) := inK_nrm HGM.out.1 HGM.out.2
     have HX1 : Hid (Ext ws w1) := xt HJ.out.1 (xt ux e1)
     have HOP : Hid (OwnP w1 ws.heap.size (.slice p nn cc) (prsN l r NR x)) := ownP_later HJ.out.2.2 (xt ux e1)
     have HLEN : Hid ((prsN l r NR x).length = nn) := HJ.out.2.1
     have hlk := (HMF.out.later HX1.out).look hKK
     have OK := lookF_own HRF.out hKK
     rw [H4.out _ hKK] at OK
     obtain ⟨pk, ck, ek, hck⟩ := ownI_slice OK
     rw [ek] at hlk OK
     have HNS := ownI_nums OK
     obtain ⟨ns, hns⟩ : ∃ ns, grpN r NR (nrm e) = ns := ⟨_, rfl⟩
     have HNS1 : Hid (grpN r NR (nrm e) = ns) := hns
     have hnl := grpN_length r NR (nrm e)
     rw [hns] at hlk hck HNS hnl
     obtain ⟨NN, hNN⟩ : ∃ n, ns.length = n := ⟨_, rfl⟩
     rw [hNN] at hlk hck hnl
     have HNN : Hid (ns.length = NN) := hNN
     have HNV : Hid (0 < NN → ∃ g, pk = some ⟨g, 0, none⟩ ∧ Vec ws g (ns.map numV)) := by
      obtain ⟨p1, c1, ev, _, hv⟩ := HNS
      cases ev
      intro h0
      exact hv (by rw [HNN.out]; exact h0)
     have HSUC : Hid (prsN l r NR (x + 1) = prsN l r NR x ++ ns.map fun j => (x, j)) := by show _ = _; rw [prsN_succ, HE.out, HNS1.out]
     clear ub ux e1 HJ OK ek hns hNN HNS
     obtain ⟨⟨k5, n5, d5, x5, t5⟩, hKe⟩ : ∃ K, nrm e = K := ⟨_, rfl⟩
     rw [hKe] at hlk ⊢
     clear hKe
     go_wp2_with fail
     clear hlk
     go_loopw [10, 44] (fun v i wq => ∃ (k nn' cc' : Nat) (p' : Option Addr), k ≤ NN ∧ i = .int .i64 k ∧ v = .slice p' nn' cc' ∧ Hid (nn' = nn + k) ∧ Hid (Ext ws wq ∧ OwnP wq ws.heap.size (.slice p' nn' cc') (prsN l r NR x ++ (ns.take k).map fun j => (x, j)))) (fun _ i _ => NN - (intOf i).toNat)
     case atStart => exact ⟨0, nn, cc, p, by omega, rfl, rfl, rfl, HX1.out, by simpa using HOP.out⟩
     case round =>
      obtain ⟨k, nn', cc', p', hk, rfl, rfl, hnn', HQ⟩ := hrel
      by_cases hkl : k < NN
      ·
       have i3 : (k : Int) < (NN : Int) := by omega
       obtain ⟨g, rfl, NV⟩ := HNV.out (by omega)
       obtain ⟨z, hz⟩ : ∃ z, ns[k]? = some z := ⟨_, List.getElem?_eq_getElem (by rw [HNN.out]; exact hkl)⟩
       have c1 := ((NV.later HQ.out.1) k (numV z) (by rw [List.getElem?_map, hz]; rfl)).1
       have HZ : Hid (ns.take (k + 1) = ns.take k ++ [z]) := by show _ = _; rw [List.take_add_one, hz]; rfl
       have hwx := x1 wr (.cells #[.int .i64 x, .int .i64 z] 47)
       have hwb := vec_made wr [.int .i64 x, .int .i64 z] 47
       change Vec (wr.alloc (.cells #[.int .i64 x, .int .i64 z] 47)) _ _ at hwb
       obtain ⟨wa, hwa⟩ : ∃ u, wr.alloc (.cells #[.int .i64 x, .int .i64 z] 47) = u := ⟨_, rfl⟩
       rw [hwa] at hwx hwb
       have hlen : (prsN l r NR x ++ (ns.take k).map fun j => (x, j)).length ≤ 1000000 := by
        rw [List.length_append, HLEN.out, List.length_map, List.length_take]; omega
       obtain ⟨v', w', hrun, O', GW⟩ := app_pair wa ws.heap.size (.slice p' nn' cc') _ (ownP_later HQ.out.2 hwx) x z wr.heap.size hwb hlen (Nat.le_trans HQ.out.1.size hwx.size)
       have hbl := ownP_block (ownP_later HQ.out.2 hwx)
       have XW : Hid (Ext ws w') := ext_grownJ (xt HQ.out.1 hwx) GW (fun q hq => hbl q hq)
       have HO2 : Hid (OwnP w' ws.heap.size v' (prsN l r NR x ++ (ns.take (k + 1)).map fun j => (x, j))) := by
        show World.ownsRow _ _ _ _ _ _ _
        rw [HZ.out, List.map_append, ← List.append_assoc]
        exact O'
       obtain ⟨p2, c2, e2, hc2⟩ := ownP_slice HO2.out
       have hn2 : (prsN l r NR x ++ (ns.take (k + 1)).map fun j => (x, j)).length = nn' + 1 := by
        rw [List.length_append, HLEN.out, List.length_map, List.length_take, HNN.out]; have := hnn'.out; omega
       rw [hn2] at e2
       subst e2
       clear hwx hwb O' GW hbl hlen hc2 hn2 hz NV
       go_wp2_with (at_builtin; refine Lib.wpList_append_run _ rfl _ _ _ _ rfl _ _ rfl rfl _ _ hrun ?_)
       go_roundw
       case rel => exact ⟨k + 1, nn' + 1, c2, p2, by omega, by go_num, rfl, by show _ = _; have := hnn'.out; omega, XW.out, HO2.out⟩
       case measure => simp [intOf]; omega
      ·
       obtain rfl : NN = k := by omega
       have HFIN : Hid (OwnP wr ws.heap.size (.slice p' nn' cc') (prsN l r NR (x + 1))) := by
        have := HQ.out.2
        rw [List.take_of_length_le (by rw [HNN.out]; exact Nat.le_refl _)] at this
        show World.ownsRow _ _ _ _ _ _ _
        rw [HSUC.out]; exact this
       have HFL : Hid ((prsN l r NR (x + 1)).length = nn') := by show _ = _; rw [HSUC.out, List.length_append, HLEN.out, List.length_map, HNN.out]; have := hnn'.out; omega
       have HXF : Hid (Ext ws wr) := HQ.out.1
       clear HQ
       by_cases hbig : most < nn'
       ·
        have t1 : decide ((nn' : Int) > (most : Int)) = true := decide_eq_true (by omega)
        have t2 : decide ((most : Int) < (nn' : Int)) = true := decide_eq_true (by omega)
        have HEM : Hid (prsR l r most = []) := by
         show _ = _
         rw [HP.out, if_pos]
         have := prsN_mono l r NR (show x + 1 ≤ NL by omega)
         rw [HFL.out] at this
         omega
        go_wp2_with fail
        go_ret
        exact ⟨_, rfl, by rw [HEM.out]; exact ownP_nil _ _, xt HWS.out HXF.out⟩
       ·
        have t1 : decide ((nn' : Int) > (most : Int)) = false := decide_eq_false (by omega)
        have t2 : decide ((most : Int) < (nn' : Int)) = false := decide_eq_false (by omega)
        have hb3 : nn' ≤ most := by omega
        clear hbig
        go_wp2_with fail
        go_roundw
        case rel => exact ⟨x + 1, nn', cc', p', by omega, by go_num, rfl, hb3, HXF.out, HFL.out, HFIN.out⟩
        case measure => simp [intOf]; omega
    ·
     obtain rfl : NL = x := by omega
     have HEM : Hid (prsR l r most = prsN l r NR NL) := by show _ = _; rw [HP.out, if_neg]; rw [HJ.out.2.1]; omega
     go_wp2_with fail
     go_ret
     exact ⟨_, rfl, by rw [HEM.out]; exact ownP_base HJ.out.2.2 hsw, xt HWS.out HJ.out.1⟩

end Go.Proofs.YtjlephnmofhjaaaDoor

