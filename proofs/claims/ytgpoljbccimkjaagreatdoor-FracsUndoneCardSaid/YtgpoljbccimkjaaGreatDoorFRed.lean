/- Walks: a number by another one, in lowest terms; the product of two fractions. -/
import Derived.Test.YtgpoljbccimkjaaGreatDoorFOver
import Derived.Test.YtgpoljbccimkjaaGreatDoorSteps4
namespace Go.Proofs.YtgpoljbccimkjaaGreatDoor
set_option linter.unusedSimpArgs false
set_option linter.unusedVariables false
open Go.RowKit Go.Shelf

theorem BoxV.new1 {w W : World} {vs : List Value} {T : TypeId} {n : Nat} (e : w.alloc (.cells vs.toArray T) = W) (hn : w.heap.size = n) : BoxV W n vs ∧ Below w.heap.size w W ∧ W.heap.size = n + 1 := by
  subst e hn
  exact ⟨BoxV.new _ _ _, (Below.refl _ _).alloc (Nat.le_refl _) _, by simp⟩
/-- Three numbers' boxes, and one for a fraction. -/
theorem box_low (w : World) (x0 x1 y0 y1 z0 z1 : Value) : ∃ W0, (((w.alloc (.cells #[x0, x1] 24)).alloc (.cells #[y0, y1] 24)).alloc (.cells #[z0, z1] 24)).alloc (.cells #[.bool false, .slice none 0 0, .bool false, .slice none 0 0] 58) = W0 ∧
    BoxV W0 w.heap.size [x0, x1] ∧ BoxV W0 (w.heap.size + 1) [y0, y1] ∧ BoxV W0 (w.heap.size + 1 + 1) [z0, z1] ∧ BoxV W0 (w.heap.size + 1 + 1 + 1) nought4 ∧ Below w.heap.size w W0 := by
  obtain ⟨W1, e1⟩ : ∃ W, w.alloc (.cells #[x0, x1] 24) = W := ⟨_, rfl⟩
  obtain ⟨a1, a2, a3⟩ := BoxV.new1 (vs := [x0, x1]) e1 rfl
  rw [e1]
  obtain ⟨W2, e2⟩ : ∃ W, W1.alloc (.cells #[y0, y1] 24) = W := ⟨_, rfl⟩
  obtain ⟨b1, b2, b3⟩ := BoxV.new1 (vs := [y0, y1]) e2 a3
  rw [e2]
  obtain ⟨W3, e3⟩ : ∃ W, W2.alloc (.cells #[z0, z1] 24) = W := ⟨_, rfl⟩
  obtain ⟨c1, c2, c3⟩ := BoxV.new1 (vs := [z0, z1]) e3 b3
  rw [e3]
  obtain ⟨W4, e4⟩ : ∃ W, W3.alloc (.cells #[.bool false, .slice none 0 0, .bool false, .slice none 0 0] 58) = W := ⟨_, rfl⟩
  obtain ⟨d1, d2, d3⟩ := BoxV.new1 (vs := nought4) e4 c3
  exact ⟨W4, e4, ((a1.below b2).below c2).below d2, (b1.below c2).below d2, c1.below d2, d1, Below.step (Below.step (Below.step a2 b2) c2) d2⟩

set_option maxRecDepth 100000 in
set_option maxHeartbeats 4000000 in
theorem lowest_num {w : World} {u v t : Value} {k k' kg : Nat} {P Q : Int} (h : OkAt w u k P) (h' : OkAt w v k' Q) (h3 : OkAt w t kg ((Int.gcd P Q : Nat) : Int)) (hk : k ≤ 1000000) (hk' : k' ≤ 1000000) (hkg : kg ≤ 1000000) (hQ : Q ≠ 0) :
    Calls Tryz.prog 137 #[u, v, t] w fun e w' => FrAns w' e (max k k') (Rat.divInt P Q) ∧ Below w.heap.size w w' := by
  have HA := h.keep
  have HB := h'.keep
  have HC := h3.keep
  have HK : Hid (k ≤ 1000000 ∧ k' ≤ 1000000 ∧ kg ≤ 1000000) := ⟨hk, hk', hkg⟩
  obtain ⟨s, a, n, c, rfl, -⟩ := h.shape
  obtain ⟨s', a', n', c', rfl, -⟩ := h'.shape
  obtain ⟨s'', a'', n'', c'', rfl, -⟩ := h3.shape
  obtain ⟨W0, e0, n1, n2, n3, n4, hb0⟩ := box_low w (.bool s) (.slice a n c) (.bool s') (.slice a' n' c') (.bool s'') (.slice a'' n'' c'')
  have N1 := n1.keep
  have N2 := n2.keep
  have N3 := n3.keep
  have N4 := n4.keep
  have B0 := Lib.hid hb0
  obtain ⟨c0, c1, -, -⟩ := n2.c2
  clear n1 n2 n3 n4 hb0 h h' h3 hk hk' hkg
  by_cases hneg : Q < 0
  · obtain ⟨G, hG⟩ : ∃ G, G = if Q < 0 then -((Int.gcd P Q : Nat) : Int) else ((Int.gcd P Q : Nat) : Int) := ⟨_, rfl⟩
    have HD := Lib.hid (rat_lowest hQ hG)
    have HE : Hid (-((Int.gcd P Q : Nat) : Int) = G ∧ cmpI Q 0 = -1) := ⟨by rw [hG, if_pos hneg], by unfold cmpI; rw [if_pos hneg]⟩
    clear hG hneg hQ
    go_enter Tryz.func137, Tryz.ntmps137
    go_wp2_with fail
    clear e0
    refine (Sign_num (HB.out _ B0.out).num (-1) HE.out.2).mono ?_
    rintro e w1 ⟨rfl, hb1⟩
    have N1 := (N1.out _ hb1).keep
    have N2 := (N2.out _ hb1).keep
    have n3 := N3.out _ hb1
    have N3 := n3.keep
    have N4 := (N4.out _ hb1).keep
    have B1 := Lib.hid (Below.step B0.out hb1)
    obtain ⟨d0, d1, -, -⟩ := n3.c2
    clear n3 hb1 c0 c1
    go_wp2_with fail
    refine (Neg_num (HC.out _ B1.out).num HK.out.2.2).mono ?_
    rintro e w1' ⟨⟨u2, rfl, h2⟩, hb1⟩
    rw [HE.out.1] at h2
    obtain ⟨sg, ag, ng, cg, rfl, -⟩ := h2.shape
    obtain ⟨W2, e2, hst, hbx⟩ := (N3.out _ hb1).store (ys := [.bool sg, .slice ag ng cg]) rfl rfl
    have HG := (h2.store hst).keep
    have N1 := (hst.box (by omega) (N1.out _ hb1)).keep
    have N2 := (hst.box (by omega) (N2.out _ hb1)).keep
    have N4 := (hst.box (by omega) (N4.out _ hb1)).keep
    have n3 := N3.out _ hb1
    obtain ⟨d0, d1, d2, d3⟩ := n3.c2
    have B2 := Lib.hid (hst.below w (by omega) (Below.step B1.out hb1))
    have N3 := hbx.keep
    have HA := (HA.out _ B2.out).keep
    have HB := (HB.out _ B2.out).keep
    simp only [setAll] at e2
    clear hst hbx n3 h2 hb1 HE
    go_upto_region 3 with fail
    rename_i K3 hK3
    refine wp_region_tail []
      [(3, IsV (.pointer (some ⟨w.heap.size, 0, none⟩))), (4, IsV (.pointer (some ⟨(w.heap.size + 1), 0, none⟩))), (5, IsV (.pointer (some ⟨(w.heap.size + 1 + 1), 0, none⟩))), (6, IsV (.pointer (some ⟨w.heap.size + 1 + 1 + 1, 0, none⟩)))]
      [(12, IsO k (P)), (13, IsO kg (G)), (14, IsO k ((P / G))), (15, IsO k' (Q)), (16, IsO kg (G)), (17, IsO k' ((Q / G))), (18, IsOO k ((P / G)) k' ((Q / G)))]
      [] 19 7 (by kernel_rfl) rfl (by kernel_rfl) (by kernel_rfl) (by kernel_rfl) (by kernel_rfl) ⟨rfl, rfl, rfl, rfl, trivial⟩ ⟨IsV.grows _ , IsV.grows _ , IsV.grows _ , IsV.grows _ , IsO.grows _ _ , IsO.grows _ _ , IsO.grows _ _ , IsO.grows _ _ , IsO.grows _ _ , IsO.grows _ _ , IsOO.grows _ _ _ _ , trivial⟩ ?_ (fun d _ _ _ _ h => by cases d <;> exact h) ?_ ?_
    · refine AllStep2.step rfl rfl (step_loadT (fun _ _ h => h) (fun W hb => run_load2 rfl (N1.out W hb).at0 (N1.out W hb).at1) (fun w hb => HA.out w hb)) ?_
      refine AllStep2.step rfl rfl (step_loadT (fun _ _ h => h) (fun W hb => run_load2 rfl (N3.out W hb).at0 (N3.out W hb).at1) (fun w hb => HG.out w hb)) ?_
      refine AllStep2.step rfl rfl (step_call2 (Plain.of Tryz.func199 rfl rfl) (fun _ _ _ _ hu hv => over_num hu hv HK.out.1 HK.out.2.2 HD.out.2.2.2.2 HD.out.2.2.1)) ?_
      refine AllStep2.step rfl rfl (step_loadT (fun _ _ h => h) (fun W hb => run_load2 rfl (N2.out W hb).at0 (N2.out W hb).at1) (fun w hb => HB.out w hb)) ?_
      refine AllStep2.step rfl rfl (step_loadT (fun _ _ h => h) (fun W hb => run_load2 rfl (N3.out W hb).at0 (N3.out W hb).at1) (fun w hb => HG.out w hb)) ?_
      refine AllStep2.step rfl rfl (step_call2 (Plain.of Tryz.func199 rfl rfl) (fun _ _ _ _ hu hv => over_num hu hv HK.out.2.1 HK.out.2.2 HD.out.2.2.2.2 HD.out.2.2.2.1)) ?_
      refine AllStep2.step rfl rfl (step_join (fun _ _ _ _ _ _ _ _ _ => run_build2) (fun _ _ h => h) (fun _ _ h => h) (fun _ _ h => h)) ?_
      exact AllStep2.nil
    · intro t ht v w hk
      simp only [List.mem_cons, List.not_mem_nil, or_false] at ht
    intro a3 w3 hb3 hs3 hd3 hk3 _
    have h18 : IsOO k (P / G) k' (Q / G) (a3.eval (.tmp 18)) w3 := hk3 18 (by kernel_rfl)
    have h6 : a3.eval (.tmp 6) = .pointer (some ⟨w.heap.size + 1 + 1 + 1, 0, none⟩) := hk3 6 (by kernel_rfl)
    obtain ⟨s1, a1, n1, c1, s2, a2, n2, c2, e18, o1, o2⟩ := h18
    have N := N4.out _ hb3
    obtain ⟨W', e, hst, hbx⟩ := N.store (ys := [.bool s1, .slice a1 n1 c1, .bool s2, .slice a2 n2 c2]) rfl (noU32_4 ..)
    refine wpOps_step (i := 7) (rest := []) rfl rfl ?_
    refine wp_store_T h6 e18 (run_store4 N) ?_
    rw [e]
    refine hK3 _ _ ?_
    refine wp_ret ?_
    refine ret_fr (t := 6) rfl hd3 h6 hbx ⟨⟨_, rfl, ?_⟩, hst.below w (by omega) (Below.step B2.out hb3)⟩
    exact (FrOk.join (o1.up (Nat.le_max_left _ _)) (o2.up (Nat.le_max_right _ _)) HD.out.1 HD.out.2.1).store hst
  · obtain ⟨G, hG⟩ : ∃ G, G = if Q < 0 then -((Int.gcd P Q : Nat) : Int) else ((Int.gcd P Q : Nat) : Int) := ⟨_, rfl⟩
    have HD := Lib.hid (rat_lowest hQ hG)
    have HE : Hid (((Int.gcd P Q : Nat) : Int) = G ∧ cmpI Q 0 = 1) := ⟨by rw [hG, if_neg hneg], by unfold cmpI; rw [if_neg hneg, if_pos (by omega)]⟩
    clear hG hneg hQ
    go_enter Tryz.func137, Tryz.ntmps137
    go_wp2_with fail
    clear e0
    refine (Sign_num (HB.out _ B0.out).num 1 HE.out.2).mono ?_
    rintro e w1 ⟨rfl, hb1⟩
    have N1 := (N1.out _ hb1).keep
    have N2 := (N2.out _ hb1).keep
    have N3 := (N3.out _ hb1).keep
    have N4 := (N4.out _ hb1).keep
    have B2 := Lib.hid (Below.step B0.out hb1)
    have HA := (HA.out _ B2.out).keep
    have HB := (HB.out _ B2.out).keep
    have hg := HC.out _ B2.out
    rw [HE.out.1] at hg
    have HG := hg.keep
    clear hb1 c0 c1 HE hg
    go_upto_region 3 with fail
    rename_i K3 hK3
    refine wp_region_tail []
      [(3, IsV (.pointer (some ⟨w.heap.size, 0, none⟩))), (4, IsV (.pointer (some ⟨(w.heap.size + 1), 0, none⟩))), (5, IsV (.pointer (some ⟨(w.heap.size + 1 + 1), 0, none⟩))), (6, IsV (.pointer (some ⟨w.heap.size + 1 + 1 + 1, 0, none⟩)))]
      [(12, IsO k (P)), (13, IsO kg (G)), (14, IsO k ((P / G))), (15, IsO k' (Q)), (16, IsO kg (G)), (17, IsO k' ((Q / G))), (18, IsOO k ((P / G)) k' ((Q / G)))]
      [] 19 7 (by kernel_rfl) rfl (by kernel_rfl) (by kernel_rfl) (by kernel_rfl) (by kernel_rfl) ⟨rfl, rfl, rfl, rfl, trivial⟩ ⟨IsV.grows _ , IsV.grows _ , IsV.grows _ , IsV.grows _ , IsO.grows _ _ , IsO.grows _ _ , IsO.grows _ _ , IsO.grows _ _ , IsO.grows _ _ , IsO.grows _ _ , IsOO.grows _ _ _ _ , trivial⟩ ?_ (fun d _ _ _ _ h => by cases d <;> exact h) ?_ ?_
    · refine AllStep2.step rfl rfl (step_loadT (fun _ _ h => h) (fun W hb => run_load2 rfl (N1.out W hb).at0 (N1.out W hb).at1) (fun w hb => HA.out w hb)) ?_
      refine AllStep2.step rfl rfl (step_loadT (fun _ _ h => h) (fun W hb => run_load2 rfl (N3.out W hb).at0 (N3.out W hb).at1) (fun w hb => HG.out w hb)) ?_
      refine AllStep2.step rfl rfl (step_call2 (Plain.of Tryz.func199 rfl rfl) (fun _ _ _ _ hu hv => over_num hu hv HK.out.1 HK.out.2.2 HD.out.2.2.2.2 HD.out.2.2.1)) ?_
      refine AllStep2.step rfl rfl (step_loadT (fun _ _ h => h) (fun W hb => run_load2 rfl (N2.out W hb).at0 (N2.out W hb).at1) (fun w hb => HB.out w hb)) ?_
      refine AllStep2.step rfl rfl (step_loadT (fun _ _ h => h) (fun W hb => run_load2 rfl (N3.out W hb).at0 (N3.out W hb).at1) (fun w hb => HG.out w hb)) ?_
      refine AllStep2.step rfl rfl (step_call2 (Plain.of Tryz.func199 rfl rfl) (fun _ _ _ _ hu hv => over_num hu hv HK.out.2.1 HK.out.2.2 HD.out.2.2.2.2 HD.out.2.2.2.1)) ?_
      refine AllStep2.step rfl rfl (step_join (fun _ _ _ _ _ _ _ _ _ => run_build2) (fun _ _ h => h) (fun _ _ h => h) (fun _ _ h => h)) ?_
      exact AllStep2.nil
    · intro t ht v w hk
      simp only [List.mem_cons, List.not_mem_nil, or_false] at ht
    intro a3 w3 hb3 hs3 hd3 hk3 _
    have h18 : IsOO k (P / G) k' (Q / G) (a3.eval (.tmp 18)) w3 := hk3 18 (by kernel_rfl)
    have h6 : a3.eval (.tmp 6) = .pointer (some ⟨w.heap.size + 1 + 1 + 1, 0, none⟩) := hk3 6 (by kernel_rfl)
    obtain ⟨s1, a1, n1, c1, s2, a2, n2, c2, e18, o1, o2⟩ := h18
    have N := N4.out _ hb3
    obtain ⟨W', e, hst, hbx⟩ := N.store (ys := [.bool s1, .slice a1 n1 c1, .bool s2, .slice a2 n2 c2]) rfl (noU32_4 ..)
    refine wpOps_step (i := 7) (rest := []) rfl rfl ?_
    refine wp_store_T h6 e18 (run_store4 N) ?_
    rw [e]
    refine hK3 _ _ ?_
    refine wp_ret ?_
    refine ret_fr (t := 6) rfl hd3 h6 hbx ⟨⟨_, rfl, ?_⟩, hst.below w (by omega) (Below.step B2.out hb3)⟩
    exact (FrOk.join (o1.up (Nat.le_max_left _ _)) (o2.up (Nat.le_max_right _ _)) HD.out.1 HD.out.2.1).store hst

end Go.Proofs.YtgpoljbccimkjaaGreatDoor

namespace Go.Proofs.YtgpoljbccimkjaaGreatDoor
set_option linter.unusedSimpArgs false
set_option linter.unusedVariables false
open Go.RowKit Go.Shelf

/-- Two numbers' boxes, and one for a fraction. -/
theorem box_red (w : World) (x0 x1 y0 y1 : Value) : ∃ W0, ((w.alloc (.cells #[x0, x1] 24)).alloc (.cells #[y0, y1] 24)).alloc (.cells #[.bool false, .slice none 0 0, .bool false, .slice none 0 0] 58) = W0 ∧
    BoxV W0 w.heap.size [x0, x1] ∧ BoxV W0 (w.heap.size + 1) [y0, y1] ∧ BoxV W0 (w.heap.size + 1 + 1) nought4 ∧ Below w.heap.size w W0 := by
  obtain ⟨W1, e1⟩ : ∃ W, w.alloc (.cells #[x0, x1] 24) = W := ⟨_, rfl⟩
  obtain ⟨a1, a2, a3⟩ := BoxV.new1 (vs := [x0, x1]) e1 rfl
  rw [e1]
  obtain ⟨W2, e2⟩ : ∃ W, W1.alloc (.cells #[y0, y1] 24) = W := ⟨_, rfl⟩
  obtain ⟨b1, b2, b3⟩ := BoxV.new1 (vs := [y0, y1]) e2 a3
  rw [e2]
  obtain ⟨W4, e4⟩ : ∃ W, W2.alloc (.cells #[.bool false, .slice none 0 0, .bool false, .slice none 0 0] 58) = W := ⟨_, rfl⟩
  obtain ⟨d1, d2, d3⟩ := BoxV.new1 (vs := nought4) e4 b3
  exact ⟨W4, e4, (a1.below b2).below d2, b1.below d2, d1, Below.step (Below.step a2 b2) d2⟩
/-- Two fractions' boxes, and one for the answer. -/
theorem box_frs (w : World) (x0 x1 x2 x3 y0 y1 y2 y3 : Value) : ∃ W0, ((w.alloc (.cells #[x0, x1, x2, x3] 58)).alloc (.cells #[y0, y1, y2, y3] 58)).alloc (.cells #[.bool false, .slice none 0 0, .bool false, .slice none 0 0] 58) = W0 ∧
    BoxV W0 w.heap.size [x0, x1, x2, x3] ∧ BoxV W0 (w.heap.size + 1) [y0, y1, y2, y3] ∧ BoxV W0 (w.heap.size + 1 + 1) nought4 ∧ Below w.heap.size w W0 := by
  obtain ⟨W1, e1⟩ : ∃ W, w.alloc (.cells #[x0, x1, x2, x3] 58) = W := ⟨_, rfl⟩
  obtain ⟨a1, a2, a3⟩ := BoxV.new1 (vs := [x0, x1, x2, x3]) e1 rfl
  rw [e1]
  obtain ⟨W2, e2⟩ : ∃ W, W1.alloc (.cells #[y0, y1, y2, y3] 58) = W := ⟨_, rfl⟩
  obtain ⟨b1, b2, b3⟩ := BoxV.new1 (vs := [y0, y1, y2, y3]) e2 a3
  rw [e2]
  obtain ⟨W4, e4⟩ : ∃ W, W2.alloc (.cells #[.bool false, .slice none 0 0, .bool false, .slice none 0 0] 58) = W := ⟨_, rfl⟩
  obtain ⟨d1, d2, d3⟩ := BoxV.new1 (vs := nought4) e4 b3
  exact ⟨W4, e4, (a1.below b2).below d2, b1.below d2, d1, Below.step (Below.step a2 b2) d2⟩

set_option maxRecDepth 100000 in
set_option maxHeartbeats 4000000 in
theorem reduced_num {w : World} {u v : Value} {k k' : Nat} {P Q : Int} (h : OkAt w u k P) (h' : OkAt w v k' Q) (hk : k ≤ 1000000) (hk' : k' ≤ 1000000) (hQ : Q ≠ 0) :
    Calls Tryz.prog 146 #[u, v] w fun e w' => FrAns w' e (max k k') (Rat.divInt P Q) ∧ Below w.heap.size w w' := by
  have HK : Hid (k ≤ 1000000 ∧ k' ≤ 1000000 ∧ max k k' ≤ 1000000 ∧ Q ≠ 0) := ⟨hk, hk', by omega, hQ⟩
  obtain ⟨s, a, n, c, rfl, -⟩ := h.shape
  obtain ⟨s', a', n', c', rfl, -⟩ := h'.shape
  obtain ⟨W0, e0, n1, n2, n4, hb0⟩ := box_red w (.bool s) (.slice a n c) (.bool s') (.slice a' n' c')
  have N1 := n1.keep
  have N2 := n2.keep
  have N4 := n4.keep
  have HA := (h.below hb0).keep
  have HB := (h'.below hb0).keep
  have B0 := Lib.hid hb0
  clear n1 n2 n4 hb0 h h' hk hk' hQ
  go_enter Tryz.func146, Tryz.ntmps146
  go_upto_region 1 with fail
  clear e0
  rename_i K3 hK3
  refine wp_region_tail []
    [(2, IsV (.pointer (some ⟨w.heap.size, 0, none⟩))), (3, IsV (.pointer (some ⟨(w.heap.size + 1), 0, none⟩))), (4, IsV (.pointer (some ⟨w.heap.size + 1 + 1, 0, none⟩)))]
    [(5, IsO k (P)), (6, IsO k' (Q)), (7, IsO k (P)), (8, IsO k' (Q)), (9, IsO (max k k') (((Int.gcd P Q : Nat) : Int))), (10, IsF (max k k') (Rat.divInt P Q))]
    [] 11 6 (by kernel_rfl) rfl (by kernel_rfl) (by kernel_rfl) (by kernel_rfl) (by kernel_rfl) ⟨rfl, rfl, rfl, trivial⟩ ⟨IsV.grows _ , IsV.grows _ , IsV.grows _ , IsO.grows _ _ , IsO.grows _ _ , IsO.grows _ _ , IsO.grows _ _ , IsO.grows _ _ , IsF.grows _ _ , trivial⟩ ?_ (fun d _ _ _ _ h => by cases d <;> exact h) ?_ ?_
  · refine AllStep2.step rfl rfl (step_loadT (fun _ _ h => h) (fun W hb => run_load2 rfl (N1.out W hb).at0 (N1.out W hb).at1) (fun w hb => HA.out w hb)) ?_
    refine AllStep2.step rfl rfl (step_loadT (fun _ _ h => h) (fun W hb => run_load2 rfl (N2.out W hb).at0 (N2.out W hb).at1) (fun w hb => HB.out w hb)) ?_
    refine AllStep2.step rfl rfl (step_loadT (fun _ _ h => h) (fun W hb => run_load2 rfl (N1.out W hb).at0 (N1.out W hb).at1) (fun w hb => HA.out w hb)) ?_
    refine AllStep2.step rfl rfl (step_loadT (fun _ _ h => h) (fun W hb => run_load2 rfl (N2.out W hb).at0 (N2.out W hb).at1) (fun w hb => HB.out w hb)) ?_
    refine AllStep2.step rfl rfl (step_call2 (Plain.of Tryz.func150 rfl rfl) (fun _ _ _ _ hu hv => common_num hu hv HK.out.1 HK.out.2.1)) ?_
    refine AllStep2.step rfl rfl (step_call3 (Plain.of Tryz.func137 rfl rfl) (fun _ _ _ _ _ hu hv ht => lowest_num hu hv ht HK.out.1 HK.out.2.1 HK.out.2.2.1 HK.out.2.2.2)) ?_
    exact AllStep2.nil
  · intro t ht v w hk
    simp only [List.mem_cons, List.not_mem_nil, or_false] at ht
  intro a3 w3 hb3 hs3 hd3 hk3 _
  have h10 : IsF (max k k') (Rat.divInt P Q) (a3.eval (.tmp 10)) w3 := hk3 10 (by kernel_rfl)
  have h4 : a3.eval (.tmp 4) = .pointer (some ⟨w.heap.size + 1 + 1, 0, none⟩) := hk3 4 (by kernel_rfl)
  obtain ⟨s1, a1, n1, c1, s2, a2, n2, c2, e10, -⟩ := FrOk.split h10
  have h10' : FrOk w3 (.agg #[.bool s1, .slice a1 n1 c1, .bool s2, .slice a2 n2 c2]) (max k k') (Rat.divInt P Q) := by rw [← e10]; exact h10
  have N := N4.out _ hb3
  obtain ⟨W', e, hst, hbx⟩ := N.store (ys := [.bool s1, .slice a1 n1 c1, .bool s2, .slice a2 n2 c2]) rfl (noU32_4 ..)
  refine wpOps_step (i := 6) (rest := []) rfl rfl ?_
  refine wp_store_T h4 e10 (run_store4 N) ?_
  rw [e]
  refine hK3 _ _ ?_
  refine wp_ret ?_
  exact ret_fr (t := 4) rfl hd3 h4 hbx ⟨⟨_, rfl, h10'.store hst⟩, hst.below w (by omega) (Below.step B0.out hb3)⟩

set_option maxRecDepth 100000 in
set_option maxHeartbeats 4000000 in
theorem product_fr {w : World} {u v : Value} {k k' : Nat} {x y : Rat} (h : FrOk w u k x) (h' : FrOk w v k' y) (hk : k ≤ 1000000) (hk' : k' ≤ 1000000) :
    Calls Tryz.prog 135 #[u, v] w fun e w' => FrAns w' e (k + k') (x * y) ∧ Below w.heap.size w w' := by
  have HK : Hid (k ≤ 1000000 ∧ k' ≤ 1000000 ∧ (x.den : Int) ≠ 0 ∧ (y.den : Int) ≠ 0) := ⟨hk, hk', by have := rat_den_pos x; omega, by have := rat_den_pos y; omega⟩
  have HK2 : Hid (max k k' ≤ 1000000 ∧ max k' k ≤ 1000000) := ⟨by omega, by omega⟩
  have HR : Hid (RatLt (x * y) (k + k')) := RatLt.mul h.bound h'.bound
  obtain ⟨s, a, n, c, s', a', n', c', rfl, g1, g2⟩ := h.split
  obtain ⟨t, r, m, d, t', r', m', d', rfl, g3, g4⟩ := h'.split
  obtain ⟨W0, e0, n1, n2, n4, hb0⟩ := box_frs w (.bool s) (.slice a n c) (.bool s') (.slice a' n' c') (.bool t) (.slice r m d) (.bool t') (.slice r' m' d')
  have N1 := n1.keep
  have N2 := n2.keep
  have N4 := n4.keep
  have HA1 := (g1.below hb0).keep
  have HA2 := (g2.below hb0).keep
  have HB1 := (g3.below hb0).keep
  have HB2 := (g4.below hb0).keep
  have B0 := Lib.hid hb0
  clear n1 n2 n4 hb0 h h' hk hk' g1 g2 g3 g4
  go_enter Tryz.func135, Tryz.ntmps135
  go_upto_region 1 with fail
  clear e0
  rename_i K1 hK1
  refine wp_region_tail []
    [(2, IsV (.pointer (some ⟨w.heap.size, 0, none⟩))), (3, IsV (.pointer (some ⟨(w.heap.size + 1), 0, none⟩))), (4, IsV (.pointer (some ⟨w.heap.size + 1 + 1, 0, none⟩)))]
    [(7, IsV (.pointer (some ⟨w.heap.size, 0, none⟩))), (8, IsO k (x.num)), (9, IsV (.pointer (some ⟨(w.heap.size + 1), 2, none⟩))), (10, IsO k' ((y.den : Int))), (11, IsF (max k k') (Rat.divInt x.num (y.den : Int))), (12, IsV (.pointer (some ⟨(w.heap.size + 1), 0, none⟩))), (13, IsO k' (y.num)), (14, IsV (.pointer (some ⟨w.heap.size, 2, none⟩))), (15, IsO k ((x.den : Int))), (16, IsF (max k' k) (Rat.divInt y.num (x.den : Int))), (5, IsNew W0.heap.size nought4), (6, IsNew W0.heap.size nought4)]
    [5, 6] 28 12 (by kernel_rfl) rfl (by kernel_rfl) (by kernel_rfl) (by kernel_rfl) (by kernel_rfl) ⟨rfl, rfl, rfl, trivial⟩ ⟨IsV.grows _ , IsV.grows _ , IsV.grows _ , IsV.grows _ , IsO.grows _ _ , IsV.grows _ , IsO.grows _ _ , IsF.grows _ _ , IsV.grows _ , IsO.grows _ _ , IsV.grows _ , IsO.grows _ _ , IsF.grows _ _ , IsNew.grows _ _ , IsNew.grows _ _ , trivial⟩ ?_ (fun d _ _ _ _ h => by cases d <;> exact h) ?_ ?_
  · refine AllStep2.step rfl rfl (step_fieldT (fun _ _ h => h) (fun _ => run_top) (fun _ => rfl)) ?_
    refine AllStep2.step rfl rfl (step_loadT (fun _ _ h => h) (fun W hb => run_load2 rfl (N1.out W hb).at0 (N1.out W hb).at1) (fun w hb => HA1.out w hb)) ?_
    refine AllStep2.step rfl rfl (step_fieldT (fun _ _ h => h) (fun _ => run_low) (fun _ => rfl)) ?_
    refine AllStep2.step rfl rfl (step_loadT (fun _ _ h => h) (fun W hb => run_load2 rfl (N2.out W hb).at2 (N2.out W hb).at3) (fun w hb => HB2.out w hb)) ?_
    refine AllStep2.step rfl rfl (step_call2 (Plain.of Tryz.func146 rfl rfl) (fun _ _ _ _ hu hv => reduced_num hu hv HK.out.1 HK.out.2.1 HK.out.2.2.2)) ?_
    refine AllStep2.step rfl rfl (step_fieldT (fun _ _ h => h) (fun _ => run_top) (fun _ => rfl)) ?_
    refine AllStep2.step rfl rfl (step_loadT (fun _ _ h => h) (fun W hb => run_load2 rfl (N2.out W hb).at0 (N2.out W hb).at1) (fun w hb => HB1.out w hb)) ?_
    refine AllStep2.step rfl rfl (step_fieldT (fun _ _ h => h) (fun _ => run_low) (fun _ => rfl)) ?_
    refine AllStep2.step rfl rfl (step_loadT (fun _ _ h => h) (fun W hb => run_load2 rfl (N1.out W hb).at2 (N1.out W hb).at3) (fun w hb => HA2.out w hb)) ?_
    refine AllStep2.step rfl rfl (step_call2 (Plain.of Tryz.func146 rfl rfl) (fun _ _ _ _ hu hv => reduced_num hu hv HK.out.2.1 HK.out.1 HK.out.2.2.1)) ?_
    refine AllStep2.fresh rfl rfl (alloc_T (fun _ => run_new4) (fun _ _ h => h)) ?_
    refine AllStep2.fresh rfl rfl (alloc_T (fun _ => run_new4) (fun _ _ h => h)) ?_
    exact AllStep2.nil
  · intro t ht v w hk
    simp only [List.mem_cons, List.not_mem_nil, or_false] at ht
    rcases ht with rfl | rfl
    · exact IsNew.lt (show IsNew W0.heap.size _ v w from hk)
    · exact IsNew.lt (show IsNew W0.heap.size _ v w from hk)
  intro a1 w1 hb1 hs1 hd1 hk1 hne
  have x11 : IsF (max k k') (Rat.divInt x.num (y.den : Int)) (a1.eval (.tmp 11)) w1 := hk1 11 (by kernel_rfl)
  have x16 : IsF (max k' k) (Rat.divInt y.num (x.den : Int)) (a1.eval (.tmp 16)) w1 := hk1 16 (by kernel_rfl)
  have h4 : a1.eval (.tmp 4) = .pointer (some ⟨w.heap.size + 1 + 1, 0, none⟩) := hk1 4 (by kernel_rfl)
  obtain ⟨b5, h5, l5, m5, -⟩ : IsNew W0.heap.size nought4 (a1.eval (.tmp 5)) w1 := hk1 5 (by kernel_rfl)
  obtain ⟨b6, h6, l6, m6, -⟩ : IsNew W0.heap.size nought4 (a1.eval (.tmp 6)) w1 := hk1 6 (by kernel_rfl)
  have h56 : b5 ≠ b6 := by
    intro e
    refine hne 5 6 (by simp) (by simp) (by decide) ?_
    rw [h5, h6, e]
  obtain ⟨s1, p1, n1, c1, s2, p2, n2, c2, e11, o11, o11'⟩ := FrOk.split x11
  obtain ⟨s3, p3, n3, c3, s4, p4, n4, c4, e16, o16, o16'⟩ := FrOk.split x16
  have hlt : w.heap.size + 1 + 1 < W0.heap.size := (N4.out _ (Below.refl _ _)).lt
  obtain ⟨W1, eW1, st1, bx5⟩ := m5.store (ys := [.bool s1, .slice p1 n1 c1, .bool s2, .slice p2 n2 c2]) rfl rfl
  have m6' := st1.box (by omega) m6
  obtain ⟨W2, eW2, st2, bx6⟩ := m6'.store (ys := [.bool s3, .slice p3 n3 c3, .bool s4, .slice p4 n4 c4]) rfl rfl
  refine wpOps_step (i := 12) (rest := [13]) rfl rfl ?_
  refine wp_store_T h5 e11 (run_store4 m5) ?_
  rw [eW1]
  refine wpOps_step (i := 13) (rest := []) rfl rfl ?_
  refine wp_store_T h6 e16 (run_store4 m6') ?_
  rw [eW2]
  have bW : Below W0.heap.size W0 W2 := st2.below W0 l6 (st1.below W0 l5 hb1)
  obtain ⟨X, hX⟩ : ∃ X, X = Rat.divInt x.num (y.den : Int) := ⟨_, rfl⟩
  obtain ⟨Y, hY⟩ : ∃ Y, Y = Rat.divInt y.num (x.den : Int) := ⟨_, rfl⟩
  rw [← hX] at o11 o11'
  rw [← hY] at o16 o16'
  have HX1 := ((o11.store st1).store st2).keep
  have HX2 := ((o11'.store st1).store st2).keep
  have HY1 := ((o16.store st1).store st2).keep
  have HY2 := ((o16'.store st1).store st2).keep
  have M5 := (st2.box h56 bx5).keep
  have M6 := bx6.keep
  have N4 := (N4.out _ bW).keep
  have B2 := Lib.hid (Below.step B0.out bW)
  have HXY : Hid (X.num * Y.num = (x * y).num ∧ (X.den : Int) * (Y.den : Int) = ((x * y).den : Int)) := by
    rw [hX, hY]
    exact rat_mul_cross x y
  clear hX hY
  refine hK1 _ _ ?_
  refine wp_seq_k ?_
  intro K2 hK2
  refine wp_region_tail []
    [(5, IsV (.pointer (some ⟨b5, 0, none⟩))), (6, IsV (.pointer (some ⟨b6, 0, none⟩))), (4, IsV (.pointer (some ⟨w.heap.size + 1 + 1, 0, none⟩)))]
    [(17, IsV (.pointer (some ⟨b5, 0, none⟩))), (18, IsO (max k k') (X.num)), (19, IsV (.pointer (some ⟨b6, 0, none⟩))), (20, IsO (max k' k) (Y.num)), (21, IsO ((max k k') + (max k' k)) ((X.num * Y.num))), (22, IsV (.pointer (some ⟨b5, 2, none⟩))), (23, IsO (max k k') ((X.den : Int))), (24, IsV (.pointer (some ⟨b6, 2, none⟩))), (25, IsO (max k' k) ((Y.den : Int))), (26, IsO ((max k k') + (max k' k)) (((X.den : Int) * (Y.den : Int)))), (27, IsOO ((max k k') + (max k' k)) ((X.num * Y.num)) ((max k k') + (max k' k)) (((X.den : Int) * (Y.den : Int))))]
    [] 28 11 (by kernel_rfl) hs1 (by kernel_rfl) (by kernel_rfl) (by kernel_rfl) (by kernel_rfl) ⟨h5, h6, h4, trivial⟩ ⟨IsV.grows _ , IsV.grows _ , IsV.grows _ , IsV.grows _ , IsO.grows _ _ , IsV.grows _ , IsO.grows _ _ , IsO.grows _ _ , IsV.grows _ , IsO.grows _ _ , IsV.grows _ , IsO.grows _ _ , IsO.grows _ _ , IsOO.grows _ _ _ _ , trivial⟩ ?_ (fun d _ _ _ _ h => by cases d <;> exact h) ?_ ?_
  · refine AllStep2.step rfl rfl (step_fieldT (fun _ _ h => h) (fun _ => run_top) (fun _ => rfl)) ?_
    refine AllStep2.step rfl rfl (step_loadT (fun _ _ h => h) (fun W hb => run_load2 rfl (M5.out W hb).at0 (M5.out W hb).at1) (fun w hb => HX1.out w hb)) ?_
    refine AllStep2.step rfl rfl (step_fieldT (fun _ _ h => h) (fun _ => run_top) (fun _ => rfl)) ?_
    refine AllStep2.step rfl rfl (step_loadT (fun _ _ h => h) (fun W hb => run_load2 rfl (M6.out W hb).at0 (M6.out W hb).at1) (fun w hb => HY1.out w hb)) ?_
    refine AllStep2.step rfl rfl (step_call2 (Plain.of Tryz.func67 rfl rfl) (fun _ _ _ _ hu hv => Mul_num (OkAt.num hu) (OkAt.num hv) HK2.out.1 HK2.out.2)) ?_
    refine AllStep2.step rfl rfl (step_fieldT (fun _ _ h => h) (fun _ => run_low) (fun _ => rfl)) ?_
    refine AllStep2.step rfl rfl (step_loadT (fun _ _ h => h) (fun W hb => run_load2 rfl (M5.out W hb).at2 (M5.out W hb).at3) (fun w hb => HX2.out w hb)) ?_
    refine AllStep2.step rfl rfl (step_fieldT (fun _ _ h => h) (fun _ => run_low) (fun _ => rfl)) ?_
    refine AllStep2.step rfl rfl (step_loadT (fun _ _ h => h) (fun W hb => run_load2 rfl (M6.out W hb).at2 (M6.out W hb).at3) (fun w hb => HY2.out w hb)) ?_
    refine AllStep2.step rfl rfl (step_call2 (Plain.of Tryz.func67 rfl rfl) (fun _ _ _ _ hu hv => Mul_num (OkAt.num hu) (OkAt.num hv) HK2.out.1 HK2.out.2)) ?_
    refine AllStep2.step rfl rfl (step_join (fun _ _ _ _ _ _ _ _ _ => run_build2) (fun _ _ h => h) (fun _ _ h => h) (fun _ _ h => h)) ?_
    exact AllStep2.nil
  · intro t ht v w hk
    simp only [List.mem_cons, List.not_mem_nil, or_false] at ht
  intro a2 w2 hb2 hs2 hd2 hk2 _
  have x27 : IsOO (max k k' + max k' k) (X.num * Y.num) (max k k' + max k' k) (X.den * Y.den) (a2.eval (.tmp 27)) w2 := hk2 27 (by kernel_rfl)
  have h4' : a2.eval (.tmp 4) = .pointer (some ⟨w.heap.size + 1 + 1, 0, none⟩) := hk2 4 (by kernel_rfl)
  obtain ⟨z1, y1, i1, j1, z2, y2, i2, j2, e27, o1, o2⟩ := x27
  have N := N4.out _ hb2
  obtain ⟨W', e, hst, hbx⟩ := N.store (ys := [.bool z1, .slice y1 i1 j1, .bool z2, .slice y2 i2 j2]) rfl rfl
  refine wpOps_step (i := 11) (rest := []) rfl rfl ?_
  refine wp_store_T h4' e27 (run_store4 N) ?_
  rw [e]
  refine hK2 _ _ ?_
  refine wp_ret ?_
  refine ret_fr (t := 4) rfl (hd2.trans hd1) h4' hbx ⟨⟨_, rfl, ?_⟩, hst.below w (by omega) (Below.step B2.out hb2)⟩
  exact ((FrOk.join o1 o2 HXY.out.1 HXY.out.2).store hst).fit HR.out

end Go.Proofs.YtgpoljbccimkjaaGreatDoor
