/- Walks: two fractions on one number below; their product. -/
import Derived.Test.YtgpoljbccimkjaaGreatDoorFRed
import Derived.Test.YtgpoljbccimkjaaGreatDoorFacts4
namespace Go.Proofs.YtgpoljbccimkjaaGreatDoor
set_option linter.unusedSimpArgs false
set_option linter.unusedVariables false
open Go.RowKit Go.Shelf

theorem FrOk.nums {w : World} {s s' : Bool} {v v' : Value} {k : Nat} {q : Rat} (h : FrOk w (.agg #[.bool s, v, .bool s', v']) k q) : OkAt w (.agg #[.bool s, v]) k q.num ∧ OkAt w (.agg #[.bool s', v']) k (q.den : Int) := by
  obtain ⟨t, u, l, t', u', l', e, h2, h3, h4, h5, h6, h7, h8, h9⟩ := h
  simp only [Value.agg.injEq, Array.mk.injEq, List.cons.injEq, Value.bool.injEq, and_true] at e
  obtain ⟨rfl, rfl, rfl, rfl⟩ := e
  exact ⟨⟨s, v, l, rfl, h2, h4, h6, h8⟩, ⟨s', v', l', rfl, h3, h5, h7, h9⟩⟩
/-- Two fractions' boxes. -/
theorem box_frs2 (w : World) (x0 x1 x2 x3 y0 y1 y2 y3 : Value) : ∃ W0, (w.alloc (.cells #[x0, x1, x2, x3] 58)).alloc (.cells #[y0, y1, y2, y3] 58) = W0 ∧
    BoxV W0 w.heap.size [x0, x1, x2, x3] ∧ BoxV W0 (w.heap.size + 1) [y0, y1, y2, y3] ∧ Below w.heap.size w W0 := by
  obtain ⟨W1, e1⟩ : ∃ W, w.alloc (.cells #[x0, x1, x2, x3] 58) = W := ⟨_, rfl⟩
  obtain ⟨a1, a2, a3⟩ := BoxV.new1 (vs := [x0, x1, x2, x3]) e1 rfl
  rw [e1]
  obtain ⟨W2, e2⟩ : ∃ W, W1.alloc (.cells #[y0, y1, y2, y3] 58) = W := ⟨_, rfl⟩
  obtain ⟨b1, b2, b3⟩ := BoxV.new1 (vs := [y0, y1, y2, y3]) e2 a3
  exact ⟨W2, e2, a1.below b2, b1, Below.step a2 b2⟩

set_option maxRecDepth 100000 in
set_option maxHeartbeats 4000000 in
theorem MulF_at {w : World} {u v : Value} {k k' : Nat} {x y : Rat} (h : FrAt w u k x) (h' : FrAt w v k' y) (h1 : 1 ≤ k) (h1' : 1 ≤ k') (hk : k ≤ 1000000) (hk' : k' ≤ 1000000) :
    Calls Tryz.prog 39 #[u, v] w fun e w' => FrAns w' e (k + k') (x * y) ∧ Below w.heap.size w w' := by
  have HK : Hid (1 ≤ k ∧ 1 ≤ k' ∧ k ≤ 1000000 ∧ k' ≤ 1000000) := ⟨h1, h1', hk, hk'⟩
  have HA0 := h.keep
  have HB0 := h'.keep
  obtain ⟨s, v0, l, s', v', l', rfl, g1, g2, -⟩ := h
  obtain ⟨a, c, rfl, -⟩ := g1
  obtain ⟨a', c', rfl, -⟩ := g2
  obtain ⟨t, u0, i, t', u', i', rfl, g3, g4, -⟩ := h'
  obtain ⟨r, d, rfl, -⟩ := g3
  obtain ⟨r', d', rfl, -⟩ := g4
  obtain ⟨W0, e0, n1, n2, n4, hb0⟩ := box_frs w (.bool s) (.slice a l.length c) (.bool s') (.slice a' l'.length c') (.bool t) (.slice r i.length d) (.bool t') (.slice r' i'.length d')
  have N1 := n1.keep
  have N2 := n2.keep
  have N4 := n4.keep
  have HA := (HA0.out _ hb0).keep
  have HB := (HB0.out _ hb0).keep
  have B0 := Lib.hid hb0
  clear n1 n2 n4 hb0 h1 h1' hk hk' HA0 HB0
  go_enter Tryz.func39, Tryz.ntmps39
  go_upto_region 1 with fail
  clear e0
  rename_i K1 hK1
  refine wp_region_tail []
    [(2, IsV (.pointer (some ⟨w.heap.size, 0, none⟩))), (3, IsV (.pointer (some ⟨(w.heap.size + 1), 0, none⟩))), (4, IsV (.pointer (some ⟨w.heap.size + 1 + 1, 0, none⟩)))]
    [(5, IsG k (x)), (6, IsF k (x)), (7, IsG k' (y)), (8, IsF k' (y)), (9, IsF (k + k') ((x * y)))]
    [] 10 5 (by kernel_rfl) rfl (by kernel_rfl) (by kernel_rfl) (by kernel_rfl) (by kernel_rfl) ⟨rfl, rfl, rfl, trivial⟩ ⟨IsV.grows _ , IsV.grows _ , IsV.grows _ , IsG.grows _ _ , IsF.grows _ _ , IsG.grows _ _ , IsF.grows _ _ , IsF.grows _ _ , trivial⟩ ?_ (fun d _ _ _ _ h => by cases d <;> exact h) ?_ ?_
  · refine AllStep2.step rfl rfl (step_loadT (fun _ _ h => h) (fun W hb => run_load4 rfl rfl rfl (N1.out W hb).at0 (N1.out W hb).at1 (N1.out W hb).at2 (N1.out W hb).at3) (fun w hb => HA.out w hb)) ?_
    refine AllStep2.step rfl rfl (step_call1 (Plain.of Tryz.func136 rfl rfl) (fun _ _ _ hu => orNoughtF_at hu HK.out.1 HK.out.2.2.1)) ?_
    refine AllStep2.step rfl rfl (step_loadT (fun _ _ h => h) (fun W hb => run_load4 rfl rfl rfl (N2.out W hb).at0 (N2.out W hb).at1 (N2.out W hb).at2 (N2.out W hb).at3) (fun w hb => HB.out w hb)) ?_
    refine AllStep2.step rfl rfl (step_call1 (Plain.of Tryz.func136 rfl rfl) (fun _ _ _ hu => orNoughtF_at hu HK.out.2.1 HK.out.2.2.2)) ?_
    refine AllStep2.step rfl rfl (step_call2 (Plain.of Tryz.func135 rfl rfl) (fun _ _ _ _ hu hv => product_fr hu hv HK.out.2.2.1 HK.out.2.2.2)) ?_
    exact AllStep2.nil
  · intro t ht v w hk
    simp only [List.mem_cons, List.not_mem_nil, or_false] at ht
  intro a1 w1 hb1 hs1 hd1 hk1 _
  have x9 : FrOk w1 (a1.eval (.tmp 9)) (k + k') (x * y) := hk1 9 (by kernel_rfl)
  have h4 : a1.eval (.tmp 4) = .pointer (some ⟨w.heap.size + 1 + 1, 0, none⟩) := hk1 4 (by kernel_rfl)
  obtain ⟨s1, p1, n1, c1, s2, p2, n2, c2, e9, -⟩ := x9.split
  have x9' : FrOk w1 (.agg #[.bool s1, .slice p1 n1 c1, .bool s2, .slice p2 n2 c2]) (k + k') (x * y) := by rw [← e9]; exact x9
  have N := N4.out _ hb1
  obtain ⟨W', e, hst, hbx⟩ := N.store (ys := [.bool s1, .slice p1 n1 c1, .bool s2, .slice p2 n2 c2]) rfl rfl
  refine wpOps_step (i := 5) (rest := []) rfl rfl ?_
  refine wp_store_T h4 e9 (run_store4 N) ?_
  rw [e]
  refine hK1 _ _ ?_
  refine wp_ret ?_
  exact ret_fr (t := 4) rfl hd1 h4 hbx ⟨⟨_, rfl, x9'.store hst⟩, hst.below w (by omega) (Below.step B0.out hb1)⟩

set_option maxRecDepth 100000 in
set_option maxHeartbeats 8000000 in
theorem level_fr {w : World} {u v : Value} {k k' : Nat} {x y : Rat} {f : FuncId} {cap : Array Value} {K : Nat} {q : Rat} (h : FrAt w u k x) (h' : FrAt w v k' y) (h1 : 1 ≤ k) (h1' : 1 ≤ k') (hk : k ≤ 1000000) (hk' : k' ≤ 1000000) (hp : Plain f)
    (hm : ∀ (W : World) (t l s : Value), Below w.heap.size w W → IsOO (k + k') (x.num * (y.den / (Int.gcd x.den y.den : Nat))) (k' + k) (y.num * (x.den / (Int.gcd x.den y.den : Nat))) t W → OkAt W l (k + k') (x.den * (y.den / (Int.gcd x.den y.den : Nat))) → OkAt W s (max k k') (Int.gcd x.den y.den : Nat) →
      Calls Tryz.prog f (#[t, l, s] ++ cap) W fun e w' => (∃ u, e = .returned u ∧ IsF K q u w') ∧ Below W.heap.size W w') :
    Calls Tryz.prog 196 #[u, v, .func (.func f) #[] cap] w fun e w' => FrAns w' e K q ∧ Below w.heap.size w w' := by
  obtain ⟨S, hS⟩ : ∃ S : Int, ((Int.gcd x.den y.den : Nat) : Int) = S := ⟨_, rfl⟩
  have HK : Hid (1 ≤ k ∧ 1 ≤ k' ∧ k ≤ 1000000 ∧ k' ≤ 1000000) := ⟨h1, h1', hk, hk'⟩
  have HM : Hid (max k k' ≤ 1000000 ∧ True) := ⟨by omega, trivial⟩
  have HD : Hid (S ≠ 0 ∧ S ∣ (y.den : Int) ∧ S ∣ (x.den : Int)) := by
    rw [← hS]
    refine ⟨?_, Int.gcd_dvd_right _ _, Int.gcd_dvd_left _ _⟩
    have p1 := rat_den_pos x
    have := Int.gcd_pos_of_ne_zero_left (a := x.den) (y.den : Int) (by omega)
    omega
  rw [hS] at hm
  have HS := Lib.hid hS
  have HM2 := Lib.hid hm
  have HA0 := h.keep
  have HB0 := h'.keep
  obtain ⟨s, v0, l, s', v', l', rfl, g1, g2, -⟩ := h
  obtain ⟨a, c, rfl, -⟩ := g1
  obtain ⟨a', c', rfl, -⟩ := g2
  obtain ⟨t, u0, i, t', u', i', rfl, g3, g4, -⟩ := h'
  obtain ⟨r0, d, rfl, -⟩ := g3
  obtain ⟨r', d', rfl, -⟩ := g4
  obtain ⟨W0, e0, n1, n2, n4, hb0⟩ := box_frs w (.bool s) (.slice a l.length c) (.bool s') (.slice a' l'.length c') (.bool t) (.slice r0 i.length d) (.bool t') (.slice r' i'.length d')
  have N1 := n1.keep
  have N2 := n2.keep
  have N4 := n4.keep
  have HA := (HA0.out _ hb0).keep
  have HB := (HB0.out _ hb0).keep
  have B0 := Lib.hid hb0
  clear n1 n2 n4 hb0 h1 h1' hk hk' hS hm HA0 HB0
  go_enter Tryz.func196, Tryz.ntmps196
  go_upto_region 1 with fail
  clear e0
  rename_i K1 hK1
  refine wp_region_tail []
    [(2, IsV (.func (.func f) #[] cap)), (6, IsV (.pointer (some ⟨w.heap.size + 1 + 1, 0, none⟩))), (3, IsV (.pointer (some ⟨w.heap.size, 0, none⟩))), (4, IsV (.pointer (some ⟨(w.heap.size + 1), 0, none⟩)))]
    [(11, IsG k (x)), (12, IsF k (x)), (13, IsG k' (y)), (14, IsF k' (y)), (15, IsFF k (x) k' (y)), (7, IsNew W0.heap.size nought8)]
    [7] 57 6 (by kernel_rfl) rfl (by kernel_rfl) (by kernel_rfl) (by kernel_rfl) (by kernel_rfl) ⟨rfl, rfl, rfl, rfl, trivial⟩ ⟨IsV.grows _ , IsV.grows _ , IsV.grows _ , IsV.grows _ , IsG.grows _ _ , IsF.grows _ _ , IsG.grows _ _ , IsF.grows _ _ , IsFF.grows _ _ _ _ , IsNew.grows _ _ , trivial⟩ ?_ (fun d _ _ _ _ h => by cases d <;> exact h) ?_ ?_
  · refine AllStep2.step rfl rfl (step_loadT (fun _ _ h => h) (fun W hb => run_load4 rfl rfl rfl (N1.out W hb).at0 (N1.out W hb).at1 (N1.out W hb).at2 (N1.out W hb).at3) (fun w hb => HA.out w hb)) ?_
    refine AllStep2.step rfl rfl (step_call1 (Plain.of Tryz.func136 rfl rfl) (fun _ _ _ hu => orNoughtF_at hu HK.out.1 HK.out.2.2.1)) ?_
    refine AllStep2.step rfl rfl (step_loadT (fun _ _ h => h) (fun W hb => run_load4 rfl rfl rfl (N2.out W hb).at0 (N2.out W hb).at1 (N2.out W hb).at2 (N2.out W hb).at3) (fun w hb => HB.out w hb)) ?_
    refine AllStep2.step rfl rfl (step_call1 (Plain.of Tryz.func136 rfl rfl) (fun _ _ _ hu => orNoughtF_at hu HK.out.2.1 HK.out.2.2.2)) ?_
    refine AllStep2.step rfl rfl (step_joinF (fun _ _ h => h) (fun _ _ h => h) (fun _ _ h => h)) ?_
    refine AllStep2.fresh rfl rfl (alloc_T (fun _ => run_new8) (fun _ _ h => h)) ?_
    exact AllStep2.nil
  · intro t ht v w hk
    simp only [List.mem_cons, List.not_mem_nil, or_false] at ht
    subst ht
    exact IsNew.lt (show IsNew W0.heap.size _ v w from hk)
  intro a1 w1 hb1 hs1 hd1 hk1 _
  have q2 : a1.eval (.tmp 2) = .func (.func f) #[] cap := hk1 2 (by kernel_rfl)
  have q6 : a1.eval (.tmp 6) = .pointer (some ⟨w.heap.size + 1 + 1, 0, none⟩) := hk1 6 (by kernel_rfl)
  obtain ⟨s1, p1, n1, c1, s2, p2, n2, c2, s3, p3, n3, c3, s4, p4, n4, c4, e15, f1, f2⟩ : IsFF k x k' y (a1.eval (.tmp 15)) w1 := hk1 15 (by kernel_rfl)
  obtain ⟨b7, q7, l7, m7, -⟩ : IsNew W0.heap.size nought8 (a1.eval (.tmp 7)) w1 := hk1 7 (by kernel_rfl)
  obtain ⟨W1, eW1, st1, bx7⟩ := m7.store (ys := [.bool s1, .slice p1 n1 c1, .bool s2, .slice p2 n2 c2, .bool s3, .slice p3 n3 c3, .bool s4, .slice p4 n4 c4]) rfl rfl
  refine wpOps_step (i := 6) (rest := []) rfl rfl ?_
  refine wp_store_T q7 e15 (run_store8 m7) ?_
  rw [eW1]
  have bW := st1.below W0 l7 hb1
  obtain ⟨x1, x2⟩ := (f1.store st1).nums
  obtain ⟨y1, y2⟩ := (f2.store st1).nums
  have HX1 := x1.keep
  have HX2 := x2.keep
  have HY1 := y1.keep
  have HY2 := y2.keep
  have M7 := bx7.keep
  have N4 := (N4.out _ bW).keep
  have B1 := Lib.hid (Below.step B0.out bW)
  have L7 : Hid (b7 < W1.heap.size ∧ W0.heap.size ≤ b7) := ⟨bx7.lt, l7⟩
  clear x1 x2 y1 y2 bx7 bW st1 eW1 f1 f2 m7 HA HB N1 N2 e15
  refine hK1 _ _ ?_
  refine wp_seq_k ?_
  intro K2 hK2
  refine wp_region_seq []
    [(2, IsV (.func (.func f) #[] cap)), (6, IsV (.pointer (some ⟨w.heap.size + 1 + 1, 0, none⟩))), (7, IsV (.pointer (some ⟨b7, 0, none⟩)))]
    [(16, IsV (.pointer (some ⟨b7, 0, none⟩))), (17, IsV (.pointer (some ⟨b7, 2, none⟩))), (18, IsO k ((x.den : Int))), (19, IsV (.pointer (some ⟨b7, 4, none⟩))), (20, IsV (.pointer (some ⟨b7, 6, none⟩))), (21, IsO k' ((y.den : Int))), (22, IsO (max k k') (((Int.gcd (x.den : Int) (y.den : Int) : Nat) : Int))), (8, IsNew W1.heap.size nought2)]
    57 8 hs1 (by kernel_rfl) (by kernel_rfl) ⟨q2, q6, q7, trivial⟩ ⟨IsV.grows _ , IsV.grows _ , IsV.grows _ , IsV.grows _ , IsV.grows _ , IsO.grows _ _ , IsV.grows _ , IsV.grows _ , IsO.grows _ _ , IsO.grows _ _ , IsNew.grows _ _ , trivial⟩ ?_ ?_
  · refine AllStep.cons (step_indexT (fun _ _ h => h) (fun _ => run_frac0) (fun _ => rfl)) ?_
    refine AllStep.cons (step_fieldT (fun _ _ h => h) (fun _ => run_low) (fun _ => rfl)) ?_
    refine AllStep.cons (step_loadT (fun _ _ h => h) (fun W hb => run_load2 rfl (M7.out W hb).at2 (M7.out W hb).at3) (fun w hb => HX2.out w hb)) ?_
    refine AllStep.cons (step_indexT (fun _ _ h => h) (fun _ => run_frac1) (fun _ => rfl)) ?_
    refine AllStep.cons (step_fieldT (fun _ _ h => h) (fun _ => run_low) (fun _ => rfl)) ?_
    refine AllStep.cons (step_loadT (fun _ _ h => h) (fun W hb => run_load2 rfl (M7.out W hb).at6 (M7.out W hb).at7) (fun w hb => HY2.out w hb)) ?_
    refine AllStep.cons (step_call2 (Plain.of Tryz.func150 rfl rfl) (fun _ _ _ _ hu hv => common_num hu hv HK.out.2.2.1 HK.out.2.2.2)) ?_
    refine AllStep.cons (step_allocT (fun _ => run_new2) (fun _ _ h => h)) ?_
    exact AllStep.nil
  intro a2 w2 hb2 hs2 hd2 hk2
  have q2 : a2.eval (.tmp 2) = .func (.func f) #[] cap := hk2 2 (by kernel_rfl)
  have q6 : a2.eval (.tmp 6) = .pointer (some ⟨w.heap.size + 1 + 1, 0, none⟩) := hk2 6 (by kernel_rfl)
  have q7 : a2.eval (.tmp 7) = .pointer (some ⟨b7, 0, none⟩) := hk2 7 (by kernel_rfl)
  have x22 : IsO (max k k') ((Int.gcd x.den y.den : Nat) : Int) (a2.eval (.tmp 22)) w2 := hk2 22 (by kernel_rfl)
  obtain ⟨b8, q8, l8, m8, -⟩ : IsNew W1.heap.size nought2 (a2.eval (.tmp 8)) w2 := hk2 8 (by kernel_rfl)
  obtain ⟨s1, p1, n1, c1, e22⟩ := OkAt.agg x22
  have x22' : OkAt w2 (.agg #[.bool s1, .slice p1 n1 c1]) (max k k') ((Int.gcd x.den y.den : Nat) : Int) := by rw [← e22]; exact x22
  obtain ⟨W2, eW2, st2, bx8⟩ := m8.store (ys := [.bool s1, .slice p1 n1 c1]) rfl rfl
  refine wpOps_step (i := 8) (rest := []) rfl rfl ?_
  refine wp_store_T q8 e22 (run_store2 m8) ?_
  rw [eW2]
  have bW := st2.below W1 l8 hb2
  rw [HS.out] at x22'
  have HG := (x22'.store st2).keep
  have HX1 := (HX1.out _ bW).keep
  have HX2 := (HX2.out _ bW).keep
  have HY1 := (HY1.out _ bW).keep
  have HY2 := (HY2.out _ bW).keep
  have M7 := (M7.out _ bW).keep
  have M8 := bx8.keep
  have N4 := (N4.out _ bW).keep
  have B1 := Lib.hid (Below.step B1.out bW)
  clear x22 x22' bx8 bW st2 eW2 m8 e22 hb1 hs1 hk1
  refine hK2 _ _ ?_
  refine wp_seq_k ?_
  intro K3 hK3
  refine wp_region_tail []
    [(2, IsV (.func (.func f) #[] cap)), (6, IsV (.pointer (some ⟨w.heap.size + 1 + 1, 0, none⟩))), (7, IsV (.pointer (some ⟨b7, 0, none⟩))), (8, IsV (.pointer (some ⟨b8, 0, none⟩)))]
    [(23, IsV (.pointer (some ⟨b7, 4, none⟩))), (24, IsV (.pointer (some ⟨b7, 6, none⟩))), (25, IsO k' ((y.den : Int))), (26, IsO (max k k') (S)), (27, IsO k' (((y.den : Int) / S))), (28, IsV (.pointer (some ⟨b7, 0, none⟩))), (29, IsV (.pointer (some ⟨b7, 2, none⟩))), (30, IsO k ((x.den : Int))), (31, IsO (max k k') (S)), (32, IsO k (((x.den : Int) / S))), (33, IsOO k' (((y.den : Int) / S)) k (((x.den : Int) / S))), (9, IsNew W2.heap.size nought4)]
    [9] 57 12 (by kernel_rfl) hs2 (by kernel_rfl) (by kernel_rfl) (by kernel_rfl) (by kernel_rfl) ⟨q2, q6, q7, q8, trivial⟩ ⟨IsV.grows _ , IsV.grows _ , IsV.grows _ , IsV.grows _ , IsV.grows _ , IsV.grows _ , IsO.grows _ _ , IsO.grows _ _ , IsO.grows _ _ , IsV.grows _ , IsV.grows _ , IsO.grows _ _ , IsO.grows _ _ , IsO.grows _ _ , IsOO.grows _ _ _ _ , IsNew.grows _ _ , trivial⟩ ?_ (fun d _ _ _ _ h => by cases d <;> exact h) ?_ ?_
  · refine AllStep2.step rfl rfl (step_indexT (fun _ _ h => h) (fun _ => run_frac1) (fun _ => rfl)) ?_
    refine AllStep2.step rfl rfl (step_fieldT (fun _ _ h => h) (fun _ => run_low) (fun _ => rfl)) ?_
    refine AllStep2.step rfl rfl (step_loadT (fun _ _ h => h) (fun W hb => run_load2 rfl (M7.out W hb).at6 (M7.out W hb).at7) (fun w hb => HY2.out w hb)) ?_
    refine AllStep2.step rfl rfl (step_loadT (fun _ _ h => h) (fun W hb => run_load2 rfl (M8.out W hb).at0 (M8.out W hb).at1) (fun w hb => HG.out w hb)) ?_
    refine AllStep2.step rfl rfl (step_call2 (Plain.of Tryz.func199 rfl rfl) (fun _ _ _ _ hu hv => over_num hu hv HK.out.2.2.2 HM.out.1 HD.out.1 HD.out.2.1)) ?_
    refine AllStep2.step rfl rfl (step_indexT (fun _ _ h => h) (fun _ => run_frac0) (fun _ => rfl)) ?_
    refine AllStep2.step rfl rfl (step_fieldT (fun _ _ h => h) (fun _ => run_low) (fun _ => rfl)) ?_
    refine AllStep2.step rfl rfl (step_loadT (fun _ _ h => h) (fun W hb => run_load2 rfl (M7.out W hb).at2 (M7.out W hb).at3) (fun w hb => HX2.out w hb)) ?_
    refine AllStep2.step rfl rfl (step_loadT (fun _ _ h => h) (fun W hb => run_load2 rfl (M8.out W hb).at0 (M8.out W hb).at1) (fun w hb => HG.out w hb)) ?_
    refine AllStep2.step rfl rfl (step_call2 (Plain.of Tryz.func199 rfl rfl) (fun _ _ _ _ hu hv => over_num hu hv HK.out.2.2.1 HM.out.1 HD.out.1 HD.out.2.2)) ?_
    refine AllStep2.step rfl rfl (step_join (fun _ _ _ _ _ _ _ _ _ => run_build22) (fun _ _ h => h) (fun _ _ h => h) (fun _ _ h => h)) ?_
    refine AllStep2.fresh rfl rfl (alloc_T (fun _ => run_new22) (fun _ _ h => h)) ?_
    exact AllStep2.nil
  · intro t ht v w hk
    simp only [List.mem_cons, List.not_mem_nil, or_false] at ht
    subst ht
    exact IsNew.lt (show IsNew W2.heap.size _ v w from hk)
  intro a3 w3 hb3 hs3 hd3 hk3 _
  have q2 : a3.eval (.tmp 2) = .func (.func f) #[] cap := hk3 2 (by kernel_rfl)
  have q6 : a3.eval (.tmp 6) = .pointer (some ⟨w.heap.size + 1 + 1, 0, none⟩) := hk3 6 (by kernel_rfl)
  have q7 : a3.eval (.tmp 7) = .pointer (some ⟨b7, 0, none⟩) := hk3 7 (by kernel_rfl)
  have q8 : a3.eval (.tmp 8) = .pointer (some ⟨b8, 0, none⟩) := hk3 8 (by kernel_rfl)
  obtain ⟨s1, p1, n1, c1, s2, p2, n2, c2, e33, f1, f2⟩ : IsOO k' (y.den / S) k (x.den / S) (a3.eval (.tmp 33)) w3 := hk3 33 (by kernel_rfl)
  obtain ⟨b9, q9, l9, m9, -⟩ : IsNew W2.heap.size nought4 (a3.eval (.tmp 9)) w3 := hk3 9 (by kernel_rfl)
  obtain ⟨W3, eW3, st3, bx9⟩ := m9.store (ys := [.bool s1, .slice p1 n1 c1, .bool s2, .slice p2 n2 c2]) rfl rfl
  refine wpOps_step (i := 12) (rest := []) rfl rfl ?_
  refine wp_store_T q9 e33 (run_store22 m9) ?_
  rw [eW3]
  have bW := st3.below W2 l9 hb3
  have HP1 := (f1.store st3).keep
  have HP2 := (f2.store st3).keep
  have HG := (HG.out _ bW).keep
  have HX1 := (HX1.out _ bW).keep
  have HX2 := (HX2.out _ bW).keep
  have HY1 := (HY1.out _ bW).keep
  have HY2 := (HY2.out _ bW).keep
  have M7 := (M7.out _ bW).keep
  have M8 := (M8.out _ bW).keep
  have M9 := bx9.keep
  have N4 := (N4.out _ bW).keep
  have B1 := Lib.hid (Below.step B1.out bW)
  clear f1 f2 bx9 bW st3 eW3 m9 e33 hb2 hs2 hk2
  refine hK3 _ _ ?_
  refine wp_seq_k ?_
  intro K4 hK4
  refine wp_region_tail []
    [(2, IsV (.func (.func f) #[] cap)), (6, IsV (.pointer (some ⟨w.heap.size + 1 + 1, 0, none⟩))), (7, IsV (.pointer (some ⟨b7, 0, none⟩))), (8, IsV (.pointer (some ⟨b8, 0, none⟩))), (9, IsV (.pointer (some ⟨b9, 0, none⟩)))]
    [(34, IsV (.pointer (some ⟨b7, 0, none⟩))), (35, IsV (.pointer (some ⟨b7, 0, none⟩))), (36, IsO k (x.num)), (37, IsV (.pointer (some ⟨b9, 0, none⟩))), (38, IsO k' ((y.den / S))), (39, IsO (k + k') ((x.num * (y.den / S)))), (40, IsV (.pointer (some ⟨b7, 4, none⟩))), (41, IsV (.pointer (some ⟨b7, 4, none⟩))), (42, IsO k' (y.num)), (43, IsV (.pointer (some ⟨b9, 2, none⟩))), (44, IsO k ((x.den / S))), (45, IsO (k' + k) ((y.num * (x.den / S)))), (46, IsOO (k + k') ((x.num * (y.den / S))) (k' + k) ((y.num * (x.den / S)))), (10, IsNew W3.heap.size nought4)]
    [10] 57 14 (by kernel_rfl) hs3 (by kernel_rfl) (by kernel_rfl) (by kernel_rfl) (by kernel_rfl) ⟨q2, q6, q7, q8, q9, trivial⟩ ⟨IsV.grows _ , IsV.grows _ , IsV.grows _ , IsV.grows _ , IsV.grows _ , IsV.grows _ , IsV.grows _ , IsO.grows _ _ , IsV.grows _ , IsO.grows _ _ , IsO.grows _ _ , IsV.grows _ , IsV.grows _ , IsO.grows _ _ , IsV.grows _ , IsO.grows _ _ , IsO.grows _ _ , IsOO.grows _ _ _ _ , IsNew.grows _ _ , trivial⟩ ?_ (fun d _ _ _ _ h => by cases d <;> exact h) ?_ ?_
  · refine AllStep2.step rfl rfl (step_indexT (fun _ _ h => h) (fun _ => run_frac0) (fun _ => rfl)) ?_
    refine AllStep2.step rfl rfl (step_fieldT (fun _ _ h => h) (fun _ => run_top) (fun _ => rfl)) ?_
    refine AllStep2.step rfl rfl (step_loadT (fun _ _ h => h) (fun W hb => run_load2 rfl (M7.out W hb).at0 (M7.out W hb).at1) (fun w hb => HX1.out w hb)) ?_
    refine AllStep2.step rfl rfl (step_indexT (fun _ _ h => h) (fun _ => run_num0) (fun _ => rfl)) ?_
    refine AllStep2.step rfl rfl (step_loadT (fun _ _ h => h) (fun W hb => run_load2 rfl (M9.out W hb).at0 (M9.out W hb).at1) (fun w hb => HP1.out w hb)) ?_
    refine AllStep2.step rfl rfl (step_call2 (Plain.of Tryz.func67 rfl rfl) (fun _ _ _ _ hu hv => Mul_num (OkAt.num hu) (OkAt.num hv) HK.out.2.2.1 HK.out.2.2.2)) ?_
    refine AllStep2.step rfl rfl (step_indexT (fun _ _ h => h) (fun _ => run_frac1) (fun _ => rfl)) ?_
    refine AllStep2.step rfl rfl (step_fieldT (fun _ _ h => h) (fun _ => run_top) (fun _ => rfl)) ?_
    refine AllStep2.step rfl rfl (step_loadT (fun _ _ h => h) (fun W hb => run_load2 rfl (M7.out W hb).at4 (M7.out W hb).at5) (fun w hb => HY1.out w hb)) ?_
    refine AllStep2.step rfl rfl (step_indexT (fun _ _ h => h) (fun _ => run_num1) (fun _ => rfl)) ?_
    refine AllStep2.step rfl rfl (step_loadT (fun _ _ h => h) (fun W hb => run_load2 rfl (M9.out W hb).at2 (M9.out W hb).at3) (fun w hb => HP2.out w hb)) ?_
    refine AllStep2.step rfl rfl (step_call2 (Plain.of Tryz.func67 rfl rfl) (fun _ _ _ _ hu hv => Mul_num (OkAt.num hu) (OkAt.num hv) HK.out.2.2.2 HK.out.2.2.1)) ?_
    refine AllStep2.step rfl rfl (step_join (fun _ _ _ _ _ _ _ _ _ => run_build22) (fun _ _ h => h) (fun _ _ h => h) (fun _ _ h => h)) ?_
    refine AllStep2.fresh rfl rfl (alloc_T (fun _ => run_new22) (fun _ _ h => h)) ?_
    exact AllStep2.nil
  · intro t ht v w hk
    simp only [List.mem_cons, List.not_mem_nil, or_false] at ht
    subst ht
    exact IsNew.lt (show IsNew W3.heap.size _ v w from hk)
  intro a4 w4 hb4 hs4 hd4 hk4 _
  have q2 : a4.eval (.tmp 2) = .func (.func f) #[] cap := hk4 2 (by kernel_rfl)
  have q6 : a4.eval (.tmp 6) = .pointer (some ⟨w.heap.size + 1 + 1, 0, none⟩) := hk4 6 (by kernel_rfl)
  have q7 : a4.eval (.tmp 7) = .pointer (some ⟨b7, 0, none⟩) := hk4 7 (by kernel_rfl)
  have q8 : a4.eval (.tmp 8) = .pointer (some ⟨b8, 0, none⟩) := hk4 8 (by kernel_rfl)
  have q9 : a4.eval (.tmp 9) = .pointer (some ⟨b9, 0, none⟩) := hk4 9 (by kernel_rfl)
  obtain ⟨s1, p1, n1, c1, s2, p2, n2, c2, e46, f1, f2⟩ : IsOO (k + k') (x.num * (y.den / S)) (k' + k) (y.num * (x.den / S)) (a4.eval (.tmp 46)) w4 := hk4 46 (by kernel_rfl)
  obtain ⟨b10, q10, l10, m10, -⟩ : IsNew W3.heap.size nought4 (a4.eval (.tmp 10)) w4 := hk4 10 (by kernel_rfl)
  obtain ⟨W4, eW4, st4, bx10⟩ := m10.store (ys := [.bool s1, .slice p1 n1 c1, .bool s2, .slice p2 n2 c2]) rfl rfl
  refine wpOps_step (i := 14) (rest := []) rfl rfl ?_
  refine wp_store_T q10 e46 (run_store22 m10) ?_
  rw [eW4]
  have bW := st4.below W3 l10 hb4
  have HT : Hid (∀ W, Below W4.heap.size W4 W → IsOO (k + k') (x.num * (y.den / S)) (k' + k) (y.num * (x.den / S)) (.agg #[.bool s1, .slice p1 n1 c1, .bool s2, .slice p2 n2 c2]) W) := fun W hb => ⟨s1, p1, n1, c1, s2, p2, n2, c2, rfl, (f1.store st4).below hb, (f2.store st4).below hb⟩
  have HG := (HG.out _ bW).keep
  have HX2 := (HX2.out _ bW).keep
  have HP1 := (HP1.out _ bW).keep
  have M7 := (M7.out _ bW).keep
  have M8 := (M8.out _ bW).keep
  have M9 := (M9.out _ bW).keep
  have M10 := bx10.keep
  have N4 := (N4.out _ bW).keep
  have B1 := Lib.hid (Below.step B1.out bW)
  clear f1 f2 bx10 bW st4 eW4 m10 e46 hb3 hs3 hk3 HX1 HY1 HY2 HP2
  refine hK4 _ _ ?_
  refine wp_seq_k ?_
  intro K5 hK5
  refine wp_region_tail []
    [(2, IsV (.func (.func f) #[] cap)), (6, IsV (.pointer (some ⟨w.heap.size + 1 + 1, 0, none⟩))), (7, IsV (.pointer (some ⟨b7, 0, none⟩))), (8, IsV (.pointer (some ⟨b8, 0, none⟩))), (9, IsV (.pointer (some ⟨b9, 0, none⟩))), (10, IsV (.pointer (some ⟨b10, 0, none⟩)))]
    [(47, IsV (.func (.func f) #[] cap)), (48, IsOO (k + k') (x.num * (y.den / S)) (k' + k) (y.num * (x.den / S))), (49, IsV (.pointer (some ⟨b7, 0, none⟩))), (50, IsV (.pointer (some ⟨b7, 2, none⟩))), (51, IsO k ((x.den : Int))), (52, IsV (.pointer (some ⟨b9, 0, none⟩))), (53, IsO k' ((y.den / S))), (54, IsO (k + k') (((x.den : Int) * (y.den / S)))), (55, IsO (max k k') (S)), (56, IsF K q)]
    [] 57 10 (by kernel_rfl) hs4 (by kernel_rfl) (by kernel_rfl) (by kernel_rfl) (by kernel_rfl) ⟨q2, q6, q7, q8, q9, q10, trivial⟩ ⟨IsV.grows _ , IsV.grows _ , IsV.grows _ , IsV.grows _ , IsV.grows _ , IsV.grows _ , IsV.grows _ , IsOO.grows _ _ _ _ , IsV.grows _ , IsV.grows _ , IsO.grows _ _ , IsV.grows _ , IsO.grows _ _ , IsO.grows _ _ , IsO.grows _ _ , IsF.grows _ _ , trivial⟩ ?_ (fun d _ _ _ _ h => by cases d <;> exact h) ?_ ?_
  · refine AllStep2.quiet rfl (pure_move (fun _ _ h => h)) ?_
    refine AllStep2.step rfl rfl (step_loadT (fun _ _ h => h) (fun W hb => run_load22 rfl rfl rfl (M10.out W hb).at0 (M10.out W hb).at1 (M10.out W hb).at2 (M10.out W hb).at3) (fun w hb => HT.out w hb)) ?_
    refine AllStep2.step rfl rfl (step_indexT (fun _ _ h => h) (fun _ => run_frac0) (fun _ => rfl)) ?_
    refine AllStep2.step rfl rfl (step_fieldT (fun _ _ h => h) (fun _ => run_low) (fun _ => rfl)) ?_
    refine AllStep2.step rfl rfl (step_loadT (fun _ _ h => h) (fun W hb => run_load2 rfl (M7.out W hb).at2 (M7.out W hb).at3) (fun w hb => HX2.out w hb)) ?_
    refine AllStep2.step rfl rfl (step_indexT (fun _ _ h => h) (fun _ => run_num0) (fun _ => rfl)) ?_
    refine AllStep2.step rfl rfl (step_loadT (fun _ _ h => h) (fun W hb => run_load2 rfl (M9.out W hb).at0 (M9.out W hb).at1) (fun w hb => HP1.out w hb)) ?_
    refine AllStep2.step rfl rfl (step_call2 (Plain.of Tryz.func67 rfl rfl) (fun _ _ _ _ hu hv => Mul_num (OkAt.num hu) (OkAt.num hv) HK.out.2.2.1 HK.out.2.2.2)) ?_
    refine AllStep2.step rfl rfl (step_loadT (fun _ _ h => h) (fun W hb => run_load2 rfl (M8.out W hb).at0 (M8.out W hb).at1) (fun w hb => HG.out w hb)) ?_
    refine AllStep2.step rfl rfl (step_value3 hp (fun _ _ h => h) (fun _ _ _ w hb ha hb' hc => HM2.out w _ _ _ (Below.step B1.out hb) ha hb' hc)) ?_
    exact AllStep2.nil
  · intro t ht v w hk
    simp only [List.mem_cons, List.not_mem_nil, or_false] at ht
  intro a5 w5 hb5 hs5 hd5 hk5 _
  have q2 : a5.eval (.tmp 2) = .func (.func f) #[] cap := hk5 2 (by kernel_rfl)
  have q6 : a5.eval (.tmp 6) = .pointer (some ⟨w.heap.size + 1 + 1, 0, none⟩) := hk5 6 (by kernel_rfl)
  have x56 : FrOk w5 (a5.eval (.tmp 56)) K q := hk5 56 (by kernel_rfl)
  obtain ⟨s1, p1, n1, c1, s2, p2, n2, c2, e56, -⟩ := x56.split
  have x56' : FrOk w5 (.agg #[.bool s1, .slice p1 n1 c1, .bool s2, .slice p2 n2 c2]) K q := by rw [← e56]; exact x56
  have N := N4.out _ hb5
  obtain ⟨W', e, hst, hbx⟩ := N.store (ys := [.bool s1, .slice p1 n1 c1, .bool s2, .slice p2 n2 c2]) rfl rfl
  refine wpOps_step (i := 10) (rest := []) rfl rfl ?_
  refine wp_store_T q6 e56 (run_store4 N) ?_
  rw [e]
  refine hK5 _ _ ?_
  refine wp_ret ?_
  exact ret_fr (t := 6) rfl (hd5.trans (hd4.trans (hd3.trans (hd2.trans hd1)))) q6 hbx ⟨⟨_, rfl, x56'.store hst⟩, hst.below w (by omega) (Below.step B1.out hb5)⟩

set_option maxRecDepth 100000 in
set_option maxHeartbeats 8000000 in
theorem level_int {w : World} {u v : Value} {k k' : Nat} {x y : Rat} {f : FuncId} {cap : Array Value} {r : Int} (h : FrAt w u k x) (h' : FrAt w v k' y) (h1 : 1 ≤ k) (h1' : 1 ≤ k') (hk : k ≤ 1000000) (hk' : k' ≤ 1000000) (hp : Plain f)
    (hm : ∀ (W : World) (t l s : Value), Below w.heap.size w W → IsOO (k + k') (x.num * (y.den / (Int.gcd x.den y.den : Nat))) (k' + k) (y.num * (x.den / (Int.gcd x.den y.den : Nat))) t W → OkAt W l (k + k') (x.den * (y.den / (Int.gcd x.den y.den : Nat))) → OkAt W s (max k k') (Int.gcd x.den y.den : Nat) →
      Calls Tryz.prog f (#[t, l, s] ++ cap) W fun e w' => (∃ u, e = .returned u ∧ u = .int .i64 r) ∧ Below W.heap.size W w') :
    Calls Tryz.prog 141 #[u, v, .func (.func f) #[] cap] w fun e w' => e = .returned (.int .i64 r) ∧ Below w.heap.size w w' := by
  obtain ⟨S, hS⟩ : ∃ S : Int, ((Int.gcd x.den y.den : Nat) : Int) = S := ⟨_, rfl⟩
  have HK : Hid (1 ≤ k ∧ 1 ≤ k' ∧ k ≤ 1000000 ∧ k' ≤ 1000000) := ⟨h1, h1', hk, hk'⟩
  have HM : Hid (max k k' ≤ 1000000 ∧ True) := ⟨by omega, trivial⟩
  have HD : Hid (S ≠ 0 ∧ S ∣ (y.den : Int) ∧ S ∣ (x.den : Int)) := by
    rw [← hS]
    refine ⟨?_, Int.gcd_dvd_right _ _, Int.gcd_dvd_left _ _⟩
    have p1 := rat_den_pos x
    have := Int.gcd_pos_of_ne_zero_left (a := x.den) (y.den : Int) (by omega)
    omega
  rw [hS] at hm
  have HS := Lib.hid hS
  have HM2 := Lib.hid hm
  have HA0 := h.keep
  have HB0 := h'.keep
  obtain ⟨s, v0, l, s', v', l', rfl, g1, g2, -⟩ := h
  obtain ⟨a, c, rfl, -⟩ := g1
  obtain ⟨a', c', rfl, -⟩ := g2
  obtain ⟨t, u0, i, t', u', i', rfl, g3, g4, -⟩ := h'
  obtain ⟨r0, d, rfl, -⟩ := g3
  obtain ⟨r', d', rfl, -⟩ := g4
  obtain ⟨W0, e0, n1, n2, hb0⟩ := box_frs2 w (.bool s) (.slice a l.length c) (.bool s') (.slice a' l'.length c') (.bool t) (.slice r0 i.length d) (.bool t') (.slice r' i'.length d')
  have N1 := n1.keep
  have N2 := n2.keep
  have HA := (HA0.out _ hb0).keep
  have HB := (HB0.out _ hb0).keep
  have B0 := Lib.hid hb0
  clear n1 n2 hb0 h1 h1' hk hk' hS hm HA0 HB0
  go_enter Tryz.func141, Tryz.ntmps141
  go_upto_region 1 with fail
  clear e0
  rename_i K1 hK1
  refine wp_region_tail []
    [(2, IsV (.func (.func f) #[] cap)), (3, IsV (.pointer (some ⟨w.heap.size, 0, none⟩))), (4, IsV (.pointer (some ⟨(w.heap.size + 1), 0, none⟩)))]
    [(11, IsG k (x)), (12, IsF k (x)), (13, IsG k' (y)), (14, IsF k' (y)), (15, IsFF k (x) k' (y)), (7, IsNew W0.heap.size nought8)]
    [7] 57 6 (by kernel_rfl) rfl (by kernel_rfl) (by kernel_rfl) (by kernel_rfl) (by kernel_rfl) ⟨rfl, rfl, rfl, trivial⟩ ⟨IsV.grows _ , IsV.grows _ , IsV.grows _ , IsG.grows _ _ , IsF.grows _ _ , IsG.grows _ _ , IsF.grows _ _ , IsFF.grows _ _ _ _ , IsNew.grows _ _ , trivial⟩ ?_ (fun d _ _ _ _ h => by cases d <;> exact h) ?_ ?_
  · refine AllStep2.step rfl rfl (step_loadT (fun _ _ h => h) (fun W hb => run_load4 rfl rfl rfl (N1.out W hb).at0 (N1.out W hb).at1 (N1.out W hb).at2 (N1.out W hb).at3) (fun w hb => HA.out w hb)) ?_
    refine AllStep2.step rfl rfl (step_call1 (Plain.of Tryz.func136 rfl rfl) (fun _ _ _ hu => orNoughtF_at hu HK.out.1 HK.out.2.2.1)) ?_
    refine AllStep2.step rfl rfl (step_loadT (fun _ _ h => h) (fun W hb => run_load4 rfl rfl rfl (N2.out W hb).at0 (N2.out W hb).at1 (N2.out W hb).at2 (N2.out W hb).at3) (fun w hb => HB.out w hb)) ?_
    refine AllStep2.step rfl rfl (step_call1 (Plain.of Tryz.func136 rfl rfl) (fun _ _ _ hu => orNoughtF_at hu HK.out.2.1 HK.out.2.2.2)) ?_
    refine AllStep2.step rfl rfl (step_joinF (fun _ _ h => h) (fun _ _ h => h) (fun _ _ h => h)) ?_
    refine AllStep2.fresh rfl rfl (alloc_T (fun _ => run_new8) (fun _ _ h => h)) ?_
    exact AllStep2.nil
  · intro t ht v w hk
    simp only [List.mem_cons, List.not_mem_nil, or_false] at ht
    subst ht
    exact IsNew.lt (show IsNew W0.heap.size _ v w from hk)
  intro a1 w1 hb1 hs1 hd1 hk1 _
  have q2 : a1.eval (.tmp 2) = .func (.func f) #[] cap := hk1 2 (by kernel_rfl)
  obtain ⟨s1, p1, n1, c1, s2, p2, n2, c2, s3, p3, n3, c3, s4, p4, n4, c4, e15, f1, f2⟩ : IsFF k x k' y (a1.eval (.tmp 15)) w1 := hk1 15 (by kernel_rfl)
  obtain ⟨b7, q7, l7, m7, -⟩ : IsNew W0.heap.size nought8 (a1.eval (.tmp 7)) w1 := hk1 7 (by kernel_rfl)
  obtain ⟨W1, eW1, st1, bx7⟩ := m7.store (ys := [.bool s1, .slice p1 n1 c1, .bool s2, .slice p2 n2 c2, .bool s3, .slice p3 n3 c3, .bool s4, .slice p4 n4 c4]) rfl rfl
  refine wpOps_step (i := 6) (rest := []) rfl rfl ?_
  refine wp_store_T q7 e15 (run_store8 m7) ?_
  rw [eW1]
  have bW := st1.below W0 l7 hb1
  obtain ⟨x1, x2⟩ := (f1.store st1).nums
  obtain ⟨y1, y2⟩ := (f2.store st1).nums
  have HX1 := x1.keep
  have HX2 := x2.keep
  have HY1 := y1.keep
  have HY2 := y2.keep
  have M7 := bx7.keep
  have B1 := Lib.hid (Below.step B0.out bW)
  have L7 : Hid (b7 < W1.heap.size ∧ W0.heap.size ≤ b7) := ⟨bx7.lt, l7⟩
  clear x1 x2 y1 y2 bx7 bW st1 eW1 f1 f2 m7 HA HB N1 N2 e15
  refine hK1 _ _ ?_
  refine wp_seq_k ?_
  intro K2 hK2
  refine wp_region_seq []
    [(2, IsV (.func (.func f) #[] cap)), (7, IsV (.pointer (some ⟨b7, 0, none⟩)))]
    [(16, IsV (.pointer (some ⟨b7, 0, none⟩))), (17, IsV (.pointer (some ⟨b7, 2, none⟩))), (18, IsO k ((x.den : Int))), (19, IsV (.pointer (some ⟨b7, 4, none⟩))), (20, IsV (.pointer (some ⟨b7, 6, none⟩))), (21, IsO k' ((y.den : Int))), (22, IsO (max k k') (((Int.gcd (x.den : Int) (y.den : Int) : Nat) : Int))), (8, IsNew W1.heap.size nought2)]
    57 8 hs1 (by kernel_rfl) (by kernel_rfl) ⟨q2, q7, trivial⟩ ⟨IsV.grows _ , IsV.grows _ , IsV.grows _ , IsV.grows _ , IsO.grows _ _ , IsV.grows _ , IsV.grows _ , IsO.grows _ _ , IsO.grows _ _ , IsNew.grows _ _ , trivial⟩ ?_ ?_
  · refine AllStep.cons (step_indexT (fun _ _ h => h) (fun _ => run_frac0) (fun _ => rfl)) ?_
    refine AllStep.cons (step_fieldT (fun _ _ h => h) (fun _ => run_low) (fun _ => rfl)) ?_
    refine AllStep.cons (step_loadT (fun _ _ h => h) (fun W hb => run_load2 rfl (M7.out W hb).at2 (M7.out W hb).at3) (fun w hb => HX2.out w hb)) ?_
    refine AllStep.cons (step_indexT (fun _ _ h => h) (fun _ => run_frac1) (fun _ => rfl)) ?_
    refine AllStep.cons (step_fieldT (fun _ _ h => h) (fun _ => run_low) (fun _ => rfl)) ?_
    refine AllStep.cons (step_loadT (fun _ _ h => h) (fun W hb => run_load2 rfl (M7.out W hb).at6 (M7.out W hb).at7) (fun w hb => HY2.out w hb)) ?_
    refine AllStep.cons (step_call2 (Plain.of Tryz.func150 rfl rfl) (fun _ _ _ _ hu hv => common_num hu hv HK.out.2.2.1 HK.out.2.2.2)) ?_
    refine AllStep.cons (step_allocT (fun _ => run_new2) (fun _ _ h => h)) ?_
    exact AllStep.nil
  intro a2 w2 hb2 hs2 hd2 hk2
  have q2 : a2.eval (.tmp 2) = .func (.func f) #[] cap := hk2 2 (by kernel_rfl)
  have q7 : a2.eval (.tmp 7) = .pointer (some ⟨b7, 0, none⟩) := hk2 7 (by kernel_rfl)
  have x22 : IsO (max k k') ((Int.gcd x.den y.den : Nat) : Int) (a2.eval (.tmp 22)) w2 := hk2 22 (by kernel_rfl)
  obtain ⟨b8, q8, l8, m8, -⟩ : IsNew W1.heap.size nought2 (a2.eval (.tmp 8)) w2 := hk2 8 (by kernel_rfl)
  obtain ⟨s1, p1, n1, c1, e22⟩ := OkAt.agg x22
  have x22' : OkAt w2 (.agg #[.bool s1, .slice p1 n1 c1]) (max k k') ((Int.gcd x.den y.den : Nat) : Int) := by rw [← e22]; exact x22
  obtain ⟨W2, eW2, st2, bx8⟩ := m8.store (ys := [.bool s1, .slice p1 n1 c1]) rfl rfl
  refine wpOps_step (i := 8) (rest := []) rfl rfl ?_
  refine wp_store_T q8 e22 (run_store2 m8) ?_
  rw [eW2]
  have bW := st2.below W1 l8 hb2
  rw [HS.out] at x22'
  have HG := (x22'.store st2).keep
  have HX1 := (HX1.out _ bW).keep
  have HX2 := (HX2.out _ bW).keep
  have HY1 := (HY1.out _ bW).keep
  have HY2 := (HY2.out _ bW).keep
  have M7 := (M7.out _ bW).keep
  have M8 := bx8.keep
  have B1 := Lib.hid (Below.step B1.out bW)
  clear x22 x22' bx8 bW st2 eW2 m8 e22 hb1 hs1 hk1
  refine hK2 _ _ ?_
  refine wp_seq_k ?_
  intro K3 hK3
  refine wp_region_tail []
    [(2, IsV (.func (.func f) #[] cap)), (7, IsV (.pointer (some ⟨b7, 0, none⟩))), (8, IsV (.pointer (some ⟨b8, 0, none⟩)))]
    [(23, IsV (.pointer (some ⟨b7, 4, none⟩))), (24, IsV (.pointer (some ⟨b7, 6, none⟩))), (25, IsO k' ((y.den : Int))), (26, IsO (max k k') (S)), (27, IsO k' (((y.den : Int) / S))), (28, IsV (.pointer (some ⟨b7, 0, none⟩))), (29, IsV (.pointer (some ⟨b7, 2, none⟩))), (30, IsO k ((x.den : Int))), (31, IsO (max k k') (S)), (32, IsO k (((x.den : Int) / S))), (33, IsOO k' (((y.den : Int) / S)) k (((x.den : Int) / S))), (9, IsNew W2.heap.size nought4)]
    [9] 57 12 (by kernel_rfl) hs2 (by kernel_rfl) (by kernel_rfl) (by kernel_rfl) (by kernel_rfl) ⟨q2, q7, q8, trivial⟩ ⟨IsV.grows _ , IsV.grows _ , IsV.grows _ , IsV.grows _ , IsV.grows _ , IsO.grows _ _ , IsO.grows _ _ , IsO.grows _ _ , IsV.grows _ , IsV.grows _ , IsO.grows _ _ , IsO.grows _ _ , IsO.grows _ _ , IsOO.grows _ _ _ _ , IsNew.grows _ _ , trivial⟩ ?_ (fun d _ _ _ _ h => by cases d <;> exact h) ?_ ?_
  · refine AllStep2.step rfl rfl (step_indexT (fun _ _ h => h) (fun _ => run_frac1) (fun _ => rfl)) ?_
    refine AllStep2.step rfl rfl (step_fieldT (fun _ _ h => h) (fun _ => run_low) (fun _ => rfl)) ?_
    refine AllStep2.step rfl rfl (step_loadT (fun _ _ h => h) (fun W hb => run_load2 rfl (M7.out W hb).at6 (M7.out W hb).at7) (fun w hb => HY2.out w hb)) ?_
    refine AllStep2.step rfl rfl (step_loadT (fun _ _ h => h) (fun W hb => run_load2 rfl (M8.out W hb).at0 (M8.out W hb).at1) (fun w hb => HG.out w hb)) ?_
    refine AllStep2.step rfl rfl (step_call2 (Plain.of Tryz.func199 rfl rfl) (fun _ _ _ _ hu hv => over_num hu hv HK.out.2.2.2 HM.out.1 HD.out.1 HD.out.2.1)) ?_
    refine AllStep2.step rfl rfl (step_indexT (fun _ _ h => h) (fun _ => run_frac0) (fun _ => rfl)) ?_
    refine AllStep2.step rfl rfl (step_fieldT (fun _ _ h => h) (fun _ => run_low) (fun _ => rfl)) ?_
    refine AllStep2.step rfl rfl (step_loadT (fun _ _ h => h) (fun W hb => run_load2 rfl (M7.out W hb).at2 (M7.out W hb).at3) (fun w hb => HX2.out w hb)) ?_
    refine AllStep2.step rfl rfl (step_loadT (fun _ _ h => h) (fun W hb => run_load2 rfl (M8.out W hb).at0 (M8.out W hb).at1) (fun w hb => HG.out w hb)) ?_
    refine AllStep2.step rfl rfl (step_call2 (Plain.of Tryz.func199 rfl rfl) (fun _ _ _ _ hu hv => over_num hu hv HK.out.2.2.1 HM.out.1 HD.out.1 HD.out.2.2)) ?_
    refine AllStep2.step rfl rfl (step_join (fun _ _ _ _ _ _ _ _ _ => run_build22) (fun _ _ h => h) (fun _ _ h => h) (fun _ _ h => h)) ?_
    refine AllStep2.fresh rfl rfl (alloc_T (fun _ => run_new22) (fun _ _ h => h)) ?_
    exact AllStep2.nil
  · intro t ht v w hk
    simp only [List.mem_cons, List.not_mem_nil, or_false] at ht
    subst ht
    exact IsNew.lt (show IsNew W2.heap.size _ v w from hk)
  intro a3 w3 hb3 hs3 hd3 hk3 _
  have q2 : a3.eval (.tmp 2) = .func (.func f) #[] cap := hk3 2 (by kernel_rfl)
  have q7 : a3.eval (.tmp 7) = .pointer (some ⟨b7, 0, none⟩) := hk3 7 (by kernel_rfl)
  have q8 : a3.eval (.tmp 8) = .pointer (some ⟨b8, 0, none⟩) := hk3 8 (by kernel_rfl)
  obtain ⟨s1, p1, n1, c1, s2, p2, n2, c2, e33, f1, f2⟩ : IsOO k' (y.den / S) k (x.den / S) (a3.eval (.tmp 33)) w3 := hk3 33 (by kernel_rfl)
  obtain ⟨b9, q9, l9, m9, -⟩ : IsNew W2.heap.size nought4 (a3.eval (.tmp 9)) w3 := hk3 9 (by kernel_rfl)
  obtain ⟨W3, eW3, st3, bx9⟩ := m9.store (ys := [.bool s1, .slice p1 n1 c1, .bool s2, .slice p2 n2 c2]) rfl rfl
  refine wpOps_step (i := 12) (rest := []) rfl rfl ?_
  refine wp_store_T q9 e33 (run_store22 m9) ?_
  rw [eW3]
  have bW := st3.below W2 l9 hb3
  have HP1 := (f1.store st3).keep
  have HP2 := (f2.store st3).keep
  have HG := (HG.out _ bW).keep
  have HX1 := (HX1.out _ bW).keep
  have HX2 := (HX2.out _ bW).keep
  have HY1 := (HY1.out _ bW).keep
  have HY2 := (HY2.out _ bW).keep
  have M7 := (M7.out _ bW).keep
  have M8 := (M8.out _ bW).keep
  have M9 := bx9.keep
  have B1 := Lib.hid (Below.step B1.out bW)
  clear f1 f2 bx9 bW st3 eW3 m9 e33 hb2 hs2 hk2
  refine hK3 _ _ ?_
  refine wp_seq_k ?_
  intro K4 hK4
  refine wp_region_tail []
    [(2, IsV (.func (.func f) #[] cap)), (7, IsV (.pointer (some ⟨b7, 0, none⟩))), (8, IsV (.pointer (some ⟨b8, 0, none⟩))), (9, IsV (.pointer (some ⟨b9, 0, none⟩)))]
    [(34, IsV (.pointer (some ⟨b7, 0, none⟩))), (35, IsV (.pointer (some ⟨b7, 0, none⟩))), (36, IsO k (x.num)), (37, IsV (.pointer (some ⟨b9, 0, none⟩))), (38, IsO k' ((y.den / S))), (39, IsO (k + k') ((x.num * (y.den / S)))), (40, IsV (.pointer (some ⟨b7, 4, none⟩))), (41, IsV (.pointer (some ⟨b7, 4, none⟩))), (42, IsO k' (y.num)), (43, IsV (.pointer (some ⟨b9, 2, none⟩))), (44, IsO k ((x.den / S))), (45, IsO (k' + k) ((y.num * (x.den / S)))), (46, IsOO (k + k') ((x.num * (y.den / S))) (k' + k) ((y.num * (x.den / S)))), (10, IsNew W3.heap.size nought4)]
    [10] 57 14 (by kernel_rfl) hs3 (by kernel_rfl) (by kernel_rfl) (by kernel_rfl) (by kernel_rfl) ⟨q2, q7, q8, q9, trivial⟩ ⟨IsV.grows _ , IsV.grows _ , IsV.grows _ , IsV.grows _ , IsV.grows _ , IsV.grows _ , IsO.grows _ _ , IsV.grows _ , IsO.grows _ _ , IsO.grows _ _ , IsV.grows _ , IsV.grows _ , IsO.grows _ _ , IsV.grows _ , IsO.grows _ _ , IsO.grows _ _ , IsOO.grows _ _ _ _ , IsNew.grows _ _ , trivial⟩ ?_ (fun d _ _ _ _ h => by cases d <;> exact h) ?_ ?_
  · refine AllStep2.step rfl rfl (step_indexT (fun _ _ h => h) (fun _ => run_frac0) (fun _ => rfl)) ?_
    refine AllStep2.step rfl rfl (step_fieldT (fun _ _ h => h) (fun _ => run_top) (fun _ => rfl)) ?_
    refine AllStep2.step rfl rfl (step_loadT (fun _ _ h => h) (fun W hb => run_load2 rfl (M7.out W hb).at0 (M7.out W hb).at1) (fun w hb => HX1.out w hb)) ?_
    refine AllStep2.step rfl rfl (step_indexT (fun _ _ h => h) (fun _ => run_num0) (fun _ => rfl)) ?_
    refine AllStep2.step rfl rfl (step_loadT (fun _ _ h => h) (fun W hb => run_load2 rfl (M9.out W hb).at0 (M9.out W hb).at1) (fun w hb => HP1.out w hb)) ?_
    refine AllStep2.step rfl rfl (step_call2 (Plain.of Tryz.func67 rfl rfl) (fun _ _ _ _ hu hv => Mul_num (OkAt.num hu) (OkAt.num hv) HK.out.2.2.1 HK.out.2.2.2)) ?_
    refine AllStep2.step rfl rfl (step_indexT (fun _ _ h => h) (fun _ => run_frac1) (fun _ => rfl)) ?_
    refine AllStep2.step rfl rfl (step_fieldT (fun _ _ h => h) (fun _ => run_top) (fun _ => rfl)) ?_
    refine AllStep2.step rfl rfl (step_loadT (fun _ _ h => h) (fun W hb => run_load2 rfl (M7.out W hb).at4 (M7.out W hb).at5) (fun w hb => HY1.out w hb)) ?_
    refine AllStep2.step rfl rfl (step_indexT (fun _ _ h => h) (fun _ => run_num1) (fun _ => rfl)) ?_
    refine AllStep2.step rfl rfl (step_loadT (fun _ _ h => h) (fun W hb => run_load2 rfl (M9.out W hb).at2 (M9.out W hb).at3) (fun w hb => HP2.out w hb)) ?_
    refine AllStep2.step rfl rfl (step_call2 (Plain.of Tryz.func67 rfl rfl) (fun _ _ _ _ hu hv => Mul_num (OkAt.num hu) (OkAt.num hv) HK.out.2.2.2 HK.out.2.2.1)) ?_
    refine AllStep2.step rfl rfl (step_join (fun _ _ _ _ _ _ _ _ _ => run_build22) (fun _ _ h => h) (fun _ _ h => h) (fun _ _ h => h)) ?_
    refine AllStep2.fresh rfl rfl (alloc_T (fun _ => run_new22) (fun _ _ h => h)) ?_
    exact AllStep2.nil
  · intro t ht v w hk
    simp only [List.mem_cons, List.not_mem_nil, or_false] at ht
    subst ht
    exact IsNew.lt (show IsNew W3.heap.size _ v w from hk)
  intro a4 w4 hb4 hs4 hd4 hk4 _
  have q2 : a4.eval (.tmp 2) = .func (.func f) #[] cap := hk4 2 (by kernel_rfl)
  have q7 : a4.eval (.tmp 7) = .pointer (some ⟨b7, 0, none⟩) := hk4 7 (by kernel_rfl)
  have q8 : a4.eval (.tmp 8) = .pointer (some ⟨b8, 0, none⟩) := hk4 8 (by kernel_rfl)
  have q9 : a4.eval (.tmp 9) = .pointer (some ⟨b9, 0, none⟩) := hk4 9 (by kernel_rfl)
  obtain ⟨s1, p1, n1, c1, s2, p2, n2, c2, e46, f1, f2⟩ : IsOO (k + k') (x.num * (y.den / S)) (k' + k) (y.num * (x.den / S)) (a4.eval (.tmp 46)) w4 := hk4 46 (by kernel_rfl)
  obtain ⟨b10, q10, l10, m10, -⟩ : IsNew W3.heap.size nought4 (a4.eval (.tmp 10)) w4 := hk4 10 (by kernel_rfl)
  obtain ⟨W4, eW4, st4, bx10⟩ := m10.store (ys := [.bool s1, .slice p1 n1 c1, .bool s2, .slice p2 n2 c2]) rfl rfl
  refine wpOps_step (i := 14) (rest := []) rfl rfl ?_
  refine wp_store_T q10 e46 (run_store22 m10) ?_
  rw [eW4]
  have bW := st4.below W3 l10 hb4
  have HT : Hid (∀ W, Below W4.heap.size W4 W → IsOO (k + k') (x.num * (y.den / S)) (k' + k) (y.num * (x.den / S)) (.agg #[.bool s1, .slice p1 n1 c1, .bool s2, .slice p2 n2 c2]) W) := fun W hb => ⟨s1, p1, n1, c1, s2, p2, n2, c2, rfl, (f1.store st4).below hb, (f2.store st4).below hb⟩
  have HG := (HG.out _ bW).keep
  have HX2 := (HX2.out _ bW).keep
  have HP1 := (HP1.out _ bW).keep
  have M7 := (M7.out _ bW).keep
  have M8 := (M8.out _ bW).keep
  have M9 := (M9.out _ bW).keep
  have M10 := bx10.keep
  have B1 := Lib.hid (Below.step B1.out bW)
  clear f1 f2 bx10 bW st4 eW4 m10 e46 hb3 hs3 hk3 HX1 HY1 HY2 HP2
  refine hK4 _ _ ?_
  refine wp_seq_k ?_
  intro K5 hK5
  refine wp_region_tail []
    [(2, IsV (.func (.func f) #[] cap)), (7, IsV (.pointer (some ⟨b7, 0, none⟩))), (8, IsV (.pointer (some ⟨b8, 0, none⟩))), (9, IsV (.pointer (some ⟨b9, 0, none⟩))), (10, IsV (.pointer (some ⟨b10, 0, none⟩)))]
    [(47, IsV (.func (.func f) #[] cap)), (48, IsOO (k + k') (x.num * (y.den / S)) (k' + k) (y.num * (x.den / S))), (49, IsV (.pointer (some ⟨b7, 0, none⟩))), (50, IsV (.pointer (some ⟨b7, 2, none⟩))), (51, IsO k ((x.den : Int))), (52, IsV (.pointer (some ⟨b9, 0, none⟩))), (53, IsO k' ((y.den / S))), (54, IsO (k + k') (((x.den : Int) * (y.den / S)))), (55, IsO (max k k') (S)), (56, IsV (.int .i64 r))]
    [] 57 10 (by kernel_rfl) hs4 (by kernel_rfl) (by kernel_rfl) (by kernel_rfl) (by kernel_rfl) ⟨q2, q7, q8, q9, q10, trivial⟩ ⟨IsV.grows _ , IsV.grows _ , IsV.grows _ , IsV.grows _ , IsV.grows _ , IsV.grows _ , IsOO.grows _ _ _ _ , IsV.grows _ , IsV.grows _ , IsO.grows _ _ , IsV.grows _ , IsO.grows _ _ , IsO.grows _ _ , IsO.grows _ _ , IsV.grows _ , trivial⟩ ?_ (fun d _ _ _ _ h => by cases d <;> exact h) ?_ ?_
  · refine AllStep2.quiet rfl (pure_move (fun _ _ h => h)) ?_
    refine AllStep2.step rfl rfl (step_loadT (fun _ _ h => h) (fun W hb => run_load22 rfl rfl rfl (M10.out W hb).at0 (M10.out W hb).at1 (M10.out W hb).at2 (M10.out W hb).at3) (fun w hb => HT.out w hb)) ?_
    refine AllStep2.step rfl rfl (step_indexT (fun _ _ h => h) (fun _ => run_frac0) (fun _ => rfl)) ?_
    refine AllStep2.step rfl rfl (step_fieldT (fun _ _ h => h) (fun _ => run_low) (fun _ => rfl)) ?_
    refine AllStep2.step rfl rfl (step_loadT (fun _ _ h => h) (fun W hb => run_load2 rfl (M7.out W hb).at2 (M7.out W hb).at3) (fun w hb => HX2.out w hb)) ?_
    refine AllStep2.step rfl rfl (step_indexT (fun _ _ h => h) (fun _ => run_num0) (fun _ => rfl)) ?_
    refine AllStep2.step rfl rfl (step_loadT (fun _ _ h => h) (fun W hb => run_load2 rfl (M9.out W hb).at0 (M9.out W hb).at1) (fun w hb => HP1.out w hb)) ?_
    refine AllStep2.step rfl rfl (step_call2 (Plain.of Tryz.func67 rfl rfl) (fun _ _ _ _ hu hv => Mul_num (OkAt.num hu) (OkAt.num hv) HK.out.2.2.1 HK.out.2.2.2)) ?_
    refine AllStep2.step rfl rfl (step_loadT (fun _ _ h => h) (fun W hb => run_load2 rfl (M8.out W hb).at0 (M8.out W hb).at1) (fun w hb => HG.out w hb)) ?_
    refine AllStep2.step rfl rfl (step_value3 hp (fun _ _ h => h) (fun _ _ _ w hb ha hb' hc => HM2.out w _ _ _ (Below.step B1.out hb) ha hb' hc)) ?_
    exact AllStep2.nil
  · intro t ht v w hk
    simp only [List.mem_cons, List.not_mem_nil, or_false] at ht
  intro a5 w5 hb5 hs5 hd5 hk5 _
  have x56 : a5.eval (.tmp 56) = .int .i64 r := hk5 56 (by kernel_rfl)
  refine wpOps_step (i := 10) (rest := []) rfl rfl ?_
  refine wp_assign ?_
  refine hK5 _ _ ?_
  refine wp_ret ?_
  refine ret_slot (t := 6) (v := .int .i64 r) rfl ?_ ?_ ⟨rfl, Below.step B1.out hb5⟩
  · exact hd5.trans (hd4.trans (hd3.trans (hd2.trans hd1)))
  · rw [eval_put (by rw [hs5]; decide), if_pos rfl]
    exact x56

end Go.Proofs.YtgpoljbccimkjaaGreatDoor
