/- Walks: the sign of a fraction, whether it is whole; whether two fractions are the same; a fraction of small numbers; whether one of some fractions has too many parts. -/
import Derived.Test.YtgpoljbccimkjaaGreatDoorFSum
import Derived.Test.YtgpoljbccimkjaaGreatDoorFCopy
namespace Go.Proofs.YtgpoljbccimkjaaGreatDoor
set_option linter.unusedSimpArgs false
set_option linter.unusedVariables false
open Go.RowKit Go.Shelf

/-- What answers a fraction and an error. -/
def FrTup (w' : World) (e : Ending) (k : Nat) (q : Rat) : Prop := ∃ u, e = .returned (.tuple #[u, .int .i64 0]) ∧ FrOk w' u k q
/-- Likewise, in memory of its own. -/
def FrTupOwn (n : Nat) (w' : World) (e : Ending) (k : Nat) (q : Rat) : Prop := ∃ s a l c s' a' l' c', e = .returned (.tuple #[.agg #[.bool s, .slice a l.length c, .bool s', .slice a' l'.length c'], .int .i64 0]) ∧ OwnL n w' (.slice a l.length c) l ∧ OwnL n w' (.slice a' l'.length c') l' ∧ Apart (.slice a l.length c) (.slice a' l'.length c') ∧ FrOk w' (.agg #[.bool s, .slice a l.length c, .bool s', .slice a' l'.length c']) k q ∧ l.length ≤ k ∧ l'.length ≤ k
/-- No fraction, as it lies. -/
def frNone : Value := .agg #[.bool false, .slice none 0 0, .bool false, .slice none 0 0]

theorem ret_frn {fn : Func} {R : Ending → World → Prop} {a : Act} {w : World} {t s0 b : Nat} {m : Int} {s s' : Bool} {p p' : Option Addr} {n c n' c' : Nat} (hr : fn.results = #[.cell t 58, .tmp s0]) (hd : a.defers = []) (h : a.eval (.tmp t) = .pointer (some ⟨b, 0, none⟩)) (h2 : a.eval (.tmp s0) = .int .i64 m) (hb : BoxV w b [.bool s, .slice p n c, .bool s', .slice p' n' c'])
    (hR : R (.returned (.tuple #[.agg #[.bool s, .slice p n c, .bool s', .slice p' n' c'], .int .i64 m])) w) : bodyPost Tryz.prog fn R .ret a w := by
  have h1 : a.tmps[t]?.getD undef = .pointer (some ⟨b, 0, none⟩) := by rw [← Array.getD_eq_getD_getElem?]; exact h
  have h3 : a.tmps[s0]?.getD undef = .int .i64 m := by rw [← Array.getD_eq_getD_getElem?]; exact h2
  obtain ⟨c0, c1, c2, c3⟩ := hb.c4
  refine bodyPost_ret (v := .tuple #[.agg #[.bool s, .slice p n c, .bool s', .slice p' n' c'], .int .i64 m]) ?_ hd hR
  simp [results, hr, go_sem, h1, h3, c0, c1, c2, c3]

set_option maxRecDepth 100000 in
set_option maxHeartbeats 4000000 in
theorem Make_own {w : World} {u v : Value} {k k' : Nat} {P Q : Int} (h : OkAt w u k P) (h' : OkAt w v k' Q) (hk : k ≤ 1000000) (hk' : k' ≤ 1000000) (hQ : Q ≠ 0) :
    Calls Tryz.prog 52 #[u, v] w fun e w' => FrTupOwn w.heap.size w' e (max k k') (Rat.divInt P Q) ∧ Below w.heap.size w w' := by
  have HK : Hid (k ≤ 1000000 ∧ k' ≤ 1000000 ∧ Q ≠ 0) := ⟨hk, hk', hQ⟩
  have HC : Hid (cmpI Q 0 = 1 ∨ cmpI Q 0 = -1) := by
    unfold cmpI
    by_cases hn : Q < 0
    · exact .inr (if_pos hn)
    · refine .inl ?_
      rw [if_neg hn, if_pos (by omega)]
  obtain ⟨s, a, n, c, rfl, -⟩ := h.shape
  obtain ⟨s', a', n', c', rfl, -⟩ := h'.shape
  obtain ⟨W0, e0, n1, n2, n4, hb0⟩ := box_red w (.bool s) (.slice a n c) (.bool s') (.slice a' n' c')
  have N1 := n1.keep
  have N2 := n2.keep
  have N4 := n4.keep
  have HA := (h.below hb0).keep
  have HB := (h'.below hb0).keep
  have B0 := Lib.hid hb0
  obtain ⟨c0, c1, -, -⟩ := n1.c2
  clear n1 n2 n4 hb0 h h' hk hk' hQ
  go_enter Tryz.func52, Tryz.ntmps52
  go_wp2_with fail
  clear e0
  refine (Check_num (HA.out _ (Below.refl _ _))).mono ?_
  rintro e w1 ⟨rfl, hb1⟩
  obtain ⟨d0, d1, -, -⟩ := (N2.out _ hb1).c2
  have B1 := Lib.hid hb1
  clear hb1 c0 c1
  go_wp2_with fail
  refine (Check_num (HB.out _ B1.out)).mono ?_
  rintro e w2 ⟨rfl, hb2⟩
  have B2 := Lib.hid (Below.step B1.out hb2)
  obtain ⟨c0, c1, -, -⟩ := (N2.out _ B2.out).c2
  clear hb2 d0 d1
  go_wp2_with fail
  have key : ∀ r, cmpI Q 0 = r → (r == 0) = false → True := fun _ _ _ => trivial
  clear key
  rcases HC.out with hr | hr
  all_goals
    refine (Sign_num (HB.out _ B2.out).num _ hr).mono ?_
    rintro e w3 ⟨rfl, hb3⟩
    have B3 := Lib.hid (Below.step B2.out hb3)
    obtain ⟨d0, d1, -, -⟩ := (N1.out _ B3.out).c2
    obtain ⟨d2, d3, -, -⟩ := (N2.out _ B3.out).c2
    clear hb3 c0 c1 hr
    go_wp2_with fail
    refine (reduced_num (HA.out _ B3.out) (HB.out _ B3.out) HK.out.1 HK.out.2.1 HK.out.2.2).mono ?_
    rintro e w4 ⟨⟨u, rfl, hu⟩, hb4⟩
    have HU := Lib.hid hu
    obtain ⟨s1, p1, n1, j1, s2, p2, n2, j2, rfl, -⟩ := hu.split
    have B4 := Lib.hid (Below.step B3.out hb4)
    clear hu hb4 d0 d1 d2 d3
    go_wp2_with fail
    refine (copied_own HU.out (by have := HK.out; omega)).mono ?_
    rintro e w5 ⟨⟨s3, p3, l3, j3, s4, p4, l4, j4, rfl, o3, o4, ap, h5, q3, q4⟩, hb5⟩
    have HU := Lib.hid h5
    have O3 := Lib.hid o3
    have O4 := Lib.hid o4
    have AP := Lib.hid ap
    have Q34 : Hid (l3.length ≤ max k k' ∧ l4.length ≤ max k k') := ⟨q3, q4⟩
    have IZ : Hid (w.heap.size + 1 + 1 < w4.heap.size) := (N4.out _ B4.out).lt
    have B5 := Lib.hid (Below.step B4.out hb5)
    have hN := N4.out _ B5.out
    have N := Lib.hid hN
    obtain ⟨g0, g1, g2, g3⟩ := hN.c4
    obtain ⟨f0, f1, f2, f3⟩ := hN.f4
    clear h5 hN hb5 o3 o4 ap q3 q4
    go_wp2_with fail
    obtain ⟨W', e, hst, hbx⟩ := N.out.store (ys := [.bool s3, .slice p3 l3.length j3, .bool s4, .slice p4 l4.length j4]) rfl rfl
    have k3 : OwnL w4.heap.size W' (.slice p3 l3.length j3) l3 := by rw [← e]; exact OwnL.setAll IZ.out _ _ _ O3.out
    have k4 : OwnL w4.heap.size W' (.slice p4 l4.length j4) l4 := by rw [← e]; exact OwnL.setAll IZ.out _ _ _ O4.out
    have iz := IZ.out
    simp only [setAll] at e
    rw [e]
    exact ret_frn (t := 4) (s0 := 5) rfl rfl rfl rfl hbx ⟨⟨s3, p3, l3, j3, s4, p4, l4, j4, rfl, k3.mono (by omega), k4.mono (by omega), AP.out, HU.out.store hst, Q34.out.1, Q34.out.2⟩, hst.below w (by omega) (Below.step B0.out B5.out)⟩

theorem Make_num {w : World} {u v : Value} {k k' : Nat} {P Q : Int} (h : OkAt w u k P) (h' : OkAt w v k' Q) (hk : k ≤ 1000000) (hk' : k' ≤ 1000000) (hQ : Q ≠ 0) :
    Calls Tryz.prog 52 #[u, v] w fun e w' => FrTup w' e (max k k') (Rat.divInt P Q) ∧ Below w.heap.size w w' := by
  refine (Make_own h h' hk hk' hQ).mono ?_
  rintro e w' ⟨⟨s3, p3, l3, j3, s4, p4, l4, j4, rfl, -, -, -, h5, -⟩, h6⟩
  exact ⟨⟨_, rfl, h5⟩, h6⟩

set_option maxRecDepth 100000 in
set_option maxHeartbeats 4000000 in
theorem Make_zero {w : World} {u v : Value} {k k' : Nat} {P : Int} (h : OkAt w u k P) (h' : OkAt w v k' 0) :
    Calls Tryz.prog 52 #[u, v] w fun e w' => e = .returned (.tuple #[frNone, .int .i64 6]) ∧ Below w.heap.size w w' := by
  obtain ⟨s, a, n, c, rfl, -⟩ := h.shape
  obtain ⟨s', a', n', c', rfl, -⟩ := h'.shape
  obtain ⟨W0, e0, n1, n2, n4, hb0⟩ := box_red w (.bool s) (.slice a n c) (.bool s') (.slice a' n' c')
  have N1 := n1.keep
  have N2 := n2.keep
  have N4 := n4.keep
  have HA := (h.below hb0).keep
  have HB := (h'.below hb0).keep
  have B0 := Lib.hid hb0
  obtain ⟨c0, c1, -, -⟩ := n1.c2
  clear n1 n2 n4 hb0 h h'
  go_enter Tryz.func52, Tryz.ntmps52
  go_wp2_with fail
  clear e0
  refine (Check_num (HA.out _ (Below.refl _ _))).mono ?_
  rintro e w1 ⟨rfl, hb1⟩
  obtain ⟨d0, d1, -, -⟩ := (N2.out _ hb1).c2
  have B1 := Lib.hid hb1
  clear hb1 c0 c1
  go_wp2_with fail
  refine (Check_num (HB.out _ B1.out)).mono ?_
  rintro e w2 ⟨rfl, hb2⟩
  have B2 := Lib.hid (Below.step B1.out hb2)
  obtain ⟨c0, c1, -, -⟩ := (N2.out _ B2.out).c2
  clear hb2 d0 d1
  go_wp2_with fail
  refine (Sign_num (HB.out _ B2.out).num 0 rfl).mono ?_
  rintro e w3 ⟨rfl, hb3⟩
  have B3 := Lib.hid (Below.step B2.out hb3)
  have hN := N4.out _ B3.out
  have N := Lib.hid hN
  obtain ⟨g0, g1, g2, g3⟩ := hN.c4
  obtain ⟨f0, f1, f2, f3⟩ := hN.f4
  clear hb3 c0 c1 hN
  go_wp2_with fail
  obtain ⟨W', e, hst, hbx⟩ := N.out.store (ys := [.bool false, .slice none 0 0, .bool false, .slice none 0 0]) rfl rfl
  simp only [setAll] at e
  rw [e]
  exact ret_frn (t := 4) (s0 := 5) rfl rfl rfl rfl hbx ⟨rfl, hst.below w (by omega) (Below.step B0.out B3.out)⟩

section
variable {d : Nat} {ty : TypeId} {pos : String} {af : Array Edge} {g : Option (Nat × Bool)}
theorem wp_assignc {K : Act → World → Prop} {Q : Exit → Act → World → Prop} {a : Act} {w : World} {c : Value} (h : K (a.put (some d) c) w) : Oper.wp Tryz.prog ⟨some d, .assign (.const c), ty, pos, af, g⟩ a w K Q := h
end

theorem rat_over {x y : Rat} : x * Rat.divInt y.den y.num = x / y := by rw [Rat.div_def, Rat.inv_def]

set_option maxRecDepth 100000 in
set_option maxHeartbeats 4000000 in
theorem DivF_ok {w : World} {u v : Value} {k k' : Nat} {x y : Rat} (h : FrOk w u k x) (h' : FrOk w v k' y) (hk : k ≤ 1000000) (hk' : k' ≤ 1000000) (hy : y ≠ 0) :
    Calls Tryz.prog 40 #[u, v] w fun e w' => FrTup w' e (k + k') (x / y) ∧ Below w.heap.size w w' := by
  have hnum : y.num ≠ 0 := fun e => hy (Rat.num_eq_zero.1 e)
  have HK : Hid (k ≤ 1000000 ∧ k' ≤ 1000000 ∧ max k' k' ≤ 1000000) := ⟨hk, hk', by omega⟩
  have HD : Hid (y.num ≠ 0 ∧ ((Int.gcd (y.den : Int) y.num : Nat) : Int) = 1) := ⟨hnum, by rw [Int.gcd_comm, rat_reduced]; rfl⟩
  have HC : Hid (cmpI y.num 0 = 1 ∨ cmpI y.num 0 = -1) := by
    unfold cmpI
    by_cases hn : y.num < 0
    · exact .inr (if_pos hn)
    · refine .inl ?_
      rw [if_neg hn, if_pos (by omega)]
  obtain ⟨s, a, n, c, s', a', n', c', rfl, -⟩ := h.split
  obtain ⟨t, r, m, d, t', r', m', d', rfl, g3, g4⟩ := h'.split
  obtain ⟨W0, e0, n1, n2, n4, hb0⟩ := box_frs w (.bool s) (.slice a n c) (.bool s') (.slice a' n' c') (.bool t) (.slice r m d) (.bool t') (.slice r' m' d')
  have N1 := n1.keep
  have N2 := n2.keep
  have N4 := n4.keep
  have HA := (h.below hb0).keep
  have HB := (h'.below hb0).keep
  have HB1 := (g3.below hb0).keep
  have HB2 := (g4.below hb0).keep
  have B0 := Lib.hid hb0
  obtain ⟨c0, c1, c2, c3⟩ := n1.c4
  clear n1 n2 n4 hb0 h h' hk hk' g3 g4 hnum hy
  go_enter Tryz.func40, Tryz.ntmps40
  go_wp2_with fail
  clear e0
  refine (CheckF_ok (HA.out _ (Below.refl _ _)) HK.out.1).mono ?_
  rintro e w1 ⟨rfl, hb1⟩
  have B1 := Lib.hid hb1
  obtain ⟨d0, d1, d2, d3⟩ := (N2.out _ hb1).c4
  clear hb1 c0 c1 c2 c3
  go_wp2_with fail
  refine (CheckF_ok (HB.out _ B1.out) HK.out.2.1).mono ?_
  rintro e w2 ⟨rfl, hb2⟩
  have B2 := Lib.hid (Below.step B1.out hb2)
  obtain ⟨c0, c1, c2, c3⟩ := (N2.out _ B2.out).c4
  clear hb2 d0 d1 d2 d3
  go_wp2_with fail
  rcases HC.out with hr | hr
  all_goals
    refine (Sign_num (HB1.out _ B2.out).num _ hr).mono ?_
    rintro e w3 ⟨rfl, hb3⟩
    have B3 := Lib.hid (Below.step B2.out hb3)
    have N1 := (N1.out _ B3.out).keep
    have N2 := (N2.out _ B3.out).keep
    have N4 := (N4.out _ B3.out).keep
    have HA := (HA.out _ B3.out).keep
    have HB1 := (HB1.out _ B3.out).keep
    have HB2 := (HB2.out _ B3.out).keep
    clear hb3 c0 c1 c2 c3 hr
    go_upto_region 5 with fail
    rename_i K5 hK5
    refine wp_region_tail []
      [(2, IsV (.pointer (some ⟨w.heap.size, 0, none⟩))), (3, IsV (.pointer (some ⟨(w.heap.size + 1), 0, none⟩))), (4, IsV (.pointer (some ⟨w.heap.size + 1 + 1, 0, none⟩)))]
      [(20, IsF k (x)), (21, IsV (.pointer (some ⟨(w.heap.size + 1), 2, none⟩))), (22, IsO k' ((y.den : Int))), (23, IsV (.pointer (some ⟨(w.heap.size + 1), 0, none⟩))), (24, IsO k' (y.num)), (25, IsO 3 (1)), (26, IsF (max k' k') (Rat.divInt y.den y.num)), (27, IsF (k + (max k' k')) ((x * Rat.divInt y.den y.num)))]
      [] 28 8 (by kernel_rfl) rfl (by kernel_rfl) (by kernel_rfl) (by kernel_rfl) (by kernel_rfl) ⟨rfl, rfl, rfl, trivial⟩ ⟨IsV.grows _ , IsV.grows _ , IsV.grows _ , IsF.grows _ _ , IsV.grows _ , IsO.grows _ _ , IsV.grows _ , IsO.grows _ _ , IsO.grows _ _ , IsF.grows _ _ , IsF.grows _ _ , trivial⟩ ?_ (fun d _ _ _ _ h => by cases d <;> exact h) ?_ ?_
    · refine AllStep2.step rfl rfl (step_loadT (fun _ _ h => h) (fun W hb => run_load4 rfl rfl rfl (N1.out W hb).at0 (N1.out W hb).at1 (N1.out W hb).at2 (N1.out W hb).at3) (fun w hb => HA.out w hb)) ?_
      refine AllStep2.step rfl rfl (step_fieldT (fun _ _ h => h) (fun _ => run_low) (fun _ => rfl)) ?_
      refine AllStep2.step rfl rfl (step_loadT (fun _ _ h => h) (fun W hb => run_load2 rfl (N2.out W hb).at2 (N2.out W hb).at3) (fun w hb => HB2.out w hb)) ?_
      refine AllStep2.step rfl rfl (step_fieldT (fun _ _ h => h) (fun _ => run_top) (fun _ => rfl)) ?_
      refine AllStep2.step rfl rfl (step_loadT (fun _ _ h => h) (fun W hb => run_load2 rfl (N2.out W hb).at0 (N2.out W hb).at1) (fun w hb => HB1.out w hb)) ?_
      refine AllStep2.step rfl rfl (step_callk (Plain.of Tryz.func29 rfl rfl) (fun w _ => Of_num 1 _ (by decide) (by decide))) ?_
      refine AllStep2.step rfl rfl (step_call3 (Plain.of Tryz.func137 rfl rfl) (fun _ _ _ _ _ hu hv ht => lowest_num hu hv (by rw [HD.out.2]; exact ht) HK.out.2.1 HK.out.2.1 (by decide) HD.out.1)) ?_
      refine AllStep2.step rfl rfl (step_call2 (Plain.of Tryz.func135 rfl rfl) (fun _ _ _ _ hu hv => product_fr hu hv HK.out.1 HK.out.2.2)) ?_
      exact AllStep2.nil
    · intro t ht v w hk
      simp only [List.mem_cons, List.not_mem_nil, or_false] at ht
    intro a5 w5 hb5 hs5 hd5 hk5 _
    have x27 : FrOk w5 (a5.eval (.tmp 27)) (k + max k' k') (x * Rat.divInt y.den y.num) := hk5 27 (by kernel_rfl)
    rw [rat_over] at x27
    have h4 : a5.eval (.tmp 4) = .pointer (some ⟨w.heap.size + 1 + 1, 0, none⟩) := hk5 4 (by kernel_rfl)
    obtain ⟨s1, p1, n1, j1, s2, p2, n2, j2, e27, -⟩ := x27.split
    have x27' : FrOk w5 (.agg #[.bool s1, .slice p1 n1 j1, .bool s2, .slice p2 n2 j2]) (k + max k' k') (x / y) := by rw [← e27]; exact x27
    have N := N4.out _ hb5
    obtain ⟨W', e, hst, hbx⟩ := N.store (ys := [.bool s1, .slice p1 n1 j1, .bool s2, .slice p2 n2 j2]) rfl rfl
    refine wpOps_step (i := 8) (rest := [9]) rfl rfl ?_
    refine wp_store_T h4 e27 (run_store4 N) ?_
    rw [e]
    refine wpOps_step (i := 9) (rest := []) rfl rfl ?_
    refine wp_assignc ?_
    refine hK5 _ _ ?_
    refine wp_ret ?_
    refine ret_frn (t := 4) (s0 := 5) rfl hd5 ?_ ?_ hbx ⟨⟨_, rfl, (x27'.up (by omega)).store hst⟩, hst.below w (by omega) (Below.step B0.out (Below.step B3.out hb5))⟩
    · rw [eval_put' (by decide)]
      exact h4
    · rw [eval_put (by rw [hs5]; decide), if_pos rfl]

set_option maxRecDepth 100000 in
set_option maxHeartbeats 4000000 in
theorem DivF_zero {w : World} {u v : Value} {k k' : Nat} {x : Rat} (h : FrOk w u k x) (h' : FrOk w v k' 0) (hk : k ≤ 1000000) (hk' : k' ≤ 1000000) :
    Calls Tryz.prog 40 #[u, v] w fun e w' => e = .returned (.tuple #[frNone, .int .i64 6]) ∧ Below w.heap.size w w' := by
  have HK : Hid (k ≤ 1000000 ∧ k' ≤ 1000000) := ⟨hk, hk'⟩
  obtain ⟨s, a, n, c, s', a', n', c', rfl, -⟩ := h.split
  obtain ⟨t, r, m, d, t', r', m', d', rfl, g3, -⟩ := h'.split
  obtain ⟨W0, e0, n1, n2, n4, hb0⟩ := box_frs w (.bool s) (.slice a n c) (.bool s') (.slice a' n' c') (.bool t) (.slice r m d) (.bool t') (.slice r' m' d')
  have N1 := n1.keep
  have N2 := n2.keep
  have N4 := n4.keep
  have HA := (h.below hb0).keep
  have HB := (h'.below hb0).keep
  have HB1 := (g3.below hb0).keep
  have B0 := Lib.hid hb0
  obtain ⟨c0, c1, c2, c3⟩ := n1.c4
  clear n1 n2 n4 hb0 h h' hk hk' g3
  go_enter Tryz.func40, Tryz.ntmps40
  go_wp2_with fail
  clear e0
  refine (CheckF_ok (HA.out _ (Below.refl _ _)) HK.out.1).mono ?_
  rintro e w1 ⟨rfl, hb1⟩
  have B1 := Lib.hid hb1
  obtain ⟨d0, d1, d2, d3⟩ := (N2.out _ hb1).c4
  clear hb1 c0 c1 c2 c3
  go_wp2_with fail
  refine (CheckF_ok (HB.out _ B1.out) HK.out.2).mono ?_
  rintro e w2 ⟨rfl, hb2⟩
  have B2 := Lib.hid (Below.step B1.out hb2)
  obtain ⟨c0, c1, c2, c3⟩ := (N2.out _ B2.out).c4
  clear hb2 d0 d1 d2 d3
  go_wp2_with fail
  refine (Sign_num (HB1.out _ B2.out).num 0 rfl).mono ?_
  rintro e w3 ⟨rfl, hb3⟩
  have B3 := Lib.hid (Below.step B2.out hb3)
  have hN := N4.out _ B3.out
  have N := Lib.hid hN
  obtain ⟨g0, g1, g2, g3⟩ := hN.c4
  obtain ⟨f0, f1, f2, f3⟩ := hN.f4
  clear hb3 c0 c1 c2 c3 hN
  go_wp2_with fail
  obtain ⟨W', e, hst, hbx⟩ := N.out.store (ys := [.bool false, .slice none 0 0, .bool false, .slice none 0 0]) rfl rfl
  simp only [setAll] at e
  rw [e]
  exact ret_frn (t := 4) (s0 := 5) rfl rfl rfl rfl hbx ⟨rfl, hst.below w (by omega) (Below.step B0.out B3.out)⟩

end Go.Proofs.YtgpoljbccimkjaaGreatDoor

namespace Go.Proofs.YtgpoljbccimkjaaGreatDoor
set_option linter.unusedSimpArgs false
set_option linter.unusedVariables false
open Go.RowKit Go.Shelf

theorem field_top (s s' : Bool) (a a' : Option Addr) (n c n' c' : Nat) (W : World) : (Instr.field 58 (.agg #[.bool s, .slice a n c, .bool s', .slice a' n' c']) 0).run Tryz.prog W = .ok (.agg #[.bool s, .slice a n c]) W := by kernel_rfl
theorem field_low (s s' : Bool) (a a' : Option Addr) (n c n' c' : Nat) (W : World) : (Instr.field 58 (.agg #[.bool s, .slice a n c, .bool s', .slice a' n' c']) 1).run Tryz.prog W = .ok (.agg #[.bool s', .slice a' n' c']) W := by kernel_rfl

set_option maxRecDepth 100000 in
set_option maxHeartbeats 1000000 in
theorem SignF_at {w : World} {u : Value} {k : Nat} {x : Rat} (h : FrAt w u k x) (h1 : 1 ≤ k) (hk : k ≤ 1000000) (r : Int) (hr : cmpI x.num 0 = r) :
    Calls Tryz.prog 44 #[u] w fun e w' => e = .returned (.int .i64 r) ∧ Below w.heap.size w w' := by
  have HA := h.keep
  have HK : Hid (1 ≤ k ∧ k ≤ 1000000) := ⟨h1, hk⟩
  have HR := Lib.hid hr
  obtain ⟨s, v0, l, s', v', l', rfl, g1, g2, -⟩ := h
  obtain ⟨a, c, rfl, -⟩ := g1
  obtain ⟨a', c', rfl, -⟩ := g2
  have ht := field_top
  clear h1 hk hr
  go_enter Tryz.func44, Tryz.ntmps44
  go_wp2_with fail
  refine (orNoughtF_at (HA.out _ (by repeat (first | exact Below.refl _ _ | with_reducible refine Below.drew ?_ | with_reducible refine below_drewN ?_ _ | with_reducible refine Below.setCell ?_ (by first | (simp; done) | (simp; omega) | omega) _ | with_reducible refine Below.alloc ?_ (by first | (simp; done) | (simp; omega) | omega) _))) HK.out.1 HK.out.2).mono ?_
  rintro e w1 ⟨⟨u, rfl, hu⟩, hb1⟩
  obtain ⟨s1, p1, n1, j1, s2, p2, n2, j2, rfl, g1, -⟩ := hu.split
  have G1 := Lib.hid g1
  clear hu g1
  go_wp2_with fail
  refine (Sign_num G1.out.num _ HR.out).mono ?_
  rintro e w2 ⟨rfl, hb2⟩
  go_wp2_with fail
  go_ret
  exact ⟨rfl, Below.step (by repeat (first | exact Below.refl _ _ | with_reducible refine Below.drew ?_ | with_reducible refine below_drewN ?_ _ | with_reducible refine Below.setCell ?_ (by first | (simp; done) | (simp; omega) | omega) _ | with_reducible refine Below.alloc ?_ (by first | (simp; done) | (simp; omega) | omega) _)) (Below.step hb1 hb2)⟩

set_option maxRecDepth 100000 in
set_option maxHeartbeats 1000000 in
theorem WholeF_at {w : World} {u : Value} {k : Nat} {x : Rat} (h : FrAt w u k x) (h1 : 1 ≤ k) (hk : k ≤ 1000000) (r : Bool) (hr : decide ((x.den : Int) = 1) = r) :
    Calls Tryz.prog 60 #[u] w fun e w' => e = .returned (.bool r) ∧ Below w.heap.size w w' := by
  have HA := h.keep
  have HK : Hid (1 ≤ k ∧ k ≤ 1000000) := ⟨h1, hk⟩
  have HR := Lib.hid hr
  obtain ⟨s, v0, l, s', v', l', rfl, g1, g2, -⟩ := h
  obtain ⟨a, c, rfl, -⟩ := g1
  obtain ⟨a', c', rfl, -⟩ := g2
  have ht := field_low
  clear h1 hk hr
  go_enter Tryz.func60, Tryz.ntmps60
  go_wp2_with fail
  refine (orNoughtF_at (HA.out _ (by repeat (first | exact Below.refl _ _ | with_reducible refine Below.drew ?_ | with_reducible refine below_drewN ?_ _ | with_reducible refine Below.setCell ?_ (by first | (simp; done) | (simp; omega) | omega) _ | with_reducible refine Below.alloc ?_ (by first | (simp; done) | (simp; omega) | omega) _))) HK.out.1 HK.out.2).mono ?_
  rintro e w1 ⟨⟨u, rfl, hu⟩, hb1⟩
  obtain ⟨s1, p1, n1, j1, s2, p2, n2, j2, rfl, -, g1⟩ := hu.split
  have G1 := Lib.hid g1
  clear hu g1
  go_wp2_with fail
  refine (isOne_num G1.out _ HR.out).mono ?_
  rintro e w2 ⟨rfl, hb2⟩
  go_wp2_with fail
  go_ret
  exact ⟨rfl, Below.step (by repeat (first | exact Below.refl _ _ | with_reducible refine Below.drew ?_ | with_reducible refine below_drewN ?_ _ | with_reducible refine Below.setCell ?_ (by first | (simp; done) | (simp; omega) | omega) _ | with_reducible refine Below.alloc ?_ (by first | (simp; done) | (simp; omega) | omega) _)) (Below.step hb1 hb2)⟩

theorem rat_same {p q : Rat} : p = q ↔ p.num = q.num ∧ (p.den : Int) = (q.den : Int) := by
  constructor
  · rintro rfl
    exact ⟨rfl, rfl⟩
  · rintro ⟨h1, h2⟩
    exact Rat.ext h1 (by omega)

set_option maxHeartbeats 2000000 in
theorem SameF_ok {w : World} {u v : Value} {k k' : Nat} {x y : Rat} (h : FrOk w u k x) (h' : FrOk w v k' y) (r : Bool) (hr : decide (x = y) = r) :
    Calls Tryz.prog 46 #[u, v] w fun e w' => e = .returned (.bool r) ∧ Below w.heap.size w w' := by
  obtain ⟨s, a, n, c, s', a', n', c', rfl, g1, g2⟩ := h.split
  obtain ⟨t, p, m, d, t', p', m', d', rfl, g3, g4⟩ := h'.split
  obtain ⟨W0, e0, n1, n2, hb0⟩ := box_frs2 w (.bool s) (.slice a n c) (.bool s') (.slice a' n' c') (.bool t) (.slice p m d) (.bool t') (.slice p' m' d')
  have N1 := n1.keep
  have N2 := n2.keep
  have G1 := (g1.below hb0).keep
  have G2 := (g2.below hb0).keep
  have G3 := (g3.below hb0).keep
  have G4 := (g4.below hb0).keep
  have B0 := Lib.hid hb0
  obtain ⟨c0, c1, -, -⟩ := n1.c4
  obtain ⟨c2, c3, -, -⟩ := n2.c4
  clear n1 n2 g1 g2 g3 g4 hb0 h h'
  by_cases h1 : x.num = y.num
  · have HR : Hid (decide ((x.den : Int) = (y.den : Int)) = r) := by
      rw [← hr, Bool.eq_iff_iff, decide_eq_true_iff, decide_eq_true_iff, rat_same]
      exact ⟨fun h => ⟨h1, h⟩, fun h => h.2⟩
    have H1 := Lib.hid h1
    clear hr h1
    go_enter Tryz.func46, Tryz.ntmps46
    go_wp2_with fail
    clear e0
    refine (Same_num (G1.out _ (Below.refl _ _)) (G3.out _ (Below.refl _ _)) true (decide_eq_true H1.out)).mono ?_
    rintro e w1 ⟨rfl, hb1⟩
    obtain ⟨-, -, d2, d3⟩ := (N1.out _ hb1).c4
    obtain ⟨-, -, d4, d5⟩ := (N2.out _ hb1).c4
    have B1 := Lib.hid hb1
    clear hb1 c0 c1 c2 c3
    go_wp2_with fail
    refine (Same_num (G2.out _ B1.out) (G4.out _ B1.out) _ HR.out).mono ?_
    rintro e w2 ⟨rfl, hb2⟩
    go_wp2_with fail
    go_ret
    exact ⟨rfl, Below.step B0.out (Below.step B1.out hb2)⟩
  · have hr2 : r = false := by
      rw [← hr]
      exact decide_eq_false (fun e => h1 (rat_same.1 e).1)
    subst hr2
    have H1 := Lib.hid h1
    clear hr h1
    go_enter Tryz.func46, Tryz.ntmps46
    go_wp2_with fail
    clear e0
    refine (Same_num (G1.out _ (Below.refl _ _)) (G3.out _ (Below.refl _ _)) false (decide_eq_false H1.out)).mono ?_
    rintro e w1 ⟨rfl, hb1⟩
    go_wp2_with fail
    go_ret
    exact ⟨rfl, Below.step B0.out hb1⟩

set_option maxHeartbeats 1000000 in
theorem same_ok {w : World} {u v : Value} {k k' : Nat} {x y : Rat} (h : FrOk w u k x) (h' : FrOk w v k' y) (r : Bool) (hr : decide (x = y) = r) :
    Calls Tryz.prog 65 #[u, v] w fun e w' => e = .returned (.bool r) ∧ Below w.heap.size w w' := by
  have HA := h.keep
  have HB := h'.keep
  have HR := Lib.hid hr
  obtain ⟨s, a, n, c, s', a', n', c', rfl, -⟩ := h.split
  obtain ⟨t, p, m, d, t', p', m', d', rfl, -⟩ := h'.split
  clear h h' hr
  go_enter Tryz.func65, Tryz.ntmps65
  go_wp2_with fail
  refine (SameF_ok (HA.out _ (by repeat (first | exact Below.refl _ _ | with_reducible refine Below.drew ?_ | with_reducible refine below_drewN ?_ _ | with_reducible refine Below.setCell ?_ (by first | (simp; done) | (simp; omega) | omega) _ | with_reducible refine Below.alloc ?_ (by first | (simp; done) | (simp; omega) | omega) _))) (HB.out _ (by repeat (first | exact Below.refl _ _ | with_reducible refine Below.drew ?_ | with_reducible refine below_drewN ?_ _ | with_reducible refine Below.setCell ?_ (by first | (simp; done) | (simp; omega) | omega) _ | with_reducible refine Below.alloc ?_ (by first | (simp; done) | (simp; omega) | omega) _))) _ HR.out).mono ?_
  rintro e w1 ⟨rfl, hb1⟩
  go_wp2_with fail
  go_ret
  exact ⟨rfl, Below.step (by repeat (first | exact Below.refl _ _ | with_reducible refine Below.drew ?_ | with_reducible refine below_drewN ?_ _ | with_reducible refine Below.setCell ?_ (by first | (simp; done) | (simp; omega) | omega) _ | with_reducible refine Below.alloc ?_ (by first | (simp; done) | (simp; omega) | omega) _)) hb1⟩

set_option maxRecDepth 100000 in
set_option maxHeartbeats 2000000 in
theorem of_num {w : World} {n d : Int} (h1 : -9223372036854775808 ≤ n ∧ n ≤ 9223372036854775807) (h2 : -9223372036854775808 ≤ d ∧ d ≤ 9223372036854775807) (hd : d ≠ 0) :
    Calls Tryz.prog 66 #[.int .i64 n, .int .i64 d] w fun e w' => FrAns w' e 3 (Rat.divInt n d) ∧ Below w.heap.size w w' := by
  have HN := Lib.hid h1
  have HD := Lib.hid h2
  have HZ := Lib.hid hd
  obtain ⟨W0, e0, n1, hb0, -⟩ := box_fr w
  have N1 := n1.keep
  have B0 := Lib.hid hb0
  clear n1 hb0 h1 h2 hd
  go_enter Tryz.func66, Tryz.ntmps66
  go_wp2_with fail
  clear e0
  refine (Of_num n _ HN.out.1 HN.out.2).mono ?_
  rintro e w1 ⟨⟨u1, rfl, h1⟩, hb1⟩
  have K1 := h1.keep
  obtain ⟨s1, a1, n1, c1, rfl, -⟩ := h1.shape
  have B1 := Lib.hid hb1
  clear h1 hb1
  go_wp2_with fail
  refine (Of_num d _ HD.out.1 HD.out.2).mono ?_
  rintro e w2 ⟨⟨u2, rfl, h2⟩, hb2⟩
  have K2 := h2.keep
  have K1 := Lib.hid (K1.out _ hb2)
  obtain ⟨s2, a2, n2, c2, rfl, -⟩ := h2.shape
  have B2 := Lib.hid (Below.step B1.out hb2)
  clear h2 hb2
  go_wp2_with fail
  refine (Make_num K1.out (K2.out _ (Below.refl _ _)) (by decide) (by decide) HZ.out).mono ?_
  rintro e w3 ⟨⟨u3, rfl, h3⟩, hb3⟩
  have K3 := h3.keep
  obtain ⟨s3, a3, n3, c3, s4, a4, n4, c4, rfl, -⟩ := h3.split
  have B3 := Lib.hid (Below.step B2.out hb3)
  obtain ⟨W4, e4, b4⟩ : ∃ W4, w3.alloc (.cells #[.bool s3, .slice a3 n3 c3, .bool s4, .slice a4 n4 c4] 58) = W4 ∧ Below w3.heap.size w3 W4 := ⟨_, rfl, (Below.refl _ _).alloc (Nat.le_refl _) _⟩
  have m4 : BoxV W4 w3.heap.size [.bool s3, .slice a3 n3 c3, .bool s4, .slice a4 n4 c4] := by
    rw [← e4]
    exact BoxV.new _ _ _
  obtain ⟨d0, d1, d2, d3⟩ := m4.c4
  have hN := N1.out _ (Below.step B3.out b4)
  have N := Lib.hid hN
  obtain ⟨g0, g1, g2, g3⟩ := hN.c4
  obtain ⟨f0, f1, f2, f3⟩ := hN.f4
  have B4 := Lib.hid b4
  clear h3 hb3 hN b4 m4
  go_wp2_with fail
  clear e4
  obtain ⟨W', e, hst, hbx⟩ := N.out.store (ys := [.bool s3, .slice a3 n3 c3, .bool s4, .slice a4 n4 c4]) rfl rfl
  simp only [setAll] at e
  rw [e]
  exact ret_fr (t := 4) rfl rfl rfl hbx ⟨⟨_, rfl, (K3.out _ B4.out).store hst⟩, hst.below w (by omega) (Below.step B0.out (Below.step B3.out B4.out))⟩

set_option maxHeartbeats 2000000 in
theorem greatF_any (most : Nat) (b : Nat) (lens : List (Nat × Nat)) (w : World) (hn : lens.length ≤ 1000) (hm : most ≤ 1000000) (hc : ∀ i n n', lens[i]? = some (n, n') → n ≤ 9223372036854775807 ∧ n' ≤ 9223372036854775807 ∧ (∃ a c, w.cell? ⟨b, i * 4 + 1, none⟩ = some (.slice a n c)) ∧ ∃ a c, w.cell? ⟨b, i * 4 + 2 + 1, none⟩ = some (.slice a n' c)) :
    Calls Tryz.prog 35 #[.int .i64 most, .slice (some ⟨b, 0, none⟩) lens.length lens.length] w fun e w' => e = .returned (.bool (lens.any fun p => decide (most < p.1) || decide (most < p.2))) ∧ w = w' := by
  have HC := Lib.hid hc
  clear hc
  go_enter Tryz.func35, Tryz.ntmps35
  go_wp2_with fail
  go_loop [5] (fun i => ∃ k : Nat, k ≤ lens.length ∧ i = .int .i64 k ∧ (lens.take k).any (fun p => decide (most < p.1) || decide (most < p.2)) = false) (fun i => lens.length - (intOf i).toNat)
  case atStart => exact ⟨0, Nat.zero_le _, rfl, by simp⟩
  case round =>
    obtain ⟨k, hk, rfl, ht⟩ := hrel
    have HT := Lib.hid ht
    clear ht
    by_cases hlt : k < lens.length
    · obtain ⟨n, n', hp⟩ : ∃ n n', lens[k]? = some (n, n') := ⟨lens[k].1, lens[k].2, List.getElem?_eq_getElem hlt⟩
      obtain ⟨hb, hb', ⟨a, c, hcell⟩, ⟨a', c', hcell'⟩⟩ := HC.out k n n' hp
      have HP := Lib.hid hp
      clear hp
      by_cases hg : most < n
      · have hgI : (most : Int) < (n : Int) := by omega
        have HG := Lib.hid hg
        clear hg
        go_wp2_with fail
        go_ret
        exact ⟨ret_bool (by
          symm
          rw [List.any_eq_true]
          exact ⟨_, List.mem_of_getElem? HP.out, by simp [HG.out]⟩), rfl⟩
      · have hgI : (n : Int) ≤ (most : Int) := by omega
        have HG : Hid (¬ most < n) := hg
        clear hg
        by_cases hg : most < n'
        · have hgI' : (most : Int) < (n' : Int) := by omega
          have HG' := Lib.hid hg
          clear hg
          go_wp2_with fail
          go_ret
          exact ⟨ret_bool (by
            symm
            rw [List.any_eq_true]
            exact ⟨_, List.mem_of_getElem? HP.out, by simp [HG'.out]⟩), rfl⟩
        · have hgI' : (n' : Int) ≤ (most : Int) := by omega
          have HG' : Hid (¬ most < n') := hg
          clear hg
          go_wp2_with fail
          go_round
          case rel => exact ⟨k + 1, by omega, by go_num, by
            have e := HP.out
            rw [List.take_add_one, e, List.any_append, HT.out]
            simpa using ⟨Nat.le_of_not_lt HG.out, Nat.le_of_not_lt HG'.out⟩⟩
          case measure => simp [intOf]; omega
    · go_wp2_with fail
      go_ret
      exact ⟨ret_bool (by have := HT.out; rw [List.take_of_length_le (by omega)] at this; exact this.symm), rfl⟩

end Go.Proofs.YtgpoljbccimkjaaGreatDoor
