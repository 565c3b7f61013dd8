/- Walk: the law MonosGraded. -/
import Derived.Test.YtikbjjechhdclaaMLaws
namespace Go.Proofs.Ytikbjjechhdclaa
open Go.RowKit

theorem key_letter {o : Int} : keyM o ⟨0, 1, 0, 0⟩ < keyM o ⟨1, 0, 0, 0⟩ ∧ keyM o ⟨0, 0, 1, 0⟩ < keyM o ⟨0, 1, 0, 0⟩ ∧ keyM o ⟨0, 0, 0, 1⟩ < keyM o ⟨0, 0, 1, 0⟩ := by
  by_cases h1 : o = 1
  · subst h1; decide
  by_cases h2 : o = 2
  · subst h2; decide
  rw [keyM_else h1 h2, keyM_else h1 h2, keyM_else h1 h2, keyM_else h1 h2]
  decide
theorem letter_01 {o : Int} (h0 : 0 ≤ o) (h1 : o ≤ 255) (w : World) : Calls Try.prog 19 #[.int .u8 o, .agg #[.int .u16 1, .int .u16 0, .int .u16 0, .int .u16 0], .agg #[.int .u16 0, .int .u16 1, .int .u16 0, .int .u16 0]] w fun e w' => e = .returned (.int .i64 1) ∧ Below w.heap.size w w' :=
  Cmp_to (x := ⟨1, 0, 0, 0⟩) (y := ⟨0, 1, 0, 0⟩) h0 h1 (by decide) (by decide) _ (by obtain ⟨p, q, r⟩ := key_letter (o := o); exact sgn_pos (by omega)) w
theorem letter_10 {o : Int} (h0 : 0 ≤ o) (h1 : o ≤ 255) (w : World) : Calls Try.prog 19 #[.int .u8 o, .agg #[.int .u16 0, .int .u16 1, .int .u16 0, .int .u16 0], .agg #[.int .u16 1, .int .u16 0, .int .u16 0, .int .u16 0]] w fun e w' => e = .returned (.int .i64 (-1)) ∧ Below w.heap.size w w' :=
  Cmp_to (x := ⟨0, 1, 0, 0⟩) (y := ⟨1, 0, 0, 0⟩) h0 h1 (by decide) (by decide) _ (by obtain ⟨p, q, r⟩ := key_letter (o := o); exact sgn_neg (by omega)) w
theorem letter_02 {o : Int} (h0 : 0 ≤ o) (h1 : o ≤ 255) (w : World) : Calls Try.prog 19 #[.int .u8 o, .agg #[.int .u16 1, .int .u16 0, .int .u16 0, .int .u16 0], .agg #[.int .u16 0, .int .u16 0, .int .u16 1, .int .u16 0]] w fun e w' => e = .returned (.int .i64 1) ∧ Below w.heap.size w w' :=
  Cmp_to (x := ⟨1, 0, 0, 0⟩) (y := ⟨0, 0, 1, 0⟩) h0 h1 (by decide) (by decide) _ (by obtain ⟨p, q, r⟩ := key_letter (o := o); exact sgn_pos (by omega)) w
theorem letter_20 {o : Int} (h0 : 0 ≤ o) (h1 : o ≤ 255) (w : World) : Calls Try.prog 19 #[.int .u8 o, .agg #[.int .u16 0, .int .u16 0, .int .u16 1, .int .u16 0], .agg #[.int .u16 1, .int .u16 0, .int .u16 0, .int .u16 0]] w fun e w' => e = .returned (.int .i64 (-1)) ∧ Below w.heap.size w w' :=
  Cmp_to (x := ⟨0, 0, 1, 0⟩) (y := ⟨1, 0, 0, 0⟩) h0 h1 (by decide) (by decide) _ (by obtain ⟨p, q, r⟩ := key_letter (o := o); exact sgn_neg (by omega)) w
theorem letter_03 {o : Int} (h0 : 0 ≤ o) (h1 : o ≤ 255) (w : World) : Calls Try.prog 19 #[.int .u8 o, .agg #[.int .u16 1, .int .u16 0, .int .u16 0, .int .u16 0], .agg #[.int .u16 0, .int .u16 0, .int .u16 0, .int .u16 1]] w fun e w' => e = .returned (.int .i64 1) ∧ Below w.heap.size w w' :=
  Cmp_to (x := ⟨1, 0, 0, 0⟩) (y := ⟨0, 0, 0, 1⟩) h0 h1 (by decide) (by decide) _ (by obtain ⟨p, q, r⟩ := key_letter (o := o); exact sgn_pos (by omega)) w
theorem letter_30 {o : Int} (h0 : 0 ≤ o) (h1 : o ≤ 255) (w : World) : Calls Try.prog 19 #[.int .u8 o, .agg #[.int .u16 0, .int .u16 0, .int .u16 0, .int .u16 1], .agg #[.int .u16 1, .int .u16 0, .int .u16 0, .int .u16 0]] w fun e w' => e = .returned (.int .i64 (-1)) ∧ Below w.heap.size w w' :=
  Cmp_to (x := ⟨0, 0, 0, 1⟩) (y := ⟨1, 0, 0, 0⟩) h0 h1 (by decide) (by decide) _ (by obtain ⟨p, q, r⟩ := key_letter (o := o); exact sgn_neg (by omega)) w
theorem letter_12 {o : Int} (h0 : 0 ≤ o) (h1 : o ≤ 255) (w : World) : Calls Try.prog 19 #[.int .u8 o, .agg #[.int .u16 0, .int .u16 1, .int .u16 0, .int .u16 0], .agg #[.int .u16 0, .int .u16 0, .int .u16 1, .int .u16 0]] w fun e w' => e = .returned (.int .i64 1) ∧ Below w.heap.size w w' :=
  Cmp_to (x := ⟨0, 1, 0, 0⟩) (y := ⟨0, 0, 1, 0⟩) h0 h1 (by decide) (by decide) _ (by obtain ⟨p, q, r⟩ := key_letter (o := o); exact sgn_pos (by omega)) w
theorem letter_21 {o : Int} (h0 : 0 ≤ o) (h1 : o ≤ 255) (w : World) : Calls Try.prog 19 #[.int .u8 o, .agg #[.int .u16 0, .int .u16 0, .int .u16 1, .int .u16 0], .agg #[.int .u16 0, .int .u16 1, .int .u16 0, .int .u16 0]] w fun e w' => e = .returned (.int .i64 (-1)) ∧ Below w.heap.size w w' :=
  Cmp_to (x := ⟨0, 0, 1, 0⟩) (y := ⟨0, 1, 0, 0⟩) h0 h1 (by decide) (by decide) _ (by obtain ⟨p, q, r⟩ := key_letter (o := o); exact sgn_neg (by omega)) w
theorem letter_13 {o : Int} (h0 : 0 ≤ o) (h1 : o ≤ 255) (w : World) : Calls Try.prog 19 #[.int .u8 o, .agg #[.int .u16 0, .int .u16 1, .int .u16 0, .int .u16 0], .agg #[.int .u16 0, .int .u16 0, .int .u16 0, .int .u16 1]] w fun e w' => e = .returned (.int .i64 1) ∧ Below w.heap.size w w' :=
  Cmp_to (x := ⟨0, 1, 0, 0⟩) (y := ⟨0, 0, 0, 1⟩) h0 h1 (by decide) (by decide) _ (by obtain ⟨p, q, r⟩ := key_letter (o := o); exact sgn_pos (by omega)) w
theorem letter_31 {o : Int} (h0 : 0 ≤ o) (h1 : o ≤ 255) (w : World) : Calls Try.prog 19 #[.int .u8 o, .agg #[.int .u16 0, .int .u16 0, .int .u16 0, .int .u16 1], .agg #[.int .u16 0, .int .u16 1, .int .u16 0, .int .u16 0]] w fun e w' => e = .returned (.int .i64 (-1)) ∧ Below w.heap.size w w' :=
  Cmp_to (x := ⟨0, 0, 0, 1⟩) (y := ⟨0, 1, 0, 0⟩) h0 h1 (by decide) (by decide) _ (by obtain ⟨p, q, r⟩ := key_letter (o := o); exact sgn_neg (by omega)) w
theorem letter_23 {o : Int} (h0 : 0 ≤ o) (h1 : o ≤ 255) (w : World) : Calls Try.prog 19 #[.int .u8 o, .agg #[.int .u16 0, .int .u16 0, .int .u16 1, .int .u16 0], .agg #[.int .u16 0, .int .u16 0, .int .u16 0, .int .u16 1]] w fun e w' => e = .returned (.int .i64 1) ∧ Below w.heap.size w w' :=
  Cmp_to (x := ⟨0, 0, 1, 0⟩) (y := ⟨0, 0, 0, 1⟩) h0 h1 (by decide) (by decide) _ (by obtain ⟨p, q, r⟩ := key_letter (o := o); exact sgn_pos (by omega)) w
theorem letter_32 {o : Int} (h0 : 0 ≤ o) (h1 : o ≤ 255) (w : World) : Calls Try.prog 19 #[.int .u8 o, .agg #[.int .u16 0, .int .u16 0, .int .u16 0, .int .u16 1], .agg #[.int .u16 0, .int .u16 0, .int .u16 1, .int .u16 0]] w fun e w' => e = .returned (.int .i64 (-1)) ∧ Below w.heap.size w w' :=
  Cmp_to (x := ⟨0, 0, 0, 1⟩) (y := ⟨0, 0, 1, 0⟩) h0 h1 (by decide) (by decide) _ (by obtain ⟨p, q, r⟩ := key_letter (o := o); exact sgn_neg (by omega)) w

set_option maxRecDepth 100000 in
set_option maxHeartbeats 4000000 in
theorem Graded_more {o : Int} (ho : 0 ≤ o ∧ o ≤ 255) {x y : M4} (hx : OkM x) (hy : OkM y) (hn : 0 < (degM x : Int) - (degM y : Int)) (w : World) : Calls Try.prog 9 #[mv x, mv y, .int .u8 o] w fun e w' => e = .returned (.bool true) ∧ Below w.heap.size w w' := by
  have HO := Lib.hid ho
  have HX := Lib.hid hx
  have HY := Lib.hid hy
  have HD : Hid (IntKind.i64.wrap ((degM x : Int) - (degM y : Int)) = (degM x : Int) - (degM y : Int)) := IntWalk.i64_in _ (by obtain ⟨h1, h2, h3, h4⟩ := hx; obtain ⟨g1, g2, g3, g4⟩ := hy; unfold degM; omega)
  obtain ⟨n, en⟩ : ∃ n : Int, (degM x : Int) - (degM y : Int) = n := ⟨_, rfl⟩
  have EN := Lib.hid en
  rw [en] at hn
  have HN : Hid (0 < n) := hn
  have C1 : Hid (sgn (keyM 1 x - keyM 1 y) = 1) := sgn_pos (by rw [keyM_one, keyM_one]; have := keyL_lt hx; have := keyL_lt hy; omega)
  have C2 : Hid (sgn (keyM 2 x - keyM 2 y) = 1) := sgn_pos (by rw [keyM_two, keyM_two]; have := keyR_lt hx; have := keyR_lt hy; omega)
  clear ho hx hy en hn
  obtain ⟨W0, e0, n1, n2, hb0, hs0⟩ := box_2 w x y
  have HB0 := Lib.hid hb0
  have N1 := n1.keep
  have N2 := n2.keep
  clear n1 n2 hb0 hs0
  unfold mv
  go_enter Try.func9, Try.ntmps9
  go_upto_region 1 with fail
  clear e0
  rename_i K1 hK1
  refine wp_region_knownC [] []
    [(2, IsV (.int .u8 (o))), (3, IsV (.pointer (some ⟨w.heap.size, 0, none⟩))), (4, IsV (.pointer (some ⟨(w.heap.size + 1), 0, none⟩)))]
    [(12, IsV (mv (x))), (13, IsV (.int .i64 ((degM (x) : Int)))), (14, IsV (mv (y))), (15, IsV (.int .i64 ((degM (y) : Int)))), (16, IsV (.int .i64 (((degM (x) : Int)) - ((degM (y) : Int))))), (7, IsV (.int .i64 (((degM (x) : Int)) - ((degM (y) : Int)))))]
    72 (by kernel_rfl) rfl (by kernel_rfl) (by kernel_rfl) ⟨rfl, rfl, rfl, trivial⟩ ⟨IsV.grows _, IsV.grows _, IsV.grows _, IsV.grows _, IsV.grows _, IsV.grows _, IsV.grows _, IsV.grows _, IsV.grows _, trivial⟩ (fun t ht => by cases ht) ?_ ?_
  · refine AllStepC.step rfl (step_loadM (o := 0) (fun _ _ h => h) (fun W hb => (N1.out W hb).c4) (fun _ => rfl)) ?_
    refine AllStepC.step rfl (step_call1 (Plain.of Try.func17 rfl rfl) (fun _ _ h => h) (fun w => Degree_any HX.out w) (fun _ => rfl)) ?_
    refine AllStepC.step rfl (step_loadM (o := 0) (fun _ _ h => h) (fun W hb => (N2.out W hb).c4) (fun _ => rfl)) ?_
    refine AllStepC.step rfl (step_call1 (Plain.of Try.func17 rfl rfl) (fun _ _ h => h) (fun w => Degree_any HY.out w) (fun _ => rfl)) ?_
    refine AllStepC.step rfl (step_sub (fun _ _ h => h) (fun _ _ h => h) HD.out (fun _ => rfl)) ?_
    refine AllStepC.step rfl (step_assign (fun _ _ h => h)) ?_
    exact AllStepC.nil
  intro a1 wa hb1 hs1 hd1 hk1
  have HB1 := Lib.hid (Below.step HB0.out hb1)
  have N1 := (N1.out _ hb1).keep
  have N2 := (N2.out _ hb1).keep
  have c1 := (N1.out _ (Below.refl _ _)).c4
  have c2 := (N2.out _ (Below.refl _ _)).c4
  obtain ⟨u, hx⟩ : ∃ u : Nat → Value, ∀ t, a1.eval (.tmp t) = u t := ⟨_, fun _ => rfl⟩
  have ha : a1 = ⟨#[u 0, u 1, .int .u8 (o), .pointer (some ⟨w.heap.size, 0, none⟩), .pointer (some ⟨(w.heap.size + 1), 0, none⟩), u 5, u 6, .int .i64 n, u 8, u 9, u 10, u 11, mv (x), .int .i64 ((degM (x) : Int)), mv (y), .int .i64 ((degM (y) : Int)), .int .i64 n, u 17, u 18, u 19, u 20, u 21, u 22, u 23, u 24, u 25, u 26, u 27, u 28, u 29, u 30, u 31, u 32, u 33, u 34, u 35, u 36, u 37, u 38, u 39, u 40, u 41, u 42, u 43, u 44, u 45, u 46, u 47, u 48, u 49, u 50, u 51, u 52, u 53, u 54, u 55, u 56, u 57, u 58, u 59, u 60, u 61, u 62, u 63, u 64, u 65, u 66, u 67, u 68, u 69, u 70, u 71], []⟩ := act_eq hs1 hd1 ⟨hx 0, hx 1, hk1 2, hk1 3, hk1 4, hx 5, hx 6, ((hk1 7).trans (by rw [← EN.out])), hx 8, hx 9, hx 10, hx 11, hk1 12, hk1 13, hk1 14, hk1 15, ((hk1 16).trans (by rw [← EN.out])), hx 17, hx 18, hx 19, hx 20, hx 21, hx 22, hx 23, hx 24, hx 25, hx 26, hx 27, hx 28, hx 29, hx 30, hx 31, hx 32, hx 33, hx 34, hx 35, hx 36, hx 37, hx 38, hx 39, hx 40, hx 41, hx 42, hx 43, hx 44, hx 45, hx 46, hx 47, hx 48, hx 49, hx 50, hx 51, hx 52, hx 53, hx 54, hx 55, hx 56, hx 57, hx 58, hx 59, hx 60, hx 61, hx 62, hx 63, hx 64, hx 65, hx 66, hx 67, hx 68, hx 69, hx 70, hx 71, trivial⟩
  subst ha
  refine hK1 _ _ ?_
  clear hx hs1 hd1 hk1 hb1 hK1
  have hn := HN.out
  go_wp2_with fail
  refine (Cmp_to (by decide) (by decide) HX.out HY.out 1 C1.out _).mono ?_
  rintro e w2 ⟨rfl, hb⟩
  have HB2 := Lib.hid (Below.step HB1.out hb)
  have N1 := (N1.out _ hb).keep
  have N2 := (N2.out _ hb).keep
  have c1 := (N1.out _ (Below.refl _ _)).c4
  have c2 := (N2.out _ (Below.refl _ _)).c4
  clear hb
  go_wp2_with fail
  refine (Cmp_to (by decide) (by decide) HX.out HY.out 1 C2.out _).mono ?_
  rintro e w3 ⟨rfl, hb⟩
  have HB3 := Lib.hid (Below.step HB2.out hb)
  have N1 := (N1.out _ hb).keep
  have N2 := (N2.out _ hb).keep
  clear hb c1 c2
  go_wp2_with fail
  have HBR := Lib.hid (Below.refl w3.heap.size w3)
  go_loopw [8] (fun i wr => (i = .int .i64 0 ∨ i = .int .i64 1 ∨ i = .int .i64 2 ∨ i = .int .i64 3 ∨ i = .int .i64 4) ∧ Hid (Below w3.heap.size w3 wr)) (fun i _ => 4 - (intOf i).toNat)
  case atStart => exact ⟨.inl rfl, HBR⟩
  case round =>
    obtain ⟨hr, hb⟩ := hrel
    have HB := hb
    clear hb
    rcases hr with rfl | rfl | rfl | rfl | rfl
    · go_wp2_with fail
      go_loopw [9] (fun k wr => (k = .int .i64 1 ∨ k = .int .i64 2 ∨ k = .int .i64 3 ∨ k = .int .i64 4) ∧ Hid (Below w3.heap.size w3 wr)) (fun k _ => 4 - (intOf k).toNat)
      case atStart => exact ⟨.inl rfl, HB⟩
      case round =>
        obtain ⟨hr, hb⟩ := hrel
        have HB := hb
        clear hb
        rcases hr with rfl | rfl | rfl | rfl
        · go_wp2_with fail
          refine (letter_01 HO.out.1 HO.out.2 _).mono ?_
          rintro e wb ⟨rfl, hb⟩
          obtain ⟨Wp, ep, p1, p2, bp, -⟩ := box_2 wr ⟨1, 0, 0, 0⟩ ⟨0, 1, 0, 0⟩
          have hb : Below Wp.heap.size Wp wb := by rw [← ep]; exact hb
          have HB5 : Hid (Below w3.heap.size w3 wb) := HB.out.trans ((Below.step bp hb).mono HB.out.size)
          have c6 : wb.cell? ⟨wr.heap.size, 0, none⟩ = some (.int .u16 1) ∧ wb.cell? ⟨wr.heap.size, 1, none⟩ = some (.int .u16 0) ∧ wb.cell? ⟨wr.heap.size, 2, none⟩ = some (.int .u16 0) ∧ wb.cell? ⟨wr.heap.size, 3, none⟩ = some (.int .u16 0) := (p1.below hb).c4
          have c7 : wb.cell? ⟨wr.heap.size + 1, 0, none⟩ = some (.int .u16 0) ∧ wb.cell? ⟨wr.heap.size + 1, 1, none⟩ = some (.int .u16 1) ∧ wb.cell? ⟨wr.heap.size + 1, 2, none⟩ = some (.int .u16 0) ∧ wb.cell? ⟨wr.heap.size + 1, 3, none⟩ = some (.int .u16 0) := (p2.below hb).c4
          clear ep p1 p2 bp hb
          go_wp2_with fail
          refine (letter_10 HO.out.1 HO.out.2 _).mono ?_
          rintro e wc ⟨rfl, hb⟩
          have HB6 : Hid (Below w3.heap.size w3 wc) := HB5.out.trans (hb.mono HB5.out.size)
          clear hb c6 c7
          go_wp2_with fail
          exact ⟨⟨.inr <| .inl rfl, HB6⟩, by simp [intOf]⟩
        · go_wp2_with fail
          refine (letter_02 HO.out.1 HO.out.2 _).mono ?_
          rintro e wb ⟨rfl, hb⟩
          obtain ⟨Wp, ep, p1, p2, bp, -⟩ := box_2 wr ⟨1, 0, 0, 0⟩ ⟨0, 0, 1, 0⟩
          have hb : Below Wp.heap.size Wp wb := by rw [← ep]; exact hb
          have HB5 : Hid (Below w3.heap.size w3 wb) := HB.out.trans ((Below.step bp hb).mono HB.out.size)
          have c6 : wb.cell? ⟨wr.heap.size, 0, none⟩ = some (.int .u16 1) ∧ wb.cell? ⟨wr.heap.size, 1, none⟩ = some (.int .u16 0) ∧ wb.cell? ⟨wr.heap.size, 2, none⟩ = some (.int .u16 0) ∧ wb.cell? ⟨wr.heap.size, 3, none⟩ = some (.int .u16 0) := (p1.below hb).c4
          have c7 : wb.cell? ⟨wr.heap.size + 1, 0, none⟩ = some (.int .u16 0) ∧ wb.cell? ⟨wr.heap.size + 1, 1, none⟩ = some (.int .u16 0) ∧ wb.cell? ⟨wr.heap.size + 1, 2, none⟩ = some (.int .u16 1) ∧ wb.cell? ⟨wr.heap.size + 1, 3, none⟩ = some (.int .u16 0) := (p2.below hb).c4
          clear ep p1 p2 bp hb
          go_wp2_with fail
          refine (letter_20 HO.out.1 HO.out.2 _).mono ?_
          rintro e wc ⟨rfl, hb⟩
          have HB6 : Hid (Below w3.heap.size w3 wc) := HB5.out.trans (hb.mono HB5.out.size)
          clear hb c6 c7
          go_wp2_with fail
          exact ⟨⟨.inr <| .inr <| .inl rfl, HB6⟩, by simp [intOf]⟩
        · go_wp2_with fail
          refine (letter_03 HO.out.1 HO.out.2 _).mono ?_
          rintro e wb ⟨rfl, hb⟩
          obtain ⟨Wp, ep, p1, p2, bp, -⟩ := box_2 wr ⟨1, 0, 0, 0⟩ ⟨0, 0, 0, 1⟩
          have hb : Below Wp.heap.size Wp wb := by rw [← ep]; exact hb
          have HB5 : Hid (Below w3.heap.size w3 wb) := HB.out.trans ((Below.step bp hb).mono HB.out.size)
          have c6 : wb.cell? ⟨wr.heap.size, 0, none⟩ = some (.int .u16 1) ∧ wb.cell? ⟨wr.heap.size, 1, none⟩ = some (.int .u16 0) ∧ wb.cell? ⟨wr.heap.size, 2, none⟩ = some (.int .u16 0) ∧ wb.cell? ⟨wr.heap.size, 3, none⟩ = some (.int .u16 0) := (p1.below hb).c4
          have c7 : wb.cell? ⟨wr.heap.size + 1, 0, none⟩ = some (.int .u16 0) ∧ wb.cell? ⟨wr.heap.size + 1, 1, none⟩ = some (.int .u16 0) ∧ wb.cell? ⟨wr.heap.size + 1, 2, none⟩ = some (.int .u16 0) ∧ wb.cell? ⟨wr.heap.size + 1, 3, none⟩ = some (.int .u16 1) := (p2.below hb).c4
          clear ep p1 p2 bp hb
          go_wp2_with fail
          refine (letter_30 HO.out.1 HO.out.2 _).mono ?_
          rintro e wc ⟨rfl, hb⟩
          have HB6 : Hid (Below w3.heap.size w3 wc) := HB5.out.trans (hb.mono HB5.out.size)
          clear hb c6 c7
          go_wp2_with fail
          exact ⟨⟨.inr <| .inr <| .inr <| rfl, HB6⟩, by simp [intOf]⟩
        · go_wp2_with fail
          exact ⟨⟨.inr <| .inl rfl, HB⟩, by simp [intOf]⟩
    · go_wp2_with fail
      go_loopw [9] (fun k wr => (k = .int .i64 2 ∨ k = .int .i64 3 ∨ k = .int .i64 4) ∧ Hid (Below w3.heap.size w3 wr)) (fun k _ => 4 - (intOf k).toNat)
      case atStart => exact ⟨.inl rfl, HB⟩
      case round =>
        obtain ⟨hr, hb⟩ := hrel
        have HB := hb
        clear hb
        rcases hr with rfl | rfl | rfl
        · go_wp2_with fail
          refine (letter_12 HO.out.1 HO.out.2 _).mono ?_
          rintro e wb ⟨rfl, hb⟩
          obtain ⟨Wp, ep, p1, p2, bp, -⟩ := box_2 wr ⟨0, 1, 0, 0⟩ ⟨0, 0, 1, 0⟩
          have hb : Below Wp.heap.size Wp wb := by rw [← ep]; exact hb
          have HB5 : Hid (Below w3.heap.size w3 wb) := HB.out.trans ((Below.step bp hb).mono HB.out.size)
          have c6 : wb.cell? ⟨wr.heap.size, 0, none⟩ = some (.int .u16 0) ∧ wb.cell? ⟨wr.heap.size, 1, none⟩ = some (.int .u16 1) ∧ wb.cell? ⟨wr.heap.size, 2, none⟩ = some (.int .u16 0) ∧ wb.cell? ⟨wr.heap.size, 3, none⟩ = some (.int .u16 0) := (p1.below hb).c4
          have c7 : wb.cell? ⟨wr.heap.size + 1, 0, none⟩ = some (.int .u16 0) ∧ wb.cell? ⟨wr.heap.size + 1, 1, none⟩ = some (.int .u16 0) ∧ wb.cell? ⟨wr.heap.size + 1, 2, none⟩ = some (.int .u16 1) ∧ wb.cell? ⟨wr.heap.size + 1, 3, none⟩ = some (.int .u16 0) := (p2.below hb).c4
          clear ep p1 p2 bp hb
          go_wp2_with fail
          refine (letter_21 HO.out.1 HO.out.2 _).mono ?_
          rintro e wc ⟨rfl, hb⟩
          have HB6 : Hid (Below w3.heap.size w3 wc) := HB5.out.trans (hb.mono HB5.out.size)
          clear hb c6 c7
          go_wp2_with fail
          exact ⟨⟨.inr <| .inl rfl, HB6⟩, by simp [intOf]⟩
        · go_wp2_with fail
          refine (letter_13 HO.out.1 HO.out.2 _).mono ?_
          rintro e wb ⟨rfl, hb⟩
          obtain ⟨Wp, ep, p1, p2, bp, -⟩ := box_2 wr ⟨0, 1, 0, 0⟩ ⟨0, 0, 0, 1⟩
          have hb : Below Wp.heap.size Wp wb := by rw [← ep]; exact hb
          have HB5 : Hid (Below w3.heap.size w3 wb) := HB.out.trans ((Below.step bp hb).mono HB.out.size)
          have c6 : wb.cell? ⟨wr.heap.size, 0, none⟩ = some (.int .u16 0) ∧ wb.cell? ⟨wr.heap.size, 1, none⟩ = some (.int .u16 1) ∧ wb.cell? ⟨wr.heap.size, 2, none⟩ = some (.int .u16 0) ∧ wb.cell? ⟨wr.heap.size, 3, none⟩ = some (.int .u16 0) := (p1.below hb).c4
          have c7 : wb.cell? ⟨wr.heap.size + 1, 0, none⟩ = some (.int .u16 0) ∧ wb.cell? ⟨wr.heap.size + 1, 1, none⟩ = some (.int .u16 0) ∧ wb.cell? ⟨wr.heap.size + 1, 2, none⟩ = some (.int .u16 0) ∧ wb.cell? ⟨wr.heap.size + 1, 3, none⟩ = some (.int .u16 1) := (p2.below hb).c4
          clear ep p1 p2 bp hb
          go_wp2_with fail
          refine (letter_31 HO.out.1 HO.out.2 _).mono ?_
          rintro e wc ⟨rfl, hb⟩
          have HB6 : Hid (Below w3.heap.size w3 wc) := HB5.out.trans (hb.mono HB5.out.size)
          clear hb c6 c7
          go_wp2_with fail
          exact ⟨⟨.inr <| .inr <| rfl, HB6⟩, by simp [intOf]⟩
        · go_wp2_with fail
          exact ⟨⟨.inr <| .inr <| .inl rfl, HB⟩, by simp [intOf]⟩
    · go_wp2_with fail
      go_loopw [9] (fun k wr => (k = .int .i64 3 ∨ k = .int .i64 4) ∧ Hid (Below w3.heap.size w3 wr)) (fun k _ => 4 - (intOf k).toNat)
      case atStart => exact ⟨.inl rfl, HB⟩
      case round =>
        obtain ⟨hr, hb⟩ := hrel
        have HB := hb
        clear hb
        rcases hr with rfl | rfl
        · go_wp2_with fail
          refine (letter_23 HO.out.1 HO.out.2 _).mono ?_
          rintro e wb ⟨rfl, hb⟩
          obtain ⟨Wp, ep, p1, p2, bp, -⟩ := box_2 wr ⟨0, 0, 1, 0⟩ ⟨0, 0, 0, 1⟩
          have hb : Below Wp.heap.size Wp wb := by rw [← ep]; exact hb
          have HB5 : Hid (Below w3.heap.size w3 wb) := HB.out.trans ((Below.step bp hb).mono HB.out.size)
          have c6 : wb.cell? ⟨wr.heap.size, 0, none⟩ = some (.int .u16 0) ∧ wb.cell? ⟨wr.heap.size, 1, none⟩ = some (.int .u16 0) ∧ wb.cell? ⟨wr.heap.size, 2, none⟩ = some (.int .u16 1) ∧ wb.cell? ⟨wr.heap.size, 3, none⟩ = some (.int .u16 0) := (p1.below hb).c4
          have c7 : wb.cell? ⟨wr.heap.size + 1, 0, none⟩ = some (.int .u16 0) ∧ wb.cell? ⟨wr.heap.size + 1, 1, none⟩ = some (.int .u16 0) ∧ wb.cell? ⟨wr.heap.size + 1, 2, none⟩ = some (.int .u16 0) ∧ wb.cell? ⟨wr.heap.size + 1, 3, none⟩ = some (.int .u16 1) := (p2.below hb).c4
          clear ep p1 p2 bp hb
          go_wp2_with fail
          refine (letter_32 HO.out.1 HO.out.2 _).mono ?_
          rintro e wc ⟨rfl, hb⟩
          have HB6 : Hid (Below w3.heap.size w3 wc) := HB5.out.trans (hb.mono HB5.out.size)
          clear hb c6 c7
          go_wp2_with fail
          exact ⟨⟨.inr <| rfl, HB6⟩, by simp [intOf]⟩
        · go_wp2_with fail
          exact ⟨⟨.inr <| .inr <| .inr <| .inl rfl, HB⟩, by simp [intOf]⟩
    · go_wp2_with fail
      go_loopw [9] (fun k wr => (k = .int .i64 4) ∧ Hid (Below w3.heap.size w3 wr)) (fun k _ => 4 - (intOf k).toNat)
      case atStart => exact ⟨rfl, HB⟩
      case round =>
        obtain ⟨hr, hb⟩ := hrel
        have HB := hb
        clear hb
        obtain rfl := hr
        · go_wp2_with fail
          exact ⟨⟨.inr <| .inr <| .inr <| .inr <| rfl, HB⟩, by simp [intOf]⟩
    · have N1 := (N1.out _ HB.out).keep
      have N2 := (N2.out _ HB.out).keep
      have HB9 := Lib.hid (Below.step HB3.out HB.out)
      clear HB
      go_upto_region 15 with fail
      rename_i K9 hK9
      by_cases ho2 : o ≤ 2
      · refine wp_region_knownC [(6, true), (57, true), (58, true), (60, true), (61, true), (70, true), (71, true)] []
          [(2, IsV (.int .u8 (o)))]
          [(59, IsV (.int .u8 (o)))]
          72 (by kernel_rfl) rfl (by kernel_rfl) (by kernel_rfl) ⟨rfl, trivial⟩ ⟨IsV.grows _, IsV.grows _, trivial⟩ (fun t ht => by cases ht) ?_ ?_
        · refine AllStepC.step rfl (step_call0 (Plain.of Try.func21 rfl rfl) (fun w => alive_any w) (fun _ => rfl)) ?_
          refine AllStepC.step rfl (step_move (fun _ _ h => h)) ?_
          refine AllStepC.step rfl (step_move (fun _ _ h => h)) ?_
          refine AllStepC.step rfl (step_leOk (fun _ _ h => h)  (decide_eq_true ho2) (fun _ => rfl)) ?_
          refine AllStepC.step rfl (step_move (fun _ _ h => h)) ?_
          refine AllStepC.skip rfl rfl ?_
          refine AllStepC.skip rfl rfl ?_
          refine AllStepC.skip rfl rfl ?_
          refine AllStepC.skip rfl rfl ?_
          refine AllStepC.skip rfl rfl ?_
          refine AllStepC.skip rfl rfl ?_
          refine AllStepC.skip rfl rfl ?_
          refine AllStepC.skip rfl rfl ?_
          refine AllStepC.step rfl (step_pickY (fun _ _ h => h) (fun _ => rfl)) ?_
          refine AllStepC.step rfl (step_pickT (fun _ _ h => h) (fun _ _ h => h)) ?_
          refine AllStepC.step rfl (step_assign (fun _ _ h => h)) ?_
          exact AllStepC.nil
        intro a9 w9 hb9 hs9 hd9 hk9
        refine hK9 _ _ ?_
        refine wp_ret ?_
        exact ret_slot (t := 6) rfl hd9 (hk9 6) ⟨rfl, Below.step HB9.out hb9⟩
      · refine wp_region_knownC [(6, true), (57, true), (58, true), (60, false), (61, false), (69, true), (70, true), (71, true)] []
          [(2, IsV (.int .u8 (o))), (3, IsV (.pointer (some ⟨w.heap.size, 0, none⟩))), (4, IsV (.pointer (some ⟨(w.heap.size + 1), 0, none⟩)))]
          [(59, IsV (.int .u8 (o))), (62, IsV (.int .u8 (o))), (63, IsV (mv (x))), (64, IsV (mv (y))), (65, IsV (.int .i64 (sgn (keyM o (x) - keyM o (y))))), (66, IsV (mv (x))), (67, IsV (mv (y))), (68, IsV (.int .i64 (sgn (keyM 0 (x) - keyM 0 (y)))))]
          72 (by kernel_rfl) rfl (by kernel_rfl) (by kernel_rfl) ⟨rfl, rfl, rfl, trivial⟩ ⟨IsV.grows _, IsV.grows _, IsV.grows _, IsV.grows _, IsV.grows _, IsV.grows _, IsV.grows _, IsV.grows _, IsV.grows _, IsV.grows _, IsV.grows _, trivial⟩ (fun t ht => by cases ht) ?_ ?_
        · refine AllStepC.step rfl (step_call0 (Plain.of Try.func21 rfl rfl) (fun w => alive_any w) (fun _ => rfl)) ?_
          refine AllStepC.step rfl (step_move (fun _ _ h => h)) ?_
          refine AllStepC.step rfl (step_move (fun _ _ h => h)) ?_
          refine AllStepC.step rfl (step_leOk (fun _ _ h => h)  (decide_eq_false ho2) (fun _ => rfl)) ?_
          refine AllStepC.step rfl (step_move (fun _ _ h => h)) ?_
          refine AllStepC.step rfl (step_move (fun _ _ h => h)) ?_
          refine AllStepC.step rfl (step_loadM (o := 0) (fun _ _ h => h) (fun W hb => (N1.out W hb).c4) (fun _ => rfl)) ?_
          refine AllStepC.step rfl (step_loadM (o := 0) (fun _ _ h => h) (fun W hb => (N2.out W hb).c4) (fun _ => rfl)) ?_
          refine AllStepC.step rfl (step_call3 (Plain.of Try.func19 rfl rfl) (fun _ _ h => h) (fun _ _ h => h) (fun _ _ h => h) (fun w => Cmp_any HO.out.1 HO.out.2 HX.out HY.out w) (fun _ => rfl)) ?_
          refine AllStepC.step rfl (step_loadM (o := 0) (fun _ _ h => h) (fun W hb => (N1.out W hb).c4) (fun _ => rfl)) ?_
          refine AllStepC.step rfl (step_loadM (o := 0) (fun _ _ h => h) (fun W hb => (N2.out W hb).c4) (fun _ => rfl)) ?_
          refine AllStepC.step rfl (step_callk (Plain.of Try.func19 rfl rfl) (fun _ _ h => h) (fun _ _ h => h) (fun w => Cmp_any (by decide) (by decide) HX.out HY.out w) (fun _ => rfl)) ?_
          refine AllStepC.step rfl (step_eqI (fun _ _ h => h) (fun _ _ h => h) (by rw [keyM_else (by omega) (by omega), keyM_else (by omega) (by omega), keyM_else (by omega) (by omega), keyM_else (by omega) (by omega)]; simp) (fun _ => rfl)) ?_
          refine AllStepC.step rfl (step_pickF (fun _ _ h => h) (fun _ _ h => h)) ?_
          refine AllStepC.step rfl (step_pickT (fun _ _ h => h) (fun _ _ h => h)) ?_
          refine AllStepC.step rfl (step_assign (fun _ _ h => h)) ?_
          exact AllStepC.nil
        intro a9 w9 hb9 hs9 hd9 hk9
        refine hK9 _ _ ?_
        refine wp_ret ?_
        exact ret_slot (t := 6) rfl hd9 (hk9 6) ⟨rfl, Below.step HB9.out hb9⟩

set_option maxRecDepth 100000 in
set_option maxHeartbeats 4000000 in
theorem Graded_rest {o : Int} (ho : 0 ≤ o ∧ o ≤ 255) {x y : M4} (hx : OkM x) (hy : OkM y) (hn : ¬ 0 < (degM x : Int) - (degM y : Int)) (w : World) : Calls Try.prog 9 #[mv x, mv y, .int .u8 o] w fun e w' => e = .returned (.bool true) ∧ Below w.heap.size w w' := by
  have HO := Lib.hid ho
  have HX := Lib.hid hx
  have HY := Lib.hid hy
  have HD : Hid (IntKind.i64.wrap ((degM x : Int) - (degM y : Int)) = (degM x : Int) - (degM y : Int)) := IntWalk.i64_in _ (by obtain ⟨h1, h2, h3, h4⟩ := hx; obtain ⟨g1, g2, g3, g4⟩ := hy; unfold degM; omega)
  obtain ⟨n, en⟩ : ∃ n : Int, (degM x : Int) - (degM y : Int) = n := ⟨_, rfl⟩
  have EN := Lib.hid en
  rw [en] at hn
  have HN : Hid (¬ 0 < n) := hn
  clear ho hx hy en hn
  obtain ⟨W0, e0, n1, n2, hb0, hs0⟩ := box_2 w x y
  have HB0 := Lib.hid hb0
  have N1 := n1.keep
  have N2 := n2.keep
  clear n1 n2 hb0 hs0
  unfold mv
  go_enter Try.func9, Try.ntmps9
  go_upto_region 1 with fail
  clear e0
  rename_i K1 hK1
  refine wp_region_knownC [] []
    [(2, IsV (.int .u8 (o))), (3, IsV (.pointer (some ⟨w.heap.size, 0, none⟩))), (4, IsV (.pointer (some ⟨(w.heap.size + 1), 0, none⟩)))]
    [(12, IsV (mv (x))), (13, IsV (.int .i64 ((degM (x) : Int)))), (14, IsV (mv (y))), (15, IsV (.int .i64 ((degM (y) : Int)))), (16, IsV (.int .i64 (((degM (x) : Int)) - ((degM (y) : Int))))), (7, IsV (.int .i64 (((degM (x) : Int)) - ((degM (y) : Int)))))]
    72 (by kernel_rfl) rfl (by kernel_rfl) (by kernel_rfl) ⟨rfl, rfl, rfl, trivial⟩ ⟨IsV.grows _, IsV.grows _, IsV.grows _, IsV.grows _, IsV.grows _, IsV.grows _, IsV.grows _, IsV.grows _, IsV.grows _, trivial⟩ (fun t ht => by cases ht) ?_ ?_
  · refine AllStepC.step rfl (step_loadM (o := 0) (fun _ _ h => h) (fun W hb => (N1.out W hb).c4) (fun _ => rfl)) ?_
    refine AllStepC.step rfl (step_call1 (Plain.of Try.func17 rfl rfl) (fun _ _ h => h) (fun w => Degree_any HX.out w) (fun _ => rfl)) ?_
    refine AllStepC.step rfl (step_loadM (o := 0) (fun _ _ h => h) (fun W hb => (N2.out W hb).c4) (fun _ => rfl)) ?_
    refine AllStepC.step rfl (step_call1 (Plain.of Try.func17 rfl rfl) (fun _ _ h => h) (fun w => Degree_any HY.out w) (fun _ => rfl)) ?_
    refine AllStepC.step rfl (step_sub (fun _ _ h => h) (fun _ _ h => h) HD.out (fun _ => rfl)) ?_
    refine AllStepC.step rfl (step_assign (fun _ _ h => h)) ?_
    exact AllStepC.nil
  intro a1 wa hb1 hs1 hd1 hk1
  have HB1 := Lib.hid (Below.step HB0.out hb1)
  have N1 := (N1.out _ hb1).keep
  have N2 := (N2.out _ hb1).keep
  have c1 := (N1.out _ (Below.refl _ _)).c4
  have c2 := (N2.out _ (Below.refl _ _)).c4
  obtain ⟨u, hx⟩ : ∃ u : Nat → Value, ∀ t, a1.eval (.tmp t) = u t := ⟨_, fun _ => rfl⟩
  have ha : a1 = ⟨#[u 0, u 1, .int .u8 (o), .pointer (some ⟨w.heap.size, 0, none⟩), .pointer (some ⟨(w.heap.size + 1), 0, none⟩), u 5, u 6, .int .i64 n, u 8, u 9, u 10, u 11, mv (x), .int .i64 ((degM (x) : Int)), mv (y), .int .i64 ((degM (y) : Int)), .int .i64 n, u 17, u 18, u 19, u 20, u 21, u 22, u 23, u 24, u 25, u 26, u 27, u 28, u 29, u 30, u 31, u 32, u 33, u 34, u 35, u 36, u 37, u 38, u 39, u 40, u 41, u 42, u 43, u 44, u 45, u 46, u 47, u 48, u 49, u 50, u 51, u 52, u 53, u 54, u 55, u 56, u 57, u 58, u 59, u 60, u 61, u 62, u 63, u 64, u 65, u 66, u 67, u 68, u 69, u 70, u 71], []⟩ := act_eq hs1 hd1 ⟨hx 0, hx 1, hk1 2, hk1 3, hk1 4, hx 5, hx 6, ((hk1 7).trans (by rw [← EN.out])), hx 8, hx 9, hx 10, hx 11, hk1 12, hk1 13, hk1 14, hk1 15, ((hk1 16).trans (by rw [← EN.out])), hx 17, hx 18, hx 19, hx 20, hx 21, hx 22, hx 23, hx 24, hx 25, hx 26, hx 27, hx 28, hx 29, hx 30, hx 31, hx 32, hx 33, hx 34, hx 35, hx 36, hx 37, hx 38, hx 39, hx 40, hx 41, hx 42, hx 43, hx 44, hx 45, hx 46, hx 47, hx 48, hx 49, hx 50, hx 51, hx 52, hx 53, hx 54, hx 55, hx 56, hx 57, hx 58, hx 59, hx 60, hx 61, hx 62, hx 63, hx 64, hx 65, hx 66, hx 67, hx 68, hx 69, hx 70, hx 71, trivial⟩
  subst ha
  refine hK1 _ _ ?_
  clear hx hs1 hd1 hk1 hb1 hK1
  have hn := HN.out
  go_wp2_with fail
  have HBR := Lib.hid (Below.refl wa.heap.size wa)
  go_loopw [8] (fun i wr => (i = .int .i64 0 ∨ i = .int .i64 1 ∨ i = .int .i64 2 ∨ i = .int .i64 3 ∨ i = .int .i64 4) ∧ Hid (Below wa.heap.size wa wr)) (fun i _ => 4 - (intOf i).toNat)
  case atStart => exact ⟨.inl rfl, HBR⟩
  case round =>
    obtain ⟨hr, hb⟩ := hrel
    have HB := hb
    clear hb
    rcases hr with rfl | rfl | rfl | rfl | rfl
    · go_wp2_with fail
      go_loopw [9] (fun k wr => (k = .int .i64 1 ∨ k = .int .i64 2 ∨ k = .int .i64 3 ∨ k = .int .i64 4) ∧ Hid (Below wa.heap.size wa wr)) (fun k _ => 4 - (intOf k).toNat)
      case atStart => exact ⟨.inl rfl, HB⟩
      case round =>
        obtain ⟨hr, hb⟩ := hrel
        have HB := hb
        clear hb
        rcases hr with rfl | rfl | rfl | rfl
        · go_wp2_with fail
          refine (letter_01 HO.out.1 HO.out.2 _).mono ?_
          rintro e wb ⟨rfl, hb⟩
          obtain ⟨Wp, ep, p1, p2, bp, -⟩ := box_2 wr ⟨1, 0, 0, 0⟩ ⟨0, 1, 0, 0⟩
          have hb : Below Wp.heap.size Wp wb := by rw [← ep]; exact hb
          have HB5 : Hid (Below wa.heap.size wa wb) := HB.out.trans ((Below.step bp hb).mono HB.out.size)
          have c6 : wb.cell? ⟨wr.heap.size, 0, none⟩ = some (.int .u16 1) ∧ wb.cell? ⟨wr.heap.size, 1, none⟩ = some (.int .u16 0) ∧ wb.cell? ⟨wr.heap.size, 2, none⟩ = some (.int .u16 0) ∧ wb.cell? ⟨wr.heap.size, 3, none⟩ = some (.int .u16 0) := (p1.below hb).c4
          have c7 : wb.cell? ⟨wr.heap.size + 1, 0, none⟩ = some (.int .u16 0) ∧ wb.cell? ⟨wr.heap.size + 1, 1, none⟩ = some (.int .u16 1) ∧ wb.cell? ⟨wr.heap.size + 1, 2, none⟩ = some (.int .u16 0) ∧ wb.cell? ⟨wr.heap.size + 1, 3, none⟩ = some (.int .u16 0) := (p2.below hb).c4
          clear ep p1 p2 bp hb
          go_wp2_with fail
          refine (letter_10 HO.out.1 HO.out.2 _).mono ?_
          rintro e wc ⟨rfl, hb⟩
          have HB6 : Hid (Below wa.heap.size wa wc) := HB5.out.trans (hb.mono HB5.out.size)
          clear hb c6 c7
          go_wp2_with fail
          exact ⟨⟨.inr <| .inl rfl, HB6⟩, by simp [intOf]⟩
        · go_wp2_with fail
          refine (letter_02 HO.out.1 HO.out.2 _).mono ?_
          rintro e wb ⟨rfl, hb⟩
          obtain ⟨Wp, ep, p1, p2, bp, -⟩ := box_2 wr ⟨1, 0, 0, 0⟩ ⟨0, 0, 1, 0⟩
          have hb : Below Wp.heap.size Wp wb := by rw [← ep]; exact hb
          have HB5 : Hid (Below wa.heap.size wa wb) := HB.out.trans ((Below.step bp hb).mono HB.out.size)
          have c6 : wb.cell? ⟨wr.heap.size, 0, none⟩ = some (.int .u16 1) ∧ wb.cell? ⟨wr.heap.size, 1, none⟩ = some (.int .u16 0) ∧ wb.cell? ⟨wr.heap.size, 2, none⟩ = some (.int .u16 0) ∧ wb.cell? ⟨wr.heap.size, 3, none⟩ = some (.int .u16 0) := (p1.below hb).c4
          have c7 : wb.cell? ⟨wr.heap.size + 1, 0, none⟩ = some (.int .u16 0) ∧ wb.cell? ⟨wr.heap.size + 1, 1, none⟩ = some (.int .u16 0) ∧ wb.cell? ⟨wr.heap.size + 1, 2, none⟩ = some (.int .u16 1) ∧ wb.cell? ⟨wr.heap.size + 1, 3, none⟩ = some (.int .u16 0) := (p2.below hb).c4
          clear ep p1 p2 bp hb
          go_wp2_with fail
          refine (letter_20 HO.out.1 HO.out.2 _).mono ?_
          rintro e wc ⟨rfl, hb⟩
          have HB6 : Hid (Below wa.heap.size wa wc) := HB5.out.trans (hb.mono HB5.out.size)
          clear hb c6 c7
          go_wp2_with fail
          exact ⟨⟨.inr <| .inr <| .inl rfl, HB6⟩, by simp [intOf]⟩
        · go_wp2_with fail
          refine (letter_03 HO.out.1 HO.out.2 _).mono ?_
          rintro e wb ⟨rfl, hb⟩
          obtain ⟨Wp, ep, p1, p2, bp, -⟩ := box_2 wr ⟨1, 0, 0, 0⟩ ⟨0, 0, 0, 1⟩
          have hb : Below Wp.heap.size Wp wb := by rw [← ep]; exact hb
          have HB5 : Hid (Below wa.heap.size wa wb) := HB.out.trans ((Below.step bp hb).mono HB.out.size)
          have c6 : wb.cell? ⟨wr.heap.size, 0, none⟩ = some (.int .u16 1) ∧ wb.cell? ⟨wr.heap.size, 1, none⟩ = some (.int .u16 0) ∧ wb.cell? ⟨wr.heap.size, 2, none⟩ = some (.int .u16 0) ∧ wb.cell? ⟨wr.heap.size, 3, none⟩ = some (.int .u16 0) := (p1.below hb).c4
          have c7 : wb.cell? ⟨wr.heap.size + 1, 0, none⟩ = some (.int .u16 0) ∧ wb.cell? ⟨wr.heap.size + 1, 1, none⟩ = some (.int .u16 0) ∧ wb.cell? ⟨wr.heap.size + 1, 2, none⟩ = some (.int .u16 0) ∧ wb.cell? ⟨wr.heap.size + 1, 3, none⟩ = some (.int .u16 1) := (p2.below hb).c4
          clear ep p1 p2 bp hb
          go_wp2_with fail
          refine (letter_30 HO.out.1 HO.out.2 _).mono ?_
          rintro e wc ⟨rfl, hb⟩
          have HB6 : Hid (Below wa.heap.size wa wc) := HB5.out.trans (hb.mono HB5.out.size)
          clear hb c6 c7
          go_wp2_with fail
          exact ⟨⟨.inr <| .inr <| .inr <| rfl, HB6⟩, by simp [intOf]⟩
        · go_wp2_with fail
          exact ⟨⟨.inr <| .inl rfl, HB⟩, by simp [intOf]⟩
    · go_wp2_with fail
      go_loopw [9] (fun k wr => (k = .int .i64 2 ∨ k = .int .i64 3 ∨ k = .int .i64 4) ∧ Hid (Below wa.heap.size wa wr)) (fun k _ => 4 - (intOf k).toNat)
      case atStart => exact ⟨.inl rfl, HB⟩
      case round =>
        obtain ⟨hr, hb⟩ := hrel
        have HB := hb
        clear hb
        rcases hr with rfl | rfl | rfl
        · go_wp2_with fail
          refine (letter_12 HO.out.1 HO.out.2 _).mono ?_
          rintro e wb ⟨rfl, hb⟩
          obtain ⟨Wp, ep, p1, p2, bp, -⟩ := box_2 wr ⟨0, 1, 0, 0⟩ ⟨0, 0, 1, 0⟩
          have hb : Below Wp.heap.size Wp wb := by rw [← ep]; exact hb
          have HB5 : Hid (Below wa.heap.size wa wb) := HB.out.trans ((Below.step bp hb).mono HB.out.size)
          have c6 : wb.cell? ⟨wr.heap.size, 0, none⟩ = some (.int .u16 0) ∧ wb.cell? ⟨wr.heap.size, 1, none⟩ = some (.int .u16 1) ∧ wb.cell? ⟨wr.heap.size, 2, none⟩ = some (.int .u16 0) ∧ wb.cell? ⟨wr.heap.size, 3, none⟩ = some (.int .u16 0) := (p1.below hb).c4
          have c7 : wb.cell? ⟨wr.heap.size + 1, 0, none⟩ = some (.int .u16 0) ∧ wb.cell? ⟨wr.heap.size + 1, 1, none⟩ = some (.int .u16 0) ∧ wb.cell? ⟨wr.heap.size + 1, 2, none⟩ = some (.int .u16 1) ∧ wb.cell? ⟨wr.heap.size + 1, 3, none⟩ = some (.int .u16 0) := (p2.below hb).c4
          clear ep p1 p2 bp hb
          go_wp2_with fail
          refine (letter_21 HO.out.1 HO.out.2 _).mono ?_
          rintro e wc ⟨rfl, hb⟩
          have HB6 : Hid (Below wa.heap.size wa wc) := HB5.out.trans (hb.mono HB5.out.size)
          clear hb c6 c7
          go_wp2_with fail
          exact ⟨⟨.inr <| .inl rfl, HB6⟩, by simp [intOf]⟩
        · go_wp2_with fail
          refine (letter_13 HO.out.1 HO.out.2 _).mono ?_
          rintro e wb ⟨rfl, hb⟩
          obtain ⟨Wp, ep, p1, p2, bp, -⟩ := box_2 wr ⟨0, 1, 0, 0⟩ ⟨0, 0, 0, 1⟩
          have hb : Below Wp.heap.size Wp wb := by rw [← ep]; exact hb
          have HB5 : Hid (Below wa.heap.size wa wb) := HB.out.trans ((Below.step bp hb).mono HB.out.size)
          have c6 : wb.cell? ⟨wr.heap.size, 0, none⟩ = some (.int .u16 0) ∧ wb.cell? ⟨wr.heap.size, 1, none⟩ = some (.int .u16 1) ∧ wb.cell? ⟨wr.heap.size, 2, none⟩ = some (.int .u16 0) ∧ wb.cell? ⟨wr.heap.size, 3, none⟩ = some (.int .u16 0) := (p1.below hb).c4
          have c7 : wb.cell? ⟨wr.heap.size + 1, 0, none⟩ = some (.int .u16 0) ∧ wb.cell? ⟨wr.heap.size + 1, 1, none⟩ = some (.int .u16 0) ∧ wb.cell? ⟨wr.heap.size + 1, 2, none⟩ = some (.int .u16 0) ∧ wb.cell? ⟨wr.heap.size + 1, 3, none⟩ = some (.int .u16 1) := (p2.below hb).c4
          clear ep p1 p2 bp hb
          go_wp2_with fail
          refine (letter_31 HO.out.1 HO.out.2 _).mono ?_
          rintro e wc ⟨rfl, hb⟩
          have HB6 : Hid (Below wa.heap.size wa wc) := HB5.out.trans (hb.mono HB5.out.size)
          clear hb c6 c7
          go_wp2_with fail
          exact ⟨⟨.inr <| .inr <| rfl, HB6⟩, by simp [intOf]⟩
        · go_wp2_with fail
          exact ⟨⟨.inr <| .inr <| .inl rfl, HB⟩, by simp [intOf]⟩
    · go_wp2_with fail
      go_loopw [9] (fun k wr => (k = .int .i64 3 ∨ k = .int .i64 4) ∧ Hid (Below wa.heap.size wa wr)) (fun k _ => 4 - (intOf k).toNat)
      case atStart => exact ⟨.inl rfl, HB⟩
      case round =>
        obtain ⟨hr, hb⟩ := hrel
        have HB := hb
        clear hb
        rcases hr with rfl | rfl
        · go_wp2_with fail
          refine (letter_23 HO.out.1 HO.out.2 _).mono ?_
          rintro e wb ⟨rfl, hb⟩
          obtain ⟨Wp, ep, p1, p2, bp, -⟩ := box_2 wr ⟨0, 0, 1, 0⟩ ⟨0, 0, 0, 1⟩
          have hb : Below Wp.heap.size Wp wb := by rw [← ep]; exact hb
          have HB5 : Hid (Below wa.heap.size wa wb) := HB.out.trans ((Below.step bp hb).mono HB.out.size)
          have c6 : wb.cell? ⟨wr.heap.size, 0, none⟩ = some (.int .u16 0) ∧ wb.cell? ⟨wr.heap.size, 1, none⟩ = some (.int .u16 0) ∧ wb.cell? ⟨wr.heap.size, 2, none⟩ = some (.int .u16 1) ∧ wb.cell? ⟨wr.heap.size, 3, none⟩ = some (.int .u16 0) := (p1.below hb).c4
          have c7 : wb.cell? ⟨wr.heap.size + 1, 0, none⟩ = some (.int .u16 0) ∧ wb.cell? ⟨wr.heap.size + 1, 1, none⟩ = some (.int .u16 0) ∧ wb.cell? ⟨wr.heap.size + 1, 2, none⟩ = some (.int .u16 0) ∧ wb.cell? ⟨wr.heap.size + 1, 3, none⟩ = some (.int .u16 1) := (p2.below hb).c4
          clear ep p1 p2 bp hb
          go_wp2_with fail
          refine (letter_32 HO.out.1 HO.out.2 _).mono ?_
          rintro e wc ⟨rfl, hb⟩
          have HB6 : Hid (Below wa.heap.size wa wc) := HB5.out.trans (hb.mono HB5.out.size)
          clear hb c6 c7
          go_wp2_with fail
          exact ⟨⟨.inr <| rfl, HB6⟩, by simp [intOf]⟩
        · go_wp2_with fail
          exact ⟨⟨.inr <| .inr <| .inr <| .inl rfl, HB⟩, by simp [intOf]⟩
    · go_wp2_with fail
      go_loopw [9] (fun k wr => (k = .int .i64 4) ∧ Hid (Below wa.heap.size wa wr)) (fun k _ => 4 - (intOf k).toNat)
      case atStart => exact ⟨rfl, HB⟩
      case round =>
        obtain ⟨hr, hb⟩ := hrel
        have HB := hb
        clear hb
        obtain rfl := hr
        · go_wp2_with fail
          exact ⟨⟨.inr <| .inr <| .inr <| .inr <| rfl, HB⟩, by simp [intOf]⟩
    · have N1 := (N1.out _ HB.out).keep
      have N2 := (N2.out _ HB.out).keep
      have HB9 := Lib.hid (Below.step HB1.out HB.out)
      clear HB
      go_upto_region 15 with fail
      rename_i K9 hK9
      by_cases ho2 : o ≤ 2
      · refine wp_region_knownC [(6, true), (57, true), (58, true), (60, true), (61, true), (70, true), (71, true)] []
          [(2, IsV (.int .u8 (o)))]
          [(59, IsV (.int .u8 (o)))]
          72 (by kernel_rfl) rfl (by kernel_rfl) (by kernel_rfl) ⟨rfl, trivial⟩ ⟨IsV.grows _, IsV.grows _, trivial⟩ (fun t ht => by cases ht) ?_ ?_
        · refine AllStepC.step rfl (step_call0 (Plain.of Try.func21 rfl rfl) (fun w => alive_any w) (fun _ => rfl)) ?_
          refine AllStepC.step rfl (step_move (fun _ _ h => h)) ?_
          refine AllStepC.step rfl (step_move (fun _ _ h => h)) ?_
          refine AllStepC.step rfl (step_leOk (fun _ _ h => h)  (decide_eq_true ho2) (fun _ => rfl)) ?_
          refine AllStepC.step rfl (step_move (fun _ _ h => h)) ?_
          refine AllStepC.skip rfl rfl ?_
          refine AllStepC.skip rfl rfl ?_
          refine AllStepC.skip rfl rfl ?_
          refine AllStepC.skip rfl rfl ?_
          refine AllStepC.skip rfl rfl ?_
          refine AllStepC.skip rfl rfl ?_
          refine AllStepC.skip rfl rfl ?_
          refine AllStepC.skip rfl rfl ?_
          refine AllStepC.step rfl (step_pickY (fun _ _ h => h) (fun _ => rfl)) ?_
          refine AllStepC.step rfl (step_pickT (fun _ _ h => h) (fun _ _ h => h)) ?_
          refine AllStepC.step rfl (step_assign (fun _ _ h => h)) ?_
          exact AllStepC.nil
        intro a9 w9 hb9 hs9 hd9 hk9
        refine hK9 _ _ ?_
        refine wp_ret ?_
        exact ret_slot (t := 6) rfl hd9 (hk9 6) ⟨rfl, Below.step HB9.out hb9⟩
      · refine wp_region_knownC [(6, true), (57, true), (58, true), (60, false), (61, false), (69, true), (70, true), (71, true)] []
          [(2, IsV (.int .u8 (o))), (3, IsV (.pointer (some ⟨w.heap.size, 0, none⟩))), (4, IsV (.pointer (some ⟨(w.heap.size + 1), 0, none⟩)))]
          [(59, IsV (.int .u8 (o))), (62, IsV (.int .u8 (o))), (63, IsV (mv (x))), (64, IsV (mv (y))), (65, IsV (.int .i64 (sgn (keyM o (x) - keyM o (y))))), (66, IsV (mv (x))), (67, IsV (mv (y))), (68, IsV (.int .i64 (sgn (keyM 0 (x) - keyM 0 (y)))))]
          72 (by kernel_rfl) rfl (by kernel_rfl) (by kernel_rfl) ⟨rfl, rfl, rfl, trivial⟩ ⟨IsV.grows _, IsV.grows _, IsV.grows _, IsV.grows _, IsV.grows _, IsV.grows _, IsV.grows _, IsV.grows _, IsV.grows _, IsV.grows _, IsV.grows _, trivial⟩ (fun t ht => by cases ht) ?_ ?_
        · refine AllStepC.step rfl (step_call0 (Plain.of Try.func21 rfl rfl) (fun w => alive_any w) (fun _ => rfl)) ?_
          refine AllStepC.step rfl (step_move (fun _ _ h => h)) ?_
          refine AllStepC.step rfl (step_move (fun _ _ h => h)) ?_
          refine AllStepC.step rfl (step_leOk (fun _ _ h => h)  (decide_eq_false ho2) (fun _ => rfl)) ?_
          refine AllStepC.step rfl (step_move (fun _ _ h => h)) ?_
          refine AllStepC.step rfl (step_move (fun _ _ h => h)) ?_
          refine AllStepC.step rfl (step_loadM (o := 0) (fun _ _ h => h) (fun W hb => (N1.out W hb).c4) (fun _ => rfl)) ?_
          refine AllStepC.step rfl (step_loadM (o := 0) (fun _ _ h => h) (fun W hb => (N2.out W hb).c4) (fun _ => rfl)) ?_
          refine AllStepC.step rfl (step_call3 (Plain.of Try.func19 rfl rfl) (fun _ _ h => h) (fun _ _ h => h) (fun _ _ h => h) (fun w => Cmp_any HO.out.1 HO.out.2 HX.out HY.out w) (fun _ => rfl)) ?_
          refine AllStepC.step rfl (step_loadM (o := 0) (fun _ _ h => h) (fun W hb => (N1.out W hb).c4) (fun _ => rfl)) ?_
          refine AllStepC.step rfl (step_loadM (o := 0) (fun _ _ h => h) (fun W hb => (N2.out W hb).c4) (fun _ => rfl)) ?_
          refine AllStepC.step rfl (step_callk (Plain.of Try.func19 rfl rfl) (fun _ _ h => h) (fun _ _ h => h) (fun w => Cmp_any (by decide) (by decide) HX.out HY.out w) (fun _ => rfl)) ?_
          refine AllStepC.step rfl (step_eqI (fun _ _ h => h) (fun _ _ h => h) (by rw [keyM_else (by omega) (by omega), keyM_else (by omega) (by omega), keyM_else (by omega) (by omega), keyM_else (by omega) (by omega)]; simp) (fun _ => rfl)) ?_
          refine AllStepC.step rfl (step_pickF (fun _ _ h => h) (fun _ _ h => h)) ?_
          refine AllStepC.step rfl (step_pickT (fun _ _ h => h) (fun _ _ h => h)) ?_
          refine AllStepC.step rfl (step_assign (fun _ _ h => h)) ?_
          exact AllStepC.nil
        intro a9 w9 hb9 hs9 hd9 hk9
        refine hK9 _ _ ?_
        refine wp_ret ?_
        exact ret_slot (t := 6) rfl hd9 (hk9 6) ⟨rfl, Below.step HB9.out hb9⟩

theorem MonosGraded_true (w : World) (x : M4) (hx : OkM x) (y : M4) (hy : OkM y) (o : Int) (ho : 0 ≤ o ∧ o ≤ 255) : Calls Try.prog 9 #[mv x, mv y, .int .u8 o] w fun e w' => e = .returned (.bool true) ∧ Below w.heap.size w w' := by
  by_cases hn : 0 < (degM x : Int) - (degM y : Int)
  · exact Graded_more ho hx hy hn w
  · exact Graded_rest ho hx hy hn w

end Go.Proofs.Ytikbjjechhdclaa
