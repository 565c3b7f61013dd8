/- Walks: a number by another one, where nothing is left. -/
import Derived.Test.YtgpoljbccimkjaaGreatDoorFrac
import Derived.Test.YtgpoljbccimkjaaGreatDoorRuns
namespace Go.Proofs.YtgpoljbccimkjaaGreatDoor
set_option linter.unusedSimpArgs false
set_option linter.unusedVariables false
open Go.RowKit Go.Shelf

/-- The number 1, as it lies. -/
def oneB (s : Bool) (l : List Nat) : Bool := !s && decide (l = [1])

set_option maxHeartbeats 1000000 in
theorem isOne_any (s : Bool) (v : Value) (l : List Nat) (w : World) (h : Lim w v l) :
    Calls Tryz.prog 149 #[.agg #[.bool s, v]] w fun e w' => e = .returned (.bool (oneB s l)) ∧ Below w.heap.size w w' := by
  obtain ⟨a, c, rfl, h1, h2, h3, h4⟩ := h
  unfold maxLen at h2
  cases s with
  | true =>
    go_enter Tryz.func149, Tryz.ntmps149
    go_wp2
    go_ret
    exact ⟨rfl, (by repeat (first | exact Below.refl _ _ | with_reducible refine Below.drew ?_ | with_reducible refine below_drewN ?_ _ | with_reducible refine Below.setCell ?_ (by first | (simp; done) | (simp; omega) | omega) _ | with_reducible refine Below.alloc ?_ (by first | (simp; done) | (simp; omega) | omega) _))⟩
  | false =>
    by_cases hl : l.length = 1
    · rcases h4 with ⟨rfl, rfl, rfl⟩ | ⟨b, o, rfl, hc⟩
      · simp at hl
      · obtain ⟨x, rfl⟩ : ∃ x, l = [x] := by
          match l, hl with
          | [x], _ => exact ⟨x, rfl⟩
        have hx := hc 0 (by simp)
        have hcw : (w.alloc (Obj.cells #[Value.bool false, Value.slice (some { block := b, off := o }) 1 c] 24)).cell? ⟨b, o, none⟩ = some (.int .u32 x) := cell_later ((Below.refl w.heap.size w).alloc (Nat.le_refl _) _) hx
        have hone : oneB false [x] = ((x : Int) == 1) := by
          unfold oneB
          rw [Bool.eq_iff_iff]
          simp
          omega
        rw [hone]
        simp only [List.length_cons, List.length_nil, Nat.zero_add] at *
        clear hc hx hone hl
        go_enter Tryz.func149, Tryz.ntmps149
        go_wp2
        go_ret
        exact ⟨rfl, (by repeat (first | exact Below.refl _ _ | with_reducible refine Below.drew ?_ | with_reducible refine below_drewN ?_ _ | with_reducible refine Below.setCell ?_ (by first | (simp; done) | (simp; omega) | omega) _ | with_reducible refine Below.alloc ?_ (by first | (simp; done) | (simp; omega) | omega) _))⟩
    · have hz : ((l.length : Int) == 1) = false := by rw [beq_eq_false_iff_ne]; omega
      have hone : oneB false l = false := by
        unfold oneB
        simp only [Bool.not_false, Bool.true_and, decide_eq_false_iff_not]
        rintro rfl
        exact hl rfl
      rw [hone]
      clear hone hl h4 h3
      go_enter Tryz.func149, Tryz.ntmps149
      go_wp2
      go_ret
      exact ⟨rfl, (by repeat (first | exact Below.refl _ _ | with_reducible refine Below.drew ?_ | with_reducible refine below_drewN ?_ _ | with_reducible refine Below.setCell ?_ (by first | (simp; done) | (simp; omega) | omega) _ | with_reducible refine Below.alloc ?_ (by first | (simp; done) | (simp; omega) | omega) _))⟩

theorem oneB_is {s : Bool} {l : List Nat} {Z : Int} (ho : okB s l = true) (hz : valS s l = Z) : oneB s l = decide (Z = 1) := by
  unfold oneB
  rw [Bool.eq_iff_iff]
  simp only [Bool.and_eq_true, Bool.not_eq_true', decide_eq_true_eq]
  constructor
  · rintro ⟨rfl, rfl⟩
    rw [← hz]
    decide
  · intro e
    exact valS_inj ho (s' := false) (l' := [1]) (by decide) (by rw [hz, e]; decide)
theorem isOne_num {w : World} {u : Value} {k : Nat} {Z : Int} (h : OkAt w u k Z) (r : Bool) (hr : decide (Z = 1) = r) :
    Calls Tryz.prog 149 #[u] w fun e w' => e = .returned (.bool r) ∧ Below w.heap.size w w' := by
  obtain ⟨s, v, l, rfl, h1, h2, h3, h4⟩ := h
  refine (isOne_any s v l w h1).mono ?_
  rintro e w' ⟨h5, h6⟩
  rw [oneB_is h2 h3, hr] at h5
  exact ⟨h5, h6⟩

theorem OkAt.store {W W' : World} {b k : Nat} {u : Value} {Z : Int} (h : OkAt W u k Z) (hs : Stored W W' b) : OkAt W' u k Z := by
  obtain ⟨s, v, l, h1, h2, h3⟩ := h
  exact ⟨s, v, l, h1, hs.lim _ _ h2, h3⟩
theorem OkAt.up {w : World} {u : Value} {k k' : Nat} {Z : Int} (h : OkAt w u k Z) (hk : k ≤ k') : OkAt w u k' Z := by
  obtain ⟨s, v, l, h1, h2, h3, h4, h5⟩ := h
  exact ⟨s, v, l, h1, h2, h3, h4, Nat.le_trans h5 hk⟩

set_option maxHeartbeats 1000000 in
theorem common_num {w : World} {u u' : Value} {k k' : Nat} {P Q : Int} (h : OkAt w u k P) (h' : OkAt w u' k' Q) (hk : k ≤ 1000000) (hk' : k' ≤ 1000000) :
    Calls Tryz.prog 150 #[u, u'] w fun e w' => AnsAt w' e (max k k') ((Int.gcd P Q : Nat) : Int) ∧ Below w.heap.size w w' := by
  have HA := h.keep
  have HB := h'.keep
  have HK : Hid (k ≤ 1000000 ∧ k' ≤ 1000000) := ⟨hk, hk'⟩
  obtain ⟨s, a, n, c, rfl, -⟩ := h.shape
  obtain ⟨s', a', n', c', rfl, -⟩ := h'.shape
  obtain ⟨W0, e0, n1, n2, n3, hb0, -⟩ := box3 w (.bool s) (.slice a n c) (.bool s') (.slice a' n' c') (.bool false) (.slice none 0 0)
  have N1 := Lib.hid n1
  have N2 := Lib.hid n2
  have N3 := Lib.hid n3
  have B0 := Lib.hid hb0
  obtain ⟨c0, c1, -, -⟩ := n1
  clear n2 n3 hb0 h h' hk hk'
  go_enter Tryz.func150, Tryz.ntmps150
  go_wp2_with fail
  clear e0
  by_cases hp : P = 1
  · refine (isOne_num (HA.out _ B0.out) true (decide_eq_true hp)).mono ?_
    rintro e w1 ⟨rfl, hb1⟩
    have HG : Hid (((Int.gcd P Q : Nat) : Int) = P) := by show _ = _; rw [hp, Int.gcd_one_left]; rfl
    have hN := (N3.out.below hb1).v
    have N := Lib.hid hN
    obtain ⟨d0, d1, -, -⟩ := N1.out.below hb1
    obtain ⟨g0, g1, f0, f1⟩ := hN.c2
    have B1 := Lib.hid (Below.step B0.out hb1)
    clear hp hb1 c0 c1 hN
    go_wp2_with fail
    obtain ⟨W', e, hst, hbx⟩ := N.out.store (ys := [.bool s, .slice a n c]) rfl rfl
    simp only [setAll] at e
    rw [e]
    obtain ⟨k0, k1, -, -⟩ := hbx.c2
    refine bodyPost_ret (v := .agg #[.bool s, .slice a n c]) (by simp [results, Tryz.results150, go_sem, k0, k1]) rfl ⟨⟨_, rfl, ?_⟩, hst.below w (by omega) B1.out⟩
    rw [HG.out]
    exact ((HA.out _ B1.out).store hst).up (Nat.le_max_left _ _)
  · refine (isOne_num (HA.out _ B0.out) false (decide_eq_false hp)).mono ?_
    rintro e w1 ⟨rfl, hb1⟩
    obtain ⟨d0, d1, -, -⟩ := N2.out.below hb1
    have B1 := Lib.hid (Below.step B0.out hb1)
    have N1 := Lib.hid (N1.out.below hb1)
    have N2 := Lib.hid (N2.out.below hb1)
    have N3 := Lib.hid (N3.out.below hb1)
    clear hp hb1 c0 c1
    go_wp2_with fail
    by_cases hq : Q = 1
    · refine (isOne_num (HB.out _ B1.out) true (decide_eq_true hq)).mono ?_
      rintro e w2 ⟨rfl, hb2⟩
      have HG : Hid (((Int.gcd P Q : Nat) : Int) = Q) := by show _ = _; rw [hq, Int.gcd_one_right]; rfl
      have hN := (N3.out.below hb2).v
      have N := Lib.hid hN
      obtain ⟨c0, c1, -, -⟩ := N2.out.below hb2
      obtain ⟨g0, g1, f0, f1⟩ := hN.c2
      have B2 := Lib.hid (Below.step B1.out hb2)
      clear hq hb2 d0 d1 hN
      go_wp2_with fail
      obtain ⟨W', e, hst, hbx⟩ := N.out.store (ys := [.bool s', .slice a' n' c']) rfl rfl
      simp only [setAll] at e
      rw [e]
      obtain ⟨k0, k1, -, -⟩ := hbx.c2
      refine bodyPost_ret (v := .agg #[.bool s', .slice a' n' c']) (by simp [results, Tryz.results150, go_sem, k0, k1]) rfl ⟨⟨_, rfl, ?_⟩, hst.below w (by omega) B2.out⟩
      rw [HG.out]
      exact ((HB.out _ B2.out).store hst).up (Nat.le_max_right _ _)
    · refine (isOne_num (HB.out _ B1.out) false (decide_eq_false hq)).mono ?_
      rintro e w2 ⟨rfl, hb2⟩
      obtain ⟨c0, c1, -, -⟩ := N1.out.below hb2
      obtain ⟨c2, c3, -, -⟩ := N2.out.below hb2
      have N3 := Lib.hid (N3.out.below hb2)
      have B2 := Lib.hid (Below.step B1.out hb2)
      clear hq hb2 d0 d1
      go_wp2_with fail
      refine (Gcd_num (OkAt.num (HA.out _ B2.out)) (OkAt.num (HB.out _ B2.out)) HK.out.1 HK.out.2).mono ?_
      rintro e w3 ⟨⟨u3, rfl, h3⟩, hb3⟩
      have H3 := Lib.hid h3
      obtain ⟨s3, a3, n3, c3', rfl, -⟩ := h3.shape
      have hN := (N3.out.below hb3).v
      have N := Lib.hid hN
      obtain ⟨g0, g1, f0, f1⟩ := hN.c2
      have B3 := Lib.hid (Below.step B2.out hb3)
      clear h3 hb3 hN c0 c1 c2 c3
      go_wp2_with fail
      obtain ⟨W', e, hst, hbx⟩ := N.out.store (ys := [.bool s3, .slice a3 n3 c3']) rfl rfl
      simp only [setAll] at e
      rw [e]
      obtain ⟨k0, k1, -, -⟩ := hbx.c2
      exact bodyPost_ret (v := .agg #[.bool s3, .slice a3 n3 c3']) (by simp [results, Tryz.results150, go_sem, k0, k1]) rfl ⟨⟨_, rfl, H3.out.store hst⟩, hst.below w (by omega) B3.out⟩

theorem okF_no1 {s s' : Bool} {l l' : List Nat} (h : okB s l = false) : okF s l s' l' = false := by unfold okF; rw [h]; rfl
theorem okF_no2 {s s' : Bool} {l l' : List Nat} (h : okB s' l' = false) : okF s l s' l' = false := by unfold okF; rw [h]; simp
theorem okF_no3 {s s' : Bool} {l l' : List Nat} (h : ¬ 0 < valS s' l') : okF s l s' l' = false := by unfold okF; simp [h]
theorem okF_is {s s' : Bool} {l l' : List Nat} (h1 : okB s l = true) (h2 : okB s' l' = true) (h3 : 0 < valS s' l') : okF s l s' l' = decide (Int.gcd (valS s l) (valS s' l') = 1) := by unfold okF; simp [h1, h2, h3]

set_option maxHeartbeats 1000000 in
theorem CheckF_any (s s' : Bool) (v v' : Value) (l l' : List Nat) (w : World) (h : Lim w v l) (h' : Lim w v' l') (hl : l.length ≤ 1000000) (hl' : l'.length ≤ 1000000) :
    Calls Tryz.prog 58 #[.agg #[.bool s, v, .bool s', v']] w fun e w' => e = .returned (.bool (okF s l s' l')) ∧ Below w.heap.size w w' := by
  have HL : Hid (∀ W, Below w.heap.size w W → Lim W v l) := fun W hb => h.below hb
  have HL' : Hid (∀ W, Below w.heap.size w W → Lim W v' l') := fun W hb => h'.below hb
  obtain ⟨a, c, rfl, -⟩ := h
  obtain ⟨a', c', rfl, -⟩ := h'
  have N0 := (BoxV.new w [.bool s, .slice a l.length c, .bool s', .slice a' l'.length c'] 58).keep
  have HK : Hid (l.length ≤ 1000000 ∧ l'.length ≤ 1000000) := ⟨hl, hl'⟩
  clear hl hl'
  by_cases ho : okB s l = true
  · by_cases ho' : okB s' l' = true
    · by_cases hp : 0 < valS s' l'
      · have HP : Hid (cmpI (valS s' l') 0 = 1) := by
          unfold cmpI
          rw [if_neg (by omega), if_pos hp]
          trivial
        rw [okF_is ho ho' hp]
        have HO := Lib.hid ho
        have HO' := Lib.hid ho'
        obtain ⟨P, hP⟩ : ∃ P, valS s l = P := ⟨_, rfl⟩
        obtain ⟨Q, hQ⟩ : ∃ Q, valS s' l' = Q := ⟨_, rfl⟩
        rw [hP, hQ]
        rw [hQ] at HP
        have HPP := Lib.hid hP
        have HQQ := Lib.hid hQ
        clear ho ho' hp hP hQ
        go_enter Tryz.func58, Tryz.ntmps58
        go_wp2_with fail
        refine (check_any s _ l _ (HL.out _ (by repeat (first | exact Below.refl _ _ | with_reducible refine Below.drew ?_ | with_reducible refine below_drewN ?_ _ | with_reducible refine Below.setCell ?_ (by first | (simp; done) | (simp; omega) | omega) _ | with_reducible refine Below.alloc ?_ (by first | (simp; done) | (simp; omega) | omega) _)))).mono ?_
        rintro e w1 ⟨rfl, hb1⟩
        rw [HO.out]
        obtain ⟨c0, c1, c2, c3⟩ := (N0.out _ hb1).c4
        have B1 := Lib.hid hb1
        clear hb1
        go_wp2_with fail
        refine (check_any s' _ l' _ (HL'.out _ (Below.step (by repeat (first | exact Below.refl _ _ | with_reducible refine Below.drew ?_ | with_reducible refine below_drewN ?_ _ | with_reducible refine Below.setCell ?_ (by first | (simp; done) | (simp; omega) | omega) _ | with_reducible refine Below.alloc ?_ (by first | (simp; done) | (simp; omega) | omega) _)) B1.out))).mono ?_
        rintro e w2 ⟨rfl, hb2⟩
        rw [HO'.out]
        obtain ⟨d0, d1, d2, d3⟩ := (N0.out _ (Below.step B1.out hb2)).c4
        have B2 := Lib.hid (Below.step B1.out hb2)
        clear hb2 c0 c1 c2 c3
        go_wp2_with fail
        refine (Sign_num (OkAt.num ⟨s', _, l', rfl, HL'.out _ (Below.step (by repeat (first | exact Below.refl _ _ | with_reducible refine Below.drew ?_ | with_reducible refine below_drewN ?_ _ | with_reducible refine Below.setCell ?_ (by first | (simp; done) | (simp; omega) | omega) _ | with_reducible refine Below.alloc ?_ (by first | (simp; done) | (simp; omega) | omega) _)) B2.out), HO'.out, HQQ.out, HK.out.2⟩) 1 HP.out).mono ?_
        rintro e w3 ⟨rfl, hb3⟩
        obtain ⟨c0, c1, c2, c3⟩ := (N0.out _ (Below.step B2.out hb3)).c4
        have B3 := Lib.hid (Below.step B2.out hb3)
        clear hb3 d0 d1 d2 d3
        go_wp2_with fail
        refine (common_num ⟨s, _, l, rfl, HL.out _ (Below.step (by repeat (first | exact Below.refl _ _ | with_reducible refine Below.drew ?_ | with_reducible refine below_drewN ?_ _ | with_reducible refine Below.setCell ?_ (by first | (simp; done) | (simp; omega) | omega) _ | with_reducible refine Below.alloc ?_ (by first | (simp; done) | (simp; omega) | omega) _)) B3.out), HO.out, HPP.out, HK.out.1⟩ ⟨s', _, l', rfl, HL'.out _ (Below.step (by repeat (first | exact Below.refl _ _ | with_reducible refine Below.drew ?_ | with_reducible refine below_drewN ?_ _ | with_reducible refine Below.setCell ?_ (by first | (simp; done) | (simp; omega) | omega) _ | with_reducible refine Below.alloc ?_ (by first | (simp; done) | (simp; omega) | omega) _)) B3.out), HO'.out, HQQ.out, HK.out.2⟩ (by decide) (by decide)).mono ?_
        rintro e w5 ⟨⟨u5, rfl, h5⟩, hb5⟩
        have B5 := Lib.hid (Below.step B3.out hb5)
        have H5 := Lib.hid h5
        obtain ⟨s5, a5, n5, c5, rfl, -⟩ := h5.shape
        clear hb5 h5
        go_wp2_with fail
        refine (isOne_num H5.out _ rfl).mono ?_
        rintro e w6 ⟨rfl, hb6⟩
        have HG : Hid (decide (((Int.gcd P Q : Nat) : Int) = 1) = decide (Int.gcd P Q = 1)) := by
          rw [Bool.eq_iff_iff]
          simp only [decide_eq_true_eq]
          show _ ↔ _
          omega
        rw [HG.out]
        go_wp2_with fail
        go_ret
        exact ⟨rfl, Below.step (by repeat (first | exact Below.refl _ _ | with_reducible refine Below.drew ?_ | with_reducible refine below_drewN ?_ _ | with_reducible refine Below.setCell ?_ (by first | (simp; done) | (simp; omega) | omega) _ | with_reducible refine Below.alloc ?_ (by first | (simp; done) | (simp; omega) | omega) _)) (Below.step B5.out hb6)⟩
      · have HP : Hid (cmpI (valS s' l') 0 = -1 ∨ cmpI (valS s' l') 0 = 0) := by
          unfold cmpI
          by_cases hn : valS s' l' < 0
          · exact .inl (if_pos hn)
          · refine .inr ?_
            rw [if_neg hn, if_neg hp]
        rw [okF_no3 hp]
        have HO := Lib.hid ho
        have HO' := Lib.hid ho'
        clear ho ho' hp
        go_enter Tryz.func58, Tryz.ntmps58
        go_wp2_with fail
        refine (check_any s _ l _ (HL.out _ (by repeat (first | exact Below.refl _ _ | with_reducible refine Below.drew ?_ | with_reducible refine below_drewN ?_ _ | with_reducible refine Below.setCell ?_ (by first | (simp; done) | (simp; omega) | omega) _ | with_reducible refine Below.alloc ?_ (by first | (simp; done) | (simp; omega) | omega) _)))).mono ?_
        rintro e w1 ⟨rfl, hb1⟩
        rw [HO.out]
        obtain ⟨c0, c1, c2, c3⟩ := (N0.out _ hb1).c4
        have B1 := Lib.hid hb1
        clear hb1
        go_wp2_with fail
        refine (check_any s' _ l' _ (HL'.out _ (Below.step (by repeat (first | exact Below.refl _ _ | with_reducible refine Below.drew ?_ | with_reducible refine below_drewN ?_ _ | with_reducible refine Below.setCell ?_ (by first | (simp; done) | (simp; omega) | omega) _ | with_reducible refine Below.alloc ?_ (by first | (simp; done) | (simp; omega) | omega) _)) B1.out))).mono ?_
        rintro e w2 ⟨rfl, hb2⟩
        rw [HO'.out]
        obtain ⟨d0, d1, d2, d3⟩ := (N0.out _ (Below.step B1.out hb2)).c4
        have B2 := Lib.hid (Below.step B1.out hb2)
        clear hb2 c0 c1 c2 c3
        go_wp2_with fail
        rcases HP.out with hr | hr
        · refine (Sign_num (OkAt.num ⟨s', _, l', rfl, HL'.out _ (Below.step (by repeat (first | exact Below.refl _ _ | with_reducible refine Below.drew ?_ | with_reducible refine below_drewN ?_ _ | with_reducible refine Below.setCell ?_ (by first | (simp; done) | (simp; omega) | omega) _ | with_reducible refine Below.alloc ?_ (by first | (simp; done) | (simp; omega) | omega) _)) B2.out), HO'.out, rfl, HK.out.2⟩) (-1) hr).mono ?_
          rintro e w3 ⟨rfl, hb3⟩
          clear hr HP
          go_wp2_with fail
          go_ret
          exact ⟨rfl, Below.step (by repeat (first | exact Below.refl _ _ | with_reducible refine Below.drew ?_ | with_reducible refine below_drewN ?_ _ | with_reducible refine Below.setCell ?_ (by first | (simp; done) | (simp; omega) | omega) _ | with_reducible refine Below.alloc ?_ (by first | (simp; done) | (simp; omega) | omega) _)) (Below.step B2.out hb3)⟩
        · refine (Sign_num (OkAt.num ⟨s', _, l', rfl, HL'.out _ (Below.step (by repeat (first | exact Below.refl _ _ | with_reducible refine Below.drew ?_ | with_reducible refine below_drewN ?_ _ | with_reducible refine Below.setCell ?_ (by first | (simp; done) | (simp; omega) | omega) _ | with_reducible refine Below.alloc ?_ (by first | (simp; done) | (simp; omega) | omega) _)) B2.out), HO'.out, rfl, HK.out.2⟩) 0 hr).mono ?_
          rintro e w3 ⟨rfl, hb3⟩
          clear hr HP
          go_wp2_with fail
          go_ret
          exact ⟨rfl, Below.step (by repeat (first | exact Below.refl _ _ | with_reducible refine Below.drew ?_ | with_reducible refine below_drewN ?_ _ | with_reducible refine Below.setCell ?_ (by first | (simp; done) | (simp; omega) | omega) _ | with_reducible refine Below.alloc ?_ (by first | (simp; done) | (simp; omega) | omega) _)) (Below.step B2.out hb3)⟩
    · have ho2 : okB s' l' = false := by simpa using ho'
      rw [okF_no2 ho2]
      have HO := Lib.hid ho
      have HO' := Lib.hid ho2
      clear ho ho' ho2
      go_enter Tryz.func58, Tryz.ntmps58
      go_wp2_with fail
      refine (check_any s _ l _ (HL.out _ (by repeat (first | exact Below.refl _ _ | with_reducible refine Below.drew ?_ | with_reducible refine below_drewN ?_ _ | with_reducible refine Below.setCell ?_ (by first | (simp; done) | (simp; omega) | omega) _ | with_reducible refine Below.alloc ?_ (by first | (simp; done) | (simp; omega) | omega) _)))).mono ?_
      rintro e w1 ⟨rfl, hb1⟩
      rw [HO.out]
      obtain ⟨c0, c1, c2, c3⟩ := (N0.out _ hb1).c4
      have B1 := Lib.hid hb1
      clear hb1
      go_wp2_with fail
      refine (check_any s' _ l' _ (HL'.out _ (Below.step (by repeat (first | exact Below.refl _ _ | with_reducible refine Below.drew ?_ | with_reducible refine below_drewN ?_ _ | with_reducible refine Below.setCell ?_ (by first | (simp; done) | (simp; omega) | omega) _ | with_reducible refine Below.alloc ?_ (by first | (simp; done) | (simp; omega) | omega) _)) B1.out))).mono ?_
      rintro e w2 ⟨rfl, hb2⟩
      rw [HO'.out]
      go_wp2_with fail
      go_ret
      exact ⟨rfl, Below.step (by repeat (first | exact Below.refl _ _ | with_reducible refine Below.drew ?_ | with_reducible refine below_drewN ?_ _ | with_reducible refine Below.setCell ?_ (by first | (simp; done) | (simp; omega) | omega) _ | with_reducible refine Below.alloc ?_ (by first | (simp; done) | (simp; omega) | omega) _)) (Below.step B1.out hb2)⟩
  · have ho2 : okB s l = false := by simpa using ho
    rw [okF_no1 ho2]
    have HO := Lib.hid ho2
    clear ho ho2
    go_enter Tryz.func58, Tryz.ntmps58
    go_wp2_with fail
    refine (check_any s _ l _ (HL.out _ (by repeat (first | exact Below.refl _ _ | with_reducible refine Below.drew ?_ | with_reducible refine below_drewN ?_ _ | with_reducible refine Below.setCell ?_ (by first | (simp; done) | (simp; omega) | omega) _ | with_reducible refine Below.alloc ?_ (by first | (simp; done) | (simp; omega) | omega) _)))).mono ?_
    rintro e w1 ⟨rfl, hb1⟩
    rw [HO.out]
    go_wp2_with fail
    go_ret
    exact ⟨rfl, Below.step (by repeat (first | exact Below.refl _ _ | with_reducible refine Below.drew ?_ | with_reducible refine below_drewN ?_ _ | with_reducible refine Below.setCell ?_ (by first | (simp; done) | (simp; omega) | omega) _ | with_reducible refine Below.alloc ?_ (by first | (simp; done) | (simp; omega) | omega) _)) hb1⟩

end Go.Proofs.YtgpoljbccimkjaaGreatDoor

namespace Go.Proofs.YtgpoljbccimkjaaGreatDoor
set_option linter.unusedSimpArgs false
set_option linter.unusedVariables false
open Go.RowKit Go.Shelf

/-- A box for a fraction. -/
theorem box_fr (w : World) : ∃ W0, w.alloc (.cells #[.bool false, .slice none 0 0, .bool false, .slice none 0 0] 58) = W0 ∧ BoxV W0 w.heap.size [.bool false, .slice none 0 0, .bool false, .slice none 0 0] ∧ Below w.heap.size w W0 ∧ w.heap.size < W0.heap.size :=
  ⟨_, rfl, BoxV.new _ _ _, (Below.refl _ _).alloc (Nat.le_refl _) _, by simp⟩
theorem noU32_4 (s s' : Bool) (a a' : Option Addr) (n c n' c' : Nat) : [Value.bool s, Value.slice a n c, Value.bool s', Value.slice a' n' c'].all noU32 = true := rfl
theorem FrOk.store {W W' : World} {b k : Nat} {u : Value} {q : Rat} (h : FrOk W u k q) (hs : Stored W W' b) : FrOk W' u k q := by
  obtain ⟨s, v, l, s', v', l', h1, h2, h3, h4⟩ := h
  exact ⟨s, v, l, s', v', l', h1, hs.lim _ _ h2, hs.lim _ _ h3, h4⟩

set_option maxHeartbeats 1000000 in
theorem OfF_num (n : Int) (w : World) (h1 : -9223372036854775808 ≤ n) (h2 : n ≤ 9223372036854775807) :
    Calls Tryz.prog 54 #[.int .i64 n] w fun e w' => FrAns w' e 3 (n : Rat) ∧ Below w.heap.size w w' := by
  have HB : Hid (-9223372036854775808 ≤ n ∧ n ≤ 9223372036854775807) := ⟨h1, h2⟩
  clear h1 h2
  obtain ⟨W0, e0, hN, hb0, -⟩ := box_fr w
  have N0 := hN.keep
  have B0 := Lib.hid hb0
  clear hN hb0
  go_enter Tryz.func54, Tryz.ntmps54
  go_wp2_with fail
  clear e0
  refine (Of_num n _ HB.out.1 HB.out.2).mono ?_
  rintro e w1 ⟨⟨u1, rfl, h1⟩, hb1⟩
  have K1 := h1.keep
  obtain ⟨s1, a1, n1, c1, rfl, -⟩ := h1.shape
  have B1 := Lib.hid hb1
  clear h1 hb1
  go_wp2_with fail
  refine (Of_num 1 _ (by decide) (by decide)).mono ?_
  rintro e w2 ⟨⟨u2, rfl, h2⟩, hb2⟩
  have K2 := h2.keep
  have K1' := Lib.hid (K1.out _ hb2)
  obtain ⟨s2, a2, n2, c2, rfl, -⟩ := h2.shape
  have B2 := Lib.hid (Below.step B1.out hb2)
  have hN2 := N0.out _ B2.out
  have N2 := Lib.hid hN2
  obtain ⟨d0, d1, d2, d3⟩ := hN2.c4
  obtain ⟨f0, f1, f2, f3⟩ := hN2.f4
  clear h2 hb2 hN2
  go_wp2_with fail
  obtain ⟨W', e, hst, hbx⟩ := N2.out.store (ys := [.bool s1, .slice a1 n1 c1, .bool s2, .slice a2 n2 c2]) rfl (noU32_4 ..)
  simp only [setAll] at e
  rw [e]
  obtain ⟨g0, g1, g2, g3⟩ := hbx.c4
  refine bodyPost_ret (v := .agg #[.bool s1, .slice a1 n1 c1, .bool s2, .slice a2 n2 c2]) (by simp [results, Tryz.results54, go_sem, g0, g1, g2, g3]) rfl ⟨⟨_, rfl, ?_⟩, hst.below w (Nat.le_refl _) (Below.step B0.out B2.out)⟩
  exact (FrOk.join (K1'.out) (K2.out _ (Below.refl _ _)) (by simp) (by simp)).store hst

/-- A fraction's box, and one for the answer. -/
theorem box_fr_ans (w : World) (x0 x1 x2 x3 : Value) : ∃ W0, (w.alloc (.cells #[x0, x1, x2, x3] 58)).alloc (.cells #[.bool false, .slice none 0 0, .bool false, .slice none 0 0] 58) = W0 ∧ BoxV W0 w.heap.size [x0, x1, x2, x3] ∧ BoxV W0 (w.heap.size + 1) [.bool false, .slice none 0 0, .bool false, .slice none 0 0] ∧ Below w.heap.size w W0 := by
  have h1 := BoxV.new w [x0, x1, x2, x3] 58
  have h2 := BoxV.new (w.alloc (.cells #[x0, x1, x2, x3] 58)) [.bool false, .slice none 0 0, .bool false, .slice none 0 0] 58
  rw [World.size_alloc] at h2
  exact ⟨_, rfl, h1.below ((Below.refl _ _).alloc (Nat.le_refl _) _), h2, ((Below.refl _ _).alloc (Nat.le_refl _) _).alloc (by simp) _⟩

theorem CheckF_at {w : World} {u : Value} {k : Nat} {q : Rat} (h : FrAt w u k q) (hk : k ≤ 1000000) :
    Calls Tryz.prog 58 #[u] w fun e w' => (e = .returned (.bool true) ∧ FrOk w u k q ∨ e = .returned (.bool false) ∧ q = 0) ∧ Below w.heap.size w w' := by
  obtain ⟨s, v, l, s', v', l', rfl, h2, h3, h4, h5, h6⟩ := h
  refine (CheckF_any s s' v v' l l' w h2 h3 (by omega) (by omega)).mono ?_
  rintro e w' ⟨rfl, hb⟩
  refine ⟨?_, hb⟩
  cases ho : okF s l s' l' with
  | true =>
    obtain ⟨g1, g2, g3, g4⟩ := okF_spec ho
    rw [h4] at g3 g4
    exact .inl ⟨rfl, s, v, l, s', v', l', rfl, h2, h3, g1, g2, g3, g4, h5, h6⟩
  | false => exact .inr ⟨rfl, by rw [← h4]; exact ratZ_not ho⟩
theorem CheckF_ok {w : World} {u : Value} {k : Nat} {q : Rat} (h : FrOk w u k q) (hk : k ≤ 1000000) :
    Calls Tryz.prog 58 #[u] w fun e w' => e = .returned (.bool true) ∧ Below w.heap.size w w' := by
  obtain ⟨s, v, l, s', v', l', rfl, h2, h3, h4, h5, h6, h7, h8, h9⟩ := h
  refine (CheckF_any s s' v v' l l' w h2 h3 (by omega) (by omega)).mono ?_
  rintro e w' ⟨rfl, hb⟩
  rw [(okF_of h4 h5 h6 h7).1]
  exact ⟨rfl, hb⟩

set_option maxHeartbeats 1000000 in
theorem orNoughtF_at {w : World} {u : Value} {k : Nat} {q : Rat} (h : FrAt w u k q) (h1 : 1 ≤ k) (hk : k ≤ 1000000) :
    Calls Tryz.prog 136 #[u] w fun e w' => FrAns w' e k q ∧ Below w.heap.size w w' := by
  have HA := h.keep
  have HK : Hid (1 ≤ k ∧ k ≤ 1000000) := ⟨h1, hk⟩
  obtain ⟨s, v, l, s', v', l', rfl, h2, h3, -⟩ := h
  obtain ⟨a, c, rfl, -⟩ := h2
  obtain ⟨a', c', rfl, -⟩ := h3
  obtain ⟨W0, e0, hN1, hN2, hb0⟩ := box_fr_ans w (.bool s) (.slice a l.length c) (.bool s') (.slice a' l'.length c')
  have N1 := hN1.keep
  have N2 := hN2.keep
  have B0 := Lib.hid hb0
  obtain ⟨c0, c1, c2, c3⟩ := hN1.c4
  clear hN1 hN2 hb0 h1 hk
  go_enter Tryz.func136, Tryz.ntmps136
  go_wp2_with fail
  clear e0
  refine (CheckF_at (HA.out _ B0.out) HK.out.2).mono ?_
  rintro e w1 ⟨⟨rfl, hok⟩ | ⟨rfl, hq⟩, hb1⟩
  · obtain ⟨d0, d1, d2, d3⟩ := (N1.out _ hb1).c4
    have hN2 := N2.out _ hb1
    have N2' := Lib.hid hN2
    obtain ⟨f0, f1, f2, f3⟩ := hN2.f4
    obtain ⟨g0, g1, g2, g3⟩ := hN2.c4
    have HO := Lib.hid (hok.below hb1)
    have B1 := Lib.hid (Below.step B0.out hb1)
    clear hok hb1 hN2 c0 c1 c2 c3
    go_wp2_with fail
    obtain ⟨W', e, hst, hbx⟩ := N2'.out.store (ys := [.bool s, .slice a l.length c, .bool s', .slice a' l'.length c']) rfl (noU32_4 ..)
    simp only [setAll] at e
    rw [e]
    obtain ⟨k0, k1, k2, k3⟩ := hbx.c4
    exact bodyPost_ret (v := .agg #[.bool s, .slice a l.length c, .bool s', .slice a' l'.length c']) (by simp [results, Tryz.results136, go_sem, k0, k1, k2, k3]) rfl ⟨⟨_, rfl, HO.out.store hst⟩, hst.below w (Nat.le_succ _) B1.out⟩
  · have B1 := Lib.hid (Below.step B0.out hb1)
    have N2' := (N2.out _ hb1).keep
    have HQ := Lib.hid hq
    clear hq hb1
    go_wp2_with fail
    refine (OfF_num 0 _ (by decide) (by decide)).mono ?_
    rintro e w2 ⟨⟨u2, rfl, h2⟩, hb2⟩
    have H2 := Lib.hid h2
    obtain ⟨s2, a2, n2, c2, s2', a2', n2', c2', rfl, -⟩ := h2.split
    have hN2 := N2'.out _ hb2
    have N2'' := Lib.hid hN2
    obtain ⟨f0, f1, f2, f3⟩ := hN2.f4
    obtain ⟨g0, g1, g2, g3⟩ := hN2.c4
    have B2 := Lib.hid (Below.step B1.out hb2)
    clear hb2 h2 hN2
    go_wp2_with fail
    obtain ⟨W', e, hst, hbx⟩ := N2''.out.store (ys := [.bool s2, .slice a2 n2 c2, .bool s2', .slice a2' n2' c2']) rfl (noU32_4 ..)
    simp only [setAll] at e
    rw [e]
    obtain ⟨k0, k1, k2, k3⟩ := hbx.c4
    refine bodyPost_ret (v := .agg #[.bool s2, .slice a2 n2 c2, .bool s2', .slice a2' n2' c2']) (by simp [results, Tryz.results136, go_sem, k0, k1, k2, k3]) rfl ⟨⟨_, rfl, ?_⟩, hst.below w (Nat.le_succ _) B2.out⟩
    rw [HQ.out]
    exact (H2.out.store hst).fit (RatLt.zero HK.out.1)

end Go.Proofs.YtgpoljbccimkjaaGreatDoor

namespace Go.Proofs.YtgpoljbccimkjaaGreatDoor
set_option linter.unusedSimpArgs false
set_option linter.unusedVariables false
open Go.RowKit Go.Shelf

theorem OkAt.none (w : World) : OkAt w (.agg #[.bool false, .slice none 0 0]) 0 0 := ⟨false, _, [], rfl, Lim.nil w, by decide, by decide, Nat.le_refl _⟩
theorem div_bound {Z Z' : Int} {k : Nat} (h : Z.natAbs < 1000000000 ^ k) (hd : Z' ∣ Z) : (Z / Z').natAbs < 1000000000 ^ k := by
  refine Nat.lt_of_le_of_lt ?_ h
  obtain ⟨m, rfl⟩ := hd
  by_cases h0 : Z' = 0
  · subst h0
    simp
  · rw [Int.mul_ediv_cancel_left _ h0, Int.natAbs_mul]
    exact Nat.le_mul_of_pos_left _ (by omega)

set_option maxHeartbeats 1000000 in
theorem over_num {w : World} {u u' : Value} {k k' : Nat} {Z Z' : Int} (h : OkAt w u k Z) (h' : OkAt w u' k' Z') (hk : k ≤ 1000000) (hk' : k' ≤ 1000000) (h0 : Z' ≠ 0) (hd : Z' ∣ Z) :
    Calls Tryz.prog 199 #[u, u'] w fun e w' => AnsAt w' e k (Z / Z') ∧ Below w.heap.size w w' := by
  have HA := h.keep
  have HB := h'.keep
  have HZ : Hid ((Z / Z').natAbs < 1000000000 ^ k) := div_bound h.num.bound hd
  have HK : Hid (k ≤ 1000000 ∧ k' ≤ 1000000 ∧ Z' ≠ 0) := ⟨hk, hk', h0⟩
  obtain ⟨s, a, n, c, rfl, -⟩ := h.shape
  obtain ⟨s', a', n', c', rfl, -⟩ := h'.shape
  obtain ⟨W0, e0, n1, n2, n3, hb0, -⟩ := box3 w (.bool s) (.slice a n c) (.bool s') (.slice a' n' c') (.bool false) (.slice none 0 0)
  have N1 := Lib.hid n1
  have N2 := Lib.hid n2
  have N3 := Lib.hid n3
  have B0 := Lib.hid hb0
  obtain ⟨c0, c1, -, -⟩ := n1
  obtain ⟨c2, c3, -, -⟩ := n2
  clear n3 hb0 h h' hk hk' h0 hd
  go_enter Tryz.func199, Tryz.ntmps199
  go_wp2_with fail
  clear e0
  by_cases hone : Z' = 1
  · refine (isOne_num (HB.out _ B0.out) true (decide_eq_true hone)).mono ?_
    rintro e w1 ⟨rfl, hb1⟩
    have HO := Lib.hid hone
    have hN1 := N1.out.below hb1
    have hN := (N3.out.below hb1).v
    have N := Lib.hid hN
    obtain ⟨d0, d1, -, -⟩ := hN1
    obtain ⟨g0, g1, f0, f1⟩ := hN.c2
    have B1 := Lib.hid (Below.step B0.out hb1)
    clear hone hb1 c0 c1 c2 c3 hN
    go_wp2_with fail
    obtain ⟨W', e, hst, hbx⟩ := N.out.store (ys := [.bool s, .slice a n c]) rfl rfl
    simp only [setAll] at e
    rw [e]
    obtain ⟨k0, k1, -, -⟩ := hbx.c2
    refine bodyPost_ret (v := .agg #[.bool s, .slice a n c]) (by simp [results, Tryz.results199, go_sem, k0, k1]) rfl ⟨⟨_, rfl, ?_⟩, hst.below w (by omega) B1.out⟩
    have hz : Z / Z' = Z := by rw [HO.out]; simp
    rw [hz]
    exact (HA.out _ B1.out).store hst
  · refine (isOne_num (HB.out _ B0.out) false (decide_eq_false hone)).mono ?_
    rintro e w1 ⟨rfl, hb1⟩
    obtain ⟨d0, d1, -, -⟩ := N1.out.below hb1
    obtain ⟨d2, d3, -, -⟩ := N2.out.below hb1
    have N3' := Lib.hid (N3.out.below hb1)
    have B1 := Lib.hid (Below.step B0.out hb1)
    clear hone hb1 c0 c1 c2 c3
    go_wp2_with fail
    refine (Div_num (HA.out _ B1.out) (HB.out _ B1.out) HK.out.1 HK.out.2.1 HK.out.2.2).mono ?_
    rintro e w2 ⟨⟨sq, aq, nq, cq, sr, ar, nr, cr, rfl, h2, -, -, -⟩, hb2⟩
    have H2 := Lib.hid h2
    have N3'' := Lib.hid (N3'.out.below hb2)
    have B2 := Lib.hid (Below.step B1.out hb2)
    clear h2 hb2 d0 d1 d2 d3
    obtain ⟨W3, e3, m1, m2, b3, -⟩ := box2 w2 (.bool sq) (.slice aq nq cq) (.bool sr) (.slice ar nr cr)
    have hN := (N3''.out.below b3).v
    have N := Lib.hid hN
    obtain ⟨g0, g1, f0, f1⟩ := hN.c2
    have B3 := Lib.hid b3
    obtain ⟨d0, d1, -, -⟩ := m1
    clear m2 b3 hN
    go_wp2_with fail
    clear e3
    obtain ⟨W', e, hst, hbx⟩ := N.out.store (ys := [.bool sq, .slice aq nq cq]) rfl rfl
    simp only [setAll] at e
    rw [e]
    obtain ⟨k0, k1, -, -⟩ := hbx.c2
    refine bodyPost_ret (v := .agg #[.bool sq, .slice aq nq cq]) (by simp [results, Tryz.results199, go_sem, k0, k1]) rfl ⟨⟨_, rfl, ?_⟩, hst.below w (by omega) (Below.step B2.out B3.out)⟩
    exact ((H2.out.below B3.out).store hst).fit HZ.out

end Go.Proofs.YtgpoljbccimkjaaGreatDoor
