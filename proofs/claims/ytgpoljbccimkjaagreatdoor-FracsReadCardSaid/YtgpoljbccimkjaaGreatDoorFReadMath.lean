/- Plain facts: fractions' texts, and back. -/
import Derived.Test.YtgpoljbccimkjaaGreatDoorFText
namespace Go.Proofs.YtgpoljbccimkjaaGreatDoor
set_option linter.unusedSimpArgs false
set_option linter.unusedVariables false

theorem exists_parts : ∀ (k n : Nat), n ≤ k → ∃ L, (∀ x ∈ L, x < 1000000000) ∧ Top L ∧ val L = n
  | _, 0, _ => ⟨[], by simp, .inl rfl, rfl⟩
  | 0, n + 1, h => by omega
  | k + 1, n + 1, h => by
    obtain ⟨L, h1, h2, h3⟩ := exists_parts k ((n + 1) / 1000000000) (by omega)
    refine ⟨(n + 1) % 1000000000 :: L, ?_, .inr ?_, ?_⟩
    · intro x hx
      rcases List.mem_cons.1 hx with rfl | hx
      · omega
      · exact h1 x hx
    · by_cases hL : L = []
      · subst hL
        have h4 : (n + 1) / 1000000000 = 0 := h3.symm
        show pt [(n + 1) % 1000000000] 0 ≠ 0
        rw [pt_getElem (by simp)]
        show (n + 1) % 1000000000 ≠ 0
        omega
      · rcases h2 with h2 | h2
        · exact absurd h2 hL
        · have hp : 0 < L.length := List.length_pos_iff.2 hL
          have e : pt ((n + 1) % 1000000000 :: L) (L.length + 1 - 1) = pt L (L.length - 1) := by
            rw [pt_getElem (by simp), pt_getElem (by omega)]
            rw [List.getElem_cons]
            rw [dif_neg (by omega)]
            congr 1
          simp only [List.length_cons]
          rw [e]
          exact h2
    · show (n + 1) % 1000000000 + 1000000000 * val L = n + 1
      rw [h3]
      omega
/-- Each number is one of parts. -/
theorem exists_rep (Z : Int) : ∃ s L, okB s L = true ∧ valS s L = Z := by
  obtain ⟨L, h1, h2, h3⟩ := exists_parts Z.natAbs Z.natAbs (Nat.le_refl _)
  by_cases hz : Z < 0
  · refine ⟨true, L, okB_iff.2 ⟨h1, h2, fun e => ?_⟩, ?_⟩
    · subst e
      have : Z.natAbs = 0 := h3.symm
      omega
    · show -(val L : Int) = Z
      rw [h3]
      omega
  · refine ⟨false, L, okB_iff.2 ⟨h1, h2, fun _ => rfl⟩, ?_⟩
    show (val L : Int) = Z
    rw [h3]
    omega
theorem decI_rep (Z : Int) : ∃ s L, okB s L = true ∧ valS s L = Z ∧ decI Z = txt s L ∧ val L = Z.natAbs := by
  obtain ⟨s, L, h1, h2⟩ := exists_rep Z
  refine ⟨s, L, h1, h2, ?_, ?_⟩
  · rw [txt_decI h1, h2]
  · rw [← valS_abs s L, h2]

/-- A number's text is read as it, if its digits are not too many. -/
theorem decI_read {Z : Int} (h : (Lib.decDigits Z.natAbs).length ≤ 200) : parseE (decI Z) = 0 ∧ parseZ (decI Z) = Z := by
  obtain ⟨s, L, h1, h2, h3, h4⟩ := decI_rep Z
  have := (txt_read h1).1 (by rw [h4]; exact h)
  rw [h3, ← h2]
  exact this
/-- A text that is read is the number's. -/
theorem read_decI {l : List UInt8} (h : parseE l = 0) : decI (parseZ l) = l := by
  obtain ⟨s, L, h1, h2, h3, -⟩ := decI_rep (parseZ l)
  rw [h3]
  exact read_txt h h1 h2
theorem decI_digits (Z : Int) : digitsB (Lib.decDigits Z.natAbs) = true := by
  obtain ⟨s, L, h1, h2, h3, h4⟩ := decI_rep Z
  obtain ⟨h5, h6, -⟩ := txt_form h1
  unfold formB at h5
  simp only [Bool.or_eq_false_iff, Bool.not_eq_false'] at h5
  have h7 := h5.1
  rw [h6, h4] at h7
  unfold plainB at h7
  rw [Bool.and_eq_true] at h7
  exact h7.1
theorem digits_no47 {l : List UInt8} (h : digitsB l = true) : ∀ c ∈ l, (c == 47) = false := by
  intro c hc
  unfold digitsB at h
  have := List.all_eq_true.1 h c hc
  simp only [Bool.and_eq_true, decide_eq_true_eq] at this
  rw [beq_eq_false_iff_ne]
  rintro rfl
  have h1 := this.1
  have h2 : (47 : UInt8).toNat = 47 := rfl
  omega
theorem decI_no47 (Z : Int) : ∀ c ∈ decI Z, (c == 47) = false := by
  intro c hc
  unfold decI at hc
  split at hc
  · rcases List.mem_cons.1 hc with rfl | hc
    · rfl
    · exact digits_no47 (decI_digits Z) c hc
  · exact digits_no47 (decI_digits Z) c hc
theorem cutAt_app : ∀ {l : List UInt8} (r : List UInt8), (∀ c ∈ l, (c == 47) = false) → cutAt (l ++ 47 :: r) = (l, r, true)
  | [], r, _ => rfl
  | b :: l, r, h => by
    have hb := h b List.mem_cons_self
    have ih := cutAt_app (l := l) r (fun c hc => h c (List.mem_cons_of_mem _ hc))
    show cutAt (b :: (l ++ 47 :: r)) = _
    unfold cutAt
    rw [if_neg (by simp [hb]), ih]
theorem cutAt_all : ∀ {l : List UInt8}, (∀ c ∈ l, (c == 47) = false) → cutAt l = (l, [], false)
  | [], _ => rfl
  | b :: l, h => by
    have hb := h b List.mem_cons_self
    have ih := cutAt_all (l := l) (fun c hc => h c (List.mem_cons_of_mem _ hc))
    unfold cutAt
    rw [if_neg (by simp [hb]), ih]
theorem cutAt_back : ∀ (l : List UInt8), if (cutAt l).2.2 then l = (cutAt l).1 ++ 47 :: (cutAt l).2.1 else l = (cutAt l).1
  | [] => by simp [cutAt]
  | b :: l => by
    have ih := cutAt_back l
    unfold cutAt
    by_cases hb : (b == 47) = true
    · rw [if_pos hb]
      have : b = 47 := by simpa using hb
      subst this
      simp
    · rw [if_neg hb]
      by_cases h2 : (cutAt l).2.2 = true
      · rw [if_pos h2] at ih
        simp only [h2, if_true]
        rw [List.cons_append, ← ih]
      · rw [if_neg h2] at ih
        simp only [h2]
        simp only [Bool.false_eq_true, if_false]
        rw [← ih]

theorem decI_pos {n : Nat} (h : 0 < n) : decI (n : Int) ≠ [48] ∧ Lib.hasPrefix (decI (n : Int)) [45] = false := by
  have e : decI (n : Int) = Lib.decDigits n := by
    unfold decI
    rw [if_neg (by omega), Int.natAbs_natCast]
  rw [e]
  constructor
  · intro h1
    have h2 := decDigits_head h
    rw [h1] at h2
    exact absurd h2 (by decide)
  · have h1 := head_digits (n := n)
    exact above_of_head (by omega)

/-- A fraction's text is read as it, if its digits are not too many. -/
theorem txtR_read {q : Rat} (h1 : (Lib.decDigits q.num.natAbs).length ≤ 200) (h2 : (Lib.decDigits q.den).length ≤ 200) : fracE (txtR q) = 0 ∧ fracQ (txtR q) = q := by
  have hd : 0 < q.den := q.den_pos
  obtain ⟨r1, r2⟩ := decI_read h1
  obtain ⟨r3, r4⟩ := decI_read (Z := (q.den : Int)) (by rw [Int.natAbs_natCast]; exact h2)
  by_cases hone : q.den = 1
  · have e : txtR q = decI q.num := by unfold txtR; rw [if_pos hone]
    have hc := cutAt_all (decI_no47 q.num)
    have hB : belowOf (txtR q) = [49] := by unfold belowOf; rw [e, hc]; rfl
    have hA : (cutAt (txtR q)).1 = decI q.num := by rw [e, hc]
    have g1 : parseE [49] = 0 := by decide +kernel
    have g2 : parseZ [49] = 1 := by decide +kernel
    refine ⟨fracE_ok ?_ (by rw [hA]; exact r1) (by rw [hB]; exact g1), ?_⟩
    · unfold fracForm
      rw [hA, hB, r1, g1]
      decide
    · unfold fracQ
      rw [hA, hB, r2, g2, show (1 : Int) = (q.den : Int) by omega, Rat.num_divInt_den]
  · have e : txtR q = decI q.num ++ 47 :: decI (q.den : Int) := by unfold txtR; rw [if_neg hone]; simp
    have hc := cutAt_app (decI (q.den : Int)) (decI_no47 q.num)
    have hB : belowOf (txtR q) = decI (q.den : Int) := by unfold belowOf; rw [e, hc]; rfl
    have hA : (cutAt (txtR q)).1 = decI q.num := by rw [e, hc]
    obtain ⟨p1, p2⟩ := decI_pos hd
    refine ⟨fracE_ok ?_ (by rw [hA]; exact r1) (by rw [hB]; exact r3), ?_⟩
    · unfold fracForm
      rw [hA, hB, r1, r3, p2, decide_eq_false p1]
      decide
    · unfold fracQ
      rw [hA, hB, r2, r4, Rat.num_divInt_den]
theorem txtR_zero : txtR 0 = [48] := by
  unfold txtR
  rw [if_pos (show (0 : Rat).den = 1 from rfl)]
  unfold decI
  rw [if_neg (by decide), show (0 : Rat).num.natAbs = 0 from rfl, Lib.decDigits_one (by decide)]
  rfl
theorem decI_len_ge (Z : Int) : (Lib.decDigits Z.natAbs).length ≤ (decI Z).length := by
  unfold decI
  split
  · simp
  · exact Nat.le_refl _
theorem txtR_len (q : Rat) : (Lib.decDigits q.num.natAbs).length ≤ (txtR q).length ∧ (q.den ≠ 1 → (Lib.decDigits q.num.natAbs).length + 1 + (Lib.decDigits q.den).length ≤ (txtR q).length) := by
  have h1 := decI_len_ge q.num
  have h2 := decI_len_ge (q.den : Int)
  rw [Int.natAbs_natCast] at h2
  unfold txtR
  split
  · next h => exact ⟨h1, fun h' => absurd h h'⟩
  · simp only [List.length_append, List.length_cons, List.length_nil]
    exact ⟨by omega, fun _ => by omega⟩
theorem txtR_short {q : Rat} (h : (txtR q).length ≤ 200) : fracE (txtR q) = 0 ∧ fracQ (txtR q) = q := by
  obtain ⟨h1, h2⟩ := txtR_len q
  refine txtR_read (by omega) ?_
  by_cases hone : q.den = 1
  · rw [hone, Lib.decDigits_one (by decide)]
    decide
  · have := h2 hone
    omega

theorem nDigits_mono : ∀ (b a : Nat), a ≤ b → Lib.nDigits a ≤ Lib.nDigits b := by
  intro b
  induction b using Nat.strongRecOn with
  | ind b ih =>
    intro a h
    by_cases ha : a < 10
    · rw [Lib.nDigits_small ha]
      exact Lib.nDigits_pos b
    · rw [Lib.nDigits_big ha, Lib.nDigits_big (u := b) (by omega)]
      have := ih (b / 10) (by omega) (a / 10) (by omega)
      omega
theorem decDigits_mono {a b : Nat} (h : a ≤ b) : (Lib.decDigits a).length ≤ (Lib.decDigits b).length := by
  rw [Lib.decDigits_length, Lib.decDigits_length]
  exact nDigits_mono b a h
theorem digitsOf_decI (Z : Int) : digitsOf (decI Z) = Lib.decDigits Z.natAbs := by
  obtain ⟨s, L, h1, h2, h3, h4⟩ := decI_rep Z
  rw [h3, (txt_form h1).2.1, h4]

/-- What is read may be written, and is read again, and is no longer than it was. -/
theorem read_again {l : List UInt8} (h : fracE l = 0) : fracE (txtR (fracQ l)) = 0 ∧ fracQ (txtR (fracQ l)) = fracQ l ∧ (txtR (fracQ l)).length ≤ l.length := by
  have hform : fracForm l = false := by
    cases hf : fracForm l
    · rfl
    · rw [fracE_form hf] at h
      exact absurd h (by decide)
  have h12 : parseE (cutAt l).1 = 0 ∧ parseE (belowOf l) = 0 := by
    by_cases hc : parseE (cutAt l).1 = 0 ∧ parseE (belowOf l) = 0
    · exact hc
    · rw [fracE_long hform hc] at h
      exact absurd h (by decide)
  obtain ⟨h1, h2⟩ := h12
  unfold fracForm at hform
  simp only [Bool.or_eq_false_iff, decide_eq_false_iff_not] at hform
  have hpos := below_pos h2 hform.1.2 hform.2
  have hA := read_decI h1
  have hB := read_decI h2
  have d1 := (parse_plain h1).2.2
  have d2 := (parse_plain h2).2.2
  obtain ⟨e1, e2, v1, v2, hg⟩ := rat_lowest (P := parseZ (cutAt l).1) (Q := parseZ (belowOf l)) (by omega) rfl
  rw [if_neg (by omega)] at e1 e2 v1 v2 hg
  have hQ : fracQ l = Rat.divInt (parseZ (cutAt l).1) (parseZ (belowOf l)) := rfl
  rw [← hQ] at e1 e2
  have hback := cutAt_back l
  obtain ⟨X, hX⟩ : ∃ X, parseZ (cutAt l).1 = X := ⟨_, rfl⟩
  obtain ⟨Y, hY⟩ : ∃ Y, parseZ (belowOf l) = Y := ⟨_, rfl⟩
  rw [hX] at hA e1 v1 hg e2 v2
  rw [hY] at hB e1 v1 hg e2 v2 hpos
  have hg0 : (0 : Int) < (Int.gcd X Y : Nat) := by omega
  generalize ((Int.gcd X Y : Nat) : Int) = g at *
  obtain ⟨q, hq⟩ : ∃ q, fracQ l = q := ⟨_, rfl⟩
  rw [hq] at e1 e2 ⊢
  obtain ⟨x, rfl⟩ := v1
  obtain ⟨y, rfl⟩ := v2
  rw [Int.mul_ediv_cancel_left _ hg] at e1 e2
  subst e1
  -- lengths
  have n1 : q.num.natAbs ≤ (g * q.num).natAbs := by rw [Int.natAbs_mul]; exact Nat.le_mul_of_pos_left _ (by omega)
  have n2 : q.den ≤ (g * y).natAbs := by rw [Int.natAbs_mul, e2, Int.natAbs_natCast]; exact Nat.le_mul_of_pos_left _ (by omega)
  have sgn : (g * q.num < 0 ↔ q.num < 0) := by
    constructor
    · intro h'; exact Int.lt_of_not_ge (fun hc => by have := Int.mul_nonneg (Int.le_of_lt hg0) hc; omega)
    · intro h'; exact Int.mul_neg_of_pos_of_neg hg0 h'
  have l1 : (decI q.num).length ≤ (cutAt l).1.length := by
    rw [← hA]
    have := decDigits_mono n1
    unfold decI
    by_cases hs : q.num < 0
    · rw [if_pos hs, if_pos (sgn.2 hs)]
      simp only [List.length_cons]
      omega
    · rw [if_neg hs, if_neg (fun h' => hs (sgn.1 h'))]
      exact this
  have l2 : (decI (q.den : Int)).length ≤ (belowOf l).length := by
    rw [← hB]
    have := decDigits_mono n2
    unfold decI
    rw [if_neg (by omega), if_neg (by omega), Int.natAbs_natCast]
    exact this
  have k1 : (Lib.decDigits q.num.natAbs).length ≤ 200 := by
    refine Nat.le_trans (decDigits_mono n1) ?_
    rw [← hA, digitsOf_decI] at d1
    exact d1
  have k2 : (Lib.decDigits q.den).length ≤ 200 := by
    refine Nat.le_trans (decDigits_mono n2) ?_
    rw [← hB, digitsOf_decI] at d2
    exact d2
  obtain ⟨a1, a2⟩ := txtR_read k1 k2
  refine ⟨a1, a2, ?_⟩
  by_cases hone : q.den = 1
  · unfold txtR
    rw [if_pos hone]
    by_cases hf : (cutAt l).2.2 = true
    · rw [if_pos hf] at hback
      rw [hback]
      simp only [List.length_append]
      omega
    · rw [if_neg hf] at hback
      rw [hback]
      exact l1
  · by_cases hf : (cutAt l).2.2 = true
    · rw [if_pos hf] at hback
      have hb : belowOf l = (cutAt l).2.1 := by unfold belowOf; rw [if_pos hf]
      rw [hb] at l2
      unfold txtR
      rw [if_neg hone, hback]
      simp only [List.length_append, List.length_cons, List.length_nil]
      omega
    · exfalso
      have hb : belowOf l = [49] := by unfold belowOf; rw [if_neg hf]
      have g2 : parseZ [49] = 1 := by decide +kernel
      rw [hb, g2] at hY
      have : (q.den : Int) * g = 1 := by rw [← e2, Int.mul_comm]; exact hY.symm
      have := Int.le_of_dvd (a := (q.den : Int)) (b := 1) (by decide) ⟨g, this.symm⟩
      have := q.den_pos
      omega

end Go.Proofs.YtgpoljbccimkjaaGreatDoor
