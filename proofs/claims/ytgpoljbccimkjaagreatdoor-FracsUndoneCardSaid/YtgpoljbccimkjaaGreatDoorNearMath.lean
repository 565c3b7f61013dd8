/- Plain facts: two great numbers, and the two parts on top of them. -/
namespace Go.Proofs.YtgpoljbccimkjaaGreatDoor
set_option linter.unusedSimpArgs false
set_option linter.unusedVariables false

/-- The i-th part, or 0. -/
def pt (l : List Nat) (i : Nat) : Nat := l.getD i 0
/-- The i-th part, or 0, at whatever integer. -/
def ptI (l : List Nat) (i : Int) : Nat := if i < 0 then 0 else pt l i.toNat

theorem pt_lt {l : List Nat} {B : Nat} (hB : 0 < B) (h : ∀ x ∈ l, x < B) (i : Nat) : pt l i < B := by
  unfold pt
  rw [List.getD_eq_getElem?_getD]
  cases hx : l[i]? with
  | none => simpa using hB
  | some x => simpa using h x (List.mem_of_getElem? hx)
theorem pt_ge {l : List Nat} {i : Nat} (h : l.length ≤ i) : pt l i = 0 := by
  unfold pt
  simp [List.getD_eq_getElem?_getD, List.getElem?_eq_none h]
theorem pt_getElem {l : List Nat} {i : Nat} (h : i < l.length) : pt l i = l[i] := by
  unfold pt
  simp [List.getD_eq_getElem?_getD, h]
theorem pt_mem {l : List Nat} {i : Nat} (h : i < l.length) : pt l i ∈ l := by
  rw [pt_getElem h]; exact List.getElem_mem h
theorem pt_take {l : List Nat} {k i : Nat} (h : i < k) : pt (l.take k) i = pt l i := by
  unfold pt
  simp [List.getD_eq_getElem?_getD, List.getElem?_take, h]
theorem pt_drop (l : List Nat) (k i : Nat) : pt (l.drop k) i = pt l (k + i) := by
  unfold pt
  simp [List.getD_eq_getElem?_getD, List.getElem?_drop]
theorem ptI_nat (l : List Nat) (i : Nat) : ptI l (i : Int) = pt l i := by
  unfold ptI
  rw [if_neg (by omega)]
  simp
theorem ptI_neg (l : List Nat) {i : Int} (h : i < 0) : ptI l i = 0 := by
  unfold ptI; rw [if_pos h]
theorem ptI_ge (l : List Nat) {i : Int} (h : (l.length : Int) ≤ i) : ptI l i = 0 := by
  unfold ptI; rw [if_neg (by omega)]; exact pt_ge (by omega)
theorem take_succ_pt {l : List Nat} {k : Nat} (h : k < l.length) : l.take (k + 1) = l.take k ++ [pt l k] := by
  rw [List.take_succ_eq_append_getElem h, pt_getElem h]
theorem list_ext_pt {a b : List Nat} (hl : a.length = b.length) (h : ∀ i, i < a.length → pt a i = pt b i) : a = b := by
  refine List.ext_getElem hl fun i h1 h2 => ?_
  have := h i h1
  rwa [pt_getElem h1, pt_getElem h2] at this

/-- Without the noughts at its end. -/
def trimL (l : List Nat) : List Nat := (l.reverse.dropWhile (· == 0)).reverse
theorem trimL_nil : trimL [] = [] := rfl
theorem trimL_snoc_zero (l : List Nat) : trimL (l ++ [0]) = trimL l := by simp [trimL]
theorem trimL_snoc (l : List Nat) {x : Nat} (h : x ≠ 0) : trimL (l ++ [x]) = l ++ [x] := by simp [trimL, h]
theorem trimL_take_zero {l : List Nat} {k : Nat} (h : k < l.length) (h0 : pt l k = 0) : trimL (l.take (k + 1)) = trimL (l.take k) := by
  rw [take_succ_pt h, h0, trimL_snoc_zero]
theorem trimL_take_pos {l : List Nat} {k : Nat} (h : k < l.length) (h0 : pt l k ≠ 0) : trimL (l.take (k + 1)) = l.take (k + 1) := by
  rw [take_succ_pt h, trimL_snoc _ h0]
theorem trimL_prefix (l : List Nat) : trimL l <+: l := by
  unfold trimL
  have h := List.dropWhile_suffix (· == 0) (l := l.reverse)
  have := List.reverse_prefix.2 h
  simpa using this
theorem trimL_length_le (l : List Nat) : (trimL l).length ≤ l.length := (trimL_prefix l).length_le
theorem trimL_eq_take (l : List Nat) : trimL l = l.take (trimL l).length := (List.prefix_iff_eq_take.1 (trimL_prefix l))

/-- A number may be: its parts are below 10^9, the last one is not 0; 0 has none, and is not below 0. -/
def okB (s : Bool) (l : List Nat) : Bool := if l.length = 0 then !s else l.all (· < 1000000000) && pt l (l.length - 1) != 0

/-- cmp.Compare. -/
def cmpI (a b : Int) : Int := if a < b then -1 else if b < a then 1 else 0

end Go.Proofs.YtgpoljbccimkjaaGreatDoor

namespace Go.Proofs.YtgpoljbccimkjaaGreatDoor
set_option linter.unusedSimpArgs false
set_option linter.unusedVariables false

/-- The number of an amount, its lowest part first. -/
def val : List Nat → Nat
  | [] => 0
  | x :: xs => x + 1000000000 * val xs

theorem val_append (a b : List Nat) : val (a ++ b) = val a + 1000000000 ^ a.length * val b := by
  induction a with
  | nil => simp [val]
  | cons x xs ih =>
    simp only [List.cons_append, val, List.length_cons, ih, Nat.pow_succ]
    rw [Nat.mul_add, ← Nat.mul_assoc, Nat.mul_comm 1000000000 (1000000000 ^ xs.length), Nat.add_assoc]
theorem val_snoc (a : List Nat) (x : Nat) : val (a ++ [x]) = val a + 1000000000 ^ a.length * x := by
  rw [val_append]; simp [val]
theorem val_lt {l : List Nat} (h : ∀ x ∈ l, x < 1000000000) : val l < 1000000000 ^ l.length := by
  induction l with
  | nil => simp [val]
  | cons x xs ih =>
    have h1 := ih fun y hy => h y (by simp [hy])
    have h2 := h x (by simp)
    simp only [val, List.length_cons, Nat.pow_succ]
    omega
theorem val_trimL (l : List Nat) : val (trimL l) = val l := by
  have key : ∀ r : List Nat, val (r.dropWhile (· == 0)).reverse = val r.reverse := by
    intro r
    induction r with
    | nil => rfl
    | cons x xs ih =>
      by_cases hx : x = 0
      · subst hx
        rw [List.dropWhile_cons_of_pos (by simp), ih, List.reverse_cons, val_snoc]; simp
      · rw [List.dropWhile_cons_of_neg (by simpa using hx)]
  have := key l.reverse
  rwa [List.reverse_reverse] at this

/-- The last part is not 0. -/
def Top (l : List Nat) : Prop := l = [] ∨ pt l (l.length - 1) ≠ 0
theorem Top.nil : Top [] := .inl rfl
theorem Top.trimL (l : List Nat) : Top (trimL l) := by
  have key : ∀ r : List Nat, Top (r.dropWhile (· == 0)).reverse := by
    intro r
    induction r with
    | nil => exact .inl rfl
    | cons x xs ih =>
      by_cases hx : x = 0
      · subst hx; rw [List.dropWhile_cons_of_pos (by simp)]; exact ih
      · rw [List.dropWhile_cons_of_neg (by simpa using hx)]
        refine .inr ?_
        rw [List.reverse_cons]
        have : pt (xs.reverse ++ [x]) ((xs.reverse ++ [x]).length - 1) = x := by
          unfold pt; simp [List.getD_eq_getElem?_getD]
        rw [this]; exact hx
  exact key l.reverse
theorem trimL_of_top {l : List Nat} (h : Top l) : trimL l = l := by
  rcases h with rfl | h
  · rfl
  · cases hl : l.length with
    | zero => rw [List.eq_nil_of_length_eq_zero hl]; rfl
    | succ k =>
      have h1 : l = l.take (k + 1) := by rw [← hl, List.take_length]
      rw [hl] at h
      have h2 := trimL_take_pos (l := l) (k := k) (by omega) (by simpa using h)
      rw [← h1] at h2
      exact h2
theorem val_ge {l : List Nat} (h : Top l) (hl : l ≠ []) : 1000000000 ^ (l.length - 1) ≤ val l := by
  rcases h with h | h
  · exact absurd h hl
  · cases hn : l.length with
    | zero => exact absurd (List.eq_nil_of_length_eq_zero hn) hl
    | succ k =>
      have h1 : l = l.take k ++ [pt l k] := by rw [← take_succ_pt (by omega), ← hn, List.take_length]
      rw [hn] at h
      have h0 : pt l k ≠ 0 := by simpa using h
      rw [h1, val_snoc]
      have h2 : (l.take k).length = k := by rw [List.length_take]; omega
      rw [h2]
      have h3 : 1000000000 ^ k * 1 ≤ 1000000000 ^ k * pt l k := Nat.mul_le_mul_left _ (by omega)
      simp only [Nat.add_sub_cancel]
      omega
theorem val_pos {l : List Nat} (h : Top l) (hl : l ≠ []) : 0 < val l :=
  Nat.lt_of_lt_of_le (Nat.pow_pos (by decide)) (val_ge h hl)
theorem val_eq_zero {l : List Nat} (h : Top l) (h0 : val l = 0) : l = [] := by
  by_cases hl : l = []
  · exact hl
  · have := val_pos h hl; omega

/-- Fewer parts, a lesser number. -/
theorem val_lt_of_length {a b : List Nat} (ha : ∀ x ∈ a, x < 1000000000) (hb : Top b) (h : a.length < b.length) : val a < val b := by
  have h1 := val_lt ha
  have h2 := val_ge hb (fun e => by rw [e] at h; simp at h)
  have h3 : 1000000000 ^ a.length ≤ 1000000000 ^ (b.length - 1) := Nat.pow_le_pow_right (by decide) (by omega)
  omega

/-- The upper parts are the same, one part is less: a lesser number. -/
theorem val_lt_of_part {a b : List Nat} (ha : ∀ x ∈ a, x < 1000000000) (hl : a.length = b.length) (i : Nat) (hi : i < a.length)
    (hs : ∀ j, i < j → j < a.length → pt a j = pt b j) (h : pt a i < pt b i) : val a < val b := by
  have hd : a.drop (i + 1) = b.drop (i + 1) := by
    refine list_ext_pt (by simp [hl]) fun k hk => ?_
    rw [pt_drop, pt_drop]
    simp at hk
    exact hs _ (by omega) (by omega)
  have h1 : val a = val (a.take (i + 1)) + 1000000000 ^ (i + 1) * val (a.drop (i + 1)) := by
    conv => lhs; rw [← List.take_append_drop (i + 1) a]
    rw [val_append, List.length_take, Nat.min_eq_left (by omega)]
  have h2 : val b = val (b.take (i + 1)) + 1000000000 ^ (i + 1) * val (b.drop (i + 1)) := by
    conv => lhs; rw [← List.take_append_drop (i + 1) b]
    rw [val_append, List.length_take, Nat.min_eq_left (by omega)]
  rw [h1, h2, hd, take_succ_pt hi, take_succ_pt (by omega), val_snoc, val_snoc, List.length_take, List.length_take, Nat.min_eq_left (by omega), Nat.min_eq_left (by omega)]
  have h3 : val (a.take i) < 1000000000 ^ i := by
    have := val_lt (l := a.take i) fun x hx => ha x (List.mem_of_mem_take hx)
    rwa [List.length_take, Nat.min_eq_left (by omega)] at this
  have h4 : 1000000000 ^ i * (pt a i + 1) ≤ 1000000000 ^ i * pt b i := Nat.mul_le_mul_left _ h
  rw [Nat.mul_add, Nat.mul_one] at h4
  omega

/-- What compares two amounts tells. -/
def CmpIs (a b : List Nat) (r : Int) : Prop :=
  (a.length ≠ b.length ∧ r = cmpI a.length b.length) ∨
  (a.length = b.length ∧ ((a = b ∧ r = 0) ∨ ∃ i, i < a.length ∧ (∀ j, i < j → j < a.length → pt a j = pt b j) ∧ pt a i ≠ pt b i ∧ r = cmpI (pt a i) (pt b i)))

theorem CmpIs.val {a b : List Nat} {r : Int} (h : CmpIs a b r) (ha : ∀ x ∈ a, x < 1000000000) (hb : ∀ x ∈ b, x < 1000000000) (ta : Top a) (tb : Top b) : r = cmpI (val a) (val b) := by
  unfold cmpI
  rcases h with ⟨hl, rfl⟩ | ⟨hl, ⟨rfl, rfl⟩ | ⟨i, hi, hs, hne, rfl⟩⟩
  · unfold cmpI
    rcases Nat.lt_or_gt_of_ne hl with h | h
    · have := val_lt_of_length ha tb h
      rw [if_pos (by omega), if_pos (by omega)]
    · have := val_lt_of_length hb ta h
      rw [if_neg (by omega), if_pos (by omega), if_neg (by omega), if_pos (by omega)]
  · rw [if_neg (by omega), if_neg (by omega)]
  · unfold cmpI
    rcases Nat.lt_or_gt_of_ne hne with h | h
    · have := val_lt_of_part ha hl i hi hs h
      rw [if_pos (by omega), if_pos (by omega)]
    · have := val_lt_of_part hb hl.symm i (by omega) (fun j h1 h2 => (hs j h1 (by omega)).symm) h
      rw [if_neg (by omega), if_pos (by omega), if_neg (by omega), if_pos (by omega)]

/-- A number has one list of parts. -/
theorem val_inj {a b : List Nat} (ha : ∀ x ∈ a, x < 1000000000) (hb : ∀ x ∈ b, x < 1000000000) (ta : Top a) (tb : Top b) (h : val a = val b) : a = b := by
  rcases Nat.lt_trichotomy a.length b.length with hl | hl | hl
  · have := val_lt_of_length ha tb hl; omega
  · refine list_ext_pt hl ?_
    have key : ∀ k i, i < a.length → a.length - i ≤ k → pt a i = pt b i := by
      intro k
      induction k with
      | zero => intro i hi hk; omega
      | succ k ih =>
        intro i hi hk
        have hs : ∀ j, i < j → j < a.length → pt a j = pt b j := fun j h1 h2 => ih j h2 (by omega)
        rcases Nat.lt_trichotomy (pt a i) (pt b i) with h1 | h1 | h1
        · have := val_lt_of_part ha hl i hi hs h1; omega
        · exact h1
        · have := val_lt_of_part hb hl.symm i (by omega) (fun j h1 h2 => (hs j h1 (by omega)).symm) h1; omega
    exact fun i hi => key _ i hi (Nat.le_refl _)
  · have := val_lt_of_length hb ta hl; omega

/-- The number: less itself from 0, if so. -/
def valS (s : Bool) (l : List Nat) : Int := if s then -(val l : Int) else val l
/-- What a number is to the calls: 0, if it may not be. -/
def numZ (s : Bool) (l : List Nat) : Int := if okB s l then valS s l else 0

theorem okB_iff {s : Bool} {l : List Nat} : okB s l = true ↔ (∀ x ∈ l, x < 1000000000) ∧ Top l ∧ (l = [] → s = false) := by
  unfold okB Top
  by_cases h : l.length = 0
  · have hl : l = [] := List.eq_nil_of_length_eq_zero h
    subst hl
    simp
  · have hl : l ≠ [] := fun e => h (by rw [e]; rfl)
    rw [if_neg h]
    simp [hl]

theorem valS_inj {s s' : Bool} {l l' : List Nat} (h : okB s l = true) (h' : okB s' l' = true) (e : valS s l = valS s' l') : s = s' ∧ l = l' := by
  obtain ⟨h1, h2, h3⟩ := okB_iff.1 h
  obtain ⟨h1', h2', h3'⟩ := okB_iff.1 h'
  have hp : ∀ {s : Bool} {l : List Nat}, Top l → (l = [] → s = false) → s = true → 0 < val l := fun ht hs hb => val_pos ht fun e => by rw [hs e] at hb; cases hb
  unfold valS at e
  cases s <;> cases s' <;> simp only [Bool.false_eq_true, if_true, if_false] at e
  · exact ⟨rfl, val_inj h1 h1' h2 h2' (by omega)⟩
  · have := hp h2' h3' rfl; omega
  · have := hp h2 h3 rfl; omega
  · exact ⟨rfl, val_inj h1 h1' h2 h2' (by omega)⟩

/-- A number as the calls take it: 0, if it may not be. -/
def fitS (s : Bool) (l : List Nat) : Bool := if okB s l = true then s else false
def fitL (s : Bool) (l : List Nat) : List Nat := if okB s l = true then l else []

theorem okB_fit (s : Bool) (l : List Nat) : okB (fitS s l) (fitL s l) = true := by
  unfold fitS fitL
  by_cases h : okB s l = true
  · rw [if_pos h, if_pos h]; exact h
  · rw [if_neg h, if_neg h]; rfl
theorem fit_small (s : Bool) (l : List Nat) : ∀ x ∈ fitL s l, x < 1000000000 := (okB_iff.1 (okB_fit s l)).1
theorem fit_top (s : Bool) (l : List Nat) : Top (fitL s l) := (okB_iff.1 (okB_fit s l)).2.1
theorem numZ_fit (s : Bool) (l : List Nat) : valS (fitS s l) (fitL s l) = numZ s l := by
  unfold fitS fitL numZ
  by_cases h : okB s l = true
  · rw [if_pos h, if_pos h, if_pos h]
  · rw [if_neg h, if_neg h, if_neg h]; rfl
theorem fit_pos {s : Bool} {l : List Nat} (h : fitS s l = true) : 0 < val (fitL s l) := by
  obtain ⟨_, h2, h3⟩ := okB_iff.1 (okB_fit s l)
  exact val_pos h2 fun e => by rw [h3 e] at h; cases h
theorem numZ_false {s : Bool} {l : List Nat} (h : fitS s l = false) : numZ s l = val (fitL s l) := by
  rw [← numZ_fit, h]; rfl
theorem numZ_true {s : Bool} {l : List Nat} (h : fitS s l = true) : numZ s l = -(val (fitL s l) : Int) := by
  rw [← numZ_fit, h]; rfl

theorem cmpI_lt {a b : Int} (h : a < b) : cmpI a b = -1 := by unfold cmpI; rw [if_pos h]
theorem cmpI_gt {a b : Int} (h : b < a) : cmpI a b = 1 := by unfold cmpI; rw [if_neg (by omega), if_pos h]
theorem cmpI_eq {a b : Int} (h : a = b) : cmpI a b = 0 := by unfold cmpI; rw [if_neg (by omega), if_neg (by omega)]
theorem cmpI_neg (a b : Int) : cmpI (-a) (-b) = cmpI b a := by unfold cmpI; split <;> split <;> (try split) <;> (try split) <;> omega

end Go.Proofs.YtgpoljbccimkjaaGreatDoor

namespace Go.Proofs.YtgpoljbccimkjaaGreatDoor
set_option linter.unusedSimpArgs false
set_option linter.unusedVariables false

theorem rat_ends {P Q : Int} (hQ : 0 < Q) (hg : Int.gcd P Q = 1) : (Rat.divInt P Q).num = P ∧ ((Rat.divInt P Q).den : Int) = Q := by
  constructor
  · rw [Rat.num_divInt, Int.gcd_comm, hg, Int.sign_eq_one_of_pos hQ]
    simp
  · rw [Rat.den_divInt, if_neg (by omega), Int.gcd_comm, hg, Nat.div_one]
    omega

theorem rat_reduced (q : Rat) : Int.gcd q.num (q.den : Int) = 1 := by
  have := q.reduced
  unfold Nat.Coprime at this
  rw [Int.gcd, Int.natAbs_natCast]
  exact this
theorem rat_den_pos (q : Rat) : 0 < (q.den : Int) := by
  have := q.den_pos
  omega

/-- Both numbers by what both have in common, with the sign of the second one. -/
theorem rat_lowest {P Q g : Int} (hQ : Q ≠ 0) (hg : g = if Q < 0 then -(Int.gcd P Q : Int) else (Int.gcd P Q : Int)) :
    P / g = (Rat.divInt P Q).num ∧ Q / g = ((Rat.divInt P Q).den : Int) ∧ g ∣ P ∧ g ∣ Q ∧ g ≠ 0 := by
  have h0 : 0 < Int.gcd P Q := Int.gcd_pos_of_ne_zero_right P hQ
  have h1 : ((Int.gcd P Q : Nat) : Int) ∣ P := Int.gcd_dvd_left P Q
  have h2 : ((Int.gcd P Q : Nat) : Int) ∣ Q := Int.gcd_dvd_right P Q
  rw [Rat.num_divInt, Rat.den_divInt, if_neg hQ, Int.gcd_comm Q P, Int.natCast_ediv]
  generalize Int.gcd P Q = m at *
  have hm : (m : Int) ≠ 0 := by omega
  by_cases hn : Q < 0
  · rw [if_pos hn] at hg
    subst hg
    have e : ((Q.natAbs : Nat) : Int) = -Q := by omega
    rw [Int.sign_eq_neg_one_of_neg hn, e]
    refine ⟨?_, ?_, Int.neg_dvd.2 h1, Int.neg_dvd.2 h2, by omega⟩
    · obtain ⟨k, rfl⟩ := h1
      rw [Int.ediv_neg, Int.mul_ediv_cancel_left _ hm, show -1 * ((m : Int) * k) = m * -k by grind, Int.mul_ediv_cancel_left _ hm]
    · obtain ⟨k, rfl⟩ := h2
      rw [Int.ediv_neg, Int.mul_ediv_cancel_left _ hm, show -((m : Int) * k) = m * -k by grind, Int.mul_ediv_cancel_left _ hm]
  · rw [if_neg hn] at hg
    subst hg
    have e : ((Q.natAbs : Nat) : Int) = Q := by omega
    rw [Int.sign_eq_one_of_pos (by omega), Int.one_mul, e]
    exact ⟨rfl, rfl, h1, h2, hm⟩

/-- A sum of two, on one number below. -/
theorem comb_gcd {n1 n2 s e1 e2 : Int} (h12 : Int.gcd e1 e2 = 1) (h1 : Int.gcd n1 e1 = 1) (h2 : Int.gcd n2 e2 = 1) :
    Int.gcd (n1 * e2 + n2 * e1) (s * e1 * e2) = Int.gcd (n1 * e2 + n2 * e1) s := by
  have a1 : Nat.Coprime e1.natAbs (n1 * e2 + n2 * e1).natAbs := by
    have : Int.gcd (n1 * e2 + n2 * e1) e1 = 1 := by
      rw [Int.gcd_add_mul_right_left, Int.gcd, Int.natAbs_mul]
      exact Nat.Coprime.mul_left (show Nat.Coprime _ _ from h1) (show Nat.Coprime _ _ from (Int.gcd_comm _ _).trans h12)
    exact Nat.Coprime.symm this
  have a2 : Nat.Coprime e2.natAbs (n1 * e2 + n2 * e1).natAbs := by
    have : Int.gcd (n1 * e2 + n2 * e1) e2 = 1 := by
      rw [Int.add_comm, Int.gcd_add_mul_right_left, Int.gcd, Int.natAbs_mul]
      exact Nat.Coprime.mul_left (show Nat.Coprime _ _ from h2) (show Nat.Coprime _ _ from h12)
    exact Nat.Coprime.symm this
  simp only [Int.gcd, Int.natAbs_mul s, Int.natAbs_mul (s * e1)]
  rw [Nat.Coprime.gcd_mul_right_cancel_right _ a2, Nat.Coprime.gcd_mul_right_cancel_right _ a1]

theorem split_gcd (a b : Rat) : ∃ s e1 e2 : Int, s = (Int.gcd (a.den : Int) (b.den : Int) : Int) ∧ 0 < s ∧ 0 < e1 ∧ 0 < e2 ∧ (a.den : Int) = s * e1 ∧ (b.den : Int) = s * e2 ∧ (b.den : Int) / s = e2 ∧ (a.den : Int) / s = e1 ∧ Int.gcd e1 e2 = 1 ∧ Int.gcd a.num e1 = 1 ∧ Int.gcd b.num e2 = 1 := by
  have p1 := rat_den_pos a
  have p2 := rat_den_pos b
  have c1 := rat_reduced a
  have c2 := rat_reduced b
  generalize ha : (a.den : Int) = A at *
  generalize hb : (b.den : Int) = B at *
  have h0 : 0 < Int.gcd A B := Int.gcd_pos_of_ne_zero_right _ (by omega)
  obtain ⟨e1, h1⟩ : ((Int.gcd A B : Nat) : Int) ∣ A := Int.gcd_dvd_left _ _
  obtain ⟨e2, h2⟩ : ((Int.gcd A B : Nat) : Int) ∣ B := Int.gcd_dvd_right _ _
  have hs : (0 : Int) < (Int.gcd A B : Nat) := by omega
  have q1 : 0 < e1 := by rcases Int.lt_or_le 0 e1 with h | h; exact h; exfalso; have := Int.mul_nonpos_of_nonneg_of_nonpos (Int.le_of_lt hs) h; omega
  have q2 : 0 < e2 := by rcases Int.lt_or_le 0 e2 with h | h; exact h; exfalso; have := Int.mul_nonpos_of_nonneg_of_nonpos (Int.le_of_lt hs) h; omega
  have hm : Int.gcd (Int.gcd A B * e1) (Int.gcd A B * e2) = Int.gcd A B := by rw [← h1, ← h2]
  generalize Int.gcd A B = m at *
  have h12 : Int.gcd e1 e2 = 1 := by
    rw [Int.gcd_mul_left, Int.natAbs_natCast] at hm
    exact Nat.eq_of_mul_eq_mul_left h0 (by rw [hm, Nat.mul_one])
  subst h1
  subst h2
  refine ⟨_, e1, e2, rfl, hs, q1, q2, rfl, rfl, ?_, ?_, h12, ?_, ?_⟩
  · rw [Int.mul_ediv_cancel_left _ (by omega)]
  · rw [Int.mul_ediv_cancel_left _ (by omega)]
  · refine Nat.Coprime.coprime_dvd_right ?_ c1
    rw [Int.natAbs_mul]
    exact Nat.dvd_mul_left ..
  · refine Nat.Coprime.coprime_dvd_right ?_ c2
    rw [Int.natAbs_mul]
    exact Nat.dvd_mul_left ..

/-- The sum, and the difference. -/
theorem rat_add_level (a b : Rat) {s : Int} (hs : s = (Int.gcd (a.den : Int) (b.den : Int) : Int)) :
    Rat.divInt (a.num * ((b.den : Int) / s) + b.num * ((a.den : Int) / s)) (a.den * ((b.den : Int) / s)) = a + b ∧
    Int.gcd (a.num * ((b.den : Int) / s) + b.num * ((a.den : Int) / s)) (a.den * ((b.den : Int) / s)) = Int.gcd (a.num * ((b.den : Int) / s) + b.num * ((a.den : Int) / s)) s := by
  obtain ⟨s', e1, e2, hs', p0, p1, p2, h1, h2, h3, h4, h5, h6, h7⟩ := split_gcd a b
  obtain rfl : s = s' := hs.trans hs'.symm
  rw [h3, h4]
  constructor
  · conv => rhs; rw [← Rat.num_divInt_den a, ← Rat.num_divInt_den b]
    rw [Rat.divInt_add_divInt _ _ (by have := rat_den_pos a; omega) (by have := rat_den_pos b; omega), h1, h2]
    rw [← Rat.divInt_mul_left (a := s) (by omega)]
    congr 1 <;> grind
  · rw [h1]
    exact comb_gcd h5 h6 h7

theorem rat_sub_level (a b : Rat) {s : Int} (hs : s = (Int.gcd (a.den : Int) (b.den : Int) : Int)) :
    Rat.divInt (a.num * ((b.den : Int) / s) - b.num * ((a.den : Int) / s)) (a.den * ((b.den : Int) / s)) = a - b ∧
    Int.gcd (a.num * ((b.den : Int) / s) - b.num * ((a.den : Int) / s)) (a.den * ((b.den : Int) / s)) = Int.gcd (a.num * ((b.den : Int) / s) - b.num * ((a.den : Int) / s)) s := by
  have h := rat_add_level a (-b) (s := s) (by rw [Rat.neg_den]; exact hs)
  rw [Rat.neg_num, Rat.neg_den, ← Rat.sub_eq_add_neg, Int.neg_mul, ← Int.sub_eq_add_neg] at h
  exact h

/-- What is compared, on one number below. -/
theorem rat_cmp_level (a b : Rat) {s : Int} (hs : s = (Int.gcd (a.den : Int) (b.den : Int) : Int)) :
    (a.num * ((b.den : Int) / s) < b.num * ((a.den : Int) / s) ↔ a < b) := by
  obtain ⟨s', e1, e2, hs', p0, p1, p2, h1, h2, h3, h4, h5, h6, h7⟩ := split_gcd a b
  obtain rfl : s = s' := hs.trans hs'.symm
  rw [h3, h4, Rat.lt_iff, h1, h2]
  rw [show a.num * (s * e2) = s * (a.num * e2) by grind, show b.num * (s * e1) = s * (b.num * e1) by grind]
  exact (Int.mul_lt_mul_left p0).symm

/-- A product of two, each number above by the other one's below. -/
theorem rat_mul_cross (a b : Rat) :
    (Rat.divInt a.num b.den).num * (Rat.divInt b.num a.den).num = (a * b).num ∧ ((Rat.divInt a.num b.den).den : Int) * ((Rat.divInt b.num a.den).den : Int) = ((a * b).den : Int) := by
  have p1 := rat_den_pos a
  have p2 := rat_den_pos b
  obtain ⟨x1, x2, -, -, -⟩ := rat_lowest (P := a.num) (Q := b.den) (by omega) rfl
  obtain ⟨y1, y2, -, -, -⟩ := rat_lowest (P := b.num) (Q := a.den) (by omega) rfl
  have hx := Rat.num_divInt_den (Rat.divInt a.num b.den)
  have hy := Rat.num_divInt_den (Rat.divInt b.num a.den)
  have cx := rat_reduced (Rat.divInt a.num b.den)
  have cy := rat_reduced (Rat.divInt b.num a.den)
  have dx := rat_den_pos (Rat.divInt a.num b.den)
  have dy := rat_den_pos (Rat.divInt b.num a.den)
  have ca := rat_reduced a
  have cb := rat_reduced b
  rw [if_neg (by omega)] at x1 x2 y1 y2
  have g1 : (Rat.divInt a.num b.den).num ∣ a.num := by
    rw [← x1]; exact Int.ediv_dvd_of_dvd (Int.gcd_dvd_left _ _)
  have g2 : ((Rat.divInt a.num b.den).den : Int) ∣ b.den := by
    rw [← x2]; exact Int.ediv_dvd_of_dvd (Int.gcd_dvd_right _ _)
  have g3 : (Rat.divInt b.num a.den).num ∣ b.num := by
    rw [← y1]; exact Int.ediv_dvd_of_dvd (Int.gcd_dvd_left _ _)
  have g4 : ((Rat.divInt b.num a.den).den : Int) ∣ a.den := by
    rw [← y2]; exact Int.ediv_dvd_of_dvd (Int.gcd_dvd_right _ _)
  have hp : a * b = Rat.divInt ((Rat.divInt a.num b.den).num * (Rat.divInt b.num a.den).num) ((Rat.divInt a.num b.den).den * (Rat.divInt b.num a.den).den) := by
    rw [← Rat.divInt_mul_divInt, hx, hy, Rat.divInt_mul_divInt, Int.mul_comm (b.den : Int), ← Rat.divInt_mul_divInt, Rat.num_divInt_den, Rat.num_divInt_den]
  generalize (Rat.divInt a.num b.den).num = xn at *
  generalize (Rat.divInt b.num a.den).num = yn at *
  generalize ((Rat.divInt a.num b.den).den : Int) = xd at *
  generalize ((Rat.divInt b.num a.den).den : Int) = yd at *
  have c1 : Int.gcd xn yd = 1 := Nat.Coprime.coprime_dvd_left (Int.natAbs_dvd_natAbs.2 g1) (Nat.Coprime.coprime_dvd_right (Int.natAbs_dvd_natAbs.2 g4) ca)
  have c2 : Int.gcd yn xd = 1 := Nat.Coprime.coprime_dvd_left (Int.natAbs_dvd_natAbs.2 g3) (Nat.Coprime.coprime_dvd_right (Int.natAbs_dvd_natAbs.2 g2) cb)
  have hc : Int.gcd (xn * yn) (xd * yd) = 1 := by
    rw [Int.gcd, Int.natAbs_mul, Int.natAbs_mul]
    exact Nat.Coprime.mul_left (Nat.Coprime.mul_right cx c1) (Nat.Coprime.mul_right c2 cy)
  obtain ⟨r1, r2⟩ := rat_ends (P := xn * yn) (Q := xd * yd) (Int.mul_pos dx dy) hc
  rw [hp]
  exact ⟨r1.symm, r2.symm⟩

/-- What 1 by a fraction is. -/
theorem rat_inv (b : Rat) (h : b.num ≠ 0) {g : Int} (hg : g = if b.num < 0 then -1 else 1) : (b.den : Int) / g = (1 / b).num ∧ b.num / g = ((1 / b).den : Int) := by
  have hc : Int.gcd (b.den : Int) b.num = 1 := by rw [Int.gcd_comm]; exact rat_reduced b
  have := rat_lowest (P := b.den) (Q := b.num) (g := g) h (by rw [hc]; simpa using hg)
  rw [Rat.div_def, Rat.one_mul, Rat.inv_def]
  exact ⟨this.1, this.2.1⟩
end Go.Proofs.YtgpoljbccimkjaaGreatDoor

namespace Go.Proofs.YtgpoljbccimkjaaGreatDoor
set_option linter.unusedSimpArgs false
set_option linter.unusedVariables false

/-- What comes together at one place. -/
def sumAt (f g : Int) (x y : Nat) (c : Int) : Int := f * x + g * y + c
/-- What is carried, and what stays. -/
def cr (f g : Int) (x y : Nat) (c : Int) : Int := sumAt f g x y c / 1000000000
def dg (f g : Int) (x y : Nat) (c : Int) : Nat := (sumAt f g x y c % 1000000000).toNat

theorem dg_lt (f g : Int) (x y : Nat) (c : Int) : dg f g x y c < 1000000000 := by
  unfold dg
  have h1 := Int.emod_lt_of_pos (sumAt f g x y c) (show (0 : Int) < 1000000000 by decide)
  have h2 := Int.emod_nonneg (sumAt f g x y c) (show (1000000000 : Int) ≠ 0 by decide)
  omega
theorem dg_eq (f g : Int) (x y : Nat) (c : Int) : (dg f g x y c : Int) + 1000000000 * cr f g x y c = sumAt f g x y c := by
  unfold dg cr
  have h1 := Int.emod_nonneg (sumAt f g x y c) (show (1000000000 : Int) ≠ 0 by decide)
  have h2 := Int.emod_add_mul_ediv (sumAt f g x y c) 1000000000
  rw [Int.toNat_of_nonneg h1]
  exact h2

theorem mul_bound {f : Int} {x : Nat} (hf : -1000000000 ≤ f) (hf2 : f ≤ 1000000000) (hx : x < 1000000000) : -999999999000000000 ≤ f * x ∧ f * x ≤ 999999999000000000 := by
  have h1 : f * x ≤ 1000000000 * (x : Int) := Int.mul_le_mul_of_nonneg_right hf2 (by omega)
  have h2 : -1000000000 * (x : Int) ≤ f * x := Int.mul_le_mul_of_nonneg_right hf (by omega)
  omega

/-- All that a carry needs. -/
def Small (f : Int) : Prop := -1000000000 ≤ f ∧ f ≤ 1000000000

theorem cr_bound {f g : Int} {x y : Nat} {c : Int} (hf : Small f) (hg : Small g) (hx : x < 1000000000) (hy : y < 1000000000) (hc : -2000000000 ≤ c) (hc2 : c ≤ 2000000000) :
    -2000000000 ≤ cr f g x y c ∧ cr f g x y c ≤ 2000000000 := by
  have h1 := mul_bound hf.1 hf.2 hx
  have h2 := mul_bound hg.1 hg.2 hy
  have h3 := dg_eq f g x y c
  have h4 := dg_lt f g x y c
  unfold sumAt at h3
  omega

def carryL (la lb : List Nat) (f g : Int) : Nat → Int
  | 0 => 0
  | k + 1 => cr f g (pt la k) (pt lb k) (carryL la lb f g k)
def digitL (la lb : List Nat) (f g : Int) (k : Nat) : Nat := dg f g (pt la k) (pt lb k) (carryL la lb f g k)
def blendL (la lb : List Nat) (f g : Int) (n : Nat) : List Nat := (List.range n).map (digitL la lb f g)

theorem blendL_length (la lb : List Nat) (f g : Int) (n : Nat) : (blendL la lb f g n).length = n := by simp [blendL]
theorem blendL_succ (la lb : List Nat) (f g : Int) (n : Nat) : blendL la lb f g (n + 1) = blendL la lb f g n ++ [digitL la lb f g n] := by simp [blendL, List.range_succ]
theorem blendL_small (la lb : List Nat) (f g : Int) (n : Nat) : ∀ x ∈ blendL la lb f g n, x < 1000000000 := by
  intro x hx
  simp only [blendL, List.mem_map] at hx
  obtain ⟨k, _, rfl⟩ := hx
  exact dg_lt _ _ _ _ _
theorem blendL_pt (la lb : List Nat) (f g : Int) {n k : Nat} (h : k < n) : pt (blendL la lb f g n) k = digitL la lb f g k := by
  rw [pt_getElem (by rw [blendL_length]; exact h)]
  simp [blendL]
theorem carryL_bound {la lb : List Nat} {f g : Int} (hf : Small f) (hg : Small g) (ha : ∀ x ∈ la, x < 1000000000) (hb : ∀ x ∈ lb, x < 1000000000) (k : Nat) :
    -2000000000 ≤ carryL la lb f g k ∧ carryL la lb f g k ≤ 2000000000 := by
  induction k with
  | zero => exact ⟨by simp [carryL], by simp [carryL]⟩
  | succ k ih => exact cr_bound hf hg (pt_lt (by decide) ha k) (pt_lt (by decide) hb k) ih.1 ih.2

theorem val_take_succ (l : List Nat) (k : Nat) : val (l.take (k + 1)) = val (l.take k) + 1000000000 ^ k * pt l k := by
  by_cases h : k < l.length
  · rw [take_succ_pt h, val_snoc, List.length_take, Nat.min_eq_left (by omega)]
  · rw [List.take_of_length_le (by omega), List.take_of_length_le (by omega), pt_ge (by omega)]; simp

/-- What they come to: the parts, and what is carried beyond them. -/
theorem blend_val (la lb : List Nat) (f g : Int) (n : Nat) :
    (val (blendL la lb f g n) : Int) + 1000000000 ^ n * carryL la lb f g n = f * val (la.take n) + g * val (lb.take n) := by
  induction n with
  | zero => simp [blendL, carryL, val]
  | succ n ih =>
    rw [blendL_succ, val_snoc, blendL_length, val_take_succ, val_take_succ]
    have h := dg_eq f g (pt la n) (pt lb n) (carryL la lb f g n)
    simp only [carryL, digitL]
    unfold sumAt at h
    generalize cr f g (pt la n) (pt lb n) (carryL la lb f g n) = c' at *
    generalize dg f g (pt la n) (pt lb n) (carryL la lb f g n) = d at *
    generalize carryL la lb f g n = c at *
    generalize pt la n = x at *
    generalize pt lb n = y at *
    generalize val (blendL la lb f g n) = v at *
    generalize val (la.take n) = va at *
    generalize val (lb.take n) = vb at *
    simp only [Int.pow_succ, Int.natCast_add, Int.natCast_mul, Int.natCast_pow]
    have e9 : ((1000000000 : Nat) : Int) = 1000000000 := rfl
    rw [e9]
    generalize (1000000000 : Int) ^ n = p at *
    grind

theorem carry_of {v p : Nat} {c Z : Int} (hv : v < p) (h : (v : Int) + (p : Int) * c = Z) (h1 : Z < p) (h2 : -(p : Int) < Z) : (0 ≤ Z → c = 0) ∧ (Z < 0 → c = -1) := by
  have k1 : ¬ 1 ≤ c := fun hc => by
    have := Int.mul_le_mul_of_nonneg_left hc (show (0 : Int) ≤ p by omega)
    omega
  have k2 : ¬ c ≤ -2 := fun hc => by
    have := Int.mul_le_mul_of_nonneg_left hc (show (0 : Int) ≤ p by omega)
    omega
  refine ⟨fun hz => ?_, fun hz => ?_⟩
  · by_cases h0 : c = 0
    · exact h0
    · have : c = -1 := by omega
      subst this; omega
  · by_cases h0 : c = -1
    · exact h0
    · have : c = 0 := by omega
      subst this; omega

theorem pow_cast (n : Nat) : ((1000000000 ^ n : Nat) : Int) = 1000000000 ^ n := by rw [Int.natCast_pow]; rfl

/-- The sum of two amounts with signs: what is carried tells whether it is below 0; then what lacks is its amount. -/
theorem sum_parts {la lb : List Nat} {f g : Int} {n : Nat} (hf : f = 1 ∨ f = -1) (hg : g = 1 ∨ g = -1) (ha : ∀ x ∈ la, x < 1000000000) (hb : ∀ x ∈ lb, x < 1000000000) (na : la.length < n) (nb : lb.length < n) :
    (0 ≤ f * val la + g * val lb → carryL la lb f g n = 0 ∧ (val (blendL la lb f g n) : Int) = f * val la + g * val lb) ∧
    (f * val la + g * val lb < 0 → carryL la lb f g n = -1 ∧ (val (blendL (blendL la lb f g n) [] (-1) 0 n) : Int) = -(f * val la + g * val lb)) := by
  have h1 := blend_val la lb f g n
  rw [List.take_of_length_le (by omega), List.take_of_length_le (by omega)] at h1
  have h2 := val_lt (blendL_small la lb f g n)
  rw [blendL_length] at h2
  have hA : val la < 1000000000 ^ (n - 1) := Nat.lt_of_lt_of_le (val_lt ha) (Nat.pow_le_pow_right (by decide) (by omega))
  have hB : val lb < 1000000000 ^ (n - 1) := Nat.lt_of_lt_of_le (val_lt hb) (Nat.pow_le_pow_right (by decide) (by omega))
  have hp : 1000000000 ^ n = 1000000000 * 1000000000 ^ (n - 1) := by
    have : n = (n - 1) + 1 := by omega
    conv => lhs; rw [this]
    rw [Nat.pow_succ]; omega
  have h3 := blend_val (blendL la lb f g n) [] (-1) 0 n
  rw [List.take_of_length_le (by rw [blendL_length]; omega)] at h3
  have h4 := val_lt (blendL_small (blendL la lb f g n) [] (-1) 0 n)
  rw [blendL_length] at h4
  simp only [List.take_nil, val] at h3
  rw [← pow_cast] at h1 h3
  have hZ1 : f * val la + g * val lb < (1000000000 ^ n : Nat) := by rcases hf with rfl | rfl <;> rcases hg with rfl | rfl <;> omega
  have hZ2 : -((1000000000 ^ n : Nat) : Int) < f * val la + g * val lb := by rcases hf with rfl | rfl <;> rcases hg with rfl | rfl <;> omega
  generalize f * val la + g * val lb = Z at *
  generalize val (blendL la lb f g n) = v at *
  generalize val (blendL (blendL la lb f g n) [] (-1) 0 n) = v2 at *
  generalize carryL (blendL la lb f g n) [] (-1) 0 n = c2 at *
  generalize carryL la lb f g n = c at *
  generalize 1000000000 ^ n = p at *
  have k := carry_of h2 h1 hZ1 hZ2
  refine ⟨fun hz => ⟨k.1 hz, ?_⟩, fun hz => ⟨k.2 hz, ?_⟩⟩
  · rw [k.1 hz] at h1; omega
  · have e := k.2 hz
    subst e
    have hv : 0 < v := by omega
    have h5 : (v2 : Int) + (p : Int) * c2 = -(v : Int) := by rw [h3]; omega
    have k2 := carry_of (Z := -(v : Int)) h4 h5 (by omega) (by omega)
    have e2 := k2.2 (by omega)
    subst e2
    omega

end Go.Proofs.YtgpoljbccimkjaaGreatDoor

namespace Go.Proofs.YtgpoljbccimkjaaGreatDoor
set_option linter.unusedSimpArgs false
set_option linter.unusedVariables false

theorem val_zero {l : List Nat} (h : ∀ j, pt l j = 0) : val l = 0 := by
  induction l with
  | nil => rfl
  | cons x xs ih =>
    have h0 : x = 0 := h 0
    have h1 : ∀ j, pt xs j = 0 := fun j => by
      have := h (j + 1)
      unfold pt at this ⊢
      simpa using this
    simp only [val, ih h1, h0]
theorem val_split (l : List Nat) (k : Nat) (h : k ≤ l.length) : val l = val (l.take k) + 1000000000 ^ k * val (l.drop k) := by
  conv => lhs; rw [← List.take_append_drop k l]
  rw [val_append, List.length_take, Nat.min_eq_left h]
theorem val_take_of_zero {l : List Nat} {k : Nat} (h : ∀ j, k ≤ j → pt l j = 0) : val (l.take k) = val l := by
  by_cases hk : k ≤ l.length
  · have h1 := val_split l k hk
    have h2 : val (l.drop k) = 0 := val_zero fun j => by rw [pt_drop]; exact h _ (by omega)
    rw [h2] at h1
    omega
  · rw [List.take_of_length_le (by omega)]
theorem small_take {l : List Nat} (h : ∀ x ∈ l, x < 1000000000) (k : Nat) : ∀ x ∈ l.take k, x < 1000000000 := fun x hx => h x (List.mem_of_mem_take hx)
theorem small_drop {l : List Nat} (h : ∀ x ∈ l, x < 1000000000) (k : Nat) : ∀ x ∈ l.drop k, x < 1000000000 := fun x hx => h x (List.mem_of_mem_drop hx)
theorem pt_append_left {a b : List Nat} {j : Nat} (h : j < a.length) : pt (a ++ b) j = pt a j := by
  unfold pt; simp [List.getD_eq_getElem?_getD, List.getElem?_append_left h]
theorem pt_append_right {a b : List Nat} {j : Nat} (h : a.length ≤ j) : pt (a ++ b) j = pt b (j - a.length) := by
  unfold pt; simp [List.getD_eq_getElem?_getD, List.getElem?_append_right h]
theorem val_lt_of_zero {l : List Nat} {k : Nat} (hs : ∀ x ∈ l, x < 1000000000) (h : ∀ j, k ≤ j → pt l j = 0) : val l < 1000000000 ^ k := by
  rw [← val_take_of_zero h]
  refine Nat.lt_of_lt_of_le (val_lt (small_take hs k)) (Nat.pow_le_pow_right (by decide) ?_)
  rw [List.length_take]; omega

/-- One row more. -/
def rowStep (L row : List Nat) (i : Nat) : List Nat := L.take i ++ row ++ L.drop (i + row.length)
theorem rowStep_length {L row : List Nat} {i : Nat} (h : i + row.length ≤ L.length) : (rowStep L row i).length = L.length := by
  unfold rowStep; simp only [List.length_append, List.length_take, List.length_drop]; omega
theorem rowStep_small {L row : List Nat} {i : Nat} (h1 : ∀ x ∈ L, x < 1000000000) (h2 : ∀ x ∈ row, x < 1000000000) : ∀ x ∈ rowStep L row i, x < 1000000000 := by
  intro x hx
  unfold rowStep at hx
  rcases List.mem_append.1 hx with hx | hx
  · rcases List.mem_append.1 hx with hx | hx
    · exact small_take h1 _ x hx
    · exact h2 x hx
  · exact small_drop h1 _ x hx
theorem rowStep_val {L row : List Nat} {i : Nat} (h : i + row.length ≤ L.length) : val (rowStep L row i) = val (L.take i) + 1000000000 ^ i * (val row + 1000000000 ^ row.length * val (L.drop (i + row.length))) := by
  unfold rowStep
  rw [List.append_assoc, val_append, val_append, List.length_take, Nat.min_eq_left (by omega)]
theorem rowStep_pt_ge {L row : List Nat} {i j : Nat} (h : i + row.length ≤ L.length) (hj : i + row.length ≤ j) : pt (rowStep L row i) j = pt L j := by
  have h1 : (L.take i ++ row).length = i + row.length := by simp only [List.length_append, List.length_take]; omega
  unfold rowStep
  rw [pt_append_right (by omega), h1, pt_drop]
  congr 1
  omega

/-- What the first i rows have made. -/
def PInv (a b : List Nat) (i : Nat) (L : List Nat) : Prop :=
  L.length = a.length + b.length ∧ (∀ x ∈ L, x < 1000000000) ∧ val L = val (a.take i) * val b ∧ ∀ j, i + b.length ≤ j → pt L j = 0

def rowOf (b L : List Nat) (i x : Nat) : List Nat := blendL ((L.drop i).take (b.length + 1)) b 1 x (b.length + 1)

theorem PInv.zero (a b : List Nat) (L : List Nat) (hl : L.length = a.length + b.length) (h : ∀ j, pt L j = 0) : PInv a b 0 L := by
  refine ⟨hl, fun x hx => ?_, by simp [val, val_zero h], fun j _ => h j⟩
  obtain ⟨j, hj, rfl⟩ := List.getElem_of_mem hx
  have := h j
  rw [pt_getElem hj] at this
  omega

theorem PInv.step {a b : List Nat} {i : Nat} {L : List Nat} (h : PInv a b i L) (hi : i < a.length) (ha : ∀ x ∈ a, x < 1000000000) (hb : ∀ x ∈ b, x < 1000000000) :
    PInv a b (i + 1) (rowStep L (rowOf b L i (pt a i)) i) := by
  obtain ⟨h1, h2, h3, h4⟩ := h
  have hrl : (rowOf b L i (pt a i)).length = b.length + 1 := blendL_length _ _ _ _ _
  have hrs : ∀ x ∈ rowOf b L i (pt a i), x < 1000000000 := blendL_small _ _ _ _ _
  have hfit : i + (rowOf b L i (pt a i)).length ≤ L.length := by omega
  have hd0 : ∀ j, b.length ≤ j → pt (L.drop i) j = 0 := fun j hj => by rw [pt_drop]; exact h4 _ (by omega)
  have hR : val (L.drop i) < 1000000000 ^ b.length := val_lt_of_zero (small_drop h2 i) hd0
  have hrow := blend_val ((L.drop i).take (b.length + 1)) b 1 (pt a i) (b.length + 1)
  rw [List.take_take, Nat.min_self, List.take_of_length_le (show b.length ≤ b.length + 1 by omega), val_take_of_zero (fun j hj => hd0 j (by omega))] at hrow
  have hB := val_lt hb
  have hx : pt a i < 1000000000 := pt_lt (by decide) ha i
  have hv := val_lt hrs
  rw [hrl, Nat.pow_succ] at hv
  have hle : pt a i * val b ≤ 999999999 * val b := Nat.mul_le_mul_right _ (by omega)
  have hc : carryL ((L.drop i).take (b.length + 1)) b 1 (pt a i) (b.length + 1) = 0 := by
    have hZ : (1 : Int) * val (L.drop i) + (pt a i : Int) * val b = ((val (L.drop i) + pt a i * val b : Nat) : Int) := by rw [Int.natCast_add, Int.natCast_mul]; omega
    rw [hZ, ← pow_cast] at hrow
    refine (carry_of (v := val (rowOf b L i (pt a i))) (p := 1000000000 ^ (b.length + 1)) ?_ hrow ?_ ?_).1 (by omega)
    · rw [Nat.pow_succ]; omega
    · rw [Nat.pow_succ]; omega
    · omega
  rw [hc] at hrow
  have hrow2 : val (rowOf b L i (pt a i)) = val (L.drop i) + pt a i * val b := by
    have : (val (rowOf b L i (pt a i)) : Int) = ((val (L.drop i) + pt a i * val b : Nat) : Int) := by rw [Int.natCast_add, Int.natCast_mul]; unfold rowOf; omega
    omega
  have hrest : val (L.drop (i + (b.length + 1))) = 0 := val_zero fun j => by rw [pt_drop]; exact h4 _ (by omega)
  refine ⟨by rw [rowStep_length hfit]; exact h1, rowStep_small h2 hrs, ?_, fun j hj => ?_⟩
  · rw [rowStep_val hfit, hrl, hrest, hrow2, val_take_succ]
    have hs := val_split L i (by omega)
    rw [h3] at hs
    generalize val (L.take i) = u at *
    generalize val (L.drop i) = r at *
    generalize val (a.take i) = t at *
    generalize val b = vb at *
    generalize pt a i = x at *
    generalize 1000000000 ^ i = p at *
    rw [Nat.mul_zero, Nat.add_zero, Nat.mul_add, Nat.add_mul, Nat.mul_assoc]
    omega
  · rw [rowStep_pt_ge hfit (by omega)]
    exact h4 _ (by omega)

theorem PInv.done {a b : List Nat} {L : List Nat} (h : PInv a b a.length L) : val L = val a * val b := by
  have := h.2.2.1
  rwa [List.take_length] at this

end Go.Proofs.YtgpoljbccimkjaaGreatDoor

namespace Go.Proofs.YtgpoljbccimkjaaGreatDoor
set_option linter.unusedSimpArgs false
set_option linter.unusedVariables false

/-- One digit of 32 bits: a guess that is too great is told by the lower half of the divisor. -/
theorem digit_down {Y u d a b q r : Nat} (hY : Y = a * 4294967296 + b) (hq : q * a + r = u) (ht : (u * 4294967296 + d) / Y ≤ q) (hu : u < Y) (hd : d < 4294967296)
    (h : 4294967296 ≤ q ∨ 4294967296 * r + d < q * b) : (u * 4294967296 + d) / Y ≤ q - 1 ∧ 1 ≤ q := by
  have hpos : 0 < Y := by omega
  have key : (u * 4294967296 + d) / Y < q := by
    rcases h with h | h
    · refine Nat.lt_of_lt_of_le ?_ h
      rw [Nat.div_lt_iff_lt_mul hpos]
      have : (u + 1) * 4294967296 ≤ Y * 4294967296 := Nat.mul_le_mul_right _ hu
      omega
    · rw [Nat.div_lt_iff_lt_mul hpos, hY, Nat.mul_add, ← hq, ← Nat.mul_assoc]
      omega
  exact ⟨Nat.le_sub_one_of_lt key, Nat.lt_of_le_of_lt (Nat.zero_le _) key⟩
theorem digit_back {u a q r : Nat} (hq : q * a + r = u) (h : 1 ≤ q) : (q - 1) * a + (r + a) = u := by
  obtain ⟨k, rfl⟩ : ∃ k, q = k + 1 := ⟨q - 1, by omega⟩
  rw [Nat.add_mul, Nat.one_mul] at hq
  rw [Nat.add_sub_cancel]
  omega
theorem digit_lt {Y u d : Nat} (hu : u < Y) (hd : d < 4294967296) : (u * 4294967296 + d) / Y < 4294967296 := by
  rw [Nat.div_lt_iff_lt_mul (by omega)]
  have : (u + 1) * 4294967296 ≤ Y * 4294967296 := Nat.mul_le_mul_right _ hu
  omega
theorem digit_stop {Y u d a b q r : Nat} (hY : Y = a * 4294967296 + b) (hq : q * a + r = u) (ht : (u * 4294967296 + d) / Y ≤ q) (hpos : 0 < Y) (h : q * b ≤ 4294967296 * r + d) : (u * 4294967296 + d) / Y = q := by
  refine Nat.le_antisymm ht ?_
  rw [Nat.le_div_iff_mul_le hpos, hY, Nat.mul_add, ← hq, ← Nat.mul_assoc]
  omega
theorem digit_break {Y u d a b q r : Nat} (hY : Y = a * 4294967296 + b) (hq : q * a + r = u) (ht : (u * 4294967296 + d) / Y ≤ q) (hpos : 0 < Y) (hb : b < 4294967296) (h1 : q ≤ 4294967296) (h2 : 4294967296 ≤ r) : (u * 4294967296 + d) / Y = q := by
  refine digit_stop hY hq ht hpos ?_
  have e1 : q * b ≤ 4294967296 * b := Nat.mul_le_mul_right _ h1
  have e2 : 4294967296 * b ≤ 4294967296 * r := Nat.mul_le_mul_left _ (by omega)
  omega
theorem digit_start {Y u d a b : Nat} (hY : Y = a * 4294967296 + b) (ha : 2147483648 ≤ a) (hu : u < Y) (hb : b < 4294967296) (hd : d < 4294967296) : u / a * a + u % a = u ∧ (u * 4294967296 + d) / Y ≤ u / a ∧ u / a ≤ 4294967297 := by
  have hpos : 0 < a := by omega
  refine ⟨by rw [Nat.mul_comm]; exact Nat.div_add_mod u a, ?_, ?_⟩
  · have h1 : (u * 4294967296 + d) / Y ≤ (u * 4294967296 + d) / (a * 4294967296) := Nat.div_le_div_left (by omega) (by omega)
    refine Nat.le_trans h1 ?_
    rw [Nat.mul_comm a, ← Nat.div_div_eq_div_mul]
    refine Nat.div_le_div_right ?_
    omega
  · have : u / a < 4294967298 := by
      rw [Nat.div_lt_iff_lt_mul hpos]
      omega
    omega

theorem shl_split (lo s : Nat) (hs : s ≤ 64) : lo * 2 ^ s = lo / 2 ^ (64 - s) * 18446744073709551616 + lo * 2 ^ s % 18446744073709551616 := by
  have h1 : lo * 2 ^ s / 18446744073709551616 = lo / 2 ^ (64 - s) := by
    have : (18446744073709551616 : Nat) = 2 ^ (64 - s) * 2 ^ s := by rw [← Nat.pow_add, Nat.sub_add_cancel hs]
    rw [this, Nat.mul_div_mul_right _ _ (Nat.pow_pos (by decide))]
  have h2 := Nat.div_add_mod (lo * 2 ^ s) 18446744073709551616
  rw [h1] at h2
  omega

theorem two_digits (A u0 : Nat) {Y : Nat} (hY : 0 < Y) : A / Y * 4294967296 + (A % Y * 4294967296 + u0) / Y = (A * 4294967296 + u0) / Y := by
  have h := Nat.div_add_mod A Y
  have e : A * 4294967296 + u0 = (A % Y * 4294967296 + u0) + Y * (A / Y * 4294967296) := by
    conv => lhs; rw [← h]
    rw [Nat.add_mul, Nat.mul_assoc]
    omega
  rw [e, Nat.add_mul_div_left _ _ hY]
  exact Nat.add_comm _ _

/-- The two digits together. -/
theorem wide_quot {hi lo y s Y u c u1 u0 : Nat} (hy : 0 < y) (hs : s ≤ 64) (hY : Y = y * 2 ^ s) (hu : u = hi * 2 ^ s + lo / 2 ^ (64 - s)) (hc : c = lo * 2 ^ s % 18446744073709551616)
    (h1 : u1 = c / 4294967296) (h0 : u0 = c % 4294967296) :
    (u * 4294967296 + u1) / Y * 4294967296 + ((u * 4294967296 + u1) % Y * 4294967296 + u0) / Y = (hi * 18446744073709551616 + lo) / y := by
  have hp : 0 < 2 ^ s := Nat.pow_pos (by decide)
  have hYp : 0 < Y := by rw [hY]; exact Nat.mul_pos hy hp
  have e1 : (hi * 18446744073709551616 + lo) * 2 ^ s = (u * 4294967296 + u1) * 4294967296 + u0 := by
    have := shl_split lo s hs
    rw [← hc] at this
    rw [Nat.add_mul, this, hu, h1, h0]
    have h2 := Nat.div_add_mod c 4294967296
    generalize 2 ^ s = p at *
    generalize lo / 2 ^ (64 - s) = x at *
    rw [Nat.mul_right_comm hi]
    generalize hi * p = z at *
    omega
  have e2 : (hi * 18446744073709551616 + lo) / y = ((u * 4294967296 + u1) * 4294967296 + u0) / Y := by
    rw [← Nat.mul_div_mul_right (hi * 18446744073709551616 + lo) y hp, e1, hY]
  rw [e2]
  exact two_digits _ _ hYp
theorem wide_rem {A Y t : Nat} (ht : t = A / Y) : A - t * Y = A % Y := by
  have := Nat.div_add_mod A Y
  rw [Nat.mul_comm] at this
  subst ht
  generalize A / Y * Y = z at *
  omega

end Go.Proofs.YtgpoljbccimkjaaGreatDoor

namespace Go.Proofs.YtgpoljbccimkjaaGreatDoor
set_option linter.unusedSimpArgs false
set_option linter.unusedVariables false

/-- What holds at each round, of the numbers on top: their cofactors' signs and bounds, and what is left. -/
structure FInv (X Y x y f0 f1 s0 s1 : Int) : Prop where
  ex : x = f0 * X + f1 * Y
  ey : y = s0 * X + s1 * Y
  sgn : (f0 * s1 - f1 * s0 = 1 ∧ 0 ≤ f0 ∧ f1 ≤ 0 ∧ s0 ≤ 0 ∧ 0 ≤ s1) ∨ (f0 * s1 - f1 * s0 = -1 ∧ f0 ≤ 0 ∧ 0 ≤ f1 ∧ 0 ≤ s0 ∧ s1 ≤ 0)
  px0 : 0 ≤ x + f0
  px1 : 0 ≤ x + f1
  py0 : 0 ≤ y + s0
  py1 : 0 ≤ y + s1
  bf0 : -1000000000 ≤ f0 ∧ f0 ≤ 1000000000
  bf1 : -1000000000 ≤ f1 ∧ f1 ≤ 1000000000
  bs0 : -1000000000 ≤ s0 ∧ s0 ≤ 1000000000
  bs1 : -1000000000 ≤ s1 ∧ s1 ≤ 1000000000
  bx : 0 ≤ x ∧ x < 1000000000000000000
  by' : 0 ≤ y ∧ y < 1000000000000000000
  /-- At the beginning, or behind a step at least. -/
  far : (f0 = 1 ∧ f1 = 0 ∧ x = X ∧ y = Y ∧ s0 = 0 ∧ s1 = 1) ∨ (y + s0 < x + f0 ∧ y + s1 < x + f1 ∧ y + s0 ≤ Y - 1 ∧ y + s1 ≤ Y - 1 ∧ x + f0 ≤ Y + 1 ∧ x + f1 ≤ Y + 1)

theorem FInv.start {X Y : Int} (hX : 0 ≤ X ∧ X < 1000000000000000000) (hY : 0 ≤ Y ∧ Y < 1000000000000000000) : FInv X Y X Y 1 0 0 1 :=
  ⟨by omega, by omega, .inl ⟨by decide, by decide, by decide, by decide, by decide⟩, by omega, by omega, by omega, by omega, by decide, by decide, by decide, by decide, hX, hY, .inl ⟨rfl, rfl, rfl, rfl, rfl, rfl⟩⟩

theorem sq_bound {u y X : Int} (h0 : 0 ≤ u) (h1 : u < y) (h2 : u * y ≤ X) (h3 : X < 1000000000000000000) : u ≤ 1000000000 := by
  by_cases h : u ≤ 1000000000
  · exact h
  · exfalso
    have e1 : 1000000000 * y ≤ u * y := Int.mul_le_mul_of_nonneg_right (by omega) (by omega)
    omega

theorem FInv.step {X Y x y f0 f1 s0 s1 n : Int} (h : FInv X Y x y f0 f1 s0 s1) (hX : X < 1000000000000000000) (hY : Y < 1000000000000000000) (h0 : 0 < y + s0) (h1 : 0 < y + s1) (hn : n = (x + f0) / (y + s0)) (hm : n = (x + f1) / (y + s1)) :
    FInv X Y y (x - n * y) s0 s1 (f0 - n * s0) (f1 - n * s1) ∧ (x - n * y) + (f0 - n * s0) < y + s0 ∧ 0 ≤ n ∧ 0 < y := by
  have r0 : 0 ≤ (x + f0) - n * (y + s0) ∧ (x + f0) - n * (y + s0) < y + s0 := by
    have e := Int.emod_add_mul_ediv (x + f0) (y + s0)
    have e1 := Int.emod_nonneg (x + f0) (show y + s0 ≠ 0 by omega)
    have e2 := Int.emod_lt_of_pos (x + f0) h0
    rw [← hn, Int.mul_comm] at e
    omega
  have r1 : 0 ≤ (x + f1) - n * (y + s1) ∧ (x + f1) - n * (y + s1) < y + s1 := by
    have e := Int.emod_add_mul_ediv (x + f1) (y + s1)
    have e1 := Int.emod_nonneg (x + f1) (show y + s1 ≠ 0 by omega)
    have e2 := Int.emod_lt_of_pos (x + f1) h1
    rw [← hm, Int.mul_comm] at e
    omega
  have n0 : 0 ≤ n := by rw [hn]; exact Int.ediv_nonneg h.px0 (by omega)
  have q0 : (x + f0) - n * (y + s0) = (x - n * y) + (f0 - n * s0) := by rw [Int.mul_add]; omega
  have q1 : (x + f1) - n * (y + s1) = (x - n * y) + (f1 - n * s1) := by rw [Int.mul_add]; omega
  rw [q0] at r0
  rw [q1] at r1
  have ez : x - n * y = (f0 - n * s0) * X + (f1 - n * s1) * Y := by have := h.ex; have := h.ey; grind
  have i1 : (f1 - n * s1) * y - s1 * (x - n * y) = (s0 * (f1 - n * s1) - s1 * (f0 - n * s0)) * X := by have := h.ex; have := h.ey; grind
  have i2 : s0 * (x - n * y) - (f0 - n * s0) * y = (s0 * (f1 - n * s1) - s1 * (f0 - n * s0)) * Y := by have := h.ex; have := h.ey; grind
  have i3 : s0 * (f1 - n * s1) - s1 * (f0 - n * s0) = -(f0 * s1 - f1 * s0) := by grind
  have bf0 := h.bs0
  have bf1 := h.bs1
  rcases h.sgn with ⟨d, a1, a2, a3, a4⟩ | ⟨d, a1, a2, a3, a4⟩
  · have m0 : n * s0 ≤ 0 := Int.mul_nonpos_of_nonneg_of_nonpos n0 a3
    have m1 : 0 ≤ n * s1 := Int.mul_nonneg n0 a4
    have hu0 : 0 ≤ f0 - n * s0 := by omega
    have hu1 : f1 - n * s1 ≤ 0 := by omega
    rw [i3, d] at i1 i2
    rw [d] at i3
    generalize f0 - n * s0 = u0 at *
    generalize f1 - n * s1 = u1 at *
    generalize x - n * y = z at *
    have hz0 : 0 ≤ z := by omega
    have hy0 : 0 < y := by omega
    have g1 : 0 ≤ s1 * z := Int.mul_nonneg a4 hz0
    have g2 : s0 * z ≤ 0 := Int.mul_nonpos_of_nonpos_of_nonneg a3 hz0
    have b0 : u0 ≤ 1000000000 := sq_bound (y := y) hu0 (by omega) (X := Y) (by omega) hY
    have b1 : -u1 ≤ 1000000000 := sq_bound (y := y) (by omega) (by omega) (X := X) (by rw [Int.neg_mul]; omega) hX
    refine ⟨⟨h.ey, ez, .inr ⟨i3, a3, a4, hu0, hu1⟩, by omega, by omega, by omega, by omega, bf0, bf1, by omega, by omega, ⟨by omega, h.by'.2⟩, ⟨hz0, by have := h.by'.2; omega⟩, .inr ?_⟩, by omega, n0, hy0⟩
    rcases h.far with ⟨t1, t2, t3, t4, t5, t6⟩ | ⟨t1, t2, t3, t4, t5, t6⟩
    · refine ⟨by omega, by omega, by omega, by omega, by omega, by omega⟩
    · refine ⟨by omega, by omega, by omega, by omega, by omega, by omega⟩
  · have m0 : 0 ≤ n * s0 := Int.mul_nonneg n0 a3
    have m1 : n * s1 ≤ 0 := Int.mul_nonpos_of_nonneg_of_nonpos n0 a4
    have hu0 : f0 - n * s0 ≤ 0 := by omega
    have hu1 : 0 ≤ f1 - n * s1 := by omega
    rw [i3, d] at i1 i2
    rw [d] at i3
    generalize f0 - n * s0 = u0 at *
    generalize f1 - n * s1 = u1 at *
    generalize x - n * y = z at *
    have hz0 : 0 ≤ z := by omega
    have hy0 : 0 < y := by omega
    have g1 : s1 * z ≤ 0 := Int.mul_nonpos_of_nonpos_of_nonneg a4 hz0
    have g2 : 0 ≤ s0 * z := Int.mul_nonneg a3 hz0
    have b0 : -u0 ≤ 1000000000 := sq_bound (y := y) (by omega) (by omega) (X := Y) (by rw [Int.neg_mul]; omega) hY
    have b1 : u1 ≤ 1000000000 := sq_bound (y := y) hu1 (by omega) (X := X) (by omega) hX
    refine ⟨⟨h.ey, ez, .inl ⟨i3, a3, a4, hu0, hu1⟩, by omega, by omega, by omega, by omega, bf0, bf1, by omega, by omega, ⟨by omega, h.by'.2⟩, ⟨hz0, by have := h.by'.2; omega⟩, .inr ?_⟩, by omega, n0, hy0⟩
    rcases h.far with ⟨t1, t2, t3, t4, t5, t6⟩ | ⟨t1, t2, t3, t4, t5, t6⟩
    · omega
    · refine ⟨by omega, by omega, by omega, by omega, by omega, by omega⟩

/-- What the cofactors make of the greater numbers: from 0 on, in room, falling. -/
theorem FInv.near {X Y x y f0 f1 s0 s1 : Int} (h : FInv X Y x y f0 f1 s0 s1) (hf : ¬(f0 = 1 ∧ f1 = 0)) {A B S a' b' : Int} (hA : A = X * S + a') (hB : B = Y * S + b') (ha : 0 ≤ a' ∧ a' < S) (hb : 0 ≤ b' ∧ b' < S) :
    0 ≤ f0 * A + f1 * B ∧ f0 * A + f1 * B ≤ (Y + 1) * S ∧ 0 ≤ s0 * A + s1 * B ∧ s0 * A + s1 * B < B ∧ s0 * A + s1 * B ≤ f0 * A + f1 * B := by
  have hfar : y + s0 < x + f0 ∧ y + s1 < x + f1 ∧ y + s0 ≤ Y - 1 ∧ y + s1 ≤ Y - 1 ∧ x + f0 ≤ Y + 1 ∧ x + f1 ≤ Y + 1 := by
    rcases h.far with ⟨t1, t2, _⟩ | t
    · exact absurd ⟨t1, t2⟩ hf
    · exact t
  obtain ⟨t1, t2, t3, t4, t5, t6⟩ := hfar
  have eC : f0 * A + f1 * B = x * S + f0 * a' + f1 * b' := by have := h.ex; grind
  have eD : s0 * A + s1 * B = y * S + s0 * a' + s1 * b' := by have := h.ey; grind
  have hS : 0 < S := by omega
  have mono : ∀ {p q : Int}, p ≤ q → p * S ≤ q * S := fun hpq => Int.mul_le_mul_of_nonneg_right hpq (by omega)
  have up : ∀ {p v : Int}, 0 ≤ p → 0 ≤ v ∧ v < S → 0 ≤ p * v ∧ p * v ≤ p * S := fun hp hv => ⟨Int.mul_nonneg hp hv.1, Int.mul_le_mul_of_nonneg_left (by omega) hp⟩
  have dn : ∀ {p v : Int}, p ≤ 0 → 0 ≤ v ∧ v < S → p * v ≤ 0 ∧ p * S ≤ p * v := @fun p v hp hv => ⟨Int.mul_nonpos_of_nonpos_of_nonneg hp hv.1, by
    have := Int.mul_le_mul_of_nonneg_left (show v ≤ S by omega) (show 0 ≤ -p by omega)
    rw [Int.neg_mul, Int.neg_mul] at this
    omega⟩
  rw [eC, eD]
  have k1 := mono t3
  have k2 := mono t4
  have k3 := mono t5
  have k4 := mono t6
  have k5 := mono (show y + s0 ≤ x + f0 by omega)
  have k6 := mono (show y + s1 ≤ x + f1 by omega)
  have k7 := mono (show (0 : Int) ≤ x + f0 from h.px0)
  have k8 := mono (show (0 : Int) ≤ x + f1 from h.px1)
  have k9 := mono (show (0 : Int) ≤ y + s0 from h.py0)
  have k10 := mono (show (0 : Int) ≤ y + s1 from h.py1)
  rw [Int.zero_mul] at k7 k8 k9 k10
  simp only [Int.add_mul, Int.sub_mul, Int.one_mul] at k1 k2 k3 k4 k5 k6 k7 k8 k9 k10 ⊢
  rcases h.sgn with ⟨d, a1, a2, a3, a4⟩ | ⟨d, a1, a2, a3, a4⟩
  · obtain ⟨c1, c2⟩ := up a1 ha
    obtain ⟨c3, c4⟩ := dn a2 hb
    obtain ⟨c5, c6⟩ := dn a3 ha
    obtain ⟨c7, c8⟩ := up a4 hb
    omega
  · obtain ⟨c1, c2⟩ := dn a1 ha
    obtain ⟨c3, c4⟩ := up a2 hb
    obtain ⟨c5, c6⟩ := up a3 ha
    obtain ⟨c7, c8⟩ := dn a4 hb
    omega

/-- The greatest divisor of both stays. -/
theorem gcd_unimodular {A B f0 f1 s0 s1 : Int} (hd : f0 * s1 - f1 * s0 = 1 ∨ f0 * s1 - f1 * s0 = -1) : Int.gcd (f0 * A + f1 * B) (s0 * A + s1 * B) = Int.gcd A B := by
  apply Nat.dvd_antisymm
  · have h1 : ((Int.gcd (f0 * A + f1 * B) (s0 * A + s1 * B) : Nat) : Int) ∣ f0 * A + f1 * B := Int.gcd_dvd_left ..
    have h2 : ((Int.gcd (f0 * A + f1 * B) (s0 * A + s1 * B) : Nat) : Int) ∣ s0 * A + s1 * B := Int.gcd_dvd_right ..
    have e1 : s1 * (f0 * A + f1 * B) - f1 * (s0 * A + s1 * B) = (f0 * s1 - f1 * s0) * A := by grind
    have e2 : f0 * (s0 * A + s1 * B) - s0 * (f0 * A + f1 * B) = (f0 * s1 - f1 * s0) * B := by grind
    have d1 := Int.dvd_sub (Int.dvd_trans h1 (Int.dvd_mul_left s1 _)) (Int.dvd_trans h2 (Int.dvd_mul_left f1 _))
    have d2 := Int.dvd_sub (Int.dvd_trans h2 (Int.dvd_mul_left f0 _)) (Int.dvd_trans h1 (Int.dvd_mul_left s0 _))
    rw [e1] at d1
    rw [e2] at d2
    have g1 : ((Int.gcd (f0 * A + f1 * B) (s0 * A + s1 * B) : Nat) : Int) ∣ A := by
      rcases hd with hd | hd <;> rw [hd] at d1
      · rwa [Int.one_mul] at d1
      · rw [Int.neg_mul, Int.one_mul] at d1; exact Int.dvd_neg.1 d1
    have g2 : ((Int.gcd (f0 * A + f1 * B) (s0 * A + s1 * B) : Nat) : Int) ∣ B := by
      rcases hd with hd | hd <;> rw [hd] at d2
      · rwa [Int.one_mul] at d2
      · rw [Int.neg_mul, Int.one_mul] at d2; exact Int.dvd_neg.1 d2
    exact Int.natCast_dvd_natCast.1 (Int.dvd_coe_gcd g1 g2)
  · have h1 : ((Int.gcd A B : Nat) : Int) ∣ A := Int.gcd_dvd_left ..
    have h2 : ((Int.gcd A B : Nat) : Int) ∣ B := Int.gcd_dvd_right ..
    refine Int.natCast_dvd_natCast.1 (Int.dvd_coe_gcd ?_ ?_)
    · exact Int.dvd_add (Int.dvd_trans h1 (Int.dvd_mul_left _ _)) (Int.dvd_trans h2 (Int.dvd_mul_left _ _))
    · exact Int.dvd_add (Int.dvd_trans h1 (Int.dvd_mul_left _ _)) (Int.dvd_trans h2 (Int.dvd_mul_left _ _))

end Go.Proofs.YtgpoljbccimkjaaGreatDoor

namespace Go.Proofs.YtgpoljbccimkjaaGreatDoor
set_option linter.unusedSimpArgs false
set_option linter.unusedVariables false

theorem val_two {l : List Nat} {m : Nat} (h : l.length ≤ m + 2) : val l = (pt l (m + 1) * 1000000000 + pt l m) * 1000000000 ^ m + val (l.take m) := by
  have h1 := val_take_succ l m
  have h2 := val_take_succ l (m + 1)
  rw [List.take_of_length_le h, h1, Nat.pow_succ] at h2
  rw [h2]
  generalize 1000000000 ^ m = p
  generalize pt l m = y
  generalize pt l (m + 1) = x
  grind

theorem take_lt {l : List Nat} (h : ∀ x ∈ l, x < 1000000000) (m : Nat) : val (l.take m) < 1000000000 ^ m := by
  have h1 := val_lt (small_take h m)
  refine Nat.lt_of_lt_of_le h1 (Nat.pow_le_pow_right (by decide) ?_)
  rw [List.length_take]; omega

/-- A first row's number is in room, not at its edge. -/
theorem FInv.room {X Y x y f0 f1 s0 s1 : Int} (h : FInv X Y x y f0 f1 s0 s1) (hf : ¬(f0 = 1 ∧ f1 = 0)) {A B S a' b' : Int} (hA : A = X * S + a') (hB : B = Y * S + b') (ha : 0 ≤ a' ∧ a' < S) (hb : 0 ≤ b' ∧ b' < S) :
    f0 * A + f1 * B < (Y + 1) * S := by
  have hfar : x + f0 ≤ Y + 1 ∧ x + f1 ≤ Y + 1 := by
    rcases h.far with ⟨t1, t2, _⟩ | ⟨_, _, _, _, t5, t6⟩
    · exact absurd ⟨t1, t2⟩ hf
    · exact ⟨t5, t6⟩
  obtain ⟨t5, t6⟩ := hfar
  have eC : f0 * A + f1 * B = x * S + f0 * a' + f1 * b' := by have := h.ex; grind
  rw [eC]
  have k3 : (x + f0) * S ≤ (Y + 1) * S := Int.mul_le_mul_of_nonneg_right t5 (by omega)
  have k4 : (x + f1) * S ≤ (Y + 1) * S := Int.mul_le_mul_of_nonneg_right t6 (by omega)
  rw [Int.add_mul] at k3 k4
  rcases h.sgn with ⟨d, a1, a2, a3, a4⟩ | ⟨d, a1, a2, a3, a4⟩
  · have h1 : 1 ≤ f0 := by
      rcases Int.lt_or_le f0 1 with h0 | h0
      · have e : f0 = 0 := by omega
        subst e
        have := Int.mul_nonneg (show 0 ≤ -f1 by omega) (show 0 ≤ -s0 by omega)
        rw [Int.neg_mul_neg] at this
        omega
      · exact h0
    have g1 : f0 * a' ≤ f0 * (S - 1) := Int.mul_le_mul_of_nonneg_left (by omega) a1
    have g2 : f1 * b' ≤ 0 := Int.mul_nonpos_of_nonpos_of_nonneg a2 hb.1
    rw [Int.mul_sub, Int.mul_one] at g1
    omega
  · have h1 : 1 ≤ f1 := by
      rcases Int.lt_or_le f1 1 with h0 | h0
      · have e : f1 = 0 := by omega
        subst e
        have := Int.mul_nonneg (show 0 ≤ -f0 by omega) (show 0 ≤ -s1 by omega)
        rw [Int.neg_mul_neg] at this
        omega
      · exact h0
    have g1 : f1 * b' ≤ f1 * (S - 1) := Int.mul_le_mul_of_nonneg_left (by omega) a2
    have g2 : f0 * a' ≤ 0 := Int.mul_nonpos_of_nonpos_of_nonneg a1 ha.1
    rw [Int.mul_sub, Int.mul_one] at g1
    omega

theorem blend_fit {la lb : List Nat} {f g Z : Int} {n : Nat} (na : la.length ≤ n) (nb : lb.length ≤ n) (hZ : f * val la + g * val lb = Z) (h0 : 0 ≤ Z) (h1 : Z < ((1000000000 ^ n : Nat) : Int)) : (val (blendL la lb f g n) : Int) = Z := by
  have h2 := blend_val la lb f g n
  rw [List.take_of_length_le na, List.take_of_length_le nb, ← pow_cast, hZ] at h2
  have h3 := val_lt (blendL_small la lb f g n)
  rw [blendL_length] at h3
  have h4 := (carry_of h3 h2 h1 (by omega)).1 h0
  rw [h4] at h2
  omega

/-- What both rows are, behind many steps at once. -/
theorem near_rows {la lb : List Nat} {m X Y : Nat} {x y f0 f1 s0 s1 : Int} (na : la.length ≤ m + 2) (nb : lb.length ≤ m + 2) (sa : ∀ x ∈ la, x < 1000000000) (sb : ∀ x ∈ lb, x < 1000000000)
    (hX : X = pt la (m + 1) * 1000000000 + pt la m) (hY : Y = pt lb (m + 1) * 1000000000 + pt lb m) (h : FInv X Y x y f0 f1 s0 s1) (hf : ¬(f0 = 1 ∧ f1 = 0)) :
    val (blendL la lb s0 s1 (m + 2)) < val lb ∧ val (blendL la lb s0 s1 (m + 2)) ≤ val (blendL la lb f0 f1 (m + 2)) ∧ Nat.gcd (val (blendL la lb f0 f1 (m + 2))) (val (blendL la lb s0 s1 (m + 2))) = Nat.gcd (val la) (val lb) := by
  have ea := val_two na
  have eb := val_two nb
  rw [← hX] at ea
  rw [← hY] at eb
  have ta := take_lt sa m
  have tb := take_lt sb m
  have hYb : Y + 1 ≤ 1000000000000000000 := by
    have p1 := pt_lt (by decide) sb (m + 1)
    have p2 := pt_lt (by decide) sb m
    omega
  have hp : 1000000000 ^ (m + 2) = 1000000000000000000 * 1000000000 ^ m := by rw [Nat.pow_add, Nat.mul_comm]
  have hroom : (Y + 1) * 1000000000 ^ m ≤ 1000000000 ^ (m + 2) := by rw [hp]; exact Nat.mul_le_mul_right _ hYb
  generalize hS : 1000000000 ^ m = S at *
  generalize val (la.take m) = a' at *
  generalize val (lb.take m) = b' at *
  have eA : (val la : Int) = (X : Int) * (S : Int) + (a' : Int) := by rw [ea, Int.natCast_add, Int.natCast_mul]
  have eB : (val lb : Int) = (Y : Int) * (S : Int) + (b' : Int) := by rw [eb, Int.natCast_add, Int.natCast_mul]
  obtain ⟨c1, c2, c3, c4, c5⟩ := h.near hf eA eB ⟨by omega, by omega⟩ ⟨by omega, by omega⟩
  have c6 := h.room hf eA eB ⟨by omega, by omega⟩ ⟨by omega, by omega⟩
  have e9 : ((Y : Int) + 1) * (S : Int) = (((Y + 1) * S : Nat) : Int) := by rw [Int.natCast_mul, Int.natCast_add]; rfl
  rw [e9] at c6
  have r1 := blend_fit (la := la) (lb := lb) (f := f0) (g := f1) (n := m + 2) na nb rfl c1 (by omega)
  have r2 := blend_fit (la := la) (lb := lb) (f := s0) (g := s1) (n := m + 2) na nb rfl c3 (by omega)
  have hd : f0 * s1 - f1 * s0 = 1 ∨ f0 * s1 - f1 * s0 = -1 := by rcases h.sgn with ⟨d, _⟩ | ⟨d, _⟩ <;> simp [d]
  have hg := gcd_unimodular (A := (val la : Int)) (B := (val lb : Int)) hd
  rw [← r1, ← r2, Int.gcd_natCast_natCast, Int.gcd_natCast_natCast] at hg
  rw [← r1, ← r2] at c5
  rw [← r2] at c4
  exact ⟨by omega, by omega, hg⟩

theorem length_le_of_val {a b : List Nat} (hb : ∀ x ∈ b, x < 1000000000) (ta : Top a) (h : val a ≤ val b) : a.length ≤ b.length := by
  rcases Nat.lt_or_ge b.length a.length with h1 | h1
  · have := val_lt_of_length hb ta h1
    omega
  · exact h1

theorem val_le2 {l : List Nat} (h : l.length ≤ 2) : val l = ptI l 1 * 1000000000 + ptI l 0 := by
  have := val_two (m := 0) h
  have e1 : ptI l 1 = pt l 1 := ptI_nat l 1
  have e0 : ptI l 0 = pt l 0 := ptI_nat l 0
  rw [this, e1, e0, List.take_zero]
  simp [val]

end Go.Proofs.YtgpoljbccimkjaaGreatDoor
