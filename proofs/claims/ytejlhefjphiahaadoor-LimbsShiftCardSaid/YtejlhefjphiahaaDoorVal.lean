/- Plain facts: the number that a list of parts is. -/
namespace Go.Proofs.YtejlhefjphiahaaDoor

/-- The i-th part, or 0. -/
def pt (l : List Nat) (i : Nat) : Nat := l.getD i 0
/-- The i-th part, or 0, at whatever integer. -/
def ptI (l : List Nat) (i : Int) : Nat := if i < 0 then 0 else pt l i.toNat

theorem pt_lt {l : List Nat} {B : Nat} (hB : 0 < B) (h : ∀ x ∈ l, x < B) (i : Nat) : pt l i < B := by
  unfold pt
  rw [List.getD_eq_getElem?_getD]
  cases hx : l[i]? with
  | none => simpa using hB
  | some x => simpa using h x (List.mem_of_getElem? hx)
theorem pt_ge {l : List Nat} {i : Nat} (h : l.length ≤ i) : pt l i = 0 := by
  unfold pt
  simp [List.getD_eq_getElem?_getD, List.getElem?_eq_none h]
theorem pt_getElem {l : List Nat} {i : Nat} (h : i < l.length) : pt l i = l[i] := by
  unfold pt
  simp [List.getD_eq_getElem?_getD, h]
theorem pt_mem {l : List Nat} {i : Nat} (h : i < l.length) : pt l i ∈ l := by
  rw [pt_getElem h]; exact List.getElem_mem h
theorem pt_take {l : List Nat} {k i : Nat} (h : i < k) : pt (l.take k) i = pt l i := by
  unfold pt
  simp [List.getD_eq_getElem?_getD, List.getElem?_take, h]
theorem pt_drop (l : List Nat) (k i : Nat) : pt (l.drop k) i = pt l (k + i) := by
  unfold pt
  simp [List.getD_eq_getElem?_getD, List.getElem?_drop]
theorem ptI_nat (l : List Nat) (i : Nat) : ptI l (i : Int) = pt l i := by
  unfold ptI
  rw [if_neg (by omega)]
  simp
theorem ptI_neg (l : List Nat) {i : Int} (h : i < 0) : ptI l i = 0 := by
  unfold ptI; rw [if_pos h]
theorem ptI_ge (l : List Nat) {i : Int} (h : (l.length : Int) ≤ i) : ptI l i = 0 := by
  unfold ptI; rw [if_neg (by omega)]; exact pt_ge (by omega)
theorem take_succ_pt {l : List Nat} {k : Nat} (h : k < l.length) : l.take (k + 1) = l.take k ++ [pt l k] := by
  rw [List.take_succ_eq_append_getElem h, pt_getElem h]
theorem list_ext_pt {a b : List Nat} (hl : a.length = b.length) (h : ∀ i, i < a.length → pt a i = pt b i) : a = b := by
  refine List.ext_getElem hl fun i h1 h2 => ?_
  have := h i h1
  rwa [pt_getElem h1, pt_getElem h2] at this

/-- Without the noughts at its end. -/
def trimL (l : List Nat) : List Nat := (l.reverse.dropWhile (· == 0)).reverse
theorem trimL_nil : trimL [] = [] := rfl
theorem trimL_snoc_zero (l : List Nat) : trimL (l ++ [0]) = trimL l := by simp [trimL]
theorem trimL_snoc (l : List Nat) {x : Nat} (h : x ≠ 0) : trimL (l ++ [x]) = l ++ [x] := by simp [trimL, h]
theorem trimL_take_zero {l : List Nat} {k : Nat} (h : k < l.length) (h0 : pt l k = 0) : trimL (l.take (k + 1)) = trimL (l.take k) := by
  rw [take_succ_pt h, h0, trimL_snoc_zero]
theorem trimL_take_pos {l : List Nat} {k : Nat} (h : k < l.length) (h0 : pt l k ≠ 0) : trimL (l.take (k + 1)) = l.take (k + 1) := by
  rw [take_succ_pt h, trimL_snoc _ h0]
theorem trimL_prefix (l : List Nat) : trimL l <+: l := by
  unfold trimL
  have h := List.dropWhile_suffix (· == 0) (l := l.reverse)
  have := List.reverse_prefix.2 h
  simpa using this
theorem trimL_length_le (l : List Nat) : (trimL l).length ≤ l.length := (trimL_prefix l).length_le
theorem trimL_eq_take (l : List Nat) : trimL l = l.take (trimL l).length := (List.prefix_iff_eq_take.1 (trimL_prefix l))

/-- A number may be: its parts are below 10^9, the last one is not 0; 0 has none, and is not below 0. -/
def okB (s : Bool) (l : List Nat) : Bool := if l.length = 0 then !s else l.all (· < 1000000000) && pt l (l.length - 1) != 0

/-- cmp.Compare. -/
def cmpI (a b : Int) : Int := if a < b then -1 else if b < a then 1 else 0

end Go.Proofs.YtejlhefjphiahaaDoor

namespace Go.Proofs.YtejlhefjphiahaaDoor

/-- The number of an amount, its lowest part first. -/
def val : List Nat → Nat
  | [] => 0
  | x :: xs => x + 1000000000 * val xs

theorem val_append (a b : List Nat) : val (a ++ b) = val a + 1000000000 ^ a.length * val b := by
  induction a with
  | nil => simp [val]
  | cons x xs ih =>
    simp only [List.cons_append, val, List.length_cons, ih, Nat.pow_succ]
    rw [Nat.mul_add, ← Nat.mul_assoc, Nat.mul_comm 1000000000 (1000000000 ^ xs.length), Nat.add_assoc]
theorem val_snoc (a : List Nat) (x : Nat) : val (a ++ [x]) = val a + 1000000000 ^ a.length * x := by
  rw [val_append]; simp [val]
theorem val_lt {l : List Nat} (h : ∀ x ∈ l, x < 1000000000) : val l < 1000000000 ^ l.length := by
  induction l with
  | nil => simp [val]
  | cons x xs ih =>
    have h1 := ih fun y hy => h y (by simp [hy])
    have h2 := h x (by simp)
    simp only [val, List.length_cons, Nat.pow_succ]
    omega
theorem val_trimL (l : List Nat) : val (trimL l) = val l := by
  have key : ∀ r : List Nat, val (r.dropWhile (· == 0)).reverse = val r.reverse := by
    intro r
    induction r with
    | nil => rfl
    | cons x xs ih =>
      by_cases hx : x = 0
      · subst hx
        rw [List.dropWhile_cons_of_pos (by simp), ih, List.reverse_cons, val_snoc]; simp
      · rw [List.dropWhile_cons_of_neg (by simpa using hx)]
  have := key l.reverse
  rwa [List.reverse_reverse] at this

/-- The last part is not 0. -/
def Top (l : List Nat) : Prop := l = [] ∨ pt l (l.length - 1) ≠ 0
theorem Top.nil : Top [] := .inl rfl
theorem Top.trimL (l : List Nat) : Top (trimL l) := by
  have key : ∀ r : List Nat, Top (r.dropWhile (· == 0)).reverse := by
    intro r
    induction r with
    | nil => exact .inl rfl
    | cons x xs ih =>
      by_cases hx : x = 0
      · subst hx; rw [List.dropWhile_cons_of_pos (by simp)]; exact ih
      · rw [List.dropWhile_cons_of_neg (by simpa using hx)]
        refine .inr ?_
        rw [List.reverse_cons]
        have : pt (xs.reverse ++ [x]) ((xs.reverse ++ [x]).length - 1) = x := by
          unfold pt; simp [List.getD_eq_getElem?_getD]
        rw [this]; exact hx
  exact key l.reverse
theorem trimL_of_top {l : List Nat} (h : Top l) : trimL l = l := by
  rcases h with rfl | h
  · rfl
  · cases hl : l.length with
    | zero => rw [List.eq_nil_of_length_eq_zero hl]; rfl
    | succ k =>
      have h1 : l = l.take (k + 1) := by rw [← hl, List.take_length]
      rw [hl] at h
      have h2 := trimL_take_pos (l := l) (k := k) (by omega) (by simpa using h)
      rw [← h1] at h2
      exact h2
theorem val_ge {l : List Nat} (h : Top l) (hl : l ≠ []) : 1000000000 ^ (l.length - 1) ≤ val l := by
  rcases h with h | h
  · exact absurd h hl
  · cases hn : l.length with
    | zero => exact absurd (List.eq_nil_of_length_eq_zero hn) hl
    | succ k =>
      have h1 : l = l.take k ++ [pt l k] := by rw [← take_succ_pt (by omega), ← hn, List.take_length]
      rw [hn] at h
      have h0 : pt l k ≠ 0 := by simpa using h
      rw [h1, val_snoc]
      have h2 : (l.take k).length = k := by rw [List.length_take]; omega
      rw [h2]
      have h3 : 1000000000 ^ k * 1 ≤ 1000000000 ^ k * pt l k := Nat.mul_le_mul_left _ (by omega)
      simp only [Nat.add_sub_cancel]
      omega
theorem val_pos {l : List Nat} (h : Top l) (hl : l ≠ []) : 0 < val l :=
  Nat.lt_of_lt_of_le (Nat.pow_pos (by decide)) (val_ge h hl)
theorem val_eq_zero {l : List Nat} (h : Top l) (h0 : val l = 0) : l = [] := by
  by_cases hl : l = []
  · exact hl
  · have := val_pos h hl; omega

/-- Fewer parts, a lesser number. -/
theorem val_lt_of_length {a b : List Nat} (ha : ∀ x ∈ a, x < 1000000000) (hb : Top b) (h : a.length < b.length) : val a < val b := by
  have h1 := val_lt ha
  have h2 := val_ge hb (fun e => by rw [e] at h; simp at h)
  have h3 : 1000000000 ^ a.length ≤ 1000000000 ^ (b.length - 1) := Nat.pow_le_pow_right (by decide) (by omega)
  omega

/-- The upper parts are the same, one part is less: a lesser number. -/
theorem val_lt_of_part {a b : List Nat} (ha : ∀ x ∈ a, x < 1000000000) (hl : a.length = b.length) (i : Nat) (hi : i < a.length)
    (hs : ∀ j, i < j → j < a.length → pt a j = pt b j) (h : pt a i < pt b i) : val a < val b := by
  have hd : a.drop (i + 1) = b.drop (i + 1) := by
    refine list_ext_pt (by simp [hl]) fun k hk => ?_
    rw [pt_drop, pt_drop]
    simp at hk
    exact hs _ (by omega) (by omega)
  have h1 : val a = val (a.take (i + 1)) + 1000000000 ^ (i + 1) * val (a.drop (i + 1)) := by
    conv => lhs; rw [← List.take_append_drop (i + 1) a]
    rw [val_append, List.length_take, Nat.min_eq_left (by omega)]
  have h2 : val b = val (b.take (i + 1)) + 1000000000 ^ (i + 1) * val (b.drop (i + 1)) := by
    conv => lhs; rw [← List.take_append_drop (i + 1) b]
    rw [val_append, List.length_take, Nat.min_eq_left (by omega)]
  rw [h1, h2, hd, take_succ_pt hi, take_succ_pt (by omega), val_snoc, val_snoc, List.length_take, List.length_take, Nat.min_eq_left (by omega), Nat.min_eq_left (by omega)]
  have h3 : val (a.take i) < 1000000000 ^ i := by
    have := val_lt (l := a.take i) fun x hx => ha x (List.mem_of_mem_take hx)
    rwa [List.length_take, Nat.min_eq_left (by omega)] at this
  have h4 : 1000000000 ^ i * (pt a i + 1) ≤ 1000000000 ^ i * pt b i := Nat.mul_le_mul_left _ h
  rw [Nat.mul_add, Nat.mul_one] at h4
  omega

/-- What compares two amounts tells. -/
def CmpIs (a b : List Nat) (r : Int) : Prop :=
  (a.length ≠ b.length ∧ r = cmpI a.length b.length) ∨
  (a.length = b.length ∧ ((a = b ∧ r = 0) ∨ ∃ i, i < a.length ∧ (∀ j, i < j → j < a.length → pt a j = pt b j) ∧ pt a i ≠ pt b i ∧ r = cmpI (pt a i) (pt b i)))

theorem CmpIs.val {a b : List Nat} {r : Int} (h : CmpIs a b r) (ha : ∀ x ∈ a, x < 1000000000) (hb : ∀ x ∈ b, x < 1000000000) (ta : Top a) (tb : Top b) : r = cmpI (val a) (val b) := by
  unfold cmpI
  rcases h with ⟨hl, rfl⟩ | ⟨hl, ⟨rfl, rfl⟩ | ⟨i, hi, hs, hne, rfl⟩⟩
  · unfold cmpI
    rcases Nat.lt_or_gt_of_ne hl with h | h
    · have := val_lt_of_length ha tb h
      rw [if_pos (by omega), if_pos (by omega)]
    · have := val_lt_of_length hb ta h
      rw [if_neg (by omega), if_pos (by omega), if_neg (by omega), if_pos (by omega)]
  · rw [if_neg (by omega), if_neg (by omega)]
  · unfold cmpI
    rcases Nat.lt_or_gt_of_ne hne with h | h
    · have := val_lt_of_part ha hl i hi hs h
      rw [if_pos (by omega), if_pos (by omega)]
    · have := val_lt_of_part hb hl.symm i (by omega) (fun j h1 h2 => (hs j h1 (by omega)).symm) h
      rw [if_neg (by omega), if_pos (by omega), if_neg (by omega), if_pos (by omega)]

/-- A number has one list of parts. -/
theorem val_inj {a b : List Nat} (ha : ∀ x ∈ a, x < 1000000000) (hb : ∀ x ∈ b, x < 1000000000) (ta : Top a) (tb : Top b) (h : val a = val b) : a = b := by
  rcases Nat.lt_trichotomy a.length b.length with hl | hl | hl
  · have := val_lt_of_length ha tb hl; omega
  · refine list_ext_pt hl ?_
    have key : ∀ k i, i < a.length → a.length - i ≤ k → pt a i = pt b i := by
      intro k
      induction k with
      | zero => intro i hi hk; omega
      | succ k ih =>
        intro i hi hk
        have hs : ∀ j, i < j → j < a.length → pt a j = pt b j := fun j h1 h2 => ih j h2 (by omega)
        rcases Nat.lt_trichotomy (pt a i) (pt b i) with h1 | h1 | h1
        · have := val_lt_of_part ha hl i hi hs h1; omega
        · exact h1
        · have := val_lt_of_part hb hl.symm i (by omega) (fun j h1 h2 => (hs j h1 (by omega)).symm) h1; omega
    exact fun i hi => key _ i hi (Nat.le_refl _)
  · have := val_lt_of_length hb ta hl; omega

/-- The number: less itself from 0, if so. -/
def valS (s : Bool) (l : List Nat) : Int := if s then -(val l : Int) else val l
/-- What a number is to the calls: 0, if it may not be. -/
def numZ (s : Bool) (l : List Nat) : Int := if okB s l then valS s l else 0

theorem okB_iff {s : Bool} {l : List Nat} : okB s l = true ↔ (∀ x ∈ l, x < 1000000000) ∧ Top l ∧ (l = [] → s = false) := by
  unfold okB Top
  by_cases h : l.length = 0
  · have hl : l = [] := List.eq_nil_of_length_eq_zero h
    subst hl
    simp
  · have hl : l ≠ [] := fun e => h (by rw [e]; rfl)
    rw [if_neg h]
    simp [hl]

theorem valS_inj {s s' : Bool} {l l' : List Nat} (h : okB s l = true) (h' : okB s' l' = true) (e : valS s l = valS s' l') : s = s' ∧ l = l' := by
  obtain ⟨h1, h2, h3⟩ := okB_iff.1 h
  obtain ⟨h1', h2', h3'⟩ := okB_iff.1 h'
  have hp : ∀ {s : Bool} {l : List Nat}, Top l → (l = [] → s = false) → s = true → 0 < val l := fun ht hs hb => val_pos ht fun e => by rw [hs e] at hb; cases hb
  unfold valS at e
  cases s <;> cases s' <;> simp only [Bool.false_eq_true, if_true, if_false] at e
  · exact ⟨rfl, val_inj h1 h1' h2 h2' (by omega)⟩
  · have := hp h2' h3' rfl; omega
  · have := hp h2 h3 rfl; omega
  · exact ⟨rfl, val_inj h1 h1' h2 h2' (by omega)⟩

/-- A number as the calls take it: 0, if it may not be. -/
def fitS (s : Bool) (l : List Nat) : Bool := if okB s l = true then s else false
def fitL (s : Bool) (l : List Nat) : List Nat := if okB s l = true then l else []

theorem okB_fit (s : Bool) (l : List Nat) : okB (fitS s l) (fitL s l) = true := by
  unfold fitS fitL
  by_cases h : okB s l = true
  · rw [if_pos h, if_pos h]; exact h
  · rw [if_neg h, if_neg h]; rfl
theorem fit_small (s : Bool) (l : List Nat) : ∀ x ∈ fitL s l, x < 1000000000 := (okB_iff.1 (okB_fit s l)).1
theorem fit_top (s : Bool) (l : List Nat) : Top (fitL s l) := (okB_iff.1 (okB_fit s l)).2.1
theorem numZ_fit (s : Bool) (l : List Nat) : valS (fitS s l) (fitL s l) = numZ s l := by
  unfold fitS fitL numZ
  by_cases h : okB s l = true
  · rw [if_pos h, if_pos h, if_pos h]
  · rw [if_neg h, if_neg h, if_neg h]; rfl
theorem fit_pos {s : Bool} {l : List Nat} (h : fitS s l = true) : 0 < val (fitL s l) := by
  obtain ⟨_, h2, h3⟩ := okB_iff.1 (okB_fit s l)
  exact val_pos h2 fun e => by rw [h3 e] at h; cases h
theorem numZ_false {s : Bool} {l : List Nat} (h : fitS s l = false) : numZ s l = val (fitL s l) := by
  rw [← numZ_fit, h]; rfl
theorem numZ_true {s : Bool} {l : List Nat} (h : fitS s l = true) : numZ s l = -(val (fitL s l) : Int) := by
  rw [← numZ_fit, h]; rfl

theorem cmpI_lt {a b : Int} (h : a < b) : cmpI a b = -1 := by unfold cmpI; rw [if_pos h]
theorem cmpI_gt {a b : Int} (h : b < a) : cmpI a b = 1 := by unfold cmpI; rw [if_neg (by omega), if_pos h]
theorem cmpI_eq {a b : Int} (h : a = b) : cmpI a b = 0 := by unfold cmpI; rw [if_neg (by omega), if_neg (by omega)]
theorem cmpI_neg (a b : Int) : cmpI (-a) (-b) = cmpI b a := by unfold cmpI; split <;> split <;> (try split) <;> (try split) <;> omega

end Go.Proofs.YtejlhefjphiahaaDoor
