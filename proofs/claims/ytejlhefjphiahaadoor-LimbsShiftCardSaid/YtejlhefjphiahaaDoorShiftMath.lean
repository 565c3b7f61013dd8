/- Plain facts: a number whose lowest parts are noughts, and what a division by it leaves. -/
import Derived.Test.YtejlhefjphiahaaDoorTextMath
namespace Go.Proofs.YtejlhefjphiahaaDoor

/-- k parts of nought, then d. -/
def wideL (k : Nat) (d : List Nat) : List Nat := List.replicate k 0 ++ d

theorem cast_pow9 (k : Nat) : ((1000000000 ^ k : Nat) : Int) = (1000000000 : Int) ^ k := Int.natCast_pow _ _
theorem val_noughts (k : Nat) : val (List.replicate k 0) = 0 := by
  induction k with
  | zero => rfl
  | succ k ih => rw [List.replicate_succ]; simp [val, ih]
theorem val_wide (k : Nat) (d : List Nat) : val (wideL k d) = 1000000000 ^ k * val d := by
  unfold wideL
  rw [val_append, val_noughts, List.length_replicate, Nat.zero_add]
theorem wide_length (k : Nat) (d : List Nat) : (wideL k d).length = k + d.length := by simp [wideL]
theorem wide_drop (k : Nat) (d : List Nat) : (wideL k d).drop k = d := by
  unfold wideL
  rw [List.drop_left']
  simp
theorem wide_top {k : Nat} {d : List Nat} (h : Top d) (hd : d ≠ []) : Top (wideL k d) := by
  rcases h with h | h
  · exact absurd h hd
  · refine .inr ?_
    have hl : 0 < d.length := List.length_pos_iff.2 hd
    have e : (wideL k d).length - 1 = k + (d.length - 1) := by rw [wide_length]; omega
    rw [e, ← pt_drop, wide_drop]
    exact h
theorem wide_ok {k : Nat} {d : List Nat} (ho : okB false d = true) (hd : d ≠ []) : okB false (wideL k d) = true ∧ valS false (wideL k d) = valS false d * 1000000000 ^ k := by
  obtain ⟨h1, h2, -⟩ := okB_iff.1 ho
  refine ⟨okB_iff.2 ⟨fun x hx => ?_, wide_top h2 hd, fun _ => rfl⟩, ?_⟩
  · unfold wideL at hx
    rcases List.mem_append.1 hx with hx | hx
    · rw [(List.mem_replicate.1 hx).2]; decide
    · exact h1 x hx
  · unfold valS
    simp only [Bool.false_eq_true, if_false]
    rw [val_wide, Nat.mul_comm, Int.natCast_mul, cast_pow9]
theorem by_ok (k : Nat) : okB false (wideL k [1]) = true ∧ valS false (wideL k [1]) = 1000000000 ^ k := by
  obtain ⟨h1, h2⟩ := wide_ok (k := k) (d := [1]) (by decide) (by decide)
  refine ⟨h1, ?_⟩
  rw [h2]
  have : valS false [1] = 1 := by decide
  rw [this, Int.one_mul]
theorem val_cut (d : List Nat) (k : Nat) (hk : k ≤ d.length) : val d = val (d.take k) + 1000000000 ^ k * val (d.drop k) := by
  have h := val_append (d.take k) (d.drop k)
  rw [List.take_append_drop, List.length_take, Nat.min_eq_left hk] at h
  exact h
theorem pow_pos9 (k : Nat) : 0 < 1000000000 ^ k := Nat.pow_pos (by decide)
theorem nat_cut {d : List Nat} (h : ∀ x ∈ d, x < 1000000000) (k : Nat) : val d / 1000000000 ^ k = val (d.drop k) ∧ val d % 1000000000 ^ k = val (d.take k) := by
  rcases Nat.lt_or_ge k d.length with hk | hk
  · have e := val_cut d k (by omega)
    have hlt : val (d.take k) < 1000000000 ^ k := by
      have := val_lt (l := d.take k) fun x hx => h x (List.mem_of_mem_take hx)
      rwa [List.length_take, Nat.min_eq_left (by omega)] at this
    rw [e]
    exact ⟨by rw [Nat.add_mul_div_left _ _ (pow_pos9 k), Nat.div_eq_of_lt hlt, Nat.zero_add], by rw [Nat.add_mul_mod_self_left, Nat.mod_eq_of_lt hlt]⟩
  · have hlt : val d < 1000000000 ^ k := Nat.lt_of_lt_of_le (val_lt h) (Nat.pow_le_pow_right (by decide) hk)
    rw [List.drop_eq_nil_of_le hk, List.take_of_length_le hk]
    exact ⟨Nat.div_eq_of_lt hlt, Nat.mod_eq_of_lt hlt⟩
theorem drop_top {d : List Nat} (h : Top d) (k : Nat) : Top (d.drop k) := by
  rcases Nat.lt_or_ge k d.length with hk | hk
  · rcases h with h | h
    · rw [h] at hk; simp at hk
    · refine .inr ?_
      rw [List.length_drop, pt_drop, show k + (d.length - k - 1) = d.length - 1 from by omega]
      exact h
  · rw [List.drop_eq_nil_of_le hk]; exact .inl rfl
theorem quot_ok {d : List Nat} (ho : okB false d = true) (k : Nat) : okB false (d.drop k) = true ∧ valS false (d.drop k) = valS false d / 1000000000 ^ k := by
  obtain ⟨h1, h2, -⟩ := okB_iff.1 ho
  refine ⟨okB_iff.2 ⟨fun x hx => h1 x (List.mem_of_mem_drop hx), drop_top h2 k, fun _ => rfl⟩, ?_⟩
  unfold valS
  simp only [Bool.false_eq_true, if_false]
  rw [← (nat_cut h1 k).1, Int.natCast_ediv, cast_pow9]
theorem rest_ok {d : List Nat} (ho : okB false d = true) (k : Nat) : okB false (trimL (d.take k)) = true ∧ valS false (trimL (d.take k)) = valS false d % 1000000000 ^ k := by
  obtain ⟨h1, h2, -⟩ := okB_iff.1 ho
  refine ⟨okB_iff.2 ⟨fun x hx => h1 x (List.mem_of_mem_take ((trimL_prefix _).mem hx)), Top.trimL _, fun _ => rfl⟩, ?_⟩
  unfold valS
  simp only [Bool.false_eq_true, if_false]
  rw [val_trimL, ← (nat_cut h1 k).2, Int.natCast_emod, cast_pow9]
theorem padK_zero (k : Nat) : padK k 0 = List.replicate k 48 := by
  induction k with
  | zero => rfl
  | succ k ih =>
    rw [List.replicate_succ']
    show padK k 0 ++ [48] = _
    rw [ih]
/-- Nine noughts more for each part. -/
theorem txt_wide {d : List Nat} (ht : Top d) (hd : d ≠ []) (k : Nat) : txt false (wideL k d) = txt false d ++ List.replicate (9 * k) 48 := by
  unfold txt
  simp only [Bool.false_eq_true, if_false]
  have hv : 0 < val d := val_pos ht hd
  have h := decDigits_split (val d) (9 * k) 0 hv (Nat.pow_pos (by decide))
  rw [padK_zero] at h
  rw [← h, val_wide, Nat.add_zero, Nat.mul_comm, show (10 : Nat) ^ (9 * k) = 1000000000 ^ k from by rw [Nat.pow_mul]]
theorem nine_more (l : List UInt8) (i : Nat) : l ++ List.replicate (9 * i) 48 ++ [48, 48, 48, 48, 48, 48, 48, 48, 48] = l ++ List.replicate (9 * (i + 1)) 48 := by
  rw [List.append_assoc, show 9 * (i + 1) = 9 * i + 9 from by omega, ← List.replicate_append_replicate]
  rfl
/-- Of the noughts that the loop takes off at the end. -/
theorem low_step {d : List Nat} {low : Nat} (h0 : 0 < low) (hl : low ≤ d.length) (hz : pt d (low - 1) = 0) : trimL (d.take low) = trimL (d.take (low - 1)) := by
  have := trimL_take_zero (l := d) (k := low - 1) (by omega) hz
  rwa [show low - 1 + 1 = low from by omega] at this
theorem low_done {d : List Nat} {low : Nat} (h0 : 0 < low) (hl : low ≤ d.length) (hz : pt d (low - 1) ≠ 0) : trimL (d.take low) = d.take low := by
  have := trimL_take_pos (l := d) (k := low - 1) (by omega) hz
  rwa [show low - 1 + 1 = low from by omega] at this
theorem low_zero (d : List Nat) : trimL (d.take 0) = d.take 0 := by rw [List.take_zero]; rfl

end Go.Proofs.YtejlhefjphiahaaDoor
