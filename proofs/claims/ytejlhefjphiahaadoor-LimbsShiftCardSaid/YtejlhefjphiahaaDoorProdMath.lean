/- Plain facts: the product of two amounts, part by part. -/
import Derived.Test.YtejlhefjphiahaaDoorBlendMath
namespace Go.Proofs.YtejlhefjphiahaaDoor

theorem val_zero {l : List Nat} (h : ∀ j, pt l j = 0) : val l = 0 := by
  induction l with
  | nil => rfl
  | cons x xs ih =>
    have h0 : x = 0 := h 0
    have h1 : ∀ j, pt xs j = 0 := fun j => by
      have := h (j + 1)
      unfold pt at this ⊢
      simpa using this
    simp only [val, ih h1, h0]
theorem val_split (l : List Nat) (k : Nat) (h : k ≤ l.length) : val l = val (l.take k) + 1000000000 ^ k * val (l.drop k) := by
  conv => lhs; rw [← List.take_append_drop k l]
  rw [val_append, List.length_take, Nat.min_eq_left h]
theorem val_take_of_zero {l : List Nat} {k : Nat} (h : ∀ j, k ≤ j → pt l j = 0) : val (l.take k) = val l := by
  by_cases hk : k ≤ l.length
  · have h1 := val_split l k hk
    have h2 : val (l.drop k) = 0 := val_zero fun j => by rw [pt_drop]; exact h _ (by omega)
    rw [h2] at h1
    omega
  · rw [List.take_of_length_le (by omega)]
theorem small_take {l : List Nat} (h : ∀ x ∈ l, x < 1000000000) (k : Nat) : ∀ x ∈ l.take k, x < 1000000000 := fun x hx => h x (List.mem_of_mem_take hx)
theorem small_drop {l : List Nat} (h : ∀ x ∈ l, x < 1000000000) (k : Nat) : ∀ x ∈ l.drop k, x < 1000000000 := fun x hx => h x (List.mem_of_mem_drop hx)
theorem pt_append_left {a b : List Nat} {j : Nat} (h : j < a.length) : pt (a ++ b) j = pt a j := by
  unfold pt; simp [List.getD_eq_getElem?_getD, List.getElem?_append_left h]
theorem pt_append_right {a b : List Nat} {j : Nat} (h : a.length ≤ j) : pt (a ++ b) j = pt b (j - a.length) := by
  unfold pt; simp [List.getD_eq_getElem?_getD, List.getElem?_append_right h]
theorem val_lt_of_zero {l : List Nat} {k : Nat} (hs : ∀ x ∈ l, x < 1000000000) (h : ∀ j, k ≤ j → pt l j = 0) : val l < 1000000000 ^ k := by
  rw [← val_take_of_zero h]
  refine Nat.lt_of_lt_of_le (val_lt (small_take hs k)) (Nat.pow_le_pow_right (by decide) ?_)
  rw [List.length_take]; omega

/-- One row more. -/
def rowStep (L row : List Nat) (i : Nat) : List Nat := L.take i ++ row ++ L.drop (i + row.length)
theorem rowStep_length {L row : List Nat} {i : Nat} (h : i + row.length ≤ L.length) : (rowStep L row i).length = L.length := by
  unfold rowStep; simp only [List.length_append, List.length_take, List.length_drop]; omega
theorem rowStep_small {L row : List Nat} {i : Nat} (h1 : ∀ x ∈ L, x < 1000000000) (h2 : ∀ x ∈ row, x < 1000000000) : ∀ x ∈ rowStep L row i, x < 1000000000 := by
  intro x hx
  unfold rowStep at hx
  rcases List.mem_append.1 hx with hx | hx
  · rcases List.mem_append.1 hx with hx | hx
    · exact small_take h1 _ x hx
    · exact h2 x hx
  · exact small_drop h1 _ x hx
theorem rowStep_val {L row : List Nat} {i : Nat} (h : i + row.length ≤ L.length) : val (rowStep L row i) = val (L.take i) + 1000000000 ^ i * (val row + 1000000000 ^ row.length * val (L.drop (i + row.length))) := by
  unfold rowStep
  rw [List.append_assoc, val_append, val_append, List.length_take, Nat.min_eq_left (by omega)]
theorem rowStep_pt_ge {L row : List Nat} {i j : Nat} (h : i + row.length ≤ L.length) (hj : i + row.length ≤ j) : pt (rowStep L row i) j = pt L j := by
  have h1 : (L.take i ++ row).length = i + row.length := by simp only [List.length_append, List.length_take]; omega
  unfold rowStep
  rw [pt_append_right (by omega), h1, pt_drop]
  congr 1
  omega

/-- What the first i rows have made. -/
def PInv (a b : List Nat) (i : Nat) (L : List Nat) : Prop :=
  L.length = a.length + b.length ∧ (∀ x ∈ L, x < 1000000000) ∧ val L = val (a.take i) * val b ∧ ∀ j, i + b.length ≤ j → pt L j = 0

def rowOf (b L : List Nat) (i x : Nat) : List Nat := blendL ((L.drop i).take (b.length + 1)) b 1 x (b.length + 1)

theorem PInv.zero (a b : List Nat) (L : List Nat) (hl : L.length = a.length + b.length) (h : ∀ j, pt L j = 0) : PInv a b 0 L := by
  refine ⟨hl, fun x hx => ?_, by simp [val, val_zero h], fun j _ => h j⟩
  obtain ⟨j, hj, rfl⟩ := List.getElem_of_mem hx
  have := h j
  rw [pt_getElem hj] at this
  omega

theorem PInv.step {a b : List Nat} {i : Nat} {L : List Nat} (h : PInv a b i L) (hi : i < a.length) (ha : ∀ x ∈ a, x < 1000000000) (hb : ∀ x ∈ b, x < 1000000000) :
    PInv a b (i + 1) (rowStep L (rowOf b L i (pt a i)) i) := by
  obtain ⟨h1, h2, h3, h4⟩ := h
  have hrl : (rowOf b L i (pt a i)).length = b.length + 1 := blendL_length _ _ _ _ _
  have hrs : ∀ x ∈ rowOf b L i (pt a i), x < 1000000000 := blendL_small _ _ _ _ _
  have hfit : i + (rowOf b L i (pt a i)).length ≤ L.length := by omega
  have hd0 : ∀ j, b.length ≤ j → pt (L.drop i) j = 0 := fun j hj => by rw [pt_drop]; exact h4 _ (by omega)
  have hR : val (L.drop i) < 1000000000 ^ b.length := val_lt_of_zero (small_drop h2 i) hd0
  have hrow := blend_val ((L.drop i).take (b.length + 1)) b 1 (pt a i) (b.length + 1)
  rw [List.take_take, Nat.min_self, List.take_of_length_le (show b.length ≤ b.length + 1 by omega), val_take_of_zero (fun j hj => hd0 j (by omega))] at hrow
  have hB := val_lt hb
  have hx : pt a i < 1000000000 := pt_lt (by decide) ha i
  have hv := val_lt hrs
  rw [hrl, Nat.pow_succ] at hv
  have hle : pt a i * val b ≤ 999999999 * val b := Nat.mul_le_mul_right _ (by omega)
  have hc : carryL ((L.drop i).take (b.length + 1)) b 1 (pt a i) (b.length + 1) = 0 := by
    have hZ : (1 : Int) * val (L.drop i) + (pt a i : Int) * val b = ((val (L.drop i) + pt a i * val b : Nat) : Int) := by rw [Int.natCast_add, Int.natCast_mul]; omega
    rw [hZ, ← pow_cast] at hrow
    refine (carry_of (v := val (rowOf b L i (pt a i))) (p := 1000000000 ^ (b.length + 1)) ?_ hrow ?_ ?_).1 (by omega)
    · rw [Nat.pow_succ]; omega
    · rw [Nat.pow_succ]; omega
    · omega
  rw [hc] at hrow
  have hrow2 : val (rowOf b L i (pt a i)) = val (L.drop i) + pt a i * val b := by
    have : (val (rowOf b L i (pt a i)) : Int) = ((val (L.drop i) + pt a i * val b : Nat) : Int) := by rw [Int.natCast_add, Int.natCast_mul]; unfold rowOf; omega
    omega
  have hrest : val (L.drop (i + (b.length + 1))) = 0 := val_zero fun j => by rw [pt_drop]; exact h4 _ (by omega)
  refine ⟨by rw [rowStep_length hfit]; exact h1, rowStep_small h2 hrs, ?_, fun j hj => ?_⟩
  · rw [rowStep_val hfit, hrl, hrest, hrow2, val_take_succ]
    have hs := val_split L i (by omega)
    rw [h3] at hs
    generalize val (L.take i) = u at *
    generalize val (L.drop i) = r at *
    generalize val (a.take i) = t at *
    generalize val b = vb at *
    generalize pt a i = x at *
    generalize 1000000000 ^ i = p at *
    rw [Nat.mul_zero, Nat.add_zero, Nat.mul_add, Nat.add_mul, Nat.mul_assoc]
    omega
  · rw [rowStep_pt_ge hfit (by omega)]
    exact h4 _ (by omega)

theorem PInv.done {a b : List Nat} {L : List Nat} (h : PInv a b a.length L) : val L = val a * val b := by
  have := h.2.2.1
  rwa [List.take_length] at this

end Go.Proofs.YtejlhefjphiahaaDoor
