/- More single operations by what is known of their operands. -/
import Derived.Test.YtejlhefjphiahaaDoorSteps
import Derived.Test.YtejlhefjphiahaaDoorGcd
namespace Go.Proofs.YtejlhefjphiahaaDoor
open Go.RowKit Go.Shelf

section
variable {bs : List (Nat × Bool)} {fs : List (Nat × (Value → World → Prop))} {w0 : World} {d : Nat} {ty : TypeId} {pos : String} {af : Array Edge} {g : Option (Nat × Bool)}

/-- '==' of two numbers of one kind. -/
theorem step_eqII {x y : Nat} {t' : TypeId} {m k : Int} {b : Bool} (hx : ∀ v w, Known bs fs x v w → v = .int .i64 m) (hy : ∀ v w, Known bs fs y v w → v = .int .i64 k) (hb' : (m == k) = b) (h : ∀ w, Known bs fs d (.bool b) w) : StepOk Tryd.prog bs fs w0 ⟨some d, .binOp .eql 3 (.tmp x) (.tmp y) t', ty, pos, af, g⟩ :=
  step_value rfl fun a w hb hk => ⟨.bool b, w, by
    have h1 := hx _ _ (hk x (by simp [looks, Op.operands]))
    have h2 := hy _ _ (hk y (by simp [looks, Op.operands]))
    simp only [execOp, h1, h2, ← hb']
    go_simp, h _, Below.refl _ _⟩
theorem step_eqBB {x y : Nat} {t' : TypeId} {m k b : Bool} (hx : ∀ v w, Known bs fs x v w → v = .bool m) (hy : ∀ v w, Known bs fs y v w → v = .bool k) (hb' : (m == k) = b) (h : ∀ w, Known bs fs d (.bool b) w) : StepOk Tryd.prog bs fs w0 ⟨some d, .binOp .eql 4 (.tmp x) (.tmp y) t', ty, pos, af, g⟩ :=
  step_value rfl fun a w hb hk => ⟨.bool b, w, by
    have h1 := hx _ _ (hk x (by simp [looks, Op.operands]))
    have h2 := hy _ _ (hk y (by simp [looks, Op.operands]))
    simp only [execOp, h1, h2, ← hb']
    go_simp, h _, Below.refl _ _⟩
theorem step_neg {x : Nat} {m k : Int} (hx : ∀ v w, Known bs fs x v w → v = .int .i64 m) (hb' : IntKind.i64.wrap (-m) = k) (h : ∀ w, Known bs fs d (.int .i64 k) w) : StepOk Tryd.prog bs fs w0 ⟨some d, .unOp .neg 3 (.tmp x), ty, pos, af, g⟩ :=
  step_value rfl fun a w hb hk => ⟨.int .i64 k, w, by
    have h1 := hx _ _ (hk x (by simp [looks, Op.operands]))
    simp only [execOp, h1, ← hb']
    go_simp, h _, Below.refl _ _⟩
theorem step_mulI {x y : Nat} {t' : TypeId} {m n k : Int} (hx : ∀ v w, Known bs fs x v w → v = .int .i64 m) (hy : ∀ v w, Known bs fs y v w → v = .int .i64 n) (hb' : IntKind.i64.wrap (m * n) = k) (h : ∀ w, Known bs fs d (.int .i64 k) w) : StepOk Tryd.prog bs fs w0 ⟨some d, .binOp .mul 3 (.tmp x) (.tmp y) t', ty, pos, af, g⟩ :=
  step_value rfl fun a w hb hk => ⟨.int .i64 k, w, by
    have h1 := hx _ _ (hk x (by simp [looks, Op.operands]))
    have h2 := hy _ _ (hk y (by simp [looks, Op.operands]))
    simp only [execOp, h1, h2, ← hb']
    go_simp, h _, Below.refl _ _⟩
set_option maxRecDepth 100000 in
theorem step_field {x : Nat} (hx : ∀ v w, Known bs fs x v w → ∃ s p n c, v = .agg #[.bool s, .slice p n c] ∧ Known bs fs d (.slice p n c) w) : StepOk Tryd.prog bs fs w0 ⟨some d, .field 24 (.tmp x) 1, ty, pos, af, g⟩ :=
  step_value rfl fun a w hb hk => by
    obtain ⟨s, p, n, c, e, h⟩ := hx _ _ (hk x (by simp [looks, Op.operands]))
    exact ⟨_, w, by
      have hf := field_parts s p n c w
      simp only [execOp, e]
      go_simp, h, Below.refl _ _⟩
set_option maxRecDepth 100000 in
theorem step_len {x : Nat} (hx : ∀ v w, Known bs fs x v w → ∃ p n c, v = .slice p n c ∧ Known bs fs d (.int .i64 (n : Nat)) w) : StepOk Tryd.prog bs fs w0 ⟨some d, .call { callee := .builtin .len, args := #[.tmp x], argTypes := #[22] }, 3, pos, af, g⟩ :=
  step_value rfl fun a w hb hk => by
    obtain ⟨p, n, c, e, h⟩ := hx _ _ (hk x (by simp [looks, Op.operands, Call.operands]))
    exact ⟨_, w, by
      simp only [execOp, resolve, List.map_toArray, List.map_cons, List.map_nil, e]
      go_simp, h, Below.refl _ _⟩

end

/-- An empty list. -/
def IsE (v : Value) (_ : World) : Prop := ∃ p c, v = .slice p 0 c
theorem IsE.grows : Grows IsE := fun _ _ _ h _ => h
theorem OkAt.empty {w : World} {v : Value} {k : Nat} {Z : Int} (h : OkAt w v k Z) (hz : Z = 0) : ∃ s p n c, v = .agg #[.bool s, .slice p n c] ∧ IsE (.slice p n c) w := by
  obtain ⟨s, x, l, rfl, ⟨a, c, rfl, -⟩, h2, h3, -⟩ := h
  have hl : l = [] := (okB_nil_iff h2).1 (by rw [h3]; exact hz)
  subst hl
  exact ⟨s, a, _, c, rfl, a, c, rfl⟩

theorem cmpI_bd (a b : Int) : -1 ≤ cmpI a b ∧ cmpI a b ≤ 1 := by unfold cmpI; split <;> (try split) <;> omega
theorem cmpI_neg0 (a : Int) : cmpI (-a) 0 = -cmpI a 0 := by unfold cmpI; split <;> split <;> (try split) <;> (try split) <;> omega
theorem cmpI_sub (a b : Int) : cmpI a b = cmpI (a - b) 0 := by unfold cmpI; split <;> split <;> (try split) <;> (try split) <;> omega
theorem cmpI_mul (a b : Int) : cmpI (a * b) 0 = cmpI a 0 * cmpI b 0 := by
  rcases Int.lt_trichotomy a 0 with h | h | h <;> rcases Int.lt_trichotomy b 0 with h' | h' | h'
  · rw [cmpI_lt h, cmpI_lt h', cmpI_gt (Int.mul_pos_of_neg_of_neg h h')]; rfl
  · subst h'; rw [Int.mul_zero, cmpI_eq rfl, Int.mul_zero]
  · rw [cmpI_lt h, cmpI_gt h', cmpI_lt (Int.mul_neg_of_neg_of_pos h h')]; rfl
  · subst h; rw [Int.zero_mul, cmpI_eq rfl, Int.zero_mul]
  · subst h; rw [Int.zero_mul, cmpI_eq rfl, Int.zero_mul]
  · subst h; rw [Int.zero_mul, cmpI_eq rfl, Int.zero_mul]
  · rw [cmpI_gt h, cmpI_lt h', cmpI_lt (Int.mul_neg_of_pos_of_neg h h')]; rfl
  · subst h'; rw [Int.mul_zero, cmpI_eq rfl, Int.mul_zero]
  · rw [cmpI_gt h, cmpI_gt h', cmpI_gt (Int.mul_pos h h')]; rfl
theorem cmpI_zero (a b : Int) : (cmpI a b == 0) = decide (a = b) := by
  rw [Bool.eq_iff_iff, beq_iff_eq, decide_eq_true_iff]
  unfold cmpI
  constructor
  · intro h; split at h
    · omega
    · split at h <;> omega
  · intro h; rw [if_neg (by omega), if_neg (by omega)]
theorem wrap_cmp_neg (a b : Int) : IntKind.i64.wrap (-cmpI a b) = -cmpI a b := IntWalk.i64_in _ (by have := cmpI_bd a b; omega)
theorem wrap_cmp_mul (a b c e : Int) : IntKind.i64.wrap (cmpI a b * cmpI c e) = cmpI a b * cmpI c e := IntWalk.i64_in _ (by
  have h1 := cmpI_bd a b
  have h2 := cmpI_bd c e
  generalize cmpI a b = x at *
  generalize cmpI c e = y at *
  have hx : x = -1 ∨ x = 0 ∨ x = 1 := by omega
  rcases hx with rfl | rfl | rfl <;> omega)

end Go.Proofs.YtejlhefjphiahaaDoor
