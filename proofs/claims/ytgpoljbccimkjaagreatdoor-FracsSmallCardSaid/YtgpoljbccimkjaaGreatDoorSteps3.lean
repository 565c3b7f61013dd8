/- Picks that come to a constant. -/
import Derived.Test.YtgpoljbccimkjaaGreatDoorSteps2
import Derived.Test.YtgpoljbccimkjaaGreatDoorFacts4
namespace Go.Proofs.YtgpoljbccimkjaaGreatDoor
set_option linter.unusedSimpArgs false
set_option linter.unusedVariables false
open Go.RowKit Go.Shelf

section
variable {bs : List (Nat × Bool)} {fs : List (Nat × (Value → World → Prop))} {w0 : World} {d : Nat} {ty : TypeId} {pos : String} {af : Array Edge} {g : Option (Nat × Bool)}

theorem step_pickTk {c : Nat} {k : Value} {y : Operand} (hc : ∀ v w, Known bs fs c v w → v = .bool true) (h : ∀ w, Known bs fs d k w) : StepOk Tryz.prog bs fs w0 ⟨some d, .pick (.tmp c) (.const k) y, ty, pos, af, g⟩ :=
  step_value rfl fun a w hb hk => ⟨k, w, by
    have h1 := hc _ _ (hk c (by unfold looks; cases y <;> simp [Op.operands]))
    have h2 : a.eval (.const k) = k := rfl
    simp [execOp, h1, asBool, h2], h w, Below.refl _ _⟩
theorem step_pickFk {c : Nat} {x : Operand} {k : Value} (hc : ∀ v w, Known bs fs c v w → v = .bool false) (h : ∀ w, Known bs fs d k w) : StepOk Tryz.prog bs fs w0 ⟨some d, .pick (.tmp c) x (.const k), ty, pos, af, g⟩ :=
  step_value rfl fun a w hb hk => ⟨k, w, by
    have h1 := hc _ _ (hk c (by unfold looks; cases x <;> simp [Op.operands]))
    have h2 : a.eval (.const k) = k := rfl
    simp [execOp, h1, asBool, h2], h w, Below.refl _ _⟩

end

end Go.Proofs.YtgpoljbccimkjaaGreatDoor
