/- A region that ends with a store of a product into a new box. -/
import Derived.Test.YtikbjjechhdclaaMLaws
namespace Go.Proofs.Ytikbjjechhdclaa
open Go.RowKit

section
variable {bs : List (Nat × Bool)} {fs : List (Nat × (Value → World → Prop))} {w0 : World} {d : Nat} {ty : TypeId} {pos : String} {af : Array Edge} {g : Option (Nat × Bool)}
theorem pure_move {x : Nat} (h : ∀ v w, Known bs fs x v w → Known bs fs d v w) : PureOk Try.prog bs fs ⟨some d, .move (.tmp x), ty, pos, af, g⟩ :=
  fun a w hk => ⟨_, fun _ => rfl, fun e he => by injection he with he; subst he; exact h _ _ (hk x (looks1 rfl))⟩
theorem pure_extract {x i : Nat} {vs : Array Value} {u : Value} (hx : ∀ v w, Known bs fs x v w → v = .tuple vs) (hu : vs[i]? = some u) (h : ∀ w, Known bs fs d u w) : PureOk Try.prog bs fs ⟨some d, .extract (.tmp x) i, ty, pos, af, g⟩ :=
  fun a w hk => by
    have e := hx _ _ (hk x (looks1 rfl))
    refine ⟨u, fun w' => ?_, fun e he => by injection he with he; subst he; exact h _⟩
    simp [execOp, e, Instr.extract, hu]
/-- A new box for a product. -/
def IsNewM (n : Nat) (v : Value) (w : World) : Prop := ∃ b, v = .pointer (some ⟨b, 0, none⟩) ∧ n ≤ b ∧ BoxV w b (m4 noM)
theorem IsNewM.grows (n : Nat) : Grows (IsNewM n) := fun _ _ _ h hb => by
  obtain ⟨b, h1, h2, h3⟩ := h
  exact ⟨b, h1, h2, h3.below hb⟩
theorem IsNewM.lt {n : Nat} {v : Value} {w : World} (h : IsNewM n v w) : ∃ b, v = .pointer (some ⟨b, 0, none⟩) ∧ b < w.heap.size := by
  obtain ⟨b, h1, -, h3⟩ := h
  exact ⟨b, h1, h3.lt⟩
theorem alloc_M (h : ∀ v w, IsNewM w0.heap.size v w → Known bs fs d v w) : AllocOk Try.prog bs fs w0 ⟨some d, .alloc 24, ty, pos, af, g⟩ :=
  fun a w hb => ⟨w.alloc (.cells #[.int .u16 0, .int .u16 0, .int .u16 0, .int .u16 0] 24), by
    simp only [execOp]
    go_simp, (Below.refl _ _).alloc (Nat.le_refl _) _, fun e he => by
    injection he with he
    subst he
    exact h _ _ ⟨_, rfl, hb.size, BoxV.new w (m4 noM) _⟩⟩
set_option maxRecDepth 100000 in
theorem wp_store_M {K : Act → World → Prop} {Q : Exit → Act → World → Prop} {a : Act} {w : World} {p v b : Nat} {m u : M4} (hp : a.eval (.tmp p) = .pointer (some ⟨b, 0, none⟩)) (hv : a.eval (.tmp v) = mv m) (hN : BoxV w b (m4 u))
    (h : K a ((((w.setCell ⟨b, 0, none⟩ (.int .u16 m.a)).setCell ⟨b, 1, none⟩ (.int .u16 m.b)).setCell ⟨b, 2, none⟩ (.int .u16 m.c)).setCell ⟨b, 3, none⟩ (.int .u16 m.d))) : Oper.wp Try.prog ⟨none, .store 24 (.tmp p) (.tmp v), ty, pos, af, g⟩ a w K Q := by
  obtain ⟨c0, c1, c2, c3⟩ := hN.c4
  obtain ⟨f0, f1, f2, f3⟩ := hN.f4
  unfold Oper.wp
  simp only [execOp, hp, hv]
  unfold mv
  go_simp
  exact h
theorem wp_assign {K : Act → World → Prop} {Q : Exit → Act → World → Prop} {a : Act} {w : World} {x : Nat} (h : K (a.put (some d) (a.eval (.tmp x))) w) : Oper.wp Try.prog ⟨some d, .assign (.tmp x), ty, pos, af, g⟩ a w K Q := h
end
end Go.Proofs.Ytikbjjechhdclaa
