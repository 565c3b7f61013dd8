/- More single operations by what is known of their operands: comparisons, sums, differences. -/
import Derived.Test.YtikbjjechhdclaaMCmps
namespace Go.Proofs.Ytikbjjechhdclaa
open Go.RowKit

theorem value_run {P : Program} {s : Sem Value} {v : Value} {w w' : World} (h : s.run P w = .ok v w') : ((do pure (Next.value (← s))) : Sem Next).run P w = .ok (.value v) w' := by
  rw [Sem.run_bind, h]
  rfl

section
variable {bs : List (Nat × Bool)} {fs : List (Nat × (Value → World → Prop))} {w0 : World} {d : Nat} {ty : TypeId} {pos : String} {af : Array Edge} {g : Option (Nat × Bool)}

theorem step_eqIk {x : Nat} {t' : TypeId} {m k : Int} {b : Bool} (hx : ∀ v w, Known bs fs x v w → v = .int .i64 m) (hb' : (m == k) = b) (h : ∀ w, Known bs fs d (.bool b) w) : StepOk Try.prog bs fs w0 ⟨some d, .binOp .eql 3 (.tmp x) (.const (.int .i64 k)) t', ty, pos, af, g⟩ :=
  step_value rfl fun a w hb hk => ⟨.bool b, w, by
    have h1 := hx _ _ (hk x (by simp [looks, Op.operands]))
    have h2 : a.eval (.const (.int .i64 k)) = .int .i64 k := rfl
    simp only [execOp, h1, h2, ← hb']
    go_simp, h _, Below.refl _ _⟩
theorem step_eqI {x y : Nat} {t' : TypeId} {m k : Int} {b : Bool} (hx : ∀ v w, Known bs fs x v w → v = .int .i64 m) (hy : ∀ v w, Known bs fs y v w → v = .int .i64 k) (hb' : (m == k) = b) (h : ∀ w, Known bs fs d (.bool b) w) : StepOk Try.prog bs fs w0 ⟨some d, .binOp .eql 3 (.tmp x) (.tmp y) t', ty, pos, af, g⟩ :=
  step_value rfl fun a w hb hk => ⟨.bool b, w, by
    have h1 := hx _ _ (hk x (by simp [looks, Op.operands]))
    have h2 := hy _ _ (hk y (by simp [looks, Op.operands]))
    simp only [execOp, h1, h2, ← hb']
    go_simp, h _, Below.refl _ _⟩
theorem step_neIk {x : Nat} {t' : TypeId} {m k : Int} {b : Bool} (hx : ∀ v w, Known bs fs x v w → v = .int .i64 m) (hb' : (m != k) = b) (h : ∀ w, Known bs fs d (.bool b) w) : StepOk Try.prog bs fs w0 ⟨some d, .binOp .neq 3 (.tmp x) (.const (.int .i64 k)) t', ty, pos, af, g⟩ :=
  step_value rfl fun a w hb hk => ⟨.bool b, w, by
    have h1 := hx _ _ (hk x (by simp [looks, Op.operands]))
    have h2 : a.eval (.const (.int .i64 k)) = .int .i64 k := rfl
    simp only [execOp, h1, h2, ← hb']
    go_simp, h _, Below.refl _ _⟩
theorem step_neI {x y : Nat} {t' : TypeId} {m k : Int} {b : Bool} (hx : ∀ v w, Known bs fs x v w → v = .int .i64 m) (hy : ∀ v w, Known bs fs y v w → v = .int .i64 k) (hb' : (m != k) = b) (h : ∀ w, Known bs fs d (.bool b) w) : StepOk Try.prog bs fs w0 ⟨some d, .binOp .neq 3 (.tmp x) (.tmp y) t', ty, pos, af, g⟩ :=
  step_value rfl fun a w hb hk => ⟨.bool b, w, by
    have h1 := hx _ _ (hk x (by simp [looks, Op.operands]))
    have h2 := hy _ _ (hk y (by simp [looks, Op.operands]))
    simp only [execOp, h1, h2, ← hb']
    go_simp, h _, Below.refl _ _⟩
theorem step_eqEk {x : Nat} {t' : TypeId} {m k : Int} {b : Bool} (hx : ∀ v w, Known bs fs x v w → v = .int .i64 m) (hb' : (m == k) = b) (h : ∀ w, Known bs fs d (.bool b) w) : StepOk Try.prog bs fs w0 ⟨some d, .binOp .eql 25 (.tmp x) (.const (.int .i64 k)) t', ty, pos, af, g⟩ :=
  step_value rfl fun a w hb hk => ⟨.bool b, w, by
    have h1 := hx _ _ (hk x (by simp [looks, Op.operands]))
    have h2 : a.eval (.const (.int .i64 k)) = .int .i64 k := rfl
    simp only [execOp, h1, h2, ← hb']
    go_simp, h _, Below.refl _ _⟩
theorem step_eqE {x y : Nat} {t' : TypeId} {m k : Int} {b : Bool} (hx : ∀ v w, Known bs fs x v w → v = .int .i64 m) (hy : ∀ v w, Known bs fs y v w → v = .int .i64 k) (hb' : (m == k) = b) (h : ∀ w, Known bs fs d (.bool b) w) : StepOk Try.prog bs fs w0 ⟨some d, .binOp .eql 25 (.tmp x) (.tmp y) t', ty, pos, af, g⟩ :=
  step_value rfl fun a w hb hk => ⟨.bool b, w, by
    have h1 := hx _ _ (hk x (by simp [looks, Op.operands]))
    have h2 := hy _ _ (hk y (by simp [looks, Op.operands]))
    simp only [execOp, h1, h2, ← hb']
    go_simp, h _, Below.refl _ _⟩
theorem step_neEk {x : Nat} {t' : TypeId} {m k : Int} {b : Bool} (hx : ∀ v w, Known bs fs x v w → v = .int .i64 m) (hb' : (m != k) = b) (h : ∀ w, Known bs fs d (.bool b) w) : StepOk Try.prog bs fs w0 ⟨some d, .binOp .neq 25 (.tmp x) (.const (.int .i64 k)) t', ty, pos, af, g⟩ :=
  step_value rfl fun a w hb hk => ⟨.bool b, w, by
    have h1 := hx _ _ (hk x (by simp [looks, Op.operands]))
    have h2 : a.eval (.const (.int .i64 k)) = .int .i64 k := rfl
    simp only [execOp, h1, h2, ← hb']
    go_simp, h _, Below.refl _ _⟩
theorem step_neE {x y : Nat} {t' : TypeId} {m k : Int} {b : Bool} (hx : ∀ v w, Known bs fs x v w → v = .int .i64 m) (hy : ∀ v w, Known bs fs y v w → v = .int .i64 k) (hb' : (m != k) = b) (h : ∀ w, Known bs fs d (.bool b) w) : StepOk Try.prog bs fs w0 ⟨some d, .binOp .neq 25 (.tmp x) (.tmp y) t', ty, pos, af, g⟩ :=
  step_value rfl fun a w hb hk => ⟨.bool b, w, by
    have h1 := hx _ _ (hk x (by simp [looks, Op.operands]))
    have h2 := hy _ _ (hk y (by simp [looks, Op.operands]))
    simp only [execOp, h1, h2, ← hb']
    go_simp, h _, Below.refl _ _⟩
theorem step_gtIk {x : Nat} {t' : TypeId} {m k : Int} {b : Bool} (hx : ∀ v w, Known bs fs x v w → v = .int .i64 m) (hb' : decide (k < m) = b) (h : ∀ w, Known bs fs d (.bool b) w) : StepOk Try.prog bs fs w0 ⟨some d, .binOp .gtr 3 (.tmp x) (.const (.int .i64 k)) t', ty, pos, af, g⟩ :=
  step_value rfl fun a w hb hk => ⟨.bool b, w, by
    have h1 := hx _ _ (hk x (by simp [looks, Op.operands]))
    have h2 : a.eval (.const (.int .i64 k)) = .int .i64 k := rfl
    simp only [execOp, h1, h2, ← hb']
    go_simp, h _, Below.refl _ _⟩
theorem step_gtI {x y : Nat} {t' : TypeId} {m k : Int} {b : Bool} (hx : ∀ v w, Known bs fs x v w → v = .int .i64 m) (hy : ∀ v w, Known bs fs y v w → v = .int .i64 k) (hb' : decide (k < m) = b) (h : ∀ w, Known bs fs d (.bool b) w) : StepOk Try.prog bs fs w0 ⟨some d, .binOp .gtr 3 (.tmp x) (.tmp y) t', ty, pos, af, g⟩ :=
  step_value rfl fun a w hb hk => ⟨.bool b, w, by
    have h1 := hx _ _ (hk x (by simp [looks, Op.operands]))
    have h2 := hy _ _ (hk y (by simp [looks, Op.operands]))
    simp only [execOp, h1, h2, ← hb']
    go_simp, h _, Below.refl _ _⟩
theorem step_ltIk {x : Nat} {t' : TypeId} {m k : Int} {b : Bool} (hx : ∀ v w, Known bs fs x v w → v = .int .i64 m) (hb' : decide (m < k) = b) (h : ∀ w, Known bs fs d (.bool b) w) : StepOk Try.prog bs fs w0 ⟨some d, .binOp .lss 3 (.tmp x) (.const (.int .i64 k)) t', ty, pos, af, g⟩ :=
  step_value rfl fun a w hb hk => ⟨.bool b, w, by
    have h1 := hx _ _ (hk x (by simp [looks, Op.operands]))
    have h2 : a.eval (.const (.int .i64 k)) = .int .i64 k := rfl
    simp only [execOp, h1, h2, ← hb']
    go_simp, h _, Below.refl _ _⟩
theorem step_ltI {x y : Nat} {t' : TypeId} {m k : Int} {b : Bool} (hx : ∀ v w, Known bs fs x v w → v = .int .i64 m) (hy : ∀ v w, Known bs fs y v w → v = .int .i64 k) (hb' : decide (m < k) = b) (h : ∀ w, Known bs fs d (.bool b) w) : StepOk Try.prog bs fs w0 ⟨some d, .binOp .lss 3 (.tmp x) (.tmp y) t', ty, pos, af, g⟩ :=
  step_value rfl fun a w hb hk => ⟨.bool b, w, by
    have h1 := hx _ _ (hk x (by simp [looks, Op.operands]))
    have h2 := hy _ _ (hk y (by simp [looks, Op.operands]))
    simp only [execOp, h1, h2, ← hb']
    go_simp, h _, Below.refl _ _⟩
theorem step_leIk {x : Nat} {t' : TypeId} {m k : Int} {b : Bool} (hx : ∀ v w, Known bs fs x v w → v = .int .i64 m) (hb' : decide (m ≤ k) = b) (h : ∀ w, Known bs fs d (.bool b) w) : StepOk Try.prog bs fs w0 ⟨some d, .binOp .leq 3 (.tmp x) (.const (.int .i64 k)) t', ty, pos, af, g⟩ :=
  step_value rfl fun a w hb hk => ⟨.bool b, w, by
    have h1 := hx _ _ (hk x (by simp [looks, Op.operands]))
    have h2 : a.eval (.const (.int .i64 k)) = .int .i64 k := rfl
    simp only [execOp, h1, h2, ← hb']
    go_simp, h _, Below.refl _ _⟩
theorem step_leI {x y : Nat} {t' : TypeId} {m k : Int} {b : Bool} (hx : ∀ v w, Known bs fs x v w → v = .int .i64 m) (hy : ∀ v w, Known bs fs y v w → v = .int .i64 k) (hb' : decide (m ≤ k) = b) (h : ∀ w, Known bs fs d (.bool b) w) : StepOk Try.prog bs fs w0 ⟨some d, .binOp .leq 3 (.tmp x) (.tmp y) t', ty, pos, af, g⟩ :=
  step_value rfl fun a w hb hk => ⟨.bool b, w, by
    have h1 := hx _ _ (hk x (by simp [looks, Op.operands]))
    have h2 := hy _ _ (hk y (by simp [looks, Op.operands]))
    simp only [execOp, h1, h2, ← hb']
    go_simp, h _, Below.refl _ _⟩
theorem step_geIk {x : Nat} {t' : TypeId} {m k : Int} {b : Bool} (hx : ∀ v w, Known bs fs x v w → v = .int .i64 m) (hb' : decide (k ≤ m) = b) (h : ∀ w, Known bs fs d (.bool b) w) : StepOk Try.prog bs fs w0 ⟨some d, .binOp .geq 3 (.tmp x) (.const (.int .i64 k)) t', ty, pos, af, g⟩ :=
  step_value rfl fun a w hb hk => ⟨.bool b, w, by
    have h1 := hx _ _ (hk x (by simp [looks, Op.operands]))
    have h2 : a.eval (.const (.int .i64 k)) = .int .i64 k := rfl
    simp only [execOp, h1, h2, ← hb']
    go_simp, h _, Below.refl _ _⟩
theorem step_geI {x y : Nat} {t' : TypeId} {m k : Int} {b : Bool} (hx : ∀ v w, Known bs fs x v w → v = .int .i64 m) (hy : ∀ v w, Known bs fs y v w → v = .int .i64 k) (hb' : decide (k ≤ m) = b) (h : ∀ w, Known bs fs d (.bool b) w) : StepOk Try.prog bs fs w0 ⟨some d, .binOp .geq 3 (.tmp x) (.tmp y) t', ty, pos, af, g⟩ :=
  step_value rfl fun a w hb hk => ⟨.bool b, w, by
    have h1 := hx _ _ (hk x (by simp [looks, Op.operands]))
    have h2 := hy _ _ (hk y (by simp [looks, Op.operands]))
    simp only [execOp, h1, h2, ← hb']
    go_simp, h _, Below.refl _ _⟩
theorem step_leOk {x : Nat} {t' : TypeId} {m k : Int} {b : Bool} (hx : ∀ v w, Known bs fs x v w → v = .int .u8 m) (hb' : decide (m ≤ k) = b) (h : ∀ w, Known bs fs d (.bool b) w) : StepOk Try.prog bs fs w0 ⟨some d, .binOp .leq 33 (.tmp x) (.const (.int .u8 k)) t', ty, pos, af, g⟩ :=
  step_value rfl fun a w hb hk => ⟨.bool b, w, by
    have h1 := hx _ _ (hk x (by simp [looks, Op.operands]))
    have h2 : a.eval (.const (.int .u8 k)) = .int .u8 k := rfl
    simp only [execOp, h1, h2, ← hb']
    go_simp, h _, Below.refl _ _⟩
theorem step_leO {x y : Nat} {t' : TypeId} {m k : Int} {b : Bool} (hx : ∀ v w, Known bs fs x v w → v = .int .u8 m) (hy : ∀ v w, Known bs fs y v w → v = .int .u8 k) (hb' : decide (m ≤ k) = b) (h : ∀ w, Known bs fs d (.bool b) w) : StepOk Try.prog bs fs w0 ⟨some d, .binOp .leq 33 (.tmp x) (.tmp y) t', ty, pos, af, g⟩ :=
  step_value rfl fun a w hb hk => ⟨.bool b, w, by
    have h1 := hx _ _ (hk x (by simp [looks, Op.operands]))
    have h2 := hy _ _ (hk y (by simp [looks, Op.operands]))
    simp only [execOp, h1, h2, ← hb']
    go_simp, h _, Below.refl _ _⟩
theorem step_add {x y : Nat} {t' : TypeId} {m k : Int} (hx : ∀ v w, Known bs fs x v w → v = .int .i64 m) (hy : ∀ v w, Known bs fs y v w → v = .int .i64 k) (hb' : IntKind.i64.wrap (m + k) = m + k) (h : ∀ w, Known bs fs d (.int .i64 (m + k)) w) : StepOk Try.prog bs fs w0 ⟨some d, .binOp .add 3 (.tmp x) (.tmp y) t', ty, pos, af, g⟩ :=
  step_value rfl fun a w hb hk => ⟨.int .i64 (m + k), w, by
    have h1 := hx _ _ (hk x (by simp [looks, Op.operands]))
    have h2 := hy _ _ (hk y (by simp [looks, Op.operands]))
    simp only [execOp, h1, h2]
    go_simp, h _, Below.refl _ _⟩
theorem step_sub {x y : Nat} {t' : TypeId} {m k : Int} (hx : ∀ v w, Known bs fs x v w → v = .int .i64 m) (hy : ∀ v w, Known bs fs y v w → v = .int .i64 k) (hb' : IntKind.i64.wrap (m - k) = m - k) (h : ∀ w, Known bs fs d (.int .i64 (m - k)) w) : StepOk Try.prog bs fs w0 ⟨some d, .binOp .sub 3 (.tmp x) (.tmp y) t', ty, pos, af, g⟩ :=
  step_value rfl fun a w hb hk => ⟨.int .i64 (m - k), w, by
    have h1 := hx _ _ (hk x (by simp [looks, Op.operands]))
    have h2 := hy _ _ (hk y (by simp [looks, Op.operands]))
    simp only [execOp, h1, h2]
    go_simp, h _, Below.refl _ _⟩
theorem step_neg {x : Nat} {m : Int} (hx : ∀ v w, Known bs fs x v w → v = .int .i64 m) (hb' : IntKind.i64.wrap (-m) = -m) (h : ∀ w, Known bs fs d (.int .i64 (-m)) w) : StepOk Try.prog bs fs w0 ⟨some d, .unOp .neg 3 (.tmp x), ty, pos, af, g⟩ :=
  step_value rfl fun a w hb hk => ⟨.int .i64 (-m), w, by
    have h1 := hx _ _ (hk x (by simp [looks, Op.operands]))
    simp only [execOp, h1]
    go_simp, h _, Below.refl _ _⟩
theorem step_eqB {x y : Nat} {t' : TypeId} {m k b : Bool} (hx : ∀ v w, Known bs fs x v w → v = .bool m) (hy : ∀ v w, Known bs fs y v w → v = .bool k) (hb' : (m == k) = b) (h : ∀ w, Known bs fs d (.bool b) w) : StepOk Try.prog bs fs w0 ⟨some d, .binOp .eql 4 (.tmp x) (.tmp y) t', ty, pos, af, g⟩ :=
  step_value rfl fun a w hb hk => ⟨.bool b, w, by
    have h1 := hx _ _ (hk x (by simp [looks, Op.operands]))
    have h2 := hy _ _ (hk y (by simp [looks, Op.operands]))
    simp only [execOp, h1, h2, ← hb']
    go_simp, h _, Below.refl _ _⟩
theorem step_neB {x y : Nat} {t' : TypeId} {m k b : Bool} (hx : ∀ v w, Known bs fs x v w → v = .bool m) (hy : ∀ v w, Known bs fs y v w → v = .bool k) (hb' : (!(m == k)) = b) (h : ∀ w, Known bs fs d (.bool b) w) : StepOk Try.prog bs fs w0 ⟨some d, .binOp .neq 4 (.tmp x) (.tmp y) t', ty, pos, af, g⟩ :=
  step_value rfl fun a w hb hk => ⟨.bool b, w, by
    have h1 := hx _ _ (hk x (by simp [looks, Op.operands]))
    have h2 := hy _ _ (hk y (by simp [looks, Op.operands]))
    simp only [execOp, h1, h2, ← hb']
    go_simp, h _, Below.refl _ _⟩
set_option maxRecDepth 100000 in
theorem step_neM {x y : Nat} {t' : TypeId} {m n : M4} {b : Bool} (hx : ∀ v w, Known bs fs x v w → v = mv m) (hy : ∀ v w, Known bs fs y v w → v = mv n) (hb' : (!eqM m n) = b) (h : ∀ w, Known bs fs d (.bool b) w) : StepOk Try.prog bs fs w0 ⟨some d, .binOp .neq 24 (.tmp x) (.tmp y) t', ty, pos, af, g⟩ :=
  step_value rfl fun a w hb hk => ⟨.bool b, w, by
    have h1 := hx _ _ (hk x (by simp [looks, Op.operands]))
    have h2 := hy _ _ (hk y (by simp [looks, Op.operands]))
    have h3 := run_eqM m n w
    simp only [execOp, h1, h2, ← hb']
    clear h1 h2
    unfold mv at h3 ⊢
    go_simp, h _, Below.refl _ _⟩
theorem step_build {T : TypeId} {l : Array (Nat × Operand)} {l' : Array (Nat × Value)} {v : Value} (hl : ∀ a : Act, l.map (fun p => (p.1, a.eval p.2)) = l') (hr : ∀ w, (Instr.build T l').run Try.prog w = .ok v w) (h : ∀ w, Known bs fs d v w) : StepOk Try.prog bs fs w0 ⟨some d, .build T l, ty, pos, af, g⟩ :=
  step_value rfl fun a w hb hk => ⟨v, w, by
    simp only [execOp]
    exact value_run (by rw [hl a]; exact hr w), h _, Below.refl _ _⟩
/-- The places of three products behind one another. -/
theorem step_index38 {x b o : Nat} {j : Int} (hx : ∀ v w, Known bs fs x v w → v = .pointer (some ⟨b, 0, none⟩)) (hr : ∀ w, (Instr.indexAt 38 (.pointer (some ⟨b, 0, none⟩)) (.int .i64 j)).run Try.prog w = .ok (.pointer (some ⟨b, o, none⟩)) w) (h : ∀ w, Known bs fs d (.pointer (some ⟨b, o, none⟩)) w) : StepOk Try.prog bs fs w0 ⟨some d, .indexAddr 38 (.tmp x) (.const (.int .i64 j)), ty, pos, af, g⟩ :=
  step_value rfl fun a w hb hk => ⟨_, w, by
    have h1 := hx _ _ (hk x (by simp [looks, Op.operands]))
    have h2 : a.eval (.const (.int .i64 j)) = .int .i64 j := rfl
    simp only [execOp, h1, h2]
    exact value_run (hr w), h _, Below.refl _ _⟩
theorem run_index38_0 {b : Nat} (w : World) : (Instr.indexAt 38 (.pointer (some ⟨b, 0, none⟩)) (.int .i64 0)).run Try.prog w = .ok (.pointer (some ⟨b, 0, none⟩)) w := by go_simp
theorem run_index38_1 {b : Nat} (w : World) : (Instr.indexAt 38 (.pointer (some ⟨b, 0, none⟩)) (.int .i64 1)).run Try.prog w = .ok (.pointer (some ⟨b, 4, none⟩)) w := by go_simp
theorem run_index38_2 {b : Nat} (w : World) : (Instr.indexAt 38 (.pointer (some ⟨b, 0, none⟩)) (.int .i64 2)).run Try.prog w = .ok (.pointer (some ⟨b, 8, none⟩)) w := by go_simp
end
end Go.Proofs.Ytikbjjechhdclaa
