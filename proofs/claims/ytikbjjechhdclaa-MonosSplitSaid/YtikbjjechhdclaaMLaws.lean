/- What the laws share: calls with what they are known to answer; three products as they lie. -/
import Derived.Test.YtikbjjechhdclaaMRefCmp
import Derived.Test.YtikbjjechhdclaaMAlive
import Derived.Test.YtikbjjechhdclaaMMath
namespace Go.Proofs.Ytikbjjechhdclaa
open Go.RowKit

theorem Div_to {x y : M4} (hx : OkM x) (hy : OkM y) (r : M4) (b : Bool) (hr : divM x y = r) (hb : decide (inM y x) = b) (w : World) : Calls Try.prog 12 #[mv x, mv y] w fun e w' => e = .returned (.tuple #[mv r, .bool b]) ∧ Below w.heap.size w w' := by
  rw [← hr, ← hb]
  exact Div_any hx hy w
theorem Mul_to {x y : M4} (hx : OkM x) (hy : OkM y) (r : M4) (e : Int) (hr : mulM x y = r) (he : errM x y = e) (w : World) : Calls Try.prog 11 #[mv x, mv y] w fun e' w' => e' = .returned (.tuple #[mv r, .int .i64 e]) ∧ Below w.heap.size w w' := by
  rw [← hr, ← he]
  exact Mul_any hx hy w
theorem Cmp_to {o : Int} (h0 : 0 ≤ o) (h1 : o ≤ 255) {x y : M4} (hx : OkM x) (hy : OkM y) (r : Int) (hr : sgn (keyM o x - keyM o y) = r) (w : World) : Calls Try.prog 19 #[.int .u8 o, mv x, mv y] w fun e w' => e = .returned (.int .i64 r) ∧ Below w.heap.size w w' := by
  rw [← hr]
  exact Cmp_any h0 h1 hx hy w

theorem box_xyz (w : World) (x y z : M4) : ∃ W0, ((w.alloc (.cells #[.int .u16 x.a, .int .u16 x.b, .int .u16 x.c, .int .u16 x.d] 24)).alloc (.cells #[.int .u16 y.a, .int .u16 y.b, .int .u16 y.c, .int .u16 y.d] 24)).alloc (.cells #[.int .u16 z.a, .int .u16 z.b, .int .u16 z.c, .int .u16 z.d] 24) = W0 ∧
    BoxV W0 w.heap.size (m4 x) ∧ BoxV W0 (w.heap.size + 1) (m4 y) ∧ BoxV W0 (w.heap.size + 1 + 1) (m4 z) ∧ Below w.heap.size w W0 := by
  obtain ⟨W1, e1, n1, n2, b1, s1⟩ := box_2 w x y
  rw [e1]
  have n3 := BoxV.new W1 (m4 z) 24
  rw [s1] at n3
  exact ⟨_, rfl, n1.below ((Below.refl _ _).alloc (Nat.le_refl _) _), n2.below ((Below.refl _ _).alloc (Nat.le_refl _) _), n3, b1.alloc (by omega) _⟩

/-- Block b holds three products, behind one another. -/
def Box3 (W : World) (b : Nat) (x y z : M4) : Prop := BoxV W b (m4 x ++ m4 y ++ m4 z)
theorem box_12 (w : World) (x y z : M4) : ∃ W0, w.alloc (.cells #[.int .u16 x.a, .int .u16 x.b, .int .u16 x.c, .int .u16 x.d, .int .u16 y.a, .int .u16 y.b, .int .u16 y.c, .int .u16 y.d, .int .u16 z.a, .int .u16 z.b, .int .u16 z.c, .int .u16 z.d] 38) = W0 ∧ Box3 W0 w.heap.size x y z ∧ Below w.heap.size w W0 :=
  ⟨_, rfl, BoxV.new w (m4 x ++ m4 y ++ m4 z) _, (Below.refl _ _).alloc (Nat.le_refl _) _⟩
theorem Box3.below {W W1 : World} {b : Nat} {x y z : M4} (h : Box3 W b x y z) (hb : Below W.heap.size W W1) : Box3 W1 b x y z := BoxV.below (v := .int .u16 x.a) h hb
theorem Box3.keep {W : World} {b : Nat} {x y z : M4} (h : Box3 W b x y z) : Hid (∀ W1, Below W.heap.size W W1 → Box3 W1 b x y z) := fun _ hb => h.below hb
theorem Box3.c0 {W : World} {b : Nat} {x y z : M4} (h : Box3 W b x y z) : W.cell? ⟨b, 0, none⟩ = some (.int .u16 x.a) ∧ W.cell? ⟨b, 0 + 1, none⟩ = some (.int .u16 x.b) ∧ W.cell? ⟨b, 0 + 2, none⟩ = some (.int .u16 x.c) ∧ W.cell? ⟨b, 0 + 3, none⟩ = some (.int .u16 x.d) := ⟨(h 0 (by simp [m4])).1, (h 1 (by simp [m4])).1, (h 2 (by simp [m4])).1, (h 3 (by simp [m4])).1⟩
theorem Box3.c1 {W : World} {b : Nat} {x y z : M4} (h : Box3 W b x y z) : W.cell? ⟨b, 4, none⟩ = some (.int .u16 y.a) ∧ W.cell? ⟨b, 4 + 1, none⟩ = some (.int .u16 y.b) ∧ W.cell? ⟨b, 4 + 2, none⟩ = some (.int .u16 y.c) ∧ W.cell? ⟨b, 4 + 3, none⟩ = some (.int .u16 y.d) := ⟨(h 4 (by simp [m4])).1, (h 5 (by simp [m4])).1, (h 6 (by simp [m4])).1, (h 7 (by simp [m4])).1⟩
theorem Box3.c2 {W : World} {b : Nat} {x y z : M4} (h : Box3 W b x y z) : W.cell? ⟨b, 8, none⟩ = some (.int .u16 z.a) ∧ W.cell? ⟨b, 8 + 1, none⟩ = some (.int .u16 z.b) ∧ W.cell? ⟨b, 8 + 2, none⟩ = some (.int .u16 z.c) ∧ W.cell? ⟨b, 8 + 3, none⟩ = some (.int .u16 z.d) := ⟨(h 8 (by simp [m4])).1, (h 9 (by simp [m4])).1, (h 10 (by simp [m4])).1, (h 11 (by simp [m4])).1⟩
theorem Box3.all {W : World} {b : Nat} {x y z : M4} (h : Box3 W b x y z) : (W.cell? ⟨b, 0, none⟩ = some (.int .u16 x.a) ∧ W.cell? ⟨b, 1, none⟩ = some (.int .u16 x.b) ∧ W.cell? ⟨b, 2, none⟩ = some (.int .u16 x.c) ∧ W.cell? ⟨b, 3, none⟩ = some (.int .u16 x.d)) ∧ (W.cell? ⟨b, 4, none⟩ = some (.int .u16 y.a) ∧ W.cell? ⟨b, 5, none⟩ = some (.int .u16 y.b) ∧ W.cell? ⟨b, 6, none⟩ = some (.int .u16 y.c) ∧ W.cell? ⟨b, 7, none⟩ = some (.int .u16 y.d)) ∧
    (W.cell? ⟨b, 8, none⟩ = some (.int .u16 z.a) ∧ W.cell? ⟨b, 9, none⟩ = some (.int .u16 z.b) ∧ W.cell? ⟨b, 10, none⟩ = some (.int .u16 z.c) ∧ W.cell? ⟨b, 11, none⟩ = some (.int .u16 z.d)) := ⟨h.c0, h.c1, h.c2⟩

end Go.Proofs.Ytikbjjechhdclaa
