/- A struct of two cells in a block of the call's own. -/
import Derived.Test.YtgpoljbccimkjaaGreatDoorW5
import Derived.Deep.RegionWith
import Derived.Deep.RegionHeld3
import Derived.Deep.DeepCutAuto
namespace Go.Proofs.YtgpoljbccimkjaaGreatDoor
set_option linter.unusedSimpArgs false
set_option linter.unusedVariables false
open Go.RowKit

theorem Below.undrew {B : Nat} {w w' : World} (h : Below B w.drew w') : Below B w w' := by
  obtain ⟨h1, h2, h3, h4, h5⟩ := h
  exact ⟨h1, h2, h3, h4, h5⟩
theorem Below.undrew' {w w' : World} (h : Below w.drew.heap.size w.drew w') : Below w.heap.size w w' := by
  have h6 := Below.undrew h
  rwa [World.size_drew] at h6

/-- Block b holds a struct of two cells that may be written. -/
def NumBox (W : World) (b : Nat) (x y : Value) : Prop :=
  W.cell? ⟨b, 0, none⟩ = some x ∧ W.cell? ⟨b, 1, none⟩ = some y ∧ W.frozen? ⟨b, 0, none⟩ = false ∧ W.frozen? ⟨b, 1, none⟩ = false

theorem NumBox.lt {W : World} {b : Nat} {x y : Value} (h : NumBox W b x y) : b < W.heap.size := World.block_lt_of_cell? W ⟨b, 0, none⟩ h.1
theorem NumBox.below {W w1 : World} {b : Nat} {x y : Value} (h : NumBox W b x y) (hb : Below W.heap.size W w1) : NumBox w1 b x y :=
  ⟨(hb.cell (p := ⟨b, 0, none⟩) h.lt).trans h.1, (hb.cell (p := ⟨b, 1, none⟩) h.lt).trans h.2.1, (hb.frozen (p := ⟨b, 0, none⟩) h.lt).trans h.2.2.1, (hb.frozen (p := ⟨b, 1, none⟩) h.lt).trans h.2.2.2⟩
theorem NumBox.new (w : World) (x y : Value) (T : TypeId) : NumBox (w.alloc (.cells #[x, y] T)) w.heap.size x y := by
  refine ⟨?_, ?_, ?_, ?_⟩ <;> go_simp
theorem NumBox.alloc {w : World} {b : Nat} {x y : Value} (h : NumBox w b x y) (o : Obj) : NumBox (w.alloc o) b x y :=
  h.below ((Below.refl _ _).alloc (Nat.le_refl _) _)

theorem NumBox.set0 {W : World} {b : Nat} {x y : Value} (h : NumBox W b x y) (u : Value) : NumBox (W.setCell ⟨b, 0, none⟩ u) b u y :=
  ⟨World.cell?_setCell_same _ _ _ h.1, (World.cell?_setCell_other _ _ _ _ (by simp)).trans h.2.1, by rw [World.frozen?_setCell]; exact h.2.2.1, by rw [World.frozen?_setCell]; exact h.2.2.2⟩
theorem NumBox.set1 {W : World} {b : Nat} {x y : Value} (h : NumBox W b x y) (u : Value) : NumBox (W.setCell ⟨b, 1, none⟩ u) b x u :=
  ⟨(World.cell?_setCell_other _ _ _ _ (by simp)).trans h.1, World.cell?_setCell_same _ _ _ h.2.1, by rw [World.frozen?_setCell]; exact h.2.2.1, by rw [World.frozen?_setCell]; exact h.2.2.2⟩
theorem NumBox.other {W : World} {b : Nat} {x y : Value} (h : NumBox W b x y) {p : Addr} (hp : p.block ≠ b) (u : Value) : NumBox (W.setCell p u) b x y :=
  ⟨(World.cell?_setCell_far _ _ _ _ hp).trans h.1, (World.cell?_setCell_far _ _ _ _ hp).trans h.2.1, by rw [World.frozen?_setCell]; exact h.2.2.1, by rw [World.frozen?_setCell]; exact h.2.2.2⟩
/-- A store where no 32-bit number lies. -/
theorem Lim.setOther {W : World} {v : Value} {l : List Nat} (h : Lim W v l) {p : Addr} {x : Value} (hp : W.cell? p = some x) (hx : ∀ n, x ≠ .int .u32 n) (u : Value) : Lim (W.setCell p u) v l := by
  obtain ⟨a, c, rfl, h1, h2, h3, h4⟩ := h
  refine ⟨a, c, rfl, h1, h2, h3, ?_⟩
  rcases h4 with h4 | ⟨b, o, rfl, hc⟩
  · exact .inl h4
  · refine .inr ⟨b, o, rfl, fun i hi => ?_⟩
    rw [World.cell?_setCell_other]
    · exact hc i hi
    · intro e
      have := hc i hi
      rw [← e, hp] at this
      injection this with this
      exact hx _ this

/-- Four stores into two boxes. -/
theorem two_stored {w W : World} {b1 b2 : Nat} {s s' t t' : Bool} {a a' a1 a2 : Option Addr} {k k' k1 k2 c c' c1 c2 : Nat} {l l' : List Nat} (h0 : Below w.heap.size w W) (hb1 : w.heap.size ≤ b1) (hb2 : w.heap.size ≤ b2) (hne : b1 ≠ b2)
    (n1 : NumBox W b1 (.bool s) (.slice a k c)) (n2 : NumBox W b2 (.bool s') (.slice a' k' c')) (k1l : Lim W (.slice a1 k1 c1) l) (k2l : Lim W (.slice a2 k2 c2) l') :
    ∃ W', ((((W.setCell ⟨b1, 0, none⟩ (.bool t)).setCell ⟨b1, 1, none⟩ (.slice a1 k1 c1)).setCell ⟨b2, 0, none⟩ (.bool t')).setCell ⟨b2, 1, none⟩ (.slice a2 k2 c2)) = W' ∧ Below w.heap.size w W' ∧
      NumBox W' b1 (.bool t) (.slice a1 k1 c1) ∧ NumBox W' b2 (.bool t') (.slice a2 k2 c2) ∧ Lim W' (.slice a1 k1 c1) l ∧ Lim W' (.slice a2 k2 c2) l' ∧ ∀ b3 x3 y3, b1 ≠ b3 → b2 ≠ b3 → NumBox W b3 x3 y3 → NumBox W' b3 x3 y3 := by
  have m1 := n1.set0 (.bool t)
  have m2 := n2.other (p := ⟨b1, 0, none⟩) hne (.bool t)
  have m3 := m1.set1 (.slice a1 k1 c1)
  have m4 := m2.other (p := ⟨b1, 1, none⟩) hne (.slice a1 k1 c1)
  have m5 := m3.other (p := ⟨b2, 0, none⟩) (Ne.symm hne) (.bool t')
  have m6 := m4.set0 (.bool t')
  have m7 := m5.other (p := ⟨b2, 1, none⟩) (Ne.symm hne) (.slice a2 k2 c2)
  have m8 := m6.set1 (.slice a2 k2 c2)
  have key : ∀ {v : Value} {l : List Nat}, Lim W v l → Lim ((((W.setCell ⟨b1, 0, none⟩ (.bool t)).setCell ⟨b1, 1, none⟩ (.slice a1 k1 c1)).setCell ⟨b2, 0, none⟩ (.bool t')).setCell ⟨b2, 1, none⟩ (.slice a2 k2 c2)) v l := fun h =>
    (((h.setOther n1.1 (by simp) _).setOther m1.2.1 (by simp) _).setOther m4.1 (by simp) _).setOther m6.2.1 (by simp) _
  exact ⟨_, rfl, (((h0.setCell (p := ⟨b1, 0, none⟩) hb1 _).setCell (p := ⟨b1, 1, none⟩) hb1 _).setCell (p := ⟨b2, 0, none⟩) hb2 _).setCell (p := ⟨b2, 1, none⟩) hb2 _, m7, m8, key k1l, key k2l, fun b3 x3 y3 e1 e2 h => (((h.other (p := ⟨b1, 0, none⟩) e1 _).other (p := ⟨b1, 1, none⟩) e1 _).other (p := ⟨b2, 0, none⟩) e2 _).other (p := ⟨b2, 1, none⟩) e2 _⟩

theorem box1 (w : World) (x0 x1 : Value) : ∃ W0, w.alloc (.cells #[x0, x1] 24) = W0 ∧ NumBox W0 w.heap.size x0 x1 ∧ Below w.heap.size w W0 ∧ w.heap.size < W0.heap.size :=
  ⟨_, rfl, NumBox.new _ _ _ _, (Below.refl _ _).alloc (Nat.le_refl _) _, by simp⟩
theorem box2 (w : World) (x0 x1 y0 y1 : Value) : ∃ W0, (w.alloc (.cells #[x0, x1] 24)).alloc (.cells #[y0, y1] 24) = W0 ∧ NumBox W0 w.heap.size x0 x1 ∧ NumBox W0 (w.heap.size + 1) y0 y1 ∧ Below w.heap.size w W0 ∧ w.heap.size < W0.heap.size ∧ w.heap.size + 1 < W0.heap.size := by
  refine ⟨_, rfl, (NumBox.new _ _ _ _).alloc _, ?_, ((Below.refl _ _).alloc (Nat.le_refl _) _).alloc (by simp) _, by simp; omega, by simp⟩
  have := NumBox.new (w.alloc (.cells #[x0, x1] 24)) y0 y1 24
  rwa [World.size_alloc] at this
theorem box3 (w : World) (x0 x1 y0 y1 z0 z1 : Value) : ∃ W0, ((w.alloc (.cells #[x0, x1] 24)).alloc (.cells #[y0, y1] 24)).alloc (.cells #[z0, z1] 24) = W0 ∧ NumBox W0 w.heap.size x0 x1 ∧ NumBox W0 (w.heap.size + 1) y0 y1 ∧ NumBox W0 (w.heap.size + 2) z0 z1 ∧ Below w.heap.size w W0 ∧ w.heap.size < W0.heap.size ∧ w.heap.size + 1 < W0.heap.size ∧ w.heap.size + 2 < W0.heap.size := by
  obtain ⟨W0, e, h1, h2, h3, h4, h5⟩ := box2 w x0 x1 y0 y1
  rw [e]
  have hs : W0.heap.size = w.heap.size + 2 := by rw [← e]; simp
  have := NumBox.new W0 z0 z1 24
  rw [hs] at this
  exact ⟨_, rfl, h1.alloc _, h2.alloc _, this, h3.alloc (by omega) _, by simp; omega, by simp; omega, by simp; omega⟩

theorem box4 (w : World) (x0 x1 y0 y1 z0 z1 u0 u1 : Value) : ∃ W0, (((w.alloc (.cells #[x0, x1] 24)).alloc (.cells #[y0, y1] 24)).alloc (.cells #[z0, z1] 24)).alloc (.cells #[u0, u1] 24) = W0 ∧ NumBox W0 w.heap.size x0 x1 ∧ NumBox W0 (w.heap.size + 1) y0 y1 ∧ NumBox W0 (w.heap.size + 2) z0 z1 ∧ NumBox W0 (w.heap.size + 3) u0 u1 ∧ Below w.heap.size w W0 ∧ W0.heap.size = w.heap.size + 4 := by
  obtain ⟨W0, e, h1, h2, h3, h4, -⟩ := box3 w x0 x1 y0 y1 z0 z1
  rw [e]
  have hs : W0.heap.size = w.heap.size + 3 := by rw [← e]; simp
  have := NumBox.new W0 u0 u1 24
  rw [hs] at this
  exact ⟨_, rfl, h1.alloc _, h2.alloc _, h3.alloc _, this, h4.alloc (by omega) _, by simp; omega⟩

end Go.Proofs.YtgpoljbccimkjaaGreatDoor
