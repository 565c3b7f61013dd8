/- Blocks of the call's own that hold products: what they hold, and stores into them. -/
import Derived.Test.YtikbjjechhdclaaMBase
import Derived.Orders
import Derived.Deep.RegionHeld3
import Derived.Below
namespace Go.Proofs.Ytikbjjechhdclaa
open Go.RowKit

theorem Below.step {w W W' : World} (h : Below w.heap.size w W) (k : Below W.heap.size W W') : Below w.heap.size w W' := h.trans (k.mono h.size)
theorem Below.undrew {B : Nat} {w w' : World} (h : Below B w.drew w') : Below B w w' := by
  obtain ⟨h1, h2, h3, h4, h5⟩ := h
  exact ⟨h1, h2, h3, h4, h5⟩
theorem Below.undrew' {w w' : World} (h : Below w.drew.heap.size w.drew w') : Below w.heap.size w w' := by
  have h6 := Below.undrew h
  rwa [World.size_drew] at h6

/-- Block b holds these cells, from its first on, and they may be written. -/
def BoxV (W : World) (b : Nat) (vs : List Value) : Prop := ∀ i, i < vs.length → W.cell? ⟨b, i, none⟩ = vs[i]? ∧ W.frozen? ⟨b, i, none⟩ = false

theorem BoxV.lt {W : World} {b : Nat} {v : Value} {vs : List Value} (h : BoxV W b (v :: vs)) : b < W.heap.size := World.block_lt_of_cell? W ⟨b, 0, none⟩ (h 0 (by simp)).1
theorem BoxV.below {W W1 : World} {b : Nat} {v : Value} {vs : List Value} (h : BoxV W b (v :: vs)) (hb : Below W.heap.size W W1) : BoxV W1 b (v :: vs) := fun i hi =>
  ⟨(hb.cell (p := ⟨b, i, none⟩) h.lt).trans (h i hi).1, (hb.frozen (p := ⟨b, i, none⟩) h.lt).trans (h i hi).2⟩
theorem BoxV.keep {W : World} {b : Nat} {v : Value} {vs : List Value} (h : BoxV W b (v :: vs)) : Hid (∀ W1, Below W.heap.size W W1 → BoxV W1 b (v :: vs)) := fun _ hb => h.below hb
theorem BoxV.new (w : World) (vs : List Value) (T : TypeId) : BoxV (w.alloc (.cells vs.toArray T)) w.heap.size vs := by
  intro i hi
  constructor
  · rw [World.cell?_alloc_new]
    simp
  · rw [World.frozen?_alloc_new]
theorem BoxV.c4 {W : World} {b : Nat} {x y z u : Value} (h : BoxV W b [x, y, z, u]) : W.cell? ⟨b, 0, none⟩ = some x ∧ W.cell? ⟨b, 1, none⟩ = some y ∧ W.cell? ⟨b, 2, none⟩ = some z ∧ W.cell? ⟨b, 3, none⟩ = some u :=
  ⟨(h 0 (by simp)).1, (h 1 (by simp)).1, (h 2 (by simp)).1, (h 3 (by simp)).1⟩
theorem BoxV.f4 {W : World} {b : Nat} {x y z u : Value} (h : BoxV W b [x, y, z, u]) : W.frozen? ⟨b, 0, none⟩ = false ∧ W.frozen? ⟨b, 1, none⟩ = false ∧ W.frozen? ⟨b, 2, none⟩ = false ∧ W.frozen? ⟨b, 3, none⟩ = false :=
  ⟨(h 0 (by simp)).2, (h 1 (by simp)).2, (h 2 (by simp)).2, (h 3 (by simp)).2⟩
theorem BoxV.other {W : World} {b : Nat} {vs : List Value} (h : BoxV W b vs) {p : Addr} (hp : p.block ≠ b) (u : Value) : BoxV (W.setCell p u) b vs := fun i hi =>
  ⟨(World.cell?_setCell_far _ _ _ _ hp).trans (h i hi).1, by rw [World.frozen?_setCell]; exact (h i hi).2⟩
theorem BoxV.set {W : World} {b k : Nat} {vs : List Value} (h : BoxV W b vs) (hk : k < vs.length) (u : Value) : BoxV (W.setCell ⟨b, k, none⟩ u) b (vs.set k u) := fun i hi => by
  rw [List.length_set] at hi
  refine ⟨?_, by rw [World.frozen?_setCell]; exact (h i hi).2⟩
  by_cases e : k = i
  · subst e
    rw [World.cell?_setCell_same _ _ _ ((h k hk).1.trans (List.getElem?_eq_getElem hk)), List.getElem?_set_self hk]
  · rw [World.cell?_setCell_other _ _ _ _ (by simp), List.getElem?_set_ne e]
    exact (h i hi).1

/-- A product's cells. -/
def m4 (m : M4) : List Value := [.int .u16 m.a, .int .u16 m.b, .int .u16 m.c, .int .u16 m.d]

set_option maxRecDepth 100000 in
/-- The end of a call that answers a product out of a box, and one thing more. -/
theorem ret_cell2 {fn : Func} {R : Ending → World → Prop} {a : Act} {w : World} {t u b : Nat} {z0 z1 z2 z3 : Int} {r : Value} (hr : fn.results = #[.cell t 24, .tmp u]) (hd : a.defers = []) (h : a.eval (.tmp t) = .pointer (some ⟨b, 0, none⟩)) (h' : a.eval (.tmp u) = r) (hb : BoxV w b [.int .u16 z0, .int .u16 z1, .int .u16 z2, .int .u16 z3])
    (hR : R (.returned (.tuple #[.agg #[.int .u16 z0, .int .u16 z1, .int .u16 z2, .int .u16 z3], r])) w) : bodyPost Try.prog fn R .ret a w := by
  have h1 : a.tmps[t]?.getD undef = .pointer (some ⟨b, 0, none⟩) := by rw [← Array.getD_eq_getD_getElem?]; exact h
  have h2 : a.tmps[u]?.getD undef = r := by rw [← Array.getD_eq_getD_getElem?]; exact h'
  obtain ⟨c0, c1, c2, c3⟩ := hb.c4
  refine bodyPost_ret (v := .tuple #[.agg #[.int .u16 z0, .int .u16 z1, .int .u16 z2, .int .u16 z3], r]) ?_ hd hR
  simp [results, hr, go_sem, h1, h2, c0, c1, c2, c3]
set_option maxRecDepth 100000 in
/-- The end of a call that answers a product out of a box. -/
theorem ret_cell1 {fn : Func} {R : Ending → World → Prop} {a : Act} {w : World} {t b : Nat} {z0 z1 z2 z3 : Int} (hr : fn.results = #[.cell t 24]) (hd : a.defers = []) (h : a.eval (.tmp t) = .pointer (some ⟨b, 0, none⟩)) (hb : BoxV w b [.int .u16 z0, .int .u16 z1, .int .u16 z2, .int .u16 z3])
    (hR : R (.returned (.agg #[.int .u16 z0, .int .u16 z1, .int .u16 z2, .int .u16 z3])) w) : bodyPost Try.prog fn R .ret a w := by
  have h1 : a.tmps[t]?.getD undef = .pointer (some ⟨b, 0, none⟩) := by rw [← Array.getD_eq_getD_getElem?]; exact h
  obtain ⟨c0, c1, c2, c3⟩ := hb.c4
  refine bodyPost_ret (v := .agg #[.int .u16 z0, .int .u16 z1, .int .u16 z2, .int .u16 z3]) ?_ hd hR
  simp [results, hr, go_sem, h1, c0, c1, c2, c3]

/-- Four cells are stored. -/
theorem BoxV.four {W : World} {b : Nat} {x0 x1 x2 x3 : Value} (h : BoxV W b [x0, x1, x2, x3]) (y0 y1 y2 y3 : Value) : BoxV ((((W.setCell ⟨b, 0, none⟩ y0).setCell ⟨b, 1, none⟩ y1).setCell ⟨b, 2, none⟩ y2).setCell ⟨b, 3, none⟩ y3) b [y0, y1, y2, y3] :=
  (((h.set (k := 0) (by simp) y0).set (k := 1) (by simp) y1).set (k := 2) (by simp) y2).set (k := 3) (by simp) y3
theorem below_four {n b : Nat} {w W : World} (h : Below n w W) (hb : n ≤ b) (y0 y1 y2 y3 : Value) : Below n w ((((W.setCell ⟨b, 0, none⟩ y0).setCell ⟨b, 1, none⟩ y1).setCell ⟨b, 2, none⟩ y2).setCell ⟨b, 3, none⟩ y3) :=
  (((h.setCell (p := ⟨b, 0, none⟩) hb y0).setCell (p := ⟨b, 1, none⟩) hb y1).setCell (p := ⟨b, 2, none⟩) hb y2).setCell (p := ⟨b, 3, none⟩) hb y3
theorem BoxV.far {W : World} {b b' : Nat} {vs : List Value} (h : BoxV W b' vs) (hne : b ≠ b') (y0 y1 y2 y3 : Value) : BoxV ((((W.setCell ⟨b, 0, none⟩ y0).setCell ⟨b, 1, none⟩ y1).setCell ⟨b, 2, none⟩ y2).setCell ⟨b, 3, none⟩ y3) b' vs :=
  (((h.other (p := ⟨b, 0, none⟩) hne y0).other (p := ⟨b, 1, none⟩) hne y1).other (p := ⟨b, 2, none⟩) hne y2).other (p := ⟨b, 3, none⟩) hne y3

end Go.Proofs.Ytikbjjechhdclaa
