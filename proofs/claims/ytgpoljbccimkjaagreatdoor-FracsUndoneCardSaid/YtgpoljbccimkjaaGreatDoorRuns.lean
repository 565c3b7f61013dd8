/- Loads, stores and places of structs and arrays of numbers: what each operation gives. -/
import Derived.Test.YtgpoljbccimkjaaGreatDoorBox
namespace Go.Proofs.YtgpoljbccimkjaaGreatDoor
set_option linter.unusedSimpArgs false
set_option linter.unusedVariables false
open Go.RowKit

/-- Block b holds these cells, from its first on, and they may be written. -/
def BoxV (W : World) (b : Nat) (vs : List Value) : Prop := ∀ i, i < vs.length → W.cell? ⟨b, i, none⟩ = vs[i]? ∧ W.frozen? ⟨b, i, none⟩ = false

theorem BoxV.lt {W : World} {b : Nat} {v : Value} {vs : List Value} (h : BoxV W b (v :: vs)) : b < W.heap.size := World.block_lt_of_cell? W ⟨b, 0, none⟩ (h 0 (by simp)).1
theorem BoxV.below {W W1 : World} {b : Nat} {v : Value} {vs : List Value} (h : BoxV W b (v :: vs)) (hb : Below W.heap.size W W1) : BoxV W1 b (v :: vs) := fun i hi =>
  ⟨(hb.cell (p := ⟨b, i, none⟩) h.lt).trans (h i hi).1, (hb.frozen (p := ⟨b, i, none⟩) h.lt).trans (h i hi).2⟩
theorem BoxV.keep {W : World} {b : Nat} {v : Value} {vs : List Value} (h : BoxV W b (v :: vs)) : Hid (∀ W1, Below W.heap.size W W1 → BoxV W1 b (v :: vs)) := fun _ hb => h.below hb
theorem BoxV.new (w : World) (vs : List Value) (T : TypeId) : BoxV (w.alloc (.cells vs.toArray T)) w.heap.size vs := by
  intro i hi
  constructor
  · rw [World.cell?_alloc_new]
    simp
  · rw [World.frozen?_alloc_new]
theorem NumBox.v {W : World} {b : Nat} {x y : Value} (h : NumBox W b x y) : BoxV W b [x, y] := by
  intro i hi
  have h0 : i = 0 ∨ i = 1 := by simp at hi; omega
  rcases h0 with rfl | rfl
  · exact ⟨h.1, h.2.2.1⟩
  · exact ⟨h.2.1, h.2.2.2⟩
theorem BoxV.num {W : World} {b : Nat} {x y : Value} (h : BoxV W b [x, y]) : NumBox W b x y := ⟨(h 0 (by simp)).1, (h 1 (by simp)).1, (h 0 (by simp)).2, (h 1 (by simp)).2⟩
theorem BoxV.c2 {W : World} {b : Nat} {x y : Value} (h : BoxV W b [x, y]) : W.cell? ⟨b, 0, none⟩ = some x ∧ W.cell? ⟨b, 1, none⟩ = some y ∧ W.frozen? ⟨b, 0, none⟩ = false ∧ W.frozen? ⟨b, 1, none⟩ = false :=
  ⟨(h 0 (by simp)).1, (h 1 (by simp)).1, (h 0 (by simp)).2, (h 1 (by simp)).2⟩
theorem BoxV.c4 {W : World} {b : Nat} {x y z u : Value} (h : BoxV W b [x, y, z, u]) : W.cell? ⟨b, 0, none⟩ = some x ∧ W.cell? ⟨b, 1, none⟩ = some y ∧ W.cell? ⟨b, 2, none⟩ = some z ∧ W.cell? ⟨b, 3, none⟩ = some u :=
  ⟨(h 0 (by simp)).1, (h 1 (by simp)).1, (h 2 (by simp)).1, (h 3 (by simp)).1⟩
theorem BoxV.f4 {W : World} {b : Nat} {x y z u : Value} (h : BoxV W b [x, y, z, u]) : W.frozen? ⟨b, 0, none⟩ = false ∧ W.frozen? ⟨b, 1, none⟩ = false ∧ W.frozen? ⟨b, 2, none⟩ = false ∧ W.frozen? ⟨b, 3, none⟩ = false :=
  ⟨(h 0 (by simp)).2, (h 1 (by simp)).2, (h 2 (by simp)).2, (h 3 (by simp)).2⟩

theorem BoxV.at0 {W : World} {b : Nat} {x0 : Value} {vs : List Value} (h : BoxV W b (x0 :: vs)) : W.cell? ⟨b, 0, none⟩ = some x0 := (h 0 (by simp)).1
theorem BoxV.at1 {W : World} {b : Nat} {x0 x1 : Value} {vs : List Value} (h : BoxV W b (x0 :: x1 :: vs)) : W.cell? ⟨b, 1, none⟩ = some x1 := (h 1 (by simp)).1
theorem BoxV.at2 {W : World} {b : Nat} {x0 x1 x2 : Value} {vs : List Value} (h : BoxV W b (x0 :: x1 :: x2 :: vs)) : W.cell? ⟨b, 2, none⟩ = some x2 := (h 2 (by simp)).1
theorem BoxV.at3 {W : World} {b : Nat} {x0 x1 x2 x3 : Value} {vs : List Value} (h : BoxV W b (x0 :: x1 :: x2 :: x3 :: vs)) : W.cell? ⟨b, 3, none⟩ = some x3 := (h 3 (by simp)).1
theorem BoxV.at4 {W : World} {b : Nat} {x0 x1 x2 x3 x4 : Value} {vs : List Value} (h : BoxV W b (x0 :: x1 :: x2 :: x3 :: x4 :: vs)) : W.cell? ⟨b, 4, none⟩ = some x4 := (h 4 (by simp)).1
theorem BoxV.at5 {W : World} {b : Nat} {x0 x1 x2 x3 x4 x5 : Value} {vs : List Value} (h : BoxV W b (x0 :: x1 :: x2 :: x3 :: x4 :: x5 :: vs)) : W.cell? ⟨b, 5, none⟩ = some x5 := (h 5 (by simp)).1
theorem BoxV.at6 {W : World} {b : Nat} {x0 x1 x2 x3 x4 x5 x6 : Value} {vs : List Value} (h : BoxV W b (x0 :: x1 :: x2 :: x3 :: x4 :: x5 :: x6 :: vs)) : W.cell? ⟨b, 6, none⟩ = some x6 := (h 6 (by simp)).1
theorem BoxV.at7 {W : World} {b : Nat} {x0 x1 x2 x3 x4 x5 x6 x7 : Value} {vs : List Value} (h : BoxV W b (x0 :: x1 :: x2 :: x3 :: x4 :: x5 :: x6 :: x7 :: vs)) : W.cell? ⟨b, 7, none⟩ = some x7 := (h 7 (by simp)).1

/-- No 32-bit number. -/
def noU32 : Value → Bool
  | .int .u32 _ => false
  | _ => true
theorem noU32_ne {x : Value} (h : noU32 x = true) (n : Int) : x ≠ .int .u32 n := by
  rintro rfl
  cases h

/-- Stores, one behind the other. -/
def setAll (W : World) (b o : Nat) : List Value → World
  | [] => W
  | y :: ys => setAll (W.setCell ⟨b, o, none⟩ y) b (o + 1) ys

/-- What stores into a block of the call's own leave. -/
structure Stored (W W' : World) (b : Nat) : Prop where
  size : W'.heap.size = W.heap.size
  frozen : ∀ p, W'.frozen? p = W.frozen? p
  other : ∀ p : Addr, p.block ≠ b → W'.cell? p = W.cell? p
  lim : ∀ v l, Lim W v l → Lim W' v l
  below : ∀ w : World, w.heap.size ≤ b → Below w.heap.size w W → Below w.heap.size w W'

theorem Stored.refl (W : World) (b : Nat) : Stored W W b := ⟨rfl, fun _ => rfl, fun _ _ => rfl, fun _ _ h => h, fun _ _ h => h⟩
theorem Stored.trans {W W' W2 : World} {b : Nat} (h : Stored W W' b) (k : Stored W' W2 b) : Stored W W2 b :=
  ⟨k.size.trans h.size, fun p => (k.frozen p).trans (h.frozen p), fun p hp => (k.other p hp).trans (h.other p hp), fun v l hl => k.lim v l (h.lim v l hl), fun w hw hb => k.below w hw (h.below w hw hb)⟩
theorem Stored.one {W : World} {b o : Nat} {x : Value} (hx : W.cell? ⟨b, o, none⟩ = some x) (hn : noU32 x = true) (y : Value) : Stored W (W.setCell ⟨b, o, none⟩ y) b :=
  ⟨by simp, fun p => World.frozen?_setCell .., fun p hp => World.cell?_setCell_far _ _ _ _ (fun e => hp e.symm), fun v l h => h.setOther hx (noU32_ne hn) y, fun w hw hb => hb.setCell (p := ⟨b, o, none⟩) hw y⟩
theorem Stored.box {W W' : World} {b b' : Nat} {vs : List Value} (h : Stored W W' b) (hne : b' ≠ b) (hB : BoxV W b' vs) : BoxV W' b' vs := fun i hi =>
  ⟨(h.other ⟨b', i, none⟩ hne).trans (hB i hi).1, (h.frozen _).trans (hB i hi).2⟩

theorem setAll_spec : ∀ (ys : List Value) {W : World} {b o : Nat}, (∀ i, i < ys.length → ∃ x, W.cell? ⟨b, o + i, none⟩ = some x ∧ noU32 x = true) →
    Stored W (setAll W b o ys) b ∧ (∀ i, i < ys.length → (setAll W b o ys).cell? ⟨b, o + i, none⟩ = ys[i]?) ∧ (∀ j, j < o → (setAll W b o ys).cell? ⟨b, j, none⟩ = W.cell? ⟨b, j, none⟩)
  | [], W, b, o, _ => ⟨Stored.refl _ _, fun i hi => by simp at hi, fun j _ => rfl⟩
  | y :: ys, W, b, o, hc => by
    obtain ⟨x, hx, hn⟩ := hc 0 (by simp)
    have h1 := Stored.one (o := o) (y := y) hx hn
    obtain ⟨k1, k2, k3⟩ := setAll_spec ys (W := W.setCell ⟨b, o, none⟩ y) (b := b) (o := o + 1) (fun i hi => by
      obtain ⟨x', hx', hn'⟩ := hc (i + 1) (by simpa using hi)
      refine ⟨x', ?_, hn'⟩
      rw [World.cell?_setCell_other _ _ _ _ (by simp <;> omega)]
      rw [← hx']
      congr 2
      omega)
    refine ⟨h1.trans k1, fun i hi => ?_, fun j hj => ?_⟩
    · cases i with
      | zero =>
        show (setAll (W.setCell ⟨b, o, none⟩ y) b (o + 1) ys).cell? ⟨b, o, none⟩ = some y
        rw [k3 o (by omega)]
        exact World.cell?_setCell_same _ _ _ hx
      | succ i =>
        have := k2 i (by simpa using hi)
        show (setAll (W.setCell ⟨b, o, none⟩ y) b (o + 1) ys).cell? ⟨b, o + (i + 1), none⟩ = ys[i]?
        rw [← this]
        congr 2
        omega
    · show (setAll (W.setCell ⟨b, o, none⟩ y) b (o + 1) ys).cell? ⟨b, j, none⟩ = _
      rw [k3 j (by omega)]
      exact World.cell?_setCell_other _ _ _ _ (by simp <;> omega)

/-- A whole block is stored. -/
theorem BoxV.store {W : World} {b : Nat} {vs ys : List Value} (h : BoxV W b vs) (hl : ys.length = vs.length) (hn : vs.all noU32 = true) : ∃ W', setAll W b 0 ys = W' ∧ Stored W W' b ∧ BoxV W' b ys := by
  obtain ⟨k1, k2, -⟩ := setAll_spec ys (W := W) (b := b) (o := 0) (fun i hi => by
    have hi' : i < vs.length := by omega
    refine ⟨vs[i], ?_, List.all_eq_true.1 hn _ (List.getElem_mem hi')⟩
    rw [Nat.zero_add, (h i hi').1]
    exact List.getElem?_eq_getElem hi')
  refine ⟨_, rfl, k1, fun i hi => ⟨?_, ?_⟩⟩
  · have := k2 i hi
    rwa [Nat.zero_add] at this
  · rw [k1.frozen]
    exact (h i (by omega)).2

end Go.Proofs.YtgpoljbccimkjaaGreatDoor

namespace Go.Proofs.YtgpoljbccimkjaaGreatDoor
set_option linter.unusedSimpArgs false
set_option linter.unusedVariables false
open Go.RowKit

set_option maxRecDepth 100000
section
variable {W : World} {b o : Nat} {x0 x1 x2 x3 : Value}

theorem run_load2 {s : Bool} {p : Option Addr} {n c o' : Nat} (ho : o + 1 = o') (h0 : W.cell? ⟨b, o, none⟩ = some (.bool s)) (h1 : W.cell? ⟨b, o', none⟩ = some (.slice p n c)) :
    (Instr.loadAt 24 (.pointer (some ⟨b, o, none⟩))).run Tryz.prog W = .ok (.agg #[.bool s, .slice p n c]) W := by
  subst ho
  go_simp
theorem run_load4 {s s' : Bool} {p p' : Option Addr} {n c n' c' o1 o2 o3 : Nat} (e1 : o + 1 = o1) (e2 : o + 2 = o2) (e3 : o + 3 = o3) (h0 : W.cell? ⟨b, o, none⟩ = some (.bool s)) (h1 : W.cell? ⟨b, o1, none⟩ = some (.slice p n c)) (h2 : W.cell? ⟨b, o2, none⟩ = some (.bool s')) (h3 : W.cell? ⟨b, o3, none⟩ = some (.slice p' n' c')) :
    (Instr.loadAt 58 (.pointer (some ⟨b, o, none⟩))).run Tryz.prog W = .ok (.agg #[.bool s, .slice p n c, .bool s', .slice p' n' c']) W := by
  subst e1 e2 e3
  go_simp
theorem run_load22 {s s' : Bool} {p p' : Option Addr} {n c n' c' o1 o2 o3 : Nat} (e1 : o + 1 = o1) (e2 : o + 2 = o2) (e3 : o + 3 = o3) (h0 : W.cell? ⟨b, o, none⟩ = some (.bool s)) (h1 : W.cell? ⟨b, o1, none⟩ = some (.slice p n c)) (h2 : W.cell? ⟨b, o2, none⟩ = some (.bool s')) (h3 : W.cell? ⟨b, o3, none⟩ = some (.slice p' n' c')) :
    (Instr.loadAt 121 (.pointer (some ⟨b, o, none⟩))).run Tryz.prog W = .ok (.agg #[.bool s, .slice p n c, .bool s', .slice p' n' c']) W := by
  subst e1 e2 e3
  go_simp
theorem run_top : (Instr.fieldAt 58 (.pointer (some ⟨b, o, none⟩)) 0).run Tryz.prog W = .ok (.pointer (some ⟨b, o, none⟩)) W := by
  go_simp
theorem run_low : (Instr.fieldAt 58 (.pointer (some ⟨b, o, none⟩)) 1).run Tryz.prog W = .ok (.pointer (some ⟨b, o + 2, none⟩)) W := by
  go_simp
theorem run_frac0 : (Instr.indexAt 214 (.pointer (some ⟨b, o, none⟩)) (.int .i64 0)).run Tryz.prog W = .ok (.pointer (some ⟨b, o, none⟩)) W := by
  go_simp
theorem run_frac1 : (Instr.indexAt 214 (.pointer (some ⟨b, o, none⟩)) (.int .i64 1)).run Tryz.prog W = .ok (.pointer (some ⟨b, o + 4, none⟩)) W := by
  go_simp
theorem run_num0 : (Instr.indexAt 121 (.pointer (some ⟨b, o, none⟩)) (.int .i64 0)).run Tryz.prog W = .ok (.pointer (some ⟨b, o, none⟩)) W := by
  go_simp
theorem run_num1 : (Instr.indexAt 121 (.pointer (some ⟨b, o, none⟩)) (.int .i64 1)).run Tryz.prog W = .ok (.pointer (some ⟨b, o + 2, none⟩)) W := by
  go_simp
theorem run_store2 {s : Bool} {p : Option Addr} {n c : Nat} (h : BoxV W b [x0, x1]) : (Instr.storeAt 24 (.pointer (some ⟨b, 0, none⟩)) (.agg #[.bool s, .slice p n c])).run Tryz.prog W = .ok () (setAll W b 0 [.bool s, .slice p n c]) := by
  obtain ⟨c0, c1, f0, f1⟩ := h.c2
  simp only [setAll]
  go_simp
theorem run_store4 {s s' : Bool} {p p' : Option Addr} {n c n' c' : Nat} (h : BoxV W b [x0, x1, x2, x3]) : (Instr.storeAt 58 (.pointer (some ⟨b, 0, none⟩)) (.agg #[.bool s, .slice p n c, .bool s', .slice p' n' c'])).run Tryz.prog W = .ok () (setAll W b 0 [.bool s, .slice p n c, .bool s', .slice p' n' c']) := by
  obtain ⟨c0, c1, c2, c3⟩ := h.c4
  obtain ⟨f0, f1, f2, f3⟩ := h.f4
  simp only [setAll]
  go_simp
theorem run_store22 {s s' : Bool} {p p' : Option Addr} {n c n' c' : Nat} (h : BoxV W b [x0, x1, x2, x3]) : (Instr.storeAt 121 (.pointer (some ⟨b, 0, none⟩)) (.agg #[.bool s, .slice p n c, .bool s', .slice p' n' c'])).run Tryz.prog W = .ok () (setAll W b 0 [.bool s, .slice p n c, .bool s', .slice p' n' c']) := by
  obtain ⟨c0, c1, c2, c3⟩ := h.c4
  obtain ⟨f0, f1, f2, f3⟩ := h.f4
  simp only [setAll]
  go_simp

end

/-- Numbers' cells of a box that was just made. -/
def nought2 : List Value := [.bool false, .slice none 0 0]
def nought4 : List Value := [.bool false, .slice none 0 0, .bool false, .slice none 0 0]
def nought8 : List Value := [.bool false, .slice none 0 0, .bool false, .slice none 0 0, .bool false, .slice none 0 0, .bool false, .slice none 0 0]

section
variable {W : World}
theorem run_new2 : (Instr.alloc 24 true (.tuple #[])).run Tryz.prog W = .ok (.pointer (some ⟨W.heap.size, 0, none⟩)) (W.alloc (.cells nought2.toArray 24)) := by
  unfold nought2
  go_simp
theorem run_new4 : (Instr.alloc 58 true (.tuple #[])).run Tryz.prog W = .ok (.pointer (some ⟨W.heap.size, 0, none⟩)) (W.alloc (.cells nought4.toArray 58)) := by
  unfold nought4
  go_simp
theorem run_new22 : (Instr.alloc 121 true (.tuple #[])).run Tryz.prog W = .ok (.pointer (some ⟨W.heap.size, 0, none⟩)) (W.alloc (.cells nought4.toArray 121)) := by
  unfold nought4
  go_simp
theorem run_new8 : (Instr.alloc 214 true (.tuple #[])).run Tryz.prog W = .ok (.pointer (some ⟨W.heap.size, 0, none⟩)) (W.alloc (.cells nought8.toArray 214)) := by
  unfold nought8
  go_simp
theorem run_build2 {s s' : Bool} {p p' : Option Addr} {n c n' c' : Nat} : (Instr.build 58 #[(0, .agg #[.bool s, .slice p n c]), (1, .agg #[.bool s', .slice p' n' c'])]).run Tryz.prog W = .ok (.agg #[.bool s, .slice p n c, .bool s', .slice p' n' c']) W := by
  go_simp
theorem run_build22 {s s' : Bool} {p p' : Option Addr} {n c n' c' : Nat} : (Instr.build 121 #[(0, .agg #[.bool s, .slice p n c]), (1, .agg #[.bool s', .slice p' n' c'])]).run Tryz.prog W = .ok (.agg #[.bool s, .slice p n c, .bool s', .slice p' n' c']) W := by
  go_simp
theorem run_build4 {s s' t t' : Bool} {p p' q q' : Option Addr} {n c n' c' m e m' e' : Nat} : (Instr.build 214 #[(0, .agg #[.bool s, .slice p n c, .bool s', .slice p' n' c']), (1, .agg #[.bool t, .slice q m e, .bool t', .slice q' m' e'])]).run Tryz.prog W = .ok (.agg #[.bool s, .slice p n c, .bool s', .slice p' n' c', .bool t, .slice q m e, .bool t', .slice q' m' e']) W := by
  go_simp
theorem run_store8 {b : Nat} {x0 x1 x2 x3 x4 x5 x6 x7 : Value} {s s' t t' : Bool} {p p' q q' : Option Addr} {n c n' c' m e m' e' : Nat} (h : BoxV W b [x0, x1, x2, x3, x4, x5, x6, x7]) : (Instr.storeAt 214 (.pointer (some ⟨b, 0, none⟩)) (.agg #[.bool s, .slice p n c, .bool s', .slice p' n' c', .bool t, .slice q m e, .bool t', .slice q' m' e'])).run Tryz.prog W = .ok () (setAll W b 0 [.bool s, .slice p n c, .bool s', .slice p' n' c', .bool t, .slice q m e, .bool t', .slice q' m' e']) := by
  have c0 := (h 0 (by simp)).1
  have c1 := (h 1 (by simp)).1
  have c2 := (h 2 (by simp)).1
  have c3 := (h 3 (by simp)).1
  have c4 := (h 4 (by simp)).1
  have c5 := (h 5 (by simp)).1
  have c6 := (h 6 (by simp)).1
  have c7 := (h 7 (by simp)).1
  have f0 := (h 0 (by simp)).2
  have f1 := (h 1 (by simp)).2
  have f2 := (h 2 (by simp)).2
  have f3 := (h 3 (by simp)).2
  have f4 := (h 4 (by simp)).2
  have f5 := (h 5 (by simp)).2
  have f6 := (h 6 (by simp)).2
  have f7 := (h 7 (by simp)).2
  simp only [setAll]
  go_simp
end

end Go.Proofs.YtgpoljbccimkjaaGreatDoor
