/- Walks: the product of two, one without the other, the least that has both. -/
import Derived.Test.YtikbjjechhdclaaMMade
namespace Go.Proofs.Ytikbjjechhdclaa
open Go.RowKit

instance (x : M4) : Decidable (OkM x) := by unfold OkM; infer_instance
def fits (x y : M4) : Prop := x.a + y.a ≤ 65535 ∧ x.b + y.b ≤ 65535 ∧ x.c + y.c ≤ 65535 ∧ x.d + y.d ≤ 65535
instance (x y : M4) : Decidable (fits x y) := by unfold fits; infer_instance
/-- y stands in x. -/
def inM (y x : M4) : Prop := y.a ≤ x.a ∧ y.b ≤ x.b ∧ y.c ≤ x.c ∧ y.d ≤ x.d
instance (y x : M4) : Decidable (inM y x) := by unfold inM; infer_instance
def mulM (x y : M4) : M4 := if fits x y then ⟨x.a + y.a, x.b + y.b, x.c + y.c, x.d + y.d⟩ else noM
def divM (x y : M4) : M4 := if inM y x then ⟨x.a - y.a, x.b - y.b, x.c - y.c, x.d - y.d⟩ else noM
def lcmM (x y : M4) : M4 := ⟨max x.a y.a, max x.b y.b, max x.c y.c, max x.d y.d⟩
def errM (x y : M4) : Int := if fits x y then 0 else 3

theorem OkM.no : OkM noM := ⟨by decide, by decide, by decide, by decide⟩
theorem OkM.mul (x y : M4) : OkM (mulM x y) := by
  unfold mulM
  split
  · next h => obtain ⟨h1, h2, h3, h4⟩ := h; exact ⟨by show x.a + y.a < _; omega, by show x.b + y.b < _; omega, by show x.c + y.c < _; omega, by show x.d + y.d < _; omega⟩
  · exact OkM.no
theorem OkM.div {x : M4} (h : OkM x) (y : M4) : OkM (divM x y) := by
  unfold divM
  obtain ⟨h1, h2, h3, h4⟩ := h
  split
  · exact ⟨by show _ - _ < _; omega, by show _ - _ < _; omega, by show _ - _ < _; omega, by show _ - _ < _; omega⟩
  · exact OkM.no
theorem OkM.lcm {x y : M4} (h : OkM x) (h' : OkM y) : OkM (lcmM x y) := by
  obtain ⟨h1, h2, h3, h4⟩ := h
  obtain ⟨g1, g2, g3, g4⟩ := h'
  exact ⟨by show max _ _ < _; omega, by show max _ _ < _; omega, by show max _ _ < _; omega, by show max _ _ < _; omega⟩

theorem made_mul {x y : M4} (hx : OkM x) (hy : OkM y) (w : World) : Calls Try.prog 22 #[mv x, mv y, .func (.func 23) #[] #[]] w fun e w' => e = .returned (.tuple #[mv (mulM x y), .bool (decide (fits x y))]) ∧ Below w.heap.size w w' := by
  refine (made_plus x.a x.b x.c x.d y.a y.b y.c y.d w hx hy).mono ?_
  rintro e w' ⟨⟨v, rfl, h1, h2⟩, hb⟩
  refine ⟨?_, hb⟩
  by_cases h : fits x y
  · rw [h1 h, decide_eq_true h]
    unfold mulM
    rw [if_pos h]
    rfl
  · rw [h2 h, decide_eq_false h]
    unfold mulM
    rw [if_neg h]
    rfl
theorem made_div {x y : M4} (hx : OkM x) (hy : OkM y) (w : World) : Calls Try.prog 22 #[mv x, mv y, .func (.func 24) #[] #[]] w fun e w' => e = .returned (.tuple #[mv (divM x y), .bool (decide (inM y x))]) ∧ Below w.heap.size w w' := by
  refine (made_less x.a x.b x.c x.d y.a y.b y.c y.d w hx hy).mono ?_
  rintro e w' ⟨⟨v, rfl, h1, h2⟩, hb⟩
  refine ⟨?_, hb⟩
  by_cases h : inM y x
  · rw [h1 h, decide_eq_true h]
    unfold divM
    rw [if_pos h]
    rfl
  · rw [h2 h, decide_eq_false h]
    unfold divM
    rw [if_neg h]
    rfl
theorem made_lcm {x y : M4} (hx : OkM x) (hy : OkM y) (w : World) : Calls Try.prog 22 #[mv x, mv y, .func (.func 25) #[] #[]] w fun e w' => e = .returned (.tuple #[mv (lcmM x y), .bool true]) ∧ Below w.heap.size w w' := by
  refine (made_most x.a x.b x.c x.d y.a y.b y.c y.d w hx hy).mono ?_
  rintro e w' ⟨⟨v, rfl, h1, h2⟩, hb⟩
  refine ⟨?_, hb⟩
  rw [h1 ⟨by have := hx.1; omega, by have := hx.2.1; omega, by have := hx.2.2.1; omega, by have := hx.2.2.2; omega⟩]
  rfl

theorem box_new (W : World) (m : M4) {T : TypeId} : ∃ W0, W.alloc (.cells #[.int .u16 m.a, .int .u16 m.b, .int .u16 m.c, .int .u16 m.d] T) = W0 ∧ BoxV W0 W.heap.size (m4 m) ∧ Below W.heap.size W W0 ∧ W0.heap.size = W.heap.size + 1 :=
  ⟨_, rfl, BoxV.new _ (m4 m) _, (Below.refl _ _).alloc (Nat.le_refl _) _, by simp⟩
theorem box_2 (w : World) (x y : M4) : ∃ W0, (w.alloc (.cells #[.int .u16 x.a, .int .u16 x.b, .int .u16 x.c, .int .u16 x.d] 24)).alloc (.cells #[.int .u16 y.a, .int .u16 y.b, .int .u16 y.c, .int .u16 y.d] 24) = W0 ∧
    BoxV W0 w.heap.size (m4 x) ∧ BoxV W0 (w.heap.size + 1) (m4 y) ∧ Below w.heap.size w W0 ∧ W0.heap.size = w.heap.size + 1 + 1 := by
  have n1 := BoxV.new w (m4 x) 24
  have n2 := BoxV.new (w.alloc (.cells (m4 x).toArray 24)) (m4 y) 24
  rw [World.size_alloc] at n2
  exact ⟨_, rfl, n1.below ((Below.refl _ _).alloc (Nat.le_refl _) _), n2, ((Below.refl _ _).alloc (Nat.le_refl _) _).alloc (by simp) _, by simp⟩
theorem box_3 (w : World) (x y : M4) : ∃ W0, ((w.alloc (.cells #[.int .u16 x.a, .int .u16 x.b, .int .u16 x.c, .int .u16 x.d] 24)).alloc (.cells #[.int .u16 y.a, .int .u16 y.b, .int .u16 y.c, .int .u16 y.d] 24)).alloc (.cells #[.int .u16 0, .int .u16 0, .int .u16 0, .int .u16 0] 24) = W0 ∧
    BoxV W0 w.heap.size (m4 x) ∧ BoxV W0 (w.heap.size + 1) (m4 y) ∧ BoxV W0 (w.heap.size + 1 + 1) (m4 noM) ∧ Below w.heap.size w W0 ∧ W0.heap.size = w.heap.size + 1 + 1 + 1 := by
  obtain ⟨W1, e1, n1, n2, b1, s1⟩ := box_2 w x y
  rw [e1]
  have n3 := BoxV.new W1 (m4 noM) 24
  rw [s1] at n3
  exact ⟨_, rfl, n1.below ((Below.refl _ _).alloc (Nat.le_refl _) _), n2.below ((Below.refl _ _).alloc (Nat.le_refl _) _), n3, b1.alloc (by omega) _, by simp [s1]⟩

set_option maxRecDepth 100000 in
set_option maxHeartbeats 1000000 in
theorem Div_any {x y : M4} (hx : OkM x) (hy : OkM y) (w : World) : Calls Try.prog 12 #[mv x, mv y] w fun e w' => e = .returned (.tuple #[mv (divM x y), .bool (decide (inM y x))]) ∧ Below w.heap.size w w' := by
  have HX := Lib.hid hx
  have HY := Lib.hid hy
  clear hx hy
  obtain ⟨W0, e0, n1, n2, n3, hb0, hs0⟩ := box_3 w x y
  have HB0 := Lib.hid hb0
  have N3 := n3.keep
  have c1 := n1.c4
  have c2 := n2.c4
  clear n1 n2 n3 hb0
  unfold mv
  go_enter Try.func12, Try.ntmps12
  go_wp2_with fail
  clear e0
  refine (made_div HX.out HY.out _).mono ?_
  rintro e w1 ⟨rfl, hb⟩
  have n3 := N3.out _ hb
  have c3 := n3.c4
  have f3 := n3.f4
  have N3 := Lib.hid n3
  have HB := Lib.hid (Below.step HB0.out hb)
  unfold mv
  clear n3 hb c1 c2
  go_wp2_with fail
  refine ret_cell2 (t := 4) (u := 5) (r := .bool (decide (inM y x))) rfl rfl rfl rfl (N3.out.four _ _ _ _) ?_
  exact ⟨rfl, below_four HB.out (by omega) _ _ _ _⟩

set_option maxRecDepth 100000 in
set_option maxHeartbeats 1000000 in
theorem Mul_any {x y : M4} (hx : OkM x) (hy : OkM y) (w : World) : Calls Try.prog 11 #[mv x, mv y] w fun e w' => e = .returned (.tuple #[mv (mulM x y), .int .i64 (errM x y)]) ∧ Below w.heap.size w w' := by
  have HX := Lib.hid hx
  have HY := Lib.hid hy
  clear hx hy
  by_cases h : fits x y
  · have e1 : errM x y = 0 := if_pos h
    have e2 : decide (fits x y) = true := decide_eq_true h
    have E2 := Lib.hid e2
    rw [e1]
    clear h e1 e2
    obtain ⟨W0, e0, n1, n2, n3, hb0, hs0⟩ := box_3 w x y
    have HB0 := Lib.hid hb0
    have N3 := n3.keep
    have c1 := n1.c4
    have c2 := n2.c4
    clear n1 n2 n3 hb0
    unfold mv
    go_enter Try.func11, Try.ntmps11
    go_wp2_with fail
    clear e0
    refine (made_mul HX.out HY.out _).mono ?_
    rw [E2.out]
    rintro e w1 ⟨rfl, hb⟩
    obtain ⟨W2, e2, m1, hb2, -⟩ := box_new w1 (mulM x y) (T := 24)
    have hb := Below.step hb hb2
    have n3 := N3.out _ hb
    have c3 := n3.c4
    have f3 := n3.f4
    have c4 := m1.c4
    have N3 := Lib.hid n3
    have HB := Lib.hid (Below.step HB0.out hb)
    unfold mv
    clear hb n3 m1 hb2 c1 c2
    go_wp2_with fail
    refine ret_cell2 (t := 4) (u := 5) (r := .int .i64 0) rfl rfl rfl rfl (N3.out.four _ _ _ _) ?_
    exact ⟨rfl, below_four HB.out (by omega) _ _ _ _⟩
  · have e1 : errM x y = 3 := if_neg h
    have e2 : decide (fits x y) = false := decide_eq_false h
    have E2 := Lib.hid e2
    have e3 : mulM x y = noM := if_neg h
    have HM : Hid (∀ W, Calls Try.prog 22 #[mv x, mv y, .func (.func 23) #[] #[]] W fun e w' => e = .returned (.tuple #[.agg #[.int .u16 0, .int .u16 0, .int .u16 0, .int .u16 0], .bool false]) ∧ Below W.heap.size W w') := by
      intro W
      have h9 := made_mul HX.out HY.out W
      rw [e2, e3] at h9
      exact h9
    have hno : mv noM = .agg #[.int .u16 0, .int .u16 0, .int .u16 0, .int .u16 0] := rfl
    rw [e1, e3, hno]
    clear h e1 e2 e3 E2 hno
    obtain ⟨W0, e0, n1, n2, n3, hb0, hs0⟩ := box_3 w x y
    have HB0 := Lib.hid hb0
    have N3 := n3.keep
    have c1 := n1.c4
    have c2 := n2.c4
    clear n1 n2 n3 hb0
    unfold mv
    go_enter Try.func11, Try.ntmps11
    go_wp2_with fail
    clear e0
    refine (HM.out _).mono ?_
    rintro e w1 ⟨rfl, hb⟩
    have n3 := N3.out _ hb
    have c3 := n3.c4
    have f3 := n3.f4
    have hlt := n3.lt
    have N3 := Lib.hid n3
    have HB := Lib.hid (Below.step HB0.out hb)
    clear hb n3 c1 c2
    go_wp2_with fail
    refine ret_cell2 (t := 4) (u := 5) (r := .int .i64 3) rfl rfl rfl rfl ((N3.out.four _ _ _ _).below ((Below.refl _ _).alloc (Nat.le_refl _) _)) ?_
    exact ⟨rfl, (below_four HB.out (by omega) _ _ _ _).alloc (by simp; omega) _⟩

set_option maxRecDepth 100000 in
set_option maxHeartbeats 400000 in
theorem Lcm_any {x y : M4} (hx : OkM x) (hy : OkM y) (w : World) : Calls Try.prog 15 #[mv x, mv y] w fun e w' => e = .returned (mv (lcmM x y)) ∧ Below w.heap.size w w' := by
  have HX := Lib.hid hx
  have HY := Lib.hid hy
  clear hx hy
  obtain ⟨W0, e0, n1, n2, n3, hb0, hs0⟩ := box_3 w x y
  have HB0 := Lib.hid hb0
  have N3 := n3.keep
  have c1 := n1.c4
  have c2 := n2.c4
  clear n1 n2 n3 hb0
  unfold mv
  go_enter Try.func15, Try.ntmps15
  go_wp2_with fail
  clear e0
  refine (made_lcm HX.out HY.out _).mono ?_
  rintro e w1 ⟨rfl, hb⟩
  obtain ⟨W2, e2, m1, hb2, -⟩ := box_new w1 (lcmM x y) (T := 24)
  have hb := Below.step hb hb2
  have n3 := N3.out _ hb
  have c3 := n3.c4
  have f3 := n3.f4
  have c4 := m1.c4
  have N3 := Lib.hid n3
  have HB := Lib.hid (Below.step HB0.out hb)
  unfold mv
  clear hb n3 m1 hb2 c1 c2
  go_wp2_with fail
  refine ret_cell1 (t := 4) rfl rfl rfl (N3.out.four _ _ _ _) ?_
  exact ⟨rfl, below_four HB.out (by omega) _ _ _ _⟩

end Go.Proofs.Ytikbjjechhdclaa
