/- Products of letters: their values; small calls: comparisons, and what makes a count of two. -/
import Derived.Test.YtikbjjechhdclaaProg
import Derived.WalkKit
import Derived.WalkSpells
import Derived.WalkLawsBesides
import Derived.Deep.QuietTactic
import Derived.BigQuiet
import Derived.LoopN
import Derived.Lib.Hide
import Derived.KernelRfl
namespace Go.Proofs.Ytikbjjechhdclaa
open Go.RowKit

/-- How often each letter stands in a product. -/
structure M4 where
  a : Nat
  b : Nat
  c : Nat
  d : Nat

def mv (m : M4) : Value := .agg #[.int .u16 m.a, .int .u16 m.b, .int .u16 m.c, .int .u16 m.d]
def OkM (m : M4) : Prop := m.a < 65536 ∧ m.b < 65536 ∧ m.c < 65536 ∧ m.d < 65536
def noM : M4 := ⟨0, 0, 0, 0⟩

theorem M4.ext' {x y : M4} (h1 : x.a = y.a) (h2 : x.b = y.b) (h3 : x.c = y.c) (h4 : x.d = y.d) : x = y := by
  cases x; cases y; simp_all

/-- Below 0, 0, above 0. -/
def sgn (z : Int) : Int := if z < 0 then -1 else if z = 0 then 0 else 1
theorem sgn_neg {z : Int} (h : z < 0) : sgn z = -1 := by unfold sgn; rw [if_pos h]
theorem sgn_zero : sgn 0 = 0 := rfl
theorem sgn_pos {z : Int} (h : 0 < z) : sgn z = 1 := by unfold sgn; rw [if_neg (by omega), if_neg (by omega)]

theorem isNaN_int (a : Int) (w : World) : Calls Try.prog 36 #[.int .i64 a] w fun e w' => e = .returned (.bool false) ∧ w = w' := by
  go_enter Try.func36, Try.ntmps36
  go_wp2
  go_ret
  exact ⟨by simp, rfl⟩
theorem isNaN_u16 (a : Int) (w : World) : Calls Try.prog 35 #[.int .u16 a] w fun e w' => e = .returned (.bool false) ∧ w = w' := by
  go_enter Try.func35, Try.ntmps35
  go_wp2
  go_ret
  exact ⟨by simp, rfl⟩

set_option maxHeartbeats 400000 in
theorem compare_int (a b : Int) (w : World) : Calls Try.prog 34 #[.int .i64 a, .int .i64 b] w fun e w' => e = .returned (.int .i64 (sgn (a - b))) ∧ w = w' := by
  rcases Int.lt_trichotomy a b with h | h | h
  · rw [sgn_neg (by omega)]
    go_enter Try.func34, Try.ntmps34
    go_wp2_with (first | (go_at_call 36; refine (isNaN_int _ _).mono ?_; rintro e w' ⟨rfl, rfl⟩))
    go_ret
    exact ⟨rfl, rfl⟩
  · subst h
    rw [Int.sub_self, sgn_zero]
    go_enter Try.func34, Try.ntmps34
    go_wp2_with (first | (go_at_call 36; refine (isNaN_int _ _).mono ?_; rintro e w' ⟨rfl, rfl⟩))
    go_ret
    exact ⟨rfl, rfl⟩
  · rw [sgn_pos (by omega)]
    go_enter Try.func34, Try.ntmps34
    go_wp2_with (first | (go_at_call 36; refine (isNaN_int _ _).mono ?_; rintro e w' ⟨rfl, rfl⟩))
    go_ret
    exact ⟨rfl, rfl⟩

set_option maxHeartbeats 400000 in
theorem compare_u16 (a b : Int) (w : World) : Calls Try.prog 33 #[.int .u16 a, .int .u16 b] w fun e w' => e = .returned (.int .i64 (sgn (a - b))) ∧ w = w' := by
  rcases Int.lt_trichotomy a b with h | h | h
  · rw [sgn_neg (by omega)]
    go_enter Try.func33, Try.ntmps33
    go_wp2_with (first | (go_at_call 35; refine (isNaN_u16 _ _).mono ?_; rintro e w' ⟨rfl, rfl⟩))
    go_ret
    exact ⟨rfl, rfl⟩
  · subst h
    rw [Int.sub_self, sgn_zero]
    go_enter Try.func33, Try.ntmps33
    go_wp2_with (first | (go_at_call 35; refine (isNaN_u16 _ _).mono ?_; rintro e w' ⟨rfl, rfl⟩))
    go_ret
    exact ⟨rfl, rfl⟩
  · rw [sgn_pos (by omega)]
    go_enter Try.func33, Try.ntmps33
    go_wp2_with (first | (go_at_call 35; refine (isNaN_u16 _ _).mono ?_; rintro e w' ⟨rfl, rfl⟩))
    go_ret
    exact ⟨rfl, rfl⟩

theorem plus_any (a b : Nat) (w : World) (h : a < 65536) (h' : b < 65536) : Calls Try.prog 23 #[.int .i64 a, .int .i64 b] w fun e w' => e = .returned (.int .i64 ((a + b : Nat) : Int)) ∧ w = w' := by
  have hi := IntWalk.i64_in ((a : Int) + b) (by omega)
  go_enter Try.func23, Try.ntmps23
  go_wp2
  go_ret
  exact ⟨by simp, rfl⟩
theorem less_any (a b : Nat) (w : World) (h : a < 65536) (h' : b < 65536) : Calls Try.prog 24 #[.int .i64 a, .int .i64 b] w fun e w' => e = .returned (.int .i64 ((a : Int) - b)) ∧ w = w' := by
  have hi := IntWalk.i64_in ((a : Int) - b) (by omega)
  go_enter Try.func24, Try.ntmps24
  go_wp2
  go_ret
  exact ⟨by simp, rfl⟩
theorem most_any (a b : Nat) (w : World) : Calls Try.prog 25 #[.int .i64 a, .int .i64 b] w fun e w' => e = .returned (.int .i64 ((max a b : Nat) : Int)) ∧ w = w' := by
  go_enter Try.func25, Try.ntmps25
  go_wp2
  all_goals
    go_ret
    exact ⟨by simp; omega, rfl⟩

end Go.Proofs.Ytikbjjechhdclaa
