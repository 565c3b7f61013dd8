/- Walks: a number as one of 64 bits. -/
import Derived.Test.YtgpoljbccimkjaaGreatDoorOf
namespace Go.Proofs.YtgpoljbccimkjaaGreatDoor
set_option linter.unusedSimpArgs false
set_option linter.unusedVariables false
open Go.RowKit Go.Shelf

attribute [local go_sem] Oper.semAt_some

theorem numZ_ok {s : Bool} {l : List Nat} (h : okB s l = true) : numZ s l = valS s l := by unfold numZ; rw [if_pos h]

theorem Cmp_is (r : Int) (s s' : Bool) (v v' : Value) (l l' : List Nat) (w : World) (h : Lim w v l) (h' : Lim w v' l') (hr : cmpI (numZ s l) (numZ s' l') = r) :
    Calls Tryz.prog 122 #[.agg #[.bool s, v], .agg #[.bool s', v']] w fun e w' => e = .returned (.int .i64 r) ∧ Below w.heap.size w w' :=
  (Cmp_any s s' v v' l l' w h h').mono fun e w' ⟨h1, h2⟩ => ⟨by rw [h1, hr], h2⟩

end Go.Proofs.YtgpoljbccimkjaaGreatDoor
