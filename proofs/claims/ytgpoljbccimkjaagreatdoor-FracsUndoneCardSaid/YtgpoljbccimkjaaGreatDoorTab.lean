/- The library's table, as the rows list it; a decimal numeral. -/
import Derived.Test.YtgpoljbccimkjaaGreatDoorRows
import Derived.Test.YtgpoljbccimkjaaGreatDoorShelf
import Derived.Test.YtgpoljbccimkjaaGreatDoorBuild
namespace Go.Proofs.YtgpoljbccimkjaaGreatDoor
set_option linter.unusedSimpArgs false
set_option linter.unusedVariables false
open Go.RowKit Go.Shelf

/-- The table of powers is as the rows say: the third variable that they list. -/
def Tab (w : World) : Prop := Lib.TabIs Tryz.prog w ((Rows.limbsDivsRow.laid[2]?.map (fun p => p.1)).getD default) .u64 Lib.pow10Tab

theorem Tab.below {w W : World} (h : Tab w) (hb : Below w.heap.size w W) : Tab W := by
  unfold Tab Lib.TabIs at *
  generalize ((Rows.limbsDivsRow.laid[2]?.map (fun p => p.1)).getD default) = n at *
  unfold World.var? at h
  cases hg : Tryz.prog.globalNamed n with
  | none => rw [hg] at h; simp at h
  | some g =>
    have h2 := h
    rw [hg] at h2
    have hlt : g < w.heap.size := by
      rcases Nat.lt_or_ge g w.heap.size with h3 | h3
      · exact h3
      · simp [Array.getElem?_eq_none h3] at h2
    refine var?_below hb hg hlt ?_
    unfold World.var?
    exact h

theorem Itoa_any (n : Nat) (h1 : n ≤ 9223372036854775807) (w : World) (htab : Tab w) :
    Calls Tryz.prog 131 #[.int .i64 n] w fun e w' => e = .returned (.string ⟨(Lib.decDigits n).toArray⟩) ∧ Below w.heap.size w w' := by
  refine (Any.strconv_Itoa Tryz.laysM171 n (by omega) (by omega) w htab).mono ?_
  rintro e w' ⟨rfl, k, os, rfl⟩
  refine ⟨by rw [Lib.itoa_nonneg], rfl, rfl, rfl, ?_, fun i hi => ?_⟩
  · show w.heap.size ≤ (w.heap ++ os).size
    simp
  · show (w.heap ++ os)[i]? = w.heap[i]?
    exact Array.getElem?_append_left hi

end Go.Proofs.YtgpoljbccimkjaaGreatDoor
