/- A list of parts as an argument of its own. -/
import Derived.Test.YtejlhefjphiahaaDoorRow
namespace Go.Proofs.YtejlhefjphiahaaDoor
open Go.ChangeShapes Go.WideShapes Go.ChangeAt Go.RowKit Go.Joins Go.Deep

set_option maxRecDepth 100000 in
theorem open_partsArg {H : Type} {enc : TypeId × Value → H} {W : World} {base : Nat} {v : Value} {d : DataW H} {p : List MemPlace} (hv : Value.okWide Tryd.prog W .any base 22 v) (h : DataW.Trod enc Tryd.prog W 0 (fun _ => true) true 22 v d p) : ∃ l, Lim W v l := by
  obtain ⟨n, h1⟩ := h
  have hsl : Tryd.prog.underlying 22 = some (.slice 46) := by kernel_rfl
  have hc : v.cells.toList = [v] := by
    cases v <;> first | rfl | (exfalso; simp only [Value.okWide, Cell.okWide, Cell.ok, hsl] at hv)
  rw [hc] at h1
  exact open_parts (fun a n c e => by subst e; exact spot_of_slice hv) h1

end Go.Proofs.YtejlhefjphiahaaDoor
