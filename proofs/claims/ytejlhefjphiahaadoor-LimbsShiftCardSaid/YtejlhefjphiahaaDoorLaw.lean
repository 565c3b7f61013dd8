/- What the statements share: their ground, and how many parts there are. -/
import Derived.Test.YtejlhefjphiahaaDoorAlive
namespace Go.Proofs.YtejlhefjphiahaaDoor
open Go.RowKit Go.Shelf

theorem great1 {m : Int} {most x b : Nat} {w : World} {a1 : Option Addr} {k1 : Nat} {r : Bool} (hm : m = most) (hm2 : most ≤ 1000000) (hx : x ≤ 9223372036854775807) (c1 : w.cell? ⟨b, 1, none⟩ = some (.slice a1 x k1)) (hr : decide (most < x) = r) :
    Calls Tryd.prog 12 #[.int .i64 m, .slice (some ⟨b, 0, none⟩) 1 1] w fun e w' => e = .returned (.bool r) ∧ w = w' := by
  subst hm
  refine (greatNum_any most b [x] w (by simp) hm2 ?_).mono ?_
  · intro i hi
    have h : i = 0 := by simpa using hi
    subst h
    exact ⟨hx, _, _, c1⟩
  · rintro e w' ⟨rfl, rfl⟩
    refine ⟨?_, rfl⟩
    rw [← hr]
    simp
theorem great2 {m : Int} {most x y b : Nat} {w : World} {a1 a2 : Option Addr} {k1 k2 : Nat} {r : Bool} (hm : m = most) (hm2 : most ≤ 1000000) (hx : x ≤ 9223372036854775807) (hy : y ≤ 9223372036854775807) (c1 : w.cell? ⟨b, 1, none⟩ = some (.slice a1 x k1)) (c2 : w.cell? ⟨b, 3, none⟩ = some (.slice a2 y k2)) (hr : (decide (most < x) || decide (most < y)) = r) :
    Calls Tryd.prog 12 #[.int .i64 m, .slice (some ⟨b, 0, none⟩) 2 2] w fun e w' => e = .returned (.bool r) ∧ w = w' := by
  subst hm
  refine (greatNum_any most b [x, y] w (by simp) hm2 ?_).mono ?_
  · intro i hi
    have h : i = 0 ∨ i = 1 := by simp at hi; omega
    rcases h with rfl | rfl
    · exact ⟨hx, _, _, c1⟩
    · exact ⟨hy, _, _, c2⟩
  · rintro e w' ⟨rfl, rfl⟩
    refine ⟨?_, rfl⟩
    rw [← hr]
    simp
theorem great3 {m : Int} {most x y z b : Nat} {w : World} {a1 a2 a3 : Option Addr} {k1 k2 k3 : Nat} {r : Bool} (hm : m = most) (hm2 : most ≤ 1000000) (hx : x ≤ 9223372036854775807) (hy : y ≤ 9223372036854775807) (hz : z ≤ 9223372036854775807) (c1 : w.cell? ⟨b, 1, none⟩ = some (.slice a1 x k1)) (c2 : w.cell? ⟨b, 3, none⟩ = some (.slice a2 y k2)) (c3 : w.cell? ⟨b, 5, none⟩ = some (.slice a3 z k3)) (hr : (decide (most < x) || (decide (most < y) || decide (most < z))) = r) :
    Calls Tryd.prog 12 #[.int .i64 m, .slice (some ⟨b, 0, none⟩) 3 3] w fun e w' => e = .returned (.bool r) ∧ w = w' := by
  subst hm
  refine (greatNum_any most b [x, y, z] w (by simp) hm2 ?_).mono ?_
  · intro i hi
    have h : i = 0 ∨ i = 1 ∨ i = 2 := by simp at hi; omega
    rcases h with rfl | rfl | rfl
    · exact ⟨hx, _, _, c1⟩
    · exact ⟨hy, _, _, c2⟩
    · exact ⟨hz, _, _, c3⟩
  · rintro e w' ⟨rfl, rfl⟩
    refine ⟨?_, rfl⟩
    rw [← hr]
    simp

theorem Lim.max {w : World} {a : Option Addr} {n c : Nat} {l : List Nat} (h : Lim w (.slice a n c) l) : n ≤ 9223372036854775807 := by
  obtain ⟨a', c', e, h1, h2, -⟩ := h
  injection e with e1 e2 e3
  unfold maxLen at h2
  omega
theorem NumAt.of {w : World} {s : Bool} {v : Value} {l : List Nat} {k : Nat} (h : Lim w v l) (hk : l.length ≤ k) : NumAt w (.agg #[.bool s, v]) k (numZ s l) := ⟨s, v, l, rfl, h, rfl, hk⟩

end Go.Proofs.YtejlhefjphiahaaDoor
