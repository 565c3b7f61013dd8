/- Walks: the sign of a number, and 0 less it. -/
import Derived.Test.YtgpoljbccimkjaaGreatDoorMul
namespace Go.Proofs.YtgpoljbccimkjaaGreatDoor
set_option linter.unusedSimpArgs false
set_option linter.unusedVariables false
open Go.RowKit Go.Shelf

theorem numZ_nil : numZ false [] = 0 := rfl

set_option maxHeartbeats 400000 in
theorem Sign_any (s : Bool) (v : Value) (l : List Nat) (w : World) (h : Lim w v l) :
    Calls Tryz.prog 68 #[.agg #[.bool s, v]] w fun e w' => e = .returned (.int .i64 (cmpI (numZ s l) 0)) ∧ Below w.heap.size w w' := by
  have HL : Hid (∀ o, Lim (w.alloc o) v l) := fun o => h.below ((Below.refl _ _).alloc (Nat.le_refl _) _)
  obtain ⟨a, c, rfl, -⟩ := h
  go_enter Tryz.func68, Tryz.ntmps68
  go_wp2_with fail
  refine (Cmp_any s false _ (.slice none 0 0) l [] _ (HL.out _) (Lim.nil _)).mono ?_
  rintro e w1 ⟨rfl, hb⟩
  rw [numZ_nil]
  go_wp2
  go_ret
  exact ⟨rfl, (by repeat (first | exact Below.refl _ _ | with_reducible refine Below.drew ?_ | with_reducible refine below_drewN ?_ _ | with_reducible refine Below.setCell ?_ (by first | (simp; done) | (simp; omega) | omega) _ | with_reducible refine Below.alloc ?_ (by first | (simp; done) | (simp; omega) | omega) _ | (with_reducible refine Below.step ?_ hb)))⟩

set_option maxHeartbeats 1000000 in
theorem Neg_any (s : Bool) (v : Value) (l : List Nat) (w : World) (h : Lim w v l) (n1 : l.length ≤ 1000000) :
    Calls Tryz.prog 198 #[.agg #[.bool s, v]] w fun e w' => NumIs w.heap.size w' e (-numZ s l) ∧ Below w.heap.size w w' := by
  have HL : Hid (∀ W, Below w.heap.size w W → Lim W v l) := fun W hb => h.below hb
  obtain ⟨a, c, rfl, -⟩ := h
  go_enter Tryz.func198, Tryz.ntmps198
  go_wp2_with fail
  obtain ⟨W0, e0, m1, m2, hb0, hz0, hz1⟩ := box2 w (.bool s) (.slice a l.length c) (.bool false) (.slice none 0 0)
  rw [e0]
  clear e0
  have M2 := Lib.hid m2
  have HL1 : Hid (Lim W0 (.slice a l.length c) l) := HL.out _ hb0
  clear m2
  go_wp2_with fail
  refine (Sub_any false s (.slice none 0 0) _ [] l _ (Lim.nil _) HL1.out (by simp) n1).mono ?_
  rintro e w3 ⟨⟨s3, l3, v3, rfl, hv3, ho3, hz3⟩, hb3⟩
  have HV3 := Lib.hid hv3
  have HO3 := Lib.hid ho3
  have HZ3 := Lib.hid hz3
  have hv3l := hv3.lim
  clear hv3 ho3 hz3
  obtain ⟨a3, k3, rfl, -⟩ := hv3l
  obtain ⟨r1, r2, r3, r4⟩ := M2.out.below hb3
  go_wp2
  refine bodyPost_ret (v := .agg #[.bool s3, .slice a3 l3.length k3]) (by simp [results, Tryz.results198, go_sem, r1, r2]) rfl ⟨⟨s3, l3, _, rfl, ?_, HO3.out, ?_⟩, (by repeat (first | exact Below.refl _ _ | with_reducible refine Below.drew ?_ | with_reducible refine below_drewN ?_ _ | with_reducible refine Below.setCell ?_ (by first | (simp; done) | (simp; omega) | omega) _ | with_reducible refine Below.alloc ?_ (by first | (simp; done) | (simp; omega) | omega) _ | (with_reducible refine Below.step ?_ hb3) | (with_reducible refine Below.step ?_ hb0)))⟩
  · exact ((HV3.out.setBox hz1 _ _).setBox hz1 _ _).mono (by omega)
  · rw [HZ3.out, numZ_nil]; omega

end Go.Proofs.YtgpoljbccimkjaaGreatDoor
