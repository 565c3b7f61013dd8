/- Walks: differences. -/
import Derived.Test.YtgpoljbccimkjaaGreatDoorAdd
namespace Go.Proofs.YtgpoljbccimkjaaGreatDoor
set_option linter.unusedSimpArgs false
set_option linter.unusedVariables false
open Go.RowKit Go.Shelf

theorem sgn_cases' (s : Bool) : -sgn s = 1 ∨ -sgn s = -1 := by cases s <;> simp [sgn]
theorem sgn_bd (s : Bool) : -1 ≤ sgn s ∧ sgn s ≤ 1 := by cases s <;> simp [sgn]
theorem sgn_diff (s s' : Bool) (l l' : List Nat) : sgn s * val l + -sgn s' * val l' = valS s l - valS s' l' := by rw [Int.neg_mul, sgn_val, sgn_val]; omega

set_option maxRecDepth 100000 in
set_option maxHeartbeats 4000000 in
theorem Sub_slices (s s' : Bool) (a0 a0' : Option Addr) (c0 c0' : Nat) (l l' : List Nat) (w : World) (h : Lim w (.slice a0 l.length c0) l) (h' : Lim w (.slice a0' l'.length c0') l') (n1' : l.length ≤ 1000000) (n2' : l'.length ≤ 1000000) :
    Calls Tryz.prog 72 #[.agg #[.bool s, .slice a0 l.length c0], .agg #[.bool s', .slice a0' l'.length c0']] w fun e w' => NumIs w.heap.size w' e (numZ s l - numZ s' l') ∧ Below w.heap.size w w' := by
  have H := Lib.hid h
  have H' := Lib.hid h'
  clear h h'
  go_enter Tryz.func72, Tryz.ntmps72
  go_wp2_with fail
  go_cut [2, 3] (fun s2 s3 wx => s2 = .pointer (some ⟨w.heap.size, 0, none⟩) ∧ s3 = .pointer (some ⟨w.heap.size + 1, 0, none⟩) ∧ Fitted w w.heap.size (w.heap.size + 1) s s' l l' wx ∧ NumBox wx (w.heap.size + 2) (.bool false) (.slice none 0 0))
  case first =>
    obtain ⟨W0, e0, n1, n2, n3, hb0, hz0, hz1, hz2⟩ := box3 w (.bool s) (.slice a0 l.length c0) (.bool s') (.slice a0' l'.length c0') (.bool false) (.slice none 0 0)
    rw [e0]
    clear e0
    have HL : Hid (Lim W0 (.slice a0 l.length c0) l) := H.out.below hb0
    have HL' : Hid (Lim W0 (.slice a0' l'.length c0') l') := H'.out.below hb0
    have N1 := Lib.hid n1
    have N2 := Lib.hid n2
    have N3 := Lib.hid n3
    obtain ⟨c1, c2, f1, f2⟩ := n1
    obtain ⟨c3, c4, f3, f4⟩ := n2
    clear n3
    go_region_with (first | (go_at_call 76; (with_reducible refine (orNought_any s (.slice a0 l.length c0) l _ (HL.out.below (by repeat (first | exact Below.refl _ _ | with_reducible refine Below.drew ?_ | with_reducible refine below_drewN ?_ _ | with_reducible refine Below.setCell ?_ (by first | (simp; done) | (simp; omega) | omega) _ | with_reducible refine Below.alloc ?_ (by first | (simp; done) | (simp; omega) | omega) _)))).mono ?_); rintro e w1 ⟨v1, rfl, hl1, hb10⟩; have hb1 := Below.undrew' hb10; have K1 := Lib.hid hl1; obtain ⟨a1, k1, rfl, -⟩ := hl1; obtain ⟨d1, d2, g1, g2⟩ := N1.out.below hb1; obtain ⟨d3, d4, g3, g4⟩ := N2.out.below hb1) | (go_at_call 76; (with_reducible refine (orNought_any s' (.slice a0' l'.length c0') l' _ (HL'.out.below (by repeat (first | exact Below.refl _ _ | with_reducible refine Below.drew ?_ | with_reducible refine below_drewN ?_ _ | with_reducible refine Below.setCell ?_ (by first | (simp; done) | (simp; omega) | omega) _ | with_reducible refine Below.alloc ?_ (by first | (simp; done) | (simp; omega) | omega) _ | (with_reducible refine Below.step ?_ hb1))))).mono ?_); rintro e w2 ⟨v2, rfl, hl2, hb2⟩; have K2 := Lib.hid hl2; obtain ⟨a2, k2, rfl, -⟩ := hl2; obtain ⟨d1, d2, g1, g2⟩ := (N1.out.below hb1).below hb2; obtain ⟨d3, d4, g3, g4⟩ := (N2.out.below hb1).below hb2))
    all_goals
      go_wp2_with fail
      go_meet
      obtain ⟨W', e, q1, q2, q3, q4, q5, q6⟩ := two_stored (t := fitS s l) (t' := fitS s' l') (Below.step (Below.step hb0 hb1) hb2) (Nat.le_refl _) (Nat.le_succ _) (by simp) ((N1.out.below hb1).below hb2) ((N2.out.below hb1).below hb2) (K1.out.below hb2) K2.out
      exact ⟨rfl, rfl, by rw [e]; exact ⟨q1, _, _, q2, q3, q4, q5⟩, by rw [e]; exact q6 _ _ _ (by simp) (by simp) ((N3.out.below hb1).below hb2)⟩
  case rest =>
    obtain ⟨rfl, rfl, hF, n3⟩ := hcut
    obtain ⟨hB, v, v', n1, n2, hl1, hl2⟩ := hF
    have HL1 := Lib.hid hl1
    have HL2 := Lib.hid hl2
    obtain ⟨a1, k1, rfl, -⟩ := hl1
    obtain ⟨a2, k2, rfl, -⟩ := hl2
    have N1 := Lib.hid n1
    have N2 := Lib.hid n2
    have N3 := Lib.hid n3
    have HN1 : Hid ((fitL s l).length ≤ 1000000) := Nat.le_trans (fit_length s l) n1'
    have HN2 : Hid ((fitL s' l').length ≤ 1000000) := Nat.le_trans (fit_length s' l') n2'
    obtain ⟨c1, c2, f1, f2⟩ := n1
    obtain ⟨c3, c4, f3, f4⟩ := n2
    clear n3
    have hsg1 := (sgn_bd (fitS s' l')).1
    have hsg2 := (sgn_bd (fitS s' l')).2
    have hwr : IntKind.i64.wrap (-sgn (fitS s' l')) = -sgn (fitS s' l') := IntWalk.i64_in _ (by omega)
    clear hsg1 hsg2
    go_wp2_with fail
    go_region_held3 (fun W => W.cell? ⟨w.heap.size, 0, none⟩ = some (.bool (fitS s l)) ∧ W.cell? ⟨w.heap.size, 1, none⟩ = some (.slice a1 (fitL s l).length k1) ∧ W.cell? ⟨w.heap.size + 1, 0, none⟩ = some (.bool (fitS s' l')) ∧ W.cell? ⟨w.heap.size + 1, 1, none⟩ = some (.slice a2 (fitL s' l').length k2)) (first | exact ⟨c1, c2, c3, c4⟩ | exact ⟨d1, d2, d3, d4⟩ | exact ⟨p1, p2, p3, p4⟩ | exact ⟨q1, q2, q3, q4⟩ | (refine ⟨?_, ?_, ?_, ?_⟩ <;> (rw [World.cell?_setCell_far, World.cell?_setCell_far]; (first | exact q1 | exact q2 | exact q3 | exact q4); all_goals (simp; try omega))))
      (first
        | (go_at_call 73; (with_reducible refine (signOf_any (fitS s l) (.slice a1 (fitL s l).length k1) (fitL s l) _ (HL1.out.below (by repeat (first | exact Below.refl _ _ | with_reducible refine Below.drew ?_ | with_reducible refine below_drewN ?_ _ | with_reducible refine Below.setCell ?_ (by first | (simp; done) | (simp; omega) | omega) _ | with_reducible refine Below.alloc ?_ (by first | (simp; done) | (simp; omega) | omega) _)))).mono ?_); rintro e w1 ⟨rfl, hb10⟩; have hb1 := Below.undrew' hb10; obtain ⟨d1, d2, -⟩ := N1.out.below hb1; obtain ⟨d3, d4, -⟩ := N2.out.below hb1)
        | (go_at_call 73; (with_reducible refine (signOf_any (fitS s' l') (.slice a2 (fitL s' l').length k2) (fitL s' l') _ (HL2.out.below (by repeat (first | exact Below.refl _ _ | with_reducible refine Below.drew ?_ | with_reducible refine below_drewN ?_ _ | with_reducible refine Below.setCell ?_ (by first | (simp; done) | (simp; omega) | omega) _ | with_reducible refine Below.alloc ?_ (by first | (simp; done) | (simp; omega) | omega) _ | (with_reducible refine Below.step ?_ hb1))))).mono ?_); rintro e w2 ⟨rfl, hb2⟩; obtain ⟨p1, p2, -⟩ := (N1.out.below hb1).below hb2; obtain ⟨p3, p4, -⟩ := (N2.out.below hb1).below hb2)
        | (go_at_call 74; (with_reducible refine (signedSum_any (.slice a1 (fitL s l).length k1) (.slice a2 (fitL s' l').length k2) (fitL s l) (fitL s' l') (sgn (fitS s l)) (-sgn (fitS s' l')) _ (HL1.out.below (by repeat (first | exact Below.refl _ _ | with_reducible refine Below.drew ?_ | with_reducible refine below_drewN ?_ _ | with_reducible refine Below.setCell ?_ (by first | (simp; done) | (simp; omega) | omega) _ | with_reducible refine Below.alloc ?_ (by first | (simp; done) | (simp; omega) | omega) _ | (with_reducible refine Below.step ?_ hb1) | (with_reducible refine Below.step ?_ hb2)))) (HL2.out.below (by repeat (first | exact Below.refl _ _ | with_reducible refine Below.drew ?_ | with_reducible refine below_drewN ?_ _ | with_reducible refine Below.setCell ?_ (by first | (simp; done) | (simp; omega) | omega) _ | with_reducible refine Below.alloc ?_ (by first | (simp; done) | (simp; omega) | omega) _ | (with_reducible refine Below.step ?_ hb1) | (with_reducible refine Below.step ?_ hb2)))) (fit_small _ _) (fit_small _ _) HN1.out HN2.out (sgn_cases _) (sgn_cases' _)).mono ?_); rintro e w3 ⟨⟨s3, l3, v3, rfl, hv3, ho3, hz3⟩, hb3⟩; have HV3 := Lib.hid hv3; have HO3 := Lib.hid ho3; have HZ3 := Lib.hid hz3; have hv3l := hv3.lim; clear hv3 ho3 hz3; obtain ⟨a3, k3, rfl, -⟩ := hv3l; obtain ⟨q1, q2, -⟩ := ((N1.out.below hb1).below hb2).below hb3; obtain ⟨q3, q4, -⟩ := ((N2.out.below hb1).below hb2).below hb3; obtain ⟨r1, r2, r3, r4⟩ := ((N3.out.below hb1).below hb2).below hb3))
    go_wp2_with fail
    refine bodyPost_ret (v := .agg #[.bool s3, .slice a3 l3.length k3]) (by simp [results, Tryz.results72, go_sem, r1, r2]) rfl ⟨⟨s3, l3, _, rfl, ?_, HO3.out, ?_⟩, (by repeat (first | exact Below.refl _ _ | with_reducible refine Below.drew ?_ | with_reducible refine below_drewN ?_ _ | with_reducible refine Below.setCell ?_ (by first | (simp; done) | (simp; omega) | omega) _ | with_reducible refine Below.alloc ?_ (by first | (simp; done) | (simp; omega) | omega) _ | (with_reducible refine Below.step ?_ hb3) | (with_reducible refine Below.step ?_ hb2) | (with_reducible refine Below.step ?_ hb1) | (with_reducible refine Below.step ?_ hB)))⟩
    · have hs : w.heap.size + 2 < w2.heap.size := ((N3.out.below hb1).below hb2).lt
      exact ((HV3.out.setBox hs _ _).setBox hs _ _).mono (by omega)
    · rw [HZ3.out, ← numZ_fit, ← numZ_fit]
      exact sgn_diff _ _ _ _

theorem Sub_any (s s' : Bool) (v v' : Value) (l l' : List Nat) (w : World) (h : Lim w v l) (h' : Lim w v' l') (n1 : l.length ≤ 1000000) (n2 : l'.length ≤ 1000000) :
    Calls Tryz.prog 72 #[.agg #[.bool s, v], .agg #[.bool s', v']] w fun e w' => NumIs w.heap.size w' e (numZ s l - numZ s' l') ∧ Below w.heap.size w w' := by
  have h1 := h
  have h1' := h'
  obtain ⟨a, c, rfl, _⟩ := h
  obtain ⟨a', c', rfl, _⟩ := h'
  exact Sub_slices s s' a a' c c' l l' w h1 h1' n1 n2

end Go.Proofs.YtgpoljbccimkjaaGreatDoor
