/- Walks: a number as one of 64 bits (the end of wip/limbs/XBack, which wip/fracs leaves out). -/
import Derived.Test.YtgpoljbccimkjaaGreatDoorBack
namespace Go.Proofs.YtgpoljbccimkjaaGreatDoor
set_option linter.unusedSimpArgs false
set_option linter.unusedVariables false
open Go.RowKit Go.Shelf

attribute [local go_sem] Oper.semAt_some

/-- What has come when k parts from the top are through. -/
def accL (s : Bool) (l : List Nat) (k : Nat) : Int := sgn s * val (l.drop (l.length - k))
theorem accL_zero (s : Bool) (l : List Nat) : accL s l 0 = 0 := by simp [accL, val]
theorem accL_succ (s : Bool) (l : List Nat) {k : Nat} (h : k < l.length) : accL s l (k + 1) = accL s l k * 1000000000 + sgn s * pt l (idxB l k) := by
  have h1 : l.drop (l.length - (k + 1)) = pt l (idxB l k) :: l.drop (l.length - k) := by
    have h2 : l.length - (k + 1) = idxB l k := by unfold idxB; omega
    have h3 : idxB l k < l.length := idxB_lt k (by omega)
    rw [h2, List.drop_eq_getElem_cons h3, ← pt_getElem h3]
    congr 2
    unfold idxB; omega
  unfold accL
  rw [h1]
  simp only [val]
  rw [Int.natCast_add, Int.natCast_mul]
  cases s <;> simp [sgn] <;> omega
theorem accL_all (s : Bool) (l : List Nat) : accL s l l.length = valS s l := by
  unfold accL; rw [Nat.sub_self, List.drop_zero, sgn_val]
theorem accL_bound (s : Bool) (l : List Nat) (k : Nat) (hk : k ≤ l.length) : (0 ≤ sgn s * accL s l k) ∧ sgn s * accL s l k ≤ val l := by
  have h1 : val (l.drop (l.length - k)) ≤ val l := by
    have := val_split l (l.length - k) (by omega)
    have h2 : 1 * val (l.drop (l.length - k)) ≤ 1000000000 ^ (l.length - k) * val (l.drop (l.length - k)) := Nat.mul_le_mul_right _ (Nat.pow_pos (by decide))
    omega
  unfold accL
  cases s <;> simp [sgn] <;> omega

/-- One part more leaves no 64 bits. -/
theorem accL_wrap {s : Bool} {l : List Nat} {k : Nat} (hk : k < l.length) (ho : ∀ x ∈ l, x < 1000000000) (h1 : -9223372036854775808 ≤ valS s l) (h2 : valS s l ≤ 9223372036854775807) :
    wrap64 (wrap64 (accL s l k * 1000000000) + wrap64 (sgn s * wrap64 (pt l (idxB l k) : Nat))) = accL s l (k + 1) := by
  have hp : pt l (idxB l k) < 1000000000 := pt_lt (by decide) ho _
  have e := accL_succ s l hk
  have b1 := accL_bound s l k (by omega)
  have b2 := accL_bound s l (k + 1) (by omega)
  rw [e] at b2
  have w1 : wrap64 ((pt l (idxB l k) : Nat) : Int) = (pt l (idxB l k) : Nat) := IntWalk.wrap64_in _ ⟨by omega, by omega⟩
  rw [w1, e]
  unfold valS at h1 h2
  cases s
  · simp only [sgn, Bool.false_eq_true, if_false, Int.one_mul] at *
    rw [IntWalk.wrap64_in (accL false l k * 1000000000) ⟨by omega, by omega⟩, IntWalk.wrap64_in ((pt l (idxB l k) : Nat) : Int) ⟨by omega, by omega⟩, IntWalk.wrap64_in _ ⟨by omega, by omega⟩]
  · simp only [sgn, if_true] at *
    rw [IntWalk.wrap64_in (accL true l k * 1000000000) ⟨by omega, by omega⟩, IntWalk.wrap64_in (-1 * ((pt l (idxB l k) : Nat) : Int)) ⟨by omega, by omega⟩, IntWalk.wrap64_in _ ⟨by omega, by omega⟩]

set_option maxRecDepth 100000 in
set_option maxHeartbeats 2000000 in
theorem Back_not (s : Bool) (v : Value) (l : List Nat) (w : World) (h : Lim w v l) (ho : okB s l = false) :
    Calls Tryz.prog 25 #[.agg #[.bool s, v]] w fun e w' => e = .returned (.tuple #[.int .i64 0, .int .i64 1]) ∧ Below w.heap.size w w' := by
  have HL : Hid (∀ W, Below w.heap.size w W → Lim W v l) := fun W hb => h.below hb
  have HO := Lib.hid ho
  obtain ⟨a, c, rfl, -⟩ := h
  clear ho
  go_enter Tryz.func25, Tryz.ntmps25
  go_wp2_with fail
  refine (check_any s _ l _ (HL.out _ (by repeat (first | exact Below.refl _ _ | with_reducible refine Below.drew ?_ | with_reducible refine below_drewN ?_ _ | with_reducible refine Below.setCell ?_ (by first | (simp; done) | (simp; omega) | omega) _ | with_reducible refine Below.alloc ?_ (by first | (simp; done) | (simp; omega) | omega) _)))).mono ?_
  rintro e w1 ⟨rfl, hb⟩
  rw [HO.out]
  go_wp2_with fail
  go_ret2
  exact ⟨rfl, (by repeat (first | exact Below.refl _ _ | with_reducible refine Below.drew ?_ | with_reducible refine below_drewN ?_ _ | with_reducible refine Below.setCell ?_ (by first | (simp; done) | (simp; omega) | omega) _ | with_reducible refine Below.alloc ?_ (by first | (simp; done) | (simp; omega) | omega) _ | (with_reducible refine Below.step ?_ hb)))⟩

set_option maxRecDepth 100000 in
set_option maxHeartbeats 4000000 in
theorem Back_ok (s : Bool) (v : Value) (l : List Nat) (w : World) (h : Lim w v l) (ho : okB s l = true) :
    Calls Tryz.prog 25 #[.agg #[.bool s, v]] w fun e w' => ((valS s l < -9223372036854775808 ∨ 9223372036854775807 < valS s l) → e = .returned (.tuple #[.int .i64 0, .int .i64 3])) ∧
      ((-9223372036854775808 ≤ valS s l ∧ valS s l ≤ 9223372036854775807) → e = .returned (.tuple #[.int .i64 (valS s l), .int .i64 0])) ∧ Below w.heap.size w w' := by
  have HL : Hid (∀ W, Below w.heap.size w W → Lim W v l) := fun W hb => h.below hb
  have HO := Lib.hid ho
  have HNZ := Lib.hid (numZ_ok ho)
  obtain ⟨a, c, rfl, -⟩ := h
  clear ho
  rw [← callsIn_wide (n := 3)]
  refine callsIn_of_wp_marks Tryz.func25 rfl trivial ?_ rfl
  simp only [Tryz.ntmps25, List.size_toArray, List.length_cons, List.length_nil, Nat.reduceAdd, Nat.reduceSub, Array.replicate_succ, Array.replicate_zero, List.push_toArray, List.append_toArray, List.nil_append, List.cons_append]
  rw [wpIn_wide]
  go_wp2_with fail
  obtain ⟨W0, e0, m1, hb0, hz0⟩ := box1 w (.bool s) (.slice a l.length c)
  rw [e0]
  clear e0
  have M1 := Lib.hid m1
  have HB0 := Lib.hid hb0
  clear m1 hb0
  refine (check_any s _ l _ (HL.out _ HB0.out)).mono ?_
  rintro e w1 ⟨rfl, hb⟩
  rw [HO.out]
  have M2 := Lib.hid (M1.out.below hb)
  have HB1 : Hid (Below w.heap.size w w1) := Below.step HB0.out hb
  clear hb
  go_wp2_with fail
  go_cut [20] from 8 (fun s20 wx => s20 = .bool (decide (valS s l < -9223372036854775808 ∨ 9223372036854775807 < valS s l)) ∧ NumBox wx w.heap.size (.bool s) (.slice a l.length c) ∧ Below w.heap.size w wx)
  case first =>
    obtain ⟨c1, c2, -, -⟩ := M2.out
    rcases Int.lt_trichotomy (valS s l) (-9223372036854775808) with h1 | h1 | h1
    · have HCA : Hid (cmpI (numZ s l) (-9223372036854775808) = -1) := cmpI_lt (by rw [HNZ.out]; exact h1)
      have HD : Hid (decide (valS s l < -9223372036854775808 ∨ 9223372036854775807 < valS s l) = true) := decide_eq_true (.inl h1)
      clear h1
      refine wp_region_noPanic ?_
      go_region_with (first | (go_at_call 29; (with_reducible refine (Of_any (-9223372036854775808) _ (by decide) (by decide)).mono ?_); rintro e w2 ⟨⟨sA, lA, vA, rfl, hv1, ho1, hz1⟩, hb10⟩; have hb2 := Below.undrew' hb10; have HVA := Lib.hid hv1.lim; have HZA := Lib.hid ((numZ_ok ho1).trans hz1); have hvl := hv1.lim; clear hv1 ho1 hz1 hb10; obtain ⟨aA, kA, rfl, -⟩ := hvl; obtain ⟨d1, d2, -⟩ := M2.out.below hb2) | (go_at_call 122; (with_reducible refine (Cmp_is (-1) s sA (.slice a l.length c) _ l lA _ (HL.out _ (by repeat (first | exact Below.refl _ _ | with_reducible refine Below.drew ?_ | with_reducible refine below_drewN ?_ _ | with_reducible refine Below.setCell ?_ (by first | (simp; done) | (simp; omega) | omega) _ | with_reducible refine Below.alloc ?_ (by first | (simp; done) | (simp; omega) | omega) _ | (with_reducible refine Below.step ?_ hb2) | (with_reducible refine Below.step ?_ HB1.out)))) HVA.out (by rw [HZA.out]; exact HCA.out)).mono ?_); rintro e w3 ⟨rfl, hb3⟩; obtain ⟨p1, p2, -⟩ := (M2.out.below hb2).below hb3))
      all_goals
        refine NoPanic.normal ?_
        go_wp2_with fail
        go_meet
        exact ⟨by rw [HD.out], ((M2.out.below hb2).below hb3), (by repeat (first | exact Below.refl _ _ | with_reducible refine Below.drew ?_ | with_reducible refine below_drewN ?_ _ | with_reducible refine Below.setCell ?_ (by first | (simp; done) | (simp; omega) | omega) _ | with_reducible refine Below.alloc ?_ (by first | (simp; done) | (simp; omega) | omega) _ | (with_reducible refine Below.step ?_ hb3) | (with_reducible refine Below.step ?_ hb2) | (with_reducible refine Below.step ?_ HB1.out)))⟩
    · have HCA : Hid (cmpI (numZ s l) (-9223372036854775808) = 0) := cmpI_eq (by rw [HNZ.out]; exact h1)
      have HCB : Hid (cmpI (numZ s l) 9223372036854775807 = -1) := cmpI_lt (by rw [HNZ.out]; omega)
      have HD : Hid (decide (valS s l < -9223372036854775808 ∨ 9223372036854775807 < valS s l) = false) := decide_eq_false (by omega)
      clear h1
      go_region_held3 (fun W => W.cell? ⟨w.heap.size, 0, none⟩ = some (.bool s) ∧ W.cell? ⟨w.heap.size, 1, none⟩ = some (.slice a l.length c)) (first | exact ⟨c1, c2⟩ | exact ⟨d1, d2⟩ | exact ⟨p1, p2⟩ | exact ⟨q1, q2⟩ | exact ⟨r1, r2⟩)
        (first | (go_at_call 29; (with_reducible refine (Of_any (-9223372036854775808) _ (by decide) (by decide)).mono ?_); rintro e w2 ⟨⟨sA, lA, vA, rfl, hv1, ho1, hz1⟩, hb10⟩; have hb2 := Below.undrew' hb10; have HVA := Lib.hid hv1.lim; have HZA := Lib.hid ((numZ_ok ho1).trans hz1); have hvl := hv1.lim; clear hv1 ho1 hz1 hb10; obtain ⟨aA, kA, rfl, -⟩ := hvl; obtain ⟨d1, d2, -⟩ := M2.out.below hb2) | (go_at_call 122; (with_reducible refine (Cmp_is (0) s sA (.slice a l.length c) _ l lA _ (HL.out _ (by repeat (first | exact Below.refl _ _ | with_reducible refine Below.drew ?_ | with_reducible refine below_drewN ?_ _ | with_reducible refine Below.setCell ?_ (by first | (simp; done) | (simp; omega) | omega) _ | with_reducible refine Below.alloc ?_ (by first | (simp; done) | (simp; omega) | omega) _ | (with_reducible refine Below.step ?_ hb2) | (with_reducible refine Below.step ?_ HB1.out)))) HVA.out (by rw [HZA.out]; exact HCA.out)).mono ?_); rintro e w3 ⟨rfl, hb3⟩; obtain ⟨p1, p2, -⟩ := (M2.out.below hb2).below hb3) | (go_at_call 29; (with_reducible refine (Of_any 9223372036854775807 _ (by decide) (by decide)).mono ?_); rintro e w4 ⟨⟨sB, lB, vB, rfl, hv1, ho1, hz1⟩, hb10⟩; have hb4 := hb10; have HVB := Lib.hid hv1.lim; have HZB := Lib.hid ((numZ_ok ho1).trans hz1); have hvl := hv1.lim; clear hv1 ho1 hz1 hb10; obtain ⟨aB, kB, rfl, -⟩ := hvl; obtain ⟨q1, q2, -⟩ := ((M2.out.below hb2).below hb3).below hb4) | (go_at_call 122; (with_reducible refine (Cmp_is (-1) s sB (.slice a l.length c) _ l lB _ (HL.out _ (by repeat (first | exact Below.refl _ _ | with_reducible refine Below.drew ?_ | with_reducible refine below_drewN ?_ _ | with_reducible refine Below.setCell ?_ (by first | (simp; done) | (simp; omega) | omega) _ | with_reducible refine Below.alloc ?_ (by first | (simp; done) | (simp; omega) | omega) _ | (with_reducible refine Below.step ?_ hb4) | (with_reducible refine Below.step ?_ hb3) | (with_reducible refine Below.step ?_ hb2) | (with_reducible refine Below.step ?_ HB1.out)))) HVB.out (by rw [HZB.out]; exact HCB.out)).mono ?_); rintro e w5 ⟨rfl, hb5⟩; obtain ⟨r1, r2, -⟩ := (((M2.out.below hb2).below hb3).below hb4).below hb5))
      go_wp2_with fail
      go_meet
      exact ⟨by rw [HD.out], ((((M2.out.below hb2).below hb3).below hb4).below hb5), (by repeat (first | exact Below.refl _ _ | with_reducible refine Below.drew ?_ | with_reducible refine below_drewN ?_ _ | with_reducible refine Below.setCell ?_ (by first | (simp; done) | (simp; omega) | omega) _ | with_reducible refine Below.alloc ?_ (by first | (simp; done) | (simp; omega) | omega) _ | (with_reducible refine Below.step ?_ hb5) | (with_reducible refine Below.step ?_ hb4) | (with_reducible refine Below.step ?_ hb3) | (with_reducible refine Below.step ?_ hb2) | (with_reducible refine Below.step ?_ HB1.out)))⟩
    · rcases Int.lt_trichotomy (valS s l) 9223372036854775807 with h2 | h2 | h2
      · have HCA : Hid (cmpI (numZ s l) (-9223372036854775808) = 1) := cmpI_gt (by rw [HNZ.out]; exact h1)
        have HCB : Hid (cmpI (numZ s l) 9223372036854775807 = -1) := cmpI_lt (by rw [HNZ.out]; omega)
        have HD : Hid (decide (valS s l < -9223372036854775808 ∨ 9223372036854775807 < valS s l) = false) := decide_eq_false (by omega)
        clear h1 h2
        go_region_held3 (fun W => W.cell? ⟨w.heap.size, 0, none⟩ = some (.bool s) ∧ W.cell? ⟨w.heap.size, 1, none⟩ = some (.slice a l.length c)) (first | exact ⟨c1, c2⟩ | exact ⟨d1, d2⟩ | exact ⟨p1, p2⟩ | exact ⟨q1, q2⟩ | exact ⟨r1, r2⟩)
          (first | (go_at_call 29; (with_reducible refine (Of_any (-9223372036854775808) _ (by decide) (by decide)).mono ?_); rintro e w2 ⟨⟨sA, lA, vA, rfl, hv1, ho1, hz1⟩, hb10⟩; have hb2 := Below.undrew' hb10; have HVA := Lib.hid hv1.lim; have HZA := Lib.hid ((numZ_ok ho1).trans hz1); have hvl := hv1.lim; clear hv1 ho1 hz1 hb10; obtain ⟨aA, kA, rfl, -⟩ := hvl; obtain ⟨d1, d2, -⟩ := M2.out.below hb2) | (go_at_call 122; (with_reducible refine (Cmp_is (1) s sA (.slice a l.length c) _ l lA _ (HL.out _ (by repeat (first | exact Below.refl _ _ | with_reducible refine Below.drew ?_ | with_reducible refine below_drewN ?_ _ | with_reducible refine Below.setCell ?_ (by first | (simp; done) | (simp; omega) | omega) _ | with_reducible refine Below.alloc ?_ (by first | (simp; done) | (simp; omega) | omega) _ | (with_reducible refine Below.step ?_ hb2) | (with_reducible refine Below.step ?_ HB1.out)))) HVA.out (by rw [HZA.out]; exact HCA.out)).mono ?_); rintro e w3 ⟨rfl, hb3⟩; obtain ⟨p1, p2, -⟩ := (M2.out.below hb2).below hb3) | (go_at_call 29; (with_reducible refine (Of_any 9223372036854775807 _ (by decide) (by decide)).mono ?_); rintro e w4 ⟨⟨sB, lB, vB, rfl, hv1, ho1, hz1⟩, hb10⟩; have hb4 := hb10; have HVB := Lib.hid hv1.lim; have HZB := Lib.hid ((numZ_ok ho1).trans hz1); have hvl := hv1.lim; clear hv1 ho1 hz1 hb10; obtain ⟨aB, kB, rfl, -⟩ := hvl; obtain ⟨q1, q2, -⟩ := ((M2.out.below hb2).below hb3).below hb4) | (go_at_call 122; (with_reducible refine (Cmp_is (-1) s sB (.slice a l.length c) _ l lB _ (HL.out _ (by repeat (first | exact Below.refl _ _ | with_reducible refine Below.drew ?_ | with_reducible refine below_drewN ?_ _ | with_reducible refine Below.setCell ?_ (by first | (simp; done) | (simp; omega) | omega) _ | with_reducible refine Below.alloc ?_ (by first | (simp; done) | (simp; omega) | omega) _ | (with_reducible refine Below.step ?_ hb4) | (with_reducible refine Below.step ?_ hb3) | (with_reducible refine Below.step ?_ hb2) | (with_reducible refine Below.step ?_ HB1.out)))) HVB.out (by rw [HZB.out]; exact HCB.out)).mono ?_); rintro e w5 ⟨rfl, hb5⟩; obtain ⟨r1, r2, -⟩ := (((M2.out.below hb2).below hb3).below hb4).below hb5))
        go_wp2_with fail
        go_meet
        exact ⟨by rw [HD.out], ((((M2.out.below hb2).below hb3).below hb4).below hb5), (by repeat (first | exact Below.refl _ _ | with_reducible refine Below.drew ?_ | with_reducible refine below_drewN ?_ _ | with_reducible refine Below.setCell ?_ (by first | (simp; done) | (simp; omega) | omega) _ | with_reducible refine Below.alloc ?_ (by first | (simp; done) | (simp; omega) | omega) _ | (with_reducible refine Below.step ?_ hb5) | (with_reducible refine Below.step ?_ hb4) | (with_reducible refine Below.step ?_ hb3) | (with_reducible refine Below.step ?_ hb2) | (with_reducible refine Below.step ?_ HB1.out)))⟩
      · have HCA : Hid (cmpI (numZ s l) (-9223372036854775808) = 1) := cmpI_gt (by rw [HNZ.out]; exact h1)
        have HCB : Hid (cmpI (numZ s l) 9223372036854775807 = 0) := cmpI_eq (by rw [HNZ.out]; omega)
        have HD : Hid (decide (valS s l < -9223372036854775808 ∨ 9223372036854775807 < valS s l) = false) := decide_eq_false (by omega)
        clear h1 h2
        go_region_held3 (fun W => W.cell? ⟨w.heap.size, 0, none⟩ = some (.bool s) ∧ W.cell? ⟨w.heap.size, 1, none⟩ = some (.slice a l.length c)) (first | exact ⟨c1, c2⟩ | exact ⟨d1, d2⟩ | exact ⟨p1, p2⟩ | exact ⟨q1, q2⟩ | exact ⟨r1, r2⟩)
          (first | (go_at_call 29; (with_reducible refine (Of_any (-9223372036854775808) _ (by decide) (by decide)).mono ?_); rintro e w2 ⟨⟨sA, lA, vA, rfl, hv1, ho1, hz1⟩, hb10⟩; have hb2 := Below.undrew' hb10; have HVA := Lib.hid hv1.lim; have HZA := Lib.hid ((numZ_ok ho1).trans hz1); have hvl := hv1.lim; clear hv1 ho1 hz1 hb10; obtain ⟨aA, kA, rfl, -⟩ := hvl; obtain ⟨d1, d2, -⟩ := M2.out.below hb2) | (go_at_call 122; (with_reducible refine (Cmp_is (1) s sA (.slice a l.length c) _ l lA _ (HL.out _ (by repeat (first | exact Below.refl _ _ | with_reducible refine Below.drew ?_ | with_reducible refine below_drewN ?_ _ | with_reducible refine Below.setCell ?_ (by first | (simp; done) | (simp; omega) | omega) _ | with_reducible refine Below.alloc ?_ (by first | (simp; done) | (simp; omega) | omega) _ | (with_reducible refine Below.step ?_ hb2) | (with_reducible refine Below.step ?_ HB1.out)))) HVA.out (by rw [HZA.out]; exact HCA.out)).mono ?_); rintro e w3 ⟨rfl, hb3⟩; obtain ⟨p1, p2, -⟩ := (M2.out.below hb2).below hb3) | (go_at_call 29; (with_reducible refine (Of_any 9223372036854775807 _ (by decide) (by decide)).mono ?_); rintro e w4 ⟨⟨sB, lB, vB, rfl, hv1, ho1, hz1⟩, hb10⟩; have hb4 := hb10; have HVB := Lib.hid hv1.lim; have HZB := Lib.hid ((numZ_ok ho1).trans hz1); have hvl := hv1.lim; clear hv1 ho1 hz1 hb10; obtain ⟨aB, kB, rfl, -⟩ := hvl; obtain ⟨q1, q2, -⟩ := ((M2.out.below hb2).below hb3).below hb4) | (go_at_call 122; (with_reducible refine (Cmp_is (0) s sB (.slice a l.length c) _ l lB _ (HL.out _ (by repeat (first | exact Below.refl _ _ | with_reducible refine Below.drew ?_ | with_reducible refine below_drewN ?_ _ | with_reducible refine Below.setCell ?_ (by first | (simp; done) | (simp; omega) | omega) _ | with_reducible refine Below.alloc ?_ (by first | (simp; done) | (simp; omega) | omega) _ | (with_reducible refine Below.step ?_ hb4) | (with_reducible refine Below.step ?_ hb3) | (with_reducible refine Below.step ?_ hb2) | (with_reducible refine Below.step ?_ HB1.out)))) HVB.out (by rw [HZB.out]; exact HCB.out)).mono ?_); rintro e w5 ⟨rfl, hb5⟩; obtain ⟨r1, r2, -⟩ := (((M2.out.below hb2).below hb3).below hb4).below hb5))
        go_wp2_with fail
        go_meet
        exact ⟨by rw [HD.out], ((((M2.out.below hb2).below hb3).below hb4).below hb5), (by repeat (first | exact Below.refl _ _ | with_reducible refine Below.drew ?_ | with_reducible refine below_drewN ?_ _ | with_reducible refine Below.setCell ?_ (by first | (simp; done) | (simp; omega) | omega) _ | with_reducible refine Below.alloc ?_ (by first | (simp; done) | (simp; omega) | omega) _ | (with_reducible refine Below.step ?_ hb5) | (with_reducible refine Below.step ?_ hb4) | (with_reducible refine Below.step ?_ hb3) | (with_reducible refine Below.step ?_ hb2) | (with_reducible refine Below.step ?_ HB1.out)))⟩
      · have HCA : Hid (cmpI (numZ s l) (-9223372036854775808) = 1) := cmpI_gt (by rw [HNZ.out]; exact h1)
        have HCB : Hid (cmpI (numZ s l) 9223372036854775807 = 1) := cmpI_gt (by rw [HNZ.out]; omega)
        have HD : Hid (decide (valS s l < -9223372036854775808 ∨ 9223372036854775807 < valS s l) = true) := decide_eq_true (.inr h2)
        clear h1 h2
        go_region_held3 (fun W => W.cell? ⟨w.heap.size, 0, none⟩ = some (.bool s) ∧ W.cell? ⟨w.heap.size, 1, none⟩ = some (.slice a l.length c)) (first | exact ⟨c1, c2⟩ | exact ⟨d1, d2⟩ | exact ⟨p1, p2⟩ | exact ⟨q1, q2⟩ | exact ⟨r1, r2⟩)
          (first | (go_at_call 29; (with_reducible refine (Of_any (-9223372036854775808) _ (by decide) (by decide)).mono ?_); rintro e w2 ⟨⟨sA, lA, vA, rfl, hv1, ho1, hz1⟩, hb10⟩; have hb2 := Below.undrew' hb10; have HVA := Lib.hid hv1.lim; have HZA := Lib.hid ((numZ_ok ho1).trans hz1); have hvl := hv1.lim; clear hv1 ho1 hz1 hb10; obtain ⟨aA, kA, rfl, -⟩ := hvl; obtain ⟨d1, d2, -⟩ := M2.out.below hb2) | (go_at_call 122; (with_reducible refine (Cmp_is (1) s sA (.slice a l.length c) _ l lA _ (HL.out _ (by repeat (first | exact Below.refl _ _ | with_reducible refine Below.drew ?_ | with_reducible refine below_drewN ?_ _ | with_reducible refine Below.setCell ?_ (by first | (simp; done) | (simp; omega) | omega) _ | with_reducible refine Below.alloc ?_ (by first | (simp; done) | (simp; omega) | omega) _ | (with_reducible refine Below.step ?_ hb2) | (with_reducible refine Below.step ?_ HB1.out)))) HVA.out (by rw [HZA.out]; exact HCA.out)).mono ?_); rintro e w3 ⟨rfl, hb3⟩; obtain ⟨p1, p2, -⟩ := (M2.out.below hb2).below hb3) | (go_at_call 29; (with_reducible refine (Of_any 9223372036854775807 _ (by decide) (by decide)).mono ?_); rintro e w4 ⟨⟨sB, lB, vB, rfl, hv1, ho1, hz1⟩, hb10⟩; have hb4 := hb10; have HVB := Lib.hid hv1.lim; have HZB := Lib.hid ((numZ_ok ho1).trans hz1); have hvl := hv1.lim; clear hv1 ho1 hz1 hb10; obtain ⟨aB, kB, rfl, -⟩ := hvl; obtain ⟨q1, q2, -⟩ := ((M2.out.below hb2).below hb3).below hb4) | (go_at_call 122; (with_reducible refine (Cmp_is (1) s sB (.slice a l.length c) _ l lB _ (HL.out _ (by repeat (first | exact Below.refl _ _ | with_reducible refine Below.drew ?_ | with_reducible refine below_drewN ?_ _ | with_reducible refine Below.setCell ?_ (by first | (simp; done) | (simp; omega) | omega) _ | with_reducible refine Below.alloc ?_ (by first | (simp; done) | (simp; omega) | omega) _ | (with_reducible refine Below.step ?_ hb4) | (with_reducible refine Below.step ?_ hb3) | (with_reducible refine Below.step ?_ hb2) | (with_reducible refine Below.step ?_ HB1.out)))) HVB.out (by rw [HZB.out]; exact HCB.out)).mono ?_); rintro e w5 ⟨rfl, hb5⟩; obtain ⟨r1, r2, -⟩ := (((M2.out.below hb2).below hb3).below hb4).below hb5))
        go_wp2_with fail
        go_meet
        exact ⟨by rw [HD.out], ((((M2.out.below hb2).below hb3).below hb4).below hb5), (by repeat (first | exact Below.refl _ _ | with_reducible refine Below.drew ?_ | with_reducible refine below_drewN ?_ _ | with_reducible refine Below.setCell ?_ (by first | (simp; done) | (simp; omega) | omega) _ | with_reducible refine Below.alloc ?_ (by first | (simp; done) | (simp; omega) | omega) _ | (with_reducible refine Below.step ?_ hb5) | (with_reducible refine Below.step ?_ hb4) | (with_reducible refine Below.step ?_ hb3) | (with_reducible refine Below.step ?_ hb2) | (with_reducible refine Below.step ?_ HB1.out)))⟩
  case rest =>
    obtain ⟨rfl, M3, HB3⟩ := hcut
    by_cases hbad : valS s l < -9223372036854775808 ∨ 9223372036854775807 < valS s l
    · rw [decide_eq_true hbad]
      have HBAD := Lib.hid hbad
      clear hbad
      go_wp2_with fail
      exact ⟨.tuple #[.int .i64 0, .int .i64 3], by simp [results, Tryz.f25, go_sem], fun _ => rfl, fun h => absurd h (by have := HBAD.out; omega), HB3⟩
    · rw [decide_eq_false hbad]
      have HBAD : Hid (-9223372036854775808 ≤ valS s l ∧ valS s l ≤ 9223372036854775807) := ⟨by omega, by omega⟩
      have HM3 := Lib.hid M3
      have HHB3 := Lib.hid HB3
      obtain ⟨c1, c2, -, -⟩ := M3
      clear hbad HB3
      go_wp2_with fail
      refine (signOf_any s _ l _ (HL.out _ HHB3.out)).mono ?_
      rintro e w3 ⟨rfl, hb3⟩
      have M4 := Lib.hid (HM3.out.below hb3)
      have HB4 := Lib.hid (Below.step HHB3.out hb3)
      clear c1 c2 hb3
      have c2 : ((w3.alloc (Obj.cells #[Value.int .i64 0] 2)).alloc (Obj.cells #[Value.int .i64 (sgn s)] 2)).cell? ⟨w.heap.size, 1, none⟩ = some (.slice a l.length c) := ((M4.out.alloc _).alloc _).2.1
      go_wp2_with fail
      refine (callsIn_wide (n := 2)).1 ((back_in Fence.wide 2 trivial rfl _ _ _ _).mono ?_)
      rintro e w4 ⟨rfl, rfl⟩
      have hz3 := HB4.out.size
      have bN := (CellsAt.new w3 #[Value.int .i64 0] 2).alloc (Obj.cells #[Value.int .i64 (sgn s)] 2) |>.alloc (Obj.cells #[Value.slice a l.length c] 22)
      have bS := (CellsAt.new (w3.alloc (Obj.cells #[Value.int .i64 0] 2)) #[Value.int .i64 (sgn s)] 2).alloc (Obj.cells #[Value.slice a l.length c] 22)
      have bB := CellsAt.new ((w3.alloc (Obj.cells #[Value.int .i64 0] 2)).alloc (Obj.cells #[Value.int .i64 (sgn s)] 2)) #[Value.slice a l.length c] 22
      rw [World.size_alloc] at bS
      rw [World.size_alloc, World.size_alloc] at bB
      have hB5 : Below w3.heap.size w3 (((w3.alloc (Obj.cells #[Value.int .i64 0] 2)).alloc (Obj.cells #[Value.int .i64 (sgn s)] 2)).alloc (Obj.cells #[Value.slice a l.length c] 22)) := (by repeat (first | exact Below.refl _ _ | with_reducible refine Below.drew ?_ | with_reducible refine below_drewN ?_ _ | with_reducible refine Below.setCell ?_ (by first | (simp; done) | (simp; omega) | omega) _ | with_reducible refine Below.alloc ?_ (by first | (simp; done) | (simp; omega) | omega) _))
      have hK : SeqStopsK Fence.wide (3 - 1) Tryz.prog 192 #[.pointer (some ⟨w3.heap.size + 1 + 1, 0, none⟩)] (fun x : Nat => #[Value.int .i64 (idxB l x : Nat), Value.int .u32 (pt l (idxB l x) : Nat)]) (KpB w3.heap.size (w3.heap.size + 1 + 1)) (fun ys => ys = List.range l.length) (fun pre => ∃ k, k ≤ l.length ∧ pre = List.range k) l.length (((w3.alloc (Obj.cells #[Value.int .i64 0] 2)).alloc (Obj.cells #[Value.int .i64 (sgn s)] 2)).alloc (Obj.cells #[Value.slice a l.length c] 22)) :=
        back_stops Fence.wide (3 - 1) trivial rfl (by omega) (w3.heap.size + 1 + 1) w3.heap.size _ l _ (by simp) (by simp; omega) (bB.cell 0) ((HL.out _ HB4.out).limB.below hB5)
      have HK := Lib.hid hK
      have HBN := Lib.hid bN
      have HBS := Lib.hid bS
      have HB5 := Lib.hid hB5
      clear hK bN bS bB hB5 c2
      go_wp2_with fail
      rw [← wpIn_wide (n := 3)]
      refine wpIn_rangeFunc_ownG rfl (by omega) (gf := 192) (lb := #[.pointer (some ⟨w3.heap.size + 1 + 1, 0, none⟩)]) rfl trivial (enters_of Tryz.func192 (by kernel_rfl) rfl)
        HK.out KpB.trans (kpB_b (by simp; omega) (by simp)) (Below.refl _ _) (fun _ => rfl)
        (fun pre W => ((∃ N, W.cell? ⟨w3.heap.size, 0, none⟩ = some (.int .i64 N) ∧ (pre = List.range pre.length → pre.length ≤ l.length → N = accL s l pre.length)) ∧ W.frozen? ⟨w3.heap.size, 0, none⟩ = false ∧ W.cell? ⟨w3.heap.size + 1, 0, none⟩ = some (.int .i64 (sgn s))) ∧ Below w3.heap.size w3 W)
        (fun _ _ _ => False)
        (OwnFrom.and (Go.Own.from (fun s A B row hs hg hr => by obtain ⟨⟨N, h1, h2⟩, h3, h4⟩ := hs; exact ⟨⟨N, cell_kept h1 hg hr, h2⟩, (frozen_kept h1 hg hr).trans h3, cell_kept h4 hg hr⟩) _) (ownFrom_below (Nat.le_refl _) (by simp; omega)))
        (fun _ _ _ _ _ hs _ _ => hs)
        ⟨⟨⟨0, HBN.out.cell 0, fun _ _ => (accL_zero _ _).symm⟩, HBN.out.free 0, HBS.out.cell 0⟩, HB5.out⟩
        (fun x => { tmps := #[Value.agg #[Value.bool s, Value.slice a l.length c], Value.pointer (some ⟨w.heap.size, 0, none⟩), .int .i64 0, .int .i64 0, .pointer (some ⟨w3.heap.size, 0, none⟩), .pointer (some ⟨w3.heap.size + 1, 0, none⟩), undef, .int .u32 (pt l (idxB l x) : Nat), u8, u9, u10, u11, u12, u13, u14, u15, u16, u17, u18, u19, .bool false, .agg #[.bool s, .slice a l.length c], .int .i64 (sgn s), .pointer (some ⟨w.heap.size, 1, none⟩), .slice a l.length c, .func (.func 192) #[] #[.pointer (some ⟨w3.heap.size + 1 + 1, 0, none⟩)], .int .i64 (idxB l x : Nat), .int .u32 (pt l (idxB l x) : Nat), u28, u29, u30, u31, u32, u33, u34, u35], defers := [] }) ?assign ?body ?done ?stop
      case assign =>
        intro l x W K hK
        gi_wp2
        exact hK
      case body =>
        rintro l' pre x W ⟨⟨⟨N, hN, hpre⟩, hf, hsg⟩, hB⟩ hlen
        have HP := Lib.hid hpre
        have HBB := Lib.hid hB
        clear hpre hB
        gi_wp2
        refine ⟨(KeepsOthers.setCell _ _ _).from _, ⟨(Below.refl w3.heap.size W).setCell (p := ⟨w3.heap.size, 0, none⟩) (Nat.le_refl _) _, World.cell?_setCell_far _ _ _ _ (by show w3.heap.size ≠ w3.heap.size + 1 + 1; omega)⟩, ⟨⟨_, World.cell?_setCell_same' _ _ _ (by rw [hN]; rfl), fun hr hle => ?_⟩, by rw [World.frozen?_setCell]; exact hf, (World.cell?_setCell_far _ _ _ _ (by show w3.heap.size ≠ w3.heap.size + 1; omega)).trans hsg⟩, HBB.out.setCell (p := ⟨w3.heap.size, 0, none⟩) (Nat.le_refl _) _⟩
        rw [List.length_append, List.length_singleton] at hr hle ⊢
        rw [List.range_succ] at hr
        obtain ⟨r1, r2⟩ := List.append_inj' hr rfl
        obtain rfl : x = pre.length := by simpa using r2
        rw [HP.out r1 (by omega)]
        exact accL_wrap (by omega) (okB_iff.1 HO.out).1 HBAD.out.1 HBAD.out.2
      case done =>
        rintro D ys W hD rfl ⟨⟨⟨N, hN, hpre⟩, hf, hsg⟩, hB⟩ hK
        have e1 : N = valS s l := by rw [hpre (by simp) (by simp), List.length_range, accL_all]
        have E1 := Lib.hid e1
        have HBB := Lib.hid hB
        clear hpre e1 hB
        go_wp2
        refine ⟨by simp, .inl ⟨_, _, rfl, run_takeDeferred hK, ?_⟩⟩
        refine ⟨.tuple #[.int .i64 N, .int .i64 0], by simp [results, Tryz.f25, go_sem], fun h => absurd h (by have := HBAD.out; omega), fun _ => by rw [E1.out], ?_⟩
        exact Below.step HB4.out (HBB.out.trans (belowK_b (w := w3) (Nat.le_refl _) W D _ _ (by simp at hD; omega) hK rfl rfl))
      case stop =>
        rintro D c pre W hD _ h _
        exact h.elim

end Go.Proofs.YtgpoljbccimkjaaGreatDoor
