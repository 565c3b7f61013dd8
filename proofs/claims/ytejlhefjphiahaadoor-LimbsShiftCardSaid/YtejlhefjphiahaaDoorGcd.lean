/- Walks: the greatest number by which two can be divided. -/
import Derived.Test.YtejlhefjphiahaaDoorCommon
import Derived.Test.YtejlhefjphiahaaDoorNum
namespace Go.Proofs.YtejlhefjphiahaaDoor
open Go.RowKit Go.Shelf

theorem numZ_abs (s : Bool) (l : List Nat) : (numZ s l).natAbs = val (fitL s l) := by rw [← numZ_fit, valS_abs]
theorem gcd_bound {Z Z' : Int} {k k' : Nat} (h : Z.natAbs < 1000000000 ^ k) (h' : Z'.natAbs < 1000000000 ^ k') : (Int.gcd Z Z' : Int).natAbs < 1000000000 ^ max k k' := by
  rw [Int.natAbs_natCast]
  unfold Int.gcd
  rcases Nat.eq_zero_or_pos Z.natAbs with h0 | h0
  · rw [h0, Nat.gcd_zero_left]
    exact Nat.lt_of_lt_of_le h' (pow_up (Nat.le_max_right _ _))
  · exact Nat.lt_of_le_of_lt (Nat.gcd_le_left _ h0) (Nat.lt_of_lt_of_le h (pow_up (Nat.le_max_left _ _)))

theorem field_parts (b : Bool) (a : Option Addr) (n c : Nat) (W : World) : (Instr.field 24 (.agg #[.bool b, .slice a n c]) 1).run Tryd.prog W = .ok (.slice a n c) W := by kernel_rfl

set_option maxRecDepth 100000 in
set_option maxHeartbeats 4000000 in
theorem Gcd_slices (s s' : Bool) (a0 a0' : Option Addr) (c0 c0' : Nat) (l l' : List Nat) (w : World) (h : Lim w (.slice a0 l.length c0) l) (h' : Lim w (.slice a0' l'.length c0') l') (n1' : l.length ≤ 1000000) (n2' : l'.length ≤ 1000000) :
    Calls Tryd.prog 23 #[.agg #[.bool s, .slice a0 l.length c0], .agg #[.bool s', .slice a0' l'.length c0']] w fun e w' => NumIs w.heap.size w' e (Int.gcd (numZ s l) (numZ s' l') : Nat) ∧ Below w.heap.size w w' := by
  obtain ⟨W0, e0, n1, n2, n3, hb0, hz0, hz1, hz2⟩ := box3 w (.bool s) (.slice a0 l.length c0) (.bool s') (.slice a0' l'.length c0') (.bool false) (.slice none 0 0)
  have H : Hid (Lim W0 (.slice a0 l.length c0) l) := h.below hb0
  have H' : Hid (Lim W0 (.slice a0' l'.length c0') l') := h'.below hb0
  have N1 := Lib.hid n1
  have N2 := Lib.hid n2
  have N3 := Lib.hid n3
  have HB0 := Lib.hid hb0
  have hg0 : Int.gcd (numZ s l) (numZ s' l') = Nat.gcd (val (fitL s l)) (val (fitL s' l')) := by unfold Int.gcd; rw [numZ_abs, numZ_abs]
  have HG := Lib.hid hg0
  have HN1 : Hid ((fitL s l).length ≤ 1000000) := Nat.le_trans (fit_length s l) n1'
  have HN2 : Hid ((fitL s' l').length ≤ 1000000) := Nat.le_trans (fit_length s' l') n2'
  obtain ⟨c1, c2, f1, f2⟩ := n1
  obtain ⟨c3, c4, f3, f4⟩ := n2
  clear n3 h h' hb0 hg0
  have hfd := field_parts
  go_enter Tryd.func23, Tryd.ntmps23
  go_wp2_with fail
  go_region_held3 (fun W => W.cell? ⟨w.heap.size, 0, none⟩ = some (.bool s) ∧ W.cell? ⟨w.heap.size, 1, none⟩ = some (.slice a0 l.length c0) ∧ W.cell? ⟨w.heap.size + 1, 0, none⟩ = some (.bool s') ∧ W.cell? ⟨w.heap.size + 1, 1, none⟩ = some (.slice a0' l'.length c0')) (first | exact ⟨c1, c2, c3, c4⟩ | exact ⟨d1, d2, d3, d4⟩ | exact ⟨p1, p2, p3, p4⟩ | exact ⟨q1, q2, q3, q4⟩ | exact ⟨r1, r2, r3, r4⟩ | (refine ⟨?_, ?_, ?_, ?_⟩ <;> (rw [World.cell?_setCell_far, World.cell?_setCell_far]; (first | exact r1 | exact r2 | exact r3 | exact r4); all_goals (simp; try omega))))
    (first
      | (go_at_call 32; (with_reducible refine (orNought_any s (.slice a0 l.length c0) l _ (H.out.below (by repeat (first | exact Below.refl _ _ | with_reducible refine Below.drew ?_ | with_reducible refine below_drewN ?_ _ | with_reducible refine Below.setCell ?_ (by first | (simp; done) | (simp; omega) | omega) _ | with_reducible refine Below.alloc ?_ (by first | (simp; done) | (simp; omega) | omega) _)))).mono ?_); rintro e w1 ⟨v1, rfl, hl1, hb10⟩; have hb1 := Below.undrew' hb10; have K1 := Lib.hid hl1; obtain ⟨a1, k1, rfl, -⟩ := hl1; obtain ⟨d1, d2, -⟩ := N1.out.below hb1; obtain ⟨d3, d4, -⟩ := N2.out.below hb1)
      | (go_at_call 32; (with_reducible refine (orNought_any s' (.slice a0' l'.length c0') l' _ (H'.out.below (by repeat (first | exact Below.refl _ _ | with_reducible refine Below.drew ?_ | with_reducible refine below_drewN ?_ _ | with_reducible refine Below.setCell ?_ (by first | (simp; done) | (simp; omega) | omega) _ | with_reducible refine Below.alloc ?_ (by first | (simp; done) | (simp; omega) | omega) _ | (with_reducible refine Below.step ?_ hb1))))).mono ?_); rintro e w2 ⟨v2, rfl, hl2, hb2⟩; have K2 := Lib.hid hl2; obtain ⟨a2, k2, rfl, -⟩ := hl2; obtain ⟨p1, p2, -⟩ := (N1.out.below hb1).below hb2; obtain ⟨p3, p4, -⟩ := (N2.out.below hb1).below hb2)
      | (go_at_call 40; (with_reducible refine (common_any (.slice a1 (fitL s l).length k1) (.slice a2 (fitL s' l').length k2) (fitL s l) (fitL s' l') _ (K1.out.below (by repeat (first | exact Below.refl _ _ | with_reducible refine Below.drew ?_ | with_reducible refine below_drewN ?_ _ | with_reducible refine Below.setCell ?_ (by first | (simp; done) | (simp; omega) | omega) _ | with_reducible refine Below.alloc ?_ (by first | (simp; done) | (simp; omega) | omega) _ | (with_reducible refine Below.step ?_ hb2)))) (K2.out.below (by repeat (first | exact Below.refl _ _ | with_reducible refine Below.drew ?_ | with_reducible refine below_drewN ?_ _ | with_reducible refine Below.setCell ?_ (by first | (simp; done) | (simp; omega) | omega) _ | with_reducible refine Below.alloc ?_ (by first | (simp; done) | (simp; omega) | omega) _))) (fit_small _ _) (fit_small _ _) (fit_top _ _) (fit_top _ _) HN1.out HN2.out).mono ?_); rintro e w3 ⟨⟨v3, l3, rfl, ho3, hs3, hv3⟩, hb3⟩; have O3 := Lib.hid ho3; have S3 := Lib.hid hs3; have V3 := Lib.hid hv3; have hv3l := ho3.lim; clear ho3 hs3 hv3; obtain ⟨a3, k3, rfl, -⟩ := hv3l; obtain ⟨q1, q2, -⟩ := ((N1.out.below hb1).below hb2).below hb3; obtain ⟨q3, q4, -⟩ := ((N2.out.below hb1).below hb2).below hb3)
      | (go_at_call 35; (with_reducible refine (number_is false (.slice a3 l3.length k3) l3 _ _ O3.out S3.out).mono ?_); rintro e w4 ⟨⟨s4, l4, v4, rfl, ho4, hk4, hz4⟩, hb4⟩; have O4 := Lib.hid ho4; have K4 := Lib.hid hk4; have Z4 := Lib.hid hz4; have hv4l := ho4.lim; clear ho4 hk4 hz4; obtain ⟨a4, k4, rfl, -⟩ := hv4l; obtain ⟨r1, r2, -⟩ := (((N1.out.below hb1).below hb2).below hb3).below hb4; obtain ⟨r3, r4, -⟩ := (((N2.out.below hb1).below hb2).below hb3).below hb4; obtain ⟨g1, g2, g3, g4⟩ := (((N3.out.below hb1).below hb2).below hb3).below hb4))
  go_wp2_with fail
  refine bodyPost_ret (v := .agg #[.bool s4, .slice a4 l4.length k4]) (by simp [results, Tryd.results23, go_sem, g1, g2]) rfl ⟨⟨s4, l4, _, rfl, ?_, K4.out, ?_⟩, (by repeat (first | exact Below.refl _ _ | with_reducible refine Below.drew ?_ | with_reducible refine below_drewN ?_ _ | with_reducible refine Below.setCell ?_ (by first | (simp; done) | (simp; omega) | omega) _ | with_reducible refine Below.alloc ?_ (by first | (simp; done) | (simp; omega) | omega) _ | (with_reducible refine Below.step ?_ hb4) | (with_reducible refine Below.step ?_ hb3) | (with_reducible refine Below.step ?_ hb2) | (with_reducible refine Below.step ?_ hb1) | (with_reducible refine Below.step ?_ HB0.out)))⟩
  · have hs : w.heap.size + 2 < w2.heap.size := ((N3.out.below hb1).below hb2).lt
    exact ((O4.out.setBox hs _ _).setBox hs _ _).mono (by omega)
  · rw [Z4.out, HG.out, V3.out]
    rfl

theorem Gcd_num {w : World} {u u' : Value} {k k' : Nat} {Z Z' : Int} (h : NumAt w u k Z) (h' : NumAt w u' k' Z') (hk : k ≤ 1000000) (hk' : k' ≤ 1000000) :
    Calls Tryd.prog 23 #[u, u'] w fun e w' => AnsAt w' e (max k k') (Int.gcd Z Z' : Nat) ∧ Below w.heap.size w w' := by
  have b1 := h.bound
  have b2 := h'.bound
  obtain ⟨s, v, l, rfl, h2, h3, h4⟩ := h
  obtain ⟨s', v', l', rfl, h2', h3', h4'⟩ := h'
  have h2a := h2
  have h2b := h2'
  obtain ⟨a, c, rfl, -⟩ := h2
  obtain ⟨a', c', rfl, -⟩ := h2'
  refine (Gcd_slices s s' a a' c c' l l' w h2a h2b (by omega) (by omega)).mono ?_
  rintro e w' ⟨h5, h6⟩
  rw [h3, h3'] at h5
  exact ⟨h5.ok (gcd_bound b1 b2), h6⟩

end Go.Proofs.YtejlhefjphiahaaDoor
