/- Fractions as values: what a struct of two numbers reads as. -/
import Derived.Test.YtgpoljbccimkjaaGreatDoorCommon
import Derived.Test.YtgpoljbccimkjaaGreatDoorNum
import Derived.Test.YtgpoljbccimkjaaGreatDoorNearMath
namespace Go.Proofs.YtgpoljbccimkjaaGreatDoor
set_option linter.unusedSimpArgs false
set_option linter.unusedVariables false
open Go.RowKit Go.Shelf

theorem numZ_abs (s : Bool) (l : List Nat) : (numZ s l).natAbs = val (fitL s l) := by rw [← numZ_fit, valS_abs]
theorem gcd_bound {Z Z' : Int} {k k' : Nat} (h : Z.natAbs < 1000000000 ^ k) (h' : Z'.natAbs < 1000000000 ^ k') : (Int.gcd Z Z' : Int).natAbs < 1000000000 ^ max k k' := by
  rw [Int.natAbs_natCast]
  unfold Int.gcd
  rcases Nat.eq_zero_or_pos Z.natAbs with h0 | h0
  · rw [h0, Nat.gcd_zero_left]
    exact Nat.lt_of_lt_of_le h' (pow_up (Nat.le_max_right _ _))
  · exact Nat.lt_of_le_of_lt (Nat.gcd_le_left _ h0) (Nat.lt_of_lt_of_le h (pow_up (Nat.le_max_left _ _)))

theorem field_parts (b : Bool) (a : Option Addr) (n c : Nat) (W : World) : (Instr.field 24 (.agg #[.bool b, .slice a n c]) 1).run Tryz.prog W = .ok (.slice a n c) W := by kernel_rfl

set_option maxRecDepth 100000 in
set_option maxHeartbeats 4000000 in
theorem Gcd_slices (s s' : Bool) (a0 a0' : Option Addr) (c0 c0' : Nat) (l l' : List Nat) (w : World) (h : Lim w (.slice a0 l.length c0) l) (h' : Lim w (.slice a0' l'.length c0') l') (n1' : l.length ≤ 1000000) (n2' : l'.length ≤ 1000000) :
    Calls Tryz.prog 17 #[.agg #[.bool s, .slice a0 l.length c0], .agg #[.bool s', .slice a0' l'.length c0']] w fun e w' => NumIs w.heap.size w' e (Int.gcd (numZ s l) (numZ s' l') : Nat) ∧ Below w.heap.size w w' := by
  obtain ⟨W0, e0, n1, n2, n3, hb0, hz0, hz1, hz2⟩ := box3 w (.bool s) (.slice a0 l.length c0) (.bool s') (.slice a0' l'.length c0') (.bool false) (.slice none 0 0)
  have H : Hid (Lim W0 (.slice a0 l.length c0) l) := h.below hb0
  have H' : Hid (Lim W0 (.slice a0' l'.length c0') l') := h'.below hb0
  have N1 := Lib.hid n1
  have N2 := Lib.hid n2
  have N3 := Lib.hid n3
  have HB0 := Lib.hid hb0
  have hg0 : Int.gcd (numZ s l) (numZ s' l') = Nat.gcd (val (fitL s l)) (val (fitL s' l')) := by unfold Int.gcd; rw [numZ_abs, numZ_abs]
  have HG := Lib.hid hg0
  have HN1 : Hid ((fitL s l).length ≤ 1000000) := Nat.le_trans (fit_length s l) n1'
  have HN2 : Hid ((fitL s' l').length ≤ 1000000) := Nat.le_trans (fit_length s' l') n2'
  obtain ⟨c1, c2, f1, f2⟩ := n1
  obtain ⟨c3, c4, f3, f4⟩ := n2
  clear n3 h h' hb0 hg0
  have hfd := field_parts
  go_enter Tryz.func17, Tryz.ntmps17
  go_wp2_with fail
  go_region_held3 (fun W => W.cell? ⟨w.heap.size, 0, none⟩ = some (.bool s) ∧ W.cell? ⟨w.heap.size, 1, none⟩ = some (.slice a0 l.length c0) ∧ W.cell? ⟨w.heap.size + 1, 0, none⟩ = some (.bool s') ∧ W.cell? ⟨w.heap.size + 1, 1, none⟩ = some (.slice a0' l'.length c0')) (first | exact ⟨c1, c2, c3, c4⟩ | exact ⟨d1, d2, d3, d4⟩ | exact ⟨p1, p2, p3, p4⟩ | exact ⟨q1, q2, q3, q4⟩ | exact ⟨r1, r2, r3, r4⟩ | (refine ⟨?_, ?_, ?_, ?_⟩ <;> (rw [World.cell?_setCell_far, World.cell?_setCell_far]; (first | exact r1 | exact r2 | exact r3 | exact r4); all_goals (simp; try omega))))
    (first
      | (go_at_call 76; (with_reducible refine (orNought_any s (.slice a0 l.length c0) l _ (H.out.below (by repeat (first | exact Below.refl _ _ | with_reducible refine Below.drew ?_ | with_reducible refine below_drewN ?_ _ | with_reducible refine Below.setCell ?_ (by first | (simp; done) | (simp; omega) | omega) _ | with_reducible refine Below.alloc ?_ (by first | (simp; done) | (simp; omega) | omega) _)))).mono ?_); rintro e w1 ⟨v1, rfl, hl1, hb10⟩; have hb1 := Below.undrew' hb10; have K1 := Lib.hid hl1; obtain ⟨a1, k1, rfl, -⟩ := hl1; obtain ⟨d1, d2, -⟩ := N1.out.below hb1; obtain ⟨d3, d4, -⟩ := N2.out.below hb1)
      | (go_at_call 76; (with_reducible refine (orNought_any s' (.slice a0' l'.length c0') l' _ (H'.out.below (by repeat (first | exact Below.refl _ _ | with_reducible refine Below.drew ?_ | with_reducible refine below_drewN ?_ _ | with_reducible refine Below.setCell ?_ (by first | (simp; done) | (simp; omega) | omega) _ | with_reducible refine Below.alloc ?_ (by first | (simp; done) | (simp; omega) | omega) _ | (with_reducible refine Below.step ?_ hb1))))).mono ?_); rintro e w2 ⟨v2, rfl, hl2, hb2⟩; have K2 := Lib.hid hl2; obtain ⟨a2, k2, rfl, -⟩ := hl2; obtain ⟨p1, p2, -⟩ := (N1.out.below hb1).below hb2; obtain ⟨p3, p4, -⟩ := (N2.out.below hb1).below hb2)
      | (go_at_call 75; (with_reducible refine (common_any (.slice a1 (fitL s l).length k1) (.slice a2 (fitL s' l').length k2) (fitL s l) (fitL s' l') _ (K1.out.below (by repeat (first | exact Below.refl _ _ | with_reducible refine Below.drew ?_ | with_reducible refine below_drewN ?_ _ | with_reducible refine Below.setCell ?_ (by first | (simp; done) | (simp; omega) | omega) _ | with_reducible refine Below.alloc ?_ (by first | (simp; done) | (simp; omega) | omega) _ | (with_reducible refine Below.step ?_ hb2)))) (K2.out.below (by repeat (first | exact Below.refl _ _ | with_reducible refine Below.drew ?_ | with_reducible refine below_drewN ?_ _ | with_reducible refine Below.setCell ?_ (by first | (simp; done) | (simp; omega) | omega) _ | with_reducible refine Below.alloc ?_ (by first | (simp; done) | (simp; omega) | omega) _))) (fit_small _ _) (fit_small _ _) (fit_top _ _) (fit_top _ _) HN1.out HN2.out).mono ?_); rintro e w3 ⟨⟨v3, l3, rfl, ho3, hs3, hv3⟩, hb3⟩; have O3 := Lib.hid ho3; have S3 := Lib.hid hs3; have V3 := Lib.hid hv3; have hv3l := ho3.lim; clear ho3 hs3 hv3; obtain ⟨a3, k3, rfl, -⟩ := hv3l; obtain ⟨q1, q2, -⟩ := ((N1.out.below hb1).below hb2).below hb3; obtain ⟨q3, q4, -⟩ := ((N2.out.below hb1).below hb2).below hb3)
      | (go_at_call 71; (with_reducible refine (number_is false (.slice a3 l3.length k3) l3 _ _ O3.out S3.out).mono ?_); rintro e w4 ⟨⟨s4, l4, v4, rfl, ho4, hk4, hz4⟩, hb4⟩; have O4 := Lib.hid ho4; have K4 := Lib.hid hk4; have Z4 := Lib.hid hz4; have hv4l := ho4.lim; clear ho4 hk4 hz4; obtain ⟨a4, k4, rfl, -⟩ := hv4l; obtain ⟨r1, r2, -⟩ := (((N1.out.below hb1).below hb2).below hb3).below hb4; obtain ⟨r3, r4, -⟩ := (((N2.out.below hb1).below hb2).below hb3).below hb4; obtain ⟨g1, g2, g3, g4⟩ := (((N3.out.below hb1).below hb2).below hb3).below hb4))
  go_wp2_with fail
  refine bodyPost_ret (v := .agg #[.bool s4, .slice a4 l4.length k4]) (by simp [results, Tryz.results17, go_sem, g1, g2]) rfl ⟨⟨s4, l4, _, rfl, ?_, K4.out, ?_⟩, (by repeat (first | exact Below.refl _ _ | with_reducible refine Below.drew ?_ | with_reducible refine below_drewN ?_ _ | with_reducible refine Below.setCell ?_ (by first | (simp; done) | (simp; omega) | omega) _ | with_reducible refine Below.alloc ?_ (by first | (simp; done) | (simp; omega) | omega) _ | (with_reducible refine Below.step ?_ hb4) | (with_reducible refine Below.step ?_ hb3) | (with_reducible refine Below.step ?_ hb2) | (with_reducible refine Below.step ?_ hb1) | (with_reducible refine Below.step ?_ HB0.out)))⟩
  · have hs : w.heap.size + 2 < w2.heap.size := ((N3.out.below hb1).below hb2).lt
    exact ((O4.out.setBox hs _ _).setBox hs _ _).mono (by omega)
  · rw [Z4.out, HG.out, V3.out]
    rfl

theorem Gcd_num {w : World} {u u' : Value} {k k' : Nat} {Z Z' : Int} (h : NumAt w u k Z) (h' : NumAt w u' k' Z') (hk : k ≤ 1000000) (hk' : k' ≤ 1000000) :
    Calls Tryz.prog 17 #[u, u'] w fun e w' => AnsAt w' e (max k k') (Int.gcd Z Z' : Nat) ∧ Below w.heap.size w w' := by
  have b1 := h.bound
  have b2 := h'.bound
  obtain ⟨s, v, l, rfl, h2, h3, h4⟩ := h
  obtain ⟨s', v', l', rfl, h2', h3', h4'⟩ := h'
  have h2a := h2
  have h2b := h2'
  obtain ⟨a, c, rfl, -⟩ := h2
  obtain ⟨a', c', rfl, -⟩ := h2'
  refine (Gcd_slices s s' a a' c c' l l' w h2a h2b (by omega) (by omega)).mono ?_
  rintro e w' ⟨h5, h6⟩
  rw [h3, h3'] at h5
  exact ⟨h5.ok (gcd_bound b1 b2), h6⟩

end Go.Proofs.YtgpoljbccimkjaaGreatDoor

namespace Go.Proofs.YtgpoljbccimkjaaGreatDoor
set_option linter.unusedSimpArgs false
set_option linter.unusedVariables false
open Go.RowKit Go.Shelf

/-- A fraction may be. -/
def okF (s : Bool) (l : List Nat) (s' : Bool) (l' : List Nat) : Bool := okB s l && okB s' l' && decide (0 < valS s' l') && decide (Int.gcd (valS s l) (valS s' l') = 1)
/-- What a fraction is to the calls: 0, if it may not be. -/
def ratZ (s : Bool) (l : List Nat) (s' : Bool) (l' : List Nat) : Rat := if okF s l s' l' then Rat.divInt (valS s l) (valS s' l') else 0

/-- A fraction in memory, whether it may be or not; k parts at most. -/
def FrAt (w : World) (u : Value) (k : Nat) (q : Rat) : Prop := ∃ s v l s' v' l', u = .agg #[.bool s, v, .bool s', v'] ∧ Lim w v l ∧ Lim w v' l' ∧ ratZ s l s' l' = q ∧ l.length ≤ k ∧ l'.length ≤ k
/-- A fraction in memory that may be. -/
def FrOk (w : World) (u : Value) (k : Nat) (q : Rat) : Prop := ∃ s v l s' v' l', u = .agg #[.bool s, v, .bool s', v'] ∧ Lim w v l ∧ Lim w v' l' ∧ okB s l = true ∧ okB s' l' = true ∧ valS s l = q.num ∧ valS s' l' = (q.den : Int) ∧ l.length ≤ k ∧ l'.length ≤ k

theorem okF_of {s s' : Bool} {l l' : List Nat} {q : Rat} (h1 : okB s l = true) (h2 : okB s' l' = true) (h3 : valS s l = q.num) (h4 : valS s' l' = (q.den : Int)) : okF s l s' l' = true ∧ ratZ s l s' l' = q := by
  have e : okF s l s' l' = true := by
    unfold okF
    rw [h1, h2, h3, h4, rat_reduced q]
    have := rat_den_pos q
    simp only [Bool.true_and, Bool.and_eq_true, decide_eq_true_eq]
    exact ⟨this, trivial⟩
  refine ⟨e, ?_⟩
  unfold ratZ
  rw [if_pos e, h3, h4, Rat.num_divInt_den]
theorem okF_spec {s s' : Bool} {l l' : List Nat} (h : okF s l s' l' = true) : okB s l = true ∧ okB s' l' = true ∧ valS s l = (ratZ s l s' l').num ∧ valS s' l' = ((ratZ s l s' l').den : Int) := by
  have h' := h
  unfold okF at h
  simp only [Bool.and_eq_true, decide_eq_true_eq] at h
  obtain ⟨⟨⟨h1, h2⟩, h3⟩, h4⟩ := h
  obtain ⟨r1, r2⟩ := rat_ends h3 h4
  unfold ratZ
  rw [if_pos h']
  exact ⟨h1, h2, r1.symm, r2.symm⟩
theorem ratZ_not {s s' : Bool} {l l' : List Nat} (h : okF s l s' l' = false) : ratZ s l s' l' = 0 := by
  unfold ratZ
  rw [if_neg (by simp [h])]

theorem FrOk.at {w : World} {u : Value} {k : Nat} {q : Rat} (h : FrOk w u k q) : FrAt w u k q := by
  obtain ⟨s, v, l, s', v', l', h1, h2, h3, h4, h5, h6, h7, h8, h9⟩ := h
  exact ⟨s, v, l, s', v', l', h1, h2, h3, (okF_of h4 h5 h6 h7).2, h8, h9⟩
theorem FrAt.below {w w' : World} {u : Value} {k : Nat} {q : Rat} (h : FrAt w u k q) (hb : Below w.heap.size w w') : FrAt w' u k q := by
  obtain ⟨s, v, l, s', v', l', h1, h2, h3, h4⟩ := h
  exact ⟨s, v, l, s', v', l', h1, h2.below hb, h3.below hb, h4⟩
theorem FrOk.below {w w' : World} {u : Value} {k : Nat} {q : Rat} (h : FrOk w u k q) (hb : Below w.heap.size w w') : FrOk w' u k q := by
  obtain ⟨s, v, l, s', v', l', h1, h2, h3, h4⟩ := h
  exact ⟨s, v, l, s', v', l', h1, h2.below hb, h3.below hb, h4⟩
theorem FrAt.keep {w : World} {u : Value} {k : Nat} {q : Rat} (h : FrAt w u k q) : Hid (∀ W, Below w.heap.size w W → FrAt W u k q) := fun _ hb => h.below hb
theorem FrOk.keep {w : World} {u : Value} {k : Nat} {q : Rat} (h : FrOk w u k q) : Hid (∀ W, Below w.heap.size w W → FrOk W u k q) := fun _ hb => h.below hb
theorem FrOk.up {w : World} {u : Value} {k k' : Nat} {q : Rat} (h : FrOk w u k q) (hk : k ≤ k') : FrOk w u k' q := by
  obtain ⟨s, v, l, s', v', l', h1, h2, h3, h4, h5, h6, h7, h8, h9⟩ := h
  exact ⟨s, v, l, s', v', l', h1, h2, h3, h4, h5, h6, h7, Nat.le_trans h8 hk, Nat.le_trans h9 hk⟩
/-- Both numbers, as they lie. -/
theorem FrOk.split {w : World} {u : Value} {k : Nat} {q : Rat} (h : FrOk w u k q) : ∃ s a n c s' a' n' c', u = .agg #[.bool s, .slice a n c, .bool s', .slice a' n' c'] ∧ OkAt w (.agg #[.bool s, .slice a n c]) k q.num ∧ OkAt w (.agg #[.bool s', .slice a' n' c']) k (q.den : Int) := by
  obtain ⟨s, v, l, s', v', l', h1, h2, h3, h4, h5, h6, h7, h8, h9⟩ := h
  have g2 := h2
  have g3 := h3
  obtain ⟨a, c, rfl, -⟩ := h2
  obtain ⟨a', c', rfl, -⟩ := h3
  exact ⟨s, a, _, c, s', a', _, c', h1, ⟨s, _, l, rfl, g2, h4, h6, h8⟩, ⟨s', _, l', rfl, g3, h5, h7, h9⟩⟩
theorem FrOk.join {w : World} {s s' : Bool} {v v' : Value} {k : Nat} {P Q : Int} {q : Rat} (h : OkAt w (.agg #[.bool s, v]) k P) (h' : OkAt w (.agg #[.bool s', v']) k Q) (hP : P = q.num) (hQ : Q = (q.den : Int)) : FrOk w (.agg #[.bool s, v, .bool s', v']) k q := by
  obtain ⟨s1, v1, l1, e1, h1, h2, h3, h4⟩ := h
  obtain ⟨s2, v2, l2, e2, g1, g2, g3, g4⟩ := h'
  simp only [Value.agg.injEq, Array.mk.injEq, List.cons.injEq, Value.bool.injEq, and_true] at e1 e2
  obtain ⟨rfl, rfl⟩ := e1
  obtain ⟨rfl, rfl⟩ := e2
  exact ⟨s, v, l1, s', v', l2, rfl, h1, g1, h2, g2, h3.trans hP, g3.trans hQ, h4, g4⟩
/-- How great both numbers are. -/
def RatLt (q : Rat) (k : Nat) : Prop := q.num.natAbs < 1000000000 ^ k ∧ q.den < 1000000000 ^ k
theorem FrOk.bound {w : World} {u : Value} {k : Nat} {q : Rat} (h : FrOk w u k q) : RatLt q k := by
  obtain ⟨s, a, n, c, s', a', n', c', -, h1, h2⟩ := h.split
  have b1 := h1.num.bound
  have b2 := h2.num.bound
  rw [Int.natAbs_natCast] at b2
  exact ⟨b1, b2⟩
theorem OkAt.fit {w : World} {u : Value} {k k' : Nat} {Z : Int} (h : OkAt w u k Z) (hb : Z.natAbs < 1000000000 ^ k') : OkAt w u k' Z := by
  obtain ⟨s, v, l, h1, h2, h3, h4, h5⟩ := h
  exact ⟨s, v, l, h1, h2, h3, h4, len_of_valS h3 (by rw [h4]; exact hb)⟩
theorem FrOk.fit {w : World} {u : Value} {k k' : Nat} {q : Rat} (h : FrOk w u k q) (hb : RatLt q k') : FrOk w u k' q := by
  obtain ⟨s, a, n, c, s', a', n', c', rfl, h1, h2⟩ := h.split
  exact FrOk.join (h1.fit hb.1) (h2.fit (by rw [Int.natAbs_natCast]; exact hb.2)) rfl rfl
theorem RatLt.up {q : Rat} {k k' : Nat} (h : RatLt q k) (hk : k ≤ k') : RatLt q k' := ⟨Nat.lt_of_lt_of_le h.1 (pow_up hk), Nat.lt_of_lt_of_le h.2 (pow_up hk)⟩
theorem RatLt.zero {k : Nat} (hk : 1 ≤ k) : RatLt 0 k := RatLt.up (k := 1) ⟨by decide, by decide⟩ hk

theorem ratLt_divInt {P Q : Int} {k : Nat} (h1 : P.natAbs < 1000000000 ^ k) (h2 : Q.natAbs < 1000000000 ^ k) (hQ : Q ≠ 0) : RatLt (Rat.divInt P Q) k := by
  obtain ⟨e1, e2, d1, d2, hg⟩ := rat_lowest (P := P) (Q := Q) hQ rfl
  refine ⟨?_, ?_⟩
  · rw [← e1]
    refine Nat.lt_of_le_of_lt ?_ h1
    obtain ⟨m, hm⟩ := d1
    generalize (if Q < 0 then -((Int.gcd P Q : Nat) : Int) else ((Int.gcd P Q : Nat) : Int)) = g at *
    subst hm
    rw [Int.mul_ediv_cancel_left _ hg, Int.natAbs_mul]
    exact Nat.le_mul_of_pos_left _ (by omega)
  · have h3 : ((Rat.divInt P Q).den : Int).natAbs < 1000000000 ^ k := by
      rw [← e2]
      refine Nat.lt_of_le_of_lt ?_ h2
      obtain ⟨m, hm⟩ := d2
      generalize (if Q < 0 then -((Int.gcd P Q : Nat) : Int) else ((Int.gcd P Q : Nat) : Int)) = g at *
      subst hm
      rw [Int.mul_ediv_cancel_left _ hg, Int.natAbs_mul]
      exact Nat.le_mul_of_pos_left _ (by omega)
    rwa [Int.natAbs_natCast] at h3
theorem RatLt.mul {p q : Rat} {k k' : Nat} (h : RatLt p k) (h' : RatLt q k') : RatLt (p * q) (k + k') := by
  have e : p * q = Rat.divInt (p.num * q.num) ((p.den : Int) * q.den) := by
    rw [← Rat.divInt_mul_divInt, Rat.num_divInt_den, Rat.num_divInt_den]
  rw [e]
  refine ratLt_divInt ?_ ?_ ?_
  · exact bound_mul h.1 h'.1
  · exact bound_mul (by rw [Int.natAbs_natCast]; exact h.2) (by rw [Int.natAbs_natCast]; exact h'.2)
  · have := Int.mul_pos (rat_den_pos p) (rat_den_pos q)
    omega
theorem RatLt.add {p q : Rat} {k k' : Nat} (h : RatLt p k) (h' : RatLt q k') : RatLt (p + q) (k + k' + 1) := by
  have p1 := rat_den_pos p
  have p2 := rat_den_pos q
  have e : p + q = Rat.divInt (p.num * q.den + q.num * p.den) ((p.den : Int) * q.den) := by
    conv => lhs; rw [← Rat.num_divInt_den p, ← Rat.num_divInt_den q]
    rw [Rat.divInt_add_divInt _ _ (by omega) (by omega)]
  rw [e]
  have b1 := bound_mul (x := p.num) (y := q.den) (a := k) (b := k') h.1 (by rw [Int.natAbs_natCast]; exact h'.2)
  have b2 := bound_mul (x := q.num) (y := p.den) (a := k') (b := k) h'.1 (by rw [Int.natAbs_natCast]; exact h.2)
  have b3 := bound_add b1 b2
  refine ratLt_divInt ?_ ?_ ?_
  · exact Nat.lt_of_lt_of_le b3 (pow_up (by omega))
  · exact Nat.lt_of_lt_of_le (bound_mul (x := p.den) (y := q.den) (a := k) (b := k') (by rw [Int.natAbs_natCast]; exact h.2) (by rw [Int.natAbs_natCast]; exact h'.2)) (pow_up (by omega))
  · have := Int.mul_pos p1 p2
    omega
theorem RatLt.neg {p : Rat} {k : Nat} (h : RatLt p k) : RatLt (-p) k := by
  unfold RatLt
  rw [Rat.neg_num, Rat.neg_den, Int.natAbs_neg]
  exact h
theorem RatLt.sub {p q : Rat} {k k' : Nat} (h : RatLt p k) (h' : RatLt q k') : RatLt (p - q) (k + k' + 1) := by
  rw [Rat.sub_eq_add_neg]
  exact h.add h'.neg

/-- What a call answers: a fraction that may be. -/
def FrAns (w' : World) (e : Ending) (k : Nat) (q : Rat) : Prop := ∃ u, e = .returned u ∧ FrOk w' u k q

end Go.Proofs.YtgpoljbccimkjaaGreatDoor
