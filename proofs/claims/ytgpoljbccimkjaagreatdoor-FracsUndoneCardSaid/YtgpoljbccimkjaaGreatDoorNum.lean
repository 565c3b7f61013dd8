/- Numbers as values: what a struct reads as, and the calls by that. -/
import Derived.Test.YtgpoljbccimkjaaGreatDoorDiv
import Derived.Test.YtgpoljbccimkjaaGreatDoorMul
import Derived.Test.YtgpoljbccimkjaaGreatDoorNeg
import Derived.Test.YtgpoljbccimkjaaGreatDoorSame
import Derived.Test.YtgpoljbccimkjaaGreatDoorBack
namespace Go.Proofs.YtgpoljbccimkjaaGreatDoor
set_option linter.unusedSimpArgs false
set_option linter.unusedVariables false
open Go.RowKit Go.Shelf

/-- A number in memory, whether it may be or not; k parts at most. -/
def NumAt (w : World) (u : Value) (k : Nat) (Z : Int) : Prop := ∃ s v l, u = .agg #[.bool s, v] ∧ Lim w v l ∧ numZ s l = Z ∧ l.length ≤ k
/-- A number in memory that may be. -/
def OkAt (w : World) (u : Value) (k : Nat) (Z : Int) : Prop := ∃ s v l, u = .agg #[.bool s, v] ∧ Lim w v l ∧ okB s l = true ∧ valS s l = Z ∧ l.length ≤ k

theorem OkAt.num {w : World} {u : Value} {k : Nat} {Z : Int} (h : OkAt w u k Z) : NumAt w u k Z := by
  obtain ⟨s, v, l, h1, h2, h3, h4, h5⟩ := h
  exact ⟨s, v, l, h1, h2, by rw [numZ_ok h3]; exact h4, h5⟩
theorem NumAt.below {w w' : World} {u : Value} {k : Nat} {Z : Int} (h : NumAt w u k Z) (hb : Below w.heap.size w w') : NumAt w' u k Z := by
  obtain ⟨s, v, l, h1, h2, h3, h4⟩ := h
  exact ⟨s, v, l, h1, h2.below hb, h3, h4⟩
theorem OkAt.below {w w' : World} {u : Value} {k : Nat} {Z : Int} (h : OkAt w u k Z) (hb : Below w.heap.size w w') : OkAt w' u k Z := by
  obtain ⟨s, v, l, h1, h2, h3, h4, h5⟩ := h
  exact ⟨s, v, l, h1, h2.below hb, h3, h4, h5⟩
theorem NumAt.keep {w : World} {u : Value} {k : Nat} {Z : Int} (h : NumAt w u k Z) : Hid (∀ W, Below w.heap.size w W → NumAt W u k Z) := fun _ hb => h.below hb
theorem OkAt.keep {w : World} {u : Value} {k : Nat} {Z : Int} (h : OkAt w u k Z) : Hid (∀ W, Below w.heap.size w W → OkAt W u k Z) := fun _ hb => h.below hb
theorem OkAt.shape {w : World} {u : Value} {k : Nat} {Z : Int} (h : OkAt w u k Z) : ∃ s a n c, u = .agg #[.bool s, .slice a n c] ∧ n ≤ k := by
  obtain ⟨s, v, l, h1, ⟨a, c, rfl, _⟩, h3, h4, h5⟩ := h
  exact ⟨s, a, l.length, c, h1, h5⟩

theorem valS_abs (s : Bool) (l : List Nat) : (valS s l).natAbs = val l := by unfold valS; split <;> omega
theorem valS_bound {s : Bool} {l : List Nat} {k : Nat} (ho : okB s l = true) (h : l.length ≤ k) : (valS s l).natAbs < 1000000000 ^ k := by
  rw [valS_abs]
  exact Nat.lt_of_lt_of_le (val_lt (okB_iff.1 ho).1) (Nat.pow_le_pow_right (by decide) h)
theorem NumAt.bound {w : World} {u : Value} {k : Nat} {Z : Int} (h : NumAt w u k Z) : Z.natAbs < 1000000000 ^ k := by
  obtain ⟨s, v, l, h1, h2, h3, h4⟩ := h
  subst h3
  unfold numZ
  split
  · next ho => exact valS_bound ho h4
  · exact Nat.pow_pos (by decide)

theorem NumIs.ok {n k : Nat} {w : World} {e : Ending} {Z : Int} (h : NumIs n w e Z) (hZ : Z.natAbs < 1000000000 ^ k) : ∃ u, e = .returned u ∧ OkAt w u k Z := by
  obtain ⟨s, l, v, rfl, h1, h2, h3⟩ := h
  exact ⟨_, rfl, s, v, l, rfl, h1.lim, h2, h3, len_of_valS h2 (by rw [h3]; exact hZ)⟩

theorem pow_up {a b : Nat} (h : a ≤ b) : 1000000000 ^ a ≤ 1000000000 ^ b := Nat.pow_le_pow_right (by decide) h
theorem bound_add {x y : Int} {a b : Nat} (h1 : x.natAbs < 1000000000 ^ a) (h2 : y.natAbs < 1000000000 ^ b) : (x + y).natAbs < 1000000000 ^ (max a b + 1) := by
  have p1 := pow_up (Nat.le_max_left a b)
  have p2 := pow_up (Nat.le_max_right a b)
  have p3 : 1000000000 ^ (max a b + 1) = 1000000000 ^ max a b * 1000000000 := Nat.pow_succ ..
  generalize 1000000000 ^ max a b = p at *
  omega
theorem bound_sub {x y : Int} {a b : Nat} (h1 : x.natAbs < 1000000000 ^ a) (h2 : y.natAbs < 1000000000 ^ b) : (x - y).natAbs < 1000000000 ^ (max a b + 1) := by
  have := bound_add (x := x) (y := -y) h1 (by rw [Int.natAbs_neg]; exact h2)
  rwa [← Int.sub_eq_add_neg] at this
theorem bound_mul {x y : Int} {a b : Nat} (h1 : x.natAbs < 1000000000 ^ a) (h2 : y.natAbs < 1000000000 ^ b) : (x * y).natAbs < 1000000000 ^ (a + b) := by
  rw [Int.natAbs_mul, Nat.pow_add]
  exact Nat.mul_lt_mul'' h1 h2

/-- What a call answers: a number. -/
def AnsAt (w' : World) (e : Ending) (k : Nat) (Z : Int) : Prop := ∃ u, e = .returned u ∧ OkAt w' u k Z

theorem Add_num {w : World} {u u' : Value} {k k' : Nat} {Z Z' : Int} (h : NumAt w u k Z) (h' : NumAt w u' k' Z') (hk : k ≤ 1000000) (hk' : k' ≤ 1000000) :
    Calls Tryz.prog 134 #[u, u'] w fun e w' => AnsAt w' e (max k k' + 1) (Z + Z') ∧ Below w.heap.size w w' := by
  have b1 := h.bound
  have b2 := h'.bound
  obtain ⟨s, v, l, rfl, h2, h3, h4⟩ := h
  obtain ⟨s', v', l', rfl, h2', h3', h4'⟩ := h'
  refine (Add_any s s' v v' l l' w h2 h2' (by omega) (by omega)).mono ?_
  rintro e w' ⟨h5, h6⟩
  rw [h3, h3'] at h5
  exact ⟨h5.ok (bound_add b1 b2), h6⟩
theorem Sub_num {w : World} {u u' : Value} {k k' : Nat} {Z Z' : Int} (h : NumAt w u k Z) (h' : NumAt w u' k' Z') (hk : k ≤ 1000000) (hk' : k' ≤ 1000000) :
    Calls Tryz.prog 72 #[u, u'] w fun e w' => AnsAt w' e (max k k' + 1) (Z - Z') ∧ Below w.heap.size w w' := by
  have b1 := h.bound
  have b2 := h'.bound
  obtain ⟨s, v, l, rfl, h2, h3, h4⟩ := h
  obtain ⟨s', v', l', rfl, h2', h3', h4'⟩ := h'
  refine (Sub_any s s' v v' l l' w h2 h2' (by omega) (by omega)).mono ?_
  rintro e w' ⟨h5, h6⟩
  rw [h3, h3'] at h5
  exact ⟨h5.ok (bound_sub b1 b2), h6⟩
theorem Mul_num {w : World} {u u' : Value} {k k' : Nat} {Z Z' : Int} (h : NumAt w u k Z) (h' : NumAt w u' k' Z') (hk : k ≤ 1000000) (hk' : k' ≤ 1000000) :
    Calls Tryz.prog 67 #[u, u'] w fun e w' => AnsAt w' e (k + k') (Z * Z') ∧ Below w.heap.size w w' := by
  have b1 := h.bound
  have b2 := h'.bound
  obtain ⟨s, v, l, rfl, h2, h3, h4⟩ := h
  obtain ⟨s', v', l', rfl, h2', h3', h4'⟩ := h'
  refine (Mul_any s s' v v' l l' w h2 h2' (by omega) (by omega)).mono ?_
  rintro e w' ⟨h5, h6⟩
  rw [h3, h3'] at h5
  exact ⟨h5.ok (bound_mul b1 b2), h6⟩
theorem Neg_num {w : World} {u : Value} {k : Nat} {Z : Int} (h : NumAt w u k Z) (hk : k ≤ 1000000) :
    Calls Tryz.prog 198 #[u] w fun e w' => AnsAt w' e k (-Z) ∧ Below w.heap.size w w' := by
  have b1 := h.bound
  obtain ⟨s, v, l, rfl, h2, h3, h4⟩ := h
  refine (Neg_any s v l w h2 (by omega)).mono ?_
  rintro e w' ⟨h5, h6⟩
  rw [h3] at h5
  exact ⟨h5.ok (by rw [Int.natAbs_neg]; exact b1), h6⟩
theorem Of_num (n : Int) (w : World) (h1 : -9223372036854775808 ≤ n) (h2 : n ≤ 9223372036854775807) :
    Calls Tryz.prog 29 #[.int .i64 n] w fun e w' => AnsAt w' e 3 n ∧ Below w.heap.size w w' := by
  refine (Of_any n w h1 h2).mono ?_
  rintro e w' ⟨h5, h6⟩
  exact ⟨h5.ok (by omega), h6⟩
theorem Sign_num {w : World} {u : Value} {k : Nat} {Z : Int} (h : NumAt w u k Z) (r : Int) (hr : cmpI Z 0 = r) :
    Calls Tryz.prog 68 #[u] w fun e w' => e = .returned (.int .i64 r) ∧ Below w.heap.size w w' := by
  obtain ⟨s, v, l, rfl, h2, h3, h4⟩ := h
  refine (Sign_any s v l w h2).mono ?_
  rintro e w' ⟨h5, h6⟩
  rw [h3, hr] at h5
  exact ⟨h5, h6⟩
theorem Cmp_num {w : World} {u u' : Value} {k k' : Nat} {Z Z' : Int} (h : NumAt w u k Z) (h' : NumAt w u' k' Z') (r : Int) (hr : cmpI Z Z' = r) :
    Calls Tryz.prog 122 #[u, u'] w fun e w' => e = .returned (.int .i64 r) ∧ Below w.heap.size w w' := by
  obtain ⟨s, v, l, rfl, h2, h3, h4⟩ := h
  obtain ⟨s', v', l', rfl, h2', h3', h4'⟩ := h'
  exact Cmp_is r s s' v v' l l' w h2 h2' (by rw [h3, h3']; exact hr)
theorem Check_num {w : World} {u : Value} {k : Nat} {Z : Int} (h : OkAt w u k Z) :
    Calls Tryz.prog 30 #[u] w fun e w' => e = .returned (.bool true) ∧ Below w.heap.size w w' := by
  obtain ⟨s, v, l, rfl, h2, h3, h4, h5⟩ := h
  refine (check_any s v l w h2).mono ?_
  rintro e w' ⟨h6, h7⟩
  rw [h3] at h6
  exact ⟨h6, h7⟩
theorem Same_num {w : World} {u u' : Value} {k k' : Nat} {Z Z' : Int} (h : OkAt w u k Z) (h' : OkAt w u' k' Z') (b : Bool) (hb : decide (Z = Z') = b) :
    Calls Tryz.prog 19 #[u, u'] w fun e w' => e = .returned (.bool b) ∧ Below w.heap.size w w' := by
  obtain ⟨s, v, l, rfl, h2, h3, h4, h5⟩ := h
  obtain ⟨s', v', l', rfl, h2', h3', h4', h5'⟩ := h'
  refine (SameNum_any s s' v v' l l' w h2 h2').mono ?_
  rintro e w' ⟨h6, h7⟩
  refine ⟨?_, h7⟩
  rw [h6, ← hb]
  congr 2
  rw [Bool.eq_iff_iff, Bool.and_eq_true, beq_iff_eq, decide_eq_true_iff, decide_eq_true_iff]
  constructor
  · rintro ⟨rfl, rfl⟩; rw [← h4, ← h4']
  · intro e1
    exact valS_inj h3 h3' (by rw [h4, h4', e1])
/-- What Div answers: two numbers and an error. -/
def DivAt (w' : World) (e : Ending) (k k' : Nat) (n : Int) (Zq Zr : Int) : Prop := ∃ sq aq nq cq sr ar nr cr, e = .returned (.tuple #[.agg #[.bool sq, .slice aq nq cq], .agg #[.bool sr, .slice ar nr cr], .int .i64 n]) ∧ OkAt w' (.agg #[.bool sq, .slice aq nq cq]) k Zq ∧ OkAt w' (.agg #[.bool sr, .slice ar nr cr]) k' Zr ∧ nq ≤ k ∧ nr ≤ k'

theorem DivIs.at {n k k' : Nat} {w : World} {e : Ending} {c Zq Zr : Int} (h : DivIs n w e c Zq Zr) (b1 : Zq.natAbs < 1000000000 ^ k) (b2 : Zr.natAbs < 1000000000 ^ k') : DivAt w e k k' c Zq Zr := by
  obtain ⟨sq, lq, vq, sr, lr, vr, rfl, hq, hr, oq, or', eq, er, -⟩ := h
  have q1 := len_of_valS oq (by rw [eq]; exact b1)
  have q2 := len_of_valS or' (by rw [er]; exact b2)
  have h1 := hq.lim
  have h2 := hr.lim
  have h1' := h1
  have h2' := h2
  obtain ⟨aq, cq, rfl, -⟩ := h1
  obtain ⟨ar, cr, rfl, -⟩ := h2
  exact ⟨sq, aq, _, cq, sr, ar, _, cr, rfl, ⟨sq, _, lq, rfl, h1', oq, eq, q1⟩, ⟨sr, _, lr, rfl, h2', or', er, q2⟩, q1, q2⟩

theorem okB_nil_iff {s : Bool} {l : List Nat} (h : okB s l = true) : valS s l = 0 ↔ l = [] := by
  constructor
  · intro h0
    have h1 := valS_abs s l
    rw [h0] at h1
    exact val_eq_zero (okB_iff.1 h).2.1 h1.symm
  · rintro rfl
    unfold valS
    split <;> rfl

theorem Div_num {w : World} {u u' : Value} {k k' : Nat} {Z Z' : Int} (h : OkAt w u k Z) (h' : OkAt w u' k' Z') (hk : k ≤ 1000000) (hk' : k' ≤ 1000000) (h0 : Z' ≠ 0) :
    Calls Tryz.prog 16 #[u, u'] w fun e w' => DivAt w' e (k + 1) k' 0 (Z / Z') (Z % Z') ∧ Below w.heap.size w w' := by
  have b1 := h.num.bound
  have b2 := h'.num.bound
  obtain ⟨s, v, l, rfl, h2, h3, h4, h5⟩ := h
  obtain ⟨s', v', l', rfl, h2', h3', h4', h5'⟩ := h'
  refine (Div_ok s s' v v' l l' w h2 h2' (by omega) (by omega) h3 h3' (by intro e; exact h0 (by rw [← h4']; exact (okB_nil_iff h3').2 e))).mono ?_
  rintro e w' ⟨h6, h7⟩
  rw [h4, h4'] at h6
  refine ⟨h6.at ?_ ?_, h7⟩
  · refine Nat.lt_of_le_of_lt (m := Z.natAbs + 1) ?_ ?_
    · rcases Int.lt_or_le 0 Z' with hp | hp
      · rcases Int.lt_or_le Z 0 with hn | hn
        · have a1 : -(Z.natAbs : Int) ≤ Z / Z' := by
            rw [Int.le_ediv_iff_mul_le hp]
            have := Int.mul_le_mul_of_nonneg_left (show 1 ≤ Z' by omega) (show (0:Int) ≤ (Z.natAbs : Int) by omega)
            rw [Int.neg_mul]
            omega
          have a2 : Z / Z' ≤ 0 := Int.le_of_lt (Int.ediv_neg_of_neg_of_pos hn hp)
          omega
        · have a1 := Int.ediv_nonneg hn (Int.le_of_lt hp)
          have a2 := Int.ediv_le_self Z' hn
          omega
      · have hp' : 0 < -Z' := by omega
        have e0 : Z / Z' = -(Z / -Z') := by rw [Int.ediv_neg, Int.neg_neg]
        rw [e0, Int.natAbs_neg]
        rcases Int.lt_or_le Z 0 with hn | hn
        · have a1 : -(Z.natAbs : Int) ≤ Z / -Z' := by
            rw [Int.le_ediv_iff_mul_le hp']
            have := Int.mul_le_mul_of_nonneg_left (show 1 ≤ -Z' by omega) (show (0:Int) ≤ (Z.natAbs : Int) by omega)
            rw [Int.neg_mul]
            omega
          have a2 : Z / -Z' ≤ 0 := Int.le_of_lt (Int.ediv_neg_of_neg_of_pos hn hp')
          omega
        · have a1 := Int.ediv_nonneg hn (Int.le_of_lt hp')
          have a2 := Int.ediv_le_self (-Z') hn
          omega
    · rw [Nat.pow_succ]; omega
  · have a1 := Int.emod_nonneg Z h0
    have a2 := Int.emod_lt Z h0
    omega
theorem Div_none {w : World} {u u' : Value} {k k' : Nat} {Z : Int} (h : OkAt w u k Z) (h' : OkAt w u' k' 0) :
    Calls Tryz.prog 16 #[u, u'] w fun e w' => DivAt w' e 0 0 6 0 0 ∧ Below w.heap.size w w' := by
  obtain ⟨s, v, l, rfl, h2, h3, h4, h5⟩ := h
  obtain ⟨s', v', l', rfl, h2', h3', h4', h5'⟩ := h'
  refine (Div_zero s s' v v' l l' w h2 h2' h3 h3' ((okB_nil_iff h3').1 h4')).mono ?_
  rintro e w' ⟨h6, h7⟩
  exact ⟨h6.at (by decide) (by decide), h7⟩

end Go.Proofs.YtgpoljbccimkjaaGreatDoor
