/- Walks: division of two numbers. -/
import Derived.Test.YtgpoljbccimkjaaGreatDoorDivide2
import Derived.Test.YtgpoljbccimkjaaGreatDoorSub
namespace Go.Proofs.YtgpoljbccimkjaaGreatDoor
set_option linter.unusedSimpArgs false
set_option linter.unusedVariables false
open Go.RowKit Go.Shelf

/-- What Div answers. -/
def DivIs (n : Nat) (w' : World) (e : Ending) (k Zq Zr : Int) : Prop := ∃ sq lq vq sr lr vr, e = .returned (.tuple #[.agg #[.bool sq, vq], .agg #[.bool sr, vr], .int .i64 k]) ∧ OwnL n w' vq lq ∧ OwnL n w' vr lr ∧ okB sq lq = true ∧ okB sr lr = true ∧ valS sq lq = Zq ∧ valS sr lr = Zr ∧ Apart vq vr

theorem div_none (n : Nat) (W : World) (k : Int) : DivIs n W (.returned (.tuple #[.agg #[.bool false, .slice none 0 0], .agg #[.bool false, .slice none 0 0], .int .i64 k])) k 0 0 :=
  ⟨false, [], _, false, [], _, rfl, OwnL.nil _ _, OwnL.nil _ _, rfl, rfl, rfl, rfl, fun g h => by cases h⟩

set_option maxRecDepth 100000 in
set_option maxHeartbeats 4000000 in
theorem Div_arg (s s' : Bool) (v v' : Value) (l l' : List Nat) (w : World) (h : Lim w v l) (h' : Lim w v' l') (ho : okB s l = false ∨ okB s' l' = false) :
    Calls Tryz.prog 16 #[.agg #[.bool s, v], .agg #[.bool s', v']] w fun e w' => DivIs w.heap.size w' e 1 0 0 ∧ Below w.heap.size w w' := by
  have H : Hid (∀ W, Below w.heap.size w W → Lim W v l) := fun W hb => h.below hb
  have H' : Hid (∀ W, Below w.heap.size w W → Lim W v' l') := fun W hb => h'.below hb
  obtain ⟨a, c, rfl, -⟩ := h
  obtain ⟨a', c', rfl, -⟩ := h'
  obtain ⟨W0, e0, n1, n2, n3, n4, hb0, hz0⟩ := box4 w (.bool s) (.slice a l.length c) (.bool s') (.slice a' l'.length c') (.bool false) (.slice none 0 0) (.bool false) (.slice none 0 0)
  have HB0 := Lib.hid hb0
  have N1 := Lib.hid n1
  have N2 := Lib.hid n2
  have N3 : Hid (NumBox W0 (w.heap.size + 1 + 1) (.bool false) (.slice none 0 0)) := n3
  have N4 : Hid (NumBox W0 (w.heap.size + 1 + 1 + 1) (.bool false) (.slice none 0 0)) := n4
  have HO := Lib.hid ho
  obtain ⟨c1, c2, f1, f2⟩ := n1
  clear hb0 n2 n3 n4 ho
  go_enter Tryz.func16, Tryz.ntmps16
  go_wp2_with fail
  refine (check_any s _ l _ (H.out _ HB0.out)).mono ?_
  rintro e w1 ⟨rfl, hb1⟩
  have HB1 := Lib.hid hb1
  clear hb1 c1 c2 f1 f2
  cases h1 : okB s l
  · obtain ⟨d1, d2, d3, d4⟩ := N3.out.below HB1.out
    obtain ⟨g1, g2, g3, g4⟩ := N4.out.below HB1.out
    go_wp2_with fail
    refine bodyPost_ret (v := .tuple #[.agg #[.bool false, .slice none 0 0], .agg #[.bool false, .slice none 0 0], .int .i64 1]) (by simp [results, Tryz.results16, go_sem, d1, d2, g1, g2]) rfl ⟨div_none _ _ _, (by repeat (first | exact Below.refl _ _ | with_reducible refine Below.drew ?_ | with_reducible refine below_drewN ?_ _ | with_reducible refine Below.setCell ?_ (by first | (simp; done) | (simp; omega) | omega) _ | with_reducible refine Below.alloc ?_ (by first | (simp; done) | (simp; omega) | omega) _ | (with_reducible refine Below.step ?_ HB1.out) | (with_reducible refine Below.step ?_ HB0.out)))⟩
  · have h2 : okB s' l' = false := by
      rcases HO.out with h | h
      · rw [h1] at h; cases h
      · exact h
    have H2 := Lib.hid h2
    obtain ⟨d1, d2, d3, d4⟩ := N2.out.below HB1.out
    clear h2 h1
    go_wp2_with fail
    refine (check_any s' _ l' _ (H'.out _ (Below.step HB0.out HB1.out))).mono ?_
    rintro e w2 ⟨rfl, hb2⟩
    rw [H2.out]
    have HB2 := Lib.hid hb2
    obtain ⟨e1, e2, e3, e4⟩ := (N3.out.below HB1.out).below hb2
    obtain ⟨g1, g2, g3, g4⟩ := (N4.out.below HB1.out).below hb2
    clear hb2 d1 d2 d3 d4
    go_wp2_with fail
    refine bodyPost_ret (v := .tuple #[.agg #[.bool false, .slice none 0 0], .agg #[.bool false, .slice none 0 0], .int .i64 1]) (by simp [results, Tryz.results16, go_sem, e1, e2, g1, g2]) rfl ⟨div_none _ _ _, (by repeat (first | exact Below.refl _ _ | with_reducible refine Below.drew ?_ | with_reducible refine below_drewN ?_ _ | with_reducible refine Below.setCell ?_ (by first | (simp; done) | (simp; omega) | omega) _ | with_reducible refine Below.alloc ?_ (by first | (simp; done) | (simp; omega) | omega) _ | (with_reducible refine Below.step ?_ HB2.out) | (with_reducible refine Below.step ?_ HB1.out) | (with_reducible refine Below.step ?_ HB0.out)))⟩

set_option maxRecDepth 100000 in
set_option maxHeartbeats 4000000 in
theorem Div_zero (s s' : Bool) (v v' : Value) (l l' : List Nat) (w : World) (h : Lim w v l) (h' : Lim w v' l') (ho : okB s l = true) (ho' : okB s' l' = true) (hn : l' = []) :
    Calls Tryz.prog 16 #[.agg #[.bool s, v], .agg #[.bool s', v']] w fun e w' => DivIs w.heap.size w' e 6 0 0 ∧ Below w.heap.size w w' := by
  have H : Hid (∀ W, Below w.heap.size w W → Lim W v l) := fun W hb => h.below hb
  have H' : Hid (∀ W, Below w.heap.size w W → Lim W v' l') := fun W hb => h'.below hb
  obtain ⟨a, c, rfl, -⟩ := h
  obtain ⟨a', c', rfl, -⟩ := h'
  have hz : ((l'.length : Int) == 0) = true := by rw [hn]; rfl
  clear hn
  obtain ⟨W0, e0, n1, n2, n3, n4, hb0, hz0⟩ := box4 w (.bool s) (.slice a l.length c) (.bool s') (.slice a' l'.length c') (.bool false) (.slice none 0 0) (.bool false) (.slice none 0 0)
  have HB0 := Lib.hid hb0
  have N2 := Lib.hid n2
  have N3 : Hid (NumBox W0 (w.heap.size + 1 + 1) (.bool false) (.slice none 0 0)) := n3
  have N4 : Hid (NumBox W0 (w.heap.size + 1 + 1 + 1) (.bool false) (.slice none 0 0)) := n4
  have HO := Lib.hid ho
  have HO' := Lib.hid ho'
  obtain ⟨c1, c2, f1, f2⟩ := n1
  clear hb0 n2 n3 n4 ho ho'
  go_enter Tryz.func16, Tryz.ntmps16
  go_wp2_with fail
  refine (check_any s _ l _ (H.out _ HB0.out)).mono ?_
  rintro e w1 ⟨rfl, hb1⟩
  rw [HO.out]
  have HB1 := Lib.hid hb1
  clear hb1 c1 c2 f1 f2
  obtain ⟨d1, d2, d3, d4⟩ := N2.out.below HB1.out
  go_wp2_with fail
  refine (check_any s' _ l' _ (H'.out _ (Below.step HB0.out HB1.out))).mono ?_
  rintro e w2 ⟨rfl, hb2⟩
  rw [HO'.out]
  have HB2 := Lib.hid hb2
  obtain ⟨p1, p2, p3, p4⟩ := (N2.out.below HB1.out).below hb2
  obtain ⟨e1, e2, e3, e4⟩ := (N3.out.below HB1.out).below hb2
  obtain ⟨g1, g2, g3, g4⟩ := (N4.out.below HB1.out).below hb2
  clear hb2 d1 d2 d3 d4
  go_wp2_with fail
  refine bodyPost_ret (v := .tuple #[.agg #[.bool false, .slice none 0 0], .agg #[.bool false, .slice none 0 0], .int .i64 6]) (by simp [results, Tryz.results16, go_sem, e1, e2, g1, g2]) rfl ⟨div_none _ _ _, (by repeat (first | exact Below.refl _ _ | with_reducible refine Below.drew ?_ | with_reducible refine below_drewN ?_ _ | with_reducible refine Below.setCell ?_ (by first | (simp; done) | (simp; omega) | omega) _ | with_reducible refine Below.alloc ?_ (by first | (simp; done) | (simp; omega) | omega) _ | (with_reducible refine Below.step ?_ HB2.out) | (with_reducible refine Below.step ?_ HB1.out) | (with_reducible refine Below.step ?_ HB0.out)))⟩

/-- Two numbers' variables are written. -/
theorem stored2 {w W : World} {b1 b2 : Nat} {x0 x1 y0 y1 : Value} (u0 u1 v0 v1 : Value) (h1 : w.heap.size ≤ b1) (h2 : w.heap.size ≤ b2) (hne : b1 ≠ b2) (n1 : NumBox W b1 x0 x1) (n2 : NumBox W b2 y0 y1) (h : Below w.heap.size w W) :
    ∃ W', (((W.setCell ⟨b1, 0, none⟩ u0).setCell ⟨b1, 1, none⟩ u1).setCell ⟨b2, 0, none⟩ v0).setCell ⟨b2, 1, none⟩ v1 = W' ∧ NumBox W' b1 u0 u1 ∧ NumBox W' b2 v0 v1 ∧ Below w.heap.size w W' ∧
      (∀ b3 x y, b3 ≠ b1 → b3 ≠ b2 → NumBox W b3 x y → NumBox W' b3 x y) ∧ (∀ n v l, b1 < n → b2 < n → OwnL n W v l → OwnL n W' v l) ∧ W'.heap.size = W.heap.size :=
  ⟨_, rfl, (((n1.set0 u0).set1 u1).other (p := ⟨b2, 0, none⟩) (Ne.symm hne) _).other (p := ⟨b2, 1, none⟩) (Ne.symm hne) _,
    ((((n2.other (p := ⟨b1, 0, none⟩) hne _).other (p := ⟨b1, 1, none⟩) hne _).set0 v0).set1 v1),
    (((h.setCell (p := ⟨b1, 0, none⟩) h1 _).setCell (p := ⟨b1, 1, none⟩) h1 _).setCell (p := ⟨b2, 0, none⟩) h2 _).setCell (p := ⟨b2, 1, none⟩) h2 _,
    fun b3 x y e1 e2 hb => (((hb.other (p := ⟨b1, 0, none⟩) (Ne.symm e1) _).other (p := ⟨b1, 1, none⟩) (Ne.symm e1) _).other (p := ⟨b2, 0, none⟩) (Ne.symm e2) _).other (p := ⟨b2, 1, none⟩) (Ne.symm e2) _,
    fun n v l e1 e2 ho => (((ho.setBox e1 _ _).setBox e1 _ _).setBox e2 _ _).setBox e2 _ _, by simp [World.setCell]⟩

theorem ediv_of {Z Z' q r : Int} (h : Z = q * Z' + r) (h0 : 0 ≤ r) (h1 : r < Z' ∨ r < -Z') : q = Z / Z' ∧ r = Z % Z' := by
  rcases h1 with h1 | h1
  · have k := (Int.ediv_emod_unique (a := Z) (b := Z') (q := q) (r := r) (by omega)).2 ⟨by rw [h, Int.mul_comm]; omega, h0, h1⟩
    exact ⟨k.1.symm, k.2.symm⟩
  · have k := (Int.ediv_emod_unique (a := Z) (b := -Z') (q := -q) (r := r) (by omega)).2 ⟨by rw [h, Int.neg_mul_neg, Int.mul_comm]; omega, h0, h1⟩
    rw [Int.ediv_neg, Int.emod_neg] at k
    exact ⟨by omega, k.2.symm⟩

theorem len_of_valS {s : Bool} {l : List Nat} {k : Nat} (ho : okB s l = true) (h : (valS s l).natAbs < 1000000000 ^ k) : l.length ≤ k := by
  obtain ⟨h1, h2, h3⟩ := okB_iff.1 ho
  have h4 : (valS s l).natAbs = val l := by unfold valS; split <;> omega
  rw [h4] at h
  by_cases hl : l = []
  · subst hl; simp
  · have h5 := val_ge h2 hl
    have h6 : 1000000000 ^ (l.length - 1) < 1000000000 ^ k := Nat.lt_of_le_of_lt h5 h
    have h7 := (Nat.pow_lt_pow_iff_right (by decide)).1 h6
    have := List.length_pos_iff.2 hl
    omega
theorem val_of_valS {s : Bool} {l : List Nat} {k : Nat} (h : valS s l = (k : Int)) : val l = k := by unfold valS at h; split at h <;> omega
theorem div_same {s s' sx : Bool} {l l' Q L : List Nat} (hsx : (!(s == s')) = sx) (hqv : val Q * val l' + val L = val l) (hlv : val L < val l') (hc : s = false ∨ val L = 0) :
    (if sx then -(val Q : Int) else val Q) = valS s l / valS s' l' ∧ (val L : Int) = valS s l % valS s' l' := by
  have h : (val Q : Int) * (val l' : Int) + (val L : Int) = (val l : Int) := by rw [← hqv, Int.natCast_add, Int.natCast_mul]
  subst hsx
  generalize val Q = q at *
  cases s <;> cases s'
  · change (q : Int) = (val l : Int) / (val l' : Int) ∧ (val L : Int) = (val l : Int) % (val l' : Int)
    exact ediv_of (by omega) (by omega) (.inl (by omega))
  · change -(q : Int) = (val l : Int) / -(val l' : Int) ∧ (val L : Int) = (val l : Int) % -(val l' : Int)
    exact ediv_of (by rw [Int.neg_mul_neg]; omega) (by omega) (.inr (by omega))
  · have h0 : val L = 0 := by simpa using hc
    rw [h0] at h ⊢
    change -(q : Int) = -(val l : Int) / (val l' : Int) ∧ (0 : Int) = -(val l : Int) % (val l' : Int)
    exact ediv_of (by rw [Int.neg_mul]; omega) (by omega) (.inl (by omega))
  · have h0 : val L = 0 := by simpa using hc
    rw [h0] at h ⊢
    change (q : Int) = -(val l : Int) / -(val l' : Int) ∧ (0 : Int) = -(val l : Int) % -(val l' : Int)
    exact ediv_of (by rw [Int.mul_neg]; omega) (by omega) (.inr (by omega))
theorem div_down {s s' sx : Bool} {l l' Q L : List Nat} (hsx : (!(s == s')) = sx) (hqv : val Q * val l' + val L = val l) (hlv : val L < val l') (hs : s = true) (h0 : 0 < val L) :
    (if sx then -(val Q : Int) else val Q) - sgn s' = valS s l / valS s' l' ∧ 1 * (val l' : Int) + -1 * (val L : Int) = valS s l % valS s' l' := by
  have h : (val Q : Int) * (val l' : Int) + (val L : Int) = (val l : Int) := by rw [← hqv, Int.natCast_add, Int.natCast_mul]
  subst hsx hs
  generalize val Q = q at *
  cases s'
  · change -(q : Int) - 1 = -(val l : Int) / (val l' : Int) ∧ 1 * (val l' : Int) + -1 * (val L : Int) = -(val l : Int) % (val l' : Int)
    exact ediv_of (by rw [Int.sub_mul, Int.neg_mul]; omega) (by omega) (.inl (by omega))
  · change (q : Int) - -1 = -(val l : Int) / -(val l' : Int) ∧ 1 * (val l' : Int) + -1 * (val L : Int) = -(val l : Int) % -(val l' : Int)
    exact ediv_of (by rw [Int.sub_mul, Int.mul_neg, Int.neg_mul_neg]; omega) (by omega) (.inr (by omega))
theorem OwnL.ge {n : Nat} {w : World} {v : Value} {l : List Nat} {g : Nat} (h : OwnL n w v l) (hg : v.ownBlock = some g) : n ≤ g := by
  obtain ⟨⟨_, h1⟩, _⟩ := h
  rcases h1 with ⟨rfl, _⟩ | ⟨g', cap, cur, rfl, hb, _⟩
  · cases hg
  · have : g' = g := Option.some.inj hg
    omega
theorem OwnL.lt {n : Nat} {w : World} {v : Value} {l : List Nat} {g : Nat} (h : OwnL n w v l) (hg : v.ownBlock = some g) : g < w.heap.size := by
  obtain ⟨⟨_, h1⟩, _⟩ := h
  rcases h1 with ⟨rfl, _⟩ | ⟨g', cap, cur, rfl, hb, hh, _⟩
  · cases hg
  · have : g' = g := Option.some.inj hg
    have := (Array.getElem?_eq_some_iff.1 hh).1
    omega

set_option maxRecDepth 100000 in
set_option maxHeartbeats 4000000 in
theorem Div_ok (s s' : Bool) (v v' : Value) (l l' : List Nat) (w : World) (h : Lim w v l) (h' : Lim w v' l') (n1' : l.length ≤ 1000000) (n2' : l'.length ≤ 1000000) (ho : okB s l = true) (ho' : okB s' l' = true) (hn : l' ≠ []) :
    Calls Tryz.prog 16 #[.agg #[.bool s, v], .agg #[.bool s', v']] w fun e w' => DivIs w.heap.size w' e 0 (valS s l / valS s' l') (valS s l % valS s' l') ∧ Below w.heap.size w w' := by
  have H : Hid (∀ W, Below w.heap.size w W → Lim W v l) := fun W hb => h.below hb
  have H' : Hid (∀ W, Below w.heap.size w W → Lim W v' l') := fun W hb => h'.below hb
  obtain ⟨a, c, rfl, -⟩ := h
  obtain ⟨a', c', rfl, -⟩ := h'
  obtain ⟨W0, e0, n1, n2, n3, n4, hb0, hz0⟩ := box4 w (.bool s) (.slice a l.length c) (.bool s') (.slice a' l'.length c') (.bool false) (.slice none 0 0) (.bool false) (.slice none 0 0)
  have HB0 := Lib.hid hb0
  have N1 := Lib.hid n1
  have N2 := Lib.hid n2
  have N3 : Hid (NumBox W0 (w.heap.size + 1 + 1) (.bool false) (.slice none 0 0)) := n3
  have N4 : Hid (NumBox W0 (w.heap.size + 1 + 1 + 1) (.bool false) (.slice none 0 0)) := n4
  have HO := Lib.hid ho
  have HO' := Lib.hid ho'
  have hl' : 1 ≤ l'.length := List.length_pos_iff.2 hn
  have HL' := Lib.hid hl'
  have hz : ((l'.length : Int) == 0) = false := by rw [beq_eq_false_iff_ne]; omega
  obtain ⟨c1, c2, f1, f2⟩ := n1
  clear hb0 n2 n3 n4 ho ho' hn hl'
  go_enter Tryz.func16, Tryz.ntmps16
  go_wp2_with fail
  refine (check_any s _ l _ (H.out _ HB0.out)).mono ?_
  rintro e w1 ⟨rfl, hb1⟩
  rw [HO.out]
  have HB1 := Lib.hid hb1
  clear hb1 c1 c2 f1 f2
  obtain ⟨d1, d2, d3, d4⟩ := N2.out.below HB1.out
  go_wp2_with fail
  refine (check_any s' _ l' _ (H'.out _ (Below.step HB0.out HB1.out))).mono ?_
  rintro e w2 ⟨rfl, hb2⟩
  rw [HO'.out]
  have HB2 : Hid (Below w.heap.size w w2) := Below.step (Below.step HB0.out HB1.out) hb2
  have M1 := Lib.hid ((N1.out.below HB1.out).below hb2)
  have M2 := Lib.hid ((N2.out.below HB1.out).below hb2)
  have M3 := Lib.hid ((N3.out.below HB1.out).below hb2)
  have M4 := Lib.hid ((N4.out.below HB1.out).below hb2)
  have hsz2 : w.heap.size + 4 ≤ w2.heap.size := by have := HB1.out.size; have := hb2.size; omega
  obtain ⟨p1, p2, p3, p4⟩ := M2.out
  obtain ⟨q1, q2, q3, q4⟩ := M1.out
  clear hb2 d1 d2 d3 d4
  obtain ⟨sm, st, sz⟩ := okB_iff.1 HO.out
  obtain ⟨sm', st', sz'⟩ := okB_iff.1 HO'.out
  have SM := Lib.hid sm
  have SM' := Lib.hid sm'
  have ST' := Lib.hid st'
  have SZ := Lib.hid sz
  clear sm sm' st st' sz sz'
  go_wp2_with fail
  refine (divide_any _ _ l l' w2 (H.out _ HB2.out) (H'.out _ HB2.out) SM.out SM'.out ST'.out HL'.out n1' n2').mono ?_
  rintro e w3 ⟨⟨vq, vl, Q, L, rfl, oq, ol, hap, sq, sl, tl, hql, hqv, hlv⟩, hb3⟩
  have HB3 : Hid (Below w.heap.size w w3) := Below.step HB2.out hb3
  have hsz3 := hb3.size
  have K1 := Lib.hid (M1.out.below hb3)
  have K2 := Lib.hid (M2.out.below hb3)
  have K3 := Lib.hid (M3.out.below hb3)
  have K4 := Lib.hid (M4.out.below hb3)
  have OQ := Lib.hid oq
  have OL := Lib.hid ol
  have HAP := Lib.hid hap
  have SQ := Lib.hid sq
  have SL := Lib.hid sl
  have HQV := Lib.hid (And.intro hqv hlv)
  have HQL : Hid (Q.length ≤ 1000000) := by show _ ≤ _; have := HL'.out; omega
  clear oq ol hap sq sl tl hql hqv hlv hb3 p1 p2 p3 p4 q1 q2 q3 q4
  obtain ⟨p1, p2, p3, p4⟩ := K1.out
  obtain ⟨q1, q2, q3, q4⟩ := K2.out
  go_wp2_with fail
  refine (number_own (!(s == s')) vq Q _ w3 OQ.out SQ.out).mono ?_
  rintro e w4 ⟨⟨sq4, lq4, vq4, rfl, oq4, okq4, hq4, hg4⟩, hb4⟩
  have L3 := Lib.hid (K3.out.below hb4)
  have L4 := Lib.hid (K4.out.below hb4)
  have L1 := Lib.hid (K1.out.below hb4)
  have L2 := Lib.hid (K2.out.below hb4)
  have OL4 := Lib.hid (OL.out.below hb4)
  have HB4 : Hid (Below w.heap.size w w4) := Below.step HB3.out hb4
  have OQ4 := Lib.hid oq4
  have hsz4 := hb4.size
  have HQ4 := Lib.hid (And.intro okq4 (And.intro hq4 hg4))
  clear oq4 okq4 hq4 hg4 hb4 p1 p2 p3 p4 q1 q2 q3 q4
  go_wp2_with fail
  refine (number_own false vl L _ w4 OL4.out SL.out).mono ?_
  rintro e w5 ⟨⟨sr5, lr5, vr5, rfl, or5, okr5, hr5, hg5⟩, hb5⟩
  have P1 := Lib.hid (L1.out.below hb5)
  have P2 := Lib.hid (L2.out.below hb5)
  have P3 := Lib.hid (L3.out.below hb5)
  have P4 := Lib.hid (L4.out.below hb5)
  have OQ5 := Lib.hid (OQ4.out.below hb5)
  have OR5 := Lib.hid or5
  have hsz5 := hb5.size
  have HB5 : Hid (Below w.heap.size w w5) := Below.step HB4.out hb5
  have HR5 := Lib.hid (And.intro okr5 (And.intro hr5 hg5))
  have hql := OQ5.out.lim
  have hrl := OR5.out.lim
  obtain ⟨aq, kq, rfl, -⟩ := hql
  obtain ⟨ar, kr, rfl, -⟩ := hrl
  clear or5 okr5 hr5 hg5 hb5
  obtain ⟨W6, e6, r3, r4, b6, rk, ro, hsz6⟩ := stored2 (w := w) (W := w5) (b1 := w.heap.size + 1 + 1) (b2 := w.heap.size + 1 + 1 + 1) (.bool sq4) (.slice aq lq4.length kq) (.bool sr5) (.slice ar lr5.length kr) (by omega) (by omega) (by omega) P3.out P4.out HB5.out
  have R1 := Lib.hid (rk _ _ _ (by omega) (by omega) P1.out)
  have R2 := Lib.hid (rk _ _ _ (by omega) (by omega) P2.out)
  have R3 := Lib.hid r3
  have R4 := Lib.hid r4
  have B6 := Lib.hid b6
  have OQ6 := Lib.hid (ro _ _ _ (by omega) (by omega) OQ5.out)
  have OR6 := Lib.hid (ro _ _ _ (by omega) (by omega) OR5.out)
  obtain ⟨p1, p2, p3, p4⟩ := P3.out
  obtain ⟨q1, q2, q3, q4⟩ := P4.out
  clear r3 r4 b6 rk ro
  go_upto_region 7 with fail
  obtain ⟨t1, t2, t3, t4⟩ := R1.out
  obtain ⟨u1, u2, u3, u4⟩ := R4.out
  clear p1 p2 p3 p4 q1 q2 q3 q4
  obtain ⟨sx, hsx⟩ : ∃ x : Bool, (!(s == s')) = x := ⟨_, rfl⟩
  rw [hsx]
  have HSX := Lib.hid hsx
  clear hsx
  obtain ⟨cb, hcb⟩ : ∃ x : Bool, (s && decide (0 < lr5.length)) = x := ⟨_, rfl⟩
  have HCB := Lib.hid hcb
  clear hcb
  go_cut [49] from 42 to 49 (fun c wx => c = .bool cb ∧ W6 = wx)
  case first =>
    cases s
    · go_wp2_with fail
      go_meet
      exact ⟨by rw [← HCB.out]; rfl, rfl⟩
    · go_wp2_with fail
      go_meet
      exact ⟨by rw [← HCB.out]; rfl, rfl⟩
  case rest =>
    obtain ⟨rfl, rfl⟩ := hcut
    go_upto_if 49 with fail
    go_cut [6] from 50 to 59 (fun x wx => x = .int .i64 0 ∧ ∃ sq lq aq kq sr lr ar kr, NumBox wx (w.heap.size + 1 + 1) (.bool sq) (.slice aq (List.length lq) kq) ∧ NumBox wx (w.heap.size + 1 + 1 + 1) (.bool sr) (.slice ar (List.length lr) kr) ∧ Hid (OwnL w2.heap.size wx (.slice aq lq.length kq) lq) ∧ Hid (OwnL w2.heap.size wx (.slice ar lr.length kr) lr) ∧ Hid (Apart (.slice aq lq.length kq) (.slice ar lr.length kr)) ∧ Hid (okB sq lq = true ∧ okB sr lr = true ∧ valS sq lq = valS s l / valS s' l' ∧ valS sr lr = valS s l % valS s' l') ∧ Hid (Below w.heap.size w wx))
    case first =>
      cases cb
      · go_wp2_with fail
        go_meet
        refine ⟨rfl, _, _, _, _, _, _, _, _, R3.out, R4.out, OQ6, OR6, ?_, ?_, B6⟩
        · intro g e1 e2
          exact HAP.out g (HQ4.out.2.2 g e1) (HR5.out.2.2 g e2)
        · have hvL : val lr5 = val L := val_of_valS HR5.out.2.1
          have hc : s = false ∨ val L = 0 := by
            have h9 := HCB.out
            rw [Bool.and_eq_false_iff] at h9
            rcases h9 with h9 | h9
            · exact .inl h9
            · right
              have h10 : lr5 = [] := List.eq_nil_of_length_eq_zero (by simpa using h9)
              rw [← hvL, h10]; rfl
          have hv := div_same HSX.out HQV.out.1 HQV.out.2 hc
          exact ⟨HQ4.out.1, HR5.out.1, by rw [HQ4.out.2.1, HSX.out]; exact hv.1, HR5.out.2.1.trans hv.2⟩
      · have HLQ : Hid (lq4.length ≤ 1000000) := Nat.le_trans (len_of_valS (k := Q.length) HQ4.out.1 (by
          rw [HQ4.out.2.1]
          have h9 := val_lt SQ.out
          split <;> omega)) HQL.out
        obtain ⟨c1, c2, -⟩ := R3.out
        obtain ⟨c3, c4, -⟩ := R2.out
        go_wp2_with fail
        go_cut [6] from 50 to 54 (fun x wx => x = .int .i64 0 ∧ W6.heap.size ≤ wx.heap.size ∧ ∃ s9 l9 a9 k9, NumBox wx (w.heap.size + 1 + 1) (.bool s9) (.slice a9 (List.length l9) k9) ∧ NumBox wx (w.heap.size + 1) (.bool s') (.slice a' l'.length c') ∧ NumBox wx (w.heap.size + 1 + 1 + 1) (.bool sr5) (.slice ar lr5.length kr) ∧ Hid (OwnL W6.heap.size wx (.slice a9 l9.length k9) l9) ∧ Hid (okB s9 l9 = true ∧ valS s9 l9 = valS sq4 lq4 - sgn s') ∧ Hid (OwnL w2.heap.size wx (.slice ar lr5.length kr) lr5) ∧ Hid (Below w.heap.size w wx))
        case first =>
          go_region_with
            (first
              | (go_at_call 73; (with_reducible refine (signOf_any s' (.slice a' l'.length c') l' _ (H'.out _ (Below.step B6.out (by repeat (first | exact Below.refl _ _ | with_reducible refine Below.drew ?_ | with_reducible refine below_drewN ?_ _ | with_reducible refine Below.setCell ?_ (by first | (simp; done) | (simp; omega) | omega) _ | with_reducible refine Below.alloc ?_ (by first | (simp; done) | (simp; omega) | omega) _))))).mono ?_); rintro e w7 ⟨rfl, hb70⟩; have hb7 := Below.undrew' hb70; obtain ⟨d1, d2, -⟩ := R3.out.below hb7; obtain ⟨d3, d4, -⟩ := R2.out.below hb7)
              | (go_at_call 29; (with_reducible refine (Of_any (sgn s') _ (by cases s' <;> decide) (by cases s' <;> decide)).mono ?_); rintro e w8 ⟨⟨s8, l8, vv8, rfl, ho8, hok8, hz8⟩, hb8⟩; have O8 := Lib.hid ho8; have K8 := Lib.hid (And.intro hok8 hz8); have hl8 := ho8.lim; clear ho8 hok8 hz8; obtain ⟨a8, k8, rfl, -⟩ := hl8; obtain ⟨v1, v2, -⟩ := (R3.out.below hb7).below hb8; obtain ⟨v3, v4, -⟩ := (R2.out.below hb7).below hb8)
              | (go_at_call 72; (with_reducible refine (Sub_any sq4 s8 (.slice aq lq4.length kq) (.slice a8 l8.length k8) lq4 l8 _ ((OQ6.out.lim.below hb7).below hb8) O8.out.lim HLQ.out (Nat.le_trans (len_of_valS (k := 1) K8.out.1 (by rw [K8.out.2]; cases s' <;> decide)) (by decide))).mono ?_); rintro e w9 ⟨⟨s9, l9, vv9, rfl, ho9, hok9, hz9⟩, hb9⟩; have O9 := Lib.hid ho9; have K9 := Lib.hid (And.intro hok9 hz9); have hl9 := ho9.lim; clear ho9 hok9 hz9; obtain ⟨a9, k9, rfl, -⟩ := hl9; obtain ⟨x1, x2, x3, x4⟩ := ((R3.out.below hb7).below hb8).below hb9))
          all_goals
            go_wp2_with fail
            go_meet
            have hb9' : Below W6.heap.size W6 w9 := (hb7.trans (hb8.mono hb7.size)).trans (hb9.mono (Nat.le_trans hb7.size hb8.size))
            have hle : W6.heap.size ≤ w8.heap.size := Nat.le_trans hb7.size hb8.size
            refine ⟨rfl, by simp; have := hb9.size; omega, s9, l9, a9, k9, ((R3.out.below hb9').set0 _).set1 _, ((R2.out.below hb9').other (p := ⟨w.heap.size + 1 + 1, 0, none⟩) (by show w.heap.size + 1 + 1 ≠ _; omega) _).other (p := ⟨w.heap.size + 1 + 1, 1, none⟩) (by show w.heap.size + 1 + 1 ≠ _; omega) _, ((R4.out.below hb9').other (p := ⟨w.heap.size + 1 + 1, 0, none⟩) (by show w.heap.size + 1 + 1 ≠ _; omega) _).other (p := ⟨w.heap.size + 1 + 1, 1, none⟩) (by show w.heap.size + 1 + 1 ≠ _; omega) _, ?_, ?_, ?_, ?_⟩
            · exact ((O9.out.mono hle).setBox (by have := R4.out.lt; omega) _ _).setBox (by have := R4.out.lt; omega) _ _
            · exact ⟨K9.out.1, by rw [K9.out.2, numZ_ok HQ4.out.1, numZ_ok K8.out.1, K8.out.2]⟩
            · exact ((OR6.out.below hb9').setBox (by omega) _ _).setBox (by omega) _ _
            · exact ((Below.step B6.out hb9').setCell (p := ⟨w.heap.size + 1 + 1, 0, none⟩) (by show w.heap.size ≤ w.heap.size + 1 + 1; omega) _).setCell (p := ⟨w.heap.size + 1 + 1, 1, none⟩) (by show w.heap.size ≤ w.heap.size + 1 + 1; omega) _
        case rest =>
          obtain ⟨rfl, hs69, s9, l9, a9, k9, y2, y1, y3, O9, K9, O5, B9⟩ := hcut
          have Y2 := Lib.hid y2
          have Y3 := Lib.hid y3
          obtain ⟨p1, p2, -⟩ := y1
          obtain ⟨q1, q2, q3, q4⟩ := y3
          have hvL : val lr5 = val L := val_of_valS HR5.out.2.1
          have hcb := HCB.out
          rw [Bool.and_eq_true] at hcb
          have hs : s = true := hcb.1
          have hne : lr5 ≠ [] := fun e => by rw [e] at hcb; simp at hcb
          have hL0 : 0 < val L := by rw [← hvL]; exact val_pos (okB_iff.1 HR5.out.1).2.1 hne
          have hv := div_down HSX.out HQV.out.1 HQV.out.2 hs hL0
          rw [← hvL] at hv
          have HVV := Lib.hid hv
          have HLR : Hid (lr5.length ≤ 1000000) := Nat.le_trans (len_of_valS (k := l'.length) HR5.out.1 (by
            rw [HR5.out.2.1]
            have h9 := val_lt SM'.out
            have h10 := HQV.out.2
            show ((val L : Nat) : Int).natAbs < _
            omega)) n2'
          clear hvL hcb hs hne hL0 hv
          go_wp2_with fail
          refine (signedSum_any (.slice a' l'.length c') (.slice ar lr5.length kr) l' lr5 1 (-1) wc (H'.out _ B9.out) O5.out.lim SM'.out (okB_iff.1 HR5.out.1).1 n2' HLR.out (.inl rfl) (.inr rfl)).mono ?_
          rintro e w10 ⟨⟨s10, l10, v10, rfl, ho10, hok10, hz10⟩, hb10⟩
          have Z2 := Lib.hid (Y2.out.below hb10)
          have Z3 := Lib.hid (Y3.out.below hb10)
          have O10 := Lib.hid ho10
          have K10 := Lib.hid (And.intro hok10 hz10)
          have O9' := Lib.hid (O9.out.below hb10)
          have B10 := Lib.hid (Below.step B9.out hb10)
          have hsz10 := hb10.size
          have hl10 := ho10.lim
          clear ho10 hok10 hz10 hb10 p1 p2
          obtain ⟨a10, k10, rfl, -⟩ := hl10
          clear q1 q2 q3 q4
          obtain ⟨q1, q2, q3, q4⟩ := Z3.out
          go_wp2_with fail
          go_meet
          have hs1 := R4.out.lt
          have hs2 := Y3.out.lt
          refine ⟨rfl, s9, l9, a9, k9, s10, l10, a10, k10, (Z2.out.other (p := ⟨w.heap.size + 1 + 1 + 1, 0, none⟩) (by show w.heap.size + 1 + 1 + 1 ≠ _; omega) _).other (p := ⟨w.heap.size + 1 + 1 + 1, 1, none⟩) (by show w.heap.size + 1 + 1 + 1 ≠ _; omega) _, (Z3.out.set0 _).set1 _, ?_, ?_, ?_, ?_, ?_⟩
          · exact ((O9'.out.setBox (by omega) _ _).setBox (by omega) _ _).mono (by omega)
          · exact ((O10.out.setBox (by omega) _ _).setBox (by omega) _ _).mono (by omega)
          · intro g e1 e2
            have q1 := O9.out.lt (g := g) e1
            have q2 := O10.out.ge (g := g) e2
            omega
          · exact ⟨K9.out.1, K10.out.1, K9.out.2.trans (by rw [HQ4.out.2.1, HSX.out]; exact HVV.out.1), K10.out.2.trans HVV.out.2⟩
          · exact (B10.out.setCell (p := ⟨w.heap.size + 1 + 1 + 1, 0, none⟩) (by show w.heap.size ≤ w.heap.size + 1 + 1 + 1; omega) _).setCell (p := ⟨w.heap.size + 1 + 1 + 1, 1, none⟩) (by show w.heap.size ≤ w.heap.size + 1 + 1 + 1; omega) _
    case rest =>
      obtain ⟨rfl, sq, lq, aq', kq', sr, lr, ar', kr', x1, x2, HQ, HR, HA, HV, HB⟩ := hcut
      have X1 := Lib.hid x1
      have X2 := Lib.hid x2
      obtain ⟨p1, p2, p3, p4⟩ := x1
      obtain ⟨q1, q2, q3, q4⟩ := x2
      go_wp2_with fail
      go_region
      all_goals go_wp2_with fail
      all_goals
        have y1 := (((X1.out.set0 (.bool sq)).set1 (.slice aq' lq.length kq')).other (p := ⟨w.heap.size + 1 + 1 + 1, 0, none⟩) (by show w.heap.size + 1 + 1 + 1 ≠ _; omega) (.bool sr)).other (p := ⟨w.heap.size + 1 + 1 + 1, 1, none⟩) (by show w.heap.size + 1 + 1 + 1 ≠ _; omega) (.slice ar' lr.length kr')
        have y2 := ((((X2.out.other (p := ⟨w.heap.size + 1 + 1, 0, none⟩) (by show w.heap.size + 1 + 1 ≠ _; omega) (.bool sq)).other (p := ⟨w.heap.size + 1 + 1, 1, none⟩) (by show w.heap.size + 1 + 1 ≠ _; omega) (.slice aq' lq.length kq')).set0 (.bool sr)).set1 (.slice ar' lr.length kr'))
        obtain ⟨g1, g2, -⟩ := y1
        obtain ⟨g3, g4, -⟩ := y2
        have hlt : w.heap.size + 1 + 1 + 1 < w2.heap.size := by omega
        refine bodyPost_ret (v := .tuple #[.agg #[.bool sq, .slice aq' lq.length kq'], .agg #[.bool sr, .slice ar' lr.length kr'], .int .i64 0]) (by simp [results, Tryz.results16, go_sem, g1, g2, g3, g4]) rfl ⟨⟨sq, lq, _, sr, lr, _, rfl, ?_, ?_, HV.out.1, HV.out.2.1, HV.out.2.2.1, HV.out.2.2.2, HA.out⟩, (by repeat (first | exact Below.refl _ _ | with_reducible refine Below.drew ?_ | with_reducible refine below_drewN ?_ _ | with_reducible refine Below.setCell ?_ (by first | (simp; done) | (simp; omega) | omega) _ | with_reducible refine Below.alloc ?_ (by first | (simp; done) | (simp; omega) | omega) _ | (with_reducible refine Below.step ?_ HB.out)))⟩
        · exact ((((HQ.out.setBox (by omega) _ _).setBox (by omega) _ _).setBox (by omega) _ _).setBox (by omega) _ _).mono (by omega)
        · exact ((((HR.out.setBox (by omega) _ _).setBox (by omega) _ _).setBox (by omega) _ _).setBox (by omega) _ _).mono (by omega)

end Go.Proofs.YtgpoljbccimkjaaGreatDoor
