/- Walks: the text of a fraction. -/
import Derived.Test.YtgpoljbccimkjaaGreatDoorFCut
import Derived.Test.YtgpoljbccimkjaaGreatDoorParse
import Derived.Test.YtgpoljbccimkjaaGreatDoorReadMath
namespace Go.Proofs.YtgpoljbccimkjaaGreatDoor
set_option linter.unusedSimpArgs false
set_option linter.unusedVariables false
open Go.RowKit Go.Shelf

/-- The text of the number below. -/
def belowOf (l : List UInt8) : List UInt8 := if (cutAt l).2.2 then (cutAt l).2.1 else [49]
theorem cutAt_len (l : List UInt8) : (cutAt l).1.length ≤ l.length ∧ (cutAt l).2.1.length ≤ l.length := by
  induction l with
  | nil => exact ⟨Nat.le_refl _, Nat.le_refl _⟩
  | cons b l ih =>
    unfold cutAt
    split
    · exact ⟨by simp, by simp⟩
    · exact ⟨by simpa using ih.1, by simpa using Nat.le_succ_of_le ih.2⟩
theorem belowOf_len (l : List UInt8) : (belowOf l).length ≤ l.length + 1 := by
  unfold belowOf
  have := cutAt_len l
  split
  · omega
  · simp
/-- What is wrong with a text that is no fraction's. -/
def fracForm (l : List UInt8) : Bool := decide (parseE (cutAt l).1 = 4) || decide (parseE (belowOf l) = 4) || decide (belowOf l = [48]) || Lib.hasPrefix (belowOf l) [45]
def fracE (l : List UInt8) : Int := if fracForm l then 4 else if parseE (cutAt l).1 = 0 ∧ parseE (belowOf l) = 0 then 0 else 3
def fracQ (l : List UInt8) : Rat := Rat.divInt (parseZ (cutAt l).1) (parseZ (belowOf l))
theorem fracE_form {l : List UInt8} (h : fracForm l = true) : fracE l = 4 := by unfold fracE; rw [if_pos h]
theorem fracE_ok {l : List UInt8} (h : fracForm l = false) (h1 : parseE (cutAt l).1 = 0) (h2 : parseE (belowOf l) = 0) : fracE l = 0 := by unfold fracE; rw [if_neg (by simp [h]), if_pos ⟨h1, h2⟩]
theorem fracE_long {l : List UInt8} (h : fracForm l = false) (h1 : ¬ (parseE (cutAt l).1 = 0 ∧ parseE (belowOf l) = 0)) : fracE l = 3 := by unfold fracE; rw [if_neg (by simp [h]), if_neg h1]

/-- A text that is a number's, not 0, and not below 0. -/
theorem below_pos {l : List UInt8} (h : parseE l = 0) (h1 : l ≠ [48]) (h2 : Lib.hasPrefix l [45] = false) : 0 < parseZ l := by
  obtain ⟨g1, g2, g3⟩ := parse_plain h
  have hb : belowB l = false := h2
  have hd := above_same hb
  unfold parseZ
  rw [if_pos h, if_neg (by simp [hb])]
  have := plain_pos g1 (by rw [hd]; exact h1)
  omega

/-- What Parse answers. -/
def ParsedF (w : World) (l : List UInt8) (e : Ending) (w' : World) : Prop := (if fracE l = 0 then FrTup w' e 23 (fracQ l) else e = .returned (.tuple #[frNone, .int .i64 (fracE l)])) ∧ Below w.heap.size w w'
theorem ParsedF.bad {w w' : World} {l : List UInt8} {n : Int} (h : fracE l = n) (hn : n ≠ 0) (hb : Below w.heap.size w w') : ParsedF w l (.returned (.tuple #[frNone, .int .i64 n])) w' := by
  unfold ParsedF
  rw [h, if_neg hn]
  exact ⟨rfl, hb⟩
theorem ParsedF.good {w w' : World} {l : List UInt8} {u : Value} (h : fracE l = 0) (hu : FrOk w' u 23 (fracQ l)) (hb : Below w.heap.size w w') : ParsedF w l (.returned (.tuple #[u, .int .i64 0])) w' := by
  unfold ParsedF
  rw [if_pos h]
  exact ⟨⟨u, rfl, hu⟩, hb⟩
theorem parseZ_lt (l : List UInt8) : (parseZ l).natAbs < 1000000000 ^ 23 := by
  by_cases h : parseE l = 0
  · exact parseZ_bound h
  · rw [(parse_nought h).1]
    exact Nat.pow_pos (by decide)

set_option maxRecDepth 100000 in
set_option maxHeartbeats 8000000 in
theorem ParseF_any (l : List UInt8) (w : World) (hl : l.length ≤ 90000) :
    Calls Tryz.prog 56 #[.string ⟨l.toArray⟩] w fun e w' => ParsedF w l e w' := by
  have hA := (cutAt_len l).1
  have hB := belowOf_len l
  have HL : Hid ((cutAt l).1.length ≤ 2000000 ∧ (belowOf l).length ≤ 2000000 ∧ l.length ≤ 100000) := ⟨by omega, by omega, by omega⟩
  obtain ⟨A, eA⟩ : ∃ A, (cutAt l).1 = A := ⟨_, rfl⟩
  obtain ⟨B, eB⟩ : ∃ B, belowOf l = B := ⟨_, rfl⟩
  have EA := Lib.hid eA
  have EB := Lib.hid eB
  obtain ⟨W0, e0, n0, hb0, -⟩ := box_fr w
  have N0 := n0.keep
  have B0 := Lib.hid hb0
  clear hl hA hB n0 hb0
  cases hf : (cutAt l).2.2
  · have hB1 : B = [49] := by
      rw [← eB]
      unfold belowOf
      rw [hf]
      rfl
    subst hB1
    have HF := Lib.hid hf
    clear hf eA eB
    go_enter Tryz.func56, Tryz.ntmps56
    go_wp2_with fail
    clear e0
    refine (Cut_slash l _ HL.out.2.2).mono ?_
    rintro e w1 ⟨rfl, hb1⟩
    rw [HF.out, EA.out]
    have B1 := Lib.hid hb1
    clear hb1
    go_wp2_with fail
    refine (Parse_any A _ (by rw [← EA.out]; exact HL.out.1)).mono ?_
    rintro e w2 ⟨⟨s1, l1, v1, rfl, ow1, ok1, z1⟩, hb2⟩
    have o1 : OkAt w2 (.agg #[.bool s1, v1]) 23 (parseZ A) := ⟨s1, v1, l1, rfl, ow1.lim, ok1, z1, len_of_valS ok1 (by rw [z1]; exact parseZ_lt A)⟩
    obtain ⟨a1, c1, rfl, -⟩ := ow1.lim
    obtain ⟨E1, hE1⟩ : ∃ E1, parseE A = E1 := ⟨_, rfl⟩
    rw [hE1]
    obtain ⟨W3, e3, b3⟩ : ∃ W3, w2.alloc (.cells #[.bool s1, .slice a1 l1.length c1] 24) = W3 ∧ Below w2.heap.size w2 W3 := ⟨_, rfl, (Below.refl _ _).alloc (Nat.le_refl _) _⟩
    have m3 : BoxV W3 w2.heap.size [.bool s1, .slice a1 l1.length c1] := by
      rw [← e3]
      exact BoxV.new _ _ _
    have M3 := m3.keep
    have O1 := (o1.below b3).keep
    have HE1 := Lib.hid hE1
    have B3 := Lib.hid (Below.step (Below.step B1.out hb2) b3)
    clear m3 o1 b3 hb2 ow1 ok1 z1 hE1
    go_wp2_with fail
    clear e3
    refine (Parse_any [49] _ (by rw [← EB.out]; exact HL.out.2.1)).mono ?_
    rintro e w4 ⟨⟨s2, l2, v2, rfl, ow2, ok2, z2⟩, hb4⟩
    have o2 : OkAt w4 (.agg #[.bool s2, v2]) 23 (parseZ [49]) := ⟨s2, v2, l2, rfl, ow2.lim, ok2, z2, len_of_valS ok2 (by rw [z2]; exact parseZ_lt [49])⟩
    obtain ⟨a2, c2, rfl, -⟩ := ow2.lim
    obtain ⟨E2, hE2⟩ : ∃ E2, parseE [49] = E2 := ⟨_, rfl⟩
    rw [hE2]
    obtain ⟨W5, e5, b5⟩ : ∃ W5, w4.alloc (.cells #[.bool s2, .slice a2 l2.length c2] 24) = W5 ∧ Below w4.heap.size w4 W5 := ⟨_, rfl, (Below.refl _ _).alloc (Nat.le_refl _) _⟩
    have m5 : BoxV W5 w4.heap.size [.bool s2, .slice a2 l2.length c2] := by
      rw [← e5]
      exact BoxV.new _ _ _
    have b35 := Below.step hb4 b5
    have O2 := Lib.hid (o2.below b5)
    have O1 := Lib.hid (O1.out _ b35)
    obtain ⟨g0, g1, -, -⟩ := m5.c2
    obtain ⟨g2, g3, -, -⟩ := (M3.out _ b35).c2
    have HE2 := Lib.hid hE2
    have B5 := Lib.hid (Below.step B3.out b35)
    have hN := N0.out _ B5.out
    have N := Lib.hid hN
    obtain ⟨k0, k1, k2, k3⟩ := hN.c4
    obtain ⟨f0, f1, f2, f3⟩ := hN.f4
    clear m5 o2 b5 hb4 ow2 ok2 z2 hE2 b35 hN
    have form : ∀ b, (decide (E1 = 4) || decide (E2 = 4) || decide ([49] = [48]) || Lib.hasPrefix [49] [45]) = b → fracForm l = b := fun b h => by
      unfold fracForm
      rw [EA.out, EB.out, HE1.out, HE2.out]
      exact h
    have FORM := Lib.hid form
    clear form
    by_cases h1 : E1 = 4
    · have q1 : (E1 == 4) = true := by simp [h1]
      have HQ : Hid (fracE l = 4) := fracE_form (FORM.out true (by simp [h1]))
      clear h1
      go_wp2_with fail
      obtain ⟨W', e, hst, hbx⟩ := N.out.store (ys := [.bool false, .slice none 0 0, .bool false, .slice none 0 0]) rfl rfl
      simp only [setAll] at e
      rw [e]
      exact ret_frn (t := 2) (s0 := 3) rfl rfl rfl rfl hbx (ParsedF.bad HQ.out (by decide) (hst.below w (Nat.le_refl _) (Below.step B0.out B5.out)))
    · have q1 : (E1 == 4) = false := by simp [h1]
      have H1 := Lib.hid h1
      clear h1
      by_cases h2 : E2 = 4
      · have q2 : (E2 == 4) = true := by simp [h2]
        have HQ : Hid (fracE l = 4) := fracE_form (FORM.out true (by simp [h2]))
        clear h2
        go_wp2_with fail
        obtain ⟨W', e, hst, hbx⟩ := N.out.store (ys := [.bool false, .slice none 0 0, .bool false, .slice none 0 0]) rfl rfl
        simp only [setAll] at e
        rw [e]
        exact ret_frn (t := 2) (s0 := 3) rfl rfl rfl rfl hbx (ParsedF.bad HQ.out (by decide) (hst.below w (Nat.le_refl _) (Below.step B0.out B5.out)))
      · have q2 : (E2 == 4) = false := by simp [h2]
        have H2 := Lib.hid h2
        clear h2
        have NOT0 : Hid ([49] ≠ ([48] : List UInt8)) := show [49] ≠ ([48] : List UInt8) from by decide
        have NOPRE : Hid (Lib.hasPrefix [49] [45] = false) := show Lib.hasPrefix [49] [45] = false from by decide
        have NOFORM : Hid (fracForm l = false) := FORM.out false (by simp [H1.out, H2.out]; decide)
        go_wp2_with fail
        refine (Tryz.strings_HasPrefix ⟨[49].toArray⟩ ⟨#[45]⟩ _).mono ?_
        rintro e w' ⟨rfl, rfl⟩
        rw [show Lib.hasPrefix (⟨[49].toArray⟩ : ByteArray).data.toList (⟨#[45]⟩ : ByteArray).data.toList = false from by decide]
        by_cases h5 : E1 = 0 ∧ E2 = 0
        · have q4 : (E1 != 0) = false := by simp [h5.1]
          have q5 : (E2 != 0) = false := by simp [h5.2]
          have HQ : Hid (fracE l = 0) := fracE_ok NOFORM.out (EA.out ▸ HE1.out.trans h5.1) (EB.out ▸ HE2.out.trans h5.2)
          have HP : Hid (0 < parseZ [49]) := below_pos (HE2.out.trans h5.2) NOT0.out NOPRE.out
          clear h5
          go_wp2_with fail
          refine (reduced_num O1.out O2.out (by decide) (by decide) (by have := HP.out; omega)).mono ?_
          rintro e w7 ⟨⟨u7, rfl, h7⟩, hb7⟩
          have H7 := Lib.hid h7
          obtain ⟨s3, a3, n3, c3, s4, a4, n4, c4, rfl, -⟩ := h7.split
          have B7 := Lib.hid (Below.step B5.out hb7)
          have hN := N0.out _ B7.out
          have N7 := Lib.hid hN
          obtain ⟨j0, j1, j2, j3⟩ := hN.c4
          obtain ⟨i0, i1, i2, i3⟩ := hN.f4
          clear h7 hb7 hN k0 k1 k2 k3 f0 f1 f2 f3 g0 g1 g2 g3
          go_wp2_with fail
          obtain ⟨W', e, hst, hbx⟩ := N7.out.store (ys := [.bool s3, .slice a3 n3 c3, .bool s4, .slice a4 n4 c4]) rfl rfl
          simp only [setAll] at e
          rw [e]
          refine ret_frn (t := 2) (s0 := 3) rfl rfl rfl rfl hbx (ParsedF.good HQ.out ?_ (hst.below w (Nat.le_refl _) (Below.step B0.out B7.out)))
          unfold fracQ
          rw [EA.out, EB.out]
          exact H7.out.store hst
        · have HQ : Hid (fracE l = 3) := fracE_long NOFORM.out (fun h => h5 ⟨by rw [← HE1.out, ← EA.out]; exact h.1, by rw [← HE2.out, ← EB.out]; exact h.2⟩)
          by_cases h6 : E1 = 0
          · have h7 : E2 ≠ 0 := fun h => h5 ⟨h6, h⟩
            have q4 : (E1 != 0) = false := by simp [h6]
            have q5 : (E2 != 0) = true := by simp [h7]
            clear h5 h6 h7
            go_wp2_with fail
            obtain ⟨W', e, hst, hbx⟩ := N.out.store (ys := [.bool false, .slice none 0 0, .bool false, .slice none 0 0]) rfl rfl
            simp only [setAll] at e
            rw [e]
            exact ret_frn (t := 2) (s0 := 3) rfl rfl rfl rfl hbx (ParsedF.bad HQ.out (by decide) (hst.below w (Nat.le_refl _) (Below.step B0.out B5.out)))
          · have q4 : (E1 != 0) = true := by simp [h6]
            clear h5 h6
            go_wp2_with fail
            obtain ⟨W', e, hst, hbx⟩ := N.out.store (ys := [.bool false, .slice none 0 0, .bool false, .slice none 0 0]) rfl rfl
            simp only [setAll] at e
            rw [e]
            exact ret_frn (t := 2) (s0 := 3) rfl rfl rfl rfl hbx (ParsedF.bad HQ.out (by decide) (hst.below w (Nat.le_refl _) (Below.step B0.out B5.out)))

  · have hC : (cutAt l).2.1 = B := by
      rw [← eB]
      unfold belowOf
      rw [hf]
      rfl
    have EC := Lib.hid hC
    clear hC
    have HF := Lib.hid hf
    clear hf eA eB
    go_enter Tryz.func56, Tryz.ntmps56
    go_wp2_with fail
    clear e0
    refine (Cut_slash l _ HL.out.2.2).mono ?_
    rintro e w1 ⟨rfl, hb1⟩
    rw [HF.out, EA.out, EC.out]
    have B1 := Lib.hid hb1
    clear hb1
    go_wp2_with fail
    refine (Parse_any A _ (by rw [← EA.out]; exact HL.out.1)).mono ?_
    rintro e w2 ⟨⟨s1, l1, v1, rfl, ow1, ok1, z1⟩, hb2⟩
    have o1 : OkAt w2 (.agg #[.bool s1, v1]) 23 (parseZ A) := ⟨s1, v1, l1, rfl, ow1.lim, ok1, z1, len_of_valS ok1 (by rw [z1]; exact parseZ_lt A)⟩
    obtain ⟨a1, c1, rfl, -⟩ := ow1.lim
    obtain ⟨E1, hE1⟩ : ∃ E1, parseE A = E1 := ⟨_, rfl⟩
    rw [hE1]
    obtain ⟨W3, e3, b3⟩ : ∃ W3, w2.alloc (.cells #[.bool s1, .slice a1 l1.length c1] 24) = W3 ∧ Below w2.heap.size w2 W3 := ⟨_, rfl, (Below.refl _ _).alloc (Nat.le_refl _) _⟩
    have m3 : BoxV W3 w2.heap.size [.bool s1, .slice a1 l1.length c1] := by
      rw [← e3]
      exact BoxV.new _ _ _
    have M3 := m3.keep
    have O1 := (o1.below b3).keep
    have HE1 := Lib.hid hE1
    have B3 := Lib.hid (Below.step (Below.step B1.out hb2) b3)
    clear m3 o1 b3 hb2 ow1 ok1 z1 hE1
    go_wp2_with fail
    clear e3
    refine (Parse_any B _ (by rw [← EB.out]; exact HL.out.2.1)).mono ?_
    rintro e w4 ⟨⟨s2, l2, v2, rfl, ow2, ok2, z2⟩, hb4⟩
    have o2 : OkAt w4 (.agg #[.bool s2, v2]) 23 (parseZ B) := ⟨s2, v2, l2, rfl, ow2.lim, ok2, z2, len_of_valS ok2 (by rw [z2]; exact parseZ_lt B)⟩
    obtain ⟨a2, c2, rfl, -⟩ := ow2.lim
    obtain ⟨E2, hE2⟩ : ∃ E2, parseE B = E2 := ⟨_, rfl⟩
    rw [hE2]
    obtain ⟨W5, e5, b5⟩ : ∃ W5, w4.alloc (.cells #[.bool s2, .slice a2 l2.length c2] 24) = W5 ∧ Below w4.heap.size w4 W5 := ⟨_, rfl, (Below.refl _ _).alloc (Nat.le_refl _) _⟩
    have m5 : BoxV W5 w4.heap.size [.bool s2, .slice a2 l2.length c2] := by
      rw [← e5]
      exact BoxV.new _ _ _
    have b35 := Below.step hb4 b5
    have O2 := Lib.hid (o2.below b5)
    have O1 := Lib.hid (O1.out _ b35)
    obtain ⟨g0, g1, -, -⟩ := m5.c2
    obtain ⟨g2, g3, -, -⟩ := (M3.out _ b35).c2
    have HE2 := Lib.hid hE2
    have B5 := Lib.hid (Below.step B3.out b35)
    have hN := N0.out _ B5.out
    have N := Lib.hid hN
    obtain ⟨k0, k1, k2, k3⟩ := hN.c4
    obtain ⟨f0, f1, f2, f3⟩ := hN.f4
    clear m5 o2 b5 hb4 ow2 ok2 z2 hE2 b35 hN
    have form : ∀ b, (decide (E1 = 4) || decide (E2 = 4) || decide (B = [48]) || Lib.hasPrefix B [45]) = b → fracForm l = b := fun b h => by
      unfold fracForm
      rw [EA.out, EB.out, HE1.out, HE2.out]
      exact h
    have FORM := Lib.hid form
    clear form
    by_cases h1 : E1 = 4
    · have q1 : (E1 == 4) = true := by simp [h1]
      have HQ : Hid (fracE l = 4) := fracE_form (FORM.out true (by simp [h1]))
      clear h1
      go_wp2_with fail
      obtain ⟨W', e, hst, hbx⟩ := N.out.store (ys := [.bool false, .slice none 0 0, .bool false, .slice none 0 0]) rfl rfl
      simp only [setAll] at e
      rw [e]
      exact ret_frn (t := 2) (s0 := 3) rfl rfl rfl rfl hbx (ParsedF.bad HQ.out (by decide) (hst.below w (Nat.le_refl _) (Below.step B0.out B5.out)))
    · have q1 : (E1 == 4) = false := by simp [h1]
      have H1 := Lib.hid h1
      clear h1
      by_cases h2 : E2 = 4
      · have q2 : (E2 == 4) = true := by simp [h2]
        have HQ : Hid (fracE l = 4) := fracE_form (FORM.out true (by simp [h2]))
        clear h2
        go_wp2_with fail
        obtain ⟨W', e, hst, hbx⟩ := N.out.store (ys := [.bool false, .slice none 0 0, .bool false, .slice none 0 0]) rfl rfl
        simp only [setAll] at e
        rw [e]
        exact ret_frn (t := 2) (s0 := 3) rfl rfl rfl rfl hbx (ParsedF.bad HQ.out (by decide) (hst.below w (Nat.le_refl _) (Below.step B0.out B5.out)))
      · have q2 : (E2 == 4) = false := by simp [h2]
        have H2 := Lib.hid h2
        clear h2
        by_cases h3 : B = [48]
        · have HQ : Hid (fracE l = 4) := fracE_form (FORM.out true (by simp [h3]))
          have q3 : (B == [48]) = true := by rw [beq_iff_eq]; exact h3
          clear h3
          go_wp2_with fail
          obtain ⟨W', e, hst, hbx⟩ := N.out.store (ys := [.bool false, .slice none 0 0, .bool false, .slice none 0 0]) rfl rfl
          simp only [setAll] at e
          rw [e]
          exact ret_frn (t := 2) (s0 := 3) rfl rfl rfl rfl hbx (ParsedF.bad HQ.out (by decide) (hst.below w (Nat.le_refl _) (Below.step B0.out B5.out)))
        · have q3 : (B == [48]) = false := by rw [beq_eq_false_iff_ne]; exact h3
          have NOT0 := Lib.hid h3
          clear h3
          go_wp2_with fail
          refine (Tryz.strings_HasPrefix ⟨B.toArray⟩ ⟨#[45]⟩ _).mono ?_
          rintro e w' ⟨rfl, rfl⟩
          rw [show (⟨B.toArray⟩ : ByteArray).data.toList = B from rfl, show (⟨#[45]⟩ : ByteArray).data.toList = [45] from rfl]
          cases hpre : Lib.hasPrefix B [45]
          · have NOPRE := Lib.hid hpre
            have NOFORM : Hid (fracForm l = false) := FORM.out false (by simp [H1.out, H2.out, NOT0.out, NOPRE.out])
            clear hpre
            by_cases h5 : E1 = 0 ∧ E2 = 0
            · have q4 : (E1 != 0) = false := by simp [h5.1]
              have q5 : (E2 != 0) = false := by simp [h5.2]
              have HQ : Hid (fracE l = 0) := fracE_ok NOFORM.out (EA.out ▸ HE1.out.trans h5.1) (EB.out ▸ HE2.out.trans h5.2)
              have HP : Hid (0 < parseZ B) := below_pos (HE2.out.trans h5.2) NOT0.out NOPRE.out
              clear h5
              go_wp2_with fail
              refine (reduced_num O1.out O2.out (by decide) (by decide) (by have := HP.out; omega)).mono ?_
              rintro e w7 ⟨⟨u7, rfl, h7⟩, hb7⟩
              have H7 := Lib.hid h7
              obtain ⟨s3, a3, n3, c3, s4, a4, n4, c4, rfl, -⟩ := h7.split
              have B7 := Lib.hid (Below.step B5.out hb7)
              have hN := N0.out _ B7.out
              have N7 := Lib.hid hN
              obtain ⟨j0, j1, j2, j3⟩ := hN.c4
              obtain ⟨i0, i1, i2, i3⟩ := hN.f4
              clear h7 hb7 hN k0 k1 k2 k3 f0 f1 f2 f3 g0 g1 g2 g3
              go_wp2_with fail
              obtain ⟨W', e, hst, hbx⟩ := N7.out.store (ys := [.bool s3, .slice a3 n3 c3, .bool s4, .slice a4 n4 c4]) rfl rfl
              simp only [setAll] at e
              rw [e]
              refine ret_frn (t := 2) (s0 := 3) rfl rfl rfl rfl hbx (ParsedF.good HQ.out ?_ (hst.below w (Nat.le_refl _) (Below.step B0.out B7.out)))
              unfold fracQ
              rw [EA.out, EB.out]
              exact H7.out.store hst
            · have HQ : Hid (fracE l = 3) := fracE_long NOFORM.out (fun h => h5 ⟨by rw [← HE1.out, ← EA.out]; exact h.1, by rw [← HE2.out, ← EB.out]; exact h.2⟩)
              by_cases h6 : E1 = 0
              · have h7 : E2 ≠ 0 := fun h => h5 ⟨h6, h⟩
                have q4 : (E1 != 0) = false := by simp [h6]
                have q5 : (E2 != 0) = true := by simp [h7]
                clear h5 h6 h7
                go_wp2_with fail
                obtain ⟨W', e, hst, hbx⟩ := N.out.store (ys := [.bool false, .slice none 0 0, .bool false, .slice none 0 0]) rfl rfl
                simp only [setAll] at e
                rw [e]
                exact ret_frn (t := 2) (s0 := 3) rfl rfl rfl rfl hbx (ParsedF.bad HQ.out (by decide) (hst.below w (Nat.le_refl _) (Below.step B0.out B5.out)))
              · have q4 : (E1 != 0) = true := by simp [h6]
                clear h5 h6
                go_wp2_with fail
                obtain ⟨W', e, hst, hbx⟩ := N.out.store (ys := [.bool false, .slice none 0 0, .bool false, .slice none 0 0]) rfl rfl
                simp only [setAll] at e
                rw [e]
                exact ret_frn (t := 2) (s0 := 3) rfl rfl rfl rfl hbx (ParsedF.bad HQ.out (by decide) (hst.below w (Nat.le_refl _) (Below.step B0.out B5.out)))

          · have HQ : Hid (fracE l = 4) := fracE_form (FORM.out true (by simp [hpre]))
            clear hpre
            go_wp2_with fail
            obtain ⟨W', e, hst, hbx⟩ := N.out.store (ys := [.bool false, .slice none 0 0, .bool false, .slice none 0 0]) rfl rfl
            simp only [setAll] at e
            rw [e]
            exact ret_frn (t := 2) (s0 := 3) rfl rfl rfl rfl hbx (ParsedF.bad HQ.out (by decide) (hst.below w (Nat.le_refl _) (Below.step B0.out B5.out)))


end Go.Proofs.YtgpoljbccimkjaaGreatDoor

namespace Go.Proofs.YtgpoljbccimkjaaGreatDoor
set_option linter.unusedSimpArgs false
set_option linter.unusedVariables false
open Go.RowKit Go.Shelf

/-- The text of a whole number. -/
def decI (Z : Int) : List UInt8 := if Z < 0 then 45 :: Lib.decDigits Z.natAbs else Lib.decDigits Z.natAbs
/-- The text of a fraction. -/
def txtR (q : Rat) : List UInt8 := if q.den = 1 then decI q.num else (decI q.num ++ [47]) ++ decI (q.den : Int)

theorem txt_decI {s : Bool} {l : List Nat} (h : okB s l = true) : txt s l = decI (valS s l) := by
  have h0 := okB_nil_iff h
  obtain ⟨h1, h2, h3⟩ := okB_iff.1 h
  have h4 := valS_abs s l
  unfold txt decI
  rw [h4]
  cases s with
  | true =>
    have hne : valS true l ≠ 0 := fun e => by
      have := h3 (h0.1 e)
      cases this
    have e : valS true l = -(val l : Int) := rfl
    rw [if_pos rfl, if_pos (by omega)]
  | false =>
    have e : valS false l = (val l : Int) := rfl
    rw [if_neg (by decide), if_neg (by omega)]
theorem decI_len {Z : Int} {k : Nat} (h : Z.natAbs < 1000000000 ^ k) : (decI Z).length ≤ 9 * k + 2 := by
  have h1 : (1000000000 : Nat) ^ k ≤ 10 ^ (9 * k + 1) := by
    rw [show (1000000000 : Nat) = 10 ^ 9 from by decide, ← Nat.pow_mul]
    exact Nat.pow_le_pow_right (by decide) (by omega)
  have h2 := decDigits_bound (9 * k) Z.natAbs (Nat.lt_of_lt_of_le h h1)
  unfold decI
  split
  · simp only [List.length_cons]
    omega
  · omega

theorem Text_num {w : World} {u : Value} {k : Nat} {Z : Int} (h : OkAt w u k Z) (hk : k ≤ 1000000) (ht : Tab w) :
    Calls Tryz.prog 32 #[u] w fun e w' => e = .returned (.string ⟨(decI Z).toArray⟩) ∧ Below w.heap.size w w' := by
  obtain ⟨s, v, l, rfl, h1, h2, h3, h4⟩ := h
  refine (Text_any s v l w h1 (by omega) ht).mono ?_
  rintro e w' ⟨rfl, hb⟩
  have e1 : fitS s l = s := by unfold fitS; rw [if_pos h2]
  have e2 : fitL s l = l := by unfold fitL; rw [if_pos h2]
  rw [e1, e2, txt_decI h2, h3]
  exact ⟨rfl, hb⟩

set_option maxRecDepth 100000
theorem run_addS (a b : List UInt8) (h : a.length + b.length ≤ 9223372036854775807) (W : World) : (binOp .add 9 (.string ⟨a.toArray⟩) (.string ⟨b.toArray⟩)).run Tryz.prog W = .ok (.string ⟨(a ++ b).toArray⟩) W := by
  have h1 : (a.length : Int) + (b.length : Int) ≤ 9223372036854775807 := by omega
  have h2 : (⟨a.toArray⟩ : ByteArray) ++ ⟨b.toArray⟩ = ⟨(a ++ b).toArray⟩ := by
    apply ByteArray.ext
    simp
  go_simp
section
variable {bs : List (Nat × Bool)} {fs : List (Nat × (Value → World → Prop))} {w0 : World} {d : Nat} {ty : TypeId} {pos : String} {af : Array Edge} {g : Option (Nat × Bool)}
theorem step_addS {x y : Nat} {t' : TypeId} {s s' u : ByteArray} (hx : ∀ v w, Known bs fs x v w → v = .string s) (hy : ∀ v w, Known bs fs y v w → v = .string s') (hr : ∀ W : World, (binOp .add 9 (.string s) (.string s')).run Tryz.prog W = .ok (.string u) W) (h : ∀ w, Known bs fs d (.string u) w) : StepOk Tryz.prog bs fs w0 ⟨some d, .binOp .add 9 (.tmp x) (.tmp y) t', ty, pos, af, g⟩ :=
  step_value rfl fun a w hb hk => ⟨.string u, w, by
    have h1 := hx _ _ (hk x (by simp [looks, Op.operands]))
    have h2 := hy _ _ (hk y (by simp [looks, Op.operands]))
    have h3 := hr w
    simp only [execOp, h1, h2, eqGuard]
    exact value_run h3, h _, Below.refl _ _⟩
theorem step_addSc {x : Nat} {t' : TypeId} {s s' u : ByteArray} (hx : ∀ v w, Known bs fs x v w → v = .string s) (hr : ∀ W : World, (binOp .add 9 (.string s) (.string s')).run Tryz.prog W = .ok (.string u) W) (h : ∀ w, Known bs fs d (.string u) w) : StepOk Tryz.prog bs fs w0 ⟨some d, .binOp .add 9 (.tmp x) (.const (.string s')) t', ty, pos, af, g⟩ :=
  step_value rfl fun a w hb hk => ⟨.string u, w, by
    have h1 := hx _ _ (hk x (by simp [looks, Op.operands]))
    have h2 : a.eval (.const (.string s')) = .string s' := rfl
    have h3 := hr w
    simp only [execOp, h1, h2, eqGuard]
    exact value_run h3, h _, Below.refl _ _⟩
end

set_option maxHeartbeats 4000000 in
theorem TextF_at {w : World} {u : Value} {k : Nat} {q : Rat} (h : FrAt w u k q) (h1 : 1 ≤ k) (hk : k ≤ 1000000) (ht : Tab w) :
    Calls Tryz.prog 62 #[u] w fun e w' => e = .returned (.string ⟨(txtR q).toArray⟩) ∧ Below w.heap.size w w' := by
  have HA0 := h.keep
  have HK : Hid (1 ≤ k ∧ k ≤ 1000000) := ⟨h1, hk⟩
  have HT : Hid (∀ W, Below w.heap.size w W → Tab W) := fun W hb => ht.below hb
  obtain ⟨s, v0, l, s', v', l', rfl, g1, g2, -⟩ := h
  obtain ⟨a, c, rfl, -⟩ := g1
  obtain ⟨a', c', rfl, -⟩ := g2
  obtain ⟨W0, e0, b0⟩ : ∃ W0, w.alloc (.cells #[.bool s, .slice a l.length c, .bool s', .slice a' l'.length c'] 58) = W0 ∧ Below w.heap.size w W0 := ⟨_, rfl, (Below.refl _ _).alloc (Nat.le_refl _) _⟩
  have n0 : BoxV W0 w.heap.size [.bool s, .slice a l.length c, .bool s', .slice a' l'.length c'] := by
    rw [← e0]
    exact BoxV.new _ _ _
  have N0 := n0.keep
  have B0 := Lib.hid b0
  obtain ⟨c0, c1, c2, c3⟩ := n0.c4
  clear h1 hk ht n0 b0
  go_enter Tryz.func62, Tryz.ntmps62
  go_wp2_with fail
  clear e0
  refine (orNoughtF_at (HA0.out _ B0.out) HK.out.1 HK.out.2).mono ?_
  rintro e w1 ⟨⟨u, rfl, hu⟩, hb1⟩
  have HU := Lib.hid hu
  obtain ⟨s1, p1, n1, j1, s2, p2, n2, j2, rfl, -⟩ := hu.split
  have hN := N0.out _ hb1
  obtain ⟨d0, d1, d2, d3⟩ := hN.c4
  obtain ⟨f0, f1, f2, f3⟩ := hN.f4
  obtain ⟨W2, e2, hst, hbx⟩ := hN.store (ys := [.bool s1, .slice p1 n1 j1, .bool s2, .slice p2 n2 j2]) rfl rfl
  have N1 := hbx.keep
  have B2 := Lib.hid (hst.below w (Nat.le_refl _) (Below.step B0.out hb1))
  have hq := hu.store hst
  have HBD := Lib.hid hq.bound
  obtain ⟨q1, q2⟩ := hq.nums
  have HA := q1.keep
  have HB := q2.keep
  obtain ⟨g0, g1, g2, g3⟩ := hbx.c4
  simp only [setAll] at e2
  clear hu hN hst hbx hq q1 q2 hb1 c0 c1 c2 c3
  go_wp2_with fail
  clear e2 d0 d1 d2 d3 f0 f1 f2 f3
  by_cases hone : q.den = 1
  · refine (isOne_num (HB.out _ (Below.refl _ _)) true (decide_eq_true (by omega))).mono ?_
    rintro e w3 ⟨rfl, hb3⟩
    obtain ⟨d0, d1, -, -⟩ := (N1.out _ hb3).c4
    have hx : txtR q = decI q.num := by unfold txtR; rw [if_pos hone]
    have HX := Lib.hid hx
    clear hx
    have B3 := Lib.hid (Below.step B2.out hb3)
    have H3 := Lib.hid hb3
    clear hone hb3 g0 g1 g2 g3
    go_wp2_with fail
    refine (Text_num (HA.out _ H3.out) HK.out.2 (HT.out _ B3.out)).mono ?_
    rintro e w4 ⟨rfl, hb4⟩
    go_wp2_with fail
    go_ret
    exact ⟨by rw [HX.out]; rfl, Below.step B3.out hb4⟩
  · refine (isOne_num (HB.out _ (Below.refl _ _)) false (decide_eq_false (by omega))).mono ?_
    rintro e w3 ⟨rfl, hb3⟩
    have hx : txtR q = (decI q.num ++ [47]) ++ decI (q.den : Int) := by unfold txtR; rw [if_neg hone]
    have HX := Lib.hid hx
    clear hx
    have HLEN : Hid ((decI q.num).length + [(47 : UInt8)].length ≤ 9223372036854775807 ∧ (decI q.num ++ [47]).length + (decI (q.den : Int)).length ≤ 9223372036854775807) := by
      have b1 := decI_len HBD.out.1
      have b2 := decI_len (Z := (q.den : Int)) (k := k) (by rw [Int.natAbs_natCast]; exact HBD.out.2)
      have := HK.out.2
      simp only [List.length_append, List.length_cons, List.length_nil]
      exact ⟨by omega, by omega⟩
    have B3 := Lib.hid (Below.step B2.out hb3)
    have N1 := (N1.out _ hb3).keep
    have HA := (HA.out _ hb3).keep
    have HB := (HB.out _ hb3).keep
    have HT : Hid (∀ W, Below w3.heap.size w3 W → Tab W) := fun W hb => HT.out _ (Below.step B3.out hb)
    clear hone hb3 g0 g1 g2 g3
    go_upto_region 4 with fail
    rename_i K4 hK4
    refine wp_region_tail []
      [(1, IsV (.pointer (some ⟨w.heap.size, 0, none⟩)))]
      [(11, IsV (.pointer (some ⟨w.heap.size, 0, none⟩))), (12, IsO k (q.num)), (13, IsV (.string ⟨(decI (q.num)).toArray⟩)), (14, IsV (.string ⟨(decI q.num ++ [47]).toArray⟩)), (15, IsV (.pointer (some ⟨w.heap.size, 2, none⟩))), (16, IsO k ((q.den : Int))), (17, IsV (.string ⟨(decI ((q.den : Int))).toArray⟩)), (18, IsV (.string ⟨((decI q.num ++ [47]) ++ decI (q.den : Int)).toArray⟩))]
      [] 19 8 (by kernel_rfl) rfl (by kernel_rfl) (by kernel_rfl) (by kernel_rfl) (by kernel_rfl) ⟨rfl, trivial⟩ ⟨IsV.grows _ , IsV.grows _ , IsO.grows _ _ , IsV.grows _ , IsV.grows _ , IsV.grows _ , IsO.grows _ _ , IsV.grows _ , IsV.grows _ , trivial⟩ ?_ (fun d _ _ _ _ h => by cases d <;> exact h) ?_ ?_
    · refine AllStep2.step rfl rfl (step_fieldT (fun _ _ h => h) (fun _ => run_top) (fun _ => rfl)) ?_
      refine AllStep2.step rfl rfl (step_loadT (fun _ _ h => h) (fun W hb => run_load2 rfl (N1.out W hb).at0 (N1.out W hb).at1) (fun w hb => HA.out w hb)) ?_
      refine AllStep2.step rfl rfl (step_call1 (Plain.of Tryz.func32 rfl rfl) (fun _ w hb hu => (Text_num hu HK.out.2 (HT.out w hb)).mono (fun _ _ h => ansV h))) ?_
      refine AllStep2.step rfl rfl (step_addSc (fun _ _ h => h) (fun _ => run_addS _ _ HLEN.out.1 _) (fun _ => rfl)) ?_
      refine AllStep2.step rfl rfl (step_fieldT (fun _ _ h => h) (fun _ => run_low) (fun _ => rfl)) ?_
      refine AllStep2.step rfl rfl (step_loadT (fun _ _ h => h) (fun W hb => run_load2 rfl (N1.out W hb).at2 (N1.out W hb).at3) (fun w hb => HB.out w hb)) ?_
      refine AllStep2.step rfl rfl (step_call1 (Plain.of Tryz.func32 rfl rfl) (fun _ w hb hu => (Text_num hu HK.out.2 (HT.out w hb)).mono (fun _ _ h => ansV h))) ?_
      refine AllStep2.step rfl rfl (step_addS (fun _ _ h => h) (fun _ _ h => h) (fun _ => run_addS _ _ HLEN.out.2 _) (fun _ => rfl)) ?_
      exact AllStep2.nil
    · intro t ht v w hk
      simp only [List.mem_cons, List.not_mem_nil, or_false] at ht
    intro a4 w4 hb4 hs4 hd4 hk4 _
    have x18 : a4.eval (.tmp 18) = .string ⟨((decI q.num ++ [47]) ++ decI (q.den : Int)).toArray⟩ := hk4 18 (by kernel_rfl)
    refine wpOps_step (i := 8) (rest := []) rfl rfl ?_
    refine wp_assign ?_
    refine hK4 _ _ ?_
    refine wp_ret ?_
    refine ret_slot (t := 2) (v := .string ⟨(txtR q).toArray⟩) rfl ?_ ?_ ⟨rfl, Below.step B3.out hb4⟩
    · exact hd4
    · rw [eval_put (by rw [hs4]; decide), if_pos rfl, HX.out]
      exact x18

end Go.Proofs.YtgpoljbccimkjaaGreatDoor
