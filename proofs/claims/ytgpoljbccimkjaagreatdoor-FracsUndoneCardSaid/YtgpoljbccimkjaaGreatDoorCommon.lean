/- Walks: the greatest amount by which two can be divided. -/
import Derived.Test.YtgpoljbccimkjaaGreatDoorNear
import Derived.Test.YtgpoljbccimkjaaGreatDoorOf
import Derived.Test.YtgpoljbccimkjaaGreatDoorCmp
import Derived.BigQuiet
import Derived.BigRegion
namespace Go.Proofs.YtgpoljbccimkjaaGreatDoor
set_option linter.unusedSimpArgs false
set_option linter.unusedVariables false
open Go.RowKit Go.Shelf

/-- What a round of great steps holds. -/
def ComInv (w wr : World) (g : Nat) (va vb : Value) (la lb : List Nat) : Prop := Lim wr va la ∧ Lim wr vb lb ∧ (∀ x ∈ la, x < 1000000000) ∧ (∀ x ∈ lb, x < 1000000000) ∧ Top la ∧ Top lb ∧ val lb ≤ val la ∧ la.length ≤ 1000000 ∧ Nat.gcd (val la) (val lb) = g ∧ Below w.heap.size w wr

theorem ComInv.len {w wr : World} {g : Nat} {va vb : Value} {la lb : List Nat} (h : ComInv w wr g va vb la lb) : lb.length ≤ la.length := length_le_of_val h.2.2.1 h.2.2.2.2.2.1 h.2.2.2.2.2.2.1

set_option maxRecDepth 100000 in
set_option maxHeartbeats 4000000 in
theorem common_any (va vb : Value) (la lb : List Nat) (w : World) (ha : Lim w va la) (hb : Lim w vb lb) (h1 : ∀ x ∈ la, x < 1000000000) (h2 : ∀ x ∈ lb, x < 1000000000) (ta : Top la) (tb : Top lb) (n1 : la.length ≤ 1000000) (n2 : lb.length ≤ 1000000) :
    Calls Tryz.prog 75 #[va, vb] w fun e w' => (∃ v l, e = .returned v ∧ OwnL w.heap.size w' v l ∧ (∀ x ∈ l, x < 1000000000) ∧ val l = Nat.gcd (val la) (val lb)) ∧ Below w.heap.size w w' := by
  have HLA := Lib.hid ha
  have HLB := Lib.hid hb
  have H1 := Lib.hid h1
  have H2 := Lib.hid h2
  have HTA := Lib.hid ta
  have HTB := Lib.hid tb
  obtain ⟨a, c, rfl, -⟩ := ha
  obtain ⟨a', c', rfl, -⟩ := hb
  obtain ⟨g, hg⟩ : ∃ g, Nat.gcd (val la) (val lb) = g := ⟨_, rfl⟩
  have HG := Lib.hid hg
  rw [hg]
  clear h1 h2 ta tb hg
  go_enter Tryz.func75, Tryz.ntmps75
  go_wp2_with fail
  refine (compare_any _ _ la lb _ HLA.out HLB.out).mono ?_
  rintro e w1 ⟨r, rfl, hc, hb1⟩
  have hr := hc.val H1.out H2.out HTA.out HTB.out
  have HB1 := Lib.hid hb1
  have HR := Lib.hid hr
  clear hb1 hc hr
  go_upto_if 10 with fail
  go_cut [0, 1] from 11 to 12 (fun u v wx => ∃ la1 lb1 a1 c1 a2 c2, u = .slice a1 la1.length c1 ∧ v = .slice a2 lb1.length c2 ∧ Hid (ComInv w wx g (.slice a1 la1.length c1) (.slice a2 lb1.length c2) la1 lb1))
  case first =>
    by_cases hlt : val la < val lb
    · have hr : r = -1 := by rw [HR.out, cmpI_lt (by omega)]
      subst hr
      go_wp2_with fail
      go_meet
      exact ⟨lb, la, _, _, _, _, rfl, rfl, HLB.out.below HB1.out, HLA.out.below HB1.out, H2.out, H1.out, HTB.out, HTA.out, by omega, n2, by rw [Nat.gcd_comm]; exact HG.out, HB1.out⟩
    · have hr : 0 ≤ r := by
        have := HR.out
        unfold cmpI at this
        split at this
        · omega
        · split at this <;> omega
      go_wp2_with fail
      go_meet
      exact ⟨la, lb, _, _, _, _, rfl, rfl, HLA.out.below HB1.out, HLB.out.below HB1.out, H1.out, H2.out, HTA.out, HTB.out, by omega, n1, HG.out, HB1.out⟩
  case rest =>
    obtain ⟨la1, lb1, a1, c1, a2, c2, rfl, rfl, HC⟩ := hcut
    clear HR
    go_wp2_with fail
    go_loopg [0, 1] (val lb1) (fun m u v wr => ∃ la2 lb2 b1 d1 b2 d2, m = val lb2 ∧ u = .slice b1 la2.length d1 ∧ v = .slice b2 lb2.length d2 ∧ Hid (ComInv w wr g (.slice b1 la2.length d1) (.slice b2 lb2.length d2) la2 lb2))
    case atStart => exact ⟨la1, lb1, _, _, _, _, rfl, rfl, rfl, HC⟩
    case round =>
      obtain ⟨la2, lb2, b1, d1, b2, d2, hm, rfl, rfl, HI⟩ := hrel
      have HM := Lib.hid hm
      have hlen := HI.out.len
      have hlb : la2.length ≤ 1000000 := HI.out.2.2.2.2.2.2.2.1
      clear hm HC
      by_cases h3 : 2 < la2.length ∧ 0 < lb2.length
      · obtain ⟨h3, h4⟩ := h3
        obtain ⟨i1, i2, i3, i4, i5, i6, i7, i8, i9, i10⟩ := HI.out
        have I9 := Lib.hid i9
        have I10 := Lib.hid i10
        have I1 := Lib.hid i1
        have I2 := Lib.hid i2
        have I3 := Lib.hid i3
        have I4 := Lib.hid i4
        have I6 := Lib.hid i6
        clear i1 i2 i3 i4 i5 i6 i7 i9 i10
        go_wp2_with fail
        refine (nearer_any _ _ la2 lb2 _ I1.out I2.out I3.out I4.out I6.out (by omega) (by omega) hlen i8).mono ?_
        rintro e w3 ⟨⟨vc, vd, lc, ld, rfl, j1, j2, j3, j4, j5, j6, j7, j8, j9, j10⟩, hb3⟩
        have J : Hid (Below w.heap.size w w3) := Below.step I10.out hb3
        have J1 := Lib.hid j1
        have J2 := Lib.hid j2
        have J3 := Lib.hid (And.intro j3 (And.intro j4 (And.intro j5 (And.intro j6 (And.intro j7 (And.intro j8 (And.intro j9 j10)))))))
        obtain ⟨a3, c3, rfl, -⟩ := j1
        obtain ⟨a4, c4, rfl, -⟩ := j2
        clear hb3 j3 j4 j5 j6 j7 j8 j9 j10
        go_wp2_with fail
        go_roundg (val ld)
        case rel =>
          obtain ⟨j3, j4, j5, j6, j7, j8, j9, j10⟩ := J3.out
          exact ⟨lc, ld, _, _, _, _, rfl, rfl, rfl, J1.out, J2.out, j3, j4, j5, j6, j9, by omega, by rw [j10]; exact I9.out, J.out⟩
        case measure =>
          rw [HM.out]
          exact J3.out.2.2.2.2.2.1
      · by_cases h4 : lb2.length = 0
        · have hb0 : ((lb2.length : Int) == 0) = true := by rw [h4]; rfl
          have HL0 := Lib.hid h4
          have hb2 : decide ((lb2.length : Int) > 0) = false := by rw [h4]; rfl
          have hb3 : decide (0 < lb2.length) = false := by rw [h4]; rfl
          obtain ⟨i1, i2, i3, i4, i5, i6, i7, i8, i9, i10⟩ := HI.out
          have I9 := Lib.hid i9
          have I10 := Lib.hid i10
          have I1 := Lib.hid i1
          have I3 := Lib.hid i3
          clear i1 i2 i3 i4 i5 i6 i7 i9 i10 h3 h4
          go_wp2_with fail
          all_goals
            refine (Clone_any _ la2 _ I1.out hlb).mono ?_
            rintro e w3 ⟨⟨v3, rfl, ho3⟩, hb3⟩
            have HO3 := Lib.hid ho3
            have HB3 := Lib.hid (Below.step I10.out hb3)
            have hs3 := I10.out.size
            clear ho3 hb3
            go_wp2_with fail
            try rw [Exit.noGoto_ret]
            go_ret
            refine ⟨⟨_, la2, rfl, HO3.out.mono hs3, I3.out, ?_⟩, HB3.out⟩
            have h9 := I9.out
            have h8 : lb2 = [] := List.eq_nil_of_length_eq_zero HL0.out
            rw [h8] at h9
            rw [← h9]
            show val la2 = Nat.gcd (val la2) 0
            rw [Nat.gcd_zero_right]
        · have h5 : ¬ (2 < la2.length) := by omega
          have hd1 : decide ((2 : Int) < (la2.length : Int)) = false := decide_eq_false (by omega)
          have hd2 : decide (0 < lb2.length) = true := decide_eq_true (by omega)
          have hb0 : ((lb2.length : Int) == 0) = false := by rw [beq_eq_false_iff_ne]; omega
          obtain ⟨i1, i2, i3, i4, i5, i6, i7, i8, i9, i10⟩ := HI.out
          have I9 := Lib.hid i9
          have I10 := Lib.hid i10
          have I1 := Lib.hid i1
          have I2 := Lib.hid i2
          have I3 := Lib.hid i3
          have I4 := Lib.hid i4
          have ex : ((ptI la2 1 : Nat) : Int) * 1000000000 + ((ptI la2 (1 - 1) : Nat) : Int) = (val la2 : Int) := by
            rw [val_le2 (l := la2) (by omega)]
            show _ + ((ptI la2 0 : Nat) : Int) = _
            omega
          have ey : ((ptI lb2 1 : Nat) : Int) * 1000000000 + ((ptI lb2 (1 - 1) : Nat) : Int) = (val lb2 : Int) := by
            rw [val_le2 (l := lb2) (by omega)]
            show _ + ((ptI lb2 0 : Nat) : Int) = _
            omega
          have EX := Lib.hid ex
          have EY := Lib.hid ey
          have bx : val la2 < 1000000000000000000 := by
            have := val_lt i3
            have h9 : (1000000000 : Nat) ^ la2.length ≤ 1000000000 ^ 2 := Nat.pow_le_pow_right (by decide) (by omega)
            omega
          have bY : val lb2 < 1000000000000000000 := by omega
          have BX := Lib.hid bx
          have BY := Lib.hid bY
          clear i1 i2 i3 i4 i5 i6 i7 i9 i10 h3 h4 h5 ex ey bx bY
          go_wp2_with fail
          refine (twoParts_any _ la2 1 _ I1.out I3.out (by decide) (by decide)).mono ?_
          rintro e w' ⟨rfl, rfl⟩
          rw [EX.out]
          go_wp2_with fail
          refine (twoParts_any _ lb2 1 _ I2.out I4.out (by decide) (by decide)).mono ?_
          rintro e w' ⟨rfl, rfl⟩
          rw [EY.out]
          go_wp2_with fail
          go_loopg [5, 6] (val lb2) (fun m u v wr2 => ∃ x y : Nat, m = y ∧ u = .int .i64 x ∧ v = .int .i64 y ∧ x < 1000000000000000000 ∧ y < 1000000000000000000 ∧ Hid (Nat.gcd x y = g) ∧ Hid (Below w.heap.size w wr2))
          case atStart => exact ⟨val la2, val lb2, rfl, rfl, rfl, BX.out, BY.out, I9, I10⟩
          case round =>
            obtain ⟨x, y, hm2, rfl, rfl, hx, hy, HGG, HBB⟩ := hrel
            have HM2 := Lib.hid hm2
            clear hm2
            have hxI : (x : Int) < 1000000000000000000 := by omega
            by_cases hy0 : 0 < y
            · obtain ⟨q, hq⟩ : ∃ q, x % y = q := ⟨_, rfl⟩
              have hqy : q < y := by rw [← hq]; exact Nat.mod_lt _ hy0
              have ht : (x : Int).tmod (y : Int) = (q : Int) := by rw [← hq]; exact (Int.ofNat_tmod x y).symm
              have hz : ((y : Int) == 0) = false := by rw [beq_eq_false_iff_ne]; omega
              have hyI : (1 : Int) ≤ (y : Int) := by omega
              have HQ := Lib.hid hq
              have HQY := Lib.hid hqy
              have HY0 := Lib.hid hy0
              have HXX := Lib.hid (And.intro hx hy)
              clear hq hqy hx hy hd1 hd2 hb0
              go_wp2_with fail
              go_quiet (fail)
              go_wp2_with fail
              go_roundg q
              case rel =>
                refine ⟨y, q, rfl, rfl, rfl, HXX.out.2, by have := HQY.out; have := HXX.out; omega, ?_, Lib.hid (by repeat (first | exact Below.refl _ _ | with_reducible refine Below.drew ?_ | with_reducible refine below_drewN ?_ _ | with_reducible refine Below.setCell ?_ (by first | (simp; done) | (simp; omega) | omega) _ | with_reducible refine Below.alloc ?_ (by first | (simp; done) | (simp; omega) | omega) _ | (with_reducible refine Below.step ?_ HBB.out)))⟩
                show Nat.gcd y q = g
                rw [← HGG.out, ← HQ.out, Nat.gcd_comm x y, Nat.gcd_rec y x, Nat.gcd_comm]
              case measure => rw [HM2.out]; exact HQY.out
            · have hdy : decide (0 < y) = false := decide_eq_false hy0
              have hy1 : y = 0 := by omega
              have HY1 := Lib.hid hy1
              have hw := IntWalk.u64_in (x : Int) (by omega)
              have hx9 : x < 18446744073709551616 := by omega
              have HX9 := Lib.hid hx9
              clear hy0 hy1 hx hy hx9 hxI
              go_wp2_with fail
              refine (partsOf_any x _ HX9.out).mono ?_
              rintro e w5 ⟨⟨v5, l5, rfl, ho5, -, hs5, hv5⟩, hb5⟩
              have HO5 := Lib.hid ho5
              have HS5 := Lib.hid hs5
              have HV5 := Lib.hid hv5
              have HB5 := Lib.hid (Below.step HBB.out hb5)
              have hz5 := HBB.out.size
              clear ho5 hs5 hv5 hb5
              go_wp2_with fail
              try rw [Exit.noGoto_ret]
              go_ret
              refine ⟨⟨_, l5, rfl, HO5.out.mono hz5, HS5.out, ?_⟩, HB5.out⟩
              rw [HV5.out, ← HGG.out, HY1.out, Nat.gcd_zero_right]

end Go.Proofs.YtgpoljbccimkjaaGreatDoor
