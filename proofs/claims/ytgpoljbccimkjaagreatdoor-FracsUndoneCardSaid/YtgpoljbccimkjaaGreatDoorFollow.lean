/- Walks: many steps of Euclid's at once. -/
import Derived.Test.YtgpoljbccimkjaaGreatDoorNearMath
import Derived.Test.YtgpoljbccimkjaaGreatDoorBlend2
import Derived.Deep.CutBlock
import Derived.Deep.LoopGhost
import Derived.BigRegion
namespace Go.Proofs.YtgpoljbccimkjaaGreatDoor
set_option linter.unusedSimpArgs false
set_option linter.unusedVariables false
open Go.RowKit Go.Shelf

/-- Two numbers of 64 bits in a block. -/
abbrev Two (W : World) (b : Nat) (x y : Int) : Prop := NumBox W b (.int .i64 x) (.int .i64 y)

theorem i64_small {n : Int} (h1 : -9223372036854775808 ≤ n) (h2 : n ≤ 9223372036854775807) : IntKind.i64.wrap n = n := IntWalk.i64_in n ⟨h1, h2⟩

set_option maxRecDepth 100000 in
set_option maxHeartbeats 4000000 in
theorem follow_any (X Y : Nat) (w : World) (hX : X < 1000000000000000000) (hY : Y < 1000000000000000000) :
    Calls Tryz.prog 210 #[.int .i64 X, .int .i64 Y] w fun e w' => (∃ x y f0 f1 s0 s1 : Int, e = .returned (.tuple #[.agg #[.int .i64 f0, .int .i64 f1], .agg #[.int .i64 s0, .int .i64 s1]]) ∧ FInv X Y x y f0 f1 s0 s1) ∧ Below w.heap.size w w' := by
  have HX := Lib.hid hX
  have HY := Lib.hid hY
  obtain ⟨W0, e0, n1, n2, hb0⟩ : ∃ W0, (w.alloc (Obj.cells #[.int .i64 1, .int .i64 0] 222)).alloc (Obj.cells #[.int .i64 0, .int .i64 1] 222) = W0 ∧ Two W0 w.heap.size 1 0 ∧ Two W0 (w.heap.size + 1) 0 1 ∧ Below w.heap.size w W0 := by
    refine ⟨_, rfl, (NumBox.new _ _ _ _).alloc _, ?_, (by repeat (first | exact Below.refl _ _ | with_reducible refine Below.drew ?_ | with_reducible refine below_drewN ?_ _ | with_reducible refine Below.setCell ?_ (by first | (simp; done) | (simp; omega) | omega) _ | with_reducible refine Below.alloc ?_ (by first | (simp; done) | (simp; omega) | omega) _))⟩
    have := NumBox.new (w.alloc (Obj.cells #[.int .i64 1, .int .i64 0] 222)) (.int .i64 0) (.int .i64 1) 222
    rwa [World.size_alloc] at this
  have N1 := Lib.hid n1
  have N2 := Lib.hid n2
  have HB0 := Lib.hid hb0
  clear hX hY n1 n2 hb0
  go_enter Tryz.func210, Tryz.ntmps210
  go_upto_block 0 with fail
  try rw [e0]
  clear e0
  go_cut [0, 1, 6] from 9 to 62 (fun a b _ wx => ∃ x y f0 f1 s0 s1 : Int, a = .int .i64 x ∧ b = .int .i64 y ∧ Hid (FInv X Y x y f0 f1 s0 s1) ∧ Hid (Two wx w.heap.size f0 f1) ∧ Hid (Two wx (w.heap.size + 1) s0 s1) ∧ Hid (Below w.heap.size w wx))
  case first =>
    go_wp2_with fail
    go_loopg [0, 1] Y (fun m a b wx => ∃ x y f0 f1 s0 s1 : Int, m = (y + s0).toNat ∧ a = .int .i64 x ∧ b = .int .i64 y ∧ Hid (FInv X Y x y f0 f1 s0 s1) ∧ Hid (Two wx w.heap.size f0 f1) ∧ Hid (Two wx (w.heap.size + 1) s0 s1) ∧ Hid (Below w.heap.size w wx))
    case atStart => exact ⟨X, Y, 1, 0, 0, 1, by omega, rfl, rfl, FInv.start ⟨by omega, by have := HX.out; omega⟩ ⟨by omega, by have := HY.out; omega⟩, N1, N2, HB0⟩
    case round =>
      obtain ⟨x, y, f0, f1, s0, s1, hm, rfl, rfl, HI, HF, HS, HB⟩ := hrel
      obtain ⟨c1, c2, c3, c4⟩ := HF.out
      obtain ⟨d1, d2, d3, d4⟩ := HS.out
      obtain ⟨x0, x1⟩ := HI.out.bx
      obtain ⟨y0, y1⟩ := HI.out.by'
      obtain ⟨f00, f01⟩ := HI.out.bf0
      obtain ⟨f10, f11⟩ := HI.out.bf1
      obtain ⟨s00, s01⟩ := HI.out.bs0
      obtain ⟨s10, s11⟩ := HI.out.bs1
      have HM := Lib.hid hm
      clear hm
      by_cases g0 : 0 < y + s0
      · by_cases g1 : 0 < y + s1
        · obtain ⟨n, hn⟩ : ∃ n, n = (x + f0) / (y + s0) := ⟨_, rfl⟩
          obtain ⟨m, hm⟩ : ∃ m, m = (x + f1) / (y + s1) := ⟨_, rfl⟩
          have hn1 : (x + f0).tdiv (y + s0) = n := by rw [Int.tdiv_eq_ediv_of_nonneg HI.out.px0, hn]
          have hm1 : (x + f1).tdiv (y + s1) = m := by rw [Int.tdiv_eq_ediv_of_nonneg HI.out.px1, hm]
          have hn2 : 0 ≤ n ∧ n ≤ x + f0 := ⟨by rw [hn]; exact Int.ediv_nonneg HI.out.px0 (by omega), by rw [hn]; exact Int.ediv_le_self _ HI.out.px0⟩
          have hm2 : 0 ≤ m ∧ m ≤ x + f1 := ⟨by rw [hm]; exact Int.ediv_nonneg HI.out.px1 (by omega), by rw [hm]; exact Int.ediv_le_self _ HI.out.px1⟩
          have HNM := Lib.hid (And.intro hn hm)
          obtain ⟨n2, n3⟩ := hn2
          obtain ⟨m2, m3⟩ := hm2
          clear hn hm
          by_cases hnm : n = m
          · have hb1 : (n == m) = true := by rw [beq_iff_eq]; exact hnm
            have hb2 : (n != m) = false := by rw [bne_eq_false_iff_eq]; exact hnm
            obtain ⟨hst, hlt, -, hy0⟩ := HI.out.step (by have := HX.out; omega) (by have := HY.out; omega) g0 g1 HNM.out.1 (hnm.trans HNM.out.2)
            obtain ⟨p0, hp0⟩ : ∃ p, p = n * s0 := ⟨_, rfl⟩
            obtain ⟨p1, hp1⟩ : ∃ p, p = n * s1 := ⟨_, rfl⟩
            obtain ⟨py, hpy⟩ : ∃ p, p = n * y := ⟨_, rfl⟩
            rw [← hp0, ← hp1, ← hpy] at hst
            rw [← hp0, ← hpy] at hlt
            obtain ⟨z0, z1⟩ := hst.by'
            obtain ⟨u00, u01⟩ := hst.bs0
            obtain ⟨u10, u11⟩ := hst.bs1
            have hw0 : IntKind.i64.wrap (n * s0) = p0 := by rw [← hp0]; exact i64_small (by omega) (by omega)
            have hw1 : IntKind.i64.wrap (n * s1) = p1 := by rw [← hp1]; exact i64_small (by omega) (by omega)
            have hwy : IntKind.i64.wrap (n * y) = py := by rw [← hpy]; exact i64_small (by omega) (by omega)
            have HST := Lib.hid hst
            have HLT := Lib.hid hlt
            have HNMe := Lib.hid hnm
            clear hst hlt hp0 hp1 hpy hnm
            go_upto_region 5 with fail
            go_region
            all_goals
              obtain ⟨W5, e5, q1, q2, q3⟩ : ∃ W5, ((((wr.setCell ⟨w.heap.size, 0, none⟩ (.int .i64 s0)).setCell ⟨w.heap.size, 1, none⟩ (.int .i64 s1)).setCell ⟨w.heap.size + 1, 0, none⟩ (.int .i64 (f0 - p0))).setCell ⟨w.heap.size + 1, 1, none⟩ (.int .i64 (f1 - p1))).drew = W5 ∧ Two W5 w.heap.size s0 s1 ∧ Two W5 (w.heap.size + 1) (f0 - p0) (f1 - p1) ∧ Below w.heap.size w W5 := by
                refine ⟨_, rfl, ?_, ?_, (by repeat (first | exact Below.refl _ _ | with_reducible refine Below.drew ?_ | with_reducible refine below_drewN ?_ _ | with_reducible refine Below.setCell ?_ (by first | (simp; done) | (simp; omega) | omega) _ | with_reducible refine Below.alloc ?_ (by first | (simp; done) | (simp; omega) | omega) _ | (with_reducible refine Below.step ?_ HB.out)))⟩
                · exact (((HF.out.set0 (.int .i64 s0)).set1 (.int .i64 s1)).other (p := ⟨w.heap.size + 1, 0, none⟩) (by show w.heap.size + 1 ≠ _; omega) (.int .i64 (f0 - p0))).other (p := ⟨w.heap.size + 1, 1, none⟩) (by show w.heap.size + 1 ≠ _; omega) (.int .i64 (f1 - p1))
                · exact (((HS.out.other (p := ⟨w.heap.size, 0, none⟩) (by show w.heap.size ≠ _; omega) (.int .i64 s0)).other (p := ⟨w.heap.size, 1, none⟩) (by show w.heap.size ≠ _; omega) (.int .i64 s1)).set0 (.int .i64 (f0 - p0))).set1 (.int .i64 (f1 - p1))
              rw [e5]
              have Q1 := Lib.hid q1
              have Q2 := Lib.hid q2
              have Q3 := Lib.hid q3
              clear q1 q2 q3 e5 c1 c2 c3 c4 d1 d2 d3 d4
              go_wp2_with fail
              go_roundg ((x - py) + (f0 - p0)).toNat
              case rel => exact ⟨y, x - py, s0, s1, f0 - p0, f1 - p1, rfl, rfl, rfl, HST, Q1, Q2, Q3⟩
              case measure =>
                have h1 := HLT.out
                have h2 := HM.out
                omega
          · have hb1 : (n == m) = false := by rw [beq_eq_false_iff_ne]; exact hnm
            have hb2 : (n != m) = true := by rw [bne_iff_ne]; exact hnm
            clear hnm
            go_wp2_with fail
            go_meet
            exact ⟨x, y, f0, f1, s0, s1, rfl, rfl, HI, HF, HS, HB⟩
        · have hb1 : decide (0 < y + s1) = false := decide_eq_false g1
          clear g1
          go_wp2_with fail
          go_meet
          exact ⟨x, y, f0, f1, s0, s1, rfl, rfl, HI, HF, HS, HB⟩
      · have hb1 : decide (0 < y + s0) = false := decide_eq_false g0
        clear g0
        go_wp2_with fail
        go_meet
        exact ⟨x, y, f0, f1, s0, s1, rfl, rfl, HI, HF, HS, HB⟩
  case rest =>
    obtain ⟨x, y, f0, f1, s0, s1, rfl, rfl, HI, HF, HS, HB⟩ := hcut
    obtain ⟨c1, c2, c3, c4⟩ := HF.out
    obtain ⟨d1, d2, d3, d4⟩ := HS.out
    go_wp2_with fail
    go_region
    all_goals go_wp2_with fail
    obtain ⟨g1, g2, -⟩ := (((HF.out.set0 (.int .i64 f0)).set1 (.int .i64 f1)).other (p := ⟨w.heap.size + 1, 0, none⟩) (by show w.heap.size + 1 ≠ _; omega) (.int .i64 s0)).other (p := ⟨w.heap.size + 1, 1, none⟩) (by show w.heap.size + 1 ≠ _; omega) (.int .i64 s1)
    obtain ⟨g3, g4, -⟩ := (((HS.out.other (p := ⟨w.heap.size, 0, none⟩) (by show w.heap.size ≠ _; omega) (.int .i64 f0)).other (p := ⟨w.heap.size, 1, none⟩) (by show w.heap.size ≠ _; omega) (.int .i64 f1)).set0 (.int .i64 s0)).set1 (.int .i64 s1)
    exact bodyPost_ret (v := .tuple #[.agg #[.int .i64 f0, .int .i64 f1], .agg #[.int .i64 s0, .int .i64 s1]]) (by simp [results, Tryz.results210, go_sem, g1, g2, g3, g4]) rfl ⟨⟨x, y, f0, f1, s0, s1, rfl, HI.out⟩, (by repeat (first | exact Below.refl _ _ | with_reducible refine Below.drew ?_ | with_reducible refine below_drewN ?_ _ | with_reducible refine Below.setCell ?_ (by first | (simp; done) | (simp; omega) | omega) _ | with_reducible refine Below.alloc ?_ (by first | (simp; done) | (simp; omega) | omega) _ | (with_reducible refine Below.step ?_ HB.out)))⟩

end Go.Proofs.YtgpoljbccimkjaaGreatDoor
