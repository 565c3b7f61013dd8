/- Walks: how often. -/
import Derived.Test.YtgpoljbccimkjaaGreatDoorWide
import Derived.Test.YtgpoljbccimkjaaGreatDoorNearMath
import Derived.Shelf.Spec.BitsCarry
namespace Go.Proofs.YtgpoljbccimkjaaGreatDoor
set_option linter.unusedSimpArgs false
set_option linter.unusedVariables false
open Go.RowKit Go.Shelf

def renAdd : Ren := ⟨fun _ => 204, fun _ => 100, fun n => n⟩
theorem laysAdd : Lays7.n25 Tryz.prog renAdd := { mixed := by kernel_rfl, f25 := Tryz.func204.trans (congrArg some (by kernel_rfl)), t22 := Tryz.underlying100, a22 := Tryz.isAgg100, z22 := Tryz.sizeOf100, v22 := Tryz.zeroValue100, i22 := by kernel_rfl }
theorem Add64_law (x y : Nat) (w : World) :
    (callFunc 204 #[.int .u64 x, .int .u64 y, .int .u64 0]).run Tryz.prog w =
      .ok (.value (.tuple #[.int .u64 (((x + y) % 18446744073709551616 : Nat) : Int), .int .u64 (((x + y) / 18446744073709551616 : Nat) : Int)])) w := Any7.bits_Add64 laysAdd x y 0 (by decide) w

theorem add_wide {M H L C L2 q X : Nat} (h1 : H * M + L = X) (h2 : M * C + L2 = L + q) : (H + C) * M + L2 = X + q := by
  rw [Nat.add_mul H C M, Nat.mul_comm C M]; omega
theorem add_wide_lt {M H2 L2 X Y : Nat} (h : H2 * M + L2 = X) (h2 : X < 1000000001 * Y) (hM : 1000000001 ≤ M) : H2 < Y := by
  rcases Nat.lt_or_ge H2 Y with h3 | h3
  · exact h3
  · have e1 : Y * 1000000001 ≤ H2 * M := Nat.mul_le_mul h3 hM
    omega

/-- What is divided to guess, and by what. -/
def guessX (p : List Nat) (m : Nat) : Nat := (pt p m * 1000000000 + ptI p ((m : Int) - 1)) * 1000000000 + ptI p ((m : Int) - 2)
def guessY (b : List Nat) : Nat := pt b (b.length - 1) * 1000000000 + ptI b ((b.length : Int) - 2)

theorem ptI_lt {l : List Nat} (h : ∀ x ∈ l, x < 1000000000) (i : Int) : ptI l i < 1000000000 := by
  unfold ptI
  split
  · decide
  · exact pt_lt (by decide) h _

set_option maxRecDepth 100000 in
set_option maxHeartbeats 2000000 in
theorem guess_any (v v' : Value) (p b : List Nat) (w : World) (h : Lim w v p) (h' : Lim w v' b) (hp : ∀ x ∈ p, x < 1000000000) (hb : ∀ x ∈ b, x < 1000000000) (hl : 1 ≤ b.length) (hl2 : b.length ≤ 1000000) (hy : 0 < guessY b) (hx : guessX p b.length < 1000000001 * guessY b) :
    Calls Tryz.prog 154 #[v, v'] w fun e w' => e = .returned (.int .i64 (guessX p b.length / guessY b : Nat)) ∧ Below w.heap.size w w' := by
  have HLP : Hid (∀ W, Below w.heap.size w W → Lim W v p) := fun W hb => h.below hb
  have HLB : Hid (∀ W, Below w.heap.size w W → Lim W v' b) := fun W hb => h'.below hb
  have HP := Lib.hid hp
  have HB := Lib.hid hb
  obtain ⟨a, c, rfl, -⟩ := h
  obtain ⟨a', c', rfl, -⟩ := h'
  clear hp hb
  have hl1 : (1 : Int) ≤ (b.length : Int) := by omega
  have hl3 : (b.length : Int) ≤ 1000000 := by omega
  obtain ⟨X2, hX2⟩ : ∃ X2 : Nat, X2 = pt p b.length * 1000000000 + ptI p ((b.length : Int) - 1) := ⟨_, rfl⟩
  have hX2I : (ptI p (b.length : Int) : Int) * 1000000000 + (ptI p ((b.length : Int) - 1) : Int) = (X2 : Int) := by rw [hX2, ptI_nat]; omega
  have hX2b : X2 < 1000000000000000000 := by have := pt_lt (by decide) HP.out b.length; have := ptI_lt HP.out ((b.length : Int) - 1); omega
  obtain ⟨Y, hY⟩ : ∃ Y : Nat, Y = guessY b := ⟨_, rfl⟩
  have hYI : (ptI b ((b.length : Int) - 1) : Int) * 1000000000 + (ptI b ((b.length : Int) - 1 - 1) : Int) = (Y : Int) := by
    rw [hY, show ((b.length : Int) - 1) = ((b.length - 1 : Nat) : Int) by omega, ptI_nat]
    unfold guessY
    rw [show ((b.length - 1 : Nat) : Int) - 1 = (b.length : Int) - 2 by omega]
    omega
  have hYb : Y < 1000000000000000000 := by have := pt_lt (by decide) HB.out (b.length - 1); have := ptI_lt HB.out ((b.length : Int) - 2); rw [hY]; unfold guessY; omega
  obtain ⟨q, hq⟩ : ∃ q : Nat, q = ptI p ((b.length : Int) - 2) := ⟨_, rfl⟩
  have hqb : q < 1000000000 := by rw [hq]; exact ptI_lt HP.out _
  have hGX : guessX p b.length = X2 * 1000000000 + q := by unfold guessX; rw [hX2, hq]
  rw [← hY, hGX] at hx
  rw [← hY] at hy
  rw [← hY, hGX]
  clear hGX hY hX2
  go_enter Tryz.func154, Tryz.ntmps154
  go_wp2_with fail
  refine (twoParts_any _ p _ w (HLP.out _ (Below.refl _ _)) HP.out (by omega) (by omega)).mono ?_
  rintro e w1 ⟨rfl, rfl⟩
  rw [hX2I]
  go_wp2_with fail
  refine (Tryz.bits_Mul64 X2 1000000000 (by omega) (by decide) w).mono ?_
  rintro e w1 ⟨rfl, rfl⟩
  obtain ⟨H, hH⟩ : ∃ H : Nat, X2 * 1000000000 / 18446744073709551616 = H := ⟨_, rfl⟩
  obtain ⟨L, hL⟩ : ∃ L : Nat, X2 * 1000000000 % 18446744073709551616 = L := ⟨_, rfl⟩
  rw [hH, hL]
  have hHL : H * 18446744073709551616 + L = X2 * 1000000000 ∧ L < 18446744073709551616 := by omega
  have hqe : (ptI p ((b.length : Int) - 1 - 1) : Int) = (q : Int) := by rw [hq, show (b.length : Int) - 1 - 1 = (b.length : Int) - 2 by omega]
  obtain ⟨L2, hL2⟩ : ∃ x : Nat, (L + q) % 18446744073709551616 = x := ⟨_, rfl⟩
  obtain ⟨C, hC⟩ : ∃ x : Nat, (L + q) / 18446744073709551616 = x := ⟨_, rfl⟩
  obtain ⟨H2, hH2⟩ : ∃ x : Nat, H + C = x := ⟨_, rfl⟩
  have hadd : ∀ w, (callFunc 204 #[.int .u64 L, .int .u64 q, .int .u64 0]).run Tryz.prog w = .ok (.value (.tuple #[.int .u64 (L2 : Nat), .int .u64 (C : Nat)])) w := fun w => by rw [Add64_law, hL2, hC]
  have hL2b : L2 < 18446744073709551616 := hL2 ▸ Nat.mod_lt _ (by decide)
  have hdm := Nat.div_add_mod (L + q) 18446744073709551616
  rw [hC, hL2] at hdm
  have hsum : H2 * 18446744073709551616 + L2 = X2 * 1000000000 + q := hH2 ▸ add_wide hHL.1 hdm
  have hH2Y : H2 < Y := add_wide_lt hsum hx (by decide)
  have hall : H2 * 18446744073709551616 + L2 = X2 * 1000000000 + q ∧ L2 < 18446744073709551616 ∧ H2 < 18446744073709551616 := ⟨hsum, hL2b, Nat.lt_of_lt_of_le hH2Y (Nat.le_of_lt (Nat.lt_of_lt_of_le hYb (by decide)))⟩
  have hHC : (H : Int) + (C : Int) = (H2 : Int) := by rw [← hH2, Int.natCast_add]
  have hwH : IntKind.u64.wrap ((H : Int) + (C : Int)) = (H2 : Int) := by rw [hHC]; exact wrap_nat hall.2.2
  have HALL := Lib.hid hall
  have HH2 := Lib.hid hH2Y
  have HADD := Lib.hid hadd
  have HX := Lib.hid hx
  have HYB := Lib.hid (And.intro hy (And.intro hYb (And.intro hX2b hqb)))
  have hqI : (q : Int) ≤ 999999999 := by omega
  have hYI2 : (Y : Int) ≤ 999999999999999999 := by omega
  clear hHL hH hL hx hy hYb hX2b hX2I hL2 hC hH2 hadd hall hH2Y hq hqb hL2b hdm hsum hHC
  go_wp2_with fail
  refine (at_any _ p _ w1 (HLP.out _ (Below.refl _ _))).mono ?_
  rintro e w2 ⟨rfl, rfl⟩
  rw [hqe]
  clear hqe
  go_wp2_with (simp only [HADD.out])
  refine (twoParts_any _ b _ _ (HLB.out _ (by repeat (first | exact Below.refl _ _ | with_reducible refine Below.drew ?_ | with_reducible refine below_drewN ?_ _ | with_reducible refine Below.setCell ?_ (by first | (simp; done) | (simp; omega) | omega) _ | with_reducible refine Below.alloc ?_ (by first | (simp; done) | (simp; omega) | omega) _))) HB.out (by omega) (by omega)).mono ?_
  rintro e w3 ⟨rfl, rfl⟩
  rw [hYI]
  clear hYI
  go_wp2_with fail
  refine (Div64_any H2 L2 Y _ HALL.out.2.1 HYB.out.1 (by have := HYB.out.2.1; omega) HH2.out).mono ?_
  rintro e w4 ⟨v4, rfl, hb4⟩
  rw [HALL.out.1]
  have hqt : (X2 * 1000000000 + q) / Y ≤ 1000000000 := by
    have := HX.out
    have h9 : (X2 * 1000000000 + q) / Y < 1000000001 := by rw [Nat.div_lt_iff_lt_mul HYB.out.1]; omega
    omega
  obtain ⟨R, hR⟩ : ∃ x : Nat, (X2 * 1000000000 + q) / Y = x := ⟨_, rfl⟩
  rw [hR] at hqt ⊢
  have HR := Lib.hid hR
  have hRI : (R : Int) ≤ 1000000000 := by omega
  clear hR hqt
  go_wp2_with fail
  go_ret
  exact ⟨ret_int (by rw [HR.out]), hb4⟩

end Go.Proofs.YtgpoljbccimkjaaGreatDoor
