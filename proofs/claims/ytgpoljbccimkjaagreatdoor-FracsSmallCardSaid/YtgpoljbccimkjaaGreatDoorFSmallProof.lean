/- FracsSmall: for every input the law answers true and leaves what it was handed as it was; the library's tables are as the program lays them. -/
import Derived.Test.YtgpoljbccimkjaaGreatDoorFOrder
import Derived.Test.YtgpoljbccimkjaaGreatDoorSteps3
import Derived.Test.YtgpoljbccimkjaaGreatDoorFRow
namespace Go.Proofs.YtgpoljbccimkjaaGreatDoor
set_option linter.unusedSimpArgs false
set_option linter.unusedVariables false
open Go.RowKit Go.Shelf

theorem num_sign (q : Rat) : (q < 0 ↔ q.num < 0) ∧ (0 < q ↔ 0 < q.num) := by
  constructor <;> (rw [Rat.lt_iff]; simp)
theorem divInt_sign {P Q : Int} (hQ : 0 < Q) : (Rat.divInt P Q < 0 ↔ P < 0) ∧ (0 < Rat.divInt P Q ↔ 0 < P) := by
  obtain ⟨e1, -, d1, -, h0⟩ := rat_lowest (P := P) (Q := Q) (g := (Int.gcd P Q : Nat)) (by omega) (by rw [if_neg (by omega)])
  have hg : (0 : Int) < (Int.gcd P Q : Nat) := by omega
  obtain ⟨k, hk⟩ := d1
  rw [(num_sign _).1, (num_sign _).2, ← e1]
  generalize ((Int.gcd P Q : Nat) : Int) = g at *
  subst hk
  rw [Int.mul_ediv_cancel_left _ h0]
  constructor
  · constructor
    · intro h; exact Int.mul_neg_of_pos_of_neg hg h
    · intro h; exact Int.lt_of_not_ge (fun hc => by have := Int.mul_nonneg (Int.le_of_lt hg) hc; omega)
  · constructor
    · intro h; exact Int.mul_pos hg h
    · intro h; exact Int.lt_of_not_ge (fun hc => by have := Int.mul_nonpos_of_nonneg_of_nonpos (Int.le_of_lt hg) hc; omega)
section
variable {m n p q : Int}
theorem small_add (hp : 0 < p) (hq : 0 < q) : Rat.divInt m p + Rat.divInt n q = Rat.divInt (m * q + n * p) (p * q) := by
  rw [Rat.divInt_add_divInt _ _ (by omega) (by omega)]
theorem small_sub (hp : 0 < p) (hq : 0 < q) : Rat.divInt m p - Rat.divInt n q = Rat.divInt (m * q - n * p) (p * q) := by
  rw [Rat.divInt_sub_divInt _ _ (by omega) (by omega)]
theorem small_mul : Rat.divInt m p * Rat.divInt n q = Rat.divInt (m * n) (p * q) := Rat.divInt_mul_divInt ..
theorem small_div : Rat.divInt m p / Rat.divInt n q = Rat.divInt (m * q) (p * n) := by
  rw [Rat.div_def, Rat.inv_divInt, Rat.divInt_mul_divInt]
theorem small_lt (hp : 0 < p) (hq : 0 < q) : (cmpR (Rat.divInt m p) (Rat.divInt n q) == -1) = decide (m * q < n * p) := by
  have h1 : Rat.divInt m p < Rat.divInt n q ↔ m * q < n * p := by
    have h2 := (divInt_sign (P := m * q - n * p) (Int.mul_pos hp hq)).1
    rw [← small_sub hp hq] at h2
    constructor
    · intro h
      have := h2.1 (by grind)
      omega
    · intro h
      have := h2.2 (by omega)
      grind
  unfold cmpR
  by_cases h : m * q < n * p
  · rw [if_pos (h1.2 h), decide_eq_true h]; rfl
  · rw [if_neg (fun e => h (h1.1 e)), decide_eq_false h]
    split <;> rfl
theorem small_whole (hp : 0 < p) : decide (((Rat.divInt m p).den : Int) = 1) = (m.tmod p == 0) := by
  obtain ⟨-, e2, -, d2, h0⟩ := rat_lowest (P := m) (Q := p) (g := (Int.gcd m p : Nat)) (by omega) (by rw [if_neg (by omega)])
  rw [Bool.eq_iff_iff, decide_eq_true_iff, beq_iff_eq, ← Int.dvd_iff_tmod_eq_zero, ← e2]
  have hgm : ((Int.gcd m p : Nat) : Int) ∣ m := Int.gcd_dvd_left _ _
  constructor
  · intro h
    have h1 := Int.ediv_mul_cancel d2
    rw [h, Int.one_mul] at h1
    rw [← h1]
    exact hgm
  · intro h
    have h1 : p ∣ ((Int.gcd m p : Nat) : Int) := Int.dvd_coe_gcd h (Int.dvd_refl p)
    have hg : (0 : Int) < (Int.gcd m p : Nat) := by omega
    have h2 := Int.le_of_dvd hg h1
    have h3 := Int.le_of_dvd hp d2
    rw [show ((Int.gcd m p : Nat) : Int) = p by omega]
    exact Int.ediv_self (by omega)
theorem small_of : (m : Rat) = Rat.divInt m 1 := by
  rw [Rat.divInt_eq_div]
  grind
theorem small_neg : Rat.divInt (-m) (-p) = Rat.divInt m p := Rat.neg_divInt_neg ..
theorem small_sign : cmpR (Rat.divInt m (-p)) 0 = -cmpR (Rat.divInt m p) 0 := by
  rw [Rat.divInt_neg', ← Rat.neg_divInt]
  generalize Rat.divInt m p = x
  unfold cmpR
  by_cases h1 : x < 0
  · rw [if_neg (by grind), if_pos (by grind), if_pos h1]; rfl
  · by_cases h2 : 0 < x
    · rw [if_pos (by grind), if_neg h1, if_pos h2]
    · rw [if_neg (by grind), if_neg (by grind), if_neg h1, if_neg h2]; rfl
end

theorem small_eq {a b : Bool} (h : a = b) : (a == b) = true := by simp [h]
theorem small_ieq {a b : Int} (h : a = b) : (a == b) = true := by simp [h]
theorem bd_mul {a b A B : Int} (h1 : -A ≤ a) (h2 : a ≤ A) (h3 : -B ≤ b) (h4 : b ≤ B) : -(A * B) ≤ a * b ∧ a * b ≤ A * B := by
  have hA : 0 ≤ A := by omega
  have hB : 0 ≤ B := by omega
  have e : (a * b).natAbs ≤ (A * B).natAbs := by
    rw [Int.natAbs_mul, Int.natAbs_mul]
    exact Nat.mul_le_mul (by omega) (by omega)
  have hAB := Int.mul_nonneg hA hB
  omega

set_option maxRecDepth 100000
theorem run_remL (m p : Int) (hp : p ≠ 0) (W : World) : (binOp .rem 2 (.int .i64 m) (.int .i64 p)).run Tryz.prog W = .ok (.int .i64 (m.tmod p)) W := by
  have h1 : (p == 0) = false := by simp [hp]
  go_simp
section
variable {bs : List (Nat × Bool)} {fs : List (Nat × (Value → World → Prop))} {w0 : World} {d : Nat} {ty : TypeId} {pos : String} {af : Array Edge} {g : Option (Nat × Bool)}
theorem step_mulL {x y : Nat} {t' : TypeId} {m n k : Int} (hx : ∀ v w, Known bs fs x v w → v = .int .i64 m) (hy : ∀ v w, Known bs fs y v w → v = .int .i64 n) (hb' : IntKind.i64.wrap (m * n) = k) (h : ∀ w, Known bs fs d (.int .i64 k) w) : StepOk Tryz.prog bs fs w0 ⟨some d, .binOp .mul 2 (.tmp x) (.tmp y) t', ty, pos, af, g⟩ :=
  step_value rfl fun a w hb hk => ⟨.int .i64 k, w, by
    have h1 := hx _ _ (hk x (by simp [looks, Op.operands]))
    have h2 := hy _ _ (hk y (by simp [looks, Op.operands]))
    simp only [execOp, h1, h2, ← hb']
    go_simp, h _, Below.refl _ _⟩
theorem step_addL {x y : Nat} {t' : TypeId} {m n k : Int} (hx : ∀ v w, Known bs fs x v w → v = .int .i64 m) (hy : ∀ v w, Known bs fs y v w → v = .int .i64 n) (hb' : IntKind.i64.wrap (m + n) = k) (h : ∀ w, Known bs fs d (.int .i64 k) w) : StepOk Tryz.prog bs fs w0 ⟨some d, .binOp .add 2 (.tmp x) (.tmp y) t', ty, pos, af, g⟩ :=
  step_value rfl fun a w hb hk => ⟨.int .i64 k, w, by
    have h1 := hx _ _ (hk x (by simp [looks, Op.operands]))
    have h2 := hy _ _ (hk y (by simp [looks, Op.operands]))
    simp only [execOp, h1, h2, ← hb']
    go_simp, h _, Below.refl _ _⟩
theorem step_subL {x y : Nat} {t' : TypeId} {m n k : Int} (hx : ∀ v w, Known bs fs x v w → v = .int .i64 m) (hy : ∀ v w, Known bs fs y v w → v = .int .i64 n) (hb' : IntKind.i64.wrap (m - n) = k) (h : ∀ w, Known bs fs d (.int .i64 k) w) : StepOk Tryz.prog bs fs w0 ⟨some d, .binOp .sub 2 (.tmp x) (.tmp y) t', ty, pos, af, g⟩ :=
  step_value rfl fun a w hb hk => ⟨.int .i64 k, w, by
    have h1 := hx _ _ (hk x (by simp [looks, Op.operands]))
    have h2 := hy _ _ (hk y (by simp [looks, Op.operands]))
    simp only [execOp, h1, h2, ← hb']
    go_simp, h _, Below.refl _ _⟩
theorem step_negL {x : Nat} {m k : Int} (hx : ∀ v w, Known bs fs x v w → v = .int .i64 m) (hb' : IntKind.i64.wrap (-m) = k) (h : ∀ w, Known bs fs d (.int .i64 k) w) : StepOk Tryz.prog bs fs w0 ⟨some d, .unOp .neg 2 (.tmp x), ty, pos, af, g⟩ :=
  step_value rfl fun a w hb hk => ⟨.int .i64 k, w, by
    have h1 := hx _ _ (hk x (by simp [looks, Op.operands]))
    simp only [execOp, h1, ← hb']
    go_simp, h _, Below.refl _ _⟩
theorem step_remL {x y : Nat} {t' : TypeId} {m n k : Int} (hx : ∀ v w, Known bs fs x v w → v = .int .i64 m) (hy : ∀ v w, Known bs fs y v w → v = .int .i64 n) (hr : ∀ W : World, (binOp .rem 2 (.int .i64 m) (.int .i64 n)).run Tryz.prog W = .ok (.int .i64 k) W) (h : ∀ w, Known bs fs d (.int .i64 k) w) : StepOk Tryz.prog bs fs w0 ⟨some d, .binOp .rem 2 (.tmp x) (.tmp y) t', ty, pos, af, g⟩ :=
  step_value rfl fun a w hb hk => ⟨.int .i64 k, w, by
    have h1 := hx _ _ (hk x (by simp [looks, Op.operands]))
    have h2 := hy _ _ (hk y (by simp [looks, Op.operands]))
    have h3 := hr w
    simp only [execOp, h1, h2, eqGuard]
    exact value_run h3, h _, Below.refl _ _⟩
theorem step_lssLL {x y : Nat} {t' : TypeId} {m n : Int} {b : Bool} (hx : ∀ v w, Known bs fs x v w → v = .int .i64 m) (hy : ∀ v w, Known bs fs y v w → v = .int .i64 n) (hb' : decide (m < n) = b) (h : ∀ w, Known bs fs d (.bool b) w) : StepOk Tryz.prog bs fs w0 ⟨some d, .binOp .lss 2 (.tmp x) (.tmp y) t', ty, pos, af, g⟩ :=
  step_value rfl fun a w hb hk => ⟨.bool b, w, by
    have h1 := hx _ _ (hk x (by simp [looks, Op.operands]))
    have h2 := hy _ _ (hk y (by simp [looks, Op.operands]))
    simp only [execOp, h1, h2, ← hb']
    go_simp, h _, Below.refl _ _⟩
theorem step_neL {x : Nat} {t' : TypeId} {m k : Int} {b : Bool} (hx : ∀ v w, Known bs fs x v w → v = .int .i64 m) (hb' : (m != k) = b) (h : ∀ w, Known bs fs d (.bool b) w) : StepOk Tryz.prog bs fs w0 ⟨some d, .binOp .neq 2 (.tmp x) (.const (.int .i64 k)) t', ty, pos, af, g⟩ :=
  step_value rfl fun a w hb hk => ⟨.bool b, w, by
    have h1 := hx _ _ (hk x (by simp [looks, Op.operands]))
    have h2 : a.eval (.const (.int .i64 k)) = .int .i64 k := rfl
    simp only [execOp, h1, h2, ← hb']
    go_simp, h _, Below.refl _ _⟩
theorem step_neE {x : Nat} {t' : TypeId} {m k : Int} {b : Bool} (hx : ∀ v w, Known bs fs x v w → v = .int .i64 m) (hb' : (m != k) = b) (h : ∀ w, Known bs fs d (.bool b) w) : StepOk Tryz.prog bs fs w0 ⟨some d, .binOp .neq 27 (.tmp x) (.const (.int .i64 k)) t', ty, pos, af, g⟩ :=
  step_value rfl fun a w hb hk => ⟨.bool b, w, by
    have h1 := hx _ _ (hk x (by simp [looks, Op.operands]))
    have h2 : a.eval (.const (.int .i64 k)) = .int .i64 k := rfl
    simp only [execOp, h1, h2, ← hb']
    go_simp, h _, Below.refl _ _⟩
theorem step_call0 {f : FuncId} (hp : Plain f) {ts : Array TypeId} (h : ∀ w, Below w0.heap.size w0 w → Calls Tryz.prog f #[] w fun e w' => (∃ r, e = .returned r ∧ Known bs fs d r w') ∧ Below w.heap.size w w') : StepOk Tryz.prog bs fs w0 ⟨some d, .call { callee := .value (.func f), args := #[], argTypes := ts }, ty, pos, af, g⟩ :=
  step_enter rfl (fun _ => #[]) (fun a w => by rw [exec_call hp a]; simp) fun a w hb hk => h w hb
theorem step_call1k {f : FuncId} (hp : Plain f) {x : Nat} {k : Value} {ts : Array TypeId} (h : ∀ u w, Below w0.heap.size w0 w → Known bs fs x u w → Calls Tryz.prog f #[u, k] w fun e w' => (∃ r, e = .returned r ∧ Known bs fs d r w') ∧ Below w.heap.size w w') : StepOk Tryz.prog bs fs w0 ⟨some d, .call { callee := .value (.func f), args := #[.tmp x, .const k], argTypes := ts }, ty, pos, af, g⟩ :=
  step_enter rfl (fun a => #[a.eval (.tmp x), k]) (fun a w => by rw [exec_call hp a]; simp [Act.eval]) fun a w hb hk => h _ w hb (hk x (by simp [looks, Op.operands, Call.operands]))
end

set_option maxHeartbeats 8000000 in
theorem FracsSmall_true (w : World) (m : Int) (hm : -32768 ≤ m ∧ m ≤ 32767) (n : Int) (hn : -32768 ≤ n ∧ n ≤ 32767) (x y : Int) (hxy : 0 ≤ x ∧ x ≤ 65535 ∧ 0 ≤ y ∧ y ≤ 65535) (htab : Tab w) :
    Calls Tryz.prog 13 #[.int .i16 m, .int .i16 n, .agg #[.int .u16 x, .int .u16 y]] w fun e w' => e = .returned (.bool true) ∧ Below w.heap.size w w' := by
  have T0 : Hid (∀ W, Below w.heap.size w W → Tab W) := fun W hb => htab.below hb
  obtain ⟨x0, x1, y0, y1⟩ := hxy
  obtain ⟨m0, m1⟩ := hm
  obtain ⟨n0, n1⟩ := hn
  have HP : Hid (0 < x + 1 ∧ 0 < y + 1) := ⟨by omega, by omega⟩
  have b1 := bd_mul (a := m) (b := y + 1) (A := 32768) (B := 65536) (by omega) (by omega) (by omega) (by omega)
  have b2 := bd_mul (a := x + 1) (b := n) (A := 65536) (B := 32768) (by omega) (by omega) (by omega) (by omega)
  have b3 := bd_mul (a := n) (b := x + 1) (A := 32768) (B := 65536) (by omega) (by omega) (by omega) (by omega)
  have b4 := bd_mul (a := x + 1) (b := y + 1) (A := 65536) (B := 65536) (by omega) (by omega) (by omega) (by omega)
  have b5 := bd_mul (a := m) (b := n) (A := 32768) (B := 32768) (by omega) (by omega) (by omega) (by omega)
  have b6 := Int.mul_pos HP.out.1 HP.out.2
  have HI : Hid ((-9223372036854775808 ≤ m ∧ m ≤ 9223372036854775807) ∧ (-9223372036854775808 ≤ n ∧ n ≤ 9223372036854775807) ∧ (-9223372036854775808 ≤ x + 1 ∧ x + 1 ≤ 9223372036854775807) ∧ (-9223372036854775808 ≤ y + 1 ∧ y + 1 ≤ 9223372036854775807) ∧ True) := ⟨by omega, by omega, by omega, by omega, trivial⟩
  have HJ : Hid ((-9223372036854775808 ≤ m * (y + 1) ∧ m * (y + 1) ≤ 9223372036854775807) ∧ (-9223372036854775808 ≤ (x + 1) * n ∧ (x + 1) * n ≤ 9223372036854775807) ∧ (-9223372036854775808 ≤ n * (x + 1) ∧ n * (x + 1) ≤ 9223372036854775807) ∧ (-9223372036854775808 ≤ (x + 1) * (y + 1) ∧ (x + 1) * (y + 1) ≤ 9223372036854775807) ∧ (-9223372036854775808 ≤ m * n ∧ m * n ≤ 9223372036854775807) ∧ (-9223372036854775808 ≤ m * (y + 1) + n * (x + 1) ∧ m * (y + 1) + n * (x + 1) ≤ 9223372036854775807) ∧ (-9223372036854775808 ≤ m * (y + 1) - n * (x + 1) ∧ m * (y + 1) - n * (x + 1) ≤ 9223372036854775807) ∧ (-9223372036854775808 ≤ -m ∧ -m ≤ 9223372036854775807) ∧ (-9223372036854775808 ≤ -(x + 1) ∧ -(x + 1) ≤ 9223372036854775807)) := by
    refine ⟨?_, ?_, ?_, ?_, ?_, ?_, ?_, ?_, ?_⟩ <;> omega
  have HNZ : Hid (x + 1 ≠ 0 ∧ (x + 1) * (y + 1) ≠ 0 ∧ -(x + 1) ≠ 0) := ⟨by omega, by omega, by omega⟩
  clear b1 b2 b3 b4 b5 b6 htab
  have HQ1 : Hid (y + 1 ≠ 0) := show y + 1 ≠ 0 by omega
  go_enter Tryz.func13, Tryz.ntmps13
  go_wp2_with fail
  refine (of_num HI.out.1 HI.out.2.2.1 HNZ.out.1).mono ?_
  rintro e w1 ⟨⟨u1, rfl, h1⟩, hb1⟩
  obtain ⟨s1, a1, i1, j1, s1', a1', i1', j1', rfl, -⟩ := h1.split
  obtain ⟨W1, e1, m1, b1⟩ := name_fr w1 (.bool s1) (.slice a1 i1 j1) (.bool s1') (.slice a1' i1' j1')
  have R1 := Below.step hb1 b1
  have HX := (h1.below b1).keep
  have N1 := m1.keep
  have RW := Lib.hid (Below.step (w := w) (by repeat (first | exact Below.refl _ _ | with_reducible refine Below.drew ?_ | with_reducible refine below_drewN ?_ _ | with_reducible refine Below.setCell ?_ (by first | (simp; done) | (simp; omega) | omega) _ | with_reducible refine Below.alloc ?_ (by first | (simp; done) | (simp; omega) | omega) _)) R1)
  clear h1 hb1 m1 b1 R1
  go_wp2_with fail
  clear e1
  refine (of_num HI.out.2.1 HI.out.2.2.2.1 HQ1.out).mono ?_
  rintro e w2 ⟨⟨u2, rfl, h2⟩, hb2⟩
  obtain ⟨s2, a2, i2, j2, s2', a2', i2', j2', rfl, -⟩ := h2.split
  obtain ⟨W2, e2, m2, b2⟩ := name_fr w2 (.bool s2) (.slice a2 i2 j2) (.bool s2') (.slice a2' i2' j2')
  have R2 := Below.step hb2 b2
  have HY := (h2.below b2).keep
  have N2 := m2.keep
  have HX := (HX.out _ R2).keep
  have N1 := (N1.out _ R2).keep
  have RW := Lib.hid (Below.step RW.out R2)
  obtain ⟨p0, p1, p2, p3⟩ := (N1.out _ (Below.refl _ _)).c4
  obtain ⟨p4, p5, p6, p7⟩ := (N2.out _ (Below.refl _ _)).c4
  clear h2 hb2 m2 b2 R2
  go_wp2_with fail
  clear e2
  by_cases hz : n = 0
  · have HT0 : Hid ((n == 0) = true) := show (n == 0) = true by simp [hz]
    have HT1 : Hid ((n != 0) = false) := show (n != 0) = false by simp [hz]
    have HZ : Hid (Rat.divInt n (y + 1) = 0) := show Rat.divInt n (y + 1) = 0 by rw [hz]; simp
    clear hz
    refine (DivF_zero (HX.out _ (Below.refl _ _)) (HZ.out ▸ HY.out _ (Below.refl _ _)) (by decide) (by decide)).mono ?_
    rintro e w3 ⟨rfl, hb3⟩
    unfold frNone
    obtain ⟨W3, e3, m3, b3⟩ := name_fr w3 (.bool false) (.slice none 0 0) (.bool false) (.slice none 0 0)
    have E3 := Lib.hid e3
    have R3 := Below.step hb3 b3
    have HX := (HX.out _ R3).keep
    have HY := (HY.out _ R3).keep
    have N1 := (N1.out _ R3).keep
    have N2 := (N2.out _ R3).keep
    have RW := Lib.hid (Below.step RW.out R3)
    clear hb3 m3 b3 R3 e3 p0 p1 p2 p3 p4 p5 p6 p7
    go_upto_region 8 with fail
    rw [E3.out]
    rename_i hK0 K8 hK8
    refine wp_region_knownC [(40, false), (41, false), (56, false), (57, false), (59, true), (60, true), (62, false), (63, false), (64, false)] [44]
      [(7, IsV (.int .i64 (m))), (8, IsV (.int .i64 (n))), (9, IsV (.int .i64 ((x + 1)))), (10, IsV (.int .i64 ((y + 1)))), (11, IsV (.pointer (some ⟨w1.heap.size, 0, none⟩))), (12, IsV (.pointer (some ⟨w2.heap.size, 0, none⟩))), (14, IsV (.int .i64 (6)))]
      [(39, IsV (.int .i64 (n))), (44, IsV undef), (58, IsV (.int .i64 (n))), (61, IsV (.int .i64 (6)))]
      163 (by kernel_rfl) rfl (by kernel_rfl) (by kernel_rfl) ⟨rfl, rfl, rfl, rfl, rfl, rfl, rfl, trivial⟩ ⟨IsV.grows _ , IsV.grows _ , IsV.grows _ , IsV.grows _ , IsV.grows _ , IsV.grows _ , IsV.grows _ , IsV.grows _ , IsV.grows _ , IsV.grows _ , IsV.grows _ , trivial⟩ (fun t ht => by simp only [List.mem_cons, List.not_mem_nil, or_false] at ht; subst ht; exact ⟨fun _ _ h => h, fun _ => rfl⟩) ?_ ?_
    · refine AllStepC.step (by kernel_rfl) (step_move (fun _ _ h => h)) ?_
      refine AllStepC.step (by kernel_rfl) (step_neL (fun _ _ h => h) (HT1.out) (fun _ => rfl)) ?_
      refine AllStepC.step (by kernel_rfl) (step_move (fun _ _ h => h)) ?_
      refine AllStepC.skip (by kernel_rfl) (by kernel_rfl) ?_
      refine AllStepC.skip (by kernel_rfl) (by kernel_rfl) ?_
      refine AllStepC.skip (by kernel_rfl) (by kernel_rfl) ?_
      refine AllStepC.skip (by kernel_rfl) (by kernel_rfl) ?_
      refine AllStepC.skip (by kernel_rfl) (by kernel_rfl) ?_
      refine AllStepC.skip (by kernel_rfl) (by kernel_rfl) ?_
      refine AllStepC.skip (by kernel_rfl) (by kernel_rfl) ?_
      refine AllStepC.skip (by kernel_rfl) (by kernel_rfl) ?_
      refine AllStepC.skip (by kernel_rfl) (by kernel_rfl) ?_
      refine AllStepC.skip (by kernel_rfl) (by kernel_rfl) ?_
      refine AllStepC.skip (by kernel_rfl) (by kernel_rfl) ?_
      refine AllStepC.skip (by kernel_rfl) (by kernel_rfl) ?_
      refine AllStepC.skip (by kernel_rfl) (by kernel_rfl) ?_
      refine AllStepC.skip (by kernel_rfl) (by kernel_rfl) ?_
      refine AllStepC.step (by kernel_rfl) (step_pickFk (fun _ _ h => h) (fun _ => rfl)) ?_
      refine AllStepC.step (by kernel_rfl) (step_move (fun _ _ h => h)) ?_
      refine AllStepC.step (by kernel_rfl) (step_move (fun _ _ h => h)) ?_
      refine AllStepC.step (by kernel_rfl) (step_eqL (fun _ _ h => h) (HT0.out) (fun _ => rfl)) ?_
      refine AllStepC.step (by kernel_rfl) (step_move (fun _ _ h => h)) ?_
      refine AllStepC.step (by kernel_rfl) (step_move (fun _ _ h => h)) ?_
      refine AllStepC.step (by kernel_rfl) (step_neE (fun _ _ h => h) (by decide) (fun _ => rfl)) ?_
      refine AllStepC.step (by kernel_rfl) (step_pickT (fun _ _ h => h) (fun _ _ h => h)) ?_
      refine AllStepC.step (by kernel_rfl) (step_pickF (fun _ _ h => h) (fun _ _ h => h)) ?_
      exact AllStepC.nil
    · intro a8 w8 hb8 hs8 hd8 hk8
      have g7 : a8.eval (.tmp 7) = .int .i64 m := hk8 7
      have g8 : a8.eval (.tmp 8) = .int .i64 n := hk8 8
      have g9 : a8.eval (.tmp 9) = .int .i64 (x + 1) := hk8 9
      have g10 : a8.eval (.tmp 10) = .int .i64 (y + 1) := hk8 10
      have g11 : a8.eval (.tmp 11) = .pointer (some ⟨w1.heap.size, 0, none⟩) := hk8 11
      have g12 : a8.eval (.tmp 12) = .pointer (some ⟨w2.heap.size, 0, none⟩) := hk8 12
      have g64 : a8.eval (.tmp 64) = .bool false := hk8 64
      have HX := (HX.out _ hb8).keep
      have HY := (HY.out _ hb8).keep
      have N1 := (N1.out _ hb8).keep
      have N2 := (N2.out _ hb8).keep
      have RW := Lib.hid (Below.step RW.out hb8)
      refine hK8 _ _ ?_
      refine wp_cond_false g64 ?_
      refine wp_skip ?_
      refine hK0 _ _ ?_
      refine wp_seq_k ?_
      intro K9 hK9
      try simp only [List.append_eq, List.cons_append, List.nil_append]
      refine wp_region_known [(6, true), (65, true), (66, true), (81, true), (82, true), (83, true), (98, true), (99, true), (100, true), (111, true), (112, true), (113, true), (117, (cmpR (Rat.divInt m (x + 1)) (Rat.divInt n (y + 1)) == -1)), (124, (decide ((m * (y + 1)) < (n * (x + 1))))), (125, true), (126, true), (127, true), (129, (decide (((Rat.divInt m (x + 1)).den : Int) = 1))), (133, ((m).tmod (x + 1) == 0)), (134, true), (135, true), (136, true), (141, true), (142, true), (143, true), (150, true), (151, true), (152, true), (161, true), (162, true)]
        [(7, IsV (.int .i64 (m))), (8, IsV (.int .i64 (n))), (9, IsV (.int .i64 ((x + 1)))), (10, IsV (.int .i64 ((y + 1)))), (11, IsV (.pointer (some ⟨w1.heap.size, 0, none⟩))), (12, IsV (.pointer (some ⟨w2.heap.size, 0, none⟩)))]
        [(67, IsF 3 (Rat.divInt m (x + 1))), (68, IsF 3 (Rat.divInt n (y + 1))), (69, IsF 7 ((Rat.divInt m (x + 1) + Rat.divInt n (y + 1)))), (70, IsV (.int .i64 (m))), (71, IsV (.int .i64 ((y + 1)))), (72, IsV (.int .i64 ((m * (y + 1))))), (73, IsV (.int .i64 (n))), (74, IsV (.int .i64 ((x + 1)))), (75, IsV (.int .i64 ((n * (x + 1))))), (76, IsV (.int .i64 (((m * (y + 1)) + (n * (x + 1)))))), (77, IsV (.int .i64 ((x + 1)))), (78, IsV (.int .i64 ((y + 1)))), (79, IsV (.int .i64 (((x + 1) * (y + 1))))), (80, IsF 3 (Rat.divInt ((m * (y + 1)) + (n * (x + 1))) ((x + 1) * (y + 1)))), (84, IsF 3 (Rat.divInt m (x + 1))), (85, IsF 3 (Rat.divInt n (y + 1))), (86, IsF 7 ((Rat.divInt m (x + 1) - Rat.divInt n (y + 1)))), (87, IsV (.int .i64 (m))), (88, IsV (.int .i64 ((y + 1)))), (89, IsV (.int .i64 ((m * (y + 1))))), (90, IsV (.int .i64 (n))), (91, IsV (.int .i64 ((x + 1)))), (92, IsV (.int .i64 ((n * (x + 1))))), (93, IsV (.int .i64 (((m * (y + 1)) - (n * (x + 1)))))), (94, IsV (.int .i64 ((x + 1)))), (95, IsV (.int .i64 ((y + 1)))), (96, IsV (.int .i64 (((x + 1) * (y + 1))))), (97, IsF 3 (Rat.divInt ((m * (y + 1)) - (n * (x + 1))) ((x + 1) * (y + 1)))), (101, IsF 3 (Rat.divInt m (x + 1))), (102, IsF 3 (Rat.divInt n (y + 1))), (103, IsF 6 ((Rat.divInt m (x + 1) * Rat.divInt n (y + 1)))), (104, IsV (.int .i64 (m))), (105, IsV (.int .i64 (n))), (106, IsV (.int .i64 ((m * n)))), (107, IsV (.int .i64 ((x + 1)))), (108, IsV (.int .i64 ((y + 1)))), (109, IsV (.int .i64 (((x + 1) * (y + 1))))), (110, IsF 3 (Rat.divInt (m * n) ((x + 1) * (y + 1)))), (114, IsF 3 (Rat.divInt m (x + 1))), (115, IsF 3 (Rat.divInt n (y + 1))), (116, IsV (.int .i64 (cmpR (Rat.divInt m (x + 1)) (Rat.divInt n (y + 1))))), (118, IsV (.int .i64 (m))), (119, IsV (.int .i64 ((y + 1)))), (120, IsV (.int .i64 ((m * (y + 1))))), (121, IsV (.int .i64 (n))), (122, IsV (.int .i64 ((x + 1)))), (123, IsV (.int .i64 ((n * (x + 1))))), (128, IsF 3 (Rat.divInt m (x + 1))), (130, IsV (.int .i64 (m))), (131, IsV (.int .i64 ((x + 1)))), (132, IsV (.int .i64 ((m).tmod (x + 1)))), (137, IsV (.int .i64 (m))), (138, IsF 3 ((m : Rat))), (139, IsV (.int .i64 (m))), (140, IsF 3 (Rat.divInt m 1)), (144, IsV (.int .i64 (m))), (145, IsV (.int .i64 ((-m)))), (146, IsV (.int .i64 ((x + 1)))), (147, IsV (.int .i64 ((-(x + 1))))), (148, IsF 3 (Rat.divInt (-m) (-(x + 1)))), (149, IsF 3 (Rat.divInt m (x + 1))), (153, IsV (.int .i64 (m))), (154, IsV (.int .i64 ((x + 1)))), (155, IsV (.int .i64 ((-(x + 1))))), (156, IsF 3 (Rat.divInt m (-(x + 1)))), (157, IsV (.int .i64 (cmpR (Rat.divInt m (-(x + 1))) 0))), (158, IsF 3 (Rat.divInt m (x + 1))), (159, IsV (.int .i64 (cmpR (Rat.divInt m (x + 1)) 0))), (160, IsV (.int .i64 ((-cmpR (Rat.divInt m (x + 1)) 0))))]
        163 (by kernel_rfl) hs8 (by kernel_rfl) (by kernel_rfl) ⟨g7, g8, g9, g10, g11, g12, trivial⟩ ⟨IsV.grows _ , IsV.grows _ , IsV.grows _ , IsV.grows _ , IsV.grows _ , IsV.grows _ , IsF.grows _ _ , IsF.grows _ _ , IsF.grows _ _ , IsV.grows _ , IsV.grows _ , IsV.grows _ , IsV.grows _ , IsV.grows _ , IsV.grows _ , IsV.grows _ , IsV.grows _ , IsV.grows _ , IsV.grows _ , IsF.grows _ _ , IsF.grows _ _ , IsF.grows _ _ , IsF.grows _ _ , IsV.grows _ , IsV.grows _ , IsV.grows _ , IsV.grows _ , IsV.grows _ , IsV.grows _ , IsV.grows _ , IsV.grows _ , IsV.grows _ , IsV.grows _ , IsF.grows _ _ , IsF.grows _ _ , IsF.grows _ _ , IsF.grows _ _ , IsV.grows _ , IsV.grows _ , IsV.grows _ , IsV.grows _ , IsV.grows _ , IsV.grows _ , IsF.grows _ _ , IsF.grows _ _ , IsF.grows _ _ , IsV.grows _ , IsV.grows _ , IsV.grows _ , IsV.grows _ , IsV.grows _ , IsV.grows _ , IsV.grows _ , IsF.grows _ _ , IsV.grows _ , IsV.grows _ , IsV.grows _ , IsV.grows _ , IsF.grows _ _ , IsV.grows _ , IsF.grows _ _ , IsV.grows _ , IsV.grows _ , IsV.grows _ , IsV.grows _ , IsF.grows _ _ , IsF.grows _ _ , IsV.grows _ , IsV.grows _ , IsV.grows _ , IsF.grows _ _ , IsV.grows _ , IsF.grows _ _ , IsV.grows _ , IsV.grows _ , trivial⟩ ?_ ?_
      · refine AllStep.cons (step_call0 (Plain.of Tryz.func64 rfl rfl) (fun w hb => (aliveF_true w (T0.out _ (Below.step RW.out hb))).mono (fun _ _ h => ansV h))) ?_
        refine AllStep.cons (step_move (fun _ _ h => h)) ?_
        refine AllStep.cons (step_loadT (fun _ _ h => h) (fun W hb => run_load4 rfl rfl rfl (N1.out W hb).at0 (N1.out W hb).at1 (N1.out W hb).at2 (N1.out W hb).at3) (fun w hb => HX.out w hb)) ?_
        refine AllStep.cons (step_loadT (fun _ _ h => h) (fun W hb => run_load4 rfl rfl rfl (N2.out W hb).at0 (N2.out W hb).at1 (N2.out W hb).at2 (N2.out W hb).at3) (fun w hb => HY.out w hb)) ?_
        refine AllStep.cons (step_call2 (Plain.of Tryz.func37 rfl rfl) (fun _ _ _ _ hu hv => AddF_at (FrOk.at hu) (FrOk.at hv) (by decide) (by decide) (by decide) (by decide))) ?_
        refine AllStep.cons (step_move (fun _ _ h => h)) ?_
        refine AllStep.cons (step_move (fun _ _ h => h)) ?_
        refine AllStep.cons (step_mulL (fun _ _ h => h) (fun _ _ h => h) (IntWalk.i64_in _ HJ.out.1) (fun _ => rfl)) ?_
        refine AllStep.cons (step_move (fun _ _ h => h)) ?_
        refine AllStep.cons (step_move (fun _ _ h => h)) ?_
        refine AllStep.cons (step_mulL (fun _ _ h => h) (fun _ _ h => h) (IntWalk.i64_in _ HJ.out.2.2.1) (fun _ => rfl)) ?_
        refine AllStep.cons (step_addL (fun _ _ h => h) (fun _ _ h => h) (IntWalk.i64_in _ HJ.out.2.2.2.2.2.1) (fun _ => rfl)) ?_
        refine AllStep.cons (step_move (fun _ _ h => h)) ?_
        refine AllStep.cons (step_move (fun _ _ h => h)) ?_
        refine AllStep.cons (step_mulL (fun _ _ h => h) (fun _ _ h => h) (IntWalk.i64_in _ HJ.out.2.2.2.1) (fun _ => rfl)) ?_
        refine AllStep.cons (step_call2 (Plain.of Tryz.func66 rfl rfl) (fun u v w _ hu hv => by have hu' : u = .int .i64 (((m * (y + 1)) + (n * (x + 1)))) := hu; have hv' : v = .int .i64 (((x + 1) * (y + 1))) := hv; subst hu'; subst hv'; exact of_num HJ.out.2.2.2.2.2.1 HJ.out.2.2.2.1 HNZ.out.2.1)) ?_
        refine AllStep.cons (step_call2 (Plain.of Tryz.func65 rfl rfl) (fun _ _ _ _ hu hv => (same_ok hu hv true (decide_eq_true (small_add HP.out.1 HP.out.2))).mono (fun _ _ h => ansV h))) ?_
        refine AllStep.cons (step_pickT (fun _ _ h => h) (fun _ _ h => h)) ?_
        refine AllStep.cons (step_move (fun _ _ h => h)) ?_
        refine AllStep.cons (step_loadT (fun _ _ h => h) (fun W hb => run_load4 rfl rfl rfl (N1.out W hb).at0 (N1.out W hb).at1 (N1.out W hb).at2 (N1.out W hb).at3) (fun w hb => HX.out w hb)) ?_
        refine AllStep.cons (step_loadT (fun _ _ h => h) (fun W hb => run_load4 rfl rfl rfl (N2.out W hb).at0 (N2.out W hb).at1 (N2.out W hb).at2 (N2.out W hb).at3) (fun w hb => HY.out w hb)) ?_
        refine AllStep.cons (step_call2 (Plain.of Tryz.func38 rfl rfl) (fun _ _ _ _ hu hv => SubF_at (FrOk.at hu) (FrOk.at hv) (by decide) (by decide) (by decide) (by decide))) ?_
        refine AllStep.cons (step_move (fun _ _ h => h)) ?_
        refine AllStep.cons (step_move (fun _ _ h => h)) ?_
        refine AllStep.cons (step_mulL (fun _ _ h => h) (fun _ _ h => h) (IntWalk.i64_in _ HJ.out.1) (fun _ => rfl)) ?_
        refine AllStep.cons (step_move (fun _ _ h => h)) ?_
        refine AllStep.cons (step_move (fun _ _ h => h)) ?_
        refine AllStep.cons (step_mulL (fun _ _ h => h) (fun _ _ h => h) (IntWalk.i64_in _ HJ.out.2.2.1) (fun _ => rfl)) ?_
        refine AllStep.cons (step_subL (fun _ _ h => h) (fun _ _ h => h) (IntWalk.i64_in _ HJ.out.2.2.2.2.2.2.1) (fun _ => rfl)) ?_
        refine AllStep.cons (step_move (fun _ _ h => h)) ?_
        refine AllStep.cons (step_move (fun _ _ h => h)) ?_
        refine AllStep.cons (step_mulL (fun _ _ h => h) (fun _ _ h => h) (IntWalk.i64_in _ HJ.out.2.2.2.1) (fun _ => rfl)) ?_
        refine AllStep.cons (step_call2 (Plain.of Tryz.func66 rfl rfl) (fun u v w _ hu hv => by have hu' : u = .int .i64 (((m * (y + 1)) - (n * (x + 1)))) := hu; have hv' : v = .int .i64 (((x + 1) * (y + 1))) := hv; subst hu'; subst hv'; exact of_num HJ.out.2.2.2.2.2.2.1 HJ.out.2.2.2.1 HNZ.out.2.1)) ?_
        refine AllStep.cons (step_call2 (Plain.of Tryz.func65 rfl rfl) (fun _ _ _ _ hu hv => (same_ok hu hv true (decide_eq_true (small_sub HP.out.1 HP.out.2))).mono (fun _ _ h => ansV h))) ?_
        refine AllStep.cons (step_pickT (fun _ _ h => h) (fun _ _ h => h)) ?_
        refine AllStep.cons (step_move (fun _ _ h => h)) ?_
        refine AllStep.cons (step_loadT (fun _ _ h => h) (fun W hb => run_load4 rfl rfl rfl (N1.out W hb).at0 (N1.out W hb).at1 (N1.out W hb).at2 (N1.out W hb).at3) (fun w hb => HX.out w hb)) ?_
        refine AllStep.cons (step_loadT (fun _ _ h => h) (fun W hb => run_load4 rfl rfl rfl (N2.out W hb).at0 (N2.out W hb).at1 (N2.out W hb).at2 (N2.out W hb).at3) (fun w hb => HY.out w hb)) ?_
        refine AllStep.cons (step_call2 (Plain.of Tryz.func39 rfl rfl) (fun _ _ _ _ hu hv => MulF_at (FrOk.at hu) (FrOk.at hv) (by decide) (by decide) (by decide) (by decide))) ?_
        refine AllStep.cons (step_move (fun _ _ h => h)) ?_
        refine AllStep.cons (step_move (fun _ _ h => h)) ?_
        refine AllStep.cons (step_mulL (fun _ _ h => h) (fun _ _ h => h) (IntWalk.i64_in _ HJ.out.2.2.2.2.1) (fun _ => rfl)) ?_
        refine AllStep.cons (step_move (fun _ _ h => h)) ?_
        refine AllStep.cons (step_move (fun _ _ h => h)) ?_
        refine AllStep.cons (step_mulL (fun _ _ h => h) (fun _ _ h => h) (IntWalk.i64_in _ HJ.out.2.2.2.1) (fun _ => rfl)) ?_
        refine AllStep.cons (step_call2 (Plain.of Tryz.func66 rfl rfl) (fun u v w _ hu hv => by have hu' : u = .int .i64 ((m * n)) := hu; have hv' : v = .int .i64 (((x + 1) * (y + 1))) := hv; subst hu'; subst hv'; exact of_num HJ.out.2.2.2.2.1 HJ.out.2.2.2.1 HNZ.out.2.1)) ?_
        refine AllStep.cons (step_call2 (Plain.of Tryz.func65 rfl rfl) (fun _ _ _ _ hu hv => (same_ok hu hv true (decide_eq_true (small_mul))).mono (fun _ _ h => ansV h))) ?_
        refine AllStep.cons (step_pickT (fun _ _ h => h) (fun _ _ h => h)) ?_
        refine AllStep.cons (step_move (fun _ _ h => h)) ?_
        refine AllStep.cons (step_loadT (fun _ _ h => h) (fun W hb => run_load4 rfl rfl rfl (N1.out W hb).at0 (N1.out W hb).at1 (N1.out W hb).at2 (N1.out W hb).at3) (fun w hb => HX.out w hb)) ?_
        refine AllStep.cons (step_loadT (fun _ _ h => h) (fun W hb => run_load4 rfl rfl rfl (N2.out W hb).at0 (N2.out W hb).at1 (N2.out W hb).at2 (N2.out W hb).at3) (fun w hb => HY.out w hb)) ?_
        refine AllStep.cons (step_call2 (Plain.of Tryz.func42 rfl rfl) (fun _ _ _ _ hu hv => (CmpF_at (FrOk.at hu) (FrOk.at hv) (by decide) (by decide) (by decide) (by decide)).mono (fun _ _ h => ansV h))) ?_
        refine AllStep.cons (step_eqI (fun _ _ h => h) rfl (fun _ => rfl)) ?_
        refine AllStep.cons (step_move (fun _ _ h => h)) ?_
        refine AllStep.cons (step_move (fun _ _ h => h)) ?_
        refine AllStep.cons (step_mulL (fun _ _ h => h) (fun _ _ h => h) (IntWalk.i64_in _ HJ.out.1) (fun _ => rfl)) ?_
        refine AllStep.cons (step_move (fun _ _ h => h)) ?_
        refine AllStep.cons (step_move (fun _ _ h => h)) ?_
        refine AllStep.cons (step_mulL (fun _ _ h => h) (fun _ _ h => h) (IntWalk.i64_in _ HJ.out.2.2.1) (fun _ => rfl)) ?_
        refine AllStep.cons (step_lssLL (fun _ _ h => h) (fun _ _ h => h) rfl (fun _ => rfl)) ?_
        refine AllStep.cons (step_eqBB (fun _ _ h => h) (fun _ _ h => h) (small_eq (small_lt HP.out.1 HP.out.2)) (fun _ => rfl)) ?_
        refine AllStep.cons (step_pickT (fun _ _ h => h) (fun _ _ h => h)) ?_
        refine AllStep.cons (step_move (fun _ _ h => h)) ?_
        refine AllStep.cons (step_loadT (fun _ _ h => h) (fun W hb => run_load4 rfl rfl rfl (N1.out W hb).at0 (N1.out W hb).at1 (N1.out W hb).at2 (N1.out W hb).at3) (fun w hb => HX.out w hb)) ?_
        refine AllStep.cons (step_call1 (Plain.of Tryz.func60 rfl rfl) (fun _ _ _ hu => (WholeF_at (FrOk.at hu) (by decide) (by decide) _ rfl).mono (fun _ _ h => ansV h))) ?_
        refine AllStep.cons (step_move (fun _ _ h => h)) ?_
        refine AllStep.cons (step_move (fun _ _ h => h)) ?_
        refine AllStep.cons (step_remL (fun _ _ h => h) (fun _ _ h => h) (fun _ => run_remL _ _ HNZ.out.1 _) (fun _ => rfl)) ?_
        refine AllStep.cons (step_eqL (fun _ _ h => h) (rfl) (fun _ => rfl)) ?_
        refine AllStep.cons (step_eqBB (fun _ _ h => h) (fun _ _ h => h) (small_eq (small_whole HP.out.1)) (fun _ => rfl)) ?_
        refine AllStep.cons (step_pickT (fun _ _ h => h) (fun _ _ h => h)) ?_
        refine AllStep.cons (step_move (fun _ _ h => h)) ?_
        refine AllStep.cons (step_move (fun _ _ h => h)) ?_
        refine AllStep.cons (step_call1 (Plain.of Tryz.func54 rfl rfl) (fun u w _ hu => by have hu' : u = .int .i64 (m) := hu; subst hu'; exact OfF_num _ _ (HI.out.1).1 (HI.out.1).2)) ?_
        refine AllStep.cons (step_move (fun _ _ h => h)) ?_
        refine AllStep.cons (step_call1k (Plain.of Tryz.func66 rfl rfl) (fun u w _ hu => by have hu' : u = .int .i64 (m) := hu; subst hu'; exact of_num HI.out.1 (by decide) (by decide))) ?_
        refine AllStep.cons (step_call2 (Plain.of Tryz.func65 rfl rfl) (fun _ _ _ _ hu hv => (same_ok hu hv true (decide_eq_true (small_of))).mono (fun _ _ h => ansV h))) ?_
        refine AllStep.cons (step_pickT (fun _ _ h => h) (fun _ _ h => h)) ?_
        refine AllStep.cons (step_move (fun _ _ h => h)) ?_
        refine AllStep.cons (step_move (fun _ _ h => h)) ?_
        refine AllStep.cons (step_negL (fun _ _ h => h) (IntWalk.i64_in _ HJ.out.2.2.2.2.2.2.2.1) (fun _ => rfl)) ?_
        refine AllStep.cons (step_move (fun _ _ h => h)) ?_
        refine AllStep.cons (step_negL (fun _ _ h => h) (IntWalk.i64_in _ HJ.out.2.2.2.2.2.2.2.2) (fun _ => rfl)) ?_
        refine AllStep.cons (step_call2 (Plain.of Tryz.func66 rfl rfl) (fun u v w _ hu hv => by have hu' : u = .int .i64 ((-m)) := hu; have hv' : v = .int .i64 ((-(x + 1))) := hv; subst hu'; subst hv'; exact of_num HJ.out.2.2.2.2.2.2.2.1 HJ.out.2.2.2.2.2.2.2.2 HNZ.out.2.2)) ?_
        refine AllStep.cons (step_loadT (fun _ _ h => h) (fun W hb => run_load4 rfl rfl rfl (N1.out W hb).at0 (N1.out W hb).at1 (N1.out W hb).at2 (N1.out W hb).at3) (fun w hb => HX.out w hb)) ?_
        refine AllStep.cons (step_call2 (Plain.of Tryz.func65 rfl rfl) (fun _ _ _ _ hu hv => (same_ok hu hv true (decide_eq_true (small_neg))).mono (fun _ _ h => ansV h))) ?_
        refine AllStep.cons (step_pickT (fun _ _ h => h) (fun _ _ h => h)) ?_
        refine AllStep.cons (step_move (fun _ _ h => h)) ?_
        refine AllStep.cons (step_move (fun _ _ h => h)) ?_
        refine AllStep.cons (step_move (fun _ _ h => h)) ?_
        refine AllStep.cons (step_negL (fun _ _ h => h) (IntWalk.i64_in _ HJ.out.2.2.2.2.2.2.2.2) (fun _ => rfl)) ?_
        refine AllStep.cons (step_call2 (Plain.of Tryz.func66 rfl rfl) (fun u v w _ hu hv => by have hu' : u = .int .i64 (m) := hu; have hv' : v = .int .i64 ((-(x + 1))) := hv; subst hu'; subst hv'; exact of_num HI.out.1 HJ.out.2.2.2.2.2.2.2.2 HNZ.out.2.2)) ?_
        refine AllStep.cons (step_call1 (Plain.of Tryz.func44 rfl rfl) (fun _ _ _ hu => (SignF_at (FrOk.at hu) (by decide) (by decide) _ sign_cmp).mono (fun _ _ h => ansV h))) ?_
        refine AllStep.cons (step_loadT (fun _ _ h => h) (fun W hb => run_load4 rfl rfl rfl (N1.out W hb).at0 (N1.out W hb).at1 (N1.out W hb).at2 (N1.out W hb).at3) (fun w hb => HX.out w hb)) ?_
        refine AllStep.cons (step_call1 (Plain.of Tryz.func44 rfl rfl) (fun _ _ _ hu => (SignF_at (FrOk.at hu) (by decide) (by decide) _ sign_cmp).mono (fun _ _ h => ansV h))) ?_
        refine AllStep.cons (step_neg (fun _ _ h => h) (ord_wrap _ _) (fun _ => rfl)) ?_
        refine AllStep.cons (step_eqII (fun _ _ h => h) (fun _ _ h => h) (small_ieq small_sign) (fun _ => rfl)) ?_
        refine AllStep.cons (step_pickT (fun _ _ h => h) (fun _ _ h => h)) ?_
        refine AllStep.cons (step_assign (fun _ _ h => h)) ?_
        exact AllStep.nil
      · intro a9 w9 hb9 hs9 hd9 hk9
        refine hK9 _ _ ?_
        refine wp_ret ?_
        exact ret_slot (t := 6) rfl (hd9.trans hd8) (hk9 6) ⟨rfl, Below.step RW.out hb9⟩
  · have HT0 : Hid ((n == 0) = false) := show (n == 0) = false by simp [hz]
    have HT1 : Hid ((n != 0) = true) := show (n != 0) = true by simp [hz]
    have hz2 : Rat.divInt n (y + 1) ≠ 0 := fun e => by
      have h1 := (divInt_sign (P := n) HP.out.2).1
      have h2 := (divInt_sign (P := n) HP.out.2).2
      rw [e] at h1 h2
      have h3 : ¬ ((0 : Rat) < 0) := by decide
      have h4 : ¬ n < 0 := fun h => h3 (h1.2 h)
      have h5 : ¬ 0 < n := fun h => h3 (h2.2 h)
      omega
    have HZ := Lib.hid hz2
    have HPN : Hid ((x + 1) * n ≠ 0) := show (x + 1) * n ≠ 0 from Int.mul_ne_zero HNZ.out.1 hz
    clear hz hz2
    refine (DivF_ok (HX.out _ (Below.refl _ _)) (HY.out _ (Below.refl _ _)) (by decide) (by decide) HZ.out).mono ?_
    rintro e w3 ⟨⟨u3, rfl, h3⟩, hb3⟩
    obtain ⟨s3, a3, i3, j3, s3', a3', i3', j3', rfl, -⟩ := h3.split
    obtain ⟨W3, e3, m3, b3⟩ := name_fr w3 (.bool s3) (.slice a3 i3 j3) (.bool s3') (.slice a3' i3' j3')
    have R3 := Below.step hb3 b3
    have HQ := (h3.below b3).keep
    have N3 := m3.keep
    have HX := (HX.out _ R3).keep
    have HY := (HY.out _ R3).keep
    have N1 := (N1.out _ R3).keep
    have N2 := (N2.out _ R3).keep
    have RW := Lib.hid (Below.step RW.out R3)
    clear h3 hb3 m3 b3 R3 p0 p1 p2 p3 p4 p5 p6 p7
    go_upto_region 8 with fail
    clear e3
    rename_i hK0 K8 hK8
    refine wp_region_knownC [(40, true), (41, true), (43, false), (44, false), (53, true), (54, false), (55, false), (56, false), (57, false), (59, false), (60, false), (63, false), (64, false)] []
      [(7, IsV (.int .i64 (m))), (8, IsV (.int .i64 (n))), (9, IsV (.int .i64 ((x + 1)))), (10, IsV (.int .i64 ((y + 1)))), (11, IsV (.pointer (some ⟨w1.heap.size, 0, none⟩))), (12, IsV (.pointer (some ⟨w2.heap.size, 0, none⟩))), (14, IsV (.int .i64 (0))), (13, IsV (.pointer (some ⟨w3.heap.size, 0, none⟩)))]
      [(39, IsV (.int .i64 (n))), (42, IsV (.int .i64 (0))), (45, IsF 6 ((Rat.divInt m (x + 1) / Rat.divInt n (y + 1)))), (46, IsV (.int .i64 (m))), (47, IsV (.int .i64 ((y + 1)))), (48, IsV (.int .i64 ((m * (y + 1))))), (49, IsV (.int .i64 ((x + 1)))), (50, IsV (.int .i64 (n))), (51, IsV (.int .i64 (((x + 1) * n)))), (52, IsF 3 (Rat.divInt (m * (y + 1)) ((x + 1) * n))), (58, IsV (.int .i64 (n)))]
      163 (by kernel_rfl) rfl (by kernel_rfl) (by kernel_rfl) ⟨rfl, rfl, rfl, rfl, rfl, rfl, rfl, rfl, trivial⟩ ⟨IsV.grows _ , IsV.grows _ , IsV.grows _ , IsV.grows _ , IsV.grows _ , IsV.grows _ , IsV.grows _ , IsV.grows _ , IsV.grows _ , IsV.grows _ , IsF.grows _ _ , IsV.grows _ , IsV.grows _ , IsV.grows _ , IsV.grows _ , IsV.grows _ , IsV.grows _ , IsF.grows _ _ , IsV.grows _ , trivial⟩ (fun t ht => by simp at ht) ?_ ?_
    · refine AllStepC.step (by kernel_rfl) (step_move (fun _ _ h => h)) ?_
      refine AllStepC.step (by kernel_rfl) (step_neL (fun _ _ h => h) (HT1.out) (fun _ => rfl)) ?_
      refine AllStepC.step (by kernel_rfl) (step_move (fun _ _ h => h)) ?_
      refine AllStepC.step (by kernel_rfl) (step_move (fun _ _ h => h)) ?_
      refine AllStepC.step (by kernel_rfl) (step_neE (fun _ _ h => h) (by decide) (fun _ => rfl)) ?_
      refine AllStepC.step (by kernel_rfl) (step_move (fun _ _ h => h)) ?_
      refine AllStepC.step (by kernel_rfl) (step_loadT (fun _ _ h => h) (fun W hb => run_load4 rfl rfl rfl (N3.out W hb).at0 (N3.out W hb).at1 (N3.out W hb).at2 (N3.out W hb).at3) (fun w hb => HQ.out w hb)) ?_
      refine AllStepC.step (by kernel_rfl) (step_move (fun _ _ h => h)) ?_
      refine AllStepC.step (by kernel_rfl) (step_move (fun _ _ h => h)) ?_
      refine AllStepC.step (by kernel_rfl) (step_mulL (fun _ _ h => h) (fun _ _ h => h) (IntWalk.i64_in _ HJ.out.1) (fun _ => rfl)) ?_
      refine AllStepC.step (by kernel_rfl) (step_move (fun _ _ h => h)) ?_
      refine AllStepC.step (by kernel_rfl) (step_move (fun _ _ h => h)) ?_
      refine AllStepC.step (by kernel_rfl) (step_mulL (fun _ _ h => h) (fun _ _ h => h) (IntWalk.i64_in _ HJ.out.2.1) (fun _ => rfl)) ?_
      refine AllStepC.step (by kernel_rfl) (step_call2 (Plain.of Tryz.func66 rfl rfl) (fun u v w _ hu hv => by have hu' : u = .int .i64 ((m * (y + 1))) := hu; have hv' : v = .int .i64 (((x + 1) * n)) := hv; subst hu'; subst hv'; exact of_num HJ.out.1 HJ.out.2.1 HPN.out)) ?_
      refine AllStepC.step (by kernel_rfl) (step_call2 (Plain.of Tryz.func65 rfl rfl) (fun _ _ _ _ hu hv => (same_ok hu hv true (decide_eq_true (small_div))).mono (fun _ _ h => ansV h))) ?_
      refine AllStepC.step (by kernel_rfl) (step_not true (fun _ _ h => h) (fun _ => rfl)) ?_
      refine AllStepC.step (by kernel_rfl) (step_pickF (fun _ _ h => h) (fun _ _ h => h)) ?_
      refine AllStepC.step (by kernel_rfl) (step_pickT (fun _ _ h => h) (fun _ _ h => h)) ?_
      refine AllStepC.step (by kernel_rfl) (step_move (fun _ _ h => h)) ?_
      refine AllStepC.step (by kernel_rfl) (step_move (fun _ _ h => h)) ?_
      refine AllStepC.step (by kernel_rfl) (step_eqL (fun _ _ h => h) (HT0.out) (fun _ => rfl)) ?_
      refine AllStepC.step (by kernel_rfl) (step_move (fun _ _ h => h)) ?_
      refine AllStepC.skip (by kernel_rfl) (by kernel_rfl) ?_
      refine AllStepC.skip (by kernel_rfl) (by kernel_rfl) ?_
      refine AllStepC.step (by kernel_rfl) (step_pickFk (fun _ _ h => h) (fun _ => rfl)) ?_
      refine AllStepC.step (by kernel_rfl) (step_pickF (fun _ _ h => h) (fun _ _ h => h)) ?_
      exact AllStepC.nil
    · intro a8 w8 hb8 hs8 hd8 hk8
      have g7 : a8.eval (.tmp 7) = .int .i64 m := hk8 7
      have g8 : a8.eval (.tmp 8) = .int .i64 n := hk8 8
      have g9 : a8.eval (.tmp 9) = .int .i64 (x + 1) := hk8 9
      have g10 : a8.eval (.tmp 10) = .int .i64 (y + 1) := hk8 10
      have g11 : a8.eval (.tmp 11) = .pointer (some ⟨w1.heap.size, 0, none⟩) := hk8 11
      have g12 : a8.eval (.tmp 12) = .pointer (some ⟨w2.heap.size, 0, none⟩) := hk8 12
      have g64 : a8.eval (.tmp 64) = .bool false := hk8 64
      have HX := (HX.out _ hb8).keep
      have HY := (HY.out _ hb8).keep
      have N1 := (N1.out _ hb8).keep
      have N2 := (N2.out _ hb8).keep
      have RW := Lib.hid (Below.step RW.out hb8)
      refine hK8 _ _ ?_
      refine wp_cond_false g64 ?_
      refine wp_skip ?_
      refine hK0 _ _ ?_
      refine wp_seq_k ?_
      intro K9 hK9
      try simp only [List.append_eq, List.cons_append, List.nil_append]
      refine wp_region_known [(6, true), (65, true), (66, true), (81, true), (82, true), (83, true), (98, true), (99, true), (100, true), (111, true), (112, true), (113, true), (117, (cmpR (Rat.divInt m (x + 1)) (Rat.divInt n (y + 1)) == -1)), (124, (decide ((m * (y + 1)) < (n * (x + 1))))), (125, true), (126, true), (127, true), (129, (decide (((Rat.divInt m (x + 1)).den : Int) = 1))), (133, ((m).tmod (x + 1) == 0)), (134, true), (135, true), (136, true), (141, true), (142, true), (143, true), (150, true), (151, true), (152, true), (161, true), (162, true)]
        [(7, IsV (.int .i64 (m))), (8, IsV (.int .i64 (n))), (9, IsV (.int .i64 ((x + 1)))), (10, IsV (.int .i64 ((y + 1)))), (11, IsV (.pointer (some ⟨w1.heap.size, 0, none⟩))), (12, IsV (.pointer (some ⟨w2.heap.size, 0, none⟩)))]
        [(67, IsF 3 (Rat.divInt m (x + 1))), (68, IsF 3 (Rat.divInt n (y + 1))), (69, IsF 7 ((Rat.divInt m (x + 1) + Rat.divInt n (y + 1)))), (70, IsV (.int .i64 (m))), (71, IsV (.int .i64 ((y + 1)))), (72, IsV (.int .i64 ((m * (y + 1))))), (73, IsV (.int .i64 (n))), (74, IsV (.int .i64 ((x + 1)))), (75, IsV (.int .i64 ((n * (x + 1))))), (76, IsV (.int .i64 (((m * (y + 1)) + (n * (x + 1)))))), (77, IsV (.int .i64 ((x + 1)))), (78, IsV (.int .i64 ((y + 1)))), (79, IsV (.int .i64 (((x + 1) * (y + 1))))), (80, IsF 3 (Rat.divInt ((m * (y + 1)) + (n * (x + 1))) ((x + 1) * (y + 1)))), (84, IsF 3 (Rat.divInt m (x + 1))), (85, IsF 3 (Rat.divInt n (y + 1))), (86, IsF 7 ((Rat.divInt m (x + 1) - Rat.divInt n (y + 1)))), (87, IsV (.int .i64 (m))), (88, IsV (.int .i64 ((y + 1)))), (89, IsV (.int .i64 ((m * (y + 1))))), (90, IsV (.int .i64 (n))), (91, IsV (.int .i64 ((x + 1)))), (92, IsV (.int .i64 ((n * (x + 1))))), (93, IsV (.int .i64 (((m * (y + 1)) - (n * (x + 1)))))), (94, IsV (.int .i64 ((x + 1)))), (95, IsV (.int .i64 ((y + 1)))), (96, IsV (.int .i64 (((x + 1) * (y + 1))))), (97, IsF 3 (Rat.divInt ((m * (y + 1)) - (n * (x + 1))) ((x + 1) * (y + 1)))), (101, IsF 3 (Rat.divInt m (x + 1))), (102, IsF 3 (Rat.divInt n (y + 1))), (103, IsF 6 ((Rat.divInt m (x + 1) * Rat.divInt n (y + 1)))), (104, IsV (.int .i64 (m))), (105, IsV (.int .i64 (n))), (106, IsV (.int .i64 ((m * n)))), (107, IsV (.int .i64 ((x + 1)))), (108, IsV (.int .i64 ((y + 1)))), (109, IsV (.int .i64 (((x + 1) * (y + 1))))), (110, IsF 3 (Rat.divInt (m * n) ((x + 1) * (y + 1)))), (114, IsF 3 (Rat.divInt m (x + 1))), (115, IsF 3 (Rat.divInt n (y + 1))), (116, IsV (.int .i64 (cmpR (Rat.divInt m (x + 1)) (Rat.divInt n (y + 1))))), (118, IsV (.int .i64 (m))), (119, IsV (.int .i64 ((y + 1)))), (120, IsV (.int .i64 ((m * (y + 1))))), (121, IsV (.int .i64 (n))), (122, IsV (.int .i64 ((x + 1)))), (123, IsV (.int .i64 ((n * (x + 1))))), (128, IsF 3 (Rat.divInt m (x + 1))), (130, IsV (.int .i64 (m))), (131, IsV (.int .i64 ((x + 1)))), (132, IsV (.int .i64 ((m).tmod (x + 1)))), (137, IsV (.int .i64 (m))), (138, IsF 3 ((m : Rat))), (139, IsV (.int .i64 (m))), (140, IsF 3 (Rat.divInt m 1)), (144, IsV (.int .i64 (m))), (145, IsV (.int .i64 ((-m)))), (146, IsV (.int .i64 ((x + 1)))), (147, IsV (.int .i64 ((-(x + 1))))), (148, IsF 3 (Rat.divInt (-m) (-(x + 1)))), (149, IsF 3 (Rat.divInt m (x + 1))), (153, IsV (.int .i64 (m))), (154, IsV (.int .i64 ((x + 1)))), (155, IsV (.int .i64 ((-(x + 1))))), (156, IsF 3 (Rat.divInt m (-(x + 1)))), (157, IsV (.int .i64 (cmpR (Rat.divInt m (-(x + 1))) 0))), (158, IsF 3 (Rat.divInt m (x + 1))), (159, IsV (.int .i64 (cmpR (Rat.divInt m (x + 1)) 0))), (160, IsV (.int .i64 ((-cmpR (Rat.divInt m (x + 1)) 0))))]
        163 (by kernel_rfl) hs8 (by kernel_rfl) (by kernel_rfl) ⟨g7, g8, g9, g10, g11, g12, trivial⟩ ⟨IsV.grows _ , IsV.grows _ , IsV.grows _ , IsV.grows _ , IsV.grows _ , IsV.grows _ , IsF.grows _ _ , IsF.grows _ _ , IsF.grows _ _ , IsV.grows _ , IsV.grows _ , IsV.grows _ , IsV.grows _ , IsV.grows _ , IsV.grows _ , IsV.grows _ , IsV.grows _ , IsV.grows _ , IsV.grows _ , IsF.grows _ _ , IsF.grows _ _ , IsF.grows _ _ , IsF.grows _ _ , IsV.grows _ , IsV.grows _ , IsV.grows _ , IsV.grows _ , IsV.grows _ , IsV.grows _ , IsV.grows _ , IsV.grows _ , IsV.grows _ , IsV.grows _ , IsF.grows _ _ , IsF.grows _ _ , IsF.grows _ _ , IsF.grows _ _ , IsV.grows _ , IsV.grows _ , IsV.grows _ , IsV.grows _ , IsV.grows _ , IsV.grows _ , IsF.grows _ _ , IsF.grows _ _ , IsF.grows _ _ , IsV.grows _ , IsV.grows _ , IsV.grows _ , IsV.grows _ , IsV.grows _ , IsV.grows _ , IsV.grows _ , IsF.grows _ _ , IsV.grows _ , IsV.grows _ , IsV.grows _ , IsV.grows _ , IsF.grows _ _ , IsV.grows _ , IsF.grows _ _ , IsV.grows _ , IsV.grows _ , IsV.grows _ , IsV.grows _ , IsF.grows _ _ , IsF.grows _ _ , IsV.grows _ , IsV.grows _ , IsV.grows _ , IsF.grows _ _ , IsV.grows _ , IsF.grows _ _ , IsV.grows _ , IsV.grows _ , trivial⟩ ?_ ?_
      · refine AllStep.cons (step_call0 (Plain.of Tryz.func64 rfl rfl) (fun w hb => (aliveF_true w (T0.out _ (Below.step RW.out hb))).mono (fun _ _ h => ansV h))) ?_
        refine AllStep.cons (step_move (fun _ _ h => h)) ?_
        refine AllStep.cons (step_loadT (fun _ _ h => h) (fun W hb => run_load4 rfl rfl rfl (N1.out W hb).at0 (N1.out W hb).at1 (N1.out W hb).at2 (N1.out W hb).at3) (fun w hb => HX.out w hb)) ?_
        refine AllStep.cons (step_loadT (fun _ _ h => h) (fun W hb => run_load4 rfl rfl rfl (N2.out W hb).at0 (N2.out W hb).at1 (N2.out W hb).at2 (N2.out W hb).at3) (fun w hb => HY.out w hb)) ?_
        refine AllStep.cons (step_call2 (Plain.of Tryz.func37 rfl rfl) (fun _ _ _ _ hu hv => AddF_at (FrOk.at hu) (FrOk.at hv) (by decide) (by decide) (by decide) (by decide))) ?_
        refine AllStep.cons (step_move (fun _ _ h => h)) ?_
        refine AllStep.cons (step_move (fun _ _ h => h)) ?_
        refine AllStep.cons (step_mulL (fun _ _ h => h) (fun _ _ h => h) (IntWalk.i64_in _ HJ.out.1) (fun _ => rfl)) ?_
        refine AllStep.cons (step_move (fun _ _ h => h)) ?_
        refine AllStep.cons (step_move (fun _ _ h => h)) ?_
        refine AllStep.cons (step_mulL (fun _ _ h => h) (fun _ _ h => h) (IntWalk.i64_in _ HJ.out.2.2.1) (fun _ => rfl)) ?_
        refine AllStep.cons (step_addL (fun _ _ h => h) (fun _ _ h => h) (IntWalk.i64_in _ HJ.out.2.2.2.2.2.1) (fun _ => rfl)) ?_
        refine AllStep.cons (step_move (fun _ _ h => h)) ?_
        refine AllStep.cons (step_move (fun _ _ h => h)) ?_
        refine AllStep.cons (step_mulL (fun _ _ h => h) (fun _ _ h => h) (IntWalk.i64_in _ HJ.out.2.2.2.1) (fun _ => rfl)) ?_
        refine AllStep.cons (step_call2 (Plain.of Tryz.func66 rfl rfl) (fun u v w _ hu hv => by have hu' : u = .int .i64 (((m * (y + 1)) + (n * (x + 1)))) := hu; have hv' : v = .int .i64 (((x + 1) * (y + 1))) := hv; subst hu'; subst hv'; exact of_num HJ.out.2.2.2.2.2.1 HJ.out.2.2.2.1 HNZ.out.2.1)) ?_
        refine AllStep.cons (step_call2 (Plain.of Tryz.func65 rfl rfl) (fun _ _ _ _ hu hv => (same_ok hu hv true (decide_eq_true (small_add HP.out.1 HP.out.2))).mono (fun _ _ h => ansV h))) ?_
        refine AllStep.cons (step_pickT (fun _ _ h => h) (fun _ _ h => h)) ?_
        refine AllStep.cons (step_move (fun _ _ h => h)) ?_
        refine AllStep.cons (step_loadT (fun _ _ h => h) (fun W hb => run_load4 rfl rfl rfl (N1.out W hb).at0 (N1.out W hb).at1 (N1.out W hb).at2 (N1.out W hb).at3) (fun w hb => HX.out w hb)) ?_
        refine AllStep.cons (step_loadT (fun _ _ h => h) (fun W hb => run_load4 rfl rfl rfl (N2.out W hb).at0 (N2.out W hb).at1 (N2.out W hb).at2 (N2.out W hb).at3) (fun w hb => HY.out w hb)) ?_
        refine AllStep.cons (step_call2 (Plain.of Tryz.func38 rfl rfl) (fun _ _ _ _ hu hv => SubF_at (FrOk.at hu) (FrOk.at hv) (by decide) (by decide) (by decide) (by decide))) ?_
        refine AllStep.cons (step_move (fun _ _ h => h)) ?_
        refine AllStep.cons (step_move (fun _ _ h => h)) ?_
        refine AllStep.cons (step_mulL (fun _ _ h => h) (fun _ _ h => h) (IntWalk.i64_in _ HJ.out.1) (fun _ => rfl)) ?_
        refine AllStep.cons (step_move (fun _ _ h => h)) ?_
        refine AllStep.cons (step_move (fun _ _ h => h)) ?_
        refine AllStep.cons (step_mulL (fun _ _ h => h) (fun _ _ h => h) (IntWalk.i64_in _ HJ.out.2.2.1) (fun _ => rfl)) ?_
        refine AllStep.cons (step_subL (fun _ _ h => h) (fun _ _ h => h) (IntWalk.i64_in _ HJ.out.2.2.2.2.2.2.1) (fun _ => rfl)) ?_
        refine AllStep.cons (step_move (fun _ _ h => h)) ?_
        refine AllStep.cons (step_move (fun _ _ h => h)) ?_
        refine AllStep.cons (step_mulL (fun _ _ h => h) (fun _ _ h => h) (IntWalk.i64_in _ HJ.out.2.2.2.1) (fun _ => rfl)) ?_
        refine AllStep.cons (step_call2 (Plain.of Tryz.func66 rfl rfl) (fun u v w _ hu hv => by have hu' : u = .int .i64 (((m * (y + 1)) - (n * (x + 1)))) := hu; have hv' : v = .int .i64 (((x + 1) * (y + 1))) := hv; subst hu'; subst hv'; exact of_num HJ.out.2.2.2.2.2.2.1 HJ.out.2.2.2.1 HNZ.out.2.1)) ?_
        refine AllStep.cons (step_call2 (Plain.of Tryz.func65 rfl rfl) (fun _ _ _ _ hu hv => (same_ok hu hv true (decide_eq_true (small_sub HP.out.1 HP.out.2))).mono (fun _ _ h => ansV h))) ?_
        refine AllStep.cons (step_pickT (fun _ _ h => h) (fun _ _ h => h)) ?_
        refine AllStep.cons (step_move (fun _ _ h => h)) ?_
        refine AllStep.cons (step_loadT (fun _ _ h => h) (fun W hb => run_load4 rfl rfl rfl (N1.out W hb).at0 (N1.out W hb).at1 (N1.out W hb).at2 (N1.out W hb).at3) (fun w hb => HX.out w hb)) ?_
        refine AllStep.cons (step_loadT (fun _ _ h => h) (fun W hb => run_load4 rfl rfl rfl (N2.out W hb).at0 (N2.out W hb).at1 (N2.out W hb).at2 (N2.out W hb).at3) (fun w hb => HY.out w hb)) ?_
        refine AllStep.cons (step_call2 (Plain.of Tryz.func39 rfl rfl) (fun _ _ _ _ hu hv => MulF_at (FrOk.at hu) (FrOk.at hv) (by decide) (by decide) (by decide) (by decide))) ?_
        refine AllStep.cons (step_move (fun _ _ h => h)) ?_
        refine AllStep.cons (step_move (fun _ _ h => h)) ?_
        refine AllStep.cons (step_mulL (fun _ _ h => h) (fun _ _ h => h) (IntWalk.i64_in _ HJ.out.2.2.2.2.1) (fun _ => rfl)) ?_
        refine AllStep.cons (step_move (fun _ _ h => h)) ?_
        refine AllStep.cons (step_move (fun _ _ h => h)) ?_
        refine AllStep.cons (step_mulL (fun _ _ h => h) (fun _ _ h => h) (IntWalk.i64_in _ HJ.out.2.2.2.1) (fun _ => rfl)) ?_
        refine AllStep.cons (step_call2 (Plain.of Tryz.func66 rfl rfl) (fun u v w _ hu hv => by have hu' : u = .int .i64 ((m * n)) := hu; have hv' : v = .int .i64 (((x + 1) * (y + 1))) := hv; subst hu'; subst hv'; exact of_num HJ.out.2.2.2.2.1 HJ.out.2.2.2.1 HNZ.out.2.1)) ?_
        refine AllStep.cons (step_call2 (Plain.of Tryz.func65 rfl rfl) (fun _ _ _ _ hu hv => (same_ok hu hv true (decide_eq_true (small_mul))).mono (fun _ _ h => ansV h))) ?_
        refine AllStep.cons (step_pickT (fun _ _ h => h) (fun _ _ h => h)) ?_
        refine AllStep.cons (step_move (fun _ _ h => h)) ?_
        refine AllStep.cons (step_loadT (fun _ _ h => h) (fun W hb => run_load4 rfl rfl rfl (N1.out W hb).at0 (N1.out W hb).at1 (N1.out W hb).at2 (N1.out W hb).at3) (fun w hb => HX.out w hb)) ?_
        refine AllStep.cons (step_loadT (fun _ _ h => h) (fun W hb => run_load4 rfl rfl rfl (N2.out W hb).at0 (N2.out W hb).at1 (N2.out W hb).at2 (N2.out W hb).at3) (fun w hb => HY.out w hb)) ?_
        refine AllStep.cons (step_call2 (Plain.of Tryz.func42 rfl rfl) (fun _ _ _ _ hu hv => (CmpF_at (FrOk.at hu) (FrOk.at hv) (by decide) (by decide) (by decide) (by decide)).mono (fun _ _ h => ansV h))) ?_
        refine AllStep.cons (step_eqI (fun _ _ h => h) rfl (fun _ => rfl)) ?_
        refine AllStep.cons (step_move (fun _ _ h => h)) ?_
        refine AllStep.cons (step_move (fun _ _ h => h)) ?_
        refine AllStep.cons (step_mulL (fun _ _ h => h) (fun _ _ h => h) (IntWalk.i64_in _ HJ.out.1) (fun _ => rfl)) ?_
        refine AllStep.cons (step_move (fun _ _ h => h)) ?_
        refine AllStep.cons (step_move (fun _ _ h => h)) ?_
        refine AllStep.cons (step_mulL (fun _ _ h => h) (fun _ _ h => h) (IntWalk.i64_in _ HJ.out.2.2.1) (fun _ => rfl)) ?_
        refine AllStep.cons (step_lssLL (fun _ _ h => h) (fun _ _ h => h) rfl (fun _ => rfl)) ?_
        refine AllStep.cons (step_eqBB (fun _ _ h => h) (fun _ _ h => h) (small_eq (small_lt HP.out.1 HP.out.2)) (fun _ => rfl)) ?_
        refine AllStep.cons (step_pickT (fun _ _ h => h) (fun _ _ h => h)) ?_
        refine AllStep.cons (step_move (fun _ _ h => h)) ?_
        refine AllStep.cons (step_loadT (fun _ _ h => h) (fun W hb => run_load4 rfl rfl rfl (N1.out W hb).at0 (N1.out W hb).at1 (N1.out W hb).at2 (N1.out W hb).at3) (fun w hb => HX.out w hb)) ?_
        refine AllStep.cons (step_call1 (Plain.of Tryz.func60 rfl rfl) (fun _ _ _ hu => (WholeF_at (FrOk.at hu) (by decide) (by decide) _ rfl).mono (fun _ _ h => ansV h))) ?_
        refine AllStep.cons (step_move (fun _ _ h => h)) ?_
        refine AllStep.cons (step_move (fun _ _ h => h)) ?_
        refine AllStep.cons (step_remL (fun _ _ h => h) (fun _ _ h => h) (fun _ => run_remL _ _ HNZ.out.1 _) (fun _ => rfl)) ?_
        refine AllStep.cons (step_eqL (fun _ _ h => h) (rfl) (fun _ => rfl)) ?_
        refine AllStep.cons (step_eqBB (fun _ _ h => h) (fun _ _ h => h) (small_eq (small_whole HP.out.1)) (fun _ => rfl)) ?_
        refine AllStep.cons (step_pickT (fun _ _ h => h) (fun _ _ h => h)) ?_
        refine AllStep.cons (step_move (fun _ _ h => h)) ?_
        refine AllStep.cons (step_move (fun _ _ h => h)) ?_
        refine AllStep.cons (step_call1 (Plain.of Tryz.func54 rfl rfl) (fun u w _ hu => by have hu' : u = .int .i64 (m) := hu; subst hu'; exact OfF_num _ _ (HI.out.1).1 (HI.out.1).2)) ?_
        refine AllStep.cons (step_move (fun _ _ h => h)) ?_
        refine AllStep.cons (step_call1k (Plain.of Tryz.func66 rfl rfl) (fun u w _ hu => by have hu' : u = .int .i64 (m) := hu; subst hu'; exact of_num HI.out.1 (by decide) (by decide))) ?_
        refine AllStep.cons (step_call2 (Plain.of Tryz.func65 rfl rfl) (fun _ _ _ _ hu hv => (same_ok hu hv true (decide_eq_true (small_of))).mono (fun _ _ h => ansV h))) ?_
        refine AllStep.cons (step_pickT (fun _ _ h => h) (fun _ _ h => h)) ?_
        refine AllStep.cons (step_move (fun _ _ h => h)) ?_
        refine AllStep.cons (step_move (fun _ _ h => h)) ?_
        refine AllStep.cons (step_negL (fun _ _ h => h) (IntWalk.i64_in _ HJ.out.2.2.2.2.2.2.2.1) (fun _ => rfl)) ?_
        refine AllStep.cons (step_move (fun _ _ h => h)) ?_
        refine AllStep.cons (step_negL (fun _ _ h => h) (IntWalk.i64_in _ HJ.out.2.2.2.2.2.2.2.2) (fun _ => rfl)) ?_
        refine AllStep.cons (step_call2 (Plain.of Tryz.func66 rfl rfl) (fun u v w _ hu hv => by have hu' : u = .int .i64 ((-m)) := hu; have hv' : v = .int .i64 ((-(x + 1))) := hv; subst hu'; subst hv'; exact of_num HJ.out.2.2.2.2.2.2.2.1 HJ.out.2.2.2.2.2.2.2.2 HNZ.out.2.2)) ?_
        refine AllStep.cons (step_loadT (fun _ _ h => h) (fun W hb => run_load4 rfl rfl rfl (N1.out W hb).at0 (N1.out W hb).at1 (N1.out W hb).at2 (N1.out W hb).at3) (fun w hb => HX.out w hb)) ?_
        refine AllStep.cons (step_call2 (Plain.of Tryz.func65 rfl rfl) (fun _ _ _ _ hu hv => (same_ok hu hv true (decide_eq_true (small_neg))).mono (fun _ _ h => ansV h))) ?_
        refine AllStep.cons (step_pickT (fun _ _ h => h) (fun _ _ h => h)) ?_
        refine AllStep.cons (step_move (fun _ _ h => h)) ?_
        refine AllStep.cons (step_move (fun _ _ h => h)) ?_
        refine AllStep.cons (step_move (fun _ _ h => h)) ?_
        refine AllStep.cons (step_negL (fun _ _ h => h) (IntWalk.i64_in _ HJ.out.2.2.2.2.2.2.2.2) (fun _ => rfl)) ?_
        refine AllStep.cons (step_call2 (Plain.of Tryz.func66 rfl rfl) (fun u v w _ hu hv => by have hu' : u = .int .i64 (m) := hu; have hv' : v = .int .i64 ((-(x + 1))) := hv; subst hu'; subst hv'; exact of_num HI.out.1 HJ.out.2.2.2.2.2.2.2.2 HNZ.out.2.2)) ?_
        refine AllStep.cons (step_call1 (Plain.of Tryz.func44 rfl rfl) (fun _ _ _ hu => (SignF_at (FrOk.at hu) (by decide) (by decide) _ sign_cmp).mono (fun _ _ h => ansV h))) ?_
        refine AllStep.cons (step_loadT (fun _ _ h => h) (fun W hb => run_load4 rfl rfl rfl (N1.out W hb).at0 (N1.out W hb).at1 (N1.out W hb).at2 (N1.out W hb).at3) (fun w hb => HX.out w hb)) ?_
        refine AllStep.cons (step_call1 (Plain.of Tryz.func44 rfl rfl) (fun _ _ _ hu => (SignF_at (FrOk.at hu) (by decide) (by decide) _ sign_cmp).mono (fun _ _ h => ansV h))) ?_
        refine AllStep.cons (step_neg (fun _ _ h => h) (ord_wrap _ _) (fun _ => rfl)) ?_
        refine AllStep.cons (step_eqII (fun _ _ h => h) (fun _ _ h => h) (small_ieq small_sign) (fun _ => rfl)) ?_
        refine AllStep.cons (step_pickT (fun _ _ h => h) (fun _ _ h => h)) ?_
        refine AllStep.cons (step_assign (fun _ _ h => h)) ?_
        exact AllStep.nil
      · intro a9 w9 hb9 hs9 hd9 hk9
        refine hK9 _ _ ?_
        refine wp_ret ?_
        exact ret_slot (t := 6) rfl (hd9.trans hd8) (hk9 6) ⟨rfl, Below.step RW.out hb9⟩

end Go.Proofs.YtgpoljbccimkjaaGreatDoor

namespace Go.Proofs.YtgpoljbccimkjaaGreatDoor
set_option linter.unusedSimpArgs false
set_option linter.unusedVariables false
open Go.ChangeShapes Go.WideShapes Go.ChangeAt Go.RowKit
open Go.ChangeMaps (open_string)

set_option maxRecDepth 100000 in
theorem fracsSmall_contract (H : Type) (enc : TypeId × Value → H) (W : World) (base : Nat) (args : Array Value) (ds gs : List (DataW H)) (before : List MemPlace)
    (hval : ∀ (j : Nat) t v, Tryz.f13.params[j]? = some t → args[j]? = some v → Value.okWide Tryz.prog W .any base t v)
    (hW : DataW.Whole enc Tryz.prog Tryz.f13.params.toList Rows.fracsSmallSpec.vars false W args.toList ds gs before) (hL : laidMetH Tryz.prog Rows.fracsSmallRow.laid W) :
    Calls Tryz.prog 13 args W fun e W' => ∃ v, e = .returned v ∧ Rows.fracsSmallSpec.post enc Tryz.prog Tryz.f13 false true false false W args v W' := by
  have hW' := hW
  obtain ⟨p, q, hA0, hV, rfl, hfz, hnd⟩ := hW
  have hA : DataW.TrodAll enc Tryz.prog W 0 (fun _ => true) true Tryz.f13.params.toList args.toList ds p := hA0
  rw [Tryz.params13] at hA hval
  obtain ⟨v0, vs0, d0, ds0, p0, q0, hargs0, rfl, rfl, h0, r0⟩ := trodAll_cons hA
  obtain ⟨v1, vs1, d1, ds1, p1, q1, hargs1, rfl, rfl, h1, r1⟩ := trodAll_cons r0
  subst hargs1
  obtain ⟨v2, vs2, d2, ds2, p2, q2, hargs2, rfl, rfl, h2, r2⟩ := trodAll_cons r1
  subst hargs2
  obtain ⟨rfl, rfl, rfl⟩ := trodAll_nil r2
  obtain rfl : args = #[v0, v1, v2] := by cases args; simp_all
  obtain ⟨rfl, rfl⟩ := trodVars_none hV
  obtain ⟨t0, rfl, hb0⟩ := open_i16 (hval 0 _ v0 rfl rfl) h0
  obtain ⟨t1, rfl, hb1⟩ := open_i16 (hval 1 _ v1 rfl rfl) h1
  obtain ⟨t2, u2, rfl, hb2⟩ := open_arr (hval 2 _ v2 rfl rfl) h2
  refine (FracsSmall_true W t0 hb0 t1 hb1 t2 u2 hb2 (tab_of hL)).mono fun e W' ⟨he, hg⟩ => ?_
  subst he
  refine ⟨_, rfl, law_post rfl (by kernel_rfl) (by kernel_rfl) hW' rfl rfl rfl hg⟩

theorem fracsSmall_met (os : Os) : laidMet Tryz.prog Rows.fracsSmallRow.laid ((laidWorld os).forCall (fun _ _ => 0) ⟨#[], #[.int .i16 0, .int .i16 0, .agg #[.int .u16 0, .int .u16 0]], []⟩).memory :=
  laidMet_of_run' 8 (by kernel_rfl) (by kernel_rfl)
theorem fracsSmall_reads (os : Os) {H : Type} (enc : TypeId × Value → H) : ∃ places, DataW.whole enc Tryz.prog ((laidWorld os).forCall (fun _ _ => 0) ⟨#[], #[.int .i16 0, .int .i16 0, .agg #[.int .u16 0, .int .u16 0]], []⟩).memory Tryz.f13.params.toList Rows.fracsSmallSpec.vars false (#[.int .i16 0, .int .i16 0, .agg #[.int .u16 0, .int .u16 0]] : Array Value).toList 8 = some ([.lit (.int .i16 0), .lit (.int .i16 0), .agg [.lit (.int .u16 0), .lit (.int .u16 0)]], [], places) :=
  ⟨[], by kernel_rfl⟩

set_option maxRecDepth 100000 in
theorem fracsSmall_lifted (os : Os) (started : os.Started) (H : Type) (enc : TypeId × Value → H) (F : Stop.Interp) :
    ReturnsInHanded {} Tryz.checked os 13 .any ((OpenSpec.ofChange Rows.fracsSmallSpec).preRow enc Tryz.prog Tryz.f13 Rows.fracsSmallRow.domain false Rows.fracsSmallRow.laid) (((OpenSpec.ofChange Rows.fracsSmallSpec).at F).post enc Tryz.prog Tryz.f13 false true false false) := by
  obtain ⟨places, hx⟩ := fracsSmall_reads os enc
  refine returnsInHanded_of_row (C := Tryz.checked) (s := OpenSpec.ofChange Rows.fracsSmallSpec) own_knob started (by kernel_rfl) Tryz.func13
    (witness_row_at (enc := enc) (C := Tryz.checked) false (laidWorld os) #[.int .i16 0, .int .i16 0, .agg #[.int .u16 0, .int .u16 0]] rfl (by kernel_rfl) (by kernel_rfl) (by kernel_rfl)
      (OpenSpec.preRow_of_cond 8 hx (by kernel_rfl) (fun k hk => by cases hk) (by kernel_rfl) (fracsSmall_met os))) ?_
  intro W base args ds gs before hval hW _ _ _ hL _ _
  exact fracsSmall_contract H enc W base args ds gs before hval hW hL

theorem fracsSmall_said : Rows.FracsSmallSaid :=
  OpenClaim.holds_of_cond 13 Tryz.f13 rfl rfl rfl rfl rfl rfl rfl ⟨rfl, rfl, rfl, rfl, rfl⟩ rfl rfl rfl rfl rfl (by kernel_rfl) Tryz.func13 (by kernel_rfl)
    (of_decide_eq_true (by kernel_rfl)) (by unfold Func.isWrapper; first | (rw [if_pos (by decide +kernel)]; kernel_rfl) | (rw [if_neg (by decide +kernel)]; exact ⟨rfl, rfl⟩))
    (fun os started H enc _ F => by rw [OpenClaim.pre_eq_preRow]; exact fracsSmall_lifted os started H enc F)

theorem fracsSmall_plain (f : FuncId) (fn : Func) (hf : Tryz.pinned.checked.prog.funcNamed Rows.fracsSmallRow.func = some f) (hfn : Tryz.pinned.checked.prog.funcs[f]? = some fn) :
    false = Tryz.pinned.checked.prog.looks [] ∧ ∀ (j : Nat) t, fn.params[j]? = some t → Tryz.pinned.checked.prog.wantsStandIn t = false := by
  obtain rfl : f = 13 := Option.some.inj ((show Tryz.prog.funcNamed Rows.fracsSmallRow.func = some 13 by kernel_rfl).symm.trans hf) |>.symm
  obtain rfl : fn = Tryz.f13 := (Option.some.inj (Tryz.func13.symm.trans hfn)).symm
  refine ⟨by kernel_rfl, fun j t ht => ?_⟩
  rw [Tryz.params13] at ht
  have hall : ∀ u ∈ [79, 79, 81], Tryz.prog.wantsStandIn u = false := by decide +kernel
  exact hall t (by simpa using Array.mem_of_getElem? ht)

theorem fracsSmall_card : Rows.FracsSmallCardSaid :=
  Claim7.holds_tied_plain_at .later [] _ _ _ _ fracsSmall_said (fun _ h => by cases h) (by kernel_rfl) (fun _ h => by cases h) fracsSmall_row_tie rfl ⟨rfl, rfl⟩ (by kernel_rfl) rfl fracsSmall_plain (by kernel_rfl)
end Go.Proofs.YtgpoljbccimkjaaGreatDoor
