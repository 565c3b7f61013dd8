/- Walks: bits.Div64. -/
import Derived.Test.YtgpoljbccimkjaaGreatDoorNearMath
import Derived.Test.YtgpoljbccimkjaaGreatDoorShelf
import Derived.Test.YtgpoljbccimkjaaGreatDoorBack
import Derived.Laws.Bits64b
import Derived.Deep.CutBlock
namespace Go.Proofs.YtgpoljbccimkjaaGreatDoor
set_option linter.unusedSimpArgs false
set_option linter.unusedVariables false
open Go.RowKit Go.Shelf

theorem mask_nat (a : Nat) (ha : a < 18446744073709551616) : bits .and .u64 (a : Int) 4294967295 = ((a % 4294967296 : Nat) : Int) := by
  have h := bits_and_u64_nat a 4294967295 ha (by omega)
  have e : a &&& 4294967295 = a % 4294967296 := Nat.and_two_pow_sub_one_eq_mod a 32
  rw [e] at h
  exact h

/-- How far a divisor is shifted. -/
theorem Lead_at (y : Nat) (w : World) (hy : 0 < y) (hy2 : y < 9223372036854775808) :
    ∃ s : Nat, (1 ≤ s ∧ s ≤ 63 ∧ 9223372036854775808 ≤ y * 2 ^ s ∧ y * 2 ^ s < 18446744073709551616) ∧ Calls Tryz.prog 215 #[.int .u64 y] w fun e w' => e = .returned (.int .i64 (s : Nat)) ∧ w = w' := by
  obtain ⟨h1, h2, h3⟩ := Lib.bitLenAux_bounds 64 y (by omega) (by omega)
  have hl : Lib.bitLenAux 64 y ≤ 63 := by
    rcases Nat.lt_or_ge 63 (Lib.bitLenAux 64 y) with h | h
    · have : 2 ^ 63 ≤ 2 ^ (Lib.bitLenAux 64 y - 1) := Nat.pow_le_pow_right (by decide) (by omega)
      omega
    · exact h
  have hb : Lib.bitLen y = Lib.bitLenAux 64 y := rfl
  refine ⟨64 - Lib.bitLen y, ⟨by omega, by omega, ?_, ?_⟩, ?_⟩
  · have e : (9223372036854775808 : Nat) = 2 ^ (Lib.bitLenAux 64 y - 1) * 2 ^ (64 - Lib.bitLen y) := by rw [← Nat.pow_add, hb, show Lib.bitLenAux 64 y - 1 + (64 - Lib.bitLenAux 64 y) = 63 by omega]
    rw [e]
    exact Nat.mul_le_mul_right _ h2
  · have e : (18446744073709551616 : Nat) = 2 ^ Lib.bitLenAux 64 y * 2 ^ (64 - Lib.bitLen y) := by rw [← Nat.pow_add, hb, show Lib.bitLenAux 64 y + (64 - Lib.bitLenAux 64 y) = 64 by omega]
    rw [e]
    exact Nat.mul_lt_mul_of_pos_right h3 (Nat.pow_pos (by decide))
  · refine (Tryz.bits_LeadingZeros64 y w (by omega) (by omega)).mono ?_
    rintro e w' ⟨rfl, rfl⟩
    refine ⟨?_, rfl⟩
    rw [Int.toNat_natCast]
    have : (64 - (Lib.bitLen y : Int)) = ((64 - Lib.bitLen y : Nat) : Int) := by omega
    rw [this]

theorem half_nat (a : Nat) : (a : Int) / 4294967296 = ((a / 4294967296 : Nat) : Int) := by omega
theorem wrap_nat {a : Nat} (ha : a < 18446744073709551616) : IntKind.u64.wrap (a : Int) = (a : Int) := by rw [IntKind.wrap_u64]; omega
theorem wrap_mod (a : Nat) : IntKind.u64.wrap (a : Int) = ((a % 18446744073709551616 : Nat) : Int) := by rw [IntKind.wrap_u64]; omega

/-- The shifted numbers, as the walk has them. -/
theorem wide_nums {hi lo y s : Nat} (hl : lo < 18446744073709551616) (hh : hi < y) (h2 : s ≤ 63) (h3 : y * 2 ^ s < 18446744073709551616) :
    IntKind.u64.wrap ((y : Int) * 2 ^ s) = ((y * 2 ^ s : Nat) : Int) ∧
    bits .or .u64 (IntKind.u64.wrap ((hi : Int) * 2 ^ s)) ((lo : Int) / 2 ^ (64 - s)) = ((hi * 2 ^ s + lo / 2 ^ (64 - s) : Nat) : Int) ∧
    IntKind.u64.wrap ((lo : Int) * 2 ^ s) = ((lo * 2 ^ s % 18446744073709551616 : Nat) : Int) ∧ hi * 2 ^ s + lo / 2 ^ (64 - s) < y * 2 ^ s := by
  have c1 : ∀ a : Nat, (a : Int) * 2 ^ s = ((a * 2 ^ s : Nat) : Int) := fun a => by rw [Int.natCast_mul, Int.natCast_pow]; rfl
  have c2 : (lo : Int) / 2 ^ (64 - s) = ((lo / 2 ^ (64 - s) : Nat) : Int) := by rw [Int.natCast_ediv, Int.natCast_pow]; rfl
  have hhs : hi * 2 ^ s + 2 ^ s ≤ y * 2 ^ s := by
    have : (hi + 1) * 2 ^ s ≤ y * 2 ^ s := Nat.mul_le_mul_right _ hh
    rwa [Nat.add_mul, Nat.one_mul] at this
  have hp : 0 < 2 ^ s := Nat.pow_pos (by decide)
  have hq : lo / 2 ^ (64 - s) < 2 ^ s := by
    rw [Nat.div_lt_iff_lt_mul (Nat.pow_pos (by decide)), ← Nat.pow_add, show s + (64 - s) = 64 by omega]
    exact hl
  have hq2 : lo / 2 ^ (64 - s) < 18446744073709551616 := Nat.lt_of_le_of_lt (Nat.div_le_self _ _) hl
  rw [c1, c1, c1, c2]
  refine ⟨wrap_nat h3, ?_, wrap_mod _, by omega⟩
  rw [wrap_nat (show hi * 2 ^ s < 18446744073709551616 by omega), bits_or_u64_nat _ _ (by omega) hq2, Nat.mul_comm hi, ← Nat.two_pow_add_eq_or_of_lt hq]

set_option maxRecDepth 100000 in
set_option maxHeartbeats 2000000 in
theorem Div64_any (hi lo y : Nat) (w : World) (hl : lo < 18446744073709551616) (hy : 0 < y) (hy2 : y < 9223372036854775808) (hh : hi < y) :
    Calls Tryz.prog 206 #[.int .u64 hi, .int .u64 lo, .int .u64 y] w fun e w' => ∃ v, e = .returned (.tuple #[.int .u64 ((hi * 18446744073709551616 + lo) / y : Nat), v]) ∧ Below w.heap.size w w' := by
  have k1 : (((y : Nat) : Int) == 0) = false := by rw [beq_eq_false_iff_ne]; omega
  have k2 : decide ((y : Int) ≤ (hi : Int)) = false := decide_eq_false (by omega)
  by_cases h0 : hi = 0
  · subst h0
    have hyI : (y : Int) ≠ 0 := by omega
    have HY := Lib.hid hy
    clear hy
    go_enter Tryz.func206, Tryz.ntmps206
    go_wp2_with fail
    go_region_held3 (fun _ => True) (exact trivial) (fail)
    all_goals go_wp2_with fail
    refine bodyPost_ret (v := .tuple #[.int .u64 (IntKind.u64.wrap ((lo : Int) / (y : Int))), .int .u64 ((lo : Int).tmod (y : Int))]) (by simp [results, Tryz.results206, go_sem]) rfl ⟨.int .u64 ((lo : Int).tmod (y : Int)), ?_, (Below.refl _ _).drew⟩
    have hd : lo / y < 18446744073709551616 := Nat.lt_of_le_of_lt (Nat.div_le_self _ _) hl
    rw [← Int.natCast_ediv, Nat.zero_mul, Nat.zero_add, wrap_nat hd]
  · have k3 : (((hi : Nat) : Int) == 0) = false := by rw [beq_eq_false_iff_ne]; omega
    obtain ⟨s, ⟨s1, s2, s3, s4⟩, hcl⟩ := Lead_at y w hy hy2
    obtain ⟨n1, n2, n3, n4⟩ := wide_nums hl hh s2 s4
    have HN := Lib.hid (And.intro n1 (And.intro n2 (And.intro n3 n4)))
    have HS := Lib.hid (And.intro s1 (And.intro s2 (And.intro s3 s4)))
    clear n1 n2 n3 n4
    go_enter Tryz.func206, Tryz.ntmps206
    go_wp2_with fail
    refine hcl.mono ?_
    rintro e w' ⟨rfl, rfl⟩
    have HQ := Lib.hid (wide_quot (u := hi * 2 ^ s + lo / 2 ^ (64 - s)) (c := lo * 2 ^ s % 18446744073709551616) hy (show s ≤ 64 by omega) rfl rfl rfl rfl rfl)
    go_upto_region 15 with fail
    rw [HN.out.1, HN.out.2.1, HN.out.2.2.1, mask_nat _ s4, mask_nat _ (Nat.mod_lt _ (by decide)), half_nat, half_nat]
    have hY1 : y * 2 ^ s = y * 2 ^ s / 4294967296 * 4294967296 + y * 2 ^ s % 4294967296 := by omega
    have hub := HN.out.2.2.2
    have hc1 : lo * 2 ^ s % 18446744073709551616 < 18446744073709551616 := Nat.mod_lt _ (by decide)
    clear hcl HN HS k1 k2 k3 h0 hy2 hl hh s1 s2
    generalize y * 2 ^ s = Y at *
    generalize hi * 2 ^ s + lo / 2 ^ (64 - s) = u at *
    generalize lo * 2 ^ s % 18446744073709551616 = c at *
    have ha1 : 2147483648 ≤ Y / 4294967296 := by omega
    have ha2 : Y / 4294967296 < 4294967296 := by omega
    have hb1 : Y % 4294967296 < 4294967296 := by omega
    have hd1 : c / 4294967296 < 4294967296 := by omega
    have hd0 : c % 4294967296 < 4294967296 := by omega
    generalize Y / 4294967296 = a at *
    generalize Y % 4294967296 = b at *
    generalize c / 4294967296 = d1 at *
    generalize c % 4294967296 = d0 at *
    have hYp : 0 < Y := by omega
    obtain ⟨g1, g2, g3⟩ := digit_start hY1 ha1 hub hb1 hd1
    have HY1 := Lib.hid hY1
    have HUB := Lib.hid hub
    have hw1 : IntKind.u64.wrap ((u : Int) / (a : Int)) = ((u / a : Nat) : Int) := by rw [← Int.natCast_ediv]; exact wrap_nat (by omega)
    have hr0 : u % a < a := Nat.mod_lt _ (by omega)
    generalize u / a = q0 at *
    generalize u % a = r0 at *
    have hw2 : IntKind.u64.wrap ((q0 : Int) * (a : Int)) = ((q0 * a : Nat) : Int) := by rw [← Int.natCast_mul]; exact wrap_nat (by omega)
    have hw3 : IntKind.u64.wrap ((u : Int) - ((q0 * a : Nat) : Int)) = (r0 : Int) := by rw [IntKind.wrap_u64]; omega
    have G1 := Lib.hid g1
    have G2 := Lib.hid g2
    have HW := Lib.hid (And.intro hw1 (And.intro hw2 hw3))
    have haI : (2147483648 : Int) ≤ (a : Int) := by omega
    have HYL := Lib.hid s4
    clear hY1 hub g1 g2 hw1 hw2 hw3 hc1 s3 s4
    go_upto_region 16 with fail
    rw [HW.out.1]
    have d1lt : d1 < 4294967296 := hd1
    go_upto_block 0 with fail
    rw [HW.out.2.1, HW.out.2.2]
    go_cut [15, 16] from 67 to 85 (fun q r wx => wx = w ∧ q = .int .u64 ((u * 4294967296 + d1) / Y : Nat) ∧ ∃ r' : Int, r = .int .u64 r')
    case first =>
      go_wp2_with fail
      go_loop [15, 16] (fun x z => ∃ q r : Nat, x = .int .u64 q ∧ z = .int .u64 r ∧ q * a + r = u ∧ (u * 4294967296 + d1) / Y ≤ q ∧ q ≤ 4294967297 ∧ r < 4294967296) (fun x _ => (intOf x).toNat)
      case atStart => exact ⟨_, _, rfl, rfl, G1.out, G2.out, g3, by omega⟩
      case round =>
        obtain ⟨q, r, rfl, rfl, h1, h2, h3, h4⟩ := hrel
        have H1 := Lib.hid h1
        have H2 := Lib.hid h2
        have h3I : (q : Int) ≤ 4294967297 := by omega
        have h4I : (r : Int) ≤ 4294967295 := by omega
        have hda : ((u * 4294967296 + d1) / Y : Nat) = (u * 4294967296 + d1) / Y := rfl
        clear h1 h2 hda
        by_cases hbig : 4294967296 ≤ q
        · obtain ⟨t1, t2⟩ := digit_down HY1.out H1.out H2.out HUB.out d1lt (.inl hbig)
          have T1 := Lib.hid t1
          have t2I : (1 : Int) ≤ (q : Int) := by omega
          have hbI : (4294967296 : Int) ≤ (q : Int) := by omega
          clear t1 t2
          by_cases hbr : 4294967296 ≤ r + a
          · have hbrI : (4294967296 : Int) ≤ (r : Int) + (a : Int) := by omega
            have T3 := Lib.hid (digit_break (q := q - 1) (r := r + a) HY1.out (digit_back H1.out (by omega)) T1.out hYp hb1 (by omega) hbr)
            clear hbr
            go_wp2_with fail
            go_meet
            exact ⟨rfl, by rw [T3.out]; go_num, _, rfl⟩
          · have hbrI : decide ((4294967296 : Int) ≤ (r : Int) + (a : Int)) = false := decide_eq_false (by omega)
            have T3 := Lib.hid (digit_back H1.out (show 1 ≤ q by omega))
            clear hbr
            go_wp2_with fail
            go_round
            case rel => exact ⟨q - 1, r + a, by go_num, by go_num, T3.out, T1.out, by omega, by have := of_decide_eq_false hbrI; omega⟩
            case measure => simp [intOf]; omega
        · have hsm : q < 4294967296 := by omega
          have hqI : (q : Int) ≤ 4294967295 := by omega
          have hqb : q * b < 18446744073709551616 := by
            have e1 : q * b ≤ 4294967295 * b := Nat.mul_le_mul_right _ (by omega)
            omega
          have hqw : IntKind.u64.wrap ((q : Int) * (b : Int)) = ((q * b : Nat) : Int) := by rw [← Int.natCast_mul]; exact wrap_nat hqb
          have HQB := Lib.hid hqb
          have H1' := H1.out
          by_cases hgr : 4294967296 * r + d1 < q * b
          · obtain ⟨t1, t2⟩ := digit_down HY1.out H1.out H2.out HUB.out d1lt (.inr hgr)
            have T1 := Lib.hid t1
            have t2I : (1 : Int) ≤ (q : Int) := by omega
            have hgI : 4294967296 * (r : Int) + (d1 : Int) < ((q * b : Nat) : Int) := by omega
            have hbI : decide ((4294967296 : Int) ≤ (q : Int)) = false := decide_eq_false (by omega)
            have H1Q := Lib.hid H1'
            clear t1 t2 hbig hgr hqb H1'
            by_cases hbr : 4294967296 ≤ r + a
            · have hbrI : (4294967296 : Int) ≤ (r : Int) + (a : Int) := by omega
              have T3 := Lib.hid (digit_break (q := q - 1) (r := r + a) HY1.out (digit_back H1.out (by omega)) T1.out hYp hb1 (by omega) hbr)
              clear hbr
              go_wp2_with fail
              go_meet
              exact ⟨rfl, by rw [T3.out]; go_num, _, rfl⟩
            · have hbrI : decide ((4294967296 : Int) ≤ (r : Int) + (a : Int)) = false := decide_eq_false (by omega)
              have T3 := Lib.hid (digit_back H1.out (show 1 ≤ q by omega))
              go_wp2_with fail
              go_round
              case rel => exact ⟨q - 1, r + a, by go_num, by go_num, T3.out, T1.out, by omega, by have := of_decide_eq_false hbrI; omega⟩
              case measure => simp [intOf]; omega
          · have T3 := Lib.hid (digit_stop HY1.out H1.out H2.out hYp (Nat.not_lt.1 hgr))
            have hgI : ((q * b : Nat) : Int) ≤ 4294967296 * (r : Int) + (d1 : Int) := by omega
            have hbI : decide ((4294967296 : Int) ≤ (q : Int)) = false := decide_eq_false (by omega)
            have H1Q := Lib.hid H1'
            clear hbig hgr hqb H1'
            go_wp2_with fail
            go_meet
            exact ⟨rfl, by rw [T3.out], _, rfl⟩
    case rest =>
      obtain ⟨rfl, rfl, r', rfl⟩ := hcut
      clear HW G1 G2 g3 hr0
      have hv : (u * 4294967296 + d1) % Y < Y := Nat.mod_lt _ hYp
      have hv2 : (u * 4294967296 + d1) / Y * Y + (u * 4294967296 + d1) % Y = u * 4294967296 + d1 := by rw [Nat.mul_comm]; exact Nat.div_add_mod _ _
      obtain ⟨t1, ht1⟩ : ∃ t, (u * 4294967296 + d1) / Y = t := ⟨_, rfl⟩
      obtain ⟨v, hve⟩ : ∃ t, (u * 4294967296 + d1) % Y = t := ⟨_, rfl⟩
      rw [ht1, hve] at hv2
      rw [hve] at hv
      rw [ht1]
      have HT1 := Lib.hid ht1
      have HVE := Lib.hid hve
      clear ht1 hve
      have HV2 := Lib.hid hv2
      have HB := Lib.hid (And.intro ha1 (And.intro ha2 (And.intro hb1 (And.intro hd0 (And.intro hv d1lt)))))
      clear hv2 ha1 ha2 hb1 hd0 hv hd1 d1lt
      obtain ⟨x1, hx1, hx1'⟩ : ∃ x1 : Nat, IntKind.u64.wrap ((u : Int) * 4294967296) = (x1 : Int) ∧ x1 = u * 4294967296 % 18446744073709551616 := ⟨_, by rw [show (u : Int) * 4294967296 = ((u * 4294967296 : Nat) : Int) by omega]; exact wrap_mod _, rfl⟩
      obtain ⟨x2, hx2, hx2'⟩ : ∃ x2 : Nat, IntKind.u64.wrap ((x1 : Int) + (d1 : Int)) = (x2 : Int) ∧ x2 = (x1 + d1) % 18446744073709551616 := ⟨_, by rw [show (x1 : Int) + (d1 : Int) = ((x1 + d1 : Nat) : Int) by omega]; exact wrap_mod _, rfl⟩
      obtain ⟨x3, hx3, hx3'⟩ : ∃ x3 : Nat, IntKind.u64.wrap ((t1 : Int) * (Y : Int)) = (x3 : Int) ∧ x3 = t1 * Y % 18446744073709551616 := ⟨_, by rw [← Int.natCast_mul]; exact wrap_mod _, rfl⟩
      have hx4 : IntKind.u64.wrap ((x2 : Int) - (x3 : Int)) = (v : Int) := by
        have := HV2.out
        have := HB.out.2.2.2.2.1
        have := HYL.out
        rw [IntKind.wrap_u64, hx2', hx1', hx3']
        generalize t1 * Y = z at *
        omega
      clear hx1' hx2' hx3'
      go_upto_region 22 with fail
      obtain ⟨ha1, ha2, hb1, hd0, hvb, d1lt⟩ := HB.out
      obtain ⟨k1', k2', k3'⟩ := digit_start HY1.out ha1 hvb hb1 hd0
      have HVB := Lib.hid hvb
      have hx1 : IntKind.u64.wrap ((v : Int) / (a : Int)) = ((v / a : Nat) : Int) := by rw [← Int.natCast_ediv]; exact wrap_nat (by omega)
      have hr0 : v % a < a := Nat.mod_lt _ (by omega)
      generalize v / a = p0 at *
      generalize v % a = r0 at *
      have hx2 : IntKind.u64.wrap ((p0 : Int) * (a : Int)) = ((p0 * a : Nat) : Int) := by rw [← Int.natCast_mul]; exact wrap_nat (by have := HYL.out; omega)
      have hx3 : IntKind.u64.wrap ((v : Int) - ((p0 * a : Nat) : Int)) = (r0 : Int) := by have := HYL.out; rw [IntKind.wrap_u64]; omega
      have K1 := Lib.hid k1'
      have K2 := Lib.hid k2'
      have HX := Lib.hid (And.intro hx1 (And.intro hx2 hx3))
      have d0lt : d0 < 4294967296 := hd0
      clear k1' k2' hx1 hx2 hx3 hvb d1lt
      go_upto_region 23 with fail
      rw [HX.out.1]
      go_upto_block 2 with fail
      rw [HX.out.2.1, HX.out.2.2]
      go_cut [16, 18] from 102 to 120 (fun r q wx => wx = wc ∧ (∃ r' : Int, r = .int .u64 r') ∧ q = .int .u64 ((v * 4294967296 + d0) / Y : Nat))
      case first =>
        go_wp2_with fail
        go_loop [16, 18] (fun z x => ∃ q r : Nat, x = .int .u64 q ∧ z = .int .u64 r ∧ q * a + r = v ∧ (v * 4294967296 + d0) / Y ≤ q ∧ q ≤ 4294967297 ∧ r < 4294967296) (fun _ x => (intOf x).toNat)
        case atStart => exact ⟨_, _, rfl, rfl, K1.out, K2.out, k3', by omega⟩
        case round =>
          obtain ⟨q, r, rfl, rfl, h1, h2, h3, h4⟩ := hrel
          have H1 := Lib.hid h1
          have H2 := Lib.hid h2
          have h3I : (q : Int) ≤ 4294967297 := by omega
          have h4I : (r : Int) ≤ 4294967295 := by omega
          have hda : ((v * 4294967296 + d0) / Y : Nat) = (v * 4294967296 + d0) / Y := rfl
          clear h1 h2 hda
          by_cases hbig : 4294967296 ≤ q
          · obtain ⟨t1, t2⟩ := digit_down HY1.out H1.out H2.out HVB.out d0lt (.inl hbig)
            have T1 := Lib.hid t1
            have t2I : (1 : Int) ≤ (q : Int) := by omega
            have hbI : (4294967296 : Int) ≤ (q : Int) := by omega
            clear t1 t2
            by_cases hbr : 4294967296 ≤ r + a
            · have hbrI : (4294967296 : Int) ≤ (r : Int) + (a : Int) := by omega
              have T3 := Lib.hid (digit_break (q := q - 1) (r := r + a) HY1.out (digit_back H1.out (by omega)) T1.out hYp hb1 (by omega) hbr)
              clear hbr
              go_wp2_with fail
              go_meet
              exact ⟨rfl, ⟨_, rfl⟩, by rw [T3.out]; go_num⟩
            · have hbrI : decide ((4294967296 : Int) ≤ (r : Int) + (a : Int)) = false := decide_eq_false (by omega)
              have T3 := Lib.hid (digit_back H1.out (show 1 ≤ q by omega))
              clear hbr
              go_wp2_with fail
              go_round
              case rel => exact ⟨q - 1, r + a, by go_num, by go_num, T3.out, T1.out, by omega, by have := of_decide_eq_false hbrI; omega⟩
              case measure => simp [intOf]; omega
          · have hsm : q < 4294967296 := by omega
            have hqI : (q : Int) ≤ 4294967295 := by omega
            have hqb : q * b < 18446744073709551616 := by
              have e1 : q * b ≤ 4294967295 * b := Nat.mul_le_mul_right _ (by omega)
              omega
            have hqw : IntKind.u64.wrap ((q : Int) * (b : Int)) = ((q * b : Nat) : Int) := by rw [← Int.natCast_mul]; exact wrap_nat hqb
            have HQB := Lib.hid hqb
            have H1' := H1.out
            by_cases hgr : 4294967296 * r + d0 < q * b
            · obtain ⟨t1, t2⟩ := digit_down HY1.out H1.out H2.out HVB.out d0lt (.inr hgr)
              have T1 := Lib.hid t1
              have t2I : (1 : Int) ≤ (q : Int) := by omega
              have hgI : 4294967296 * (r : Int) + (d0 : Int) < ((q * b : Nat) : Int) := by omega
              have hbI : decide ((4294967296 : Int) ≤ (q : Int)) = false := decide_eq_false (by omega)
              have H1Q := Lib.hid H1'
              clear t1 t2 hbig hgr hqb H1'
              by_cases hbr : 4294967296 ≤ r + a
              · have hbrI : (4294967296 : Int) ≤ (r : Int) + (a : Int) := by omega
                have T3 := Lib.hid (digit_break (q := q - 1) (r := r + a) HY1.out (digit_back H1.out (by omega)) T1.out hYp hb1 (by omega) hbr)
                clear hbr
                go_wp2_with fail
                go_meet
                exact ⟨rfl, ⟨_, rfl⟩, by rw [T3.out]; go_num⟩
              · have hbrI : decide ((4294967296 : Int) ≤ (r : Int) + (a : Int)) = false := decide_eq_false (by omega)
                have T3 := Lib.hid (digit_back H1.out (show 1 ≤ q by omega))
                go_wp2_with fail
                go_round
                case rel => exact ⟨q - 1, r + a, by go_num, by go_num, T3.out, T1.out, by omega, by have := of_decide_eq_false hbrI; omega⟩
                case measure => simp [intOf]; omega
            · have T3 := Lib.hid (digit_stop HY1.out H1.out H2.out hYp (Nat.not_lt.1 hgr))
              have hgI : ((q * b : Nat) : Int) ≤ 4294967296 * (r : Int) + (d0 : Int) := by omega
              have hbI : decide ((4294967296 : Int) ≤ (q : Int)) = false := decide_eq_false (by omega)
              have H1Q := Lib.hid H1'
              clear hbig hgr hqb H1'
              go_wp2_with fail
              go_meet
              exact ⟨rfl, ⟨_, rfl⟩, by rw [T3.out]⟩
      case rest =>
        obtain ⟨rfl, ⟨r2, rfl⟩, rfl⟩ := hcut
        have ht0 : (v * 4294967296 + d0) / Y < 4294967296 := digit_lt HVB.out d0lt
        obtain ⟨t0, ht0e⟩ : ∃ t, (v * 4294967296 + d0) / Y = t := ⟨_, rfl⟩
        have ht1 : t1 < 4294967296 := by rw [← HT1.out]; exact digit_lt HUB.out HB.out.2.2.2.2.2
        have hres : t1 * 4294967296 + t0 = (hi * 18446744073709551616 + lo) / y := by rw [← HQ.out, HT1.out, HVE.out, ht0e]
        rw [ht0e] at ht0 ⊢
        have HRES := Lib.hid hres
        obtain ⟨A, hA⟩ : ∃ A : Nat, A = t1 * 4294967296 := ⟨_, rfl⟩
        obtain ⟨R, hR⟩ : ∃ R : Nat, R = A + t0 := ⟨_, rfl⟩
        have hw1 : IntKind.u64.wrap ((t1 : Int) * 4294967296) = (A : Int) := by rw [show (t1 : Int) * 4294967296 = (A : Int) by omega]; exact wrap_nat (by omega)
        have hw2 : IntKind.u64.wrap ((A : Int) + (t0 : Int)) = (R : Int) := by rw [show (A : Int) + (t0 : Int) = (R : Int) by omega]; exact wrap_nat (by omega)
        have HAR := Lib.hid (And.intro hA hR)
        obtain ⟨x5, hx5⟩ : ∃ x : Int, IntKind.u64.wrap ((v : Int) * 4294967296) = x := ⟨_, rfl⟩
        obtain ⟨x6, hx6⟩ : ∃ x : Int, IntKind.u64.wrap (x5 + (d0 : Int)) = x := ⟨_, rfl⟩
        obtain ⟨x7, hx7⟩ : ∃ x : Int, IntKind.u64.wrap ((t0 : Int) * (Y : Int)) = x := ⟨_, rfl⟩
        obtain ⟨x8, hx8⟩ : ∃ x : Int, IntKind.u64.wrap (x6 - x7) = x := ⟨_, rfl⟩
        clear hres ht0 ht1 ht0e ha1 ha2 hb1 hd0 hr0 d0lt hA hR
        go_wp2_with fail
        have hfin : R = (hi * 18446744073709551616 + lo) / y := by rw [← HRES.out, ← HAR.out.1]; exact HAR.out.2
        exact bodyPost_ret (v := .tuple #[.int .u64 (R : Nat), .int .u64 (x8 / 2 ^ min s 64)]) (by simp [results, Tryz.results206, go_sem]) rfl ⟨_, by rw [hfin], Below.refl _ _⟩

end Go.Proofs.YtgpoljbccimkjaaGreatDoor
