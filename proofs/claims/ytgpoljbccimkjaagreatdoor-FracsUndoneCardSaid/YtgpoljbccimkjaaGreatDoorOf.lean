/- Walks: the parts of a number of 64 bits. -/
import Derived.Test.YtgpoljbccimkjaaGreatDoorSame
namespace Go.Proofs.YtgpoljbccimkjaaGreatDoor
set_option linter.unusedSimpArgs false
set_option linter.unusedVariables false
open Go.RowKit Go.Shelf

theorem OwnL.row {n : Nat} {w : World} {v : Value} {l : List Nat} (h : OwnL n w v l) : w.ownsRow n 99 1 v l.length (u32s l) := h.1
theorem u32s_snoc (l : List Nat) (x : Nat) : u32s (l ++ [x]) = u32s l ++ [.int .u32 x] := by simp [u32s]

set_option maxRecDepth 100000 in
set_option maxHeartbeats 2000000 in
theorem partsOf_any (n : Nat) (w : World) (hn : n < 18446744073709551616) :
    Calls Tryz.prog 128 #[.int .u64 n] w fun e w' => (∃ v L, e = .returned v ∧ OwnL w.heap.size w' v L ∧ L.length ≤ 3 ∧ (∀ x ∈ L, x < 1000000000) ∧ val L = n) ∧ Below w.heap.size w w' := by
  obtain ⟨i0, hi, hz0, hz1, hz2⟩ := info_parts infoU32
  have HN := Lib.hid hn
  have hnI : (n : Int) ≤ 18446744073709551615 := by omega
  clear hn
  go_enter Tryz.func128, Tryz.ntmps128
  go_wp2_with fail
  go_loopw [0, 3] (fun s v wr => ∃ (m : Nat) (L : List Nat), s = .int .u64 m ∧ OwnL w.heap.size wr v L ∧ L.length ≤ 3 ∧ (∀ x ∈ L, x < 1000000000) ∧ val L + 1000000000 ^ L.length * m = n ∧ Below w.heap.size w wr) (fun s _ _ => (intOf s).toNat)
  case atStart => exact ⟨n, [], rfl, OwnL.nil _ _, by simp, by simp, by simp [val], Below.refl _ _⟩
  case round =>
    obtain ⟨m, L, rfl, hown, hL, hs, hv, hB⟩ := hrel
    have HV := Lib.hid hv
    have HS := Lib.hid hs
    have HB := Lib.hid hB
    have HO := Lib.hid hown
    have hmn : m ≤ n := by
      have h1 : 1 * m ≤ 1000000000 ^ L.length * m := Nat.mul_le_mul_right _ (Nat.pow_pos (by decide))
      omega
    have HMN := Lib.hid hmn
    have hmI : (m : Int) ≤ 18446744073709551615 := by omega
    clear hv hs hB hown hmn
    by_cases hm : 0 < m
    · have hL2 : L.length < 3 := by
        rcases Nat.lt_or_ge L.length 3 with h | h
        · exact h
        · have h1 : 1000000000 ^ 3 ≤ 1000000000 ^ L.length := Nat.pow_le_pow_right (by decide) h
          have h2 : 1000000000 ^ L.length * 1 ≤ 1000000000 ^ L.length * m := Nat.mul_le_mul_left _ hm
          have := HV.out
          have := HN.out
          omega
      have hmI2 : (0 : Int) < (m : Int) := by omega
      have hrow := HO.out.row
      go_wp2_with (at_builtin; refine wpList_append_own _ rfl _ _ 22 rfl w.heap.size 99 i0 (.int .u32 0) 1 4 underU32s hi hz0 hz1 hz2 rfl (by decide) _ _ _ rfl (hrow.alloc _) ⟨wr.heap.size, 0, none⟩ 1 1 [.int .u32 ((m : Int) % 1000000000)] rfl rfl (cell_one_new _ _ _) (by simp [Value.oneCell']) (by unfold maxLen; omega) (by omega) (by have := HB.out.size; simp; omega) ?_; intro v' w1 hown' hgrow _)
      have e1 : ((m : Int) % 1000000000) = ((m % 1000000000 : Nat) : Int) := by omega
      have e2 : ((m : Int) / 1000000000) = ((m / 1000000000 : Nat) : Int) := by omega
      rw [e1, ← u32s_snoc] at hown'
      have hl : L.length + 1 = (L ++ [m % 1000000000]).length := by simp
      rw [hl] at hown'
      have hOn : OwnL w.heap.size w1 v' (L ++ [m % 1000000000]) := ⟨hown', fun x hx => by
        rcases List.mem_append.1 hx with hx | hx
        · exact HO.out.2 x hx
        · simp at hx; omega⟩
      have hBn : Below w.heap.size w w1 := (HB.out.alloc HB.out.size _).grown hgrow (by have := HB.out.size; simp; omega) (fun k e => (hrow.lt k e).1)
      refine ⟨⟨m / 1000000000, L ++ [m % 1000000000], by rw [e2], hOn, by simp; omega, fun x hx => ?_, ?_, hBn⟩, by rw [e2]; simp only [intOf]; omega⟩
      · rcases List.mem_append.1 hx with hx | hx
        · exact HS.out x hx
        · simp at hx; omega
      · rw [val_snoc, List.length_append, List.length_singleton, Nat.pow_succ, ← HV.out]
        have h3 := Nat.div_add_mod m 1000000000
        conv => rhs; rw [← h3]
        rw [Nat.mul_add, Nat.mul_assoc, Nat.mul_comm 1000000000]
        omega
    · obtain rfl : m = 0 := by omega
      go_wp2
      go_ret
      exact ⟨⟨_, L, rfl, HO.out, hL, HS.out, by have := HV.out; omega⟩, HB.out⟩

theorem wrap_neg (n : Int) (h1 : -9223372036854775808 ≤ n) (h2 : n < 0) : IntKind.u64.wrap (-IntKind.u64.wrap n) = (n.natAbs : Nat) := by
  rw [IntKind.wrap_u64, IntKind.wrap_u64]
  omega

set_option maxRecDepth 100000 in
set_option maxHeartbeats 2000000 in
theorem Of_any (n : Int) (w : World) (h1 : -9223372036854775808 ≤ n) (h2 : n ≤ 9223372036854775807) :
    Calls Tryz.prog 29 #[.int .i64 n] w fun e w' => NumIs w.heap.size w' e n ∧ Below w.heap.size w w' := by
  obtain ⟨W0, e0, n1, hb0, hz0⟩ := box1 w (.bool false) (.slice none 0 0)
  have N1 := Lib.hid n1
  have E0 := Lib.hid e0
  clear n1 e0
  by_cases hn : 0 ≤ n
  · obtain ⟨m, rfl⟩ := Int.eq_ofNat_of_zero_le hn
    have hd : decide ((m : Int) < 0) = false := decide_eq_false (by omega)
    go_enter Tryz.func29, Tryz.ntmps29
    go_wp2_with fail
    rw [E0.out]
    refine (partsOf_any m _ (by omega)).mono ?_
    rintro e w1 ⟨⟨v1, L1, rfl, hv1, -, hs1, hz1⟩, hb1⟩
    have HV1 := Lib.hid hv1
    have HS1 := Lib.hid hs1
    have HZ1 := Lib.hid hz1
    have hv1l := hv1.lim
    clear hv1 hs1 hz1
    obtain ⟨a9, k9, rfl, -⟩ := hv1l
    go_wp2_with fail
    refine (number_is false _ L1 _ _ HV1.out HS1.out).mono ?_
    rintro e w3 ⟨⟨s3, l3, v3, rfl, hv3, ho3, hz3⟩, hb3⟩
    have HV3 := Lib.hid hv3
    have HO3 := Lib.hid ho3
    have HZ3 := Lib.hid hz3
    have hv3l := hv3.lim
    clear hv3 ho3 hz3
    obtain ⟨a3, k3, rfl, -⟩ := hv3l
    obtain ⟨r1, r2, r3, r4⟩ := (N1.out.below hb1).below hb3
    go_wp2
    refine bodyPost_ret (v := .agg #[.bool s3, .slice a3 l3.length k3]) (by simp [results, Tryz.results29, go_sem, r1, r2]) rfl ⟨⟨s3, l3, _, rfl, ((HV3.out.setBox hz0 _ _).setBox hz0 _ _).mono (by omega), HO3.out, ?_⟩, (by repeat (first | exact Below.refl _ _ | with_reducible refine Below.drew ?_ | with_reducible refine below_drewN ?_ _ | with_reducible refine Below.setCell ?_ (by first | (simp; done) | (simp; omega) | omega) _ | with_reducible refine Below.alloc ?_ (by first | (simp; done) | (simp; omega) | omega) _ | (with_reducible refine Below.step ?_ hb3) | (with_reducible refine Below.step ?_ hb1) | (with_reducible refine Below.step ?_ hb0)))⟩
    rw [HZ3.out, HZ1.out]
    simp
  · have hw := wrap_neg n h1 (by omega)
    have HW := Lib.hid hw
    have HNEG : Hid (n < 0) := Int.not_le.1 hn
    have hb : n.natAbs < 18446744073709551616 := by omega
    have HBD := Lib.hid hb
    clear hw hb
    go_enter Tryz.func29, Tryz.ntmps29
    go_wp2_with fail
    rw [E0.out, HW.out]
    refine (partsOf_any n.natAbs _ HBD.out).mono ?_
    rintro e w1 ⟨⟨v1, L1, rfl, hv1, -, hs1, hz1⟩, hb1⟩
    have HV1 := Lib.hid hv1
    have HS1 := Lib.hid hs1
    have HZ1 := Lib.hid hz1
    have hv1l := hv1.lim
    clear hv1 hs1 hz1
    obtain ⟨a9, k9, rfl, -⟩ := hv1l
    go_wp2_with fail
    refine (number_is true _ L1 _ _ HV1.out HS1.out).mono ?_
    rintro e w3 ⟨⟨s3, l3, v3, rfl, hv3, ho3, hz3⟩, hb3⟩
    have HV3 := Lib.hid hv3
    have HO3 := Lib.hid ho3
    have HZ3 := Lib.hid hz3
    have hv3l := hv3.lim
    clear hv3 ho3 hz3
    obtain ⟨a3, k3, rfl, -⟩ := hv3l
    obtain ⟨r1, r2, r3, r4⟩ := (N1.out.below hb1).below hb3
    go_wp2
    refine bodyPost_ret (v := .agg #[.bool s3, .slice a3 l3.length k3]) (by simp [results, Tryz.results29, go_sem, r1, r2]) rfl ⟨⟨s3, l3, _, rfl, ((HV3.out.setBox hz0 _ _).setBox hz0 _ _).mono (by omega), HO3.out, ?_⟩, (by repeat (first | exact Below.refl _ _ | with_reducible refine Below.drew ?_ | with_reducible refine below_drewN ?_ _ | with_reducible refine Below.setCell ?_ (by first | (simp; done) | (simp; omega) | omega) _ | with_reducible refine Below.alloc ?_ (by first | (simp; done) | (simp; omega) | omega) _ | (with_reducible refine Below.step ?_ hb3) | (with_reducible refine Below.step ?_ hb1) | (with_reducible refine Below.step ?_ hb0)))⟩
    rw [HZ3.out, HZ1.out]
    simp
    have := HNEG.out
    omega

end Go.Proofs.YtgpoljbccimkjaaGreatDoor
