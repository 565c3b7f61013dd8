/- Walk of the reference of layer 1: the number of 64 bits. -/
import Derived.Test.YtgpoljbccimkjaaGreatDoorRefH
namespace Go.Proofs.YtgpoljbccimkjaaGreatDoor
set_option linter.unusedSimpArgs false
set_option linter.unusedVariables false
open Go.RowKit Go.Shelf

set_option maxRecDepth 100000 in
set_option maxHeartbeats 2000000 in
theorem rOf_num (n : Int) (w : World) (h1 : -9223372036854775808 ≤ n) (h2 : n ≤ 9223372036854775807) :
    Calls Tryz.prog 34 #[.int .i64 n] w fun e w' => AnsAt w' e 3 n ∧ Below w.heap.size w w' := by
  obtain ⟨i0, hi, hz0, hz1, hz2⟩ := info_parts infoU32
  obtain ⟨W0, e0, n1, hb0, hzW⟩ := box1 w (.bool false) (.slice none 0 0)
  have N1 := n1.v.keep
  have B0 := Lib.hid hb0
  clear n1 hb0
  by_cases hn : 0 ≤ n
  · obtain ⟨m, rfl⟩ := Int.eq_ofNat_of_zero_le hn
    have hd : decide ((m : Int) < 0) = false := decide_eq_false (by omega)
    have HM : Hid (m < 18446744073709551616) := by show _ < _; omega
    have HZ : Hid (valS false [] = 0) := rfl
    go_enter Tryz.func34, Tryz.ntmps34
    go_wp2_with fail
    clear e0
    go_loopw [4, 5] (fun s v wr => ∃ (x : Nat) (L : List Nat), s = .int .u64 x ∧ OwnL W0.heap.size wr v L ∧ L.length ≤ 3 ∧ (∀ x ∈ L, x < 1000000000) ∧ val L + 1000000000 ^ L.length * x = m ∧ Below W0.heap.size W0 wr) (fun s _ _ => (intOf s).toNat)
    case atStart => exact ⟨m, [], rfl, OwnL.nil _ _, by simp, by simp, by simp [val], Below.refl _ _⟩
    case round =>
      obtain ⟨m', L, rfl, hown, hL, hs, hv, hB⟩ := hrel
      have HV := Lib.hid hv
      have HS := Lib.hid hs
      have HB := Lib.hid hB
      have HO := Lib.hid hown
      have hmn : m' ≤ m := by
        have h1 : 1 * m' ≤ 1000000000 ^ L.length * m' := Nat.mul_le_mul_right _ (Nat.pow_pos (by decide))
        omega
      have hmI : (m' : Int) ≤ 18446744073709551615 := by have := HM.out; omega
      clear hv hs hB hown hmn
      by_cases hm : 0 < m'
      · have hL2 : L.length < 3 := by
          rcases Nat.lt_or_ge L.length 3 with h | h
          · exact h
          · have h1 : 1000000000 ^ 3 ≤ 1000000000 ^ L.length := Nat.pow_le_pow_right (by decide) h
            have h2 : 1000000000 ^ L.length * 1 ≤ 1000000000 ^ L.length * m' := Nat.mul_le_mul_left _ hm
            have := HV.out
            have := HM.out
            omega
        have hmI2 : (0 : Int) < (m' : Int) := by omega
        have hrow := HO.out.row
        go_wp2_with (at_builtin; refine wpList_append_own _ rfl _ _ 22 rfl W0.heap.size 99 i0 (.int .u32 0) 1 4 underU32s hi hz0 hz1 hz2 rfl (by decide) _ _ _ rfl (hrow.alloc _) ⟨wr.heap.size, 0, none⟩ 1 1 [.int .u32 ((m' : Int) % 1000000000)] rfl rfl (cell_one_new _ _ _) (by simp [Value.oneCell']) (by unfold maxLen; omega) (by omega) (by have := HB.out.size; simp; omega) ?_; intro v' w1 hown' hgrow _)
        have e1 : ((m' : Int) % 1000000000) = ((m' % 1000000000 : Nat) : Int) := by omega
        have e2 : ((m' : Int) / 1000000000) = ((m' / 1000000000 : Nat) : Int) := by omega
        rw [e1, ← u32s_snoc] at hown'
        have hl : L.length + 1 = (L ++ [m' % 1000000000]).length := by simp
        rw [hl] at hown'
        have hOn : OwnL W0.heap.size w1 v' (L ++ [m' % 1000000000]) := ⟨hown', fun x hx => by
          rcases List.mem_append.1 hx with hx | hx
          · exact HO.out.2 x hx
          · simp at hx; omega⟩
        have hBn : Below W0.heap.size W0 w1 := (HB.out.alloc HB.out.size _).grown hgrow (by have := HB.out.size; simp; omega) (fun k e => (hrow.lt k e).1)
        refine ⟨⟨m' / 1000000000, L ++ [m' % 1000000000], by rw [e2], hOn, by simp; omega, fun x hx => ?_, ?_, hBn⟩, by rw [e2]; simp only [intOf]; omega⟩
        · rcases List.mem_append.1 hx with hx | hx
          · exact HS.out x hx
          · simp at hx; omega
        · rw [val_snoc, List.length_append, List.length_singleton, Nat.pow_succ, ← HV.out]
          have h3 := Nat.div_add_mod m' 1000000000
          conv => rhs; rw [← h3]
          rw [Nat.mul_add, Nat.mul_assoc, Nat.mul_comm 1000000000]
          omega
      · obtain rfl : m' = 0 := by omega
        have HVL : Hid (val L = m) := by have := HV.out; show _ = _; omega
        have hZ : valS false L = (m : Int) := by
          unfold valS; rw [HVL.out]; simp
        have HZ := Lib.hid hZ
        obtain ⟨aL, cL, rfl, -⟩ := HO.out.lim
        have N2 := (N1.out _ HB.out).keep
        clear hZ hL hmI hm
        go_wp2_with fail
        refine (rnum_at false _ L _ HO.out.lim HS.out 3 (by rw [HZ.out]; omega)).mono ?_
        rintro e w4 ⟨⟨u4, rfl, h4⟩, hb4⟩
        have H4 := Lib.hid h4
        obtain ⟨s4, a4, n4, c4, rfl, -⟩ := h4.shape
        have hN := N2.out _ hb4
        have N := Lib.hid hN
        obtain ⟨g0, g1, f0, f1⟩ := hN.c2
        have B4 := Lib.hid (Below.step (Below.step B0.out HB.out) hb4)
        clear h4 hb4 hN
        go_wp2_with fail
        obtain ⟨W', e, hst, hbx⟩ := N.out.store (ys := [.bool s4, .slice a4 n4 c4]) rfl rfl
        simp only [setAll] at e
        rw [e]
        obtain ⟨k0, k1, -, -⟩ := hbx.c2
        refine bodyPost_ret (v := .agg #[.bool s4, .slice a4 n4 c4]) (by simp [results, Tryz.results34, go_sem, k0, k1]) rfl ⟨⟨_, rfl, ?_⟩, hst.below w (by omega) B4.out⟩
        have h5 := H4.out.stored hst
        rwa [HZ.out] at h5
  · have HW := Lib.hid (wrap_neg n h1 (by omega))
    have HNEG : Hid (n < 0) := Int.not_le.1 hn
    have HM : Hid (n.natAbs < 18446744073709551616) := by show _ < _; omega
    go_enter Tryz.func34, Tryz.ntmps34
    go_wp2_with fail
    clear e0
    go_loopw [4, 5] (fun s v wr => ∃ (x : Nat) (L : List Nat), s = .int .u64 x ∧ OwnL W0.heap.size wr v L ∧ L.length ≤ 3 ∧ (∀ x ∈ L, x < 1000000000) ∧ val L + 1000000000 ^ L.length * x = n.natAbs ∧ Below W0.heap.size W0 wr) (fun s _ _ => (intOf s).toNat)
    case atStart => exact ⟨n.natAbs, [], by rw [HW.out], OwnL.nil _ _, by simp, by simp, by simp [val], Below.refl _ _⟩
    case round =>
      obtain ⟨m', L, rfl, hown, hL, hs, hv, hB⟩ := hrel
      have HV := Lib.hid hv
      have HS := Lib.hid hs
      have HB := Lib.hid hB
      have HO := Lib.hid hown
      have hmn : m' ≤ n.natAbs := by
        have h1 : 1 * m' ≤ 1000000000 ^ L.length * m' := Nat.mul_le_mul_right _ (Nat.pow_pos (by decide))
        omega
      have hmI : (m' : Int) ≤ 18446744073709551615 := by have := HM.out; omega
      clear hv hs hB hown hmn
      by_cases hm : 0 < m'
      · have hL2 : L.length < 3 := by
          rcases Nat.lt_or_ge L.length 3 with h | h
          · exact h
          · have h1 : 1000000000 ^ 3 ≤ 1000000000 ^ L.length := Nat.pow_le_pow_right (by decide) h
            have h2 : 1000000000 ^ L.length * 1 ≤ 1000000000 ^ L.length * m' := Nat.mul_le_mul_left _ hm
            have := HV.out
            have := HM.out
            omega
        have hmI2 : (0 : Int) < (m' : Int) := by omega
        have hrow := HO.out.row
        go_wp2_with (at_builtin; refine wpList_append_own _ rfl _ _ 22 rfl W0.heap.size 99 i0 (.int .u32 0) 1 4 underU32s hi hz0 hz1 hz2 rfl (by decide) _ _ _ rfl (hrow.alloc _) ⟨wr.heap.size, 0, none⟩ 1 1 [.int .u32 ((m' : Int) % 1000000000)] rfl rfl (cell_one_new _ _ _) (by simp [Value.oneCell']) (by unfold maxLen; omega) (by omega) (by have := HB.out.size; simp; omega) ?_; intro v' w1 hown' hgrow _)
        have e1 : ((m' : Int) % 1000000000) = ((m' % 1000000000 : Nat) : Int) := by omega
        have e2 : ((m' : Int) / 1000000000) = ((m' / 1000000000 : Nat) : Int) := by omega
        rw [e1, ← u32s_snoc] at hown'
        have hl : L.length + 1 = (L ++ [m' % 1000000000]).length := by simp
        rw [hl] at hown'
        have hOn : OwnL W0.heap.size w1 v' (L ++ [m' % 1000000000]) := ⟨hown', fun x hx => by
          rcases List.mem_append.1 hx with hx | hx
          · exact HO.out.2 x hx
          · simp at hx; omega⟩
        have hBn : Below W0.heap.size W0 w1 := (HB.out.alloc HB.out.size _).grown hgrow (by have := HB.out.size; simp; omega) (fun k e => (hrow.lt k e).1)
        refine ⟨⟨m' / 1000000000, L ++ [m' % 1000000000], by rw [e2], hOn, by simp; omega, fun x hx => ?_, ?_, hBn⟩, by rw [e2]; simp only [intOf]; omega⟩
        · rcases List.mem_append.1 hx with hx | hx
          · exact HS.out x hx
          · simp at hx; omega
        · rw [val_snoc, List.length_append, List.length_singleton, Nat.pow_succ, ← HV.out]
          have h3 := Nat.div_add_mod m' 1000000000
          conv => rhs; rw [← h3]
          rw [Nat.mul_add, Nat.mul_assoc, Nat.mul_comm 1000000000]
          omega
      · obtain rfl : m' = 0 := by omega
        have HVL : Hid (val L = n.natAbs) := by have := HV.out; show _ = _; omega
        have hZ : valS true L = n := by
          have := HNEG.out; unfold valS; rw [HVL.out]; simp; omega
        have HZ := Lib.hid hZ
        obtain ⟨aL, cL, rfl, -⟩ := HO.out.lim
        have N2 := (N1.out _ HB.out).keep
        clear hZ hL hmI hm
        go_wp2_with fail
        refine (rnum_at true _ L _ HO.out.lim HS.out 3 (by rw [HZ.out]; omega)).mono ?_
        rintro e w4 ⟨⟨u4, rfl, h4⟩, hb4⟩
        have H4 := Lib.hid h4
        obtain ⟨s4, a4, n4, c4, rfl, -⟩ := h4.shape
        have hN := N2.out _ hb4
        have N := Lib.hid hN
        obtain ⟨g0, g1, f0, f1⟩ := hN.c2
        have B4 := Lib.hid (Below.step (Below.step B0.out HB.out) hb4)
        clear h4 hb4 hN
        go_wp2_with fail
        obtain ⟨W', e, hst, hbx⟩ := N.out.store (ys := [.bool s4, .slice a4 n4 c4]) rfl rfl
        simp only [setAll] at e
        rw [e]
        obtain ⟨k0, k1, -, -⟩ := hbx.c2
        refine bodyPost_ret (v := .agg #[.bool s4, .slice a4 n4 c4]) (by simp [results, Tryz.results34, go_sem, k0, k1]) rfl ⟨⟨_, rfl, ?_⟩, hst.below w (by omega) B4.out⟩
        have h5 := H4.out.stored hst
        rwa [HZ.out] at h5

end Go.Proofs.YtgpoljbccimkjaaGreatDoor
