/- Walks of the reference of layer 1: differences of amounts. -/
import Derived.Test.YtgpoljbccimkjaaGreatDoorRefE
import Derived.Test.YtgpoljbccimkjaaGreatDoorBack
namespace Go.Proofs.YtgpoljbccimkjaaGreatDoor
set_option linter.unusedSimpArgs false
set_option linter.unusedVariables false
open Go.RowKit Go.Shelf

/-- What holds ahead of a round of the sum: k parts are there, cy is carried. -/
def MoreInv (la lb : List Nat) (k cy : Nat) (L : List Nat) : Prop :=
  L.length = k ∧ (∀ x ∈ L, x < 1000000000) ∧ val L + 1000000000 ^ k * cy = val (la.take k) + val (lb.take k)

theorem MoreInv.next {la lb L : List Nat} {k cy m : Nat} (h : MoreInv la lb k cy L) (hm : m = cy + pt la k + pt lb k) :
    MoreInv la lb (k + 1) (m / 1000000000) (L ++ [m % 1000000000]) := by
  obtain ⟨h1, h2, h3⟩ := h
  refine ⟨by simp [h1], fun x hx => ?_, ?_⟩
  · rcases List.mem_append.1 hx with hx | hx
    · exact h2 x hx
    · simp at hx; omega
  · rw [val_snoc, val_take_succ, val_take_succ, h1, Nat.pow_succ]
    have h4 := Nat.div_add_mod m 1000000000
    have h5 : 1000000000 ^ k * m = 1000000000 ^ k * cy + 1000000000 ^ k * pt la k + 1000000000 ^ k * pt lb k := by rw [hm, Nat.mul_add, Nat.mul_add]
    have h6 : 1000000000 ^ k * (m % 1000000000) + 1000000000 ^ k * 1000000000 * (m / 1000000000) = 1000000000 ^ k * m := by
      conv => rhs; rw [← h4]
      rw [Nat.mul_add, Nat.mul_assoc]
      omega
    omega

/-- The loop's relation. -/
def MoreRel (w : World) (la lb : List Nat) (v n i : Value) (wr : World) : Prop :=
  ∃ (k cy : Nat) (L : List Nat), i = .int .i64 k ∧ n = .int .u32 cy ∧ OwnL w.heap.size wr v L ∧ Below w.heap.size w wr ∧ cy ≤ 1 ∧ k ≤ max la.length lb.length + 1 ∧ (0 < cy → k ≤ max la.length lb.length) ∧ MoreInv la lb k cy L

theorem more_rel {w w1 : World} {la lb L : List Nat} {k cy m : Nat} {v' n' i' : Value} (h : MoreInv la lb k cy L) (hO : OwnL w.heap.size w1 v' (L ++ [m % 1000000000])) (hB : Below w.heap.size w w1)
    (hn : n' = .int .u32 ((m / 1000000000 : Nat) : Int)) (hi : i' = .int .i64 ((k + 1 : Nat) : Int)) (hm : m < 2000000000) (hk : k ≤ max la.length lb.length) (he : m = cy + pt la k + pt lb k ∧ (1000000000 ≤ m → k < max la.length lb.length)) :
    MoreRel w la lb v' n' i' w1 :=
  ⟨k + 1, m / 1000000000, L ++ [m % 1000000000], hi, hn, hO, hB, by omega, by omega, fun h => by have := he.2 (by omega); omega, h.next he.1⟩

set_option maxHeartbeats 1600000 in
theorem rmore_any (va vb : Value) (la lb : List Nat) (w : World) (ha : Lim w va la) (hb : Lim w vb lb) (h1 : ∀ x ∈ la, x < 1000000000) (h2 : ∀ x ∈ lb, x < 1000000000) (n1 : la.length ≤ 1000000) (n2 : lb.length ≤ 1000000) :
    Calls Tryz.prog 164 #[va, vb] w fun e w' => (∃ v L, e = .returned v ∧ OwnL w.heap.size w' v L ∧ (∀ x ∈ L, x < 1000000000) ∧ val L = val la + val lb) ∧ Below w.heap.size w w' := by
  obtain ⟨i0, hi, hz0, hz1, hz2⟩ := info_parts infoU32
  obtain ⟨a, c, rfl, p1, p2, p3, p4⟩ := ha
  obtain ⟨a', c', rfl, q1, q2, q3, q4⟩ := hb
  unfold maxLen at p2 q2
  have HPA : Hid (∀ k, pt la k < 1000000000) := fun k => pt_lt (by decide) h1 k
  have HPB : Hid (∀ k, pt lb k < 1000000000) := fun k => pt_lt (by decide) h2 k
  have HC : Hid (∀ i, i < la.length → ∃ b o, a = some ⟨b, o, none⟩ ∧ ∀ W, Below w.heap.size w W → W.cell? ⟨b, o + i, none⟩ = some (.int .u32 (pt la i))) := by
    intro i hi
    rcases p4 with ⟨_, rfl, _⟩ | ⟨b, o, rfl, hc⟩
    · simp at hi
    · exact ⟨b, o, rfl, fun W hB => by rw [hB.cell (p := ⟨b, o + i, none⟩) (World.block_lt_of_cell? w _ (hc i hi))]; exact hc i hi⟩
  have HC' : Hid (∀ i, i < lb.length → ∃ b o, a' = some ⟨b, o, none⟩ ∧ ∀ W, Below w.heap.size w W → W.cell? ⟨b, o + i, none⟩ = some (.int .u32 (pt lb i))) := by
    intro i hi
    rcases q4 with ⟨_, rfl, _⟩ | ⟨b, o, rfl, hc⟩
    · simp at hi
    · exact ⟨b, o, rfl, fun W hB => by rw [hB.cell (p := ⟨b, o + i, none⟩) (World.block_lt_of_cell? w _ (hc i hi))]; exact hc i hi⟩
  clear p3 p4 q3 q4 h1 h2
  go_enter Tryz.func164, Tryz.ntmps164
  go_wp2_with fail
  go_loopw [5, 6, 7] (fun v n i wr => MoreRel w la lb v n i wr) (fun _ _ i _ => (max la.length lb.length + 1) - (intOf i).toNat)
  case atStart => exact ⟨0, 0, [], rfl, rfl, OwnL.nil _ _, Below.refl _ _, by omega, by omega, by omega, rfl, by simp, by simp [val]⟩
  case round =>
    obtain ⟨k, cy, L, rfl, rfl, hown, hB, hcy, hkm, hkc, hinv⟩ := hrel
    have HB := Lib.hid hB
    have HO := Lib.hid hown
    have HI := Lib.hid hinv
    have hL : L.length = k := hinv.1
    have HKC := Lib.hid hkc
    have hrow := HO.out.row
    have HROW := Lib.hid hrow
    clear hB hown hinv hkc hrow
    by_cases hka : k < la.length
    · obtain ⟨b, o, rfl, hc0⟩ := HC.out k hka
      have hca := hc0 wr HB.out
      clear hc0
      have hkaI : (k : Int) < (la.length : Int) := by omega
      by_cases hkb : k < lb.length
      · obtain ⟨b', o', rfl, hc0⟩ := HC'.out k hkb
        have hcb := hc0 wr HB.out
        clear hc0
        have hkbI : (k : Int) < (lb.length : Int) := by omega
        have hpa := HPA.out k
        have hpb := HPB.out k
        have e1 : ((cy : Int) + (pt la k : Int) + (pt lb k : Int)) % 1000000000 = (((cy + pt la k + pt lb k) % 1000000000 : Nat) : Int) := by omega
        have e2 : ((cy : Int) + (pt la k : Int) + (pt lb k : Int)) / 1000000000 = (((cy + pt la k + pt lb k) / 1000000000 : Nat) : Int) := by omega
        have E1 := Lib.hid e1
        have E2 := Lib.hid e2
        clear e1 e2
        go_wp2_with (at_builtin; refine wpList_append_own _ rfl _ _ 22 rfl w.heap.size 99 i0 (.int .u32 0) 1 4 underU32s hi hz0 hz1 hz2 rfl (by decide) _ _ _ rfl (HROW.out.alloc _) ⟨wr.heap.size, 0, none⟩ 1 1 [.int .u32 (((cy : Int) + (pt la k : Int) + (pt lb k : Int)) % 1000000000)] rfl rfl (cell_one_new _ _ _) (by simp [Value.oneCell']) (by unfold maxLen; omega) (by omega) (by have := HB.out.size; simp; omega) ?_; intro v' w1 hown' hgrow _)
        rw [E1.out, ← u32s_snoc] at hown'
        have hl : L.length + 1 = (L ++ [(cy + pt la k + pt lb k) % 1000000000]).length := by simp
        rw [hl] at hown'
        have hOn : OwnL w.heap.size w1 v' (L ++ [(cy + pt la k + pt lb k) % 1000000000]) := ⟨hown', fun x hx => by
          rcases List.mem_append.1 hx with hx | hx
          · exact HO.out.2 x hx
          · simp at hx; omega⟩
        have hBn : Below w.heap.size w w1 := (HB.out.alloc HB.out.size _).grown hgrow (by have := HB.out.size; simp; omega) (fun k e => (HROW.out.lt k e).1)
        clear hgrow hown'
        try go_wp2
        go_roundw
        case rel => exact more_rel (m := cy + pt la k + pt lb k) HI.out hOn hBn (by rw [E2.out]) (by go_num) (by omega) (by omega) (by have := @pt_ge la k; have := @pt_ge lb k; omega)
        case measure => simp [intOf]; omega
      · have hkbI : ¬ (k : Int) < (lb.length : Int) := by omega
        have hpa := HPA.out k
        have hpb := HPB.out k
        have e1 : ((cy : Int) + (pt la k : Int)) % 1000000000 = (((cy + pt la k) % 1000000000 : Nat) : Int) := by omega
        have e2 : ((cy : Int) + (pt la k : Int)) / 1000000000 = (((cy + pt la k) / 1000000000 : Nat) : Int) := by omega
        have E1 := Lib.hid e1
        have E2 := Lib.hid e2
        clear e1 e2
        go_wp2_with (at_builtin; refine wpList_append_own _ rfl _ _ 22 rfl w.heap.size 99 i0 (.int .u32 0) 1 4 underU32s hi hz0 hz1 hz2 rfl (by decide) _ _ _ rfl (HROW.out.alloc _) ⟨wr.heap.size, 0, none⟩ 1 1 [.int .u32 (((cy : Int) + (pt la k : Int)) % 1000000000)] rfl rfl (cell_one_new _ _ _) (by simp [Value.oneCell']) (by unfold maxLen; omega) (by omega) (by have := HB.out.size; simp; omega) ?_; intro v' w1 hown' hgrow _)
        rw [E1.out, ← u32s_snoc] at hown'
        have hl : L.length + 1 = (L ++ [(cy + pt la k) % 1000000000]).length := by simp
        rw [hl] at hown'
        have hOn : OwnL w.heap.size w1 v' (L ++ [(cy + pt la k) % 1000000000]) := ⟨hown', fun x hx => by
          rcases List.mem_append.1 hx with hx | hx
          · exact HO.out.2 x hx
          · simp at hx; omega⟩
        have hBn : Below w.heap.size w w1 := (HB.out.alloc HB.out.size _).grown hgrow (by have := HB.out.size; simp; omega) (fun k e => (HROW.out.lt k e).1)
        clear hgrow hown'
        try go_wp2
        go_roundw
        case rel => exact more_rel (m := cy + pt la k) HI.out hOn hBn (by rw [E2.out]) (by go_num) (by omega) (by omega) (by have := @pt_ge la k; have := @pt_ge lb k; omega)
        case measure => simp [intOf]; omega
    · have hkaI : ¬ (k : Int) < (la.length : Int) := by omega
      by_cases hkb : k < lb.length
      · obtain ⟨b', o', rfl, hc0⟩ := HC'.out k hkb
        have hcb := hc0 wr HB.out
        clear hc0
        have hkbI : (k : Int) < (lb.length : Int) := by omega
        have hpa := HPA.out k
        have hpb := HPB.out k
        have e1 : ((cy : Int) + (pt lb k : Int)) % 1000000000 = (((cy + pt lb k) % 1000000000 : Nat) : Int) := by omega
        have e2 : ((cy : Int) + (pt lb k : Int)) / 1000000000 = (((cy + pt lb k) / 1000000000 : Nat) : Int) := by omega
        have E1 := Lib.hid e1
        have E2 := Lib.hid e2
        clear e1 e2
        go_wp2_with (at_builtin; refine wpList_append_own _ rfl _ _ 22 rfl w.heap.size 99 i0 (.int .u32 0) 1 4 underU32s hi hz0 hz1 hz2 rfl (by decide) _ _ _ rfl (HROW.out.alloc _) ⟨wr.heap.size, 0, none⟩ 1 1 [.int .u32 (((cy : Int) + (pt lb k : Int)) % 1000000000)] rfl rfl (cell_one_new _ _ _) (by simp [Value.oneCell']) (by unfold maxLen; omega) (by omega) (by have := HB.out.size; simp; omega) ?_; intro v' w1 hown' hgrow _)
        rw [E1.out, ← u32s_snoc] at hown'
        have hl : L.length + 1 = (L ++ [(cy + pt lb k) % 1000000000]).length := by simp
        rw [hl] at hown'
        have hOn : OwnL w.heap.size w1 v' (L ++ [(cy + pt lb k) % 1000000000]) := ⟨hown', fun x hx => by
          rcases List.mem_append.1 hx with hx | hx
          · exact HO.out.2 x hx
          · simp at hx; omega⟩
        have hBn : Below w.heap.size w w1 := (HB.out.alloc HB.out.size _).grown hgrow (by have := HB.out.size; simp; omega) (fun k e => (HROW.out.lt k e).1)
        clear hgrow hown'
        try go_wp2
        go_roundw
        case rel => exact more_rel (m := cy + pt lb k) HI.out hOn hBn (by rw [E2.out]) (by go_num) (by omega) (by omega) (by have := @pt_ge la k; have := @pt_ge lb k; omega)
        case measure => simp [intOf]; omega
      · have hkbI : ¬ (k : Int) < (lb.length : Int) := by omega
        by_cases hcp : 0 < cy
        · have hkm2 := HKC.out hcp
          have hcpI : (0 : Int) < (cy : Int) := by omega
          have hpa := HPA.out k
          have hpb := HPB.out k
          have e1 : ((cy : Int)) % 1000000000 = (((cy) % 1000000000 : Nat) : Int) := by omega
          have e2 : ((cy : Int)) / 1000000000 = (((cy) / 1000000000 : Nat) : Int) := by omega
          have E1 := Lib.hid e1
          have E2 := Lib.hid e2
          clear e1 e2
          go_wp2_with (at_builtin; refine wpList_append_own _ rfl _ _ 22 rfl w.heap.size 99 i0 (.int .u32 0) 1 4 underU32s hi hz0 hz1 hz2 rfl (by decide) _ _ _ rfl (HROW.out.alloc _) ⟨wr.heap.size, 0, none⟩ 1 1 [.int .u32 (((cy : Int)) % 1000000000)] rfl rfl (cell_one_new _ _ _) (by simp [Value.oneCell']) (by unfold maxLen; omega) (by omega) (by have := HB.out.size; simp; omega) ?_; intro v' w1 hown' hgrow _)
          rw [E1.out, ← u32s_snoc] at hown'
          have hl : L.length + 1 = (L ++ [(cy) % 1000000000]).length := by simp
          rw [hl] at hown'
          have hOn : OwnL w.heap.size w1 v' (L ++ [(cy) % 1000000000]) := ⟨hown', fun x hx => by
            rcases List.mem_append.1 hx with hx | hx
            · exact HO.out.2 x hx
            · simp at hx; omega⟩
          have hBn : Below w.heap.size w w1 := (HB.out.alloc HB.out.size _).grown hgrow (by have := HB.out.size; simp; omega) (fun k e => (HROW.out.lt k e).1)
          clear hgrow hown'
          try go_wp2
          go_roundw
          case rel => exact more_rel (m := cy) HI.out hOn hBn (by rw [E2.out]) (by go_num) (by omega) (by omega) (by have := @pt_ge la k; have := @pt_ge lb k; omega)
          case measure => simp [intOf]; omega
        · obtain rfl : cy = 0 := by omega
          go_wp2
          go_ret
          obtain ⟨j1, j2, j3⟩ := HI.out
          rw [List.take_of_length_le (by omega), List.take_of_length_le (by omega)] at j3
          exact ⟨⟨_, rfl, L, HO.out, j2, by omega⟩, HB.out⟩

end Go.Proofs.YtgpoljbccimkjaaGreatDoor

namespace Go.Proofs.YtgpoljbccimkjaaGreatDoor
set_option linter.unusedSimpArgs false
set_option linter.unusedVariables false
open Go.RowKit Go.Shelf

/-- What holds ahead of a round of the difference: k parts are there, ow is owed. -/
def LessInv (la lb : List Nat) (k ow : Nat) (L : List Nat) : Prop :=
  L.length = k ∧ (∀ x ∈ L, x < 1000000000) ∧ val L + val (lb.take k) = val (la.take k) + 1000000000 ^ k * ow

theorem LessInv.next {la lb L : List Nat} {k ow m : Nat} (h : LessInv la lb k ow L) (hm : m + ow + pt lb k = pt la k + 1000000000) (h2 : m < 2000000000) :
    LessInv la lb (k + 1) (1 - m / 1000000000) (L ++ [m % 1000000000]) := by
  obtain ⟨h1, hs, h3⟩ := h
  refine ⟨by simp [h1], fun x hx => ?_, ?_⟩
  · rcases List.mem_append.1 hx with hx | hx
    · exact hs x hx
    · simp at hx; omega
  · rw [val_snoc, val_take_succ, val_take_succ, h1, Nat.pow_succ]
    have h5 : m % 1000000000 + pt lb k + ow = pt la k + 1000000000 * (1 - m / 1000000000) := by omega
    have h6 : 1000000000 ^ k * (m % 1000000000 + pt lb k + ow) = 1000000000 ^ k * (pt la k + 1000000000 * (1 - m / 1000000000)) := by rw [h5]
    rw [Nat.mul_add, Nat.mul_add, Nat.mul_add, ← Nat.mul_assoc] at h6
    omega

/-- The loop's relation. -/
def LessRel (w : World) (la lb : List Nat) (v n i : Value) (wr : World) : Prop :=
  ∃ (k ow : Nat) (L : List Nat), i = .int .i64 k ∧ n = .int .u32 ow ∧ OwnL w.heap.size wr v L ∧ Below w.heap.size w wr ∧ ow ≤ 1 ∧ k ≤ la.length ∧ LessInv la lb k ow L

theorem less_rel {w w1 : World} {la lb L : List Nat} {k ow m : Nat} {v' n' i' : Value} (h : LessInv la lb k ow L) (hO : OwnL w.heap.size w1 v' (L ++ [m % 1000000000])) (hB : Below w.heap.size w w1)
    (hn : n' = .int .u32 ((1 - m / 1000000000 : Nat) : Int)) (hi : i' = .int .i64 ((k + 1 : Nat) : Int)) (hm : m < 2000000000) (hk : k < la.length) (he : m + ow + pt lb k = pt la k + 1000000000) :
    LessRel w la lb v' n' i' w1 :=
  ⟨k + 1, 1 - m / 1000000000, L ++ [m % 1000000000], hi, hn, hO, hB, by omega, by omega, h.next he hm⟩

theorem LessInv.done {la lb L : List Nat} {ow : Nat} (h : LessInv la lb la.length ow L) (h1 : ow ≤ 1) (hl : lb.length ≤ la.length) (hv : val lb ≤ val la) : val L = val la - val lb := by
  obtain ⟨j1, j2, j3⟩ := h
  rw [List.take_of_length_le (Nat.le_refl _), List.take_of_length_le hl] at j3
  have h4 := val_lt j2
  rw [j1] at h4
  rcases Nat.lt_or_ge ow 1 with h | h
  · have : ow = 0 := by omega
    subst this
    omega
  · have : ow = 1 := by omega
    subst this
    omega

set_option maxHeartbeats 1600000 in
theorem rless_any (va vb : Value) (la lb : List Nat) (w : World) (ha : Lim w va la) (hb : Lim w vb lb) (h1 : ∀ x ∈ la, x < 1000000000) (h2 : ∀ x ∈ lb, x < 1000000000) (n1 : la.length ≤ 1000000) (n2 : lb.length ≤ la.length) (hv : val lb ≤ val la) :
    Calls Tryz.prog 165 #[va, vb] w fun e w' => (∃ v L, e = .returned v ∧ OwnL w.heap.size w' v L ∧ (∀ x ∈ L, x < 1000000000) ∧ val L = val la - val lb) ∧ Below w.heap.size w w' := by
  obtain ⟨i0, hi, hz0, hz1, hz2⟩ := info_parts infoU32
  obtain ⟨a, c, rfl, p1, p2, p3, p4⟩ := ha
  obtain ⟨a', c', rfl, q1, q2, q3, q4⟩ := hb
  unfold maxLen at p2 q2
  have HPA : Hid (∀ k, pt la k < 1000000000) := fun k => pt_lt (by decide) h1 k
  have HPB : Hid (∀ k, pt lb k < 1000000000) := fun k => pt_lt (by decide) h2 k
  have HC : Hid (∀ i, i < la.length → ∃ b o, a = some ⟨b, o, none⟩ ∧ ∀ W, Below w.heap.size w W → W.cell? ⟨b, o + i, none⟩ = some (.int .u32 (pt la i))) := by
    intro i hi
    rcases p4 with ⟨_, rfl, _⟩ | ⟨b, o, rfl, hc⟩
    · simp at hi
    · exact ⟨b, o, rfl, fun W hB => by rw [hB.cell (p := ⟨b, o + i, none⟩) (World.block_lt_of_cell? w _ (hc i hi))]; exact hc i hi⟩
  have HC' : Hid (∀ i, i < lb.length → ∃ b o, a' = some ⟨b, o, none⟩ ∧ ∀ W, Below w.heap.size w W → W.cell? ⟨b, o + i, none⟩ = some (.int .u32 (pt lb i))) := by
    intro i hi
    rcases q4 with ⟨_, rfl, _⟩ | ⟨b, o, rfl, hc⟩
    · simp at hi
    · exact ⟨b, o, rfl, fun W hB => by rw [hB.cell (p := ⟨b, o + i, none⟩) (World.block_lt_of_cell? w _ (hc i hi))]; exact hc i hi⟩
  have HV := Lib.hid hv
  clear p3 p4 q3 q4 h1 h2 hv
  go_enter Tryz.func165, Tryz.ntmps165
  go_wp2_with fail
  go_loopw [5, 6, 7] (fun v n i wr => LessRel w la lb v n i wr) (fun _ _ i _ => la.length - (intOf i).toNat)
  case atStart => exact ⟨0, 0, [], rfl, rfl, OwnL.nil _ _, Below.refl _ _, by omega, by omega, rfl, by simp, by simp [val]⟩
  case round =>
    obtain ⟨k, ow, L, rfl, rfl, hown, hB, how, hkm, hinv⟩ := hrel
    have HB := Lib.hid hB
    have HO := Lib.hid hown
    have HI := Lib.hid hinv
    have hL : L.length = k := hinv.1
    have hrow := HO.out.row
    have HROW := Lib.hid hrow
    clear hB hown hinv hrow
    by_cases hka : k < la.length
    · obtain ⟨b, o, rfl, hc0⟩ := HC.out k hka
      have hca := hc0 wr HB.out
      clear hc0
      have hkaI : (k : Int) < (la.length : Int) := by omega
      by_cases hkb : k < lb.length
      · obtain ⟨b', o', rfl, hc0⟩ := HC'.out k hkb
        have hcb := hc0 wr HB.out
        clear hc0
        have hkbI : (k : Int) < (lb.length : Int) := by omega
        have hpa := HPA.out k
        have hpb := HPB.out k
        have e1 : ((pt la k : Int) + 1000000000 - (ow : Int) - (pt lb k : Int)) % 1000000000 = (((pt la k + 1000000000 - ow - pt lb k) % 1000000000 : Nat) : Int) := by omega
        have e2 : 1 - ((pt la k : Int) + 1000000000 - (ow : Int) - (pt lb k : Int)) / 1000000000 = ((1 - (pt la k + 1000000000 - ow - pt lb k) / 1000000000 : Nat) : Int) := by omega
        have E1 := Lib.hid e1
        have E2 := Lib.hid e2
        clear e1 e2
        go_wp2_with (at_builtin; refine wpList_append_own _ rfl _ _ 22 rfl w.heap.size 99 i0 (.int .u32 0) 1 4 underU32s hi hz0 hz1 hz2 rfl (by decide) _ _ _ rfl (HROW.out.alloc _) ⟨wr.heap.size, 0, none⟩ 1 1 [.int .u32 (((pt la k : Int) + 1000000000 - (ow : Int) - (pt lb k : Int)) % 1000000000)] rfl rfl (cell_one_new _ _ _) (by simp [Value.oneCell']) (by unfold maxLen; omega) (by omega) (by have := HB.out.size; simp; omega) ?_; intro v' w1 hown' hgrow _)
        rw [E1.out, ← u32s_snoc] at hown'
        have hl : L.length + 1 = (L ++ [(pt la k + 1000000000 - ow - pt lb k) % 1000000000]).length := by simp
        rw [hl] at hown'
        have hOn : OwnL w.heap.size w1 v' (L ++ [(pt la k + 1000000000 - ow - pt lb k) % 1000000000]) := ⟨hown', fun x hx => by
          rcases List.mem_append.1 hx with hx | hx
          · exact HO.out.2 x hx
          · simp at hx; omega⟩
        have hBn : Below w.heap.size w w1 := (HB.out.alloc HB.out.size _).grown hgrow (by have := HB.out.size; simp; omega) (fun k e => (HROW.out.lt k e).1)
        clear hgrow hown'
        try go_wp2
        go_roundw
        case rel => exact less_rel (m := pt la k + 1000000000 - ow - pt lb k) HI.out hOn hBn (by rw [E2.out]) (by go_num) (by omega) (by omega) (by have := @pt_ge lb k; omega)
        case measure => simp [intOf]; omega
      · have hkbI : ¬ (k : Int) < (lb.length : Int) := by omega
        have hpa := HPA.out k
        have hpb := HPB.out k
        have e1 : ((pt la k : Int) + 1000000000 - (ow : Int)) % 1000000000 = (((pt la k + 1000000000 - ow) % 1000000000 : Nat) : Int) := by omega
        have e2 : 1 - ((pt la k : Int) + 1000000000 - (ow : Int)) / 1000000000 = ((1 - (pt la k + 1000000000 - ow) / 1000000000 : Nat) : Int) := by omega
        have E1 := Lib.hid e1
        have E2 := Lib.hid e2
        clear e1 e2
        go_wp2_with (at_builtin; refine wpList_append_own _ rfl _ _ 22 rfl w.heap.size 99 i0 (.int .u32 0) 1 4 underU32s hi hz0 hz1 hz2 rfl (by decide) _ _ _ rfl (HROW.out.alloc _) ⟨wr.heap.size, 0, none⟩ 1 1 [.int .u32 (((pt la k : Int) + 1000000000 - (ow : Int)) % 1000000000)] rfl rfl (cell_one_new _ _ _) (by simp [Value.oneCell']) (by unfold maxLen; omega) (by omega) (by have := HB.out.size; simp; omega) ?_; intro v' w1 hown' hgrow _)
        rw [E1.out, ← u32s_snoc] at hown'
        have hl : L.length + 1 = (L ++ [(pt la k + 1000000000 - ow) % 1000000000]).length := by simp
        rw [hl] at hown'
        have hOn : OwnL w.heap.size w1 v' (L ++ [(pt la k + 1000000000 - ow) % 1000000000]) := ⟨hown', fun x hx => by
          rcases List.mem_append.1 hx with hx | hx
          · exact HO.out.2 x hx
          · simp at hx; omega⟩
        have hBn : Below w.heap.size w w1 := (HB.out.alloc HB.out.size _).grown hgrow (by have := HB.out.size; simp; omega) (fun k e => (HROW.out.lt k e).1)
        clear hgrow hown'
        try go_wp2
        go_roundw
        case rel => exact less_rel (m := pt la k + 1000000000 - ow) HI.out hOn hBn (by rw [E2.out]) (by go_num) (by omega) (by omega) (by have := @pt_ge lb k; omega)
        case measure => simp [intOf]; omega
    · obtain rfl : k = la.length := by omega
      go_wp2
      go_ret
      exact ⟨⟨_, L, rfl, HO.out, HI.out.2.1, HI.out.done (by omega) n2 HV.out⟩, HB.out⟩

end Go.Proofs.YtgpoljbccimkjaaGreatDoor
