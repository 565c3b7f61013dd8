/- Walk of the reference of layer 1: an amount by one part. -/
import Derived.Test.YtgpoljbccimkjaaGreatDoorRefJ
namespace Go.Proofs.YtgpoljbccimkjaaGreatDoor

/-- j parts are still to come; n is what is left of the others. -/
def SmInv (la : List Nat) (b j n : Nat) (L : List Nat) : Prop :=
  L.length = la.length ∧ (∀ x ∈ L, x < 1000000000) ∧ (∀ k, k < j → pt L k = 0) ∧ n < b ∧ val (la.take j) + val L * b + 1000000000 ^ j * n = val la

theorem SmInv.start {la : List Nat} {b : Nat} (hb : 0 < b) : SmInv la b la.length 0 (List.replicate la.length 0) := by
  have h0 : ∀ j, pt (List.replicate la.length 0) j = 0 := fun j => by unfold pt; simp [List.getD_eq_getElem?_getD, List.getElem?_replicate]; split <;> rfl
  exact ⟨by simp, fun x hx => by rw [List.mem_replicate] at hx; omega, fun j _ => h0 j, hb, by rw [val_zero h0, List.take_length]; simp⟩

theorem SmInv.step {la L : List Nat} {b j n t : Nat} (h : SmInv la b (j + 1) n L) (hj : j < la.length) (ha : pt la j < 1000000000) (ht : t = 1000000000 * n + pt la j) : t / b < 1000000000 ∧ SmInv la b j (t % b) (L.set j (t / b)) := by
  obtain ⟨h1, h2, h3, h4, h5⟩ := h
  have hb : 0 < b := by omega
  have hq : t / b < 1000000000 := by
    rw [Nat.div_lt_iff_lt_mul hb]
    have : 1000000000 * (n + 1) ≤ 1000000000 * b := Nat.mul_le_mul_left _ h4
    omega
  refine ⟨hq, by simpa using h1, small_set h2 hq, fun k hk => ?_, Nat.mod_lt _ hb, ?_⟩
  · rw [pt_set_ne (by omega)]
    exact h3 k (by omega)
  · rw [val_set (by omega) (h3 j (by omega))]
    rw [val_take_succ] at h5
    have hd := Nat.div_add_mod t b
    have e1 : 1000000000 ^ j * t = 1000000000 ^ j * (b * (t / b)) + 1000000000 ^ j * (t % b) := by rw [← Nat.mul_add, hd]
    have e2 : 1000000000 ^ (j + 1) * n + 1000000000 ^ j * pt la j = 1000000000 ^ j * t := by rw [ht, Nat.mul_add, Nat.pow_succ, Nat.mul_assoc]
    have e3 : (val L + 1000000000 ^ j * (t / b)) * b = val L * b + 1000000000 ^ j * (b * (t / b)) := by rw [Nat.add_mul, Nat.mul_assoc, Nat.mul_comm (t / b) b]
    rw [e3]
    omega

theorem SmInv.done {la L : List Nat} {b n : Nat} (h : SmInv la b 0 n L) : val L = val la / b ∧ n = val la % b := by
  obtain ⟨-, -, -, h4, h5⟩ := h
  have h6 : val la = n + b * val L := by
    rw [← h5, Nat.mul_comm]
    simp [val]
    omega
  have hb : 0 < b := by omega
  rw [h6]
  exact ⟨by rw [Nat.add_mul_div_left _ _ hb, Nat.div_eq_of_lt h4]; omega, by rw [Nat.add_mul_mod_self_left, Nat.mod_eq_of_lt h4]⟩

end Go.Proofs.YtgpoljbccimkjaaGreatDoor

namespace Go.Proofs.YtgpoljbccimkjaaGreatDoor
open Go.RowKit Go.Shelf

set_option maxRecDepth 100000 in
set_option maxHeartbeats 4000000 in
theorem rsmall_any (va : Value) (la : List Nat) (b : Nat) (w : World) (ha : Lim w va la) (h1 : ∀ x ∈ la, x < 1000000000) (n1 : la.length ≤ 1000000) (hb : 0 < b) (hb2 : b < 1000000000) :
    Calls Tryz.prog 160 #[va, .int .u32 b] w fun e w' => (∃ v L, e = .returned (.tuple #[v, .int .u32 (val la % b : Nat)]) ∧ OwnL w.heap.size w' v L ∧ L.length = la.length ∧ (∀ x ∈ L, x < 1000000000) ∧ val L = val la / b) ∧ Below w.heap.size w w' := by
  have HPA : Hid (∀ k, pt la k < 1000000000) := fun k => pt_lt (by decide) h1 k
  have ha' := ha
  obtain ⟨a, c, rfl, a1, a2, -⟩ := ha
  have HC := ha'.at
  unfold maxLen at a2
  have hbI : (0 : Int) < (b : Int) := by omega
  have hbI2 : (b : Int) ≤ 999999999 := by omega
  have HBP : Hid (0 < b) := hb
  have hbz : (((b : Nat) : Int) == 0) = false := by rw [beq_eq_false_iff_ne]; omega
  clear h1 ha'
  go_enter Tryz.func160, Tryz.ntmps160
  have hmk := run_make_u32 (la.length : Int) la.length (by omega) (by omega)
  go_wp2_with fail
  obtain ⟨W1, e1, m3, m4⟩ : ∃ W1, w.alloc (.cells (madeCells #[.int .u32 0] la.length) 99) = W1 ∧ Hid (Front W1 w.heap.size la.length (List.replicate la.length 0)) ∧ Hid (Below w.heap.size w W1) :=
    ⟨_, rfl, ⟨_, CellsAt.new _ _ _, by rw [← Array.length_toList, made_list, u32s_length]; simp, by simp, by rw [made_list, List.take_of_length_le (by rw [u32s_length]; simp)]⟩, (show Below w.heap.size w _ from (by repeat (first | exact Below.refl _ _ | with_reducible refine Below.drew ?_ | with_reducible refine below_drewN ?_ _ | with_reducible refine Below.setCell ?_ (by first | (simp; done) | (simp; omega) | omega) _ | with_reducible refine Below.alloc ?_ (by first | (simp; done) | (simp; omega) | omega) _)))⟩
  rw [e1]
  clear e1 hmk
  go_loopw [7, 8] (fun n i wr => ∃ (j m : Nat) (ii : Int) (L : List Nat), j ≤ la.length ∧ i = .int .i64 ii ∧ ii = (j : Int) - 1 ∧ n = .int .u64 m ∧ SmInv la b j m L ∧ Front wr w.heap.size la.length L ∧ Below w.heap.size w wr) (fun _ i _ => (intOf i + 1).toNat)
  case atStart => exact ⟨la.length, 0, _, _, Nat.le_refl _, rfl, rfl, rfl, SmInv.start HBP.out, m3.out, m4.out⟩
  case round =>
    obtain ⟨j, n, ii, L, hj, rfl, hii, rfl, hI, hF, hB⟩ := hrel
    have HI := Lib.hid hI
    have HF := Lib.hid hF
    have HB := Lib.hid hB
    have hn : n < b := hI.2.2.2.1
    have hnI : (n : Int) ≤ 999999998 := by omega
    clear hI hF hB m3 m4
    cases j with
    | succ k =>
      obtain rfl : ii = (k : Int) := by omega
      have hlt : k < la.length := by omega
      obtain ⟨bb, o, rfl, hbl, hcA⟩ := HC.out k hlt
      have hc1 := hcA _ HB.out
      have hc3 := HF.out.cell (i := k) (by have := HI.out.1; omega)
      have hf := fun x => HF.out.free x
      have hpa := HPA.out k
      have hltI : (k : Int) < (la.length : Int) := by omega
      obtain ⟨t, ht⟩ : ∃ t : Nat, t = 1000000000 * n + pt la k := ⟨_, rfl⟩
      have eT : 1000000000 * (n : Int) + (pt la k : Int) = (t : Int) := by omega
      obtain ⟨hq, hS⟩ := HI.out.step hlt hpa ht
      have HS := Lib.hid hS
      have hqI : (t : Int) / (b : Int) = ((t / b : Nat) : Int) := (Int.natCast_ediv _ _).symm
      have hrI : (t : Int) % (b : Int) = ((t % b : Nat) : Int) := (Int.natCast_emod _ _).symm
      have hq2 : ((t / b : Nat) : Int) ≤ 999999999 := by omega
      have hr2 : ((t % b : Nat) : Int) ≤ 999999999 := by have := Nat.mod_lt t HBP.out; omega
      have htI : (t : Int) ≤ 999999999999999999 := by omega
      clear hS hcA hii ht hj
      generalize t / b = q at *
      generalize t % b = r at *
      go_wp2
      go_roundw
      case rel => exact ⟨k, r, _, _, by omega, rfl, by omega, by rw [hrI], HS.out, HF.out.set _ _, HB.out.setCell (p := ⟨w.heap.size, k, none⟩) (Nat.le_refl _) _⟩
      case measure => simp [intOf]
    | zero =>
      obtain rfl : ii = -1 := by omega
      clear hii
      have hLl : L.length = la.length := HI.out.1
      go_wp2
      go_ret2
      have hO := HF.out.own (n := w.heap.size) (Nat.le_refl _) (by unfold maxLen; omega) (fun x hx => Nat.lt_trans (HI.out.2.1 x hx) (by decide))
      rw [hLl] at hO
      obtain ⟨d1, d2⟩ := HI.out.done
      subst d2
      exact ⟨⟨_, L, rfl, hO, hLl, HI.out.2.1, d1⟩, HB.out⟩

end Go.Proofs.YtgpoljbccimkjaaGreatDoor
