/- Walk of the reference of layer 1: so often an amount off another one. -/
import Derived.Test.YtgpoljbccimkjaaGreatDoorRefK
namespace Go.Proofs.YtgpoljbccimkjaaGreatDoor
set_option linter.unusedSimpArgs false
set_option linter.unusedVariables false

/-- j parts are still to come; n is what is left of the others. -/
def SmInv (la : List Nat) (b j n : Nat) (L : List Nat) : Prop :=
  L.length = la.length ∧ (∀ x ∈ L, x < 1000000000) ∧ (∀ k, k < j → pt L k = 0) ∧ n < b ∧ val (la.take j) + val L * b + 1000000000 ^ j * n = val la

theorem SmInv.start {la : List Nat} {b : Nat} (hb : 0 < b) : SmInv la b la.length 0 (List.replicate la.length 0) := by
  have h0 : ∀ j, pt (List.replicate la.length 0) j = 0 := fun j => by unfold pt; simp [List.getD_eq_getElem?_getD, List.getElem?_replicate]; split <;> rfl
  exact ⟨by simp, fun x hx => by rw [List.mem_replicate] at hx; omega, fun j _ => h0 j, hb, by rw [val_zero h0, List.take_length]; simp⟩

theorem SmInv.step {la L : List Nat} {b j n t : Nat} (h : SmInv la b (j + 1) n L) (hj : j < la.length) (ha : pt la j < 1000000000) (ht : t = 1000000000 * n + pt la j) : t / b < 1000000000 ∧ SmInv la b j (t % b) (L.set j (t / b)) := by
  obtain ⟨h1, h2, h3, h4, h5⟩ := h
  have hb : 0 < b := by omega
  have hq : t / b < 1000000000 := by
    rw [Nat.div_lt_iff_lt_mul hb]
    have : 1000000000 * (n + 1) ≤ 1000000000 * b := Nat.mul_le_mul_left _ h4
    omega
  refine ⟨hq, by simpa using h1, small_set h2 hq, fun k hk => ?_, Nat.mod_lt _ hb, ?_⟩
  · rw [pt_set_ne (by omega)]
    exact h3 k (by omega)
  · rw [val_set (by omega) (h3 j (by omega))]
    rw [val_take_succ] at h5
    have hd := Nat.div_add_mod t b
    have e1 : 1000000000 ^ j * t = 1000000000 ^ j * (b * (t / b)) + 1000000000 ^ j * (t % b) := by rw [← Nat.mul_add, hd]
    have e2 : 1000000000 ^ (j + 1) * n + 1000000000 ^ j * pt la j = 1000000000 ^ j * t := by rw [ht, Nat.mul_add, Nat.pow_succ, Nat.mul_assoc]
    have e3 : (val L + 1000000000 ^ j * (t / b)) * b = val L * b + 1000000000 ^ j * (b * (t / b)) := by rw [Nat.add_mul, Nat.mul_assoc, Nat.mul_comm (t / b) b]
    rw [e3]
    omega

theorem SmInv.done {la L : List Nat} {b n : Nat} (h : SmInv la b 0 n L) : val L = val la / b ∧ n = val la % b := by
  obtain ⟨-, -, -, h4, h5⟩ := h
  have h6 : val la = n + b * val L := by
    rw [← h5, Nat.mul_comm]
    simp [val]
    omega
  have hb : 0 < b := by omega
  rw [h6]
  exact ⟨by rw [Nat.add_mul_div_left _ _ hb, Nat.div_eq_of_lt h4]; omega, by rw [Nat.add_mul_mod_self_left, Nat.mod_eq_of_lt h4]⟩

end Go.Proofs.YtgpoljbccimkjaaGreatDoor

namespace Go.Proofs.YtgpoljbccimkjaaGreatDoor
set_option linter.unusedSimpArgs false
set_option linter.unusedVariables false
open Go.RowKit Go.Shelf

set_option maxRecDepth 100000 in
set_option maxHeartbeats 4000000 in
theorem rsmall_any (va : Value) (la : List Nat) (b : Nat) (w : World) (ha : Lim w va la) (h1 : ∀ x ∈ la, x < 1000000000) (n1 : la.length ≤ 1000000) (hb : 0 < b) (hb2 : b < 1000000000) :
    Calls Tryz.prog 160 #[va, .int .u32 b] w fun e w' => (∃ v L, e = .returned (.tuple #[v, .int .u32 (val la % b : Nat)]) ∧ OwnL w.heap.size w' v L ∧ L.length = la.length ∧ (∀ x ∈ L, x < 1000000000) ∧ val L = val la / b) ∧ Below w.heap.size w w' := by
  have HPA : Hid (∀ k, pt la k < 1000000000) := fun k => pt_lt (by decide) h1 k
  have ha' := ha
  obtain ⟨a, c, rfl, a1, a2, -⟩ := ha
  have HC := ha'.at
  unfold maxLen at a2
  have hbI : (0 : Int) < (b : Int) := by omega
  have hbI2 : (b : Int) ≤ 999999999 := by omega
  have HBP : Hid (0 < b) := hb
  have hbz : (((b : Nat) : Int) == 0) = false := by rw [beq_eq_false_iff_ne]; omega
  clear h1 ha'
  go_enter Tryz.func160, Tryz.ntmps160
  have hmk := run_make_u32 (la.length : Int) la.length (by omega) (by omega)
  go_wp2_with fail
  obtain ⟨W1, e1, m3, m4⟩ : ∃ W1, w.alloc (.cells (madeCells #[.int .u32 0] la.length) 99) = W1 ∧ Hid (Front W1 w.heap.size la.length (List.replicate la.length 0)) ∧ Hid (Below w.heap.size w W1) :=
    ⟨_, rfl, ⟨_, CellsAt.new _ _ _, by rw [← Array.length_toList, made_list, u32s_length]; simp, by simp, by rw [made_list, List.take_of_length_le (by rw [u32s_length]; simp)]⟩, (show Below w.heap.size w _ from (by repeat (first | exact Below.refl _ _ | with_reducible refine Below.drew ?_ | with_reducible refine below_drewN ?_ _ | with_reducible refine Below.setCell ?_ (by first | (simp; done) | (simp; omega) | omega) _ | with_reducible refine Below.alloc ?_ (by first | (simp; done) | (simp; omega) | omega) _)))⟩
  rw [e1]
  clear e1 hmk
  go_loopw [7, 8] (fun n i wr => ∃ (j m : Nat) (ii : Int) (L : List Nat), j ≤ la.length ∧ i = .int .i64 ii ∧ ii = (j : Int) - 1 ∧ n = .int .u64 m ∧ SmInv la b j m L ∧ Front wr w.heap.size la.length L ∧ Below w.heap.size w wr) (fun _ i _ => (intOf i + 1).toNat)
  case atStart => exact ⟨la.length, 0, _, _, Nat.le_refl _, rfl, rfl, rfl, SmInv.start HBP.out, m3.out, m4.out⟩
  case round =>
    obtain ⟨j, n, ii, L, hj, rfl, hii, rfl, hI, hF, hB⟩ := hrel
    have HI := Lib.hid hI
    have HF := Lib.hid hF
    have HB := Lib.hid hB
    have hn : n < b := hI.2.2.2.1
    have hnI : (n : Int) ≤ 999999998 := by omega
    clear hI hF hB m3 m4
    cases j with
    | succ k =>
      obtain rfl : ii = (k : Int) := by omega
      have hlt : k < la.length := by omega
      obtain ⟨bb, o, rfl, hbl, hcA⟩ := HC.out k hlt
      have hc1 := hcA _ HB.out
      have hc3 := HF.out.cell (i := k) (by have := HI.out.1; omega)
      have hf := fun x => HF.out.free x
      have hpa := HPA.out k
      have hltI : (k : Int) < (la.length : Int) := by omega
      obtain ⟨t, ht⟩ : ∃ t : Nat, t = 1000000000 * n + pt la k := ⟨_, rfl⟩
      have eT : 1000000000 * (n : Int) + (pt la k : Int) = (t : Int) := by omega
      obtain ⟨hq, hS⟩ := HI.out.step hlt hpa ht
      have HS := Lib.hid hS
      have hqI : (t : Int) / (b : Int) = ((t / b : Nat) : Int) := (Int.natCast_ediv _ _).symm
      have hrI : (t : Int) % (b : Int) = ((t % b : Nat) : Int) := (Int.natCast_emod _ _).symm
      have hq2 : ((t / b : Nat) : Int) ≤ 999999999 := by omega
      have hr2 : ((t % b : Nat) : Int) ≤ 999999999 := by have := Nat.mod_lt t HBP.out; omega
      have htI : (t : Int) ≤ 999999999999999999 := by omega
      clear hS hcA hii ht hj
      generalize t / b = q at *
      generalize t % b = r at *
      go_wp2
      go_roundw
      case rel => exact ⟨k, r, _, _, by omega, rfl, by omega, by rw [hrI], HS.out, HF.out.set _ _, HB.out.setCell (p := ⟨w.heap.size, k, none⟩) (Nat.le_refl _) _⟩
      case measure => simp [intOf]
    | zero =>
      obtain rfl : ii = -1 := by omega
      clear hii
      have hLl : L.length = la.length := HI.out.1
      go_wp2
      go_ret2
      have hO := HF.out.own (n := w.heap.size) (Nat.le_refl _) (by unfold maxLen; omega) (fun x hx => Nat.lt_trans (HI.out.2.1 x hx) (by decide))
      rw [hLl] at hO
      obtain ⟨d1, d2⟩ := HI.out.done
      subst d2
      exact ⟨⟨_, L, rfl, hO, hLl, HI.out.2.1, d1⟩, HB.out⟩

end Go.Proofs.YtgpoljbccimkjaaGreatDoor

namespace Go.Proofs.YtgpoljbccimkjaaGreatDoor
set_option linter.unusedSimpArgs false
set_option linter.unusedVariables false

/-- k parts are done; o is owed. -/
def TkInv (L0 lb : List Nat) (s f k o : Nat) (L : List Nat) : Prop :=
  L.length = L0.length ∧ (∀ x ∈ L, x < 1000000000) ∧ (∀ j, s + k ≤ j → pt L j = pt L0 j) ∧ o < 1000000000 ∧ val L + 1000000000 ^ s * (f * val (lb.take k)) = val L0 + 1000000000 ^ (s + k) * o

theorem TkInv.start {L0 lb : List Nat} {s f : Nat} (h : ∀ x ∈ L0, x < 1000000000) : TkInv L0 lb s f 0 0 L0 := ⟨rfl, h, fun _ _ => rfl, by decide, by simp [val]⟩

theorem TkInv.step {L0 lb L : List Nat} {s f k o m x y o' : Nat} (h : TkInv L0 lb s f k o L) (hk : s + k < L0.length) (hx : x = pt L (s + k)) (hm : m = o + f * pt lb k) (hy : y < 1000000000) (ho : o' < 1000000000) (he : y + m = x + 1000000000 * o') :
    TkInv L0 lb s f (k + 1) o' (L.set (s + k) y) := by
  obtain ⟨h1, h2, h3, h4, h5⟩ := h
  refine ⟨by simpa using h1, small_set h2 hy, fun j hj => ?_, ho, ?_⟩
  · rw [pt_set_ne (by omega)]
    exact h3 j (by omega)
  · have h6 := val_put (l := L) (i := s + k) (t := y) (by omega)
    rw [← hx] at h6
    rw [val_take_succ]
    have e1 : 1000000000 ^ s * (f * (val (lb.take k) + 1000000000 ^ k * pt lb k)) = 1000000000 ^ s * (f * val (lb.take k)) + 1000000000 ^ (s + k) * (f * pt lb k) := by
      rw [Nat.mul_add, Nat.mul_add, Nat.pow_add, Nat.mul_left_comm f, Nat.mul_assoc]
    have e2 : 1000000000 ^ (s + k) * m = 1000000000 ^ (s + k) * o + 1000000000 ^ (s + k) * (f * pt lb k) := by rw [hm, Nat.mul_add]
    have e3 : 1000000000 ^ (s + k) * y + 1000000000 ^ (s + k) * m = 1000000000 ^ (s + k) * x + 1000000000 ^ (s + (k + 1)) * o' := by
      rw [← Nat.mul_add, he, Nat.mul_add, show s + (k + 1) = s + k + 1 by omega, Nat.pow_succ, Nat.mul_assoc]
    rw [e1]
    omega

/-- What is done with one part. -/
theorem takes_part {o b f x : Nat} (ho : o < 1000000000) (hb : b < 1000000000) (hf : f < 1000000000) (hx : x < 1000000000) :
    o + f * b ≤ 999999999000000000 ∧
    (x < (o + f * b) % 1000000000 → x + 1000000000 - (o + f * b) % 1000000000 < 1000000000 ∧ (o + f * b) / 1000000000 + 1 < 1000000000 ∧ x + 1000000000 - (o + f * b) % 1000000000 + (o + f * b) = x + 1000000000 * ((o + f * b) / 1000000000 + 1)) ∧
    (¬ x < (o + f * b) % 1000000000 → x - (o + f * b) % 1000000000 < 1000000000 ∧ (o + f * b) / 1000000000 < 1000000000 ∧ x - (o + f * b) % 1000000000 + (o + f * b) = x + 1000000000 * ((o + f * b) / 1000000000)) := by
  have h1 : f * b ≤ 999999999 * 999999999 := Nat.mul_le_mul (by omega) (by omega)
  generalize f * b = p at *
  omega

theorem TkInv.done {L0 lb L : List Nat} {s f k o : Nat} (h : TkInv L0 lb s f k o L) (hk : s + k = L0.length) (hl : lb.length ≤ k) (hv : 1000000000 ^ s * (f * val lb) ≤ val L0) : val L + 1000000000 ^ s * (f * val lb) = val L0 := by
  obtain ⟨h1, h2, -, -, h5⟩ := h
  rw [List.take_of_length_le hl] at h5
  have h6 := val_lt h2
  rw [h1] at h6
  rw [hk] at h5
  rcases Nat.eq_zero_or_pos o with rfl | h0
  · omega
  · have h7 : 1000000000 ^ L0.length * 1 ≤ 1000000000 ^ L0.length * o := Nat.mul_le_mul_left _ h0
    omega

end Go.Proofs.YtgpoljbccimkjaaGreatDoor

namespace Go.Proofs.YtgpoljbccimkjaaGreatDoor
set_option linter.unusedSimpArgs false
set_option linter.unusedVariables false
open Go.RowKit Go.Shelf

theorem Lim.cell {w : World} {a : Option Addr} {n c : Nat} {l : List Nat} (h : Lim w (.slice a n c) l) {i : Nat} (hi : i < l.length) : ∃ b o, a = some ⟨b, o, none⟩ ∧ w.cell? ⟨b, o + i, none⟩ = some (.int .u32 (pt l i)) := by
  obtain ⟨b, o, h1, -, h2⟩ := h.at.out i hi
  exact ⟨b, o, h1, h2 _ (Below.refl _ _)⟩

set_option maxRecDepth 100000 in
set_option maxHeartbeats 1000000 in
theorem rtop_any (va : Value) (la : List Nat) (j : Nat) (w : World) (ha : Lim w va la) (h1 : ∀ x ∈ la, x < 1000000000) (hj : j < la.length) (n1 : la.length ≤ 1000000) :
    Calls Tryz.prog 161 #[va, .int .i64 ((j : Int) + 1)] w fun e w' => e = .returned (.int .u64 ((1000000000 * pt la (j + 1) + pt la j : Nat) : Int)) ∧ w = w' := by
  have HPA : Hid (∀ k, pt la k < 1000000000) := fun k => pt_lt (by decide) h1 k
  have ha' := ha
  obtain ⟨a, c, rfl, a1, a2, -⟩ := ha
  unfold maxLen at a2
  obtain ⟨b, o, rfl, hc⟩ := ha'.cell hj
  have hp0 := HPA.out j
  have hp1 := HPA.out (j + 1)
  obtain ⟨m, hm⟩ : ∃ m, j + 1 = m := ⟨_, rfl⟩
  have hmI : (j : Int) + 1 = (m : Int) := by omega
  have hmj : (m : Int) - 1 = (j : Int) := by omega
  have hjI : (j : Int) < (la.length : Int) := by omega
  rw [hm] at hp1 ⊢
  rw [hmI]
  by_cases hlt : m < la.length
  · obtain ⟨b', o', he, hc1⟩ := ha'.cell hlt
    injection he with he
    injection he with e1 e2
    subst e1
    subst e2
    have hltI : (m : Int) < (la.length : Int) := by omega
    clear ha' h1
    go_enter Tryz.func161, Tryz.ntmps161
    go_wp2
    go_ret
    exact ⟨by push_cast; rfl, rfl⟩
  · have hz : pt la m = 0 := pt_ge (by omega)
    have hltI : ¬ (m : Int) < (la.length : Int) := by omega
    rw [hz]
    clear ha' h1
    go_enter Tryz.func161, Tryz.ntmps161
    go_wp2
    go_ret
    exact ⟨by simp, rfl⟩

end Go.Proofs.YtgpoljbccimkjaaGreatDoor

namespace Go.Proofs.YtgpoljbccimkjaaGreatDoor
set_option linter.unusedSimpArgs false
set_option linter.unusedVariables false
open Go.RowKit Go.Shelf

/-- What takes leaves behind. -/
def Took (n0 g cap : Nat) (L : List Nat) (X : Nat) (w w' : World) : Prop :=
  ∃ L', Front w' g cap L' ∧ L'.length = L.length ∧ (∀ x ∈ L', x < 1000000000) ∧ val L' + X = val L ∧ Below n0 w w' ∧ ∀ q c M, q ≠ g → Front w q c M → Front w' q c M

set_option maxRecDepth 100000 in
set_option maxHeartbeats 4000000 in
theorem rtakes_any (n0 g cap s f : Nat) (L lb : List Nat) (vb : Value) (w : World) (hF : Front w g cap L) (hb : ∀ W, Below n0 w W → Lim W vb lb) (hg : n0 ≤ g) (h1 : ∀ x ∈ L, x < 1000000000) (h2 : ∀ x ∈ lb, x < 1000000000) (hf : f < 1000000000) (hs : s + lb.length ≤ L.length) (n1 : L.length ≤ 1000000)
    (hv : 1000000000 ^ s * (f * val lb) ≤ val L) :
    Calls Tryz.prog 163 #[.slice (some ⟨g, 0, none⟩) L.length cap, vb, .int .i64 s, .int .u64 f] w fun e w' => e = .returned (.tuple #[]) ∧ Took n0 g cap L (1000000000 ^ s * (f * val lb)) w w' := by
  have HPB : Hid (∀ k, pt lb k < 1000000000) := fun k => pt_lt (by decide) h2 k
  have HB := Lib.hid hb
  have HF0 := Lib.hid hF
  have H1 := Lib.hid h1
  have HV := Lib.hid hv
  obtain ⟨a, c, rfl, b1, b2, -⟩ := hb w (Below.refl _ _)
  unfold maxLen at b2
  have hfI : (f : Int) ≤ 999999999 := by omega
  have hsI : (s : Int) + (lb.length : Int) ≤ (L.length : Int) := by omega
  have hLI : (L.length : Int) ≤ 1000000 := by omega
  clear hb hF h1 h2 hv
  go_enter Tryz.func163, Tryz.ntmps163
  go_wp2_with fail
  go_loopw [8, 9] (fun ow i wr => ∃ (k o : Nat) (M : List Nat), s + k ≤ L.length ∧ i = .int .i64 k ∧ ow = .int .u64 o ∧ TkInv L lb s f k o M ∧ Front wr g cap M ∧ Below n0 w wr ∧ ∀ q c M, q ≠ g → Front w q c M → Front wr q c M) (fun _ i _ => L.length - s - (intOf i).toNat)
  case atStart => exact ⟨0, 0, L, by omega, rfl, rfl, TkInv.start H1.out, HF0.out, Below.refl _ _, fun _ _ _ _ h => h⟩
  case round =>
    obtain ⟨k, o, M, hk, rfl, rfl, hI, hF, hB, hO⟩ := hrel
    have HI := Lib.hid hI
    have HF := Lib.hid hF
    have HBl := Lib.hid hB
    have HO := Lib.hid hO
    have ho : o < 1000000000 := hI.2.2.2.1
    have hMl : M.length = L.length := hI.1
    have HPM : Hid (∀ k, pt M k < 1000000000) := fun k => pt_lt (by decide) hI.2.1 k
    have HLb := Lib.hid (HB.out wr hB)
    have hskI : (s : Int) + (k : Int) = ((s + k : Nat) : Int) := by omega
    clear hI hF hB hO
    by_cases hlt : s + k < L.length
    · have hltI : (((s + k : Nat) : Int)) < (L.length : Int) := by omega
      have hc3 := HF.out.cell (i := s + k) (by omega)
      have hfr := fun x => HF.out.free x
      obtain ⟨x, hx⟩ : ∃ x, pt M (s + k) = x := ⟨_, rfl⟩
      have hx9 : x < 1000000000 := by rw [← hx]; exact HPM.out _
      have HX : Hid (x = pt M (s + k)) := hx.symm
      rw [hx] at hc3
      have hpb := HPB.out k
      obtain ⟨P1, P2, P3⟩ := takes_part ho hpb hf hx9
      obtain ⟨j, hj⟩ : ∃ j, s + k = j := ⟨_, rfl⟩
      rw [hj] at hskI hltI hc3
      have HJ := Lib.hid hj
      obtain ⟨m, hm⟩ : ∃ m, o + f * pt lb k = m := ⟨_, rfl⟩
      have HM := Lib.hid hm
      rw [hm] at P1 P2 P3
      obtain ⟨lo, hlo⟩ : ∃ lo, m % 1000000000 = lo := ⟨_, rfl⟩
      obtain ⟨hi, hhi⟩ : ∃ hi, m / 1000000000 = hi := ⟨_, rfl⟩
      rw [hlo] at P2 P3
      rw [hhi] at P2 P3
      have hloI : (m : Int) % 1000000000 = (lo : Int) := by omega
      have hhiI : (m : Int) / 1000000000 = (hi : Int) := by omega
      have hlo9 : lo < 1000000000 := by omega
      have hhi9 : hi < 1000000000 := by omega
      have hmI : (m : Int) ≤ 999999999000000000 := by omega
      by_cases hkb : k < lb.length
      · obtain ⟨b', o', rfl, hcb⟩ := HLb.out.cell hkb
        have hkbI : (k : Int) < (lb.length : Int) := by omega
        have hm1 : (f : Int) * (pt lb k : Int) ≤ 999999998000000001 := by
          have : ((f * pt lb k : Nat) : Int) ≤ ((999999999 * 999999999 : Nat) : Int) := Int.ofNat_le.2 (Nat.mul_le_mul (by omega) (by omega))
          simpa using this
        have hm0 : 0 ≤ (f : Int) * (pt lb k : Int) := Int.mul_nonneg (by omega) (by omega)
        have hmm : (o : Int) + (f : Int) * (pt lb k : Int) = (m : Int) := by rw [← hm]; push_cast; rfl
        by_cases hxl : x < lo
        · obtain ⟨q1, q2, q3⟩ := P2 hxl
          have hxlI : (x : Int) < (lo : Int) := by omega
          clear P2 P3 hm hx hlo hhi hj
          go_wp2
          have e2 : (x : Int) + 1000000000 - (lo : Int) = ((x + 1000000000 - lo : Nat) : Int) := by omega
          have e1 : (x : Int) + 1000000000 = ((x + 1000000000 : Nat) : Int) := by omega
          rw [e2, e1]
          have hT := HI.out.step (m := m) (x := x) (y := x + 1000000000 - lo) (o' := hi + 1) hlt HX.out HM.out.symm q1 q2 q3
          have hF2 := (HF.out.set j (x + 1000000000)).set j (x + 1000000000 - lo)
          rw [List.set_set] at hF2
          rw [HJ.out] at hT
          exact ⟨⟨k + 1, hi + 1, _, by omega, by go_num, by go_num, hT, hF2, (HBl.out.setCell (p := ⟨g, j, none⟩) hg _).setCell (p := ⟨g, j, none⟩) hg _, fun q c M' hq h => ((HO.out q c M' hq h).other (p := ⟨g, j, none⟩) (Ne.symm hq) _).other (p := ⟨g, j, none⟩) (Ne.symm hq) _⟩, by have := HJ.out; simp [intOf]; omega⟩
        · obtain ⟨q1, q2, q3⟩ := P3 hxl
          have hxlI : ¬ (x : Int) < (lo : Int) := by omega
          clear P2 P3 hm hx hlo hhi hj
          go_wp2
          have e2 : (x : Int) - (lo : Int) = ((x - lo : Nat) : Int) := by omega
          rw [e2]
          have hT := HI.out.step (m := m) (x := x) (y := x - lo) (o' := hi) hlt HX.out HM.out.symm q1 q2 q3
          rw [HJ.out] at hT
          exact ⟨⟨k + 1, hi, _, by omega, by go_num, rfl, hT, HF.out.set j (x - lo), HBl.out.setCell (p := ⟨g, j, none⟩) hg _, fun q c M' hq h => (HO.out q c M' hq h).other (p := ⟨g, j, none⟩) (Ne.symm hq) _⟩, by have := HJ.out; simp [intOf]; omega⟩
      · have hp0 : pt lb k = 0 := pt_ge (by omega)
        have hkbI : ¬ (k : Int) < (lb.length : Int) := by omega
        have hmo : m = o := by rw [← hm, hp0]; simp
        have hmI2 : (o : Int) = (m : Int) := by omega
        by_cases hxl : x < lo
        · obtain ⟨q1, q2, q3⟩ := P2 hxl
          have hxlI : (x : Int) < (lo : Int) := by omega
          clear P2 P3 hm hx hlo hhi hj hmo
          go_wp2
          have e2 : (x : Int) + 1000000000 - (lo : Int) = ((x + 1000000000 - lo : Nat) : Int) := by omega
          have e1 : (x : Int) + 1000000000 = ((x + 1000000000 : Nat) : Int) := by omega
          rw [e2, e1]
          have hT := HI.out.step (m := m) (x := x) (y := x + 1000000000 - lo) (o' := hi + 1) hlt HX.out HM.out.symm q1 q2 q3
          have hF2 := (HF.out.set j (x + 1000000000)).set j (x + 1000000000 - lo)
          rw [List.set_set] at hF2
          rw [HJ.out] at hT
          exact ⟨⟨k + 1, hi + 1, _, by omega, by go_num, by go_num, hT, hF2, (HBl.out.setCell (p := ⟨g, j, none⟩) hg _).setCell (p := ⟨g, j, none⟩) hg _, fun q c M' hq h => ((HO.out q c M' hq h).other (p := ⟨g, j, none⟩) (Ne.symm hq) _).other (p := ⟨g, j, none⟩) (Ne.symm hq) _⟩, by have := HJ.out; simp [intOf]; omega⟩
        · obtain ⟨q1, q2, q3⟩ := P3 hxl
          have hxlI : ¬ (x : Int) < (lo : Int) := by omega
          clear P2 P3 hm hx hlo hhi hj hmo
          go_wp2
          have e2 : (x : Int) - (lo : Int) = ((x - lo : Nat) : Int) := by omega
          rw [e2]
          have hT := HI.out.step (m := m) (x := x) (y := x - lo) (o' := hi) hlt HX.out HM.out.symm q1 q2 q3
          rw [HJ.out] at hT
          exact ⟨⟨k + 1, hi, _, by omega, by go_num, rfl, hT, HF.out.set j (x - lo), HBl.out.setCell (p := ⟨g, j, none⟩) hg _, fun q c M' hq h => (HO.out q c M' hq h).other (p := ⟨g, j, none⟩) (Ne.symm hq) _⟩, by have := HJ.out; simp [intOf]; omega⟩
    · obtain hsk : s + k = L.length := by omega
      have hltI : ¬ ((s + k : Nat) : Int) < (L.length : Int) := by omega
      go_wp2
      go_end0
      exact ⟨rfl, M, HF.out, hMl, HI.out.2.1, HI.out.done hsk (by omega) HV.out, HBl.out, HO.out⟩

end Go.Proofs.YtgpoljbccimkjaaGreatDoor
