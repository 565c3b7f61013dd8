/- Walk of the reference of layer 1: so often an amount off another one. -/
import Derived.Test.YtgpoljbccimkjaaGreatDoorRefM
import Derived.Test.YtgpoljbccimkjaaGreatDoorRefJ
namespace Go.Proofs.YtgpoljbccimkjaaGreatDoor

/-- k parts are done; o is owed. -/
def TkInv (L0 lb : List Nat) (s f k o : Nat) (L : List Nat) : Prop :=
  L.length = L0.length ∧ (∀ x ∈ L, x < 1000000000) ∧ (∀ j, s + k ≤ j → pt L j = pt L0 j) ∧ o < 1000000000 ∧ val L + 1000000000 ^ s * (f * val (lb.take k)) = val L0 + 1000000000 ^ (s + k) * o

theorem TkInv.start {L0 lb : List Nat} {s f : Nat} (h : ∀ x ∈ L0, x < 1000000000) : TkInv L0 lb s f 0 0 L0 := ⟨rfl, h, fun _ _ => rfl, by decide, by simp [val]⟩

theorem TkInv.step {L0 lb L : List Nat} {s f k o m x y o' : Nat} (h : TkInv L0 lb s f k o L) (hk : s + k < L0.length) (hx : x = pt L (s + k)) (hm : m = o + f * pt lb k) (hy : y < 1000000000) (ho : o' < 1000000000) (he : y + m = x + 1000000000 * o') :
    TkInv L0 lb s f (k + 1) o' (L.set (s + k) y) := by
  obtain ⟨h1, h2, h3, h4, h5⟩ := h
  refine ⟨by simpa using h1, small_set h2 hy, fun j hj => ?_, ho, ?_⟩
  · rw [pt_set_ne (by omega)]
    exact h3 j (by omega)
  · have h6 := val_put (l := L) (i := s + k) (t := y) (by omega)
    rw [← hx] at h6
    rw [val_take_succ]
    have e1 : 1000000000 ^ s * (f * (val (lb.take k) + 1000000000 ^ k * pt lb k)) = 1000000000 ^ s * (f * val (lb.take k)) + 1000000000 ^ (s + k) * (f * pt lb k) := by
      rw [Nat.mul_add, Nat.mul_add, Nat.pow_add, Nat.mul_left_comm f, Nat.mul_assoc]
    have e2 : 1000000000 ^ (s + k) * m = 1000000000 ^ (s + k) * o + 1000000000 ^ (s + k) * (f * pt lb k) := by rw [hm, Nat.mul_add]
    have e3 : 1000000000 ^ (s + k) * y + 1000000000 ^ (s + k) * m = 1000000000 ^ (s + k) * x + 1000000000 ^ (s + (k + 1)) * o' := by
      rw [← Nat.mul_add, he, Nat.mul_add, show s + (k + 1) = s + k + 1 by omega, Nat.pow_succ, Nat.mul_assoc]
    rw [e1]
    omega

/-- What is done with one part. -/
theorem takes_part {o b f x : Nat} (ho : o < 1000000000) (hb : b < 1000000000) (hf : f < 1000000000) (hx : x < 1000000000) :
    o + f * b ≤ 999999999000000000 ∧
    (x < (o + f * b) % 1000000000 → x + 1000000000 - (o + f * b) % 1000000000 < 1000000000 ∧ (o + f * b) / 1000000000 + 1 < 1000000000 ∧ x + 1000000000 - (o + f * b) % 1000000000 + (o + f * b) = x + 1000000000 * ((o + f * b) / 1000000000 + 1)) ∧
    (¬ x < (o + f * b) % 1000000000 → x - (o + f * b) % 1000000000 < 1000000000 ∧ (o + f * b) / 1000000000 < 1000000000 ∧ x - (o + f * b) % 1000000000 + (o + f * b) = x + 1000000000 * ((o + f * b) / 1000000000)) := by
  have h1 : f * b ≤ 999999999 * 999999999 := Nat.mul_le_mul (by omega) (by omega)
  generalize f * b = p at *
  omega

theorem TkInv.done {L0 lb L : List Nat} {s f k o : Nat} (h : TkInv L0 lb s f k o L) (hk : s + k = L0.length) (hl : lb.length ≤ k) (hv : 1000000000 ^ s * (f * val lb) ≤ val L0) : val L + 1000000000 ^ s * (f * val lb) = val L0 := by
  obtain ⟨h1, h2, -, -, h5⟩ := h
  rw [List.take_of_length_le hl] at h5
  have h6 := val_lt h2
  rw [h1] at h6
  rw [hk] at h5
  rcases Nat.eq_zero_or_pos o with rfl | h0
  · omega
  · have h7 : 1000000000 ^ L0.length * 1 ≤ 1000000000 ^ L0.length * o := Nat.mul_le_mul_left _ h0
    omega

end Go.Proofs.YtgpoljbccimkjaaGreatDoor

namespace Go.Proofs.YtgpoljbccimkjaaGreatDoor
open Go.RowKit Go.Shelf

theorem Lim.cell {w : World} {a : Option Addr} {n c : Nat} {l : List Nat} (h : Lim w (.slice a n c) l) {i : Nat} (hi : i < l.length) : ∃ b o, a = some ⟨b, o, none⟩ ∧ w.cell? ⟨b, o + i, none⟩ = some (.int .u32 (pt l i)) := by
  obtain ⟨b, o, h1, -, h2⟩ := h.at.out i hi
  exact ⟨b, o, h1, h2 _ (Below.refl _ _)⟩

set_option maxRecDepth 100000 in
set_option maxHeartbeats 1000000 in
theorem rtop_any (va : Value) (la : List Nat) (j : Nat) (w : World) (ha : Lim w va la) (h1 : ∀ x ∈ la, x < 1000000000) (hj : j < la.length) (n1 : la.length ≤ 1000000) :
    Calls Tryz.prog 161 #[va, .int .i64 ((j : Int) + 1)] w fun e w' => e = .returned (.int .u64 ((1000000000 * pt la (j + 1) + pt la j : Nat) : Int)) ∧ w = w' := by
  have HPA : Hid (∀ k, pt la k < 1000000000) := fun k => pt_lt (by decide) h1 k
  have ha' := ha
  obtain ⟨a, c, rfl, a1, a2, -⟩ := ha
  unfold maxLen at a2
  obtain ⟨b, o, rfl, hc⟩ := ha'.cell hj
  have hp0 := HPA.out j
  have hp1 := HPA.out (j + 1)
  obtain ⟨m, hm⟩ : ∃ m, j + 1 = m := ⟨_, rfl⟩
  have hmI : (j : Int) + 1 = (m : Int) := by omega
  have hmj : (m : Int) - 1 = (j : Int) := by omega
  have hjI : (j : Int) < (la.length : Int) := by omega
  rw [hm] at hp1 ⊢
  rw [hmI]
  by_cases hlt : m < la.length
  · obtain ⟨b', o', he, hc1⟩ := ha'.cell hlt
    injection he with he
    injection he with e1 e2
    subst e1
    subst e2
    have hltI : (m : Int) < (la.length : Int) := by omega
    clear ha' h1
    go_enter Tryz.func161, Tryz.ntmps161
    go_wp2
    go_ret
    exact ⟨by push_cast; rfl, rfl⟩
  · have hz : pt la m = 0 := pt_ge (by omega)
    have hltI : ¬ (m : Int) < (la.length : Int) := by omega
    rw [hz]
    clear ha' h1
    go_enter Tryz.func161, Tryz.ntmps161
    go_wp2
    go_ret
    exact ⟨by simp, rfl⟩

end Go.Proofs.YtgpoljbccimkjaaGreatDoor

namespace Go.Proofs.YtgpoljbccimkjaaGreatDoor
open Go.RowKit Go.Shelf

/-- What takes leaves behind. -/
def Took (n0 g cap : Nat) (L : List Nat) (X : Nat) (w w' : World) : Prop :=
  ∃ L', Front w' g cap L' ∧ L'.length = L.length ∧ (∀ x ∈ L', x < 1000000000) ∧ val L' + X = val L ∧ Below n0 w w' ∧ ∀ q c M, q ≠ g → Front w q c M → Front w' q c M

set_option maxRecDepth 100000 in
set_option maxHeartbeats 4000000 in
theorem rtakes_any (n0 g cap s f : Nat) (L lb : List Nat) (vb : Value) (w : World) (hF : Front w g cap L) (hb : ∀ W, Below n0 w W → Lim W vb lb) (hg : n0 ≤ g) (h1 : ∀ x ∈ L, x < 1000000000) (h2 : ∀ x ∈ lb, x < 1000000000) (hf : f < 1000000000) (hs : s + lb.length ≤ L.length) (n1 : L.length ≤ 1000000)
    (hv : 1000000000 ^ s * (f * val lb) ≤ val L) :
    Calls Tryz.prog 163 #[.slice (some ⟨g, 0, none⟩) L.length cap, vb, .int .i64 s, .int .u64 f] w fun e w' => e = .returned (.tuple #[]) ∧ Took n0 g cap L (1000000000 ^ s * (f * val lb)) w w' := by
  have HPB : Hid (∀ k, pt lb k < 1000000000) := fun k => pt_lt (by decide) h2 k
  have HB := Lib.hid hb
  have HF0 := Lib.hid hF
  have H1 := Lib.hid h1
  have HV := Lib.hid hv
  obtain ⟨a, c, rfl, b1, b2, -⟩ := hb w (Below.refl _ _)
  unfold maxLen at b2
  have hfI : (f : Int) ≤ 999999999 := by omega
  have hsI : (s : Int) + (lb.length : Int) ≤ (L.length : Int) := by omega
  have hLI : (L.length : Int) ≤ 1000000 := by omega
  clear hb hF h1 h2 hv
  go_enter Tryz.func163, Tryz.ntmps163
  go_wp2_with fail
  go_loopw [8, 9] (fun ow i wr => ∃ (k o : Nat) (M : List Nat), s + k ≤ L.length ∧ i = .int .i64 k ∧ ow = .int .u64 o ∧ TkInv L lb s f k o M ∧ Front wr g cap M ∧ Below n0 w wr ∧ ∀ q c M, q ≠ g → Front w q c M → Front wr q c M) (fun _ i _ => L.length - s - (intOf i).toNat)
  case atStart => exact ⟨0, 0, L, by omega, rfl, rfl, TkInv.start H1.out, HF0.out, Below.refl _ _, fun _ _ _ _ h => h⟩
  case round =>
    obtain ⟨k, o, M, hk, rfl, rfl, hI, hF, hB, hO⟩ := hrel
    have HI := Lib.hid hI
    have HF := Lib.hid hF
    have HBl := Lib.hid hB
    have HO := Lib.hid hO
    have ho : o < 1000000000 := hI.2.2.2.1
    have hMl : M.length = L.length := hI.1
    have HPM : Hid (∀ k, pt M k < 1000000000) := fun k => pt_lt (by decide) hI.2.1 k
    have HLb := Lib.hid (HB.out wr hB)
    have hskI : (s : Int) + (k : Int) = ((s + k : Nat) : Int) := by omega
    clear hI hF hB hO
    by_cases hlt : s + k < L.length
    · have hltI : (((s + k : Nat) : Int)) < (L.length : Int) := by omega
      have hc3 := HF.out.cell (i := s + k) (by omega)
      have hfr := fun x => HF.out.free x
      obtain ⟨x, hx⟩ : ∃ x, pt M (s + k) = x := ⟨_, rfl⟩
      have hx9 : x < 1000000000 := by rw [← hx]; exact HPM.out _
      have HX : Hid (x = pt M (s + k)) := hx.symm
      rw [hx] at hc3
      have hpb := HPB.out k
      obtain ⟨P1, P2, P3⟩ := takes_part ho hpb hf hx9
      obtain ⟨j, hj⟩ : ∃ j, s + k = j := ⟨_, rfl⟩
      rw [hj] at hskI hltI hc3
      have HJ := Lib.hid hj
      obtain ⟨m, hm⟩ : ∃ m, o + f * pt lb k = m := ⟨_, rfl⟩
      have HM := Lib.hid hm
      rw [hm] at P1 P2 P3
      obtain ⟨lo, hlo⟩ : ∃ lo, m % 1000000000 = lo := ⟨_, rfl⟩
      obtain ⟨hi, hhi⟩ : ∃ hi, m / 1000000000 = hi := ⟨_, rfl⟩
      rw [hlo] at P2 P3
      rw [hhi] at P2 P3
      have hloI : (m : Int) % 1000000000 = (lo : Int) := by omega
      have hhiI : (m : Int) / 1000000000 = (hi : Int) := by omega
      have hlo9 : lo < 1000000000 := by omega
      have hhi9 : hi < 1000000000 := by omega
      have hmI : (m : Int) ≤ 999999999000000000 := by omega
      by_cases hkb : k < lb.length
      · obtain ⟨b', o', rfl, hcb⟩ := HLb.out.cell hkb
        have hkbI : (k : Int) < (lb.length : Int) := by omega
        have hm1 : (f : Int) * (pt lb k : Int) ≤ 999999998000000001 := by
          have : ((f * pt lb k : Nat) : Int) ≤ ((999999999 * 999999999 : Nat) : Int) := Int.ofNat_le.2 (Nat.mul_le_mul (by omega) (by omega))
          simpa using this
        have hm0 : 0 ≤ (f : Int) * (pt lb k : Int) := Int.mul_nonneg (by omega) (by omega)
        have hmm : (o : Int) + (f : Int) * (pt lb k : Int) = (m : Int) := by rw [← hm]; push_cast; rfl
        by_cases hxl : x < lo
        · obtain ⟨q1, q2, q3⟩ := P2 hxl
          have hxlI : (x : Int) < (lo : Int) := by omega
          clear P2 P3 hm hx hlo hhi hj
          go_wp2
          have e2 : (x : Int) + 1000000000 - (lo : Int) = ((x + 1000000000 - lo : Nat) : Int) := by omega
          have e1 : (x : Int) + 1000000000 = ((x + 1000000000 : Nat) : Int) := by omega
          rw [e2, e1]
          have hT := HI.out.step (m := m) (x := x) (y := x + 1000000000 - lo) (o' := hi + 1) hlt HX.out HM.out.symm q1 q2 q3
          have hF2 := (HF.out.set j (x + 1000000000)).set j (x + 1000000000 - lo)
          rw [List.set_set] at hF2
          rw [HJ.out] at hT
          exact ⟨⟨k + 1, hi + 1, _, by omega, by go_num, by go_num, hT, hF2, (HBl.out.setCell (p := ⟨g, j, none⟩) hg _).setCell (p := ⟨g, j, none⟩) hg _, fun q c M' hq h => ((HO.out q c M' hq h).other (p := ⟨g, j, none⟩) (Ne.symm hq) _).other (p := ⟨g, j, none⟩) (Ne.symm hq) _⟩, by have := HJ.out; simp [intOf]; omega⟩
        · obtain ⟨q1, q2, q3⟩ := P3 hxl
          have hxlI : ¬ (x : Int) < (lo : Int) := by omega
          clear P2 P3 hm hx hlo hhi hj
          go_wp2
          have e2 : (x : Int) - (lo : Int) = ((x - lo : Nat) : Int) := by omega
          rw [e2]
          have hT := HI.out.step (m := m) (x := x) (y := x - lo) (o' := hi) hlt HX.out HM.out.symm q1 q2 q3
          rw [HJ.out] at hT
          exact ⟨⟨k + 1, hi, _, by omega, by go_num, rfl, hT, HF.out.set j (x - lo), HBl.out.setCell (p := ⟨g, j, none⟩) hg _, fun q c M' hq h => (HO.out q c M' hq h).other (p := ⟨g, j, none⟩) (Ne.symm hq) _⟩, by have := HJ.out; simp [intOf]; omega⟩
      · have hp0 : pt lb k = 0 := pt_ge (by omega)
        have hkbI : ¬ (k : Int) < (lb.length : Int) := by omega
        have hmo : m = o := by rw [← hm, hp0]; simp
        have hmI2 : (o : Int) = (m : Int) := by omega
        by_cases hxl : x < lo
        · obtain ⟨q1, q2, q3⟩ := P2 hxl
          have hxlI : (x : Int) < (lo : Int) := by omega
          clear P2 P3 hm hx hlo hhi hj hmo
          go_wp2
          have e2 : (x : Int) + 1000000000 - (lo : Int) = ((x + 1000000000 - lo : Nat) : Int) := by omega
          have e1 : (x : Int) + 1000000000 = ((x + 1000000000 : Nat) : Int) := by omega
          rw [e2, e1]
          have hT := HI.out.step (m := m) (x := x) (y := x + 1000000000 - lo) (o' := hi + 1) hlt HX.out HM.out.symm q1 q2 q3
          have hF2 := (HF.out.set j (x + 1000000000)).set j (x + 1000000000 - lo)
          rw [List.set_set] at hF2
          rw [HJ.out] at hT
          exact ⟨⟨k + 1, hi + 1, _, by omega, by go_num, by go_num, hT, hF2, (HBl.out.setCell (p := ⟨g, j, none⟩) hg _).setCell (p := ⟨g, j, none⟩) hg _, fun q c M' hq h => ((HO.out q c M' hq h).other (p := ⟨g, j, none⟩) (Ne.symm hq) _).other (p := ⟨g, j, none⟩) (Ne.symm hq) _⟩, by have := HJ.out; simp [intOf]; omega⟩
        · obtain ⟨q1, q2, q3⟩ := P3 hxl
          have hxlI : ¬ (x : Int) < (lo : Int) := by omega
          clear P2 P3 hm hx hlo hhi hj hmo
          go_wp2
          have e2 : (x : Int) - (lo : Int) = ((x - lo : Nat) : Int) := by omega
          rw [e2]
          have hT := HI.out.step (m := m) (x := x) (y := x - lo) (o' := hi) hlt HX.out HM.out.symm q1 q2 q3
          rw [HJ.out] at hT
          exact ⟨⟨k + 1, hi, _, by omega, by go_num, rfl, hT, HF.out.set j (x - lo), HBl.out.setCell (p := ⟨g, j, none⟩) hg _, fun q c M' hq h => (HO.out q c M' hq h).other (p := ⟨g, j, none⟩) (Ne.symm hq) _⟩, by have := HJ.out; simp [intOf]; omega⟩
    · obtain hsk : s + k = L.length := by omega
      have hltI : ¬ ((s + k : Nat) : Int) < (L.length : Int) := by omega
      go_wp2
      go_end0
      exact ⟨rfl, M, HF.out, hMl, HI.out.2.1, HI.out.done hsk (by omega) HV.out, HBl.out, HO.out⟩

end Go.Proofs.YtgpoljbccimkjaaGreatDoor
