/- Walk of the reference of layer 1: a number's text. -/
import Derived.Test.YtgpoljbccimkjaaGreatDoorRefU
import Derived.Test.YtgpoljbccimkjaaGreatDoorParse
import Derived.Test.YtgpoljbccimkjaaGreatDoorRefWMath
namespace Go.Proofs.YtgpoljbccimkjaaGreatDoor
set_option linter.unusedSimpArgs false
set_option linter.unusedVariables false
open Go.RowKit Go.Shelf

set_option maxRecDepth 100000 in
theorem run_pb (l : List UInt8) (k : Nat) (w : World) (h : k < l.length) : (Instr.index 9 (.string ⟨l.toArray⟩) (.int .i64 (k : Int))).run Tryz.prog w = .ok (.int .u8 (pb l k : Nat)) w := by
  rw [run_index_string _ _ _ _ _ rfl]
  have hs : (⟨l.toArray⟩ : ByteArray).size = l.length := by simp [ByteArray.size]
  have hi : (0 : Int) ≤ (k : Int) ∧ ((k : Int) < ((⟨l.toArray⟩ : ByteArray).size : Int)) := by rw [hs]; omega
  rw [dif_pos hi]
  congr 3
  unfold pb
  rw [List.getD_eq_getElem?_getD, List.getElem?_eq_getElem h]
  rfl

set_option maxRecDepth 100000 in
set_option maxHeartbeats 2000000 in
theorem rDigits_any (l : List UInt8) (w : World) (hl : l.length ≤ 2000000) :
    Calls Tryz.prog 127 #[.string ⟨l.toArray⟩] w fun e w' => e = .returned (.bool (plainB l)) ∧ Below w.heap.size w w' := by
  go_enter Tryz.func127, Tryz.ntmps127
  go_wp2_with fail
  go_loop [3] (fun i => ∃ k : Nat, k ≤ l.length ∧ i = .int .i64 k ∧ digitsB (l.take k) = true) (fun i => l.length - (intOf i).toNat)
  case atStart => exact ⟨0, Nat.zero_le _, rfl, by simp [digitsB]⟩
  case round =>
    obtain ⟨k, hk, rfl, ht⟩ := hrel
    have HT := Lib.hid ht
    clear ht
    by_cases hlt : k < l.length
    · have hix := fun W => run_pb l k W hlt
      have hp := pb_lt l k
      by_cases hb : 48 ≤ pb l k ∧ pb l k ≤ 57
      · obtain ⟨hb1, hb2⟩ := hb
        have h1 : decide ((pb l k : Int) < 48) = false := decide_eq_false (by omega)
        have h2 : decide ((57 : Int) < (pb l k : Int)) = false := decide_eq_false (by omega)
        have HB12 : Hid (48 ≤ pb l k ∧ pb l k ≤ 57) := ⟨hb1, hb2⟩
        clear hb1 hb2
        go_wp2_with fail
        go_round
        case rel => exact ⟨k + 1, by omega, by go_num, by rw [digitsB_take hlt, HT.out, decide_eq_true HB12.out.1, decide_eq_true HB12.out.2]; rfl⟩
        case measure => simp [intOf]; omega
      · have hb' : pb l k < 48 ∨ 57 < pb l k := by omega
        have HF : Hid (digitsB l = false) := digitsB_false hlt hb'
        clear hb
        rcases hb' with hb | hb
        · have hbI : (pb l k : Int) ≤ 47 := by omega
          go_wp2_with fail
          go_ret
          exact ⟨ret_bool (by unfold plainB; rw [HF.out]; rfl), Below.refl _ _⟩
        · have hbI : (58 : Int) ≤ (pb l k : Int) := by omega
          go_wp2_with fail
          go_ret
          exact ⟨ret_bool (by unfold plainB; rw [HF.out]; rfl), Below.refl _ _⟩
    · have hd : digitsB l = true := by have := HT.out; rwa [List.take_of_length_le (by omega)] at this
      have HD := Lib.hid hd
      clear hd
      have hr : plainB l = (l == [48] || (!l.isEmpty && decide (pb l 0 ≠ 48))) := by unfold plainB; rw [HD.out]; rfl
      have HR := Lib.hid hr
      clear hr
      by_cases h0 : l = []
      · subst h0
        go_wp2_with fail
        go_ret
        exact ⟨rfl, Below.refl _ _⟩
      · have q0 : (l == []) = false := by rw [beq_eq_false_iff_ne]; exact h0
        have q3 : 0 < l.length := List.length_pos_iff.2 h0
        have hix := fun W => run_pb l 0 W q3
        have q2 : l.isEmpty = false := by cases l; exact absurd rfl h0; rfl
        have H0 := Lib.hid h0
        clear h0
        by_cases h1 : l.length = 1
        · have h1I : ((l.length : Int) == 1) = true := by rw [beq_iff_eq]; omega
          have HV : Hid (plainB l = true) := by
            show _ = _
            rw [HR.out, q2]
            obtain ⟨x, rfl⟩ : ∃ x, l = [x] := by
              match l, h1 with
              | [x], _ => exact ⟨x, rfl⟩
            by_cases hx : x = 48
            · subst hx; rfl
            · have : pb [x] 0 ≠ 48 := by
                unfold pb
                intro e
                exact hx (UInt8.toNat_inj.1 e)
              simp [this]
          clear h1
          go_wp2_with fail
          go_ret
          exact ⟨ret_bool HV.out.symm, Below.refl _ _⟩
        · have h1I : ((l.length : Int) == 1) = false := by rw [beq_eq_false_iff_ne]; omega
          have q1 : (l == [48]) = false := by rw [beq_eq_false_iff_ne]; intro e; rw [e] at h1; exact h1 rfl
          have HV : Hid (plainB l = !((pb l 0 : Int) == 48)) := by
            show _ = _
            rw [HR.out, q2, q1]
            rw [Bool.eq_iff_iff]
            simp
            omega
          clear h1
          go_wp2_with fail
          go_ret
          refine ⟨ret_bool ?_, Below.refl _ _⟩
          have e1 : (⟨l.toArray⟩ : ByteArray)[0].toNat = pb l 0 := by unfold pb; rw [List.getD_eq_getElem?_getD, List.getElem?_eq_getElem q3]; rfl
          rw [HV.out, e1, Bool.eq_iff_iff, bne_iff_ne]
          simp

end Go.Proofs.YtgpoljbccimkjaaGreatDoor

namespace Go.Proofs.YtgpoljbccimkjaaGreatDoor
set_option linter.unusedSimpArgs false
set_option linter.unusedVariables false
open Go.RowKit Go.Shelf

set_option maxRecDepth 100000 in
theorem run_digit (d : Nat) (h : d < 10) (W : World) : (Instr.slice 9 (.string ⟨#[48, 49, 50, 51, 52, 53, 54, 55, 56, 57]⟩) (some (.int .u32 (d : Int))) (some (.int .u32 ((d : Int) + 1))) none).run Tryz.prog W = .ok (.string ⟨#[UInt8.ofNat (48 + d)]⟩) W := by
  have hd : d = 0 ∨ d = 1 ∨ d = 2 ∨ d = 3 ∨ d = 4 ∨ d = 5 ∨ d = 6 ∨ d = 7 ∨ d = 8 ∨ d = 9 := by omega
  rcases hd with rfl | rfl | rfl | rfl | rfl | rfl | rfl | rfl | rfl | rfl <;> rfl
theorem run_ahead (x : UInt8) (l : List UInt8) (h : l.length ≤ 9000000) (W : World) : (Op.stringOp .add ⟨#[x]⟩ ⟨l.toArray⟩).run Tryz.prog W = .ok (.string ⟨(x :: l).toArray⟩) W := by
  have e : (⟨#[x]⟩ : ByteArray) ++ ⟨l.toArray⟩ = ⟨(x :: l).toArray⟩ := by
    rw [ByteArray.ext_iff]
    simp [ByteArray.data_append]
  rw [run_string_add_sum _ _ _ (by simp [ByteArray.size]; omega), e]

set_option maxRecDepth 100000 in
set_option maxHeartbeats 4000000 in
theorem rText_any (s : Bool) (v : Value) (l : List Nat) (w : World) (h : Lim w v l) (hl : l.length ≤ 900000) :
    Calls Tryz.prog 33 #[.agg #[.bool s, v]] w fun e w' => e = .returned (.string ⟨(txt (fitS s l) (fitL s l)).toArray⟩) ∧ Below w.heap.size w w' := by
  have HL : Hid (∀ W, Below w.heap.size w W → Lim W v l) := fun W hb => h.below hb
  have HN : Hid ((fitL s l).length ≤ 900000) := by have := fitL_le s l; show _ ≤ _; omega
  obtain ⟨a, c, rfl, -⟩ := h
  obtain ⟨W0, e0, n1, hb0, hz0⟩ := box1 w (.bool s) (.slice a l.length c)
  have N1 := n1.v.keep
  have B0 := Lib.hid hb0
  obtain ⟨c0, c1, -, -⟩ := n1
  clear hb0 hz0 hl
  go_enter Tryz.func33, Tryz.ntmps33
  go_wp2_with fail
  clear e0
  refine (rFit_any s _ l _ (HL.out _ B0.out)).mono ?_
  rintro e w1 ⟨v1, rfl, hl1, hb1⟩
  have hl1' := hl1
  obtain ⟨a1, k1, rfl, q1, q2, -⟩ := hl1
  unfold maxLen at q2
  have n1 := N1.out _ hb1
  obtain ⟨W2, e2, st2, bx2⟩ := n1.store (ys := [.bool (fitS s l), .slice a1 (fitL s l).length k1]) rfl rfl
  simp only [setAll] at e2
  have HL2 := Lib.hid (st2.lim _ _ hl1')
  obtain ⟨d0, d1, f0, f1⟩ := n1.c2
  obtain ⟨c0, c1, -, -⟩ := bx2.c2
  have B2 := Lib.hid (st2.below w (by omega) (Below.step B0.out hb1))
  obtain ⟨S, hS⟩ : ∃ S, fitS s l = S := ⟨_, rfl⟩
  obtain ⟨L, hL⟩ : ∃ L, fitL s l = L := ⟨_, rfl⟩
  have HSL : Hid (fitS s l = S ∧ fitL s l = L) := ⟨hS, hL⟩
  have HS := Lib.hid (fit_small s l)
  have HT := Lib.hid (fit_top s l)
  have HO := Lib.hid (okB_fit s l)
  rw [hS, hL] at HO
  rw [hL] at HS HT HN HL2
  rw [hS] at c0
  rw [hL] at c1
  rw [hS, hL] at e2
  rw [hS, hL]
  have hN := HN.out
  clear hb1 n1 st2 bx2 hl1' hS hL N1
  go_wp2_with fail
  clear e2 d0 d1 f0 f1
  rcases Nat.eq_zero_or_pos L.length with h0 | hpos
  · obtain rfl : L = [] := List.eq_nil_of_length_eq_zero h0
    have hS : S = false := (okB_iff.1 HO.out).2.2 rfl
    subst hS
    clear h0
    go_loop [3, 4] (fun x i => x = .string ⟨#[]⟩ ∧ i = .int .i64 0) (fun _ _ => 0)
    case atStart => exact ⟨rfl, rfl⟩
    case round =>
      obtain ⟨rfl, rfl⟩ := hrel
      go_wp2_with fail
      go_ret
      exact ⟨by rw [HSL.out.1, HSL.out.2, txt_nil]; rfl, B2.out⟩
  · go_loop [3, 4] (fun x i => ∃ j : Nat, j ≤ L.length ∧ i = .int .i64 j ∧ x = .string ⟨(revT L j).toArray⟩) (fun _ i => L.length - (intOf i).toNat)
    case atStart => exact ⟨0, Nat.zero_le _, rfl, by rw [revT_zero]⟩
    case round =>
      obtain ⟨j, hj, rfl, rfl⟩ := hrel
      by_cases hlt : j < L.length
      · have hcell := HL2.out.cell hlt
        obtain ⟨b, o, rfl, hc⟩ := hcell
        have hltI : (j : Int) < (L.length : Int) := by omega
        obtain ⟨p, hp⟩ : ∃ p, pt L j = p := ⟨_, rfl⟩
        rw [hp] at hc
        have HP := Lib.hid hp
        have hp9 : p < 1000000000 := by rw [← hp]; exact pt_lt (by decide) HS.out j
        clear hp
        go_wp2_with fail
        go_loop [3, 5, 6] (fun x n k => ∃ m : Nat, m ≤ 9 ∧ k = .int .i64 m ∧ n = .int .u32 ((p / 10 ^ m : Nat) : Int) ∧ x = .string ⟨(padK (9 * j + m) (val L)).toArray⟩ ∧ Hid (j + 1 < L.length ∨ m = 0 ∨ 0 < p / 10 ^ (m - 1))) (fun _ _ k => 9 - (intOf k).toNat)
        case atStart => exact ⟨0, by omega, rfl, by simp, by unfold revT; rw [if_pos hlt]; rfl, .inr (.inl rfl)⟩
        case round =>
          obtain ⟨m, hm, rfl, rfl, rfl, hx⟩ := hrel
          obtain ⟨n, hn⟩ : ∃ n, p / 10 ^ m = n := ⟨_, rfl⟩
          have HNN := Lib.hid hn
          rw [hn]
          have hn9 : n < 1000000000 := by rw [← hn]; exact Nat.lt_of_le_of_lt (Nat.div_le_self _ _) hp9
          clear hn
          obtain ⟨x, hX⟩ : ∃ x, padK (9 * j + m) (val L) = x := ⟨_, rfl⟩
          have HX := Lib.hid hX
          have hxl : x.length ≤ 9000000 := by rw [← hX, padK_length]; omega
          rw [hX]
          clear hX
          by_cases hgo : m < 9 ∧ (0 < n ∨ j + 1 < L.length)
          · obtain ⟨hm9, hor⟩ := hgo
            obtain ⟨d, hd⟩ : ∃ d, n % 10 = d := ⟨_, rfl⟩
            have hd10 : d < 10 := by omega
            have hdI : (n : Int) % 10 = (d : Int) := by omega
            have hnI : (n : Int) / 10 = ((n / 10 : Nat) : Int) := by omega
            obtain ⟨n', hn'⟩ : ∃ n', n / 10 = n' := ⟨_, rfl⟩
            rw [hn'] at hnI
            obtain ⟨ch, hch⟩ : ∃ ch, UInt8.ofNat (48 + d) = ch := ⟨_, rfl⟩
            have hdg := fun W => run_digit d hd10 W
            rw [hch] at hdg
            have hah := fun W => run_ahead ch x hxl W
            have hN' : p / 10 ^ (m + 1) = n' := by rw [Nat.pow_succ, ← Nat.div_div_eq_div_mul, HNN.out, hn']
            have hX' : padK (9 * j + (m + 1)) (val L) = ch :: x := by
              rw [← hch, show 9 * j + (m + 1) = 9 * j + m + 1 by omega, padK_cons, val_digit HS.out hlt hm9, HP.out, HNN.out, hd, HX.out]
            have HR : Hid (p / 10 ^ (m + 1) = n' ∧ padK (9 * j + (m + 1)) (val L) = ch :: x ∧ (j + 1 < L.length ∨ m + 1 = 0 ∨ 0 < p / 10 ^ (m + 1 - 1))) := ⟨hN', hX', by rw [Nat.add_sub_cancel, HNN.out]; omega⟩
            have hmI : decide ((m : Int) < 9) = true := decide_eq_true (by omega)
            clear hN' hX' hd hn' hch
            by_cases hn0 : 0 < n
            · have hnp : decide ((0 : Int) < (n : Int)) = true := decide_eq_true (by omega)
              clear hor
              go_wp2_with fail
              go_round
              case rel => exact ⟨m + 1, by omega, by go_num, by rw [HR.out.1], by rw [HR.out.2.1], HR.out.2.2⟩
              case measure => simp [intOf]; omega
            · have hnp : decide ((0 : Int) < (n : Int)) = false := decide_eq_false (by omega)
              have hjl : decide ((j : Int) + 1 < (L.length : Int)) = true := decide_eq_true (by omega)
              clear hor
              go_wp2_with fail
              go_round
              case rel => exact ⟨m + 1, by omega, by go_num, by rw [HR.out.1], by rw [HR.out.2.1], HR.out.2.2⟩
              case measure => simp [intOf]; omega
          · have hres : x = revT L (j + 1) := by
              rw [← HX.out]
              by_cases hj1 : j + 1 < L.length
              · obtain rfl : m = 9 := by omega
                exact revT_next hj1
              · have hn0 : n = 0 := by
                  by_cases hm9 : m < 9
                  · omega
                  · obtain rfl : m = 9 := by omega
                    rw [← HNN.out]
                    exact Nat.div_eq_of_lt (by simpa using hp9)
                refine revT_last HS.out (by omega) (by rw [HP.out, HNN.out, hn0]) ?_ ?_
                · rw [HP.out]
                  rcases hx with h | h | h
                  · omega
                  · exact .inl h
                  · exact .inr h
                · rcases HT.out with h | h
                  · rw [h] at hpos; simp at hpos
                  · rwa [show L.length - 1 = j by omega] at h
            have HRES := Lib.hid hres
            clear hres
            by_cases hm9 : m < 9
            · have hn0 : ¬ 0 < n := fun h => hgo ⟨hm9, .inl h⟩
              have hj1 : ¬ j + 1 < L.length := fun h => hgo ⟨hm9, .inr h⟩
              have hmI : decide ((m : Int) < 9) = true := decide_eq_true (by omega)
              have hnp : decide ((0 : Int) < (n : Int)) = false := decide_eq_false (by omega)
              have hjl : decide ((j : Int) + 1 < (L.length : Int)) = false := decide_eq_false (by omega)
              clear hgo
              go_wp2_with fail
              go_round
              case rel => exact ⟨j + 1, by omega, by go_num, by rw [HRES.out]⟩
              case measure => simp [intOf]; omega
            · have hmI : decide ((m : Int) < 9) = false := decide_eq_false (by omega)
              clear hgo
              go_wp2_with fail
              go_round
              case rel => exact ⟨j + 1, by omega, by go_num, by rw [HRES.out]⟩
              case measure => simp [intOf]; omega
      · obtain rfl : j = L.length := by omega
        have hr : revT L L.length = Lib.decDigits (val L) := by unfold revT; rw [if_neg (by omega), if_neg (by omega)]
        have hlen := revT_len HS.out HT.out _ (Nat.le_refl _)
        rw [hr] at hlen ⊢
        obtain ⟨D, hD⟩ : ∃ D, Lib.decDigits (val L) = D := ⟨_, rfl⟩
        have HD : Hid (txt S L = if S then 45 :: D else D) := by show _ = _; unfold txt; rw [hD]
        have hne : (D == []) = false := by rw [beq_eq_false_iff_ne, ← hD]; exact dec_some _
        rw [hD] at hlen ⊢
        have hD9 : D.length ≤ 9000000 := by omega
        have hah := fun W => run_ahead 45 D hD9 W
        clear hr hD hlt
        cases S with
        | true =>
          go_wp2_with fail
          go_ret
          exact ⟨by rw [HSL.out.1, HSL.out.2, HD.out]; rfl, B2.out⟩
        | false =>
          go_wp2_with fail
          go_ret
          exact ⟨by rw [HSL.out.1, HSL.out.2, HD.out]; rfl, B2.out⟩

end Go.Proofs.YtgpoljbccimkjaaGreatDoor
