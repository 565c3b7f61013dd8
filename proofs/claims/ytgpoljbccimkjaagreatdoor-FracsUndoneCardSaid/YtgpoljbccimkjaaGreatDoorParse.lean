/- Walks: a number read. -/
import Derived.Test.YtgpoljbccimkjaaGreatDoorText
import Derived.Lib.ConvBytes
import Derived.Test.YtgpoljbccimkjaaGreatDoorOf
import Derived.Deep.RegionHeld3
import Derived.Deep.AppendLies
namespace Go.Proofs.YtgpoljbccimkjaaGreatDoor
set_option linter.unusedSimpArgs false
set_option linter.unusedVariables false
open Go.RowKit Go.Shelf

/-- A byte of a text, 0 where there is none. -/
def pb (l : List UInt8) (j : Nat) : Nat := (l.getD j 0).toNat
theorem pb_lt (l : List UInt8) (j : Nat) : pb l j < 256 := by unfold pb; exact UInt8.toNat_lt _
/-- Digits all? -/
def digitsB (l : List UInt8) : Bool := l.all fun c => decide (48 ≤ c.toNat) && decide (c.toNat ≤ 57)
/-- Digits, none needless? -/
def plainB (l : List UInt8) : Bool := digitsB l && (l == [48] || (!l.isEmpty && decide (pb l 0 ≠ 48)))

theorem digitsB_take {l : List UInt8} {k : Nat} (h : k < l.length) : digitsB (l.take (k + 1)) = (digitsB (l.take k) && (decide (48 ≤ pb l k) && decide (pb l k ≤ 57))) := by
  unfold digitsB pb
  rw [List.take_add_one, List.all_append, List.getElem?_eq_getElem h, List.getD_eq_getElem?_getD, List.getElem?_eq_getElem h]
  simp
theorem digitsB_false {l : List UInt8} {k : Nat} (h : k < l.length) (hb : pb l k < 48 ∨ 57 < pb l k) : digitsB l = false := by
  have h1 : digitsB l = (digitsB (l.take (k + 1)) && digitsB (l.drop (k + 1))) := by
    unfold digitsB
    rw [← List.all_append, List.take_append_drop]
  rw [h1, digitsB_take h]
  rcases hb with hb | hb
  · rw [decide_eq_false (show ¬ 48 ≤ pb l k by omega)]; simp
  · rw [decide_eq_false (show ¬ pb l k ≤ 57 by omega)]; simp

/-- The bytes of a text, as a row of block b. -/
def BytesAt (W : World) (b : Nat) (l : List UInt8) : Prop := ∀ j, j < l.length → W.cell? ⟨b, j, none⟩ = some (.int .u8 (pb l j))

theorem bytes_new (w : World) (l : List UInt8) : BytesAt (Lib.bytesWorld w 5 ⟨l.toArray⟩) w.heap.size l := by
  intro j hj
  have := Lib.bytesWorld_cell w 5 ⟨l.toArray⟩ j (by simpa [ByteArray.size] using hj)
  exact this
theorem bytes_below (w : World) (s : ByteArray) : Below w.heap.size w (Lib.bytesWorld w 5 s) :=
  by
  refine ⟨?_, ?_, ?_, ?_, ?_⟩
  · simp [Lib.bytesWorld, World.freeze, World.alloc, World.drew, -World.alloc_eq, -World.drew_eq]
  · simp [Lib.bytesWorld, World.freeze, World.alloc, World.drew, -World.alloc_eq, -World.drew_eq]
  · simp [Lib.bytesWorld, World.freeze, World.alloc, World.drew, -World.alloc_eq, -World.drew_eq]
  · rw [Lib.bytesWorld_size]; omega
  · exact fun k hk => Lib.bytesWorld_at_old w _ s k hk

set_option maxRecDepth 100000 in
set_option maxHeartbeats 2000000 in
theorem plain_any (l : List UInt8) (w : World) (hl : l.length ≤ 2000000) :
    Calls Tryz.prog 126 #[.string ⟨l.toArray⟩] w fun e w' => e = .returned (.bool (plainB l)) ∧ Below w.heap.size w w' := by
  have kc := Lib.run_convert_string_bytes (P := Tryz.prog) w 9 104 5 ⟨l.toArray⟩ (u := .string) rfl rfl rfl
  have hsz : (⟨l.toArray⟩ : ByteArray).size = l.length := by simp [ByteArray.size]
  rw [hsz] at kc
  generalize hW : Lib.bytesWorld w 5 ⟨l.toArray⟩ = W1 at kc
  have hB : Below w.heap.size w W1 := hW ▸ bytes_below w _
  have hC : BytesAt W1 w.heap.size l := hW ▸ bytes_new w l
  have HB := Lib.hid hB
  have HC := Lib.hid hC
  clear hW hB hC
  generalize grownCap w l.length 0 5 = c at kc
  go_enter Tryz.func126, Tryz.ntmps126
  go_wp2_with fail
  go_loop [8] (fun i => ∃ k : Nat, k ≤ l.length ∧ i = .int .i64 k ∧ digitsB (l.take k) = true) (fun i => l.length - (intOf i).toNat)
  case atStart => exact ⟨0, Nat.zero_le _, rfl, by simp [digitsB]⟩
  case round =>
    obtain ⟨k, hk, rfl, ht⟩ := hrel
    have HT := Lib.hid ht
    clear ht
    by_cases hlt : k < l.length
    · have hcell := HC.out k hlt
      have hp := pb_lt l k
      by_cases hb : 48 ≤ pb l k ∧ pb l k ≤ 57
      · obtain ⟨hb1, hb2⟩ := hb
        have h1 : decide ((pb l k : Int) < 48) = false := decide_eq_false (by omega)
        have h2 : decide ((57 : Int) < (pb l k : Int)) = false := decide_eq_false (by omega)
        have HB12 : Hid (48 ≤ pb l k ∧ pb l k ≤ 57) := ⟨hb1, hb2⟩
        clear hb1 hb2
        go_wp2_with fail
        go_round
        case rel => exact ⟨k + 1, by omega, by go_num, by rw [digitsB_take hlt, HT.out, decide_eq_true HB12.out.1, decide_eq_true HB12.out.2]; rfl⟩
        case measure => simp [intOf]; omega
      · have hb' : pb l k < 48 ∨ 57 < pb l k := by omega
        have HF : Hid (digitsB l = false) := digitsB_false hlt hb'
        clear hb
        rcases hb' with hb | hb
        · have hbI : (pb l k : Int) ≤ 47 := by omega
          go_wp2_with fail
          go_ret
          exact ⟨ret_bool (by unfold plainB; rw [HF.out]; rfl), HB.out⟩
        · have hbI : (58 : Int) ≤ (pb l k : Int) := by omega
          go_wp2_with fail
          go_ret
          exact ⟨ret_bool (by unfold plainB; rw [HF.out]; rfl), HB.out⟩
    · have hd : digitsB l = true := by have := HT.out; rwa [List.take_of_length_le (by omega)] at this
      have HD := Lib.hid hd
      clear hd
      have hr : plainB l = (l == [48] || (!l.isEmpty && decide (pb l 0 ≠ 48))) := by unfold plainB; rw [HD.out]; rfl
      have HR := Lib.hid hr
      clear hr
      by_cases h0 : l = []
      · subst h0
        go_wp2_with fail
        go_ret
        exact ⟨rfl, HB.out⟩
      · by_cases h1 : l = [48]
        · subst h1
          have hk1 : k = 1 := by simp at hk hlt; omega
          subst hk1
          go_wp2_with fail
          go_ret
          exact ⟨rfl, HB.out⟩
        · have q1 : (l == [48]) = false := by rw [beq_eq_false_iff_ne]; exact h1
          have q2 : l.isEmpty = false := by cases l; exact absurd rfl h0; rfl
          have q3 : 0 < l.length := List.length_pos_iff.2 h0
          have H0 := Lib.hid h0
          have H1 := Lib.hid h1
          clear h0 h1
          go_wp2_with fail
          go_ret
          refine ⟨ret_bool ?_, HB.out⟩
          rw [HR.out, q1, q2]
          have e1 : (⟨l.toArray⟩ : ByteArray)[0].toNat = pb l 0 := by unfold pb; rw [List.getD_eq_getElem?_getD, List.getElem?_eq_getElem q3]; rfl
          rw [e1, Bool.eq_iff_iff, bne_iff_ne]
          simp
          omega

end Go.Proofs.YtgpoljbccimkjaaGreatDoor

namespace Go.Proofs.YtgpoljbccimkjaaGreatDoor
set_option linter.unusedSimpArgs false
set_option linter.unusedVariables false

theorem snoc_induct {p : List UInt8 → Prop} (nil : p []) (snoc : ∀ l c, p l → p (l ++ [c])) (l : List UInt8) : p l := by
  have key : ∀ n, ∀ l : List UInt8, l.length = n → p l := by
    intro n
    induction n with
    | zero => intro l h; rw [List.eq_nil_of_length_eq_zero h]; exact nil
    | succ n ih =>
      intro l h
      have h0 : l ≠ [] := fun e => by subst e; simp at h
      rw [← List.dropLast_concat_getLast h0]
      exact snoc _ _ (ih _ (by simp [h]))
  exact key _ l rfl

/-- The number of digits. -/
def dec (l : List UInt8) : Nat := l.foldl (fun n c => n * 10 + (c.toNat - 48)) 0
theorem dec_nil : dec [] = 0 := rfl
theorem dec_snoc (l : List UInt8) (c : UInt8) : dec (l ++ [c]) = dec l * 10 + (c.toNat - 48) := by unfold dec; rw [List.foldl_append]; rfl
theorem dec_append (a b : List UInt8) : dec (a ++ b) = dec a * 10 ^ b.length + dec b := by
  induction b using snoc_induct with
  | nil => simp [dec_nil]
  | snoc b c ih =>
    rw [← List.append_assoc, dec_snoc, ih, dec_snoc, List.length_append, List.length_singleton, Nat.pow_succ]
    grind
theorem digitsB_append (a b : List UInt8) : digitsB (a ++ b) = (digitsB a && digitsB b) := by unfold digitsB; rw [List.all_append]
theorem digitsB_one (c : UInt8) : digitsB [c] = (decide (48 ≤ c.toNat) && decide (c.toNat ≤ 57)) := by simp [digitsB]
theorem digitsB_sub {l : List UInt8} (h : digitsB l = true) (k m : Nat) : digitsB ((l.take m).drop k) = true := by
  unfold digitsB at h ⊢
  rw [List.all_eq_true] at h ⊢
  exact fun x hx => h x (List.mem_of_mem_take (List.mem_of_mem_drop hx))
theorem dec_lt {l : List UInt8} (h : digitsB l = true) : dec l < 10 ^ l.length := by
  induction l using snoc_induct with
  | nil => simp [dec_nil]
  | snoc l c ih =>
    rw [digitsB_append, digitsB_one, Bool.and_eq_true, Bool.and_eq_true] at h
    have h1 := ih h.1
    have h2 := of_decide_eq_true h.2.2
    rw [dec_snoc, List.length_append, List.length_singleton, Nat.pow_succ]
    omega

theorem dec_step {l : List UInt8} {k : Nat} (hk : k < l.length) : dec (l.take (k + 1)) = dec (l.take k) * 10 + (pb l k - 48) := by
  unfold pb
  rw [List.take_add_one, List.getElem?_eq_getElem hk, Option.toList_some, dec_snoc, List.getD_eq_getElem?_getD, List.getElem?_eq_getElem hk]
  rfl
theorem digit_at {l : List UInt8} (h : digitsB l = true) {k : Nat} (hk : k < l.length) : 48 ≤ pb l k ∧ pb l k ≤ 57 := by
  unfold digitsB at h
  rw [List.all_eq_true] at h
  have := h _ (List.getElem_mem hk)
  rw [Bool.and_eq_true] at this
  unfold pb
  rw [List.getD_eq_getElem?_getD, List.getElem?_eq_getElem hk]
  exact ⟨of_decide_eq_true this.1, of_decide_eq_true this.2⟩
theorem dec_take_lt {l : List UInt8} (h : digitsB l = true) (k : Nat) : dec (l.take k) < 10 ^ k := by
  have h1 : digitsB (l.take k) = true := by have := digitsB_sub h 0 k; rwa [List.drop_zero] at this
  refine Nat.lt_of_lt_of_le (dec_lt h1) (Nat.pow_le_pow_right (by decide) (by rw [List.length_take]; omega))

/-- Nine digits more are one part more. -/
theorem dec_cut {l : List UInt8} {m c : Nat} (hm : m ≤ l.length) (hc : c ≤ m) : dec (l.take m) = dec (l.take c) * 10 ^ (m - c) + dec ((l.take m).drop c) := by
  have h1 : l.take m = l.take c ++ (l.take m).drop c := by
    have : l.take c = (l.take m).take c := by rw [List.take_take, Nat.min_eq_left hc]
    rw [this, List.take_append_drop]
  conv => lhs; rw [h1]
  rw [dec_append, List.length_drop, List.length_take, Nat.min_eq_left hm]

theorem decDigits_one_byte {n : Nat} (h : n < 10) : Lib.decDigits n = [UInt8.ofNat (48 + n)] := by
  rw [Lib.decDigits_one h]
theorem digit_toNat {d : Nat} (h : d < 10) : (UInt8.ofNat (48 + d)).toNat = 48 + d := by
  rw [UInt8.toNat_ofNat']; omega
theorem dec_decDigits (n : Nat) : dec (Lib.decDigits n) = n := by
  induction n using Nat.strongRecOn with
  | ind n ih =>
    by_cases h : n < 10
    · rw [decDigits_one_byte h]
      show 0 * 10 + ((UInt8.ofNat (48 + n)).toNat - 48) = n
      rw [digit_toNat h]; omega
    · rw [decDigits_step (by omega), dec_snoc, ih (n / 10) (by omega), digit_toNat (by omega)]; omega
theorem digitsB_decDigits (n : Nat) : digitsB (Lib.decDigits n) = true := by
  induction n using Nat.strongRecOn with
  | ind n ih =>
    by_cases h : n < 10
    · rw [decDigits_one_byte h, digitsB_one, digit_toNat h]; simp; omega
    · rw [decDigits_step (by omega), digitsB_append, ih (n / 10) (by omega), digitsB_one, digit_toNat (by omega)]; simp; omega
theorem decDigits_head {n : Nat} (h : 0 < n) : 48 < pb (Lib.decDigits n) 0 := by
  induction n using Nat.strongRecOn with
  | ind n ih =>
    by_cases h1 : n < 10
    · rw [decDigits_one_byte h1]
      show 48 < (UInt8.ofNat (48 + n)).toNat
      rw [digit_toNat h1]; omega
    · rw [decDigits_step (by omega)]
      have := ih (n / 10) (by omega) (by omega)
      unfold pb at this ⊢
      cases hd : Lib.decDigits (n / 10) with
      | nil => rw [hd] at this; simp at this
      | cons x t => rw [hd] at this; simpa using this
theorem decDigits_ne_nil (n : Nat) : Lib.decDigits n ≠ [] := by
  by_cases h : n < 10
  · rw [decDigits_one_byte h]; simp
  · rw [decDigits_step (by omega)]; simp
theorem plainB_decDigits (n : Nat) : plainB (Lib.decDigits n) = true := by
  unfold plainB
  rw [digitsB_decDigits]
  rcases Nat.eq_zero_or_pos n with rfl | h
  · rw [decDigits_one_byte (by decide)]; rfl
  · have h1 := decDigits_head h
    have h2 := decDigits_ne_nil n
    have h3 : (Lib.decDigits n).isEmpty = false := by
      cases hd : Lib.decDigits n with
      | nil => exact absurd hd h2
      | cons x t => rfl
    rw [h3]
    simp
    omega

theorem dec_pos {l : List UInt8} (h : digitsB l = true) (h0 : l ≠ []) (h1 : pb l 0 ≠ 48) : 0 < dec l := by
  induction l using snoc_induct with
  | nil => exact absurd rfl h0
  | snoc l c ih =>
    rw [digitsB_append, digitsB_one, Bool.and_eq_true, Bool.and_eq_true] at h
    have h2 := of_decide_eq_true h.2.1
    have h3 := of_decide_eq_true h.2.2
    rw [dec_snoc]
    by_cases hl : l = []
    · subst hl
      have : c.toNat ≠ 48 := by simpa [pb] using h1
      omega
    · have : pb l 0 ≠ 48 := by
        intro e
        apply h1
        cases l with
        | nil => exact absurd rfl hl
        | cons x t => simpa [pb] using e
      have := ih h.1 hl this
      omega
/-- Digits, none needless, are those of their number. -/
theorem decDigits_dec {l : List UInt8} (h : plainB l = true) : Lib.decDigits (dec l) = l := by
  unfold plainB at h
  rw [Bool.and_eq_true] at h
  obtain ⟨hd, h⟩ := h
  by_cases h48 : l = [48]
  · subst h48; show Lib.decDigits 0 = _; rw [decDigits_one_byte (by decide)]; rfl
  · have h0 : l ≠ [] ∧ pb l 0 ≠ 48 := by
      rw [Bool.or_eq_true] at h
      rcases h with h | h
      · exact absurd (by simpa using h) h48
      · rw [Bool.and_eq_true] at h
        refine ⟨fun e => ?_, by simpa using h.2⟩
        subst e; simp at h
    clear h h48
    obtain ⟨h0, h1⟩ := h0
    induction l using snoc_induct with
    | nil => exact absurd rfl h0
    | snoc l c ih =>
      rw [digitsB_append, digitsB_one, Bool.and_eq_true, Bool.and_eq_true] at hd
      have h2 := of_decide_eq_true hd.2.1
      have h3 := of_decide_eq_true hd.2.2
      rw [dec_snoc]
      have hc : UInt8.ofNat (48 + (c.toNat - 48)) = c := by
        apply UInt8.toNat_inj.1
        rw [digit_toNat (by omega)]; omega
      by_cases hl : l = []
      · subst hl
        rw [dec_nil, Nat.zero_mul, Nat.zero_add, decDigits_one_byte (by omega), hc]; rfl
      · have hp : pb l 0 ≠ 48 := by
          intro e
          apply h1
          cases l with
          | nil => exact absurd rfl hl
          | cons x t => simpa [pb] using e
        have hpos := dec_pos hd.1 hl hp
        rw [decDigits_step (by omega), show (dec l * 10 + (c.toNat - 48)) / 10 = dec l by omega, show (dec l * 10 + (c.toNat - 48)) % 10 = c.toNat - 48 by omega, ih hd.1 hl hp, hc]

theorem parse_step {D : List UInt8} {m c x : Nat} {P : List Nat} (hv : val P + 1000000000 ^ P.length * dec (D.take m) = dec D) (hcut : dec (D.take m) = dec (D.take c) * 10 ^ (m - c) + x) (hc : c = m - 9) :
    val (P ++ [x]) + 1000000000 ^ (P ++ [x]).length * dec (D.take c) = dec D := by
  rw [val_snoc, List.length_append, List.length_singleton, Nat.pow_succ, ← hv, hcut]
  by_cases h : 9 ≤ m
  · rw [show m - c = 9 by omega, show (10 : Nat) ^ 9 = 1000000000 from rfl]
    generalize 1000000000 ^ P.length = B
    generalize dec (D.take c) = d
    rw [Nat.mul_add, Nat.mul_assoc, Nat.mul_comm d 1000000000]
    omega
  · rw [show c = 0 by omega, List.take_zero, dec_nil, Nat.zero_mul, Nat.mul_zero, Nat.zero_add]
    omega

/-- Is it below 0? -/
def belowB (l : List UInt8) : Bool := Lib.hasPrefix l [45]
/-- The digits behind the hyphen. -/
def digitsOf (l : List UInt8) : List UInt8 := Lib.trimPrefix l [45]
/-- The error of a text. -/
def parseE (l : List UInt8) : Int := if plainB (digitsOf l) = false ∨ (belowB l = true ∧ digitsOf l = [48]) then 4 else if 200 < (digitsOf l).length then 3 else 0
/-- The number of a text, 0 with an error. -/
def parseZ (l : List UInt8) : Int := if parseE l = 0 then (if belowB l then -(dec (digitsOf l) : Int) else dec (digitsOf l)) else 0

end Go.Proofs.YtgpoljbccimkjaaGreatDoor

namespace Go.Proofs.YtgpoljbccimkjaaGreatDoor
set_option linter.unusedSimpArgs false
set_option linter.unusedVariables false
open Go.RowKit Go.Shelf

theorem CutPrefix_at (l : List UInt8) (w : World) : Calls Tryz.prog 125 #[.string ⟨l.toArray⟩, .string ⟨#[45]⟩] w fun e w' => e = .returned (.tuple #[.string ⟨(digitsOf l).toArray⟩, .bool (belowB l)]) ∧ w = w' :=
  (Tryz.strings_CutPrefix ⟨l.toArray⟩ ⟨#[45]⟩ w).mono fun _ _ h => ⟨h.1, h.2.symm⟩

/-- What Parse answers. -/
def ParseIs (n : Nat) (w' : World) (e : Ending) (k Z : Int) : Prop := ∃ s l v, e = .returned (.tuple #[.agg #[.bool s, v], .int .i64 k]) ∧ OwnL n w' v l ∧ okB s l = true ∧ valS s l = Z

/-- Is it no number? -/
def formB (l : List UInt8) : Bool := !(plainB (digitsOf l)) || (belowB l && digitsOf l == [48])
theorem parseE_form {l : List UInt8} (h : formB l = true) : parseE l = 4 := by
  unfold formB at h
  unfold parseE
  rw [if_pos]
  simpa using h
theorem parseE_long {l : List UInt8} (h : formB l = false) (h2 : 200 < (digitsOf l).length) : parseE l = 3 := by
  unfold formB at h
  unfold parseE
  rw [if_neg, if_pos h2]
  simpa using h
theorem parseE_ok {l : List UInt8} (h : formB l = false) (h2 : (digitsOf l).length ≤ 200) : parseE l = 0 := by
  unfold formB at h
  unfold parseE
  rw [if_neg, if_neg (by omega)]
  simpa using h

theorem parse_no {l : List UInt8} {k : Int} (n : Nat) (W : World) (h : parseE l = k) (hk : k ≠ 0) : ParseIs n W (.returned (.tuple #[.agg #[.bool false, .slice none 0 0], .int .i64 k])) (parseE l) (parseZ l) := by
  refine ⟨false, [], _, by rw [h], OwnL.nil _ _, rfl, ?_⟩
  unfold parseZ; rw [if_neg (by rw [h]; exact hk)]; rfl

set_option maxRecDepth 100000 in
set_option maxHeartbeats 4000000 in
theorem Parse_any (l : List UInt8) (w : World) (hl : l.length ≤ 2000000) :
    Calls Tryz.prog 27 #[.string ⟨l.toArray⟩] w fun e w' => ParseIs w.heap.size w' e (parseE l) (parseZ l) ∧ Below w.heap.size w w' := by
  obtain ⟨W0, e0, n1, hb0, hz0⟩ := box1 w (.bool false) (.slice none 0 0)
  have N1 := Lib.hid n1
  have E0 := Lib.hid e0
  have HB0 := Lib.hid hb0
  clear n1 e0 hb0
  have hD : (digitsOf l).length ≤ 2000000 := by unfold digitsOf Lib.trimPrefix; split; (· rw [List.length_drop]; omega); exact hl
  obtain ⟨i0, hi, hiz0, hiz1, hiz2⟩ := info_parts infoU32
  go_enter Tryz.func27, Tryz.ntmps27
  go_wp2_with fail
  rw [E0.out]
  refine (CutPrefix_at l _).mono ?_
  rintro e w1 ⟨rfl, rfl⟩
  go_upto_region 2 with fail
  go_cut [4, 5, 25] from 4 to 25 (fun d b c wx => d = .string ⟨(digitsOf l).toArray⟩ ∧ b = .bool (belowB l) ∧ c = .bool (formB l) ∧ Below W0.heap.size W0 wx)
  case first =>
    go_wp2_with fail
    refine (plain_any (digitsOf l) _ hD).mono ?_
    rintro e w1 ⟨rfl, hb1⟩
    have HB1 := Lib.hid hb1
    clear hb1
    cases hp : plainB (digitsOf l)
    · go_wp2_with fail
      go_meet
      exact ⟨rfl, rfl, by unfold formB; rw [hp]; rfl, HB1.out⟩
    · cases hB : belowB l
      · go_wp2_with fail
        go_meet
        exact ⟨rfl, by rw [hB], by unfold formB; rw [hp, hB]; rfl, HB1.out⟩
      · go_wp2_with fail
        go_meet
        exact ⟨rfl, by rw [hB], by unfold formB; rw [hp, hB]; simp, HB1.out⟩
  case rest =>
    obtain ⟨rfl, rfl, rfl, hb1⟩ := hcut
    have M1 := Lib.hid (N1.out.below hb1)
    have HB1 : Hid (Below w.heap.size w wc) := Below.step HB0.out hb1
    have hsz1 := hb1.size
    have HW1 := Lib.hid hb1
    clear hb1
    obtain ⟨r1, r2, r3, r4⟩ := M1.out
    cases hf : formB l
    · have HF := Lib.hid hf
      clear hf
      by_cases hlen : 200 < (digitsOf l).length
      · have HE := Lib.hid (parseE_long HF.out hlen)
        have hlenI : (201 : Int) ≤ ((digitsOf l).length : Int) := by omega
        clear hlen
        go_wp2_with fail
        refine bodyPost_ret (v := .tuple #[.agg #[.bool false, .slice none 0 0], .int .i64 3]) (by simp [results, Tryz.results27, go_sem, r1, r2]) rfl ⟨parse_no _ _ HE.out (by decide), (by repeat (first | exact Below.refl _ _ | with_reducible refine Below.drew ?_ | with_reducible refine below_drewN ?_ _ | with_reducible refine Below.setCell ?_ (by first | (simp; done) | (simp; omega) | omega) _ | with_reducible refine Below.alloc ?_ (by first | (simp; done) | (simp; omega) | omega) _ | (with_reducible refine Below.step ?_ HB1.out)))⟩
      · have hd2 : (digitsOf l).length ≤ 200 := Nat.not_lt.1 hlen
        have HE := Lib.hid (parseE_ok HF.out hd2)
        have hdig : digitsB (digitsOf l) = true := by
          have := HF.out
          unfold formB at this
          rw [Bool.or_eq_false_iff] at this
          have h1 := this.1
          unfold plainB at h1
          cases hq : digitsB (digitsOf l)
          · rw [hq] at h1; simp at h1
          · rfl
        have HDIG := Lib.hid hdig
        have hlenI : ((digitsOf l).length : Int) ≤ 200 := by omega
        clear hdig hlen hl hD
        have HZV : Hid (parseZ l = if belowB l then -(dec (digitsOf l) : Int) else dec (digitsOf l)) := by
          show parseZ l = _
          unfold parseZ
          rw [if_pos HE.out]
        go_wp2_with fail
        go_loopw [4, 6] (fun d v wr => ∃ (m : Nat) (P : List Nat), m ≤ (digitsOf l).length ∧ d = .string ⟨((digitsOf l).take m).toArray⟩ ∧ OwnL W0.heap.size wr v P ∧ P.length + m ≤ (digitsOf l).length ∧ (∀ x ∈ P, x < 1000000000) ∧ val P + 1000000000 ^ P.length * dec ((digitsOf l).take m) = dec (digitsOf l) ∧ Below W0.heap.size W0 wr) (fun d _ _ => match d with | .string q => q.size | _ => 0)
        case atStart => exact ⟨(digitsOf l).length, [], Nat.le_refl _, by rw [List.take_length], OwnL.nil _ _, by simp, by simp, by simp [val], HW1.out⟩
        case round =>
          obtain ⟨m, P, hm, rfl, hown, hP, hs, hv, hB⟩ := hrel
          have HV := Lib.hid hv
          have HS := Lib.hid hs
          have HB := Lib.hid hB
          have HO := Lib.hid hown
          have htl : ((digitsOf l).take m).length = m := by rw [List.length_take]; omega
          clear hv hs hB hown
          by_cases hm0 : 0 < m
          · obtain ⟨c, hc⟩ : ∃ c, c = m - 9 := ⟨_, rfl⟩
            have hcm : c ≤ m := by omega
            have hmax : max ((m : Int) - 9) 0 = (c : Int) := by omega
            have hmI : (m : Int) ≤ 200 := by omega
            have hcI : (c : Int) ≤ (m : Int) := by omega
            have HCM : Hid (c = m - 9) := hc
            obtain ⟨seg, hseg⟩ : ∃ seg, seg = ((digitsOf l).take m).drop c := ⟨_, rfl⟩
            have hsl : seg.length = m - c := by rw [hseg, List.length_drop, htl]
            have hsl9 : seg.length ≤ 9 := by omega
            have hsl1 : seg.length = m - (m - 9) := by omega
            have HSL := Lib.hid hsl
            have hq : ((⟨((digitsOf l).take m).toArray⟩ : ByteArray).extract c m) = ⟨seg.toArray⟩ := by
              apply ByteArray.ext
              apply Array.ext'
              rw [Lib.extract_data, hseg]
              simp [List.drop_take, List.take_take]
            have hdseg : digitsB seg = true := by rw [hseg]; exact digitsB_sub HDIG.out c m
            have HDS := Lib.hid hdseg
            have hcut := dec_cut (l := digitsOf l) (m := m) (c := c) hm hcm
            rw [← hseg] at hcut
            have HCUT := Lib.hid hcut
            have kc := Lib.run_convert_string_bytes (P := Tryz.prog) wr 9 104 5 ⟨seg.toArray⟩ (u := .string) rfl rfl rfl
            have hsz : (⟨seg.toArray⟩ : ByteArray).size = seg.length := by simp [ByteArray.size]
            rw [hsz, ← hq] at kc
            generalize hW : Lib.bytesWorld wr 5 ((⟨((digitsOf l).take m).toArray⟩ : ByteArray).extract c m) = W2 at kc
            rw [hq] at hW
            have hB2 : Below wr.heap.size wr W2 := hW ▸ bytes_below wr _
            have hC2 : BytesAt W2 wr.heap.size seg := hW ▸ bytes_new wr seg
            have HB2 := Lib.hid hB2
            have HC2 := Lib.hid hC2
            have hsz2 := hB2.size
            clear hW hB2 hC2 hc hq hseg hcut hdseg hsl hsl1
            generalize grownCap wr seg.length 0 5 = gc at kc
            have hc0 : (0 : Int) ≤ (c : Int) := Int.natCast_nonneg _
            go_wp2_with fail
            go_loop [8, 43] (fun p i => ∃ k : Nat, k ≤ seg.length ∧ i = .int .i64 k ∧ p = .int .u32 (dec (seg.take k) : Nat)) (fun _ i => seg.length - (intOf i).toNat)
            case atStart => exact ⟨0, Nat.zero_le _, rfl, rfl⟩
            case round =>
              obtain ⟨k, hk, rfl, rfl⟩ := hrel
              by_cases hlt : k < seg.length
              · have hcell := HC2.out k hlt
                obtain ⟨hb1, hb2⟩ := digit_at HDS.out hlt
                have hd1 := dec_take_lt HDS.out k
                have hd2' : 10 ^ k ≤ 10 ^ 8 := Nat.pow_le_pow_right (by decide) (by omega)
                have hd3 : (dec (seg.take k) : Int) ≤ 99999999 := by omega
                have hd4 : (48 : Int) ≤ (pb seg k : Int) := by omega
                have hd5 : (pb seg k : Int) ≤ 57 := by omega
                clear hd1 hd2' hb1 hb2
                go_wp2_with fail
                go_round
                case rel => exact ⟨k + 1, by omega, by go_num, by rw [dec_step hlt]; congr 1; omega⟩
                case measure => simp [intOf]; omega
              · have hkk : k = seg.length := by omega
                subst hkk
                rw [List.take_length]
                have hdl := dec_lt HDS.out
                have hdp : 10 ^ seg.length ≤ 10 ^ 9 := Nat.pow_le_pow_right (by decide) hsl9
                have hdx : dec seg < 1000000000 := by omega
                have HDX := Lib.hid hdx
                have hdxI : (dec seg : Int) ≤ 999999999 := by omega
                clear hdl hdp hdx
                have ho2 := HO.out.below HB2.out
                have hrow := ho2.row
                have HO2 := Lib.hid ho2
                clear ho2
                have hPl : P.length ≤ 200 := by omega
                have hszW : W0.heap.size ≤ W2.heap.size := Nat.le_trans HB.out.size hsz2
                go_wp2_with fail
                go_region_held3 (fun _ => True) (exact trivial) ((refine step_append_lies _ (by rfl) _ _ _ (by rfl) W0.heap.size 99 i0 (.int .u32 0) 1 4 underU32s hi hiz0 hiz1 hiz2 rfl (by decide) _ _ _ (by rfl) ((hrow.alloc _).drew) ⟨W2.heap.size, 0, none⟩ 1 1 [.int .u32 (dec seg : Nat)] (by rfl) (by rfl) (World.news_of_block (cs := #[.int .u32 (dec seg : Nat)]) (t := 99) (fr := (0, 0)) (heap_alloc_new W2 _)) (by simp [Value.oneCell']) (by omega) (by unfold maxLen; omega) (by omega) (by simp; omega) (W2.heap.size + 1) (by simp) ?_; intro gg cap w3 hown3 hgrow hat hlt3))
                go_wp2_with fail
                have hB3 : Below W0.heap.size W0 w3 := (((HB.out.trans (HB2.out.mono HB.out.size)).alloc hszW _).drew).grown hgrow (by simp; omega) (fun k e => (hrow.lt k e).1)
                have hOn : OwnL W0.heap.size w3 (.slice (some ⟨gg, 0, none⟩) (P.length + 1) cap) (P ++ [dec seg]) := ⟨by rw [u32s_snoc, List.length_append, List.length_singleton]; exact hown3, fun x hx => by
                  rcases List.mem_append.1 hx with hx | hx
                  · exact HO2.out.2 x hx
                  · simp at hx; have := HDX.out; omega⟩
                have hex : ((⟨((digitsOf l).take m).toArray⟩ : ByteArray).extract 0 c) = ⟨((digitsOf l).take c).toArray⟩ := by
                  apply ByteArray.ext
                  apply Array.ext'
                  rw [Lib.extract_data]
                  show ((((digitsOf l).take m).drop 0).take (c - 0)) = (digitsOf l).take c
                  rw [List.drop_zero, List.take_take, Nat.sub_zero, Nat.min_eq_left hcm]
                refine ⟨⟨c, P ++ [dec seg], by omega, by rw [hex], hOn, by have := HCM.out; simp; omega, fun x hx => ?_, ?_, hB3⟩, ?_⟩
                · rcases List.mem_append.1 hx with hx | hx
                  · exact HS.out x hx
                  · simp at hx; have := HDX.out; omega
                · exact parse_step HV.out HCUT.out HCM.out
                · simp only [hex, ByteArray.size]
                  rw [List.size_toArray, List.size_toArray, htl, List.length_take]
                  have := HCM.out
                  omega
          · obtain rfl : m = 0 := by omega
            rw [List.take_zero]
            have hv0 : val P = dec (digitsOf l) := by have := HV.out; rw [List.take_zero, dec_nil] at this; omega
            have HV0 := Lib.hid hv0
            have hvl := HO.out.lim
            obtain ⟨a9, k9, rfl, -⟩ := hvl
            clear hv0
            go_wp2_with fail
            refine (number_is (belowB l) _ P _ _ HO.out HS.out).mono ?_
            rintro e w5 ⟨⟨s5, l5, v5, rfl, hv5, ho5, hz5⟩, hb5⟩
            have HV5 := Lib.hid hv5
            have HO5 := Lib.hid ho5
            have HZ5 := Lib.hid hz5
            have hv5l := hv5.lim
            have HB5 := Lib.hid (Below.step (Below.step HB0.out HB.out) hb5)
            obtain ⟨t1, t2, t3, t4⟩ := (N1.out.below HB.out).below hb5
            clear hv5 ho5 hz5 hb5
            obtain ⟨a5, k5, rfl, -⟩ := hv5l
            go_wp2_with fail
            refine bodyPost_ret (v := .tuple #[.agg #[.bool s5, .slice a5 l5.length k5], .int .i64 0]) (by simp [results, Tryz.results27, go_sem, t1, t2]) rfl ⟨⟨s5, l5, _, by rw [HE.out], ((HV5.out.setBox hz0 _ _).setBox hz0 _ _).mono (by omega), HO5.out, ?_⟩, (by repeat (first | exact Below.refl _ _ | with_reducible refine Below.drew ?_ | with_reducible refine below_drewN ?_ _ | with_reducible refine Below.setCell ?_ (by first | (simp; done) | (simp; omega) | omega) _ | with_reducible refine Below.alloc ?_ (by first | (simp; done) | (simp; omega) | omega) _ | (with_reducible refine Below.step ?_ HB5.out)))⟩
            rw [HZ5.out, HV0.out, HZV.out]
    · have HE := Lib.hid (parseE_form hf)
      clear hf
      go_wp2_with fail
      refine bodyPost_ret (v := .tuple #[.agg #[.bool false, .slice none 0 0], .int .i64 4]) (by simp [results, Tryz.results27, go_sem, r1, r2]) rfl ⟨parse_no _ _ HE.out (by decide), (by repeat (first | exact Below.refl _ _ | with_reducible refine Below.drew ?_ | with_reducible refine below_drewN ?_ _ | with_reducible refine Below.setCell ?_ (by first | (simp; done) | (simp; omega) | omega) _ | with_reducible refine Below.alloc ?_ (by first | (simp; done) | (simp; omega) | omega) _ | (with_reducible refine Below.step ?_ HB1.out)))⟩

end Go.Proofs.YtgpoljbccimkjaaGreatDoor
