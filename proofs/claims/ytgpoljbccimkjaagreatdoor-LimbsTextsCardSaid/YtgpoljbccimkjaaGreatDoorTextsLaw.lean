/- Walk: the law LimbsTexts. -/
import Derived.Test.YtgpoljbccimkjaaGreatDoorOwn2
import Derived.Test.YtgpoljbccimkjaaGreatDoorRefY
import Derived.Test.YtgpoljbccimkjaaGreatDoorBackT
import Derived.Test.YtgpoljbccimkjaaGreatDoorTab
namespace Go.Proofs.YtgpoljbccimkjaaGreatDoor
set_option linter.unusedSimpArgs false
set_option linter.unusedVariables false
open Go.RowKit Go.Shelf

theorem great1 {m : Int} {most x b : Nat} {w : World} {a1 : Option Addr} {k1 : Nat} {r : Bool} (hm : m = most) (hm2 : most ≤ 1000000) (hx : x ≤ 9223372036854775807) (c1 : w.cell? ⟨b, 1, none⟩ = some (.slice a1 x k1)) (hr : decide (most < x) = r) :
    Calls Tryz.prog 14 #[.int .i64 m, .slice (some ⟨b, 0, none⟩) 1 1] w fun e w' => e = .returned (.bool r) ∧ w = w' := by
  subst hm
  refine (greatNum_any most b [x] w (by simp) hm2 ?_).mono ?_
  · intro i hi
    have h : i = 0 := by simpa using hi
    subst h
    exact ⟨hx, _, _, c1⟩
  · rintro e w' ⟨rfl, rfl⟩
    refine ⟨?_, rfl⟩
    rw [← hr]
    simp

set_option maxHeartbeats 1000000 in
theorem Beyond_one (n : Nat) (b : Nat) (w : World) (hn : n ≤ 9223372036854775807) (hc : w.cell? ⟨b, 0, none⟩ = some (.int .i64 n)) :
    Calls Tryz.prog 24 #[.slice (some ⟨b, 0, none⟩) 1 1] w fun e w' => e = .returned (.bool (decide (1048576 < n))) ∧ w = w' := by
  by_cases hb : 1048576 < n
  · have hbI : (1048577 : Int) ≤ (n : Int) := by omega
    have HB : Hid (decide (1048576 < n) = true) := decide_eq_true hb
    clear hb
    go_enter Tryz.func24, Tryz.ntmps24
    go_wp2_with fail
    go_loop [3, 4] (fun s i => s = .int .i64 0 ∧ i = .int .i64 0) (fun _ _ => 0)
    case atStart => exact ⟨rfl, rfl⟩
    case round =>
      obtain ⟨rfl, rfl⟩ := hrel
      go_wp2_with fail
      go_ret
      exact ⟨ret_bool HB.out.symm, rfl⟩
  · have hbI : (n : Int) ≤ (1048576 : Int) := by omega
    have HB : Hid (decide (1048576 < n) = false) := decide_eq_false hb
    clear hb
    go_enter Tryz.func24, Tryz.ntmps24
    go_wp2_with fail
    go_loop [3, 4] (fun s i => (s = .int .i64 0 ∧ i = .int .i64 0) ∨ (s = .int .i64 n ∧ i = .int .i64 1)) (fun _ i => (1 - intOf i).toNat)
    case atStart => exact .inl ⟨rfl, rfl⟩
    case round =>
      rcases hrel with ⟨rfl, rfl⟩ | ⟨rfl, rfl⟩
      · go_wp2_with fail
        go_round
        case rel => exact .inr ⟨rfl, rfl⟩
        case measure => simp [intOf]
      · go_wp2_with fail
        go_ret
        exact ⟨ret_bool HB.out.symm, rfl⟩

theorem Check_u {u : Value} {w : World} {s : Bool} {a : Option Addr} {c : Nat} {l : List Nat} (h : IsU s a c l u w) :
    Calls Tryz.prog 30 #[u] w fun e w' => e = .returned (.bool (okB s l)) ∧ Below w.heap.size w w' := by
  obtain ⟨rfl, h⟩ := h
  exact check_any s _ l w h
theorem rCheck_u {u : Value} {w : World} {s : Bool} {a : Option Addr} {c : Nat} {l : List Nat} (h : IsU s a c l u w) :
    Calls Tryz.prog 31 #[u] w fun e w' => e = .returned (.bool (okB s l)) ∧ Below w.heap.size w w' := by
  obtain ⟨rfl, h⟩ := h
  exact rCheck_any s _ l w h
theorem Text_u {u : Value} {w : World} {s : Bool} {a : Option Addr} {c : Nat} {l : List Nat} (h : IsU s a c l u w) (hl : l.length ≤ 200) (ht : Tab w) :
    Calls Tryz.prog 32 #[u] w fun e w' => e = .returned (.string ⟨(txt (fitS s l) (fitL s l)).toArray⟩) ∧ Below w.heap.size w w' := by
  obtain ⟨rfl, h⟩ := h
  exact Text_any s _ l w h (by omega) ht
theorem rText_u {u : Value} {w : World} {s : Bool} {a : Option Addr} {c : Nat} {l : List Nat} (h : IsU s a c l u w) (hl : l.length ≤ 200) :
    Calls Tryz.prog 33 #[u] w fun e w' => e = .returned (.string ⟨(txt (fitS s l) (fitL s l)).toArray⟩) ∧ Below w.heap.size w w' := by
  obtain ⟨rfl, h⟩ := h
  exact rText_any s _ l w h (by omega)
theorem rOf_v {u : Value} {w : World} {n : Int} (h : u = .int .i64 n) (h1 : -9223372036854775808 ≤ n) (h2 : n ≤ 9223372036854775807) :
    Calls Tryz.prog 34 #[u] w fun e w' => AnsAt w' e 3 n ∧ Below w.heap.size w w' := by
  subst h
  exact rOf_num n w h1 h2
theorem Back_both (s : Bool) (v : Value) (l : List Nat) (w : World) (h : Lim w v l) :
    Calls Tryz.prog 25 #[.agg #[.bool s, v]] w fun e w' => e = .returned (.tuple #[.int .i64 (backM s l), .int .i64 (backE s l)]) ∧ Below w.heap.size w w' := by
  cases ho : okB s l with
  | false =>
    rw [(back_not ho).1, (back_not ho).2]
    exact Back_not s v l w h ho
  | true =>
    refine (Back_ok s v l w h ho).mono ?_
    rintro e w' ⟨h1, h2, h3⟩
    by_cases hz : -9223372036854775808 ≤ valS s l ∧ valS s l ≤ 9223372036854775807
    · rw [(back_with ho hz).1, (back_with ho hz).2]
      exact ⟨h2 hz, h3⟩
    · rw [(back_far ho (by omega)).1, (back_far ho (by omega)).2]
      exact ⟨h1 (by omega), h3⟩
theorem parseZ_lt (l : List UInt8) : (parseZ l).natAbs < 1000000000 ^ 23 := by
  have h0 : (0 : Int).natAbs < 1000000000 ^ 23 := by decide
  by_cases he : parseE l = 0
  · have hE := he
    unfold parseE at he
    split at he
    · cases he
    · rename_i h1
      split at he
      · cases he
      · rename_i h2
        have hp : plainB (digitsOf l) = true := by
          cases h : plainB (digitsOf l) with
          | true => rfl
          | false => exact absurd (.inl h) h1
        have h3 := dec_lt (digits_plain hp)
        have h4 : dec (digitsOf l) < 1000000000 ^ 23 := Nat.lt_of_lt_of_le h3 (Nat.le_trans (Nat.pow_le_pow_right (by decide) (show (digitsOf l).length ≤ 200 by omega)) (by decide))
        unfold parseZ
        rw [if_pos hE]
        split <;> omega
  · rw [parseZ_no rfl he]
    exact h0
/-- What Parse answers, of its own. -/
def ParseOwn (n : Nat) (w' : World) (e : Ending) (k : Nat) (C Z : Int) : Prop := ∃ s a l c, e = .returned (.tuple #[.agg #[.bool s, .slice a l.length c], .int .i64 C]) ∧ OwnL n w' (.slice a l.length c) l ∧ OkAt w' (.agg #[.bool s, .slice a l.length c]) k Z ∧ l.length ≤ k
theorem Parse_own (l : List UInt8) (w : World) (hl : l.length ≤ 2000000) :
    Calls Tryz.prog 27 #[.string ⟨l.toArray⟩] w fun e w' => ParseOwn w.heap.size w' e 23 (parseE l) (parseZ l) ∧ Below w.heap.size w w' := by
  refine (Parse_any l w hl).mono ?_
  rintro e w' ⟨⟨s, L, v, rfl, h1, h2, h3⟩, h4⟩
  have e1 := len_of_valS (k := 23) h2 (by rw [h3]; exact parseZ_lt l)
  have l1 := h1.lim
  obtain ⟨a, c, rfl, -⟩ := h1.lim
  exact ⟨⟨s, a, L, c, rfl, h1, ⟨s, _, L, rfl, l1, h2, h3, e1⟩, e1⟩, h4⟩
theorem Of_own (n : Int) (w : World) (h1 : -9223372036854775808 ≤ n) (h2 : n ≤ 9223372036854775807) :
    Calls Tryz.prog 29 #[.int .i64 n] w fun e w' => AnsOwn w.heap.size w' e 3 n ∧ Below w.heap.size w w' := by
  refine (Of_any n w h1 h2).mono ?_
  rintro e w' ⟨h5, h6⟩
  exact ⟨h5.own (by omega), h6⟩

def three (L1 L2 L3 : List Nat) (i : Nat) : List Nat := match i with | 0 => L1 | 1 => L2 | 2 => L3 | _ => []
def three0 (c0 c1 c2 c3 i : Nat) : Nat := match i with | 0 => c0 | 1 => c1 | 2 => c2 | _ => c3
theorem three_get {α : Type _} {x1 x2 x3 : α} {P : Nat → α → Prop} (h1 : P 0 x1) (h2 : P 1 x2) (h3 : P 2 x3) : ∀ (i : Nat) (e : α), [x1, x2, x3][i]? = some e → P i e
  | 0, e, he => by obtain rfl := Option.some.inj he; exact h1
  | 1, e, he => by obtain rfl := Option.some.inj he; exact h2
  | 2, e, he => by obtain rfl := Option.some.inj he; exact h3
  | n + 3, e, he => by simp at he
theorem three_all {L1 L2 L3 : List Nat} {n : Nat} (h1 : L1.length ≤ n) (h2 : L2.length ≤ n) (h3 : L3.length ≤ n) : ∀ i, (three L1 L2 L3 i).length ≤ n
  | 0 => h1 | 1 => h2 | 2 => h3 | _ + 3 => Nat.zero_le _
theorem three0_mono {c0 c1 c2 c3 : Nat} (h1 : c0 ≤ c1) (h2 : c1 ≤ c2) (h3 : c2 ≤ c3) : ∀ i, three0 c0 c1 c2 c3 i ≤ three0 c0 c1 c2 c3 (i + 1)
  | 0 => h1 | 1 => h2 | 2 => h3 | _ + 3 => Nat.le_refl _

section
variable {bs : List (Nat × Bool)} {fs : List (Nat × (Value → World → Prop))} {w0 : World} {d : Nat} {ty : TypeId} {pos : String} {af : Array Edge} {g : Option (Nat × Bool)}
theorem step_neLL {x y : Nat} {t' : TypeId} {m k : Int} {b : Bool} (hx : ∀ v w, Known bs fs x v w → v = .int .i64 m) (hy : ∀ v w, Known bs fs y v w → v = .int .i64 k) (hb' : (m != k) = b) (h : ∀ w, Known bs fs d (.bool b) w) : StepOk Tryz.prog bs fs w0 ⟨some d, .binOp .neq 2 (.tmp x) (.tmp y) t', ty, pos, af, g⟩ :=
  step_value rfl fun a w hb hk => ⟨.bool b, w, by
    have h1 := hx _ _ (hk x (by simp [looks, Op.operands]))
    have h2 := hy _ _ (hk y (by simp [looks, Op.operands]))
    simp only [execOp, h1, h2, ← hb']
    go_simp, h _, Below.refl _ _⟩
theorem step_neSS {x y : Nat} {t' : TypeId} {m : ByteArray} (hx : ∀ v w, Known bs fs x v w → v = .string m) (hy : ∀ v w, Known bs fs y v w → v = .string m) (h : ∀ w, Known bs fs d (.bool false) w) : StepOk Tryz.prog bs fs w0 ⟨some d, .binOp .neq 9 (.tmp x) (.tmp y) t', ty, pos, af, g⟩ :=
  step_value rfl fun a w hb hk => ⟨.bool false, w, by
    have h1 := hx _ _ (hk x (by simp [looks, Op.operands]))
    have h2 := hy _ _ (hk y (by simp [looks, Op.operands]))
    simp only [execOp, h1, h2]
    go_simp, h _, Below.refl _ _⟩
end

end Go.Proofs.YtgpoljbccimkjaaGreatDoor

namespace Go.Proofs.YtgpoljbccimkjaaGreatDoor
set_option linter.unusedSimpArgs false
set_option linter.unusedVariables false
open Go.RowKit Go.Shelf

set_option maxRecDepth 100000 in
set_option maxHeartbeats 4000000 in
theorem LimbsTexts_true (w : World) (s1 : Bool) (v1 : Value) (l1 : List Nat) (h1 : Lim w v1 l1) (l : List UInt8) (hl : l.length ≤ 9223372036854775807) (n : Int) (hn : -9223372036854775808 ≤ n ∧ n ≤ 9223372036854775807) (htab : Tab w) :
    Calls Tryz.prog 4 #[.agg #[.bool s1, v1], .string ⟨l.toArray⟩, .int .i64 n] w fun e w' => e = .returned (.bool true) ∧ Below w.heap.size w w' := by
  have h1' := h1
  obtain ⟨a1, c1, rfl, -⟩ := h1
  have m1 := h1'.max
  obtain ⟨W0, e0, n1, hb0, hz0⟩ := box1 w (.bool s1) (.slice a1 l1.length c1)
  have T0 : Hid (∀ W, Below w.heap.size w W → Tab W) := fun W hb => htab.below hb
  have HN := Lib.hid hn
  have U1 := keepLim (h1'.below hb0)
  have N1 := n1.v.keep
  have B0 := Lib.hid hb0
  obtain ⟨p1, p2, -, -⟩ := n1
  have hlI : (l.length : Int) ≤ 9223372036854775807 := by omega
  clear h1' hb0 hz0 htab hn
  go_enter Tryz.func4, Tryz.ntmps4
  obtain ⟨W1, e1, b1, g1⟩ : ∃ W1, W0.alloc (.cells #[.bool s1, .slice a1 l1.length c1] 24) = W1 ∧ Below W0.heap.size W0 W1 ∧ W1.cell? ⟨W0.heap.size, 1, none⟩ = some (.slice a1 l1.length c1) := ⟨_, rfl, (by repeat (first | exact Below.refl _ _ | with_reducible refine Below.drew ?_ | with_reducible refine below_drewN ?_ _ | with_reducible refine Below.setCell ?_ (by first | (simp; done) | (simp; omega) | omega) _ | with_reducible refine Below.alloc ?_ (by first | (simp; done) | (simp; omega) | omega) _)), by go_simp⟩
  have R1 := Lib.hid (Below.step B0.out b1)
  have N1 := (N1.out _ b1).keep
  have U1 := keepLim (U1.out _ b1)
  clear b1
  go_wp2_with fail
  clear e0 e1
  by_cases hbig : 200 < l1.length
  · refine (great1 (most := 200) (r := true) rfl (by decide) m1 g1 (by simpa using hbig)).mono ?_
    rintro e w2 ⟨rfl, rfl⟩
    go_wp2_with fail
    go_ret
    exact ⟨rfl, R1.out⟩
  · refine (great1 (most := 200) (r := false) rfl (by decide) m1 g1 (by simpa using hbig)).mono ?_
    rintro e w2 ⟨rfl, rfl⟩
    have K : Hid (l1.length ≤ 200) := by show _ ≤ _; omega
    obtain ⟨W2, e2, b2, g2⟩ : ∃ W2, W1.alloc (.cells #[.int .i64 (l.length : Nat)] 3) = W2 ∧ Below W1.heap.size W1 W2 ∧ W2.cell? ⟨W1.heap.size, 0, none⟩ = some (.int .i64 (l.length : Nat)) := ⟨_, rfl, (by repeat (first | exact Below.refl _ _ | with_reducible refine Below.drew ?_ | with_reducible refine below_drewN ?_ _ | with_reducible refine Below.setCell ?_ (by first | (simp; done) | (simp; omega) | omega) _ | with_reducible refine Below.alloc ?_ (by first | (simp; done) | (simp; omega) | omega) _)), by go_simp⟩
    have RW := Lib.hid (Below.step R1.out b2)
    have N1 := (N1.out _ b2).keep
    have U1 := keepLim (U1.out _ b2)
    have I2 := Lib.hid RW.out.size
    clear hbig g1 m1 b2 p1 p2
    go_wp2_with fail
    clear e2
    by_cases hbey : 1048576 < l.length
    · refine (Beyond_one l.length _ _ (by omega) g2).mono ?_
      rintro e w3 ⟨rfl, rfl⟩
      rw [decide_eq_true hbey]
      go_wp2_with fail
      go_ret
      exact ⟨rfl, RW.out⟩
    · refine (Beyond_one l.length _ _ (by omega) g2).mono ?_
      rintro e w3 ⟨rfl, rfl⟩
      rw [decide_eq_false hbey]
      have HLEN : Hid (l.length ≤ 1048576) := by show _ ≤ _; omega
      clear hbey g2 hlI hl R1
      obtain ⟨p1, p2, -, -⟩ := (N1.out _ (Below.refl _ _)).c2
      go_wp2_with fail
      refine (TwinNum_room s1 _ l1 _ (U1.out _ (Below.refl _ _)) (by have := K.out; omega)).mono ?_
      rintro e w5 ⟨⟨aX, cX, rfl, o5⟩, hb5⟩
      obtain ⟨W5, e5, n5, b5, -⟩ := box1 w5 (.bool s1) (.slice aX l1.length cX)
      have R5 := Below.step hb5 b5
      have I5 : Hid (W2.heap.size ≤ w5.heap.size ∧ w5.heap.size ≤ W5.heap.size) := ⟨hb5.size, b5.size⟩
      have N1 := (N1.out _ R5).keep
      have U1 := keepLim (U1.out _ R5)
      have TX := keepLim (o5.lim.below b5)
      have UX := keepLim (o5.front1.lim.below b5)
      have OX := (o5.front1.below b5).keep
      have SX := Lib.hid o5.front1.within
      have N5 := n5.v.keep
      have RW := Lib.hid (Below.step RW.out R5)
      clear hb5 n5 b5 R5 o5 p1 p2
      obtain ⟨p1, p2, -, -⟩ := (N5.out _ (Below.refl _ _)).c2
      go_wp2_with fail
      refine (Back_both s1 _ l1 _ (UX.out _ (Below.refl _ _))).mono ?_
      rintro e w6 ⟨rfl, hb6⟩
      have I6 : Hid (W5.heap.size ≤ w6.heap.size) := hb6.size
      have N1 := (N1.out _ hb6).keep
      have U1 := keepLim (U1.out _ hb6)
      have TX := keepLim (TX.out _ hb6)
      have UX := keepLim (UX.out _ hb6)
      have OX := (OX.out _ hb6).keep
      have N5 := (N5.out _ hb6).keep
      have RW := Lib.hid (Below.step RW.out hb6)
      clear hb6 p1 p2
      obtain ⟨p1, p2, -, -⟩ := (N1.out _ (Below.refl _ _)).c2
      go_wp2_with fail
      refine (rBack_any s1 _ l1 _ (U1.out _ (Below.refl _ _)) (by have := K.out; omega)).mono ?_
      rintro e w7 ⟨rfl, hb7⟩
      have I7 : Hid (w6.heap.size ≤ w7.heap.size) := hb7.size
      have N1 := (N1.out _ hb7).keep
      have U1 := keepLim (U1.out _ hb7)
      have TX := keepLim (TX.out _ hb7)
      have UX := keepLim (UX.out _ hb7)
      have OX := (OX.out _ hb7).keep
      have N5 := (N5.out _ hb7).keep
      have RW := Lib.hid (Below.step RW.out hb7)
      clear hb7 p1 p2
      go_wp2_with fail
      refine (Parse_own l _ (by have := HLEN.out; omega)).mono ?_
      rintro e w8 ⟨⟨s8, a8, l8, c8, rfl, o8, q8, z8⟩, hb8⟩
      obtain ⟨W8, e8, n8, b8, -⟩ := box1 w8 (.bool s8) (.slice a8 l8.length c8)
      have R8 := Below.step hb8 b8
      have I8 : Hid (w7.heap.size ≤ w8.heap.size ∧ w8.heap.size ≤ W8.heap.size) := ⟨hb8.size, b8.size⟩
      have N1 := (N1.out _ R8).keep
      have U1 := keepLim (U1.out _ R8)
      have TX := keepLim (TX.out _ R8)
      have UX := keepLim (UX.out _ R8)
      have OX := (OX.out _ R8).keep
      have N5 := (N5.out _ R8).keep
      have O8 := (o8.below b8).keep
      have S8 := Lib.hid o8.within
      have H8 := (q8.below b8).keep
      have SZ8 := Lib.hid z8
      have N8 := n8.v.keep
      have RW := Lib.hid (Below.step RW.out R8)
      clear hb8 n8 b8 R8 o8 q8 z8
      go_wp2_with fail
      refine (rParse_any l _ (by have := HLEN.out; omega)).mono ?_
      rintro e w9 ⟨⟨u9, rfl, q9⟩, hb9⟩
      obtain ⟨s9, a9, n9, c9, rfl, -⟩ := q9.shape
      obtain ⟨W9, e9, x9, b9, -⟩ := box1 w9 (.bool s9) (.slice a9 n9 c9)
      have R9 := Below.step hb9 b9
      have I9 : Hid (W8.heap.size ≤ w9.heap.size ∧ w9.heap.size ≤ W9.heap.size) := ⟨hb9.size, b9.size⟩
      have N1 := (N1.out _ R9).keep
      have U1 := keepLim (U1.out _ R9)
      have TX := keepLim (TX.out _ R9)
      have UX := keepLim (UX.out _ R9)
      have OX := (OX.out _ R9).keep
      have N5 := (N5.out _ R9).keep
      have O8 := (O8.out _ R9).keep
      have H8 := (H8.out _ R9).keep
      have N8 := (N8.out _ R9).keep
      have H9 := (q9.below b9).keep
      have N9 := x9.v.keep
      have RW := Lib.hid (Below.step RW.out R9)
      clear hb9 x9 b9 R9 q9
      go_wp2_with fail
      refine (Of_own n _ HN.out.1 HN.out.2).mono ?_
      rintro e w10 ⟨⟨s10, a10, l10, c10, rfl, o10, q10, z10⟩, hb10⟩
      obtain ⟨W10, e10, n10, b10, -⟩ := box1 w10 (.bool s10) (.slice a10 l10.length c10)
      have R10 := Below.step hb10 b10
      have I10 : Hid (W9.heap.size ≤ w10.heap.size ∧ w10.heap.size ≤ W10.heap.size) := ⟨hb10.size, b10.size⟩
      have N1 := (N1.out _ R10).keep
      have U1 := keepLim (U1.out _ R10)
      have TX := keepLim (TX.out _ R10)
      have UX := keepLim (UX.out _ R10)
      have OX := (OX.out _ R10).keep
      have N5 := (N5.out _ R10).keep
      have O8 := (O8.out _ R10).keep
      have H8 := (H8.out _ R10).keep
      have N8 := (N8.out _ R10).keep
      have H9 := (H9.out _ R10).keep
      have N9 := (N9.out _ R10).keep
      have O10 := (o10.below b10).keep
      have S10 := Lib.hid o10.within
      have H10 := (q10.below b10).keep
      have SZ10 := Lib.hid z10
      have N10 := n10.v.keep
      have RW := Lib.hid (Below.step RW.out R10)
      clear hb10 n10 b10 R10 o10 q10 z10
      have TB : Hid (∀ W, Below W10.heap.size W10 W → Tab W) := fun W hb => T0.out _ (Below.step RW.out hb)
      go_upto_region 9 with fail
      clear e5 e8 e9 e10
      rename_i hK0 K1 hK1
      refine wp_region_known [(55, false), (56, false), (59, false), (60, false), (61, false), (64, false), (65, false), (66, false), (71, false), (72, false), (73, false), (76, true), (77, false), (78, false), (79, false), (82, false), (83, false), (84, false), (88, true), (89, false), (90, false), (91, false), (94, true), (95, false), (96, false)]
        [(1, IsV (.string ⟨l.toArray⟩)), (2, IsV (.int .i64 n)), (3, IsV (.pointer (some ⟨w.heap.size, 0, none⟩))), (7, IsV (.pointer (some ⟨w5.heap.size, 0, none⟩))), (8, IsV (.int .i64 (backM s1 l1))), (9, IsV (.int .i64 (backE s1 l1))), (10, IsV (.int .i64 (backM s1 l1))), (11, IsV (.int .i64 (backE s1 l1))), (12, IsV (.pointer (some ⟨w8.heap.size, 0, none⟩))), (13, IsV (.int .i64 (parseE l))), (14, IsV (.pointer (some ⟨w9.heap.size, 0, none⟩))), (15, IsV (.int .i64 (parseE l))), (16, IsV (.pointer (some ⟨w10.heap.size, 0, none⟩)))]
        [(51, IsU s1 aX cX l1), (52, IsV (.bool (okB s1 l1))), (53, IsU s1 a1 c1 l1), (54, IsV (.bool (okB s1 l1))), (57, IsV (.int .i64 (backM s1 l1))), (58, IsV (.int .i64 (backM s1 l1))), (62, IsV (.int .i64 (backE s1 l1))), (63, IsV (.int .i64 (backE s1 l1))), (67, IsU s1 aX cX l1), (68, IsV (.string ⟨(txt (fitS s1 l1) (fitL s1 l1)).toArray⟩)), (69, IsU s1 a1 c1 l1), (70, IsV (.string ⟨(txt (fitS s1 l1) (fitL s1 l1)).toArray⟩)), (74, IsO 23 (parseZ l)), (75, IsO 23 (parseZ l)), (80, IsV (.int .i64 (parseE l))), (81, IsV (.int .i64 (parseE l))), (85, IsO 3 (n)), (86, IsV (.int .i64 n)), (87, IsO 3 (n)), (92, IsT s1 aX cX l1), (93, IsU s1 a1 c1 l1)]
        105 (by kernel_rfl) rfl (by kernel_rfl) (by kernel_rfl) ⟨rfl, rfl, rfl, rfl, rfl, rfl, rfl, rfl, rfl, rfl, rfl, rfl, rfl, trivial⟩ ⟨IsV.grows _ , IsV.grows _ , IsV.grows _ , IsV.grows _ , IsV.grows _ , IsV.grows _ , IsV.grows _ , IsV.grows _ , IsV.grows _ , IsV.grows _ , IsV.grows _ , IsV.grows _ , IsV.grows _ , IsU.grows _ _ _ _ , IsV.grows _ , IsU.grows _ _ _ _ , IsV.grows _ , IsV.grows _ , IsV.grows _ , IsV.grows _ , IsV.grows _ , IsU.grows _ _ _ _ , IsV.grows _ , IsU.grows _ _ _ _ , IsV.grows _ , IsO.grows _ _ , IsO.grows _ _ , IsV.grows _ , IsV.grows _ , IsO.grows _ _ , IsV.grows _ , IsO.grows _ _ , IsT.grows _ _ _ _ , IsU.grows _ _ _ _ , trivial⟩ ?_ ?_
      · refine AllStep.cons (step_load (fun _ _ h => h) (fun _ hb => (N5.out _ hb).c2) (fun w hb => ⟨rfl, UX.out w hb⟩)) ?_
        refine AllStep.cons (step_call1 (Plain.of Tryz.func30 rfl rfl) (fun _ _ _ hu => (Check_u hu).mono (fun _ _ h => ansV h))) ?_
        refine AllStep.cons (step_load (fun _ _ h => h) (fun _ hb => (N1.out _ hb).c2) (fun w hb => ⟨rfl, U1.out w hb⟩)) ?_
        refine AllStep.cons (step_call1 (Plain.of Tryz.func31 rfl rfl) (fun _ _ _ hu => (rCheck_u hu).mono (fun _ _ h => ansV h))) ?_
        refine AllStep.cons (step_neBB (fun _ _ h => h) (fun _ _ h => h) (by simp) (fun _ => rfl)) ?_
        refine AllStep.cons (step_move (fun _ _ h => h)) ?_
        refine AllStep.cons (step_move (fun _ _ h => h)) ?_
        refine AllStep.cons (step_move (fun _ _ h => h)) ?_
        refine AllStep.cons (step_neLL (fun _ _ h => h) (fun _ _ h => h) (by simp) (fun _ => rfl)) ?_
        refine AllStep.cons (step_pickF (fun _ _ h => h) (fun _ _ h => h)) ?_
        refine AllStep.cons (step_move (fun _ _ h => h)) ?_
        refine AllStep.cons (step_move (fun _ _ h => h)) ?_
        refine AllStep.cons (step_move (fun _ _ h => h)) ?_
        refine AllStep.cons (step_neEE (fun _ _ h => h) (fun _ _ h => h) (by simp) (fun _ => rfl)) ?_
        refine AllStep.cons (step_pickF (fun _ _ h => h) (fun _ _ h => h)) ?_
        refine AllStep.cons (step_move (fun _ _ h => h)) ?_
        refine AllStep.cons (step_load (fun _ _ h => h) (fun _ hb => (N5.out _ hb).c2) (fun w hb => ⟨rfl, UX.out w hb⟩)) ?_
        refine AllStep.cons (step_call1 (Plain.of Tryz.func32 rfl rfl) (fun _ _ hb hu => (Text_u hu K.out (TB.out _ hb)).mono (fun _ _ h => ansV h))) ?_
        refine AllStep.cons (step_load (fun _ _ h => h) (fun _ hb => (N1.out _ hb).c2) (fun w hb => ⟨rfl, U1.out w hb⟩)) ?_
        refine AllStep.cons (step_call1 (Plain.of Tryz.func33 rfl rfl) (fun _ _ _ hu => (rText_u hu K.out).mono (fun _ _ h => ansV h))) ?_
        refine AllStep.cons (step_neSS (fun _ _ h => h) (fun _ _ h => h) (fun _ => rfl)) ?_
        refine AllStep.cons (step_pickF (fun _ _ h => h) (fun _ _ h => h)) ?_
        refine AllStep.cons (step_move (fun _ _ h => h)) ?_
        refine AllStep.cons (step_load (fun _ _ h => h) (fun _ hb => (N8.out _ hb).c2) (fun w hb => H8.out w hb)) ?_
        refine AllStep.cons (step_load (fun _ _ h => h) (fun _ hb => (N9.out _ hb).c2) (fun w hb => H9.out w hb)) ?_
        refine AllStep.cons (step_call2 (Plain.of Tryz.func19 rfl rfl) (fun _ _ _ _ hu hv => (Same_num hu hv true (decide_eq_true rfl)).mono (fun _ _ h => ansV h))) ?_
        refine AllStep.cons (step_not true (fun _ _ h => h) (fun _ => rfl)) ?_
        refine AllStep.cons (step_pickF (fun _ _ h => h) (fun _ _ h => h)) ?_
        refine AllStep.cons (step_move (fun _ _ h => h)) ?_
        refine AllStep.cons (step_move (fun _ _ h => h)) ?_
        refine AllStep.cons (step_move (fun _ _ h => h)) ?_
        refine AllStep.cons (step_neEE (fun _ _ h => h) (fun _ _ h => h) (by simp) (fun _ => rfl)) ?_
        refine AllStep.cons (step_pickF (fun _ _ h => h) (fun _ _ h => h)) ?_
        refine AllStep.cons (step_move (fun _ _ h => h)) ?_
        refine AllStep.cons (step_load (fun _ _ h => h) (fun _ hb => (N10.out _ hb).c2) (fun w hb => H10.out w hb)) ?_
        refine AllStep.cons (step_move (fun _ _ h => h)) ?_
        refine AllStep.cons (step_call1 (Plain.of Tryz.func34 rfl rfl) (fun _ _ _ hu => rOf_v hu HN.out.1 HN.out.2)) ?_
        refine AllStep.cons (step_call2 (Plain.of Tryz.func19 rfl rfl) (fun _ _ _ _ hu hv => (Same_num hu hv true (decide_eq_true rfl)).mono (fun _ _ h => ansV h))) ?_
        refine AllStep.cons (step_not true (fun _ _ h => h) (fun _ => rfl)) ?_
        refine AllStep.cons (step_pickF (fun _ _ h => h) (fun _ _ h => h)) ?_
        refine AllStep.cons (step_move (fun _ _ h => h)) ?_
        refine AllStep.cons (step_load (fun _ _ h => h) (fun _ hb => (N5.out _ hb).c2) (fun w hb => ⟨rfl, TX.out w hb⟩)) ?_
        refine AllStep.cons (step_load (fun _ _ h => h) (fun _ hb => (N1.out _ hb).c2) (fun w hb => ⟨rfl, U1.out w hb⟩)) ?_
        refine AllStep.cons (step_call2 (Plain.of Tryz.func21 rfl rfl) (fun _ _ _ _ hu hv => (LeftNum_at hu hv (by have := K.out; omega)).mono (fun _ _ h => ansV h))) ?_
        refine AllStep.cons (step_not true (fun _ _ h => h) (fun _ => rfl)) ?_
        refine AllStep.cons (step_pickF (fun _ _ h => h) (fun _ _ h => h)) ?_
        exact AllStep.nil
      · intro a1 wa hb1 hs1 hd1 hk1
        have N1 := (N1.out _ hb1).keep
        have U1 := keepLim (U1.out _ hb1)
        have TX := keepLim (TX.out _ hb1)
        have UX := keepLim (UX.out _ hb1)
        have OX := (OX.out _ hb1).keep
        have N5 := (N5.out _ hb1).keep
        have O8 := (O8.out _ hb1).keep
        have H8 := (H8.out _ hb1).keep
        have N8 := (N8.out _ hb1).keep
        have H9 := (H9.out _ hb1).keep
        have N9 := (N9.out _ hb1).keep
        have O10 := (O10.out _ hb1).keep
        have H10 := (H10.out _ hb1).keep
        have N10 := (N10.out _ hb1).keep
        have RW := Lib.hid (Below.step RW.out hb1)
        have IA := Lib.hid hb1.size
        obtain ⟨u, hx⟩ : ∃ u : Nat → Value, ∀ t, a1.eval (.tmp t) = u t := ⟨_, fun _ => rfl⟩
        have ha : a1 = ⟨#[u 0, .string ⟨l.toArray⟩, .int .i64 n, .pointer (some ⟨w.heap.size, 0, none⟩), u 4, u 5, u 6, .pointer (some ⟨w5.heap.size, 0, none⟩), .int .i64 (backM s1 l1), .int .i64 (backE s1 l1), .int .i64 (backM s1 l1), .int .i64 (backE s1 l1), .pointer (some ⟨w8.heap.size, 0, none⟩), .int .i64 (parseE l), .pointer (some ⟨w9.heap.size, 0, none⟩), .int .i64 (parseE l), .pointer (some ⟨w10.heap.size, 0, none⟩), u 17, u 18, u 19, u 20, u 21, u 22, u 23, u 24, u 25, u 26, u 27, u 28, u 29, u 30, u 31, u 32, u 33, u 34, u 35, u 36, u 37, u 38, u 39, u 40, u 41, u 42, u 43, u 44, u 45, u 46, u 47, u 48, u 49, u 50, u 51, u 52, u 53, u 54, u 55, u 56, u 57, u 58, u 59, u 60, u 61, u 62, u 63, u 64, u 65, u 66, u 67, u 68, u 69, u 70, u 71, u 72, u 73, u 74, u 75, u 76, u 77, u 78, u 79, u 80, u 81, u 82, u 83, u 84, u 85, u 86, u 87, u 88, u 89, u 90, u 91, u 92, u 93, u 94, u 95, .bool false, u 97, u 98, u 99, u 100, u 101, u 102, u 103, u 104], []⟩ := act_eq hs1 hd1 ⟨hx 0, hk1 1, hk1 2, hk1 3, hx 4, hx 5, hx 6, hk1 7, hk1 8, hk1 9, hk1 10, hk1 11, hk1 12, hk1 13, hk1 14, hk1 15, hk1 16, hx 17, hx 18, hx 19, hx 20, hx 21, hx 22, hx 23, hx 24, hx 25, hx 26, hx 27, hx 28, hx 29, hx 30, hx 31, hx 32, hx 33, hx 34, hx 35, hx 36, hx 37, hx 38, hx 39, hx 40, hx 41, hx 42, hx 43, hx 44, hx 45, hx 46, hx 47, hx 48, hx 49, hx 50, hx 51, hx 52, hx 53, hx 54, hx 55, hx 56, hx 57, hx 58, hx 59, hx 60, hx 61, hx 62, hx 63, hx 64, hx 65, hx 66, hx 67, hx 68, hx 69, hx 70, hx 71, hx 72, hx 73, hx 74, hx 75, hx 76, hx 77, hx 78, hx 79, hx 80, hx 81, hx 82, hx 83, hx 84, hx 85, hx 86, hx 87, hx 88, hx 89, hx 90, hx 91, hx 92, hx 93, hx 94, hx 95, hk1 96, hx 97, hx 98, hx 99, hx 100, hx 101, hx 102, hx 103, hx 104, trivial⟩
        subst ha
        refine hK1 _ _ ?_
        refine wp_cond_false rfl ?_
        refine wp_skip ?_
        refine hK0 _ _ ?_
        clear hx hs1 hd1 hk1 hb1 hK1 hK0
        go_upto_region 12 with fail
        obtain ⟨WB, eB, nB, bB, sB⟩ : ∃ WB, wa.alloc (.cells #[.int .i64 0, .slice none 0 0, .slice none 0 0, .slice none 0 0, .slice none 0 0, .slice none 0 0, .slice none 0 0, .slice none 0 0, .slice none 0 0, .slice none 0 0, .slice none 0 0, .slice none 0 0, .slice none 0 0] 45) = WB ∧ BoxV WB wa.heap.size [.int .i64 0, nil0, nil0, nil0, nil0, nil0, nil0, nil0, nil0, nil0, nil0, nil0, nil0] ∧ Below wa.heap.size wa WB ∧ wa.heap.size < WB.heap.size := ⟨_, rfl, BoxV.new _ _ _, (Below.refl _ _).alloc (Nat.le_refl _) _, by simp⟩
        rw [eB]
        clear eB
        have Q := Lib.hid (book_new wa WB nB)
        have BW := Lib.hid bB
        clear nB bB sB
        obtain ⟨p1, p2, -, -⟩ := (N5.out _ BW.out).c2
        go_wp2_with fail
        refine (Num_any wa.heap.size wa.heap.size l1.length cX aX s1 _ [] _ Q.out BW.out.size (by simp)).mono ?_
        rintro e v12 ⟨rfl, ⟨vr12, hq⟩, hb⟩
        have Q : Hid (BookAt v12 wa.heap.size wa.heap.size vr12 [⟨.slice aX l1.length cX, nil0, 1⟩]) := hq
        have BW := Lib.hid (BW.out.trans hb)
        clear hq hb p1 p2
        obtain ⟨p1, p2, -, -⟩ := (N8.out _ BW.out).c2
        go_wp2_with fail
        refine (Num_any wa.heap.size wa.heap.size l8.length c8 a8 s8 _ [⟨.slice aX l1.length cX, nil0, 1⟩] _ Q.out BW.out.size (by simp)).mono ?_
        rintro e v13 ⟨rfl, ⟨vr13, hq⟩, hb⟩
        have Q : Hid (BookAt v13 wa.heap.size wa.heap.size vr13 [⟨.slice aX l1.length cX, nil0, 1⟩, ⟨.slice a8 l8.length c8, nil0, 2⟩]) := hq
        have BW := Lib.hid (BW.out.trans hb)
        clear hq hb p1 p2
        obtain ⟨p1, p2, -, -⟩ := (N10.out _ BW.out).c2
        go_wp2_with fail
        refine (Num_any wa.heap.size wa.heap.size l10.length c10 a10 s10 _ [⟨.slice aX l1.length cX, nil0, 1⟩, ⟨.slice a8 l8.length c8, nil0, 2⟩] _ Q.out BW.out.size (by simp)).mono ?_
        rintro e v14 ⟨rfl, ⟨vr14, hq⟩, hb⟩
        have Q : Hid (BookAt v14 wa.heap.size wa.heap.size vr14 [⟨.slice aX l1.length cX, nil0, 1⟩, ⟨.slice a8 l8.length c8, nil0, 2⟩, ⟨.slice a10 l10.length c10, nil0, 3⟩]) := hq
        have BW := Lib.hid (BW.out.trans hb)
        clear hq hb p1 p2
        go_wp2_with fail
        have i2 := I2.out
        have i5 := I5.out
        have i6 := I6.out
        have i7 := I7.out
        have i8 := I8.out
        have i9 := I9.out
        have i10 := I10.out
        have iA := IA.out
        have kk := K.out
        have z8 := SZ8.out
        have z10 := SZ10.out
        refine (Apart_any w.heap.size wa.heap.size wa.heap.size _ [⟨.slice aX l1.length cX, nil0, 1⟩, ⟨.slice a8 l8.length c8, nil0, 2⟩, ⟨.slice a10 l10.length c10, nil0, 3⟩] (three l1 l8 l10) _ Q.out (by simp)
          (three_get (P := fun i (e : Ent) => OwnL w.heap.size v14 e.v (three l1 l8 l10 i) ∧ ∀ b, e.v.ownBlock = some b → b < wa.heap.size) ⟨(OX.out _ BW.out).mono (by omega), fun b hb => by have := SX.out b hb; omega⟩ ⟨(O8.out _ BW.out).mono (by omega), fun b hb => by have := S8.out b hb; omega⟩ ⟨(O10.out _ BW.out).mono (by omega), fun b hb => by have := S10.out b hb; omega⟩)
          (Sep.chain (three0 W2.heap.size W5.heap.size W8.heap.size W10.heap.size) (three0_mono (by omega) (by omega) (by omega)) (three_get (P := fun i (e : Ent) => Within e.v (three0 W2.heap.size W5.heap.size W8.heap.size W10.heap.size i) (three0 W2.heap.size W5.heap.size W8.heap.size W10.heap.size (i + 1))) (show Within _ W2.heap.size W5.heap.size from SX.out.mono (by omega) (by omega)) (show Within _ W5.heap.size W8.heap.size from S8.out.mono (by omega) (by omega)) (show Within _ W8.heap.size W10.heap.size from S10.out.mono (by omega) (by omega))))
          (three_get (P := fun i (e : Ent) => e.n = i + 1 ∧ e.g = nil0) ⟨rfl, rfl⟩ ⟨rfl, rfl⟩ ⟨rfl, rfl⟩) (by simp) (three_all (by omega) (by omega) (by omega)) (by omega) BW.out.size).mono ?_
        rintro e v19 ⟨rfl, hb⟩
        have RF := Lib.hid ((RW.out.trans (BW.out.mono RW.out.size)).trans hb)
        clear hb
        go_wp2_with fail
        go_ret
        exact ⟨rfl, RF.out⟩

end Go.Proofs.YtgpoljbccimkjaaGreatDoor
