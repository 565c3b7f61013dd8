/- Walks: whether two lists, two numbers, are the same; whether one of some numbers is great. -/
import Derived.Test.YtgpoljbccimkjaaGreatDoorBase
import Derived.Test.YtgpoljbccimkjaaGreatDoorNearMath
import Derived.Deep.QuietTactic
import Derived.BigQuiet
namespace Go.Proofs.YtgpoljbccimkjaaGreatDoor
set_option linter.unusedSimpArgs false
set_option linter.unusedVariables false
open Go.RowKit

set_option maxHeartbeats 400000 in
theorem at_any (v : Value) (l : List Nat) (i : Int) (w : World) (h : Lim w v l) :
    Calls Tryz.prog 205 #[v, .int .i64 i] w fun e w' => e = .returned (.int .u32 (ptI l i)) ∧ w = w' := by
  obtain ⟨a, c, rfl, h1, h2, h3, h4⟩ := h
  unfold maxLen at h2
  by_cases hi : i < 0
  · rw [ptI_neg l hi]
    go_enter Tryz.func205, Tryz.ntmps205
    go_wp2
    go_ret
    exact ⟨rfl, rfl⟩
  · by_cases hn : (l.length : Int) ≤ i
    · rw [ptI_ge l hn]
      go_enter Tryz.func205, Tryz.ntmps205
      go_wp2
      go_ret
      exact ⟨rfl, rfl⟩
    · obtain ⟨n, rfl⟩ := Int.eq_ofNat_of_zero_le (show 0 ≤ i by omega)
      rw [ptI_nat]
      rcases h4 with ⟨rfl, rfl, rfl⟩ | ⟨b, o, rfl, hc⟩
      · simp at hn
      · have hcell := hc n (by omega)
        clear hc
        go_enter Tryz.func205, Tryz.ntmps205
        go_wp2
        go_ret
        exact ⟨rfl, rfl⟩

theorem isNaN_int (a : Int) (w : World) : Calls Tryz.prog 216 #[.int .i64 a] w fun e w' => e = .returned (.bool false) ∧ w = w' := by
  go_enter Tryz.func216, Tryz.ntmps216
  go_wp2
  go_ret
  exact ⟨by simp, rfl⟩
theorem isNaN_u32 (a : Int) (w : World) : Calls Tryz.prog 217 #[.int .u32 a] w fun e w' => e = .returned (.bool false) ∧ w = w' := by
  go_enter Tryz.func217, Tryz.ntmps217
  go_wp2
  go_ret
  exact ⟨by simp, rfl⟩

set_option maxHeartbeats 400000 in
theorem compare_int (a b : Int) (w : World) : Calls Tryz.prog 208 #[.int .i64 a, .int .i64 b] w fun e w' => e = .returned (.int .i64 (cmpI a b)) ∧ w = w' := by
  unfold cmpI
  rcases Int.lt_trichotomy a b with h | h | h
  · rw [if_pos h]
    go_enter Tryz.func208, Tryz.ntmps208
    go_wp2_with (first | (go_at_call 216; refine (isNaN_int _ _).mono ?_; rintro e w' ⟨rfl, rfl⟩))
    go_ret
    exact ⟨rfl, rfl⟩
  · subst h
    rw [if_neg (by omega), if_neg (by omega)]
    go_enter Tryz.func208, Tryz.ntmps208
    go_wp2_with (first | (go_at_call 216; refine (isNaN_int _ _).mono ?_; rintro e w' ⟨rfl, rfl⟩))
    go_ret
    exact ⟨rfl, rfl⟩
  · rw [if_neg (by omega), if_pos h]
    go_enter Tryz.func208, Tryz.ntmps208
    go_wp2_with (first | (go_at_call 216; refine (isNaN_int _ _).mono ?_; rintro e w' ⟨rfl, rfl⟩))
    go_ret
    exact ⟨rfl, rfl⟩

set_option maxHeartbeats 400000 in
theorem compare_u32 (a b : Int) (w : World) : Calls Tryz.prog 209 #[.int .u32 a, .int .u32 b] w fun e w' => e = .returned (.int .i64 (cmpI a b)) ∧ w = w' := by
  unfold cmpI
  rcases Int.lt_trichotomy a b with h | h | h
  · rw [if_pos h]
    go_enter Tryz.func209, Tryz.ntmps209
    go_wp2_with (first | (go_at_call 217; refine (isNaN_u32 _ _).mono ?_; rintro e w' ⟨rfl, rfl⟩))
    go_ret
    exact ⟨rfl, rfl⟩
  · subst h
    rw [if_neg (by omega), if_neg (by omega)]
    go_enter Tryz.func209, Tryz.ntmps209
    go_wp2_with (first | (go_at_call 217; refine (isNaN_u32 _ _).mono ?_; rintro e w' ⟨rfl, rfl⟩))
    go_ret
    exact ⟨rfl, rfl⟩
  · rw [if_neg (by omega), if_pos h]
    go_enter Tryz.func209, Tryz.ntmps209
    go_wp2_with (first | (go_at_call 217; refine (isNaN_u32 _ _).mono ?_; rintro e w' ⟨rfl, rfl⟩))
    go_ret
    exact ⟨rfl, rfl⟩

def lenOf : Value → Nat | .slice _ n _ => n | _ => 0

set_option maxHeartbeats 400000 in
theorem trim_any (a : Option Addr) (c : Nat) (l : List Nat) (w : World) (h : Lim w (.slice a l.length c) l) :
    Calls Tryz.prog 156 #[.slice a l.length c] w fun e w' => e = .returned (.slice a (trimL l).length c) ∧ w = w' := by
  obtain ⟨a', c', he, h1, h2, h3, h4⟩ := h
  cases he
  unfold maxLen at h2
  go_enter Tryz.func156, Tryz.ntmps156
  go_wp2
  go_loop [0] (fun v => ∃ k : Nat, k ≤ l.length ∧ v = .slice a k c ∧ trimL (l.take k) = trimL l) (fun v => lenOf v)
  case atStart => exact ⟨l.length, Nat.le_refl _, rfl, by rw [List.take_length]⟩
  case round =>
    obtain ⟨k, hk, rfl, ht⟩ := hrel
    have HT := Lib.hid ht
    clear ht
    rcases Nat.eq_zero_or_pos k with rfl | hpos
    · go_wp2
      go_ret
      have := HT.out
      rw [List.take_zero, trimL_nil] at this
      exact ⟨by rw [← this]; rfl, rfl⟩
    · obtain ⟨j, rfl⟩ : ∃ j, k = j + 1 := ⟨k - 1, by omega⟩
      rcases h4 with ⟨rfl, rfl, rfl⟩ | ⟨b, o, rfl, hc⟩
      · simp at hk
      · have hcell := hc j (by omega)
        clear hc
        by_cases h0 : pt l j = 0
        · have hz := trimL_take_zero (show j < l.length by omega) h0
          have HZ := Lib.hid hz
          clear hz
          have hb : ((pt l j : Int) == 0) = true := by rw [h0]; rfl
          clear h0
          go_wp2
          go_round
          case rel => exact ⟨j, by omega, by simp, HZ.out.symm.trans HT.out⟩
          case measure => simp [lenOf]
        · have hz := trimL_take_pos (show j < l.length by omega) h0
          have HZ := Lib.hid hz
          clear hz
          have hb : ((pt l j : Int) == 0) = false := by rw [beq_eq_false_iff_ne]; omega
          clear h0
          go_wp2
          go_ret
          have h5 := HZ.out.symm.trans HT.out
          have h6 : (trimL l).length = j + 1 := by rw [← h5, List.length_take]; omega
          exact ⟨by rw [h6]; rfl, rfl⟩

end Go.Proofs.YtgpoljbccimkjaaGreatDoor

namespace Go.Proofs.YtgpoljbccimkjaaGreatDoor
set_option linter.unusedSimpArgs false
set_option linter.unusedVariables false
open Go.RowKit

theorem all_take {l : List Nat} {k : Nat} (p : Nat → Bool) (hk : k < l.length) : (l.take (k + 1)).all p = ((l.take k).all p && p (pt l k)) := by
  rw [take_succ_pt hk, List.all_append]; simp
theorem all_false_of {l : List Nat} {k : Nat} (p : Nat → Bool) (hk : k < l.length) (h : p (pt l k) = false) : l.all p = false := by
  rw [List.all_eq_false]
  exact ⟨pt l k, pt_mem hk, by simp [h]⟩

theorem ret_bool {a b : Bool} (h : a = b) : Ending.returned (.bool a) = .returned (.bool b) := by rw [h]
theorem ret_int {k : IntKind} {a b : Int} (h : a = b) : Ending.returned (.int k a) = .returned (.int k b) := by rw [h]

set_option maxHeartbeats 400000 in
theorem check_any (s : Bool) (v : Value) (l : List Nat) (w : World) (h : Lim w v l) :
    Calls Tryz.prog 30 #[.agg #[.bool s, v]] w fun e w' => e = .returned (.bool (okB s l)) ∧ Below w.heap.size w w' := by
  obtain ⟨a, c, rfl, h1, h2, h3, h4⟩ := h
  unfold maxLen at h2
  rcases Nat.eq_zero_or_pos l.length with h0 | hpos
  · have ho : okB s l = !s := by unfold okB; rw [if_pos h0]
    rw [ho]
    have hl : l = [] := List.eq_nil_of_length_eq_zero h0
    subst hl
    clear h0 ho h3
    go_enter Tryz.func30, Tryz.ntmps30
    go_wp2
    go_ret
    exact ⟨rfl, (Below.refl _ _).alloc (Nat.le_refl _) _⟩
  · rcases h4 with ⟨rfl, rfl, rfl⟩ | ⟨b, o, rfl, hc⟩
    · simp at hpos
    · have hz : ((l.length : Int) == 0) = false := by rw [beq_eq_false_iff_ne]; omega
      have hcw : ∀ i, i < l.length → (w.alloc (Obj.cells #[Value.bool s, Value.slice (some { block := b, off := o }) l.length c] 24)).cell? ⟨b, o + i, none⟩ = some (.int .u32 (pt l i)) := fun i hi => cell_later ((Below.refl w.heap.size w).alloc (Nat.le_refl _) _) (hc i hi)
      have HC := Lib.hid hcw
      clear hcw hc
      have HN : Hid (0 < l.length) := hpos
      go_enter Tryz.func30, Tryz.ntmps30
      go_wp2
      go_loop [15] (fun i => ∃ k : Nat, k ≤ l.length ∧ i = .int .i64 k ∧ (l.take k).all (· < 1000000000) = true) (fun i => l.length - (intOf i).toNat)
      case atStart => exact ⟨0, Nat.zero_le _, rfl, by simp⟩
      case round =>
        obtain ⟨k, hk, rfl, ht⟩ := hrel
        have HT := Lib.hid ht
        clear ht
        by_cases hlt : k < l.length
        · have hcell := HC.out k hlt
          by_cases hb : 1000000000 ≤ pt l k
          · have hbI : (1000000000 : Int) ≤ (pt l k : Int) := by omega
            have HB : Hid (1000000000 ≤ pt l k) := hb
            clear hb
            go_wp2
            go_ret
            have hf := all_false_of (· < 1000000000) hlt (by simpa using HB.out)
            exact ⟨by unfold okB; rw [if_neg (by omega), hf]; rfl, (Below.refl _ _).alloc (Nat.le_refl _) _⟩
          · have hbI : decide ((1000000000 : Int) ≤ (pt l k : Int)) = false := decide_eq_false (by omega)
            have HB : Hid (pt l k < 1000000000) := Nat.not_le.1 hb
            clear hb
            go_wp2
            go_round
            case rel => exact ⟨k + 1, by omega, by go_num, by rw [all_take _ hlt, HT.out]; simpa using HB.out⟩
            case measure => simp [intOf]; omega
        · have hall : l.all (· < 1000000000) = true := by have := HT.out; rwa [List.take_of_length_le (by omega)] at this
          have HA := Lib.hid hall
          have hcell := HC.out (l.length - 1) (by omega)
          clear hall
          go_wp2
          go_ret
          have e1 : (((pt l (l.length - 1) : Nat) : Int) != 0) = (pt l (l.length - 1) != 0) := by rw [Bool.eq_iff_iff, bne_iff_ne, bne_iff_ne]; omega
          exact ⟨ret_bool (by unfold okB; rw [if_neg (by omega), HA.out]; exact e1), (Below.refl _ _).alloc (Nat.le_refl _) _⟩

end Go.Proofs.YtgpoljbccimkjaaGreatDoor

namespace Go.Proofs.YtgpoljbccimkjaaGreatDoor
set_option linter.unusedSimpArgs false
set_option linter.unusedVariables false
open Go.RowKit

theorem Lim.nil (w : World) : Lim w (.slice none 0 0) [] := ⟨none, 0, rfl, Nat.le_refl _, Nat.zero_le _, by simp, .inl ⟨rfl, rfl, rfl⟩⟩

theorem bcell {W w1 : World} (hb : Below W.heap.size W w1) : (∀ b o, b < W.heap.size → w1.cell? ⟨b, o, none⟩ = W.cell? ⟨b, o, none⟩) ∧ (∀ b o, b < W.heap.size → w1.frozen? ⟨b, o, none⟩ = W.frozen? ⟨b, o, none⟩) :=
  ⟨fun b o h => hb.cell (p := ⟨b, o, none⟩) h, fun b o h => hb.frozen (p := ⟨b, o, none⟩) h⟩

set_option maxHeartbeats 400000 in
theorem orNought_any (s : Bool) (v : Value) (l : List Nat) (w : World) (h : Lim w v l) :
    Calls Tryz.prog 76 #[.agg #[.bool s, v]] w fun e w' => ∃ v', e = .returned (.agg #[.bool (fitS s l), v']) ∧ Lim w' v' (fitL s l) ∧ Below w.heap.size w w' := by
  have hl2 : ∀ x, Lim ((w.alloc (Obj.cells #[Value.bool s, v] 24)).alloc x) v l := fun x => h.below (((Below.refl _ _).alloc (Nat.le_refl _) _).alloc (by simp) _)
  have HL := Lib.hid hl2
  have H := Lib.hid h
  clear hl2
  cases ho : okB s l with
  | true =>
    have e1 : fitS s l = s := by unfold fitS; rw [if_pos ho]
    have e2 : fitL s l = l := by unfold fitL; rw [if_pos ho]
    rw [e1, e2]
    have HO := Lib.hid ho
    clear ho e1 e2
    obtain ⟨a, c, rfl, h1, h2, h3, h4⟩ := h
    clear h4
    go_enter Tryz.func76, Tryz.ntmps76
    go_wp2_with fail
    refine (check_any s _ l _ (HL.out _)).mono ?_
    rintro e w1 ⟨rfl, hb⟩
    rw [HO.out]
    obtain ⟨hc, hf⟩ := bcell hb
    have hz : w.heap.size + 1 < w1.heap.size := by have := hb.size; simp at this; omega
    go_wp2
    refine bodyPost_ret (v := .agg #[.bool s, .slice a l.length c]) (by simp [results, Tryz.results76, go_sem, hc, hz]) rfl ⟨_, rfl, ?_⟩
    have hB : Below w.heap.size w ((w1.setCell { block := w.heap.size + 1, off := 0 } (Value.bool s)).setCell { block := w.heap.size + 1, off := 1 } (Value.slice a l.length c)) := (by repeat (first | exact Below.refl _ _ | with_reducible refine Below.drew ?_ | with_reducible refine below_drewN ?_ _ | with_reducible refine Below.setCell ?_ (by first | (simp; done) | (simp; omega) | omega) _ | with_reducible refine Below.alloc ?_ (by first | (simp; done) | (simp; omega) | omega) _ | (with_reducible refine Below.step ?_ hb)))
    exact ⟨H.out.below hB, hB⟩
  | false =>
    have e1 : fitS s l = false := by unfold fitS; rw [ho]; rfl
    have e2 : fitL s l = [] := by unfold fitL; rw [ho]; rfl
    rw [e1, e2]
    have HO := Lib.hid ho
    clear ho e1 e2
    obtain ⟨a, c, rfl, h1, h2, h3, h4⟩ := h
    clear h4
    go_enter Tryz.func76, Tryz.ntmps76
    go_wp2_with fail
    refine (check_any s _ l _ (HL.out _)).mono ?_
    rintro e w1 ⟨rfl, hb⟩
    rw [HO.out]
    obtain ⟨hc, hf⟩ := bcell hb
    have hz : w.heap.size + 1 < w1.heap.size := by have := hb.size; simp at this; omega
    go_wp2
    refine bodyPost_ret (v := .agg #[.bool false, .slice none 0 0]) (by simp [results, Tryz.results76, go_sem, hc, hz]) rfl ⟨_, rfl, Lim.nil _, (by repeat (first | exact Below.refl _ _ | with_reducible refine Below.drew ?_ | with_reducible refine below_drewN ?_ _ | with_reducible refine Below.setCell ?_ (by first | (simp; done) | (simp; omega) | omega) _ | with_reducible refine Below.alloc ?_ (by first | (simp; done) | (simp; omega) | omega) _ | (with_reducible refine Below.step ?_ hb)))⟩

end Go.Proofs.YtgpoljbccimkjaaGreatDoor

namespace Go.Proofs.YtgpoljbccimkjaaGreatDoor
set_option linter.unusedSimpArgs false
set_option linter.unusedVariables false
open Go.RowKit

/-- The parts as cells. -/
def u32s (l : List Nat) : List Value := l.map fun (x : Nat) => Value.int .u32 (x : Int)
theorem u32s_length (l : List Nat) : (u32s l).length = l.length := by simp [u32s]
theorem u32s_get (l : List Nat) (i : Nat) (h : i < l.length) : (u32s l)[i]? = some (.int .u32 (pt l i)) := by
  unfold u32s; rw [List.getElem?_map, List.getElem?_eq_getElem h, pt_getElem h]; rfl

/-- A row of the call's own, from block n on, that reads as l. -/
def OwnL (n : Nat) (w : World) (v : Value) (l : List Nat) : Prop :=
  w.ownsRow n 99 1 v l.length (u32s l) ∧ ∀ x ∈ l, x < 4294967296

theorem OwnL.lim {n : Nat} {w : World} {v : Value} {l : List Nat} (h : OwnL n w v l) : Lim w v l := by
  obtain ⟨⟨_, h1⟩, h2⟩ := h
  rcases h1 with ⟨rfl, hn⟩ | ⟨g, cap, cur, rfl, hb, hg, hl, hm, hs, ht⟩
  · have : l = [] := List.eq_nil_of_length_eq_zero hn
    subst this
    exact Lim.nil w
  · refine ⟨some ⟨g, 0, none⟩, cap, rfl, hl, hm, h2, .inr ⟨g, 0, rfl, fun i hi => ?_⟩⟩
    rw [cell_of_row w g (0 + i) cur _ (0, 0) hg]
    have h3 : (cur.toList.take (l.length * 1))[i]? = some (Value.int .u32 (pt l i)) := by
      rw [ht]; exact u32s_get l i hi
    rw [List.getElem?_take] at h3
    split at h3
    · simpa using h3
    · cases h3

theorem OwnL.nil (n : Nat) (w : World) : OwnL n w (.slice none 0 0) [] := ⟨World.ownsRow_nil w n _ 1, by simp⟩

theorem OwnL.mono {n m : Nat} {w : World} {v : Value} {l : List Nat} (h : OwnL n w v l) (hm : m ≤ n) : OwnL m w v l := by
  obtain ⟨⟨h0, h1⟩, h2⟩ := h
  refine ⟨⟨h0, ?_⟩, h2⟩
  rcases h1 with h1 | ⟨g, cap, cur, hv, hb, r⟩
  · exact .inl h1
  · exact .inr ⟨g, cap, cur, hv, by omega, r⟩

theorem OwnL.below {n : Nat} {w w' : World} {v : Value} {l : List Nat} (h : OwnL n w v l) (hb : Below w.heap.size w w') : OwnL n w' v l := by
  obtain ⟨⟨h0, h1⟩, h2⟩ := h
  refine ⟨⟨h0, ?_⟩, h2⟩
  rcases h1 with h1 | ⟨g, cap, cur, hv, hg, hh, r⟩
  · exact .inl h1
  · exact .inr ⟨g, cap, cur, hv, hg, by rw [hb.block g (Array.getElem?_eq_some_iff.1 hh).1]; exact hh, r⟩

/-- A shorter front of it. -/
theorem OwnL.take {n : Nat} {w : World} {a : Option Addr} {c : Nat} {l : List Nat} (h : OwnL n w (.slice a l.length c) l) (k : Nat) (hk : k ≤ l.length) (hc : a = none → k = 0) : OwnL n w (.slice a k c) (l.take k) := by
  obtain ⟨⟨h0, h1⟩, h2⟩ := h
  have hlen : (l.take k).length = k := by rw [List.length_take]; omega
  refine ⟨⟨by rw [u32s_length]; omega, ?_⟩, fun x hx => h2 x (List.mem_of_mem_take hx)⟩
  rcases h1 with ⟨hv, hl⟩ | ⟨g, cap, cur, hv, hg, hh, hcap, hm, hs, ht⟩
  · injection hv with ha hl2 hc2
    have := hc ha
    subst this
    subst ha
    subst hc2
    exact .inl ⟨rfl, by simp⟩
  · injection hv with ha hl2 hc2
    subst ha
    subst hc2
    refine .inr ⟨g, _, cur, by rw [hlen], hg, hh, by omega, hm, hs, ?_⟩
    rw [hlen]
    unfold u32s at ht ⊢
    rw [List.map_take, ← ht, List.take_take]
    congr 1
    omega

def sgn (s : Bool) : Int := if s then -1 else 1

set_option maxHeartbeats 400000 in
theorem signOf_any (s : Bool) (v : Value) (l : List Nat) (w : World) (h : Lim w v l) :
    Calls Tryz.prog 73 #[.agg #[.bool s, v]] w fun e w' => e = .returned (.int .i64 (sgn s)) ∧ Below w.heap.size w w' := by
  obtain ⟨a, c, rfl, h1, h2, h3, h4⟩ := h
  clear h4
  unfold sgn
  cases s with
  | true =>
    go_enter Tryz.func73, Tryz.ntmps73
    go_wp2
    go_ret
    exact ⟨rfl, (by repeat (first | exact Below.refl _ _ | with_reducible refine Below.drew ?_ | with_reducible refine below_drewN ?_ _ | with_reducible refine Below.setCell ?_ (by first | (simp; done) | (simp; omega) | omega) _ | with_reducible refine Below.alloc ?_ (by first | (simp; done) | (simp; omega) | omega) _))⟩
  | false =>
    go_enter Tryz.func73, Tryz.ntmps73
    go_wp2
    go_ret
    exact ⟨rfl, (by repeat (first | exact Below.refl _ _ | with_reducible refine Below.drew ?_ | with_reducible refine below_drewN ?_ _ | with_reducible refine Below.setCell ?_ (by first | (simp; done) | (simp; omega) | omega) _ | with_reducible refine Below.alloc ?_ (by first | (simp; done) | (simp; omega) | omega) _))⟩

set_option maxHeartbeats 400000 in
theorem twoParts_any (v : Value) (l : List Nat) (i : Int) (w : World) (h : Lim w v l) (hb : ∀ x ∈ l, x < 1000000000) (hi : -9223372036854775808 < i) (hi2 : i ≤ 9223372036854775807) :
    Calls Tryz.prog 159 #[v, .int .i64 i] w fun e w' => e = .returned (.int .i64 ((ptI l i : Int) * 1000000000 + ptI l (i - 1))) ∧ w = w' := by
  have H := Lib.hid h
  obtain ⟨a, c, rfl, h1, h2, h3, h4⟩ := h
  clear h4 h3
  have b0 : ∀ j, (ptI l j : Int) < 1000000000 := fun j => by
    unfold ptI
    split
    · decide
    · have := pt_lt (by decide) hb j.toNat; omega
  have b1 := b0 i
  have b2 := b0 (i - 1)
  clear b0 hb
  go_enter Tryz.func159, Tryz.ntmps159
  go_wp2_with fail
  refine (at_any _ l i _ H.out).mono ?_
  rintro e w' ⟨rfl, rfl⟩
  go_wp2_with fail
  refine (at_any _ l (i - 1) _ H.out).mono ?_
  rintro e w' ⟨rfl, rfl⟩
  go_wp2
  go_ret
  exact ⟨rfl, rfl⟩

set_option maxHeartbeats 400000 in
theorem number_any (s : Bool) (a : Option Addr) (c : Nat) (l : List Nat) (n : Nat) (w : World) (h : OwnL n w (.slice a l.length c) l) :
    Calls Tryz.prog 71 #[.bool s, .slice a l.length c] w fun e w' => ∃ v', e = .returned (.agg #[.bool (s && (trimL l).length != 0), v']) ∧ OwnL n w' v' (trimL l) ∧ Below w.heap.size w w' ∧ ∀ g, v'.ownBlock = some g → (Value.slice a l.length c).ownBlock = some g := by
  have hl2 : ∀ x, Lim (w.alloc x) (.slice a l.length c) l := fun x => h.lim.below ((Below.refl _ _).alloc (Nat.le_refl _) _)
  have HL := Lib.hid hl2
  have H := Lib.hid h
  clear hl2
  obtain ⟨a', c', he, h1, h2, h3, h4⟩ := h.lim
  cases he
  clear h h4
  cases h0 : (trimL l).length with
  | zero =>
    have e1 : trimL l = [] := List.eq_nil_of_length_eq_zero h0
    rw [e1]
    have H0 := Lib.hid h0
    clear h0 e1
    go_enter Tryz.func71, Tryz.ntmps71
    go_wp2_with fail
    refine (trim_any a c l _ (HL.out _)).mono ?_
    rintro e w1 ⟨rfl, rfl⟩
    rw [H0.out]
    go_wp2
    refine bodyPost_ret (v := .agg #[.bool false, .slice none 0 0]) (by simp [results, Tryz.results71, go_sem]) rfl ⟨_, by simp, OwnL.nil _ _, (by repeat (first | exact Below.refl _ _ | with_reducible refine Below.drew ?_ | with_reducible refine below_drewN ?_ _ | with_reducible refine Below.setCell ?_ (by first | (simp; done) | (simp; omega) | omega) _ | with_reducible refine Below.alloc ?_ (by first | (simp; done) | (simp; omega) | omega) _)), fun g e => by cases e⟩
  | succ k =>
    have H0 := Lib.hid h0
    have hz : ((k : Int) + 1 == 0) = false := by rw [beq_eq_false_iff_ne]; omega
    clear h0
    go_enter Tryz.func71, Tryz.ntmps71
    go_wp2_with fail
    refine (trim_any a c l _ (HL.out _)).mono ?_
    rintro e w1 ⟨rfl, rfl⟩
    rw [H0.out]
    go_wp2
    refine bodyPost_ret (v := .agg #[.bool s, .slice a (k + 1) c]) (by simp [results, Tryz.results71, go_sem]) rfl ⟨.slice a (k + 1) c, by rw [Bool.and_comm]; simp, ?_, (by repeat (first | exact Below.refl _ _ | with_reducible refine Below.drew ?_ | with_reducible refine below_drewN ?_ _ | with_reducible refine Below.setCell ?_ (by first | (simp; done) | (simp; omega) | omega) _ | with_reducible refine Below.alloc ?_ (by first | (simp; done) | (simp; omega) | omega) _)), fun g e => by cases a <;> exact e⟩
    have hk : k + 1 ≤ l.length := by have := trimL_length_le l; have := H0.out; omega
    have ht := OwnL.take H.out (k + 1) hk (by
      intro ha
      obtain ⟨a', c', he, _, _, _, h4⟩ := H.out.lim
      injection he with e1 e2 e3
      subst e1
      rcases h4 with ⟨_, hl, _⟩ | ⟨b, o, hb, _⟩
      · subst hl; simp at hk
      · rw [ha] at hb; cases hb)
    have e1 : trimL l = l.take (k + 1) := by have := trimL_eq_take l; rwa [H0.out] at this
    rw [e1]
    exact ht.below (by repeat (first | exact Below.refl _ _ | with_reducible refine Below.drew ?_ | with_reducible refine below_drewN ?_ _ | with_reducible refine Below.setCell ?_ (by first | (simp; done) | (simp; omega) | omega) _ | with_reducible refine Below.alloc ?_ (by first | (simp; done) | (simp; omega) | omega) _))

end Go.Proofs.YtgpoljbccimkjaaGreatDoor

namespace Go.Proofs.YtgpoljbccimkjaaGreatDoor
set_option linter.unusedSimpArgs false
set_option linter.unusedVariables false
open Go.RowKit

/-- In the world behind some draws. -/
theorem Lim.drewN {w : World} {v : Value} {l : List Nat} (h : Lim w v l) (k : Nat) : Lim (w.drewN k) v l := by
  obtain ⟨a, c, rfl, h1, h2, h3, h4⟩ := h
  exact ⟨a, c, rfl, h1, h2, h3, h4⟩

set_option maxHeartbeats 400000 in
theorem SameLimbs_any (va vb : Value) (la lb : List Nat) (w : World) (ha : Lim w va la) (hb : Lim w vb lb) :
    Calls Tryz.prog 81 #[va, vb] w fun e w' => e = .returned (.bool (decide (la = lb))) ∧ ∃ k, w' = w.drewN k := by
  obtain ⟨a, c, rfl, h1, h2, h3, h4⟩ := ha
  obtain ⟨a', c', rfl, h1', h2', h3', h4'⟩ := hb
  unfold maxLen at h2 h2'
  by_cases hl : la.length = lb.length
  · have hbne : ((la.length : Int) != (lb.length : Int)) = false := by rw [hl]; simp
    have HL := Lib.hid hl
    have hle : la.length ≤ lb.length := by omega
    have HC : Hid (∀ i, i < la.length → ∃ b o b' o', a = some ⟨b, o, none⟩ ∧ a' = some ⟨b', o', none⟩ ∧ w.cell? ⟨b, o + i, none⟩ = some (.int .u32 (pt la i)) ∧ w.cell? ⟨b', o' + i, none⟩ = some (.int .u32 (pt lb i))) := by
      intro i hi
      rcases h4 with ⟨_, rfl, _⟩ | ⟨b, o, rfl, hc⟩
      · simp at hi
      rcases h4' with ⟨_, rfl, _⟩ | ⟨b', o', rfl, hc'⟩
      · simp at hl; simp [hl] at hi
      exact ⟨b, o, b', o', rfl, rfl, hc i hi, hc' i (by omega)⟩
    clear hl h4 h4' h3 h3'
    go_enter Tryz.func81, Tryz.ntmps81
    go_wp2
    go_loopw [5] (fun i wr => ∃ k n : Nat, k ≤ la.length ∧ i = .int .i64 k ∧ la.take k = lb.take k ∧ wr = w.drewN n) (fun i _ => la.length - (intOf i).toNat)
    case atStart => exact ⟨0, 0, Nat.zero_le _, rfl, by simp, rfl⟩
    case round =>
      obtain ⟨k, n, hk, rfl, ht, rfl⟩ := hrel
      have HT := Lib.hid ht
      clear ht
      by_cases hlt : k < la.length
      · obtain ⟨b, o, b', o', rfl, rfl, hc1, hc2⟩ := HC.out k hlt
        have hk2 : k < lb.length := by omega
        have hkI : (k : Int) < (la.length : Int) := by omega
        have hkJ : (k : Int) < (lb.length : Int) := by omega
        by_cases he : pt la k = pt lb k
        · have hne : ((pt la k : Int) != (pt lb k : Int)) = false := by rw [he]; simp
          have HE := Lib.hid he
          clear he
          go_wp2
          go_quiet (fail)
          go_wp2
          go_roundw
          case rel => exact ⟨k + 1, _, by omega, by go_num, by rw [take_succ_pt (by omega), take_succ_pt (by omega), HT.out, HE.out], rfl⟩
          case measure => simp [intOf]; omega
        · have hne : ((pt la k : Int) != (pt lb k : Int)) = true := by rw [bne_iff_ne]; omega
          have HE := Lib.hid he
          clear he
          go_wp2
          go_quiet (fail)
          go_wp2
          go_ret
          refine ⟨ret_bool ?_, n + nq, by rw [World.drewN_drewN]⟩
          have hd : la ≠ lb := fun h => HE.out (by rw [h])
          simp [hd]
      · go_wp2
        go_ret
        have hab : la = lb := by
          have h5 := HT.out
          rw [List.take_of_length_le (by omega), List.take_of_length_le (by have := HL.out; omega)] at h5
          exact h5
        exact ⟨ret_bool (by simp [hab]), _, rfl⟩
  · have hbne : ((la.length : Int) != (lb.length : Int)) = true := by rw [bne_iff_ne]; omega
    have HL : Hid (¬ la.length = lb.length) := hl
    clear hl h4 h4' h3 h3'
    go_enter Tryz.func81, Tryz.ntmps81
    go_wp2
    go_ret
    have hd : la ≠ lb := fun h => HL.out (by rw [h])
    exact ⟨ret_bool (by simp [hd]), 0, rfl⟩

end Go.Proofs.YtgpoljbccimkjaaGreatDoor
