/- Walks: a number of 64 bits, or a mark; whether one of some numbers has too many parts. -/
import Derived.Test.YtejlhefjphiahaaDoorBack
namespace Go.Proofs.YtejlhefjphiahaaDoor
open Go.RowKit Go.Shelf

set_option maxHeartbeats 1000000 in
theorem whole_is (s : Bool) (v : Value) (l : List Nat) (w : World) (h : Lim w v l) (ho : okB s l = true) (h1 : -9223372036854775808 ≤ valS s l) (h2 : valS s l ≤ 9223372036854775807) :
    Calls Tryd.prog 24 #[.agg #[.bool s, v]] w fun e w' => e = .returned (.int .i64 (valS s l)) ∧ Below w.heap.size w w' := by
  have HL : Hid (∀ W, Below w.heap.size w W → Lim W v l) := fun W hb => h.below hb
  have HO := Lib.hid ho
  have H1 := Lib.hid h1
  have H2 := Lib.hid h2
  obtain ⟨a, c, rfl, -⟩ := h
  clear ho h1 h2
  go_enter Tryd.func24, Tryd.ntmps24
  go_wp2_with fail
  refine (Back_ok s _ l _ (HL.out _ (by repeat (first | exact Below.refl _ _ | with_reducible refine Below.drew ?_ | with_reducible refine below_drewN ?_ _ | with_reducible refine Below.setCell ?_ (by first | (simp; done) | (simp; omega) | omega) _ | with_reducible refine Below.alloc ?_ (by first | (simp; done) | (simp; omega) | omega) _))) HO.out).mono ?_
  rintro e w1 ⟨-, he, hb⟩
  have he' := he ⟨H1.out, H2.out⟩
  subst he'
  clear he
  go_wp2
  go_ret
  exact ⟨rfl, (by repeat (first | exact Below.refl _ _ | with_reducible refine Below.drew ?_ | with_reducible refine below_drewN ?_ _ | with_reducible refine Below.setCell ?_ (by first | (simp; done) | (simp; omega) | omega) _ | with_reducible refine Below.alloc ?_ (by first | (simp; done) | (simp; omega) | omega) _ | (with_reducible refine Below.step ?_ hb)))⟩

set_option maxHeartbeats 1000000 in
theorem greatNum_any (most : Nat) (b : Nat) (lens : List Nat) (w : World) (hn : lens.length ≤ 1000) (hm : most ≤ 1000000) (hc : ∀ i, i < lens.length → pt lens i ≤ 9223372036854775807 ∧ ∃ a c, w.cell? ⟨b, i * 2 + 1, none⟩ = some (.slice a (pt lens i) c)) :
    Calls Tryd.prog 12 #[.int .i64 most, .slice (some ⟨b, 0, none⟩) lens.length lens.length] w fun e w' => e = .returned (.bool (lens.any fun n => decide (most < n))) ∧ w = w' := by
  have HC := Lib.hid hc
  clear hc
  go_enter Tryd.func12, Tryd.ntmps12
  go_wp2_with fail
  go_loop [5] (fun i => ∃ k : Nat, k ≤ lens.length ∧ i = .int .i64 k ∧ (lens.take k).any (fun n => decide (most < n)) = false) (fun i => lens.length - (intOf i).toNat)
  case atStart => exact ⟨0, Nat.zero_le _, rfl, by simp⟩
  case round =>
    obtain ⟨k, hk, rfl, ht⟩ := hrel
    have HT := Lib.hid ht
    clear ht
    by_cases hlt : k < lens.length
    · obtain ⟨hb, a, c, hcell⟩ := HC.out k hlt
      by_cases hg : most < pt lens k
      · have hgI : (most : Int) < (pt lens k : Int) := by omega
        have HG := Lib.hid hg
        clear hg
        go_wp2_with fail
        go_ret
        exact ⟨ret_bool (by
          symm
          rw [List.any_eq_true]
          exact ⟨_, pt_mem hlt, by simpa using HG.out⟩), rfl⟩
      · have hgI : (pt lens k : Int) ≤ (most : Int) := by omega
        have HG : Hid (¬ most < pt lens k) := hg
        clear hg
        go_wp2_with fail
        go_round
        case rel => exact ⟨k + 1, by omega, by go_num, by rw [take_succ_pt hlt, List.any_append, HT.out]; simpa using HG.out⟩
        case measure => simp [intOf]; omega
    · go_wp2_with fail
      go_ret
      exact ⟨ret_bool (by have := HT.out; rw [List.take_of_length_le (by omega)] at this; exact this.symm), rfl⟩

set_option maxHeartbeats 1000000 in
theorem Beyond_one (n : Nat) (b : Nat) (w : World) (hn : n ≤ 9223372036854775807) (hc : w.cell? ⟨b, 0, none⟩ = some (.int .i64 n)) :
    Calls Tryd.prog 25 #[.slice (some ⟨b, 0, none⟩) 1 1] w fun e w' => e = .returned (.bool (decide (1048576 < n))) ∧ w = w' := by
  by_cases hb : 1048576 < n
  · have hbI : (1048577 : Int) ≤ (n : Int) := by omega
    have HB : Hid (decide (1048576 < n) = true) := decide_eq_true hb
    clear hb
    go_enter Tryd.func25, Tryd.ntmps25
    go_wp2_with fail
    go_loop [3, 4] (fun s i => s = .int .i64 0 ∧ i = .int .i64 0) (fun _ _ => 0)
    case atStart => exact ⟨rfl, rfl⟩
    case round =>
      obtain ⟨rfl, rfl⟩ := hrel
      go_wp2_with fail
      go_ret
      exact ⟨ret_bool HB.out.symm, rfl⟩
  · have hbI : (n : Int) ≤ (1048576 : Int) := by omega
    have HB : Hid (decide (1048576 < n) = false) := decide_eq_false hb
    clear hb
    go_enter Tryd.func25, Tryd.ntmps25
    go_wp2_with fail
    go_loop [3, 4] (fun s i => (s = .int .i64 0 ∧ i = .int .i64 0) ∨ (s = .int .i64 n ∧ i = .int .i64 1)) (fun _ i => (1 - intOf i).toNat)
    case atStart => exact .inl ⟨rfl, rfl⟩
    case round =>
      rcases hrel with ⟨rfl, rfl⟩ | ⟨rfl, rfl⟩
      · go_wp2_with fail
        go_round
        case rel => exact .inr ⟨rfl, rfl⟩
        case measure => simp [intOf]
      · go_wp2_with fail
        go_ret
        exact ⟨ret_bool HB.out.symm, rfl⟩

end Go.Proofs.YtejlhefjphiahaaDoor
