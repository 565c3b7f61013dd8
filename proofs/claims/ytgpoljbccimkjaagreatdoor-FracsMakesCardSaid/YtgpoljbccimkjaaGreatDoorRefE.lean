/- Walks of the reference of layer 1: the sign of a number, the order of two. -/
import Derived.Test.YtgpoljbccimkjaaGreatDoorBack
namespace Go.Proofs.YtgpoljbccimkjaaGreatDoor
set_option linter.unusedSimpArgs false
set_option linter.unusedVariables false
open Go.RowKit Go.Shelf

theorem Lim.take {w : World} {a : Option Addr} {c : Nat} {l : List Nat} (h : Lim w (.slice a l.length c) l) (k : Nat) (hk : k ≤ l.length) : Lim w (.slice a k c) (l.take k) := by
  obtain ⟨a', c', he, h1, h2, h3, h4⟩ := h
  injection he with e1 e2 e3
  subst e1
  subst e3
  have hlen : (l.take k).length = k := by rw [List.length_take]; omega
  refine ⟨a, c, by rw [hlen], by omega, h2, fun x hx => h3 x (List.mem_of_mem_take hx), ?_⟩
  rcases h4 with ⟨ha, hl, hc⟩ | ⟨b, o, ha, hc⟩
  · subst hl
    exact .inl ⟨ha, by simp, hc⟩
  · refine .inr ⟨b, o, ha, fun i hi => ?_⟩
    rw [hlen] at hi
    rw [pt_take hi]
    exact hc i (by omega)
theorem Lim.trim {w : World} {a : Option Addr} {c : Nat} {l : List Nat} (h : Lim w (.slice a l.length c) l) : Lim w (.slice a (trimL l).length c) (trimL l) := by
  have := h.take (trimL l).length (trimL_length_le l)
  rwa [← trimL_eq_take] at this

set_option maxHeartbeats 400000 in
theorem rCheck_any (s : Bool) (v : Value) (l : List Nat) (w : World) (h : Lim w v l) :
    Calls Tryz.prog 31 #[.agg #[.bool s, v]] w fun e w' => e = .returned (.bool (okB s l)) ∧ Below w.heap.size w w' := by
  obtain ⟨a, c, rfl, h1, h2, h3, h4⟩ := h
  unfold maxLen at h2
  rcases Nat.eq_zero_or_pos l.length with h0 | hpos
  · have ho : okB s l = !s := by unfold okB; rw [if_pos h0]
    rw [ho]
    have hl : l = [] := List.eq_nil_of_length_eq_zero h0
    subst hl
    clear h0 ho h3
    go_enter Tryz.func31, Tryz.ntmps31
    go_wp2
    go_loop [3] (fun i => i = .int .i64 0) (fun i => 0)
    case atStart => rfl
    case round =>
      obtain rfl := hrel
      go_wp2
      go_ret
      exact ⟨rfl, (Below.refl _ _).alloc (Nat.le_refl _) _⟩
  · rcases h4 with ⟨rfl, rfl, rfl⟩ | ⟨b, o, rfl, hc⟩
    · simp at hpos
    · have hz : ((l.length : Int) == 0) = false := by rw [beq_eq_false_iff_ne]; omega
      have hcw : ∀ i, i < l.length → (w.alloc (Obj.cells #[Value.bool s, Value.slice (some { block := b, off := o }) l.length c] 24)).cell? ⟨b, o + i, none⟩ = some (.int .u32 (pt l i)) := fun i hi => cell_later ((Below.refl w.heap.size w).alloc (Nat.le_refl _) _) (hc i hi)
      have HC := Lib.hid hcw
      clear hcw hc
      have HN : Hid (0 < l.length) := hpos
      go_enter Tryz.func31, Tryz.ntmps31
      go_wp2
      go_loop [3] (fun i => ∃ k : Nat, k ≤ l.length ∧ i = .int .i64 k ∧ (l.take k).all (· < 1000000000) = true) (fun i => l.length - (intOf i).toNat)
      case atStart => exact ⟨0, Nat.zero_le _, rfl, by simp⟩
      case round =>
        obtain ⟨k, hk, rfl, ht⟩ := hrel
        have HT := Lib.hid ht
        clear ht
        by_cases hlt : k < l.length
        · have hcell := HC.out k hlt
          by_cases hb : 1000000000 ≤ pt l k
          · have hbI : (1000000000 : Int) ≤ (pt l k : Int) := by omega
            have HB : Hid (1000000000 ≤ pt l k) := hb
            clear hb
            go_wp2
            go_ret
            have hf := all_false_of (· < 1000000000) hlt (by simpa using HB.out)
            exact ⟨by unfold okB; rw [if_neg (by omega), hf]; rfl, (Below.refl _ _).alloc (Nat.le_refl _) _⟩
          · have hbI : decide ((1000000000 : Int) ≤ (pt l k : Int)) = false := decide_eq_false (by omega)
            have HB : Hid (pt l k < 1000000000) := Nat.not_le.1 hb
            clear hb
            go_wp2
            go_round
            case rel => exact ⟨k + 1, by omega, by go_num, by rw [all_take _ hlt, HT.out]; simpa using HB.out⟩
            case measure => simp [intOf]; omega
        · have hall : l.all (· < 1000000000) = true := by have := HT.out; rwa [List.take_of_length_le (by omega)] at this
          have HA := Lib.hid hall
          have hcell := HC.out (l.length - 1) (by omega)
          clear hall
          go_wp2
          go_ret
          have e1 : (((pt l (l.length - 1) : Nat) : Int) != 0) = (pt l (l.length - 1) != 0) := by rw [Bool.eq_iff_iff, bne_iff_ne, bne_iff_ne]; omega
          exact ⟨ret_bool (by unfold okB; rw [if_neg (by omega), HA.out]; exact e1), (Below.refl _ _).alloc (Nat.le_refl _) _⟩

set_option maxHeartbeats 400000 in
theorem rFit_any (s : Bool) (v : Value) (l : List Nat) (w : World) (h : Lim w v l) :
    Calls Tryz.prog 83 #[.agg #[.bool s, v]] w fun e w' => ∃ v', e = .returned (.agg #[.bool (fitS s l), v']) ∧ Lim w' v' (fitL s l) ∧ Below w.heap.size w w' := by
  have hl2 : ∀ x, Lim ((w.alloc (Obj.cells #[Value.bool s, v] 24)).alloc x) v l := fun x => h.below (((Below.refl _ _).alloc (Nat.le_refl _) _).alloc (by simp) _)
  have HL := Lib.hid hl2
  have H := Lib.hid h
  clear hl2
  cases ho : okB s l with
  | true =>
    have e1 : fitS s l = s := by unfold fitS; rw [if_pos ho]
    have e2 : fitL s l = l := by unfold fitL; rw [if_pos ho]
    rw [e1, e2]
    have HO := Lib.hid ho
    clear ho e1 e2
    obtain ⟨a, c, rfl, h1, h2, h3, h4⟩ := h
    clear h4
    go_enter Tryz.func83, Tryz.ntmps83
    go_wp2_with fail
    refine (rCheck_any s _ l _ (HL.out _)).mono ?_
    rintro e w1 ⟨rfl, hb⟩
    rw [HO.out]
    obtain ⟨hc, hf⟩ := bcell hb
    have hz : w.heap.size + 1 < w1.heap.size := by have := hb.size; simp at this; omega
    go_wp2
    refine bodyPost_ret (v := .agg #[.bool s, .slice a l.length c]) (by simp [results, Tryz.results83, go_sem, hc, hz]) rfl ⟨_, rfl, ?_⟩
    have hB : Below w.heap.size w ((w1.setCell { block := w.heap.size + 1, off := 0 } (Value.bool s)).setCell { block := w.heap.size + 1, off := 1 } (Value.slice a l.length c)) := (by repeat (first | exact Below.refl _ _ | with_reducible refine Below.drew ?_ | with_reducible refine below_drewN ?_ _ | with_reducible refine Below.setCell ?_ (by first | (simp; done) | (simp; omega) | omega) _ | with_reducible refine Below.alloc ?_ (by first | (simp; done) | (simp; omega) | omega) _ | (with_reducible refine Below.step ?_ hb)))
    exact ⟨H.out.below hB, hB⟩
  | false =>
    have e1 : fitS s l = false := by unfold fitS; rw [ho]; rfl
    have e2 : fitL s l = [] := by unfold fitL; rw [ho]; rfl
    rw [e1, e2]
    have HO := Lib.hid ho
    clear ho e1 e2
    obtain ⟨a, c, rfl, h1, h2, h3, h4⟩ := h
    clear h4
    go_enter Tryz.func83, Tryz.ntmps83
    go_wp2_with fail
    refine (rCheck_any s _ l _ (HL.out _)).mono ?_
    rintro e w1 ⟨rfl, hb⟩
    rw [HO.out]
    obtain ⟨hc, hf⟩ := bcell hb
    have hz : w.heap.size + 1 < w1.heap.size := by have := hb.size; simp at this; omega
    go_wp2
    refine bodyPost_ret (v := .agg #[.bool false, .slice none 0 0]) (by simp [results, Tryz.results83, go_sem, hc, hz]) rfl ⟨_, rfl, Lim.nil _, (by repeat (first | exact Below.refl _ _ | with_reducible refine Below.drew ?_ | with_reducible refine below_drewN ?_ _ | with_reducible refine Below.setCell ?_ (by first | (simp; done) | (simp; omega) | omega) _ | with_reducible refine Below.alloc ?_ (by first | (simp; done) | (simp; omega) | omega) _ | (with_reducible refine Below.step ?_ hb)))⟩

end Go.Proofs.YtgpoljbccimkjaaGreatDoor

namespace Go.Proofs.YtgpoljbccimkjaaGreatDoor
set_option linter.unusedSimpArgs false
set_option linter.unusedVariables false
open Go.RowKit Go.Shelf

/-- It answers a number of Z, in memory that may be another one's. -/
def AnsR (w' : World) (e : Ending) (k : Nat) (Z : Int) : Prop := ∃ s v l, e = .returned (.agg #[.bool s, v]) ∧ Lim w' v l ∧ okB s l = true ∧ valS s l = Z ∧ Z.natAbs < 1000000000 ^ k

set_option maxHeartbeats 800000 in
theorem rnum_any (s : Bool) (a : Option Addr) (c : Nat) (l : List Nat) (w : World) (h : Lim w (.slice a l.length c) l) :
    Calls Tryz.prog 78 #[.bool s, .slice a l.length c] w fun e w' => e = .returned (.agg #[.bool (s && (trimL l).length != 0), .slice a (trimL l).length c]) ∧ Lim w' (.slice a (trimL l).length c) (trimL l) ∧ Below w.heap.size w w' := by
  have HLT := Lib.hid h.trim
  have HLn : ∀ W, Below w.heap.size w W → Lim W (.slice a l.length c) l := fun W hb => h.below hb
  have h' := h
  obtain ⟨a', c', he, h1, h2, h3, h4⟩ := h
  cases he
  unfold maxLen at h2
  clear h' h3
  have hB0 : ∀ (u : Array Value), Below w.heap.size w (w.alloc (.cells u 24)) := fun u => (Below.refl _ _).alloc (Nat.le_refl _) _
  have HB0 := Lib.hid hB0
  have HLn := Lib.hid HLn
  clear hB0
  go_enter Tryz.func78, Tryz.ntmps78
  go_wp2
  go_loop [1] (fun v => ∃ k : Nat, k ≤ l.length ∧ v = .slice a k c ∧ trimL (l.take k) = trimL l) (fun v => lenOf v)
  case atStart => exact ⟨l.length, Nat.le_refl _, rfl, by rw [List.take_length]⟩
  case round =>
    obtain ⟨k, hk, rfl, ht⟩ := hrel
    have HT := Lib.hid ht
    clear ht
    rcases Nat.eq_zero_or_pos k with rfl | hpos
    · have e1 : (trimL l).length = 0 := by have := HT.out; rw [List.take_zero, trimL_nil] at this; rw [← this]; rfl
      rw [e1] at HLT
      have E1 := Lib.hid e1
      clear e1
      cases s with
      | true =>
        go_wp2
        refine bodyPost_ret (v := .agg #[.bool false, .slice a 0 c]) (by simp [results, Tryz.results78, go_sem]) rfl ⟨by rw [E1.out]; try rfl, ?_, (by repeat (first | exact Below.refl _ _ | with_reducible refine Below.drew ?_ | with_reducible refine below_drewN ?_ _ | with_reducible refine Below.setCell ?_ (by first | (simp; done) | (simp; omega) | omega) _ | with_reducible refine Below.alloc ?_ (by first | (simp; done) | (simp; omega) | omega) _))⟩
        rw [E1.out]
        exact HLT.out.below (by repeat (first | exact Below.refl _ _ | with_reducible refine Below.drew ?_ | with_reducible refine below_drewN ?_ _ | with_reducible refine Below.setCell ?_ (by first | (simp; done) | (simp; omega) | omega) _ | with_reducible refine Below.alloc ?_ (by first | (simp; done) | (simp; omega) | omega) _))
      | false =>
        go_wp2
        refine bodyPost_ret (v := .agg #[.bool false, .slice a 0 c]) (by simp [results, Tryz.results78, go_sem]) rfl ⟨by rw [E1.out]; try rfl, ?_, (by repeat (first | exact Below.refl _ _ | with_reducible refine Below.drew ?_ | with_reducible refine below_drewN ?_ _ | with_reducible refine Below.setCell ?_ (by first | (simp; done) | (simp; omega) | omega) _ | with_reducible refine Below.alloc ?_ (by first | (simp; done) | (simp; omega) | omega) _))⟩
        rw [E1.out]
        exact HLT.out.below (by repeat (first | exact Below.refl _ _ | with_reducible refine Below.drew ?_ | with_reducible refine below_drewN ?_ _ | with_reducible refine Below.setCell ?_ (by first | (simp; done) | (simp; omega) | omega) _ | with_reducible refine Below.alloc ?_ (by first | (simp; done) | (simp; omega) | omega) _))
    · obtain ⟨j, rfl⟩ : ∃ j, k = j + 1 := ⟨k - 1, by omega⟩
      rcases h4 with ⟨rfl, rfl, rfl⟩ | ⟨b, o, rfl, hc⟩
      · simp at hk
      · have hcell := fun u => (HLn.out _ (HB0.out u))
        have hcell2 : ∀ u, (w.alloc (.cells u 24)).cell? ⟨b, o + j, none⟩ = some (.int .u32 (pt l j)) := fun u => by
          rw [(HB0.out u).cell (p := ⟨b, o + j, none⟩) (World.block_lt_of_cell? w _ (hc j (by omega)))]
          exact hc j (by omega)
        clear hc hcell
        by_cases h0 : pt l j = 0
        · have hz := trimL_take_zero (show j < l.length by omega) h0
          have HZ := Lib.hid hz
          clear hz
          have hb : ((pt l j : Int) == 0) = true := by rw [h0]; rfl
          clear h0
          go_wp2
          go_round
          case rel => exact ⟨j, by omega, by simp, HZ.out.symm.trans HT.out⟩
          case measure => simp [lenOf]
        · have hz := trimL_take_pos (show j < l.length by omega) h0
          have HZ := Lib.hid hz
          clear hz
          have hb : ((pt l j : Int) == 0) = false := by rw [beq_eq_false_iff_ne]; omega
          clear h0
          have h5 := HZ.out.symm.trans HT.out
          have h6 : (trimL l).length = j + 1 := by rw [← h5, List.length_take]; omega
          rw [h6] at HLT
          have E1 := Lib.hid h6
          clear h5 h6
          cases s with
          | true =>
            go_wp2
            refine bodyPost_ret (v := .agg #[.bool true, .slice (some ⟨b, o, none⟩) (j + 1) c]) (by simp [results, Tryz.results78, go_sem]) rfl ⟨by rw [E1.out]; try simp, ?_, (by repeat (first | exact Below.refl _ _ | with_reducible refine Below.drew ?_ | with_reducible refine below_drewN ?_ _ | with_reducible refine Below.setCell ?_ (by first | (simp; done) | (simp; omega) | omega) _ | with_reducible refine Below.alloc ?_ (by first | (simp; done) | (simp; omega) | omega) _))⟩
            rw [E1.out]
            exact HLT.out.below (by repeat (first | exact Below.refl _ _ | with_reducible refine Below.drew ?_ | with_reducible refine below_drewN ?_ _ | with_reducible refine Below.setCell ?_ (by first | (simp; done) | (simp; omega) | omega) _ | with_reducible refine Below.alloc ?_ (by first | (simp; done) | (simp; omega) | omega) _))
          | false =>
            go_wp2
            refine bodyPost_ret (v := .agg #[.bool false, .slice (some ⟨b, o, none⟩) (j + 1) c]) (by simp [results, Tryz.results78, go_sem]) rfl ⟨by rw [E1.out]; try simp, ?_, (by repeat (first | exact Below.refl _ _ | with_reducible refine Below.drew ?_ | with_reducible refine below_drewN ?_ _ | with_reducible refine Below.setCell ?_ (by first | (simp; done) | (simp; omega) | omega) _ | with_reducible refine Below.alloc ?_ (by first | (simp; done) | (simp; omega) | omega) _))⟩
            rw [E1.out]
            exact HLT.out.below (by repeat (first | exact Below.refl _ _ | with_reducible refine Below.drew ?_ | with_reducible refine below_drewN ?_ _ | with_reducible refine Below.setCell ?_ (by first | (simp; done) | (simp; omega) | omega) _ | with_reducible refine Below.alloc ?_ (by first | (simp; done) | (simp; omega) | omega) _))

theorem valS_num (s : Bool) (l : List Nat) : valS (s && (trimL l).length != 0) (trimL l) = valS s l := by
  cases s with
  | false => simp [valS, val_trimL]
  | true =>
    unfold valS
    rw [val_trimL]
    rcases Nat.eq_zero_or_pos (trimL l).length with h | h
    · have h1 : trimL l = [] := List.eq_nil_of_length_eq_zero h
      have h2 := val_trimL l
      rw [h1] at h2
      simp [val] at h2
      simp [h1, ← h2]
    · have : ((trimL l).length != 0) = true := by rw [bne_iff_ne]; omega
      rw [this]; rfl

/-- Of parts below the base: a number. -/
theorem rnum_ok (s : Bool) (v : Value) (l : List Nat) (w : World) (h : Lim w v l) (h1 : ∀ x ∈ l, x < 1000000000) (k : Nat) (hk : (valS s l).natAbs < 1000000000 ^ k) :
    Calls Tryz.prog 78 #[.bool s, v] w fun e w' => AnsR w' e k (valS s l) ∧ Below w.heap.size w w' := by
  have h' := h
  obtain ⟨a, c, rfl, -⟩ := h
  refine (rnum_any s a c l w h').mono ?_
  rintro e w' ⟨rfl, h2, h3⟩
  obtain ⟨o1, -⟩ := num_of (s := s) h1
  exact ⟨⟨_, _, _, rfl, h2, o1, valS_num s l, hk⟩, h3⟩

theorem take_eq_of_pt {a b : List Nat} {k : Nat} (hl : a.length = b.length) (h : ∀ j, k ≤ j → j < a.length → pt a j = pt b j) (hk : k = 0) : a = b := by
  subst hk
  exact list_ext_pt hl fun i hi => h i (Nat.zero_le _) hi

set_option maxHeartbeats 800000 in
theorem rorder_any (va vb : Value) (la lb : List Nat) (w : World) (ha : Lim w va la) (hb : Lim w vb lb) :
    Calls Tryz.prog 162 #[va, vb] w fun e w' => ∃ r, e = .returned (.int .i64 r) ∧ CmpIs la lb r ∧ Below w.heap.size w w' := by
  obtain ⟨a, c, rfl, p1, p2, p3, p4⟩ := ha
  obtain ⟨a', c', rfl, q1, q2, q3, q4⟩ := hb
  unfold maxLen at p2 q2
  clear p3 q3
  by_cases hl : la.length = lb.length
  · have hbne : ((la.length : Int) != (lb.length : Int)) = false := by rw [hl]; simp
    have HL := Lib.hid hl
    have hle : la.length ≤ lb.length := by omega
    have HC : Hid (∀ i, i < la.length → ∃ b o b' o', a = some ⟨b, o, none⟩ ∧ a' = some ⟨b', o', none⟩ ∧ w.cell? ⟨b, o + i, none⟩ = some (.int .u32 (pt la i)) ∧ w.cell? ⟨b', o' + i, none⟩ = some (.int .u32 (pt lb i))) := by
      intro i hi
      rcases p4 with ⟨_, rfl, _⟩ | ⟨b, o, rfl, hc⟩
      · simp at hi
      rcases q4 with ⟨_, rfl, _⟩ | ⟨b', o', rfl, hc'⟩
      · simp at hl; simp [hl] at hi
      exact ⟨b, o, b', o', rfl, rfl, hc i hi, hc' i (by omega)⟩
    clear hl p4 q4
    go_enter Tryz.func162, Tryz.ntmps162
    go_wp2
    go_loopw [5] (fun i wr => ∃ k n : Nat, k ≤ la.length ∧ i = .int .i64 ((k : Int) - 1) ∧ (∀ j, k ≤ j → j < la.length → pt la j = pt lb j) ∧ wr = w.drewN n) (fun i _ => (intOf i + 1).toNat)
    case atStart => exact ⟨la.length, 0, Nat.le_refl _, rfl, fun j h1 h2 => by omega, rfl⟩
    case round =>
      obtain ⟨k, n, hk, rfl, ht, rfl⟩ := hrel
      have HT := Lib.hid ht
      clear ht
      rcases Nat.eq_zero_or_pos k with rfl | hpos
      · go_wp2
        go_ret
        exact ⟨0, rfl, .inr ⟨HL.out, .inl ⟨take_eq_of_pt HL.out HT.out rfl, rfl⟩⟩, below_of_drewN _ _⟩
      · obtain ⟨j, rfl⟩ : ∃ j, k = j + 1 := ⟨k - 1, by omega⟩
        have e0 : ((j + 1 : Nat) : Int) - 1 = (j : Int) := by omega
        rw [e0]
        obtain ⟨b, o, b', o', rfl, rfl, hc1, hc2⟩ := HC.out j (by omega)
        have hj1 : j < la.length := by omega
        have hj2 : j < lb.length := by omega
        have hkI : (j : Int) < (la.length : Int) := by omega
        have hkJ : (j : Int) < (lb.length : Int) := by omega
        rcases Nat.lt_trichotomy (pt la j) (pt lb j) with h | h | h
        · have HI := Lib.hid h
          go_wp2
          go_quiet (fail)
          go_wp2
          go_ret
          refine ⟨-1, rfl, .inr ⟨HL.out, .inr ⟨j, by omega, fun i h1 h2 => HT.out i (by omega) h2, by have := HI.out; omega, ?_⟩⟩, ?_⟩
          · rw [cmpI_lt (by have := HI.out; omega)]
          · rw [World.drewN_drewN]; exact below_of_drewN _ _
        · have hI : ¬ pt la j < pt lb j := by omega
          have hI2 : ¬ pt lb j < pt la j := by omega
          have HI := Lib.hid h
          clear h
          go_wp2
          go_quiet (fail)
          go_wp2
          go_quiet (fail)
          go_wp2
          go_roundw
          case rel => exact ⟨j, _, by omega, by go_num, fun i h1 h2 => (Nat.eq_or_lt_of_le h1).elim (fun e => by rw [← e]; exact HI.out) (fun h => HT.out i h h2), rfl⟩
          case measure => simp [intOf]
        · have hI : ¬ pt la j < pt lb j := by omega
          have HI := Lib.hid h
          go_wp2
          go_quiet (fail)
          go_wp2
          go_quiet (fail)
          go_wp2
          go_ret
          refine ⟨1, rfl, .inr ⟨HL.out, .inr ⟨j, by omega, fun i h1 h2 => HT.out i (by omega) h2, by have := HI.out; omega, ?_⟩⟩, ?_⟩
          · rw [cmpI_gt (by have := HI.out; omega)]
          · rw [World.drewN_drewN, World.drewN_drewN]; exact below_of_drewN _ _
  · have hbne : ((la.length : Int) != (lb.length : Int)) = true := by rw [bne_iff_ne]; omega
    have HL : Hid (la.length ≠ lb.length) := hl
    rcases Nat.lt_or_gt_of_ne hl with h | h
    · clear hl p4 q4
      have HI := Lib.hid h
      go_enter Tryz.func162, Tryz.ntmps162
      go_wp2
      go_ret
      exact ⟨-1, rfl, .inl ⟨HL.out, by rw [cmpI_lt (by have := HI.out; omega)]⟩, (by repeat (first | exact Below.refl _ _ | with_reducible refine Below.drew ?_ | with_reducible refine below_drewN ?_ _ | with_reducible refine Below.setCell ?_ (by first | (simp; done) | (simp; omega) | omega) _ | with_reducible refine Below.alloc ?_ (by first | (simp; done) | (simp; omega) | omega) _))⟩
    · have hI : ¬ la.length < lb.length := by omega
      clear hl p4 q4
      have HI := Lib.hid h
      go_enter Tryz.func162, Tryz.ntmps162
      go_wp2
      go_ret
      exact ⟨1, rfl, .inl ⟨HL.out, by rw [cmpI_gt (by have := HI.out; omega)]⟩, (by repeat (first | exact Below.refl _ _ | with_reducible refine Below.drew ?_ | with_reducible refine below_drewN ?_ _ | with_reducible refine Below.setCell ?_ (by first | (simp; done) | (simp; omega) | omega) _ | with_reducible refine Below.alloc ?_ (by first | (simp; done) | (simp; omega) | omega) _))⟩

/-- Of two amounts without noughts on top it tells which is less. -/
theorem rorder_val (va vb : Value) (la lb : List Nat) (w : World) (ha : Lim w va la) (hb : Lim w vb lb) (h1 : ∀ x ∈ la, x < 1000000000) (h2 : ∀ x ∈ lb, x < 1000000000) (t1 : Top la) (t2 : Top lb) :
    Calls Tryz.prog 162 #[va, vb] w fun e w' => e = .returned (.int .i64 (cmpI (val la) (val lb))) ∧ Below w.heap.size w w' :=
  (rorder_any va vb la lb w ha hb).mono fun e w' ⟨r, he, hr, hB⟩ => ⟨by rw [he, hr.val h1 h2 t1 t2], hB⟩

end Go.Proofs.YtgpoljbccimkjaaGreatDoor

namespace Go.Proofs.YtgpoljbccimkjaaGreatDoor
set_option linter.unusedSimpArgs false
set_option linter.unusedVariables false
open Go.RowKit Go.Shelf

theorem fit_nil {s : Bool} {l : List Nat} (h : fitL s l = []) : numZ s l = 0 := by
  rw [← numZ_fit, h]; unfold valS; split <;> simp [val]
theorem fit_some {s : Bool} {l : List Nat} (hs : fitS s l = false) (h : fitL s l ≠ []) : 0 < numZ s l := by
  rw [numZ_false hs]
  have := val_pos (fit_top s l) h
  omega
theorem fit_neg {s : Bool} {l : List Nat} (hs : fitS s l = true) : numZ s l < 0 := by
  rw [numZ_true hs]
  have := fit_pos hs
  omega

set_option maxHeartbeats 1000000 in
theorem rSign_any (s : Bool) (v : Value) (l : List Nat) (w : World) (h : Lim w v l) :
    Calls Tryz.prog 138 #[.agg #[.bool s, v]] w fun e w' => e = .returned (.int .i64 (cmpI (numZ s l) 0)) ∧ Below w.heap.size w w' := by
  have HL : Hid (∀ W, Below w.heap.size w W → Lim W v l) := fun W hb => h.below hb
  obtain ⟨a, c, rfl, -⟩ := h
  obtain ⟨W0, e0, n1, hb0, -⟩ := box1 w (.bool s) (.slice a l.length c)
  have N1 := Lib.hid n1
  have B0 := Lib.hid hb0
  obtain ⟨c0, c1, -, -⟩ := n1
  clear hb0
  go_enter Tryz.func138, Tryz.ntmps138
  go_wp2_with fail
  clear e0
  refine (rFit_any s _ l _ (HL.out _ B0.out)).mono ?_
  rintro e w1 ⟨v1, rfl, hl1, hb1⟩
  obtain ⟨a1, k1, rfl, -⟩ := hl1
  obtain ⟨d1, d2, f1, f2⟩ := N1.out.below hb1
  have B1 := Lib.hid (Below.step B0.out hb1)
  clear hb1 c0 c1
  cases hs : fitS s l with
  | true =>
    have HZ := Lib.hid (fit_neg hs)
    clear hs
    go_wp2_with fail
    go_ret
    exact ⟨ret_int (by rw [cmpI_lt HZ.out]), (by repeat (first | exact Below.refl _ _ | with_reducible refine Below.drew ?_ | with_reducible refine below_drewN ?_ _ | with_reducible refine Below.setCell ?_ (by first | (simp; done) | (simp; omega) | omega) _ | with_reducible refine Below.alloc ?_ (by first | (simp; done) | (simp; omega) | omega) _ | (with_reducible refine Below.step ?_ B1.out)))⟩
  | false =>
    by_cases h0 : 0 < (fitL s l).length
    · have HZ := Lib.hid (fit_some hs (fun e => by rw [e] at h0; simp at h0))
      have h0I : (0 : Int) < ((fitL s l).length : Int) := by omega
      clear hs
      go_wp2_with fail
      go_ret
      exact ⟨ret_int (by rw [cmpI_gt HZ.out]), (by repeat (first | exact Below.refl _ _ | with_reducible refine Below.drew ?_ | with_reducible refine below_drewN ?_ _ | with_reducible refine Below.setCell ?_ (by first | (simp; done) | (simp; omega) | omega) _ | with_reducible refine Below.alloc ?_ (by first | (simp; done) | (simp; omega) | omega) _ | (with_reducible refine Below.step ?_ B1.out)))⟩
    · have HZ := Lib.hid (fit_nil (List.eq_nil_of_length_eq_zero (by omega : (fitL s l).length = 0)))
      have h1 : (fitL s l).length = 0 := by omega
      rw [h1]
      clear hs h0
      go_wp2_with fail
      go_ret
      exact ⟨ret_int (by rw [HZ.out]; rfl), (by repeat (first | exact Below.refl _ _ | with_reducible refine Below.drew ?_ | with_reducible refine below_drewN ?_ _ | with_reducible refine Below.setCell ?_ (by first | (simp; done) | (simp; omega) | omega) _ | with_reducible refine Below.alloc ?_ (by first | (simp; done) | (simp; omega) | omega) _ | (with_reducible refine Below.step ?_ B1.out)))⟩

theorem NumBox.put {W : World} {b n c : Nat} {t : Bool} {p : Option Addr} (h : NumBox W b (.bool t) (.slice p n c)) (u0 u1 : Value) : ∃ W', (W.setCell ⟨b, 0, none⟩ u0).setCell ⟨b, 1, none⟩ u1 = W' ∧ NumBox W' b u0 u1 ∧
    Hid (∀ w : World, w.heap.size ≤ b → Below w.heap.size w W → Below w.heap.size w W') ∧ Hid (∀ v l, Lim W v l → Lim W' v l) ∧ Hid (∀ b' x y, b' ≠ b → NumBox W b' x y → NumBox W' b' x y) :=
  ⟨_, rfl, (h.set0 _).set1 _, fun w hb hB => (hB.setCell (p := ⟨b, 0, none⟩) hb _).setCell (p := ⟨b, 1, none⟩) hb _, fun v l hl => (hl.setOther h.1 (by simp) _).setOther (h.set0 _).2.1 (by simp) _,
    fun b' x y hne hB => (hB.other (p := ⟨b, 0, none⟩) (Ne.symm hne) _).other (p := ⟨b, 1, none⟩) (Ne.symm hne) _⟩

set_option maxHeartbeats 2000000 in
theorem rCmp_any (s s' : Bool) (v v' : Value) (l l' : List Nat) (w : World) (h : Lim w v l) (h' : Lim w v' l') :
    Calls Tryz.prog 124 #[.agg #[.bool s, v], .agg #[.bool s', v']] w fun e w' => e = .returned (.int .i64 (cmpI (numZ s l) (numZ s' l'))) ∧ Below w.heap.size w w' := by
  have HL : Hid (∀ W, Below w.heap.size w W → Lim W v l) := fun W hb => h.below hb
  have HL' : Hid (∀ W, Below w.heap.size w W → Lim W v' l') := fun W hb => h'.below hb
  obtain ⟨a, c, rfl, -⟩ := h
  obtain ⟨a', c', rfl, -⟩ := h'
  obtain ⟨W0, e0, n1, n2, hb0, hz0, hz1⟩ := box2 w (.bool s) (.slice a l.length c) (.bool s') (.slice a' l'.length c')
  have N1 := Lib.hid n1
  have N2 := Lib.hid n2
  have B0 := Lib.hid hb0
  obtain ⟨c0, c1, -, -⟩ := n1
  clear hb0 n2 hz0 hz1
  go_enter Tryz.func124, Tryz.ntmps124
  go_wp2_with fail
  clear e0
  refine (rFit_any s _ l _ (HL.out _ B0.out)).mono ?_
  rintro e w1 ⟨v1, rfl, hl1, hb1⟩
  have K1 := Lib.hid hl1
  obtain ⟨a1, k1, rfl, -⟩ := hl1
  have m1 := N1.out.below hb1
  have m2 := N2.out.below hb1
  have B1 := Lib.hid (Below.step B0.out hb1)
  clear hb1 c0 c1
  obtain ⟨W1, e1, M1, P1, Q1, R1⟩ := m1.put (.bool (fitS s l)) (.slice a1 (fitL s l).length k1)
  have B1' := Lib.hid (P1.out _ (Nat.le_refl _) B1.out)
  have K1' := Lib.hid (Q1.out _ _ K1.out)
  have hM2 := R1.out _ _ _ (by simp) m2
  have M2 := Lib.hid hM2
  have M1' := Lib.hid M1
  obtain ⟨d0, d1, f0, f1⟩ := m1
  obtain ⟨d2, d3, f2, f3⟩ := hM2
  obtain ⟨g0, g1, -, -⟩ := M1
  clear P1 Q1 R1 m2
  go_wp2_with fail
  clear e1 d0 d1 f0 f1 d2 d3 f2 f3 g0 g1
  refine (rFit_any s' _ l' _ (HL'.out _ B1'.out)).mono ?_
  rintro e w2 ⟨v2, rfl, hl2, hb2⟩
  have K2 := Lib.hid hl2
  obtain ⟨a2, k2, rfl, -⟩ := hl2
  have K1'' := Lib.hid (K1'.out.below hb2)
  have m1 := M1'.out.below hb2
  have m2 := M2.out.below hb2
  have B2 := Lib.hid (Below.step B1'.out hb2)
  obtain ⟨W2, e2, M3, P2, Q2, R2⟩ := m2.put (.bool (fitS s' l')) (.slice a2 (fitL s' l').length k2)
  have HB := Lib.hid (P2.out _ (Nat.le_succ _) B2.out)
  have H1 := Lib.hid (Q2.out _ _ K1''.out)
  have H2 := Lib.hid (Q2.out _ _ K2.out)
  obtain ⟨d0, d1, -, -⟩ := R2.out _ _ _ (by simp) m1
  obtain ⟨d2, d3, f2, f3⟩ := m2
  obtain ⟨g0, g1, -, -⟩ := M3
  clear hb2 P2 Q2 R2 m1
  cases hs1 : fitS s l <;> cases hs2 : fitS s' l' <;> rw [hs1] at d0 <;> rw [hs2] at e2 g0
  · have HF : Hid (cmpI (numZ s l) (numZ s' l') = cmpI (val (fitL s l)) (val (fitL s' l'))) := (by show _ = _; rw [numZ_false hs1, numZ_false hs2])
    clear hs1 hs2
    go_wp2_with fail
    refine (rorder_val _ _ _ _ _ H1.out H2.out (fit_small _ _) (fit_small _ _) (fit_top _ _) (fit_top _ _)).mono ?_
    rintro e w' ⟨rfl, hb⟩
    go_wp2
    go_ret
    exact ⟨ret_int HF.out.symm, Below.step HB.out hb⟩
  · have HF : Hid (cmpI (numZ s l) (numZ s' l') = 1) := (by show _ = _; rw [numZ_false hs1, numZ_true hs2]; have := fit_pos hs2; exact cmpI_gt (by omega))
    clear hs1 hs2
    go_wp2_with fail
    go_ret
    exact ⟨ret_int HF.out.symm, HB.out⟩
  · have HF : Hid (cmpI (numZ s l) (numZ s' l') = -1) := (by show _ = _; rw [numZ_true hs1, numZ_false hs2]; have := fit_pos hs1; exact cmpI_lt (by omega))
    clear hs1 hs2
    go_wp2_with fail
    go_ret
    exact ⟨ret_int HF.out.symm, HB.out⟩
  · have HF : Hid (cmpI (numZ s l) (numZ s' l') = cmpI (val (fitL s' l')) (val (fitL s l))) := (by show _ = _; rw [numZ_true hs1, numZ_true hs2, cmpI_neg])
    clear hs1 hs2
    go_wp2_with fail
    refine (rorder_val _ _ _ _ _ H2.out H1.out (fit_small _ _) (fit_small _ _) (fit_top _ _) (fit_top _ _)).mono ?_
    rintro e w' ⟨rfl, hb⟩
    go_wp2
    go_ret
    exact ⟨ret_int HF.out.symm, Below.step HB.out hb⟩

end Go.Proofs.YtgpoljbccimkjaaGreatDoor
