/- Walks: a number of its own parts, with a mark in its spare room; whether it stayed as it was. -/
import Derived.Test.YtgpoljbccimkjaaGreatDoorTwin
import Derived.Test.YtgpoljbccimkjaaGreatDoorRefK
namespace Go.Proofs.YtgpoljbccimkjaaGreatDoor
set_option linter.unusedSimpArgs false
set_option linter.unusedVariables false
open Go.RowKit Go.Shelf

set_option maxRecDepth 100000 in
set_option maxHeartbeats 4000000 in
theorem TwinLimbs_room (v : Value) (l : List Nat) (w : World) (h : Lim w v l) (hl : l.length ≤ 1000000) :
    Calls Tryz.prog 69 #[v] w fun e w' => (∃ a c, e = .returned (.slice a l.length c) ∧ OwnL w.heap.size w' (.slice a (l.length + 1) c) (l ++ [77])) ∧ Below w.heap.size w w' := by
  obtain ⟨i0, hi, hz0, hz1, hz2⟩ := info_parts infoU32
  have HL : Hid (∀ W, Below w.heap.size w W → Lim W v l) := fun W hb => h.below hb
  have H32 := Lib.hid h
  obtain ⟨a, c, rfl, hc1, hc2, h3, -⟩ := h
  have H3 := Lib.hid h3
  unfold maxLen at hc2
  have hlI : (l.length : Int) ≤ 1000000 := by omega
  have hmk := run_make_room ((l.length : Int) + 1) (l.length + 1) (by omega) (by omega)
  have hO0 := OwnL.room w (l.length + 1) (by unfold maxLen; omega)
  obtain ⟨W1, e1, b1⟩ : ∃ W1, w.alloc (.cells (madeCells #[.int .u32 0] (l.length + 1)) 99) = W1 ∧ Below w.heap.size w W1 := ⟨_, rfl, (by repeat (first | exact Below.refl _ _ | with_reducible refine Below.drew ?_ | with_reducible refine below_drewN ?_ _ | with_reducible refine Below.setCell ?_ (by first | (simp; done) | (simp; omega) | omega) _ | with_reducible refine Below.alloc ?_ (by first | (simp; done) | (simp; omega) | omega) _))⟩
  rw [e1] at hO0
  have O0 := Lib.hid hO0
  have B1 := Lib.hid b1
  clear hO0 b1 h3
  go_enter Tryz.func69, Tryz.ntmps69
  go_wp2_with fail
  clear hmk e1
  go_loopw [3, 4] (fun o i wr => ∃ k : Nat, k ≤ l.length ∧ i = .int .i64 k ∧ OwnL w.heap.size wr o (l.take k) ∧ Below w.heap.size w wr) (fun _ i _ => l.length - (intOf i).toNat)
  case atStart => exact ⟨0, Nat.zero_le _, rfl, by simpa using O0.out, B1.out⟩
  case round =>
    obtain ⟨k, hk, rfl, hown, hB⟩ := hrel
    have HO := Lib.hid hown
    have HB := Lib.hid hB
    clear hown hB
    by_cases hlt : k < l.length
    · obtain ⟨a', c', he, -, -, -, hcell⟩ := HL.out _ HB.out
      injection he with he1 he2 he3
      subst he1
      obtain ⟨b, o, rfl, hcell⟩ : ∃ b o, a = some ⟨b, o, none⟩ ∧ wr.cell? ⟨b, o + k, none⟩ = some (.int .u32 (pt l k)) := by
        rcases hcell with ⟨-, h0, -⟩ | ⟨b, o, h0, h1⟩
        · rw [h0] at hlt; simp at hlt
        · exact ⟨b, o, h0, h1 k hlt⟩
      have hrow := HO.out.row
      have hkl : (l.take k).length = k := by rw [List.length_take]; omega
      rw [hkl] at hrow
      clear he2 he3
      go_wp2_with (at_builtin; refine wpList_append_own _ rfl _ _ 22 rfl w.heap.size 99 i0 (.int .u32 0) 1 4 underU32s hi hz0 hz1 hz2 rfl (by decide) _ _ _ rfl (hrow.alloc _) ⟨wr.heap.size, 0, none⟩ 1 1 [.int .u32 (pt l k)] rfl rfl (cell_one_new _ _ _) (by simp [Value.oneCell']) (by unfold maxLen; omega) (by omega) (by have := HB.out.size; simp; omega) ?_; intro v' w1 hown' hgrow _)
      rw [← u32s_snoc, ← take_succ_pt hlt] at hown'
      have hk1 : k + 1 = (l.take (k + 1)).length := by rw [List.length_take]; omega
      have hOn : OwnL w.heap.size w1 v' (l.take (k + 1)) := ⟨by rw [← hk1]; exact hown', fun x hx => H3.out x (List.mem_of_mem_take hx)⟩
      have hBn : Below w.heap.size w w1 := (HB.out.alloc HB.out.size _).grown hgrow (by have := HB.out.size; simp; omega) (fun k e => (hrow.lt k e).1)
      exact ⟨⟨k + 1, by omega, by go_num, hOn, hBn⟩, by simp [intOf]; omega⟩
    · obtain rfl : k = l.length := by omega
      have hkl : (l.take l.length).length = l.length := by rw [List.take_length]
      rw [List.take_length] at HO hkl
      have hrow := HO.out.row
      clear hlt hk
      go_wp2_with (at_builtin; refine wpList_append_own _ rfl _ _ 22 rfl w.heap.size 99 i0 (.int .u32 0) 1 4 underU32s hi hz0 hz1 hz2 rfl (by decide) _ _ _ rfl (hrow.alloc _) ⟨wr.heap.size, 0, none⟩ 1 1 [.int .u32 77] rfl rfl (cell_one_new _ _ _) (by simp [Value.oneCell']) (by unfold maxLen; omega) (by omega) (by have := HB.out.size; simp; omega) ?_; intro v' w1 hown' hgrow _; obtain ⟨a9, c9, hv9, ⟨hc9, hm9⟩, ho9⟩ := own_snoc (x := 77) HO.out (by decide) hkl hown'; subst hv9)
      go_ret
      have hBn : Below w.heap.size w w1 := (HB.out.alloc HB.out.size _).grown hgrow (by have := HB.out.size; simp; omega) (fun k e => (hrow.lt k e).1)
      exact ⟨⟨a9, c9, rfl, by have h9 := ho9; rw [List.length_append] at h9; exact h9⟩, hBn⟩

set_option maxRecDepth 100000 in
set_option maxHeartbeats 4000000 in
theorem TwinNum_room (s : Bool) (v : Value) (l : List Nat) (w : World) (h : Lim w v l) (hl : l.length ≤ 1000000) :
    Calls Tryz.prog 15 #[.agg #[.bool s, v]] w fun e w' => (∃ a c, e = .returned (.agg #[.bool s, .slice a l.length c]) ∧ OwnL w.heap.size w' (.slice a (l.length + 1) c) (l ++ [77])) ∧ Below w.heap.size w w' := by
  have h0 := h
  obtain ⟨a, c, rfl, -⟩ := h0
  obtain ⟨W0, e0, n1, n2, hb0, hz0, hz1⟩ := box2 w (.bool s) (.slice a l.length c) (.bool false) (.slice none 0 0)
  have H : Hid (Lim W0 (.slice a l.length c) l) := h.below hb0
  have N1 := Lib.hid n1
  have N2 := Lib.hid n2
  have HB0 := Lib.hid hb0
  obtain ⟨c1, c2, -, -⟩ := n1
  clear n2 h hb0
  go_enter Tryz.func15, Tryz.ntmps15
  go_wp2_with fail
  go_region_held3 (fun W => W.cell? ⟨w.heap.size, 0, none⟩ = some (.bool s) ∧ W.cell? ⟨w.heap.size, 1, none⟩ = some (.slice a l.length c)) (first | exact ⟨c1, c2⟩ | exact ⟨d1, d2⟩ | (refine ⟨?_, ?_⟩ <;> (rw [World.cell?_setCell_far, World.cell?_setCell_far]; (first | exact d1 | exact d2); all_goals (simp; try omega))))
    (first
      | (go_at_call 69; (with_reducible refine (TwinLimbs_room (.slice a l.length c) l _ (H.out.below (by repeat (first | exact Below.refl _ _ | with_reducible refine Below.drew ?_ | with_reducible refine below_drewN ?_ _ | with_reducible refine Below.setCell ?_ (by first | (simp; done) | (simp; omega) | omega) _ | with_reducible refine Below.alloc ?_ (by first | (simp; done) | (simp; omega) | omega) _))) hl).mono ?_); rintro e w1 ⟨⟨a1, k1, rfl, ho1⟩, hb10⟩; have hb1 := Below.undrew' hb10; have O1 := Lib.hid ho1; clear ho1; obtain ⟨d1, d2, -⟩ := N1.out.below hb1; obtain ⟨g1, g2, g3, g4⟩ := N2.out.below hb1))
  go_wp2_with fail
  refine bodyPost_ret (v := .agg #[.bool s, .slice a1 l.length k1]) (by simp [results, Tryz.results15, go_sem, g1, g2]) rfl ⟨⟨a1, k1, rfl, ?_⟩, (by repeat (first | exact Below.refl _ _ | with_reducible refine Below.drew ?_ | with_reducible refine below_drewN ?_ _ | with_reducible refine Below.setCell ?_ (by first | (simp; done) | (simp; omega) | omega) _ | with_reducible refine Below.alloc ?_ (by first | (simp; done) | (simp; omega) | omega) _ | (with_reducible refine Below.step ?_ hb1) | (with_reducible refine Below.step ?_ HB0.out)))⟩
  have hs : w.heap.size + 1 < W0.heap.size := hz1
  have h9 := O1.out
  try rw [World.size_drew] at h9
  exact ((h9.setBox hs _ _).setBox hs _ _).mono (by omega)


theorem OwnL.front1 {n : Nat} {w : World} {a : Option Addr} {c : Nat} {l : List Nat} {x : Nat} (h : OwnL n w (.slice a (l.length + 1) c) (l ++ [x])) : OwnL n w (.slice a l.length c) l := by
  have h1 : OwnL n w (.slice a (l ++ [x]).length c) (l ++ [x]) := by rw [List.length_append]; exact h
  have h9 := h1.take l.length (by simp) (fun e => by subst e; exact own_some h1)
  rwa [List.take_left'] at h9
  rfl

set_option maxRecDepth 100000 in
set_option maxHeartbeats 1000000 in
theorem LeftLimbs_any {a a' : Option Addr} {c c' : Nat} {l : List Nat} {w : World} (h : Lim w (.slice a (l.length + 1) c) (l ++ [77])) (h' : Lim w (.slice a' l.length c') l) (hl : l.length ≤ 1000000) :
    Calls Tryz.prog 84 #[.slice a l.length c, .slice a' l.length c'] w fun e w' => e = .returned (.bool true) ∧ Below w.heap.size w w' := by
  obtain ⟨x, y, he, h1, h2, -, h4⟩ := h
  injection he with e1 e2 e3
  subst e1
  subst e3
  rw [List.length_append] at h1
  obtain ⟨b, o, rfl, hc⟩ : ∃ b o, a = some ⟨b, o, none⟩ ∧ ∀ i, i < l.length + 1 → w.cell? ⟨b, o + i, none⟩ = some (.int .u32 (pt (l ++ [77]) i)) := by
    rcases h4 with ⟨-, h0, -⟩ | ⟨b, o, ha, hc⟩
    · simp at h0
    · exact ⟨b, o, ha, fun i hi => hc i (by rw [List.length_append]; exact hi)⟩
  have HC := Lib.hid hc
  have H2 := h'.at
  unfold maxLen at h2
  have hcm := h2
  have hcl : l.length < c := h1
  have hnl : ((l.length : Int) != (l.length : Int)) = false := by simp
  have hcd : decide (c ≤ l.length) = false := decide_eq_false (by omega)
  have hlI : (l.length : Int) ≤ 1000000 := by omega
  clear h4 h' h1 h2 hc
  go_enter Tryz.func84, Tryz.ntmps84
  go_wp2_with fail
  go_loopw [5] (fun ii wr => ∃ i : Nat, i ≤ l.length ∧ ii = .int .i64 i ∧ Below w.heap.size w wr) (fun i _ => l.length - (intOf i).toNat)
  case atStart => exact ⟨0, Nat.zero_le _, rfl, Below.refl _ _⟩
  case round =>
    obtain ⟨i, hi, rfl, hB⟩ := hrel
    have HB := Lib.hid hB
    by_cases hlt : i < l.length
    · obtain ⟨b', o', rfl, -, hc2⟩ := H2.out i hlt
      have c2 := hc2 _ hB
      have c1 := (hB.cell (p := ⟨b, o + i, none⟩) (World.block_lt_of_cell? w _ (HC.out i (by omega)))).trans (HC.out i (by omega))
      rw [pt_append_left hlt] at c1
      have hn : (((pt l i : Nat) : Int) != ((pt l i : Nat) : Int)) = false := by simp
      have hltI : (i : Int) < (l.length : Int) := by omega
      clear hB hc2
      go_wp2_with fail
      go_quiet (fail)
      go_wp2_with fail
      exact ⟨⟨i + 1, by omega, by go_num, HB.out.trans (((by repeat (first | exact Below.refl _ _ | with_reducible refine Below.drew ?_ | with_reducible refine below_drewN ?_ _ | with_reducible refine Below.setCell ?_ (by first | (simp; done) | (simp; omega) | omega) _ | with_reducible refine Below.alloc ?_ (by first | (simp; done) | (simp; omega) | omega) _)) : Below wr.heap.size wr (wr.drewN nq)).mono HB.out.size)⟩, by simp [intOf]; omega⟩
    · obtain rfl : i = l.length := by omega
      have c1 := (hB.cell (p := ⟨b, o + l.length, none⟩) (World.block_lt_of_cell? w _ (HC.out l.length (by omega)))).trans (HC.out l.length (by omega))
      rw [show pt (l ++ [77]) l.length = 77 by rw [pt_append_right (Nat.le_refl _), Nat.sub_self]; rfl] at c1
      obtain ⟨m, hm⟩ : ∃ m, l.length + 1 = m := ⟨_, rfl⟩
      have hadd : (l.length : Int) + 1 = (m : Int) := by omega
      have hmc : m ≤ c := by omega
      have hlm : l.length < m := by omega
      clear hB hcd hnl
      go_wp2_with fail
      go_ret
      exact ⟨rfl, HB.out⟩

set_option maxRecDepth 100000 in
set_option maxHeartbeats 1000000 in
theorem LeftNum_any {s : Bool} {a a' : Option Addr} {c c' : Nat} {l : List Nat} {w : World} (h : Lim w (.slice a (l.length + 1) c) (l ++ [77])) (h' : Lim w (.slice a' l.length c') l) (hl : l.length ≤ 1000000) :
    Calls Tryz.prog 21 #[.agg #[.bool s, .slice a l.length c], .agg #[.bool s, .slice a' l.length c']] w fun e w' => e = .returned (.bool true) ∧ Below w.heap.size w w' := by
  obtain ⟨W0, e0, n1, n2, hb0, -, -⟩ := box2 w (.bool s) (.slice a l.length c) (.bool s) (.slice a' l.length c')
  have H1 := Lib.hid (h.below hb0)
  have H2 := Lib.hid (h'.below hb0)
  have B0 := Lib.hid hb0
  have hss : (s == s) = true := by simp
  obtain ⟨p1, p2, -, -⟩ := n1
  obtain ⟨p3, p4, -, -⟩ := n2
  clear h h' hb0
  go_enter Tryz.func21, Tryz.ntmps21
  go_wp2_with fail
  clear e0
  refine (LeftLimbs_any H1.out H2.out hl).mono ?_
  rintro e w1 ⟨rfl, hb⟩
  have B1 := Lib.hid (Below.step B0.out hb)
  clear hb
  go_wp2_with fail
  go_ret
  exact ⟨rfl, B1.out⟩

end Go.Proofs.YtgpoljbccimkjaaGreatDoor
