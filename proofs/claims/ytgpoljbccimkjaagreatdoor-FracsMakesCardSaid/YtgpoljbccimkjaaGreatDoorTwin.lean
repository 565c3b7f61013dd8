/- Walks: a number of its own parts, the same. -/
import Derived.Test.YtgpoljbccimkjaaGreatDoorFrac
namespace Go.Proofs.YtgpoljbccimkjaaGreatDoor
set_option linter.unusedSimpArgs false
set_option linter.unusedVariables false
open Go.RowKit Go.Shelf

theorem run_make_room (m : Int) (n : Nat) (hm : m = n) (h : n ≤ 70000000000000) (w : World) : (Instr.makeSlice 22 (.int .i64 0) (.int .i64 m)).run Tryz.prog w = .ok (.slice (some ⟨w.heap.size, 0, none⟩) 0 n) (w.alloc (.cells (madeCells #[.int .u32 0] n) 99)) := by
  subst hm
  obtain ⟨i0, hi, hz0, hz1, hz2⟩ := info_parts infoU32
  have h1 := run_make (P := Tryz.prog) w 22 99 i0 (.int .u32 0) underU32s hi hz0 .i64 .i64 0 (n : Int) (Int.le_refl _) (by omega) (by rw [hz2]; omega) (by omega)
  rw [Int.toNat_natCast] at h1
  simpa [hz1, Value.cells] using h1

theorem OwnL.room (w : World) (n : Nat) (hn : n ≤ maxLen) : OwnL w.heap.size (w.alloc (.cells (madeCells #[.int .u32 0] n) 99)) (.slice (some ⟨w.heap.size, 0, none⟩) 0 n) [] := by
  refine ⟨⟨by simp [u32s], .inr ⟨w.heap.size, n, madeCells #[.int .u32 0] n, rfl, Nat.le_refl _, heap_alloc_new w _, Nat.zero_le _, hn, ?_, ?_⟩⟩, by simp⟩
  · have := size_madeCells #[.int .u32 0] n
    omega
  · simp [u32s]

theorem own_snoc {n : Nat} {w w1 : World} {v v' : Value} {l : List Nat} {x k : Nat} (h : OwnL n w v l) (hx : x < 4294967296) (hk : l.length = k) (h' : w1.ownsRow n 99 1 v' (k + 1) (u32s l ++ [.int .u32 (x : Nat)])) : ∃ a c, v' = .slice a (l ++ [x]).length c ∧ ((l.length : Int) + 1 ≤ (c : Int) ∧ (c : Int) ≤ 9223372036854775807) ∧ OwnL n w1 (.slice a (l ++ [x]).length c) (l ++ [x]) := by
  subst hk
  rw [← u32s_snoc] at h'
  have h1 : OwnL n w1 v' (l ++ [x]) := ⟨by rw [List.length_append]; exact h', fun y hy => by
    rcases List.mem_append.1 hy with hy | hy
    · exact h.2 y hy
    · simp at hy; omega⟩
  have h2 := h1.lim
  obtain ⟨a, c, rfl, h3, h4, -⟩ := h2
  unfold maxLen at h4
  rw [List.length_append, List.length_singleton] at h3
  exact ⟨a, c, rfl, by omega, h1⟩
theorem own_some {n : Nat} {w : World} {c : Nat} {l : List Nat} {x : Nat} {P : Prop} (h : OwnL n w (.slice none (l ++ [x]).length c) (l ++ [x])) : P := by
  obtain ⟨⟨_, h1⟩, -⟩ := h
  rcases h1 with ⟨-, h2⟩ | ⟨g, cap, cur, hv, -⟩
  · simp at h2
  · injection hv with e; cases e

set_option maxRecDepth 100000 in
set_option maxHeartbeats 2000000 in
theorem TwinLimbs_any (v : Value) (l : List Nat) (w : World) (h : Lim w v l) (hl : l.length ≤ 1000000) :
    Calls Tryz.prog 69 #[v] w fun e w' => (∃ v', e = .returned v' ∧ OwnL w.heap.size w' v' l) ∧ Below w.heap.size w w' := by
  obtain ⟨i0, hi, hz0, hz1, hz2⟩ := info_parts infoU32
  have HL : Hid (∀ W, Below w.heap.size w W → Lim W v l) := fun W hb => h.below hb
  have H32 := Lib.hid h
  obtain ⟨a, c, rfl, hc1, hc2, h3, -⟩ := h
  have H3 := Lib.hid h3
  unfold maxLen at hc2
  have hlI : (l.length : Int) ≤ 1000000 := by omega
  have hmk := run_make_room ((l.length : Int) + 1) (l.length + 1) (by omega) (by omega)
  have hO0 := OwnL.room w (l.length + 1) (by unfold maxLen; omega)
  obtain ⟨W1, e1, b1⟩ : ∃ W1, w.alloc (.cells (madeCells #[.int .u32 0] (l.length + 1)) 99) = W1 ∧ Below w.heap.size w W1 := ⟨_, rfl, (by repeat (first | exact Below.refl _ _ | with_reducible refine Below.drew ?_ | with_reducible refine below_drewN ?_ _ | with_reducible refine Below.setCell ?_ (by first | (simp; done) | (simp; omega) | omega) _ | with_reducible refine Below.alloc ?_ (by first | (simp; done) | (simp; omega) | omega) _))⟩
  rw [e1] at hO0
  have O0 := Lib.hid hO0
  have B1 := Lib.hid b1
  clear hO0 b1 h3
  go_enter Tryz.func69, Tryz.ntmps69
  go_wp2_with fail
  clear hmk e1
  go_loopw [3, 4] (fun o i wr => ∃ k : Nat, k ≤ l.length ∧ i = .int .i64 k ∧ OwnL w.heap.size wr o (l.take k) ∧ Below w.heap.size w wr) (fun _ i _ => l.length - (intOf i).toNat)
  case atStart => exact ⟨0, Nat.zero_le _, rfl, by simpa using O0.out, B1.out⟩
  case round =>
    obtain ⟨k, hk, rfl, hown, hB⟩ := hrel
    have HO := Lib.hid hown
    have HB := Lib.hid hB
    clear hown hB
    by_cases hlt : k < l.length
    · obtain ⟨a', c', he, -, -, -, hcell⟩ := HL.out _ HB.out
      injection he with he1 he2 he3
      subst he1
      obtain ⟨b, o, rfl, hcell⟩ : ∃ b o, a = some ⟨b, o, none⟩ ∧ wr.cell? ⟨b, o + k, none⟩ = some (.int .u32 (pt l k)) := by
        rcases hcell with ⟨-, h0, -⟩ | ⟨b, o, h0, h1⟩
        · rw [h0] at hlt; simp at hlt
        · exact ⟨b, o, h0, h1 k hlt⟩
      have hrow := HO.out.row
      have hkl : (l.take k).length = k := by rw [List.length_take]; omega
      rw [hkl] at hrow
      clear he2 he3
      go_wp2_with (at_builtin; refine wpList_append_own _ rfl _ _ 22 rfl w.heap.size 99 i0 (.int .u32 0) 1 4 underU32s hi hz0 hz1 hz2 rfl (by decide) _ _ _ rfl (hrow.alloc _) ⟨wr.heap.size, 0, none⟩ 1 1 [.int .u32 (pt l k)] rfl rfl (cell_one_new _ _ _) (by simp [Value.oneCell']) (by unfold maxLen; omega) (by omega) (by have := HB.out.size; simp; omega) ?_; intro v' w1 hown' hgrow _)
      rw [← u32s_snoc, ← take_succ_pt hlt] at hown'
      have hk1 : k + 1 = (l.take (k + 1)).length := by rw [List.length_take]; omega
      have hOn : OwnL w.heap.size w1 v' (l.take (k + 1)) := ⟨by rw [← hk1]; exact hown', fun x hx => H3.out x (List.mem_of_mem_take hx)⟩
      have hBn : Below w.heap.size w w1 := (HB.out.alloc HB.out.size _).grown hgrow (by have := HB.out.size; simp; omega) (fun k e => (hrow.lt k e).1)
      exact ⟨⟨k + 1, by omega, by go_num, hOn, hBn⟩, by simp [intOf]; omega⟩
    · obtain rfl : k = l.length := by omega
      have hkl : (l.take l.length).length = l.length := by rw [List.take_length]
      rw [List.take_length] at HO hkl
      have hrow := HO.out.row
      clear hlt hk
      go_wp2_with (at_builtin; refine wpList_append_own _ rfl _ _ 22 rfl w.heap.size 99 i0 (.int .u32 0) 1 4 underU32s hi hz0 hz1 hz2 rfl (by decide) _ _ _ rfl (hrow.alloc _) ⟨wr.heap.size, 0, none⟩ 1 1 [.int .u32 77] rfl rfl (cell_one_new _ _ _) (by simp [Value.oneCell']) (by unfold maxLen; omega) (by omega) (by have := HB.out.size; simp; omega) ?_; intro v' w1 hown' hgrow _; obtain ⟨a9, c9, hv9, ⟨hc9, hm9⟩, ho9⟩ := own_snoc (x := 77) HO.out (by decide) hkl hown'; subst hv9)
      go_ret
      have hBn : Below w.heap.size w w1 := (HB.out.alloc HB.out.size _).grown hgrow (by have := HB.out.size; simp; omega) (fun k e => (hrow.lt k e).1)
      refine ⟨⟨_, rfl, ?_⟩, hBn⟩
      have h9 := ho9.take l.length (by simp) (fun e => by subst e; exact own_some ho9)
      rwa [List.take_left'] at h9
      rfl

set_option maxRecDepth 100000 in
set_option maxHeartbeats 4000000 in
theorem TwinNum_any (s : Bool) (v : Value) (l : List Nat) (w : World) (h : Lim w v l) (hl : l.length ≤ 1000000) :
    Calls Tryz.prog 15 #[.agg #[.bool s, v]] w fun e w' => (∃ a c, e = .returned (.agg #[.bool s, .slice a l.length c]) ∧ OwnL w.heap.size w' (.slice a l.length c) l) ∧ Below w.heap.size w w' := by
  have h0 := h
  obtain ⟨a, c, rfl, -⟩ := h0
  obtain ⟨W0, e0, n1, n2, hb0, hz0, hz1⟩ := box2 w (.bool s) (.slice a l.length c) (.bool false) (.slice none 0 0)
  have H : Hid (Lim W0 (.slice a l.length c) l) := h.below hb0
  have N1 := Lib.hid n1
  have N2 := Lib.hid n2
  have HB0 := Lib.hid hb0
  obtain ⟨c1, c2, -, -⟩ := n1
  clear n2 h hb0
  go_enter Tryz.func15, Tryz.ntmps15
  go_wp2_with fail
  go_region_held3 (fun W => W.cell? ⟨w.heap.size, 0, none⟩ = some (.bool s) ∧ W.cell? ⟨w.heap.size, 1, none⟩ = some (.slice a l.length c)) (first | exact ⟨c1, c2⟩ | exact ⟨d1, d2⟩ | (refine ⟨?_, ?_⟩ <;> (rw [World.cell?_setCell_far, World.cell?_setCell_far]; (first | exact d1 | exact d2); all_goals (simp; try omega))))
    (first
      | (go_at_call 69; (with_reducible refine (TwinLimbs_any (.slice a l.length c) l _ (H.out.below (by repeat (first | exact Below.refl _ _ | with_reducible refine Below.drew ?_ | with_reducible refine below_drewN ?_ _ | with_reducible refine Below.setCell ?_ (by first | (simp; done) | (simp; omega) | omega) _ | with_reducible refine Below.alloc ?_ (by first | (simp; done) | (simp; omega) | omega) _))) hl).mono ?_); rintro e w1 ⟨⟨v1, rfl, ho1⟩, hb10⟩; have hb1 := Below.undrew' hb10; have O1 := Lib.hid ho1; have hv1 := ho1.lim; clear ho1; obtain ⟨a1, k1, rfl, -⟩ := hv1; obtain ⟨d1, d2, -⟩ := N1.out.below hb1; obtain ⟨g1, g2, g3, g4⟩ := N2.out.below hb1))
  go_wp2_with fail
  refine bodyPost_ret (v := .agg #[.bool s, .slice a1 l.length k1]) (by simp [results, Tryz.results15, go_sem, g1, g2]) rfl ⟨⟨a1, k1, rfl, ?_⟩, (by repeat (first | exact Below.refl _ _ | with_reducible refine Below.drew ?_ | with_reducible refine below_drewN ?_ _ | with_reducible refine Below.setCell ?_ (by first | (simp; done) | (simp; omega) | omega) _ | with_reducible refine Below.alloc ?_ (by first | (simp; done) | (simp; omega) | omega) _ | (with_reducible refine Below.step ?_ hb1) | (with_reducible refine Below.step ?_ HB0.out)))⟩
  have hs : w.heap.size + 1 < W0.heap.size := hz1
  have h9 := O1.out
  try rw [World.size_drew] at h9
  exact ((h9.setBox hs _ _).setBox hs _ _).mono (by omega)

end Go.Proofs.YtgpoljbccimkjaaGreatDoor
