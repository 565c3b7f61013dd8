/- Walks: the product of two amounts. -/
import Derived.Test.YtgpoljbccimkjaaGreatDoorSub
import Derived.Test.YtgpoljbccimkjaaGreatDoorNearMath
namespace Go.Proofs.YtgpoljbccimkjaaGreatDoor
set_option linter.unusedSimpArgs false
set_option linter.unusedVariables false
open Go.RowKit Go.Shelf

/-- These cells are just these parts. -/
def Holds (W : World) (b : Nat) (L : List Nat) : Prop := ∃ cur, CellsAt W b cur 99 ∧ cur.toList = u32s L

theorem Holds.cell {W : World} {b : Nat} {L : List Nat} (h : Holds W b L) {i : Nat} (hi : i < L.length) : W.cell? ⟨b, i, none⟩ = some (.int .u32 (pt L i)) := by
  obtain ⟨cur, h1, h2⟩ := h
  rw [h1.cell, ← Array.getElem?_toList, h2]
  exact u32s_get L i hi

/-- A window of them. -/
theorem Holds.limO {W : World} {b : Nat} {L : List Nat} (h : Holds W b L) (hs : ∀ x ∈ L, x < 1000000000) (i n c : Nat) (hn : i + n ≤ L.length) (hc : n ≤ c) (hm : c ≤ maxLen) : LimO b i W (.slice (some ⟨b, i, none⟩) n c) ((L.drop i).take n) := by
  have hl : ((L.drop i).take n).length = n := by rw [List.length_take, List.length_drop]; omega
  refine ⟨_, c, by rw [hl], by omega, hm, small_take (small_drop hs i) n, .inr ⟨b, i, rfl, fun _ _ => Nat.le_refl _, fun j hj => ?_⟩⟩
  rw [hl] at hj
  rw [h.cell (by omega), pt_take hj, pt_drop]

theorem Filled.list {o n : Nat} {la lb : List Nat} {f g : Int} {cur cur' : Array Value} {L : List Nat} (h : Filled o n n la lb f g cur cur') (hL : cur.toList = u32s L) (hn : o + n ≤ L.length) : cur'.toList = u32s (rowStep L (blendL la lb f g n) o) := by
  apply List.ext_getElem?
  intro j
  have hsz : cur.size = L.length := by rw [← Array.length_toList, hL, u32s_length]
  rw [Array.getElem?_toList, h.2]
  have hb : (blendL la lb f g n).length = n := blendL_length _ _ _ _ _
  have hrl : (rowStep L (blendL la lb f g n) o).length = L.length := rowStep_length (by omega)
  by_cases hj : j < L.length
  · rw [u32s_get _ _ (by omega)]
    by_cases h1 : o ≤ j ∧ j < o + n
    · rw [if_pos h1]
      have : pt (rowStep L (blendL la lb f g n) o) j = digitL la lb f g (j - o) := by
        unfold rowStep
        rw [List.append_assoc, pt_append_right (by rw [List.length_take]; omega), List.length_take, Nat.min_eq_left (by omega), pt_append_left (by omega), blendL_pt _ _ _ _ (by omega)]
      rw [this]
    · rw [if_neg h1, ← Array.getElem?_toList, hL, u32s_get _ _ hj]
      have : pt (rowStep L (blendL la lb f g n) o) j = pt L j := by
        rcases Nat.lt_or_ge j o with h2 | h2
        · unfold rowStep
          rw [List.append_assoc, pt_append_left (by rw [List.length_take]; omega), pt_take h2]
        · exact rowStep_pt_ge (by omega) (by omega)
      rw [this]
  · rw [if_neg (by omega), ← Array.getElem?_toList, hL, List.getElem?_eq_none (by rw [u32s_length]; omega), List.getElem?_eq_none (by rw [u32s_length]; omega)]

/-- A row that lies in older memory, seen while a new block is written. -/
theorem Lim.limOld {w W : World} {v : Value} {l : List Nat} (h : Lim w v l) (hb : Below w.heap.size w W) (h1 : ∀ x ∈ l, x < 1000000000) (b o : Nat) (hbo : w.heap.size ≤ b) : LimO b o W v l := by
  have h' := h.below hb
  obtain ⟨a, c, rfl, h2, h3, h4, h5⟩ := h
  obtain ⟨a', c', he, _, _, _, h6⟩ := h'
  injection he with e1 e2 e3
  subst e1
  refine ⟨a, c, rfl, h2, h3, h1, ?_⟩
  rcases h5 with h5 | ⟨b', o', rfl, hc⟩
  · exact .inl h5
  · rcases h6 with ⟨h6, _⟩ | ⟨b'', o'', he2, hc2⟩
    · cases h6
    · injection he2 with he2
      injection he2 with q1 q2
      subst q1
      subst q2
      refine .inr ⟨b', o', rfl, fun h0 e => ?_, hc2⟩
      have := World.block_lt_of_cell? w _ (hc 0 h0)
      subst e
      exact absurd this (Nat.not_lt.2 hbo)

theorem made_list (n : Nat) : (madeCells #[Value.int .u32 0] n).toList = u32s (List.replicate n 0) := by
  apply List.ext_getElem
  · simp [madeCells, u32s]
  · intro i h1 h2
    simp [madeCells, u32s, Nat.mod_one]

set_option maxRecDepth 100000 in
set_option maxHeartbeats 4000000 in
theorem product_any (va vb : Value) (la lb : List Nat) (w : World) (ha : Lim w va la) (hb : Lim w vb lb) (h1 : ∀ x ∈ la, x < 1000000000) (h2 : ∀ x ∈ lb, x < 1000000000) (n1 : la.length ≤ 1000000) (n2 : lb.length ≤ 1000000) :
    Calls Tryz.prog 152 #[va, vb] w fun e w' => (∃ v L, e = .returned v ∧ OwnL w.heap.size w' v L ∧ L.length = la.length + lb.length ∧ (∀ x ∈ L, x < 1000000000) ∧ val L = val la * val lb) ∧ Below w.heap.size w w' := by
  have HLA := Lib.hid ha
  have HLB := Lib.hid hb
  have H1 := Lib.hid h1
  have H2 := Lib.hid h2
  obtain ⟨a, c, rfl, a1, a2, -⟩ := ha
  obtain ⟨a', c', rfl, b1, b2, -⟩ := hb
  clear h1 h2
  go_enter Tryz.func152, Tryz.ntmps152
  go_upto_if 13 with fail
  go_cut [0, 1] (fun s0 s1 wx => ∃ x1 x2 k1 k2, ∃ l1 l2 : List Nat, s0 = .slice x1 l1.length k1 ∧ s1 = .slice x2 l2.length k2 ∧ Hid (Lim w (.slice x1 l1.length k1) l1) ∧ Hid (Lim w (.slice x2 l2.length k2) l2) ∧ Hid (∀ x ∈ l1, x < 1000000000) ∧ Hid (∀ x ∈ l2, x < 1000000000) ∧ l1.length ≤ 1000000 ∧ l2.length ≤ 1000000 ∧ Hid (l1.length + l2.length = la.length + lb.length) ∧ Hid (val l1 * val l2 = val la * val lb) ∧ w = wx)
  case first =>
    by_cases hle : la.length ≤ lb.length
    · go_wp2_with fail
      go_meet
      exact ⟨_, _, _, _, la, lb, rfl, rfl, HLA, HLB, H1, H2, n1, n2, rfl, rfl, rfl⟩
    · go_wp2_with fail
      go_meet
      exact ⟨_, _, _, _, lb, la, rfl, rfl, HLB, HLA, H2, H1, n2, n1, Nat.add_comm _ _, Nat.mul_comm _ _, rfl⟩
  case rest =>
    obtain ⟨x1, x2, k1, k2, l1, l2, rfl, rfl, L1, L2, S1, S2, m1, m2, ML, MV, rfl⟩ := hcut
    clear a1 a2 b1 b2 n1 n2
    have hmk := run_make_u32 ((l1.length : Int) + (l2.length : Int)) (l1.length + l2.length) (by omega) (by omega)
    go_wp2_with fail
    have hW : ∃ W1, w.alloc (.cells (madeCells #[.int .u32 0] (l1.length + l2.length)) 99) = W1 ∧ Holds W1 w.heap.size (List.replicate (l1.length + l2.length) 0) ∧ Below w.heap.size w W1 := by
      exact ⟨_, rfl, ⟨_, CellsAt.new _ _ _, made_list _⟩, (by repeat (first | exact Below.refl _ _ | with_reducible refine Below.drew ?_ | with_reducible refine below_drewN ?_ _ | with_reducible refine Below.setCell ?_ (by first | (simp; done) | (simp; omega) | omega) _ | with_reducible refine Below.alloc ?_ (by first | (simp; done) | (simp; omega) | omega) _))⟩
    obtain ⟨W1, e1, m3, m4⟩ := hW
    rw [e1]
    clear e1 hmk
    have HM3 := Lib.hid m3
    have HM4 := Lib.hid m4
    clear m3 m4
    have hl1 : w.heap.size < W1.heap.size := by
      obtain ⟨cur, h, _⟩ := HM3.out
      exact (Array.getElem?_eq_some_iff.1 h).1
    go_loopw [24] (fun i wr => ∃ (k : Nat) (L : List Nat), k ≤ l1.length ∧ i = .int .i64 k ∧ PInv l1 l2 k L ∧ Holds wr w.heap.size L ∧ Below w.heap.size w wr) (fun i _ => l1.length - (intOf i).toNat)
    case atStart => exact ⟨0, _, Nat.zero_le _, rfl, PInv.zero l1 l2 _ (by simp) (fun j => by unfold pt; simp [List.getD_eq_getElem?_getD, List.getElem?_replicate]; split <;> rfl), HM3.out, HM4.out⟩
    case round =>
      obtain ⟨k, L, hk, rfl, hI, hH, hB⟩ := hrel
      have HI := Lib.hid hI
      have HH := Lib.hid hH
      have HB := Lib.hid hB
      have hLl : L.length = l1.length + l2.length := hI.1
      have HLl := Lib.hid hLl
      clear hI hH hB hLl
      by_cases hlt : k < l1.length
      · obtain ⟨y, z, he, -, -, -, hc⟩ := L1.out.below HB.out
        injection he with he1 he2 he3
        subst he1
        subst he3
        clear he2
        rcases hc with ⟨_, rfl, _⟩ | ⟨b, o, rfl, hc⟩
        · simp at hlt
        · have hcell := hc k hlt
          clear hc
          have hpt := pt_lt (by decide) S1.out k
          have hptI : (pt l1 k : Int) ≤ 999999999 := by omega
          have SP : Hid (Small (pt l1 k)) := ⟨by omega, by omega⟩
          have S1' : Hid (Small 1) := ⟨by decide, by decide⟩
          clear hpt
          go_wp2_with fail
          rw [show k + l2.length + 1 - k = l2.length + 1 from by omega]
          obtain ⟨cur, hcur, hcl⟩ := HH.out
          have hcs : cur.size = l1.length + l2.length := by rw [← Array.length_toList, hcl, u32s_length, HLl.out]
          refine (blend_any w.heap.size k (l2.length + 1) (l1.length + l2.length - k) _ (.slice x2 l2.length k2) ((L.drop k).take (l2.length + 1)) l2 1 (pt l1 k) cur wr (by omega) hcur (by omega) (HH.out.limO HI.out.2.1 k (l2.length + 1) _ (by have := HLl.out; omega) (by omega) (by unfold maxLen; omega)) (L2.out.limOld HB.out S2.out _ _ (Nat.le_refl _)) S1'.out SP.out).mono ?_
          rintro e w2 ⟨rfl, cur2, p1, p2, p3⟩
          have hN : Hid (Holds w2 w.heap.size (rowStep L (rowOf l2 L k (pt l1 k)) k)) := ⟨cur2, p1, p2.list hcl (by have := HLl.out; omega)⟩
          have hB2 : Hid (Below w.heap.size w w2) := HB.out.grown p3 HB.out.size (fun k e => by cases e; omega)
          have hI2 : Hid (PInv l1 l2 (k + 1) (rowStep L (rowOf l2 L k (pt l1 k)) k)) := HI.out.step hlt S1.out S2.out
          clear p1 p2 p3 hcell hcur hcl hcs
          go_wp2
          go_roundw
          case rel => exact ⟨k + 1, _, by omega, by go_num, hI2.out, hN.out, hB2.out⟩
          case measure => simp [intOf]; omega
      · obtain rfl : k = l1.length := by omega
        go_wp2
        go_ret
        obtain ⟨cur, hcur, hcl⟩ := HH.out
        have hsz : cur.size = l1.length + l2.length := by rw [← Array.length_toList, hcl, u32s_length, HLl.out]
        have hlen := HLl.out
        refine ⟨⟨_, L, rfl, ⟨⟨by rw [u32s_length]; omega, .inr ⟨w.heap.size, l1.length + l2.length, cur, by rw [hlen]; rfl, Nat.le_refl _, hcur, by omega, by unfold maxLen; omega, by omega, ?_⟩⟩, fun x hx => Nat.lt_trans (HI.out.2.1 x hx) (by decide)⟩, hlen.trans ML.out, HI.out.2.1, HI.out.done.trans MV.out⟩, HB.out⟩
        rw [hcl, List.take_of_length_le (by rw [u32s_length]; omega)]

end Go.Proofs.YtgpoljbccimkjaaGreatDoor
