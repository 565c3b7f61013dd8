/- Walks: long division, its loops. -/
import Derived.Test.YtgpoljbccimkjaaGreatDoorDivMath
import Derived.Test.YtgpoljbccimkjaaGreatDoorProd
import Derived.Test.YtgpoljbccimkjaaGreatDoorOf
import Derived.Deep.AppendLies
import Derived.WalkMore
import Derived.Deep.LoopGhost
namespace Go.Proofs.YtgpoljbccimkjaaGreatDoor
set_option linter.unusedSimpArgs false
set_option linter.unusedVariables false
open Go.RowKit Go.Shelf

/-- The front of these cells is just these parts. -/
def Front (W : World) (b c : Nat) (L : List Nat) : Prop := ∃ cur, CellsAt W b cur 99 ∧ cur.size = c ∧ L.length ≤ c ∧ cur.toList.take L.length = u32s L

theorem Front.of_own {n : Nat} {W : World} {b c k : Nat} {L : List Nat} (h : W.ownsRow n 99 1 (.slice (some ⟨b, 0, none⟩) k c) k (u32s L)) (hk : k = L.length) (h0 : 0 < k) : Front W b c L ∧ n ≤ b ∧ c ≤ maxLen := by
  subst hk
  obtain ⟨_, h1⟩ := h
  rcases h1 with ⟨h1, h2⟩ | ⟨g, cap, cur, hv, hb, hg, hl, hm, hs, ht⟩
  · omega
  · injection hv with e1 e2 e3
    injection e1 with e1
    injection e1 with e1
    subst e1
    subst e3
    exact ⟨⟨cur, hg, by omega, hl, by rwa [Nat.mul_one] at ht⟩, hb, hm⟩
theorem Front.own {n : Nat} {W : World} {b c : Nat} {L : List Nat} (h : Front W b c L) (hn : n ≤ b) (hc : c ≤ maxLen) (hs : ∀ x ∈ L, x < 4294967296) : OwnL n W (.slice (some ⟨b, 0, none⟩) L.length c) L := by
  obtain ⟨cur, h1, h2, h3, h4⟩ := h
  exact ⟨⟨by rw [u32s_length]; omega, .inr ⟨b, c, cur, rfl, hn, h1, h3, hc, by omega, by rw [Nat.mul_one]; exact h4⟩⟩, hs⟩
theorem Front.cell {W : World} {b c : Nat} {L : List Nat} (h : Front W b c L) {i : Nat} (hi : i < L.length) : W.cell? ⟨b, i, none⟩ = some (.int .u32 (pt L i)) := by
  obtain ⟨cur, h1, h2, h3, h4⟩ := h
  have h5 : (cur.toList.take L.length)[i]? = some (.int .u32 (pt L i)) := by rw [h4]; exact u32s_get L i hi
  rw [h1.cell, ← Array.getElem?_toList]
  rw [List.getElem?_take, if_pos hi] at h5
  exact h5
theorem Front.limO {W : World} {b cc : Nat} {L : List Nat} (h : Front W b cc L) (hs : ∀ x ∈ L, x < 1000000000) (i n c : Nat) (hn : i + n ≤ L.length) (hc : n ≤ c) (hm : c ≤ maxLen) : LimO b i W (.slice (some ⟨b, i, none⟩) n c) ((L.drop i).take n) := by
  have hl : ((L.drop i).take n).length = n := by rw [List.length_take, List.length_drop]; omega
  refine ⟨_, c, by rw [hl], by omega, hm, small_take (small_drop hs i) n, .inr ⟨b, i, rfl, fun _ _ => Nat.le_refl _, fun j hj => ?_⟩⟩
  rw [hl] at hj
  rw [h.cell (by omega), pt_take hj, pt_drop]
theorem LimO.lim {b o : Nat} {w : World} {v : Value} {l : List Nat} (h : LimO b o w v l) : Lim w v l := by
  obtain ⟨a, c, rfl, h2, h3, h4, h5⟩ := h
  refine ⟨a, c, rfl, h2, h3, fun x hx => Nat.lt_trans (h4 x hx) (by decide), ?_⟩
  rcases h5 with h5 | ⟨b', o', rfl, _, hc⟩
  · exact .inl h5
  · exact .inr ⟨b', o', rfl, hc⟩
theorem Front.fill {W W' : World} {b c o n : Nat} {L la lb : List Nat} {f g : Int} {cur cur' : Array Value} (hcur : CellsAt W b cur 99) (h : Front W b c L) (h1 : CellsAt W' b cur' 99) (h2 : Filled o n n la lb f g cur cur') (hn : o + n ≤ L.length) : Front W' b c (rowStep L (blendL la lb f g n) o) := by
  obtain ⟨cur0, g1, g2, g3, g4⟩ := h
  have e : cur0 = cur := by
    unfold CellsAt at g1 hcur
    rw [g1] at hcur
    injection hcur with hcur
    injection hcur
  subst e
  have hb : (blendL la lb f g n).length = n := blendL_length _ _ _ _ _
  have hrl : (rowStep L (blendL la lb f g n) o).length = L.length := rowStep_length (by omega)
  refine ⟨cur', h1, h2.1.trans g2, by omega, ?_⟩
  apply List.ext_getElem?
  intro j
  rw [List.getElem?_take, hrl]
  by_cases hj : j < L.length
  · rw [if_pos hj, Array.getElem?_toList, h2.2, u32s_get _ _ (by omega)]
    by_cases h1 : o ≤ j ∧ j < o + n
    · rw [if_pos h1]
      have : pt (rowStep L (blendL la lb f g n) o) j = digitL la lb f g (j - o) := by
        unfold rowStep
        rw [List.append_assoc, pt_append_right (by rw [List.length_take]; omega), List.length_take, Nat.min_eq_left (by omega), pt_append_left (by omega), blendL_pt _ _ _ _ (by omega)]
      rw [this]
    · have h5 : (cur0.toList.take L.length)[j]? = some (.int .u32 (pt L j)) := by rw [g4]; exact u32s_get L j hj
      rw [List.getElem?_take, if_pos hj, Array.getElem?_toList] at h5
      rw [if_neg h1, h5]
      have : pt (rowStep L (blendL la lb f g n) o) j = pt L j := by
        rcases Nat.lt_or_ge j o with h2 | h2
        · unfold rowStep
          rw [List.append_assoc, pt_append_left (by rw [List.length_take]; omega), pt_take h2]
        · exact rowStep_pt_ge (by omega) (by omega)
      rw [this]
  · rw [if_neg hj, List.getElem?_eq_none (by rw [u32s_length]; omega)]
theorem Front.grown {W W' : World} {b c k : Nat} {L : List Nat} (h : Front W b c L) (hg : W.grownBy W' (some k)) (hb : b ≠ k) : Front W' b c L := by
  obtain ⟨cur, h1, h2, h3, h4⟩ := h
  exact ⟨cur, (hg.block b (Array.getElem?_eq_some_iff.1 h1).1 (fun e => hb (by injection e))).trans h1, h2, h3, h4⟩
theorem Front.below {W W' : World} {b c : Nat} {L : List Nat} (h : Front W b c L) (hg : Below W.heap.size W W') : Front W' b c L := by
  obtain ⟨cur, h1, h2, h3, h4⟩ := h
  exact ⟨cur, (hg.block b (Array.getElem?_eq_some_iff.1 h1).1).trans h1, h2, h3, h4⟩
theorem Front.other {W : World} {b c : Nat} {L : List Nat} (h : Front W b c L) {p : Addr} (hp : p.block ≠ b) (v : Value) : Front (W.setCell p v) b c L := by
  obtain ⟨cur, h1, h2, h3, h4⟩ := h
  exact ⟨cur, h1.other hp v, h2, h3, h4⟩
theorem u32s_set (L : List Nat) (i t : Nat) : u32s (L.set i t) = (u32s L).set i (.int .u32 (t : Nat)) := by unfold u32s; rw [List.map_set]
theorem Front.set {W : World} {b c : Nat} {L : List Nat} (h : Front W b c L) (i t : Nat) : Front (W.setCell ⟨b, i, none⟩ (.int .u32 (t : Nat))) b c (L.set i t) := by
  obtain ⟨cur, h1, h2, h3, h4⟩ := h
  refine ⟨_, h1.set i _, by rw [Array.size_setIfInBounds]; exact h2, by rw [List.length_set]; exact h3, ?_⟩
  rw [List.length_set, Array.toList_setIfInBounds, List.take_set, h4, u32s_set]
theorem Front.lt {W : World} {b c : Nat} {L : List Nat} (h : Front W b c L) : b < W.heap.size := by
  obtain ⟨cur, h1, _⟩ := h
  exact (Array.getElem?_eq_some_iff.1 h1).1
theorem Front.free {W : World} {b c : Nat} {L : List Nat} (h : Front W b c L) (o : Nat) : W.frozen? ⟨b, o, none⟩ = false := by
  obtain ⟨cur, h1, _⟩ := h
  exact h1.free o

set_option maxRecDepth 100000 in
theorem Clone_any (v : Value) (l : List Nat) (w : World) (h : Lim w v l) (hl : l.length ≤ 1000000) :
    Calls Tryz.prog 153 #[v] w fun e w' => (∃ v', e = .returned v' ∧ OwnL w.heap.size w' v' l) ∧ Below w.heap.size w w' := by
  obtain ⟨a, c, rfl, h1, h2, h3, h4⟩ := h
  obtain ⟨i0, hi, hz0, hz1, hz2⟩ := info_parts infoU32
  rcases h4 with ⟨rfl, rfl, rfl⟩ | ⟨b, o, rfl, hc⟩
  · refine (Tryz.slices_Clone_nil 0 0 w).mono ?_
    rintro e w' ⟨rfl, rfl⟩
    exact ⟨⟨_, rfl, OwnL.nil _ _⟩, Below.refl _ _⟩
  · refine (Tryz.slices_Clone i0 (.int .u32 0) 1 4 hi hz0 hz1 hz2 rfl (by decide) Tryz.sizeOf99 b o l.length c (u32s l) w (by rw [u32s_length]; omega) (by omega) (by omega) (fun j u hu => ?_) (fun u hu => ?_)).mono ?_
    · by_cases hj : j < l.length
      · rw [u32s_get _ _ hj] at hu
        injection hu with hu
        rw [← hu]
        exact hc j hj
      · rw [List.getElem?_eq_none (by rw [u32s_length]; omega)] at hu; cases hu
    · unfold u32s at hu
      rw [List.mem_map] at hu
      obtain ⟨x, _, rfl⟩ := hu
      rfl
    · rintro e w' ⟨v', rfl, ho, -, hb⟩
      exact ⟨⟨v', rfl, ho, h3⟩, hb⟩

theorem win_rowStep {L row b : List Nat} {i : Nat} (h : i + row.length ≤ L.length) (hl : row.length = b.length + 1) : ((rowStep L row i).drop i).take (b.length + 1) = row := by
  unfold rowStep
  rw [List.append_assoc, List.drop_left' (by rw [List.length_take]; omega), List.take_left' hl]
theorem rowStep_twice {L r1 r2 : List Nat} {i : Nat} (h : i + r1.length ≤ L.length) (hl : r2.length = r1.length) : rowStep (rowStep L r1 i) r2 i = rowStep L r2 i := by
  refine list_ext_pt (by rw [rowStep_length (by rw [rowStep_length h]; omega), rowStep_length h, rowStep_length (by omega)]) fun j hj => ?_
  have e : ∀ (X r : List Nat), i + r.length ≤ X.length → ∀ j, pt (rowStep X r i) j = if j < i then pt X j else if j < i + r.length then pt r (j - i) else pt X j := by
    intro X r hX j
    by_cases h1 : j < i
    · rw [if_pos h1]
      unfold rowStep
      rw [List.append_assoc, pt_append_left (by rw [List.length_take]; omega), pt_take h1]
    · rw [if_neg h1]
      by_cases h2 : j < i + r.length
      · rw [if_pos h2]
        unfold rowStep
        rw [List.append_assoc, pt_append_right (by rw [List.length_take]; omega), List.length_take, Nat.min_eq_left (by omega), pt_append_left (by omega)]
      · rw [if_neg h2, rowStep_pt_ge hX (by omega)]
  rw [e _ _ (by rw [rowStep_length h]; omega), e _ _ h, e _ _ (by omega), hl]
  split
  · rfl
  · split
    · rfl
    · rfl

end Go.Proofs.YtgpoljbccimkjaaGreatDoor

namespace Go.Proofs.YtgpoljbccimkjaaGreatDoor
set_option linter.unusedSimpArgs false
set_option linter.unusedVariables false
open Go.RowKit Go.Shelf

/-- Two rows of a call's own that are not one. -/
def Apart (v u : Value) : Prop := ∀ g, v.ownBlock = some g → u.ownBlock ≠ some g

set_option maxRecDepth 100000 in
set_option maxHeartbeats 4000000 in
theorem divide_any (va vb : Value) (la lb : List Nat) (w : World) (ha : Lim w va la) (hb : Lim w vb lb) (h1 : ∀ x ∈ la, x < 1000000000) (h2 : ∀ x ∈ lb, x < 1000000000) (tb : Top lb) (hl : 1 ≤ lb.length) (n1 : la.length ≤ 1000000) (n2 : lb.length ≤ 1000000) :
    Calls Tryz.prog 70 #[va, vb] w fun e w' => (∃ vq vl Q L, e = .returned (.tuple #[vq, vl]) ∧ OwnL w.heap.size w' vq Q ∧ OwnL w.heap.size w' vl L ∧ Apart vq vl ∧ (∀ x ∈ Q, x < 1000000000) ∧ (∀ x ∈ L, x < 1000000000) ∧ Top L ∧ Q.length = la.length + 1 - lb.length ∧ val Q * val lb + val L = val la ∧ val L < val lb) ∧ Below w.heap.size w w' := by
  have HLA := Lib.hid ha
  have HLB := Lib.hid hb
  have H1 := Lib.hid h1
  have H2 := Lib.hid h2
  have HT := Lib.hid tb
  obtain ⟨a, c, rfl, -⟩ := ha
  obtain ⟨a', c', rfl, b1, b2, -⟩ := hb
  obtain ⟨i0, hi, hz0, hz1, hz2⟩ := info_parts infoU32
  clear h1 h2 tb
  go_enter Tryz.func70, Tryz.ntmps70
  go_wp2_with fail
  go_step3
  go_wp2_with fail
  refine (Clone_any _ la w HLA.out n1).mono ?_
  rintro e w1 ⟨⟨v1, rfl, ho1⟩, hb1⟩
  have hrow := ho1.row
  have HB1 := Lib.hid hb1
  have HO1 := Lib.hid ho1
  have hsz1 := hb1.size
  clear ho1 hb1
  obtain ⟨n, hn⟩ : ∃ n, n = la.length + 1 - lb.length := ⟨_, rfl⟩
  have hmax : max ((la.length : Int) + 1 - (lb.length : Int)) 0 = (n : Int) := by omega
  have hmk := run_make_u32 (n : Int) n rfl (by omega)
  have HN := Lib.hid hn
  have hnI : (n : Int) ≤ 1000001 := by omega
  clear hn
  go_wp2_with (at_builtin; refine wpList_append_lies _ rfl _ _ 22 rfl w.heap.size 99 i0 (.int .u32 0) 1 4 underU32s hi hz0 hz1 hz2 rfl (by decide) _ _ _ rfl (hrow.alloc _) ⟨w1.heap.size, 0, none⟩ 1 1 [.int .u32 0] rfl rfl (cell_one_new _ _ _) (by simp [Value.oneCell']) (by omega) (by unfold maxLen; omega) (by omega) (by simp; omega) (w1.heap.size + 1) (by simp) ?_; intro gg cap w2 hown hgrow hat hlt)
  have hB2 : Below w.heap.size w w2 := (HB1.out.alloc HB1.out.size _).grown hgrow (by simp; omega) (fun k e => (hrow.lt k e).1)
  have hu : u32s la ++ [.int .u32 0] = u32s (la ++ [0]) := by rw [u32s_snoc]; rfl
  rw [hu] at hown
  obtain ⟨hF2, hgw, hcm⟩ := Front.of_own hown (by simp) (by omega)
  have hcl : la.length + 1 ≤ cap := by obtain ⟨_, _, h9, h10, _⟩ := hF2; simpa using h10
  obtain ⟨W3, e3, f3, q3, b3⟩ : ∃ W3, w2.alloc (.cells (madeCells #[.int .u32 0] n) 99) = W3 ∧ Front W3 gg cap (la ++ [0]) ∧ Front W3 w2.heap.size n (List.replicate n 0) ∧ Below w.heap.size w W3 := by
    refine ⟨_, rfl, hF2.below (by repeat (first | exact Below.refl _ _ | with_reducible refine Below.drew ?_ | with_reducible refine below_drewN ?_ _ | with_reducible refine Below.setCell ?_ (by first | (simp; done) | (simp; omega) | omega) _ | with_reducible refine Below.alloc ?_ (by first | (simp; done) | (simp; omega) | omega) _)), ⟨_, CellsAt.new _ _ _, ?_, by simp, ?_⟩, hB2.alloc hB2.size _⟩
    · rw [← Array.length_toList, made_list, u32s_length, List.length_replicate]
    · rw [List.length_replicate, made_list, List.take_of_length_le (by rw [u32s_length, List.length_replicate]; omega)]
  have hgq : gg < w2.heap.size := hlt
  have hwq : w.heap.size ≤ w2.heap.size := hB2.size
  have F3 := Lib.hid f3
  have Q3 := Lib.hid q3
  have B3 := Lib.hid b3
  have hclI : (la.length : Int) + 1 ≤ (cap : Int) := by omega
  have hcmI : (cap : Int) ≤ 9223372036854775807 := by unfold maxLen at hcm; omega
  clear hgrow hown hat hF2 hu hB2 hrow f3 q3 b3 hcm
  go_wp2_with fail
  rw [e3]
  clear hmk e3
  go_step3
  go_wp2_with fail
  go_loopg [6] n (fun k i wr => ∃ L Q, i = .int .i64 ((k : Int) - 1) ∧ Hid (DInv la lb k L Q) ∧ Hid (Front wr gg cap L) ∧ Hid (Front wr w2.heap.size n Q) ∧ Hid (Below w.heap.size w wr))
  case atStart =>
    have h9 := DInv.start (a := la) (b := lb) (Q := List.replicate n 0) H1.out HT.out hl (by rw [List.length_replicate]; exact HN.out) (fun j => by unfold pt; simp [List.getD_eq_getElem?_getD, List.getElem?_replicate]; split <;> rfl)
    rw [List.length_replicate] at h9
    exact ⟨_, _, rfl, h9, F3, Q3, B3⟩
  case round =>
    obtain ⟨L, Q, rfl, HD, HF, HQ, HB⟩ := hrel
    have hdl : L.length = la.length + 1 ∧ Q.length = n := ⟨HD.out.1, by have := HN.out; rw [HD.out.2.2.2.1, this]⟩
    obtain ⟨hdl1, hdl2⟩ := hdl
    cases gk with
    | zero =>
      have hll : Lim wr (.slice (some ⟨gg, 0, none⟩) L.length cap) L := (HF.out.own hgw (by unfold maxLen; omega) (fun x hx => Nat.lt_trans (HD.out.2.1 x hx) (by decide))).lim
      have HLL := Lib.hid hll
      have hdl1I : (L.length : Int) = (la.length : Int) + 1 := by omega
      clear hll
      go_wp2_with fail
      rw [← hdl1]
      refine (trim_any _ _ L _ HLL.out).mono ?_
      rintro e w5 ⟨rfl, rfl⟩
      go_wp2_with fail
      try rw [Exit.noGoto_ret]
      go_ret2
      obtain ⟨hv1, hv2⟩ := HD.out.done
      have hs32 : ∀ x ∈ L, x < 4294967296 := fun x hx => Nat.lt_trans (HD.out.2.1 x hx) (by decide)
      have hoL : OwnL w.heap.size wr (.slice (some ⟨gg, 0, none⟩) L.length cap) L := HF.out.own hgw (by unfold maxLen; omega) hs32
      have hoL2 := hoL.take (trimL L).length (trimL_length_le L) (fun e => by cases e)
      rw [← trimL_eq_take] at hoL2
      have hoQ : OwnL w.heap.size wr (.slice (some ⟨w2.heap.size, 0, none⟩) n n) Q := by
        have := HQ.out.own hwq (by unfold maxLen; omega) (fun x hx => Nat.lt_trans (HD.out.2.2.1 x hx) (by decide))
        rwa [hdl2] at this
      refine ⟨⟨_, _, Q, trimL L, rfl, hoQ, hoL2, ?_, HD.out.2.2.1, fun x hx => HD.out.2.1 x ((trimL_prefix L).subset hx), Top.trimL L, HD.out.2.2.2.1, by rw [val_trimL]; exact hv1, by rw [val_trimL]; exact hv2⟩, HB.out⟩
      intro g hg e
      have q1 : w2.heap.size = g := Option.some.inj hg
      have q2 : gg = g := Option.some.inj e
      omega
    | succ i =>
      obtain ⟨u1, u2, u3, u4⟩ := HD.out.win_val
      rw [show ((i + 1 : Nat) : Int) - 1 = (i : Int) by omega]
      obtain ⟨t1, t2, t3, t4⟩ := guess_ok u1 hl (show ∀ x ∈ win L lb i, x < 1000000000 from small_take (small_drop HD.out.2.1 i) _) H2.out HT.out u4
      have HFst := Lib.hid (HD.out.first hl H2.out t1 t2)
      have HT1 := Lib.hid (And.intro t1 (And.intro t2 (And.intro t3 t4)))
      have hLO := HF.out.limO HD.out.2.1 i (lb.length + 1) (cap - i) (by omega) (by omega) (by unfold maxLen; omega)
      have HLO := Lib.hid hLO
      have hiI : (i : Int) + (lb.length : Int) + 1 ≤ (cap : Int) := by omega
      have hsub : i + lb.length + 1 - i = lb.length + 1 := by omega
      have HU := Lib.hid (And.intro u1 (And.intro u2 u3))
      have HIQ : Hid (i < n) := Nat.lt_of_lt_of_le (Nat.lt_succ_self i) (hdl2 ▸ HD.out.2.2.2.2.1)
      clear u1 u2 u3 u4 t1 t2 t3 t4 hLO
      go_wp2_with fail
      rw [hsub]
      refine (guess_any _ _ (win L lb i) lb wr HLO.out.lim (HLB.out.below HB.out) (small_take (small_drop HD.out.2.1 i) _) H2.out hl n2 HT1.out.2.2.2 HT1.out.2.2.1).mono ?_
      rintro e w4 ⟨rfl, hb4⟩
      obtain ⟨q, hq⟩ : ∃ q, guessX (win L lb i) lb.length / guessY lb = q := ⟨_, rfl⟩
      have hfst := HFst.out
      have hqb : q ≤ 1000000000 := by
        have h9 : guessX (win L lb i) lb.length / guessY lb < 1000000001 := by rw [Nat.div_lt_iff_lt_mul HT1.out.2.2.2]; exact HT1.out.2.2.1
        omega
      rw [hq] at hfst ⊢
      obtain ⟨t, ht⟩ : ∃ t, val (win L lb i) / val lb = t := ⟨_, rfl⟩
      obtain ⟨r, hr⟩ : ∃ r, val (win L lb i) % val lb = r := ⟨_, rfl⟩
      have hstep := fun row => HD.out.step (row := row) hl H2.out
      rw [ht, hr] at hfst
      rw [ht, hr] at hstep
      have hrb : r < val lb := by rw [← hr]; exact Nat.mod_lt _ (by have := HD.out.2.2.2.2.2.2.2.1; omega)
      have HST := Lib.hid hstep
      have HFS := Lib.hid hfst
      have HR := Lib.hid hrb
      have hqI : (q : Int) ≤ 1000000000 := by omega
      have F4 := Lib.hid (HF.out.below hb4)
      have Q4 := Lib.hid (HQ.out.below hb4)
      have B4 := Lib.hid (Below.step HB.out hb4)
      clear hq hfst ht hr hstep hrb hb4 HFst hqb
      go_wp2_with fail
      obtain ⟨cur, hcur, hcs, hcl2, hct⟩ := F4.out
      have hLO4 := F4.out.limO HD.out.2.1 i (lb.length + 1) (cap - i) HU.out.2.1 (by omega) (by unfold maxLen; omega)
      refine (blend_any gg i (lb.length + 1) (cap - i) _ (.slice a' lb.length c') (win L lb i) lb 1 (-(q : Int)) cur w4 (by omega) hcur (by omega) hLO4 (HLB.out.limOld B4.out H2.out _ _ hgw) ⟨by decide, by decide⟩ ⟨by omega, by omega⟩).mono ?_
      rintro e w5 ⟨rfl, cur5, p1, p2, p3⟩
      have hbl : (blendL (win L lb i) lb 1 (-(q : Int)) (lb.length + 1)).length = lb.length + 1 := blendL_length _ _ _ _ _
      have F5 : Hid (Front w5 gg cap (rowStep L (blendL (win L lb i) lb 1 (-(q : Int)) (lb.length + 1)) i)) := F4.out.fill hcur p1 p2 HU.out.2.1
      have Q5 : Hid (Front w5 w2.heap.size n Q) := Q4.out.grown p3 (by omega)
      have B5 : Hid (Below w.heap.size w w5) := B4.out.grown p3 B4.out.size (fun k e => by cases e; omega)
      obtain ⟨row, hrow⟩ : ∃ row, blendL (win L lb i) lb 1 (-(q : Int)) (lb.length + 1) = row := ⟨_, rfl⟩
      obtain ⟨cy, hcy⟩ : ∃ cy, carryL (win L lb i) lb 1 (-(q : Int)) (lb.length + 1) = cy := ⟨_, rfl⟩
      have hrs : ∀ x ∈ row, x < 1000000000 := by rw [← hrow]; exact blendL_small _ _ _ _ _
      have hfs := HFS.out
      rw [hrow] at F5 hbl hfs
      rw [hcy] at hfs ⊢
      have HFR := Lib.hid hfs
      have HRS := Lib.hid hrs
      have hcyI : -1 ≤ cy ∧ cy ≤ 0 := by rcases hfs with ⟨_, h, _⟩ | ⟨_, h, _⟩ <;> omega
      obtain ⟨hcy1, hcy2⟩ := hcyI
      have HBL := Lib.hid hbl
      clear hcur hcs hcl2 hct hLO4 p1 p2 p3 hfs hrow hcy hrs hbl
      go_wp2_with fail
      go_loopg [8, 9] (if cy < 0 then 1 else 0) (fun m x o wr2 => ∃ (row : List Nat) (ov : Int) (qn : Nat), x = .int .i64 qn ∧ o = .int .i64 ov ∧ row.length = lb.length + 1 ∧ qn ≤ 1000000000 ∧ Hid (∀ x ∈ row, x < 1000000000) ∧ Hid (Front wr2 gg cap (rowStep L row i)) ∧ Hid (Front wr2 w2.heap.size n Q) ∧ Hid (Below w.heap.size w wr2) ∧ ((m = 0 ∧ ov = 0 ∧ Hid (qn = t ∧ val row = r)) ∨ (m = 1 ∧ ov = -1 ∧ Hid (qn = t + 1 ∧ val row + val lb = 1000000000 ^ (lb.length + 1) + r))))
      case atStart =>
        refine ⟨row, cy, q, rfl, rfl, HBL.out, by omega, HRS, F5, Q5, B5, ?_⟩
        rcases HFR.out with ⟨g1, g2, g3⟩ | ⟨g1, g2, g3⟩
        · left; exact ⟨by rw [if_neg (by omega)], g2, g1, g3⟩
        · right; exact ⟨by rw [if_pos (by omega)], g2, g1, g3⟩
      case round =>
        obtain ⟨row2, ov, qn, rfl, rfl, hr2, hqn, HR2, HF2, HQ2, HB2, hcase⟩ := hrel
        have hqnI : (qn : Int) ≤ 1000000000 := by omega
        rcases hcase with ⟨rfl, rfl, HX⟩ | ⟨rfl, rfl, HX⟩
        · have hcell := HQ2.out.cell (i := i) (by rw [hdl2]; exact HIQ.out)
          have hfree := HQ2.out.free i
          have hiq : (i : Int) < (n : Int) := by have := HIQ.out; omega
          obtain ⟨hx1, hx2⟩ := HX.out
          have hNew : Hid (DInv la lb i (rowStep L row2 i) (Q.set i t)) := HST.out row2 hr2 HR2.out hx2
          have hQN : Hid (Q.set i t = Q.set i qn) := by show _ = _; rw [hx1]
          clear hx1 hx2
          go_wp2_with fail
          go_roundg i
          case rel =>
            refine ⟨rowStep L row2 i, Q.set i t, by go_num, hNew, HF2.out.other (p := ⟨w2.heap.size, i, none⟩) (by show w2.heap.size ≠ gg; omega) _, ?_, HB2.out.setCell (p := ⟨w2.heap.size, i, none⟩) hwq _⟩
            rw [hQN.out]
            exact HQ2.out.set i qn
          case measure => exact Nat.lt_succ_self i
        · have hLO5 := HF2.out.limO (rowStep_small HD.out.2.1 HR2.out) i (lb.length + 1) (cap - i) (by rw [rowStep_length (by rw [hr2]; exact HU.out.2.1)]; exact HU.out.2.1) (by omega) (by unfold maxLen; omega)
          rw [win_rowStep (by rw [hr2]; exact HU.out.2.1) hr2] at hLO5
          have HLO5 := Lib.hid hLO5
          have hqn1 : (1 : Int) ≤ (qn : Int) := by have := HX.out.1; omega
          clear hLO5
          go_wp2_with fail
          obtain ⟨cur6, k1, k2, k3, k4⟩ := HF2.out
          have hk3 : i + (lb.length + 1) ≤ (rowStep L row2 i).length := by rw [rowStep_length (by rw [hr2]; exact HU.out.2.1)]; exact HU.out.2.1
          refine (blend_any gg i (lb.length + 1) (cap - i) _ (.slice a' lb.length c') row2 lb 1 1 cur6 _ (by omega) k1 (by omega) HLO5.out (HLB.out.limOld HB2.out H2.out _ _ hgw) ⟨by decide, by decide⟩ ⟨by decide, by decide⟩).mono ?_
          rintro e w6 ⟨rfl, cur7, p1, p2, p3⟩
          obtain ⟨c2, hc2⟩ := second_row hr2 HR2.out H2.out HR.out HX.out.2
          rw [c2]
          have F6 : Hid (Front w6 gg cap (rowStep L (blendL row2 lb 1 1 (lb.length + 1)) i)) := by
            have h9 := HF2.out.fill k1 p1 p2 hk3
            rw [rowStep_twice (by rw [hr2]; exact HU.out.2.1) (by rw [blendL_length, hr2])] at h9
            exact h9
          have Q6 : Hid (Front w6 w2.heap.size n Q) := HQ2.out.grown p3 (by omega)
          have B6 : Hid (Below w.heap.size w w6) := HB2.out.grown p3 HB2.out.size (fun k e => by cases e; omega)
          have HC2 := Lib.hid hc2
          clear k1 k2 k3 k4 hk3 p1 p2 p3 c2 hc2
          go_wp2_with fail
          go_roundg 0
          case rel => exact ⟨blendL row2 lb 1 1 (lb.length + 1), 0, qn - 1, by go_num, by go_num, blendL_length _ _ _ _ _, by omega, blendL_small _ _ _ _ _, F6, Q6, B6, .inl ⟨rfl, rfl, by have := HX.out.1; omega, HC2.out⟩⟩
          case measure => exact Nat.zero_lt_one

end Go.Proofs.YtgpoljbccimkjaaGreatDoor
