/- What the laws over fractions share: how many parts there are; boxes. -/
import Derived.Test.YtgpoljbccimkjaaGreatDoorFText
namespace Go.Proofs.YtgpoljbccimkjaaGreatDoor
set_option linter.unusedSimpArgs false
set_option linter.unusedVariables false
open Go.RowKit Go.Shelf

theorem ParsedF.get_bad {w w' : World} {l : List UInt8} {e : Ending} {n : Int} (h : ParsedF w l e w') (hn : fracE l = n) (h0 : n ≠ 0) : e = .returned (.tuple #[frNone, .int .i64 n]) ∧ Below w.heap.size w w' := by
  unfold ParsedF at h
  rw [hn, if_neg h0] at h
  exact h
theorem ParsedF.get_good {w w' : World} {l : List UInt8} {e : Ending} (h : ParsedF w l e w') (hn : fracE l = 0) : (∃ u, e = .returned (.tuple #[u, .int .i64 0]) ∧ FrOk w' u 23 (fracQ l)) ∧ Below w.heap.size w w' := by
  unfold ParsedF at h
  rw [if_pos hn] at h
  exact h
theorem lim_one {w : World} {v : Value} {x : Nat} (h : Lim w v [x]) : ∃ b o c, v = .slice (some ⟨b, o, none⟩) 1 c ∧ Hid (∀ W, Below w.heap.size w W → W.cell? ⟨b, o, none⟩ = some (.int .u32 x)) := by
  obtain ⟨a, c, rfl, h1, h2, h3, h4⟩ := h
  rcases h4 with ⟨rfl, h5, -⟩ | ⟨b, o, rfl, hc⟩
  · cases h5
  · have h0 := hc 0 (by simp)
    exact ⟨b, o, c, rfl, fun W hb => (hb.cell (p := ⟨b, o, none⟩) (World.block_lt_of_cell? w ⟨b, o, none⟩ h0)).trans h0⟩
theorem CheckF_no {w : World} {u : Value} {k k' : Nat} {P Q : Int} (h : IsOO k P k' Q u w) (hk : k ≤ 1000000) (hk' : k' ≤ 1000000) (hn : ¬ (0 < Q ∧ Int.gcd P Q = 1)) :
    Calls Tryz.prog 58 #[u] w fun e w' => e = .returned (.bool false) ∧ Below w.heap.size w w' := by
  obtain ⟨s, p, n, c, s', p', n', c', rfl, h1, h2⟩ := h
  obtain ⟨t, v, l, e1, g1, g2, g3, g4⟩ := h1
  obtain ⟨t', v', l', e2, k1, k2, k3, k4⟩ := h2
  simp only [Value.agg.injEq, Array.mk.injEq, List.cons.injEq, Value.bool.injEq, and_true] at e1 e2
  obtain ⟨rfl, rfl⟩ := e1
  obtain ⟨rfl, rfl⟩ := e2
  refine (CheckF_any s s' _ _ l l' w g1 k1 (by omega) (by omega)).mono ?_
  rintro e w' ⟨rfl, hb⟩
  refine ⟨?_, hb⟩
  have : okF s l s' l' = false := by
    unfold okF
    rw [g2, k2, g3, k3]
    simp only [Bool.true_and, Bool.and_eq_false_iff, decide_eq_false_iff_not]
    by_cases hq : 0 < Q
    · exact .inr (fun e => hn ⟨hq, e⟩)
    · exact .inl hq
  rw [this]
theorem sign_cmp {x : Rat} : cmpI x.num 0 = cmpR x 0 := by
  have h1 : (x < 0) = (x.num < 0) := by
    rw [eq_iff_iff, Rat.lt_iff]
    simp
  have h2 : (0 < x) = (0 < x.num) := by
    rw [eq_iff_iff, Rat.lt_iff]
    simp
  unfold cmpI cmpR
  simp only [h1, h2]

set_option maxRecDepth 100000
section
variable {W : World} {b o : Nat}
theorem run_numf0 : (Instr.fieldAt 24 (.pointer (some ⟨b, o, none⟩)) 0).run Tryz.prog W = .ok (.pointer (some ⟨b, o, none⟩)) W := by
  go_simp
theorem run_numf1 : (Instr.fieldAt 24 (.pointer (some ⟨b, o, none⟩)) 1).run Tryz.prog W = .ok (.pointer (some ⟨b, o + 1, none⟩)) W := by
  go_simp
theorem run_loadB {s : Bool} (h0 : W.cell? ⟨b, o, none⟩ = some (.bool s)) : (Instr.loadAt 4 (.pointer (some ⟨b, o, none⟩))).run Tryz.prog W = .ok (.bool s) W := by
  go_simp
theorem run_loadU {n : Int} (h0 : W.cell? ⟨b, o, none⟩ = some (.int .u32 n)) : (Instr.loadAt 99 (.pointer (some ⟨b, o, none⟩))).run Tryz.prog W = .ok (.int .u32 n) W := by
  go_simp
theorem run_loadS {p : Option Addr} {n c : Nat} (h0 : W.cell? ⟨b, o, none⟩ = some (.slice p n c)) : (Instr.loadAt 22 (.pointer (some ⟨b, o, none⟩))).run Tryz.prog W = .ok (.slice p n c) W := by
  go_simp
end
section
variable {bs : List (Nat × Bool)} {fs : List (Nat × (Value → World → Prop))} {w0 : World} {d : Nat} {ty : TypeId} {pos : String} {af : Array Edge} {g : Option (Nat × Bool)}
theorem step_eqU {x : Nat} {t' : TypeId} {m k : Int} {b : Bool} (hx : ∀ v w, Known bs fs x v w → v = .int .u32 m) (hb' : (m == k) = b) (h : ∀ w, Known bs fs d (.bool b) w) : StepOk Tryz.prog bs fs w0 ⟨some d, .binOp .eql 99 (.tmp x) (.const (.int .u32 k)) t', ty, pos, af, g⟩ :=
  step_value rfl fun a w hb hk => ⟨.bool b, w, by
    have h1 := hx _ _ (hk x (by simp [looks, Op.operands]))
    have h2 : a.eval (.const (.int .u32 k)) = .int .u32 k := rfl
    simp only [execOp, h1, h2, ← hb']
    go_simp, h _, Below.refl _ _⟩
theorem step_lenT {x n c : Nat} {p : Option Addr} (hx : ∀ v w, Known bs fs x v w → v = .slice p n c) (h : ∀ w, Known bs fs d (.int .i64 (n : Nat)) w) : StepOk Tryz.prog bs fs w0 ⟨some d, .call { callee := .builtin .len, args := #[.tmp x], argTypes := #[22] }, 3, pos, af, g⟩ :=
  step_value rfl fun a w hb hk => ⟨_, w, by
    have h1 := hx _ _ (hk x (by simp [looks, Op.operands, Call.operands]))
    simp only [execOp, resolve, List.map_toArray, List.map_cons, List.map_nil, h1]
    go_simp, h _, Below.refl _ _⟩
theorem step_indexS {x b o c : Nat} (hx : ∀ v w, Known bs fs x v w → v = .slice (some ⟨b, o, none⟩) 1 c) (h : ∀ w, Known bs fs d (.pointer (some ⟨b, o, none⟩)) w) : StepOk Tryz.prog bs fs w0 ⟨some d, .indexAddr 22 (.tmp x) (.const (.int .i64 0)), ty, pos, af, g⟩ :=
  step_value rfl fun a w hb hk => ⟨.pointer (some ⟨b, o, none⟩), w, by
    have h1 := hx _ _ (hk x (by simp [looks, Op.operands]))
    have h2 : a.eval (.const (.int .i64 0)) = .int .i64 0 := rfl
    simp only [execOp, h1, h2]
    go_simp, h _, Below.refl _ _⟩
theorem step_joinL {y k' : Nat} {Z' : Int} (hy : ∀ v w, Known bs fs y v w → IsO k' Z' v w) (h : ∀ v w, IsOO 0 0 k' Z' v w → Known bs fs d v w) : StepOk Tryz.prog bs fs w0 ⟨some d, .build 58 #[(1, .tmp y)], ty, pos, af, g⟩ :=
  step_value rfl fun a w hb hk => by
    have h2 : OkAt w (a.eval (.tmp y)) k' Z' := hy _ _ (hk y (by simp [looks, Op.operands]))
    obtain ⟨s', p', n', c', e2⟩ := h2.agg
    refine ⟨.agg #[.bool false, .slice none 0 0, .bool s', .slice p' n' c'], w, ?_, h _ _ ⟨false, none, 0, 0, s', p', n', c', rfl, OkAt.none w, by rw [← e2]; exact h2⟩, Below.refl _ _⟩
    simp only [execOp, List.map_toArray, List.map_cons, List.map_nil, e2]
    go_simp
theorem step_callkk {f : FuncId} (hp : Plain f) {k k' : Value} {ts : Array TypeId} (h : ∀ w, Below w0.heap.size w0 w → Calls Tryz.prog f #[k, k'] w fun e w' => (∃ r, e = .returned r ∧ Known bs fs d r w') ∧ Below w.heap.size w w') : StepOk Tryz.prog bs fs w0 ⟨some d, .call { callee := .value (.func f), args := #[.const k, .const k'], argTypes := ts }, ty, pos, af, g⟩ :=
  step_enter rfl (fun _ => #[k, k']) (fun a w => by rw [exec_call hp a]; simp [Act.eval]) fun a w hb hk => h w hb
end

end Go.Proofs.YtgpoljbccimkjaaGreatDoor

namespace Go.Proofs.YtgpoljbccimkjaaGreatDoor
set_option linter.unusedSimpArgs false
set_option linter.unusedVariables false
open Go.RowKit Go.Shelf

theorem fq_a : fracE [49, 47, 48] = 4 := by decide +kernel
theorem fq_b : fracE [49, 47, 45, 50] = 4 := by decide +kernel
theorem fq_c : fracE [54, 47, 52] = 0 := by decide +kernel
theorem rq_a : Rat.divInt 1 2 / Rat.divInt (-2) 1 = Rat.divInt (-1) 4 := by decide +kernel
theorem rq_b : fracQ [54, 47, 52] = Rat.divInt 3 2 := by decide +kernel
theorem rq_c : Rat.divInt 1 2 + Rat.divInt 1 3 = Rat.divInt 5 6 := by decide +kernel
theorem rq_d : (Rat.divInt 6 (-4)).num = -3 ∧ ((Rat.divInt 6 (-4)).den : Int) = 2 := ⟨by decide +kernel, by decide +kernel⟩
theorem txr_a : txtR (Rat.divInt (-1) 2) = [45, 49, 47, 50] := by
  have h1 : (Rat.divInt (-1) 2).num = -1 := by decide +kernel
  have h2 : (Rat.divInt (-1) 2).den = 2 := by decide +kernel
  unfold txtR decI
  rw [h1, h2]
  simp only [show ((2 : Nat) = 1) = False from by decide, if_false]
  rw [if_pos (by decide), if_neg (by decide), show (-1 : Int).natAbs = 1 from rfl, show ((2 : Nat) : Int).natAbs = 2 from rfl, Lib.decDigits_one (by decide), Lib.decDigits_one (by decide)]
  decide
theorem txr_b : txtR (Rat.divInt 3 1) = [51] := by
  have h1 : (Rat.divInt 3 1).num = 3 := by decide +kernel
  have h2 : (Rat.divInt 3 1).den = 1 := by decide +kernel
  unfold txtR decI
  rw [h1, h2, if_pos rfl, if_neg (by decide), show (3 : Int).natAbs = 3 from rfl, Lib.decDigits_one (by decide)]
  decide

theorem name_fr (w : World) (x0 x1 x2 x3 : Value) : ∃ W, w.alloc (.cells #[x0, x1, x2, x3] 58) = W ∧ BoxV W w.heap.size [x0, x1, x2, x3] ∧ Below w.heap.size w W :=
  ⟨_, rfl, BoxV.new _ _ _, (Below.refl _ _).alloc (Nat.le_refl _) _⟩

set_option maxRecDepth 100000 in
set_option maxHeartbeats 8000000 in
theorem aliveF_true (w : World) (ht : Tab w) : Calls Tryz.prog 64 #[] w fun e w' => e = .returned (.bool true) ∧ Below w.heap.size w w' := by
  have HT : Hid (∀ W, Below w.heap.size w W → Tab W) := fun W hb => ht.below hb
  clear ht
  go_enter Tryz.func64, Tryz.ntmps64
  go_wp2_with fail
  refine (Of_num 1 _ (by decide) (by decide)).mono ?_
  rintro e w1 ⟨⟨u1, rfl, h1⟩, hb1⟩
  go_wp2_with fail
  refine (Of_num 0 _ (by decide) (by decide)).mono ?_
  rintro e w2 ⟨⟨u2, rfl, h2⟩, hb2⟩
  go_wp2_with fail
  refine (Make_zero (h1.below hb2) h2).mono ?_
  rintro e w3 ⟨rfl, hb3⟩
  unfold frNone
  obtain ⟨W1, e1, m1, b1⟩ := name_fr w3 (.bool false) (.slice none 0 0) (.bool false) (.slice none 0 0)
  have E1 := Lib.hid e1
  clear e1
  have B1 := Lib.hid (Below.step (Below.step (Below.step hb1 hb2) hb3) b1)
  clear h1 h2 hb1 hb2 hb3 m1 b1
  go_wp2_with fail
  rw [E1.out]
  refine (of_num (n := 1) (d := 2) (by decide) (by decide) (by decide)).mono ?_
  rintro e w1a ⟨⟨u1, rfl, h1⟩, hb1⟩
  go_wp2_with fail
  refine (of_num (n := -2) (d := 1) (by decide) (by decide) (by decide)).mono ?_
  rintro e w2a ⟨⟨u2, rfl, h2⟩, hb2⟩
  go_wp2_with fail
  refine (DivF_ok (h1.below hb2) h2 (by decide) (by decide) (by decide +kernel)).mono ?_
  rintro e w3a ⟨⟨u3, rfl, h3⟩, hb3⟩
  obtain ⟨s3, a3, n3, c3, s3', a3', n3', c3', rfl, -⟩ := h3.split
  obtain ⟨W2, e2, m3, b2⟩ := name_fr w3a (.bool s3) (.slice a3 n3 c3) (.bool s3') (.slice a3' n3' c3')
  have M3 := m3.keep
  have H3 := (h3.below b2).keep
  have B2 := Lib.hid (Below.step B1.out (Below.step (Below.step (Below.step hb1 hb2) hb3) b2))
  clear h1 h2 h3 hb1 hb2 hb3 m3 b2
  go_wp2_with fail
  clear e2
  refine (of_num (n := 1) (d := 1) (by decide) (by decide) (by decide)).mono ?_
  rintro e w1b ⟨⟨u1, rfl, h1⟩, hb1⟩
  go_wp2_with fail
  refine (of_num (n := 0) (d := 1) (by decide) (by decide) (by decide)).mono ?_
  rintro e w2b ⟨⟨u2, rfl, h2⟩, hb2⟩
  have h20 : FrOk w2b u2 3 0 := by rw [← show Rat.divInt 0 1 = 0 from by decide +kernel]; exact h2
  go_wp2_with fail
  refine (DivF_zero (h1.below hb2) h20 (by decide) (by decide)).mono ?_
  rintro e w3b ⟨rfl, hb3⟩
  unfold frNone
  obtain ⟨W3, e3, m4, b3⟩ := name_fr w3b (.bool false) (.slice none 0 0) (.bool false) (.slice none 0 0)
  have E3 := Lib.hid e3
  clear e3
  have R3 := Below.step (Below.step (Below.step hb1 hb2) hb3) b3
  have M3 := (M3.out _ R3).keep
  have H3 := (H3.out _ R3).keep
  have B3 := Lib.hid (Below.step B2.out R3)
  clear h1 h2 h20 hb1 hb2 hb3 m4 b3 R3
  go_wp2_with fail
  rw [E3.out]
  refine (ParseF_any [49, 47, 48] _ (by decide)).mono ?_
  intro e w1c hp
  obtain ⟨rfl, hb1⟩ := hp.get_bad fq_a (by decide)
  unfold frNone
  obtain ⟨W4, e4, m4, b4⟩ := name_fr w1c (.bool false) (.slice none 0 0) (.bool false) (.slice none 0 0)
  have E4 := Lib.hid e4
  clear e4
  have R4 := Below.step hb1 b4
  have M3 := (M3.out _ R4).keep
  have H3 := (H3.out _ R4).keep
  have B4 := Lib.hid (Below.step B3.out R4)
  clear hp hb1 m4 b4 R4
  go_wp2_with fail
  rw [E4.out]
  refine (ParseF_any [49, 47, 45, 50] _ (by decide)).mono ?_
  intro e w5 hp
  obtain ⟨rfl, hb1⟩ := hp.get_bad fq_b (by decide)
  unfold frNone
  obtain ⟨W5, e5, m5, b5⟩ := name_fr w5 (.bool false) (.slice none 0 0) (.bool false) (.slice none 0 0)
  have E5 := Lib.hid e5
  clear e5
  have R5 := Below.step hb1 b5
  have M3 := (M3.out _ R5).keep
  have H3 := (H3.out _ R5).keep
  have B5 := Lib.hid (Below.step B4.out R5)
  clear hp hb1 m5 b5 R5
  go_wp2_with fail
  rw [E5.out]
  refine (ParseF_any [54, 47, 52] _ (by decide)).mono ?_
  intro e w6 hp
  obtain ⟨⟨u6, rfl, h6⟩, hb1⟩ := hp.get_good fq_c
  obtain ⟨s6, a6, n6, c6, s6', a6', n6', c6', rfl, -⟩ := h6.split
  obtain ⟨W6, e6, m6, b6⟩ := name_fr w6 (.bool s6) (.slice a6 n6 c6) (.bool s6') (.slice a6' n6' c6')
  have R6 := Below.step hb1 b6
  have M11 := m6.keep
  have H11 := (h6.below b6).keep
  have M3 := (M3.out _ R6).keep
  have H3 := (H3.out _ R6).keep
  have B6 := Lib.hid (Below.step B5.out R6)
  clear hp hb1 m6 b6 R6 h6
  go_wp2_with fail
  clear e6
  refine (of_num (n := 6) (d := -4) (by decide) (by decide) (by decide)).mono ?_
  rintro e w7 ⟨⟨u7, rfl, h7⟩, hb1⟩
  obtain ⟨s7, v7, l7, s8, v8, l8, rfl, lm7, lm8, ok7, ok8, z7, z8, -, -⟩ := h7
  obtain ⟨rfl, rfl⟩ := valS_inj ok7 (s' := true) (l' := [3]) (by decide) (by rw [z7, rq_d.1]; decide)
  obtain ⟨rfl, rfl⟩ := valS_inj ok8 (s' := false) (l' := [2]) (by decide) (by rw [z8, rq_d.2]; decide)
  obtain ⟨b1, o1, c1, rfl, L1⟩ := lim_one lm7
  obtain ⟨b2, o2, c2, rfl, L2⟩ := lim_one lm8
  obtain ⟨W7, e7, m7, b7⟩ := name_fr w7 (.bool true) (.slice (some ⟨b1, o1, none⟩) 1 c1) (.bool false) (.slice (some ⟨b2, o2, none⟩) 1 c2)
  have R7 := Below.step hb1 b7
  have M13 := m7.keep
  have L1 : Hid (∀ W, Below W7.heap.size W7 W → W.cell? ⟨b1, o1, none⟩ = some (.int .u32 3)) := fun W hb => L1.out W (Below.step b7 hb)
  have L2 : Hid (∀ W, Below W7.heap.size W7 W → W.cell? ⟨b2, o2, none⟩ = some (.int .u32 2)) := fun W hb => L2.out W (Below.step b7 hb)
  have M11 := (M11.out _ R7).keep
  have H11 := (H11.out _ R7).keep
  have M3 := (M3.out _ R7).keep
  have H3 := (H3.out _ R7).keep
  have B7 := Lib.hid (Below.step B6.out R7)
  have HT : Hid (∀ W, Below W7.heap.size W7 W → Tab W) := fun W hb => HT.out W (Below.step B7.out hb)
  clear hb1 m7 b7 R7 lm7 lm8 ok7 ok8 z7 z8
  go_upto_region 8 with fail
  clear e7
  rename_i K hK
  try simp only [List.append_eq, List.cons_append, List.nil_append]
  refine wp_region_known [(0, true), (46, true), (47, true), (49, true), (50, true), (51, true), (53, true), (54, true), (55, true), (57, true), (58, true), (59, true), (61, true), (62, true), (63, true), (65, true), (66, true), (67, true), (70, true), (71, true), (72, true), (77, true), (78, true), (79, true), (85, true), (86, true), (87, true), (92, true), (93, true), (94, true), (100, true), (101, true), (102, true), (105, true), (106, true), (107, true), (110, true), (111, true), (112, true), (117, true), (118, true), (119, true), (122, true), (123, true), (124, true), (127, true), (128, true), (129, true), (133, false), (134, true), (135, true), (136, true), (139, false), (140, true), (141, true)]
    [(2, IsV (.int .i64 (6))), (4, IsV (.int .i64 (0))), (6, IsV (.int .i64 (6))), (8, IsV (.int .i64 (4))), (10, IsV (.int .i64 (4))), (12, IsV (.int .i64 (0))), (3, IsV (.pointer (some ⟨w3a.heap.size, 0, none⟩))), (11, IsV (.pointer (some ⟨w6.heap.size, 0, none⟩))), (13, IsV (.pointer (some ⟨w7.heap.size, 0, none⟩)))]
    [(45, IsV (.int .i64 (6))), (48, IsV (.int .i64 (0))), (52, IsV (.int .i64 (6))), (56, IsV (.int .i64 (4))), (60, IsV (.int .i64 (4))), (64, IsV (.int .i64 (0))), (68, IsV (.pointer (some ⟨w7.heap.size, 0, none⟩))), (69, IsV (.pointer (some ⟨w7.heap.size, 0, none⟩))), (73, IsV (.pointer (some ⟨w7.heap.size, 0, none⟩))), (74, IsV (.pointer (some ⟨w7.heap.size, 1, none⟩))), (75, IsV (.slice (some ⟨b1, o1, none⟩) 1 c1)), (76, IsV (.int .i64 1)), (80, IsV (.pointer (some ⟨w7.heap.size, 0, none⟩))), (81, IsV (.pointer (some ⟨w7.heap.size, 1, none⟩))), (82, IsV (.slice (some ⟨b1, o1, none⟩) 1 c1)), (83, IsV (.pointer (some ⟨b1, o1, none⟩))), (84, IsV (.int .u32 3)), (88, IsV (.pointer (some ⟨w7.heap.size, 2, none⟩))), (89, IsV (.pointer (some ⟨w7.heap.size, 3, none⟩))), (90, IsV (.slice (some ⟨b2, o2, none⟩) 1 c2)), (91, IsV (.int .i64 1)), (95, IsV (.pointer (some ⟨w7.heap.size, 2, none⟩))), (96, IsV (.pointer (some ⟨w7.heap.size, 3, none⟩))), (97, IsV (.slice (some ⟨b2, o2, none⟩) 1 c2)), (98, IsV (.pointer (some ⟨b2, o2, none⟩))), (99, IsV (.int .u32 2)), (103, IsF 6 (Rat.divInt 1 2 / Rat.divInt (-2) 1)), (104, IsF 3 (Rat.divInt (-1) 4)), (108, IsF 23 (fracQ [54, 47, 52])), (109, IsF 3 (Rat.divInt 3 2)), (113, IsF 3 (Rat.divInt 1 2)), (114, IsF 3 (Rat.divInt 1 3)), (115, IsF 7 ((Rat.divInt 1 2 + Rat.divInt 1 3))), (116, IsF 3 (Rat.divInt 5 6)), (120, IsF 3 (Rat.divInt (-1) 2)), (121, IsV (.string ⟨(txtR (Rat.divInt (-1) 2)).toArray⟩)), (125, IsF 3 (Rat.divInt 3 1)), (126, IsV (.string ⟨(txtR (Rat.divInt 3 1)).toArray⟩)), (130, IsO 3 (2)), (131, IsO 3 (4)), (132, IsOO 3 (2) 3 (4)), (137, IsO 3 (2)), (138, IsOO 0 (0) 3 (2))]
    142 (by kernel_rfl) rfl (by kernel_rfl) (by kernel_rfl) ⟨rfl, rfl, rfl, rfl, rfl, rfl, rfl, rfl, rfl, trivial⟩ ⟨IsV.grows _ , IsV.grows _ , IsV.grows _ , IsV.grows _ , IsV.grows _ , IsV.grows _ , IsV.grows _ , IsV.grows _ , IsV.grows _ , IsV.grows _ , IsV.grows _ , IsV.grows _ , IsV.grows _ , IsV.grows _ , IsV.grows _ , IsV.grows _ , IsV.grows _ , IsV.grows _ , IsV.grows _ , IsV.grows _ , IsV.grows _ , IsV.grows _ , IsV.grows _ , IsV.grows _ , IsV.grows _ , IsV.grows _ , IsV.grows _ , IsV.grows _ , IsV.grows _ , IsV.grows _ , IsV.grows _ , IsV.grows _ , IsV.grows _ , IsV.grows _ , IsV.grows _ , IsF.grows _ _ , IsF.grows _ _ , IsF.grows _ _ , IsF.grows _ _ , IsF.grows _ _ , IsF.grows _ _ , IsF.grows _ _ , IsF.grows _ _ , IsF.grows _ _ , IsV.grows _ , IsF.grows _ _ , IsV.grows _ , IsO.grows _ _ , IsO.grows _ _ , IsOO.grows _ _ _ _ , IsO.grows _ _ , IsOO.grows _ _ _ _ , trivial⟩ ?_ ?_
  · refine AllStep.cons (step_move (fun _ _ h => h)) ?_
    refine AllStep.cons (step_eqE (fun _ _ h => h) (by decide) (fun _ => rfl)) ?_
    refine AllStep.cons (step_move (fun _ _ h => h)) ?_
    refine AllStep.cons (step_move (fun _ _ h => h)) ?_
    refine AllStep.cons (step_eqE (fun _ _ h => h) (by decide) (fun _ => rfl)) ?_
    refine AllStep.cons (step_pickT (fun _ _ h => h) (fun _ _ h => h)) ?_
    refine AllStep.cons (step_move (fun _ _ h => h)) ?_
    refine AllStep.cons (step_move (fun _ _ h => h)) ?_
    refine AllStep.cons (step_eqE (fun _ _ h => h) (by decide) (fun _ => rfl)) ?_
    refine AllStep.cons (step_pickT (fun _ _ h => h) (fun _ _ h => h)) ?_
    refine AllStep.cons (step_move (fun _ _ h => h)) ?_
    refine AllStep.cons (step_move (fun _ _ h => h)) ?_
    refine AllStep.cons (step_eqE (fun _ _ h => h) (by decide) (fun _ => rfl)) ?_
    refine AllStep.cons (step_pickT (fun _ _ h => h) (fun _ _ h => h)) ?_
    refine AllStep.cons (step_move (fun _ _ h => h)) ?_
    refine AllStep.cons (step_move (fun _ _ h => h)) ?_
    refine AllStep.cons (step_eqE (fun _ _ h => h) (by decide) (fun _ => rfl)) ?_
    refine AllStep.cons (step_pickT (fun _ _ h => h) (fun _ _ h => h)) ?_
    refine AllStep.cons (step_move (fun _ _ h => h)) ?_
    refine AllStep.cons (step_move (fun _ _ h => h)) ?_
    refine AllStep.cons (step_eqE (fun _ _ h => h) (by decide) (fun _ => rfl)) ?_
    refine AllStep.cons (step_pickT (fun _ _ h => h) (fun _ _ h => h)) ?_
    refine AllStep.cons (step_move (fun _ _ h => h)) ?_
    refine AllStep.cons (step_fieldT (fun _ _ h => h) (fun _ => run_top) (fun _ => rfl)) ?_
    refine AllStep.cons (step_fieldT (fun _ _ h => h) (fun _ => run_numf0) (fun _ => rfl)) ?_
    refine AllStep.cons (step_loadT (fun _ _ h => h) (fun W hb => run_loadB (M13.out W hb).at0) (fun _ _ => rfl)) ?_
    refine AllStep.cons (step_pickT (fun _ _ h => h) (fun _ _ h => h)) ?_
    refine AllStep.cons (step_move (fun _ _ h => h)) ?_
    refine AllStep.cons (step_fieldT (fun _ _ h => h) (fun _ => run_top) (fun _ => rfl)) ?_
    refine AllStep.cons (step_fieldT (fun _ _ h => h) (fun _ => run_numf1) (fun _ => rfl)) ?_
    refine AllStep.cons (step_loadT (fun _ _ h => h) (fun W hb => run_loadS (M13.out W hb).at1) (fun _ _ => rfl)) ?_
    refine AllStep.cons (step_lenT (fun _ _ h => h) (fun _ => rfl)) ?_
    refine AllStep.cons (step_eqI (fun _ _ h => h) (by decide) (fun _ => rfl)) ?_
    refine AllStep.cons (step_pickT (fun _ _ h => h) (fun _ _ h => h)) ?_
    refine AllStep.cons (step_move (fun _ _ h => h)) ?_
    refine AllStep.cons (step_fieldT (fun _ _ h => h) (fun _ => run_top) (fun _ => rfl)) ?_
    refine AllStep.cons (step_fieldT (fun _ _ h => h) (fun _ => run_numf1) (fun _ => rfl)) ?_
    refine AllStep.cons (step_loadT (fun _ _ h => h) (fun W hb => run_loadS (M13.out W hb).at1) (fun _ _ => rfl)) ?_
    refine AllStep.cons (step_indexS (fun _ _ h => h) (fun _ => rfl)) ?_
    refine AllStep.cons (step_loadT (fun _ _ h => h) (fun W hb => run_loadU (L1.out W hb)) (fun _ _ => rfl)) ?_
    refine AllStep.cons (step_eqU (fun _ _ h => h) (by decide) (fun _ => rfl)) ?_
    refine AllStep.cons (step_pickT (fun _ _ h => h) (fun _ _ h => h)) ?_
    refine AllStep.cons (step_move (fun _ _ h => h)) ?_
    refine AllStep.cons (step_fieldT (fun _ _ h => h) (fun _ => run_low) (fun _ => rfl)) ?_
    refine AllStep.cons (step_fieldT (fun _ _ h => h) (fun _ => run_numf1) (fun _ => rfl)) ?_
    refine AllStep.cons (step_loadT (fun _ _ h => h) (fun W hb => run_loadS (M13.out W hb).at3) (fun _ _ => rfl)) ?_
    refine AllStep.cons (step_lenT (fun _ _ h => h) (fun _ => rfl)) ?_
    refine AllStep.cons (step_eqI (fun _ _ h => h) (by decide) (fun _ => rfl)) ?_
    refine AllStep.cons (step_pickT (fun _ _ h => h) (fun _ _ h => h)) ?_
    refine AllStep.cons (step_move (fun _ _ h => h)) ?_
    refine AllStep.cons (step_fieldT (fun _ _ h => h) (fun _ => run_low) (fun _ => rfl)) ?_
    refine AllStep.cons (step_fieldT (fun _ _ h => h) (fun _ => run_numf1) (fun _ => rfl)) ?_
    refine AllStep.cons (step_loadT (fun _ _ h => h) (fun W hb => run_loadS (M13.out W hb).at3) (fun _ _ => rfl)) ?_
    refine AllStep.cons (step_indexS (fun _ _ h => h) (fun _ => rfl)) ?_
    refine AllStep.cons (step_loadT (fun _ _ h => h) (fun W hb => run_loadU (L2.out W hb)) (fun _ _ => rfl)) ?_
    refine AllStep.cons (step_eqU (fun _ _ h => h) (by decide) (fun _ => rfl)) ?_
    refine AllStep.cons (step_pickT (fun _ _ h => h) (fun _ _ h => h)) ?_
    refine AllStep.cons (step_move (fun _ _ h => h)) ?_
    refine AllStep.cons (step_loadT (fun _ _ h => h) (fun W hb => run_load4 rfl rfl rfl (M3.out W hb).at0 (M3.out W hb).at1 (M3.out W hb).at2 (M3.out W hb).at3) (fun w hb => H3.out w hb)) ?_
    refine AllStep.cons (step_callkk (Plain.of Tryz.func66 rfl rfl) (fun w _ => of_num (n := -1) (d := 4) (by decide) (by decide) (by decide))) ?_
    refine AllStep.cons (step_call2 (Plain.of Tryz.func65 rfl rfl) (fun _ _ _ _ hu hv => (same_ok hu hv true (decide_eq_true (rq_a))).mono (fun _ _ h => ansV h))) ?_
    refine AllStep.cons (step_pickT (fun _ _ h => h) (fun _ _ h => h)) ?_
    refine AllStep.cons (step_move (fun _ _ h => h)) ?_
    refine AllStep.cons (step_loadT (fun _ _ h => h) (fun W hb => run_load4 rfl rfl rfl (M11.out W hb).at0 (M11.out W hb).at1 (M11.out W hb).at2 (M11.out W hb).at3) (fun w hb => H11.out w hb)) ?_
    refine AllStep.cons (step_callkk (Plain.of Tryz.func66 rfl rfl) (fun w _ => of_num (n := 3) (d := 2) (by decide) (by decide) (by decide))) ?_
    refine AllStep.cons (step_call2 (Plain.of Tryz.func65 rfl rfl) (fun _ _ _ _ hu hv => (same_ok hu hv true (decide_eq_true (rq_b))).mono (fun _ _ h => ansV h))) ?_
    refine AllStep.cons (step_pickT (fun _ _ h => h) (fun _ _ h => h)) ?_
    refine AllStep.cons (step_move (fun _ _ h => h)) ?_
    refine AllStep.cons (step_callkk (Plain.of Tryz.func66 rfl rfl) (fun w _ => of_num (n := 1) (d := 2) (by decide) (by decide) (by decide))) ?_
    refine AllStep.cons (step_callkk (Plain.of Tryz.func66 rfl rfl) (fun w _ => of_num (n := 1) (d := 3) (by decide) (by decide) (by decide))) ?_
    refine AllStep.cons (step_call2 (Plain.of Tryz.func37 rfl rfl) (fun _ _ _ _ hu hv => AddF_at (FrOk.at hu) (FrOk.at hv) (by decide) (by decide) (by decide) (by decide))) ?_
    refine AllStep.cons (step_callkk (Plain.of Tryz.func66 rfl rfl) (fun w _ => of_num (n := 5) (d := 6) (by decide) (by decide) (by decide))) ?_
    refine AllStep.cons (step_call2 (Plain.of Tryz.func65 rfl rfl) (fun _ _ _ _ hu hv => (same_ok hu hv true (decide_eq_true (rq_c))).mono (fun _ _ h => ansV h))) ?_
    refine AllStep.cons (step_pickT (fun _ _ h => h) (fun _ _ h => h)) ?_
    refine AllStep.cons (step_move (fun _ _ h => h)) ?_
    refine AllStep.cons (step_callkk (Plain.of Tryz.func66 rfl rfl) (fun w _ => of_num (n := -1) (d := 2) (by decide) (by decide) (by decide))) ?_
    refine AllStep.cons (step_call1 (Plain.of Tryz.func62 rfl rfl) (fun _ w hb hu => (TextF_at (FrOk.at hu) (by decide) (by decide) (HT.out w hb)).mono (fun _ _ h => ansV h))) ?_
    refine AllStep.cons (step_eqs (fun _ _ h => h) (by rw [txr_a]) (fun _ => rfl)) ?_
    refine AllStep.cons (step_pickT (fun _ _ h => h) (fun _ _ h => h)) ?_
    refine AllStep.cons (step_move (fun _ _ h => h)) ?_
    refine AllStep.cons (step_callkk (Plain.of Tryz.func66 rfl rfl) (fun w _ => of_num (n := 3) (d := 1) (by decide) (by decide) (by decide))) ?_
    refine AllStep.cons (step_call1 (Plain.of Tryz.func62 rfl rfl) (fun _ w hb hu => (TextF_at (FrOk.at hu) (by decide) (by decide) (HT.out w hb)).mono (fun _ _ h => ansV h))) ?_
    refine AllStep.cons (step_eqs (fun _ _ h => h) (by rw [txr_b]) (fun _ => rfl)) ?_
    refine AllStep.cons (step_pickT (fun _ _ h => h) (fun _ _ h => h)) ?_
    refine AllStep.cons (step_move (fun _ _ h => h)) ?_
    refine AllStep.cons (step_callk (Plain.of Tryz.func29 rfl rfl) (fun w _ => Of_num 2 _ (by decide) (by decide))) ?_
    refine AllStep.cons (step_callk (Plain.of Tryz.func29 rfl rfl) (fun w _ => Of_num 4 _ (by decide) (by decide))) ?_
    refine AllStep.cons (step_join (fun _ _ _ _ _ _ _ _ _ => run_build2) (fun _ _ h => h) (fun _ _ h => h) (fun _ _ h => h)) ?_
    refine AllStep.cons (step_call1 (Plain.of Tryz.func58 rfl rfl) (fun _ _ _ hu => (CheckF_no hu (by decide) (by decide) (by decide)).mono (fun _ _ h => ansV h))) ?_
    refine AllStep.cons (step_not false (fun _ _ h => h) (fun _ => rfl)) ?_
    refine AllStep.cons (step_pickT (fun _ _ h => h) (fun _ _ h => h)) ?_
    refine AllStep.cons (step_move (fun _ _ h => h)) ?_
    refine AllStep.cons (step_callk (Plain.of Tryz.func29 rfl rfl) (fun w _ => Of_num 2 _ (by decide) (by decide))) ?_
    refine AllStep.cons (step_joinL (fun _ _ h => h) (fun _ _ h => h)) ?_
    refine AllStep.cons (step_call1 (Plain.of Tryz.func58 rfl rfl) (fun _ _ _ hu => (CheckF_no hu (by decide) (by decide) (by decide)).mono (fun _ _ h => ansV h))) ?_
    refine AllStep.cons (step_not false (fun _ _ h => h) (fun _ => rfl)) ?_
    refine AllStep.cons (step_pickT (fun _ _ h => h) (fun _ _ h => h)) ?_
    refine AllStep.cons (step_assign (fun _ _ h => h)) ?_
    exact AllStep.nil
  · intro a' w' hb hs hd hk
    refine hK a' w' ?_
    refine wp_ret ?_
    exact ret_slot (t := 0) rfl hd (hk 0) ⟨rfl, Below.step B7.out hb⟩

end Go.Proofs.YtgpoljbccimkjaaGreatDoor

namespace Go.Proofs.YtgpoljbccimkjaaGreatDoor
set_option linter.unusedSimpArgs false
set_option linter.unusedVariables false
open Go.RowKit Go.Shelf

theorem FrAt.of {w : World} {s s' : Bool} {v v' : Value} {l l' : List Nat} {k : Nat} (h : Lim w v l) (h' : Lim w v' l') (hk : l.length ≤ k) (hk' : l'.length ≤ k) : FrAt w (.agg #[.bool s, v, .bool s', v']) k (ratZ s l s' l') := ⟨s, v, l, s', v', l', rfl, h, h', rfl, hk, hk'⟩
theorem Lim.max {w : World} {a : Option Addr} {n c : Nat} {l : List Nat} (h : Lim w (.slice a n c) l) : n ≤ 9223372036854775807 := by
  obtain ⟨a', c', e, h1, h2, -⟩ := h
  injection e with e1 e2 e3
  unfold maxLen at h2
  omega

/-- What great looks at: the lengths in a row of fractions. -/
def Lens (w : World) (b : Nat) (lens : List (Nat × Nat)) : Prop := ∀ i n n', lens[i]? = some (n, n') → n ≤ 9223372036854775807 ∧ n' ≤ 9223372036854775807 ∧ (∃ a c, w.cell? ⟨b, i * 4 + 1, none⟩ = some (.slice a n c)) ∧ ∃ a c, w.cell? ⟨b, i * 4 + 2 + 1, none⟩ = some (.slice a n' c)

theorem greatF1 {m : Int} {most b n1 n2 c1 c2 : Nat} {w : World} {p1 p2 : Option Addr} {r : Bool} (hm : m = most) (hm2 : most ≤ 1000000) (m1 : n1 ≤ 9223372036854775807) (m2 : n2 ≤ 9223372036854775807) (h1 : w.cell? ⟨b, 1, none⟩ = some (.slice p1 n1 c1)) (h2 : w.cell? ⟨b, 3, none⟩ = some (.slice p2 n2 c2))
    (hr : decide (most < n1 ∨ most < n2) = r) : Calls Tryz.prog 35 #[.int .i64 m, .slice (some ⟨b, 0, none⟩) 1 1] w fun e w' => e = .returned (.bool r) ∧ w = w' := by
  subst hm
  refine (greatF_any most b [(n1, n2)] w (by simp) hm2 ?_).mono ?_
  · intro i n n' hi
    match i, hi with
    | 0, hi =>
      simp only [List.getElem?_cons_zero, Option.some.injEq, Prod.mk.injEq] at hi
      obtain ⟨rfl, rfl⟩ := hi
      exact ⟨m1, m2, ⟨_, _, h1⟩, ⟨_, _, h2⟩⟩
    | i + 1, hi => simp at hi
  · rintro e w' ⟨rfl, rfl⟩
    refine ⟨?_, rfl⟩
    rw [← hr]
    congr 2
    rw [Bool.eq_iff_iff]
    simp [decide_eq_true_iff]
theorem greatF2 {m : Int} {most b n1 n2 n3 n4 c1 c2 c3 c4 : Nat} {w : World} {p1 p2 p3 p4 : Option Addr} {r : Bool} (hm : m = most) (hm2 : most ≤ 1000000) (m1 : n1 ≤ 9223372036854775807) (m2 : n2 ≤ 9223372036854775807) (m3 : n3 ≤ 9223372036854775807) (m4 : n4 ≤ 9223372036854775807)
    (h1 : w.cell? ⟨b, 1, none⟩ = some (.slice p1 n1 c1)) (h2 : w.cell? ⟨b, 3, none⟩ = some (.slice p2 n2 c2)) (h3 : w.cell? ⟨b, 5, none⟩ = some (.slice p3 n3 c3)) (h4 : w.cell? ⟨b, 7, none⟩ = some (.slice p4 n4 c4))
    (hr : decide ((most < n1 ∨ most < n2) ∨ (most < n3 ∨ most < n4)) = r) : Calls Tryz.prog 35 #[.int .i64 m, .slice (some ⟨b, 0, none⟩) 2 2] w fun e w' => e = .returned (.bool r) ∧ w = w' := by
  subst hm
  refine (greatF_any most b [(n1, n2), (n3, n4)] w (by simp) hm2 ?_).mono ?_
  · intro i n n' hi
    match i, hi with
    | 0, hi =>
      simp only [List.getElem?_cons_zero, Option.some.injEq, Prod.mk.injEq] at hi
      obtain ⟨rfl, rfl⟩ := hi
      exact ⟨m1, m2, ⟨_, _, h1⟩, ⟨_, _, h2⟩⟩
    | 1, hi =>
      simp only [List.getElem?_cons_succ, List.getElem?_cons_zero, Option.some.injEq, Prod.mk.injEq] at hi
      obtain ⟨rfl, rfl⟩ := hi
      exact ⟨m3, m4, ⟨_, _, h3⟩, ⟨_, _, h4⟩⟩
    | i + 2, hi => simp at hi
  · rintro e w' ⟨rfl, rfl⟩
    refine ⟨?_, rfl⟩
    rw [← hr]
    congr 2
    rw [Bool.eq_iff_iff]
    simp [decide_eq_true_iff]
theorem greatF3 {m : Int} {most b n1 n2 n3 n4 n5 n6 c1 c2 c3 c4 c5 c6 : Nat} {w : World} {p1 p2 p3 p4 p5 p6 : Option Addr} {r : Bool} (hm : m = most) (hm2 : most ≤ 1000000) (m1 : n1 ≤ 9223372036854775807) (m2 : n2 ≤ 9223372036854775807) (m3 : n3 ≤ 9223372036854775807) (m4 : n4 ≤ 9223372036854775807) (m5 : n5 ≤ 9223372036854775807) (m6 : n6 ≤ 9223372036854775807)
    (h1 : w.cell? ⟨b, 1, none⟩ = some (.slice p1 n1 c1)) (h2 : w.cell? ⟨b, 3, none⟩ = some (.slice p2 n2 c2)) (h3 : w.cell? ⟨b, 5, none⟩ = some (.slice p3 n3 c3)) (h4 : w.cell? ⟨b, 7, none⟩ = some (.slice p4 n4 c4)) (h5 : w.cell? ⟨b, 9, none⟩ = some (.slice p5 n5 c5)) (h6 : w.cell? ⟨b, 11, none⟩ = some (.slice p6 n6 c6))
    (hr : decide ((most < n1 ∨ most < n2) ∨ (most < n3 ∨ most < n4) ∨ (most < n5 ∨ most < n6)) = r) : Calls Tryz.prog 35 #[.int .i64 m, .slice (some ⟨b, 0, none⟩) 3 3] w fun e w' => e = .returned (.bool r) ∧ w = w' := by
  subst hm
  refine (greatF_any most b [(n1, n2), (n3, n4), (n5, n6)] w (by simp) hm2 ?_).mono ?_
  · intro i n n' hi
    match i, hi with
    | 0, hi =>
      simp only [List.getElem?_cons_zero, Option.some.injEq, Prod.mk.injEq] at hi
      obtain ⟨rfl, rfl⟩ := hi
      exact ⟨m1, m2, ⟨_, _, h1⟩, ⟨_, _, h2⟩⟩
    | 1, hi =>
      simp only [List.getElem?_cons_succ, List.getElem?_cons_zero, Option.some.injEq, Prod.mk.injEq] at hi
      obtain ⟨rfl, rfl⟩ := hi
      exact ⟨m3, m4, ⟨_, _, h3⟩, ⟨_, _, h4⟩⟩
    | 2, hi =>
      simp only [List.getElem?_cons_succ, List.getElem?_cons_zero, Option.some.injEq, Prod.mk.injEq] at hi
      obtain ⟨rfl, rfl⟩ := hi
      exact ⟨m5, m6, ⟨_, _, h5⟩, ⟨_, _, h6⟩⟩
    | i + 3, hi => simp at hi
  · rintro e w' ⟨rfl, rfl⟩
    refine ⟨?_, rfl⟩
    rw [← hr]
    congr 2
    rw [Bool.eq_iff_iff]
    simp [decide_eq_true_iff]

theorem box_fr3 (w : World) (x0 x1 x2 x3 y0 y1 y2 y3 z0 z1 z2 z3 : Value) : ∃ W0, ((w.alloc (.cells #[x0, x1, x2, x3] 58)).alloc (.cells #[y0, y1, y2, y3] 58)).alloc (.cells #[z0, z1, z2, z3] 58) = W0 ∧
    BoxV W0 w.heap.size [x0, x1, x2, x3] ∧ BoxV W0 (w.heap.size + 1) [y0, y1, y2, y3] ∧ BoxV W0 (w.heap.size + 1 + 1) [z0, z1, z2, z3] ∧ Below w.heap.size w W0 := by
  obtain ⟨W1, e1⟩ : ∃ W, w.alloc (.cells #[x0, x1, x2, x3] 58) = W := ⟨_, rfl⟩
  obtain ⟨a1, a2, a3⟩ := BoxV.new1 (vs := [x0, x1, x2, x3]) e1 rfl
  rw [e1]
  obtain ⟨W2, e2⟩ : ∃ W, W1.alloc (.cells #[y0, y1, y2, y3] 58) = W := ⟨_, rfl⟩
  obtain ⟨b1, b2, b3⟩ := BoxV.new1 (vs := [y0, y1, y2, y3]) e2 a3
  rw [e2]
  obtain ⟨W4, e4⟩ : ∃ W, W2.alloc (.cells #[z0, z1, z2, z3] 58) = W := ⟨_, rfl⟩
  obtain ⟨d1, d2, d3⟩ := BoxV.new1 (vs := [z0, z1, z2, z3]) e4 b3
  exact ⟨W4, e4, (a1.below b2).below d2, b1.below d2, d1, Below.step (Below.step a2 b2) d2⟩

end Go.Proofs.YtgpoljbccimkjaaGreatDoor
