/- Walks: some answers that the document fixes. -/
import Derived.Test.YtejlhefjphiahaaDoorDivs
import Derived.Test.YtejlhefjphiahaaDoorGcd
import Derived.Test.YtejlhefjphiahaaDoorParse
import Derived.Test.YtejlhefjphiahaaDoorText
import Derived.Test.YtejlhefjphiahaaDoorSteps
namespace Go.Proofs.YtejlhefjphiahaaDoor
open Go.RowKit Go.Shelf

theorem Lim.lit1 (w : World) (x : Nat) (T : TypeId) (hx : x < 4294967296) : Lim (w.alloc (.cells #[.int .u32 x] T)) (.slice (some ⟨w.heap.size, 0, none⟩) 1 1) [x] := by
  refine ⟨_, 1, rfl, Nat.le_refl _, by unfold maxLen; omega, by intro y hy; simp at hy; omega, .inr ⟨_, 0, rfl, fun i hi => ?_⟩⟩
  have h0 : i = 0 := by simpa using hi
  subst h0
  go_simp
  rfl
theorem Lim.lit2 (w : World) (x y : Nat) (T : TypeId) (hx : x < 4294967296) (hy : y < 4294967296) : Lim (w.alloc (.cells #[.int .u32 x, .int .u32 y] T)) (.slice (some ⟨w.heap.size, 0, none⟩) 2 2) [x, y] := by
  refine ⟨_, 2, rfl, Nat.le_refl _, by unfold maxLen; omega, by intro z hz; simp at hz; omega, .inr ⟨_, 0, rfl, fun i hi => ?_⟩⟩
  have h0 : i = 0 ∨ i = 1 := by simp at hi; omega
  rcases h0 with rfl | rfl
  · go_simp
    rfl
  · go_simp
    rfl

theorem Lim.lit01 (w : World) (n : Nat) (T : TypeId) (hn : n = w.heap.size) : Lim (w.alloc (.cells #[.int .u32 0, .int .u32 1] T)) (.slice (some ⟨n, 0, none⟩) 2 2) [0, 1] := by
  subst hn; exact Lim.lit2 w 0 1 T (by decide) (by decide)
theorem Lim.lit01d (w : World) (n : Nat) (T : TypeId) (hn : n = w.heap.size) : Lim (w.alloc (.cells #[.int .u32 0, .int .u32 1] T)).drew (.slice (some ⟨n, 0, none⟩) 2 2) [0, 1] := (Lim.lit01 w n T hn).below ((Below.refl _ _).drew)
theorem Lim.lit19 (w : World) (n : Nat) (T : TypeId) (hn : n = w.heap.size) : Lim (w.alloc (.cells #[.int .u32 1, .int .u32 999999998] T)) (.slice (some ⟨n, 0, none⟩) 2 2) [1, 999999998] := by
  subst hn; exact Lim.lit2 w 1 999999998 T (by decide) (by decide)
theorem Lim.litB (w : World) (n : Nat) (T : TypeId) (hn : n = w.heap.size) : Lim (w.alloc (.cells #[.int .u32 1000000000] T)) (.slice (some ⟨n, 0, none⟩) 1 1) [1000000000] := by
  subst hn; exact Lim.lit1 w 1000000000 T (by decide)
theorem check_not {w : World} {s : Bool} {v : Value} {l : List Nat} (h : Lim w v l) (ho : okB s l = false) :
    Calls Tryd.prog 15 #[.agg #[.bool s, v]] w fun e w' => e = .returned (.bool false) ∧ Below w.heap.size w w' := by
  have := check_any s v l w h
  rwa [ho] at this
/-- Four cells, of two boxes. -/
theorem keep4 {W : World} {b b' : Nat} {x y x' y' : Value} (h : NumBox W b x y) (h' : NumBox W b' x' y') : W.cell? ⟨b, 0, none⟩ = some x ∧ W.cell? ⟨b, 1, none⟩ = some y ∧ W.cell? ⟨b', 0, none⟩ = some x' ∧ W.cell? ⟨b', 1, none⟩ = some y' := ⟨h.1, h.2.1, h'.1, h'.2.1⟩

theorem OkAt.of {w : World} {s : Bool} {v : Value} {l : List Nat} {k : Nat} {Z : Int} (h : Lim w v l) (ho : okB s l = true) (hz : valS s l = Z) (hk : l.length ≤ k) : OkAt w (.agg #[.bool s, v]) k Z := ⟨s, v, l, rfl, h, ho, hz, hk⟩

/-- What a text's number is, when the text's worth is known. -/
theorem ParseIs.exact {n : Nat} {w : World} {e : Ending} {k Z : Int} {s0 : Bool} {l0 : List Nat} (h : ParseIs n w e k Z) (ho : okB s0 l0 = true) (hz : valS s0 l0 = Z) : ∃ a c, e = .returned (.tuple #[.agg #[.bool s0, .slice a l0.length c], .int .i64 k]) ∧ Lim w (.slice a l0.length c) l0 := by
  obtain ⟨s, l, v, rfl, h1, h2, h3⟩ := h
  obtain ⟨rfl, rfl⟩ := valS_inj h2 ho (h3.trans hz.symm)
  have h4 := h1.lim
  have h5 := h4
  obtain ⟨a, c, rfl, -⟩ := h4
  exact ⟨a, c, rfl, h5⟩

theorem parse_a : parseE [45, 49, 48, 48, 48, 48, 48, 48, 48, 48, 48] = 0 ∧ parseZ [45, 49, 48, 48, 48, 48, 48, 48, 48, 48, 48] = -1000000000 := ⟨by decide +kernel, by decide +kernel⟩
theorem parse_b : parseE [45, 48] = 4 ∧ parseZ [45, 48] = 0 := ⟨by decide +kernel, by decide +kernel⟩
theorem parse_c : parseE [48, 48, 55] = 4 ∧ parseZ [48, 48, 55] = 0 := ⟨by decide +kernel, by decide +kernel⟩
theorem txt_a : txt (fitS true [0, 1]) (fitL true [0, 1]) = [45, 49, 48, 48, 48, 48, 48, 48, 48, 48, 48] := by
  have e1 : fitS true [0, 1] = true := by decide
  have e2 : fitL true [0, 1] = [0, 1] := by decide
  rw [e1, e2]
  unfold txt
  rw [if_pos rfl]
  have e3 : val [0, 1] = 1000000000 := by decide
  rw [e3, Lib.decDigits_eq]
  decide +kernel

theorem gcd_six : ((Int.gcd 12 (-18) : Nat) : Int) = 6 := by decide
theorem gcd_five : ((Int.gcd 0 (-5) : Nat) : Int) = 5 := by decide
theorem keepLim {w : World} {v : Value} {l : List Nat} (h : Lim w v l) : Hid (∀ W, Below w.heap.size w W → Lim W v l) := fun _ hb => h.below hb

/-- A number whose list is known, whether it may be or not. -/
def IsA (s : Bool) (l : List Nat) (v : Value) (w : World) : Prop := ∃ x, v = .agg #[.bool s, x] ∧ Lim w x l
theorem IsA.grows (s : Bool) (l : List Nat) : Grows (IsA s l) := fun _ _ _ h hb => by
  obtain ⟨x, h1, h2⟩ := h
  exact ⟨x, h1, h2.below hb⟩
theorem check_no {w : World} {u : Value} {s : Bool} {l : List Nat} (h : IsA s l u w) (ho : okB s l = false) :
    Calls Tryd.prog 15 #[u] w fun e w' => e = .returned (.bool false) ∧ Below w.heap.size w w' := by
  obtain ⟨x, rfl, h2⟩ := h
  exact check_not h2 ho
theorem text_p (w : World) {w0 : World} {u : Value} (_ : Below w0.heap.size w0 w) (hu : IsO 2 (-1000000000) u w) (ht : Tab w) :
    Calls Tryd.prog 26 #[u] w fun e w' => (∃ r, e = .returned r ∧ IsV (.string ⟨[45, 49, 48, 48, 48, 48, 48, 48, 48, 48, 48].toArray⟩) r w') ∧ Below w.heap.size w w' := by
  obtain ⟨s, v, l, rfl, h1, h2, h3, h4⟩ := hu
  obtain ⟨rfl, rfl⟩ := valS_inj (s' := true) (l' := [0, 1]) h2 (by decide) (by rw [h3]; decide)
  refine (Text_any true v [0, 1] w h1 (by decide) ht).mono ?_
  rintro e w' ⟨h5, h6⟩
  rw [txt_a] at h5
  exact ansV ⟨h5, h6⟩

set_option maxRecDepth 100000 in
set_option maxHeartbeats 4000000 in
theorem alive_true (w : World) (htab : Tab w) :
    Calls Tryd.prog 11 #[] w fun e w' => e = .returned (.bool true) ∧ Below w.heap.size w w' := by
  have HT : Hid (∀ W, Below w.heap.size w W → Tab W) := fun W hb => htab.below hb
  clear htab
  obtain ⟨W0, e0, l9, n9, b0⟩ : ∃ W0, (w.alloc (.cells #[.int .u32 999999999] 46)).alloc (.cells #[.bool false, .slice (some ⟨w.heap.size, 0, none⟩) 1 1] 24) = W0 ∧ Lim W0 (.slice (some ⟨w.heap.size, 0, none⟩) 1 1) [999999999] ∧ NumBox W0 (w.heap.size + 1) (.bool false) (.slice (some ⟨w.heap.size, 0, none⟩) 1 1) ∧ Below w.heap.size w W0 := by
    refine ⟨_, rfl, (Lim.lit1 w 999999999 _ (by decide)).below (by repeat (first | exact Below.refl _ _ | with_reducible refine Below.drew ?_ | with_reducible refine below_drewN ?_ _ | with_reducible refine Below.setCell ?_ (by first | (simp; done) | (simp; omega) | omega) _ | with_reducible refine Below.alloc ?_ (by first | (simp; done) | (simp; omega) | omega) _)), ?_, (by repeat (first | exact Below.refl _ _ | with_reducible refine Below.drew ?_ | with_reducible refine below_drewN ?_ _ | with_reducible refine Below.setCell ?_ (by first | (simp; done) | (simp; omega) | omega) _ | with_reducible refine Below.alloc ?_ (by first | (simp; done) | (simp; omega) | omega) _))⟩
    have := NumBox.new (w.alloc (.cells #[.int .u32 999999999] 46)) (.bool false) (.slice (some ⟨w.heap.size, 0, none⟩) 1 1) 24
    rwa [World.size_alloc] at this
  have L9 := keepLim l9
  have N9 := Lib.hid n9
  have B0 := Lib.hid b0
  clear l9 n9 b0
  go_enter Tryd.func11, Tryd.ntmps11
  go_wp2_with fail
  clear e0
  refine (Of_num 1 _ (by decide) (by decide)).mono ?_
  rintro e w1 ⟨⟨u1, rfl, h1⟩, hb1⟩
  have U1 := h1.keep
  have B1 := Lib.hid hb1
  clear h1 hb1
  go_wp2_with fail
  refine (Of_num 0 _ (by decide) (by decide)).mono ?_
  rintro e w2 ⟨⟨u2, rfl, h2⟩, hb2⟩
  have U2 := Lib.hid h2
  have B2 := Lib.hid hb2
  clear h2 hb2
  go_wp2_with fail
  refine (Div_none (U1.out _ B2.out) U2.out).mono ?_
  rintro e w3 ⟨⟨sq, aq, nq, cq, sr, ar, nr, cr, rfl, -, -, -, -⟩, hb3⟩
  have B3 := Lib.hid hb3
  obtain ⟨W3, e3, -, -, hbW, -, -⟩ := box2 w3 (.bool sq) (.slice aq nq cq) (.bool sr) (.slice ar nr cr)
  have BW3 := Lib.hid (Below.step (Below.step (Below.step B1.out B2.out) hb3) hbW)
  clear hb3 hbW U1 U2 B1 B2 B3
  go_wp2_with fail
  clear e3
  refine (Parse_any [45, 49, 48, 48, 48, 48, 48, 48, 48, 48, 48] _ (by decide)).mono ?_
  rintro e w4 ⟨hp, hb4⟩
  rw [parse_a.1, parse_a.2] at hp
  obtain ⟨ap, cp, rfl, lp⟩ := hp.exact (s0 := true) (l0 := [0, 1]) (by decide) (by decide)
  have lp : Lim w4 (.slice ap 2 cp) [0, 1] := lp
  obtain ⟨W4, e4, n4, hbW, -⟩ := box1 w4 (.bool true) (.slice ap 2 cp)
  have BR := Below.step (Below.step BW3.out hb4) hbW
  have R0 : Below W0.heap.size W0 W4 := BR
  have LP := Lib.hid (lp.below hbW)
  have N4 := Lib.hid n4
  have L9' := Lib.hid (L9.out _ R0)
  have N9' := Lib.hid (N9.out.below R0)
  have RW := Lib.hid (Below.step B0.out R0)
  clear hp lp n4 hbW hb4 BW3 BR R0 L9 N9 B0
  go_wp2_with fail
  clear e4
  refine (Parse_any [45, 48] _ (by decide)).mono ?_
  rintro e w5 ⟨hp, hb5⟩
  rw [parse_b.1] at hp
  obtain ⟨s5, l5, v5, rfl, hl5, -, -⟩ := hp
  have hl5 := hl5.lim
  obtain ⟨a5, c5, rfl, -⟩ := hl5
  obtain ⟨W5, e5, -, hbW, -⟩ := box1 w5 (.bool s5) (.slice a5 l5.length c5)
  have B5 := Lib.hid (Below.step hb5 hbW)
  clear hb5 hbW
  go_wp2_with fail
  clear e5
  refine (Parse_any [48, 48, 55] _ (by decide)).mono ?_
  rintro e w6 ⟨hp, hb6⟩
  rw [parse_c.1] at hp
  obtain ⟨s6, l6, v6, rfl, hl6, -, -⟩ := hp
  have hl6 := hl6.lim
  obtain ⟨a6, c6, rfl, -⟩ := hl6
  obtain ⟨W6, e6, -, hbW, -⟩ := box1 w6 (.bool s6) (.slice a6 l6.length c6)
  have R6 := Below.step B5.out (Below.step hb6 hbW)
  have LP6 := keepLim (LP.out.below R6)
  have N46 := Lib.hid (N4.out.below R6)
  have L96 := keepLim (L9'.out.below R6)
  have N96 := Lib.hid (N9'.out.below R6)
  have RW6 := Lib.hid (Below.step RW.out R6)
  obtain ⟨c1, c2, -, -⟩ := N46.out
  obtain ⟨d1, d2, -, -⟩ := N96.out
  clear hb6 hbW R6 B5 LP N4 L9' N9' RW
  clear c1 c2 d1 d2
  go_upto_region 6 with fail
  clear e6
  rename_i K hK
  simp only [List.append_eq, List.cons_append, List.nil_append]
  refine wp_region_known [(0, true), (33, true), (34, true), (36, true), (37, true), (38, true), (40, true), (41, true), (42, true), (44, true), (45, true), (46, true), (50, true), (51, true), (52, true), (55, true), (56, true), (57, true), (63, true), (64, true), (65, true), (71, true), (72, true), (73, true), (74, true), (75, true), (76, true), (77, true), (78, true), (79, true), (80, true), (81, true), (82, true), (83, true), (84, true), (85, true), (90, true), (91, true), (92, true), (97, true), (98, true), (99, true), (102, false), (103, true), (104, true), (105, true), (107, false), (108, true), (109, true)]
    [(1, IsV (.pointer (some ⟨w.heap.size + 1, 0, none⟩))), (5, IsV (.pointer (some ⟨w4.heap.size, 0, none⟩))), (4, IsV (.int .i64 6)), (6, IsV (.int .i64 0)), (8, IsV (.int .i64 4)), (10, IsV (.int .i64 4))]
    [(32, IsV (.int .i64 6)), (35, IsV (.int .i64 0)), (39, IsV (.int .i64 4)), (43, IsV (.int .i64 4)), (47, IsO 2 (-1000000000)), (48, IsL [0, 1]), (49, IsO 2 (-1000000000)), (53, IsO 2 (-1000000000)), (54, IsV (.string ⟨[45, 49, 48, 48, 48, 48, 48, 48, 48, 48, 48].toArray⟩)), (58, IsO 1 (999999999)), (59, IsO 3 (1)), (60, IsO 4 (1000000000)), (61, IsL [0, 1]), (62, IsO 2 (1000000000)), (66, IsO 1 (999999999)), (67, IsO 1 (999999999)), (68, IsO 2 (999999998000000001)), (69, IsL [1, 999999998]), (70, IsO 2 (999999998000000001)), (86, IsO 3 (12)), (87, IsO 3 (-18)), (88, IsO 3 (6)), (89, IsV (.int .i64 6)), (93, IsO 3 (0)), (94, IsO 3 (-5)), (95, IsO 3 (5)), (96, IsV (.int .i64 5)), (100, IsL [1000000000]), (101, IsA false [1000000000]), (106, IsA true [])]
    110 (by kernel_rfl) rfl (by kernel_rfl) (by kernel_rfl) ⟨rfl, rfl, rfl, rfl, rfl, rfl, trivial⟩ ⟨IsV.grows _ , IsV.grows _ , IsV.grows _ , IsV.grows _ , IsV.grows _ , IsV.grows _ , IsV.grows _ , IsV.grows _ , IsV.grows _ , IsV.grows _ , IsO.grows _ _ , IsL.grows _ , IsO.grows _ _ , IsO.grows _ _ , IsV.grows _ , IsO.grows _ _ , IsO.grows _ _ , IsO.grows _ _ , IsL.grows _ , IsO.grows _ _ , IsO.grows _ _ , IsO.grows _ _ , IsO.grows _ _ , IsL.grows _ , IsO.grows _ _ , IsO.grows _ _ , IsO.grows _ _ , IsO.grows _ _ , IsV.grows _ , IsO.grows _ _ , IsO.grows _ _ , IsO.grows _ _ , IsV.grows _ , IsL.grows _ , IsA.grows _ _ , IsA.grows _ _ , trivial⟩ ?_ ?_
  · refine AllStep.cons (step_move (fun _ _ h => h)) ?_
    refine AllStep.cons (step_eqE (fun _ _ h => h) (by decide) (fun _ => rfl)) ?_
    refine AllStep.cons (step_move (fun _ _ h => h)) ?_
    refine AllStep.cons (step_move (fun _ _ h => h)) ?_
    refine AllStep.cons (step_eqE (fun _ _ h => h) (by decide) (fun _ => rfl)) ?_
    refine AllStep.cons (step_pickT (fun _ _ h => h) (fun _ _ h => h)) ?_
    refine AllStep.cons (step_move (fun _ _ h => h)) ?_
    refine AllStep.cons (step_move (fun _ _ h => h)) ?_
    refine AllStep.cons (step_eqE (fun _ _ h => h) (by decide) (fun _ => rfl)) ?_
    refine AllStep.cons (step_pickT (fun _ _ h => h) (fun _ _ h => h)) ?_
    refine AllStep.cons (step_move (fun _ _ h => h)) ?_
    refine AllStep.cons (step_move (fun _ _ h => h)) ?_
    refine AllStep.cons (step_eqE (fun _ _ h => h) (by decide) (fun _ => rfl)) ?_
    refine AllStep.cons (step_pickT (fun _ _ h => h) (fun _ _ h => h)) ?_
    refine AllStep.cons (step_move (fun _ _ h => h)) ?_
    refine AllStep.cons (step_load (fun _ _ h => h) (fun _ hb => N46.out.below hb) (fun w hb => OkAt.of (LP6.out w hb) (by decide) (by decide) (by decide))) ?_
    refine AllStep.cons (step_row2 (fun w n hn => Lim.lit01 w n _ hn)) ?_
    refine AllStep.cons (step_buildT (fun _ _ _ _ h => OkAt.of h (by decide) (by decide) (by decide)) (fun _ _ h => IsL.slice h)) ?_
    refine AllStep.cons (step_call2 (Plain.of Tryd.func16 rfl rfl) (fun _ _ _ _ hu hv => (Same_num hu hv true (by decide)).mono (fun _ _ h => ansV h))) ?_
    refine AllStep.cons (step_pickT (fun _ _ h => h) (fun _ _ h => h)) ?_
    refine AllStep.cons (step_move (fun _ _ h => h)) ?_
    refine AllStep.cons (step_load (fun _ _ h => h) (fun _ hb => N46.out.below hb) (fun w hb => OkAt.of (LP6.out w hb) (by decide) (by decide) (by decide))) ?_
    refine AllStep.cons (step_call1 (Plain.of Tryd.func26 rfl rfl) (fun _ w hb hu => text_p w hb hu (HT.out w (Below.step RW6.out hb)))) ?_
    refine AllStep.cons (step_eqs (fun _ _ h => h) rfl (fun _ => rfl)) ?_
    refine AllStep.cons (step_pickT (fun _ _ h => h) (fun _ _ h => h)) ?_
    refine AllStep.cons (step_move (fun _ _ h => h)) ?_
    refine AllStep.cons (step_load (fun _ _ h => h) (fun _ hb => N96.out.below hb) (fun w hb => OkAt.of (L96.out w hb) (by decide) (by decide) (by decide))) ?_
    refine AllStep.cons (step_callk (Plain.of Tryd.func22 rfl rfl) (fun w _ => Of_num (1) w (by decide) (by decide))) ?_
    refine AllStep.cons (step_call2 (Plain.of Tryd.func13 rfl rfl) (fun _ _ _ _ hu hv => Add_num (OkAt.num hu) (OkAt.num hv) (by decide) (by decide))) ?_
    refine AllStep.cons (step_row2 (fun w n hn => Lim.lit01 w n _ hn)) ?_
    refine AllStep.cons (step_buildF (fun _ _ _ _ h => OkAt.of h (by decide) (by decide) (by decide)) (fun _ _ h => IsL.slice h)) ?_
    refine AllStep.cons (step_call2 (Plain.of Tryd.func16 rfl rfl) (fun _ _ _ _ hu hv => (Same_num hu hv true (by decide)).mono (fun _ _ h => ansV h))) ?_
    refine AllStep.cons (step_pickT (fun _ _ h => h) (fun _ _ h => h)) ?_
    refine AllStep.cons (step_move (fun _ _ h => h)) ?_
    refine AllStep.cons (step_load (fun _ _ h => h) (fun _ hb => N96.out.below hb) (fun w hb => OkAt.of (L96.out w hb) (by decide) (by decide) (by decide))) ?_
    refine AllStep.cons (step_load (fun _ _ h => h) (fun _ hb => N96.out.below hb) (fun w hb => OkAt.of (L96.out w hb) (by decide) (by decide) (by decide))) ?_
    refine AllStep.cons (step_call2 (Plain.of Tryd.func14 rfl rfl) (fun _ _ _ _ hu hv => Mul_num (OkAt.num hu) (OkAt.num hv) (by decide) (by decide))) ?_
    refine AllStep.cons (step_row2 (fun w n hn => Lim.lit19 w n _ hn)) ?_
    refine AllStep.cons (step_buildF (fun _ _ _ _ h => OkAt.of h (by decide) (by decide) (by decide)) (fun _ _ h => IsL.slice h)) ?_
    refine AllStep.cons (step_call2 (Plain.of Tryd.func16 rfl rfl) (fun _ _ _ _ hu hv => (Same_num hu hv true (by decide)).mono (fun _ _ h => ansV h))) ?_
    refine AllStep.cons (step_pickT (fun _ _ h => h) (fun _ _ h => h)) ?_
    refine AllStep.cons (step_move (fun _ _ h => h)) ?_
    refine AllStep.cons (step_callk4 (Plain.of Tryd.func28 rfl rfl) (fun w _ => (divs_true (7) (2) (3) (1) w (by decide) (by decide) (by decide) (by decide) (by decide) (by decide) (by decide) (by decide) (by decide)).mono (fun _ _ h => ansV h))) ?_
    refine AllStep.cons (step_pickT (fun _ _ h => h) (fun _ _ h => h)) ?_
    refine AllStep.cons (step_move (fun _ _ h => h)) ?_
    refine AllStep.cons (step_callk4 (Plain.of Tryd.func28 rfl rfl) (fun w _ => (divs_true (-7) (2) (-4) (1) w (by decide) (by decide) (by decide) (by decide) (by decide) (by decide) (by decide) (by decide) (by decide)).mono (fun _ _ h => ansV h))) ?_
    refine AllStep.cons (step_pickT (fun _ _ h => h) (fun _ _ h => h)) ?_
    refine AllStep.cons (step_move (fun _ _ h => h)) ?_
    refine AllStep.cons (step_callk4 (Plain.of Tryd.func28 rfl rfl) (fun w _ => (divs_true (7) (-2) (-3) (1) w (by decide) (by decide) (by decide) (by decide) (by decide) (by decide) (by decide) (by decide) (by decide)).mono (fun _ _ h => ansV h))) ?_
    refine AllStep.cons (step_pickT (fun _ _ h => h) (fun _ _ h => h)) ?_
    refine AllStep.cons (step_move (fun _ _ h => h)) ?_
    refine AllStep.cons (step_callk4 (Plain.of Tryd.func28 rfl rfl) (fun w _ => (divs_true (-7) (-2) (4) (1) w (by decide) (by decide) (by decide) (by decide) (by decide) (by decide) (by decide) (by decide) (by decide)).mono (fun _ _ h => ansV h))) ?_
    refine AllStep.cons (step_pickT (fun _ _ h => h) (fun _ _ h => h)) ?_
    refine AllStep.cons (step_move (fun _ _ h => h)) ?_
    refine AllStep.cons (step_callk (Plain.of Tryd.func22 rfl rfl) (fun w _ => Of_num (12) w (by decide) (by decide))) ?_
    refine AllStep.cons (step_callk (Plain.of Tryd.func22 rfl rfl) (fun w _ => Of_num (-18) w (by decide) (by decide))) ?_
    refine AllStep.cons (step_call2 (Plain.of Tryd.func23 rfl rfl) (fun _ _ _ _ hu hv => Gcd_num (OkAt.num hu) (OkAt.num hv) (by decide) (by decide))) ?_
    refine AllStep.cons (step_call1 (Plain.of Tryd.func24 rfl rfl) (fun _ _ _ hu => (whole_num hu (by decide) (by decide)).mono (fun _ _ h => ansV h))) ?_
    refine AllStep.cons (step_eqL (fun _ _ h => h) (by decide) (fun _ => rfl)) ?_
    refine AllStep.cons (step_pickT (fun _ _ h => h) (fun _ _ h => h)) ?_
    refine AllStep.cons (step_move (fun _ _ h => h)) ?_
    refine AllStep.cons (step_callk (Plain.of Tryd.func22 rfl rfl) (fun w _ => Of_num (0) w (by decide) (by decide))) ?_
    refine AllStep.cons (step_callk (Plain.of Tryd.func22 rfl rfl) (fun w _ => Of_num (-5) w (by decide) (by decide))) ?_
    refine AllStep.cons (step_call2 (Plain.of Tryd.func23 rfl rfl) (fun _ _ _ _ hu hv => Gcd_num (OkAt.num hu) (OkAt.num hv) (by decide) (by decide))) ?_
    refine AllStep.cons (step_call1 (Plain.of Tryd.func24 rfl rfl) (fun _ _ _ hu => (whole_num hu (by decide) (by decide)).mono (fun _ _ h => ansV h))) ?_
    refine AllStep.cons (step_eqL (fun _ _ h => h) (by decide) (fun _ => rfl)) ?_
    refine AllStep.cons (step_pickT (fun _ _ h => h) (fun _ _ h => h)) ?_
    refine AllStep.cons (step_move (fun _ _ h => h)) ?_
    refine AllStep.cons (step_row1 (fun w n hn => Lim.litB w n _ hn)) ?_
    refine AllStep.cons (step_buildF (fun _ _ _ _ h => ⟨_, rfl, h⟩) (fun _ _ h => IsL.slice h)) ?_
    refine AllStep.cons (step_call1 (Plain.of Tryd.func15 rfl rfl) (fun _ _ _ hu => (check_no hu (by decide)).mono (fun _ _ h => ansV h))) ?_
    refine AllStep.cons (step_not false (fun _ _ h => h) (fun _ => rfl)) ?_
    refine AllStep.cons (step_pickT (fun _ _ h => h) (fun _ _ h => h)) ?_
    refine AllStep.cons (step_move (fun _ _ h => h)) ?_
    refine AllStep.cons (step_buildN (fun w => ⟨_, rfl, Lim.nil w⟩)) ?_
    refine AllStep.cons (step_call1 (Plain.of Tryd.func15 rfl rfl) (fun _ _ _ hu => (check_no hu (by decide)).mono (fun _ _ h => ansV h))) ?_
    refine AllStep.cons (step_not false (fun _ _ h => h) (fun _ => rfl)) ?_
    refine AllStep.cons (step_pickT (fun _ _ h => h) (fun _ _ h => h)) ?_
    refine AllStep.cons (step_assign (fun _ _ h => h)) ?_
    exact AllStep.nil
  · intro a' w' hb hs hd hk
    refine hK a' w' ?_
    refine wp_ret ?_
    exact ret_slot (t := 0) rfl hd (hk 0) ⟨rfl, Below.step RW6.out hb⟩

end Go.Proofs.YtejlhefjphiahaaDoor
