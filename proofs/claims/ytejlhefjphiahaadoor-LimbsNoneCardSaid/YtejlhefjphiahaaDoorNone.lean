/- Walks: a number that may not be is as 0. -/
import Derived.Test.YtejlhefjphiahaaDoorLaw
import Derived.Test.YtejlhefjphiahaaDoorSteps2
import Derived.Test.YtejlhefjphiahaaDoorTwin
namespace Go.Proofs.YtejlhefjphiahaaDoor
open Go.RowKit Go.Shelf

theorem NumBox.grownO {W W' : World} {b : Nat} {o : Option Nat} {x y : Value} (h : NumBox W b x y) (hg : W.grownBy W' o) (hne : ∀ k, o = some k → b ≠ k) : NumBox W' b x y := by
  have hb : W'.heap[b]? = W.heap[b]? := hg.block _ h.lt (by intro e; exact hne b e.symm rfl)
  obtain ⟨x1, x2, x3, x4⟩ := h
  exact ⟨(World.cell?_of_block (a := ⟨b, 0, none⟩) hb).trans x1, (World.cell?_of_block (a := ⟨b, 1, none⟩) hb).trans x2, (World.frozen?_of_block (a := ⟨b, 0, none⟩) hb).trans x3, (World.frozen?_of_block (a := ⟨b, 1, none⟩) hb).trans x4⟩
theorem numZ_bad {s : Bool} {l : List Nat} (h : okB s l = false) : numZ s l = 0 := by unfold numZ; rw [h]; rfl
theorem okB_zero (s : Bool) (l : List Nat) : okB s (l ++ [0]) = false := by
  cases h : okB s (l ++ [0])
  · rfl
  · have := trimL_of_top (okB_iff.1 h).2.1
    rw [trimL_snoc_zero] at this
    have h2 := trimL_length_le l
    rw [this] at h2
    simp at h2
    omega
theorem okB_much (s : Bool) (l : List Nat) : okB s (l ++ [1000000000]) = false := by
  cases h : okB s (l ++ [1000000000])
  · rfl
  · have := (okB_iff.1 h).1 1000000000 (by simp)
    omega
theorem Div_bad {w : World} {u v : Value} {so : Bool} {lo : List Nat} {k : Nat} {Z : Int} (h : IsA so lo u w) (ho : okB so lo = false) (h' : OkAt w v k Z) :
    Calls Tryd.prog 21 #[u, v] w fun e w' => DivAt w' e 0 0 1 0 0 ∧ Below w.heap.size w w' := by
  obtain ⟨x, rfl, h2⟩ := h
  obtain ⟨s', v', l', rfl, h2', h3', h4', h5'⟩ := h'
  refine (Div_arg so s' x v' lo l' w h2 h2' (.inl ho)).mono ?_
  rintro e w' ⟨h6, h7⟩
  exact ⟨h6.at (by decide) (by decide), h7⟩
theorem text_zero {w : World} {u : Value} {so : Bool} {lo : List Nat} (h : IsA so lo u w) (ho : okB so lo = false) (hl : lo.length ≤ 1000000) (ht : Tab w) :
    Calls Tryd.prog 26 #[u] w fun e w' => (∃ r, e = .returned r ∧ IsV (.string ⟨[48].toArray⟩) r w') ∧ Below w.heap.size w w' := by
  obtain ⟨x, rfl, h2⟩ := h
  refine (Text_any so x lo w h2 hl ht).mono ?_
  rintro e w' ⟨h5, h6⟩
  have e1 : fitS so lo = false := by unfold fitS; rw [ho]; rfl
  have e2 : fitL so lo = [] := by unfold fitL; rw [ho]; rfl
  rw [e1, e2, txt_nil] at h5
  exact ansV ⟨h5, h6⟩

set_option maxRecDepth 100000 in
set_option maxHeartbeats 4000000 in
theorem LimbsNone_true (w : World) (s1 : Bool) (v1 : Value) (l1 : List Nat) (h1 : Lim w v1 l1) (n : Int) (hn : 0 ≤ n ∧ n ≤ 255) (htab : Tab w) :
    Calls Tryd.prog 10 #[.agg #[.bool s1, v1], .int .u8 n] w fun e w' => e = .returned (.bool true) ∧ Below w.heap.size w w' := by
  obtain ⟨i0, hi, hz0, hz1, hz2⟩ := info_parts infoU32
  obtain ⟨hn1, hn2⟩ := hn
  have h1' := h1
  obtain ⟨a1, c1, rfl, -⟩ := h1
  have m1 := h1'.max
  obtain ⟨W0, e0, n1, hb0, hz0'⟩ := box1 w (.bool s1) (.slice a1 l1.length c1)
  have T0 : Hid (∀ W, Below w.heap.size w W → Tab W) := fun W hb => htab.below hb
  have L1 := keepLim (h1'.below hb0)
  have N1 := Lib.hid n1
  have B0 := Lib.hid hb0
  obtain ⟨r, hr⟩ : ∃ r, n.tmod 3 = r := ⟨_, rfl⟩
  have hr' : n % 3 = r := by rw [← hr, Int.tmod_eq_emod_of_nonneg hn1]
  have hr1 : 0 ≤ r ∧ r ≤ 2 := by omega
  obtain ⟨hr1, hr2⟩ := hr1
  clear h1' n1 hb0 htab hz0'
  go_enter Tryd.func10, Tryd.ntmps10
  go_wp2_with fail
  clear e0
  refine (alive_true _ (T0.out _ B0.out)).mono ?_
  rintro e w1 ⟨rfl, hb1⟩
  obtain ⟨p1, p2, -, -⟩ := N1.out.below hb1
  obtain ⟨W1, e1, b1, g1⟩ : ∃ W1, w1.alloc (.cells #[.bool s1, .slice a1 l1.length c1] 24) = W1 ∧ Below w1.heap.size w1 W1 ∧ W1.cell? ⟨w1.heap.size, 1, none⟩ = some (.slice a1 l1.length c1) := ⟨_, rfl, (by repeat (first | exact Below.refl _ _ | with_reducible refine Below.drew ?_ | with_reducible refine below_drewN ?_ _ | with_reducible refine Below.setCell ?_ (by first | (simp; done) | (simp; omega) | omega) _ | with_reducible refine Below.alloc ?_ (by first | (simp; done) | (simp; omega) | omega) _)), by go_simp⟩
  have R1 := Lib.hid (Below.step hb1 b1)
  clear hb1 b1
  go_wp2_with fail
  clear e1
  by_cases hbig : 60 < l1.length
  · refine (great1 (most := 60) (r := true) rfl (by decide) m1 g1 (by simpa using hbig)).mono ?_
    rintro e w2 ⟨rfl, rfl⟩
    go_wp2_with fail
    refine (alive_true _ (T0.out _ (Below.step B0.out R1.out))).mono ?_
    rintro e wz ⟨rfl, hbz⟩
    have BZ := Lib.hid (Below.step (Below.step B0.out R1.out) hbz)
    clear hbz
    go_wp2_with fail
    go_ret
    exact ⟨rfl, BZ.out⟩
  · refine (great1 (most := 60) (r := false) rfl (by decide) m1 g1 (by simpa using hbig)).mono ?_
    rintro e w2 ⟨rfl, rfl⟩
    have hlen : l1.length ≤ 60 := by omega
    obtain ⟨p1, p2, -, -⟩ := N1.out.below R1.out
    obtain ⟨w2, hw2⟩ : ∃ w2, W1 = w2 := ⟨_, rfl⟩
    subst hw2
    clear hbig g1 m1
    go_wp2_with fail
    refine (TwinNum_any s1 (.slice a1 l1.length c1) l1 _ (L1.out _ R1.out) (by omega)).mono ?_
    rintro e w3 ⟨⟨a3, c3, rfl, ho3⟩, hb3⟩
    obtain ⟨W3, e3, n5, b3, hz3⟩ := box1 w3 (.bool s1) (.slice a3 l1.length c3)
    have hkb : ∀ k, (Value.slice a3 l1.length c3).ownBlock = some k → w3.heap.size ≠ k := fun k e => by
      have := (ho3.row.lt k e).2
      omega
    have ho3 := ho3.below b3
    have hrow := ho3.row
    have B3 := Below.step hb3 b3
    have hs3 := B3.size
    have HS13 := Lib.hid hb3.size
    have N5 := Lib.hid n5
    have R3 := Lib.hid (Below.step R1.out B3)
    have HK := Lib.hid hkb
    have HO3 := Lib.hid ho3
    have HB3 := Lib.hid B3
    obtain ⟨d1, d2, d3, d4⟩ := n5
    clear hb3 b3 p1 p2 hkb ho3 hrow B3
    go_upto_block 0 with fail
    clear e3
    go_cut [26] from 27 to 41 (fun v wx => v = .int .u8 r ∧ ∃ so ao co lo, Hid (NumBox wx w3.heap.size (.bool so) (.slice ao (List.length lo) co)) ∧ Hid (Lim wx (.slice ao lo.length co) lo) ∧ Hid (okB so lo = false) ∧ Hid (lo.length ≤ 61) ∧ Hid (Below W1.heap.size W1 wx))
    case first =>
      have hkb := HK.out
      have ho3 := HO3.out
      have hrow := ho3.row
      have B3 := HB3.out
      have hs13 := HS13.out
      by_cases hr0 : r = 0
      · subst hr0
        go_wp2_with (at_builtin; refine wpList_append_own _ rfl _ _ 22 rfl W1.heap.size 46 i0 (.int .u32 0) 1 4 underU32s hi hz0 hz1 hz2 rfl (by decide) _ _ _ rfl (hrow.alloc _) ⟨W3.heap.size, 0, none⟩ 1 1 [.int .u32 0] rfl rfl (cell_one_new _ _ _) (by simp [Value.oneCell']) (by unfold maxLen; omega) (by omega) (by simp; omega) ?_; intro v' w4 hown' hgrow _; obtain ⟨a9, c9, hv9, -, ho9⟩ := own_snoc (x := 0) ho3 (by decide) rfl hown'; subst hv9; have n9 := NumBox.grownO (N5.out.alloc _) hgrow (fun k e => hkb k e); have hb4 : Below W1.heap.size W1 w4 := (B3.alloc B3.size _).grown hgrow (by simp; omega) (fun k e => (hrow.lt k e).1); have N9 := Lib.hid n9; obtain ⟨d1, d2, d3, d4⟩ := n9)
        go_meet
        exact ⟨rfl, s1, a9, c9, l1 ++ [0], Lib.hid (by rw [List.length_append, List.length_singleton]; exact N9.out.set1 _), Lib.hid (ho9.lim.setOther d2 (by simp) _), Lib.hid (okB_zero s1 l1), Lib.hid (by simp; omega), Lib.hid (hb4.setCell (show W1.heap.size ≤ w3.heap.size from hs13) _)⟩
      · by_cases hr4 : r = 1
        · subst hr4
          go_wp2_with (at_builtin; refine wpList_append_own _ rfl _ _ 22 rfl W1.heap.size 46 i0 (.int .u32 0) 1 4 underU32s hi hz0 hz1 hz2 rfl (by decide) _ _ _ rfl (hrow.alloc _) ⟨W3.heap.size, 0, none⟩ 1 1 [.int .u32 1000000000] rfl rfl (cell_one_new _ _ _) (by simp [Value.oneCell']) (by unfold maxLen; omega) (by omega) (by simp; omega) ?_; intro v' w4 hown' hgrow _; obtain ⟨a9, c9, hv9, -, ho9⟩ := own_snoc (x := 1000000000) ho3 (by decide) rfl hown'; subst hv9; have n9 := NumBox.grownO (N5.out.alloc _) hgrow (fun k e => hkb k e); have hb4 : Below W1.heap.size W1 w4 := (B3.alloc B3.size _).grown hgrow (by simp; omega) (fun k e => (hrow.lt k e).1); have N9 := Lib.hid n9; obtain ⟨d1, d2, d3, d4⟩ := n9)
          go_meet
          exact ⟨rfl, s1, a9, c9, l1 ++ [1000000000], Lib.hid (by rw [List.length_append, List.length_singleton]; exact N9.out.set1 _), Lib.hid (ho9.lim.setOther d2 (by simp) _), Lib.hid (okB_much s1 l1), Lib.hid (by simp; omega), Lib.hid (hb4.setCell (show W1.heap.size ≤ w3.heap.size from hs13) _)⟩
        · obtain rfl : r = 2 := by omega
          clear hr0 hr4
          go_wp2_with fail
          go_meet
          exact ⟨rfl, true, none, 0, [], Lib.hid ((N5.out.set0 _).set1 _), Lib.hid (Lim.nil _), Lib.hid rfl, Lib.hid (by simp), Lib.hid ((B3.setCell (show W1.heap.size ≤ w3.heap.size from hs13) _).setCell (show W1.heap.size ≤ w3.heap.size from hs13) _)⟩
    case rest =>
      obtain ⟨rfl, so, ao, co, lo, N5, LO, KO, KL, RO⟩ := hcut
      have KO := KO.out
      have KL := KL.out
      have LO := keepLim LO.out
      have RW := Below.step R1.out RO.out
      have L1 := keepLim (L1.out _ RW)
      have N1 := Lib.hid (N1.out.below RW)
      have RW := Lib.hid (Below.step B0.out RW)
      obtain ⟨p1, p2, -, -⟩ := N1.out
      obtain ⟨p5, p6, -, -⟩ := N5.out
      clear RO HK HO3 HB3 R3 R1 hs3 hz3 d1 d2 d3 d4 HS13
      go_wp2_with fail
      refine (Back_not so _ lo _ (LO.out _ (Below.refl _ _)) KO).mono ?_
      rintro e w6 ⟨rfl, hb6⟩
      have R6 := Lib.hid hb6
      obtain ⟨p1, p2, -, -⟩ := N1.out.below hb6
      obtain ⟨p5, p6, -, -⟩ := N5.out.below hb6
      clear hb6
      go_wp2_with fail
      refine (Div_arg s1 so _ _ l1 lo _ (L1.out _ R6.out) (LO.out _ R6.out) (.inr KO)).mono ?_
      rintro e w7 ⟨hd, hb7⟩
      obtain ⟨sq, aq, nq, cq, sr, ar, nr, cr, rfl, -, -, -, -⟩ := hd.at (k := 0) (k' := 0) (by decide) (by decide)
      obtain ⟨W9, e9, nb1, nb2, bw, -, -⟩ := box2 w7 (.bool sq) (.slice aq nq cq) (.bool sr) (.slice ar nr cr)
      have R9 := Below.step (Below.step R6.out hb7) bw
      have HA := (NumAt.of (s := s1) (L1.out _ R9) hlen).keep
      have HO := NumAt.of (s := so) (LO.out _ R9) KL
      rw [numZ_bad KO] at HO
      have HO := HO.keep
      have LO := keepLim (LO.out _ R9)
      have N1 := Lib.hid (N1.out.below R9)
      have N5 := Lib.hid (N5.out.below R9)
      have RW := Lib.hid (Below.step RW.out R9)
      have T0 := Lib.hid (T0.out _ RW.out)
      obtain ⟨A, hA⟩ : ∃ A, numZ s1 l1 = A := ⟨_, rfl⟩
      rw [hA] at HA
      clear R9 R6 hb7 bw nb1 nb2 L1 B0 hA p1 p2 p5 p6
      have KH := Lib.hid KO
      clear KO
      go_upto_region 12 with fail
      clear e9
      have KO := KH.out
      rename_i K12 hK12
      refine wp_region_tail []
        [(2, IsV (.pointer (some ⟨w.heap.size, 0, none⟩))), (5, IsV (.pointer (some ⟨w3.heap.size, 0, none⟩))), (7, IsV (.int .i64 (1))), (10, IsV (.int .i64 (1)))]
        [(55, IsA so lo), (56, IsO 3 (0)), (57, IsD 0 0 (1) (0) (0)), (54, IsD 0 0 (1) (0) (0)), (58, IsO 0 (0)), (59, IsO 0 (0)), (60, IsV (.int .i64 (1))), (11, IsNewBox W9.heap.size), (12, IsNewBox W9.heap.size)]
        [11, 12] 138 9 (by kernel_rfl) rfl (by kernel_rfl) (by kernel_rfl) (by kernel_rfl) (by kernel_rfl) ⟨rfl, rfl, rfl, rfl, trivial⟩ ⟨IsV.grows _ , IsV.grows _ , IsV.grows _ , IsV.grows _ , IsA.grows _ _ , IsO.grows _ _ , IsD.grows _ _ _ _ _ , IsD.grows _ _ _ _ _ , IsO.grows _ _ , IsO.grows _ _ , IsV.grows _ , IsNewBox.grows _ , IsNewBox.grows _ , trivial⟩ ?_ (fun d _ _ _ _ h => by cases d <;> exact h) ?_ ?_
      · refine AllStep2.step rfl rfl (step_load (fun _ _ h => h) (fun _ hb => N5.out.below hb) (fun w hb => ⟨_, rfl, LO.out w hb⟩)) ?_
        refine AllStep2.step rfl rfl (step_callk (Plain.of Tryd.func22 rfl rfl) (fun w _ => Of_num 0 w (by decide) (by decide))) ?_
        refine AllStep2.step rfl rfl (step_call2 (Plain.of Tryd.func21 rfl rfl) (fun _ _ _ _ hu hv => (Div_bad hu KO hv).mono (fun _ _ h => ansD h))) ?_
        refine AllStep2.quiet rfl (pure_move (fun _ _ h => h)) ?_
        refine AllStep2.quiet rfl (pure_extract (fun _ _ h => IsD.q h)) ?_
        refine AllStep2.quiet rfl (pure_extract (fun _ _ h => IsD.r h)) ?_
        refine AllStep2.quiet rfl (pure_extract (fun _ _ h => IsD.n h)) ?_
        refine AllStep2.fresh rfl rfl (alloc_num (fun _ _ h => h)) ?_
        refine AllStep2.fresh rfl rfl (alloc_num (fun _ _ h => h)) ?_
        exact AllStep2.nil
      · intro t ht v w hk
        simp only [List.mem_cons, List.not_mem_nil, or_false] at ht
        rcases ht with rfl | rfl
        · exact IsNewBox.lt (show IsNewBox W9.heap.size v w from hk)
        · exact IsNewBox.lt (show IsNewBox W9.heap.size v w from hk)
      intro a12 w12 hb12 hs12 hd12 hk12 hx12
      have h58 : IsO 0 0 (a12.eval (.tmp 58)) w12 := hk12 58 (by kernel_rfl)
      have h59 : IsO 0 0 (a12.eval (.tmp 59)) w12 := hk12 59 (by kernel_rfl)
      have h60 : a12.eval (.tmp 60) = .int .i64 1 := hk12 60 (by kernel_rfl)
      obtain ⟨b11, e11, hb11, nb11⟩ : IsNewBox W9.heap.size (a12.eval (.tmp 11)) w12 := hk12 11 (by kernel_rfl)
      obtain ⟨b12, e12, hc12, nb12⟩ : IsNewBox W9.heap.size (a12.eval (.tmp 12)) w12 := hk12 12 (by kernel_rfl)
      have hne : b12 ≠ b11 := by
        intro e
        have := hx12 11 12 (by decide) (by decide) (by decide)
        rw [e11, e12, e] at this
        exact this rfl
      obtain ⟨s58, a58, n58, c58, e58, -⟩ := OkAt.shape h58
      obtain ⟨s59, a59, n59, c59, e59, -⟩ := OkAt.shape h59
      refine wpOps_step (i := 9) (rest := [10, 11]) rfl rfl ?_
      refine wp_store_num e11 e58 nb11 ?_
      obtain ⟨W10, eW10, n11, b10, -, keep10⟩ := store_box (s := s58) (x := a58) (n := n58) (c := c58) hb12 hb11 nb11
      rw [eW10]
      refine wpOps_step (i := 10) (rest := [11]) rfl rfl ?_
      refine wp_store_num e12 e59 (keep10 _ _ _ hne nb12) ?_
      obtain ⟨W11, eW11, n12, bb, -, -⟩ := store_box (s := s59) (x := a59) (n := n59) (c := c59) b10 hc12 (keep10 _ _ _ hne nb12)
      rw [eW11]
      refine wpOps_step (i := 11) (rest := []) rfl rfl ?_
      refine wp_assign ?_
      have HA := (HA.out _ bb).keep
      have HO := (HO.out _ bb).keep
      have LO := keepLim (LO.out _ bb)
      have N1 := Lib.hid (N1.out.below bb)
      have N5 := Lib.hid (N5.out.below bb)
      have RW := Lib.hid (Below.step RW.out bb)
      have T0 := Lib.hid (T0.out.below bb)
      obtain ⟨x, hx⟩ : ∃ x : Nat → Value, ∀ t, (a12.put (some 13) (a12.eval (.tmp 60))).eval (.tmp t) = x t := ⟨_, fun _ => rfl⟩
      have f2 : (a12.put (some 13) (a12.eval (.tmp 60))).eval (.tmp 2) = .pointer (some ⟨w.heap.size, 0, none⟩) := (eval_put' (by simp)).trans (hk12 2 (by kernel_rfl))
      have f5 : (a12.put (some 13) (a12.eval (.tmp 60))).eval (.tmp 5) = .pointer (some ⟨w3.heap.size, 0, none⟩) := (eval_put' (by simp)).trans (hk12 5 (by kernel_rfl))
      have f7 : (a12.put (some 13) (a12.eval (.tmp 60))).eval (.tmp 7) = .int .i64 1 := (eval_put' (by simp)).trans (hk12 7 (by kernel_rfl))
      have f10 : (a12.put (some 13) (a12.eval (.tmp 60))).eval (.tmp 10) = .int .i64 1 := (eval_put' (by simp)).trans (hk12 10 (by kernel_rfl))
      have f13 : (a12.put (some 13) (a12.eval (.tmp 60))).eval (.tmp 13) = .int .i64 1 := by
        rw [eval_put (by rw [hs12]; decide), if_pos rfl, h60]
      have hs13 : (a12.put (some 13) (a12.eval (.tmp 60))).tmps.size = 138 := by
        show (a12.tmps.setIfInBounds 13 _).size = 138
        rw [Array.size_setIfInBounds]; exact hs12
      refine hK12 _ _ ?_
      have ha : a12.put (some 13) (a12.eval (.tmp 60)) = ⟨#[x 0, x 1, .pointer (some ⟨w.heap.size, 0, none⟩), x 3, x 4, .pointer (some ⟨w3.heap.size, 0, none⟩), x 6, .int .i64 1, x 8, x 9, .int .i64 1, x 11, x 12, .int .i64 1, x 14, x 15, x 16, x 17, x 18, x 19, x 20, x 21, x 22, x 23, x 24, x 25, x 26, x 27, x 28, x 29, x 30, x 31, x 32, x 33, x 34, x 35, x 36, x 37, x 38, x 39, x 40, x 41, x 42, x 43, x 44, x 45, x 46, x 47, x 48, x 49, x 50, x 51, x 52, x 53, x 54, x 55, x 56, x 57, x 58, x 59, x 60, x 61, x 62, x 63, x 64, x 65, x 66, x 67, x 68, x 69, x 70, x 71, x 72, x 73, x 74, x 75, x 76, x 77, x 78, x 79, x 80, x 81, x 82, x 83, x 84, x 85, x 86, x 87, x 88, x 89, x 90, x 91, x 92, x 93, x 94, x 95, x 96, x 97, x 98, x 99, x 100, x 101, x 102, x 103, x 104, x 105, x 106, x 107, x 108, x 109, x 110, x 111, x 112, x 113, x 114, x 115, x 116, x 117, x 118, x 119, x 120, x 121, x 122, x 123, x 124, x 125, x 126, x 127, x 128, x 129, x 130, x 131, x 132, x 133, x 134, x 135, x 136, x 137], []⟩ := act_eq hs13 hd12 ⟨hx 0, hx 1, f2, hx 3, hx 4, f5, hx 6, f7, hx 8, hx 9, f10, hx 11, hx 12, f13, hx 14, hx 15, hx 16, hx 17, hx 18, hx 19, hx 20, hx 21, hx 22, hx 23, hx 24, hx 25, hx 26, hx 27, hx 28, hx 29, hx 30, hx 31, hx 32, hx 33, hx 34, hx 35, hx 36, hx 37, hx 38, hx 39, hx 40, hx 41, hx 42, hx 43, hx 44, hx 45, hx 46, hx 47, hx 48, hx 49, hx 50, hx 51, hx 52, hx 53, hx 54, hx 55, hx 56, hx 57, hx 58, hx 59, hx 60, hx 61, hx 62, hx 63, hx 64, hx 65, hx 66, hx 67, hx 68, hx 69, hx 70, hx 71, hx 72, hx 73, hx 74, hx 75, hx 76, hx 77, hx 78, hx 79, hx 80, hx 81, hx 82, hx 83, hx 84, hx 85, hx 86, hx 87, hx 88, hx 89, hx 90, hx 91, hx 92, hx 93, hx 94, hx 95, hx 96, hx 97, hx 98, hx 99, hx 100, hx 101, hx 102, hx 103, hx 104, hx 105, hx 106, hx 107, hx 108, hx 109, hx 110, hx 111, hx 112, hx 113, hx 114, hx 115, hx 116, hx 117, hx 118, hx 119, hx 120, hx 121, hx 122, hx 123, hx 124, hx 125, hx 126, hx 127, hx 128, hx 129, hx 130, hx 131, hx 132, hx 133, hx 134, hx 135, hx 136, hx 137, trivial⟩
      rw [ha]
      clear ha f2 f5 f7 f10 f13 hs13 hx hk12 hs12 hd12 hx12 h58 h59 h60 e11 e12 nb11 nb12 hne e58 e59 eW10 eW11 n11 n12 b10 keep10 hb12 hb11 hc12
      go_wp2_with fail
      refine (Of_num 0 _ (by decide) (by decide)).mono ?_
      rintro e w14 ⟨⟨u, rfl, hz⟩, hb14⟩
      obtain ⟨s0, a0, n0, c0, rfl, -⟩ := OkAt.shape hz
      obtain ⟨W14, e14, n14, b14, -⟩ := box1 w14 (.bool s0) (.slice a0 n0 c0)
      have HZ := (hz.below b14).keep
      have N14 := Lib.hid n14
      have R14 := Below.step hb14 b14
      have HA := (HA.out _ R14).keep
      have HO := (HO.out _ R14).keep
      have LO := keepLim (LO.out _ R14)
      have N1 := Lib.hid (N1.out.below R14)
      have N5 := Lib.hid (N5.out.below R14)
      have RW := Lib.hid (Below.step RW.out R14)
      have T0 : Hid (∀ W, Below W14.heap.size W14 W → Tab W) := fun W hb => (T0.out.below R14).below hb
      clear hz n14 b14 R14 hb14 bb
      go_upto_region 14 with fail
      clear e14
      rename_i K hK
      simp only [List.append_eq, List.cons_append, List.nil_append]
      refine wp_region_known [(4, true), (63, false), (64, true), (65, true), (67, true), (68, true), (69, true), (71, true), (72, true), (73, true), (75, true), (76, true), (77, true), (80, true), (81, true), (82, true), (85, true), (86, true), (87, true), (94, true), (95, true), (96, true), (103, true), (104, true), (105, true), (111, true), (112, true), (113, true), (120, true), (121, true), (122, true), (127, true), (128, true), (129, true), (136, true), (137, true)]
        [(2, IsV (.pointer (some ⟨w.heap.size, 0, none⟩))), (5, IsV (.pointer (some ⟨w3.heap.size, 0, none⟩))), (14, IsV (.pointer (some ⟨w14.heap.size, 0, none⟩))), (7, IsV (.int .i64 (1))), (10, IsV (.int .i64 (1))), (13, IsV (.int .i64 (1)))]
        [(62, IsA so lo), (66, IsV (.int .i64 (1))), (70, IsV (.int .i64 (1))), (74, IsV (.int .i64 (1))), (78, IsN 61 (0)), (79, IsV (.int .i64 (cmpI (0) 0))), (83, IsA so lo), (84, IsV (.string ⟨[48].toArray⟩)), (88, IsN 61 (0)), (89, IsN 60 (A)), (90, IsV (.int .i64 (cmpI (0) (A)))), (91, IsO 3 (0)), (92, IsN 60 (A)), (93, IsV (.int .i64 (cmpI (0) (A)))), (97, IsN 61 (0)), (98, IsN 60 (A)), (99, IsO 62 ((0 + A))), (100, IsO 3 (0)), (101, IsN 60 (A)), (102, IsO 61 ((0 + A))), (106, IsN 60 (A)), (107, IsN 61 (0)), (108, IsO 121 ((A * 0))), (109, IsE), (110, IsV (.int .i64 0)), (114, IsN 61 (0)), (115, IsN 60 (A)), (116, IsO 61 (((Int.gcd 0 A : Nat) : Int))), (117, IsO 3 (0)), (118, IsN 60 (A)), (119, IsO 60 (((Int.gcd 0 A : Nat) : Int))), (123, IsN 61 (0)), (124, IsO 61 ((-0))), (125, IsE), (126, IsV (.int .i64 0)), (130, IsN 60 (A)), (131, IsN 61 (0)), (132, IsO 62 ((A - 0))), (133, IsN 60 (A)), (134, IsO 3 (0)), (135, IsO 61 ((A - 0)))]
        138 (by kernel_rfl) rfl (by kernel_rfl) (by kernel_rfl) ⟨rfl, rfl, rfl, rfl, rfl, rfl, trivial⟩ ⟨IsV.grows _ , IsV.grows _ , IsV.grows _ , IsV.grows _ , IsV.grows _ , IsV.grows _ , IsA.grows _ _ , IsV.grows _ , IsV.grows _ , IsV.grows _ , IsN.grows _ _ , IsV.grows _ , IsA.grows _ _ , IsV.grows _ , IsN.grows _ _ , IsN.grows _ _ , IsV.grows _ , IsO.grows _ _ , IsN.grows _ _ , IsV.grows _ , IsN.grows _ _ , IsN.grows _ _ , IsO.grows _ _ , IsO.grows _ _ , IsN.grows _ _ , IsO.grows _ _ , IsN.grows _ _ , IsN.grows _ _ , IsO.grows _ _ , IsE.grows , IsV.grows _ , IsN.grows _ _ , IsN.grows _ _ , IsO.grows _ _ , IsO.grows _ _ , IsN.grows _ _ , IsO.grows _ _ , IsN.grows _ _ , IsO.grows _ _ , IsE.grows , IsV.grows _ , IsN.grows _ _ , IsN.grows _ _ , IsO.grows _ _ , IsN.grows _ _ , IsO.grows _ _ , IsO.grows _ _ , trivial⟩ ?_ ?_
      · refine AllStep.cons (step_load (fun _ _ h => h) (fun _ hb => N5.out.below hb) (fun w hb => ⟨_, rfl, LO.out w hb⟩)) ?_
        refine AllStep.cons (step_call1 (Plain.of Tryd.func15 rfl rfl) (fun _ _ _ hu => (check_no hu KO).mono (fun _ _ h => ansV h))) ?_
        refine AllStep.cons (step_not false (fun _ _ h => h) (fun _ => rfl)) ?_
        refine AllStep.cons (step_move (fun _ _ h => h)) ?_
        refine AllStep.cons (step_move (fun _ _ h => h)) ?_
        refine AllStep.cons (step_eqE (fun _ _ h => h) rfl (fun _ => rfl)) ?_
        refine AllStep.cons (step_pickT (fun _ _ h => h) (fun _ _ h => h)) ?_
        refine AllStep.cons (step_move (fun _ _ h => h)) ?_
        refine AllStep.cons (step_move (fun _ _ h => h)) ?_
        refine AllStep.cons (step_eqE (fun _ _ h => h) rfl (fun _ => rfl)) ?_
        refine AllStep.cons (step_pickT (fun _ _ h => h) (fun _ _ h => h)) ?_
        refine AllStep.cons (step_move (fun _ _ h => h)) ?_
        refine AllStep.cons (step_move (fun _ _ h => h)) ?_
        refine AllStep.cons (step_eqE (fun _ _ h => h) rfl (fun _ => rfl)) ?_
        refine AllStep.cons (step_pickT (fun _ _ h => h) (fun _ _ h => h)) ?_
        refine AllStep.cons (step_move (fun _ _ h => h)) ?_
        refine AllStep.cons (step_load (fun _ _ h => h) (fun _ hb => N5.out.below hb) (fun w hb => HO.out w hb)) ?_
        refine AllStep.cons (step_call1 (Plain.of Tryd.func19 rfl rfl) (fun _ _ _ hu => (Sign_num hu _ rfl).mono (fun _ _ h => ansV h))) ?_
        refine AllStep.cons (step_eqI (fun _ _ h => h) (by decide) (fun _ => rfl)) ?_
        refine AllStep.cons (step_pickT (fun _ _ h => h) (fun _ _ h => h)) ?_
        refine AllStep.cons (step_move (fun _ _ h => h)) ?_
        refine AllStep.cons (step_load (fun _ _ h => h) (fun _ hb => N5.out.below hb) (fun w hb => ⟨_, rfl, LO.out w hb⟩)) ?_
        refine AllStep.cons (step_call1 (Plain.of Tryd.func26 rfl rfl) (fun _ w hb hu => text_zero hu KO (by omega) (T0.out _ hb))) ?_
        refine AllStep.cons (step_eqs (fun _ _ h => h) rfl (fun _ => rfl)) ?_
        refine AllStep.cons (step_pickT (fun _ _ h => h) (fun _ _ h => h)) ?_
        refine AllStep.cons (step_move (fun _ _ h => h)) ?_
        refine AllStep.cons (step_load (fun _ _ h => h) (fun _ hb => N5.out.below hb) (fun w hb => HO.out w hb)) ?_
        refine AllStep.cons (step_load (fun _ _ h => h) (fun _ hb => N1.out.below hb) (fun w hb => HA.out w hb)) ?_
        refine AllStep.cons (step_call2 (Plain.of Tryd.func20 rfl rfl) (fun _ _ _ _ hu hv => (Cmp_num hu hv _ rfl).mono (fun _ _ h => ansV h))) ?_
        refine AllStep.cons (step_load (fun _ _ h => h) (fun _ hb => N14.out.below hb) (fun w hb => HZ.out w hb)) ?_
        refine AllStep.cons (step_load (fun _ _ h => h) (fun _ hb => N1.out.below hb) (fun w hb => HA.out w hb)) ?_
        refine AllStep.cons (step_call2 (Plain.of Tryd.func20 rfl rfl) (fun _ _ _ _ hu hv => (Cmp_num (OkAt.num hu) hv _ rfl).mono (fun _ _ h => ansV h))) ?_
        refine AllStep.cons (step_eqII (fun _ _ h => h) (fun _ _ h => h) (beq_iff_eq.2 rfl) (fun _ => rfl)) ?_
        refine AllStep.cons (step_pickT (fun _ _ h => h) (fun _ _ h => h)) ?_
        refine AllStep.cons (step_move (fun _ _ h => h)) ?_
        refine AllStep.cons (step_load (fun _ _ h => h) (fun _ hb => N5.out.below hb) (fun w hb => HO.out w hb)) ?_
        refine AllStep.cons (step_load (fun _ _ h => h) (fun _ hb => N1.out.below hb) (fun w hb => HA.out w hb)) ?_
        refine AllStep.cons (step_call2 (Plain.of Tryd.func13 rfl rfl) (fun _ _ _ _ hu hv => Add_num hu hv (by decide) (by decide))) ?_
        refine AllStep.cons (step_load (fun _ _ h => h) (fun _ hb => N14.out.below hb) (fun w hb => HZ.out w hb)) ?_
        refine AllStep.cons (step_load (fun _ _ h => h) (fun _ hb => N1.out.below hb) (fun w hb => HA.out w hb)) ?_
        refine AllStep.cons (step_call2 (Plain.of Tryd.func13 rfl rfl) (fun _ _ _ _ hu hv => Add_num (OkAt.num hu) hv (by decide) (by decide))) ?_
        refine AllStep.cons (step_call2 (Plain.of Tryd.func16 rfl rfl) (fun _ _ _ _ hu hv => (Same_num hu hv true (decide_eq_true rfl)).mono (fun _ _ h => ansV h))) ?_
        refine AllStep.cons (step_pickT (fun _ _ h => h) (fun _ _ h => h)) ?_
        refine AllStep.cons (step_move (fun _ _ h => h)) ?_
        refine AllStep.cons (step_load (fun _ _ h => h) (fun _ hb => N1.out.below hb) (fun w hb => HA.out w hb)) ?_
        refine AllStep.cons (step_load (fun _ _ h => h) (fun _ hb => N5.out.below hb) (fun w hb => HO.out w hb)) ?_
        refine AllStep.cons (step_call2 (Plain.of Tryd.func14 rfl rfl) (fun _ _ _ _ hu hv => Mul_num hu hv (by decide) (by decide))) ?_
        refine AllStep.cons (step_field (fun _ _ h => OkAt.empty h (Int.mul_zero A))) ?_
        refine AllStep.cons (step_len (fun _ _ h => by obtain ⟨p, c, e⟩ := h; exact ⟨p, 0, c, e, rfl⟩)) ?_
        refine AllStep.cons (step_eqI (fun _ _ h => h) (by decide) (fun _ => rfl)) ?_
        refine AllStep.cons (step_pickT (fun _ _ h => h) (fun _ _ h => h)) ?_
        refine AllStep.cons (step_move (fun _ _ h => h)) ?_
        refine AllStep.cons (step_load (fun _ _ h => h) (fun _ hb => N5.out.below hb) (fun w hb => HO.out w hb)) ?_
        refine AllStep.cons (step_load (fun _ _ h => h) (fun _ hb => N1.out.below hb) (fun w hb => HA.out w hb)) ?_
        refine AllStep.cons (step_call2 (Plain.of Tryd.func23 rfl rfl) (fun _ _ _ _ hu hv => Gcd_num hu hv (by decide) (by decide))) ?_
        refine AllStep.cons (step_load (fun _ _ h => h) (fun _ hb => N14.out.below hb) (fun w hb => HZ.out w hb)) ?_
        refine AllStep.cons (step_load (fun _ _ h => h) (fun _ hb => N1.out.below hb) (fun w hb => HA.out w hb)) ?_
        refine AllStep.cons (step_call2 (Plain.of Tryd.func23 rfl rfl) (fun _ _ _ _ hu hv => Gcd_num (OkAt.num hu) hv (by decide) (by decide))) ?_
        refine AllStep.cons (step_call2 (Plain.of Tryd.func16 rfl rfl) (fun _ _ _ _ hu hv => (Same_num hu hv true (decide_eq_true rfl)).mono (fun _ _ h => ansV h))) ?_
        refine AllStep.cons (step_pickT (fun _ _ h => h) (fun _ _ h => h)) ?_
        refine AllStep.cons (step_move (fun _ _ h => h)) ?_
        refine AllStep.cons (step_load (fun _ _ h => h) (fun _ hb => N5.out.below hb) (fun w hb => HO.out w hb)) ?_
        refine AllStep.cons (step_call1 (Plain.of Tryd.func17 rfl rfl) (fun _ _ _ hu => Neg_num hu (by decide))) ?_
        refine AllStep.cons (step_field (fun _ _ h => OkAt.empty h (by omega))) ?_
        refine AllStep.cons (step_len (fun _ _ h => by obtain ⟨p, c, e⟩ := h; exact ⟨p, 0, c, e, rfl⟩)) ?_
        refine AllStep.cons (step_eqI (fun _ _ h => h) (by decide) (fun _ => rfl)) ?_
        refine AllStep.cons (step_pickT (fun _ _ h => h) (fun _ _ h => h)) ?_
        refine AllStep.cons (step_move (fun _ _ h => h)) ?_
        refine AllStep.cons (step_load (fun _ _ h => h) (fun _ hb => N1.out.below hb) (fun w hb => HA.out w hb)) ?_
        refine AllStep.cons (step_load (fun _ _ h => h) (fun _ hb => N5.out.below hb) (fun w hb => HO.out w hb)) ?_
        refine AllStep.cons (step_call2 (Plain.of Tryd.func18 rfl rfl) (fun _ _ _ _ hu hv => Sub_num hu hv (by decide) (by decide))) ?_
        refine AllStep.cons (step_load (fun _ _ h => h) (fun _ hb => N1.out.below hb) (fun w hb => HA.out w hb)) ?_
        refine AllStep.cons (step_load (fun _ _ h => h) (fun _ hb => N14.out.below hb) (fun w hb => HZ.out w hb)) ?_
        refine AllStep.cons (step_call2 (Plain.of Tryd.func18 rfl rfl) (fun _ _ _ _ hu hv => Sub_num hu (OkAt.num hv) (by decide) (by decide))) ?_
        refine AllStep.cons (step_call2 (Plain.of Tryd.func16 rfl rfl) (fun _ _ _ _ hu hv => (Same_num hu hv true (decide_eq_true rfl)).mono (fun _ _ h => ansV h))) ?_
        refine AllStep.cons (step_pickT (fun _ _ h => h) (fun _ _ h => h)) ?_
        refine AllStep.cons (step_assign (fun _ _ h => h)) ?_
        exact AllStep.nil
      · intro a' w' hb hs hd hk
        refine hK a' w' ?_
        refine wp_ret ?_
        exact ret_slot (t := 4) rfl hd (hk 4) ⟨rfl, Below.step RW.out hb⟩

end Go.Proofs.YtejlhefjphiahaaDoor
