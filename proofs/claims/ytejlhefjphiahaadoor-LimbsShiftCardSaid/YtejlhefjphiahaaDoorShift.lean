/- Walks: a number with k noughts below it, and back. -/
import Derived.Test.YtejlhefjphiahaaDoorLaw
import Derived.Test.YtejlhefjphiahaaDoorSteps2
import Derived.Test.YtejlhefjphiahaaDoorShiftMath
import Derived.Test.YtejlhefjphiahaaDoorReadMath
namespace Go.Proofs.YtejlhefjphiahaaDoor
open Go.RowKit Go.Shelf

theorem Holds.lim {W : World} {b : Nat} {L : List Nat} (h : Holds W b L) (hs : ∀ x ∈ L, x < 4294967296) (hm : L.length ≤ maxLen) : Lim W (.slice (some ⟨b, 0, none⟩) L.length L.length) L :=
  ⟨_, _, rfl, Nat.le_refl _, hm, hs, .inr ⟨b, 0, rfl, fun i hi => by rw [Nat.zero_add]; exact h.cell hi⟩⟩
theorem Holds.below {w W : World} {b : Nat} {L : List Nat} (h : Holds w b L) (hb : Below w.heap.size w W) : Holds W b L := by
  obtain ⟨cur, h1, h2⟩ := h
  exact ⟨cur, (hb.block _ (Array.getElem?_eq_some_iff.1 h1).1).trans h1, h2⟩
theorem Holds.free {W : World} {b : Nat} {L : List Nat} (h : Holds W b L) (o : Nat) : W.frozen? ⟨b, o, none⟩ = false := by
  obtain ⟨cur, h1, h2⟩ := h
  exact h1.free o
theorem Holds.lt {W : World} {b : Nat} {L : List Nat} (h : Holds W b L) : b < W.heap.size := by
  obtain ⟨cur, h1, h2⟩ := h
  exact (Array.getElem?_eq_some_iff.1 h1).1
theorem Holds.fresh (w : World) (n : Nat) : Holds (w.alloc (.cells (madeCells #[.int .u32 0] n) 46)) w.heap.size (List.replicate n 0) := by
  refine ⟨_, CellsAt.new _ _ _, ?_⟩
  exact made_list _
theorem Holds.one {W : World} {b k : Nat} (h : Holds W b (List.replicate (k + 1) 0)) : Holds (W.setCell ⟨b, k, none⟩ (.int .u32 1)) b (wideL k [1]) := by
  obtain ⟨cur, h1, h2⟩ := h
  refine ⟨_, h1.set k _, ?_⟩
  rw [Array.toList_setIfInBounds, h2, List.replicate_succ']
  unfold wideL u32s
  rw [List.map_append, List.map_append]
  rw [List.set_append_right _ _ (by simp)]
  simp

theorem OkAt.is {w : World} {s s' : Bool} {a : Option Addr} {n c k : Nat} {Z : Int} {L : List Nat} (h : OkAt w (.agg #[.bool s, .slice a n c]) k Z) (ho : okB s' L = true ∧ valS s' L = Z) : s = s' ∧ n = L.length ∧ Lim w (.slice a L.length c) L := by
  obtain ⟨s1, v, l, e, h1, h2, h3, -⟩ := h
  obtain ⟨rfl, rfl⟩ := valS_inj h2 ho.1 (h3.trans ho.2.symm)
  have e' : s = s1 ∧ Value.slice a n c = v := by simpa using e
  obtain ⟨rfl, rfl⟩ := e'
  have h1' := h1
  obtain ⟨a', c', e2, -⟩ := h1
  injection e2 with e3 e4 e5
  subst e4
  exact ⟨rfl, rfl, h1'⟩
theorem nine_bytes (l : List UInt8) (j : Nat) : (⟨(l ++ List.replicate (9 * j) 48).toArray⟩ : ByteArray) ++ ⟨#[48, 48, 48, 48, 48, 48, 48, 48, 48]⟩ = ⟨(l ++ List.replicate (9 * (j + 1)) 48).toArray⟩ := by
  rw [← nine_more]
  apply ByteArray.ext
  rw [ByteArray.data_append]
  simp
theorem Lim.drop {w : World} {b o n c k : Nat} {l : List Nat} (h : Lim w (.slice (some ⟨b, o, none⟩) n c) l) (hk : k ≤ l.length) : Lim w (.slice (some ⟨b, o + k, none⟩) (l.length - k) (c - k)) (l.drop k) := by
  obtain ⟨a, c', e, h1, h2, h3, h4⟩ := h
  injection e with e1 e2 e3
  subst e1 e2 e3
  refine ⟨_, c - k, by rw [List.length_drop], by rw [List.length_drop]; omega, by omega, fun x hx => h3 x (List.mem_of_mem_drop hx), .inr ⟨b, o + k, rfl, fun i hi => ?_⟩⟩
  rw [List.length_drop] at hi
  rcases h4 with ⟨h4, -⟩ | ⟨b', o', h4, h5⟩
  · cases h4
  · injection h4 with h4
    injection h4 with h6 h7
    subst h6 h7
    rw [pt_drop, Nat.add_assoc]
    exact h5 (k + i) (by omega)
theorem Lim.front {w : World} {a : Option Addr} {n c k : Nat} {l : List Nat} (h : Lim w (.slice a n c) l) (ha : a ≠ none) (hk : k ≤ l.length) : Lim w (.slice a k c) (l.take k) := by
  obtain ⟨a', c', e, h1, h2, h3, h4⟩ := h
  injection e with e1 e2 e3
  subst e1 e2 e3
  have hl : (l.take k).length = k := by rw [List.length_take]; omega
  refine ⟨_, c, by rw [hl], by omega, h2, fun x hx => h3 x (List.mem_of_mem_take hx), ?_⟩
  rcases h4 with ⟨h4, -⟩ | ⟨b', o', h4, h5⟩
  · exact absurd h4 ha
  · refine .inr ⟨b', o', h4, fun i hi => ?_⟩
    rw [hl] at hi
    rw [pt_take hi]
    exact h5 i (by omega)
theorem Lim.at {w : World} {b o n c : Nat} {l : List Nat} (h : Lim w (.slice (some ⟨b, o, none⟩) n c) l) {i : Nat} (hi : i < l.length) : w.cell? ⟨b, o + i, none⟩ = some (.int .u32 (pt l i)) := by
  obtain ⟨a, c', e, h1, h2, h3, h4⟩ := h
  injection e with e1 e2 e3
  subst e1 e2 e3
  rcases h4 with ⟨h4, -⟩ | ⟨b', o', h4, h5⟩
  · cases h4
  · injection h4 with h4
    injection h4 with h6 h7
    subst h6 h7
    exact h5 i hi
theorem SameLimbs_yes (va vb : Value) (l : List Nat) (w : World) (ha : Lim w va l) (hb : Lim w vb l) :
    Calls Tryd.prog 29 #[va, vb] w fun e w' => e = .returned (.bool true) ∧ Below w.heap.size w w' := by
  refine (SameLimbs_any va vb l l w ha hb).mono ?_
  rintro e w' ⟨rfl, d, rfl⟩
  exact ⟨by rw [decide_eq_true (p := l = l) rfl], below_of_drewN _ _⟩
theorem Lim.some {w : World} {a : Option Addr} {n c : Nat} {l : List Nat} (h : Lim w (.slice a n c) l) (hl : 0 < l.length) : ∃ b o, a = some ⟨b, o, none⟩ ∧ l.length ≤ c ∧ c ≤ maxLen := by
  obtain ⟨a, c', e, h1, h2, h3, h4⟩ := h
  injection e with e1 e2 e3
  subst e1 e2 e3
  rcases h4 with ⟨-, h4, -⟩ | ⟨b', o', h4, h5⟩
  · rw [h4] at hl; simp at hl
  · exact ⟨b', o', h4, h1, h2⟩
theorem txt_fit {s : Bool} {l : List Nat} (ho : okB s l = true) : txt (fitS s l) (fitL s l) = txt s l := by
  unfold fitS fitL
  rw [if_pos ho, if_pos ho]

set_option maxRecDepth 100000 in
set_option maxHeartbeats 4000000 in
theorem LimbsShift_true (w : World) (v1 : Value) (l1 : List Nat) (h1 : Lim w v1 l1) (n : Int) (hn : 0 ≤ n ∧ n ≤ 255) (htab : Tab w) :
    Calls Tryd.prog 9 #[v1, .int .u8 n] w fun e w' => e = .returned (.bool true) ∧ Below w.heap.size w w' := by
  obtain ⟨hn1, hn2⟩ := hn
  have h1' := h1
  obtain ⟨a1, c1, rfl, -⟩ := h1
  have m1 := h1'.max
  obtain ⟨W0, e0, n1, hb0, hz0'⟩ := box1 w (.bool false) (.slice a1 l1.length c1)
  have T0 : Hid (∀ W, Below w.heap.size w W → Tab W) := fun W hb => htab.below hb
  have L1 := keepLim (h1'.below hb0)
  have N1 := Lib.hid n1
  have B0 := Lib.hid hb0
  obtain ⟨r, hr⟩ : ∃ r, n.tmod 20 = r := ⟨_, rfl⟩
  have hr' : n % 20 = r := by rw [← hr, Int.tmod_eq_emod_of_nonneg hn1]
  obtain ⟨k, rfl⟩ := Int.eq_ofNat_of_zero_le (show 0 ≤ r by omega)
  have hk : k < 20 := by omega
  clear h1' n1 hb0 htab hz0' hr'
  go_enter Tryd.func9, Tryd.ntmps9
  go_wp2_with fail
  clear e0
  refine (alive_true _ (T0.out _ B0.out)).mono ?_
  rintro e w1 ⟨rfl, hb1⟩
  have R1 := Lib.hid hb1
  obtain ⟨p1, p2, -, -⟩ := N1.out.below hb1
  clear hb1
  rcases Nat.lt_or_ge 60 l1.length with hbig | hbig
  · have hI : ((l1.length : Int) > 60) = True := eq_true (by omega)
    go_wp2_with fail
    refine (alive_true _ (T0.out _ (Below.step B0.out R1.out))).mono ?_
    rintro e wz ⟨rfl, hbz⟩
    have BZ := Lib.hid (Below.step (Below.step B0.out R1.out) hbz)
    clear hbz
    go_wp2_with fail
    go_ret
    exact ⟨rfl, BZ.out⟩
  · have hI : ((l1.length : Int) > 60) = False := eq_false (by omega)
    rcases Nat.eq_zero_or_pos l1.length with h0 | hpos
    · have hI2 : ((l1.length : Int) == 0) = true := by rw [h0]; rfl
      go_wp2_with fail
      refine (alive_true _ (T0.out _ (Below.step B0.out R1.out))).mono ?_
      rintro e wz ⟨rfl, hbz⟩
      have BZ := Lib.hid (Below.step (Below.step B0.out R1.out) hbz)
      clear hbz
      go_wp2_with fail
      go_ret
      exact ⟨rfl, BZ.out⟩
    · have hI2 : ((l1.length : Int) == 0) = false := by rw [beq_eq_false_iff_ne]; omega
      go_wp2_with fail
      refine (check_any false _ l1 _ (L1.out _ R1.out)).mono ?_
      rintro e w2 ⟨rfl, hb2⟩
      have R2 := Lib.hid (Below.step R1.out hb2)
      obtain ⟨p1, p2, -, -⟩ := N1.out.below R2.out
      clear hb2 R1
      cases ho1 : okB false l1
      · clear ho1
        go_wp2_with fail
        refine (alive_true _ (T0.out _ (Below.step B0.out R2.out))).mono ?_
        rintro e wz ⟨rfl, hbz⟩
        have BZ := Lib.hid (Below.step (Below.step B0.out R2.out) hbz)
        clear hbz
        go_wp2_with fail
        go_ret
        exact ⟨rfl, BZ.out⟩
      · have O1 := Lib.hid ho1
        have HPOS := Lib.hid hpos
        have HB := Lib.hid hbig
        have HK := Lib.hid hk
        clear ho1 hpos hbig hI hI2
        have hmk := run_make_u32 ((k : Int) + 1) (k + 1) (by omega) (by omega)
        obtain ⟨W2, e2, h2, b2⟩ : ∃ W2, w2.alloc (.cells (madeCells #[.int .u32 0] (k + 1)) 46) = W2 ∧ Holds W2 w2.heap.size (List.replicate (k + 1) 0) ∧ Below w2.heap.size w2 W2 := ⟨_, rfl, Holds.fresh _ _, (by repeat (first | exact Below.refl _ _ | with_reducible refine Below.drew ?_ | with_reducible refine below_drewN ?_ _ | with_reducible refine Below.setCell ?_ (by first | (simp; done) | (simp; omega) | omega) _ | with_reducible refine Below.alloc ?_ (by first | (simp; done) | (simp; omega) | omega) _))⟩
        obtain ⟨W3, e3, n7, b3, -⟩ := box1 W2 (.bool false) (.slice (some ⟨w2.heap.size, 0, none⟩) (k + 1) (k + 1))
        have h3 := h2.below b3
        have hlt := h2.lt
        have f1 : W3.cell? ⟨w2.heap.size, k, none⟩ = some (.int .u32 (pt (List.replicate (k + 1) 0) k)) := h3.cell (by simp)
        have f2 := h3.free k
        obtain ⟨f3, f4, f5, f6⟩ := n7
        obtain ⟨W4, e4, h4, n7', b4⟩ : ∃ W4, W3.setCell ⟨w2.heap.size, k, none⟩ (.int .u32 1) = W4 ∧ Holds W4 w2.heap.size (wideL k [1]) ∧ NumBox W4 W2.heap.size (.bool false) (.slice (some ⟨w2.heap.size, 0, none⟩) (k + 1) (k + 1)) ∧ Below w2.heap.size w2 W4 :=
          ⟨_, rfl, h3.one, NumBox.other ⟨f3, f4, f5, f6⟩ (show w2.heap.size ≠ W2.heap.size by omega) _, (Below.step b2 b3).setCell (Nat.le_refl _) _⟩
        have R4 := Below.step R2.out b4
        have LB : Lim W4 (.slice (some ⟨w2.heap.size, 0, none⟩) (k + 1) (k + 1)) (wideL k [1]) := by
          have h := h4.lim (fun x hx => Nat.lt_trans ((okB_iff.1 (by_ok k).1).1 x hx) (by decide)) (by rw [wide_length]; unfold maxLen; simp; omega)
          rwa [wide_length] at h
        have HBY : OkAt W4 (.agg #[.bool false, .slice (some ⟨w2.heap.size, 0, none⟩) (k + 1) (k + 1)]) 20 (1000000000 ^ k) := ⟨_, _, _, rfl, LB, (by_ok k).1, (by_ok k).2, by rw [wide_length]; simp; omega⟩
        have HA : OkAt W4 (.agg #[.bool false, .slice a1 l1.length c1]) 60 (valS false l1) := ⟨_, _, _, rfl, L1.out _ R4, O1.out, rfl, by have := HB.out; omega⟩
        have HBY := HBY.keep
        have HA := HA.keep
        have N7 := Lib.hid n7'
        have N1 := Lib.hid (N1.out.below R4)
        have RW := Lib.hid (Below.step B0.out R4)
        have L1 := keepLim (L1.out _ R4)
        obtain ⟨q1, q2, -, -⟩ := N1.out
        obtain ⟨q3, q4, -, -⟩ := N7.out
        clear h2 b2 b3 h3 hlt h4 n7' b4 R4 LB R2 B0
        go_wp2_with fail
        refine (Mul_num (HA.out _ (Below.refl _ _)).num (HBY.out _ (Below.refl _ _)).num (by decide) (by decide)).mono ?_
        rintro e w5 ⟨⟨u5, rfl, hm5⟩, hb5⟩
        have hne : l1 ≠ [] := by
          intro e
          have := HPOS.out
          rw [e] at this
          simp at this
        have HNE := Lib.hid hne
        obtain ⟨s5, a5, n5, c5, rfl, -⟩ := hm5.shape
        obtain ⟨rfl, rfl, hl5⟩ := hm5.is (wide_ok O1.out hne)
        obtain ⟨W5, e5, n8, b5, -⟩ := box1 w5 (.bool false) (.slice a5 (wideL k l1).length c5)
        have R5 := Below.step hb5 b5
        have LW := keepLim (hl5.below b5)
        have HBY := (HBY.out _ R5).keep
        have HA := (HA.out _ R5).keep
        have N7 := Lib.hid (N7.out.below R5)
        have N8 := Lib.hid n8
        have N1 := Lib.hid (N1.out.below R5)
        have RW := Lib.hid (Below.step RW.out R5)
        have L1 := keepLim (L1.out _ R5)
        obtain ⟨q1, q2, -, -⟩ := N1.out
        obtain ⟨q3, q4, -, -⟩ := N7.out
        clear hb5 hm5 hl5 n8 b5 R5 hne f3 f4 f5 f6 f1 f2 e2 e3 e4 hmk
        go_wp2_with fail
        clear e5
        have hp0 : (1000000000 : Int) ^ k ≠ 0 := Int.pow_ne_zero (by decide)
        refine (Div_num (HA.out _ (Below.refl _ _)) (HBY.out _ (Below.refl _ _)) (by decide) (by decide) hp0).mono ?_
        rintro e w6 ⟨⟨sq, aq, nq, cq, sr, ar, nr, cr, rfl, hq, hr, -, -⟩, hb6⟩
        obtain ⟨rfl, rfl, hlq⟩ := hq.is (quot_ok O1.out k)
        obtain ⟨rfl, rfl, hlr⟩ := hr.is (rest_ok O1.out k)
        obtain ⟨lq, elq⟩ : ∃ lq, l1.drop k = lq := ⟨_, rfl⟩
        obtain ⟨lr, elr⟩ : ∃ lr, trimL (l1.take k) = lr := ⟨_, rfl⟩
        rw [elq] at hlq
        rw [elr] at hlr
        rw [elq, elr]
        have ELQ := Lib.hid elq
        have ELR := Lib.hid elr
        obtain ⟨W6, e6, n9, n10, b6, -, -⟩ := box2 w6 (.bool false) (.slice aq lq.length cq) (.bool false) (.slice ar lr.length cr)
        have R6 := Below.step hb6 b6
        have LQ := keepLim (hlq.below b6)
        have LR := keepLim (hlr.below b6)
        have LW := keepLim (LW.out _ R6)
        have N8 := Lib.hid (N8.out.below R6)
        have N9 := Lib.hid n9
        have N10 := Lib.hid n10
        have N1 := Lib.hid (N1.out.below R6)
        have RW := Lib.hid (Below.step RW.out R6)
        have L1 := keepLim (L1.out _ R6)
        obtain ⟨q1, q2, -, -⟩ := N1.out
        clear hq hr hlq hlr elq elr n9 n10 b6 hb6 R6 HA HBY N7 hp0
        go_wp2_with fail
        clear e6
        refine (Text_any false _ l1 _ (L1.out _ (Below.refl _ _)) (by have := HB.out; omega) (T0.out _ RW.out)).mono ?_
        rintro e w7 ⟨rfl, hb7⟩
        rw [txt_fit O1.out]
        have LQ := keepLim (LQ.out _ hb7)
        have LR := keepLim (LR.out _ hb7)
        have LW := keepLim (LW.out _ hb7)
        have N8 := Lib.hid (N8.out.below hb7)
        have N9 := Lib.hid (N9.out.below hb7)
        have N10 := Lib.hid (N10.out.below hb7)
        have N1 := Lib.hid (N1.out.below hb7)
        have RW := Lib.hid (Below.step RW.out hb7)
        have L1 := keepLim (L1.out _ hb7)
        clear hb7 q1 q2 q3 q4 p1 p2
        go_wp2_with fail
        have htl : (txt false l1).length ≤ 2000 := txt_short (okB_iff.1 O1.out).1 (by have := HB.out; omega)
        go_loopw [12, 13] (fun o i wr => wr = w7 ∧ ∃ j : Nat, j ≤ k ∧ i = .int .i64 j ∧ o = .string ⟨(txt false l1 ++ List.replicate (9 * j) 48).toArray⟩) (fun _ i _ => k - (intOf i).toNat)
        case atStart => exact ⟨rfl, 0, Nat.zero_le _, rfl, by simp⟩
        case round =>
          obtain ⟨rfl, j, hj, rfl, rfl⟩ := hrel
          by_cases hlt : j < k
          · have hI3 : ((j : Int) < (k : Int)) = True := eq_true (by omega)
            go_wp2_with fail
            exact ⟨⟨trivial, j + 1, by omega, by go_num, congrArg Value.string (nine_bytes _ _)⟩, by simp [intOf]; omega⟩
          · obtain rfl : j = k := by omega
            clear hlt hj
            have hw := wide_length j l1
            obtain ⟨b5, o5, rfl, hc5, hm5⟩ := (LW.out _ (Below.refl _ _)).some (by rw [hw]; have := HPOS.out; omega)
            have LD := (LW.out _ (Below.refl _ _)).drop (k := j) (by omega)
            rw [wide_drop, hw, Nat.add_sub_cancel_left] at LD
            have LD := keepLim LD
            obtain ⟨S, hS⟩ : ∃ S, (⟨(txt false l1 ++ List.replicate (9 * j) 48).toArray⟩ : ByteArray) = S := ⟨_, rfl⟩
            rw [hS]
            have HC5 := Lib.hid hc5
            have HM5 := Lib.hid hm5
            have HW := Lib.hid hw
            have HS := Lib.hid hS
            clear hc5 hm5 hw hS
            obtain ⟨q8, q9, -, -⟩ := N8.out
            go_wp2_with fail
            refine (Text_any false _ (wideL j l1) _ (LW.out _ (Below.refl _ _)) (by rw [HW.out]; have := HB.out; have := HK.out; omega) (T0.out _ RW.out)).mono ?_
            rintro e w8 ⟨rfl, hb8⟩
            rw [txt_fit (wide_ok O1.out HNE.out).1, txt_wide (okB_iff.1 O1.out).2.1 HNE.out, HS.out]
            have N8 := Lib.hid (N8.out.below hb8)
            have LD := keepLim (LD.out _ hb8)
            have R8 := Lib.hid hb8
            obtain ⟨q8, q9, -, -⟩ := N8.out
            have hneq : (((wideL j l1).length : Int) != (l1.length : Int) + (j : Int)) = false := by
              rw [HW.out, bne_eq_false_iff_eq]
              omega
            clear hb8
            have HTL := Lib.hid htl
            have hlen := HW.out
            have hc5 := HC5.out
            have hm5 : c5 ≤ 9223372036854775807 := HM5.out
            have hcj : ¬ c5 = j := by have := HPOS.out; omega
            clear htl
            go_upto_region 16 with fail
            try (case isTrue.inl => omega)
            refine (SameLimbs_any _ _ l1 l1 _ (LD.out _ (Below.refl _ _)) (L1.out _ R8.out)).mono ?_
            rintro e w9 ⟨rfl, d9, hw9⟩
            rw [show decide (l1 = l1) = true from decide_eq_true rfl]
            have b9 : Below w8.heap.size w8 w9 := by rw [hw9]; exact below_of_drewN _ _
            have R9 := Below.step R8.out b9
            have LQ := keepLim (LQ.out _ R9)
            have LR := keepLim (LR.out _ R9)
            have N9 := Lib.hid (N9.out.below R9)
            have N10 := Lib.hid (N10.out.below R9)
            have N1 := Lib.hid (N1.out.below R9)
            have RW := Lib.hid (Below.step RW.out R9)
            have L1 := keepLim (L1.out _ R9)
            clear hw9 b9 R9 R8 hneq hc5 hm5 HM5 HC5 hlen
            obtain ⟨x1, x2, -, -⟩ := N1.out
            obtain ⟨x3, x4, -, -⟩ := N9.out
            obtain ⟨x5, x6, -, -⟩ := N10.out
            by_cases hge : l1.length ≤ j
            · have eq0 : lq = [] := by rw [← ELQ.out]; exact List.drop_eq_nil_of_le hge
              have er : lr = l1 := by rw [← ELR.out, List.take_of_length_le hge]; exact trimL_of_top (okB_iff.1 O1.out).2.1
              subst eq0
              subst er
              have hI4 : ((j : Int) ≥ (lr.length : Int)) = True := eq_true (by omega)
              go_wp2_with fail
              have hb : lr.length ≤ 60 := HB.out
              have HR : OkAt w9 (.agg #[.bool false, .slice ar lr.length cr]) 60 (valS false lr) := ⟨_, _, _, rfl, LR.out _ (Below.refl _ _), O1.out, rfl, hb⟩
              have HA : OkAt w9 (.agg #[.bool false, .slice a1 lr.length c1]) 60 (valS false lr) := ⟨_, _, _, rfl, L1.out _ (Below.refl _ _), O1.out, rfl, hb⟩
              refine (Same_num HR HA true (decide_eq_true rfl)).mono ?_
              rintro e w10 ⟨rfl, hb10⟩
              have RW := Lib.hid (Below.step RW.out hb10)
              clear hb10 HR HA hb
              go_wp2_with fail
              go_ret
              exact ⟨rfl, RW.out⟩
            · have hI4 : ((j : Int) ≥ (l1.length : Int)) = False := eq_false (by omega)
              obtain ⟨b1, o1, rfl, hc1, hm1⟩ := (L1.out _ (Below.refl _ _)).some HPOS.out
              have HC1 := Lib.hid hc1
              have HM1 := Lib.hid hm1
              clear hc1 hm1
              go_wp2_with fail
              go_loopw [14] (fun o wx => wx = w9 ∧ ∃ low : Nat, low ≤ j ∧ o = .int .i64 low ∧ trimL (l1.take low) = lr) (fun o _ => (intOf o).toNat)
              case atStart => exact ⟨rfl, j, Nat.le_refl _, rfl, ELR.out⟩
              case round =>
                obtain ⟨rfl, low, hlow, rfl, htr⟩ := hrel
                rcases Nat.eq_zero_or_pos low with h0 | hp
                · subst h0
                  have HTR := Lib.hid htr
                  clear htr
                  go_upto_region 21 with fail
                  have hc1 := HC1.out
                  have hm1 : c1 ≤ 9223372036854775807 := HM1.out
                  have hcj : ¬ c1 = j := by omega
                  have hj0 : (0 : Int) ≤ (j : Int) := by omega
                  have hj1 : (j : Int) ≤ (l1.length : Int) := by omega
                  have hj2 : (l1.length : Int) ≤ (c1 : Int) := by omega
                  have hj3 : (j : Int) ≤ (c1 : Int) := by omega
                  have hjn : j ≤ l1.length := by omega
                  have hjc : j ≤ c1 := by omega
                  have LDK := (L1.out _ (Below.refl _ _)).drop (k := j) (by omega)
                  rw [ELQ.out] at LDK
                  have LDK := keepLim LDK
                  have LF := (L1.out _ (Below.refl _ _)).front (k := 0) (by simp) (by omega)
                  rw [← low_zero, HTR.out] at LF
                  have LF := keepLim LF
                  go_region_held3 (fun W => W.cell? ⟨w6.heap.size, 0, none⟩ = some (.bool false) ∧ W.cell? ⟨w6.heap.size, 1, none⟩ = some (.slice aq lq.length cq) ∧ W.cell? ⟨w6.heap.size + 1, 0, none⟩ = some (.bool false) ∧ W.cell? ⟨w6.heap.size + 1, 1, none⟩ = some (.slice ar lr.length cr)) (first | exact ⟨x3, x4, x5, x6⟩ | exact ⟨y3, y4, y5, y6⟩ | exact ⟨z3, z4, z5, z6⟩)
                    (first
                      | (go_at_call 29; (with_reducible refine (SameLimbs_yes (.slice aq lq.length cq) (.slice (some ⟨b1, o1 + j, none⟩) (l1.length - j) (c1 - j)) lq _ (LQ.out _ (by repeat (first | exact Below.refl _ _ | with_reducible refine Below.drew ?_ | with_reducible refine below_drewN ?_ _ | with_reducible refine Below.setCell ?_ (by first | (simp; done) | (simp; omega) | omega) _ | with_reducible refine Below.alloc ?_ (by first | (simp; done) | (simp; omega) | omega) _))) (LDK.out _ (by repeat (first | exact Below.refl _ _ | with_reducible refine Below.drew ?_ | with_reducible refine below_drewN ?_ _ | with_reducible refine Below.setCell ?_ (by first | (simp; done) | (simp; omega) | omega) _ | with_reducible refine Below.alloc ?_ (by first | (simp; done) | (simp; omega) | omega) _)))).mono ?_); rintro e wA ⟨rfl, hbA0⟩; have hbA := Below.undrew' hbA0; obtain ⟨y3, y4, -, -⟩ := N9.out.below hbA; obtain ⟨y5, y6, -, -⟩ := N10.out.below hbA)
                      | (go_at_call 29; (with_reducible refine (SameLimbs_yes (.slice ar lr.length cr) (.slice (some ⟨b1, o1, none⟩) (0) c1) lr _ (LR.out _ (by repeat (first | exact Below.refl _ _ | with_reducible refine Below.drew ?_ | with_reducible refine below_drewN ?_ _ | with_reducible refine Below.setCell ?_ (by first | (simp; done) | (simp; omega) | omega) _ | with_reducible refine Below.alloc ?_ (by first | (simp; done) | (simp; omega) | omega) _ | (with_reducible refine Below.step ?_ hbA)))) (LF.out _ (by repeat (first | exact Below.refl _ _ | with_reducible refine Below.drew ?_ | with_reducible refine below_drewN ?_ _ | with_reducible refine Below.setCell ?_ (by first | (simp; done) | (simp; omega) | omega) _ | with_reducible refine Below.alloc ?_ (by first | (simp; done) | (simp; omega) | omega) _ | (with_reducible refine Below.step ?_ hbA))))).mono ?_); rintro e wB ⟨rfl, hbB⟩; obtain ⟨z3, z4, -, -⟩ := (N9.out.below hbA).below hbB; obtain ⟨z5, z6, -, -⟩ := (N10.out.below hbA).below hbB))
                  all_goals
                    go_wp2_with fail
                    go_ret
                    exact ⟨rfl, Below.step RW.out (Below.step hbA hbB)⟩
                · obtain ⟨m, rfl⟩ : ∃ m, low = m + 1 := ⟨low - 1, by omega⟩
                  have hI5 : (((m + 1 : Nat) : Int) - 1) = (m : Int) := by omega
                  have hI6 : (((m + 1 : Nat) : Int) > 0) = True := eq_true (by omega)
                  have hcell := (L1.out _ (Below.refl _ _)).at (i := m) (by omega)
                  have HTR := Lib.hid htr
                  clear htr
                  by_cases hz : pt l1 m = 0
                  · rw [hz] at hcell
                    go_wp2_with fail
                    exact ⟨⟨trivial, m, by omega, rfl, by rw [← HTR.out, trimL_take_zero (by omega) hz]⟩, by simp [intOf]⟩
                  · have hI7 : (((pt l1 m : Nat) : Int) == 0) = false := by rw [beq_eq_false_iff_ne]; omega
                    go_upto_region 21 with fail
                    have hc1 := HC1.out
                    have hm1 : c1 ≤ 9223372036854775807 := HM1.out
                    have hcj : ¬ c1 = j := by omega
                    have hj0 : (0 : Int) ≤ (j : Int) := by omega
                    have hj1 : (j : Int) ≤ (l1.length : Int) := by omega
                    have hj2 : (l1.length : Int) ≤ (c1 : Int) := by omega
                    have hj3 : (j : Int) ≤ (c1 : Int) := by omega
                    have hm5 : (0 : Int) ≤ (m : Int) + 1 := by omega
                    have hm6 : (m : Int) + 1 ≤ (c1 : Int) := by omega
                    have hm7 : (m : Int) + 1 ≤ (l1.length : Int) := by omega
                    have hjn : j ≤ l1.length := by omega
                    have hjc : j ≤ c1 := by omega
                    have LDK := (L1.out _ (Below.refl _ _)).drop (k := j) (by omega)
                    rw [ELQ.out] at LDK
                    have LDK := keepLim LDK
                    have LF := (L1.out _ (Below.refl _ _)).front (k := m + 1) (by simp) (by omega)
                    rw [← trimL_take_pos (by omega) hz, HTR.out] at LF
                    have LF := keepLim LF
                    go_region_held3 (fun W => W.cell? ⟨w6.heap.size, 0, none⟩ = some (.bool false) ∧ W.cell? ⟨w6.heap.size, 1, none⟩ = some (.slice aq lq.length cq) ∧ W.cell? ⟨w6.heap.size + 1, 0, none⟩ = some (.bool false) ∧ W.cell? ⟨w6.heap.size + 1, 1, none⟩ = some (.slice ar lr.length cr)) (first | exact ⟨x3, x4, x5, x6⟩ | exact ⟨y3, y4, y5, y6⟩ | exact ⟨z3, z4, z5, z6⟩)
                      (first
                        | (go_at_call 29; (with_reducible refine (SameLimbs_yes (.slice aq lq.length cq) (.slice (some ⟨b1, o1 + j, none⟩) (l1.length - j) (c1 - j)) lq _ (LQ.out _ (by repeat (first | exact Below.refl _ _ | with_reducible refine Below.drew ?_ | with_reducible refine below_drewN ?_ _ | with_reducible refine Below.setCell ?_ (by first | (simp; done) | (simp; omega) | omega) _ | with_reducible refine Below.alloc ?_ (by first | (simp; done) | (simp; omega) | omega) _))) (LDK.out _ (by repeat (first | exact Below.refl _ _ | with_reducible refine Below.drew ?_ | with_reducible refine below_drewN ?_ _ | with_reducible refine Below.setCell ?_ (by first | (simp; done) | (simp; omega) | omega) _ | with_reducible refine Below.alloc ?_ (by first | (simp; done) | (simp; omega) | omega) _)))).mono ?_); rintro e wA ⟨rfl, hbA0⟩; have hbA := Below.undrew' hbA0; obtain ⟨y3, y4, -, -⟩ := N9.out.below hbA; obtain ⟨y5, y6, -, -⟩ := N10.out.below hbA)
                        | (go_at_call 29; (with_reducible refine (SameLimbs_yes (.slice ar lr.length cr) (.slice (some ⟨b1, o1, none⟩) (m + 1) c1) lr _ (LR.out _ (by repeat (first | exact Below.refl _ _ | with_reducible refine Below.drew ?_ | with_reducible refine below_drewN ?_ _ | with_reducible refine Below.setCell ?_ (by first | (simp; done) | (simp; omega) | omega) _ | with_reducible refine Below.alloc ?_ (by first | (simp; done) | (simp; omega) | omega) _ | (with_reducible refine Below.step ?_ hbA)))) (LF.out _ (by repeat (first | exact Below.refl _ _ | with_reducible refine Below.drew ?_ | with_reducible refine below_drewN ?_ _ | with_reducible refine Below.setCell ?_ (by first | (simp; done) | (simp; omega) | omega) _ | with_reducible refine Below.alloc ?_ (by first | (simp; done) | (simp; omega) | omega) _ | (with_reducible refine Below.step ?_ hbA))))).mono ?_); rintro e wB ⟨rfl, hbB⟩; obtain ⟨z3, z4, -, -⟩ := (N9.out.below hbA).below hbB; obtain ⟨z5, z6, -, -⟩ := (N10.out.below hbA).below hbB))
                    all_goals
                      go_wp2_with fail
                      go_ret
                      exact ⟨rfl, Below.step RW.out (Below.step hbA hbB)⟩

end Go.Proofs.YtejlhefjphiahaaDoor
