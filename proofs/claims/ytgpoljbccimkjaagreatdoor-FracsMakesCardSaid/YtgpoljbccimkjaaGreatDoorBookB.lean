/- The book of memory: all lists that are kept are apart. -/
import Derived.Test.YtgpoljbccimkjaaGreatDoorBook9
import Derived.Test.YtgpoljbccimkjaaGreatDoorRefK
namespace Go.Proofs.YtgpoljbccimkjaaGreatDoor
set_option linter.unusedSimpArgs false
set_option linter.unusedVariables false
open Go.RowKit Go.Shelf

set_option maxRecDepth 100000 in
set_option maxHeartbeats 2000000 in
theorem lookLimb_any (n0 B p r cr : Nat) (E E' : List Ent) (F : Nat → List Nat) (w : World) (hG : GrownAt w n0 B p r cr E E' F E.length) (hcr : cr ≤ maxLen) (hE : E.length ≤ 1000) (hF : ∀ i, (F i).length ≤ 1000000) (hM : ∀ i, i < E.length → ∀ k, k < (F i).length → pt (F i) k = 1001 + i) :
    Calls Tryz.prog 111 #[.pointer (some ⟨p, 0, none⟩)] w fun e w' => e = .returned (.bool true) ∧ Below w.heap.size w w' := by
  have HG := Lib.hid hG
  have HF := Lib.hid hF
  have HM := Lib.hid hM
  have hEl : E'.length = E.length := hG.1
  unfold maxLen at hcr
  clear hG hF hM
  go_enter Tryz.func111, Tryz.ntmps111
  go_wp2
  go_loopw [3] (fun ii wr => ∃ i : Nat, i ≤ E.length ∧ ii = .int .i64 i ∧ Below w.heap.size w wr) (fun i _ => E.length - (intOf i).toNat)
  case atStart => exact ⟨0, Nat.zero_le _, rfl, Below.refl _ _⟩
  case round =>
    obtain ⟨i, hi, rfl, hB⟩ := hrel
    have HB := Lib.hid hB
    have hbk := HG.out.2.1.below hB
    have c2 := hbk.1.at2
    rw [hEl] at c2
    by_cases hlt : i < E.length
    · obtain ⟨e, he⟩ : ∃ e, E[i]? = some e := ⟨E[i], List.getElem?_eq_getElem hlt⟩
      obtain ⟨u, hu, hGE⟩ := HG.out.2.2 i e he
      obtain ⟨hv, hg, -⟩ := hGE.1 hlt
      obtain ⟨q0, q1, q2⟩ := row_cell hbk.2.1 hu
      have hltI : (i : Int) < (E.length : Int) := by omega
      have hpt : Hid (∀ k, k < (F i).length + 40 → pt (F i ++ List.replicate 40 (1001 + i)) k = 1001 + i) := fun k hk => by
        rcases Nat.lt_or_ge k (F i).length with h | h
        · rw [pt_append_left h]
          exact HM.out i hlt k h
        · rw [pt_append_right h]
          unfold pt
          rw [List.getD_eq_getElem?_getD, List.getElem?_replicate, if_pos (by omega)]
          rfl
      have hv2 := hv.below hB
      have hg2 := hg.below hB
      have hFi := HF.out i
      obtain ⟨av, cv, hev, hv3⟩ : ∃ av cv, e.v = .slice av (F i).length cv ∧ Lim wr (.slice av (F i).length cv) (F i) := by
        have h0 := hv2
        obtain ⟨x, y, h2, -⟩ := h0
        rw [h2] at hv2
        exact ⟨x, y, h2, hv2⟩
      obtain ⟨au, cu, heu, hg3⟩ : ∃ au cu, u = .slice au ((F i).length + 40) cu ∧ Lim wr (.slice au ((F i).length + 40) cu) (F i ++ List.replicate 40 (1001 + i)) := by
        have h0 := hg2
        obtain ⟨x, y, h2, -⟩ := h0
        rw [h2] at hg2
        rw [List.length_append, List.length_replicate] at h2 hg2
        exact ⟨x, y, h2, hg2⟩
      subst heu
      simp only [hev] at q0 q1 q2
      have HV := hv3.at
      have HU := hg3.at
      have hne : (((F i).length : Int) + 40 != ((F i).length : Int) + 40) = false := by simp
      clear hv hg hv2 hg2 hbk he hGE hB hu hv3 hg3
      go_wp2
      obtain ⟨W1, e1, hbx, hw1, hs1⟩ : ∃ W1, wr.alloc (.cells #[.slice av (F i).length cv, .slice au ((F i).length + 40) cu, .int .i64 ((i : Int) + 1)] 138) = W1 ∧ BoxV W1 wr.heap.size [.slice av (F i).length cv, .slice au ((F i).length + 40) cu, .int .i64 ((i : Int) + 1)] ∧ Hid (Below wr.heap.size wr W1) ∧ wr.heap.size < W1.heap.size :=
        ⟨_, rfl, BoxV.new _ _ _, (Below.refl _ _).alloc (Nat.le_refl _) _, by simp⟩
      rw [e1]
      have HBX := Lib.hid hbx
      clear e1 hbx c2 q0 q1 q2
      have HV1 : Hid (∀ k, k < (F i).length → ∃ b o, av = some ⟨b, o, none⟩ ∧ ∀ W, Below W1.heap.size W1 W → W.cell? ⟨b, o + k, none⟩ = some (.int .u32 (pt (F i) k))) := fun k hk => by
        obtain ⟨b, o, h1, -, h2⟩ := HV.out k hk
        exact ⟨b, o, h1, fun W hb => h2 W (Below.step hw1.out hb)⟩
      have HU1 : Hid (∀ k, k < (F i).length + 40 → ∃ b o, au = some ⟨b, o, none⟩ ∧ ∀ W, Below W1.heap.size W1 W → W.cell? ⟨b, o + k, none⟩ = some (.int .u32 (pt (F i ++ List.replicate 40 (1001 + i)) k))) := fun k hk => by
        obtain ⟨b, o, h1, -, h2⟩ := HU.out k (by simp; exact hk)
        exact ⟨b, o, h1, fun W hb => h2 W (Below.step hw1.out hb)⟩
      have HB1 := Lib.hid (Below.step HB.out hw1.out)
      clear HV HU
      go_loopw [5] (fun kk wr2 => ∃ k : Nat, k ≤ (F i).length + 40 ∧ kk = .int .i64 k ∧ Below W1.heap.size W1 wr2) (fun kk _ => (F i).length + 40 - (intOf kk).toNat)
      case atStart => exact ⟨0, by omega, rfl, Below.refl _ _⟩
      case round =>
        obtain ⟨k, hk, rfl, hb2⟩ := hrel
        have HB2 := Lib.hid hb2
        have hx := HBX.out.below hb2
        have x0 := hx.at0
        have x1 := hx.at1
        have x2 := hx.at2
        clear hb2 hx
        by_cases hkl : k < (F i).length + 40
        · obtain ⟨bu, ou, rfl, hcu⟩ := HU1.out k hkl
          have y1 := hcu _ HB2.out.drew
          rw [hpt.out k hkl] at y1
          have y1' := hcu _ HB2.out
          rw [hpt.out k hkl] at y1'
          have hkI : (k : Int) < ((F i).length : Int) + 40 := by omega
          clear hcu
          by_cases hk2 : k < (F i).length
          · obtain ⟨bv, ov, rfl, hcv⟩ := HV1.out k hk2
            have y2 := hcv _ HB2.out
            rw [show pt (F i) k = 1001 + i from HM.out i hlt k hk2] at y2
            have hk2I : (k : Int) < ((F i).length : Int) := by omega
            clear hcv
            go_upto_region 10 with fail
            rename_i K9 hK9
            refine wp_region_still_lit (by kernel_rfl) (by kernel_rfl) ?_
            repeat still_step
            still_call (is_still i _ (by omega))
            repeat still_step
            still_call (is_still i _ (by omega))
            repeat still_step
            refine wpStill_nil ?_
            change Exit.then _ _ _ _ (World.drew _)
            refine hK9 _ _ ?_
            go_wp2
            exact ⟨⟨k + 1, by omega, by go_num, HB2.out.drew⟩, by simp [intOf]; omega⟩
          · have hk2I : ¬ (k : Int) < ((F i).length : Int) := by omega
            go_upto_region 10 with fail
            rename_i K9 hK9
            refine wp_region_still_lit (by kernel_rfl) (by kernel_rfl) ?_
            repeat still_step
            still_call (is_still i _ (by omega))
            iterate 8 still_step
            iterate 11 (with_reducible refine wpStill_step (fun K hK => ?_); go_simp; with_reducible refine hK _ ?_; clear hK K)
            refine wpStill_nil ?_
            change Exit.then _ _ _ _ (World.drew _)
            refine hK9 _ _ ?_
            go_wp2
            exact ⟨⟨k + 1, by omega, by go_num, HB2.out.drew⟩, by simp [intOf]; omega⟩
        · obtain rfl : k = (F i).length + 40 := by omega
          go_wp2
          exact ⟨⟨i + 1, by omega, by go_num, Below.step HB1.out HB2.out⟩, by simp [intOf]; omega⟩
    · obtain rfl : i = E.length := by omega
      clear hbk hB
      go_wp2
      go_ret
      exact ⟨rfl, HB.out⟩

end Go.Proofs.YtgpoljbccimkjaaGreatDoor

namespace Go.Proofs.YtgpoljbccimkjaaGreatDoor
set_option linter.unusedSimpArgs false
set_option linter.unusedVariables false
open Go.RowKit Go.Shelf

/-- The other kinds are not in it. -/
def Others (W : World) (p : Nat) : Prop := W.cell? ⟨p, 1, none⟩ = some (.slice none 0 0) ∧ W.cell? ⟨p, 3, none⟩ = some (.slice none 0 0) ∧ W.cell? ⟨p, 4, none⟩ = some (.slice none 0 0) ∧ W.cell? ⟨p, 5, none⟩ = some (.slice none 0 0) ∧ W.cell? ⟨p, 6, none⟩ = some (.slice none 0 0) ∧ W.cell? ⟨p, 7, none⟩ = some (.slice none 0 0) ∧ W.cell? ⟨p, 8, none⟩ = some (.slice none 0 0) ∧ W.cell? ⟨p, 9, none⟩ = some (.slice none 0 0) ∧ W.cell? ⟨p, 10, none⟩ = some (.slice none 0 0) ∧ W.cell? ⟨p, 11, none⟩ = some (.slice none 0 0) ∧ W.cell? ⟨p, 12, none⟩ = some (.slice none 0 0)
theorem BookAt.others {W : World} {B p : Nat} {vr : Value} {E : List Ent} (h : BookAt W B p vr E) : Others W p :=
  ⟨(h.1 1 (by simp)).1, (h.1 3 (by simp)).1, (h.1 4 (by simp)).1, (h.1 5 (by simp)).1, (h.1 6 (by simp)).1, (h.1 7 (by simp)).1, (h.1 8 (by simp)).1, (h.1 9 (by simp)).1, (h.1 10 (by simp)).1, (h.1 11 (by simp)).1, (h.1 12 (by simp)).1⟩
theorem fillF_done (F : Nat → List Nat) (n i : Nat) (hi : i < n) (k : Nat) (hk : k < (F i).length) : pt (fillF F n 0 i) k = 1001 + i := by
  unfold fillF
  rw [if_pos hi]
  unfold pt
  rw [List.getD_eq_getElem?_getD, List.getElem?_replicate, if_pos hk]
  rfl
theorem BookAt.cap {W : World} {B p r n cr : Nat} {E : List Ent} (h : BookAt W B p (.slice (some ⟨r, 0, none⟩) n cr) E) : cr ≤ maxLen := by
  rcases h.2.1.2 with ⟨h1, h2⟩ | ⟨g, cap, cur, h1, _, _, h3, h4, _⟩
  · cases h1
  · injection h1 with _ _ h1
    omega

set_option maxRecDepth 100000 in
set_option maxHeartbeats 4000000 in
theorem Apart_any (n0 B p : Nat) (vr : Value) (E : List Ent) (F : Nat → List Nat) (w : World) (hb : BookAt w B p vr E) (hE0 : 0 < E.length) (hh : Hold w n0 B E F) (hs : Sep E) (hn : ∀ i e, E[i]? = some e → e.n = i + 1 ∧ e.g = nil0) (hE : E.length ≤ 1000) (hF : ∀ i, (F i).length ≤ 1000000) (h0 : n0 ≤ B) (hB : B ≤ w.heap.size) :
    Calls Tryz.prog 23 #[.pointer (some ⟨p, 0, none⟩)] w fun e w' => e = .returned (.bool true) ∧ Below n0 w w' := by
  have HBK := Lib.hid hb
  have HH := Lib.hid hh
  have HS := Lib.hid hs
  have HN := Lib.hid hn
  have HF := Lib.hid hF
  have HO := Lib.hid hb.others
  clear hb hh hs hn hF
  go_enter Tryz.func23, Tryz.ntmps23
  go_wp2_with fail
  refine (fillByte_none p _ HO.out.1).mono ?_
  rintro e w9 ⟨rfl, rfl⟩
  go_wp2_with fail
  refine (fillLimb_any n0 B p vr E F _ HBK.out HH.out HS.out HN.out hE HF.out h0 hB).mono ?_
  rintro e w1 ⟨rfl, hb, hh, hb1⟩
  have HBK1 := Lib.hid hb
  have HH1 := Lib.hid hh
  have HB1 := Lib.hid hb1
  have HO := Lib.hid hb.others
  have hz1 := hb1.size
  clear hb hh hb1
  go_wp2_with fail
  refine (fillText_none p _ HO.out.2.1).mono ?_
  rintro e w9 ⟨rfl, rfl⟩
  go_wp2_with fail
  refine (fillToken_none p _ HO.out.2.2.1).mono ?_
  rintro e w9 ⟨rfl, rfl⟩
  go_wp2_with fail
  refine (fillNum_none p _ HO.out.2.2.2.1).mono ?_
  rintro e w9 ⟨rfl, rfl⟩
  go_wp2_with fail
  refine (fillTerm_none p _ HO.out.2.2.2.2.1).mono ?_
  rintro e w9 ⟨rfl, rfl⟩
  go_wp2_with fail
  refine (fillFactor_none p _ HO.out.2.2.2.2.2.1).mono ?_
  rintro e w9 ⟨rfl, rfl⟩
  go_wp2_with fail
  refine (fillNode_none p _ HO.out.2.2.2.2.2.2.1).mono ?_
  rintro e w9 ⟨rfl, rfl⟩
  go_wp2_with fail
  refine (fillFunc_none p _ HO.out.2.2.2.2.2.2.2.1).mono ?_
  rintro e w9 ⟨rfl, rfl⟩
  go_wp2_with fail
  refine (fillValue_none p _ HO.out.2.2.2.2.2.2.2.2.1).mono ?_
  rintro e w9 ⟨rfl, rfl⟩
  go_wp2_with fail
  refine (fillInstr_none p _ HO.out.2.2.2.2.2.2.2.2.2.1).mono ?_
  rintro e w9 ⟨rfl, rfl⟩
  go_wp2_with fail
  refine (fillChunk_none p _ HO.out.2.2.2.2.2.2.2.2.2.2).mono ?_
  rintro e w9 ⟨rfl, rfl⟩
  go_wp2_with fail
  refine (growByte_none p _ HO.out.1).mono ?_
  rintro e w9 ⟨rfl, rfl⟩
  go_wp2_with fail
  refine (growLimb_any n0 B p vr E (fillF F E.length 0) _ HBK1.out hE0 HH1.out HS.out HN.out hE (fun i => by rw [fillF_length F E.length 0 i (Nat.zero_le _)]; exact HF.out i) h0 (by omega)).mono ?_
  rintro e w2 ⟨rfl, ⟨r, cr, E2, hg⟩, hb2⟩
  have HG := Lib.hid hg
  have HB2 := Lib.hid (HB1.out.trans (hb2.mono (by omega)))
  have HO := Lib.hid hg.2.1.others
  clear hg hb2
  go_wp2_with fail
  refine (growText_none p _ HO.out.2.1).mono ?_
  rintro e w9 ⟨rfl, rfl⟩
  go_wp2_with fail
  refine (growToken_none p _ HO.out.2.2.1).mono ?_
  rintro e w9 ⟨rfl, rfl⟩
  go_wp2_with fail
  refine (growNum_none p _ HO.out.2.2.2.1).mono ?_
  rintro e w9 ⟨rfl, rfl⟩
  go_wp2_with fail
  refine (growTerm_none p _ HO.out.2.2.2.2.1).mono ?_
  rintro e w9 ⟨rfl, rfl⟩
  go_wp2_with fail
  refine (growFactor_none p _ HO.out.2.2.2.2.2.1).mono ?_
  rintro e w9 ⟨rfl, rfl⟩
  go_wp2_with fail
  refine (growNode_none p _ HO.out.2.2.2.2.2.2.1).mono ?_
  rintro e w9 ⟨rfl, rfl⟩
  go_wp2_with fail
  refine (growFunc_none p _ HO.out.2.2.2.2.2.2.2.1).mono ?_
  rintro e w9 ⟨rfl, rfl⟩
  go_wp2_with fail
  refine (growValue_none p _ HO.out.2.2.2.2.2.2.2.2.1).mono ?_
  rintro e w9 ⟨rfl, rfl⟩
  go_wp2_with fail
  refine (growInstr_none p _ HO.out.2.2.2.2.2.2.2.2.2.1).mono ?_
  rintro e w9 ⟨rfl, rfl⟩
  go_wp2_with fail
  refine (growChunk_none p _ HO.out.2.2.2.2.2.2.2.2.2.2).mono ?_
  rintro e w9 ⟨rfl, rfl⟩
  go_wp2_with fail
  refine (lookByte_none p _ HO.out.1).mono ?_
  rintro e w9 ⟨rfl, rfl⟩
  go_wp2_with fail
  refine (lookLimb_any n0 B p r cr E E2 (fillF F E.length 0) _ HG.out HG.out.2.1.cap hE (fun i => by rw [fillF_length F E.length 0 i (Nat.zero_le _)]; exact HF.out i) (fun i hi k hk => fillF_done F _ i hi k (by rwa [fillF_length F E.length 0 i (Nat.zero_le _)] at hk))).mono ?_
  rintro e w3 ⟨rfl, hb3⟩
  have HB3 := Lib.hid (HB2.out.trans (hb3.mono (by have := HB2.out.size; omega)))
  have HO := Lib.hid (HG.out.2.1.below hb3).others
  clear hb3
  go_wp2_with fail
  refine (lookText_none p _ HO.out.2.1).mono ?_
  rintro e w9 ⟨rfl, rfl⟩
  go_wp2_with fail
  refine (lookToken_none p _ HO.out.2.2.1).mono ?_
  rintro e w9 ⟨rfl, rfl⟩
  go_wp2_with fail
  refine (lookNum_none p _ HO.out.2.2.2.1).mono ?_
  rintro e w9 ⟨rfl, rfl⟩
  go_wp2_with fail
  refine (lookTerm_none p _ HO.out.2.2.2.2.1).mono ?_
  rintro e w9 ⟨rfl, rfl⟩
  go_wp2_with fail
  refine (lookFactor_none p _ HO.out.2.2.2.2.2.1).mono ?_
  rintro e w9 ⟨rfl, rfl⟩
  go_wp2_with fail
  refine (lookNode_none p _ HO.out.2.2.2.2.2.2.1).mono ?_
  rintro e w9 ⟨rfl, rfl⟩
  go_wp2_with fail
  refine (lookFunc_none p _ HO.out.2.2.2.2.2.2.2.1).mono ?_
  rintro e w9 ⟨rfl, rfl⟩
  go_wp2_with fail
  refine (lookValue_none p _ HO.out.2.2.2.2.2.2.2.2.1).mono ?_
  rintro e w9 ⟨rfl, rfl⟩
  go_wp2_with fail
  refine (lookInstr_none p _ HO.out.2.2.2.2.2.2.2.2.2.1).mono ?_
  rintro e w9 ⟨rfl, rfl⟩
  go_wp2_with fail
  refine (lookChunk_none p _ HO.out.2.2.2.2.2.2.2.2.2.2).mono ?_
  rintro e w9 ⟨rfl, rfl⟩
  go_wp2_with fail
  go_ret
  exact ⟨rfl, HB3.out⟩

end Go.Proofs.YtgpoljbccimkjaaGreatDoor
