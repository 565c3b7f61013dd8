/- Walk of the reference of layer 1: the greatest by which two numbers can be divided. -/
import Derived.Test.YtgpoljbccimkjaaGreatDoorRefQ
import Derived.Test.YtgpoljbccimkjaaGreatDoorBook9
import Derived.Test.YtgpoljbccimkjaaGreatDoorRefL
import Derived.Test.YtgpoljbccimkjaaGreatDoorFrac
namespace Go.Proofs.YtgpoljbccimkjaaGreatDoor
set_option linter.unusedSimpArgs false
set_option linter.unusedVariables false
open Go.RowKit Go.Shelf

/-- What block g holds, as an amount of n parts. -/
def frontVal (W : World) (g n : Nat) : Nat := val ((List.range n).map fun i => match W.cell? ⟨g, i, none⟩ with | some (.int _ x) => x.toNat | _ => 0)
theorem Front.frontVal {W : World} {g c : Nat} {L : List Nat} (h : Front W g c L) : Go.Proofs.YtgpoljbccimkjaaGreatDoor.frontVal W g L.length = val L := by
  unfold Go.Proofs.YtgpoljbccimkjaaGreatDoor.frontVal
  congr 1
  apply List.ext_getElem
  · simp
  · intro i h1 h2
    simp only [List.getElem_map, List.getElem_range]
    rw [h.cell h2]
    simp [pt_getElem h2]

def IsVL (u : Value) (l : List Nat) (v : Value) (w : World) : Prop := v = u ∧ Lim w v l
theorem IsVL.grows (u : Value) (l : List Nat) : Grows (IsVL u l) := fun _ _ _ h hb => ⟨h.1, h.2.below hb⟩

section
variable {bs : List (Nat × Bool)} {fs : List (Nat × (Value → World → Prop))} {w0 : World} {d : Nat} {ty : TypeId} {pos : String} {af : Array Edge} {g : Option (Nat × Bool)}
set_option maxRecDepth 100000 in
theorem step_callkx {f : FuncId} (hp : Plain f) {k : Value} {x : Nat} {ts : Array TypeId} (h : ∀ u w, Below w0.heap.size w0 w → Known bs fs x u w → Calls Tryz.prog f #[k, u] w fun e w' => (∃ r, e = .returned r ∧ Known bs fs d r w') ∧ Below w.heap.size w w') : StepOk Tryz.prog bs fs w0 ⟨some d, .call { callee := .value (.func f), args := #[.const k, .tmp x], argTypes := ts }, ty, pos, af, g⟩ :=
  step_enter rfl (fun a => #[k, a.eval (.tmp x)]) (fun a w => by rw [exec_call hp a]; simp [Act.eval]) fun a w hb hk => h _ w hb (hk x (by simp [looks, Op.operands, Call.operands]))
theorem step_eqU {x : Nat} {t' : TypeId} {m k : Int} {b : Bool} (hx : ∀ v w, Known bs fs x v w → v = .int .u64 m) (hb' : (m == k) = b) (h : ∀ w, Known bs fs d (.bool b) w) : StepOk Tryz.prog bs fs w0 ⟨some d, .binOp .eql 100 (.tmp x) (.const (.int .u64 k)) t', ty, pos, af, g⟩ :=
  step_value rfl fun a w hb hk => ⟨.bool b, w, by
    have h1 := hx _ _ (hk x (by simp [looks, Op.operands]))
    have h2 : a.eval (.const (.int .u64 k)) = .int .u64 k := rfl
    simp only [execOp, h1, h2, ← hb']
    go_simp, h _, Below.refl _ _⟩
end

theorem top_still (la : List Nat) (va : Value) (j t : Nat) (w : World) (ha : Lim w va la) (h1 : ∀ x ∈ la, x < 1000000000) (hj : j < la.length) (n1 : la.length ≤ 1000000) (ht : 1000000000 * pt la (j + 1) + pt la j = t) :
    Calls Tryz.prog 161 #[va, .int .i64 ((j : Int) + 1)] w fun e w' => e = .returned (.int .u64 (t : Nat)) ∧ w' = w :=
  (rtop_any va la j w ha h1 hj n1).mono fun e w' ⟨h2, h3⟩ => ⟨by rw [h2, ht], h3.symm⟩

set_option maxRecDepth 100000 in
set_option maxHeartbeats 1000000 in
theorem rgoes_more (va vb : Value) (la lb : List Nat) (w : World) (ha : Lim w va la) (hb : Lim w vb lb) (h1 : ∀ x ∈ la, x < 1000000000) (h2 : ∀ x ∈ lb, x < 1000000000) (n1 : la.length ≤ 900000) (t2 : Top lb) (hl : lb.length ≤ la.length) (hl2 : 2 ≤ lb.length) :
    Calls Tryz.prog 77 #[va, vb] w fun e w' => Went w' e la lb ∧ Below w.heap.size w w' := by
  have HA := Lib.hid ha
  have HBL : Hid (∀ W, Below w.heap.size w W → Lim W vb lb) := fun W hB => hb.below hB
  have H1 := Lib.hid h1
  have H2 := Lib.hid h2
  have h0 : lb ≠ [] := fun e => by rw [e] at hl2; simp at hl2
  have HS := Lib.hid (GoInv.start h1 h2 t2 h0)
  obtain ⟨a', c', rfl, q1, q2, -⟩ := ha
  have hb' := hb
  obtain ⟨a, c, rfl, p1, p2, -⟩ := hb
  have HC := hb'.at
  unfold maxLen at q2 p2
  clear hb'
  have hlI : (lb.length : Int) ≤ (la.length : Int) := by omega
  have hl1 : (((lb.length : Nat) : Int) == 1) = false := by rw [beq_eq_false_iff_ne]; omega
  have hmk := run_make_u32 ((la.length : Int) + 1) (la.length + 1) (by omega) (by omega)
  clear h1 h2
  go_enter Tryz.func77, Tryz.ntmps77
  go_wp2_with (at_builtin; refine wpList_append_lim rfl _ _ rfl rfl rfl rfl HA.out (by omega) ?_; intro v1 w1 hL hb1; obtain ⟨gL, cL, rfl, hF, hgw, hcl, hcm⟩ := hL.front (by omega))
  have FL := Lib.hid hF
  have B1 := Lib.hid hb1
  have hgl := hF.lt
  clear hF hb1 hL
  obtain ⟨W2, e2, m3, m4⟩ : ∃ W2, w1.alloc (.cells (madeCells #[.int .u32 0] (la.length + 1)) 99) = W2 ∧ Hid (Front W2 w1.heap.size (la.length + 1) (List.replicate (la.length + 1) 0)) ∧ Hid (Below w1.heap.size w1 W2) :=
    ⟨_, rfl, ⟨_, CellsAt.new _ _ _, by rw [← Array.length_toList, made_list, u32s_length]; simp, by simp, by rw [made_list, List.take_of_length_le (by rw [u32s_length]; simp)]⟩, (show Below w1.heap.size w1 _ from (by repeat (first | exact Below.refl _ _ | with_reducible refine Below.drew ?_ | with_reducible refine below_drewN ?_ _ | with_reducible refine Below.setCell ?_ (by first | (simp; done) | (simp; omega) | omega) _ | with_reducible refine Below.alloc ?_ (by first | (simp; done) | (simp; omega) | omega) _)))⟩
  rw [e2]
  obtain ⟨qb, hqb⟩ : ∃ qb, w1.heap.size = qb := ⟨_, rfl⟩
  rw [hqb] at m3 hgl ⊢
  have FL2 := Lib.hid (FL.out.below m4.out)
  have B2 := Lib.hid (Below.step B1.out m4.out)
  have hqw : w.heap.size ≤ qb := by rw [← hqb]; exact B1.out.size
  unfold maxLen at hcm
  clear e2 hmk FL m4 B1 hqb
  go_loopw [10] (fun i wr => ∃ (j : Nat) (ii : Int) (Q L : List Nat), j ≤ la.length + 1 - lb.length ∧ i = .int .i64 ii ∧ ii = (j : Int) - 1 ∧ GoInv la lb j Q L ∧ Front wr gL cL L ∧ Front wr qb (la.length + 1) Q ∧ Below w.heap.size w wr) (fun i _ => (intOf i + 1).toNat)
  case atStart => exact ⟨_, _, _, la, Nat.le_refl _, rfl, by omega, HS.out, FL2.out, m3.out, B2.out⟩
  case round =>
    obtain ⟨j, ii, Q, L, hj, rfl, hii, hI, hF, hG, hB⟩ := hrel
    have HI := Lib.hid hI
    have HF := Lib.hid hF
    have HG := Lib.hid hG
    have HB := Lib.hid hB
    clear hI hF hG hB m3 FL2 B2 HS
    cases j with
    | zero =>
      obtain rfl : ii = -1 := by omega
      clear hii
      go_wp2
      go_ret2
      obtain ⟨d1, d2⟩ := HI.out.done
      have hLl : L.length = la.length := HI.out.1
      have hQl : Q.length = la.length + 1 := HI.out.2.2.1
      have hO := HF.out.own (n := w.heap.size) hgw (by unfold maxLen; omega) (fun x hx => Nat.lt_trans (HI.out.2.1 x hx) (by decide))
      have hO2 := HG.out.own (n := w.heap.size) hqw (by unfold maxLen; omega) (fun x hx => Nat.lt_trans (HI.out.2.2.2.1 x hx) (by decide))
      rw [hLl] at hO
      rw [hQl] at hO2
      exact ⟨⟨_, _, Q, L, rfl, hO2.lim, hO.lim, HI.out.2.2.2.1, HI.out.2.1, d1, d2⟩, HB.out⟩
    | succ k =>
      obtain rfl : ii = (k : Int) := by omega
      have hkI : (k : Int) + (lb.length : Int) ≤ (la.length : Int) := by omega
      have hkl : k + lb.length ≤ la.length := by omega
      clear hii hj
      go_wp2
      go_loopw [11] (fun _ wr => ∃ (Q L : List Nat), GiInv la lb k Q L ∧ Front wr gL cL L ∧ Front wr qb (la.length + 1) Q ∧ Below w.heap.size w wr) (fun _ wr => Go.Proofs.YtgpoljbccimkjaaGreatDoor.frontVal wr gL la.length)
      case atStart => exact ⟨Q, L, HI.out.inner, HF.out, HG.out, HB.out⟩
      case round =>
        clear HI HF HG HB
        obtain ⟨Q, L, hI, hF, hG, hB⟩ := hrel
        have HI := Lib.hid hI
        have HF := Lib.hid hF
        have HG := Lib.hid hG
        have HB := Lib.hid hB
        have hLl : L.length = la.length := hI.1
        have hQl : Q.length = la.length + 1 := hI.2.2.1
        have HLs := Lib.hid hI.2.1
        have HLp : Hid (∀ i, pt L i < 1000000000) := fun i => pt_lt (by decide) hI.2.1 i
        clear hI hF hG hB
        obtain ⟨n', hn'⟩ : ∃ n', lb.length = n' + 1 := ⟨lb.length - 1, by omega⟩
        obtain ⟨j, hj⟩ : ∃ j, k + n' = j := ⟨_, rfl⟩
        have hnI : (lb.length : Int) - 1 = (n' : Int) := by omega
        have hjI : (k : Int) + (lb.length : Int) = (j : Int) + 1 := by omega
        have hjl : j < L.length := by omega
        have hjB : (j : Int) ≤ 900000 := by omega
        have hjw : IntKind.i64.wrap ((j : Int) + 1) = (j : Int) + 1 := by rw [IntKind.wrap_i64]; omega
        have hp0 := HLp.out j
        have hp1 := HLp.out (j + 1)
        have hpb : pt lb n' < 1000000000 := pt_lt (by decide) H2.out n'
        obtain ⟨tt, htt⟩ : ∃ t, 1000000000 * pt L (j + 1) + pt L j = t := ⟨_, rfl⟩
        have httI : (tt : Int) ≤ 999999999999999999 := by omega
        obtain ⟨dd, hdd⟩ : ∃ d, pt lb n' + 1 = d := ⟨_, rfl⟩
        have hddI : (pt lb n' : Int) + 1 = (dd : Int) := by omega
        have hdz : (((dd : Nat) : Int) == 0) = false := by rw [beq_eq_false_iff_ne]; omega
        obtain ⟨f, hf⟩ : ∃ f, tt / dd = f := ⟨_, rfl⟩
        have hfI : (tt : Int) / (dd : Int) = (f : Int) := by rw [← hf]; exact (Int.natCast_ediv _ _).symm
        have h9 := goes_often (L := L) (k := k) H2.out h0
        rw [show k + lb.length = j + 1 by omega, show j + 1 - 1 = j by omega, show lb.length - 1 = n' by omega, htt, hdd, hf] at h9
        have H9 := Lib.hid h9
        have hroom := HI.out.room h9
        have hf9 : (f : Int) ≤ 999999999 := by omega
        have hpw : IntKind.u64.wrap (pt lb n' : Int) = (pt lb n' : Int) := by rw [IntKind.wrap_u64]; omega
        have hdn : ¬ dd = 0 := by omega
        have hnw : IntKind.i64.wrap (n' : Int) = (n' : Int) := by rw [IntKind.wrap_i64]; omega
        have hdw : IntKind.u64.wrap (dd : Int) = (dd : Int) := by rw [IntKind.wrap_u64]; omega
        have hfw : IntKind.u64.wrap (f : Int) = (f : Int) := by rw [IntKind.wrap_u64]; omega
        obtain ⟨bb, o, rfl, -, hcb⟩ := HC.out n' (by omega)
        have hcd := hcb _ HB.out.drew
        have hcr := hcb _ HB.out
        have hOL := HF.out.own (n := w.heap.size) hgw (by unfold maxLen; omega) (fun x hx => Nat.lt_trans (HLs.out x hx) (by decide))
        rw [hLl] at hOL
        have HLd := Lib.hid (hOL.lim.below (Below.refl _ _).drew)
        have HTT := Lib.hid htt
        have hnlI : (n' : Int) < (lb.length : Int) := by omega
        have hnl : n' < lb.length := by omega
        have HN := Lib.hid hn'
        have HJ := Lib.hid hj
        clear h9 hcb hOL htt hf hdd hp0 hp1 hn' hj hl2
        go_upto_region 10 with fail
        rename_i K9 hK9
        refine wp_region_still_lit (by kernel_rfl) (by kernel_rfl) ?_
        repeat still_step
        have hc := top_still L _ j tt _ HLd.out HLs.out hjl (by omega) HTT.out
        refine wpStill_step (fun K hK => ?_)
        go_simp
        refine ⟨_, hc, ?_⟩
        with_reducible refine hK _ ?_
        clear hK K hc
        repeat (with_reducible refine wpStill_step (fun K hK => ?_); go_simp; with_reducible refine hK _ ?_; clear hK K)
        refine wpStill_nil ?_
        change Exit.then _ _ _ _ (World.drew _)
        refine hK9 _ _ ?_
        by_cases hf0 : f = 0
        · subst hf0
          have HLB := Lib.hid ((HBL.out _ HB.out).below (Below.refl _ _).drew)
          have HT1 : Hid (∀ x ∈ trimL L, x < 1000000000) := fun x hx => HLs.out x (by rw [trimL_eq_take] at hx; exact List.mem_of_mem_take hx)
          have HT2 : Hid (∀ x ∈ trimL (List.replicate k 0 ++ lb), x < 1000000000) := fun x hx => by
            rw [trimL_eq_take] at hx
            rcases List.mem_append.1 (List.mem_of_mem_take hx) with h | h
            · rw [List.mem_replicate] at h; omega
            · exact H2.out x h
          go_upto_region 11 with fail
          rename_i K11 hK11
          by_cases hv : val L < 1000000000 ^ k * val lb
          · have HCM : Hid (decide (cmpI (val L) (1000000000 ^ k * val lb : Nat) < 0) = true) := by show _ = _; rw [cmpI_lt (by omega)]; rfl
            refine wp_region_known [(58, true), (59, true), (70, true), (71, true)]
              [(0, IsV (.slice a' la.length c')), (1, IsVL (.slice (some ⟨bb, o, none⟩) lb.length c) lb), (2, IsV (undef)), (3, IsV (undef)), (4, IsV (.slice none 0 0)), (5, IsV (.slice none 0 0)), (6, IsV (undef)), (7, IsV (undef)), (8, IsVL (.slice (some ⟨gL, 0, none⟩) la.length cL) L), (9, IsV (.slice (some ⟨qb, 0, none⟩) (la.length + 1) (la.length + 1))), (10, IsV (.int .i64 (k : Int))), (11, IsV (.int .u64 0)), (12, IsV (.slice (some ⟨bb, o, none⟩) lb.length c)), (13, IsV (.int .i64 (lb.length : Int))), (14, IsV (.bool false)), (15, IsV (undef)), (16, IsV (undef)), (17, IsV (undef)), (18, IsV (undef)), (19, IsV (undef)), (20, IsV (undef)), (21, IsV (undef)), (22, IsV (undef)), (23, IsV (undef)), (24, IsV (undef)), (25, IsV (undef)), (26, IsV (.slice none 0 0)), (27, IsV (.slice a' la.length c')), (28, IsV (.slice (some ⟨gL, 0, none⟩) la.length cL)), (29, IsV (.slice a' la.length c')), (30, IsV (.int .i64 (la.length : Int))), (31, IsV (.int .i64 ((la.length : Int) + 1))), (32, IsV (.slice (some ⟨qb, 0, none⟩) (la.length + 1) (la.length + 1))), (33, IsV (.slice a' la.length c')), (34, IsV (.int .i64 (la.length : Int))), (35, IsV (.slice (some ⟨bb, o, none⟩) lb.length c)), (36, IsV (.int .i64 (lb.length : Int))), (37, IsV (.int .i64 ((la.length : Int) - (lb.length : Int)))), (38, IsV (.int .i64 (k : Int))), (39, IsV (.bool true)), (40, IsV u40), (41, IsV u41), (89, IsV undef), (90, IsV undef)]
              [(57, IsV (.int .u64 0)), (60, IsL L), (61, IsA false (trimL L)), (62, IsL (trimL L)), (63, IsV (.int .i64 (k : Nat))), (64, IsZ k), (65, IsL lb), (66, IsL (List.replicate k 0 ++ lb)), (67, IsA false (trimL (List.replicate k 0 ++ lb))), (68, IsL (trimL (List.replicate k 0 ++ lb))), (69, IsV (.int .i64 (cmpI (val L) (1000000000 ^ k * val lb : Nat))))]
              91 (by kernel_rfl) rfl (by kernel_rfl) (by kernel_rfl) ⟨rfl, ⟨rfl, HLB.out⟩, rfl, rfl, rfl, rfl, rfl, rfl, ⟨rfl, HLd.out⟩, rfl, rfl, rfl, rfl, rfl, rfl, rfl, rfl, rfl, rfl, rfl, rfl, rfl, rfl, rfl, rfl, rfl, rfl, rfl, rfl, rfl, rfl, rfl, rfl, rfl, rfl, rfl, rfl, rfl, rfl, rfl, rfl, rfl, rfl, rfl, trivial⟩ ⟨IsV.grows _ , IsVL.grows _ _ , IsV.grows _ , IsV.grows _ , IsV.grows _ , IsV.grows _ , IsV.grows _ , IsV.grows _ , IsVL.grows _ _ , IsV.grows _ , IsV.grows _ , IsV.grows _ , IsV.grows _ , IsV.grows _ , IsV.grows _ , IsV.grows _ , IsV.grows _ , IsV.grows _ , IsV.grows _ , IsV.grows _ , IsV.grows _ , IsV.grows _ , IsV.grows _ , IsV.grows _ , IsV.grows _ , IsV.grows _ , IsV.grows _ , IsV.grows _ , IsV.grows _ , IsV.grows _ , IsV.grows _ , IsV.grows _ , IsV.grows _ , IsV.grows _ , IsV.grows _ , IsV.grows _ , IsV.grows _ , IsV.grows _ , IsV.grows _ , IsV.grows _ , IsV.grows _ , IsV.grows _ , IsV.grows _ , IsV.grows _ , IsV.grows _ , IsL.grows _ , IsA.grows _ _ , IsL.grows _ , IsV.grows _ , IsZ.grows _ , IsL.grows _ , IsL.grows _ , IsA.grows _ _ , IsL.grows _ , IsV.grows _ , trivial⟩ ?_ ?_
            · refine AllStep.cons (step_move (fun _ _ h => h)) ?_
              refine AllStep.cons (step_eqU (fun _ _ h => h) (by rfl) (fun _ => rfl)) ?_
              refine AllStep.cons (step_move (fun _ _ h => h)) ?_
              refine AllStep.cons (step_move (fun _ _ h => h.2)) ?_
              refine AllStep.cons (step_callkx (Plain.of Tryz.func78 rfl rfl) (fun _ _ _ hu => rnum_list hu)) ?_
              refine AllStep.cons (step_field (fun _ _ h => by obtain ⟨p, n, c, e, h⟩ := h; exact ⟨_, p, n, c, e, h⟩)) ?_
              refine AllStep.cons (step_move (fun _ _ h => h)) ?_
              refine AllStep.cons (step_make_z (fun _ _ h => h) (by omega) (fun _ _ h => h)) ?_
              refine AllStep.cons (step_move (fun _ _ h => h.2)) ?_
              refine AllStep.cons (step_append_z (fun _ _ h => h) (fun _ _ h => h) h0 (by omega) (by omega) (fun _ _ h => h)) ?_
              refine AllStep.cons (step_callkx (Plain.of Tryz.func78 rfl rfl) (fun _ _ _ hu => rnum_list hu)) ?_
              refine AllStep.cons (step_field (fun _ _ h => by obtain ⟨p, n, c, e, h⟩ := h; exact ⟨_, p, n, c, e, h⟩)) ?_
              refine AllStep.cons (step_call2 (Plain.of Tryz.func162 rfl rfl) (fun _ _ _ _ hu hv => rorder_list hu hv HT1.out HT2.out (Top.trimL _) (Top.trimL _) _ (by rw [val_trimL, val_trimL, val_pad]))) ?_
              refine AllStep.cons (step_lss (fun _ _ h => h) HCM.out (fun _ => rfl)) ?_
              refine AllStep.cons (step_pickT (fun _ _ h => h) (fun _ _ h => h)) ?_
              exact AllStep.nil
            intro a1 wa hbA hs1 hd1 hk1
            obtain ⟨y, hx⟩ : ∃ y : Nat → Value, ∀ t, a1.eval (.tmp t) = y t := ⟨_, fun _ => rfl⟩
            have ha : a1 = ⟨#[.slice a' la.length c', .slice (some ⟨bb, o, none⟩) lb.length c, undef, undef, .slice none 0 0, .slice none 0 0, undef, undef, .slice (some ⟨gL, 0, none⟩) la.length cL, .slice (some ⟨qb, 0, none⟩) (la.length + 1) (la.length + 1), .int .i64 (k : Int), .int .u64 0, .slice (some ⟨bb, o, none⟩) lb.length c, .int .i64 (lb.length : Int), .bool false, undef, undef, undef, undef, undef, undef, undef, undef, undef, undef, undef, .slice none 0 0, .slice a' la.length c', .slice (some ⟨gL, 0, none⟩) la.length cL, .slice a' la.length c', .int .i64 (la.length : Int), .int .i64 ((la.length : Int) + 1), .slice (some ⟨qb, 0, none⟩) (la.length + 1) (la.length + 1), .slice a' la.length c', .int .i64 (la.length : Int), .slice (some ⟨bb, o, none⟩) lb.length c, .int .i64 (lb.length : Int), .int .i64 ((la.length : Int) - (lb.length : Int)), .int .i64 (k : Int), .bool true, u40, u41, y 42, y 43, y 44, y 45, y 46, y 47, y 48, y 49, y 50, y 51, y 52, y 53, y 54, y 55, y 56, y 57, y 58, y 59, y 60, y 61, y 62, y 63, y 64, y 65, y 66, y 67, y 68, y 69, y 70, .bool true, y 72, y 73, y 74, y 75, y 76, y 77, y 78, y 79, y 80, y 81, y 82, y 83, y 84, y 85, y 86, y 87, y 88, undef, undef], []⟩ := act_eq hs1 hd1 ⟨hk1 0, (hk1 1).1, hk1 2, hk1 3, hk1 4, hk1 5, hk1 6, hk1 7, (hk1 8).1, hk1 9, hk1 10, hk1 11, hk1 12, hk1 13, hk1 14, hk1 15, hk1 16, hk1 17, hk1 18, hk1 19, hk1 20, hk1 21, hk1 22, hk1 23, hk1 24, hk1 25, hk1 26, hk1 27, hk1 28, hk1 29, hk1 30, hk1 31, hk1 32, hk1 33, hk1 34, hk1 35, hk1 36, hk1 37, hk1 38, hk1 39, hk1 40, hk1 41, hx 42, hx 43, hx 44, hx 45, hx 46, hx 47, hx 48, hx 49, hx 50, hx 51, hx 52, hx 53, hx 54, hx 55, hx 56, hx 57, hx 58, hx 59, hx 60, hx 61, hx 62, hx 63, hx 64, hx 65, hx 66, hx 67, hx 68, hx 69, hx 70, hk1 71, hx 72, hx 73, hx 74, hx 75, hx 76, hx 77, hx 78, hx 79, hx 80, hx 81, hx 82, hx 83, hx 84, hx 85, hx 86, hx 87, hx 88, hk1 89, hk1 90, trivial⟩
            subst ha
            have hb2 := Below.step ((Below.refl _ _).drew : Below wr.heap.size wr wr.drew) hbA
            have F3 := Lib.hid (HF.out.below hb2)
            have G3 := Lib.hid (HG.out.below hb2)
            have B3 := Lib.hid (HB.out.trans (hb2.mono HB.out.size))
            clear hx hs1 hd1 hk1 hbA hcd hcr HLd hb2
            refine hK11 _ _ ?_
            go_wp2
            go_roundw
            case rel => exact ⟨k, (k : Int) - 1, Q, L, by omega, rfl, rfl, HI.out.outer hv, F3.out, G3.out, B3.out⟩
            case measure => simp [intOf]
          · have HCM : Hid (decide (cmpI (val L) (1000000000 ^ k * val lb : Nat) < 0) = false) := by
              show _ = _
              rw [decide_eq_false_iff_not]
              unfold cmpI
              split <;> (try split) <;> omega
            refine wp_region_known [(58, true), (59, true), (70, false), (71, false)]
              [(0, IsV (.slice a' la.length c')), (1, IsVL (.slice (some ⟨bb, o, none⟩) lb.length c) lb), (2, IsV (undef)), (3, IsV (undef)), (4, IsV (.slice none 0 0)), (5, IsV (.slice none 0 0)), (6, IsV (undef)), (7, IsV (undef)), (8, IsVL (.slice (some ⟨gL, 0, none⟩) la.length cL) L), (9, IsV (.slice (some ⟨qb, 0, none⟩) (la.length + 1) (la.length + 1))), (10, IsV (.int .i64 (k : Int))), (11, IsV (.int .u64 0)), (12, IsV (.slice (some ⟨bb, o, none⟩) lb.length c)), (13, IsV (.int .i64 (lb.length : Int))), (14, IsV (.bool false)), (15, IsV (undef)), (16, IsV (undef)), (17, IsV (undef)), (18, IsV (undef)), (19, IsV (undef)), (20, IsV (undef)), (21, IsV (undef)), (22, IsV (undef)), (23, IsV (undef)), (24, IsV (undef)), (25, IsV (undef)), (26, IsV (.slice none 0 0)), (27, IsV (.slice a' la.length c')), (28, IsV (.slice (some ⟨gL, 0, none⟩) la.length cL)), (29, IsV (.slice a' la.length c')), (30, IsV (.int .i64 (la.length : Int))), (31, IsV (.int .i64 ((la.length : Int) + 1))), (32, IsV (.slice (some ⟨qb, 0, none⟩) (la.length + 1) (la.length + 1))), (33, IsV (.slice a' la.length c')), (34, IsV (.int .i64 (la.length : Int))), (35, IsV (.slice (some ⟨bb, o, none⟩) lb.length c)), (36, IsV (.int .i64 (lb.length : Int))), (37, IsV (.int .i64 ((la.length : Int) - (lb.length : Int)))), (38, IsV (.int .i64 (k : Int))), (39, IsV (.bool true)), (40, IsV u40), (41, IsV u41), (89, IsV undef), (90, IsV undef)]
              [(57, IsV (.int .u64 0)), (60, IsL L), (61, IsA false (trimL L)), (62, IsL (trimL L)), (63, IsV (.int .i64 (k : Nat))), (64, IsZ k), (65, IsL lb), (66, IsL (List.replicate k 0 ++ lb)), (67, IsA false (trimL (List.replicate k 0 ++ lb))), (68, IsL (trimL (List.replicate k 0 ++ lb))), (69, IsV (.int .i64 (cmpI (val L) (1000000000 ^ k * val lb : Nat))))]
              91 (by kernel_rfl) rfl (by kernel_rfl) (by kernel_rfl) ⟨rfl, ⟨rfl, HLB.out⟩, rfl, rfl, rfl, rfl, rfl, rfl, ⟨rfl, HLd.out⟩, rfl, rfl, rfl, rfl, rfl, rfl, rfl, rfl, rfl, rfl, rfl, rfl, rfl, rfl, rfl, rfl, rfl, rfl, rfl, rfl, rfl, rfl, rfl, rfl, rfl, rfl, rfl, rfl, rfl, rfl, rfl, rfl, rfl, rfl, rfl, trivial⟩ ⟨IsV.grows _ , IsVL.grows _ _ , IsV.grows _ , IsV.grows _ , IsV.grows _ , IsV.grows _ , IsV.grows _ , IsV.grows _ , IsVL.grows _ _ , IsV.grows _ , IsV.grows _ , IsV.grows _ , IsV.grows _ , IsV.grows _ , IsV.grows _ , IsV.grows _ , IsV.grows _ , IsV.grows _ , IsV.grows _ , IsV.grows _ , IsV.grows _ , IsV.grows _ , IsV.grows _ , IsV.grows _ , IsV.grows _ , IsV.grows _ , IsV.grows _ , IsV.grows _ , IsV.grows _ , IsV.grows _ , IsV.grows _ , IsV.grows _ , IsV.grows _ , IsV.grows _ , IsV.grows _ , IsV.grows _ , IsV.grows _ , IsV.grows _ , IsV.grows _ , IsV.grows _ , IsV.grows _ , IsV.grows _ , IsV.grows _ , IsV.grows _ , IsV.grows _ , IsL.grows _ , IsA.grows _ _ , IsL.grows _ , IsV.grows _ , IsZ.grows _ , IsL.grows _ , IsL.grows _ , IsA.grows _ _ , IsL.grows _ , IsV.grows _ , trivial⟩ ?_ ?_
            · refine AllStep.cons (step_move (fun _ _ h => h)) ?_
              refine AllStep.cons (step_eqU (fun _ _ h => h) (by rfl) (fun _ => rfl)) ?_
              refine AllStep.cons (step_move (fun _ _ h => h)) ?_
              refine AllStep.cons (step_move (fun _ _ h => h.2)) ?_
              refine AllStep.cons (step_callkx (Plain.of Tryz.func78 rfl rfl) (fun _ _ _ hu => rnum_list hu)) ?_
              refine AllStep.cons (step_field (fun _ _ h => by obtain ⟨p, n, c, e, h⟩ := h; exact ⟨_, p, n, c, e, h⟩)) ?_
              refine AllStep.cons (step_move (fun _ _ h => h)) ?_
              refine AllStep.cons (step_make_z (fun _ _ h => h) (by omega) (fun _ _ h => h)) ?_
              refine AllStep.cons (step_move (fun _ _ h => h.2)) ?_
              refine AllStep.cons (step_append_z (fun _ _ h => h) (fun _ _ h => h) h0 (by omega) (by omega) (fun _ _ h => h)) ?_
              refine AllStep.cons (step_callkx (Plain.of Tryz.func78 rfl rfl) (fun _ _ _ hu => rnum_list hu)) ?_
              refine AllStep.cons (step_field (fun _ _ h => by obtain ⟨p, n, c, e, h⟩ := h; exact ⟨_, p, n, c, e, h⟩)) ?_
              refine AllStep.cons (step_call2 (Plain.of Tryz.func162 rfl rfl) (fun _ _ _ _ hu hv => rorder_list hu hv HT1.out HT2.out (Top.trimL _) (Top.trimL _) _ (by rw [val_trimL, val_trimL, val_pad]))) ?_
              refine AllStep.cons (step_lss (fun _ _ h => h) HCM.out (fun _ => rfl)) ?_
              refine AllStep.cons (step_pickT (fun _ _ h => h) (fun _ _ h => h)) ?_
              exact AllStep.nil
            intro a1 wa hbA hs1 hd1 hk1
            obtain ⟨y, hx⟩ : ∃ y : Nat → Value, ∀ t, a1.eval (.tmp t) = y t := ⟨_, fun _ => rfl⟩
            have ha : a1 = ⟨#[.slice a' la.length c', .slice (some ⟨bb, o, none⟩) lb.length c, undef, undef, .slice none 0 0, .slice none 0 0, undef, undef, .slice (some ⟨gL, 0, none⟩) la.length cL, .slice (some ⟨qb, 0, none⟩) (la.length + 1) (la.length + 1), .int .i64 (k : Int), .int .u64 0, .slice (some ⟨bb, o, none⟩) lb.length c, .int .i64 (lb.length : Int), .bool false, undef, undef, undef, undef, undef, undef, undef, undef, undef, undef, undef, .slice none 0 0, .slice a' la.length c', .slice (some ⟨gL, 0, none⟩) la.length cL, .slice a' la.length c', .int .i64 (la.length : Int), .int .i64 ((la.length : Int) + 1), .slice (some ⟨qb, 0, none⟩) (la.length + 1) (la.length + 1), .slice a' la.length c', .int .i64 (la.length : Int), .slice (some ⟨bb, o, none⟩) lb.length c, .int .i64 (lb.length : Int), .int .i64 ((la.length : Int) - (lb.length : Int)), .int .i64 (k : Int), .bool true, u40, u41, y 42, y 43, y 44, y 45, y 46, y 47, y 48, y 49, y 50, y 51, y 52, y 53, y 54, y 55, y 56, y 57, y 58, y 59, y 60, y 61, y 62, y 63, y 64, y 65, y 66, y 67, y 68, y 69, y 70, .bool false, y 72, y 73, y 74, y 75, y 76, y 77, y 78, y 79, y 80, y 81, y 82, y 83, y 84, y 85, y 86, y 87, y 88, undef, undef], []⟩ := act_eq hs1 hd1 ⟨hk1 0, (hk1 1).1, hk1 2, hk1 3, hk1 4, hk1 5, hk1 6, hk1 7, (hk1 8).1, hk1 9, hk1 10, hk1 11, hk1 12, hk1 13, hk1 14, hk1 15, hk1 16, hk1 17, hk1 18, hk1 19, hk1 20, hk1 21, hk1 22, hk1 23, hk1 24, hk1 25, hk1 26, hk1 27, hk1 28, hk1 29, hk1 30, hk1 31, hk1 32, hk1 33, hk1 34, hk1 35, hk1 36, hk1 37, hk1 38, hk1 39, hk1 40, hk1 41, hx 42, hx 43, hx 44, hx 45, hx 46, hx 47, hx 48, hx 49, hx 50, hx 51, hx 52, hx 53, hx 54, hx 55, hx 56, hx 57, hx 58, hx 59, hx 60, hx 61, hx 62, hx 63, hx 64, hx 65, hx 66, hx 67, hx 68, hx 69, hx 70, hk1 71, hx 72, hx 73, hx 74, hx 75, hx 76, hx 77, hx 78, hx 79, hx 80, hx 81, hx 82, hx 83, hx 84, hx 85, hx 86, hx 87, hx 88, hk1 89, hk1 90, trivial⟩
            subst ha
            have hb2 := Below.step ((Below.refl _ _).drew : Below wr.heap.size wr wr.drew) hbA
            have F3 := Lib.hid (HF.out.below hb2)
            have G3 := Lib.hid (HG.out.below hb2)
            have B3 := Lib.hid (HB.out.trans (hb2.mono HB.out.size))
            clear hx hs1 hd1 hk1 hbA hcd hcr HLd hb2
            refine hK11 _ _ ?_
            have H91 : Hid (1000000000 ^ k * (1 * val lb) ≤ val L) := by rw [Nat.one_mul]; show _ ≤ _; omega
            have hroom1 := HI.out.room H91.out
            have hT := rtakes_any w.heap.size gL cL k 1 L lb _ wa F3.out (fun W hB => HBL.out W (B3.out.trans hB)) hgw HLs.out H2.out (by omega) (by omega) (by omega) H91.out
            rw [hLl] at hT
            have hmx : max (1 : Int) 0 = 1 := by decide
            go_wp2_with fail
            refine hT.mono ?_
            rintro e w4 ⟨rfl, L', f4, hl4, hs4, hv4, hb4, ho4⟩
            have F4 := Lib.hid f4
            have G4 := Lib.hid (ho4 qb _ Q (by omega) G3.out)
            have B4 := Lib.hid (B3.out.trans hb4)
            have HS4 := Lib.hid hs4
            have HV4 := Lib.hid hv4
            have hkq : k < Q.length := by omega
            have hcq := G4.out.cell hkq
            have hfq := fun x => G4.out.free x
            have hsum : (pt Q k : Int) + 1 = ((pt Q k + 1 : Nat) : Int) := by omega
            obtain ⟨c9, hc9⟩ : ∃ c9, pt Q k + 1 = c9 := ⟨_, rfl⟩
            rw [hc9] at hsum
            have hc9I : (c9 : Int) ≤ 999999999 := by omega
            have hkqI : (k : Int) < (la.length : Int) + 1 := by omega
            clear f4 hb4 ho4 hs4 hv4 hT
            go_wp2
            have hF5 := F4.out.other (p := ⟨qb, k, none⟩) (show qb ≠ gL by omega) (.int .u32 (c9 : Nat))
            have hStep := HI.out.step hkq H91.out (by omega) HS4.out HV4.out
            rw [hc9] at hStep
            go_roundw
            case rel => exact ⟨Q.set k c9, L', hStep, hF5, G4.out.set k c9, B4.out.setCell (p := ⟨qb, k, none⟩) hqw _⟩
            case measure =>
              have m1 := hF5.frontVal
              have m2 := HF.out.frontVal
              rw [hl4, hLl] at m1
              rw [hLl] at m2
              rw [m1, m2]
              have hvb : 0 < val lb := Nat.lt_of_lt_of_le (Nat.pow_pos (by decide)) (val_ge t2 h0)
              have hp : 0 < 1000000000 ^ k * (1 * val lb) := Nat.mul_pos (Nat.pow_pos (by decide)) (by omega)
              have := HV4.out
              omega
        · have hf0I : (((f : Nat) : Int) == 0) = false := by rw [beq_eq_false_iff_ne]; omega
          go_upto_region 11 with fail
          rename_i K11 hK11
          refine wp_region_still_lit (by kernel_rfl) (by kernel_rfl) ?_
          iterate 15 (with_reducible refine wpStill_step (fun K hK => ?_); go_simp; with_reducible refine hK _ ?_; clear hK K)
          refine wpStill_nil ?_
          change Exit.then _ _ _ _ (World.drew _)
          refine hK11 _ _ ?_
          have hb2 : Below wr.heap.size wr wr.drew.drew := (Below.refl _ _).drew.drew
          obtain ⟨W3, hW3⟩ : ∃ W3, wr.drew.drew = W3 := ⟨_, rfl⟩
          rw [hW3] at hb2 ⊢
          have F3 := Lib.hid (HF.out.below hb2)
          have G3 := Lib.hid (HG.out.below hb2)
          have B3 := Lib.hid (HB.out.trans (hb2.mono HB.out.size))
          have hf1 : 1 ≤ f := by omega
          clear hb2 hW3 hcd hcr HLd
          have hT := rtakes_any w.heap.size gL cL k f L lb _ W3 F3.out (fun W hB => HBL.out W (B3.out.trans hB)) hgw HLs.out H2.out (by omega) (by omega) (by omega) H9.out
          rw [hLl] at hT
          have hmx : max (1 : Int) (f : Int) = (f : Int) := by omega
          go_wp2_with fail
          refine hT.mono ?_
          rintro e w4 ⟨rfl, L', f4, hl4, hs4, hv4, hb4, ho4⟩
          have F4 := Lib.hid f4
          have G4 := Lib.hid (ho4 qb _ Q (by omega) G3.out)
          have B4 := Lib.hid (B3.out.trans hb4)
          have HS4 := Lib.hid hs4
          have HV4 := Lib.hid hv4
          have hkq : k < Q.length := by omega
          have hcq := G4.out.cell hkq
          have hfq := fun x => G4.out.free x
          have hsum : (pt Q k : Int) + (f : Int) = ((pt Q k + f : Nat) : Int) := by omega
          obtain ⟨c9, hc9⟩ : ∃ c9, pt Q k + f = c9 := ⟨_, rfl⟩
          rw [hc9] at hsum
          have hc9I : (c9 : Int) ≤ 999999999 := by omega
          have hkqI : (k : Int) < (la.length : Int) + 1 := by omega
          clear f4 hb4 ho4 hs4 hv4 hT
          go_wp2
          have hF5 := F4.out.other (p := ⟨qb, k, none⟩) (show qb ≠ gL by omega) (.int .u32 (c9 : Nat))
          have hStep := HI.out.step hkq H9.out (by omega) HS4.out HV4.out
          rw [hc9] at hStep
          refine ⟨⟨Q.set k c9, L', hStep, hF5, G4.out.set k c9, B4.out.setCell (p := ⟨qb, k, none⟩) hqw _⟩, ?_⟩
          have m1 := hF5.frontVal
          have m2 := HF.out.frontVal
          rw [hl4, hLl] at m1
          rw [hLl] at m2
          rw [m1, m2]
          have hvb : 0 < val lb := Nat.lt_of_lt_of_le (Nat.pow_pos (by decide)) (val_ge t2 h0)
          have hp : 0 < 1000000000 ^ k * (f * val lb) := Nat.mul_pos (Nat.pow_pos (by decide)) (Nat.mul_pos hf1 hvb)
          have := HV4.out
          omega

end Go.Proofs.YtgpoljbccimkjaaGreatDoor

namespace Go.Proofs.YtgpoljbccimkjaaGreatDoor
set_option linter.unusedSimpArgs false
set_option linter.unusedVariables false
open Go.RowKit Go.Shelf

theorem rgoes_any (va vb : Value) (la lb : List Nat) (w : World) (ha : Lim w va la) (hb : Lim w vb lb) (h1 : ∀ x ∈ la, x < 1000000000) (h2 : ∀ x ∈ lb, x < 1000000000) (n1 : la.length ≤ 900000) (n2 : lb.length ≤ 900000) (t2 : Top lb) (h0 : lb ≠ []) :
    Calls Tryz.prog 77 #[va, vb] w fun e w' => Went w' e la lb ∧ Below w.heap.size w w' := by
  by_cases hone : lb.length = 1
  · obtain ⟨x, rfl⟩ : ∃ x, lb = [x] := by
      match lb, hone with
      | [x], _ => exact ⟨x, rfl⟩
    have hx : x ≠ 0 := by
      rcases t2 with h | h
      · cases h
      · simpa [pt] using h
    exact rgoes_one va vb la x w ha hb h1 (by omega) (by omega) (h2 x (by simp))
  · have hp := List.length_pos_iff.2 h0
    by_cases hlt : la.length < lb.length
    · exact rgoes_less va vb la lb w ha hb h1 (by omega) (by omega) t2 hlt hone
    · exact rgoes_more va vb la lb w ha hb h1 h2 n1 t2 (by omega) (by omega)

theorem OkAt.fitted {w : World} {u : Value} {k k' : Nat} {Z : Int} (h : OkAt w u k Z) (hb : Z.natAbs < 1000000000 ^ k') : OkAt w u k' Z := by
  obtain ⟨s, v, l, h1, h2, h3, h4, h5⟩ := h
  exact ⟨s, v, l, h1, h2, h3, h4, len_of_valS h3 (by rw [h4]; exact hb)⟩
/-- The sign of a number that may be. -/
theorem okB_neg {s : Bool} {l : List Nat} {Z : Int} (h : okB s l = true) (hz : valS s l = Z) : s = decide (Z < 0) := by
  subst hz
  obtain ⟨h1, h2, h3⟩ := okB_iff.1 h
  unfold valS
  cases s with
  | false =>
    rw [if_neg (by simp)]
    symm
    rw [decide_eq_false_iff_not]
    omega
  | true =>
    rw [if_pos rfl]
    have := val_pos h2 (fun e => by have := h3 e; cases this)
    symm
    rw [decide_eq_true_iff]
    omega
theorem ediv_lt {Z Z' : Int} {k : Nat} (h : Z.natAbs < 1000000000 ^ k) : (Z / Z').natAbs < 1000000000 ^ k :=
  Nat.lt_of_le_of_lt (Int.natAbs_ediv_le_natAbs Z Z') h
theorem emod_lt {Z Z' : Int} {k : Nat} (h0 : Z' ≠ 0) (h : Z'.natAbs < 1000000000 ^ k) : (Z % Z').natAbs < 1000000000 ^ k := by
  have a1 := Int.emod_nonneg Z h0
  have a2 := Int.emod_lt Z h0
  omega

end Go.Proofs.YtgpoljbccimkjaaGreatDoor

namespace Go.Proofs.YtgpoljbccimkjaaGreatDoor
set_option linter.unusedSimpArgs false
set_option linter.unusedVariables false
open Go.RowKit Go.Shelf

/-- It answers two numbers and an error. -/
def QrAt (w' : World) (e : Ending) (k k' : Nat) (c Zq Zr : Int) : Prop := ∃ u v, e = .returned (.tuple #[u, v, .int .i64 c]) ∧ OkAt w' u k Zq ∧ OkAt w' v k' Zr

theorem OkAt.noughts (w : World) : OkAt w (.agg #[.bool false, .slice none 0 0]) 0 0 := ⟨false, _, [], rfl, Lim.nil w, by decide, by decide, Nat.le_refl _⟩
theorem ret_qr {fn : Func} {R : Ending → World → Prop} {a : Act} {w : World} {t t' s0 b b' : Nat} {m : Int} {s s' : Bool} {p p' : Option Addr} {n c n' c' : Nat} (hr : fn.results = #[.cell t 24, .cell t' 24, .tmp s0]) (hd : a.defers = []) (h : a.eval (.tmp t) = .pointer (some ⟨b, 0, none⟩)) (h' : a.eval (.tmp t') = .pointer (some ⟨b', 0, none⟩)) (h2 : a.eval (.tmp s0) = .int .i64 m) (hb : BoxV w b [.bool s, .slice p n c]) (hb' : BoxV w b' [.bool s', .slice p' n' c'])
    (hR : R (.returned (.tuple #[.agg #[.bool s, .slice p n c], .agg #[.bool s', .slice p' n' c'], .int .i64 m])) w) : bodyPost Tryz.prog fn R .ret a w := by
  have h1 : a.tmps[t]?.getD undef = .pointer (some ⟨b, 0, none⟩) := by rw [← Array.getD_eq_getD_getElem?]; exact h
  have h1' : a.tmps[t']?.getD undef = .pointer (some ⟨b', 0, none⟩) := by rw [← Array.getD_eq_getD_getElem?]; exact h'
  have h3 : a.tmps[s0]?.getD undef = .int .i64 m := by rw [← Array.getD_eq_getD_getElem?]; exact h2
  obtain ⟨c0, c1, -, -⟩ := hb.c2
  obtain ⟨d0, d1, -, -⟩ := hb'.c2
  refine bodyPost_ret (v := .tuple #[.agg #[.bool s, .slice p n c], .agg #[.bool s', .slice p' n' c'], .int .i64 m]) ?_ hd hR
  simp [results, hr, go_sem, h1, h1', h3, c0, c1, d0, d1]
section
variable {d : Nat} {ty : TypeId} {pos : String} {af : Array Edge} {g : Option (Nat × Bool)}
theorem wp_assignk {K : Act → World → Prop} {Q : Exit → Act → World → Prop} {a : Act} {w : World} {c : Value} (h : K (a.put (some d) c) w) : Oper.wp Tryz.prog ⟨some d, .assign (.const c), ty, pos, af, g⟩ a w K Q := h
end
theorem keepLimT {w : World} {v : Value} {l : List Nat} (h : Lim w v l) : Hid (∀ W, Below w.heap.size w W → Lim W v l) := fun _ hb => h.below hb
theorem qr_same {s s' : Bool} {l l' Q R : List Nat} {Z Z' : Int} (hz : valS s l = Z) (hz' : valS s' l' = Z') (h0 : Z' ≠ 0) (hq : val Q = val l / val l') (hr : val R = val l % val l') (hn : ¬ valS s R < 0) : valS (s != s') Q = Z / Z' ∧ valS s R = Z % Z' := by
  have hp : 0 < val l' := by
    rcases Nat.eq_zero_or_pos (val l') with h | h
    · exact absurd (by rw [← hz']; unfold valS; rw [h]; split <;> rfl) h0
    · exact h
  have h1 : val Q * val l' + val R = val l := by rw [hq, hr, Nat.mul_comm]; exact Nat.div_add_mod _ _
  have h2 : val R < val l' := by rw [hr]; exact Nat.mod_lt _ hp
  have h3 : s = false ∨ val R = 0 := by
    cases s with
    | false => exact .inl rfl
    | true => refine .inr ?_; unfold valS at hn; rw [if_pos rfl] at hn; omega
  have h4 := div_same (s := s) (s' := s') (sx := s != s') (l := l) (l' := l') (by cases s <;> cases s' <;> rfl) h1 h2 h3
  rw [hz, hz'] at h4
  refine ⟨h4.1, ?_⟩
  rw [← h4.2]
  unfold valS
  rcases h3 with h | h
  · rw [h]; rfl
  · rw [h]; split <;> rfl
theorem qr_down {s s' : Bool} {l l' Q R : List Nat} {Z Z' : Int} (hz : valS s l = Z) (hz' : valS s' l' = Z') (h0 : Z' ≠ 0) (hq : val Q = val l / val l') (hr : val R = val l % val l') (hn : valS s R < 0) : valS (s != s') Q - sgn s' = Z / Z' ∧ valS s R + sgn s' * Z' = Z % Z' := by
  have hp : 0 < val l' := by
    rcases Nat.eq_zero_or_pos (val l') with h | h
    · exact absurd (by rw [← hz']; unfold valS; rw [h]; split <;> rfl) h0
    · exact h
  have h1 : val Q * val l' + val R = val l := by rw [hq, hr, Nat.mul_comm]; exact Nat.div_add_mod _ _
  have h2 : val R < val l' := by rw [hr]; exact Nat.mod_lt _ hp
  have hs : s = true := by
    cases s with
    | false => unfold valS at hn; rw [if_neg (by simp)] at hn; omega
    | true => rfl
  have h3 : 0 < val R := by subst hs; unfold valS at hn; rw [if_pos rfl] at hn; omega
  have h4 := div_down (s := s) (s' := s') (sx := s != s') (l := l) (l' := l') (by cases s <;> cases s' <;> rfl) h1 h2 hs h3
  rw [hz, hz'] at h4
  refine ⟨h4.1, ?_⟩
  rw [← h4.2, ← hz']
  subst hs
  cases s'
  · simp [valS, sgn]; omega
  · simp [valS, sgn]; omega

set_option maxRecDepth 100000 in
set_option maxHeartbeats 4000000 in
theorem rDiv_arg {w : World} {s s' : Bool} {v v' : Value} {l l' : List Nat} (h : Lim w v l) (h' : Lim w v' l') (ho : okB s l = false ∨ okB s' l' = false) :
    Calls Tryz.prog 18 #[.agg #[.bool s, v], .agg #[.bool s', v']] w fun e w' => QrAt w' e 0 0 1 0 0 ∧ Below w.heap.size w w' := by
  have HL := keepLimT h
  have HL' := keepLimT h'
  obtain ⟨a, c, rfl, -⟩ := h
  obtain ⟨a', c', rfl, -⟩ := h'
  obtain ⟨W0, e0, n1, n2, n3, n4, hb0, hz0⟩ := box4 w (.bool s) (.slice a l.length c) (.bool s') (.slice a' l'.length c') (.bool false) (.slice none 0 0) (.bool false) (.slice none 0 0)
  have n3' : NumBox W0 (w.heap.size + 1 + 1) (.bool false) (.slice none 0 0) := n3
  have n4' : NumBox W0 (w.heap.size + 1 + 1 + 1) (.bool false) (.slice none 0 0) := n4
  have N1 := n1.v.keep
  have N2 := n2.v.keep
  have N3 := n3'.v.keep
  have N4 := n4'.v.keep
  have B0 := Lib.hid hb0
  obtain ⟨c0, c1, -, -⟩ := n1
  clear hb0 n2 n3 n4 n3' n4'
  go_enter Tryz.func18, Tryz.ntmps18
  go_wp2_with fail
  clear e0
  refine (rCheck_any s _ l _ (HL.out _ B0.out)).mono ?_
  rintro e w1 ⟨rfl, hb1⟩
  have B1 := Lib.hid (Below.step B0.out hb1)
  have N2 := (N2.out _ hb1).keep
  have N3 := (N3.out _ hb1).keep
  have N4 := (N4.out _ hb1).keep
  clear hb1 c0 c1 hz0
  cases hx : okB s l with
  | false =>
    have n3 := N3.out _ (Below.refl _ _)
    have n4 := N4.out _ (Below.refl _ _)
    obtain ⟨W2, g2, st2, bx2⟩ := n3.store (ys := [.bool false, .slice none 0 0]) rfl rfl
    obtain ⟨W3, g3, st3, bx3⟩ := (st2.box (by omega) n4).store (ys := [.bool false, .slice none 0 0]) rfl rfl
    simp only [setAll] at g2 g3
    obtain ⟨c0, c1, c2, c3⟩ := n3.c2
    obtain ⟨c4, c5, c6, c7⟩ := n4.c2
    obtain ⟨d0, d1, d2, d3⟩ := (st2.box (by omega) n4 : BoxV W2 (w.heap.size + 1 + 1 + 1) _).c2
    have bx2' := st3.box (by omega) bx2
    have HF := Lib.hid bx2'
    have HF3 := Lib.hid bx3
    have BF := Lib.hid (st3.below w (by omega) (st2.below w (by omega) B1.out))
    clear hx ho n3 n4 st2 st3 bx2 bx3 bx2' N2 N3 N4
    go_wp2_with fail
    exact ret_qr (t := 4) (t' := 5) (s0 := 6) rfl rfl rfl rfl rfl HF.out HF3.out ⟨⟨_, _, rfl, OkAt.noughts _, OkAt.noughts _⟩, BF.out⟩
  | true =>
    have ho' : okB s' l' = false := by rcases ho with h | h; · rw [h] at hx; cases hx
                                       · exact h
    have HO := Lib.hid ho'
    obtain ⟨d0, d1, -, -⟩ := (N2.out _ (Below.refl _ _)).c2
    clear hx ho ho'
    go_wp2_with fail
    refine (rCheck_any s' _ l' _ (HL'.out _ B1.out)).mono ?_
    rintro e w2 ⟨rfl, hb2⟩
    rw [HO.out]
    have B2 := Lib.hid (Below.step B1.out hb2)
    have n3 := N3.out _ hb2
    have n4 := N4.out _ hb2
    obtain ⟨W2, g2, st2, bx2⟩ := n3.store (ys := [.bool false, .slice none 0 0]) rfl rfl
    obtain ⟨W3, g3, st3, bx3⟩ := (st2.box (by omega) n4).store (ys := [.bool false, .slice none 0 0]) rfl rfl
    simp only [setAll] at g2 g3
    obtain ⟨c0, c1, c2, c3⟩ := n3.c2
    obtain ⟨c4, c5, c6, c7⟩ := n4.c2
    obtain ⟨x0, x1, x2, x3⟩ := (st2.box (by omega) n4 : BoxV W2 (w.heap.size + 1 + 1 + 1) _).c2
    have bx2' := st3.box (by omega) bx2
    have HF := Lib.hid bx2'
    have HF3 := Lib.hid bx3
    have BF := Lib.hid (st3.below w (by omega) (st2.below w (by omega) B2.out))
    clear hb2 n3 n4 st2 st3 bx2 bx3 bx2' d0 d1 N2 N3 N4
    go_wp2_with fail
    exact ret_qr (t := 4) (t' := 5) (s0 := 6) rfl rfl rfl rfl rfl HF.out HF3.out ⟨⟨_, _, rfl, OkAt.noughts _, OkAt.noughts _⟩, BF.out⟩

set_option maxRecDepth 100000 in
set_option maxHeartbeats 4000000 in
theorem rDiv_zero {w : World} {u u' : Value} {k k' : Nat} {Z : Int} (h : OkAt w u k Z) (h' : OkAt w u' k' 0) :
    Calls Tryz.prog 18 #[u, u'] w fun e w' => QrAt w' e 0 0 6 0 0 ∧ Below w.heap.size w w' := by
  obtain ⟨s, v, l, rfl, hv, ho, hz, -⟩ := h
  obtain ⟨s', v', l', rfl, hv', ho', hz', -⟩ := h'
  have HL := keepLimT hv
  have HL' := keepLimT hv'
  have HO := Lib.hid ho
  have HO' := Lib.hid ho'
  have hl : ((l'.length : Int) == 0) = true := by rw [(okB_nil_iff ho').1 hz']; rfl
  obtain ⟨a, c, rfl, -⟩ := hv
  obtain ⟨a', c', rfl, -⟩ := hv'
  obtain ⟨W0, e0, n1, n2, n3, n4, hb0, hz0⟩ := box4 w (.bool s) (.slice a l.length c) (.bool s') (.slice a' l'.length c') (.bool false) (.slice none 0 0) (.bool false) (.slice none 0 0)
  have n3' : NumBox W0 (w.heap.size + 1 + 1) (.bool false) (.slice none 0 0) := n3
  have n4' : NumBox W0 (w.heap.size + 1 + 1 + 1) (.bool false) (.slice none 0 0) := n4
  have N1 := n1.v.keep
  have N2 := n2.v.keep
  have N3 := n3'.v.keep
  have N4 := n4'.v.keep
  have B0 := Lib.hid hb0
  obtain ⟨c0, c1, -, -⟩ := n1
  clear hb0 n2 n3 n4 n3' n4'
  clear ho ho' hz hz'
  go_enter Tryz.func18, Tryz.ntmps18
  go_wp2_with fail
  clear e0
  refine (rCheck_any s _ l _ (HL.out _ B0.out)).mono ?_
  rintro e w1 ⟨rfl, hb1⟩
  rw [HO.out]
  have B1 := Lib.hid (Below.step B0.out hb1)
  have N2 := (N2.out _ hb1).keep
  have N3 := (N3.out _ hb1).keep
  have N4 := (N4.out _ hb1).keep
  clear hb1 c0 c1 hz0
  obtain ⟨d0, d1, -, -⟩ := (N2.out _ (Below.refl _ _)).c2
  go_wp2_with fail
  refine (rCheck_any s' _ l' _ (HL'.out _ B1.out)).mono ?_
  rintro e w2 ⟨rfl, hb2⟩
  rw [HO'.out]
  have B2 := Lib.hid (Below.step B1.out hb2)
  have n3 := N3.out _ hb2
  have n4 := N4.out _ hb2
  obtain ⟨W2, g2, st2, bx2⟩ := n3.store (ys := [.bool false, .slice none 0 0]) rfl rfl
  obtain ⟨W3, g3, st3, bx3⟩ := (st2.box (by omega) n4).store (ys := [.bool false, .slice none 0 0]) rfl rfl
  simp only [setAll] at g2 g3
  obtain ⟨c0, c1, c2, c3⟩ := n3.c2
  obtain ⟨c4, c5, c6, c7⟩ := n4.c2
  obtain ⟨x0, x1, x2, x3⟩ := (st2.box (by omega) n4 : BoxV W2 (w.heap.size + 1 + 1 + 1) _).c2
  obtain ⟨y0, y1, -, -⟩ := (N2.out _ hb2).c2
  have bx2' := st3.box (by omega) bx2
  have HF := Lib.hid bx2'
  have HF3 := Lib.hid bx3
  have BF := Lib.hid (st3.below w (by omega) (st2.below w (by omega) B2.out))
  clear hb2 n3 n4 st2 st3 bx2 bx3 bx2' d0 d1 N2 N3 N4
  go_wp2_with fail
  exact ret_qr (t := 4) (t' := 5) (s0 := 6) rfl rfl rfl rfl rfl HF.out HF3.out ⟨⟨_, _, rfl, OkAt.noughts _, OkAt.noughts _⟩, BF.out⟩

set_option maxRecDepth 100000 in
set_option maxHeartbeats 8000000 in
theorem rDiv_num {w : World} {u u' : Value} {k k' : Nat} {Z Z' : Int} (h : OkAt w u k Z) (h' : OkAt w u' k' Z') (hk : k ≤ 900000) (hk' : k' ≤ 900000) (h0 : Z' ≠ 0) :
    Calls Tryz.prog 18 #[u, u'] w fun e w' => QrAt w' e k k' 0 (Z / Z') (Z % Z') ∧ Below w.heap.size w w' := by
  have HBQ := Lib.hid (ediv_lt (Z' := Z') h.num.bound)
  have HBR := Lib.hid (emod_lt (Z := Z) h0 h'.num.bound)
  have HBZ' := Lib.hid h'.num.bound
  have HBZ := Lib.hid h.num.bound
  have HB0 := h'.keep
  have HK : Hid (k ≤ 1000000 ∧ k' ≤ 1000000) := ⟨by omega, by omega⟩
  have H0 := Lib.hid h0
  obtain ⟨s, v, l, rfl, hv, ho, hz, hn⟩ := h
  obtain ⟨s', v', l', rfl, hv', ho', hz', hn'⟩ := h'
  have HL := keepLimT hv
  have HL' := keepLimT hv'
  have HO := Lib.hid ho
  have HO' := Lib.hid ho'
  have HN : Hid (l.length ≤ 900000 ∧ l'.length ≤ 900000) := ⟨by omega, by omega⟩
  have HZ : Hid (valS s l = Z ∧ valS s' l' = Z') := ⟨hz, hz'⟩
  have hne : l' ≠ [] := fun e => h0 (by rw [← hz']; exact (okB_nil_iff ho').2 e)
  have HNE := Lib.hid hne
  have hl : ((l'.length : Int) == 0) = false := by
    have := List.length_pos_iff.2 hne
    rw [beq_eq_false_iff_ne]; omega
  obtain ⟨a, c, rfl, -⟩ := hv
  obtain ⟨a', c', rfl, -⟩ := hv'
  obtain ⟨W0, e0, n1, n2, n3, n4, hb0, hz0⟩ := box4 w (.bool s) (.slice a l.length c) (.bool s') (.slice a' l'.length c') (.bool false) (.slice none 0 0) (.bool false) (.slice none 0 0)
  have n3' : NumBox W0 (w.heap.size + 1 + 1) (.bool false) (.slice none 0 0) := n3
  have n4' : NumBox W0 (w.heap.size + 1 + 1 + 1) (.bool false) (.slice none 0 0) := n4
  have N1 := n1.v.keep
  have N2 := n2.v.keep
  have N3 := n3'.v.keep
  have N4 := n4'.v.keep
  have B0 := Lib.hid hb0
  obtain ⟨c0, c1, -, -⟩ := n1
  clear hb0 n2 n3 n4 n3' n4'
  clear ho ho' hz hz' hn hn' hne hk hk' h0
  go_enter Tryz.func18, Tryz.ntmps18
  go_wp2_with fail
  clear e0
  refine (rCheck_any s _ l _ (HL.out _ B0.out)).mono ?_
  rintro e w1 ⟨rfl, hb1⟩
  rw [HO.out]
  have B1 := Lib.hid (Below.step B0.out hb1)
  have N1 := (N1.out _ hb1).keep
  have N2 := (N2.out _ hb1).keep
  have N3 := (N3.out _ hb1).keep
  have N4 := (N4.out _ hb1).keep
  have IS := Lib.hid hb1.size
  obtain ⟨d0, d1, -, -⟩ := (N2.out _ (Below.refl _ _)).c2
  clear hb1 c0 c1
  go_wp2_with fail
  refine (rCheck_any s' _ l' _ (HL'.out _ B1.out)).mono ?_
  rintro e w2 ⟨rfl, hb2⟩
  rw [HO'.out]
  have B2 := Lib.hid (Below.step B1.out hb2)
  have N1 := (N1.out _ hb2).keep
  have N2 := (N2.out _ hb2).keep
  have N3 := (N3.out _ hb2).keep
  have N4 := (N4.out _ hb2).keep
  have IS := Lib.hid (Nat.le_trans IS.out hb2.size)
  clear hb2 d0 d1
  obtain ⟨c0, c1, -, -⟩ := (N1.out _ (Below.refl _ _)).c2
  obtain ⟨d0, d1, -, -⟩ := (N2.out _ (Below.refl _ _)).c2
  go_wp2_with fail
  refine (rgoes_any _ _ l l' _ (HL.out _ B2.out) (HL'.out _ B2.out) (okB_iff.1 HO.out).1 (okB_iff.1 HO'.out).1 HN.out.1 HN.out.2 (okB_iff.1 HO'.out).2.1 HNE.out).mono ?_
  rintro e w3 ⟨⟨vq, vr, Q, R, rfl, hq, hr, sq, sr, eq, er⟩, hb3⟩
  have HQ := Lib.hid hq
  have HR := keepLimT hr
  have HSQ := Lib.hid sq
  have HSR := Lib.hid sr
  have HQR : Hid (val Q = val l / val l' ∧ val R = val l % val l') := ⟨eq, er⟩
  obtain ⟨aq, cq, rfl, -⟩ := hq
  obtain ⟨ar, cr, rfl, -⟩ := hr
  have B3 := Lib.hid (Below.step B2.out hb3)
  have N1 := (N1.out _ hb3).keep
  have N2 := (N2.out _ hb3).keep
  have N3 := (N3.out _ hb3).keep
  have N4 := (N4.out _ hb3).keep
  have IS := Lib.hid (Nat.le_trans IS.out hb3.size)
  clear hb3 c0 c1 d0 d1 sq sr eq er
  obtain ⟨c0, c1, -, -⟩ := (N1.out _ (Below.refl _ _)).c2
  obtain ⟨d0, d1, -, -⟩ := (N2.out _ (Below.refl _ _)).c2
  go_wp2_with fail
  have hbq : (valS (s != s') Q).natAbs < 1000000000 ^ k := by
    rw [valS_abs, HQR.out.1]
    have h1 := HBZ.out
    rw [← HZ.out.1, valS_abs] at h1
    exact Nat.lt_of_le_of_lt (Nat.div_le_self _ _) h1
  have hbr : (valS s R).natAbs < 1000000000 ^ k' := by
    rw [valS_abs, HQR.out.2]
    have h1 := HBZ'.out
    rw [← HZ.out.2, valS_abs] at h1
    have hp := val_pos (okB_iff.1 HO'.out).2.1 HNE.out
    exact Nat.lt_trans (Nat.mod_lt _ hp) h1
  refine (rnum_at (s != s') _ Q _ HQ.out HSQ.out k hbq).mono ?_
  rintro e w4 ⟨⟨u4, rfl, h4⟩, hb4⟩
  obtain ⟨ZQ, hZQ⟩ : ∃ x, valS (s != s') Q = x := ⟨_, rfl⟩
  obtain ⟨ZR, hZR⟩ : ∃ x, valS s R = x := ⟨_, rfl⟩
  rw [hZQ] at h4
  obtain ⟨s4, a4, n4, c4, rfl, -⟩ := h4.shape
  obtain ⟨W4, e4, m4, x4, y4⟩ := box1 w4 (.bool s4) (.slice a4 n4 c4)
  have H9 := (h4.below x4).keep
  have N9 := m4.v.keep
  have b4 := Below.step hb4 x4
  have B4 := Lib.hid (Below.step B3.out b4)
  have HBR4 := Lib.hid hbr
  have N1 := (N1.out _ b4).keep
  have N2 := (N2.out _ b4).keep
  have N3 := (N3.out _ b4).keep
  have N4 := (N4.out _ b4).keep
  have HR := keepLimT (HR.out _ b4)
  have I9 : Hid (w.heap.size + 4 ≤ w4.heap.size) := by have h1 := hb4.size; have h2 := IS.out; show _ ≤ _; omega
  have HZQ : Hid (valS (s != s') Q = ZQ ∧ valS s R = ZR) := ⟨hZQ, hZR⟩
  clear hb4 b4 c0 c1 d0 d1 h4 m4 x4 hbq hbr hZQ
  obtain ⟨c0, c1, -, -⟩ := (N1.out _ (Below.refl _ _)).c2
  go_wp2_with fail
  clear e4
  obtain ⟨b9, hb9⟩ : ∃ b9, w4.heap.size = b9 := ⟨_, rfl⟩
  rw [hb9] at N9 I9 y4 ⊢
  refine (rnum_at s _ R _ (HR.out _ (Below.refl _ _)) HSR.out k' HBR4.out).mono ?_
  rintro e w5 ⟨⟨u5, rfl, h5⟩, hb5⟩
  rw [hZR] at h5
  have h5' := h5
  obtain ⟨s5, v5, l5, rfl, hl5, ok5, z5, -⟩ := h5
  have HS5 := Lib.hid (okB_neg ok5 z5)
  obtain ⟨a5, c5, rfl, -⟩ := hl5
  obtain ⟨W5, e5, m5, x5, y5⟩ := box1 w5 (.bool s5) (.slice a5 l5.length c5)
  have H10 := (h5'.below x5).keep
  have N10 := m5.v.keep
  have I10 : Hid (w.heap.size + 4 ≤ w5.heap.size) := by have h1 := hb5.size; have h2 := I9.out; show _ ≤ _; omega
  have b5 := Below.step hb5 x5
  have B7 := Lib.hid (Below.step B4.out b5)
  have N2 := (N2.out _ b5).keep
  have N3 := (N3.out _ b5).keep
  have N4 := (N4.out _ b5).keep
  have N9 := (N9.out _ b5).keep
  have H9 := (H9.out _ b5).keep
  clear hb5 b5 c0 c1 h5' m5 x5 y5 ok5 z5 hb9 hZR y4
  obtain ⟨c0, c1, -, -⟩ := (N10.out _ (Below.refl _ _)).c2
  have hzW : w.heap.size + 1 + 1 < W0.heap.size ∧ w.heap.size + 1 + 1 + 1 < W0.heap.size := by rw [hz0]; omega
  cases s5 with
  | false =>
    have HE : Hid (ZQ = Z / Z' ∧ ZR = Z % Z') := by
      have hn : ¬ ZR < 0 := by have := HS5.out; simpa using this.symm
      have := qr_same HZ.out.1 HZ.out.2 H0.out HQR.out.1 HQR.out.2 (by rw [HZQ.out.2]; exact hn)
      rw [HZQ.out.1, HZQ.out.2] at this
      exact this
    obtain ⟨d0, d1, -, -⟩ := (N9.out _ (Below.refl _ _)).c2
    obtain ⟨g0, g1, g2, g3⟩ := (N3.out _ (Below.refl _ _)).c2
    obtain ⟨k0, k1, k2, k3⟩ := (N4.out _ (Below.refl _ _)).c2
    go_upto_region 9 with fail
    rename_i K9 hK9
    clear e5
    obtain ⟨b10, hb10⟩ : ∃ b10, w5.heap.size = b10 := ⟨_, rfl⟩
    rw [hb10] at N10 I10 c0 c1 ⊢
    clear hb10
    have i1 : w.heap.size + 1 + 1 ≠ b10 := by have := I10.out; omega
    have i2 : b10 ≠ w.heap.size + 1 + 1 := by have := I10.out; omega
    have i3 : w.heap.size + 1 + 1 ≠ b9 := by have := I9.out; omega
    have i4 : b9 ≠ w.heap.size + 1 + 1 := by have := I9.out; omega
    have i5 : w.heap.size + 1 + 1 + 1 ≠ b9 := by have := I9.out; omega
    have i6 : b9 ≠ w.heap.size + 1 + 1 + 1 := by have := I9.out; omega
    have i7 : w.heap.size + 1 + 1 + 1 ≠ b10 := by have := I10.out; omega
    have i8 : b10 ≠ w.heap.size + 1 + 1 + 1 := by have := I10.out; omega
    have n3 := N3.out _ (Below.refl _ _)
    obtain ⟨V1, f1, st1, bx1⟩ := n3.store (ys := [.bool s4, .slice a4 n4 c4]) rfl rfl
    have m4 := st1.box (by omega) (N4.out _ (Below.refl _ _))
    obtain ⟨V2, f2, st2, bx2⟩ := m4.store (ys := [.bool false, .slice a5 l5.length c5]) rfl rfl
    have hdr : Below V2.heap.size V2 V2.drew := (Below.refl _ _).drew
    have hq1 : OkAt V2 (.agg #[.bool s4, .slice a4 n4 c4]) k (Z / Z') := by have := ((H9.out _ (Below.refl _ _)).stored st1).stored st2; rwa [HE.out.1] at this
    have hr1 : OkAt V2 (.agg #[.bool false, .slice a5 l5.length c5]) k' (Z % Z') := by have := ((H10.out _ (Below.refl _ _)).stored st1).stored st2; rwa [HE.out.2] at this
    have F1 := Lib.hid ((st2.box (by omega) bx1).below hdr)
    have F2 := Lib.hid (bx2.below hdr)
    have FQ := Lib.hid (hq1.below hdr)
    have FR := Lib.hid (hr1.below hdr)
    have FB := Lib.hid (Below.step (st2.below w (by omega) (st1.below w (by omega) B7.out)) hdr)
    simp only [setAll] at f1 f2
    subst f1
    subst f2
    clear n3 st1 st2 bx1 bx2 m4 hdr hq1 hr1
    go_region
    go_wp2_with fail
    exact ret_qr (t := 4) (t' := 5) (s0 := 6) rfl rfl rfl rfl rfl F1.out F2.out ⟨⟨_, _, rfl, FQ.out, FR.out⟩, FB.out⟩
  | true =>
    have HE0 : Hid (ZQ - sgn s' = Z / Z' ∧ ZR + sgn s' * Z' = Z % Z') := by
      have hn : ZR < 0 := by have := HS5.out; simpa using this.symm
      have := qr_down HZ.out.1 HZ.out.2 H0.out HQR.out.1 HQR.out.2 (by rw [HZQ.out.2]; exact hn)
      rw [HZQ.out.1, HZQ.out.2] at this
      exact this
    go_wp2_with fail
    clear e5
    obtain ⟨b10, hb10⟩ : ∃ b10, w5.heap.size = b10 := ⟨_, rfl⟩
    rw [hb10] at N10 I10 c0 c1 ⊢
    clear hb10
    clear c0 c1
    refine (rOf_num 1 _ (by decide) (by decide)).mono ?_
    rintro e w6 ⟨⟨u6, rfl, h6⟩, hb6⟩
    obtain ⟨s6, a6, n6, c6, rfl, -⟩ := h6.shape
    obtain ⟨W6, e6, m6, x6, y6⟩ := box1 w6 (.bool s6) (.slice a6 n6 c6)
    have H11 := (h6.below x6).keep
    have N11 := m6.v.keep
    have b6 := Below.step hb6 x6
    have B8 := Lib.hid (Below.step B7.out b6)
    have N2 := (N2.out _ b6).keep
    have N3 := (N3.out _ b6).keep
    have N4 := (N4.out _ b6).keep
    have N9 := (N9.out _ b6).keep
    have H9 := (H9.out _ b6).keep
    have N10 := (N10.out _ b6).keep
    have H10 := (H10.out _ b6).keep
    have HB := (HB0.out _ B8.out).keep
    clear hb6 b6 h6 m6 x6 y6
    obtain ⟨c0, c1, -, -⟩ := (N2.out _ (Below.refl _ _)).c2
    cases s' with
    | true =>
      have HE : Hid (ZQ + 1 = Z / Z' ∧ ZR - Z' = Z % Z') := by
        have := HE0.out
        simp only [sgn] at this
        rw [← this.1, ← this.2]
        exact ⟨by simp, by simp [Int.sub_eq_add_neg]⟩
      go_upto_region 12 with fail
      rename_i K9 hK9
      clear e6
      obtain ⟨b11, hb11⟩ : ∃ b11, w6.heap.size = b11 := ⟨_, rfl⟩
      rw [hb11] at N11 ⊢
      clear hb11
      refine wp_region_tail []
        [(3, IsV (.pointer (some ⟨w.heap.size + 1, 0, none⟩))), (4, IsV (.pointer (some ⟨w.heap.size + 1 + 1, 0, none⟩))), (5, IsV (.pointer (some ⟨w.heap.size + 1 + 1 + 1, 0, none⟩))), (9, IsV (.pointer (some ⟨b9, 0, none⟩))), (10, IsV (.pointer (some ⟨b10, 0, none⟩))), (11, IsV (.pointer (some ⟨b11, 0, none⟩)))]
        [(55, IsO k ZQ), (56, IsO 3 1), (57, IsO (max k 3 + 1) (ZQ + 1)), (58, IsO k' ZR), (59, IsO k' Z'), (60, IsO (max k' k' + 1) (ZR - Z'))]
        [] 67 6 (by kernel_rfl) rfl (by kernel_rfl) (by kernel_rfl) (by kernel_rfl) (by kernel_rfl) ⟨rfl, rfl, rfl, rfl, rfl, rfl, trivial⟩ ⟨IsV.grows _, IsV.grows _, IsV.grows _, IsV.grows _, IsV.grows _, IsV.grows _, IsO.grows _ _, IsO.grows _ _, IsO.grows _ _, IsO.grows _ _, IsO.grows _ _, IsO.grows _ _, trivial⟩ ?_ (fun d _ _ _ _ h => by cases d <;> exact h) ?_ ?_
      · refine AllStep2.step rfl rfl (step_loadT (fun _ _ h => h) (fun W hb => run_load2 rfl (N9.out W hb).at0 (N9.out W hb).at1) (fun w hb => H9.out w hb)) ?_
        refine AllStep2.step rfl rfl (step_loadT (fun _ _ h => h) (fun W hb => run_load2 rfl (N11.out W hb).at0 (N11.out W hb).at1) (fun w hb => H11.out w hb)) ?_
        refine AllStep2.step rfl rfl (step_call2 (Plain.of Tryz.func79 rfl rfl) (fun _ _ _ _ hu hv => rAdd_num (OkAt.num hu) (OkAt.num hv) HK.out.1 (by decide))) ?_
        refine AllStep2.step rfl rfl (step_loadT (fun _ _ h => h) (fun W hb => run_load2 rfl (N10.out W hb).at0 (N10.out W hb).at1) (fun w hb => H10.out w hb)) ?_
        refine AllStep2.step rfl rfl (step_loadT (fun _ _ h => h) (fun W hb => run_load2 rfl (N2.out W hb).at0 (N2.out W hb).at1) (fun w hb => HB.out w hb)) ?_
        refine AllStep2.step rfl rfl (step_call2 (Plain.of Tryz.func80 rfl rfl) (fun _ _ _ _ hu hv => rSub_num (OkAt.num hu) (OkAt.num hv) HK.out.2 HK.out.2)) ?_
        exact AllStep2.nil
      · intro t ht v w hk
        simp only [List.mem_cons, List.not_mem_nil, or_false] at ht
      intro a9 w9 hb9 hs9 hd9 hk9 _
      have hq9 : OkAt w9 (a9.eval (.tmp 57)) (max k 3 + 1) (ZQ + 1) := hk9 57 (by kernel_rfl)
      have hr9 : OkAt w9 (a9.eval (.tmp 60)) (max k' k' + 1) (ZR - Z') := hk9 60 (by kernel_rfl)
      have q4 : a9.eval (.tmp 4) = .pointer (some ⟨w.heap.size + 1 + 1, 0, none⟩) := hk9 4 (by kernel_rfl)
      have q5 : a9.eval (.tmp 5) = .pointer (some ⟨w.heap.size + 1 + 1 + 1, 0, none⟩) := hk9 5 (by kernel_rfl)
      obtain ⟨y1, p1, i1, j1, ey⟩ := OkAt.agg hq9
      obtain ⟨z1, p2, i2, j2, ez⟩ := OkAt.agg hr9
      have hq9' : OkAt w9 (.agg #[.bool y1, .slice p1 i1 j1]) (max k 3 + 1) (ZQ + 1) := by rw [← ey]; exact hq9
      have hr9' : OkAt w9 (.agg #[.bool z1, .slice p2 i2 j2]) (max k' k' + 1) (ZR - Z') := by rw [← ez]; exact hr9
      have n3 := N3.out _ hb9
      obtain ⟨V1, f1, st1, bx1⟩ := n3.store (ys := [.bool y1, .slice p1 i1 j1]) rfl rfl
      have n4 := st1.box (by omega) (N4.out _ hb9)
      obtain ⟨V2, f2, st2, bx2⟩ := n4.store (ys := [.bool z1, .slice p2 i2 j2]) rfl rfl
      have bx1' := st2.box (by omega) bx1
      refine wpOps_step (i := 6) (rest := [7, 8]) rfl rfl ?_
      refine wp_store_T q4 ey (run_store2 n3) ?_
      rw [f1]
      refine wpOps_step (i := 7) (rest := [8]) rfl rfl ?_
      refine wp_store_T q5 ez (run_store2 n4) ?_
      rw [f2]
      refine wpOps_step (i := 8) (rest := []) rfl rfl ?_
      refine wp_assignk ?_
      refine hK9 _ _ ?_
      refine wp_ret ?_
      have hfin : bodyPost Tryz.prog Tryz.f18 (fun e w' => QrAt w' e k k' 0 (Z / Z') (Z % Z') ∧ Below w.heap.size w w') .ret (a9.put (some 6) (.int .i64 0)) V2 := by
        refine ret_qr (t := 4) (t' := 5) (s0 := 6) rfl hd9 ?_ ?_ ?_ bx1' bx2 ⟨⟨_, _, rfl, by have := (hq9'.stored st1).stored st2; rw [HE.out.1] at this; exact this.fitted HBQ.out, by have := (hr9'.stored st1).stored st2; rw [HE.out.2] at this; exact this.fitted HBR.out⟩, st2.below w (by omega) (st1.below w (by omega) (Below.step B8.out hb9))⟩
        · rw [eval_put' (by decide)]; exact q4
        · rw [eval_put' (by decide)]; exact q5
        · rw [eval_put (by rw [hs9]; decide), if_pos rfl]
      exact hfin
    | false =>
      have HE : Hid (ZQ - 1 = Z / Z' ∧ ZR + Z' = Z % Z') := by
        have := HE0.out
        simp only [sgn] at this
        rw [← this.1, ← this.2]
        exact ⟨by simp, by simp⟩
      go_upto_region 13 with fail
      rename_i K9 hK9
      clear e6
      obtain ⟨b11, hb11⟩ : ∃ b11, w6.heap.size = b11 := ⟨_, rfl⟩
      rw [hb11] at N11 ⊢
      clear hb11
      refine wp_region_tail []
        [(3, IsV (.pointer (some ⟨w.heap.size + 1, 0, none⟩))), (4, IsV (.pointer (some ⟨w.heap.size + 1 + 1, 0, none⟩))), (5, IsV (.pointer (some ⟨w.heap.size + 1 + 1 + 1, 0, none⟩))), (9, IsV (.pointer (some ⟨b9, 0, none⟩))), (10, IsV (.pointer (some ⟨b10, 0, none⟩))), (11, IsV (.pointer (some ⟨b11, 0, none⟩)))]
        [(61, IsO k ZQ), (62, IsO 3 1), (63, IsO (max k 3 + 1) (ZQ - 1)), (64, IsO k' ZR), (65, IsO k' Z'), (66, IsO (max k' k' + 1) (ZR + Z'))]
        [] 67 6 (by kernel_rfl) rfl (by kernel_rfl) (by kernel_rfl) (by kernel_rfl) (by kernel_rfl) ⟨rfl, rfl, rfl, rfl, rfl, rfl, trivial⟩ ⟨IsV.grows _, IsV.grows _, IsV.grows _, IsV.grows _, IsV.grows _, IsV.grows _, IsO.grows _ _, IsO.grows _ _, IsO.grows _ _, IsO.grows _ _, IsO.grows _ _, IsO.grows _ _, trivial⟩ ?_ (fun d _ _ _ _ h => by cases d <;> exact h) ?_ ?_
      · refine AllStep2.step rfl rfl (step_loadT (fun _ _ h => h) (fun W hb => run_load2 rfl (N9.out W hb).at0 (N9.out W hb).at1) (fun w hb => H9.out w hb)) ?_
        refine AllStep2.step rfl rfl (step_loadT (fun _ _ h => h) (fun W hb => run_load2 rfl (N11.out W hb).at0 (N11.out W hb).at1) (fun w hb => H11.out w hb)) ?_
        refine AllStep2.step rfl rfl (step_call2 (Plain.of Tryz.func80 rfl rfl) (fun _ _ _ _ hu hv => rSub_num (OkAt.num hu) (OkAt.num hv) HK.out.1 (by decide))) ?_
        refine AllStep2.step rfl rfl (step_loadT (fun _ _ h => h) (fun W hb => run_load2 rfl (N10.out W hb).at0 (N10.out W hb).at1) (fun w hb => H10.out w hb)) ?_
        refine AllStep2.step rfl rfl (step_loadT (fun _ _ h => h) (fun W hb => run_load2 rfl (N2.out W hb).at0 (N2.out W hb).at1) (fun w hb => HB.out w hb)) ?_
        refine AllStep2.step rfl rfl (step_call2 (Plain.of Tryz.func79 rfl rfl) (fun _ _ _ _ hu hv => rAdd_num (OkAt.num hu) (OkAt.num hv) HK.out.2 HK.out.2)) ?_
        exact AllStep2.nil
      · intro t ht v w hk
        simp only [List.mem_cons, List.not_mem_nil, or_false] at ht
      intro a9 w9 hb9 hs9 hd9 hk9 _
      have hq9 : OkAt w9 (a9.eval (.tmp 63)) (max k 3 + 1) (ZQ - 1) := hk9 63 (by kernel_rfl)
      have hr9 : OkAt w9 (a9.eval (.tmp 66)) (max k' k' + 1) (ZR + Z') := hk9 66 (by kernel_rfl)
      have q4 : a9.eval (.tmp 4) = .pointer (some ⟨w.heap.size + 1 + 1, 0, none⟩) := hk9 4 (by kernel_rfl)
      have q5 : a9.eval (.tmp 5) = .pointer (some ⟨w.heap.size + 1 + 1 + 1, 0, none⟩) := hk9 5 (by kernel_rfl)
      obtain ⟨y1, p1, i1, j1, ey⟩ := OkAt.agg hq9
      obtain ⟨z1, p2, i2, j2, ez⟩ := OkAt.agg hr9
      have hq9' : OkAt w9 (.agg #[.bool y1, .slice p1 i1 j1]) (max k 3 + 1) (ZQ - 1) := by rw [← ey]; exact hq9
      have hr9' : OkAt w9 (.agg #[.bool z1, .slice p2 i2 j2]) (max k' k' + 1) (ZR + Z') := by rw [← ez]; exact hr9
      have n3 := N3.out _ hb9
      obtain ⟨V1, f1, st1, bx1⟩ := n3.store (ys := [.bool y1, .slice p1 i1 j1]) rfl rfl
      have n4 := st1.box (by omega) (N4.out _ hb9)
      obtain ⟨V2, f2, st2, bx2⟩ := n4.store (ys := [.bool z1, .slice p2 i2 j2]) rfl rfl
      have bx1' := st2.box (by omega) bx1
      refine wpOps_step (i := 6) (rest := [7, 8]) rfl rfl ?_
      refine wp_store_T q4 ey (run_store2 n3) ?_
      rw [f1]
      refine wpOps_step (i := 7) (rest := [8]) rfl rfl ?_
      refine wp_store_T q5 ez (run_store2 n4) ?_
      rw [f2]
      refine wpOps_step (i := 8) (rest := []) rfl rfl ?_
      refine wp_assignk ?_
      refine hK9 _ _ ?_
      refine wp_ret ?_
      have hfin : bodyPost Tryz.prog Tryz.f18 (fun e w' => QrAt w' e k k' 0 (Z / Z') (Z % Z') ∧ Below w.heap.size w w') .ret (a9.put (some 6) (.int .i64 0)) V2 := by
        refine ret_qr (t := 4) (t' := 5) (s0 := 6) rfl hd9 ?_ ?_ ?_ bx1' bx2 ⟨⟨_, _, rfl, by have := (hq9'.stored st1).stored st2; rw [HE.out.1] at this; exact this.fitted HBQ.out, by have := (hr9'.stored st1).stored st2; rw [HE.out.2] at this; exact this.fitted HBR.out⟩, st2.below w (by omega) (st1.below w (by omega) (Below.step B8.out hb9))⟩
        · rw [eval_put' (by decide)]; exact q4
        · rw [eval_put' (by decide)]; exact q5
        · rw [eval_put (by rw [hs9]; decide), if_pos rfl]
      exact hfin

end Go.Proofs.YtgpoljbccimkjaaGreatDoor

namespace Go.Proofs.YtgpoljbccimkjaaGreatDoor
set_option linter.unusedSimpArgs false
set_option linter.unusedVariables false
open Go.RowKit Go.Shelf

theorem Lim.same {w : World} {v : Value} {l l' : List Nat} (h : Lim w v l) (h' : Lim w v l') : l = l' := by
  obtain ⟨a, c, rfl, h1, h2, h3, h4⟩ := h
  obtain ⟨a', c', e, g1, g2, g3, g4⟩ := h'
  injection e with e1 e2 e3
  subst e1
  refine List.ext_getElem e2 fun i i1 i2 => ?_
  rcases h4 with ⟨_, rfl, _⟩ | ⟨b, o, rfl, hc⟩
  · simp at i1
  · rcases g4 with ⟨e, _⟩ | ⟨b', o', e, hc'⟩
    · cases e
    · injection e with e
      injection e with e4 e5
      subst e4 e5
      have k1 := hc i i1
      have k2 := hc' i i2
      rw [k1] at k2
      have k3 := Option.some.inj k2
      injection k3 with _ k4
      rw [pt_getElem i1, pt_getElem i2] at k4
      omega
theorem gcd_step (a b : Int) : Int.gcd b (a % b) = Int.gcd a b := by
  rw [Int.emod_def, Int.gcd_comm a b]
  simp
/-- How great the number is that lies in a box. -/
noncomputable def boxAbs (W : World) (b : Nat) : Nat := open Classical in if h : ∃ n : Nat, ∃ s a m c k Z, BoxV W b [.bool s, .slice a m c] ∧ OkAt W (.agg #[.bool s, .slice a m c]) k Z ∧ Z.natAbs = n then Classical.choose h else 0
theorem boxAbs_is {W : World} {b k m c : Nat} {s : Bool} {a : Option Addr} {Z : Int} (h : BoxV W b [.bool s, .slice a m c]) (h' : OkAt W (.agg #[.bool s, .slice a m c]) k Z) : boxAbs W b = Z.natAbs := by
  have hx : ∃ n : Nat, ∃ s a m c k Z, BoxV W b [.bool s, .slice a m c] ∧ OkAt W (.agg #[.bool s, .slice a m c]) k Z ∧ Z.natAbs = n := ⟨_, s, a, m, c, k, Z, h, h', rfl⟩
  unfold boxAbs
  rw [dif_pos hx]
  obtain ⟨s1, a1, m1, c1, k1, Z1, g1, g2, g3⟩ := Classical.choose_spec hx
  rw [← g3]
  obtain ⟨p0, p1, -, -⟩ := h.c2
  obtain ⟨q0, q1, -, -⟩ := g1.c2
  rw [p0] at q0
  rw [p1] at q1
  obtain rfl : s = s1 := by injection Option.some.inj q0
  have e := Option.some.inj q1
  injection e with e1 e2 e3
  subst e1 e2 e3
  obtain ⟨s2, v2, l2, e, r1, r2, r3, -⟩ := h'
  obtain ⟨s3, v3, l3, e', t1, t2, t3, -⟩ := g2
  rw [e] at e'
  simp only [Value.agg.injEq, Array.mk.injEq, List.cons.injEq, Value.bool.injEq, and_true] at e'
  obtain ⟨rfl, rfl⟩ := e'
  obtain rfl := r1.same t1
  rw [← r3, ← t3]

set_option maxRecDepth 100000 in
set_option maxHeartbeats 4000000 in
theorem rGcd_num {w : World} {u u' : Value} {k k' : Nat} {Z Z' : Int} (h : NumAt w u k Z) (h' : NumAt w u' k' Z') (hk : k ≤ 900000) (hk' : k' ≤ 900000) :
    Calls Tryz.prog 20 #[u, u'] w fun e w' => AnsAt w' e (max k k') ((Int.gcd Z Z' : Nat) : Int) ∧ Below w.heap.size w w' := by
  have HG : Hid ((Int.gcd Z Z' : Int).natAbs < 1000000000 ^ max k k') := gcd_bound h.bound h'.bound
  have HK : Hid (max k k' ≤ 900000) := by show _ ≤ _; omega
  obtain ⟨s, v, l, rfl, hv, hz, hn⟩ := h
  obtain ⟨s', v', l', rfl, hv', hz', hn'⟩ := h'
  have HL := keepLimT hv
  have HL' := keepLimT hv'
  have HZ : Hid (numZ s l = Z ∧ numZ s' l' = Z') := ⟨hz, hz'⟩
  have HN : Hid ((fitL s l).length ≤ max k k' ∧ (fitL s' l').length ≤ max k k' ∧ (fitL s l).length ≤ 1000000 ∧ (fitL s' l').length ≤ 1000000) := by
    have h1 := fitL_le s l
    have h2 := fitL_le s' l'
    exact ⟨by omega, by omega, by omega, by omega⟩
  obtain ⟨a, c, rfl, -⟩ := hv
  obtain ⟨a', c', rfl, -⟩ := hv'
  obtain ⟨W0, e0, n1, n2, n3, hb0, hz0, hz1, hz2⟩ := box3 w (.bool s) (.slice a l.length c) (.bool s') (.slice a' l'.length c') (.bool false) (.slice none 0 0)
  have n3' : NumBox W0 (w.heap.size + 1 + 1) (.bool false) (.slice none 0 0) := n3
  have N1 := n1.v.keep
  have N2 := n2.v.keep
  have N3 := n3'.v.keep
  have B0 := Lib.hid hb0
  obtain ⟨c0, c1, -, -⟩ := n1
  clear hb0 n2 n3 n3' hz hz' hn hn' hk hk' hz0 hz1 hz2
  go_enter Tryz.func20, Tryz.ntmps20
  go_wp2_with fail
  clear e0
  refine (rFit_any s _ l _ (HL.out _ B0.out)).mono ?_
  rintro e w1 ⟨v1, rfl, hl1, hb1⟩
  have L1 := Lib.hid hl1
  obtain ⟨a1, k1, rfl, -⟩ := hl1
  have B1 := Lib.hid (Below.step B0.out hb1)
  have N1 := (N1.out _ hb1).keep
  have N2 := (N2.out _ hb1).keep
  have N3 := (N3.out _ hb1).keep
  clear hb1 c0 c1
  go_wp2_with fail
  refine (rTwin_any _ _ _ _ L1.out HN.out.2.2.1).mono ?_
  rintro e w2 ⟨⟨v2, rfl, hl2⟩, hb2⟩
  have hl2' := hl2
  obtain ⟨a2, k2, rfl, -⟩ := hl2
  have hA : OkAt w2 (.agg #[.bool (fitS s l), .slice a2 (fitL s l).length k2]) (max k k') Z := ⟨_, _, _, rfl, hl2', okB_fit _ _, by rw [numZ_fit, HZ.out.1], HN.out.1⟩
  have n1 := N1.out _ hb2
  obtain ⟨W2, g2, st2, bx2⟩ := n1.store (ys := [.bool (fitS s l), .slice a2 (fitL s l).length k2]) rfl rfl
  simp only [setAll] at g2
  obtain ⟨c0, c1, f0, f1⟩ := n1.c2
  have M1 := bx2.keep
  have HA := (hA.stored st2).keep
  have M2 := (st2.box (by omega) (N2.out _ hb2)).keep
  have M3 := (st2.box (by omega) (N3.out _ hb2)).keep
  have BB := Lib.hid (st2.below w (by omega) (Below.step B1.out hb2))
  obtain ⟨d0, d1, -, -⟩ := (st2.box (by omega) (N2.out _ hb2) : BoxV W2 (w.heap.size + 1) _).c2
  clear hb2 hl2' hA n1 st2 bx2 N1 N2 N3
  go_wp2_with fail
  clear g2 c0 c1 f0 f1
  refine (rFit_any s' _ l' _ (HL'.out _ BB.out)).mono ?_
  rintro e w3 ⟨v3, rfl, hl3, hb3⟩
  have L3 := Lib.hid hl3
  obtain ⟨a3, k3, rfl, -⟩ := hl3
  have BB := Lib.hid (Below.step BB.out hb3)
  have M1 := (M1.out _ hb3).keep
  have M2 := (M2.out _ hb3).keep
  have M3 := (M3.out _ hb3).keep
  have HA := (HA.out _ hb3).keep
  clear hb3 d0 d1
  go_wp2_with fail
  refine (rTwin_any _ _ _ _ L3.out HN.out.2.2.2).mono ?_
  rintro e w4 ⟨⟨v4, rfl, hl4⟩, hb4⟩
  have hl4' := hl4
  obtain ⟨a4, k4, rfl, -⟩ := hl4
  have hB : OkAt w4 (.agg #[.bool (fitS s' l'), .slice a4 (fitL s' l').length k4]) (max k k') Z' := ⟨_, _, _, rfl, hl4', okB_fit _ _, by rw [numZ_fit, HZ.out.2], HN.out.2.1⟩
  have n2 := M2.out _ hb4
  obtain ⟨W4, g4, st4, bx4⟩ := n2.store (ys := [.bool (fitS s' l'), .slice a4 (fitL s' l').length k4]) rfl rfl
  simp only [setAll] at g4
  obtain ⟨c0, c1, f0, f1⟩ := n2.c2
  have HB := (hB.stored st4).keep
  have HA := ((HA.out _ hb4).stored st4).keep
  have M1 := (st4.box (by omega) (M1.out _ hb4)).keep
  have M2 := bx4.keep
  have M3 := (st4.box (by omega) (M3.out _ hb4)).keep
  have BB := Lib.hid (st4.below w (by omega) (Below.step BB.out hb4))
  clear hb4 hl4' hB n2 st4 bx4
  go_wp2_with fail
  clear g4 c0 c1 f0 f1
  go_loopw [7] (fun _ wr => ∃ sa aa na ca sb ab nb cb ZA ZB, BoxV wr w.heap.size [.bool sa, .slice aa na ca] ∧ BoxV wr (w.heap.size + 1) [.bool sb, .slice ab nb cb] ∧ BoxV wr (w.heap.size + 1 + 1) [.bool false, .slice none 0 0] ∧ OkAt wr (.agg #[.bool sa, .slice aa na ca]) (max k k') ZA ∧ OkAt wr (.agg #[.bool sb, .slice ab nb cb]) (max k k') ZB ∧ Int.gcd ZA ZB = Int.gcd Z Z' ∧ Below w.heap.size w wr) (fun _ wr => boxAbs wr (w.heap.size + 1))
  case atStart => exact ⟨_, _, _, _, _, _, _, _, Z, Z', M1.out _ (Below.refl _ _), M2.out _ (Below.refl _ _), M3.out _ (Below.refl _ _), HA.out _ (Below.refl _ _), HB.out _ (Below.refl _ _), rfl, BB.out⟩
  case round =>
    clear M1 M2 M3 HA HB BB L1 L3 B1 B0
    obtain ⟨sa, aa, na, ca, sb, ab, nb, cb, ZA, ZB, m1, m2, m3, hA, hB, hG, hbl⟩ := hrel
    have M1 := m1.keep
    have M2 := m2.keep
    have M3 := m3.keep
    have HA := hA.keep
    have HB := hB.keep
    have HGG := Lib.hid hG
    have BB := Lib.hid hbl
    have HMS := Lib.hid (boxAbs_is m2 hB)
    have hnb : nb = 0 ↔ ZB = 0 := by
      obtain ⟨s1, v1, l1, e, q1, q2, q3, q4⟩ := hB
      simp only [Value.agg.injEq, Array.mk.injEq, List.cons.injEq, Value.bool.injEq, and_true] at e
      obtain ⟨rfl, rfl⟩ := e
      obtain ⟨a', c', e, -⟩ := q1
      injection e with e1 e2 e3
      rw [e2, ← q3, okB_nil_iff q2]
      exact ⟨List.eq_nil_of_length_eq_zero, fun e => by rw [e]; rfl⟩
    obtain ⟨c0, c1, -, -⟩ := m2.c2
    clear m1 m3 hA hB hG hbl
    by_cases h0 : nb = 0
    · have hZ0 := hnb.1 h0
      have hgt : ¬ (0 : Int) < (nb : Int) := by omega
      have HF : Hid ((Int.gcd Z Z' : Nat) = ZA.natAbs) := by show _ = _; rw [← HGG.out, hZ0, Int.gcd_zero_right]
      obtain ⟨d0, d1, -, -⟩ := (M1.out _ (Below.refl _ _)).c2
      have hA := HA.out _ (Below.refl _ _)
      obtain ⟨s1, v1, l1, e, q1, q2, q3, q4⟩ := hA
      simp only [Value.agg.injEq, Array.mk.injEq, List.cons.injEq, Value.bool.injEq, and_true] at e
      obtain ⟨rfl, rfl⟩ := e
      have HQ := Lib.hid q1
      have HS := Lib.hid (okB_iff.1 q2).1
      have hv : valS false l1 = ((Int.gcd Z Z' : Nat) : Int) := by
        rw [HF.out, ← q3, valS_abs]; rfl
      have HV := Lib.hid hv
      clear hnb h0 hZ0 q1 q2 q3 q4 m2 hv
      go_wp2_with fail
      refine (rnum_at false _ l1 _ HQ.out HS.out (max k k') (by rw [HV.out]; exact HG.out)).mono ?_
      rintro e w5 ⟨⟨u5, rfl, h5⟩, hb5⟩
      rw [HV.out] at h5
      have H5 := Lib.hid h5
      obtain ⟨s5, a5, n5, c5, rfl, -⟩ := h5.shape
      have hN := M3.out _ hb5
      have N := Lib.hid hN
      obtain ⟨g0, g1, f0, f1⟩ := hN.c2
      have B5 := Lib.hid (Below.step BB.out hb5)
      clear h5 hb5 hN d0 d1 c0 c1
      go_wp2_with fail
      obtain ⟨W', e, hst, hbx⟩ := N.out.store (ys := [.bool s5, .slice a5 n5 c5]) rfl rfl
      simp only [setAll] at e
      rw [e]
      obtain ⟨k0, k1, -, -⟩ := hbx.c2
      exact bodyPost_ret (v := .agg #[.bool s5, .slice a5 n5 c5]) (by simp [results, Tryz.results20, go_sem, k0, k1]) rfl ⟨⟨_, rfl, H5.out.stored hst⟩, hst.below w (by omega) B5.out⟩
    · have hgt : (0 : Int) < (nb : Int) := by omega
      have HZ0 : Hid (ZB ≠ 0) := fun e => h0 (hnb.2 e)
      obtain ⟨d0, d1, -, -⟩ := (M1.out _ (Below.refl _ _)).c2
      clear h0 hnb m2
      go_wp2_with fail
      refine (rDiv_num (HA.out _ (Below.refl _ _)) (HB.out _ (Below.refl _ _)) HK.out HK.out HZ0.out).mono ?_
      rintro e w5 ⟨⟨uq, ur, rfl, hq, hr⟩, hb5⟩
      obtain ⟨sq, aq, nq, cq, rfl, -⟩ := hq.shape
      obtain ⟨sr, ar, nr, cr, rfl, -⟩ := hr.shape
      obtain ⟨W6, e6, m5, m6, b6, -, hz6⟩ := box2 w5 (.bool sq) (.slice aq nq cq) (.bool sr) (.slice ar nr cr)
      have b56 := Below.step hb5 b6
      have n1 := M1.out _ b56
      obtain ⟨W7, g7, st7, bx7⟩ := n1.store (ys := [.bool sb, .slice ab nb cb]) rfl rfl
      have n2 := st7.box (by omega) (M2.out _ b56)
      obtain ⟨W8, g8, st8, bx8⟩ := n2.store (ys := [.bool sr, .slice ar nr cr]) rfl rfl
      have hlt : w.heap.size + 1 + 1 < w5.heap.size := by have h1 := (M3.out _ hb5).lt; omega
      have x6 := st7.box (b' := w5.heap.size + 1) (by omega) m6.v
      simp only [setAll] at g7 g8
      obtain ⟨p0, p1, q0, q1⟩ := n1.c2
      obtain ⟨r0, r1, -, -⟩ := (M2.out _ b56).c2
      obtain ⟨t0, t1, y0, y1⟩ := n2.c2
      obtain ⟨z0, z1, -, -⟩ := x6.c2
      obtain ⟨z2, z3, -, -⟩ := m6
      have F1 := Lib.hid (st8.box (by omega) bx7)
      have F2 := Lib.hid bx8
      have F3 := Lib.hid (st8.box (by omega) (st7.box (by omega) (M3.out _ b56)))
      have FA := Lib.hid (((HB.out _ b56).stored st7).stored st8)
      have FB := Lib.hid (((hr.below b6).stored st7).stored st8)
      have FW := Lib.hid (st8.below w (by omega) (st7.below w (by omega) (Below.step BB.out b56)))
      have FK := Lib.hid (FB.out.fitted (k' := max k k') (emod_lt HZ0.out (HB.out _ (Below.refl _ _)).num.bound))
      clear hq hr hb5 b6 b56 n1 n2 st7 st8 bx7 bx8 x6 c0 c1 d0 d1 m5
      go_wp2_with fail
      clear e6 g7 g8
      go_roundw
      case rel =>
        exact ⟨_, _, _, _, _, _, _, _, ZB, ZA % ZB, F1.out, F2.out, F3.out, FA.out, FK.out, by rw [← HGG.out]; exact gcd_step ZA ZB, FW.out⟩
      case measure =>
        rw [boxAbs_is F2.out FK.out, HMS.out]
        have a1 := Int.emod_nonneg ZA HZ0.out
        have a2 := Int.emod_lt ZA HZ0.out
        omega

end Go.Proofs.YtgpoljbccimkjaaGreatDoor
