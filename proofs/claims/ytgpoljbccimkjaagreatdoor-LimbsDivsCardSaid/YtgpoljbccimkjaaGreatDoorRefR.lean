/- Walk of the reference of layer 1: how often an amount goes into another one, of two parts and more. -/
import Derived.Test.YtgpoljbccimkjaaGreatDoorRefQ
import Derived.Test.YtgpoljbccimkjaaGreatDoorBook9
namespace Go.Proofs.YtgpoljbccimkjaaGreatDoor
open Go.RowKit Go.Shelf

/-- What block g holds, as an amount of n parts. -/
def frontVal (W : World) (g n : Nat) : Nat := val ((List.range n).map fun i => match W.cell? ⟨g, i, none⟩ with | some (.int _ x) => x.toNat | _ => 0)
theorem Front.frontVal {W : World} {g c : Nat} {L : List Nat} (h : Front W g c L) : Go.Proofs.YtgpoljbccimkjaaGreatDoor.frontVal W g L.length = val L := by
  unfold Go.Proofs.YtgpoljbccimkjaaGreatDoor.frontVal
  congr 1
  apply List.ext_getElem
  · simp
  · intro i h1 h2
    simp only [List.getElem_map, List.getElem_range]
    rw [h.cell h2]
    simp [pt_getElem h2]

def IsVL (u : Value) (l : List Nat) (v : Value) (w : World) : Prop := v = u ∧ Lim w v l
theorem IsVL.grows (u : Value) (l : List Nat) : Grows (IsVL u l) := fun _ _ _ h hb => ⟨h.1, h.2.below hb⟩

section
variable {bs : List (Nat × Bool)} {fs : List (Nat × (Value → World → Prop))} {w0 : World} {d : Nat} {ty : TypeId} {pos : String} {af : Array Edge} {g : Option (Nat × Bool)}
set_option maxRecDepth 100000 in
theorem step_callkx {f : FuncId} (hp : Plain f) {k : Value} {x : Nat} {ts : Array TypeId} (h : ∀ u w, Below w0.heap.size w0 w → Known bs fs x u w → Calls Tryz.prog f #[k, u] w fun e w' => (∃ r, e = .returned r ∧ Known bs fs d r w') ∧ Below w.heap.size w w') : StepOk Tryz.prog bs fs w0 ⟨some d, .call { callee := .value (.func f), args := #[.const k, .tmp x], argTypes := ts }, ty, pos, af, g⟩ :=
  step_enter rfl (fun a => #[k, a.eval (.tmp x)]) (fun a w => by rw [exec_call hp a]; simp [Act.eval]) fun a w hb hk => h _ w hb (hk x (by simp [looks, Op.operands, Call.operands]))
theorem step_eqU {x : Nat} {t' : TypeId} {m k : Int} {b : Bool} (hx : ∀ v w, Known bs fs x v w → v = .int .u64 m) (hb' : (m == k) = b) (h : ∀ w, Known bs fs d (.bool b) w) : StepOk Tryz.prog bs fs w0 ⟨some d, .binOp .eql 100 (.tmp x) (.const (.int .u64 k)) t', ty, pos, af, g⟩ :=
  step_value rfl fun a w hb hk => ⟨.bool b, w, by
    have h1 := hx _ _ (hk x (by simp [looks, Op.operands]))
    have h2 : a.eval (.const (.int .u64 k)) = .int .u64 k := rfl
    simp only [execOp, h1, h2, ← hb']
    go_simp, h _, Below.refl _ _⟩
end

theorem top_still (la : List Nat) (va : Value) (j t : Nat) (w : World) (ha : Lim w va la) (h1 : ∀ x ∈ la, x < 1000000000) (hj : j < la.length) (n1 : la.length ≤ 1000000) (ht : 1000000000 * pt la (j + 1) + pt la j = t) :
    Calls Tryz.prog 161 #[va, .int .i64 ((j : Int) + 1)] w fun e w' => e = .returned (.int .u64 (t : Nat)) ∧ w' = w :=
  (rtop_any va la j w ha h1 hj n1).mono fun e w' ⟨h2, h3⟩ => ⟨by rw [h2, ht], h3.symm⟩

set_option maxRecDepth 100000 in
set_option maxHeartbeats 1000000 in
theorem rgoes_more (va vb : Value) (la lb : List Nat) (w : World) (ha : Lim w va la) (hb : Lim w vb lb) (h1 : ∀ x ∈ la, x < 1000000000) (h2 : ∀ x ∈ lb, x < 1000000000) (n1 : la.length ≤ 900000) (t2 : Top lb) (hl : lb.length ≤ la.length) (hl2 : 2 ≤ lb.length) :
    Calls Tryz.prog 77 #[va, vb] w fun e w' => Went w' e la lb ∧ Below w.heap.size w w' := by
  have HA := Lib.hid ha
  have HBL : Hid (∀ W, Below w.heap.size w W → Lim W vb lb) := fun W hB => hb.below hB
  have H1 := Lib.hid h1
  have H2 := Lib.hid h2
  have h0 : lb ≠ [] := fun e => by rw [e] at hl2; simp at hl2
  have HS := Lib.hid (GoInv.start h1 h2 t2 h0)
  obtain ⟨a', c', rfl, q1, q2, -⟩ := ha
  have hb' := hb
  obtain ⟨a, c, rfl, p1, p2, -⟩ := hb
  have HC := hb'.at
  unfold maxLen at q2 p2
  clear hb'
  have hlI : (lb.length : Int) ≤ (la.length : Int) := by omega
  have hl1 : (((lb.length : Nat) : Int) == 1) = false := by rw [beq_eq_false_iff_ne]; omega
  have hmk := run_make_u32 ((la.length : Int) + 1) (la.length + 1) (by omega) (by omega)
  clear h1 h2
  go_enter Tryz.func77, Tryz.ntmps77
  go_wp2_with (at_builtin; refine wpList_append_lim rfl _ _ rfl rfl rfl rfl HA.out (by omega) ?_; intro v1 w1 hL hb1; obtain ⟨gL, cL, rfl, hF, hgw, hcl, hcm⟩ := hL.front (by omega))
  have FL := Lib.hid hF
  have B1 := Lib.hid hb1
  have hgl := hF.lt
  clear hF hb1 hL
  obtain ⟨W2, e2, m3, m4⟩ : ∃ W2, w1.alloc (.cells (madeCells #[.int .u32 0] (la.length + 1)) 99) = W2 ∧ Hid (Front W2 w1.heap.size (la.length + 1) (List.replicate (la.length + 1) 0)) ∧ Hid (Below w1.heap.size w1 W2) :=
    ⟨_, rfl, ⟨_, CellsAt.new _ _ _, by rw [← Array.length_toList, made_list, u32s_length]; simp, by simp, by rw [made_list, List.take_of_length_le (by rw [u32s_length]; simp)]⟩, (show Below w1.heap.size w1 _ from (by repeat (first | exact Below.refl _ _ | with_reducible refine Below.drew ?_ | with_reducible refine below_drewN ?_ _ | with_reducible refine Below.setCell ?_ (by first | (simp; done) | (simp; omega) | omega) _ | with_reducible refine Below.alloc ?_ (by first | (simp; done) | (simp; omega) | omega) _)))⟩
  rw [e2]
  obtain ⟨qb, hqb⟩ : ∃ qb, w1.heap.size = qb := ⟨_, rfl⟩
  rw [hqb] at m3 hgl ⊢
  have FL2 := Lib.hid (FL.out.below m4.out)
  have B2 := Lib.hid (Below.step B1.out m4.out)
  have hqw : w.heap.size ≤ qb := by rw [← hqb]; exact B1.out.size
  unfold maxLen at hcm
  clear e2 hmk FL m4 B1 hqb
  go_loopw [10] (fun i wr => ∃ (j : Nat) (ii : Int) (Q L : List Nat), j ≤ la.length + 1 - lb.length ∧ i = .int .i64 ii ∧ ii = (j : Int) - 1 ∧ GoInv la lb j Q L ∧ Front wr gL cL L ∧ Front wr qb (la.length + 1) Q ∧ Below w.heap.size w wr) (fun i _ => (intOf i + 1).toNat)
  case atStart => exact ⟨_, _, _, la, Nat.le_refl _, rfl, by omega, HS.out, FL2.out, m3.out, B2.out⟩
  case round =>
    obtain ⟨j, ii, Q, L, hj, rfl, hii, hI, hF, hG, hB⟩ := hrel
    have HI := Lib.hid hI
    have HF := Lib.hid hF
    have HG := Lib.hid hG
    have HB := Lib.hid hB
    clear hI hF hG hB m3 FL2 B2 HS
    cases j with
    | zero =>
      obtain rfl : ii = -1 := by omega
      clear hii
      go_wp2
      go_ret2
      obtain ⟨d1, d2⟩ := HI.out.done
      have hLl : L.length = la.length := HI.out.1
      have hQl : Q.length = la.length + 1 := HI.out.2.2.1
      have hO := HF.out.own (n := w.heap.size) hgw (by unfold maxLen; omega) (fun x hx => Nat.lt_trans (HI.out.2.1 x hx) (by decide))
      have hO2 := HG.out.own (n := w.heap.size) hqw (by unfold maxLen; omega) (fun x hx => Nat.lt_trans (HI.out.2.2.2.1 x hx) (by decide))
      rw [hLl] at hO
      rw [hQl] at hO2
      exact ⟨⟨_, _, Q, L, rfl, hO2.lim, hO.lim, HI.out.2.2.2.1, HI.out.2.1, d1, d2⟩, HB.out⟩
    | succ k =>
      obtain rfl : ii = (k : Int) := by omega
      have hkI : (k : Int) + (lb.length : Int) ≤ (la.length : Int) := by omega
      have hkl : k + lb.length ≤ la.length := by omega
      clear hii hj
      go_wp2
      go_loopw [11] (fun _ wr => ∃ (Q L : List Nat), GiInv la lb k Q L ∧ Front wr gL cL L ∧ Front wr qb (la.length + 1) Q ∧ Below w.heap.size w wr) (fun _ wr => Go.Proofs.YtgpoljbccimkjaaGreatDoor.frontVal wr gL la.length)
      case atStart => exact ⟨Q, L, HI.out.inner, HF.out, HG.out, HB.out⟩
      case round =>
        clear HI HF HG HB
        obtain ⟨Q, L, hI, hF, hG, hB⟩ := hrel
        have HI := Lib.hid hI
        have HF := Lib.hid hF
        have HG := Lib.hid hG
        have HB := Lib.hid hB
        have hLl : L.length = la.length := hI.1
        have hQl : Q.length = la.length + 1 := hI.2.2.1
        have HLs := Lib.hid hI.2.1
        have HLp : Hid (∀ i, pt L i < 1000000000) := fun i => pt_lt (by decide) hI.2.1 i
        clear hI hF hG hB
        obtain ⟨n', hn'⟩ : ∃ n', lb.length = n' + 1 := ⟨lb.length - 1, by omega⟩
        obtain ⟨j, hj⟩ : ∃ j, k + n' = j := ⟨_, rfl⟩
        have hnI : (lb.length : Int) - 1 = (n' : Int) := by omega
        have hjI : (k : Int) + (lb.length : Int) = (j : Int) + 1 := by omega
        have hjl : j < L.length := by omega
        have hjB : (j : Int) ≤ 900000 := by omega
        have hjw : IntKind.i64.wrap ((j : Int) + 1) = (j : Int) + 1 := by rw [IntKind.wrap_i64]; omega
        have hp0 := HLp.out j
        have hp1 := HLp.out (j + 1)
        have hpb : pt lb n' < 1000000000 := pt_lt (by decide) H2.out n'
        obtain ⟨tt, htt⟩ : ∃ t, 1000000000 * pt L (j + 1) + pt L j = t := ⟨_, rfl⟩
        have httI : (tt : Int) ≤ 999999999999999999 := by omega
        obtain ⟨dd, hdd⟩ : ∃ d, pt lb n' + 1 = d := ⟨_, rfl⟩
        have hddI : (pt lb n' : Int) + 1 = (dd : Int) := by omega
        have hdz : (((dd : Nat) : Int) == 0) = false := by rw [beq_eq_false_iff_ne]; omega
        obtain ⟨f, hf⟩ : ∃ f, tt / dd = f := ⟨_, rfl⟩
        have hfI : (tt : Int) / (dd : Int) = (f : Int) := by rw [← hf]; exact (Int.natCast_ediv _ _).symm
        have h9 := goes_often (L := L) (k := k) H2.out h0
        rw [show k + lb.length = j + 1 by omega, show j + 1 - 1 = j by omega, show lb.length - 1 = n' by omega, htt, hdd, hf] at h9
        have H9 := Lib.hid h9
        have hroom := HI.out.room h9
        have hf9 : (f : Int) ≤ 999999999 := by omega
        have hpw : IntKind.u64.wrap (pt lb n' : Int) = (pt lb n' : Int) := by rw [IntKind.wrap_u64]; omega
        have hdn : ¬ dd = 0 := by omega
        have hnw : IntKind.i64.wrap (n' : Int) = (n' : Int) := by rw [IntKind.wrap_i64]; omega
        have hdw : IntKind.u64.wrap (dd : Int) = (dd : Int) := by rw [IntKind.wrap_u64]; omega
        have hfw : IntKind.u64.wrap (f : Int) = (f : Int) := by rw [IntKind.wrap_u64]; omega
        obtain ⟨bb, o, rfl, -, hcb⟩ := HC.out n' (by omega)
        have hcd := hcb _ HB.out.drew
        have hcr := hcb _ HB.out
        have hOL := HF.out.own (n := w.heap.size) hgw (by unfold maxLen; omega) (fun x hx => Nat.lt_trans (HLs.out x hx) (by decide))
        rw [hLl] at hOL
        have HLd := Lib.hid (hOL.lim.below (Below.refl _ _).drew)
        have HTT := Lib.hid htt
        have hnlI : (n' : Int) < (lb.length : Int) := by omega
        have hnl : n' < lb.length := by omega
        have HN := Lib.hid hn'
        have HJ := Lib.hid hj
        clear h9 hcb hOL htt hf hdd hp0 hp1 hn' hj hl2
        go_upto_region 10 with fail
        rename_i K9 hK9
        refine wp_region_still_lit (by kernel_rfl) (by kernel_rfl) ?_
        repeat still_step
        have hc := top_still L _ j tt _ HLd.out HLs.out hjl (by omega) HTT.out
        refine wpStill_step (fun K hK => ?_)
        go_simp
        refine ⟨_, hc, ?_⟩
        with_reducible refine hK _ ?_
        clear hK K hc
        repeat (with_reducible refine wpStill_step (fun K hK => ?_); go_simp; with_reducible refine hK _ ?_; clear hK K)
        refine wpStill_nil ?_
        change Exit.then _ _ _ _ (World.drew _)
        refine hK9 _ _ ?_
        by_cases hf0 : f = 0
        · subst hf0
          have HLB := Lib.hid ((HBL.out _ HB.out).below (Below.refl _ _).drew)
          have HT1 : Hid (∀ x ∈ trimL L, x < 1000000000) := fun x hx => HLs.out x (by rw [trimL_eq_take] at hx; exact List.mem_of_mem_take hx)
          have HT2 : Hid (∀ x ∈ trimL (List.replicate k 0 ++ lb), x < 1000000000) := fun x hx => by
            rw [trimL_eq_take] at hx
            rcases List.mem_append.1 (List.mem_of_mem_take hx) with h | h
            · rw [List.mem_replicate] at h; omega
            · exact H2.out x h
          go_upto_region 11 with fail
          rename_i K11 hK11
          by_cases hv : val L < 1000000000 ^ k * val lb
          · have HCM : Hid (decide (cmpI (val L) (1000000000 ^ k * val lb : Nat) < 0) = true) := by show _ = _; rw [cmpI_lt (by omega)]; rfl
            refine wp_region_known [(58, true), (59, true), (70, true), (71, true)]
              [(0, IsV (.slice a' la.length c')), (1, IsVL (.slice (some ⟨bb, o, none⟩) lb.length c) lb), (2, IsV (undef)), (3, IsV (undef)), (4, IsV (.slice none 0 0)), (5, IsV (.slice none 0 0)), (6, IsV (undef)), (7, IsV (undef)), (8, IsVL (.slice (some ⟨gL, 0, none⟩) la.length cL) L), (9, IsV (.slice (some ⟨qb, 0, none⟩) (la.length + 1) (la.length + 1))), (10, IsV (.int .i64 (k : Int))), (11, IsV (.int .u64 0)), (12, IsV (.slice (some ⟨bb, o, none⟩) lb.length c)), (13, IsV (.int .i64 (lb.length : Int))), (14, IsV (.bool false)), (15, IsV (undef)), (16, IsV (undef)), (17, IsV (undef)), (18, IsV (undef)), (19, IsV (undef)), (20, IsV (undef)), (21, IsV (undef)), (22, IsV (undef)), (23, IsV (undef)), (24, IsV (undef)), (25, IsV (undef)), (26, IsV (.slice none 0 0)), (27, IsV (.slice a' la.length c')), (28, IsV (.slice (some ⟨gL, 0, none⟩) la.length cL)), (29, IsV (.slice a' la.length c')), (30, IsV (.int .i64 (la.length : Int))), (31, IsV (.int .i64 ((la.length : Int) + 1))), (32, IsV (.slice (some ⟨qb, 0, none⟩) (la.length + 1) (la.length + 1))), (33, IsV (.slice a' la.length c')), (34, IsV (.int .i64 (la.length : Int))), (35, IsV (.slice (some ⟨bb, o, none⟩) lb.length c)), (36, IsV (.int .i64 (lb.length : Int))), (37, IsV (.int .i64 ((la.length : Int) - (lb.length : Int)))), (38, IsV (.int .i64 (k : Int))), (39, IsV (.bool true)), (40, IsV u40), (41, IsV u41), (89, IsV undef), (90, IsV undef)]
              [(57, IsV (.int .u64 0)), (60, IsL L), (61, IsA false (trimL L)), (62, IsL (trimL L)), (63, IsV (.int .i64 (k : Nat))), (64, IsZ k), (65, IsL lb), (66, IsL (List.replicate k 0 ++ lb)), (67, IsA false (trimL (List.replicate k 0 ++ lb))), (68, IsL (trimL (List.replicate k 0 ++ lb))), (69, IsV (.int .i64 (cmpI (val L) (1000000000 ^ k * val lb : Nat))))]
              91 (by kernel_rfl) rfl (by kernel_rfl) (by kernel_rfl) ⟨rfl, ⟨rfl, HLB.out⟩, rfl, rfl, rfl, rfl, rfl, rfl, ⟨rfl, HLd.out⟩, rfl, rfl, rfl, rfl, rfl, rfl, rfl, rfl, rfl, rfl, rfl, rfl, rfl, rfl, rfl, rfl, rfl, rfl, rfl, rfl, rfl, rfl, rfl, rfl, rfl, rfl, rfl, rfl, rfl, rfl, rfl, rfl, rfl, rfl, rfl, trivial⟩ ⟨IsV.grows _ , IsVL.grows _ _ , IsV.grows _ , IsV.grows _ , IsV.grows _ , IsV.grows _ , IsV.grows _ , IsV.grows _ , IsVL.grows _ _ , IsV.grows _ , IsV.grows _ , IsV.grows _ , IsV.grows _ , IsV.grows _ , IsV.grows _ , IsV.grows _ , IsV.grows _ , IsV.grows _ , IsV.grows _ , IsV.grows _ , IsV.grows _ , IsV.grows _ , IsV.grows _ , IsV.grows _ , IsV.grows _ , IsV.grows _ , IsV.grows _ , IsV.grows _ , IsV.grows _ , IsV.grows _ , IsV.grows _ , IsV.grows _ , IsV.grows _ , IsV.grows _ , IsV.grows _ , IsV.grows _ , IsV.grows _ , IsV.grows _ , IsV.grows _ , IsV.grows _ , IsV.grows _ , IsV.grows _ , IsV.grows _ , IsV.grows _ , IsV.grows _ , IsL.grows _ , IsA.grows _ _ , IsL.grows _ , IsV.grows _ , IsZ.grows _ , IsL.grows _ , IsL.grows _ , IsA.grows _ _ , IsL.grows _ , IsV.grows _ , trivial⟩ ?_ ?_
            · refine AllStep.cons (step_move (fun _ _ h => h)) ?_
              refine AllStep.cons (step_eqU (fun _ _ h => h) (by rfl) (fun _ => rfl)) ?_
              refine AllStep.cons (step_move (fun _ _ h => h)) ?_
              refine AllStep.cons (step_move (fun _ _ h => h.2)) ?_
              refine AllStep.cons (step_callkx (Plain.of Tryz.func78 rfl rfl) (fun _ _ _ hu => rnum_list hu)) ?_
              refine AllStep.cons (step_field (fun _ _ h => by obtain ⟨p, n, c, e, h⟩ := h; exact ⟨_, p, n, c, e, h⟩)) ?_
              refine AllStep.cons (step_move (fun _ _ h => h)) ?_
              refine AllStep.cons (step_make_z (fun _ _ h => h) (by omega) (fun _ _ h => h)) ?_
              refine AllStep.cons (step_move (fun _ _ h => h.2)) ?_
              refine AllStep.cons (step_append_z (fun _ _ h => h) (fun _ _ h => h) h0 (by omega) (by omega) (fun _ _ h => h)) ?_
              refine AllStep.cons (step_callkx (Plain.of Tryz.func78 rfl rfl) (fun _ _ _ hu => rnum_list hu)) ?_
              refine AllStep.cons (step_field (fun _ _ h => by obtain ⟨p, n, c, e, h⟩ := h; exact ⟨_, p, n, c, e, h⟩)) ?_
              refine AllStep.cons (step_call2 (Plain.of Tryz.func162 rfl rfl) (fun _ _ _ _ hu hv => rorder_list hu hv HT1.out HT2.out (Top.trimL _) (Top.trimL _) _ (by rw [val_trimL, val_trimL, val_pad]))) ?_
              refine AllStep.cons (step_lss (fun _ _ h => h) HCM.out (fun _ => rfl)) ?_
              refine AllStep.cons (step_pickT (fun _ _ h => h) (fun _ _ h => h)) ?_
              exact AllStep.nil
            intro a1 wa hbA hs1 hd1 hk1
            obtain ⟨y, hx⟩ : ∃ y : Nat → Value, ∀ t, a1.eval (.tmp t) = y t := ⟨_, fun _ => rfl⟩
            have ha : a1 = ⟨#[.slice a' la.length c', .slice (some ⟨bb, o, none⟩) lb.length c, undef, undef, .slice none 0 0, .slice none 0 0, undef, undef, .slice (some ⟨gL, 0, none⟩) la.length cL, .slice (some ⟨qb, 0, none⟩) (la.length + 1) (la.length + 1), .int .i64 (k : Int), .int .u64 0, .slice (some ⟨bb, o, none⟩) lb.length c, .int .i64 (lb.length : Int), .bool false, undef, undef, undef, undef, undef, undef, undef, undef, undef, undef, undef, .slice none 0 0, .slice a' la.length c', .slice (some ⟨gL, 0, none⟩) la.length cL, .slice a' la.length c', .int .i64 (la.length : Int), .int .i64 ((la.length : Int) + 1), .slice (some ⟨qb, 0, none⟩) (la.length + 1) (la.length + 1), .slice a' la.length c', .int .i64 (la.length : Int), .slice (some ⟨bb, o, none⟩) lb.length c, .int .i64 (lb.length : Int), .int .i64 ((la.length : Int) - (lb.length : Int)), .int .i64 (k : Int), .bool true, u40, u41, y 42, y 43, y 44, y 45, y 46, y 47, y 48, y 49, y 50, y 51, y 52, y 53, y 54, y 55, y 56, y 57, y 58, y 59, y 60, y 61, y 62, y 63, y 64, y 65, y 66, y 67, y 68, y 69, y 70, .bool true, y 72, y 73, y 74, y 75, y 76, y 77, y 78, y 79, y 80, y 81, y 82, y 83, y 84, y 85, y 86, y 87, y 88, undef, undef], []⟩ := act_eq hs1 hd1 ⟨hk1 0, (hk1 1).1, hk1 2, hk1 3, hk1 4, hk1 5, hk1 6, hk1 7, (hk1 8).1, hk1 9, hk1 10, hk1 11, hk1 12, hk1 13, hk1 14, hk1 15, hk1 16, hk1 17, hk1 18, hk1 19, hk1 20, hk1 21, hk1 22, hk1 23, hk1 24, hk1 25, hk1 26, hk1 27, hk1 28, hk1 29, hk1 30, hk1 31, hk1 32, hk1 33, hk1 34, hk1 35, hk1 36, hk1 37, hk1 38, hk1 39, hk1 40, hk1 41, hx 42, hx 43, hx 44, hx 45, hx 46, hx 47, hx 48, hx 49, hx 50, hx 51, hx 52, hx 53, hx 54, hx 55, hx 56, hx 57, hx 58, hx 59, hx 60, hx 61, hx 62, hx 63, hx 64, hx 65, hx 66, hx 67, hx 68, hx 69, hx 70, hk1 71, hx 72, hx 73, hx 74, hx 75, hx 76, hx 77, hx 78, hx 79, hx 80, hx 81, hx 82, hx 83, hx 84, hx 85, hx 86, hx 87, hx 88, hk1 89, hk1 90, trivial⟩
            subst ha
            have hb2 := Below.step ((Below.refl _ _).drew : Below wr.heap.size wr wr.drew) hbA
            have F3 := Lib.hid (HF.out.below hb2)
            have G3 := Lib.hid (HG.out.below hb2)
            have B3 := Lib.hid (HB.out.trans (hb2.mono HB.out.size))
            clear hx hs1 hd1 hk1 hbA hcd hcr HLd hb2
            refine hK11 _ _ ?_
            go_wp2
            go_roundw
            case rel => exact ⟨k, (k : Int) - 1, Q, L, by omega, rfl, rfl, HI.out.outer hv, F3.out, G3.out, B3.out⟩
            case measure => simp [intOf]
          · have HCM : Hid (decide (cmpI (val L) (1000000000 ^ k * val lb : Nat) < 0) = false) := by
              show _ = _
              rw [decide_eq_false_iff_not]
              unfold cmpI
              split <;> (try split) <;> omega
            refine wp_region_known [(58, true), (59, true), (70, false), (71, false)]
              [(0, IsV (.slice a' la.length c')), (1, IsVL (.slice (some ⟨bb, o, none⟩) lb.length c) lb), (2, IsV (undef)), (3, IsV (undef)), (4, IsV (.slice none 0 0)), (5, IsV (.slice none 0 0)), (6, IsV (undef)), (7, IsV (undef)), (8, IsVL (.slice (some ⟨gL, 0, none⟩) la.length cL) L), (9, IsV (.slice (some ⟨qb, 0, none⟩) (la.length + 1) (la.length + 1))), (10, IsV (.int .i64 (k : Int))), (11, IsV (.int .u64 0)), (12, IsV (.slice (some ⟨bb, o, none⟩) lb.length c)), (13, IsV (.int .i64 (lb.length : Int))), (14, IsV (.bool false)), (15, IsV (undef)), (16, IsV (undef)), (17, IsV (undef)), (18, IsV (undef)), (19, IsV (undef)), (20, IsV (undef)), (21, IsV (undef)), (22, IsV (undef)), (23, IsV (undef)), (24, IsV (undef)), (25, IsV (undef)), (26, IsV (.slice none 0 0)), (27, IsV (.slice a' la.length c')), (28, IsV (.slice (some ⟨gL, 0, none⟩) la.length cL)), (29, IsV (.slice a' la.length c')), (30, IsV (.int .i64 (la.length : Int))), (31, IsV (.int .i64 ((la.length : Int) + 1))), (32, IsV (.slice (some ⟨qb, 0, none⟩) (la.length + 1) (la.length + 1))), (33, IsV (.slice a' la.length c')), (34, IsV (.int .i64 (la.length : Int))), (35, IsV (.slice (some ⟨bb, o, none⟩) lb.length c)), (36, IsV (.int .i64 (lb.length : Int))), (37, IsV (.int .i64 ((la.length : Int) - (lb.length : Int)))), (38, IsV (.int .i64 (k : Int))), (39, IsV (.bool true)), (40, IsV u40), (41, IsV u41), (89, IsV undef), (90, IsV undef)]
              [(57, IsV (.int .u64 0)), (60, IsL L), (61, IsA false (trimL L)), (62, IsL (trimL L)), (63, IsV (.int .i64 (k : Nat))), (64, IsZ k), (65, IsL lb), (66, IsL (List.replicate k 0 ++ lb)), (67, IsA false (trimL (List.replicate k 0 ++ lb))), (68, IsL (trimL (List.replicate k 0 ++ lb))), (69, IsV (.int .i64 (cmpI (val L) (1000000000 ^ k * val lb : Nat))))]
              91 (by kernel_rfl) rfl (by kernel_rfl) (by kernel_rfl) ⟨rfl, ⟨rfl, HLB.out⟩, rfl, rfl, rfl, rfl, rfl, rfl, ⟨rfl, HLd.out⟩, rfl, rfl, rfl, rfl, rfl, rfl, rfl, rfl, rfl, rfl, rfl, rfl, rfl, rfl, rfl, rfl, rfl, rfl, rfl, rfl, rfl, rfl, rfl, rfl, rfl, rfl, rfl, rfl, rfl, rfl, rfl, rfl, rfl, rfl, rfl, trivial⟩ ⟨IsV.grows _ , IsVL.grows _ _ , IsV.grows _ , IsV.grows _ , IsV.grows _ , IsV.grows _ , IsV.grows _ , IsV.grows _ , IsVL.grows _ _ , IsV.grows _ , IsV.grows _ , IsV.grows _ , IsV.grows _ , IsV.grows _ , IsV.grows _ , IsV.grows _ , IsV.grows _ , IsV.grows _ , IsV.grows _ , IsV.grows _ , IsV.grows _ , IsV.grows _ , IsV.grows _ , IsV.grows _ , IsV.grows _ , IsV.grows _ , IsV.grows _ , IsV.grows _ , IsV.grows _ , IsV.grows _ , IsV.grows _ , IsV.grows _ , IsV.grows _ , IsV.grows _ , IsV.grows _ , IsV.grows _ , IsV.grows _ , IsV.grows _ , IsV.grows _ , IsV.grows _ , IsV.grows _ , IsV.grows _ , IsV.grows _ , IsV.grows _ , IsV.grows _ , IsL.grows _ , IsA.grows _ _ , IsL.grows _ , IsV.grows _ , IsZ.grows _ , IsL.grows _ , IsL.grows _ , IsA.grows _ _ , IsL.grows _ , IsV.grows _ , trivial⟩ ?_ ?_
            · refine AllStep.cons (step_move (fun _ _ h => h)) ?_
              refine AllStep.cons (step_eqU (fun _ _ h => h) (by rfl) (fun _ => rfl)) ?_
              refine AllStep.cons (step_move (fun _ _ h => h)) ?_
              refine AllStep.cons (step_move (fun _ _ h => h.2)) ?_
              refine AllStep.cons (step_callkx (Plain.of Tryz.func78 rfl rfl) (fun _ _ _ hu => rnum_list hu)) ?_
              refine AllStep.cons (step_field (fun _ _ h => by obtain ⟨p, n, c, e, h⟩ := h; exact ⟨_, p, n, c, e, h⟩)) ?_
              refine AllStep.cons (step_move (fun _ _ h => h)) ?_
              refine AllStep.cons (step_make_z (fun _ _ h => h) (by omega) (fun _ _ h => h)) ?_
              refine AllStep.cons (step_move (fun _ _ h => h.2)) ?_
              refine AllStep.cons (step_append_z (fun _ _ h => h) (fun _ _ h => h) h0 (by omega) (by omega) (fun _ _ h => h)) ?_
              refine AllStep.cons (step_callkx (Plain.of Tryz.func78 rfl rfl) (fun _ _ _ hu => rnum_list hu)) ?_
              refine AllStep.cons (step_field (fun _ _ h => by obtain ⟨p, n, c, e, h⟩ := h; exact ⟨_, p, n, c, e, h⟩)) ?_
              refine AllStep.cons (step_call2 (Plain.of Tryz.func162 rfl rfl) (fun _ _ _ _ hu hv => rorder_list hu hv HT1.out HT2.out (Top.trimL _) (Top.trimL _) _ (by rw [val_trimL, val_trimL, val_pad]))) ?_
              refine AllStep.cons (step_lss (fun _ _ h => h) HCM.out (fun _ => rfl)) ?_
              refine AllStep.cons (step_pickT (fun _ _ h => h) (fun _ _ h => h)) ?_
              exact AllStep.nil
            intro a1 wa hbA hs1 hd1 hk1
            obtain ⟨y, hx⟩ : ∃ y : Nat → Value, ∀ t, a1.eval (.tmp t) = y t := ⟨_, fun _ => rfl⟩
            have ha : a1 = ⟨#[.slice a' la.length c', .slice (some ⟨bb, o, none⟩) lb.length c, undef, undef, .slice none 0 0, .slice none 0 0, undef, undef, .slice (some ⟨gL, 0, none⟩) la.length cL, .slice (some ⟨qb, 0, none⟩) (la.length + 1) (la.length + 1), .int .i64 (k : Int), .int .u64 0, .slice (some ⟨bb, o, none⟩) lb.length c, .int .i64 (lb.length : Int), .bool false, undef, undef, undef, undef, undef, undef, undef, undef, undef, undef, undef, .slice none 0 0, .slice a' la.length c', .slice (some ⟨gL, 0, none⟩) la.length cL, .slice a' la.length c', .int .i64 (la.length : Int), .int .i64 ((la.length : Int) + 1), .slice (some ⟨qb, 0, none⟩) (la.length + 1) (la.length + 1), .slice a' la.length c', .int .i64 (la.length : Int), .slice (some ⟨bb, o, none⟩) lb.length c, .int .i64 (lb.length : Int), .int .i64 ((la.length : Int) - (lb.length : Int)), .int .i64 (k : Int), .bool true, u40, u41, y 42, y 43, y 44, y 45, y 46, y 47, y 48, y 49, y 50, y 51, y 52, y 53, y 54, y 55, y 56, y 57, y 58, y 59, y 60, y 61, y 62, y 63, y 64, y 65, y 66, y 67, y 68, y 69, y 70, .bool false, y 72, y 73, y 74, y 75, y 76, y 77, y 78, y 79, y 80, y 81, y 82, y 83, y 84, y 85, y 86, y 87, y 88, undef, undef], []⟩ := act_eq hs1 hd1 ⟨hk1 0, (hk1 1).1, hk1 2, hk1 3, hk1 4, hk1 5, hk1 6, hk1 7, (hk1 8).1, hk1 9, hk1 10, hk1 11, hk1 12, hk1 13, hk1 14, hk1 15, hk1 16, hk1 17, hk1 18, hk1 19, hk1 20, hk1 21, hk1 22, hk1 23, hk1 24, hk1 25, hk1 26, hk1 27, hk1 28, hk1 29, hk1 30, hk1 31, hk1 32, hk1 33, hk1 34, hk1 35, hk1 36, hk1 37, hk1 38, hk1 39, hk1 40, hk1 41, hx 42, hx 43, hx 44, hx 45, hx 46, hx 47, hx 48, hx 49, hx 50, hx 51, hx 52, hx 53, hx 54, hx 55, hx 56, hx 57, hx 58, hx 59, hx 60, hx 61, hx 62, hx 63, hx 64, hx 65, hx 66, hx 67, hx 68, hx 69, hx 70, hk1 71, hx 72, hx 73, hx 74, hx 75, hx 76, hx 77, hx 78, hx 79, hx 80, hx 81, hx 82, hx 83, hx 84, hx 85, hx 86, hx 87, hx 88, hk1 89, hk1 90, trivial⟩
            subst ha
            have hb2 := Below.step ((Below.refl _ _).drew : Below wr.heap.size wr wr.drew) hbA
            have F3 := Lib.hid (HF.out.below hb2)
            have G3 := Lib.hid (HG.out.below hb2)
            have B3 := Lib.hid (HB.out.trans (hb2.mono HB.out.size))
            clear hx hs1 hd1 hk1 hbA hcd hcr HLd hb2
            refine hK11 _ _ ?_
            have H91 : Hid (1000000000 ^ k * (1 * val lb) ≤ val L) := by rw [Nat.one_mul]; show _ ≤ _; omega
            have hroom1 := HI.out.room H91.out
            have hT := rtakes_any w.heap.size gL cL k 1 L lb _ wa F3.out (fun W hB => HBL.out W (B3.out.trans hB)) hgw HLs.out H2.out (by omega) (by omega) (by omega) H91.out
            rw [hLl] at hT
            have hmx : max (1 : Int) 0 = 1 := by decide
            go_wp2_with fail
            refine hT.mono ?_
            rintro e w4 ⟨rfl, L', f4, hl4, hs4, hv4, hb4, ho4⟩
            have F4 := Lib.hid f4
            have G4 := Lib.hid (ho4 qb _ Q (by omega) G3.out)
            have B4 := Lib.hid (B3.out.trans hb4)
            have HS4 := Lib.hid hs4
            have HV4 := Lib.hid hv4
            have hkq : k < Q.length := by omega
            have hcq := G4.out.cell hkq
            have hfq := fun x => G4.out.free x
            have hsum : (pt Q k : Int) + 1 = ((pt Q k + 1 : Nat) : Int) := by omega
            obtain ⟨c9, hc9⟩ : ∃ c9, pt Q k + 1 = c9 := ⟨_, rfl⟩
            rw [hc9] at hsum
            have hc9I : (c9 : Int) ≤ 999999999 := by omega
            have hkqI : (k : Int) < (la.length : Int) + 1 := by omega
            clear f4 hb4 ho4 hs4 hv4 hT
            go_wp2
            have hF5 := F4.out.other (p := ⟨qb, k, none⟩) (show qb ≠ gL by omega) (.int .u32 (c9 : Nat))
            have hStep := HI.out.step hkq H91.out (by omega) HS4.out HV4.out
            rw [hc9] at hStep
            go_roundw
            case rel => exact ⟨Q.set k c9, L', hStep, hF5, G4.out.set k c9, B4.out.setCell (p := ⟨qb, k, none⟩) hqw _⟩
            case measure =>
              have m1 := hF5.frontVal
              have m2 := HF.out.frontVal
              rw [hl4, hLl] at m1
              rw [hLl] at m2
              rw [m1, m2]
              have hvb : 0 < val lb := Nat.lt_of_lt_of_le (Nat.pow_pos (by decide)) (val_ge t2 h0)
              have hp : 0 < 1000000000 ^ k * (1 * val lb) := Nat.mul_pos (Nat.pow_pos (by decide)) (by omega)
              have := HV4.out
              omega
        · have hf0I : (((f : Nat) : Int) == 0) = false := by rw [beq_eq_false_iff_ne]; omega
          go_upto_region 11 with fail
          rename_i K11 hK11
          refine wp_region_still_lit (by kernel_rfl) (by kernel_rfl) ?_
          iterate 15 (with_reducible refine wpStill_step (fun K hK => ?_); go_simp; with_reducible refine hK _ ?_; clear hK K)
          refine wpStill_nil ?_
          change Exit.then _ _ _ _ (World.drew _)
          refine hK11 _ _ ?_
          have hb2 : Below wr.heap.size wr wr.drew.drew := (Below.refl _ _).drew.drew
          obtain ⟨W3, hW3⟩ : ∃ W3, wr.drew.drew = W3 := ⟨_, rfl⟩
          rw [hW3] at hb2 ⊢
          have F3 := Lib.hid (HF.out.below hb2)
          have G3 := Lib.hid (HG.out.below hb2)
          have B3 := Lib.hid (HB.out.trans (hb2.mono HB.out.size))
          have hf1 : 1 ≤ f := by omega
          clear hb2 hW3 hcd hcr HLd
          have hT := rtakes_any w.heap.size gL cL k f L lb _ W3 F3.out (fun W hB => HBL.out W (B3.out.trans hB)) hgw HLs.out H2.out (by omega) (by omega) (by omega) H9.out
          rw [hLl] at hT
          have hmx : max (1 : Int) (f : Int) = (f : Int) := by omega
          go_wp2_with fail
          refine hT.mono ?_
          rintro e w4 ⟨rfl, L', f4, hl4, hs4, hv4, hb4, ho4⟩
          have F4 := Lib.hid f4
          have G4 := Lib.hid (ho4 qb _ Q (by omega) G3.out)
          have B4 := Lib.hid (B3.out.trans hb4)
          have HS4 := Lib.hid hs4
          have HV4 := Lib.hid hv4
          have hkq : k < Q.length := by omega
          have hcq := G4.out.cell hkq
          have hfq := fun x => G4.out.free x
          have hsum : (pt Q k : Int) + (f : Int) = ((pt Q k + f : Nat) : Int) := by omega
          obtain ⟨c9, hc9⟩ : ∃ c9, pt Q k + f = c9 := ⟨_, rfl⟩
          rw [hc9] at hsum
          have hc9I : (c9 : Int) ≤ 999999999 := by omega
          have hkqI : (k : Int) < (la.length : Int) + 1 := by omega
          clear f4 hb4 ho4 hs4 hv4 hT
          go_wp2
          have hF5 := F4.out.other (p := ⟨qb, k, none⟩) (show qb ≠ gL by omega) (.int .u32 (c9 : Nat))
          have hStep := HI.out.step hkq H9.out (by omega) HS4.out HV4.out
          rw [hc9] at hStep
          refine ⟨⟨Q.set k c9, L', hStep, hF5, G4.out.set k c9, B4.out.setCell (p := ⟨qb, k, none⟩) hqw _⟩, ?_⟩
          have m1 := hF5.frontVal
          have m2 := HF.out.frontVal
          rw [hl4, hLl] at m1
          rw [hLl] at m2
          rw [m1, m2]
          have hvb : 0 < val lb := Nat.lt_of_lt_of_le (Nat.pow_pos (by decide)) (val_ge t2 h0)
          have hp : 0 < 1000000000 ^ k * (f * val lb) := Nat.mul_pos (Nat.pow_pos (by decide)) (Nat.mul_pos hf1 hvb)
          have := HV4.out
          omega

end Go.Proofs.YtgpoljbccimkjaaGreatDoor
