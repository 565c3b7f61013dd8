/- Walks: how two numbers compare. -/
import Derived.Test.YtgpoljbccimkjaaGreatDoorIter
import Derived.Test.YtgpoljbccimkjaaGreatDoorNearMath
namespace Go.Proofs.YtgpoljbccimkjaaGreatDoor
set_option linter.unusedSimpArgs false
set_option linter.unusedVariables false
open Go.RowKit Go.Shelf

attribute [local go_sem] Oper.semAt_some

theorem idxB_cover {l : List Nat} {i : Nat} (h : i < l.length) : ∃ x, x < l.length ∧ idxB l x = i := ⟨l.length - 1 - i, by omega, by unfold idxB; omega⟩

set_option maxRecDepth 100000 in
set_option maxHeartbeats 4000000 in
theorem compare_in (a a' : Option Addr) (c c' : Nat) (la lb : List Nat) (w : World) (ha : Lim w (.slice a la.length c) la) (hb : Lim w (.slice a' lb.length c') lb) :
    CallsIn Fence.wide 3 Tryz.prog 157 #[.slice a la.length c, .slice a' lb.length c'] w fun e w' => ∃ r, e = .returned (.int .i64 r) ∧ CmpIs la lb r ∧ Below w.heap.size w w' := by
  have h37 : Fence.wide.fn 157 := trivial
  have h44 : Fence.wide.fn 123 := trivial
  have h59 : Fence.wide.fn 192 := trivial
  by_cases hl : la.length = lb.length
  · have hbne : ((la.length : Int) != (lb.length : Int)) = false := by rw [hl]; simp
    have HL := Lib.hid hl
    have HLB := Lib.hid hb
    have HB0 : Hid (∀ A B C, Below w.heap.size w (((w.alloc A).alloc B).alloc C)) := fun _ _ _ => (by repeat (first | exact Below.refl _ _ | with_reducible refine Below.drew ?_ | with_reducible refine below_drewN ?_ _ | with_reducible refine Below.setCell ?_ (by first | (simp; done) | (simp; omega) | omega) _ | with_reducible refine Below.alloc ?_ (by first | (simp; done) | (simp; omega) | omega) _))
    have HLI : Hid (∀ A B C, LimB w.heap.size (((w.alloc A).alloc B).alloc C) (.slice a la.length c) la) := fun A B C => ha.limB.below (HB0.out A B C)
    clear hl ha hb
    refine callsIn_of_wp_marks Tryz.func157 rfl h37 ?_ rfl
    simp only [Tryz.ntmps157, List.size_toArray, List.length_cons, List.length_nil, Nat.reduceAdd, Nat.reduceSub, Array.replicate_succ, Array.replicate_zero, List.push_toArray, List.append_toArray, List.nil_append, List.cons_append]
    gi_wp2_with (gi_at_call 123; refine (back_in Fence.wide _ h44 rfl _ _ _ _).mono ?_; rintro e w' ⟨rfl, rfl⟩)
    have bB := Boxed.new w 22 (.slice a' lb.length c')
    have bR := Boxed.new (w.alloc (.cells #[.slice a' lb.length c'] 22)) 3 (.int .i64 0)
    have bS := Boxed.new ((w.alloc (.cells #[.slice a' lb.length c'] 22)).alloc (.cells #[.int .i64 0] 3)) 22 (.slice a la.length c)
    rw [World.size_alloc] at bR
    rw [World.size_alloc, World.size_alloc] at bS
    have hK : SeqStopsK Fence.wide (3 - 1) Tryz.prog 192 #[.pointer (some ⟨w.heap.size + 1 + 1, 0, none⟩)] (fun x : Nat => #[Value.int .i64 (idxB la x : Nat), Value.int .u32 (pt la (idxB la x) : Nat)]) (KpB w.heap.size (w.heap.size + 1 + 1)) (fun ys => ys = List.range la.length) (fun pre => ∃ k, k ≤ la.length ∧ pre = List.range k) la.length (((w.alloc (.cells #[.slice a' lb.length c'] 22)).alloc (.cells #[.int .i64 0] 3)).alloc (.cells #[.slice a la.length c] 22)) :=
      back_stops Fence.wide (3 - 1) h59 rfl (by omega) (w.heap.size + 1 + 1) w.heap.size _ la _ (by simp) (by simp; omega) bS.cell (HLI.out _ _ _)
    refine wpIn_rangeFunc_ownG rfl (by omega) (gf := 192) (lb := #[.pointer (some ⟨w.heap.size + 1 + 1, 0, none⟩)]) rfl h59 (enters_of Tryz.func192 (by kernel_rfl) rfl)
      hK KpB.trans (kpB_b (by simp; omega) (by simp)) (Below.refl _ _) (fun _ => rfl)
      (fun pre W => ((∀ p ∈ pre, pt la (idxB la p) = pt lb (idxB la p)) ∧ (W.cell? ⟨w.heap.size, 0, none⟩ = some (.slice a' lb.length c') ∧ W.cell? ⟨w.heap.size + 1, 0, none⟩ = some (.int .i64 0) ∧ W.frozen? ⟨w.heap.size + 1, 0, none⟩ = false)) ∧ Below w.heap.size w W)
      (fun c pre W => (c = .ret ∧ ∃ ini last, pre = ini ++ [last] ∧ (∀ p ∈ ini, pt la (idxB la p) = pt lb (idxB la p)) ∧ pt la (idxB la last) ≠ pt lb (idxB la last) ∧ W.cell? ⟨w.heap.size + 1, 0, none⟩ = some (.int .i64 (cmpI (pt la (idxB la last)) (pt lb (idxB la last))))) ∧ Below w.heap.size w W)
      (OwnFrom.and (Go.Own.from (fun s A B row hs hg hr => ⟨hs.1, cell_kept hs.2.1 hg hr, cell_kept hs.2.2.1 hg hr, (frozen_kept hs.2.2.1 hg hr).trans hs.2.2.2⟩) _) (ownFrom_below (Nat.le_refl _) (by simp; omega)))
      (fun c => OwnFrom.and (Go.Own.from (fun s A B row hs hg hr => by obtain ⟨hc, ini, last, e1, e2, e3, e4⟩ := hs; exact ⟨hc, ini, last, e1, e2, e3, cell_kept e4 hg hr⟩) _) (ownFrom_below (Nat.le_refl _) (by simp; omega)))
      ⟨⟨by simp, ((bB.alloc _).alloc _).cell, (bR.alloc _).cell, (bR.alloc _).frozen⟩, HB0.out _ _ _⟩
      (fun x => { tmps := #[.slice a la.length c, .slice a' lb.length c', undef, .pointer (some ⟨w.heap.size, 0, none⟩), .pointer (some ⟨w.heap.size + 1, 0, none⟩), .int .i64 (idxB la x : Nat), .int .u32 (pt la (idxB la x) : Nat), .slice a la.length c, .int .i64 (la.length : Nat), .slice a' lb.length c', .int .i64 (lb.length : Nat), .bool false, undef, undef, undef, undef, undef, .slice a la.length c, .func (.func 192) #[] #[.pointer (some ⟨w.heap.size + 1 + 1, 0, none⟩)], .int .i64 (idxB la x : Nat), .int .u32 (pt la (idxB la x) : Nat), undef, undef, undef, undef, undef, undef, undef, undef, undef, undef, undef, undef], defers := [] }) ?assign ?body ?done ?stop
    case assign =>
      intro l x W K hK
      gi_wp2
      exact hK
    case body =>
      rintro l pre x W ⟨⟨hp, hcb, hcr, hfr⟩, hB⟩ hlen
      have hix : idxB la x < lb.length := by rw [← HL.out]; exact idxB_lt _ (by omega)
      have hixI : ((idxB la x : Nat) : Int) < (lb.length : Int) := by omega
      obtain ⟨a'', c'', he, q1, q2, q3, q4⟩ := HLB.out.below hB
      injection he with he1 he2 he3
      subst he1
      subst he3
      rcases q4 with ⟨_, rfl, _⟩ | ⟨bb, oo, rfl, hcc⟩
      · simp at hix
      · have hcell := hcc _ hix
        unfold maxLen at q2
        clear hcc q3 he2
        have HP := Lib.hid hp
        clear hp
        by_cases hne : pt la (idxB la x) = pt lb (idxB la x)
        · have hbn : ((pt la (idxB la x) : Int) != (pt lb (idxB la x) : Int)) = false := by rw [hne]; simp
          have HN := Lib.hid hne
          clear hne
          gi_wp2
          exact ⟨KeepsFrom.refl _ _, KpB.refl _ _ _, ⟨fun p hp' => (List.mem_append.1 hp').elim (HP.out p) (fun e => by simp at e; subst e; exact HN.out), hcb, hcr, hfr⟩, hB⟩
        · have hbn : ((pt la (idxB la x) : Int) != (pt lb (idxB la x) : Int)) = true := by rw [bne_iff_ne]; omega
          have HN := Lib.hid hne
          clear hne
          gi_wp2_with (refine ⟨trivial, ?_⟩; gi_at_call 209; refine (CallsIn.inRound l (callsIn_wide.2 (compare_u32 _ _ _))).mono ?_; rintro e w' ⟨rfl, rfl⟩)
          exact ⟨(KeepsOthers.setCell _ _ _).from _, ⟨rfl, pre, x, rfl, HP.out, HN.out, World.cell?_setCell_same' _ _ _ (by rw [hcr]; rfl)⟩, hB.setCell (p := ⟨w.heap.size + 1, 0, none⟩) (by simp) _⟩
    case done =>
      rintro D ys W hD rfl ⟨⟨hne, hcb, hcr, hfr⟩, hB⟩ hK
      gi_wp2
      have hK' := (KeepsOthers.setCell W ⟨w.heap.size + 1, 0, none⟩ (.int .i64 0)).same D _ hK rfl
      refine ⟨by simp, .inl ⟨_, _, rfl, run_takeDeferred hK', ?_⟩⟩
      have hc5 := cell_kept (World.cell?_setCell_same' W ⟨w.heap.size + 1, 0, none⟩ (.int .i64 0) (by rw [hcr]; rfl)) (grownBy_putObj' _ D (.deferred none)) (fun r e => by cases e; exact ⟨_, hK', rfl⟩)
      refine ⟨.int .i64 0, by simp [results, Tryz.f157, go_sem, hc5], 0, rfl, .inr ⟨HL.out, .inl ⟨list_ext_pt HL.out fun i hi => ?_, rfl⟩⟩, (hB.setCell (p := ⟨w.heap.size + 1, 0, none⟩) (by simp) _).trans (belowK_b (w := w) (Nat.le_refl _) _ D _ _ (by simp at hD; omega) hK' rfl rfl)⟩
      obtain ⟨x, hx, rfl⟩ := idxB_cover hi
      exact hne x (List.mem_range.2 hx)
    case stop =>
      rintro D c pre W hD ⟨k, hk, rfl⟩ ⟨⟨rfl, ini, last, e1, e2, e3, hcr⟩, hB⟩ hK
      gi_wp2
      refine ⟨by simp, .inl ⟨_, _, rfl, run_takeDeferred hK, ?_⟩⟩
      have hc5 := cell_kept hcr (grownBy_putObj' _ D (.deferred none)) (fun r e => by cases e; exact ⟨_, hK, rfl⟩)
      obtain ⟨k', rfl⟩ : ∃ k', k = k' + 1 := by
        cases k with
        | zero => simp at e1
        | succ k' => exact ⟨k', rfl⟩
      rw [List.range_succ] at e1
      obtain ⟨rfl, e5⟩ := List.append_inj' e1 rfl
      obtain rfl : k' = last := by simpa using e5
      refine ⟨.int .i64 (cmpI (pt la (idxB la k')) (pt lb (idxB la k'))), by simp [results, Tryz.f157, go_sem, hc5], _, rfl, .inr ⟨HL.out, .inr ⟨idxB la k', idxB_lt _ (by omega), fun j h1 h2 => ?_, e3, rfl⟩⟩, hB.trans (belowK_b (w := w) (Nat.le_refl _) W D _ _ (by simp at hD; omega) hK rfl rfl)⟩
      obtain ⟨x, hx, rfl⟩ := idxB_cover h2
      exact e2 x (List.mem_range.2 (by unfold idxB at h1; omega))
  · have hbne : ((la.length : Int) != (lb.length : Int)) = true := by rw [bne_iff_ne]; omega
    have HL : Hid (la.length ≠ lb.length) := hl
    clear hl ha hb
    rw [callsIn_wide]
    go_enter Tryz.func157, Tryz.ntmps157
    go_wp2_with (first | (go_at_call 208; refine (compare_int _ _ _).mono ?_; rintro e w' ⟨rfl, rfl⟩))
    refine bodyPost_ret (v := .int .i64 (cmpI la.length lb.length)) (by simp [results, Tryz.f157, go_sem]) rfl ⟨_, rfl, .inl ⟨HL.out, rfl⟩, (by repeat (first | exact Below.refl _ _ | with_reducible refine Below.drew ?_ | with_reducible refine below_drewN ?_ _ | with_reducible refine Below.setCell ?_ (by first | (simp; done) | (simp; omega) | omega) _ | with_reducible refine Below.alloc ?_ (by first | (simp; done) | (simp; omega) | omega) _))⟩

theorem compare_any (va vb : Value) (la lb : List Nat) (w : World) (ha : Lim w va la) (hb : Lim w vb lb) :
    Calls Tryz.prog 157 #[va, vb] w fun e w' => ∃ r, e = .returned (.int .i64 r) ∧ CmpIs la lb r ∧ Below w.heap.size w w' := by
  have ha' := ha
  have hb' := hb
  obtain ⟨a, c, rfl, _⟩ := ha
  obtain ⟨a', c', rfl, _⟩ := hb
  exact callsIn_wide.1 (compare_in a a' c c' la lb w ha' hb')

/-- Of two amounts without noughts on top it tells which is less. -/
theorem compare_val (va vb : Value) (la lb : List Nat) (w : World) (ha : Lim w va la) (hb : Lim w vb lb) (h1 : ∀ x ∈ la, x < 1000000000) (h2 : ∀ x ∈ lb, x < 1000000000) (t1 : Top la) (t2 : Top lb) :
    Calls Tryz.prog 157 #[va, vb] w fun e w' => e = .returned (.int .i64 (cmpI (val la) (val lb))) ∧ Below w.heap.size w w' :=
  (compare_any va vb la lb w ha hb).mono fun e w' ⟨r, he, hr, hB⟩ => ⟨by rw [he, hr.val h1 h2 t1 t2], hB⟩

end Go.Proofs.YtgpoljbccimkjaaGreatDoor

namespace Go.Proofs.YtgpoljbccimkjaaGreatDoor
set_option linter.unusedSimpArgs false
set_option linter.unusedVariables false
open Go.RowKit Go.Shelf

/-- Behind 'a, b = orNought(a), orNought(b)': both boxes hold the numbers as the calls take them. -/
def Fitted (w : World) (b1 b2 : Nat) (s s' : Bool) (l l' : List Nat) (W : World) : Prop :=
  Below w.heap.size w W ∧ ∃ v v', NumBox W b1 (.bool (fitS s l)) v ∧ NumBox W b2 (.bool (fitS s' l')) v' ∧ Lim W v (fitL s l) ∧ Lim W v' (fitL s' l')

set_option maxHeartbeats 2000000 in
theorem Cmp_slices (s s' : Bool) (a0 a0' : Option Addr) (c0 c0' : Nat) (l l' : List Nat) (w : World) (h : Lim w (.slice a0 l.length c0) l) (h' : Lim w (.slice a0' l'.length c0') l') :
    Calls Tryz.prog 122 #[.agg #[.bool s, .slice a0 l.length c0], .agg #[.bool s', .slice a0' l'.length c0']] w fun e w' => e = .returned (.int .i64 (cmpI (numZ s l) (numZ s' l'))) ∧ Below w.heap.size w w' := by
  have H := Lib.hid h
  have H' := Lib.hid h'
  clear h h'
  go_enter Tryz.func122, Tryz.ntmps122
  go_wp2_with fail
  go_cut [2, 3] (fun s2 s3 wx => s2 = .pointer (some ⟨w.heap.size, 0, none⟩) ∧ s3 = .pointer (some ⟨w.heap.size + 1, 0, none⟩) ∧ Fitted w w.heap.size (w.heap.size + 1) s s' l l' wx)
  case first =>
    obtain ⟨W0, e0, n1, n2, hb0, hz0, hz1⟩ := box2 w (.bool s) (.slice a0 l.length c0) (.bool s') (.slice a0' l'.length c0')
    rw [e0]
    clear e0
    have HL : Hid (Lim W0 (.slice a0 l.length c0) l) := H.out.below hb0
    have HL' : Hid (Lim W0 (.slice a0' l'.length c0') l') := H'.out.below hb0
    have N1 := Lib.hid n1
    have N2 := Lib.hid n2
    obtain ⟨c1, c2, f1, f2⟩ := n1
    obtain ⟨c3, c4, f3, f4⟩ := n2
    go_region_with (first | (go_at_call 76; (with_reducible refine (orNought_any s (.slice a0 l.length c0) l _ (HL.out.below (by repeat (first | exact Below.refl _ _ | with_reducible refine Below.drew ?_ | with_reducible refine below_drewN ?_ _ | with_reducible refine Below.setCell ?_ (by first | (simp; done) | (simp; omega) | omega) _ | with_reducible refine Below.alloc ?_ (by first | (simp; done) | (simp; omega) | omega) _)))).mono ?_); rintro e w1 ⟨v1, rfl, hl1, hb10⟩; have hb1 := Below.undrew' hb10; have K1 := Lib.hid hl1; obtain ⟨a1, k1, rfl, -⟩ := hl1; obtain ⟨d1, d2, g1, g2⟩ := N1.out.below hb1; obtain ⟨d3, d4, g3, g4⟩ := N2.out.below hb1) | (go_at_call 76; (with_reducible refine (orNought_any s' (.slice a0' l'.length c0') l' _ (HL'.out.below (by repeat (first | exact Below.refl _ _ | with_reducible refine Below.drew ?_ | with_reducible refine below_drewN ?_ _ | with_reducible refine Below.setCell ?_ (by first | (simp; done) | (simp; omega) | omega) _ | with_reducible refine Below.alloc ?_ (by first | (simp; done) | (simp; omega) | omega) _ | (with_reducible refine Below.step ?_ hb1))))).mono ?_); rintro e w2 ⟨v2, rfl, hl2, hb2⟩; have K2 := Lib.hid hl2; obtain ⟨a2, k2, rfl, -⟩ := hl2; obtain ⟨d1, d2, g1, g2⟩ := (N1.out.below hb1).below hb2; obtain ⟨d3, d4, g3, g4⟩ := (N2.out.below hb1).below hb2))
    all_goals
      go_wp2_with fail
      go_meet
      obtain ⟨W', e, q1, q2, q3, q4, q5, -⟩ := two_stored (t := fitS s l) (t' := fitS s' l') (Below.step (Below.step hb0 hb1) hb2) (Nat.le_refl _) (Nat.le_succ _) (by simp) ((N1.out.below hb1).below hb2) ((N2.out.below hb1).below hb2) (K1.out.below hb2) K2.out
      exact ⟨rfl, rfl, by rw [e]; exact ⟨q1, _, _, q2, q3, q4, q5⟩⟩
  case rest =>
    obtain ⟨rfl, rfl, hF⟩ := hcut
    obtain ⟨hB, v, v', n1, n2, hl1, hl2⟩ := hF
    have HL1 := Lib.hid hl1
    have HL2 := Lib.hid hl2
    obtain ⟨a1, k1, rfl, -⟩ := hl1
    obtain ⟨a2, k2, rfl, -⟩ := hl2
    obtain ⟨c1, c2, f1, f2⟩ := n1
    obtain ⟨c3, c4, f3, f4⟩ := n2
    cases hs1 : fitS s l <;> cases hs2 : fitS s' l' <;> rw [hs1] at c1 <;> rw [hs2] at c3
    · have HF : Hid (cmpI (numZ s l) (numZ s' l') = cmpI (val (fitL s l)) (val (fitL s' l'))) := (by show _ = _; rw [numZ_false hs1, numZ_false hs2])
      clear hs1 hs2
      go_wp2_with fail
      refine (compare_val _ _ _ _ _ HL1.out HL2.out (fit_small _ _) (fit_small _ _) (fit_top _ _) (fit_top _ _)).mono ?_
      rintro e w' ⟨rfl, hb⟩
      go_wp2
      go_ret
      exact ⟨ret_int HF.out.symm, Below.step hB hb⟩
    · have HF : Hid (cmpI (numZ s l) (numZ s' l') = 1) := (by show _ = _; rw [numZ_false hs1, numZ_true hs2]; have := fit_pos hs2; exact cmpI_gt (by omega))
      clear hs1 hs2
      go_wp2_with fail
      go_ret
      exact ⟨ret_int HF.out.symm, hB⟩
    · have HF : Hid (cmpI (numZ s l) (numZ s' l') = -1) := (by show _ = _; rw [numZ_true hs1, numZ_false hs2]; have := fit_pos hs1; exact cmpI_lt (by omega))
      clear hs1 hs2
      go_wp2_with fail
      go_ret
      exact ⟨ret_int HF.out.symm, hB⟩
    · have HF : Hid (cmpI (numZ s l) (numZ s' l') = cmpI (val (fitL s' l')) (val (fitL s l))) := (by show _ = _; rw [numZ_true hs1, numZ_true hs2, cmpI_neg])
      clear hs1 hs2
      go_wp2_with fail
      refine (compare_val _ _ _ _ _ HL2.out HL1.out (fit_small _ _) (fit_small _ _) (fit_top _ _) (fit_top _ _)).mono ?_
      rintro e w' ⟨rfl, hb⟩
      go_wp2
      go_ret
      exact ⟨ret_int HF.out.symm, Below.step hB hb⟩

theorem Cmp_any (s s' : Bool) (v v' : Value) (l l' : List Nat) (w : World) (h : Lim w v l) (h' : Lim w v' l') :
    Calls Tryz.prog 122 #[.agg #[.bool s, v], .agg #[.bool s', v']] w fun e w' => e = .returned (.int .i64 (cmpI (numZ s l) (numZ s' l'))) ∧ Below w.heap.size w w' := by
  have h1 := h
  have h1' := h'
  obtain ⟨a, c, rfl, _⟩ := h
  obtain ⟨a', c', rfl, _⟩ := h'
  exact Cmp_slices s s' a a' c c' l l' w h1 h1'

end Go.Proofs.YtgpoljbccimkjaaGreatDoor
