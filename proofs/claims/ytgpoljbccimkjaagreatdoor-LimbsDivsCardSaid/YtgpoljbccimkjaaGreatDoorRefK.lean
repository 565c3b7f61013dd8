/- Walks of the reference of layer 1: the product of two numbers. -/
import Derived.Test.YtgpoljbccimkjaaGreatDoorRefJ
namespace Go.Proofs.YtgpoljbccimkjaaGreatDoor
open Go.RowKit Go.Shelf

section
variable {bs : List (Nat × Bool)} {fs : List (Nat × (Value → World → Prop))} {w0 : World} {d : Nat} {ty : TypeId} {pos : String} {af : Array Edge} {g : Option (Nat × Bool)}
set_option maxRecDepth 100000 in
theorem step_neBB {x y : Nat} {t' : TypeId} {m k b : Bool} (hx : ∀ v w, Known bs fs x v w → v = .bool m) (hy : ∀ v w, Known bs fs y v w → v = .bool k) (hb' : (m != k) = b) (h : ∀ w, Known bs fs d (.bool b) w) : StepOk Tryz.prog bs fs w0 ⟨some d, .binOp .neq 4 (.tmp x) (.tmp y) t', ty, pos, af, g⟩ :=
  step_value rfl fun a w hb hk => ⟨.bool b, w, by
    have h1 := hx _ _ (hk x (by simp [looks, Op.operands]))
    have h2 := hy _ _ (hk y (by simp [looks, Op.operands]))
    subst hb'
    simp only [execOp, h1, h2]
    go_simp
    try (cases m <;> cases k <;> rfl), h _, Below.refl _ _⟩
end

theorem rtimes_m {u v : Value} {la lb : List Nat} {w : World} (ha : IsL la u w) (hb : IsL lb v w) (h1 : ∀ x ∈ la, x < 1000000000) (h2 : ∀ x ∈ lb, x < 1000000000) (n1 : la.length ≤ 1000000) (n2 : lb.length ≤ 1000000) :
    Calls Tryz.prog 200 #[u, v] w fun e w' => (∃ r, e = .returned r ∧ IsM (val la * val lb) r w') ∧ Below w.heap.size w w' := by
  refine (rtimes_any u v la lb w ha hb h1 h2 n1 n2).mono ?_
  rintro e w' ⟨⟨r, L, rfl, h3, h4, h5⟩, h6⟩
  exact ⟨⟨r, rfl, L, h3.lim, h4, h5⟩, h6⟩

set_option maxRecDepth 100000 in
set_option maxHeartbeats 4000000 in
theorem rMul_num {w : World} {u u' : Value} {k k' : Nat} {Z Z' : Int} (h : NumAt w u k Z) (h' : NumAt w u' k' Z') (hk : k ≤ 1000000) (hk' : k' ≤ 1000000) :
    Calls Tryz.prog 140 #[u, u'] w fun e w' => AnsAt w' e (k + k') (Z * Z') ∧ Below w.heap.size w w' := by
  have HBD := Lib.hid (bound_mul h.bound h'.bound)
  obtain ⟨s, v, l, rfl, hv, hZ, h4⟩ := h
  obtain ⟨s', v', l', rfl, hv', hZ', h4'⟩ := h'
  have HL : Hid (∀ W, Below w.heap.size w W → Lim W v l) := fun W hb => hv.below hb
  have HL' : Hid (∀ W, Below w.heap.size w W → Lim W v' l') := fun W hb => hv'.below hb
  have HZ : Hid (numZ s l = Z ∧ numZ s' l' = Z') := ⟨hZ, hZ'⟩
  have HN : Hid ((fitL s l).length ≤ 1000000 ∧ (fitL s' l').length ≤ 1000000) := by
    have h1 := fitL_le s l
    have h2 := fitL_le s' l'
    exact ⟨by omega, by omega⟩
  obtain ⟨a, c, rfl, -⟩ := hv
  obtain ⟨a', c', rfl, -⟩ := hv'
  obtain ⟨W0, e0, n1, n2, n3, hb0, -⟩ := box3 w (.bool s) (.slice a l.length c) (.bool s') (.slice a' l'.length c') (.bool false) (.slice none 0 0)
  have N1 := Lib.hid n1
  have N2 := Lib.hid n2
  have N3 := Lib.hid n3
  have B0 := Lib.hid hb0
  obtain ⟨c0, c1, -, -⟩ := n1
  clear hb0 n2 n3 hZ hZ' h4 h4' hk hk'
  go_enter Tryz.func140, Tryz.ntmps140
  go_wp2_with fail
  clear e0
  refine (rFit_any s _ l _ (HL.out _ B0.out)).mono ?_
  rintro e w1 ⟨v1, rfl, hl1, hb1⟩
  have K1 := Lib.hid hl1
  obtain ⟨a1, k1, rfl, -⟩ := hl1
  have m1 := N1.out.below hb1
  have m2 := N2.out.below hb1
  have m3 := N3.out.below hb1
  have B1 := Lib.hid (Below.step B0.out hb1)
  clear hb1 c0 c1
  obtain ⟨W1, e1, M1, P1, Q1, R1⟩ := m1.put (.bool (fitS s l)) (.slice a1 (fitL s l).length k1)
  have B1' := Lib.hid (P1.out _ (Nat.le_refl _) B1.out)
  have K1' := Lib.hid (Q1.out _ _ K1.out)
  have hM2 := R1.out _ _ _ (by simp) m2
  have M2 := Lib.hid hM2
  have M3 := Lib.hid (R1.out _ _ _ (by simp) m3)
  have M1' := Lib.hid M1
  obtain ⟨d0, d1, f0, f1⟩ := m1
  obtain ⟨d2, d3, f2, f3⟩ := hM2
  obtain ⟨g0, g1, -, -⟩ := M1
  clear P1 Q1 R1 m2 m3
  go_wp2_with fail
  clear e1 d0 d1 f0 f1 d2 d3 f2 f3 g0 g1
  refine (rFit_any s' _ l' _ (HL'.out _ B1'.out)).mono ?_
  rintro e w2 ⟨v2, rfl, hl2, hb2⟩
  have K2 := Lib.hid hl2
  obtain ⟨a2, k2, rfl, -⟩ := hl2
  have K1'' := Lib.hid (K1'.out.below hb2)
  have m1 := M1'.out.below hb2
  have m2 := M2.out.below hb2
  have m3 := M3.out.below hb2
  have B2 := Lib.hid (Below.step B1'.out hb2)
  obtain ⟨W2, e2, q2, P2, Q2, R2⟩ := m2.put (.bool (fitS s' l')) (.slice a2 (fitL s' l').length k2)
  have HB := Lib.hid (P2.out _ (Nat.le_succ _) B2.out)
  have h1 := Q2.out _ _ K1''.out
  have h2 := Q2.out _ _ K2.out
  have G1 := Lib.hid h1
  have G2 := Lib.hid h2
  have H1 : Hid (∀ W, Below W2.heap.size W2 W → Lim W _ _) := fun W hb => h1.below hb
  have H2 : Hid (∀ W, Below W2.heap.size W2 W → Lim W _ _) := fun W hb => h2.below hb
  have q1 := R2.out _ _ _ (by simp) m1
  have M1 := q1.v.keep
  have M2 := q2.v.keep
  have M3 := (R2.out _ _ _ (by simp) m3).v.keep
  obtain ⟨d0, d1, -, -⟩ := q1
  obtain ⟨d2, d3, f2, f3⟩ := m2
  obtain ⟨g0, g1, -, -⟩ := q2
  clear hb2 P2 Q2 R2 m1 m3 h1 h2 N1 N2 N3
  have HV : Hid ((if (fitS s l != fitS s' l') then -((val (fitL s l) * val (fitL s' l') : Nat) : Int) else ((val (fitL s l) * val (fitL s' l') : Nat) : Int)) = Z * Z') := by
    show _ = _
    rw [← HZ.out.1, ← HZ.out.2, ← numZ_fit, ← numZ_fit]
    unfold valS
    cases h : fitS s l <;> cases h' : fitS s' l' <;> simp [Int.neg_mul, Int.mul_neg]
  go_upto_region 3 with fail
  rename_i K9 hK9
  refine wp_region_tail []
    [(2, IsV (.pointer (some ⟨w.heap.size, 0, none⟩))), (3, IsV (.pointer (some ⟨w.heap.size + 1, 0, none⟩))), (4, IsV (.pointer (some ⟨w.heap.size + 1 + 1, 0, none⟩)))]
    [(9, IsV (.pointer (some ⟨w.heap.size, 0, none⟩))), (10, IsV (.bool (fitS s l))), (11, IsV (.pointer (some ⟨w.heap.size + 1, 0, none⟩))), (12, IsV (.bool (fitS s' l'))), (13, IsV (.bool (fitS s l != fitS s' l'))), (14, IsV (.pointer (some ⟨w.heap.size, 0 + 1, none⟩))), (15, IsL (fitL s l)), (16, IsV (.pointer (some ⟨w.heap.size + 1, 0 + 1, none⟩))), (17, IsL (fitL s' l')), (18, IsM (val (fitL s l) * val (fitL s' l'))), (19, IsO (k + k') (Z * Z'))]
    [] 20 11 (by kernel_rfl) rfl (by kernel_rfl) (by kernel_rfl) (by kernel_rfl) (by kernel_rfl) ⟨rfl, rfl, rfl, trivial⟩ ⟨IsV.grows _, IsV.grows _, IsV.grows _, IsV.grows _, IsV.grows _, IsV.grows _, IsV.grows _, IsV.grows _, IsV.grows _, IsL.grows _, IsV.grows _, IsL.grows _, IsM.grows _, IsO.grows _ _, trivial⟩ ?_ (fun d _ _ _ _ h => by cases d <;> exact h) ?_ ?_
  · refine AllStep2.step rfl rfl (step_fieldT (fun _ _ h => h) (fun _ => run_sgn) (fun _ => rfl)) ?_
    refine AllStep2.step rfl rfl (step_loadT (fun _ _ h => h) (fun W hb => run_loadB (M1.out W hb).at0) (fun w hb => rfl)) ?_
    refine AllStep2.step rfl rfl (step_fieldT (fun _ _ h => h) (fun _ => run_sgn) (fun _ => rfl)) ?_
    refine AllStep2.step rfl rfl (step_loadT (fun _ _ h => h) (fun W hb => run_loadB (M2.out W hb).at0) (fun w hb => rfl)) ?_
    refine AllStep2.step rfl rfl (step_neBB (fun _ _ h => h) (fun _ _ h => h) rfl (fun _ => rfl)) ?_
    refine AllStep2.step rfl rfl (step_fieldT (fun _ _ h => h) (fun _ => run_dig) (fun _ => rfl)) ?_
    refine AllStep2.step rfl rfl (step_loadT (fun _ _ h => h) (fun W hb => run_loadS (M1.out W hb).at1) (fun w hb => H1.out w hb)) ?_
    refine AllStep2.step rfl rfl (step_fieldT (fun _ _ h => h) (fun _ => run_dig) (fun _ => rfl)) ?_
    refine AllStep2.step rfl rfl (step_loadT (fun _ _ h => h) (fun W hb => run_loadS (M2.out W hb).at1) (fun w hb => H2.out w hb)) ?_
    refine AllStep2.step rfl rfl (step_call2 (Plain.of Tryz.func200 rfl rfl) (fun _ _ _ _ hu hv => rtimes_m hu hv (fit_small _ _) (fit_small _ _) HN.out.1 HN.out.2)) ?_
    refine AllStep2.step rfl rfl (step_call2 (Plain.of Tryz.func78 rfl rfl) (fun _ _ _ _ hu hv => rnum_m hu hv HV.out HBD.out)) ?_
    exact AllStep2.nil
  · intro t ht v w hk
    simp only [List.mem_cons, List.not_mem_nil, or_false] at ht
  intro a3 w3 hb3 hs3 hd3 hk3 _
  have hz : OkAt w3 (a3.eval (.tmp 19)) (k + k') (Z * Z') := hk3 19 (by kernel_rfl)
  have h2 : a3.eval (.tmp 4) = .pointer (some ⟨w.heap.size + 1 + 1, 0, none⟩) := hk3 4 (by kernel_rfl)
  obtain ⟨z1, p1, i1, j1, ez⟩ := OkAt.agg hz
  have hz' : OkAt w3 (.agg #[.bool z1, .slice p1 i1 j1]) (k + k') (Z * Z') := by rw [← ez]; exact hz
  have N := M3.out _ hb3
  obtain ⟨W', e, hst, hbx⟩ := N.store (ys := [.bool z1, .slice p1 i1 j1]) rfl rfl
  refine wpOps_step (i := 11) (rest := []) rfl rfl ?_
  refine wp_store_T h2 ez (run_store2 N) ?_
  rw [e]
  refine hK9 _ _ ?_
  refine wp_ret ?_
  exact ret_nm (t := 4) rfl hd3 h2 hbx ⟨⟨_, rfl, hz'.stored hst⟩, hst.below w (by omega) (Below.step HB.out hb3)⟩

end Go.Proofs.YtgpoljbccimkjaaGreatDoor
