/- Walks: the sum and the difference of two fractions. -/
import Derived.Test.YtgpoljbccimkjaaGreatDoorFLevel
namespace Go.Proofs.YtgpoljbccimkjaaGreatDoor
set_option linter.unusedSimpArgs false
set_option linter.unusedVariables false
open Go.RowKit Go.Shelf

/-- Which of two fractions is greater. -/
def cmpR (p q : Rat) : Int := if p < q then -1 else if q < p then 1 else 0
theorem cmp_level (a b : Rat) {s : Int} (hs : s = (Int.gcd (a.den : Int) (b.den : Int) : Int)) : cmpI (a.num * ((b.den : Int) / s)) (b.num * ((a.den : Int) / s)) = cmpR a b := by
  have h1 := rat_cmp_level a b hs
  have h2 := rat_cmp_level b a (s := s) (by rw [hs, Int.gcd_comm])
  unfold cmpI cmpR
  simp only [h1, h2]

set_option maxHeartbeats 1000000 in
theorem CmpC_num {w : World} {t l s : Value} {k k' kl ks : Nat} {Z Z' L S : Int} (h : IsOO k Z k' Z' t w) (h2 : OkAt w l kl L) (h3 : OkAt w s ks S) :
    Calls Tryz.prog 142 #[t, l, s] w fun e w' => e = .returned (.int .i64 (cmpI Z Z')) ∧ Below w.heap.size w w' := by
  obtain ⟨s1, a1, n1, c1, s2, a2, n2, c2, rfl, g1, g2⟩ := h
  obtain ⟨s3, a3, n3, c3, rfl, -⟩ := h2.shape
  obtain ⟨s4, a4, n4, c4, rfl, -⟩ := h3.shape
  have G1 := g1.keep
  have G2 := g2.keep
  clear g1 g2 h2 h3
  go_enter Tryz.func142, Tryz.ntmps142
  go_wp2_with fail
  refine (Cmp_num (G1.out _ (by repeat (first | exact Below.refl _ _ | with_reducible refine Below.drew ?_ | with_reducible refine below_drewN ?_ _ | with_reducible refine Below.setCell ?_ (by first | (simp; done) | (simp; omega) | omega) _ | with_reducible refine Below.alloc ?_ (by first | (simp; done) | (simp; omega) | omega) _))).num (G2.out _ (by repeat (first | exact Below.refl _ _ | with_reducible refine Below.drew ?_ | with_reducible refine below_drewN ?_ _ | with_reducible refine Below.setCell ?_ (by first | (simp; done) | (simp; omega) | omega) _ | with_reducible refine Below.alloc ?_ (by first | (simp; done) | (simp; omega) | omega) _))).num _ rfl).mono ?_
  rintro e w1 ⟨rfl, hb1⟩
  go_wp2_with fail
  go_ret
  exact ⟨rfl, Below.step (by repeat (first | exact Below.refl _ _ | with_reducible refine Below.drew ?_ | with_reducible refine below_drewN ?_ _ | with_reducible refine Below.setCell ?_ (by first | (simp; done) | (simp; omega) | omega) _ | with_reducible refine Below.alloc ?_ (by first | (simp; done) | (simp; omega) | omega) _)) hb1⟩

set_option maxHeartbeats 1000000 in
theorem CmpF_at {w : World} {u v : Value} {k k' : Nat} {x y : Rat} (h : FrAt w u k x) (h' : FrAt w v k' y) (h1 : 1 ≤ k) (h1' : 1 ≤ k') (hk : k ≤ 1000000) (hk' : k' ≤ 1000000) :
    Calls Tryz.prog 42 #[u, v] w fun e w' => e = .returned (.int .i64 (cmpR x y)) ∧ Below w.heap.size w w' := by
  have HA := h.keep
  have HB := h'.keep
  have HK : Hid (1 ≤ k ∧ 1 ≤ k' ∧ k ≤ 1000000 ∧ k' ≤ 1000000) := ⟨h1, h1', hk, hk'⟩
  have HC := Lib.hid (cmp_level x y rfl)
  obtain ⟨s, v0, l, s', v', l', rfl, g1, g2, -⟩ := h
  obtain ⟨a, c, rfl, -⟩ := g1
  obtain ⟨a', c', rfl, -⟩ := g2
  obtain ⟨t, u0, i, t', u', i', rfl, g3, g4, -⟩ := h'
  obtain ⟨r, d, rfl, -⟩ := g3
  obtain ⟨r', d', rfl, -⟩ := g4
  clear h1 h1' hk hk'
  go_enter Tryz.func42, Tryz.ntmps42
  go_wp2_with fail
  refine (level_int (f := 142) (r := cmpR x y) (HA.out _ (by repeat (first | exact Below.refl _ _ | with_reducible refine Below.drew ?_ | with_reducible refine below_drewN ?_ _ | with_reducible refine Below.setCell ?_ (by first | (simp; done) | (simp; omega) | omega) _ | with_reducible refine Below.alloc ?_ (by first | (simp; done) | (simp; omega) | omega) _))) (HB.out _ (by repeat (first | exact Below.refl _ _ | with_reducible refine Below.drew ?_ | with_reducible refine below_drewN ?_ _ | with_reducible refine Below.setCell ?_ (by first | (simp; done) | (simp; omega) | omega) _ | with_reducible refine Below.alloc ?_ (by first | (simp; done) | (simp; omega) | omega) _))) HK.out.1 HK.out.2.1 HK.out.2.2.1 HK.out.2.2.2 (Plain.of Tryz.func142 rfl rfl) ?_).mono ?_
  · intro W t l s hb ht hl hs
    refine (CmpC_num ht hl hs).mono ?_
    rintro e w' ⟨rfl, hb'⟩
    exact ⟨⟨_, rfl, by rw [HC.out]⟩, hb'⟩
  · rintro e w1 ⟨rfl, hb1⟩
    go_wp2_with fail
    go_ret
    exact ⟨rfl, Below.step (by repeat (first | exact Below.refl _ _ | with_reducible refine Below.drew ?_ | with_reducible refine below_drewN ?_ _ | with_reducible refine Below.setCell ?_ (by first | (simp; done) | (simp; omega) | omega) _ | with_reducible refine Below.alloc ?_ (by first | (simp; done) | (simp; omega) | omega) _)) hb1⟩

set_option maxRecDepth 100000
theorem run_loadf {W : World} {b : Nat} {g : FuncId} (h0 : W.cell? ⟨b, 0, none⟩ = some (.func (.func g) #[] #[])) : (Instr.loadAt 30 (.pointer (some ⟨b, 0, none⟩))).run Tryz.prog W = .ok (.func (.func g) #[] #[]) W := by
  go_simp
section
variable {bs : List (Nat × Bool)} {fs : List (Nat × (Value → World → Prop))} {w0 : World} {d : Nat} {ty : TypeId} {pos : String} {af : Array Edge} {g : Option (Nat × Bool)}
theorem step_value2 {f : FuncId} (hp : Plain f) {s x y : Nat} {ts : Array TypeId} (hs : ∀ v w, Known bs fs s v w → v = .func (.func f) #[] #[]) (h : ∀ u v w, Below w0.heap.size w0 w → Known bs fs x u w → Known bs fs y v w → Calls Tryz.prog f #[u, v] w fun e w' => (∃ r, e = .returned r ∧ Known bs fs d r w') ∧ Below w.heap.size w w') : StepOk Tryz.prog bs fs w0 ⟨some d, .call { callee := .value (.tmp s), args := #[.tmp x, .tmp y], argTypes := ts }, ty, pos, af, g⟩ := by
  intro Q a w hb hk
  have h1 := hs _ _ (hk s (by simp [looks, Op.operands, Call.operands]))
  have h2 := h _ _ w hb (hk x (by simp [looks, Op.operands, Call.operands])) (hk y (by simp [looks, Op.operands, Call.operands]))
  have he : (execOp a.eval ⟨some d, .call { callee := .value (.tmp s), args := #[.tmp x, .tmp y], argTypes := ts }, ty, pos, af, g⟩).run Tryz.prog w = .ok (.enter f #[a.eval (.tmp x), a.eval (.tmp y)]) w := by
    have h3 : resolve a.eval { callee := .value (.tmp s), args := #[.tmp x, .tmp y], argTypes := ts } ty = Deferred.ofValue (a.eval (.tmp s)) #[a.eval (.tmp x), a.eval (.tmp y)] := by simp [resolve]
    simp only [execOp, h3, h1]
    simp [go_sem, Deferred.ofValue, invoke, hp _ _]
  unfold Oper.wp
  rw [he, Oper.upon_enter]
  refine h2.mono ?_
  rintro e w' ⟨⟨r, rfl, h4⟩, h5⟩
  refine ⟨r, rfl, fun e he => ?_, h5⟩
  injection he with he
  subst he
  exact h4
end

theorem box_comb (w : World) (x0 x1 x2 x3 y0 y1 z0 z1 : Value) : ∃ W0, (((w.alloc (.cells #[x0, x1, x2, x3] 121)).alloc (.cells #[y0, y1] 24)).alloc (.cells #[z0, z1] 24)).alloc (.cells #[.bool false, .slice none 0 0, .bool false, .slice none 0 0] 58) = W0 ∧
    BoxV W0 w.heap.size [x0, x1, x2, x3] ∧ BoxV W0 (w.heap.size + 1) [y0, y1] ∧ BoxV W0 (w.heap.size + 1 + 1) [z0, z1] ∧ BoxV W0 (w.heap.size + 1 + 1 + 1) nought4 ∧ Below w.heap.size w W0 := by
  obtain ⟨W1, e1⟩ : ∃ W, w.alloc (.cells #[x0, x1, x2, x3] 121) = W := ⟨_, rfl⟩
  obtain ⟨a1, a2, a3⟩ := BoxV.new1 (vs := [x0, x1, x2, x3]) e1 rfl
  rw [e1]
  obtain ⟨W2, e2⟩ : ∃ W, W1.alloc (.cells #[y0, y1] 24) = W := ⟨_, rfl⟩
  obtain ⟨b1, b2, b3⟩ := BoxV.new1 (vs := [y0, y1]) e2 a3
  rw [e2]
  obtain ⟨W3, e3⟩ : ∃ W, W2.alloc (.cells #[z0, z1] 24) = W := ⟨_, rfl⟩
  obtain ⟨c1, c2, c3⟩ := BoxV.new1 (vs := [z0, z1]) e3 b3
  rw [e3]
  obtain ⟨W4, e4⟩ : ∃ W, W3.alloc (.cells #[.bool false, .slice none 0 0, .bool false, .slice none 0 0] 58) = W := ⟨_, rfl⟩
  obtain ⟨d1, d2, d3⟩ := BoxV.new1 (vs := nought4) e4 c3
  exact ⟨W4, e4, ((a1.below b2).below c2).below d2, (b1.below c2).below d2, c1.below d2, d1, Below.step (Below.step (Below.step a2 b2) c2) d2⟩

set_option maxHeartbeats 8000000 in
theorem combC_num {w : World} {t l s : Value} {k k' kl ks bc : Nat} {Z Z' L S : Int} {g : FuncId} {op : Int → Int → Int} (h : IsOO k Z k' Z' t w) (h2 : OkAt w l kl L) (h3 : OkAt w s ks S) (hk : k ≤ 100000) (hk' : k' ≤ 100000) (hkl : kl ≤ 1000000) (hks : ks ≤ 100000) (hc : BoxV w bc [.func (.func g) #[] #[]]) (hp : Plain g)
    (hop : ∀ (W : World) (u u' : Value) (k k' : Nat) (Z Z' : Int), OkAt W u k Z → OkAt W u' k' Z' → k ≤ 1000000 → k' ≤ 1000000 → Calls Tryz.prog g #[u, u'] W fun e w' => AnsAt w' e (max k k' + 1) (op Z Z') ∧ Below W.heap.size W w')
    (hL : L ≠ 0) (hgcd : Int.gcd (op Z Z') L = Int.gcd (op Z Z') S) :
    Calls Tryz.prog 197 #[t, l, s, .pointer (some ⟨bc, 0, none⟩)] w fun e w' => FrAns w' e (max (max k k' + 1) kl) (Rat.divInt (op Z Z') L) ∧ Below w.heap.size w w' := by
  obtain ⟨s1, a1, n1, c1, s2, a2, n2, c2, rfl, g1, g2⟩ := h
  obtain ⟨s3, a3, n3, c3, rfl, -⟩ := h2.shape
  obtain ⟨s4, a4, n4, c4, rfl, -⟩ := h3.shape
  have HOP := Lib.hid hop
  have HK : Hid (k ≤ 1000000 ∧ k' ≤ 1000000 ∧ kl ≤ 1000000 ∧ ks ≤ 1000000) := ⟨by omega, by omega, hkl, by omega⟩
  have HM : Hid (max k k' + 1 ≤ 1000000 ∧ max (max k k' + 1) ks ≤ 1000000) := ⟨by omega, by omega⟩
  have HD : Hid (L ≠ 0 ∧ Int.gcd (op Z Z') L = Int.gcd (op Z Z') S) := ⟨hL, hgcd⟩
  obtain ⟨W0, e0, m1, m2, m3, m4, hb0⟩ := box_comb w (.bool s1) (.slice a1 n1 c1) (.bool s2) (.slice a2 n2 c2) (.bool s3) (.slice a3 n3 c3) (.bool s4) (.slice a4 n4 c4)
  have N1 := m1.keep
  have N2 := m2.keep
  have N3 := m3.keep
  have N4 := m4.keep
  have NC := (hc.below hb0).keep
  have HA := (g1.below hb0).keep
  have HB := (g2.below hb0).keep
  have HL := (h2.below hb0).keep
  have HS := (h3.below hb0).keep
  have B0 := Lib.hid hb0
  clear g1 g2 h2 h3 hb0 m1 m2 m3 m4 hop hk hk' hkl hks hc hL hgcd
  go_enter Tryz.func197, Tryz.ntmps197
  go_upto_region 1 with fail
  clear e0
  rename_i K1 hK1
  refine wp_region_seq []
    [(3, IsV (.pointer (some ⟨bc, 0, none⟩))), (4, IsV (.pointer (some ⟨w.heap.size, 0, none⟩))), (5, IsV (.pointer (some ⟨(w.heap.size + 1), 0, none⟩))), (6, IsV (.pointer (some ⟨(w.heap.size + 1 + 1), 0, none⟩))), (7, IsV (.pointer (some ⟨w.heap.size + 1 + 1 + 1, 0, none⟩)))]
    [(9, IsV (.func (.func g) #[] #[])), (10, IsV (.pointer (some ⟨w.heap.size, 0, none⟩))), (11, IsO k (Z)), (12, IsV (.pointer (some ⟨w.heap.size, 2, none⟩))), (13, IsO k' (Z')), (14, IsO (max k k' + 1) ((op Z Z'))), (8, IsNew W0.heap.size nought2)]
    21 7 rfl (by kernel_rfl) (by kernel_rfl) ⟨rfl, rfl, rfl, rfl, rfl, trivial⟩ ⟨IsV.grows _ , IsV.grows _ , IsV.grows _ , IsV.grows _ , IsV.grows _ , IsV.grows _ , IsV.grows _ , IsO.grows _ _ , IsV.grows _ , IsO.grows _ _ , IsO.grows _ _ , IsNew.grows _ _ , trivial⟩ ?_ ?_
  · refine AllStep.cons (step_loadT (fun _ _ h => h) (fun W hb => run_loadf (NC.out W hb).at0) (fun _ _ => rfl)) ?_
    refine AllStep.cons (step_indexT (fun _ _ h => h) (fun _ => run_num0) (fun _ => rfl)) ?_
    refine AllStep.cons (step_loadT (fun _ _ h => h) (fun W hb => run_load2 rfl (N1.out W hb).at0 (N1.out W hb).at1) (fun w hb => HA.out w hb)) ?_
    refine AllStep.cons (step_indexT (fun _ _ h => h) (fun _ => run_num1) (fun _ => rfl)) ?_
    refine AllStep.cons (step_loadT (fun _ _ h => h) (fun W hb => run_load2 rfl (N1.out W hb).at2 (N1.out W hb).at3) (fun w hb => HB.out w hb)) ?_
    refine AllStep.cons (step_value2 hp (fun _ _ h => h) (fun _ _ w _ ha hb' => HOP.out w _ _ _ _ _ _ ha hb' HK.out.1 HK.out.2.1)) ?_
    refine AllStep.cons (step_allocT (fun _ => run_new2) (fun _ _ h => h)) ?_
    exact AllStep.nil
  intro a1' w1 hb1 hs1 hd1 hk1
  have q5 : a1'.eval (.tmp 5) = .pointer (some ⟨w.heap.size + 1, 0, none⟩) := hk1 5 (by kernel_rfl)
  have q6 : a1'.eval (.tmp 6) = .pointer (some ⟨w.heap.size + 1 + 1, 0, none⟩) := hk1 6 (by kernel_rfl)
  have q7 : a1'.eval (.tmp 7) = .pointer (some ⟨w.heap.size + 1 + 1 + 1, 0, none⟩) := hk1 7 (by kernel_rfl)
  have x14 : OkAt w1 (a1'.eval (.tmp 14)) (max k k' + 1) (op Z Z') := hk1 14 (by kernel_rfl)
  obtain ⟨b8, q8, l8, m8, -⟩ : IsNew W0.heap.size nought2 (a1'.eval (.tmp 8)) w1 := hk1 8 (by kernel_rfl)
  obtain ⟨z1, p1, i1, j1, e14⟩ := OkAt.agg x14
  have x14' : OkAt w1 (.agg #[.bool z1, .slice p1 i1 j1]) (max k k' + 1) (op Z Z') := by rw [← e14]; exact x14
  obtain ⟨W1, eW1, st1, bx8⟩ := m8.store (ys := [.bool z1, .slice p1 i1 j1]) rfl rfl
  refine wpOps_step (i := 7) (rest := []) rfl rfl ?_
  refine wp_store_T q8 e14 (run_store2 m8) ?_
  rw [eW1]
  have bW := st1.below W0 l8 hb1
  have HP := (x14'.store st1).keep
  have HL := (HL.out _ bW).keep
  have HS := (HS.out _ bW).keep
  have N2 := (N2.out _ bW).keep
  have N3 := (N3.out _ bW).keep
  have N4 := (N4.out _ bW).keep
  have M8 := bx8.keep
  have B1 := Lib.hid (Below.step B0.out bW)
  clear x14 x14' bx8 bW st1 eW1 m8 e14 hb1 hk1 HA HB N1 NC
  refine hK1 _ _ ?_
  refine wp_seq_k ?_
  intro K2 hK2
  refine wp_region_tail []
    [(5, IsV (.pointer (some ⟨(w.heap.size + 1), 0, none⟩))), (6, IsV (.pointer (some ⟨(w.heap.size + 1 + 1), 0, none⟩))), (8, IsV (.pointer (some ⟨b8, 0, none⟩))), (7, IsV (.pointer (some ⟨w.heap.size + 1 + 1 + 1, 0, none⟩)))]
    [(15, IsO (max k k' + 1) ((op Z Z'))), (16, IsO kl (L)), (17, IsO (max k k' + 1) ((op Z Z'))), (18, IsO ks (S)), (19, IsO (max (max k k' + 1) ks) (((Int.gcd (op Z Z') S : Nat) : Int))), (20, IsF (max (max k k' + 1) kl) (Rat.divInt (op Z Z') L))]
    [] 21 6 (by kernel_rfl) hs1 (by kernel_rfl) (by kernel_rfl) (by kernel_rfl) (by kernel_rfl) ⟨q5, q6, q8, q7, trivial⟩ ⟨IsV.grows _ , IsV.grows _ , IsV.grows _ , IsV.grows _ , IsO.grows _ _ , IsO.grows _ _ , IsO.grows _ _ , IsO.grows _ _ , IsO.grows _ _ , IsF.grows _ _ , trivial⟩ ?_ (fun d _ _ _ _ h => by cases d <;> exact h) ?_ ?_
  · refine AllStep2.step rfl rfl (step_loadT (fun _ _ h => h) (fun W hb => run_load2 rfl (M8.out W hb).at0 (M8.out W hb).at1) (fun w hb => HP.out w hb)) ?_
    refine AllStep2.step rfl rfl (step_loadT (fun _ _ h => h) (fun W hb => run_load2 rfl (N2.out W hb).at0 (N2.out W hb).at1) (fun w hb => HL.out w hb)) ?_
    refine AllStep2.step rfl rfl (step_loadT (fun _ _ h => h) (fun W hb => run_load2 rfl (M8.out W hb).at0 (M8.out W hb).at1) (fun w hb => HP.out w hb)) ?_
    refine AllStep2.step rfl rfl (step_loadT (fun _ _ h => h) (fun W hb => run_load2 rfl (N3.out W hb).at0 (N3.out W hb).at1) (fun w hb => HS.out w hb)) ?_
    refine AllStep2.step rfl rfl (step_call2 (Plain.of Tryz.func150 rfl rfl) (fun _ _ _ _ hu hv => common_num hu hv HM.out.1 HK.out.2.2.2)) ?_
    refine AllStep2.step rfl rfl (step_call3 (Plain.of Tryz.func137 rfl rfl) (fun _ _ _ _ _ hu hv ht => lowest_num hu hv (by rw [HD.out.2]; exact ht) HM.out.1 HK.out.2.2.1 HM.out.2 HD.out.1)) ?_
    exact AllStep2.nil
  · intro t ht v w hk
    simp only [List.mem_cons, List.not_mem_nil, or_false] at ht
  intro a2' w2 hb2 hs2 hd2 hk2 _
  have x20 : FrOk w2 (a2'.eval (.tmp 20)) (max (max k k' + 1) kl) (Rat.divInt (op Z Z') L) := hk2 20 (by kernel_rfl)
  have q7 : a2'.eval (.tmp 7) = .pointer (some ⟨w.heap.size + 1 + 1 + 1, 0, none⟩) := hk2 7 (by kernel_rfl)
  obtain ⟨z1, p1, i1, j1, z2, p2, i2, j2, e20, -⟩ := x20.split
  have x20' : FrOk w2 (.agg #[.bool z1, .slice p1 i1 j1, .bool z2, .slice p2 i2 j2]) (max (max k k' + 1) kl) (Rat.divInt (op Z Z') L) := by rw [← e20]; exact x20
  have N := N4.out _ hb2
  obtain ⟨W', e, hst, hbx⟩ := N.store (ys := [.bool z1, .slice p1 i1 j1, .bool z2, .slice p2 i2 j2]) rfl rfl
  refine wpOps_step (i := 6) (rest := []) rfl rfl ?_
  refine wp_store_T q7 e20 (run_store4 N) ?_
  rw [e]
  refine hK2 _ _ ?_
  refine wp_ret ?_
  exact ret_fr (t := 7) rfl (hd2.trans hd1) q7 hbx ⟨⟨_, rfl, x20'.store hst⟩, hst.below w (by omega) (Below.step B1.out hb2)⟩

end Go.Proofs.YtgpoljbccimkjaaGreatDoor

namespace Go.Proofs.YtgpoljbccimkjaaGreatDoor
set_option linter.unusedSimpArgs false
set_option linter.unusedVariables false
open Go.RowKit Go.Shelf

theorem box_comb2 (w : World) (x0 x1 x2 x3 y0 y1 y2 y3 z : Value) : ∃ W0, (((w.alloc (.cells #[x0, x1, x2, x3] 58)).alloc (.cells #[y0, y1, y2, y3] 58)).alloc (.cells #[z] 30)).alloc (.cells #[.bool false, .slice none 0 0, .bool false, .slice none 0 0] 58) = W0 ∧
    BoxV W0 w.heap.size [x0, x1, x2, x3] ∧ BoxV W0 (w.heap.size + 1) [y0, y1, y2, y3] ∧ BoxV W0 (w.heap.size + 1 + 1) [z] ∧ BoxV W0 (w.heap.size + 1 + 1 + 1) nought4 ∧ Below w.heap.size w W0 := by
  obtain ⟨W1, e1⟩ : ∃ W, w.alloc (.cells #[x0, x1, x2, x3] 58) = W := ⟨_, rfl⟩
  obtain ⟨a1, a2, a3⟩ := BoxV.new1 (vs := [x0, x1, x2, x3]) e1 rfl
  rw [e1]
  obtain ⟨W2, e2⟩ : ∃ W, W1.alloc (.cells #[y0, y1, y2, y3] 58) = W := ⟨_, rfl⟩
  obtain ⟨b1, b2, b3⟩ := BoxV.new1 (vs := [y0, y1, y2, y3]) e2 a3
  rw [e2]
  obtain ⟨W3, e3⟩ : ∃ W, W2.alloc (.cells #[z] 30) = W := ⟨_, rfl⟩
  obtain ⟨c1, c2, c3⟩ := BoxV.new1 (vs := [z]) e3 b3
  rw [e3]
  obtain ⟨W4, e4⟩ : ∃ W, W3.alloc (.cells #[.bool false, .slice none 0 0, .bool false, .slice none 0 0] 58) = W := ⟨_, rfl⟩
  obtain ⟨d1, d2, d3⟩ := BoxV.new1 (vs := nought4) e4 c3
  exact ⟨W4, e4, ((a1.below b2).below c2).below d2, (b1.below c2).below d2, c1.below d2, d1, Below.step (Below.step (Below.step a2 b2) c2) d2⟩

theorem level_low (a b : Rat) : (a.den : Int) * ((b.den : Int) / (Int.gcd (a.den : Int) (b.den : Int) : Nat)) ≠ 0 := by
  obtain ⟨s', e1, e2, hs', p0, p1, p2, h1, h2, h3, -⟩ := split_gcd a b
  rw [← hs', h3]
  have := Int.mul_pos (rat_den_pos a) p2
  omega

set_option maxRecDepth 100000 in
set_option maxHeartbeats 4000000 in
theorem combined_at {w : World} {u v : Value} {k k' : Nat} {x y q : Rat} {g : FuncId} {op : Int → Int → Int} (h : FrAt w u k x) (h' : FrAt w v k' y) (h1 : 1 ≤ k) (h1' : 1 ≤ k') (hk : k ≤ 10000) (hk' : k' ≤ 10000) (hp : Plain g)
    (hop : ∀ (W : World) (u u' : Value) (k k' : Nat) (Z Z' : Int), OkAt W u k Z → OkAt W u' k' Z' → k ≤ 1000000 → k' ≤ 1000000 → Calls Tryz.prog g #[u, u'] W fun e w' => AnsAt w' e (max k k' + 1) (op Z Z') ∧ Below W.heap.size W w')
    (hq : Rat.divInt (op (x.num * ((y.den : Int) / (Int.gcd (x.den : Int) (y.den : Int) : Nat))) (y.num * ((x.den : Int) / (Int.gcd (x.den : Int) (y.den : Int) : Nat)))) (x.den * ((y.den : Int) / (Int.gcd (x.den : Int) (y.den : Int) : Nat))) = q ∧
      Int.gcd (op (x.num * ((y.den : Int) / (Int.gcd (x.den : Int) (y.den : Int) : Nat))) (y.num * ((x.den : Int) / (Int.gcd (x.den : Int) (y.den : Int) : Nat)))) (x.den * ((y.den : Int) / (Int.gcd (x.den : Int) (y.den : Int) : Nat))) = Int.gcd (op (x.num * ((y.den : Int) / (Int.gcd (x.den : Int) (y.den : Int) : Nat))) (y.num * ((x.den : Int) / (Int.gcd (x.den : Int) (y.den : Int) : Nat)))) (Int.gcd (x.den : Int) (y.den : Int) : Nat)) :
    Calls Tryz.prog 133 #[u, v, .func (.func g) #[] #[]] w fun e w' => FrAns w' e (k + k' + 1) q ∧ Below w.heap.size w w' := by
  have HK : Hid (1 ≤ k ∧ 1 ≤ k' ∧ k ≤ 10000 ∧ k' ≤ 10000) := ⟨h1, h1', hk, hk'⟩
  have HOP := Lib.hid hop
  have HQ := Lib.hid hq
  have HL := Lib.hid (level_low x y)
  have HA0 := h.keep
  have HB0 := h'.keep
  obtain ⟨s, v0, l, s', v', l', rfl, g1, g2, -⟩ := h
  obtain ⟨a, c, rfl, -⟩ := g1
  obtain ⟨a', c', rfl, -⟩ := g2
  obtain ⟨t, u0, i, t', u', i', rfl, g3, g4, -⟩ := h'
  obtain ⟨r, d, rfl, -⟩ := g3
  obtain ⟨r', d', rfl, -⟩ := g4
  obtain ⟨W0, e0, n1, n2, n3, n4, hb0⟩ := box_comb2 w (.bool s) (.slice a l.length c) (.bool s') (.slice a' l'.length c') (.bool t) (.slice r i.length d) (.bool t') (.slice r' i'.length d') (.func (.func g) #[] #[])
  have N3 := n3.keep
  have N4 := n4.keep
  have HA := (HA0.out _ hb0).keep
  have HB := (HB0.out _ hb0).keep
  have B0 := Lib.hid hb0
  obtain ⟨c0, c1, c2, c3⟩ := n1.c4
  obtain ⟨c4, c5, c6, c7⟩ := n2.c4
  have hmf : ∀ (fn : Fn) (first cap : Array Value) (w : World), (Instr.makeFunc fn first cap).run Tryz.prog w = .ok (.func fn first cap) w := fun _ _ _ _ => rfl
  clear n1 n2 n3 n4 hb0 h1 h1' hk hk' HA0 HB0 hop hq
  go_enter Tryz.func133, Tryz.ntmps133
  go_wp2_with fail
  clear e0
  refine (level_fr (f := 197) (cap := #[.pointer (some ⟨w.heap.size + 1 + 1, 0, none⟩)]) (K := k + k' + 1) (q := q) (HA.out _ (Below.refl _ _)) (HB.out _ (Below.refl _ _)) HK.out.1 HK.out.2.1 (Nat.le_trans HK.out.2.2.1 (by decide)) (Nat.le_trans HK.out.2.2.2 (by decide)) (Plain.of Tryz.func197 rfl rfl) ?_).mono ?_
  · intro W t l s hb ht hl hs
    refine (combC_num ht hl hs (by have := HK.out; omega) (by have := HK.out; omega) (by have := HK.out; omega) (by have := HK.out; omega) (N3.out _ hb) hp HOP.out HL.out HQ.out.2).mono ?_
    rintro e w' ⟨⟨u, rfl, hu⟩, hb'⟩
    rw [HQ.out.1] at hu
    exact ⟨⟨_, rfl, hu.up (by omega)⟩, hb'⟩
  · rintro e w1 ⟨⟨u, rfl, hu⟩, hb1⟩
    have HU := Lib.hid hu
    obtain ⟨s1, p1, n1, j1, s2, p2, n2, j2, rfl, -⟩ := hu.split
    have hN := N4.out _ hb1
    have N := Lib.hid hN
    obtain ⟨g0, g1, g2, g3⟩ := hN.c4
    obtain ⟨f0, f1, f2, f3⟩ := hN.f4
    have B1 := Lib.hid (Below.step B0.out hb1)
    clear hu hN hb1 c0 c1 c2 c3 c4 c5 c6 c7
    go_wp2_with fail
    obtain ⟨W', e, hst, hbx⟩ := N.out.store (ys := [.bool s1, .slice p1 n1 j1, .bool s2, .slice p2 n2 j2]) rfl rfl
    simp only [setAll] at e
    rw [e]
    obtain ⟨k0, k1, k2, k3⟩ := hbx.c4
    exact bodyPost_ret (v := .agg #[.bool s1, .slice p1 n1 j1, .bool s2, .slice p2 n2 j2]) (by simp [results, Tryz.results133, go_sem, k0, k1, k2, k3]) rfl ⟨⟨_, rfl, HU.out.store hst⟩, hst.below w (by omega) B1.out⟩

set_option maxHeartbeats 4000000 in
theorem AddF_at {w : World} {u v : Value} {k k' : Nat} {x y : Rat} (h : FrAt w u k x) (h' : FrAt w v k' y) (h1 : 1 ≤ k) (h1' : 1 ≤ k') (hk : k ≤ 10000) (hk' : k' ≤ 10000) :
    Calls Tryz.prog 37 #[u, v] w fun e w' => FrAns w' e (k + k' + 1) (x + y) ∧ Below w.heap.size w w' := by
  have HK : Hid (1 ≤ k ∧ 1 ≤ k' ∧ k ≤ 10000 ∧ k' ≤ 10000) := ⟨h1, h1', hk, hk'⟩
  have HA0 := h.keep
  have HB0 := h'.keep
  obtain ⟨s, v0, l, s', v', l', rfl, g1, g2, -⟩ := h
  obtain ⟨a, c, rfl, -⟩ := g1
  obtain ⟨a', c', rfl, -⟩ := g2
  obtain ⟨t, u0, i, t', u', i', rfl, g3, g4, -⟩ := h'
  obtain ⟨r, d, rfl, -⟩ := g3
  obtain ⟨r', d', rfl, -⟩ := g4
  obtain ⟨W0, e0, n1, n2, n4, hb0⟩ := box_frs w (.bool s) (.slice a l.length c) (.bool s') (.slice a' l'.length c') (.bool t) (.slice r i.length d) (.bool t') (.slice r' i'.length d')
  have N4 := n4.keep
  have HA := Lib.hid (HA0.out _ hb0)
  have HB := Lib.hid (HB0.out _ hb0)
  have B0 := Lib.hid hb0
  obtain ⟨c0, c1, c2, c3⟩ := n1.c4
  obtain ⟨c4, c5, c6, c7⟩ := n2.c4
  clear n1 n2 n4 hb0 h1 h1' hk hk' HA0 HB0
  go_enter Tryz.func37, Tryz.ntmps37
  go_wp2_with fail
  clear e0
  refine (combined_at (g := 134) (op := fun a b => a + b) (q := x + y) HA.out HB.out HK.out.1 HK.out.2.1 HK.out.2.2.1 HK.out.2.2.2 (Plain.of Tryz.func134 rfl rfl) (fun W u u' k k' Z Z' h h' hk hk' => Add_num h.num h'.num hk hk') (rat_add_level x y rfl)).mono ?_
  rintro e w1 ⟨⟨u, rfl, hu⟩, hb1⟩
  have HU := Lib.hid hu
  obtain ⟨s1, p1, n1, j1, s2, p2, n2, j2, rfl, -⟩ := hu.split
  have hN := N4.out _ hb1
  have N := Lib.hid hN
  obtain ⟨g0, g1, g2, g3⟩ := hN.c4
  obtain ⟨f0, f1, f2, f3⟩ := hN.f4
  have B1 := Lib.hid (Below.step B0.out hb1)
  clear hu hN hb1 c0 c1 c2 c3 c4 c5 c6 c7
  go_wp2_with fail
  obtain ⟨W', e, hst, hbx⟩ := N.out.store (ys := [.bool s1, .slice p1 n1 j1, .bool s2, .slice p2 n2 j2]) rfl rfl
  simp only [setAll] at e
  rw [e]
  obtain ⟨k0, k1, k2, k3⟩ := hbx.c4
  exact bodyPost_ret (v := .agg #[.bool s1, .slice p1 n1 j1, .bool s2, .slice p2 n2 j2]) (by simp [results, Tryz.results37, go_sem, k0, k1, k2, k3]) rfl ⟨⟨_, rfl, HU.out.store hst⟩, hst.below w (by omega) B1.out⟩

set_option maxHeartbeats 4000000 in
theorem SubF_at {w : World} {u v : Value} {k k' : Nat} {x y : Rat} (h : FrAt w u k x) (h' : FrAt w v k' y) (h1 : 1 ≤ k) (h1' : 1 ≤ k') (hk : k ≤ 10000) (hk' : k' ≤ 10000) :
    Calls Tryz.prog 38 #[u, v] w fun e w' => FrAns w' e (k + k' + 1) (x - y) ∧ Below w.heap.size w w' := by
  have HK : Hid (1 ≤ k ∧ 1 ≤ k' ∧ k ≤ 10000 ∧ k' ≤ 10000) := ⟨h1, h1', hk, hk'⟩
  have HA0 := h.keep
  have HB0 := h'.keep
  obtain ⟨s, v0, l, s', v', l', rfl, g1, g2, -⟩ := h
  obtain ⟨a, c, rfl, -⟩ := g1
  obtain ⟨a', c', rfl, -⟩ := g2
  obtain ⟨t, u0, i, t', u', i', rfl, g3, g4, -⟩ := h'
  obtain ⟨r, d, rfl, -⟩ := g3
  obtain ⟨r', d', rfl, -⟩ := g4
  obtain ⟨W0, e0, n1, n2, n4, hb0⟩ := box_frs w (.bool s) (.slice a l.length c) (.bool s') (.slice a' l'.length c') (.bool t) (.slice r i.length d) (.bool t') (.slice r' i'.length d')
  have N4 := n4.keep
  have HA := Lib.hid (HA0.out _ hb0)
  have HB := Lib.hid (HB0.out _ hb0)
  have B0 := Lib.hid hb0
  obtain ⟨c0, c1, c2, c3⟩ := n1.c4
  obtain ⟨c4, c5, c6, c7⟩ := n2.c4
  clear n1 n2 n4 hb0 h1 h1' hk hk' HA0 HB0
  go_enter Tryz.func38, Tryz.ntmps38
  go_wp2_with fail
  clear e0
  refine (combined_at (g := 72) (op := fun a b => a - b) (q := x - y) HA.out HB.out HK.out.1 HK.out.2.1 HK.out.2.2.1 HK.out.2.2.2 (Plain.of Tryz.func72 rfl rfl) (fun W u u' k k' Z Z' h h' hk hk' => Sub_num h.num h'.num hk hk') (rat_sub_level x y rfl)).mono ?_
  rintro e w1 ⟨⟨u, rfl, hu⟩, hb1⟩
  have HU := Lib.hid hu
  obtain ⟨s1, p1, n1, j1, s2, p2, n2, j2, rfl, -⟩ := hu.split
  have hN := N4.out _ hb1
  have N := Lib.hid hN
  obtain ⟨g0, g1, g2, g3⟩ := hN.c4
  obtain ⟨f0, f1, f2, f3⟩ := hN.f4
  have B1 := Lib.hid (Below.step B0.out hb1)
  clear hu hN hb1 c0 c1 c2 c3 c4 c5 c6 c7
  go_wp2_with fail
  obtain ⟨W', e, hst, hbx⟩ := N.out.store (ys := [.bool s1, .slice p1 n1 j1, .bool s2, .slice p2 n2 j2]) rfl rfl
  simp only [setAll] at e
  rw [e]
  obtain ⟨k0, k1, k2, k3⟩ := hbx.c4
  exact bodyPost_ret (v := .agg #[.bool s1, .slice p1 n1 j1, .bool s2, .slice p2 n2 j2]) (by simp [results, Tryz.results38, go_sem, k0, k1, k2, k3]) rfl ⟨⟨_, rfl, HU.out.store hst⟩, hst.below w (by omega) B1.out⟩

end Go.Proofs.YtgpoljbccimkjaaGreatDoor
