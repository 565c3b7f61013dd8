/- FracsMade: for every input the law answers true and leaves what it was handed as it was; the library's tables are as the program lays them. -/
import Derived.Test.YtgpoljbccimkjaaGreatDoorFGreat
import Derived.Test.YtgpoljbccimkjaaGreatDoorFRow
namespace Go.Proofs.YtgpoljbccimkjaaGreatDoor
set_option linter.unusedSimpArgs false
set_option linter.unusedVariables false
open Go.RowKit Go.Shelf

/-- A fraction, and no error. -/
def IsFT (k : Nat) (q : Rat) (v : Value) (w : World) : Prop := ∃ u, v = .tuple #[u, .int .i64 0] ∧ FrOk w u k q
theorem IsFT.grows (k : Nat) (q : Rat) : Grows (IsFT k q) := fun _ _ _ h hb => by
  obtain ⟨u, h1, h2⟩ := h
  exact ⟨u, h1, h2.below hb⟩
theorem IsFT.fst {k : Nat} {q : Rat} {v : Value} {w : World} (h : IsFT k q v w) : ∃ vs u, v = .tuple vs ∧ vs[0]? = some u ∧ IsF k q u w := by
  obtain ⟨u, h1, h2⟩ := h
  exact ⟨_, u, h1, rfl, h2⟩
theorem IsFT.snd {k : Nat} {q : Rat} {v : Value} {w : World} (h : IsFT k q v w) : ∃ vs u, v = .tuple vs ∧ vs[1]? = some u ∧ IsV (.int .i64 0) u w := by
  obtain ⟨u, h1, h2⟩ := h
  exact ⟨_, _, h1, rfl, rfl⟩
theorem ansFT {w : World} {e : Ending} {k : Nat} {q : Rat} {B : Prop} (h : FrTup w e k q ∧ B) : (∃ r, e = .returned r ∧ IsFT k q r w) ∧ B := by
  obtain ⟨⟨u, rfl, h1⟩, h2⟩ := h
  exact ⟨⟨_, rfl, u, rfl, h1⟩, h2⟩
section
variable {bs : List (Nat × Bool)} {fs : List (Nat × (Value → World → Prop))} {w0 : World} {d : Nat} {ty : TypeId} {pos : String} {af : Array Edge} {g : Option (Nat × Bool)}
theorem step_extract {x i : Nat} (h : ∀ v w, Known bs fs x v w → ∃ vs u, v = .tuple vs ∧ vs[i]? = some u ∧ Known bs fs d u w) : StepOk Tryz.prog bs fs w0 ⟨some d, .extract (.tmp x) i, ty, pos, af, g⟩ :=
  step_value rfl fun a w hb hk => by
    obtain ⟨vs, u, e, hu, hku⟩ := h _ _ (hk x (looks1 rfl))
    exact ⟨u, w, by simp [execOp, e, Instr.extract, hu], hku, Below.refl _ _⟩
set_option maxRecDepth 100000 in
theorem step_neE {x : Nat} {t' : TypeId} {m k : Int} {b : Bool} (hx : ∀ v w, Known bs fs x v w → v = .int .i64 m) (hb' : (m != k) = b) (h : ∀ w, Known bs fs d (.bool b) w) : StepOk Tryz.prog bs fs w0 ⟨some d, .binOp .neq 27 (.tmp x) (.const (.int .i64 k)) t', ty, pos, af, g⟩ :=
  step_value rfl fun a w hb hk => ⟨.bool b, w, by
    have h1 := hx _ _ (hk x (by simp [looks, Op.operands]))
    have h2 : a.eval (.const (.int .i64 k)) = .int .i64 k := rfl
    simp only [execOp, h1, h2, ← hb']
    go_simp, h _, Below.refl _ _⟩
end
theorem made_a {A B : Int} (h : B ≠ 0) : Rat.divInt A B * Rat.divInt B 1 = Rat.divInt A 1 := by
  rw [Rat.divInt_mul_divInt, Int.mul_one, show A * B = A * B from rfl, ← Rat.divInt_mul_right (n := A) (d := 1) h, Int.one_mul]
theorem made_b {A B C : Int} (_ : B ≠ 0) (h : C ≠ 0) : Rat.divInt A B = Rat.divInt (A * C) (B * C) := (Rat.divInt_mul_right h).symm
theorem sign_ne {C : Int} (h : C ≠ 0) : cmpI C 0 ≠ 0 := by
  unfold cmpI
  split
  · decide
  · rw [if_pos (by omega)]; decide

set_option maxRecDepth 100000 in
set_option maxHeartbeats 8000000 in
theorem FracsMade_true (w : World) (s1 : Bool) (v1 : Value) (l1 : List Nat) (h1 : Lim w v1 l1) (s2 : Bool) (v2 : Value) (l2 : List Nat) (h2 : Lim w v2 l2) (s3 : Bool) (v3 : Value) (l3 : List Nat) (h3 : Lim w v3 l3) (htab : Tab w) :
    Calls Tryz.prog 11 #[.agg #[.bool s1, v1], .agg #[.bool s2, v2], .agg #[.bool s3, v3]] w fun e w' => e = .returned (.bool true) ∧ Below w.heap.size w w' := by
  have g1 := h1
  have g2 := h2
  have g3 := h3
  obtain ⟨a1, c1, rfl, -⟩ := h1
  obtain ⟨a2, c2, rfl, -⟩ := h2
  obtain ⟨a3, c3, rfl, -⟩ := h3
  obtain ⟨W0, e0, n1, n2, n3, hb0, -⟩ := box3 w (.bool s1) (.slice a1 l1.length c1) (.bool s2) (.slice a2 l2.length c2) (.bool s3) (.slice a3 l3.length c3)
  have T0 : Hid (∀ W, Below w.heap.size w W → Tab W) := fun W hb => htab.below hb
  have G1 : Hid (∀ W, Below W0.heap.size W0 W → Lim W (.slice a1 l1.length c1) l1) := fun W hb => (g1.below hb0).below hb
  have G2 : Hid (∀ W, Below W0.heap.size W0 W → Lim W (.slice a2 l2.length c2) l2) := fun W hb => (g2.below hb0).below hb
  have G3 : Hid (∀ W, Below W0.heap.size W0 W → Lim W (.slice a3 l3.length c3) l3) := fun W hb => (g3.below hb0).below hb
  have N1 := n1.v.keep
  have N2 := n2.v.keep
  have N3 := n3.v.keep
  have B0 := Lib.hid hb0
  clear g1 g2 g3 n1 n2 n3 hb0 htab
  go_enter Tryz.func11, Tryz.ntmps11
  go_wp2_with fail
  clear e0
  refine (aliveF_true _ (T0.out _ B0.out)).mono ?_
  rintro e w1 ⟨rfl, hb1⟩
  have B1 := Lib.hid hb1
  have RW := Lib.hid (Below.step B0.out hb1)
  obtain ⟨p0, p1, -, -⟩ := (N1.out _ hb1).c2
  obtain ⟨p2, p3, -, -⟩ := (N2.out _ hb1).c2
  obtain ⟨p4, p5, -, -⟩ := (N3.out _ hb1).c2
  clear hb1
  by_cases hl1 : 8 < l1.length
  · have hI : (8 : Int) < (l1.length : Int) := by omega
    have R3 := RW
    go_wp2_with fail
    refine (aliveF_true _ (T0.out _ R3.out)).mono ?_
    rintro e w9 ⟨rfl, hb9⟩
    have B9 := Lib.hid (Below.step R3.out hb9)
    clear hb9
    go_wp2_with fail
    go_ret
    exact ⟨rfl, B9.out⟩
  · have hI1 : decide ((8 : Int) < (l1.length : Int)) = false := decide_eq_false (by omega)
    by_cases hl2 : 8 < l2.length
    · have hI : (8 : Int) < (l2.length : Int) := by omega
      have R3 := RW
      go_wp2_with fail
      refine (aliveF_true _ (T0.out _ R3.out)).mono ?_
      rintro e w9 ⟨rfl, hb9⟩
      have B9 := Lib.hid (Below.step R3.out hb9)
      clear hb9
      go_wp2_with fail
      go_ret
      exact ⟨rfl, B9.out⟩
    · have hI2 : decide ((8 : Int) < (l2.length : Int)) = false := decide_eq_false (by omega)
      by_cases hl3 : 8 < l3.length
      · have hI : (8 : Int) < (l3.length : Int) := by omega
        have R3 := RW
        go_wp2_with fail
        refine (aliveF_true _ (T0.out _ R3.out)).mono ?_
        rintro e w9 ⟨rfl, hb9⟩
        have B9 := Lib.hid (Below.step R3.out hb9)
        clear hb9
        go_wp2_with fail
        go_ret
        exact ⟨rfl, B9.out⟩
      · have hI3 : decide ((8 : Int) < (l3.length : Int)) = false := decide_eq_false (by omega)
        go_wp2_with fail
        clear p0 p1 p2 p3 p4 p5
        obtain ⟨p0, p1, -, -⟩ := (N1.out _ B1.out).c2
        by_cases ho1 : okB s1 l1 = true
        rotate_left
        · have ho' : okB s1 l1 = false := by simpa using ho1
          have HO := Lib.hid ho'
          clear ho' ho1
          refine (check_any s1 _ l1 _ (G1.out _ B1.out)).mono ?_
          rintro e w3 ⟨rfl, hb3⟩
          rw [HO.out]
          have R3 := Lib.hid (Below.step RW.out hb3)
          clear hb3
          go_wp2_with fail
          refine (aliveF_true _ (T0.out _ R3.out)).mono ?_
          rintro e w9 ⟨rfl, hb9⟩
          have B9 := Lib.hid (Below.step R3.out hb9)
          clear hb9
          go_wp2_with fail
          go_ret
          exact ⟨rfl, B9.out⟩
        have HO1 := Lib.hid ho1
        refine (check_any s1 _ l1 _ (G1.out _ B1.out)).mono ?_
        rintro e w2 ⟨rfl, hb2⟩
        rw [HO1.out]
        have B1 := Lib.hid (Below.step B1.out hb2)
        have RW := Lib.hid (Below.step RW.out hb2)
        obtain ⟨p2, p3, -, -⟩ := (N2.out _ B1.out).c2
        clear p0 p1
        clear hb2 ho1
        go_wp2_with fail
        by_cases ho2 : okB s2 l2 = true
        rotate_left
        · have ho' : okB s2 l2 = false := by simpa using ho2
          have HO := Lib.hid ho'
          clear ho' ho2
          refine (check_any s2 _ l2 _ (G2.out _ B1.out)).mono ?_
          rintro e w3 ⟨rfl, hb3⟩
          rw [HO.out]
          have R3 := Lib.hid (Below.step RW.out hb3)
          clear hb3
          go_wp2_with fail
          refine (aliveF_true _ (T0.out _ R3.out)).mono ?_
          rintro e w9 ⟨rfl, hb9⟩
          have B9 := Lib.hid (Below.step R3.out hb9)
          clear hb9
          go_wp2_with fail
          go_ret
          exact ⟨rfl, B9.out⟩
        have HO2 := Lib.hid ho2
        refine (check_any s2 _ l2 _ (G2.out _ B1.out)).mono ?_
        rintro e w2 ⟨rfl, hb2⟩
        rw [HO2.out]
        have B1 := Lib.hid (Below.step B1.out hb2)
        have RW := Lib.hid (Below.step RW.out hb2)
        obtain ⟨p0, p1, -, -⟩ := (N3.out _ B1.out).c2
        clear p2 p3
        clear hb2 ho2
        go_wp2_with fail
        by_cases ho3 : okB s3 l3 = true
        rotate_left
        · have ho' : okB s3 l3 = false := by simpa using ho3
          have HO := Lib.hid ho'
          clear ho' ho3
          refine (check_any s3 _ l3 _ (G3.out _ B1.out)).mono ?_
          rintro e w3 ⟨rfl, hb3⟩
          rw [HO.out]
          have R3 := Lib.hid (Below.step RW.out hb3)
          clear hb3
          go_wp2_with fail
          refine (aliveF_true _ (T0.out _ R3.out)).mono ?_
          rintro e w9 ⟨rfl, hb9⟩
          have B9 := Lib.hid (Below.step R3.out hb9)
          clear hb9
          go_wp2_with fail
          go_ret
          exact ⟨rfl, B9.out⟩
        have HO3 := Lib.hid ho3
        refine (check_any s3 _ l3 _ (G3.out _ B1.out)).mono ?_
        rintro e w2 ⟨rfl, hb2⟩
        rw [HO3.out]
        have B1 := Lib.hid (Below.step B1.out hb2)
        have RW := Lib.hid (Below.step RW.out hb2)

        clear hb2 ho3
        clear p0 p1
        obtain ⟨A, hA⟩ : ∃ A, valS s1 l1 = A := ⟨_, rfl⟩
        obtain ⟨B, hB⟩ : ∃ B, valS s2 l2 = B := ⟨_, rfl⟩
        obtain ⟨C, hC⟩ : ∃ C, valS s3 l3 = C := ⟨_, rfl⟩
        have ha : OkAt w2 (.agg #[.bool s1, .slice a1 l1.length c1]) 8 A := ⟨s1, _, l1, rfl, G1.out _ B1.out, HO1.out, hA, by omega⟩
        have hb : OkAt w2 (.agg #[.bool s2, .slice a2 l2.length c2]) 8 B := ⟨s2, _, l2, rfl, G2.out _ B1.out, HO2.out, hB, by omega⟩
        have hc : OkAt w2 (.agg #[.bool s3, .slice a3 l3.length c3]) 8 C := ⟨s3, _, l3, rfl, G3.out _ B1.out, HO3.out, hC, by omega⟩
        have HA := ha.keep
        have HB := hb.keep
        have HC := hc.keep
        have N1 := (N1.out _ B1.out).keep
        have N2 := (N2.out _ B1.out).keep
        have N3 := (N3.out _ B1.out).keep
        clear ha hb hc hA hB hC hl1 hl2 hl3 hI1 hI2 hI3 G1 G2 G3 HO1 HO2 HO3
        go_upto_region 3 with fail
        rename_i K3 hK3
        by_cases hzb : B = 0
        · have HZB := Lib.hid hzb
          have HZ : Hid (B * C = 0) := show B * C = 0 by rw [hzb, Int.zero_mul]
          have HS : Hid ((cmpI B 0 == 0) = true) := show (cmpI B 0 == 0) = true by rw [hzb]; rfl
          clear hzb
          refine wp_region_seq []
            [(3, IsV (.pointer (some ⟨w.heap.size, 0, none⟩))), (4, IsV (.pointer (some ⟨(w.heap.size + 1), 0, none⟩))), (5, IsV (.pointer (some ⟨(w.heap.size + 1 + 1), 0, none⟩)))]
            [(52, IsO 8 (A)), (53, IsO 8 (B)), (54, IsV (.tuple #[frNone, .int .i64 6])), (51, IsV (.tuple #[frNone, .int .i64 6])), (55, IsV frNone), (56, IsV (.int .i64 (6))), (7, IsNew w2.heap.size nought4)]
            132 7 rfl (by kernel_rfl) (by kernel_rfl) ⟨rfl, rfl, rfl, trivial⟩ ⟨IsV.grows _ , IsV.grows _ , IsV.grows _ , IsO.grows _ _ , IsO.grows _ _ , IsV.grows _ , IsV.grows _ , IsV.grows _ , IsV.grows _ , IsNew.grows _ _ , trivial⟩ ?_ ?_
          · refine AllStep.cons (step_loadT (fun _ _ h => h) (fun W hb => run_load2 rfl (N1.out W hb).at0 (N1.out W hb).at1) (fun w hb => HA.out w hb)) ?_
            refine AllStep.cons (step_loadT (fun _ _ h => h) (fun W hb => run_load2 rfl (N2.out W hb).at0 (N2.out W hb).at1) (fun w hb => HB.out w hb)) ?_
            refine AllStep.cons (step_call2 (Plain.of Tryz.func52 rfl rfl) (fun _ _ _ _ hu hv => (Make_zero hu (HZB.out ▸ hv)).mono (fun _ _ h => ansV h))) ?_
            refine AllStep.cons (step_move (fun _ _ h => h)) ?_
            refine AllStep.cons (step_extract (fun _ _ h => ⟨_, _, h, rfl, rfl⟩)) ?_
            refine AllStep.cons (step_extract (fun _ _ h => ⟨_, _, h, rfl, rfl⟩)) ?_
            refine AllStep.cons (step_allocT (fun _ => run_new4) (fun _ _ h => h)) ?_
            exact AllStep.nil
          intro a3 w3 hb3 hs3 hd3 hk3
          have q3 : a3.eval (.tmp 3) = .pointer (some ⟨w.heap.size, 0, none⟩) := hk3 3 (by kernel_rfl)
          have q4 : a3.eval (.tmp 4) = .pointer (some ⟨w.heap.size + 1, 0, none⟩) := hk3 4 (by kernel_rfl)
          have q5 : a3.eval (.tmp 5) = .pointer (some ⟨w.heap.size + 1 + 1, 0, none⟩) := hk3 5 (by kernel_rfl)
          obtain ⟨b7, q7, l7, m7, -⟩ : IsNew w2.heap.size nought4 (a3.eval (.tmp 7)) w3 := hk3 7 (by kernel_rfl)
          have e55 : a3.eval (.tmp 55) = frNone := hk3 55 (by kernel_rfl)
          obtain ⟨W3, eW, st, bx⟩ := m7.store (ys := [.bool false, .slice none 0 0, .bool false, .slice none 0 0]) rfl rfl
          have M7 := bx.keep
          have bW := st.below w2 l7 hb3
          refine wpOps_step (i := 7) (rest := [8]) rfl rfl ?_
          refine wp_store_T q7 e55 (run_store4 m7) ?_
          rw [eW]
          refine wpOps_step (i := 8) (rest := []) rfl rfl ?_
          refine wp_assign ?_
          obtain ⟨c3, hc3⟩ : ∃ c, c = a3.put (some 8) (a3.eval (.tmp 56)) := ⟨_, rfl⟩
          rw [← hc3]
          have g8 : c3.eval (.tmp 8) = .int .i64 6 := by rw [hc3, eval_put (by rw [hs3]; decide), if_pos rfl]; exact hk3 56 (by kernel_rfl)
          have g3 : c3.eval (.tmp 3) = .pointer (some ⟨w.heap.size, 0, none⟩) := by rw [hc3, eval_put' (by decide)]; exact q3
          have g4 : c3.eval (.tmp 4) = .pointer (some ⟨w.heap.size + 1, 0, none⟩) := by rw [hc3, eval_put' (by decide)]; exact q4
          have g5 : c3.eval (.tmp 5) = .pointer (some ⟨w.heap.size + 1 + 1, 0, none⟩) := by rw [hc3, eval_put' (by decide)]; exact q5
          have g7 : c3.eval (.tmp 7) = .pointer (some ⟨b7, 0, none⟩) := by rw [hc3, eval_put' (by decide)]; exact q7
          have hs30 : c3.tmps.size = 132 := by rw [hc3]; simp only [Act.put, Array.size_setIfInBounds]; exact hs3
          have hd30 : c3.defers = [] := by rw [hc3]; exact hd3
          clear st eW bx
          have HA := (HA.out _ bW).keep
          have HB := (HB.out _ bW).keep
          have HC := (HC.out _ bW).keep
          have N1 := (N1.out _ bW).keep
          have N2 := (N2.out _ bW).keep
          have N3 := (N3.out _ bW).keep
          have RW := Lib.hid (Below.step RW.out bW)
          refine hK3 _ _ ?_
          refine wp_seq_k ?_
          intro K4 hK4
          refine wp_region_tail []
            [(3, IsV (.pointer (some ⟨w.heap.size, 0, none⟩))), (4, IsV (.pointer (some ⟨(w.heap.size + 1), 0, none⟩))), (5, IsV (.pointer (some ⟨(w.heap.size + 1 + 1), 0, none⟩))), (7, IsV (.pointer (some ⟨b7, 0, none⟩))), (8, IsV (.int .i64 (6)))]
            [(58, IsO 8 (A)), (59, IsO 8 (C)), (60, IsO (8 + 8) ((A * C))), (61, IsO 8 (B)), (62, IsO 8 (C)), (63, IsO (8 + 8) ((B * C))), (64, IsV (.tuple #[frNone, .int .i64 6])), (57, IsV (.tuple #[frNone, .int .i64 6])), (65, IsV frNone), (66, IsV (.int .i64 (6))), (9, IsNew W3.heap.size nought4)]
            [9] 132 11 (by kernel_rfl) hs30 (by kernel_rfl) (by kernel_rfl) (by kernel_rfl) (by kernel_rfl) ⟨g3, g4, g5, g7, g8, trivial⟩ ⟨IsV.grows _ , IsV.grows _ , IsV.grows _ , IsV.grows _ , IsV.grows _ , IsO.grows _ _ , IsO.grows _ _ , IsO.grows _ _ , IsO.grows _ _ , IsO.grows _ _ , IsO.grows _ _ , IsV.grows _ , IsV.grows _ , IsV.grows _ , IsV.grows _ , IsNew.grows _ _ , trivial⟩ ?_ (fun d _ _ _ _ h => by cases d <;> exact h) ?_ ?_
          · refine AllStep2.step rfl rfl (step_loadT (fun _ _ h => h) (fun W hb => run_load2 rfl (N1.out W hb).at0 (N1.out W hb).at1) (fun w hb => HA.out w hb)) ?_
            refine AllStep2.step rfl rfl (step_loadT (fun _ _ h => h) (fun W hb => run_load2 rfl (N3.out W hb).at0 (N3.out W hb).at1) (fun w hb => HC.out w hb)) ?_
            refine AllStep2.step rfl rfl (step_call2 (Plain.of Tryz.func67 rfl rfl) (fun _ _ _ _ hu hv => Mul_num (OkAt.num hu) (OkAt.num hv) (by decide) (by decide))) ?_
            refine AllStep2.step rfl rfl (step_loadT (fun _ _ h => h) (fun W hb => run_load2 rfl (N2.out W hb).at0 (N2.out W hb).at1) (fun w hb => HB.out w hb)) ?_
            refine AllStep2.step rfl rfl (step_loadT (fun _ _ h => h) (fun W hb => run_load2 rfl (N3.out W hb).at0 (N3.out W hb).at1) (fun w hb => HC.out w hb)) ?_
            refine AllStep2.step rfl rfl (step_call2 (Plain.of Tryz.func67 rfl rfl) (fun _ _ _ _ hu hv => Mul_num (OkAt.num hu) (OkAt.num hv) (by decide) (by decide))) ?_
            refine AllStep2.step rfl rfl (step_call2 (Plain.of Tryz.func52 rfl rfl) (fun _ _ _ _ hu hv => (Make_zero hu (HZ.out ▸ hv)).mono (fun _ _ h => ansV h))) ?_
            refine AllStep2.quiet rfl (pure_move (fun _ _ h => h)) ?_
            refine AllStep2.quiet rfl (pure_extract (fun _ _ h => ⟨_, _, h, rfl, rfl⟩)) ?_
            refine AllStep2.quiet rfl (pure_extract (fun _ _ h => ⟨_, _, h, rfl, rfl⟩)) ?_
            refine AllStep2.fresh rfl rfl (alloc_T (fun _ => run_new4) (fun _ _ h => h)) ?_
            exact AllStep2.nil
          · intro t ht v w hk
            simp only [List.mem_cons, List.not_mem_nil, or_false] at ht
            subst ht
            exact IsNew.lt (show IsNew W3.heap.size _ v w from hk)
          intro a4 w4 hb4 hs4 hd4 hk4 _
          have q3 : a4.eval (.tmp 3) = .pointer (some ⟨w.heap.size, 0, none⟩) := hk4 3 (by kernel_rfl)
          have q4 : a4.eval (.tmp 4) = .pointer (some ⟨w.heap.size + 1, 0, none⟩) := hk4 4 (by kernel_rfl)
          have q5 : a4.eval (.tmp 5) = .pointer (some ⟨w.heap.size + 1 + 1, 0, none⟩) := hk4 5 (by kernel_rfl)
          have q7 : a4.eval (.tmp 7) = .pointer (some ⟨b7, 0, none⟩) := hk4 7 (by kernel_rfl)
          have q8 : a4.eval (.tmp 8) = .int .i64 6 := hk4 8 (by kernel_rfl)
          obtain ⟨b9, q9, l9, m9, -⟩ : IsNew W3.heap.size nought4 (a4.eval (.tmp 9)) w4 := hk4 9 (by kernel_rfl)
          have e65 : a4.eval (.tmp 65) = frNone := hk4 65 (by kernel_rfl)
          obtain ⟨W4, eW, st, bx⟩ := m9.store (ys := [.bool false, .slice none 0 0, .bool false, .slice none 0 0]) rfl rfl
          have M9 := bx.keep
          have bW := st.below W3 l9 hb4
          refine wpOps_step (i := 11) (rest := [12]) rfl rfl ?_
          refine wp_store_T q9 e65 (run_store4 m9) ?_
          rw [eW]
          refine wpOps_step (i := 12) (rest := []) rfl rfl ?_
          refine wp_assign ?_
          obtain ⟨c4, hc4⟩ : ∃ c, c = a4.put (some 10) (a4.eval (.tmp 66)) := ⟨_, rfl⟩
          rw [← hc4]
          have g10 : c4.eval (.tmp 10) = .int .i64 6 := by rw [hc4, eval_put (by rw [hs4]; decide), if_pos rfl]; exact hk4 66 (by kernel_rfl)
          have g3 : c4.eval (.tmp 3) = .pointer (some ⟨w.heap.size, 0, none⟩) := by rw [hc4, eval_put' (by decide)]; exact q3
          have g4 : c4.eval (.tmp 4) = .pointer (some ⟨w.heap.size + 1, 0, none⟩) := by rw [hc4, eval_put' (by decide)]; exact q4
          have g5 : c4.eval (.tmp 5) = .pointer (some ⟨w.heap.size + 1 + 1, 0, none⟩) := by rw [hc4, eval_put' (by decide)]; exact q5
          have g7 : c4.eval (.tmp 7) = .pointer (some ⟨b7, 0, none⟩) := by rw [hc4, eval_put' (by decide)]; exact q7
          have g8 : c4.eval (.tmp 8) = .int .i64 6 := by rw [hc4, eval_put' (by decide)]; exact q8
          have g9 : c4.eval (.tmp 9) = .pointer (some ⟨b9, 0, none⟩) := by rw [hc4, eval_put' (by decide)]; exact q9
          have hs40 : c4.tmps.size = 132 := by rw [hc4]; simp only [Act.put, Array.size_setIfInBounds]; exact hs4
          have hd40 : c4.defers = [] := by rw [hc4]; exact hd4.trans hd30
          clear st eW bx
          have HA := (HA.out _ bW).keep
          have HB := (HB.out _ bW).keep
          have HC := (HC.out _ bW).keep
          have N1 := (N1.out _ bW).keep
          have N2 := (N2.out _ bW).keep
          have N3 := (N3.out _ bW).keep
          have M7 := (M7.out _ bW).keep
          have RW := Lib.hid (Below.step RW.out bW)
          refine hK4 _ _ ?_
          refine wp_seq_k ?_
          intro K9 hK9
          refine wp_seq_k ?_
          intro K5 hK5
          refine wp_region_seq [(69, true)]
            [(3, IsV (.pointer (some ⟨w.heap.size, 0, none⟩))), (4, IsV (.pointer (some ⟨(w.heap.size + 1), 0, none⟩))), (5, IsV (.pointer (some ⟨(w.heap.size + 1 + 1), 0, none⟩))), (7, IsV (.pointer (some ⟨b7, 0, none⟩))), (8, IsV (.int .i64 (6))), (9, IsV (.pointer (some ⟨b9, 0, none⟩))), (10, IsV (.int .i64 (6)))]
            [(67, IsO 8 (B)), (68, IsV (.int .i64 (cmpI (B) 0)))]
            132 3 hs40 (by kernel_rfl) (by kernel_rfl) ⟨g3, g4, g5, g7, g8, g9, g10, trivial⟩ ⟨IsV.grows _ , IsV.grows _ , IsV.grows _ , IsV.grows _ , IsV.grows _ , IsV.grows _ , IsV.grows _ , IsO.grows _ _ , IsV.grows _ , trivial⟩ ?_ ?_
          · refine AllStep.cons (step_loadT (fun _ _ h => h) (fun W hb => run_load2 rfl (N2.out W hb).at0 (N2.out W hb).at1) (fun w hb => HB.out w hb)) ?_
            refine AllStep.cons (step_call1 (Plain.of Tryz.func68 rfl rfl) (fun _ _ _ hu => (Sign_num (OkAt.num hu) _ rfl).mono (fun _ _ h => ansV h))) ?_
            refine AllStep.cons (step_eqI (fun _ _ h => h) HS.out (fun _ => rfl)) ?_
            exact AllStep.nil
          intro a5 w5 hb5 hs5 hd5 hk5
          have g3 : a5.eval (.tmp 3) = .pointer (some ⟨w.heap.size, 0, none⟩) := hk5 3 (by kernel_rfl)
          have g4 : a5.eval (.tmp 4) = .pointer (some ⟨w.heap.size + 1, 0, none⟩) := hk5 4 (by kernel_rfl)
          have g5 : a5.eval (.tmp 5) = .pointer (some ⟨w.heap.size + 1 + 1, 0, none⟩) := hk5 5 (by kernel_rfl)
          have g7 : a5.eval (.tmp 7) = .pointer (some ⟨b7, 0, none⟩) := hk5 7 (by kernel_rfl)
          have g8 : a5.eval (.tmp 8) = .int .i64 6 := hk5 8 (by kernel_rfl)
          have g9 : a5.eval (.tmp 9) = .pointer (some ⟨b9, 0, none⟩) := hk5 9 (by kernel_rfl)
          have g10 : a5.eval (.tmp 10) = .int .i64 6 := hk5 10 (by kernel_rfl)
          have q69 : a5.eval (.tmp 69) = .bool true := hk5 69 (by kernel_rfl)
          have HA := (HA.out _ hb5).keep
          have HB := (HB.out _ hb5).keep
          have HC := (HC.out _ hb5).keep
          have N1 := (N1.out _ hb5).keep
          have N2 := (N2.out _ hb5).keep
          have N3 := (N3.out _ hb5).keep
          have M7 := (M7.out _ hb5).keep
          have M9 := (M9.out _ hb5).keep
          have RW := Lib.hid (Below.step RW.out hb5)
          have hd50 : a5.defers = [] := hd5.trans hd40
          refine hK5 _ _ ?_
          refine wp_cond_true q69 ?_
          refine wp_seq_k ?_
          intro K6 hK6
          refine wp_region_seq [(6, true), (71, true), (72, true), (74, true), (75, true)]
            [(3, IsV (.pointer (some ⟨w.heap.size, 0, none⟩))), (4, IsV (.pointer (some ⟨(w.heap.size + 1), 0, none⟩))), (5, IsV (.pointer (some ⟨(w.heap.size + 1 + 1), 0, none⟩))), (7, IsV (.pointer (some ⟨b7, 0, none⟩))), (8, IsV (.int .i64 (6))), (9, IsV (.pointer (some ⟨b9, 0, none⟩))), (10, IsV (.int .i64 (6)))]
            [(70, IsV (.int .i64 (6))), (73, IsV (.int .i64 (6)))]
            132 7 hs5 (by kernel_rfl) (by kernel_rfl) ⟨g3, g4, g5, g7, g8, g9, g10, trivial⟩ ⟨IsV.grows _ , IsV.grows _ , IsV.grows _ , IsV.grows _ , IsV.grows _ , IsV.grows _ , IsV.grows _ , IsV.grows _ , IsV.grows _ , trivial⟩ ?_ ?_
          · refine AllStep.cons (step_move (fun _ _ h => h)) ?_
            refine AllStep.cons (step_eqE (fun _ _ h => h) (by decide) (fun _ => rfl)) ?_
            refine AllStep.cons (step_move (fun _ _ h => h)) ?_
            refine AllStep.cons (step_move (fun _ _ h => h)) ?_
            refine AllStep.cons (step_eqE (fun _ _ h => h) (by decide) (fun _ => rfl)) ?_
            refine AllStep.cons (step_pickT (fun _ _ h => h) (fun _ _ h => h)) ?_
            refine AllStep.cons (step_assign (fun _ _ h => h)) ?_
            exact AllStep.nil
          intro a6 w6 hb6 hs6 hd6 hk6
          have q6 : a6.eval (.tmp 6) = .bool true := hk6 6 (by kernel_rfl)
          refine hK6 _ _ ?_
          refine wp_ret ?_
          simp only [Exit.then]
          exact ret_slot (t := 6) (v := .bool true) rfl (hd6.trans hd50) q6 ⟨rfl, Below.step RW.out hb6⟩
        · by_cases hzc : C = 0
          · have HZB := Lib.hid hzb
            have HZC := Lib.hid hzc
            have HZ : Hid (B * C = 0) := show B * C = 0 by rw [hzc, Int.mul_zero]
            have HS : Hid ((cmpI B 0 == 0) = false) := show (cmpI B 0 == 0) = false by simp [sign_ne hzb]
            clear hzb hzc
            refine wp_region_seq []
              [(3, IsV (.pointer (some ⟨w.heap.size, 0, none⟩))), (4, IsV (.pointer (some ⟨(w.heap.size + 1), 0, none⟩))), (5, IsV (.pointer (some ⟨(w.heap.size + 1 + 1), 0, none⟩)))]
              [(52, IsO 8 (A)), (53, IsO 8 (B)), (54, IsFT (max 8 8) (Rat.divInt A B)), (51, IsFT (max 8 8) (Rat.divInt A B)), (55, IsF (max 8 8) (Rat.divInt A B)), (56, IsV (.int .i64 (0))), (7, IsNew w2.heap.size nought4)]
              132 7 rfl (by kernel_rfl) (by kernel_rfl) ⟨rfl, rfl, rfl, trivial⟩ ⟨IsV.grows _ , IsV.grows _ , IsV.grows _ , IsO.grows _ _ , IsO.grows _ _ , IsFT.grows _ _ , IsFT.grows _ _ , IsF.grows _ _ , IsV.grows _ , IsNew.grows _ _ , trivial⟩ ?_ ?_
            · refine AllStep.cons (step_loadT (fun _ _ h => h) (fun W hb => run_load2 rfl (N1.out W hb).at0 (N1.out W hb).at1) (fun w hb => HA.out w hb)) ?_
              refine AllStep.cons (step_loadT (fun _ _ h => h) (fun W hb => run_load2 rfl (N2.out W hb).at0 (N2.out W hb).at1) (fun w hb => HB.out w hb)) ?_
              refine AllStep.cons (step_call2 (Plain.of Tryz.func52 rfl rfl) (fun _ _ _ _ hu hv => (Make_num hu hv (by decide) (by decide) HZB.out).mono (fun _ _ h => ansFT h))) ?_
              refine AllStep.cons (step_move (fun _ _ h => h)) ?_
              refine AllStep.cons (step_extract (fun _ _ h => IsFT.fst h)) ?_
              refine AllStep.cons (step_extract (fun _ _ h => IsFT.snd h)) ?_
              refine AllStep.cons (step_allocT (fun _ => run_new4) (fun _ _ h => h)) ?_
              exact AllStep.nil
            intro a3 w3 hb3 hs3 hd3 hk3
            have q3 : a3.eval (.tmp 3) = .pointer (some ⟨w.heap.size, 0, none⟩) := hk3 3 (by kernel_rfl)
            have q4 : a3.eval (.tmp 4) = .pointer (some ⟨w.heap.size + 1, 0, none⟩) := hk3 4 (by kernel_rfl)
            have q5 : a3.eval (.tmp 5) = .pointer (some ⟨w.heap.size + 1 + 1, 0, none⟩) := hk3 5 (by kernel_rfl)
            obtain ⟨b7, q7, l7, m7, -⟩ : IsNew w2.heap.size nought4 (a3.eval (.tmp 7)) w3 := hk3 7 (by kernel_rfl)
            have x55 : FrOk w3 (a3.eval (.tmp 55)) (max 8 8) (Rat.divInt A B) := hk3 55 (by kernel_rfl)
            obtain ⟨z1, y1, i1, j1, z2, y2, i2, j2, e55, -⟩ := x55.split
            have x55' : FrOk w3 (.agg #[.bool z1, .slice y1 i1 j1, .bool z2, .slice y2 i2 j2]) (max 8 8) (Rat.divInt A B) := by rw [← e55]; exact x55
            obtain ⟨W3, eW, st, bx⟩ := m7.store (ys := [.bool z1, .slice y1 i1 j1, .bool z2, .slice y2 i2 j2]) rfl rfl
            have HV7 := (x55'.store st).keep
            have M7 := bx.keep
            have bW := st.below w2 l7 hb3
            refine wpOps_step (i := 7) (rest := [8]) rfl rfl ?_
            refine wp_store_T q7 e55 (run_store4 m7) ?_
            rw [eW]
            refine wpOps_step (i := 8) (rest := []) rfl rfl ?_
            refine wp_assign ?_
            obtain ⟨c3, hc3⟩ : ∃ c, c = a3.put (some 8) (a3.eval (.tmp 56)) := ⟨_, rfl⟩
            rw [← hc3]
            have g8 : c3.eval (.tmp 8) = .int .i64 0 := by rw [hc3, eval_put (by rw [hs3]; decide), if_pos rfl]; exact hk3 56 (by kernel_rfl)
            have g3 : c3.eval (.tmp 3) = .pointer (some ⟨w.heap.size, 0, none⟩) := by rw [hc3, eval_put' (by decide)]; exact q3
            have g4 : c3.eval (.tmp 4) = .pointer (some ⟨w.heap.size + 1, 0, none⟩) := by rw [hc3, eval_put' (by decide)]; exact q4
            have g5 : c3.eval (.tmp 5) = .pointer (some ⟨w.heap.size + 1 + 1, 0, none⟩) := by rw [hc3, eval_put' (by decide)]; exact q5
            have g7 : c3.eval (.tmp 7) = .pointer (some ⟨b7, 0, none⟩) := by rw [hc3, eval_put' (by decide)]; exact q7
            have hs30 : c3.tmps.size = 132 := by rw [hc3]; simp only [Act.put, Array.size_setIfInBounds]; exact hs3
            have hd30 : c3.defers = [] := by rw [hc3]; exact hd3
            clear st eW bx
            have HA := (HA.out _ bW).keep
            have HB := (HB.out _ bW).keep
            have HC := (HC.out _ bW).keep
            have N1 := (N1.out _ bW).keep
            have N2 := (N2.out _ bW).keep
            have N3 := (N3.out _ bW).keep
            have RW := Lib.hid (Below.step RW.out bW)
            refine hK3 _ _ ?_
            refine wp_seq_k ?_
            intro K4 hK4
            refine wp_region_tail []
              [(3, IsV (.pointer (some ⟨w.heap.size, 0, none⟩))), (4, IsV (.pointer (some ⟨(w.heap.size + 1), 0, none⟩))), (5, IsV (.pointer (some ⟨(w.heap.size + 1 + 1), 0, none⟩))), (7, IsV (.pointer (some ⟨b7, 0, none⟩))), (8, IsV (.int .i64 (0)))]
              [(58, IsO 8 (A)), (59, IsO 8 (C)), (60, IsO (8 + 8) ((A * C))), (61, IsO 8 (B)), (62, IsO 8 (C)), (63, IsO (8 + 8) ((B * C))), (64, IsV (.tuple #[frNone, .int .i64 6])), (57, IsV (.tuple #[frNone, .int .i64 6])), (65, IsV frNone), (66, IsV (.int .i64 (6))), (9, IsNew W3.heap.size nought4)]
              [9] 132 11 (by kernel_rfl) hs30 (by kernel_rfl) (by kernel_rfl) (by kernel_rfl) (by kernel_rfl) ⟨g3, g4, g5, g7, g8, trivial⟩ ⟨IsV.grows _ , IsV.grows _ , IsV.grows _ , IsV.grows _ , IsV.grows _ , IsO.grows _ _ , IsO.grows _ _ , IsO.grows _ _ , IsO.grows _ _ , IsO.grows _ _ , IsO.grows _ _ , IsV.grows _ , IsV.grows _ , IsV.grows _ , IsV.grows _ , IsNew.grows _ _ , trivial⟩ ?_ (fun d _ _ _ _ h => by cases d <;> exact h) ?_ ?_
            · refine AllStep2.step rfl rfl (step_loadT (fun _ _ h => h) (fun W hb => run_load2 rfl (N1.out W hb).at0 (N1.out W hb).at1) (fun w hb => HA.out w hb)) ?_
              refine AllStep2.step rfl rfl (step_loadT (fun _ _ h => h) (fun W hb => run_load2 rfl (N3.out W hb).at0 (N3.out W hb).at1) (fun w hb => HC.out w hb)) ?_
              refine AllStep2.step rfl rfl (step_call2 (Plain.of Tryz.func67 rfl rfl) (fun _ _ _ _ hu hv => Mul_num (OkAt.num hu) (OkAt.num hv) (by decide) (by decide))) ?_
              refine AllStep2.step rfl rfl (step_loadT (fun _ _ h => h) (fun W hb => run_load2 rfl (N2.out W hb).at0 (N2.out W hb).at1) (fun w hb => HB.out w hb)) ?_
              refine AllStep2.step rfl rfl (step_loadT (fun _ _ h => h) (fun W hb => run_load2 rfl (N3.out W hb).at0 (N3.out W hb).at1) (fun w hb => HC.out w hb)) ?_
              refine AllStep2.step rfl rfl (step_call2 (Plain.of Tryz.func67 rfl rfl) (fun _ _ _ _ hu hv => Mul_num (OkAt.num hu) (OkAt.num hv) (by decide) (by decide))) ?_
              refine AllStep2.step rfl rfl (step_call2 (Plain.of Tryz.func52 rfl rfl) (fun _ _ _ _ hu hv => (Make_zero hu (HZ.out ▸ hv)).mono (fun _ _ h => ansV h))) ?_
              refine AllStep2.quiet rfl (pure_move (fun _ _ h => h)) ?_
              refine AllStep2.quiet rfl (pure_extract (fun _ _ h => ⟨_, _, h, rfl, rfl⟩)) ?_
              refine AllStep2.quiet rfl (pure_extract (fun _ _ h => ⟨_, _, h, rfl, rfl⟩)) ?_
              refine AllStep2.fresh rfl rfl (alloc_T (fun _ => run_new4) (fun _ _ h => h)) ?_
              exact AllStep2.nil
            · intro t ht v w hk
              simp only [List.mem_cons, List.not_mem_nil, or_false] at ht
              subst ht
              exact IsNew.lt (show IsNew W3.heap.size _ v w from hk)
            intro a4 w4 hb4 hs4 hd4 hk4 _
            have q3 : a4.eval (.tmp 3) = .pointer (some ⟨w.heap.size, 0, none⟩) := hk4 3 (by kernel_rfl)
            have q4 : a4.eval (.tmp 4) = .pointer (some ⟨w.heap.size + 1, 0, none⟩) := hk4 4 (by kernel_rfl)
            have q5 : a4.eval (.tmp 5) = .pointer (some ⟨w.heap.size + 1 + 1, 0, none⟩) := hk4 5 (by kernel_rfl)
            have q7 : a4.eval (.tmp 7) = .pointer (some ⟨b7, 0, none⟩) := hk4 7 (by kernel_rfl)
            have q8 : a4.eval (.tmp 8) = .int .i64 0 := hk4 8 (by kernel_rfl)
            obtain ⟨b9, q9, l9, m9, -⟩ : IsNew W3.heap.size nought4 (a4.eval (.tmp 9)) w4 := hk4 9 (by kernel_rfl)
            have e65 : a4.eval (.tmp 65) = frNone := hk4 65 (by kernel_rfl)
            obtain ⟨W4, eW, st, bx⟩ := m9.store (ys := [.bool false, .slice none 0 0, .bool false, .slice none 0 0]) rfl rfl
            have M9 := bx.keep
            have bW := st.below W3 l9 hb4
            refine wpOps_step (i := 11) (rest := [12]) rfl rfl ?_
            refine wp_store_T q9 e65 (run_store4 m9) ?_
            rw [eW]
            refine wpOps_step (i := 12) (rest := []) rfl rfl ?_
            refine wp_assign ?_
            obtain ⟨c4, hc4⟩ : ∃ c, c = a4.put (some 10) (a4.eval (.tmp 66)) := ⟨_, rfl⟩
            rw [← hc4]
            have g10 : c4.eval (.tmp 10) = .int .i64 6 := by rw [hc4, eval_put (by rw [hs4]; decide), if_pos rfl]; exact hk4 66 (by kernel_rfl)
            have g3 : c4.eval (.tmp 3) = .pointer (some ⟨w.heap.size, 0, none⟩) := by rw [hc4, eval_put' (by decide)]; exact q3
            have g4 : c4.eval (.tmp 4) = .pointer (some ⟨w.heap.size + 1, 0, none⟩) := by rw [hc4, eval_put' (by decide)]; exact q4
            have g5 : c4.eval (.tmp 5) = .pointer (some ⟨w.heap.size + 1 + 1, 0, none⟩) := by rw [hc4, eval_put' (by decide)]; exact q5
            have g7 : c4.eval (.tmp 7) = .pointer (some ⟨b7, 0, none⟩) := by rw [hc4, eval_put' (by decide)]; exact q7
            have g8 : c4.eval (.tmp 8) = .int .i64 0 := by rw [hc4, eval_put' (by decide)]; exact q8
            have g9 : c4.eval (.tmp 9) = .pointer (some ⟨b9, 0, none⟩) := by rw [hc4, eval_put' (by decide)]; exact q9
            have hs40 : c4.tmps.size = 132 := by rw [hc4]; simp only [Act.put, Array.size_setIfInBounds]; exact hs4
            have hd40 : c4.defers = [] := by rw [hc4]; exact hd4.trans hd30
            clear st eW bx
            have HA := (HA.out _ bW).keep
            have HB := (HB.out _ bW).keep
            have HC := (HC.out _ bW).keep
            have HV7 := (HV7.out _ bW).keep
            have N1 := (N1.out _ bW).keep
            have N2 := (N2.out _ bW).keep
            have N3 := (N3.out _ bW).keep
            have M7 := (M7.out _ bW).keep
            have RW := Lib.hid (Below.step RW.out bW)
            refine hK4 _ _ ?_
            refine wp_seq_k ?_
            intro K9 hK9
            refine wp_seq_k ?_
            intro K5 hK5
            refine wp_region_seq [(69, false)]
              [(3, IsV (.pointer (some ⟨w.heap.size, 0, none⟩))), (4, IsV (.pointer (some ⟨(w.heap.size + 1), 0, none⟩))), (5, IsV (.pointer (some ⟨(w.heap.size + 1 + 1), 0, none⟩))), (7, IsV (.pointer (some ⟨b7, 0, none⟩))), (8, IsV (.int .i64 (0))), (9, IsV (.pointer (some ⟨b9, 0, none⟩))), (10, IsV (.int .i64 (6)))]
              [(67, IsO 8 (B)), (68, IsV (.int .i64 (cmpI (B) 0)))]
              132 3 hs40 (by kernel_rfl) (by kernel_rfl) ⟨g3, g4, g5, g7, g8, g9, g10, trivial⟩ ⟨IsV.grows _ , IsV.grows _ , IsV.grows _ , IsV.grows _ , IsV.grows _ , IsV.grows _ , IsV.grows _ , IsO.grows _ _ , IsV.grows _ , trivial⟩ ?_ ?_
            · refine AllStep.cons (step_loadT (fun _ _ h => h) (fun W hb => run_load2 rfl (N2.out W hb).at0 (N2.out W hb).at1) (fun w hb => HB.out w hb)) ?_
              refine AllStep.cons (step_call1 (Plain.of Tryz.func68 rfl rfl) (fun _ _ _ hu => (Sign_num (OkAt.num hu) _ rfl).mono (fun _ _ h => ansV h))) ?_
              refine AllStep.cons (step_eqI (fun _ _ h => h) HS.out (fun _ => rfl)) ?_
              exact AllStep.nil
            intro a5 w5 hb5 hs5 hd5 hk5
            have g3 : a5.eval (.tmp 3) = .pointer (some ⟨w.heap.size, 0, none⟩) := hk5 3 (by kernel_rfl)
            have g4 : a5.eval (.tmp 4) = .pointer (some ⟨w.heap.size + 1, 0, none⟩) := hk5 4 (by kernel_rfl)
            have g5 : a5.eval (.tmp 5) = .pointer (some ⟨w.heap.size + 1 + 1, 0, none⟩) := hk5 5 (by kernel_rfl)
            have g7 : a5.eval (.tmp 7) = .pointer (some ⟨b7, 0, none⟩) := hk5 7 (by kernel_rfl)
            have g8 : a5.eval (.tmp 8) = .int .i64 0 := hk5 8 (by kernel_rfl)
            have g9 : a5.eval (.tmp 9) = .pointer (some ⟨b9, 0, none⟩) := hk5 9 (by kernel_rfl)
            have g10 : a5.eval (.tmp 10) = .int .i64 6 := hk5 10 (by kernel_rfl)
            have q69 : a5.eval (.tmp 69) = .bool false := hk5 69 (by kernel_rfl)
            have HA := (HA.out _ hb5).keep
            have HB := (HB.out _ hb5).keep
            have HC := (HC.out _ hb5).keep
            have HV7 := (HV7.out _ hb5).keep
            have N1 := (N1.out _ hb5).keep
            have N2 := (N2.out _ hb5).keep
            have N3 := (N3.out _ hb5).keep
            have M7 := (M7.out _ hb5).keep
            have M9 := (M9.out _ hb5).keep
            have RW := Lib.hid (Below.step RW.out hb5)
            have hd50 : a5.defers = [] := hd5.trans hd40
            refine hK5 _ _ ?_
            refine wp_cond_false q69 ?_
            refine wp_skip ?_
            refine hK9 _ _ ?_
            refine wp_seq_k ?_
            intro K7 hK7
            refine wp_region_tail []
              [(3, IsV (.pointer (some ⟨w.heap.size, 0, none⟩))), (4, IsV (.pointer (some ⟨(w.heap.size + 1), 0, none⟩))), (5, IsV (.pointer (some ⟨(w.heap.size + 1 + 1), 0, none⟩))), (7, IsV (.pointer (some ⟨b7, 0, none⟩))), (8, IsV (.int .i64 (0))), (9, IsV (.pointer (some ⟨b9, 0, none⟩))), (10, IsV (.int .i64 (6)))]
              [(77, IsO 8 (B)), (78, IsO 3 (1)), (79, IsFT (max 8 3) (Rat.divInt B 1)), (76, IsFT (max 8 3) (Rat.divInt B 1)), (80, IsF (max 8 3) (Rat.divInt B 1)), (81, IsV (.int .i64 (0))), (11, IsNew w5.heap.size nought4)]
              [11] 132 7 (by kernel_rfl) hs5 (by kernel_rfl) (by kernel_rfl) (by kernel_rfl) (by kernel_rfl) ⟨g3, g4, g5, g7, g8, g9, g10, trivial⟩ ⟨IsV.grows _ , IsV.grows _ , IsV.grows _ , IsV.grows _ , IsV.grows _ , IsV.grows _ , IsV.grows _ , IsO.grows _ _ , IsO.grows _ _ , IsFT.grows _ _ , IsFT.grows _ _ , IsF.grows _ _ , IsV.grows _ , IsNew.grows _ _ , trivial⟩ ?_ (fun d _ _ _ _ h => by cases d <;> exact h) ?_ ?_
            · refine AllStep2.step rfl rfl (step_loadT (fun _ _ h => h) (fun W hb => run_load2 rfl (N2.out W hb).at0 (N2.out W hb).at1) (fun w hb => HB.out w hb)) ?_
              refine AllStep2.step rfl rfl (step_callk (Plain.of Tryz.func29 rfl rfl) (fun w _ => Of_num 1 _ (by decide) (by decide))) ?_
              refine AllStep2.step rfl rfl (step_call2 (Plain.of Tryz.func52 rfl rfl) (fun _ _ _ _ hu hv => (Make_num hu hv (by decide) (by decide) (by decide)).mono (fun _ _ h => ansFT h))) ?_
              refine AllStep2.quiet rfl (pure_move (fun _ _ h => h)) ?_
              refine AllStep2.quiet rfl (pure_extract (fun _ _ h => IsFT.fst h)) ?_
              refine AllStep2.quiet rfl (pure_extract (fun _ _ h => IsFT.snd h)) ?_
              refine AllStep2.fresh rfl rfl (alloc_T (fun _ => run_new4) (fun _ _ h => h)) ?_
              exact AllStep2.nil
            · intro t ht v w hk
              simp only [List.mem_cons, List.not_mem_nil, or_false] at ht
              subst ht
              exact IsNew.lt (show IsNew w5.heap.size _ v w from hk)
            intro a7 w7 hb7 hs7 hd7 hk7 _
            have q3 : a7.eval (.tmp 3) = .pointer (some ⟨w.heap.size, 0, none⟩) := hk7 3 (by kernel_rfl)
            have q4 : a7.eval (.tmp 4) = .pointer (some ⟨w.heap.size + 1, 0, none⟩) := hk7 4 (by kernel_rfl)
            have q5 : a7.eval (.tmp 5) = .pointer (some ⟨w.heap.size + 1 + 1, 0, none⟩) := hk7 5 (by kernel_rfl)
            have q7 : a7.eval (.tmp 7) = .pointer (some ⟨b7, 0, none⟩) := hk7 7 (by kernel_rfl)
            have q8 : a7.eval (.tmp 8) = .int .i64 0 := hk7 8 (by kernel_rfl)
            have q9 : a7.eval (.tmp 9) = .pointer (some ⟨b9, 0, none⟩) := hk7 9 (by kernel_rfl)
            have q10 : a7.eval (.tmp 10) = .int .i64 6 := hk7 10 (by kernel_rfl)
            obtain ⟨b11, q11, l11, m11, -⟩ : IsNew w5.heap.size nought4 (a7.eval (.tmp 11)) w7 := hk7 11 (by kernel_rfl)
            have x80 : FrOk w7 (a7.eval (.tmp 80)) (max 8 3) (Rat.divInt B 1) := hk7 80 (by kernel_rfl)
            obtain ⟨z1, y1, i1, j1, z2, y2, i2, j2, e80, -⟩ := x80.split
            have x80' : FrOk w7 (.agg #[.bool z1, .slice y1 i1 j1, .bool z2, .slice y2 i2 j2]) (max 8 3) (Rat.divInt B 1) := by rw [← e80]; exact x80
            obtain ⟨W7, eW, st, bx⟩ := m11.store (ys := [.bool z1, .slice y1 i1 j1, .bool z2, .slice y2 i2 j2]) rfl rfl
            have HV11 := (x80'.store st).keep
            have M11 := bx.keep
            have bW := st.below w5 l11 hb7
            refine wpOps_step (i := 7) (rest := [8]) rfl rfl ?_
            refine wp_store_T q11 e80 (run_store4 m11) ?_
            rw [eW]
            refine wpOps_step (i := 8) (rest := []) rfl rfl ?_
            refine wp_assign ?_
            obtain ⟨c7, hc7⟩ : ∃ c, c = a7.put (some 12) (a7.eval (.tmp 81)) := ⟨_, rfl⟩
            rw [← hc7]
            have g12 : c7.eval (.tmp 12) = .int .i64 0 := by rw [hc7, eval_put (by rw [hs7]; decide), if_pos rfl]; exact hk7 81 (by kernel_rfl)
            have g3 : c7.eval (.tmp 3) = .pointer (some ⟨w.heap.size, 0, none⟩) := by rw [hc7, eval_put' (by decide)]; exact q3
            have g4 : c7.eval (.tmp 4) = .pointer (some ⟨w.heap.size + 1, 0, none⟩) := by rw [hc7, eval_put' (by decide)]; exact q4
            have g5 : c7.eval (.tmp 5) = .pointer (some ⟨w.heap.size + 1 + 1, 0, none⟩) := by rw [hc7, eval_put' (by decide)]; exact q5
            have g7 : c7.eval (.tmp 7) = .pointer (some ⟨b7, 0, none⟩) := by rw [hc7, eval_put' (by decide)]; exact q7
            have g8 : c7.eval (.tmp 8) = .int .i64 0 := by rw [hc7, eval_put' (by decide)]; exact q8
            have g9 : c7.eval (.tmp 9) = .pointer (some ⟨b9, 0, none⟩) := by rw [hc7, eval_put' (by decide)]; exact q9
            have g10 : c7.eval (.tmp 10) = .int .i64 6 := by rw [hc7, eval_put' (by decide)]; exact q10
            have g11 : c7.eval (.tmp 11) = .pointer (some ⟨b11, 0, none⟩) := by rw [hc7, eval_put' (by decide)]; exact q11
            have hs70 : c7.tmps.size = 132 := by rw [hc7]; simp only [Act.put, Array.size_setIfInBounds]; exact hs7
            have hd70 : c7.defers = [] := by rw [hc7]; exact hd7.trans hd50
            clear st eW bx
            have HA := (HA.out _ bW).keep
            have HB := (HB.out _ bW).keep
            have HC := (HC.out _ bW).keep
            have HV7 := (HV7.out _ bW).keep
            have N1 := (N1.out _ bW).keep
            have N2 := (N2.out _ bW).keep
            have N3 := (N3.out _ bW).keep
            have M7 := (M7.out _ bW).keep
            have M9 := (M9.out _ bW).keep
            have RW := Lib.hid (Below.step RW.out bW)
            refine hK7 _ _ ?_
            refine wp_seq_k ?_
            intro K8 hK8
            refine wp_region_tail []
              [(3, IsV (.pointer (some ⟨w.heap.size, 0, none⟩))), (4, IsV (.pointer (some ⟨(w.heap.size + 1), 0, none⟩))), (5, IsV (.pointer (some ⟨(w.heap.size + 1 + 1), 0, none⟩))), (7, IsV (.pointer (some ⟨b7, 0, none⟩))), (8, IsV (.int .i64 (0))), (9, IsV (.pointer (some ⟨b9, 0, none⟩))), (10, IsV (.int .i64 (6))), (11, IsV (.pointer (some ⟨b11, 0, none⟩))), (12, IsV (.int .i64 (0)))]
              [(83, IsO 8 (A)), (84, IsO 3 (1)), (85, IsFT (max 8 3) (Rat.divInt A 1)), (82, IsFT (max 8 3) (Rat.divInt A 1)), (86, IsF (max 8 3) (Rat.divInt A 1)), (87, IsV (.int .i64 (0))), (13, IsNew W7.heap.size nought4)]
              [13] 132 7 (by kernel_rfl) hs70 (by kernel_rfl) (by kernel_rfl) (by kernel_rfl) (by kernel_rfl) ⟨g3, g4, g5, g7, g8, g9, g10, g11, g12, trivial⟩ ⟨IsV.grows _ , IsV.grows _ , IsV.grows _ , IsV.grows _ , IsV.grows _ , IsV.grows _ , IsV.grows _ , IsV.grows _ , IsV.grows _ , IsO.grows _ _ , IsO.grows _ _ , IsFT.grows _ _ , IsFT.grows _ _ , IsF.grows _ _ , IsV.grows _ , IsNew.grows _ _ , trivial⟩ ?_ (fun d _ _ _ _ h => by cases d <;> exact h) ?_ ?_
            · refine AllStep2.step rfl rfl (step_loadT (fun _ _ h => h) (fun W hb => run_load2 rfl (N1.out W hb).at0 (N1.out W hb).at1) (fun w hb => HA.out w hb)) ?_
              refine AllStep2.step rfl rfl (step_callk (Plain.of Tryz.func29 rfl rfl) (fun w _ => Of_num 1 _ (by decide) (by decide))) ?_
              refine AllStep2.step rfl rfl (step_call2 (Plain.of Tryz.func52 rfl rfl) (fun _ _ _ _ hu hv => (Make_num hu hv (by decide) (by decide) (by decide)).mono (fun _ _ h => ansFT h))) ?_
              refine AllStep2.quiet rfl (pure_move (fun _ _ h => h)) ?_
              refine AllStep2.quiet rfl (pure_extract (fun _ _ h => IsFT.fst h)) ?_
              refine AllStep2.quiet rfl (pure_extract (fun _ _ h => IsFT.snd h)) ?_
              refine AllStep2.fresh rfl rfl (alloc_T (fun _ => run_new4) (fun _ _ h => h)) ?_
              exact AllStep2.nil
            · intro t ht v w hk
              simp only [List.mem_cons, List.not_mem_nil, or_false] at ht
              subst ht
              exact IsNew.lt (show IsNew W7.heap.size _ v w from hk)
            intro a8 w8 hb8 hs8 hd8 hk8 _
            have q3 : a8.eval (.tmp 3) = .pointer (some ⟨w.heap.size, 0, none⟩) := hk8 3 (by kernel_rfl)
            have q4 : a8.eval (.tmp 4) = .pointer (some ⟨w.heap.size + 1, 0, none⟩) := hk8 4 (by kernel_rfl)
            have q5 : a8.eval (.tmp 5) = .pointer (some ⟨w.heap.size + 1 + 1, 0, none⟩) := hk8 5 (by kernel_rfl)
            have q7 : a8.eval (.tmp 7) = .pointer (some ⟨b7, 0, none⟩) := hk8 7 (by kernel_rfl)
            have q8 : a8.eval (.tmp 8) = .int .i64 0 := hk8 8 (by kernel_rfl)
            have q9 : a8.eval (.tmp 9) = .pointer (some ⟨b9, 0, none⟩) := hk8 9 (by kernel_rfl)
            have q10 : a8.eval (.tmp 10) = .int .i64 6 := hk8 10 (by kernel_rfl)
            have q11 : a8.eval (.tmp 11) = .pointer (some ⟨b11, 0, none⟩) := hk8 11 (by kernel_rfl)
            have q12 : a8.eval (.tmp 12) = .int .i64 0 := hk8 12 (by kernel_rfl)
            obtain ⟨b13, q13, l13, m13, -⟩ : IsNew W7.heap.size nought4 (a8.eval (.tmp 13)) w8 := hk8 13 (by kernel_rfl)
            have x86 : FrOk w8 (a8.eval (.tmp 86)) (max 8 3) (Rat.divInt A 1) := hk8 86 (by kernel_rfl)
            obtain ⟨z1, y1, i1, j1, z2, y2, i2, j2, e86, -⟩ := x86.split
            have x86' : FrOk w8 (.agg #[.bool z1, .slice y1 i1 j1, .bool z2, .slice y2 i2 j2]) (max 8 3) (Rat.divInt A 1) := by rw [← e86]; exact x86
            obtain ⟨W8, eW, st, bx⟩ := m13.store (ys := [.bool z1, .slice y1 i1 j1, .bool z2, .slice y2 i2 j2]) rfl rfl
            have HV13 := (x86'.store st).keep
            have M13 := bx.keep
            have bW := st.below W7 l13 hb8
            refine wpOps_step (i := 7) (rest := [8]) rfl rfl ?_
            refine wp_store_T q13 e86 (run_store4 m13) ?_
            rw [eW]
            refine wpOps_step (i := 8) (rest := []) rfl rfl ?_
            refine wp_assign ?_
            obtain ⟨c8, hc8⟩ : ∃ c, c = a8.put (some 14) (a8.eval (.tmp 87)) := ⟨_, rfl⟩
            rw [← hc8]
            have g14 : c8.eval (.tmp 14) = .int .i64 0 := by rw [hc8, eval_put (by rw [hs8]; decide), if_pos rfl]; exact hk8 87 (by kernel_rfl)
            have g3 : c8.eval (.tmp 3) = .pointer (some ⟨w.heap.size, 0, none⟩) := by rw [hc8, eval_put' (by decide)]; exact q3
            have g4 : c8.eval (.tmp 4) = .pointer (some ⟨w.heap.size + 1, 0, none⟩) := by rw [hc8, eval_put' (by decide)]; exact q4
            have g5 : c8.eval (.tmp 5) = .pointer (some ⟨w.heap.size + 1 + 1, 0, none⟩) := by rw [hc8, eval_put' (by decide)]; exact q5
            have g7 : c8.eval (.tmp 7) = .pointer (some ⟨b7, 0, none⟩) := by rw [hc8, eval_put' (by decide)]; exact q7
            have g8 : c8.eval (.tmp 8) = .int .i64 0 := by rw [hc8, eval_put' (by decide)]; exact q8
            have g9 : c8.eval (.tmp 9) = .pointer (some ⟨b9, 0, none⟩) := by rw [hc8, eval_put' (by decide)]; exact q9
            have g10 : c8.eval (.tmp 10) = .int .i64 6 := by rw [hc8, eval_put' (by decide)]; exact q10
            have g11 : c8.eval (.tmp 11) = .pointer (some ⟨b11, 0, none⟩) := by rw [hc8, eval_put' (by decide)]; exact q11
            have g12 : c8.eval (.tmp 12) = .int .i64 0 := by rw [hc8, eval_put' (by decide)]; exact q12
            have g13 : c8.eval (.tmp 13) = .pointer (some ⟨b13, 0, none⟩) := by rw [hc8, eval_put' (by decide)]; exact q13
            have hs80 : c8.tmps.size = 132 := by rw [hc8]; simp only [Act.put, Array.size_setIfInBounds]; exact hs8
            have hd80 : c8.defers = [] := by rw [hc8]; exact hd8.trans hd70
            clear st eW bx
            have HA := (HA.out _ bW).keep
            have HB := (HB.out _ bW).keep
            have HC := (HC.out _ bW).keep
            have HV7 := (HV7.out _ bW).keep
            have HV11 := (HV11.out _ bW).keep
            have N1 := (N1.out _ bW).keep
            have N2 := (N2.out _ bW).keep
            have N3 := (N3.out _ bW).keep
            have M7 := (M7.out _ bW).keep
            have M9 := (M9.out _ bW).keep
            have M11 := (M11.out _ bW).keep
            have RW := Lib.hid (Below.step RW.out bW)
            refine hK8 _ _ ?_
            refine wp_seq_k ?_
            intro K12 hK12
            refine wp_seq_k ?_
            intro K9 hK9
            try simp only [List.append_eq, List.cons_append, List.nil_append]
            refine wp_region_known [(89, false), (90, false), (92, false), (93, false), (94, false), (96, false), (97, false), (98, false), (100, true), (101, false), (102, false), (103, false), (108, true), (109, false), (110, false)]
              [(3, IsV (.pointer (some ⟨w.heap.size, 0, none⟩))), (4, IsV (.pointer (some ⟨(w.heap.size + 1), 0, none⟩))), (5, IsV (.pointer (some ⟨(w.heap.size + 1 + 1), 0, none⟩))), (7, IsV (.pointer (some ⟨b7, 0, none⟩))), (8, IsV (.int .i64 (0))), (9, IsV (.pointer (some ⟨b9, 0, none⟩))), (10, IsV (.int .i64 (6))), (11, IsV (.pointer (some ⟨b11, 0, none⟩))), (12, IsV (.int .i64 (0))), (13, IsV (.pointer (some ⟨b13, 0, none⟩))), (14, IsV (.int .i64 (0)))]
              [(88, IsV (.int .i64 (0))), (91, IsV (.int .i64 (0))), (95, IsV (.int .i64 (0))), (99, IsF (max 8 8) (Rat.divInt A B)), (104, IsF (max 8 8) (Rat.divInt A B)), (105, IsF (max 8 3) (Rat.divInt B 1)), (106, IsF ((max 8 8) + (max 8 3)) ((Rat.divInt A B * Rat.divInt B 1))), (107, IsF (max 8 3) (Rat.divInt A 1))]
              132 (by kernel_rfl) hs80 (by kernel_rfl) (by kernel_rfl) ⟨g3, g4, g5, g7, g8, g9, g10, g11, g12, g13, g14, trivial⟩ ⟨IsV.grows _ , IsV.grows _ , IsV.grows _ , IsV.grows _ , IsV.grows _ , IsV.grows _ , IsV.grows _ , IsV.grows _ , IsV.grows _ , IsV.grows _ , IsV.grows _ , IsV.grows _ , IsV.grows _ , IsV.grows _ , IsF.grows _ _ , IsF.grows _ _ , IsF.grows _ _ , IsF.grows _ _ , IsF.grows _ _ , trivial⟩ ?_ ?_
            · refine AllStep.cons (step_move (fun _ _ h => h)) ?_
              refine AllStep.cons (step_neE (fun _ _ h => h) (by decide) (fun _ => rfl)) ?_
              refine AllStep.cons (step_move (fun _ _ h => h)) ?_
              refine AllStep.cons (step_move (fun _ _ h => h)) ?_
              refine AllStep.cons (step_neE (fun _ _ h => h) (by decide) (fun _ => rfl)) ?_
              refine AllStep.cons (step_pickF (fun _ _ h => h) (fun _ _ h => h)) ?_
              refine AllStep.cons (step_move (fun _ _ h => h)) ?_
              refine AllStep.cons (step_move (fun _ _ h => h)) ?_
              refine AllStep.cons (step_neE (fun _ _ h => h) (by decide) (fun _ => rfl)) ?_
              refine AllStep.cons (step_pickF (fun _ _ h => h) (fun _ _ h => h)) ?_
              refine AllStep.cons (step_move (fun _ _ h => h)) ?_
              refine AllStep.cons (step_loadT (fun _ _ h => h) (fun W hb => run_load4 rfl rfl rfl (M7.out W hb).at0 (M7.out W hb).at1 (M7.out W hb).at2 (M7.out W hb).at3) (fun w hb => HV7.out w hb)) ?_
              refine AllStep.cons (step_call1 (Plain.of Tryz.func58 rfl rfl) (fun _ _ _ hu => (CheckF_ok hu (by decide)).mono (fun _ _ h => ansV h))) ?_
              refine AllStep.cons (step_not true (fun _ _ h => h) (fun _ => rfl)) ?_
              refine AllStep.cons (step_pickF (fun _ _ h => h) (fun _ _ h => h)) ?_
              refine AllStep.cons (step_move (fun _ _ h => h)) ?_
              refine AllStep.cons (step_loadT (fun _ _ h => h) (fun W hb => run_load4 rfl rfl rfl (M7.out W hb).at0 (M7.out W hb).at1 (M7.out W hb).at2 (M7.out W hb).at3) (fun w hb => HV7.out w hb)) ?_
              refine AllStep.cons (step_loadT (fun _ _ h => h) (fun W hb => run_load4 rfl rfl rfl (M11.out W hb).at0 (M11.out W hb).at1 (M11.out W hb).at2 (M11.out W hb).at3) (fun w hb => HV11.out w hb)) ?_
              refine AllStep.cons (step_call2 (Plain.of Tryz.func39 rfl rfl) (fun _ _ _ _ hu hv => MulF_at (FrOk.at hu) (FrOk.at hv) (by decide) (by decide) (by decide) (by decide))) ?_
              refine AllStep.cons (step_loadT (fun _ _ h => h) (fun W hb => run_load4 rfl rfl rfl (M13.out W hb).at0 (M13.out W hb).at1 (M13.out W hb).at2 (M13.out W hb).at3) (fun w hb => HV13.out w hb)) ?_
              refine AllStep.cons (step_call2 (Plain.of Tryz.func65 rfl rfl) (fun _ _ _ _ hu hv => (same_ok hu hv true (decide_eq_true (made_a HZB.out))).mono (fun _ _ h => ansV h))) ?_
              refine AllStep.cons (step_not true (fun _ _ h => h) (fun _ => rfl)) ?_
              refine AllStep.cons (step_pickF (fun _ _ h => h) (fun _ _ h => h)) ?_
              exact AllStep.nil
            · intro a9 w9 hb9 hs9 hd9 hk9
              have HA := (HA.out _ hb9).keep
              have HB := (HB.out _ hb9).keep
              have HC := (HC.out _ hb9).keep
              have HV7 := (HV7.out _ hb9).keep
              have HV11 := (HV11.out _ hb9).keep
              have HV13 := (HV13.out _ hb9).keep
              have N1 := (N1.out _ hb9).keep
              have N2 := (N2.out _ hb9).keep
              have N3 := (N3.out _ hb9).keep
              have M7 := (M7.out _ hb9).keep
              have M9 := (M9.out _ hb9).keep
              have M11 := (M11.out _ hb9).keep
              have M13 := (M13.out _ hb9).keep
              have RW := Lib.hid (Below.step RW.out hb9)
              obtain ⟨x, hx⟩ : ∃ x : Nat → Value, ∀ t, a9.eval (.tmp t) = x t := ⟨_, fun _ => rfl⟩
              have ha : a9 = ⟨#[x 0, x 1, x 2, .pointer (some ⟨w.heap.size, 0, none⟩), .pointer (some ⟨w.heap.size + 1, 0, none⟩), .pointer (some ⟨w.heap.size + 1 + 1, 0, none⟩), x 6, .pointer (some ⟨b7, 0, none⟩), .int .i64 0, .pointer (some ⟨b9, 0, none⟩), .int .i64 6, .pointer (some ⟨b11, 0, none⟩), .int .i64 0, .pointer (some ⟨b13, 0, none⟩), .int .i64 0, x 15, x 16, x 17, x 18, x 19, x 20, x 21, x 22, x 23, x 24, x 25, x 26, x 27, x 28, x 29, x 30, x 31, x 32, x 33, x 34, x 35, x 36, x 37, x 38, x 39, x 40, x 41, x 42, x 43, x 44, x 45, x 46, x 47, x 48, x 49, x 50, x 51, x 52, x 53, x 54, x 55, x 56, x 57, x 58, x 59, x 60, x 61, x 62, x 63, x 64, x 65, x 66, x 67, x 68, x 69, x 70, x 71, x 72, x 73, x 74, x 75, x 76, x 77, x 78, x 79, x 80, x 81, x 82, x 83, x 84, x 85, x 86, x 87, x 88, x 89, x 90, x 91, x 92, x 93, x 94, x 95, x 96, x 97, x 98, x 99, x 100, x 101, x 102, x 103, x 104, x 105, x 106, x 107, x 108, x 109, .bool false, x 111, x 112, x 113, x 114, x 115, x 116, x 117, x 118, x 119, x 120, x 121, x 122, x 123, x 124, x 125, x 126, x 127, x 128, x 129, x 130, x 131], []⟩ := act_eq hs9 (hd9.trans hd80) ⟨hx 0, hx 1, hx 2, hk9 3, hk9 4, hk9 5, hx 6, hk9 7, hk9 8, hk9 9, hk9 10, hk9 11, hk9 12, hk9 13, hk9 14, hx 15, hx 16, hx 17, hx 18, hx 19, hx 20, hx 21, hx 22, hx 23, hx 24, hx 25, hx 26, hx 27, hx 28, hx 29, hx 30, hx 31, hx 32, hx 33, hx 34, hx 35, hx 36, hx 37, hx 38, hx 39, hx 40, hx 41, hx 42, hx 43, hx 44, hx 45, hx 46, hx 47, hx 48, hx 49, hx 50, hx 51, hx 52, hx 53, hx 54, hx 55, hx 56, hx 57, hx 58, hx 59, hx 60, hx 61, hx 62, hx 63, hx 64, hx 65, hx 66, hx 67, hx 68, hx 69, hx 70, hx 71, hx 72, hx 73, hx 74, hx 75, hx 76, hx 77, hx 78, hx 79, hx 80, hx 81, hx 82, hx 83, hx 84, hx 85, hx 86, hx 87, hx 88, hx 89, hx 90, hx 91, hx 92, hx 93, hx 94, hx 95, hx 96, hx 97, hx 98, hx 99, hx 100, hx 101, hx 102, hx 103, hx 104, hx 105, hx 106, hx 107, hx 108, hx 109, hk9 110, hx 111, hx 112, hx 113, hx 114, hx 115, hx 116, hx 117, hx 118, hx 119, hx 120, hx 121, hx 122, hx 123, hx 124, hx 125, hx 126, hx 127, hx 128, hx 129, hx 130, hx 131, trivial⟩
              subst ha
              refine hK9 _ _ ?_
              refine wp_cond_false rfl ?_
              refine wp_skip ?_
              refine hK12 _ _ ?_
              clear hx hk9 hs9 hd9 hb9
              obtain ⟨p0, p1, -, -⟩ := (N3.out _ (Below.refl _ _)).c2
              clear hK3 hK4 hK5 hK7 hK8 hK9 hK12
              go_wp2_with fail
              refine (Sign_num (HC.out _ (Below.refl _ _)).num 0 (by rw [HZC.out]; rfl)).mono ?_
              rintro e w10 ⟨rfl, hb10⟩
              go_wp2_with fail
              go_ret
              exact ⟨rfl, Below.step RW.out hb10⟩
          · have HZ : Hid (B * C ≠ 0) := show B * C ≠ 0 from Int.mul_ne_zero hzb hzc
            have HS : Hid ((cmpI B 0 == 0) = false) := show (cmpI B 0 == 0) = false by simp [sign_ne hzb]
            have HZB := Lib.hid hzb
            have HZC := Lib.hid hzc
            clear hzb hzc
            refine wp_region_seq []
              [(3, IsV (.pointer (some ⟨w.heap.size, 0, none⟩))), (4, IsV (.pointer (some ⟨(w.heap.size + 1), 0, none⟩))), (5, IsV (.pointer (some ⟨(w.heap.size + 1 + 1), 0, none⟩)))]
              [(52, IsO 8 (A)), (53, IsO 8 (B)), (54, IsFT (max 8 8) (Rat.divInt A B)), (51, IsFT (max 8 8) (Rat.divInt A B)), (55, IsF (max 8 8) (Rat.divInt A B)), (56, IsV (.int .i64 (0))), (7, IsNew w2.heap.size nought4)]
              132 7 rfl (by kernel_rfl) (by kernel_rfl) ⟨rfl, rfl, rfl, trivial⟩ ⟨IsV.grows _ , IsV.grows _ , IsV.grows _ , IsO.grows _ _ , IsO.grows _ _ , IsFT.grows _ _ , IsFT.grows _ _ , IsF.grows _ _ , IsV.grows _ , IsNew.grows _ _ , trivial⟩ ?_ ?_
            · refine AllStep.cons (step_loadT (fun _ _ h => h) (fun W hb => run_load2 rfl (N1.out W hb).at0 (N1.out W hb).at1) (fun w hb => HA.out w hb)) ?_
              refine AllStep.cons (step_loadT (fun _ _ h => h) (fun W hb => run_load2 rfl (N2.out W hb).at0 (N2.out W hb).at1) (fun w hb => HB.out w hb)) ?_
              refine AllStep.cons (step_call2 (Plain.of Tryz.func52 rfl rfl) (fun _ _ _ _ hu hv => (Make_num hu hv (by decide) (by decide) HZB.out).mono (fun _ _ h => ansFT h))) ?_
              refine AllStep.cons (step_move (fun _ _ h => h)) ?_
              refine AllStep.cons (step_extract (fun _ _ h => IsFT.fst h)) ?_
              refine AllStep.cons (step_extract (fun _ _ h => IsFT.snd h)) ?_
              refine AllStep.cons (step_allocT (fun _ => run_new4) (fun _ _ h => h)) ?_
              exact AllStep.nil
            intro a3 w3 hb3 hs3 hd3 hk3
            have q3 : a3.eval (.tmp 3) = .pointer (some ⟨w.heap.size, 0, none⟩) := hk3 3 (by kernel_rfl)
            have q4 : a3.eval (.tmp 4) = .pointer (some ⟨w.heap.size + 1, 0, none⟩) := hk3 4 (by kernel_rfl)
            have q5 : a3.eval (.tmp 5) = .pointer (some ⟨w.heap.size + 1 + 1, 0, none⟩) := hk3 5 (by kernel_rfl)
            obtain ⟨b7, q7, l7, m7, -⟩ : IsNew w2.heap.size nought4 (a3.eval (.tmp 7)) w3 := hk3 7 (by kernel_rfl)
            have x55 : FrOk w3 (a3.eval (.tmp 55)) (max 8 8) (Rat.divInt A B) := hk3 55 (by kernel_rfl)
            obtain ⟨z1, y1, i1, j1, z2, y2, i2, j2, e55, -⟩ := x55.split
            have x55' : FrOk w3 (.agg #[.bool z1, .slice y1 i1 j1, .bool z2, .slice y2 i2 j2]) (max 8 8) (Rat.divInt A B) := by rw [← e55]; exact x55
            obtain ⟨W3, eW, st, bx⟩ := m7.store (ys := [.bool z1, .slice y1 i1 j1, .bool z2, .slice y2 i2 j2]) rfl rfl
            have HV7 := (x55'.store st).keep
            have M7 := bx.keep
            have bW := st.below w2 l7 hb3
            refine wpOps_step (i := 7) (rest := [8]) rfl rfl ?_
            refine wp_store_T q7 e55 (run_store4 m7) ?_
            rw [eW]
            refine wpOps_step (i := 8) (rest := []) rfl rfl ?_
            refine wp_assign ?_
            obtain ⟨c3, hc3⟩ : ∃ c, c = a3.put (some 8) (a3.eval (.tmp 56)) := ⟨_, rfl⟩
            rw [← hc3]
            have g8 : c3.eval (.tmp 8) = .int .i64 0 := by rw [hc3, eval_put (by rw [hs3]; decide), if_pos rfl]; exact hk3 56 (by kernel_rfl)
            have g3 : c3.eval (.tmp 3) = .pointer (some ⟨w.heap.size, 0, none⟩) := by rw [hc3, eval_put' (by decide)]; exact q3
            have g4 : c3.eval (.tmp 4) = .pointer (some ⟨w.heap.size + 1, 0, none⟩) := by rw [hc3, eval_put' (by decide)]; exact q4
            have g5 : c3.eval (.tmp 5) = .pointer (some ⟨w.heap.size + 1 + 1, 0, none⟩) := by rw [hc3, eval_put' (by decide)]; exact q5
            have g7 : c3.eval (.tmp 7) = .pointer (some ⟨b7, 0, none⟩) := by rw [hc3, eval_put' (by decide)]; exact q7
            have hs30 : c3.tmps.size = 132 := by rw [hc3]; simp only [Act.put, Array.size_setIfInBounds]; exact hs3
            have hd30 : c3.defers = [] := by rw [hc3]; exact hd3
            clear st eW bx
            have HA := (HA.out _ bW).keep
            have HB := (HB.out _ bW).keep
            have HC := (HC.out _ bW).keep
            have N1 := (N1.out _ bW).keep
            have N2 := (N2.out _ bW).keep
            have N3 := (N3.out _ bW).keep
            have RW := Lib.hid (Below.step RW.out bW)
            refine hK3 _ _ ?_
            refine wp_seq_k ?_
            intro K4 hK4
            refine wp_region_tail []
              [(3, IsV (.pointer (some ⟨w.heap.size, 0, none⟩))), (4, IsV (.pointer (some ⟨(w.heap.size + 1), 0, none⟩))), (5, IsV (.pointer (some ⟨(w.heap.size + 1 + 1), 0, none⟩))), (7, IsV (.pointer (some ⟨b7, 0, none⟩))), (8, IsV (.int .i64 (0)))]
              [(58, IsO 8 (A)), (59, IsO 8 (C)), (60, IsO (8 + 8) ((A * C))), (61, IsO 8 (B)), (62, IsO 8 (C)), (63, IsO (8 + 8) ((B * C))), (64, IsFT (max (8 + 8) (8 + 8)) (Rat.divInt (A * C) (B * C))), (57, IsFT (max (8 + 8) (8 + 8)) (Rat.divInt (A * C) (B * C))), (65, IsF (max (8 + 8) (8 + 8)) (Rat.divInt (A * C) (B * C))), (66, IsV (.int .i64 (0))), (9, IsNew W3.heap.size nought4)]
              [9] 132 11 (by kernel_rfl) hs30 (by kernel_rfl) (by kernel_rfl) (by kernel_rfl) (by kernel_rfl) ⟨g3, g4, g5, g7, g8, trivial⟩ ⟨IsV.grows _ , IsV.grows _ , IsV.grows _ , IsV.grows _ , IsV.grows _ , IsO.grows _ _ , IsO.grows _ _ , IsO.grows _ _ , IsO.grows _ _ , IsO.grows _ _ , IsO.grows _ _ , IsFT.grows _ _ , IsFT.grows _ _ , IsF.grows _ _ , IsV.grows _ , IsNew.grows _ _ , trivial⟩ ?_ (fun d _ _ _ _ h => by cases d <;> exact h) ?_ ?_
            · refine AllStep2.step rfl rfl (step_loadT (fun _ _ h => h) (fun W hb => run_load2 rfl (N1.out W hb).at0 (N1.out W hb).at1) (fun w hb => HA.out w hb)) ?_
              refine AllStep2.step rfl rfl (step_loadT (fun _ _ h => h) (fun W hb => run_load2 rfl (N3.out W hb).at0 (N3.out W hb).at1) (fun w hb => HC.out w hb)) ?_
              refine AllStep2.step rfl rfl (step_call2 (Plain.of Tryz.func67 rfl rfl) (fun _ _ _ _ hu hv => Mul_num (OkAt.num hu) (OkAt.num hv) (by decide) (by decide))) ?_
              refine AllStep2.step rfl rfl (step_loadT (fun _ _ h => h) (fun W hb => run_load2 rfl (N2.out W hb).at0 (N2.out W hb).at1) (fun w hb => HB.out w hb)) ?_
              refine AllStep2.step rfl rfl (step_loadT (fun _ _ h => h) (fun W hb => run_load2 rfl (N3.out W hb).at0 (N3.out W hb).at1) (fun w hb => HC.out w hb)) ?_
              refine AllStep2.step rfl rfl (step_call2 (Plain.of Tryz.func67 rfl rfl) (fun _ _ _ _ hu hv => Mul_num (OkAt.num hu) (OkAt.num hv) (by decide) (by decide))) ?_
              refine AllStep2.step rfl rfl (step_call2 (Plain.of Tryz.func52 rfl rfl) (fun _ _ _ _ hu hv => (Make_num hu hv (by decide) (by decide) HZ.out).mono (fun _ _ h => ansFT h))) ?_
              refine AllStep2.quiet rfl (pure_move (fun _ _ h => h)) ?_
              refine AllStep2.quiet rfl (pure_extract (fun _ _ h => IsFT.fst h)) ?_
              refine AllStep2.quiet rfl (pure_extract (fun _ _ h => IsFT.snd h)) ?_
              refine AllStep2.fresh rfl rfl (alloc_T (fun _ => run_new4) (fun _ _ h => h)) ?_
              exact AllStep2.nil
            · intro t ht v w hk
              simp only [List.mem_cons, List.not_mem_nil, or_false] at ht
              subst ht
              exact IsNew.lt (show IsNew W3.heap.size _ v w from hk)
            intro a4 w4 hb4 hs4 hd4 hk4 _
            have q3 : a4.eval (.tmp 3) = .pointer (some ⟨w.heap.size, 0, none⟩) := hk4 3 (by kernel_rfl)
            have q4 : a4.eval (.tmp 4) = .pointer (some ⟨w.heap.size + 1, 0, none⟩) := hk4 4 (by kernel_rfl)
            have q5 : a4.eval (.tmp 5) = .pointer (some ⟨w.heap.size + 1 + 1, 0, none⟩) := hk4 5 (by kernel_rfl)
            have q7 : a4.eval (.tmp 7) = .pointer (some ⟨b7, 0, none⟩) := hk4 7 (by kernel_rfl)
            have q8 : a4.eval (.tmp 8) = .int .i64 0 := hk4 8 (by kernel_rfl)
            obtain ⟨b9, q9, l9, m9, -⟩ : IsNew W3.heap.size nought4 (a4.eval (.tmp 9)) w4 := hk4 9 (by kernel_rfl)
            have x65 : FrOk w4 (a4.eval (.tmp 65)) (max (8 + 8) (8 + 8)) (Rat.divInt (A * C) (B * C)) := hk4 65 (by kernel_rfl)
            obtain ⟨z1, y1, i1, j1, z2, y2, i2, j2, e65, -⟩ := x65.split
            have x65' : FrOk w4 (.agg #[.bool z1, .slice y1 i1 j1, .bool z2, .slice y2 i2 j2]) (max (8 + 8) (8 + 8)) (Rat.divInt (A * C) (B * C)) := by rw [← e65]; exact x65
            obtain ⟨W4, eW, st, bx⟩ := m9.store (ys := [.bool z1, .slice y1 i1 j1, .bool z2, .slice y2 i2 j2]) rfl rfl
            have HV9 := (x65'.store st).keep
            have M9 := bx.keep
            have bW := st.below W3 l9 hb4
            refine wpOps_step (i := 11) (rest := [12]) rfl rfl ?_
            refine wp_store_T q9 e65 (run_store4 m9) ?_
            rw [eW]
            refine wpOps_step (i := 12) (rest := []) rfl rfl ?_
            refine wp_assign ?_
            obtain ⟨c4, hc4⟩ : ∃ c, c = a4.put (some 10) (a4.eval (.tmp 66)) := ⟨_, rfl⟩
            rw [← hc4]
            have g10 : c4.eval (.tmp 10) = .int .i64 0 := by rw [hc4, eval_put (by rw [hs4]; decide), if_pos rfl]; exact hk4 66 (by kernel_rfl)
            have g3 : c4.eval (.tmp 3) = .pointer (some ⟨w.heap.size, 0, none⟩) := by rw [hc4, eval_put' (by decide)]; exact q3
            have g4 : c4.eval (.tmp 4) = .pointer (some ⟨w.heap.size + 1, 0, none⟩) := by rw [hc4, eval_put' (by decide)]; exact q4
            have g5 : c4.eval (.tmp 5) = .pointer (some ⟨w.heap.size + 1 + 1, 0, none⟩) := by rw [hc4, eval_put' (by decide)]; exact q5
            have g7 : c4.eval (.tmp 7) = .pointer (some ⟨b7, 0, none⟩) := by rw [hc4, eval_put' (by decide)]; exact q7
            have g8 : c4.eval (.tmp 8) = .int .i64 0 := by rw [hc4, eval_put' (by decide)]; exact q8
            have g9 : c4.eval (.tmp 9) = .pointer (some ⟨b9, 0, none⟩) := by rw [hc4, eval_put' (by decide)]; exact q9
            have hs40 : c4.tmps.size = 132 := by rw [hc4]; simp only [Act.put, Array.size_setIfInBounds]; exact hs4
            have hd40 : c4.defers = [] := by rw [hc4]; exact hd4.trans hd30
            clear st eW bx
            have HA := (HA.out _ bW).keep
            have HB := (HB.out _ bW).keep
            have HC := (HC.out _ bW).keep
            have HV7 := (HV7.out _ bW).keep
            have N1 := (N1.out _ bW).keep
            have N2 := (N2.out _ bW).keep
            have N3 := (N3.out _ bW).keep
            have M7 := (M7.out _ bW).keep
            have RW := Lib.hid (Below.step RW.out bW)
            refine hK4 _ _ ?_
            refine wp_seq_k ?_
            intro K9 hK9
            refine wp_seq_k ?_
            intro K5 hK5
            refine wp_region_seq [(69, false)]
              [(3, IsV (.pointer (some ⟨w.heap.size, 0, none⟩))), (4, IsV (.pointer (some ⟨(w.heap.size + 1), 0, none⟩))), (5, IsV (.pointer (some ⟨(w.heap.size + 1 + 1), 0, none⟩))), (7, IsV (.pointer (some ⟨b7, 0, none⟩))), (8, IsV (.int .i64 (0))), (9, IsV (.pointer (some ⟨b9, 0, none⟩))), (10, IsV (.int .i64 (0)))]
              [(67, IsO 8 (B)), (68, IsV (.int .i64 (cmpI (B) 0)))]
              132 3 hs40 (by kernel_rfl) (by kernel_rfl) ⟨g3, g4, g5, g7, g8, g9, g10, trivial⟩ ⟨IsV.grows _ , IsV.grows _ , IsV.grows _ , IsV.grows _ , IsV.grows _ , IsV.grows _ , IsV.grows _ , IsO.grows _ _ , IsV.grows _ , trivial⟩ ?_ ?_
            · refine AllStep.cons (step_loadT (fun _ _ h => h) (fun W hb => run_load2 rfl (N2.out W hb).at0 (N2.out W hb).at1) (fun w hb => HB.out w hb)) ?_
              refine AllStep.cons (step_call1 (Plain.of Tryz.func68 rfl rfl) (fun _ _ _ hu => (Sign_num (OkAt.num hu) _ rfl).mono (fun _ _ h => ansV h))) ?_
              refine AllStep.cons (step_eqI (fun _ _ h => h) HS.out (fun _ => rfl)) ?_
              exact AllStep.nil
            intro a5 w5 hb5 hs5 hd5 hk5
            have g3 : a5.eval (.tmp 3) = .pointer (some ⟨w.heap.size, 0, none⟩) := hk5 3 (by kernel_rfl)
            have g4 : a5.eval (.tmp 4) = .pointer (some ⟨w.heap.size + 1, 0, none⟩) := hk5 4 (by kernel_rfl)
            have g5 : a5.eval (.tmp 5) = .pointer (some ⟨w.heap.size + 1 + 1, 0, none⟩) := hk5 5 (by kernel_rfl)
            have g7 : a5.eval (.tmp 7) = .pointer (some ⟨b7, 0, none⟩) := hk5 7 (by kernel_rfl)
            have g8 : a5.eval (.tmp 8) = .int .i64 0 := hk5 8 (by kernel_rfl)
            have g9 : a5.eval (.tmp 9) = .pointer (some ⟨b9, 0, none⟩) := hk5 9 (by kernel_rfl)
            have g10 : a5.eval (.tmp 10) = .int .i64 0 := hk5 10 (by kernel_rfl)
            have q69 : a5.eval (.tmp 69) = .bool false := hk5 69 (by kernel_rfl)
            have HA := (HA.out _ hb5).keep
            have HB := (HB.out _ hb5).keep
            have HC := (HC.out _ hb5).keep
            have HV7 := (HV7.out _ hb5).keep
            have HV9 := (HV9.out _ hb5).keep
            have N1 := (N1.out _ hb5).keep
            have N2 := (N2.out _ hb5).keep
            have N3 := (N3.out _ hb5).keep
            have M7 := (M7.out _ hb5).keep
            have M9 := (M9.out _ hb5).keep
            have RW := Lib.hid (Below.step RW.out hb5)
            have hd50 : a5.defers = [] := hd5.trans hd40
            refine hK5 _ _ ?_
            refine wp_cond_false q69 ?_
            refine wp_skip ?_
            refine hK9 _ _ ?_
            refine wp_seq_k ?_
            intro K7 hK7
            refine wp_region_tail []
              [(3, IsV (.pointer (some ⟨w.heap.size, 0, none⟩))), (4, IsV (.pointer (some ⟨(w.heap.size + 1), 0, none⟩))), (5, IsV (.pointer (some ⟨(w.heap.size + 1 + 1), 0, none⟩))), (7, IsV (.pointer (some ⟨b7, 0, none⟩))), (8, IsV (.int .i64 (0))), (9, IsV (.pointer (some ⟨b9, 0, none⟩))), (10, IsV (.int .i64 (0)))]
              [(77, IsO 8 (B)), (78, IsO 3 (1)), (79, IsFT (max 8 3) (Rat.divInt B 1)), (76, IsFT (max 8 3) (Rat.divInt B 1)), (80, IsF (max 8 3) (Rat.divInt B 1)), (81, IsV (.int .i64 (0))), (11, IsNew w5.heap.size nought4)]
              [11] 132 7 (by kernel_rfl) hs5 (by kernel_rfl) (by kernel_rfl) (by kernel_rfl) (by kernel_rfl) ⟨g3, g4, g5, g7, g8, g9, g10, trivial⟩ ⟨IsV.grows _ , IsV.grows _ , IsV.grows _ , IsV.grows _ , IsV.grows _ , IsV.grows _ , IsV.grows _ , IsO.grows _ _ , IsO.grows _ _ , IsFT.grows _ _ , IsFT.grows _ _ , IsF.grows _ _ , IsV.grows _ , IsNew.grows _ _ , trivial⟩ ?_ (fun d _ _ _ _ h => by cases d <;> exact h) ?_ ?_
            · refine AllStep2.step rfl rfl (step_loadT (fun _ _ h => h) (fun W hb => run_load2 rfl (N2.out W hb).at0 (N2.out W hb).at1) (fun w hb => HB.out w hb)) ?_
              refine AllStep2.step rfl rfl (step_callk (Plain.of Tryz.func29 rfl rfl) (fun w _ => Of_num 1 _ (by decide) (by decide))) ?_
              refine AllStep2.step rfl rfl (step_call2 (Plain.of Tryz.func52 rfl rfl) (fun _ _ _ _ hu hv => (Make_num hu hv (by decide) (by decide) (by decide)).mono (fun _ _ h => ansFT h))) ?_
              refine AllStep2.quiet rfl (pure_move (fun _ _ h => h)) ?_
              refine AllStep2.quiet rfl (pure_extract (fun _ _ h => IsFT.fst h)) ?_
              refine AllStep2.quiet rfl (pure_extract (fun _ _ h => IsFT.snd h)) ?_
              refine AllStep2.fresh rfl rfl (alloc_T (fun _ => run_new4) (fun _ _ h => h)) ?_
              exact AllStep2.nil
            · intro t ht v w hk
              simp only [List.mem_cons, List.not_mem_nil, or_false] at ht
              subst ht
              exact IsNew.lt (show IsNew w5.heap.size _ v w from hk)
            intro a7 w7 hb7 hs7 hd7 hk7 _
            have q3 : a7.eval (.tmp 3) = .pointer (some ⟨w.heap.size, 0, none⟩) := hk7 3 (by kernel_rfl)
            have q4 : a7.eval (.tmp 4) = .pointer (some ⟨w.heap.size + 1, 0, none⟩) := hk7 4 (by kernel_rfl)
            have q5 : a7.eval (.tmp 5) = .pointer (some ⟨w.heap.size + 1 + 1, 0, none⟩) := hk7 5 (by kernel_rfl)
            have q7 : a7.eval (.tmp 7) = .pointer (some ⟨b7, 0, none⟩) := hk7 7 (by kernel_rfl)
            have q8 : a7.eval (.tmp 8) = .int .i64 0 := hk7 8 (by kernel_rfl)
            have q9 : a7.eval (.tmp 9) = .pointer (some ⟨b9, 0, none⟩) := hk7 9 (by kernel_rfl)
            have q10 : a7.eval (.tmp 10) = .int .i64 0 := hk7 10 (by kernel_rfl)
            obtain ⟨b11, q11, l11, m11, -⟩ : IsNew w5.heap.size nought4 (a7.eval (.tmp 11)) w7 := hk7 11 (by kernel_rfl)
            have x80 : FrOk w7 (a7.eval (.tmp 80)) (max 8 3) (Rat.divInt B 1) := hk7 80 (by kernel_rfl)
            obtain ⟨z1, y1, i1, j1, z2, y2, i2, j2, e80, -⟩ := x80.split
            have x80' : FrOk w7 (.agg #[.bool z1, .slice y1 i1 j1, .bool z2, .slice y2 i2 j2]) (max 8 3) (Rat.divInt B 1) := by rw [← e80]; exact x80
            obtain ⟨W7, eW, st, bx⟩ := m11.store (ys := [.bool z1, .slice y1 i1 j1, .bool z2, .slice y2 i2 j2]) rfl rfl
            have HV11 := (x80'.store st).keep
            have M11 := bx.keep
            have bW := st.below w5 l11 hb7
            refine wpOps_step (i := 7) (rest := [8]) rfl rfl ?_
            refine wp_store_T q11 e80 (run_store4 m11) ?_
            rw [eW]
            refine wpOps_step (i := 8) (rest := []) rfl rfl ?_
            refine wp_assign ?_
            obtain ⟨c7, hc7⟩ : ∃ c, c = a7.put (some 12) (a7.eval (.tmp 81)) := ⟨_, rfl⟩
            rw [← hc7]
            have g12 : c7.eval (.tmp 12) = .int .i64 0 := by rw [hc7, eval_put (by rw [hs7]; decide), if_pos rfl]; exact hk7 81 (by kernel_rfl)
            have g3 : c7.eval (.tmp 3) = .pointer (some ⟨w.heap.size, 0, none⟩) := by rw [hc7, eval_put' (by decide)]; exact q3
            have g4 : c7.eval (.tmp 4) = .pointer (some ⟨w.heap.size + 1, 0, none⟩) := by rw [hc7, eval_put' (by decide)]; exact q4
            have g5 : c7.eval (.tmp 5) = .pointer (some ⟨w.heap.size + 1 + 1, 0, none⟩) := by rw [hc7, eval_put' (by decide)]; exact q5
            have g7 : c7.eval (.tmp 7) = .pointer (some ⟨b7, 0, none⟩) := by rw [hc7, eval_put' (by decide)]; exact q7
            have g8 : c7.eval (.tmp 8) = .int .i64 0 := by rw [hc7, eval_put' (by decide)]; exact q8
            have g9 : c7.eval (.tmp 9) = .pointer (some ⟨b9, 0, none⟩) := by rw [hc7, eval_put' (by decide)]; exact q9
            have g10 : c7.eval (.tmp 10) = .int .i64 0 := by rw [hc7, eval_put' (by decide)]; exact q10
            have g11 : c7.eval (.tmp 11) = .pointer (some ⟨b11, 0, none⟩) := by rw [hc7, eval_put' (by decide)]; exact q11
            have hs70 : c7.tmps.size = 132 := by rw [hc7]; simp only [Act.put, Array.size_setIfInBounds]; exact hs7
            have hd70 : c7.defers = [] := by rw [hc7]; exact hd7.trans hd50
            clear st eW bx
            have HA := (HA.out _ bW).keep
            have HB := (HB.out _ bW).keep
            have HC := (HC.out _ bW).keep
            have HV7 := (HV7.out _ bW).keep
            have HV9 := (HV9.out _ bW).keep
            have N1 := (N1.out _ bW).keep
            have N2 := (N2.out _ bW).keep
            have N3 := (N3.out _ bW).keep
            have M7 := (M7.out _ bW).keep
            have M9 := (M9.out _ bW).keep
            have RW := Lib.hid (Below.step RW.out bW)
            refine hK7 _ _ ?_
            refine wp_seq_k ?_
            intro K8 hK8
            refine wp_region_tail []
              [(3, IsV (.pointer (some ⟨w.heap.size, 0, none⟩))), (4, IsV (.pointer (some ⟨(w.heap.size + 1), 0, none⟩))), (5, IsV (.pointer (some ⟨(w.heap.size + 1 + 1), 0, none⟩))), (7, IsV (.pointer (some ⟨b7, 0, none⟩))), (8, IsV (.int .i64 (0))), (9, IsV (.pointer (some ⟨b9, 0, none⟩))), (10, IsV (.int .i64 (0))), (11, IsV (.pointer (some ⟨b11, 0, none⟩))), (12, IsV (.int .i64 (0)))]
              [(83, IsO 8 (A)), (84, IsO 3 (1)), (85, IsFT (max 8 3) (Rat.divInt A 1)), (82, IsFT (max 8 3) (Rat.divInt A 1)), (86, IsF (max 8 3) (Rat.divInt A 1)), (87, IsV (.int .i64 (0))), (13, IsNew W7.heap.size nought4)]
              [13] 132 7 (by kernel_rfl) hs70 (by kernel_rfl) (by kernel_rfl) (by kernel_rfl) (by kernel_rfl) ⟨g3, g4, g5, g7, g8, g9, g10, g11, g12, trivial⟩ ⟨IsV.grows _ , IsV.grows _ , IsV.grows _ , IsV.grows _ , IsV.grows _ , IsV.grows _ , IsV.grows _ , IsV.grows _ , IsV.grows _ , IsO.grows _ _ , IsO.grows _ _ , IsFT.grows _ _ , IsFT.grows _ _ , IsF.grows _ _ , IsV.grows _ , IsNew.grows _ _ , trivial⟩ ?_ (fun d _ _ _ _ h => by cases d <;> exact h) ?_ ?_
            · refine AllStep2.step rfl rfl (step_loadT (fun _ _ h => h) (fun W hb => run_load2 rfl (N1.out W hb).at0 (N1.out W hb).at1) (fun w hb => HA.out w hb)) ?_
              refine AllStep2.step rfl rfl (step_callk (Plain.of Tryz.func29 rfl rfl) (fun w _ => Of_num 1 _ (by decide) (by decide))) ?_
              refine AllStep2.step rfl rfl (step_call2 (Plain.of Tryz.func52 rfl rfl) (fun _ _ _ _ hu hv => (Make_num hu hv (by decide) (by decide) (by decide)).mono (fun _ _ h => ansFT h))) ?_
              refine AllStep2.quiet rfl (pure_move (fun _ _ h => h)) ?_
              refine AllStep2.quiet rfl (pure_extract (fun _ _ h => IsFT.fst h)) ?_
              refine AllStep2.quiet rfl (pure_extract (fun _ _ h => IsFT.snd h)) ?_
              refine AllStep2.fresh rfl rfl (alloc_T (fun _ => run_new4) (fun _ _ h => h)) ?_
              exact AllStep2.nil
            · intro t ht v w hk
              simp only [List.mem_cons, List.not_mem_nil, or_false] at ht
              subst ht
              exact IsNew.lt (show IsNew W7.heap.size _ v w from hk)
            intro a8 w8 hb8 hs8 hd8 hk8 _
            have q3 : a8.eval (.tmp 3) = .pointer (some ⟨w.heap.size, 0, none⟩) := hk8 3 (by kernel_rfl)
            have q4 : a8.eval (.tmp 4) = .pointer (some ⟨w.heap.size + 1, 0, none⟩) := hk8 4 (by kernel_rfl)
            have q5 : a8.eval (.tmp 5) = .pointer (some ⟨w.heap.size + 1 + 1, 0, none⟩) := hk8 5 (by kernel_rfl)
            have q7 : a8.eval (.tmp 7) = .pointer (some ⟨b7, 0, none⟩) := hk8 7 (by kernel_rfl)
            have q8 : a8.eval (.tmp 8) = .int .i64 0 := hk8 8 (by kernel_rfl)
            have q9 : a8.eval (.tmp 9) = .pointer (some ⟨b9, 0, none⟩) := hk8 9 (by kernel_rfl)
            have q10 : a8.eval (.tmp 10) = .int .i64 0 := hk8 10 (by kernel_rfl)
            have q11 : a8.eval (.tmp 11) = .pointer (some ⟨b11, 0, none⟩) := hk8 11 (by kernel_rfl)
            have q12 : a8.eval (.tmp 12) = .int .i64 0 := hk8 12 (by kernel_rfl)
            obtain ⟨b13, q13, l13, m13, -⟩ : IsNew W7.heap.size nought4 (a8.eval (.tmp 13)) w8 := hk8 13 (by kernel_rfl)
            have x86 : FrOk w8 (a8.eval (.tmp 86)) (max 8 3) (Rat.divInt A 1) := hk8 86 (by kernel_rfl)
            obtain ⟨z1, y1, i1, j1, z2, y2, i2, j2, e86, -⟩ := x86.split
            have x86' : FrOk w8 (.agg #[.bool z1, .slice y1 i1 j1, .bool z2, .slice y2 i2 j2]) (max 8 3) (Rat.divInt A 1) := by rw [← e86]; exact x86
            obtain ⟨W8, eW, st, bx⟩ := m13.store (ys := [.bool z1, .slice y1 i1 j1, .bool z2, .slice y2 i2 j2]) rfl rfl
            have HV13 := (x86'.store st).keep
            have M13 := bx.keep
            have bW := st.below W7 l13 hb8
            refine wpOps_step (i := 7) (rest := [8]) rfl rfl ?_
            refine wp_store_T q13 e86 (run_store4 m13) ?_
            rw [eW]
            refine wpOps_step (i := 8) (rest := []) rfl rfl ?_
            refine wp_assign ?_
            obtain ⟨c8, hc8⟩ : ∃ c, c = a8.put (some 14) (a8.eval (.tmp 87)) := ⟨_, rfl⟩
            rw [← hc8]
            have g14 : c8.eval (.tmp 14) = .int .i64 0 := by rw [hc8, eval_put (by rw [hs8]; decide), if_pos rfl]; exact hk8 87 (by kernel_rfl)
            have g3 : c8.eval (.tmp 3) = .pointer (some ⟨w.heap.size, 0, none⟩) := by rw [hc8, eval_put' (by decide)]; exact q3
            have g4 : c8.eval (.tmp 4) = .pointer (some ⟨w.heap.size + 1, 0, none⟩) := by rw [hc8, eval_put' (by decide)]; exact q4
            have g5 : c8.eval (.tmp 5) = .pointer (some ⟨w.heap.size + 1 + 1, 0, none⟩) := by rw [hc8, eval_put' (by decide)]; exact q5
            have g7 : c8.eval (.tmp 7) = .pointer (some ⟨b7, 0, none⟩) := by rw [hc8, eval_put' (by decide)]; exact q7
            have g8 : c8.eval (.tmp 8) = .int .i64 0 := by rw [hc8, eval_put' (by decide)]; exact q8
            have g9 : c8.eval (.tmp 9) = .pointer (some ⟨b9, 0, none⟩) := by rw [hc8, eval_put' (by decide)]; exact q9
            have g10 : c8.eval (.tmp 10) = .int .i64 0 := by rw [hc8, eval_put' (by decide)]; exact q10
            have g11 : c8.eval (.tmp 11) = .pointer (some ⟨b11, 0, none⟩) := by rw [hc8, eval_put' (by decide)]; exact q11
            have g12 : c8.eval (.tmp 12) = .int .i64 0 := by rw [hc8, eval_put' (by decide)]; exact q12
            have g13 : c8.eval (.tmp 13) = .pointer (some ⟨b13, 0, none⟩) := by rw [hc8, eval_put' (by decide)]; exact q13
            have hs80 : c8.tmps.size = 132 := by rw [hc8]; simp only [Act.put, Array.size_setIfInBounds]; exact hs8
            have hd80 : c8.defers = [] := by rw [hc8]; exact hd8.trans hd70
            clear st eW bx
            have HA := (HA.out _ bW).keep
            have HB := (HB.out _ bW).keep
            have HC := (HC.out _ bW).keep
            have HV7 := (HV7.out _ bW).keep
            have HV9 := (HV9.out _ bW).keep
            have HV11 := (HV11.out _ bW).keep
            have N1 := (N1.out _ bW).keep
            have N2 := (N2.out _ bW).keep
            have N3 := (N3.out _ bW).keep
            have M7 := (M7.out _ bW).keep
            have M9 := (M9.out _ bW).keep
            have M11 := (M11.out _ bW).keep
            have RW := Lib.hid (Below.step RW.out bW)
            refine hK8 _ _ ?_
            refine wp_seq_k ?_
            intro K12 hK12
            refine wp_seq_k ?_
            intro K9 hK9
            try simp only [List.append_eq, List.cons_append, List.nil_append]
            refine wp_region_known [(89, false), (90, false), (92, false), (93, false), (94, false), (96, false), (97, false), (98, false), (100, true), (101, false), (102, false), (103, false), (108, true), (109, false), (110, false)]
              [(3, IsV (.pointer (some ⟨w.heap.size, 0, none⟩))), (4, IsV (.pointer (some ⟨(w.heap.size + 1), 0, none⟩))), (5, IsV (.pointer (some ⟨(w.heap.size + 1 + 1), 0, none⟩))), (7, IsV (.pointer (some ⟨b7, 0, none⟩))), (8, IsV (.int .i64 (0))), (9, IsV (.pointer (some ⟨b9, 0, none⟩))), (10, IsV (.int .i64 (0))), (11, IsV (.pointer (some ⟨b11, 0, none⟩))), (12, IsV (.int .i64 (0))), (13, IsV (.pointer (some ⟨b13, 0, none⟩))), (14, IsV (.int .i64 (0)))]
              [(88, IsV (.int .i64 (0))), (91, IsV (.int .i64 (0))), (95, IsV (.int .i64 (0))), (99, IsF (max 8 8) (Rat.divInt A B)), (104, IsF (max 8 8) (Rat.divInt A B)), (105, IsF (max 8 3) (Rat.divInt B 1)), (106, IsF ((max 8 8) + (max 8 3)) ((Rat.divInt A B * Rat.divInt B 1))), (107, IsF (max 8 3) (Rat.divInt A 1))]
              132 (by kernel_rfl) hs80 (by kernel_rfl) (by kernel_rfl) ⟨g3, g4, g5, g7, g8, g9, g10, g11, g12, g13, g14, trivial⟩ ⟨IsV.grows _ , IsV.grows _ , IsV.grows _ , IsV.grows _ , IsV.grows _ , IsV.grows _ , IsV.grows _ , IsV.grows _ , IsV.grows _ , IsV.grows _ , IsV.grows _ , IsV.grows _ , IsV.grows _ , IsV.grows _ , IsF.grows _ _ , IsF.grows _ _ , IsF.grows _ _ , IsF.grows _ _ , IsF.grows _ _ , trivial⟩ ?_ ?_
            · refine AllStep.cons (step_move (fun _ _ h => h)) ?_
              refine AllStep.cons (step_neE (fun _ _ h => h) (by decide) (fun _ => rfl)) ?_
              refine AllStep.cons (step_move (fun _ _ h => h)) ?_
              refine AllStep.cons (step_move (fun _ _ h => h)) ?_
              refine AllStep.cons (step_neE (fun _ _ h => h) (by decide) (fun _ => rfl)) ?_
              refine AllStep.cons (step_pickF (fun _ _ h => h) (fun _ _ h => h)) ?_
              refine AllStep.cons (step_move (fun _ _ h => h)) ?_
              refine AllStep.cons (step_move (fun _ _ h => h)) ?_
              refine AllStep.cons (step_neE (fun _ _ h => h) (by decide) (fun _ => rfl)) ?_
              refine AllStep.cons (step_pickF (fun _ _ h => h) (fun _ _ h => h)) ?_
              refine AllStep.cons (step_move (fun _ _ h => h)) ?_
              refine AllStep.cons (step_loadT (fun _ _ h => h) (fun W hb => run_load4 rfl rfl rfl (M7.out W hb).at0 (M7.out W hb).at1 (M7.out W hb).at2 (M7.out W hb).at3) (fun w hb => HV7.out w hb)) ?_
              refine AllStep.cons (step_call1 (Plain.of Tryz.func58 rfl rfl) (fun _ _ _ hu => (CheckF_ok hu (by decide)).mono (fun _ _ h => ansV h))) ?_
              refine AllStep.cons (step_not true (fun _ _ h => h) (fun _ => rfl)) ?_
              refine AllStep.cons (step_pickF (fun _ _ h => h) (fun _ _ h => h)) ?_
              refine AllStep.cons (step_move (fun _ _ h => h)) ?_
              refine AllStep.cons (step_loadT (fun _ _ h => h) (fun W hb => run_load4 rfl rfl rfl (M7.out W hb).at0 (M7.out W hb).at1 (M7.out W hb).at2 (M7.out W hb).at3) (fun w hb => HV7.out w hb)) ?_
              refine AllStep.cons (step_loadT (fun _ _ h => h) (fun W hb => run_load4 rfl rfl rfl (M11.out W hb).at0 (M11.out W hb).at1 (M11.out W hb).at2 (M11.out W hb).at3) (fun w hb => HV11.out w hb)) ?_
              refine AllStep.cons (step_call2 (Plain.of Tryz.func39 rfl rfl) (fun _ _ _ _ hu hv => MulF_at (FrOk.at hu) (FrOk.at hv) (by decide) (by decide) (by decide) (by decide))) ?_
              refine AllStep.cons (step_loadT (fun _ _ h => h) (fun W hb => run_load4 rfl rfl rfl (M13.out W hb).at0 (M13.out W hb).at1 (M13.out W hb).at2 (M13.out W hb).at3) (fun w hb => HV13.out w hb)) ?_
              refine AllStep.cons (step_call2 (Plain.of Tryz.func65 rfl rfl) (fun _ _ _ _ hu hv => (same_ok hu hv true (decide_eq_true (made_a HZB.out))).mono (fun _ _ h => ansV h))) ?_
              refine AllStep.cons (step_not true (fun _ _ h => h) (fun _ => rfl)) ?_
              refine AllStep.cons (step_pickF (fun _ _ h => h) (fun _ _ h => h)) ?_
              exact AllStep.nil
            · intro a9 w9 hb9 hs9 hd9 hk9
              have HA := (HA.out _ hb9).keep
              have HB := (HB.out _ hb9).keep
              have HC := (HC.out _ hb9).keep
              have HV7 := (HV7.out _ hb9).keep
              have HV9 := (HV9.out _ hb9).keep
              have HV11 := (HV11.out _ hb9).keep
              have HV13 := (HV13.out _ hb9).keep
              have N1 := (N1.out _ hb9).keep
              have N2 := (N2.out _ hb9).keep
              have N3 := (N3.out _ hb9).keep
              have M7 := (M7.out _ hb9).keep
              have M9 := (M9.out _ hb9).keep
              have M11 := (M11.out _ hb9).keep
              have M13 := (M13.out _ hb9).keep
              have RW := Lib.hid (Below.step RW.out hb9)
              obtain ⟨x, hx⟩ : ∃ x : Nat → Value, ∀ t, a9.eval (.tmp t) = x t := ⟨_, fun _ => rfl⟩
              have ha : a9 = ⟨#[x 0, x 1, x 2, .pointer (some ⟨w.heap.size, 0, none⟩), .pointer (some ⟨w.heap.size + 1, 0, none⟩), .pointer (some ⟨w.heap.size + 1 + 1, 0, none⟩), x 6, .pointer (some ⟨b7, 0, none⟩), .int .i64 0, .pointer (some ⟨b9, 0, none⟩), .int .i64 0, .pointer (some ⟨b11, 0, none⟩), .int .i64 0, .pointer (some ⟨b13, 0, none⟩), .int .i64 0, x 15, x 16, x 17, x 18, x 19, x 20, x 21, x 22, x 23, x 24, x 25, x 26, x 27, x 28, x 29, x 30, x 31, x 32, x 33, x 34, x 35, x 36, x 37, x 38, x 39, x 40, x 41, x 42, x 43, x 44, x 45, x 46, x 47, x 48, x 49, x 50, x 51, x 52, x 53, x 54, x 55, x 56, x 57, x 58, x 59, x 60, x 61, x 62, x 63, x 64, x 65, x 66, x 67, x 68, x 69, x 70, x 71, x 72, x 73, x 74, x 75, x 76, x 77, x 78, x 79, x 80, x 81, x 82, x 83, x 84, x 85, x 86, x 87, x 88, x 89, x 90, x 91, x 92, x 93, x 94, x 95, x 96, x 97, x 98, x 99, x 100, x 101, x 102, x 103, x 104, x 105, x 106, x 107, x 108, x 109, .bool false, x 111, x 112, x 113, x 114, x 115, x 116, x 117, x 118, x 119, x 120, x 121, x 122, x 123, x 124, x 125, x 126, x 127, x 128, x 129, x 130, x 131], []⟩ := act_eq hs9 (hd9.trans hd80) ⟨hx 0, hx 1, hx 2, hk9 3, hk9 4, hk9 5, hx 6, hk9 7, hk9 8, hk9 9, hk9 10, hk9 11, hk9 12, hk9 13, hk9 14, hx 15, hx 16, hx 17, hx 18, hx 19, hx 20, hx 21, hx 22, hx 23, hx 24, hx 25, hx 26, hx 27, hx 28, hx 29, hx 30, hx 31, hx 32, hx 33, hx 34, hx 35, hx 36, hx 37, hx 38, hx 39, hx 40, hx 41, hx 42, hx 43, hx 44, hx 45, hx 46, hx 47, hx 48, hx 49, hx 50, hx 51, hx 52, hx 53, hx 54, hx 55, hx 56, hx 57, hx 58, hx 59, hx 60, hx 61, hx 62, hx 63, hx 64, hx 65, hx 66, hx 67, hx 68, hx 69, hx 70, hx 71, hx 72, hx 73, hx 74, hx 75, hx 76, hx 77, hx 78, hx 79, hx 80, hx 81, hx 82, hx 83, hx 84, hx 85, hx 86, hx 87, hx 88, hx 89, hx 90, hx 91, hx 92, hx 93, hx 94, hx 95, hx 96, hx 97, hx 98, hx 99, hx 100, hx 101, hx 102, hx 103, hx 104, hx 105, hx 106, hx 107, hx 108, hx 109, hk9 110, hx 111, hx 112, hx 113, hx 114, hx 115, hx 116, hx 117, hx 118, hx 119, hx 120, hx 121, hx 122, hx 123, hx 124, hx 125, hx 126, hx 127, hx 128, hx 129, hx 130, hx 131, trivial⟩
              subst ha
              refine hK9 _ _ ?_
              refine wp_cond_false rfl ?_
              refine wp_skip ?_
              refine hK12 _ _ ?_
              clear hx hk9 hs9 hd9 hb9
              obtain ⟨p0, p1, -, -⟩ := (N3.out _ (Below.refl _ _)).c2
              obtain ⟨p2, p3, p4, p5⟩ := (M7.out _ (Below.refl _ _)).c4
              obtain ⟨p6, p7, p8, p9⟩ := (M9.out _ (Below.refl _ _)).c4
              clear hK3 hK4 hK5 hK7 hK8 hK9 hK12
              go_wp2_with fail
              obtain ⟨r, hr, hr0⟩ : ∃ r, cmpI C 0 = r ∧ r ≠ 0 := ⟨_, rfl, sign_ne HZC.out⟩
              have f1 : (r == 0) = false := by simp [hr0]
              have f2 : (r != 0) = true := by simp [hr0]
              have HR := Lib.hid hr
              clear hr hr0
              refine (Sign_num (HC.out _ (Below.refl _ _)).num r HR.out).mono ?_
              rintro e w10 ⟨rfl, hb10⟩
              obtain ⟨p0, p1, -, -⟩ := (N3.out _ hb10).c2
              have HC := (HC.out _ hb10).keep
              have HV7 := (HV7.out _ hb10).keep
              have HV9 := (HV9.out _ hb10).keep
              have M7 := (M7.out _ hb10).keep
              have M9 := (M9.out _ hb10).keep
              have RW := Lib.hid (Below.step RW.out hb10)
              clear hb10 p2 p3 p4 p5 p6 p7 p8 p9
              go_wp2_with fail
              refine (Sign_num (HC.out _ (Below.refl _ _)).num r HR.out).mono ?_
              rintro e w11 ⟨rfl, hb11⟩
              obtain ⟨p2, p3, p4, p5⟩ := (M7.out _ hb11).c4
              obtain ⟨p6, p7, p8, p9⟩ := (M9.out _ hb11).c4
              have B11 := Lib.hid hb11
              clear hb11 p0 p1
              go_wp2_with fail
              refine (same_ok (HV7.out _ B11.out) (HV9.out _ B11.out) true (decide_eq_true (made_b HZB.out HZC.out))).mono ?_
              rintro e w12 ⟨rfl, hb12⟩
              go_wp2_with fail
              go_ret
              exact ⟨rfl, Below.step RW.out (Below.step B11.out hb12)⟩

end Go.Proofs.YtgpoljbccimkjaaGreatDoor

namespace Go.Proofs.YtgpoljbccimkjaaGreatDoor
set_option linter.unusedSimpArgs false
set_option linter.unusedVariables false
open Go.ChangeShapes Go.WideShapes Go.ChangeAt Go.RowKit
open Go.ChangeMaps (open_string)

set_option maxRecDepth 100000 in
theorem fracsMade_contract (H : Type) (enc : TypeId × Value → H) (W : World) (base : Nat) (args : Array Value) (ds gs : List (DataW H)) (before : List MemPlace)
    (hval : ∀ (j : Nat) t v, Tryz.f11.params[j]? = some t → args[j]? = some v → Value.okWide Tryz.prog W .any base t v)
    (hW : DataW.Whole enc Tryz.prog Tryz.f11.params.toList Rows.fracsMadeSpec.vars false W args.toList ds gs before) (hL : laidMetH Tryz.prog Rows.fracsMadeRow.laid W) :
    Calls Tryz.prog 11 args W fun e W' => ∃ v, e = .returned v ∧ Rows.fracsMadeSpec.post enc Tryz.prog Tryz.f11 false true false false W args v W' := by
  have hW' := hW
  obtain ⟨p, q, hA0, hV, rfl, hfz, hnd⟩ := hW
  have hA : DataW.TrodAll enc Tryz.prog W 0 (fun _ => true) true Tryz.f11.params.toList args.toList ds p := hA0
  rw [Tryz.params11] at hA hval
  obtain ⟨v0, vs0, d0, ds0, p0, q0, hargs0, rfl, rfl, h0, r0⟩ := trodAll_cons hA
  obtain ⟨v1, vs1, d1, ds1, p1, q1, hargs1, rfl, rfl, h1, r1⟩ := trodAll_cons r0
  subst hargs1
  obtain ⟨v2, vs2, d2, ds2, p2, q2, hargs2, rfl, rfl, h2, r2⟩ := trodAll_cons r1
  subst hargs2
  obtain ⟨rfl, rfl, rfl⟩ := trodAll_nil r2
  obtain rfl : args = #[v0, v1, v2] := by cases args; simp_all
  obtain ⟨rfl, rfl⟩ := trodVars_none hV
  obtain ⟨s0, x0, l0, rfl, hl0⟩ := open_num (hval 0 _ v0 rfl rfl) h0
  obtain ⟨s1, x1, l1, rfl, hl1⟩ := open_num (hval 1 _ v1 rfl rfl) h1
  obtain ⟨s2, x2, l2, rfl, hl2⟩ := open_num (hval 2 _ v2 rfl rfl) h2
  refine (FracsMade_true W s0 x0 l0 hl0 s1 x1 l1 hl1 s2 x2 l2 hl2 (tab_of hL)).mono fun e W' ⟨he, hg⟩ => ?_
  subst he
  refine ⟨_, rfl, law_post rfl (by kernel_rfl) (by kernel_rfl) hW' rfl rfl rfl hg⟩

theorem fracsMade_met (os : Os) : laidMet Tryz.prog Rows.fracsMadeRow.laid ((laidWorld os).forCall (fun _ _ => 0) ⟨#[], #[.agg #[.bool false, .slice none 0 0], .agg #[.bool false, .slice none 0 0], .agg #[.bool false, .slice none 0 0]], []⟩).memory :=
  laidMet_of_run' 8 (by kernel_rfl) (by kernel_rfl)
theorem fracsMade_reads (os : Os) {H : Type} (enc : TypeId × Value → H) : ∃ places, DataW.whole enc Tryz.prog ((laidWorld os).forCall (fun _ _ => 0) ⟨#[], #[.agg #[.bool false, .slice none 0 0], .agg #[.bool false, .slice none 0 0], .agg #[.bool false, .slice none 0 0]], []⟩).memory Tryz.f11.params.toList Rows.fracsMadeSpec.vars false (#[.agg #[.bool false, .slice none 0 0], .agg #[.bool false, .slice none 0 0], .agg #[.bool false, .slice none 0 0]] : Array Value).toList 8 = some ([.agg [.lit (.bool false), .nil], .agg [.lit (.bool false), .nil], .agg [.lit (.bool false), .nil]], [], places) :=
  ⟨[], by kernel_rfl⟩

set_option maxRecDepth 100000 in
theorem fracsMade_lifted (os : Os) (started : os.Started) (H : Type) (enc : TypeId × Value → H) (F : Stop.Interp) :
    ReturnsInHanded {} Tryz.checked os 11 .any ((OpenSpec.ofChange Rows.fracsMadeSpec).preRow enc Tryz.prog Tryz.f11 Rows.fracsMadeRow.domain false Rows.fracsMadeRow.laid) (((OpenSpec.ofChange Rows.fracsMadeSpec).at F).post enc Tryz.prog Tryz.f11 false true false false) := by
  obtain ⟨places, hx⟩ := fracsMade_reads os enc
  refine returnsInHanded_of_row (C := Tryz.checked) (s := OpenSpec.ofChange Rows.fracsMadeSpec) own_knob started (by kernel_rfl) Tryz.func11
    (witness_row_at (enc := enc) (C := Tryz.checked) false (laidWorld os) #[.agg #[.bool false, .slice none 0 0], .agg #[.bool false, .slice none 0 0], .agg #[.bool false, .slice none 0 0]] rfl (by kernel_rfl) (by kernel_rfl) (by kernel_rfl)
      (OpenSpec.preRow_of_cond 8 hx (by kernel_rfl) (fun k hk => by cases hk) (by kernel_rfl) (fracsMade_met os))) ?_
  intro W base args ds gs before hval hW _ _ _ hL _ _
  exact fracsMade_contract H enc W base args ds gs before hval hW hL

theorem fracsMade_said : Rows.FracsMadeSaid :=
  OpenClaim.holds_of_cond 11 Tryz.f11 rfl rfl rfl rfl rfl rfl rfl ⟨rfl, rfl, rfl, rfl, rfl⟩ rfl rfl rfl rfl rfl (by kernel_rfl) Tryz.func11 (by kernel_rfl)
    (of_decide_eq_true (by kernel_rfl)) (by unfold Func.isWrapper; first | (rw [if_pos (by decide +kernel)]; kernel_rfl) | (rw [if_neg (by decide +kernel)]; exact ⟨rfl, rfl⟩))
    (fun os started H enc _ F => by rw [OpenClaim.pre_eq_preRow]; exact fracsMade_lifted os started H enc F)

theorem fracsMade_plain (f : FuncId) (fn : Func) (hf : Tryz.pinned.checked.prog.funcNamed Rows.fracsMadeRow.func = some f) (hfn : Tryz.pinned.checked.prog.funcs[f]? = some fn) :
    false = Tryz.pinned.checked.prog.looks [] ∧ ∀ (j : Nat) t, fn.params[j]? = some t → Tryz.pinned.checked.prog.wantsStandIn t = false := by
  obtain rfl : f = 11 := Option.some.inj ((show Tryz.prog.funcNamed Rows.fracsMadeRow.func = some 11 by kernel_rfl).symm.trans hf) |>.symm
  obtain rfl : fn = Tryz.f11 := (Option.some.inj (Tryz.func11.symm.trans hfn)).symm
  refine ⟨by kernel_rfl, fun j t ht => ?_⟩
  rw [Tryz.params11] at ht
  have hall : ∀ u ∈ [24, 24, 24], Tryz.prog.wantsStandIn u = false := by decide +kernel
  exact hall t (by simpa using Array.mem_of_getElem? ht)

theorem fracsMade_card : Rows.FracsMadeCardSaid :=
  Claim7.holds_tied_plain_at .later [] _ _ _ _ fracsMade_said (fun _ h => by cases h) (by kernel_rfl) (fun _ h => by cases h) fracsMade_row_tie rfl ⟨rfl, rfl⟩ (by kernel_rfl) rfl fracsMade_plain (by kernel_rfl)
end Go.Proofs.YtgpoljbccimkjaaGreatDoor
