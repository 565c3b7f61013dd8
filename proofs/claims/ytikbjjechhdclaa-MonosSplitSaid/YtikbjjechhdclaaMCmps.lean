/- Walks: which of two products is greater, by each order. -/
import Derived.Test.YtikbjjechhdclaaMOrd
namespace Go.Proofs.Ytikbjjechhdclaa
open Go.RowKit

/-- By the order o the greater one has the greater key. -/
def keyM (o : Int) (x : M4) : Int := if o = 1 then (degM x : Int) * 18446744073709551616 + keyL x else if o = 2 then (degM x : Int) * 18446744073709551616 - keyR x else keyL x
theorem keyM_one (x : M4) : keyM 1 x = (degM x : Int) * 18446744073709551616 + keyL x := rfl
theorem keyM_two (x : M4) : keyM 2 x = (degM x : Int) * 18446744073709551616 - keyR x := rfl
theorem keyM_else {o : Int} (h1 : o ≠ 1) (h2 : o ≠ 2) (x : M4) : keyM o x = keyL x := by unfold keyM; rw [if_neg h1, if_neg h2]
theorem keyL_lt {x : M4} (h : OkM x) : keyL x < 18446744073709551616 := by obtain ⟨h1, h2, h3, h4⟩ := h; unfold keyL; omega
theorem keyR_lt {x : M4} (h : OkM x) : keyR x < 18446744073709551616 := by obtain ⟨h1, h2, h3, h4⟩ := h; unfold keyR; omega
theorem orI_sgn {p q : Int} (h : -18446744073709551616 < q) (h' : q < 18446744073709551616) : orI (sgn p) (sgn q) = sgn (p * 18446744073709551616 + q) := by
  unfold orI
  rcases Int.lt_trichotomy p 0 with h0 | h0 | h0
  · rw [sgn_neg h0, if_neg (by decide), sgn_neg (by omega)]
  · subst h0
    rw [sgn_zero, if_pos rfl]
    congr 1
    omega
  · rw [sgn_pos h0, if_neg (by decide), sgn_pos (by omega)]

def IsR2 (x y : Int) (v : Value) (w : World) : Prop := ∃ b, v = .slice (some ⟨b, 0, none⟩) 2 2 ∧ w.cell? ⟨b, 0, none⟩ = some (.int .i64 x) ∧ w.cell? ⟨b, 1, none⟩ = some (.int .i64 y)
theorem IsR2.grows (x y : Int) : Grows (IsR2 x y) := fun _ w _ h hb => by
  obtain ⟨b, h1, h2, h3⟩ := h
  exact ⟨b, h1, (hb.cell (p := ⟨b, 0, none⟩) (World.block_lt_of_cell? w _ h2)).trans h2, (hb.cell (p := ⟨b, 1, none⟩) (World.block_lt_of_cell? w _ h3)).trans h3⟩
section
variable {bs : List (Nat × Bool)} {fs : List (Nat × (Value → World → Prop))} {w0 : World} {d : Nat} {ty : TypeId} {pos : String} {af : Array Edge} {g : Option (Nat × Bool)}
set_option maxRecDepth 100000 in
theorem step_row2 {t u : Nat} {x y : Int} (hx : ∀ v w, Known bs fs t v w → v = .int .i64 x) (hy : ∀ v w, Known bs fs u v w → v = .int .i64 y) (h : ∀ v w, IsR2 x y v w → Known bs fs d v w) : StepOk Try.prog bs fs w0 ⟨some d, .buildSlice 49 2 #[(0, .tmp t), (1, .tmp u)], ty, pos, af, g⟩ :=
  step_value rfl fun a w hb hk => ⟨.slice (some ⟨w.heap.size, 0, none⟩) 2 2, w.alloc (.cells #[.int .i64 x, .int .i64 y] 3), by
    have h1 := hx _ _ (hk t (by simp [looks, Op.operands]))
    have h2 := hy _ _ (hk u (by simp [looks, Op.operands]))
    simp only [execOp, List.map_toArray, List.map_cons, List.map_nil, h1, h2]
    go_simp, h _ _ ⟨_, rfl, by go_simp, by go_simp⟩, (Below.refl _ _).alloc (Nat.le_refl _) _⟩
set_option maxRecDepth 100000 in
theorem step_or {f : FuncId} (hp : Plain f) {t : Nat} {x y : Int} {ts : Array TypeId} (hx : ∀ v w, Known bs fs t v w → IsR2 x y v w) (hd : ∀ w, Known bs fs d (.int .i64 (orI x y)) w) (hf : f = 29 := by rfl) : StepOk Try.prog bs fs w0 ⟨some d, .call { callee := .value (.func f), args := #[.tmp t], argTypes := ts }, ty, pos, af, g⟩ :=
  step_enter (f := f) rfl (fun a => #[a.eval (.tmp t)]) (fun a w => by rw [exec_call hp a]; simp) fun a w hb hk => by
    obtain ⟨b, e, h1, h2⟩ := hx _ _ (hk t (by simp [looks, Op.operands, Call.operands]))
    rw [e, hf]
    exact (still (Or_two h1 h2)).mono fun _ w' h => ⟨⟨_, h.1, hd w'⟩, h.2⟩
end

set_option maxRecDepth 100000 in
set_option maxHeartbeats 400000 in
theorem order_one {x y : M4} (hx : OkM x) (hy : OkM y) (w : World) : Calls Try.prog 28 #[mv x, mv y] w fun e w' => e = .returned (.int .i64 (sgn (keyM 1 x - keyM 1 y))) ∧ Below w.heap.size w w' := by
  have HX := Lib.hid hx
  have HY := Lib.hid hy
  clear hx hy
  obtain ⟨W0, e0, n1, n2, hb0, hs0⟩ := box_2 w x y
  have HB0 := Lib.hid hb0
  have N1 := n1.keep
  have N2 := n2.keep
  clear n1 n2 hb0
  unfold mv
  go_enter Try.func28, Try.ntmps28
  go_upto_region 1 with fail
  clear e0
  rename_i K1 hK1
  refine wp_region_knownC [] []
    [(2, IsV (.pointer (some ⟨w.heap.size, 0, none⟩))), (3, IsV (.pointer (some ⟨(w.heap.size + 1), 0, none⟩)))]
    [(5, IsV (mv (x))), (6, IsV (mv (y))), (7, IsV (.int .i64 (sgn ((degM (x) : Int) - (degM (y) : Int))))), (8, IsV (mv (x))), (9, IsV (mv (y))), (10, IsV (.int .i64 (sgn ((keyL (x) : Int) - (keyL (y) : Int))))), (11, IsR2 (sgn ((degM (x) : Int) - (degM (y) : Int))) (sgn ((keyL (x) : Int) - (keyL (y) : Int)))), (12, IsV (.int .i64 (orI (sgn ((degM (x) : Int) - (degM (y) : Int))) (sgn ((keyL (x) : Int) - (keyL (y) : Int)))))), (4, IsV (.int .i64 (orI (sgn ((degM (x) : Int) - (degM (y) : Int))) (sgn ((keyL (x) : Int) - (keyL (y) : Int))))))]
    13 (by kernel_rfl) rfl (by kernel_rfl) (by kernel_rfl) ⟨rfl, rfl, trivial⟩ ⟨IsV.grows _, IsV.grows _, IsV.grows _, IsV.grows _, IsV.grows _, IsV.grows _, IsV.grows _, IsV.grows _, IsR2.grows _ _, IsV.grows _, IsV.grows _, trivial⟩ (fun t ht => by cases ht) ?_ ?_
  · refine AllStepC.step rfl (step_loadM (o := 0) (fun _ _ h => h) (fun W hb => (N1.out W hb).c4) (fun _ => rfl)) ?_
    refine AllStepC.step rfl (step_loadM (o := 0) (fun _ _ h => h) (fun W hb => (N2.out W hb).c4) (fun _ => rfl)) ?_
    refine AllStepC.step rfl (step_call2 (Plain.of Try.func30 rfl rfl) (fun _ _ h => h) (fun _ _ h => h) (fun w => byDegree_any HX.out HY.out w) (fun _ => rfl)) ?_
    refine AllStepC.step rfl (step_loadM (o := 0) (fun _ _ h => h) (fun W hb => (N1.out W hb).c4) (fun _ => rfl)) ?_
    refine AllStepC.step rfl (step_loadM (o := 0) (fun _ _ h => h) (fun W hb => (N2.out W hb).c4) (fun _ => rfl)) ?_
    refine AllStepC.step rfl (step_call2 (Plain.of Try.func27 rfl rfl) (fun _ _ h => h) (fun _ _ h => h) (fun w => byFirst_any HX.out HY.out w) (fun _ => rfl)) ?_
    refine AllStepC.step rfl (step_row2 (fun _ _ h => h) (fun _ _ h => h) (fun _ _ h => h)) ?_
    refine AllStepC.step rfl (step_or (Plain.of Try.func29 rfl rfl) (fun _ _ h => h) (fun _ => rfl)) ?_
    refine AllStepC.step rfl (step_assign (fun _ _ h => h)) ?_
    exact AllStepC.nil
  intro a1 w1 hb1 hs1 hd1 hk1
  refine hK1 _ _ ?_
  refine wp_ret ?_
  refine ret_slot (t := 4) rfl hd1 (hk1 4) ⟨?_, Below.step HB0.out hb1⟩
  rw [orI_sgn (by have := keyL_lt HX.out; have := keyL_lt HY.out; omega) (by have := keyL_lt HX.out; have := keyL_lt HY.out; omega), keyM_one, keyM_one]
  refine ret_int ?_
  congr 1
  omega

set_option maxRecDepth 100000 in
set_option maxHeartbeats 400000 in
theorem order_two {x y : M4} (hx : OkM x) (hy : OkM y) (w : World) : Calls Try.prog 31 #[mv x, mv y] w fun e w' => e = .returned (.int .i64 (sgn (keyM 2 x - keyM 2 y))) ∧ Below w.heap.size w w' := by
  have HX := Lib.hid hx
  have HY := Lib.hid hy
  clear hx hy
  obtain ⟨W0, e0, n1, n2, hb0, hs0⟩ := box_2 w x y
  have HB0 := Lib.hid hb0
  have N1 := n1.keep
  have N2 := n2.keep
  clear n1 n2 hb0
  unfold mv
  go_enter Try.func31, Try.ntmps31
  go_upto_region 1 with fail
  clear e0
  rename_i K1 hK1
  refine wp_region_knownC [] []
    [(2, IsV (.pointer (some ⟨w.heap.size, 0, none⟩))), (3, IsV (.pointer (some ⟨(w.heap.size + 1), 0, none⟩)))]
    [(5, IsV (mv (x))), (6, IsV (mv (y))), (7, IsV (.int .i64 (sgn ((degM (x) : Int) - (degM (y) : Int))))), (8, IsV (mv (x))), (9, IsV (mv (y))), (10, IsV (.int .i64 (sgn ((keyR (y) : Int) - (keyR (x) : Int))))), (11, IsR2 (sgn ((degM (x) : Int) - (degM (y) : Int))) (sgn ((keyR (y) : Int) - (keyR (x) : Int)))), (12, IsV (.int .i64 (orI (sgn ((degM (x) : Int) - (degM (y) : Int))) (sgn ((keyR (y) : Int) - (keyR (x) : Int)))))), (4, IsV (.int .i64 (orI (sgn ((degM (x) : Int) - (degM (y) : Int))) (sgn ((keyR (y) : Int) - (keyR (x) : Int))))))]
    13 (by kernel_rfl) rfl (by kernel_rfl) (by kernel_rfl) ⟨rfl, rfl, trivial⟩ ⟨IsV.grows _, IsV.grows _, IsV.grows _, IsV.grows _, IsV.grows _, IsV.grows _, IsV.grows _, IsV.grows _, IsR2.grows _ _, IsV.grows _, IsV.grows _, trivial⟩ (fun t ht => by cases ht) ?_ ?_
  · refine AllStepC.step rfl (step_loadM (o := 0) (fun _ _ h => h) (fun W hb => (N1.out W hb).c4) (fun _ => rfl)) ?_
    refine AllStepC.step rfl (step_loadM (o := 0) (fun _ _ h => h) (fun W hb => (N2.out W hb).c4) (fun _ => rfl)) ?_
    refine AllStepC.step rfl (step_call2 (Plain.of Try.func30 rfl rfl) (fun _ _ h => h) (fun _ _ h => h) (fun w => byDegree_any HX.out HY.out w) (fun _ => rfl)) ?_
    refine AllStepC.step rfl (step_loadM (o := 0) (fun _ _ h => h) (fun W hb => (N1.out W hb).c4) (fun _ => rfl)) ?_
    refine AllStepC.step rfl (step_loadM (o := 0) (fun _ _ h => h) (fun W hb => (N2.out W hb).c4) (fun _ => rfl)) ?_
    refine AllStepC.step rfl (step_call2 (Plain.of Try.func32 rfl rfl) (fun _ _ h => h) (fun _ _ h => h) (fun w => byLast_any HX.out HY.out w) (fun _ => rfl)) ?_
    refine AllStepC.step rfl (step_row2 (fun _ _ h => h) (fun _ _ h => h) (fun _ _ h => h)) ?_
    refine AllStepC.step rfl (step_or (Plain.of Try.func29 rfl rfl) (fun _ _ h => h) (fun _ => rfl)) ?_
    refine AllStepC.step rfl (step_assign (fun _ _ h => h)) ?_
    exact AllStepC.nil
  intro a1 w1 hb1 hs1 hd1 hk1
  refine hK1 _ _ ?_
  refine wp_ret ?_
  refine ret_slot (t := 4) rfl hd1 (hk1 4) ⟨?_, Below.step HB0.out hb1⟩
  rw [orI_sgn (by have := keyR_lt HX.out; have := keyR_lt HY.out; omega) (by have := keyR_lt HX.out; have := keyR_lt HY.out; omega), keyM_two, keyM_two]
  refine ret_int ?_
  congr 1
  omega

set_option maxRecDepth 100000 in
set_option maxHeartbeats 1000000 in
theorem Cmp_any {o : Int} (h0 : 0 ≤ o) (h1 : o ≤ 255) {x y : M4} (hx : OkM x) (hy : OkM y) (w : World) : Calls Try.prog 19 #[.int .u8 o, mv x, mv y] w fun e w' => e = .returned (.int .i64 (sgn (keyM o x - keyM o y))) ∧ Below w.heap.size w w' := by
  have HX := Lib.hid hx
  have HY := Lib.hid hy
  have HO := Lib.hid (And.intro h0 h1)
  clear hx hy h0 h1
  obtain ⟨W0, e0, n1, n2, hb0, hs0⟩ := box_2 w x y
  have HB0 := Lib.hid hb0
  have N1 := n1.keep
  have N2 := n2.keep
  have p := n1.c4
  have q := n2.c4
  clear n1 n2 hb0
  by_cases h : o = 0
  · subst h
    rw [keyM_else (by decide) (by decide), keyM_else (by decide) (by decide)]
    unfold mv
    go_enter Try.func19, Try.ntmps19
    go_wp2_with fail
    clear e0
    refine (byFirst_any HX.out HY.out _).mono ?_
    rintro e w1 ⟨rfl, hb⟩
    have HB := Lib.hid (Below.step HB0.out hb)
    clear hb p q
    go_wp2_with fail
    go_ret
    exact ⟨rfl, HB.out⟩
  · have hne : (o != 0) = true := by simpa using h
    have HH : Hid (¬ o = 0) := h
    clear h
    unfold mv
    go_enter Try.func19, Try.ntmps19
    go_wp2_with fail
    clear e0
    refine (orders_any _).mono ?_
    rintro e w1 ⟨rfl, hm, hb⟩
    rw [hs0] at hm
    have HM := Lib.hid hm
    have HB := Lib.hid (Below.step HB0.out hb)
    have p := (N1.out _ hb).c4
    have q := (N2.out _ hb).c4
    clear hb hm
    by_cases h1 : o = 1
    · subst h1
      have hl : (Instr.lookup TM (.map (some (w.heap.size + 1 + 1))) (.int .u8 1) true).run Try.prog w1 = .ok (.tuple #[.func (.func 28) #[] #[], .bool true]) w1 := by
        have := look_order HM.out 1
        simpa using this
      go_wp2_with fail
      refine (order_one HX.out HY.out _).mono ?_
      rintro e w2 ⟨rfl, hb⟩
      have HB := Lib.hid (Below.step HB.out hb)
      clear hb p q
      go_wp2_with fail
      go_ret
      exact ⟨rfl, HB.out⟩
    by_cases h2 : o = 2
    · subst h2
      have hl : (Instr.lookup TM (.map (some (w.heap.size + 1 + 1))) (.int .u8 2) true).run Try.prog w1 = .ok (.tuple #[.func (.func 31) #[] #[], .bool true]) w1 := by
        have := look_order HM.out 2
        simpa using this
      go_wp2_with fail
      refine (order_two HX.out HY.out _).mono ?_
      rintro e w2 ⟨rfl, hb⟩
      have HB := Lib.hid (Below.step HB.out hb)
      clear hb p q
      go_wp2_with fail
      go_ret
      exact ⟨rfl, HB.out⟩
    · have hl : (Instr.lookup TM (.map (some (w.heap.size + 1 + 1))) (.int .u8 o) true).run Try.prog w1 = .ok (.tuple #[.nilFunc, .bool false]) w1 := by
        have h3 := look_order HM.out o
        rw [if_neg HH.out, if_neg h1, if_neg h2, decide_eq_false (by have := HH.out; omega)] at h3
        exact h3
      have H1 : Hid (¬ o = 1) := h1
      have H2 : Hid (¬ o = 2) := h2
      clear h1 h2
      go_wp2_with fail
      refine (byFirst_any HX.out HY.out _).mono ?_
      rintro e w2 ⟨rfl, hb⟩
      have HB := Lib.hid (Below.step HB.out hb)
      clear hb p q
      go_wp2_with fail
      go_ret
      exact ⟨by rw [keyM_else H1.out H2.out, keyM_else H1.out H2.out]; rfl, HB.out⟩

end Go.Proofs.Ytikbjjechhdclaa
