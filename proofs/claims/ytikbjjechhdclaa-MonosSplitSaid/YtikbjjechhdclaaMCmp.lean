/- Walks: the orders. -/
import Derived.Test.YtikbjjechhdclaaMSteps
import Derived.Deep.DeepCutAuto
namespace Go.Proofs.Ytikbjjechhdclaa
open Go.RowKit

theorem still {P : Program} {f : FuncId} {args : Array Value} {w : World} {v : Value} (h : Calls P f args w fun e w' => e = .returned v ∧ w = w') : Calls P f args w fun e w' => e = .returned v ∧ Below w.heap.size w w' := h.mono fun _ _ h => ⟨h.1, h.2 ▸ Below.refl _ _⟩

set_option maxRecDepth 100000 in
set_option maxHeartbeats 400000 in
theorem byDegree_any {x y : M4} (hx : OkM x) (hy : OkM y) (w : World) : Calls Try.prog 30 #[mv x, mv y] w fun e w' => e = .returned (.int .i64 (sgn ((degM x : Int) - (degM y : Int)))) ∧ Below w.heap.size w w' := by
  have HX := Lib.hid hx
  have HY := Lib.hid hy
  clear hx hy
  obtain ⟨W0, e0, n1, n2, hb0, hs0⟩ := box_2 w x y
  have HB0 := Lib.hid hb0
  have N1 := n1.keep
  have N2 := n2.keep
  clear n1 n2 hb0
  unfold mv
  go_enter Try.func30, Try.ntmps30
  go_upto_region 1 with fail
  clear e0
  rename_i K1 hK1
  refine wp_region_knownC [] []
    [(2, IsV (.pointer (some ⟨w.heap.size, 0, none⟩))), (3, IsV (.pointer (some ⟨(w.heap.size + 1), 0, none⟩)))]
    [(5, IsV (mv (x))), (6, IsV (.int .i64 ((degM (x) : Int)))), (7, IsV (mv (y))), (8, IsV (.int .i64 ((degM (y) : Int)))), (9, IsV (.int .i64 (sgn (((degM (x) : Int)) - ((degM (y) : Int)))))), (4, IsV (.int .i64 (sgn (((degM (x) : Int)) - ((degM (y) : Int))))))]
    10 (by kernel_rfl) rfl (by kernel_rfl) (by kernel_rfl) ⟨rfl, rfl, trivial⟩ ⟨IsV.grows _, IsV.grows _, IsV.grows _, IsV.grows _, IsV.grows _, IsV.grows _, IsV.grows _, IsV.grows _, trivial⟩ (fun t ht => by cases ht) ?_ ?_
  · refine AllStepC.step rfl (step_loadM (o := 0) (fun _ _ h => h) (fun W hb => (N1.out W hb).c4) (fun _ => rfl)) ?_
    refine AllStepC.step rfl (step_call1 (Plain.of Try.func17 rfl rfl) (fun _ _ h => h) (fun w => Degree_any HX.out w) (fun _ => rfl)) ?_
    refine AllStepC.step rfl (step_loadM (o := 0) (fun _ _ h => h) (fun W hb => (N2.out W hb).c4) (fun _ => rfl)) ?_
    refine AllStepC.step rfl (step_call1 (Plain.of Try.func17 rfl rfl) (fun _ _ h => h) (fun w => Degree_any HY.out w) (fun _ => rfl)) ?_
    refine AllStepC.step rfl (step_call2 (Plain.of Try.func34 rfl rfl) (fun _ _ h => h) (fun _ _ h => h) (fun w => still (compare_int _ _ w)) (fun _ => rfl)) ?_
    refine AllStepC.step rfl (step_assign (fun _ _ h => h)) ?_
    exact AllStepC.nil
  intro a1 w1 hb1 hs1 hd1 hk1
  refine hK1 _ _ ?_
  refine wp_ret ?_
  exact ret_slot (t := 4) rfl hd1 (hk1 4) ⟨rfl, Below.step HB0.out hb1⟩

end Go.Proofs.Ytikbjjechhdclaa
