/- Walk: the law MonosOrders. -/
import Derived.Test.YtikbjjechhdclaaMRefCmp
namespace Go.Proofs.Ytikbjjechhdclaa
open Go.RowKit

set_option maxRecDepth 100000 in
set_option maxHeartbeats 2000000 in
theorem MonosOrders_true (w : World) (o : Int) (ho : 0 ≤ o ∧ o ≤ 255) (x : M4) (hx : OkM x) (y : M4) (hy : OkM y) : Calls Try.prog 4 #[.int .u8 o, mv x, mv y] w fun e w' => e = .returned (.bool true) ∧ Below w.heap.size w w' := by
  have HO := Lib.hid ho
  clear ho
  have HX := Lib.hid hx
  have HY := Lib.hid hy
  clear hx hy
  obtain ⟨W0, e0, n1, n2, hb0, hs0⟩ := box_2 w x y
  have HB0 := Lib.hid hb0
  have N1 := n1.keep
  have N2 := n2.keep
  have c1 := n1.c4
  have c2 := n2.c4
  clear n1 n2 hb0 hs0
  unfold mv
  go_enter Try.func4, Try.ntmps4
  go_upto_region 1 with fail
  clear e0 c1 c2
  rename_i K1 hK1
  refine wp_region_knownC [(6, true), (15, true)] []
    [(0, IsV (.int .u8 (o))), (4, IsV (.pointer (some ⟨w.heap.size, 0, none⟩))), (5, IsV (.pointer (some ⟨(w.heap.size + 1), 0, none⟩)))]
    [(7, IsV (.int .u8 (o))), (8, IsV (mv (x))), (9, IsV (mv (y))), (10, IsV (.int .i64 (sgn (keyM o (x) - keyM o (y))))), (11, IsV (.int .u8 (o))), (12, IsV (mv (x))), (13, IsV (mv (y))), (14, IsV (.int .i64 (sgn (keyM o (x) - keyM o (y)))))]
    16 (by kernel_rfl) rfl (by kernel_rfl) (by kernel_rfl) ⟨rfl, rfl, rfl, trivial⟩ ⟨IsV.grows _, IsV.grows _, IsV.grows _, IsV.grows _, IsV.grows _, IsV.grows _, IsV.grows _, IsV.grows _, IsV.grows _, IsV.grows _, IsV.grows _, trivial⟩ (fun t ht => by cases ht) ?_ ?_
  · refine AllStepC.step rfl (step_move (fun _ _ h => h)) ?_
    refine AllStepC.step rfl (step_loadM (o := 0) (fun _ _ h => h) (fun W hb => (N1.out W hb).c4) (fun _ => rfl)) ?_
    refine AllStepC.step rfl (step_loadM (o := 0) (fun _ _ h => h) (fun W hb => (N2.out W hb).c4) (fun _ => rfl)) ?_
    refine AllStepC.step rfl (step_call3 (Plain.of Try.func19 rfl rfl) (fun _ _ h => h) (fun _ _ h => h) (fun _ _ h => h) (fun w => Cmp_any HO.out.1 HO.out.2 HX.out HY.out w) (fun _ => rfl)) ?_
    refine AllStepC.step rfl (step_move (fun _ _ h => h)) ?_
    refine AllStepC.step rfl (step_loadM (o := 0) (fun _ _ h => h) (fun W hb => (N1.out W hb).c4) (fun _ => rfl)) ?_
    refine AllStepC.step rfl (step_loadM (o := 0) (fun _ _ h => h) (fun W hb => (N2.out W hb).c4) (fun _ => rfl)) ?_
    refine AllStepC.step rfl (step_call3 (Plain.of Try.func20 rfl rfl) (fun _ _ h => h) (fun _ _ h => h) (fun _ _ h => h) (fun w => rCmp_any HO.out.1 HO.out.2 HX.out HY.out w) (fun _ => rfl)) ?_
    refine AllStepC.step rfl (step_eqI (fun _ _ h => h) (fun _ _ h => h) (by simp) (fun _ => rfl)) ?_
    refine AllStepC.step rfl (step_assign (fun _ _ h => h)) ?_
    exact AllStepC.nil
  intro a1 w1 hb1 hs1 hd1 hk1
  refine hK1 _ _ ?_
  refine wp_ret ?_
  exact ret_slot (t := 6) rfl hd1 (hk1 6) ⟨rfl, Below.step HB0.out hb1⟩

end Go.Proofs.Ytikbjjechhdclaa
