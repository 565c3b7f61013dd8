/- Walks of the reference: which of two products is greater, by each order. -/
import Derived.Test.YtikbjjechhdclaaMRef
import Derived.Test.YtikbjjechhdclaaMSteps2
import Derived.Test.YtikbjjechhdclaaFacts2
namespace Go.Proofs.Ytikbjjechhdclaa
open Go.RowKit

theorem sgn_min_max (n : Int) : min 1 (max (-1) n) = sgn n := by unfold sgn; split <;> (try split) <;> omega

set_option maxRecDepth 100000 in
set_option maxHeartbeats 1000000 in
theorem rCmp_else {o : Int} (h0 : o ≠ 1) (h1 : o ≠ 2) {x y : M4} (hx : OkM x) (hy : OkM y) (w : World) : Calls Try.prog 20 #[.int .u8 o, mv x, mv y] w fun e w' => e = .returned (.int .i64 (sgn (keyM o x - keyM o y))) ∧ Below w.heap.size w w' := by
  rw [keyM_else h0 h1, keyM_else h0 h1]
  have HX := Lib.hid hx
  have HY := Lib.hid hy
  have b1 : (o == 1) = false := by simpa using h0
  have b2 : (o == 2) = false := by simpa using h1
  clear hx hy h0 h1
  obtain ⟨W0, e0, n1, n2, hb0, hs0⟩ := box_2 w x y
  have HB0 := Lib.hid hb0
  have N1 := n1.keep
  have N2 := n2.keep
  clear n1 n2 hb0
  unfold mv
  go_enter Try.func20, Try.ntmps20
  go_wp2_with fail
  clear e0
  have HB1 := Lib.hid (Below.refl W0.heap.size W0)
  go_loopw [9] (fun i wr => ((i = .int .i64 0 ∧ Hid (True)) ∨ (i = .int .i64 1 ∧ Hid (x.a = y.a ∧ True)) ∨ (i = .int .i64 2 ∧ Hid (x.a = y.a ∧ x.b = y.b ∧ True)) ∨ (i = .int .i64 3 ∧ Hid (x.a = y.a ∧ x.b = y.b ∧ x.c = y.c ∧ True)) ∨ (i = .int .i64 4 ∧ Hid (x.a = y.a ∧ x.b = y.b ∧ x.c = y.c ∧ x.d = y.d ∧ True))) ∧ Hid (Below W0.heap.size W0 wr)) (fun i _ => 4 - (intOf i).toNat)
  case atStart => exact ⟨.inl ⟨rfl, trivial⟩, HB1⟩
  case round =>
    obtain ⟨hr, hb⟩ := hrel
    have p := (N1.out _ hb.out).c4
    have q := (N2.out _ hb.out).c4
    rcases hr with ⟨rfl, hq⟩ | ⟨rfl, hq⟩ | ⟨rfl, hq⟩ | ⟨rfl, hq⟩ | ⟨rfl, hq⟩
    · have HP := Lib.hid p
      have HQ := Lib.hid q
      have p := p.1
      have q := q.1
      by_cases h : x.a = y.a
      · have hn : ((x.a : Int) != (y.a : Int)) = false := by rw [h]; simp
        have HE : Hid (x.a = y.a) := h
        clear h
        go_wp2_with fail
        go_quiet (fail)
        go_wp2_with fail
        have hd : Below W0.heap.size W0 (wr.drewN nq) := (hb.out.trans (by exact ((by repeat (first | exact Below.refl _ _ | with_reducible refine Below.drew ?_ | with_reducible refine below_drewN ?_ _ | with_reducible refine Below.setCell ?_ (by first | (simp; done) | (simp; omega) | omega) _ | with_reducible refine Below.alloc ?_ (by first | (simp; done) | (simp; omega) | omega) _)) : Below wr.heap.size wr (wr.drewN nq)).mono hb.out.size))
        exact ⟨⟨.inr <| .inl ⟨by go_num, ⟨HE.out, trivial⟩⟩, Lib.hid hd⟩, by simp [intOf]⟩
      · have hn : ((x.a : Int) != (y.a : Int)) = true := by simp; omega
        have HE : Hid (¬ x.a = y.a) := h
        have xw := IntWalk.i64_in (x.a : Int) (by obtain ⟨h1, h2, h3, h4⟩ := HX.out; omega)
        have yw := IntWalk.i64_in (y.a : Int) (by obtain ⟨h1, h2, h3, h4⟩ := HY.out; omega)
        have zw := IntWalk.i64_in ((x.a : Int) - y.a) (by obtain ⟨h1, h2, h3, h4⟩ := HX.out; obtain ⟨g1, g2, g3, g4⟩ := HY.out; omega)
        clear h
        go_wp2_with fail
        go_quiet (fail)
        go_wp2_with fail
        have hcase : ((x.a : Int) - y.a < 0) ∨ (0 < (x.a : Int) - y.a) := by have := HE.out; omega
        rcases hcase with hc | hc
        · have HC := Lib.hid hc
          have g1 : decide (-1 < (x.a : Int) - y.a) = false := decide_eq_false (by omega)
          have g2 : ¬ (-1 < (x.a : Int) - y.a) := by omega
          clear hc
          go_quiet (fail)
          go_wp2_with fail
          go_ret
          refine ⟨?_, Below.step HB0.out (hb.out.trans (Below.mono (B := wr.heap.size) ?_ hb.out.size))⟩
          case' refine_2 => exact (by repeat (first | exact Below.refl _ _ | with_reducible refine Below.drew ?_ | with_reducible refine below_drewN ?_ _ | with_reducible refine Below.setCell ?_ (by first | (simp; done) | (simp; omega) | omega) _ | with_reducible refine Below.alloc ?_ (by first | (simp; done) | (simp; omega) | omega) _))
          obtain ⟨h1, h2, h3, h4⟩ := HX.out
          obtain ⟨g1, g2, g3, g4⟩ := HY.out
          have hc := HC.out
          have hq := hq.out
          refine ret_int ?_
          rw [sgn_neg]
          unfold keyL
          omega
        · have HC := Lib.hid hc
          have g1 : decide (-1 < (x.a : Int) - y.a) = true := decide_eq_true (by omega)
          have g2 : (-1 < (x.a : Int) - y.a) := by omega
          have g3 : decide ((x.a : Int) - y.a < 1) = false := decide_eq_false (by omega)
          have g4 : ¬ ((x.a : Int) - y.a < 1) := by omega
          clear hc
          go_quiet (fail)
          go_wp2_with fail
          go_ret
          refine ⟨?_, Below.step HB0.out (hb.out.trans (Below.mono (B := wr.heap.size) ?_ hb.out.size))⟩
          case' refine_2 => exact (by repeat (first | exact Below.refl _ _ | with_reducible refine Below.drew ?_ | with_reducible refine below_drewN ?_ _ | with_reducible refine Below.setCell ?_ (by first | (simp; done) | (simp; omega) | omega) _ | with_reducible refine Below.alloc ?_ (by first | (simp; done) | (simp; omega) | omega) _))
          obtain ⟨h1, h2, h3, h4⟩ := HX.out
          obtain ⟨g1, g2, g3, g4⟩ := HY.out
          have hc := HC.out
          have hq := hq.out
          refine ret_int ?_
          rw [sgn_pos]
          unfold keyL
          omega
    · have HP := Lib.hid p
      have HQ := Lib.hid q
      have p := p.2.1
      have q := q.2.1
      by_cases h : x.b = y.b
      · have hn : ((x.b : Int) != (y.b : Int)) = false := by rw [h]; simp
        have HE : Hid (x.b = y.b) := h
        clear h
        go_wp2_with fail
        go_quiet (fail)
        go_wp2_with fail
        have hd : Below W0.heap.size W0 (wr.drewN nq) := (hb.out.trans (by exact ((by repeat (first | exact Below.refl _ _ | with_reducible refine Below.drew ?_ | with_reducible refine below_drewN ?_ _ | with_reducible refine Below.setCell ?_ (by first | (simp; done) | (simp; omega) | omega) _ | with_reducible refine Below.alloc ?_ (by first | (simp; done) | (simp; omega) | omega) _)) : Below wr.heap.size wr (wr.drewN nq)).mono hb.out.size))
        exact ⟨⟨.inr <| .inr <| .inl ⟨by go_num, ⟨hq.out.1, HE.out, trivial⟩⟩, Lib.hid hd⟩, by simp [intOf]⟩
      · have hn : ((x.b : Int) != (y.b : Int)) = true := by simp; omega
        have HE : Hid (¬ x.b = y.b) := h
        have xw := IntWalk.i64_in (x.b : Int) (by obtain ⟨h1, h2, h3, h4⟩ := HX.out; omega)
        have yw := IntWalk.i64_in (y.b : Int) (by obtain ⟨h1, h2, h3, h4⟩ := HY.out; omega)
        have zw := IntWalk.i64_in ((x.b : Int) - y.b) (by obtain ⟨h1, h2, h3, h4⟩ := HX.out; obtain ⟨g1, g2, g3, g4⟩ := HY.out; omega)
        clear h
        go_wp2_with fail
        go_quiet (fail)
        go_wp2_with fail
        have hcase : ((x.b : Int) - y.b < 0) ∨ (0 < (x.b : Int) - y.b) := by have := HE.out; omega
        rcases hcase with hc | hc
        · have HC := Lib.hid hc
          have g1 : decide (-1 < (x.b : Int) - y.b) = false := decide_eq_false (by omega)
          have g2 : ¬ (-1 < (x.b : Int) - y.b) := by omega
          clear hc
          go_quiet (fail)
          go_wp2_with fail
          go_ret
          refine ⟨?_, Below.step HB0.out (hb.out.trans (Below.mono (B := wr.heap.size) ?_ hb.out.size))⟩
          case' refine_2 => exact (by repeat (first | exact Below.refl _ _ | with_reducible refine Below.drew ?_ | with_reducible refine below_drewN ?_ _ | with_reducible refine Below.setCell ?_ (by first | (simp; done) | (simp; omega) | omega) _ | with_reducible refine Below.alloc ?_ (by first | (simp; done) | (simp; omega) | omega) _))
          obtain ⟨h1, h2, h3, h4⟩ := HX.out
          obtain ⟨g1, g2, g3, g4⟩ := HY.out
          have hc := HC.out
          have hq := hq.out
          refine ret_int ?_
          rw [sgn_neg]
          unfold keyL
          omega
        · have HC := Lib.hid hc
          have g1 : decide (-1 < (x.b : Int) - y.b) = true := decide_eq_true (by omega)
          have g2 : (-1 < (x.b : Int) - y.b) := by omega
          have g3 : decide ((x.b : Int) - y.b < 1) = false := decide_eq_false (by omega)
          have g4 : ¬ ((x.b : Int) - y.b < 1) := by omega
          clear hc
          go_quiet (fail)
          go_wp2_with fail
          go_ret
          refine ⟨?_, Below.step HB0.out (hb.out.trans (Below.mono (B := wr.heap.size) ?_ hb.out.size))⟩
          case' refine_2 => exact (by repeat (first | exact Below.refl _ _ | with_reducible refine Below.drew ?_ | with_reducible refine below_drewN ?_ _ | with_reducible refine Below.setCell ?_ (by first | (simp; done) | (simp; omega) | omega) _ | with_reducible refine Below.alloc ?_ (by first | (simp; done) | (simp; omega) | omega) _))
          obtain ⟨h1, h2, h3, h4⟩ := HX.out
          obtain ⟨g1, g2, g3, g4⟩ := HY.out
          have hc := HC.out
          have hq := hq.out
          refine ret_int ?_
          rw [sgn_pos]
          unfold keyL
          omega
    · have HP := Lib.hid p
      have HQ := Lib.hid q
      have p := p.2.2.1
      have q := q.2.2.1
      by_cases h : x.c = y.c
      · have hn : ((x.c : Int) != (y.c : Int)) = false := by rw [h]; simp
        have HE : Hid (x.c = y.c) := h
        clear h
        go_wp2_with fail
        go_quiet (fail)
        go_wp2_with fail
        have hd : Below W0.heap.size W0 (wr.drewN nq) := (hb.out.trans (by exact ((by repeat (first | exact Below.refl _ _ | with_reducible refine Below.drew ?_ | with_reducible refine below_drewN ?_ _ | with_reducible refine Below.setCell ?_ (by first | (simp; done) | (simp; omega) | omega) _ | with_reducible refine Below.alloc ?_ (by first | (simp; done) | (simp; omega) | omega) _)) : Below wr.heap.size wr (wr.drewN nq)).mono hb.out.size))
        exact ⟨⟨.inr <| .inr <| .inr <| .inl ⟨by go_num, ⟨hq.out.1, hq.out.2.1, HE.out, trivial⟩⟩, Lib.hid hd⟩, by simp [intOf]⟩
      · have hn : ((x.c : Int) != (y.c : Int)) = true := by simp; omega
        have HE : Hid (¬ x.c = y.c) := h
        have xw := IntWalk.i64_in (x.c : Int) (by obtain ⟨h1, h2, h3, h4⟩ := HX.out; omega)
        have yw := IntWalk.i64_in (y.c : Int) (by obtain ⟨h1, h2, h3, h4⟩ := HY.out; omega)
        have zw := IntWalk.i64_in ((x.c : Int) - y.c) (by obtain ⟨h1, h2, h3, h4⟩ := HX.out; obtain ⟨g1, g2, g3, g4⟩ := HY.out; omega)
        clear h
        go_wp2_with fail
        go_quiet (fail)
        go_wp2_with fail
        have hcase : ((x.c : Int) - y.c < 0) ∨ (0 < (x.c : Int) - y.c) := by have := HE.out; omega
        rcases hcase with hc | hc
        · have HC := Lib.hid hc
          have g1 : decide (-1 < (x.c : Int) - y.c) = false := decide_eq_false (by omega)
          have g2 : ¬ (-1 < (x.c : Int) - y.c) := by omega
          clear hc
          go_quiet (fail)
          go_wp2_with fail
          go_ret
          refine ⟨?_, Below.step HB0.out (hb.out.trans (Below.mono (B := wr.heap.size) ?_ hb.out.size))⟩
          case' refine_2 => exact (by repeat (first | exact Below.refl _ _ | with_reducible refine Below.drew ?_ | with_reducible refine below_drewN ?_ _ | with_reducible refine Below.setCell ?_ (by first | (simp; done) | (simp; omega) | omega) _ | with_reducible refine Below.alloc ?_ (by first | (simp; done) | (simp; omega) | omega) _))
          obtain ⟨h1, h2, h3, h4⟩ := HX.out
          obtain ⟨g1, g2, g3, g4⟩ := HY.out
          have hc := HC.out
          have hq := hq.out
          refine ret_int ?_
          rw [sgn_neg]
          unfold keyL
          omega
        · have HC := Lib.hid hc
          have g1 : decide (-1 < (x.c : Int) - y.c) = true := decide_eq_true (by omega)
          have g2 : (-1 < (x.c : Int) - y.c) := by omega
          have g3 : decide ((x.c : Int) - y.c < 1) = false := decide_eq_false (by omega)
          have g4 : ¬ ((x.c : Int) - y.c < 1) := by omega
          clear hc
          go_quiet (fail)
          go_wp2_with fail
          go_ret
          refine ⟨?_, Below.step HB0.out (hb.out.trans (Below.mono (B := wr.heap.size) ?_ hb.out.size))⟩
          case' refine_2 => exact (by repeat (first | exact Below.refl _ _ | with_reducible refine Below.drew ?_ | with_reducible refine below_drewN ?_ _ | with_reducible refine Below.setCell ?_ (by first | (simp; done) | (simp; omega) | omega) _ | with_reducible refine Below.alloc ?_ (by first | (simp; done) | (simp; omega) | omega) _))
          obtain ⟨h1, h2, h3, h4⟩ := HX.out
          obtain ⟨g1, g2, g3, g4⟩ := HY.out
          have hc := HC.out
          have hq := hq.out
          refine ret_int ?_
          rw [sgn_pos]
          unfold keyL
          omega
    · have HP := Lib.hid p
      have HQ := Lib.hid q
      have p := p.2.2.2
      have q := q.2.2.2
      by_cases h : x.d = y.d
      · have hn : ((x.d : Int) != (y.d : Int)) = false := by rw [h]; simp
        have HE : Hid (x.d = y.d) := h
        clear h
        go_wp2_with fail
        go_quiet (fail)
        go_wp2_with fail
        have hd : Below W0.heap.size W0 (wr.drewN nq) := (hb.out.trans (by exact ((by repeat (first | exact Below.refl _ _ | with_reducible refine Below.drew ?_ | with_reducible refine below_drewN ?_ _ | with_reducible refine Below.setCell ?_ (by first | (simp; done) | (simp; omega) | omega) _ | with_reducible refine Below.alloc ?_ (by first | (simp; done) | (simp; omega) | omega) _)) : Below wr.heap.size wr (wr.drewN nq)).mono hb.out.size))
        exact ⟨⟨.inr <| .inr <| .inr <| .inr <| ⟨by go_num, ⟨hq.out.1, hq.out.2.1, hq.out.2.2.1, HE.out, trivial⟩⟩, Lib.hid hd⟩, by simp [intOf]⟩
      · have hn : ((x.d : Int) != (y.d : Int)) = true := by simp; omega
        have HE : Hid (¬ x.d = y.d) := h
        have xw := IntWalk.i64_in (x.d : Int) (by obtain ⟨h1, h2, h3, h4⟩ := HX.out; omega)
        have yw := IntWalk.i64_in (y.d : Int) (by obtain ⟨h1, h2, h3, h4⟩ := HY.out; omega)
        have zw := IntWalk.i64_in ((x.d : Int) - y.d) (by obtain ⟨h1, h2, h3, h4⟩ := HX.out; obtain ⟨g1, g2, g3, g4⟩ := HY.out; omega)
        clear h
        go_wp2_with fail
        go_quiet (fail)
        go_wp2_with fail
        have hcase : ((x.d : Int) - y.d < 0) ∨ (0 < (x.d : Int) - y.d) := by have := HE.out; omega
        rcases hcase with hc | hc
        · have HC := Lib.hid hc
          have g1 : decide (-1 < (x.d : Int) - y.d) = false := decide_eq_false (by omega)
          have g2 : ¬ (-1 < (x.d : Int) - y.d) := by omega
          clear hc
          go_quiet (fail)
          go_wp2_with fail
          go_ret
          refine ⟨?_, Below.step HB0.out (hb.out.trans (Below.mono (B := wr.heap.size) ?_ hb.out.size))⟩
          case' refine_2 => exact (by repeat (first | exact Below.refl _ _ | with_reducible refine Below.drew ?_ | with_reducible refine below_drewN ?_ _ | with_reducible refine Below.setCell ?_ (by first | (simp; done) | (simp; omega) | omega) _ | with_reducible refine Below.alloc ?_ (by first | (simp; done) | (simp; omega) | omega) _))
          obtain ⟨h1, h2, h3, h4⟩ := HX.out
          obtain ⟨g1, g2, g3, g4⟩ := HY.out
          have hc := HC.out
          have hq := hq.out
          refine ret_int ?_
          rw [sgn_neg]
          unfold keyL
          omega
        · have HC := Lib.hid hc
          have g1 : decide (-1 < (x.d : Int) - y.d) = true := decide_eq_true (by omega)
          have g2 : (-1 < (x.d : Int) - y.d) := by omega
          have g3 : decide ((x.d : Int) - y.d < 1) = false := decide_eq_false (by omega)
          have g4 : ¬ ((x.d : Int) - y.d < 1) := by omega
          clear hc
          go_quiet (fail)
          go_wp2_with fail
          go_ret
          refine ⟨?_, Below.step HB0.out (hb.out.trans (Below.mono (B := wr.heap.size) ?_ hb.out.size))⟩
          case' refine_2 => exact (by repeat (first | exact Below.refl _ _ | with_reducible refine Below.drew ?_ | with_reducible refine below_drewN ?_ _ | with_reducible refine Below.setCell ?_ (by first | (simp; done) | (simp; omega) | omega) _ | with_reducible refine Below.alloc ?_ (by first | (simp; done) | (simp; omega) | omega) _))
          obtain ⟨h1, h2, h3, h4⟩ := HX.out
          obtain ⟨g1, g2, g3, g4⟩ := HY.out
          have hc := HC.out
          have hq := hq.out
          refine ret_int ?_
          rw [sgn_pos]
          unfold keyL
          omega
    · clear p q
      go_wp2_with fail
      go_ret
      obtain ⟨h1, h2, h3, h4, -⟩ := hq.out
      have e : keyL x = keyL y := by unfold keyL; rw [h1, h2, h3, h4]
      refine ⟨?_, Below.step HB0.out hb.out⟩
      refine ret_int ?_
      rw [e, Int.sub_self]
      rfl

set_option maxRecDepth 100000 in
set_option maxHeartbeats 1000000 in
theorem rCmp_one {x y : M4} (hx : OkM x) (hy : OkM y) (w : World) : Calls Try.prog 20 #[.int .u8 1, mv x, mv y] w fun e w' => e = .returned (.int .i64 (sgn (keyM 1 x - keyM 1 y))) ∧ Below w.heap.size w w' := by
  rw [keyM_one, keyM_one]
  have HX := Lib.hid hx
  have HY := Lib.hid hy
  have HD : Hid (IntKind.i64.wrap ((degM x : Int) - (degM y : Int)) = (degM x : Int) - (degM y : Int)) := IntWalk.i64_in _ (by obtain ⟨h1, h2, h3, h4⟩ := HX.out; obtain ⟨g1, g2, g3, g4⟩ := HY.out; unfold degM; omega)
  clear hx hy
  obtain ⟨W0, e0, n1, n2, hb0, hs0⟩ := box_2 w x y
  have HB0 := Lib.hid hb0
  have N1 := n1.keep
  have N2 := n2.keep
  clear n1 n2 hb0
  unfold mv
  go_enter Try.func20, Try.ntmps20
  go_upto_region 2 with fail
  clear e0
  rename_i K1 hK1
  refine wp_region_knownC [] []
    [(0, IsV (.int .u8 (1))), (1, IsV (mv (x))), (2, IsV (mv (y))), (6, IsV (.int .i64 (0))), (4, IsV (.pointer (some ⟨w.heap.size, 0, none⟩))), (5, IsV (.pointer (some ⟨(w.heap.size + 1), 0, none⟩)))]
    [(16, IsV (mv (x))), (17, IsV (.int .i64 ((degM (x) : Int)))), (18, IsV (mv (y))), (19, IsV (.int .i64 ((degM (y) : Int)))), (20, IsV (.int .i64 (((degM (x) : Int)) - ((degM (y) : Int))))), (7, IsV (.int .i64 (((degM (x) : Int)) - ((degM (y) : Int)))))]
    72 (by kernel_rfl) rfl (by kernel_rfl) (by kernel_rfl) ⟨rfl, rfl, rfl, rfl, rfl, rfl, trivial⟩ ⟨IsV.grows _, IsV.grows _, IsV.grows _, IsV.grows _, IsV.grows _, IsV.grows _, IsV.grows _, IsV.grows _, IsV.grows _, IsV.grows _, IsV.grows _, IsV.grows _, trivial⟩ (fun t ht => by cases ht) ?_ ?_
  · refine AllStepC.step rfl (step_loadM (o := 0) (fun _ _ h => h) (fun W hb => (N1.out W hb).c4) (fun _ => rfl)) ?_
    refine AllStepC.step rfl (step_call1 (Plain.of Try.func18 rfl rfl) (fun _ _ h => h) (fun w => rDegree_any HX.out w) (fun _ => rfl)) ?_
    refine AllStepC.step rfl (step_loadM (o := 0) (fun _ _ h => h) (fun W hb => (N2.out W hb).c4) (fun _ => rfl)) ?_
    refine AllStepC.step rfl (step_call1 (Plain.of Try.func18 rfl rfl) (fun _ _ h => h) (fun w => rDegree_any HY.out w) (fun _ => rfl)) ?_
    refine AllStepC.step rfl (step_sub (fun _ _ h => h) (fun _ _ h => h) HD.out (fun _ => rfl)) ?_
    refine AllStepC.step rfl (step_assign (fun _ _ h => h)) ?_
    exact AllStepC.nil
  intro a1 w1 hb1 hs1 hd1 hk1
  have HB1 := Lib.hid hb1
  obtain ⟨u, hx⟩ : ∃ u : Nat → Value, ∀ t, a1.eval (.tmp t) = u t := ⟨_, fun _ => rfl⟩
  have ha : a1 = ⟨#[.int .u8 (1), mv (x), mv (y), u 3, .pointer (some ⟨w.heap.size, 0, none⟩), .pointer (some ⟨(w.heap.size + 1), 0, none⟩), .int .i64 (0), .int .i64 (((degM (x) : Int)) - ((degM (y) : Int))), u 8, u 9, u 10, u 11, u 12, u 13, u 14, u 15, mv (x), .int .i64 ((degM (x) : Int)), mv (y), .int .i64 ((degM (y) : Int)), .int .i64 (((degM (x) : Int)) - ((degM (y) : Int))), u 21, u 22, u 23, u 24, u 25, u 26, u 27, u 28, u 29, u 30, u 31, u 32, u 33, u 34, u 35, u 36, u 37, u 38, u 39, u 40, u 41, u 42, u 43, u 44, u 45, u 46, u 47, u 48, u 49, u 50, u 51, u 52, u 53, u 54, u 55, u 56, u 57, u 58, u 59, u 60, u 61, u 62, u 63, u 64, u 65, u 66, u 67, u 68, u 69, u 70, u 71], []⟩ := act_eq hs1 hd1 ⟨hk1 0, hk1 1, hk1 2, hx 3, hk1 4, hk1 5, hk1 6, hk1 7, hx 8, hx 9, hx 10, hx 11, hx 12, hx 13, hx 14, hx 15, hk1 16, hk1 17, hk1 18, hk1 19, hk1 20, hx 21, hx 22, hx 23, hx 24, hx 25, hx 26, hx 27, hx 28, hx 29, hx 30, hx 31, hx 32, hx 33, hx 34, hx 35, hx 36, hx 37, hx 38, hx 39, hx 40, hx 41, hx 42, hx 43, hx 44, hx 45, hx 46, hx 47, hx 48, hx 49, hx 50, hx 51, hx 52, hx 53, hx 54, hx 55, hx 56, hx 57, hx 58, hx 59, hx 60, hx 61, hx 62, hx 63, hx 64, hx 65, hx 66, hx 67, hx 68, hx 69, hx 70, hx 71, trivial⟩
  subst ha
  refine hK1 _ _ ?_
  clear hx hs1 hd1 hk1 hb1 hK1
  by_cases h : degM x = degM y
  · have hz : (degM x : Int) - (degM y : Int) = 0 := by omega
    have hn : ((degM x : Int) - (degM y : Int) != 0) = false := by rw [hz]; rfl
    have HG := Lib.hid h
    clear h hz
    unfold mv
    go_wp2_with fail
    go_loopw [9] (fun i wr => ((i = .int .i64 0 ∧ Hid (True)) ∨ (i = .int .i64 1 ∧ Hid (x.a = y.a ∧ True)) ∨ (i = .int .i64 2 ∧ Hid (x.a = y.a ∧ x.b = y.b ∧ True)) ∨ (i = .int .i64 3 ∧ Hid (x.a = y.a ∧ x.b = y.b ∧ x.c = y.c ∧ True)) ∨ (i = .int .i64 4 ∧ Hid (x.a = y.a ∧ x.b = y.b ∧ x.c = y.c ∧ x.d = y.d ∧ True))) ∧ Hid (Below W0.heap.size W0 wr)) (fun i _ => 4 - (intOf i).toNat)
    case atStart => exact ⟨.inl ⟨rfl, trivial⟩, HB1⟩
    case round =>
      obtain ⟨hr, hb⟩ := hrel
      have p := (N1.out _ hb.out).c4
      have q := (N2.out _ hb.out).c4
      rcases hr with ⟨rfl, hq⟩ | ⟨rfl, hq⟩ | ⟨rfl, hq⟩ | ⟨rfl, hq⟩ | ⟨rfl, hq⟩
      · have HP := Lib.hid p
        have HQ := Lib.hid q
        have p := p.1
        have q := q.1
        by_cases h : x.a = y.a
        · have hn : ((x.a : Int) != (y.a : Int)) = false := by rw [h]; simp
          have HE : Hid (x.a = y.a) := h
          clear h
          go_wp2_with fail
          go_quiet (fail)
          go_wp2_with fail
          have hd : Below W0.heap.size W0 (wr.drewN nq) := (hb.out.trans (by exact ((by repeat (first | exact Below.refl _ _ | with_reducible refine Below.drew ?_ | with_reducible refine below_drewN ?_ _ | with_reducible refine Below.setCell ?_ (by first | (simp; done) | (simp; omega) | omega) _ | with_reducible refine Below.alloc ?_ (by first | (simp; done) | (simp; omega) | omega) _)) : Below wr.heap.size wr (wr.drewN nq)).mono hb.out.size))
          exact ⟨⟨.inr <| .inl ⟨by go_num, ⟨HE.out, trivial⟩⟩, Lib.hid hd⟩, by simp [intOf]⟩
        · have hn : ((x.a : Int) != (y.a : Int)) = true := by simp; omega
          have HE : Hid (¬ x.a = y.a) := h
          have xw := IntWalk.i64_in (x.a : Int) (by obtain ⟨h1, h2, h3, h4⟩ := HX.out; omega)
          have yw := IntWalk.i64_in (y.a : Int) (by obtain ⟨h1, h2, h3, h4⟩ := HY.out; omega)
          have zw := IntWalk.i64_in ((x.a : Int) - y.a) (by obtain ⟨h1, h2, h3, h4⟩ := HX.out; obtain ⟨g1, g2, g3, g4⟩ := HY.out; omega)
          clear h
          go_wp2_with fail
          go_quiet (fail)
          go_wp2_with fail
          have hcase : ((x.a : Int) - y.a < 0) ∨ (0 < (x.a : Int) - y.a) := by have := HE.out; omega
          rcases hcase with hc | hc
          · have HC := Lib.hid hc
            have g1 : decide (-1 < (x.a : Int) - y.a) = false := decide_eq_false (by omega)
            have g2 : ¬ (-1 < (x.a : Int) - y.a) := by omega
            clear hc
            go_quiet (fail)
            go_wp2_with fail
            go_ret
            refine ⟨?_, Below.step HB0.out (hb.out.trans (Below.mono (B := wr.heap.size) ?_ hb.out.size))⟩
            case' refine_2 => exact (by repeat (first | exact Below.refl _ _ | with_reducible refine Below.drew ?_ | with_reducible refine below_drewN ?_ _ | with_reducible refine Below.setCell ?_ (by first | (simp; done) | (simp; omega) | omega) _ | with_reducible refine Below.alloc ?_ (by first | (simp; done) | (simp; omega) | omega) _))
            obtain ⟨h1, h2, h3, h4⟩ := HX.out
            obtain ⟨g1, g2, g3, g4⟩ := HY.out
            have hc := HC.out
            have hq := hq.out
            refine ret_int ?_
            rw [sgn_neg]
            have := HG.out
            unfold keyL
            omega
          · have HC := Lib.hid hc
            have g1 : decide (-1 < (x.a : Int) - y.a) = true := decide_eq_true (by omega)
            have g2 : (-1 < (x.a : Int) - y.a) := by omega
            have g3 : decide ((x.a : Int) - y.a < 1) = false := decide_eq_false (by omega)
            have g4 : ¬ ((x.a : Int) - y.a < 1) := by omega
            clear hc
            go_quiet (fail)
            go_wp2_with fail
            go_ret
            refine ⟨?_, Below.step HB0.out (hb.out.trans (Below.mono (B := wr.heap.size) ?_ hb.out.size))⟩
            case' refine_2 => exact (by repeat (first | exact Below.refl _ _ | with_reducible refine Below.drew ?_ | with_reducible refine below_drewN ?_ _ | with_reducible refine Below.setCell ?_ (by first | (simp; done) | (simp; omega) | omega) _ | with_reducible refine Below.alloc ?_ (by first | (simp; done) | (simp; omega) | omega) _))
            obtain ⟨h1, h2, h3, h4⟩ := HX.out
            obtain ⟨g1, g2, g3, g4⟩ := HY.out
            have hc := HC.out
            have hq := hq.out
            refine ret_int ?_
            rw [sgn_pos]
            have := HG.out
            unfold keyL
            omega
      · have HP := Lib.hid p
        have HQ := Lib.hid q
        have p := p.2.1
        have q := q.2.1
        by_cases h : x.b = y.b
        · have hn : ((x.b : Int) != (y.b : Int)) = false := by rw [h]; simp
          have HE : Hid (x.b = y.b) := h
          clear h
          go_wp2_with fail
          go_quiet (fail)
          go_wp2_with fail
          have hd : Below W0.heap.size W0 (wr.drewN nq) := (hb.out.trans (by exact ((by repeat (first | exact Below.refl _ _ | with_reducible refine Below.drew ?_ | with_reducible refine below_drewN ?_ _ | with_reducible refine Below.setCell ?_ (by first | (simp; done) | (simp; omega) | omega) _ | with_reducible refine Below.alloc ?_ (by first | (simp; done) | (simp; omega) | omega) _)) : Below wr.heap.size wr (wr.drewN nq)).mono hb.out.size))
          exact ⟨⟨.inr <| .inr <| .inl ⟨by go_num, ⟨hq.out.1, HE.out, trivial⟩⟩, Lib.hid hd⟩, by simp [intOf]⟩
        · have hn : ((x.b : Int) != (y.b : Int)) = true := by simp; omega
          have HE : Hid (¬ x.b = y.b) := h
          have xw := IntWalk.i64_in (x.b : Int) (by obtain ⟨h1, h2, h3, h4⟩ := HX.out; omega)
          have yw := IntWalk.i64_in (y.b : Int) (by obtain ⟨h1, h2, h3, h4⟩ := HY.out; omega)
          have zw := IntWalk.i64_in ((x.b : Int) - y.b) (by obtain ⟨h1, h2, h3, h4⟩ := HX.out; obtain ⟨g1, g2, g3, g4⟩ := HY.out; omega)
          clear h
          go_wp2_with fail
          go_quiet (fail)
          go_wp2_with fail
          have hcase : ((x.b : Int) - y.b < 0) ∨ (0 < (x.b : Int) - y.b) := by have := HE.out; omega
          rcases hcase with hc | hc
          · have HC := Lib.hid hc
            have g1 : decide (-1 < (x.b : Int) - y.b) = false := decide_eq_false (by omega)
            have g2 : ¬ (-1 < (x.b : Int) - y.b) := by omega
            clear hc
            go_quiet (fail)
            go_wp2_with fail
            go_ret
            refine ⟨?_, Below.step HB0.out (hb.out.trans (Below.mono (B := wr.heap.size) ?_ hb.out.size))⟩
            case' refine_2 => exact (by repeat (first | exact Below.refl _ _ | with_reducible refine Below.drew ?_ | with_reducible refine below_drewN ?_ _ | with_reducible refine Below.setCell ?_ (by first | (simp; done) | (simp; omega) | omega) _ | with_reducible refine Below.alloc ?_ (by first | (simp; done) | (simp; omega) | omega) _))
            obtain ⟨h1, h2, h3, h4⟩ := HX.out
            obtain ⟨g1, g2, g3, g4⟩ := HY.out
            have hc := HC.out
            have hq := hq.out
            refine ret_int ?_
            rw [sgn_neg]
            have := HG.out
            unfold keyL
            omega
          · have HC := Lib.hid hc
            have g1 : decide (-1 < (x.b : Int) - y.b) = true := decide_eq_true (by omega)
            have g2 : (-1 < (x.b : Int) - y.b) := by omega
            have g3 : decide ((x.b : Int) - y.b < 1) = false := decide_eq_false (by omega)
            have g4 : ¬ ((x.b : Int) - y.b < 1) := by omega
            clear hc
            go_quiet (fail)
            go_wp2_with fail
            go_ret
            refine ⟨?_, Below.step HB0.out (hb.out.trans (Below.mono (B := wr.heap.size) ?_ hb.out.size))⟩
            case' refine_2 => exact (by repeat (first | exact Below.refl _ _ | with_reducible refine Below.drew ?_ | with_reducible refine below_drewN ?_ _ | with_reducible refine Below.setCell ?_ (by first | (simp; done) | (simp; omega) | omega) _ | with_reducible refine Below.alloc ?_ (by first | (simp; done) | (simp; omega) | omega) _))
            obtain ⟨h1, h2, h3, h4⟩ := HX.out
            obtain ⟨g1, g2, g3, g4⟩ := HY.out
            have hc := HC.out
            have hq := hq.out
            refine ret_int ?_
            rw [sgn_pos]
            have := HG.out
            unfold keyL
            omega
      · have HP := Lib.hid p
        have HQ := Lib.hid q
        have p := p.2.2.1
        have q := q.2.2.1
        by_cases h : x.c = y.c
        · have hn : ((x.c : Int) != (y.c : Int)) = false := by rw [h]; simp
          have HE : Hid (x.c = y.c) := h
          clear h
          go_wp2_with fail
          go_quiet (fail)
          go_wp2_with fail
          have hd : Below W0.heap.size W0 (wr.drewN nq) := (hb.out.trans (by exact ((by repeat (first | exact Below.refl _ _ | with_reducible refine Below.drew ?_ | with_reducible refine below_drewN ?_ _ | with_reducible refine Below.setCell ?_ (by first | (simp; done) | (simp; omega) | omega) _ | with_reducible refine Below.alloc ?_ (by first | (simp; done) | (simp; omega) | omega) _)) : Below wr.heap.size wr (wr.drewN nq)).mono hb.out.size))
          exact ⟨⟨.inr <| .inr <| .inr <| .inl ⟨by go_num, ⟨hq.out.1, hq.out.2.1, HE.out, trivial⟩⟩, Lib.hid hd⟩, by simp [intOf]⟩
        · have hn : ((x.c : Int) != (y.c : Int)) = true := by simp; omega
          have HE : Hid (¬ x.c = y.c) := h
          have xw := IntWalk.i64_in (x.c : Int) (by obtain ⟨h1, h2, h3, h4⟩ := HX.out; omega)
          have yw := IntWalk.i64_in (y.c : Int) (by obtain ⟨h1, h2, h3, h4⟩ := HY.out; omega)
          have zw := IntWalk.i64_in ((x.c : Int) - y.c) (by obtain ⟨h1, h2, h3, h4⟩ := HX.out; obtain ⟨g1, g2, g3, g4⟩ := HY.out; omega)
          clear h
          go_wp2_with fail
          go_quiet (fail)
          go_wp2_with fail
          have hcase : ((x.c : Int) - y.c < 0) ∨ (0 < (x.c : Int) - y.c) := by have := HE.out; omega
          rcases hcase with hc | hc
          · have HC := Lib.hid hc
            have g1 : decide (-1 < (x.c : Int) - y.c) = false := decide_eq_false (by omega)
            have g2 : ¬ (-1 < (x.c : Int) - y.c) := by omega
            clear hc
            go_quiet (fail)
            go_wp2_with fail
            go_ret
            refine ⟨?_, Below.step HB0.out (hb.out.trans (Below.mono (B := wr.heap.size) ?_ hb.out.size))⟩
            case' refine_2 => exact (by repeat (first | exact Below.refl _ _ | with_reducible refine Below.drew ?_ | with_reducible refine below_drewN ?_ _ | with_reducible refine Below.setCell ?_ (by first | (simp; done) | (simp; omega) | omega) _ | with_reducible refine Below.alloc ?_ (by first | (simp; done) | (simp; omega) | omega) _))
            obtain ⟨h1, h2, h3, h4⟩ := HX.out
            obtain ⟨g1, g2, g3, g4⟩ := HY.out
            have hc := HC.out
            have hq := hq.out
            refine ret_int ?_
            rw [sgn_neg]
            have := HG.out
            unfold keyL
            omega
          · have HC := Lib.hid hc
            have g1 : decide (-1 < (x.c : Int) - y.c) = true := decide_eq_true (by omega)
            have g2 : (-1 < (x.c : Int) - y.c) := by omega
            have g3 : decide ((x.c : Int) - y.c < 1) = false := decide_eq_false (by omega)
            have g4 : ¬ ((x.c : Int) - y.c < 1) := by omega
            clear hc
            go_quiet (fail)
            go_wp2_with fail
            go_ret
            refine ⟨?_, Below.step HB0.out (hb.out.trans (Below.mono (B := wr.heap.size) ?_ hb.out.size))⟩
            case' refine_2 => exact (by repeat (first | exact Below.refl _ _ | with_reducible refine Below.drew ?_ | with_reducible refine below_drewN ?_ _ | with_reducible refine Below.setCell ?_ (by first | (simp; done) | (simp; omega) | omega) _ | with_reducible refine Below.alloc ?_ (by first | (simp; done) | (simp; omega) | omega) _))
            obtain ⟨h1, h2, h3, h4⟩ := HX.out
            obtain ⟨g1, g2, g3, g4⟩ := HY.out
            have hc := HC.out
            have hq := hq.out
            refine ret_int ?_
            rw [sgn_pos]
            have := HG.out
            unfold keyL
            omega
      · have HP := Lib.hid p
        have HQ := Lib.hid q
        have p := p.2.2.2
        have q := q.2.2.2
        by_cases h : x.d = y.d
        · have hn : ((x.d : Int) != (y.d : Int)) = false := by rw [h]; simp
          have HE : Hid (x.d = y.d) := h
          clear h
          go_wp2_with fail
          go_quiet (fail)
          go_wp2_with fail
          have hd : Below W0.heap.size W0 (wr.drewN nq) := (hb.out.trans (by exact ((by repeat (first | exact Below.refl _ _ | with_reducible refine Below.drew ?_ | with_reducible refine below_drewN ?_ _ | with_reducible refine Below.setCell ?_ (by first | (simp; done) | (simp; omega) | omega) _ | with_reducible refine Below.alloc ?_ (by first | (simp; done) | (simp; omega) | omega) _)) : Below wr.heap.size wr (wr.drewN nq)).mono hb.out.size))
          exact ⟨⟨.inr <| .inr <| .inr <| .inr <| ⟨by go_num, ⟨hq.out.1, hq.out.2.1, hq.out.2.2.1, HE.out, trivial⟩⟩, Lib.hid hd⟩, by simp [intOf]⟩
        · have hn : ((x.d : Int) != (y.d : Int)) = true := by simp; omega
          have HE : Hid (¬ x.d = y.d) := h
          have xw := IntWalk.i64_in (x.d : Int) (by obtain ⟨h1, h2, h3, h4⟩ := HX.out; omega)
          have yw := IntWalk.i64_in (y.d : Int) (by obtain ⟨h1, h2, h3, h4⟩ := HY.out; omega)
          have zw := IntWalk.i64_in ((x.d : Int) - y.d) (by obtain ⟨h1, h2, h3, h4⟩ := HX.out; obtain ⟨g1, g2, g3, g4⟩ := HY.out; omega)
          clear h
          go_wp2_with fail
          go_quiet (fail)
          go_wp2_with fail
          have hcase : ((x.d : Int) - y.d < 0) ∨ (0 < (x.d : Int) - y.d) := by have := HE.out; omega
          rcases hcase with hc | hc
          · have HC := Lib.hid hc
            have g1 : decide (-1 < (x.d : Int) - y.d) = false := decide_eq_false (by omega)
            have g2 : ¬ (-1 < (x.d : Int) - y.d) := by omega
            clear hc
            go_quiet (fail)
            go_wp2_with fail
            go_ret
            refine ⟨?_, Below.step HB0.out (hb.out.trans (Below.mono (B := wr.heap.size) ?_ hb.out.size))⟩
            case' refine_2 => exact (by repeat (first | exact Below.refl _ _ | with_reducible refine Below.drew ?_ | with_reducible refine below_drewN ?_ _ | with_reducible refine Below.setCell ?_ (by first | (simp; done) | (simp; omega) | omega) _ | with_reducible refine Below.alloc ?_ (by first | (simp; done) | (simp; omega) | omega) _))
            obtain ⟨h1, h2, h3, h4⟩ := HX.out
            obtain ⟨g1, g2, g3, g4⟩ := HY.out
            have hc := HC.out
            have hq := hq.out
            refine ret_int ?_
            rw [sgn_neg]
            have := HG.out
            unfold keyL
            omega
          · have HC := Lib.hid hc
            have g1 : decide (-1 < (x.d : Int) - y.d) = true := decide_eq_true (by omega)
            have g2 : (-1 < (x.d : Int) - y.d) := by omega
            have g3 : decide ((x.d : Int) - y.d < 1) = false := decide_eq_false (by omega)
            have g4 : ¬ ((x.d : Int) - y.d < 1) := by omega
            clear hc
            go_quiet (fail)
            go_wp2_with fail
            go_ret
            refine ⟨?_, Below.step HB0.out (hb.out.trans (Below.mono (B := wr.heap.size) ?_ hb.out.size))⟩
            case' refine_2 => exact (by repeat (first | exact Below.refl _ _ | with_reducible refine Below.drew ?_ | with_reducible refine below_drewN ?_ _ | with_reducible refine Below.setCell ?_ (by first | (simp; done) | (simp; omega) | omega) _ | with_reducible refine Below.alloc ?_ (by first | (simp; done) | (simp; omega) | omega) _))
            obtain ⟨h1, h2, h3, h4⟩ := HX.out
            obtain ⟨g1, g2, g3, g4⟩ := HY.out
            have hc := HC.out
            have hq := hq.out
            refine ret_int ?_
            rw [sgn_pos]
            have := HG.out
            unfold keyL
            omega
      · clear p q
        go_wp2_with fail
        go_ret
        obtain ⟨h1, h2, h3, h4, -⟩ := hq.out
        have e : keyL x = keyL y := by unfold keyL; rw [h1, h2, h3, h4]
        refine ⟨?_, Below.step HB0.out hb.out⟩
        refine ret_int ?_
        unfold keyL at e
        have := HG.out
        unfold keyL
        rw [show (degM x : Int) * 18446744073709551616 + _ - (_) = 0 by omega]
        rfl
  · have hn : ((degM x : Int) - (degM y : Int) != 0) = true := by simp; omega
    have HG : Hid (¬ degM x = degM y) := h
    have L1 := Lib.hid (And.intro (keyL_lt HX.out) (keyL_lt HY.out))
    clear h
    unfold mv
    rcases Int.lt_or_gt_of_ne (show (degM x : Int) - (degM y : Int) ≠ 0 by have := HG.out; omega) with hc | hc
    · have HC := Lib.hid hc
      have g2 : ¬ (-1 < (degM x : Int) - (degM y : Int)) := by omega
      clear hc
      go_wp2_with fail
      go_ret
      refine ⟨ret_int ?_, Below.step HB0.out HB1.out⟩
      rw [sgn_neg]
      have := HC.out
      have := L1.out
      omega
    · have HC := Lib.hid hc
      have g2 : (-1 < (degM x : Int) - (degM y : Int)) := by omega
      have g4 : ¬ ((degM x : Int) - (degM y : Int) < 1) := by omega
      clear hc
      go_wp2_with fail
      go_ret
      refine ⟨ret_int ?_, Below.step HB0.out HB1.out⟩
      rw [sgn_pos]
      have := HC.out
      have := L1.out
      omega

set_option maxRecDepth 100000 in
set_option maxHeartbeats 1000000 in
theorem rCmp_two {x y : M4} (hx : OkM x) (hy : OkM y) (w : World) : Calls Try.prog 20 #[.int .u8 2, mv x, mv y] w fun e w' => e = .returned (.int .i64 (sgn (keyM 2 x - keyM 2 y))) ∧ Below w.heap.size w w' := by
  rw [keyM_two, keyM_two]
  have HX := Lib.hid hx
  have HY := Lib.hid hy
  have HD : Hid (IntKind.i64.wrap ((degM x : Int) - (degM y : Int)) = (degM x : Int) - (degM y : Int)) := IntWalk.i64_in _ (by obtain ⟨h1, h2, h3, h4⟩ := HX.out; obtain ⟨g1, g2, g3, g4⟩ := HY.out; unfold degM; omega)
  clear hx hy
  obtain ⟨W0, e0, n1, n2, hb0, hs0⟩ := box_2 w x y
  have HB0 := Lib.hid hb0
  have N1 := n1.keep
  have N2 := n2.keep
  clear n1 n2 hb0
  unfold mv
  go_enter Try.func20, Try.ntmps20
  go_upto_region 2 with fail
  clear e0
  rename_i K1 hK1
  refine wp_region_knownC [] []
    [(0, IsV (.int .u8 (2))), (1, IsV (mv (x))), (2, IsV (mv (y))), (6, IsV (.int .i64 (0))), (4, IsV (.pointer (some ⟨w.heap.size, 0, none⟩))), (5, IsV (.pointer (some ⟨(w.heap.size + 1), 0, none⟩)))]
    [(16, IsV (mv (x))), (17, IsV (.int .i64 ((degM (x) : Int)))), (18, IsV (mv (y))), (19, IsV (.int .i64 ((degM (y) : Int)))), (20, IsV (.int .i64 (((degM (x) : Int)) - ((degM (y) : Int))))), (7, IsV (.int .i64 (((degM (x) : Int)) - ((degM (y) : Int)))))]
    72 (by kernel_rfl) rfl (by kernel_rfl) (by kernel_rfl) ⟨rfl, rfl, rfl, rfl, rfl, rfl, trivial⟩ ⟨IsV.grows _, IsV.grows _, IsV.grows _, IsV.grows _, IsV.grows _, IsV.grows _, IsV.grows _, IsV.grows _, IsV.grows _, IsV.grows _, IsV.grows _, IsV.grows _, trivial⟩ (fun t ht => by cases ht) ?_ ?_
  · refine AllStepC.step rfl (step_loadM (o := 0) (fun _ _ h => h) (fun W hb => (N1.out W hb).c4) (fun _ => rfl)) ?_
    refine AllStepC.step rfl (step_call1 (Plain.of Try.func18 rfl rfl) (fun _ _ h => h) (fun w => rDegree_any HX.out w) (fun _ => rfl)) ?_
    refine AllStepC.step rfl (step_loadM (o := 0) (fun _ _ h => h) (fun W hb => (N2.out W hb).c4) (fun _ => rfl)) ?_
    refine AllStepC.step rfl (step_call1 (Plain.of Try.func18 rfl rfl) (fun _ _ h => h) (fun w => rDegree_any HY.out w) (fun _ => rfl)) ?_
    refine AllStepC.step rfl (step_sub (fun _ _ h => h) (fun _ _ h => h) HD.out (fun _ => rfl)) ?_
    refine AllStepC.step rfl (step_assign (fun _ _ h => h)) ?_
    exact AllStepC.nil
  intro a1 w1 hb1 hs1 hd1 hk1
  have HB1 := Lib.hid hb1
  obtain ⟨u, hx⟩ : ∃ u : Nat → Value, ∀ t, a1.eval (.tmp t) = u t := ⟨_, fun _ => rfl⟩
  have ha : a1 = ⟨#[.int .u8 (2), mv (x), mv (y), u 3, .pointer (some ⟨w.heap.size, 0, none⟩), .pointer (some ⟨(w.heap.size + 1), 0, none⟩), .int .i64 (0), .int .i64 (((degM (x) : Int)) - ((degM (y) : Int))), u 8, u 9, u 10, u 11, u 12, u 13, u 14, u 15, mv (x), .int .i64 ((degM (x) : Int)), mv (y), .int .i64 ((degM (y) : Int)), .int .i64 (((degM (x) : Int)) - ((degM (y) : Int))), u 21, u 22, u 23, u 24, u 25, u 26, u 27, u 28, u 29, u 30, u 31, u 32, u 33, u 34, u 35, u 36, u 37, u 38, u 39, u 40, u 41, u 42, u 43, u 44, u 45, u 46, u 47, u 48, u 49, u 50, u 51, u 52, u 53, u 54, u 55, u 56, u 57, u 58, u 59, u 60, u 61, u 62, u 63, u 64, u 65, u 66, u 67, u 68, u 69, u 70, u 71], []⟩ := act_eq hs1 hd1 ⟨hk1 0, hk1 1, hk1 2, hx 3, hk1 4, hk1 5, hk1 6, hk1 7, hx 8, hx 9, hx 10, hx 11, hx 12, hx 13, hx 14, hx 15, hk1 16, hk1 17, hk1 18, hk1 19, hk1 20, hx 21, hx 22, hx 23, hx 24, hx 25, hx 26, hx 27, hx 28, hx 29, hx 30, hx 31, hx 32, hx 33, hx 34, hx 35, hx 36, hx 37, hx 38, hx 39, hx 40, hx 41, hx 42, hx 43, hx 44, hx 45, hx 46, hx 47, hx 48, hx 49, hx 50, hx 51, hx 52, hx 53, hx 54, hx 55, hx 56, hx 57, hx 58, hx 59, hx 60, hx 61, hx 62, hx 63, hx 64, hx 65, hx 66, hx 67, hx 68, hx 69, hx 70, hx 71, trivial⟩
  subst ha
  refine hK1 _ _ ?_
  clear hx hs1 hd1 hk1 hb1 hK1
  by_cases h : degM x = degM y
  · have hz : (degM x : Int) - (degM y : Int) = 0 := by omega
    have hn : ((degM x : Int) - (degM y : Int) != 0) = false := by rw [hz]; rfl
    have HG := Lib.hid h
    clear h hz
    unfold mv
    go_wp2_with fail
    go_loopw [8] (fun i wr => ((i = .int .i64 3 ∧ Hid (True)) ∨ (i = .int .i64 2 ∧ Hid (x.d = y.d ∧ True)) ∨ (i = .int .i64 1 ∧ Hid (x.d = y.d ∧ x.c = y.c ∧ True)) ∨ (i = .int .i64 0 ∧ Hid (x.d = y.d ∧ x.c = y.c ∧ x.b = y.b ∧ True)) ∨ (i = .int .i64 (-1) ∧ Hid (x.d = y.d ∧ x.c = y.c ∧ x.b = y.b ∧ x.a = y.a ∧ True))) ∧ Hid (Below W0.heap.size W0 wr)) (fun i _ => (intOf i + 1).toNat)
    case atStart => exact ⟨.inl ⟨rfl, trivial⟩, HB1⟩
    case round =>
      obtain ⟨hr, hb⟩ := hrel
      have p := (N1.out _ hb.out).c4
      have q := (N2.out _ hb.out).c4
      rcases hr with ⟨rfl, hq⟩ | ⟨rfl, hq⟩ | ⟨rfl, hq⟩ | ⟨rfl, hq⟩ | ⟨rfl, hq⟩
      · have HP := Lib.hid p
        have HQ := Lib.hid q
        have p := p.2.2.2
        have q := q.2.2.2
        by_cases h : x.d = y.d
        · have hn : ((x.d : Int) != (y.d : Int)) = false := by rw [h]; simp
          have HE : Hid (x.d = y.d) := h
          clear h
          go_wp2_with fail
          go_quiet (fail)
          go_wp2_with fail
          have hd : Below W0.heap.size W0 (wr.drewN nq) := (hb.out.trans (by exact ((by repeat (first | exact Below.refl _ _ | with_reducible refine Below.drew ?_ | with_reducible refine below_drewN ?_ _ | with_reducible refine Below.setCell ?_ (by first | (simp; done) | (simp; omega) | omega) _ | with_reducible refine Below.alloc ?_ (by first | (simp; done) | (simp; omega) | omega) _)) : Below wr.heap.size wr (wr.drewN nq)).mono hb.out.size))
          exact ⟨⟨.inr <| .inl ⟨by go_num, ⟨HE.out, trivial⟩⟩, Lib.hid hd⟩, by simp [intOf]⟩
        · have hn : ((x.d : Int) != (y.d : Int)) = true := by simp; omega
          have HE : Hid (¬ x.d = y.d) := h
          have xw := IntWalk.i64_in (x.d : Int) (by obtain ⟨h1, h2, h3, h4⟩ := HX.out; omega)
          have yw := IntWalk.i64_in (y.d : Int) (by obtain ⟨h1, h2, h3, h4⟩ := HY.out; omega)
          have zw := IntWalk.i64_in ((y.d : Int) - x.d) (by obtain ⟨h1, h2, h3, h4⟩ := HX.out; obtain ⟨g1, g2, g3, g4⟩ := HY.out; omega)
          clear h
          go_wp2_with fail
          go_quiet (fail)
          go_wp2_with fail
          have hcase : ((y.d : Int) - x.d < 0) ∨ (0 < (y.d : Int) - x.d) := by have := HE.out; omega
          rcases hcase with hc | hc
          · have HC := Lib.hid hc
            have g1 : decide (-1 < (y.d : Int) - x.d) = false := decide_eq_false (by omega)
            have g2 : ¬ (-1 < (y.d : Int) - x.d) := by omega
            clear hc
            go_quiet (fail)
            go_wp2_with fail
            go_ret
            refine ⟨?_, Below.step HB0.out (hb.out.trans (Below.mono (B := wr.heap.size) ?_ hb.out.size))⟩
            case' refine_2 => exact (by repeat (first | exact Below.refl _ _ | with_reducible refine Below.drew ?_ | with_reducible refine below_drewN ?_ _ | with_reducible refine Below.setCell ?_ (by first | (simp; done) | (simp; omega) | omega) _ | with_reducible refine Below.alloc ?_ (by first | (simp; done) | (simp; omega) | omega) _))
            obtain ⟨h1, h2, h3, h4⟩ := HX.out
            obtain ⟨g1, g2, g3, g4⟩ := HY.out
            have hc := HC.out
            have hq := hq.out
            refine ret_int ?_
            rw [sgn_neg]
            have := HG.out
            unfold keyR
            omega
          · have HC := Lib.hid hc
            have g1 : decide (-1 < (y.d : Int) - x.d) = true := decide_eq_true (by omega)
            have g2 : (-1 < (y.d : Int) - x.d) := by omega
            have g3 : decide ((y.d : Int) - x.d < 1) = false := decide_eq_false (by omega)
            have g4 : ¬ ((y.d : Int) - x.d < 1) := by omega
            clear hc
            go_quiet (fail)
            go_wp2_with fail
            go_ret
            refine ⟨?_, Below.step HB0.out (hb.out.trans (Below.mono (B := wr.heap.size) ?_ hb.out.size))⟩
            case' refine_2 => exact (by repeat (first | exact Below.refl _ _ | with_reducible refine Below.drew ?_ | with_reducible refine below_drewN ?_ _ | with_reducible refine Below.setCell ?_ (by first | (simp; done) | (simp; omega) | omega) _ | with_reducible refine Below.alloc ?_ (by first | (simp; done) | (simp; omega) | omega) _))
            obtain ⟨h1, h2, h3, h4⟩ := HX.out
            obtain ⟨g1, g2, g3, g4⟩ := HY.out
            have hc := HC.out
            have hq := hq.out
            refine ret_int ?_
            rw [sgn_pos]
            have := HG.out
            unfold keyR
            omega
      · have HP := Lib.hid p
        have HQ := Lib.hid q
        have p := p.2.2.1
        have q := q.2.2.1
        by_cases h : x.c = y.c
        · have hn : ((x.c : Int) != (y.c : Int)) = false := by rw [h]; simp
          have HE : Hid (x.c = y.c) := h
          clear h
          go_wp2_with fail
          go_quiet (fail)
          go_wp2_with fail
          have hd : Below W0.heap.size W0 (wr.drewN nq) := (hb.out.trans (by exact ((by repeat (first | exact Below.refl _ _ | with_reducible refine Below.drew ?_ | with_reducible refine below_drewN ?_ _ | with_reducible refine Below.setCell ?_ (by first | (simp; done) | (simp; omega) | omega) _ | with_reducible refine Below.alloc ?_ (by first | (simp; done) | (simp; omega) | omega) _)) : Below wr.heap.size wr (wr.drewN nq)).mono hb.out.size))
          exact ⟨⟨.inr <| .inr <| .inl ⟨by go_num, ⟨hq.out.1, HE.out, trivial⟩⟩, Lib.hid hd⟩, by simp [intOf]⟩
        · have hn : ((x.c : Int) != (y.c : Int)) = true := by simp; omega
          have HE : Hid (¬ x.c = y.c) := h
          have xw := IntWalk.i64_in (x.c : Int) (by obtain ⟨h1, h2, h3, h4⟩ := HX.out; omega)
          have yw := IntWalk.i64_in (y.c : Int) (by obtain ⟨h1, h2, h3, h4⟩ := HY.out; omega)
          have zw := IntWalk.i64_in ((y.c : Int) - x.c) (by obtain ⟨h1, h2, h3, h4⟩ := HX.out; obtain ⟨g1, g2, g3, g4⟩ := HY.out; omega)
          clear h
          go_wp2_with fail
          go_quiet (fail)
          go_wp2_with fail
          have hcase : ((y.c : Int) - x.c < 0) ∨ (0 < (y.c : Int) - x.c) := by have := HE.out; omega
          rcases hcase with hc | hc
          · have HC := Lib.hid hc
            have g1 : decide (-1 < (y.c : Int) - x.c) = false := decide_eq_false (by omega)
            have g2 : ¬ (-1 < (y.c : Int) - x.c) := by omega
            clear hc
            go_quiet (fail)
            go_wp2_with fail
            go_ret
            refine ⟨?_, Below.step HB0.out (hb.out.trans (Below.mono (B := wr.heap.size) ?_ hb.out.size))⟩
            case' refine_2 => exact (by repeat (first | exact Below.refl _ _ | with_reducible refine Below.drew ?_ | with_reducible refine below_drewN ?_ _ | with_reducible refine Below.setCell ?_ (by first | (simp; done) | (simp; omega) | omega) _ | with_reducible refine Below.alloc ?_ (by first | (simp; done) | (simp; omega) | omega) _))
            obtain ⟨h1, h2, h3, h4⟩ := HX.out
            obtain ⟨g1, g2, g3, g4⟩ := HY.out
            have hc := HC.out
            have hq := hq.out
            refine ret_int ?_
            rw [sgn_neg]
            have := HG.out
            unfold keyR
            omega
          · have HC := Lib.hid hc
            have g1 : decide (-1 < (y.c : Int) - x.c) = true := decide_eq_true (by omega)
            have g2 : (-1 < (y.c : Int) - x.c) := by omega
            have g3 : decide ((y.c : Int) - x.c < 1) = false := decide_eq_false (by omega)
            have g4 : ¬ ((y.c : Int) - x.c < 1) := by omega
            clear hc
            go_quiet (fail)
            go_wp2_with fail
            go_ret
            refine ⟨?_, Below.step HB0.out (hb.out.trans (Below.mono (B := wr.heap.size) ?_ hb.out.size))⟩
            case' refine_2 => exact (by repeat (first | exact Below.refl _ _ | with_reducible refine Below.drew ?_ | with_reducible refine below_drewN ?_ _ | with_reducible refine Below.setCell ?_ (by first | (simp; done) | (simp; omega) | omega) _ | with_reducible refine Below.alloc ?_ (by first | (simp; done) | (simp; omega) | omega) _))
            obtain ⟨h1, h2, h3, h4⟩ := HX.out
            obtain ⟨g1, g2, g3, g4⟩ := HY.out
            have hc := HC.out
            have hq := hq.out
            refine ret_int ?_
            rw [sgn_pos]
            have := HG.out
            unfold keyR
            omega
      · have HP := Lib.hid p
        have HQ := Lib.hid q
        have p := p.2.1
        have q := q.2.1
        by_cases h : x.b = y.b
        · have hn : ((x.b : Int) != (y.b : Int)) = false := by rw [h]; simp
          have HE : Hid (x.b = y.b) := h
          clear h
          go_wp2_with fail
          go_quiet (fail)
          go_wp2_with fail
          have hd : Below W0.heap.size W0 (wr.drewN nq) := (hb.out.trans (by exact ((by repeat (first | exact Below.refl _ _ | with_reducible refine Below.drew ?_ | with_reducible refine below_drewN ?_ _ | with_reducible refine Below.setCell ?_ (by first | (simp; done) | (simp; omega) | omega) _ | with_reducible refine Below.alloc ?_ (by first | (simp; done) | (simp; omega) | omega) _)) : Below wr.heap.size wr (wr.drewN nq)).mono hb.out.size))
          exact ⟨⟨.inr <| .inr <| .inr <| .inl ⟨by go_num, ⟨hq.out.1, hq.out.2.1, HE.out, trivial⟩⟩, Lib.hid hd⟩, by simp [intOf]⟩
        · have hn : ((x.b : Int) != (y.b : Int)) = true := by simp; omega
          have HE : Hid (¬ x.b = y.b) := h
          have xw := IntWalk.i64_in (x.b : Int) (by obtain ⟨h1, h2, h3, h4⟩ := HX.out; omega)
          have yw := IntWalk.i64_in (y.b : Int) (by obtain ⟨h1, h2, h3, h4⟩ := HY.out; omega)
          have zw := IntWalk.i64_in ((y.b : Int) - x.b) (by obtain ⟨h1, h2, h3, h4⟩ := HX.out; obtain ⟨g1, g2, g3, g4⟩ := HY.out; omega)
          clear h
          go_wp2_with fail
          go_quiet (fail)
          go_wp2_with fail
          have hcase : ((y.b : Int) - x.b < 0) ∨ (0 < (y.b : Int) - x.b) := by have := HE.out; omega
          rcases hcase with hc | hc
          · have HC := Lib.hid hc
            have g1 : decide (-1 < (y.b : Int) - x.b) = false := decide_eq_false (by omega)
            have g2 : ¬ (-1 < (y.b : Int) - x.b) := by omega
            clear hc
            go_quiet (fail)
            go_wp2_with fail
            go_ret
            refine ⟨?_, Below.step HB0.out (hb.out.trans (Below.mono (B := wr.heap.size) ?_ hb.out.size))⟩
            case' refine_2 => exact (by repeat (first | exact Below.refl _ _ | with_reducible refine Below.drew ?_ | with_reducible refine below_drewN ?_ _ | with_reducible refine Below.setCell ?_ (by first | (simp; done) | (simp; omega) | omega) _ | with_reducible refine Below.alloc ?_ (by first | (simp; done) | (simp; omega) | omega) _))
            obtain ⟨h1, h2, h3, h4⟩ := HX.out
            obtain ⟨g1, g2, g3, g4⟩ := HY.out
            have hc := HC.out
            have hq := hq.out
            refine ret_int ?_
            rw [sgn_neg]
            have := HG.out
            unfold keyR
            omega
          · have HC := Lib.hid hc
            have g1 : decide (-1 < (y.b : Int) - x.b) = true := decide_eq_true (by omega)
            have g2 : (-1 < (y.b : Int) - x.b) := by omega
            have g3 : decide ((y.b : Int) - x.b < 1) = false := decide_eq_false (by omega)
            have g4 : ¬ ((y.b : Int) - x.b < 1) := by omega
            clear hc
            go_quiet (fail)
            go_wp2_with fail
            go_ret
            refine ⟨?_, Below.step HB0.out (hb.out.trans (Below.mono (B := wr.heap.size) ?_ hb.out.size))⟩
            case' refine_2 => exact (by repeat (first | exact Below.refl _ _ | with_reducible refine Below.drew ?_ | with_reducible refine below_drewN ?_ _ | with_reducible refine Below.setCell ?_ (by first | (simp; done) | (simp; omega) | omega) _ | with_reducible refine Below.alloc ?_ (by first | (simp; done) | (simp; omega) | omega) _))
            obtain ⟨h1, h2, h3, h4⟩ := HX.out
            obtain ⟨g1, g2, g3, g4⟩ := HY.out
            have hc := HC.out
            have hq := hq.out
            refine ret_int ?_
            rw [sgn_pos]
            have := HG.out
            unfold keyR
            omega
      · have HP := Lib.hid p
        have HQ := Lib.hid q
        have p := p.1
        have q := q.1
        by_cases h : x.a = y.a
        · have hn : ((x.a : Int) != (y.a : Int)) = false := by rw [h]; simp
          have HE : Hid (x.a = y.a) := h
          clear h
          go_wp2_with fail
          go_quiet (fail)
          go_wp2_with fail
          have hd : Below W0.heap.size W0 (wr.drewN nq) := (hb.out.trans (by exact ((by repeat (first | exact Below.refl _ _ | with_reducible refine Below.drew ?_ | with_reducible refine below_drewN ?_ _ | with_reducible refine Below.setCell ?_ (by first | (simp; done) | (simp; omega) | omega) _ | with_reducible refine Below.alloc ?_ (by first | (simp; done) | (simp; omega) | omega) _)) : Below wr.heap.size wr (wr.drewN nq)).mono hb.out.size))
          exact ⟨⟨.inr <| .inr <| .inr <| .inr <| ⟨by go_num, ⟨hq.out.1, hq.out.2.1, hq.out.2.2.1, HE.out, trivial⟩⟩, Lib.hid hd⟩, by simp [intOf]⟩
        · have hn : ((x.a : Int) != (y.a : Int)) = true := by simp; omega
          have HE : Hid (¬ x.a = y.a) := h
          have xw := IntWalk.i64_in (x.a : Int) (by obtain ⟨h1, h2, h3, h4⟩ := HX.out; omega)
          have yw := IntWalk.i64_in (y.a : Int) (by obtain ⟨h1, h2, h3, h4⟩ := HY.out; omega)
          have zw := IntWalk.i64_in ((y.a : Int) - x.a) (by obtain ⟨h1, h2, h3, h4⟩ := HX.out; obtain ⟨g1, g2, g3, g4⟩ := HY.out; omega)
          clear h
          go_wp2_with fail
          go_quiet (fail)
          go_wp2_with fail
          have hcase : ((y.a : Int) - x.a < 0) ∨ (0 < (y.a : Int) - x.a) := by have := HE.out; omega
          rcases hcase with hc | hc
          · have HC := Lib.hid hc
            have g1 : decide (-1 < (y.a : Int) - x.a) = false := decide_eq_false (by omega)
            have g2 : ¬ (-1 < (y.a : Int) - x.a) := by omega
            clear hc
            go_quiet (fail)
            go_wp2_with fail
            go_ret
            refine ⟨?_, Below.step HB0.out (hb.out.trans (Below.mono (B := wr.heap.size) ?_ hb.out.size))⟩
            case' refine_2 => exact (by repeat (first | exact Below.refl _ _ | with_reducible refine Below.drew ?_ | with_reducible refine below_drewN ?_ _ | with_reducible refine Below.setCell ?_ (by first | (simp; done) | (simp; omega) | omega) _ | with_reducible refine Below.alloc ?_ (by first | (simp; done) | (simp; omega) | omega) _))
            obtain ⟨h1, h2, h3, h4⟩ := HX.out
            obtain ⟨g1, g2, g3, g4⟩ := HY.out
            have hc := HC.out
            have hq := hq.out
            refine ret_int ?_
            rw [sgn_neg]
            have := HG.out
            unfold keyR
            omega
          · have HC := Lib.hid hc
            have g1 : decide (-1 < (y.a : Int) - x.a) = true := decide_eq_true (by omega)
            have g2 : (-1 < (y.a : Int) - x.a) := by omega
            have g3 : decide ((y.a : Int) - x.a < 1) = false := decide_eq_false (by omega)
            have g4 : ¬ ((y.a : Int) - x.a < 1) := by omega
            clear hc
            go_quiet (fail)
            go_wp2_with fail
            go_ret
            refine ⟨?_, Below.step HB0.out (hb.out.trans (Below.mono (B := wr.heap.size) ?_ hb.out.size))⟩
            case' refine_2 => exact (by repeat (first | exact Below.refl _ _ | with_reducible refine Below.drew ?_ | with_reducible refine below_drewN ?_ _ | with_reducible refine Below.setCell ?_ (by first | (simp; done) | (simp; omega) | omega) _ | with_reducible refine Below.alloc ?_ (by first | (simp; done) | (simp; omega) | omega) _))
            obtain ⟨h1, h2, h3, h4⟩ := HX.out
            obtain ⟨g1, g2, g3, g4⟩ := HY.out
            have hc := HC.out
            have hq := hq.out
            refine ret_int ?_
            rw [sgn_pos]
            have := HG.out
            unfold keyR
            omega
      · clear p q
        go_wp2_with fail
        go_ret
        obtain ⟨h1, h2, h3, h4, -⟩ := hq.out
        have e : keyR x = keyR y := by unfold keyR; rw [h1, h2, h3, h4]
        refine ⟨?_, Below.step HB0.out hb.out⟩
        refine ret_int ?_
        unfold keyR at e
        have := HG.out
        unfold keyR
        rw [show (degM x : Int) * 18446744073709551616 - _ - (_) = 0 by omega]
        rfl
  · have hn : ((degM x : Int) - (degM y : Int) != 0) = true := by simp; omega
    have HG : Hid (¬ degM x = degM y) := h
    have L1 := Lib.hid (And.intro (keyR_lt HX.out) (keyR_lt HY.out))
    clear h
    unfold mv
    rcases Int.lt_or_gt_of_ne (show (degM x : Int) - (degM y : Int) ≠ 0 by have := HG.out; omega) with hc | hc
    · have HC := Lib.hid hc
      have g2 : ¬ (-1 < (degM x : Int) - (degM y : Int)) := by omega
      clear hc
      go_wp2_with fail
      go_ret
      refine ⟨ret_int ?_, Below.step HB0.out HB1.out⟩
      rw [sgn_neg]
      have := HC.out
      have := L1.out
      omega
    · have HC := Lib.hid hc
      have g2 : (-1 < (degM x : Int) - (degM y : Int)) := by omega
      have g4 : ¬ ((degM x : Int) - (degM y : Int) < 1) := by omega
      clear hc
      go_wp2_with fail
      go_ret
      refine ⟨ret_int ?_, Below.step HB0.out HB1.out⟩
      rw [sgn_pos]
      have := HC.out
      have := L1.out
      omega

theorem rCmp_any {o : Int} (_ : 0 ≤ o) (_ : o ≤ 255) {x y : M4} (hx : OkM x) (hy : OkM y) (w : World) : Calls Try.prog 20 #[.int .u8 o, mv x, mv y] w fun e w' => e = .returned (.int .i64 (sgn (keyM o x - keyM o y))) ∧ Below w.heap.size w w' := by
  by_cases h1 : o = 1
  · subst h1; exact rCmp_one hx hy w
  by_cases h2 : o = 2
  · subst h2; exact rCmp_two hx hy w
  exact rCmp_else h1 h2 hx hy w

end Go.Proofs.Ytikbjjechhdclaa
