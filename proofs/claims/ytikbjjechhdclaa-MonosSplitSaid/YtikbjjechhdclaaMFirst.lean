/- Walks: how many letters there are; the first, and the last, letter of which two have not as many. -/
import Derived.Test.YtikbjjechhdclaaMMul
namespace Go.Proofs.Ytikbjjechhdclaa
open Go.RowKit

def degM (x : M4) : Nat := x.a + x.b + x.c + x.d
theorem run_index (T : TypeId) (a b c d : Int) (w : World) (hT : T = 24) : (Instr.index T (.agg #[.int .u16 a, .int .u16 b, .int .u16 c, .int .u16 d]) (.int .i64 0)).run Try.prog w = .ok (.int .u16 a) w ∧ (Instr.index T (.agg #[.int .u16 a, .int .u16 b, .int .u16 c, .int .u16 d]) (.int .i64 1)).run Try.prog w = .ok (.int .u16 b) w ∧
    (Instr.index T (.agg #[.int .u16 a, .int .u16 b, .int .u16 c, .int .u16 d]) (.int .i64 2)).run Try.prog w = .ok (.int .u16 c) w ∧ (Instr.index T (.agg #[.int .u16 a, .int .u16 b, .int .u16 c, .int .u16 d]) (.int .i64 3)).run Try.prog w = .ok (.int .u16 d) w := by
  subst hT
  refine ⟨?_, ?_, ?_, ?_⟩ <;> kernel_rfl
theorem ret_int {k : IntKind} {a b : Int} (h : a = b) : Ending.returned (.int k a) = .returned (.int k b) := by rw [h]
theorem sgn_same {p q : Int} (h : (p < 0 ∧ q < 0) ∨ (0 < p ∧ 0 < q)) : sgn p = sgn q := by
  rcases h with ⟨h1, h2⟩ | ⟨h1, h2⟩
  · rw [sgn_neg h1, sgn_neg h2]
  · rw [sgn_pos h1, sgn_pos h2]
def keyL (x : M4) : Nat := ((x.a * 65536 + x.b) * 65536 + x.c) * 65536 + x.d
def keyR (x : M4) : Nat := ((x.d * 65536 + x.c) * 65536 + x.b) * 65536 + x.a

set_option maxRecDepth 100000 in
set_option maxHeartbeats 400000 in
theorem Degree_any {x : M4} (hx : OkM x) (w : World) : Calls Try.prog 17 #[mv x] w fun e w' => e = .returned (.int .i64 (degM x)) ∧ Below w.heap.size w w' := by
  have HX := Lib.hid hx
  clear hx
  unfold mv
  go_enter Try.func17, Try.ntmps17
  go_wp2_with fail
  go_loopw [3, 7] (fun n i wr => ((i = .int .i64 0 ∧ n = .int .i64 0) ∨ (i = .int .i64 1 ∧ n = .int .i64 (x.a : Int)) ∨ (i = .int .i64 2 ∧ n = .int .i64 ((x.a + x.b : Nat) : Int)) ∨ (i = .int .i64 3 ∧ n = .int .i64 ((x.a + x.b + x.c : Nat) : Int)) ∨ (i = .int .i64 4 ∧ n = .int .i64 ((x.a + x.b + x.c + x.d : Nat) : Int))) ∧ Hid (Below w.heap.size w wr)) (fun _ i _ => 4 - (intOf i).toNat)
  case atStart => exact ⟨.inl ⟨rfl, rfl⟩, Lib.hid (by repeat (first | exact Below.refl _ _ | with_reducible refine Below.drew ?_ | with_reducible refine below_drewN ?_ _ | with_reducible refine Below.setCell ?_ (by first | (simp; done) | (simp; omega) | omega) _ | with_reducible refine Below.alloc ?_ (by first | (simp; done) | (simp; omega) | omega) _))⟩
  case round =>
    obtain ⟨hr, hb⟩ := hrel
    obtain ⟨i0, i1, i2, i3⟩ := run_index 24 (x.a : Int) x.b x.c x.d wr rfl

    have wa := IntWalk.i64_in (x.a : Int) (by obtain ⟨h1, h2, h3, h4⟩ := HX.out; omega)
    have wb := IntWalk.i64_in (x.b : Int) (by obtain ⟨h1, h2, h3, h4⟩ := HX.out; omega)
    have wc := IntWalk.i64_in (x.c : Int) (by obtain ⟨h1, h2, h3, h4⟩ := HX.out; omega)
    have wd := IntWalk.i64_in (x.d : Int) (by obtain ⟨h1, h2, h3, h4⟩ := HX.out; omega)
    have s2 := IntWalk.i64_in ((x.a : Int) + (x.b : Int)) (by obtain ⟨h1, h2, h3, h4⟩ := HX.out; omega)
    have s3 := IntWalk.i64_in ((x.a : Int) + (x.b : Int) + (x.c : Int)) (by obtain ⟨h1, h2, h3, h4⟩ := HX.out; omega)
    have s4 := IntWalk.i64_in ((x.a : Int) + (x.b : Int) + (x.c : Int) + (x.d : Int)) (by obtain ⟨h1, h2, h3, h4⟩ := HX.out; omega)
    rcases hr with ⟨rfl, rfl⟩ | ⟨rfl, rfl⟩ | ⟨rfl, rfl⟩ | ⟨rfl, rfl⟩ | ⟨rfl, rfl⟩
    · go_wp2_with fail
      refine ⟨⟨.inr <| .inl ⟨rfl, by go_num⟩, hb⟩, by simp [intOf]⟩
    · go_wp2_with fail
      refine ⟨⟨.inr <| .inr <| .inl ⟨rfl, by go_num⟩, hb⟩, by simp [intOf]⟩
    · go_wp2_with fail
      refine ⟨⟨.inr <| .inr <| .inr <| .inl ⟨rfl, by go_num⟩, hb⟩, by simp [intOf]⟩
    · go_wp2_with fail
      refine ⟨⟨.inr <| .inr <| .inr <| .inr <| ⟨rfl, by go_num⟩, hb⟩, by simp [intOf]⟩
    · go_wp2_with fail
      go_ret
      exact ⟨rfl, hb.out⟩

set_option maxRecDepth 100000 in
set_option maxHeartbeats 1000000 in
theorem byFirst_any {x y : M4} (hx : OkM x) (hy : OkM y) (w : World) : Calls Try.prog 27 #[mv x, mv y] w fun e w' => e = .returned (.int .i64 (sgn ((keyL x : Int) - (keyL y : Int)))) ∧ Below w.heap.size w w' := by
  have HX := Lib.hid hx
  have HY := Lib.hid hy
  clear hx hy
  obtain ⟨W0, e0, n1, n2, hb0, hs0⟩ := box_2 w x y
  have HB0 := Lib.hid hb0
  have N1 := n1.keep
  have N2 := n2.keep
  clear n1 n2 hb0
  unfold mv
  go_enter Try.func27, Try.ntmps27
  go_wp2_with fail
  clear e0
  go_loopw [6] (fun i wr => ((i = .int .i64 0 ∧ Hid (True)) ∨ (i = .int .i64 1 ∧ Hid (x.a = y.a ∧ True)) ∨ (i = .int .i64 2 ∧ Hid (x.a = y.a ∧ x.b = y.b ∧ True)) ∨ (i = .int .i64 3 ∧ Hid (x.a = y.a ∧ x.b = y.b ∧ x.c = y.c ∧ True)) ∨ (i = .int .i64 4 ∧ Hid (x.a = y.a ∧ x.b = y.b ∧ x.c = y.c ∧ x.d = y.d ∧ True))) ∧ Hid (Below W0.heap.size W0 wr)) (fun i _ => 4 - (intOf i).toNat)
  case atStart => exact ⟨.inl ⟨rfl, trivial⟩, Lib.hid (Below.refl _ _)⟩
  case round =>
    obtain ⟨hr, hb⟩ := hrel
    have p := (N1.out _ hb.out).c4
    have q := (N2.out _ hb.out).c4
    rcases hr with ⟨rfl, hq⟩ | ⟨rfl, hq⟩ | ⟨rfl, hq⟩ | ⟨rfl, hq⟩ | ⟨rfl, hq⟩
    · have HP := Lib.hid p
      have HQ := Lib.hid q
      have p := p.1
      have q := q.1
      by_cases h : x.a = y.a
      · have hn : ((x.a : Int) != (y.a : Int)) = false := by rw [h]; simp
        have HO : Hid (x.a = y.a) := h
        clear h
        go_wp2_with fail
        go_quiet (fail)
        go_wp2_with fail
        have hd : Below W0.heap.size W0 (wr.drewN nq) := (hb.out.trans (by exact ((by repeat (first | exact Below.refl _ _ | with_reducible refine Below.drew ?_ | with_reducible refine below_drewN ?_ _ | with_reducible refine Below.setCell ?_ (by first | (simp; done) | (simp; omega) | omega) _ | with_reducible refine Below.alloc ?_ (by first | (simp; done) | (simp; omega) | omega) _)) : Below wr.heap.size wr (wr.drewN nq)).mono hb.out.size))
        exact ⟨⟨.inr <| .inl ⟨by go_num, ⟨HO.out, trivial⟩⟩, Lib.hid hd⟩, by simp [intOf]⟩
      · have hn : ((x.a : Int) != (y.a : Int)) = true := by simp; omega
        have HO : Hid (¬ x.a = y.a) := h
        clear h
        go_wp2_with fail
        go_quiet (fail)
        go_wp2_with fail
        go_quiet (first | (go_at_call 33; refine (compare_u16 _ _ _).mono ?_; rintro e w1 ⟨rfl, rfl⟩; exact ⟨rfl, _, rfl⟩))
        go_wp2_with fail
        go_ret
        refine ⟨?_, Below.step HB0.out (hb.out.trans (Below.mono (B := wr.heap.size) ?_ hb.out.size))⟩
        case' refine_2 => exact (by repeat (first | exact Below.refl _ _ | with_reducible refine Below.drew ?_ | with_reducible refine below_drewN ?_ _ | with_reducible refine Below.setCell ?_ (by first | (simp; done) | (simp; omega) | omega) _ | with_reducible refine Below.alloc ?_ (by first | (simp; done) | (simp; omega) | omega) _))
        obtain ⟨h1, h2, h3, h4⟩ := HX.out
        obtain ⟨g1, g2, g3, g4⟩ := HY.out
        have ho := HO.out
        have hq := hq.out
        refine ret_int (sgn_same ?_)
        unfold keyL
        omega
    · have HP := Lib.hid p
      have HQ := Lib.hid q
      have p := p.2.1
      have q := q.2.1
      by_cases h : x.b = y.b
      · have hn : ((x.b : Int) != (y.b : Int)) = false := by rw [h]; simp
        have HO : Hid (x.b = y.b) := h
        clear h
        go_wp2_with fail
        go_quiet (fail)
        go_wp2_with fail
        have hd : Below W0.heap.size W0 (wr.drewN nq) := (hb.out.trans (by exact ((by repeat (first | exact Below.refl _ _ | with_reducible refine Below.drew ?_ | with_reducible refine below_drewN ?_ _ | with_reducible refine Below.setCell ?_ (by first | (simp; done) | (simp; omega) | omega) _ | with_reducible refine Below.alloc ?_ (by first | (simp; done) | (simp; omega) | omega) _)) : Below wr.heap.size wr (wr.drewN nq)).mono hb.out.size))
        exact ⟨⟨.inr <| .inr <| .inl ⟨by go_num, ⟨hq.out.1, HO.out, trivial⟩⟩, Lib.hid hd⟩, by simp [intOf]⟩
      · have hn : ((x.b : Int) != (y.b : Int)) = true := by simp; omega
        have HO : Hid (¬ x.b = y.b) := h
        clear h
        go_wp2_with fail
        go_quiet (fail)
        go_wp2_with fail
        go_quiet (first | (go_at_call 33; refine (compare_u16 _ _ _).mono ?_; rintro e w1 ⟨rfl, rfl⟩; exact ⟨rfl, _, rfl⟩))
        go_wp2_with fail
        go_ret
        refine ⟨?_, Below.step HB0.out (hb.out.trans (Below.mono (B := wr.heap.size) ?_ hb.out.size))⟩
        case' refine_2 => exact (by repeat (first | exact Below.refl _ _ | with_reducible refine Below.drew ?_ | with_reducible refine below_drewN ?_ _ | with_reducible refine Below.setCell ?_ (by first | (simp; done) | (simp; omega) | omega) _ | with_reducible refine Below.alloc ?_ (by first | (simp; done) | (simp; omega) | omega) _))
        obtain ⟨h1, h2, h3, h4⟩ := HX.out
        obtain ⟨g1, g2, g3, g4⟩ := HY.out
        have ho := HO.out
        have hq := hq.out
        refine ret_int (sgn_same ?_)
        unfold keyL
        omega
    · have HP := Lib.hid p
      have HQ := Lib.hid q
      have p := p.2.2.1
      have q := q.2.2.1
      by_cases h : x.c = y.c
      · have hn : ((x.c : Int) != (y.c : Int)) = false := by rw [h]; simp
        have HO : Hid (x.c = y.c) := h
        clear h
        go_wp2_with fail
        go_quiet (fail)
        go_wp2_with fail
        have hd : Below W0.heap.size W0 (wr.drewN nq) := (hb.out.trans (by exact ((by repeat (first | exact Below.refl _ _ | with_reducible refine Below.drew ?_ | with_reducible refine below_drewN ?_ _ | with_reducible refine Below.setCell ?_ (by first | (simp; done) | (simp; omega) | omega) _ | with_reducible refine Below.alloc ?_ (by first | (simp; done) | (simp; omega) | omega) _)) : Below wr.heap.size wr (wr.drewN nq)).mono hb.out.size))
        exact ⟨⟨.inr <| .inr <| .inr <| .inl ⟨by go_num, ⟨hq.out.1, hq.out.2.1, HO.out, trivial⟩⟩, Lib.hid hd⟩, by simp [intOf]⟩
      · have hn : ((x.c : Int) != (y.c : Int)) = true := by simp; omega
        have HO : Hid (¬ x.c = y.c) := h
        clear h
        go_wp2_with fail
        go_quiet (fail)
        go_wp2_with fail
        go_quiet (first | (go_at_call 33; refine (compare_u16 _ _ _).mono ?_; rintro e w1 ⟨rfl, rfl⟩; exact ⟨rfl, _, rfl⟩))
        go_wp2_with fail
        go_ret
        refine ⟨?_, Below.step HB0.out (hb.out.trans (Below.mono (B := wr.heap.size) ?_ hb.out.size))⟩
        case' refine_2 => exact (by repeat (first | exact Below.refl _ _ | with_reducible refine Below.drew ?_ | with_reducible refine below_drewN ?_ _ | with_reducible refine Below.setCell ?_ (by first | (simp; done) | (simp; omega) | omega) _ | with_reducible refine Below.alloc ?_ (by first | (simp; done) | (simp; omega) | omega) _))
        obtain ⟨h1, h2, h3, h4⟩ := HX.out
        obtain ⟨g1, g2, g3, g4⟩ := HY.out
        have ho := HO.out
        have hq := hq.out
        refine ret_int (sgn_same ?_)
        unfold keyL
        omega
    · have HP := Lib.hid p
      have HQ := Lib.hid q
      have p := p.2.2.2
      have q := q.2.2.2
      by_cases h : x.d = y.d
      · have hn : ((x.d : Int) != (y.d : Int)) = false := by rw [h]; simp
        have HO : Hid (x.d = y.d) := h
        clear h
        go_wp2_with fail
        go_quiet (fail)
        go_wp2_with fail
        have hd : Below W0.heap.size W0 (wr.drewN nq) := (hb.out.trans (by exact ((by repeat (first | exact Below.refl _ _ | with_reducible refine Below.drew ?_ | with_reducible refine below_drewN ?_ _ | with_reducible refine Below.setCell ?_ (by first | (simp; done) | (simp; omega) | omega) _ | with_reducible refine Below.alloc ?_ (by first | (simp; done) | (simp; omega) | omega) _)) : Below wr.heap.size wr (wr.drewN nq)).mono hb.out.size))
        exact ⟨⟨.inr <| .inr <| .inr <| .inr <| ⟨by go_num, ⟨hq.out.1, hq.out.2.1, hq.out.2.2.1, HO.out, trivial⟩⟩, Lib.hid hd⟩, by simp [intOf]⟩
      · have hn : ((x.d : Int) != (y.d : Int)) = true := by simp; omega
        have HO : Hid (¬ x.d = y.d) := h
        clear h
        go_wp2_with fail
        go_quiet (fail)
        go_wp2_with fail
        go_quiet (first | (go_at_call 33; refine (compare_u16 _ _ _).mono ?_; rintro e w1 ⟨rfl, rfl⟩; exact ⟨rfl, _, rfl⟩))
        go_wp2_with fail
        go_ret
        refine ⟨?_, Below.step HB0.out (hb.out.trans (Below.mono (B := wr.heap.size) ?_ hb.out.size))⟩
        case' refine_2 => exact (by repeat (first | exact Below.refl _ _ | with_reducible refine Below.drew ?_ | with_reducible refine below_drewN ?_ _ | with_reducible refine Below.setCell ?_ (by first | (simp; done) | (simp; omega) | omega) _ | with_reducible refine Below.alloc ?_ (by first | (simp; done) | (simp; omega) | omega) _))
        obtain ⟨h1, h2, h3, h4⟩ := HX.out
        obtain ⟨g1, g2, g3, g4⟩ := HY.out
        have ho := HO.out
        have hq := hq.out
        refine ret_int (sgn_same ?_)
        unfold keyL
        omega
    · clear p q
      go_wp2_with fail
      go_ret
      obtain ⟨h1, h2, h3, h4, -⟩ := hq.out
      refine ⟨?_, Below.step HB0.out hb.out⟩
      have e : keyL x = keyL y := by unfold keyL; rw [h1, h2, h3, h4]
      rw [e, Int.sub_self]
      rfl

set_option maxRecDepth 100000 in
set_option maxHeartbeats 1000000 in
theorem byLast_any {x y : M4} (hx : OkM x) (hy : OkM y) (w : World) : Calls Try.prog 32 #[mv x, mv y] w fun e w' => e = .returned (.int .i64 (sgn ((keyR y : Int) - (keyR x : Int)))) ∧ Below w.heap.size w w' := by
  have HX := Lib.hid hx
  have HY := Lib.hid hy
  clear hx hy
  obtain ⟨W0, e0, n1, n2, hb0, hs0⟩ := box_2 w x y
  have HB0 := Lib.hid hb0
  have N1 := n1.keep
  have N2 := n2.keep
  clear n1 n2 hb0
  unfold mv
  go_enter Try.func32, Try.ntmps32
  go_wp2_with fail
  clear e0
  go_loopw [5] (fun i wr => ((i = .int .i64 3 ∧ Hid (True)) ∨ (i = .int .i64 2 ∧ Hid (x.d = y.d ∧ True)) ∨ (i = .int .i64 1 ∧ Hid (x.d = y.d ∧ x.c = y.c ∧ True)) ∨ (i = .int .i64 0 ∧ Hid (x.d = y.d ∧ x.c = y.c ∧ x.b = y.b ∧ True)) ∨ (i = .int .i64 (-1) ∧ Hid (x.d = y.d ∧ x.c = y.c ∧ x.b = y.b ∧ x.a = y.a ∧ True))) ∧ Hid (Below W0.heap.size W0 wr)) (fun i _ => (intOf i + 1).toNat)
  case atStart => exact ⟨.inl ⟨rfl, trivial⟩, Lib.hid (Below.refl _ _)⟩
  case round =>
    obtain ⟨hr, hb⟩ := hrel
    have p := (N1.out _ hb.out).c4
    have q := (N2.out _ hb.out).c4
    rcases hr with ⟨rfl, hq⟩ | ⟨rfl, hq⟩ | ⟨rfl, hq⟩ | ⟨rfl, hq⟩ | ⟨rfl, hq⟩
    · have HP := Lib.hid p
      have HQ := Lib.hid q
      have p := p.2.2.2
      have q := q.2.2.2
      by_cases h : x.d = y.d
      · have hn : ((x.d : Int) != (y.d : Int)) = false := by rw [h]; simp
        have HO : Hid (x.d = y.d) := h
        clear h
        go_wp2_with fail
        go_quiet (fail)
        go_wp2_with fail
        have hd : Below W0.heap.size W0 (wr.drewN nq) := (hb.out.trans (by exact ((by repeat (first | exact Below.refl _ _ | with_reducible refine Below.drew ?_ | with_reducible refine below_drewN ?_ _ | with_reducible refine Below.setCell ?_ (by first | (simp; done) | (simp; omega) | omega) _ | with_reducible refine Below.alloc ?_ (by first | (simp; done) | (simp; omega) | omega) _)) : Below wr.heap.size wr (wr.drewN nq)).mono hb.out.size))
        exact ⟨⟨.inr <| .inl ⟨by go_num, ⟨HO.out, trivial⟩⟩, Lib.hid hd⟩, by simp [intOf]⟩
      · have hn : ((x.d : Int) != (y.d : Int)) = true := by simp; omega
        have HO : Hid (¬ x.d = y.d) := h
        clear h
        go_wp2_with fail
        go_quiet (fail)
        go_wp2_with fail
        go_quiet (first | (go_at_call 33; refine (compare_u16 _ _ _).mono ?_; rintro e w1 ⟨rfl, rfl⟩; exact ⟨rfl, _, rfl⟩))
        go_wp2_with fail
        go_ret
        refine ⟨?_, Below.step HB0.out (hb.out.trans (Below.mono (B := wr.heap.size) ?_ hb.out.size))⟩
        case' refine_2 => exact (by repeat (first | exact Below.refl _ _ | with_reducible refine Below.drew ?_ | with_reducible refine below_drewN ?_ _ | with_reducible refine Below.setCell ?_ (by first | (simp; done) | (simp; omega) | omega) _ | with_reducible refine Below.alloc ?_ (by first | (simp; done) | (simp; omega) | omega) _))
        obtain ⟨h1, h2, h3, h4⟩ := HX.out
        obtain ⟨g1, g2, g3, g4⟩ := HY.out
        have ho := HO.out
        have hq := hq.out
        refine ret_int (sgn_same ?_)
        unfold keyR
        omega
    · have HP := Lib.hid p
      have HQ := Lib.hid q
      have p := p.2.2.1
      have q := q.2.2.1
      by_cases h : x.c = y.c
      · have hn : ((x.c : Int) != (y.c : Int)) = false := by rw [h]; simp
        have HO : Hid (x.c = y.c) := h
        clear h
        go_wp2_with fail
        go_quiet (fail)
        go_wp2_with fail
        have hd : Below W0.heap.size W0 (wr.drewN nq) := (hb.out.trans (by exact ((by repeat (first | exact Below.refl _ _ | with_reducible refine Below.drew ?_ | with_reducible refine below_drewN ?_ _ | with_reducible refine Below.setCell ?_ (by first | (simp; done) | (simp; omega) | omega) _ | with_reducible refine Below.alloc ?_ (by first | (simp; done) | (simp; omega) | omega) _)) : Below wr.heap.size wr (wr.drewN nq)).mono hb.out.size))
        exact ⟨⟨.inr <| .inr <| .inl ⟨by go_num, ⟨hq.out.1, HO.out, trivial⟩⟩, Lib.hid hd⟩, by simp [intOf]⟩
      · have hn : ((x.c : Int) != (y.c : Int)) = true := by simp; omega
        have HO : Hid (¬ x.c = y.c) := h
        clear h
        go_wp2_with fail
        go_quiet (fail)
        go_wp2_with fail
        go_quiet (first | (go_at_call 33; refine (compare_u16 _ _ _).mono ?_; rintro e w1 ⟨rfl, rfl⟩; exact ⟨rfl, _, rfl⟩))
        go_wp2_with fail
        go_ret
        refine ⟨?_, Below.step HB0.out (hb.out.trans (Below.mono (B := wr.heap.size) ?_ hb.out.size))⟩
        case' refine_2 => exact (by repeat (first | exact Below.refl _ _ | with_reducible refine Below.drew ?_ | with_reducible refine below_drewN ?_ _ | with_reducible refine Below.setCell ?_ (by first | (simp; done) | (simp; omega) | omega) _ | with_reducible refine Below.alloc ?_ (by first | (simp; done) | (simp; omega) | omega) _))
        obtain ⟨h1, h2, h3, h4⟩ := HX.out
        obtain ⟨g1, g2, g3, g4⟩ := HY.out
        have ho := HO.out
        have hq := hq.out
        refine ret_int (sgn_same ?_)
        unfold keyR
        omega
    · have HP := Lib.hid p
      have HQ := Lib.hid q
      have p := p.2.1
      have q := q.2.1
      by_cases h : x.b = y.b
      · have hn : ((x.b : Int) != (y.b : Int)) = false := by rw [h]; simp
        have HO : Hid (x.b = y.b) := h
        clear h
        go_wp2_with fail
        go_quiet (fail)
        go_wp2_with fail
        have hd : Below W0.heap.size W0 (wr.drewN nq) := (hb.out.trans (by exact ((by repeat (first | exact Below.refl _ _ | with_reducible refine Below.drew ?_ | with_reducible refine below_drewN ?_ _ | with_reducible refine Below.setCell ?_ (by first | (simp; done) | (simp; omega) | omega) _ | with_reducible refine Below.alloc ?_ (by first | (simp; done) | (simp; omega) | omega) _)) : Below wr.heap.size wr (wr.drewN nq)).mono hb.out.size))
        exact ⟨⟨.inr <| .inr <| .inr <| .inl ⟨by go_num, ⟨hq.out.1, hq.out.2.1, HO.out, trivial⟩⟩, Lib.hid hd⟩, by simp [intOf]⟩
      · have hn : ((x.b : Int) != (y.b : Int)) = true := by simp; omega
        have HO : Hid (¬ x.b = y.b) := h
        clear h
        go_wp2_with fail
        go_quiet (fail)
        go_wp2_with fail
        go_quiet (first | (go_at_call 33; refine (compare_u16 _ _ _).mono ?_; rintro e w1 ⟨rfl, rfl⟩; exact ⟨rfl, _, rfl⟩))
        go_wp2_with fail
        go_ret
        refine ⟨?_, Below.step HB0.out (hb.out.trans (Below.mono (B := wr.heap.size) ?_ hb.out.size))⟩
        case' refine_2 => exact (by repeat (first | exact Below.refl _ _ | with_reducible refine Below.drew ?_ | with_reducible refine below_drewN ?_ _ | with_reducible refine Below.setCell ?_ (by first | (simp; done) | (simp; omega) | omega) _ | with_reducible refine Below.alloc ?_ (by first | (simp; done) | (simp; omega) | omega) _))
        obtain ⟨h1, h2, h3, h4⟩ := HX.out
        obtain ⟨g1, g2, g3, g4⟩ := HY.out
        have ho := HO.out
        have hq := hq.out
        refine ret_int (sgn_same ?_)
        unfold keyR
        omega
    · have HP := Lib.hid p
      have HQ := Lib.hid q
      have p := p.1
      have q := q.1
      by_cases h : x.a = y.a
      · have hn : ((x.a : Int) != (y.a : Int)) = false := by rw [h]; simp
        have HO : Hid (x.a = y.a) := h
        clear h
        go_wp2_with fail
        go_quiet (fail)
        go_wp2_with fail
        have hd : Below W0.heap.size W0 (wr.drewN nq) := (hb.out.trans (by exact ((by repeat (first | exact Below.refl _ _ | with_reducible refine Below.drew ?_ | with_reducible refine below_drewN ?_ _ | with_reducible refine Below.setCell ?_ (by first | (simp; done) | (simp; omega) | omega) _ | with_reducible refine Below.alloc ?_ (by first | (simp; done) | (simp; omega) | omega) _)) : Below wr.heap.size wr (wr.drewN nq)).mono hb.out.size))
        exact ⟨⟨.inr <| .inr <| .inr <| .inr <| ⟨by go_num, ⟨hq.out.1, hq.out.2.1, hq.out.2.2.1, HO.out, trivial⟩⟩, Lib.hid hd⟩, by simp [intOf]⟩
      · have hn : ((x.a : Int) != (y.a : Int)) = true := by simp; omega
        have HO : Hid (¬ x.a = y.a) := h
        clear h
        go_wp2_with fail
        go_quiet (fail)
        go_wp2_with fail
        go_quiet (first | (go_at_call 33; refine (compare_u16 _ _ _).mono ?_; rintro e w1 ⟨rfl, rfl⟩; exact ⟨rfl, _, rfl⟩))
        go_wp2_with fail
        go_ret
        refine ⟨?_, Below.step HB0.out (hb.out.trans (Below.mono (B := wr.heap.size) ?_ hb.out.size))⟩
        case' refine_2 => exact (by repeat (first | exact Below.refl _ _ | with_reducible refine Below.drew ?_ | with_reducible refine below_drewN ?_ _ | with_reducible refine Below.setCell ?_ (by first | (simp; done) | (simp; omega) | omega) _ | with_reducible refine Below.alloc ?_ (by first | (simp; done) | (simp; omega) | omega) _))
        obtain ⟨h1, h2, h3, h4⟩ := HX.out
        obtain ⟨g1, g2, g3, g4⟩ := HY.out
        have ho := HO.out
        have hq := hq.out
        refine ret_int (sgn_same ?_)
        unfold keyR
        omega
    · clear p q
      go_wp2_with fail
      go_ret
      obtain ⟨h1, h2, h3, h4, -⟩ := hq.out
      refine ⟨?_, Below.step HB0.out hb.out⟩
      have e : keyR x = keyR y := by unfold keyR; rw [h1, h2, h3, h4]
      rw [e, Int.sub_self]
      rfl

end Go.Proofs.Ytikbjjechhdclaa
