/- Walks of the reference: the product of two, one without the other, the least that has both, how many letters. -/
import Derived.Test.YtikbjjechhdclaaMCmps
import Derived.StillTailTactics
namespace Go.Proofs.Ytikbjjechhdclaa
open Go.RowKit

set_option maxRecDepth 100000 in
set_option maxHeartbeats 1000000 in
theorem rMul_raw (a0 a1 a2 a3 b0 b1 b2 b3 : Nat) (w : World) (ha : a0 < 65536 ∧ a1 < 65536 ∧ a2 < 65536 ∧ a3 < 65536) (hb : b0 < 65536 ∧ b1 < 65536 ∧ b2 < 65536 ∧ b3 < 65536) :
    Calls Try.prog 13 #[.agg #[.int .u16 a0, .int .u16 a1, .int .u16 a2, .int .u16 a3], .agg #[.int .u16 b0, .int .u16 b1, .int .u16 b2, .int .u16 b3]] w
      fun e w' => (∃ v, e = .returned v ∧ ((a0 + b0 ≤ 65535 ∧ a1 + b1 ≤ 65535 ∧ a2 + b2 ≤ 65535 ∧ a3 + b3 ≤ 65535) → v = .tuple #[.agg #[.int .u16 (((a0 + b0) : Nat) : Int), .int .u16 (((a1 + b1) : Nat) : Int), .int .u16 (((a2 + b2) : Nat) : Int), .int .u16 (((a3 + b3) : Nat) : Int)], .int .i64 0]) ∧ (¬(a0 + b0 ≤ 65535 ∧ a1 + b1 ≤ 65535 ∧ a2 + b2 ≤ 65535 ∧ a3 + b3 ≤ 65535) → v = .tuple #[.agg #[.int .u16 0, .int .u16 0, .int .u16 0, .int .u16 0], .int .i64 3])) ∧ Below w.heap.size w w' := by
  have HA := Lib.hid ha
  have HB := Lib.hid hb
  clear ha hb
  go_enter Try.func13, Try.ntmps13
  go_wp2_with fail
  go_loopw [7] (fun i wr => ((i = .int .i64 0 ∧ BoxV wr (w.heap.size + 1 + 1 + 1) [.int .u16 0, .int .u16 0, .int .u16 0, .int .u16 0] ∧ Hid (True)) ∨ (i = .int .i64 1 ∧ BoxV wr (w.heap.size + 1 + 1 + 1) [.int .u16 (((a0 + b0) : Nat) : Int), .int .u16 0, .int .u16 0, .int .u16 0] ∧ Hid (a0 + b0 ≤ 65535 ∧ True)) ∨ (i = .int .i64 2 ∧ BoxV wr (w.heap.size + 1 + 1 + 1) [.int .u16 (((a0 + b0) : Nat) : Int), .int .u16 (((a1 + b1) : Nat) : Int), .int .u16 0, .int .u16 0] ∧ Hid (a0 + b0 ≤ 65535 ∧ a1 + b1 ≤ 65535 ∧ True)) ∨ (i = .int .i64 3 ∧ BoxV wr (w.heap.size + 1 + 1 + 1) [.int .u16 (((a0 + b0) : Nat) : Int), .int .u16 (((a1 + b1) : Nat) : Int), .int .u16 (((a2 + b2) : Nat) : Int), .int .u16 0] ∧ Hid (a0 + b0 ≤ 65535 ∧ a1 + b1 ≤ 65535 ∧ a2 + b2 ≤ 65535 ∧ True)) ∨ (i = .int .i64 4 ∧ BoxV wr (w.heap.size + 1 + 1 + 1) [.int .u16 (((a0 + b0) : Nat) : Int), .int .u16 (((a1 + b1) : Nat) : Int), .int .u16 (((a2 + b2) : Nat) : Int), .int .u16 (((a3 + b3) : Nat) : Int)] ∧ Hid (a0 + b0 ≤ 65535 ∧ a1 + b1 ≤ 65535 ∧ a2 + b2 ≤ 65535 ∧ a3 + b3 ≤ 65535 ∧ True))) ∧ BoxV wr w.heap.size [.int .u16 a0, .int .u16 a1, .int .u16 a2, .int .u16 a3] ∧ BoxV wr (w.heap.size + 1) [.int .u16 b0, .int .u16 b1, .int .u16 b2, .int .u16 b3] ∧ BoxV wr (w.heap.size + 1 + 1) [.int .u16 0, .int .u16 0, .int .u16 0, .int .u16 0] ∧ Hid (Below w.heap.size w wr)) (fun i _ => 4 - (intOf i).toNat)
  case atStart =>
    refine ⟨.inl ⟨rfl, ?_, trivial⟩, ?_, ?_, ?_, Lib.hid (by repeat (first | exact Below.refl _ _ | with_reducible refine Below.drew ?_ | with_reducible refine below_drewN ?_ _ | with_reducible refine Below.setCell ?_ (by first | (simp; done) | (simp; omega) | omega) _ | with_reducible refine Below.alloc ?_ (by first | (simp; done) | (simp; omega) | omega) _))⟩
    all_goals
      intro i hi
      have h4 : i = 0 ∨ i = 1 ∨ i = 2 ∨ i = 3 := by simp at hi; omega
      rcases h4 with rfl | rfl | rfl | rfl <;> constructor <;> go_simp
  case round =>
    obtain ⟨hr, n1, n2, n3, hbw⟩ := hrel
    have N1 := Lib.hid n1
    have N2 := Lib.hid n2
    have N3 := Lib.hid n3
    have p := n1.c4
    have q := n2.c4
    have r := Lib.hid (And.intro n3.c4 n3.f4)
    clear n1 n2 n3
    rcases hr with ⟨rfl, n4, hok⟩ | ⟨rfl, n4, hok⟩ | ⟨rfl, n4, hok⟩ | ⟨rfl, n4, hok⟩ | ⟨rfl, n4, hok⟩
    · have HP := Lib.hid p
      have HQ := Lib.hid q
      have p := p.1
      have q := q.1
      have HX := Lib.hid (And.intro n4.c4 n4.f4)
      have N4 := Lib.hid n4
      clear n4
      by_cases h : a0 + b0 ≤ 65535
      · have c : wr.cell? ⟨(w.heap.size + 1 + 1 + 1), 0, none⟩ = some (.int .u16 0) := HX.out.1.1
        have f : wr.frozen? ⟨(w.heap.size + 1 + 1 + 1), 0, none⟩ = false := HX.out.2.1
        have HO : Hid (a0 + b0 ≤ 65535) := h
        have xw := IntWalk.i64_in (a0 : Int) (by have := HA.out; omega)
        have yw := IntWalk.i64_in (b0 : Int) (by have := HB.out; omega)
        have zw := IntWalk.i64_in ((a0 : Int) + b0) (by have := HA.out; have := HB.out; omega)
        have hw := IntWalk.u16_in ((a0 : Int) + b0) (by have := HA.out; have := HB.out; omega)
        have d2 : decide (65535 < (a0 : Int) + b0) = false := decide_eq_false (by omega)
        clear h
        go_wp2_with fail
        go_quiet (fail)
        go_wp2_with fail
        have hd : Below wr.heap.size wr (wr.drewN nq) := (by repeat (first | exact Below.refl _ _ | with_reducible refine Below.drew ?_ | with_reducible refine below_drewN ?_ _ | with_reducible refine Below.setCell ?_ (by first | (simp; done) | (simp; omega) | omega) _ | with_reducible refine Below.alloc ?_ (by first | (simp; done) | (simp; omega) | omega) _))
        have e4 := (((N4.out.below hd).set (k := 0) (by simp) (.int .u16 ((a0 : Int) + b0))))
        refine ⟨⟨.inr <| .inl ⟨rfl, ?_, ?_⟩, (N1.out.below hd).other (by simp; omega) _, (N2.out.below hd).other (by simp; omega) _, (N3.out.below hd).other (by simp) _, Lib.hid ?_⟩, by simp [intOf]⟩
        · exact e4
        · exact ⟨HO.out, trivial⟩
        · exact (hbw.out.trans (hd.mono hbw.out.size)).setCell (p := ⟨_, 0, none⟩) (by simp; omega) _
      · have hz := r.out
        have d0 : Hid (¬ (a0 + b0 ≤ 65535)) := h
        obtain ⟨⟨c0, c1, c2, c3⟩, f0, f1, f2, f3⟩ := hz
        have xw := IntWalk.i64_in (a0 : Int) (by have := HA.out; omega)
        have yw := IntWalk.i64_in (b0 : Int) (by have := HB.out; omega)
        have zw := IntWalk.i64_in ((a0 : Int) + b0) (by have := HA.out; have := HB.out; omega)
        have d2 : decide (65535 < (a0 : Int) + b0) = true := decide_eq_true (by omega)
        clear h
        go_wp2_with fail
        go_quiet (fail)
        go_wp2_with fail
        have hdw : Below wr.heap.size wr (wr.drewN nq) := (by repeat (first | exact Below.refl _ _ | with_reducible refine Below.drew ?_ | with_reducible refine below_drewN ?_ _ | with_reducible refine Below.setCell ?_ (by first | (simp; done) | (simp; omega) | omega) _ | with_reducible refine Below.alloc ?_ (by first | (simp; done) | (simp; omega) | omega) _))
        refine ret_cell2 (t := 4) (u := 5) (r := .int .i64 3) rfl rfl rfl rfl ((N3.out.below hdw).four _ _ _ _) ?_
        refine ⟨⟨_, rfl, fun h => absurd h (by have := d0.out; omega), fun _ => rfl⟩, ?_⟩
        exact below_four (hbw.out.trans (hdw.mono hbw.out.size)) (by omega) _ _ _ _
    · have HP := Lib.hid p
      have HQ := Lib.hid q
      have p := p.2.1
      have q := q.2.1
      have HX := Lib.hid (And.intro n4.c4 n4.f4)
      have N4 := Lib.hid n4
      clear n4
      by_cases h : a1 + b1 ≤ 65535
      · have c : wr.cell? ⟨(w.heap.size + 1 + 1 + 1), 1, none⟩ = some (.int .u16 0) := HX.out.1.2.1
        have f : wr.frozen? ⟨(w.heap.size + 1 + 1 + 1), 1, none⟩ = false := HX.out.2.2.1
        have HO : Hid (a1 + b1 ≤ 65535) := h
        have xw := IntWalk.i64_in (a1 : Int) (by have := HA.out; omega)
        have yw := IntWalk.i64_in (b1 : Int) (by have := HB.out; omega)
        have zw := IntWalk.i64_in ((a1 : Int) + b1) (by have := HA.out; have := HB.out; omega)
        have hw := IntWalk.u16_in ((a1 : Int) + b1) (by have := HA.out; have := HB.out; omega)
        have d2 : decide (65535 < (a1 : Int) + b1) = false := decide_eq_false (by omega)
        clear h
        go_wp2_with fail
        go_quiet (fail)
        go_wp2_with fail
        have hd : Below wr.heap.size wr (wr.drewN nq) := (by repeat (first | exact Below.refl _ _ | with_reducible refine Below.drew ?_ | with_reducible refine below_drewN ?_ _ | with_reducible refine Below.setCell ?_ (by first | (simp; done) | (simp; omega) | omega) _ | with_reducible refine Below.alloc ?_ (by first | (simp; done) | (simp; omega) | omega) _))
        have e4 := (((N4.out.below hd).set (k := 1) (by simp) (.int .u16 ((a1 : Int) + b1))))
        refine ⟨⟨.inr <| .inr <| .inl ⟨rfl, ?_, ?_⟩, (N1.out.below hd).other (by simp; omega) _, (N2.out.below hd).other (by simp; omega) _, (N3.out.below hd).other (by simp) _, Lib.hid ?_⟩, by simp [intOf]⟩
        · exact e4
        · exact ⟨hok.out.1, HO.out, trivial⟩
        · exact (hbw.out.trans (hd.mono hbw.out.size)).setCell (p := ⟨_, 1, none⟩) (by simp; omega) _
      · have hz := r.out
        have d0 : Hid (¬ (a1 + b1 ≤ 65535)) := h
        obtain ⟨⟨c0, c1, c2, c3⟩, f0, f1, f2, f3⟩ := hz
        have xw := IntWalk.i64_in (a1 : Int) (by have := HA.out; omega)
        have yw := IntWalk.i64_in (b1 : Int) (by have := HB.out; omega)
        have zw := IntWalk.i64_in ((a1 : Int) + b1) (by have := HA.out; have := HB.out; omega)
        have d2 : decide (65535 < (a1 : Int) + b1) = true := decide_eq_true (by omega)
        clear h
        go_wp2_with fail
        go_quiet (fail)
        go_wp2_with fail
        have hdw : Below wr.heap.size wr (wr.drewN nq) := (by repeat (first | exact Below.refl _ _ | with_reducible refine Below.drew ?_ | with_reducible refine below_drewN ?_ _ | with_reducible refine Below.setCell ?_ (by first | (simp; done) | (simp; omega) | omega) _ | with_reducible refine Below.alloc ?_ (by first | (simp; done) | (simp; omega) | omega) _))
        refine ret_cell2 (t := 4) (u := 5) (r := .int .i64 3) rfl rfl rfl rfl ((N3.out.below hdw).four _ _ _ _) ?_
        refine ⟨⟨_, rfl, fun h => absurd h (by have := d0.out; omega), fun _ => rfl⟩, ?_⟩
        exact below_four (hbw.out.trans (hdw.mono hbw.out.size)) (by omega) _ _ _ _
    · have HP := Lib.hid p
      have HQ := Lib.hid q
      have p := p.2.2.1
      have q := q.2.2.1
      have HX := Lib.hid (And.intro n4.c4 n4.f4)
      have N4 := Lib.hid n4
      clear n4
      by_cases h : a2 + b2 ≤ 65535
      · have c : wr.cell? ⟨(w.heap.size + 1 + 1 + 1), 2, none⟩ = some (.int .u16 0) := HX.out.1.2.2.1
        have f : wr.frozen? ⟨(w.heap.size + 1 + 1 + 1), 2, none⟩ = false := HX.out.2.2.2.1
        have HO : Hid (a2 + b2 ≤ 65535) := h
        have xw := IntWalk.i64_in (a2 : Int) (by have := HA.out; omega)
        have yw := IntWalk.i64_in (b2 : Int) (by have := HB.out; omega)
        have zw := IntWalk.i64_in ((a2 : Int) + b2) (by have := HA.out; have := HB.out; omega)
        have hw := IntWalk.u16_in ((a2 : Int) + b2) (by have := HA.out; have := HB.out; omega)
        have d2 : decide (65535 < (a2 : Int) + b2) = false := decide_eq_false (by omega)
        clear h
        go_wp2_with fail
        go_quiet (fail)
        go_wp2_with fail
        have hd : Below wr.heap.size wr (wr.drewN nq) := (by repeat (first | exact Below.refl _ _ | with_reducible refine Below.drew ?_ | with_reducible refine below_drewN ?_ _ | with_reducible refine Below.setCell ?_ (by first | (simp; done) | (simp; omega) | omega) _ | with_reducible refine Below.alloc ?_ (by first | (simp; done) | (simp; omega) | omega) _))
        have e4 := (((N4.out.below hd).set (k := 2) (by simp) (.int .u16 ((a2 : Int) + b2))))
        refine ⟨⟨.inr <| .inr <| .inr <| .inl ⟨rfl, ?_, ?_⟩, (N1.out.below hd).other (by simp; omega) _, (N2.out.below hd).other (by simp; omega) _, (N3.out.below hd).other (by simp) _, Lib.hid ?_⟩, by simp [intOf]⟩
        · exact e4
        · exact ⟨hok.out.1, hok.out.2.1, HO.out, trivial⟩
        · exact (hbw.out.trans (hd.mono hbw.out.size)).setCell (p := ⟨_, 2, none⟩) (by simp; omega) _
      · have hz := r.out
        have d0 : Hid (¬ (a2 + b2 ≤ 65535)) := h
        obtain ⟨⟨c0, c1, c2, c3⟩, f0, f1, f2, f3⟩ := hz
        have xw := IntWalk.i64_in (a2 : Int) (by have := HA.out; omega)
        have yw := IntWalk.i64_in (b2 : Int) (by have := HB.out; omega)
        have zw := IntWalk.i64_in ((a2 : Int) + b2) (by have := HA.out; have := HB.out; omega)
        have d2 : decide (65535 < (a2 : Int) + b2) = true := decide_eq_true (by omega)
        clear h
        go_wp2_with fail
        go_quiet (fail)
        go_wp2_with fail
        have hdw : Below wr.heap.size wr (wr.drewN nq) := (by repeat (first | exact Below.refl _ _ | with_reducible refine Below.drew ?_ | with_reducible refine below_drewN ?_ _ | with_reducible refine Below.setCell ?_ (by first | (simp; done) | (simp; omega) | omega) _ | with_reducible refine Below.alloc ?_ (by first | (simp; done) | (simp; omega) | omega) _))
        refine ret_cell2 (t := 4) (u := 5) (r := .int .i64 3) rfl rfl rfl rfl ((N3.out.below hdw).four _ _ _ _) ?_
        refine ⟨⟨_, rfl, fun h => absurd h (by have := d0.out; omega), fun _ => rfl⟩, ?_⟩
        exact below_four (hbw.out.trans (hdw.mono hbw.out.size)) (by omega) _ _ _ _
    · have HP := Lib.hid p
      have HQ := Lib.hid q
      have p := p.2.2.2
      have q := q.2.2.2
      have HX := Lib.hid (And.intro n4.c4 n4.f4)
      have N4 := Lib.hid n4
      clear n4
      by_cases h : a3 + b3 ≤ 65535
      · have c : wr.cell? ⟨(w.heap.size + 1 + 1 + 1), 3, none⟩ = some (.int .u16 0) := HX.out.1.2.2.2
        have f : wr.frozen? ⟨(w.heap.size + 1 + 1 + 1), 3, none⟩ = false := HX.out.2.2.2.2
        have HO : Hid (a3 + b3 ≤ 65535) := h
        have xw := IntWalk.i64_in (a3 : Int) (by have := HA.out; omega)
        have yw := IntWalk.i64_in (b3 : Int) (by have := HB.out; omega)
        have zw := IntWalk.i64_in ((a3 : Int) + b3) (by have := HA.out; have := HB.out; omega)
        have hw := IntWalk.u16_in ((a3 : Int) + b3) (by have := HA.out; have := HB.out; omega)
        have d2 : decide (65535 < (a3 : Int) + b3) = false := decide_eq_false (by omega)
        clear h
        go_wp2_with fail
        go_quiet (fail)
        go_wp2_with fail
        have hd : Below wr.heap.size wr (wr.drewN nq) := (by repeat (first | exact Below.refl _ _ | with_reducible refine Below.drew ?_ | with_reducible refine below_drewN ?_ _ | with_reducible refine Below.setCell ?_ (by first | (simp; done) | (simp; omega) | omega) _ | with_reducible refine Below.alloc ?_ (by first | (simp; done) | (simp; omega) | omega) _))
        have e4 := (((N4.out.below hd).set (k := 3) (by simp) (.int .u16 ((a3 : Int) + b3))))
        refine ⟨⟨.inr <| .inr <| .inr <| .inr <| ⟨rfl, ?_, ?_⟩, (N1.out.below hd).other (by simp; omega) _, (N2.out.below hd).other (by simp; omega) _, (N3.out.below hd).other (by simp) _, Lib.hid ?_⟩, by simp [intOf]⟩
        · exact e4
        · exact ⟨hok.out.1, hok.out.2.1, hok.out.2.2.1, HO.out, trivial⟩
        · exact (hbw.out.trans (hd.mono hbw.out.size)).setCell (p := ⟨_, 3, none⟩) (by simp; omega) _
      · have hz := r.out
        have d0 : Hid (¬ (a3 + b3 ≤ 65535)) := h
        obtain ⟨⟨c0, c1, c2, c3⟩, f0, f1, f2, f3⟩ := hz
        have xw := IntWalk.i64_in (a3 : Int) (by have := HA.out; omega)
        have yw := IntWalk.i64_in (b3 : Int) (by have := HB.out; omega)
        have zw := IntWalk.i64_in ((a3 : Int) + b3) (by have := HA.out; have := HB.out; omega)
        have d2 : decide (65535 < (a3 : Int) + b3) = true := decide_eq_true (by omega)
        clear h
        go_wp2_with fail
        go_quiet (fail)
        go_wp2_with fail
        have hdw : Below wr.heap.size wr (wr.drewN nq) := (by repeat (first | exact Below.refl _ _ | with_reducible refine Below.drew ?_ | with_reducible refine below_drewN ?_ _ | with_reducible refine Below.setCell ?_ (by first | (simp; done) | (simp; omega) | omega) _ | with_reducible refine Below.alloc ?_ (by first | (simp; done) | (simp; omega) | omega) _))
        refine ret_cell2 (t := 4) (u := 5) (r := .int .i64 3) rfl rfl rfl rfl ((N3.out.below hdw).four _ _ _ _) ?_
        refine ⟨⟨_, rfl, fun h => absurd h (by have := d0.out; omega), fun _ => rfl⟩, ?_⟩
        exact below_four (hbw.out.trans (hdw.mono hbw.out.size)) (by omega) _ _ _ _
    · have HX := n4.c4
      have N4 := Lib.hid n4
      obtain ⟨c0, c1, c2, c3⟩ := HX
      obtain ⟨⟨g0, g1, g2, g3⟩, f0, f1, f2, f3⟩ := r.out
      clear n4 r p q
      go_wp2_with fail
      refine ret_cell2 (t := 4) (u := 5) (r := .int .i64 0) rfl rfl rfl rfl (N3.out.four _ _ _ _) ?_
      refine ⟨⟨_, rfl, fun _ => by simp, fun h => absurd ⟨hok.out.1, hok.out.2.1, hok.out.2.2.1, hok.out.2.2.2.1⟩ h⟩, below_four hbw.out (by omega) _ _ _ _⟩

set_option maxRecDepth 100000 in
set_option maxHeartbeats 1000000 in
theorem rDiv_raw (a0 a1 a2 a3 b0 b1 b2 b3 : Nat) (w : World) (ha : a0 < 65536 ∧ a1 < 65536 ∧ a2 < 65536 ∧ a3 < 65536) (hb : b0 < 65536 ∧ b1 < 65536 ∧ b2 < 65536 ∧ b3 < 65536) :
    Calls Try.prog 14 #[.agg #[.int .u16 a0, .int .u16 a1, .int .u16 a2, .int .u16 a3], .agg #[.int .u16 b0, .int .u16 b1, .int .u16 b2, .int .u16 b3]] w
      fun e w' => (∃ v, e = .returned v ∧ ((b0 ≤ a0 ∧ b1 ≤ a1 ∧ b2 ≤ a2 ∧ b3 ≤ a3) → v = .tuple #[.agg #[.int .u16 (((a0 - b0) : Nat) : Int), .int .u16 (((a1 - b1) : Nat) : Int), .int .u16 (((a2 - b2) : Nat) : Int), .int .u16 (((a3 - b3) : Nat) : Int)], .bool true]) ∧ (¬(b0 ≤ a0 ∧ b1 ≤ a1 ∧ b2 ≤ a2 ∧ b3 ≤ a3) → v = .tuple #[.agg #[.int .u16 0, .int .u16 0, .int .u16 0, .int .u16 0], .bool false])) ∧ Below w.heap.size w w' := by
  have HA := Lib.hid ha
  have HB := Lib.hid hb
  clear ha hb
  go_enter Try.func14, Try.ntmps14
  go_wp2_with fail
  go_loopw [7] (fun i wr => ((i = .int .i64 0 ∧ BoxV wr (w.heap.size + 1 + 1 + 1) [.int .u16 0, .int .u16 0, .int .u16 0, .int .u16 0] ∧ Hid (True)) ∨ (i = .int .i64 1 ∧ BoxV wr (w.heap.size + 1 + 1 + 1) [.int .u16 (((a0 - b0) : Nat) : Int), .int .u16 0, .int .u16 0, .int .u16 0] ∧ Hid (b0 ≤ a0 ∧ True)) ∨ (i = .int .i64 2 ∧ BoxV wr (w.heap.size + 1 + 1 + 1) [.int .u16 (((a0 - b0) : Nat) : Int), .int .u16 (((a1 - b1) : Nat) : Int), .int .u16 0, .int .u16 0] ∧ Hid (b0 ≤ a0 ∧ b1 ≤ a1 ∧ True)) ∨ (i = .int .i64 3 ∧ BoxV wr (w.heap.size + 1 + 1 + 1) [.int .u16 (((a0 - b0) : Nat) : Int), .int .u16 (((a1 - b1) : Nat) : Int), .int .u16 (((a2 - b2) : Nat) : Int), .int .u16 0] ∧ Hid (b0 ≤ a0 ∧ b1 ≤ a1 ∧ b2 ≤ a2 ∧ True)) ∨ (i = .int .i64 4 ∧ BoxV wr (w.heap.size + 1 + 1 + 1) [.int .u16 (((a0 - b0) : Nat) : Int), .int .u16 (((a1 - b1) : Nat) : Int), .int .u16 (((a2 - b2) : Nat) : Int), .int .u16 (((a3 - b3) : Nat) : Int)] ∧ Hid (b0 ≤ a0 ∧ b1 ≤ a1 ∧ b2 ≤ a2 ∧ b3 ≤ a3 ∧ True))) ∧ BoxV wr w.heap.size [.int .u16 a0, .int .u16 a1, .int .u16 a2, .int .u16 a3] ∧ BoxV wr (w.heap.size + 1) [.int .u16 b0, .int .u16 b1, .int .u16 b2, .int .u16 b3] ∧ BoxV wr (w.heap.size + 1 + 1) [.int .u16 0, .int .u16 0, .int .u16 0, .int .u16 0] ∧ Hid (Below w.heap.size w wr)) (fun i _ => 4 - (intOf i).toNat)
  case atStart =>
    refine ⟨.inl ⟨rfl, ?_, trivial⟩, ?_, ?_, ?_, Lib.hid (by repeat (first | exact Below.refl _ _ | with_reducible refine Below.drew ?_ | with_reducible refine below_drewN ?_ _ | with_reducible refine Below.setCell ?_ (by first | (simp; done) | (simp; omega) | omega) _ | with_reducible refine Below.alloc ?_ (by first | (simp; done) | (simp; omega) | omega) _))⟩
    all_goals
      intro i hi
      have h4 : i = 0 ∨ i = 1 ∨ i = 2 ∨ i = 3 := by simp at hi; omega
      rcases h4 with rfl | rfl | rfl | rfl <;> constructor <;> go_simp
  case round =>
    obtain ⟨hr, n1, n2, n3, hbw⟩ := hrel
    have N1 := Lib.hid n1
    have N2 := Lib.hid n2
    have N3 := Lib.hid n3
    have p := n1.c4
    have q := n2.c4
    have r := Lib.hid (And.intro n3.c4 n3.f4)
    clear n1 n2 n3
    rcases hr with ⟨rfl, n4, hok⟩ | ⟨rfl, n4, hok⟩ | ⟨rfl, n4, hok⟩ | ⟨rfl, n4, hok⟩ | ⟨rfl, n4, hok⟩
    · have HP := Lib.hid p
      have HQ := Lib.hid q
      have p := p.1
      have q := q.1
      have HX := Lib.hid (And.intro n4.c4 n4.f4)
      have N4 := Lib.hid n4
      clear n4
      by_cases h : b0 ≤ a0
      · have c : wr.cell? ⟨(w.heap.size + 1 + 1 + 1), 0, none⟩ = some (.int .u16 0) := HX.out.1.1
        have f : wr.frozen? ⟨(w.heap.size + 1 + 1 + 1), 0, none⟩ = false := HX.out.2.1
        have HO : Hid (b0 ≤ a0) := h
        have d2 : decide (a0 < b0) = false := decide_eq_false (by omega)
        have hw := IntWalk.u16_in ((a0 : Int) - b0) (by have := HA.out; have := HB.out; omega)
        have es : (a0 : Int) - b0 = ((a0 - b0 : Nat) : Int) := by omega
        have ES := Lib.hid es
        clear h es
        go_wp2_with fail
        go_quiet (fail)
        go_upto_region 7 with fail
        rename_i K9 hK9
        obtain ⟨W5, e5, hd5⟩ : ∃ W5, wr.drewN nq = W5 ∧ Hid (Below wr.heap.size wr W5) := ⟨_, rfl, Lib.hid (by repeat (first | exact Below.refl _ _ | with_reducible refine Below.drew ?_ | with_reducible refine below_drewN ?_ _ | with_reducible refine Below.setCell ?_ (by first | (simp; done) | (simp; omega) | omega) _ | with_reducible refine Below.alloc ?_ (by first | (simp; done) | (simp; omega) | omega) _))⟩
        rw [e5]
        have n1 := N1.out.below hd5.out
        have n2 := N2.out.below hd5.out
        have n4 := N4.out.below hd5.out
        have p := n1.c4.1
        have q := n2.c4.1
        have c := n4.c4.1
        have f := n4.f4.1
        clear e5 n1 n2 n4
        refine wp_region_still_tail 9 (by kernel_rfl) (by kernel_rfl) ?_
        simp only [List.take_succ_cons, List.take_zero, List.drop_succ_cons, List.drop_zero]
        still_step
        still_step
        still_step
        still_step
        still_step
        still_step
        still_step
        still_step
        still_step
        refine wpStill_nil ?_
        change wpList _ _ _ _ _ (World.drew _)
        go_wp2_with fail
        have hD : Below (W5.setCell ⟨(w.heap.size + 1 + 1 + 1), 0, none⟩ (.int .u16 ((a0 : Int) - b0))).heap.size (W5.setCell ⟨(w.heap.size + 1 + 1 + 1), 0, none⟩ (.int .u16 ((a0 : Int) - b0))) (W5.setCell ⟨(w.heap.size + 1 + 1 + 1), 0, none⟩ (.int .u16 ((a0 : Int) - b0))).drew := (Below.refl _ _).drew
        have e4 := ((N4.out.below hd5.out).set (k := 0) (by simp) (.int .u16 ((a0 : Int) - b0))).below hD
        refine ⟨⟨.inr <| .inl ⟨rfl, ?_, ?_⟩, ((N1.out.below hd5.out).other (by simp; omega) _).below hD, ((N2.out.below hd5.out).other (by simp; omega) _).below hD, ((N3.out.below hd5.out).other (by simp) _).below hD, Lib.hid ?_⟩, by simp [intOf]⟩
        · rw [← ES.out]; exact e4
        · exact ⟨HO.out, trivial⟩
        · exact ((hbw.out.trans (hd5.out.mono hbw.out.size)).setCell (p := ⟨_, 0, none⟩) (by simp; omega) _).drew
      · have hz := r.out
        have d0 : Hid (¬ (b0 ≤ a0)) := h
        obtain ⟨⟨c0, c1, c2, c3⟩, f0, f1, f2, f3⟩ := hz
        have d2 : decide (a0 < b0) = true := decide_eq_true (by omega)
        clear h
        go_wp2_with fail
        go_quiet (fail)
        go_wp2_with fail
        have hdw : Below wr.heap.size wr (wr.drewN nq) := (by repeat (first | exact Below.refl _ _ | with_reducible refine Below.drew ?_ | with_reducible refine below_drewN ?_ _ | with_reducible refine Below.setCell ?_ (by first | (simp; done) | (simp; omega) | omega) _ | with_reducible refine Below.alloc ?_ (by first | (simp; done) | (simp; omega) | omega) _))
        refine ret_cell2 (t := 4) (u := 5) (r := .bool false) rfl rfl rfl rfl ((N3.out.below hdw).four _ _ _ _) ?_
        refine ⟨⟨_, rfl, fun h => absurd h (by have := d0.out; omega), fun _ => rfl⟩, ?_⟩
        exact below_four (hbw.out.trans (hdw.mono hbw.out.size)) (by omega) _ _ _ _
    · have HP := Lib.hid p
      have HQ := Lib.hid q
      have p := p.2.1
      have q := q.2.1
      have HX := Lib.hid (And.intro n4.c4 n4.f4)
      have N4 := Lib.hid n4
      clear n4
      by_cases h : b1 ≤ a1
      · have c : wr.cell? ⟨(w.heap.size + 1 + 1 + 1), 1, none⟩ = some (.int .u16 0) := HX.out.1.2.1
        have f : wr.frozen? ⟨(w.heap.size + 1 + 1 + 1), 1, none⟩ = false := HX.out.2.2.1
        have HO : Hid (b1 ≤ a1) := h
        have d2 : decide (a1 < b1) = false := decide_eq_false (by omega)
        have hw := IntWalk.u16_in ((a1 : Int) - b1) (by have := HA.out; have := HB.out; omega)
        have es : (a1 : Int) - b1 = ((a1 - b1 : Nat) : Int) := by omega
        have ES := Lib.hid es
        clear h es
        go_wp2_with fail
        go_quiet (fail)
        go_upto_region 7 with fail
        rename_i K9 hK9
        obtain ⟨W5, e5, hd5⟩ : ∃ W5, wr.drewN nq = W5 ∧ Hid (Below wr.heap.size wr W5) := ⟨_, rfl, Lib.hid (by repeat (first | exact Below.refl _ _ | with_reducible refine Below.drew ?_ | with_reducible refine below_drewN ?_ _ | with_reducible refine Below.setCell ?_ (by first | (simp; done) | (simp; omega) | omega) _ | with_reducible refine Below.alloc ?_ (by first | (simp; done) | (simp; omega) | omega) _))⟩
        rw [e5]
        have n1 := N1.out.below hd5.out
        have n2 := N2.out.below hd5.out
        have n4 := N4.out.below hd5.out
        have p := n1.c4.2.1
        have q := n2.c4.2.1
        have c := n4.c4.2.1
        have f := n4.f4.2.1
        clear e5 n1 n2 n4
        refine wp_region_still_tail 9 (by kernel_rfl) (by kernel_rfl) ?_
        simp only [List.take_succ_cons, List.take_zero, List.drop_succ_cons, List.drop_zero]
        still_step
        still_step
        still_step
        still_step
        still_step
        still_step
        still_step
        still_step
        still_step
        refine wpStill_nil ?_
        change wpList _ _ _ _ _ (World.drew _)
        go_wp2_with fail
        have hD : Below (W5.setCell ⟨(w.heap.size + 1 + 1 + 1), 1, none⟩ (.int .u16 ((a1 : Int) - b1))).heap.size (W5.setCell ⟨(w.heap.size + 1 + 1 + 1), 1, none⟩ (.int .u16 ((a1 : Int) - b1))) (W5.setCell ⟨(w.heap.size + 1 + 1 + 1), 1, none⟩ (.int .u16 ((a1 : Int) - b1))).drew := (Below.refl _ _).drew
        have e4 := ((N4.out.below hd5.out).set (k := 1) (by simp) (.int .u16 ((a1 : Int) - b1))).below hD
        refine ⟨⟨.inr <| .inr <| .inl ⟨rfl, ?_, ?_⟩, ((N1.out.below hd5.out).other (by simp; omega) _).below hD, ((N2.out.below hd5.out).other (by simp; omega) _).below hD, ((N3.out.below hd5.out).other (by simp) _).below hD, Lib.hid ?_⟩, by simp [intOf]⟩
        · rw [← ES.out]; exact e4
        · exact ⟨hok.out.1, HO.out, trivial⟩
        · exact ((hbw.out.trans (hd5.out.mono hbw.out.size)).setCell (p := ⟨_, 1, none⟩) (by simp; omega) _).drew
      · have hz := r.out
        have d0 : Hid (¬ (b1 ≤ a1)) := h
        obtain ⟨⟨c0, c1, c2, c3⟩, f0, f1, f2, f3⟩ := hz
        have d2 : decide (a1 < b1) = true := decide_eq_true (by omega)
        clear h
        go_wp2_with fail
        go_quiet (fail)
        go_wp2_with fail
        have hdw : Below wr.heap.size wr (wr.drewN nq) := (by repeat (first | exact Below.refl _ _ | with_reducible refine Below.drew ?_ | with_reducible refine below_drewN ?_ _ | with_reducible refine Below.setCell ?_ (by first | (simp; done) | (simp; omega) | omega) _ | with_reducible refine Below.alloc ?_ (by first | (simp; done) | (simp; omega) | omega) _))
        refine ret_cell2 (t := 4) (u := 5) (r := .bool false) rfl rfl rfl rfl ((N3.out.below hdw).four _ _ _ _) ?_
        refine ⟨⟨_, rfl, fun h => absurd h (by have := d0.out; omega), fun _ => rfl⟩, ?_⟩
        exact below_four (hbw.out.trans (hdw.mono hbw.out.size)) (by omega) _ _ _ _
    · have HP := Lib.hid p
      have HQ := Lib.hid q
      have p := p.2.2.1
      have q := q.2.2.1
      have HX := Lib.hid (And.intro n4.c4 n4.f4)
      have N4 := Lib.hid n4
      clear n4
      by_cases h : b2 ≤ a2
      · have c : wr.cell? ⟨(w.heap.size + 1 + 1 + 1), 2, none⟩ = some (.int .u16 0) := HX.out.1.2.2.1
        have f : wr.frozen? ⟨(w.heap.size + 1 + 1 + 1), 2, none⟩ = false := HX.out.2.2.2.1
        have HO : Hid (b2 ≤ a2) := h
        have d2 : decide (a2 < b2) = false := decide_eq_false (by omega)
        have hw := IntWalk.u16_in ((a2 : Int) - b2) (by have := HA.out; have := HB.out; omega)
        have es : (a2 : Int) - b2 = ((a2 - b2 : Nat) : Int) := by omega
        have ES := Lib.hid es
        clear h es
        go_wp2_with fail
        go_quiet (fail)
        go_upto_region 7 with fail
        rename_i K9 hK9
        obtain ⟨W5, e5, hd5⟩ : ∃ W5, wr.drewN nq = W5 ∧ Hid (Below wr.heap.size wr W5) := ⟨_, rfl, Lib.hid (by repeat (first | exact Below.refl _ _ | with_reducible refine Below.drew ?_ | with_reducible refine below_drewN ?_ _ | with_reducible refine Below.setCell ?_ (by first | (simp; done) | (simp; omega) | omega) _ | with_reducible refine Below.alloc ?_ (by first | (simp; done) | (simp; omega) | omega) _))⟩
        rw [e5]
        have n1 := N1.out.below hd5.out
        have n2 := N2.out.below hd5.out
        have n4 := N4.out.below hd5.out
        have p := n1.c4.2.2.1
        have q := n2.c4.2.2.1
        have c := n4.c4.2.2.1
        have f := n4.f4.2.2.1
        clear e5 n1 n2 n4
        refine wp_region_still_tail 9 (by kernel_rfl) (by kernel_rfl) ?_
        simp only [List.take_succ_cons, List.take_zero, List.drop_succ_cons, List.drop_zero]
        still_step
        still_step
        still_step
        still_step
        still_step
        still_step
        still_step
        still_step
        still_step
        refine wpStill_nil ?_
        change wpList _ _ _ _ _ (World.drew _)
        go_wp2_with fail
        have hD : Below (W5.setCell ⟨(w.heap.size + 1 + 1 + 1), 2, none⟩ (.int .u16 ((a2 : Int) - b2))).heap.size (W5.setCell ⟨(w.heap.size + 1 + 1 + 1), 2, none⟩ (.int .u16 ((a2 : Int) - b2))) (W5.setCell ⟨(w.heap.size + 1 + 1 + 1), 2, none⟩ (.int .u16 ((a2 : Int) - b2))).drew := (Below.refl _ _).drew
        have e4 := ((N4.out.below hd5.out).set (k := 2) (by simp) (.int .u16 ((a2 : Int) - b2))).below hD
        refine ⟨⟨.inr <| .inr <| .inr <| .inl ⟨rfl, ?_, ?_⟩, ((N1.out.below hd5.out).other (by simp; omega) _).below hD, ((N2.out.below hd5.out).other (by simp; omega) _).below hD, ((N3.out.below hd5.out).other (by simp) _).below hD, Lib.hid ?_⟩, by simp [intOf]⟩
        · rw [← ES.out]; exact e4
        · exact ⟨hok.out.1, hok.out.2.1, HO.out, trivial⟩
        · exact ((hbw.out.trans (hd5.out.mono hbw.out.size)).setCell (p := ⟨_, 2, none⟩) (by simp; omega) _).drew
      · have hz := r.out
        have d0 : Hid (¬ (b2 ≤ a2)) := h
        obtain ⟨⟨c0, c1, c2, c3⟩, f0, f1, f2, f3⟩ := hz
        have d2 : decide (a2 < b2) = true := decide_eq_true (by omega)
        clear h
        go_wp2_with fail
        go_quiet (fail)
        go_wp2_with fail
        have hdw : Below wr.heap.size wr (wr.drewN nq) := (by repeat (first | exact Below.refl _ _ | with_reducible refine Below.drew ?_ | with_reducible refine below_drewN ?_ _ | with_reducible refine Below.setCell ?_ (by first | (simp; done) | (simp; omega) | omega) _ | with_reducible refine Below.alloc ?_ (by first | (simp; done) | (simp; omega) | omega) _))
        refine ret_cell2 (t := 4) (u := 5) (r := .bool false) rfl rfl rfl rfl ((N3.out.below hdw).four _ _ _ _) ?_
        refine ⟨⟨_, rfl, fun h => absurd h (by have := d0.out; omega), fun _ => rfl⟩, ?_⟩
        exact below_four (hbw.out.trans (hdw.mono hbw.out.size)) (by omega) _ _ _ _
    · have HP := Lib.hid p
      have HQ := Lib.hid q
      have p := p.2.2.2
      have q := q.2.2.2
      have HX := Lib.hid (And.intro n4.c4 n4.f4)
      have N4 := Lib.hid n4
      clear n4
      by_cases h : b3 ≤ a3
      · have c : wr.cell? ⟨(w.heap.size + 1 + 1 + 1), 3, none⟩ = some (.int .u16 0) := HX.out.1.2.2.2
        have f : wr.frozen? ⟨(w.heap.size + 1 + 1 + 1), 3, none⟩ = false := HX.out.2.2.2.2
        have HO : Hid (b3 ≤ a3) := h
        have d2 : decide (a3 < b3) = false := decide_eq_false (by omega)
        have hw := IntWalk.u16_in ((a3 : Int) - b3) (by have := HA.out; have := HB.out; omega)
        have es : (a3 : Int) - b3 = ((a3 - b3 : Nat) : Int) := by omega
        have ES := Lib.hid es
        clear h es
        go_wp2_with fail
        go_quiet (fail)
        go_upto_region 7 with fail
        rename_i K9 hK9
        obtain ⟨W5, e5, hd5⟩ : ∃ W5, wr.drewN nq = W5 ∧ Hid (Below wr.heap.size wr W5) := ⟨_, rfl, Lib.hid (by repeat (first | exact Below.refl _ _ | with_reducible refine Below.drew ?_ | with_reducible refine below_drewN ?_ _ | with_reducible refine Below.setCell ?_ (by first | (simp; done) | (simp; omega) | omega) _ | with_reducible refine Below.alloc ?_ (by first | (simp; done) | (simp; omega) | omega) _))⟩
        rw [e5]
        have n1 := N1.out.below hd5.out
        have n2 := N2.out.below hd5.out
        have n4 := N4.out.below hd5.out
        have p := n1.c4.2.2.2
        have q := n2.c4.2.2.2
        have c := n4.c4.2.2.2
        have f := n4.f4.2.2.2
        clear e5 n1 n2 n4
        refine wp_region_still_tail 9 (by kernel_rfl) (by kernel_rfl) ?_
        simp only [List.take_succ_cons, List.take_zero, List.drop_succ_cons, List.drop_zero]
        still_step
        still_step
        still_step
        still_step
        still_step
        still_step
        still_step
        still_step
        still_step
        refine wpStill_nil ?_
        change wpList _ _ _ _ _ (World.drew _)
        go_wp2_with fail
        have hD : Below (W5.setCell ⟨(w.heap.size + 1 + 1 + 1), 3, none⟩ (.int .u16 ((a3 : Int) - b3))).heap.size (W5.setCell ⟨(w.heap.size + 1 + 1 + 1), 3, none⟩ (.int .u16 ((a3 : Int) - b3))) (W5.setCell ⟨(w.heap.size + 1 + 1 + 1), 3, none⟩ (.int .u16 ((a3 : Int) - b3))).drew := (Below.refl _ _).drew
        have e4 := ((N4.out.below hd5.out).set (k := 3) (by simp) (.int .u16 ((a3 : Int) - b3))).below hD
        refine ⟨⟨.inr <| .inr <| .inr <| .inr <| ⟨rfl, ?_, ?_⟩, ((N1.out.below hd5.out).other (by simp; omega) _).below hD, ((N2.out.below hd5.out).other (by simp; omega) _).below hD, ((N3.out.below hd5.out).other (by simp) _).below hD, Lib.hid ?_⟩, by simp [intOf]⟩
        · rw [← ES.out]; exact e4
        · exact ⟨hok.out.1, hok.out.2.1, hok.out.2.2.1, HO.out, trivial⟩
        · exact ((hbw.out.trans (hd5.out.mono hbw.out.size)).setCell (p := ⟨_, 3, none⟩) (by simp; omega) _).drew
      · have hz := r.out
        have d0 : Hid (¬ (b3 ≤ a3)) := h
        obtain ⟨⟨c0, c1, c2, c3⟩, f0, f1, f2, f3⟩ := hz
        have d2 : decide (a3 < b3) = true := decide_eq_true (by omega)
        clear h
        go_wp2_with fail
        go_quiet (fail)
        go_wp2_with fail
        have hdw : Below wr.heap.size wr (wr.drewN nq) := (by repeat (first | exact Below.refl _ _ | with_reducible refine Below.drew ?_ | with_reducible refine below_drewN ?_ _ | with_reducible refine Below.setCell ?_ (by first | (simp; done) | (simp; omega) | omega) _ | with_reducible refine Below.alloc ?_ (by first | (simp; done) | (simp; omega) | omega) _))
        refine ret_cell2 (t := 4) (u := 5) (r := .bool false) rfl rfl rfl rfl ((N3.out.below hdw).four _ _ _ _) ?_
        refine ⟨⟨_, rfl, fun h => absurd h (by have := d0.out; omega), fun _ => rfl⟩, ?_⟩
        exact below_four (hbw.out.trans (hdw.mono hbw.out.size)) (by omega) _ _ _ _
    · have HX := n4.c4
      have N4 := Lib.hid n4
      obtain ⟨c0, c1, c2, c3⟩ := HX
      obtain ⟨⟨g0, g1, g2, g3⟩, f0, f1, f2, f3⟩ := r.out
      clear n4 r p q
      go_wp2_with fail
      refine ret_cell2 (t := 4) (u := 5) (r := .bool true) rfl rfl rfl rfl (N3.out.four _ _ _ _) ?_
      refine ⟨⟨_, rfl, fun _ => by simp, fun h => absurd ⟨hok.out.1, hok.out.2.1, hok.out.2.2.1, hok.out.2.2.2.1⟩ h⟩, below_four hbw.out (by omega) _ _ _ _⟩

theorem rMul_any {x y : M4} (hx : OkM x) (hy : OkM y) (w : World) : Calls Try.prog 13 #[mv x, mv y] w fun e w' => e = .returned (.tuple #[mv (mulM x y), .int .i64 (errM x y)]) ∧ Below w.heap.size w w' := by
  refine (rMul_raw x.a x.b x.c x.d y.a y.b y.c y.d w hx hy).mono ?_
  rintro e w' ⟨⟨v, rfl, h1, h2⟩, hb⟩
  refine ⟨?_, hb⟩
  by_cases h : fits x y
  · rw [h1 h]
    unfold mulM errM
    rw [if_pos h, if_pos h]
    rfl
  · rw [h2 h]
    unfold mulM errM
    rw [if_neg h, if_neg h]
    rfl
theorem rDiv_any {x y : M4} (hx : OkM x) (hy : OkM y) (w : World) : Calls Try.prog 14 #[mv x, mv y] w fun e w' => e = .returned (.tuple #[mv (divM x y), .bool (decide (inM y x))]) ∧ Below w.heap.size w w' := by
  refine (rDiv_raw x.a x.b x.c x.d y.a y.b y.c y.d w hx hy).mono ?_
  rintro e w' ⟨⟨v, rfl, h1, h2⟩, hb⟩
  refine ⟨?_, hb⟩
  by_cases h : inM y x
  · rw [h1 h, decide_eq_true h]
    unfold divM
    rw [if_pos h]
    rfl
  · rw [h2 h, decide_eq_false h]
    unfold divM
    rw [if_neg h]
    rfl

set_option maxRecDepth 100000 in
set_option maxHeartbeats 1000000 in
theorem rLcm_raw (a0 a1 a2 a3 b0 b1 b2 b3 : Nat) (w : World) :
    Calls Try.prog 16 #[.agg #[.int .u16 a0, .int .u16 a1, .int .u16 a2, .int .u16 a3], .agg #[.int .u16 b0, .int .u16 b1, .int .u16 b2, .int .u16 b3]] w fun e w' => e = .returned (.agg #[.int .u16 (((max a0 b0 : Nat)) : Int), .int .u16 (((max a1 b1 : Nat)) : Int), .int .u16 (((max a2 b2 : Nat)) : Int), .int .u16 (((max a3 b3 : Nat)) : Int)]) ∧ Below w.heap.size w w' := by
  go_enter Try.func16, Try.ntmps16
  go_wp2_with fail
  go_loopw [5] (fun i wr => ((i = .int .i64 0 ∧ BoxV wr w.heap.size [.int .u16 a0, .int .u16 a1, .int .u16 a2, .int .u16 a3]) ∨ (i = .int .i64 1 ∧ BoxV wr w.heap.size [.int .u16 (((max a0 b0 : Nat)) : Int), .int .u16 a1, .int .u16 a2, .int .u16 a3]) ∨ (i = .int .i64 2 ∧ BoxV wr w.heap.size [.int .u16 (((max a0 b0 : Nat)) : Int), .int .u16 (((max a1 b1 : Nat)) : Int), .int .u16 a2, .int .u16 a3]) ∨ (i = .int .i64 3 ∧ BoxV wr w.heap.size [.int .u16 (((max a0 b0 : Nat)) : Int), .int .u16 (((max a1 b1 : Nat)) : Int), .int .u16 (((max a2 b2 : Nat)) : Int), .int .u16 a3]) ∨ (i = .int .i64 4 ∧ BoxV wr w.heap.size [.int .u16 (((max a0 b0 : Nat)) : Int), .int .u16 (((max a1 b1 : Nat)) : Int), .int .u16 (((max a2 b2 : Nat)) : Int), .int .u16 (((max a3 b3 : Nat)) : Int)])) ∧ BoxV wr (w.heap.size + 1) [.int .u16 b0, .int .u16 b1, .int .u16 b2, .int .u16 b3] ∧ BoxV wr (w.heap.size + 1 + 1) [.int .u16 0, .int .u16 0, .int .u16 0, .int .u16 0] ∧ Hid (Below w.heap.size w wr)) (fun i _ => 4 - (intOf i).toNat)
  case atStart =>
    refine ⟨.inl ⟨rfl, ?_⟩, ?_, ?_, Lib.hid (by repeat (first | exact Below.refl _ _ | with_reducible refine Below.drew ?_ | with_reducible refine below_drewN ?_ _ | with_reducible refine Below.setCell ?_ (by first | (simp; done) | (simp; omega) | omega) _ | with_reducible refine Below.alloc ?_ (by first | (simp; done) | (simp; omega) | omega) _))⟩
    all_goals
      intro i hi
      have h4 : i = 0 ∨ i = 1 ∨ i = 2 ∨ i = 3 := by simp at hi; omega
      rcases h4 with rfl | rfl | rfl | rfl <;> constructor <;> go_simp
  case round =>
    obtain ⟨hr, n2, n3, hbw⟩ := hrel
    have N2 := Lib.hid n2
    have N3 := Lib.hid n3
    have q := n2.c4
    have r := Lib.hid (And.intro n3.c4 n3.f4)
    clear n2 n3
    rcases hr with ⟨rfl, n1⟩ | ⟨rfl, n1⟩ | ⟨rfl, n1⟩ | ⟨rfl, n1⟩ | ⟨rfl, n1⟩
    · have HQ := Lib.hid q
      have q := q.1
      have p := n1.c4.1
      have f := n1.f4.1
      have N1 := Lib.hid n1
      clear n1
      by_cases h : a0 < b0
      · have HH := Lib.hid h
        go_upto_region 4 with fail
        rename_i K9 hK9
        refine wp_region_still_tail 9 (by kernel_rfl) (by kernel_rfl) ?_
        simp only [List.take_succ_cons, List.take_zero, List.drop_succ_cons, List.drop_zero]
        repeat still_step
        refine wpStill_nil ?_
        change wpList _ _ _ _ _ (World.drew _)
        go_wp2_with fail
        have hD : Below (wr.setCell ⟨w.heap.size, 0, none⟩ (.int .u16 b0)).heap.size (wr.setCell ⟨w.heap.size, 0, none⟩ (.int .u16 b0)) (wr.setCell ⟨w.heap.size, 0, none⟩ (.int .u16 b0)).drew := (Below.refl _ _).drew
        refine ⟨⟨.inr <| .inl ⟨rfl, ?_⟩, (N2.out.other (by simp) _).below hD, (N3.out.other (by simp; omega) _).below hD, Lib.hid ?_⟩, by simp [intOf]⟩
        · rw [Nat.max_eq_right (Nat.le_of_lt HH.out)]; exact (N1.out.set (k := 0) (by simp) _).below hD
        · exact (hbw.out.setCell (p := ⟨_, 0, none⟩) (by simp) _).drew
      · have HH : Hid (b0 ≤ a0) := Nat.not_lt.1 h
        go_upto_region 4 with fail
        rename_i K9 hK9
        refine wp_region_still_tail 9 (by kernel_rfl) (by kernel_rfl) ?_
        simp only [List.take_succ_cons, List.take_zero, List.drop_succ_cons, List.drop_zero]
        repeat still_step
        refine wpStill_nil ?_
        change wpList _ _ _ _ _ (World.drew _)
        go_wp2_with fail
        have hD : Below (wr.setCell ⟨w.heap.size, 0, none⟩ (.int .u16 a0)).heap.size (wr.setCell ⟨w.heap.size, 0, none⟩ (.int .u16 a0)) (wr.setCell ⟨w.heap.size, 0, none⟩ (.int .u16 a0)).drew := (Below.refl _ _).drew
        refine ⟨⟨.inr <| .inl ⟨rfl, ?_⟩, (N2.out.other (by simp) _).below hD, (N3.out.other (by simp; omega) _).below hD, Lib.hid ?_⟩, by simp [intOf]⟩
        · rw [Nat.max_eq_left HH.out]; exact (N1.out.set (k := 0) (by simp) _).below hD
        · exact (hbw.out.setCell (p := ⟨_, 0, none⟩) (by simp) _).drew
    · have HQ := Lib.hid q
      have q := q.2.1
      have p := n1.c4.2.1
      have f := n1.f4.2.1
      have N1 := Lib.hid n1
      clear n1
      by_cases h : a1 < b1
      · have HH := Lib.hid h
        go_upto_region 4 with fail
        rename_i K9 hK9
        refine wp_region_still_tail 9 (by kernel_rfl) (by kernel_rfl) ?_
        simp only [List.take_succ_cons, List.take_zero, List.drop_succ_cons, List.drop_zero]
        repeat still_step
        refine wpStill_nil ?_
        change wpList _ _ _ _ _ (World.drew _)
        go_wp2_with fail
        have hD : Below (wr.setCell ⟨w.heap.size, 1, none⟩ (.int .u16 b1)).heap.size (wr.setCell ⟨w.heap.size, 1, none⟩ (.int .u16 b1)) (wr.setCell ⟨w.heap.size, 1, none⟩ (.int .u16 b1)).drew := (Below.refl _ _).drew
        refine ⟨⟨.inr <| .inr <| .inl ⟨rfl, ?_⟩, (N2.out.other (by simp) _).below hD, (N3.out.other (by simp; omega) _).below hD, Lib.hid ?_⟩, by simp [intOf]⟩
        · rw [Nat.max_eq_right (Nat.le_of_lt HH.out)]; exact (N1.out.set (k := 1) (by simp) _).below hD
        · exact (hbw.out.setCell (p := ⟨_, 1, none⟩) (by simp) _).drew
      · have HH : Hid (b1 ≤ a1) := Nat.not_lt.1 h
        go_upto_region 4 with fail
        rename_i K9 hK9
        refine wp_region_still_tail 9 (by kernel_rfl) (by kernel_rfl) ?_
        simp only [List.take_succ_cons, List.take_zero, List.drop_succ_cons, List.drop_zero]
        repeat still_step
        refine wpStill_nil ?_
        change wpList _ _ _ _ _ (World.drew _)
        go_wp2_with fail
        have hD : Below (wr.setCell ⟨w.heap.size, 1, none⟩ (.int .u16 a1)).heap.size (wr.setCell ⟨w.heap.size, 1, none⟩ (.int .u16 a1)) (wr.setCell ⟨w.heap.size, 1, none⟩ (.int .u16 a1)).drew := (Below.refl _ _).drew
        refine ⟨⟨.inr <| .inr <| .inl ⟨rfl, ?_⟩, (N2.out.other (by simp) _).below hD, (N3.out.other (by simp; omega) _).below hD, Lib.hid ?_⟩, by simp [intOf]⟩
        · rw [Nat.max_eq_left HH.out]; exact (N1.out.set (k := 1) (by simp) _).below hD
        · exact (hbw.out.setCell (p := ⟨_, 1, none⟩) (by simp) _).drew
    · have HQ := Lib.hid q
      have q := q.2.2.1
      have p := n1.c4.2.2.1
      have f := n1.f4.2.2.1
      have N1 := Lib.hid n1
      clear n1
      by_cases h : a2 < b2
      · have HH := Lib.hid h
        go_upto_region 4 with fail
        rename_i K9 hK9
        refine wp_region_still_tail 9 (by kernel_rfl) (by kernel_rfl) ?_
        simp only [List.take_succ_cons, List.take_zero, List.drop_succ_cons, List.drop_zero]
        repeat still_step
        refine wpStill_nil ?_
        change wpList _ _ _ _ _ (World.drew _)
        go_wp2_with fail
        have hD : Below (wr.setCell ⟨w.heap.size, 2, none⟩ (.int .u16 b2)).heap.size (wr.setCell ⟨w.heap.size, 2, none⟩ (.int .u16 b2)) (wr.setCell ⟨w.heap.size, 2, none⟩ (.int .u16 b2)).drew := (Below.refl _ _).drew
        refine ⟨⟨.inr <| .inr <| .inr <| .inl ⟨rfl, ?_⟩, (N2.out.other (by simp) _).below hD, (N3.out.other (by simp; omega) _).below hD, Lib.hid ?_⟩, by simp [intOf]⟩
        · rw [Nat.max_eq_right (Nat.le_of_lt HH.out)]; exact (N1.out.set (k := 2) (by simp) _).below hD
        · exact (hbw.out.setCell (p := ⟨_, 2, none⟩) (by simp) _).drew
      · have HH : Hid (b2 ≤ a2) := Nat.not_lt.1 h
        go_upto_region 4 with fail
        rename_i K9 hK9
        refine wp_region_still_tail 9 (by kernel_rfl) (by kernel_rfl) ?_
        simp only [List.take_succ_cons, List.take_zero, List.drop_succ_cons, List.drop_zero]
        repeat still_step
        refine wpStill_nil ?_
        change wpList _ _ _ _ _ (World.drew _)
        go_wp2_with fail
        have hD : Below (wr.setCell ⟨w.heap.size, 2, none⟩ (.int .u16 a2)).heap.size (wr.setCell ⟨w.heap.size, 2, none⟩ (.int .u16 a2)) (wr.setCell ⟨w.heap.size, 2, none⟩ (.int .u16 a2)).drew := (Below.refl _ _).drew
        refine ⟨⟨.inr <| .inr <| .inr <| .inl ⟨rfl, ?_⟩, (N2.out.other (by simp) _).below hD, (N3.out.other (by simp; omega) _).below hD, Lib.hid ?_⟩, by simp [intOf]⟩
        · rw [Nat.max_eq_left HH.out]; exact (N1.out.set (k := 2) (by simp) _).below hD
        · exact (hbw.out.setCell (p := ⟨_, 2, none⟩) (by simp) _).drew
    · have HQ := Lib.hid q
      have q := q.2.2.2
      have p := n1.c4.2.2.2
      have f := n1.f4.2.2.2
      have N1 := Lib.hid n1
      clear n1
      by_cases h : a3 < b3
      · have HH := Lib.hid h
        go_upto_region 4 with fail
        rename_i K9 hK9
        refine wp_region_still_tail 9 (by kernel_rfl) (by kernel_rfl) ?_
        simp only [List.take_succ_cons, List.take_zero, List.drop_succ_cons, List.drop_zero]
        repeat still_step
        refine wpStill_nil ?_
        change wpList _ _ _ _ _ (World.drew _)
        go_wp2_with fail
        have hD : Below (wr.setCell ⟨w.heap.size, 3, none⟩ (.int .u16 b3)).heap.size (wr.setCell ⟨w.heap.size, 3, none⟩ (.int .u16 b3)) (wr.setCell ⟨w.heap.size, 3, none⟩ (.int .u16 b3)).drew := (Below.refl _ _).drew
        refine ⟨⟨.inr <| .inr <| .inr <| .inr <| ⟨rfl, ?_⟩, (N2.out.other (by simp) _).below hD, (N3.out.other (by simp; omega) _).below hD, Lib.hid ?_⟩, by simp [intOf]⟩
        · rw [Nat.max_eq_right (Nat.le_of_lt HH.out)]; exact (N1.out.set (k := 3) (by simp) _).below hD
        · exact (hbw.out.setCell (p := ⟨_, 3, none⟩) (by simp) _).drew
      · have HH : Hid (b3 ≤ a3) := Nat.not_lt.1 h
        go_upto_region 4 with fail
        rename_i K9 hK9
        refine wp_region_still_tail 9 (by kernel_rfl) (by kernel_rfl) ?_
        simp only [List.take_succ_cons, List.take_zero, List.drop_succ_cons, List.drop_zero]
        repeat still_step
        refine wpStill_nil ?_
        change wpList _ _ _ _ _ (World.drew _)
        go_wp2_with fail
        have hD : Below (wr.setCell ⟨w.heap.size, 3, none⟩ (.int .u16 a3)).heap.size (wr.setCell ⟨w.heap.size, 3, none⟩ (.int .u16 a3)) (wr.setCell ⟨w.heap.size, 3, none⟩ (.int .u16 a3)).drew := (Below.refl _ _).drew
        refine ⟨⟨.inr <| .inr <| .inr <| .inr <| ⟨rfl, ?_⟩, (N2.out.other (by simp) _).below hD, (N3.out.other (by simp; omega) _).below hD, Lib.hid ?_⟩, by simp [intOf]⟩
        · rw [Nat.max_eq_left HH.out]; exact (N1.out.set (k := 3) (by simp) _).below hD
        · exact (hbw.out.setCell (p := ⟨_, 3, none⟩) (by simp) _).drew
    · have c := n1.c4
      obtain ⟨g, f⟩ := r.out
      have N1 := Lib.hid n1
      clear n1 q r
      go_wp2_with fail
      refine ret_cell1 (t := 4) rfl rfl rfl (N3.out.four _ _ _ _) ?_
      exact ⟨by simp, below_four hbw.out (by omega) _ _ _ _⟩

set_option maxRecDepth 100000 in
set_option maxHeartbeats 400000 in
theorem rDegree_any {x : M4} (hx : OkM x) (w : World) : Calls Try.prog 18 #[mv x] w fun e w' => e = .returned (.int .i64 (degM x)) ∧ Below w.heap.size w w' := by
  have HX := Lib.hid hx
  have wa := IntWalk.i64_in (x.a : Int) (by obtain ⟨h1, h2, h3, h4⟩ := HX.out; omega)
  have wb := IntWalk.i64_in (x.b : Int) (by obtain ⟨h1, h2, h3, h4⟩ := HX.out; omega)
  have wc := IntWalk.i64_in (x.c : Int) (by obtain ⟨h1, h2, h3, h4⟩ := HX.out; omega)
  have wd := IntWalk.i64_in (x.d : Int) (by obtain ⟨h1, h2, h3, h4⟩ := HX.out; omega)
  have s2 := IntWalk.i64_in ((x.a : Int) + (x.b : Int)) (by obtain ⟨h1, h2, h3, h4⟩ := HX.out; omega)
  have s3 := IntWalk.i64_in ((x.a : Int) + (x.b : Int) + (x.c : Int)) (by obtain ⟨h1, h2, h3, h4⟩ := HX.out; omega)
  have s4 := IntWalk.i64_in ((x.a : Int) + (x.b : Int) + (x.c : Int) + (x.d : Int)) (by obtain ⟨h1, h2, h3, h4⟩ := HX.out; omega)
  clear hx
  unfold mv
  go_enter Try.func18, Try.ntmps18
  go_wp2_with fail
  go_ret
  exact ⟨rfl, (Below.refl _ _).alloc (Nat.le_refl _) _⟩

end Go.Proofs.Ytikbjjechhdclaa
