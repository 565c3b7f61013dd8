/- Walks: the product that is made of two, letter by letter. -/
import Derived.Test.YtikbjjechhdclaaMBox
namespace Go.Proofs.Ytikbjjechhdclaa
open Go.RowKit

set_option maxRecDepth 100000 in
set_option maxHeartbeats 1000000 in
theorem made_plus (a0 a1 a2 a3 b0 b1 b2 b3 : Nat) (w : World) (ha : a0 < 65536 ∧ a1 < 65536 ∧ a2 < 65536 ∧ a3 < 65536) (hb : b0 < 65536 ∧ b1 < 65536 ∧ b2 < 65536 ∧ b3 < 65536) :
    Calls Try.prog 22 #[.agg #[.int .u16 a0, .int .u16 a1, .int .u16 a2, .int .u16 a3], .agg #[.int .u16 b0, .int .u16 b1, .int .u16 b2, .int .u16 b3], .func (.func 23) #[] #[]] w
      fun e w' => (∃ v, e = .returned v ∧ ((a0 + b0 ≤ 65535 ∧ a1 + b1 ≤ 65535 ∧ a2 + b2 ≤ 65535 ∧ a3 + b3 ≤ 65535) → v = .tuple #[.agg #[.int .u16 (((a0 + b0) : Nat) : Int), .int .u16 (((a1 + b1) : Nat) : Int), .int .u16 (((a2 + b2) : Nat) : Int), .int .u16 (((a3 + b3) : Nat) : Int)], .bool true]) ∧ (¬(a0 + b0 ≤ 65535 ∧ a1 + b1 ≤ 65535 ∧ a2 + b2 ≤ 65535 ∧ a3 + b3 ≤ 65535) → v = .tuple #[.agg #[.int .u16 0, .int .u16 0, .int .u16 0, .int .u16 0], .bool false])) ∧ Below w.heap.size w w' := by
  have HA := Lib.hid ha
  have HB := Lib.hid hb
  clear ha hb
  go_enter Try.func22, Try.ntmps22
  go_wp2_with fail
  go_loopw [11] (fun i wr => ((i = .int .i64 0 ∧ BoxV wr (w.heap.size + 1 + 1 + 1) [.int .u16 0, .int .u16 0, .int .u16 0, .int .u16 0] ∧ Hid (True)) ∨ (i = .int .i64 1 ∧ BoxV wr (w.heap.size + 1 + 1 + 1) [.int .u16 (((a0 + b0) : Nat) : Int), .int .u16 0, .int .u16 0, .int .u16 0] ∧ Hid (a0 + b0 ≤ 65535 ∧ True)) ∨ (i = .int .i64 2 ∧ BoxV wr (w.heap.size + 1 + 1 + 1) [.int .u16 (((a0 + b0) : Nat) : Int), .int .u16 (((a1 + b1) : Nat) : Int), .int .u16 0, .int .u16 0] ∧ Hid (a0 + b0 ≤ 65535 ∧ a1 + b1 ≤ 65535 ∧ True)) ∨ (i = .int .i64 3 ∧ BoxV wr (w.heap.size + 1 + 1 + 1) [.int .u16 (((a0 + b0) : Nat) : Int), .int .u16 (((a1 + b1) : Nat) : Int), .int .u16 (((a2 + b2) : Nat) : Int), .int .u16 0] ∧ Hid (a0 + b0 ≤ 65535 ∧ a1 + b1 ≤ 65535 ∧ a2 + b2 ≤ 65535 ∧ True)) ∨ (i = .int .i64 4 ∧ BoxV wr (w.heap.size + 1 + 1 + 1) [.int .u16 (((a0 + b0) : Nat) : Int), .int .u16 (((a1 + b1) : Nat) : Int), .int .u16 (((a2 + b2) : Nat) : Int), .int .u16 (((a3 + b3) : Nat) : Int)] ∧ Hid (a0 + b0 ≤ 65535 ∧ a1 + b1 ≤ 65535 ∧ a2 + b2 ≤ 65535 ∧ a3 + b3 ≤ 65535 ∧ True))) ∧ BoxV wr w.heap.size [.int .u16 a0, .int .u16 a1, .int .u16 a2, .int .u16 a3] ∧ BoxV wr (w.heap.size + 1) [.int .u16 b0, .int .u16 b1, .int .u16 b2, .int .u16 b3] ∧ BoxV wr (w.heap.size + 1 + 1) [.int .u16 0, .int .u16 0, .int .u16 0, .int .u16 0] ∧ Hid (Below w.heap.size w wr)) (fun i _ => 4 - (intOf i).toNat)
  case atStart =>
    refine ⟨.inl ⟨rfl, ?_, trivial⟩, ?_, ?_, ?_, Lib.hid (by repeat (first | exact Below.refl _ _ | with_reducible refine Below.drew ?_ | with_reducible refine below_drewN ?_ _ | with_reducible refine Below.setCell ?_ (by first | (simp; done) | (simp; omega) | omega) _ | with_reducible refine Below.alloc ?_ (by first | (simp; done) | (simp; omega) | omega) _))⟩
    all_goals
      intro i hi
      have h4 : i = 0 ∨ i = 1 ∨ i = 2 ∨ i = 3 := by simp at hi; omega
      rcases h4 with rfl | rfl | rfl | rfl <;> constructor <;> go_simp
  case round =>
    obtain ⟨hr, n1, n2, n3, hbw⟩ := hrel
    have N1 := Lib.hid n1
    have N2 := Lib.hid n2
    have N3 := Lib.hid n3
    have p := n1.c4
    have q := n2.c4
    have r := Lib.hid (And.intro n3.c4 n3.f4)
    clear n1 n2 n3
    have x0 := IntWalk.i64_in (a0 : Int) (by have := HA.out; omega)
    have x1 := IntWalk.i64_in (a1 : Int) (by have := HA.out; omega)
    have x2 := IntWalk.i64_in (a2 : Int) (by have := HA.out; omega)
    have x3 := IntWalk.i64_in (a3 : Int) (by have := HA.out; omega)
    have y0 := IntWalk.i64_in (b0 : Int) (by have := HB.out; omega)
    have y1 := IntWalk.i64_in (b1 : Int) (by have := HB.out; omega)
    have y2 := IntWalk.i64_in (b2 : Int) (by have := HB.out; omega)
    have y3 := IntWalk.i64_in (b3 : Int) (by have := HB.out; omega)
    rcases hr with ⟨rfl, n4, hok⟩ | ⟨rfl, n4, hok⟩ | ⟨rfl, n4, hok⟩ | ⟨rfl, n4, hok⟩ | ⟨rfl, n4, hok⟩
    · obtain ⟨n, hn⟩ : ∃ n : Int, ((a0 + b0 : Nat) : Int) = n := ⟨_, rfl⟩
      have HC : Hid (∀ W, Calls Try.prog 23 #[.int .i64 a0, .int .i64 b0] W fun e w' => e = .returned (.int .i64 n) ∧ W = w') := fun _ => by rw [← hn]; exact plus_any a0 b0 _ (by have := HA.out; omega) (by have := HB.out; omega)
      have HN := Lib.hid hn
      clear hn
      have HP := Lib.hid p
      have HQ := Lib.hid q
      have p := p.1
      have q := q.1
      have HX := Lib.hid (And.intro n4.c4 n4.f4)
      have N4 := Lib.hid n4
      clear n4
      by_cases h : a0 + b0 ≤ 65535
      · have c : wr.cell? ⟨(w.heap.size + 1 + 1 + 1), 0, none⟩ = some (.int .u16 0) := HX.out.1.1
        have f : wr.frozen? ⟨(w.heap.size + 1 + 1 + 1), 0, none⟩ = false := HX.out.2.1
        have hw := IntWalk.u16_in n (by have := HN.out; have := HA.out; have := HB.out; omega)
        have d1 : decide (n < 0) = false := decide_eq_false (by have := HN.out; have := HA.out; have := HB.out; omega)
        have d2 : decide (65535 < n) = false := decide_eq_false (by have := HN.out; have := HA.out; have := HB.out; omega)
        have en : n = (((a0 + b0) : Nat) : Int) := by have := HN.out; have := HA.out; have := HB.out; omega
        have HE := Lib.hid en
        have HO : Hid (a0 + b0 ≤ 65535) := h
        clear en h
        go_wp2_with fail
        go_quiet (first | (go_at_call 23; refine (HC.out _).mono ?_; rintro e w1 ⟨rfl, rfl⟩; exact ⟨rfl, _, rfl⟩))
        go_wp2_with fail
        have hd : Below wr.heap.size wr (wr.drewN nq) := (by repeat (first | exact Below.refl _ _ | with_reducible refine Below.drew ?_ | with_reducible refine below_drewN ?_ _ | with_reducible refine Below.setCell ?_ (by first | (simp; done) | (simp; omega) | omega) _ | with_reducible refine Below.alloc ?_ (by first | (simp; done) | (simp; omega) | omega) _))
        have e4 := (((N4.out.below hd).set (k := 0) (by simp) (.int .u16 n)))
        refine ⟨⟨.inr <| .inl ⟨rfl, ?_, ?_⟩, (N1.out.below hd).other (by simp; omega) _, (N2.out.below hd).other (by simp; omega) _, (N3.out.below hd).other (by simp) _, Lib.hid ?_⟩, by simp [intOf]⟩
        · rw [← HE.out]; exact e4
        · exact ⟨HO.out, trivial⟩
        · exact (hbw.out.trans (hd.mono hbw.out.size)).setCell (p := ⟨_, 0, none⟩) (by simp; omega) _
      · have hz := r.out
        have d0 : Hid (¬ (a0 + b0 ≤ 65535)) := h
        clear h
        obtain ⟨⟨c0, c1, c2, c3⟩, f0, f1, f2, f3⟩ := hz
        have hd : (n < 0 ∨ 65535 < n) := by have := HN.out; have := HA.out; have := HB.out; have := d0.out; omega
        have HD := Lib.hid hd
        rcases hd with hd | hd
        · go_wp2_with fail
          go_quiet (first | (go_at_call 23; refine (HC.out _).mono ?_; rintro e w1 ⟨rfl, rfl⟩; exact ⟨rfl, _, rfl⟩))
          go_wp2_with fail
          have hdw : Below wr.heap.size wr (wr.drewN nq) := (by repeat (first | exact Below.refl _ _ | with_reducible refine Below.drew ?_ | with_reducible refine below_drewN ?_ _ | with_reducible refine Below.setCell ?_ (by first | (simp; done) | (simp; omega) | omega) _ | with_reducible refine Below.alloc ?_ (by first | (simp; done) | (simp; omega) | omega) _))
          refine ret_cell2 (t := 6) (u := 7) (r := .bool false) rfl rfl rfl rfl ((N3.out.below hdw).four _ _ _ _) ?_
          refine ⟨⟨_, rfl, fun h => absurd h (by have := d0.out; omega), fun _ => rfl⟩, ?_⟩
          exact below_four (hbw.out.trans (hdw.mono hbw.out.size)) (by omega) _ _ _ _
        · have d1 : decide (n < 0) = false := decide_eq_false (by omega)
          go_wp2_with fail
          go_quiet (first | (go_at_call 23; refine (HC.out _).mono ?_; rintro e w1 ⟨rfl, rfl⟩; exact ⟨rfl, _, rfl⟩))
          go_wp2_with fail
          have hdw : Below wr.heap.size wr (wr.drewN nq) := (by repeat (first | exact Below.refl _ _ | with_reducible refine Below.drew ?_ | with_reducible refine below_drewN ?_ _ | with_reducible refine Below.setCell ?_ (by first | (simp; done) | (simp; omega) | omega) _ | with_reducible refine Below.alloc ?_ (by first | (simp; done) | (simp; omega) | omega) _))
          refine ret_cell2 (t := 6) (u := 7) (r := .bool false) rfl rfl rfl rfl ((N3.out.below hdw).four _ _ _ _) ?_
          refine ⟨⟨_, rfl, fun h => absurd h (by have := d0.out; omega), fun _ => rfl⟩, ?_⟩
          exact below_four (hbw.out.trans (hdw.mono hbw.out.size)) (by omega) _ _ _ _
    · obtain ⟨n, hn⟩ : ∃ n : Int, ((a1 + b1 : Nat) : Int) = n := ⟨_, rfl⟩
      have HC : Hid (∀ W, Calls Try.prog 23 #[.int .i64 a1, .int .i64 b1] W fun e w' => e = .returned (.int .i64 n) ∧ W = w') := fun _ => by rw [← hn]; exact plus_any a1 b1 _ (by have := HA.out; omega) (by have := HB.out; omega)
      have HN := Lib.hid hn
      clear hn
      have HP := Lib.hid p
      have HQ := Lib.hid q
      have p := p.2.1
      have q := q.2.1
      have HX := Lib.hid (And.intro n4.c4 n4.f4)
      have N4 := Lib.hid n4
      clear n4
      by_cases h : a1 + b1 ≤ 65535
      · have c : wr.cell? ⟨(w.heap.size + 1 + 1 + 1), 1, none⟩ = some (.int .u16 0) := HX.out.1.2.1
        have f : wr.frozen? ⟨(w.heap.size + 1 + 1 + 1), 1, none⟩ = false := HX.out.2.2.1
        have hw := IntWalk.u16_in n (by have := HN.out; have := HA.out; have := HB.out; omega)
        have d1 : decide (n < 0) = false := decide_eq_false (by have := HN.out; have := HA.out; have := HB.out; omega)
        have d2 : decide (65535 < n) = false := decide_eq_false (by have := HN.out; have := HA.out; have := HB.out; omega)
        have en : n = (((a1 + b1) : Nat) : Int) := by have := HN.out; have := HA.out; have := HB.out; omega
        have HE := Lib.hid en
        have HO : Hid (a1 + b1 ≤ 65535) := h
        clear en h
        go_wp2_with fail
        go_quiet (first | (go_at_call 23; refine (HC.out _).mono ?_; rintro e w1 ⟨rfl, rfl⟩; exact ⟨rfl, _, rfl⟩))
        go_wp2_with fail
        have hd : Below wr.heap.size wr (wr.drewN nq) := (by repeat (first | exact Below.refl _ _ | with_reducible refine Below.drew ?_ | with_reducible refine below_drewN ?_ _ | with_reducible refine Below.setCell ?_ (by first | (simp; done) | (simp; omega) | omega) _ | with_reducible refine Below.alloc ?_ (by first | (simp; done) | (simp; omega) | omega) _))
        have e4 := (((N4.out.below hd).set (k := 1) (by simp) (.int .u16 n)))
        refine ⟨⟨.inr <| .inr <| .inl ⟨rfl, ?_, ?_⟩, (N1.out.below hd).other (by simp; omega) _, (N2.out.below hd).other (by simp; omega) _, (N3.out.below hd).other (by simp) _, Lib.hid ?_⟩, by simp [intOf]⟩
        · rw [← HE.out]; exact e4
        · exact ⟨hok.out.1, HO.out, trivial⟩
        · exact (hbw.out.trans (hd.mono hbw.out.size)).setCell (p := ⟨_, 1, none⟩) (by simp; omega) _
      · have hz := r.out
        have d0 : Hid (¬ (a1 + b1 ≤ 65535)) := h
        clear h
        obtain ⟨⟨c0, c1, c2, c3⟩, f0, f1, f2, f3⟩ := hz
        have hd : (n < 0 ∨ 65535 < n) := by have := HN.out; have := HA.out; have := HB.out; have := d0.out; omega
        have HD := Lib.hid hd
        rcases hd with hd | hd
        · go_wp2_with fail
          go_quiet (first | (go_at_call 23; refine (HC.out _).mono ?_; rintro e w1 ⟨rfl, rfl⟩; exact ⟨rfl, _, rfl⟩))
          go_wp2_with fail
          have hdw : Below wr.heap.size wr (wr.drewN nq) := (by repeat (first | exact Below.refl _ _ | with_reducible refine Below.drew ?_ | with_reducible refine below_drewN ?_ _ | with_reducible refine Below.setCell ?_ (by first | (simp; done) | (simp; omega) | omega) _ | with_reducible refine Below.alloc ?_ (by first | (simp; done) | (simp; omega) | omega) _))
          refine ret_cell2 (t := 6) (u := 7) (r := .bool false) rfl rfl rfl rfl ((N3.out.below hdw).four _ _ _ _) ?_
          refine ⟨⟨_, rfl, fun h => absurd h (by have := d0.out; omega), fun _ => rfl⟩, ?_⟩
          exact below_four (hbw.out.trans (hdw.mono hbw.out.size)) (by omega) _ _ _ _
        · have d1 : decide (n < 0) = false := decide_eq_false (by omega)
          go_wp2_with fail
          go_quiet (first | (go_at_call 23; refine (HC.out _).mono ?_; rintro e w1 ⟨rfl, rfl⟩; exact ⟨rfl, _, rfl⟩))
          go_wp2_with fail
          have hdw : Below wr.heap.size wr (wr.drewN nq) := (by repeat (first | exact Below.refl _ _ | with_reducible refine Below.drew ?_ | with_reducible refine below_drewN ?_ _ | with_reducible refine Below.setCell ?_ (by first | (simp; done) | (simp; omega) | omega) _ | with_reducible refine Below.alloc ?_ (by first | (simp; done) | (simp; omega) | omega) _))
          refine ret_cell2 (t := 6) (u := 7) (r := .bool false) rfl rfl rfl rfl ((N3.out.below hdw).four _ _ _ _) ?_
          refine ⟨⟨_, rfl, fun h => absurd h (by have := d0.out; omega), fun _ => rfl⟩, ?_⟩
          exact below_four (hbw.out.trans (hdw.mono hbw.out.size)) (by omega) _ _ _ _
    · obtain ⟨n, hn⟩ : ∃ n : Int, ((a2 + b2 : Nat) : Int) = n := ⟨_, rfl⟩
      have HC : Hid (∀ W, Calls Try.prog 23 #[.int .i64 a2, .int .i64 b2] W fun e w' => e = .returned (.int .i64 n) ∧ W = w') := fun _ => by rw [← hn]; exact plus_any a2 b2 _ (by have := HA.out; omega) (by have := HB.out; omega)
      have HN := Lib.hid hn
      clear hn
      have HP := Lib.hid p
      have HQ := Lib.hid q
      have p := p.2.2.1
      have q := q.2.2.1
      have HX := Lib.hid (And.intro n4.c4 n4.f4)
      have N4 := Lib.hid n4
      clear n4
      by_cases h : a2 + b2 ≤ 65535
      · have c : wr.cell? ⟨(w.heap.size + 1 + 1 + 1), 2, none⟩ = some (.int .u16 0) := HX.out.1.2.2.1
        have f : wr.frozen? ⟨(w.heap.size + 1 + 1 + 1), 2, none⟩ = false := HX.out.2.2.2.1
        have hw := IntWalk.u16_in n (by have := HN.out; have := HA.out; have := HB.out; omega)
        have d1 : decide (n < 0) = false := decide_eq_false (by have := HN.out; have := HA.out; have := HB.out; omega)
        have d2 : decide (65535 < n) = false := decide_eq_false (by have := HN.out; have := HA.out; have := HB.out; omega)
        have en : n = (((a2 + b2) : Nat) : Int) := by have := HN.out; have := HA.out; have := HB.out; omega
        have HE := Lib.hid en
        have HO : Hid (a2 + b2 ≤ 65535) := h
        clear en h
        go_wp2_with fail
        go_quiet (first | (go_at_call 23; refine (HC.out _).mono ?_; rintro e w1 ⟨rfl, rfl⟩; exact ⟨rfl, _, rfl⟩))
        go_wp2_with fail
        have hd : Below wr.heap.size wr (wr.drewN nq) := (by repeat (first | exact Below.refl _ _ | with_reducible refine Below.drew ?_ | with_reducible refine below_drewN ?_ _ | with_reducible refine Below.setCell ?_ (by first | (simp; done) | (simp; omega) | omega) _ | with_reducible refine Below.alloc ?_ (by first | (simp; done) | (simp; omega) | omega) _))
        have e4 := (((N4.out.below hd).set (k := 2) (by simp) (.int .u16 n)))
        refine ⟨⟨.inr <| .inr <| .inr <| .inl ⟨rfl, ?_, ?_⟩, (N1.out.below hd).other (by simp; omega) _, (N2.out.below hd).other (by simp; omega) _, (N3.out.below hd).other (by simp) _, Lib.hid ?_⟩, by simp [intOf]⟩
        · rw [← HE.out]; exact e4
        · exact ⟨hok.out.1, hok.out.2.1, HO.out, trivial⟩
        · exact (hbw.out.trans (hd.mono hbw.out.size)).setCell (p := ⟨_, 2, none⟩) (by simp; omega) _
      · have hz := r.out
        have d0 : Hid (¬ (a2 + b2 ≤ 65535)) := h
        clear h
        obtain ⟨⟨c0, c1, c2, c3⟩, f0, f1, f2, f3⟩ := hz
        have hd : (n < 0 ∨ 65535 < n) := by have := HN.out; have := HA.out; have := HB.out; have := d0.out; omega
        have HD := Lib.hid hd
        rcases hd with hd | hd
        · go_wp2_with fail
          go_quiet (first | (go_at_call 23; refine (HC.out _).mono ?_; rintro e w1 ⟨rfl, rfl⟩; exact ⟨rfl, _, rfl⟩))
          go_wp2_with fail
          have hdw : Below wr.heap.size wr (wr.drewN nq) := (by repeat (first | exact Below.refl _ _ | with_reducible refine Below.drew ?_ | with_reducible refine below_drewN ?_ _ | with_reducible refine Below.setCell ?_ (by first | (simp; done) | (simp; omega) | omega) _ | with_reducible refine Below.alloc ?_ (by first | (simp; done) | (simp; omega) | omega) _))
          refine ret_cell2 (t := 6) (u := 7) (r := .bool false) rfl rfl rfl rfl ((N3.out.below hdw).four _ _ _ _) ?_
          refine ⟨⟨_, rfl, fun h => absurd h (by have := d0.out; omega), fun _ => rfl⟩, ?_⟩
          exact below_four (hbw.out.trans (hdw.mono hbw.out.size)) (by omega) _ _ _ _
        · have d1 : decide (n < 0) = false := decide_eq_false (by omega)
          go_wp2_with fail
          go_quiet (first | (go_at_call 23; refine (HC.out _).mono ?_; rintro e w1 ⟨rfl, rfl⟩; exact ⟨rfl, _, rfl⟩))
          go_wp2_with fail
          have hdw : Below wr.heap.size wr (wr.drewN nq) := (by repeat (first | exact Below.refl _ _ | with_reducible refine Below.drew ?_ | with_reducible refine below_drewN ?_ _ | with_reducible refine Below.setCell ?_ (by first | (simp; done) | (simp; omega) | omega) _ | with_reducible refine Below.alloc ?_ (by first | (simp; done) | (simp; omega) | omega) _))
          refine ret_cell2 (t := 6) (u := 7) (r := .bool false) rfl rfl rfl rfl ((N3.out.below hdw).four _ _ _ _) ?_
          refine ⟨⟨_, rfl, fun h => absurd h (by have := d0.out; omega), fun _ => rfl⟩, ?_⟩
          exact below_four (hbw.out.trans (hdw.mono hbw.out.size)) (by omega) _ _ _ _
    · obtain ⟨n, hn⟩ : ∃ n : Int, ((a3 + b3 : Nat) : Int) = n := ⟨_, rfl⟩
      have HC : Hid (∀ W, Calls Try.prog 23 #[.int .i64 a3, .int .i64 b3] W fun e w' => e = .returned (.int .i64 n) ∧ W = w') := fun _ => by rw [← hn]; exact plus_any a3 b3 _ (by have := HA.out; omega) (by have := HB.out; omega)
      have HN := Lib.hid hn
      clear hn
      have HP := Lib.hid p
      have HQ := Lib.hid q
      have p := p.2.2.2
      have q := q.2.2.2
      have HX := Lib.hid (And.intro n4.c4 n4.f4)
      have N4 := Lib.hid n4
      clear n4
      by_cases h : a3 + b3 ≤ 65535
      · have c : wr.cell? ⟨(w.heap.size + 1 + 1 + 1), 3, none⟩ = some (.int .u16 0) := HX.out.1.2.2.2
        have f : wr.frozen? ⟨(w.heap.size + 1 + 1 + 1), 3, none⟩ = false := HX.out.2.2.2.2
        have hw := IntWalk.u16_in n (by have := HN.out; have := HA.out; have := HB.out; omega)
        have d1 : decide (n < 0) = false := decide_eq_false (by have := HN.out; have := HA.out; have := HB.out; omega)
        have d2 : decide (65535 < n) = false := decide_eq_false (by have := HN.out; have := HA.out; have := HB.out; omega)
        have en : n = (((a3 + b3) : Nat) : Int) := by have := HN.out; have := HA.out; have := HB.out; omega
        have HE := Lib.hid en
        have HO : Hid (a3 + b3 ≤ 65535) := h
        clear en h
        go_wp2_with fail
        go_quiet (first | (go_at_call 23; refine (HC.out _).mono ?_; rintro e w1 ⟨rfl, rfl⟩; exact ⟨rfl, _, rfl⟩))
        go_wp2_with fail
        have hd : Below wr.heap.size wr (wr.drewN nq) := (by repeat (first | exact Below.refl _ _ | with_reducible refine Below.drew ?_ | with_reducible refine below_drewN ?_ _ | with_reducible refine Below.setCell ?_ (by first | (simp; done) | (simp; omega) | omega) _ | with_reducible refine Below.alloc ?_ (by first | (simp; done) | (simp; omega) | omega) _))
        have e4 := (((N4.out.below hd).set (k := 3) (by simp) (.int .u16 n)))
        refine ⟨⟨.inr <| .inr <| .inr <| .inr <| ⟨rfl, ?_, ?_⟩, (N1.out.below hd).other (by simp; omega) _, (N2.out.below hd).other (by simp; omega) _, (N3.out.below hd).other (by simp) _, Lib.hid ?_⟩, by simp [intOf]⟩
        · rw [← HE.out]; exact e4
        · exact ⟨hok.out.1, hok.out.2.1, hok.out.2.2.1, HO.out, trivial⟩
        · exact (hbw.out.trans (hd.mono hbw.out.size)).setCell (p := ⟨_, 3, none⟩) (by simp; omega) _
      · have hz := r.out
        have d0 : Hid (¬ (a3 + b3 ≤ 65535)) := h
        clear h
        obtain ⟨⟨c0, c1, c2, c3⟩, f0, f1, f2, f3⟩ := hz
        have hd : (n < 0 ∨ 65535 < n) := by have := HN.out; have := HA.out; have := HB.out; have := d0.out; omega
        have HD := Lib.hid hd
        rcases hd with hd | hd
        · go_wp2_with fail
          go_quiet (first | (go_at_call 23; refine (HC.out _).mono ?_; rintro e w1 ⟨rfl, rfl⟩; exact ⟨rfl, _, rfl⟩))
          go_wp2_with fail
          have hdw : Below wr.heap.size wr (wr.drewN nq) := (by repeat (first | exact Below.refl _ _ | with_reducible refine Below.drew ?_ | with_reducible refine below_drewN ?_ _ | with_reducible refine Below.setCell ?_ (by first | (simp; done) | (simp; omega) | omega) _ | with_reducible refine Below.alloc ?_ (by first | (simp; done) | (simp; omega) | omega) _))
          refine ret_cell2 (t := 6) (u := 7) (r := .bool false) rfl rfl rfl rfl ((N3.out.below hdw).four _ _ _ _) ?_
          refine ⟨⟨_, rfl, fun h => absurd h (by have := d0.out; omega), fun _ => rfl⟩, ?_⟩
          exact below_four (hbw.out.trans (hdw.mono hbw.out.size)) (by omega) _ _ _ _
        · have d1 : decide (n < 0) = false := decide_eq_false (by omega)
          go_wp2_with fail
          go_quiet (first | (go_at_call 23; refine (HC.out _).mono ?_; rintro e w1 ⟨rfl, rfl⟩; exact ⟨rfl, _, rfl⟩))
          go_wp2_with fail
          have hdw : Below wr.heap.size wr (wr.drewN nq) := (by repeat (first | exact Below.refl _ _ | with_reducible refine Below.drew ?_ | with_reducible refine below_drewN ?_ _ | with_reducible refine Below.setCell ?_ (by first | (simp; done) | (simp; omega) | omega) _ | with_reducible refine Below.alloc ?_ (by first | (simp; done) | (simp; omega) | omega) _))
          refine ret_cell2 (t := 6) (u := 7) (r := .bool false) rfl rfl rfl rfl ((N3.out.below hdw).four _ _ _ _) ?_
          refine ⟨⟨_, rfl, fun h => absurd h (by have := d0.out; omega), fun _ => rfl⟩, ?_⟩
          exact below_four (hbw.out.trans (hdw.mono hbw.out.size)) (by omega) _ _ _ _
    · have HX := n4.c4
      have N4 := Lib.hid n4
      obtain ⟨c0, c1, c2, c3⟩ := HX
      obtain ⟨⟨g0, g1, g2, g3⟩, f0, f1, f2, f3⟩ := r.out
      clear n4 r p q
      go_wp2_with fail
      refine ret_cell2 (t := 6) (u := 7) (r := .bool true) rfl rfl rfl rfl (N3.out.four _ _ _ _) ?_
      refine ⟨⟨_, rfl, fun _ => by simp, fun h => absurd ⟨hok.out.1, hok.out.2.1, hok.out.2.2.1, hok.out.2.2.2.1⟩ h⟩, below_four hbw.out (by omega) _ _ _ _⟩

set_option maxRecDepth 100000 in
set_option maxHeartbeats 1000000 in
theorem made_less (a0 a1 a2 a3 b0 b1 b2 b3 : Nat) (w : World) (ha : a0 < 65536 ∧ a1 < 65536 ∧ a2 < 65536 ∧ a3 < 65536) (hb : b0 < 65536 ∧ b1 < 65536 ∧ b2 < 65536 ∧ b3 < 65536) :
    Calls Try.prog 22 #[.agg #[.int .u16 a0, .int .u16 a1, .int .u16 a2, .int .u16 a3], .agg #[.int .u16 b0, .int .u16 b1, .int .u16 b2, .int .u16 b3], .func (.func 24) #[] #[]] w
      fun e w' => (∃ v, e = .returned v ∧ ((b0 ≤ a0 ∧ b1 ≤ a1 ∧ b2 ≤ a2 ∧ b3 ≤ a3) → v = .tuple #[.agg #[.int .u16 (((a0 - b0) : Nat) : Int), .int .u16 (((a1 - b1) : Nat) : Int), .int .u16 (((a2 - b2) : Nat) : Int), .int .u16 (((a3 - b3) : Nat) : Int)], .bool true]) ∧ (¬(b0 ≤ a0 ∧ b1 ≤ a1 ∧ b2 ≤ a2 ∧ b3 ≤ a3) → v = .tuple #[.agg #[.int .u16 0, .int .u16 0, .int .u16 0, .int .u16 0], .bool false])) ∧ Below w.heap.size w w' := by
  have HA := Lib.hid ha
  have HB := Lib.hid hb
  clear ha hb
  go_enter Try.func22, Try.ntmps22
  go_wp2_with fail
  go_loopw [11] (fun i wr => ((i = .int .i64 0 ∧ BoxV wr (w.heap.size + 1 + 1 + 1) [.int .u16 0, .int .u16 0, .int .u16 0, .int .u16 0] ∧ Hid (True)) ∨ (i = .int .i64 1 ∧ BoxV wr (w.heap.size + 1 + 1 + 1) [.int .u16 (((a0 - b0) : Nat) : Int), .int .u16 0, .int .u16 0, .int .u16 0] ∧ Hid (b0 ≤ a0 ∧ True)) ∨ (i = .int .i64 2 ∧ BoxV wr (w.heap.size + 1 + 1 + 1) [.int .u16 (((a0 - b0) : Nat) : Int), .int .u16 (((a1 - b1) : Nat) : Int), .int .u16 0, .int .u16 0] ∧ Hid (b0 ≤ a0 ∧ b1 ≤ a1 ∧ True)) ∨ (i = .int .i64 3 ∧ BoxV wr (w.heap.size + 1 + 1 + 1) [.int .u16 (((a0 - b0) : Nat) : Int), .int .u16 (((a1 - b1) : Nat) : Int), .int .u16 (((a2 - b2) : Nat) : Int), .int .u16 0] ∧ Hid (b0 ≤ a0 ∧ b1 ≤ a1 ∧ b2 ≤ a2 ∧ True)) ∨ (i = .int .i64 4 ∧ BoxV wr (w.heap.size + 1 + 1 + 1) [.int .u16 (((a0 - b0) : Nat) : Int), .int .u16 (((a1 - b1) : Nat) : Int), .int .u16 (((a2 - b2) : Nat) : Int), .int .u16 (((a3 - b3) : Nat) : Int)] ∧ Hid (b0 ≤ a0 ∧ b1 ≤ a1 ∧ b2 ≤ a2 ∧ b3 ≤ a3 ∧ True))) ∧ BoxV wr w.heap.size [.int .u16 a0, .int .u16 a1, .int .u16 a2, .int .u16 a3] ∧ BoxV wr (w.heap.size + 1) [.int .u16 b0, .int .u16 b1, .int .u16 b2, .int .u16 b3] ∧ BoxV wr (w.heap.size + 1 + 1) [.int .u16 0, .int .u16 0, .int .u16 0, .int .u16 0] ∧ Hid (Below w.heap.size w wr)) (fun i _ => 4 - (intOf i).toNat)
  case atStart =>
    refine ⟨.inl ⟨rfl, ?_, trivial⟩, ?_, ?_, ?_, Lib.hid (by repeat (first | exact Below.refl _ _ | with_reducible refine Below.drew ?_ | with_reducible refine below_drewN ?_ _ | with_reducible refine Below.setCell ?_ (by first | (simp; done) | (simp; omega) | omega) _ | with_reducible refine Below.alloc ?_ (by first | (simp; done) | (simp; omega) | omega) _))⟩
    all_goals
      intro i hi
      have h4 : i = 0 ∨ i = 1 ∨ i = 2 ∨ i = 3 := by simp at hi; omega
      rcases h4 with rfl | rfl | rfl | rfl <;> constructor <;> go_simp
  case round =>
    obtain ⟨hr, n1, n2, n3, hbw⟩ := hrel
    have N1 := Lib.hid n1
    have N2 := Lib.hid n2
    have N3 := Lib.hid n3
    have p := n1.c4
    have q := n2.c4
    have r := Lib.hid (And.intro n3.c4 n3.f4)
    clear n1 n2 n3
    have x0 := IntWalk.i64_in (a0 : Int) (by have := HA.out; omega)
    have x1 := IntWalk.i64_in (a1 : Int) (by have := HA.out; omega)
    have x2 := IntWalk.i64_in (a2 : Int) (by have := HA.out; omega)
    have x3 := IntWalk.i64_in (a3 : Int) (by have := HA.out; omega)
    have y0 := IntWalk.i64_in (b0 : Int) (by have := HB.out; omega)
    have y1 := IntWalk.i64_in (b1 : Int) (by have := HB.out; omega)
    have y2 := IntWalk.i64_in (b2 : Int) (by have := HB.out; omega)
    have y3 := IntWalk.i64_in (b3 : Int) (by have := HB.out; omega)
    rcases hr with ⟨rfl, n4, hok⟩ | ⟨rfl, n4, hok⟩ | ⟨rfl, n4, hok⟩ | ⟨rfl, n4, hok⟩ | ⟨rfl, n4, hok⟩
    · obtain ⟨n, hn⟩ : ∃ n : Int, ((a0 : Int) - (b0 : Int)) = n := ⟨_, rfl⟩
      have HC : Hid (∀ W, Calls Try.prog 24 #[.int .i64 a0, .int .i64 b0] W fun e w' => e = .returned (.int .i64 n) ∧ W = w') := fun _ => by rw [← hn]; exact less_any a0 b0 _ (by have := HA.out; omega) (by have := HB.out; omega)
      have HN := Lib.hid hn
      clear hn
      have HP := Lib.hid p
      have HQ := Lib.hid q
      have p := p.1
      have q := q.1
      have HX := Lib.hid (And.intro n4.c4 n4.f4)
      have N4 := Lib.hid n4
      clear n4
      by_cases h : b0 ≤ a0
      · have c : wr.cell? ⟨(w.heap.size + 1 + 1 + 1), 0, none⟩ = some (.int .u16 0) := HX.out.1.1
        have f : wr.frozen? ⟨(w.heap.size + 1 + 1 + 1), 0, none⟩ = false := HX.out.2.1
        have hw := IntWalk.u16_in n (by have := HN.out; have := HA.out; have := HB.out; omega)
        have d1 : decide (n < 0) = false := decide_eq_false (by have := HN.out; have := HA.out; have := HB.out; omega)
        have d2 : decide (65535 < n) = false := decide_eq_false (by have := HN.out; have := HA.out; have := HB.out; omega)
        have en : n = (((a0 - b0) : Nat) : Int) := by have := HN.out; have := HA.out; have := HB.out; omega
        have HE := Lib.hid en
        have HO : Hid (b0 ≤ a0) := h
        clear en h
        go_wp2_with fail
        go_quiet (first | (go_at_call 24; refine (HC.out _).mono ?_; rintro e w1 ⟨rfl, rfl⟩; exact ⟨rfl, _, rfl⟩))
        go_wp2_with fail
        have hd : Below wr.heap.size wr (wr.drewN nq) := (by repeat (first | exact Below.refl _ _ | with_reducible refine Below.drew ?_ | with_reducible refine below_drewN ?_ _ | with_reducible refine Below.setCell ?_ (by first | (simp; done) | (simp; omega) | omega) _ | with_reducible refine Below.alloc ?_ (by first | (simp; done) | (simp; omega) | omega) _))
        have e4 := (((N4.out.below hd).set (k := 0) (by simp) (.int .u16 n)))
        refine ⟨⟨.inr <| .inl ⟨rfl, ?_, ?_⟩, (N1.out.below hd).other (by simp; omega) _, (N2.out.below hd).other (by simp; omega) _, (N3.out.below hd).other (by simp) _, Lib.hid ?_⟩, by simp [intOf]⟩
        · rw [← HE.out]; exact e4
        · exact ⟨HO.out, trivial⟩
        · exact (hbw.out.trans (hd.mono hbw.out.size)).setCell (p := ⟨_, 0, none⟩) (by simp; omega) _
      · have hz := r.out
        have d0 : Hid (¬ (b0 ≤ a0)) := h
        clear h
        obtain ⟨⟨c0, c1, c2, c3⟩, f0, f1, f2, f3⟩ := hz
        have hd : (n < 0 ∨ 65535 < n) := by have := HN.out; have := HA.out; have := HB.out; have := d0.out; omega
        have HD := Lib.hid hd
        rcases hd with hd | hd
        · go_wp2_with fail
          go_quiet (first | (go_at_call 24; refine (HC.out _).mono ?_; rintro e w1 ⟨rfl, rfl⟩; exact ⟨rfl, _, rfl⟩))
          go_wp2_with fail
          have hdw : Below wr.heap.size wr (wr.drewN nq) := (by repeat (first | exact Below.refl _ _ | with_reducible refine Below.drew ?_ | with_reducible refine below_drewN ?_ _ | with_reducible refine Below.setCell ?_ (by first | (simp; done) | (simp; omega) | omega) _ | with_reducible refine Below.alloc ?_ (by first | (simp; done) | (simp; omega) | omega) _))
          refine ret_cell2 (t := 6) (u := 7) (r := .bool false) rfl rfl rfl rfl ((N3.out.below hdw).four _ _ _ _) ?_
          refine ⟨⟨_, rfl, fun h => absurd h (by have := d0.out; omega), fun _ => rfl⟩, ?_⟩
          exact below_four (hbw.out.trans (hdw.mono hbw.out.size)) (by omega) _ _ _ _
        · have d1 : decide (n < 0) = false := decide_eq_false (by omega)
          go_wp2_with fail
          go_quiet (first | (go_at_call 24; refine (HC.out _).mono ?_; rintro e w1 ⟨rfl, rfl⟩; exact ⟨rfl, _, rfl⟩))
          go_wp2_with fail
          have hdw : Below wr.heap.size wr (wr.drewN nq) := (by repeat (first | exact Below.refl _ _ | with_reducible refine Below.drew ?_ | with_reducible refine below_drewN ?_ _ | with_reducible refine Below.setCell ?_ (by first | (simp; done) | (simp; omega) | omega) _ | with_reducible refine Below.alloc ?_ (by first | (simp; done) | (simp; omega) | omega) _))
          refine ret_cell2 (t := 6) (u := 7) (r := .bool false) rfl rfl rfl rfl ((N3.out.below hdw).four _ _ _ _) ?_
          refine ⟨⟨_, rfl, fun h => absurd h (by have := d0.out; omega), fun _ => rfl⟩, ?_⟩
          exact below_four (hbw.out.trans (hdw.mono hbw.out.size)) (by omega) _ _ _ _
    · obtain ⟨n, hn⟩ : ∃ n : Int, ((a1 : Int) - (b1 : Int)) = n := ⟨_, rfl⟩
      have HC : Hid (∀ W, Calls Try.prog 24 #[.int .i64 a1, .int .i64 b1] W fun e w' => e = .returned (.int .i64 n) ∧ W = w') := fun _ => by rw [← hn]; exact less_any a1 b1 _ (by have := HA.out; omega) (by have := HB.out; omega)
      have HN := Lib.hid hn
      clear hn
      have HP := Lib.hid p
      have HQ := Lib.hid q
      have p := p.2.1
      have q := q.2.1
      have HX := Lib.hid (And.intro n4.c4 n4.f4)
      have N4 := Lib.hid n4
      clear n4
      by_cases h : b1 ≤ a1
      · have c : wr.cell? ⟨(w.heap.size + 1 + 1 + 1), 1, none⟩ = some (.int .u16 0) := HX.out.1.2.1
        have f : wr.frozen? ⟨(w.heap.size + 1 + 1 + 1), 1, none⟩ = false := HX.out.2.2.1
        have hw := IntWalk.u16_in n (by have := HN.out; have := HA.out; have := HB.out; omega)
        have d1 : decide (n < 0) = false := decide_eq_false (by have := HN.out; have := HA.out; have := HB.out; omega)
        have d2 : decide (65535 < n) = false := decide_eq_false (by have := HN.out; have := HA.out; have := HB.out; omega)
        have en : n = (((a1 - b1) : Nat) : Int) := by have := HN.out; have := HA.out; have := HB.out; omega
        have HE := Lib.hid en
        have HO : Hid (b1 ≤ a1) := h
        clear en h
        go_wp2_with fail
        go_quiet (first | (go_at_call 24; refine (HC.out _).mono ?_; rintro e w1 ⟨rfl, rfl⟩; exact ⟨rfl, _, rfl⟩))
        go_wp2_with fail
        have hd : Below wr.heap.size wr (wr.drewN nq) := (by repeat (first | exact Below.refl _ _ | with_reducible refine Below.drew ?_ | with_reducible refine below_drewN ?_ _ | with_reducible refine Below.setCell ?_ (by first | (simp; done) | (simp; omega) | omega) _ | with_reducible refine Below.alloc ?_ (by first | (simp; done) | (simp; omega) | omega) _))
        have e4 := (((N4.out.below hd).set (k := 1) (by simp) (.int .u16 n)))
        refine ⟨⟨.inr <| .inr <| .inl ⟨rfl, ?_, ?_⟩, (N1.out.below hd).other (by simp; omega) _, (N2.out.below hd).other (by simp; omega) _, (N3.out.below hd).other (by simp) _, Lib.hid ?_⟩, by simp [intOf]⟩
        · rw [← HE.out]; exact e4
        · exact ⟨hok.out.1, HO.out, trivial⟩
        · exact (hbw.out.trans (hd.mono hbw.out.size)).setCell (p := ⟨_, 1, none⟩) (by simp; omega) _
      · have hz := r.out
        have d0 : Hid (¬ (b1 ≤ a1)) := h
        clear h
        obtain ⟨⟨c0, c1, c2, c3⟩, f0, f1, f2, f3⟩ := hz
        have hd : (n < 0 ∨ 65535 < n) := by have := HN.out; have := HA.out; have := HB.out; have := d0.out; omega
        have HD := Lib.hid hd
        rcases hd with hd | hd
        · go_wp2_with fail
          go_quiet (first | (go_at_call 24; refine (HC.out _).mono ?_; rintro e w1 ⟨rfl, rfl⟩; exact ⟨rfl, _, rfl⟩))
          go_wp2_with fail
          have hdw : Below wr.heap.size wr (wr.drewN nq) := (by repeat (first | exact Below.refl _ _ | with_reducible refine Below.drew ?_ | with_reducible refine below_drewN ?_ _ | with_reducible refine Below.setCell ?_ (by first | (simp; done) | (simp; omega) | omega) _ | with_reducible refine Below.alloc ?_ (by first | (simp; done) | (simp; omega) | omega) _))
          refine ret_cell2 (t := 6) (u := 7) (r := .bool false) rfl rfl rfl rfl ((N3.out.below hdw).four _ _ _ _) ?_
          refine ⟨⟨_, rfl, fun h => absurd h (by have := d0.out; omega), fun _ => rfl⟩, ?_⟩
          exact below_four (hbw.out.trans (hdw.mono hbw.out.size)) (by omega) _ _ _ _
        · have d1 : decide (n < 0) = false := decide_eq_false (by omega)
          go_wp2_with fail
          go_quiet (first | (go_at_call 24; refine (HC.out _).mono ?_; rintro e w1 ⟨rfl, rfl⟩; exact ⟨rfl, _, rfl⟩))
          go_wp2_with fail
          have hdw : Below wr.heap.size wr (wr.drewN nq) := (by repeat (first | exact Below.refl _ _ | with_reducible refine Below.drew ?_ | with_reducible refine below_drewN ?_ _ | with_reducible refine Below.setCell ?_ (by first | (simp; done) | (simp; omega) | omega) _ | with_reducible refine Below.alloc ?_ (by first | (simp; done) | (simp; omega) | omega) _))
          refine ret_cell2 (t := 6) (u := 7) (r := .bool false) rfl rfl rfl rfl ((N3.out.below hdw).four _ _ _ _) ?_
          refine ⟨⟨_, rfl, fun h => absurd h (by have := d0.out; omega), fun _ => rfl⟩, ?_⟩
          exact below_four (hbw.out.trans (hdw.mono hbw.out.size)) (by omega) _ _ _ _
    · obtain ⟨n, hn⟩ : ∃ n : Int, ((a2 : Int) - (b2 : Int)) = n := ⟨_, rfl⟩
      have HC : Hid (∀ W, Calls Try.prog 24 #[.int .i64 a2, .int .i64 b2] W fun e w' => e = .returned (.int .i64 n) ∧ W = w') := fun _ => by rw [← hn]; exact less_any a2 b2 _ (by have := HA.out; omega) (by have := HB.out; omega)
      have HN := Lib.hid hn
      clear hn
      have HP := Lib.hid p
      have HQ := Lib.hid q
      have p := p.2.2.1
      have q := q.2.2.1
      have HX := Lib.hid (And.intro n4.c4 n4.f4)
      have N4 := Lib.hid n4
      clear n4
      by_cases h : b2 ≤ a2
      · have c : wr.cell? ⟨(w.heap.size + 1 + 1 + 1), 2, none⟩ = some (.int .u16 0) := HX.out.1.2.2.1
        have f : wr.frozen? ⟨(w.heap.size + 1 + 1 + 1), 2, none⟩ = false := HX.out.2.2.2.1
        have hw := IntWalk.u16_in n (by have := HN.out; have := HA.out; have := HB.out; omega)
        have d1 : decide (n < 0) = false := decide_eq_false (by have := HN.out; have := HA.out; have := HB.out; omega)
        have d2 : decide (65535 < n) = false := decide_eq_false (by have := HN.out; have := HA.out; have := HB.out; omega)
        have en : n = (((a2 - b2) : Nat) : Int) := by have := HN.out; have := HA.out; have := HB.out; omega
        have HE := Lib.hid en
        have HO : Hid (b2 ≤ a2) := h
        clear en h
        go_wp2_with fail
        go_quiet (first | (go_at_call 24; refine (HC.out _).mono ?_; rintro e w1 ⟨rfl, rfl⟩; exact ⟨rfl, _, rfl⟩))
        go_wp2_with fail
        have hd : Below wr.heap.size wr (wr.drewN nq) := (by repeat (first | exact Below.refl _ _ | with_reducible refine Below.drew ?_ | with_reducible refine below_drewN ?_ _ | with_reducible refine Below.setCell ?_ (by first | (simp; done) | (simp; omega) | omega) _ | with_reducible refine Below.alloc ?_ (by first | (simp; done) | (simp; omega) | omega) _))
        have e4 := (((N4.out.below hd).set (k := 2) (by simp) (.int .u16 n)))
        refine ⟨⟨.inr <| .inr <| .inr <| .inl ⟨rfl, ?_, ?_⟩, (N1.out.below hd).other (by simp; omega) _, (N2.out.below hd).other (by simp; omega) _, (N3.out.below hd).other (by simp) _, Lib.hid ?_⟩, by simp [intOf]⟩
        · rw [← HE.out]; exact e4
        · exact ⟨hok.out.1, hok.out.2.1, HO.out, trivial⟩
        · exact (hbw.out.trans (hd.mono hbw.out.size)).setCell (p := ⟨_, 2, none⟩) (by simp; omega) _
      · have hz := r.out
        have d0 : Hid (¬ (b2 ≤ a2)) := h
        clear h
        obtain ⟨⟨c0, c1, c2, c3⟩, f0, f1, f2, f3⟩ := hz
        have hd : (n < 0 ∨ 65535 < n) := by have := HN.out; have := HA.out; have := HB.out; have := d0.out; omega
        have HD := Lib.hid hd
        rcases hd with hd | hd
        · go_wp2_with fail
          go_quiet (first | (go_at_call 24; refine (HC.out _).mono ?_; rintro e w1 ⟨rfl, rfl⟩; exact ⟨rfl, _, rfl⟩))
          go_wp2_with fail
          have hdw : Below wr.heap.size wr (wr.drewN nq) := (by repeat (first | exact Below.refl _ _ | with_reducible refine Below.drew ?_ | with_reducible refine below_drewN ?_ _ | with_reducible refine Below.setCell ?_ (by first | (simp; done) | (simp; omega) | omega) _ | with_reducible refine Below.alloc ?_ (by first | (simp; done) | (simp; omega) | omega) _))
          refine ret_cell2 (t := 6) (u := 7) (r := .bool false) rfl rfl rfl rfl ((N3.out.below hdw).four _ _ _ _) ?_
          refine ⟨⟨_, rfl, fun h => absurd h (by have := d0.out; omega), fun _ => rfl⟩, ?_⟩
          exact below_four (hbw.out.trans (hdw.mono hbw.out.size)) (by omega) _ _ _ _
        · have d1 : decide (n < 0) = false := decide_eq_false (by omega)
          go_wp2_with fail
          go_quiet (first | (go_at_call 24; refine (HC.out _).mono ?_; rintro e w1 ⟨rfl, rfl⟩; exact ⟨rfl, _, rfl⟩))
          go_wp2_with fail
          have hdw : Below wr.heap.size wr (wr.drewN nq) := (by repeat (first | exact Below.refl _ _ | with_reducible refine Below.drew ?_ | with_reducible refine below_drewN ?_ _ | with_reducible refine Below.setCell ?_ (by first | (simp; done) | (simp; omega) | omega) _ | with_reducible refine Below.alloc ?_ (by first | (simp; done) | (simp; omega) | omega) _))
          refine ret_cell2 (t := 6) (u := 7) (r := .bool false) rfl rfl rfl rfl ((N3.out.below hdw).four _ _ _ _) ?_
          refine ⟨⟨_, rfl, fun h => absurd h (by have := d0.out; omega), fun _ => rfl⟩, ?_⟩
          exact below_four (hbw.out.trans (hdw.mono hbw.out.size)) (by omega) _ _ _ _
    · obtain ⟨n, hn⟩ : ∃ n : Int, ((a3 : Int) - (b3 : Int)) = n := ⟨_, rfl⟩
      have HC : Hid (∀ W, Calls Try.prog 24 #[.int .i64 a3, .int .i64 b3] W fun e w' => e = .returned (.int .i64 n) ∧ W = w') := fun _ => by rw [← hn]; exact less_any a3 b3 _ (by have := HA.out; omega) (by have := HB.out; omega)
      have HN := Lib.hid hn
      clear hn
      have HP := Lib.hid p
      have HQ := Lib.hid q
      have p := p.2.2.2
      have q := q.2.2.2
      have HX := Lib.hid (And.intro n4.c4 n4.f4)
      have N4 := Lib.hid n4
      clear n4
      by_cases h : b3 ≤ a3
      · have c : wr.cell? ⟨(w.heap.size + 1 + 1 + 1), 3, none⟩ = some (.int .u16 0) := HX.out.1.2.2.2
        have f : wr.frozen? ⟨(w.heap.size + 1 + 1 + 1), 3, none⟩ = false := HX.out.2.2.2.2
        have hw := IntWalk.u16_in n (by have := HN.out; have := HA.out; have := HB.out; omega)
        have d1 : decide (n < 0) = false := decide_eq_false (by have := HN.out; have := HA.out; have := HB.out; omega)
        have d2 : decide (65535 < n) = false := decide_eq_false (by have := HN.out; have := HA.out; have := HB.out; omega)
        have en : n = (((a3 - b3) : Nat) : Int) := by have := HN.out; have := HA.out; have := HB.out; omega
        have HE := Lib.hid en
        have HO : Hid (b3 ≤ a3) := h
        clear en h
        go_wp2_with fail
        go_quiet (first | (go_at_call 24; refine (HC.out _).mono ?_; rintro e w1 ⟨rfl, rfl⟩; exact ⟨rfl, _, rfl⟩))
        go_wp2_with fail
        have hd : Below wr.heap.size wr (wr.drewN nq) := (by repeat (first | exact Below.refl _ _ | with_reducible refine Below.drew ?_ | with_reducible refine below_drewN ?_ _ | with_reducible refine Below.setCell ?_ (by first | (simp; done) | (simp; omega) | omega) _ | with_reducible refine Below.alloc ?_ (by first | (simp; done) | (simp; omega) | omega) _))
        have e4 := (((N4.out.below hd).set (k := 3) (by simp) (.int .u16 n)))
        refine ⟨⟨.inr <| .inr <| .inr <| .inr <| ⟨rfl, ?_, ?_⟩, (N1.out.below hd).other (by simp; omega) _, (N2.out.below hd).other (by simp; omega) _, (N3.out.below hd).other (by simp) _, Lib.hid ?_⟩, by simp [intOf]⟩
        · rw [← HE.out]; exact e4
        · exact ⟨hok.out.1, hok.out.2.1, hok.out.2.2.1, HO.out, trivial⟩
        · exact (hbw.out.trans (hd.mono hbw.out.size)).setCell (p := ⟨_, 3, none⟩) (by simp; omega) _
      · have hz := r.out
        have d0 : Hid (¬ (b3 ≤ a3)) := h
        clear h
        obtain ⟨⟨c0, c1, c2, c3⟩, f0, f1, f2, f3⟩ := hz
        have hd : (n < 0 ∨ 65535 < n) := by have := HN.out; have := HA.out; have := HB.out; have := d0.out; omega
        have HD := Lib.hid hd
        rcases hd with hd | hd
        · go_wp2_with fail
          go_quiet (first | (go_at_call 24; refine (HC.out _).mono ?_; rintro e w1 ⟨rfl, rfl⟩; exact ⟨rfl, _, rfl⟩))
          go_wp2_with fail
          have hdw : Below wr.heap.size wr (wr.drewN nq) := (by repeat (first | exact Below.refl _ _ | with_reducible refine Below.drew ?_ | with_reducible refine below_drewN ?_ _ | with_reducible refine Below.setCell ?_ (by first | (simp; done) | (simp; omega) | omega) _ | with_reducible refine Below.alloc ?_ (by first | (simp; done) | (simp; omega) | omega) _))
          refine ret_cell2 (t := 6) (u := 7) (r := .bool false) rfl rfl rfl rfl ((N3.out.below hdw).four _ _ _ _) ?_
          refine ⟨⟨_, rfl, fun h => absurd h (by have := d0.out; omega), fun _ => rfl⟩, ?_⟩
          exact below_four (hbw.out.trans (hdw.mono hbw.out.size)) (by omega) _ _ _ _
        · have d1 : decide (n < 0) = false := decide_eq_false (by omega)
          go_wp2_with fail
          go_quiet (first | (go_at_call 24; refine (HC.out _).mono ?_; rintro e w1 ⟨rfl, rfl⟩; exact ⟨rfl, _, rfl⟩))
          go_wp2_with fail
          have hdw : Below wr.heap.size wr (wr.drewN nq) := (by repeat (first | exact Below.refl _ _ | with_reducible refine Below.drew ?_ | with_reducible refine below_drewN ?_ _ | with_reducible refine Below.setCell ?_ (by first | (simp; done) | (simp; omega) | omega) _ | with_reducible refine Below.alloc ?_ (by first | (simp; done) | (simp; omega) | omega) _))
          refine ret_cell2 (t := 6) (u := 7) (r := .bool false) rfl rfl rfl rfl ((N3.out.below hdw).four _ _ _ _) ?_
          refine ⟨⟨_, rfl, fun h => absurd h (by have := d0.out; omega), fun _ => rfl⟩, ?_⟩
          exact below_four (hbw.out.trans (hdw.mono hbw.out.size)) (by omega) _ _ _ _
    · have HX := n4.c4
      have N4 := Lib.hid n4
      obtain ⟨c0, c1, c2, c3⟩ := HX
      obtain ⟨⟨g0, g1, g2, g3⟩, f0, f1, f2, f3⟩ := r.out
      clear n4 r p q
      go_wp2_with fail
      refine ret_cell2 (t := 6) (u := 7) (r := .bool true) rfl rfl rfl rfl (N3.out.four _ _ _ _) ?_
      refine ⟨⟨_, rfl, fun _ => by simp, fun h => absurd ⟨hok.out.1, hok.out.2.1, hok.out.2.2.1, hok.out.2.2.2.1⟩ h⟩, below_four hbw.out (by omega) _ _ _ _⟩

set_option maxRecDepth 100000 in
set_option maxHeartbeats 1000000 in
theorem made_most (a0 a1 a2 a3 b0 b1 b2 b3 : Nat) (w : World) (ha : a0 < 65536 ∧ a1 < 65536 ∧ a2 < 65536 ∧ a3 < 65536) (hb : b0 < 65536 ∧ b1 < 65536 ∧ b2 < 65536 ∧ b3 < 65536) :
    Calls Try.prog 22 #[.agg #[.int .u16 a0, .int .u16 a1, .int .u16 a2, .int .u16 a3], .agg #[.int .u16 b0, .int .u16 b1, .int .u16 b2, .int .u16 b3], .func (.func 25) #[] #[]] w
      fun e w' => (∃ v, e = .returned v ∧ ((a0 ≤ 65535 ∧ a1 ≤ 65535 ∧ a2 ≤ 65535 ∧ a3 ≤ 65535) → v = .tuple #[.agg #[.int .u16 (((max a0 b0) : Nat) : Int), .int .u16 (((max a1 b1) : Nat) : Int), .int .u16 (((max a2 b2) : Nat) : Int), .int .u16 (((max a3 b3) : Nat) : Int)], .bool true]) ∧ (¬(a0 ≤ 65535 ∧ a1 ≤ 65535 ∧ a2 ≤ 65535 ∧ a3 ≤ 65535) → v = .tuple #[.agg #[.int .u16 0, .int .u16 0, .int .u16 0, .int .u16 0], .bool false])) ∧ Below w.heap.size w w' := by
  have HA := Lib.hid ha
  have HB := Lib.hid hb
  clear ha hb
  go_enter Try.func22, Try.ntmps22
  go_wp2_with fail
  go_loopw [11] (fun i wr => ((i = .int .i64 0 ∧ BoxV wr (w.heap.size + 1 + 1 + 1) [.int .u16 0, .int .u16 0, .int .u16 0, .int .u16 0] ∧ Hid (True)) ∨ (i = .int .i64 1 ∧ BoxV wr (w.heap.size + 1 + 1 + 1) [.int .u16 (((max a0 b0) : Nat) : Int), .int .u16 0, .int .u16 0, .int .u16 0] ∧ Hid (a0 ≤ 65535 ∧ True)) ∨ (i = .int .i64 2 ∧ BoxV wr (w.heap.size + 1 + 1 + 1) [.int .u16 (((max a0 b0) : Nat) : Int), .int .u16 (((max a1 b1) : Nat) : Int), .int .u16 0, .int .u16 0] ∧ Hid (a0 ≤ 65535 ∧ a1 ≤ 65535 ∧ True)) ∨ (i = .int .i64 3 ∧ BoxV wr (w.heap.size + 1 + 1 + 1) [.int .u16 (((max a0 b0) : Nat) : Int), .int .u16 (((max a1 b1) : Nat) : Int), .int .u16 (((max a2 b2) : Nat) : Int), .int .u16 0] ∧ Hid (a0 ≤ 65535 ∧ a1 ≤ 65535 ∧ a2 ≤ 65535 ∧ True)) ∨ (i = .int .i64 4 ∧ BoxV wr (w.heap.size + 1 + 1 + 1) [.int .u16 (((max a0 b0) : Nat) : Int), .int .u16 (((max a1 b1) : Nat) : Int), .int .u16 (((max a2 b2) : Nat) : Int), .int .u16 (((max a3 b3) : Nat) : Int)] ∧ Hid (a0 ≤ 65535 ∧ a1 ≤ 65535 ∧ a2 ≤ 65535 ∧ a3 ≤ 65535 ∧ True))) ∧ BoxV wr w.heap.size [.int .u16 a0, .int .u16 a1, .int .u16 a2, .int .u16 a3] ∧ BoxV wr (w.heap.size + 1) [.int .u16 b0, .int .u16 b1, .int .u16 b2, .int .u16 b3] ∧ BoxV wr (w.heap.size + 1 + 1) [.int .u16 0, .int .u16 0, .int .u16 0, .int .u16 0] ∧ Hid (Below w.heap.size w wr)) (fun i _ => 4 - (intOf i).toNat)
  case atStart =>
    refine ⟨.inl ⟨rfl, ?_, trivial⟩, ?_, ?_, ?_, Lib.hid (by repeat (first | exact Below.refl _ _ | with_reducible refine Below.drew ?_ | with_reducible refine below_drewN ?_ _ | with_reducible refine Below.setCell ?_ (by first | (simp; done) | (simp; omega) | omega) _ | with_reducible refine Below.alloc ?_ (by first | (simp; done) | (simp; omega) | omega) _))⟩
    all_goals
      intro i hi
      have h4 : i = 0 ∨ i = 1 ∨ i = 2 ∨ i = 3 := by simp at hi; omega
      rcases h4 with rfl | rfl | rfl | rfl <;> constructor <;> go_simp
  case round =>
    obtain ⟨hr, n1, n2, n3, hbw⟩ := hrel
    have N1 := Lib.hid n1
    have N2 := Lib.hid n2
    have N3 := Lib.hid n3
    have p := n1.c4
    have q := n2.c4
    have r := Lib.hid (And.intro n3.c4 n3.f4)
    clear n1 n2 n3
    have x0 := IntWalk.i64_in (a0 : Int) (by have := HA.out; omega)
    have x1 := IntWalk.i64_in (a1 : Int) (by have := HA.out; omega)
    have x2 := IntWalk.i64_in (a2 : Int) (by have := HA.out; omega)
    have x3 := IntWalk.i64_in (a3 : Int) (by have := HA.out; omega)
    have y0 := IntWalk.i64_in (b0 : Int) (by have := HB.out; omega)
    have y1 := IntWalk.i64_in (b1 : Int) (by have := HB.out; omega)
    have y2 := IntWalk.i64_in (b2 : Int) (by have := HB.out; omega)
    have y3 := IntWalk.i64_in (b3 : Int) (by have := HB.out; omega)
    rcases hr with ⟨rfl, n4, hok⟩ | ⟨rfl, n4, hok⟩ | ⟨rfl, n4, hok⟩ | ⟨rfl, n4, hok⟩ | ⟨rfl, n4, hok⟩
    · obtain ⟨n, hn⟩ : ∃ n : Int, ((max a0 b0 : Nat) : Int) = n := ⟨_, rfl⟩
      have HC : Hid (∀ W, Calls Try.prog 25 #[.int .i64 a0, .int .i64 b0] W fun e w' => e = .returned (.int .i64 n) ∧ W = w') := fun _ => by rw [← hn]; exact most_any a0 b0 _
      have HN := Lib.hid hn
      clear hn
      have HP := Lib.hid p
      have HQ := Lib.hid q
      have p := p.1
      have q := q.1
      have HX := Lib.hid (And.intro n4.c4 n4.f4)
      have N4 := Lib.hid n4
      clear n4
      by_cases h : a0 ≤ 65535
      · have c : wr.cell? ⟨(w.heap.size + 1 + 1 + 1), 0, none⟩ = some (.int .u16 0) := HX.out.1.1
        have f : wr.frozen? ⟨(w.heap.size + 1 + 1 + 1), 0, none⟩ = false := HX.out.2.1
        have hw := IntWalk.u16_in n (by have := HN.out; have := HA.out; have := HB.out; omega)
        have d1 : decide (n < 0) = false := decide_eq_false (by have := HN.out; have := HA.out; have := HB.out; omega)
        have d2 : decide (65535 < n) = false := decide_eq_false (by have := HN.out; have := HA.out; have := HB.out; omega)
        have en : n = (((max a0 b0) : Nat) : Int) := by have := HN.out; have := HA.out; have := HB.out; omega
        have HE := Lib.hid en
        have HO : Hid (a0 ≤ 65535) := h
        clear en h
        go_wp2_with fail
        go_quiet (first | (go_at_call 25; refine (HC.out _).mono ?_; rintro e w1 ⟨rfl, rfl⟩; exact ⟨rfl, _, rfl⟩))
        go_wp2_with fail
        have hd : Below wr.heap.size wr (wr.drewN nq) := (by repeat (first | exact Below.refl _ _ | with_reducible refine Below.drew ?_ | with_reducible refine below_drewN ?_ _ | with_reducible refine Below.setCell ?_ (by first | (simp; done) | (simp; omega) | omega) _ | with_reducible refine Below.alloc ?_ (by first | (simp; done) | (simp; omega) | omega) _))
        have e4 := (((N4.out.below hd).set (k := 0) (by simp) (.int .u16 n)))
        refine ⟨⟨.inr <| .inl ⟨rfl, ?_, ?_⟩, (N1.out.below hd).other (by simp; omega) _, (N2.out.below hd).other (by simp; omega) _, (N3.out.below hd).other (by simp) _, Lib.hid ?_⟩, by simp [intOf]⟩
        · rw [← HE.out]; exact e4
        · exact ⟨HO.out, trivial⟩
        · exact (hbw.out.trans (hd.mono hbw.out.size)).setCell (p := ⟨_, 0, none⟩) (by simp; omega) _
      · have hz := r.out
        have d0 : Hid (¬ (a0 ≤ 65535)) := h
        clear h
        obtain ⟨⟨c0, c1, c2, c3⟩, f0, f1, f2, f3⟩ := hz
        have hd : (n < 0 ∨ 65535 < n) := by have := HN.out; have := HA.out; have := HB.out; have := d0.out; omega
        have HD := Lib.hid hd
        rcases hd with hd | hd
        · go_wp2_with fail
          go_quiet (first | (go_at_call 25; refine (HC.out _).mono ?_; rintro e w1 ⟨rfl, rfl⟩; exact ⟨rfl, _, rfl⟩))
          go_wp2_with fail
          have hdw : Below wr.heap.size wr (wr.drewN nq) := (by repeat (first | exact Below.refl _ _ | with_reducible refine Below.drew ?_ | with_reducible refine below_drewN ?_ _ | with_reducible refine Below.setCell ?_ (by first | (simp; done) | (simp; omega) | omega) _ | with_reducible refine Below.alloc ?_ (by first | (simp; done) | (simp; omega) | omega) _))
          refine ret_cell2 (t := 6) (u := 7) (r := .bool false) rfl rfl rfl rfl ((N3.out.below hdw).four _ _ _ _) ?_
          refine ⟨⟨_, rfl, fun h => absurd h (by have := d0.out; omega), fun _ => rfl⟩, ?_⟩
          exact below_four (hbw.out.trans (hdw.mono hbw.out.size)) (by omega) _ _ _ _
        · have d1 : decide (n < 0) = false := decide_eq_false (by omega)
          go_wp2_with fail
          go_quiet (first | (go_at_call 25; refine (HC.out _).mono ?_; rintro e w1 ⟨rfl, rfl⟩; exact ⟨rfl, _, rfl⟩))
          go_wp2_with fail
          have hdw : Below wr.heap.size wr (wr.drewN nq) := (by repeat (first | exact Below.refl _ _ | with_reducible refine Below.drew ?_ | with_reducible refine below_drewN ?_ _ | with_reducible refine Below.setCell ?_ (by first | (simp; done) | (simp; omega) | omega) _ | with_reducible refine Below.alloc ?_ (by first | (simp; done) | (simp; omega) | omega) _))
          refine ret_cell2 (t := 6) (u := 7) (r := .bool false) rfl rfl rfl rfl ((N3.out.below hdw).four _ _ _ _) ?_
          refine ⟨⟨_, rfl, fun h => absurd h (by have := d0.out; omega), fun _ => rfl⟩, ?_⟩
          exact below_four (hbw.out.trans (hdw.mono hbw.out.size)) (by omega) _ _ _ _
    · obtain ⟨n, hn⟩ : ∃ n : Int, ((max a1 b1 : Nat) : Int) = n := ⟨_, rfl⟩
      have HC : Hid (∀ W, Calls Try.prog 25 #[.int .i64 a1, .int .i64 b1] W fun e w' => e = .returned (.int .i64 n) ∧ W = w') := fun _ => by rw [← hn]; exact most_any a1 b1 _
      have HN := Lib.hid hn
      clear hn
      have HP := Lib.hid p
      have HQ := Lib.hid q
      have p := p.2.1
      have q := q.2.1
      have HX := Lib.hid (And.intro n4.c4 n4.f4)
      have N4 := Lib.hid n4
      clear n4
      by_cases h : a1 ≤ 65535
      · have c : wr.cell? ⟨(w.heap.size + 1 + 1 + 1), 1, none⟩ = some (.int .u16 0) := HX.out.1.2.1
        have f : wr.frozen? ⟨(w.heap.size + 1 + 1 + 1), 1, none⟩ = false := HX.out.2.2.1
        have hw := IntWalk.u16_in n (by have := HN.out; have := HA.out; have := HB.out; omega)
        have d1 : decide (n < 0) = false := decide_eq_false (by have := HN.out; have := HA.out; have := HB.out; omega)
        have d2 : decide (65535 < n) = false := decide_eq_false (by have := HN.out; have := HA.out; have := HB.out; omega)
        have en : n = (((max a1 b1) : Nat) : Int) := by have := HN.out; have := HA.out; have := HB.out; omega
        have HE := Lib.hid en
        have HO : Hid (a1 ≤ 65535) := h
        clear en h
        go_wp2_with fail
        go_quiet (first | (go_at_call 25; refine (HC.out _).mono ?_; rintro e w1 ⟨rfl, rfl⟩; exact ⟨rfl, _, rfl⟩))
        go_wp2_with fail
        have hd : Below wr.heap.size wr (wr.drewN nq) := (by repeat (first | exact Below.refl _ _ | with_reducible refine Below.drew ?_ | with_reducible refine below_drewN ?_ _ | with_reducible refine Below.setCell ?_ (by first | (simp; done) | (simp; omega) | omega) _ | with_reducible refine Below.alloc ?_ (by first | (simp; done) | (simp; omega) | omega) _))
        have e4 := (((N4.out.below hd).set (k := 1) (by simp) (.int .u16 n)))
        refine ⟨⟨.inr <| .inr <| .inl ⟨rfl, ?_, ?_⟩, (N1.out.below hd).other (by simp; omega) _, (N2.out.below hd).other (by simp; omega) _, (N3.out.below hd).other (by simp) _, Lib.hid ?_⟩, by simp [intOf]⟩
        · rw [← HE.out]; exact e4
        · exact ⟨hok.out.1, HO.out, trivial⟩
        · exact (hbw.out.trans (hd.mono hbw.out.size)).setCell (p := ⟨_, 1, none⟩) (by simp; omega) _
      · have hz := r.out
        have d0 : Hid (¬ (a1 ≤ 65535)) := h
        clear h
        obtain ⟨⟨c0, c1, c2, c3⟩, f0, f1, f2, f3⟩ := hz
        have hd : (n < 0 ∨ 65535 < n) := by have := HN.out; have := HA.out; have := HB.out; have := d0.out; omega
        have HD := Lib.hid hd
        rcases hd with hd | hd
        · go_wp2_with fail
          go_quiet (first | (go_at_call 25; refine (HC.out _).mono ?_; rintro e w1 ⟨rfl, rfl⟩; exact ⟨rfl, _, rfl⟩))
          go_wp2_with fail
          have hdw : Below wr.heap.size wr (wr.drewN nq) := (by repeat (first | exact Below.refl _ _ | with_reducible refine Below.drew ?_ | with_reducible refine below_drewN ?_ _ | with_reducible refine Below.setCell ?_ (by first | (simp; done) | (simp; omega) | omega) _ | with_reducible refine Below.alloc ?_ (by first | (simp; done) | (simp; omega) | omega) _))
          refine ret_cell2 (t := 6) (u := 7) (r := .bool false) rfl rfl rfl rfl ((N3.out.below hdw).four _ _ _ _) ?_
          refine ⟨⟨_, rfl, fun h => absurd h (by have := d0.out; omega), fun _ => rfl⟩, ?_⟩
          exact below_four (hbw.out.trans (hdw.mono hbw.out.size)) (by omega) _ _ _ _
        · have d1 : decide (n < 0) = false := decide_eq_false (by omega)
          go_wp2_with fail
          go_quiet (first | (go_at_call 25; refine (HC.out _).mono ?_; rintro e w1 ⟨rfl, rfl⟩; exact ⟨rfl, _, rfl⟩))
          go_wp2_with fail
          have hdw : Below wr.heap.size wr (wr.drewN nq) := (by repeat (first | exact Below.refl _ _ | with_reducible refine Below.drew ?_ | with_reducible refine below_drewN ?_ _ | with_reducible refine Below.setCell ?_ (by first | (simp; done) | (simp; omega) | omega) _ | with_reducible refine Below.alloc ?_ (by first | (simp; done) | (simp; omega) | omega) _))
          refine ret_cell2 (t := 6) (u := 7) (r := .bool false) rfl rfl rfl rfl ((N3.out.below hdw).four _ _ _ _) ?_
          refine ⟨⟨_, rfl, fun h => absurd h (by have := d0.out; omega), fun _ => rfl⟩, ?_⟩
          exact below_four (hbw.out.trans (hdw.mono hbw.out.size)) (by omega) _ _ _ _
    · obtain ⟨n, hn⟩ : ∃ n : Int, ((max a2 b2 : Nat) : Int) = n := ⟨_, rfl⟩
      have HC : Hid (∀ W, Calls Try.prog 25 #[.int .i64 a2, .int .i64 b2] W fun e w' => e = .returned (.int .i64 n) ∧ W = w') := fun _ => by rw [← hn]; exact most_any a2 b2 _
      have HN := Lib.hid hn
      clear hn
      have HP := Lib.hid p
      have HQ := Lib.hid q
      have p := p.2.2.1
      have q := q.2.2.1
      have HX := Lib.hid (And.intro n4.c4 n4.f4)
      have N4 := Lib.hid n4
      clear n4
      by_cases h : a2 ≤ 65535
      · have c : wr.cell? ⟨(w.heap.size + 1 + 1 + 1), 2, none⟩ = some (.int .u16 0) := HX.out.1.2.2.1
        have f : wr.frozen? ⟨(w.heap.size + 1 + 1 + 1), 2, none⟩ = false := HX.out.2.2.2.1
        have hw := IntWalk.u16_in n (by have := HN.out; have := HA.out; have := HB.out; omega)
        have d1 : decide (n < 0) = false := decide_eq_false (by have := HN.out; have := HA.out; have := HB.out; omega)
        have d2 : decide (65535 < n) = false := decide_eq_false (by have := HN.out; have := HA.out; have := HB.out; omega)
        have en : n = (((max a2 b2) : Nat) : Int) := by have := HN.out; have := HA.out; have := HB.out; omega
        have HE := Lib.hid en
        have HO : Hid (a2 ≤ 65535) := h
        clear en h
        go_wp2_with fail
        go_quiet (first | (go_at_call 25; refine (HC.out _).mono ?_; rintro e w1 ⟨rfl, rfl⟩; exact ⟨rfl, _, rfl⟩))
        go_wp2_with fail
        have hd : Below wr.heap.size wr (wr.drewN nq) := (by repeat (first | exact Below.refl _ _ | with_reducible refine Below.drew ?_ | with_reducible refine below_drewN ?_ _ | with_reducible refine Below.setCell ?_ (by first | (simp; done) | (simp; omega) | omega) _ | with_reducible refine Below.alloc ?_ (by first | (simp; done) | (simp; omega) | omega) _))
        have e4 := (((N4.out.below hd).set (k := 2) (by simp) (.int .u16 n)))
        refine ⟨⟨.inr <| .inr <| .inr <| .inl ⟨rfl, ?_, ?_⟩, (N1.out.below hd).other (by simp; omega) _, (N2.out.below hd).other (by simp; omega) _, (N3.out.below hd).other (by simp) _, Lib.hid ?_⟩, by simp [intOf]⟩
        · rw [← HE.out]; exact e4
        · exact ⟨hok.out.1, hok.out.2.1, HO.out, trivial⟩
        · exact (hbw.out.trans (hd.mono hbw.out.size)).setCell (p := ⟨_, 2, none⟩) (by simp; omega) _
      · have hz := r.out
        have d0 : Hid (¬ (a2 ≤ 65535)) := h
        clear h
        obtain ⟨⟨c0, c1, c2, c3⟩, f0, f1, f2, f3⟩ := hz
        have hd : (n < 0 ∨ 65535 < n) := by have := HN.out; have := HA.out; have := HB.out; have := d0.out; omega
        have HD := Lib.hid hd
        rcases hd with hd | hd
        · go_wp2_with fail
          go_quiet (first | (go_at_call 25; refine (HC.out _).mono ?_; rintro e w1 ⟨rfl, rfl⟩; exact ⟨rfl, _, rfl⟩))
          go_wp2_with fail
          have hdw : Below wr.heap.size wr (wr.drewN nq) := (by repeat (first | exact Below.refl _ _ | with_reducible refine Below.drew ?_ | with_reducible refine below_drewN ?_ _ | with_reducible refine Below.setCell ?_ (by first | (simp; done) | (simp; omega) | omega) _ | with_reducible refine Below.alloc ?_ (by first | (simp; done) | (simp; omega) | omega) _))
          refine ret_cell2 (t := 6) (u := 7) (r := .bool false) rfl rfl rfl rfl ((N3.out.below hdw).four _ _ _ _) ?_
          refine ⟨⟨_, rfl, fun h => absurd h (by have := d0.out; omega), fun _ => rfl⟩, ?_⟩
          exact below_four (hbw.out.trans (hdw.mono hbw.out.size)) (by omega) _ _ _ _
        · have d1 : decide (n < 0) = false := decide_eq_false (by omega)
          go_wp2_with fail
          go_quiet (first | (go_at_call 25; refine (HC.out _).mono ?_; rintro e w1 ⟨rfl, rfl⟩; exact ⟨rfl, _, rfl⟩))
          go_wp2_with fail
          have hdw : Below wr.heap.size wr (wr.drewN nq) := (by repeat (first | exact Below.refl _ _ | with_reducible refine Below.drew ?_ | with_reducible refine below_drewN ?_ _ | with_reducible refine Below.setCell ?_ (by first | (simp; done) | (simp; omega) | omega) _ | with_reducible refine Below.alloc ?_ (by first | (simp; done) | (simp; omega) | omega) _))
          refine ret_cell2 (t := 6) (u := 7) (r := .bool false) rfl rfl rfl rfl ((N3.out.below hdw).four _ _ _ _) ?_
          refine ⟨⟨_, rfl, fun h => absurd h (by have := d0.out; omega), fun _ => rfl⟩, ?_⟩
          exact below_four (hbw.out.trans (hdw.mono hbw.out.size)) (by omega) _ _ _ _
    · obtain ⟨n, hn⟩ : ∃ n : Int, ((max a3 b3 : Nat) : Int) = n := ⟨_, rfl⟩
      have HC : Hid (∀ W, Calls Try.prog 25 #[.int .i64 a3, .int .i64 b3] W fun e w' => e = .returned (.int .i64 n) ∧ W = w') := fun _ => by rw [← hn]; exact most_any a3 b3 _
      have HN := Lib.hid hn
      clear hn
      have HP := Lib.hid p
      have HQ := Lib.hid q
      have p := p.2.2.2
      have q := q.2.2.2
      have HX := Lib.hid (And.intro n4.c4 n4.f4)
      have N4 := Lib.hid n4
      clear n4
      by_cases h : a3 ≤ 65535
      · have c : wr.cell? ⟨(w.heap.size + 1 + 1 + 1), 3, none⟩ = some (.int .u16 0) := HX.out.1.2.2.2
        have f : wr.frozen? ⟨(w.heap.size + 1 + 1 + 1), 3, none⟩ = false := HX.out.2.2.2.2
        have hw := IntWalk.u16_in n (by have := HN.out; have := HA.out; have := HB.out; omega)
        have d1 : decide (n < 0) = false := decide_eq_false (by have := HN.out; have := HA.out; have := HB.out; omega)
        have d2 : decide (65535 < n) = false := decide_eq_false (by have := HN.out; have := HA.out; have := HB.out; omega)
        have en : n = (((max a3 b3) : Nat) : Int) := by have := HN.out; have := HA.out; have := HB.out; omega
        have HE := Lib.hid en
        have HO : Hid (a3 ≤ 65535) := h
        clear en h
        go_wp2_with fail
        go_quiet (first | (go_at_call 25; refine (HC.out _).mono ?_; rintro e w1 ⟨rfl, rfl⟩; exact ⟨rfl, _, rfl⟩))
        go_wp2_with fail
        have hd : Below wr.heap.size wr (wr.drewN nq) := (by repeat (first | exact Below.refl _ _ | with_reducible refine Below.drew ?_ | with_reducible refine below_drewN ?_ _ | with_reducible refine Below.setCell ?_ (by first | (simp; done) | (simp; omega) | omega) _ | with_reducible refine Below.alloc ?_ (by first | (simp; done) | (simp; omega) | omega) _))
        have e4 := (((N4.out.below hd).set (k := 3) (by simp) (.int .u16 n)))
        refine ⟨⟨.inr <| .inr <| .inr <| .inr <| ⟨rfl, ?_, ?_⟩, (N1.out.below hd).other (by simp; omega) _, (N2.out.below hd).other (by simp; omega) _, (N3.out.below hd).other (by simp) _, Lib.hid ?_⟩, by simp [intOf]⟩
        · rw [← HE.out]; exact e4
        · exact ⟨hok.out.1, hok.out.2.1, hok.out.2.2.1, HO.out, trivial⟩
        · exact (hbw.out.trans (hd.mono hbw.out.size)).setCell (p := ⟨_, 3, none⟩) (by simp; omega) _
      · have hz := r.out
        have d0 : Hid (¬ (a3 ≤ 65535)) := h
        clear h
        obtain ⟨⟨c0, c1, c2, c3⟩, f0, f1, f2, f3⟩ := hz
        have hd : (n < 0 ∨ 65535 < n) := by have := HN.out; have := HA.out; have := HB.out; have := d0.out; omega
        have HD := Lib.hid hd
        rcases hd with hd | hd
        · go_wp2_with fail
          go_quiet (first | (go_at_call 25; refine (HC.out _).mono ?_; rintro e w1 ⟨rfl, rfl⟩; exact ⟨rfl, _, rfl⟩))
          go_wp2_with fail
          have hdw : Below wr.heap.size wr (wr.drewN nq) := (by repeat (first | exact Below.refl _ _ | with_reducible refine Below.drew ?_ | with_reducible refine below_drewN ?_ _ | with_reducible refine Below.setCell ?_ (by first | (simp; done) | (simp; omega) | omega) _ | with_reducible refine Below.alloc ?_ (by first | (simp; done) | (simp; omega) | omega) _))
          refine ret_cell2 (t := 6) (u := 7) (r := .bool false) rfl rfl rfl rfl ((N3.out.below hdw).four _ _ _ _) ?_
          refine ⟨⟨_, rfl, fun h => absurd h (by have := d0.out; omega), fun _ => rfl⟩, ?_⟩
          exact below_four (hbw.out.trans (hdw.mono hbw.out.size)) (by omega) _ _ _ _
        · have d1 : decide (n < 0) = false := decide_eq_false (by omega)
          go_wp2_with fail
          go_quiet (first | (go_at_call 25; refine (HC.out _).mono ?_; rintro e w1 ⟨rfl, rfl⟩; exact ⟨rfl, _, rfl⟩))
          go_wp2_with fail
          have hdw : Below wr.heap.size wr (wr.drewN nq) := (by repeat (first | exact Below.refl _ _ | with_reducible refine Below.drew ?_ | with_reducible refine below_drewN ?_ _ | with_reducible refine Below.setCell ?_ (by first | (simp; done) | (simp; omega) | omega) _ | with_reducible refine Below.alloc ?_ (by first | (simp; done) | (simp; omega) | omega) _))
          refine ret_cell2 (t := 6) (u := 7) (r := .bool false) rfl rfl rfl rfl ((N3.out.below hdw).four _ _ _ _) ?_
          refine ⟨⟨_, rfl, fun h => absurd h (by have := d0.out; omega), fun _ => rfl⟩, ?_⟩
          exact below_four (hbw.out.trans (hdw.mono hbw.out.size)) (by omega) _ _ _ _
    · have HX := n4.c4
      have N4 := Lib.hid n4
      obtain ⟨c0, c1, c2, c3⟩ := HX
      obtain ⟨⟨g0, g1, g2, g3⟩, f0, f1, f2, f3⟩ := r.out
      clear n4 r p q
      go_wp2_with fail
      refine ret_cell2 (t := 6) (u := 7) (r := .bool true) rfl rfl rfl rfl (N3.out.four _ _ _ _) ?_
      refine ⟨⟨_, rfl, fun _ => by simp, fun h => absurd ⟨hok.out.1, hok.out.2.1, hok.out.2.2.1, hok.out.2.2.2.1⟩ h⟩, below_four hbw.out (by omega) _ _ _ _⟩

end Go.Proofs.Ytikbjjechhdclaa
