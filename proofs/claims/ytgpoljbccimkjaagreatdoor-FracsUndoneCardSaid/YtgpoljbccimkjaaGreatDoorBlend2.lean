/- Walks: the loop of blend. -/
import Derived.Test.YtgpoljbccimkjaaGreatDoorCmp
import Derived.Test.YtgpoljbccimkjaaGreatDoorNearMath
namespace Go.Proofs.YtgpoljbccimkjaaGreatDoor
set_option linter.unusedSimpArgs false
set_option linter.unusedVariables false
open Go.RowKit Go.Shelf

theorem tdiv_case (T : Int) : (0 ≤ T - T.tdiv 1000000000 * 1000000000 ∧ T.tdiv 1000000000 = T / 1000000000 ∧ T - T.tdiv 1000000000 * 1000000000 = T % 1000000000) ∨
    (T - T.tdiv 1000000000 * 1000000000 < 0 ∧ T.tdiv 1000000000 - 1 = T / 1000000000 ∧ T - T.tdiv 1000000000 * 1000000000 + 1000000000 = T % 1000000000) := by
  have hq : T.tdiv 1000000000 = if 0 ≤ T then T / 1000000000 else -(-T / 1000000000) := by
    split
    · rename_i h; exact Int.tdiv_eq_ediv_of_nonneg h
    · have h2 := Int.neg_tdiv (-T) 1000000000
      rw [Int.neg_neg] at h2
      rw [h2, Int.tdiv_eq_ediv_of_nonneg (by omega)]
  rw [hq]
  split <;> omega
theorem tdiv_bound {T : Int} (h : -2000000000000000000 ≤ T) (h2 : T ≤ 2000000000000000000) : -2000000000 ≤ T.tdiv 1000000000 ∧ T.tdiv 1000000000 ≤ 2000000001 := by
  rcases tdiv_case T with ⟨t1, t2, t3⟩ | ⟨t1, t2, t3⟩
  · rw [t2]; clear t1 t2 t3; omega
  · generalize T.tdiv 1000000000 = q at *
    omega

theorem setCell_twice (w : World) (b o : Nat) (v v' : Value) : (w.setCell ⟨b, o, none⟩ v).setCell ⟨b, o, none⟩ v' = w.setCell ⟨b, o, none⟩ v' := by
  unfold World.setCell
  congr 1
  apply Array.ext_getElem?
  intro i
  simp only [Array.getElem?_modify]
  by_cases h : b = i
  · subst h
    cases w.heap[b]? with
    | none => simp
    | some ob => cases ob <;> simp
  · simp [h]

set_option maxRecDepth 100000 in
set_option maxHeartbeats 2000000 in
theorem blend1_any (x y : Nat) (f g c : Int) (F G C : Nat) (w : World) (hx : x < 1000000000) (hy : y < 1000000000) (hf : Small f) (hg : Small g) (hc1 : -2000000000 ≤ c) (hc2 : c ≤ 2000000000)
    (cF : w.cell? ⟨F, 0, none⟩ = some (.int .i64 f)) (cG : w.cell? ⟨G, 0, none⟩ = some (.int .i64 g)) (cC : w.cell? ⟨C, 0, none⟩ = some (.int .i64 c)) (fC : w.frozen? ⟨C, 0, none⟩ = false) (hFC : F ≠ C) (hGC : G ≠ C) :
    Calls Tryz.prog 207 #[.int .u32 x, .int .u32 y, .pointer (some ⟨F, 0, none⟩), .pointer (some ⟨G, 0, none⟩), .pointer (some ⟨C, 0, none⟩)] w fun e w' =>
      e = .returned (.int .u32 (dg f g x y c)) ∧ w' = w.setCell ⟨C, 0, none⟩ (.int .i64 (cr f g x y c)) := by
  have h1 := mul_bound hf.1 hf.2 hx
  have h2 := mul_bound hg.1 hg.2 hy
  have hT := tdiv_case (f * x + g * y + c)
  have hq := tdiv_bound (T := f * (x : Int) + g * (y : Int) + c) (by omega) (by omega)
  have hxI : (x : Int) ≤ 999999999 := by omega
  have hyI : (y : Int) ≤ 999999999 := by omega
  have hm := dg_lt f g x y c
  have HD : Hid ((dg f g x y c : Int) = (f * x + g * y + c) % 1000000000) := by
    show _ = _
    unfold dg sumAt
    rw [Int.toNat_of_nonneg (Int.emod_nonneg _ (by decide))]
  have HC : Hid (cr f g x y c = (f * x + g * y + c) / 1000000000) := rfl
  clear hf hg hx hy hm
  obtain ⟨h3, h4⟩ := h1
  obtain ⟨h5, h6⟩ := h2
  obtain ⟨h7, h8⟩ := hq
  rcases hT with ⟨t1, t2, t3⟩ | ⟨t1, t2, t3⟩
  · have T2 := Lib.hid t2
    have T3 := Lib.hid t3
    clear t2 t3
    go_enter Tryz.func207, Tryz.ntmps207
    go_wp2
    go_ret
    exact ⟨ret_int (by rw [HD.out, T3.out, Int.emod_eq_of_lt (Int.emod_nonneg _ (by decide)) (Int.lt_trans (Int.emod_lt_of_pos _ (by decide)) (by decide))]), by rw [HC.out, T2.out]⟩
  · have T2 := Lib.hid t2
    have T3 := Lib.hid t3
    clear t2 t3
    go_enter Tryz.func207, Tryz.ntmps207
    go_wp2
    go_ret
    exact ⟨ret_int (by rw [HD.out, T3.out, Int.emod_eq_of_lt (Int.emod_nonneg _ (by decide)) (Int.lt_trans (Int.emod_lt_of_pos _ (by decide)) (by decide))]), by rw [HC.out, ← T2.out, setCell_twice]⟩

set_option maxHeartbeats 400000 in
theorem at_nat (a : Option Addr) (n c k x : Nat) (w : World) (hn : n ≤ 9223372036854775807) (hk : k ≤ 9223372036854775807) (h1 : k < n → ∃ b o, a = some ⟨b, o, none⟩ ∧ w.cell? ⟨b, o + k, none⟩ = some (.int .u32 x)) (h2 : n ≤ k → x = 0) :
    Calls Tryz.prog 205 #[.slice a n c, .int .i64 k] w fun e w' => e = .returned (.int .u32 x) ∧ w = w' := by
  by_cases hlt : k < n
  · obtain ⟨b, o, rfl, hc⟩ := h1 hlt
    clear h1 h2
    go_enter Tryz.func205, Tryz.ntmps205
    go_wp2
    go_ret
    exact ⟨rfl, rfl⟩
  · have hx := h2 (by omega)
    subst hx
    have hkI : (n : Int) ≤ (k : Int) := by omega
    clear h1 h2
    go_enter Tryz.func205, Tryz.ntmps205
    go_wp2
    go_ret
    exact ⟨rfl, rfl⟩

/-- Block b holds these cells, and they may be written. -/
def CellsAt (W : World) (b : Nat) (cur : Array Value) (T : TypeId) : Prop := W.heap[b]? = some (.cells cur T (0, 0))
theorem CellsAt.cell {W : World} {b : Nat} {cur : Array Value} {T : TypeId} (h : CellsAt W b cur T) (o : Nat) : W.cell? ⟨b, o, none⟩ = cur[o]? := cell_of_row W b o cur T (0, 0) h
theorem CellsAt.free {W : World} {b : Nat} {cur : Array Value} {T : TypeId} (h : CellsAt W b cur T) (o : Nat) : W.frozen? ⟨b, o, none⟩ = false := by
  unfold CellsAt at h
  simp [World.frozen?, h]
theorem CellsAt.set {W : World} {b : Nat} {cur : Array Value} {T : TypeId} (h : CellsAt W b cur T) (o : Nat) (v : Value) : CellsAt (W.setCell ⟨b, o, none⟩ v) b (cur.setIfInBounds o v) T := by
  unfold CellsAt at h ⊢
  simp [World.setCell, Array.getElem?_modify, h]
theorem CellsAt.other {W : World} {b : Nat} {cur : Array Value} {T : TypeId} (h : CellsAt W b cur T) {p : Addr} (hp : p.block ≠ b) (v : Value) : CellsAt (W.setCell p v) b cur T :=
  (Below.heap_setCell W p v b (Ne.symm hp)).trans h
theorem CellsAt.new (w : World) (cur : Array Value) (T : TypeId) : CellsAt (w.alloc (.cells cur T)) w.heap.size cur T := heap_alloc_new w _
theorem CellsAt.alloc {W : World} {b : Nat} {cur : Array Value} {T : TypeId} (h : CellsAt W b cur T) (o : Obj) : CellsAt (W.alloc o) b cur T :=
  (Below.heap_alloc W o b (Array.getElem?_eq_some_iff.1 h).1).trans h

/-- But for two blocks all is as it was. -/
structure Only2 (A B : Nat) (W W' : World) : Prop where
  os : W'.os = W.os
  tape : W'.tape = W.tape
  output : W'.output = W.output
  size : W'.heap.size = W.heap.size
  block : ∀ k, k ≠ A → k ≠ B → W'.heap[k]? = W.heap[k]?
theorem Only2.refl (A B : Nat) (W : World) : Only2 A B W W := ⟨rfl, rfl, rfl, rfl, fun _ _ _ => rfl⟩
theorem Only2.trans {A B : Nat} {X Y Z : World} (h : Only2 A B X Y) (k : Only2 A B Y Z) : Only2 A B X Z :=
  ⟨k.os.trans h.os, k.tape.trans h.tape, k.output.trans h.output, k.size.trans h.size, fun i h1 h2 => (k.block i h1 h2).trans (h.block i h1 h2)⟩
theorem Only2.setA {A B : Nat} (W : World) (o : Nat) (v : Value) : Only2 A B W (W.setCell ⟨A, o, none⟩ v) :=
  ⟨rfl, rfl, rfl, by simp [World.setCell], fun k h _ => Below.heap_setCell W _ v k h⟩
theorem Only2.setB {A B : Nat} (W : World) (o : Nat) (v : Value) : Only2 A B W (W.setCell ⟨B, o, none⟩ v) :=
  ⟨rfl, rfl, rfl, by simp [World.setCell], fun k _ h => Below.heap_setCell W _ v k h⟩
theorem Only2.cell {A B : Nat} {W W' : World} (h : Only2 A B W W') {p : Addr} (h1 : p.block ≠ A) (h2 : p.block ≠ B) : W'.cell? p = W.cell? p := World.cell?_of_block (h.block _ h1 h2)

/-- A slice that reads as l, no part of which lies ahead of place o of block b. -/
def LimO (b o : Nat) (w : World) (v : Value) (l : List Nat) : Prop :=
  ∃ (a : Option Addr) (c : Nat), v = .slice a l.length c ∧ l.length ≤ c ∧ c ≤ maxLen ∧ (∀ x ∈ l, x < 1000000000) ∧
    ((a = none ∧ l = [] ∧ c = 0) ∨ ∃ b' o', a = some ⟨b', o', none⟩ ∧ (0 < l.length → b' = b → o ≤ o') ∧ ∀ i, i < l.length → w.cell? ⟨b', o' + i, none⟩ = some (.int .u32 (pt l i)))

/-- What the first k places hold. -/
def Filled (o n k : Nat) (la lb : List Nat) (f g : Int) (cur cur' : Array Value) : Prop :=
  cur'.size = cur.size ∧ ∀ j, cur'[j]? = if o ≤ j ∧ j < o + k then some (.int .u32 (digitL la lb f g (j - o) : Nat)) else cur[j]?

end Go.Proofs.YtgpoljbccimkjaaGreatDoor

namespace Go.Proofs.YtgpoljbccimkjaaGreatDoor
set_option linter.unusedSimpArgs false
set_option linter.unusedVariables false
open Go.RowKit Go.Shelf

theorem LimO.ready {b o : Nat} {w : World} {a : Option Addr} {c : Nat} {l : List Nat} (h : LimO b o w (.slice a l.length c) l) (k : Nat) : k < l.length → ∃ b' o', a = some ⟨b', o', none⟩ ∧ (b' = b → o ≤ o') ∧ w.cell? ⟨b', o' + k, none⟩ = some (.int .u32 (pt l k)) := by
  intro hk
  obtain ⟨a', c', he, _, _, _, h4⟩ := h
  injection he with h1 h2 h3
  subst h1
  rcases h4 with ⟨_, rfl, _⟩ | ⟨b', o', rfl, h5, h6⟩
  · simp at hk
  · exact ⟨b', o', rfl, h5 (by omega), h6 k hk⟩

theorem Filled.zero (o n : Nat) (la lb : List Nat) (f g : Int) (cur : Array Value) : Filled o n 0 la lb f g cur cur :=
  ⟨rfl, fun j => by rw [if_neg (by omega)]⟩
theorem Filled.succ {o n k : Nat} {la lb : List Nat} {f g : Int} {cur cur' : Array Value} (h : Filled o n k la lb f g cur cur') (hs : o + k < cur.size) :
    Filled o n (k + 1) la lb f g cur (cur'.setIfInBounds (o + k) (.int .u32 (digitL la lb f g k : Nat))) := by
  refine ⟨by simp [h.1], fun j => ?_⟩
  rw [Array.getElem?_setIfInBounds]
  by_cases hj : o + k = j
  · subst hj
    rw [if_pos rfl, if_pos (by rw [h.1]; exact hs), if_pos (by omega)]
    simp
  · rw [if_neg hj, h.2 j]
    by_cases h1 : o ≤ j ∧ j < o + k
    · rw [if_pos h1, if_pos (by omega)]
    · rw [if_neg h1, if_neg (by omega)]

/-- What stands k places on has not been written yet. -/
theorem LimO.later {Bk o n k C : Nat} {w W1 wr : World} {a : Option Addr} {c : Nat} {l la lb : List Nat} {f g : Int} {cur cur' : Array Value} (h : LimO Bk o w (.slice a l.length c) l) (hO : CellsAt w Bk cur 99) (hb : Below w.heap.size w W1) (hC : w.heap.size ≤ C)
    (h2 : Only2 Bk C W1 wr) (h3 : CellsAt wr Bk cur' 99) (h4 : Filled o n k la lb f g cur cur') :
    k < l.length → ∃ b' o', a = some ⟨b', o', none⟩ ∧ wr.cell? ⟨b', o' + k, none⟩ = some (.int .u32 (pt l k)) := by
  intro hk
  obtain ⟨b', o', e, h5, h6⟩ := h.ready k hk
  refine ⟨b', o', e, ?_⟩
  have hlt : b' < w.heap.size := World.block_lt_of_cell? w _ h6
  by_cases hbk : b' = Bk
  · subst hbk
    rw [h3.cell, h4.2, if_neg (by have := h5 rfl; omega), ← hO.cell]
    exact h6
  · rw [h2.cell (p := ⟨b', o' + k, none⟩) hbk (by show b' ≠ C; omega), hb.cell (p := ⟨b', o' + k, none⟩) hlt]
    exact h6

set_option maxRecDepth 100000 in
set_option maxHeartbeats 4000000 in
theorem blend_any (Bk o n cp : Nat) (va vb : Value) (la lb : List Nat) (f g : Int) (cur : Array Value) (w : World) (hn : n ≤ 9223372036854775807) (hO : CellsAt w Bk cur 99) (hs : o + n ≤ cur.size) (ha : LimO Bk o w va la) (hb : LimO Bk o w vb lb) (hf : Small f) (hg : Small g) :
    Calls Tryz.prog 155 #[.slice (some ⟨Bk, o, none⟩) n cp, va, vb, .int .i64 f, .int .i64 g] w fun e w' => e = .returned (.int .i64 (carryL la lb f g n)) ∧ ∃ cur', CellsAt w' Bk cur' 99 ∧ Filled o n n la lb f g cur cur' ∧ w.grownBy w' (some Bk) := by
  have hBk : Bk < w.heap.size := (Array.getElem?_eq_some_iff.1 hO).1
  have HA := Lib.hid ha
  have HB := Lib.hid hb
  have HO := Lib.hid hO
  have HF := Lib.hid hf
  have HG := Lib.hid hg
  have HBK := Lib.hid hBk
  have HS := Lib.hid hs
  obtain ⟨a, c, rfl, a1, a2, a3, -⟩ := ha
  obtain ⟨a', c', rfl, b1, b2, b3, -⟩ := hb
  have A3 := Lib.hid a3
  have B3 := Lib.hid b3
  unfold maxLen at a2 b2
  clear a3 b3 hO hf hg hBk hs
  go_enter Tryz.func155, Tryz.ntmps155
  go_wp2_with fail
  obtain ⟨W1, e1, m1, m2, m3, m4, m5, m6⟩ : ∃ W1, ((w.alloc (Obj.cells #[Value.int IntKind.i64 f] 2)).alloc (Obj.cells #[Value.int IntKind.i64 g] 2)).alloc (Obj.cells #[Value.int IntKind.i64 0] 2) = W1 ∧
      CellsAt W1 w.heap.size #[.int .i64 f] 2 ∧ CellsAt W1 (w.heap.size + 1) #[.int .i64 g] 2 ∧ CellsAt W1 (w.heap.size + 1 + 1) #[.int .i64 0] 2 ∧ CellsAt W1 Bk cur 99 ∧ Below w.heap.size w W1 ∧ W1.heap.size = w.heap.size + 3 := by
    refine ⟨_, rfl, ((CellsAt.new _ _ _).alloc _).alloc _, ?_, ?_, ((HO.out.alloc _).alloc _).alloc _, (by repeat (first | exact Below.refl _ _ | with_reducible refine Below.drew ?_ | with_reducible refine below_drewN ?_ _ | with_reducible refine Below.setCell ?_ (by first | (simp; done) | (simp; omega) | omega) _ | with_reducible refine Below.alloc ?_ (by first | (simp; done) | (simp; omega) | omega) _)), by simp⟩
    · have := ((CellsAt.new (w.alloc (Obj.cells #[Value.int IntKind.i64 f] 2)) #[.int .i64 g] 2).alloc (Obj.cells #[Value.int IntKind.i64 0] 2))
      rwa [World.size_alloc] at this
    · have := CellsAt.new ((w.alloc (Obj.cells #[Value.int IntKind.i64 f] 2)).alloc (Obj.cells #[Value.int IntKind.i64 g] 2)) #[.int .i64 0] 2
      rwa [World.size_alloc, World.size_alloc] at this
  rw [e1]
  have M1 := Lib.hid m1
  have M2 := Lib.hid m2
  have M5 := Lib.hid m5
  have M6 := Lib.hid m6
  have M4 := Lib.hid m4
  clear e1 m1 m2 m4 m5 m6
  go_loopw [17] (fun i wr => ∃ k : Nat, k ≤ n ∧ i = .int .i64 k ∧ Only2 Bk (w.heap.size + 1 + 1) W1 wr ∧ CellsAt wr (w.heap.size + 1 + 1) #[.int .i64 (carryL la lb f g k)] 2 ∧ ∃ cur', CellsAt wr Bk cur' 99 ∧ Filled o n k la lb f g cur cur') (fun i _ => n - (intOf i).toNat)
  case atStart => exact ⟨0, Nat.zero_le _, rfl, Only2.refl _ _ _, m3, cur, M4.out, Filled.zero _ _ _ _ _ _ _⟩
  case round =>
    obtain ⟨k, hk, rfl, hOn, hcar, cur', hcur, hfil⟩ := hrel
    clear m3
    by_cases hlt : k < n
    · have ra := HA.out.later (k := k) HO.out M5.out (Nat.le_add_right _ 2) hOn hcur hfil
      have rb := HB.out.later (k := k) HO.out M5.out (Nat.le_add_right _ 2) hOn hcur hfil
      have hcb := carryL_bound HF.out HG.out A3.out B3.out k
      have c1 : wr.cell? ⟨w.heap.size, 0, none⟩ = some (.int .i64 f) := (hOn.cell (p := ⟨w.heap.size, 0, none⟩) (by have := HBK.out; show w.heap.size ≠ Bk; omega) (by show w.heap.size ≠ w.heap.size + 1 + 1; omega)).trans (M1.out.cell 0)
      have c2 : wr.cell? ⟨w.heap.size + 1, 0, none⟩ = some (.int .i64 g) := (hOn.cell (p := ⟨w.heap.size + 1, 0, none⟩) (by have := HBK.out; show w.heap.size + 1 ≠ Bk; omega) (by simp)).trans (M2.out.cell 0)
      have c3 : wr.cell? ⟨w.heap.size + 1 + 1, 0, none⟩ = some (.int .i64 (carryL la lb f g k)) := hcar.cell 0
      have c4 := hcar.free 0
      have RA := Lib.hid ra
      have RB := Lib.hid rb
      have HCB := Lib.hid hcb
      have HON := Lib.hid hOn
      have HCAR := Lib.hid hcar
      have HCUR := Lib.hid hcur
      have HFIL := Lib.hid hfil
      clear ra rb hcb hOn hcar hcur hfil
      go_wp2_with fail
      refine (at_nat a la.length c k (pt la k) _ (by omega) (by omega) RA.out (fun h => pt_ge h)).mono ?_
      rintro e w' ⟨rfl, rfl⟩
      go_wp2_with fail
      refine (at_nat a' lb.length c' k (pt lb k) _ (by omega) (by omega) RB.out (fun h => pt_ge h)).mono ?_
      rintro e w' ⟨rfl, rfl⟩
      go_wp2_with fail
      have g4 : ∀ v, CellsAt (wr.setCell ⟨w.heap.size + 1 + 1, 0, none⟩ v) Bk cur' 99 := fun v => HCUR.out.other (p := ⟨w.heap.size + 1 + 1, 0, none⟩) (by have := HBK.out; show w.heap.size + 1 + 1 ≠ Bk; omega) v
      obtain ⟨x0, hx0⟩ : ∃ x, cur'[o + k]? = some x := by
        have h1 : o + k < cur'.size := by have := HFIL.out.1; have := HS.out; omega
        exact ⟨cur'[o + k], Array.getElem?_eq_getElem h1⟩
      have g5 : ∀ v, (wr.setCell ⟨w.heap.size + 1 + 1, 0, none⟩ v).cell? ⟨Bk, o + k, none⟩ = some x0 := fun v => ((g4 v).cell _).trans hx0
      have g6 : ∀ v, (wr.setCell ⟨w.heap.size + 1 + 1, 0, none⟩ v).frozen? ⟨Bk, o + k, none⟩ = false := fun v => (g4 v).free _
      have G5 := Lib.hid g5
      have G6 := Lib.hid g6
      clear g4 g5 g6 hx0
      refine (blend1_any (pt la k) (pt lb k) f g (carryL la lb f g k) w.heap.size (w.heap.size + 1) (w.heap.size + 1 + 1) _ (pt_lt (by decide) A3.out k) (pt_lt (by decide) B3.out k) HF.out HG.out HCB.out.1 HCB.out.2 c1 c2 c3 c4 (by omega) (by omega)).mono ?_
      rintro e w' ⟨rfl, rfl⟩
      have d5 := G5.out (.int .i64 (cr f g (pt la k) (pt lb k) (carryL la lb f g k)))
      have d6 := G6.out (.int .i64 (cr f g (pt la k) (pt lb k) (carryL la lb f g k)))
      clear c1 c2 c3 c4
      go_wp2
      go_roundw
      case rel => exact ⟨k + 1, by omega, by go_num, (HON.out.trans (Only2.setB _ _ _)).trans (Only2.setA _ _ _), (HCAR.out.set 0 _).other (p := ⟨Bk, o + k, none⟩) (by have := HBK.out; show Bk ≠ w.heap.size + 1 + 1; omega) _, _, (HCUR.out.other (p := ⟨w.heap.size + 1 + 1, 0, none⟩) (by have := HBK.out; show w.heap.size + 1 + 1 ≠ Bk; omega) _).set _ _, HFIL.out.succ (by have := HS.out; omega)⟩
      case measure => simp [intOf]; omega
    · have c3 : wr.cell? ⟨w.heap.size + 1 + 1, 0, none⟩ = some (.int .i64 (carryL la lb f g k)) := hcar.cell 0
      obtain rfl : k = n := by omega
      have HON := Lib.hid hOn
      have HCAR := Lib.hid hcar
      have HCUR := Lib.hid hcur
      have HFIL := Lib.hid hfil
      clear hOn hcar hcur hfil
      go_wp2
      go_ret
      refine ⟨rfl, cur', HCUR.out, HFIL.out, ?_⟩
      have h1 := HON.out
      have h2 := M5.out
      exact ⟨h1.os.trans h2.os, h1.tape.trans h2.tape, h1.output.trans h2.output, by rw [h1.size]; exact h2.size, fun j hj hne => (h1.block j (fun e => hne (by rw [e])) (by omega)).trans (h2.block j hj)⟩

end Go.Proofs.YtgpoljbccimkjaaGreatDoor
