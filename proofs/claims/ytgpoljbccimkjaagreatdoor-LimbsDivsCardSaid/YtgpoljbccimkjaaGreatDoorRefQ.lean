/- Walk of the reference of layer 1: how often an amount goes into another one. -/
import Derived.Test.YtgpoljbccimkjaaGreatDoorRefM
import Derived.Test.YtgpoljbccimkjaaGreatDoorRefO
import Derived.Test.YtgpoljbccimkjaaGreatDoorRefP
namespace Go.Proofs.YtgpoljbccimkjaaGreatDoor
open Go.RowKit Go.Shelf

theorem wpList_append_lim {ops : Array Oper} {rest : List Oper} {o : Oper} {a : Act} {Q : Exit → Act → World → Prop} {w : World} (hgd : o.guard = none) (s x : Operand)
    (ho : o.op = .call { callee := .builtin .append, args := #[s, x], argTypes := #[22, 22] }) (hty : o.type = 22) {v : Value} {l : List Nat} (hs : a.eval s = .slice none 0 0) (hx : a.eval x = v)
    (hl : Lim w v l) (hn : l.length ≤ 1000000)
    (h : ∀ v' w', OwnL w.heap.size w' v' l → Below w.heap.size w w' → wpList Tryz.prog ops Q rest (a.put o.dst v') w') : wpList Tryz.prog ops Q (o :: rest) a w := by
  refine wpList_plain hgd fun _ hK => ?_
  obtain ⟨v', w', hr, h2, h3⟩ := run_append_lim hl hn
  unfold Oper.wp execOp
  simp only [ho, hty, resolve, invoke, builtin, Sem.run_bind, Sem.run_pure, Result.andThen_ok, List.map_toArray, List.map_cons, List.map_nil, hs, hx, hr]
  exact hK _ _ (h v' w' h2 h3)

/-- What goes answers: often, and what is left. -/
def Went (w' : World) (e : Ending) (la lb : List Nat) : Prop := ∃ vq vr Q R, e = .returned (.tuple #[vq, vr]) ∧ Lim w' vq Q ∧ Lim w' vr R ∧ (∀ x ∈ Q, x < 1000000000) ∧ (∀ x ∈ R, x < 1000000000) ∧ val Q = val la / val lb ∧ val R = val la % val lb

set_option maxRecDepth 100000 in
set_option maxHeartbeats 2000000 in
theorem rgoes_one (va vb : Value) (la : List Nat) (b : Nat) (w : World) (ha : Lim w va la) (hb : Lim w vb [b]) (h1 : ∀ x ∈ la, x < 1000000000) (n1 : la.length ≤ 1000000) (h0 : 0 < b) (hb9 : b < 1000000000) :
    Calls Tryz.prog 77 #[va, vb] w fun e w' => Went w' e la [b] ∧ Below w.heap.size w w' := by
  have HA := Lib.hid ha
  have H1 := Lib.hid h1
  obtain ⟨a', c', rfl, q1, q2, -⟩ := ha
  have hb' := hb
  obtain ⟨a, c, rfl, -⟩ := hb
  obtain ⟨bb, o, rfl, hc⟩ := hb'.cell (i := 0) (by simp)
  rw [show pt [b] 0 = b from rfl, Nat.add_zero] at hc
  clear h1 hb'
  go_enter Tryz.func77, Tryz.ntmps77
  go_wp2_with fail
  refine (rsmall_any _ la b _ HA.out H1.out n1 h0 hb9).mono ?_
  rintro e w1 ⟨⟨v1, L, rfl, hL, hLl, hLs, hLv⟩, hb1⟩
  have HL := Lib.hid hL
  have B1 := Lib.hid hb1
  have HLS := Lib.hid hLs
  have HLV := Lib.hid hLv
  have hml : val la % b < 1000000000 := Nat.lt_trans (Nat.mod_lt _ h0) hb9
  clear hL hb1 hLs hLv hLl
  go_wp2_with fail
  go_ret2
  have em : ((val la : Int) % (b : Int)) = ((val la % b : Nat) : Int) := (Int.natCast_emod _ _).symm
  rw [em]
  have hone : Lim (w1.alloc (.cells #[.int .u32 ((val la % b : Nat) : Int)] 99)) (.slice (some ⟨w1.heap.size, 0, none⟩) 1 1) [val la % b] := by
    refine ⟨_, 1, rfl, by simp, by unfold maxLen; decide, fun x hx => by simp at hx; omega, .inr ⟨w1.heap.size, 0, rfl, fun i hi => ?_⟩⟩
    obtain rfl : i = 0 := by simp at hi; omega
    have h9 := cell_one_new w1 (.int .u32 ((val la % b : Nat) : Int)) 99 0 _ rfl
    have e0 : (⟨w1.heap.size, 0, none⟩ : Addr).add 0 = ⟨w1.heap.size, 0, none⟩ := by unfold Addr.add; rw [if_pos rfl]
    rw [e0] at h9
    exact h9
  refine ⟨⟨v1, _, L, [val la % b], rfl, HL.out.lim.below ((Below.refl _ _).alloc (Nat.le_refl _) _), hone, HLS.out, fun x hx => by simp at hx; omega, ?_, ?_⟩, Below.step B1.out ((Below.refl _ _).alloc (Nat.le_refl _) _)⟩
  · rw [HLV.out]; simp [val]
  · simp [val]

set_option maxRecDepth 100000 in
set_option maxHeartbeats 2000000 in
theorem rgoes_less (va vb : Value) (la lb : List Nat) (w : World) (ha : Lim w va la) (hb : Lim w vb lb) (h1 : ∀ x ∈ la, x < 1000000000) (n1 : la.length ≤ 1000000) (n2 : lb.length ≤ 1000000) (t2 : Top lb) (hl : la.length < lb.length) (hl2 : lb.length ≠ 1) :
    Calls Tryz.prog 77 #[va, vb] w fun e w' => Went w' e la lb ∧ Below w.heap.size w w' := by
  have HA := Lib.hid ha
  have H1 := Lib.hid h1
  obtain ⟨a', c', rfl, q1, q2, -⟩ := ha
  obtain ⟨a, c, rfl, p1, p2, -⟩ := hb
  have HV := Lib.hid (val_lt_of_length h1 t2 hl)
  unfold maxLen at q2 p2
  have hlI : (la.length : Int) - (lb.length : Int) < 0 := by omega
  have hl1 : (((lb.length : Nat) : Int) == 1) = false := by rw [beq_eq_false_iff_ne]; omega
  have hmk := run_make_u32 ((la.length : Int) + 1) (la.length + 1) (by omega) (by omega)
  have hg : ¬ (0 : Int) ≤ (la.length : Int) - (lb.length : Int) := by omega
  clear h1 t2
  go_enter Tryz.func77, Tryz.ntmps77
  go_wp2_with (at_builtin; refine wpList_append_lim rfl _ _ rfl rfl rfl rfl HA.out n1 ?_; intro v1 w1 hL hb1)
  have HL := Lib.hid hL
  have B1 := Lib.hid hb1
  clear hL hb1
  obtain ⟨W2, e2, m3, m4⟩ : ∃ W2, w1.alloc (.cells (madeCells #[.int .u32 0] (la.length + 1)) 99) = W2 ∧ Hid (Front W2 w1.heap.size (la.length + 1) (List.replicate (la.length + 1) 0)) ∧ Hid (Below w1.heap.size w1 W2) :=
    ⟨_, rfl, ⟨_, CellsAt.new _ _ _, by rw [← Array.length_toList, made_list, u32s_length]; simp, by simp, by rw [made_list, List.take_of_length_le (by rw [u32s_length]; simp)]⟩, (show Below w1.heap.size w1 _ from (by repeat (first | exact Below.refl _ _ | with_reducible refine Below.drew ?_ | with_reducible refine below_drewN ?_ _ | with_reducible refine Below.setCell ?_ (by first | (simp; done) | (simp; omega) | omega) _ | with_reducible refine Below.alloc ?_ (by first | (simp; done) | (simp; omega) | omega) _)))⟩
  rw [e2]
  clear e2 hmk
  go_loopw [10] (fun i wr => i = .int .i64 ((la.length : Int) - (lb.length : Int)) ∧ wr = W2) (fun _ _ => 0)
  case atStart => exact ⟨rfl, rfl⟩
  case round =>
    obtain ⟨rfl, rfl⟩ := hrel
    go_wp2
    go_ret2
    have z : ∀ j, pt (List.replicate (la.length + 1) 0) j = 0 := fun j => by unfold pt; simp [List.getD_eq_getElem?_getD, List.getElem?_replicate]; split <;> rfl
    have hO := m3.out.own (n := w1.heap.size) (Nat.le_refl _) (by unfold maxLen; omega) (fun x hx => by rw [List.mem_replicate] at hx; omega)
    rw [List.length_replicate] at hO
    exact ⟨⟨_, v1, _, la, rfl, hO.lim, HL.out.lim.below m4.out, fun x hx => by rw [List.mem_replicate] at hx; omega, H1.out, by rw [val_zero z, Nat.div_eq_of_lt HV.out], by rw [Nat.mod_eq_of_lt HV.out]⟩, Below.step B1.out m4.out⟩

end Go.Proofs.YtgpoljbccimkjaaGreatDoor
