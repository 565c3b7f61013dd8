/- Walk of the reference of layer 1: how often an amount goes into another one. -/
import Derived.Test.YtgpoljbccimkjaaGreatDoorRefO
import Derived.Test.YtgpoljbccimkjaaGreatDoorRefK
import Derived.ArgAppend
namespace Go.Proofs.YtgpoljbccimkjaaGreatDoor
set_option linter.unusedSimpArgs false
set_option linter.unusedVariables false

/-- j rounds are still to come; L is left, Q was found. -/
def GoInv (la lb : List Nat) (j : Nat) (Q L : List Nat) : Prop :=
  L.length = la.length ∧ (∀ x ∈ L, x < 1000000000) ∧ Q.length = la.length + 1 ∧ (∀ x ∈ Q, x < 1000000000) ∧ (∀ i, i < j → pt Q i = 0) ∧ val L < 1000000000 ^ j * val lb ∧ val la = val L + val Q * val lb
/-- Within the round of part k. -/
def GiInv (la lb : List Nat) (k : Nat) (Q L : List Nat) : Prop :=
  L.length = la.length ∧ (∀ x ∈ L, x < 1000000000) ∧ Q.length = la.length + 1 ∧ (∀ x ∈ Q, x < 1000000000) ∧ (∀ i, i < k → pt Q i = 0) ∧ val L + pt Q k * (1000000000 ^ k * val lb) < 1000000000 ^ (k + 1) * val lb ∧ val la = val L + val Q * val lb

theorem GoInv.start {la lb : List Nat} (h1 : ∀ x ∈ la, x < 1000000000) (h2 : ∀ x ∈ lb, x < 1000000000) (t2 : Top lb) (h0 : lb ≠ []) : GoInv la lb (la.length + 1 - lb.length) (List.replicate (la.length + 1) 0) la := by
  have z : ∀ j, pt (List.replicate (la.length + 1) 0) j = 0 := fun j => by unfold pt; simp [List.getD_eq_getElem?_getD, List.getElem?_replicate]; split <;> rfl
  refine ⟨rfl, h1, by simp, fun x hx => by rw [List.mem_replicate] at hx; omega, fun i _ => z i, ?_, by rw [val_zero z]; simp⟩
  have hn : 0 < lb.length := List.length_pos_iff.2 h0
  rcases Nat.lt_or_ge la.length lb.length with h | h
  · rw [show la.length + 1 - lb.length = 0 by omega, Nat.pow_zero, Nat.one_mul]
    exact val_lt_of_length h1 t2 h
  · have h3 := val_ge t2 h0
    have h4 := val_lt h1
    have h5 : 1000000000 ^ (la.length + 1 - lb.length) * 1000000000 ^ (lb.length - 1) ≤ 1000000000 ^ (la.length + 1 - lb.length) * val lb := Nat.mul_le_mul_left _ h3
    rw [← Nat.pow_add, show la.length + 1 - lb.length + (lb.length - 1) = la.length by omega] at h5
    omega

theorem GoInv.inner {la lb Q L : List Nat} {k : Nat} (h : GoInv la lb (k + 1) Q L) : GiInv la lb k Q L := by
  obtain ⟨h1, h2, h3, h4, h5, h6, h7⟩ := h
  exact ⟨h1, h2, h3, h4, fun i hi => h5 i (by omega), by rw [h5 k (by omega), Nat.zero_mul]; exact h6, h7⟩
theorem GiInv.outer {la lb Q L : List Nat} {k : Nat} (h : GiInv la lb k Q L) (hv : val L < 1000000000 ^ k * val lb) : GoInv la lb k Q L := by
  obtain ⟨h1, h2, h3, h4, h5, -, h7⟩ := h
  exact ⟨h1, h2, h3, h4, h5, hv, h7⟩
theorem GoInv.done {la lb Q L : List Nat} (h : GoInv la lb 0 Q L) : val Q = val la / val lb ∧ val L = val la % val lb := by
  obtain ⟨-, -, -, -, -, h6, h7⟩ := h
  rw [Nat.pow_zero, Nat.one_mul] at h6
  have hb : 0 < val lb := by omega
  rw [h7, Nat.mul_comm]
  exact ⟨by rw [Nat.add_mul_div_left _ _ hb, Nat.div_eq_of_lt h6]; omega, by rw [Nat.add_mul_mod_self_left, Nat.mod_eq_of_lt h6]⟩

theorem GiInv.room {la lb Q L : List Nat} {k f : Nat} (h : GiInv la lb k Q L) (hv : 1000000000 ^ k * (f * val lb) ≤ val L) : pt Q k + f < 1000000000 := by
  obtain ⟨-, -, -, -, -, h6, -⟩ := h
  have e : 1000000000 ^ k * (f * val lb) = f * (1000000000 ^ k * val lb) := Nat.mul_left_comm _ _ _
  rw [e] at hv
  have h7 : (pt Q k + f) * (1000000000 ^ k * val lb) < 1000000000 * (1000000000 ^ k * val lb) := by
    rw [Nat.add_mul]
    have e3 : 1000000000 ^ (k + 1) * val lb = 1000000000 * (1000000000 ^ k * val lb) := by rw [Nat.pow_succ, Nat.mul_comm (1000000000 ^ k) 1000000000, Nat.mul_assoc]
    rw [e3] at h6
    omega
  exact Nat.lt_of_mul_lt_mul_right h7

theorem GiInv.step {la lb Q L L' : List Nat} {k f : Nat} (h : GiInv la lb k Q L) (hk : k < Q.length) (hv : 1000000000 ^ k * (f * val lb) ≤ val L) (hl : L'.length = L.length) (hs : ∀ x ∈ L', x < 1000000000) (he : val L' + 1000000000 ^ k * (f * val lb) = val L) :
    GiInv la lb k (Q.set k (pt Q k + f)) L' := by
  have hr := h.room hv
  obtain ⟨h1, h2, h3, h4, h5, h6, h7⟩ := h
  have e : 1000000000 ^ k * (f * val lb) = f * (1000000000 ^ k * val lb) := Nat.mul_left_comm _ _ _
  rw [e] at he
  refine ⟨by omega, hs, by simpa using h3, small_set h4 hr, fun i hi => by rw [pt_set_ne (by omega)]; exact h5 i hi, ?_, ?_⟩
  · rw [pt_set_self hk, Nat.add_mul]
    omega
  · have h8 := val_put (l := Q) (i := k) (t := pt Q k + f) hk
    have h9 : val (Q.set k (pt Q k + f)) = val Q + 1000000000 ^ k * f := by rw [Nat.mul_add] at h8; omega
    have e2 : 1000000000 ^ k * f * val lb = f * (1000000000 ^ k * val lb) := by rw [Nat.mul_comm (1000000000 ^ k), Nat.mul_assoc]
    rw [h9, Nat.add_mul, e2]
    omega

theorem val_take_le (l : List Nat) (m : Nat) : val (l.take m) ≤ val l := by
  rcases Nat.lt_or_ge l.length m with h | h
  · rw [List.take_of_length_le (by omega)]; exact Nat.le_refl _
  · have := val_split l m h
    omega

/-- How often it surely goes. -/
theorem goes_often {lb L : List Nat} {k : Nat} (h2 : ∀ x ∈ lb, x < 1000000000) (h0 : lb ≠ []) : 1000000000 ^ k * ((1000000000 * pt L (k + lb.length) + pt L (k + lb.length - 1)) / (pt lb (lb.length - 1) + 1) * val lb) ≤ val L := by
  have hn : 0 < lb.length := List.length_pos_iff.2 h0
  obtain ⟨n, hn⟩ : ∃ n, lb.length = n + 1 := ⟨lb.length - 1, by omega⟩
  have b1 : val lb ≤ (pt lb n + 1) * 1000000000 ^ n := by
    have h3 := val_take_succ lb n
    rw [List.take_of_length_le (by omega)] at h3
    have h4 := val_lt (small_take h2 n)
    rw [List.length_take, Nat.min_eq_left (by omega)] at h4
    rw [Nat.add_mul, Nat.mul_comm (pt lb n)]
    omega
  have b2 : 1000000000 ^ (k + n) * (1000000000 * pt L (k + n + 1) + pt L (k + n)) ≤ val L := by
    have h3 := val_take_le L (k + n + 1 + 1)
    rw [val_take_succ, val_take_succ] at h3
    have e4 : 1000000000 ^ (k + n) * (1000000000 * pt L (k + n + 1)) = 1000000000 ^ (k + n + 1) * pt L (k + n + 1) := by rw [← Nat.mul_assoc, ← Nat.pow_succ]
    rw [Nat.mul_add, e4]
    omega
  rw [hn, show k + (n + 1) = k + n + 1 by omega, show k + n + 1 - 1 = k + n by omega, show n + 1 - 1 = n by omega]
  generalize 1000000000 * pt L (k + n + 1) + pt L (k + n) = t at *
  have b3 : t / (pt lb n + 1) * (pt lb n + 1) ≤ t := Nat.div_mul_le_self _ _
  generalize t / (pt lb n + 1) = f at *
  calc 1000000000 ^ k * (f * val lb) ≤ 1000000000 ^ k * (f * ((pt lb n + 1) * 1000000000 ^ n)) := Nat.mul_le_mul_left _ (Nat.mul_le_mul_left _ b1)
    _ = 1000000000 ^ (k + n) * (f * (pt lb n + 1)) := by rw [Nat.pow_add, ← Nat.mul_assoc f, Nat.mul_comm (f * (pt lb n + 1)), Nat.mul_assoc]
    _ ≤ 1000000000 ^ (k + n) * t := Nat.mul_le_mul_left _ b3
    _ ≤ val L := b2

/-- Noughts below: so many parts further up. -/
theorem val_pad (k : Nat) (l : List Nat) : val (List.replicate k 0 ++ l) = 1000000000 ^ k * val l := by
  rw [val_append, List.length_replicate]
  have z : ∀ j, pt (List.replicate k 0) j = 0 := fun j => by unfold pt; simp [List.getD_eq_getElem?_getD, List.getElem?_replicate]; split <;> rfl
  rw [val_zero z]; omega

end Go.Proofs.YtgpoljbccimkjaaGreatDoor

namespace Go.Proofs.YtgpoljbccimkjaaGreatDoor
set_option linter.unusedSimpArgs false
set_option linter.unusedVariables false
open Go.RowKit Go.Shelf

/-- k noughts that were just made. -/
def IsZ (k : Nat) (v : Value) (w : World) : Prop := ∃ b, v = .slice (some ⟨b, 0, none⟩) k k ∧ Front w b k (List.replicate k 0)
theorem IsZ.grows (k : Nat) : Grows (IsZ k) := fun _ _ _ h hb => by
  obtain ⟨b, e, h⟩ := h
  exact ⟨b, e, h.below hb⟩

set_option maxRecDepth 100000 in
theorem run_append_z {w : World} {b k : Nat} {v : Value} {l : List Nat} (hF : Front w b k (List.replicate k 0)) (h : Lim w v l) (h0 : l ≠ []) (hk : k ≤ 1000000) (hl : l.length ≤ 1000000) :
    ∃ v' w', (Builtin.append_ #[22, 22] 22 #[.slice (some ⟨b, 0, none⟩) k k, v]).run Tryz.prog w = .ok v' w' ∧ OwnL w.heap.size w' v' (List.replicate k 0 ++ l) ∧ Below w.heap.size w w' := by
  obtain ⟨i0, hi, hz0, hz1, hz2⟩ := info_parts infoU32
  obtain ⟨a, c, rfl, h1, h2, h3, h4⟩ := h
  have hn : 0 < l.length := List.length_pos_iff.2 h0
  rcases h4 with ⟨rfl, rfl, rfl⟩ | ⟨b', o, rfl, hc⟩
  · simp at hn
  · have hadd : ∀ (x y j : Nat), (⟨x, y, none⟩ : Addr).add j = ⟨x, y + j, none⟩ := fun x y j => by
      unfold Addr.add
      split
      · next h0 => subst h0; rfl
      · rfl
    obtain ⟨v', w', hr, h5, h6⟩ := run_append_arg_grows (P := Tryz.prog) w 22 22 99 i0 (.int .u32 0) 1 4 underU32s hi hz0 hz1 hz2 rfl (by decide) ⟨b, 0, none⟩ k k (u32s (List.replicate k 0)) (by simp [u32s]) (fun j u hj => by
      have hlt : j < (List.replicate k 0).length := by
        rcases Nat.lt_or_ge j (List.replicate k 0).length with h | h
        · exact h
        · rw [List.getElem?_eq_none (by rw [u32s_length]; exact h)] at hj; cases hj
      rw [u32s_get _ j hlt] at hj
      injection hj with hj
      rw [← hj, hadd, Nat.zero_add]
      exact hF.cell hlt) ⟨b', o, none⟩ l.length c (u32s l) (by simp [u32s]) (fun j u hj => by
      have hlt : j < l.length := by
        rcases Nat.lt_or_ge j l.length with h | h
        · exact h
        · rw [List.getElem?_eq_none (by rw [u32s_length]; exact h)] at hj; cases hj
      rw [u32s_get l j hlt] at hj
      injection hj with hj
      rw [← hj, hadd]
      exact hc j hlt) (by omega) (by unfold maxLen; omega) (by omega)
    have e1 : u32s (List.replicate k 0) ++ u32s l = u32s (List.replicate k 0 ++ l) := by simp [u32s]
    rw [e1] at h5
    refine ⟨v', w', hr, ⟨by rw [List.length_append, List.length_replicate]; exact h5, fun x hx => ?_⟩, (Below.refl _ _).grown h6 (Nat.le_refl _) (fun k e => by cases e)⟩
    rcases List.mem_append.1 hx with hx | hx
    · rw [List.mem_replicate] at hx; omega
    · exact h3 x hx

section
variable {bs : List (Nat × Bool)} {fs : List (Nat × (Value → World → Prop))} {w0 : World} {d : Nat} {ty : TypeId} {pos : String} {af : Array Edge} {g : Option (Nat × Bool)}

set_option maxRecDepth 100000 in
theorem step_append_z {x y k : Nat} {l : List Nat} (hx : ∀ v w, Known bs fs x v w → IsZ k v w) (hy : ∀ v w, Known bs fs y v w → IsL l v w) (h0 : l ≠ []) (hk1 : k ≤ 1000000) (hl : l.length ≤ 1000000) (h : ∀ v w, IsL (List.replicate k 0 ++ l) v w → Known bs fs d v w) :
    StepOk Tryz.prog bs fs w0 ⟨some d, .call { callee := .builtin .append, args := #[.tmp x, .tmp y], argTypes := #[22, 22] }, 22, pos, af, g⟩ :=
  step_value rfl fun a w hb hk => by
    obtain ⟨b, e1, hF⟩ := hx _ _ (hk x (by simp [looks, Op.operands, Call.operands]))
    have h2 := hy _ _ (hk y (by simp [looks, Op.operands, Call.operands]))
    obtain ⟨v', w', hr, h3, h4⟩ := run_append_z hF h2 h0 hk1 hl
    exact ⟨v', w', by
      unfold execOp
      simp only [resolve, invoke, builtin, Sem.run_bind, Sem.run_pure, Result.andThen_ok, List.map_toArray, List.map_cons, List.map_nil, e1, hr], h _ _ h3.lim, h4⟩

set_option maxRecDepth 100000 in
theorem step_make_z {x k : Nat} (hx : ∀ v w, Known bs fs x v w → v = .int .i64 (k : Nat)) (hk1 : k ≤ 1000000) (h : ∀ v w, IsZ k v w → Known bs fs d v w) :
    StepOk Tryz.prog bs fs w0 ⟨some d, .makeSlice 22 (.tmp x) (.tmp x), ty, pos, af, g⟩ :=
  step_value rfl fun a w hb hk => by
    have e1 := hx _ _ (hk x (by simp [looks, Op.operands]))
    have hr := run_make_u32 (k : Int) k rfl (by omega) w
    refine ⟨.slice (some ⟨w.heap.size, 0, none⟩) k k, w.alloc (.cells (madeCells #[.int .u32 0] k) 99), by
      simp only [execOp, e1, Sem.run_bind, hr, Result.andThen_ok, Sem.run_pure], h _ _ ⟨w.heap.size, rfl, ?_⟩, (Below.refl _ _).alloc (Nat.le_refl _) _⟩
    exact ⟨_, CellsAt.new _ _ _, by rw [← Array.length_toList, made_list, u32s_length]; simp, by simp, by rw [made_list, List.take_of_length_le (by rw [u32s_length]; simp)]⟩
end

theorem rnum_list {v : Value} {l : List Nat} {w : World} (h : IsL l v w) :
    Calls Tryz.prog 78 #[.bool false, v] w fun e w' => (∃ r, e = .returned r ∧ IsA false (trimL l) r w') ∧ Below w.heap.size w w' := by
  have h' : Lim w v l := h
  obtain ⟨a, c, rfl, -⟩ := h
  refine (rnum_any false a c l w h').mono ?_
  rintro e w' ⟨rfl, h2, h3⟩
  exact ⟨⟨_, rfl, _, _, _, rfl, h2⟩, h3⟩

theorem rorder_list {u v : Value} {la lb : List Nat} {w : World} (ha : IsL la u w) (hb : IsL lb v w) (h1 : ∀ x ∈ la, x < 1000000000) (h2 : ∀ x ∈ lb, x < 1000000000) (t1 : Top la) (t2 : Top lb) (r : Int) (hr : cmpI (val la) (val lb) = r) :
    Calls Tryz.prog 162 #[u, v] w fun e w' => (∃ x, e = .returned x ∧ IsV (.int .i64 r) x w') ∧ Below w.heap.size w w' := by
  refine (rorder_val u v la lb w ha hb h1 h2 t1 t2).mono ?_
  rintro e w' ⟨rfl, h3⟩
  exact ⟨⟨_, rfl, by rw [hr]; rfl⟩, h3⟩

end Go.Proofs.YtgpoljbccimkjaaGreatDoor

namespace Go.Proofs.YtgpoljbccimkjaaGreatDoor
set_option linter.unusedSimpArgs false
set_option linter.unusedVariables false
open Go.RowKit Go.Shelf

theorem wpList_append_lim {ops : Array Oper} {rest : List Oper} {o : Oper} {a : Act} {Q : Exit → Act → World → Prop} {w : World} (hgd : o.guard = none) (s x : Operand)
    (ho : o.op = .call { callee := .builtin .append, args := #[s, x], argTypes := #[22, 22] }) (hty : o.type = 22) {v : Value} {l : List Nat} (hs : a.eval s = .slice none 0 0) (hx : a.eval x = v)
    (hl : Lim w v l) (hn : l.length ≤ 1000000)
    (h : ∀ v' w', OwnL w.heap.size w' v' l → Below w.heap.size w w' → wpList Tryz.prog ops Q rest (a.put o.dst v') w') : wpList Tryz.prog ops Q (o :: rest) a w := by
  refine wpList_plain hgd fun _ hK => ?_
  obtain ⟨v', w', hr, h2, h3⟩ := run_append_lim hl hn
  unfold Oper.wp execOp
  simp only [ho, hty, resolve, invoke, builtin, Sem.run_bind, Sem.run_pure, Result.andThen_ok, List.map_toArray, List.map_cons, List.map_nil, hs, hx, hr]
  exact hK _ _ (h v' w' h2 h3)

/-- What goes answers: often, and what is left. -/
def Went (w' : World) (e : Ending) (la lb : List Nat) : Prop := ∃ vq vr Q R, e = .returned (.tuple #[vq, vr]) ∧ Lim w' vq Q ∧ Lim w' vr R ∧ (∀ x ∈ Q, x < 1000000000) ∧ (∀ x ∈ R, x < 1000000000) ∧ val Q = val la / val lb ∧ val R = val la % val lb

set_option maxRecDepth 100000 in
set_option maxHeartbeats 2000000 in
theorem rgoes_one (va vb : Value) (la : List Nat) (b : Nat) (w : World) (ha : Lim w va la) (hb : Lim w vb [b]) (h1 : ∀ x ∈ la, x < 1000000000) (n1 : la.length ≤ 1000000) (h0 : 0 < b) (hb9 : b < 1000000000) :
    Calls Tryz.prog 77 #[va, vb] w fun e w' => Went w' e la [b] ∧ Below w.heap.size w w' := by
  have HA := Lib.hid ha
  have H1 := Lib.hid h1
  obtain ⟨a', c', rfl, q1, q2, -⟩ := ha
  have hb' := hb
  obtain ⟨a, c, rfl, -⟩ := hb
  obtain ⟨bb, o, rfl, hc⟩ := hb'.cell (i := 0) (by simp)
  rw [show pt [b] 0 = b from rfl, Nat.add_zero] at hc
  clear h1 hb'
  go_enter Tryz.func77, Tryz.ntmps77
  go_wp2_with fail
  refine (rsmall_any _ la b _ HA.out H1.out n1 h0 hb9).mono ?_
  rintro e w1 ⟨⟨v1, L, rfl, hL, hLl, hLs, hLv⟩, hb1⟩
  have HL := Lib.hid hL
  have B1 := Lib.hid hb1
  have HLS := Lib.hid hLs
  have HLV := Lib.hid hLv
  have hml : val la % b < 1000000000 := Nat.lt_trans (Nat.mod_lt _ h0) hb9
  clear hL hb1 hLs hLv hLl
  go_wp2_with fail
  go_ret2
  have em : ((val la : Int) % (b : Int)) = ((val la % b : Nat) : Int) := (Int.natCast_emod _ _).symm
  rw [em]
  have hone : Lim (w1.alloc (.cells #[.int .u32 ((val la % b : Nat) : Int)] 99)) (.slice (some ⟨w1.heap.size, 0, none⟩) 1 1) [val la % b] := by
    refine ⟨_, 1, rfl, by simp, by unfold maxLen; decide, fun x hx => by simp at hx; omega, .inr ⟨w1.heap.size, 0, rfl, fun i hi => ?_⟩⟩
    obtain rfl : i = 0 := by simp at hi; omega
    have h9 := cell_one_new w1 (.int .u32 ((val la % b : Nat) : Int)) 99 0 _ rfl
    have e0 : (⟨w1.heap.size, 0, none⟩ : Addr).add 0 = ⟨w1.heap.size, 0, none⟩ := by unfold Addr.add; rw [if_pos rfl]
    rw [e0] at h9
    exact h9
  refine ⟨⟨v1, _, L, [val la % b], rfl, HL.out.lim.below ((Below.refl _ _).alloc (Nat.le_refl _) _), hone, HLS.out, fun x hx => by simp at hx; omega, ?_, ?_⟩, Below.step B1.out ((Below.refl _ _).alloc (Nat.le_refl _) _)⟩
  · rw [HLV.out]; simp [val]
  · simp [val]

set_option maxRecDepth 100000 in
set_option maxHeartbeats 2000000 in
theorem rgoes_less (va vb : Value) (la lb : List Nat) (w : World) (ha : Lim w va la) (hb : Lim w vb lb) (h1 : ∀ x ∈ la, x < 1000000000) (n1 : la.length ≤ 1000000) (n2 : lb.length ≤ 1000000) (t2 : Top lb) (hl : la.length < lb.length) (hl2 : lb.length ≠ 1) :
    Calls Tryz.prog 77 #[va, vb] w fun e w' => Went w' e la lb ∧ Below w.heap.size w w' := by
  have HA := Lib.hid ha
  have H1 := Lib.hid h1
  obtain ⟨a', c', rfl, q1, q2, -⟩ := ha
  obtain ⟨a, c, rfl, p1, p2, -⟩ := hb
  have HV := Lib.hid (val_lt_of_length h1 t2 hl)
  unfold maxLen at q2 p2
  have hlI : (la.length : Int) - (lb.length : Int) < 0 := by omega
  have hl1 : (((lb.length : Nat) : Int) == 1) = false := by rw [beq_eq_false_iff_ne]; omega
  have hmk := run_make_u32 ((la.length : Int) + 1) (la.length + 1) (by omega) (by omega)
  have hg : ¬ (0 : Int) ≤ (la.length : Int) - (lb.length : Int) := by omega
  clear h1 t2
  go_enter Tryz.func77, Tryz.ntmps77
  go_wp2_with (at_builtin; refine wpList_append_lim rfl _ _ rfl rfl rfl rfl HA.out n1 ?_; intro v1 w1 hL hb1)
  have HL := Lib.hid hL
  have B1 := Lib.hid hb1
  clear hL hb1
  obtain ⟨W2, e2, m3, m4⟩ : ∃ W2, w1.alloc (.cells (madeCells #[.int .u32 0] (la.length + 1)) 99) = W2 ∧ Hid (Front W2 w1.heap.size (la.length + 1) (List.replicate (la.length + 1) 0)) ∧ Hid (Below w1.heap.size w1 W2) :=
    ⟨_, rfl, ⟨_, CellsAt.new _ _ _, by rw [← Array.length_toList, made_list, u32s_length]; simp, by simp, by rw [made_list, List.take_of_length_le (by rw [u32s_length]; simp)]⟩, (show Below w1.heap.size w1 _ from (by repeat (first | exact Below.refl _ _ | with_reducible refine Below.drew ?_ | with_reducible refine below_drewN ?_ _ | with_reducible refine Below.setCell ?_ (by first | (simp; done) | (simp; omega) | omega) _ | with_reducible refine Below.alloc ?_ (by first | (simp; done) | (simp; omega) | omega) _)))⟩
  rw [e2]
  clear e2 hmk
  go_loopw [10] (fun i wr => i = .int .i64 ((la.length : Int) - (lb.length : Int)) ∧ wr = W2) (fun _ _ => 0)
  case atStart => exact ⟨rfl, rfl⟩
  case round =>
    obtain ⟨rfl, rfl⟩ := hrel
    go_wp2
    go_ret2
    have z : ∀ j, pt (List.replicate (la.length + 1) 0) j = 0 := fun j => by unfold pt; simp [List.getD_eq_getElem?_getD, List.getElem?_replicate]; split <;> rfl
    have hO := m3.out.own (n := w1.heap.size) (Nat.le_refl _) (by unfold maxLen; omega) (fun x hx => by rw [List.mem_replicate] at hx; omega)
    rw [List.length_replicate] at hO
    exact ⟨⟨_, v1, _, la, rfl, hO.lim, HL.out.lim.below m4.out, fun x hx => by rw [List.mem_replicate] at hx; omega, H1.out, by rw [val_zero z, Nat.div_eq_of_lt HV.out], by rw [Nat.mod_eq_of_lt HV.out]⟩, Below.step B1.out m4.out⟩

end Go.Proofs.YtgpoljbccimkjaaGreatDoor
