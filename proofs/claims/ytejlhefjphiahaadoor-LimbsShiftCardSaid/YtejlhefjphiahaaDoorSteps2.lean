/- More single operations by what is known of their operands. -/
import Derived.Test.YtejlhefjphiahaaDoorSteps
import Derived.Test.YtejlhefjphiahaaDoorGcd
import Derived.Test.YtejlhefjphiahaaDoorFacts2
namespace Go.Proofs.YtejlhefjphiahaaDoor
open Go.RowKit Go.Shelf

section
variable {bs : List (Nat × Bool)} {fs : List (Nat × (Value → World → Prop))} {w0 : World} {d : Nat} {ty : TypeId} {pos : String} {af : Array Edge} {g : Option (Nat × Bool)}

/-- '==' of two numbers of one kind. -/
theorem step_eqII {x y : Nat} {t' : TypeId} {m k : Int} {b : Bool} (hx : ∀ v w, Known bs fs x v w → v = .int .i64 m) (hy : ∀ v w, Known bs fs y v w → v = .int .i64 k) (hb' : (m == k) = b) (h : ∀ w, Known bs fs d (.bool b) w) : StepOk Tryd.prog bs fs w0 ⟨some d, .binOp .eql 3 (.tmp x) (.tmp y) t', ty, pos, af, g⟩ :=
  step_value rfl fun a w hb hk => ⟨.bool b, w, by
    have h1 := hx _ _ (hk x (by simp [looks, Op.operands]))
    have h2 := hy _ _ (hk y (by simp [looks, Op.operands]))
    simp only [execOp, h1, h2, ← hb']
    go_simp, h _, Below.refl _ _⟩
theorem step_eqBB {x y : Nat} {t' : TypeId} {m k b : Bool} (hx : ∀ v w, Known bs fs x v w → v = .bool m) (hy : ∀ v w, Known bs fs y v w → v = .bool k) (hb' : (m == k) = b) (h : ∀ w, Known bs fs d (.bool b) w) : StepOk Tryd.prog bs fs w0 ⟨some d, .binOp .eql 4 (.tmp x) (.tmp y) t', ty, pos, af, g⟩ :=
  step_value rfl fun a w hb hk => ⟨.bool b, w, by
    have h1 := hx _ _ (hk x (by simp [looks, Op.operands]))
    have h2 := hy _ _ (hk y (by simp [looks, Op.operands]))
    simp only [execOp, h1, h2, ← hb']
    go_simp, h _, Below.refl _ _⟩
theorem step_neg {x : Nat} {m k : Int} (hx : ∀ v w, Known bs fs x v w → v = .int .i64 m) (hb' : IntKind.i64.wrap (-m) = k) (h : ∀ w, Known bs fs d (.int .i64 k) w) : StepOk Tryd.prog bs fs w0 ⟨some d, .unOp .neg 3 (.tmp x), ty, pos, af, g⟩ :=
  step_value rfl fun a w hb hk => ⟨.int .i64 k, w, by
    have h1 := hx _ _ (hk x (by simp [looks, Op.operands]))
    simp only [execOp, h1, ← hb']
    go_simp, h _, Below.refl _ _⟩
theorem step_mulI {x y : Nat} {t' : TypeId} {m n k : Int} (hx : ∀ v w, Known bs fs x v w → v = .int .i64 m) (hy : ∀ v w, Known bs fs y v w → v = .int .i64 n) (hb' : IntKind.i64.wrap (m * n) = k) (h : ∀ w, Known bs fs d (.int .i64 k) w) : StepOk Tryd.prog bs fs w0 ⟨some d, .binOp .mul 3 (.tmp x) (.tmp y) t', ty, pos, af, g⟩ :=
  step_value rfl fun a w hb hk => ⟨.int .i64 k, w, by
    have h1 := hx _ _ (hk x (by simp [looks, Op.operands]))
    have h2 := hy _ _ (hk y (by simp [looks, Op.operands]))
    simp only [execOp, h1, h2, ← hb']
    go_simp, h _, Below.refl _ _⟩
set_option maxRecDepth 100000 in
theorem step_field {x : Nat} (hx : ∀ v w, Known bs fs x v w → ∃ s p n c, v = .agg #[.bool s, .slice p n c] ∧ Known bs fs d (.slice p n c) w) : StepOk Tryd.prog bs fs w0 ⟨some d, .field 24 (.tmp x) 1, ty, pos, af, g⟩ :=
  step_value rfl fun a w hb hk => by
    obtain ⟨s, p, n, c, e, h⟩ := hx _ _ (hk x (by simp [looks, Op.operands]))
    exact ⟨_, w, by
      have hf := field_parts s p n c w
      simp only [execOp, e]
      go_simp, h, Below.refl _ _⟩
set_option maxRecDepth 100000 in
theorem step_len {x : Nat} (hx : ∀ v w, Known bs fs x v w → ∃ p n c, v = .slice p n c ∧ Known bs fs d (.int .i64 (n : Nat)) w) : StepOk Tryd.prog bs fs w0 ⟨some d, .call { callee := .builtin .len, args := #[.tmp x], argTypes := #[22] }, 3, pos, af, g⟩ :=
  step_value rfl fun a w hb hk => by
    obtain ⟨p, n, c, e, h⟩ := hx _ _ (hk x (by simp [looks, Op.operands, Call.operands]))
    exact ⟨_, w, by
      simp only [execOp, resolve, List.map_toArray, List.map_cons, List.map_nil, e]
      go_simp, h, Below.refl _ _⟩

theorem step_geq {x : Nat} {t' : TypeId} {m k : Int} {b : Bool} (hx : ∀ v w, Known bs fs x v w → v = .int .i64 m) (hb' : decide (k ≤ m) = b) (h : ∀ w, Known bs fs d (.bool b) w) : StepOk Tryd.prog bs fs w0 ⟨some d, .binOp .geq 3 (.tmp x) (.const (.int .i64 k)) t', ty, pos, af, g⟩ :=
  step_value rfl fun a w hb hk => ⟨.bool b, w, by
    have h1 := hx _ _ (hk x (by simp [looks, Op.operands]))
    have h2 : a.eval (.const (.int .i64 k)) = .int .i64 k := rfl
    simp only [execOp, h1, h2, ← hb']
    go_simp, h _, Below.refl _ _⟩
theorem step_gtr {x : Nat} {t' : TypeId} {m k : Int} {b : Bool} (hx : ∀ v w, Known bs fs x v w → v = .int .i64 m) (hb' : decide (k < m) = b) (h : ∀ w, Known bs fs d (.bool b) w) : StepOk Tryd.prog bs fs w0 ⟨some d, .binOp .gtr 3 (.tmp x) (.const (.int .i64 k)) t', ty, pos, af, g⟩ :=
  step_value rfl fun a w hb hk => ⟨.bool b, w, by
    have h1 := hx _ _ (hk x (by simp [looks, Op.operands]))
    have h2 : a.eval (.const (.int .i64 k)) = .int .i64 k := rfl
    simp only [execOp, h1, h2, ← hb']
    go_simp, h _, Below.refl _ _⟩
theorem step_leq {x : Nat} {t' : TypeId} {m k : Int} {b : Bool} (hx : ∀ v w, Known bs fs x v w → v = .int .i64 m) (hb' : decide (m ≤ k) = b) (h : ∀ w, Known bs fs d (.bool b) w) : StepOk Tryd.prog bs fs w0 ⟨some d, .binOp .leq 3 (.tmp x) (.const (.int .i64 k)) t', ty, pos, af, g⟩ :=
  step_value rfl fun a w hb hk => ⟨.bool b, w, by
    have h1 := hx _ _ (hk x (by simp [looks, Op.operands]))
    have h2 : a.eval (.const (.int .i64 k)) = .int .i64 k := rfl
    simp only [execOp, h1, h2, ← hb']
    go_simp, h _, Below.refl _ _⟩
theorem step_lss {x : Nat} {t' : TypeId} {m k : Int} {b : Bool} (hx : ∀ v w, Known bs fs x v w → v = .int .i64 m) (hb' : decide (m < k) = b) (h : ∀ w, Known bs fs d (.bool b) w) : StepOk Tryd.prog bs fs w0 ⟨some d, .binOp .lss 3 (.tmp x) (.const (.int .i64 k)) t', ty, pos, af, g⟩ :=
  step_value rfl fun a w hb hk => ⟨.bool b, w, by
    have h1 := hx _ _ (hk x (by simp [looks, Op.operands]))
    have h2 : a.eval (.const (.int .i64 k)) = .int .i64 k := rfl
    simp only [execOp, h1, h2, ← hb']
    go_simp, h _, Below.refl _ _⟩
theorem pure_move {x : Nat} (h : ∀ v w, Known bs fs x v w → Known bs fs d v w) : PureOk Tryd.prog bs fs ⟨some d, .move (.tmp x), ty, pos, af, g⟩ :=
  fun a w hk => ⟨_, fun _ => rfl, fun e he => by injection he with he; subst he; exact h _ _ (hk x (looks1 rfl))⟩
theorem pure_extract {x i : Nat} (h : ∀ v w, Known bs fs x v w → ∃ vs u, v = .tuple vs ∧ vs[i]? = some u ∧ Known bs fs d u w) : PureOk Tryd.prog bs fs ⟨some d, .extract (.tmp x) i, ty, pos, af, g⟩ :=
  fun a w hk => by
    obtain ⟨vs, u, e, hu, hku⟩ := h _ _ (hk x (looks1 rfl))
    refine ⟨u, fun w' => ?_, fun e he => by injection he with he; subst he; exact hku⟩
    simp [execOp, e, Instr.extract, hu]
/-- A new box for a number. -/
def IsNewBox (n : Nat) (v : Value) (w : World) : Prop := ∃ b, v = .pointer (some ⟨b, 0, none⟩) ∧ n ≤ b ∧ NumBox w b (.bool false) (.slice none 0 0)
theorem IsNewBox.grows (n : Nat) : Grows (IsNewBox n) := fun _ _ _ h hb => by
  obtain ⟨b, h1, h2, h3⟩ := h
  exact ⟨b, h1, h2, h3.below hb⟩
theorem IsNewBox.lt {n : Nat} {v : Value} {w : World} (h : IsNewBox n v w) : ∃ b, v = .pointer (some ⟨b, 0, none⟩) ∧ b < w.heap.size := by
  obtain ⟨b, h1, -, h3⟩ := h
  exact ⟨b, h1, h3.lt⟩
theorem alloc_num (h : ∀ v w, IsNewBox w0.heap.size v w → Known bs fs d v w) : AllocOk Tryd.prog bs fs w0 ⟨some d, .alloc 24, ty, pos, af, g⟩ :=
  fun a w hb => ⟨w.alloc (.cells #[.bool false, .slice none 0 0] 24), by
    simp only [execOp]
    go_simp, (Below.refl _ _).alloc (Nat.le_refl _) _, fun e he => by
    injection he with he
    subst he
    exact h _ _ ⟨_, rfl, hb.size, NumBox.new _ _ _ _⟩⟩
set_option maxRecDepth 100000 in
theorem wp_store_num {K : Act → World → Prop} {Q : Exit → Act → World → Prop} {a : Act} {w : World} {p v b n c : Nat} {s : Bool} {x : Option Addr} {u0 u1 : Value} (hp : a.eval (.tmp p) = .pointer (some ⟨b, 0, none⟩)) (hv : a.eval (.tmp v) = .agg #[.bool s, .slice x n c]) (hN : NumBox w b u0 u1)
    (h : K a ((w.setCell ⟨b, 0, none⟩ (.bool s)).setCell ⟨b, 1, none⟩ (.slice x n c))) : Oper.wp Tryd.prog ⟨none, .store 24 (.tmp p) (.tmp v), ty, pos, af, g⟩ a w K Q := by
  obtain ⟨c1, c2, f1, f2⟩ := hN
  unfold Oper.wp
  simp only [execOp, hp, hv]
  go_simp
  exact h
theorem wp_assign {K : Act → World → Prop} {Q : Exit → Act → World → Prop} {a : Act} {w : World} {x : Nat} (h : K (a.put (some d) (a.eval (.tmp x))) w) : Oper.wp Tryd.prog ⟨some d, .assign (.tmp x), ty, pos, af, g⟩ a w K Q := h

end

/-- What Div answers, as a value. -/
def IsD (k k' : Nat) (n Zq Zr : Int) (v : Value) (w : World) : Prop := DivAt w (.returned v) k k' n Zq Zr
theorem IsD.grows (k k' : Nat) (n Zq Zr : Int) : Grows (IsD k k' n Zq Zr) := fun _ _ _ h hb => by
  obtain ⟨sq, aq, nq, cq, sr, ar, nr, cr, e, h1, h2, h3, h4⟩ := h
  exact ⟨sq, aq, nq, cq, sr, ar, nr, cr, e, h1.below hb, h2.below hb, h3, h4⟩
theorem ansD {w : World} {e : Ending} {k k' : Nat} {n Zq Zr : Int} {B : Prop} (h : DivAt w e k k' n Zq Zr ∧ B) : (∃ r, e = .returned r ∧ IsD k k' n Zq Zr r w) ∧ B := by
  obtain ⟨⟨sq, aq, nq, cq, sr, ar, nr, cr, rfl, h1, h2, h3, h4⟩, hB⟩ := h
  exact ⟨⟨_, rfl, sq, aq, nq, cq, sr, ar, nr, cr, rfl, h1, h2, h3, h4⟩, hB⟩
theorem IsD.q {k k' : Nat} {n Zq Zr : Int} {v : Value} {w : World} (h : IsD k k' n Zq Zr v w) : ∃ vs u, v = .tuple vs ∧ vs[0]? = some u ∧ IsO k Zq u w := by
  obtain ⟨sq, aq, nq, cq, sr, ar, nr, cr, e, h1, h2, h3, h4⟩ := h
  injection e with e
  exact ⟨_, _, e, rfl, h1⟩
theorem IsD.r {k k' : Nat} {n Zq Zr : Int} {v : Value} {w : World} (h : IsD k k' n Zq Zr v w) : ∃ vs u, v = .tuple vs ∧ vs[1]? = some u ∧ IsO k' Zr u w := by
  obtain ⟨sq, aq, nq, cq, sr, ar, nr, cr, e, h1, h2, h3, h4⟩ := h
  injection e with e
  exact ⟨_, _, e, rfl, h2⟩
theorem IsD.n {k k' : Nat} {n Zq Zr : Int} {v : Value} {w : World} (h : IsD k k' n Zq Zr v w) : ∃ vs u, v = .tuple vs ∧ vs[2]? = some u ∧ IsV (.int .i64 n) u w := by
  obtain ⟨sq, aq, nq, cq, sr, ar, nr, cr, e, h1, h2, h3, h4⟩ := h
  injection e with e
  exact ⟨_, _, e, rfl, rfl⟩

/-- An empty list. -/
def IsE (v : Value) (_ : World) : Prop := ∃ p c, v = .slice p 0 c
theorem IsE.grows : Grows IsE := fun _ _ _ h _ => h
theorem OkAt.empty {w : World} {v : Value} {k : Nat} {Z : Int} (h : OkAt w v k Z) (hz : Z = 0) : ∃ s p n c, v = .agg #[.bool s, .slice p n c] ∧ IsE (.slice p n c) w := by
  obtain ⟨s, x, l, rfl, ⟨a, c, rfl, -⟩, h2, h3, -⟩ := h
  have hl : l = [] := (okB_nil_iff h2).1 (by rw [h3]; exact hz)
  subst hl
  exact ⟨s, a, _, c, rfl, a, c, rfl⟩

theorem cmpI_bd (a b : Int) : -1 ≤ cmpI a b ∧ cmpI a b ≤ 1 := by unfold cmpI; split <;> (try split) <;> omega
theorem cmpI_i64 (a b : Int) : -9223372036854775808 ≤ cmpI a b ∧ cmpI a b ≤ 9223372036854775807 := by have := cmpI_bd a b; omega
theorem cmpI_neg0 (a : Int) : cmpI (-a) 0 = -cmpI a 0 := by unfold cmpI; split <;> split <;> (try split) <;> (try split) <;> omega
theorem cmpI_sub (a b : Int) : cmpI a b = cmpI (a - b) 0 := by unfold cmpI; split <;> split <;> (try split) <;> (try split) <;> omega
theorem cmpI_mul (a b : Int) : cmpI (a * b) 0 = cmpI a 0 * cmpI b 0 := by
  rcases Int.lt_trichotomy a 0 with h | h | h <;> rcases Int.lt_trichotomy b 0 with h' | h' | h'
  · rw [cmpI_lt h, cmpI_lt h', cmpI_gt (Int.mul_pos_of_neg_of_neg h h')]; rfl
  · subst h'; rw [Int.mul_zero, cmpI_eq rfl, Int.mul_zero]
  · rw [cmpI_lt h, cmpI_gt h', cmpI_lt (Int.mul_neg_of_neg_of_pos h h')]; rfl
  · subst h; rw [Int.zero_mul, cmpI_eq rfl, Int.zero_mul]
  · subst h; rw [Int.zero_mul, cmpI_eq rfl, Int.zero_mul]
  · subst h; rw [Int.zero_mul, cmpI_eq rfl, Int.zero_mul]
  · rw [cmpI_gt h, cmpI_lt h', cmpI_lt (Int.mul_neg_of_pos_of_neg h h')]; rfl
  · subst h'; rw [Int.mul_zero, cmpI_eq rfl, Int.mul_zero]
  · rw [cmpI_gt h, cmpI_gt h', cmpI_gt (Int.mul_pos h h')]; rfl
theorem cmpI_zero (a b : Int) : (cmpI a b == 0) = decide (a = b) := by
  rw [Bool.eq_iff_iff, beq_iff_eq, decide_eq_true_iff]
  unfold cmpI
  constructor
  · intro h; split at h
    · omega
    · split at h <;> omega
  · intro h; rw [if_neg (by omega), if_neg (by omega)]
theorem wrap_cmp_neg (a b : Int) : IntKind.i64.wrap (-cmpI a b) = -cmpI a b := IntWalk.i64_in _ (by have := cmpI_bd a b; omega)
theorem wrap_cmp_mul (a b c e : Int) : IntKind.i64.wrap (cmpI a b * cmpI c e) = cmpI a b * cmpI c e := IntWalk.i64_in _ (by
  have h1 := cmpI_bd a b
  have h2 := cmpI_bd c e
  generalize cmpI a b = x at *
  generalize cmpI c e = y at *
  have hx : x = -1 ∨ x = 0 ∨ x = 1 := by omega
  rcases hx with rfl | rfl | rfl <;> omega)

/-- A number is stored into a box. -/
theorem store_box {w W : World} {b n c : Nat} {s : Bool} {x : Option Addr} (h : Below w.heap.size w W) (hb : w.heap.size ≤ b) (hN : NumBox W b (.bool false) (.slice none 0 0)) :
    ∃ W', (W.setCell ⟨b, 0, none⟩ (.bool s)).setCell ⟨b, 1, none⟩ (.slice x n c) = W' ∧ NumBox W' b (.bool s) (.slice x n c) ∧ Below w.heap.size w W' ∧ (∀ u k Z, OkAt W u k Z → OkAt W' u k Z) ∧ (∀ b' y y', b' ≠ b → NumBox W b' y y' → NumBox W' b' y y') := by
  refine ⟨_, rfl, (hN.set0 _).set1 _, (h.setCell (p := ⟨b, 0, none⟩) hb _).setCell (p := ⟨b, 1, none⟩) hb _, fun u k Z ho => ?_, fun b' y y' hne hN' => (hN'.other (p := ⟨b, 0, none⟩) (fun e => hne e.symm) _).other (p := ⟨b, 1, none⟩) (fun e => hne e.symm) _⟩
  obtain ⟨s', v, l, h1, h2, h3, h4, h5⟩ := ho
  exact ⟨s', v, l, h1, (h2.setOther hN.1 (by simp) _).setOther (hN.set0 (.bool s)).2.1 (by simp) _, h3, h4, h5⟩

end Go.Proofs.YtejlhefjphiahaaDoor
