/- Single operations on structs and arrays of numbers, by what is known of their operands. -/
import Derived.Test.YtgpoljbccimkjaaGreatDoorSteps2
import Derived.Test.YtgpoljbccimkjaaGreatDoorRuns
import Derived.Test.YtgpoljbccimkjaaGreatDoorFrac
namespace Go.Proofs.YtgpoljbccimkjaaGreatDoor
set_option linter.unusedSimpArgs false
set_option linter.unusedVariables false
open Go.RowKit Go.Shelf

set_option maxRecDepth 100000
theorem value_run {P : Program} {s : Sem Value} {v : Value} {w w' : World} (h : s.run P w = .ok v w') : ((do pure (Next.value (← s))) : Sem Next).run P w = .ok (.value v) w' := by
  rw [Sem.run_bind, h]
  rfl
theorem unit_run {P : Program} {s : Sem Unit} {w w' : World} (h : s.run P w = .ok () w') : ((do s; pure Next.skip) : Sem Next).run P w = .ok .skip w' := by
  rw [Sem.run_bind, h]
  rfl

/-- Two numbers, one behind the other. -/
def IsOO (k : Nat) (Z : Int) (k' : Nat) (Z' : Int) (v : Value) (w : World) : Prop := ∃ s p n c s' p' n' c', v = .agg #[.bool s, .slice p n c, .bool s', .slice p' n' c'] ∧ OkAt w (.agg #[.bool s, .slice p n c]) k Z ∧ OkAt w (.agg #[.bool s', .slice p' n' c']) k' Z'
/-- A fraction. -/
def IsF (k : Nat) (q : Rat) (v : Value) (w : World) : Prop := FrOk w v k q
def IsG (k : Nat) (q : Rat) (v : Value) (w : World) : Prop := FrAt w v k q
/-- Two fractions, one behind the other. -/
def IsFF (k : Nat) (q : Rat) (k' : Nat) (q' : Rat) (v : Value) (w : World) : Prop := ∃ s p n c s' p' n' c' t r m e t' r' m' e', v = .agg #[.bool s, .slice p n c, .bool s', .slice p' n' c', .bool t, .slice r m e, .bool t', .slice r' m' e'] ∧ FrOk w (.agg #[.bool s, .slice p n c, .bool s', .slice p' n' c']) k q ∧ FrOk w (.agg #[.bool t, .slice r m e, .bool t', .slice r' m' e']) k' q'
/-- A new box. -/
def IsNew (n : Nat) (vs : List Value) (v : Value) (w : World) : Prop := ∃ b, v = .pointer (some ⟨b, 0, none⟩) ∧ n ≤ b ∧ BoxV w b vs ∧ b < w.heap.size
theorem IsOO.grows (k : Nat) (Z : Int) (k' : Nat) (Z' : Int) : Grows (IsOO k Z k' Z') := fun _ _ _ h hb => by
  obtain ⟨s, p, n, c, s', p', n', c', e, h1, h2⟩ := h
  exact ⟨s, p, n, c, s', p', n', c', e, h1.below hb, h2.below hb⟩
theorem IsF.grows (k : Nat) (q : Rat) : Grows (IsF k q) := fun _ _ _ h hb => FrOk.below h hb
theorem IsG.grows (k : Nat) (q : Rat) : Grows (IsG k q) := fun _ _ _ h hb => FrAt.below h hb
theorem IsFF.grows (k : Nat) (q : Rat) (k' : Nat) (q' : Rat) : Grows (IsFF k q k' q') := fun _ _ _ h hb => by
  obtain ⟨s, p, n, c, s', p', n', c', t, r, m, e, t', r', m', e', x, h1, h2⟩ := h
  exact ⟨s, p, n, c, s', p', n', c', t, r, m, e, t', r', m', e', x, h1.below hb, h2.below hb⟩
theorem IsNew.grows (n : Nat) (vs : List Value) : Grows (IsNew n vs) := fun _ _ _ h hb => by
  obtain ⟨b, h1, h2, h3, h4⟩ := h
  refine ⟨b, h1, h2, ?_, Nat.lt_of_lt_of_le h4 hb.size⟩
  cases vs with
  | nil => intro i hi; simp at hi
  | cons v vs => exact h3.below hb
theorem IsNew.lt {n : Nat} {vs : List Value} {v : Value} {w : World} (h : IsNew n vs v w) : ∃ b, v = .pointer (some ⟨b, 0, none⟩) ∧ b < w.heap.size := by
  obtain ⟨b, h1, -, -, h4⟩ := h
  exact ⟨b, h1, h4⟩
theorem OkAt.agg {w : World} {u : Value} {k : Nat} {Z : Int} (h : OkAt w u k Z) : ∃ s p n c, u = .agg #[.bool s, .slice p n c] := by
  obtain ⟨s, a, n, c, e, -⟩ := h.shape
  exact ⟨s, a, n, c, e⟩

section
variable {bs : List (Nat × Bool)} {fs : List (Nat × (Value → World → Prop))} {w0 : World} {d : Nat} {ty : TypeId} {pos : String} {af : Array Edge} {g : Option (Nat × Bool)}

/-- A load, by what it gives. -/
theorem step_loadT {x b o : Nat} {T : TypeId} {u : Value} (hx : ∀ v w, Known bs fs x v w → v = .pointer (some ⟨b, o, none⟩)) (hr : ∀ W, Below w0.heap.size w0 W → (Instr.loadAt T (.pointer (some ⟨b, o, none⟩))).run Tryz.prog W = .ok u W) (h : ∀ w, Below w0.heap.size w0 w → Known bs fs d u w) : StepOk Tryz.prog bs fs w0 ⟨some d, .load T (.tmp x), ty, pos, af, g⟩ :=
  step_value rfl fun a w hb hk => ⟨u, w, by
    have h1 := hx _ _ (hk x (looks1 rfl))
    simp only [execOp, h1]
    exact value_run (hr w hb), h _ hb, Below.refl _ _⟩
/-- The place of a field, or of an element. -/
theorem step_fieldT {x b o b' o' i : Nat} {T : TypeId} (hx : ∀ v w, Known bs fs x v w → v = .pointer (some ⟨b, o, none⟩)) (hr : ∀ W, (Instr.fieldAt T (.pointer (some ⟨b, o, none⟩)) i).run Tryz.prog W = .ok (.pointer (some ⟨b', o', none⟩)) W) (h : ∀ w, Known bs fs d (.pointer (some ⟨b', o', none⟩)) w) : StepOk Tryz.prog bs fs w0 ⟨some d, .fieldAddr T (.tmp x) i, ty, pos, af, g⟩ :=
  step_value rfl fun a w hb hk => ⟨_, w, by
    have h1 := hx _ _ (hk x (looks1 rfl))
    simp only [execOp, h1]
    exact value_run (hr w), h _, Below.refl _ _⟩
theorem step_indexT {x b o b' o' : Nat} {i : Int} {T : TypeId} (hx : ∀ v w, Known bs fs x v w → v = .pointer (some ⟨b, o, none⟩)) (hr : ∀ W, (Instr.indexAt T (.pointer (some ⟨b, o, none⟩)) (.int .i64 i)).run Tryz.prog W = .ok (.pointer (some ⟨b', o', none⟩)) W) (h : ∀ w, Known bs fs d (.pointer (some ⟨b', o', none⟩)) w) : StepOk Tryz.prog bs fs w0 ⟨some d, .indexAddr T (.tmp x) (.const (.int .i64 i)), ty, pos, af, g⟩ :=
  step_value rfl fun a w hb hk => ⟨_, w, by
    have h1 := hx _ _ (hk x (by simp [looks, Op.operands]))
    have h2 : a.eval (.const (.int .i64 i)) = .int .i64 i := rfl
    simp only [execOp, h1, h2]
    exact value_run (hr w), h _, Below.refl _ _⟩
/-- A struct, or an array, of two numbers. -/
theorem step_join {x y k k' : Nat} {Z Z' : Int} {T : TypeId} (hT : ∀ (s s' : Bool) (p p' : Option Addr) (n c n' c' : Nat) (W : World), (Instr.build T #[(0, .agg #[.bool s, .slice p n c]), (1, .agg #[.bool s', .slice p' n' c'])]).run Tryz.prog W = .ok (.agg #[.bool s, .slice p n c, .bool s', .slice p' n' c']) W) (hx : ∀ v w, Known bs fs x v w → IsO k Z v w) (hy : ∀ v w, Known bs fs y v w → IsO k' Z' v w) (h : ∀ v w, IsOO k Z k' Z' v w → Known bs fs d v w) : StepOk Tryz.prog bs fs w0 ⟨some d, .build T #[(0, .tmp x), (1, .tmp y)], ty, pos, af, g⟩ :=
  step_value rfl fun a w hb hk => by
    have h1 : OkAt w (a.eval (.tmp x)) k Z := hx _ _ (hk x (by simp [looks, Op.operands]))
    have h2 : OkAt w (a.eval (.tmp y)) k' Z' := hy _ _ (hk y (by simp [looks, Op.operands]))
    obtain ⟨s, p, n, c, e1⟩ := h1.agg
    obtain ⟨s', p', n', c', e2⟩ := h2.agg
    refine ⟨_, w, ?_, h _ _ ⟨s, p, n, c, s', p', n', c', rfl, by rw [← e1]; exact h1, by rw [← e2]; exact h2⟩, Below.refl _ _⟩
    simp only [execOp, List.map_toArray, List.map_cons, List.map_nil, e1, e2]
    exact value_run (hT s s' p p' n c n' c' w)
theorem step_joinF {x y k k' : Nat} {q q' : Rat} (hx : ∀ v w, Known bs fs x v w → IsF k q v w) (hy : ∀ v w, Known bs fs y v w → IsF k' q' v w) (h : ∀ v w, IsFF k q k' q' v w → Known bs fs d v w) : StepOk Tryz.prog bs fs w0 ⟨some d, .build 214 #[(0, .tmp x), (1, .tmp y)], ty, pos, af, g⟩ :=
  step_value rfl fun a w hb hk => by
    have h1 : FrOk w (a.eval (.tmp x)) k q := hx _ _ (hk x (by simp [looks, Op.operands]))
    have h2 : FrOk w (a.eval (.tmp y)) k' q' := hy _ _ (hk y (by simp [looks, Op.operands]))
    obtain ⟨s, p, n, c, s', p', n', c', e1, -⟩ := h1.split
    obtain ⟨t, r, m, e, t', r', m', e', e2, -⟩ := h2.split
    refine ⟨_, w, ?_, h _ _ ⟨s, p, n, c, s', p', n', c', t, r, m, e, t', r', m', e', rfl, by rw [← e1]; exact h1, by rw [← e2]; exact h2⟩, Below.refl _ _⟩
    simp only [execOp, List.map_toArray, List.map_cons, List.map_nil, e1, e2]
    exact value_run run_build4
theorem step_call3 {f : FuncId} (hp : Plain f) {x y z : Nat} {ts : Array TypeId} (h : ∀ u v t w, Below w0.heap.size w0 w → Known bs fs x u w → Known bs fs y v w → Known bs fs z t w → Calls Tryz.prog f #[u, v, t] w fun e w' => (∃ r, e = .returned r ∧ Known bs fs d r w') ∧ Below w.heap.size w w') : StepOk Tryz.prog bs fs w0 ⟨some d, .call { callee := .value (.func f), args := #[.tmp x, .tmp y, .tmp z], argTypes := ts }, ty, pos, af, g⟩ :=
  step_enter rfl (fun a => #[a.eval (.tmp x), a.eval (.tmp y), a.eval (.tmp z)]) (fun a w => by rw [exec_call hp a]; simp) fun a w hb hk => h _ _ _ w hb (hk x (by simp [looks, Op.operands, Call.operands])) (hk y (by simp [looks, Op.operands, Call.operands])) (hk z (by simp [looks, Op.operands, Call.operands]))
/-- A function that lies in a slot is called. -/
theorem step_value3 {f : FuncId} {cap : Array Value} (hp : Plain f) {s x y z : Nat} {ts : Array TypeId} (hs : ∀ v w, Known bs fs s v w → v = .func (.func f) #[] cap) (h : ∀ u v t w, Below w0.heap.size w0 w → Known bs fs x u w → Known bs fs y v w → Known bs fs z t w → Calls Tryz.prog f (#[u, v, t] ++ cap) w fun e w' => (∃ r, e = .returned r ∧ Known bs fs d r w') ∧ Below w.heap.size w w') : StepOk Tryz.prog bs fs w0 ⟨some d, .call { callee := .value (.tmp s), args := #[.tmp x, .tmp y, .tmp z], argTypes := ts }, ty, pos, af, g⟩ := by
  intro Q a w hb hk
  have h1 := hs _ _ (hk s (by simp [looks, Op.operands, Call.operands]))
  have h2 := h _ _ _ w hb (hk x (by simp [looks, Op.operands, Call.operands])) (hk y (by simp [looks, Op.operands, Call.operands])) (hk z (by simp [looks, Op.operands, Call.operands]))
  have he : (execOp a.eval ⟨some d, .call { callee := .value (.tmp s), args := #[.tmp x, .tmp y, .tmp z], argTypes := ts }, ty, pos, af, g⟩).run Tryz.prog w = .ok (.enter f (#[a.eval (.tmp x), a.eval (.tmp y), a.eval (.tmp z)] ++ cap)) w := by
    have h3 : resolve a.eval { callee := .value (.tmp s), args := #[.tmp x, .tmp y, .tmp z], argTypes := ts } ty = Deferred.ofValue (a.eval (.tmp s)) #[a.eval (.tmp x), a.eval (.tmp y), a.eval (.tmp z)] := by simp [resolve]
    simp only [execOp, h3, h1]
    simp [go_sem, Deferred.ofValue, invoke, hp _ _]
  unfold Oper.wp
  rw [he, Oper.upon_enter]
  refine h2.mono ?_
  rintro e w' ⟨⟨r, rfl, h4⟩, h5⟩
  refine ⟨r, rfl, fun e he => ?_, h5⟩
  injection he with he
  subst he
  exact h4
/-- New boxes. -/
theorem alloc_T {T T' : TypeId} {vs : List Value} (hr : ∀ W : World, (Instr.alloc T true (.tuple #[])).run Tryz.prog W = .ok (.pointer (some ⟨W.heap.size, 0, none⟩)) (W.alloc (.cells vs.toArray T'))) (h : ∀ v w, IsNew w0.heap.size vs v w → Known bs fs d v w) : AllocOk Tryz.prog bs fs w0 ⟨some d, .alloc T, ty, pos, af, g⟩ :=
  fun a w hb => ⟨w.alloc (.cells vs.toArray T'), by
    simp only [execOp]
    exact value_run (hr w), (Below.refl _ _).alloc (Nat.le_refl _) _, fun e he => by
    injection he with he
    subst he
    exact h _ _ ⟨_, rfl, hb.size, BoxV.new _ _ _, by simp⟩⟩
theorem step_allocT {T T' : TypeId} {vs : List Value} (hr : ∀ W : World, (Instr.alloc T true (.tuple #[])).run Tryz.prog W = .ok (.pointer (some ⟨W.heap.size, 0, none⟩)) (W.alloc (.cells vs.toArray T'))) (h : ∀ v w, IsNew w0.heap.size vs v w → Known bs fs d v w) : StepOk Tryz.prog bs fs w0 ⟨some d, .alloc T, ty, pos, af, g⟩ :=
  step_value rfl fun a w hb hk => ⟨_, w.alloc (.cells vs.toArray T'), by
    simp only [execOp]
    exact value_run (hr w), h _ _ ⟨_, rfl, hb.size, BoxV.new _ _ _, by simp⟩, (Below.refl _ _).alloc (Nat.le_refl _) _⟩
theorem wp_store_T {K : Act → World → Prop} {Q : Exit → Act → World → Prop} {a : Act} {w w' : World} {p v b : Nat} {u : Value} {T : TypeId} (hp : a.eval (.tmp p) = .pointer (some ⟨b, 0, none⟩)) (hv : a.eval (.tmp v) = u) (hr : (Instr.storeAt T (.pointer (some ⟨b, 0, none⟩)) u).run Tryz.prog w = .ok () w')
    (h : K a w') : Oper.wp Tryz.prog ⟨none, .store T (.tmp p) (.tmp v), ty, pos, af, g⟩ a w K Q := by
  unfold Oper.wp
  have : (execOp a.eval ⟨none, .store T (.tmp p) (.tmp v), ty, pos, af, g⟩).run Tryz.prog w = .ok .skip w' := by
    simp only [execOp, hp, hv]
    exact unit_run hr
  rw [this]
  exact h
end

theorem ansO {w : World} {e : Ending} {k : Nat} {Z : Int} {B : Prop} (h : AnsAt w e k Z ∧ B) : (∃ r, e = .returned r ∧ IsO k Z r w) ∧ B := h
theorem ansF {w : World} {e : Ending} {k : Nat} {q : Rat} {B : Prop} (h : FrAns w e k q ∧ B) : (∃ r, e = .returned r ∧ IsF k q r w) ∧ B := h

/-- The end of a call that answers what lies in a box. -/
theorem ret_fr {fn : Func} {R : Ending → World → Prop} {a : Act} {w : World} {t b : Nat} {s s' : Bool} {p p' : Option Addr} {n c n' c' : Nat} (hr : fn.results = #[.cell t 58]) (hd : a.defers = []) (h : a.eval (.tmp t) = .pointer (some ⟨b, 0, none⟩)) (hb : BoxV w b [.bool s, .slice p n c, .bool s', .slice p' n' c'])
    (hR : R (.returned (.agg #[.bool s, .slice p n c, .bool s', .slice p' n' c'])) w) : bodyPost Tryz.prog fn R .ret a w := by
  have h1 : a.tmps[t]?.getD undef = .pointer (some ⟨b, 0, none⟩) := by rw [← Array.getD_eq_getD_getElem?]; exact h
  obtain ⟨c0, c1, c2, c3⟩ := hb.c4
  refine bodyPost_ret (v := .agg #[.bool s, .slice p n c, .bool s', .slice p' n' c']) ?_ hd hR
  simp [results, hr, go_sem, h1, c0, c1, c2, c3]

end Go.Proofs.YtgpoljbccimkjaaGreatDoor
