/- Single operations by what is known of their operands: all that is known is which values they are. -/
import Derived.Test.YtikbjjechhdclaaFacts3
import Derived.Test.YtikbjjechhdclaaMFirst
import Derived.ChangeKeysEq
namespace Go.Proofs.Ytikbjjechhdclaa
open Go.RowKit

section
variable {bs : List (Nat × Bool)} {fs : List (Nat × (Value → World → Prop))} {w0 : World} {d : Nat} {ty : TypeId} {pos : String} {af : Array Edge} {g : Option (Nat × Bool)}

theorem looks1 {x : Nat} {o : Oper} (h : o.op.operands.toList = [.tmp x]) : x ∈ looks o := by unfold looks; rw [h]; simp
theorem step_value {o : Oper} (hd : o.dst = some d) (h : ∀ (a : Act) (w : World), Below w0.heap.size w0 w → (∀ t, t ∈ looks o → Known bs fs t (a.eval (.tmp t)) w) → ∃ v w', (execOp a.eval o).run Try.prog w = .ok (.value v) w' ∧ Known bs fs d v w' ∧ Below w.heap.size w w') : StepOk Try.prog bs fs w0 o := by
  intro Q a w hb hk
  obtain ⟨v, w', h1, h2, h3⟩ := h a w hb hk
  unfold Oper.wp
  rw [h1]
  refine ⟨v, rfl, fun e he => ?_, h3⟩
  rw [hd] at he
  injection he with he
  subst he
  exact h2
theorem step_enter {o : Oper} (hd : o.dst = some d) {f : FuncId} (args : Act → Array Value) (he : ∀ (a : Act) (w : World), (execOp a.eval o).run Try.prog w = .ok (.enter f (args a)) w) (h : ∀ (a : Act) (w : World), Below w0.heap.size w0 w → (∀ t, t ∈ looks o → Known bs fs t (a.eval (.tmp t)) w) → Calls Try.prog f (args a) w fun e w' => (∃ r, e = .returned r ∧ Known bs fs d r w') ∧ Below w.heap.size w w') : StepOk Try.prog bs fs w0 o := by
  intro Q a w hb hk
  unfold Oper.wp
  rw [he, Oper.upon_enter]
  refine (h a w hb hk).mono ?_
  rintro e w' ⟨⟨r, rfl, h2⟩, h3⟩
  refine ⟨r, rfl, fun e he => ?_, h3⟩
  rw [hd] at he
  injection he with he
  subst he
  exact h2
theorem step_move {x : Nat} (h : ∀ v w, Known bs fs x v w → Known bs fs d v w) : StepOk Try.prog bs fs w0 ⟨some d, .move (.tmp x), ty, pos, af, g⟩ :=
  step_value rfl fun _ w _ hk => ⟨_, w, rfl, h _ _ (hk x (looks1 rfl)), Below.refl _ _⟩
theorem step_assign {x : Nat} (h : ∀ v w, Known bs fs x v w → Known bs fs d v w) : StepOk Try.prog bs fs w0 ⟨some d, .assign (.tmp x), ty, pos, af, g⟩ :=
  step_value rfl fun _ w _ hk => ⟨_, w, rfl, h _ _ (hk x (looks1 rfl)), Below.refl _ _⟩
theorem step_pickT {c x : Nat} {y : Operand} (hc : ∀ v w, Known bs fs c v w → v = .bool true) (h : ∀ v w, Known bs fs x v w → Known bs fs d v w) : StepOk Try.prog bs fs w0 ⟨some d, .pick (.tmp c) (.tmp x) y, ty, pos, af, g⟩ :=
  step_value rfl fun a w hb hk => ⟨a.eval (.tmp x), w, by
    have h1 := hc _ _ (hk c (by unfold looks; cases y <;> simp [Op.operands]))
    simp [execOp, h1, asBool], h _ _ (hk x (by unfold looks; cases y <;> simp [Op.operands])), Below.refl _ _⟩
theorem step_pickF {c : Nat} {y : Operand} {x : Nat} (hc : ∀ v w, Known bs fs c v w → v = .bool false) (h : ∀ v w, Known bs fs x v w → Known bs fs d v w) : StepOk Try.prog bs fs w0 ⟨some d, .pick (.tmp c) y (.tmp x), ty, pos, af, g⟩ :=
  step_value rfl fun a w hb hk => ⟨a.eval (.tmp x), w, by
    have h1 := hc _ _ (hk c (by unfold looks; cases y <;> simp [Op.operands]))
    simp [execOp, h1, asBool], h _ _ (hk x (by unfold looks; cases y <;> simp [Op.operands])), Below.refl _ _⟩
theorem step_not {t : TypeId} {x : Nat} (b : Bool) (hx : ∀ v w, Known bs fs x v w → v = .bool b) (h : ∀ w, Known bs fs d (.bool (!b)) w) : StepOk Try.prog bs fs w0 ⟨some d, .unOp .not t (.tmp x), ty, pos, af, g⟩ :=
  step_value rfl fun a w hb hk => ⟨.bool (!b), w, by
    have h1 := hx _ _ (hk x (looks1 rfl))
    simp [execOp, h1, Op.unary], h _, Below.refl _ _⟩

/-- A function of the program that has a body. -/
def Plain (f : FuncId) : Prop := ∀ (args : Array Value) (w : World), (callFunc f args).run Try.prog w = .ok (.enter f args) w
theorem Plain.of {f : FuncId} {fn : Func} {c : Code} (hf : Try.prog.funcs[f]? = some fn) (hname : (fn.name == "runtime.NumGoroutine") = false) (hb : fn.body = some c) : Plain f := by
  intro args w
  have h1 : fn.name ≠ "runtime.NumGoroutine" := by simpa using hname
  simp [callFunc, hf, h1, hb]
theorem exec_call {f : FuncId} (hp : Plain f) (a : Act) (args : Array Operand) (ts : Array TypeId) (w : World) : (execOp a.eval ⟨some d, .call { callee := .value (.func f), args := args, argTypes := ts }, ty, pos, af, g⟩).run Try.prog w = .ok (.enter f (args.map a.eval)) w := by
  have h1 : resolve a.eval { callee := .value (.func f), args := args, argTypes := ts } ty = Deferred.ofValue (a.eval (.func f)) (args.map a.eval) := rfl
  simp only [execOp, h1, Act.eval]
  simp [go_sem, Deferred.ofValue, invoke, hp _ _]

set_option maxRecDepth 100000 in
theorem step_call0 {f : FuncId} (hp : Plain f) {ts : Array TypeId} {r : Value} (h : ∀ w, Calls Try.prog f #[] w fun e w' => e = .returned r ∧ Below w.heap.size w w') (hd : ∀ w, Known bs fs d r w) : StepOk Try.prog bs fs w0 ⟨some d, .call { callee := .value (.func f), args := #[], argTypes := ts }, ty, pos, af, g⟩ :=
  step_enter (f := f) rfl (fun a => #[]) (fun a w => by rw [exec_call hp a]; simp) fun a w hb hk => (h w).mono fun _ w' h => ⟨⟨r, h.1, hd w'⟩, h.2⟩
set_option maxRecDepth 100000 in
theorem step_call1 {f : FuncId} (hp : Plain f) {x : Nat} {ts : Array TypeId} {u r : Value} (hx : ∀ v w, Known bs fs x v w → v = u) (h : ∀ w, Calls Try.prog f #[u] w fun e w' => e = .returned r ∧ Below w.heap.size w w') (hd : ∀ w, Known bs fs d r w) : StepOk Try.prog bs fs w0 ⟨some d, .call { callee := .value (.func f), args := #[.tmp x], argTypes := ts }, ty, pos, af, g⟩ :=
  step_enter (f := f) rfl (fun a => #[a.eval (.tmp x)]) (fun a w => by rw [exec_call hp a]; simp) fun a w hb hk => by
    rw [hx _ _ (hk x (by simp [looks, Op.operands, Call.operands]))]
    exact (h w).mono fun _ w' h => ⟨⟨r, h.1, hd w'⟩, h.2⟩
set_option maxRecDepth 100000 in
theorem step_call2 {f : FuncId} (hp : Plain f) {x y : Nat} {ts : Array TypeId} {u v r : Value} (hx : ∀ v w, Known bs fs x v w → v = u) (hy : ∀ t w, Known bs fs y t w → t = v) (h : ∀ w, Calls Try.prog f #[u, v] w fun e w' => e = .returned r ∧ Below w.heap.size w w') (hd : ∀ w, Known bs fs d r w) : StepOk Try.prog bs fs w0 ⟨some d, .call { callee := .value (.func f), args := #[.tmp x, .tmp y], argTypes := ts }, ty, pos, af, g⟩ :=
  step_enter (f := f) rfl (fun a => #[a.eval (.tmp x), a.eval (.tmp y)]) (fun a w => by rw [exec_call hp a]; simp) fun a w hb hk => by
    rw [hx _ _ (hk x (by simp [looks, Op.operands, Call.operands])), hy _ _ (hk y (by simp [looks, Op.operands, Call.operands]))]
    exact (h w).mono fun _ w' h => ⟨⟨r, h.1, hd w'⟩, h.2⟩
set_option maxRecDepth 100000 in
theorem step_call3 {f : FuncId} (hp : Plain f) {z x y : Nat} {ts : Array TypeId} {t u v r : Value} (hz : ∀ v w, Known bs fs z v w → v = t) (hx : ∀ v w, Known bs fs x v w → v = u) (hy : ∀ t w, Known bs fs y t w → t = v) (h : ∀ w, Calls Try.prog f #[t, u, v] w fun e w' => e = .returned r ∧ Below w.heap.size w w') (hd : ∀ w, Known bs fs d r w) : StepOk Try.prog bs fs w0 ⟨some d, .call { callee := .value (.func f), args := #[.tmp z, .tmp x, .tmp y], argTypes := ts }, ty, pos, af, g⟩ :=
  step_enter (f := f) rfl (fun a => #[a.eval (.tmp z), a.eval (.tmp x), a.eval (.tmp y)]) (fun a w => by rw [exec_call hp a]; simp) fun a w hb hk => by
    rw [hz _ _ (hk z (by simp [looks, Op.operands, Call.operands])), hx _ _ (hk x (by simp [looks, Op.operands, Call.operands])), hy _ _ (hk y (by simp [looks, Op.operands, Call.operands]))]
    exact (h w).mono fun _ w' h => ⟨⟨r, h.1, hd w'⟩, h.2⟩
set_option maxRecDepth 100000 in
theorem step_callk {f : FuncId} (hp : Plain f) {k : Value} {x y : Nat} {ts : Array TypeId} {u v r : Value} (hx : ∀ v w, Known bs fs x v w → v = u) (hy : ∀ t w, Known bs fs y t w → t = v) (h : ∀ w, Calls Try.prog f #[k, u, v] w fun e w' => e = .returned r ∧ Below w.heap.size w w') (hd : ∀ w, Known bs fs d r w) : StepOk Try.prog bs fs w0 ⟨some d, .call { callee := .value (.func f), args := #[.const k, .tmp x, .tmp y], argTypes := ts }, ty, pos, af, g⟩ :=
  step_enter (f := f) rfl (fun a => #[k, a.eval (.tmp x), a.eval (.tmp y)]) (fun a w => by rw [exec_call hp a]; simp [Act.eval]) fun a w hb hk => by
    rw [hx _ _ (hk x (by simp [looks, Op.operands, Call.operands])), hy _ _ (hk y (by simp [looks, Op.operands, Call.operands]))]
    exact (h w).mono fun _ w' h => ⟨⟨r, h.1, hd w'⟩, h.2⟩

theorem step_loadM {x b o : Nat} {m : M4} (hx : ∀ v w, Known bs fs x v w → v = .pointer (some ⟨b, o, none⟩)) (hN : ∀ W, Below w0.heap.size w0 W → W.cell? ⟨b, o, none⟩ = some (.int .u16 m.a) ∧ W.cell? ⟨b, o + 1, none⟩ = some (.int .u16 m.b) ∧ W.cell? ⟨b, o + 2, none⟩ = some (.int .u16 m.c) ∧ W.cell? ⟨b, o + 3, none⟩ = some (.int .u16 m.d)) (h : ∀ w, Known bs fs d (mv m) w) : StepOk Try.prog bs fs w0 ⟨some d, .load 24 (.tmp x), ty, pos, af, g⟩ :=
  step_value rfl fun a w hb hk => ⟨mv m, w, by
    have h1 := hx _ _ (hk x (looks1 rfl))
    obtain ⟨c0, c1, c2, c3⟩ := hN w hb
    simp only [execOp, h1]
    unfold mv
    go_simp, h _, Below.refl _ _⟩

/-- Both are one. -/
def eqM (m n : M4) : Bool := (m.a == n.a) && (m.b == n.b) && (m.c == n.c) && (m.d == n.d)
theorem eqM_iff {m n : M4} : eqM m n = true ↔ m = n := by
  unfold eqM
  constructor
  · intro h
    simp only [Bool.and_eq_true, beq_iff_eq] at h
    exact M4.ext' h.1.1.1 h.1.1.2 h.1.2 h.2
  · rintro rfl
    simp
theorem run_eq_u16 (d : Nat) (x y : Int) (W : World) : (Op.equalIn (d + 1) 22 (.int .u16 x) (.int .u16 y)).run Try.prog W = .ok (x == y) W := by
  have hu : Try.prog.underlying 22 = some (.int .u16) := by kernel_rfl
  simp [Op.equalIn, run_underlying hu]
set_option maxRecDepth 100000 in
set_option maxHeartbeats 400000 in
theorem run_eqM (m n : M4) (w : World) : (Op.equalIn 10000 24 (mv m) (mv n)).run Try.prog w = .ok (eqM m n) w := by
  have hu : Try.prog.underlying 22 = some (.int .u16) := by kernel_rfl
  obtain ⟨i, hi⟩ : ∃ i, Try.prog.info? 22 = some i := Option.isSome_iff_exists.1 (by kernel_rfl)
  have hc : Try.prog.cellsOf 22 = 1 := by kernel_rfl
  have he : Try.prog.plainKey 22 = true := by kernel_rfl
  have hu2 : Try.prog.underlying 24 = some (.array 4 22) := by kernel_rfl
  have e1 : ∀ (x y : Nat) (W : World), (Op.equalIn 9999 22 (.int .u16 x) (.int .u16 y)).run Try.prog W = .ok (x == y) W := by
    intro x y W
    have e2 : ((x : Int) == (y : Int)) = (x == y) := by rw [Bool.eq_iff_iff, beq_iff_eq, beq_iff_eq]; omega
    rw [← e2]
    exact run_eq_u16 9998 _ _ W
  have h := run_equalIn_array (P := Try.prog) w 9999 #[.int .u16 m.a, .int .u16 m.b, .int .u16 m.c, .int .u16 m.d] #[.int .u16 n.a, .int .u16 n.b, .int .u16 n.c, .int .u16 n.d] hu2 hi
  rw [hc] at h
  refine h.trans ?_
  have p : ∀ (xs : Array Value) (off : Nat) (v : Value) (W : World), xs[off]? = some v → (part 22 xs off).run Try.prog W = .ok v W := fun xs off v W hx => run_part_plain W he hx
  simp only [show List.range 4 = [0, 1, 2, 3] from rfl, Op.eqItems, Sem.run_bind]
  unfold eqM
  rw [p _ _ (.int .u16 m.a) w rfl, Result.andThen_ok, p _ _ (.int .u16 n.a) w rfl, Result.andThen_ok, e1, Result.andThen_ok]
  cases h1 : (m.a == n.a)
  · simp
  simp only [Bool.not_true, Bool.false_eq_true, if_false, Sem.run_bind]
  rw [p _ _ (.int .u16 m.b) w rfl, Result.andThen_ok, p _ _ (.int .u16 n.b) w rfl, Result.andThen_ok, e1, Result.andThen_ok]
  cases h2 : (m.b == n.b)
  · simp
  simp only [Bool.not_true, Bool.false_eq_true, if_false, Sem.run_bind]
  rw [p _ _ (.int .u16 m.c) w rfl, Result.andThen_ok, p _ _ (.int .u16 n.c) w rfl, Result.andThen_ok, e1, Result.andThen_ok]
  cases h3 : (m.c == n.c)
  · simp
  simp only [Bool.not_true, Bool.false_eq_true, if_false, Sem.run_bind]
  rw [p _ _ (.int .u16 m.d) w rfl, Result.andThen_ok, p _ _ (.int .u16 n.d) w rfl, Result.andThen_ok, e1, Result.andThen_ok]
  cases h4 : (m.d == n.d) <;> simp
theorem step_eqM {x y : Nat} {t' : TypeId} {m n : M4} {b : Bool} (hx : ∀ v w, Known bs fs x v w → v = mv m) (hy : ∀ v w, Known bs fs y v w → v = mv n) (hb' : eqM m n = b) (h : ∀ w, Known bs fs d (.bool b) w) : StepOk Try.prog bs fs w0 ⟨some d, .binOp .eql 24 (.tmp x) (.tmp y) t', ty, pos, af, g⟩ :=
  step_value rfl fun a w hb hk => ⟨.bool b, w, by
    have h1 := hx _ _ (hk x (by simp [looks, Op.operands]))
    have h2 := hy _ _ (hk y (by simp [looks, Op.operands]))
    have h3 := run_eqM m n w
    simp only [execOp, h1, h2, ← hb']
    clear h1 h2
    unfold mv at h3 ⊢
    go_simp, h _, Below.refl _ _⟩
theorem step_moveB {x : Nat} {b : Bool} (hx : ∀ v w, Known bs fs x v w → v = .bool b) (h : ∀ w, Known bs fs d (.bool b) w) : StepOk Try.prog bs fs w0 ⟨some d, .move (.tmp x), ty, pos, af, g⟩ :=
  step_value rfl fun a w hb hk => ⟨_, w, rfl, by rw [hx _ _ (hk x (looks1 rfl))]; exact h _, Below.refl _ _⟩
theorem step_pickN {c x : Nat} (hc : ∀ v w, Known bs fs c v w → v = .bool false) (h : ∀ w, Known bs fs d (.bool false) w) : StepOk Try.prog bs fs w0 ⟨some d, .pick (.tmp c) (.tmp x) (.const (.bool false)), ty, pos, af, g⟩ :=
  step_value rfl fun a w hb hk => ⟨.bool false, w, by
    have h1 := hc _ _ (hk c (by unfold looks; simp [Op.operands]))
    have h2 : a.eval (.const (.bool false)) = .bool false := rfl
    simp [execOp, h1, h2, asBool], h _, Below.refl _ _⟩
theorem step_pickY {c x : Nat} (hc : ∀ v w, Known bs fs c v w → v = .bool true) (h : ∀ w, Known bs fs d (.bool true) w) : StepOk Try.prog bs fs w0 ⟨some d, .pick (.tmp c) (.const (.bool true)) (.tmp x), ty, pos, af, g⟩ :=
  step_value rfl fun a w hb hk => ⟨.bool true, w, by
    have h1 := hc _ _ (hk c (by unfold looks; simp [Op.operands]))
    have h2 : a.eval (.const (.bool true)) = .bool true := rfl
    simp [execOp, h1, h2, asBool], h _, Below.refl _ _⟩
end

/-! ### What is known -/
def IsV (c : Value) (v : Value) (_ : World) : Prop := v = c
theorem IsV.grows (c : Value) : Grows (IsV c) := fun _ _ _ h _ => h

end Go.Proofs.Ytikbjjechhdclaa
