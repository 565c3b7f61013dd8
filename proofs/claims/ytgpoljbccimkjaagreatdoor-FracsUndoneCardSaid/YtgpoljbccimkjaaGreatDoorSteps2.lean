/- More single operations by what is known of their operands. -/
import Derived.Test.YtgpoljbccimkjaaGreatDoorFacts4
import Derived.Test.YtgpoljbccimkjaaGreatDoorNum
import Derived.Test.YtgpoljbccimkjaaGreatDoorFrac
namespace Go.Proofs.YtgpoljbccimkjaaGreatDoor
set_option linter.unusedSimpArgs false
set_option linter.unusedVariables false
open Go.RowKit Go.Shelf

section
variable {bs : List (Nat × Bool)} {fs : List (Nat × (Value → World → Prop))} {w0 : World} {d : Nat} {ty : TypeId} {pos : String} {af : Array Edge} {g : Option (Nat × Bool)}

theorem looks1 {x : Nat} {o : Oper} (h : o.op.operands.toList = [.tmp x]) : x ∈ looks o := by unfold looks; rw [h]; simp
theorem step_value {o : Oper} (hd : o.dst = some d) (h : ∀ (a : Act) (w : World), Below w0.heap.size w0 w → (∀ t, t ∈ looks o → Known bs fs t (a.eval (.tmp t)) w) → ∃ v w', (execOp a.eval o).run Tryz.prog w = .ok (.value v) w' ∧ Known bs fs d v w' ∧ Below w.heap.size w w') : StepOk Tryz.prog bs fs w0 o := by
  intro Q a w hb hk
  obtain ⟨v, w', h1, h2, h3⟩ := h a w hb hk
  unfold Oper.wp
  rw [h1]
  refine ⟨v, rfl, fun e he => ?_, h3⟩
  rw [hd] at he
  injection he with he
  subst he
  exact h2
theorem step_enter {o : Oper} (hd : o.dst = some d) {f : FuncId} (args : Act → Array Value) (he : ∀ (a : Act) (w : World), (execOp a.eval o).run Tryz.prog w = .ok (.enter f (args a)) w) (h : ∀ (a : Act) (w : World), Below w0.heap.size w0 w → (∀ t, t ∈ looks o → Known bs fs t (a.eval (.tmp t)) w) → Calls Tryz.prog f (args a) w fun e w' => (∃ r, e = .returned r ∧ Known bs fs d r w') ∧ Below w.heap.size w w') : StepOk Tryz.prog bs fs w0 o := by
  intro Q a w hb hk
  unfold Oper.wp
  rw [he, Oper.upon_enter]
  refine (h a w hb hk).mono ?_
  rintro e w' ⟨⟨r, rfl, h2⟩, h3⟩
  refine ⟨r, rfl, fun e he => ?_, h3⟩
  rw [hd] at he
  injection he with he
  subst he
  exact h2

theorem step_move {x : Nat} (h : ∀ v w, Known bs fs x v w → Known bs fs d v w) : StepOk Tryz.prog bs fs w0 ⟨some d, .move (.tmp x), ty, pos, af, g⟩ :=
  step_value rfl fun a w hb hk => ⟨_, w, rfl, h _ _ (hk x (looks1 rfl)), Below.refl _ _⟩
theorem step_assign {x : Nat} (h : ∀ v w, Known bs fs x v w → Known bs fs d v w) : StepOk Tryz.prog bs fs w0 ⟨some d, .assign (.tmp x), ty, pos, af, g⟩ :=
  step_value rfl fun a w hb hk => ⟨_, w, rfl, h _ _ (hk x (looks1 rfl)), Below.refl _ _⟩
theorem step_pickT {c x : Nat} {y : Operand} (hc : ∀ v w, Known bs fs c v w → v = .bool true) (h : ∀ v w, Known bs fs x v w → Known bs fs d v w) : StepOk Tryz.prog bs fs w0 ⟨some d, .pick (.tmp c) (.tmp x) y, ty, pos, af, g⟩ :=
  step_value rfl fun a w hb hk => ⟨a.eval (.tmp x), w, by
    have h1 := hc _ _ (hk c (by unfold looks; cases y <;> simp [Op.operands]))
    simp [execOp, h1, asBool], h _ _ (hk x (by unfold looks; cases y <;> simp [Op.operands])), Below.refl _ _⟩
theorem step_pickF {c : Nat} {y : Operand} {x : Nat} (hc : ∀ v w, Known bs fs c v w → v = .bool false) (h : ∀ v w, Known bs fs x v w → Known bs fs d v w) : StepOk Tryz.prog bs fs w0 ⟨some d, .pick (.tmp c) y (.tmp x), ty, pos, af, g⟩ :=
  step_value rfl fun a w hb hk => ⟨a.eval (.tmp x), w, by
    have h1 := hc _ _ (hk c (by unfold looks; cases y <;> simp [Op.operands]))
    simp [execOp, h1, asBool], h _ _ (hk x (by unfold looks; cases y <;> simp [Op.operands])), Below.refl _ _⟩
theorem step_not {t : TypeId} {x : Nat} (b : Bool) (hx : ∀ v w, Known bs fs x v w → v = .bool b) (h : ∀ w, Known bs fs d (.bool (!b)) w) : StepOk Tryz.prog bs fs w0 ⟨some d, .unOp .not t (.tmp x), ty, pos, af, g⟩ :=
  step_value rfl fun a w hb hk => ⟨.bool (!b), w, by
    have h1 := hx _ _ (hk x (looks1 rfl))
    simp [execOp, h1, Op.unary], h _, Below.refl _ _⟩
theorem step_load {x b n c : Nat} {s : Bool} {p : Option Addr} (hx : ∀ v w, Known bs fs x v w → v = .pointer (some ⟨b, 0, none⟩)) (hN : ∀ W, Below w0.heap.size w0 W → NumBox W b (.bool s) (.slice p n c)) (h : ∀ w, Below w0.heap.size w0 w → Known bs fs d (.agg #[.bool s, .slice p n c]) w) : StepOk Tryz.prog bs fs w0 ⟨some d, .load 24 (.tmp x), ty, pos, af, g⟩ :=
  step_value rfl fun a w hb hk => ⟨.agg #[.bool s, .slice p n c], w, by
    have h1 := hx _ _ (hk x (looks1 rfl))
    obtain ⟨c1, c2, -, -⟩ := hN w hb
    simp only [execOp, h1]
    go_simp, h _ hb, Below.refl _ _⟩

/-- A function of the program that has a body. -/
def Plain (f : FuncId) : Prop := ∀ (args : Array Value) (w : World), (callFunc f args).run Tryz.prog w = .ok (.enter f args) w
theorem Plain.of {f : FuncId} {fn : Func} {c : Code} (hf : Tryz.prog.funcs[f]? = some fn) (hname : (fn.name == "runtime.NumGoroutine") = false) (hb : fn.body = some c) : Plain f := by
  intro args w
  have h1 : fn.name ≠ "runtime.NumGoroutine" := by simpa using hname
  simp [callFunc, hf, h1, hb]

theorem exec_call {f : FuncId} (hp : Plain f) (a : Act) (args : Array Operand) (ts : Array TypeId) (w : World) : (execOp a.eval ⟨some d, .call { callee := .value (.func f), args := args, argTypes := ts }, ty, pos, af, g⟩).run Tryz.prog w = .ok (.enter f (args.map a.eval)) w := by
  have h1 : resolve a.eval { callee := .value (.func f), args := args, argTypes := ts } ty = Deferred.ofValue (a.eval (.func f)) (args.map a.eval) := rfl
  simp only [execOp, h1, Act.eval]
  simp [go_sem, Deferred.ofValue, invoke, hp _ _]

set_option maxRecDepth 100000 in
theorem step_call1 {f : FuncId} (hp : Plain f) {x : Nat} {ts : Array TypeId} (h : ∀ u w, Below w0.heap.size w0 w → Known bs fs x u w → Calls Tryz.prog f #[u] w fun e w' => (∃ r, e = .returned r ∧ Known bs fs d r w') ∧ Below w.heap.size w w') : StepOk Tryz.prog bs fs w0 ⟨some d, .call { callee := .value (.func f), args := #[.tmp x], argTypes := ts }, ty, pos, af, g⟩ :=
  step_enter rfl (fun a => #[a.eval (.tmp x)]) (fun a w => by rw [exec_call hp a]; simp) fun a w hb hk => h _ w hb (hk x (by simp [looks, Op.operands, Call.operands]))
set_option maxRecDepth 100000 in
theorem step_call2 {f : FuncId} (hp : Plain f) {x y : Nat} {ts : Array TypeId} (h : ∀ u v w, Below w0.heap.size w0 w → Known bs fs x u w → Known bs fs y v w → Calls Tryz.prog f #[u, v] w fun e w' => (∃ r, e = .returned r ∧ Known bs fs d r w') ∧ Below w.heap.size w w') : StepOk Tryz.prog bs fs w0 ⟨some d, .call { callee := .value (.func f), args := #[.tmp x, .tmp y], argTypes := ts }, ty, pos, af, g⟩ :=
  step_enter rfl (fun a => #[a.eval (.tmp x), a.eval (.tmp y)]) (fun a w => by rw [exec_call hp a]; simp) fun a w hb hk => h _ _ w hb (hk x (by simp [looks, Op.operands, Call.operands])) (hk y (by simp [looks, Op.operands, Call.operands]))
set_option maxRecDepth 100000 in
theorem step_callk {f : FuncId} (hp : Plain f) {k : Value} {ts : Array TypeId} (h : ∀ w, Below w0.heap.size w0 w → Calls Tryz.prog f #[k] w fun e w' => (∃ r, e = .returned r ∧ Known bs fs d r w') ∧ Below w.heap.size w w') : StepOk Tryz.prog bs fs w0 ⟨some d, .call { callee := .value (.func f), args := #[.const k], argTypes := ts }, ty, pos, af, g⟩ :=
  step_enter rfl (fun _ => #[k]) (fun a w => by rw [exec_call hp a]; simp [Act.eval]) fun a w hb hk => h w hb
set_option maxRecDepth 100000 in
theorem step_callk4 {f : FuncId} (hp : Plain f) {k1 k2 k3 k4 : Value} {ts : Array TypeId} (h : ∀ w, Below w0.heap.size w0 w → Calls Tryz.prog f #[k1, k2, k3, k4] w fun e w' => (∃ r, e = .returned r ∧ Known bs fs d r w') ∧ Below w.heap.size w w') : StepOk Tryz.prog bs fs w0 ⟨some d, .call { callee := .value (.func f), args := #[.const k1, .const k2, .const k3, .const k4], argTypes := ts }, ty, pos, af, g⟩ :=
  step_enter rfl (fun _ => #[k1, k2, k3, k4]) (fun a w => by rw [exec_call hp a]; simp [Act.eval]) fun a w hb hk => h w hb

/-- '==' of a number with a constant. -/
theorem step_eqE {x : Nat} {t' : TypeId} {m k : Int} {b : Bool} (hx : ∀ v w, Known bs fs x v w → v = .int .i64 m) (hb' : (m == k) = b) (h : ∀ w, Known bs fs d (.bool b) w) : StepOk Tryz.prog bs fs w0 ⟨some d, .binOp .eql 27 (.tmp x) (.const (.int .i64 k)) t', ty, pos, af, g⟩ :=
  step_value rfl fun a w hb hk => ⟨.bool b, w, by
    have h1 := hx _ _ (hk x (by simp [looks, Op.operands]))
    have h2 : a.eval (.const (.int .i64 k)) = .int .i64 k := rfl
    simp only [execOp, h1, h2, ← hb']
    go_simp, h _, Below.refl _ _⟩
theorem step_eqL {x : Nat} {t' : TypeId} {m k : Int} {b : Bool} (hx : ∀ v w, Known bs fs x v w → v = .int .i64 m) (hb' : (m == k) = b) (h : ∀ w, Known bs fs d (.bool b) w) : StepOk Tryz.prog bs fs w0 ⟨some d, .binOp .eql 2 (.tmp x) (.const (.int .i64 k)) t', ty, pos, af, g⟩ :=
  step_value rfl fun a w hb hk => ⟨.bool b, w, by
    have h1 := hx _ _ (hk x (by simp [looks, Op.operands]))
    have h2 : a.eval (.const (.int .i64 k)) = .int .i64 k := rfl
    simp only [execOp, h1, h2, ← hb']
    go_simp, h _, Below.refl _ _⟩
theorem step_eqI {x : Nat} {t' : TypeId} {m k : Int} {b : Bool} (hx : ∀ v w, Known bs fs x v w → v = .int .i64 m) (hb' : (m == k) = b) (h : ∀ w, Known bs fs d (.bool b) w) : StepOk Tryz.prog bs fs w0 ⟨some d, .binOp .eql 3 (.tmp x) (.const (.int .i64 k)) t', ty, pos, af, g⟩ :=
  step_value rfl fun a w hb hk => ⟨.bool b, w, by
    have h1 := hx _ _ (hk x (by simp [looks, Op.operands]))
    have h2 : a.eval (.const (.int .i64 k)) = .int .i64 k := rfl
    simp only [execOp, h1, h2, ← hb']
    go_simp, h _, Below.refl _ _⟩
theorem step_eqs {x : Nat} {t' : TypeId} {m k : ByteArray} (hx : ∀ v w, Known bs fs x v w → v = .string m) (hb' : m = k) (h : ∀ w, Known bs fs d (.bool true) w) : StepOk Tryz.prog bs fs w0 ⟨some d, .binOp .eql 9 (.tmp x) (.const (.string k)) t', ty, pos, af, g⟩ :=
  step_value rfl fun a w hb hk => ⟨.bool true, w, by
    have h1 := hx _ _ (hk x (by simp [looks, Op.operands]))
    have h2 : a.eval (.const (.string k)) = .string k := rfl
    subst hb'
    simp only [execOp, h1, h2]
    go_simp, h _, Below.refl _ _⟩

set_option maxRecDepth 100000 in
theorem step_row1 {k : Int} (h : ∀ (w : World) n, n = w.heap.size → Known bs fs d (.slice (some ⟨n, 0, none⟩) 1 1) (w.alloc (.cells #[.int .u32 k] 99))) : StepOk Tryz.prog bs fs w0 ⟨some d, .buildSlice 22 1 #[(0, .const (.int .u32 k))], ty, pos, af, g⟩ :=
  step_value rfl fun a w hb hk => ⟨.slice (some ⟨w.heap.size, 0, none⟩) 1 1, w.alloc (.cells #[.int .u32 k] 99), by
    have h2 : a.eval (.const (.int .u32 k)) = .int .u32 k := rfl
    simp only [execOp, List.map_toArray, List.map_cons, List.map_nil, h2]
    go_simp, h _ _ rfl, (Below.refl _ _).alloc (Nat.le_refl _) _⟩
set_option maxRecDepth 100000 in
theorem step_row2 {k k' : Int} (h : ∀ (w : World) n, n = w.heap.size → Known bs fs d (.slice (some ⟨n, 0, none⟩) 2 2) (w.alloc (.cells #[.int .u32 k, .int .u32 k'] 99))) : StepOk Tryz.prog bs fs w0 ⟨some d, .buildSlice 22 2 #[(0, .const (.int .u32 k)), (1, .const (.int .u32 k'))], ty, pos, af, g⟩ :=
  step_value rfl fun a w hb hk => ⟨.slice (some ⟨w.heap.size, 0, none⟩) 2 2, w.alloc (.cells #[.int .u32 k, .int .u32 k'] 99), by
    have h2 : a.eval (.const (.int .u32 k)) = .int .u32 k := rfl
    have h3 : a.eval (.const (.int .u32 k')) = .int .u32 k' := rfl
    simp only [execOp, List.map_toArray, List.map_cons, List.map_nil, h2, h3]
    go_simp, h _ _ rfl, (Below.refl _ _).alloc (Nat.le_refl _) _⟩
set_option maxRecDepth 100000 in
theorem step_buildT {x : Nat} (h : ∀ p n c w, Known bs fs x (.slice p n c) w → Known bs fs d (.agg #[.bool true, .slice p n c]) w) (hx : ∀ v w, Known bs fs x v w → ∃ p n c, v = .slice p n c) : StepOk Tryz.prog bs fs w0 ⟨some d, .build 24 #[(0, .const (.bool true)), (1, .tmp x)], ty, pos, af, g⟩ :=
  step_value rfl fun a w hb hk => by
    have h1 := hk x (by simp [looks, Op.operands])
    obtain ⟨p, n, c, e⟩ := hx _ _ h1
    rw [e] at h1
    have h2 : a.eval (.const (.bool true)) = .bool true := rfl
    exact ⟨.agg #[.bool true, .slice p n c], w, by
      simp only [execOp, List.map_toArray, List.map_cons, List.map_nil, h2, e]
      go_simp, h _ _ _ _ h1, Below.refl _ _⟩
set_option maxRecDepth 100000 in
theorem step_buildF {x : Nat} (h : ∀ p n c w, Known bs fs x (.slice p n c) w → Known bs fs d (.agg #[.bool false, .slice p n c]) w) (hx : ∀ v w, Known bs fs x v w → ∃ p n c, v = .slice p n c) : StepOk Tryz.prog bs fs w0 ⟨some d, .build 24 #[(1, .tmp x)], ty, pos, af, g⟩ :=
  step_value rfl fun a w hb hk => by
    have h1 := hk x (by simp [looks, Op.operands])
    obtain ⟨p, n, c, e⟩ := hx _ _ h1
    rw [e] at h1
    exact ⟨.agg #[.bool false, .slice p n c], w, by
      simp only [execOp, List.map_toArray, List.map_cons, List.map_nil, e]
      go_simp, h _ _ _ _ h1, Below.refl _ _⟩
set_option maxRecDepth 100000 in
theorem step_buildN (h : ∀ w, Known bs fs d (.agg #[.bool true, .slice none 0 0]) w) : StepOk Tryz.prog bs fs w0 ⟨some d, .build 24 #[(0, .const (.bool true))], ty, pos, af, g⟩ :=
  step_value rfl fun a w hb hk => ⟨.agg #[.bool true, .slice none 0 0], w, by
    have h2 : a.eval (.const (.bool true)) = .bool true := rfl
    simp only [execOp, List.map_toArray, List.map_cons, List.map_nil, h2]
    go_simp, h _, Below.refl _ _⟩

end

/-! ### What is known -/
def IsV (c : Value) (v : Value) (_ : World) : Prop := v = c
def IsO (k : Nat) (Z : Int) (v : Value) (w : World) : Prop := OkAt w v k Z
def IsN (k : Nat) (Z : Int) (v : Value) (w : World) : Prop := NumAt w v k Z
def IsL (l : List Nat) (v : Value) (w : World) : Prop := Lim w v l
theorem IsV.grows (c : Value) : Grows (IsV c) := fun _ _ _ h _ => h
theorem IsO.grows (k : Nat) (Z : Int) : Grows (IsO k Z) := fun _ _ _ h hb => OkAt.below h hb
theorem IsN.grows (k : Nat) (Z : Int) : Grows (IsN k Z) := fun _ _ _ h hb => NumAt.below h hb
theorem IsL.grows (l : List Nat) : Grows (IsL l) := fun _ _ _ h hb => Lim.below h hb
theorem IsL.slice {l : List Nat} {v : Value} {w : World} (h : IsL l v w) : ∃ p n c, v = .slice p n c := by
  obtain ⟨a, c, rfl, -⟩ := h
  exact ⟨_, _, _, rfl⟩
theorem ansV {e : Ending} {x : Value} {B : Prop} (h : e = .returned x ∧ B) : (∃ r, e = .returned r ∧ r = x) ∧ B := ⟨⟨x, h.1, rfl⟩, h.2⟩

end Go.Proofs.YtgpoljbccimkjaaGreatDoor

namespace Go.Proofs.YtgpoljbccimkjaaGreatDoor
set_option linter.unusedSimpArgs false
set_option linter.unusedVariables false
open Go.RowKit Go.Shelf

section
variable {bs : List (Nat × Bool)} {fs : List (Nat × (Value → World → Prop))} {w0 : World} {d : Nat} {ty : TypeId} {pos : String} {af : Array Edge} {g : Option (Nat × Bool)}

/-- '==' of two numbers of one kind. -/
theorem step_eqII {x y : Nat} {t' : TypeId} {m k : Int} {b : Bool} (hx : ∀ v w, Known bs fs x v w → v = .int .i64 m) (hy : ∀ v w, Known bs fs y v w → v = .int .i64 k) (hb' : (m == k) = b) (h : ∀ w, Known bs fs d (.bool b) w) : StepOk Tryz.prog bs fs w0 ⟨some d, .binOp .eql 3 (.tmp x) (.tmp y) t', ty, pos, af, g⟩ :=
  step_value rfl fun a w hb hk => ⟨.bool b, w, by
    have h1 := hx _ _ (hk x (by simp [looks, Op.operands]))
    have h2 := hy _ _ (hk y (by simp [looks, Op.operands]))
    simp only [execOp, h1, h2, ← hb']
    go_simp, h _, Below.refl _ _⟩
theorem step_eqBB {x y : Nat} {t' : TypeId} {m k b : Bool} (hx : ∀ v w, Known bs fs x v w → v = .bool m) (hy : ∀ v w, Known bs fs y v w → v = .bool k) (hb' : (m == k) = b) (h : ∀ w, Known bs fs d (.bool b) w) : StepOk Tryz.prog bs fs w0 ⟨some d, .binOp .eql 4 (.tmp x) (.tmp y) t', ty, pos, af, g⟩ :=
  step_value rfl fun a w hb hk => ⟨.bool b, w, by
    have h1 := hx _ _ (hk x (by simp [looks, Op.operands]))
    have h2 := hy _ _ (hk y (by simp [looks, Op.operands]))
    simp only [execOp, h1, h2, ← hb']
    go_simp, h _, Below.refl _ _⟩
theorem step_neg {x : Nat} {m k : Int} (hx : ∀ v w, Known bs fs x v w → v = .int .i64 m) (hb' : IntKind.i64.wrap (-m) = k) (h : ∀ w, Known bs fs d (.int .i64 k) w) : StepOk Tryz.prog bs fs w0 ⟨some d, .unOp .neg 3 (.tmp x), ty, pos, af, g⟩ :=
  step_value rfl fun a w hb hk => ⟨.int .i64 k, w, by
    have h1 := hx _ _ (hk x (by simp [looks, Op.operands]))
    simp only [execOp, h1, ← hb']
    go_simp, h _, Below.refl _ _⟩
theorem step_mulI {x y : Nat} {t' : TypeId} {m n k : Int} (hx : ∀ v w, Known bs fs x v w → v = .int .i64 m) (hy : ∀ v w, Known bs fs y v w → v = .int .i64 n) (hb' : IntKind.i64.wrap (m * n) = k) (h : ∀ w, Known bs fs d (.int .i64 k) w) : StepOk Tryz.prog bs fs w0 ⟨some d, .binOp .mul 3 (.tmp x) (.tmp y) t', ty, pos, af, g⟩ :=
  step_value rfl fun a w hb hk => ⟨.int .i64 k, w, by
    have h1 := hx _ _ (hk x (by simp [looks, Op.operands]))
    have h2 := hy _ _ (hk y (by simp [looks, Op.operands]))
    simp only [execOp, h1, h2, ← hb']
    go_simp, h _, Below.refl _ _⟩
set_option maxRecDepth 100000 in
theorem step_field {x : Nat} (hx : ∀ v w, Known bs fs x v w → ∃ s p n c, v = .agg #[.bool s, .slice p n c] ∧ Known bs fs d (.slice p n c) w) : StepOk Tryz.prog bs fs w0 ⟨some d, .field 24 (.tmp x) 1, ty, pos, af, g⟩ :=
  step_value rfl fun a w hb hk => by
    obtain ⟨s, p, n, c, e, h⟩ := hx _ _ (hk x (by simp [looks, Op.operands]))
    exact ⟨_, w, by
      have hf := field_parts s p n c w
      simp only [execOp, e]
      go_simp, h, Below.refl _ _⟩
set_option maxRecDepth 100000 in
theorem step_len {x : Nat} (hx : ∀ v w, Known bs fs x v w → ∃ p n c, v = .slice p n c ∧ Known bs fs d (.int .i64 (n : Nat)) w) : StepOk Tryz.prog bs fs w0 ⟨some d, .call { callee := .builtin .len, args := #[.tmp x], argTypes := #[22] }, 3, pos, af, g⟩ :=
  step_value rfl fun a w hb hk => by
    obtain ⟨p, n, c, e, h⟩ := hx _ _ (hk x (by simp [looks, Op.operands, Call.operands]))
    exact ⟨_, w, by
      simp only [execOp, resolve, List.map_toArray, List.map_cons, List.map_nil, e]
      go_simp, h, Below.refl _ _⟩

theorem step_geq {x : Nat} {t' : TypeId} {m k : Int} {b : Bool} (hx : ∀ v w, Known bs fs x v w → v = .int .i64 m) (hb' : decide (k ≤ m) = b) (h : ∀ w, Known bs fs d (.bool b) w) : StepOk Tryz.prog bs fs w0 ⟨some d, .binOp .geq 3 (.tmp x) (.const (.int .i64 k)) t', ty, pos, af, g⟩ :=
  step_value rfl fun a w hb hk => ⟨.bool b, w, by
    have h1 := hx _ _ (hk x (by simp [looks, Op.operands]))
    have h2 : a.eval (.const (.int .i64 k)) = .int .i64 k := rfl
    simp only [execOp, h1, h2, ← hb']
    go_simp, h _, Below.refl _ _⟩
theorem step_gtr {x : Nat} {t' : TypeId} {m k : Int} {b : Bool} (hx : ∀ v w, Known bs fs x v w → v = .int .i64 m) (hb' : decide (k < m) = b) (h : ∀ w, Known bs fs d (.bool b) w) : StepOk Tryz.prog bs fs w0 ⟨some d, .binOp .gtr 3 (.tmp x) (.const (.int .i64 k)) t', ty, pos, af, g⟩ :=
  step_value rfl fun a w hb hk => ⟨.bool b, w, by
    have h1 := hx _ _ (hk x (by simp [looks, Op.operands]))
    have h2 : a.eval (.const (.int .i64 k)) = .int .i64 k := rfl
    simp only [execOp, h1, h2, ← hb']
    go_simp, h _, Below.refl _ _⟩
theorem step_leq {x : Nat} {t' : TypeId} {m k : Int} {b : Bool} (hx : ∀ v w, Known bs fs x v w → v = .int .i64 m) (hb' : decide (m ≤ k) = b) (h : ∀ w, Known bs fs d (.bool b) w) : StepOk Tryz.prog bs fs w0 ⟨some d, .binOp .leq 3 (.tmp x) (.const (.int .i64 k)) t', ty, pos, af, g⟩ :=
  step_value rfl fun a w hb hk => ⟨.bool b, w, by
    have h1 := hx _ _ (hk x (by simp [looks, Op.operands]))
    have h2 : a.eval (.const (.int .i64 k)) = .int .i64 k := rfl
    simp only [execOp, h1, h2, ← hb']
    go_simp, h _, Below.refl _ _⟩
theorem step_lss {x : Nat} {t' : TypeId} {m k : Int} {b : Bool} (hx : ∀ v w, Known bs fs x v w → v = .int .i64 m) (hb' : decide (m < k) = b) (h : ∀ w, Known bs fs d (.bool b) w) : StepOk Tryz.prog bs fs w0 ⟨some d, .binOp .lss 3 (.tmp x) (.const (.int .i64 k)) t', ty, pos, af, g⟩ :=
  step_value rfl fun a w hb hk => ⟨.bool b, w, by
    have h1 := hx _ _ (hk x (by simp [looks, Op.operands]))
    have h2 : a.eval (.const (.int .i64 k)) = .int .i64 k := rfl
    simp only [execOp, h1, h2, ← hb']
    go_simp, h _, Below.refl _ _⟩
theorem pure_move {x : Nat} (h : ∀ v w, Known bs fs x v w → Known bs fs d v w) : PureOk Tryz.prog bs fs ⟨some d, .move (.tmp x), ty, pos, af, g⟩ :=
  fun a w hk => ⟨_, fun _ => rfl, fun e he => by injection he with he; subst he; exact h _ _ (hk x (looks1 rfl))⟩
theorem pure_extract {x i : Nat} (h : ∀ v w, Known bs fs x v w → ∃ vs u, v = .tuple vs ∧ vs[i]? = some u ∧ Known bs fs d u w) : PureOk Tryz.prog bs fs ⟨some d, .extract (.tmp x) i, ty, pos, af, g⟩ :=
  fun a w hk => by
    obtain ⟨vs, u, e, hu, hku⟩ := h _ _ (hk x (looks1 rfl))
    refine ⟨u, fun w' => ?_, fun e he => by injection he with he; subst he; exact hku⟩
    simp [execOp, e, Instr.extract, hu]
/-- A new box for a number. -/
def IsNewBox (n : Nat) (v : Value) (w : World) : Prop := ∃ b, v = .pointer (some ⟨b, 0, none⟩) ∧ n ≤ b ∧ NumBox w b (.bool false) (.slice none 0 0)
theorem IsNewBox.grows (n : Nat) : Grows (IsNewBox n) := fun _ _ _ h hb => by
  obtain ⟨b, h1, h2, h3⟩ := h
  exact ⟨b, h1, h2, h3.below hb⟩
theorem IsNewBox.lt {n : Nat} {v : Value} {w : World} (h : IsNewBox n v w) : ∃ b, v = .pointer (some ⟨b, 0, none⟩) ∧ b < w.heap.size := by
  obtain ⟨b, h1, -, h3⟩ := h
  exact ⟨b, h1, h3.lt⟩
theorem alloc_num (h : ∀ v w, IsNewBox w0.heap.size v w → Known bs fs d v w) : AllocOk Tryz.prog bs fs w0 ⟨some d, .alloc 24, ty, pos, af, g⟩ :=
  fun a w hb => ⟨w.alloc (.cells #[.bool false, .slice none 0 0] 24), by
    simp only [execOp]
    go_simp, (Below.refl _ _).alloc (Nat.le_refl _) _, fun e he => by
    injection he with he
    subst he
    exact h _ _ ⟨_, rfl, hb.size, NumBox.new _ _ _ _⟩⟩
set_option maxRecDepth 100000 in
theorem wp_store_num {K : Act → World → Prop} {Q : Exit → Act → World → Prop} {a : Act} {w : World} {p v b n c : Nat} {s : Bool} {x : Option Addr} {u0 u1 : Value} (hp : a.eval (.tmp p) = .pointer (some ⟨b, 0, none⟩)) (hv : a.eval (.tmp v) = .agg #[.bool s, .slice x n c]) (hN : NumBox w b u0 u1)
    (h : K a ((w.setCell ⟨b, 0, none⟩ (.bool s)).setCell ⟨b, 1, none⟩ (.slice x n c))) : Oper.wp Tryz.prog ⟨none, .store 24 (.tmp p) (.tmp v), ty, pos, af, g⟩ a w K Q := by
  obtain ⟨c1, c2, f1, f2⟩ := hN
  unfold Oper.wp
  simp only [execOp, hp, hv]
  go_simp
  exact h
theorem wp_assign {K : Act → World → Prop} {Q : Exit → Act → World → Prop} {a : Act} {w : World} {x : Nat} (h : K (a.put (some d) (a.eval (.tmp x))) w) : Oper.wp Tryz.prog ⟨some d, .assign (.tmp x), ty, pos, af, g⟩ a w K Q := h

end

/-- What Div answers, as a value. -/
def IsD (k k' : Nat) (n Zq Zr : Int) (v : Value) (w : World) : Prop := DivAt w (.returned v) k k' n Zq Zr
theorem IsD.grows (k k' : Nat) (n Zq Zr : Int) : Grows (IsD k k' n Zq Zr) := fun _ _ _ h hb => by
  obtain ⟨sq, aq, nq, cq, sr, ar, nr, cr, e, h1, h2, h3, h4⟩ := h
  exact ⟨sq, aq, nq, cq, sr, ar, nr, cr, e, h1.below hb, h2.below hb, h3, h4⟩
theorem ansD {w : World} {e : Ending} {k k' : Nat} {n Zq Zr : Int} {B : Prop} (h : DivAt w e k k' n Zq Zr ∧ B) : (∃ r, e = .returned r ∧ IsD k k' n Zq Zr r w) ∧ B := by
  obtain ⟨⟨sq, aq, nq, cq, sr, ar, nr, cr, rfl, h1, h2, h3, h4⟩, hB⟩ := h
  exact ⟨⟨_, rfl, sq, aq, nq, cq, sr, ar, nr, cr, rfl, h1, h2, h3, h4⟩, hB⟩
theorem IsD.q {k k' : Nat} {n Zq Zr : Int} {v : Value} {w : World} (h : IsD k k' n Zq Zr v w) : ∃ vs u, v = .tuple vs ∧ vs[0]? = some u ∧ IsO k Zq u w := by
  obtain ⟨sq, aq, nq, cq, sr, ar, nr, cr, e, h1, h2, h3, h4⟩ := h
  injection e with e
  exact ⟨_, _, e, rfl, h1⟩
theorem IsD.r {k k' : Nat} {n Zq Zr : Int} {v : Value} {w : World} (h : IsD k k' n Zq Zr v w) : ∃ vs u, v = .tuple vs ∧ vs[1]? = some u ∧ IsO k' Zr u w := by
  obtain ⟨sq, aq, nq, cq, sr, ar, nr, cr, e, h1, h2, h3, h4⟩ := h
  injection e with e
  exact ⟨_, _, e, rfl, h2⟩
theorem IsD.n {k k' : Nat} {n Zq Zr : Int} {v : Value} {w : World} (h : IsD k k' n Zq Zr v w) : ∃ vs u, v = .tuple vs ∧ vs[2]? = some u ∧ IsV (.int .i64 n) u w := by
  obtain ⟨sq, aq, nq, cq, sr, ar, nr, cr, e, h1, h2, h3, h4⟩ := h
  injection e with e
  exact ⟨_, _, e, rfl, rfl⟩

/-- An empty list. -/
def IsE (v : Value) (_ : World) : Prop := ∃ p c, v = .slice p 0 c
theorem IsE.grows : Grows IsE := fun _ _ _ h _ => h
theorem OkAt.empty {w : World} {v : Value} {k : Nat} {Z : Int} (h : OkAt w v k Z) (hz : Z = 0) : ∃ s p n c, v = .agg #[.bool s, .slice p n c] ∧ IsE (.slice p n c) w := by
  obtain ⟨s, x, l, rfl, ⟨a, c, rfl, -⟩, h2, h3, -⟩ := h
  have hl : l = [] := (okB_nil_iff h2).1 (by rw [h3]; exact hz)
  subst hl
  exact ⟨s, a, _, c, rfl, a, c, rfl⟩

theorem cmpI_bd (a b : Int) : -1 ≤ cmpI a b ∧ cmpI a b ≤ 1 := by unfold cmpI; split <;> (try split) <;> omega
theorem cmpI_i64 (a b : Int) : -9223372036854775808 ≤ cmpI a b ∧ cmpI a b ≤ 9223372036854775807 := by have := cmpI_bd a b; omega
theorem cmpI_neg0 (a : Int) : cmpI (-a) 0 = -cmpI a 0 := by unfold cmpI; split <;> split <;> (try split) <;> (try split) <;> omega
theorem cmpI_sub (a b : Int) : cmpI a b = cmpI (a - b) 0 := by unfold cmpI; split <;> split <;> (try split) <;> (try split) <;> omega
theorem cmpI_mul (a b : Int) : cmpI (a * b) 0 = cmpI a 0 * cmpI b 0 := by
  rcases Int.lt_trichotomy a 0 with h | h | h <;> rcases Int.lt_trichotomy b 0 with h' | h' | h'
  · rw [cmpI_lt h, cmpI_lt h', cmpI_gt (Int.mul_pos_of_neg_of_neg h h')]; rfl
  · subst h'; rw [Int.mul_zero, cmpI_eq rfl, Int.mul_zero]
  · rw [cmpI_lt h, cmpI_gt h', cmpI_lt (Int.mul_neg_of_neg_of_pos h h')]; rfl
  · subst h; rw [Int.zero_mul, cmpI_eq rfl, Int.zero_mul]
  · subst h; rw [Int.zero_mul, cmpI_eq rfl, Int.zero_mul]
  · subst h; rw [Int.zero_mul, cmpI_eq rfl, Int.zero_mul]
  · rw [cmpI_gt h, cmpI_lt h', cmpI_lt (Int.mul_neg_of_pos_of_neg h h')]; rfl
  · subst h'; rw [Int.mul_zero, cmpI_eq rfl, Int.mul_zero]
  · rw [cmpI_gt h, cmpI_gt h', cmpI_gt (Int.mul_pos h h')]; rfl
theorem cmpI_zero (a b : Int) : (cmpI a b == 0) = decide (a = b) := by
  rw [Bool.eq_iff_iff, beq_iff_eq, decide_eq_true_iff]
  unfold cmpI
  constructor
  · intro h; split at h
    · omega
    · split at h <;> omega
  · intro h; rw [if_neg (by omega), if_neg (by omega)]
theorem wrap_cmp_neg (a b : Int) : IntKind.i64.wrap (-cmpI a b) = -cmpI a b := IntWalk.i64_in _ (by have := cmpI_bd a b; omega)
theorem wrap_cmp_mul (a b c e : Int) : IntKind.i64.wrap (cmpI a b * cmpI c e) = cmpI a b * cmpI c e := IntWalk.i64_in _ (by
  have h1 := cmpI_bd a b
  have h2 := cmpI_bd c e
  generalize cmpI a b = x at *
  generalize cmpI c e = y at *
  have hx : x = -1 ∨ x = 0 ∨ x = 1 := by omega
  rcases hx with rfl | rfl | rfl <;> omega)

/-- A number is stored into a box. -/
theorem store_box {w W : World} {b n c : Nat} {s : Bool} {x : Option Addr} (h : Below w.heap.size w W) (hb : w.heap.size ≤ b) (hN : NumBox W b (.bool false) (.slice none 0 0)) :
    ∃ W', (W.setCell ⟨b, 0, none⟩ (.bool s)).setCell ⟨b, 1, none⟩ (.slice x n c) = W' ∧ NumBox W' b (.bool s) (.slice x n c) ∧ Below w.heap.size w W' ∧ (∀ u k Z, OkAt W u k Z → OkAt W' u k Z) ∧ (∀ b' y y', b' ≠ b → NumBox W b' y y' → NumBox W' b' y y') := by
  refine ⟨_, rfl, (hN.set0 _).set1 _, (h.setCell (p := ⟨b, 0, none⟩) hb _).setCell (p := ⟨b, 1, none⟩) hb _, fun u k Z ho => ?_, fun b' y y' hne hN' => (hN'.other (p := ⟨b, 0, none⟩) (fun e => hne e.symm) _).other (p := ⟨b, 1, none⟩) (fun e => hne e.symm) _⟩
  obtain ⟨s', v, l, h1, h2, h3, h4, h5⟩ := ho
  exact ⟨s', v, l, h1, (h2.setOther hN.1 (by simp) _).setOther (hN.set0 (.bool s)).2.1 (by simp) _, h3, h4, h5⟩

end Go.Proofs.YtgpoljbccimkjaaGreatDoor
