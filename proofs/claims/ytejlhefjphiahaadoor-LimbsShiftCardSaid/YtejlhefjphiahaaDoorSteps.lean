/- Single operations by what is known of their operands. -/
import Derived.Test.YtejlhefjphiahaaDoorFacts
import Derived.Test.YtejlhefjphiahaaDoorNum
namespace Go.Proofs.YtejlhefjphiahaaDoor
open Go.RowKit Go.Shelf

section
variable {bs : List (Nat × Bool)} {fs : List (Nat × (Value → World → Prop))} {w0 : World} {d : Nat} {ty : TypeId} {pos : String} {af : Array Edge} {g : Option (Nat × Bool)}

theorem looks1 {x : Nat} {o : Oper} (h : o.op.operands.toList = [.tmp x]) : x ∈ looks o := by unfold looks; rw [h]; simp
theorem step_value {o : Oper} (hd : o.dst = some d) (h : ∀ (a : Act) (w : World), Below w0.heap.size w0 w → (∀ t, t ∈ looks o → Known bs fs t (a.eval (.tmp t)) w) → ∃ v w', (execOp a.eval o).run Tryd.prog w = .ok (.value v) w' ∧ Known bs fs d v w' ∧ Below w.heap.size w w') : StepOk Tryd.prog bs fs w0 o := by
  intro Q a w hb hk
  obtain ⟨v, w', h1, h2, h3⟩ := h a w hb hk
  unfold Oper.wp
  rw [h1]
  refine ⟨v, rfl, fun e he => ?_, h3⟩
  rw [hd] at he
  injection he with he
  subst he
  exact h2
theorem step_enter {o : Oper} (hd : o.dst = some d) {f : FuncId} (args : Act → Array Value) (he : ∀ (a : Act) (w : World), (execOp a.eval o).run Tryd.prog w = .ok (.enter f (args a)) w) (h : ∀ (a : Act) (w : World), Below w0.heap.size w0 w → (∀ t, t ∈ looks o → Known bs fs t (a.eval (.tmp t)) w) → Calls Tryd.prog f (args a) w fun e w' => (∃ r, e = .returned r ∧ Known bs fs d r w') ∧ Below w.heap.size w w') : StepOk Tryd.prog bs fs w0 o := by
  intro Q a w hb hk
  unfold Oper.wp
  rw [he, Oper.upon_enter]
  refine (h a w hb hk).mono ?_
  rintro e w' ⟨⟨r, rfl, h2⟩, h3⟩
  refine ⟨r, rfl, fun e he => ?_, h3⟩
  rw [hd] at he
  injection he with he
  subst he
  exact h2

theorem step_move {x : Nat} (h : ∀ v w, Known bs fs x v w → Known bs fs d v w) : StepOk Tryd.prog bs fs w0 ⟨some d, .move (.tmp x), ty, pos, af, g⟩ :=
  step_value rfl fun a w hb hk => ⟨_, w, rfl, h _ _ (hk x (looks1 rfl)), Below.refl _ _⟩
theorem step_assign {x : Nat} (h : ∀ v w, Known bs fs x v w → Known bs fs d v w) : StepOk Tryd.prog bs fs w0 ⟨some d, .assign (.tmp x), ty, pos, af, g⟩ :=
  step_value rfl fun a w hb hk => ⟨_, w, rfl, h _ _ (hk x (looks1 rfl)), Below.refl _ _⟩
theorem step_pickT {c x : Nat} {y : Operand} (hc : ∀ v w, Known bs fs c v w → v = .bool true) (h : ∀ v w, Known bs fs x v w → Known bs fs d v w) : StepOk Tryd.prog bs fs w0 ⟨some d, .pick (.tmp c) (.tmp x) y, ty, pos, af, g⟩ :=
  step_value rfl fun a w hb hk => ⟨a.eval (.tmp x), w, by
    have h1 := hc _ _ (hk c (by unfold looks; cases y <;> simp [Op.operands]))
    simp [execOp, h1, asBool], h _ _ (hk x (by unfold looks; cases y <;> simp [Op.operands])), Below.refl _ _⟩
theorem step_pickF {c : Nat} {y : Operand} {x : Nat} (hc : ∀ v w, Known bs fs c v w → v = .bool false) (h : ∀ v w, Known bs fs x v w → Known bs fs d v w) : StepOk Tryd.prog bs fs w0 ⟨some d, .pick (.tmp c) y (.tmp x), ty, pos, af, g⟩ :=
  step_value rfl fun a w hb hk => ⟨a.eval (.tmp x), w, by
    have h1 := hc _ _ (hk c (by unfold looks; cases y <;> simp [Op.operands]))
    simp [execOp, h1, asBool], h _ _ (hk x (by unfold looks; cases y <;> simp [Op.operands])), Below.refl _ _⟩
theorem step_not {t : TypeId} {x : Nat} (b : Bool) (hx : ∀ v w, Known bs fs x v w → v = .bool b) (h : ∀ w, Known bs fs d (.bool (!b)) w) : StepOk Tryd.prog bs fs w0 ⟨some d, .unOp .not t (.tmp x), ty, pos, af, g⟩ :=
  step_value rfl fun a w hb hk => ⟨.bool (!b), w, by
    have h1 := hx _ _ (hk x (looks1 rfl))
    simp [execOp, h1, Op.unary], h _, Below.refl _ _⟩
theorem step_load {x b n c : Nat} {s : Bool} {p : Option Addr} (hx : ∀ v w, Known bs fs x v w → v = .pointer (some ⟨b, 0, none⟩)) (hN : ∀ W, Below w0.heap.size w0 W → NumBox W b (.bool s) (.slice p n c)) (h : ∀ w, Below w0.heap.size w0 w → Known bs fs d (.agg #[.bool s, .slice p n c]) w) : StepOk Tryd.prog bs fs w0 ⟨some d, .load 24 (.tmp x), ty, pos, af, g⟩ :=
  step_value rfl fun a w hb hk => ⟨.agg #[.bool s, .slice p n c], w, by
    have h1 := hx _ _ (hk x (looks1 rfl))
    obtain ⟨c1, c2, -, -⟩ := hN w hb
    simp only [execOp, h1]
    go_simp, h _ hb, Below.refl _ _⟩

/-- A function of the program that has a body. -/
def Plain (f : FuncId) : Prop := ∀ (args : Array Value) (w : World), (callFunc f args).run Tryd.prog w = .ok (.enter f args) w
theorem Plain.of {f : FuncId} {fn : Func} {c : Code} (hf : Tryd.prog.funcs[f]? = some fn) (hname : (fn.name == "runtime.NumGoroutine") = false) (hb : fn.body = some c) : Plain f := by
  intro args w
  have h1 : fn.name ≠ "runtime.NumGoroutine" := by simpa using hname
  simp [callFunc, hf, h1, hb]

theorem exec_call {f : FuncId} (hp : Plain f) (a : Act) (args : Array Operand) (ts : Array TypeId) (w : World) : (execOp a.eval ⟨some d, .call { callee := .value (.func f), args := args, argTypes := ts }, ty, pos, af, g⟩).run Tryd.prog w = .ok (.enter f (args.map a.eval)) w := by
  have h1 : resolve a.eval { callee := .value (.func f), args := args, argTypes := ts } ty = Deferred.ofValue (a.eval (.func f)) (args.map a.eval) := rfl
  simp only [execOp, h1, Act.eval]
  simp [go_sem, Deferred.ofValue, invoke, hp _ _]

theorem step_call1 {f : FuncId} (hp : Plain f) {x : Nat} {ts : Array TypeId} (h : ∀ u w, Below w0.heap.size w0 w → Known bs fs x u w → Calls Tryd.prog f #[u] w fun e w' => (∃ r, e = .returned r ∧ Known bs fs d r w') ∧ Below w.heap.size w w') : StepOk Tryd.prog bs fs w0 ⟨some d, .call { callee := .value (.func f), args := #[.tmp x], argTypes := ts }, ty, pos, af, g⟩ :=
  step_enter rfl (fun a => #[a.eval (.tmp x)]) (fun a w => by rw [exec_call hp a]; simp) fun a w hb hk => h _ w hb (hk x (by simp [looks, Op.operands, Call.operands]))
theorem step_call2 {f : FuncId} (hp : Plain f) {x y : Nat} {ts : Array TypeId} (h : ∀ u v w, Below w0.heap.size w0 w → Known bs fs x u w → Known bs fs y v w → Calls Tryd.prog f #[u, v] w fun e w' => (∃ r, e = .returned r ∧ Known bs fs d r w') ∧ Below w.heap.size w w') : StepOk Tryd.prog bs fs w0 ⟨some d, .call { callee := .value (.func f), args := #[.tmp x, .tmp y], argTypes := ts }, ty, pos, af, g⟩ :=
  step_enter rfl (fun a => #[a.eval (.tmp x), a.eval (.tmp y)]) (fun a w => by rw [exec_call hp a]; simp) fun a w hb hk => h _ _ w hb (hk x (by simp [looks, Op.operands, Call.operands])) (hk y (by simp [looks, Op.operands, Call.operands]))
theorem step_callk {f : FuncId} (hp : Plain f) {k : Value} {ts : Array TypeId} (h : ∀ w, Below w0.heap.size w0 w → Calls Tryd.prog f #[k] w fun e w' => (∃ r, e = .returned r ∧ Known bs fs d r w') ∧ Below w.heap.size w w') : StepOk Tryd.prog bs fs w0 ⟨some d, .call { callee := .value (.func f), args := #[.const k], argTypes := ts }, ty, pos, af, g⟩ :=
  step_enter rfl (fun _ => #[k]) (fun a w => by rw [exec_call hp a]; simp [Act.eval]) fun a w hb hk => h w hb
theorem step_callk4 {f : FuncId} (hp : Plain f) {k1 k2 k3 k4 : Value} {ts : Array TypeId} (h : ∀ w, Below w0.heap.size w0 w → Calls Tryd.prog f #[k1, k2, k3, k4] w fun e w' => (∃ r, e = .returned r ∧ Known bs fs d r w') ∧ Below w.heap.size w w') : StepOk Tryd.prog bs fs w0 ⟨some d, .call { callee := .value (.func f), args := #[.const k1, .const k2, .const k3, .const k4], argTypes := ts }, ty, pos, af, g⟩ :=
  step_enter rfl (fun _ => #[k1, k2, k3, k4]) (fun a w => by rw [exec_call hp a]; simp [Act.eval]) fun a w hb hk => h w hb

/-- '==' of a number with a constant. -/
theorem step_eqE {x : Nat} {t' : TypeId} {m k : Int} {b : Bool} (hx : ∀ v w, Known bs fs x v w → v = .int .i64 m) (hb' : (m == k) = b) (h : ∀ w, Known bs fs d (.bool b) w) : StepOk Tryd.prog bs fs w0 ⟨some d, .binOp .eql 34 (.tmp x) (.const (.int .i64 k)) t', ty, pos, af, g⟩ :=
  step_value rfl fun a w hb hk => ⟨.bool b, w, by
    have h1 := hx _ _ (hk x (by simp [looks, Op.operands]))
    have h2 : a.eval (.const (.int .i64 k)) = .int .i64 k := rfl
    simp only [execOp, h1, h2, ← hb']
    go_simp, h _, Below.refl _ _⟩
theorem step_eqL {x : Nat} {t' : TypeId} {m k : Int} {b : Bool} (hx : ∀ v w, Known bs fs x v w → v = .int .i64 m) (hb' : (m == k) = b) (h : ∀ w, Known bs fs d (.bool b) w) : StepOk Tryd.prog bs fs w0 ⟨some d, .binOp .eql 2 (.tmp x) (.const (.int .i64 k)) t', ty, pos, af, g⟩ :=
  step_value rfl fun a w hb hk => ⟨.bool b, w, by
    have h1 := hx _ _ (hk x (by simp [looks, Op.operands]))
    have h2 : a.eval (.const (.int .i64 k)) = .int .i64 k := rfl
    simp only [execOp, h1, h2, ← hb']
    go_simp, h _, Below.refl _ _⟩
theorem step_eqI {x : Nat} {t' : TypeId} {m k : Int} {b : Bool} (hx : ∀ v w, Known bs fs x v w → v = .int .i64 m) (hb' : (m == k) = b) (h : ∀ w, Known bs fs d (.bool b) w) : StepOk Tryd.prog bs fs w0 ⟨some d, .binOp .eql 3 (.tmp x) (.const (.int .i64 k)) t', ty, pos, af, g⟩ :=
  step_value rfl fun a w hb hk => ⟨.bool b, w, by
    have h1 := hx _ _ (hk x (by simp [looks, Op.operands]))
    have h2 : a.eval (.const (.int .i64 k)) = .int .i64 k := rfl
    simp only [execOp, h1, h2, ← hb']
    go_simp, h _, Below.refl _ _⟩
theorem step_eqs {x : Nat} {t' : TypeId} {m k : ByteArray} (hx : ∀ v w, Known bs fs x v w → v = .string m) (hb' : m = k) (h : ∀ w, Known bs fs d (.bool true) w) : StepOk Tryd.prog bs fs w0 ⟨some d, .binOp .eql 9 (.tmp x) (.const (.string k)) t', ty, pos, af, g⟩ :=
  step_value rfl fun a w hb hk => ⟨.bool true, w, by
    have h1 := hx _ _ (hk x (by simp [looks, Op.operands]))
    have h2 : a.eval (.const (.string k)) = .string k := rfl
    subst hb'
    simp only [execOp, h1, h2]
    go_simp, h _, Below.refl _ _⟩

set_option maxRecDepth 100000 in
theorem step_row1 {k : Int} (h : ∀ (w : World) n, n = w.heap.size → Known bs fs d (.slice (some ⟨n, 0, none⟩) 1 1) (w.alloc (.cells #[.int .u32 k] 46))) : StepOk Tryd.prog bs fs w0 ⟨some d, .buildSlice 22 1 #[(0, .const (.int .u32 k))], ty, pos, af, g⟩ :=
  step_value rfl fun a w hb hk => ⟨.slice (some ⟨w.heap.size, 0, none⟩) 1 1, w.alloc (.cells #[.int .u32 k] 46), by
    have h2 : a.eval (.const (.int .u32 k)) = .int .u32 k := rfl
    simp only [execOp, List.map_toArray, List.map_cons, List.map_nil, h2]
    go_simp, h _ _ rfl, (Below.refl _ _).alloc (Nat.le_refl _) _⟩
set_option maxRecDepth 100000 in
theorem step_row2 {k k' : Int} (h : ∀ (w : World) n, n = w.heap.size → Known bs fs d (.slice (some ⟨n, 0, none⟩) 2 2) (w.alloc (.cells #[.int .u32 k, .int .u32 k'] 46))) : StepOk Tryd.prog bs fs w0 ⟨some d, .buildSlice 22 2 #[(0, .const (.int .u32 k)), (1, .const (.int .u32 k'))], ty, pos, af, g⟩ :=
  step_value rfl fun a w hb hk => ⟨.slice (some ⟨w.heap.size, 0, none⟩) 2 2, w.alloc (.cells #[.int .u32 k, .int .u32 k'] 46), by
    have h2 : a.eval (.const (.int .u32 k)) = .int .u32 k := rfl
    have h3 : a.eval (.const (.int .u32 k')) = .int .u32 k' := rfl
    simp only [execOp, List.map_toArray, List.map_cons, List.map_nil, h2, h3]
    go_simp, h _ _ rfl, (Below.refl _ _).alloc (Nat.le_refl _) _⟩
set_option maxRecDepth 100000 in
theorem step_buildT {x : Nat} (h : ∀ p n c w, Known bs fs x (.slice p n c) w → Known bs fs d (.agg #[.bool true, .slice p n c]) w) (hx : ∀ v w, Known bs fs x v w → ∃ p n c, v = .slice p n c) : StepOk Tryd.prog bs fs w0 ⟨some d, .build 24 #[(0, .const (.bool true)), (1, .tmp x)], ty, pos, af, g⟩ :=
  step_value rfl fun a w hb hk => by
    have h1 := hk x (by simp [looks, Op.operands])
    obtain ⟨p, n, c, e⟩ := hx _ _ h1
    rw [e] at h1
    have h2 : a.eval (.const (.bool true)) = .bool true := rfl
    exact ⟨.agg #[.bool true, .slice p n c], w, by
      simp only [execOp, List.map_toArray, List.map_cons, List.map_nil, h2, e]
      go_simp, h _ _ _ _ h1, Below.refl _ _⟩
set_option maxRecDepth 100000 in
theorem step_buildF {x : Nat} (h : ∀ p n c w, Known bs fs x (.slice p n c) w → Known bs fs d (.agg #[.bool false, .slice p n c]) w) (hx : ∀ v w, Known bs fs x v w → ∃ p n c, v = .slice p n c) : StepOk Tryd.prog bs fs w0 ⟨some d, .build 24 #[(1, .tmp x)], ty, pos, af, g⟩ :=
  step_value rfl fun a w hb hk => by
    have h1 := hk x (by simp [looks, Op.operands])
    obtain ⟨p, n, c, e⟩ := hx _ _ h1
    rw [e] at h1
    exact ⟨.agg #[.bool false, .slice p n c], w, by
      simp only [execOp, List.map_toArray, List.map_cons, List.map_nil, e]
      go_simp, h _ _ _ _ h1, Below.refl _ _⟩
set_option maxRecDepth 100000 in
theorem step_buildN (h : ∀ w, Known bs fs d (.agg #[.bool true, .slice none 0 0]) w) : StepOk Tryd.prog bs fs w0 ⟨some d, .build 24 #[(0, .const (.bool true))], ty, pos, af, g⟩ :=
  step_value rfl fun a w hb hk => ⟨.agg #[.bool true, .slice none 0 0], w, by
    have h2 : a.eval (.const (.bool true)) = .bool true := rfl
    simp only [execOp, List.map_toArray, List.map_cons, List.map_nil, h2]
    go_simp, h _, Below.refl _ _⟩

end

/-! ### What is known -/
def IsV (c : Value) (v : Value) (_ : World) : Prop := v = c
def IsO (k : Nat) (Z : Int) (v : Value) (w : World) : Prop := OkAt w v k Z
def IsN (k : Nat) (Z : Int) (v : Value) (w : World) : Prop := NumAt w v k Z
def IsL (l : List Nat) (v : Value) (w : World) : Prop := Lim w v l
theorem IsV.grows (c : Value) : Grows (IsV c) := fun _ _ _ h _ => h
theorem IsO.grows (k : Nat) (Z : Int) : Grows (IsO k Z) := fun _ _ _ h hb => OkAt.below h hb
theorem IsN.grows (k : Nat) (Z : Int) : Grows (IsN k Z) := fun _ _ _ h hb => NumAt.below h hb
theorem IsL.grows (l : List Nat) : Grows (IsL l) := fun _ _ _ h hb => Lim.below h hb
theorem IsL.slice {l : List Nat} {v : Value} {w : World} (h : IsL l v w) : ∃ p n c, v = .slice p n c := by
  obtain ⟨a, c, rfl, -⟩ := h
  exact ⟨_, _, _, rfl⟩
theorem ansV {e : Ending} {x : Value} {B : Prop} (h : e = .returned x ∧ B) : (∃ r, e = .returned r ∧ r = x) ∧ B := ⟨⟨x, h.1, rfl⟩, h.2⟩

end Go.Proofs.YtejlhefjphiahaaDoor
