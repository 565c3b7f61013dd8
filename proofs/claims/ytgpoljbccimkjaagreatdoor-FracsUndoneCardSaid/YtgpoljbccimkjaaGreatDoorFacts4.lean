/- Regions in the text's order: what is known of each slot, and the last operations left to the walk. -/
import Derived.Test.YtgpoljbccimkjaaGreatDoorProg
import Derived.WalkKit
import Derived.Orders
import Derived.Below
import Derived.KernelRfl
namespace Go.Proofs.YtgpoljbccimkjaaGreatDoor
set_option linter.unusedSimpArgs false
set_option linter.unusedVariables false
open Go.RowKit

/-- What is known of a slot: a truth, or more. -/
def Known (bs : List (Nat × Bool)) (fs : List (Nat × (Value → World → Prop))) (t : Nat) (v : Value) (w : World) : Prop :=
  match bs.lookup t with
  | some b => v = .bool b
  | none => match fs.lookup t with
    | some φ => φ v w
    | none => True

/-- It holds on, as the world grows. -/
def Grows (φ : Value → World → Prop) : Prop := ∀ v w w', φ v w → Below w.heap.size w w' → φ v w'

def AllGrow : List (Nat × (Value → World → Prop)) → Prop
  | [] => True
  | p :: ps => Grows p.2 ∧ AllGrow ps

theorem AllGrow.lookup {fs : List (Nat × (Value → World → Prop))} (h : AllGrow fs) {t : Nat} {φ : Value → World → Prop} (hl : fs.lookup t = some φ) : Grows φ := by
  induction fs with
  | nil => cases hl
  | cons p ps ih =>
    obtain ⟨k, ψ⟩ := p
    rw [List.lookup_cons] at hl
    split at hl
    · injection hl with e; subst e; exact h.1
    · exact ih h.2 hl

theorem Known.grow {bs : List (Nat × Bool)} {fs : List (Nat × (Value → World → Prop))} (hf : AllGrow fs) {t : Nat} {v : Value} {w w' : World} (h : Known bs fs t v w) (hb : Below w.heap.size w w') : Known bs fs t v w' := by
  unfold Known at *
  split
  · next b e => rw [e] at h; exact h
  · next e =>
    rw [e] at h
    split
    · next φ e2 => rw [e2] at h; exact hf.lookup e2 v w w' h hb
    · trivial

def looks (o : Oper) : List Nat := o.op.operands.toList.filterMap fun | .tmp t => some t | _ => none

/-- One operation, by what is known. -/
def StepOk (P : Program) (bs : List (Nat × Bool)) (fs : List (Nat × (Value → World → Prop))) (w0 : World) (o : Oper) : Prop :=
  ∀ (Q : Exit → Act → World → Prop) (a : Act) (w : World), Below w0.heap.size w0 w → (∀ t, t ∈ looks o → Known bs fs t (a.eval (.tmp t)) w) →
    o.wp P a w (fun a' w' => ∃ v, a' = a.put o.dst v ∧ (∀ d, o.dst = some d → Known bs fs d v w') ∧ Below w.heap.size w w') Q

def AllStep (P : Program) (bs : List (Nat × Bool)) (fs : List (Nat × (Value → World → Prop))) (w0 : World) : List Oper → Prop
  | [] => True
  | o :: l => StepOk P bs fs w0 o ∧ AllStep P bs fs w0 l

theorem AllStep.cons {P : Program} {bs : List (Nat × Bool)} {fs : List (Nat × (Value → World → Prop))} {w0 : World} {o : Oper} {l : List Oper} (h : StepOk P bs fs w0 o) (h' : AllStep P bs fs w0 l) : AllStep P bs fs w0 (o :: l) := ⟨h, h'⟩
theorem AllStep.nil {P : Program} {bs : List (Nat × Bool)} {fs : List (Nat × (Value → World → Prop))} {w0 : World} : AllStep P bs fs w0 [] := trivial
theorem AllStep.get {P : Program} {bs : List (Nat × Bool)} {fs : List (Nat × (Value → World → Prop))} {w0 : World} {l : List Oper} (h : AllStep P bs fs w0 l) {o : Oper} (ho : o ∈ l) : StepOk P bs fs w0 o := by
  induction l with
  | nil => cases ho
  | cons x xs ih =>
    rcases List.mem_cons.1 ho with rfl | ho
    · exact h.1
    · exact ih h.2 ho

/-- Whoever writes slot t comes before o. -/
def waitsB (ops : Array Oper) (o : Oper) (t : Nat) : Bool :=
  (List.range ops.size).all fun j => match ops[j]? with
    | none => true
    | some p => p.dst != some t || o.after.any fun e => e.on == j && Region.binds .any e

/-- The order's edges serve. -/
def edgesB (bs : List (Nat × Bool)) (n : Nat) (ops : Array Oper) : Bool :=
  (List.range ops.size).all fun i => match ops[i]? with
    | none => true
    | some o => (looks o).all (waitsB ops o) && o.after.all (fun e => !Region.binds .any e || decide (e.on < i)) &&
      (match o.dst with | none => true | some d => decide (d < n)) &&
      (match o.guard with
        | none => true
        | some (g, want) => match (ops[g]?).bind (·.dst) with
          | none => false
          | some d => bs.lookup d == some want && waitsB ops o d && decide (d < n))

section
variable {P : Program} {ops : Array Oper} {bs : List (Nat × Bool)} {fs : List (Nat × (Value → World → Prop))} {n : Nat} {w0 : World} {ds : List Deferred} {Q : Exit → Act → World → Prop}

structure Inv (ops : Array Oper) (bs : List (Nat × Bool)) (fs : List (Nat × (Value → World → Prop))) (n : Nat) (w0 : World) (ds : List Deferred) (listed : Array Bool) (a : Act) (w : World) : Prop where
  below : Below w0.heap.size w0 w
  size : a.tmps.size = n
  defers : a.defers = ds
  known : ∀ t, (∀ j p, ops[j]? = some p → p.dst = some t → listed.getD j false = true) → Known bs fs t (a.eval (.tmp t)) w

theorem waits_listed {o : Oper} {t : Nat} {listed : Array Bool} (h : waitsB ops o t = true) (hall : ∀ e ∈ o.after, Region.binds .any e = true → listed.getD e.on false = true) : ∀ j p, ops[j]? = some p → p.dst = some t → listed.getD j false = true := by
  intro j p hj hp
  unfold waitsB at h
  rw [List.all_eq_true] at h
  have hlt : j < ops.size := (Array.getElem?_eq_some_iff.1 hj).1
  have h1 := h j (List.mem_range.2 hlt)
  rw [hj] at h1
  simp only [hp, bne_self_eq_false, Bool.false_or] at h1
  rw [Array.any_eq_true] at h1
  obtain ⟨k, hk, h2⟩ := h1
  rw [Bool.and_eq_true, beq_iff_eq] at h2
  have h3 := hall _ (Array.getElem_mem hk) h2.2
  rwa [h2.1] at h3

theorem edges_at (h : edgesB bs n ops = true) {i : Nat} {o : Oper} (ho : ops[i]? = some o) :
    (∀ t, t ∈ looks o → waitsB ops o t = true) ∧ (∀ e ∈ o.after, Region.binds .any e = true → e.on < i) ∧ (∀ d, o.dst = some d → d < n) ∧
    (∀ g want, o.guard = some (g, want) → ∃ d, (ops[g]?).bind (·.dst) = some d ∧ bs.lookup d = some want ∧ waitsB ops o d = true ∧ d < n) := by
  unfold edgesB at h
  rw [List.all_eq_true] at h
  have hlt : i < ops.size := (Array.getElem?_eq_some_iff.1 ho).1
  have h1 := h i (List.mem_range.2 hlt)
  rw [ho] at h1
  simp only [Bool.and_eq_true] at h1
  obtain ⟨⟨⟨h2, h3⟩, h4⟩, h5⟩ := h1
  refine ⟨fun t ht => List.all_eq_true.1 h2 t ht, fun e he hb => ?_, fun d hd => ?_, fun g want hg => ?_⟩
  · rw [Array.all_eq_true] at h3
    obtain ⟨k, hk, rfl⟩ := Array.getElem_of_mem he
    have := h3 k hk
    simp only [hb, Bool.not_true, Bool.false_or, decide_eq_true_eq] at this
    exact this
  · rw [hd] at h4
    simpa using h4
  · rw [hg] at h5
    simp only at h5
    cases hd : (ops[g]?).bind (·.dst) with
    | none => rw [hd] at h5; simp at h5
    | some d =>
      rw [hd] at h5
      simp only [Bool.and_eq_true, beq_iff_eq, decide_eq_true_eq] at h5
      exact ⟨d, rfl, h5.1.1, h5.1.2, h5.2⟩

theorem getD_at {β : Type _} {l : Array β} {i : Nat} (h : i < l.size) (x : β) : l.getD i x = l[i] := by simp [Array.getD_eq_getD_getElem?, h]
theorem getD_tf {listed : Array Bool} {j : Nat} (h : j < listed.size) (x y : Bool) : listed.getD j x = listed.getD j y := by simp [Array.getD, h]

theorem all_listed (h : edgesB bs n ops = true) {listed : Array Bool} (hl : listed.size = ops.size) (hr : Region.ready .any ops listed = []) : ∀ i, i < ops.size → listed.getD i false = true := by
  intro i
  induction i using Nat.strongRecOn with
  | ind i ih =>
    intro hi
    by_cases hx : listed.getD i false = true
    · exact hx
    · exfalso
      have hf : listed.getD i true = false := by
        rw [getD_tf (by omega) true false]
        simpa using hx
      have hm : i ∈ Region.ready .any ops listed := by
        refine mem_ready.2 ⟨hf, ops[i], Array.getElem?_eq_getElem hi, fun e he hb => ?_⟩
        have hlt := (edges_at h (Array.getElem?_eq_getElem hi)).2.1 e he hb
        exact ih e.on hlt (by omega)
      rw [hr] at hm
      cases hm

theorem eval_put {a : Act} {dst : Option Tmp} {v : Value} {t : Nat} (ht : t < a.tmps.size) : (a.put dst v).eval (.tmp t) = if dst = some t then v else a.eval (.tmp t) := by
  cases dst with
  | none => simp [Act.put]
  | some d =>
    show (a.tmps.setIfInBounds d v).getD t undef = if some d = some t then v else a.tmps.getD t undef
    by_cases hd : d = t
    · subst hd
      simp [Array.getD, ht]
    · rw [if_neg (fun e => hd (Option.some.inj e))]
      simp [Array.getD, ht, hd]

theorem eval_out {a : Act} {t : Nat} (ht : ¬ t < a.tmps.size) : a.eval (.tmp t) = undef := by
  show a.tmps.getD t undef = undef
  simp [Array.getD, ht]

theorem Inv.step (hf : AllGrow fs) {listed : Array Bool} {a : Act} {w w' : World} {i : Nat} {o : Oper} {v : Value} (h : Inv ops bs fs n w0 ds listed a w) (hl : listed.size = ops.size) (ho : ops[i]? = some o) (hdn : ∀ d, o.dst = some d → d < n) (hv : ∀ d, o.dst = some d → Known bs fs d v w') (hb : Below w.heap.size w w') :
    Inv ops bs fs n w0 ds (listed.setIfInBounds i true) (a.put o.dst v) w' := by
  refine ⟨h.below.trans (hb.mono h.below.size), ?_, ?_, ?_⟩
  · rw [← h.size]; cases o.dst <;> simp [Act.put]
  · rw [← h.defers]; cases o.dst <;> simp [Act.put]
  · intro t ht
    by_cases hd : o.dst = some t
    · have htn : t < a.tmps.size := by rw [h.size]; exact hdn t hd
      rw [eval_put htn, if_pos hd]
      exact hv t hd
    · have hold : Known bs fs t (a.eval (.tmp t)) w := by
        refine h.known t fun j p hj hp => ?_
        have h1 := ht j p hj hp
        have hji : j ≠ i := by
          rintro rfl
          rw [ho] at hj
          injection hj with e
          subst e
          exact hd hp
        have hjs : j < listed.size := by rw [hl]; exact (Array.getElem?_eq_some_iff.1 hj).1
        rw [getD_at (by simpa using hjs), Array.getElem_setIfInBounds_ne hjs (by omega)] at h1
        rw [getD_at hjs]
        exact h1
      by_cases htn : t < a.tmps.size
      · rw [eval_put htn, if_neg hd]
        exact hold.grow hf hb
      · rw [eval_out htn] at hold
        have : ¬ t < (a.put o.dst v).tmps.size := by cases o.dst <;> simpa [Act.put] using htn
        rw [eval_out this]
        exact hold.grow hf hb

theorem count_set {l : List Bool} {i : Nat} (h : l[i]? = some false) : (l.set i true).count false + 1 = l.count false := by
  induction l generalizing i with
  | nil => simp at h
  | cons x xs ih =>
    cases i with
    | zero => simp at h; subst h; simp
    | succ i =>
      simp only [List.getElem?_cons_succ] at h
      have := ih h
      simp only [List.set_cons_succ, List.count_cons]
      omega

theorem wpAny_known (hf : AllGrow fs) (hB : edgesB bs n ops = true) (hs : AllStep P bs fs w0 ops.toList)
    (hend : ∀ a w, Below w0.heap.size w0 w → a.tmps.size = n → a.defers = ds → (∀ t, Known bs fs t (a.eval (.tmp t)) w) → Q .normal a w) :
    ∀ (fuel : Nat) (listed : Array Bool) (a : Act) (w : World), listed.size = ops.size → listed.toList.count false ≤ fuel → Inv ops bs fs n w0 ds listed a w → wpAny P .any ops Q fuel listed a w := by
  have done : ∀ (listed : Array Bool) (a : Act) (w : World), listed.size = ops.size → Inv ops bs fs n w0 ds listed a w → Region.ready .any ops listed = [] → Q .normal a w := by
    intro listed a w hl hI hr
    have hall := all_listed hB hl hr
    exact hend a w hI.below hI.size hI.defers fun t => hI.known t fun j p hj _ => hall j (Array.getElem?_eq_some_iff.1 hj).1
  intro fuel
  induction fuel with
  | zero =>
    intro listed a w hl hc hI
    have hr : Region.ready .any ops listed = [] := by
      rw [List.eq_nil_iff_forall_not_mem]
      intro i hi
      obtain ⟨h1, o, ho, -⟩ := mem_ready.1 hi
      have hlt : i < listed.size := by rw [hl]; exact (Array.getElem?_eq_some_iff.1 ho).1
      have h2 : false ∈ listed.toList := by
        rw [getD_at hlt] at h1
        rw [← h1]
        exact Array.mem_toList_iff.2 (Array.getElem_mem hlt)
      have := List.count_pos_iff.2 h2
      omega
    exact ⟨hr, done listed a w hl hI hr⟩
  | succ fuel ih =>
    intro listed a w hl hc hI
    refine ⟨fun hr => done listed a w hl hI hr, fun i hi => ?_⟩
    obtain ⟨h1, o, ho, hall⟩ := mem_ready.1 hi
    have hlt : i < listed.size := by rw [hl]; exact (Array.getElem?_eq_some_iff.1 ho).1
    obtain ⟨e1, e2, e3, e4⟩ := edges_at hB ho
    have hw : Region.wanted o (yielded ops a.tmps) = true := by
      unfold Region.wanted
      cases hg : o.guard with
      | none => rfl
      | some p =>
        obtain ⟨g, want⟩ := p
        obtain ⟨d, hd, hb, hwt, hdn⟩ := e4 g want hg
        have hk := hI.known d (waits_listed hwt hall)
        unfold Known at hk
        rw [hb] at hk
        have hds : d < a.tmps.size := by rw [hI.size]; exact hdn
        have hk2 : a.tmps[d]? = some (.bool want) := by
          have : a.tmps.getD d undef = .bool want := hk
          rw [getD_at hds] at this
          rw [Array.getElem?_eq_getElem hds, this]
        simp only [yielded, hd, Option.bind_some, hk2, beq_self_eq_true]
    unfold wpOp
    simp only [ho, hw, if_true]
    left
    have hmem : o ∈ ops.toList := Array.mem_toList_iff.2 (Array.mem_of_getElem? ho)
    refine Oper.wp_mono ?_ (hs.get hmem Q a w hI.below (fun t ht => hI.known t (waits_listed (e1 t ht) hall)))
    rintro a' w' ⟨v, rfl, hv, hb⟩
    refine ih _ _ _ (by simp [hl]) ?_ (hI.step hf hl ho e3 hv hb)
    have hcnt := count_set (l := listed.toList) (i := i) (by
      rw [getD_at hlt] at h1
      rw [Array.getElem?_toList, Array.getElem?_eq_getElem hlt, h1])
    rw [Array.toList_setIfInBounds]
    omega

end

/-- The slots that are known ahead. -/
def OutKnown (a : Act) (w : World) : List (Nat × (Value → World → Prop)) → Prop
  | [] => True
  | p :: ps => p.2 (a.eval (.tmp p.1)) w ∧ OutKnown a w ps

/-- All else that is known, is known of what the region writes. -/
def keysB (bs : List (Nat × Bool)) (ks : List Nat) (ops : Array Oper) : Bool :=
  (bs.all fun p => ops.any fun o => o.dst == some p.1) && ks.all fun t => ops.any fun o => o.dst == some t

theorem lookup_append {fs gs : List (Nat × (Value → World → Prop))} {t : Nat} : (fs ++ gs).lookup t = match fs.lookup t with | some φ => some φ | none => gs.lookup t := by
  induction fs with
  | nil => rfl
  | cons p ps ih =>
    obtain ⟨k, φ⟩ := p
    rw [List.cons_append, List.lookup_cons, List.lookup_cons]
    cases t == k
    · exact ih
    · rfl

theorem lookup_mem {β : Type _} {l : List (Nat × β)} {t : Nat} {x : β} (h : l.lookup t = some x) : (t, x) ∈ l := by
  induction l with
  | nil => cases h
  | cons p ps ih =>
    obtain ⟨k, y⟩ := p
    rw [List.lookup_cons] at h
    split at h
    · next e => injection h with e2; subst e2; rw [beq_iff_eq] at e; subst e; exact List.mem_cons_self
    · exact List.mem_cons_of_mem _ (ih h)

theorem OutKnown.get {a : Act} {w : World} {l : List (Nat × (Value → World → Prop))} (h : OutKnown a w l) {t : Nat} {φ : Value → World → Prop} (hm : (t, φ) ∈ l) : φ (a.eval (.tmp t)) w := by
  induction l with
  | nil => cases hm
  | cons p ps ih =>
    rcases List.mem_cons.1 hm with e | hm
    · subst e; exact h.1
    · exact ih h.2 hm

/-- A region that draws its order: each operation by what is known of its operands. -/
theorem wp_region_known {P : Program} {id : Nat} {l : List Oper} {Q : Exit → Act → World → Prop} {a : Act} {w : World} (bs : List (Nat × Bool)) (outs ins : List (Nat × (Value → World → Prop))) (n : Nat) (hm : P.follows .mixedOrders = true)
    (hn : a.tmps.size = n) (hB : edgesB bs n l.toArray = true) (hK : keysB bs (ins.map Prod.fst) l.toArray = true) (ho : OutKnown a w outs) (hf : AllGrow (outs ++ ins))
    (hs : AllStep P bs (outs ++ ins) w l)
    (hend : ∀ a' w', Below w.heap.size w w' → a'.tmps.size = n → a'.defers = a.defers → (∀ t, Known bs (outs ++ ins) t (a'.eval (.tmp t)) w') → Q .normal a' w') :
    (Code.region id l.toArray true).wp P Q a w := by
  refine wp_region_any hm (wpAny_known (bs := bs) (fs := outs ++ ins) (n := n) (w0 := w) (ds := a.defers) hf hB (by simpa using hs) hend _ _ _ _ (by simp) (by simp) ?_)
  have hgr : Below w.heap.size w { w with drawn := w.drawn + 1 } := (Below.refl _ _).drew
  refine ⟨hgr, hn, rfl, fun t ht => ?_⟩
  unfold keysB at hK
  rw [Bool.and_eq_true, List.all_eq_true, List.all_eq_true] at hK
  have none_of : (∃ o ∈ l.toArray, o.dst = some t) → False := by
    rintro ⟨o, h1, h2⟩
    obtain ⟨j, hj, he⟩ := Array.getElem_of_mem h1
    have := ht j o (by rw [Array.getElem?_eq_getElem hj, he]) h2
    rw [getD_at (by simpa using hj)] at this
    simp at this
  have any_of : ∀ k, (l.toArray.any fun o => o.dst == some k) = true → ∃ o ∈ l.toArray, o.dst = some k := by
    intro k h
    rw [Array.any_eq_true] at h
    obtain ⟨j, hj, h2⟩ := h
    exact ⟨_, Array.getElem_mem hj, by simpa using h2⟩
  unfold Known
  split
  · next b e => exact absurd (any_of t (hK.1 (t, b) (lookup_mem e))) (fun h => none_of h)
  · split
    · next φ e =>
      rw [lookup_append] at e
      cases hl2 : outs.lookup t with
      | none =>
        rw [hl2] at e
        exact absurd (any_of t (hK.2 t (List.mem_map.2 ⟨(t, φ), lookup_mem e, rfl⟩))) (fun h => none_of h)
      | some ψ =>
        rw [hl2] at e
        injection e with e
        subst e
        exact hf.lookup (by rw [lookup_append, hl2]) _ _ _ (ho.get (lookup_mem hl2)) hgr
    · trivial

/-- The end of a call that answers slot t. -/
theorem ret_slot {P : Program} {fn : Func} {R : Ending → World → Prop} {a : Act} {w : World} {t : Nat} {v : Value} (hr : fn.results = #[.tmp t]) (hd : a.defers = []) (h : a.eval (.tmp t) = v) (hR : R (.returned v) w) : bodyPost P fn R .ret a w := by
  have h1 : a.tmps[t]?.getD undef = v := by rw [← Array.getD_eq_getD_getElem?]; exact h
  refine bodyPost_ret (v := v) ?_ hd hR
  simp [results, hr, go_sem, h1]

end Go.Proofs.YtgpoljbccimkjaaGreatDoor

namespace Go.Proofs.YtgpoljbccimkjaaGreatDoor
set_option linter.unusedSimpArgs false
set_option linter.unusedVariables false
open Go.RowKit

/-- An operation that looks at no memory. -/
def pureB (o : Oper) : Bool := match o.op with
  | .move _ | .assign _ | .extract _ _ => true
  | _ => false

def PureOk (P : Program) (bs : List (Nat × Bool)) (fs : List (Nat × (Value → World → Prop))) (o : Oper) : Prop :=
  ∀ (a : Act) (w : World), (∀ t, t ∈ looks o → Known bs fs t (a.eval (.tmp t)) w) →
    ∃ v, (∀ w', (execOp a.eval o).run P w' = .ok (.value v) w') ∧ (∀ d, o.dst = some d → Known bs fs d v w)
def AllocOk (P : Program) (bs : List (Nat × Bool)) (fs : List (Nat × (Value → World → Prop))) (w0 : World) (o : Oper) : Prop :=
  ∀ (a : Act) (w : World), Below w0.heap.size w0 w → ∃ w', (execOp a.eval o).run P w = .ok (.value (.pointer (some ⟨w.heap.size, 0, none⟩))) w' ∧ Below w.heap.size w w' ∧ (∀ d, o.dst = some d → Known bs fs d (.pointer (some ⟨w.heap.size, 0, none⟩)) w')

def isNew (nw : List Nat) (o : Oper) : Bool := match o.dst with
  | some d => nw.contains d
  | none => false

def AllStep2 (P : Program) (bs : List (Nat × Bool)) (fs : List (Nat × (Value → World → Prop))) (nw : List Nat) (w0 : World) : List Oper → Prop
  | [] => True
  | o :: l => (if pureB o then PureOk P bs fs o else if isNew nw o then AllocOk P bs fs w0 o else StepOk P bs fs w0 o) ∧ AllStep2 P bs fs nw w0 l

theorem AllStep2.get {P : Program} {bs : List (Nat × Bool)} {fs : List (Nat × (Value → World → Prop))} {nw : List Nat} {w0 : World} {l : List Oper} (h : AllStep2 P bs fs nw w0 l) {o : Oper} (ho : o ∈ l) : if pureB o then PureOk P bs fs o else if isNew nw o then AllocOk P bs fs w0 o else StepOk P bs fs w0 o := by
  induction l with
  | nil => cases ho
  | cons x xs ih =>
    rcases List.mem_cons.1 ho with rfl | ho
    · exact h.1
    · exact ih h.2 ho

/-- o comes after operation j. -/
def after (o : Oper) (j : Nat) : Bool := o.after.any fun e => e.on == j && Region.binds .any e

/-- o comes after operation j, by others between. -/
def reachB (ops : Array Oper) : Nat → Oper → Nat → Bool
  | 0, o, j => after o j
  | d + 1, o, j => after o j || o.after.any fun e => Region.binds .any e && match ops[e.on]? with
    | some p => reachB ops d p j
    | none => false

/-- From operation m on, all goes in the text's order, behind all else but what looks at no memory. -/
def tailB (nw : List Nat) (m : Nat) (ops : Array Oper) : Bool :=
  Region.noSelect ops && decide (m < ops.size) &&
  (List.range ops.size).all fun i => match ops[i]? with
    | none => true
    | some o => (if m ≤ i then (List.range m).all (fun j => reachB ops 4 o j || match ops[j]? with | some p => pureB p | none => true) && (i == m || after o (i - 1)) else true) &&
      (if pureB o && decide (i < m) then !isNew nw o && (List.range ops.size).all (fun k => k == i || match ops[k]? with | some p => after p i || after o k || o.apart ops p | none => true) else true) &&
      (if m ≤ i then !isNew nw o else true)

section
variable {P : Program} {ops : Array Oper} {bs : List (Nat × Bool)} {fs : List (Nat × (Value → World → Prop))} {n m : Nat} {nw : List Nat} {w0 : World} {ds : List Deferred} {Q : Exit → Act → World → Prop}

theorem after_spec {o : Oper} {j : Nat} {listed : Array Bool} (h : after o j = true) (hall : ∀ e ∈ o.after, Region.binds .any e = true → listed.getD e.on false = true) : listed.getD j false = true := by
  unfold after at h
  rw [Array.any_eq_true] at h
  obtain ⟨k, hk, h2⟩ := h
  rw [Bool.and_eq_true, beq_iff_eq] at h2
  have h3 := hall _ (Array.getElem_mem hk) h2.2
  rwa [h2.1] at h3

/-- Whatever is listed, is listed behind what it comes after. -/
def Closed (ops : Array Oper) (listed : Array Bool) : Prop := ∀ i o, ops[i]? = some o → listed.getD i false = true → ∀ e ∈ o.after, Region.binds .any e = true → listed.getD e.on false = true
theorem reach_spec {listed : Array Bool} (hc : Closed ops listed) : ∀ (d : Nat) (o : Oper) (j : Nat), reachB ops d o j = true → (∀ e ∈ o.after, Region.binds .any e = true → listed.getD e.on false = true) → listed.getD j false = true
  | 0, _, _, h, hall => after_spec h hall
  | d + 1, o, j, h, hall => by
    unfold reachB at h
    rw [Bool.or_eq_true, Array.any_eq_true] at h
    rcases h with h | ⟨k, hk, h2⟩
    · exact after_spec h hall
    · rw [Bool.and_eq_true] at h2
      obtain ⟨h3, h4⟩ := h2
      have h5 := hall _ (Array.getElem_mem hk) h3
      cases hp : ops[(o.after[k]).on]? with
      | none => rw [hp] at h4; cases h4
      | some p =>
        rw [hp] at h4
        exact reach_spec hc d p j h4 (hc _ p hp h5)
theorem listed_more {listed : Array Bool} {i j : Nat} (h : listed.getD j false = true) : (listed.setIfInBounds i true).getD j false = true := by
  by_cases hij : i = j
  · subst hij
    have hlt : i < listed.size := by
      rcases Nat.lt_or_ge i listed.size with h1 | h1
      · exact h1
      · simp [Array.getD, Nat.not_lt.2 h1] at h
    rw [getD_at (by simpa using hlt)]
    simp
  · rw [getD_set_ne false hij]
    exact h
theorem Closed.step {listed : Array Bool} (h : Closed ops listed) {i : Nat} {o : Oper} (ho : ops[i]? = some o) (hall : ∀ e ∈ o.after, Region.binds .any e = true → listed.getD e.on false = true) : Closed ops (listed.setIfInBounds i true) := by
  intro i' o' ho' hl e he hb
  refine listed_more ?_
  by_cases hij : i = i'
  · subst hij
    rw [ho] at ho'
    injection ho' with ho'
    subst ho'
    exact hall e he hb
  · rw [getD_set_ne false hij] at hl
    exact h i' o' ho' hl e he hb
theorem tail_at (h : tailB nw m ops = true) {i : Nat} {o : Oper} (ho : ops[i]? = some o) :
    (m ≤ i → (∀ j p, j < m → ops[j]? = some p → reachB ops 4 o j = true ∨ pureB p = true) ∧ (i = m ∨ after o (i - 1) = true) ∧ isNew nw o = false) ∧
    (pureB o = true → i < m → isNew nw o = false ∧ ∀ k p, ops[k]? = some p → k ≠ i → after p i = true ∨ after o k = true ∨ o.apart ops p = true) := by
  unfold tailB at h
  rw [Bool.and_eq_true, List.all_eq_true] at h
  have hlt : i < ops.size := (Array.getElem?_eq_some_iff.1 ho).1
  have h1 := h.2 i (List.mem_range.2 hlt)
  rw [ho] at h1
  simp only [Bool.and_eq_true] at h1
  obtain ⟨⟨h2, h3⟩, h4⟩ := h1
  refine ⟨fun hm => ?_, fun hp hm => ?_⟩
  · rw [if_pos hm, Bool.and_eq_true, List.all_eq_true] at h2
    rw [if_pos hm] at h4
    refine ⟨fun j p hj hjp => ?_, by simpa using h2.2, by simpa using h4⟩
    have := h2.1 j (List.mem_range.2 hj)
    rw [hjp] at this
    simpa using this
  · rw [if_pos (by rw [hp]; simpa using hm), Bool.and_eq_true, List.all_eq_true] at h3
    refine ⟨by simpa using h3.1, fun k p hk hne => ?_⟩
    have := h3.2 k (List.mem_range.2 (Array.getElem?_eq_some_iff.1 hk).1)
    rw [hk] at this
    simpa [hne, or_assoc] using this

/-- The pointers of new boxes differ. -/
def Apart2 (ops : Array Oper) (nw : List Nat) (listed : Array Bool) (a : Act) : Prop :=
  ∀ t t', t ∈ nw → t' ∈ nw → t ≠ t' → (∀ j p, ops[j]? = some p → p.dst = some t → listed.getD j false = true) → (∀ j p, ops[j]? = some p → p.dst = some t' → listed.getD j false = true) → a.eval (.tmp t) ≠ a.eval (.tmp t')

theorem listed_back {listed : Array Bool} {i t : Nat} {o : Oper} (_ : listed.size = ops.size) (ho : ops[i]? = some o) (hd : o.dst ≠ some t) (h : ∀ j p, ops[j]? = some p → p.dst = some t → (listed.setIfInBounds i true).getD j false = true) : ∀ j p, ops[j]? = some p → p.dst = some t → listed.getD j false = true := by
  intro j p hj hp
  have h1 := h j p hj hp
  have hji : i ≠ j := by
    rintro rfl
    rw [ho] at hj
    injection hj with e
    subst e
    exact hd hp
  rwa [getD_set_ne false hji] at h1

theorem eval_put' {a : Act} {dst : Option Tmp} {v : Value} {t : Nat} (hd : dst ≠ some t) : (a.put dst v).eval (.tmp t) = a.eval (.tmp t) :=
  Act.eval_put fun d e h => hd (by rw [e]; injection h with h; rw [h])

theorem Apart2.quiet {listed : Array Bool} {a : Act} {i : Nat} {o : Oper} {v : Value} (h : Apart2 ops nw listed a) (hl : listed.size = ops.size) (ho : ops[i]? = some o) (hn : isNew nw o = false) : Apart2 ops nw (listed.setIfInBounds i true) (a.put o.dst v) := by
  intro t t' ht ht' hne h1 h2
  have hd : ∀ u, u ∈ nw → o.dst ≠ some u := fun u hu e => by
    unfold isNew at hn
    rw [e] at hn
    simp [hu] at hn
  rw [eval_put' (hd t ht), eval_put' (hd t' ht')]
  exact h t t' ht ht' hne (listed_back hl ho (hd t ht) h1) (listed_back hl ho (hd t' ht') h2)

theorem Apart2.fresh {listed : Array Bool} {a : Act} {w : World} {i d : Nat} {o : Oper} (h : Apart2 ops nw listed a) (hl : listed.size = ops.size) (ho : ops[i]? = some o) (hd : o.dst = some d) (hdn : d < a.tmps.size)
    (hold : ∀ t, t ∈ nw → (∀ j p, ops[j]? = some p → p.dst = some t → listed.getD j false = true) → ∃ b, a.eval (.tmp t) = .pointer (some ⟨b, 0, none⟩) ∧ b < w.heap.size) : Apart2 ops nw (listed.setIfInBounds i true) (a.put o.dst (.pointer (some ⟨w.heap.size, 0, none⟩))) := by
  intro t t' ht ht' hne h1 h2
  by_cases e1 : o.dst = some t
  · have e2 : o.dst ≠ some t' := fun e => hne (by rw [e1] at e; exact Option.some.inj e)
    rw [eval_put' e2, eval_put (by rw [hd] at e1; injection e1 with e1; rw [← e1]; exact hdn), if_pos e1]
    obtain ⟨b, e3, hb⟩ := hold t' ht' (listed_back hl ho e2 h2)
    rw [e3]
    intro e
    simp only [Value.pointer.injEq, Option.some.injEq, Addr.mk.injEq] at e
    omega
  · by_cases e2 : o.dst = some t'
    · rw [eval_put' e1, eval_put (t := t') (by rw [hd] at e2; injection e2 with e2; rw [← e2]; exact hdn), if_pos e2]
      obtain ⟨b, e3, hb⟩ := hold t ht (listed_back hl ho e1 h1)
      rw [e3]
      intro e
      simp only [Value.pointer.injEq, Option.some.injEq, Addr.mk.injEq] at e
      omega
    · rw [eval_put' e1, eval_put' e2]
      exact h t t' ht ht' hne (listed_back hl ho e1 h1) (listed_back hl ho e2 h2)

theorem wpAny_rest (hB : edgesB bs n ops = true) (hT : tailB nw m ops = true) : ∀ (r k : Nat) (fuel : Nat) (listed : Array Bool) (a : Act) (w : World), m ≤ k → k + r = ops.size → r ≤ fuel → listed.size = ops.size → (∀ j, j < k → listed.getD j false = true) → (∀ j, k ≤ j → j < ops.size → listed.getD j false = false) →
    wpOps P ops Q (List.range' k r) a w → wpAny P .any ops Q fuel listed a w := by
  intro r
  induction r with
  | zero =>
    intro k fuel listed a w hm hk hf hl h1 h2 hw
    refine wpAny_done ?_ (by simpa [wpOps] using hw) fuel
    rw [List.eq_nil_iff_forall_not_mem]
    intro i hi
    obtain ⟨h3, o, ho, -⟩ := mem_ready.1 hi
    have hlt : i < ops.size := (Array.getElem?_eq_some_iff.1 ho).1
    have := h1 i (by omega)
    rw [getD_tf (by omega) true false] at h3
    rw [this] at h3
    cases h3
  | succ r ih =>
    intro k fuel listed a w hm hk hf hl h1 h2 hw
    obtain ⟨fuel, rfl⟩ : ∃ f, fuel = f + 1 := ⟨fuel - 1, by omega⟩
    rw [List.range'_succ, wpOps_cons] at hw
    have hks : k < ops.size := by omega
    refine ⟨fun hr => ?_, fun i hi => ?_⟩
    · have := all_listed hB hl hr k hks
      rw [h2 k (Nat.le_refl _) hks] at this
      cases this
    · obtain ⟨h3, o, ho, hall⟩ := mem_ready.1 hi
      have hlt : i < ops.size := (Array.getElem?_eq_some_iff.1 ho).1
      have hik : k ≤ i := by
        rcases Nat.lt_or_ge i k with h4 | h4
        · rw [getD_tf (by omega) true false, h1 i h4] at h3; cases h3
        · exact h4
      have hie : i = k := by
        rcases Nat.lt_or_ge k i with h4 | h4
        · have h5 := ((tail_at hT ho).1 (by omega)).2.1
          rcases h5 with h5 | h5
          · omega
          · have h6 := after_spec h5 hall
            rw [h2 (i - 1) (by omega) (by omega)] at h6
            cases h6
        · omega
      subst hie
      refine wpOp_mono (fun a' w' h => ih (i + 1) fuel _ a' w' (by omega) (by omega) (by omega) (by simp [hl]) (fun j hj => ?_) (fun j hj hjs => ?_) h) hw
      · by_cases hji : i = j
        · subst hji; rw [getD_at (by simp [hl, hlt])]; simp
        · rw [getD_set_ne false hji]; exact h1 j (by omega)
      · rw [getD_set_ne false (by omega)]; exact h2 j (by omega) hjs

theorem wpAny_tail (hf : AllGrow fs) (hB : edgesB bs n ops = true) (hT : tailB nw m ops = true) (hs : AllStep2 P bs fs nw w0 (ops.toList.take m))
    (hQ : ∀ (d : Option Tmp) (v : Value) c a w, Q (.panic c) (a.put d v) w → Q (.panic c) a w)
    (hptr : ∀ t, t ∈ nw → ∀ v w, Known bs fs t v w → ∃ b, v = .pointer (some ⟨b, 0, none⟩) ∧ b < w.heap.size)
    (hend : ∀ a w, Below w0.heap.size w0 w → a.tmps.size = n → a.defers = ds → (∀ t, (∀ j p, ops[j]? = some p → p.dst = some t → j < m) → Known bs fs t (a.eval (.tmp t)) w) → (∀ t t', t ∈ nw → t' ∈ nw → t ≠ t' → a.eval (.tmp t) ≠ a.eval (.tmp t')) → wpOps P ops Q (List.range' m (ops.size - m)) a w) :
    ∀ (fuel : Nat) (listed : Array Bool) (a : Act) (w : World), listed.size = ops.size → (∀ j, m ≤ j → j < ops.size → listed.getD j false = false) → listed.toList.count false ≤ fuel → Inv ops bs fs n w0 ds listed a w → Apart2 ops nw listed a → Closed ops listed → wpAny P .any ops Q fuel listed a w := by
  have hms : m < ops.size := by
    unfold tailB at hT
    simp only [Bool.and_eq_true, decide_eq_true_eq] at hT
    exact hT.1.2
  have hsel : Region.noSelect ops = true := by
    unfold tailB at hT
    simp only [Bool.and_eq_true] at hT
    exact hT.1.1
  intro fuel
  induction fuel with
  | zero =>
    intro listed a w hl hu hc hI hA hCl
    exfalso
    have h2 : false ∈ listed.toList := by
      have := hu m (Nat.le_refl _) hms
      rw [getD_at (by omega)] at this
      rw [← this]
      exact Array.mem_toList_iff.2 (Array.getElem_mem (by omega))
    have := List.count_pos_iff.2 h2
    omega
  | succ fuel ih =>
    intro listed a w hl hu hc hI hA hCl
    have cnt : ∀ i, i < ops.size → listed.getD i true = false → (listed.setIfInBounds i true).toList.count false ≤ fuel := by
      intro i hi h1
      have hcnt := count_set (l := listed.toList) (i := i) (by
        rw [getD_at (by omega)] at h1
        rw [Array.getElem?_toList, Array.getElem?_eq_getElem (by omega), h1])
      rw [Array.toList_setIfInBounds]
      omega
    have keepU : ∀ i, i < m → ∀ j, m ≤ j → j < ops.size → (listed.setIfInBounds i true).getD j false = false := fun i hi j h1 h2 => by
      rw [getD_set_ne false (by omega)]
      exact hu j h1 h2
    have wantedOf : ∀ {i : Nat} {o : Oper}, ops[i]? = some o → (∀ e ∈ o.after, Region.binds .any e = true → listed.getD e.on false = true) → Region.wanted o (yielded ops a.tmps) = true := by
      intro i o ho hall
      obtain ⟨-, -, -, e4⟩ := edges_at hB ho
      unfold Region.wanted
      cases hg : o.guard with
      | none => rfl
      | some p =>
        obtain ⟨g, want⟩ := p
        obtain ⟨d, hd, hb, hwt, hdn⟩ := e4 g want hg
        have hk := hI.known d (waits_listed hwt hall)
        unfold Known at hk
        rw [hb] at hk
        have hds : d < a.tmps.size := by rw [hI.size]; exact hdn
        have hk2 : a.tmps[d]? = some (.bool want) := by
          have : a.tmps.getD d undef = .bool want := hk
          rw [getD_at hds] at this
          rw [Array.getElem?_eq_getElem hds, this]
        simp only [yielded, hd, Option.bind_some, hk2, beq_self_eq_true]
    have memPre : ∀ {i : Nat} {o : Oper}, ops[i]? = some o → i < m → o ∈ ops.toList.take m := by
      intro i o ho hi
      refine List.mem_iff_getElem?.2 ⟨i, ?_⟩
      rw [List.getElem?_take, if_pos hi, Array.getElem?_toList]
      exact ho
    by_cases hp : ∃ i o, i ∈ Region.ready .any ops listed ∧ ops[i]? = some o ∧ i < m ∧ pureB o = true
    · obtain ⟨i, o, hi, ho, him, hpo⟩ := hp
      obtain ⟨h1, o', ho', hall⟩ := mem_ready.1 hi
      rw [ho] at ho'
      injection ho' with ho'
      subst ho'
      obtain ⟨e1, e2, e3, e4⟩ := edges_at hB ho
      have hst := hs.get (memPre ho him)
      rw [if_pos hpo] at hst
      obtain ⟨v, hv1, hv2⟩ := hst a w (fun t ht => hI.known t (waits_listed (e1 t ht) hall))
      obtain ⟨hnew, hfree⟩ := (tail_at hT ho).2 hpo him
      have hlt : i < ops.size := (Array.getElem?_eq_some_iff.1 ho).1
      refine wpAny_first ho (Region.noSelect_spec hsel) (hQ o.dst v) fuel listed a w ?_ hi (.inl ⟨wantedOf ho hall, hv1⟩) ?_
      · intro j oj hj hne hun hno
        rcases hfree j oj hj hne with h5 | h5 | h5
        · unfold after at h5
          rw [Array.any_eq_true] at h5
          obtain ⟨k, hk, h6⟩ := h5
          rw [Bool.and_eq_true, beq_iff_eq] at h6
          exact absurd h6.1 (hno _ (Array.getElem_mem hk) h6.2)
        · have h6 := after_spec h5 hall
          rw [getD_tf (by rw [hl]; exact (Array.getElem?_eq_some_iff.1 hj).1) true false, h6] at hun
          cases hun
        · exact h5
      · exact ih _ _ _ (by simp [hl]) (keepU i him) (cnt i hlt h1) (hI.step hf hl ho e3 hv2 (Below.refl _ _)) (hA.quiet hl ho hnew) (hCl.step ho hall)
    · refine ⟨fun hr => ?_, fun i hi => ?_⟩
      · have := all_listed hB hl hr m hms
        rw [hu m (Nat.le_refl _) hms] at this
        cases this
      · obtain ⟨h1, o, ho, hall⟩ := mem_ready.1 hi
        obtain ⟨e1, e2, e3, e4⟩ := edges_at hB ho
        have hlt : i < ops.size := (Array.getElem?_eq_some_iff.1 ho).1
        by_cases him : i < m
        · have hpo : pureB o = false := by
            cases hpb : pureB o
            · rfl
            · exact absurd ⟨i, o, hi, ho, him, hpb⟩ hp
          have hst := hs.get (memPre ho him)
          rw [hpo, if_neg (by decide)] at hst
          unfold wpOp
          simp only [ho, wantedOf ho hall, if_true]
          left
          cases hn : isNew nw o
          · rw [hn, if_neg (by decide)] at hst
            refine Oper.wp_mono ?_ (hst Q a w hI.below (fun t ht => hI.known t (waits_listed (e1 t ht) hall)))
            rintro a' w' ⟨v, rfl, hv, hb⟩
            exact ih _ _ _ (by simp [hl]) (keepU i him) (cnt i hlt h1) (hI.step hf hl ho e3 hv hb) (hA.quiet hl ho hn) (hCl.step ho hall)
          · rw [hn, if_pos rfl] at hst
            obtain ⟨w', hx, hb, hv⟩ := hst a w hI.below
            unfold Oper.wp
            rw [hx]
            obtain ⟨d, hd⟩ : ∃ d, o.dst = some d := by
              unfold isNew at hn
              cases hd : o.dst with
              | none => rw [hd] at hn; cases hn
              | some d => exact ⟨d, rfl⟩
            refine ih _ _ _ (by simp [hl]) (keepU i him) (cnt i hlt h1) (hI.step hf hl ho e3 hv hb) (hA.fresh hl ho hd (by rw [hI.size]; exact e3 d hd) (fun t ht hlst => hptr t ht _ _ (hI.known t hlst))) (hCl.step ho hall)
        · have hmi : m ≤ i := by omega
          obtain ⟨f1, f2, -⟩ := (tail_at hT ho).1 hmi
          have hie : i = m := by
            rcases f2 with f2 | f2
            · exact f2
            · have h6 := after_spec f2 hall
              by_cases h7 : m ≤ i - 1
              · rw [hu (i - 1) h7 (by omega)] at h6; cases h6
              · omega
          subst hie
          have hpre : ∀ j, j < i → listed.getD j false = true := by
            intro j
            induction j using Nat.strongRecOn with
            | ind j ihj =>
              intro hj
              by_cases hx : listed.getD j false = true
              · exact hx
              · exfalso
                obtain ⟨p, hjp⟩ : ∃ p, ops[j]? = some p := ⟨_, Array.getElem?_eq_getElem (by omega)⟩
                have hjr : j ∈ Region.ready .any ops listed := by
                  refine mem_ready.2 ⟨by rw [getD_tf (by omega) true false]; simpa using hx, p, hjp, fun e he hb => ?_⟩
                  have hlt2 := (edges_at hB hjp).2.1 e he hb
                  exact ihj e.on hlt2 (by omega)
                rcases f1 j p hj hjp with f3 | f3
                · exact hx (reach_spec hCl _ _ _ f3 hall)
                · exact hp ⟨j, p, hjr, hjp, hj, f3⟩
          have hkn : ∀ t, (∀ j p, ops[j]? = some p → p.dst = some t → j < i) → ∀ j p, ops[j]? = some p → p.dst = some t → listed.getD j false = true := fun t h j p hj hpd => hpre j (h j p hj hpd)
          have hw := hend a w hI.below hI.size hI.defers (fun t ht => hI.known t (hkn t ht)) (fun t t' ht ht' hne => ?_)
          · have hr1 : ops.size - i = (ops.size - i - 1) + 1 := by omega
            rw [hr1, List.range'_succ, wpOps_cons] at hw
            refine wpOp_mono (fun a' w' h => wpAny_rest hB hT (ops.size - i - 1) (i + 1) fuel _ a' w' (by omega) (by omega) ?_ (by simp [hl]) (fun j hj => ?_) (fun j hj hjs => ?_) h) hw
            · have h8 := cnt i hlt h1
              have h9 : ops.size - i - 1 ≤ (listed.setIfInBounds i true).toList.count false := by
                have h10 : ((listed.setIfInBounds i true).toList.drop (i + 1)) = List.replicate (ops.size - i - 1) false := by
                  apply List.ext_getElem?
                  intro q
                  rw [List.getElem?_drop, List.getElem?_replicate, Array.getElem?_toList]
                  by_cases hq : q < ops.size - i - 1
                  · rw [if_pos hq, Array.getElem?_setIfInBounds_ne (by omega), Array.getElem?_eq_getElem (by omega)]
                    have h11 := hu (i + 1 + q) (by omega) (by omega)
                    rw [getD_at (by omega)] at h11
                    rw [h11]
                  · rw [if_neg hq, Array.getElem?_eq_none (by simp; omega)]
                calc ops.size - i - 1 = (List.replicate (ops.size - i - 1) false).count false := by simp
                  _ = ((listed.setIfInBounds i true).toList.drop (i + 1)).count false := by rw [h10]
                  _ ≤ _ := (List.drop_sublist _ _).count_le _
              omega
            · by_cases hji : i = j
              · subst hji; rw [getD_at (by simp [hl, hlt])]; simp
              · rw [getD_set_ne false hji]; exact hpre j (by omega)
            · rw [getD_set_ne false (by omega)]; exact hu j (by omega) hjs
          · have wr : ∀ u, u ∈ nw → ∀ j p, ops[j]? = some p → p.dst = some u → listed.getD j false = true := by
              intro u hu' j p hj hpd
              refine hpre j ?_
              rcases Nat.lt_or_ge j i with h9 | h9
              · exact h9
              · have h10 := ((tail_at hT hj).1 h9).2.2
                unfold isNew at h10
                rw [hpd] at h10
                simp [hu'] at h10
            exact hA t t' ht ht' hne (wr t ht) (wr t' ht')

end

theorem AllStep2.quiet {P : Program} {bs : List (Nat × Bool)} {fs : List (Nat × (Value → World → Prop))} {nw : List Nat} {w0 : World} {o : Oper} {l : List Oper} (h1 : pureB o = true) (h : PureOk P bs fs o) (h' : AllStep2 P bs fs nw w0 l) : AllStep2 P bs fs nw w0 (o :: l) := ⟨by rw [if_pos h1]; exact h, h'⟩
theorem AllStep2.fresh {P : Program} {bs : List (Nat × Bool)} {fs : List (Nat × (Value → World → Prop))} {nw : List Nat} {w0 : World} {o : Oper} {l : List Oper} (h1 : pureB o = false) (h2 : isNew nw o = true) (h : AllocOk P bs fs w0 o) (h' : AllStep2 P bs fs nw w0 l) : AllStep2 P bs fs nw w0 (o :: l) := ⟨by rw [h1, if_neg (by decide), if_pos h2]; exact h, h'⟩
theorem AllStep2.step {P : Program} {bs : List (Nat × Bool)} {fs : List (Nat × (Value → World → Prop))} {nw : List Nat} {w0 : World} {o : Oper} {l : List Oper} (h1 : pureB o = false) (h2 : isNew nw o = false) (h : StepOk P bs fs w0 o) (h' : AllStep2 P bs fs nw w0 l) : AllStep2 P bs fs nw w0 (o :: l) := ⟨by rw [h1, if_neg (by decide), h2, if_neg (by decide)]; exact h, h'⟩
theorem AllStep2.nil {P : Program} {bs : List (Nat × Bool)} {fs : List (Nat × (Value → World → Prop))} {nw : List Nat} {w0 : World} : AllStep2 P bs fs nw w0 [] := trivial

/-- Slot t is not written behind operation m. -/
def preB (m t : Nat) (ops : Array Oper) : Bool := (List.range ops.size).all fun j => decide (j < m) || match ops[j]? with
  | some p => p.dst != some t
  | none => true
theorem preB_spec {m t : Nat} {ops : Array Oper} (h : preB m t ops = true) : ∀ j p, ops[j]? = some p → p.dst = some t → j < m := by
  intro j p hj hp
  unfold preB at h
  have := List.all_eq_true.1 h j (List.mem_range.2 (Array.getElem?_eq_some_iff.1 hj).1)
  rw [hj] at this
  simpa [hp] using this

theorem wpOps_step {P : Program} {ops : Array Oper} {Q : Exit → Act → World → Prop} {i : Nat} {rest : List Nat} {a : Act} {w : World} {o : Oper} (ho : ops[i]? = some o) (hg : o.guard = none) (h : o.wp P a w (wpOps P ops Q rest) Q) : wpOps P ops Q (i :: rest) a w := by
  rw [wpOps_cons]
  unfold wpOp
  have hw : Region.wanted o (yielded ops a.tmps) = true := by unfold Region.wanted; rw [hg]
  simp only [ho, hw, if_true]
  exact .inl h

/-- The slots from k on hold these. -/
def SameFrom (a : Act) : Nat → List Value → Prop
  | _, [] => True
  | k, v :: l => a.eval (.tmp k) = v ∧ SameFrom a (k + 1) l
theorem SameFrom.get {a : Act} : ∀ {l : List Value} {k : Nat}, SameFrom a k l → ∀ i, i < l.length → l[i]? = some (a.eval (.tmp (k + i)))
  | [], _, _, i, h => by simp at h
  | v :: l, k, hs, 0, _ => by simp [hs.1]
  | v :: l, k, hs, i + 1, h => by
    have := SameFrom.get hs.2 i (by simpa using h)
    simp only [List.getElem?_cons_succ]
    rw [this, show k + (i + 1) = k + 1 + i by omega]
/-- A frame that is known slot by slot. -/
theorem act_eq {a : Act} {l : List Value} {ds : List Deferred} (hs : a.tmps.size = l.length) (hd : a.defers = ds) (h : SameFrom a 0 l) : a = ⟨l.toArray, ds⟩ := by
  obtain ⟨ts, d⟩ := a
  subst hd
  have hz : ts.size = l.length := hs
  have e : ts.toList = l := by
    apply List.ext_getElem?
    intro i
    rw [Array.getElem?_toList]
    by_cases hi : i < l.length
    · have h1 := h.get i hi
      rw [Nat.zero_add] at h1
      have h2 : i < ts.size := by omega
      rw [h1]
      show ts[i]? = some (ts.getD i undef)
      rw [getD_at h2, Array.getElem?_eq_getElem h2]
    · rw [Array.getElem?_eq_none (by omega), List.getElem?_eq_none (by omega)]
  rw [← e, Array.toArray_toList]

/-- A region that draws its order and ends with stores into boxes of its own. -/
theorem wp_region_tail {P : Program} {id : Nat} {l : List Oper} {Q : Exit → Act → World → Prop} {a : Act} {w : World} (bs : List (Nat × Bool)) (outs ins : List (Nat × (Value → World → Prop))) (nw : List Nat) (n m : Nat) (hm : P.follows .mixedOrders = true)
    (hn : a.tmps.size = n) (hB : edgesB bs n l.toArray = true) (hT : tailB nw m l.toArray = true) (hK : keysB bs (ins.map Prod.fst) l.toArray = true) (hNw : keysB [] nw l.toArray = true) (ho : OutKnown a w outs) (hf : AllGrow (outs ++ ins))
    (hs : AllStep2 P bs (outs ++ ins) nw w (l.take m)) (hQ : ∀ (d : Option Tmp) (v : Value) c a w, Q (.panic c) (a.put d v) w → Q (.panic c) a w)
    (hptr : ∀ t, t ∈ nw → ∀ v w, Known bs (outs ++ ins) t v w → ∃ b, v = .pointer (some ⟨b, 0, none⟩) ∧ b < w.heap.size)
    (hend : ∀ a' w', Below w.heap.size w w' → a'.tmps.size = n → a'.defers = a.defers → (∀ t, preB m t l.toArray = true → Known bs (outs ++ ins) t (a'.eval (.tmp t)) w') → (∀ t t', t ∈ nw → t' ∈ nw → t ≠ t' → a'.eval (.tmp t) ≠ a'.eval (.tmp t')) → wpOps P l.toArray Q (List.range' m (l.toArray.size - m)) a' w') :
    (Code.region id l.toArray true).wp P Q a w := by
  have hgr : Below w.heap.size w { w with drawn := w.drawn + 1 } := (Below.refl _ _).drew
  have none_of : ∀ t, (∀ j p, l.toArray[j]? = some p → p.dst = some t → (Array.replicate l.toArray.size false).getD j false = true) → (∃ o ∈ l.toArray, o.dst = some t) → False := by
    rintro t ht ⟨o, h1, h2⟩
    obtain ⟨j, hj, he⟩ := Array.getElem_of_mem h1
    have := ht j o (by rw [Array.getElem?_eq_getElem hj, he]) h2
    rw [getD_at (by simpa using hj)] at this
    simp at this
  have any_of : ∀ k, (l.toArray.any fun o => o.dst == some k) = true → ∃ o ∈ l.toArray, o.dst = some k := by
    intro k h
    rw [Array.any_eq_true] at h
    obtain ⟨j, hj, h2⟩ := h
    exact ⟨_, Array.getElem_mem hj, by simpa using h2⟩
  refine wp_region_any hm (wpAny_tail (bs := bs) (fs := outs ++ ins) (nw := nw) (n := n) (m := m) (w0 := w) (ds := a.defers) hf hB hT (by simpa using hs) hQ hptr (fun a' w' h1 h2 h3 h4 h5 => hend a' w' h1 h2 h3 (fun t ht => h4 t (preB_spec ht)) h5) _ _ _ _ (by simp) (fun j h1 h2 => by rw [getD_at (by simpa using h2)]; simp) (by simp) ?_ ?_ (fun i o ho hl => by
    have hlt : i < l.toArray.size := (Array.getElem?_eq_some_iff.1 ho).1
    rw [getD_at (by simpa using hlt)] at hl
    simp at hl))
  · refine ⟨hgr, hn, rfl, fun t ht => ?_⟩
    unfold keysB at hK
    rw [Bool.and_eq_true, List.all_eq_true, List.all_eq_true] at hK
    unfold Known
    split
    · next b e => exact absurd (any_of t (hK.1 (t, b) (lookup_mem e))) (fun h => none_of t ht h)
    · split
      · next φ e =>
        rw [lookup_append] at e
        cases hl2 : outs.lookup t with
        | none =>
          rw [hl2] at e
          exact absurd (any_of t (hK.2 t (List.mem_map.2 ⟨(t, φ), lookup_mem e, rfl⟩))) (fun h => none_of t ht h)
        | some ψ =>
          rw [hl2] at e
          injection e with e
          subst e
          exact hf.lookup (by rw [lookup_append, hl2]) _ _ _ (ho.get (lookup_mem hl2)) hgr
      · trivial
  · intro t t' ht ht' hne h1 h2
    unfold keysB at hNw
    rw [Bool.and_eq_true, List.all_eq_true, List.all_eq_true] at hNw
    exact absurd (any_of t (hNw.2 t ht)) (fun h => none_of t h1 h)

end Go.Proofs.YtgpoljbccimkjaaGreatDoor

namespace Go.Proofs.YtgpoljbccimkjaaGreatDoor
set_option linter.unusedSimpArgs false
set_option linter.unusedVariables false
open Go.RowKit

/-- The order's edges serve. -/
def edgesC (bs : List (Nat × Bool)) (us : List Nat) (n : Nat) (ops : Array Oper) : Bool :=
  (List.range ops.size).all fun i => match ops[i]? with
    | none => true
    | some o => (looks o).all (waitsB ops o) && o.after.all (fun e => !Region.binds .any e || decide (e.on < i)) &&
      (match o.dst with | none => true | some d => decide (d < n)) &&
      (match o.guard with
        | none => true
        | some (g, _) => match (ops[g]?).bind (·.dst) with
          | none => false
          | some d => ((bs.lookup d).isSome || us.contains d) && waitsB ops o d && decide (d < n))

/-- The guard of o, as it is known, passes it over. -/
def skips (bs : List (Nat × Bool)) (ops : Array Oper) (o : Oper) : Bool := match o.guard with
  | none => false
  | some (g, want) => match (ops[g]?).bind (·.dst) with
    | none => false
    | some d => match bs.lookup d with
      | some b => b != want
      | none => true
/-- Nothing is known of what o writes. -/
def bare (bs : List (Nat × Bool)) (fs : List (Nat × (Value → World → Prop))) (us : List Nat) (o : Oper) : Bool := match o.dst with
  | none => true
  | some d => us.contains d || ((bs.lookup d).isNone && (fs.lookup d).isNone)
theorem bare_known {bs : List (Nat × Bool)} {fs : List (Nat × (Value → World → Prop))} {us : List Nat} {o : Oper} (hu : ∀ t, t ∈ us → ∀ w, Known bs fs t undef w) (h : bare bs fs us o = true) {d : Nat} {w : World} (hd : o.dst = some d) : Known bs fs d undef w := by
  unfold bare at h
  rw [hd] at h
  simp only [Bool.or_eq_true, Bool.and_eq_true, Option.isNone_iff_eq_none] at h
  rcases h with h | h
  · exact hu d (by simpa using h) w
  · unfold Known
    rw [h.1, h.2]
    trivial

def AllStepC (P : Program) (bs : List (Nat × Bool)) (fs : List (Nat × (Value → World → Prop))) (us : List Nat) (w0 : World) (ops : Array Oper) : List Oper → Prop
  | [] => True
  | o :: l => (if skips bs ops o then bare bs fs us o = true else StepOk P bs fs w0 o) ∧ AllStepC P bs fs us w0 ops l
theorem AllStepC.get {P : Program} {bs : List (Nat × Bool)} {fs : List (Nat × (Value → World → Prop))} {us : List Nat} {w0 : World} {ops : Array Oper} {l : List Oper} (h : AllStepC P bs fs us w0 ops l) {o : Oper} (ho : o ∈ l) : if skips bs ops o then bare bs fs us o = true else StepOk P bs fs w0 o := by
  induction l with
  | nil => cases ho
  | cons x xs ih =>
    rcases List.mem_cons.1 ho with rfl | ho
    · exact h.1
    · exact ih h.2 ho
theorem AllStepC.step {P : Program} {bs : List (Nat × Bool)} {fs : List (Nat × (Value → World → Prop))} {us : List Nat} {w0 : World} {ops : Array Oper} {o : Oper} {l : List Oper} (h1 : skips bs ops o = false) (h : StepOk P bs fs w0 o) (h' : AllStepC P bs fs us w0 ops l) : AllStepC P bs fs us w0 ops (o :: l) := ⟨by rw [h1, if_neg (by decide)]; exact h, h'⟩
theorem AllStepC.skip {P : Program} {bs : List (Nat × Bool)} {fs : List (Nat × (Value → World → Prop))} {us : List Nat} {w0 : World} {ops : Array Oper} {o : Oper} {l : List Oper} (h1 : skips bs ops o = true) (h : bare bs fs us o = true) (h' : AllStepC P bs fs us w0 ops l) : AllStepC P bs fs us w0 ops (o :: l) := ⟨by rw [if_pos h1]; exact h, h'⟩
theorem AllStepC.nil {P : Program} {bs : List (Nat × Bool)} {fs : List (Nat × (Value → World → Prop))} {us : List Nat} {w0 : World} {ops : Array Oper} : AllStepC P bs fs us w0 ops [] := trivial

section
variable {P : Program} {ops : Array Oper} {bs : List (Nat × Bool)} {fs : List (Nat × (Value → World → Prop))} {us : List Nat} {n : Nat} {w0 : World} {ds : List Deferred} {Q : Exit → Act → World → Prop}

theorem edges_atC (h : edgesC bs us n ops = true) {i : Nat} {o : Oper} (ho : ops[i]? = some o) :
    (∀ t, t ∈ looks o → waitsB ops o t = true) ∧ (∀ e ∈ o.after, Region.binds .any e = true → e.on < i) ∧ (∀ d, o.dst = some d → d < n) ∧
    (∀ g want, o.guard = some (g, want) → ∃ d, (ops[g]?).bind (·.dst) = some d ∧ ((∃ b, bs.lookup d = some b) ∨ (bs.lookup d = none ∧ d ∈ us)) ∧ waitsB ops o d = true ∧ d < n) := by
  unfold edgesC at h
  rw [List.all_eq_true] at h
  have hlt : i < ops.size := (Array.getElem?_eq_some_iff.1 ho).1
  have h1 := h i (List.mem_range.2 hlt)
  rw [ho] at h1
  simp only [Bool.and_eq_true] at h1
  obtain ⟨⟨⟨h2, h3⟩, h4⟩, h5⟩ := h1
  refine ⟨fun t ht => List.all_eq_true.1 h2 t ht, fun e he hb => ?_, fun d hd => ?_, fun g want hg => ?_⟩
  · rw [Array.all_eq_true] at h3
    obtain ⟨k, hk, rfl⟩ := Array.getElem_of_mem he
    have := h3 k hk
    simp only [hb, Bool.not_true, Bool.false_or, decide_eq_true_eq] at this
    exact this
  · rw [hd] at h4
    simpa using h4
  · rw [hg] at h5
    simp only at h5
    cases hd : (ops[g]?).bind (·.dst) with
    | none => rw [hd] at h5; simp at h5
    | some d =>
      rw [hd] at h5
      simp only [Bool.and_eq_true, decide_eq_true_eq] at h5
      refine ⟨d, rfl, ?_, h5.1.2, h5.2⟩
      cases hl : bs.lookup d with
      | some b => exact .inl ⟨b, rfl⟩
      | none =>
        rw [hl] at h5
        exact .inr ⟨rfl, by simpa using h5.1.1⟩

theorem all_listedC (h : edgesC bs us n ops = true) {listed : Array Bool} (hl : listed.size = ops.size) (hr : Region.ready .any ops listed = []) : ∀ i, i < ops.size → listed.getD i false = true := by
  intro i
  induction i using Nat.strongRecOn with
  | ind i ih =>
    intro hi
    by_cases hx : listed.getD i false = true
    · exact hx
    · exfalso
      have hf : listed.getD i true = false := by
        rw [getD_tf (by omega) true false]
        simpa using hx
      have hm : i ∈ Region.ready .any ops listed := by
        refine mem_ready.2 ⟨hf, ops[i], Array.getElem?_eq_getElem hi, fun e he hb => ?_⟩
        have hlt := (edges_atC h (Array.getElem?_eq_getElem hi)).2.1 e he hb
        exact ih e.on hlt (by omega)
      rw [hr] at hm
      cases hm

theorem wpAny_knownC (hf : AllGrow fs) (hu : ∀ t, t ∈ us → (∀ v w, Known bs fs t v w → v = undef) ∧ ∀ w, Known bs fs t undef w) (hB : edgesC bs us n ops = true) (hs : AllStepC P bs fs us w0 ops ops.toList)
    (hend : ∀ a w, Below w0.heap.size w0 w → a.tmps.size = n → a.defers = ds → (∀ t, Known bs fs t (a.eval (.tmp t)) w) → Q .normal a w) :
    ∀ (fuel : Nat) (listed : Array Bool) (a : Act) (w : World), listed.size = ops.size → listed.toList.count false ≤ fuel → Inv ops bs fs n w0 ds listed a w → wpAny P .any ops Q fuel listed a w := by
  have done : ∀ (listed : Array Bool) (a : Act) (w : World), listed.size = ops.size → Inv ops bs fs n w0 ds listed a w → Region.ready .any ops listed = [] → Q .normal a w := by
    intro listed a w hl hI hr
    have hall := all_listedC hB hl hr
    exact hend a w hI.below hI.size hI.defers fun t => hI.known t fun j p hj _ => hall j (Array.getElem?_eq_some_iff.1 hj).1
  intro fuel
  induction fuel with
  | zero =>
    intro listed a w hl hc hI
    have hr : Region.ready .any ops listed = [] := by
      rw [List.eq_nil_iff_forall_not_mem]
      intro i hi
      obtain ⟨h1, o, ho, -⟩ := mem_ready.1 hi
      have hlt : i < listed.size := by rw [hl]; exact (Array.getElem?_eq_some_iff.1 ho).1
      have h2 : false ∈ listed.toList := by
        rw [getD_at hlt] at h1
        rw [← h1]
        exact Array.mem_toList_iff.2 (Array.getElem_mem hlt)
      have := List.count_pos_iff.2 h2
      omega
    exact ⟨hr, done listed a w hl hI hr⟩
  | succ fuel ih =>
    intro listed a w hl hc hI
    refine ⟨fun hr => done listed a w hl hI hr, fun i hi => ?_⟩
    obtain ⟨h1, o, ho, hall⟩ := mem_ready.1 hi
    have hlt : i < listed.size := by rw [hl]; exact (Array.getElem?_eq_some_iff.1 ho).1
    obtain ⟨e1, e2, e3, e4⟩ := edges_atC hB ho
    have hmem : o ∈ ops.toList := Array.mem_toList_iff.2 (Array.mem_of_getElem? ho)
    have hcnt := count_set (l := listed.toList) (i := i) (by
      rw [getD_at hlt] at h1
      rw [Array.getElem?_toList, Array.getElem?_eq_getElem hlt, h1])
    have hcnt2 : (listed.setIfInBounds i true).toList.count false ≤ fuel := by
      rw [Array.toList_setIfInBounds]
      omega
    have hst := hs.get hmem
    have hwd : Region.wanted o (yielded ops a.tmps) = !(skips bs ops o) := by
      unfold Region.wanted skips
      cases hg : o.guard with
      | none => rfl
      | some p =>
        obtain ⟨g, want⟩ := p
        obtain ⟨d, hd, hbu, hwt, hdn⟩ := e4 g want hg
        have hk := hI.known d (waits_listed hwt hall)
        have hds : d < a.tmps.size := by rw [hI.size]; exact hdn
        rcases hbu with ⟨b, hb⟩ | ⟨hb, hdu⟩
        · unfold Known at hk
          rw [hb] at hk
          have hk2 : a.tmps[d]? = some (.bool b) := by
            have : a.tmps.getD d undef = .bool b := hk
            rw [getD_at hds] at this
            rw [Array.getElem?_eq_getElem hds, this]
          simp only [yielded, hd, Option.bind_some, hk2, hb]
          cases b <;> cases want <;> rfl
        · have hk1 := (hu d hdu).1 _ _ hk
          have hk2 : a.tmps[d]? = some undef := by
            have : a.tmps.getD d undef = undef := hk1
            rw [getD_at hds] at this
            rw [Array.getElem?_eq_getElem hds, this]
          simp only [yielded, hd, Option.bind_some, hk2, hb]
          rfl
    unfold wpOp
    simp only [ho, hwd]
    cases hsk : skips bs ops o
    · rw [hsk, if_neg (by decide)] at hst
      simp only [Bool.not_false, if_true]
      left
      refine Oper.wp_mono ?_ (hst Q a w hI.below (fun t ht => hI.known t (waits_listed (e1 t ht) hall)))
      rintro a' w' ⟨v, rfl, hv, hb⟩
      exact ih _ _ _ (by simp [hl]) hcnt2 (hI.step hf hl ho e3 hv hb)
    · rw [hsk, if_pos rfl] at hst
      simp only [Bool.not_true, Bool.false_eq_true, if_false]
      exact ih _ _ _ (by simp [hl]) hcnt2 (hI.step hf hl ho e3 (fun d hd => bare_known (fun t ht => (hu t ht).2) hst hd) (Below.refl _ _))

end

/-- A region that draws its order: with operations that are passed over: each by what is known of its operands. -/
theorem wp_region_knownC {P : Program} {id : Nat} {l : List Oper} {Q : Exit → Act → World → Prop} {a : Act} {w : World} (bs : List (Nat × Bool)) (us : List Nat) (outs ins : List (Nat × (Value → World → Prop))) (n : Nat) (hm : P.follows .mixedOrders = true)
    (hn : a.tmps.size = n) (hB : edgesC bs us n l.toArray = true) (hK : keysB bs (ins.map Prod.fst) l.toArray = true) (ho : OutKnown a w outs) (hf : AllGrow (outs ++ ins)) (hu : ∀ t, t ∈ us → (∀ v w, Known bs (outs ++ ins) t v w → v = undef) ∧ ∀ w, Known bs (outs ++ ins) t undef w)
    (hs : AllStepC P bs (outs ++ ins) us w l.toArray l)
    (hend : ∀ a' w', Below w.heap.size w w' → a'.tmps.size = n → a'.defers = a.defers → (∀ t, Known bs (outs ++ ins) t (a'.eval (.tmp t)) w') → Q .normal a' w') :
    (Code.region id l.toArray true).wp P Q a w := by
  refine wp_region_any hm (wpAny_knownC (bs := bs) (fs := outs ++ ins) (n := n) (us := us) (w0 := w) (ds := a.defers) hf hu hB (by simpa using hs) hend _ _ _ _ (by simp) (by simp) ?_)
  have hgr : Below w.heap.size w { w with drawn := w.drawn + 1 } := (Below.refl _ _).drew
  refine ⟨hgr, hn, rfl, fun t ht => ?_⟩
  unfold keysB at hK
  rw [Bool.and_eq_true, List.all_eq_true, List.all_eq_true] at hK
  have none_of : (∃ o ∈ l.toArray, o.dst = some t) → False := by
    rintro ⟨o, h1, h2⟩
    obtain ⟨j, hj, he⟩ := Array.getElem_of_mem h1
    have := ht j o (by rw [Array.getElem?_eq_getElem hj, he]) h2
    rw [getD_at (by simpa using hj)] at this
    simp at this
  have any_of : ∀ k, (l.toArray.any fun o => o.dst == some k) = true → ∃ o ∈ l.toArray, o.dst = some k := by
    intro k h
    rw [Array.any_eq_true] at h
    obtain ⟨j, hj, h2⟩ := h
    exact ⟨_, Array.getElem_mem hj, by simpa using h2⟩
  unfold Known
  split
  · next b e => exact absurd (any_of t (hK.1 (t, b) (lookup_mem e))) (fun h => none_of h)
  · split
    · next φ e =>
      rw [lookup_append] at e
      cases hl2 : outs.lookup t with
      | none =>
        rw [hl2] at e
        exact absurd (any_of t (hK.2 t (List.mem_map.2 ⟨(t, φ), lookup_mem e, rfl⟩))) (fun h => none_of h)
      | some ψ =>
        rw [hl2] at e
        injection e with e
        subst e
        exact hf.lookup (by rw [lookup_append, hl2]) _ _ _ (ho.get (lookup_mem hl2)) hgr
    · trivial


end Go.Proofs.YtgpoljbccimkjaaGreatDoor

namespace Go.Proofs.YtgpoljbccimkjaaGreatDoor
set_option linter.unusedSimpArgs false
set_option linter.unusedVariables false
open Go.RowKit

/-- Whoever writes slot t comes before operation i. -/
def earlyB (ops : Array Oper) (i t : Nat) : Bool :=
  (List.range ops.size).all fun j => match ops[j]? with
    | none => true
    | some p => p.dst != some t || decide (j < i)

def seqB (bs : List (Nat × Bool)) (n m : Nat) (ops : Array Oper) : Bool :=
  decide (m ≤ ops.size) && (List.range m).all fun i => match ops[i]? with
    | none => true
    | some o => (looks o).all (earlyB ops i) && (match o.dst with | none => true | some d => decide (d < n)) &&
      (match o.guard with
        | none => true
        | some (g, want) => match (ops[g]?).bind (·.dst) with
          | none => false
          | some d => bs.lookup d == some want && earlyB ops i d && decide (d < n))

theorem earlyB_spec {ops : Array Oper} {i t : Nat} (h : earlyB ops i t = true) : ∀ j p, ops[j]? = some p → p.dst = some t → j < i := by
  intro j p hj hp
  unfold earlyB at h
  have := List.all_eq_true.1 h j (List.mem_range.2 (Array.getElem?_eq_some_iff.1 hj).1)
  rw [hj] at this
  simpa [hp] using this

section
variable {P : Program} {ops : Array Oper} {bs : List (Nat × Bool)} {fs : List (Nat × (Value → World → Prop))} {n m : Nat} {w0 : World} {ds : List Deferred} {Q : Exit → Act → World → Prop}

theorem seq_at (h : seqB bs n m ops = true) {i : Nat} {o : Oper} (hi : i < m) (ho : ops[i]? = some o) :
    (∀ t, t ∈ looks o → earlyB ops i t = true) ∧ (∀ d, o.dst = some d → d < n) ∧
    (∀ g want, o.guard = some (g, want) → ∃ d, (ops[g]?).bind (·.dst) = some d ∧ bs.lookup d = some want ∧ earlyB ops i d = true ∧ d < n) := by
  unfold seqB at h
  rw [Bool.and_eq_true, List.all_eq_true] at h
  have h1 := h.2 i (List.mem_range.2 hi)
  rw [ho] at h1
  simp only [Bool.and_eq_true] at h1
  obtain ⟨⟨h2, h4⟩, h5⟩ := h1
  refine ⟨fun t ht => List.all_eq_true.1 h2 t ht, fun d hd => ?_, fun g want hg => ?_⟩
  · rw [hd] at h4
    simpa using h4
  · rw [hg] at h5
    simp only at h5
    cases hd : (ops[g]?).bind (·.dst) with
    | none => rw [hd] at h5; simp at h5
    | some d =>
      rw [hd] at h5
      simp only [Bool.and_eq_true, beq_iff_eq, decide_eq_true_eq] at h5
      exact ⟨d, rfl, h5.1.1, h5.1.2, h5.2⟩

theorem wpOps_known (hf : AllGrow fs) (hB : seqB bs n m ops = true) (hs : AllStep P bs fs w0 (ops.toList.take m))
    (hend : ∀ a w, Below w0.heap.size w0 w → a.tmps.size = n → a.defers = ds → (∀ t, (∀ j p, ops[j]? = some p → p.dst = some t → j < m) → Known bs fs t (a.eval (.tmp t)) w) → wpOps P ops Q (List.range' m (ops.size - m)) a w) :
    ∀ (r k : Nat) (listed : Array Bool) (a : Act) (w : World), k + r = m → listed.size = ops.size → (∀ j, j < ops.size → (listed.getD j false = true ↔ j < k)) → Inv ops bs fs n w0 ds listed a w → wpOps P ops Q (List.range' k (ops.size - k)) a w := by
  have hm : m ≤ ops.size := by
    unfold seqB at hB
    rw [Bool.and_eq_true, decide_eq_true_eq] at hB
    exact hB.1
  intro r
  induction r with
  | zero =>
    intro k listed a w hk hl hlst hI
    obtain rfl : k = m := by omega
    exact hend a w hI.below hI.size hI.defers fun t ht => hI.known t fun j p hj hp => (hlst j (Array.getElem?_eq_some_iff.1 hj).1).2 (ht j p hj hp)
  | succ r ih =>
    intro k listed a w hk hl hlst hI
    have hks : k < ops.size := by omega
    obtain ⟨o, ho⟩ : ∃ o, ops[k]? = some o := ⟨_, Array.getElem?_eq_getElem hks⟩
    obtain ⟨e1, e3, e4⟩ := seq_at hB (by omega) ho
    have early : ∀ t, earlyB ops k t = true → ∀ j p, ops[j]? = some p → p.dst = some t → listed.getD j false = true := fun t ht j p hj hp =>
      (hlst j (Array.getElem?_eq_some_iff.1 hj).1).2 (earlyB_spec ht j p hj hp)
    have hw : Region.wanted o (yielded ops a.tmps) = true := by
      unfold Region.wanted
      cases hg : o.guard with
      | none => rfl
      | some p =>
        obtain ⟨g, want⟩ := p
        obtain ⟨d, hd, hb, hwt, hdn⟩ := e4 g want hg
        have hkn := hI.known d (early d hwt)
        unfold Known at hkn
        rw [hb] at hkn
        have hds : d < a.tmps.size := by rw [hI.size]; exact hdn
        have hk2 : a.tmps[d]? = some (.bool want) := by
          have : a.tmps.getD d undef = .bool want := hkn
          rw [getD_at hds] at this
          rw [Array.getElem?_eq_getElem hds, this]
        simp only [yielded, hd, Option.bind_some, hk2, beq_self_eq_true]
    have hr1 : ops.size - k = (ops.size - (k + 1)) + 1 := by omega
    rw [hr1, List.range'_succ, wpOps_cons]
    unfold wpOp
    simp only [ho, hw, if_true]
    left
    have hmem : o ∈ ops.toList.take m := by
      refine List.mem_iff_getElem?.2 ⟨k, ?_⟩
      rw [List.getElem?_take, if_pos (by omega), Array.getElem?_toList]
      exact ho
    refine Oper.wp_mono ?_ (hs.get hmem Q a w hI.below (fun t ht => hI.known t (early t (e1 t ht))))
    rintro a' w' ⟨v, rfl, hv, hb⟩
    refine ih (k + 1) (listed.setIfInBounds k true) _ _ (by omega) (by simp [hl]) (fun j hj => ?_) (hI.step hf hl ho e3 hv hb)
    by_cases hji : k = j
    · subst hji
      rw [getD_at (by simpa [hl] using hj)]
      simp
    · rw [getD_set_ne false hji, hlst j hj]
      omega

end

/-- A region in the text's order: what is known, and its last operations. -/
theorem wp_region_seq {P : Program} {id : Nat} {l : List Oper} {Q : Exit → Act → World → Prop} {a : Act} {w : World} (bs : List (Nat × Bool)) (outs ins : List (Nat × (Value → World → Prop))) (n m : Nat)
    (hn : a.tmps.size = n) (hB : seqB bs n m l.toArray = true) (hK : keysB bs (ins.map Prod.fst) l.toArray = true) (ho : OutKnown a w outs) (hf : AllGrow (outs ++ ins))
    (hs : AllStep P bs (outs ++ ins) w (l.take m))
    (hend : ∀ a' w', Below w.heap.size w w' → a'.tmps.size = n → a'.defers = a.defers → (∀ t, preB m t l.toArray = true → Known bs (outs ++ ins) t (a'.eval (.tmp t)) w') → wpOps P l.toArray Q (List.range' m (l.toArray.size - m)) a' w') :
    (Code.region id l.toArray false).wp P Q a w := by
  have none_of : ∀ t, (∀ j p, l.toArray[j]? = some p → p.dst = some t → (Array.replicate l.toArray.size false).getD j false = true) → (∃ o ∈ l.toArray, o.dst = some t) → False := by
    rintro t ht ⟨o, h1, h2⟩
    obtain ⟨j, hj, he⟩ := Array.getElem_of_mem h1
    have := ht j o (by rw [Array.getElem?_eq_getElem hj, he]) h2
    rw [getD_at (by simpa using hj)] at this
    simp at this
  have any_of : ∀ k, (l.toArray.any fun o => o.dst == some k) = true → ∃ o ∈ l.toArray, o.dst = some k := by
    intro k h
    rw [Array.any_eq_true] at h
    obtain ⟨j, hj, h2⟩ := h
    exact ⟨_, Array.getElem_mem hj, by simpa using h2⟩
  have hm : m ≤ l.toArray.size := by
    unfold seqB at hB
    rw [Bool.and_eq_true, decide_eq_true_eq] at hB
    exact hB.1
  refine wp_region ?_
  rw [List.range_eq_range']
  refine wpOps_known (bs := bs) (fs := outs ++ ins) (n := n) (m := m) (w0 := w) (ds := a.defers) hf hB (by simpa using hs) (fun a' w' h1 h2 h3 h4 => hend a' w' h1 h2 h3 (fun t ht => h4 t (preB_spec ht))) m 0 (Array.replicate l.toArray.size false) a w (by omega) (by simp) (fun j hj => ?_) ?_
  · rw [getD_at (by simpa using hj)]
    simp
  · refine ⟨Below.refl _ _, hn, rfl, fun t ht => ?_⟩
    unfold keysB at hK
    rw [Bool.and_eq_true, List.all_eq_true, List.all_eq_true] at hK
    unfold Known
    split
    · next b e => exact absurd (any_of t (hK.1 (t, b) (lookup_mem e))) (fun h => none_of t ht h)
    · split
      · next φ e =>
        rw [lookup_append] at e
        cases hl2 : outs.lookup t with
        | none =>
          rw [hl2] at e
          exact absurd (any_of t (hK.2 t (List.mem_map.2 ⟨(t, φ), lookup_mem e, rfl⟩))) (fun h => none_of t ht h)
        | some ψ =>
          rw [hl2] at e
          injection e with e
          subst e
          exact ho.get (lookup_mem hl2)
      · trivial

end Go.Proofs.YtgpoljbccimkjaaGreatDoor
