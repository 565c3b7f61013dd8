/- Regions in whatever order: what is known of each slot holds as the world grows, so no order changes it. -/
import Derived.Test.YtikbjjechhdclaaProg
import Derived.WalkKit
import Derived.Orders
import Derived.Below
import Derived.KernelRfl
namespace Go.Proofs.Ytikbjjechhdclaa
open Go.RowKit

/-- What is known of a slot: a truth, or more. -/
def Known (bs : List (Nat × Bool)) (fs : List (Nat × (Value → World → Prop))) (t : Nat) (v : Value) (w : World) : Prop :=
  match bs.lookup t with
  | some b => v = .bool b
  | none => match fs.lookup t with
    | some φ => φ v w
    | none => True

/-- It holds on, as the world grows. -/
def Grows (φ : Value → World → Prop) : Prop := ∀ v w w', φ v w → Below w.heap.size w w' → φ v w'

def AllGrow : List (Nat × (Value → World → Prop)) → Prop
  | [] => True
  | p :: ps => Grows p.2 ∧ AllGrow ps

theorem AllGrow.lookup {fs : List (Nat × (Value → World → Prop))} (h : AllGrow fs) {t : Nat} {φ : Value → World → Prop} (hl : fs.lookup t = some φ) : Grows φ := by
  induction fs with
  | nil => cases hl
  | cons p ps ih =>
    obtain ⟨k, ψ⟩ := p
    rw [List.lookup_cons] at hl
    split at hl
    · injection hl with e; subst e; exact h.1
    · exact ih h.2 hl

theorem Known.grow {bs : List (Nat × Bool)} {fs : List (Nat × (Value → World → Prop))} (hf : AllGrow fs) {t : Nat} {v : Value} {w w' : World} (h : Known bs fs t v w) (hb : Below w.heap.size w w') : Known bs fs t v w' := by
  unfold Known at *
  split
  · next b e => rw [e] at h; exact h
  · next e =>
    rw [e] at h
    split
    · next φ e2 => rw [e2] at h; exact hf.lookup e2 v w w' h hb
    · trivial

def looks (o : Oper) : List Nat := o.op.operands.toList.filterMap fun | .tmp t => some t | _ => none

/-- One operation, by what is known. -/
def StepOk (P : Program) (bs : List (Nat × Bool)) (fs : List (Nat × (Value → World → Prop))) (w0 : World) (o : Oper) : Prop :=
  ∀ (Q : Exit → Act → World → Prop) (a : Act) (w : World), Below w0.heap.size w0 w → (∀ t, t ∈ looks o → Known bs fs t (a.eval (.tmp t)) w) →
    o.wp P a w (fun a' w' => ∃ v, a' = a.put o.dst v ∧ (∀ d, o.dst = some d → Known bs fs d v w') ∧ Below w.heap.size w w') Q

def AllStep (P : Program) (bs : List (Nat × Bool)) (fs : List (Nat × (Value → World → Prop))) (w0 : World) : List Oper → Prop
  | [] => True
  | o :: l => StepOk P bs fs w0 o ∧ AllStep P bs fs w0 l

theorem AllStep.cons {P : Program} {bs : List (Nat × Bool)} {fs : List (Nat × (Value → World → Prop))} {w0 : World} {o : Oper} {l : List Oper} (h : StepOk P bs fs w0 o) (h' : AllStep P bs fs w0 l) : AllStep P bs fs w0 (o :: l) := ⟨h, h'⟩
theorem AllStep.nil {P : Program} {bs : List (Nat × Bool)} {fs : List (Nat × (Value → World → Prop))} {w0 : World} : AllStep P bs fs w0 [] := trivial
theorem AllStep.get {P : Program} {bs : List (Nat × Bool)} {fs : List (Nat × (Value → World → Prop))} {w0 : World} {l : List Oper} (h : AllStep P bs fs w0 l) {o : Oper} (ho : o ∈ l) : StepOk P bs fs w0 o := by
  induction l with
  | nil => cases ho
  | cons x xs ih =>
    rcases List.mem_cons.1 ho with rfl | ho
    · exact h.1
    · exact ih h.2 ho

/-- Whoever writes slot t comes before o. -/
def waitsB (ops : Array Oper) (o : Oper) (t : Nat) : Bool :=
  (List.range ops.size).all fun j => match ops[j]? with
    | none => true
    | some p => p.dst != some t || o.after.any fun e => e.on == j && Region.binds .any e

/-- The order's edges serve. -/
def edgesB (bs : List (Nat × Bool)) (n : Nat) (ops : Array Oper) : Bool :=
  (List.range ops.size).all fun i => match ops[i]? with
    | none => true
    | some o => (looks o).all (waitsB ops o) && o.after.all (fun e => !Region.binds .any e || decide (e.on < i)) &&
      (match o.dst with | none => true | some d => decide (d < n)) &&
      (match o.guard with
        | none => true
        | some (g, want) => match (ops[g]?).bind (·.dst) with
          | none => false
          | some d => bs.lookup d == some want && waitsB ops o d && decide (d < n))

section
variable {P : Program} {ops : Array Oper} {bs : List (Nat × Bool)} {fs : List (Nat × (Value → World → Prop))} {n : Nat} {w0 : World} {ds : List Deferred} {Q : Exit → Act → World → Prop}

structure Inv (ops : Array Oper) (bs : List (Nat × Bool)) (fs : List (Nat × (Value → World → Prop))) (n : Nat) (w0 : World) (ds : List Deferred) (listed : Array Bool) (a : Act) (w : World) : Prop where
  below : Below w0.heap.size w0 w
  size : a.tmps.size = n
  defers : a.defers = ds
  known : ∀ t, (∀ j p, ops[j]? = some p → p.dst = some t → listed.getD j false = true) → Known bs fs t (a.eval (.tmp t)) w

theorem waits_listed {o : Oper} {t : Nat} {listed : Array Bool} (h : waitsB ops o t = true) (hall : ∀ e ∈ o.after, Region.binds .any e = true → listed.getD e.on false = true) : ∀ j p, ops[j]? = some p → p.dst = some t → listed.getD j false = true := by
  intro j p hj hp
  unfold waitsB at h
  rw [List.all_eq_true] at h
  have hlt : j < ops.size := (Array.getElem?_eq_some_iff.1 hj).1
  have h1 := h j (List.mem_range.2 hlt)
  rw [hj] at h1
  simp only [hp, bne_self_eq_false, Bool.false_or] at h1
  rw [Array.any_eq_true] at h1
  obtain ⟨k, hk, h2⟩ := h1
  rw [Bool.and_eq_true, beq_iff_eq] at h2
  have h3 := hall _ (Array.getElem_mem hk) h2.2
  rwa [h2.1] at h3

theorem edges_at (h : edgesB bs n ops = true) {i : Nat} {o : Oper} (ho : ops[i]? = some o) :
    (∀ t, t ∈ looks o → waitsB ops o t = true) ∧ (∀ e ∈ o.after, Region.binds .any e = true → e.on < i) ∧ (∀ d, o.dst = some d → d < n) ∧
    (∀ g want, o.guard = some (g, want) → ∃ d, (ops[g]?).bind (·.dst) = some d ∧ bs.lookup d = some want ∧ waitsB ops o d = true ∧ d < n) := by
  unfold edgesB at h
  rw [List.all_eq_true] at h
  have hlt : i < ops.size := (Array.getElem?_eq_some_iff.1 ho).1
  have h1 := h i (List.mem_range.2 hlt)
  rw [ho] at h1
  simp only [Bool.and_eq_true] at h1
  obtain ⟨⟨⟨h2, h3⟩, h4⟩, h5⟩ := h1
  refine ⟨fun t ht => List.all_eq_true.1 h2 t ht, fun e he hb => ?_, fun d hd => ?_, fun g want hg => ?_⟩
  · rw [Array.all_eq_true] at h3
    obtain ⟨k, hk, rfl⟩ := Array.getElem_of_mem he
    have := h3 k hk
    simp only [hb, Bool.not_true, Bool.false_or, decide_eq_true_eq] at this
    exact this
  · rw [hd] at h4
    simpa using h4
  · rw [hg] at h5
    simp only at h5
    cases hd : (ops[g]?).bind (·.dst) with
    | none => rw [hd] at h5; simp at h5
    | some d =>
      rw [hd] at h5
      simp only [Bool.and_eq_true, beq_iff_eq, decide_eq_true_eq] at h5
      exact ⟨d, rfl, h5.1.1, h5.1.2, h5.2⟩

theorem getD_at {β : Type _} {l : Array β} {i : Nat} (h : i < l.size) (x : β) : l.getD i x = l[i] := by simp [Array.getD_eq_getD_getElem?, h]
theorem getD_tf {listed : Array Bool} {j : Nat} (h : j < listed.size) (x y : Bool) : listed.getD j x = listed.getD j y := by simp [Array.getD, h]

theorem all_listed (h : edgesB bs n ops = true) {listed : Array Bool} (hl : listed.size = ops.size) (hr : Region.ready .any ops listed = []) : ∀ i, i < ops.size → listed.getD i false = true := by
  intro i
  induction i using Nat.strongRecOn with
  | ind i ih =>
    intro hi
    by_cases hx : listed.getD i false = true
    · exact hx
    · exfalso
      have hf : listed.getD i true = false := by
        rw [getD_tf (by omega) true false]
        simpa using hx
      have hm : i ∈ Region.ready .any ops listed := by
        refine mem_ready.2 ⟨hf, ops[i], Array.getElem?_eq_getElem hi, fun e he hb => ?_⟩
        have hlt := (edges_at h (Array.getElem?_eq_getElem hi)).2.1 e he hb
        exact ih e.on hlt (by omega)
      rw [hr] at hm
      cases hm

theorem eval_put {a : Act} {dst : Option Tmp} {v : Value} {t : Nat} (ht : t < a.tmps.size) : (a.put dst v).eval (.tmp t) = if dst = some t then v else a.eval (.tmp t) := by
  cases dst with
  | none => simp [Act.put]
  | some d =>
    show (a.tmps.setIfInBounds d v).getD t undef = if some d = some t then v else a.tmps.getD t undef
    by_cases hd : d = t
    · subst hd
      simp [Array.getD, ht]
    · rw [if_neg (fun e => hd (Option.some.inj e))]
      simp [Array.getD, ht, hd]

theorem eval_out {a : Act} {t : Nat} (ht : ¬ t < a.tmps.size) : a.eval (.tmp t) = undef := by
  show a.tmps.getD t undef = undef
  simp [Array.getD, ht]

theorem Inv.step (hf : AllGrow fs) {listed : Array Bool} {a : Act} {w w' : World} {i : Nat} {o : Oper} {v : Value} (h : Inv ops bs fs n w0 ds listed a w) (hl : listed.size = ops.size) (ho : ops[i]? = some o) (hdn : ∀ d, o.dst = some d → d < n) (hv : ∀ d, o.dst = some d → Known bs fs d v w') (hb : Below w.heap.size w w') :
    Inv ops bs fs n w0 ds (listed.setIfInBounds i true) (a.put o.dst v) w' := by
  refine ⟨h.below.trans (hb.mono h.below.size), ?_, ?_, ?_⟩
  · rw [← h.size]; cases o.dst <;> simp [Act.put]
  · rw [← h.defers]; cases o.dst <;> simp [Act.put]
  · intro t ht
    by_cases hd : o.dst = some t
    · have htn : t < a.tmps.size := by rw [h.size]; exact hdn t hd
      rw [eval_put htn, if_pos hd]
      exact hv t hd
    · have hold : Known bs fs t (a.eval (.tmp t)) w := by
        refine h.known t fun j p hj hp => ?_
        have h1 := ht j p hj hp
        have hji : j ≠ i := by
          rintro rfl
          rw [ho] at hj
          injection hj with e
          subst e
          exact hd hp
        have hjs : j < listed.size := by rw [hl]; exact (Array.getElem?_eq_some_iff.1 hj).1
        rw [getD_at (by simpa using hjs), Array.getElem_setIfInBounds_ne hjs (by omega)] at h1
        rw [getD_at hjs]
        exact h1
      by_cases htn : t < a.tmps.size
      · rw [eval_put htn, if_neg hd]
        exact hold.grow hf hb
      · rw [eval_out htn] at hold
        have : ¬ t < (a.put o.dst v).tmps.size := by cases o.dst <;> simpa [Act.put] using htn
        rw [eval_out this]
        exact hold.grow hf hb

theorem count_set {l : List Bool} {i : Nat} (h : l[i]? = some false) : (l.set i true).count false + 1 = l.count false := by
  induction l generalizing i with
  | nil => simp at h
  | cons x xs ih =>
    cases i with
    | zero => simp at h; subst h; simp
    | succ i =>
      simp only [List.getElem?_cons_succ] at h
      have := ih h
      simp only [List.set_cons_succ, List.count_cons]
      omega

theorem wpAny_known (hf : AllGrow fs) (hB : edgesB bs n ops = true) (hs : AllStep P bs fs w0 ops.toList)
    (hend : ∀ a w, Below w0.heap.size w0 w → a.tmps.size = n → a.defers = ds → (∀ t, Known bs fs t (a.eval (.tmp t)) w) → Q .normal a w) :
    ∀ (fuel : Nat) (listed : Array Bool) (a : Act) (w : World), listed.size = ops.size → listed.toList.count false ≤ fuel → Inv ops bs fs n w0 ds listed a w → wpAny P .any ops Q fuel listed a w := by
  have done : ∀ (listed : Array Bool) (a : Act) (w : World), listed.size = ops.size → Inv ops bs fs n w0 ds listed a w → Region.ready .any ops listed = [] → Q .normal a w := by
    intro listed a w hl hI hr
    have hall := all_listed hB hl hr
    exact hend a w hI.below hI.size hI.defers fun t => hI.known t fun j p hj _ => hall j (Array.getElem?_eq_some_iff.1 hj).1
  intro fuel
  induction fuel with
  | zero =>
    intro listed a w hl hc hI
    have hr : Region.ready .any ops listed = [] := by
      rw [List.eq_nil_iff_forall_not_mem]
      intro i hi
      obtain ⟨h1, o, ho, -⟩ := mem_ready.1 hi
      have hlt : i < listed.size := by rw [hl]; exact (Array.getElem?_eq_some_iff.1 ho).1
      have h2 : false ∈ listed.toList := by
        rw [getD_at hlt] at h1
        rw [← h1]
        exact Array.mem_toList_iff.2 (Array.getElem_mem hlt)
      have := List.count_pos_iff.2 h2
      omega
    exact ⟨hr, done listed a w hl hI hr⟩
  | succ fuel ih =>
    intro listed a w hl hc hI
    refine ⟨fun hr => done listed a w hl hI hr, fun i hi => ?_⟩
    obtain ⟨h1, o, ho, hall⟩ := mem_ready.1 hi
    have hlt : i < listed.size := by rw [hl]; exact (Array.getElem?_eq_some_iff.1 ho).1
    obtain ⟨e1, e2, e3, e4⟩ := edges_at hB ho
    have hw : Region.wanted o (yielded ops a.tmps) = true := by
      unfold Region.wanted
      cases hg : o.guard with
      | none => rfl
      | some p =>
        obtain ⟨g, want⟩ := p
        obtain ⟨d, hd, hb, hwt, hdn⟩ := e4 g want hg
        have hk := hI.known d (waits_listed hwt hall)
        unfold Known at hk
        rw [hb] at hk
        have hds : d < a.tmps.size := by rw [hI.size]; exact hdn
        have hk2 : a.tmps[d]? = some (.bool want) := by
          have : a.tmps.getD d undef = .bool want := hk
          rw [getD_at hds] at this
          rw [Array.getElem?_eq_getElem hds, this]
        simp only [yielded, hd, Option.bind_some, hk2, beq_self_eq_true]
    unfold wpOp
    simp only [ho, hw, if_true]
    left
    have hmem : o ∈ ops.toList := Array.mem_toList_iff.2 (Array.mem_of_getElem? ho)
    refine Oper.wp_mono ?_ (hs.get hmem Q a w hI.below (fun t ht => hI.known t (waits_listed (e1 t ht) hall)))
    rintro a' w' ⟨v, rfl, hv, hb⟩
    refine ih _ _ _ (by simp [hl]) ?_ (hI.step hf hl ho e3 hv hb)
    have hcnt := count_set (l := listed.toList) (i := i) (by
      rw [getD_at hlt] at h1
      rw [Array.getElem?_toList, Array.getElem?_eq_getElem hlt, h1])
    rw [Array.toList_setIfInBounds]
    omega

end

/-- The slots that are known ahead. -/
def OutKnown (a : Act) (w : World) : List (Nat × (Value → World → Prop)) → Prop
  | [] => True
  | p :: ps => p.2 (a.eval (.tmp p.1)) w ∧ OutKnown a w ps

/-- All else that is known, is known of what the region writes. -/
def keysB (bs : List (Nat × Bool)) (ks : List Nat) (ops : Array Oper) : Bool :=
  (bs.all fun p => ops.any fun o => o.dst == some p.1) && ks.all fun t => ops.any fun o => o.dst == some t

theorem lookup_append {fs gs : List (Nat × (Value → World → Prop))} {t : Nat} : (fs ++ gs).lookup t = match fs.lookup t with | some φ => some φ | none => gs.lookup t := by
  induction fs with
  | nil => rfl
  | cons p ps ih =>
    obtain ⟨k, φ⟩ := p
    rw [List.cons_append, List.lookup_cons, List.lookup_cons]
    cases t == k
    · exact ih
    · rfl

theorem lookup_mem {β : Type _} {l : List (Nat × β)} {t : Nat} {x : β} (h : l.lookup t = some x) : (t, x) ∈ l := by
  induction l with
  | nil => cases h
  | cons p ps ih =>
    obtain ⟨k, y⟩ := p
    rw [List.lookup_cons] at h
    split at h
    · next e => injection h with e2; subst e2; rw [beq_iff_eq] at e; subst e; exact List.mem_cons_self
    · exact List.mem_cons_of_mem _ (ih h)

theorem OutKnown.get {a : Act} {w : World} {l : List (Nat × (Value → World → Prop))} (h : OutKnown a w l) {t : Nat} {φ : Value → World → Prop} (hm : (t, φ) ∈ l) : φ (a.eval (.tmp t)) w := by
  induction l with
  | nil => cases hm
  | cons p ps ih =>
    rcases List.mem_cons.1 hm with e | hm
    · subst e; exact h.1
    · exact ih h.2 hm

/-- A region that draws its order: each operation by what is known of its operands. -/
theorem wp_region_known {P : Program} {id : Nat} {l : List Oper} {Q : Exit → Act → World → Prop} {a : Act} {w : World} (bs : List (Nat × Bool)) (outs ins : List (Nat × (Value → World → Prop))) (n : Nat) (hm : P.follows .mixedOrders = true)
    (hn : a.tmps.size = n) (hB : edgesB bs n l.toArray = true) (hK : keysB bs (ins.map Prod.fst) l.toArray = true) (ho : OutKnown a w outs) (hf : AllGrow (outs ++ ins))
    (hs : AllStep P bs (outs ++ ins) w l)
    (hend : ∀ a' w', Below w.heap.size w w' → a'.tmps.size = n → a'.defers = a.defers → (∀ t, Known bs (outs ++ ins) t (a'.eval (.tmp t)) w') → Q .normal a' w') :
    (Code.region id l.toArray true).wp P Q a w := by
  refine wp_region_any hm (wpAny_known (bs := bs) (fs := outs ++ ins) (n := n) (w0 := w) (ds := a.defers) hf hB (by simpa using hs) hend _ _ _ _ (by simp) (by simp) ?_)
  have hgr : Below w.heap.size w { w with drawn := w.drawn + 1 } := (Below.refl _ _).drew
  refine ⟨hgr, hn, rfl, fun t ht => ?_⟩
  unfold keysB at hK
  rw [Bool.and_eq_true, List.all_eq_true, List.all_eq_true] at hK
  have none_of : (∃ o ∈ l.toArray, o.dst = some t) → False := by
    rintro ⟨o, h1, h2⟩
    obtain ⟨j, hj, he⟩ := Array.getElem_of_mem h1
    have := ht j o (by rw [Array.getElem?_eq_getElem hj, he]) h2
    rw [getD_at (by simpa using hj)] at this
    simp at this
  have any_of : ∀ k, (l.toArray.any fun o => o.dst == some k) = true → ∃ o ∈ l.toArray, o.dst = some k := by
    intro k h
    rw [Array.any_eq_true] at h
    obtain ⟨j, hj, h2⟩ := h
    exact ⟨_, Array.getElem_mem hj, by simpa using h2⟩
  unfold Known
  split
  · next b e => exact absurd (any_of t (hK.1 (t, b) (lookup_mem e))) (fun h => none_of h)
  · split
    · next φ e =>
      rw [lookup_append] at e
      cases hl2 : outs.lookup t with
      | none =>
        rw [hl2] at e
        exact absurd (any_of t (hK.2 t (List.mem_map.2 ⟨(t, φ), lookup_mem e, rfl⟩))) (fun h => none_of h)
      | some ψ =>
        rw [hl2] at e
        injection e with e
        subst e
        exact hf.lookup (by rw [lookup_append, hl2]) _ _ _ (ho.get (lookup_mem hl2)) hgr
    · trivial

/-- The end of a call that answers slot t. -/
theorem ret_slot {P : Program} {fn : Func} {R : Ending → World → Prop} {a : Act} {w : World} {t : Nat} {v : Value} (hr : fn.results = #[.tmp t]) (hd : a.defers = []) (h : a.eval (.tmp t) = v) (hR : R (.returned v) w) : bodyPost P fn R .ret a w := by
  have h1 : a.tmps[t]?.getD undef = v := by rw [← Array.getD_eq_getD_getElem?]; exact h
  refine bodyPost_ret (v := v) ?_ hd hR
  simp [results, hr, go_sem, h1]

end Go.Proofs.Ytikbjjechhdclaa
