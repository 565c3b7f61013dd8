/- Regions in whatever order, with operations that their guards pass over. -/
import Derived.Test.YtikbjjechhdclaaFacts
namespace Go.Proofs.Ytikbjjechhdclaa
open Go.RowKit

/-- The order's edges serve. -/
def edgesC (bs : List (Nat × Bool)) (us : List Nat) (n : Nat) (ops : Array Oper) : Bool :=
  (List.range ops.size).all fun i => match ops[i]? with
    | none => true
    | some o => (looks o).all (waitsB ops o) && o.after.all (fun e => !Region.binds .any e || decide (e.on < i)) &&
      (match o.dst with | none => true | some d => decide (d < n)) &&
      (match o.guard with
        | none => true
        | some (g, _) => match (ops[g]?).bind (·.dst) with
          | none => false
          | some d => ((bs.lookup d).isSome || us.contains d) && waitsB ops o d && decide (d < n))

/-- The guard of o, as it is known, passes it over. -/
def skips (bs : List (Nat × Bool)) (ops : Array Oper) (o : Oper) : Bool := match o.guard with
  | none => false
  | some (g, want) => match (ops[g]?).bind (·.dst) with
    | none => false
    | some d => match bs.lookup d with
      | some b => b != want
      | none => true
/-- Nothing is known of what o writes. -/
def bare (bs : List (Nat × Bool)) (fs : List (Nat × (Value → World → Prop))) (us : List Nat) (o : Oper) : Bool := match o.dst with
  | none => true
  | some d => us.contains d || ((bs.lookup d).isNone && (fs.lookup d).isNone)
theorem bare_known {bs : List (Nat × Bool)} {fs : List (Nat × (Value → World → Prop))} {us : List Nat} {o : Oper} (hu : ∀ t, t ∈ us → ∀ w, Known bs fs t undef w) (h : bare bs fs us o = true) {d : Nat} {w : World} (hd : o.dst = some d) : Known bs fs d undef w := by
  unfold bare at h
  rw [hd] at h
  simp only [Bool.or_eq_true, Bool.and_eq_true, Option.isNone_iff_eq_none] at h
  rcases h with h | h
  · exact hu d (by simpa using h) w
  · unfold Known
    rw [h.1, h.2]
    trivial

def AllStepC (P : Program) (bs : List (Nat × Bool)) (fs : List (Nat × (Value → World → Prop))) (us : List Nat) (w0 : World) (ops : Array Oper) : List Oper → Prop
  | [] => True
  | o :: l => (if skips bs ops o then bare bs fs us o = true else StepOk P bs fs w0 o) ∧ AllStepC P bs fs us w0 ops l
theorem AllStepC.get {P : Program} {bs : List (Nat × Bool)} {fs : List (Nat × (Value → World → Prop))} {us : List Nat} {w0 : World} {ops : Array Oper} {l : List Oper} (h : AllStepC P bs fs us w0 ops l) {o : Oper} (ho : o ∈ l) : if skips bs ops o then bare bs fs us o = true else StepOk P bs fs w0 o := by
  induction l with
  | nil => cases ho
  | cons x xs ih =>
    rcases List.mem_cons.1 ho with rfl | ho
    · exact h.1
    · exact ih h.2 ho
theorem AllStepC.step {P : Program} {bs : List (Nat × Bool)} {fs : List (Nat × (Value → World → Prop))} {us : List Nat} {w0 : World} {ops : Array Oper} {o : Oper} {l : List Oper} (h1 : skips bs ops o = false) (h : StepOk P bs fs w0 o) (h' : AllStepC P bs fs us w0 ops l) : AllStepC P bs fs us w0 ops (o :: l) := ⟨by rw [h1, if_neg (by decide)]; exact h, h'⟩
theorem AllStepC.skip {P : Program} {bs : List (Nat × Bool)} {fs : List (Nat × (Value → World → Prop))} {us : List Nat} {w0 : World} {ops : Array Oper} {o : Oper} {l : List Oper} (h1 : skips bs ops o = true) (h : bare bs fs us o = true) (h' : AllStepC P bs fs us w0 ops l) : AllStepC P bs fs us w0 ops (o :: l) := ⟨by rw [if_pos h1]; exact h, h'⟩
theorem AllStepC.nil {P : Program} {bs : List (Nat × Bool)} {fs : List (Nat × (Value → World → Prop))} {us : List Nat} {w0 : World} {ops : Array Oper} : AllStepC P bs fs us w0 ops [] := trivial

section
variable {P : Program} {ops : Array Oper} {bs : List (Nat × Bool)} {fs : List (Nat × (Value → World → Prop))} {us : List Nat} {n : Nat} {w0 : World} {ds : List Deferred} {Q : Exit → Act → World → Prop}

theorem edges_atC (h : edgesC bs us n ops = true) {i : Nat} {o : Oper} (ho : ops[i]? = some o) :
    (∀ t, t ∈ looks o → waitsB ops o t = true) ∧ (∀ e ∈ o.after, Region.binds .any e = true → e.on < i) ∧ (∀ d, o.dst = some d → d < n) ∧
    (∀ g want, o.guard = some (g, want) → ∃ d, (ops[g]?).bind (·.dst) = some d ∧ ((∃ b, bs.lookup d = some b) ∨ (bs.lookup d = none ∧ d ∈ us)) ∧ waitsB ops o d = true ∧ d < n) := by
  unfold edgesC at h
  rw [List.all_eq_true] at h
  have hlt : i < ops.size := (Array.getElem?_eq_some_iff.1 ho).1
  have h1 := h i (List.mem_range.2 hlt)
  rw [ho] at h1
  simp only [Bool.and_eq_true] at h1
  obtain ⟨⟨⟨h2, h3⟩, h4⟩, h5⟩ := h1
  refine ⟨fun t ht => List.all_eq_true.1 h2 t ht, fun e he hb => ?_, fun d hd => ?_, fun g want hg => ?_⟩
  · rw [Array.all_eq_true] at h3
    obtain ⟨k, hk, rfl⟩ := Array.getElem_of_mem he
    have := h3 k hk
    simp only [hb, Bool.not_true, Bool.false_or, decide_eq_true_eq] at this
    exact this
  · rw [hd] at h4
    simpa using h4
  · rw [hg] at h5
    simp only at h5
    cases hd : (ops[g]?).bind (·.dst) with
    | none => rw [hd] at h5; simp at h5
    | some d =>
      rw [hd] at h5
      simp only [Bool.and_eq_true, decide_eq_true_eq] at h5
      refine ⟨d, rfl, ?_, h5.1.2, h5.2⟩
      cases hl : bs.lookup d with
      | some b => exact .inl ⟨b, rfl⟩
      | none =>
        rw [hl] at h5
        exact .inr ⟨rfl, by simpa using h5.1.1⟩

theorem all_listedC (h : edgesC bs us n ops = true) {listed : Array Bool} (hl : listed.size = ops.size) (hr : Region.ready .any ops listed = []) : ∀ i, i < ops.size → listed.getD i false = true := by
  intro i
  induction i using Nat.strongRecOn with
  | ind i ih =>
    intro hi
    by_cases hx : listed.getD i false = true
    · exact hx
    · exfalso
      have hf : listed.getD i true = false := by
        rw [getD_tf (by omega) true false]
        simpa using hx
      have hm : i ∈ Region.ready .any ops listed := by
        refine mem_ready.2 ⟨hf, ops[i], Array.getElem?_eq_getElem hi, fun e he hb => ?_⟩
        have hlt := (edges_atC h (Array.getElem?_eq_getElem hi)).2.1 e he hb
        exact ih e.on hlt (by omega)
      rw [hr] at hm
      cases hm

theorem wpAny_knownC (hf : AllGrow fs) (hu : ∀ t, t ∈ us → (∀ v w, Known bs fs t v w → v = undef) ∧ ∀ w, Known bs fs t undef w) (hB : edgesC bs us n ops = true) (hs : AllStepC P bs fs us w0 ops ops.toList)
    (hend : ∀ a w, Below w0.heap.size w0 w → a.tmps.size = n → a.defers = ds → (∀ t, Known bs fs t (a.eval (.tmp t)) w) → Q .normal a w) :
    ∀ (fuel : Nat) (listed : Array Bool) (a : Act) (w : World), listed.size = ops.size → listed.toList.count false ≤ fuel → Inv ops bs fs n w0 ds listed a w → wpAny P .any ops Q fuel listed a w := by
  have done : ∀ (listed : Array Bool) (a : Act) (w : World), listed.size = ops.size → Inv ops bs fs n w0 ds listed a w → Region.ready .any ops listed = [] → Q .normal a w := by
    intro listed a w hl hI hr
    have hall := all_listedC hB hl hr
    exact hend a w hI.below hI.size hI.defers fun t => hI.known t fun j p hj _ => hall j (Array.getElem?_eq_some_iff.1 hj).1
  intro fuel
  induction fuel with
  | zero =>
    intro listed a w hl hc hI
    have hr : Region.ready .any ops listed = [] := by
      rw [List.eq_nil_iff_forall_not_mem]
      intro i hi
      obtain ⟨h1, o, ho, -⟩ := mem_ready.1 hi
      have hlt : i < listed.size := by rw [hl]; exact (Array.getElem?_eq_some_iff.1 ho).1
      have h2 : false ∈ listed.toList := by
        rw [getD_at hlt] at h1
        rw [← h1]
        exact Array.mem_toList_iff.2 (Array.getElem_mem hlt)
      have := List.count_pos_iff.2 h2
      omega
    exact ⟨hr, done listed a w hl hI hr⟩
  | succ fuel ih =>
    intro listed a w hl hc hI
    refine ⟨fun hr => done listed a w hl hI hr, fun i hi => ?_⟩
    obtain ⟨h1, o, ho, hall⟩ := mem_ready.1 hi
    have hlt : i < listed.size := by rw [hl]; exact (Array.getElem?_eq_some_iff.1 ho).1
    obtain ⟨e1, e2, e3, e4⟩ := edges_atC hB ho
    have hmem : o ∈ ops.toList := Array.mem_toList_iff.2 (Array.mem_of_getElem? ho)
    have hcnt := count_set (l := listed.toList) (i := i) (by
      rw [getD_at hlt] at h1
      rw [Array.getElem?_toList, Array.getElem?_eq_getElem hlt, h1])
    have hcnt2 : (listed.setIfInBounds i true).toList.count false ≤ fuel := by
      rw [Array.toList_setIfInBounds]
      omega
    have hst := hs.get hmem
    have hwd : Region.wanted o (yielded ops a.tmps) = !(skips bs ops o) := by
      unfold Region.wanted skips
      cases hg : o.guard with
      | none => rfl
      | some p =>
        obtain ⟨g, want⟩ := p
        obtain ⟨d, hd, hbu, hwt, hdn⟩ := e4 g want hg
        have hk := hI.known d (waits_listed hwt hall)
        have hds : d < a.tmps.size := by rw [hI.size]; exact hdn
        rcases hbu with ⟨b, hb⟩ | ⟨hb, hdu⟩
        · unfold Known at hk
          rw [hb] at hk
          have hk2 : a.tmps[d]? = some (.bool b) := by
            have : a.tmps.getD d undef = .bool b := hk
            rw [getD_at hds] at this
            rw [Array.getElem?_eq_getElem hds, this]
          simp only [yielded, hd, Option.bind_some, hk2, hb]
          cases b <;> cases want <;> rfl
        · have hk1 := (hu d hdu).1 _ _ hk
          have hk2 : a.tmps[d]? = some undef := by
            have : a.tmps.getD d undef = undef := hk1
            rw [getD_at hds] at this
            rw [Array.getElem?_eq_getElem hds, this]
          simp only [yielded, hd, Option.bind_some, hk2, hb]
          rfl
    unfold wpOp
    simp only [ho, hwd]
    cases hsk : skips bs ops o
    · rw [hsk, if_neg (by decide)] at hst
      simp only [Bool.not_false, if_true]
      left
      refine Oper.wp_mono ?_ (hst Q a w hI.below (fun t ht => hI.known t (waits_listed (e1 t ht) hall)))
      rintro a' w' ⟨v, rfl, hv, hb⟩
      exact ih _ _ _ (by simp [hl]) hcnt2 (hI.step hf hl ho e3 hv hb)
    · rw [hsk, if_pos rfl] at hst
      simp only [Bool.not_true, Bool.false_eq_true, if_false]
      exact ih _ _ _ (by simp [hl]) hcnt2 (hI.step hf hl ho e3 (fun d hd => bare_known (fun t ht => (hu t ht).2) hst hd) (Below.refl _ _))

end

/-- A region that draws its order: with operations that are passed over: each by what is known of its operands. -/
theorem wp_region_knownC {P : Program} {id : Nat} {l : List Oper} {Q : Exit → Act → World → Prop} {a : Act} {w : World} (bs : List (Nat × Bool)) (us : List Nat) (outs ins : List (Nat × (Value → World → Prop))) (n : Nat) (hm : P.follows .mixedOrders = true)
    (hn : a.tmps.size = n) (hB : edgesC bs us n l.toArray = true) (hK : keysB bs (ins.map Prod.fst) l.toArray = true) (ho : OutKnown a w outs) (hf : AllGrow (outs ++ ins)) (hu : ∀ t, t ∈ us → (∀ v w, Known bs (outs ++ ins) t v w → v = undef) ∧ ∀ w, Known bs (outs ++ ins) t undef w)
    (hs : AllStepC P bs (outs ++ ins) us w l.toArray l)
    (hend : ∀ a' w', Below w.heap.size w w' → a'.tmps.size = n → a'.defers = a.defers → (∀ t, Known bs (outs ++ ins) t (a'.eval (.tmp t)) w') → Q .normal a' w') :
    (Code.region id l.toArray true).wp P Q a w := by
  refine wp_region_any hm (wpAny_knownC (bs := bs) (fs := outs ++ ins) (n := n) (us := us) (w0 := w) (ds := a.defers) hf hu hB (by simpa using hs) hend _ _ _ _ (by simp) (by simp) ?_)
  have hgr : Below w.heap.size w { w with drawn := w.drawn + 1 } := (Below.refl _ _).drew
  refine ⟨hgr, hn, rfl, fun t ht => ?_⟩
  unfold keysB at hK
  rw [Bool.and_eq_true, List.all_eq_true, List.all_eq_true] at hK
  have none_of : (∃ o ∈ l.toArray, o.dst = some t) → False := by
    rintro ⟨o, h1, h2⟩
    obtain ⟨j, hj, he⟩ := Array.getElem_of_mem h1
    have := ht j o (by rw [Array.getElem?_eq_getElem hj, he]) h2
    rw [getD_at (by simpa using hj)] at this
    simp at this
  have any_of : ∀ k, (l.toArray.any fun o => o.dst == some k) = true → ∃ o ∈ l.toArray, o.dst = some k := by
    intro k h
    rw [Array.any_eq_true] at h
    obtain ⟨j, hj, h2⟩ := h
    exact ⟨_, Array.getElem_mem hj, by simpa using h2⟩
  unfold Known
  split
  · next b e => exact absurd (any_of t (hK.1 (t, b) (lookup_mem e))) (fun h => none_of h)
  · split
    · next φ e =>
      rw [lookup_append] at e
      cases hl2 : outs.lookup t with
      | none =>
        rw [hl2] at e
        exact absurd (any_of t (hK.2 t (List.mem_map.2 ⟨(t, φ), lookup_mem e, rfl⟩))) (fun h => none_of h)
      | some ψ =>
        rw [hl2] at e
        injection e with e
        subst e
        exact hf.lookup (by rw [lookup_append, hl2]) _ _ _ (ho.get (lookup_mem hl2)) hgr
    · trivial


end Go.Proofs.Ytikbjjechhdclaa
