/- Regions in the text's order: what is known of each slot, and the last operations left to the walk. -/
import Derived.Test.YtikbjjechhdclaaFacts2
namespace Go.Proofs.Ytikbjjechhdclaa
open Go.RowKit

/-- Whoever writes slot t comes before operation i. -/
def earlyB (ops : Array Oper) (i t : Nat) : Bool :=
  (List.range ops.size).all fun j => match ops[j]? with
    | none => true
    | some p => p.dst != some t || decide (j < i)

def seqB (bs : List (Nat × Bool)) (n m : Nat) (ops : Array Oper) : Bool :=
  decide (m ≤ ops.size) && (List.range m).all fun i => match ops[i]? with
    | none => true
    | some o => (looks o).all (earlyB ops i) && (match o.dst with | none => true | some d => decide (d < n)) &&
      (match o.guard with
        | none => true
        | some (g, want) => match (ops[g]?).bind (·.dst) with
          | none => false
          | some d => bs.lookup d == some want && earlyB ops i d && decide (d < n))

theorem earlyB_spec {ops : Array Oper} {i t : Nat} (h : earlyB ops i t = true) : ∀ j p, ops[j]? = some p → p.dst = some t → j < i := by
  intro j p hj hp
  unfold earlyB at h
  have := List.all_eq_true.1 h j (List.mem_range.2 (Array.getElem?_eq_some_iff.1 hj).1)
  rw [hj] at this
  simpa [hp] using this

section
variable {P : Program} {ops : Array Oper} {bs : List (Nat × Bool)} {fs : List (Nat × (Value → World → Prop))} {n m : Nat} {w0 : World} {ds : List Deferred} {Q : Exit → Act → World → Prop}

theorem seq_at (h : seqB bs n m ops = true) {i : Nat} {o : Oper} (hi : i < m) (ho : ops[i]? = some o) :
    (∀ t, t ∈ looks o → earlyB ops i t = true) ∧ (∀ d, o.dst = some d → d < n) ∧
    (∀ g want, o.guard = some (g, want) → ∃ d, (ops[g]?).bind (·.dst) = some d ∧ bs.lookup d = some want ∧ earlyB ops i d = true ∧ d < n) := by
  unfold seqB at h
  rw [Bool.and_eq_true, List.all_eq_true] at h
  have h1 := h.2 i (List.mem_range.2 hi)
  rw [ho] at h1
  simp only [Bool.and_eq_true] at h1
  obtain ⟨⟨h2, h4⟩, h5⟩ := h1
  refine ⟨fun t ht => List.all_eq_true.1 h2 t ht, fun d hd => ?_, fun g want hg => ?_⟩
  · rw [hd] at h4
    simpa using h4
  · rw [hg] at h5
    simp only at h5
    cases hd : (ops[g]?).bind (·.dst) with
    | none => rw [hd] at h5; simp at h5
    | some d =>
      rw [hd] at h5
      simp only [Bool.and_eq_true, beq_iff_eq, decide_eq_true_eq] at h5
      exact ⟨d, rfl, h5.1.1, h5.1.2, h5.2⟩

theorem wpOps_known (hf : AllGrow fs) (hB : seqB bs n m ops = true) (hs : AllStep P bs fs w0 (ops.toList.take m))
    (hend : ∀ a w, Below w0.heap.size w0 w → a.tmps.size = n → a.defers = ds → (∀ t, (∀ j p, ops[j]? = some p → p.dst = some t → j < m) → Known bs fs t (a.eval (.tmp t)) w) → wpOps P ops Q (List.range' m (ops.size - m)) a w) :
    ∀ (r k : Nat) (listed : Array Bool) (a : Act) (w : World), k + r = m → listed.size = ops.size → (∀ j, j < ops.size → (listed.getD j false = true ↔ j < k)) → Inv ops bs fs n w0 ds listed a w → wpOps P ops Q (List.range' k (ops.size - k)) a w := by
  have hm : m ≤ ops.size := by
    unfold seqB at hB
    rw [Bool.and_eq_true, decide_eq_true_eq] at hB
    exact hB.1
  intro r
  induction r with
  | zero =>
    intro k listed a w hk hl hlst hI
    obtain rfl : k = m := by omega
    exact hend a w hI.below hI.size hI.defers fun t ht => hI.known t fun j p hj hp => (hlst j (Array.getElem?_eq_some_iff.1 hj).1).2 (ht j p hj hp)
  | succ r ih =>
    intro k listed a w hk hl hlst hI
    have hks : k < ops.size := by omega
    obtain ⟨o, ho⟩ : ∃ o, ops[k]? = some o := ⟨_, Array.getElem?_eq_getElem hks⟩
    obtain ⟨e1, e3, e4⟩ := seq_at hB (by omega) ho
    have early : ∀ t, earlyB ops k t = true → ∀ j p, ops[j]? = some p → p.dst = some t → listed.getD j false = true := fun t ht j p hj hp =>
      (hlst j (Array.getElem?_eq_some_iff.1 hj).1).2 (earlyB_spec ht j p hj hp)
    have hw : Region.wanted o (yielded ops a.tmps) = true := by
      unfold Region.wanted
      cases hg : o.guard with
      | none => rfl
      | some p =>
        obtain ⟨g, want⟩ := p
        obtain ⟨d, hd, hb, hwt, hdn⟩ := e4 g want hg
        have hkn := hI.known d (early d hwt)
        unfold Known at hkn
        rw [hb] at hkn
        have hds : d < a.tmps.size := by rw [hI.size]; exact hdn
        have hk2 : a.tmps[d]? = some (.bool want) := by
          have : a.tmps.getD d undef = .bool want := hkn
          rw [getD_at hds] at this
          rw [Array.getElem?_eq_getElem hds, this]
        simp only [yielded, hd, Option.bind_some, hk2, beq_self_eq_true]
    have hr1 : ops.size - k = (ops.size - (k + 1)) + 1 := by omega
    rw [hr1, List.range'_succ, wpOps_cons]
    unfold wpOp
    simp only [ho, hw, if_true]
    left
    have hmem : o ∈ ops.toList.take m := by
      refine List.mem_iff_getElem?.2 ⟨k, ?_⟩
      rw [List.getElem?_take, if_pos (by omega), Array.getElem?_toList]
      exact ho
    refine Oper.wp_mono ?_ (hs.get hmem Q a w hI.below (fun t ht => hI.known t (early t (e1 t ht))))
    rintro a' w' ⟨v, rfl, hv, hb⟩
    refine ih (k + 1) (listed.setIfInBounds k true) _ _ (by omega) (by simp [hl]) (fun j hj => ?_) (hI.step hf hl ho e3 hv hb)
    by_cases hji : k = j
    · subst hji
      rw [getD_at (by simpa [hl] using hj)]
      simp
    · rw [getD_set_ne false hji, hlst j hj]
      omega

end

/-- A region in the text's order: what is known, and its last operations. -/
theorem wp_region_seq {P : Program} {id : Nat} {l : List Oper} {Q : Exit → Act → World → Prop} {a : Act} {w : World} (bs : List (Nat × Bool)) (outs ins : List (Nat × (Value → World → Prop))) (n m : Nat)
    (hn : a.tmps.size = n) (hB : seqB bs n m l.toArray = true) (hK : keysB bs (ins.map Prod.fst) l.toArray = true) (ho : OutKnown a w outs) (hf : AllGrow (outs ++ ins))
    (hs : AllStep P bs (outs ++ ins) w (l.take m))
    (hend : ∀ a' w', Below w.heap.size w w' → a'.tmps.size = n → a'.defers = a.defers → (∀ t, preB m t l.toArray = true → Known bs (outs ++ ins) t (a'.eval (.tmp t)) w') → wpOps P l.toArray Q (List.range' m (l.toArray.size - m)) a' w') :
    (Code.region id l.toArray false).wp P Q a w := by
  have none_of : ∀ t, (∀ j p, l.toArray[j]? = some p → p.dst = some t → (Array.replicate l.toArray.size false).getD j false = true) → (∃ o ∈ l.toArray, o.dst = some t) → False := by
    rintro t ht ⟨o, h1, h2⟩
    obtain ⟨j, hj, he⟩ := Array.getElem_of_mem h1
    have := ht j o (by rw [Array.getElem?_eq_getElem hj, he]) h2
    rw [getD_at (by simpa using hj)] at this
    simp at this
  have any_of : ∀ k, (l.toArray.any fun o => o.dst == some k) = true → ∃ o ∈ l.toArray, o.dst = some k := by
    intro k h
    rw [Array.any_eq_true] at h
    obtain ⟨j, hj, h2⟩ := h
    exact ⟨_, Array.getElem_mem hj, by simpa using h2⟩
  have hm : m ≤ l.toArray.size := by
    unfold seqB at hB
    rw [Bool.and_eq_true, decide_eq_true_eq] at hB
    exact hB.1
  refine wp_region ?_
  rw [List.range_eq_range']
  refine wpOps_known (bs := bs) (fs := outs ++ ins) (n := n) (m := m) (w0 := w) (ds := a.defers) hf hB (by simpa using hs) (fun a' w' h1 h2 h3 h4 => hend a' w' h1 h2 h3 (fun t ht => h4 t (preB_spec ht))) m 0 (Array.replicate l.toArray.size false) a w (by omega) (by simp) (fun j hj => ?_) ?_
  · rw [getD_at (by simpa using hj)]
    simp
  · refine ⟨Below.refl _ _, hn, rfl, fun t ht => ?_⟩
    unfold keysB at hK
    rw [Bool.and_eq_true, List.all_eq_true, List.all_eq_true] at hK
    unfold Known
    split
    · next b e => exact absurd (any_of t (hK.1 (t, b) (lookup_mem e))) (fun h => none_of t ht h)
    · split
      · next φ e =>
        rw [lookup_append] at e
        cases hl2 : outs.lookup t with
        | none =>
          rw [hl2] at e
          exact absurd (any_of t (hK.2 t (List.mem_map.2 ⟨(t, φ), lookup_mem e, rfl⟩))) (fun h => none_of t ht h)
        | some ψ =>
          rw [hl2] at e
          injection e with e
          subst e
          exact ho.get (lookup_mem hl2)
      · trivial

end Go.Proofs.Ytikbjjechhdclaa
