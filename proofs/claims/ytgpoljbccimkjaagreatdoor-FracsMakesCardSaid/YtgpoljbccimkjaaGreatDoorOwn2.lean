/- Div and Gcd: answers in memory of their own, and the reference's by the same words; five lists in a book. -/
import Derived.Test.YtgpoljbccimkjaaGreatDoorEnds
import Derived.Test.YtgpoljbccimkjaaGreatDoorRefU
namespace Go.Proofs.YtgpoljbccimkjaaGreatDoor
set_option linter.unusedSimpArgs false
set_option linter.unusedVariables false
open Go.RowKit Go.Shelf

/-- The error, how often, what is left. -/
def divC (s : Bool) (l : List Nat) (s' : Bool) (l' : List Nat) : Int := if okB s l && okB s' l' then (if valS s' l' = 0 then 6 else 0) else 1
def divQ (s : Bool) (l : List Nat) (s' : Bool) (l' : List Nat) : Int := if okB s l && okB s' l' then valS s l / valS s' l' else 0
def divR (s : Bool) (l : List Nat) (s' : Bool) (l' : List Nat) : Int := if okB s l && okB s' l' then (if valS s' l' = 0 then 0 else valS s l % valS s' l') else 0

theorem div_forms (s : Bool) (l : List Nat) (s' : Bool) (l' : List Nat) :
    ((okB s l = false ∨ okB s' l' = false) ∧ divC s l s' l' = 1 ∧ divQ s l s' l' = 0 ∧ divR s l s' l' = 0) ∨
    (okB s l = true ∧ okB s' l' = true ∧ valS s' l' = 0 ∧ divC s l s' l' = 6 ∧ divQ s l s' l' = 0 ∧ divR s l s' l' = 0) ∨
    (okB s l = true ∧ okB s' l' = true ∧ valS s' l' ≠ 0 ∧ divC s l s' l' = 0 ∧ divQ s l s' l' = valS s l / valS s' l' ∧ divR s l s' l' = valS s l % valS s' l') := by
  unfold divC divQ divR
  cases h : okB s l
  · exact .inl ⟨.inl rfl, by simp, by simp, by simp⟩
  · cases h' : okB s' l'
    · exact .inl ⟨.inr rfl, by simp, by simp, by simp⟩
    · by_cases h0 : valS s' l' = 0
      · exact .inr (.inl ⟨rfl, rfl, h0, by simp [h0], by simp [h0], by simp [h0]⟩)
      · exact .inr (.inr ⟨rfl, rfl, h0, by simp [h0], by simp, by simp [h0]⟩)

theorem divs_bound {s s' : Bool} {l l' : List Nat} {k : Nat} (hl : l.length ≤ k) (hl' : l'.length ≤ k) : (divQ s l s' l').natAbs < 1000000000 ^ k ∧ (divR s l s' l').natAbs < 1000000000 ^ k := by
  have h0 : (0 : Int).natAbs < 1000000000 ^ k := Nat.pow_pos (by decide)
  rcases div_forms s l s' l' with ⟨-, -, h2, h3⟩ | ⟨-, -, -, -, h2, h3⟩ | ⟨ho, ho', hz, -, h2, h3⟩
  · rw [h2, h3]; exact ⟨h0, h0⟩
  · rw [h2, h3]; exact ⟨h0, h0⟩
  · rw [h2, h3]; exact ⟨ediv_lt (valS_bound ho hl), emod_lt hz (valS_bound ho' hl')⟩

/-- What Div answers, of its own. -/
def DivOwn (n : Nat) (w' : World) (e : Ending) (k : Nat) (C Zq Zr : Int) : Prop := ∃ sq aq lq cq sr ar lr cr, e = .returned (.tuple #[.agg #[.bool sq, .slice aq lq.length cq], .agg #[.bool sr, .slice ar lr.length cr], .int .i64 C]) ∧ OwnL n w' (.slice aq lq.length cq) lq ∧ OwnL n w' (.slice ar lr.length cr) lr ∧ Apart (.slice aq lq.length cq) (.slice ar lr.length cr) ∧ OkAt w' (.agg #[.bool sq, .slice aq lq.length cq]) k Zq ∧ OkAt w' (.agg #[.bool sr, .slice ar lr.length cr]) k Zr ∧ lq.length ≤ k ∧ lr.length ≤ k
theorem DivIs.own {n k : Nat} {w : World} {e : Ending} {C Zq Zr : Int} (h : DivIs n w e C Zq Zr) (hq : Zq.natAbs < 1000000000 ^ k) (hr : Zr.natAbs < 1000000000 ^ k) : DivOwn n w e k C Zq Zr := by
  obtain ⟨sq, lq, vq, sr, lr, vr, rfl, h1, h2, h3, h4, h5, h6, h7⟩ := h
  have e1 := len_of_valS (k := k) h3 (by rw [h5]; exact hq)
  have e2 := len_of_valS (k := k) h4 (by rw [h6]; exact hr)
  have l1 := h1.lim
  have l2 := h2.lim
  obtain ⟨aq, cq, rfl, -⟩ := h1.lim
  obtain ⟨ar, cr, rfl, -⟩ := h2.lim
  exact ⟨sq, aq, lq, cq, sr, ar, lr, cr, rfl, h1, h2, h7, ⟨sq, _, lq, rfl, l1, h3, h5, e1⟩, ⟨sr, _, lr, rfl, l2, h4, h6, e2⟩, e1, e2⟩
theorem Div_own {w : World} {s s' : Bool} {v v' : Value} {l l' : List Nat} {k : Nat} (h : Lim w v l) (h' : Lim w v' l') (hl : l.length ≤ k) (hl' : l'.length ≤ k) (hk : k ≤ 900000) :
    Calls Tryz.prog 16 #[.agg #[.bool s, v], .agg #[.bool s', v']] w fun e w' => DivOwn w.heap.size w' e k (divC s l s' l') (divQ s l s' l') (divR s l s' l') ∧ Below w.heap.size w w' := by
  have hb := divs_bound (s := s) (s' := s') hl hl'
  rcases div_forms s l s' l' with ⟨ho, h1, h2, h3⟩ | ⟨ho, ho', hz, h1, h2, h3⟩ | ⟨ho, ho', hz, h1, h2, h3⟩
  · rw [h1]
    refine (Div_arg s s' v v' l l' w h h' ho).mono ?_
    rintro e w' ⟨h5, h6⟩
    rw [h2, h3] at hb ⊢
    exact ⟨h5.own hb.1 hb.2, h6⟩
  · rw [h1]
    refine (Div_zero s s' v v' l l' w h h' ho ho' ((okB_nil_iff ho').1 hz)).mono ?_
    rintro e w' ⟨h5, h6⟩
    rw [h2, h3] at hb ⊢
    exact ⟨h5.own hb.1 hb.2, h6⟩
  · rw [h1]
    refine (Div_ok s s' v v' l l' w h h' (by omega) (by omega) ho ho' (fun e => hz ((okB_nil_iff ho').2 e))).mono ?_
    rintro e w' ⟨h5, h6⟩
    rw [h2, h3] at hb ⊢
    exact ⟨h5.own hb.1 hb.2, h6⟩
theorem OkAt.wide {w : World} {u : Value} {k k' : Nat} {Z : Int} (h : OkAt w u k Z) (hk : k ≤ k') : OkAt w u k' Z := by
  obtain ⟨s, v, l, h1, h2, h3, h4, h5⟩ := h
  exact ⟨s, v, l, h1, h2, h3, h4, by omega⟩
theorem rDiv_same {w : World} {s s' : Bool} {v v' : Value} {l l' : List Nat} {k : Nat} (h : Lim w v l) (h' : Lim w v' l') (hl : l.length ≤ k) (hl' : l'.length ≤ k) (hk : k ≤ 900000) :
    Calls Tryz.prog 18 #[.agg #[.bool s, v], .agg #[.bool s', v']] w fun e w' => QrAt w' e k k (divC s l s' l') (divQ s l s' l') (divR s l s' l') ∧ Below w.heap.size w w' := by
  rcases div_forms s l s' l' with ⟨ho, h1, h2, h3⟩ | ⟨ho, ho', hz, h1, h2, h3⟩ | ⟨ho, ho', hz, h1, h2, h3⟩
  · rw [h1, h2, h3]
    refine (rDiv_arg h h' ho).mono ?_
    rintro e w' ⟨⟨u, v, h5, h6, h7⟩, h8⟩
    exact ⟨⟨u, v, h5, h6.wide (Nat.zero_le _), h7.wide (Nat.zero_le _)⟩, h8⟩
  · rw [h1, h2, h3]
    refine (rDiv_zero (k := k) (k' := k) ⟨s, v, l, rfl, h, ho, rfl, hl⟩ ⟨s', v', l', rfl, h', ho', hz, hl'⟩).mono ?_
    rintro e w' ⟨⟨u, v, h5, h6, h7⟩, h8⟩
    exact ⟨⟨u, v, h5, h6.wide (Nat.zero_le _), h7.wide (Nat.zero_le _)⟩, h8⟩
  · rw [h1, h2, h3]
    exact rDiv_num ⟨s, v, l, rfl, h, ho, rfl, hl⟩ ⟨s', v', l', rfl, h', ho', rfl, hl'⟩ hk hk hz
theorem Gcd_own {w : World} {u u' : Value} {k k' : Nat} {Z Z' : Int} (h : NumAt w u k Z) (h' : NumAt w u' k' Z') (hk : k ≤ 1000000) (hk' : k' ≤ 1000000) :
    Calls Tryz.prog 17 #[u, u'] w fun e w' => AnsOwn w.heap.size w' e (max k k') (Int.gcd Z Z' : Nat) ∧ Below w.heap.size w w' := by
  have b1 := h.bound
  have b2 := h'.bound
  obtain ⟨s, v, l, rfl, h2, h3, h4⟩ := h
  obtain ⟨s', v', l', rfl, h2', h3', h4'⟩ := h'
  have h2a := h2
  have h2b := h2'
  obtain ⟨a, c, rfl, -⟩ := h2
  obtain ⟨a', c', rfl, -⟩ := h2'
  refine (Gcd_slices s s' a a' c c' l l' w h2a h2b (by omega) (by omega)).mono ?_
  rintro e w' ⟨h5, h6⟩
  rw [h3, h3'] at h5
  exact ⟨h5.own (gcd_bound b1 b2), h6⟩

/-- Lists in groups, one behind the other; within a group they are apart. -/
theorem Sep.groups {E : List Ent} (c g : Nat → Nat) (hc : ∀ i, c i ≤ c (i + 1)) (h : ∀ i e, E[i]? = some e → Within e.v (c (g i)) (c (g i + 1))) (hs : ∀ i j e e', E[i]? = some e → E[j]? = some e' → i ≠ j → g i = g j → Apart e.v e'.v) : Sep E := by
  have mono : ∀ d i, c i ≤ c (i + d) := by
    intro d
    induction d with
    | zero => intro i; exact Nat.le_refl _
    | succ d ih => intro i; exact Nat.le_trans (ih i) (hc (i + d))
  intro i j e e' he he' hij b hb hb'
  by_cases hg : g i = g j
  · exact hs i j e e' he he' hij hg b hb hb'
  · have a1 := h i e he b hb
    have a2 := h j e' he' b hb'
    rcases Nat.lt_or_gt_of_ne hg with h3 | h3
    · have h4 := mono (g j - (g i + 1)) (g i + 1)
      rw [show g i + 1 + (g j - (g i + 1)) = g j by omega] at h4
      omega
    · have h4 := mono (g i - (g j + 1)) (g j + 1)
      rw [show g j + 1 + (g i - (g j + 1)) = g i by omega] at h4
      omega
theorem Apart.flip {v u : Value} (h : Apart v u) : Apart u v := fun g hg hg' => h g hg' hg

def five (L1 L2 L3 L4 L5 : List Nat) (i : Nat) : List Nat := match i with | 0 => L1 | 1 => L2 | 2 => L3 | 3 => L4 | 4 => L5 | _ => []
def grp4 (i : Nat) : Nat := match i with | 0 => 0 | 1 => 1 | 2 => 2 | 3 => 2 | _ => 3
def four0 (c0 c1 c2 c3 c4 i : Nat) : Nat := match i with | 0 => c0 | 1 => c1 | 2 => c2 | 3 => c3 | _ => c4
theorem five_get {α : Type _} {x1 x2 x3 x4 x5 : α} {P : Nat → α → Prop} (h1 : P 0 x1) (h2 : P 1 x2) (h3 : P 2 x3) (h4 : P 3 x4) (h5 : P 4 x5) : ∀ (i : Nat) (e : α), [x1, x2, x3, x4, x5][i]? = some e → P i e
  | 0, e, he => by obtain rfl := Option.some.inj he; exact h1
  | 1, e, he => by obtain rfl := Option.some.inj he; exact h2
  | 2, e, he => by obtain rfl := Option.some.inj he; exact h3
  | 3, e, he => by obtain rfl := Option.some.inj he; exact h4
  | 4, e, he => by obtain rfl := Option.some.inj he; exact h5
  | n + 5, e, he => by simp at he
theorem five_all {L1 L2 L3 L4 L5 : List Nat} {n : Nat} (h1 : L1.length ≤ n) (h2 : L2.length ≤ n) (h3 : L3.length ≤ n) (h4 : L4.length ≤ n) (h5 : L5.length ≤ n) : ∀ i, (five L1 L2 L3 L4 L5 i).length ≤ n
  | 0 => h1 | 1 => h2 | 2 => h3 | 3 => h4 | 4 => h5 | _ + 5 => Nat.zero_le _
theorem four0_mono {c0 c1 c2 c3 c4 : Nat} (h1 : c0 ≤ c1) (h2 : c1 ≤ c2) (h3 : c2 ≤ c3) (h4 : c3 ≤ c4) : ∀ i, four0 c0 c1 c2 c3 c4 i ≤ four0 c0 c1 c2 c3 c4 (i + 1)
  | 0 => h1 | 1 => h2 | 2 => h3 | 3 => h4 | _ + 4 => Nat.le_refl _
theorem five_apart {x1 x2 x3 x4 x5 : Ent} (h : Apart x3.v x4.v) : ∀ i j e e', [x1, x2, x3, x4, x5][i]? = some e → [x1, x2, x3, x4, x5][j]? = some e' → i ≠ j → grp4 i = grp4 j → Apart e.v e'.v := by
  intro i j e e' he he' hij hg
  have hi : i < 5 := (List.getElem?_eq_some_iff.1 he).1
  have hj : j < 5 := (List.getElem?_eq_some_iff.1 he').1
  have hp : (i = 2 ∧ j = 3) ∨ (i = 3 ∧ j = 2) := by
    match i, j with
    | 0, 0 => exact absurd rfl hij
    | 0, 1 => cases hg
    | 0, 2 => cases hg
    | 0, 3 => cases hg
    | 0, 4 => cases hg
    | 1, 0 => cases hg
    | 1, 1 => exact absurd rfl hij
    | 1, 2 => cases hg
    | 1, 3 => cases hg
    | 1, 4 => cases hg
    | 2, 0 => cases hg
    | 2, 1 => cases hg
    | 2, 2 => exact absurd rfl hij
    | 2, 3 => exact .inl ⟨rfl, rfl⟩
    | 2, 4 => cases hg
    | 3, 0 => cases hg
    | 3, 1 => cases hg
    | 3, 2 => exact .inr ⟨rfl, rfl⟩
    | 3, 3 => exact absurd rfl hij
    | 3, 4 => cases hg
    | 4, 0 => cases hg
    | 4, 1 => cases hg
    | 4, 2 => cases hg
    | 4, 3 => cases hg
    | 4, 4 => exact absurd rfl hij
    | i + 5, _ => omega
    | 0, j + 5 => omega
    | 1, j + 5 => omega
    | 2, j + 5 => omega
    | 3, j + 5 => omega
    | 4, j + 5 => omega
  rcases hp with ⟨rfl, rfl⟩ | ⟨rfl, rfl⟩
  · obtain rfl := Option.some.inj he
    obtain rfl := Option.some.inj he'
    exact h
  · obtain rfl := Option.some.inj he
    obtain rfl := Option.some.inj he'
    exact h.flip

section
variable {bs : List (Nat × Bool)} {fs : List (Nat × (Value → World → Prop))} {w0 : World} {d : Nat} {ty : TypeId} {pos : String} {af : Array Edge} {g : Option (Nat × Bool)}
theorem step_neEE {x y : Nat} {t' : TypeId} {m k : Int} {b : Bool} (hx : ∀ v w, Known bs fs x v w → v = .int .i64 m) (hy : ∀ v w, Known bs fs y v w → v = .int .i64 k) (hb' : (m != k) = b) (h : ∀ w, Known bs fs d (.bool b) w) : StepOk Tryz.prog bs fs w0 ⟨some d, .binOp .neq 27 (.tmp x) (.tmp y) t', ty, pos, af, g⟩ :=
  step_value rfl fun a w hb hk => ⟨.bool b, w, by
    have h1 := hx _ _ (hk x (by simp [looks, Op.operands]))
    have h2 := hy _ _ (hk y (by simp [looks, Op.operands]))
    simp only [execOp, h1, h2, ← hb']
    go_simp, h _, Below.refl _ _⟩
end

end Go.Proofs.YtgpoljbccimkjaaGreatDoor
