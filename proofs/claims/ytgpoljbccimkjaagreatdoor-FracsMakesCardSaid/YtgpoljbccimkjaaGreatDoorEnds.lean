/- Six lists that a book is handed: each of its own block. -/
import Derived.Test.YtgpoljbccimkjaaGreatDoorLeft
import Derived.Test.YtgpoljbccimkjaaGreatDoorBookB
import Derived.Test.YtgpoljbccimkjaaGreatDoorRefK
namespace Go.Proofs.YtgpoljbccimkjaaGreatDoor
set_option linter.unusedSimpArgs false
set_option linter.unusedVariables false
open Go.RowKit Go.Shelf

/-- What a call answers: a number that may be, in memory from block n on. -/
def AnsOwn (n : Nat) (w' : World) (e : Ending) (k : Nat) (Z : Int) : Prop := ∃ s a l c, e = .returned (.agg #[.bool s, .slice a l.length c]) ∧ OwnL n w' (.slice a l.length c) l ∧ OkAt w' (.agg #[.bool s, .slice a l.length c]) k Z ∧ l.length ≤ k
theorem NumIs.own {n k : Nat} {w : World} {e : Ending} {Z : Int} (h : NumIs n w e Z) (hZ : Z.natAbs < 1000000000 ^ k) : AnsOwn n w e k Z := by
  obtain ⟨s, l, v, rfl, h1, h2, h3⟩ := h
  have hl := len_of_valS (k := k) h2 (by rw [h3]; exact hZ)
  obtain ⟨a, c, rfl, -⟩ := h1.lim
  exact ⟨s, a, l, c, rfl, h1, ⟨s, _, l, rfl, h1.lim, h2, h3, hl⟩, hl⟩
theorem Add_own {w : World} {u u' : Value} {k k' : Nat} {Z Z' : Int} (h : NumAt w u k Z) (h' : NumAt w u' k' Z') (hk : k ≤ 1000000) (hk' : k' ≤ 1000000) :
    Calls Tryz.prog 134 #[u, u'] w fun e w' => AnsOwn w.heap.size w' e (max k k' + 1) (Z + Z') ∧ Below w.heap.size w w' := by
  have b1 := h.bound
  have b2 := h'.bound
  obtain ⟨s, v, l, rfl, h2, h3, h4⟩ := h
  obtain ⟨s', v', l', rfl, h2', h3', h4'⟩ := h'
  refine (Add_any s s' v v' l l' w h2 h2' (by omega) (by omega)).mono ?_
  rintro e w' ⟨h5, h6⟩
  rw [h3, h3'] at h5
  exact ⟨h5.own (bound_add b1 b2), h6⟩
theorem Sub_own {w : World} {u u' : Value} {k k' : Nat} {Z Z' : Int} (h : NumAt w u k Z) (h' : NumAt w u' k' Z') (hk : k ≤ 1000000) (hk' : k' ≤ 1000000) :
    Calls Tryz.prog 72 #[u, u'] w fun e w' => AnsOwn w.heap.size w' e (max k k' + 1) (Z - Z') ∧ Below w.heap.size w w' := by
  have b1 := h.bound
  have b2 := h'.bound
  obtain ⟨s, v, l, rfl, h2, h3, h4⟩ := h
  obtain ⟨s', v', l', rfl, h2', h3', h4'⟩ := h'
  refine (Sub_any s s' v v' l l' w h2 h2' (by omega) (by omega)).mono ?_
  rintro e w' ⟨h5, h6⟩
  rw [h3, h3'] at h5
  exact ⟨h5.own (bound_sub b1 b2), h6⟩
theorem Mul_own {w : World} {u u' : Value} {k k' : Nat} {Z Z' : Int} (h : NumAt w u k Z) (h' : NumAt w u' k' Z') (hk : k ≤ 1000000) (hk' : k' ≤ 1000000) :
    Calls Tryz.prog 67 #[u, u'] w fun e w' => AnsOwn w.heap.size w' e (k + k') (Z * Z') ∧ Below w.heap.size w w' := by
  have b1 := h.bound
  have b2 := h'.bound
  obtain ⟨s, v, l, rfl, h2, h3, h4⟩ := h
  obtain ⟨s', v', l', rfl, h2', h3', h4'⟩ := h'
  refine (Mul_any s s' v v' l l' w h2 h2' (by omega) (by omega)).mono ?_
  rintro e w' ⟨h5, h6⟩
  rw [h3, h3'] at h5
  exact ⟨h5.own (bound_mul b1 b2), h6⟩
theorem Neg_own {w : World} {u : Value} {k : Nat} {Z : Int} (h : NumAt w u k Z) (hk : k ≤ 1000000) :
    Calls Tryz.prog 198 #[u] w fun e w' => AnsOwn w.heap.size w' e k (-Z) ∧ Below w.heap.size w w' := by
  have b1 := h.bound
  obtain ⟨s, v, l, rfl, h2, h3, h4⟩ := h
  refine (Neg_any s v l w h2 (by omega)).mono ?_
  rintro e w' ⟨h5, h6⟩
  rw [h3] at h5
  exact ⟨h5.own (by rw [Int.natAbs_neg]; exact b1), h6⟩

set_option maxHeartbeats 1000000 in
theorem greatNum_any (most : Nat) (b : Nat) (lens : List Nat) (w : World) (hn : lens.length ≤ 1000) (hm : most ≤ 1000000) (hc : ∀ i, i < lens.length → pt lens i ≤ 9223372036854775807 ∧ ∃ a c, w.cell? ⟨b, i * 2 + 1, none⟩ = some (.slice a (pt lens i) c)) :
    Calls Tryz.prog 14 #[.int .i64 most, .slice (some ⟨b, 0, none⟩) lens.length lens.length] w fun e w' => e = .returned (.bool (lens.any fun n => decide (most < n))) ∧ w = w' := by
  have HC := Lib.hid hc
  clear hc
  go_enter Tryz.func14, Tryz.ntmps14
  go_wp2_with fail
  go_loop [5] (fun i => ∃ k : Nat, k ≤ lens.length ∧ i = .int .i64 k ∧ (lens.take k).any (fun n => decide (most < n)) = false) (fun i => lens.length - (intOf i).toNat)
  case atStart => exact ⟨0, Nat.zero_le _, rfl, by simp⟩
  case round =>
    obtain ⟨k, hk, rfl, ht⟩ := hrel
    have HT := Lib.hid ht
    clear ht
    by_cases hlt : k < lens.length
    · obtain ⟨hb, a, c, hcell⟩ := HC.out k hlt
      by_cases hg : most < pt lens k
      · have hgI : (most : Int) < (pt lens k : Int) := by omega
        have HG := Lib.hid hg
        clear hg
        go_wp2_with fail
        go_ret
        exact ⟨ret_bool (by
          symm
          rw [List.any_eq_true]
          exact ⟨_, pt_mem hlt, by simpa using HG.out⟩), rfl⟩
      · have hgI : (pt lens k : Int) ≤ (most : Int) := by omega
        have HG : Hid (¬ most < pt lens k) := hg
        clear hg
        go_wp2_with fail
        go_round
        case rel => exact ⟨k + 1, by omega, by go_num, by rw [take_succ_pt hlt, List.any_append, HT.out]; simpa using HG.out⟩
        case measure => simp [intOf]; omega
    · go_wp2_with fail
      go_ret
      exact ⟨ret_bool (by have := HT.out; rw [List.take_of_length_le (by omega)] at this; exact this.symm), rfl⟩

theorem great2 {m : Int} {most x y b : Nat} {w : World} {a1 a2 : Option Addr} {k1 k2 : Nat} {r : Bool} (hm : m = most) (hm2 : most ≤ 1000000) (hx : x ≤ 9223372036854775807) (hy : y ≤ 9223372036854775807) (c1 : w.cell? ⟨b, 1, none⟩ = some (.slice a1 x k1)) (c2 : w.cell? ⟨b, 3, none⟩ = some (.slice a2 y k2)) (hr : (decide (most < x) || decide (most < y)) = r) :
    Calls Tryz.prog 14 #[.int .i64 m, .slice (some ⟨b, 0, none⟩) 2 2] w fun e w' => e = .returned (.bool r) ∧ w = w' := by
  subst hm
  refine (greatNum_any most b [x, y] w (by simp) hm2 ?_).mono ?_
  · intro i hi
    have h : i = 0 ∨ i = 1 := by simp at hi; omega
    rcases h with rfl | rfl
    · exact ⟨hx, _, _, c1⟩
    · exact ⟨hy, _, _, c2⟩
  · rintro e w' ⟨rfl, rfl⟩
    refine ⟨?_, rfl⟩
    rw [← hr]
    simp
theorem Lim.max {w : World} {a : Option Addr} {n c : Nat} {l : List Nat} (h : Lim w (.slice a n c) l) : n ≤ 9223372036854775807 := by
  obtain ⟨a', c', e, h1, h2, -⟩ := h
  injection e with e1 e2 e3
  unfold maxLen at h2
  omega
theorem NumAt.of {w : World} {s : Bool} {v : Value} {l : List Nat} {k : Nat} (h : Lim w v l) (hk : l.length ≤ k) : NumAt w (.agg #[.bool s, v]) k (numZ s l) := ⟨s, v, l, rfl, h, rfl, hk⟩

/-- Where a list's own block lies. -/
def Within (v : Value) (lo hi : Nat) : Prop := ∀ b, v.ownBlock = some b → lo ≤ b ∧ b < hi
theorem OwnL.within {n : Nat} {w : World} {v : Value} {l : List Nat} (h : OwnL n w v l) : Within v n w.heap.size := fun b hb => h.1.lt b hb
theorem OwnL.keep {n : Nat} {w : World} {v : Value} {l : List Nat} (h : OwnL n w v l) : Hid (∀ W, Below w.heap.size w W → OwnL n W v l) := fun _ hb => h.below hb

theorem keepLim {w : World} {v : Value} {l : List Nat} (h : Lim w v l) : Hid (∀ W, Below w.heap.size w W → Lim W v l) := fun _ hb => h.below hb
theorem rCmp_num {w : World} {u u' : Value} {k k' : Nat} {Z Z' : Int} (h : NumAt w u k Z) (h' : NumAt w u' k' Z') (r : Int) (hr : cmpI Z Z' = r) :
    Calls Tryz.prog 124 #[u, u'] w fun e w' => e = .returned (.int .i64 r) ∧ Below w.heap.size w w' := by
  obtain ⟨s, v, l, rfl, h2, h3, h4⟩ := h
  obtain ⟨s', v', l', rfl, h2', h3', h4'⟩ := h'
  rw [← hr, ← h3, ← h3']
  exact rCmp_any s s' v v' l l' w h2 h2'
theorem rSign_num {w : World} {u : Value} {k : Nat} {Z : Int} (h : NumAt w u k Z) (r : Int) (hr : cmpI Z 0 = r) :
    Calls Tryz.prog 138 #[u] w fun e w' => e = .returned (.int .i64 r) ∧ Below w.heap.size w w' := by
  obtain ⟨s, v, l, rfl, h2, h3, h4⟩ := h
  rw [← hr, ← h3]
  exact rSign_any s v l w h2

/-- A twin, with the mark behind it; and what it is a twin of. -/
def IsT (s : Bool) (a : Option Addr) (c : Nat) (l : List Nat) (v : Value) (w : World) : Prop := v = .agg #[.bool s, .slice a l.length c] ∧ Lim w (.slice a (l.length + 1) c) (l ++ [77])
def IsU (s : Bool) (a : Option Addr) (c : Nat) (l : List Nat) (v : Value) (w : World) : Prop := v = .agg #[.bool s, .slice a l.length c] ∧ Lim w (.slice a l.length c) l
theorem IsT.grows (s : Bool) (a : Option Addr) (c : Nat) (l : List Nat) : Grows (IsT s a c l) := fun _ _ _ h hb => ⟨h.1, h.2.below hb⟩
theorem IsU.grows (s : Bool) (a : Option Addr) (c : Nat) (l : List Nat) : Grows (IsU s a c l) := fun _ _ _ h hb => ⟨h.1, h.2.below hb⟩
theorem LeftNum_at {w : World} {u u' : Value} {s : Bool} {a a' : Option Addr} {c c' : Nat} {l : List Nat} (h : IsT s a c l u w) (h' : IsU s a' c' l u' w) (hl : l.length ≤ 1000000) :
    Calls Tryz.prog 21 #[u, u'] w fun e w' => e = .returned (.bool true) ∧ Below w.heap.size w w' := by
  obtain ⟨rfl, h1⟩ := h
  obtain ⟨rfl, h2⟩ := h'
  exact LeftNum_any h1 h2 hl

section
variable {bs : List (Nat × Bool)} {fs : List (Nat × (Value → World → Prop))} {w0 : World} {d : Nat} {ty : TypeId} {pos : String} {af : Array Edge} {g : Option (Nat × Bool)}
theorem step_neII {x y : Nat} {t' : TypeId} {m k : Int} {b : Bool} (hx : ∀ v w, Known bs fs x v w → v = .int .i64 m) (hy : ∀ v w, Known bs fs y v w → v = .int .i64 k) (hb' : (m != k) = b) (h : ∀ w, Known bs fs d (.bool b) w) : StepOk Tryz.prog bs fs w0 ⟨some d, .binOp .neq 3 (.tmp x) (.tmp y) t', ty, pos, af, g⟩ :=
  step_value rfl fun a w hb hk => ⟨.bool b, w, by
    have h1 := hx _ _ (hk x (by simp [looks, Op.operands]))
    have h2 := hy _ _ (hk y (by simp [looks, Op.operands]))
    simp only [execOp, h1, h2, ← hb']
    go_simp, h _, Below.refl _ _⟩
end

end Go.Proofs.YtgpoljbccimkjaaGreatDoor

namespace Go.Proofs.YtgpoljbccimkjaaGreatDoor
set_option linter.unusedSimpArgs false
set_option linter.unusedVariables false
open Go.RowKit Go.Shelf

theorem Sep.chain {E : List Ent} (c : Nat → Nat) (hc : ∀ i, c i ≤ c (i + 1)) (h : ∀ i e, E[i]? = some e → Within e.v (c i) (c (i + 1))) : Sep E := by
  have mono : ∀ d i, c i ≤ c (i + d) := by
    intro d
    induction d with
    | zero => intro i; exact Nat.le_refl _
    | succ d ih => intro i; exact Nat.le_trans (ih i) (hc (i + d))
  intro i j e e' he he' hij b hb hb'
  have a1 := h i e he b hb
  have a2 := h j e' he' b hb'
  rcases Nat.lt_or_gt_of_ne hij with h3 | h3
  · have h4 := mono (j - (i + 1)) (i + 1)
    rw [show i + 1 + (j - (i + 1)) = j by omega] at h4
    omega
  · have h4 := mono (i - (j + 1)) (j + 1)
    rw [show j + 1 + (i - (j + 1)) = i by omega] at h4
    omega

theorem Within.mono {v : Value} {a b a' b' : Nat} (h : Within v a b) (h1 : a' ≤ a) (h2 : b ≤ b') : Within v a' b' := fun x hx => by have := h x hx; omega

def six (L1 L2 L3 L4 L5 L6 : List Nat) (i : Nat) : List Nat := match i with | 0 => L1 | 1 => L2 | 2 => L3 | 3 => L4 | 4 => L5 | 5 => L6 | _ => []
def six0 (c0 c1 c2 c3 c4 c5 c6 i : Nat) : Nat := match i with | 0 => c0 | 1 => c1 | 2 => c2 | 3 => c3 | 4 => c4 | 5 => c5 | _ => c6

theorem six_get {α : Type _} {x1 x2 x3 x4 x5 x6 : α} {P : Nat → α → Prop} (h1 : P 0 x1) (h2 : P 1 x2) (h3 : P 2 x3) (h4 : P 3 x4) (h5 : P 4 x5) (h6 : P 5 x6) : ∀ (i : Nat) (e : α), [x1, x2, x3, x4, x5, x6][i]? = some e → P i e
  | 0, e, he => by obtain rfl := Option.some.inj he; exact h1
  | 1, e, he => by obtain rfl := Option.some.inj he; exact h2
  | 2, e, he => by obtain rfl := Option.some.inj he; exact h3
  | 3, e, he => by obtain rfl := Option.some.inj he; exact h4
  | 4, e, he => by obtain rfl := Option.some.inj he; exact h5
  | 5, e, he => by obtain rfl := Option.some.inj he; exact h6
  | n + 6, e, he => by simp at he

theorem six_all {L1 L2 L3 L4 L5 L6 : List Nat} {n : Nat} (h1 : L1.length ≤ n) (h2 : L2.length ≤ n) (h3 : L3.length ≤ n) (h4 : L4.length ≤ n) (h5 : L5.length ≤ n) (h6 : L6.length ≤ n) : ∀ i, (six L1 L2 L3 L4 L5 L6 i).length ≤ n
  | 0 => h1 | 1 => h2 | 2 => h3 | 3 => h4 | 4 => h5 | 5 => h6 | _ + 6 => Nat.zero_le _

theorem six0_mono {c0 c1 c2 c3 c4 c5 c6 : Nat} (h1 : c0 ≤ c1) (h2 : c1 ≤ c2) (h3 : c2 ≤ c3) (h4 : c3 ≤ c4) (h5 : c4 ≤ c5) (h6 : c5 ≤ c6) : ∀ i, six0 c0 c1 c2 c3 c4 c5 c6 i ≤ six0 c0 c1 c2 c3 c4 c5 c6 (i + 1)
  | 0 => h1 | 1 => h2 | 2 => h3 | 3 => h4 | 4 => h5 | 5 => h6 | _ + 6 => Nat.le_refl _

theorem book_new (w : World) (W : World) (hb : BoxV W w.heap.size [.int .i64 0, nil0, nil0, nil0, nil0, nil0, nil0, nil0, nil0, nil0, nil0, nil0, nil0]) : BookAt W w.heap.size w.heap.size nil0 [] :=
  ⟨hb, ⟨rfl, .inl ⟨rfl, rfl⟩⟩, by simp [nil0, Value.ownBlock], Nat.le_refl _⟩

end Go.Proofs.YtgpoljbccimkjaaGreatDoor
