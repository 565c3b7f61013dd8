/- The book of memory: one part is looked at. -/
import Derived.Test.YtgpoljbccimkjaaGreatDoorBook2
import Derived.Test.YtgpoljbccimkjaaGreatDoorRefH
import Derived.Test.YtgpoljbccimkjaaGreatDoorDivide2
import Derived.StillTailTactics
namespace Go.Proofs.YtgpoljbccimkjaaGreatDoor
set_option linter.unusedSimpArgs false
set_option linter.unusedVariables false
open Go.RowKit Go.Shelf

/-- The i-th list reads as F i, in memory of its own, in blocks from n0 on, below B. -/
def Hold (W : World) (n0 B : Nat) (E : List Ent) (F : Nat → List Nat) : Prop := ∀ i e, E[i]? = some e → OwnL n0 W e.v (F i) ∧ ∀ b, e.v.ownBlock = some b → b < B
/-- No two lists in one block. -/
def Sep (E : List Ent) : Prop := ∀ (i j : Nat) (e e' : Ent), E[i]? = some e → E[j]? = some e' → i ≠ j → ∀ b, e.v.ownBlock = some b → e'.v.ownBlock ≠ some b

theorem OwnL.front {n : Nat} {W : World} {v : Value} {L : List Nat} (h : OwnL n W v L) (h0 : 0 < L.length) : ∃ g c, v = .slice (some ⟨g, 0, none⟩) L.length c ∧ Front W g c L ∧ n ≤ g ∧ L.length ≤ c ∧ c ≤ maxLen := by
  obtain ⟨⟨h1, h2⟩, h3⟩ := h
  rcases h2 with ⟨_, h2⟩ | ⟨g, cap, cur, hv, hb, hg, hl, hm, hs, ht⟩
  · omega
  · exact ⟨g, cap, hv, ⟨cur, hg, by omega, hl, by rwa [Nat.mul_one] at ht⟩, hb, hl, hm⟩
theorem OwnL.far {n : Nat} {W : World} {v : Value} {L : List Nat} (h : OwnL n W v L) {p : Addr} (hp : v.ownBlock ≠ some p.block) (u : Value) : OwnL n (W.setCell p u) v L := ⟨row_set h.1 hp u, h.2⟩

theorem BookAt.low {W : World} {B p : Nat} {vr : Value} {E : List Ent} (h : BookAt W B p vr E) {q : Addr} (hq : q.block < B) (u : Value) : BookAt (W.setCell q u) B p vr E := by
  obtain ⟨h1, h2, h3, h4⟩ := h
  refine ⟨fun i hi => ?_, row_set h2 (fun e => ?_) u, h3, h4⟩
  · rw [World.frozen?_setCell, World.cell?_setCell_far _ _ _ _ (by show q.block ≠ p; omega)]
    exact h1 i hi
  · have := (h2.lt _ e).1
    omega
theorem BoxV.far {W : World} {b : Nat} {vs : List Value} (h : BoxV W b vs) {q : Addr} (hq : q.block ≠ b) (u : Value) : BoxV (W.setCell q u) b vs := fun i hi => by
  rw [World.frozen?_setCell, World.cell?_setCell_far _ _ _ _ hq]
  exact h i hi

theorem Hold.set {W : World} {n0 B i k x g c : Nat} {E : List Ent} {F : Nat → List Nat} {e : Ent} (h : Hold W n0 B E F) (hs : Sep E) (he : E[i]? = some e) (hv : e.v = .slice (some ⟨g, 0, none⟩) (F i).length c) (hk : k < (F i).length) (hx : x < 4294967296) :
    Hold (W.setCell ⟨g, k, none⟩ (.int .u32 (x : Nat))) n0 B E (fun j => if j = i then (F i).set k x else F j) := by
  intro j e' he'
  obtain ⟨h1, h2⟩ := h j e' he'
  refine ⟨?_, h2⟩
  by_cases hj : j = i
  · subst hj
    rw [he] at he'
    injection he' with he'
    subst he'
    obtain ⟨g', c', hv', hf, hn, hl, hm⟩ := h1.front (by omega)
    rw [hv] at hv'
    injection hv' with e1 e2 e3
    injection e1 with e1
    injection e1 with e1
    subst e1
    subst e3
    have hF := (hf.set k x).own (n := n0) hn hm (fun y hy => by
      rcases List.mem_or_eq_of_mem_set hy with h3 | h3
      · exact h1.2 y h3
      · rw [h3]; exact hx)
    rw [List.length_set] at hF
    simp only [if_pos]
    rw [hv]
    exact hF
  · simp only [if_neg hj]
    refine h1.far (fun e1 => ?_) _
    exact hs i j e e' he he' (fun e2 => hj e2.symm) g (by rw [hv]; rfl) e1

theorem Hold.low {W W' : World} {n0 B : Nat} {E : List Ent} {F : Nat → List Nat} (h : Hold W n0 B E F) (hb : Below W.heap.size W W') : Hold W' n0 B E F := fun i e he => ⟨(h i e he).1.below hb, (h i e he).2⟩

theorem fill_step (L : List Nat) (k m : Nat) (h : k < L.length) : (List.replicate k m ++ L.drop k).set k m = List.replicate (k + 1) m ++ L.drop (k + 1) := by
  rw [List.drop_eq_getElem_cons h, List.set_append_right _ _ (by simp)]
  simp only [List.length_replicate, Nat.sub_self, List.set_cons_zero, List.replicate_succ', List.append_assoc, List.cons_append, List.nil_append]

/-- The lists, as the marks have come to list i, there to place k. -/
def fillF (F : Nat → List Nat) (i k : Nat) (j : Nat) : List Nat :=
  if j < i then List.replicate (F j).length (1001 + j) else if j = i then List.replicate k (1001 + i) ++ (F i).drop k else F j
theorem fillF_length (F : Nat → List Nat) (i k j : Nat) (hk : k ≤ (F i).length) : (fillF F i k j).length = (F j).length := by
  unfold fillF
  split
  · simp
  · split
    · next h => subst h; simp; omega
    · rfl
theorem fillF_zero (F : Nat → List Nat) : fillF F 0 0 = F := by
  funext j
  unfold fillF
  rw [if_neg (by omega)]
  split
  · next h => subst h; simp
  · rfl
theorem fillF_set (F : Nat → List Nat) (i k : Nat) (hk : k < (F i).length) : (fun j => if j = i then (fillF F i k i).set k (1001 + i) else fillF F i k j) = fillF F i (k + 1) := by
  funext j
  by_cases hj : j = i
  · subst hj
    rw [if_pos rfl]
    unfold fillF
    rw [if_neg (by omega), if_pos rfl, if_neg (by omega), if_pos rfl]
    exact fill_step _ _ _ hk
  · rw [if_neg hj]
    unfold fillF
    rw [if_neg hj, if_neg hj]
theorem fillF_next (F : Nat → List Nat) (i : Nat) : fillF F i (F i).length = fillF F (i + 1) 0 := by
  funext j
  unfold fillF
  by_cases h1 : j < i
  · rw [if_pos h1, if_pos (by omega)]
  · rw [if_neg h1]
    by_cases h2 : j = i
    · subst h2
      rw [if_pos rfl, if_pos (by omega)]
      simp
    · rw [if_neg h2, if_neg (by omega)]
      split
      · next h => subst h; simp
      · rfl

/-- Entry i's cells. -/
theorem row_cell {W : World} {B r cap i : Nat} {E : List Ent} {e : Ent} (h : W.ownsRow B 138 3 (.slice (some ⟨r, 0, none⟩) E.length cap) E.length (rowCells E)) (he : E[i]? = some e) :
    W.cell? ⟨r, i * 3, none⟩ = some e.v ∧ W.cell? ⟨r, i * 3 + 1, none⟩ = some e.g ∧ W.cell? ⟨r, i * 3 + 2, none⟩ = some (.int .i64 e.n) := by
  have hx : ∀ (l : List Ent) (i : Nat) (q : Nat) (u : Value), l[i]? = some e → e.cells[q]? = some u → (rowCells l)[i * 3 + q]? = some u := by
    intro l
    induction l with
    | nil => intro i q u h1; cases h1
    | cons y l ih =>
      intro i q u h1 h2
      have hr : rowCells (y :: l) = y.cells ++ rowCells l := by simp [rowCells]
      have hq : q < 3 := by
        rcases Nat.lt_or_ge q 3 with h | h
        · exact h
        · rw [List.getElem?_eq_none (by simp [Ent.cells]; exact h)] at h2; cases h2
      rw [hr]
      cases i with
      | zero =>
        rw [List.getElem?_cons_zero] at h1
        injection h1 with h1
        subst h1
        rw [Nat.zero_mul, Nat.zero_add, List.getElem?_append_left (by simp [Ent.cells]; exact hq)]
        exact h2
      | succ i =>
        rw [List.getElem?_cons_succ] at h1
        rw [List.getElem?_append_right (by simp [Ent.cells]; omega)]
        have e1 : (i + 1) * 3 + q - y.cells.length = i * 3 + q := by simp [Ent.cells]; omega
        rw [e1]
        exact ih i q u h1 h2
  have hc := h.cells (g := r) rfl
  have hadd : ∀ j, (⟨r, 0, none⟩ : Addr).add j = ⟨r, j, none⟩ := fun j => by unfold Addr.add; split <;> simp_all
  refine ⟨?_, ?_, ?_⟩
  · have := hc _ _ (hx E i 0 e.v he rfl); rwa [hadd] at this
  · have := hc _ _ (hx E i 1 e.g he rfl); rwa [hadd] at this
  · have := hc _ _ (hx E i 2 _ he rfl); rwa [hadd] at this

set_option maxHeartbeats 400000 in
theorem markLimb_any (n : Nat) (w : World) (hn : n ≤ 100000) : Calls Tryz.prog 169 #[.int .i64 n] w fun e w' => e = .returned (.int .u32 ((1000 + n : Nat) : Int)) ∧ w = w' := by
  go_enter Tryz.func169, Tryz.ntmps169
  go_wp2
  go_ret
  exact ⟨by first | rfl | (congr 1; done) | (congr 2; omega), rfl⟩

end Go.Proofs.YtgpoljbccimkjaaGreatDoor

namespace Go.Proofs.YtgpoljbccimkjaaGreatDoor
set_option linter.unusedSimpArgs false
set_option linter.unusedVariables false
open Go.RowKit Go.Shelf

set_option maxRecDepth 100000
section
variable {W : World} {b o : Nat}
theorem run_heldL : (Instr.fieldAt 138 (.pointer (some ⟨b, o, none⟩)) 0).run Tryz.prog W = .ok (.pointer (some ⟨b, o, none⟩)) W := by
  go_simp
theorem run_heldN : (Instr.fieldAt 138 (.pointer (some ⟨b, o, none⟩)) 2).run Tryz.prog W = .ok (.pointer (some ⟨b, o + 2, none⟩)) W := by
  go_simp
theorem run_loadI {n : Int} (h0 : W.cell? ⟨b, o, none⟩ = some (.int .i64 n)) : (Instr.loadAt 3 (.pointer (some ⟨b, o, none⟩))).run Tryz.prog W = .ok (.int .i64 n) W := by
  go_simp
theorem run_indexS {n c k : Nat} (h : k < n) (hn : n ≤ maxLen) : (Instr.indexAt 22 (.slice (some ⟨b, 0, none⟩) n c) (.int .i64 k)).run Tryz.prog W = .ok (.pointer (some ⟨b, k, none⟩)) W := by
  unfold maxLen at hn
  have hI : (k : Int) < (n : Int) := by omega
  go_simp
theorem run_storeU {x : Nat} {u : Value} (h0 : W.cell? ⟨b, o, none⟩ = some u) (h1 : W.frozen? ⟨b, o, none⟩ = false) : (Instr.storeAt 99 (.pointer (some ⟨b, o, none⟩)) (.int .u32 (x : Nat))).run Tryz.prog W = .ok () (W.setCell ⟨b, o, none⟩ (.int .u32 (x : Nat))) := by
  go_simp
end

section
variable {bs : List (Nat × Bool)} {fs : List (Nat × (Value → World → Prop))} {w0 : World} {d : Nat} {ty : TypeId} {pos : String} {af : Array Edge} {g : Option (Nat × Bool)}
theorem step_indexS {x y b n c k : Nat} (hx : ∀ v w, Known bs fs x v w → v = .slice (some ⟨b, 0, none⟩) n c) (hy : ∀ v w, Known bs fs y v w → v = .int .i64 k) (hk' : k < n) (hn : n ≤ maxLen) (h : ∀ w, Known bs fs d (.pointer (some ⟨b, k, none⟩)) w) : StepOk Tryz.prog bs fs w0 ⟨some d, .indexAddr 22 (.tmp x) (.tmp y), ty, pos, af, g⟩ :=
  step_value rfl fun a w hb hk => ⟨_, w, by
    have h1 := hx _ _ (hk x (by simp [looks, Op.operands]))
    have h2 := hy _ _ (hk y (by simp [looks, Op.operands]))
    simp only [execOp, h1, h2]
    exact value_run (run_indexS hk' hn), h _, Below.refl _ _⟩
theorem wp_store_at {K : Act → World → Prop} {Q : Exit → Act → World → Prop} {a : Act} {w w' : World} {p v b o : Nat} {u : Value} {T : TypeId} (hp : a.eval (.tmp p) = .pointer (some ⟨b, o, none⟩)) (hv : a.eval (.tmp v) = u) (hr : (Instr.storeAt T (.pointer (some ⟨b, o, none⟩)) u).run Tryz.prog w = .ok () w')
    (h : K a w') : Oper.wp Tryz.prog ⟨none, .store T (.tmp p) (.tmp v), ty, pos, af, g⟩ a w K Q := by
  unfold Oper.wp
  have : (execOp a.eval ⟨none, .store T (.tmp p) (.tmp v), ty, pos, af, g⟩).run Tryz.prog w = .ok .skip w' := by
    simp only [execOp, hp, hv]
    exact unit_run hr
  rw [this]
  exact h
end

theorem mark_still (i : Nat) (w : World) (h : i ≤ 10000) : Calls Tryz.prog 169 #[.int .i64 ((i : Int) + 1)] w fun e w' => e = .returned (.int .u32 ((1001 + i : Nat) : Int)) ∧ w' = w := by
  have := markLimb_any (i + 1) w (by omega)
  rw [show (((i + 1 : Nat)) : Int) = (i : Int) + 1 from by omega, show 1000 + (i + 1) = 1001 + i from by omega] at this
  exact this.mono fun e w' ⟨h1, h2⟩ => ⟨h1, h2.symm⟩

set_option maxHeartbeats 4000000 in
theorem fillLimb_any (n0 B p : Nat) (vr : Value) (E : List Ent) (F : Nat → List Nat) (w : World) (hb : BookAt w B p vr E) (hh : Hold w n0 B E F) (hs : Sep E) (hn : ∀ i e, E[i]? = some e → e.n = i + 1 ∧ e.g = nil0) (hE : E.length ≤ 1000) (hF : ∀ i, (F i).length ≤ 1000000) (h0 : n0 ≤ B) (hB : B ≤ w.heap.size) :
    Calls Tryz.prog 87 #[.pointer (some ⟨p, 0, none⟩)] w fun e w' => e = .returned (.tuple #[]) ∧ BookAt w' B p vr E ∧ Hold w' n0 B E (fillF F E.length 0) ∧ Below n0 w w' := by
  have HBK := Lib.hid hb
  have HH := Lib.hid hh
  have HS := Lib.hid hs
  have HN := Lib.hid hn
  have HF := Lib.hid hF
  have hvr : ∃ ar cr, vr = .slice ar E.length cr ∧ cr ≤ maxLen := by
    rcases hb.2.1.2 with ⟨h1, h2⟩ | ⟨g, cap, cur, h1, _, _, h3, h4, _⟩
    · exact ⟨none, 0, by rw [h1, h2], Nat.zero_le _⟩
    · exact ⟨_, cap, h1, h4⟩
  obtain ⟨ar, cr, rfl, hcr⟩ := hvr
  unfold maxLen at hcr
  clear hb hh hs hn hF
  go_enter Tryz.func87, Tryz.ntmps87
  go_wp2
  go_loopw [2] (fun i wr => ∃ k : Nat, k ≤ E.length ∧ i = .int .i64 k ∧ BookAt wr B p (.slice ar E.length cr) E ∧ Hold wr n0 B E (fillF F k 0) ∧ Below n0 w wr ∧ B ≤ wr.heap.size) (fun i _ => E.length - (intOf i).toNat)
  case atStart => exact ⟨0, Nat.zero_le _, rfl, HBK.out, by rw [fillF_zero]; exact HH.out, Below.refl _ _, hB⟩
  case round =>
    obtain ⟨i, hi, rfl, hb, hh, hB1, hB2⟩ := hrel
    have HBK := Lib.hid hb
    have HH := Lib.hid hh
    have HB1 := Lib.hid hB1
    have c2 := hb.1.at2
    by_cases hlt : i < E.length
    · obtain ⟨e, he⟩ : ∃ e, E[i]? = some e := ⟨E[i], List.getElem?_eq_getElem hlt⟩
      have HE := Lib.hid he
      obtain ⟨r, rfl⟩ : ∃ r, ar = some ⟨r, 0, none⟩ := by
        rcases hb.2.1.2 with ⟨h1, h2⟩ | ⟨g, cap, cur, h1, _⟩
        · omega
        · injection h1 with h1; exact ⟨g, h1⟩
      obtain ⟨q0, q1, q2⟩ := row_cell hb.2.1 he
      obtain ⟨hen, heg⟩ := HN.out i e he
      have hltI : (i : Int) < (E.length : Int) := by omega
      obtain ⟨hO, hlow⟩ := hh i e he
      have hflen : (fillF F i 0 i).length = (F i).length := fillF_length F i 0 i (Nat.zero_le _)
      obtain ⟨av, cv, hev⟩ : ∃ av cv, e.v = .slice av (F i).length cv := by
        have h1 := hO.lim
        obtain ⟨x, y, h2, -⟩ := h1
        exact ⟨x, y, by rw [h2, hflen]⟩
      have HEV := Lib.hid hev
      rw [hev] at q0
      rw [heg] at q1
      unfold nil0 at q1
      rw [hen] at q2
      have hFi := HF.out i
      clear hb hh hB1 he hen heg hO hlow hev hflen
      go_wp2
      obtain ⟨W1, e1, hbx, hw1, hs1⟩ : ∃ W1, wr.alloc (.cells #[.slice av (F i).length cv, .slice none 0 0, .int .i64 ((i : Int) + 1)] 138) = W1 ∧ BoxV W1 wr.heap.size [.slice av (F i).length cv, .slice none 0 0, .int .i64 ((i : Int) + 1)] ∧ Hid (Below wr.heap.size wr W1) ∧ wr.heap.size < W1.heap.size :=
        ⟨_, rfl, BoxV.new _ _ _, (Below.refl _ _).alloc (Nat.le_refl _) _, by simp⟩
      rw [e1]
      have HBX := Lib.hid hbx
      clear e1 hbx c2 q0 q1 q2
      go_loopw [4] (fun kk wr2 => ∃ k : Nat, k ≤ (F i).length ∧ kk = .int .i64 k ∧ BookAt wr2 B p (.slice (some ⟨r, 0, none⟩) E.length cr) E ∧ Hold wr2 n0 B E (fillF F i k) ∧ BoxV wr2 wr.heap.size [.slice av (F i).length cv, .slice none 0 0, .int .i64 ((i : Int) + 1)] ∧ Below n0 w wr2 ∧ B ≤ wr2.heap.size) (fun kk _ => (F i).length - (intOf kk).toNat)
      case atStart => exact ⟨0, Nat.zero_le _, rfl, HBK.out.below hw1.out, HH.out.low hw1.out, HBX.out, HB1.out.trans (hw1.out.mono (by omega)), by omega⟩
      case round =>
        obtain ⟨k, hk, rfl, hb, hh, hx, hb1, hb2⟩ := hrel
        have HBK2 := Lib.hid hb
        have HH2 := Lib.hid hh
        have HX2 := Lib.hid hx
        have HB2 := Lib.hid hb1
        have x0 := hx.at0
        have x2 := hx.at2
        clear hb hx hb1
        by_cases hkl : k < (F i).length
        · obtain ⟨hO, hlow⟩ := hh i _ HE.out
          have hfl : (fillF F i k i).length = (F i).length := fillF_length F i k i hk
          obtain ⟨g, c, hv, hfr, hng, hlc, hcm⟩ := hO.front (by omega)
          rw [hfl] at hv hlc
          rw [HEV.out] at hv
          injection hv with e1 e2 e3
          subst e1
          subst e3
          have hgB : g < B := hlow g (by rw [HEV.out]; rfl)
          have y0 := hfr.cell (i := k) (by omega)
          have y1 := hfr.free k
          have hkI : (k : Int) < ((F i).length : Int) := by omega
          have HSET := Lib.hid (HH2.out.set (k := k) (x := 1001 + i) HS.out HE.out (by rw [hfl]; exact HEV.out) (by omega) (by omega))
          unfold maxLen at hcm
          clear hh hO hlow hfl hfr hlc
          go_upto_region 7 with fail
          rename_i K9 hK9
          refine wp_region_still_tail 7 (by kernel_rfl) (by kernel_rfl) ?_
          simp only [List.take_succ_cons, List.take_zero, List.drop_succ_cons, List.drop_zero]
          still_step
          still_step
          still_step
          still_step
          still_step
          still_call (mark_still i _ (by omega))
          still_step
          refine wpStill_nil ?_
          change wpList _ _ _ _ _ (World.drew _)
          go_wp2
          have ex : ((1001 : Int) + (i : Int)) = ((1001 + i : Nat) : Int) := by omega
          rw [ex]
          have hS := HSET.out
          rw [fillF_set F i k hkl] at hS
          have hD : Below (wr.setCell ⟨g, k, none⟩ (.int .u32 ((1001 + i : Nat) : Int))).heap.size (wr.setCell ⟨g, k, none⟩ (.int .u32 ((1001 + i : Nat) : Int))) (wr.setCell ⟨g, k, none⟩ (.int .u32 ((1001 + i : Nat) : Int))).drew := (Below.refl _ _).drew
          refine ⟨⟨k + 1, by omega, by go_num, (HBK2.out.low (q := ⟨g, k, none⟩) hgB _).below hD, hS.low hD, (HX2.out.far (q := ⟨g, k, none⟩) (by show g ≠ _; omega) _).below hD, (HB2.out.setCell (p := ⟨g, k, none⟩) hng _).drew, by simp; omega⟩, by simp [intOf]; omega⟩
        · obtain rfl : k = (F i).length := by omega
          rw [fillF_next] at HH2
          clear hh
          go_wp2
          refine ⟨⟨i + 1, by omega, by go_num, HBK2.out, HH2.out, HB2.out, hb2⟩, by simp [intOf]; omega⟩
    · obtain rfl : i = E.length := by omega
      clear hb hh hB1
      go_wp2
      go_end0
      exact ⟨rfl, HBK.out, HH.out, HB1.out⟩

end Go.Proofs.YtgpoljbccimkjaaGreatDoor

namespace Go.Proofs.YtgpoljbccimkjaaGreatDoor
set_option linter.unusedSimpArgs false
set_option linter.unusedVariables false
open Go.RowKit Go.Shelf

set_option maxRecDepth 100000 in
theorem append_one {n0 : Nat} {w : World} {v : Value} {L : List Nat} {b x : Nat} (h : OwnL n0 w v L) (hx : x < 4294967296) (hc : w.cell? ⟨b, 0, none⟩ = some (.int .u32 (x : Nat))) (hn : L.length ≤ 2000000) (hb : n0 ≤ w.heap.size) :
    ∃ v' w', (Builtin.append_ #[22, 22] 22 #[v, .slice (some ⟨b, 0, none⟩) 1 1]).run Tryz.prog w = .ok v' w' ∧ OwnL n0 w' v' (L ++ [x]) ∧
      ((∃ g cap, v = .slice (some ⟨g, 0, none⟩) L.length cap ∧ v' = .slice (some ⟨g, 0, none⟩) (L.length + 1) cap ∧ w.grownBy w' (some g)) ∨ (∃ cap, v' = .slice (some ⟨w.heap.size, 0, none⟩) (L.length + 1) cap ∧ Below w.heap.size w w')) := by
  obtain ⟨i0, hi, hz0, hz1, hz2⟩ := info_parts infoU32
  have hnews : ∀ j u, [Value.int .u32 (x : Nat)][j]? = some u → w.cell? ((⟨b, 0, none⟩ : Addr).add j) = some u := fun j u hu => by
    cases j with
    | zero =>
      rw [List.getElem?_cons_zero] at hu
      injection hu with hu
      rw [← hu]
      have e0 : (⟨b, 0, none⟩ : Addr).add 0 = ⟨b, 0, none⟩ := by unfold Addr.add; rw [if_pos rfl]
      rw [e0]
      exact hc
    | succ j => simp at hu
  have hone : ∀ u ∈ [Value.int .u32 (x : Nat)], u.oneCell' = true := fun u hu => by
    rw [List.mem_singleton] at hu
    rw [hu]; rfl
  obtain ⟨v', w', hr, h5, h6, -⟩ := run_append_own (P := Tryz.prog) w n0 22 22 99 i0 (.int .u32 0) 1 4 underU32s hi hz0 hz1 hz2 rfl (by decide) v L.length (u32s L) h.1 ⟨b, 0, none⟩ 1 1 [.int .u32 (x : Nat)] rfl hnews hone (by unfold maxLen; omega) (by omega) hb
  have hO : OwnL n0 w' v' (L ++ [x]) := ⟨by rw [List.length_append, List.length_singleton, u32s_snoc]; exact h5, fun y hy => by
    rcases List.mem_append.1 hy with hy | hy
    · exact h.2 y hy
    · simp at hy; omega⟩
  refine ⟨v', w', hr, hO, ?_⟩
  rcases h.1.2 with ⟨rfl, hl⟩ | ⟨g, cap, cur, hv, hbg, hg, hnc, hcm, hcs, ht⟩
  · have hr2 := run_append_nil (P := Tryz.prog) w 22 22 99 i0 (.int .u32 0) underU32s hi hz0 ⟨b, 0, none⟩ 1 1 [.int .u32 (x : Nat)] (by rw [hz1]; rfl) hnews (by decide) (by decide) (by rw [hz2]; decide)
    rw [hr2] at hr
    injection hr with e1 e2
    right
    exact ⟨_, by rw [← e1, hl], by rw [← e2]; exact (Below.refl _ _).drew.alloc (by simp) _⟩
  · subst hv
    by_cases hroom : L.length + 1 ≤ cap
    · have hr2 := run_append_room (P := Tryz.prog) w 22 22 99 i0 underU32s hi g L.length cap cur hg ⟨b, 0, none⟩ 1 1 [.int .u32 (x : Nat)] (by rw [hz1]; rfl) hnews hone hroom (by rw [hz1]; simp; omega)
      rw [hr2] at hr
      injection hr with e1 e2
      left
      exact ⟨g, cap, rfl, e1.symm, h6⟩
    · have holds : ∀ j u, (u32s L)[j]? = some u → w.cell? ((⟨g, 0, none⟩ : Addr).add j) = some u := h.1.cells (g := g) rfl
      have hr2 := run_append_grow (P := Tryz.prog) w 22 22 99 i0 (.int .u32 0) underU32s hi hz0 ⟨g, 0, none⟩ L.length cap (u32s L) (by rw [hz1, u32s_length]; omega) holds ⟨b, 0, none⟩ 1 1 [.int .u32 (x : Nat)] (by rw [hz1]; rfl) hnews (by omega) (by omega) (by rw [hz2]; exact growslice_fits (by omega) (by omega))
      rw [hr2] at hr
      injection hr with e1 e2
      right
      exact ⟨_, e1.symm, by rw [← e2]; exact (Below.refl _ _).drew.alloc (by simp) _⟩

end Go.Proofs.YtgpoljbccimkjaaGreatDoor

namespace Go.Proofs.YtgpoljbccimkjaaGreatDoor
set_option linter.unusedSimpArgs false
set_option linter.unusedVariables false
open Go.RowKit Go.Shelf

/-- Behind k parts: lv is the list v with k marks m behind it; v reads as it did; but for v's own block nothing that was there has changed. -/
def GInv (n0 : Nat) (wr : World) (v : Value) (L : List Nat) (m k : Nat) (lv : Value) (W : World) : Prop :=
  OwnL n0 W lv (L ++ List.replicate k m) ∧ Lim W v L ∧ wr.grownBy W v.ownBlock ∧
    ((∃ g cap, v = .slice (some ⟨g, 0, none⟩) L.length cap ∧ lv = .slice (some ⟨g, 0, none⟩) (L.length + k) cap) ∨ (∃ g n cap, wr.heap.size ≤ g ∧ lv = .slice (some ⟨g, 0, none⟩) n cap) ∨ (k = 0 ∧ lv = v))

theorem grownBy_trans {a b c : World} {r r' : Option Nat} (h : a.grownBy b r) (k : b.grownBy c r') (hr : ∀ g, r' = some g → g < a.heap.size → r = some g) : a.grownBy c r :=
  ⟨k.os.trans h.os, k.tape.trans h.tape, k.output.trans h.output, Nat.le_trans h.size k.size, fun q h1 h2 => (k.block q (Nat.lt_of_lt_of_le h1 h.size) (fun e => h2 (hr q e.symm h1).symm)).trans (h.block q h1 h2)⟩
theorem grownBy_below {a b : World} (h : Below a.heap.size a b) (r : Option Nat) : a.grownBy b r :=
  ⟨h.os, h.tape, h.output, h.size, fun q h1 _ => h.block q h1⟩

theorem GInv.start {n0 : Nat} {wr : World} {v : Value} {L : List Nat} {m : Nat} (h : OwnL n0 wr v L) : GInv n0 wr v L m 0 v wr :=
  ⟨by simpa using h, h.lim, grownBy_below (Below.refl _ _) _, .inr (.inr ⟨rfl, rfl⟩)⟩

theorem GInv.below {n0 : Nat} {wr W W' : World} {v lv : Value} {L : List Nat} {m k : Nat} (h : GInv n0 wr v L m k lv W) (hb : Below W.heap.size W W') : GInv n0 wr v L m k lv W' :=
  ⟨h.1.below hb, h.2.1.below hb, grownBy_trans h.2.2.1 (grownBy_below hb none) (fun g e => by cases e), h.2.2.2⟩

theorem GInv.step {n0 : Nat} {wr W W' : World} {v lv lv' : Value} {L : List Nat} {m k : Nat} (h : GInv n0 wr v L m k lv W) (hO : OwnL n0 W' lv' ((L ++ List.replicate k m) ++ [m])) (hv : ∀ g, v.ownBlock = some g → g < wr.heap.size)
    (hc : (∃ g cap, lv = .slice (some ⟨g, 0, none⟩) (L ++ List.replicate k m).length cap ∧ lv' = .slice (some ⟨g, 0, none⟩) ((L ++ List.replicate k m).length + 1) cap ∧ W.grownBy W' (some g)) ∨ (∃ cap, lv' = .slice (some ⟨W.heap.size, 0, none⟩) ((L ++ List.replicate k m).length + 1) cap ∧ Below W.heap.size W W')) :
    GInv n0 wr v L m (k + 1) lv' W' := by
  obtain ⟨h1, h2, h3, h4⟩ := h
  have hlen : (L ++ List.replicate k m).length = L.length + k := by simp
  have hO' : OwnL n0 W' lv' (L ++ List.replicate (k + 1) m) := by
    have e : (L ++ List.replicate k m) ++ [m] = L ++ List.replicate (k + 1) m := by rw [List.replicate_succ', List.append_assoc]
    rwa [e] at hO
  rcases hc with ⟨g, cap, e1, e2, hg⟩ | ⟨cap, e2, hb⟩
  · rw [hlen] at e1 e2
    have key : (v.ownBlock = some g ∧ ∃ cap', v = .slice (some ⟨g, 0, none⟩) L.length cap' ∧ cap' = cap) ∨ wr.heap.size ≤ g := by
      rcases h4 with ⟨g', cap', q1, q2⟩ | ⟨g', n', cap', q1, q2⟩ | ⟨q1, q2⟩
      · rw [e1] at q2
        injection q2 with r1 r2 r3
        injection r1 with r1
        injection r1 with r1
        subst r1
        exact .inl ⟨by rw [q1]; rfl, cap', q1, r3.symm⟩
      · rw [e1] at q2
        injection q2 with r1 r2 r3
        injection r1 with r1
        injection r1 with r1
        subst r1
        exact .inr q1
      · subst q1
        rw [e1] at q2
        exact .inl ⟨by rw [← q2]; rfl, cap, q2.symm, rfl⟩
    rcases key with ⟨q1, cap', q2, rfl⟩ | q1
    · refine ⟨hO', ?_, grownBy_trans h3 hg (fun g' e hlt => by injection e with e; rw [← e]; exact q1), .inl ⟨g, cap', q2, by rw [e2]; congr 1⟩⟩
      have hL := hO'.lim
      rw [e2] at hL
      rw [q2]
      have e3 : L.length + k + 1 = (L ++ List.replicate (k + 1) m).length := by simp; omega
      rw [e3] at hL
      have h5 := hL.take L.length (by simp)
      rwa [List.take_left'] at h5
      rfl
    · refine ⟨hO', ?_, grownBy_trans h3 hg (fun g' e hlt => by injection e with e; omega), .inr (.inl ⟨g, _, cap, q1, e2⟩)⟩
      obtain ⟨a, c, hv', p1, p2, p3, p4⟩ := h2
      refine ⟨a, c, hv', p1, p2, p3, ?_⟩
      rcases p4 with p4 | ⟨b, o, rfl, hcell⟩
      · exact .inl p4
      · refine .inr ⟨b, o, rfl, fun i hi => ?_⟩
        have hbl := World.block_lt_of_cell? W _ (hcell i hi)
        have hbb : b < wr.heap.size ∨ wr.heap.size ≤ b := Nat.lt_or_ge _ _
        rw [hg.cell_far ⟨b, o + i, none⟩ hbl (fun e => ?_)]
        · exact hcell i hi
        · injection e with e
          have : v.ownBlock = some b := by rw [hv']; rfl
          have := hv b this
          have e' : b = g := e
          omega
  · exact ⟨hO', h2.below hb, grownBy_trans h3 (grownBy_below hb none) (fun g e => by cases e), .inr (.inl ⟨W.heap.size, _, cap, h3.size, e2⟩)⟩

/-- The entry with what it has become. -/
def Ent.grow (e : Ent) (u : Value) : Ent := ⟨e.v, u, e.n⟩
theorem rowCells_set {e : Ent} {u : Value} : ∀ (E : List Ent) (i : Nat), E[i]? = some e → (rowCells E).set (i * 3 + 1) u = rowCells (E.set i (e.grow u))
  | [], _, h => by cases h
  | y :: l, 0, h => by
    rw [List.getElem?_cons_zero] at h
    injection h with h
    subst h
    rfl
  | y :: l, i + 1, h => by
    rw [List.getElem?_cons_succ] at h
    have ih := rowCells_set (u := u) l i h
    have hr : ∀ (z : Ent) (q : List Ent), rowCells (z :: q) = z.cells ++ rowCells q := fun z q => by simp [rowCells]
    rw [List.set_cons_succ, hr, hr, ← ih, List.set_append_right _ _ (by simp [Ent.cells]; omega)]
    congr 2
    simp [Ent.cells]
    omega
theorem row_put {W : World} {B r cap i : Nat} {E : List Ent} {e : Ent} (h : W.ownsRow B 138 3 (.slice (some ⟨r, 0, none⟩) E.length cap) E.length (rowCells E)) (he : E[i]? = some e) (u : Value) :
    (W.setCell ⟨r, i * 3 + 1, none⟩ u).ownsRow B 138 3 (.slice (some ⟨r, 0, none⟩) (E.set i (e.grow u)).length cap) (E.set i (e.grow u)).length (rowCells (E.set i (e.grow u))) := by
  obtain ⟨h0, h1⟩ := h
  have hlt : i < E.length := by
    rcases Nat.lt_or_ge i E.length with h | h
    · exact h
    · rw [List.getElem?_eq_none h] at he; cases he
  rw [← rowCells_set E i he, List.length_set]
  rcases h1 with ⟨h1, h2⟩ | ⟨g, cap', cur, hv, hb, hg, hl, hm, hs, ht⟩
  · cases h1
  · injection hv with e1 e2 e3
    injection e1 with e1
    injection e1 with e1
    subst e1
    subst e3
    refine ⟨by rw [List.length_set]; exact h0, .inr ⟨r, cap, cur.setIfInBounds (i * 3 + 1) u, rfl, hb, CellsAt.set hg _ _, hl, hm, by rw [Array.size_setIfInBounds]; exact hs, ?_⟩⟩
    rw [Array.toList_setIfInBounds, List.take_set, ht]

end Go.Proofs.YtgpoljbccimkjaaGreatDoor

namespace Go.Proofs.YtgpoljbccimkjaaGreatDoor
set_option linter.unusedSimpArgs false
set_option linter.unusedVariables false
open Go.RowKit Go.Shelf

theorem Lim.grow {W W' : World} {v : Value} {l : List Nat} {row : Option Nat} (h : Lim W v l) (hg : W.grownBy W' row) (hr : ∀ b, v.ownBlock = some b → row ≠ some b) : Lim W' v l := by
  obtain ⟨a, c, rfl, h1, h2, h3, h4⟩ := h
  refine ⟨a, c, rfl, h1, h2, h3, ?_⟩
  rcases h4 with h4 | ⟨b, o, rfl, hc⟩
  · exact .inl h4
  · refine .inr ⟨b, o, rfl, fun i hi => ?_⟩
    rw [hg.cell_far ⟨b, o + i, none⟩ (World.block_lt_of_cell? W _ (hc i hi)) (fun e => hr b rfl e.symm)]
    exact hc i hi
theorem Lim.far {W : World} {v : Value} {l : List Nat} (h : Lim W v l) {q : Addr} (hr : ∀ b, v.ownBlock = some b → b ≠ q.block) (u : Value) : Lim (W.setCell q u) v l := by
  obtain ⟨a, c, rfl, h1, h2, h3, h4⟩ := h
  refine ⟨a, c, rfl, h1, h2, h3, ?_⟩
  rcases h4 with h4 | ⟨b, o, rfl, hc⟩
  · exact .inl h4
  · refine .inr ⟨b, o, rfl, fun i hi => ?_⟩
    rw [World.cell?_setCell_far _ _ _ _ (fun e => hr b rfl e.symm)]
    exact hc i hi
theorem row_grow {W W' : World} {B n size : Nat} {T : TypeId} {v : Value} {xs : List Value} {row : Option Nat} (h : W.ownsRow B T size v n xs) (hg : W.grownBy W' row) (hr : ∀ b, v.ownBlock = some b → row ≠ some b) : W'.ownsRow B T size v n xs := by
  obtain ⟨h0, h1⟩ := h
  refine ⟨h0, ?_⟩
  rcases h1 with h1 | ⟨g, cap, cur, rfl, hb, hh, r⟩
  · exact .inl h1
  · exact .inr ⟨g, cap, cur, rfl, hb, by rw [hg.block g (Array.getElem?_eq_some_iff.1 hh).1 (fun e => hr g rfl e.symm)]; exact hh, r⟩
theorem OwnL.grow {n : Nat} {W W' : World} {v : Value} {L : List Nat} {row : Option Nat} (h : OwnL n W v L) (hg : W.grownBy W' row) (hr : ∀ b, v.ownBlock = some b → row ≠ some b) : OwnL n W' v L := ⟨row_grow h.1 hg hr, h.2⟩
theorem BoxV.grow {W W' : World} {b : Nat} {x : Value} {vs : List Value} {row : Option Nat} (h : BoxV W b (x :: vs)) (hg : W.grownBy W' row) (hr : row ≠ some b) : BoxV W' b (x :: vs) := fun i hi => by
  rw [hg.cell_far ⟨b, i, none⟩ h.lt (fun e => hr e.symm), hg.frozen_far ⟨b, i, none⟩ h.lt (fun e => hr e.symm)]
  exact h i hi
theorem BookAt.grow {W W' : World} {B p : Nat} {vr : Value} {E : List Ent} {row : Option Nat} (h : BookAt W B p vr E) (hg : W.grownBy W' row) (hr : ∀ b, row = some b → b < B) : BookAt W' B p vr E := by
  obtain ⟨h1, h2, h3, h4⟩ := h
  refine ⟨h1.grow hg (fun e => by have := hr _ e; omega), row_grow h2 hg (fun b e e2 => ?_), h3, h4⟩
  have := hr _ e2
  have := (h2.lt _ e).1
  omega

/-- Entry j, as it is when the first i have grown. -/
def GrownE (W : World) (n0 B p r : Nat) (F : Nat → List Nat) (i j : Nat) (v u : Value) : Prop :=
  (j < i → Lim W v (F j) ∧ Lim W u (F j ++ List.replicate 40 (1001 + j)) ∧ ∀ b, u.ownBlock = some b → v.ownBlock = some b ∨ (B ≤ b ∧ b ≠ r ∧ b ≠ p)) ∧ (i ≤ j → u = nil0 ∧ OwnL n0 W v (F j))
def GrownAt (W : World) (n0 B p r cr : Nat) (E E' : List Ent) (F : Nat → List Nat) (i : Nat) : Prop :=
  E'.length = E.length ∧ BookAt W B p (.slice (some ⟨r, 0, none⟩) E'.length cr) E' ∧ ∀ j e, E[j]? = some e → ∃ u, E'[j]? = some ⟨e.v, u, j + 1⟩ ∧ GrownE W n0 B p r F i j e.v u

theorem GrownAt.start {W : World} {n0 B p r cr : Nat} {E : List Ent} {F : Nat → List Nat} (hb : BookAt W B p (.slice (some ⟨r, 0, none⟩) E.length cr) E) (hh : Hold W n0 B E F) (hn : ∀ i e, E[i]? = some e → e.n = i + 1 ∧ e.g = nil0) : GrownAt W n0 B p r cr E E F 0 :=
  ⟨rfl, hb, fun j e he => ⟨nil0, by
    obtain ⟨h1, h2⟩ := hn j e he
    rw [he, ← h1, ← h2], fun h => by omega, fun _ => ⟨rfl, (hh j e he).1⟩⟩⟩

theorem GrownE.keep {W W1 W2 : World} {n0 B p r i j : Nat} {F : Nat → List Nat} {v u lv row : Value} (h : GrownE W n0 B p r F i j v u) (h1 : Below W.heap.size W W1) (h2 : W1.grownBy W2 row.ownBlock) (hrow : ∀ b, row.ownBlock = some b → b < B) (hsep : ∀ b, v.ownBlock = some b → row.ownBlock ≠ some b) (hv : ∀ b, v.ownBlock = some b → b < B) (hr : B ≤ r) (q : Nat) :
    (j < i → Lim (W2.setCell ⟨r, q, none⟩ lv) v (F j) ∧ Lim (W2.setCell ⟨r, q, none⟩ lv) u (F j ++ List.replicate 40 (1001 + j)) ∧ ∀ b, u.ownBlock = some b → v.ownBlock = some b ∨ (B ≤ b ∧ b ≠ r ∧ b ≠ p)) ∧ (i ≤ j → u = nil0 ∧ OwnL n0 (W2.setCell ⟨r, q, none⟩ lv) v (F j)) := by
  have hvr : ∀ b, v.ownBlock = some b → b ≠ r := fun b e => by have := hv b e; omega
  refine ⟨fun hj => ?_, fun hj => ?_⟩
  · obtain ⟨a1, a2, a3⟩ := h.1 hj
    refine ⟨((a1.below h1).grow h2 hsep).far (q := ⟨r, q, none⟩) hvr _, ((a2.below h1).grow h2 (fun b e e2 => ?_)).far (q := ⟨r, q, none⟩) (fun b e => ?_) _, a3⟩
    · rcases a3 b e with h3 | h3
      · exact hsep b h3 e2
      · have := hrow b e2; omega
    · rcases a3 b e with h3 | h3
      · exact hvr b h3
      · exact h3.2.1
  · obtain ⟨a1, a2⟩ := h.2 hj
    exact ⟨a1, ((a2.below h1).grow h2 hsep).far (p := ⟨r, q, none⟩) (fun e => hvr _ e rfl) _⟩

theorem GrownAt.next {W W1 W2 : World} {n0 B p r cr i : Nat} {E E' : List Ent} {F : Nat → List Nat} {e : Ent} {lv : Value} (h : GrownAt W n0 B p r cr E E' F i) (he : E[i]? = some e) (h1 : Below W.heap.size W W1) (hI : GInv n0 W1 e.v (F i) (1001 + i) 40 lv W2) (hs : Sep E) (hlow : ∀ (j : Nat) (e : Ent), E[j]? = some e → ∀ b, e.v.ownBlock = some b → b < B) (hB : B ≤ r) (hr : r < W1.heap.size) (hp : p < W1.heap.size) :
    ∃ E'', GrownAt (W2.setCell ⟨r, i * 3 + 1, none⟩ lv) n0 B p r cr E E'' F (i + 1) := by
  obtain ⟨g1, g2, g3⟩ := h
  obtain ⟨u0, hu0, -⟩ := g3 i e he
  have hb2 := (g2.below h1).grow hI.2.2.1 (hlow i e he)
  have hlt : i < E'.length := by
    rcases Nat.lt_or_ge i E'.length with h | h
    · exact h
    · rw [List.getElem?_eq_none h] at hu0; cases hu0
  have hset : ∀ j, (E'.set i ((⟨e.v, u0, i + 1⟩ : Ent).grow lv))[j]? = if j = i then some ⟨e.v, lv, i + 1⟩ else E'[j]? := fun j => by
    by_cases hj : j = i
    · subst hj
      rw [if_pos rfl, List.getElem?_set_self hlt]
      rfl
    · rw [if_neg hj, List.getElem?_set_ne (fun e => hj e.symm)]
  refine ⟨E'.set i ((⟨e.v, u0, i + 1⟩ : Ent).grow lv), by rw [List.length_set]; exact g1, ⟨?_, row_put hb2.2.1 hu0 lv, hb2.2.2.1, hb2.2.2.2⟩, fun j e2 he2 => ?_⟩
  · have hpr : p ≠ r := fun e => hb2.2.2.1 (by rw [e]; rfl)
    have := hb2.1.far (q := ⟨r, i * 3 + 1, none⟩) (by show r ≠ p; exact fun e => hpr e.symm) lv
    simpa using this
  · rw [hset j]
    by_cases hj : j = i
    · subst hj
      rw [he] at he2
      injection he2 with he2
      subst he2
      have hvr : ∀ b, e.v.ownBlock = some b → b ≠ r := fun b q => by have := hlow j e he b q; omega
      have hlvb : ∀ b, lv.ownBlock = some b → e.v.ownBlock = some b ∨ (B ≤ b ∧ b ≠ r ∧ b ≠ p) := by
        intro b q
        rcases hI.2.2.2 with ⟨g, cap, q1, q2⟩ | ⟨g, n, cap, q1, q2⟩ | ⟨q1, _⟩
        · left
          rw [q2] at q
          rw [q1]
          exact q
        · right
          rw [q2] at q
          injection q with q
          have : g = b := q
          omega
        · omega
      refine ⟨lv, by rw [if_pos rfl], fun _ => ⟨hI.2.1.far (q := ⟨r, j * 3 + 1, none⟩) hvr _, hI.1.lim.far (q := ⟨r, j * 3 + 1, none⟩) (fun b q => ?_) _, hlvb⟩, fun h => by omega⟩
      rcases hlvb b q with h3 | h3
      · exact hvr b h3
      · exact h3.2.1
    · rw [if_neg hj]
      obtain ⟨u, hu, hG⟩ := g3 j e2 he2
      have hk := hG.keep (lv := lv) h1 hI.2.2.1 (hlow i e he) (fun b q q2 => hs j i e2 e he2 he hj b q q2) (hlow j e2 he2) hB (i * 3 + 1)
      exact ⟨u, hu, fun h => hk.1 (by omega), fun h => hk.2 (by omega)⟩

end Go.Proofs.YtgpoljbccimkjaaGreatDoor

namespace Go.Proofs.YtgpoljbccimkjaaGreatDoor
set_option linter.unusedSimpArgs false
set_option linter.unusedVariables false
open Go.RowKit Go.Shelf

theorem wpList_append_one {ops : Array Oper} {rest : List Oper} {o : Oper} {a : Act} {Q : Exit → Act → World → Prop} {w : World} (hgd : o.guard = none) (s x : Operand)
    (ho : o.op = .call { callee := .builtin .append, args := #[s, x], argTypes := #[22, 22] }) (hty : o.type = 22) {n0 b m : Nat} {v : Value} {L : List Nat} (hs : a.eval s = v) (hx : a.eval x = .slice (some ⟨b, 0, none⟩) 1 1)
    (hO : OwnL n0 w v L) (hm : m < 4294967296) (hc : w.cell? ⟨b, 0, none⟩ = some (.int .u32 (m : Nat))) (hn : L.length ≤ 2000000) (hb : n0 ≤ w.heap.size)
    (h : ∀ v' w', OwnL n0 w' v' (L ++ [m]) → ((∃ g cap, v = .slice (some ⟨g, 0, none⟩) L.length cap ∧ v' = .slice (some ⟨g, 0, none⟩) (L.length + 1) cap ∧ w.grownBy w' (some g)) ∨ (∃ cap, v' = .slice (some ⟨w.heap.size, 0, none⟩) (L.length + 1) cap ∧ Below w.heap.size w w')) → wpList Tryz.prog ops Q rest (a.put o.dst v') w') : wpList Tryz.prog ops Q (o :: rest) a w := by
  refine wpList_plain hgd fun _ hK => ?_
  obtain ⟨v', w', hr, h2, h3⟩ := append_one hO hm hc hn hb
  unfold Oper.wp execOp
  simp only [ho, hty, resolve, invoke, builtin, Sem.run_bind, Sem.run_pure, Result.andThen_ok, List.map_toArray, List.map_cons, List.map_nil, hs, hx, hr]
  exact hK _ _ (h v' w' h2 h3)

theorem mark_go (i : Nat) (w : World) (h : i ≤ 10000) : Calls Tryz.prog 169 #[.int .i64 ((i : Int) + 1)] w fun e w' => e = .returned (.int .u32 ((1001 + i : Nat) : Int)) ∧ w = w' :=
  (mark_still i w h).mono fun e w' ⟨h1, h2⟩ => ⟨h1, h2.symm⟩

set_option maxRecDepth 100000 in
set_option maxHeartbeats 4000000 in
theorem growLimb_any (n0 B p : Nat) (vr : Value) (E : List Ent) (F : Nat → List Nat) (w : World) (hb : BookAt w B p vr E) (hE0 : 0 < E.length) (hh : Hold w n0 B E F) (hs : Sep E) (hn : ∀ i e, E[i]? = some e → e.n = i + 1 ∧ e.g = nil0) (hE : E.length ≤ 1000) (hF : ∀ i, (F i).length ≤ 1000000) (h0 : n0 ≤ B) (hB : B ≤ w.heap.size) :
    Calls Tryz.prog 99 #[.pointer (some ⟨p, 0, none⟩)] w fun e w' => e = .returned (.tuple #[]) ∧ (∃ r cr E', GrownAt w' n0 B p r cr E E' F E.length) ∧ Below n0 w w' := by
  obtain ⟨r, cr, hvr, hcr⟩ : ∃ r cr, vr = .slice (some ⟨r, 0, none⟩) E.length cr ∧ cr ≤ maxLen := by
    rcases hb.2.1.2 with ⟨h1, h2⟩ | ⟨g, cap, cur, h1, _, _, h3, h4, _⟩
    · omega
    · exact ⟨g, cap, h1, h4⟩
  subst hvr
  have hBr : B ≤ r := (hb.2.1.lt r rfl).1
  have hBp : B ≤ p := hb.2.2.2
  have HLOW : Hid (∀ (j : Nat) (e : Ent), E[j]? = some e → ∀ b, e.v.ownBlock = some b → b < B) := fun j e he => (hh j e he).2
  have HSTART := Lib.hid (GrownAt.start hb hh hn)
  have HS := Lib.hid hs
  have HF := Lib.hid hF
  unfold maxLen at hcr
  clear hb hh hs hn hF
  go_enter Tryz.func99, Tryz.ntmps99
  go_wp2
  go_loopw [2] (fun ii wr => ∃ (i : Nat) (E' : List Ent), i ≤ E.length ∧ ii = .int .i64 i ∧ GrownAt wr n0 B p r cr E E' F i ∧ Below n0 w wr ∧ B ≤ wr.heap.size) (fun i _ => E.length - (intOf i).toNat)
  case atStart => exact ⟨0, E, Nat.zero_le _, rfl, HSTART.out, Below.refl _ _, hB⟩
  case round =>
    obtain ⟨i, E', hi, rfl, hG, hB1, hB2⟩ := hrel
    have HG := Lib.hid hG
    have HB1 := Lib.hid hB1
    have hEl : E'.length = E.length := hG.1
    have c2 := hG.2.1.1.at2
    rw [hEl] at c2
    by_cases hlt : i < E.length
    · obtain ⟨e, he⟩ : ∃ e, E[i]? = some e := ⟨E[i], List.getElem?_eq_getElem hlt⟩
      have HE := Lib.hid he
      obtain ⟨u0, hu0, hGE⟩ := hG.2.2 i e he
      obtain ⟨rfl, hO⟩ := hGE.2 (Nat.le_refl _)
      obtain ⟨q0, q1, q2⟩ := row_cell hG.2.1.2.1 hu0
      have hltI : (i : Int) < (E.length : Int) := by omega
      obtain ⟨av, cv, hev⟩ : ∃ av cv, e.v = .slice av (F i).length cv := by
        obtain ⟨x, y, h2, -⟩ := hO.lim
        exact ⟨x, y, h2⟩
      have HEV := Lib.hid hev
      have HO := Lib.hid hO
      have hplt := hG.2.1.1.lt
      have hrlt : r < wr.heap.size := (hG.2.1.2.1.lt r rfl).2
      simp only [hev, nil0] at q0 q1 q2
      have hFi := HF.out i
      clear hG hB1 he hGE hO hev hu0
      go_wp2
      obtain ⟨W1, e1, hbx, hw1, hs1⟩ : ∃ W1, wr.alloc (.cells #[.slice av (F i).length cv, .slice none 0 0, .int .i64 ((i : Int) + 1)] 138) = W1 ∧ BoxV W1 wr.heap.size [.slice av (F i).length cv, .slice none 0 0, .int .i64 ((i : Int) + 1)] ∧ Hid (Below wr.heap.size wr W1) ∧ wr.heap.size < W1.heap.size :=
        ⟨_, rfl, BoxV.new _ _ _, (Below.refl _ _).alloc (Nat.le_refl _) _, by simp⟩
      rw [e1]
      have HBX := Lib.hid hbx
      have b0 := hbx.at0
      clear e1 hbx c2 q0 q1 q2
      have HVB : Hid (∀ b, (Value.slice av (F i).length cv).ownBlock = some b → b < B) := by have := HLOW.out i e HE.out; rw [HEV.out] at this; exact this
      have HO1 : Hid (OwnL n0 W1 (.slice av (F i).length cv) (F i)) := by have := HO.out.below hw1.out; rw [HEV.out] at this; exact this
      have HB1' : Hid (Below n0 w W1) := HB1.out.trans (hw1.out.mono (by omega))
      go_loopw [4, 5] (fun lv kk wr2 => ∃ k : Nat, k ≤ 40 ∧ kk = .int .i64 k ∧ GInv n0 W1 (.slice av (F i).length cv) (F i) (1001 + i) k lv wr2) (fun _ kk _ => 40 - (intOf kk).toNat)
      case atStart => exact ⟨0, by omega, rfl, GInv.start HO1.out⟩
      case round =>
        obtain ⟨k, hk, rfl, hI⟩ := hrel
        have HI := Lib.hid hI
        have hsz := hI.2.2.1.size
        have hx2 := HBX.out.grow hI.2.2.1 (fun e => by have := HVB.out _ e; omega)
        have x0 := hx2.at0
        have x2 := hx2.at2
        have hll : (F i ++ List.replicate k (1001 + i)).length = (F i).length + k := by simp
        clear hI hx2
        by_cases hk40 : k < 40
        · have hkI : (k : Int) < 40 := by omega
          go_wp2_with (first | (go_at_call 169; refine (mark_go i _ (by omega)).mono ?_; rintro e w' ⟨rfl, rfl⟩) | (at_builtin; refine wpList_append_one rfl _ _ rfl rfl (n0 := n0) (b := wr.heap.size) (m := 1001 + i) (L := F i ++ List.replicate k (1001 + i)) rfl rfl ?a1 ?a2 ?a3 ?a4 ?a5 ?a6))
          case a1 => exact (HI.out.below (W' := _) (by repeat (first | exact Below.refl _ _ | with_reducible refine Below.drew ?_ | with_reducible refine below_drewN ?_ _ | with_reducible refine Below.setCell ?_ (by first | (simp; done) | (simp; omega) | omega) _ | with_reducible refine Below.alloc ?_ (by first | (simp; done) | (simp; omega) | omega) _))).1
          case a2 => omega
          case a3 => (rw [show (((1001 + i : Nat)) : Int) = 1001 + (i : Int) from by omega]; exact (BoxV.new wr [.int .u32 (1001 + (i : Int))] 99).at0)
          case a4 => omega
          case a5 => simp; omega
          intro v' w1 ho hc
          have HIb := Lib.hid (HI.out.below (W' := wr.alloc (.cells #[.int .u32 (1001 + (i : Int))] 99)) (by repeat (first | exact Below.refl _ _ | with_reducible refine Below.drew ?_ | with_reducible refine below_drewN ?_ _ | with_reducible refine Below.setCell ?_ (by first | (simp; done) | (simp; omega) | omega) _ | with_reducible refine Below.alloc ?_ (by first | (simp; done) | (simp; omega) | omega) _)))
          rw [← List.append_assoc] at ho
          simp only [← hll, ← World.size_alloc wr (.cells #[.int .u32 (1001 + (i : Int))] 99)] at hc
          have HST := Lib.hid (HIb.out.step ho (fun g hg => by have := HVB.out g hg; omega) (hc.imp id (fun ⟨⟨x, h1⟩, h2⟩ => ⟨x, h1, h2⟩)))
          clear ho hc
          go_wp2
          exact ⟨⟨k + 1, by omega, by go_num, HST.out⟩, by simp [intOf]; omega⟩
        · obtain rfl : k = 40 := by omega
          obtain ⟨a9, c9, hlv, -⟩ := HI.out.1.lim
          have HN := Lib.hid (HG.out.next HE.out hw1.out (by rw [HEV.out]; exact HI.out) HS.out HLOW.out hBr (by omega) (by omega))
          have hbk := (HG.out.2.1.below hw1.out).grow HI.out.2.2.1 HVB.out
          have y2 := hbk.1.at2
          rw [hEl] at y2
          obtain ⟨u9, hu9, -⟩ := HG.out.2.2 i e HE.out
          obtain ⟨-, q1, -⟩ := row_cell hbk.2.1 hu9
          have qf : wr.frozen? ⟨r, i * 3 + 1, none⟩ = false := by
            rcases hbk.2.1.2 with ⟨h1, _⟩ | ⟨g, cap, cur, h1, _, hg, _⟩
            · cases h1
            · injection h1 with h1
              injection h1 with h1
              injection h1 with h1
              subst h1
              exact CellsAt.free hg _
          have HBN : Hid (Below n0 w wr) := by
            have h1 := HB1'.out
            exact h1.grown HI.out.2.2.1 (by omega) (fun b hb => (by have := (HO1.out.1.lt b hb).1; exact this))
          clear hbk hu9 x0 x2
          subst hlv
          go_wp2
          obtain ⟨E'', hE''⟩ := HN.out
          rw [hll] at hE''
          refine ⟨⟨i + 1, E'', by omega, by go_num, hE'', HBN.out.setCell (p := ⟨r, i * 3 + 1, none⟩) (by show n0 ≤ r; omega) _, by simp; omega⟩, by simp [intOf]; omega⟩
    · obtain rfl : i = E.length := by omega
      clear hG hB1
      go_wp2
      go_end0
      exact ⟨rfl, ⟨r, cr, E', HG.out⟩, HB1.out⟩

end Go.Proofs.YtgpoljbccimkjaaGreatDoor

namespace Go.Proofs.YtgpoljbccimkjaaGreatDoor
set_option linter.unusedSimpArgs false
set_option linter.unusedVariables false
open Go.RowKit Go.Shelf

set_option maxHeartbeats 400000 in
theorem is_still (i : Nat) (w : World) (h : i ≤ 10000) : Calls Tryz.prog 181 #[.int .u32 ((1001 + i : Nat) : Int), .int .i64 ((i : Int) + 1)] w fun e w' => e = .returned (.bool true) ∧ w' = w := by
  have hb : (((1001 + i : Nat) : Int) == 1000 + ((i : Int) + 1)) = true := by rw [beq_iff_eq]; omega
  have hb2 : ((1001 : Int) + (i : Int) == 1000 + ((i : Int) + 1)) = true := by rw [beq_iff_eq]; omega
  go_enter Tryz.func181, Tryz.ntmps181
  go_wp2
  go_ret
  refine ⟨ret_bool ?_, rfl⟩
  first | rfl | simp | (simp; omega)

end Go.Proofs.YtgpoljbccimkjaaGreatDoor
