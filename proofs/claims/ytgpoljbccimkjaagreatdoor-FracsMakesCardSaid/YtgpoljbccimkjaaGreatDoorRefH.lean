/- Walks of the reference of layer 1: the sum of two numbers, and the difference. -/
import Derived.Test.YtgpoljbccimkjaaGreatDoorRefE
import Derived.Test.YtgpoljbccimkjaaGreatDoorRefD
import Derived.Test.YtgpoljbccimkjaaGreatDoorSteps4
namespace Go.Proofs.YtgpoljbccimkjaaGreatDoor
set_option linter.unusedSimpArgs false
set_option linter.unusedVariables false
open Go.RowKit Go.Shelf

set_option maxRecDepth 100000
section
variable {W : World} {b o : Nat}
theorem run_sgn : (Instr.fieldAt 24 (.pointer (some ⟨b, o, none⟩)) 0).run Tryz.prog W = .ok (.pointer (some ⟨b, o, none⟩)) W := by
  go_simp
theorem run_dig : (Instr.fieldAt 24 (.pointer (some ⟨b, o, none⟩)) 1).run Tryz.prog W = .ok (.pointer (some ⟨b, o + 1, none⟩)) W := by
  go_simp
theorem run_loadB {s : Bool} (h0 : W.cell? ⟨b, o, none⟩ = some (.bool s)) : (Instr.loadAt 4 (.pointer (some ⟨b, o, none⟩))).run Tryz.prog W = .ok (.bool s) W := by
  go_simp
theorem run_loadS {p : Option Addr} {n c : Nat} (h0 : W.cell? ⟨b, o, none⟩ = some (.slice p n c)) : (Instr.loadAt 22 (.pointer (some ⟨b, o, none⟩))).run Tryz.prog W = .ok (.slice p n c) W := by
  go_simp
end

/-- A number's value, as it is: its sign and its parts. -/
def IsA (s : Bool) (l : List Nat) (v : Value) (w : World) : Prop := ∃ p n c, v = .agg #[.bool s, .slice p n c] ∧ Lim w (.slice p n c) l
theorem IsA.grows (s : Bool) (l : List Nat) : Grows (IsA s l) := fun _ _ _ h hb => by
  obtain ⟨p, n, c, e, h⟩ := h
  exact ⟨p, n, c, e, h.below hb⟩

section
variable {bs : List (Nat × Bool)} {fs : List (Nat × (Value → World → Prop))} {w0 : World} {d : Nat} {ty : TypeId} {pos : String} {af : Array Edge} {g : Option (Nat × Bool)}

theorem step_buildA {x y : Nat} {s : Bool} {l : List Nat} (hx : ∀ v w, Known bs fs x v w → v = .bool s) (hy : ∀ v w, Known bs fs y v w → IsL l v w) (h : ∀ v w, IsA s l v w → Known bs fs d v w) : StepOk Tryz.prog bs fs w0 ⟨some d, .build 24 #[(0, .tmp x), (1, .tmp y)], ty, pos, af, g⟩ :=
  step_value rfl fun a w hb hk => by
    have e1 := hx _ _ (hk x (by simp [looks, Op.operands]))
    have h2 := hy _ _ (hk y (by simp [looks, Op.operands]))
    obtain ⟨p, n, c, e2⟩ := IsL.slice h2
    rw [e2] at h2
    exact ⟨.agg #[.bool s, .slice p n c], w, by
      simp only [execOp, List.map_toArray, List.map_cons, List.map_nil, e1, e2]
      go_simp, h _ _ ⟨p, n, c, rfl, h2⟩, Below.refl _ _⟩

theorem run_append_lim {w : World} {v : Value} {l : List Nat} (h : Lim w v l) (hl : l.length ≤ 1000000) : ∃ v' w', (Builtin.append_ #[22, 22] 22 #[.slice none 0 0, v]).run Tryz.prog w = .ok v' w' ∧ OwnL w.heap.size w' v' l ∧ Below w.heap.size w w' := by
  obtain ⟨i0, hi, hz0, hz1, hz2⟩ := info_parts infoU32
  obtain ⟨a, c, rfl, h1, h2, h3, h4⟩ := h
  rcases h4 with ⟨rfl, rfl, rfl⟩ | ⟨b, o, rfl, hc⟩
  · refine ⟨.slice none 0 0, w, ?_, OwnL.nil _ _, Below.refl _ _⟩
    simp [Builtin.append_, run_underlying underU32s, sizeOf, typeInfo, hi, Builtin.lenOf, Builtin.firstCells, loadCells, loadCellsFrom]
  · obtain ⟨v', w', hr, h5, h6, -⟩ := run_append_own (P := Tryz.prog) w w.heap.size 22 22 99 i0 (.int .u32 0) 1 4 underU32s hi hz0 hz1 hz2 rfl (by decide) (.slice none 0 0) 0 [] (World.ownsRow_nil w _ _ 1) ⟨b, o, none⟩ l.length c (u32s l) (by simp [u32s]) (fun j u hj => by
      have hlt : j < l.length := by
        rcases Nat.lt_or_ge j l.length with h | h
        · exact h
        · rw [List.getElem?_eq_none (by rw [u32s_length]; exact h)] at hj; cases hj
      rw [u32s_get l j hlt] at hj
      injection hj with hj
      rw [← hj]
      have e : (⟨b, o, none⟩ : Addr).add j = ⟨b, o + j, none⟩ := by
        unfold Addr.add
        split
        · next h0 => subst h0; rfl
        · rfl
      rw [e]
      exact hc j hlt) (fun u hu => by
      unfold u32s at hu
      rw [List.mem_map] at hu
      obtain ⟨x, _, rfl⟩ := hu
      rfl) (by unfold maxLen; omega) (by omega) (Nat.le_refl _)
    refine ⟨v', w', hr, ⟨by simpa using h5, h3⟩, (Below.refl _ _).grown h6 (Nat.le_refl _) (fun k e => by simp [Value.ownBlock] at e)⟩

theorem step_append_nil {x y : Nat} {l : List Nat} (hx : ∀ v w, Known bs fs x v w → v = .slice none 0 0) (hy : ∀ v w, Known bs fs y v w → IsL l v w) (hl : l.length ≤ 1000000) (h : ∀ v w, IsL l v w → Known bs fs d v w) :
    StepOk Tryz.prog bs fs w0 ⟨some d, .call { callee := .builtin .append, args := #[.tmp x, .tmp y], argTypes := #[22, 22] }, 22, pos, af, g⟩ :=
  step_value rfl fun a w hb hk => by
    have e1 := hx _ _ (hk x (by simp [looks, Op.operands, Call.operands]))
    have h2 := hy _ _ (hk y (by simp [looks, Op.operands, Call.operands]))
    obtain ⟨v', w', hr, h3, h4⟩ := run_append_lim h2 hl
    exact ⟨v', w', by
      unfold execOp
      simp only [resolve, invoke, builtin, Sem.run_bind, Sem.run_pure, Result.andThen_ok, List.map_toArray, List.map_cons, List.map_nil, e1, hr], h _ _ h3.lim, h4⟩
end

/-- The end of a call that answers what lies in a box. -/
theorem ret_nm {fn : Func} {R : Ending → World → Prop} {a : Act} {w : World} {t b : Nat} {s : Bool} {p : Option Addr} {n c : Nat} (hr : fn.results = #[.cell t 24]) (hd : a.defers = []) (h : a.eval (.tmp t) = .pointer (some ⟨b, 0, none⟩)) (hb : BoxV w b [.bool s, .slice p n c])
    (hR : R (.returned (.agg #[.bool s, .slice p n c])) w) : bodyPost Tryz.prog fn R .ret a w := by
  have h1 : a.tmps[t]?.getD undef = .pointer (some ⟨b, 0, none⟩) := by rw [← Array.getD_eq_getD_getElem?]; exact h
  obtain ⟨c0, c1, -, -⟩ := hb.c2
  refine bodyPost_ret (v := .agg #[.bool s, .slice p n c]) ?_ hd hR
  simp [results, hr, go_sem, h1, c0, c1]

set_option maxHeartbeats 2000000 in
theorem rTwin_any (s : Bool) (v : Value) (l : List Nat) (w : World) (h : Lim w v l) (hl : l.length ≤ 1000000) :
    Calls Tryz.prog 82 #[.agg #[.bool s, v]] w fun e w' => (∃ v', e = .returned (.agg #[.bool s, v']) ∧ Lim w' v' l) ∧ Below w.heap.size w w' := by
  have HL : Hid (∀ W, Below w.heap.size w W → Lim W v l) := fun W hb => h.below hb
  have HLL := Lib.hid hl
  obtain ⟨a, c, rfl, -⟩ := h
  obtain ⟨W0, e0, n1, n2, hb0, -, -⟩ := box2 w (.bool s) (.slice a l.length c) (.bool false) (.slice none 0 0)
  have N1 := n1.v.keep
  have N2 := n2.v.keep
  have B0 := Lib.hid hb0
  have HL0 : Hid (∀ W, Below W0.heap.size W0 W → Lim W (.slice a l.length c) l) := fun W hb => (HL.out _ hb0).below hb
  clear n1 n2 hb0 hl
  go_enter Tryz.func82, Tryz.ntmps82
  go_upto_region 2 with fail
  clear e0
  rename_i K1 hK1
  refine wp_region_tail []
    [(1, IsV (.pointer (some ⟨w.heap.size, 0, none⟩))), (2, IsV (.pointer (some ⟨w.heap.size + 1, 0, none⟩))), (3, IsV (.slice none 0 0))]
    [(4, IsV (.pointer (some ⟨w.heap.size, 0, none⟩))), (5, IsV (.bool s)), (6, IsV (.slice none 0 0)), (7, IsV (.pointer (some ⟨w.heap.size, 0 + 1, none⟩))), (8, IsL l), (9, IsL l), (10, IsA s l)]
    [] 11 7 (by kernel_rfl) rfl (by kernel_rfl) (by kernel_rfl) (by kernel_rfl) (by kernel_rfl) ⟨rfl, rfl, rfl, trivial⟩ ⟨IsV.grows _, IsV.grows _, IsV.grows _, IsV.grows _, IsV.grows _, IsV.grows _, IsV.grows _, IsL.grows _, IsL.grows _, IsA.grows _ _, trivial⟩ ?_ (fun d _ _ _ _ h => by cases d <;> exact h) ?_ ?_
  · refine AllStep2.step rfl rfl (step_fieldT (fun _ _ h => h) (fun _ => run_sgn) (fun _ => rfl)) ?_
    refine AllStep2.step rfl rfl (step_loadT (fun _ _ h => h) (fun W hb => run_loadB (N1.out W hb).at0) (fun w hb => rfl)) ?_
    refine AllStep2.quiet rfl (pure_move (fun _ _ h => h)) ?_
    refine AllStep2.step rfl rfl (step_fieldT (fun _ _ h => h) (fun _ => run_dig) (fun _ => rfl)) ?_
    refine AllStep2.step rfl rfl (step_loadT (fun _ _ h => h) (fun W hb => run_loadS (N1.out W hb).at1) (fun w hb => HL0.out w hb)) ?_
    refine AllStep2.step rfl rfl (step_append_nil (fun _ _ h => h) (fun _ _ h => h) HLL.out (fun _ _ h => h)) ?_
    refine AllStep2.step rfl rfl (step_buildA (fun _ _ h => h) (fun _ _ h => h) (fun _ _ h => h)) ?_
    exact AllStep2.nil
  · intro t ht v w hk
    simp only [List.mem_cons, List.not_mem_nil, or_false] at ht
  intro a3 w3 hb3 hs3 hd3 hk3 _
  have h10 : IsA s l (a3.eval (.tmp 10)) w3 := hk3 10 (by kernel_rfl)
  have h2 : a3.eval (.tmp 2) = .pointer (some ⟨w.heap.size + 1, 0, none⟩) := hk3 2 (by kernel_rfl)
  obtain ⟨p1, m1, c1, e10, h10⟩ := h10
  have N := N2.out _ hb3
  obtain ⟨W', e, hst, hbx⟩ := N.store (ys := [.bool s, .slice p1 m1 c1]) rfl rfl
  refine wpOps_step (i := 7) (rest := []) rfl rfl ?_
  refine wp_store_T h2 e10 (run_store2 N) ?_
  rw [e]
  refine hK1 _ _ ?_
  refine wp_ret ?_
  exact ret_nm (t := 2) rfl hd3 h2 hbx ⟨⟨_, rfl, hst.lim _ _ h10⟩, hst.below w (by omega) (Below.step B0.out hb3)⟩

end Go.Proofs.YtgpoljbccimkjaaGreatDoor

namespace Go.Proofs.YtgpoljbccimkjaaGreatDoor
set_option linter.unusedSimpArgs false
set_option linter.unusedVariables false
open Go.RowKit Go.Shelf

theorem rnum_at (s : Bool) (v : Value) (l : List Nat) (w : World) (h : Lim w v l) (h1 : ∀ x ∈ l, x < 1000000000) (k : Nat) (hk : (valS s l).natAbs < 1000000000 ^ k) :
    Calls Tryz.prog 78 #[.bool s, v] w fun e w' => AnsAt w' e k (valS s l) ∧ Below w.heap.size w w' := by
  refine (rnum_ok s v l w h h1 k hk).mono ?_
  rintro e w' ⟨⟨s', v', l', rfl, h2, h3, h4, h5⟩, h6⟩
  exact ⟨⟨_, rfl, s', v', l', rfl, h2, h3, h4, len_of_valS h3 (by rw [h4]; exact h5)⟩, h6⟩

theorem OkAt.stored {W W' : World} {b k : Nat} {u : Value} {Z : Int} (h : OkAt W u k Z) (hs : Stored W W' b) : OkAt W' u k Z := by
  obtain ⟨s, v, l, h1, h2, h3⟩ := h
  exact ⟨s, v, l, h1, hs.lim _ _ h2, h3⟩

theorem valS_not (s : Bool) (l : List Nat) : valS (!s) l = -valS s l := by
  cases s <;> simp [valS]
theorem fitL_le (s : Bool) (l : List Nat) : (fitL s l).length ≤ l.length := by
  unfold fitL
  split
  · exact Nat.le_refl _
  · simp

set_option maxHeartbeats 1000000 in
theorem rNeg_num {w : World} {u : Value} {k : Nat} {Z : Int} (h : NumAt w u k Z) (hk : k ≤ 1000000) :
    Calls Tryz.prog 166 #[u] w fun e w' => AnsAt w' e k (-Z) ∧ Below w.heap.size w w' := by
  have HZB := Lib.hid h.bound
  obtain ⟨s, v, l, rfl, h2, h3, h4⟩ := h
  have HL : Hid (∀ W, Below w.heap.size w W → Lim W v l) := fun W hb => h2.below hb
  have HZ := Lib.hid h3
  have HN : Hid ((fitL s l).length ≤ 1000000) := by have := fitL_le s l; show _ ≤ _; omega
  obtain ⟨a, c, rfl, -⟩ := h2
  obtain ⟨W0, e0, n1, n2, hb0, -, -⟩ := box2 w (.bool s) (.slice a l.length c) (.bool false) (.slice none 0 0)
  have N1 := Lib.hid n1
  have N2 := Lib.hid n2
  have B0 := Lib.hid hb0
  obtain ⟨c0, c1, -, -⟩ := n1
  clear n2 hb0 h3 h4
  go_enter Tryz.func166, Tryz.ntmps166
  go_wp2_with fail
  clear e0
  refine (rFit_any s _ l _ (HL.out _ B0.out)).mono ?_
  rintro e w1 ⟨v1, rfl, hl1, hb1⟩
  have K1 := Lib.hid hl1
  have B1 := Lib.hid (Below.step B0.out hb1)
  have N1' := Lib.hid (N1.out.below hb1)
  have N2' := Lib.hid (N2.out.below hb1)
  obtain ⟨a1, k1, rfl, -⟩ := hl1
  clear hb1 c0 c1 N1 N2
  go_wp2_with fail
  refine (rTwin_any _ _ _ _ K1.out HN.out).mono ?_
  rintro e w2 ⟨⟨v2, rfl, hl2⟩, hb2⟩
  have K2 := Lib.hid hl2
  have B2 := Lib.hid (Below.step B1.out hb2)
  have m1 := N1'.out.below hb2
  have m2 := N2'.out.below hb2
  obtain ⟨a2, k2, rfl, -⟩ := hl2
  clear hb2 N1' N2'
  obtain ⟨W1, e1, M1, P1, Q1, R1⟩ := m1.put (.bool (fitS s l)) (.slice a2 (fitL s l).length k2)
  have B3 := Lib.hid (P1.out _ (Nat.le_refl _) B2.out)
  have K3 := Lib.hid (Q1.out _ _ K2.out)
  have M2 := Lib.hid (R1.out _ _ _ (by simp) m2)
  obtain ⟨d0, d1, f0, f1⟩ := m1
  obtain ⟨g0, g1, -, -⟩ := M1
  clear P1 Q1 R1 m2
  go_wp2_with fail
  clear e1 d0 d1 f0 f1 g0 g1
  refine (rnum_at (!fitS s l) _ _ _ K3.out (fit_small _ _) k (by rw [valS_not, numZ_fit, HZ.out, Int.natAbs_neg]; exact HZB.out)).mono ?_
  rintro e w4 ⟨⟨u4, rfl, h4⟩, hb4⟩
  have H4 := Lib.hid h4
  obtain ⟨s4, a4, n4, c4, rfl, -⟩ := h4.shape
  have hN := (M2.out.below hb4).v
  have N := Lib.hid hN
  obtain ⟨g0, g1, f0, f1⟩ := hN.c2
  have B4 := Lib.hid (Below.step B3.out hb4)
  clear h4 hb4 hN
  go_wp2_with fail
  obtain ⟨W', e, hst, hbx⟩ := N.out.store (ys := [.bool s4, .slice a4 n4 c4]) rfl rfl
  simp only [setAll] at e
  rw [e]
  obtain ⟨k0, k1, -, -⟩ := hbx.c2
  refine bodyPost_ret (v := .agg #[.bool s4, .slice a4 n4 c4]) (by simp [results, Tryz.results166, go_sem, k0, k1]) rfl ⟨⟨_, rfl, ?_⟩, hst.below w (by omega) B4.out⟩
  have h5 := H4.out.stored hst
  rwa [valS_not, numZ_fit, HZ.out] at h5

end Go.Proofs.YtgpoljbccimkjaaGreatDoor

namespace Go.Proofs.YtgpoljbccimkjaaGreatDoor
set_option linter.unusedSimpArgs false
set_option linter.unusedVariables false
open Go.RowKit Go.Shelf

/-- An amount. -/
def IsM (V : Nat) (v : Value) (w : World) : Prop := ∃ l, Lim w v l ∧ (∀ x ∈ l, x < 1000000000) ∧ val l = V
theorem IsM.grows (V : Nat) : Grows (IsM V) := fun _ _ _ h hb => by
  obtain ⟨l, h1, h2, h3⟩ := h
  exact ⟨l, h1.below hb, h2, h3⟩
theorem rnum_m {s : Bool} {u v : Value} {V k : Nat} {Z : Int} {w : World} (hu : u = .bool s) (h : IsM V v w) (hZ : (if s then -(V : Int) else (V : Int)) = Z) (hk : Z.natAbs < 1000000000 ^ k) :
    Calls Tryz.prog 78 #[u, v] w fun e w' => (∃ r, e = .returned r ∧ IsO k Z r w') ∧ Below w.heap.size w w' := by
  subst hu
  obtain ⟨l, h1, h2, h3⟩ := h
  have e : valS s l = Z := by unfold valS; rw [h3]; exact hZ
  have := rnum_at s v l w h1 h2 k (by rw [e]; exact hk)
  rwa [e] at this
theorem rmore_m {u v : Value} {la lb : List Nat} {w : World} (ha : IsL la u w) (hb : IsL lb v w) (h1 : ∀ x ∈ la, x < 1000000000) (h2 : ∀ x ∈ lb, x < 1000000000) (n1 : la.length ≤ 1000000) (n2 : lb.length ≤ 1000000) :
    Calls Tryz.prog 164 #[u, v] w fun e w' => (∃ r, e = .returned r ∧ IsM (val la + val lb) r w') ∧ Below w.heap.size w w' := by
  refine (rmore_any u v la lb w ha hb h1 h2 n1 n2).mono ?_
  rintro e w' ⟨⟨r, L, rfl, h3, h4, h5⟩, h6⟩
  exact ⟨⟨r, rfl, L, h3.lim, h4, h5⟩, h6⟩
theorem rless_m {u v : Value} {la lb : List Nat} {w : World} (ha : IsL la u w) (hb : IsL lb v w) (h1 : ∀ x ∈ la, x < 1000000000) (h2 : ∀ x ∈ lb, x < 1000000000) (t2 : Top lb) (n1 : la.length ≤ 1000000) (hv : val lb ≤ val la) :
    Calls Tryz.prog 165 #[u, v] w fun e w' => (∃ r, e = .returned r ∧ IsM (val la - val lb) r w') ∧ Below w.heap.size w w' := by
  have n2 : lb.length ≤ la.length := by
    rcases Nat.lt_or_ge la.length lb.length with h | h
    · have := val_lt_of_length h1 t2 h
      omega
    · exact h
  refine (rless_any u v la lb w ha hb h1 h2 n1 n2 hv).mono ?_
  rintro e w' ⟨⟨r, L, rfl, h3, h4, h5⟩, h6⟩
  exact ⟨⟨r, rfl, L, h3.lim, h4, h5⟩, h6⟩

set_option maxRecDepth 100000 in
set_option maxHeartbeats 4000000 in
theorem rAdd_num {w : World} {u u' : Value} {k k' : Nat} {Z Z' : Int} (h : NumAt w u k Z) (h' : NumAt w u' k' Z') (hk : k ≤ 1000000) (hk' : k' ≤ 1000000) :
    Calls Tryz.prog 79 #[u, u'] w fun e w' => AnsAt w' e (max k k' + 1) (Z + Z') ∧ Below w.heap.size w w' := by
  have HBD := Lib.hid (bound_add h.bound h'.bound)
  obtain ⟨s, v, l, rfl, hv, hZ, h4⟩ := h
  obtain ⟨s', v', l', rfl, hv', hZ', h4'⟩ := h'
  have HL : Hid (∀ W, Below w.heap.size w W → Lim W v l) := fun W hb => hv.below hb
  have HL' : Hid (∀ W, Below w.heap.size w W → Lim W v' l') := fun W hb => hv'.below hb
  have HZ : Hid (numZ s l = Z ∧ numZ s' l' = Z') := ⟨hZ, hZ'⟩
  have HN : Hid ((fitL s l).length ≤ 1000000 ∧ (fitL s' l').length ≤ 1000000) := by
    have h1 := fitL_le s l
    have h2 := fitL_le s' l'
    exact ⟨by omega, by omega⟩
  obtain ⟨a, c, rfl, -⟩ := hv
  obtain ⟨a', c', rfl, -⟩ := hv'
  obtain ⟨W0, e0, n1, n2, n3, hb0, -⟩ := box3 w (.bool s) (.slice a l.length c) (.bool s') (.slice a' l'.length c') (.bool false) (.slice none 0 0)
  have N1 := Lib.hid n1
  have N2 := Lib.hid n2
  have N3 := Lib.hid n3
  have B0 := Lib.hid hb0
  obtain ⟨c0, c1, -, -⟩ := n1
  clear hb0 n2 n3 hZ hZ' h4 h4' hk hk'
  go_enter Tryz.func79, Tryz.ntmps79
  go_wp2_with fail
  clear e0
  refine (rFit_any s _ l _ (HL.out _ B0.out)).mono ?_
  rintro e w1 ⟨v1, rfl, hl1, hb1⟩
  have K1 := Lib.hid hl1
  obtain ⟨a1, k1, rfl, -⟩ := hl1
  have m1 := N1.out.below hb1
  have m2 := N2.out.below hb1
  have m3 := N3.out.below hb1
  have B1 := Lib.hid (Below.step B0.out hb1)
  clear hb1 c0 c1
  obtain ⟨W1, e1, M1, P1, Q1, R1⟩ := m1.put (.bool (fitS s l)) (.slice a1 (fitL s l).length k1)
  have B1' := Lib.hid (P1.out _ (Nat.le_refl _) B1.out)
  have K1' := Lib.hid (Q1.out _ _ K1.out)
  have hM2 := R1.out _ _ _ (by simp) m2
  have M2 := Lib.hid hM2
  have M3 := Lib.hid (R1.out _ _ _ (by simp) m3)
  have M1' := Lib.hid M1
  obtain ⟨d0, d1, f0, f1⟩ := m1
  obtain ⟨d2, d3, f2, f3⟩ := hM2
  obtain ⟨g0, g1, -, -⟩ := M1
  clear P1 Q1 R1 m2 m3
  go_wp2_with fail
  clear e1 d0 d1 f0 f1 d2 d3 f2 f3 g0 g1
  refine (rFit_any s' _ l' _ (HL'.out _ B1'.out)).mono ?_
  rintro e w2 ⟨v2, rfl, hl2, hb2⟩
  have K2 := Lib.hid hl2
  obtain ⟨a2, k2, rfl, -⟩ := hl2
  have K1'' := Lib.hid (K1'.out.below hb2)
  have m1 := M1'.out.below hb2
  have m2 := M2.out.below hb2
  have m3 := M3.out.below hb2
  have B2 := Lib.hid (Below.step B1'.out hb2)
  obtain ⟨W2, e2, q2, P2, Q2, R2⟩ := m2.put (.bool (fitS s' l')) (.slice a2 (fitL s' l').length k2)
  have HB := Lib.hid (P2.out _ (Nat.le_succ _) B2.out)
  have h1 := Q2.out _ _ K1''.out
  have h2 := Q2.out _ _ K2.out
  have G1 := Lib.hid h1
  have G2 := Lib.hid h2
  have H1 : Hid (∀ W, Below W2.heap.size W2 W → Lim W _ _) := fun W hb => h1.below hb
  have H2 : Hid (∀ W, Below W2.heap.size W2 W → Lim W _ _) := fun W hb => h2.below hb
  have q1 := R2.out _ _ _ (by simp) m1
  have M1 := q1.v.keep
  have M2 := q2.v.keep
  have M3 := (R2.out _ _ _ (by simp) m3).v.keep
  obtain ⟨d0, d1, -, -⟩ := q1
  obtain ⟨d2, d3, f2, f3⟩ := m2
  obtain ⟨g0, g1, -, -⟩ := q2
  clear hb2 P2 Q2 R2 m1 m3 h1 h2 N1 N2 N3
  by_cases hs : fitS s l = fitS s' l'
  · have hsb : (fitS s l == fitS s' l') = true := by rw [hs]; simp
    have HV : Hid ((if fitS s l then -((val (fitL s l) + val (fitL s' l') : Nat) : Int) else ((val (fitL s l) + val (fitL s' l') : Nat) : Int)) = Z + Z') := by
      show _ = _
      rw [← HZ.out.1, ← HZ.out.2]
      cases h : fitS s l with
      | true => rw [numZ_true h, numZ_true (hs.symm.trans h)]; simp; omega
      | false => rw [numZ_false h, numZ_false (hs.symm.trans h)]; simp
    clear hs
    go_upto_region 4 with fail
    rename_i K9 hK9
    refine wp_region_tail []
      [(2, IsV (.pointer (some ⟨w.heap.size, 0, none⟩))), (3, IsV (.pointer (some ⟨w.heap.size + 1, 0, none⟩))), (4, IsV (.pointer (some ⟨w.heap.size + 1 + 1, 0, none⟩)))]
      [(14, IsV (.pointer (some ⟨w.heap.size, 0, none⟩))), (15, IsV (.bool (fitS s l))), (16, IsV (.pointer (some ⟨w.heap.size, 0 + 1, none⟩))), (17, IsL (fitL s l)), (18, IsV (.pointer (some ⟨w.heap.size + 1, 0 + 1, none⟩))), (19, IsL (fitL s' l')), (20, IsM (val (fitL s l) + val (fitL s' l'))), (21, IsO (max k k' + 1) (Z + Z'))]
      [] 44 8 (by kernel_rfl) rfl (by kernel_rfl) (by kernel_rfl) (by kernel_rfl) (by kernel_rfl) ⟨rfl, rfl, rfl, trivial⟩ ⟨IsV.grows _, IsV.grows _, IsV.grows _, IsV.grows _, IsV.grows _, IsV.grows _, IsL.grows _, IsV.grows _, IsL.grows _, IsM.grows _, IsO.grows _ _, trivial⟩ ?_ (fun d _ _ _ _ h => by cases d <;> exact h) ?_ ?_
    · refine AllStep2.step rfl rfl (step_fieldT (fun _ _ h => h) (fun _ => run_sgn) (fun _ => rfl)) ?_
      refine AllStep2.step rfl rfl (step_loadT (fun _ _ h => h) (fun W hb => run_loadB (M1.out W hb).at0) (fun w hb => rfl)) ?_
      refine AllStep2.step rfl rfl (step_fieldT (fun _ _ h => h) (fun _ => run_dig) (fun _ => rfl)) ?_
      refine AllStep2.step rfl rfl (step_loadT (fun _ _ h => h) (fun W hb => run_loadS (M1.out W hb).at1) (fun w hb => H1.out w hb)) ?_
      refine AllStep2.step rfl rfl (step_fieldT (fun _ _ h => h) (fun _ => run_dig) (fun _ => rfl)) ?_
      refine AllStep2.step rfl rfl (step_loadT (fun _ _ h => h) (fun W hb => run_loadS (M2.out W hb).at1) (fun w hb => H2.out w hb)) ?_
      refine AllStep2.step rfl rfl (step_call2 (Plain.of Tryz.func164 rfl rfl) (fun _ _ _ _ hu hv => rmore_m hu hv (fit_small _ _) (fit_small _ _) HN.out.1 HN.out.2)) ?_
      refine AllStep2.step rfl rfl (step_call2 (Plain.of Tryz.func78 rfl rfl) (fun _ _ _ _ hu hv => rnum_m hu hv HV.out HBD.out)) ?_
      exact AllStep2.nil
    · intro t ht v w hk
      simp only [List.mem_cons, List.not_mem_nil, or_false] at ht
    intro a3 w3 hb3 hs3 hd3 hk3 _
    have hz : OkAt w3 (a3.eval (.tmp 21)) (max k k' + 1) (Z + Z') := hk3 21 (by kernel_rfl)
    have h2 : a3.eval (.tmp 4) = .pointer (some ⟨w.heap.size + 1 + 1, 0, none⟩) := hk3 4 (by kernel_rfl)
    obtain ⟨z1, p1, i1, j1, ez⟩ := OkAt.agg hz
    have hz' : OkAt w3 (.agg #[.bool z1, .slice p1 i1 j1]) (max k k' + 1) (Z + Z') := by rw [← ez]; exact hz
    have N := M3.out _ hb3
    obtain ⟨W', e, hst, hbx⟩ := N.store (ys := [.bool z1, .slice p1 i1 j1]) rfl rfl
    refine wpOps_step (i := 8) (rest := []) rfl rfl ?_
    refine wp_store_T h2 ez (run_store2 N) ?_
    rw [e]
    refine hK9 _ _ ?_
    refine wp_ret ?_
    have hfin : bodyPost Tryz.prog Tryz.f79 (fun e w' => AnsAt w' e (max k k' + 1) (Z + Z') ∧ Below w.heap.size w w') .ret a3 W' := ret_nm (t := 4) rfl hd3 h2 hbx ⟨⟨_, rfl, hz'.stored hst⟩, hst.below w (by omega) (Below.step HB.out hb3)⟩
    exact hfin
  · have hsb : (fitS s l == fitS s' l') = false := by rw [beq_eq_false_iff_ne]; exact hs
    have HS := Lib.hid hs
    clear hs
    go_wp2_with fail
    refine (rorder_val _ _ _ _ _ G1.out G2.out (fit_small _ _) (fit_small _ _) (fit_top _ _) (fit_top _ _)).mono ?_
    rintro e w' ⟨rfl, hb⟩
    have HB := Lib.hid (Below.step HB.out hb)
    have H1 := Lib.hid (fun W hb' => H1.out W (Below.step hb hb'))
    have H2 := Lib.hid (fun W hb' => H2.out W (Below.step hb hb'))
    have M1 := (M1.out _ hb).keep
    have M2 := (M2.out _ hb).keep
    have M3 := (M3.out _ hb).keep
    clear hb d0 d1 d2 d3 f2 f3 g0 g1 e2
    by_cases hlt : val (fitL s l) < val (fitL s' l')
    · have hc : cmpI (val (fitL s l)) (val (fitL s' l')) = -1 := cmpI_lt (by omega)
      rw [hc]
      have HO := Lib.hid hlt
      have HV : Hid ((if fitS s' l' then -((val (fitL s' l') - val (fitL s l) : Nat) : Int) else ((val (fitL s' l') - val (fitL s l) : Nat) : Int)) = Z + Z') := by
        show _ = _
        rw [← HZ.out.1, ← HZ.out.2]
        cases h : fitS s l <;> cases h' : fitS s' l'
        · exact (HS.out (h.trans h'.symm)).elim
        · rw [numZ_false h, numZ_true h']; simp; omega
        · rw [numZ_true h, numZ_false h']; simp; omega
        · exact (HS.out (h.trans h'.symm)).elim
      clear hlt hc
      go_upto_region 6 with fail
      rename_i K9 hK9
      refine wp_region_tail []
        [(2, IsV (.pointer (some ⟨w.heap.size, 0, none⟩))), (3, IsV (.pointer (some ⟨w.heap.size + 1, 0, none⟩))), (4, IsV (.pointer (some ⟨w.heap.size + 1 + 1, 0, none⟩)))]
        [(28, IsV (.pointer (some ⟨w.heap.size + 1, 0, none⟩))), (29, IsV (.bool (fitS s' l'))), (30, IsV (.pointer (some ⟨w.heap.size + 1, 0 + 1, none⟩))), (31, IsL (fitL s' l')), (32, IsV (.pointer (some ⟨w.heap.size, 0 + 1, none⟩))), (33, IsL (fitL s l)), (34, IsM (val (fitL s' l') - val (fitL s l))), (35, IsO (max k k' + 1) (Z + Z'))]
        [] 44 8 (by kernel_rfl) rfl (by kernel_rfl) (by kernel_rfl) (by kernel_rfl) (by kernel_rfl) ⟨rfl, rfl, rfl, trivial⟩ ⟨IsV.grows _, IsV.grows _, IsV.grows _, IsV.grows _, IsV.grows _, IsV.grows _, IsL.grows _, IsV.grows _, IsL.grows _, IsM.grows _, IsO.grows _ _, trivial⟩ ?_ (fun d _ _ _ _ h => by cases d <;> exact h) ?_ ?_
      · refine AllStep2.step rfl rfl (step_fieldT (fun _ _ h => h) (fun _ => run_sgn) (fun _ => rfl)) ?_
        refine AllStep2.step rfl rfl (step_loadT (fun _ _ h => h) (fun W hb => run_loadB (M2.out W hb).at0) (fun w hb => rfl)) ?_
        refine AllStep2.step rfl rfl (step_fieldT (fun _ _ h => h) (fun _ => run_dig) (fun _ => rfl)) ?_
        refine AllStep2.step rfl rfl (step_loadT (fun _ _ h => h) (fun W hb => run_loadS (M2.out W hb).at1) (fun w hb => H2.out w hb)) ?_
        refine AllStep2.step rfl rfl (step_fieldT (fun _ _ h => h) (fun _ => run_dig) (fun _ => rfl)) ?_
        refine AllStep2.step rfl rfl (step_loadT (fun _ _ h => h) (fun W hb => run_loadS (M1.out W hb).at1) (fun w hb => H1.out w hb)) ?_
        refine AllStep2.step rfl rfl (step_call2 (Plain.of Tryz.func165 rfl rfl) (fun _ _ _ _ hu hv => rless_m hu hv (fit_small _ _) (fit_small _ _) (fit_top _ _) HN.out.2 (Nat.le_of_lt HO.out))) ?_
        refine AllStep2.step rfl rfl (step_call2 (Plain.of Tryz.func78 rfl rfl) (fun _ _ _ _ hu hv => rnum_m hu hv HV.out HBD.out)) ?_
        exact AllStep2.nil
      · intro t ht v w hk
        simp only [List.mem_cons, List.not_mem_nil, or_false] at ht
      intro a3 w3 hb3 hs3 hd3 hk3 _
      have hz : OkAt w3 (a3.eval (.tmp 35)) (max k k' + 1) (Z + Z') := hk3 35 (by kernel_rfl)
      have h2 : a3.eval (.tmp 4) = .pointer (some ⟨w.heap.size + 1 + 1, 0, none⟩) := hk3 4 (by kernel_rfl)
      obtain ⟨z1, p1, i1, j1, ez⟩ := OkAt.agg hz
      have hz' : OkAt w3 (.agg #[.bool z1, .slice p1 i1 j1]) (max k k' + 1) (Z + Z') := by rw [← ez]; exact hz
      have N := M3.out _ hb3
      obtain ⟨W', e, hst, hbx⟩ := N.store (ys := [.bool z1, .slice p1 i1 j1]) rfl rfl
      refine wpOps_step (i := 8) (rest := []) rfl rfl ?_
      refine wp_store_T h2 ez (run_store2 N) ?_
      rw [e]
      refine hK9 _ _ ?_
      refine wp_ret ?_
      have hfin : bodyPost Tryz.prog Tryz.f79 (fun e w' => AnsAt w' e (max k k' + 1) (Z + Z') ∧ Below w.heap.size w w') .ret a3 W' := ret_nm (t := 4) rfl hd3 h2 hbx ⟨⟨_, rfl, hz'.stored hst⟩, hst.below w (by omega) (Below.step HB.out hb3)⟩
      exact hfin
    · have hc : cmpI (val (fitL s l)) (val (fitL s' l')) = 0 ∨ cmpI (val (fitL s l)) (val (fitL s' l')) = 1 := by
        rcases Nat.lt_or_ge (val (fitL s' l')) (val (fitL s l)) with h | h
        · exact .inr (cmpI_gt (by omega))
        · exact .inl (cmpI_eq (by omega))
      have HO : Hid (val (fitL s' l') ≤ val (fitL s l)) := Nat.not_lt.1 hlt
      have HV : Hid ((if fitS s l then -((val (fitL s l) - val (fitL s' l') : Nat) : Int) else ((val (fitL s l) - val (fitL s' l') : Nat) : Int)) = Z + Z') := by
        show _ = _
        rw [← HZ.out.1, ← HZ.out.2]
        have := HO.out
        cases h : fitS s l <;> cases h' : fitS s' l'
        · exact (HS.out (h.trans h'.symm)).elim
        · rw [numZ_false h, numZ_true h']; simp; omega
        · rw [numZ_true h, numZ_false h']; simp; omega
        · exact (HS.out (h.trans h'.symm)).elim
      have hcI : decide (cmpI (val (fitL s l)) (val (fitL s' l')) < 0) = false := by
        rcases hc with h | h <;> rw [h] <;> rfl
      clear hlt hc
      go_upto_region 7 with fail
      rename_i K9 hK9
      refine wp_region_tail []
        [(2, IsV (.pointer (some ⟨w.heap.size, 0, none⟩))), (3, IsV (.pointer (some ⟨w.heap.size + 1, 0, none⟩))), (4, IsV (.pointer (some ⟨w.heap.size + 1 + 1, 0, none⟩)))]
        [(36, IsV (.pointer (some ⟨w.heap.size, 0, none⟩))), (37, IsV (.bool (fitS s l))), (38, IsV (.pointer (some ⟨w.heap.size, 0 + 1, none⟩))), (39, IsL (fitL s l)), (40, IsV (.pointer (some ⟨w.heap.size + 1, 0 + 1, none⟩))), (41, IsL (fitL s' l')), (42, IsM (val (fitL s l) - val (fitL s' l'))), (43, IsO (max k k' + 1) (Z + Z'))]
        [] 44 8 (by kernel_rfl) rfl (by kernel_rfl) (by kernel_rfl) (by kernel_rfl) (by kernel_rfl) ⟨rfl, rfl, rfl, trivial⟩ ⟨IsV.grows _, IsV.grows _, IsV.grows _, IsV.grows _, IsV.grows _, IsV.grows _, IsL.grows _, IsV.grows _, IsL.grows _, IsM.grows _, IsO.grows _ _, trivial⟩ ?_ (fun d _ _ _ _ h => by cases d <;> exact h) ?_ ?_
      · refine AllStep2.step rfl rfl (step_fieldT (fun _ _ h => h) (fun _ => run_sgn) (fun _ => rfl)) ?_
        refine AllStep2.step rfl rfl (step_loadT (fun _ _ h => h) (fun W hb => run_loadB (M1.out W hb).at0) (fun w hb => rfl)) ?_
        refine AllStep2.step rfl rfl (step_fieldT (fun _ _ h => h) (fun _ => run_dig) (fun _ => rfl)) ?_
        refine AllStep2.step rfl rfl (step_loadT (fun _ _ h => h) (fun W hb => run_loadS (M1.out W hb).at1) (fun w hb => H1.out w hb)) ?_
        refine AllStep2.step rfl rfl (step_fieldT (fun _ _ h => h) (fun _ => run_dig) (fun _ => rfl)) ?_
        refine AllStep2.step rfl rfl (step_loadT (fun _ _ h => h) (fun W hb => run_loadS (M2.out W hb).at1) (fun w hb => H2.out w hb)) ?_
        refine AllStep2.step rfl rfl (step_call2 (Plain.of Tryz.func165 rfl rfl) (fun _ _ _ _ hu hv => rless_m hu hv (fit_small _ _) (fit_small _ _) (fit_top _ _) HN.out.1 HO.out)) ?_
        refine AllStep2.step rfl rfl (step_call2 (Plain.of Tryz.func78 rfl rfl) (fun _ _ _ _ hu hv => rnum_m hu hv HV.out HBD.out)) ?_
        exact AllStep2.nil
      · intro t ht v w hk
        simp only [List.mem_cons, List.not_mem_nil, or_false] at ht
      intro a3 w3 hb3 hs3 hd3 hk3 _
      have hz : OkAt w3 (a3.eval (.tmp 43)) (max k k' + 1) (Z + Z') := hk3 43 (by kernel_rfl)
      have h2 : a3.eval (.tmp 4) = .pointer (some ⟨w.heap.size + 1 + 1, 0, none⟩) := hk3 4 (by kernel_rfl)
      obtain ⟨z1, p1, i1, j1, ez⟩ := OkAt.agg hz
      have hz' : OkAt w3 (.agg #[.bool z1, .slice p1 i1 j1]) (max k k' + 1) (Z + Z') := by rw [← ez]; exact hz
      have N := M3.out _ hb3
      obtain ⟨W', e, hst, hbx⟩ := N.store (ys := [.bool z1, .slice p1 i1 j1]) rfl rfl
      refine wpOps_step (i := 8) (rest := []) rfl rfl ?_
      refine wp_store_T h2 ez (run_store2 N) ?_
      rw [e]
      refine hK9 _ _ ?_
      refine wp_ret ?_
      have hfin : bodyPost Tryz.prog Tryz.f79 (fun e w' => AnsAt w' e (max k k' + 1) (Z + Z') ∧ Below w.heap.size w w') .ret a3 W' := ret_nm (t := 4) rfl hd3 h2 hbx ⟨⟨_, rfl, hz'.stored hst⟩, hst.below w (by omega) (Below.step HB.out hb3)⟩
      exact hfin

end Go.Proofs.YtgpoljbccimkjaaGreatDoor
