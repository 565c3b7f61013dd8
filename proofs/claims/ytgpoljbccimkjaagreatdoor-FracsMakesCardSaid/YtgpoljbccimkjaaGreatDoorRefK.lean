/- Walks of the reference of layer 1: the product of two numbers. -/
import Derived.Test.YtgpoljbccimkjaaGreatDoorRefH
import Derived.Test.YtgpoljbccimkjaaGreatDoorDivMath
import Derived.Test.YtgpoljbccimkjaaGreatDoorNearMath
import Derived.Test.YtgpoljbccimkjaaGreatDoorDivide2
namespace Go.Proofs.YtgpoljbccimkjaaGreatDoor
set_option linter.unusedSimpArgs false
set_option linter.unusedVariables false
open Go.RowKit Go.Shelf

set_option maxRecDepth 100000 in
set_option maxHeartbeats 4000000 in
theorem rSub_num {w : World} {u u' : Value} {k k' : Nat} {Z Z' : Int} (h : NumAt w u k Z) (h' : NumAt w u' k' Z') (hk : k ≤ 1000000) (hk' : k' ≤ 1000000) :
    Calls Tryz.prog 80 #[u, u'] w fun e w' => AnsAt w' e (max k k' + 1) (Z - Z') ∧ Below w.heap.size w w' := by
  have HK : Hid (k ≤ 1000000 ∧ k' ≤ 1000000) := ⟨hk, hk'⟩
  have HA := h.keep
  have HB := h'.keep
  obtain ⟨s, v, l, rfl, hv, -, -⟩ := h
  obtain ⟨s', v', l', rfl, hv', -, -⟩ := h'
  obtain ⟨a, c, rfl, -⟩ := hv
  obtain ⟨a', c', rfl, -⟩ := hv'
  obtain ⟨W0, e0, n1, n2, n3, hb0, -⟩ := box3 w (.bool s) (.slice a l.length c) (.bool s') (.slice a' l'.length c') (.bool false) (.slice none 0 0)
  have N1 := n1.v.keep
  have N2 := n2.v.keep
  have N3 := n3.v.keep
  have B0 := Lib.hid hb0
  have HA0 := Lib.hid (fun W hb => HA.out W (Below.step hb0 hb))
  have HB0 := Lib.hid (fun W hb => HB.out W (Below.step hb0 hb))
  clear hb0 n1 n2 n3 hk hk' HA HB
  go_enter Tryz.func80, Tryz.ntmps80
  go_upto_region 1 with fail
  clear e0
  rename_i K9 hK9
  refine wp_region_tail []
    [(2, IsV (.pointer (some ⟨w.heap.size, 0, none⟩))), (3, IsV (.pointer (some ⟨w.heap.size + 1, 0, none⟩))), (4, IsV (.pointer (some ⟨w.heap.size + 1 + 1, 0, none⟩)))]
    [(5, IsN k Z), (6, IsN k' Z'), (7, IsO k' (-Z')), (8, IsO (max k k' + 1) (Z + -Z'))]
    [] 9 4 (by kernel_rfl) rfl (by kernel_rfl) (by kernel_rfl) (by kernel_rfl) (by kernel_rfl) ⟨rfl, rfl, rfl, trivial⟩ ⟨IsV.grows _, IsV.grows _, IsV.grows _, IsN.grows _ _, IsN.grows _ _, IsO.grows _ _, IsO.grows _ _, trivial⟩ ?_ (fun d _ _ _ _ h => by cases d <;> exact h) ?_ ?_
  · refine AllStep2.step rfl rfl (step_loadT (fun _ _ h => h) (fun W hb => run_load2 rfl (N1.out W hb).at0 (N1.out W hb).at1) (fun w hb => HA0.out w hb)) ?_
    refine AllStep2.step rfl rfl (step_loadT (fun _ _ h => h) (fun W hb => run_load2 rfl (N2.out W hb).at0 (N2.out W hb).at1) (fun w hb => HB0.out w hb)) ?_
    refine AllStep2.step rfl rfl (step_call1 (Plain.of Tryz.func166 rfl rfl) (fun _ _ _ hu => rNeg_num hu HK.out.2)) ?_
    refine AllStep2.step rfl rfl (step_call2 (Plain.of Tryz.func79 rfl rfl) (fun _ _ _ _ hu hv => rAdd_num hu (OkAt.num hv) HK.out.1 HK.out.2)) ?_
    exact AllStep2.nil
  · intro t ht v w hk
    simp only [List.mem_cons, List.not_mem_nil, or_false] at ht
  intro a3 w3 hb3 hs3 hd3 hk3 _
  have hz : OkAt w3 (a3.eval (.tmp 8)) (max k k' + 1) (Z + -Z') := hk3 8 (by kernel_rfl)
  have h2 : a3.eval (.tmp 4) = .pointer (some ⟨w.heap.size + 1 + 1, 0, none⟩) := hk3 4 (by kernel_rfl)
  obtain ⟨z1, p1, i1, j1, ez⟩ := OkAt.agg hz
  have hz' : OkAt w3 (.agg #[.bool z1, .slice p1 i1 j1]) (max k k' + 1) (Z - Z') := by rw [← ez, Int.sub_eq_add_neg]; exact hz
  have N := N3.out _ hb3
  obtain ⟨W', e, hst, hbx⟩ := N.store (ys := [.bool z1, .slice p1 i1 j1]) rfl rfl
  refine wpOps_step (i := 4) (rest := []) rfl rfl ?_
  refine wp_store_T h2 ez (run_store2 N) ?_
  rw [e]
  refine hK9 _ _ ?_
  refine wp_ret ?_
  exact ret_nm (t := 4) rfl hd3 h2 hbx ⟨⟨_, rfl, hz'.stored hst⟩, hst.below w (by omega) (Below.step B0.out hb3)⟩

end Go.Proofs.YtgpoljbccimkjaaGreatDoor

namespace Go.Proofs.YtgpoljbccimkjaaGreatDoor
set_option linter.unusedSimpArgs false
set_option linter.unusedVariables false

theorem val_put {l : List Nat} {i t : Nat} (hi : i < l.length) : val (l.set i t) + 1000000000 ^ i * pt l i = val l + 1000000000 ^ i * t := by
  have h0 : pt (l.set i 0) i = 0 := by unfold pt; simp [List.getD_eq_getElem?_getD, hi]
  have h1 := val_set (l := l.set i 0) (i := i) (t := t) (by simpa using hi) h0
  have h2 := val_set (l := l.set i 0) (i := i) (t := pt l i) (by simpa using hi) h0
  rw [List.set_set] at h1 h2
  have h3 : l.set i (pt l i) = l := by rw [pt_getElem hi]; exact List.set_getElem_self hi
  rw [h3] at h2
  omega
theorem pt_set_self {l : List Nat} {i t : Nat} (hi : i < l.length) : pt (l.set i t) i = t := by
  unfold pt; simp [List.getD_eq_getElem?_getD, hi]
theorem small_set {l : List Nat} {i t : Nat} (h : ∀ x ∈ l, x < 1000000000) (ht : t < 1000000000) : ∀ x ∈ l.set i t, x < 1000000000 := fun x hx => by
  rcases List.mem_or_eq_of_mem_set hx with h1 | h1
  · exact h x h1
  · rw [h1]; exact ht

/-- Ahead of a round of the outer loop. -/
def OInv (la lb : List Nat) (i : Nat) (L : List Nat) : Prop :=
  L.length = la.length + lb.length ∧ (∀ x ∈ L, x < 1000000000) ∧ (∀ j, i + lb.length ≤ j → pt L j = 0) ∧ val L = val (la.take i) * val lb
/-- Ahead of a round of the inner one. -/
def TInv (la lb L0 : List Nat) (i k cy : Nat) (L : List Nat) : Prop :=
  L.length = la.length + lb.length ∧ (∀ x ∈ L, x < 1000000000) ∧ cy < 1000000000 ∧ (∀ j, i + k ≤ j → pt L j = pt L0 j) ∧ val L + 1000000000 ^ (i + k) * cy = val L0 + 1000000000 ^ i * (pt la i * val (lb.take k))

theorem OInv.start (la lb : List Nat) : OInv la lb 0 (List.replicate (la.length + lb.length) 0) := by
  have h0 : ∀ j, pt (List.replicate (la.length + lb.length) 0) j = 0 := fun j => by unfold pt; simp [List.getD_eq_getElem?_getD, List.getElem?_replicate]; split <;> rfl
  exact ⟨by simp, fun x hx => by rw [List.mem_replicate] at hx; omega, fun j _ => h0 j, by rw [val_zero h0]; simp [val]⟩
theorem OInv.inner {la lb L : List Nat} {i : Nat} (h : OInv la lb i L) : TInv la lb L i 0 0 L :=
  ⟨h.1, h.2.1, by decide, fun _ _ => rfl, by simp [val]⟩
theorem TInv.step {la lb L0 L : List Nat} {i k cy t : Nat} (h : TInv la lb L0 i k cy L) (hi : i < la.length) (hk : k < lb.length) (ha : pt la i < 1000000000) (hb : pt lb k < 1000000000) (ht : t = cy + pt la i * pt lb k + pt L (i + k)) :
    TInv la lb L0 i (k + 1) (t / 1000000000) (L.set (i + k) (t % 1000000000)) := by
  obtain ⟨h1, h2, h3, h4, h5⟩ := h
  have hlt : i + k < L.length := by omega
  have hp := pt_lt (by decide) h2 (i + k)
  have hm : pt la i * pt lb k ≤ 999999999 * 999999999 := Nat.mul_le_mul (by omega) (by omega)
  refine ⟨by simpa using h1, small_set h2 (Nat.mod_lt _ (by decide)), ?_, fun j hj => ?_, ?_⟩
  · rw [Nat.div_lt_iff_lt_mul (by decide)]
    omega
  · rw [pt_set_ne (by omega)]
    exact h4 j (by omega)
  · have e := val_put (t := t % 1000000000) hlt
    have h6 := Nat.div_add_mod t 1000000000
    have h7 : 1000000000 ^ (i + k) * (t % 1000000000) + 1000000000 ^ (i + (k + 1)) * (t / 1000000000) = 1000000000 ^ (i + k) * t := by
      rw [← Nat.add_assoc, Nat.pow_succ, Nat.mul_assoc, ← Nat.mul_add]
      congr 1
      omega
    have h8 : 1000000000 ^ (i + k) * t = 1000000000 ^ (i + k) * cy + 1000000000 ^ (i + k) * (pt la i * pt lb k) + 1000000000 ^ (i + k) * pt L (i + k) := by rw [ht, Nat.mul_add, Nat.mul_add]
    have h9 : 1000000000 ^ i * (pt la i * val (lb.take (k + 1))) = 1000000000 ^ i * (pt la i * val (lb.take k)) + 1000000000 ^ (i + k) * (pt la i * pt lb k) := by
      rw [val_take_succ, Nat.pow_add]
      grind
    omega
theorem TInv.last {la lb L0 L : List Nat} {i cy : Nat} (h : TInv la lb L0 i lb.length cy L) (h0 : OInv la lb i L0) (hi : i < la.length) : OInv la lb (i + 1) (L.set (i + lb.length) cy) := by
  obtain ⟨h1, h2, h3, h4, h5⟩ := h
  obtain ⟨g1, g2, g3, g4⟩ := h0
  have hlt : i + lb.length < L.length := by omega
  refine ⟨by simpa using h1, small_set h2 h3, fun j hj => ?_, ?_⟩
  · rw [pt_set_ne (by omega), h4 j (by omega)]
    exact g3 j (by omega)
  · have e := val_put (t := cy) hlt
    rw [h4 _ (Nat.le_refl _), g3 _ (Nat.le_refl _)] at e
    rw [List.take_of_length_le (Nat.le_refl _), g4] at h5
    rw [val_take_succ]
    have h6 : (val (la.take i) + 1000000000 ^ i * pt la i) * val lb = val (la.take i) * val lb + 1000000000 ^ i * (pt la i * val lb) := by rw [Nat.add_mul, Nat.mul_assoc]
    omega
theorem OInv.done {la lb L : List Nat} (h : OInv la lb la.length L) : val L = val la * val lb := by
  have := h.2.2.2
  rwa [List.take_of_length_le (Nat.le_refl _)] at this

end Go.Proofs.YtgpoljbccimkjaaGreatDoor

namespace Go.Proofs.YtgpoljbccimkjaaGreatDoor
set_option linter.unusedSimpArgs false
set_option linter.unusedVariables false
open Go.RowKit Go.Shelf

/-- A cell of an argument, as long as what lies below is kept. -/
theorem Lim.at {w : World} {a : Option Addr} {n c : Nat} {l : List Nat} (h : Lim w (.slice a n c) l) : Hid (∀ i, i < l.length → ∃ b o, a = some ⟨b, o, none⟩ ∧ b < w.heap.size ∧ ∀ W, Below w.heap.size w W → W.cell? ⟨b, o + i, none⟩ = some (.int .u32 (pt l i))) := by
  obtain ⟨a', c', he, p1, p2, p3, p4⟩ := h
  injection he with e1 e2 e3
  subst e1
  intro i hi
  rcases p4 with ⟨_, rfl, _⟩ | ⟨b, o, rfl, hc⟩
  · simp at hi
  · have hb := World.block_lt_of_cell? w _ (hc i hi)
    exact ⟨b, o, rfl, hb, fun W hB => by rw [hB.cell (p := ⟨b, o + i, none⟩) hb]; exact hc i hi⟩

set_option maxRecDepth 100000 in
set_option maxHeartbeats 4000000 in
theorem rtimes_any (va vb : Value) (la lb : List Nat) (w : World) (ha : Lim w va la) (hb : Lim w vb lb) (h1 : ∀ x ∈ la, x < 1000000000) (h2 : ∀ x ∈ lb, x < 1000000000) (n1 : la.length ≤ 1000000) (n2 : lb.length ≤ 1000000) :
    Calls Tryz.prog 200 #[va, vb] w fun e w' => (∃ v L, e = .returned v ∧ OwnL w.heap.size w' v L ∧ (∀ x ∈ L, x < 1000000000) ∧ val L = val la * val lb) ∧ Below w.heap.size w w' := by
  have HPA : Hid (∀ k, pt la k < 1000000000) := fun k => pt_lt (by decide) h1 k
  have HPB : Hid (∀ k, pt lb k < 1000000000) := fun k => pt_lt (by decide) h2 k
  have ha' := ha
  have hb' := hb
  obtain ⟨a, c, rfl, a1, a2, -⟩ := ha
  obtain ⟨a', c', rfl, b1, b2, -⟩ := hb
  have HC := ha'.at
  have HC' := hb'.at
  unfold maxLen at a2 b2
  clear ha' hb' h1 h2
  go_enter Tryz.func200, Tryz.ntmps200
  have hmk := run_make_u32 ((la.length : Int) + (lb.length : Int)) (la.length + lb.length) (by omega) (by omega)
  go_wp2_with fail
  obtain ⟨W1, e1, m3, m4⟩ : ∃ W1, w.alloc (.cells (madeCells #[.int .u32 0] (la.length + lb.length)) 99) = W1 ∧ Hid (Front W1 w.heap.size (la.length + lb.length) (List.replicate (la.length + lb.length) 0)) ∧ Hid (Below w.heap.size w W1) :=
    ⟨_, rfl, ⟨_, CellsAt.new _ _ _, by rw [← Array.length_toList, made_list, u32s_length]; simp, by simp, by rw [made_list, List.take_of_length_le (by rw [u32s_length]; simp)]⟩, (show Below w.heap.size w _ from (by repeat (first | exact Below.refl _ _ | with_reducible refine Below.drew ?_ | with_reducible refine below_drewN ?_ _ | with_reducible refine Below.setCell ?_ (by first | (simp; done) | (simp; omega) | omega) _ | with_reducible refine Below.alloc ?_ (by first | (simp; done) | (simp; omega) | omega) _)))⟩
  rw [e1]
  clear e1 hmk
  go_loopw [6] (fun i wr => ∃ (k : Nat) (L : List Nat), k ≤ la.length ∧ i = .int .i64 k ∧ OInv la lb k L ∧ Front wr w.heap.size (la.length + lb.length) L ∧ Below w.heap.size w wr) (fun i _ => la.length - (intOf i).toNat)
  case atStart => exact ⟨0, _, Nat.zero_le _, rfl, OInv.start la lb, m3.out, m4.out⟩
  case round =>
    obtain ⟨i, L, hik, rfl, hI, hF, hB⟩ := hrel
    have HI := Lib.hid hI
    have HF := Lib.hid hF
    have HB := Lib.hid hB
    clear hI hF hB m3 m4
    by_cases hlt : i < la.length
    · obtain ⟨b, o, rfl, hbl, hcA⟩ := HC.out i hlt
      have HCA := Lib.hid hcA
      have HBL := Lib.hid hbl
      clear hcA hbl
      have hltI : (i : Int) < (la.length : Int) := by omega
      go_wp2_with fail
      go_loopw [7, 8] (fun n kk wr2 => ∃ (k cy : Nat) (M : List Nat), k ≤ lb.length ∧ kk = .int .i64 k ∧ n = .int .u64 cy ∧ TInv la lb L i k cy M ∧ Front wr2 w.heap.size (la.length + lb.length) M ∧ Below w.heap.size w wr2) (fun _ kk _ => lb.length - (intOf kk).toNat)
      case atStart => exact ⟨0, 0, L, Nat.zero_le _, rfl, rfl, HI.out.inner, HF.out, HB.out⟩
      case round =>
        obtain ⟨k, cy, M, hkk, rfl, rfl, hT, hF2, hB2⟩ := hrel
        have HT := Lib.hid hT
        have HF2 := Lib.hid hF2
        have HB2 := Lib.hid hB2
        have hcy : cy < 1000000000 := hT.2.2.1
        have hMl : M.length = la.length + lb.length := hT.1
        have HPM : Hid (∀ k, pt M k < 1000000000) := fun k => pt_lt (by decide) hT.2.1 k
        clear hT hF2 hB2
        by_cases hlk : k < lb.length
        · obtain ⟨b', o', rfl, -, hcB⟩ := HC'.out k hlk
          have hltK : (k : Int) < (lb.length : Int) := by omega
          have hc1 := HCA.out _ HB2.out
          have hc2 := hcB _ HB2.out
          have hc3 := HF2.out.cell (i := i + k) (by omega)
          have hpa := HPA.out i
          have hpb := HPB.out k
          have hpm := HPM.out (i + k)
          have hm : pt la i * pt lb k ≤ 999999999 * 999999999 := Nat.mul_le_mul (by omega) (by omega)
          have hmI : (pt la i : Int) * (pt lb k : Int) ≤ 999999998000000001 := by
            have : ((pt la i * pt lb k : Nat) : Int) ≤ ((999999999 * 999999999 : Nat) : Int) := Int.ofNat_le.2 hm
            simpa using this
          have hmI0 : 0 ≤ (pt la i : Int) * (pt lb k : Int) := Int.mul_nonneg (by omega) (by omega)
          have hf := fun x => HF2.out.free x
          clear hcB
          obtain ⟨t, ht⟩ : ∃ t : Nat, t = cy + pt la i * pt lb k + pt M (i + k) := ⟨_, rfl⟩
          have eT : (cy : Int) + (pt la i : Int) * (pt lb k : Int) + (pt M (i + k) : Int) = (t : Int) := by rw [ht]; push_cast; rfl
          have ET := Lib.hid eT
          have HTt := Lib.hid (HT.out.step hlt hlk hpa hpb ht)
          have htI : (t : Int) ≤ 1000000000000000000 := by rw [← eT]; omega
          clear eT ht
          go_wp2
          go_quiet (fail)
          rw [ET.out]
          have F3 := Lib.hid (HF2.out.below (below_of_drewN wr nq))
          have B3 := Lib.hid (Below.step HB2.out (below_of_drewN wr nq))
          go_wp2
          go_roundw
          case rel =>
            have e1 : (t : Int) % 1000000000 = ((t % 1000000000 : Nat) : Int) := by omega
            have e2 : (t : Int) / 1000000000 = ((t / 1000000000 : Nat) : Int) := by omega
            rw [e1, e2]
            exact ⟨k + 1, t / 1000000000, _, by omega, by go_num, rfl, HTt.out, F3.out.set _ _, B3.out.setCell (p := ⟨w.heap.size, i + k, none⟩) (Nat.le_refl _) _⟩
          case measure => simp [intOf]; omega
        · obtain rfl : k = lb.length := by omega
          have hf := fun x => HF2.out.free x
          have hc3 := HF2.out.cell (i := i + lb.length) (by omega)
          have HTt := Lib.hid (HT.out.last HI.out hlt)
          go_wp2
          go_roundw
          case rel => exact ⟨i + 1, _, by omega, by go_num, HTt.out, HF2.out.set _ _, HB2.out.setCell (p := ⟨w.heap.size, i + lb.length, none⟩) (Nat.le_refl _) _⟩
          case measure => simp [intOf]; omega
    · obtain rfl : i = la.length := by omega
      have hLl : L.length = la.length + lb.length := HI.out.1
      go_wp2
      go_ret
      have hO := HF.out.own (n := w.heap.size) (Nat.le_refl _) (by unfold maxLen; omega) (fun x hx => Nat.lt_trans (HI.out.2.1 x hx) (by decide))
      rw [hLl] at hO
      exact ⟨⟨_, L, rfl, hO, HI.out.2.1, HI.out.done⟩, HB.out⟩

end Go.Proofs.YtgpoljbccimkjaaGreatDoor

namespace Go.Proofs.YtgpoljbccimkjaaGreatDoor
set_option linter.unusedSimpArgs false
set_option linter.unusedVariables false
open Go.RowKit Go.Shelf

section
variable {bs : List (Nat × Bool)} {fs : List (Nat × (Value → World → Prop))} {w0 : World} {d : Nat} {ty : TypeId} {pos : String} {af : Array Edge} {g : Option (Nat × Bool)}
set_option maxRecDepth 100000 in
theorem step_neBB {x y : Nat} {t' : TypeId} {m k b : Bool} (hx : ∀ v w, Known bs fs x v w → v = .bool m) (hy : ∀ v w, Known bs fs y v w → v = .bool k) (hb' : (m != k) = b) (h : ∀ w, Known bs fs d (.bool b) w) : StepOk Tryz.prog bs fs w0 ⟨some d, .binOp .neq 4 (.tmp x) (.tmp y) t', ty, pos, af, g⟩ :=
  step_value rfl fun a w hb hk => ⟨.bool b, w, by
    have h1 := hx _ _ (hk x (by simp [looks, Op.operands]))
    have h2 := hy _ _ (hk y (by simp [looks, Op.operands]))
    subst hb'
    simp only [execOp, h1, h2]
    go_simp
    try (cases m <;> cases k <;> rfl), h _, Below.refl _ _⟩
end

theorem rtimes_m {u v : Value} {la lb : List Nat} {w : World} (ha : IsL la u w) (hb : IsL lb v w) (h1 : ∀ x ∈ la, x < 1000000000) (h2 : ∀ x ∈ lb, x < 1000000000) (n1 : la.length ≤ 1000000) (n2 : lb.length ≤ 1000000) :
    Calls Tryz.prog 200 #[u, v] w fun e w' => (∃ r, e = .returned r ∧ IsM (val la * val lb) r w') ∧ Below w.heap.size w w' := by
  refine (rtimes_any u v la lb w ha hb h1 h2 n1 n2).mono ?_
  rintro e w' ⟨⟨r, L, rfl, h3, h4, h5⟩, h6⟩
  exact ⟨⟨r, rfl, L, h3.lim, h4, h5⟩, h6⟩

set_option maxRecDepth 100000 in
set_option maxHeartbeats 4000000 in
theorem rMul_num {w : World} {u u' : Value} {k k' : Nat} {Z Z' : Int} (h : NumAt w u k Z) (h' : NumAt w u' k' Z') (hk : k ≤ 1000000) (hk' : k' ≤ 1000000) :
    Calls Tryz.prog 140 #[u, u'] w fun e w' => AnsAt w' e (k + k') (Z * Z') ∧ Below w.heap.size w w' := by
  have HBD := Lib.hid (bound_mul h.bound h'.bound)
  obtain ⟨s, v, l, rfl, hv, hZ, h4⟩ := h
  obtain ⟨s', v', l', rfl, hv', hZ', h4'⟩ := h'
  have HL : Hid (∀ W, Below w.heap.size w W → Lim W v l) := fun W hb => hv.below hb
  have HL' : Hid (∀ W, Below w.heap.size w W → Lim W v' l') := fun W hb => hv'.below hb
  have HZ : Hid (numZ s l = Z ∧ numZ s' l' = Z') := ⟨hZ, hZ'⟩
  have HN : Hid ((fitL s l).length ≤ 1000000 ∧ (fitL s' l').length ≤ 1000000) := by
    have h1 := fitL_le s l
    have h2 := fitL_le s' l'
    exact ⟨by omega, by omega⟩
  obtain ⟨a, c, rfl, -⟩ := hv
  obtain ⟨a', c', rfl, -⟩ := hv'
  obtain ⟨W0, e0, n1, n2, n3, hb0, -⟩ := box3 w (.bool s) (.slice a l.length c) (.bool s') (.slice a' l'.length c') (.bool false) (.slice none 0 0)
  have N1 := Lib.hid n1
  have N2 := Lib.hid n2
  have N3 := Lib.hid n3
  have B0 := Lib.hid hb0
  obtain ⟨c0, c1, -, -⟩ := n1
  clear hb0 n2 n3 hZ hZ' h4 h4' hk hk'
  go_enter Tryz.func140, Tryz.ntmps140
  go_wp2_with fail
  clear e0
  refine (rFit_any s _ l _ (HL.out _ B0.out)).mono ?_
  rintro e w1 ⟨v1, rfl, hl1, hb1⟩
  have K1 := Lib.hid hl1
  obtain ⟨a1, k1, rfl, -⟩ := hl1
  have m1 := N1.out.below hb1
  have m2 := N2.out.below hb1
  have m3 := N3.out.below hb1
  have B1 := Lib.hid (Below.step B0.out hb1)
  clear hb1 c0 c1
  obtain ⟨W1, e1, M1, P1, Q1, R1⟩ := m1.put (.bool (fitS s l)) (.slice a1 (fitL s l).length k1)
  have B1' := Lib.hid (P1.out _ (Nat.le_refl _) B1.out)
  have K1' := Lib.hid (Q1.out _ _ K1.out)
  have hM2 := R1.out _ _ _ (by simp) m2
  have M2 := Lib.hid hM2
  have M3 := Lib.hid (R1.out _ _ _ (by simp) m3)
  have M1' := Lib.hid M1
  obtain ⟨d0, d1, f0, f1⟩ := m1
  obtain ⟨d2, d3, f2, f3⟩ := hM2
  obtain ⟨g0, g1, -, -⟩ := M1
  clear P1 Q1 R1 m2 m3
  go_wp2_with fail
  clear e1 d0 d1 f0 f1 d2 d3 f2 f3 g0 g1
  refine (rFit_any s' _ l' _ (HL'.out _ B1'.out)).mono ?_
  rintro e w2 ⟨v2, rfl, hl2, hb2⟩
  have K2 := Lib.hid hl2
  obtain ⟨a2, k2, rfl, -⟩ := hl2
  have K1'' := Lib.hid (K1'.out.below hb2)
  have m1 := M1'.out.below hb2
  have m2 := M2.out.below hb2
  have m3 := M3.out.below hb2
  have B2 := Lib.hid (Below.step B1'.out hb2)
  obtain ⟨W2, e2, q2, P2, Q2, R2⟩ := m2.put (.bool (fitS s' l')) (.slice a2 (fitL s' l').length k2)
  have HB := Lib.hid (P2.out _ (Nat.le_succ _) B2.out)
  have h1 := Q2.out _ _ K1''.out
  have h2 := Q2.out _ _ K2.out
  have G1 := Lib.hid h1
  have G2 := Lib.hid h2
  have H1 : Hid (∀ W, Below W2.heap.size W2 W → Lim W _ _) := fun W hb => h1.below hb
  have H2 : Hid (∀ W, Below W2.heap.size W2 W → Lim W _ _) := fun W hb => h2.below hb
  have q1 := R2.out _ _ _ (by simp) m1
  have M1 := q1.v.keep
  have M2 := q2.v.keep
  have M3 := (R2.out _ _ _ (by simp) m3).v.keep
  obtain ⟨d0, d1, -, -⟩ := q1
  obtain ⟨d2, d3, f2, f3⟩ := m2
  obtain ⟨g0, g1, -, -⟩ := q2
  clear hb2 P2 Q2 R2 m1 m3 h1 h2 N1 N2 N3
  have HV : Hid ((if (fitS s l != fitS s' l') then -((val (fitL s l) * val (fitL s' l') : Nat) : Int) else ((val (fitL s l) * val (fitL s' l') : Nat) : Int)) = Z * Z') := by
    show _ = _
    rw [← HZ.out.1, ← HZ.out.2, ← numZ_fit, ← numZ_fit]
    unfold valS
    cases h : fitS s l <;> cases h' : fitS s' l' <;> simp [Int.neg_mul, Int.mul_neg]
  go_upto_region 3 with fail
  rename_i K9 hK9
  refine wp_region_tail []
    [(2, IsV (.pointer (some ⟨w.heap.size, 0, none⟩))), (3, IsV (.pointer (some ⟨w.heap.size + 1, 0, none⟩))), (4, IsV (.pointer (some ⟨w.heap.size + 1 + 1, 0, none⟩)))]
    [(9, IsV (.pointer (some ⟨w.heap.size, 0, none⟩))), (10, IsV (.bool (fitS s l))), (11, IsV (.pointer (some ⟨w.heap.size + 1, 0, none⟩))), (12, IsV (.bool (fitS s' l'))), (13, IsV (.bool (fitS s l != fitS s' l'))), (14, IsV (.pointer (some ⟨w.heap.size, 0 + 1, none⟩))), (15, IsL (fitL s l)), (16, IsV (.pointer (some ⟨w.heap.size + 1, 0 + 1, none⟩))), (17, IsL (fitL s' l')), (18, IsM (val (fitL s l) * val (fitL s' l'))), (19, IsO (k + k') (Z * Z'))]
    [] 20 11 (by kernel_rfl) rfl (by kernel_rfl) (by kernel_rfl) (by kernel_rfl) (by kernel_rfl) ⟨rfl, rfl, rfl, trivial⟩ ⟨IsV.grows _, IsV.grows _, IsV.grows _, IsV.grows _, IsV.grows _, IsV.grows _, IsV.grows _, IsV.grows _, IsV.grows _, IsL.grows _, IsV.grows _, IsL.grows _, IsM.grows _, IsO.grows _ _, trivial⟩ ?_ (fun d _ _ _ _ h => by cases d <;> exact h) ?_ ?_
  · refine AllStep2.step rfl rfl (step_fieldT (fun _ _ h => h) (fun _ => run_sgn) (fun _ => rfl)) ?_
    refine AllStep2.step rfl rfl (step_loadT (fun _ _ h => h) (fun W hb => run_loadB (M1.out W hb).at0) (fun w hb => rfl)) ?_
    refine AllStep2.step rfl rfl (step_fieldT (fun _ _ h => h) (fun _ => run_sgn) (fun _ => rfl)) ?_
    refine AllStep2.step rfl rfl (step_loadT (fun _ _ h => h) (fun W hb => run_loadB (M2.out W hb).at0) (fun w hb => rfl)) ?_
    refine AllStep2.step rfl rfl (step_neBB (fun _ _ h => h) (fun _ _ h => h) rfl (fun _ => rfl)) ?_
    refine AllStep2.step rfl rfl (step_fieldT (fun _ _ h => h) (fun _ => run_dig) (fun _ => rfl)) ?_
    refine AllStep2.step rfl rfl (step_loadT (fun _ _ h => h) (fun W hb => run_loadS (M1.out W hb).at1) (fun w hb => H1.out w hb)) ?_
    refine AllStep2.step rfl rfl (step_fieldT (fun _ _ h => h) (fun _ => run_dig) (fun _ => rfl)) ?_
    refine AllStep2.step rfl rfl (step_loadT (fun _ _ h => h) (fun W hb => run_loadS (M2.out W hb).at1) (fun w hb => H2.out w hb)) ?_
    refine AllStep2.step rfl rfl (step_call2 (Plain.of Tryz.func200 rfl rfl) (fun _ _ _ _ hu hv => rtimes_m hu hv (fit_small _ _) (fit_small _ _) HN.out.1 HN.out.2)) ?_
    refine AllStep2.step rfl rfl (step_call2 (Plain.of Tryz.func78 rfl rfl) (fun _ _ _ _ hu hv => rnum_m hu hv HV.out HBD.out)) ?_
    exact AllStep2.nil
  · intro t ht v w hk
    simp only [List.mem_cons, List.not_mem_nil, or_false] at ht
  intro a3 w3 hb3 hs3 hd3 hk3 _
  have hz : OkAt w3 (a3.eval (.tmp 19)) (k + k') (Z * Z') := hk3 19 (by kernel_rfl)
  have h2 : a3.eval (.tmp 4) = .pointer (some ⟨w.heap.size + 1 + 1, 0, none⟩) := hk3 4 (by kernel_rfl)
  obtain ⟨z1, p1, i1, j1, ez⟩ := OkAt.agg hz
  have hz' : OkAt w3 (.agg #[.bool z1, .slice p1 i1 j1]) (k + k') (Z * Z') := by rw [← ez]; exact hz
  have N := M3.out _ hb3
  obtain ⟨W', e, hst, hbx⟩ := N.store (ys := [.bool z1, .slice p1 i1 j1]) rfl rfl
  refine wpOps_step (i := 11) (rest := []) rfl rfl ?_
  refine wp_store_T h2 ez (run_store2 N) ?_
  rw [e]
  refine hK9 _ _ ?_
  refine wp_ret ?_
  exact ret_nm (t := 4) rfl hd3 h2 hbx ⟨⟨_, rfl, hz'.stored hst⟩, hst.below w (by omega) (Below.step HB.out hb3)⟩

end Go.Proofs.YtgpoljbccimkjaaGreatDoor
