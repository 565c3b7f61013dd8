/- Walks: one great step of Euclid's. -/
import Derived.Test.YtgpoljbccimkjaaGreatDoorFollow
import Derived.Test.YtgpoljbccimkjaaGreatDoorNearMath
import Derived.Test.YtgpoljbccimkjaaGreatDoorDivide2
import Derived.ChangeKeysEq
namespace Go.Proofs.YtgpoljbccimkjaaGreatDoor
set_option linter.unusedSimpArgs false
set_option linter.unusedVariables false
open Go.RowKit Go.Shelf

/-- What a great step answers. -/
def NearIs (w' : World) (la lb : List Nat) (e : Ending) : Prop := ∃ vc vd lc ld, e = .returned (.tuple #[vc, vd]) ∧ Lim w' vc lc ∧ Lim w' vd ld ∧ (∀ x ∈ lc, x < 1000000000) ∧ (∀ x ∈ ld, x < 1000000000) ∧ Top lc ∧ Top ld ∧ lc.length ≤ la.length ∧ val ld < val lb ∧ val ld ≤ val lc ∧ Nat.gcd (val lc) (val ld) = Nat.gcd (val la) (val lb)

theorem gcd_left {a b q r : Nat} (h : q * b + r = a) (hr : r < b) : Nat.gcd b r = Nat.gcd a b := by
  have h1 : a % b = r := by rw [← h, Nat.add_comm, Nat.add_mul_mod_self_right]; exact Nat.mod_eq_of_lt hr
  rw [Nat.gcd_comm a b, Nat.gcd_rec b a, h1, Nat.gcd_comm]

theorem CellsAt.grown {W W' : World} {b p : Nat} {cur : Array Value} {T : TypeId} (h : CellsAt W b cur T) (hg : W.grownBy W' (some p)) (hne : b ≠ p) : CellsAt W' b cur T := by
  have hlt : b < W.heap.size := (Array.getElem?_eq_some_iff.1 h).1
  exact (hg.block b hlt (by intro e; injection e with e; exact hne e)).trans h

theorem NumBox.grown {W W' : World} {b p : Nat} {x y : Value} (h : NumBox W b x y) (hg : W.grownBy W' (some p)) (hne : b ≠ p) : NumBox W' b x y := by
  have hb : W'.heap[b]? = W.heap[b]? := hg.block _ h.lt (by intro e; injection e with e; exact hne e)
  obtain ⟨x1, x2, x3, x4⟩ := h
  exact ⟨(World.cell?_of_block (a := ⟨b, 0, none⟩) hb).trans x1, (World.cell?_of_block (a := ⟨b, 1, none⟩) hb).trans x2, (World.frozen?_of_block (a := ⟨b, 0, none⟩) hb).trans x3, (World.frozen?_of_block (a := ⟨b, 1, none⟩) hb).trans x4⟩

theorem run_eq_i64 (d : Nat) (x y : Int) (W : World) : (Op.equalIn (d + 1) 2 (.int .i64 x) (.int .i64 y)).run Tryz.prog W = .ok (x == y) W := by
  have hu : Tryz.prog.underlying 2 = some (.int .i64) := by kernel_rfl
  simp [Op.equalIn, run_underlying hu]
theorem run_eq_two (a b c d : Int) (w : World) : (Op.equalIn 10000 222 (.agg #[.int .i64 a, .int .i64 b]) (.agg #[.int .i64 c, .int .i64 d])).run Tryz.prog w = .ok (a == c && b == d) w := by
  obtain ⟨i, hi⟩ : ∃ i, Tryz.prog.info? 2 = some i := Option.isSome_iff_exists.1 (by kernel_rfl)
  have hc : Tryz.prog.cellsOf 2 = 1 := by kernel_rfl
  have he : Tryz.prog.plainKey 2 = true := by kernel_rfl
  have hu2 : Tryz.prog.underlying 222 = some (.array 2 2) := by kernel_rfl
  have e1 : ∀ (x y : Int) (W : World), (Op.equalIn 9999 2 (.int .i64 x) (.int .i64 y)).run Tryz.prog W = .ok (x == y) W := run_eq_i64 9998
  have h := run_equalIn_array (P := Tryz.prog) w 9999 #[.int .i64 a, .int .i64 b] #[.int .i64 c, .int .i64 d] hu2 hi
  rw [hc] at h
  refine h.trans ?_
  have p : ∀ (xs : Array Value) (off : Nat) (v : Value) (W : World), xs[off]? = some v → (part 2 xs off).run Tryz.prog W = .ok v W := fun xs off v W hx => run_part_plain W he hx
  simp only [show List.range 2 = [0, 1] from rfl, Op.eqItems, Sem.run_bind]
  rw [p _ _ (.int .i64 a) w rfl, Result.andThen_ok, p _ _ (.int .i64 c) w rfl, Result.andThen_ok, e1, Result.andThen_ok]
  cases h1 : (a == c)
  · simp
  · simp only [Bool.not_true, Bool.false_eq_true, if_false, Sem.run_bind]
    rw [p _ _ (.int .i64 b) w rfl, Result.andThen_ok, p _ _ (.int .i64 d) w rfl, Result.andThen_ok, e1, Result.andThen_ok]
    cases h2 : (b == d) <;> simp

set_option maxRecDepth 100000 in
set_option maxHeartbeats 4000000 in
theorem nearer_any (va vb : Value) (la lb : List Nat) (w : World) (ha : Lim w va la) (hb : Lim w vb lb) (h1 : ∀ x ∈ la, x < 1000000000) (h2 : ∀ x ∈ lb, x < 1000000000) (tb : Top lb) (hl : 3 ≤ la.length) (hl2 : 1 ≤ lb.length) (hlen : lb.length ≤ la.length) (n1 : la.length ≤ 1000000) :
    Calls Tryz.prog 158 #[va, vb] w fun e w' => NearIs w' la lb e ∧ Below w.heap.size w w' := by
  have HLA := Lib.hid ha
  have HLB := Lib.hid hb
  have H1 := Lib.hid h1
  have H2 := Lib.hid h2
  have HT := Lib.hid tb
  obtain ⟨m, hm⟩ : ∃ m, la.length = m + 2 := ⟨la.length - 2, by omega⟩
  have HM := Lib.hid hm
  obtain ⟨X, hX⟩ : ∃ X, X = pt la (m + 1) * 1000000000 + pt la m := ⟨_, rfl⟩
  obtain ⟨Y, hY⟩ : ∃ Y, Y = pt lb (m + 1) * 1000000000 + pt lb m := ⟨_, rfl⟩
  have i1 : ((la.length : Int) - 1) = ((m + 1 : Nat) : Int) := by omega
  have i2 : ((m + 1 : Nat) : Int) - 1 = (m : Int) := by omega
  have eX : (ptI la ((la.length : Int) - 1) : Int) * 1000000000 + ptI la ((la.length : Int) - 1 - 1) = (X : Int) := by
    rw [i1, i2, ptI_nat, ptI_nat, hX]; omega
  have eY : (ptI lb ((la.length : Int) - 1) : Int) * 1000000000 + ptI lb ((la.length : Int) - 1 - 1) = (Y : Int) := by
    rw [i1, i2, ptI_nat, ptI_nat, hY]; omega
  have bX : X < 1000000000000000000 := by
    have p1 := pt_lt (by decide) h1 (m + 1)
    have p2 := pt_lt (by decide) h1 m
    omega
  have bY : Y < 1000000000000000000 := by
    have p1 := pt_lt (by decide) h2 (m + 1)
    have p2 := pt_lt (by decide) h2 m
    omega
  have EX := Lib.hid eX
  have EY := Lib.hid eY
  have HX := Lib.hid hX
  have HY := Lib.hid hY
  have BX := Lib.hid bX
  have BY := Lib.hid bY
  obtain ⟨a, c, rfl, -⟩ := ha
  obtain ⟨a', c', rfl, -⟩ := hb
  clear h1 h2 tb hm hX hY i1 i2 eX eY bX bY
  go_enter Tryz.func158, Tryz.ntmps158
  go_wp2_with fail
  refine (twoParts_any _ la _ _ HLA.out H1.out (by omega) (by omega)).mono ?_
  rintro e w' ⟨rfl, rfl⟩
  rw [EX.out]
  go_wp2_with fail
  refine (twoParts_any _ lb _ _ HLB.out H2.out (by omega) (by omega)).mono ?_
  rintro e w' ⟨rfl, rfl⟩
  rw [EY.out]
  go_wp2_with fail
  refine (follow_any X Y _ BX.out BY.out).mono ?_
  rintro e w1 ⟨⟨x, y, f0, f1, s0, s1, rfl, HI⟩, hb1⟩
  have HI := Lib.hid HI
  obtain ⟨f00, f01⟩ := HI.out.bf0
  obtain ⟨f10, f11⟩ := HI.out.bf1
  obtain ⟨s00, s01⟩ := HI.out.bs0
  obtain ⟨s10, s11⟩ := HI.out.bs1
  have HB1 := Lib.hid hb1
  have hsz := hb1.size
  clear hb1
  have heq := run_eq_two f0 f1 1 0
  obtain ⟨W1, eW, n1', n2', hb2⟩ : ∃ W1, (w1.alloc (Obj.cells #[.int .i64 f0, .int .i64 f1] 222)).alloc (Obj.cells #[.int .i64 s0, .int .i64 s1] 222) = W1 ∧ Two W1 w1.heap.size f0 f1 ∧ Two W1 (w1.heap.size + 1) s0 s1 ∧ Below w.heap.size w W1 := by
    refine ⟨_, rfl, (NumBox.new _ _ _ _).alloc _, ?_, (by repeat (first | exact Below.refl _ _ | with_reducible refine Below.drew ?_ | with_reducible refine below_drewN ?_ _ | with_reducible refine Below.setCell ?_ (by first | (simp; done) | (simp; omega) | omega) _ | with_reducible refine Below.alloc ?_ (by first | (simp; done) | (simp; omega) | omega) _ | (with_reducible refine Below.step ?_ HB1.out)))⟩
    have := NumBox.new (w1.alloc (Obj.cells #[.int .i64 f0, .int .i64 f1] 222)) (.int .i64 s0) (.int .i64 s1) 222
    rwa [World.size_alloc] at this
  have N1 := Lib.hid n1'
  have N2 := Lib.hid n2'
  have HB2 := Lib.hid hb2
  have hsz2 := N2.out.lt
  have HSZ2 := Lib.hid hsz2
  obtain ⟨c1, c2, c3, c4⟩ := n1'
  obtain ⟨d1, d2, d3, d4⟩ := n2'
  clear hb2 hsz2
  by_cases hf : f0 = 1 ∧ f1 = 0
  · obtain ⟨rfl, rfl⟩ := hf
    go_wp2_with fail
    refine (divide_any _ _ la lb _ (HLA.out.below HB2.out) (HLB.out.below HB2.out) H1.out H2.out HT.out hl2 n1 (by omega)).mono ?_
    rintro e w2 ⟨⟨vq, vl, Q, L, rfl, hoQ, hoL, -, -, hsL, htL, -, hval, hlt⟩, hb3⟩
    have HOL := Lib.hid hoL.lim
    have HSL := Lib.hid hsL
    have HTL := Lib.hid htL
    have HVL := Lib.hid (And.intro hval hlt)
    have HB3 := Lib.hid hb3
    have hol := hoL.lim
    clear hoQ hoL hsL htL hval hlt hb3 c1 c2 c3 c4 d1 d2 d3 d4 heq
    obtain ⟨al, cl, rfl, -⟩ := hol
    go_wp2_with fail
    go_ret2
    refine ⟨⟨_, _, lb, L, rfl, HLB.out.below (Below.step HB2.out HB3.out), HOL.out, H2.out, HSL.out, HT.out, HTL.out, hlen, HVL.out.2, Nat.le_of_lt HVL.out.2, gcd_left HVL.out.1 HVL.out.2⟩, Below.step HB2.out HB3.out⟩
  · have hb : (f0 == 1 && f1 == 0) = false := by
      rw [Bool.and_eq_false_iff, beq_eq_false_iff_ne, beq_eq_false_iff_ne]
      by_cases h0 : f0 = 1
      · exact .inr fun h1 => hf ⟨h0, h1⟩
      · exact .inl h0
    have HF := Lib.hid hf
    clear hf
    go_upto_region 6 with fail
    clear hb heq
    go_cut [4, 5] (fun vc vd wx => ∃ p q, vc = .slice (some ⟨p, 0, none⟩) la.length la.length ∧ vd = .slice (some ⟨q, 0, none⟩) la.length la.length ∧ p ≠ q ∧ w1.heap.size + 1 < p ∧ w1.heap.size + 1 < q ∧ Hid (CellsAt wx p (madeCells #[.int .u32 0] la.length) 99) ∧ Hid (CellsAt wx q (madeCells #[.int .u32 0] la.length) 99) ∧ Hid (Two wx w1.heap.size f0 f1) ∧ Hid (Two wx (w1.heap.size + 1) s0 s1) ∧ Hid (Below w.heap.size w wx))
    case first =>
      have hmk := run_make_u32 (la.length : Int) la.length rfl (by omega)
      go_region
      all_goals go_wp2_with fail
      all_goals go_meet
      all_goals
        have hx1 : CellsAt ((W1.alloc (Obj.cells (madeCells #[.int .u32 0] la.length) 99)).alloc (Obj.cells (madeCells #[.int .u32 0] la.length) 99)).drew W1.heap.size (madeCells #[.int .u32 0] la.length) 99 := (CellsAt.new W1 _ _).alloc _
        have hx2 : CellsAt ((W1.alloc (Obj.cells (madeCells #[.int .u32 0] la.length) 99)).alloc (Obj.cells (madeCells #[.int .u32 0] la.length) 99)).drew (W1.heap.size + 1) (madeCells #[.int .u32 0] la.length) 99 := by
          have := CellsAt.new (W1.alloc (Obj.cells (madeCells #[.int .u32 0] la.length) 99)) (madeCells #[.int .u32 0] la.length) 99
          rwa [World.size_alloc] at this
        have hx3 : Below W1.heap.size W1 ((W1.alloc (Obj.cells (madeCells #[.int .u32 0] la.length) 99)).alloc (Obj.cells (madeCells #[.int .u32 0] la.length) 99)).drew := (by repeat (first | exact Below.refl _ _ | with_reducible refine Below.drew ?_ | with_reducible refine below_drewN ?_ _ | with_reducible refine Below.setCell ?_ (by first | (simp; done) | (simp; omega) | omega) _ | with_reducible refine Below.alloc ?_ (by first | (simp; done) | (simp; omega) | omega) _))
        have hs := HSZ2.out
        first
          | exact ⟨W1.heap.size, W1.heap.size + 1, rfl, rfl, by omega, hs, by omega, hx1, hx2, N1.out.below hx3, N2.out.below hx3, Below.step HB2.out hx3⟩
          | exact ⟨W1.heap.size + 1, W1.heap.size, rfl, rfl, by omega, by omega, hs, hx2, hx1, N1.out.below hx3, N2.out.below hx3, Below.step HB2.out hx3⟩
    case rest =>
      obtain ⟨p, q, rfl, rfl, hpq, hp, hq, HP, HQ, M1, M2, HB3⟩ := hcut
      obtain ⟨c1, c2, c3, c4⟩ := M1.out
      obtain ⟨d1, d2, d3, d4⟩ := M2.out
      have hwp : w.heap.size ≤ p := by omega
      have hwq : w.heap.size ≤ q := by omega
      go_wp2_with fail
      refine (blend_any p 0 la.length la.length _ _ la lb f0 f1 _ _ (by omega) HP.out (by rw [size_madeCells]; omega) (HLA.out.limO HB3.out H1.out _) (HLB.out.limO HB3.out H2.out _) ⟨f00, f01⟩ ⟨f10, f11⟩).mono ?_
      rintro e w3 ⟨rfl, cur3, k1, k2, k3⟩
      have HQ3 := Lib.hid (HQ.out.grown k3 (Ne.symm hpq))
      have HB4 := Lib.hid (HB3.out.grown k3 HB3.out.size (fun k e => by cases e; exact hwp))
      have HM2 := M2.out.grown k3 (by omega)
      have K1 := Lib.hid k1
      have K2 := Lib.hid k2
      obtain ⟨d1, d2, d3, d4⟩ := HM2
      clear k1 k2 k3 c1 c2 c3 c4
      go_wp2_with fail
      refine (blend_any q 0 la.length la.length _ _ la lb s0 s1 _ _ (by omega) HQ3.out (by rw [size_madeCells]; omega) (HLA.out.limO HB4.out H1.out _) (HLB.out.limO HB4.out H2.out _) ⟨s00, s01⟩ ⟨s10, s11⟩).mono ?_
      rintro e w4 ⟨rfl, cur4, k1, k2, k3⟩
      have HP4 := Lib.hid (K1.out.grown k3 hpq)
      have HB5 := Lib.hid (HB4.out.grown k3 HB4.out.size (fun k e => by cases e; exact hwq))
      have HQ4 := Lib.hid k1
      have K4 := Lib.hid k2
      have O1 := Lib.hid (Filled.own HP4.out K2.out (size_madeCells _ _) (by unfold maxLen; omega) 0 (Nat.zero_le _))
      have O2 := Lib.hid (Filled.own HQ4.out K4.out (size_madeCells _ _) (by unfold maxLen; omega) 0 (Nat.zero_le _))
      obtain ⟨lc, hlc⟩ : ∃ lc, blendL la lb f0 f1 la.length = lc := ⟨_, rfl⟩
      obtain ⟨ld, hld⟩ : ∃ ld, blendL la lb s0 s1 la.length = ld := ⟨_, rfl⟩
      have hnr := near_rows (m := m) (by have := HM.out; omega) (by have := HM.out; omega) H1.out H2.out HX.out HY.out HI.out HF.out
      rw [← HM.out, hlc, hld] at hnr
      have hc1 : lc.length = la.length := by rw [← hlc, blendL_length]
      have hd1 : ld.length = la.length := by rw [← hld, blendL_length]
      have hcs : ∀ x ∈ lc, x < 1000000000 := by rw [← hlc]; exact blendL_small _ _ _ _ _
      have hds : ∀ x ∈ ld, x < 1000000000 := by rw [← hld]; exact blendL_small _ _ _ _ _
      rw [hlc] at O1
      rw [hld] at O2
      have HNR := Lib.hid hnr
      have HC1 := Lib.hid hc1
      have HD1 := Lib.hid hd1
      have HCS := Lib.hid hcs
      have HDS := Lib.hid hds
      clear hnr hc1 hd1 hcs hds hlc hld k1 k2 k3 d1 d2 d3 d4
      go_wp2_with fail
      have L1 := O1.out.lim
      rw [← HC1.out] at L1 ⊢
      refine (trim_any _ _ lc _ L1).mono ?_
      rintro e w5 ⟨rfl, rfl⟩
      rw [HC1.out]
      go_wp2_with fail
      have L2 := O2.out.lim
      rw [← HD1.out] at L2 ⊢
      refine (trim_any _ _ ld _ L2).mono ?_
      rintro e w5 ⟨rfl, rfl⟩
      go_wp2_with fail
      go_ret2
      have e1 := HC1.out
      have e2 := HD1.out
      have L1 := O1.out
      have L2 := O2.out
      rw [e2]
      rw [← e1] at L1
      rw [← e2] at L2
      have M1 := L1.take (trimL lc).length (trimL_length_le lc) (fun e => by cases e)
      have M2 := L2.take (trimL ld).length (trimL_length_le ld) (fun e => by cases e)
      rw [← trimL_eq_take, e1] at M1
      rw [← trimL_eq_take, e2] at M2
      obtain ⟨g1, g2, g3⟩ := HNR.out
      refine ⟨⟨_, _, trimL lc, trimL ld, rfl, M1.lim, M2.lim, fun x hx => HCS.out x ((trimL_prefix lc).subset hx), fun x hx => HDS.out x ((trimL_prefix ld).subset hx), Top.trimL _, Top.trimL _, by rw [← e1]; exact trimL_length_le lc, by rw [val_trimL]; exact g1, by rw [val_trimL, val_trimL]; exact g2, by rw [val_trimL, val_trimL]; exact g3⟩, HB5.out⟩

end Go.Proofs.YtgpoljbccimkjaaGreatDoor
