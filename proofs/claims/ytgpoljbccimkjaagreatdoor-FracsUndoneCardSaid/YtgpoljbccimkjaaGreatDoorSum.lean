/- Walks: the sum of two amounts, each with its sign. -/
import Derived.Test.YtgpoljbccimkjaaGreatDoorBlend2
import Derived.Deep.OwnRows
namespace Go.Proofs.YtgpoljbccimkjaaGreatDoor
set_option linter.unusedSimpArgs false
set_option linter.unusedVariables false
open Go.RowKit Go.Shelf

theorem infoU32 : (Tryz.prog.info? 99).map (fun i => (i.zero, i.size, i.bytes)) = some (some (.int .u32 0), 1, 4) := by kernel_rfl
theorem underU32s : Tryz.prog.underlying 22 = some (.slice 99) := by kernel_rfl

theorem run_make_u32 (m : Int) (n : Nat) (hm : m = n) (h : n ≤ 70000000000000) (w : World) : (Instr.makeSlice 22 (.int .i64 m) (.int .i64 m)).run Tryz.prog w = .ok (.slice (some ⟨w.heap.size, 0, none⟩) n n) (w.alloc (.cells (madeCells #[.int .u32 0] n) 99)) := by
  subst hm
  exact run_make_row' 22 99 (.int .u32 0) 4 underU32s infoU32 rfl .i64 .i64 n (by omega) (by omega) w

/-- What a number that a call answers is. -/
def NumIs (n : Nat) (w' : World) (e : Ending) (Z : Int) : Prop := ∃ s l v, e = .returned (.agg #[.bool s, v]) ∧ OwnL n w' v l ∧ okB s l = true ∧ valS s l = Z

theorem Lim.limO {w W : World} {v : Value} {l : List Nat} (h : Lim w v l) (hb : Below w.heap.size w W) (h1 : ∀ x ∈ l, x < 1000000000) (b : Nat) : LimO b 0 W v l := by
  obtain ⟨a, c, rfl, h2, h3, h4, h5⟩ := h.below hb
  refine ⟨a, c, rfl, h2, h3, h1, ?_⟩
  rcases h5 with h5 | ⟨b', o', rfl, hc⟩
  · exact .inl h5
  · exact .inr ⟨b', o', rfl, fun _ _ => Nat.zero_le _, hc⟩

/-- A row that is filled from its head on. -/
theorem Filled.own {Bk n : Nat} {la lb : List Nat} {f g : Int} {cur cur' : Array Value} {W : World} (h : CellsAt W Bk cur' 99) (hf : Filled 0 n n la lb f g cur cur') (hs : cur.size = n) (hn : n ≤ maxLen) (base : Nat) (hb : base ≤ Bk) :
    OwnL base W (.slice (some ⟨Bk, 0, none⟩) n n) (blendL la lb f g n) := by
  refine ⟨⟨by rw [u32s_length]; omega, .inr ⟨Bk, n, cur', by rw [blendL_length], hb, h, by rw [blendL_length]; omega, hn, by rw [hf.1, hs]; omega, ?_⟩⟩, fun x hx => Nat.lt_trans (blendL_small la lb f g n x hx) (by decide)⟩
  rw [blendL_length, Nat.mul_one]
  apply List.ext_getElem?
  intro i
  rw [List.getElem?_take]
  by_cases hi : i < n
  · rw [if_pos hi, Array.getElem?_toList, hf.2, if_pos ⟨Nat.zero_le _, by omega⟩, u32s_get _ _ (by rw [blendL_length]; exact hi), blendL_pt _ _ _ _ hi, Nat.sub_zero]
  · rw [if_neg hi, List.getElem?_eq_none (by rw [u32s_length, blendL_length]; omega)]

/-- What 'number' makes of an amount. -/
theorem num_of {s : Bool} {l : List Nat} (h : ∀ x ∈ l, x < 1000000000) : okB (s && (trimL l).length != 0) (trimL l) = true ∧ valS (s && (trimL l).length != 0) (trimL l) = if s then -(val l : Int) else val l := by
  refine ⟨okB_iff.2 ⟨fun x hx => h x ((trimL_prefix l).sublist.subset hx), Top.trimL l, fun e => by rw [e]; simp⟩, ?_⟩
  unfold valS
  rw [val_trimL]
  cases s
  · simp
  · by_cases h0 : trimL l = []
    · have hv : val l = 0 := by rw [← val_trimL, h0]; rfl
      rw [h0, hv]; simp
    · have : (trimL l).length ≠ 0 := fun e => h0 (List.eq_nil_of_length_eq_zero e)
      simp [this]

/-- A number of an amount, whatever its row. -/
theorem number_is (s : Bool) (v : Value) (l : List Nat) (n : Nat) (w : World) (h : OwnL n w v l) (h1 : ∀ x ∈ l, x < 1000000000) :
    Calls Tryz.prog 71 #[.bool s, v] w fun e w' => NumIs n w' e (if s then -(val l : Int) else val l) ∧ Below w.heap.size w w' := by
  have h0 := h.lim
  obtain ⟨a, c, rfl, _⟩ := h0
  obtain ⟨o1, o2⟩ := num_of (s := s) h1
  refine (number_any s a c l n w h).mono ?_
  rintro e w' ⟨v', rfl, hv, hB, -⟩
  exact ⟨⟨_, _, v', rfl, hv, o1, o2⟩, hB⟩
/-- Likewise; and where it lies. -/
theorem number_own (s : Bool) (v : Value) (l : List Nat) (n : Nat) (w : World) (h : OwnL n w v l) (h1 : ∀ x ∈ l, x < 1000000000) :
    Calls Tryz.prog 71 #[.bool s, v] w fun e w' => (∃ s' l' v', e = .returned (.agg #[.bool s', v']) ∧ OwnL n w' v' l' ∧ okB s' l' = true ∧ valS s' l' = (if s then -(val l : Int) else val l) ∧ ∀ g, v'.ownBlock = some g → v.ownBlock = some g) ∧ Below w.heap.size w w' := by
  have h0 := h.lim
  obtain ⟨a, c, rfl, _⟩ := h0
  obtain ⟨o1, o2⟩ := num_of (s := s) h1
  refine (number_any s a c l n w h).mono ?_
  rintro e w' ⟨v', rfl, hv, hB, hg⟩
  exact ⟨⟨_, _, v', rfl, hv, o1, o2, hg⟩, hB⟩

theorem NumIs.mono {n m : Nat} {w' : World} {e : Ending} {Z : Int} (h : NumIs n w' e Z) (hm : m ≤ n) : NumIs m w' e Z := by
  obtain ⟨s, l, v, h1, h2, h3, h4⟩ := h
  exact ⟨s, l, v, h1, h2.mono hm, h3, h4⟩

/-- A row in the room of another block's store. -/
theorem OwnL.setBox {n : Nat} {W : World} {v : Value} {l : List Nat} {b : Nat} (h : OwnL n W v l) (hb : b < n) (o : Nat) (u : Value) : OwnL n (W.setCell ⟨b, o, none⟩ u) v l := by
  obtain ⟨⟨h0, h1⟩, h2⟩ := h
  refine ⟨⟨h0, ?_⟩, h2⟩
  rcases h1 with h1 | ⟨g, cap, cur, hv, hg, hh, r⟩
  · exact .inl h1
  · exact .inr ⟨g, cap, cur, hv, hg, by rw [Below.heap_setCell W ⟨b, o, none⟩ u g (by show g ≠ b; omega)]; exact hh, r⟩

set_option maxRecDepth 100000 in
set_option maxHeartbeats 4000000 in
theorem signedSum_any (va vb : Value) (la lb : List Nat) (f g : Int) (w : World) (ha : Lim w va la) (hb : Lim w vb lb) (h1 : ∀ x ∈ la, x < 1000000000) (h2 : ∀ x ∈ lb, x < 1000000000) (n1 : la.length ≤ 1000000) (n2 : lb.length ≤ 1000000) (hf : f = 1 ∨ f = -1) (hg : g = 1 ∨ g = -1) :
    Calls Tryz.prog 74 #[va, vb, .int .i64 f, .int .i64 g] w fun e w' => NumIs w.heap.size w' e (f * val la + g * val lb) ∧ Below w.heap.size w w' := by
  have HLA := Lib.hid ha
  have HLB := Lib.hid hb
  obtain ⟨a, c, rfl, a1, a2, a3, a4⟩ := ha
  obtain ⟨a', c', rfl, b1, b2, b3, b4⟩ := hb
  have H1 := Lib.hid h1
  have H2 := Lib.hid h2
  clear h1 h2 a3 b3 a4 b4
  have SF : Hid (Small f) := by rcases hf with rfl | rfl <;> exact ⟨by decide, by decide⟩
  have SG : Hid (Small g) := by rcases hg with rfl | rfl <;> exact ⟨by decide, by decide⟩
  have HF := Lib.hid hf
  have HG := Lib.hid hg
  clear hf hg
  go_enter Tryz.func74, Tryz.ntmps74
  go_upto_region 1 with fail
  go_cut [9] (fun s9 wx => ∃ n : Nat, la.length < n ∧ lb.length < n ∧ n ≤ 1000001 ∧ s9 = .slice (some ⟨w.heap.size + 1, 0, none⟩) n n ∧ wx = (w.alloc (.cells #[.bool false, .slice none 0 0] 24)).alloc (.cells (madeCells #[.int .u32 0] n) 99))
  case first =>
    by_cases hle : lb.length ≤ la.length
    · have hmk := run_make_u32 ((la.length : Int) + 1) (la.length + 1) (by omega) (by omega)
      go_wp2_with fail
      go_meet
      exact ⟨la.length + 1, by omega, by omega, by omega, rfl, rfl⟩
    · have hmk := run_make_u32 ((lb.length : Int) + 1) (lb.length + 1) (by omega) (by omega)
      go_wp2_with fail
      go_meet
      exact ⟨lb.length + 1, by omega, by omega, by omega, rfl, rfl⟩
  case rest =>
    obtain ⟨n, hna, hnb, hn, rfl, rfl⟩ := hcut
    have hp := sum_parts HF.out HG.out H1.out H2.out hna hnb
    have HP := Lib.hid hp
    obtain ⟨W1, e1, m1, m2, m3, m4⟩ : ∃ W1, (w.alloc (.cells #[.bool false, .slice none 0 0] 24)).alloc (.cells (madeCells #[.int .u32 0] n) 99) = W1 ∧
        NumBox W1 w.heap.size (.bool false) (.slice none 0 0) ∧ CellsAt W1 (w.heap.size + 1) (madeCells #[.int .u32 0] n) 99 ∧ Below w.heap.size w W1 ∧ w.heap.size + 1 < W1.heap.size := by
      refine ⟨_, rfl, (NumBox.new _ _ _ _).alloc _, ?_, (by repeat (first | exact Below.refl _ _ | with_reducible refine Below.drew ?_ | with_reducible refine below_drewN ?_ _ | with_reducible refine Below.setCell ?_ (by first | (simp; done) | (simp; omega) | omega) _ | with_reducible refine Below.alloc ?_ (by first | (simp; done) | (simp; omega) | omega) _)), by simp⟩
      have := CellsAt.new (w.alloc (.cells #[.bool false, .slice none 0 0] 24)) (madeCells #[.int .u32 0] n) 99
      rwa [World.size_alloc] at this
    have hsz : (madeCells #[Value.int .u32 0] n).size = n := size_madeCells _ _
    have HSZ := Lib.hid hsz
    have hmx : n ≤ maxLen := by unfold maxLen; omega
    have HMX := Lib.hid hmx
    rw [e1]
    clear e1 hp hsz hmx
    go_wp2_with fail
    refine (blend_any (w.heap.size + 1) 0 n n (.slice a la.length c) (.slice a' lb.length c') la lb f g (madeCells #[.int .u32 0] n) W1 (by omega) m2 (by rw [HSZ.out]; omega) (HLA.out.limO m3 H1.out _) (HLB.out.limO m3 H2.out _) SF.out SG.out).mono ?_
    rintro e w2 ⟨rfl, cur2, k1, k2, k3⟩
    have m5 : Below w.heap.size w w2 := m3.grown k3 m3.size (fun k e => by cases e; omega)
    have m6 : NumBox w2 w.heap.size (.bool false) (.slice none 0 0) := by
      obtain ⟨x1, x2, x3, x4⟩ := m1
      have hb : w2.heap[w.heap.size]? = W1.heap[w.heap.size]? := k3.block _ (by omega) (by intro e; injection e with e; omega)
      exact ⟨(World.cell?_of_block (a := ⟨w.heap.size, 0, none⟩) hb).trans x1, (World.cell?_of_block (a := ⟨w.heap.size, 1, none⟩) hb).trans x2, (World.frozen?_of_block (a := ⟨w.heap.size, 0, none⟩) hb).trans x3, (World.frozen?_of_block (a := ⟨w.heap.size, 1, none⟩) hb).trans x4⟩
    have m7 : w.heap.size + 1 < w2.heap.size := Nat.lt_of_lt_of_le m4 k3.size
    have M5 := Lib.hid m5
    have M6 := Lib.hid m6
    have K1 := Lib.hid k1
    have K2 := Lib.hid k2
    clear m1 m2 m3 m4 k1 k2 k3 m5 m6
    by_cases hz : 0 ≤ f * val la + g * val lb
    · obtain ⟨z1, z2⟩ := HP.out.1 hz
      rw [z1]
      have Z2 := Lib.hid z2
      clear z1 z2
      have OL : Hid (OwnL (w.heap.size + 1) w2 (.slice (some ⟨w.heap.size + 1, 0, none⟩) n n) (blendL la lb f g n)) := Filled.own K1.out K2.out HSZ.out HMX.out _ (Nat.le_refl _)
      go_wp2_with fail
      refine (number_is false _ _ (w.heap.size + 1) w2 OL.out (blendL_small _ _ _ _ _)).mono ?_
      rintro e w3 ⟨⟨s, l, v, rfl, hv, ho, hz3⟩, hb3⟩
      have HV := Lib.hid hv
      have HO := Lib.hid ho
      have HZ3 := Lib.hid hz3
      have HB3 := Lib.hid hb3
      have hv2 := hv.lim
      clear hv ho hz3 hb3
      obtain ⟨a1, c1, rfl, -⟩ := hv2
      obtain ⟨x1, x2, x3, x4⟩ := M6.out.below HB3.out
      go_wp2
      refine bodyPost_ret (v := .agg #[.bool s, .slice a1 l.length c1]) (by simp [results, Tryz.results74, go_sem, x1, x2]) rfl ⟨⟨s, l, _, rfl, ((HV.out.setBox (by omega) _ _).setBox (by omega) _ _).mono (by omega), HO.out, ?_⟩, (by repeat (first | exact Below.refl _ _ | with_reducible refine Below.drew ?_ | with_reducible refine below_drewN ?_ _ | with_reducible refine Below.setCell ?_ (by first | (simp; done) | (simp; omega) | omega) _ | with_reducible refine Below.alloc ?_ (by first | (simp; done) | (simp; omega) | omega) _ | (with_reducible refine Below.step ?_ HB3.out) | (with_reducible refine Below.step ?_ M5.out)))⟩
      rw [HZ3.out, ← Z2.out]
      rfl
    · obtain ⟨z1, z2⟩ := HP.out.2 (by omega)
      rw [z1]
      have Z2 := Lib.hid z2
      clear z1 z2
      have OL : Hid (OwnL (w.heap.size + 1) w2 (.slice (some ⟨w.heap.size + 1, 0, none⟩) n n) (blendL la lb f g n)) := Filled.own K1.out K2.out HSZ.out HMX.out _ (Nat.le_refl _)
      have SN : Hid (Small (-1)) := ⟨by decide, by decide⟩
      have SZ : Hid (Small 0) := ⟨by decide, by decide⟩
      go_wp2_with fail
      refine (blend_any (w.heap.size + 1) 0 n n _ (.slice none 0 0) (blendL la lb f g n) [] (-1) 0 cur2 w2 (by omega) K1.out (by rw [K2.out.1, HSZ.out]; omega) (OL.out.lim.limO (Below.refl _ _) (blendL_small _ _ _ _ _) _) ((Lim.nil w2).limO (Below.refl _ _) (by simp) _) SN.out SZ.out).mono ?_
      rintro e w4 ⟨rfl, cur4, p1, p2, p3⟩
      have m5 : Below w.heap.size w w4 := M5.out.grown p3 M5.out.size (fun k e => by cases e; omega)
      have m6 : NumBox w4 w.heap.size (.bool false) (.slice none 0 0) := by
        obtain ⟨x1, x2, x3, x4⟩ := M6.out
        have hb : w4.heap[w.heap.size]? = w2.heap[w.heap.size]? := p3.block _ (by omega) (by intro e; injection e with e; omega)
        exact ⟨(World.cell?_of_block (a := ⟨w.heap.size, 0, none⟩) hb).trans x1, (World.cell?_of_block (a := ⟨w.heap.size, 1, none⟩) hb).trans x2, (World.frozen?_of_block (a := ⟨w.heap.size, 0, none⟩) hb).trans x3, (World.frozen?_of_block (a := ⟨w.heap.size, 1, none⟩) hb).trans x4⟩
      have m7' : w.heap.size + 1 < w4.heap.size := Nat.lt_of_lt_of_le m7 p3.size
      have OL4 : Hid (OwnL (w.heap.size + 1) w4 (.slice (some ⟨w.heap.size + 1, 0, none⟩) n n) (blendL (blendL la lb f g n) [] (-1) 0 n)) := Filled.own p1 p2 (by rw [K2.out.1, HSZ.out]) HMX.out _ (Nat.le_refl _)
      have M5' := Lib.hid m5
      have M6' := Lib.hid m6
      clear m5 m6 p1 p2 p3
      go_wp2_with fail
      refine (number_is true _ _ (w.heap.size + 1) w4 OL4.out (blendL_small _ _ _ _ _)).mono ?_
      rintro e w3 ⟨⟨s, l, v, rfl, hv, ho, hz3⟩, hb3⟩
      have HV := Lib.hid hv
      have HO := Lib.hid ho
      have HZ3 := Lib.hid hz3
      have HB3 := Lib.hid hb3
      have hv2 := hv.lim
      clear hv ho hz3 hb3
      obtain ⟨a1, c1, rfl, -⟩ := hv2
      obtain ⟨x1, x2, x3, x4⟩ := M6'.out.below HB3.out
      go_wp2
      refine bodyPost_ret (v := .agg #[.bool s, .slice a1 l.length c1]) (by simp [results, Tryz.results74, go_sem, x1, x2]) rfl ⟨⟨s, l, _, rfl, ((HV.out.setBox (by omega) _ _).setBox (by omega) _ _).mono (by omega), HO.out, ?_⟩, (by repeat (first | exact Below.refl _ _ | with_reducible refine Below.drew ?_ | with_reducible refine below_drewN ?_ _ | with_reducible refine Below.setCell ?_ (by first | (simp; done) | (simp; omega) | omega) _ | with_reducible refine Below.alloc ?_ (by first | (simp; done) | (simp; omega) | omega) _ | (with_reducible refine Below.step ?_ HB3.out) | (with_reducible refine Below.step ?_ M5'.out)))⟩
      rw [HZ3.out]
      simp only [if_true]
      rw [Z2.out]
      omega

end Go.Proofs.YtgpoljbccimkjaaGreatDoor
