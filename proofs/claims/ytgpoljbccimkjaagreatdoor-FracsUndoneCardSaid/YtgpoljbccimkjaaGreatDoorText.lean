/- Walks: a number's text. -/
import Derived.Test.YtgpoljbccimkjaaGreatDoorTab
import Derived.Test.YtgpoljbccimkjaaGreatDoorTextMath
namespace Go.Proofs.YtgpoljbccimkjaaGreatDoor
set_option linter.unusedSimpArgs false
set_option linter.unusedVariables false
open Go.RowKit Go.Shelf

attribute [local go_sem] Oper.semAt_some

theorem grown_of_below {w W : World} (h : Below w.heap.size w W) (row : Option Nat) : w.grownBy W row := ⟨h.os, h.tape, h.output, h.size, fun k hk _ => h.block k hk⟩

theorem builder_kept {T e : TypeId} {B b : Nat} {bs : List Value} {w W : World} {row : Option Nat} (h : Lib.IsBuilder T e B b bs w) (hg : w.grownBy W row) (hr : ∀ r, row = some r → ∃ o : Obj, w.heap[r]? = some o ∧ o.isCells = false) : Lib.IsBuilder T e B b bs W := by
  have key : ∀ p, Lib.BuilderAt T e B b p bs w → Lib.BuilderAt T e B b p bs W := by
    rintro p ⟨hB, v, hb, hown, hne⟩
    have hbr : some b ≠ row := fun e1 => by
      obtain ⟨o, h1, h2⟩ := hr b e1.symm
      rw [hb] at h1; injection h1 with h1; subst h1; simp [Obj.isCells] at h2
    refine ⟨hB, v, (hg.block b (Array.getElem?_eq_some_iff.1 hb).1 hbr).trans hb, hown.kept hg ?_, hne⟩
    rcases hown.2 with ⟨rfl, _⟩ | ⟨g, cap, cur, rfl, _, hh, _⟩
    · exact .inl rfl
    · refine .inr fun e1 => ?_
      obtain ⟨o, h1, h2⟩ := hr g e1.symm
      rw [hh] at h1; injection h1 with h1; subst h1; simp [Obj.isCells] at h2
  exact h.imp (key _) (key _)
theorem builder_below {T e : TypeId} {B b : Nat} {bs : List Value} {w W : World} (h : Lib.IsBuilder T e B b bs w) (hb : Below w.heap.size w W) : Lib.IsBuilder T e B b bs W :=
  builder_kept h (grown_of_below hb none) (fun _ e => by cases e)

theorem strCells_bytes (l : List UInt8) : Lib.strCells ⟨l.toArray⟩ = Lib.byteCells l := rfl
theorem byteCells_append (a b : List UInt8) : Lib.byteCells (a ++ b) = Lib.byteCells a ++ Lib.byteCells b := by simp [Lib.byteCells]

theorem Itoa_nine (m : Int) (p : Nat) (hm : m = 1000000000 + p) (hp : p < 1000000000) (w : World) (htab : Tab w) :
    Calls Tryz.prog 131 #[.int .i64 m] w fun e w' => ∃ q : ByteArray, e = .returned (.string q) ∧ q.size = 10 ∧ (∀ x, x = q.extract 1 q.size → Lib.strCells x = Lib.byteCells (padK 9 p)) ∧ Below w.heap.size w w' := by
  have e1 : m = ((1000000000 + p : Nat) : Int) := by omega
  rw [e1]
  refine (Itoa_any (1000000000 + p) (by omega) w htab).mono ?_
  rintro e w' ⟨rfl, hb⟩
  have h9 := decDigits_nine hp
  have h10 : (Lib.decDigits (1000000000 + p)).length = 10 := by
    have := decDigits_split 1 9 p (by decide) (by simpa using hp)
    have e : 1 * 10 ^ 9 + p = 1000000000 + p := by omega
    rw [e] at this
    rw [this, List.length_append, padK_length, Lib.decDigits_one (by decide)]
    rfl
  refine ⟨_, rfl, by simpa [ByteArray.size] using h10, fun x hx => ?_, hb⟩
  rw [hx, ← h9]
  unfold Lib.strCells Lib.byteCells
  rw [Lib.extract_data]
  congr 1
  simp only [ByteArray.size, List.size_toArray]
  rw [List.take_of_length_le (by simp)]

/-- The text of a builder; what is no builder, and no bytes, lies as it lay. -/
theorem Builder_String_at (B b : Nat) (l : List UInt8) (w : World) (h : Lib.IsBuilder 108 5 B b (Lib.byteCells l) w) (hBw : B ≤ w.heap.size) :
    Calls Tryz.prog 132 #[.pointer (some ⟨b, 0, none⟩)] w fun e w' => e = .returned (.string ⟨l.toArray⟩) ∧ Below B w w' ∧ ∀ (k : Nat) (o : Obj), w.heap[k]? = some o → o.isCells = false → w'.heap[k]? = some o := by
  have hb : ∃ cs T fr, w.heap[b]? = some (.cells cs T fr) := by
    rcases h with ⟨_, v9, h9, _⟩ | ⟨_, v9, h9, _⟩ <;> exact ⟨_, _, _, h9⟩
  refine (Any.Builder_String_any_k Tryz.lays169 Tryz.Builder_Extra_169 B b l w (h.imp Lib.BuilderAtF.of Lib.BuilderAtF.of) hBw).mono ?_
  rintro e w' ⟨rfl, -, h2, h3⟩
  refine ⟨rfl, h2, fun k o hk ho => ?_⟩
  obtain ⟨cs, T, fr, hb⟩ := hb
  refine h3 k o hk (fun e1 => ?_) (fun cs' fr' e1 => ?_)
  · injection e1 with e1
    subst e1
    rw [hb] at hk; injection hk with hk; subst hk; simp [Obj.isCells] at ho
  · subst e1
    simp [Obj.isCells] at ho

set_option maxRecDepth 100000 in
set_option maxHeartbeats 4000000 in
theorem Text_any (s : Bool) (v : Value) (l : List Nat) (w : World) (h : Lim w v l) (hl : l.length ≤ 1000000) (htab : Tab w) :
    Calls Tryz.prog 32 #[.agg #[.bool s, v]] w fun e w' => e = .returned (.string ⟨(txt (fitS s l) (fitL s l)).toArray⟩) ∧ Below w.heap.size w w' := by
  have HL : Hid (∀ W, Below w.heap.size w W → Lim W v l) := fun W hb => h.below hb
  have HT : Hid (∀ W, Below w.heap.size w W → Tab W) := fun W hb => htab.below hb
  obtain ⟨a, c, rfl, -⟩ := h
  clear htab
  rw [← callsIn_wide (n := 3)]
  refine callsIn_of_wp_marks Tryz.func32 rfl trivial ?_ rfl
  simp only [Tryz.ntmps32, List.size_toArray, List.length_cons, List.length_nil, Nat.reduceAdd, Nat.reduceSub, Array.replicate_succ, Array.replicate_zero, List.push_toArray, List.append_toArray, List.nil_append, List.cons_append]
  rw [wpIn_wide]
  go_wp2_with fail
  obtain ⟨W0, e0, m1, hb0, hz0⟩ := box1 w (.bool s) (.slice a l.length c)
  rw [e0]
  clear e0
  have M1 := Lib.hid m1
  have HB0 := Lib.hid hb0
  clear m1 hb0
  refine (orNought_any s _ l _ (HL.out _ HB0.out)).mono ?_
  rintro e w1 ⟨v1, rfl, hl1, hb1⟩
  have HL1 := Lib.hid hl1
  have M2 := Lib.hid (M1.out.below hb1)
  have HB1 : Hid (Below w.heap.size w w1) := Below.step HB0.out hb1
  have hfl : (fitL s l).length ≤ 1000000 := Nat.le_trans (fit_length s l) hl
  have fs := fit_small s l
  have ft := fit_top s l
  have fz : fitL s l = [] → fitS s l = false := (okB_iff.1 (okB_fit s l)).2.2
  have HS := Lib.hid fs
  have HTP := Lib.hid ft
  have HZ := Lib.hid fz
  clear hb1 fs ft fz
  obtain ⟨a1, c1, rfl, -⟩ := hl1
  generalize hES : fitS s l = S at *
  generalize hEL : fitL s l = L at *
  have HES := Lib.hid hES
  have HEL := Lib.hid hEL
  clear hES hEL
  obtain ⟨x1, x2, x3, x4⟩ := M2.out
  have hW2 : ∃ W2, ((w1.setCell ⟨w.heap.size, 0, none⟩ (.bool S)).setCell ⟨w.heap.size, 1, none⟩ (.slice a1 L.length c1)) = W2 ∧ NumBox W2 w.heap.size (.bool S) (.slice a1 L.length c1) ∧ Lim W2 (.slice a1 L.length c1) L ∧ Below w.heap.size w W2 := by
    refine ⟨_, rfl, (M2.out.set0 _).set1 _, (HL1.out.setOther x1 (by simp) _).setOther (M2.out.set0 _).2.1 (by simp) _, (by repeat (first | exact Below.refl _ _ | with_reducible refine Below.drew ?_ | with_reducible refine below_drewN ?_ _ | with_reducible refine Below.setCell ?_ (by first | (simp; done) | (simp; omega) | omega) _ | with_reducible refine Below.alloc ?_ (by first | (simp; done) | (simp; omega) | omega) _ | (with_reducible refine Below.step ?_ HB1.out)))⟩
  obtain ⟨W2, e2, m3, hl3, hb3⟩ := hW2
  have E2 := Lib.hid e2
  have M3 := Lib.hid m3
  have HL3 := Lib.hid hl3
  have HB3 := Lib.hid hb3
  clear e2 m3 hl3 hb3
  go_upto_region 2 with fail
  rw [E2.out]
  obtain ⟨y1, y2, y3, y4⟩ := M3.out
  rcases Nat.eq_zero_or_pos L.length with h0 | hpos
  · have hL : L = [] := List.eq_nil_of_length_eq_zero h0
    have hS := HZ.out hL
    subst hL
    subst hS
    go_wp2_with fail
    exact ⟨.string ⟨#[48]⟩, by simp [results, Tryz.f32, go_sem], by rw [HES.out, HEL.out, txt_nil], HB3.out⟩
  · have hz : ((L.length : Int) == 0) = false := by rw [beq_eq_false_iff_ne]; omega
    have hB4 : Below W2.heap.size W2 (W2.alloc (Obj.cells #[Value.pointer none, Value.slice none 0 0] 108)) := (by repeat (first | exact Below.refl _ _ | with_reducible refine Below.drew ?_ | with_reducible refine below_drewN ?_ _ | with_reducible refine Below.setCell ?_ (by first | (simp; done) | (simp; omega) | omega) _ | with_reducible refine Below.alloc ?_ (by first | (simp; done) | (simp; omega) | omega) _))
    have hI4 := Lib.fresh_isBuilder 108 5 W2
    have HI4 := Lib.hid hI4
    have HB4 := Lib.hid hB4
    have M4 := Lib.hid (M3.out.below hB4)
    clear hI4 hB4
    obtain ⟨z1, z2, z3, z4⟩ := M4.out
    go_upto_if 14 with fail
    go_cut [3] from 13 (fun s3 wx => s3 = .pointer (some ⟨W2.heap.size, 0, none⟩) ∧ Lib.IsBuilder 108 5 W2.heap.size W2.heap.size (Lib.byteCells (if S then [45] else [])) wx ∧ NumBox wx w.heap.size (.bool S) (.slice a1 L.length c1) ∧ Below W2.heap.size W2 wx)
    case first =>
      have hsz : w.heap.size < W2.heap.size := M3.out.lt
      cases S
      · go_wp2_with fail
        go_meet
        exact ⟨rfl, HI4.out, M4.out, HB4.out⟩
      · go_wp2_with fail
        refine (WriteByte_any W2.heap.size W2.heap.size [] 45 _ HI4.out (by simp) (by simp)).mono ?_
        rintro e w5 ⟨rfl, hi5, hb5, hk5⟩
        go_wp2_with fail
        go_meet
        refine ⟨rfl, hi5, ?_, HB4.out.trans hb5⟩
        exact M3.out.below (HB4.out.trans hb5)
    case rest =>
      obtain ⟨rfl, hI5, M5, hB5⟩ := hcut
      have HI5 := Lib.hid hI5
      have HM5 := Lib.hid M5
      have HB5 := Lib.hid (Below.step HB3.out hB5)
      have HW5 := Lib.hid hB5
      have hL5 := HL3.out.below hB5
      have HL5 := Lib.hid hL5
      have hsz5 := hB5.size
      clear z1 z2 z3 z4
      obtain ⟨z1, z2, z3, z4⟩ := M5
      obtain ⟨a', c', he, hcl1, hcap, -, hc⟩ := hL5
      injection he with he1 he2 he3
      subst he1
      subst he3
      clear he2 hB5 hI5
      rcases hc with ⟨_, rfl, _⟩ | ⟨b, o, rfl, hc⟩
      · simp at hpos
      · have hcell := hc (L.length - 1) (by omega)
        have hpt := pt_lt (by decide) HS.out (L.length - 1)
        have hptI : (pt L (L.length - 1) : Int) ≤ 999999999 := by omega
        unfold maxLen at hcap
        clear hc hpt
        go_wp2_with fail
        refine (Itoa_any (pt L (L.length - 1)) (by omega) _ (HT.out _ HB5.out)).mono ?_
        rintro e w6 ⟨rfl, hb6⟩
        have hI6 := builder_below HI5.out hb6
        have HI6 := Lib.hid hI6
        have M6 := Lib.hid (HM5.out.below hb6)
        have HW6 : Hid (Below W2.heap.size W2 w6) := HW5.out.trans (hb6.mono hsz5)
        have hsz6 := hb6.size
        clear hI6 hcell z1 z2 z3 z4
        have hlen0 : (Lib.decDigits (pt L (L.length - 1))).length ≤ 20 := decDigits_len (by have := pt_lt (by decide) HS.out (L.length - 1); omega)
        have HLEN := Lib.hid hlen0
        clear hlen0
        go_wp2_with fail
        refine (WriteString_any W2.heap.size W2.heap.size _ ⟨(Lib.decDigits (pt L (L.length - 1))).toArray⟩ _ HI6.out (by rw [Lib.byteCells_length]; have := HLEN.out; simp [ByteArray.size]; split <;> simp <;> omega) (by omega)).mono ?_
        rintro e w7 ⟨rfl, hi7, hb7, hk7⟩
        have HI7 : Hid (Lib.IsBuilder 108 5 W2.heap.size W2.heap.size (Lib.byteCells (txtAt S L 0)) w7) := by
          show Lib.IsBuilder _ _ _ _ _ _
          rw [txtAt_zero hpos, byteCells_append, ← strCells_bytes]
          exact hi7
        have HW7 : Hid (Below W2.heap.size W2 w7) := HW6.out.trans hb7
        have M7 := Lib.hid (M3.out.below HW7.out)
        have hsz7 := hb7.size
        obtain ⟨z1, z2, z3, z4⟩ := M7.out
        clear hi7 hb7 hk7
        obtain ⟨Z, hzl, hzp, hzs⟩ : ∃ Z : List Nat, Z.length = L.length - 1 ∧ (∀ i, i < L.length - 1 → pt Z i = pt L i) ∧ ∀ x ∈ Z, x < 1000000000 :=
          ⟨L.take (L.length - 1), by rw [List.length_take]; omega, fun i hi => pt_take hi, small_take HS.out _⟩
        have HZP := Lib.hid hzp
        have HZS := Lib.hid hzs
        clear hzp hzs
        have HZL := Lib.hid hzl
        have hlz : LimB W2.heap.size w7 (.slice (some ⟨b, o, none⟩) Z.length c1) Z := by
          obtain ⟨a', c', he, q1, q2, q4⟩ := HL3.out.limB.below HW7.out
          injection he with he1 he2 he3
          subst he3
          refine ⟨_, c1, rfl, by rw [HZL.out]; omega, q2, ?_⟩
          rcases q4 with ⟨q4, _⟩ | ⟨b', o', q4, q5, q6⟩
          · rw [q4] at he1; cases he1
          · rw [q4] at he1
            injection he1 with he1
            injection he1 with r1 r2
            subst r1
            subst r2
            refine .inr ⟨b, o, rfl, ?_, fun i hi => ?_⟩
            · rcases q5 with q5 | q5
              · rw [q5] at hpos; simp at hpos
              · exact .inr q5
            · rw [HZL.out] at hi
              rw [q6 i (by omega), HZP.out i (by omega)]
        rw [hzl] at hlz
        have HLZ := Lib.hid hlz
        clear hzl hlz
        go_wp2_with fail
        refine (callsIn_wide (n := 2)).1 ((back_in Fence.wide 2 trivial rfl _ _ _ _).mono ?_)
        rintro e w8 ⟨rfl, rfl⟩
        have hB8 : Below w7.heap.size w7 (w7.alloc (Obj.cells #[Value.slice (some ⟨b, o, none⟩) (L.length - 1) c1] 22)) := (by repeat (first | exact Below.refl _ _ | with_reducible refine Below.drew ?_ | with_reducible refine below_drewN ?_ _ | with_reducible refine Below.setCell ?_ (by first | (simp; done) | (simp; omega) | omega) _ | with_reducible refine Below.alloc ?_ (by first | (simp; done) | (simp; omega) | omega) _))
        have bB := CellsAt.new w7 #[Value.slice (some ⟨b, o, none⟩) (L.length - 1) c1] 22
        have hK : SeqStopsK Fence.wide (3 - 1) Tryz.prog 192 #[.pointer (some ⟨w7.heap.size, 0, none⟩)] (fun x : Nat => #[Value.int .i64 (idxB Z x : Nat), Value.int .u32 (pt Z (idxB Z x) : Nat)]) (KpB W2.heap.size w7.heap.size) (fun ys => ys = List.range Z.length) (fun pre => ∃ k, k ≤ Z.length ∧ pre = List.range k) Z.length (w7.alloc (Obj.cells #[Value.slice (some ⟨b, o, none⟩) (L.length - 1) c1] 22)) :=
          back_stops Fence.wide (3 - 1) trivial rfl (by omega) w7.heap.size W2.heap.size _ _ _ (by simp) (by have := HW7.out.size; simp; omega) (bB.cell 0) (LimB.below (hB8.mono HW7.out.size) HLZ.out)
        have HLT7 : Hid (W2.heap.size < w7.heap.size) := by
          rcases HI7.out with h9 | h9 <;> exact h9.lt
        have HK := Lib.hid hK
        have HBB := Lib.hid bB
        have HB8 := Lib.hid hB8
        have hi8 := builder_below HI7.out hB8
        have HI8 := Lib.hid hi8
        clear hK bB hB8 hi8 z1 z2 z3 z4
        go_wp2_with fail
        rw [← wpIn_wide (n := 3)]
        refine wpIn_rangeFunc_ownG rfl (by omega) (gf := 192) (lb := #[.pointer (some ⟨w7.heap.size, 0, none⟩)]) rfl trivial (enters_of Tryz.func192 (by kernel_rfl) rfl)
          HK.out KpB.trans (kpB_b (by have := HW7.out.size; simp; omega) (by simp)) (Below.refl _ _) (fun _ => rfl)
          (fun pre W => ((∃ T : List UInt8, Lib.IsBuilder 108 5 W2.heap.size W2.heap.size (Lib.byteCells T) W ∧ T.length ≤ 21 + 20 * pre.length ∧ (pre = List.range pre.length → pre.length ≤ L.length - 1 → T = txtAt S L pre.length)) ∧ CellsAt W w7.heap.size #[Value.slice (some ⟨b, o, none⟩) (L.length - 1) c1] 22) ∧ Below W2.heap.size W2 W)
          (fun _ _ _ => False)
          (OwnFrom.and (Go.Own.from (fun s A B row hs hg hr => by
            obtain ⟨⟨T, h1, h2, h3⟩, h4⟩ := hs
            refine ⟨⟨T, builder_kept h1 hg hr, h2, h3⟩, (hg.block _ (Array.getElem?_eq_some_iff.1 h4).1 (fun e1 => ?_)).trans h4⟩
            obtain ⟨o1, g1, g2⟩ := hr _ e1.symm
            unfold CellsAt at h4
            rw [h4] at g1; injection g1 with g1; subst g1; simp [Obj.isCells] at g2) _) (ownFrom_below (Nat.le_refl _) (by have := HW7.out.size; simp; omega)))
          (fun _ _ _ _ _ hs _ _ => hs)
          ⟨⟨⟨txtAt S L 0, HI8.out, ?len0, fun _ _ => rfl⟩, HBB.out⟩, HW7.out.trans (HB8.out.mono HW7.out.size)⟩
          (fun x => { tmps := #[Value.agg #[Value.bool s, Value.slice a l.length c], .pointer (some ⟨w.heap.size, 0, none⟩), .string ⟨#[]⟩, .pointer (some ⟨W2.heap.size, 0, none⟩), .int .i64 ((L.length : Int) - 1), undef, .int .u32 (pt Z (idxB Z x) : Nat), Value.agg #[Value.bool s, Value.slice a l.length c], .agg #[.bool S, .slice (some ⟨b, o, none⟩) L.length c1], .pointer (some ⟨w.heap.size, 1, none⟩), .slice (some ⟨b, o, none⟩) L.length c1, .int .i64 (L.length : Nat), .bool false, u13, u14, u15, .pointer (some ⟨w.heap.size, 1, none⟩), .slice (some ⟨b, o, none⟩) L.length c1, .int .i64 (L.length : Nat), .int .i64 ((L.length : Int) - 1), .pointer (some ⟨w.heap.size, 1, none⟩), .slice (some ⟨b, o, none⟩) L.length c1, .int .i64 ((L.length : Int) - 1), .pointer (some ⟨b, o + (L.length - 1), none⟩), .int .u32 (pt L (L.length - 1) : Nat), .int .i64 (pt L (L.length - 1) : Nat), .string ⟨(Lib.decDigits (pt L (L.length - 1))).toArray⟩, .tuple #[.int .i64 ((Lib.decDigits (pt L (L.length - 1))).length : Nat), .nilIface], .pointer (some ⟨w.heap.size, 1, none⟩), .slice (some ⟨b, o, none⟩) L.length c1, .int .i64 ((L.length : Int) - 1), .slice (some ⟨b, o, none⟩) (L.length - 1) c1, .func (.func 192) #[] #[.pointer (some ⟨w7.heap.size, 0, none⟩)], .int .i64 (idxB Z x : Nat), .int .u32 (pt Z (idxB Z x) : Nat), u35, u36, u37, u38, u39, u40, u41], defers := [] }) ?assign ?body ?done ?stop
        case len0 => rw [txtAt_zero hpos]; have := HLEN.out; split <;> simp <;> omega
        case assign =>
          intro l' x W K hK
          gi_wp2
          exact hK
        case body =>
          rintro l' pre x W ⟨⟨⟨T, hI, hTl, hpre⟩, hbx⟩, hB⟩ hlen
          have HP := Lib.hid hpre
          have HBW := Lib.hid hB
          have HI := Lib.hid hI
          have HBX := Lib.hid hbx
          have hx : pt Z (idxB Z x) < 1000000000 := pt_lt (by decide) HZS.out _
          have hxI : (pt Z (idxB Z x) : Int) ≤ 999999999 := by omega
          have HX := Lib.hid hx
          clear hpre hB hI hbx hx
          gi_wp2_with fail
          refine ⟨trivial, ?_⟩
          refine (CallsIn.inRound l' (callsIn_wide.2 (Itoa_nine _ (pt Z (idxB Z x)) rfl HX.out W (HT.out _ (Below.step HB3.out HBW.out))))).mono ?_
          rintro e w9 ⟨q, rfl, hq1, hq2, hb9⟩
          have hI9 := builder_below HI.out hb9
          have HI9 := Lib.hid hI9
          have HB9 := Lib.hid hb9
          have HQ2 := Lib.hid hq2
          have hqs : 1 ≤ q.size := by omega
          have hqsI : (1 : Int) ≤ (q.size : Int) := by omega
          have hszW := HBW.out.size
          have hsz9 := hb9.size
          have HQ1 := Lib.hid hq1
          clear hI9 hb9 hq2 hq1
          gi_wp2_with fail
          refine ⟨trivial, ?_⟩
          have hqx : (q.extract 1 q.size).size = 9 := by rw [ByteArray.size_extract]; have := HQ1.out; omega
          have HQX := Lib.hid hqx
          clear hqx
          refine (CallsIn.inRound l' (callsIn_wide.2 (WriteString_any W2.heap.size W2.heap.size _ _ _ HI9.out (by rw [Lib.byteCells_length, HQX.out]; have := HZL.out; omega) (by omega)))).mono ?_
          rintro e w10 ⟨rfl, hi10, hb10, hk10⟩
          obtain ⟨cs9, T9, fr9, hcs9⟩ : ∃ cs T fr, w9.heap[W2.heap.size]? = some (.cells cs T fr) := by
            rcases HI9.out with ⟨_, v9, h9, _⟩ | ⟨_, v9, h9, _⟩ <;> exact ⟨_, _, _, h9⟩
          have hko := (hk10.others hcs9)
          have hbx9 : CellsAt w9 w7.heap.size #[Value.slice (some ⟨b, o, none⟩) (L.length - 1) c1] 22 := (HB9.out.block _ (Array.getElem?_eq_some_iff.1 HBX.out).1).trans HBX.out
          have hbx10 := hk10.cellsAt hbx9 (Nat.ne_of_gt HLT7.out) (by decide)
          have hKp : KpB W2.heap.size w7.heap.size W w10 := ⟨(HB9.out.mono hszW).trans hb10, by rw [hbx10.cell, HBX.out.cell]⟩
          have HI10 := Lib.hid hi10
          have HKO : Hid (KeepsOthers W w10) := ⟨Nat.le_trans HB9.out.size hko.size, fun k ob hk ho => hko.same k ob ((HB9.out.block k (Array.getElem?_eq_some_iff.1 hk).1).trans hk) ho⟩
          have HBX10 := Lib.hid hbx10
          have HKP := Lib.hid hKp
          have HB10 := Lib.hid hb10
          clear hi10 hb10 hk10 hcs9 hko hbx9 hbx10 hKp
          gi_wp2
          refine ⟨HKO.out.from _, HKP.out, ⟨⟨T ++ padK 9 (pt Z (idxB Z x)), ?_, ?_, fun hr hle => ?_⟩, HBX10.out⟩, HBW.out.trans HKP.out.1⟩
          · rw [byteCells_append, ← HQ2.out _ rfl]
            exact HI10.out
          · rw [List.length_append, padK_length, List.length_append, List.length_singleton]; omega
          · rw [List.length_append, List.length_singleton] at hr hle ⊢
            rw [List.range_succ] at hr
            obtain ⟨r1, r2⟩ := List.append_inj' hr rfl
            obtain rfl : x = pre.length := by simpa using r2
            rw [HP.out r1 (by omega), txtAt_succ (by have := HZL.out; omega) HTP.out HS.out]
            congr 1
            have hi : idxB Z pre.length = L.length - 1 - (pre.length + 1) := by unfold idxB; have := HZL.out; omega
            rw [hi, HZP.out _ (by omega)]
        case done =>
          rintro D ys W hD rfl ⟨⟨⟨T, hI, hTl, hpre⟩, hbx⟩, hB⟩ hK
          have hT : T = txt S L := by rw [hpre (by simp) (by have := HZL.out; simp; omega), List.length_range, HZL.out, txtAt_all hpos]
          subst hT
          have HBW := Lib.hid hB
          have HI := Lib.hid hI
          have HKK := Lib.hid hK
          have hszW := hB.size
          clear hpre hbx hB hI hK
          go_wp2_with fail
          refine (Builder_String_at W2.heap.size W2.heap.size (txt S L) W HI.out hszW).mono ?_
          rintro e w11 ⟨rfl, hb11, hdef⟩
          go_wp2
          have hK2 := hdef D _ HKK.out rfl
          refine ⟨by simp, .inl ⟨_, _, rfl, run_takeDeferred hK2, ?_⟩⟩
          refine ⟨.string ⟨(txt S L).toArray⟩, by simp [results, Tryz.f32, go_sem], by rw [HES.out, HEL.out], ?_⟩
          refine Below.step HB3.out ((HBW.out.trans hb11).trans (belowK_b (w := W2) (Nat.le_refl _) w11 D _ _ (by have := HW7.out.size; simp at hD; omega) hK2 rfl rfl))
        case stop =>
          rintro D c pre W hD _ h _
          exact h.elim

end Go.Proofs.YtgpoljbccimkjaaGreatDoor
