/- Walks: a text, cut where a slash stands first. -/
import Derived.Test.YtgpoljbccimkjaaGreatDoorFLaw
import Derived.Test.YtgpoljbccimkjaaGreatDoorShelf2
import Derived.Lib.IndexLaws
import Derived.Lib.TrimByte
import Derived.Deep.QuietTactic
import Derived.BigQuiet
import Derived.IntWalk
namespace Go.Proofs.YtgpoljbccimkjaaGreatDoor
set_option linter.unusedSimpArgs false
set_option linter.unusedVariables false
open Go.RowKit Go.Shelf

/-- What stands ahead of the first slash, what behind, and whether there is one. -/
def cutAt : List UInt8 → List UInt8 × List UInt8 × Bool
  | [] => ([], [], false)
  | b :: l => if b == 47 then ([], l, true) else (b :: (cutAt l).1, (cutAt l).2.1, (cutAt l).2.2)

theorem cutAt_none : ∀ {l : List UInt8}, Lib.indexByte l 47 = -1 → cutAt l = (l, [], false)
  | [], _ => rfl
  | b :: l, h => by
    unfold Lib.indexByte at h
    unfold cutAt
    have hge := Lib.indexByte_ge l 47
    by_cases hb : (b == 47) = true
    · rw [if_pos hb] at h
      exact absurd h (by decide)
    · rw [if_neg hb] at h
      by_cases hi : (Lib.indexByte l 47 == -1) = true
      · have := cutAt_none (l := l) (by simpa using hi)
        rw [if_neg hb, this]
      · rw [if_neg hi] at h
        exfalso
        have hi2 : Lib.indexByte l 47 ≠ -1 := by simpa using hi
        omega
theorem cutAt_some : ∀ {l : List UInt8} {o : Nat}, Lib.indexByte l 47 = o → o < l.length ∧ cutAt l = (l.take o, l.drop (o + 1), true)
  | [], o, h => by
    unfold Lib.indexByte at h
    omega
  | b :: l, o, h => by
    unfold Lib.indexByte at h
    unfold cutAt
    have hge := Lib.indexByte_ge l 47
    by_cases hb : (b == 47) = true
    · rw [if_pos hb] at h
      obtain rfl : o = 0 := by omega
      rw [if_pos hb]
      exact ⟨by simp, rfl⟩
    · rw [if_neg hb] at h
      by_cases hi : (Lib.indexByte l 47 == -1) = true
      · rw [if_pos hi] at h
        omega
      · rw [if_neg hi] at h
        have hi2 : Lib.indexByte l 47 ≠ -1 := by simpa using hi
        obtain ⟨o', rfl⟩ : ∃ o', o = o' + 1 := ⟨o - 1, by omega⟩
        obtain ⟨h1, h2⟩ := cutAt_some (l := l) (o := o') (by omega)
        rw [if_neg hb, h2]
        exact ⟨by simpa using h1, rfl⟩

set_option maxRecDepth 100000
theorem run_cutHi (l : List UInt8) (o : Nat) (ho : o ≤ l.length) (hl : l.length ≤ 100000) (W : World) : (Instr.sliceAt 9 (.string ⟨l.toArray⟩) none (some (.int .i64 o)) none).run Tryz.prog W = .ok (.string ⟨(l.take o).toArray⟩) W := by
  have h1 : (0 : Int) ≤ (o : Int) := by omega
  have h2 : (o : Int) ≤ (l.length : Int) := by omega
  go_simp
  rw [Lib.extract_mk]
  simp
theorem run_cutLo (l : List UInt8) (o : Nat) (ho : o < l.length) (hl : l.length ≤ 100000) (W : World) : (Instr.sliceAt 9 (.string ⟨l.toArray⟩) (some (.int .i64 (o + 1 : Nat))) none none).run Tryz.prog W = .ok (.string ⟨(l.drop (o + 1)).toArray⟩) W := by
  have h1 : (0 : Int) ≤ ((o + 1 : Nat) : Int) := by omega
  have h2 : ((o + 1 : Nat) : Int) ≤ (l.length : Int) := by omega
  go_simp
  rw [if_pos ⟨by omega, by omega⟩, Lib.extract_mk, List.take_of_length_le (by simp)]

section
variable {bs : List (Nat × Bool)} {fs : List (Nat × (Value → World → Prop))} {w0 : World} {d : Nat} {ty : TypeId} {pos : String} {af : Array Edge} {g : Option (Nat × Bool)}
theorem step_sliceHi {x y : Nat} {s s' : ByteArray} {o : Int} (hx : ∀ v w, Known bs fs x v w → v = .string s) (hy : ∀ v w, Known bs fs y v w → v = .int .i64 o) (hr : ∀ W : World, (Instr.sliceAt 9 (.string s) none (some (.int .i64 o)) none).run Tryz.prog W = .ok (.string s') W) (h : ∀ w, Known bs fs d (.string s') w) : StepOk Tryz.prog bs fs w0 ⟨some d, .slice 9 (.tmp x) none (some (.tmp y)) none, ty, pos, af, g⟩ :=
  step_value rfl fun a w hb hk => ⟨_, w, by
    have h1 := hx _ _ (hk x (by simp [looks, Op.operands]))
    have h2 := hy _ _ (hk y (by simp [looks, Op.operands]))
    simp only [execOp, h1, h2, Option.map_some, Option.map_none]
    exact value_run (hr w), h _, Below.refl _ _⟩
theorem step_sliceLo {x y : Nat} {s s' : ByteArray} {o : Int} (hx : ∀ v w, Known bs fs x v w → v = .string s) (hy : ∀ v w, Known bs fs y v w → v = .int .i64 o) (hr : ∀ W : World, (Instr.sliceAt 9 (.string s) (some (.int .i64 o)) none none).run Tryz.prog W = .ok (.string s') W) (h : ∀ w, Known bs fs d (.string s') w) : StepOk Tryz.prog bs fs w0 ⟨some d, .slice 9 (.tmp x) (some (.tmp y)) none none, ty, pos, af, g⟩ :=
  step_value rfl fun a w hb hk => ⟨_, w, by
    have h1 := hx _ _ (hk x (by simp [looks, Op.operands]))
    have h2 := hy _ _ (hk y (by simp [looks, Op.operands]))
    simp only [execOp, h1, h2, Option.map_some, Option.map_none]
    exact value_run (hr w), h _, Below.refl _ _⟩
theorem step_lenS {x : Nat} {s : ByteArray} (hx : ∀ v w, Known bs fs x v w → v = .string s) (h : ∀ w, Known bs fs d (.int .i64 s.size) w) : StepOk Tryz.prog bs fs w0 ⟨some d, .call { callee := .builtin .len, args := #[.tmp x], argTypes := #[9] }, 3, pos, af, g⟩ :=
  step_value rfl fun a w hb hk => ⟨_, w, by
    have h1 := hx _ _ (hk x (by simp [looks, Op.operands, Call.operands]))
    simp only [execOp, resolve, List.map_toArray, List.map_cons, List.map_nil, h1]
    go_simp, h _, Below.refl _ _⟩
theorem step_addI {x y : Nat} {t' : TypeId} {m n k : Int} (hx : ∀ v w, Known bs fs x v w → v = .int .i64 m) (hy : ∀ v w, Known bs fs y v w → v = .int .i64 n) (hb' : IntKind.i64.wrap (m + n) = k) (h : ∀ w, Known bs fs d (.int .i64 k) w) : StepOk Tryz.prog bs fs w0 ⟨some d, .binOp .add 3 (.tmp x) (.tmp y) t', ty, pos, af, g⟩ :=
  step_value rfl fun a w hb hk => ⟨.int .i64 k, w, by
    have h1 := hx _ _ (hk x (by simp [looks, Op.operands]))
    have h2 := hy _ _ (hk y (by simp [looks, Op.operands]))
    simp only [execOp, h1, h2, ← hb']
    go_simp, h _, Below.refl _ _⟩
theorem step_assignc {c : Value} (h : ∀ w, Known bs fs d c w) : StepOk Tryz.prog bs fs w0 ⟨some d, .assign (.const c), ty, pos, af, g⟩ :=
  step_value rfl fun a w hb hk => ⟨c, w, rfl, h _, Below.refl _ _⟩
end

set_option maxRecDepth 100000 in
theorem ret_3 {fn : Func} {R : Ending → World → Prop} {a : Act} {w : World} {i j k : Nat} {x y z : Value} (hr : fn.results = #[.tmp i, .tmp j, .tmp k]) (hd : a.defers = []) (h1 : a.eval (.tmp i) = x) (h2 : a.eval (.tmp j) = y) (h3 : a.eval (.tmp k) = z)
    (hR : R (.returned (.tuple #[x, y, z])) w) : bodyPost Tryz.prog fn R .ret a w := by
  have e1 : a.tmps[i]?.getD undef = x := by rw [← Array.getD_eq_getD_getElem?]; exact h1
  have e2 : a.tmps[j]?.getD undef = y := by rw [← Array.getD_eq_getD_getElem?]; exact h2
  have e3 : a.tmps[k]?.getD undef = z := by rw [← Array.getD_eq_getD_getElem?]; exact h3
  refine bodyPost_ret (v := .tuple #[x, y, z]) ?_ hd hR
  simp [results, hr, go_sem, e1, e2, e3]

set_option maxHeartbeats 2000000 in
theorem CutL_slash (l : List UInt8) (w : World) (hl : l.length ≤ 100000) :
    Calls Tryz.prog 201 #[.string ⟨l.toArray⟩, .string ⟨#[47]⟩] w fun e w' => e = .returned (.tuple #[.string ⟨(cutAt l).1.toArray⟩, .string ⟨(cutAt l).2.1.toArray⟩, .bool (cutAt l).2.2]) ∧ Below w.heap.size w w' := by
  rcases Int.lt_or_le (Lib.indexByte l 47) 0 with hi | hi
  · have hi1 : Lib.indexByte l 47 = -1 := by have := Lib.indexByte_ge l 47; omega
    rw [cutAt_none hi1]
    have HI := Lib.hid hi1
    clear hi hi1
    go_enter Tryz.func201, Tryz.ntmps201
    go_wp2_with fail
    refine (Tryz.stringslite_Index_one ⟨l.toArray⟩ 47 w).mono ?_
    rintro e w' ⟨rfl, rfl⟩
    rw [show (⟨l.toArray⟩ : ByteArray).data.toList = l from rfl, HI.out]
    go_wp2_with fail
    exact bodyPost_ret (v := .tuple #[.string ⟨l.toArray⟩, .string ⟨#[]⟩, .bool false]) (by simp [results, Tryz.results201, go_sem]) rfl ⟨rfl, Below.refl _ _⟩
  · obtain ⟨o, ho⟩ : ∃ o : Nat, Lib.indexByte l 47 = o := ⟨(Lib.indexByte l 47).toNat, by omega⟩
    obtain ⟨h1, h2⟩ := cutAt_some ho
    rw [h2]
    have HI := Lib.hid ho
    clear hi ho h2
    go_enter Tryz.func201, Tryz.ntmps201
    go_wp2_with fail
    refine (Tryz.stringslite_Index_one ⟨l.toArray⟩ 47 w).mono ?_
    rintro e w' ⟨rfl, rfl⟩
    rw [show (⟨l.toArray⟩ : ByteArray).data.toList = l from rfl, HI.out]
    go_upto_region 3 with fail
    rename_i K3 hK3
    refine wp_region_known [(6, true)]
      [(0, IsV (.string ⟨l.toArray⟩)), (1, IsV (.string ⟨#[47]⟩)), (7, IsV (.int .i64 o))]
      [(13, IsV (.string ⟨l.toArray⟩)), (14, IsV (.int .i64 o)), (15, IsV (.string ⟨(l.take o).toArray⟩)), (16, IsV (.string ⟨l.toArray⟩)), (17, IsV (.int .i64 o)), (18, IsV (.string ⟨#[47]⟩)), (19, IsV (.int .i64 1)), (20, IsV (.int .i64 (o + 1 : Nat))), (21, IsV (.string ⟨(l.drop (o + 1)).toArray⟩)), (4, IsV (.string ⟨(l.take o).toArray⟩)), (5, IsV (.string ⟨(l.drop (o + 1)).toArray⟩))]
      23 (by kernel_rfl) rfl (by kernel_rfl) (by kernel_rfl) ⟨rfl, rfl, rfl, trivial⟩ ⟨IsV.grows _, IsV.grows _, IsV.grows _, IsV.grows _, IsV.grows _, IsV.grows _, IsV.grows _, IsV.grows _, IsV.grows _, IsV.grows _, IsV.grows _, IsV.grows _, IsV.grows _, IsV.grows _, trivial⟩ ?_ ?_
    · refine AllStep.cons (step_move (fun _ _ h => h)) ?_
      refine AllStep.cons (step_move (fun _ _ h => h)) ?_
      refine AllStep.cons (step_sliceHi (fun _ _ h => h) (fun _ _ h => h) (fun W => run_cutHi l o (by omega) (by omega) W) (fun _ => rfl)) ?_
      refine AllStep.cons (step_move (fun _ _ h => h)) ?_
      refine AllStep.cons (step_move (fun _ _ h => h)) ?_
      refine AllStep.cons (step_move (fun _ _ h => h)) ?_
      refine AllStep.cons (step_lenS (fun _ _ h => h) (fun _ => rfl)) ?_
      refine AllStep.cons (step_addI (fun _ _ h => h) (fun _ _ h => h) (by rw [IntWalk.i64_in _ (by omega)]; omega) (fun _ => rfl)) ?_
      refine AllStep.cons (step_sliceLo (fun _ _ h => h) (fun _ _ h => h) (fun W => run_cutLo l o h1 (by omega) W) (fun _ => rfl)) ?_
      refine AllStep.cons (step_assign (fun _ _ h => h)) ?_
      refine AllStep.cons (step_assign (fun _ _ h => h)) ?_
      refine AllStep.cons (step_assignc (fun _ => rfl)) ?_
      exact AllStep.nil
    · intro a' w' hb hs hd hk
      refine hK3 a' w' ?_
      refine wp_ret ?_
      simp only [Exit.then]
      refine ret_3 (z := .bool true) rfl hd (hk 4) (hk 5) ?_ ?_
      · exact hk 6
      · exact ⟨rfl, hb⟩

theorem Cut_slash (l : List UInt8) (w : World) (hl : l.length ≤ 100000) :
    Calls Tryz.prog 147 #[.string ⟨l.toArray⟩, .string ⟨#[47]⟩] w fun e w' => e = .returned (.tuple #[.string ⟨(cutAt l).1.toArray⟩, .string ⟨(cutAt l).2.1.toArray⟩, .bool (cutAt l).2.2]) ∧ Below w.heap.size w w' := by
  go_enter Tryz.func147, Tryz.ntmps147
  go_wp2_with fail
  refine (CutL_slash l w hl).mono ?_
  rintro e w' ⟨rfl, hb⟩
  go_wp2_with fail
  exact bodyPost_ret (v := .tuple #[.string ⟨(cutAt l).1.toArray⟩, .string ⟨(cutAt l).2.1.toArray⟩, .bool (cutAt l).2.2]) (by simp [results, Tryz.results147, go_sem]) rfl ⟨rfl, hb⟩

end Go.Proofs.YtgpoljbccimkjaaGreatDoor
