/- From the rows to the walks: fractions as arguments. -/
import Derived.Test.YtgpoljbccimkjaaGreatDoorCards
import Derived.Test.YtgpoljbccimkjaaGreatDoorTie
import Derived.Test.YtgpoljbccimkjaaGreatDoorTab
import Derived.Test.YtgpoljbccimkjaaGreatDoorW5
import Derived.WalkKit
import Derived.ProofKit
import Derived.OpenShut
import Derived.ReadAgain
import Derived.Below
import Derived.ChangeSame
import Derived.Deep.DeepHandedRow
import Derived.Deep.Slices
import Derived.Lib.LaidTab
import Derived.Lib.SmallJoins
import Derived.Laws.StructEq
namespace Go.Proofs.YtgpoljbccimkjaaGreatDoor
set_option linter.unusedSimpArgs false
set_option linter.unusedVariables false
open Go.ChangeShapes Go.WideShapes Go.ChangeAt Go.RowKit Go.Joins Go.Deep

theorem own_knob : ownKnob Tryz.prog.godebug = none := by kernel_rfl

theorem laidMet_rest {P : Program} {x : String × DataW Unit} {l : List (String × DataW Unit)} {w : World} (h : laidMet P (x :: l) w) : laidMet P l w := by
  obtain ⟨ps, hv, hn, hc⟩ := h
  obtain ⟨n, d⟩ := x
  obtain ⟨g, t, cs, fuel, p, q, h1, h2, h3, h4, h5, rfl⟩ := hv
  exact ⟨q, h5, (List.nodup_append.1 hn).2.1, fun b off hm => hc b off (List.mem_append_right _ hm)⟩

theorem tab_of {W : World} (h : laidMet Tryz.prog Rows.limbsDivsRow.laid W) : Tab W := by
  have h2 := laidMet_rest (laidMet_rest h)
  exact Lib.tabIs_of_head (rest := []) (g := 3) (t := 240) (e := 100) (n := 20) (by kernel_rfl) (by kernel_rfl) (by kernel_rfl) (by kernel_rfl) (by kernel_rfl) (by kernel_rfl) h2

theorem addr_add (b o i : Nat) : (⟨b, o, none⟩ : Addr).add i = ⟨b, o + i, none⟩ := by
  unfold Addr.add
  split
  · next h => subst h; rfl
  · rfl
theorem u32_wf {k : Int} (h : (Lit.int .u32 k).wf = true) : 0 ≤ k ∧ k < 4294967296 := by
  simp only [Lit.wf, Bool.and_eq_true, decide_eq_true_eq] at h
  have e1 : IntKind.u32.min = 0 := rfl
  have e2 : IntKind.u32.max = 4294967295 := rfl
  omega

set_option maxRecDepth 100000
section
variable {H : Type} {enc : TypeId × Value → H} {W : World} {base : Nat}

theorem numFields : Tryz.prog.underlying 24 = some (.struct (Tryz.prog.fieldsOf 24)) := by kernel_rfl

theorem spot_of {v0 : Value} {a : Addr} {n c : Nat} (h : Value.okWide Tryz.prog W .any base 24 (.agg #[v0, .slice (some a) n c])) : a.spot = none := by
  unfold Value.okWide at h
  rw [numFields] at h
  obtain ⟨cs, e, hsz, ts, hts, -, hc⟩ := h
  injection e with e
  subst e
  have ht : Tryz.prog.cellTypes Tryz.prog.depth 24 = some [4, 22] := by kernel_rfl
  rw [ht] at hts
  injection hts with hts
  subst hts
  obtain ⟨u, hu, hk⟩ := hc 1 _ rfl
  have hu' : u = 22 := by simpa using hu.symm
  subst hu'
  have hsl : Tryz.prog.underlying 22 = some (.slice 99) := by kernel_rfl
  simp only [Cell.okWide, Cell.ok, hsl] at hk
  exact hk.2.2.2.1

theorem spot_of_slice {a : Addr} {n c : Nat} (h : Value.okWide Tryz.prog W .any base 22 (.slice (some a) n c)) : a.spot = none := by
  have hsl : Tryz.prog.underlying 22 = some (.slice 99) := by kernel_rfl
  simp only [Value.okWide, Cell.okWide, Cell.ok, hsl] at h
  exact h.2.2.2.1

/-- A list of parts, as it was handed in. -/
theorem open_parts {fuel : Nat} {v : Value} {y : DataW H × List MemPlace} (hsp : ∀ a n c, v = .slice (some a) n c → a.spot = none) (h : DataW.trod enc Tryz.prog W 0 (fun _ => true) true fuel 22 [v] = some y) : ∃ l, Lim W v l := by
  rcases open_slice1 (e := 99) (by kernel_rfl) (by kernel_rfl) h with ⟨e, -⟩ | ⟨a, len, cap, m, n, V, D, Pl, e, -, hl, hm, hmm, -, hi⟩
  · have e' : v = .slice none 0 0 := by simpa using e
    subst e'
    exact ⟨[], Lim.nil W⟩
  · have e' : v = .slice (some a) len cap := by simpa using e
    subst e'
    have hs := hsp a len cap rfl
    have hmc : m = cap := by simpa using hmm
    subst hmc
    have hint : ∀ i, i < len → ∃ k : Nat, k < 4294967296 ∧ W.cell? (a.add i) = some (.int .u32 k) := by
      intro i hi'
      obtain ⟨h1, h2⟩ := hi i (by omega)
      obtain ⟨k, e1, -, hw⟩ := DataW.trod_int (k := .u32) (by kernel_rfl) h2
      have e2 : V i = .int .u32 k := by simpa using e1
      have hk := u32_wf hw
      refine ⟨k.toNat, by omega, ?_⟩
      rw [h1, e2]
      congr 2
      omega
    obtain ⟨f, hf⟩ : ∃ f : Nat → Nat, ∀ i, i < len → f i < 4294967296 ∧ W.cell? (a.add i) = some (.int .u32 (f i)) := by
      refine ⟨fun i => if h : i < len then (hint i h).choose else 0, fun i hi' => ?_⟩
      simp only [dif_pos hi']
      exact (hint i hi').choose_spec
    obtain ⟨ab, ao, asp⟩ := a
    have hs' : asp = none := hs
    subst hs'
    have hlen : ((List.range len).map f).length = len := by simp
    refine ⟨(List.range len).map f, _, m, by rw [hlen], by rw [hlen]; exact hl, hm, ?_, .inr ⟨ab, ao, rfl, fun i hi' => ?_⟩⟩
    · intro x hx
      obtain ⟨i, hi1, rfl⟩ := List.mem_map.1 hx
      exact (hf i (List.mem_range.1 hi1)).1
    · rw [hlen] at hi'
      have h1 := (hf i hi').2
      have h2 : pt ((List.range len).map f) i = f i := by
        rw [pt_getElem (by rw [hlen]; exact hi')]
        simp
      rw [h2]
      rwa [addr_add] at h1

/-- A number, as it was handed in. -/
theorem open_num {v : Value} {d : DataW H} {p : List MemPlace} (hv : Value.okWide Tryz.prog W .any base 24 v) (h : DataW.Trod enc Tryz.prog W 0 (fun _ => true) true 24 v d p) : ∃ s x l, v = .agg #[.bool s, x] ∧ Lim W x l := by
  have hs := numFields
  have k0 : ((Tryz.prog.fieldsOf 24)[0]?).map (·.type) = some 4 := by kernel_rfl
  have k1 : ((Tryz.prog.fieldsOf 24)[1]?).map (·.type) = some 22 := by kernel_rfl
  have hone : oneCellFields Tryz.prog (Tryz.prog.fieldsOf 24) = true := by kernel_rfl
  have hsz : (Tryz.prog.fieldsOf 24).size = 2 := by kernel_rfl
  generalize Tryz.prog.fieldsOf 24 = fs at *
  obtain ⟨f0, f1, rfl⟩ := array2 hsz
  have e0 : f0.type = 4 := by simpa using k0
  have e1 : f1.type = 22 := by simpa using k1
  obtain ⟨v0, v1, y0, y1, n, rfl, -, -, h0, h1⟩ := open_agg2 hs hone (by kernel_rfl) hv h
  rw [e0] at h0
  rw [e1] at h1
  obtain ⟨b, e2, -⟩ := DataW.trod_bool (by kernel_rfl) h0
  have e3 : v0 = .bool b := by simpa using e2
  subst e3
  obtain ⟨l, hl⟩ := open_parts (fun a n c e => by subst e; exact spot_of hv) h1
  exact ⟨b, v1, l, rfl, hl⟩

theorem same_below {W' : World} (hb : Below W.heap.size W W') {p : MemPlace} (hlt : p.block < W.heap.size) : W.sameAt W' p := by
  cases p with
  | cell b off => exact hb.cell (p := ⟨b, off, none⟩) hlt
  | map b => exact hb.block b hlt

theorem trodAll_carry {W' : World} {b : Nat} {sp : Nat → Bool} {hd : Bool} : ∀ {ts : List TypeId} {vs : List Value} {ds : List (DataW H)} {ps : List MemPlace}, DataW.TrodAll enc Tryz.prog W b sp hd ts vs ds ps → (∀ p ∈ ps, W.sameAt W' p) → DataW.TrodAll enc Tryz.prog W' b sp hd ts vs ds ps
  | [], [], [], _, h, _ => h
  | _ :: _, _ :: _, _ :: _, _, ⟨p, q, ⟨n, h1⟩, h2, e⟩, hs => ⟨p, q, ⟨n, DataW.trod_carry n _ _ _ h1 (fun x hx => hs x (by rw [e]; exact List.mem_append_left _ hx))⟩, trodAll_carry h2 (fun x hx => hs x (by rw [e]; exact List.mem_append_right _ hx)), e⟩

/-- The end of a law: it answers true, and nothing that was there has changed. -/
theorem law_post {f : Func} {s : ChangeSpec} {W' : World} {args : Array Value} {ds : List (DataW H)} {before : List MemPlace} (hvars : s.vars = []) (hr : f.resultTypes = #[4]) (hts' : (f.params.toList.all fun t => decide (t < Tryz.prog.types.size)) = true)
    (hW : DataW.Whole enc Tryz.prog f.params.toList s.vars false W args.toList ds [] before)
    (hres : (s.fn H (ds ++ [])).results = [.lit (.bool true)]) (harg : (s.fn H (ds ++ [])).args = ds) (hv : (s.fn H (ds ++ [])).vars = []) (hb : Below W.heap.size W W') :
    s.post enc Tryz.prog f false true false false W args (.bool true) W' := by
  have hts : ∀ t ∈ f.params.toList, t < Tryz.prog.types.size := fun t ht => by simpa using List.all_eq_true.1 hts' t ht
  have hlt : ∀ p ∈ before, p.block < W.heap.size := fun p hp => hW.lt p hp
  have hW0 := hW
  obtain ⟨p, q, hA, hV, rfl, -, -⟩ := hW0
  have hq : q = [] := by
    rw [hvars] at hV
    obtain ⟨-, e⟩ := trodVars_none hV
    exact e
  subst hq
  rw [List.append_nil] at hlt hW
  have hA' : DataW.TrodAll enc Tryz.prog W 0 (fun _ => true) true f.params.toList args.toList ds p := hA
  have again : ∀ sp : Nat → Bool, (∀ x ∈ p, sp x.block = true) → DataW.TrodAll enc Tryz.prog W' 0 sp true f.params.toList args.toList ds p := fun sp hsp =>
    DataW.TrodAll.respare (T := fun t => t < Tryz.prog.types.size) (kids_rows (by kernel_rfl) (by kernel_rfl)) (slices_full_of Tryz.prog (by kernel_rfl)) hts (trodAll_carry hA' (fun x hx => same_below hb (hlt x hx))) hsp
  have hold : ∀ x ∈ p, (fun b => decide (b < W.heap.size)) x.block = true := fun x hx => by simpa using hlt x hx
  refine ⟨ds, [], p, [], p, [], hW, ?_, ?_, ?_, World.keptBut_mono (fun x hx => ⟨hx, ?_⟩) (hb.frame (· ∈ p)), fun e => by cases e⟩
  · rw [hres, hr]
    exact trodAll_cons_mk (shut_bool (by kernel_rfl) _) trodAll_mk0
  · rw [harg]; exact again _ hold
  · rw [hv, hvars]; exact rfl
  · simpa using hx

end

theorem str_len {l : List UInt8} (h : (⟨⟨l⟩⟩ : ByteArray).size ≤ maxLen) : l.length ≤ 9223372036854775807 := by
  have h1 : l.length ≤ maxLen := h
  unfold maxLen at h1
  exact h1

/-- What a listed variable's cells hold. -/
def tabCells (i : Nat) : Array Value := match (Rows.limbsDivsRow.laid[i]?.map (·.2)).getD .nil with
  | .agg l => (l.map fun | .lit (.int k z) => Value.int k z | _ => .int .u8 0).toArray
  | _ => #[]
def setTab (a : Array Value) (o : Obj) : Obj := match o with
  | .cells _ t frozen => .cells a t frozen
  | o => o
/-- A world for the witness: the settled one, with the tables as their own statements lay them. -/
noncomputable def laidWorld (os : Os) : World :=
  { World.holding Tryz.prog os ⟨#[], #[], []⟩ with heap := (((World.holding Tryz.prog os ⟨#[], #[], []⟩).heap.modify 4 (setTab (tabCells 0))).modify 5 (setTab (tabCells 1))).modify 3 (setTab (tabCells 2)) }

section
variable {W : World} {base : Nat} {H : Type} {enc : TypeId × Value → H} {v : Value} {d : DataW H} {p : List MemPlace}
theorem open_int' {t : TypeId} {k : IntKind} (ht : Tryz.prog.underlying t = some (.int k)) (hv : Value.okWide Tryz.prog W .any base t v) : ∃ n, v = .int k n ∧ k.min ≤ n ∧ n ≤ k.max := by
  simp only [Value.okWide, ht, Cell.okWide] at hv
  cases v <;> simp_all [Cell.ok, IntKind.has]
theorem open_i32 (hv : Value.okWide Tryz.prog W .any base 21 v) (_ : DataW.Trod enc Tryz.prog W 0 (fun _ => true) true 21 v d p) : ∃ n, v = .int .i32 n ∧ -2147483648 ≤ n ∧ n ≤ 2147483647 := open_int' (by kernel_rfl) hv
theorem open_i64 (hv : Value.okWide Tryz.prog W .any base 2 v) (_ : DataW.Trod enc Tryz.prog W 0 (fun _ => true) true 2 v d p) : ∃ n, v = .int .i64 n ∧ -9223372036854775808 ≤ n ∧ n ≤ 9223372036854775807 := open_int' (by kernel_rfl) hv
theorem open_u8 (hv : Value.okWide Tryz.prog W .any base 5 v) (_ : DataW.Trod enc Tryz.prog W 0 (fun _ => true) true 5 v d p) : ∃ n, v = .int .u8 n ∧ 0 ≤ n ∧ n ≤ 255 := open_int' (by kernel_rfl) hv
end

end Go.Proofs.YtgpoljbccimkjaaGreatDoor

namespace Go.Proofs.YtgpoljbccimkjaaGreatDoor
set_option linter.unusedSimpArgs false
set_option linter.unusedVariables false
open Go.ChangeShapes Go.WideShapes Go.ChangeAt Go.RowKit Go.Joins Go.Deep

set_option maxRecDepth 100000
section
variable {H : Type} {enc : TypeId × Value → H} {W : World} {base : Nat}

theorem fracFields : Tryz.prog.underlying 58 = some (.struct (Tryz.prog.fieldsOf 58)) := by kernel_rfl

/-- A number's two cells, as they were handed in. -/
theorem open_numCells {fuel : Nat} {c0 c1 : Value} {y : DataW H × List MemPlace} (hsp : ∀ a n c, c1 = .slice (some a) n c → a.spot = none) (h : DataW.trod enc Tryz.prog W 0 (fun _ => true) true fuel 24 [c0, c1] = some y) : ∃ s l, c0 = .bool s ∧ Lim W c1 l := by
  have hs := numFields
  have k0 : ((Tryz.prog.fieldsOf 24)[0]?).map (fun f => (f.type, f.offset)) = some (4, 0) := by kernel_rfl
  have k1 : ((Tryz.prog.fieldsOf 24)[1]?).map (fun f => (f.type, f.offset)) = some (22, 1) := by kernel_rfl
  have z0 : Tryz.prog.cellsOf 4 = 1 := by kernel_rfl
  have z1 : Tryz.prog.cellsOf 22 = 1 := by kernel_rfl
  have hsz : (Tryz.prog.fieldsOf 24).size = 2 := by kernel_rfl
  generalize Tryz.prog.fieldsOf 24 = fs at *
  obtain ⟨f0, f1, rfl⟩ := array2 hsz
  simp only [List.getElem?_toArray, List.getElem?_cons_zero, List.getElem?_cons_succ, Option.map_some, Option.some.injEq, Prod.mk.injEq] at k0 k1
  obtain ⟨y0, y1, n, -, -, h0, h1⟩ := trod_struct2 hs h
  rw [k0.1, k0.2, z0] at h0
  rw [k1.1, k1.2, z1] at h1
  obtain ⟨b, e2, -⟩ := DataW.trod_bool (by kernel_rfl) h0
  have e3 : c0 = .bool b := by simpa using e2
  obtain ⟨l, hl⟩ := open_parts hsp h1
  exact ⟨b, l, e3, hl⟩

/-- A fraction, as it was handed in. -/
theorem open_frac {v : Value} {d : DataW H} {p : List MemPlace} (hv : Value.okWide Tryz.prog W .any base 58 v) (h : DataW.Trod enc Tryz.prog W 0 (fun _ => true) true 58 v d p) : ∃ s x l s' x' l', v = .agg #[.bool s, x, .bool s', x'] ∧ Lim W x l ∧ Lim W x' l' := by
  have hv' := hv
  unfold Value.okWide at hv
  rw [fracFields] at hv
  obtain ⟨cs, rfl, hcs, ts, hts, -, hc⟩ := hv
  have ht : Tryz.prog.cellTypes Tryz.prog.depth 58 = some [4, 22, 4, 22] := by kernel_rfl
  rw [ht] at hts
  injection hts with hts
  subst hts
  have hC : Tryz.prog.cellsOf 58 = 4 := by kernel_rfl
  rw [hC] at hcs
  obtain ⟨c0, c1, c2, c3, rfl⟩ := array4 hcs
  have hsl : Tryz.prog.underlying 22 = some (.slice 99) := by kernel_rfl
  have spot : ∀ j c, (j = 1 ∨ j = 3) → (#[c0, c1, c2, c3] : Array Value)[j]? = some c → ∀ a n k, c = .slice (some a) n k → a.spot = none := by
    intro j c hj hjc a n k e
    subst e
    obtain ⟨u, hu, hk⟩ := hc j _ hjc
    have hu' : u = 22 := by rcases hj with rfl | rfl <;> simpa using hu.symm
    subst hu'
    simp only [Cell.okWide, Cell.ok, hsl] at hk
    exact hk.2.2.2.1
  have s1 := spot 1 c1 (.inl rfl) rfl
  have s3 := spot 3 c3 (.inr rfl) rfl
  clear spot hc
  have hs := fracFields
  have k0 : ((Tryz.prog.fieldsOf 58)[0]?).map (fun f => (f.type, f.offset)) = some (24, 0) := by kernel_rfl
  have k1 : ((Tryz.prog.fieldsOf 58)[1]?).map (fun f => (f.type, f.offset)) = some (24, 2) := by kernel_rfl
  have z0 : Tryz.prog.cellsOf 24 = 2 := by kernel_rfl
  have hsz : (Tryz.prog.fieldsOf 58).size = 2 := by kernel_rfl
  generalize Tryz.prog.fieldsOf 58 = fs at *
  obtain ⟨f0, f1, rfl⟩ := array2 hsz
  simp only [List.getElem?_toArray, List.getElem?_cons_zero, List.getElem?_cons_succ, Option.map_some, Option.some.injEq, Prod.mk.injEq] at k0 k1
  obtain ⟨fuel, hf⟩ := h
  obtain ⟨y0, y1, n, -, -, h0, h1⟩ := trod_struct2 hs hf
  rw [k0.1, k0.2, z0] at h0
  rw [k1.1, k1.2, z0] at h1
  obtain ⟨s, l, e0, hl⟩ := open_numCells s1 h0
  obtain ⟨s', l', e1, hl'⟩ := open_numCells s3 h1
  subst e0 e1
  exact ⟨s, c1, l, s', c3, l', rfl, hl, hl'⟩
/-- Two numbers of 16 bits, as they were handed in. -/
theorem open_arr {v : Value} {d : DataW H} {p : List MemPlace} (hv : Value.okWide Tryz.prog W .any base 81 v) (_ : DataW.Trod enc Tryz.prog W 0 (fun _ => true) true 81 v d p) : ∃ a b : Int, v = .agg #[.int .u16 a, .int .u16 b] ∧ 0 ≤ a ∧ a ≤ 65535 ∧ 0 ≤ b ∧ b ≤ 65535 := by
  unfold Value.okWide at hv
  have hs : Tryz.prog.underlying 81 = some (.array 2 80) := by kernel_rfl
  rw [hs] at hv
  obtain ⟨cs, rfl, hcs, ts, hts, -, hc⟩ := hv
  have ht : Tryz.prog.cellTypes Tryz.prog.depth 81 = some [80, 80] := by kernel_rfl
  rw [ht] at hts
  injection hts with hts
  subst hts
  have hC : Tryz.prog.cellsOf 81 = 2 := by kernel_rfl
  rw [hC] at hcs
  obtain ⟨c0, c1, rfl⟩ := array2 hcs
  have hu : Tryz.prog.underlying 80 = some (.int .u16) := by kernel_rfl
  have one : ∀ j c, (j = 0 ∨ j = 1) → (#[c0, c1] : Array Value)[j]? = some c → ∃ n : Int, c = .int .u16 n ∧ 0 ≤ n ∧ n ≤ 65535 := by
    intro j c hj hjc
    obtain ⟨u, hu', hk⟩ := hc j _ hjc
    have hu2 : u = 80 := by rcases hj with rfl | rfl <;> simpa using hu'.symm
    subst hu2
    simp only [Cell.okWide, hu] at hk
    cases c <;> simp_all [Cell.ok, IntKind.has]
    have e1 : IntKind.u16.min = 0 := rfl
    have e2 : IntKind.u16.max = 65535 := rfl
    omega
  obtain ⟨a, rfl, h1, h2⟩ := one 0 c0 (.inl rfl) rfl
  obtain ⟨b, rfl, h3, h4⟩ := one 1 c1 (.inr rfl) rfl
  exact ⟨a, b, rfl, h1, h2, h3, h4⟩
theorem open_i16 {v : Value} {d : DataW H} {p : List MemPlace} (hv : Value.okWide Tryz.prog W .any base 79 v) (_ : DataW.Trod enc Tryz.prog W 0 (fun _ => true) true 79 v d p) : ∃ n, v = .int .i16 n ∧ -32768 ≤ n ∧ n ≤ 32767 := open_int' (by kernel_rfl) hv
end

end Go.Proofs.YtgpoljbccimkjaaGreatDoor
