/- From the rows to the walks: products as arguments, and back. -/
import Derived.Test.YtikbjjechhdclaaRows
import Derived.Test.YtikbjjechhdclaaMRefCmp
import Derived.WalkKit
import Derived.ProofKit
import Derived.OpenShut
import Derived.ReadAgain
import Derived.Below
import Derived.ChangeSame
import Derived.Deep.DeepHandedRow
import Derived.Deep.Slices
namespace Go.Proofs.Ytikbjjechhdclaa
open Go.ChangeShapes Go.WideShapes Go.ChangeAt Go.RowKit Go.Deep

theorem own_knob : ownKnob Try.prog.godebug = none := by kernel_rfl

set_option maxRecDepth 100000
section
variable {H : Type} {enc : TypeId × Value → H} {W : World} {base : Nat}

theorem same_below {W' : World} (hb : Below W.heap.size W W') {p : MemPlace} (hlt : p.block < W.heap.size) : W.sameAt W' p := by
  cases p with
  | cell b off => exact hb.cell (p := ⟨b, off, none⟩) hlt
  | map b => exact hb.block b hlt

theorem trodAll_carry {W' : World} {b : Nat} {sp : Nat → Bool} {hd : Bool} : ∀ {ts : List TypeId} {vs : List Value} {ds : List (DataW H)} {ps : List MemPlace}, DataW.TrodAll enc Try.prog W b sp hd ts vs ds ps → (∀ p ∈ ps, W.sameAt W' p) → DataW.TrodAll enc Try.prog W' b sp hd ts vs ds ps
  | [], [], [], _, h, _ => h
  | _ :: _, _ :: _, _ :: _, _, ⟨p, q, ⟨n, h1⟩, h2, e⟩, hs => ⟨p, q, ⟨n, DataW.trod_carry n _ _ _ h1 (fun x hx => hs x (by rw [e]; exact List.mem_append_left _ hx))⟩, trodAll_carry h2 (fun x hx => hs x (by rw [e]; exact List.mem_append_right _ hx)), e⟩

/-- The end of a law: it answers true, and nothing that was there has changed. -/
theorem law_post {f : Func} {s : ChangeSpec} {W' : World} {args : Array Value} {ds : List (DataW H)} {before : List MemPlace} (hvars : s.vars = []) (hr : f.resultTypes = #[4]) (hts' : (f.params.toList.all fun t => decide (t < Try.prog.types.size)) = true)
    (hW : DataW.Whole enc Try.prog f.params.toList s.vars false W args.toList ds [] before)
    (hres : (s.fn H (ds ++ [])).results = [.lit (.bool true)]) (harg : (s.fn H (ds ++ [])).args = ds) (hv : (s.fn H (ds ++ [])).vars = []) (hb : Below W.heap.size W W') :
    s.post enc Try.prog f false true false false W args (.bool true) W' := by
  have hts : ∀ t ∈ f.params.toList, t < Try.prog.types.size := fun t ht => by simpa using List.all_eq_true.1 hts' t ht
  have hlt : ∀ p ∈ before, p.block < W.heap.size := fun p hp => hW.lt p hp
  have hW0 := hW
  obtain ⟨p, q, hA, hV, rfl, -, -⟩ := hW0
  have hq : q = [] := by
    rw [hvars] at hV
    obtain ⟨-, e⟩ := trodVars_none hV
    exact e
  subst hq
  rw [List.append_nil] at hlt hW
  have hA' : DataW.TrodAll enc Try.prog W 0 (fun _ => true) true f.params.toList args.toList ds p := hA
  have again : ∀ sp : Nat → Bool, (∀ x ∈ p, sp x.block = true) → DataW.TrodAll enc Try.prog W' 0 sp true f.params.toList args.toList ds p := fun sp hsp =>
    DataW.TrodAll.respare (T := fun t => t < Try.prog.types.size) (kids_rows (by kernel_rfl) (by kernel_rfl)) (slices_full_of Try.prog (by kernel_rfl)) hts (trodAll_carry hA' (fun x hx => same_below hb (hlt x hx))) hsp
  have hold : ∀ x ∈ p, (fun b => decide (b < W.heap.size)) x.block = true := fun x hx => by simpa using hlt x hx
  refine ⟨ds, [], p, [], p, [], hW, ?_, ?_, ?_, World.keptBut_mono (fun x hx => ⟨hx, ?_⟩) (hb.frame (· ∈ p)), fun e => by cases e⟩
  · rw [hres, hr]
    exact trodAll_cons_mk (shut_bool (by kernel_rfl) _) trodAll_mk0
  · rw [harg]; exact again _ hold
  · rw [hv, hvars]; exact rfl
  · simpa using hx


theorem u16_cell {ts : List TypeId} {cs : Array Value} {j : Nat} {c : Value} (hu : Try.prog.underlying 22 = some (.int .u16)) (hall : ∀ u ∈ ts, u = 22) (hc : ∀ (j : Nat) (c : Value), cs[j]? = some c → ∃ u, ts[j % ts.length]? = some u ∧ Cell.okWide Try.prog W .any base u c) (hj : cs[j]? = some c) : ∃ n : Nat, c = .int .u16 n ∧ n < 65536 := by
  obtain ⟨u, hu', hk⟩ := hc j _ hj
  have hu2 : u = 22 := hall u (List.mem_of_getElem? hu')
  subst hu2
  simp only [Cell.okWide, hu] at hk
  cases c <;> simp_all [Cell.ok, IntKind.has]
  rename_i k n
  have e1 : IntKind.u16.min = 0 := rfl
  have e2 : IntKind.u16.max = 65535 := rfl
  exact ⟨n.toNat, by omega, by omega⟩

/-- A product, as it was handed in. -/
theorem open_mono {v : Value} (hv : Value.okWide Try.prog W .any base 24 v) : ∃ m, v = mv m ∧ OkM m := by
  unfold Value.okWide at hv
  have hs : Try.prog.underlying 24 = some (.array 4 22) := by kernel_rfl
  rw [hs] at hv
  obtain ⟨cs, rfl, hcs, ts, hts, -, hc⟩ := hv
  have ht : Try.prog.cellTypes Try.prog.depth 24 = some [22, 22, 22, 22] := by kernel_rfl
  rw [ht] at hts
  injection hts with hts
  subst hts
  have hC : Try.prog.cellsOf 24 = 4 := by kernel_rfl
  rw [hC] at hcs
  have hu : Try.prog.underlying 22 = some (.int .u16) := by kernel_rfl
  have one : ∀ j c, cs[j]? = some c → ∃ n : Nat, c = Value.int .u16 n ∧ n < 65536 := fun j c hj => u16_cell hu (by simp) hc hj
  obtain ⟨l⟩ := cs
  rcases l with _ | ⟨c0, _ | ⟨c1, _ | ⟨c2, _ | ⟨c3, _ | ⟨c4, l⟩⟩⟩⟩⟩ <;> simp at hcs
  obtain ⟨n0, rfl, h0⟩ := one 0 _ rfl
  obtain ⟨n1, rfl, h1⟩ := one 1 _ rfl
  obtain ⟨n2, rfl, h2⟩ := one 2 _ rfl
  obtain ⟨n3, rfl, h3⟩ := one 3 _ rfl
  exact ⟨⟨n0, n1, n2, n3⟩, rfl, h0, h1, h2, h3⟩
/-- Three products, behind one another. -/
def mv3 (x y z : M4) : Value := .agg #[.int .u16 x.a, .int .u16 x.b, .int .u16 x.c, .int .u16 x.d, .int .u16 y.a, .int .u16 y.b, .int .u16 y.c, .int .u16 y.d, .int .u16 z.a, .int .u16 z.b, .int .u16 z.c, .int .u16 z.d]
theorem open_three {v : Value} (hv : Value.okWide Try.prog W .any base 38 v) : ∃ x y z, v = mv3 x y z ∧ OkM x ∧ OkM y ∧ OkM z := by
  unfold Value.okWide at hv
  have hs : Try.prog.underlying 38 = some (.array 3 24) := by kernel_rfl
  rw [hs] at hv
  obtain ⟨cs, rfl, hcs, ts, hts, -, hc⟩ := hv
  have ht : Try.prog.cellTypes Try.prog.depth 38 = some (List.replicate 12 22) := by kernel_rfl
  rw [ht] at hts
  injection hts with hts
  subst hts
  have hC : Try.prog.cellsOf 38 = 12 := by kernel_rfl
  rw [hC] at hcs
  have hu : Try.prog.underlying 22 = some (.int .u16) := by kernel_rfl
  have one : ∀ j c, cs[j]? = some c → ∃ n : Nat, c = Value.int .u16 n ∧ n < 65536 := fun j c hj => u16_cell hu (fun u hu => (List.mem_replicate.1 hu).2) hc hj
  obtain ⟨l⟩ := cs
  rcases l with _ | ⟨c0, _ | ⟨c1, _ | ⟨c2, _ | ⟨c3, _ | ⟨c4, _ | ⟨c5, _ | ⟨c6, _ | ⟨c7, _ | ⟨c8, _ | ⟨c9, _ | ⟨c10, _ | ⟨c11, _ | ⟨c12, l⟩⟩⟩⟩⟩⟩⟩⟩⟩⟩⟩⟩⟩ <;> simp at hcs
  obtain ⟨n0, rfl, h0⟩ := one 0 _ rfl
  obtain ⟨n1, rfl, h1⟩ := one 1 _ rfl
  obtain ⟨n2, rfl, h2⟩ := one 2 _ rfl
  obtain ⟨n3, rfl, h3⟩ := one 3 _ rfl
  obtain ⟨n4, rfl, h4⟩ := one 4 _ rfl
  obtain ⟨n5, rfl, h5⟩ := one 5 _ rfl
  obtain ⟨n6, rfl, h6⟩ := one 6 _ rfl
  obtain ⟨n7, rfl, h7⟩ := one 7 _ rfl
  obtain ⟨n8, rfl, h8⟩ := one 8 _ rfl
  obtain ⟨n9, rfl, h9⟩ := one 9 _ rfl
  obtain ⟨n10, rfl, h10⟩ := one 10 _ rfl
  obtain ⟨n11, rfl, h11⟩ := one 11 _ rfl
  exact ⟨⟨n0, n1, n2, n3⟩, ⟨n4, n5, n6, n7⟩, ⟨n8, n9, n10, n11⟩, rfl, ⟨h0, h1, h2, h3⟩, ⟨h4, h5, h6, h7⟩, h8, h9, h10, h11⟩
theorem open_order {v : Value} (hv : Value.okWide Try.prog W .any base 33 v) : ∃ n, v = .int .u8 n ∧ 0 ≤ n ∧ n ≤ 255 := by
  have ht : Try.prog.underlying 33 = some (.int .u8) := by kernel_rfl
  simp only [Value.okWide, ht, Cell.okWide] at hv
  cases v <;> simp_all [Cell.ok, IntKind.has]
  have e1 : IntKind.u8.min = 0 := rfl
  have e2 : IntKind.u8.max = 255 := rfl
  omega
end

end Go.Proofs.Ytikbjjechhdclaa
