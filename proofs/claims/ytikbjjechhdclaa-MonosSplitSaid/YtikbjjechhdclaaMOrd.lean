/- Walks: the map of orders, and what lies there; the first that is not 0. -/
import Derived.Test.YtikbjjechhdclaaMCmp
import Derived.MapKept
namespace Go.Proofs.Ytikbjjechhdclaa
open Go.RowKit Go.MapKept

def orI (x y : Int) : Int := if x = 0 then y else x

set_option maxRecDepth 100000 in
set_option maxHeartbeats 400000 in
theorem Or_two {b : Nat} {x y : Int} {w : World} (h0 : w.cell? ⟨b, 0, none⟩ = some (.int .i64 x)) (h1 : w.cell? ⟨b, 1, none⟩ = some (.int .i64 y)) : Calls Try.prog 29 #[.slice (some ⟨b, 0, none⟩) 2 2] w fun e w' => e = .returned (.int .i64 (orI x y)) ∧ w = w' := by
  go_enter Try.func29, Try.ntmps29
  go_wp2_with fail
  go_loop [8] (fun i => i = .int .i64 0 ∨ (i = .int .i64 1 ∧ Hid (x = 0)) ∨ (i = .int .i64 2 ∧ Hid (x = 0 ∧ y = 0))) (fun i => 4 - (intOf i).toNat)
  case atStart => exact .inl rfl
  case round =>
    rcases hrel with rfl | ⟨rfl, hx⟩ | ⟨rfl, hx⟩
    · by_cases h : x = 0
      · have hn : (x != 0) = false := by simp [h]
        have HH := Lib.hid h
        clear h
        go_wp2_with fail
        exact ⟨.inr (.inl ⟨rfl, HH.out⟩), by simp [intOf]⟩
      · have hn : (x != 0) = true := by simp [h]
        have HH : Hid (¬ x = 0) := h
        clear h
        go_wp2_with fail
        go_ret
        exact ⟨by unfold orI; rw [if_neg HH.out]; rfl, rfl⟩
    · by_cases h : y = 0
      · have hn : (y != 0) = false := by simp [h]
        have HH := Lib.hid h
        clear h
        go_wp2_with fail
        exact ⟨.inr (.inr ⟨rfl, hx.out, HH.out⟩), by simp [intOf]⟩
      · have hn : (y != 0) = true := by simp [h]
        have HH : Hid (¬ y = 0) := h
        clear h
        go_wp2_with fail
        go_ret
        exact ⟨by unfold orI; rw [if_pos hx.out]; rfl, rfl⟩
    · go_wp2_with fail
      go_ret
      exact ⟨by unfold orI; rw [if_pos hx.out.1, hx.out.2]; rfl, rfl⟩

def orderMap : Array MapEntry := #[{ key := .int .u8 0, val := .func (.func 27) #[] #[], born := 0 }, { key := .int .u8 1, val := .func (.func 28) #[] #[], born := 1 }, { key := .int .u8 2, val := .func (.func 31) #[] #[], born := 2 }]

abbrev TM : TypeId := 45
theorem under_map : Try.prog.underlying TM = some (.map 33 43) := by kernel_rfl
theorem under_order : Try.prog.underlying 33 = some (.int .u8) := by kernel_rfl

theorem run_make (w : World) : (Instr.makeMap TM none).run Try.prog w = .ok (.map (some w.heap.size)) (w.alloc (.map #[] 0)) := by
  simp [Instr.makeMap, go_sem]
  try rfl
theorem run_up {w : World} {es : Array MapEntry} {clock : Nat} {k : Int} {v : Value} (h : Instr.findNow (.int .u8) (.int .u8 k) es.toList 0 = some none) :
    (Instr.mapUpdate TM (.map (some w.heap.size)) (.int .u8 k) v).run Try.prog (w.alloc (.map es clock)) = .ok () (w.alloc (.map (es.push { key := .int .u8 k, val := v, born := clock }) (clock + 1))) := by
  have hb : (w.alloc (.map es clock)).heap[w.heap.size]? = some (.map es clock) := by
    show (w.heap.push _)[w.heap.size]? = _
    simp
  have hc := run_checkKey (P := Try.prog) (w := w.alloc (.map es clock)) under_order (k := .int .u8 k) rfl false 9999
  have hf := run_findKey (P := Try.prog) (w := w.alloc (.map es clock)) under_order h
  simp [Instr.mapUpdate, run_underlying under_map, MapKept.run_getObj_map hb, hc, hf, MapKept.run_setObj_map _ hb, Result.andThen]
  show World.mk _ _ _ _ _ = World.mk _ _ _ _ _
  congr 1
  show (w.heap.push _).setIfInBounds w.heap.size _ = w.heap.push _
  apply Array.ext_getElem?
  intro i
  rw [Array.getElem?_setIfInBounds, Array.getElem?_push, Array.getElem?_push]
  by_cases hi : w.heap.size = i
  · subst hi
    simp
  · rw [if_neg hi, if_neg (by omega), if_neg (by omega)]

set_option maxRecDepth 100000 in
set_option maxHeartbeats 400000 in
theorem orders_any (w : World) : Calls Try.prog 26 #[] w fun e w' => e = .returned (.map (some w.heap.size)) ∧ w'.heap[w.heap.size]? = some (.map orderMap 3) ∧ Below w.heap.size w w' := by
  have h0 := run_make w
  have h1 := run_up (w := w) (es := #[]) (clock := 0) (k := 0) (v := .func (.func 27) #[] #[]) rfl
  have h2 := run_up (w := w) (es := #[{ key := .int .u8 0, val := .func (.func 27) #[] #[], born := 0 }]) (clock := 1) (k := 1) (v := .func (.func 28) #[] #[]) rfl
  have h3 := run_up (w := w) (es := #[{ key := .int .u8 0, val := .func (.func 27) #[] #[], born := 0 }, { key := .int .u8 1, val := .func (.func 28) #[] #[], born := 1 }]) (clock := 2) (k := 2) (v := .func (.func 31) #[] #[]) rfl
  simp only [List.push_toArray, List.nil_append, List.cons_append, Nat.zero_add, Nat.reduceAdd] at h1 h2 h3
  go_enter Try.func26, Try.ntmps26
  go_wp2_with fail
  go_ret
  refine ⟨rfl, ?_, (Below.refl _ _).alloc (Nat.le_refl _) _⟩
  show (w.heap.push _)[w.heap.size]? = _
  simp [orderMap]

theorem look_order {W : World} {b : Nat} (hb : W.heap[b]? = some (.map orderMap 3)) (o : Int) : (Instr.lookup TM (.map (some b)) (.int .u8 o) true).run Try.prog W = .ok (.tuple #[if o = 0 then .func (.func 27) #[] #[] else if o = 1 then .func (.func 28) #[] #[] else if o = 2 then .func (.func 31) #[] #[] else .nilFunc, .bool (decide (o = 0 ∨ o = 1 ∨ o = 2))]) W := by
  have hc : (Instr.checkKey orderMap.isEmpty 10000 33 (.int .u8 o)).run Try.prog W = .ok () W := run_checkKey (k := .int .u8 o) under_order rfl _ 9999
  have hz : (zeroValue 43).run Try.prog W = .ok .nilFunc W := by kernel_rfl
  have hs : ∀ k : Int, Instr.sameNow (.int .u8) (.int .u8 o) (.int .u8 k) = some (o == k) := fun k => by simp [Instr.sameNow]
  by_cases h0 : o = 0
  · subst h0
    have hf := run_findKey (P := Try.prog) (w := W) under_order (k := .int .u8 0) (l := orderMap.toList) (a := some (0, .func (.func 27) #[] #[])) rfl
    simp [Instr.lookup, run_underlying under_map, MapKept.run_getObj_map hb, hc, hf, Result.andThen]
  by_cases h1 : o = 1
  · subst h1
    have hf := run_findKey (P := Try.prog) (w := W) under_order (k := .int .u8 1) (l := orderMap.toList) (a := some (1, .func (.func 28) #[] #[])) rfl
    simp [Instr.lookup, run_underlying under_map, MapKept.run_getObj_map hb, hc, hf, Result.andThen]
  by_cases h2 : o = 2
  · subst h2
    have hf := run_findKey (P := Try.prog) (w := W) under_order (k := .int .u8 2) (l := orderMap.toList) (a := some (2, .func (.func 31) #[] #[])) rfl
    simp [Instr.lookup, run_underlying under_map, MapKept.run_getObj_map hb, hc, hf, Result.andThen]
  have b0 : (o == 0) = false := by simpa using h0
  have b1 : (o == 1) = false := by simpa using h1
  have b2 : (o == 2) = false := by simpa using h2
  have hf := run_findKey (P := Try.prog) (w := W) under_order (k := .int .u8 o) (l := orderMap.toList) (a := none) (by simp [orderMap, Instr.findNow, hs, b0, b1, b2])
  simp [Instr.lookup, run_underlying under_map, MapKept.run_getObj_map hb, hc, hf, hz, h0, h1, h2, Result.andThen]

end Go.Proofs.Ytikbjjechhdclaa
