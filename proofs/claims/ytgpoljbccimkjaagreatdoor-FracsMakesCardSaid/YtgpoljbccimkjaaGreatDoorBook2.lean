/- The book of memory: a list, a number, a fraction are kept in it. -/
import Derived.Test.YtgpoljbccimkjaaGreatDoorBack
import Derived.Test.YtgpoljbccimkjaaGreatDoorRuns
import Derived.Deep.AppendLies
import Derived.Deep.RegionLaw
namespace Go.Proofs.YtgpoljbccimkjaaGreatDoor
set_option linter.unusedSimpArgs false
set_option linter.unusedVariables false
open Go.RowKit Go.Shelf

set_option maxHeartbeats 400000 in
theorem fillByte_none (p : Nat) (w : World) (h : w.cell? ⟨p, 1, none⟩ = some (.slice none 0 0)) :
    Calls Tryz.prog 86 #[.pointer (some ⟨p, 0, none⟩)] w fun e w' => e = .returned (.tuple #[]) ∧ w = w' := by
  go_enter Tryz.func86, Tryz.ntmps86
  go_wp2
  go_loop [2] (fun i => i = .int .i64 0) (fun i => 0)
  case atStart => rfl
  case round =>
    obtain rfl := hrel
    go_wp2
    go_end0
    exact ⟨rfl, rfl⟩

set_option maxHeartbeats 400000 in
theorem growByte_none (p : Nat) (w : World) (h : w.cell? ⟨p, 1, none⟩ = some (.slice none 0 0)) :
    Calls Tryz.prog 98 #[.pointer (some ⟨p, 0, none⟩)] w fun e w' => e = .returned (.tuple #[]) ∧ w = w' := by
  go_enter Tryz.func98, Tryz.ntmps98
  go_wp2
  go_loop [2] (fun i => i = .int .i64 0) (fun i => 0)
  case atStart => rfl
  case round =>
    obtain rfl := hrel
    go_wp2
    go_end0
    exact ⟨rfl, rfl⟩

set_option maxHeartbeats 400000 in
theorem lookByte_none (p : Nat) (w : World) (h : w.cell? ⟨p, 1, none⟩ = some (.slice none 0 0)) :
    Calls Tryz.prog 110 #[.pointer (some ⟨p, 0, none⟩)] w fun e w' => e = .returned (.bool true) ∧ w = w' := by
  go_enter Tryz.func110, Tryz.ntmps110
  go_wp2
  go_loop [3] (fun i => i = .int .i64 0) (fun i => 0)
  case atStart => rfl
  case round =>
    obtain rfl := hrel
    go_wp2
    go_ret
    exact ⟨rfl, rfl⟩

set_option maxHeartbeats 400000 in
theorem fillText_none (p : Nat) (w : World) (h : w.cell? ⟨p, 3, none⟩ = some (.slice none 0 0)) :
    Calls Tryz.prog 88 #[.pointer (some ⟨p, 0, none⟩)] w fun e w' => e = .returned (.tuple #[]) ∧ w = w' := by
  go_enter Tryz.func88, Tryz.ntmps88
  go_wp2
  go_loop [2] (fun i => i = .int .i64 0) (fun i => 0)
  case atStart => rfl
  case round =>
    obtain rfl := hrel
    go_wp2
    go_end0
    exact ⟨rfl, rfl⟩

set_option maxHeartbeats 400000 in
theorem growText_none (p : Nat) (w : World) (h : w.cell? ⟨p, 3, none⟩ = some (.slice none 0 0)) :
    Calls Tryz.prog 100 #[.pointer (some ⟨p, 0, none⟩)] w fun e w' => e = .returned (.tuple #[]) ∧ w = w' := by
  go_enter Tryz.func100, Tryz.ntmps100
  go_wp2
  go_loop [2] (fun i => i = .int .i64 0) (fun i => 0)
  case atStart => rfl
  case round =>
    obtain rfl := hrel
    go_wp2
    go_end0
    exact ⟨rfl, rfl⟩

set_option maxHeartbeats 400000 in
theorem lookText_none (p : Nat) (w : World) (h : w.cell? ⟨p, 3, none⟩ = some (.slice none 0 0)) :
    Calls Tryz.prog 112 #[.pointer (some ⟨p, 0, none⟩)] w fun e w' => e = .returned (.bool true) ∧ w = w' := by
  go_enter Tryz.func112, Tryz.ntmps112
  go_wp2
  go_loop [3] (fun i => i = .int .i64 0) (fun i => 0)
  case atStart => rfl
  case round =>
    obtain rfl := hrel
    go_wp2
    go_ret
    exact ⟨rfl, rfl⟩

set_option maxHeartbeats 400000 in
theorem fillToken_none (p : Nat) (w : World) (h : w.cell? ⟨p, 4, none⟩ = some (.slice none 0 0)) :
    Calls Tryz.prog 89 #[.pointer (some ⟨p, 0, none⟩)] w fun e w' => e = .returned (.tuple #[]) ∧ w = w' := by
  go_enter Tryz.func89, Tryz.ntmps89
  go_wp2
  go_loop [2] (fun i => i = .int .i64 0) (fun i => 0)
  case atStart => rfl
  case round =>
    obtain rfl := hrel
    go_wp2
    go_end0
    exact ⟨rfl, rfl⟩

set_option maxHeartbeats 400000 in
theorem growToken_none (p : Nat) (w : World) (h : w.cell? ⟨p, 4, none⟩ = some (.slice none 0 0)) :
    Calls Tryz.prog 101 #[.pointer (some ⟨p, 0, none⟩)] w fun e w' => e = .returned (.tuple #[]) ∧ w = w' := by
  go_enter Tryz.func101, Tryz.ntmps101
  go_wp2
  go_loop [2] (fun i => i = .int .i64 0) (fun i => 0)
  case atStart => rfl
  case round =>
    obtain rfl := hrel
    go_wp2
    go_end0
    exact ⟨rfl, rfl⟩

set_option maxHeartbeats 400000 in
theorem lookToken_none (p : Nat) (w : World) (h : w.cell? ⟨p, 4, none⟩ = some (.slice none 0 0)) :
    Calls Tryz.prog 113 #[.pointer (some ⟨p, 0, none⟩)] w fun e w' => e = .returned (.bool true) ∧ w = w' := by
  go_enter Tryz.func113, Tryz.ntmps113
  go_wp2
  go_loop [3] (fun i => i = .int .i64 0) (fun i => 0)
  case atStart => rfl
  case round =>
    obtain rfl := hrel
    go_wp2
    go_ret
    exact ⟨rfl, rfl⟩

set_option maxHeartbeats 400000 in
theorem fillNum_none (p : Nat) (w : World) (h : w.cell? ⟨p, 5, none⟩ = some (.slice none 0 0)) :
    Calls Tryz.prog 90 #[.pointer (some ⟨p, 0, none⟩)] w fun e w' => e = .returned (.tuple #[]) ∧ w = w' := by
  go_enter Tryz.func90, Tryz.ntmps90
  go_wp2
  go_loop [2] (fun i => i = .int .i64 0) (fun i => 0)
  case atStart => rfl
  case round =>
    obtain rfl := hrel
    go_wp2
    go_end0
    exact ⟨rfl, rfl⟩

set_option maxHeartbeats 400000 in
theorem growNum_none (p : Nat) (w : World) (h : w.cell? ⟨p, 5, none⟩ = some (.slice none 0 0)) :
    Calls Tryz.prog 102 #[.pointer (some ⟨p, 0, none⟩)] w fun e w' => e = .returned (.tuple #[]) ∧ w = w' := by
  go_enter Tryz.func102, Tryz.ntmps102
  go_wp2
  go_loop [2] (fun i => i = .int .i64 0) (fun i => 0)
  case atStart => rfl
  case round =>
    obtain rfl := hrel
    go_wp2
    go_end0
    exact ⟨rfl, rfl⟩

set_option maxHeartbeats 400000 in
theorem lookNum_none (p : Nat) (w : World) (h : w.cell? ⟨p, 5, none⟩ = some (.slice none 0 0)) :
    Calls Tryz.prog 114 #[.pointer (some ⟨p, 0, none⟩)] w fun e w' => e = .returned (.bool true) ∧ w = w' := by
  go_enter Tryz.func114, Tryz.ntmps114
  go_wp2
  go_loop [3] (fun i => i = .int .i64 0) (fun i => 0)
  case atStart => rfl
  case round =>
    obtain rfl := hrel
    go_wp2
    go_ret
    exact ⟨rfl, rfl⟩

set_option maxHeartbeats 400000 in
theorem fillTerm_none (p : Nat) (w : World) (h : w.cell? ⟨p, 6, none⟩ = some (.slice none 0 0)) :
    Calls Tryz.prog 91 #[.pointer (some ⟨p, 0, none⟩)] w fun e w' => e = .returned (.tuple #[]) ∧ w = w' := by
  go_enter Tryz.func91, Tryz.ntmps91
  go_wp2
  go_loop [2] (fun i => i = .int .i64 0) (fun i => 0)
  case atStart => rfl
  case round =>
    obtain rfl := hrel
    go_wp2
    go_end0
    exact ⟨rfl, rfl⟩

set_option maxHeartbeats 400000 in
theorem growTerm_none (p : Nat) (w : World) (h : w.cell? ⟨p, 6, none⟩ = some (.slice none 0 0)) :
    Calls Tryz.prog 103 #[.pointer (some ⟨p, 0, none⟩)] w fun e w' => e = .returned (.tuple #[]) ∧ w = w' := by
  go_enter Tryz.func103, Tryz.ntmps103
  go_wp2
  go_loop [2] (fun i => i = .int .i64 0) (fun i => 0)
  case atStart => rfl
  case round =>
    obtain rfl := hrel
    go_wp2
    go_end0
    exact ⟨rfl, rfl⟩

set_option maxHeartbeats 400000 in
theorem lookTerm_none (p : Nat) (w : World) (h : w.cell? ⟨p, 6, none⟩ = some (.slice none 0 0)) :
    Calls Tryz.prog 115 #[.pointer (some ⟨p, 0, none⟩)] w fun e w' => e = .returned (.bool true) ∧ w = w' := by
  go_enter Tryz.func115, Tryz.ntmps115
  go_wp2
  go_loop [3] (fun i => i = .int .i64 0) (fun i => 0)
  case atStart => rfl
  case round =>
    obtain rfl := hrel
    go_wp2
    go_ret
    exact ⟨rfl, rfl⟩

set_option maxHeartbeats 400000 in
theorem fillFactor_none (p : Nat) (w : World) (h : w.cell? ⟨p, 7, none⟩ = some (.slice none 0 0)) :
    Calls Tryz.prog 92 #[.pointer (some ⟨p, 0, none⟩)] w fun e w' => e = .returned (.tuple #[]) ∧ w = w' := by
  go_enter Tryz.func92, Tryz.ntmps92
  go_wp2
  go_loop [2] (fun i => i = .int .i64 0) (fun i => 0)
  case atStart => rfl
  case round =>
    obtain rfl := hrel
    go_wp2
    go_end0
    exact ⟨rfl, rfl⟩

set_option maxHeartbeats 400000 in
theorem growFactor_none (p : Nat) (w : World) (h : w.cell? ⟨p, 7, none⟩ = some (.slice none 0 0)) :
    Calls Tryz.prog 104 #[.pointer (some ⟨p, 0, none⟩)] w fun e w' => e = .returned (.tuple #[]) ∧ w = w' := by
  go_enter Tryz.func104, Tryz.ntmps104
  go_wp2
  go_loop [2] (fun i => i = .int .i64 0) (fun i => 0)
  case atStart => rfl
  case round =>
    obtain rfl := hrel
    go_wp2
    go_end0
    exact ⟨rfl, rfl⟩

set_option maxHeartbeats 400000 in
theorem lookFactor_none (p : Nat) (w : World) (h : w.cell? ⟨p, 7, none⟩ = some (.slice none 0 0)) :
    Calls Tryz.prog 116 #[.pointer (some ⟨p, 0, none⟩)] w fun e w' => e = .returned (.bool true) ∧ w = w' := by
  go_enter Tryz.func116, Tryz.ntmps116
  go_wp2
  go_loop [3] (fun i => i = .int .i64 0) (fun i => 0)
  case atStart => rfl
  case round =>
    obtain rfl := hrel
    go_wp2
    go_ret
    exact ⟨rfl, rfl⟩

set_option maxHeartbeats 400000 in
theorem fillNode_none (p : Nat) (w : World) (h : w.cell? ⟨p, 8, none⟩ = some (.slice none 0 0)) :
    Calls Tryz.prog 93 #[.pointer (some ⟨p, 0, none⟩)] w fun e w' => e = .returned (.tuple #[]) ∧ w = w' := by
  go_enter Tryz.func93, Tryz.ntmps93
  go_wp2
  go_loop [2] (fun i => i = .int .i64 0) (fun i => 0)
  case atStart => rfl
  case round =>
    obtain rfl := hrel
    go_wp2
    go_end0
    exact ⟨rfl, rfl⟩

set_option maxHeartbeats 400000 in
theorem growNode_none (p : Nat) (w : World) (h : w.cell? ⟨p, 8, none⟩ = some (.slice none 0 0)) :
    Calls Tryz.prog 105 #[.pointer (some ⟨p, 0, none⟩)] w fun e w' => e = .returned (.tuple #[]) ∧ w = w' := by
  go_enter Tryz.func105, Tryz.ntmps105
  go_wp2
  go_loop [2] (fun i => i = .int .i64 0) (fun i => 0)
  case atStart => rfl
  case round =>
    obtain rfl := hrel
    go_wp2
    go_end0
    exact ⟨rfl, rfl⟩

set_option maxHeartbeats 400000 in
theorem lookNode_none (p : Nat) (w : World) (h : w.cell? ⟨p, 8, none⟩ = some (.slice none 0 0)) :
    Calls Tryz.prog 117 #[.pointer (some ⟨p, 0, none⟩)] w fun e w' => e = .returned (.bool true) ∧ w = w' := by
  go_enter Tryz.func117, Tryz.ntmps117
  go_wp2
  go_loop [3] (fun i => i = .int .i64 0) (fun i => 0)
  case atStart => rfl
  case round =>
    obtain rfl := hrel
    go_wp2
    go_ret
    exact ⟨rfl, rfl⟩

set_option maxHeartbeats 400000 in
theorem fillFunc_none (p : Nat) (w : World) (h : w.cell? ⟨p, 9, none⟩ = some (.slice none 0 0)) :
    Calls Tryz.prog 94 #[.pointer (some ⟨p, 0, none⟩)] w fun e w' => e = .returned (.tuple #[]) ∧ w = w' := by
  go_enter Tryz.func94, Tryz.ntmps94
  go_wp2
  go_loop [2] (fun i => i = .int .i64 0) (fun i => 0)
  case atStart => rfl
  case round =>
    obtain rfl := hrel
    go_wp2
    go_end0
    exact ⟨rfl, rfl⟩

set_option maxHeartbeats 400000 in
theorem growFunc_none (p : Nat) (w : World) (h : w.cell? ⟨p, 9, none⟩ = some (.slice none 0 0)) :
    Calls Tryz.prog 106 #[.pointer (some ⟨p, 0, none⟩)] w fun e w' => e = .returned (.tuple #[]) ∧ w = w' := by
  go_enter Tryz.func106, Tryz.ntmps106
  go_wp2
  go_loop [2] (fun i => i = .int .i64 0) (fun i => 0)
  case atStart => rfl
  case round =>
    obtain rfl := hrel
    go_wp2
    go_end0
    exact ⟨rfl, rfl⟩

set_option maxHeartbeats 400000 in
theorem lookFunc_none (p : Nat) (w : World) (h : w.cell? ⟨p, 9, none⟩ = some (.slice none 0 0)) :
    Calls Tryz.prog 118 #[.pointer (some ⟨p, 0, none⟩)] w fun e w' => e = .returned (.bool true) ∧ w = w' := by
  go_enter Tryz.func118, Tryz.ntmps118
  go_wp2
  go_loop [3] (fun i => i = .int .i64 0) (fun i => 0)
  case atStart => rfl
  case round =>
    obtain rfl := hrel
    go_wp2
    go_ret
    exact ⟨rfl, rfl⟩

set_option maxHeartbeats 400000 in
theorem fillValue_none (p : Nat) (w : World) (h : w.cell? ⟨p, 10, none⟩ = some (.slice none 0 0)) :
    Calls Tryz.prog 95 #[.pointer (some ⟨p, 0, none⟩)] w fun e w' => e = .returned (.tuple #[]) ∧ w = w' := by
  go_enter Tryz.func95, Tryz.ntmps95
  go_wp2
  go_loop [2] (fun i => i = .int .i64 0) (fun i => 0)
  case atStart => rfl
  case round =>
    obtain rfl := hrel
    go_wp2
    go_end0
    exact ⟨rfl, rfl⟩

set_option maxHeartbeats 400000 in
theorem growValue_none (p : Nat) (w : World) (h : w.cell? ⟨p, 10, none⟩ = some (.slice none 0 0)) :
    Calls Tryz.prog 107 #[.pointer (some ⟨p, 0, none⟩)] w fun e w' => e = .returned (.tuple #[]) ∧ w = w' := by
  go_enter Tryz.func107, Tryz.ntmps107
  go_wp2
  go_loop [2] (fun i => i = .int .i64 0) (fun i => 0)
  case atStart => rfl
  case round =>
    obtain rfl := hrel
    go_wp2
    go_end0
    exact ⟨rfl, rfl⟩

set_option maxHeartbeats 400000 in
theorem lookValue_none (p : Nat) (w : World) (h : w.cell? ⟨p, 10, none⟩ = some (.slice none 0 0)) :
    Calls Tryz.prog 119 #[.pointer (some ⟨p, 0, none⟩)] w fun e w' => e = .returned (.bool true) ∧ w = w' := by
  go_enter Tryz.func119, Tryz.ntmps119
  go_wp2
  go_loop [3] (fun i => i = .int .i64 0) (fun i => 0)
  case atStart => rfl
  case round =>
    obtain rfl := hrel
    go_wp2
    go_ret
    exact ⟨rfl, rfl⟩

set_option maxHeartbeats 400000 in
theorem fillInstr_none (p : Nat) (w : World) (h : w.cell? ⟨p, 11, none⟩ = some (.slice none 0 0)) :
    Calls Tryz.prog 96 #[.pointer (some ⟨p, 0, none⟩)] w fun e w' => e = .returned (.tuple #[]) ∧ w = w' := by
  go_enter Tryz.func96, Tryz.ntmps96
  go_wp2
  go_loop [2] (fun i => i = .int .i64 0) (fun i => 0)
  case atStart => rfl
  case round =>
    obtain rfl := hrel
    go_wp2
    go_end0
    exact ⟨rfl, rfl⟩

set_option maxHeartbeats 400000 in
theorem growInstr_none (p : Nat) (w : World) (h : w.cell? ⟨p, 11, none⟩ = some (.slice none 0 0)) :
    Calls Tryz.prog 108 #[.pointer (some ⟨p, 0, none⟩)] w fun e w' => e = .returned (.tuple #[]) ∧ w = w' := by
  go_enter Tryz.func108, Tryz.ntmps108
  go_wp2
  go_loop [2] (fun i => i = .int .i64 0) (fun i => 0)
  case atStart => rfl
  case round =>
    obtain rfl := hrel
    go_wp2
    go_end0
    exact ⟨rfl, rfl⟩

set_option maxHeartbeats 400000 in
theorem lookInstr_none (p : Nat) (w : World) (h : w.cell? ⟨p, 11, none⟩ = some (.slice none 0 0)) :
    Calls Tryz.prog 120 #[.pointer (some ⟨p, 0, none⟩)] w fun e w' => e = .returned (.bool true) ∧ w = w' := by
  go_enter Tryz.func120, Tryz.ntmps120
  go_wp2
  go_loop [3] (fun i => i = .int .i64 0) (fun i => 0)
  case atStart => rfl
  case round =>
    obtain rfl := hrel
    go_wp2
    go_ret
    exact ⟨rfl, rfl⟩

set_option maxHeartbeats 400000 in
theorem fillChunk_none (p : Nat) (w : World) (h : w.cell? ⟨p, 12, none⟩ = some (.slice none 0 0)) :
    Calls Tryz.prog 97 #[.pointer (some ⟨p, 0, none⟩)] w fun e w' => e = .returned (.tuple #[]) ∧ w = w' := by
  go_enter Tryz.func97, Tryz.ntmps97
  go_wp2
  go_loop [2] (fun i => i = .int .i64 0) (fun i => 0)
  case atStart => rfl
  case round =>
    obtain rfl := hrel
    go_wp2
    go_end0
    exact ⟨rfl, rfl⟩

set_option maxHeartbeats 400000 in
theorem growChunk_none (p : Nat) (w : World) (h : w.cell? ⟨p, 12, none⟩ = some (.slice none 0 0)) :
    Calls Tryz.prog 109 #[.pointer (some ⟨p, 0, none⟩)] w fun e w' => e = .returned (.tuple #[]) ∧ w = w' := by
  go_enter Tryz.func109, Tryz.ntmps109
  go_wp2
  go_loop [2] (fun i => i = .int .i64 0) (fun i => 0)
  case atStart => rfl
  case round =>
    obtain rfl := hrel
    go_wp2
    go_end0
    exact ⟨rfl, rfl⟩

set_option maxHeartbeats 400000 in
theorem lookChunk_none (p : Nat) (w : World) (h : w.cell? ⟨p, 12, none⟩ = some (.slice none 0 0)) :
    Calls Tryz.prog 121 #[.pointer (some ⟨p, 0, none⟩)] w fun e w' => e = .returned (.bool true) ∧ w = w' := by
  go_enter Tryz.func121, Tryz.ntmps121
  go_wp2
  go_loop [3] (fun i => i = .int .i64 0) (fun i => 0)
  case atStart => rfl
  case round =>
    obtain rfl := hrel
    go_wp2
    go_ret
    exact ⟨rfl, rfl⟩

end Go.Proofs.YtgpoljbccimkjaaGreatDoor

namespace Go.Proofs.YtgpoljbccimkjaaGreatDoor
set_option linter.unusedSimpArgs false
set_option linter.unusedVariables false
open Go.RowKit Go.Shelf

theorem infoHL : (Tryz.prog.info? 138).map (fun i => (i.zero, i.size, i.bytes)) = some (some (.agg #[.slice none 0 0, .slice none 0 0, .int .i64 0]), 3, 56) := by kernel_rfl
theorem underHL : Tryz.prog.underlying 33 = some (.slice 138) := by kernel_rfl

/-- A list that is kept: itself, it with more behind it, its number. -/
structure Ent where
  v : Value
  g : Value
  n : Nat
def Ent.cells (e : Ent) : List Value := [e.v, e.g, .int .i64 e.n]
def rowCells (E : List Ent) : List Value := E.flatMap Ent.cells
theorem rowCells_snoc (E : List Ent) (e : Ent) : rowCells (E ++ [e]) = rowCells E ++ e.cells := by simp [rowCells]

def nil0 : Value := .slice none 0 0
/-- Block p is a book that keeps E, in row vr; all of that lies from block B on. -/
def BookAt (W : World) (B p : Nat) (vr : Value) (E : List Ent) : Prop :=
  BoxV W p [.int .i64 E.length, nil0, vr, nil0, nil0, nil0, nil0, nil0, nil0, nil0, nil0, nil0, nil0] ∧ W.ownsRow B 138 3 vr E.length (rowCells E) ∧ vr.ownBlock ≠ some p ∧ B ≤ p

theorem row_below {w w' : World} {B n size : Nat} {T : TypeId} {v : Value} {xs : List Value} (h : w.ownsRow B T size v n xs) (hb : Below w.heap.size w w') : w'.ownsRow B T size v n xs := by
  obtain ⟨h0, h1⟩ := h
  refine ⟨h0, ?_⟩
  rcases h1 with h1 | ⟨g, cap, cur, hv, hg, hh, r⟩
  · exact .inl h1
  · exact .inr ⟨g, cap, cur, hv, hg, by rw [hb.block g (Array.getElem?_eq_some_iff.1 hh).1]; exact hh, r⟩
theorem row_set {w : World} {B n size : Nat} {T : TypeId} {v : Value} {xs : List Value} (h : w.ownsRow B T size v n xs) {p : Addr} (hp : v.ownBlock ≠ some p.block) (u : Value) : (w.setCell p u).ownsRow B T size v n xs := by
  obtain ⟨h0, h1⟩ := h
  refine ⟨h0, ?_⟩
  rcases h1 with h1 | ⟨g, cap, cur, rfl, hg, hh, r⟩
  · exact .inl h1
  · refine .inr ⟨g, cap, cur, rfl, hg, ?_, r⟩
    rw [Below.heap_setCell w p u g (fun e => hp (by rw [← e]; rfl))]
    exact hh

theorem keep_done {B p g cap n c : Nat} {a : Option Addr} {vr : Value} {E : List Ent} {w W0 W2 w1 : World} (h0 : Below B w W0) (hX : BoxV W0 p [.int .i64 ((E.length : Int) + 1), nil0, vr, nil0, nil0, nil0, nil0, nil0, nil0, nil0, nil0, nil0, nil0])
    (hR : W0.ownsRow B 138 3 vr E.length (rowCells E)) (hne : vr.ownBlock ≠ some p) (hBp : B ≤ p) (hB : B ≤ W0.heap.size) (h2 : Below W0.heap.size W0 W2)
    (hown : w1.ownsRow B 138 3 (.slice (some ⟨g, 0, none⟩) (E.length + 1) cap) (E.length + 1) (rowCells E ++ [.slice a n c, .slice none 0 0, .int .i64 ((E.length : Int) + 1)]))
    (hgrow : W2.grownBy w1 vr.ownBlock) (hat : vr.ownBlock = some g ∨ W0.heap.size ≤ g) :
    (∃ vr', BookAt (w1.setCell ⟨p, 2, none⟩ (.slice (some ⟨g, 0, none⟩) (E.length + 1) cap)) B p vr' (E ++ [⟨.slice a n c, nil0, E.length + 1⟩])) ∧ Below B w (w1.setCell ⟨p, 2, none⟩ (.slice (some ⟨g, 0, none⟩) (E.length + 1) cap)) := by
  have hp := hX.lt
  have hs := h2.size
  have hgp : g ≠ p := by
    rcases hat with h | h
    · intro e; subst e; exact hne h
    · omega
  have hc : ∀ i, w1.cell? ⟨p, i, none⟩ = W0.cell? ⟨p, i, none⟩ := fun i => (hgrow.cell_far ⟨p, i, none⟩ (by show p < _; omega) (fun e => hne e.symm)).trans (h2.cell (p := ⟨p, i, none⟩) hp)
  have hf : ∀ i, w1.frozen? ⟨p, i, none⟩ = W0.frozen? ⟨p, i, none⟩ := fun i => (hgrow.frozen_far ⟨p, i, none⟩ (by show p < _; omega) (fun e => hne e.symm)).trans (h2.frozen (p := ⟨p, i, none⟩) hp)
  have hlen : (E ++ [(⟨.slice a n c, nil0, E.length + 1⟩ : Ent)]).length = E.length + 1 := by simp
  have hB1 : Below B w w1 := (Below.trans h0 (h2.mono hB)).grown hgrow (by omega) (fun k e => (hR.lt k e).1)
  refine ⟨⟨.slice (some ⟨g, 0, none⟩) (E.length + 1) cap, fun i hi => ?_, ?_, ?_, hBp⟩, hB1.setCell (p := ⟨p, 2, none⟩) hBp _⟩
  · have hi' : i < 13 := by simpa using hi
    rw [World.frozen?_setCell, hf i, hlen]
    refine ⟨?_, (hX i (by simpa using hi)).2⟩
    have e1 : (((E.length + 1 : Nat)) : Int) = (E.length : Int) + 1 := by omega
    rw [e1]
    by_cases h2' : i = 2
    · subst h2'
      rw [World.cell?_setCell_same _ _ _ ((hc 2).trans hX.at2)]
      rfl
    · rw [World.cell?_setCell_other _ _ _ _ (by first | (simp; done) | (simp; omega)), hc i, (hX i (by simpa using hi)).1]
      match i, h2' with
      | 0, _ => rfl
      | 1, _ => rfl
      | (j + 3), _ => rfl
  · rw [hlen, rowCells_snoc]
    have := row_set hown (p := ⟨p, 2, none⟩) (by intro e; simp [Value.ownBlock] at e; exact hgp e) (.slice (some ⟨g, 0, none⟩) (E.length + 1) cap)
    simpa [Ent.cells, nil0] using this
  · intro e
    simp [Value.ownBlock] at e
    exact hgp e

set_option maxRecDepth 100000 in
set_option maxHeartbeats 4000000 in
theorem keepLimb_any (B p n c : Nat) (a : Option Addr) (vr : Value) (E : List Ent) (w : World) (hb : BookAt w B p vr E) (hB : B ≤ w.heap.size) (hn : E.length ≤ 1000) :
    Calls Tryz.prog 167 #[.pointer (some ⟨p, 0, none⟩), .slice a n c] w fun e w' => e = .returned (.tuple #[]) ∧ (∃ vr', BookAt w' B p vr' (E ++ [⟨.slice a n c, nil0, E.length + 1⟩])) ∧ Below B w w' := by
  obtain ⟨i0, hi, hz0, hz1, hz2⟩ := info_parts infoHL
  obtain ⟨hbox, hrow, hne, hBp⟩ := hb
  have hplt := hbox.lt
  have k0 := hbox.at0
  have f0 := (hbox 0 (by simp)).2
  obtain ⟨W0, e0, hx, hrow0, hs0, HB0⟩ : ∃ W0, w.setCell ⟨p, 0, none⟩ (.int .i64 ((E.length : Int) + 1)) = W0 ∧ BoxV W0 p [.int .i64 ((E.length : Int) + 1), nil0, vr, nil0, nil0, nil0, nil0, nil0, nil0, nil0, nil0, nil0, nil0] ∧ W0.ownsRow B 138 3 vr E.length (rowCells E) ∧ W0.heap.size = w.heap.size ∧ Hid (Below B w W0) := by
    refine ⟨_, rfl, fun i hi => ?_, row_set hrow (p := ⟨p, 0, none⟩) hne _, by simp, (Below.refl _ _).setCell (p := ⟨p, 0, none⟩) hBp _⟩
    rw [World.frozen?_setCell]
    refine ⟨?_, (hbox i (by simpa using hi)).2⟩
    rcases Nat.eq_zero_or_pos i with rfl | hpos
    · rw [World.cell?_setCell_same _ _ _ k0]; rfl
    · rw [World.cell?_setCell_other _ _ _ _ (by simp), (hbox i (by simpa using hi)).1]
      obtain ⟨j, rfl⟩ : ∃ j, i = j + 1 := ⟨i - 1, by omega⟩
      rfl
  have HX := Lib.hid hx
  have HR := Lib.hid hrow0
  have k0' := hx.at0
  have k2 := hx.at2
  have f2 := (hx 2 (by simp)).2
  have hplt' : p < W0.heap.size := by omega
  clear hbox hrow hrow0 hx
  go_enter Tryz.func167, Tryz.ntmps167
  go_wp2_with fail
  go_region_law (refine step_append_lies _ rfl (.tmp 15) (.tmp 22) 33 rfl B 138 i0 _ 3 56 underHL hi hz0 hz1 hz2 rfl (by decide) vr E.length (rowCells E) (by simp [Act.eval, Act.put]) (row_below HR.out (by repeat (first | exact Below.refl _ _ | with_reducible refine Below.drew ?_ | with_reducible refine below_drewN ?_ _ | with_reducible refine Below.setCell ?_ (by first | (simp; done) | (simp; omega) | omega) _ | with_reducible refine Below.alloc ?_ (by first | (simp; done) | (simp; omega) | omega) _))) ⟨W0.heap.size, 0, none⟩ 1 1 [.slice a n c, .slice none 0 0, .int .i64 ((E.length : Int) + 1)] (by simp [Act.eval, Act.put]) rfl (World.news_of_block (heap_alloc_new _ _)) (by simp [Value.oneCell']) (by decide) (by unfold maxLen; omega) (by omega) (by simp; omega) _ rfl ?_; intro g cap w1 hown hgrow hat hlt; have hc2 : w1.cell? ⟨p, 2, none⟩ = some vr := Eq.trans (hgrow.cell_far ⟨p, 2, none⟩ (by simp; omega) (fun e => hne e.symm)) (Eq.trans (Below.cell (B := W0.heap.size) (w := W0) (by repeat (first | exact Below.refl _ _ | with_reducible refine Below.drew ?_ | with_reducible refine below_drewN ?_ _ | with_reducible refine Below.setCell ?_ (by first | (simp; done) | (simp; omega) | omega) _ | with_reducible refine Below.alloc ?_ (by first | (simp; done) | (simp; omega) | omega) _)) (p := ⟨p, 2, none⟩) hplt') k2); have hf2 : w1.frozen? ⟨p, 2, none⟩ = false := Eq.trans (hgrow.frozen_far ⟨p, 2, none⟩ (by simp; omega) (fun e => hne e.symm)) (Eq.trans (Below.frozen (B := W0.heap.size) (w := W0) (by repeat (first | exact Below.refl _ _ | with_reducible refine Below.drew ?_ | with_reducible refine below_drewN ?_ _ | with_reducible refine Below.setCell ?_ (by first | (simp; done) | (simp; omega) | omega) _ | with_reducible refine Below.alloc ?_ (by first | (simp; done) | (simp; omega) | omega) _)) (p := ⟨p, 2, none⟩) hplt') f2))
  all_goals
    go_end0
    refine ⟨rfl, ?_⟩
    exact keep_done HB0.out HX.out HR.out hne hBp (by omega) (by repeat (first | exact Below.refl _ _ | with_reducible refine Below.drew ?_ | with_reducible refine below_drewN ?_ _ | with_reducible refine Below.setCell ?_ (by first | (simp; done) | (simp; omega) | omega) _ | with_reducible refine Below.alloc ?_ (by first | (simp; done) | (simp; omega) | omega) _)) hown hgrow (hat.elim .inl fun h => .inr (by simp at h; omega))

end Go.Proofs.YtgpoljbccimkjaaGreatDoor

namespace Go.Proofs.YtgpoljbccimkjaaGreatDoor
set_option linter.unusedSimpArgs false
set_option linter.unusedVariables false
open Go.RowKit Go.Shelf

theorem BookAt.below {W W' : World} {B p : Nat} {vr : Value} {E : List Ent} (h : BookAt W B p vr E) (hb : Below W.heap.size W W') : BookAt W' B p vr E :=
  ⟨h.1.below hb, row_below h.2.1 hb, h.2.2⟩

/-- Kept: one entry more. -/
def Kept (B p : Nat) (E : List Ent) (w : World) (e : Ending) (w' : World) : Prop := e = .returned (.tuple #[]) ∧ (∃ vr', BookAt w' B p vr' E) ∧ Below B w w'

theorem Limbs_any (B p n c : Nat) (a : Option Addr) (vr : Value) (E : List Ent) (w : World) (hb : BookAt w B p vr E) (hB : B ≤ w.heap.size) (hn : E.length ≤ 1000) :
    Calls Tryz.prog 85 #[.pointer (some ⟨p, 0, none⟩), .slice a n c] w fun e w' => Kept B p (E ++ [⟨.slice a n c, nil0, E.length + 1⟩]) w e w' := by
  have HB := Lib.hid hb
  clear hb
  go_enter Tryz.func85, Tryz.ntmps85
  go_wp2_with fail
  refine (keepLimb_any B p n c a vr E w HB.out hB hn).mono ?_
  rintro e w' ⟨rfl, h1, h2⟩
  have H1 := Lib.hid h1
  clear h1
  go_wp2_with fail
  go_end0
  exact ⟨rfl, H1.out, h2⟩

theorem Num_any (B p n c : Nat) (a : Option Addr) (s : Bool) (vr : Value) (E : List Ent) (w : World) (hb : BookAt w B p vr E) (hB : B ≤ w.heap.size) (hn : E.length ≤ 1000) :
    Calls Tryz.prog 22 #[.pointer (some ⟨p, 0, none⟩), .agg #[.bool s, .slice a n c]] w fun e w' => Kept B p (E ++ [⟨.slice a n c, nil0, E.length + 1⟩]) w e w' := by
  obtain ⟨W0, e0, n1, hb0, hz0⟩ := box1 w (.bool s) (.slice a n c)
  have HB := Lib.hid (hb.below hb0)
  obtain ⟨c0, c1, -, -⟩ := n1
  have B0 := Lib.hid hb0
  clear hb hb0
  go_enter Tryz.func22, Tryz.ntmps22
  go_wp2_with fail
  clear e0
  refine (Limbs_any B p n c a vr E W0 HB.out (by omega) hn).mono ?_
  rintro e w' ⟨rfl, h1, h2⟩
  have H1 := Lib.hid h1
  clear h1
  go_wp2_with fail
  go_end0
  exact ⟨rfl, H1.out, (B0.out.mono hB).trans h2⟩

end Go.Proofs.YtgpoljbccimkjaaGreatDoor
