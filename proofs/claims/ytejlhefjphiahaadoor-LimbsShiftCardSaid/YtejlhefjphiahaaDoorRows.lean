/-
  NARROWER THAN 'FOR EVERY INPUT', by the rows' own cells (each row's printed sentence says how): LimbsRing: laid · LimbsUndone: laid · LimbsOften: laid · LimbsGreatest: laid · LimbsRead: laid · LimbsSmall: laid · LimbsShift: laid · LimbsNone: laid.
  DERIVED. THE GIVEN ROWS OF THIS SEAT. 8 by the template 'for every input the law returns true; each argument reads behind the call as it read before'; 0 by the template 'total and deterministic' (their statements: YtejlhefjphiahaaDoorTotals.lean).
  GIVEN WITH THE SEED: the statements are not yours to turn. If you find one false, say at which input.
  Laid BY PROGRAM, IN A SANDBOX (cutbox-rows.mjs): the forced cells as the released guide's own fill.sh prints them over the translation 0387dd5eec27ba8f… (all of the seat's roots in one cut). By AI agents, Wed Nov 11 2026. No macro, syntax, notation, axiom, sorry.
-/
import Derived.Test.YtejlhefjphiahaaDoorChecked
import GoSem.Claim
import GoSem.ClaimJoined
import GoSem.ClaimMapViews
import Derived.JoinedTies
import Derived.KernelRfl
namespace Go.Proofs.YtejlhefjphiahaaDoor
/- THE CELL 'sum', in the pinned program and in every row, IS THE sha256 OF THE DUMP (.gsa) THAT YtejlhefjphiahaaDoorProg.lean LOADS. Nothing in Lean hashes anything: it is a label: what it is worth is what the hold of that sum in a sandbox is worth. -/
noncomputable def Tryd.pinned : Pinned := { name := "ytejlhefjphiahaadoor", sum := "0387dd5eec27ba8ffac0426af18a4c19b9a043fc9a5fcc90b4f12278ca6bc999", checked := Tryd.checked }
namespace Rows
def none {H : Type} : Left H := { results := [], args := [] }

/- WHAT THE LISTED PACKAGE-LEVEL VARIABLES READ AS WHEN THE CALL BEGINS. Each datum BY PROGRAM (the guide's laid-datum.mjs) off the statement by which the dump's own 'gosem.cut.vars' lays the variable. In a bare row this is a premise. The card (YtejlhefjphiahaaDoorCards.lean) ties it to the program's text. -/
def laid_math_bits_deBruijn32tab {H : Type} : DataW H := .agg [.lit (.int .u8 0), .lit (.int .u8 1), .lit (.int .u8 28), .lit (.int .u8 2), .lit (.int .u8 29), .lit (.int .u8 14), .lit (.int .u8 24), .lit (.int .u8 3), .lit (.int .u8 30), .lit (.int .u8 22), .lit (.int .u8 20), .lit (.int .u8 15), .lit (.int .u8 25), .lit (.int .u8 17), .lit (.int .u8 4), .lit (.int .u8 8), .lit (.int .u8 31), .lit (.int .u8 27), .lit (.int .u8 13), .lit (.int .u8 23), .lit (.int .u8 21), .lit (.int .u8 19), .lit (.int .u8 16), .lit (.int .u8 7), .lit (.int .u8 26), .lit (.int .u8 12), .lit (.int .u8 18), .lit (.int .u8 6), .lit (.int .u8 11), .lit (.int .u8 5), .lit (.int .u8 10), .lit (.int .u8 9)]
def laid_math_bits_deBruijn64tab {H : Type} : DataW H := .agg [.lit (.int .u8 0), .lit (.int .u8 1), .lit (.int .u8 56), .lit (.int .u8 2), .lit (.int .u8 57), .lit (.int .u8 49), .lit (.int .u8 28), .lit (.int .u8 3), .lit (.int .u8 61), .lit (.int .u8 58), .lit (.int .u8 42), .lit (.int .u8 50), .lit (.int .u8 38), .lit (.int .u8 29), .lit (.int .u8 17), .lit (.int .u8 4), .lit (.int .u8 62), .lit (.int .u8 47), .lit (.int .u8 59), .lit (.int .u8 36), .lit (.int .u8 45), .lit (.int .u8 43), .lit (.int .u8 51), .lit (.int .u8 22), .lit (.int .u8 53), .lit (.int .u8 39), .lit (.int .u8 33), .lit (.int .u8 30), .lit (.int .u8 24), .lit (.int .u8 18), .lit (.int .u8 12), .lit (.int .u8 5), .lit (.int .u8 63), .lit (.int .u8 55), .lit (.int .u8 48), .lit (.int .u8 27), .lit (.int .u8 60), .lit (.int .u8 41), .lit (.int .u8 37), .lit (.int .u8 16), .lit (.int .u8 46), .lit (.int .u8 35), .lit (.int .u8 44), .lit (.int .u8 21), .lit (.int .u8 52), .lit (.int .u8 32), .lit (.int .u8 23), .lit (.int .u8 11), .lit (.int .u8 54), .lit (.int .u8 26), .lit (.int .u8 40), .lit (.int .u8 15), .lit (.int .u8 34), .lit (.int .u8 20), .lit (.int .u8 31), .lit (.int .u8 10), .lit (.int .u8 25), .lit (.int .u8 14), .lit (.int .u8 19), .lit (.int .u8 9), .lit (.int .u8 13), .lit (.int .u8 8), .lit (.int .u8 7), .lit (.int .u8 6)]
def laid_internal_strconv_uint64pow10 {H : Type} : DataW H := .agg [.lit (.int .u64 1), .lit (.int .u64 10), .lit (.int .u64 100), .lit (.int .u64 1000), .lit (.int .u64 10000), .lit (.int .u64 100000), .lit (.int .u64 1000000), .lit (.int .u64 10000000), .lit (.int .u64 100000000), .lit (.int .u64 1000000000), .lit (.int .u64 10000000000), .lit (.int .u64 100000000000), .lit (.int .u64 1000000000000), .lit (.int .u64 10000000000000), .lit (.int .u64 100000000000000), .lit (.int .u64 1000000000000000), .lit (.int .u64 10000000000000000), .lit (.int .u64 100000000000000000), .lit (.int .u64 1000000000000000000), .lit (.int .u64 10000000000000000000)]

/-- 'reckonerlaw01.LimbsRing': WHATEVER THE INPUT: true; the input reads as it did. -/
def limbsRingSpec : ChangeSpec := { name := "limbsRing", fn := fun _ => fun
  | [d1, d2, d3] => { results := [.lit (.bool true)], args := [d1, d2, d3] }
  | _ => none }
def limbsRingRow : OpenClaim := { program := "ytejlhefjphiahaadoor", sum := "0387dd5eec27ba8ffac0426af18a4c19b9a043fc9a5fcc90b4f12278ca6bc999", func := "reckoner/reckonerlaw01.LimbsRing", spec := "limbsRing", inPlace := ["math/bits.Add64", "internal/abi.NoEscape"], unfollowed := true, recurses := true, named := ["math/bits.divideError", "math/bits.overflowError", "internal/strconv.uint64pow10", "math/bits.deBruijn32tab", "math/bits.deBruijn64tab"], apart := false, laid := [("math/bits.deBruijn32tab", laid_math_bits_deBruijn32tab), ("math/bits.deBruijn64tab", laid_math_bits_deBruijn64tab), ("internal/strconv.uint64pow10", laid_internal_strconv_uint64pow10)] }
def LimbsRingSaid : Prop := limbsRingRow.holds Tryd.pinned (OpenSpec.ofChange limbsRingSpec)

/-- ITS FALSE NEIGHBOUR: 'it returns false'. Refute it at one input. -/
def limbsRingWrong : ChangeSpec := { name := "limbsRing", fn := fun _ => fun
  | [d1, d2, d3] => { results := [.lit (.bool false)], args := [d1, d2, d3] }
  | _ => none }
def LimbsRingWrongFalsely : Prop := limbsRingRow.holds Tryd.pinned (OpenSpec.ofChange limbsRingWrong)

/-- 'reckonerlaw01.LimbsUndone': WHATEVER THE INPUT: true; the input reads as it did. -/
def limbsUndoneSpec : ChangeSpec := { name := "limbsUndone", fn := fun _ => fun
  | [d1, d2] => { results := [.lit (.bool true)], args := [d1, d2] }
  | _ => none }
def limbsUndoneRow : OpenClaim := { program := "ytejlhefjphiahaadoor", sum := "0387dd5eec27ba8ffac0426af18a4c19b9a043fc9a5fcc90b4f12278ca6bc999", func := "reckoner/reckonerlaw01.LimbsUndone", spec := "limbsUndone", inPlace := ["math/bits.Add64", "internal/abi.NoEscape"], unfollowed := true, recurses := true, named := ["math/bits.divideError", "math/bits.overflowError", "internal/strconv.uint64pow10", "math/bits.deBruijn32tab", "math/bits.deBruijn64tab"], apart := false, laid := [("math/bits.deBruijn32tab", laid_math_bits_deBruijn32tab), ("math/bits.deBruijn64tab", laid_math_bits_deBruijn64tab), ("internal/strconv.uint64pow10", laid_internal_strconv_uint64pow10)] }
def LimbsUndoneSaid : Prop := limbsUndoneRow.holds Tryd.pinned (OpenSpec.ofChange limbsUndoneSpec)

/-- ITS FALSE NEIGHBOUR: 'it returns false'. Refute it at one input. -/
def limbsUndoneWrong : ChangeSpec := { name := "limbsUndone", fn := fun _ => fun
  | [d1, d2] => { results := [.lit (.bool false)], args := [d1, d2] }
  | _ => none }
def LimbsUndoneWrongFalsely : Prop := limbsUndoneRow.holds Tryd.pinned (OpenSpec.ofChange limbsUndoneWrong)

/-- 'reckonerlaw01.LimbsOften': WHATEVER THE INPUT: true; the input reads as it did. -/
def limbsOftenSpec : ChangeSpec := { name := "limbsOften", fn := fun _ => fun
  | [d1, d2] => { results := [.lit (.bool true)], args := [d1, d2] }
  | _ => none }
def limbsOftenRow : OpenClaim := { program := "ytejlhefjphiahaadoor", sum := "0387dd5eec27ba8ffac0426af18a4c19b9a043fc9a5fcc90b4f12278ca6bc999", func := "reckoner/reckonerlaw01.LimbsOften", spec := "limbsOften", inPlace := ["math/bits.Add64", "internal/abi.NoEscape"], unfollowed := true, recurses := true, named := ["math/bits.divideError", "math/bits.overflowError", "internal/strconv.uint64pow10", "math/bits.deBruijn32tab", "math/bits.deBruijn64tab"], apart := false, laid := [("math/bits.deBruijn32tab", laid_math_bits_deBruijn32tab), ("math/bits.deBruijn64tab", laid_math_bits_deBruijn64tab), ("internal/strconv.uint64pow10", laid_internal_strconv_uint64pow10)] }
def LimbsOftenSaid : Prop := limbsOftenRow.holds Tryd.pinned (OpenSpec.ofChange limbsOftenSpec)

/-- ITS FALSE NEIGHBOUR: 'it returns false'. Refute it at one input. -/
def limbsOftenWrong : ChangeSpec := { name := "limbsOften", fn := fun _ => fun
  | [d1, d2] => { results := [.lit (.bool false)], args := [d1, d2] }
  | _ => none }
def LimbsOftenWrongFalsely : Prop := limbsOftenRow.holds Tryd.pinned (OpenSpec.ofChange limbsOftenWrong)

/-- 'reckonerlaw01.LimbsGreatest': WHATEVER THE INPUT: true; the input reads as it did. -/
def limbsGreatestSpec : ChangeSpec := { name := "limbsGreatest", fn := fun _ => fun
  | [d1, d2, d3] => { results := [.lit (.bool true)], args := [d1, d2, d3] }
  | _ => none }
def limbsGreatestRow : OpenClaim := { program := "ytejlhefjphiahaadoor", sum := "0387dd5eec27ba8ffac0426af18a4c19b9a043fc9a5fcc90b4f12278ca6bc999", func := "reckoner/reckonerlaw01.LimbsGreatest", spec := "limbsGreatest", inPlace := ["math/bits.Add64", "internal/abi.NoEscape"], unfollowed := true, recurses := true, named := ["math/bits.divideError", "math/bits.overflowError", "internal/strconv.uint64pow10", "math/bits.deBruijn32tab", "math/bits.deBruijn64tab"], apart := false, laid := [("math/bits.deBruijn32tab", laid_math_bits_deBruijn32tab), ("math/bits.deBruijn64tab", laid_math_bits_deBruijn64tab), ("internal/strconv.uint64pow10", laid_internal_strconv_uint64pow10)] }
def LimbsGreatestSaid : Prop := limbsGreatestRow.holds Tryd.pinned (OpenSpec.ofChange limbsGreatestSpec)

/-- ITS FALSE NEIGHBOUR: 'it returns false'. Refute it at one input. -/
def limbsGreatestWrong : ChangeSpec := { name := "limbsGreatest", fn := fun _ => fun
  | [d1, d2, d3] => { results := [.lit (.bool false)], args := [d1, d2, d3] }
  | _ => none }
def LimbsGreatestWrongFalsely : Prop := limbsGreatestRow.holds Tryd.pinned (OpenSpec.ofChange limbsGreatestWrong)

/-- 'reckonerlaw01.LimbsRead': WHATEVER THE INPUT: true; the input reads as it did. -/
def limbsReadSpec : ChangeSpec := { name := "limbsRead", fn := fun _ => fun
  | [d1, d2] => { results := [.lit (.bool true)], args := [d1, d2] }
  | _ => none }
def limbsReadRow : OpenClaim := { program := "ytejlhefjphiahaadoor", sum := "0387dd5eec27ba8ffac0426af18a4c19b9a043fc9a5fcc90b4f12278ca6bc999", func := "reckoner/reckonerlaw01.LimbsRead", spec := "limbsRead", inPlace := ["math/bits.Add64", "internal/abi.NoEscape"], unfollowed := true, recurses := true, named := ["math/bits.divideError", "math/bits.overflowError", "internal/strconv.uint64pow10", "math/bits.deBruijn32tab", "math/bits.deBruijn64tab"], apart := false, laid := [("math/bits.deBruijn32tab", laid_math_bits_deBruijn32tab), ("math/bits.deBruijn64tab", laid_math_bits_deBruijn64tab), ("internal/strconv.uint64pow10", laid_internal_strconv_uint64pow10)] }
def LimbsReadSaid : Prop := limbsReadRow.holds Tryd.pinned (OpenSpec.ofChange limbsReadSpec)

/-- ITS FALSE NEIGHBOUR: 'it returns false'. Refute it at one input. -/
def limbsReadWrong : ChangeSpec := { name := "limbsRead", fn := fun _ => fun
  | [d1, d2] => { results := [.lit (.bool false)], args := [d1, d2] }
  | _ => none }
def LimbsReadWrongFalsely : Prop := limbsReadRow.holds Tryd.pinned (OpenSpec.ofChange limbsReadWrong)

/-- 'reckonerlaw01.LimbsSmall': WHATEVER THE INPUT: true; the input reads as it did. -/
def limbsSmallSpec : ChangeSpec := { name := "limbsSmall", fn := fun _ => fun
  | [d1, d2, d3] => { results := [.lit (.bool true)], args := [d1, d2, d3] }
  | _ => none }
def limbsSmallRow : OpenClaim := { program := "ytejlhefjphiahaadoor", sum := "0387dd5eec27ba8ffac0426af18a4c19b9a043fc9a5fcc90b4f12278ca6bc999", func := "reckoner/reckonerlaw01.LimbsSmall", spec := "limbsSmall", inPlace := ["math/bits.Add64", "internal/abi.NoEscape"], unfollowed := true, recurses := true, named := ["math/bits.divideError", "math/bits.overflowError", "internal/strconv.uint64pow10", "math/bits.deBruijn32tab", "math/bits.deBruijn64tab"], apart := false, laid := [("math/bits.deBruijn32tab", laid_math_bits_deBruijn32tab), ("math/bits.deBruijn64tab", laid_math_bits_deBruijn64tab), ("internal/strconv.uint64pow10", laid_internal_strconv_uint64pow10)] }
def LimbsSmallSaid : Prop := limbsSmallRow.holds Tryd.pinned (OpenSpec.ofChange limbsSmallSpec)

/-- ITS FALSE NEIGHBOUR: 'it returns false'. Refute it at one input. -/
def limbsSmallWrong : ChangeSpec := { name := "limbsSmall", fn := fun _ => fun
  | [d1, d2, d3] => { results := [.lit (.bool false)], args := [d1, d2, d3] }
  | _ => none }
def LimbsSmallWrongFalsely : Prop := limbsSmallRow.holds Tryd.pinned (OpenSpec.ofChange limbsSmallWrong)

/-- 'reckonerlaw01.LimbsShift': WHATEVER THE INPUT: true; the input reads as it did. -/
def limbsShiftSpec : ChangeSpec := { name := "limbsShift", fn := fun _ => fun
  | [d1, d2] => { results := [.lit (.bool true)], args := [d1, d2] }
  | _ => none }
def limbsShiftRow : OpenClaim := { program := "ytejlhefjphiahaadoor", sum := "0387dd5eec27ba8ffac0426af18a4c19b9a043fc9a5fcc90b4f12278ca6bc999", func := "reckoner/reckonerlaw01.LimbsShift", spec := "limbsShift", inPlace := ["math/bits.Add64", "internal/abi.NoEscape"], unfollowed := true, recurses := true, named := ["math/bits.divideError", "math/bits.overflowError", "internal/strconv.uint64pow10", "math/bits.deBruijn32tab", "math/bits.deBruijn64tab"], apart := false, laid := [("math/bits.deBruijn32tab", laid_math_bits_deBruijn32tab), ("math/bits.deBruijn64tab", laid_math_bits_deBruijn64tab), ("internal/strconv.uint64pow10", laid_internal_strconv_uint64pow10)] }
def LimbsShiftSaid : Prop := limbsShiftRow.holds Tryd.pinned (OpenSpec.ofChange limbsShiftSpec)

/-- ITS FALSE NEIGHBOUR: 'it returns false'. Refute it at one input. -/
def limbsShiftWrong : ChangeSpec := { name := "limbsShift", fn := fun _ => fun
  | [d1, d2] => { results := [.lit (.bool false)], args := [d1, d2] }
  | _ => none }
def LimbsShiftWrongFalsely : Prop := limbsShiftRow.holds Tryd.pinned (OpenSpec.ofChange limbsShiftWrong)

/-- 'reckonerlaw01.LimbsNone': WHATEVER THE INPUT: true; the input reads as it did. -/
def limbsNoneSpec : ChangeSpec := { name := "limbsNone", fn := fun _ => fun
  | [d1, d2] => { results := [.lit (.bool true)], args := [d1, d2] }
  | _ => none }
def limbsNoneRow : OpenClaim := { program := "ytejlhefjphiahaadoor", sum := "0387dd5eec27ba8ffac0426af18a4c19b9a043fc9a5fcc90b4f12278ca6bc999", func := "reckoner/reckonerlaw01.LimbsNone", spec := "limbsNone", inPlace := ["math/bits.Add64", "internal/abi.NoEscape"], unfollowed := true, recurses := true, named := ["math/bits.divideError", "math/bits.overflowError", "internal/strconv.uint64pow10", "math/bits.deBruijn32tab", "math/bits.deBruijn64tab"], apart := false, laid := [("math/bits.deBruijn32tab", laid_math_bits_deBruijn32tab), ("math/bits.deBruijn64tab", laid_math_bits_deBruijn64tab), ("internal/strconv.uint64pow10", laid_internal_strconv_uint64pow10)] }
def LimbsNoneSaid : Prop := limbsNoneRow.holds Tryd.pinned (OpenSpec.ofChange limbsNoneSpec)

/-- ITS FALSE NEIGHBOUR: 'it returns false'. Refute it at one input. -/
def limbsNoneWrong : ChangeSpec := { name := "limbsNone", fn := fun _ => fun
  | [d1, d2] => { results := [.lit (.bool false)], args := [d1, d2] }
  | _ => none }
def LimbsNoneWrongFalsely : Prop := limbsNoneRow.holds Tryd.pinned (OpenSpec.ofChange limbsNoneWrong)

/- THE SECOND FORM. 'bulk': how many values and letters a reading holds, each counted each time it is reached (what is shared counts as often as it is met; a slice's spare places count too). A statement '..UptoSaid' is the law's where the arguments, and the package variables that the reading takes, are together of bulk at most 1048576: NARROWER than '..Said'. Prove '..Said' where nothing that the law and all that it calls make is longer than what came in: it says more and counts as full. Else prove '..UptoSaid'. A law counts once. -/
mutual
def uptoBulk {H : Type} : DataW H → Nat
  | .lit (.string bytes) => bytes.length + 1
  | .lit _ => 1
  | .nil => 1
  | .ptr d => uptoBulk d + 1
  | .slice elems spare => uptoBulkAll elems + uptoBulkAll spare + 1
  | .agg parts => uptoBulkAll parts + 1
  | .iface _ d => uptoBulk d + 1
  | .map entries => uptoBulkEntries entries + 1
  | .held _ => 1
def uptoBulkAll {H : Type} : List (DataW H) → Nat
  | [] => 0
  | d :: r => uptoBulk d + uptoBulkAll r
def uptoBulkEntries {H : Type} : List (Lit × DataW H) → Nat
  | [] => 0
  | x :: r => uptoBulkEntry x + uptoBulkEntries r
def uptoBulkEntry {H : Type} : Lit × DataW H → Nat
  | (.string bytes, d) => bytes.length + uptoBulk d + 1
  | (_, d) => uptoBulk d + 1
 end
def uptoSmall : (H : Type) → List (DataW H) → Bool := fun _ ds => decide (uptoBulkAll ds ≤ 1048576)
def OpenSpec.upto (s : _root_.Go.ChangeSpec) : _root_.Go.OpenSpec := { _root_.Go.OpenSpec.ofChange s with cond := some uptoSmall }

/-- 'reckonerlaw01.LimbsRing', WHERE WHAT IT READS IS OF BULK AT MOST 1048576: true; the input reads as it did. -/
def limbsRingUptoRow : OpenClaim := { program := "ytejlhefjphiahaadoor", sum := "0387dd5eec27ba8ffac0426af18a4c19b9a043fc9a5fcc90b4f12278ca6bc999", func := "reckoner/reckonerlaw01.LimbsRing", spec := "limbsRing", inPlace := ["math/bits.Add64", "internal/abi.NoEscape"], unfollowed := true, recurses := true, named := ["math/bits.divideError", "math/bits.overflowError", "internal/strconv.uint64pow10", "math/bits.deBruijn32tab", "math/bits.deBruijn64tab"], apart := false, laid := [("math/bits.deBruijn32tab", laid_math_bits_deBruijn32tab), ("math/bits.deBruijn64tab", laid_math_bits_deBruijn64tab), ("internal/strconv.uint64pow10", laid_internal_strconv_uint64pow10)], narrowed := true }
def LimbsRingUptoSaid : Prop := limbsRingUptoRow.holds Tryd.pinned (OpenSpec.upto limbsRingSpec)

/-- 'reckonerlaw01.LimbsUndone', WHERE WHAT IT READS IS OF BULK AT MOST 1048576: true; the input reads as it did. -/
def limbsUndoneUptoRow : OpenClaim := { program := "ytejlhefjphiahaadoor", sum := "0387dd5eec27ba8ffac0426af18a4c19b9a043fc9a5fcc90b4f12278ca6bc999", func := "reckoner/reckonerlaw01.LimbsUndone", spec := "limbsUndone", inPlace := ["math/bits.Add64", "internal/abi.NoEscape"], unfollowed := true, recurses := true, named := ["math/bits.divideError", "math/bits.overflowError", "internal/strconv.uint64pow10", "math/bits.deBruijn32tab", "math/bits.deBruijn64tab"], apart := false, laid := [("math/bits.deBruijn32tab", laid_math_bits_deBruijn32tab), ("math/bits.deBruijn64tab", laid_math_bits_deBruijn64tab), ("internal/strconv.uint64pow10", laid_internal_strconv_uint64pow10)], narrowed := true }
def LimbsUndoneUptoSaid : Prop := limbsUndoneUptoRow.holds Tryd.pinned (OpenSpec.upto limbsUndoneSpec)

/-- 'reckonerlaw01.LimbsOften', WHERE WHAT IT READS IS OF BULK AT MOST 1048576: true; the input reads as it did. -/
def limbsOftenUptoRow : OpenClaim := { program := "ytejlhefjphiahaadoor", sum := "0387dd5eec27ba8ffac0426af18a4c19b9a043fc9a5fcc90b4f12278ca6bc999", func := "reckoner/reckonerlaw01.LimbsOften", spec := "limbsOften", inPlace := ["math/bits.Add64", "internal/abi.NoEscape"], unfollowed := true, recurses := true, named := ["math/bits.divideError", "math/bits.overflowError", "internal/strconv.uint64pow10", "math/bits.deBruijn32tab", "math/bits.deBruijn64tab"], apart := false, laid := [("math/bits.deBruijn32tab", laid_math_bits_deBruijn32tab), ("math/bits.deBruijn64tab", laid_math_bits_deBruijn64tab), ("internal/strconv.uint64pow10", laid_internal_strconv_uint64pow10)], narrowed := true }
def LimbsOftenUptoSaid : Prop := limbsOftenUptoRow.holds Tryd.pinned (OpenSpec.upto limbsOftenSpec)

/-- 'reckonerlaw01.LimbsGreatest', WHERE WHAT IT READS IS OF BULK AT MOST 1048576: true; the input reads as it did. -/
def limbsGreatestUptoRow : OpenClaim := { program := "ytejlhefjphiahaadoor", sum := "0387dd5eec27ba8ffac0426af18a4c19b9a043fc9a5fcc90b4f12278ca6bc999", func := "reckoner/reckonerlaw01.LimbsGreatest", spec := "limbsGreatest", inPlace := ["math/bits.Add64", "internal/abi.NoEscape"], unfollowed := true, recurses := true, named := ["math/bits.divideError", "math/bits.overflowError", "internal/strconv.uint64pow10", "math/bits.deBruijn32tab", "math/bits.deBruijn64tab"], apart := false, laid := [("math/bits.deBruijn32tab", laid_math_bits_deBruijn32tab), ("math/bits.deBruijn64tab", laid_math_bits_deBruijn64tab), ("internal/strconv.uint64pow10", laid_internal_strconv_uint64pow10)], narrowed := true }
def LimbsGreatestUptoSaid : Prop := limbsGreatestUptoRow.holds Tryd.pinned (OpenSpec.upto limbsGreatestSpec)

/-- 'reckonerlaw01.LimbsRead', WHERE WHAT IT READS IS OF BULK AT MOST 1048576: true; the input reads as it did. -/
def limbsReadUptoRow : OpenClaim := { program := "ytejlhefjphiahaadoor", sum := "0387dd5eec27ba8ffac0426af18a4c19b9a043fc9a5fcc90b4f12278ca6bc999", func := "reckoner/reckonerlaw01.LimbsRead", spec := "limbsRead", inPlace := ["math/bits.Add64", "internal/abi.NoEscape"], unfollowed := true, recurses := true, named := ["math/bits.divideError", "math/bits.overflowError", "internal/strconv.uint64pow10", "math/bits.deBruijn32tab", "math/bits.deBruijn64tab"], apart := false, laid := [("math/bits.deBruijn32tab", laid_math_bits_deBruijn32tab), ("math/bits.deBruijn64tab", laid_math_bits_deBruijn64tab), ("internal/strconv.uint64pow10", laid_internal_strconv_uint64pow10)], narrowed := true }
def LimbsReadUptoSaid : Prop := limbsReadUptoRow.holds Tryd.pinned (OpenSpec.upto limbsReadSpec)

/-- 'reckonerlaw01.LimbsSmall', WHERE WHAT IT READS IS OF BULK AT MOST 1048576: true; the input reads as it did. -/
def limbsSmallUptoRow : OpenClaim := { program := "ytejlhefjphiahaadoor", sum := "0387dd5eec27ba8ffac0426af18a4c19b9a043fc9a5fcc90b4f12278ca6bc999", func := "reckoner/reckonerlaw01.LimbsSmall", spec := "limbsSmall", inPlace := ["math/bits.Add64", "internal/abi.NoEscape"], unfollowed := true, recurses := true, named := ["math/bits.divideError", "math/bits.overflowError", "internal/strconv.uint64pow10", "math/bits.deBruijn32tab", "math/bits.deBruijn64tab"], apart := false, laid := [("math/bits.deBruijn32tab", laid_math_bits_deBruijn32tab), ("math/bits.deBruijn64tab", laid_math_bits_deBruijn64tab), ("internal/strconv.uint64pow10", laid_internal_strconv_uint64pow10)], narrowed := true }
def LimbsSmallUptoSaid : Prop := limbsSmallUptoRow.holds Tryd.pinned (OpenSpec.upto limbsSmallSpec)

/-- 'reckonerlaw01.LimbsShift', WHERE WHAT IT READS IS OF BULK AT MOST 1048576: true; the input reads as it did. -/
def limbsShiftUptoRow : OpenClaim := { program := "ytejlhefjphiahaadoor", sum := "0387dd5eec27ba8ffac0426af18a4c19b9a043fc9a5fcc90b4f12278ca6bc999", func := "reckoner/reckonerlaw01.LimbsShift", spec := "limbsShift", inPlace := ["math/bits.Add64", "internal/abi.NoEscape"], unfollowed := true, recurses := true, named := ["math/bits.divideError", "math/bits.overflowError", "internal/strconv.uint64pow10", "math/bits.deBruijn32tab", "math/bits.deBruijn64tab"], apart := false, laid := [("math/bits.deBruijn32tab", laid_math_bits_deBruijn32tab), ("math/bits.deBruijn64tab", laid_math_bits_deBruijn64tab), ("internal/strconv.uint64pow10", laid_internal_strconv_uint64pow10)], narrowed := true }
def LimbsShiftUptoSaid : Prop := limbsShiftUptoRow.holds Tryd.pinned (OpenSpec.upto limbsShiftSpec)

/-- 'reckonerlaw01.LimbsNone', WHERE WHAT IT READS IS OF BULK AT MOST 1048576: true; the input reads as it did. -/
def limbsNoneUptoRow : OpenClaim := { program := "ytejlhefjphiahaadoor", sum := "0387dd5eec27ba8ffac0426af18a4c19b9a043fc9a5fcc90b4f12278ca6bc999", func := "reckoner/reckonerlaw01.LimbsNone", spec := "limbsNone", inPlace := ["math/bits.Add64", "internal/abi.NoEscape"], unfollowed := true, recurses := true, named := ["math/bits.divideError", "math/bits.overflowError", "internal/strconv.uint64pow10", "math/bits.deBruijn32tab", "math/bits.deBruijn64tab"], apart := false, laid := [("math/bits.deBruijn32tab", laid_math_bits_deBruijn32tab), ("math/bits.deBruijn64tab", laid_math_bits_deBruijn64tab), ("internal/strconv.uint64pow10", laid_internal_strconv_uint64pow10)], narrowed := true }
def LimbsNoneUptoSaid : Prop := limbsNoneUptoRow.holds Tryd.pinned (OpenSpec.upto limbsNoneSpec)

end Rows
end Go.Proofs.YtejlhefjphiahaaDoor
