/-
  NARROWER THAN 'FOR EVERY INPUT', by the rows' own cells (each row's printed sentence says how): LimbsDivs: laid · LimbsTexts: laid · FracsPairs: laid · FracsMakes: laid · FracsTexts: laid · FracsField: laid · FracsUndone: laid · FracsOrder: laid · FracsMade: laid · FracsRead: laid · FracsSmall: laid.
  DERIVED. THE GIVEN ROWS OF THIS SEAT. 11 by the template 'for every input the law returns true; each argument reads behind the call as it read before'; 0 by the template 'total and deterministic' (their statements: YtgpoljbccimkjaaGreatDoorTotals.lean).
  GIVEN WITH THE SEED: the statements are not yours to turn. If you find one false, say at which input.
  Laid BY PROGRAM, IN A SANDBOX (cutbox-rows.mjs): the forced cells as the released guide's own fill.sh prints them over the translation 52b06bb17ea43b85… (all of the seat's roots in one cut). By AI agents, Wed Nov 11 2026. No macro, syntax, notation, axiom, sorry.
-/
import Derived.Test.YtgpoljbccimkjaaGreatDoorChecked
import GoSem.Claim
import GoSem.ClaimJoined
import GoSem.ClaimMapViews
import Derived.JoinedTies
import Derived.KernelRfl
namespace Go.Proofs.YtgpoljbccimkjaaGreatDoor
/- THE CELL 'sum', in the pinned program and in every row, IS THE sha256 OF THE DUMP (.gsa) THAT YtgpoljbccimkjaaGreatDoorProg.lean LOADS. Nothing in Lean hashes anything: it is a label: what it is worth is what the hold of that sum in a sandbox is worth. -/
noncomputable def Tryz.pinned : Pinned := { name := "ytgpoljbccimkjaagreatdoor", sum := "52b06bb17ea43b85cfb444a3f84f81e1ed17f8e475ae56428cc0136a794ccef3", checked := Tryz.checked }
namespace Rows
def none {H : Type} : Left H := { results := [], args := [] }

/- WHAT THE LISTED PACKAGE-LEVEL VARIABLES READ AS WHEN THE CALL BEGINS. Each datum BY PROGRAM (the guide's laid-datum.mjs) off the statement by which the dump's own 'gosem.cut.vars' lays the variable. In a bare row this is a premise. The card (YtgpoljbccimkjaaGreatDoorCards.lean) ties it to the program's text. -/
def laid_math_bits_deBruijn32tab {H : Type} : DataW H := .agg [.lit (.int .u8 0), .lit (.int .u8 1), .lit (.int .u8 28), .lit (.int .u8 2), .lit (.int .u8 29), .lit (.int .u8 14), .lit (.int .u8 24), .lit (.int .u8 3), .lit (.int .u8 30), .lit (.int .u8 22), .lit (.int .u8 20), .lit (.int .u8 15), .lit (.int .u8 25), .lit (.int .u8 17), .lit (.int .u8 4), .lit (.int .u8 8), .lit (.int .u8 31), .lit (.int .u8 27), .lit (.int .u8 13), .lit (.int .u8 23), .lit (.int .u8 21), .lit (.int .u8 19), .lit (.int .u8 16), .lit (.int .u8 7), .lit (.int .u8 26), .lit (.int .u8 12), .lit (.int .u8 18), .lit (.int .u8 6), .lit (.int .u8 11), .lit (.int .u8 5), .lit (.int .u8 10), .lit (.int .u8 9)]
def laid_math_bits_deBruijn64tab {H : Type} : DataW H := .agg [.lit (.int .u8 0), .lit (.int .u8 1), .lit (.int .u8 56), .lit (.int .u8 2), .lit (.int .u8 57), .lit (.int .u8 49), .lit (.int .u8 28), .lit (.int .u8 3), .lit (.int .u8 61), .lit (.int .u8 58), .lit (.int .u8 42), .lit (.int .u8 50), .lit (.int .u8 38), .lit (.int .u8 29), .lit (.int .u8 17), .lit (.int .u8 4), .lit (.int .u8 62), .lit (.int .u8 47), .lit (.int .u8 59), .lit (.int .u8 36), .lit (.int .u8 45), .lit (.int .u8 43), .lit (.int .u8 51), .lit (.int .u8 22), .lit (.int .u8 53), .lit (.int .u8 39), .lit (.int .u8 33), .lit (.int .u8 30), .lit (.int .u8 24), .lit (.int .u8 18), .lit (.int .u8 12), .lit (.int .u8 5), .lit (.int .u8 63), .lit (.int .u8 55), .lit (.int .u8 48), .lit (.int .u8 27), .lit (.int .u8 60), .lit (.int .u8 41), .lit (.int .u8 37), .lit (.int .u8 16), .lit (.int .u8 46), .lit (.int .u8 35), .lit (.int .u8 44), .lit (.int .u8 21), .lit (.int .u8 52), .lit (.int .u8 32), .lit (.int .u8 23), .lit (.int .u8 11), .lit (.int .u8 54), .lit (.int .u8 26), .lit (.int .u8 40), .lit (.int .u8 15), .lit (.int .u8 34), .lit (.int .u8 20), .lit (.int .u8 31), .lit (.int .u8 10), .lit (.int .u8 25), .lit (.int .u8 14), .lit (.int .u8 19), .lit (.int .u8 9), .lit (.int .u8 13), .lit (.int .u8 8), .lit (.int .u8 7), .lit (.int .u8 6)]
def laid_internal_strconv_uint64pow10 {H : Type} : DataW H := .agg [.lit (.int .u64 1), .lit (.int .u64 10), .lit (.int .u64 100), .lit (.int .u64 1000), .lit (.int .u64 10000), .lit (.int .u64 100000), .lit (.int .u64 1000000), .lit (.int .u64 10000000), .lit (.int .u64 100000000), .lit (.int .u64 1000000000), .lit (.int .u64 10000000000), .lit (.int .u64 100000000000), .lit (.int .u64 1000000000000), .lit (.int .u64 10000000000000), .lit (.int .u64 100000000000000), .lit (.int .u64 1000000000000000), .lit (.int .u64 10000000000000000), .lit (.int .u64 100000000000000000), .lit (.int .u64 1000000000000000000), .lit (.int .u64 10000000000000000000)]

/-- 'reckonerlaw01.LimbsDivs': WHATEVER THE INPUT: true; the input reads as it did. -/
def limbsDivsSpec : ChangeSpec := { name := "limbsDivs", fn := fun _ => fun
  | [d1, d2] => { results := [.lit (.bool true)], args := [d1, d2] }
  | _ => none }
def limbsDivsRow : OpenClaim := { program := "ytgpoljbccimkjaagreatdoor", sum := "52b06bb17ea43b85cfb444a3f84f81e1ed17f8e475ae56428cc0136a794ccef3", func := "reckoner/reckonerlaw01.LimbsDivs", spec := "limbsDivs", inPlace := ["math/bits.Add64"], unfollowed := true, recurses := true, named := ["math/bits.divideError", "math/bits.overflowError", "internal/strconv.uint64pow10", "math/bits.deBruijn32tab", "math/bits.deBruijn64tab"], apart := false, laid := [("math/bits.deBruijn32tab", laid_math_bits_deBruijn32tab), ("math/bits.deBruijn64tab", laid_math_bits_deBruijn64tab), ("internal/strconv.uint64pow10", laid_internal_strconv_uint64pow10)] }
def LimbsDivsSaid : Prop := limbsDivsRow.holds Tryz.pinned (OpenSpec.ofChange limbsDivsSpec)

/-- ITS FALSE NEIGHBOUR: 'it returns false'. Refute it at one input. -/
def limbsDivsWrong : ChangeSpec := { name := "limbsDivs", fn := fun _ => fun
  | [d1, d2] => { results := [.lit (.bool false)], args := [d1, d2] }
  | _ => none }
def LimbsDivsWrongFalsely : Prop := limbsDivsRow.holds Tryz.pinned (OpenSpec.ofChange limbsDivsWrong)

/-- 'reckonerlaw01.LimbsTexts': WHATEVER THE INPUT: true; the input reads as it did. -/
def limbsTextsSpec : ChangeSpec := { name := "limbsTexts", fn := fun _ => fun
  | [d1, d2, d3] => { results := [.lit (.bool true)], args := [d1, d2, d3] }
  | _ => none }
def limbsTextsRow : OpenClaim := { program := "ytgpoljbccimkjaagreatdoor", sum := "52b06bb17ea43b85cfb444a3f84f81e1ed17f8e475ae56428cc0136a794ccef3", func := "reckoner/reckonerlaw01.LimbsTexts", spec := "limbsTexts", inPlace := ["internal/abi.NoEscape"], unfollowed := true, recurses := true, named := ["internal/strconv.uint64pow10", "math/bits.deBruijn32tab", "math/bits.deBruijn64tab"], apart := false, laid := [("math/bits.deBruijn32tab", laid_math_bits_deBruijn32tab), ("math/bits.deBruijn64tab", laid_math_bits_deBruijn64tab), ("internal/strconv.uint64pow10", laid_internal_strconv_uint64pow10)] }
def LimbsTextsSaid : Prop := limbsTextsRow.holds Tryz.pinned (OpenSpec.ofChange limbsTextsSpec)

/-- ITS FALSE NEIGHBOUR: 'it returns false'. Refute it at one input. -/
def limbsTextsWrong : ChangeSpec := { name := "limbsTexts", fn := fun _ => fun
  | [d1, d2, d3] => { results := [.lit (.bool false)], args := [d1, d2, d3] }
  | _ => none }
def LimbsTextsWrongFalsely : Prop := limbsTextsRow.holds Tryz.pinned (OpenSpec.ofChange limbsTextsWrong)

/-- 'reckonerlaw02.FracsPairs': WHATEVER THE INPUT: true; the input reads as it did. -/
def fracsPairsSpec : ChangeSpec := { name := "fracsPairs", fn := fun _ => fun
  | [d1, d2] => { results := [.lit (.bool true)], args := [d1, d2] }
  | _ => none }
def fracsPairsRow : OpenClaim := { program := "ytgpoljbccimkjaagreatdoor", sum := "52b06bb17ea43b85cfb444a3f84f81e1ed17f8e475ae56428cc0136a794ccef3", func := "reckoner/reckonerlaw02.FracsPairs", spec := "fracsPairs", inPlace := ["math/bits.Add64"], unfollowed := true, recurses := true, named := ["math/bits.divideError", "math/bits.overflowError", "internal/strconv.uint64pow10", "math/bits.deBruijn32tab", "math/bits.deBruijn64tab"], apart := false, laid := [("math/bits.deBruijn32tab", laid_math_bits_deBruijn32tab), ("math/bits.deBruijn64tab", laid_math_bits_deBruijn64tab), ("internal/strconv.uint64pow10", laid_internal_strconv_uint64pow10)] }
def FracsPairsSaid : Prop := fracsPairsRow.holds Tryz.pinned (OpenSpec.ofChange fracsPairsSpec)

/-- ITS FALSE NEIGHBOUR: 'it returns false'. Refute it at one input. -/
def fracsPairsWrong : ChangeSpec := { name := "fracsPairs", fn := fun _ => fun
  | [d1, d2] => { results := [.lit (.bool false)], args := [d1, d2] }
  | _ => none }
def FracsPairsWrongFalsely : Prop := fracsPairsRow.holds Tryz.pinned (OpenSpec.ofChange fracsPairsWrong)

/-- 'reckonerlaw02.FracsMakes': WHATEVER THE INPUT: true; the input reads as it did. -/
def fracsMakesSpec : ChangeSpec := { name := "fracsMakes", fn := fun _ => fun
  | [d1, d2, d3] => { results := [.lit (.bool true)], args := [d1, d2, d3] }
  | _ => none }
def fracsMakesRow : OpenClaim := { program := "ytgpoljbccimkjaagreatdoor", sum := "52b06bb17ea43b85cfb444a3f84f81e1ed17f8e475ae56428cc0136a794ccef3", func := "reckoner/reckonerlaw02.FracsMakes", spec := "fracsMakes", inPlace := ["math/bits.Add64"], unfollowed := true, recurses := true, named := ["math/bits.divideError", "math/bits.overflowError", "internal/strconv.uint64pow10", "math/bits.deBruijn32tab", "math/bits.deBruijn64tab"], apart := false, laid := [("math/bits.deBruijn32tab", laid_math_bits_deBruijn32tab), ("math/bits.deBruijn64tab", laid_math_bits_deBruijn64tab), ("internal/strconv.uint64pow10", laid_internal_strconv_uint64pow10)] }
def FracsMakesSaid : Prop := fracsMakesRow.holds Tryz.pinned (OpenSpec.ofChange fracsMakesSpec)

/-- ITS FALSE NEIGHBOUR: 'it returns false'. Refute it at one input. -/
def fracsMakesWrong : ChangeSpec := { name := "fracsMakes", fn := fun _ => fun
  | [d1, d2, d3] => { results := [.lit (.bool false)], args := [d1, d2, d3] }
  | _ => none }
def FracsMakesWrongFalsely : Prop := fracsMakesRow.holds Tryz.pinned (OpenSpec.ofChange fracsMakesWrong)

/-- 'reckonerlaw02.FracsTexts': WHATEVER THE INPUT: true; the input reads as it did. -/
def fracsTextsSpec : ChangeSpec := { name := "fracsTexts", fn := fun _ => fun
  | [d1, d2] => { results := [.lit (.bool true)], args := [d1, d2] }
  | _ => none }
def fracsTextsRow : OpenClaim := { program := "ytgpoljbccimkjaagreatdoor", sum := "52b06bb17ea43b85cfb444a3f84f81e1ed17f8e475ae56428cc0136a794ccef3", func := "reckoner/reckonerlaw02.FracsTexts", spec := "fracsTexts", inPlace := ["internal/bytealg.IndexByteString", "internal/bytealg.IndexString", "math/bits.Add64", "internal/abi.NoEscape"], unfollowed := true, recurses := true, named := ["internal/bytealg.MaxLen", "math/bits.divideError", "math/bits.overflowError", "internal/strconv.uint64pow10", "math/bits.deBruijn32tab", "math/bits.deBruijn64tab"], apart := false, laid := [("math/bits.deBruijn32tab", laid_math_bits_deBruijn32tab), ("math/bits.deBruijn64tab", laid_math_bits_deBruijn64tab), ("internal/strconv.uint64pow10", laid_internal_strconv_uint64pow10)] }
def FracsTextsSaid : Prop := fracsTextsRow.holds Tryz.pinned (OpenSpec.ofChange fracsTextsSpec)

/-- ITS FALSE NEIGHBOUR: 'it returns false'. Refute it at one input. -/
def fracsTextsWrong : ChangeSpec := { name := "fracsTexts", fn := fun _ => fun
  | [d1, d2] => { results := [.lit (.bool false)], args := [d1, d2] }
  | _ => none }
def FracsTextsWrongFalsely : Prop := fracsTextsRow.holds Tryz.pinned (OpenSpec.ofChange fracsTextsWrong)

/-- 'reckonerlaw02.FracsField': WHATEVER THE INPUT: true; the input reads as it did. -/
def fracsFieldSpec : ChangeSpec := { name := "fracsField", fn := fun _ => fun
  | [d1, d2, d3] => { results := [.lit (.bool true)], args := [d1, d2, d3] }
  | _ => none }
def fracsFieldRow : OpenClaim := { program := "ytgpoljbccimkjaagreatdoor", sum := "52b06bb17ea43b85cfb444a3f84f81e1ed17f8e475ae56428cc0136a794ccef3", func := "reckoner/reckonerlaw02.FracsField", spec := "fracsField", inPlace := ["math/bits.Add64", "internal/bytealg.IndexByteString", "internal/bytealg.IndexString", "internal/abi.NoEscape"], unfollowed := true, recurses := true, named := ["math/bits.divideError", "math/bits.overflowError", "internal/bytealg.MaxLen", "internal/strconv.uint64pow10", "math/bits.deBruijn32tab", "math/bits.deBruijn64tab"], apart := false, laid := [("math/bits.deBruijn32tab", laid_math_bits_deBruijn32tab), ("math/bits.deBruijn64tab", laid_math_bits_deBruijn64tab), ("internal/strconv.uint64pow10", laid_internal_strconv_uint64pow10)] }
def FracsFieldSaid : Prop := fracsFieldRow.holds Tryz.pinned (OpenSpec.ofChange fracsFieldSpec)

/-- ITS FALSE NEIGHBOUR: 'it returns false'. Refute it at one input. -/
def fracsFieldWrong : ChangeSpec := { name := "fracsField", fn := fun _ => fun
  | [d1, d2, d3] => { results := [.lit (.bool false)], args := [d1, d2, d3] }
  | _ => none }
def FracsFieldWrongFalsely : Prop := fracsFieldRow.holds Tryz.pinned (OpenSpec.ofChange fracsFieldWrong)

/-- 'reckonerlaw02.FracsUndone': WHATEVER THE INPUT: true; the input reads as it did. -/
def fracsUndoneSpec : ChangeSpec := { name := "fracsUndone", fn := fun _ => fun
  | [d1, d2] => { results := [.lit (.bool true)], args := [d1, d2] }
  | _ => none }
def fracsUndoneRow : OpenClaim := { program := "ytgpoljbccimkjaagreatdoor", sum := "52b06bb17ea43b85cfb444a3f84f81e1ed17f8e475ae56428cc0136a794ccef3", func := "reckoner/reckonerlaw02.FracsUndone", spec := "fracsUndone", inPlace := ["math/bits.Add64", "internal/bytealg.IndexByteString", "internal/bytealg.IndexString", "internal/abi.NoEscape"], unfollowed := true, recurses := true, named := ["math/bits.divideError", "math/bits.overflowError", "internal/bytealg.MaxLen", "internal/strconv.uint64pow10", "math/bits.deBruijn32tab", "math/bits.deBruijn64tab"], apart := false, laid := [("math/bits.deBruijn32tab", laid_math_bits_deBruijn32tab), ("math/bits.deBruijn64tab", laid_math_bits_deBruijn64tab), ("internal/strconv.uint64pow10", laid_internal_strconv_uint64pow10)] }
def FracsUndoneSaid : Prop := fracsUndoneRow.holds Tryz.pinned (OpenSpec.ofChange fracsUndoneSpec)

/-- ITS FALSE NEIGHBOUR: 'it returns false'. Refute it at one input. -/
def fracsUndoneWrong : ChangeSpec := { name := "fracsUndone", fn := fun _ => fun
  | [d1, d2] => { results := [.lit (.bool false)], args := [d1, d2] }
  | _ => none }
def FracsUndoneWrongFalsely : Prop := fracsUndoneRow.holds Tryz.pinned (OpenSpec.ofChange fracsUndoneWrong)

/-- 'reckonerlaw02.FracsOrder': WHATEVER THE INPUT: true; the input reads as it did. -/
def fracsOrderSpec : ChangeSpec := { name := "fracsOrder", fn := fun _ => fun
  | [d1, d2, d3] => { results := [.lit (.bool true)], args := [d1, d2, d3] }
  | _ => none }
def fracsOrderRow : OpenClaim := { program := "ytgpoljbccimkjaagreatdoor", sum := "52b06bb17ea43b85cfb444a3f84f81e1ed17f8e475ae56428cc0136a794ccef3", func := "reckoner/reckonerlaw02.FracsOrder", spec := "fracsOrder", inPlace := ["math/bits.Add64", "internal/bytealg.IndexByteString", "internal/bytealg.IndexString", "internal/abi.NoEscape"], unfollowed := true, recurses := true, named := ["math/bits.divideError", "math/bits.overflowError", "internal/bytealg.MaxLen", "internal/strconv.uint64pow10", "math/bits.deBruijn32tab", "math/bits.deBruijn64tab"], apart := false, laid := [("math/bits.deBruijn32tab", laid_math_bits_deBruijn32tab), ("math/bits.deBruijn64tab", laid_math_bits_deBruijn64tab), ("internal/strconv.uint64pow10", laid_internal_strconv_uint64pow10)] }
def FracsOrderSaid : Prop := fracsOrderRow.holds Tryz.pinned (OpenSpec.ofChange fracsOrderSpec)

/-- ITS FALSE NEIGHBOUR: 'it returns false'. Refute it at one input. -/
def fracsOrderWrong : ChangeSpec := { name := "fracsOrder", fn := fun _ => fun
  | [d1, d2, d3] => { results := [.lit (.bool false)], args := [d1, d2, d3] }
  | _ => none }
def FracsOrderWrongFalsely : Prop := fracsOrderRow.holds Tryz.pinned (OpenSpec.ofChange fracsOrderWrong)

/-- 'reckonerlaw02.FracsMade': WHATEVER THE INPUT: true; the input reads as it did. -/
def fracsMadeSpec : ChangeSpec := { name := "fracsMade", fn := fun _ => fun
  | [d1, d2, d3] => { results := [.lit (.bool true)], args := [d1, d2, d3] }
  | _ => none }
def fracsMadeRow : OpenClaim := { program := "ytgpoljbccimkjaagreatdoor", sum := "52b06bb17ea43b85cfb444a3f84f81e1ed17f8e475ae56428cc0136a794ccef3", func := "reckoner/reckonerlaw02.FracsMade", spec := "fracsMade", inPlace := ["math/bits.Add64", "internal/bytealg.IndexByteString", "internal/bytealg.IndexString", "internal/abi.NoEscape"], unfollowed := true, recurses := true, named := ["math/bits.divideError", "math/bits.overflowError", "internal/bytealg.MaxLen", "internal/strconv.uint64pow10", "math/bits.deBruijn32tab", "math/bits.deBruijn64tab"], apart := false, laid := [("math/bits.deBruijn32tab", laid_math_bits_deBruijn32tab), ("math/bits.deBruijn64tab", laid_math_bits_deBruijn64tab), ("internal/strconv.uint64pow10", laid_internal_strconv_uint64pow10)] }
def FracsMadeSaid : Prop := fracsMadeRow.holds Tryz.pinned (OpenSpec.ofChange fracsMadeSpec)

/-- ITS FALSE NEIGHBOUR: 'it returns false'. Refute it at one input. -/
def fracsMadeWrong : ChangeSpec := { name := "fracsMade", fn := fun _ => fun
  | [d1, d2, d3] => { results := [.lit (.bool false)], args := [d1, d2, d3] }
  | _ => none }
def FracsMadeWrongFalsely : Prop := fracsMadeRow.holds Tryz.pinned (OpenSpec.ofChange fracsMadeWrong)

/-- 'reckonerlaw02.FracsRead': WHATEVER THE INPUT: true; the input reads as it did. -/
def fracsReadSpec : ChangeSpec := { name := "fracsRead", fn := fun _ => fun
  | [d1, d2] => { results := [.lit (.bool true)], args := [d1, d2] }
  | _ => none }
def fracsReadRow : OpenClaim := { program := "ytgpoljbccimkjaagreatdoor", sum := "52b06bb17ea43b85cfb444a3f84f81e1ed17f8e475ae56428cc0136a794ccef3", func := "reckoner/reckonerlaw02.FracsRead", spec := "fracsRead", inPlace := ["math/bits.Add64", "internal/bytealg.IndexByteString", "internal/bytealg.IndexString", "internal/abi.NoEscape"], unfollowed := true, recurses := true, named := ["math/bits.divideError", "math/bits.overflowError", "internal/bytealg.MaxLen", "internal/strconv.uint64pow10", "math/bits.deBruijn32tab", "math/bits.deBruijn64tab"], apart := false, laid := [("math/bits.deBruijn32tab", laid_math_bits_deBruijn32tab), ("math/bits.deBruijn64tab", laid_math_bits_deBruijn64tab), ("internal/strconv.uint64pow10", laid_internal_strconv_uint64pow10)] }
def FracsReadSaid : Prop := fracsReadRow.holds Tryz.pinned (OpenSpec.ofChange fracsReadSpec)

/-- ITS FALSE NEIGHBOUR: 'it returns false'. Refute it at one input. -/
def fracsReadWrong : ChangeSpec := { name := "fracsRead", fn := fun _ => fun
  | [d1, d2] => { results := [.lit (.bool false)], args := [d1, d2] }
  | _ => none }
def FracsReadWrongFalsely : Prop := fracsReadRow.holds Tryz.pinned (OpenSpec.ofChange fracsReadWrong)

/-- 'reckonerlaw02.FracsSmall': WHATEVER THE INPUT: true; the input reads as it did. -/
def fracsSmallSpec : ChangeSpec := { name := "fracsSmall", fn := fun _ => fun
  | [d1, d2, d3] => { results := [.lit (.bool true)], args := [d1, d2, d3] }
  | _ => none }
def fracsSmallRow : OpenClaim := { program := "ytgpoljbccimkjaagreatdoor", sum := "52b06bb17ea43b85cfb444a3f84f81e1ed17f8e475ae56428cc0136a794ccef3", func := "reckoner/reckonerlaw02.FracsSmall", spec := "fracsSmall", inPlace := ["math/bits.Add64", "internal/bytealg.IndexByteString", "internal/bytealg.IndexString", "internal/abi.NoEscape"], unfollowed := true, recurses := true, named := ["math/bits.divideError", "math/bits.overflowError", "internal/bytealg.MaxLen", "internal/strconv.uint64pow10", "math/bits.deBruijn32tab", "math/bits.deBruijn64tab"], apart := false, laid := [("math/bits.deBruijn32tab", laid_math_bits_deBruijn32tab), ("math/bits.deBruijn64tab", laid_math_bits_deBruijn64tab), ("internal/strconv.uint64pow10", laid_internal_strconv_uint64pow10)] }
def FracsSmallSaid : Prop := fracsSmallRow.holds Tryz.pinned (OpenSpec.ofChange fracsSmallSpec)

/-- ITS FALSE NEIGHBOUR: 'it returns false'. Refute it at one input. -/
def fracsSmallWrong : ChangeSpec := { name := "fracsSmall", fn := fun _ => fun
  | [d1, d2, d3] => { results := [.lit (.bool false)], args := [d1, d2, d3] }
  | _ => none }
def FracsSmallWrongFalsely : Prop := fracsSmallRow.holds Tryz.pinned (OpenSpec.ofChange fracsSmallWrong)

/- THE SECOND FORM. 'bulk': how many values and letters a reading holds, each counted each time it is reached (what is shared counts as often as it is met; a slice's spare places count too). A statement '..UptoSaid' is the law's where the arguments, and the package variables that the reading takes, are together of bulk at most 1048576: NARROWER than '..Said'. Prove '..Said' where nothing that the law and all that it calls make is longer than what came in: it says more and counts as full. Else prove '..UptoSaid'. A law counts once. -/
mutual
def uptoBulk {H : Type} : DataW H → Nat
  | .lit (.string bytes) => bytes.length + 1
  | .lit _ => 1
  | .nil => 1
  | .ptr d => uptoBulk d + 1
  | .slice elems spare => uptoBulkAll elems + uptoBulkAll spare + 1
  | .agg parts => uptoBulkAll parts + 1
  | .iface _ d => uptoBulk d + 1
  | .map entries => uptoBulkEntries entries + 1
  | .held _ => 1
def uptoBulkAll {H : Type} : List (DataW H) → Nat
  | [] => 0
  | d :: r => uptoBulk d + uptoBulkAll r
def uptoBulkEntries {H : Type} : List (Lit × DataW H) → Nat
  | [] => 0
  | x :: r => uptoBulkEntry x + uptoBulkEntries r
def uptoBulkEntry {H : Type} : Lit × DataW H → Nat
  | (.string bytes, d) => bytes.length + uptoBulk d + 1
  | (_, d) => uptoBulk d + 1
 end
def uptoSmall : (H : Type) → List (DataW H) → Bool := fun _ ds => decide (uptoBulkAll ds ≤ 1048576)
def OpenSpec.upto (s : _root_.Go.ChangeSpec) : _root_.Go.OpenSpec := { _root_.Go.OpenSpec.ofChange s with cond := some uptoSmall }

/-- 'reckonerlaw01.LimbsDivs', WHERE WHAT IT READS IS OF BULK AT MOST 1048576: true; the input reads as it did. -/
def limbsDivsUptoRow : OpenClaim := { program := "ytgpoljbccimkjaagreatdoor", sum := "52b06bb17ea43b85cfb444a3f84f81e1ed17f8e475ae56428cc0136a794ccef3", func := "reckoner/reckonerlaw01.LimbsDivs", spec := "limbsDivs", inPlace := ["math/bits.Add64"], unfollowed := true, recurses := true, named := ["math/bits.divideError", "math/bits.overflowError", "internal/strconv.uint64pow10", "math/bits.deBruijn32tab", "math/bits.deBruijn64tab"], apart := false, laid := [("math/bits.deBruijn32tab", laid_math_bits_deBruijn32tab), ("math/bits.deBruijn64tab", laid_math_bits_deBruijn64tab), ("internal/strconv.uint64pow10", laid_internal_strconv_uint64pow10)], narrowed := true }
def LimbsDivsUptoSaid : Prop := limbsDivsUptoRow.holds Tryz.pinned (OpenSpec.upto limbsDivsSpec)

/-- 'reckonerlaw01.LimbsTexts', WHERE WHAT IT READS IS OF BULK AT MOST 1048576: true; the input reads as it did. -/
def limbsTextsUptoRow : OpenClaim := { program := "ytgpoljbccimkjaagreatdoor", sum := "52b06bb17ea43b85cfb444a3f84f81e1ed17f8e475ae56428cc0136a794ccef3", func := "reckoner/reckonerlaw01.LimbsTexts", spec := "limbsTexts", inPlace := ["internal/abi.NoEscape"], unfollowed := true, recurses := true, named := ["internal/strconv.uint64pow10", "math/bits.deBruijn32tab", "math/bits.deBruijn64tab"], apart := false, laid := [("math/bits.deBruijn32tab", laid_math_bits_deBruijn32tab), ("math/bits.deBruijn64tab", laid_math_bits_deBruijn64tab), ("internal/strconv.uint64pow10", laid_internal_strconv_uint64pow10)], narrowed := true }
def LimbsTextsUptoSaid : Prop := limbsTextsUptoRow.holds Tryz.pinned (OpenSpec.upto limbsTextsSpec)

/-- 'reckonerlaw02.FracsPairs', WHERE WHAT IT READS IS OF BULK AT MOST 1048576: true; the input reads as it did. -/
def fracsPairsUptoRow : OpenClaim := { program := "ytgpoljbccimkjaagreatdoor", sum := "52b06bb17ea43b85cfb444a3f84f81e1ed17f8e475ae56428cc0136a794ccef3", func := "reckoner/reckonerlaw02.FracsPairs", spec := "fracsPairs", inPlace := ["math/bits.Add64"], unfollowed := true, recurses := true, named := ["math/bits.divideError", "math/bits.overflowError", "internal/strconv.uint64pow10", "math/bits.deBruijn32tab", "math/bits.deBruijn64tab"], apart := false, laid := [("math/bits.deBruijn32tab", laid_math_bits_deBruijn32tab), ("math/bits.deBruijn64tab", laid_math_bits_deBruijn64tab), ("internal/strconv.uint64pow10", laid_internal_strconv_uint64pow10)], narrowed := true }
def FracsPairsUptoSaid : Prop := fracsPairsUptoRow.holds Tryz.pinned (OpenSpec.upto fracsPairsSpec)

/-- 'reckonerlaw02.FracsMakes', WHERE WHAT IT READS IS OF BULK AT MOST 1048576: true; the input reads as it did. -/
def fracsMakesUptoRow : OpenClaim := { program := "ytgpoljbccimkjaagreatdoor", sum := "52b06bb17ea43b85cfb444a3f84f81e1ed17f8e475ae56428cc0136a794ccef3", func := "reckoner/reckonerlaw02.FracsMakes", spec := "fracsMakes", inPlace := ["math/bits.Add64"], unfollowed := true, recurses := true, named := ["math/bits.divideError", "math/bits.overflowError", "internal/strconv.uint64pow10", "math/bits.deBruijn32tab", "math/bits.deBruijn64tab"], apart := false, laid := [("math/bits.deBruijn32tab", laid_math_bits_deBruijn32tab), ("math/bits.deBruijn64tab", laid_math_bits_deBruijn64tab), ("internal/strconv.uint64pow10", laid_internal_strconv_uint64pow10)], narrowed := true }
def FracsMakesUptoSaid : Prop := fracsMakesUptoRow.holds Tryz.pinned (OpenSpec.upto fracsMakesSpec)

/-- 'reckonerlaw02.FracsTexts', WHERE WHAT IT READS IS OF BULK AT MOST 1048576: true; the input reads as it did. -/
def fracsTextsUptoRow : OpenClaim := { program := "ytgpoljbccimkjaagreatdoor", sum := "52b06bb17ea43b85cfb444a3f84f81e1ed17f8e475ae56428cc0136a794ccef3", func := "reckoner/reckonerlaw02.FracsTexts", spec := "fracsTexts", inPlace := ["internal/bytealg.IndexByteString", "internal/bytealg.IndexString", "math/bits.Add64", "internal/abi.NoEscape"], unfollowed := true, recurses := true, named := ["internal/bytealg.MaxLen", "math/bits.divideError", "math/bits.overflowError", "internal/strconv.uint64pow10", "math/bits.deBruijn32tab", "math/bits.deBruijn64tab"], apart := false, laid := [("math/bits.deBruijn32tab", laid_math_bits_deBruijn32tab), ("math/bits.deBruijn64tab", laid_math_bits_deBruijn64tab), ("internal/strconv.uint64pow10", laid_internal_strconv_uint64pow10)], narrowed := true }
def FracsTextsUptoSaid : Prop := fracsTextsUptoRow.holds Tryz.pinned (OpenSpec.upto fracsTextsSpec)

/-- 'reckonerlaw02.FracsField', WHERE WHAT IT READS IS OF BULK AT MOST 1048576: true; the input reads as it did. -/
def fracsFieldUptoRow : OpenClaim := { program := "ytgpoljbccimkjaagreatdoor", sum := "52b06bb17ea43b85cfb444a3f84f81e1ed17f8e475ae56428cc0136a794ccef3", func := "reckoner/reckonerlaw02.FracsField", spec := "fracsField", inPlace := ["math/bits.Add64", "internal/bytealg.IndexByteString", "internal/bytealg.IndexString", "internal/abi.NoEscape"], unfollowed := true, recurses := true, named := ["math/bits.divideError", "math/bits.overflowError", "internal/bytealg.MaxLen", "internal/strconv.uint64pow10", "math/bits.deBruijn32tab", "math/bits.deBruijn64tab"], apart := false, laid := [("math/bits.deBruijn32tab", laid_math_bits_deBruijn32tab), ("math/bits.deBruijn64tab", laid_math_bits_deBruijn64tab), ("internal/strconv.uint64pow10", laid_internal_strconv_uint64pow10)], narrowed := true }
def FracsFieldUptoSaid : Prop := fracsFieldUptoRow.holds Tryz.pinned (OpenSpec.upto fracsFieldSpec)

/-- 'reckonerlaw02.FracsUndone', WHERE WHAT IT READS IS OF BULK AT MOST 1048576: true; the input reads as it did. -/
def fracsUndoneUptoRow : OpenClaim := { program := "ytgpoljbccimkjaagreatdoor", sum := "52b06bb17ea43b85cfb444a3f84f81e1ed17f8e475ae56428cc0136a794ccef3", func := "reckoner/reckonerlaw02.FracsUndone", spec := "fracsUndone", inPlace := ["math/bits.Add64", "internal/bytealg.IndexByteString", "internal/bytealg.IndexString", "internal/abi.NoEscape"], unfollowed := true, recurses := true, named := ["math/bits.divideError", "math/bits.overflowError", "internal/bytealg.MaxLen", "internal/strconv.uint64pow10", "math/bits.deBruijn32tab", "math/bits.deBruijn64tab"], apart := false, laid := [("math/bits.deBruijn32tab", laid_math_bits_deBruijn32tab), ("math/bits.deBruijn64tab", laid_math_bits_deBruijn64tab), ("internal/strconv.uint64pow10", laid_internal_strconv_uint64pow10)], narrowed := true }
def FracsUndoneUptoSaid : Prop := fracsUndoneUptoRow.holds Tryz.pinned (OpenSpec.upto fracsUndoneSpec)

/-- 'reckonerlaw02.FracsOrder', WHERE WHAT IT READS IS OF BULK AT MOST 1048576: true; the input reads as it did. -/
def fracsOrderUptoRow : OpenClaim := { program := "ytgpoljbccimkjaagreatdoor", sum := "52b06bb17ea43b85cfb444a3f84f81e1ed17f8e475ae56428cc0136a794ccef3", func := "reckoner/reckonerlaw02.FracsOrder", spec := "fracsOrder", inPlace := ["math/bits.Add64", "internal/bytealg.IndexByteString", "internal/bytealg.IndexString", "internal/abi.NoEscape"], unfollowed := true, recurses := true, named := ["math/bits.divideError", "math/bits.overflowError", "internal/bytealg.MaxLen", "internal/strconv.uint64pow10", "math/bits.deBruijn32tab", "math/bits.deBruijn64tab"], apart := false, laid := [("math/bits.deBruijn32tab", laid_math_bits_deBruijn32tab), ("math/bits.deBruijn64tab", laid_math_bits_deBruijn64tab), ("internal/strconv.uint64pow10", laid_internal_strconv_uint64pow10)], narrowed := true }
def FracsOrderUptoSaid : Prop := fracsOrderUptoRow.holds Tryz.pinned (OpenSpec.upto fracsOrderSpec)

/-- 'reckonerlaw02.FracsMade', WHERE WHAT IT READS IS OF BULK AT MOST 1048576: true; the input reads as it did. -/
def fracsMadeUptoRow : OpenClaim := { program := "ytgpoljbccimkjaagreatdoor", sum := "52b06bb17ea43b85cfb444a3f84f81e1ed17f8e475ae56428cc0136a794ccef3", func := "reckoner/reckonerlaw02.FracsMade", spec := "fracsMade", inPlace := ["math/bits.Add64", "internal/bytealg.IndexByteString", "internal/bytealg.IndexString", "internal/abi.NoEscape"], unfollowed := true, recurses := true, named := ["math/bits.divideError", "math/bits.overflowError", "internal/bytealg.MaxLen", "internal/strconv.uint64pow10", "math/bits.deBruijn32tab", "math/bits.deBruijn64tab"], apart := false, laid := [("math/bits.deBruijn32tab", laid_math_bits_deBruijn32tab), ("math/bits.deBruijn64tab", laid_math_bits_deBruijn64tab), ("internal/strconv.uint64pow10", laid_internal_strconv_uint64pow10)], narrowed := true }
def FracsMadeUptoSaid : Prop := fracsMadeUptoRow.holds Tryz.pinned (OpenSpec.upto fracsMadeSpec)

/-- 'reckonerlaw02.FracsRead', WHERE WHAT IT READS IS OF BULK AT MOST 1048576: true; the input reads as it did. -/
def fracsReadUptoRow : OpenClaim := { program := "ytgpoljbccimkjaagreatdoor", sum := "52b06bb17ea43b85cfb444a3f84f81e1ed17f8e475ae56428cc0136a794ccef3", func := "reckoner/reckonerlaw02.FracsRead", spec := "fracsRead", inPlace := ["math/bits.Add64", "internal/bytealg.IndexByteString", "internal/bytealg.IndexString", "internal/abi.NoEscape"], unfollowed := true, recurses := true, named := ["math/bits.divideError", "math/bits.overflowError", "internal/bytealg.MaxLen", "internal/strconv.uint64pow10", "math/bits.deBruijn32tab", "math/bits.deBruijn64tab"], apart := false, laid := [("math/bits.deBruijn32tab", laid_math_bits_deBruijn32tab), ("math/bits.deBruijn64tab", laid_math_bits_deBruijn64tab), ("internal/strconv.uint64pow10", laid_internal_strconv_uint64pow10)], narrowed := true }
def FracsReadUptoSaid : Prop := fracsReadUptoRow.holds Tryz.pinned (OpenSpec.upto fracsReadSpec)

/-- 'reckonerlaw02.FracsSmall', WHERE WHAT IT READS IS OF BULK AT MOST 1048576: true; the input reads as it did. -/
def fracsSmallUptoRow : OpenClaim := { program := "ytgpoljbccimkjaagreatdoor", sum := "52b06bb17ea43b85cfb444a3f84f81e1ed17f8e475ae56428cc0136a794ccef3", func := "reckoner/reckonerlaw02.FracsSmall", spec := "fracsSmall", inPlace := ["math/bits.Add64", "internal/bytealg.IndexByteString", "internal/bytealg.IndexString", "internal/abi.NoEscape"], unfollowed := true, recurses := true, named := ["math/bits.divideError", "math/bits.overflowError", "internal/bytealg.MaxLen", "internal/strconv.uint64pow10", "math/bits.deBruijn32tab", "math/bits.deBruijn64tab"], apart := false, laid := [("math/bits.deBruijn32tab", laid_math_bits_deBruijn32tab), ("math/bits.deBruijn64tab", laid_math_bits_deBruijn64tab), ("internal/strconv.uint64pow10", laid_internal_strconv_uint64pow10)], narrowed := true }
def FracsSmallUptoSaid : Prop := fracsSmallUptoRow.holds Tryz.pinned (OpenSpec.upto fracsSmallSpec)

end Rows
end Go.Proofs.YtgpoljbccimkjaaGreatDoor
