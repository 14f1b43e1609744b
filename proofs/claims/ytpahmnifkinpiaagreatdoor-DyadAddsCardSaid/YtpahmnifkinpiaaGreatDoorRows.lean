/-
  NARROWER THAN 'FOR EVERY INPUT', by the rows' own cells (each row's printed sentence says how): DyadForms: laid · DyadAdds: laid · DyadMuls: laid · DyadGrids: laid · DyadRing: laid · DyadOrder: laid · DyadGrid: laid · SpanForms: laid · SpanMeets: laid · SpanRing: laid · SpanQuos: laid · SpanInside: laid · SpanWithin: laid · SpanTight: laid.
  DERIVED. THE GIVEN ROWS OF THIS SEAT. 14 by the template 'for every input the law returns true; each argument reads behind the call as it read before'; 0 by the template 'total and deterministic' (their statements: YtpahmnifkinpiaaGreatDoorTotals.lean).
  GIVEN WITH THE SEED: the statements are not yours to turn. If you find one false, say at which input.
  Laid BY PROGRAM, IN A SANDBOX (cutbox-rows.mjs): the forced cells as the released guide's own fill.sh prints them over the translation b8962aa08ee47769… (all of the seat's roots in one cut). By AI agents, Wed Nov 11 2026. No macro, syntax, notation, axiom, sorry.
-/
import Derived.Test.YtpahmnifkinpiaaGreatDoorChecked
import GoSem.PinnedTables
import GoSem.Claim
import GoSem.ClaimJoined
import GoSem.ClaimMapViews
import Derived.JoinedTies
import Derived.KernelRfl
namespace Go.Proofs.YtpahmnifkinpiaaGreatDoor
/- THE CELL 'sum', in the pinned program and in every row, IS THE sha256 OF THE DUMP (.gsa) THAT YtpahmnifkinpiaaGreatDoorProg.lean LOADS. Nothing in Lean hashes anything: it is a label: what it is worth is what the hold of that sum in a sandbox is worth. -/
noncomputable def Tryz.pinned : Pinned := { name := "ytpahmnifkinpiaagreatdoor", sum := "b8962aa08ee47769e10ad3374a5cf466cdf6720c55431bd6d1dcbd794e735af4", checked := Tryz.checked }
namespace Rows
def none {H : Type} : Left H := { results := [], args := [] }

/- WHAT THE LISTED PACKAGE-LEVEL VARIABLES READ AS WHEN THE CALL BEGINS. Each datum BY PROGRAM (the guide's laid-datum.mjs) off the statement by which the dump's own 'gosem.cut.vars' lays the variable. In a bare row this is a premise. The card (YtpahmnifkinpiaaGreatDoorCards.lean) ties it to the program's text. -/
def laid_unicode_utf8_acceptRanges {H : Type} : DataW H := .agg [.agg [.lit (.int .u8 128), .lit (.int .u8 191)], .agg [.lit (.int .u8 160), .lit (.int .u8 191)], .agg [.lit (.int .u8 128), .lit (.int .u8 159)], .agg [.lit (.int .u8 144), .lit (.int .u8 191)], .agg [.lit (.int .u8 128), .lit (.int .u8 143)], .agg [.lit (.int .u8 0), .lit (.int .u8 0)], .agg [.lit (.int .u8 0), .lit (.int .u8 0)], .agg [.lit (.int .u8 0), .lit (.int .u8 0)], .agg [.lit (.int .u8 0), .lit (.int .u8 0)], .agg [.lit (.int .u8 0), .lit (.int .u8 0)], .agg [.lit (.int .u8 0), .lit (.int .u8 0)], .agg [.lit (.int .u8 0), .lit (.int .u8 0)], .agg [.lit (.int .u8 0), .lit (.int .u8 0)], .agg [.lit (.int .u8 0), .lit (.int .u8 0)], .agg [.lit (.int .u8 0), .lit (.int .u8 0)], .agg [.lit (.int .u8 0), .lit (.int .u8 0)]]
/-- One of Go's own tables, pinned by name: the form's constant. -/
def laid_unicode_utf8_first : DataW Unit := Go.Pinned.utf8First

/-- 'ogeelaw04.DyadForms': WHATEVER THE INPUT: true; the input reads as it did. -/
def dyadFormsSpec : ChangeSpec := { name := "dyadForms", fn := fun _ => fun
  | [d1, d2, d3] => { results := [.lit (.bool true)], args := [d1, d2, d3] }
  | _ => none }
def dyadFormsRow : OpenClaim := { program := "ytpahmnifkinpiaagreatdoor", sum := "b8962aa08ee47769e10ad3374a5cf466cdf6720c55431bd6d1dcbd794e735af4", func := "ogee/ogeelaw04.DyadForms", spec := "dyadForms", inPlace := ["internal/bytealg.IndexByteString", "internal/bytealg.IndexString", "internal/abi.NoEscape", "internal/bytealg.MakeNoZero", "math/bits.Add64", "internal/bytealg.abigen_runtime_cmpstring", "math/bits.Sub64"], unfollowed := true, recurses := true, named := ["unicode/utf8.first", "unicode/utf8.acceptRanges", "internal/bytealg.MaxLen"], apart := false, laid := [("unicode/utf8.acceptRanges", laid_unicode_utf8_acceptRanges), ("unicode/utf8.first", laid_unicode_utf8_first)] }
def DyadFormsSaid : Prop := dyadFormsRow.holds Tryz.pinned (OpenSpec.ofChange dyadFormsSpec)

/-- ITS FALSE NEIGHBOUR: 'it returns false'. Refute it at one input. -/
def dyadFormsWrong : ChangeSpec := { name := "dyadForms", fn := fun _ => fun
  | [d1, d2, d3] => { results := [.lit (.bool false)], args := [d1, d2, d3] }
  | _ => none }
def DyadFormsWrongFalsely : Prop := dyadFormsRow.holds Tryz.pinned (OpenSpec.ofChange dyadFormsWrong)

/-- 'ogeelaw04.DyadAdds': WHATEVER THE INPUT: true; the input reads as it did. -/
def dyadAddsSpec : ChangeSpec := { name := "dyadAdds", fn := fun _ => fun
  | [d] => { results := [.lit (.bool true)], args := [d] }
  | _ => none }
def dyadAddsRow : OpenClaim := { program := "ytpahmnifkinpiaagreatdoor", sum := "b8962aa08ee47769e10ad3374a5cf466cdf6720c55431bd6d1dcbd794e735af4", func := "ogee/ogeelaw04.DyadAdds", spec := "dyadAdds", inPlace := ["internal/bytealg.IndexByteString", "internal/bytealg.IndexString", "internal/abi.NoEscape", "internal/bytealg.MakeNoZero", "math/bits.Add64", "internal/bytealg.abigen_runtime_cmpstring", "math/bits.Sub64"], unfollowed := true, recurses := true, named := ["unicode/utf8.first", "unicode/utf8.acceptRanges", "internal/bytealg.MaxLen"], apart := false, laid := [("unicode/utf8.acceptRanges", laid_unicode_utf8_acceptRanges), ("unicode/utf8.first", laid_unicode_utf8_first)] }
def DyadAddsSaid : Prop := dyadAddsRow.holds Tryz.pinned (OpenSpec.ofChange dyadAddsSpec)

/-- ITS FALSE NEIGHBOUR: 'it returns false'. Refute it at one input. -/
def dyadAddsWrong : ChangeSpec := { name := "dyadAdds", fn := fun _ => fun
  | [d] => { results := [.lit (.bool false)], args := [d] }
  | _ => none }
def DyadAddsWrongFalsely : Prop := dyadAddsRow.holds Tryz.pinned (OpenSpec.ofChange dyadAddsWrong)

/-- 'ogeelaw04.DyadMuls': WHATEVER THE INPUT: true; the input reads as it did. -/
def dyadMulsSpec : ChangeSpec := { name := "dyadMuls", fn := fun _ => fun
  | [d1, d2] => { results := [.lit (.bool true)], args := [d1, d2] }
  | _ => none }
def dyadMulsRow : OpenClaim := { program := "ytpahmnifkinpiaagreatdoor", sum := "b8962aa08ee47769e10ad3374a5cf466cdf6720c55431bd6d1dcbd794e735af4", func := "ogee/ogeelaw04.DyadMuls", spec := "dyadMuls", inPlace := ["internal/bytealg.IndexByteString", "internal/bytealg.IndexString", "internal/abi.NoEscape", "internal/bytealg.MakeNoZero", "math/bits.Add64", "internal/bytealg.abigen_runtime_cmpstring", "math/bits.Sub64"], unfollowed := true, recurses := true, named := ["unicode/utf8.first", "unicode/utf8.acceptRanges", "internal/bytealg.MaxLen"], apart := false, laid := [("unicode/utf8.acceptRanges", laid_unicode_utf8_acceptRanges), ("unicode/utf8.first", laid_unicode_utf8_first)] }
def DyadMulsSaid : Prop := dyadMulsRow.holds Tryz.pinned (OpenSpec.ofChange dyadMulsSpec)

/-- ITS FALSE NEIGHBOUR: 'it returns false'. Refute it at one input. -/
def dyadMulsWrong : ChangeSpec := { name := "dyadMuls", fn := fun _ => fun
  | [d1, d2] => { results := [.lit (.bool false)], args := [d1, d2] }
  | _ => none }
def DyadMulsWrongFalsely : Prop := dyadMulsRow.holds Tryz.pinned (OpenSpec.ofChange dyadMulsWrong)

/-- 'ogeelaw04.DyadGrids': WHATEVER THE INPUT: true; the input reads as it did. -/
def dyadGridsSpec : ChangeSpec := { name := "dyadGrids", fn := fun _ => fun
  | [d1, d2] => { results := [.lit (.bool true)], args := [d1, d2] }
  | _ => none }
def dyadGridsRow : OpenClaim := { program := "ytpahmnifkinpiaagreatdoor", sum := "b8962aa08ee47769e10ad3374a5cf466cdf6720c55431bd6d1dcbd794e735af4", func := "ogee/ogeelaw04.DyadGrids", spec := "dyadGrids", inPlace := ["internal/bytealg.IndexByteString", "internal/bytealg.IndexString", "internal/abi.NoEscape", "internal/bytealg.MakeNoZero", "math/bits.Add64", "internal/bytealg.abigen_runtime_cmpstring", "math/bits.Sub64"], unfollowed := true, recurses := true, named := ["unicode/utf8.first", "unicode/utf8.acceptRanges", "internal/bytealg.MaxLen"], apart := false, laid := [("unicode/utf8.acceptRanges", laid_unicode_utf8_acceptRanges), ("unicode/utf8.first", laid_unicode_utf8_first)] }
def DyadGridsSaid : Prop := dyadGridsRow.holds Tryz.pinned (OpenSpec.ofChange dyadGridsSpec)

/-- ITS FALSE NEIGHBOUR: 'it returns false'. Refute it at one input. -/
def dyadGridsWrong : ChangeSpec := { name := "dyadGrids", fn := fun _ => fun
  | [d1, d2] => { results := [.lit (.bool false)], args := [d1, d2] }
  | _ => none }
def DyadGridsWrongFalsely : Prop := dyadGridsRow.holds Tryz.pinned (OpenSpec.ofChange dyadGridsWrong)

/-- 'ogeelaw04.DyadRing': WHATEVER THE INPUT: true; the input reads as it did. -/
def dyadRingSpec : ChangeSpec := { name := "dyadRing", fn := fun _ => fun
  | [d1, d2, d3] => { results := [.lit (.bool true)], args := [d1, d2, d3] }
  | _ => none }
def dyadRingRow : OpenClaim := { program := "ytpahmnifkinpiaagreatdoor", sum := "b8962aa08ee47769e10ad3374a5cf466cdf6720c55431bd6d1dcbd794e735af4", func := "ogee/ogeelaw04.DyadRing", spec := "dyadRing", inPlace := ["internal/bytealg.IndexByteString", "internal/bytealg.IndexString", "internal/abi.NoEscape", "internal/bytealg.MakeNoZero", "math/bits.Add64", "internal/bytealg.abigen_runtime_cmpstring", "math/bits.Sub64"], unfollowed := true, recurses := true, named := ["unicode/utf8.first", "unicode/utf8.acceptRanges", "internal/bytealg.MaxLen"], apart := false, laid := [("unicode/utf8.acceptRanges", laid_unicode_utf8_acceptRanges), ("unicode/utf8.first", laid_unicode_utf8_first)] }
def DyadRingSaid : Prop := dyadRingRow.holds Tryz.pinned (OpenSpec.ofChange dyadRingSpec)

/-- ITS FALSE NEIGHBOUR: 'it returns false'. Refute it at one input. -/
def dyadRingWrong : ChangeSpec := { name := "dyadRing", fn := fun _ => fun
  | [d1, d2, d3] => { results := [.lit (.bool false)], args := [d1, d2, d3] }
  | _ => none }
def DyadRingWrongFalsely : Prop := dyadRingRow.holds Tryz.pinned (OpenSpec.ofChange dyadRingWrong)

/-- 'ogeelaw04.DyadOrder': WHATEVER THE INPUT: true; the input reads as it did. -/
def dyadOrderSpec : ChangeSpec := { name := "dyadOrder", fn := fun _ => fun
  | [d1, d2, d3] => { results := [.lit (.bool true)], args := [d1, d2, d3] }
  | _ => none }
def dyadOrderRow : OpenClaim := { program := "ytpahmnifkinpiaagreatdoor", sum := "b8962aa08ee47769e10ad3374a5cf466cdf6720c55431bd6d1dcbd794e735af4", func := "ogee/ogeelaw04.DyadOrder", spec := "dyadOrder", inPlace := ["internal/bytealg.IndexByteString", "internal/bytealg.IndexString", "internal/abi.NoEscape", "internal/bytealg.MakeNoZero", "math/bits.Add64", "internal/bytealg.abigen_runtime_cmpstring", "math/bits.Sub64"], unfollowed := true, recurses := true, named := ["unicode/utf8.first", "unicode/utf8.acceptRanges", "internal/bytealg.MaxLen"], apart := false, laid := [("unicode/utf8.acceptRanges", laid_unicode_utf8_acceptRanges), ("unicode/utf8.first", laid_unicode_utf8_first)] }
def DyadOrderSaid : Prop := dyadOrderRow.holds Tryz.pinned (OpenSpec.ofChange dyadOrderSpec)

/-- ITS FALSE NEIGHBOUR: 'it returns false'. Refute it at one input. -/
def dyadOrderWrong : ChangeSpec := { name := "dyadOrder", fn := fun _ => fun
  | [d1, d2, d3] => { results := [.lit (.bool false)], args := [d1, d2, d3] }
  | _ => none }
def DyadOrderWrongFalsely : Prop := dyadOrderRow.holds Tryz.pinned (OpenSpec.ofChange dyadOrderWrong)

/-- 'ogeelaw04.DyadGrid': WHATEVER THE INPUT: true; the input reads as it did. -/
def dyadGridSpec : ChangeSpec := { name := "dyadGrid", fn := fun _ => fun
  | [d1, d2] => { results := [.lit (.bool true)], args := [d1, d2] }
  | _ => none }
def dyadGridRow : OpenClaim := { program := "ytpahmnifkinpiaagreatdoor", sum := "b8962aa08ee47769e10ad3374a5cf466cdf6720c55431bd6d1dcbd794e735af4", func := "ogee/ogeelaw04.DyadGrid", spec := "dyadGrid", inPlace := ["internal/bytealg.IndexByteString", "internal/bytealg.IndexString", "internal/abi.NoEscape", "internal/bytealg.MakeNoZero", "math/bits.Add64", "internal/bytealg.abigen_runtime_cmpstring", "math/bits.Sub64"], unfollowed := true, recurses := true, named := ["unicode/utf8.first", "unicode/utf8.acceptRanges", "internal/bytealg.MaxLen"], apart := false, laid := [("unicode/utf8.acceptRanges", laid_unicode_utf8_acceptRanges), ("unicode/utf8.first", laid_unicode_utf8_first)] }
def DyadGridSaid : Prop := dyadGridRow.holds Tryz.pinned (OpenSpec.ofChange dyadGridSpec)

/-- ITS FALSE NEIGHBOUR: 'it returns false'. Refute it at one input. -/
def dyadGridWrong : ChangeSpec := { name := "dyadGrid", fn := fun _ => fun
  | [d1, d2] => { results := [.lit (.bool false)], args := [d1, d2] }
  | _ => none }
def DyadGridWrongFalsely : Prop := dyadGridRow.holds Tryz.pinned (OpenSpec.ofChange dyadGridWrong)

/-- 'ogeelaw05.SpanForms': WHATEVER THE INPUT: true; the input reads as it did. -/
def spanFormsSpec : ChangeSpec := { name := "spanForms", fn := fun _ => fun
  | [d1, d2, d3] => { results := [.lit (.bool true)], args := [d1, d2, d3] }
  | _ => none }
def spanFormsRow : OpenClaim := { program := "ytpahmnifkinpiaagreatdoor", sum := "b8962aa08ee47769e10ad3374a5cf466cdf6720c55431bd6d1dcbd794e735af4", func := "ogee/ogeelaw05.SpanForms", spec := "spanForms", inPlace := ["internal/bytealg.IndexByteString", "internal/bytealg.IndexString", "internal/abi.NoEscape", "internal/bytealg.MakeNoZero", "math/bits.Add64", "internal/bytealg.abigen_runtime_cmpstring", "math/bits.Sub64"], unfollowed := true, recurses := true, named := ["unicode/utf8.first", "unicode/utf8.acceptRanges", "math/bits.divideError", "math/bits.overflowError", "internal/bytealg.MaxLen"], apart := false, laid := [("unicode/utf8.acceptRanges", laid_unicode_utf8_acceptRanges), ("unicode/utf8.first", laid_unicode_utf8_first)] }
def SpanFormsSaid : Prop := spanFormsRow.holds Tryz.pinned (OpenSpec.ofChange spanFormsSpec)

/-- ITS FALSE NEIGHBOUR: 'it returns false'. Refute it at one input. -/
def spanFormsWrong : ChangeSpec := { name := "spanForms", fn := fun _ => fun
  | [d1, d2, d3] => { results := [.lit (.bool false)], args := [d1, d2, d3] }
  | _ => none }
def SpanFormsWrongFalsely : Prop := spanFormsRow.holds Tryz.pinned (OpenSpec.ofChange spanFormsWrong)

/-- 'ogeelaw05.SpanMeets': WHATEVER THE INPUT: true; the input reads as it did. -/
def spanMeetsSpec : ChangeSpec := { name := "spanMeets", fn := fun _ => fun
  | [d1, d2, d3] => { results := [.lit (.bool true)], args := [d1, d2, d3] }
  | _ => none }
def spanMeetsRow : OpenClaim := { program := "ytpahmnifkinpiaagreatdoor", sum := "b8962aa08ee47769e10ad3374a5cf466cdf6720c55431bd6d1dcbd794e735af4", func := "ogee/ogeelaw05.SpanMeets", spec := "spanMeets", inPlace := ["internal/bytealg.IndexByteString", "internal/bytealg.IndexString", "internal/abi.NoEscape", "internal/bytealg.MakeNoZero", "math/bits.Add64", "internal/bytealg.abigen_runtime_cmpstring", "math/bits.Sub64"], unfollowed := true, recurses := true, named := ["unicode/utf8.first", "unicode/utf8.acceptRanges", "math/bits.divideError", "math/bits.overflowError", "internal/bytealg.MaxLen"], apart := false, laid := [("unicode/utf8.acceptRanges", laid_unicode_utf8_acceptRanges), ("unicode/utf8.first", laid_unicode_utf8_first)] }
def SpanMeetsSaid : Prop := spanMeetsRow.holds Tryz.pinned (OpenSpec.ofChange spanMeetsSpec)

/-- ITS FALSE NEIGHBOUR: 'it returns false'. Refute it at one input. -/
def spanMeetsWrong : ChangeSpec := { name := "spanMeets", fn := fun _ => fun
  | [d1, d2, d3] => { results := [.lit (.bool false)], args := [d1, d2, d3] }
  | _ => none }
def SpanMeetsWrongFalsely : Prop := spanMeetsRow.holds Tryz.pinned (OpenSpec.ofChange spanMeetsWrong)

/-- 'ogeelaw05.SpanRing': WHATEVER THE INPUT: true; the input reads as it did. -/
def spanRingSpec : ChangeSpec := { name := "spanRing", fn := fun _ => fun
  | [d1, d2, d3] => { results := [.lit (.bool true)], args := [d1, d2, d3] }
  | _ => none }
def spanRingRow : OpenClaim := { program := "ytpahmnifkinpiaagreatdoor", sum := "b8962aa08ee47769e10ad3374a5cf466cdf6720c55431bd6d1dcbd794e735af4", func := "ogee/ogeelaw05.SpanRing", spec := "spanRing", inPlace := ["internal/bytealg.IndexByteString", "internal/bytealg.IndexString", "internal/abi.NoEscape", "internal/bytealg.MakeNoZero", "math/bits.Add64", "internal/bytealg.abigen_runtime_cmpstring", "math/bits.Sub64"], unfollowed := true, recurses := true, named := ["unicode/utf8.first", "unicode/utf8.acceptRanges", "math/bits.divideError", "math/bits.overflowError", "internal/bytealg.MaxLen"], apart := false, laid := [("unicode/utf8.acceptRanges", laid_unicode_utf8_acceptRanges), ("unicode/utf8.first", laid_unicode_utf8_first)] }
def SpanRingSaid : Prop := spanRingRow.holds Tryz.pinned (OpenSpec.ofChange spanRingSpec)

/-- ITS FALSE NEIGHBOUR: 'it returns false'. Refute it at one input. -/
def spanRingWrong : ChangeSpec := { name := "spanRing", fn := fun _ => fun
  | [d1, d2, d3] => { results := [.lit (.bool false)], args := [d1, d2, d3] }
  | _ => none }
def SpanRingWrongFalsely : Prop := spanRingRow.holds Tryz.pinned (OpenSpec.ofChange spanRingWrong)

/-- 'ogeelaw05.SpanQuos': WHATEVER THE INPUT: true; the input reads as it did. -/
def spanQuosSpec : ChangeSpec := { name := "spanQuos", fn := fun _ => fun
  | [d1, d2, d3, d4, d5] => { results := [.lit (.bool true)], args := [d1, d2, d3, d4, d5] }
  | _ => none }
def spanQuosRow : OpenClaim := { program := "ytpahmnifkinpiaagreatdoor", sum := "b8962aa08ee47769e10ad3374a5cf466cdf6720c55431bd6d1dcbd794e735af4", func := "ogee/ogeelaw05.SpanQuos", spec := "spanQuos", inPlace := ["internal/bytealg.IndexByteString", "internal/bytealg.IndexString", "internal/abi.NoEscape", "internal/bytealg.MakeNoZero", "math/bits.Add64", "internal/bytealg.abigen_runtime_cmpstring", "math/bits.Sub64"], unfollowed := true, recurses := true, named := ["unicode/utf8.first", "unicode/utf8.acceptRanges", "math/bits.divideError", "math/bits.overflowError", "internal/bytealg.MaxLen"], apart := false, laid := [("unicode/utf8.acceptRanges", laid_unicode_utf8_acceptRanges), ("unicode/utf8.first", laid_unicode_utf8_first)] }
def SpanQuosSaid : Prop := spanQuosRow.holds Tryz.pinned (OpenSpec.ofChange spanQuosSpec)

/-- ITS FALSE NEIGHBOUR: 'it returns false'. Refute it at one input. -/
def spanQuosWrong : ChangeSpec := { name := "spanQuos", fn := fun _ => fun
  | [d1, d2, d3, d4, d5] => { results := [.lit (.bool false)], args := [d1, d2, d3, d4, d5] }
  | _ => none }
def SpanQuosWrongFalsely : Prop := spanQuosRow.holds Tryz.pinned (OpenSpec.ofChange spanQuosWrong)

/-- 'ogeelaw05.SpanInside': WHATEVER THE INPUT: true; the input reads as it did. -/
def spanInsideSpec : ChangeSpec := { name := "spanInside", fn := fun _ => fun
  | [d1, d2, d3, d4, d5] => { results := [.lit (.bool true)], args := [d1, d2, d3, d4, d5] }
  | _ => none }
def spanInsideRow : OpenClaim := { program := "ytpahmnifkinpiaagreatdoor", sum := "b8962aa08ee47769e10ad3374a5cf466cdf6720c55431bd6d1dcbd794e735af4", func := "ogee/ogeelaw05.SpanInside", spec := "spanInside", inPlace := ["internal/bytealg.IndexByteString", "internal/bytealg.IndexString", "internal/abi.NoEscape", "internal/bytealg.MakeNoZero", "math/bits.Add64", "internal/bytealg.abigen_runtime_cmpstring", "math/bits.Sub64"], unfollowed := true, recurses := true, named := ["unicode/utf8.first", "unicode/utf8.acceptRanges", "math/bits.divideError", "math/bits.overflowError", "internal/bytealg.MaxLen"], apart := false, laid := [("unicode/utf8.acceptRanges", laid_unicode_utf8_acceptRanges), ("unicode/utf8.first", laid_unicode_utf8_first)] }
def SpanInsideSaid : Prop := spanInsideRow.holds Tryz.pinned (OpenSpec.ofChange spanInsideSpec)

/-- ITS FALSE NEIGHBOUR: 'it returns false'. Refute it at one input. -/
def spanInsideWrong : ChangeSpec := { name := "spanInside", fn := fun _ => fun
  | [d1, d2, d3, d4, d5] => { results := [.lit (.bool false)], args := [d1, d2, d3, d4, d5] }
  | _ => none }
def SpanInsideWrongFalsely : Prop := spanInsideRow.holds Tryz.pinned (OpenSpec.ofChange spanInsideWrong)

/-- 'ogeelaw05.SpanWithin': WHATEVER THE INPUT: true; the input reads as it did. -/
def spanWithinSpec : ChangeSpec := { name := "spanWithin", fn := fun _ => fun
  | [d1, d2, d3, d4] => { results := [.lit (.bool true)], args := [d1, d2, d3, d4] }
  | _ => none }
def spanWithinRow : OpenClaim := { program := "ytpahmnifkinpiaagreatdoor", sum := "b8962aa08ee47769e10ad3374a5cf466cdf6720c55431bd6d1dcbd794e735af4", func := "ogee/ogeelaw05.SpanWithin", spec := "spanWithin", inPlace := ["internal/bytealg.IndexByteString", "internal/bytealg.IndexString", "internal/abi.NoEscape", "internal/bytealg.MakeNoZero", "math/bits.Add64", "internal/bytealg.abigen_runtime_cmpstring", "math/bits.Sub64"], unfollowed := true, recurses := true, named := ["unicode/utf8.first", "unicode/utf8.acceptRanges", "math/bits.divideError", "math/bits.overflowError", "internal/bytealg.MaxLen"], apart := false, laid := [("unicode/utf8.acceptRanges", laid_unicode_utf8_acceptRanges), ("unicode/utf8.first", laid_unicode_utf8_first)] }
def SpanWithinSaid : Prop := spanWithinRow.holds Tryz.pinned (OpenSpec.ofChange spanWithinSpec)

/-- ITS FALSE NEIGHBOUR: 'it returns false'. Refute it at one input. -/
def spanWithinWrong : ChangeSpec := { name := "spanWithin", fn := fun _ => fun
  | [d1, d2, d3, d4] => { results := [.lit (.bool false)], args := [d1, d2, d3, d4] }
  | _ => none }
def SpanWithinWrongFalsely : Prop := spanWithinRow.holds Tryz.pinned (OpenSpec.ofChange spanWithinWrong)

/-- 'ogeelaw05.SpanTight': WHATEVER THE INPUT: true; the input reads as it did. -/
def spanTightSpec : ChangeSpec := { name := "spanTight", fn := fun _ => fun
  | [d1, d2, d3, d4] => { results := [.lit (.bool true)], args := [d1, d2, d3, d4] }
  | _ => none }
def spanTightRow : OpenClaim := { program := "ytpahmnifkinpiaagreatdoor", sum := "b8962aa08ee47769e10ad3374a5cf466cdf6720c55431bd6d1dcbd794e735af4", func := "ogee/ogeelaw05.SpanTight", spec := "spanTight", inPlace := ["internal/bytealg.IndexByteString", "internal/bytealg.IndexString", "internal/abi.NoEscape", "internal/bytealg.MakeNoZero", "math/bits.Add64", "internal/bytealg.abigen_runtime_cmpstring", "math/bits.Sub64"], unfollowed := true, recurses := true, named := ["unicode/utf8.first", "unicode/utf8.acceptRanges", "math/bits.divideError", "math/bits.overflowError", "internal/bytealg.MaxLen"], apart := false, laid := [("unicode/utf8.acceptRanges", laid_unicode_utf8_acceptRanges), ("unicode/utf8.first", laid_unicode_utf8_first)] }
def SpanTightSaid : Prop := spanTightRow.holds Tryz.pinned (OpenSpec.ofChange spanTightSpec)

/-- ITS FALSE NEIGHBOUR: 'it returns false'. Refute it at one input. -/
def spanTightWrong : ChangeSpec := { name := "spanTight", fn := fun _ => fun
  | [d1, d2, d3, d4] => { results := [.lit (.bool false)], args := [d1, d2, d3, d4] }
  | _ => none }
def SpanTightWrongFalsely : Prop := spanTightRow.holds Tryz.pinned (OpenSpec.ofChange spanTightWrong)

/- THE SECOND FORM. 'bulk': how many values and letters a reading holds, each counted each time it is reached (what is shared counts as often as it is met; a slice's spare places count too). A statement '..UptoSaid' is the law's where the arguments, and the package variables that the reading takes, are together of bulk at most 1048576: NARROWER than '..Said'. Prove '..Said' where nothing that the law and all that it calls make is longer than what came in: it says more and counts as full. Else prove '..UptoSaid'. A law counts once. -/
mutual
def uptoBulk {H : Type} : DataW H → Nat
  | .lit (.string bytes) => bytes.length + 1
  | .lit _ => 1
  | .nil => 1
  | .ptr d => uptoBulk d + 1
  | .slice elems spare => uptoBulkAll elems + uptoBulkAll spare + 1
  | .agg parts => uptoBulkAll parts + 1
  | .iface _ d => uptoBulk d + 1
  | .map entries => uptoBulkEntries entries + 1
  | .held _ => 1
def uptoBulkAll {H : Type} : List (DataW H) → Nat
  | [] => 0
  | d :: r => uptoBulk d + uptoBulkAll r
def uptoBulkEntries {H : Type} : List (Lit × DataW H) → Nat
  | [] => 0
  | x :: r => uptoBulkEntry x + uptoBulkEntries r
def uptoBulkEntry {H : Type} : Lit × DataW H → Nat
  | (.string bytes, d) => bytes.length + uptoBulk d + 1
  | (_, d) => uptoBulk d + 1
 end
def uptoSmall : (H : Type) → List (DataW H) → Bool := fun _ ds => decide (uptoBulkAll ds ≤ 1048576)
def OpenSpec.upto (s : _root_.Go.ChangeSpec) : _root_.Go.OpenSpec := { _root_.Go.OpenSpec.ofChange s with cond := some uptoSmall }

/-- 'ogeelaw04.DyadForms', WHERE WHAT IT READS IS OF BULK AT MOST 1048576: true; the input reads as it did. -/
def dyadFormsUptoRow : OpenClaim := { program := "ytpahmnifkinpiaagreatdoor", sum := "b8962aa08ee47769e10ad3374a5cf466cdf6720c55431bd6d1dcbd794e735af4", func := "ogee/ogeelaw04.DyadForms", spec := "dyadForms", inPlace := ["internal/bytealg.IndexByteString", "internal/bytealg.IndexString", "internal/abi.NoEscape", "internal/bytealg.MakeNoZero", "math/bits.Add64", "internal/bytealg.abigen_runtime_cmpstring", "math/bits.Sub64"], unfollowed := true, recurses := true, named := ["unicode/utf8.first", "unicode/utf8.acceptRanges", "internal/bytealg.MaxLen"], apart := false, laid := [("unicode/utf8.acceptRanges", laid_unicode_utf8_acceptRanges), ("unicode/utf8.first", laid_unicode_utf8_first)], narrowed := true }
def DyadFormsUptoSaid : Prop := dyadFormsUptoRow.holds Tryz.pinned (OpenSpec.upto dyadFormsSpec)

/-- 'ogeelaw04.DyadAdds', WHERE WHAT IT READS IS OF BULK AT MOST 1048576: true; the input reads as it did. -/
def dyadAddsUptoRow : OpenClaim := { program := "ytpahmnifkinpiaagreatdoor", sum := "b8962aa08ee47769e10ad3374a5cf466cdf6720c55431bd6d1dcbd794e735af4", func := "ogee/ogeelaw04.DyadAdds", spec := "dyadAdds", inPlace := ["internal/bytealg.IndexByteString", "internal/bytealg.IndexString", "internal/abi.NoEscape", "internal/bytealg.MakeNoZero", "math/bits.Add64", "internal/bytealg.abigen_runtime_cmpstring", "math/bits.Sub64"], unfollowed := true, recurses := true, named := ["unicode/utf8.first", "unicode/utf8.acceptRanges", "internal/bytealg.MaxLen"], apart := false, laid := [("unicode/utf8.acceptRanges", laid_unicode_utf8_acceptRanges), ("unicode/utf8.first", laid_unicode_utf8_first)], narrowed := true }
def DyadAddsUptoSaid : Prop := dyadAddsUptoRow.holds Tryz.pinned (OpenSpec.upto dyadAddsSpec)

/-- 'ogeelaw04.DyadMuls', WHERE WHAT IT READS IS OF BULK AT MOST 1048576: true; the input reads as it did. -/
def dyadMulsUptoRow : OpenClaim := { program := "ytpahmnifkinpiaagreatdoor", sum := "b8962aa08ee47769e10ad3374a5cf466cdf6720c55431bd6d1dcbd794e735af4", func := "ogee/ogeelaw04.DyadMuls", spec := "dyadMuls", inPlace := ["internal/bytealg.IndexByteString", "internal/bytealg.IndexString", "internal/abi.NoEscape", "internal/bytealg.MakeNoZero", "math/bits.Add64", "internal/bytealg.abigen_runtime_cmpstring", "math/bits.Sub64"], unfollowed := true, recurses := true, named := ["unicode/utf8.first", "unicode/utf8.acceptRanges", "internal/bytealg.MaxLen"], apart := false, laid := [("unicode/utf8.acceptRanges", laid_unicode_utf8_acceptRanges), ("unicode/utf8.first", laid_unicode_utf8_first)], narrowed := true }
def DyadMulsUptoSaid : Prop := dyadMulsUptoRow.holds Tryz.pinned (OpenSpec.upto dyadMulsSpec)

/-- 'ogeelaw04.DyadGrids', WHERE WHAT IT READS IS OF BULK AT MOST 1048576: true; the input reads as it did. -/
def dyadGridsUptoRow : OpenClaim := { program := "ytpahmnifkinpiaagreatdoor", sum := "b8962aa08ee47769e10ad3374a5cf466cdf6720c55431bd6d1dcbd794e735af4", func := "ogee/ogeelaw04.DyadGrids", spec := "dyadGrids", inPlace := ["internal/bytealg.IndexByteString", "internal/bytealg.IndexString", "internal/abi.NoEscape", "internal/bytealg.MakeNoZero", "math/bits.Add64", "internal/bytealg.abigen_runtime_cmpstring", "math/bits.Sub64"], unfollowed := true, recurses := true, named := ["unicode/utf8.first", "unicode/utf8.acceptRanges", "internal/bytealg.MaxLen"], apart := false, laid := [("unicode/utf8.acceptRanges", laid_unicode_utf8_acceptRanges), ("unicode/utf8.first", laid_unicode_utf8_first)], narrowed := true }
def DyadGridsUptoSaid : Prop := dyadGridsUptoRow.holds Tryz.pinned (OpenSpec.upto dyadGridsSpec)

/-- 'ogeelaw04.DyadRing', WHERE WHAT IT READS IS OF BULK AT MOST 1048576: true; the input reads as it did. -/
def dyadRingUptoRow : OpenClaim := { program := "ytpahmnifkinpiaagreatdoor", sum := "b8962aa08ee47769e10ad3374a5cf466cdf6720c55431bd6d1dcbd794e735af4", func := "ogee/ogeelaw04.DyadRing", spec := "dyadRing", inPlace := ["internal/bytealg.IndexByteString", "internal/bytealg.IndexString", "internal/abi.NoEscape", "internal/bytealg.MakeNoZero", "math/bits.Add64", "internal/bytealg.abigen_runtime_cmpstring", "math/bits.Sub64"], unfollowed := true, recurses := true, named := ["unicode/utf8.first", "unicode/utf8.acceptRanges", "internal/bytealg.MaxLen"], apart := false, laid := [("unicode/utf8.acceptRanges", laid_unicode_utf8_acceptRanges), ("unicode/utf8.first", laid_unicode_utf8_first)], narrowed := true }
def DyadRingUptoSaid : Prop := dyadRingUptoRow.holds Tryz.pinned (OpenSpec.upto dyadRingSpec)

/-- 'ogeelaw04.DyadOrder', WHERE WHAT IT READS IS OF BULK AT MOST 1048576: true; the input reads as it did. -/
def dyadOrderUptoRow : OpenClaim := { program := "ytpahmnifkinpiaagreatdoor", sum := "b8962aa08ee47769e10ad3374a5cf466cdf6720c55431bd6d1dcbd794e735af4", func := "ogee/ogeelaw04.DyadOrder", spec := "dyadOrder", inPlace := ["internal/bytealg.IndexByteString", "internal/bytealg.IndexString", "internal/abi.NoEscape", "internal/bytealg.MakeNoZero", "math/bits.Add64", "internal/bytealg.abigen_runtime_cmpstring", "math/bits.Sub64"], unfollowed := true, recurses := true, named := ["unicode/utf8.first", "unicode/utf8.acceptRanges", "internal/bytealg.MaxLen"], apart := false, laid := [("unicode/utf8.acceptRanges", laid_unicode_utf8_acceptRanges), ("unicode/utf8.first", laid_unicode_utf8_first)], narrowed := true }
def DyadOrderUptoSaid : Prop := dyadOrderUptoRow.holds Tryz.pinned (OpenSpec.upto dyadOrderSpec)

/-- 'ogeelaw04.DyadGrid', WHERE WHAT IT READS IS OF BULK AT MOST 1048576: true; the input reads as it did. -/
def dyadGridUptoRow : OpenClaim := { program := "ytpahmnifkinpiaagreatdoor", sum := "b8962aa08ee47769e10ad3374a5cf466cdf6720c55431bd6d1dcbd794e735af4", func := "ogee/ogeelaw04.DyadGrid", spec := "dyadGrid", inPlace := ["internal/bytealg.IndexByteString", "internal/bytealg.IndexString", "internal/abi.NoEscape", "internal/bytealg.MakeNoZero", "math/bits.Add64", "internal/bytealg.abigen_runtime_cmpstring", "math/bits.Sub64"], unfollowed := true, recurses := true, named := ["unicode/utf8.first", "unicode/utf8.acceptRanges", "internal/bytealg.MaxLen"], apart := false, laid := [("unicode/utf8.acceptRanges", laid_unicode_utf8_acceptRanges), ("unicode/utf8.first", laid_unicode_utf8_first)], narrowed := true }
def DyadGridUptoSaid : Prop := dyadGridUptoRow.holds Tryz.pinned (OpenSpec.upto dyadGridSpec)

/-- 'ogeelaw05.SpanForms', WHERE WHAT IT READS IS OF BULK AT MOST 1048576: true; the input reads as it did. -/
def spanFormsUptoRow : OpenClaim := { program := "ytpahmnifkinpiaagreatdoor", sum := "b8962aa08ee47769e10ad3374a5cf466cdf6720c55431bd6d1dcbd794e735af4", func := "ogee/ogeelaw05.SpanForms", spec := "spanForms", inPlace := ["internal/bytealg.IndexByteString", "internal/bytealg.IndexString", "internal/abi.NoEscape", "internal/bytealg.MakeNoZero", "math/bits.Add64", "internal/bytealg.abigen_runtime_cmpstring", "math/bits.Sub64"], unfollowed := true, recurses := true, named := ["unicode/utf8.first", "unicode/utf8.acceptRanges", "math/bits.divideError", "math/bits.overflowError", "internal/bytealg.MaxLen"], apart := false, laid := [("unicode/utf8.acceptRanges", laid_unicode_utf8_acceptRanges), ("unicode/utf8.first", laid_unicode_utf8_first)], narrowed := true }
def SpanFormsUptoSaid : Prop := spanFormsUptoRow.holds Tryz.pinned (OpenSpec.upto spanFormsSpec)

/-- 'ogeelaw05.SpanMeets', WHERE WHAT IT READS IS OF BULK AT MOST 1048576: true; the input reads as it did. -/
def spanMeetsUptoRow : OpenClaim := { program := "ytpahmnifkinpiaagreatdoor", sum := "b8962aa08ee47769e10ad3374a5cf466cdf6720c55431bd6d1dcbd794e735af4", func := "ogee/ogeelaw05.SpanMeets", spec := "spanMeets", inPlace := ["internal/bytealg.IndexByteString", "internal/bytealg.IndexString", "internal/abi.NoEscape", "internal/bytealg.MakeNoZero", "math/bits.Add64", "internal/bytealg.abigen_runtime_cmpstring", "math/bits.Sub64"], unfollowed := true, recurses := true, named := ["unicode/utf8.first", "unicode/utf8.acceptRanges", "math/bits.divideError", "math/bits.overflowError", "internal/bytealg.MaxLen"], apart := false, laid := [("unicode/utf8.acceptRanges", laid_unicode_utf8_acceptRanges), ("unicode/utf8.first", laid_unicode_utf8_first)], narrowed := true }
def SpanMeetsUptoSaid : Prop := spanMeetsUptoRow.holds Tryz.pinned (OpenSpec.upto spanMeetsSpec)

/-- 'ogeelaw05.SpanRing', WHERE WHAT IT READS IS OF BULK AT MOST 1048576: true; the input reads as it did. -/
def spanRingUptoRow : OpenClaim := { program := "ytpahmnifkinpiaagreatdoor", sum := "b8962aa08ee47769e10ad3374a5cf466cdf6720c55431bd6d1dcbd794e735af4", func := "ogee/ogeelaw05.SpanRing", spec := "spanRing", inPlace := ["internal/bytealg.IndexByteString", "internal/bytealg.IndexString", "internal/abi.NoEscape", "internal/bytealg.MakeNoZero", "math/bits.Add64", "internal/bytealg.abigen_runtime_cmpstring", "math/bits.Sub64"], unfollowed := true, recurses := true, named := ["unicode/utf8.first", "unicode/utf8.acceptRanges", "math/bits.divideError", "math/bits.overflowError", "internal/bytealg.MaxLen"], apart := false, laid := [("unicode/utf8.acceptRanges", laid_unicode_utf8_acceptRanges), ("unicode/utf8.first", laid_unicode_utf8_first)], narrowed := true }
def SpanRingUptoSaid : Prop := spanRingUptoRow.holds Tryz.pinned (OpenSpec.upto spanRingSpec)

/-- 'ogeelaw05.SpanQuos', WHERE WHAT IT READS IS OF BULK AT MOST 1048576: true; the input reads as it did. -/
def spanQuosUptoRow : OpenClaim := { program := "ytpahmnifkinpiaagreatdoor", sum := "b8962aa08ee47769e10ad3374a5cf466cdf6720c55431bd6d1dcbd794e735af4", func := "ogee/ogeelaw05.SpanQuos", spec := "spanQuos", inPlace := ["internal/bytealg.IndexByteString", "internal/bytealg.IndexString", "internal/abi.NoEscape", "internal/bytealg.MakeNoZero", "math/bits.Add64", "internal/bytealg.abigen_runtime_cmpstring", "math/bits.Sub64"], unfollowed := true, recurses := true, named := ["unicode/utf8.first", "unicode/utf8.acceptRanges", "math/bits.divideError", "math/bits.overflowError", "internal/bytealg.MaxLen"], apart := false, laid := [("unicode/utf8.acceptRanges", laid_unicode_utf8_acceptRanges), ("unicode/utf8.first", laid_unicode_utf8_first)], narrowed := true }
def SpanQuosUptoSaid : Prop := spanQuosUptoRow.holds Tryz.pinned (OpenSpec.upto spanQuosSpec)

/-- 'ogeelaw05.SpanInside', WHERE WHAT IT READS IS OF BULK AT MOST 1048576: true; the input reads as it did. -/
def spanInsideUptoRow : OpenClaim := { program := "ytpahmnifkinpiaagreatdoor", sum := "b8962aa08ee47769e10ad3374a5cf466cdf6720c55431bd6d1dcbd794e735af4", func := "ogee/ogeelaw05.SpanInside", spec := "spanInside", inPlace := ["internal/bytealg.IndexByteString", "internal/bytealg.IndexString", "internal/abi.NoEscape", "internal/bytealg.MakeNoZero", "math/bits.Add64", "internal/bytealg.abigen_runtime_cmpstring", "math/bits.Sub64"], unfollowed := true, recurses := true, named := ["unicode/utf8.first", "unicode/utf8.acceptRanges", "math/bits.divideError", "math/bits.overflowError", "internal/bytealg.MaxLen"], apart := false, laid := [("unicode/utf8.acceptRanges", laid_unicode_utf8_acceptRanges), ("unicode/utf8.first", laid_unicode_utf8_first)], narrowed := true }
def SpanInsideUptoSaid : Prop := spanInsideUptoRow.holds Tryz.pinned (OpenSpec.upto spanInsideSpec)

/-- 'ogeelaw05.SpanWithin', WHERE WHAT IT READS IS OF BULK AT MOST 1048576: true; the input reads as it did. -/
def spanWithinUptoRow : OpenClaim := { program := "ytpahmnifkinpiaagreatdoor", sum := "b8962aa08ee47769e10ad3374a5cf466cdf6720c55431bd6d1dcbd794e735af4", func := "ogee/ogeelaw05.SpanWithin", spec := "spanWithin", inPlace := ["internal/bytealg.IndexByteString", "internal/bytealg.IndexString", "internal/abi.NoEscape", "internal/bytealg.MakeNoZero", "math/bits.Add64", "internal/bytealg.abigen_runtime_cmpstring", "math/bits.Sub64"], unfollowed := true, recurses := true, named := ["unicode/utf8.first", "unicode/utf8.acceptRanges", "math/bits.divideError", "math/bits.overflowError", "internal/bytealg.MaxLen"], apart := false, laid := [("unicode/utf8.acceptRanges", laid_unicode_utf8_acceptRanges), ("unicode/utf8.first", laid_unicode_utf8_first)], narrowed := true }
def SpanWithinUptoSaid : Prop := spanWithinUptoRow.holds Tryz.pinned (OpenSpec.upto spanWithinSpec)

/-- 'ogeelaw05.SpanTight', WHERE WHAT IT READS IS OF BULK AT MOST 1048576: true; the input reads as it did. -/
def spanTightUptoRow : OpenClaim := { program := "ytpahmnifkinpiaagreatdoor", sum := "b8962aa08ee47769e10ad3374a5cf466cdf6720c55431bd6d1dcbd794e735af4", func := "ogee/ogeelaw05.SpanTight", spec := "spanTight", inPlace := ["internal/bytealg.IndexByteString", "internal/bytealg.IndexString", "internal/abi.NoEscape", "internal/bytealg.MakeNoZero", "math/bits.Add64", "internal/bytealg.abigen_runtime_cmpstring", "math/bits.Sub64"], unfollowed := true, recurses := true, named := ["unicode/utf8.first", "unicode/utf8.acceptRanges", "math/bits.divideError", "math/bits.overflowError", "internal/bytealg.MaxLen"], apart := false, laid := [("unicode/utf8.acceptRanges", laid_unicode_utf8_acceptRanges), ("unicode/utf8.first", laid_unicode_utf8_first)], narrowed := true }
def SpanTightUptoSaid : Prop := spanTightUptoRow.holds Tryz.pinned (OpenSpec.upto spanTightSpec)

end Rows
end Go.Proofs.YtpahmnifkinpiaaGreatDoor
