/-
  NARROWER THAN 'FOR EVERY INPUT', by the rows' own cells (each row's printed sentence says how): FnSines: laid · FnExactLightMap: ifaces, laid · FnExactMeanLight: ifaces, laid · FnExactBrokenFrom: laid · FnExactYearLight: laid · FnExactBestMonth: laid · FnExactYearFacing: laid.
  DERIVED. THE GIVEN ROWS OF THIS SEAT. 7 by the template 'for every input the law returns true; each argument reads behind the call as it read before'; 0 by the template 'total and deterministic' (their statements: YtmniodfdoidffaaDoorTotals.lean).
  GIVEN WITH THE SEED: the statements are not yours to turn. If you find one false, say at which input.
  Laid BY PROGRAM, IN A SANDBOX (cutbox-rows.mjs): the forced cells as the released guide's own fill.sh prints them over the translation e8828a02a3222400… (all of the seat's roots in one cut). By AI agents, Wed Nov 11 2026. No macro, syntax, notation, axiom, sorry.
-/
import Derived.Test.YtmniodfdoidffaaDoorChecked
import GoSem.Claim
import GoSem.ClaimJoined
import GoSem.ClaimMapViews
import Derived.JoinedTies
import Derived.KernelRfl
namespace Go.Proofs.YtmniodfdoidffaaDoor
/- THE CELL 'sum', in the pinned program and in every row, IS THE sha256 OF THE DUMP (.gsa) THAT YtmniodfdoidffaaDoorProg.lean LOADS. Nothing in Lean hashes anything: it is a label: what it is worth is what the hold of that sum in a sandbox is worth. -/
noncomputable def Tryd.pinned : Pinned := { name := "ytmniodfdoidffaadoor", sum := "e8828a02a322240035b211fc8bb2b27c0b3b861e293be40ca4b3e8b714aa9d4e", checked := Tryd.checked }
namespace Rows
def none {H : Type} : Left H := { results := [], args := [] }

/- WHAT THE LISTED PACKAGE-LEVEL VARIABLES READ AS WHEN THE CALL BEGINS. Each datum BY PROGRAM (the guide's laid-datum.mjs) off the statement by which the dump's own 'gosem.cut.vars' lays the variable. In a bare row this is a premise. The card (YtmniodfdoidffaaDoorCards.lean) ties it to the program's text. -/
def laid_math_bits_deBruijn32tab {H : Type} : DataW H := .agg [.lit (.int .u8 0), .lit (.int .u8 1), .lit (.int .u8 28), .lit (.int .u8 2), .lit (.int .u8 29), .lit (.int .u8 14), .lit (.int .u8 24), .lit (.int .u8 3), .lit (.int .u8 30), .lit (.int .u8 22), .lit (.int .u8 20), .lit (.int .u8 15), .lit (.int .u8 25), .lit (.int .u8 17), .lit (.int .u8 4), .lit (.int .u8 8), .lit (.int .u8 31), .lit (.int .u8 27), .lit (.int .u8 13), .lit (.int .u8 23), .lit (.int .u8 21), .lit (.int .u8 19), .lit (.int .u8 16), .lit (.int .u8 7), .lit (.int .u8 26), .lit (.int .u8 12), .lit (.int .u8 18), .lit (.int .u8 6), .lit (.int .u8 11), .lit (.int .u8 5), .lit (.int .u8 10), .lit (.int .u8 9)]
def laid_math_bits_deBruijn64tab {H : Type} : DataW H := .agg [.lit (.int .u8 0), .lit (.int .u8 1), .lit (.int .u8 56), .lit (.int .u8 2), .lit (.int .u8 57), .lit (.int .u8 49), .lit (.int .u8 28), .lit (.int .u8 3), .lit (.int .u8 61), .lit (.int .u8 58), .lit (.int .u8 42), .lit (.int .u8 50), .lit (.int .u8 38), .lit (.int .u8 29), .lit (.int .u8 17), .lit (.int .u8 4), .lit (.int .u8 62), .lit (.int .u8 47), .lit (.int .u8 59), .lit (.int .u8 36), .lit (.int .u8 45), .lit (.int .u8 43), .lit (.int .u8 51), .lit (.int .u8 22), .lit (.int .u8 53), .lit (.int .u8 39), .lit (.int .u8 33), .lit (.int .u8 30), .lit (.int .u8 24), .lit (.int .u8 18), .lit (.int .u8 12), .lit (.int .u8 5), .lit (.int .u8 63), .lit (.int .u8 55), .lit (.int .u8 48), .lit (.int .u8 27), .lit (.int .u8 60), .lit (.int .u8 41), .lit (.int .u8 37), .lit (.int .u8 16), .lit (.int .u8 46), .lit (.int .u8 35), .lit (.int .u8 44), .lit (.int .u8 21), .lit (.int .u8 52), .lit (.int .u8 32), .lit (.int .u8 23), .lit (.int .u8 11), .lit (.int .u8 54), .lit (.int .u8 26), .lit (.int .u8 40), .lit (.int .u8 15), .lit (.int .u8 34), .lit (.int .u8 20), .lit (.int .u8 31), .lit (.int .u8 10), .lit (.int .u8 25), .lit (.int .u8 14), .lit (.int .u8 19), .lit (.int .u8 9), .lit (.int .u8 13), .lit (.int .u8 8), .lit (.int .u8 7), .lit (.int .u8 6)]
def laid_internal_strconv_uint64pow10 {H : Type} : DataW H := .agg [.lit (.int .u64 1), .lit (.int .u64 10), .lit (.int .u64 100), .lit (.int .u64 1000), .lit (.int .u64 10000), .lit (.int .u64 100000), .lit (.int .u64 1000000), .lit (.int .u64 10000000), .lit (.int .u64 100000000), .lit (.int .u64 1000000000), .lit (.int .u64 10000000000), .lit (.int .u64 100000000000), .lit (.int .u64 1000000000000), .lit (.int .u64 10000000000000), .lit (.int .u64 100000000000000), .lit (.int .u64 1000000000000000), .lit (.int .u64 10000000000000000), .lit (.int .u64 100000000000000000), .lit (.int .u64 1000000000000000000), .lit (.int .u64 10000000000000000000)]
def laid_strconv_ErrRange {H : Type} : DataW H := .iface "*errors.errorString" (.ptr (.agg [.lit (.string [118, 97, 108, 117, 101, 32, 111, 117, 116, 32, 111, 102, 32, 114, 97, 110, 103, 101])]))
def laid_strconv_ErrSyntax {H : Type} : DataW H := .iface "*errors.errorString" (.ptr (.agg [.lit (.string [105, 110, 118, 97, 108, 105, 100, 32, 115, 121, 110, 116, 97, 120])]))
def laid_loop_example_g01367_impl_errInvalid {H : Type} : DataW H := .iface "*errors.errorString" (.ptr (.agg [.lit (.string [97, 110, 32, 97, 114, 103, 117, 109, 101, 110, 116, 32, 105, 115, 32, 110, 111, 116, 32, 118, 97, 108, 105, 100])]))
def laid_loop_example_g01367_impl_errRange {H : Type} : DataW H := .iface "*errors.errorString" (.ptr (.agg [.lit (.string [97, 110, 32, 97, 114, 103, 117, 109, 101, 110, 116, 32, 105, 115, 32, 111, 117, 116, 32, 111, 102, 32, 105, 116, 115, 32, 114, 97, 110, 103, 101])]))
def laid_loop_example_g01367_impl_errLimit {H : Type} : DataW H := .iface "*errors.errorString" (.ptr (.agg [.lit (.string [116, 104, 101, 114, 101, 32, 97, 114, 101, 32, 116, 111, 111, 32, 109, 97, 110, 121])]))
def laid_loop_example_g01367_impl_errNotFound {H : Type} : DataW H := .iface "*errors.errorString" (.ptr (.agg [.lit (.string [116, 104, 101, 114, 101, 32, 105, 115, 32, 110, 111, 110, 101])]))
def laid_errors_errorType {H : Type} : DataW H := .iface "internal/reflectlite.rtype" (.agg [.ptr (.lit (.string [101, 114, 114, 111, 114]))])

/-- 'laws.FnSines': WHATEVER THE INPUT: true; the input reads as it did. -/
def fnSinesSpec : ChangeSpec := { name := "fnSines", fn := fun _ => fun
  | [d1, d2] => { results := [.lit (.bool true)], args := [d1, d2] }
  | _ => none }
def fnSinesRow : OpenClaim := { program := "ytmniodfdoidffaadoor", sum := "e8828a02a322240035b211fc8bb2b27c0b3b861e293be40ca4b3e8b714aa9d4e", func := "loop.example/g01367/laws.FnSines", spec := "fnSines", inPlace := ["math.Float32bits", "math.Float64frombits", "math.Float32frombits", "internal/abi.NoEscape", "internal/bytealg.MakeNoZero"], unfollowed := true, recurses := true, named := ["internal/strconv.uint64pow10", "math/bits.deBruijn32tab", "math/bits.deBruijn64tab", "strconv.ErrSyntax", "strconv.ErrRange"], apart := false, laid := [("math/bits.deBruijn32tab", laid_math_bits_deBruijn32tab), ("math/bits.deBruijn64tab", laid_math_bits_deBruijn64tab), ("internal/strconv.uint64pow10", laid_internal_strconv_uint64pow10), ("strconv.ErrRange", laid_strconv_ErrRange), ("strconv.ErrSyntax", laid_strconv_ErrSyntax)] }
def FnSinesSaid : Prop := fnSinesRow.holds Tryd.pinned (OpenSpec.ofChange fnSinesSpec)

/-- ITS FALSE NEIGHBOUR: 'it returns false'. Refute it at one input. -/
def fnSinesWrong : ChangeSpec := { name := "fnSines", fn := fun _ => fun
  | [d1, d2] => { results := [.lit (.bool false)], args := [d1, d2] }
  | _ => none }
def FnSinesWrongFalsely : Prop := fnSinesRow.holds Tryd.pinned (OpenSpec.ofChange fnSinesWrong)

/-- 'laws.FnExactLightMap': WHATEVER THE INPUT: true; the input reads as it did. -/
def fnExactLightMapSpec : ChangeSpec := { name := "fnExactLightMap", vars := ["loop.example/g01367/impl.errInvalid", "loop.example/g01367/impl.errRange", "loop.example/g01367/impl.errLimit", "loop.example/g01367/impl.errNotFound"], fn := fun _ => fun
  | [d, g1, g2, g3, g4] => { results := [.lit (.bool true)], args := [d], vars := [g1, g2, g3, g4] }
  | _ => none }
def fnExactLightMapRow : OpenClaim := { program := "ytmniodfdoidffaadoor", sum := "e8828a02a322240035b211fc8bb2b27c0b3b861e293be40ca4b3e8b714aa9d4e", func := "loop.example/g01367/laws.FnExactLightMap", spec := "fnExactLightMap", inPlace := ["internal/reflectlite.TypeOf"], unfollowed := true, recurses := true, named := ["loop.example/g01367/impl.errInvalid", "loop.example/g01367/impl.errRange", "loop.example/g01367/impl.errLimit", "loop.example/g01367/impl.errNotFound"], ifaces := true, apart := false, laid := [("loop.example/g01367/impl.errInvalid", laid_loop_example_g01367_impl_errInvalid), ("loop.example/g01367/impl.errRange", laid_loop_example_g01367_impl_errRange), ("loop.example/g01367/impl.errLimit", laid_loop_example_g01367_impl_errLimit), ("loop.example/g01367/impl.errNotFound", laid_loop_example_g01367_impl_errNotFound)] }
def FnExactLightMapSaid : Prop := fnExactLightMapRow.holds Tryd.pinned (OpenSpec.ofChange fnExactLightMapSpec)

/-- ITS FALSE NEIGHBOUR: 'it returns false'. Refute it at one input. -/
def fnExactLightMapWrong : ChangeSpec := { name := "fnExactLightMap", vars := ["loop.example/g01367/impl.errInvalid", "loop.example/g01367/impl.errRange", "loop.example/g01367/impl.errLimit", "loop.example/g01367/impl.errNotFound"], fn := fun _ => fun
  | [d, g1, g2, g3, g4] => { results := [.lit (.bool false)], args := [d], vars := [g1, g2, g3, g4] }
  | _ => none }
def FnExactLightMapWrongFalsely : Prop := fnExactLightMapRow.holds Tryd.pinned (OpenSpec.ofChange fnExactLightMapWrong)

/-- 'laws.FnExactMeanLight': WHATEVER THE INPUT: true; the input reads as it did. -/
def fnExactMeanLightSpec : ChangeSpec := { name := "fnExactMeanLight", vars := ["loop.example/g01367/impl.errInvalid", "loop.example/g01367/impl.errRange", "loop.example/g01367/impl.errLimit", "loop.example/g01367/impl.errNotFound"], fn := fun _ => fun
  | [d, g1, g2, g3, g4] => { results := [.lit (.bool true)], args := [d], vars := [g1, g2, g3, g4] }
  | _ => none }
def fnExactMeanLightRow : OpenClaim := { program := "ytmniodfdoidffaadoor", sum := "e8828a02a322240035b211fc8bb2b27c0b3b861e293be40ca4b3e8b714aa9d4e", func := "loop.example/g01367/laws.FnExactMeanLight", spec := "fnExactMeanLight", inPlace := ["internal/reflectlite.TypeOf"], unfollowed := true, recurses := true, named := ["loop.example/g01367/impl.errInvalid", "loop.example/g01367/impl.errRange", "loop.example/g01367/impl.errLimit", "loop.example/g01367/impl.errNotFound"], ifaces := true, apart := false, laid := [("loop.example/g01367/impl.errInvalid", laid_loop_example_g01367_impl_errInvalid), ("loop.example/g01367/impl.errRange", laid_loop_example_g01367_impl_errRange), ("loop.example/g01367/impl.errLimit", laid_loop_example_g01367_impl_errLimit), ("loop.example/g01367/impl.errNotFound", laid_loop_example_g01367_impl_errNotFound)] }
def FnExactMeanLightSaid : Prop := fnExactMeanLightRow.holds Tryd.pinned (OpenSpec.ofChange fnExactMeanLightSpec)

/-- ITS FALSE NEIGHBOUR: 'it returns false'. Refute it at one input. -/
def fnExactMeanLightWrong : ChangeSpec := { name := "fnExactMeanLight", vars := ["loop.example/g01367/impl.errInvalid", "loop.example/g01367/impl.errRange", "loop.example/g01367/impl.errLimit", "loop.example/g01367/impl.errNotFound"], fn := fun _ => fun
  | [d, g1, g2, g3, g4] => { results := [.lit (.bool false)], args := [d], vars := [g1, g2, g3, g4] }
  | _ => none }
def FnExactMeanLightWrongFalsely : Prop := fnExactMeanLightRow.holds Tryd.pinned (OpenSpec.ofChange fnExactMeanLightWrong)

/-- 'laws.FnExactBrokenFrom': WHATEVER THE INPUT: true; the input reads as it did. -/
def fnExactBrokenFromSpec : ChangeSpec := { name := "fnExactBrokenFrom", fn := fun _ => fun
  | [d1, d2, d3] => { results := [.lit (.bool true)], args := [d1, d2, d3] }
  | _ => none }
def fnExactBrokenFromRow : OpenClaim := { program := "ytmniodfdoidffaadoor", sum := "e8828a02a322240035b211fc8bb2b27c0b3b861e293be40ca4b3e8b714aa9d4e", func := "loop.example/g01367/laws.FnExactBrokenFrom", spec := "fnExactBrokenFrom", inPlace := ["math.Float32bits", "internal/reflectlite.ValueOf", "(internal/reflectlite.Value).Type", "(internal/reflectlite.Value).IsNil", "internal/reflectlite.TypeOf", "(internal/reflectlite.Value).Elem", "(internal/reflectlite.Value).Set"], unfollowed := true, recurses := true, named := ["errors.errorType"], apart := false, laid := [("errors.errorType", laid_errors_errorType)] }
def FnExactBrokenFromSaid : Prop := fnExactBrokenFromRow.holds Tryd.pinned (OpenSpec.ofChange fnExactBrokenFromSpec)

/-- ITS FALSE NEIGHBOUR: 'it returns false'. Refute it at one input. -/
def fnExactBrokenFromWrong : ChangeSpec := { name := "fnExactBrokenFrom", fn := fun _ => fun
  | [d1, d2, d3] => { results := [.lit (.bool false)], args := [d1, d2, d3] }
  | _ => none }
def FnExactBrokenFromWrongFalsely : Prop := fnExactBrokenFromRow.holds Tryd.pinned (OpenSpec.ofChange fnExactBrokenFromWrong)

/-- 'laws.FnExactYearLight': WHATEVER THE INPUT: true; the input reads as it did. -/
def fnExactYearLightSpec : ChangeSpec := { name := "fnExactYearLight", fn := fun _ => fun
  | [d1, d2, d3] => { results := [.lit (.bool true)], args := [d1, d2, d3] }
  | _ => none }
def fnExactYearLightRow : OpenClaim := { program := "ytmniodfdoidffaadoor", sum := "e8828a02a322240035b211fc8bb2b27c0b3b861e293be40ca4b3e8b714aa9d4e", func := "loop.example/g01367/laws.FnExactYearLight", spec := "fnExactYearLight", inPlace := ["internal/reflectlite.ValueOf", "(internal/reflectlite.Value).Type", "(internal/reflectlite.Value).IsNil", "internal/reflectlite.TypeOf", "(internal/reflectlite.Value).Elem", "(internal/reflectlite.Value).Set"], unfollowed := true, recurses := true, named := ["errors.errorType"], apart := false, laid := [("errors.errorType", laid_errors_errorType)] }
def FnExactYearLightSaid : Prop := fnExactYearLightRow.holds Tryd.pinned (OpenSpec.ofChange fnExactYearLightSpec)

/-- ITS FALSE NEIGHBOUR: 'it returns false'. Refute it at one input. -/
def fnExactYearLightWrong : ChangeSpec := { name := "fnExactYearLight", fn := fun _ => fun
  | [d1, d2, d3] => { results := [.lit (.bool false)], args := [d1, d2, d3] }
  | _ => none }
def FnExactYearLightWrongFalsely : Prop := fnExactYearLightRow.holds Tryd.pinned (OpenSpec.ofChange fnExactYearLightWrong)

/-- 'laws.FnExactBestMonth': WHATEVER THE INPUT: true; the input reads as it did. -/
def fnExactBestMonthSpec : ChangeSpec := { name := "fnExactBestMonth", fn := fun _ => fun
  | [d1, d2, d3] => { results := [.lit (.bool true)], args := [d1, d2, d3] }
  | _ => none }
def fnExactBestMonthRow : OpenClaim := { program := "ytmniodfdoidffaadoor", sum := "e8828a02a322240035b211fc8bb2b27c0b3b861e293be40ca4b3e8b714aa9d4e", func := "loop.example/g01367/laws.FnExactBestMonth", spec := "fnExactBestMonth", inPlace := ["internal/reflectlite.ValueOf", "(internal/reflectlite.Value).Type", "(internal/reflectlite.Value).IsNil", "internal/reflectlite.TypeOf", "(internal/reflectlite.Value).Elem", "(internal/reflectlite.Value).Set"], unfollowed := true, recurses := true, named := ["errors.errorType"], apart := false, laid := [("errors.errorType", laid_errors_errorType)] }
def FnExactBestMonthSaid : Prop := fnExactBestMonthRow.holds Tryd.pinned (OpenSpec.ofChange fnExactBestMonthSpec)

/-- ITS FALSE NEIGHBOUR: 'it returns false'. Refute it at one input. -/
def fnExactBestMonthWrong : ChangeSpec := { name := "fnExactBestMonth", fn := fun _ => fun
  | [d1, d2, d3] => { results := [.lit (.bool false)], args := [d1, d2, d3] }
  | _ => none }
def FnExactBestMonthWrongFalsely : Prop := fnExactBestMonthRow.holds Tryd.pinned (OpenSpec.ofChange fnExactBestMonthWrong)

/-- 'laws.FnExactYearFacing': WHATEVER THE INPUT: true; the input reads as it did. -/
def fnExactYearFacingSpec : ChangeSpec := { name := "fnExactYearFacing", fn := fun _ => fun
  | [d1, d2, d3] => { results := [.lit (.bool true)], args := [d1, d2, d3] }
  | _ => none }
def fnExactYearFacingRow : OpenClaim := { program := "ytmniodfdoidffaadoor", sum := "e8828a02a322240035b211fc8bb2b27c0b3b861e293be40ca4b3e8b714aa9d4e", func := "loop.example/g01367/laws.FnExactYearFacing", spec := "fnExactYearFacing", inPlace := ["internal/reflectlite.ValueOf", "(internal/reflectlite.Value).Type", "(internal/reflectlite.Value).IsNil", "internal/reflectlite.TypeOf", "(internal/reflectlite.Value).Elem", "(internal/reflectlite.Value).Set"], unfollowed := true, recurses := true, named := ["errors.errorType"], apart := false, laid := [("errors.errorType", laid_errors_errorType)] }
def FnExactYearFacingSaid : Prop := fnExactYearFacingRow.holds Tryd.pinned (OpenSpec.ofChange fnExactYearFacingSpec)

/-- ITS FALSE NEIGHBOUR: 'it returns false'. Refute it at one input. -/
def fnExactYearFacingWrong : ChangeSpec := { name := "fnExactYearFacing", fn := fun _ => fun
  | [d1, d2, d3] => { results := [.lit (.bool false)], args := [d1, d2, d3] }
  | _ => none }
def FnExactYearFacingWrongFalsely : Prop := fnExactYearFacingRow.holds Tryd.pinned (OpenSpec.ofChange fnExactYearFacingWrong)

/- THE SECOND FORM. 'bulk': how many values and letters a reading holds, each counted each time it is reached (what is shared counts as often as it is met; a slice's spare places count too). A statement '..UptoSaid' is the law's where the arguments, and the package variables that the reading takes, are together of bulk at most 1048576: NARROWER than '..Said'. Prove '..Said' where nothing that the law and all that it calls make is longer than what came in: it says more and counts as full. Else prove '..UptoSaid'. A law counts once. -/
mutual
def uptoBulk {H : Type} : DataW H → Nat
  | .lit (.string bytes) => bytes.length + 1
  | .lit _ => 1
  | .nil => 1
  | .ptr d => uptoBulk d + 1
  | .slice elems spare => uptoBulkAll elems + uptoBulkAll spare + 1
  | .agg parts => uptoBulkAll parts + 1
  | .iface _ d => uptoBulk d + 1
  | .map entries => uptoBulkEntries entries + 1
  | .held _ => 1
def uptoBulkAll {H : Type} : List (DataW H) → Nat
  | [] => 0
  | d :: r => uptoBulk d + uptoBulkAll r
def uptoBulkEntries {H : Type} : List (Lit × DataW H) → Nat
  | [] => 0
  | x :: r => uptoBulkEntry x + uptoBulkEntries r
def uptoBulkEntry {H : Type} : Lit × DataW H → Nat
  | (.string bytes, d) => bytes.length + uptoBulk d + 1
  | (_, d) => uptoBulk d + 1
 end
def uptoSmall : (H : Type) → List (DataW H) → Bool := fun _ ds => decide (uptoBulkAll ds ≤ 1048576)
def OpenSpec.upto (s : _root_.Go.ChangeSpec) : _root_.Go.OpenSpec := { _root_.Go.OpenSpec.ofChange s with cond := some uptoSmall }

/-- 'laws.FnSines', WHERE WHAT IT READS IS OF BULK AT MOST 1048576: true; the input reads as it did. -/
def fnSinesUptoRow : OpenClaim := { program := "ytmniodfdoidffaadoor", sum := "e8828a02a322240035b211fc8bb2b27c0b3b861e293be40ca4b3e8b714aa9d4e", func := "loop.example/g01367/laws.FnSines", spec := "fnSines", inPlace := ["math.Float32bits", "math.Float64frombits", "math.Float32frombits", "internal/abi.NoEscape", "internal/bytealg.MakeNoZero"], unfollowed := true, recurses := true, named := ["internal/strconv.uint64pow10", "math/bits.deBruijn32tab", "math/bits.deBruijn64tab", "strconv.ErrSyntax", "strconv.ErrRange"], apart := false, laid := [("math/bits.deBruijn32tab", laid_math_bits_deBruijn32tab), ("math/bits.deBruijn64tab", laid_math_bits_deBruijn64tab), ("internal/strconv.uint64pow10", laid_internal_strconv_uint64pow10), ("strconv.ErrRange", laid_strconv_ErrRange), ("strconv.ErrSyntax", laid_strconv_ErrSyntax)], narrowed := true }
def FnSinesUptoSaid : Prop := fnSinesUptoRow.holds Tryd.pinned (OpenSpec.upto fnSinesSpec)

/-- 'laws.FnExactLightMap', WHERE WHAT IT READS IS OF BULK AT MOST 1048576: true; the input reads as it did. -/
def fnExactLightMapUptoRow : OpenClaim := { program := "ytmniodfdoidffaadoor", sum := "e8828a02a322240035b211fc8bb2b27c0b3b861e293be40ca4b3e8b714aa9d4e", func := "loop.example/g01367/laws.FnExactLightMap", spec := "fnExactLightMap", inPlace := ["internal/reflectlite.TypeOf"], unfollowed := true, recurses := true, named := ["loop.example/g01367/impl.errInvalid", "loop.example/g01367/impl.errRange", "loop.example/g01367/impl.errLimit", "loop.example/g01367/impl.errNotFound"], ifaces := true, apart := false, laid := [("loop.example/g01367/impl.errInvalid", laid_loop_example_g01367_impl_errInvalid), ("loop.example/g01367/impl.errRange", laid_loop_example_g01367_impl_errRange), ("loop.example/g01367/impl.errLimit", laid_loop_example_g01367_impl_errLimit), ("loop.example/g01367/impl.errNotFound", laid_loop_example_g01367_impl_errNotFound)], narrowed := true }
def FnExactLightMapUptoSaid : Prop := fnExactLightMapUptoRow.holds Tryd.pinned (OpenSpec.upto fnExactLightMapSpec)

/-- 'laws.FnExactMeanLight', WHERE WHAT IT READS IS OF BULK AT MOST 1048576: true; the input reads as it did. -/
def fnExactMeanLightUptoRow : OpenClaim := { program := "ytmniodfdoidffaadoor", sum := "e8828a02a322240035b211fc8bb2b27c0b3b861e293be40ca4b3e8b714aa9d4e", func := "loop.example/g01367/laws.FnExactMeanLight", spec := "fnExactMeanLight", inPlace := ["internal/reflectlite.TypeOf"], unfollowed := true, recurses := true, named := ["loop.example/g01367/impl.errInvalid", "loop.example/g01367/impl.errRange", "loop.example/g01367/impl.errLimit", "loop.example/g01367/impl.errNotFound"], ifaces := true, apart := false, laid := [("loop.example/g01367/impl.errInvalid", laid_loop_example_g01367_impl_errInvalid), ("loop.example/g01367/impl.errRange", laid_loop_example_g01367_impl_errRange), ("loop.example/g01367/impl.errLimit", laid_loop_example_g01367_impl_errLimit), ("loop.example/g01367/impl.errNotFound", laid_loop_example_g01367_impl_errNotFound)], narrowed := true }
def FnExactMeanLightUptoSaid : Prop := fnExactMeanLightUptoRow.holds Tryd.pinned (OpenSpec.upto fnExactMeanLightSpec)

/-- 'laws.FnExactBrokenFrom', WHERE WHAT IT READS IS OF BULK AT MOST 1048576: true; the input reads as it did. -/
def fnExactBrokenFromUptoRow : OpenClaim := { program := "ytmniodfdoidffaadoor", sum := "e8828a02a322240035b211fc8bb2b27c0b3b861e293be40ca4b3e8b714aa9d4e", func := "loop.example/g01367/laws.FnExactBrokenFrom", spec := "fnExactBrokenFrom", inPlace := ["math.Float32bits", "internal/reflectlite.ValueOf", "(internal/reflectlite.Value).Type", "(internal/reflectlite.Value).IsNil", "internal/reflectlite.TypeOf", "(internal/reflectlite.Value).Elem", "(internal/reflectlite.Value).Set"], unfollowed := true, recurses := true, named := ["errors.errorType"], apart := false, laid := [("errors.errorType", laid_errors_errorType)], narrowed := true }
def FnExactBrokenFromUptoSaid : Prop := fnExactBrokenFromUptoRow.holds Tryd.pinned (OpenSpec.upto fnExactBrokenFromSpec)

/-- 'laws.FnExactYearLight', WHERE WHAT IT READS IS OF BULK AT MOST 1048576: true; the input reads as it did. -/
def fnExactYearLightUptoRow : OpenClaim := { program := "ytmniodfdoidffaadoor", sum := "e8828a02a322240035b211fc8bb2b27c0b3b861e293be40ca4b3e8b714aa9d4e", func := "loop.example/g01367/laws.FnExactYearLight", spec := "fnExactYearLight", inPlace := ["internal/reflectlite.ValueOf", "(internal/reflectlite.Value).Type", "(internal/reflectlite.Value).IsNil", "internal/reflectlite.TypeOf", "(internal/reflectlite.Value).Elem", "(internal/reflectlite.Value).Set"], unfollowed := true, recurses := true, named := ["errors.errorType"], apart := false, laid := [("errors.errorType", laid_errors_errorType)], narrowed := true }
def FnExactYearLightUptoSaid : Prop := fnExactYearLightUptoRow.holds Tryd.pinned (OpenSpec.upto fnExactYearLightSpec)

/-- 'laws.FnExactBestMonth', WHERE WHAT IT READS IS OF BULK AT MOST 1048576: true; the input reads as it did. -/
def fnExactBestMonthUptoRow : OpenClaim := { program := "ytmniodfdoidffaadoor", sum := "e8828a02a322240035b211fc8bb2b27c0b3b861e293be40ca4b3e8b714aa9d4e", func := "loop.example/g01367/laws.FnExactBestMonth", spec := "fnExactBestMonth", inPlace := ["internal/reflectlite.ValueOf", "(internal/reflectlite.Value).Type", "(internal/reflectlite.Value).IsNil", "internal/reflectlite.TypeOf", "(internal/reflectlite.Value).Elem", "(internal/reflectlite.Value).Set"], unfollowed := true, recurses := true, named := ["errors.errorType"], apart := false, laid := [("errors.errorType", laid_errors_errorType)], narrowed := true }
def FnExactBestMonthUptoSaid : Prop := fnExactBestMonthUptoRow.holds Tryd.pinned (OpenSpec.upto fnExactBestMonthSpec)

/-- 'laws.FnExactYearFacing', WHERE WHAT IT READS IS OF BULK AT MOST 1048576: true; the input reads as it did. -/
def fnExactYearFacingUptoRow : OpenClaim := { program := "ytmniodfdoidffaadoor", sum := "e8828a02a322240035b211fc8bb2b27c0b3b861e293be40ca4b3e8b714aa9d4e", func := "loop.example/g01367/laws.FnExactYearFacing", spec := "fnExactYearFacing", inPlace := ["internal/reflectlite.ValueOf", "(internal/reflectlite.Value).Type", "(internal/reflectlite.Value).IsNil", "internal/reflectlite.TypeOf", "(internal/reflectlite.Value).Elem", "(internal/reflectlite.Value).Set"], unfollowed := true, recurses := true, named := ["errors.errorType"], apart := false, laid := [("errors.errorType", laid_errors_errorType)], narrowed := true }
def FnExactYearFacingUptoSaid : Prop := fnExactYearFacingUptoRow.holds Tryd.pinned (OpenSpec.upto fnExactYearFacingSpec)

end Rows
end Go.Proofs.YtmniodfdoidffaaDoor
