/-
  NARROWER THAN 'FOR EVERY INPUT', by the rows' own cells (each row's printed sentence says how): PowerTens: laid · PowerDigits: laid · PowerNone: calm, laid.
  DERIVED. THE GIVEN ROWS OF THIS SEAT. 3 by the template 'for every input the law returns true; each argument reads behind the call as it read before'; 0 by the template 'total and deterministic' (their statements: YteblliofeaahmaaDoorTotals.lean).
  GIVEN WITH THE SEED: the statements are not yours to turn. If you find one false, say at which input.
  Laid BY PROGRAM, IN A SANDBOX (cutbox-rows.mjs): the forced cells as the released guide's own fill.sh prints them over the translation d7750f196c5d745c… (all of the seat's roots in one cut). By AI agents, Wed Nov 11 2026. No macro, syntax, notation, axiom, sorry.
-/
import Derived.Test.YteblliofeaahmaaDoorChecked
import GoSem.Claim
import GoSem.ClaimJoined
import GoSem.ClaimMapViews
import Derived.JoinedTies
import Derived.KernelRfl
namespace Go.Proofs.YteblliofeaahmaaDoor
/- THE CELL 'sum', in the pinned program and in every row, IS THE sha256 OF THE DUMP (.gsa) THAT YteblliofeaahmaaDoorProg.lean LOADS. Nothing in Lean hashes anything: it is a label: what it is worth is what the hold of that sum in a sandbox is worth. -/
noncomputable def Tryd.pinned : Pinned := { name := "yteblliofeaahmaadoor", sum := "d7750f196c5d745c750b0f08d70eb64b8caa51f3cb291870ef510cacffce7329", checked := Tryd.checked }
namespace Rows
def none {H : Type} : Left H := { results := [], args := [] }

/- WHAT THE LISTED PACKAGE-LEVEL VARIABLES READ AS WHEN THE CALL BEGINS. Each datum BY PROGRAM (the guide's laid-datum.mjs) off the statement by which the dump's own 'gosem.cut.vars' lays the variable. In a bare row this is a premise. The card (YteblliofeaahmaaDoorCards.lean) ties it to the program's text. -/
def laid_numeral_power_fives {H : Type} : DataW H := .agg [.lit (.int .u64 1), .lit (.int .u64 5), .lit (.int .u64 25), .lit (.int .u64 125), .lit (.int .u64 625), .lit (.int .u64 3125), .lit (.int .u64 15625), .lit (.int .u64 78125), .lit (.int .u64 390625), .lit (.int .u64 1953125), .lit (.int .u64 9765625), .lit (.int .u64 48828125), .lit (.int .u64 244140625), .lit (.int .u64 1220703125), .lit (.int .u64 6103515625), .lit (.int .u64 30517578125), .lit (.int .u64 152587890625), .lit (.int .u64 762939453125), .lit (.int .u64 3814697265625), .lit (.int .u64 19073486328125), .lit (.int .u64 95367431640625), .lit (.int .u64 476837158203125), .lit (.int .u64 2384185791015625), .lit (.int .u64 11920928955078125), .lit (.int .u64 59604644775390625), .lit (.int .u64 298023223876953125), .lit (.int .u64 1490116119384765625), .lit (.int .u64 7450580596923828125)]

/-- 'numerallaw13.PowerTens': WHATEVER THE INPUT: true; the input reads as it did. -/
def powerTensSpec : ChangeSpec := { name := "powerTens", fn := fun _ => fun
  | [d1, d2] => { results := [.lit (.bool true)], args := [d1, d2] }
  | _ => none }
def powerTensRow : OpenClaim := { program := "yteblliofeaahmaadoor", sum := "d7750f196c5d745c750b0f08d70eb64b8caa51f3cb291870ef510cacffce7329", func := "numeral/numerallaw13.PowerTens", spec := "powerTens", inPlace := ["math/bits.Add64"], named := ["numeral/power.fives"], apart := false, laid := [("numeral/power.fives", laid_numeral_power_fives)] }
def PowerTensSaid : Prop := powerTensRow.holds Tryd.pinned (OpenSpec.ofChange powerTensSpec)

/-- ITS FALSE NEIGHBOUR: 'it returns false'. Refute it at one input. -/
def powerTensWrong : ChangeSpec := { name := "powerTens", fn := fun _ => fun
  | [d1, d2] => { results := [.lit (.bool false)], args := [d1, d2] }
  | _ => none }
def PowerTensWrongFalsely : Prop := powerTensRow.holds Tryd.pinned (OpenSpec.ofChange powerTensWrong)

/-- 'numerallaw13.PowerDigits': WHATEVER THE INPUT: true; the input reads as it did. -/
def powerDigitsSpec : ChangeSpec := { name := "powerDigits", fn := fun _ => fun
  | [d1, d2] => { results := [.lit (.bool true)], args := [d1, d2] }
  | _ => none }
def powerDigitsRow : OpenClaim := { program := "yteblliofeaahmaadoor", sum := "d7750f196c5d745c750b0f08d70eb64b8caa51f3cb291870ef510cacffce7329", func := "numeral/numerallaw13.PowerDigits", spec := "powerDigits", named := ["numeral/power.fives"], apart := false, laid := [("numeral/power.fives", laid_numeral_power_fives)] }
def PowerDigitsSaid : Prop := powerDigitsRow.holds Tryd.pinned (OpenSpec.ofChange powerDigitsSpec)

/-- ITS FALSE NEIGHBOUR: 'it returns false'. Refute it at one input. -/
def powerDigitsWrong : ChangeSpec := { name := "powerDigits", fn := fun _ => fun
  | [d1, d2] => { results := [.lit (.bool false)], args := [d1, d2] }
  | _ => none }
def PowerDigitsWrongFalsely : Prop := powerDigitsRow.holds Tryd.pinned (OpenSpec.ofChange powerDigitsWrong)

/-- 'numerallaw13.PowerNone': WHATEVER THE INPUT: true; the input reads as it did. -/
def powerNoneSpec : ChangeSpec := { name := "powerNone", fn := fun _ => fun
  | [d1, d2] => { results := [.lit (.bool true)], args := [d1, d2] }
  | _ => none }
def powerNoneRow : OpenClaim := { program := "yteblliofeaahmaadoor", sum := "d7750f196c5d745c750b0f08d70eb64b8caa51f3cb291870ef510cacffce7329", func := "numeral/numerallaw13.PowerNone", spec := "powerNone", inPlace := ["(*sync.WaitGroup).Add", "internal/race.ReleaseMerge", "internal/race.Disable", "internal/race.Enable", "internal/synctest.IsInBubble", "internal/synctest.Associate[sync.WaitGroup]", "sync.fatal", "sync/atomic.OrUint64", "sync/atomic.AddUint64", "internal/race.Read", "sync/atomic.LoadUint64", "sync/atomic.StoreUint64", "internal/synctest.Disassociate[sync.WaitGroup]", "sync.runtime_Semrelease", "(*sync.WaitGroup).Done", "sync/atomic.AddInt32", "sync/atomic.LoadUint32", "(*internal/sync.Mutex).Lock", "sync/atomic.CompareAndSwapInt32", "internal/race.Acquire", "(*internal/sync.Mutex).lockSlow", "internal/sync.runtime_canSpin", "internal/sync.runtime_doSpin", "internal/sync.throw", "internal/sync.runtime_nanotime", "internal/sync.runtime_SemacquireMutex", "(*internal/sync.Mutex).Unlock", "(*internal/sync.Mutex).unlockSlow", "internal/sync.fatal", "internal/sync.runtime_Semrelease", "sync/atomic.StoreUint32", "(*sync.WaitGroup).Wait", "internal/synctest.IsAssociated[sync.WaitGroup]", "sync/atomic.CompareAndSwapUint64", "internal/race.Write", "sync.runtime_SemacquireWaitGroup", "sync/atomic.LoadInt32"], unfollowed := true, recurses := true, named := ["numeral/power.fives"], leaving := true, apart := false, calm := true, outside := [.timePasses], laid := [("numeral/power.fives", laid_numeral_power_fives)] }
def PowerNoneSaid : Prop := powerNoneRow.holds Tryd.pinned (OpenSpec.ofChange powerNoneSpec)

/-- ITS FALSE NEIGHBOUR: 'it returns false'. Refute it at one input. -/
def powerNoneWrong : ChangeSpec := { name := "powerNone", fn := fun _ => fun
  | [d1, d2] => { results := [.lit (.bool false)], args := [d1, d2] }
  | _ => none }
def PowerNoneWrongFalsely : Prop := powerNoneRow.holds Tryd.pinned (OpenSpec.ofChange powerNoneWrong)

/- THE SECOND FORM. 'bulk': how many values and letters a reading holds, each counted each time it is reached (what is shared counts as often as it is met; a slice's spare places count too). A statement '..UptoSaid' is the law's where the arguments, and the package variables that the reading takes, are together of bulk at most 1048576: NARROWER than '..Said'. Prove '..Said' where nothing that the law and all that it calls make is longer than what came in: it says more and counts as full. Else prove '..UptoSaid'. A law counts once. -/
mutual
def uptoBulk {H : Type} : DataW H → Nat
  | .lit (.string bytes) => bytes.length + 1
  | .lit _ => 1
  | .nil => 1
  | .ptr d => uptoBulk d + 1
  | .slice elems spare => uptoBulkAll elems + uptoBulkAll spare + 1
  | .agg parts => uptoBulkAll parts + 1
  | .iface _ d => uptoBulk d + 1
  | .map entries => uptoBulkEntries entries + 1
  | .held _ => 1
def uptoBulkAll {H : Type} : List (DataW H) → Nat
  | [] => 0
  | d :: r => uptoBulk d + uptoBulkAll r
def uptoBulkEntries {H : Type} : List (Lit × DataW H) → Nat
  | [] => 0
  | x :: r => uptoBulkEntry x + uptoBulkEntries r
def uptoBulkEntry {H : Type} : Lit × DataW H → Nat
  | (.string bytes, d) => bytes.length + uptoBulk d + 1
  | (_, d) => uptoBulk d + 1
 end
def uptoSmall : (H : Type) → List (DataW H) → Bool := fun _ ds => decide (uptoBulkAll ds ≤ 1048576)
def OpenSpec.upto (s : _root_.Go.ChangeSpec) : _root_.Go.OpenSpec := { _root_.Go.OpenSpec.ofChange s with cond := some uptoSmall }

/-- 'numerallaw13.PowerTens', WHERE WHAT IT READS IS OF BULK AT MOST 1048576: true; the input reads as it did. -/
def powerTensUptoRow : OpenClaim := { program := "yteblliofeaahmaadoor", sum := "d7750f196c5d745c750b0f08d70eb64b8caa51f3cb291870ef510cacffce7329", func := "numeral/numerallaw13.PowerTens", spec := "powerTens", inPlace := ["math/bits.Add64"], named := ["numeral/power.fives"], apart := false, laid := [("numeral/power.fives", laid_numeral_power_fives)], narrowed := true }
def PowerTensUptoSaid : Prop := powerTensUptoRow.holds Tryd.pinned (OpenSpec.upto powerTensSpec)

/-- 'numerallaw13.PowerDigits', WHERE WHAT IT READS IS OF BULK AT MOST 1048576: true; the input reads as it did. -/
def powerDigitsUptoRow : OpenClaim := { program := "yteblliofeaahmaadoor", sum := "d7750f196c5d745c750b0f08d70eb64b8caa51f3cb291870ef510cacffce7329", func := "numeral/numerallaw13.PowerDigits", spec := "powerDigits", named := ["numeral/power.fives"], apart := false, laid := [("numeral/power.fives", laid_numeral_power_fives)], narrowed := true }
def PowerDigitsUptoSaid : Prop := powerDigitsUptoRow.holds Tryd.pinned (OpenSpec.upto powerDigitsSpec)

end Rows
end Go.Proofs.YteblliofeaahmaaDoor
