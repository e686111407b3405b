/-
  NARROWER THAN 'FOR EVERY INPUT', by the rows' own cells (each row's printed sentence says how): FnTop: laid · FnOutOfLine: laid · FnDouble: laid · FnWithheld: laid · FnZero: laid · FnPrefix: laid · FnGuards: laid.
  DERIVED. THE GIVEN ROWS OF THIS SEAT. 7 by the template 'for every input the law returns true; each argument reads behind the call as it read before'; 0 by the template 'total and deterministic' (their statements: YtdngbppdomoenaaGreatDoorTotals.lean).
  GIVEN WITH THE SEED: the statements are not yours to turn. If you find one false, say at which input.
  Laid BY PROGRAM, IN A SANDBOX (cutbox-rows.mjs): the forced cells as the released guide's own fill.sh prints them over the translation 4d12e5c3bb9c3e7e… (all of the seat's roots in one cut). By AI agents, Wed Nov 11 2026. No macro, syntax, notation, axiom, sorry.
-/
import Derived.Test.YtdngbppdomoenaaGreatDoorChecked
import GoSem.Claim
import GoSem.ClaimJoined
import GoSem.ClaimMapViews
import Derived.JoinedTies
import Derived.KernelRfl
namespace Go.Proofs.YtdngbppdomoenaaGreatDoor
/- THE CELL 'sum', in the pinned program and in every row, IS THE sha256 OF THE DUMP (.gsa) THAT YtdngbppdomoenaaGreatDoorProg.lean LOADS. Nothing in Lean hashes anything: it is a label: what it is worth is what the hold of that sum in a sandbox is worth. -/
noncomputable def Tryz.pinned : Pinned := { name := "ytdngbppdomoenaagreatdoor", sum := "4d12e5c3bb9c3e7e95774205263956bef4b47f364ff560ca5d5967c7f266fcdf", checked := Tryz.checked }
namespace Rows
def none {H : Type} : Left H := { results := [], args := [] }

/- WHAT THE LISTED PACKAGE-LEVEL VARIABLES READ AS WHEN THE CALL BEGINS. Each datum BY PROGRAM (the guide's laid-datum.mjs) off the statement by which the dump's own 'gosem.cut.vars' lays the variable. In a bare row this is a premise. The card (YtdngbppdomoenaaGreatDoorCards.lean) ties it to the program's text. -/
def laid_loop_example_s01868_impl_slotSizes {H : Type} : DataW H := .agg [.lit (.int .i64 16), .lit (.int .i64 32), .lit (.int .i64 48), .lit (.int .i64 64), .lit (.int .i64 96), .lit (.int .i64 128), .lit (.int .i64 192), .lit (.int .i64 256), .lit (.int .i64 384), .lit (.int .i64 512), .lit (.int .i64 768), .lit (.int .i64 1024)]

/-- 'laws.FnTop': WHATEVER THE INPUT: true; the input reads as it did. -/
def fnTopSpec : ChangeSpec := { name := "fnTop", vars := ["loop.example/s01868/impl.slotSizes"], fn := fun _ => fun
  | [d, g1] => { results := [.lit (.bool true)], args := [d], vars := [g1] }
  | _ => none }
def fnTopRow : OpenClaim := { program := "ytdngbppdomoenaagreatdoor", sum := "4d12e5c3bb9c3e7e95774205263956bef4b47f364ff560ca5d5967c7f266fcdf", func := "loop.example/s01868/laws.FnTop", spec := "fnTop", inPlace := ["(*internal/sync.Mutex).Lock", "internal/race.Disable", "sync/atomic.CompareAndSwapInt32", "internal/race.Enable", "internal/race.Acquire", "(*internal/sync.Mutex).lockSlow", "internal/sync.runtime_canSpin", "internal/sync.runtime_doSpin", "internal/sync.throw", "internal/sync.runtime_nanotime", "internal/sync.runtime_SemacquireMutex", "sync/atomic.AddInt32", "(*internal/sync.Mutex).Unlock", "internal/race.ReleaseMerge", "(*internal/sync.Mutex).unlockSlow", "internal/sync.fatal", "internal/sync.runtime_Semrelease"], unfollowed := true, recurses := true, named := ["loop.example/s01868/impl.slotSizes"], apart := false, laid := [("loop.example/s01868/impl.slotSizes", laid_loop_example_s01868_impl_slotSizes)] }
def FnTopSaid : Prop := fnTopRow.holds Tryz.pinned (OpenSpec.ofChange fnTopSpec)

/-- ITS FALSE NEIGHBOUR: 'it returns false'. Refute it at one input. -/
def fnTopWrong : ChangeSpec := { name := "fnTop", vars := ["loop.example/s01868/impl.slotSizes"], fn := fun _ => fun
  | [d, g1] => { results := [.lit (.bool false)], args := [d], vars := [g1] }
  | _ => none }
def FnTopWrongFalsely : Prop := fnTopRow.holds Tryz.pinned (OpenSpec.ofChange fnTopWrong)

/-- 'laws.FnOutOfLine': WHATEVER THE INPUT: true; the input reads as it did. -/
def fnOutOfLineSpec : ChangeSpec := { name := "fnOutOfLine", vars := ["loop.example/s01868/impl.slotSizes"], fn := fun _ => fun
  | [d1, d2, g1] => { results := [.lit (.bool true)], args := [d1, d2], vars := [g1] }
  | _ => none }
def fnOutOfLineRow : OpenClaim := { program := "ytdngbppdomoenaagreatdoor", sum := "4d12e5c3bb9c3e7e95774205263956bef4b47f364ff560ca5d5967c7f266fcdf", func := "loop.example/s01868/laws.FnOutOfLine", spec := "fnOutOfLine", inPlace := ["(*internal/sync.Mutex).Lock", "internal/race.Disable", "sync/atomic.CompareAndSwapInt32", "internal/race.Enable", "internal/race.Acquire", "(*internal/sync.Mutex).lockSlow", "internal/sync.runtime_canSpin", "internal/sync.runtime_doSpin", "internal/sync.throw", "internal/sync.runtime_nanotime", "internal/sync.runtime_SemacquireMutex", "sync/atomic.AddInt32", "(*internal/sync.Mutex).Unlock", "internal/race.ReleaseMerge", "(*internal/sync.Mutex).unlockSlow", "internal/sync.fatal", "internal/sync.runtime_Semrelease"], unfollowed := true, recurses := true, named := ["loop.example/s01868/impl.slotSizes"], apart := false, laid := [("loop.example/s01868/impl.slotSizes", laid_loop_example_s01868_impl_slotSizes)] }
def FnOutOfLineSaid : Prop := fnOutOfLineRow.holds Tryz.pinned (OpenSpec.ofChange fnOutOfLineSpec)

/-- ITS FALSE NEIGHBOUR: 'it returns false'. Refute it at one input. -/
def fnOutOfLineWrong : ChangeSpec := { name := "fnOutOfLine", vars := ["loop.example/s01868/impl.slotSizes"], fn := fun _ => fun
  | [d1, d2, g1] => { results := [.lit (.bool false)], args := [d1, d2], vars := [g1] }
  | _ => none }
def FnOutOfLineWrongFalsely : Prop := fnOutOfLineRow.holds Tryz.pinned (OpenSpec.ofChange fnOutOfLineWrong)

/-- 'laws.FnDouble': WHATEVER THE INPUT: true; the input reads as it did. -/
def fnDoubleSpec : ChangeSpec := { name := "fnDouble", vars := ["loop.example/s01868/impl.slotSizes"], fn := fun _ => fun
  | [d, g1] => { results := [.lit (.bool true)], args := [d], vars := [g1] }
  | _ => none }
def fnDoubleRow : OpenClaim := { program := "ytdngbppdomoenaagreatdoor", sum := "4d12e5c3bb9c3e7e95774205263956bef4b47f364ff560ca5d5967c7f266fcdf", func := "loop.example/s01868/laws.FnDouble", spec := "fnDouble", inPlace := ["(*internal/sync.Mutex).Lock", "internal/race.Disable", "sync/atomic.CompareAndSwapInt32", "internal/race.Enable", "internal/race.Acquire", "(*internal/sync.Mutex).lockSlow", "internal/sync.runtime_canSpin", "internal/sync.runtime_doSpin", "internal/sync.throw", "internal/sync.runtime_nanotime", "internal/sync.runtime_SemacquireMutex", "sync/atomic.AddInt32", "(*internal/sync.Mutex).Unlock", "internal/race.ReleaseMerge", "(*internal/sync.Mutex).unlockSlow", "internal/sync.fatal", "internal/sync.runtime_Semrelease"], unfollowed := true, recurses := true, named := ["loop.example/s01868/impl.slotSizes"], apart := false, laid := [("loop.example/s01868/impl.slotSizes", laid_loop_example_s01868_impl_slotSizes)] }
def FnDoubleSaid : Prop := fnDoubleRow.holds Tryz.pinned (OpenSpec.ofChange fnDoubleSpec)

/-- ITS FALSE NEIGHBOUR: 'it returns false'. Refute it at one input. -/
def fnDoubleWrong : ChangeSpec := { name := "fnDouble", vars := ["loop.example/s01868/impl.slotSizes"], fn := fun _ => fun
  | [d, g1] => { results := [.lit (.bool false)], args := [d], vars := [g1] }
  | _ => none }
def FnDoubleWrongFalsely : Prop := fnDoubleRow.holds Tryz.pinned (OpenSpec.ofChange fnDoubleWrong)

/-- 'laws.FnWithheld': WHATEVER THE INPUT: true; the input reads as it did. -/
def fnWithheldSpec : ChangeSpec := { name := "fnWithheld", vars := ["loop.example/s01868/impl.slotSizes"], fn := fun _ => fun
  | [d, g1] => { results := [.lit (.bool true)], args := [d], vars := [g1] }
  | _ => none }
def fnWithheldRow : OpenClaim := { program := "ytdngbppdomoenaagreatdoor", sum := "4d12e5c3bb9c3e7e95774205263956bef4b47f364ff560ca5d5967c7f266fcdf", func := "loop.example/s01868/laws.FnWithheld", spec := "fnWithheld", inPlace := ["(*internal/sync.Mutex).Lock", "internal/race.Disable", "sync/atomic.CompareAndSwapInt32", "internal/race.Enable", "internal/race.Acquire", "(*internal/sync.Mutex).lockSlow", "internal/sync.runtime_canSpin", "internal/sync.runtime_doSpin", "internal/sync.throw", "internal/sync.runtime_nanotime", "internal/sync.runtime_SemacquireMutex", "sync/atomic.AddInt32", "(*internal/sync.Mutex).Unlock", "internal/race.ReleaseMerge", "(*internal/sync.Mutex).unlockSlow", "internal/sync.fatal", "internal/sync.runtime_Semrelease"], unfollowed := true, recurses := true, named := ["loop.example/s01868/impl.slotSizes"], apart := false, laid := [("loop.example/s01868/impl.slotSizes", laid_loop_example_s01868_impl_slotSizes)] }
def FnWithheldSaid : Prop := fnWithheldRow.holds Tryz.pinned (OpenSpec.ofChange fnWithheldSpec)

/-- ITS FALSE NEIGHBOUR: 'it returns false'. Refute it at one input. -/
def fnWithheldWrong : ChangeSpec := { name := "fnWithheld", vars := ["loop.example/s01868/impl.slotSizes"], fn := fun _ => fun
  | [d, g1] => { results := [.lit (.bool false)], args := [d], vars := [g1] }
  | _ => none }
def FnWithheldWrongFalsely : Prop := fnWithheldRow.holds Tryz.pinned (OpenSpec.ofChange fnWithheldWrong)

/-- 'laws.FnZero': WHATEVER THE INPUT: true; the input reads as it did. -/
def fnZeroSpec : ChangeSpec := { name := "fnZero", vars := ["loop.example/s01868/impl.slotSizes"], fn := fun _ => fun
  | [d, g1] => { results := [.lit (.bool true)], args := [d], vars := [g1] }
  | _ => none }
def fnZeroRow : OpenClaim := { program := "ytdngbppdomoenaagreatdoor", sum := "4d12e5c3bb9c3e7e95774205263956bef4b47f364ff560ca5d5967c7f266fcdf", func := "loop.example/s01868/laws.FnZero", spec := "fnZero", inPlace := ["(*internal/sync.Mutex).Lock", "internal/race.Disable", "sync/atomic.CompareAndSwapInt32", "internal/race.Enable", "internal/race.Acquire", "(*internal/sync.Mutex).lockSlow", "internal/sync.runtime_canSpin", "internal/sync.runtime_doSpin", "internal/sync.throw", "internal/sync.runtime_nanotime", "internal/sync.runtime_SemacquireMutex", "sync/atomic.AddInt32", "(*internal/sync.Mutex).Unlock", "internal/race.ReleaseMerge", "(*internal/sync.Mutex).unlockSlow", "internal/sync.fatal", "internal/sync.runtime_Semrelease"], unfollowed := true, recurses := true, named := ["loop.example/s01868/impl.slotSizes"], apart := false, laid := [("loop.example/s01868/impl.slotSizes", laid_loop_example_s01868_impl_slotSizes)] }
def FnZeroSaid : Prop := fnZeroRow.holds Tryz.pinned (OpenSpec.ofChange fnZeroSpec)

/-- ITS FALSE NEIGHBOUR: 'it returns false'. Refute it at one input. -/
def fnZeroWrong : ChangeSpec := { name := "fnZero", vars := ["loop.example/s01868/impl.slotSizes"], fn := fun _ => fun
  | [d, g1] => { results := [.lit (.bool false)], args := [d], vars := [g1] }
  | _ => none }
def FnZeroWrongFalsely : Prop := fnZeroRow.holds Tryz.pinned (OpenSpec.ofChange fnZeroWrong)

/-- 'laws.FnPrefix': WHATEVER THE INPUT: true; the input reads as it did. -/
def fnPrefixSpec : ChangeSpec := { name := "fnPrefix", vars := ["loop.example/s01868/impl.slotSizes"], fn := fun _ => fun
  | [d, g1] => { results := [.lit (.bool true)], args := [d], vars := [g1] }
  | _ => none }
def fnPrefixRow : OpenClaim := { program := "ytdngbppdomoenaagreatdoor", sum := "4d12e5c3bb9c3e7e95774205263956bef4b47f364ff560ca5d5967c7f266fcdf", func := "loop.example/s01868/laws.FnPrefix", spec := "fnPrefix", inPlace := ["(*internal/sync.Mutex).Lock", "internal/race.Disable", "sync/atomic.CompareAndSwapInt32", "internal/race.Enable", "internal/race.Acquire", "(*internal/sync.Mutex).lockSlow", "internal/sync.runtime_canSpin", "internal/sync.runtime_doSpin", "internal/sync.throw", "internal/sync.runtime_nanotime", "internal/sync.runtime_SemacquireMutex", "sync/atomic.AddInt32", "(*internal/sync.Mutex).Unlock", "internal/race.ReleaseMerge", "(*internal/sync.Mutex).unlockSlow", "internal/sync.fatal", "internal/sync.runtime_Semrelease"], unfollowed := true, recurses := true, named := ["loop.example/s01868/impl.slotSizes"], apart := false, laid := [("loop.example/s01868/impl.slotSizes", laid_loop_example_s01868_impl_slotSizes)] }
def FnPrefixSaid : Prop := fnPrefixRow.holds Tryz.pinned (OpenSpec.ofChange fnPrefixSpec)

/-- ITS FALSE NEIGHBOUR: 'it returns false'. Refute it at one input. -/
def fnPrefixWrong : ChangeSpec := { name := "fnPrefix", vars := ["loop.example/s01868/impl.slotSizes"], fn := fun _ => fun
  | [d, g1] => { results := [.lit (.bool false)], args := [d], vars := [g1] }
  | _ => none }
def FnPrefixWrongFalsely : Prop := fnPrefixRow.holds Tryz.pinned (OpenSpec.ofChange fnPrefixWrong)

/-- 'laws.FnGuards': WHATEVER THE INPUT: true; the input reads as it did. -/
def fnGuardsSpec : ChangeSpec := { name := "fnGuards", vars := ["loop.example/s01868/impl.slotSizes"], fn := fun _ => fun
  | [d, g1] => { results := [.lit (.bool true)], args := [d], vars := [g1] }
  | _ => none }
def fnGuardsRow : OpenClaim := { program := "ytdngbppdomoenaagreatdoor", sum := "4d12e5c3bb9c3e7e95774205263956bef4b47f364ff560ca5d5967c7f266fcdf", func := "loop.example/s01868/laws.FnGuards", spec := "fnGuards", inPlace := ["(*internal/sync.Mutex).Lock", "internal/race.Disable", "sync/atomic.CompareAndSwapInt32", "internal/race.Enable", "internal/race.Acquire", "(*internal/sync.Mutex).lockSlow", "internal/sync.runtime_canSpin", "internal/sync.runtime_doSpin", "internal/sync.throw", "internal/sync.runtime_nanotime", "internal/sync.runtime_SemacquireMutex", "sync/atomic.AddInt32", "(*internal/sync.Mutex).Unlock", "internal/race.ReleaseMerge", "(*internal/sync.Mutex).unlockSlow", "internal/sync.fatal", "internal/sync.runtime_Semrelease"], unfollowed := true, recurses := true, named := ["loop.example/s01868/impl.slotSizes"], apart := false, laid := [("loop.example/s01868/impl.slotSizes", laid_loop_example_s01868_impl_slotSizes)] }
def FnGuardsSaid : Prop := fnGuardsRow.holds Tryz.pinned (OpenSpec.ofChange fnGuardsSpec)

/-- ITS FALSE NEIGHBOUR: 'it returns false'. Refute it at one input. -/
def fnGuardsWrong : ChangeSpec := { name := "fnGuards", vars := ["loop.example/s01868/impl.slotSizes"], fn := fun _ => fun
  | [d, g1] => { results := [.lit (.bool false)], args := [d], vars := [g1] }
  | _ => none }
def FnGuardsWrongFalsely : Prop := fnGuardsRow.holds Tryz.pinned (OpenSpec.ofChange fnGuardsWrong)

/- THE SECOND FORM. 'bulk': how many values and letters a reading holds, each counted each time it is reached (what is shared counts as often as it is met; a slice's spare places count too). A statement '..UptoSaid' is the law's where the arguments, and the package variables that the reading takes, are together of bulk at most 1048576: NARROWER than '..Said'. Prove '..Said' where nothing that the law and all that it calls make is longer than what came in: it says more and counts as full. Else prove '..UptoSaid'. A law counts once. -/
mutual
def uptoBulk {H : Type} : DataW H → Nat
  | .lit (.string bytes) => bytes.length + 1
  | .lit _ => 1
  | .nil => 1
  | .ptr d => uptoBulk d + 1
  | .slice elems spare => uptoBulkAll elems + uptoBulkAll spare + 1
  | .agg parts => uptoBulkAll parts + 1
  | .iface _ d => uptoBulk d + 1
  | .map entries => uptoBulkEntries entries + 1
  | .held _ => 1
def uptoBulkAll {H : Type} : List (DataW H) → Nat
  | [] => 0
  | d :: r => uptoBulk d + uptoBulkAll r
def uptoBulkEntries {H : Type} : List (Lit × DataW H) → Nat
  | [] => 0
  | x :: r => uptoBulkEntry x + uptoBulkEntries r
def uptoBulkEntry {H : Type} : Lit × DataW H → Nat
  | (.string bytes, d) => bytes.length + uptoBulk d + 1
  | (_, d) => uptoBulk d + 1
 end
def uptoSmall : (H : Type) → List (DataW H) → Bool := fun _ ds => decide (uptoBulkAll ds ≤ 1048576)
def OpenSpec.upto (s : _root_.Go.ChangeSpec) : _root_.Go.OpenSpec := { _root_.Go.OpenSpec.ofChange s with cond := some uptoSmall }

/-- 'laws.FnTop', WHERE WHAT IT READS IS OF BULK AT MOST 1048576: true; the input reads as it did. -/
def fnTopUptoRow : OpenClaim := { program := "ytdngbppdomoenaagreatdoor", sum := "4d12e5c3bb9c3e7e95774205263956bef4b47f364ff560ca5d5967c7f266fcdf", func := "loop.example/s01868/laws.FnTop", spec := "fnTop", inPlace := ["(*internal/sync.Mutex).Lock", "internal/race.Disable", "sync/atomic.CompareAndSwapInt32", "internal/race.Enable", "internal/race.Acquire", "(*internal/sync.Mutex).lockSlow", "internal/sync.runtime_canSpin", "internal/sync.runtime_doSpin", "internal/sync.throw", "internal/sync.runtime_nanotime", "internal/sync.runtime_SemacquireMutex", "sync/atomic.AddInt32", "(*internal/sync.Mutex).Unlock", "internal/race.ReleaseMerge", "(*internal/sync.Mutex).unlockSlow", "internal/sync.fatal", "internal/sync.runtime_Semrelease"], unfollowed := true, recurses := true, named := ["loop.example/s01868/impl.slotSizes"], apart := false, laid := [("loop.example/s01868/impl.slotSizes", laid_loop_example_s01868_impl_slotSizes)], narrowed := true }
def FnTopUptoSaid : Prop := fnTopUptoRow.holds Tryz.pinned (OpenSpec.upto fnTopSpec)

/-- 'laws.FnOutOfLine', WHERE WHAT IT READS IS OF BULK AT MOST 1048576: true; the input reads as it did. -/
def fnOutOfLineUptoRow : OpenClaim := { program := "ytdngbppdomoenaagreatdoor", sum := "4d12e5c3bb9c3e7e95774205263956bef4b47f364ff560ca5d5967c7f266fcdf", func := "loop.example/s01868/laws.FnOutOfLine", spec := "fnOutOfLine", inPlace := ["(*internal/sync.Mutex).Lock", "internal/race.Disable", "sync/atomic.CompareAndSwapInt32", "internal/race.Enable", "internal/race.Acquire", "(*internal/sync.Mutex).lockSlow", "internal/sync.runtime_canSpin", "internal/sync.runtime_doSpin", "internal/sync.throw", "internal/sync.runtime_nanotime", "internal/sync.runtime_SemacquireMutex", "sync/atomic.AddInt32", "(*internal/sync.Mutex).Unlock", "internal/race.ReleaseMerge", "(*internal/sync.Mutex).unlockSlow", "internal/sync.fatal", "internal/sync.runtime_Semrelease"], unfollowed := true, recurses := true, named := ["loop.example/s01868/impl.slotSizes"], apart := false, laid := [("loop.example/s01868/impl.slotSizes", laid_loop_example_s01868_impl_slotSizes)], narrowed := true }
def FnOutOfLineUptoSaid : Prop := fnOutOfLineUptoRow.holds Tryz.pinned (OpenSpec.upto fnOutOfLineSpec)

/-- 'laws.FnDouble', WHERE WHAT IT READS IS OF BULK AT MOST 1048576: true; the input reads as it did. -/
def fnDoubleUptoRow : OpenClaim := { program := "ytdngbppdomoenaagreatdoor", sum := "4d12e5c3bb9c3e7e95774205263956bef4b47f364ff560ca5d5967c7f266fcdf", func := "loop.example/s01868/laws.FnDouble", spec := "fnDouble", inPlace := ["(*internal/sync.Mutex).Lock", "internal/race.Disable", "sync/atomic.CompareAndSwapInt32", "internal/race.Enable", "internal/race.Acquire", "(*internal/sync.Mutex).lockSlow", "internal/sync.runtime_canSpin", "internal/sync.runtime_doSpin", "internal/sync.throw", "internal/sync.runtime_nanotime", "internal/sync.runtime_SemacquireMutex", "sync/atomic.AddInt32", "(*internal/sync.Mutex).Unlock", "internal/race.ReleaseMerge", "(*internal/sync.Mutex).unlockSlow", "internal/sync.fatal", "internal/sync.runtime_Semrelease"], unfollowed := true, recurses := true, named := ["loop.example/s01868/impl.slotSizes"], apart := false, laid := [("loop.example/s01868/impl.slotSizes", laid_loop_example_s01868_impl_slotSizes)], narrowed := true }
def FnDoubleUptoSaid : Prop := fnDoubleUptoRow.holds Tryz.pinned (OpenSpec.upto fnDoubleSpec)

/-- 'laws.FnWithheld', WHERE WHAT IT READS IS OF BULK AT MOST 1048576: true; the input reads as it did. -/
def fnWithheldUptoRow : OpenClaim := { program := "ytdngbppdomoenaagreatdoor", sum := "4d12e5c3bb9c3e7e95774205263956bef4b47f364ff560ca5d5967c7f266fcdf", func := "loop.example/s01868/laws.FnWithheld", spec := "fnWithheld", inPlace := ["(*internal/sync.Mutex).Lock", "internal/race.Disable", "sync/atomic.CompareAndSwapInt32", "internal/race.Enable", "internal/race.Acquire", "(*internal/sync.Mutex).lockSlow", "internal/sync.runtime_canSpin", "internal/sync.runtime_doSpin", "internal/sync.throw", "internal/sync.runtime_nanotime", "internal/sync.runtime_SemacquireMutex", "sync/atomic.AddInt32", "(*internal/sync.Mutex).Unlock", "internal/race.ReleaseMerge", "(*internal/sync.Mutex).unlockSlow", "internal/sync.fatal", "internal/sync.runtime_Semrelease"], unfollowed := true, recurses := true, named := ["loop.example/s01868/impl.slotSizes"], apart := false, laid := [("loop.example/s01868/impl.slotSizes", laid_loop_example_s01868_impl_slotSizes)], narrowed := true }
def FnWithheldUptoSaid : Prop := fnWithheldUptoRow.holds Tryz.pinned (OpenSpec.upto fnWithheldSpec)

/-- 'laws.FnZero', WHERE WHAT IT READS IS OF BULK AT MOST 1048576: true; the input reads as it did. -/
def fnZeroUptoRow : OpenClaim := { program := "ytdngbppdomoenaagreatdoor", sum := "4d12e5c3bb9c3e7e95774205263956bef4b47f364ff560ca5d5967c7f266fcdf", func := "loop.example/s01868/laws.FnZero", spec := "fnZero", inPlace := ["(*internal/sync.Mutex).Lock", "internal/race.Disable", "sync/atomic.CompareAndSwapInt32", "internal/race.Enable", "internal/race.Acquire", "(*internal/sync.Mutex).lockSlow", "internal/sync.runtime_canSpin", "internal/sync.runtime_doSpin", "internal/sync.throw", "internal/sync.runtime_nanotime", "internal/sync.runtime_SemacquireMutex", "sync/atomic.AddInt32", "(*internal/sync.Mutex).Unlock", "internal/race.ReleaseMerge", "(*internal/sync.Mutex).unlockSlow", "internal/sync.fatal", "internal/sync.runtime_Semrelease"], unfollowed := true, recurses := true, named := ["loop.example/s01868/impl.slotSizes"], apart := false, laid := [("loop.example/s01868/impl.slotSizes", laid_loop_example_s01868_impl_slotSizes)], narrowed := true }
def FnZeroUptoSaid : Prop := fnZeroUptoRow.holds Tryz.pinned (OpenSpec.upto fnZeroSpec)

/-- 'laws.FnPrefix', WHERE WHAT IT READS IS OF BULK AT MOST 1048576: true; the input reads as it did. -/
def fnPrefixUptoRow : OpenClaim := { program := "ytdngbppdomoenaagreatdoor", sum := "4d12e5c3bb9c3e7e95774205263956bef4b47f364ff560ca5d5967c7f266fcdf", func := "loop.example/s01868/laws.FnPrefix", spec := "fnPrefix", inPlace := ["(*internal/sync.Mutex).Lock", "internal/race.Disable", "sync/atomic.CompareAndSwapInt32", "internal/race.Enable", "internal/race.Acquire", "(*internal/sync.Mutex).lockSlow", "internal/sync.runtime_canSpin", "internal/sync.runtime_doSpin", "internal/sync.throw", "internal/sync.runtime_nanotime", "internal/sync.runtime_SemacquireMutex", "sync/atomic.AddInt32", "(*internal/sync.Mutex).Unlock", "internal/race.ReleaseMerge", "(*internal/sync.Mutex).unlockSlow", "internal/sync.fatal", "internal/sync.runtime_Semrelease"], unfollowed := true, recurses := true, named := ["loop.example/s01868/impl.slotSizes"], apart := false, laid := [("loop.example/s01868/impl.slotSizes", laid_loop_example_s01868_impl_slotSizes)], narrowed := true }
def FnPrefixUptoSaid : Prop := fnPrefixUptoRow.holds Tryz.pinned (OpenSpec.upto fnPrefixSpec)

/-- 'laws.FnGuards', WHERE WHAT IT READS IS OF BULK AT MOST 1048576: true; the input reads as it did. -/
def fnGuardsUptoRow : OpenClaim := { program := "ytdngbppdomoenaagreatdoor", sum := "4d12e5c3bb9c3e7e95774205263956bef4b47f364ff560ca5d5967c7f266fcdf", func := "loop.example/s01868/laws.FnGuards", spec := "fnGuards", inPlace := ["(*internal/sync.Mutex).Lock", "internal/race.Disable", "sync/atomic.CompareAndSwapInt32", "internal/race.Enable", "internal/race.Acquire", "(*internal/sync.Mutex).lockSlow", "internal/sync.runtime_canSpin", "internal/sync.runtime_doSpin", "internal/sync.throw", "internal/sync.runtime_nanotime", "internal/sync.runtime_SemacquireMutex", "sync/atomic.AddInt32", "(*internal/sync.Mutex).Unlock", "internal/race.ReleaseMerge", "(*internal/sync.Mutex).unlockSlow", "internal/sync.fatal", "internal/sync.runtime_Semrelease"], unfollowed := true, recurses := true, named := ["loop.example/s01868/impl.slotSizes"], apart := false, laid := [("loop.example/s01868/impl.slotSizes", laid_loop_example_s01868_impl_slotSizes)], narrowed := true }
def FnGuardsUptoSaid : Prop := fnGuardsUptoRow.holds Tryz.pinned (OpenSpec.upto fnGuardsSpec)

end Rows
end Go.Proofs.YtdngbppdomoenaaGreatDoor
