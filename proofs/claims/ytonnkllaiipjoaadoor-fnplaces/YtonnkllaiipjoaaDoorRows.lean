/-
  NARROWER THAN 'FOR EVERY INPUT', by the rows' own cells (each row's printed sentence says how): FnPlaces: laid · FnExactRegionStart: laid · FnExactRegionPages: laid · FnExactLargeStart: laid · FnExactArenaPages: laid · FnExactDecode: laid · FnExactSlotAddr: laid.
  DERIVED. THE GIVEN ROWS OF THIS SEAT. 7 by the template 'for every input the law returns true; each argument reads behind the call as it read before'; 0 by the template 'total and deterministic' (their statements: YtonnkllaiipjoaaDoorTotals.lean).
  GIVEN WITH THE SEED: the statements are not yours to turn. If you find one false, say at which input.
  Laid BY PROGRAM, IN A SANDBOX (cutbox-rows.mjs): the forced cells as the released guide's own fill.sh prints them over the translation b8391627b979413b… (all of the seat's roots in one cut). By AI agents, Wed Nov 11 2026. No macro, syntax, notation, axiom, sorry.
-/
import Derived.Test.YtonnkllaiipjoaaDoorChecked
import GoSem.Claim
import GoSem.ClaimJoined
import GoSem.ClaimMapViews
import Derived.JoinedTies
import Derived.KernelRfl
namespace Go.Proofs.YtonnkllaiipjoaaDoor
/- THE CELL 'sum', in the pinned program and in every row, IS THE sha256 OF THE DUMP (.gsa) THAT YtonnkllaiipjoaaDoorProg.lean LOADS. Nothing in Lean hashes anything: it is a label: what it is worth is what the hold of that sum in a sandbox is worth. -/
noncomputable def Tryd.pinned : Pinned := { name := "ytonnkllaiipjoaadoor", sum := "b8391627b979413b3e68d9622c0fe60890df5b511b7d844fcf1f6e43487afb0f", checked := Tryd.checked }
namespace Rows
def none {H : Type} : Left H := { results := [], args := [] }

/- WHAT THE LISTED PACKAGE-LEVEL VARIABLES READ AS WHEN THE CALL BEGINS. Each datum BY PROGRAM (the guide's laid-datum.mjs) off the statement by which the dump's own 'gosem.cut.vars' lays the variable. In a bare row this is a premise. The card (YtonnkllaiipjoaaDoorCards.lean) ties it to the program's text. -/
def laid_loop_example_s01868_impl_slotSizes {H : Type} : DataW H := .agg [.lit (.int .i64 16), .lit (.int .i64 32), .lit (.int .i64 48), .lit (.int .i64 64), .lit (.int .i64 96), .lit (.int .i64 128), .lit (.int .i64 192), .lit (.int .i64 256), .lit (.int .i64 384), .lit (.int .i64 512), .lit (.int .i64 768), .lit (.int .i64 1024)]

/-- 'laws.FnPlaces': WHATEVER THE INPUT: true; the input reads as it did. -/
def fnPlacesSpec : ChangeSpec := { name := "fnPlaces", vars := ["loop.example/s01868/impl.slotSizes"], fn := fun _ => fun
  | [d, g1] => { results := [.lit (.bool true)], args := [d], vars := [g1] }
  | _ => none }
def fnPlacesRow : OpenClaim := { program := "ytonnkllaiipjoaadoor", sum := "b8391627b979413b3e68d9622c0fe60890df5b511b7d844fcf1f6e43487afb0f", func := "loop.example/s01868/laws.FnPlaces", spec := "fnPlaces", named := ["loop.example/s01868/impl.slotSizes"], apart := false, laid := [("loop.example/s01868/impl.slotSizes", laid_loop_example_s01868_impl_slotSizes)] }
def FnPlacesSaid : Prop := fnPlacesRow.holds Tryd.pinned (OpenSpec.ofChange fnPlacesSpec)

/-- ITS FALSE NEIGHBOUR: 'it returns false'. Refute it at one input. -/
def fnPlacesWrong : ChangeSpec := { name := "fnPlaces", vars := ["loop.example/s01868/impl.slotSizes"], fn := fun _ => fun
  | [d, g1] => { results := [.lit (.bool false)], args := [d], vars := [g1] }
  | _ => none }
def FnPlacesWrongFalsely : Prop := fnPlacesRow.holds Tryd.pinned (OpenSpec.ofChange fnPlacesWrong)

/-- 'laws.FnExactRegionStart': WHATEVER THE INPUT: true; the input reads as it did. -/
def fnExactRegionStartSpec : ChangeSpec := { name := "fnExactRegionStart", vars := ["loop.example/s01868/impl.slotSizes"], fn := fun _ => fun
  | [d, g1] => { results := [.lit (.bool true)], args := [d], vars := [g1] }
  | _ => none }
def fnExactRegionStartRow : OpenClaim := { program := "ytonnkllaiipjoaadoor", sum := "b8391627b979413b3e68d9622c0fe60890df5b511b7d844fcf1f6e43487afb0f", func := "loop.example/s01868/laws.FnExactRegionStart", spec := "fnExactRegionStart", named := ["loop.example/s01868/impl.slotSizes"], apart := false, laid := [("loop.example/s01868/impl.slotSizes", laid_loop_example_s01868_impl_slotSizes)] }
def FnExactRegionStartSaid : Prop := fnExactRegionStartRow.holds Tryd.pinned (OpenSpec.ofChange fnExactRegionStartSpec)

/-- ITS FALSE NEIGHBOUR: 'it returns false'. Refute it at one input. -/
def fnExactRegionStartWrong : ChangeSpec := { name := "fnExactRegionStart", vars := ["loop.example/s01868/impl.slotSizes"], fn := fun _ => fun
  | [d, g1] => { results := [.lit (.bool false)], args := [d], vars := [g1] }
  | _ => none }
def FnExactRegionStartWrongFalsely : Prop := fnExactRegionStartRow.holds Tryd.pinned (OpenSpec.ofChange fnExactRegionStartWrong)

/-- 'laws.FnExactRegionPages': WHATEVER THE INPUT: true; the input reads as it did. -/
def fnExactRegionPagesSpec : ChangeSpec := { name := "fnExactRegionPages", vars := ["loop.example/s01868/impl.slotSizes"], fn := fun _ => fun
  | [d, g1] => { results := [.lit (.bool true)], args := [d], vars := [g1] }
  | _ => none }
def fnExactRegionPagesRow : OpenClaim := { program := "ytonnkllaiipjoaadoor", sum := "b8391627b979413b3e68d9622c0fe60890df5b511b7d844fcf1f6e43487afb0f", func := "loop.example/s01868/laws.FnExactRegionPages", spec := "fnExactRegionPages", named := ["loop.example/s01868/impl.slotSizes"], apart := false, laid := [("loop.example/s01868/impl.slotSizes", laid_loop_example_s01868_impl_slotSizes)] }
def FnExactRegionPagesSaid : Prop := fnExactRegionPagesRow.holds Tryd.pinned (OpenSpec.ofChange fnExactRegionPagesSpec)

/-- ITS FALSE NEIGHBOUR: 'it returns false'. Refute it at one input. -/
def fnExactRegionPagesWrong : ChangeSpec := { name := "fnExactRegionPages", vars := ["loop.example/s01868/impl.slotSizes"], fn := fun _ => fun
  | [d, g1] => { results := [.lit (.bool false)], args := [d], vars := [g1] }
  | _ => none }
def FnExactRegionPagesWrongFalsely : Prop := fnExactRegionPagesRow.holds Tryd.pinned (OpenSpec.ofChange fnExactRegionPagesWrong)

/-- 'laws.FnExactLargeStart': WHATEVER THE INPUT: true; the input reads as it did. -/
def fnExactLargeStartSpec : ChangeSpec := { name := "fnExactLargeStart", vars := ["loop.example/s01868/impl.slotSizes"], fn := fun _ => fun
  | [g1] => { results := [.lit (.bool true)], args := [], vars := [g1] }
  | _ => none }
def fnExactLargeStartRow : OpenClaim := { program := "ytonnkllaiipjoaadoor", sum := "b8391627b979413b3e68d9622c0fe60890df5b511b7d844fcf1f6e43487afb0f", func := "loop.example/s01868/laws.FnExactLargeStart", spec := "fnExactLargeStart", named := ["loop.example/s01868/impl.slotSizes"], apart := false, laid := [("loop.example/s01868/impl.slotSizes", laid_loop_example_s01868_impl_slotSizes)] }
def FnExactLargeStartSaid : Prop := fnExactLargeStartRow.holds Tryd.pinned (OpenSpec.ofChange fnExactLargeStartSpec)

/-- ITS FALSE NEIGHBOUR: 'it returns false'. Refute it at one input. -/
def fnExactLargeStartWrong : ChangeSpec := { name := "fnExactLargeStart", vars := ["loop.example/s01868/impl.slotSizes"], fn := fun _ => fun
  | [g1] => { results := [.lit (.bool false)], args := [], vars := [g1] }
  | _ => none }
def FnExactLargeStartWrongFalsely : Prop := fnExactLargeStartRow.holds Tryd.pinned (OpenSpec.ofChange fnExactLargeStartWrong)

/-- 'laws.FnExactArenaPages': WHATEVER THE INPUT: true; the input reads as it did. -/
def fnExactArenaPagesSpec : ChangeSpec := { name := "fnExactArenaPages", vars := ["loop.example/s01868/impl.slotSizes"], fn := fun _ => fun
  | [g1] => { results := [.lit (.bool true)], args := [], vars := [g1] }
  | _ => none }
def fnExactArenaPagesRow : OpenClaim := { program := "ytonnkllaiipjoaadoor", sum := "b8391627b979413b3e68d9622c0fe60890df5b511b7d844fcf1f6e43487afb0f", func := "loop.example/s01868/laws.FnExactArenaPages", spec := "fnExactArenaPages", named := ["loop.example/s01868/impl.slotSizes"], apart := false, laid := [("loop.example/s01868/impl.slotSizes", laid_loop_example_s01868_impl_slotSizes)] }
def FnExactArenaPagesSaid : Prop := fnExactArenaPagesRow.holds Tryd.pinned (OpenSpec.ofChange fnExactArenaPagesSpec)

/-- ITS FALSE NEIGHBOUR: 'it returns false'. Refute it at one input. -/
def fnExactArenaPagesWrong : ChangeSpec := { name := "fnExactArenaPages", vars := ["loop.example/s01868/impl.slotSizes"], fn := fun _ => fun
  | [g1] => { results := [.lit (.bool false)], args := [], vars := [g1] }
  | _ => none }
def FnExactArenaPagesWrongFalsely : Prop := fnExactArenaPagesRow.holds Tryd.pinned (OpenSpec.ofChange fnExactArenaPagesWrong)

/-- 'laws.FnExactDecode': WHATEVER THE INPUT: true; the input reads as it did. -/
def fnExactDecodeSpec : ChangeSpec := { name := "fnExactDecode", vars := ["loop.example/s01868/impl.slotSizes"], fn := fun _ => fun
  | [d, g1] => { results := [.lit (.bool true)], args := [d], vars := [g1] }
  | _ => none }
def fnExactDecodeRow : OpenClaim := { program := "ytonnkllaiipjoaadoor", sum := "b8391627b979413b3e68d9622c0fe60890df5b511b7d844fcf1f6e43487afb0f", func := "loop.example/s01868/laws.FnExactDecode", spec := "fnExactDecode", named := ["loop.example/s01868/impl.slotSizes"], apart := false, laid := [("loop.example/s01868/impl.slotSizes", laid_loop_example_s01868_impl_slotSizes)] }
def FnExactDecodeSaid : Prop := fnExactDecodeRow.holds Tryd.pinned (OpenSpec.ofChange fnExactDecodeSpec)

/-- ITS FALSE NEIGHBOUR: 'it returns false'. Refute it at one input. -/
def fnExactDecodeWrong : ChangeSpec := { name := "fnExactDecode", vars := ["loop.example/s01868/impl.slotSizes"], fn := fun _ => fun
  | [d, g1] => { results := [.lit (.bool false)], args := [d], vars := [g1] }
  | _ => none }
def FnExactDecodeWrongFalsely : Prop := fnExactDecodeRow.holds Tryd.pinned (OpenSpec.ofChange fnExactDecodeWrong)

/-- 'laws.FnExactSlotAddr': WHATEVER THE INPUT: true; the input reads as it did. -/
def fnExactSlotAddrSpec : ChangeSpec := { name := "fnExactSlotAddr", vars := ["loop.example/s01868/impl.slotSizes"], fn := fun _ => fun
  | [d1, d2, d3, g1] => { results := [.lit (.bool true)], args := [d1, d2, d3], vars := [g1] }
  | _ => none }
def fnExactSlotAddrRow : OpenClaim := { program := "ytonnkllaiipjoaadoor", sum := "b8391627b979413b3e68d9622c0fe60890df5b511b7d844fcf1f6e43487afb0f", func := "loop.example/s01868/laws.FnExactSlotAddr", spec := "fnExactSlotAddr", named := ["loop.example/s01868/impl.slotSizes"], apart := false, laid := [("loop.example/s01868/impl.slotSizes", laid_loop_example_s01868_impl_slotSizes)] }
def FnExactSlotAddrSaid : Prop := fnExactSlotAddrRow.holds Tryd.pinned (OpenSpec.ofChange fnExactSlotAddrSpec)

/-- ITS FALSE NEIGHBOUR: 'it returns false'. Refute it at one input. -/
def fnExactSlotAddrWrong : ChangeSpec := { name := "fnExactSlotAddr", vars := ["loop.example/s01868/impl.slotSizes"], fn := fun _ => fun
  | [d1, d2, d3, g1] => { results := [.lit (.bool false)], args := [d1, d2, d3], vars := [g1] }
  | _ => none }
def FnExactSlotAddrWrongFalsely : Prop := fnExactSlotAddrRow.holds Tryd.pinned (OpenSpec.ofChange fnExactSlotAddrWrong)

/- THE SECOND FORM. 'bulk': how many values and letters a reading holds, each counted each time it is reached (what is shared counts as often as it is met; a slice's spare places count too). A statement '..UptoSaid' is the law's where the arguments, and the package variables that the reading takes, are together of bulk at most 1048576: NARROWER than '..Said'. Prove '..Said' where nothing that the law and all that it calls make is longer than what came in: it says more and counts as full. Else prove '..UptoSaid'. A law counts once. -/
mutual
def uptoBulk {H : Type} : DataW H → Nat
  | .lit (.string bytes) => bytes.length + 1
  | .lit _ => 1
  | .nil => 1
  | .ptr d => uptoBulk d + 1
  | .slice elems spare => uptoBulkAll elems + uptoBulkAll spare + 1
  | .agg parts => uptoBulkAll parts + 1
  | .iface _ d => uptoBulk d + 1
  | .map entries => uptoBulkEntries entries + 1
  | .held _ => 1
def uptoBulkAll {H : Type} : List (DataW H) → Nat
  | [] => 0
  | d :: r => uptoBulk d + uptoBulkAll r
def uptoBulkEntries {H : Type} : List (Lit × DataW H) → Nat
  | [] => 0
  | x :: r => uptoBulkEntry x + uptoBulkEntries r
def uptoBulkEntry {H : Type} : Lit × DataW H → Nat
  | (.string bytes, d) => bytes.length + uptoBulk d + 1
  | (_, d) => uptoBulk d + 1
 end
def uptoSmall : (H : Type) → List (DataW H) → Bool := fun _ ds => decide (uptoBulkAll ds ≤ 1048576)
def OpenSpec.upto (s : _root_.Go.ChangeSpec) : _root_.Go.OpenSpec := { _root_.Go.OpenSpec.ofChange s with cond := some uptoSmall }

/-- 'laws.FnPlaces', WHERE WHAT IT READS IS OF BULK AT MOST 1048576: true; the input reads as it did. -/
def fnPlacesUptoRow : OpenClaim := { program := "ytonnkllaiipjoaadoor", sum := "b8391627b979413b3e68d9622c0fe60890df5b511b7d844fcf1f6e43487afb0f", func := "loop.example/s01868/laws.FnPlaces", spec := "fnPlaces", named := ["loop.example/s01868/impl.slotSizes"], apart := false, laid := [("loop.example/s01868/impl.slotSizes", laid_loop_example_s01868_impl_slotSizes)], narrowed := true }
def FnPlacesUptoSaid : Prop := fnPlacesUptoRow.holds Tryd.pinned (OpenSpec.upto fnPlacesSpec)

/-- 'laws.FnExactRegionStart', WHERE WHAT IT READS IS OF BULK AT MOST 1048576: true; the input reads as it did. -/
def fnExactRegionStartUptoRow : OpenClaim := { program := "ytonnkllaiipjoaadoor", sum := "b8391627b979413b3e68d9622c0fe60890df5b511b7d844fcf1f6e43487afb0f", func := "loop.example/s01868/laws.FnExactRegionStart", spec := "fnExactRegionStart", named := ["loop.example/s01868/impl.slotSizes"], apart := false, laid := [("loop.example/s01868/impl.slotSizes", laid_loop_example_s01868_impl_slotSizes)], narrowed := true }
def FnExactRegionStartUptoSaid : Prop := fnExactRegionStartUptoRow.holds Tryd.pinned (OpenSpec.upto fnExactRegionStartSpec)

/-- 'laws.FnExactRegionPages', WHERE WHAT IT READS IS OF BULK AT MOST 1048576: true; the input reads as it did. -/
def fnExactRegionPagesUptoRow : OpenClaim := { program := "ytonnkllaiipjoaadoor", sum := "b8391627b979413b3e68d9622c0fe60890df5b511b7d844fcf1f6e43487afb0f", func := "loop.example/s01868/laws.FnExactRegionPages", spec := "fnExactRegionPages", named := ["loop.example/s01868/impl.slotSizes"], apart := false, laid := [("loop.example/s01868/impl.slotSizes", laid_loop_example_s01868_impl_slotSizes)], narrowed := true }
def FnExactRegionPagesUptoSaid : Prop := fnExactRegionPagesUptoRow.holds Tryd.pinned (OpenSpec.upto fnExactRegionPagesSpec)

/-- 'laws.FnExactLargeStart', WHERE WHAT IT READS IS OF BULK AT MOST 1048576: true; the input reads as it did. -/
def fnExactLargeStartUptoRow : OpenClaim := { program := "ytonnkllaiipjoaadoor", sum := "b8391627b979413b3e68d9622c0fe60890df5b511b7d844fcf1f6e43487afb0f", func := "loop.example/s01868/laws.FnExactLargeStart", spec := "fnExactLargeStart", named := ["loop.example/s01868/impl.slotSizes"], apart := false, laid := [("loop.example/s01868/impl.slotSizes", laid_loop_example_s01868_impl_slotSizes)], narrowed := true }
def FnExactLargeStartUptoSaid : Prop := fnExactLargeStartUptoRow.holds Tryd.pinned (OpenSpec.upto fnExactLargeStartSpec)

/-- 'laws.FnExactArenaPages', WHERE WHAT IT READS IS OF BULK AT MOST 1048576: true; the input reads as it did. -/
def fnExactArenaPagesUptoRow : OpenClaim := { program := "ytonnkllaiipjoaadoor", sum := "b8391627b979413b3e68d9622c0fe60890df5b511b7d844fcf1f6e43487afb0f", func := "loop.example/s01868/laws.FnExactArenaPages", spec := "fnExactArenaPages", named := ["loop.example/s01868/impl.slotSizes"], apart := false, laid := [("loop.example/s01868/impl.slotSizes", laid_loop_example_s01868_impl_slotSizes)], narrowed := true }
def FnExactArenaPagesUptoSaid : Prop := fnExactArenaPagesUptoRow.holds Tryd.pinned (OpenSpec.upto fnExactArenaPagesSpec)

/-- 'laws.FnExactDecode', WHERE WHAT IT READS IS OF BULK AT MOST 1048576: true; the input reads as it did. -/
def fnExactDecodeUptoRow : OpenClaim := { program := "ytonnkllaiipjoaadoor", sum := "b8391627b979413b3e68d9622c0fe60890df5b511b7d844fcf1f6e43487afb0f", func := "loop.example/s01868/laws.FnExactDecode", spec := "fnExactDecode", named := ["loop.example/s01868/impl.slotSizes"], apart := false, laid := [("loop.example/s01868/impl.slotSizes", laid_loop_example_s01868_impl_slotSizes)], narrowed := true }
def FnExactDecodeUptoSaid : Prop := fnExactDecodeUptoRow.holds Tryd.pinned (OpenSpec.upto fnExactDecodeSpec)

/-- 'laws.FnExactSlotAddr', WHERE WHAT IT READS IS OF BULK AT MOST 1048576: true; the input reads as it did. -/
def fnExactSlotAddrUptoRow : OpenClaim := { program := "ytonnkllaiipjoaadoor", sum := "b8391627b979413b3e68d9622c0fe60890df5b511b7d844fcf1f6e43487afb0f", func := "loop.example/s01868/laws.FnExactSlotAddr", spec := "fnExactSlotAddr", named := ["loop.example/s01868/impl.slotSizes"], apart := false, laid := [("loop.example/s01868/impl.slotSizes", laid_loop_example_s01868_impl_slotSizes)], narrowed := true }
def FnExactSlotAddrUptoSaid : Prop := fnExactSlotAddrUptoRow.holds Tryd.pinned (OpenSpec.upto fnExactSlotAddrSpec)

end Rows
end Go.Proofs.YtonnkllaiipjoaaDoor
