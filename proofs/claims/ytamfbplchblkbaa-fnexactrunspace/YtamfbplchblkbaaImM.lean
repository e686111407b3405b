import Derived.Test.YtamfbplchblkbaaImL
import Derived.Conc.MuLone
namespace Go.Proofs.Ytamfbplchblkbaa
open Go.RowKit Go.Shelf
set_option linter.unusedVariables false

abbrev muLink : Go.Conc.Locks.MuLink := { lock := 36, unlock := 37, ilock := 53, iunlock := 54, lockSlow := 68, unlockSlow := 71, disable := 64, enable := 66, acquire := 67, relMerge := 69, cas32 := 65, add32 := 70, tMutex := 75, tIMutex := 73, tPMutex := 97, tPIMutex := 107, tPI32 := 109, tUP := 111, tNoCopy := 70, tU32 := 71 }
theorem muLib : Go.Conc.Locks.MuLib Try.prog muLink :=
  ⟨Try.func36, Try.func37, Try.func53, Try.func54, Try.func64, Try.func66, Try.func67, Try.func69, Try.func65, Try.func70, Try.underlying73, Try.runUnderlying73, Try.sizeOf73, Try.isAgg73, Try.zeroValue73, Try.underlying75, Try.runUnderlying75, Try.sizeOf75, Try.isAgg75, Try.zeroValue75, Try.underlying97, Try.runUnderlying97, Try.sizeOf97, Try.isAgg97, Try.zeroValue97, Try.underlying107, Try.runUnderlying107, Try.sizeOf107, Try.isAgg107, Try.zeroValue107, Try.underlying109, Try.runUnderlying109, Try.sizeOf109, Try.isAgg109, Try.zeroValue109, Try.underlying111, Try.runUnderlying111, Try.sizeOf111, Try.isAgg111, Try.zeroValue111, Try.underlying70, Try.runUnderlying70, Try.sizeOf70, Try.isAgg70, Try.zeroValue70, Try.underlying21, Try.runUnderlying21, Try.sizeOf21, Try.isAgg21, Try.zeroValue21, by kernel_rfl⟩
/-- the lock is taken -/
theorem im_lock {S M : Nat} {n bud : Int} {f : Nat → Option Nat} {w : World} (h : Im S M 0 n bud f w) : Calls Try.prog 36 #[.pointer (some ⟨S, 0, none⟩)] w fun e w' => e = .returned (.tuple #[]) ∧ w' = w.setCell ⟨S, 0, none⟩ (.int .i32 1) :=
  Go.MuLone.lock_free muLib ⟨S, 0, none⟩ w (by simp [World.cell?, h.box]) (by simp [World.frozen?, h.box])
theorem Im.st {S M : Nat} {st n bud : Int} {f : Nat → Option Nat} {w : World} (h : Im S M st n bud f w) (st' : Int) : Im S M st' n bud f (w.setCell ⟨S, 0, none⟩ (.int .i32 st')) := by
  obtain ⟨D, h1, h2⟩ := h.map
  refine ⟨heap_set_at h.box _, D, h1.kept (grown_set (grown_refl w S) 0 _) (fun e => ?_), h2⟩
  obtain ⟨es, clock, hb, _⟩ := h1
  simp at e
  subst e
  rw [h.box] at hb
  cases hb
end Go.Proofs.Ytamfbplchblkbaa
