import Derived.RangeFuncNested
import Derived.RangeFuncBound
import Derived.RangeFuncCalls
import Derived.RangeFuncLeaves
import Derived.Shelf.Abstract
import Derived.Shelf.RegionOpen
import Derived.WalkKit
import Derived.OwnWalkIn
import Derived.TacticsInMore
import Derived.LoopNIn
import Derived.LoopIn
import Derived.BigGuardIn
import Derived.Test.YthcimbocchoehaaWalkF
namespace Go.Proofs.Ythcimbocchoehaa
open Go.RowKit Go.Shelf
set_option linter.unusedVariables false

attribute [local go_sem] Oper.semAt_some

/-- the free places below k -/
def frees (zs : List Int) (k : Nat) : List Int := ((List.range k).filter fun j => !bitAt zs j).map fun (j : Nat) => (j : Int)
theorem frees_on (zs : List Int) (k : Nat) (h : bitAt zs k = true) : frees zs (k + 1) = frees zs k := by simp [frees, List.range_succ, h]
theorem frees_off (zs : List Int) (k : Nat) (h : bitAt zs k = false) : frees zs (k + 1) = frees zs k ++ [(k : Int)] := by simp [frees, List.range_succ, h]
theorem frees_len (zs : List Int) (k : Nat) : (frees zs k).length ≤ k := by
  unfold frees
  rw [List.length_map]
  have := List.length_filter_le (fun j => !bitAt zs j) (List.range k)
  simpa using this
theorem frees_pre (zs : List Int) (k : Nat) : ∀ d, frees zs k <+: frees zs (k + d)
  | 0 => List.prefix_refl _
  | d + 1 => by
    refine (frees_pre zs k d).trans ?_
    rw [← Nat.add_assoc]
    cases h : bitAt zs (k + d)
    · rw [frees_off zs _ h]; exact List.prefix_append _ _
    · rw [frees_on zs _ h]; exact List.prefix_refl _

/-- what a round of the loop's body keeps: the bitmap's box and its words -/
def Kp (Bs g : Nat) (A B : World) : Prop := A.heap.size ≤ B.heap.size ∧ B.heap[Bs]? = A.heap[Bs]? ∧ B.heap[g]? = A.heap[g]?
theorem Kp.refl (Bs g : Nat) (A : World) : Kp Bs g A A := ⟨Nat.le_refl _, rfl, rfl⟩
theorem Kp.trans {Bs g : Nat} {A B C : World} (h : Kp Bs g A B) (k : Kp Bs g B C) : Kp Bs g A C := ⟨Nat.le_trans h.1 k.1, k.2.1.trans h.2.1, k.2.2.trans h.2.2⟩
theorem Kp.below {Bs g N : Nat} {A B : World} (h : Below N A B) (h1 : Bs < N) (h2 : g < N) : Kp Bs g A B := ⟨h.size, h.block _ h1, h.block _ h2⟩
theorem Kp.row {Bs g : Nat} {A B : World} {e : TypeId} {xs : List Value} (h : Kp Bs g A B) (r : RowV A g e xs) : RowV B g e xs := by
  obtain ⟨c, h1, h2⟩ := r
  exact ⟨c, by rw [h.2.2]; exact h1, h2⟩

theorem grown_of_below {A B : World} (h : Below A.heap.size A B) : A.grownBy B none := ⟨h.os, h.tape, h.output, h.size, fun k hk _ => h.block k hk⟩

/-- the box of the bitmap -/
def BoxAt (W : World) (Bs g len cap : Nat) (n : Int) : Prop := W.heap[Bs]? = some (.cells #[.slice (some ⟨g, 0, none⟩) len cap, .int .i64 n] 43 (0, 0))
theorem BoxAt.c0 {W : World} {Bs g len cap : Nat} {n : Int} (h : BoxAt W Bs g len cap n) : W.cell? ⟨Bs, 0, none⟩ = some (.slice (some ⟨g, 0, none⟩) len cap) := by unfold BoxAt at h; simp [World.cell?, h]
theorem BoxAt.c1 {W : World} {Bs g len cap : Nat} {n : Int} (h : BoxAt W Bs g len cap n) : W.cell? ⟨Bs, 1, none⟩ = some (.int .i64 n) := by unfold BoxAt at h; simp [World.cell?, h]
theorem BoxAt.kp {A B : World} {Bs g len cap : Nat} {n : Int} (h : BoxAt A Bs g len cap n) (k : Kp Bs g A B) : BoxAt B Bs g len cap n := k.2.1.trans h
theorem BoxAt.lt {W : World} {Bs g len cap : Nat} {n : Int} (h : BoxAt W Bs g len cap n) : Bs < W.heap.size := lt_of_block h

set_option maxRecDepth 100000 in
set_option maxHeartbeats 2000000 in
theorem free_in (g len cap : Nat) (zs : List Int) (n : Nat) (l Bs m : Nat) (hm : 2 ≤ m) (hn : n ≤ 4096) (hl : zs.length = len) (hln : n ≤ 64 * len) (hw : Wf zs) (J Jx : List Int → World → Prop) (W : World)
    (hJ : AbidesFrom W.heap.size J)
    (hY : ∀ pre x W1, J pre W1 → pre.length < n → YieldAt Fence.wide (m - 1) Try.prog l #[.int .i64 x] W1 fun e W' =>
      (e = .returned (.bool true) ∧ J (pre ++ [x]) W' ∧ Kp Bs g W1 W') ∨ (e = .returned (.bool false) ∧ Jx (pre ++ [x]) W'))
    (hbox : BoxAt W Bs g len cap n) (hrow : RowV W g 45 (U zs)) (h0 : J [] W) :
    CallsIn Fence.wide m Try.prog 38 #[.func (.yield l) #[] #[], .pointer (some ⟨Bs, 0, none⟩)] W fun e W' => (∃ v, e = .returned v) ∧
      ((∃ ys, ys = frees zs n ∧ J ys W') ∨ (∃ pre, (∃ k, k ≤ n ∧ pre = frees zs k) ∧ Jx pre W')) := by
  have HH := hid (fun k W h1 h2 h3 => has_any g len cap k zs n W hl hw h1 h2 h3)
  have HY := hid hY
  have HJ := hid hJ
  have HB := hid (And.intro hbox (And.intro hrow h0))
  have c1 := hbox.c1
  clear hY hJ hbox hrow h0 hl hw
  refine callsIn_of_wp Try.func38 rfl trivial ?_ rfl
  simp only [Try.ntmps38, List.size_toArray, List.length_cons, List.length_nil, Nat.reduceAdd, Nat.reduceSub, Array.replicate_succ, Array.replicate_zero, List.push_toArray, List.append_toArray, List.nil_append, List.cons_append]
  gi_wp2
  gi_loopw [6] (fun i wr => ∃ k : Nat, k ≤ n ∧ i = .int .i64 k ∧ Hid (J (frees zs k) wr) ∧ Hid (Kp Bs g W wr))
    (fun i _ => n - (intOf i).toNat)
  case atStart => exact ⟨0, Nat.zero_le _, rfl, HB.out.2.2, Kp.refl _ _ _⟩
  case round =>
    obtain ⟨k, hk, rfl, hJs, hkp⟩ := hrel
    by_cases hlt : k < n
    · have hc0 := (HB.out.1.kp hkp.out).c0
      have hc1 := (HB.out.1.kp hkp.out).c1
      clear c1
      have hr1 := hkp.out.row HB.out.2.1
      have hgo := hid (callsIn_wide (n := m - 1).2 (HH.out k wr hr1 (by omega) (by omega)))
      clear hr1
      gi_wp2_with fail
      refine ⟨trivial, fun _ => by omega, ?_⟩
      refine hgo.out.mono ?_
      rintro e W2 ⟨rfl, b2⟩
      have J2 := hid (HJ.out _ wr W2 none hJs.out (grown_of_below b2) (fun r e => by cases e))
      have K2 := hid (hkp.out.trans (Kp.below b2 (HB.out.1.kp hkp.out).lt (hkp.out.row HB.out.2.1).lt))
      clear b2
      cases hb : bitAt zs k
      · have hlen : (frees zs k).length < n := Nat.lt_of_le_of_lt (frees_len zs k) hlt
        obtain ⟨fn, tmps, assign, body, hy, hR⟩ := HY.out _ (k : Int) W2 J2.out hlen
        have HF := hid (frees_off zs k hb)
        have HRd := hid hR
        clear hR hlen hb
        gi_wp2
        refine ⟨fun _ => by omega, ?_⟩
        refine HRd.out.mono ?_
        rintro e W3 (⟨rfl, hJ3, hk3⟩ | ⟨rfl, hJx3⟩)
        · have J3 := hid (And.intro hJ3 hk3)
          clear hJ3 hk3 hy
          gi_wp2
          go_roundw
          case rel => exact ⟨k + 1, by omega, by go_num, by rw [HF.out]; exact J3.out.1, K2.out.trans J3.out.2⟩
          case measure => simp [intOf]; omega
        · have J3 := hid hJx3
          clear hJx3 hy
          gi_wp2
          refine bodyPost_ret (results_none rfl _ _ _) rfl ?_
          exact ⟨⟨_, rfl⟩, .inr ⟨_, ⟨k + 1, by omega, HF.out.symm⟩, J3.out⟩⟩
      · have HF := hid (frees_on zs k hb)
        clear hb
        gi_wp2
        refine ⟨fun _ h => (by cases h), ?_⟩
        gi_wp2
        go_roundw
        case rel => exact ⟨k + 1, by omega, by go_num, by rw [HF.out]; exact J2.out, K2.out⟩
        case measure => simp [intOf]; omega
    · have hkn : k = n := by omega
      subst hkn
      gi_wp2
      go_end0
      exact ⟨⟨_, rfl⟩, .inl ⟨_, rfl, hJs.out⟩⟩
end Go.Proofs.Ythcimbocchoehaa
