import Derived.RangeFuncNested
import Derived.RangeFuncBound
import Derived.RangeFuncCalls
import Derived.RangeFuncLeaves
import Derived.Shelf.Abstract
import Derived.Shelf.RegionOpen
import Derived.WalkKit
import Derived.OwnWalkIn
import Derived.TacticsInMore
import Derived.LoopNIn
import Derived.LoopIn
import Derived.BigGuardIn
import Derived.Test.YtamfbplchblkbaaImF
namespace Go.Proofs.Ytamfbplchblkbaa
open Go.RowKit Go.Shelf
set_option linter.unusedVariables false

attribute [local go_sem] Oper.semAt_some

set_option maxHeartbeats 400000 in
theorem pieces_mk (S : Nat) (a n : Int) (w : World) :
    Calls Try.prog 58 #[.pointer (some ⟨S, 0, none⟩), .int .u64 a, .int .i64 n] w fun e w' => e = .returned (.func (.func 73) #[] #[.pointer (some ⟨w.heap.size + 1 + 1, 0, none⟩), .pointer (some ⟨w.heap.size + 1, 0, none⟩), .pointer (some ⟨w.heap.size, 0, none⟩)]) ∧
      w' = ((w.alloc (.cells #[.pointer (some ⟨S, 0, none⟩)] 52)).alloc (.cells #[.int .u64 a] 32)).alloc (.cells #[.int .i64 n] 3) := by
  go_enter Try.func58, Try.ntmps58
  go_wp2
  go_ret
  exact ⟨rfl, rfl⟩

/-- how long the piece at d is -/
def plen (a n d : Nat) : Nat := min ((a + d) % 1024 + n - d) 1024 - (a + d) % 1024
/-- the piece at d, as the loop's body gets it -/
def encP (f : Nat → Option Nat) (a n d : Nat) : Array Value := #[.slice (some ⟨(f ((a + d) / 1024)).getD 0, (a + d) % 1024, none⟩) (plen a n d) (1024 - (a + d) % 1024)]
/-- the pieces' beginnings, up to d -/
inductive Got (a n : Nat) : List { d : Nat // d < n } → Nat → Prop
  | zero : Got a n [] 0
  | next {ys : List { d : Nat // d < n }} {d : Nat} (h : Got a n ys d) (hd : d < n) : Got a n (ys ++ [⟨d, hd⟩]) (d + plen a n d)
theorem plen_pos {a n d : Nat} (h : d < n) : 1 ≤ plen a n d := by unfold plen; omega
theorem plen_le {a n d : Nat} (h : d < n) : d + plen a n d ≤ n := by unfold plen; omega
theorem Got.le {a n : Nat} {ys : List { d : Nat // d < n }} {d : Nat} (h : Got a n ys d) : d ≤ n ∧ ys.length ≤ d := by
  induction h with
  | zero => exact ⟨Nat.zero_le _, Nat.le_refl _⟩
  | next h hd ih =>
    have h1 := plen_pos (a := a) hd
    have h2 := plen_le (a := a) hd
    exact ⟨h2, by simp; omega⟩

/-- what a round of the loop's body keeps: the closure's boxes, the space's box and its map -/
def Kp (S M b : Nat) (A B : World) : Prop := A.heap.size ≤ B.heap.size ∧ ∀ g, g = S ∨ g = M ∨ g = b ∨ g = b + 1 ∨ g = b + 1 + 1 → B.heap[g]? = A.heap[g]?
theorem Kp.refl (S M b : Nat) (A : World) : Kp S M b A A := ⟨Nat.le_refl _, fun _ _ => rfl⟩
theorem Kp.trans {S M b : Nat} {A B C : World} (h : Kp S M b A B) (k : Kp S M b B C) : Kp S M b A C := ⟨Nat.le_trans h.1 k.1, fun g hg => (k.2 g hg).trans (h.2 g hg)⟩
theorem Im.kp {S M b : Nat} {st n bud : Int} {f : Nat → Option Nat} {A B : World} (h : Im S M st n bud f A) (k : Kp S M b A B) : Im S M st n bud f B := by
  obtain ⟨D, ⟨es, clock, hb, r1⟩, r⟩ := h.map
  exact ⟨(k.2 S (by simp)).trans h.box, D, ⟨es, clock, (k.2 M (by simp)).trans hb, r1⟩, r⟩
/-- the closure's boxes -/
structure Cl (S b : Nat) (a n : Int) (W : World) : Prop where
  s : W.heap[b]? = some (.cells #[.pointer (some ⟨S, 0, none⟩)] 52 (0, 0))
  a : W.heap[b + 1]? = some (.cells #[.int .u64 a] 32 (0, 0))
  n : W.heap[b + 1 + 1]? = some (.cells #[.int .i64 n] 3 (0, 0))
theorem Cl.kp {S M b : Nat} {a n : Int} {A B : World} (h : Cl S b a n A) (k : Kp S M b A B) : Cl S b a n B :=
  ⟨(k.2 b (by simp)).trans h.s, (k.2 (b + 1) (by simp)).trans h.a, (k.2 (b + 1 + 1) (by simp)).trans h.n⟩
theorem Cl.c {S b : Nat} {a n : Int} {W : World} (h : Cl S b a n W) : W.cell? ⟨b, 0, none⟩ = some (.pointer (some ⟨S, 0, none⟩)) ∧ W.cell? ⟨b + 1, 0, none⟩ = some (.int .u64 a) ∧ W.cell? ⟨b + 1 + 1, 0, none⟩ = some (.int .i64 n) := by
  have h1 := h.s
  have h2 := h.a
  have h3 := h.n
  refine ⟨by simp [World.cell?, h1], by simp [World.cell?, h2], by simp [World.cell?, h3]⟩

theorem und83 : Try.prog.underlying 83 = some (.array 1024 5) := by kernel_rfl
theorem info5 : (Try.prog.info? 5).map (fun i => i.size) = some 1 := by kernel_rfl
theorem slice83 (g : Nat) (l h : Int) (w : World) (h0 : 0 ≤ l) (h1 : l < 1024) (h2 : l ≤ h) (h3 : h ≤ 1024) :
    (Instr.sliceAt 83 (.pointer (some ⟨g, 0, none⟩)) (some (.int .i64 l)) (some (.int .i64 h)) none).run Try.prog w = .ok (.slice (some ⟨g, l.toNat, none⟩) (h.toNat - l.toNat) (1024 - l.toNat)) w := by
  have e1 : Try.prog.arrayLen 83 = 1024 := by kernel_rfl
  have h4 : h ≤ (Try.prog.arrayLen 83 : Int) := by rw [e1]; exact h3
  have e2 : (sizeOf (Try.prog.elem 83)).run Try.prog w = .ok 1 w := by kernel_rfl
  rw [run_sliceAt_array_lh w 83 _ (by kernel_rfl) _ _ l h h0 h2 h4, e2]
  show Result.ok (slicedAt ⟨g, 0, none⟩ l.toNat h.toNat (Try.prog.arrayLen 83) 1) w = _
  rw [e1]
  unfold slicedAt
  rw [if_neg (by omega)]
  simp [Addr.add]
  omega
theorem slice_at (g a n d : Nat) (E : Int) (w : World) (hd : d < n) (hE : E = min (((a : Int) + (d : Int)) % 1024 + (n : Int) - (d : Int)) 1024) :
    (Instr.sliceAt 83 (.pointer (some ⟨g, 0, none⟩)) (some (.int .i64 (((a : Int) + (d : Int)) % 1024))) (some (.int .i64 E)) none).run Try.prog w = .ok (.slice (some ⟨g, (a + d) % 1024, none⟩) (plen a n d) (1024 - (a + d) % 1024)) w := by
  have e1 : (((a : Int) + (d : Int)) % 1024).toNat = (a + d) % 1024 := by omega
  have e2 : E.toNat - (a + d) % 1024 = plen a n d := by unfold plen; omega
  rw [slice83 g _ E w (by omega) (by omega) (by omega) (by omega), e1, e2]

set_option maxRecDepth 100000 in
set_option maxHeartbeats 2000000 in
theorem pieces_in (S M : Nat) (st nn bud : Int) (f : Nat → Option Nat) (a n : Nat) (l b m : Nat) (hm : 2 ≤ m) (hn : n ≤ 4096) (ha : n = 0 ∨ a + n ≤ 4611686018427387904) (hpg : ∀ d, d < n → ∃ g, f ((a + d) / 1024) = some g) (J Jx : List { d : Nat // d < n } → World → Prop) (W : World)
    (hJ : AbidesFrom W.heap.size J)
    (hY : ∀ pre (x : { d : Nat // d < n }) W1, J pre W1 → pre.length < n → YieldAt Fence.wide (m - 1) Try.prog l (encP f a n x.1) W1 fun e W' =>
      (e = .returned (.bool true) ∧ J (pre ++ [x]) W' ∧ Kp S M b W1 W') ∨ (e = .returned (.bool false) ∧ Jx (pre ++ [x]) W'))
    (hcl : Cl S b a n W) (him : Im S M st nn bud f W) (h0 : J [] W) :
    CallsIn Fence.wide m Try.prog 73 #[.func (.yield l) #[] #[], .pointer (some ⟨b + 1 + 1, 0, none⟩), .pointer (some ⟨b + 1, 0, none⟩), .pointer (some ⟨b, 0, none⟩)] W fun e W' => (∃ v, e = .returned v) ∧
      ((∃ ys, Got a n ys n ∧ J ys W') ∨ (∃ pre, (∃ d, Got a n pre d) ∧ Jx pre W')) := by
  have HY := hid hY
  have HB := hid (And.intro hcl (And.intro him h0))
  have HP := hid hpg
  clear hY hJ hcl him h0 hpg
  refine callsIn_of_wp Try.func73 rfl trivial ?_ rfl
  simp only [Try.ntmps73, List.size_toArray, List.length_cons, List.length_nil, Nat.reduceAdd, Nat.reduceSub, Array.replicate_succ, Array.replicate_zero, List.push_toArray, List.append_toArray, List.nil_append, List.cons_append]
  gi_wp2
  gi_loopw [5] (fun i wr => ∃ (d : Nat) (ys : List { d : Nat // d < n }), d ≤ n ∧ i = .int .i64 d ∧ Hid (Got a n ys d) ∧ Hid (J ys wr) ∧ Hid (Kp S M b W wr))
    (fun i _ => n - (intOf i).toNat)
  case atStart => exact ⟨0, [], Nat.zero_le _, rfl, Got.zero, HB.out.2.2, Kp.refl _ _ _ _⟩
  case round =>
    obtain ⟨d, ys, hd, rfl, hgot, hJs, hkp⟩ := hrel
    obtain ⟨c0, c1, c2⟩ := (HB.out.1.kp hkp.out).c
    have him := HB.out.2.1.kp hkp.out
    obtain ⟨_, _, _, c4⟩ := him.c
    by_cases hlt : d < n
    · obtain ⟨g, hg⟩ := HP.out d hlt
      have hrun := him.look ((a + d) / 1024) (by omega)
      rw [hg] at hrun
      simp only [Option.map_some] at hrun
      have ec : (((a + d) / 1024 : Nat) : Int) = ((a : Int) + (d : Int)) / 1024 := by omega
      rw [ec] at hrun
      clear ec him
      have hlen : ys.length < n := Nat.lt_of_le_of_lt hgot.out.le.2 hlt
      obtain ⟨fn, tmps, assign, body, hy, hR⟩ := HY.out ys ⟨d, hlt⟩ wr hJs.out hlen
      unfold encP at hy
      rw [hg] at hy
      simp only [Option.getD_some] at hy
      have HR := hid hR
      have HN := hid (And.intro (hgot.out.next hlt) (And.intro (plen_pos (a := a) hlt) (plen_le (a := a) hlt)))
      clear hR hlen hg
      by_cases hmin : ((a : Int) + (d : Int)) % 1024 + (n : Int) - (d : Int) ≤ 1024
      · have hsl := slice_at g a n d _ wr hlt (by rw [Int.min_eq_left hmin])
        have HE := hid (show (d : Int) + (((a : Int) + (d : Int)) % 1024 + (n : Int) - (d : Int) - ((a : Int) + (d : Int)) % 1024) = ((d + plen a n d : Nat) : Int) by unfold plen; omega)
        generalize plen a n d = pl at *
        gi_wp2
        refine ⟨fun _ => by omega, ?_⟩
        refine HR.out.mono ?_
        rintro e W3 (⟨rfl, hJ3, hk3⟩ | ⟨rfl, hJx3⟩)
        · have J3 := hid (And.intro hJ3 (hkp.out.trans hk3))
          clear hJ3 hk3 hy
          gi_wp2
          go_roundw
          case rel => exact ⟨d + pl, ys ++ [⟨d, hlt⟩], HN.out.2.2, int_cast HE.out, hid HN.out.1, hid J3.out.1, hid J3.out.2⟩
          case measure =>
            have h1 := HN.out.2.1
            have h2 := HE.out
            simp only [intOf]
            omega
        · have J3 := hid hJx3
          clear hJx3 hy
          gi_wp2
          refine bodyPost_ret (results_none rfl _ _ _) rfl ?_
          exact ⟨⟨_, rfl⟩, .inr ⟨_, ⟨_, HN.out.1⟩, J3.out⟩⟩
      · have hsl := slice_at g a n d 1024 wr hlt (by rw [Int.min_eq_right (by omega)])
        have HE := hid (show (d : Int) + (1024 - ((a : Int) + (d : Int)) % 1024) = ((d + plen a n d : Nat) : Int) by unfold plen; omega)
        generalize plen a n d = pl at *
        gi_wp2
        refine ⟨fun _ => by omega, ?_⟩
        refine HR.out.mono ?_
        rintro e W3 (⟨rfl, hJ3, hk3⟩ | ⟨rfl, hJx3⟩)
        · have J3 := hid (And.intro hJ3 (hkp.out.trans hk3))
          clear hJ3 hk3 hy
          gi_wp2
          go_roundw
          case rel => exact ⟨d + pl, ys ++ [⟨d, hlt⟩], HN.out.2.2, int_cast HE.out, hid HN.out.1, hid J3.out.1, hid J3.out.2⟩
          case measure =>
            have h1 := HN.out.2.1
            have h2 := HE.out
            simp only [intOf]
            omega
        · have J3 := hid hJx3
          clear hJx3 hy
          gi_wp2
          refine bodyPost_ret (results_none rfl _ _ _) rfl ?_
          exact ⟨⟨_, rfl⟩, .inr ⟨_, ⟨_, HN.out.1⟩, J3.out⟩⟩
    · have hdn : d = n := by omega
      subst hdn
      gi_wp2
      go_end0
      exact ⟨⟨_, rfl⟩, .inl ⟨_, hgot.out, hJs.out⟩⟩
end Go.Proofs.Ytamfbplchblkbaa
