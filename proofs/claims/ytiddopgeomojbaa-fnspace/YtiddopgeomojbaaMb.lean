import Derived.RangeFuncNested
import Derived.RangeFuncBound
import Derived.RangeFuncCalls
import Derived.RangeFuncLeaves
import Derived.Shelf.Abstract
import Derived.Shelf.RegionOpen
import Derived.WalkKit
import Derived.OwnWalkIn
import Derived.TacticsInMore
import Derived.LoopNIn
import Derived.LoopIn
import Derived.BigGuardIn
import Derived.Test.YtiddopgeomojbaaMa
namespace Go.Proofs.Ytiddopgeomojbaa
open Go.RowKit Go.Shelf
set_option linter.unusedVariables false

attribute [local go_sem] Oper.semAt_some

set_option maxHeartbeats 400000 in
theorem pieces_mk (S : Nat) (a n : Int) (w : World) :
    Calls Try.prog 58 #[.pointer (some ⟨S, 0, none⟩), .int .u64 a, .int .i64 n] w fun e w' => e = .returned (.func (.func 73) #[] #[.pointer (some ⟨w.heap.size + 1 + 1, 0, none⟩), .pointer (some ⟨w.heap.size + 1, 0, none⟩), .pointer (some ⟨w.heap.size, 0, none⟩)]) ∧
      w' = ((w.alloc (.cells #[.pointer (some ⟨S, 0, none⟩)] 52)).alloc (.cells #[.int .u64 a] 32)).alloc (.cells #[.int .i64 n] 3) := by
  go_enter Try.func58, Try.ntmps58
  go_wp2
  go_ret
  exact ⟨rfl, rfl⟩

/-- how long the piece at d is -/
def plen (a n d : Nat) : Nat := min ((a + d) % 1024 + n - d) 1024 - (a + d) % 1024
/-- the piece at d, as the loop's body gets it -/
def encP (f : Nat → Option Nat) (a n d : Nat) : Array Value := #[.slice (some ⟨(f ((a + d) / 1024)).getD 0, (a + d) % 1024, none⟩) (plen a n d) (1024 - (a + d) % 1024)]
/-- the pieces' beginnings, up to d -/
inductive Got (a n : Nat) : List { d : Nat // d < n } → Nat → Prop
  | zero : Got a n [] 0
  | next {ys : List { d : Nat // d < n }} {d : Nat} (h : Got a n ys d) (hd : d < n) : Got a n (ys ++ [⟨d, hd⟩]) (d + plen a n d)
theorem plen_pos {a n d : Nat} (h : d < n) : 1 ≤ plen a n d := by unfold plen; omega
theorem plen_le {a n d : Nat} (h : d < n) : d + plen a n d ≤ n := by unfold plen; omega
theorem Got.le {a n : Nat} {ys : List { d : Nat // d < n }} {d : Nat} (h : Got a n ys d) : d ≤ n ∧ ys.length ≤ d := by
  induction h with
  | zero => exact ⟨Nat.zero_le _, Nat.le_refl _⟩
  | next h hd ih =>
    have h1 := plen_pos (a := a) hd
    have h2 := plen_le (a := a) hd
    exact ⟨h2, by simp; omega⟩

/-- what a round of the loop's body keeps: the closure's boxes, the space's box and its map -/
def Kp (S M b : Nat) (A B : World) : Prop := A.heap.size ≤ B.heap.size ∧ ∀ g, g = S ∨ g = M ∨ g = b ∨ g = b + 1 ∨ g = b + 1 + 1 → B.heap[g]? = A.heap[g]?
theorem Kp.refl (S M b : Nat) (A : World) : Kp S M b A A := ⟨Nat.le_refl _, fun _ _ => rfl⟩
theorem Kp.trans {S M b : Nat} {A B C : World} (h : Kp S M b A B) (k : Kp S M b B C) : Kp S M b A C := ⟨Nat.le_trans h.1 k.1, fun g hg => (k.2 g hg).trans (h.2 g hg)⟩
theorem Im.kp {S M b : Nat} {st n bud : Int} {f : Nat → Option Nat} {A B : World} (h : Im S M st n bud f A) (k : Kp S M b A B) : Im S M st n bud f B := by
  obtain ⟨D, ⟨es, clock, hb, r1⟩, r⟩ := h.map
  exact ⟨(k.2 S (by simp)).trans h.box, D, ⟨es, clock, (k.2 M (by simp)).trans hb, r1⟩, r⟩
/-- the closure's boxes -/
structure Cl (S b : Nat) (a n : Int) (W : World) : Prop where
  s : W.heap[b]? = some (.cells #[.pointer (some ⟨S, 0, none⟩)] 52 (0, 0))
  a : W.heap[b + 1]? = some (.cells #[.int .u64 a] 32 (0, 0))
  n : W.heap[b + 1 + 1]? = some (.cells #[.int .i64 n] 3 (0, 0))
theorem Cl.kp {S M b : Nat} {a n : Int} {A B : World} (h : Cl S b a n A) (k : Kp S M b A B) : Cl S b a n B :=
  ⟨(k.2 b (by simp)).trans h.s, (k.2 (b + 1) (by simp)).trans h.a, (k.2 (b + 1 + 1) (by simp)).trans h.n⟩
theorem Cl.c {S b : Nat} {a n : Int} {W : World} (h : Cl S b a n W) : W.cell? ⟨b, 0, none⟩ = some (.pointer (some ⟨S, 0, none⟩)) ∧ W.cell? ⟨b + 1, 0, none⟩ = some (.int .u64 a) ∧ W.cell? ⟨b + 1 + 1, 0, none⟩ = some (.int .i64 n) := by
  have h1 := h.s
  have h2 := h.a
  have h3 := h.n
  refine ⟨by simp [World.cell?, h1], by simp [World.cell?, h2], by simp [World.cell?, h3]⟩

theorem und83 : Try.prog.underlying 83 = some (.array 1024 5) := by kernel_rfl
theorem info5 : (Try.prog.info? 5).map (fun i => i.size) = some 1 := by kernel_rfl
theorem slice83 (g : Nat) (l h : Int) (w : World) (h0 : 0 ≤ l) (h1 : l < 1024) (h2 : l ≤ h) (h3 : h ≤ 1024) :
    (Instr.sliceAt 83 (.pointer (some ⟨g, 0, none⟩)) (some (.int .i64 l)) (some (.int .i64 h)) none).run Try.prog w = .ok (.slice (some ⟨g, l.toNat, none⟩) (h.toNat - l.toNat) (1024 - l.toNat)) w := by
  have e1 : Try.prog.arrayLen 83 = 1024 := by kernel_rfl
  have h4 : h ≤ (Try.prog.arrayLen 83 : Int) := by rw [e1]; exact h3
  have e2 : (sizeOf (Try.prog.elem 83)).run Try.prog w = .ok 1 w := by kernel_rfl
  rw [run_sliceAt_array_lh w 83 _ (by kernel_rfl) _ _ l h h0 h2 h4, e2]
  show Result.ok (slicedAt ⟨g, 0, none⟩ l.toNat h.toNat (Try.prog.arrayLen 83) 1) w = _
  rw [e1]
  unfold slicedAt
  rw [if_neg (by omega)]
  simp [Addr.add]
  omega
theorem slice_at (g a n d : Nat) (E : Int) (w : World) (hd : d < n) (hE : E = min (((a : Int) + (d : Int)) % 1024 + (n : Int) - (d : Int)) 1024) :
    (Instr.sliceAt 83 (.pointer (some ⟨g, 0, none⟩)) (some (.int .i64 (((a : Int) + (d : Int)) % 1024))) (some (.int .i64 E)) none).run Try.prog w = .ok (.slice (some ⟨g, (a + d) % 1024, none⟩) (plen a n d) (1024 - (a + d) % 1024)) w := by
  have e1 : (((a : Int) + (d : Int)) % 1024).toNat = (a + d) % 1024 := by omega
  have e2 : E.toNat - (a + d) % 1024 = plen a n d := by unfold plen; omega
  rw [slice83 g _ E w (by omega) (by omega) (by omega) (by omega), e1, e2]

set_option maxRecDepth 100000 in
set_option maxHeartbeats 2000000 in
theorem pieces_in (S M : Nat) (st nn bud : Int) (f : Nat → Option Nat) (a n : Nat) (l b m : Nat) (hm : 2 ≤ m) (hn : n ≤ 4096) (ha : n = 0 ∨ a + n ≤ 4611686018427387904) (hpg : ∀ d, d < n → ∃ g, f ((a + d) / 1024) = some g) (J Jx : List { d : Nat // d < n } → World → Prop) (W : World)
    (hJ : AbidesFrom W.heap.size J)
    (hY : ∀ pre (x : { d : Nat // d < n }) W1, J pre W1 → pre.length < n → YieldAt Fence.wide (m - 1) Try.prog l (encP f a n x.1) W1 fun e W' =>
      (e = .returned (.bool true) ∧ J (pre ++ [x]) W' ∧ Kp S M b W1 W') ∨ (e = .returned (.bool false) ∧ Jx (pre ++ [x]) W'))
    (hcl : Cl S b a n W) (him : Im S M st nn bud f W) (h0 : J [] W) :
    CallsIn Fence.wide m Try.prog 73 #[.func (.yield l) #[] #[], .pointer (some ⟨b + 1 + 1, 0, none⟩), .pointer (some ⟨b + 1, 0, none⟩), .pointer (some ⟨b, 0, none⟩)] W fun e W' => (∃ v, e = .returned v) ∧
      ((∃ ys, Got a n ys n ∧ J ys W') ∨ (∃ pre, (∃ d, Got a n pre d) ∧ Jx pre W')) := by
  have HY := hid hY
  have HB := hid (And.intro hcl (And.intro him h0))
  have HP := hid hpg
  clear hY hJ hcl him h0 hpg
  refine callsIn_of_wp Try.func73 rfl trivial ?_ rfl
  simp only [Try.ntmps73, List.size_toArray, List.length_cons, List.length_nil, Nat.reduceAdd, Nat.reduceSub, Array.replicate_succ, Array.replicate_zero, List.push_toArray, List.append_toArray, List.nil_append, List.cons_append]
  gi_wp2
  gi_loopw [5] (fun i wr => ∃ (d : Nat) (ys : List { d : Nat // d < n }), d ≤ n ∧ i = .int .i64 d ∧ Hid (Got a n ys d) ∧ Hid (J ys wr) ∧ Hid (Kp S M b W wr))
    (fun i _ => n - (intOf i).toNat)
  case atStart => exact ⟨0, [], Nat.zero_le _, rfl, Got.zero, HB.out.2.2, Kp.refl _ _ _ _⟩
  case round =>
    obtain ⟨d, ys, hd, rfl, hgot, hJs, hkp⟩ := hrel
    obtain ⟨c0, c1, c2⟩ := (HB.out.1.kp hkp.out).c
    have him := HB.out.2.1.kp hkp.out
    obtain ⟨_, _, _, c4⟩ := him.c
    by_cases hlt : d < n
    · obtain ⟨g, hg⟩ := HP.out d hlt
      have hrun := him.look ((a + d) / 1024) (by omega)
      rw [hg] at hrun
      simp only [Option.map_some] at hrun
      have ec : (((a + d) / 1024 : Nat) : Int) = ((a : Int) + (d : Int)) / 1024 := by omega
      rw [ec] at hrun
      clear ec him
      have hlen : ys.length < n := Nat.lt_of_le_of_lt hgot.out.le.2 hlt
      obtain ⟨fn, tmps, assign, body, hy, hR⟩ := HY.out ys ⟨d, hlt⟩ wr hJs.out hlen
      unfold encP at hy
      rw [hg] at hy
      simp only [Option.getD_some] at hy
      have HR := hid hR
      have HN := hid (And.intro (hgot.out.next hlt) (And.intro (plen_pos (a := a) hlt) (plen_le (a := a) hlt)))
      clear hR hlen hg
      by_cases hmin : ((a : Int) + (d : Int)) % 1024 + (n : Int) - (d : Int) ≤ 1024
      · have hsl := slice_at g a n d _ wr hlt (by rw [Int.min_eq_left hmin])
        have HE := hid (show (d : Int) + (((a : Int) + (d : Int)) % 1024 + (n : Int) - (d : Int) - ((a : Int) + (d : Int)) % 1024) = ((d + plen a n d : Nat) : Int) by unfold plen; omega)
        generalize plen a n d = pl at *
        gi_wp2
        refine ⟨fun _ => by omega, ?_⟩
        refine HR.out.mono ?_
        rintro e W3 (⟨rfl, hJ3, hk3⟩ | ⟨rfl, hJx3⟩)
        · have J3 := hid (And.intro hJ3 (hkp.out.trans hk3))
          clear hJ3 hk3 hy
          gi_wp2
          go_roundw
          case rel => exact ⟨d + pl, ys ++ [⟨d, hlt⟩], HN.out.2.2, int_cast HE.out, hid HN.out.1, hid J3.out.1, hid J3.out.2⟩
          case measure =>
            have h1 := HN.out.2.1
            have h2 := HE.out
            simp only [intOf]
            omega
        · have J3 := hid hJx3
          clear hJx3 hy
          gi_wp2
          refine bodyPost_ret (results_none rfl _ _ _) rfl ?_
          exact ⟨⟨_, rfl⟩, .inr ⟨_, ⟨_, HN.out.1⟩, J3.out⟩⟩
      · have hsl := slice_at g a n d 1024 wr hlt (by rw [Int.min_eq_right (by omega)])
        have HE := hid (show (d : Int) + (1024 - ((a : Int) + (d : Int)) % 1024) = ((d + plen a n d : Nat) : Int) by unfold plen; omega)
        generalize plen a n d = pl at *
        gi_wp2
        refine ⟨fun _ => by omega, ?_⟩
        refine HR.out.mono ?_
        rintro e W3 (⟨rfl, hJ3, hk3⟩ | ⟨rfl, hJx3⟩)
        · have J3 := hid (And.intro hJ3 (hkp.out.trans hk3))
          clear hJ3 hk3 hy
          gi_wp2
          go_roundw
          case rel => exact ⟨d + pl, ys ++ [⟨d, hlt⟩], HN.out.2.2, int_cast HE.out, hid HN.out.1, hid J3.out.1, hid J3.out.2⟩
          case measure =>
            have h1 := HN.out.2.1
            have h2 := HE.out
            simp only [intOf]
            omega
        · have J3 := hid hJx3
          clear hJx3 hy
          gi_wp2
          refine bodyPost_ret (results_none rfl _ _ _) rfl ?_
          exact ⟨⟨_, rfl⟩, .inr ⟨_, ⟨_, HN.out.1⟩, J3.out⟩⟩
    · have hdn : d = n := by omega
      subst hdn
      gi_wp2
      go_end0
      exact ⟨⟨_, rfl⟩, .inl ⟨_, hgot.out, hJs.out⟩⟩
end Go.Proofs.Ytiddopgeomojbaa

namespace Go.Proofs.Ytiddopgeomojbaa
open Go.RowKit Go.Shelf
set_option linter.unusedVariables false

attribute [local go_sem] Oper.semAt_some

/-- the pages first .. first + k - 1 are gone -/
def goneM (m : Nat → Option (Bool × List Int)) (first : Nat) : Nat → (Nat → Option (Bool × List Int))
  | 0 => m
  | k + 1 => updM (goneM m first k) (first + k) none
theorem Pg.drop {f : Nat → Option Nat} {m : Nat → Option (Bool × List Int)} {W : World} (h : Pg f m W) (k : Nat) : Pg (upd f k none) (updM m k none) W := by
  constructor
  · intro j
    by_cases e : j = k
    · subst e
      exact .inl ⟨upd_same _ _ _, updM_same _ _ _⟩
    · rw [updM_other m k j _ e, upd_other f k j _ e]
      exact h.at' j
  · intro i j b ei ej
    by_cases e : i = k
    · subst e; rw [upd_same] at ei; cases ei
    · by_cases e2 : j = k
      · subst e2; rw [upd_same] at ej; cases ej
      · rw [upd_other f k i _ e] at ei
        rw [upd_other f k j _ e2] at ej
        exact h.inj i j b ei ej
theorem Pg.without {f : Nat → Option Nat} {m : Nat → Option (Bool × List Int)} {W : World} (h : Pg f m W) (first : Nat) : ∀ k, Pg (without f first k) (goneM m first k) W
  | 0 => h
  | k + 1 => (Pg.without h first k).drop (first + k)
theorem Pg.turned {f : Nat → Option Nat} {m : Nat → Option (Bool × List Int)} {W W' : World} {M : Nat} (h : Pg f m W) (hM : ∀ k b, f k = some b → b ≠ M) (ht : W.mapTurned W' M) : Pg f m W' := by
  refine ⟨?_, h.inj⟩
  intro j
  rcases h.at' j with h1 | ⟨b, l, xs, h1, h2, h3, h4⟩
  · exact .inl h1
  · exact .inr ⟨b, l, xs, h1, h2, h3, by rw [turned_other ht (hM j b h1)]; exact h4⟩
theorem without_some {f : Nat → Option Nat} {first : Nat} : ∀ {k j b : Nat}, without f first k j = some b → f j = some b
  | 0, _, _, h => h
  | k + 1, j, b, h => by
    simp only [without] at h
    by_cases e : j = first + k
    · subst e; rw [upd_same] at h; cases h
    · rw [upd_other _ _ _ _ e] at h
      exact without_some h
theorem Fr.without {S M : Nat} {f : Nat → Option Nat} {W W' : World} (first k : Nat) (ht : W.mapTurned W' M) : Fr S M f (without f first k) W W' := by
  have h := (Fr.refl S M f W).turned ht
  exact ⟨h.os, h.tape, h.output, h.size, h.block, fun j g e => .inl ⟨j, without_some e⟩⟩

theorem decommit_all (S M : Nat) (st n bud : Int) (f : Nat → Option Nat) (m : Nat → Option (Bool × List Int)) (first count : Nat) (w : World) (h : Im S M st n bud f w) (hp : Pg f m w) (hn : 0 ≤ n) (hn' : n ≤ 4096) (hin : insideB n first count = true) (hall : heldN f first count = count) :
    Calls Try.prog 39 #[.pointer (some ⟨S, 0, none⟩), .int .i64 first, .int .i64 count] w fun e w' => e = .returned (.int .i64 0) ∧ ∃ f', Im S M st n bud f' w' ∧ Pg f' (goneM m first count) w' ∧ Fr S M f f' w w' := by
  refine (decommit_yes S M st n bud f first count w h hn hn' hin hall).mono ?_
  rintro e w' ⟨rfl, h1, h2⟩
  exact ⟨rfl, _, h1, (hp.without first count).turned (fun k b e => (hp.apart h (without_some e)).2) h2, Fr.without first count h2⟩

set_option maxHeartbeats 400000 in
theorem load_no (S : Nat) (a n c : Int) (w : World) (hc : (c != 0) = true) (h : ∀ w, Calls Try.prog 57 #[.pointer (some ⟨S, 0, none⟩), .int .u64 a, .int .i64 n] w fun e w' => e = .returned (.int .i64 c) ∧ w' = w) :
    Calls Try.prog 41 #[.pointer (some ⟨S, 0, none⟩), .int .u64 a, .int .i64 n] w fun e w' => e = .returned (.agg #[.int .i64 c, .slice none 0 0]) ∧ w' = w.alloc (.cells #[.int .i64 c, .slice none 0 0] 36) := by
  have H1 := hid h
  clear h
  go_enter Try.func41, Try.ntmps41
  go_wp2_with fail
  refine (H1.out _).mono ?_
  rintro _ _ ⟨rfl, rfl⟩
  go_wp2_with fail
  refine bodyPost_ret (v := .agg #[.int .i64 c, .slice none 0 0]) (by simp [results, Try.results41, go_sem]) rfl ⟨rfl, rfl⟩
end Go.Proofs.Ytiddopgeomojbaa

namespace Go.Proofs.Ytiddopgeomojbaa
open Go.RowKit Go.Shelf
set_option linter.unusedVariables false

/-- a byte of the pages -/
def byteAt (m : Nat → Option (Bool × List Int)) (p : Nat) : Int := ((((m (p / 1024)).map fun q => q.2).getD [])[p % 1024]?).getD 0
/-- the bytes of a piece -/
def pieceB (m : Nat → Option (Bool × List Int)) (a n d : Nat) : List Int := (List.range (plen a n d)).map fun i => byteAt m (a + (d + i))
/-- the bytes of the pieces -/
def piecesB (m : Nat → Option (Bool × List Int)) (a n : Nat) (ys : List { d : Nat // d < n }) : List Int := ys.flatMap fun x => pieceB m a n x.1
theorem piecesB_snoc (m : Nat → Option (Bool × List Int)) (a n : Nat) (ys : List { d : Nat // d < n }) (x : { d : Nat // d < n }) : piecesB m a n (ys ++ [x]) = piecesB m a n ys ++ pieceB m a n x.1 := by
  simp [piecesB, List.flatMap_append]
theorem pieceB_len (m : Nat → Option (Bool × List Int)) (a n d : Nat) : (pieceB m a n d).length = plen a n d := by simp [pieceB]
theorem plen_top (a n d : Nat) : plen a n d ≤ 1024 := by unfold plen; omega
theorem piecesB_len (m : Nat → Option (Bool × List Int)) (a n : Nat) : ∀ ys : List { d : Nat // d < n }, (piecesB m a n ys).length ≤ 1024 * ys.length
  | [] => by simp [piecesB]
  | x :: ys => by
    have h1 := piecesB_len m a n ys
    have h2 := plen_top a n x.1
    have h3 : piecesB m a n (x :: ys) = pieceB m a n x.1 ++ piecesB m a n ys := by simp [piecesB]
    rw [h3, List.length_append, pieceB_len, List.length_cons]
    omega
theorem Got.bytes {m : Nat → Option (Bool × List Int)} {a n : Nat} {ys : List { d : Nat // d < n }} {d : Nat} (h : Got a n ys d) : piecesB m a n ys = (List.range d).map fun i => byteAt m (a + i) := by
  induction h with
  | zero => rfl
  | next h hd ih =>
    rw [piecesB_snoc, ih, List.range_add, List.map_append]
    simp [pieceB]

/-- what holds while a load goes on: R the result's box, DB the box of the data -/
structure Ld (S M : Nat) (st nn bud : Int) (f : Nat → Option Nat) (m : Nat → Option (Bool × List Int)) (w : World) (R DB : Nat) (v : Value) (W : World) : Prop where
  im : Im S M st nn bud f W
  pg : Pg f m W
  fr : Fr S M f f w W
  res : W.heap[R]? = some (.cells #[.int .i64 0, .slice none 0 0] 36 (0, 0))
  box : W.heap[DB]? = some (.cells #[v] 22 (0, 0))
  mlt : M < w.heap.size
  rge : w.heap.size ≤ R
  dge : w.heap.size ≤ DB

theorem Ld.keep {S M : Nat} {st nn bud : Int} {f : Nat → Option Nat} {m : Nat → Option (Bool × List Int)} {w W W' : World} {R DB : Nat} {v : Value} {row : Option Nat} (h : Ld S M st nn bud f m w R DB v W) (hg : W.grownBy W' row)
    (hr : ∀ r, row = some r → w.heap.size ≤ r ∧ ∀ c t z, W.heap[r]? = some (.cells c t z) → t = 5) : Ld S M st nn bud f m w R DB v W' := by
  have hc : ∀ (b : Nat) (c : Array Value) (t : TypeId) (z : Nat × Nat), W.heap[b]? = some (Obj.cells c t z) → t ≠ 5 → W'.heap[b]? = some (Obj.cells c t z) := by
    intro b c t z hb ht
    rw [hg.block b (lt_of_block hb) (fun e => ht ((hr b e.symm).2 c t z hb))]
    exact hb
  have hM : W'.heap[M]? = W.heap[M]? := hg.block M (Nat.lt_of_lt_of_le h.mlt h.fr.size) (fun e => by have := (hr M e.symm).1; have := h.mlt; omega)
  refine ⟨⟨hc _ _ _ _ h.im.box (by decide), ?_⟩, ⟨?_, h.pg.inj⟩, ?_, hc _ _ _ _ h.res (by decide), hc _ _ _ _ h.box (by decide), h.mlt, h.rge, h.dge⟩
  · obtain ⟨D, ⟨es, clock, hb, r1⟩, r⟩ := h.im.map
    exact ⟨D, ⟨es, clock, hM.trans hb, r1⟩, r⟩
  · intro j
    rcases h.pg.at' j with h1 | ⟨b, l, xs, h1, h2, h3, h4⟩
    · exact .inl h1
    · exact .inr ⟨b, l, xs, h1, h2, h3, hc _ _ _ _ h4 (by decide)⟩
  · refine ⟨hg.os.trans h.fr.os, hg.tape.trans h.fr.tape, hg.output.trans h.fr.output, Nat.le_trans h.fr.size hg.size, ?_, h.fr.made⟩
    intro g h0 h1 h2 h3
    rw [hg.block g (Nat.lt_of_lt_of_le h0 h.fr.size) (fun e => by have := (hr g e.symm).1; omega)]
    exact h.fr.block g h0 h1 h2 h3

theorem Ld.store {S M : Nat} {st nn bud : Int} {f : Nat → Option Nat} {m : Nat → Option (Bool × List Int)} {w W : World} {R DB : Nat} {v : Value} (h : Ld S M st nn bud f m w R DB v W) (v' : Value) : Ld S M st nn bud f m w R DB v' (W.setCell ⟨DB, 0, none⟩ v') := by
  have hc : ∀ (b : Nat) (c : Array Value) (t : TypeId) (z : Nat × Nat), W.heap[b]? = some (Obj.cells c t z) → t ≠ 22 → (W.setCell ⟨DB, 0, none⟩ v').heap[b]? = some (Obj.cells c t z) := by
    intro b c t z hb ht
    rw [Below.heap_setCell _ _ _ _ ?_]
    · exact hb
    · intro e
      simp at e
      subst e
      rw [h.box] at hb
      cases hb
      exact ht rfl
  have hne : DB ≠ S ∧ DB ≠ M := by
    constructor
    · intro e; subst e; have h1 := h.box; rw [h.im.box] at h1; simp at h1
    · have := h.mlt; have := h.dge; omega
  refine ⟨h.im.setCell (p := ⟨DB, 0, none⟩) hne.1 hne.2 v', ⟨?_, h.pg.inj⟩, ?_, hc _ _ _ _ h.res (by decide), ?_, h.mlt, h.rge, h.dge⟩
  · intro j
    rcases h.pg.at' j with h1 | ⟨b, l, xs, h1, h2, h3, h4⟩
    · exact .inl h1
    · exact .inr ⟨b, l, xs, h1, h2, h3, hc _ _ _ _ h4 (by decide)⟩
  · refine ⟨h.fr.os, h.fr.tape, h.fr.output, by simp [World.setCell]; exact h.fr.size, ?_, h.fr.made⟩
    intro g h0 h1 h2 h3
    rw [Below.heap_setCell _ _ _ _ ?_]
    · exact h.fr.block g h0 h1 h2 h3
    · intro e
      simp at e
      have := h.dge
      omega
  · rw [heap_set_at h.box]
    rfl
theorem Ld.cells {S M : Nat} {st nn bud : Int} {f : Nat → Option Nat} {m : Nat → Option (Bool × List Int)} {w W : World} {R DB : Nat} {v : Value} (h : Ld S M st nn bud f m w R DB v W) :
    W.cell? ⟨DB, 0, none⟩ = some v ∧ W.frozen? ⟨DB, 0, none⟩ = false ∧ W.cell? ⟨R, 0, none⟩ = some (.int .i64 0) ∧ W.cell? ⟨R, 1, none⟩ = some (.slice none 0 0) ∧ W.frozen? ⟨R, 0, none⟩ = false ∧ W.frozen? ⟨R, 1, none⟩ = false := by
  have h1 := h.box
  have h2 := h.res
  refine ⟨by simp [World.cell?, h1], by simp [World.frozen?, h1], by simp [World.cell?, h2], by simp [World.cell?, h2], by simp [World.frozen?, h2], by simp [World.frozen?, h2]⟩
/-- the bytes of a piece lie in its page -/
theorem piece_cells {f : Nat → Option Nat} {m : Nat → Option (Bool × List Int)} {W : World} (h : Pg f m W) {a n d g : Nat} (hg : f ((a + d) / 1024) = some g) :
    ∀ j u, (Ns .u8 (pieceB m a n d))[j]? = some u → W.cell? ((⟨g, (a + d) % 1024, none⟩ : Addr).add j) = some u := by
  intro j u hj
  obtain ⟨l, xs, h1, h2, h3⟩ := h.cell hg
  simp only [Ns, pieceB, List.map_map, List.getElem?_map] at hj
  have hj1 : j < plen a n d := by
    rcases Nat.lt_or_ge j (plen a n d) with e | e
    · exact e
    · rw [List.getElem?_eq_none (by simpa using e)] at hj; simp at hj
  rw [List.getElem?_range hj1] at hj
  simp at hj
  have hp : (a + d) % 1024 + j < 1024 := by unfold plen at hj1; omega
  have e1 : (a + (d + j)) / 1024 = (a + d) / 1024 := by omega
  have e2 : (a + (d + j)) % 1024 = (a + d) % 1024 + j := by omega
  rw [← hj]
  simp only [byteAt, e1, e2, h1, Option.map_some, Option.getD_some]
  have e3 := pageC_byte l xs ((a + d) % 1024 + j) (by omega)
  have e4 : (⟨g, (a + d) % 1024, none⟩ : Addr).add j = ⟨g, (a + d) % 1024 + j, none⟩ := by
    by_cases e : j = 0
    · subst e; simp [Addr.add]
    · simp [Addr.add, e]
  rw [e4]
  simp only [World.cell?, h3]
  exact e3
end Go.Proofs.Ytiddopgeomojbaa

namespace Go.Proofs.Ytiddopgeomojbaa
open Go.RowKit Go.Shelf
set_option linter.unusedVariables false

attribute [local go_sem] Oper.semAt_some

theorem Pg.alloc {f : Nat → Option Nat} {m : Nat → Option (Bool × List Int)} {W : World} (h : Pg f m W) (o : Obj) : Pg f m (W.alloc o) := by
  refine ⟨?_, h.inj⟩
  intro j
  rcases h.at' j with h1 | ⟨b, l, xs, h1, h2, h3, h4⟩
  · exact .inl h1
  · exact .inr ⟨b, l, xs, h1, h2, h3, by rw [(World.grownBy_alloc W o none).block b (lt_of_block h4) (by simp)]; exact h4⟩

theorem Im.grown {S M : Nat} {st n bud : Int} {f : Nat → Option Nat} {W W' : World} (h : Im S M st n bud f W) (hg : W.grownBy W' none) : Im S M st n bud f W' := by
  obtain ⟨D, hown, r⟩ := h.map
  exact ⟨by rw [hg.block S (lt_of_block h.box) (by simp)]; exact h.box, D, hown.kept hg (by simp), r⟩
theorem Pg.grown {f : Nat → Option Nat} {m : Nat → Option (Bool × List Int)} {W W' : World} (h : Pg f m W) (hg : W.grownBy W' none) : Pg f m W' := by
  refine ⟨?_, h.inj⟩
  intro j
  rcases h.at' j with h1 | ⟨b, l, xs, h1, h2, h3, h4⟩
  · exact .inl h1
  · exact .inr ⟨b, l, xs, h1, h2, h3, by rw [hg.block b (lt_of_block h4) (by simp)]; exact h4⟩
theorem Fr.ofGrown {S M : Nat} {f : Nat → Option Nat} {W W' : World} (hg : W.grownBy W' none) : Fr S M f f W W' :=
  ⟨hg.os, hg.tape, hg.output, hg.size, fun g h0 _ _ _ => hg.block g h0 (by simp), fun k g e => .inl ⟨k, e⟩⟩
theorem grown_trans {A B C : World} (h : A.grownBy B none) (k : B.grownBy C none) : A.grownBy C none :=
  ⟨k.os.trans h.os, k.tape.trans h.tape, k.output.trans h.output, Nat.le_trans h.size k.size, fun g h0 _ => by rw [k.block g (Nat.lt_of_lt_of_le h0 h.size) (by simp)]; exact h.block g h0 (by simp)⟩
theorem Ld.init {S M : Nat} {st nn bud : Int} {f : Nat → Option Nat} {m : Nat → Option (Bool × List Int)} {w w2 : World} (hi : Im S M st nn bud f w) (hp : Pg f m w) (hg : (w.alloc (.cells #[.int .i64 0, .slice none 0 0] 36)).grownBy w2 none) (v : Value) :
    Ld S M st nn bud f m w w.heap.size w2.heap.size v (w2.alloc (.cells #[v] 22)) := by
  have hw := grown_trans (World.grownBy_alloc w (.cells #[.int .i64 0, .slice none 0 0] 36) none) (grown_trans hg (World.grownBy_alloc w2 (.cells #[v] 22) none))
  have hlt : w.heap.size < w2.heap.size := by have := hg.size; simp at this; omega
  refine ⟨hi.grown hw, hp.grown hw, Fr.ofGrown hw, ?_, (MapKept.heap_alloc w2 _).1, ?_, Nat.le_refl _, by omega⟩
  · rw [(World.grownBy_alloc w2 (.cells #[v] 22) none).block _ hlt (by simp), hg.block _ (by simp) (by simp)]
    exact (MapKept.heap_alloc w _).1
  · obtain ⟨D, hown, _⟩ := hi.map
    exact hown.lt
theorem Cl.made (S : Nat) (a n : Int) (W : World) : Cl S W.heap.size a n (((W.alloc (.cells #[.pointer (some ⟨S, 0, none⟩)] 52)).alloc (.cells #[.int .u64 a] 32)).alloc (.cells #[.int .i64 n] 3)) := by
  refine ⟨?_, ?_, ?_⟩
  · rw [(World.grownBy_alloc _ _ none).block _ (by simp; omega) (by simp), (World.grownBy_alloc _ _ none).block _ (by simp) (by simp)]
    exact (MapKept.heap_alloc W _).1
  · rw [(World.grownBy_alloc _ _ none).block _ (by simp) (by simp)]
    have := (MapKept.heap_alloc (W.alloc (.cells #[.pointer (some ⟨S, 0, none⟩)] 52)) (.cells #[.int .u64 a] 32)).1
    simpa using this
  · have := (MapKept.heap_alloc ((W.alloc (.cells #[.pointer (some ⟨S, 0, none⟩)] 52)).alloc (.cells #[.int .u64 a] 32)) (.cells #[.int .i64 n] 3)).1
    simpa using this
theorem Kp.below {S M b N : Nat} {A B : World} (h : Below N A B) (h1 : S < N) (h2 : M < N) (h3 : b + 1 + 1 < N) : Kp S M b A B :=
  ⟨h.size, fun g hg => h.block g (by rcases hg with rfl | rfl | rfl | rfl | rfl <;> omega)⟩
theorem kp_put {S M b N : Nat} (h1 : S < N) (h2 : M < N) (h3 : b + 1 + 1 < N) (W : World) (l : Nat) (o o' : Obj) (hl : N ≤ l) (h : W.heap[l]? = some o) : Kp S M b W (W.putObj l o') :=
  ⟨(grownBy_putObj' W l o').size, fun g hg => (grownBy_putObj' W l o').block g (by have := lt_of_block h; rcases hg with rfl | rfl | rfl | rfl | rfl <;> omega) (by simp; rcases hg with rfl | rfl | rfl | rfl | rfl <;> omega)⟩
theorem own_apart {A : World} {base : Nat} {v : Value} {n : Nat} {xs : List Value} {row : Option Nat} (h : A.ownsRow base 5 1 v n xs) (hr : ∀ r, row = some r → ∃ o : Obj, A.heap[r]? = some o ∧ o.isCells = false) : v.ownBlock = none ∨ v.ownBlock ≠ row := by
  rcases h.2 with ⟨rfl, _⟩ | ⟨g, cap, cur, rfl, _, hb, _⟩
  · exact .inl rfl
  · right
    intro e
    obtain ⟨o, h1, h2⟩ := hr g e.symm
    rw [hb] at h1
    cases h1
    cases h2
theorem own_slice {A : World} {base : Nat} {v : Value} {n : Nat} {xs : List Value} (h : A.ownsRow base 5 1 v n xs) : ∃ p l c, v = .slice p l c := by
  rcases h.2 with ⟨rfl, _⟩ | ⟨g, cap, cur, rfl, _⟩
  · exact ⟨_, _, _, rfl⟩
  · exact ⟨_, _, _, rfl⟩
theorem core {S M : Nat} {st nn bud : Int} {f : Nat → Option Nat} {m : Nat → Option (Bool × List Int)} {w W W' : World} {row : Option Nat} (hi : Im S M st nn bud f w) (hp : Pg f m w) (im : Im S M st nn bud f W) (pg : Pg f m W) (fr : Fr S M f f w W) (hg : W.grownBy W' row) (hr : ∀ r, row = some r → w.heap.size ≤ r) :
    Im S M st nn bud f W' ∧ Pg f m W' ∧ Fr S M f f w W' := by
  have hk : ∀ g, g < w.heap.size → W'.heap[g]? = W.heap[g]? := fun g h0 => hg.block g (Nat.lt_of_lt_of_le h0 fr.size) (fun e => by have := hr g e.symm; omega)
  refine ⟨⟨(hk S (lt_of_block hi.box)).trans im.box, ?_⟩, ⟨?_, pg.inj⟩, ?_⟩
  · obtain ⟨_, hown, _⟩ := hi.map
    obtain ⟨D, ⟨es, clock, hb, r1⟩, r⟩ := im.map
    exact ⟨D, ⟨es, clock, (hk M hown.lt).trans hb, r1⟩, r⟩
  · intro j
    rcases pg.at' j with h1 | ⟨b, l, xs, h1, h2, h3, h4⟩
    · exact .inl h1
    · obtain ⟨_, _, _, _, h5⟩ := hp.cell h1
      exact .inr ⟨b, l, xs, h1, h2, h3, (hk b (lt_of_block h5)).trans h4⟩
  · refine ⟨hg.os.trans fr.os, hg.tape.trans fr.tape, hg.output.trans fr.output, Nat.le_trans fr.size hg.size, ?_, fr.made⟩
    intro g h0 h1 h2 h3
    rw [hk g h0]
    exact fr.block g h0 h1 h2 h3
theorem own_not {A : World} {base DB : Nat} {v : Value} {n : Nat} {xs : List Value} {c : Array Value} {t : TypeId} {z : Nat × Nat} (h : A.ownsRow base 5 1 v n xs) (hb : A.heap[DB]? = some (.cells c t z)) (ht : t ≠ 5) : v.ownBlock = none ∨ v.ownBlock ≠ some DB := by
  rcases h.2 with ⟨rfl, _⟩ | ⟨g, cap, cur, rfl, _, h2, _⟩
  · exact .inl rfl
  · right
    intro e
    cases e
    rw [h2] at hb
    cases hb
    exact ht rfl
theorem own_row {A : World} {base : Nat} {v : Value} {n : Nat} {xs : List Value} (h : A.ownsRow base 5 1 v n xs) : ∀ r, v.ownBlock = some r → base ≤ r ∧ ∃ c, A.heap[r]? = some (.cells c 5 (0, 0)) := by
  intro r e
  rcases h.2 with ⟨rfl, _⟩ | ⟨g, cap, cur, rfl, hg, hb, _⟩
  · cases e
  · cases e
    exact ⟨hg, cur, hb⟩

theorem Ld.kpRow {S M b : Nat} {st nn bud : Int} {f : Nat → Option Nat} {m : Nat → Option (Bool × List Int)} {w W W' : World} {R DB : Nat} {v : Value} {a n : Int} {row : Option Nat} (h : Ld S M st nn bud f m w R DB v W) (hc : Cl S b a n W) (hg : W.grownBy W' row)
    (hr : ∀ r, row = some r → w.heap.size ≤ r ∧ ∀ c t z, W.heap[r]? = some (.cells c t z) → t = 5) : Kp S M b W W' := by
  have hk : ∀ (b : Nat) (c : Array Value) (t : TypeId) (z : Nat × Nat), W.heap[b]? = some (Obj.cells c t z) → t ≠ 5 → W'.heap[b]? = W.heap[b]? := fun b c t z hb ht => hg.block b (lt_of_block hb) (fun e => ht ((hr b e.symm).2 c t z hb))
  refine ⟨hg.size, ?_⟩
  rintro g (rfl | rfl | rfl | rfl | rfl)
  · exact hk _ _ _ _ h.im.box (by decide)
  · exact hg.block _ (Nat.lt_of_lt_of_le h.mlt h.fr.size) (fun e => by have := (hr _ e.symm).1; have := h.mlt; omega)
  · exact hk _ _ _ _ hc.s (by decide)
  · exact hk _ _ _ _ hc.a (by decide)
  · exact hk _ _ _ _ hc.n (by decide)
theorem Ld.kpBox {S M b : Nat} {st nn bud : Int} {f : Nat → Option Nat} {m : Nat → Option (Bool × List Int)} {w W : World} {R DB : Nat} {v : Value} {a n : Int} (h : Ld S M st nn bud f m w R DB v W) (hc : Cl S b a n W) (v' : Value) : Kp S M b W (W.setCell ⟨DB, 0, none⟩ v') := by
  have hk : ∀ (b : Nat) (c : Array Value) (t : TypeId) (z : Nat × Nat), W.heap[b]? = some (Obj.cells c t z) → t ≠ 22 → (W.setCell ⟨DB, 0, none⟩ v').heap[b]? = W.heap[b]? := by
    intro b c t z hb ht
    refine Below.heap_setCell _ _ _ _ ?_
    intro e
    simp at e
    subst e
    rw [h.box] at hb
    cases hb
    exact ht rfl
  refine ⟨by simp [World.setCell], ?_⟩
  rintro g (rfl | rfl | rfl | rfl | rfl)
  · exact hk _ _ _ _ h.im.box (by decide)
  · refine Below.heap_setCell _ _ _ _ ?_
    have := h.mlt
    have := h.dge
    simp
    omega
  · exact hk _ _ _ _ hc.s (by decide)
  · exact hk _ _ _ _ hc.a (by decide)
  · exact hk _ _ _ _ hc.n (by decide)

set_option maxRecDepth 100000 in
set_option maxHeartbeats 2000000 in
theorem load_in (S M : Nat) (st nn bud : Int) (f : Nat → Option Nat) (m : Nat → Option (Bool × List Int)) (a n : Nat) (w : World) (hi : Im S M st nn bud f w) (hp : Pg f m w) (hn : n ≤ 4096) (ha : n = 0 ∨ a + n ≤ 4611686018427387904) (hpg : ∀ d, d < n → ∃ g, f ((a + d) / 1024) = some g)
    (h : ∀ w, Im S M st nn bud f w → Pg f m w → Calls Try.prog 57 #[.pointer (some ⟨S, 0, none⟩), .int .u64 a, .int .i64 n] w fun e w' => e = .returned (.int .i64 0) ∧ w' = w) :
    CallsIn Fence.wide 5 Try.prog 41 #[.pointer (some ⟨S, 0, none⟩), .int .u64 a, .int .i64 n] w fun e w' => ∃ v, e = .returned (.agg #[.int .i64 0, v]) ∧ w'.ownsRow w.heap.size 5 1 v n (Ns .u8 ((List.range n).map fun i => byteAt m (a + i))) ∧ Im S M st nn bud f w' ∧ Pg f m w' ∧ Fr S M f f w w' := by
  obtain ⟨i0, hi0, hz0, hz1, hz2⟩ := info_parts Try.info5By
  have H1 := hid h
  have HI := hid (And.intro hi hp)
  have HP := hid hpg
  clear h hi hp hpg
  refine callsIn_of_wp_marks Try.func41 rfl trivial ?_ rfl
  simp only [Try.ntmps41, List.size_toArray, List.length_cons, List.length_nil, Nat.reduceAdd, Nat.reduceSub, Array.replicate_succ, Array.replicate_zero, List.push_toArray, List.append_toArray, List.nil_append, List.cons_append]
  gi_wp2_with fail
  refine ⟨trivial, ?_⟩
  refine ((callsIn_wide (n := 4)).2 (H1.out _ (HI.out.1.alloc _) (HI.out.2.alloc _))).mono ?_
  rintro _ _ ⟨rfl, rfl⟩
  gi_wp2_with (gi_at_make; refine wpListIn_make_own _ rfl _ _ 22 rfl w.heap.size 5 i0 (.int .u8 0) 1 Try.underlying22 hi0 hz0 hz1 .i64 .i64 _ n rfl rfl rfl ?c1 ?c2 ?c3 ?_)
  case c1 => rw [hz2]; omega
  case c2 => unfold maxLen; omega
  case c3 => simp
  intro w2 hown hgrow
  have L3 := Ld.init HI.out.1 HI.out.2 hgrow (.slice (some ⟨w.heap.size + 1, 0, none⟩) 0 n)
  have O3 := hown.alloc (.cells #[.slice (some ⟨w.heap.size + 1, 0, none⟩) 0 n] 22)
  have HL := hid (And.intro L3 O3)
  have hS := hid (Nat.lt_of_lt_of_le (lt_of_block HI.out.1.box) L3.fr.size)
  have hM := hid (Nat.lt_of_lt_of_le L3.mlt L3.fr.size)
  have hsz := hid L3.fr.size
  clear hown hgrow L3 O3
  gi_wp2_with fail
  refine ⟨trivial, ?_⟩
  obtain ⟨W3, hW3⟩ : ∃ W3, w2.alloc (.cells #[.slice (some ⟨w.heap.size + 1, 0, none⟩) 0 n] 22) = W3 := ⟨_, rfl⟩
  obtain ⟨DB, hDB⟩ : ∃ DB, w2.heap.size = DB := ⟨_, rfl⟩
  rw [hW3] at HL hS hM hsz
  rw [hDB] at HL
  rw [hW3, hDB]
  clear hW3 hDB
  refine ((callsIn_wide (n := 4)).2 (pieces_mk _ _ _ _)).mono ?_
  rintro e w4 ⟨rfl, rfl⟩
  gi_wp2
  have HC := hid (Cl.made S a n W3)
  have g4 := grown_trans (World.grownBy_alloc W3 (.cells #[.pointer (some ⟨S, 0, none⟩)] 52) none) (grown_trans (World.grownBy_alloc _ (.cells #[.int .u64 a] 32) none) (World.grownBy_alloc _ (.cells #[.int .i64 n] 3) none))
  have HL4 := hid (And.intro (HL.out.1.keep g4 (fun r e => by cases e)) (HL.out.2.kept g4 (.inr (by simp [Value.ownBlock]))))
  have h4 : W3.heap.size + 1 + 1 + 1 = (((W3.alloc (.cells #[.pointer (some ⟨S, 0, none⟩)] 52)).alloc (.cells #[.int .u64 a] 32)).alloc (.cells #[.int .i64 n] 3)).heap.size := by simp
  obtain ⟨W4, hW4⟩ : ∃ W4, ((W3.alloc (.cells #[.pointer (some ⟨S, 0, none⟩)] 52)).alloc (.cells #[.int .u64 a] 32)).alloc (.cells #[.int .i64 n] 3) = W4 := ⟨_, rfl⟩
  rw [hW4] at HC HL4 h4
  rw [hW4]
  clear g4 hW4 HL
  have hS := hS.out
  have hM := hM.out
  have hsz := hsz.out
  refine wpIn_rangeFunc_ownF rfl (by omega) (gf := 73) (lb := #[.pointer (some ⟨W3.heap.size + 1 + 1, 0, none⟩), .pointer (some ⟨W3.heap.size + 1, 0, none⟩), .pointer (some ⟨W3.heap.size, 0, none⟩)]) rfl trivial (enters_of Try.func73 (by kernel_rfl) rfl)
    (encs := fun x : { d : Nat // d < n } => encP f a n x.1) (Kp := Kp S M W3.heap.size) (S := fun ys => Got a n ys n) (Sp := fun pre => ∃ d, Got a n pre d) (N := n) (w0 := W4)
    (fun l J Jx W hW hJ hJx hY h0 => pieces_in S M st nn bud f a n l W3.heap.size 4 (by omega) hn ha HP.out J Jx W hJ hY (HC.out.kp (Kp.below (M := M) (N := W4.heap.size) hW (by omega) (by omega) (by omega))) (HL4.out.1.im.kp (Kp.below (N := W4.heap.size) (b := W3.heap.size) hW (by omega) (by omega) (by omega))) h0)
    Kp.trans (fun W l o o' hl h _ _ => kp_put (S := S) (M := M) (b := W3.heap.size) (N := W4.heap.size) (by omega) (by omega) (by omega) W l o o' hl h) (Below.refl _ _) (fun _ => rfl)
    (fun pre W => ∃ v, Ld S M st nn bud f m w w.heap.size DB v W ∧ W.ownsRow w.heap.size 5 1 v (piecesB m a n pre).length (Ns .u8 (piecesB m a n pre)) ∧ Cl S W3.heap.size a n W)
    (fun c pre W => False)
    ?own (fun c s A B row hs hg hr => hs) ⟨_, HL4.out.1, HL4.out.2, HC.out⟩
    (fun x => { tmps := #[.pointer (some ⟨S, 0, none⟩), .int .u64 a, .int .i64 n, undef, undef, undef, .pointer (some ⟨w.heap.size, 0, none⟩), .int .i64 0, .pointer (some ⟨DB, 0, none⟩), .slice (some ⟨(f ((a + x.1) / 1024)).getD 0, (a + x.1) % 1024, none⟩) (plen a n x.1) (1024 - (a + x.1) % 1024), .pointer (some ⟨S, 0, none⟩), .int .u64 a, .int .i64 n, .int .i64 0, .int .i64 0, .bool false, undef, undef, .int .i64 n, .slice (some ⟨w.heap.size + 1, 0, none⟩) 0 n, .pointer (some ⟨S, 0, none⟩), .int .u64 a, .int .i64 n, .func (.func 73) #[] #[.pointer (some ⟨W3.heap.size + 1 + 1, 0, none⟩), .pointer (some ⟨W3.heap.size + 1, 0, none⟩), .pointer (some ⟨W3.heap.size, 0, none⟩)], .slice (some ⟨(f ((a + x.1) / 1024)).getD 0, (a + x.1) % 1024, none⟩) (plen a n x.1) (1024 - (a + x.1) % 1024), undef, undef, undef, undef, undef], defers := [] }) ?assign ?body ?done ?stop
  case own =>
    rintro s A B row ⟨v, hl, ho, hc⟩ hg hr
    have hb : ∀ r, row = some r → w.heap.size ≤ r ∧ ∀ c t z, A.heap[r]? = some (.cells c t z) → t = 5 := by
      intro r e
      obtain ⟨h1, o, h2, h3⟩ := hr r e
      refine ⟨by omega, fun c t z h5 => ?_⟩
      rw [h5] at h2
      cases h2
      cases h3
    exact ⟨v, hl.keep hg hb, ho.kept hg (own_apart ho fun r e => (hr r e).2), hc.kp (hl.kpRow hc hg hb)⟩
  case assign =>
    intro l x W K hK
    unfold encP
    gi_wp2
    exact hK
  case stop =>
    intro D c pre W _ _ h
    exact h.elim
  case body =>
    rintro l pre x W ⟨v, hl, ho, hc⟩ hlt
    obtain ⟨c1, c2, _, _, _, _⟩ := hl.cells
    obtain ⟨g, hg⟩ := HP.out x.1 x.2
    have hpc := piece_cells hl.pg (n := n) hg
    have hb5 := own_row ho
    have HB := hid (And.intro hl (And.intro ho hc))
    have hlen : (piecesB m a n pre).length ≤ 1024 * pre.length := piecesB_len m a n pre
    have hpl := plen_top a n x.1
    rw [hg]
    simp only [Option.getD_some]
    have HQ := hid (And.intro hpc hb5)
    have hb0 := hid (Nat.le_trans hsz (show W3.heap.size ≤ W3.heap.size from Nat.le_refl _))
    have hbW := hid hl.fr.size
    clear hl ho hc hpc hb5 HL4 HC
    gi_wp2_with (gi_at_builtin; refine wpListIn_append_own _ rfl _ _ 22 rfl w.heap.size 5 i0 (.int .u8 0) 1 1 Try.underlying22 hi0 hz0 hz1 hz2 rfl (by omega) _ _ _ rfl HB.out.2.1 _ _ _ (Ns .u8 (pieceB m a n x.1)) rfl ?b0 HQ.out.1 ?b1 ?b2 ?b3 ?b4 ?_)
    case b0 => simp [Ns, pieceB_len]
    case b1 =>
      intro u hu
      simp only [Ns, List.mem_map] at hu
      obtain ⟨z, _, rfl⟩ := hu
      rfl
    case b2 => unfold maxLen; omega
    case b3 => omega
    case b4 => exact hbW.out
    intro v1 w1 ho1 hg1 _
    obtain ⟨p1, l1, k1, rfl⟩ := own_slice ho1
    have hb : ∀ r, v.ownBlock = some r → w.heap.size ≤ r ∧ ∀ c t z, W.heap[r]? = some (.cells c t z) → t = 5 := by
      intro r e
      obtain ⟨h1, c0, h2⟩ := HQ.out.2 r e
      refine ⟨h1, fun c t z h5 => ?_⟩
      rw [h5] at h2
      cases h2
      rfl
    have L1 := HB.out.1.keep hg1 hb
    have K1 := HB.out.1.kpRow HB.out.2.2 hg1 hb
    have C1 := HB.out.2.2.kp K1
    have KO : KeepsOthers W w1 := KeepsOthers.of_grownBy hg1 (fun j o e ho => by obtain ⟨_, c0, h2⟩ := HQ.out.2 j e; rw [h2] at ho; cases ho; rfl)
    have HS := hid (And.intro L1 (And.intro K1 (And.intro C1 (And.intro KO ho1))))
    obtain ⟨d1, d2, _, _, _, _⟩ := L1.cells
    clear L1 K1 C1 KO ho1 hg1 hb c1 c2
    gi_wp2
    have o1 := HS.out.2.2.2.2.kept (grown_set (grown_refl w1 DB) 0 (.slice p1 l1 k1)) (own_not HS.out.2.2.2.2 HS.out.1.box (by decide))
    have e1 : (piecesB m a n (pre ++ [x])).length = (piecesB m a n pre).length + plen a n x.1 := by rw [piecesB_snoc, List.length_append, pieceB_len]
    have e2 : Ns .u8 (piecesB m a n (pre ++ [x])) = Ns .u8 (piecesB m a n pre) ++ Ns .u8 (pieceB m a n x.1) := by rw [piecesB_snoc]; simp [Ns]
    rw [← e1, ← e2] at o1
    exact ⟨HS.out.2.2.2.1.trans (KeepsOthers.setCell _ _ _), HS.out.2.1.trans (HS.out.1.kpBox HS.out.2.2.1 _), _, HS.out.1.store _, o1, HS.out.2.2.1.kp (HS.out.1.kpBox HS.out.2.2.1 _)⟩
  case done =>
    rintro D ys W hD hgot ⟨v, hl, ho, hc⟩ hK
    obtain ⟨c1, c2, c3, c4, c5, c6⟩ := hl.cells
    have HB := hid (And.intro hl (And.intro ho hgot))
    obtain ⟨vp, vl, vc, rfl⟩ := own_slice ho
    clear hl ho hc hgot HL4 HC
    gi_wp2
    have hK' := ((KeepsOthers.setCell W ⟨w.heap.size, 0, none⟩ (.int .i64 0)).trans (KeepsOthers.setCell _ ⟨w.heap.size, 1, none⟩ (.slice vp vl vc))).same D _ hK rfl
    have hb2 : ((W.setCell ⟨w.heap.size, 0, none⟩ (.int .i64 0)).setCell ⟨w.heap.size, 1, none⟩ (.slice vp vl vc)).heap[w.heap.size]? = some (.cells #[.int .i64 0, .slice vp vl vc] 36 (0, 0)) := by
      rw [heap_set_at (heap_set_at HB.out.1.res _)]
      rfl
    have g2 : W.grownBy ((W.setCell ⟨w.heap.size, 0, none⟩ (.int .i64 0)).setCell ⟨w.heap.size, 1, none⟩ (.slice vp vl vc)) (some w.heap.size) := grown_set (grown_set (grown_refl W w.heap.size) 0 _) 1 _
    have o2 := HB.out.2.1.kept g2 (own_not HB.out.2.1 HB.out.1.res (by decide))
    have q2 := core HI.out.1 HI.out.2 HB.out.1.im HB.out.1.pg HB.out.1.fr g2 (fun r e => by cases e; exact Nat.le_refl _)
    have hD' : w.heap.size ≤ D := by omega
    clear c1 c2 c3 c4 c5 c6 hK
    generalize (W.setCell ⟨w.heap.size, 0, none⟩ (.int .i64 0)).setCell ⟨w.heap.size, 1, none⟩ (.slice vp vl vc) = W5 at *
    have g3 := grownBy_putObj' W5 D (.deferred none)
    have o3 := o2.kept g3 (own_apart o2 fun r e => by cases e; exact ⟨_, hK', rfl⟩)
    have q3 := core HI.out.1 HI.out.2 q2.1 q2.2.1 q2.2.2 g3 (fun r e => by cases e; exact hD')
    have hb3 := (g3.block w.heap.size (lt_of_block hb2) (fun e => by cases e; rw [hb2] at hK'; cases hK')).trans hb2
    rw [HB.out.2.2.bytes] at o3
    simp only [List.length_map, List.length_range] at o3
    refine ⟨by simp, .inl ⟨_, _, rfl, run_takeDeferred hK', ?_⟩⟩
    refine ⟨.agg #[.int .i64 0, .slice vp vl vc], ?_, _, rfl, o3, q3⟩
    have r1 : (W5.putObj D (.deferred none)).cell? ⟨w.heap.size, 0, none⟩ = some (.int .i64 0) := by simp [World.cell?, hb3]
    have r2 : (W5.putObj D (.deferred none)).cell? ⟨w.heap.size, 1, none⟩ = some (.slice vp vl vc) := by simp [World.cell?, hb3]
    simp [results, Try.f41, go_sem, r1, r2]
end Go.Proofs.Ytiddopgeomojbaa

namespace Go.Proofs.Ytiddopgeomojbaa
open Go.RowKit Go.Shelf
set_option linter.unusedVariables false

attribute [local go_sem] Oper.semAt_some

set_option maxHeartbeats 400000 in
theorem store_no (S : Nat) (a c : Int) (n cap : Nat) (p : Option Addr) (w : World) (hc : (c != 0) = true) (h : ∀ w, Calls Try.prog 57 #[.pointer (some ⟨S, 0, none⟩), .int .u64 a, .int .i64 n] w fun e w' => e = .returned (.int .i64 c) ∧ w' = w) :
    Calls Try.prog 42 #[.pointer (some ⟨S, 0, none⟩), .int .u64 a, .slice p n cap] w fun e w' => e = .returned (.int .i64 c) ∧ w' = w.alloc (.cells #[.slice p n cap] 22) := by
  have H1 := hid h
  clear h
  go_enter Try.func42, Try.ntmps42
  go_wp2_with fail
  refine (H1.out _).mono ?_
  rintro _ _ ⟨rfl, rfl⟩
  go_wp2_with fail
  go_ret
  exact ⟨rfl, rfl⟩
end Go.Proofs.Ytiddopgeomojbaa
