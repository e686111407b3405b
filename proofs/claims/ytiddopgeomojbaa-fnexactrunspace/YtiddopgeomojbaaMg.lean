import Derived.Test.YtiddopgeomojbaaMb
import Derived.Test.YtiddopgeomojbaaMc
import Derived.Conc.MuLone
import Derived.Test.YtiddopgeomojbaaMd
import Derived.Test.YtiddopgeomojbaaMf
import Derived.Laws.CopyOwn
namespace Go.Proofs.Ytiddopgeomojbaa
open Go.RowKit Go.Shelf
set_option linter.unusedVariables false

theorem heldN_none : ∀ k, heldN (fun _ => none) 0 k = 0
  | 0 => rfl
  | k + 1 => by simp [heldN, heldN_none k]

set_option maxHeartbeats 400000 in
theorem im_new (n bud : Int) (w : World) :
    Calls Try.prog 19 #[.int .i64 n, .int .i64 bud] w fun e w' => ∃ S M, e = .returned (.pointer (some ⟨S, 0, none⟩)) ∧ Im S M 0 n bud (fun _ => none) w' ∧ Below w.heap.size w w' ∧ w.heap.size ≤ S ∧ w.heap.size ≤ M ∧ S ≠ M := by
  have hmm := @run_makeMap Try.prog
  go_enter Try.func19, Try.ntmps19
  go_wp2
  go_ret
  refine ⟨w.heap.size + 1, w.heap.size, rfl, ⟨by rw [← al_size w (.map #[] 0)]; exact al_last _ _, .map [], ((World.ownsMap_made w Try.prog 3 ptrE).alloc _).mono (Nat.zero_le _), by rw [heldN_none]; rfl, fun k hk => ?_, fun k hk => ?_⟩, ((Below.refl _ _).alloc (Nat.le_refl _) _).alloc (by rw [al_size]; omega) _, by omega, by omega, by omega⟩
  · rfl
  · rfl
end Go.Proofs.Ytiddopgeomojbaa

namespace Go.Proofs.Ytiddopgeomojbaa
open Go.RowKit Go.Shelf
set_option linter.unusedVariables false

abbrev muLink : Go.Conc.Locks.MuLink := { lock := 36, unlock := 37, ilock := 53, iunlock := 54, lockSlow := 68, unlockSlow := 71, disable := 64, enable := 66, acquire := 67, relMerge := 69, cas32 := 65, add32 := 70, tMutex := 75, tIMutex := 73, tPMutex := 97, tPIMutex := 107, tPI32 := 109, tUP := 111, tNoCopy := 70, tU32 := 71 }
theorem muLib : Go.Conc.Locks.MuLib Try.prog muLink :=
  ⟨Try.func36, Try.func37, Try.func53, Try.func54, Try.func64, Try.func66, Try.func67, Try.func69, Try.func65, Try.func70, Try.underlying73, Try.runUnderlying73, Try.sizeOf73, Try.isAgg73, Try.zeroValue73, Try.underlying75, Try.runUnderlying75, Try.sizeOf75, Try.isAgg75, Try.zeroValue75, Try.underlying97, Try.runUnderlying97, Try.sizeOf97, Try.isAgg97, Try.zeroValue97, Try.underlying107, Try.runUnderlying107, Try.sizeOf107, Try.isAgg107, Try.zeroValue107, Try.underlying109, Try.runUnderlying109, Try.sizeOf109, Try.isAgg109, Try.zeroValue109, Try.underlying111, Try.runUnderlying111, Try.sizeOf111, Try.isAgg111, Try.zeroValue111, Try.underlying70, Try.runUnderlying70, Try.sizeOf70, Try.isAgg70, Try.zeroValue70, Try.underlying21, Try.runUnderlying21, Try.sizeOf21, Try.isAgg21, Try.zeroValue21, by kernel_rfl⟩
/-- the lock is taken -/
theorem im_lock {S M : Nat} {n bud : Int} {f : Nat → Option Nat} {w : World} (h : Im S M 0 n bud f w) : Calls Try.prog 36 #[.pointer (some ⟨S, 0, none⟩)] w fun e w' => e = .returned (.tuple #[]) ∧ w' = w.setCell ⟨S, 0, none⟩ (.int .i32 1) :=
  Go.MuLone.lock_free muLib ⟨S, 0, none⟩ w (by simp [World.cell?, h.box]) (by simp [World.frozen?, h.box])
theorem Im.st {S M : Nat} {st n bud : Int} {f : Nat → Option Nat} {w : World} (h : Im S M st n bud f w) (st' : Int) : Im S M st' n bud f (w.setCell ⟨S, 0, none⟩ (.int .i32 st')) := by
  obtain ⟨D, h1, h2⟩ := h.map
  refine ⟨heap_set_at h.box _, D, h1.kept (grown_set (grown_refl w S) 0 _) (fun e => ?_), h2⟩
  obtain ⟨es, clock, hb, _⟩ := h1
  simp at e
  subst e
  rw [h.box] at hb
  cases hb
end Go.Proofs.Ytiddopgeomojbaa

namespace Go.Proofs.Ytiddopgeomojbaa
open Go.RowKit Go.Shelf
set_option linter.unusedVariables false

theorem Im.lt {S M : Nat} {st n bud : Int} {f : Nat → Option Nat} {w : World} (h : Im S M st n bud f w) : S < w.heap.size ∧ M < w.heap.size := by
  obtain ⟨D, h1, h2⟩ := h.map
  exact ⟨lt_blk h.box, h1.lt⟩
theorem Im.setRow {S M : Nat} {st n bud : Int} {f : Nat → Option Nat} {w : World} (h : Im S M st n bud f w) {r : Nat} (h1 : r ≠ S) (h2 : r ≠ M) (cs : Array Value) : Im S M st n bud f (w.setRow r cs) := by
  have hg := grown_setRow w r cs
  obtain ⟨D, d1, d2⟩ := h.map
  exact ⟨(hg.block S (lt_blk h.box) (by simpa using Ne.symm h1)).trans h.box, D, d1.kept hg (by simpa using Ne.symm h2), d2⟩
/-- a block of another type is neither the space nor its map nor a page -/
theorem Im.apartT {S M : Nat} {st n bud : Int} {f : Nat → Option Nat} {m : Nat → Option (Bool × List Int)} {W : World} (h : Im S M st n bud f W) (hp : Pg f m W) {g : Nat} {c : Array Value} {t : TypeId} {fr : Nat × Nat} (hg : W.heap[g]? = some (.cells c t fr)) (h1 : t ≠ 77) (h2 : t ≠ 85) : g ≠ S ∧ g ≠ M ∧ ∀ k, f k ≠ some g := by
  refine ⟨?_, ?_, fun k hk => ?_⟩
  · rintro rfl
    have := h.box
    rw [hg] at this
    simp at this
    exact h1 this.2.1
  · rintro rfl
    obtain ⟨D, ⟨es, clock, hb, _⟩, _⟩ := h.map
    rw [hg] at hb
    cases hb
  · rcases hp.at' k with ⟨e1, _⟩ | ⟨b, l, xs, e1, _, _, e4⟩
    · rw [hk] at e1; cases e1
    · rw [hk] at e1
      cases e1
      rw [hg] at e4
      simp at e4
      exact h2 e4.2.1
theorem Pg.other {f : Nat → Option Nat} {m : Nat → Option (Bool × List Int)} {W W' : World} (h : Pg f m W) (hk : ∀ k b, f k = some b → W'.heap[b]? = W.heap[b]?) : Pg f m W' :=
  ⟨fun k => (h.at' k).imp id fun ⟨b, l, xs, e1, e2, e3, e4⟩ => ⟨b, l, xs, e1, e2, e3, (hk k b e1).trans e4⟩, h.inj⟩
/-- a step of impl's space under way: the lock is held -/
structure Dl (w : World) (op : Array Value) (S M : Nat) (nn bud : Int) (f f' : Nat → Option Nat) (m : Nat → Option (Bool × List Int)) (O Rb : Nat) (V : World) : Prop where
  im : Im S M 1 nn bud f' V
  pg : Pg f' m V
  fr : Fr S M f f' w V
  o : V.heap[O]? = some (.cells op 34 (0, 0))
  r : V.heap[Rb]? = some (.cells #[.int .i64 0, .slice none 0 0] 36 (0, 0))
  hO : O = w.heap.size
  hR : Rb = w.heap.size + 1
theorem Dl.first {S M : Nat} {n bud : Int} {f : Nat → Option Nat} {m : Nat → Option (Bool × List Int)} {w : World} (h : Im S M 0 n bud f w) (hp : Pg f m w) (op : Array Value) : Dl w op S M n bud f f m w.heap.size (w.heap.size + 1) (((w.alloc (.cells op 34)).alloc (.cells #[.int .i64 0, .slice none 0 0] 36)).setCell ⟨S, 0, none⟩ (.int .i32 1)) := by
  have hl := h.lt
  have i2 := (h.alloc (.cells op 34)).alloc (.cells #[.int .i64 0, .slice none 0 0] 36)
  have p2 := (hp.alloc (.cells op 34)).alloc (.cells #[.int .i64 0, .slice none 0 0] 36)
  refine ⟨i2.st 1, p2.other (fun k b hb => Below.heap_setCell _ _ _ _ (p2.apart i2 hb).1), ?_, ?_, ?_, rfl, rfl⟩
  · have b2 : Below w.heap.size w ((w.alloc (.cells op 34)).alloc (.cells #[.int .i64 0, .slice none 0 0] 36)) := ((Below.refl _ _).alloc (Nat.le_refl _) _).alloc (by rw [al_size]; omega) _
    have g2 := grown_set (grown_refl ((w.alloc (.cells op 34)).alloc (.cells #[.int .i64 0, .slice none 0 0] 36)) S) 0 (.int .i32 1)
    exact ⟨g2.os.trans b2.os, g2.tape.trans b2.tape, g2.output.trans b2.output, Nat.le_trans b2.size g2.size, fun g h1 h2 h3 h4 => (g2.block g (Nat.lt_of_lt_of_le h1 b2.size) (by simpa using h2)).trans (b2.block g h1), fun k g hk => .inl ⟨k, hk⟩⟩
  · rw [Below.heap_setCell _ _ _ _ (by show w.heap.size ≠ S; omega), al_old _ _ _ (by rw [al_size]; omega)]
    exact al_last _ _
  · rw [Below.heap_setCell _ _ _ _ (by show w.heap.size + 1 ≠ S; omega), ← al_size w (.cells op 34)]
    exact al_last _ _
theorem Dl.move {S M O Rb : Nat} {n bud : Int} {f f' f'' : Nat → Option Nat} {m m' : Nat → Option (Bool × List Int)} {w V V' : World} {op : Array Value} (h : Dl w op S M n bud f f' m O Rb V) (hi : Im S M 1 n bud f'' V') (hp : Pg f'' m' V') (hf : Fr S M f' f'' V V') : Dl w op S M n bud f f'' m' O Rb V' := by
  obtain ⟨a1, a2, a3⟩ := h.im.apartT h.pg h.o (by decide) (by decide)
  obtain ⟨b1, b2, b3⟩ := h.im.apartT h.pg h.r (by decide) (by decide)
  exact ⟨hi, hp, h.fr.trans hf, (hf.block O (lt_blk h.o) a1 a2 a3).trans h.o, (hf.block Rb (lt_blk h.r) b1 b2 b3).trans h.r, h.hO, h.hR⟩
/-- a step's end -/
def Ims (S M : Nat) (n bud : Int) (f : Nat → Option Nat) (m : Nat → Option (Bool × List Int)) (w w' : World) : Prop := ∃ f', Im S M 0 n bud f' w' ∧ Pg f' m w' ∧ Fr S M f f' w w'
/-- the answer lies in the result's block, the lock may be given back -/
theorem Dl.done {S M O Rb : Nat} {n bud : Int} {f f' : Nat → Option Nat} {m : Nat → Option (Bool × List Int)} {w V : World} {op : Array Value} (h : Dl w op S M n bud f f' m O Rb V) (cs : Array Value) : (V.setRow Rb cs).cell? ⟨S, 0, none⟩ = some (.int .i32 1) ∧ (V.setRow Rb cs).frozen? ⟨S, 0, none⟩ = false ∧ ((V.setRow Rb cs).setCell ⟨S, 0, none⟩ (.int .i32 0)).heap[Rb]? = some (.cells cs 36 (0, 0)) ∧ Ims S M n bud f m w ((V.setRow Rb cs).setCell ⟨S, 0, none⟩ (.int .i32 0)) := by
  obtain ⟨n1, n2, n3⟩ := h.im.apartT h.pg h.r (by decide) (by decide)
  have i2 := h.im.setRow n1 n2 cs
  have g1 := grown_setRow V Rb cs
  have p2 : Pg f' m (V.setRow Rb cs) := h.pg.other (fun k b hb => g1.block b (by
    rcases h.pg.at' k with ⟨e1, _⟩ | ⟨b', l, xs, e1, _, _, e4⟩
    · rw [hb] at e1; cases e1
    · rw [hb] at e1; cases e1; exact lt_blk e4) (fun e => by cases e; exact n3 k hb))
  have g2 := grown_set (grown_refl (V.setRow Rb cs) S) 0 (.int .i32 0)
  refine ⟨by simp [World.cell?, i2.box], by simp [World.frozen?, i2.box], ?_, f', i2.st 0, p2.other (fun k b hb => Below.heap_setCell _ _ _ _ (p2.apart i2 hb).1), ?_⟩
  · rw [Below.heap_setCell _ _ _ _ n1]
    exact setRow_at h.r cs
  · have hR := h.hR
    exact ⟨g2.os.trans (g1.os.trans h.fr.os), g2.tape.trans (g1.tape.trans h.fr.tape), g2.output.trans (g1.output.trans h.fr.output), Nat.le_trans h.fr.size (Nat.le_trans g1.size g2.size), fun g h1 h2 h3 h4 => (g2.block g (Nat.lt_of_lt_of_le h1 (Nat.le_trans h.fr.size g1.size)) (by simpa using h2)).trans ((g1.block g (Nat.lt_of_lt_of_le h1 h.fr.size) (by simp; omega)).trans (h.fr.block g h1 h2 h3 h4)), h.fr.made⟩

set_option maxHeartbeats 1000000 in
/-- an operation of no kind -/
theorem run_none (S M : Nat) (nn bud : Int) (f : Nat → Option Nat) (m : Nat → Option (Bool × List Int)) (kd p c : Int) (a : Nat) (n : Int) (d : Option Addr) (dl dc : Nat) (w : World) (h : Im S M 0 nn bud f w) (hp : Pg f m w) (hk : kd < 0 ∨ 5 < kd) :
    Calls Try.prog 20 #[.pointer (some ⟨S, 0, none⟩), opV kd p c a n d dl dc] w fun e w' => e = .returned (.agg #[.int .i64 6, .slice none 0 0]) ∧ Ims S M nn bud f m w w' := by
  have k0 : ¬ kd = 0 := by omega
  have k1 : ¬ kd = 1 := by omega
  have k2 : ¬ kd = 2 := by omega
  have k3 : ¬ kd = 3 := by omega
  have k4 : ¬ kd = 4 := by omega
  have k5 : ¬ kd = 5 := by omega
  have HI := hid h
  have HP := hid hp
  clear h hk hp
  unfold opV
  go_enter_defers Try.func20, Try.ntmps20
  go_wp2_with fail
  refine (im_lock ((HI.out.alloc _).alloc _)).mono ?_
  rintro e V ⟨rfl, hV⟩
  have D0 := hid (Dl.first HI.out HP.out #[.int .i64 kd, .int .i64 p, .int .i64 c, .int .u64 a, .int .i64 n, .slice d dl dc])
  rw [← hV] at D0
  clear hV HI HP
  generalize hRe : w.heap.size + 1 = Rb at D0 ⊢
  generalize w.heap.size = O at D0 ⊢
  have cK : V.cell? ⟨O, 0, none⟩ = some (.int .i64 kd) := by simp [World.cell?, D0.out.o]
  go_wp2_with (refine wpList_store_row rfl 36 _ _ rfl _ _ rfl rfl 36 _ D0.out.r (by kernel_rfl) rfl (by simp [Value.oneCell']) ?_)
  have E0 := D0.out.done #[.int .i64 6, .slice none 0 0]
  refine leaves_cons (f := 37) (args := #[.pointer (some ⟨S, 0, none⟩)]) (by simp) (by simp [go_sem]) ?_
  refine (Go.MuLone.unlock_deferred muLib ⟨S, 0, none⟩ .returning _ E0.1 E0.2.1).mono ?_
  rintro e u' w'' ⟨rfl, rfl, rfl⟩
  exact ⟨_, results_cell_row (by rfl) _ _ Rb 36 _ (0, 0) _ (by rfl) E0.2.2.1 Try.underlying36 rfl (by kernel_rfl), rfl, E0.2.2.2⟩

set_option maxHeartbeats 1000000 in
theorem run_commit (S M : Nat) (nn bud : Int) (f : Nat → Option Nat) (m m' : Nat → Option (Bool × List Int)) (code : Int) (p c : Int) (a : Nat) (n : Int) (d : Option Addr) (dl dc : Nat) (w : World) (h : Im S M 0 nn bud f w) (hp : Pg f m w)
    (hc : ∀ V, Im S M 1 nn bud f V → Pg f m V → Calls Try.prog 38 #[.pointer (some ⟨S, 0, none⟩), .int .i64 p, .int .i64 c] V fun e w' => e = .returned (.int .i64 code) ∧ ∃ f', Im S M 1 nn bud f' w' ∧ Pg f' m' w' ∧ Fr S M f f' V w') :
    Calls Try.prog 20 #[.pointer (some ⟨S, 0, none⟩), opV 0 p c a n d dl dc] w fun e w' => e = .returned (.agg #[.int .i64 code, .slice none 0 0]) ∧ Ims S M nn bud f m' w w' := by
  have HI := hid h
  have HP := hid hp
  have HC := hid hc
  clear h hp hc
  unfold opV
  go_enter_defers Try.func20, Try.ntmps20
  go_wp2_with fail
  refine (im_lock ((HI.out.alloc _).alloc _)).mono ?_
  rintro e V ⟨rfl, hV⟩
  have D0 := hid (Dl.first HI.out HP.out #[.int .i64 0, .int .i64 p, .int .i64 c, .int .u64 a, .int .i64 n, .slice d dl dc])
  rw [← hV] at D0
  clear hV HI HP
  generalize hRe : w.heap.size + 1 = Rb at D0 ⊢
  generalize w.heap.size = O at D0 ⊢
  have cK : V.cell? ⟨O, 0, none⟩ = some (.int .i64 0) := by simp [World.cell?, D0.out.o]
  have cP : V.cell? ⟨O, 1, none⟩ = some (.int .i64 p) := by simp [World.cell?, D0.out.o]
  have cC : V.cell? ⟨O, 2, none⟩ = some (.int .i64 c) := by simp [World.cell?, D0.out.o]
  go_wp2_with fail
  refine (HC.out V D0.out.im D0.out.pg).mono ?_
  rintro e V2 ⟨rfl, f', i2, p2, r2⟩
  have D2 := hid (D0.out.move i2 p2 r2)
  clear i2 p2 r2 D0 HC cK cP cC
  go_wp2_with (refine wpList_store_row rfl 36 _ _ rfl _ _ rfl rfl 36 _ D2.out.r (by kernel_rfl) rfl (by simp [Value.oneCell']) ?_)
  have E0 := D2.out.done #[.int .i64 code, .slice none 0 0]
  refine leaves_cons (f := 37) (args := #[.pointer (some ⟨S, 0, none⟩)]) (by simp) (by simp [go_sem]) ?_
  refine (Go.MuLone.unlock_deferred muLib ⟨S, 0, none⟩ .returning _ E0.1 E0.2.1).mono ?_
  rintro e u' w'' ⟨rfl, rfl, rfl⟩
  exact ⟨_, results_cell_row (by rfl) _ _ Rb 36 _ (0, 0) _ (by rfl) E0.2.2.1 Try.underlying36 rfl (by kernel_rfl), rfl, E0.2.2.2⟩

set_option maxHeartbeats 1000000 in
theorem run_decommit (S M : Nat) (nn bud : Int) (f : Nat → Option Nat) (m m' : Nat → Option (Bool × List Int)) (code : Int) (p c : Int) (a : Nat) (n : Int) (d : Option Addr) (dl dc : Nat) (w : World) (h : Im S M 0 nn bud f w) (hp : Pg f m w)
    (hc : ∀ V, Im S M 1 nn bud f V → Pg f m V → Calls Try.prog 39 #[.pointer (some ⟨S, 0, none⟩), .int .i64 p, .int .i64 c] V fun e w' => e = .returned (.int .i64 code) ∧ ∃ f', Im S M 1 nn bud f' w' ∧ Pg f' m' w' ∧ Fr S M f f' V w') :
    Calls Try.prog 20 #[.pointer (some ⟨S, 0, none⟩), opV 1 p c a n d dl dc] w fun e w' => e = .returned (.agg #[.int .i64 code, .slice none 0 0]) ∧ Ims S M nn bud f m' w w' := by
  have HI := hid h
  have HP := hid hp
  have HC := hid hc
  clear h hp hc
  unfold opV
  go_enter_defers Try.func20, Try.ntmps20
  go_wp2_with fail
  refine (im_lock ((HI.out.alloc _).alloc _)).mono ?_
  rintro e V ⟨rfl, hV⟩
  have D0 := hid (Dl.first HI.out HP.out #[.int .i64 1, .int .i64 p, .int .i64 c, .int .u64 a, .int .i64 n, .slice d dl dc])
  rw [← hV] at D0
  clear hV HI HP
  generalize hRe : w.heap.size + 1 = Rb at D0 ⊢
  generalize w.heap.size = O at D0 ⊢
  have cK : V.cell? ⟨O, 0, none⟩ = some (.int .i64 1) := by simp [World.cell?, D0.out.o]
  have cP : V.cell? ⟨O, 1, none⟩ = some (.int .i64 p) := by simp [World.cell?, D0.out.o]
  have cC : V.cell? ⟨O, 2, none⟩ = some (.int .i64 c) := by simp [World.cell?, D0.out.o]
  go_wp2_with fail
  refine (HC.out V D0.out.im D0.out.pg).mono ?_
  rintro e V2 ⟨rfl, f', i2, p2, r2⟩
  have D2 := hid (D0.out.move i2 p2 r2)
  clear i2 p2 r2 D0 HC cK cP cC
  go_wp2_with (refine wpList_store_row rfl 36 _ _ rfl _ _ rfl rfl 36 _ D2.out.r (by kernel_rfl) rfl (by simp [Value.oneCell']) ?_)
  have E0 := D2.out.done #[.int .i64 code, .slice none 0 0]
  refine leaves_cons (f := 37) (args := #[.pointer (some ⟨S, 0, none⟩)]) (by simp) (by simp [go_sem]) ?_
  refine (Go.MuLone.unlock_deferred muLib ⟨S, 0, none⟩ .returning _ E0.1 E0.2.1).mono ?_
  rintro e u' w'' ⟨rfl, rfl, rfl⟩
  exact ⟨_, results_cell_row (by rfl) _ _ Rb 36 _ (0, 0) _ (by rfl) E0.2.2.1 Try.underlying36 rfl (by kernel_rfl), rfl, E0.2.2.2⟩

set_option maxHeartbeats 1000000 in
theorem run_lock (S M : Nat) (nn bud : Int) (f : Nat → Option Nat) (m m' : Nat → Option (Bool × List Int)) (code : Int) (p c : Int) (a : Nat) (n : Int) (d : Option Addr) (dl dc : Nat) (w : World) (h : Im S M 0 nn bud f w) (hp : Pg f m w)
    (hc : ∀ V, Im S M 1 nn bud f V → Pg f m V → Calls Try.prog 40 #[.pointer (some ⟨S, 0, none⟩), .int .i64 p, .int .i64 c, .bool true] V fun e w' => e = .returned (.int .i64 code) ∧ ∃ f', Im S M 1 nn bud f' w' ∧ Pg f' m' w' ∧ Fr S M f f' V w') :
    Calls Try.prog 20 #[.pointer (some ⟨S, 0, none⟩), opV 2 p c a n d dl dc] w fun e w' => e = .returned (.agg #[.int .i64 code, .slice none 0 0]) ∧ Ims S M nn bud f m' w w' := by
  have HI := hid h
  have HP := hid hp
  have HC := hid hc
  clear h hp hc
  unfold opV
  go_enter_defers Try.func20, Try.ntmps20
  go_wp2_with fail
  refine (im_lock ((HI.out.alloc _).alloc _)).mono ?_
  rintro e V ⟨rfl, hV⟩
  have D0 := hid (Dl.first HI.out HP.out #[.int .i64 2, .int .i64 p, .int .i64 c, .int .u64 a, .int .i64 n, .slice d dl dc])
  rw [← hV] at D0
  clear hV HI HP
  generalize hRe : w.heap.size + 1 = Rb at D0 ⊢
  generalize w.heap.size = O at D0 ⊢
  have cK : V.cell? ⟨O, 0, none⟩ = some (.int .i64 2) := by simp [World.cell?, D0.out.o]
  have cP : V.cell? ⟨O, 1, none⟩ = some (.int .i64 p) := by simp [World.cell?, D0.out.o]
  have cC : V.cell? ⟨O, 2, none⟩ = some (.int .i64 c) := by simp [World.cell?, D0.out.o]
  go_wp2_with fail
  refine (HC.out V D0.out.im D0.out.pg).mono ?_
  rintro e V2 ⟨rfl, f', i2, p2, r2⟩
  have D2 := hid (D0.out.move i2 p2 r2)
  clear i2 p2 r2 D0 HC cK cP cC
  go_wp2_with (refine wpList_store_row rfl 36 _ _ rfl _ _ rfl rfl 36 _ D2.out.r (by kernel_rfl) rfl (by simp [Value.oneCell']) ?_)
  have E0 := D2.out.done #[.int .i64 code, .slice none 0 0]
  refine leaves_cons (f := 37) (args := #[.pointer (some ⟨S, 0, none⟩)]) (by simp) (by simp [go_sem]) ?_
  refine (Go.MuLone.unlock_deferred muLib ⟨S, 0, none⟩ .returning _ E0.1 E0.2.1).mono ?_
  rintro e u' w'' ⟨rfl, rfl, rfl⟩
  exact ⟨_, results_cell_row (by rfl) _ _ Rb 36 _ (0, 0) _ (by rfl) E0.2.2.1 Try.underlying36 rfl (by kernel_rfl), rfl, E0.2.2.2⟩

set_option maxHeartbeats 1000000 in
theorem run_unlock (S M : Nat) (nn bud : Int) (f : Nat → Option Nat) (m m' : Nat → Option (Bool × List Int)) (code : Int) (p c : Int) (a : Nat) (n : Int) (d : Option Addr) (dl dc : Nat) (w : World) (h : Im S M 0 nn bud f w) (hp : Pg f m w)
    (hc : ∀ V, Im S M 1 nn bud f V → Pg f m V → Calls Try.prog 40 #[.pointer (some ⟨S, 0, none⟩), .int .i64 p, .int .i64 c, .bool false] V fun e w' => e = .returned (.int .i64 code) ∧ ∃ f', Im S M 1 nn bud f' w' ∧ Pg f' m' w' ∧ Fr S M f f' V w') :
    Calls Try.prog 20 #[.pointer (some ⟨S, 0, none⟩), opV 3 p c a n d dl dc] w fun e w' => e = .returned (.agg #[.int .i64 code, .slice none 0 0]) ∧ Ims S M nn bud f m' w w' := by
  have HI := hid h
  have HP := hid hp
  have HC := hid hc
  clear h hp hc
  unfold opV
  go_enter_defers Try.func20, Try.ntmps20
  go_wp2_with fail
  refine (im_lock ((HI.out.alloc _).alloc _)).mono ?_
  rintro e V ⟨rfl, hV⟩
  have D0 := hid (Dl.first HI.out HP.out #[.int .i64 3, .int .i64 p, .int .i64 c, .int .u64 a, .int .i64 n, .slice d dl dc])
  rw [← hV] at D0
  clear hV HI HP
  generalize hRe : w.heap.size + 1 = Rb at D0 ⊢
  generalize w.heap.size = O at D0 ⊢
  have cK : V.cell? ⟨O, 0, none⟩ = some (.int .i64 3) := by simp [World.cell?, D0.out.o]
  have cP : V.cell? ⟨O, 1, none⟩ = some (.int .i64 p) := by simp [World.cell?, D0.out.o]
  have cC : V.cell? ⟨O, 2, none⟩ = some (.int .i64 c) := by simp [World.cell?, D0.out.o]
  go_wp2_with fail
  refine (HC.out V D0.out.im D0.out.pg).mono ?_
  rintro e V2 ⟨rfl, f', i2, p2, r2⟩
  have D2 := hid (D0.out.move i2 p2 r2)
  clear i2 p2 r2 D0 HC cK cP cC
  go_wp2_with (refine wpList_store_row rfl 36 _ _ rfl _ _ rfl rfl 36 _ D2.out.r (by kernel_rfl) rfl (by simp [Value.oneCell']) ?_)
  have E0 := D2.out.done #[.int .i64 code, .slice none 0 0]
  refine leaves_cons (f := 37) (args := #[.pointer (some ⟨S, 0, none⟩)]) (by simp) (by simp [go_sem]) ?_
  refine (Go.MuLone.unlock_deferred muLib ⟨S, 0, none⟩ .returning _ E0.1 E0.2.1).mono ?_
  rintro e u' w'' ⟨rfl, rfl, rfl⟩
  exact ⟨_, results_cell_row (by rfl) _ _ Rb 36 _ (0, 0) _ (by rfl) E0.2.2.1 Try.underlying36 rfl (by kernel_rfl), rfl, E0.2.2.2⟩
end Go.Proofs.Ytiddopgeomojbaa

namespace Go.Proofs.Ytiddopgeomojbaa
open Go.RowKit Go.Shelf
set_option linter.unusedVariables false

set_option maxHeartbeats 1000000 in
theorem run_store (S M : Nat) (nn bud : Int) (f : Nat → Option Nat) (m m' : Nat → Option (Bool × List Int)) (code : Int) (p c : Int) (a : Nat) (n : Int) (d : Option Addr) (dl dc : Nat) (w : World) (h : Im S M 0 nn bud f w) (hp : Pg f m w)
    (hc : ∀ V, Im S M 1 nn bud f V → Pg f m V → Fr S M f f w V → Calls Try.prog 42 #[.pointer (some ⟨S, 0, none⟩), .int .u64 a, .slice d dl dc] V fun e w' => e = .returned (.int .i64 code) ∧ ∃ f', Im S M 1 nn bud f' w' ∧ Pg f' m' w' ∧ Fr S M f f' V w') :
    Calls Try.prog 20 #[.pointer (some ⟨S, 0, none⟩), opV 5 p c a n d dl dc] w fun e w' => e = .returned (.agg #[.int .i64 code, .slice none 0 0]) ∧ Ims S M nn bud f m' w w' := by
  have HI := hid h
  have HP := hid hp
  have HC := hid hc
  clear h hp hc
  unfold opV
  go_enter_defers Try.func20, Try.ntmps20
  go_wp2_with fail
  refine (im_lock ((HI.out.alloc _).alloc _)).mono ?_
  rintro e V ⟨rfl, hV⟩
  have D0 := hid (Dl.first HI.out HP.out #[.int .i64 5, .int .i64 p, .int .i64 c, .int .u64 a, .int .i64 n, .slice d dl dc])
  rw [← hV] at D0
  clear hV HI HP
  generalize hRe : w.heap.size + 1 = Rb at D0 ⊢
  generalize w.heap.size = O at D0 ⊢
  have cK : V.cell? ⟨O, 0, none⟩ = some (.int .i64 5) := by simp [World.cell?, D0.out.o]
  have cA : V.cell? ⟨O, 3, none⟩ = some (.int .u64 a) := by simp [World.cell?, D0.out.o]
  have cD : V.cell? ⟨O, 5, none⟩ = some (.slice d dl dc) := by simp [World.cell?, D0.out.o]
  go_wp2_with fail
  refine (HC.out V D0.out.im D0.out.pg D0.out.fr).mono ?_
  rintro e V2 ⟨rfl, f', i2, p2, r2⟩
  have D2 := hid (D0.out.move i2 p2 r2)
  clear i2 p2 r2 D0 HC cK cA cD
  go_wp2_with (refine wpList_store_row rfl 36 _ _ rfl _ _ rfl rfl 36 _ D2.out.r (by kernel_rfl) rfl (by simp [Value.oneCell']) ?_)
  have E0 := D2.out.done #[.int .i64 code, .slice none 0 0]
  refine leaves_cons (f := 37) (args := #[.pointer (some ⟨S, 0, none⟩)]) (by simp) (by simp [go_sem]) ?_
  refine (Go.MuLone.unlock_deferred muLib ⟨S, 0, none⟩ .returning _ E0.1 E0.2.1).mono ?_
  rintro e u' w'' ⟨rfl, rfl, rfl⟩
  exact ⟨_, results_cell_row (by rfl) _ _ Rb 36 _ (0, 0) _ (by rfl) E0.2.2.1 Try.underlying36 rfl (by kernel_rfl), rfl, E0.2.2.2⟩

theorem Dl.own {S M O Rb : Nat} {n bud : Int} {f f' : Nat → Option Nat} {m : Nat → Option (Bool × List Int)} {w V : World} {op : Array Value} (h : Dl w op S M n bud f f' m O Rb V) {B : Nat} {v : Value} {k : Nat} {xs : List Value} (ho : V.ownsRow B 5 1 v k xs) (hB : w.heap.size ≤ B) (cs : Array Value) : ((V.setRow Rb cs).setCell ⟨S, 0, none⟩ (.int .i32 0)).ownsRow w.heap.size 5 1 v k xs := by
  obtain ⟨n1, n2, n3⟩ := h.im.apartT h.pg h.r (by decide) (by decide)
  have i2 := h.im.setRow n1 n2 cs
  refine own_mono ?_ hB
  refine (ho.kept (grown_setRow V Rb cs) (.inr fun e => ?_)).kept (grown_set (grown_refl _ S) 0 _) (.inr fun e => ?_)
  · obtain ⟨c', hc'⟩ := own_type ho e
    rw [h.r] at hc'
    simp at hc'
  · obtain ⟨c', hc'⟩ := own_type ho e
    rw [h.im.box] at hc'
    simp at hc'

set_option maxHeartbeats 1000000 in
theorem run_load (S M : Nat) (nn bud : Int) (f : Nat → Option Nat) (m : Nat → Option (Bool × List Int)) (code : Int) (xs : List Int) (p c : Int) (a : Nat) (n : Int) (d : Option Addr) (dl dc : Nat) (w : World) (h : Im S M 0 nn bud f w) (hp : Pg f m w)
    (hc : ∀ V, Im S M 1 nn bud f V → Pg f m V → Calls Try.prog 41 #[.pointer (some ⟨S, 0, none⟩), .int .u64 a, .int .i64 n] V fun e w' => ∃ v, e = .returned (.agg #[.int .i64 code, v]) ∧ w'.ownsRow V.heap.size 5 1 v xs.length (Ns .u8 xs) ∧ Im S M 1 nn bud f w' ∧ Pg f m w' ∧ Fr S M f f V w') :
    Calls Try.prog 20 #[.pointer (some ⟨S, 0, none⟩), opV 4 p c a n d dl dc] w fun e w' => ∃ v, e = .returned (.agg #[.int .i64 code, v]) ∧ w'.ownsRow w.heap.size 5 1 v xs.length (Ns .u8 xs) ∧ Ims S M nn bud f m w w' := by
  have HI := hid h
  have HP := hid hp
  have HC := hid hc
  clear h hp hc
  unfold opV
  go_enter_defers Try.func20, Try.ntmps20
  go_wp2_with fail
  refine (im_lock ((HI.out.alloc _).alloc _)).mono ?_
  rintro e V ⟨rfl, hV⟩
  have D0 := hid (Dl.first HI.out HP.out #[.int .i64 4, .int .i64 p, .int .i64 c, .int .u64 a, .int .i64 n, .slice d dl dc])
  rw [← hV] at D0
  clear hV HI HP
  generalize hRe : w.heap.size + 1 = Rb at D0 ⊢
  generalize hOe : w.heap.size = O at D0 ⊢
  have cK : V.cell? ⟨O, 0, none⟩ = some (.int .i64 4) := by simp [World.cell?, D0.out.o]
  have cA : V.cell? ⟨O, 3, none⟩ = some (.int .u64 a) := by simp [World.cell?, D0.out.o]
  have cD : V.cell? ⟨O, 4, none⟩ = some (.int .i64 n) := by simp [World.cell?, D0.out.o]
  have HZ := hid D0.out.fr.size
  go_wp2_with fail
  refine (HC.out V D0.out.im D0.out.pg).mono ?_
  rintro e V2 ⟨v, rfl, ho, i2, p2, r2⟩
  have D2 := hid (D0.out.move i2 p2 r2)
  have HW := hid ho
  clear i2 p2 r2 D0 HC cK cA cD ho
  go_wp2_with (refine wpList_store_row rfl 36 _ _ rfl _ _ rfl rfl 36 _ D2.out.r (by kernel_rfl) rfl (own_one HW.out _) ?_)
  have E0 := D2.out.done #[.int .i64 code, v]
  have E1 := D2.out.own HW.out HZ.out #[.int .i64 code, v]
  refine leaves_cons (f := 37) (args := #[.pointer (some ⟨S, 0, none⟩)]) (by simp) (by simp [go_sem]) ?_
  refine (Go.MuLone.unlock_deferred muLib ⟨S, 0, none⟩ .returning _ E0.1 E0.2.1).mono ?_
  rintro e u' w'' ⟨rfl, rfl, rfl⟩
  exact ⟨_, results_cell_row (by rfl) _ _ Rb 36 _ (0, 0) _ (by rfl) E0.2.2.1 Try.underlying36 rfl (by kernel_rfl), v, rfl, E1, E0.2.2.2⟩
end Go.Proofs.Ytiddopgeomojbaa

namespace Go.Proofs.Ytiddopgeomojbaa
open Go.RowKit Go.Shelf
set_option linter.unusedVariables false

theorem held_all {f : Nat → Option Nat} {m : Nat → Option (Bool × List Int)} (h : ∀ k, (f k).isSome = (m k).isSome) (p : Nat) : ∀ c, heldN f p c = c ↔ allBb m p true c = true
  | 0 => by simp [heldN, allBb]
  | k + 1 => by
    have ih := held_all h p k
    have h1 := heldN_le f p k
    simp only [heldN, allBb, Bool.and_eq_true, beq_iff_eq, ← h (p + k), ← ih]
    cases (f (p + k)).isSome <;> simp <;> omega
theorem held_no {f : Nat → Option Nat} {m : Nat → Option (Bool × List Int)} (h : ∀ k, (f k).isSome = (m k).isSome) (p : Nat) : ∀ c, heldN f p c = 0 ↔ allBb m p false c = true
  | 0 => by simp [heldN, allBb]
  | k + 1 => by
    have ih := held_no h p k
    simp only [heldN, allBb, Bool.and_eq_true, beq_iff_eq, ← h (p + k), ← ih]
    cases (f (p + k)).isSome <;> simp
theorem inside_ok (nn : Nat) (p c : Int) : insideB nn p c = true ↔ okP nn p c := by
  unfold insideB okP
  rw [decide_eq_true_eq]
  omega

/-- a step of impl's space over pages, as the document has it -/
theorem im_page (S M nn : Nat) (bud : Int) (f : Nat → Option Nat) (m : Nat → Option (Bool × List Int)) (kd p c : Int) (a : Nat) (n : Int) (d : Option Addr) (dl dc : Nat) (ys : List Int) (w : World) (h : Im S M 0 nn bud f w) (hp : Pg f m w) (hout : ∀ k, nn ≤ k → m k = none) (hnn : nn ≤ 4096) (hpm : p ≤ 9223372036854775807) (hk : kd = 0 ∨ kd = 1 ∨ kd = 2 ∨ kd = 3) :
    Calls Try.prog 20 #[.pointer (some ⟨S, 0, none⟩), opV kd p c a n d dl dc] w fun e w' => e = .returned (.agg #[.int .i64 (stepM nn bud m kd p c a n ys).2.1, .slice none 0 0]) ∧ Ims S M nn bud f (stepM nn bud m kd p c a n ys).1 w w' := by
  have hn0 : (0 : Int) ≤ nn := by omega
  have hn1 : (nn : Int) ≤ 4096 := by omega
  have e4 : ¬ kd = 4 := by omega
  have e5 : ¬ kd = 5 := by omega
  have e6 : ¬ (kd < 0 ∨ 5 < kd) := by omega
  have his := hp.none_iff
  have hcnt : heldN f 0 4096 = cntM m nn := by
    rw [cntM_held his 4096, show 4096 = nn + (4096 - nn) by omega, cntM_out hout]
  unfold stepM
  rw [if_neg e4, if_neg e5, if_neg e6]
  by_cases hin : okP nn p c
  · rw [if_pos hin]
    have hin' := (inside_ok nn p c).2 hin
    obtain ⟨g1, g2, g3, g4⟩ := hin
    obtain ⟨p, rfl⟩ := Int.eq_ofNat_of_zero_le g2
    obtain ⟨c, rfl⟩ := Int.eq_ofNat_of_zero_le (show 0 ≤ c by omega)
    simp only [Int.toNat_natCast]
    have hle := heldN_le f p c
    rcases hk with rfl | rfl | rfl | rfl
    · refine run_commit S M nn bud f m _ _ p c a n d dl dc w h hp (fun V i q => ?_)
      simp only [pageM, if_true]
      cases hb : allBb m p false c with
      | false =>
        simp only [if_true]
        refine (commit_part S M 1 nn bud f p c _ V i hn0 hn1 hin' rfl (by
          have := (held_no his p c)
          rw [hb] at this
          have h2 : heldN f p c ≠ 0 := fun e => by simpa using this.1 e
          omega)).mono ?_
        rintro e w' ⟨rfl, rfl⟩
        exact ⟨rfl, f, i, q, Fr.refl _ _ _ _⟩
      | true =>
        have hz := (held_no his p c).2 hb
        by_cases hbd : bud < (cntM m nn : Int) + c
        · simp only [if_pos hbd, Bool.true_eq_false, if_false]
          refine (commit_full S M 1 nn bud f p c _ V i hn0 hn1 hin' hz hcnt hbd).mono ?_
          rintro e w' ⟨rfl, rfl⟩
          exact ⟨rfl, f, i.drew, q.drew, (Fr.refl _ _ _ _).drew⟩
        · simp only [if_neg hbd, Bool.true_eq_false, if_false]
          exact commit_yes S M 1 nn bud f m p c _ V i q hn0 hn1 hin' hz hcnt (by omega)
    · refine run_decommit S M nn bud f m _ _ p c a n d dl dc w h hp (fun V i q => ?_)
      simp only [pageM, show ¬ ((1 : Int) = 0) by omega, if_false, if_true]
      cases hb : allBb m p true c with
      | false =>
        simp only [if_true]
        refine (decommit_part S M 1 nn bud f p c _ V i hn0 hn1 hin' rfl (by
          have := (held_all his p c)
          rw [hb] at this
          have h2 : heldN f p c ≠ c := fun e => by simpa using this.1 e
          omega)).mono ?_
        rintro e w' ⟨rfl, rfl⟩
        exact ⟨rfl, f, i, q, Fr.refl _ _ _ _⟩
      | true =>
        simp only [Bool.true_eq_false, if_false]
        exact decommit_all S M 1 nn bud f m p c V i q hn0 hn1 hin' ((held_all his p c).2 hb)
    · refine run_lock S M nn bud f m _ _ p c a n d dl dc w h hp (fun V i q => ?_)
      simp only [pageM, show ¬ ((2 : Int) = 0) by omega, show ¬ ((2 : Int) = 1) by omega, if_false, if_true]
      cases hb : allBb m p true c with
      | false =>
        simp only [if_true]
        refine (setLock_part S M 1 nn bud f p c _ true V i hn0 hn1 hin' rfl (by
          have := (held_all his p c)
          rw [hb] at this
          have h2 : heldN f p c ≠ c := fun e => by simpa using this.1 e
          omega)).mono ?_
        rintro e w' ⟨rfl, rfl⟩
        exact ⟨rfl, f, i, q, Fr.refl _ _ _ _⟩
      | true =>
        simp only [Bool.true_eq_false, if_false]
        refine (setLock_yes S M 1 nn bud f m p c true V i q hn0 hn1 hin' ((held_all his p c).2 hb)).mono ?_
        rintro e w' ⟨rfl, h1, h2, h3⟩
        exact ⟨rfl, f, h1, h2, h3⟩
    · refine run_unlock S M nn bud f m _ _ p c a n d dl dc w h hp (fun V i q => ?_)
      simp only [pageM, show ¬ ((3 : Int) = 0) by omega, show ¬ ((3 : Int) = 1) by omega, show ¬ ((3 : Int) = 2) by omega, if_false]
      cases hb : allBb m p true c with
      | false =>
        simp only [if_true]
        refine (setLock_part S M 1 nn bud f p c _ false V i hn0 hn1 hin' rfl (by
          have := (held_all his p c)
          rw [hb] at this
          have h2 : heldN f p c ≠ c := fun e => by simpa using this.1 e
          omega)).mono ?_
        rintro e w' ⟨rfl, rfl⟩
        exact ⟨rfl, f, i, q, Fr.refl _ _ _ _⟩
      | true =>
        simp only [Bool.true_eq_false, if_false]
        refine (setLock_yes S M 1 nn bud f m p c false V i q hn0 hn1 hin' ((held_all his p c).2 hb)).mono ?_
        rintro e w' ⟨rfl, h1, h2, h3⟩
        exact ⟨rfl, f, h1, h2, h3⟩
  · rw [if_neg hin]
    have hno : insideB nn p c = false := by
      cases hb : insideB nn p c with
      | false => rfl
      | true => exact absurd ((inside_ok nn p c).1 hb) hin
    rcases hk with rfl | rfl | rfl | rfl
    · refine run_commit S M nn bud f m _ _ p c a n d dl dc w h hp (fun V i q => (commit_no S M 1 nn bud f p c V i hn0 hn1 hpm hno).mono ?_)
      rintro e w' ⟨rfl, rfl⟩
      exact ⟨rfl, f, i, q, Fr.refl _ _ _ _⟩
    · refine run_decommit S M nn bud f m _ _ p c a n d dl dc w h hp (fun V i q => (decommit_no S M 1 nn bud f p c V i hn0 hn1 hpm hno).mono ?_)
      rintro e w' ⟨rfl, rfl⟩
      exact ⟨rfl, f, i, q, Fr.refl _ _ _ _⟩
    · refine run_lock S M nn bud f m _ _ p c a n d dl dc w h hp (fun V i q => (setLock_no S M 1 nn bud f p c true V i hn0 hn1 hpm hno).mono ?_)
      rintro e w' ⟨rfl, rfl⟩
      exact ⟨rfl, f, i, q, Fr.refl _ _ _ _⟩
    · refine run_unlock S M nn bud f m _ _ p c a n d dl dc w h hp (fun V i q => (setLock_no S M 1 nn bud f p c false V i hn0 hn1 hpm hno).mono ?_)
      rintro e w' ⟨rfl, rfl⟩
      exact ⟨rfl, f, i, q, Fr.refl _ _ _ _⟩
end Go.Proofs.Ytiddopgeomojbaa

namespace Go.Proofs.Ytiddopgeomojbaa
open Go.RowKit Go.Shelf
set_option linter.unusedVariables false

/-- impl's access answers the document's code -/
theorem im_access (S M : Nat) (st nn bud : Int) (f : Nat → Option Nat) (m : Nat → Option (Bool × List Int)) (a : Nat) (n : Int) (w : World) (hi : Im S M st nn bud f w) (hp : Pg f m w) (ha : a < 18446744073709551616) :
    Calls Try.prog 57 #[.pointer (some ⟨S, 0, none⟩), .int .u64 a, .int .i64 n] w fun e w' => e = .returned (.int .i64 (accC m a n)) ∧ w' = w := by
  unfold accC
  by_cases h1 : n < 0 ∨ 4096 < n
  · rw [if_pos h1]
    exact access_range S a n w h1
  · rw [if_neg h1]
    by_cases h2 : n = 0
    · subst h2
      rw [if_pos rfl]
      exact access_zero S a w
    · rw [if_neg h2]
      by_cases h3 : 4611686018427387904 ≤ (a : Int) + (n - 1)
      · rw [if_pos h3]
        exact access_far S a n w (by omega) (by omega) (by omega) (by omega) h3
      · rw [if_neg h3]
        obtain ⟨k, rfl⟩ := Int.eq_ofNat_of_zero_le (show 0 ≤ n by omega)
        rw [Int.toNat_natCast, ← reach_open m a k (by omega)]
        exact access_near S M st nn bud f m a k _ _ w hi hp (by omega) (by omega) (by omega) rfl rfl
/-- an operation of no kind, as the document has it -/
theorem im_none (S M nn : Nat) (bud : Int) (f : Nat → Option Nat) (m : Nat → Option (Bool × List Int)) (kd p c : Int) (a : Nat) (n : Int) (d : Option Addr) (dl dc : Nat) (ys : List Int) (w : World) (h : Im S M 0 nn bud f w) (hp : Pg f m w) (hk : kd < 0 ∨ 5 < kd) :
    Calls Try.prog 20 #[.pointer (some ⟨S, 0, none⟩), opV kd p c a n d dl dc] w fun e w' => e = .returned (.agg #[.int .i64 (stepM nn bud m kd p c a n ys).2.1, .slice none 0 0]) ∧ Ims S M nn bud f (stepM nn bud m kd p c a n ys).1 w w' := by
  unfold stepM
  rw [if_neg (show ¬ kd = 4 by omega), if_neg (show ¬ kd = 5 by omega), if_pos hk]
  exact run_none S M nn bud f m kd p c a n d dl dc w h hp hk
end Go.Proofs.Ytiddopgeomojbaa

namespace Go.Proofs.Ytiddopgeomojbaa
open Go.RowKit Go.Shelf
set_option linter.unusedVariables false

theorem acc_zero {m : Nat → Option (Bool × List Int)} {a : Nat} {n : Int} (h : accC m a n = 0) : ∃ k : Nat, n = k ∧ k ≤ 4096 ∧ (k = 0 ∨ a + k ≤ 4611686018427387904) ∧ ∀ d, d < k → isOpen (m ((a + d) / 1024)) = true := by
  unfold accC at h
  by_cases h1 : n < 0 ∨ 4096 < n
  · rw [if_pos h1] at h; cases h
  · rw [if_neg h1] at h
    obtain ⟨k, rfl⟩ := Int.eq_ofNat_of_zero_le (show 0 ≤ n by omega)
    refine ⟨k, rfl, by omega, ?_⟩
    by_cases h2 : (k : Int) = 0
    · exact ⟨.inl (by omega), fun d hd => by omega⟩
    · rw [if_neg h2] at h
      by_cases h3 : 4611686018427387904 ≤ (a : Int) + ((k : Int) - 1)
      · rw [if_pos h3] at h; cases h
      · rw [if_neg h3] at h
        refine ⟨.inr (by omega), ?_⟩
        cases hr : reachN m a k with
        | false => simp [hr, accCode] at h
        | true => exact reachN_all hr
theorem open_some {f : Nat → Option Nat} {m : Nat → Option (Bool × List Int)} {W : World} (hp : Pg f m W) {k : Nat} (h : isOpen (m k) = true) : ∃ g, f k = some g := by
  rcases hp.at' k with ⟨h1, h2⟩ | ⟨b, l, xs, h1, _⟩
  · rw [h2] at h; cases h
  · exact ⟨b, h1⟩

set_option maxHeartbeats 400000 in
theorem load_no1 (S : Nat) (a n c : Int) (w : World) (hc : (c != 0) = true) (h : Calls Try.prog 57 #[.pointer (some ⟨S, 0, none⟩), .int .u64 a, .int .i64 n] (w.alloc (.cells #[.int .i64 0, .slice none 0 0] 36)) fun e w' => e = .returned (.int .i64 c) ∧ w' = w.alloc (.cells #[.int .i64 0, .slice none 0 0] 36)) :
    Calls Try.prog 41 #[.pointer (some ⟨S, 0, none⟩), .int .u64 a, .int .i64 n] w fun e w' => e = .returned (.agg #[.int .i64 c, .slice none 0 0]) ∧ w' = w.alloc (.cells #[.int .i64 c, .slice none 0 0] 36) := by
  have H1 := hid h
  clear h
  go_enter Try.func41, Try.ntmps41
  go_wp2_with fail
  refine (H1.out).mono ?_
  rintro _ _ ⟨rfl, rfl⟩
  go_wp2_with fail
  refine bodyPost_ret (v := .agg #[.int .i64 c, .slice none 0 0]) (by simp [results, Try.results41, go_sem]) rfl ⟨rfl, rfl⟩
set_option maxHeartbeats 400000 in
theorem store_no1 (S : Nat) (a c : Int) (n cap : Nat) (p : Option Addr) (w : World) (hc : (c != 0) = true) (h : Calls Try.prog 57 #[.pointer (some ⟨S, 0, none⟩), .int .u64 a, .int .i64 n] (w.alloc (.cells #[.slice p n cap] 22)) fun e w' => e = .returned (.int .i64 c) ∧ w' = w.alloc (.cells #[.slice p n cap] 22)) :
    Calls Try.prog 42 #[.pointer (some ⟨S, 0, none⟩), .int .u64 a, .slice p n cap] w fun e w' => e = .returned (.int .i64 c) ∧ w' = w.alloc (.cells #[.slice p n cap] 22) := by
  have H1 := hid h
  clear h
  go_enter Try.func42, Try.ntmps42
  go_wp2_with fail
  refine (H1.out).mono ?_
  rintro _ _ ⟨rfl, rfl⟩
  go_wp2_with fail
  go_ret
  exact ⟨rfl, rfl⟩

/-- loads, as the document has them -/
theorem im_load (S M nn : Nat) (bud : Int) (f : Nat → Option Nat) (m : Nat → Option (Bool × List Int)) (p c : Int) (a : Nat) (n : Int) (d : Option Addr) (dl dc : Nat) (ys : List Int) (w : World) (h : Im S M 0 nn bud f w) (hp : Pg f m w) (ha : a < 18446744073709551616) :
    Calls Try.prog 20 #[.pointer (some ⟨S, 0, none⟩), opV 4 p c a n d dl dc] w fun e w' => ∃ v, e = .returned (.agg #[.int .i64 (stepM nn bud m 4 p c a n ys).2.1, v]) ∧ w'.ownsRow w.heap.size 5 1 v (stepM nn bud m 4 p c a n ys).2.2.length (Ns .u8 (stepM nn bud m 4 p c a n ys).2.2) ∧ Ims S M nn bud f (stepM nn bud m 4 p c a n ys).1 w w' := by
  have es : stepM nn bud m 4 p c a n ys = (m, accC m a n, if accC m a n = 0 then loadB m a n.toNat else []) := by unfold stepM; rw [if_pos rfl]
  rw [es]
  refine run_load S M nn bud f m _ _ p c a n d dl dc w h hp (fun V i q => ?_)
  by_cases hz : accC m a n = 0
  · rw [hz, if_pos rfl]
    obtain ⟨k, rfl, h1, h2, h3⟩ := acc_zero hz
    have hl := load_in S M 1 nn bud f m a k V i q h1 h2 (fun d hd => open_some q (h3 d hd)) (fun W iW qW => by
      have := im_access S M 1 nn bud f m a (k : Nat) W iW qW ha
      rwa [hz] at this)
    refine ((callsIn_wide (n := 5)).1 hl).mono ?_
    rintro e w' ⟨v, rfl, ho, r⟩
    refine ⟨v, rfl, ?_, r⟩
    simp only [Int.toNat_natCast]
    have el : (loadB m a k).length = k := by simp [loadB]
    rw [el]
    exact ho
  · rw [if_neg hz]
    refine (load_no1 S a n _ V (by simpa using hz) (im_access S M 1 nn bud f m a n _ (i.alloc _) (q.alloc _) ha)).mono ?_
    · rintro e w' ⟨rfl, rfl⟩
      exact ⟨_, rfl, ⟨rfl, .inl ⟨rfl, rfl⟩⟩, i.alloc _, q.alloc _, Fr.ofGrown (World.grownBy_alloc _ _ none)⟩

theorem updM_twice (m : Nat → Option (Bool × List Int)) (k : Nat) (u v : Option (Bool × List Int)) : updM (updM m k u) k v = updM m k v := by
  funext j
  unfold updM
  split <;> rfl
theorem updM_self (m : Nat → Option (Bool × List Int)) (k : Nat) (v : Option (Bool × List Int)) (h : m k = v) : updM m k v = m := by
  funext j
  unfold updM
  split
  · rename_i e; rw [e, h]
  · rfl
theorem splice_snoc (xs zs : List Int) (off : Nat) (z : Int) (h : off + zs.length < xs.length) : (splice xs off zs).set (off + zs.length) z = splice xs off (zs ++ [z]) := by
  have hl : (xs.take off).length = off := by simp; omega
  have hd : xs.drop (off + zs.length) = xs[off + zs.length] :: xs.drop (off + zs.length + 1) := List.drop_eq_getElem_cons h
  unfold splice
  rw [hd, List.set_append_right _ _ (by omega), hl, Nat.add_sub_cancel_left, List.set_append_right _ _ (Nat.le_refl _), Nat.sub_self, List.set_cons_zero]
  simp [Nat.add_assoc]
/-- a piece of a store is one page turned -/
theorem storeM_piece (m : Nat → Option (Bool × List Int)) (a : Nat) (ys : List Int) (d : Nat) (lk : Bool) (xs : List Int) (hx : xs.length = 1024) (hm : storeM m a ys d ((a + d) / 1024) = some (lk, xs)) :
    ∀ l, (a + d) % 1024 + l ≤ 1024 → d + l ≤ ys.length → storeM m a ys (d + l) = updM (storeM m a ys d) ((a + d) / 1024) (some (lk, splice xs ((a + d) % 1024) ((ys.drop d).take l)))
  | 0, _, _ => by
    have e : splice xs ((a + d) % 1024) ((ys.drop d).take 0) = xs := by simp [splice]
    rw [e, Nat.add_zero, updM_self _ _ _ hm]
  | l + 1, h1, h2 => by
    have ih := storeM_piece m a ys d lk xs hx hm l (by omega) (by omega)
    have e0 : storeM m a ys (d + (l + 1)) = putM (storeM m a ys (d + l)) (a + (d + l)) (ys[d + l]?.getD 0) := rfl
    have e1 : (a + (d + l)) / 1024 = (a + d) / 1024 := by omega
    have e2 : (a + (d + l)) % 1024 = (a + d) % 1024 + l := by omega
    rw [e0, ih]
    unfold putM
    rw [e1, e2, updM_same, updM_twice]
    simp only [Option.map_some]
    have hlen : ((ys.drop d).take l).length = l := by simp; omega
    have e3 : (ys.drop d).take (l + 1) = (ys.drop d).take l ++ [ys[d + l]?.getD 0] := by
      rw [List.take_add_one, List.getElem?_drop, List.getElem?_eq_getElem (by omega)]
      rfl
    rw [e3, ← splice_snoc _ _ _ _ (by rw [hlen, hx]; omega), hlen]
theorem storeM_some (m : Nat → Option (Bool × List Int)) (a : Nat) (ys : List Int) (f : Nat → Option Nat) {W : World} (hp : Pg f m W) : ∀ k, (∀ j, (storeM m a ys k j).isSome = (m j).isSome)
  | 0 => fun j => rfl
  | k + 1 => fun j => by
    show (putM (storeM m a ys k) (a + k) (ys[k]?.getD 0) j).isSome = _
    unfold putM
    by_cases e : j = (a + k) / 1024
    · subst e; rw [updM_same, Option.isSome_map]; exact storeM_some m a ys f hp k _
    · rw [updM_other _ _ _ _ e]; exact storeM_some m a ys f hp k j
theorem pageC_splice (l : Bool) (xs zs : List Int) (off : Nat) (hx : xs.length = 1024) (h : off + zs.length ≤ 1024) : (splice (pageC l xs).toList off (Ns .u8 zs)).toArray = pageC l (splice xs off zs) := by
  unfold pageC splice
  have h1 : off ≤ (Ns .u8 xs).length := by simp [Ns]; omega
  have h2 : off + zs.length ≤ (Ns .u8 xs).length := by simp [Ns]; omega
  dsimp only
  rw [List.take_append_of_le_length h1, Ns_len, List.drop_append_of_le_length h2]
  simp [Ns]
end Go.Proofs.Ytiddopgeomojbaa
