import Derived.Test.YtamfbplchblkbaaImM
import Derived.Test.YtamfbplchblkbaaSpK
namespace Go.Proofs.Ytamfbplchblkbaa
open Go.RowKit Go.Shelf
set_option linter.unusedVariables false

theorem Im.lt {S M : Nat} {st n bud : Int} {f : Nat → Option Nat} {w : World} (h : Im S M st n bud f w) : S < w.heap.size ∧ M < w.heap.size := by
  obtain ⟨D, h1, h2⟩ := h.map
  exact ⟨lt_blk h.box, h1.lt⟩
theorem Im.setRow {S M : Nat} {st n bud : Int} {f : Nat → Option Nat} {w : World} (h : Im S M st n bud f w) {r : Nat} (h1 : r ≠ S) (h2 : r ≠ M) (cs : Array Value) : Im S M st n bud f (w.setRow r cs) := by
  have hg := grown_setRow w r cs
  obtain ⟨D, d1, d2⟩ := h.map
  exact ⟨(hg.block S (lt_blk h.box) (by simpa using Ne.symm h1)).trans h.box, D, d1.kept hg (by simpa using Ne.symm h2), d2⟩
/-- a block of another type is neither the space nor its map nor a page -/
theorem Im.apartT {S M : Nat} {st n bud : Int} {f : Nat → Option Nat} {m : Nat → Option (Bool × List Int)} {W : World} (h : Im S M st n bud f W) (hp : Pg f m W) {g : Nat} {c : Array Value} {t : TypeId} {fr : Nat × Nat} (hg : W.heap[g]? = some (.cells c t fr)) (h1 : t ≠ 77) (h2 : t ≠ 85) : g ≠ S ∧ g ≠ M ∧ ∀ k, f k ≠ some g := by
  refine ⟨?_, ?_, fun k hk => ?_⟩
  · rintro rfl
    have := h.box
    rw [hg] at this
    simp at this
    exact h1 this.2.1
  · rintro rfl
    obtain ⟨D, ⟨es, clock, hb, _⟩, _⟩ := h.map
    rw [hg] at hb
    cases hb
  · rcases hp.at' k with ⟨e1, _⟩ | ⟨b, l, xs, e1, _, _, e4⟩
    · rw [hk] at e1; cases e1
    · rw [hk] at e1
      cases e1
      rw [hg] at e4
      simp at e4
      exact h2 e4.2.1
theorem Pg.other {f : Nat → Option Nat} {m : Nat → Option (Bool × List Int)} {W W' : World} (h : Pg f m W) (hk : ∀ k b, f k = some b → W'.heap[b]? = W.heap[b]?) : Pg f m W' :=
  ⟨fun k => (h.at' k).imp id fun ⟨b, l, xs, e1, e2, e3, e4⟩ => ⟨b, l, xs, e1, e2, e3, (hk k b e1).trans e4⟩, h.inj⟩
/-- a step of impl's space under way: the lock is held -/
structure Dl (w : World) (op : Array Value) (S M : Nat) (nn bud : Int) (f f' : Nat → Option Nat) (m : Nat → Option (Bool × List Int)) (O Rb : Nat) (V : World) : Prop where
  im : Im S M 1 nn bud f' V
  pg : Pg f' m V
  fr : Fr S M f f' w V
  o : V.heap[O]? = some (.cells op 34 (0, 0))
  r : V.heap[Rb]? = some (.cells #[.int .i64 0, .slice none 0 0] 36 (0, 0))
  hO : O = w.heap.size
  hR : Rb = w.heap.size + 1
theorem Dl.first {S M : Nat} {n bud : Int} {f : Nat → Option Nat} {m : Nat → Option (Bool × List Int)} {w : World} (h : Im S M 0 n bud f w) (hp : Pg f m w) (op : Array Value) : Dl w op S M n bud f f m w.heap.size (w.heap.size + 1) (((w.alloc (.cells op 34)).alloc (.cells #[.int .i64 0, .slice none 0 0] 36)).setCell ⟨S, 0, none⟩ (.int .i32 1)) := by
  have hl := h.lt
  have i2 := (h.alloc (.cells op 34)).alloc (.cells #[.int .i64 0, .slice none 0 0] 36)
  have p2 := (hp.alloc (.cells op 34)).alloc (.cells #[.int .i64 0, .slice none 0 0] 36)
  refine ⟨i2.st 1, p2.other (fun k b hb => Below.heap_setCell _ _ _ _ (p2.apart i2 hb).1), ?_, ?_, ?_, rfl, rfl⟩
  · have b2 : Below w.heap.size w ((w.alloc (.cells op 34)).alloc (.cells #[.int .i64 0, .slice none 0 0] 36)) := ((Below.refl _ _).alloc (Nat.le_refl _) _).alloc (by rw [al_size]; omega) _
    have g2 := grown_set (grown_refl ((w.alloc (.cells op 34)).alloc (.cells #[.int .i64 0, .slice none 0 0] 36)) S) 0 (.int .i32 1)
    exact ⟨g2.os.trans b2.os, g2.tape.trans b2.tape, g2.output.trans b2.output, Nat.le_trans b2.size g2.size, fun g h1 h2 h3 h4 => (g2.block g (Nat.lt_of_lt_of_le h1 b2.size) (by simpa using h2)).trans (b2.block g h1), fun k g hk => .inl ⟨k, hk⟩⟩
  · rw [Below.heap_setCell _ _ _ _ (by show w.heap.size ≠ S; omega), al_old _ _ _ (by rw [al_size]; omega)]
    exact al_last _ _
  · rw [Below.heap_setCell _ _ _ _ (by show w.heap.size + 1 ≠ S; omega), ← al_size w (.cells op 34)]
    exact al_last _ _
theorem Dl.move {S M O Rb : Nat} {n bud : Int} {f f' f'' : Nat → Option Nat} {m m' : Nat → Option (Bool × List Int)} {w V V' : World} {op : Array Value} (h : Dl w op S M n bud f f' m O Rb V) (hi : Im S M 1 n bud f'' V') (hp : Pg f'' m' V') (hf : Fr S M f' f'' V V') : Dl w op S M n bud f f'' m' O Rb V' := by
  obtain ⟨a1, a2, a3⟩ := h.im.apartT h.pg h.o (by decide) (by decide)
  obtain ⟨b1, b2, b3⟩ := h.im.apartT h.pg h.r (by decide) (by decide)
  exact ⟨hi, hp, h.fr.trans hf, (hf.block O (lt_blk h.o) a1 a2 a3).trans h.o, (hf.block Rb (lt_blk h.r) b1 b2 b3).trans h.r, h.hO, h.hR⟩
/-- a step's end -/
def Ims (S M : Nat) (n bud : Int) (f : Nat → Option Nat) (m : Nat → Option (Bool × List Int)) (w w' : World) : Prop := ∃ f', Im S M 0 n bud f' w' ∧ Pg f' m w' ∧ Fr S M f f' w w'
/-- the answer lies in the result's block, the lock may be given back -/
theorem Dl.done {S M O Rb : Nat} {n bud : Int} {f f' : Nat → Option Nat} {m : Nat → Option (Bool × List Int)} {w V : World} {op : Array Value} (h : Dl w op S M n bud f f' m O Rb V) (cs : Array Value) : (V.setRow Rb cs).cell? ⟨S, 0, none⟩ = some (.int .i32 1) ∧ (V.setRow Rb cs).frozen? ⟨S, 0, none⟩ = false ∧ ((V.setRow Rb cs).setCell ⟨S, 0, none⟩ (.int .i32 0)).heap[Rb]? = some (.cells cs 36 (0, 0)) ∧ Ims S M n bud f m w ((V.setRow Rb cs).setCell ⟨S, 0, none⟩ (.int .i32 0)) := by
  obtain ⟨n1, n2, n3⟩ := h.im.apartT h.pg h.r (by decide) (by decide)
  have i2 := h.im.setRow n1 n2 cs
  have g1 := grown_setRow V Rb cs
  have p2 : Pg f' m (V.setRow Rb cs) := h.pg.other (fun k b hb => g1.block b (by
    rcases h.pg.at' k with ⟨e1, _⟩ | ⟨b', l, xs, e1, _, _, e4⟩
    · rw [hb] at e1; cases e1
    · rw [hb] at e1; cases e1; exact lt_blk e4) (fun e => by cases e; exact n3 k hb))
  have g2 := grown_set (grown_refl (V.setRow Rb cs) S) 0 (.int .i32 0)
  refine ⟨by simp [World.cell?, i2.box], by simp [World.frozen?, i2.box], ?_, f', i2.st 0, p2.other (fun k b hb => Below.heap_setCell _ _ _ _ (p2.apart i2 hb).1), ?_⟩
  · rw [Below.heap_setCell _ _ _ _ n1]
    exact setRow_at h.r cs
  · have hR := h.hR
    exact ⟨g2.os.trans (g1.os.trans h.fr.os), g2.tape.trans (g1.tape.trans h.fr.tape), g2.output.trans (g1.output.trans h.fr.output), Nat.le_trans h.fr.size (Nat.le_trans g1.size g2.size), fun g h1 h2 h3 h4 => (g2.block g (Nat.lt_of_lt_of_le h1 (Nat.le_trans h.fr.size g1.size)) (by simpa using h2)).trans ((g1.block g (Nat.lt_of_lt_of_le h1 h.fr.size) (by simp; omega)).trans (h.fr.block g h1 h2 h3 h4)), h.fr.made⟩

set_option maxHeartbeats 1000000 in
/-- an operation of no kind -/
theorem run_none (S M : Nat) (nn bud : Int) (f : Nat → Option Nat) (m : Nat → Option (Bool × List Int)) (kd p c : Int) (a : Nat) (n : Int) (d : Option Addr) (dl dc : Nat) (w : World) (h : Im S M 0 nn bud f w) (hp : Pg f m w) (hk : kd < 0 ∨ 5 < kd) :
    Calls Try.prog 20 #[.pointer (some ⟨S, 0, none⟩), opV kd p c a n d dl dc] w fun e w' => e = .returned (.agg #[.int .i64 6, .slice none 0 0]) ∧ Ims S M nn bud f m w w' := by
  have k0 : ¬ kd = 0 := by omega
  have k1 : ¬ kd = 1 := by omega
  have k2 : ¬ kd = 2 := by omega
  have k3 : ¬ kd = 3 := by omega
  have k4 : ¬ kd = 4 := by omega
  have k5 : ¬ kd = 5 := by omega
  have HI := hid h
  have HP := hid hp
  clear h hk hp
  unfold opV
  go_enter_defers Try.func20, Try.ntmps20
  go_wp2_with fail
  refine (im_lock ((HI.out.alloc _).alloc _)).mono ?_
  rintro e V ⟨rfl, hV⟩
  have D0 := hid (Dl.first HI.out HP.out #[.int .i64 kd, .int .i64 p, .int .i64 c, .int .u64 a, .int .i64 n, .slice d dl dc])
  rw [← hV] at D0
  clear hV HI HP
  generalize hRe : w.heap.size + 1 = Rb at D0 ⊢
  generalize w.heap.size = O at D0 ⊢
  have cK : V.cell? ⟨O, 0, none⟩ = some (.int .i64 kd) := by simp [World.cell?, D0.out.o]
  go_wp2_with (refine wpList_store_row rfl 36 _ _ rfl _ _ rfl rfl 36 _ D0.out.r (by kernel_rfl) rfl (by simp [Value.oneCell']) ?_)
  have E0 := D0.out.done #[.int .i64 6, .slice none 0 0]
  refine leaves_cons (f := 37) (args := #[.pointer (some ⟨S, 0, none⟩)]) (by simp) (by simp [go_sem]) ?_
  refine (Go.MuLone.unlock_deferred muLib ⟨S, 0, none⟩ .returning _ E0.1 E0.2.1).mono ?_
  rintro e u' w'' ⟨rfl, rfl, rfl⟩
  exact ⟨_, results_cell_row (by rfl) _ _ Rb 36 _ (0, 0) _ (by rfl) E0.2.2.1 Try.underlying36 rfl (by kernel_rfl), rfl, E0.2.2.2⟩

set_option maxHeartbeats 1000000 in
theorem run_commit (S M : Nat) (nn bud : Int) (f : Nat → Option Nat) (m m' : Nat → Option (Bool × List Int)) (code : Int) (p c : Int) (a : Nat) (n : Int) (d : Option Addr) (dl dc : Nat) (w : World) (h : Im S M 0 nn bud f w) (hp : Pg f m w)
    (hc : ∀ V, Im S M 1 nn bud f V → Pg f m V → Calls Try.prog 38 #[.pointer (some ⟨S, 0, none⟩), .int .i64 p, .int .i64 c] V fun e w' => e = .returned (.int .i64 code) ∧ ∃ f', Im S M 1 nn bud f' w' ∧ Pg f' m' w' ∧ Fr S M f f' V w') :
    Calls Try.prog 20 #[.pointer (some ⟨S, 0, none⟩), opV 0 p c a n d dl dc] w fun e w' => e = .returned (.agg #[.int .i64 code, .slice none 0 0]) ∧ Ims S M nn bud f m' w w' := by
  have HI := hid h
  have HP := hid hp
  have HC := hid hc
  clear h hp hc
  unfold opV
  go_enter_defers Try.func20, Try.ntmps20
  go_wp2_with fail
  refine (im_lock ((HI.out.alloc _).alloc _)).mono ?_
  rintro e V ⟨rfl, hV⟩
  have D0 := hid (Dl.first HI.out HP.out #[.int .i64 0, .int .i64 p, .int .i64 c, .int .u64 a, .int .i64 n, .slice d dl dc])
  rw [← hV] at D0
  clear hV HI HP
  generalize hRe : w.heap.size + 1 = Rb at D0 ⊢
  generalize w.heap.size = O at D0 ⊢
  have cK : V.cell? ⟨O, 0, none⟩ = some (.int .i64 0) := by simp [World.cell?, D0.out.o]
  have cP : V.cell? ⟨O, 1, none⟩ = some (.int .i64 p) := by simp [World.cell?, D0.out.o]
  have cC : V.cell? ⟨O, 2, none⟩ = some (.int .i64 c) := by simp [World.cell?, D0.out.o]
  go_wp2_with fail
  refine (HC.out V D0.out.im D0.out.pg).mono ?_
  rintro e V2 ⟨rfl, f', i2, p2, r2⟩
  have D2 := hid (D0.out.move i2 p2 r2)
  clear i2 p2 r2 D0 HC cK cP cC
  go_wp2_with (refine wpList_store_row rfl 36 _ _ rfl _ _ rfl rfl 36 _ D2.out.r (by kernel_rfl) rfl (by simp [Value.oneCell']) ?_)
  have E0 := D2.out.done #[.int .i64 code, .slice none 0 0]
  refine leaves_cons (f := 37) (args := #[.pointer (some ⟨S, 0, none⟩)]) (by simp) (by simp [go_sem]) ?_
  refine (Go.MuLone.unlock_deferred muLib ⟨S, 0, none⟩ .returning _ E0.1 E0.2.1).mono ?_
  rintro e u' w'' ⟨rfl, rfl, rfl⟩
  exact ⟨_, results_cell_row (by rfl) _ _ Rb 36 _ (0, 0) _ (by rfl) E0.2.2.1 Try.underlying36 rfl (by kernel_rfl), rfl, E0.2.2.2⟩

set_option maxHeartbeats 1000000 in
theorem run_decommit (S M : Nat) (nn bud : Int) (f : Nat → Option Nat) (m m' : Nat → Option (Bool × List Int)) (code : Int) (p c : Int) (a : Nat) (n : Int) (d : Option Addr) (dl dc : Nat) (w : World) (h : Im S M 0 nn bud f w) (hp : Pg f m w)
    (hc : ∀ V, Im S M 1 nn bud f V → Pg f m V → Calls Try.prog 39 #[.pointer (some ⟨S, 0, none⟩), .int .i64 p, .int .i64 c] V fun e w' => e = .returned (.int .i64 code) ∧ ∃ f', Im S M 1 nn bud f' w' ∧ Pg f' m' w' ∧ Fr S M f f' V w') :
    Calls Try.prog 20 #[.pointer (some ⟨S, 0, none⟩), opV 1 p c a n d dl dc] w fun e w' => e = .returned (.agg #[.int .i64 code, .slice none 0 0]) ∧ Ims S M nn bud f m' w w' := by
  have HI := hid h
  have HP := hid hp
  have HC := hid hc
  clear h hp hc
  unfold opV
  go_enter_defers Try.func20, Try.ntmps20
  go_wp2_with fail
  refine (im_lock ((HI.out.alloc _).alloc _)).mono ?_
  rintro e V ⟨rfl, hV⟩
  have D0 := hid (Dl.first HI.out HP.out #[.int .i64 1, .int .i64 p, .int .i64 c, .int .u64 a, .int .i64 n, .slice d dl dc])
  rw [← hV] at D0
  clear hV HI HP
  generalize hRe : w.heap.size + 1 = Rb at D0 ⊢
  generalize w.heap.size = O at D0 ⊢
  have cK : V.cell? ⟨O, 0, none⟩ = some (.int .i64 1) := by simp [World.cell?, D0.out.o]
  have cP : V.cell? ⟨O, 1, none⟩ = some (.int .i64 p) := by simp [World.cell?, D0.out.o]
  have cC : V.cell? ⟨O, 2, none⟩ = some (.int .i64 c) := by simp [World.cell?, D0.out.o]
  go_wp2_with fail
  refine (HC.out V D0.out.im D0.out.pg).mono ?_
  rintro e V2 ⟨rfl, f', i2, p2, r2⟩
  have D2 := hid (D0.out.move i2 p2 r2)
  clear i2 p2 r2 D0 HC cK cP cC
  go_wp2_with (refine wpList_store_row rfl 36 _ _ rfl _ _ rfl rfl 36 _ D2.out.r (by kernel_rfl) rfl (by simp [Value.oneCell']) ?_)
  have E0 := D2.out.done #[.int .i64 code, .slice none 0 0]
  refine leaves_cons (f := 37) (args := #[.pointer (some ⟨S, 0, none⟩)]) (by simp) (by simp [go_sem]) ?_
  refine (Go.MuLone.unlock_deferred muLib ⟨S, 0, none⟩ .returning _ E0.1 E0.2.1).mono ?_
  rintro e u' w'' ⟨rfl, rfl, rfl⟩
  exact ⟨_, results_cell_row (by rfl) _ _ Rb 36 _ (0, 0) _ (by rfl) E0.2.2.1 Try.underlying36 rfl (by kernel_rfl), rfl, E0.2.2.2⟩

set_option maxHeartbeats 1000000 in
theorem run_lock (S M : Nat) (nn bud : Int) (f : Nat → Option Nat) (m m' : Nat → Option (Bool × List Int)) (code : Int) (p c : Int) (a : Nat) (n : Int) (d : Option Addr) (dl dc : Nat) (w : World) (h : Im S M 0 nn bud f w) (hp : Pg f m w)
    (hc : ∀ V, Im S M 1 nn bud f V → Pg f m V → Calls Try.prog 40 #[.pointer (some ⟨S, 0, none⟩), .int .i64 p, .int .i64 c, .bool true] V fun e w' => e = .returned (.int .i64 code) ∧ ∃ f', Im S M 1 nn bud f' w' ∧ Pg f' m' w' ∧ Fr S M f f' V w') :
    Calls Try.prog 20 #[.pointer (some ⟨S, 0, none⟩), opV 2 p c a n d dl dc] w fun e w' => e = .returned (.agg #[.int .i64 code, .slice none 0 0]) ∧ Ims S M nn bud f m' w w' := by
  have HI := hid h
  have HP := hid hp
  have HC := hid hc
  clear h hp hc
  unfold opV
  go_enter_defers Try.func20, Try.ntmps20
  go_wp2_with fail
  refine (im_lock ((HI.out.alloc _).alloc _)).mono ?_
  rintro e V ⟨rfl, hV⟩
  have D0 := hid (Dl.first HI.out HP.out #[.int .i64 2, .int .i64 p, .int .i64 c, .int .u64 a, .int .i64 n, .slice d dl dc])
  rw [← hV] at D0
  clear hV HI HP
  generalize hRe : w.heap.size + 1 = Rb at D0 ⊢
  generalize w.heap.size = O at D0 ⊢
  have cK : V.cell? ⟨O, 0, none⟩ = some (.int .i64 2) := by simp [World.cell?, D0.out.o]
  have cP : V.cell? ⟨O, 1, none⟩ = some (.int .i64 p) := by simp [World.cell?, D0.out.o]
  have cC : V.cell? ⟨O, 2, none⟩ = some (.int .i64 c) := by simp [World.cell?, D0.out.o]
  go_wp2_with fail
  refine (HC.out V D0.out.im D0.out.pg).mono ?_
  rintro e V2 ⟨rfl, f', i2, p2, r2⟩
  have D2 := hid (D0.out.move i2 p2 r2)
  clear i2 p2 r2 D0 HC cK cP cC
  go_wp2_with (refine wpList_store_row rfl 36 _ _ rfl _ _ rfl rfl 36 _ D2.out.r (by kernel_rfl) rfl (by simp [Value.oneCell']) ?_)
  have E0 := D2.out.done #[.int .i64 code, .slice none 0 0]
  refine leaves_cons (f := 37) (args := #[.pointer (some ⟨S, 0, none⟩)]) (by simp) (by simp [go_sem]) ?_
  refine (Go.MuLone.unlock_deferred muLib ⟨S, 0, none⟩ .returning _ E0.1 E0.2.1).mono ?_
  rintro e u' w'' ⟨rfl, rfl, rfl⟩
  exact ⟨_, results_cell_row (by rfl) _ _ Rb 36 _ (0, 0) _ (by rfl) E0.2.2.1 Try.underlying36 rfl (by kernel_rfl), rfl, E0.2.2.2⟩

set_option maxHeartbeats 1000000 in
theorem run_unlock (S M : Nat) (nn bud : Int) (f : Nat → Option Nat) (m m' : Nat → Option (Bool × List Int)) (code : Int) (p c : Int) (a : Nat) (n : Int) (d : Option Addr) (dl dc : Nat) (w : World) (h : Im S M 0 nn bud f w) (hp : Pg f m w)
    (hc : ∀ V, Im S M 1 nn bud f V → Pg f m V → Calls Try.prog 40 #[.pointer (some ⟨S, 0, none⟩), .int .i64 p, .int .i64 c, .bool false] V fun e w' => e = .returned (.int .i64 code) ∧ ∃ f', Im S M 1 nn bud f' w' ∧ Pg f' m' w' ∧ Fr S M f f' V w') :
    Calls Try.prog 20 #[.pointer (some ⟨S, 0, none⟩), opV 3 p c a n d dl dc] w fun e w' => e = .returned (.agg #[.int .i64 code, .slice none 0 0]) ∧ Ims S M nn bud f m' w w' := by
  have HI := hid h
  have HP := hid hp
  have HC := hid hc
  clear h hp hc
  unfold opV
  go_enter_defers Try.func20, Try.ntmps20
  go_wp2_with fail
  refine (im_lock ((HI.out.alloc _).alloc _)).mono ?_
  rintro e V ⟨rfl, hV⟩
  have D0 := hid (Dl.first HI.out HP.out #[.int .i64 3, .int .i64 p, .int .i64 c, .int .u64 a, .int .i64 n, .slice d dl dc])
  rw [← hV] at D0
  clear hV HI HP
  generalize hRe : w.heap.size + 1 = Rb at D0 ⊢
  generalize w.heap.size = O at D0 ⊢
  have cK : V.cell? ⟨O, 0, none⟩ = some (.int .i64 3) := by simp [World.cell?, D0.out.o]
  have cP : V.cell? ⟨O, 1, none⟩ = some (.int .i64 p) := by simp [World.cell?, D0.out.o]
  have cC : V.cell? ⟨O, 2, none⟩ = some (.int .i64 c) := by simp [World.cell?, D0.out.o]
  go_wp2_with fail
  refine (HC.out V D0.out.im D0.out.pg).mono ?_
  rintro e V2 ⟨rfl, f', i2, p2, r2⟩
  have D2 := hid (D0.out.move i2 p2 r2)
  clear i2 p2 r2 D0 HC cK cP cC
  go_wp2_with (refine wpList_store_row rfl 36 _ _ rfl _ _ rfl rfl 36 _ D2.out.r (by kernel_rfl) rfl (by simp [Value.oneCell']) ?_)
  have E0 := D2.out.done #[.int .i64 code, .slice none 0 0]
  refine leaves_cons (f := 37) (args := #[.pointer (some ⟨S, 0, none⟩)]) (by simp) (by simp [go_sem]) ?_
  refine (Go.MuLone.unlock_deferred muLib ⟨S, 0, none⟩ .returning _ E0.1 E0.2.1).mono ?_
  rintro e u' w'' ⟨rfl, rfl, rfl⟩
  exact ⟨_, results_cell_row (by rfl) _ _ Rb 36 _ (0, 0) _ (by rfl) E0.2.2.1 Try.underlying36 rfl (by kernel_rfl), rfl, E0.2.2.2⟩
end Go.Proofs.Ytamfbplchblkbaa
