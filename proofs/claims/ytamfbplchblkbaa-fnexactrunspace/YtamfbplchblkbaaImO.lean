import Derived.Test.YtamfbplchblkbaaImN
import Derived.Test.YtamfbplchblkbaaSpS
namespace Go.Proofs.Ytamfbplchblkbaa
open Go.RowKit Go.Shelf
set_option linter.unusedVariables false

set_option maxHeartbeats 1000000 in
theorem run_store (S M : Nat) (nn bud : Int) (f : Nat → Option Nat) (m m' : Nat → Option (Bool × List Int)) (code : Int) (p c : Int) (a : Nat) (n : Int) (d : Option Addr) (dl dc : Nat) (w : World) (h : Im S M 0 nn bud f w) (hp : Pg f m w)
    (hc : ∀ V, Im S M 1 nn bud f V → Pg f m V → Fr S M f f w V → Calls Try.prog 42 #[.pointer (some ⟨S, 0, none⟩), .int .u64 a, .slice d dl dc] V fun e w' => e = .returned (.int .i64 code) ∧ ∃ f', Im S M 1 nn bud f' w' ∧ Pg f' m' w' ∧ Fr S M f f' V w') :
    Calls Try.prog 20 #[.pointer (some ⟨S, 0, none⟩), opV 5 p c a n d dl dc] w fun e w' => e = .returned (.agg #[.int .i64 code, .slice none 0 0]) ∧ Ims S M nn bud f m' w w' := by
  have HI := hid h
  have HP := hid hp
  have HC := hid hc
  clear h hp hc
  unfold opV
  go_enter_defers Try.func20, Try.ntmps20
  go_wp2_with fail
  refine (im_lock ((HI.out.alloc _).alloc _)).mono ?_
  rintro e V ⟨rfl, hV⟩
  have D0 := hid (Dl.first HI.out HP.out #[.int .i64 5, .int .i64 p, .int .i64 c, .int .u64 a, .int .i64 n, .slice d dl dc])
  rw [← hV] at D0
  clear hV HI HP
  generalize hRe : w.heap.size + 1 = Rb at D0 ⊢
  generalize w.heap.size = O at D0 ⊢
  have cK : V.cell? ⟨O, 0, none⟩ = some (.int .i64 5) := by simp [World.cell?, D0.out.o]
  have cA : V.cell? ⟨O, 3, none⟩ = some (.int .u64 a) := by simp [World.cell?, D0.out.o]
  have cD : V.cell? ⟨O, 5, none⟩ = some (.slice d dl dc) := by simp [World.cell?, D0.out.o]
  go_wp2_with fail
  refine (HC.out V D0.out.im D0.out.pg D0.out.fr).mono ?_
  rintro e V2 ⟨rfl, f', i2, p2, r2⟩
  have D2 := hid (D0.out.move i2 p2 r2)
  clear i2 p2 r2 D0 HC cK cA cD
  go_wp2_with (refine wpList_store_row rfl 36 _ _ rfl _ _ rfl rfl 36 _ D2.out.r (by kernel_rfl) rfl (by simp [Value.oneCell']) ?_)
  have E0 := D2.out.done #[.int .i64 code, .slice none 0 0]
  refine leaves_cons (f := 37) (args := #[.pointer (some ⟨S, 0, none⟩)]) (by simp) (by simp [go_sem]) ?_
  refine (Go.MuLone.unlock_deferred muLib ⟨S, 0, none⟩ .returning _ E0.1 E0.2.1).mono ?_
  rintro e u' w'' ⟨rfl, rfl, rfl⟩
  exact ⟨_, results_cell_row (by rfl) _ _ Rb 36 _ (0, 0) _ (by rfl) E0.2.2.1 Try.underlying36 rfl (by kernel_rfl), rfl, E0.2.2.2⟩

theorem Dl.own {S M O Rb : Nat} {n bud : Int} {f f' : Nat → Option Nat} {m : Nat → Option (Bool × List Int)} {w V : World} {op : Array Value} (h : Dl w op S M n bud f f' m O Rb V) {B : Nat} {v : Value} {k : Nat} {xs : List Value} (ho : V.ownsRow B 5 1 v k xs) (hB : w.heap.size ≤ B) (cs : Array Value) : ((V.setRow Rb cs).setCell ⟨S, 0, none⟩ (.int .i32 0)).ownsRow w.heap.size 5 1 v k xs := by
  obtain ⟨n1, n2, n3⟩ := h.im.apartT h.pg h.r (by decide) (by decide)
  have i2 := h.im.setRow n1 n2 cs
  refine own_mono ?_ hB
  refine (ho.kept (grown_setRow V Rb cs) (.inr fun e => ?_)).kept (grown_set (grown_refl _ S) 0 _) (.inr fun e => ?_)
  · obtain ⟨c', hc'⟩ := own_type ho e
    rw [h.r] at hc'
    simp at hc'
  · obtain ⟨c', hc'⟩ := own_type ho e
    rw [h.im.box] at hc'
    simp at hc'

set_option maxHeartbeats 1000000 in
theorem run_load (S M : Nat) (nn bud : Int) (f : Nat → Option Nat) (m : Nat → Option (Bool × List Int)) (code : Int) (xs : List Int) (p c : Int) (a : Nat) (n : Int) (d : Option Addr) (dl dc : Nat) (w : World) (h : Im S M 0 nn bud f w) (hp : Pg f m w)
    (hc : ∀ V, Im S M 1 nn bud f V → Pg f m V → Calls Try.prog 41 #[.pointer (some ⟨S, 0, none⟩), .int .u64 a, .int .i64 n] V fun e w' => ∃ v, e = .returned (.agg #[.int .i64 code, v]) ∧ w'.ownsRow V.heap.size 5 1 v xs.length (Ns .u8 xs) ∧ Im S M 1 nn bud f w' ∧ Pg f m w' ∧ Fr S M f f V w') :
    Calls Try.prog 20 #[.pointer (some ⟨S, 0, none⟩), opV 4 p c a n d dl dc] w fun e w' => ∃ v, e = .returned (.agg #[.int .i64 code, v]) ∧ w'.ownsRow w.heap.size 5 1 v xs.length (Ns .u8 xs) ∧ Ims S M nn bud f m w w' := by
  have HI := hid h
  have HP := hid hp
  have HC := hid hc
  clear h hp hc
  unfold opV
  go_enter_defers Try.func20, Try.ntmps20
  go_wp2_with fail
  refine (im_lock ((HI.out.alloc _).alloc _)).mono ?_
  rintro e V ⟨rfl, hV⟩
  have D0 := hid (Dl.first HI.out HP.out #[.int .i64 4, .int .i64 p, .int .i64 c, .int .u64 a, .int .i64 n, .slice d dl dc])
  rw [← hV] at D0
  clear hV HI HP
  generalize hRe : w.heap.size + 1 = Rb at D0 ⊢
  generalize hOe : w.heap.size = O at D0 ⊢
  have cK : V.cell? ⟨O, 0, none⟩ = some (.int .i64 4) := by simp [World.cell?, D0.out.o]
  have cA : V.cell? ⟨O, 3, none⟩ = some (.int .u64 a) := by simp [World.cell?, D0.out.o]
  have cD : V.cell? ⟨O, 4, none⟩ = some (.int .i64 n) := by simp [World.cell?, D0.out.o]
  have HZ := hid D0.out.fr.size
  go_wp2_with fail
  refine (HC.out V D0.out.im D0.out.pg).mono ?_
  rintro e V2 ⟨v, rfl, ho, i2, p2, r2⟩
  have D2 := hid (D0.out.move i2 p2 r2)
  have HW := hid ho
  clear i2 p2 r2 D0 HC cK cA cD ho
  go_wp2_with (refine wpList_store_row rfl 36 _ _ rfl _ _ rfl rfl 36 _ D2.out.r (by kernel_rfl) rfl (own_one HW.out _) ?_)
  have E0 := D2.out.done #[.int .i64 code, v]
  have E1 := D2.out.own HW.out HZ.out #[.int .i64 code, v]
  refine leaves_cons (f := 37) (args := #[.pointer (some ⟨S, 0, none⟩)]) (by simp) (by simp [go_sem]) ?_
  refine (Go.MuLone.unlock_deferred muLib ⟨S, 0, none⟩ .returning _ E0.1 E0.2.1).mono ?_
  rintro e u' w'' ⟨rfl, rfl, rfl⟩
  exact ⟨_, results_cell_row (by rfl) _ _ Rb 36 _ (0, 0) _ (by rfl) E0.2.2.1 Try.underlying36 rfl (by kernel_rfl), v, rfl, E1, E0.2.2.2⟩
end Go.Proofs.Ytamfbplchblkbaa
