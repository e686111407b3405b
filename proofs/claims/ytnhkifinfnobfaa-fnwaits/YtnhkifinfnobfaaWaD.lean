import Derived.Test.YtnhkifinfnobfaaWaC
namespace Go.Proofs.Ytnhkifinfnobfaa
open Go.ChangeShapes Go.WideShapes Go.ChangeAt Go.RowKit
set_option linter.unusedVariables false

set_option maxHeartbeats 400000 in
theorem qpush_full (G r n o k : Nat) (ps : List Int) (x d : Int) (w : World) (hb : w.heap[G]? = some (.cells #[.slice (some ⟨r, 0, none⟩) n n, .int .i64 (o : Nat), .int .i64 (n : Nat)] 66 (0, 0))) (hr : RowV w r 3 (Ns .i64 ps)) (hn : ps.length = n) (ho : o < n) (hnl : n ≤ 1024) (hk : (o + 1) % n = k) :
    Calls Try.prog 56 #[.pointer (some ⟨G, 0, none⟩), .int .i64 x, .int .i64 d] w fun e w' => e = .returned (.int .i64 (ps[o]?.getD 0)) ∧ w'.heap[G]? = some (.cells #[.slice (some ⟨r, 0, none⟩) n n, .int .i64 (k : Nat), .int .i64 (n : Nat)] 66 (0, 0)) ∧ RowV w' r 3 (Ns .i64 (ps.set o x)) ∧ But (fun k => k = G ∨ k = r) w w' := by
  have hne : G ≠ r := hr.ne hb (by decide)
  have c0 : w.cell? ⟨G, 0, none⟩ = some (.slice (some ⟨r, 0, none⟩) n n) := by rw [cell_of_row _ _ _ _ _ _ hb]; rfl
  have c1 : w.cell? ⟨G, 1, none⟩ = some (.int .i64 (o : Nat)) := by rw [cell_of_row _ _ _ _ _ _ hb]; rfl
  have c2 : w.cell? ⟨G, 2, none⟩ = some (.int .i64 (n : Nat)) := by rw [cell_of_row _ _ _ _ _ _ hb]; rfl
  have SW := hid (swap_in G r n n o 0 o ps x w.drew (by rw [Nat.add_zero, Nat.mod_eq_of_lt ho]) hn (by omega) (by omega) (by omega) (by omega) c0 c1 hr)
  have HB := hid hb
  have h1 : ((n : Int) == 0) = false := by simp; omega
  have he : ((o : Int) + 1) % (n : Int) = (k : Int) := by rw [← hk]; simp
  clear hb hr hn hk
  go_enter Try.func56, Try.ntmps56
  go_wp2
  go_region
  go_wp2_with fail
  refine (SW.out).mono ?_
  rintro e w1 ⟨rfl, r1, g1⟩
  have hS1 := hid (cell_blk (k := G) g1 HB.out hne)
  have R1 := hid r1
  have G1 := hid g1
  clear r1 g1 c0 c1 c2
  have c0 : w1.cell? ⟨G, 0, none⟩ = some (.slice (some ⟨r, 0, none⟩) n n) := by rw [cell_of_row _ _ _ _ _ _ hS1.out]; rfl
  have c1 : w1.cell? ⟨G, 1, none⟩ = some (.int .i64 (o : Nat)) := by rw [cell_of_row _ _ _ _ _ _ hS1.out]; rfl
  have f1 : w1.frozen? ⟨G, 1, none⟩ = false := frozen_of_row _ _ _ _ _ hS1.out
  go_wp2
  go_region
  rw [he]
  go_wp2
  go_ret
  refine ⟨rfl, ?_, ?_, ?_⟩
  · show (w1.setCell ⟨G, 1, none⟩ _).heap[G]? = _
    rw [heap_setCell_same _ _ _ _ _ _ hS1.out]; rfl
  · exact (R1.out.other (by simpa using hne.symm) _).drew
  · exact (((But.refl _ w).drew.trans (.ofGrown G1.out (.inr rfl))).set _ _ _ (.inl rfl)).drew

theorem drop_set_lt (ps : List Int) (o : Nat) (x : Int) (h : o < ps.length) : (ps.set o x).drop (o + 1) = ps.drop (o + 1) := by
  rw [List.drop_set_of_lt (by omega)]
theorem take_set_succ (ps : List Int) (o : Nat) (x : Int) (h : o < ps.length) : (ps.set o x).take (o + 1) = ps.take o ++ [x] := by
  rw [List.take_add_one, List.take_set_of_le (Nat.le_refl _)]
  simp [h]

theorem qpush (G r n : Nat) (xs : List Int) (x d : Int) (w : World) (h : Qu w G r n xs) (hnl : n ≤ 1024) :
    Calls Try.prog 56 #[.pointer (some ⟨G, 0, none⟩), .int .i64 x, .int .i64 d] w fun e w' => e = .returned (.int .i64 (pushF n xs x).2) ∧ Qu w' G r n (pushF n xs x).1 ∧ But (fun k => k = G ∨ k = r) w w' := by
  obtain ⟨ps, o, h, hb, hr, hn, ho, hh, h0, rfl⟩ := h
  by_cases hlt : h < n
  · obtain rfl := h0 hlt
    refine (qpush_more G r n h ps x d w hb hr hn hlt hnl).mono ?_
    rintro e w' ⟨rfl, b, c, f⟩
    have e1 : (ps.drop 0 ++ ps.take 0).take h = ps.take h := by simp
    have e2 : pushF n (ps.take h) x = (ps.take h ++ [x], -1) := by
      unfold pushF
      rw [if_pos (by simp; omega)]
    rw [e1, e2]
    refine ⟨rfl, ⟨ps.set h x, 0, h + 1, b, c, by simpa using hn, ho, by omega, fun _ => rfl, ?_⟩, f⟩
    simp only [List.drop_zero, List.take_zero, List.append_nil]
    rw [take_set_succ _ _ _ (by omega)]
  · have hhn : h = n := by omega
    subst hhn
    refine (qpush_full G r h o _ ps x d w hb hr hn ho hnl rfl).mono ?_
    rintro e w' ⟨rfl, b, c, f⟩
    have hd : ps.drop o = (ps[o]?.getD 0) :: ps.drop (o + 1) := by
      rw [List.drop_eq_getElem_cons (by omega)]
      congr 1
      rw [List.getElem?_eq_getElem (by omega)]; rfl
    have e1 : (ps.drop o ++ ps.take o).take h = ps.drop o ++ ps.take o := List.take_of_length_le (by simp; omega)
    have e2 : pushF h (ps.drop o ++ ps.take o) x = (ps.drop (o + 1) ++ ps.take o ++ [x], ps[o]?.getD 0) := by
      unfold pushF
      rw [if_neg (by simp; omega), hd]
      rfl
    rw [e1, e2]
    refine ⟨rfl, ⟨ps.set o x, _, h, b, c, by simpa using hn, Nat.mod_lt _ (by omega), by omega, fun h => by omega, ?_⟩, f⟩
    by_cases hl : o + 1 < h
    · rw [Nat.mod_eq_of_lt hl, drop_set_lt _ _ _ (by omega), take_set_succ _ _ _ (by omega), List.take_of_length_le (l := ps.drop (o + 1) ++ (ps.take o ++ [x])) (by simp; omega), List.append_assoc]
    · have ho1 : o + 1 = h := by omega
      rw [ho1, Nat.mod_self]
      simp only [List.drop_zero, List.take_zero, List.append_nil]
      rw [List.drop_of_length_le (by omega), List.nil_append, ← ho1, take_set_succ _ _ _ (by omega)]

/-- what a quarantine becomes when a slot is pushed: its places, its row, and what leaves it -/
def wpM (n : Nat) (mix fifo : List Int) (slot draw : Int) : List Int × List Int × Int :=
  if mix = [] then ([], (pushF n fifo slot).1, (pushF n fifo slot).2)
  else if mix[md draw mix.length]?.getD 0 = -1 then (mix.set (md draw mix.length) slot, fifo, -1)
  else (mix.set (md draw mix.length) slot, (pushF n fifo (mix[md draw mix.length]?.getD 0)).1, (pushF n fifo (mix[md draw mix.length]?.getD 0)).2)
end Go.Proofs.Ytnhkifinfnobfaa
