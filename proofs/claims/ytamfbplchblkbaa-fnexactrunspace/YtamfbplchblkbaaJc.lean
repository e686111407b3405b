import Derived.Test.YtamfbplchblkbaaJb
import Derived.Deep.MidRow
namespace Go.Proofs.Ytamfbplchblkbaa
open Go.RowKit Go.Shelf Go.Maps
set_option linter.unusedVariables false

/-- a struct is loaded from anywhere -/
theorem run_loadVar_at (w : World) (p : Addr) (ty : TypeId) (cs : List Value) (d : TypeDesc) (hc : ∀ j v, cs[j]? = some v → w.cell? (p.add j) = some v)
    (hu : Try.prog.underlying ty = some d) (hd : d.isRow = true) (hi : (Try.prog.info? ty).map (·.size) = some cs.length) :
    (loadVar ty p).run Try.prog w = .ok (.agg cs.toArray) w := by
  have hl : (loadCells p cs.length).run Try.prog w = .ok cs.toArray w := run_loadCells_list (P := Try.prog) w p cs hc
  cases hq : Try.prog.info? ty with
  | none => simp [hq] at hi
  | some i =>
    have hs : i.size = cs.length := by simpa [hq] using hi
    have hagg : (isAgg ty).run Try.prog w = .ok true w := by
      unfold isAgg
      rw [Sem.run_bind, run_underlying hu w]
      cases d <;> simp_all
    simp [loadVar, Sem.run_bind, hagg, sizeOf, typeInfo, hq, hs, hl]
theorem wpList_load_at {ops : Array Oper} {rest : List Oper} {op : Oper} {a : Act} {w : World} {Q : Exit → Act → World → Prop} (hgd : op.guard = none) (ty : TypeId) (x : Operand) (ho : op.op = .load ty x)
    (p : Addr) (hx : a.eval x = .pointer (some p)) (cs : List Value) (d : TypeDesc) (hc : ∀ j v, cs[j]? = some v → w.cell? (p.add j) = some v)
    (hu : Try.prog.underlying ty = some d) (hd : d.isRow = true) (hi : (Try.prog.info? ty).map (·.size) = some cs.length)
    (h : wpList Try.prog ops Q rest (a.put op.dst (.agg cs.toArray)) w) : wpList Try.prog ops Q (op :: rest) a w :=
  wpList_plain hgd fun _ hK => by
    unfold Oper.wp execOp
    simp only [ho, hx, Instr.loadAt, Instr.sureAddr, Sem.run_bind, Sem.run_pure, Result.andThen_ok, run_loadVar_at w p ty cs d hc hu hd hi]
    exact hK _ _ h
/-- an operation's cells -/
def opC (o : Op9) : List Value := [.int .i64 o.kd, .int .i64 o.p, .int .i64 o.c, .int .u64 o.a, .int .i64 o.n, .slice o.d o.dl o.dc]
/-- an operation that came in -/
def In1 (w : World) (o : Op9) : Prop := o.a < 18446744073709551616 ∧ o.p ≤ 9223372036854775807 ∧ o.dl ≤ maxLen ∧ ∃ zs, IsRow .u8 w o.d o.dl o.dc zs ∧ o.ys = zs.take o.dl
/-- the operations that came in -/
structure InO (w : World) (A : Option Addr) (len : Nat) (ops : List Op9) : Prop where
  hl : ops.length = len
  hm : len ≤ maxLen
  at_ : ∀ k o, ops[k]? = some o → ∃ x, A = some x ∧ (∀ j v, (opC o)[j]? = some v → w.cell? ((x.add (k * 6)).add j) = some v) ∧ In1 w o
theorem InO.below {w W : World} {A : Option Addr} {len : Nat} {ops : List Op9} (h : InO w A len ops) (hb : Below w.heap.size w W) : InO W A len ops :=
  ⟨h.hl, h.hm, fun k o ho => by
    obtain ⟨x, e, hc, h1, h2, h3, zs, h4, h5⟩ := h.at_ k o ho
    exact ⟨x, e, fun j v hv => below_cell hb (hc j v hv), h1, h2, h3, zs, h4.below hb, h5⟩⟩
def tot : List Op9 → Nat
  | [] => 0
  | o :: r => o.dl + tot r
theorem tot_app : ∀ (a b : List Op9), tot (a ++ b) = tot a + tot b
  | [], b => by simp [tot]
  | o :: r, b => by simp [tot, tot_app r b]; omega
theorem tot_take {ops : List Op9} {k : Nat} {o : Op9} (h : ops[k]? = some o) : tot (ops.take (k + 1)) = tot (ops.take k) + o.dl := by
  rw [List.take_add_one, h, tot_app]; simp [tot]
theorem tot_mem : ∀ {ops : List Op9} {o : Op9}, o ∈ ops → o.dl ≤ tot ops
  | p :: r, o, h => by
    rcases List.mem_cons.1 h with rfl | h1
    · simp [tot]
    · have := tot_mem h1; simp [tot]; omega

theorem szBy (d : Option Addr) (dl dc : Nat) (b : Nat) (w : World) (hb : b ≤ 1048576) (hd : dl ≤ maxLen) :
    Calls Try.prog 48 #[.slice d dl dc, .int .i64 b] w fun e w' => e = .returned (.int .i64 (if dl ≤ b then ((b - dl : Nat) : Int) else -1)) ∧ w' = w := by
  unfold maxLen at hd
  by_cases h : dl ≤ b
  · rw [if_pos h]
    have ht : ¬ ((b : Int) - dl < 0) := by omega
    have hw : (Lit.int .i64 ((b : Int) - dl)).wf = true := WalkArith.wf_i64 (by omega)
    have he : (b : Int) - dl = ((b - dl : Nat) : Int) := by omega
    go_enter Try.func48, Try.ntmps48
    go_wp2
    go_ret
    exact ⟨ret_int (by omega), rfl⟩
  · rw [if_neg h]
    have ht : ((b : Int) - dl < 0) := by omega
    have hw : (Lit.int .i64 ((b : Int) - dl)).wf = true := WalkArith.wf_i64 (by omega)
    go_enter Try.func48, Try.ntmps48
    go_wp2
    go_ret
    exact ⟨rfl, rfl⟩
theorem szOp (o : Op9) (b : Nat) (w : World) (hb : b ≤ 1048576) (hd : o.dl ≤ maxLen) :
    Calls Try.prog 26 #[.agg (opC o).toArray, .int .i64 b] w fun e w' => e = .returned (.int .i64 (if o.dl ≤ b then ((b - o.dl : Nat) : Int) else -1)) ∧ Below w.heap.size w w' := by
  have HS := hid (fun W => szBy o.d o.dl o.dc b W hb hd)
  have hB := hid (((Below.refl w.heap.size w).alloc (Nat.le_refl _) (.cells (opC o).toArray 61)))
  unfold opC at *
  have ht : ((if o.dl ≤ b then ((b - o.dl : Nat) : Int) else -1) < 0) ↔ ¬ o.dl ≤ b := by split <;> omega
  have hn : ¬ o.dl ≤ b → (if o.dl ≤ b then ((b - o.dl : Nat) : Int) else -1) = -1 := fun h => if_neg h
  generalize (if o.dl ≤ b then ((b - o.dl : Nat) : Int) else -1) = r at *
  by_cases h : o.dl ≤ b
  · have hr : ¬ (r < 0) := by omega
    go_enter Try.func26, Try.ntmps26
    go_wp2_with fail
    refine (HS.out _).mono ?_
    rintro e w1 ⟨rfl, rfl⟩
    go_wp2
    go_ret
    exact ⟨rfl, hB.out⟩
  · have hr : r < 0 := by omega
    go_enter Try.func26, Try.ntmps26
    go_wp2_with fail
    refine (HS.out _).mono ?_
    rintro e w1 ⟨rfl, rfl⟩
    go_wp2
    go_ret
    exact ⟨ret_int (hn h).symm, hB.out⟩

set_option maxHeartbeats 1000000 in
theorem szOps (A : Option Addr) (len cap : Nat) (ops : List Op9) (w : World) (h : InO w A len ops) :
    Calls Try.prog 10 #[.slice A len cap, .int .i64 1048576] w fun e w' => ∃ r : Int, e = .returned (.int .i64 r) ∧ (r < 0 ∨ len + tot ops ≤ 1048576) ∧ Below w.heap.size w w' := by
  have hm := h.hm
  unfold maxLen at hm
  have hw0 : (Lit.int .i64 (1048576 - (len : Int))).wf = true := WalkArith.wf_i64 (by omega)
  have HI := hid h
  clear h
  by_cases h0 : 1048576 < len
  · have ht : (1048576 - (len : Int) < 0) := by omega
    go_enter Try.func10, Try.ntmps10
    go_wp2
    go_ret
    exact ⟨_, rfl, .inl (by omega), Below.refl _ _⟩
  have ht : ¬ (1048576 - (len : Int) < 0) := by omega
  have B0 := hid (Below.refl w.heap.size w)
  go_enter Try.func10, Try.ntmps10
  go_wp2
  go_loopw [1, 5] (fun b i wr => ∃ k : Nat, k ≤ len ∧ i = .int .i64 k ∧ len + tot (ops.take k) ≤ 1048576 ∧ b = .int .i64 (1048576 - (len + tot (ops.take k)) : Nat) ∧ Hid (Below w.heap.size w wr)) (fun _ i _ => len - (intOf i).toNat)
  case atStart => exact ⟨0, Nat.zero_le _, rfl, by simp [tot]; omega, int_cast (by simp [tot]; omega), B0⟩
  case round =>
    obtain ⟨k, hk, rfl, hle, rfl, HB⟩ := hrel
    clear B0 hw0 ht
    by_cases hlt : k < len
    · obtain ⟨o, ho⟩ : ∃ o, ops[k]? = some o := ⟨_, List.getElem?_eq_getElem (by have := HI.out.hl; omega)⟩
      obtain ⟨x, rfl, hc, h1⟩ := (HI.out.below HB.out).at_ k o ho
      have HC := hid hc
      have HT := hid (tot_take ho)
      have hb0 : 1048576 - (len + tot (ops.take k)) ≤ 1048576 := by omega
      obtain ⟨b, hb⟩ : ∃ b, 1048576 - (len + tot (ops.take k)) = b := ⟨_, rfl⟩
      rw [hb] at hb0 ⊢
      have HS := hid (fun W => szOp o b W hb0 h1.2.2.1)
      have hn : ¬ o.dl ≤ b → (if o.dl ≤ b then ((b - o.dl : Nat) : Int) else -1) = -1 := fun h => if_neg h
      have hp : o.dl ≤ b → (if o.dl ≤ b then ((b - o.dl : Nat) : Int) else -1) = ((b - o.dl : Nat) : Int) := fun h => if_pos h
      generalize (if o.dl ≤ b then ((b - o.dl : Nat) : Int) else -1) = r at *
      have HN := hid hn
      have HPp := hid hp
      clear hc h1 ho hn hp
      go_wp2_with (first | (refine wpList_load_at rfl 61 _ rfl _ rfl (opC o) _ HC.out Try.underlying61 rfl (by kernel_rfl) ?_))
      refine (HS.out _).mono ?_
      rintro e w1 ⟨rfl, b1⟩
      have B1 := hid (below_trans HB.out b1 HB.out.size)
      clear b1 HB HC HS
      by_cases hd : o.dl ≤ b
      · have hr := HPp.out hd
        subst hr
        have ht : ¬ (((b - o.dl : Nat) : Int) < 0) := by omega
        go_wp2
        go_roundw
        case rel => exact ⟨k + 1, by omega, by go_num, by have := HT.out; omega, int_cast (by have := HT.out; omega), B1⟩
        case measure => simp [intOf]; omega
      · have hr := HN.out hd
        subst hr
        go_wp2
        go_ret
        exact ⟨_, rfl, .inl (by omega), B1.out⟩
    · have hkn : k = len := by omega
      subst hkn
      have ht : (ops.take k) = ops := List.take_of_length_le (by have := HI.out.hl; omega)
      rw [ht] at hle ⊢
      generalize 1048576 - (k + tot ops) = b
      go_wp2
      go_ret
      exact ⟨_, rfl, .inr hle, HB.out⟩
end Go.Proofs.Ytamfbplchblkbaa
