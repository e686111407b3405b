import Derived.Test.YtcefihmnnndleaaDoorNuB
import Derived.Test.YtcefihmnnndleaaDoorScJ
namespace Go.Proofs.YtcefihmnnndleaaDoor
open Go.ChangeShapes Go.WideShapes Go.ChangeAt Go.RowKit
set_option linter.unusedVariables false
set_option maxRecDepth 20000

/-- an error that says: unclear -/
def Ue (a1 : Addr) (v : Value) : Prop := v = .iface 141 (.pointer (some a1)) ∨ ∃ s, v = wE s a1
theorem Ue.word (s : ByteArray) (a1 : Addr) : Ue a1 (wE s a1) := .inr ⟨s, rfl⟩
/-- no error, or one that says: unclear -/
def Er (a1 : Addr) (ok : Bool) (v : Value) : Prop := if ok then v = .nilIface else Ue a1 v
theorem im_number_s (s : ByteArray) (base most n : Nat) (a1 : Addr) (w : World) (hs : s.size ≤ 1048576) (hb1 : 1 ≤ base) (hb : base ≤ 16) (hm : most ≤ 20) (h1 : w.cell? ⟨1, 0, none⟩ = some (.iface 141 (.pointer (some a1)))) (h : numM base most s.data.toList = some n) :
    Calls Tryd.prog 49 #[.string s, .int .u64 (base : Int), .int .i64 (most : Int)] w fun e w' => e = .returned (.tuple #[.int .u64 (n : Int), .nilIface]) ∧ Below w.heap.size w w' := by
  refine (im_number s base most a1 w hs hb1 hb hm h1).mono ?_
  rintro e w' ⟨rfl, hb⟩
  rw [h]
  exact ⟨rfl, hb⟩
theorem im_number_n (s : ByteArray) (base most : Nat) (a1 : Addr) (w : World) (hs : s.size ≤ 1048576) (hb1 : 1 ≤ base) (hb : base ≤ 16) (hm : most ≤ 20) (h1 : w.cell? ⟨1, 0, none⟩ = some (.iface 141 (.pointer (some a1)))) (h : numM base most s.data.toList = none) :
    Calls Tryd.prog 49 #[.string s, .int .u64 (base : Int), .int .i64 (most : Int)] w fun e w' => e = .returned (.tuple #[.int .u64 0, wE s a1]) ∧ Below w.heap.size w w' := by
  refine (im_number s base most a1 w hs hb1 hb hm h1).mono ?_
  rintro e w' ⟨rfl, hb⟩
  rw [h]
  exact ⟨rfl, hb⟩
set_option maxHeartbeats 400000 in
theorem im_cut_y (s : ByteArray) (c : UInt8) (w : World) (h : fst s.data.toList = c.toNat) (h0 : 0 < c.toNat) :
    Calls Tryd.prog 51 #[.string s, .string ⟨#[c]⟩] w fun e w' => e = .returned (.tuple #[.string (s.extract 1 s.size), .bool true]) ∧ w' = w := by
  have hz : 0 < s.size := by
    by_cases hz : 0 < s.size
    · exact hz
    · rw [list_none s hz] at h; simp [fst] at h; omega
  rw [fst_of s hz] at h
  have hc : (s.extract 0 1).toList = [c] := by
    rw [Lib.toList_data, ext_list, List.drop_zero]
    have := drop_cons s 0 hz
    rw [List.drop_zero] at this
    rw [this]
    simp
    exact UInt8.toNat_inj.1 h
  have hc2 : (ByteArray.mk #[c]).toList = [c] := by rw [Lib.toList_data]
  have hge : decide ((1 : Int) ≤ (s.size : Int)) = true := by simp; omega
  have hs1 : (ByteArray.mk #[c]).size = 1 := rfl
  clear h
  generalize ByteArray.mk #[c] = t at hc2 hs1
  go_enter Tryd.func51, Tryd.ntmps51
  go_wp2
  go_ret2
  exact ⟨rfl, rfl⟩
set_option maxHeartbeats 400000 in
theorem im_cut_n (s : ByteArray) (c : UInt8) (w : World) (h : ¬ fst s.data.toList = c.toNat) :
    Calls Tryd.prog 51 #[.string s, .string ⟨#[c]⟩] w fun e w' => e = .returned (.tuple #[.string s, .bool false]) ∧ w' = w := by
  have hc2 : (ByteArray.mk #[c]).toList = [c] := by rw [Lib.toList_data]
  have hs1 : (ByteArray.mk #[c]).size = 1 := rfl
  by_cases hz : 0 < s.size
  · rw [fst_of s hz] at h
    have hc : (s.extract 0 1).toList = [s[0]] := by
      rw [Lib.toList_data, ext_list, List.drop_zero]
      have := drop_cons s 0 hz
      rw [List.drop_zero] at this
      rw [this]
      simp
    have hne : ([s[0]] == [c]) = false := by
      rw [beq_eq_false_iff_ne]
      intro e
      exact h (by rw [(List.cons.inj e).1])
    have hge : decide ((1 : Int) ≤ (s.size : Int)) = true := by simp; omega
    clear h
    generalize ByteArray.mk #[c] = t at hc2 hs1
    go_enter Tryd.func51, Tryd.ntmps51
    go_wp2
    all_goals first | (exfalso; simp_all; done) | skip
    go_ret2
    exact ⟨rfl, rfl⟩
  · have hge : decide ((1 : Int) ≤ (s.size : Int)) = false := by simp; omega
    clear h
    generalize ByteArray.mk #[c] = t at hc2 hs1
    go_enter Tryd.func51, Tryd.ntmps51
    go_wp2
    go_ret2
    exact ⟨rfl, rfl⟩
/-- a distance -/
def distM (l : List UInt8) : Option Nat := (numM 10 9 l.tail).map (fun n : Nat => if fst l = 45 then negM n else n)
set_option maxHeartbeats 400000 in
theorem im_distance_n (s : ByteArray) (a1 : Addr) (w : World) (hs : s.size ≤ 1048576) (hz : 0 < s.size) (h1 : w.cell? ⟨1, 0, none⟩ = some (.iface 141 (.pointer (some a1)))) (h : distM s.data.toList = none) :
    Calls Tryd.prog 53 #[.string s] w fun e w' => ∃ v, e = .returned (.tuple #[.int .u64 0, v]) ∧ Ue a1 v ∧ Below w.heap.size w w' := by
  have hn : numM 10 9 (s.extract 1 s.size).data.toList = none := by
    rw [ext_tail]
    cases h9 : numM 10 9 s.data.toList.tail with
    | none => rfl
    | some n => rw [distM, h9] at h; cases h
  have hC := im_number_n (s.extract 1 s.size) 10 9 a1 w (by rw [ext_size]; omega) (by omega) (by omega) (by omega) h1 hn
  clear h hn
  unfold wE at hC
  by_cases h45 : s[0].toNat = 45
  · have h45' : (((s[0].toNat : Nat) : Int) == 45) = true := by rw [beq_iff_eq]; omega
    go_enter Tryd.func53, Tryd.ntmps53
    go_wp2_with (go_at_call 49; refine hC.mono ?_; rintro e w' ⟨rfl, hb⟩)
    go_ret2
    exact ⟨_, rfl, .inr ⟨_, rfl⟩, hb⟩
  · have h45' : (((s[0].toNat : Nat) : Int) == 45) = false := by rw [beq_eq_false_iff_ne]; omega
    go_enter Tryd.func53, Tryd.ntmps53
    go_wp2_with (go_at_call 49; refine hC.mono ?_; rintro e w' ⟨rfl, hb⟩)
    go_ret2
    exact ⟨_, rfl, .inr ⟨_, rfl⟩, hb⟩
set_option maxHeartbeats 400000 in
theorem im_distance_s (s : ByteArray) (n : Nat) (a1 : Addr) (w : World) (hs : s.size ≤ 1048576) (hz : 0 < s.size) (h1 : w.cell? ⟨1, 0, none⟩ = some (.iface 141 (.pointer (some a1)))) (h : distM s.data.toList = some n) :
    Calls Tryd.prog 53 #[.string s] w fun e w' => e = .returned (.tuple #[.int .u64 (n : Int), .nilIface]) ∧ Below w.heap.size w w' := by
  obtain ⟨m, hn, hm⟩ : ∃ m, numM 10 9 (s.extract 1 s.size).data.toList = some m ∧ n = if fst s.data.toList = 45 then negM m else m := by
    rw [ext_tail]
    cases h9 : numM 10 9 s.data.toList.tail with
    | none => rw [distM, h9] at h; cases h
    | some m => rw [distM, h9] at h; simp at h; exact ⟨m, rfl, h.symm⟩
  have hC := im_number_s (s.extract 1 s.size) 10 9 m a1 w (by rw [ext_size]; omega) (by omega) (by omega) (by omega) h1 hn
  have hlt := numM_lt hn
  rw [fst_of s hz] at hm
  have HM := hid hm
  clear h hn hm
  by_cases h45 : s[0].toNat = 45
  · have h45' : (((s[0].toNat : Nat) : Int) == 45) = true := by rw [beq_iff_eq]; omega
    go_enter Tryd.func53, Tryd.ntmps53
    go_wp2_with (go_at_call 49; refine hC.mono ?_; rintro e w' ⟨rfl, hb⟩)
    go_ret2
    refine ⟨?_, hb⟩
    rw [HM.out, if_pos h45, ← wrap_neg hlt]; rfl
  · have h45' : (((s[0].toNat : Nat) : Int) == 45) = false := by rw [beq_eq_false_iff_ne]; omega
    go_enter Tryd.func53, Tryd.ntmps53
    go_wp2_with (go_at_call 49; refine hC.mono ?_; rintro e w' ⟨rfl, hb⟩)
    go_ret2
    refine ⟨?_, hb⟩
    rw [HM.out, if_neg h45]; rfl
def nil0 : Value := .slice none 0 0
/-- what a part's setter leaves -/
def PartP (a1 : Addr) (O : Nat) (w w' : World) (r : Option OpS) (e : Ending) : Prop := w.grownBy w' (some O) ∧ match r with
  | some o' => e = .returned .nilIface ∧ ∃ dv, Bx w' O 45 (opC o' dv) ∧ w'.ownsRow w.heap.size 5 1 dv o'.data.length (dv8 o'.data) ∧ (o'.data = [] → dv = nil0)
  | none => ∃ v, e = .returned v ∧ Ue a1 v
def PartC (f : Nat) (c : UInt8) (nums : Nat) : Prop := ∀ (a1 : Addr) (O : Nat) (o : OpS) (s : ByteArray) (w : World), s.size ≤ 1048576 → 0 < s.size → w.cell? ⟨1, 0, none⟩ = some (.iface 141 (.pointer (some a1))) → O ≠ 1 → Bx w O 45 (opC o nil0) → o.data = [] →
  Calls Tryd.prog f #[.pointer (some ⟨O, 0, none⟩), .string s] w fun e w' => PartP a1 O w w' (partM c s.data.toList nums o) e
theorem gb_below {w w' : World} {O : Option Nat} (h : Below w.heap.size w w') : w.grownBy w' O := ⟨h.os, h.tape, h.output, h.size, fun k hk _ => h.block k hk⟩
theorem gb_trans {a b c : World} {O : Option Nat} (h : a.grownBy b O) (k : b.grownBy c O) : a.grownBy c O := ⟨k.os.trans h.os, k.tape.trans h.tape, k.output.trans h.output, Nat.le_trans h.size k.size, fun i hi hne => (k.block i (Nat.lt_of_lt_of_le hi h.size) hne).trans (h.block i hi hne)⟩
theorem gb_cell {w w' : World} {O : Nat} (h : w.grownBy w' (some O)) {a : Addr} {v : Value} (ha : w.cell? a = some v) (hne : a.block ≠ O) : w'.cell? a = some v := by
  have hl : a.block < w.heap.size := by
    unfold World.cell? at ha
    split at ha
    · rename_i h1; exact lt_of_block h1
    · cases ha
  have := h.block a.block hl (by simpa using hne)
  unfold World.cell? at ha ⊢
  rw [this]; exact ha
set_option maxHeartbeats 400000 in
theorem im_setA : PartC 40 78 0 := by
  intro a1 O o s w hs hpos h1 hO hbx hd
  have e78 : partM 78 s.data.toList 0 o = (numM 10 20 s.data.toList).map (fun n => { o with a := n }) := by rw [partM, if_pos (by decide)]; rfl
  rw [e78]
  clear e78
  have HB := hid hbx
  cases hn : numM 10 20 s.data.toList with
  | none =>
    have hC := im_number_n s 10 20 a1 w hs (by omega) (by omega) (by omega) h1 hn
    clear hn
    unfold wE at hC
    go_enter Tryd.func40, Tryd.ntmps40
    go_wp2_with fail
    refine hC.mono ?_
    rintro e w' ⟨rfl, hb⟩
    have b2 := hbx.below hb hbx.lt
    have c3 : w'.cell? ⟨O, 3, none⟩ = some (.int .u64 (o.a : Int)) := b2.cell 3
    have f3 := b2.free 3
    generalize o.a = oa at c3
    clear hC b2
    go_wp2_with fail
    go_ret
    exact ⟨grown_set (gb_below hb) 3 _, ⟨_, rfl, .inr ⟨_, rfl⟩⟩⟩
  | some n =>
    have hC := im_number_s s 10 20 n a1 w hs (by omega) (by omega) (by omega) h1 hn
    clear hn
    go_enter Tryd.func40, Tryd.ntmps40
    go_wp2_with fail
    refine hC.mono ?_
    rintro e w' ⟨rfl, hb⟩
    have b2 := hbx.below hb hbx.lt
    have B3 := hid (b2.set 3 (.int .u64 (n : Int)))
    have c3 : w'.cell? ⟨O, 3, none⟩ = some (.int .u64 (o.a : Int)) := b2.cell 3
    have f3 := b2.free 3
    generalize o.a = oa at c3
    clear hC b2
    go_wp2_with fail
    go_ret
    exact ⟨grown_set (gb_below hb) 3 _, rfl, nil0, B3.out, by rw [hd]; exact ⟨by simp [dv8], .inl ⟨rfl, rfl⟩⟩, fun _ => rfl⟩
set_option maxHeartbeats 400000 in
theorem im_setB : PartC 41 78 1 := by
  intro a1 O o s w hs hpos h1 hO hbx hd
  have e78 : partM 78 s.data.toList 1 o = (numM 10 20 s.data.toList).map (fun n => { o with b := n }) := by rw [partM, if_pos (by decide)]; rfl
  rw [e78]
  clear e78
  cases hn : numM 10 20 s.data.toList with
  | none =>
    have hC := im_number_n s 10 20 a1 w hs (by omega) (by omega) (by omega) h1 hn
    clear hn
    unfold wE at hC
    go_enter Tryd.func41, Tryd.ntmps41
    go_wp2_with fail
    refine hC.mono ?_
    rintro e w' ⟨rfl, hb⟩
    have b2 := hbx.below hb hbx.lt
    have c3 : w'.cell? ⟨O, 4, none⟩ = some (.int .u64 (o.b : Int)) := b2.cell 4
    have f3 := b2.free 4
    generalize o.b = oa at c3
    clear hC b2
    go_wp2_with fail
    go_ret
    exact ⟨grown_set (gb_below hb) 4 _, ⟨_, rfl, .inr ⟨_, rfl⟩⟩⟩
  | some n =>
    have hC := im_number_s s 10 20 n a1 w hs (by omega) (by omega) (by omega) h1 hn
    clear hn
    go_enter Tryd.func41, Tryd.ntmps41
    go_wp2_with fail
    refine hC.mono ?_
    rintro e w' ⟨rfl, hb⟩
    have b2 := hbx.below hb hbx.lt
    have B3 := hid (b2.set 4 (.int .u64 (n : Int)))
    have c3 : w'.cell? ⟨O, 4, none⟩ = some (.int .u64 (o.b : Int)) := b2.cell 4
    have f3 := b2.free 4
    generalize o.b = oa at c3
    clear hC b2
    go_wp2_with fail
    go_ret
    exact ⟨grown_set (gb_below hb) 4 _, rfl, nil0, B3.out, by rw [hd]; exact ⟨by simp [dv8], .inl ⟨rfl, rfl⟩⟩, fun _ => rfl⟩
end Go.Proofs.YtcefihmnnndleaaDoor
