import Derived.Test.YtcefihmnnndleaaDoorScD
import Derived.Laws.OwnMore
import Derived.Deep.MidRow
import Derived.MapKept
namespace Go.Proofs.YtcefihmnnndleaaDoor
open Go.ChangeShapes Go.WideShapes Go.ChangeAt Go.RowKit
set_option linter.unusedVariables false

theorem list_app {P : Program} {t : TypeId} {ops : Array Oper} {rest : List Oper} {o : Oper} {a : Act} {w : World} {Q : Exit → Act → World → Prop} (hgd : o.guard = none) (s x : Operand)
    (ho : o.op = .call { callee := .builtin .append, args := #[s, x], argTypes := #[t, t] }) (ht : o.type = t) {v v2 v' : Value} {w' : World} (hs : a.eval s = v) (hx : a.eval x = v2)
    (hr : (Builtin.append_ #[t, t] t #[v, v2]).run P w = .ok v' w') (h : wpList P ops Q rest (a.put o.dst v') w') : wpList P ops Q (o :: rest) a w := by
  refine wpList_plain hgd fun K hK => ?_
  unfold Oper.wp
  simp [execOp, ho, ht, resolve, invoke, builtin, hs, hx, hr, Result.andThen]
  exact hK _ _ h

theorem al_last (w : World) (o : Obj) : (w.alloc o).heap[w.heap.size]? = some o := (MapKept.heap_alloc w o).1
theorem al_old (w : World) (o : Obj) (k : Nat) (h : k < w.heap.size) : (w.alloc o).heap[k]? = w.heap[k]? := (MapKept.heap_alloc w o).2 k h
/-- a slice type whose elements are sz cells -/
structure Sl1 (T e : TypeId) (z : Value) (sz bb : Nat) : Prop where
  und : Tryd.prog.underlying T = some (.slice e)
  info : (Tryd.prog.info? e).map (fun i => (i.zero, i.size, i.bytes)) = some (some z, sz, bb)
  cells : z.cells.size = sz
  pos : 0 < sz
  small : bb ≤ 100
theorem slBy : Sl1 22 5 (.int .u8 0) 1 1 := ⟨Tryd.underlying22, by kernel_rfl, rfl, by omega, by omega⟩
theorem slIn : Sl1 24 3 (.int .i64 0) 1 8 := ⟨Tryd.underlying24, by kernel_rfl, rfl, by omega, by omega⟩
theorem slLn : Sl1 40 22 (.slice none 0 0) 1 24 := ⟨Tryd.underlying40, by kernel_rfl, rfl, by omega, by omega⟩
theorem slSt : Sl1 42 9 (.string ByteArray.empty) 1 16 := ⟨Tryd.underlying42, by kernel_rfl, rfl, by omega, by omega⟩
theorem slOp : Sl1 27 45 (.agg #[.int .i64 0, .int .i64 0, .int .u64 0, .int .u64 0, .int .u64 0, .slice none 0 0]) 6 64 := ⟨Tryd.underlying27, by kernel_rfl, rfl, by omega, by omega⟩

/-- cells from anywhere are put behind an owned row -/
theorem appX {T e : TypeId} {z : Value} {sz bb : Nat} (S : Sl1 T e z sz bb) {W : World} {B : Nat} {v : Value} {n : Nat} {xs : List Value} (hown : W.ownsRow B e sz v n xs) (hB : B ≤ W.heap.size)
    (x : Addr) (m c : Nat) (cs : List Value) (hl : cs.length = m * sz) (hc : ∀ j u, cs[j]? = some u → W.cell? (x.add j) = some u) (h1 : ∀ u ∈ cs, u.oneCell' = true) (hn : n + m ≤ 2000000000) :
    ∃ v' w', (Builtin.append_ #[T, T] T #[v, .slice (some x) m c]).run Tryd.prog W = .ok v' w' ∧ w'.ownsRow B e sz v' (n + m) (xs ++ cs) ∧ W.grownBy w' v.ownBlock := by
  obtain ⟨i0, hi0, hz0, hz1, hz2⟩ := info_parts S.info
  have hbb : (n + m) * bb ≤ 2000000000 * 100 := Nat.mul_le_mul hn S.small
  obtain ⟨v', w', e1, e2, e3, _⟩ := run_append_own (P := Tryd.prog) W B T T e i0 _ sz bb S.und hi0 hz0 hz1 hz2 S.cells S.pos v n _ hown x m c cs hl hc h1 (by unfold maxLen; omega) (by omega) hB
  exact ⟨v', w', e1, e2, e3⟩
/-- one element more, just laid -/
theorem appE {T e : TypeId} {z : Value} {sz bb : Nat} (S : Sl1 T e z sz bb) {W0 W : World} {v : Value} {n : Nat} {xs : List Value} (hown : W.ownsRow W0.heap.size e sz v n xs) (hb : Below W0.heap.size W0 W)
    (c : Array Value) (hl : c.size = sz) (h1 : ∀ u ∈ c.toList, u.oneCell' = true) (hn : n ≤ 2000000) :
    ∃ v' w', (Builtin.append_ #[T, T] T #[v, .slice (some ⟨W.heap.size, 0, none⟩) 1 1]).run Tryd.prog (W.alloc (.cells c e)) = .ok v' w' ∧ w'.ownsRow W0.heap.size e sz v' (n + 1) (xs ++ c.toList) ∧ Below W0.heap.size W0 w' ∧ (W.alloc (.cells c e)).grownBy w' v.ownBlock := by
  have hb2 : Below W0.heap.size W0 (W.alloc (.cells c e)) := hb.alloc hb.size _
  have hown2 : (W.alloc (.cells c e)).ownsRow W0.heap.size e sz v n xs := hown.alloc _
  obtain ⟨v', w', e1, e2, e3⟩ := appX S hown2 hb2.size ⟨W.heap.size, 0, none⟩ 1 1 c.toList (by simp [hl]) (fun j u hj => by
    have hlast : (W.alloc (.cells c e)).heap[W.heap.size]? = some (.cells c e (0, 0)) := al_last _ _
    rw [Addr.add_mid, Nat.zero_add, cell_of_row _ _ j _ _ _ hlast]
    simpa using hj) h1 (by omega)
  exact ⟨v', w', e1, e2, hb2.grown e3 hb2.size (fun r h => (hown2.lt r h).1), e3⟩

theorem hex_snoc (l : List UInt8) (k : Nat) (c : UInt8) (h : l.drop k = c :: l.drop (k + 1)) : hexs (l.take (k + 1)) = hexs (l.take k) ++ [dgt c.toNat] ∧ allH (l.take (k + 1)) = (allH (l.take k) && decide (dgt c.toNat < 16)) := by
  have hk : l[k]? = some c := by rw [← List.head?_drop, h]; rfl
  rw [List.take_add_one, hk]
  simp [hexs, allH]
def hv (l : List UInt8) : List Value := (hexs l).map (fun n : Nat => Value.int .u8 (n : Int))
theorem hv_snoc (l : List UInt8) (k : Nat) (c : UInt8) (h : l.drop k = c :: l.drop (k + 1)) : hv (l.take (k + 1)) = hv (l.take k) ++ [.int .u8 ((dgt c.toNat : Nat) : Int)] := by
  rw [hv, (hex_snoc l k c h).1, List.map_append]; rfl
theorem allH_no {l : List UInt8} {k : Nat} {c : UInt8} (h : l.drop k = c :: l.drop (k + 1)) (hc : ¬ dgt c.toNat < 16) : allH l = false := by
  have : c ∈ l := List.mem_of_mem_drop (i := k) (by rw [h]; simp)
  rw [allH, Bool.eq_false_iff]
  intro ha
  exact hc (by simpa using List.all_eq_true.1 ha c this)
theorem nil_own (w : World) (e : TypeId) (sz : Nat) : w.ownsRow w.heap.size e sz (.slice none 0 0) 0 [] := ⟨by simp, .inl ⟨rfl, rfl⟩⟩
set_option maxHeartbeats 800000 in
theorem sp_hex (s : ByteArray) (w : World) (hs : s.size ≤ 1048576) :
    Calls Tryd.prog 28 #[.string s] w fun e w' => ∃ v, e = .returned (.tuple #[v, .bool (allH s.data.toList && decide (0 < s.size))]) ∧ (allH s.data.toList = false → v = .slice none 0 0) ∧ (allH s.data.toList = true → w'.ownsRow w.heap.size 5 1 v s.size (hv s.data.toList)) ∧ Below w.heap.size w w' := by
  obtain ⟨l, hl⟩ : ∃ l, l = s.data.toList := ⟨_, rfl⟩
  have hll : l.length = s.size := by rw [hl]; simp
  have HL := hid hl
  rw [← hl]
  clear hl
  obtain ⟨b, hb⟩ : ∃ b, b = allH l := ⟨_, rfl⟩
  rw [← hb]
  have HB := hid hb
  clear hb
  go_enter Tryd.func28, Tryd.ntmps28
  go_wp2
  go_loopw [4, 5] (fun v i wr => ∃ (k : Nat), k ≤ s.size ∧ i = .int .i64 (k : Int) ∧ Hid (allH (l.take k) = true) ∧ Hid (wr.ownsRow w.heap.size 5 1 v k (hv (l.take k))) ∧ Hid (Below w.heap.size w wr)) (fun _ i _ => s.size - (intOf i).toNat)
  case atStart => exact ⟨0, Nat.zero_le _, rfl, hid rfl, hid (nil_own w 5 1), hid (Below.refl _ w)⟩
  case round =>
    obtain ⟨k, hk, rfl, ha, ho, hbl⟩ := hrel
    by_cases hlt : k < s.size
    · have hc := hid (drop_cons s k hlt)
      rw [← HL.out] at hc
      have hbb := u8_lt s k hlt
      by_cases c1 : 48 ≤ s[k].toNat ∧ s[k].toNat ≤ 57
      · have e48 : decide ((48 : Int) ≤ ((s[k].toNat : Nat) : Int)) = true := by simp; omega
        have f48 : decide (((s[k].toNat : Nat) : Int) ≤ 57) = true := by simp; omega
        have hd : dgt s[k].toNat = s[k].toNat - 48 := by unfold dgt; rw [if_pos c1]
        have hd2 : ((dgt s[k].toNat : Nat) : Int) = ((s[k].toNat : Nat) : Int) - 48 := by rw [hd]; omega
        obtain ⟨v1, w1, e1, o1, b1, g1⟩ := appE slBy ho.out hbl.out #[.int .u8 (((s[k].toNat : Nat) : Int) - 48)] rfl (by simp [Value.oneCell']) (by omega)
        have O1 := hid (show w1.ownsRow w.heap.size 5 1 v1 (k + 1) (hv (l.take (k + 1))) by rw [hv_snoc l k _ hc.out, hd2]; exact o1)
        have A1 := hid (show allH (l.take (k + 1)) = true by rw [(hex_snoc l k _ hc.out).2, ha.out]; simp; omega)
        have B1 := hid b1
        clear o1 b1 g1 hd hd2 ho hbl ha
        go_wp2_with (at_builtin; refine list_app rfl (.tmp 23) (.tmp 26) (by with_reducible rfl) rfl rfl rfl e1 ?_)
        go_roundw
        case rel => exact ⟨k + 1, by omega, by go_num, A1, O1, B1⟩
        case measure => simp [intOf]; omega
      have n48 : (decide ((48 : Int) ≤ ((s[k].toNat : Nat) : Int)) && decide (((s[k].toNat : Nat) : Int) ≤ 57)) = false := by simp; omega
      by_cases c2 : 97 ≤ s[k].toNat ∧ s[k].toNat ≤ 102
      · have m48 : decide ((48 : Int) ≤ ((s[k].toNat : Nat) : Int)) = true := by simp; omega
        have m57 : decide (((s[k].toNat : Nat) : Int) ≤ 57) = false := by simp; omega
        have e97 : decide ((97 : Int) ≤ ((s[k].toNat : Nat) : Int)) = true := by simp; omega
        have f97 : decide (((s[k].toNat : Nat) : Int) ≤ 102) = true := by simp; omega
        have hd : dgt s[k].toNat = s[k].toNat - 87 := by unfold dgt; rw [if_neg c1, if_pos c2]
        have hd2 : ((dgt s[k].toNat : Nat) : Int) = ((s[k].toNat : Nat) : Int) - 97 + 10 := by rw [hd]; omega
        obtain ⟨v1, w1, e1, o1, b1, g1⟩ := appE slBy ho.out hbl.out #[.int .u8 (((s[k].toNat : Nat) : Int) - 97 + 10)] rfl (by simp [Value.oneCell']) (by omega)
        have O1 := hid (show w1.ownsRow w.heap.size 5 1 v1 (k + 1) (hv (l.take (k + 1))) by rw [hv_snoc l k _ hc.out, hd2]; exact o1)
        have A1 := hid (show allH (l.take (k + 1)) = true by rw [(hex_snoc l k _ hc.out).2, ha.out]; simp; omega)
        have B1 := hid b1
        clear o1 b1 g1 hd hd2 ho hbl ha
        go_wp2_with (at_builtin; refine list_app rfl (.tmp 35) (.tmp 39) (by with_reducible rfl) rfl rfl rfl e1 ?_)
        go_roundw
        case rel => exact ⟨k + 1, by omega, by go_num, A1, O1, B1⟩
        case measure => simp [intOf]; omega
      by_cases c3 : 65 ≤ s[k].toNat ∧ s[k].toNat ≤ 70
      · have m48 : decide ((48 : Int) ≤ ((s[k].toNat : Nat) : Int)) = true := by simp; omega
        have m57 : decide (((s[k].toNat : Nat) : Int) ≤ 57) = false := by simp; omega
        have m97 : decide ((97 : Int) ≤ ((s[k].toNat : Nat) : Int)) = false := by simp; omega
        have e65 : decide ((65 : Int) ≤ ((s[k].toNat : Nat) : Int)) = true := by simp; omega
        have f65 : decide (((s[k].toNat : Nat) : Int) ≤ 70) = true := by simp; omega
        have hd : dgt s[k].toNat = s[k].toNat - 55 := by unfold dgt; rw [if_neg c1, if_neg c2, if_pos c3]
        have hd2 : ((dgt s[k].toNat : Nat) : Int) = ((s[k].toNat : Nat) : Int) - 65 + 10 := by rw [hd]; omega
        obtain ⟨v1, w1, e1, o1, b1, g1⟩ := appE slBy ho.out hbl.out #[.int .u8 (((s[k].toNat : Nat) : Int) - 65 + 10)] rfl (by simp [Value.oneCell']) (by omega)
        have O1 := hid (show w1.ownsRow w.heap.size 5 1 v1 (k + 1) (hv (l.take (k + 1))) by rw [hv_snoc l k _ hc.out, hd2]; exact o1)
        have A1 := hid (show allH (l.take (k + 1)) = true by rw [(hex_snoc l k _ hc.out).2, ha.out]; simp; omega)
        have B1 := hid b1
        clear o1 b1 g1 hd hd2 ho hbl ha
        go_wp2_with (at_builtin; refine list_app rfl (.tmp 48) (.tmp 52) (by with_reducible rfl) rfl rfl rfl e1 ?_)
        go_roundw
        case rel => exact ⟨k + 1, by omega, by go_num, A1, O1, B1⟩
        case measure => simp [intOf]; omega
      have hd : dgt s[k].toNat = 16 := by unfold dgt; rw [if_neg c1, if_neg c2, if_neg c3]
      have HN := hid (show b = false from HB.out.trans (allH_no hc.out (by rw [hd]; omega)))
      have c1' : ¬ ((48 : Int) ≤ ((s[k].toNat : Nat) : Int) ∧ ((s[k].toNat : Nat) : Int) ≤ 57) := by omega
      have c2' : ¬ ((97 : Int) ≤ ((s[k].toNat : Nat) : Int) ∧ ((s[k].toNat : Nat) : Int) ≤ 102) := by omega
      have c3' : ¬ ((65 : Int) ≤ ((s[k].toNat : Nat) : Int) ∧ ((s[k].toNat : Nat) : Int) ≤ 70) := by omega
      clear hd
      go_wp2
      all_goals first | (exfalso; omega) | skip
      all_goals (try go_ret2)
      all_goals (rw [HN.out])
      all_goals exact ⟨_, rfl, (fun _ => rfl), (fun h => by cases h), hbl.out⟩
    · have hkk : k = s.size := by omega
      have hta : l.take k = l := List.take_of_length_le (by omega)
      rw [hta] at ha ho
      have HT := hid (show b = true from HB.out.trans ha.out)
      have HK := hid hkk
      clear hta hkk
      go_wp2
      go_ret2
      rw [HT.out]
      exact ⟨_, by simp; try omega, (fun h => by cases h), fun _ => HK.out ▸ ho.out, hbl.out⟩
end Go.Proofs.YtcefihmnnndleaaDoor
