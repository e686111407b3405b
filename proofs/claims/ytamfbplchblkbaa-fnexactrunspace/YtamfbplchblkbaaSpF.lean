import Derived.Test.YtamfbplchblkbaaSpE
import Derived.Test.YtamfbplchblkbaaInts
namespace Go.Proofs.Ytamfbplchblkbaa
open Go.RowKit Go.Shelf
set_option linter.unusedVariables false

/-- the open pages below k -/
def opensM (m : Nat → Option (Bool × List Int)) : Nat → List Int
  | 0 => []
  | k + 1 => if isOpen (m k) then opensM m k ++ [(k : Int)] else opensM m k
theorem opensM_len (m : Nat → Option (Bool × List Int)) : ∀ k, (opensM m k).length ≤ k
  | 0 => Nat.le_refl _
  | k + 1 => by have := opensM_len m k; simp only [opensM]; split <;> simp <;> omega
theorem Try.info3Op : (Try.prog.info? 3).map (fun i => (i.zero, i.size, i.bytes)) = some (some (.int .i64 0), 1, 8) := by kernel_rfl

theorem one_new (W : World) (x : Value) (t : TypeId) (b : Nat) (hb : W.heap.size = b) : ∀ j u, [x][j]? = some u → (W.alloc (.cells #[x] t)).cell? ((⟨b, 0, none⟩ : Addr).add j) = some u := by
  subst hb
  intro j u h
  cases j with
  | zero =>
    simp at h
    subst h
    rw [show (⟨W.heap.size, 0, none⟩ : Addr).add 0 = ⟨W.heap.size, 0, none⟩ from rfl, World.cell?_alloc_at _ _ _ _ rfl]
    rfl
  | succ j => simp at h
theorem own_base {A : World} {base : Nat} {e : TypeId} {v : Value} {n : Nat} {xs : List Value} (h : A.ownsRow base e 1 v n xs) : ∀ r, v.ownBlock = some r → base ≤ r := by
  intro r e
  rcases h.2 with ⟨rfl, _⟩ | ⟨g, cap, cur, rfl, hg, hb, _⟩
  · cases e
  · cases e
    exact hg

set_option maxHeartbeats 400000 in
theorem opened_any (T Q n : Nat) (bud : Int) (m : Nat → Option (Bool × List Int)) (w : World) (h : Sx T Q n bud m w) (hn : n ≤ 4096) :
    Calls Try.prog 25 #[.pointer (some ⟨T, 0, none⟩)] w fun e w' => ∃ v, e = .returned v ∧ w'.ownsRow w.heap.size 3 1 v (opensM m n).length (Ns .i64 (opensM m n)) ∧ Below w.heap.size w w' := by
  obtain ⟨i0, hi0, hz0, hz1, hz2⟩ := info_parts Try.info3Op
  obtain ⟨c1, c2⟩ := h.c
  have HS := hid h
  clear h
  go_enter Try.func25, Try.ntmps25
  go_wp2
  go_loopw [3, 11] (fun v i wr => ∃ k : Nat, k ≤ n ∧ i = .int .i64 k ∧ Hid (wr.ownsRow w.heap.size 3 1 v (opensM m k).length (Ns .i64 (opensM m k))) ∧ Hid (Below w.heap.size w wr)) (fun _ i _ => n - (intOf i).toNat)
  case atStart => exact ⟨0, Nat.zero_le _, rfl, hid ⟨rfl, .inl ⟨rfl, rfl⟩⟩, hid (Below.refl _ _)⟩
  case round =>
    obtain ⟨k, hk, rfl, hrow, hbel⟩ := hrel
    by_cases hlt : k < n
    · obtain ⟨op, p, l, c, d1, d2, d3, e4⟩ := HS.out.three k hlt
      have d1 := below_cell hbel.out d1
      have d2 := below_cell hbel.out d2
      have d3 := below_cell hbel.out d3
      have hle := opensM_len m k
      have HB := hid (hbel.out.alloc hbel.out.size (.cells #[.bool (m k).isSome, .bool op, .slice p l c] 92))
      have HR := hid (hrow.out.alloc (.cells #[.bool (m k).isSome, .bool op, .slice p l c] 92))
      cases hm : isOpen (m k)
      · have HO := hid (show opensM m (k + 1) = opensM m k by simp only [opensM]; rw [hm]; rfl)
        rw [hm] at e4
        clear hm hrow hbel
        generalize (m k).isSome = on at *
        cases on
        · go_wp2
          go_roundw
          case rel => exact ⟨k + 1, by omega, by go_num, by rw [HO.out]; exact HR, HB⟩
          case measure => simp [intOf]; omega
        · simp only [Bool.true_and] at e4
          subst e4
          go_wp2
          go_roundw
          case rel => exact ⟨k + 1, by omega, by go_num, by rw [HO.out]; exact HR, HB⟩
          case measure => simp [intOf]; omega
      · have HO := hid (show opensM m (k + 1) = opensM m k ++ [(k : Int)] by simp only [opensM]; rw [hm]; rfl)
        rw [hm] at e4
        clear hm hrow hbel
        generalize (m k).isSome = on at *
        cases on
        · simp at e4
        · simp only [Bool.true_and] at e4
          subst e4
          have HR2 := hid (HR.out.alloc (.cells #[.int .i64 k] 3))
          have HB2 := hid (HB.out.alloc HB.out.size (.cells #[.int .i64 k] 3))
          go_wp2_with (at_builtin; refine wpList_append_own _ rfl _ _ 27 rfl w.heap.size 3 i0 (.int .i64 0) 1 8 Try.underlying27 hi0 hz0 hz1 hz2 rfl (by omega) _ _ _ rfl HR2.out _ 1 1 [.int .i64 k] rfl rfl ?hc ?h1c ?b1 ?b2 ?b3 ?_)
          case hc => exact one_new _ _ _ _ (by simp)
          case h1c => intro u hu; simp at hu; subst hu; rfl
          case b1 => unfold maxLen; omega
          case b2 => omega
          case b3 => exact HB2.out.size
          intro v1 w1 ho1 hg1 _
          have HN := hid (And.intro ho1 (HB2.out.grown hg1 HB2.out.size (own_base HR2.out)))
          clear ho1 hg1
          go_wp2
          go_roundw
          case rel => exact ⟨k + 1, by omega, by go_num, hid (by rw [HO.out]; simpa [Ns] using HN.out.1), hid HN.out.2⟩
          case measure => simp [intOf]; omega
    · have hkc : k = n := by omega
      subst hkc
      go_wp2
      go_ret
      exact ⟨_, rfl, hrow.out, hbel.out⟩
end Go.Proofs.Ytamfbplchblkbaa
