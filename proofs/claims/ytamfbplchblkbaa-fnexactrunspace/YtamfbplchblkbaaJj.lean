import Derived.Test.YtamfbplchblkbaaJi
namespace Go.Proofs.Ytamfbplchblkbaa
open Go.RowKit Go.Shelf Go.Maps
set_option linter.unusedVariables false

/-- answers that are marked -/
structure Dn (g : Nat) (l : List An) (k0 : Nat) (W : World) : Prop where
  cel : ∀ (i : Nat) (x : An), l[i]? = some x → W.cell? ⟨g, i * 2 + 1, none⟩ = some x.2
  don : ∀ (i : Nat) (x : An), l[i]? = some x → W.cell? ⟨g, i * 2, none⟩ = some (.int .i64 (mkA k0 l i : Nat)) ∧ Rz W x.2 (rampBy (mkA k0 l i + 1) x.1.2.length)
theorem Mk.dn {w W : World} {g k0 : Nat} {l : List An} (h : Mk w g l k0 l.length W) : Dn g l k0 W :=
  ⟨h.cel, fun i x hx => h.don i x hx (List.getElem?_eq_some_iff.1 hx).1⟩
theorem Dn.keep {W W' : World} {g k0 : Nat} {l : List An} (h : Dn g l k0 W) (hg : W'.heap[g]? = W.heap[g]?) (hk : ∀ x ∈ l, ∀ b, x.2.ownBlock = some b → b < W.heap.size → W'.heap[b]? = W.heap[b]?) : Dn g l k0 W' := by
  have hcell : ∀ i, W'.cell? ⟨g, i, none⟩ = W.cell? ⟨g, i, none⟩ := fun i => by unfold World.cell?; simp only [hg]
  refine ⟨fun i x hx => (hcell _).trans (h.cel i x hx), fun i x hx => ?_⟩
  obtain ⟨h1, h2⟩ := h.don i x hx
  exact ⟨(hcell _).trans h1, h2.keep (fun b c hb hc => hk x (List.mem_of_getElem? hx) b hb (lt_blk hc))⟩
theorem Dn.below {W W' : World} {g k0 : Nat} {l : List An} (h : Dn g l k0 W) (hb : Below W.heap.size W W') : Dn g l k0 W' :=
  ⟨fun i x hx => below_cell hb (h.cel i x hx), fun i x hx => ⟨below_cell hb (h.don i x hx).1, (h.don i x hx).2.keep (fun b c _ hc => hb.block b (lt_blk hc))⟩⟩

set_option maxHeartbeats 2000000 in
theorem heldAs (g n cap k0 : Nat) (l : List An) (w : World) (h : Dn g l k0 w) (hl : l.length = n) (hb : n + totA l ≤ 10000000) (h0 : k0 ≤ 1000) (hd : ∀ x ∈ l, x.1.2.length ≤ 1048576) :
    Calls Try.prog 34 #[.slice (some ⟨g, 0, none⟩) n cap, .int .i64 k0] w fun e w' => e = .returned (.int .i64 (mkA k0 l n : Nat)) ∧ Below w.heap.size w w' := by
  have C0 := hid h
  have HL := hid hl
  have HD := hid hd
  clear h hl hd
  go_enter Try.func34, Try.ntmps34
  go_wp2
  go_loopw [1, 5] (fun b i wr => ∃ k q : Nat, k ≤ n ∧ i = .int .i64 k ∧ b = .int .i64 q ∧ q = mkA k0 l k ∧ Hid (Below w.heap.size w wr)) (fun _ i _ => n - (intOf i).toNat)
  case atStart => exact ⟨0, k0, Nat.zero_le _, rfl, rfl, by simp [mkA, totA], hid (Below.refl _ _)⟩
  case round =>
    obtain ⟨k, q, hk, rfl, rfl, hq, HB⟩ := hrel
    by_cases hlt : k < n
    · obtain ⟨x, hx⟩ : ∃ x, l[k]? = some x := ⟨_, List.getElem?_eq_getElem (by have := HL.out; omega)⟩
      have hqb : q ≤ 100000000 := by have := totA_le l k; unfold mkA at hq; omega
      have HT := hid (totA_take hx)
      have DB := C0.out.below HB.out
      have c5 := DB.cel k x hx
      obtain ⟨c4, hr⟩ := DB.don k x hx
      rw [← hq] at c4 hr
      obtain ⟨xa, xc, hxs⟩ := hr.slice
      rw [rampBy_len] at hxs
      have HM := hid (heldRz x.2 (q + 1) x.1.2.length wr hr (HD.out x (List.mem_of_getElem? hx)) (by omega))
      have HQ := hid hq
      have hnl : ¬ (((q + 1 + x.1.2.length : Nat) : Int) < 0) := by omega
      rw [hxs] at c5 HM
      clear hx hq hr hxs DB
      go_wp2_with fail
      rw [show (q : Int) + 1 = ((q + 1 : Nat) : Int) by omega]
      refine (HM.out).mono ?_
      rintro e w1 ⟨rfl, rfl⟩
      clear HM c4 c5
      go_wp2
      go_roundw
      case rel => exact ⟨k + 1, q + 1 + x.1.2.length, by omega, by go_num, rfl, by have := HQ.out; have := HT.out; unfold mkA at *; omega, HB⟩
      case measure => simp [intOf]; omega
    · have hkn : k = n := by omega
      subst hkn
      subst hq
      go_wp2
      go_ret
      exact ⟨rfl, HB.out⟩
end Go.Proofs.Ytamfbplchblkbaa
