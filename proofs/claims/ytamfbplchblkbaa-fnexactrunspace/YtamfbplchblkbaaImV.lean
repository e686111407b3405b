import Derived.Test.YtamfbplchblkbaaImU
namespace Go.Proofs.Ytamfbplchblkbaa
open Go.RowKit Go.Shelf
set_option linter.unusedVariables false

attribute [local go_sem] Oper.semAt_some

theorem Sd.init {S M : Nat} {st nn bud : Int} {f : Nat → Option Nat} {m : Nat → Option (Bool × List Int)} {w : World} (hi : Im S M st nn bud f w) (hp : Pg f m w) (p : Option Addr) (n cap : Nat) (hnz : 0 < n → ∃ x, p = some x) : Sd S M st nn bud f m w w.heap.size p n cap 0 (w.alloc (.cells #[.slice p n cap] 22)) := by
  have hw := World.grownBy_alloc w (.cells #[.slice p n cap] 22) none
  refine ⟨hi.grown hw, hp.grown hw, Fr.ofGrown hw, ⟨p, (MapKept.heap_alloc w _).1, fun h => ?_⟩, ?_, Nat.le_refl _⟩
  · obtain ⟨x, e⟩ := hnz h
    exact ⟨x, e, by rw [e]; simp [Addr.add]⟩
  · obtain ⟨D, hown, _⟩ := hi.map
    exact hown.lt

set_option maxRecDepth 100000 in
set_option maxHeartbeats 2000000 in
theorem store_in (S M : Nat) (st nn bud : Int) (f : Nat → Option Nat) (m : Nat → Option (Bool × List Int)) (a n cap : Nat) (p : Option Addr) (ys : List Int) (w : World) (hi : Im S M st nn bud f w) (hp : Pg f m w) (hn : n ≤ 4096) (hcap : n ≤ cap) (ha : n = 0 ∨ a + n ≤ 4611686018427387904) (hd : Da S M f w p n ys) (hpg : ∀ d, d < n → ∃ g, f ((a + d) / 1024) = some g)
    (h : ∀ w, Im S M st nn bud f w → Pg f m w → Calls Try.prog 57 #[.pointer (some ⟨S, 0, none⟩), .int .u64 a, .int .i64 n] w fun e w' => e = .returned (.int .i64 0) ∧ w' = w) :
    CallsIn Fence.wide 5 Try.prog 42 #[.pointer (some ⟨S, 0, none⟩), .int .u64 a, .slice p n cap] w fun e w' => e = .returned (.int .i64 0) ∧ Im S M st nn bud f w' ∧ Pg f (storeM m a ys n) w' ∧ Fr S M f f w w' := by
  have H1 := hid h
  have HI := hid (And.intro hi hp)
  have HP := hid hpg
  have HD := hid hd
  have FU := hid (show Full m from fun k q e => by
    rcases hp.at' k with ⟨_, h2⟩ | ⟨b, l, xs, _, h2, h3, _⟩
    · rw [h2] at e; cases e
    · rw [h2] at e; cases e; exact h3)
  have SO := hid (show ∀ d, d < n → (m ((a + d) / 1024)).isSome = true from fun d hd => by
    obtain ⟨g, hg⟩ := hpg d hd
    rw [← hp.none_iff, hg]; rfl)
  have hnz : 0 < n → ∃ x, p = some x := fun h0 => by obtain ⟨x, e, _⟩ := hd.2 0 h0; exact ⟨x, e⟩
  have S0 := hid (Sd.init hi hp p n cap hnz)
  clear h hi hp hpg hd hnz
  refine callsIn_of_wp_marks Try.func42 rfl trivial ?_ rfl
  simp only [Try.ntmps42, List.size_toArray, List.length_cons, List.length_nil, Nat.reduceAdd, Nat.reduceSub, Array.replicate_succ, Array.replicate_zero, List.push_toArray, List.append_toArray, List.nil_append, List.cons_append]
  gi_wp2_with fail
  refine ⟨trivial, ?_⟩
  refine ((callsIn_wide (n := 4)).2 (H1.out _ (HI.out.1.alloc _) (HI.out.2.alloc _))).mono ?_
  rintro _ _ ⟨rfl, rfl⟩
  gi_wp2_with fail
  refine ⟨trivial, ?_⟩
  obtain ⟨W3, hW3⟩ : ∃ W3, w.alloc (.cells #[.slice p n cap] 22) = W3 := ⟨_, rfl⟩
  obtain ⟨DB, hDB⟩ : ∃ DB, w.heap.size = DB := ⟨_, rfl⟩
  have hsz3 : W3.heap.size = DB + 1 := by rw [← hW3, ← hDB]; simp
  have HZ := hid hsz3
  clear hsz3
  rw [hW3, hDB] at S0
  rw [hW3, hDB]
  clear hW3
  refine ((callsIn_wide (n := 4)).2 (pieces_mk _ _ _ _)).mono ?_
  rintro e w4 ⟨rfl, rfl⟩
  gi_wp2
  have HC := hid (Cl.made S a n W3)
  have g4 := grown_trans (World.grownBy_alloc W3 (.cells #[.pointer (some ⟨S, 0, none⟩)] 52) none) (grown_trans (World.grownBy_alloc _ (.cells #[.int .u64 a] 32) none) (World.grownBy_alloc _ (.cells #[.int .i64 n] 3) none))
  have S4 := hid (S0.out.keep g4 (fun r e => by cases e))
  have h4 : W3.heap.size + 1 + 1 + 1 = (((W3.alloc (.cells #[.pointer (some ⟨S, 0, none⟩)] 52)).alloc (.cells #[.int .u64 a] 32)).alloc (.cells #[.int .i64 n] 3)).heap.size := by simp
  have hS := Nat.lt_of_lt_of_le (lt_of_block HI.out.1.box) S0.out.fr.size
  have hM := Nat.lt_of_lt_of_le S0.out.mlt S0.out.fr.size
  obtain ⟨W4, hW4⟩ : ∃ W4, ((W3.alloc (.cells #[.pointer (some ⟨S, 0, none⟩)] 52)).alloc (.cells #[.int .u64 a] 32)).alloc (.cells #[.int .i64 n] 3) = W4 := ⟨_, rfl⟩
  rw [hW4] at HC S4 h4
  rw [hW4]
  clear g4 hW4 S0
  have hsz3 := HZ.out
  refine wpIn_rangeFunc_ownF rfl (by omega) (gf := 73) (lb := #[.pointer (some ⟨W3.heap.size + 1 + 1, 0, none⟩), .pointer (some ⟨W3.heap.size + 1, 0, none⟩), .pointer (some ⟨W3.heap.size, 0, none⟩)]) rfl trivial (enters_of Try.func73 (by kernel_rfl) rfl)
    (encs := fun x : { d : Nat // d < n } => encP f a n x.1) (Kp := Kp S M W3.heap.size) (S := fun ys => Got a n ys n) (Sp := fun pre => ∃ d, Got a n pre d) (N := n) (w0 := W4)
    (fun l J Jx W hW hJ hJx hY h0 => pieces_in S M st nn bud f a n l W3.heap.size 4 (by omega) hn ha HP.out J Jx W hJ hY (HC.out.kp (Kp.below (M := M) (N := W4.heap.size) hW (by omega) (by omega) (by omega))) (S4.out.im.kp (Kp.below (N := W4.heap.size) (b := W3.heap.size) hW (by omega) (by omega) (by omega))) h0)
    Kp.trans (fun W l o o' hl h _ _ => kp_put (S := S) (M := M) (b := W3.heap.size) (N := W4.heap.size) (by omega) (by omega) (by omega) W l o o' hl h) (Below.refl _ _) (fun _ => rfl)
    (fun pre W => Sd S M st nn bud f (stF m a n ys pre).2 w DB p n cap (stF m a n ys pre).1 W ∧ Cl S W3.heap.size a n W)
    (fun c pre W => False)
    ?own (fun c s A B row hs hg hr => hs) ⟨S4.out, HC.out⟩
    (fun x => { tmps := #[.pointer (some ⟨S, 0, none⟩), .int .u64 a, .slice p n cap, undef, undef, .pointer (some ⟨DB, 0, none⟩), .int .i64 0, .int .i64 0, .slice (some ⟨(f ((a + x.1) / 1024)).getD 0, (a + x.1) % 1024, none⟩) (plen a n x.1) (1024 - (a + x.1) % 1024), .pointer (some ⟨S, 0, none⟩), .int .u64 a, .slice p n cap, .int .i64 n, .int .i64 0, .int .i64 0, .bool false, undef, .pointer (some ⟨S, 0, none⟩), .int .u64 a, .slice p n cap, .int .i64 n, .func (.func 73) #[] #[.pointer (some ⟨W3.heap.size + 1 + 1, 0, none⟩), .pointer (some ⟨W3.heap.size + 1, 0, none⟩), .pointer (some ⟨W3.heap.size, 0, none⟩)], .slice (some ⟨(f ((a + x.1) / 1024)).getD 0, (a + x.1) % 1024, none⟩) (plen a n x.1) (1024 - (a + x.1) % 1024), undef, undef, undef, undef, undef], defers := [] }) ?assign ?body ?done ?stop
  case own =>
    rintro s A B row ⟨hl, hc⟩ hg hr
    have hb : ∀ r, row = some r → w.heap.size ≤ r ∧ ∀ cs t z, A.heap[r]? ≠ some (.cells cs t z) := by
      intro r e
      obtain ⟨h1, o, h2, h3⟩ := hr r e
      refine ⟨by omega, fun cs t z h5 => ?_⟩
      rw [h5] at h2
      cases h2
      cases h3
    have hk : ∀ (b : Nat) (cs : Array Value) (t : TypeId) (z : Nat × Nat), A.heap[b]? = some (Obj.cells cs t z) → B.heap[b]? = A.heap[b]? := fun b cs t z hb' => hg.block b (lt_of_block hb') (fun e => (hb b e.symm).2 cs t z hb')
    exact ⟨hl.keep hg hb, (hk _ _ _ _ hc.s).trans hc.s, (hk _ _ _ _ hc.a).trans hc.a, (hk _ _ _ _ hc.n).trans hc.n⟩
  case assign =>
    intro l x W K hK
    clear hsz3
    unfold encP
    gi_wp2
    exact hK
  case stop =>
    intro D c pre W _ _ h
    exact h.elim
  case body =>
    rintro l pre x W ⟨hl, hc⟩ hlt
    obtain ⟨g, hg⟩ := HP.out x.1 x.2
    obtain ⟨pd, hbox, W1, pd', hcp, hsl, hc1, hf1, hsd, hkp, hko⟩ := hl.piece (stF_le m a n ys pre) hcap HD.out hg x.2 hc
    have HR := hid (And.intro hsd (And.intro hkp (And.intro hko (hc.kp hkp))))
    have c0 : W.cell? ⟨DB, 0, none⟩ = some (.slice pd (n - (stF m a n ys pre).1) (cap - (stF m a n ys pre).1)) := by simp [World.cell?, hbox]
    rw [hg]
    simp only [Option.getD_some]
    have ES := hid (stF_snoc m a n ys pre x)
    clear hl hc hbox hsd hkp hko S4 HC hsz3 h4
    gi_wp2
    gi_region
    all_goals
      gi_wp2
      refine ⟨HR.out.2.2.1, HR.out.2.1, ?_, HR.out.2.2.2⟩
      rw [ES.out]
      exact HR.out.1
  case done =>
    rintro D xs W hD hgot ⟨hl, hc⟩ hK
    rw [Got.stF HD.out.1 FU.out SO.out hgot] at hl
    have g3 := grownBy_putObj' W D (.deferred none)
    have hl3 := hl.keep g3 (fun r e => by cases e; exact ⟨by omega, fun cs t z h5 => by rw [hK] at h5; cases h5⟩)
    have HF := hid hl3
    clear hl hc hl3 g3 S4 HC hsz3 h4
    gi_wp2
    refine ⟨by simp, .inl ⟨_, _, rfl, run_takeDeferred hK, ?_⟩⟩
    refine ⟨.int .i64 0, ?_, rfl, HF.out.im, HF.out.pg, HF.out.fr⟩
    simp [results, Try.f42, go_sem]
end Go.Proofs.Ytamfbplchblkbaa
