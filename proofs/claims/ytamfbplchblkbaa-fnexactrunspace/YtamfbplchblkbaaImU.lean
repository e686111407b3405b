import Derived.Test.YtamfbplchblkbaaImT
namespace Go.Proofs.Ytamfbplchblkbaa
open Go.RowKit Go.Shelf
set_option linter.unusedVariables false

attribute [local go_sem] Oper.semAt_some

theorem Sd.keep {S M : Nat} {st nn bud : Int} {f : Nat → Option Nat} {mm : Nat → Option (Bool × List Int)} {w W W' : World} {DB : Nat} {p : Option Addr} {n cap c : Nat} {row : Option Nat} (h : Sd S M st nn bud f mm w DB p n cap c W) (hg : W.grownBy W' row)
    (hr : ∀ r, row = some r → w.heap.size ≤ r ∧ ∀ cs t z, W.heap[r]? ≠ some (.cells cs t z)) : Sd S M st nn bud f mm w DB p n cap c W' := by
  have hc : ∀ (b : Nat) (cs : Array Value) (t : TypeId) (z : Nat × Nat), W.heap[b]? = some (Obj.cells cs t z) → W'.heap[b]? = some (Obj.cells cs t z) := by
    intro b cs t z hb
    rw [hg.block b (lt_of_block hb) (fun e => (hr b e.symm).2 cs t z hb)]
    exact hb
  have hM : W'.heap[M]? = W.heap[M]? := hg.block M (Nat.lt_of_lt_of_le h.mlt h.fr.size) (fun e => by have := (hr M e.symm).1; have := h.mlt; omega)
  refine ⟨⟨hc _ _ _ _ h.im.box, ?_⟩, ⟨?_, h.pg.inj⟩, ?_, ?_, h.mlt, h.dge⟩
  · obtain ⟨D, ⟨es, clock, hb, r1⟩, r⟩ := h.im.map
    exact ⟨D, ⟨es, clock, hM.trans hb, r1⟩, r⟩
  · intro j
    rcases h.pg.at' j with h1 | ⟨b, l, xs, h1, h2, h3, h4⟩
    · exact .inl h1
    · exact .inr ⟨b, l, xs, h1, h2, h3, hc _ _ _ _ h4⟩
  · exact ⟨hg.os.trans h.fr.os, hg.tape.trans h.fr.tape, hg.output.trans h.fr.output, Nat.le_trans h.fr.size hg.size, fun j h0 h1 h2 h3 => by
      rw [hg.block j (Nat.lt_of_lt_of_le h0 h.fr.size) (fun e => by have := (hr j e.symm).1; omega)]
      exact h.fr.block j h0 h1 h2 h3, h.fr.made⟩
  · obtain ⟨pd, h1, h2⟩ := h.box
    exact ⟨pd, hc _ _ _ _ h1, h2⟩

/-- a piece is copied -/
theorem Sd.piece {S M : Nat} {st nn bud : Int} {f : Nat → Option Nat} {mm : Nat → Option (Bool × List Int)} {w W : World} {DB : Nat} {p : Option Addr} {n cap c : Nat} {ys : List Int} {a b : Nat} {x : Nat} {g : Nat} (h : Sd S M st nn bud f mm w DB p n cap c W) (hc : c ≤ n) (hcap : n ≤ cap) (hd : Da S M f w p n ys) (hg : f ((a + x) / 1024) = some g) (hx : x < n) (hC : Cl S b a n W) :
    ∃ pd, W.heap[DB]? = some (.cells #[.slice pd (n - c) (cap - c)] 22 (0, 0)) ∧ ∃ W1 pd', (Builtin.copy_ #[22, 22] 3 #[.slice (some ⟨g, (a + x) % 1024, none⟩) (plen a n x) (1024 - (a + x) % 1024), .slice pd (n - c) (cap - c)]).run Try.prog W.drew = .ok (.int .i64 (min (plen a n x) (n - c) : Nat)) W1 ∧
      (∀ w : World, (Instr.slice 22 (.slice pd (n - c) (cap - c)) (some (.int .i64 (min (plen a n x) (n - c) : Nat))) none none).run Try.prog w = .ok (.slice pd' (n - (c + min (plen a n x) (n - c))) (cap - (c + min (plen a n x) (n - c)))) w) ∧
      W1.cell? ⟨DB, 0, none⟩ = some (.slice pd (n - c) (cap - c)) ∧ W1.frozen? ⟨DB, 0, none⟩ = false ∧
      Sd S M st nn bud f (layM mm (a + x) ((ys.drop c).take (min (plen a n x) (n - c)))) w DB p n cap (c + min (plen a n x) (n - c)) (W1.setCell ⟨DB, 0, none⟩ (.slice pd' (n - (c + min (plen a n x) (n - c))) (cap - (c + min (plen a n x) (n - c))))) ∧
      Kp S M b W (W1.setCell ⟨DB, 0, none⟩ (.slice pd' (n - (c + min (plen a n x) (n - c))) (cap - (c + min (plen a n x) (n - c))))) ∧ KeepsOthers W (W1.setCell ⟨DB, 0, none⟩ (.slice pd' (n - (c + min (plen a n x) (n - c))) (cap - (c + min (plen a n x) (n - c))))) := by
  obtain ⟨pd, hbox, hpd⟩ := h.box
  obtain ⟨k, hk⟩ : ∃ k, k = min (plen a n x) (n - c) := ⟨_, rfl⟩
  rw [← hk]
  have hpp := plen_page a n x
  have hl1 := plen_pos (a := a) hx
  obtain ⟨l, xs, hm, hxl, hb⟩ := h.pg.cell hg
  have hlen : ((ys.drop c).take k).length = k := by rw [List.length_take, List.length_drop, hd.1]; omega
  obtain ⟨W1, hr, hg1, hgr⟩ := copy_run22 W.drew (some ⟨g, (a + x) % 1024, none⟩) pd (plen a n x) (1024 - (a + x) % 1024) (n - c) (cap - c) g ((a + x) % 1024) (pageC l xs).toList 85 (by rw [show W.drew.heap = W.heap from rfl]; simpa using hb) (Ns .u8 ((ys.drop c).take k)) (by rw [Ns_len, hlen, hk]; exact Nat.min_comm _ _) (fun h0 => by
    rw [Ns_len, hlen] at h0
    obtain ⟨x0, e1, e2⟩ := hpd (by omega)
    refine ⟨rfl, _, e2, fun j v hv => ?_⟩
    have hj : j < k := by
      by_cases hj : j < k
      · exact hj
      · rw [List.getElem?_eq_none (by rw [Ns_len, hlen]; omega)] at hv; cases hv
    obtain ⟨x1, e3, e4⟩ := hd.cell h.fr (c + j) (by omega)
    rw [e1] at e3
    cases e3
    rw [Addr.add_add]
    have : W.drew.cell? (x0.add (c + j)) = W.cell? (x0.add (c + j)) := rfl
    rw [this, e4, ← hv]
    simp [Ns, hj]
    have : c + j < ys.length := by rw [hd.1]; omega
    simp [this]) (by rw [Ns_len, hlen]; simp [pageC, Ns, hxl]; omega) (fun v hv => by
      simp only [Ns, List.mem_map] at hv
      obtain ⟨z, _, rfl⟩ := hv
      rfl)
  rw [Ns_len, hlen] at hr
  rw [pageC_splice _ _ _ _ hxl (by rw [hlen]; omega)] at hg1
  obtain ⟨pd', hsl, hpd'⟩ := sliced22 pd k (n - c) (cap - c) (by omega) (by omega)
  obtain ⟨a1, a2⟩ := h.pg.apart h.im hg
  have hgd : g ≠ DB := fun e => by subst e; rw [hb] at hbox; simp at hbox
  have hgr' : W.grownBy W1 (some g) := ⟨hgr.os, hgr.tape, hgr.output, hgr.size, hgr.block⟩
  have hbox1 : W1.heap[DB]? = some (.cells #[.slice pd (n - c) (cap - c)] 22 (0, 0)) := by rw [hgr'.block DB (lt_of_block hbox) (by simpa using hgd.symm)]; exact hbox
  have g2 : W1.grownBy (W1.setCell ⟨DB, 0, none⟩ (.slice pd' (n - (c + k)) (cap - (c + k)))) (some DB) := grown_set (grown_refl W1 DB) 0 _
  have hDS : DB ≠ S := fun e => by rw [e, h.im.box] at hbox; simp at hbox
  have hDM : DB ≠ M := by have := h.mlt; have := h.dge; omega
  have e1 : n - c - k = n - (c + k) := by omega
  have e2 : cap - c - k = cap - (c + k) := by omega
  refine ⟨pd, hbox, W1, pd', hr, fun W => by rw [hsl W, e1, e2], by simp [World.cell?, hbox1], by simp [World.frozen?, hbox1], ⟨?_, ?_, ?_, ?_, h.mlt, h.dge⟩, ⟨?_, ?_⟩, ?_⟩
  · exact (h.im.grownAt hgr' a1 a2).grownAt g2 hDS hDM
  · have q := h.pg.lay hg (l := l) (xs := splice xs ((a + x) % 1024) ((ys.drop c).take k)) (by rw [splice_len _ _ _ (by rw [hlen, hxl]; omega), hxl]) hg1 hgr'
    have e3 : layM mm (a + x) ((ys.drop c).take k) = updM mm ((a + x) / 1024) (some (l, splice xs ((a + x) % 1024) ((ys.drop c).take k))) := by
      unfold layM; rw [hm]; rfl
    rw [e3]
    refine ⟨?_, q.inj⟩
    intro j
    rcases q.at' j with h1 | ⟨b2, l2, xs2, h1, h2, h3, h4⟩
    · exact .inl h1
    · refine .inr ⟨b2, l2, xs2, h1, h2, h3, ?_⟩
      rw [g2.block b2 (lt_of_block h4) (fun e => by cases e; rw [h4] at hbox1; simp at hbox1)]
      exact h4
  · exact (h.fr.grownAt hgr' (.inl ⟨_, hg⟩)).grownAt g2 (.inr h.dge)
  · refine ⟨pd', by rw [heap_set_at hbox1]; rfl, fun hlt => ?_⟩
    obtain ⟨x0, e3, e4⟩ := hpd (by omega)
    refine ⟨x0, e3, ?_⟩
    rw [hpd' (by omega), e4]
    simp [Addr.add_add]
  · exact Nat.le_trans hgr'.size g2.size
  · have hk2 : ∀ (b : Nat) (cs : Array Value) (t : TypeId) (z : Nat × Nat), W.heap[b]? = some (Obj.cells cs t z) → t ≠ 85 → t ≠ 22 → (W1.setCell ⟨DB, 0, none⟩ (.slice pd' (n - (c + k)) (cap - (c + k)))).heap[b]? = W.heap[b]? := by
      intro b' cs t z hb' h85 h22
      have n1 : b' ≠ g := fun e => by subst e; rw [hb] at hb'; cases hb'; exact h85 rfl
      have n2 : b' ≠ DB := fun e => by subst e; rw [hbox] at hb'; cases hb'; exact h22 rfl
      rw [g2.block b' (Nat.lt_of_lt_of_le (lt_of_block hb') hgr'.size) (by simpa using n2), hgr'.block b' (lt_of_block hb') (by simpa using n1)]
    rintro g' (rfl | rfl | rfl | rfl | rfl)
    · exact hk2 _ _ _ _ h.im.box (by decide) (by decide)
    · have hlt := Nat.lt_of_lt_of_le h.mlt h.fr.size
      rw [g2.block _ (Nat.lt_of_lt_of_le hlt hgr'.size) (by simpa using hDM.symm), hgr'.block _ hlt (by simpa using a2.symm)]
    · exact hk2 _ _ _ _ hC.s (by decide) (by decide)
    · exact hk2 _ _ _ _ hC.a (by decide) (by decide)
    · exact hk2 _ _ _ _ hC.n (by decide) (by decide)
  · exact (KeepsOthers.of_grownBy hgr' (fun j o e ho => by cases e; rw [hb] at ho; cases ho; rfl)).trans (KeepsOthers.setCell _ _ _)
end Go.Proofs.Ytamfbplchblkbaa
