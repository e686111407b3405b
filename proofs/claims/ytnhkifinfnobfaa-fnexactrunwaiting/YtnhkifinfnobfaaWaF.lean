import Derived.Test.YtnhkifinfnobfaaWaE
namespace Go.Proofs.Ytnhkifinfnobfaa
open Go.ChangeShapes Go.WideShapes Go.ChangeAt Go.RowKit
set_option linter.unusedVariables false

/-- a quarantine's mixer in memory -/
def Mx (w : World) (M r G : Nat) (mix : List Int) : Prop := w.heap[M]? = some (.cells #[.slice (some ⟨r, 0, none⟩) mix.length mix.length, .int .i64 (0 : Nat), .int .i64 (mix.length : Nat), .iface 51 (.pointer (some ⟨G, 0, none⟩))] 68 (0, 0)) ∧ RowV w r 3 (Ns .i64 mix)
theorem Mx.but {S : Nat → Prop} {w w' : World} {M r G : Nat} {mix : List Int} (h : Mx w M r G mix) (hb : But S w w') (h1 : ¬ S M) (h2 : ¬ S r) : Mx w' M r G mix :=
  ⟨hb.at h.1 h1, h.2.but hb h2⟩

/-- a quarantine in memory: the mixer's box M and its row, the queue's box G and its row -/
structure Qr (w : World) (M rm G rq n : Nat) (mix fifo : List Int) : Prop where
  mx : Mx w M rm G mix
  qu : Qu w G rq n fifo
  ne : rm ≠ rq
theorem Qr.sep {w : World} {M rm G rq n : Nat} {mix fifo : List Int} (h : Qr w M rm G rq n mix fifo) : M ≠ G ∧ M ≠ rq ∧ M ≠ rm ∧ G ≠ rm ∧ G ≠ rq := by
  obtain ⟨⟨a, b⟩, ⟨ps, o, hh, c, d, _⟩, e⟩ := h
  refine ⟨?_, d.ne a (by decide), b.ne a (by decide), b.ne c (by decide), d.ne c (by decide)⟩
  rintro rfl
  rw [a] at c
  simp at c
theorem Qr.but {S : Nat → Prop} {w w' : World} {M rm G rq n : Nat} {mix fifo : List Int} (h : Qr w M rm G rq n mix fifo) (hb : But S w w') (h1 : ¬ S M) (h2 : ¬ S rm) (h3 : ¬ S G) (h4 : ¬ S rq) : Qr w' M rm G rq n mix fifo :=
  ⟨h.mx.but hb h1 h2, h.qu.but hb h3 h4, h.ne⟩

/-- the blocks of a quarantine that a push may turn -/
def Qs (rm G rq : Nat) : Nat → Prop := fun k => k = rm ∨ k = G ∨ k = rq

theorem mpush (M rm G rq n : Nat) (mix fifo : List Int) (x d : Int) (w : World) (h : Qr w M rm G rq n mix fifo) (h0 : mix ≠ []) (hml : mix.length ≤ 1024) (hnl : n ≤ 1024) :
    Calls Try.prog 53 #[.pointer (some ⟨M, 0, none⟩), .int .i64 x, .int .i64 d] w fun e w' => ∃ z, e = .returned (.int .i64 z) ∧ z = (wpM n mix fifo x d).2.2 ∧ Qr w' M rm G rq n (wpM n mix fifo x d).1 (wpM n mix fifo x d).2.1 ∧ But (Qs rm G rq) w w' := by
  have hl : 0 < mix.length := List.length_pos_iff.2 h0
  obtain ⟨s1, s2, s3, s4, s5⟩ := h.sep
  have hlen : (mix.set (md d mix.length) x).length = mix.length := by simp
  by_cases hm : mix[md d mix.length]?.getD 0 = -1
  · refine (mpush_empty M G rm mix.length _ mix x d w h.mx.1 h.mx.2 rfl hl hml rfl hm).mono ?_
    rintro e w' ⟨rfl, r1, g1⟩
    unfold wpM
    rw [if_neg h0, if_pos hm]
    have hb : But (Qs rm G rq) w w' := .ofGrown g1 (.inl rfl)
    refine ⟨_, rfl, rfl, ⟨⟨?_, r1⟩, h.qu.but (But.ofGrown (S := fun k => k = rm) g1 rfl) s4 (fun e => h.ne e.symm), h.ne⟩, hb⟩
    rw [hlen]
    exact cell_blk g1 h.mx.1 s3
  · refine (mpush_on M G rm mix.length _ mix x d w h.mx.1 h.mx.2 rfl hl hml rfl _ rfl hm (fun v w' => v = .int .i64 (wpM n mix fifo x d).2.2 ∧ Qr w' M rm G rq n (wpM n mix fifo x d).1 (wpM n mix fifo x d).2.1 ∧ But (Qs rm G rq) w w') (fun w1 r1 g1 => ?_)).mono ?_
    · have hq := h.qu.but (But.ofGrown (S := fun k => k = rm) g1 rfl) s4 (fun e => h.ne e.symm)
      refine (qpush G rq n fifo _ d w1 hq hnl).mono ?_
      rintro e w' ⟨rfl, q1, b1⟩
      refine ⟨_, rfl, ?_, ?_, ?_⟩
      · unfold wpM; rw [if_neg h0, if_neg hm]
      · unfold wpM; rw [if_neg h0, if_neg hm]
        refine ⟨⟨?_, r1.but b1 (fun h2 => h2.elim (fun e => s4 e.symm) (fun e => h.ne e))⟩, q1, h.ne⟩
        rw [hlen]
        exact b1.at (cell_blk g1 h.mx.1 s3) (fun h2 => h2.elim (fun e => s1 e) (fun e => s2 e))
      · exact (But.ofGrown g1 (.inl rfl)).trans (b1.mono (fun g h2 => h2.elim (fun e => .inr (.inl e)) (fun e => .inr (.inr e))))
    · rintro e w' ⟨z, rfl, h1, h2, h3⟩
      simp at h1
      exact ⟨z, rfl, h1, h2, h3⟩
end Go.Proofs.Ytnhkifinfnobfaa
