import Derived.Test.YtamfbplchblkbaaJk
namespace Go.Proofs.Ytamfbplchblkbaa
open Go.RowKit Go.Shelf Go.Maps
set_option linter.unusedVariables false

theorem stepM_data (nn : Nat) (bud : Int) (m : Nat → Option (Bool × List Int)) (kd p c : Int) (a : Nat) (n : Int) (ys : List Int) : (stepM nn bud m kd p c a n ys).2.2.length ≤ 4096 := by
  unfold stepM
  split
  · dsimp only
    split
    · rename_i h
      unfold accC at h
      split at h
      · omega
      · simp [loadB]; omega
    · simp
  · split
    · simp
    · split
      · simp
      · split <;> simp
theorem runM_data (nn : Nat) (bud : Int) (ops : List Op9) : ∀ k, ∀ r ∈ (runM nn bud ops k).2, r.2.length ≤ 4096
  | 0, r, h => by simp [runM] at h
  | k + 1, r, h => by
    simp only [runM] at h
    cases ho : ops[k]? with
    | none => rw [ho] at h; exact runM_data nn bud ops k r h
    | some o =>
      rw [ho] at h
      simp only [List.mem_append, List.mem_singleton] at h
      rcases h with h | h
      · exact runM_data nn bud ops k r h
      · rw [h]; exact stepM_data _ _ _ _ _ _ _ _ _
theorem runM_cp (nn : Nat) (bud : Int) (ops : List Op9) (gs : List Nat) (hl : gs.length = ops.length) : ∀ k, runM nn bud (List.zipWith cpO ops gs) k = runM nn bud ops k
  | 0 => rfl
  | k + 1 => by
    simp only [runM]
    rw [runM_cp nn bud ops gs hl k]
    cases ho : ops[k]? with
    | none =>
      rw [show (List.zipWith cpO ops gs)[k]? = none by rw [List.getElem?_zipWith, ho]]
    | some o =>
      obtain ⟨g, hg⟩ : ∃ g, gs[k]? = some g := ⟨_, List.getElem?_eq_getElem (by have := (List.getElem?_eq_some_iff.1 ho).1; omega)⟩
      rw [show (List.zipWith cpO ops gs)[k]? = some (cpO o g) by rw [List.getElem?_zipWith, ho, hg]]
      rfl
/-- an operation's parts are numbers of their kinds -/
def Good (o : Op9) : Prop := o.a < 18446744073709551616 ∧ o.p ≤ 9223372036854775807 ∧ o.ys.length = o.dl
theorem Cp.get {B G N : Nat} {w : World} {ops : List Op9} {gs : List Nat} (h : Cp B w G N ops gs) {k : Nat} {o' : Op9} (ho : (List.zipWith cpO ops gs)[k]? = some o') : ∃ o g, ops[k]? = some o ∧ gs[k]? = some g ∧ o' = cpO o g := by
  rw [List.getElem?_zipWith] at ho
  cases h1 : ops[k]? with
  | none => rw [h1] at ho; cases ho
  | some o =>
    cases h2 : gs[k]? with
    | none => rw [h1, h2] at ho; cases ho
    | some g => rw [h1, h2] at ho; cases ho; exact ⟨o, g, rfl, rfl, rfl⟩
theorem Cp.oi {B G N : Nat} {w : World} {ops : List Op9} {gs : List Nat} (h : Cp B w G N ops gs) (hg : ∀ o ∈ ops, Good o) : Oi w G (List.zipWith cpO ops gs) := by
  refine ⟨?_, fun o' ho' => ?_⟩
  · obtain ⟨c, hc, hs⟩ := h.typ
    refine ⟨c, (0, 0), hc, fun i o' ho' => ?_⟩
    obtain ⟨o, g, h1, h2, rfl⟩ := h.get ho'
    have hr := (h.at_ i o g h1 h2).1
    have key : ∀ j v, (opC (cpO o g))[j]? = some v → c[i * 6 + j]? = some v := fun j v hv => by simpa [World.cell?, hc] using hr j v hv
    exact ⟨key 0 _ rfl, key 1 _ rfl, key 2 _ rfl, key 3 _ rfl, key 4 _ rfl, key 5 _ rfl⟩
  · obtain ⟨k, hk⟩ := List.getElem?_of_mem ho'
    obtain ⟨o, g, h1, h2, rfl⟩ := h.get hk
    obtain ⟨g1, g2, g3⟩ := hg o (List.mem_of_getElem? h1)
    have hr := (h.at_ k o g h1 h2).2.1
    refine ⟨g1, g3, fun i hi => ⟨⟨g, 0, none⟩, rfl, ?_, ?_⟩⟩
    · rw [Addr.add_mid, Nat.zero_add]
      exact cell_n hr i (by rw [g3]; exact hi)
    · rw [Addr.add_mid]; exact hr.lt
/-- a report of one's own -/
def RepB (w : World) (ok : Bool) (rs : List (Int × List Int)) (cm : Int) (os : List Int) (r : Value) (w' : World) : Prop :=
  ∃ (l : List An) (v vo : Value), r = .agg #[.bool ok, v, .int .i64 cm, vo] ∧ l.map Prod.fst = rs ∧ w'.ownsRow w.heap.size 36 2 v l.length (flatA l) ∧ (∀ x ∈ l, w'.ownsRow w.heap.size 5 1 x.2 x.1.2.length (Ns .u8 x.1.2)) ∧ (l.Pairwise fun x y => ∀ g, x.2.ownBlock = some g → y.2.ownBlock ≠ some g) ∧ w'.ownsRow w.heap.size 3 1 vo os.length (Ns .i64 os) ∧ Below w.heap.size w w'
theorem Rep.b {w w' : World} {rs : List (Int × List Int)} {cm : Int} {os : List Int} {r : Value} (h : Rep w rs cm os r w') : RepB w true rs cm os r w' := h
/-- what a run answers -/
def okR (nn bud : Int) (n : Nat) : Bool := decide (0 ≤ nn) && (decide (nn ≤ 4096) && (decide (0 ≤ bud) && decide (n ≤ 400)))
def ansR (nn bud : Int) (ops : List Op9) : List (Int × List Int) × Int × List Int :=
  if okR nn bud ops.length then ((runM nn.toNat bud ops ops.length).2, (cntM (runM nn.toNat bud ops ops.length).1 nn.toNat : Nat), opensM (runM nn.toNat bud ops ops.length).1 nn.toNat) else ([], 0, [])
theorem ansR_len (nn bud : Int) (ops : List Op9) : (ansR nn bud ops).1.length ≤ 400 ∧ (∀ r ∈ (ansR nn bud ops).1, r.2.length ≤ 4096) ∧ (ansR nn bud ops).2.2.length ≤ 4096 := by
  unfold ansR
  split
  · rename_i h
    unfold okR at h
    simp only [Bool.and_eq_true, decide_eq_true_eq] at h
    refine ⟨by rw [runM_len _ _ _ _ (Nat.le_refl _)]; omega, runM_data _ _ _ _, ?_⟩
    have := opensM_len (runM nn.toNat bud ops ops.length).1 nn.toNat
    dsimp only
    omega
  · exact ⟨by simp, by simp, by simp⟩
theorem noB {w w' : World} (b : Below w.heap.size w w') : RepB w false [] 0 [] (.agg #[.bool false, .slice none 0 0, .int .i64 0, .slice none 0 0]) w' :=
  ⟨[], _, _, rfl, rfl, ⟨rfl, .inl ⟨rfl, rfl⟩⟩, by simp, List.Pairwise.nil, ⟨rfl, .inl ⟨rfl, rfl⟩⟩, b⟩
theorem run_any (F : Nat) (hF : F = 6 ∨ F = 7) (nn bud : Int) (B G n ca : Nat) (ops : List Op9) (gs : List Nat) (w : World) (h : Cp B w G n ops gs) (hn : ops.length = n) (hg : ∀ o ∈ ops, Good o) :
    Calls Try.prog F #[.int .i64 nn, .int .i64 bud, .slice (some ⟨G, 0, none⟩) n ca] w fun e w' => ∃ r, e = .returned r ∧ RepB w (okR nn bud n) (ansR nn bud ops).1 (ansR nn bud ops).2.1 (ansR nn bud ops).2.2 r w' := by
  cases hk : okR nn bud n with
  | false =>
    have hx : nn < 0 ∨ 4096 < nn ∨ bud < 0 ∨ 400 < n := by
      unfold okR at hk
      simp only [Bool.and_eq_false_iff, decide_eq_false_iff_not] at hk
      omega
    have ha : ansR nn bud ops = ([], 0, []) := by unfold ansR; rw [hn, hk]; rfl
    rw [ha]
    rcases hF with rfl | rfl
    · refine (im_run_no nn bud n ca _ w hx).mono ?_
      rintro e w' ⟨rfl, b⟩
      exact ⟨_, rfl, noB b⟩
    · refine (sp_run_no nn bud n ca _ w hx).mono ?_
      rintro e w' ⟨rfl, b⟩
      exact ⟨_, rfl, noB b⟩
  | true =>
    have ha : ansR nn bud ops = ((runM nn.toNat bud ops n).2, ((cntM (runM nn.toNat bud ops n).1 nn.toNat : Nat) : Int), opensM (runM nn.toNat bud ops n).1 nn.toNat) := by unfold ansR; rw [hn, hk]; rfl
    unfold okR at hk
    simp only [Bool.and_eq_true, decide_eq_true_eq] at hk
    obtain ⟨h0, h1, h2, h3⟩ := hk
    have en : nn = (nn.toNat : Int) := by omega
    have hlz : (List.zipWith cpO ops gs).length = n := by have := h.hl; simp; omega
    rw [ha]
    have hc := runM_cp nn.toNat bud ops gs h.hl n
    rcases hF with rfl | rfl
    · have := im_run nn.toNat bud G n ca (some ⟨G, 0, none⟩) (List.zipWith cpO ops gs) w hlz (fun _ => rfl) (h.oi hg) (fun o' ho' => by
        obtain ⟨k, hk⟩ := List.getElem?_of_mem ho'
        obtain ⟨o, g, e1, e2, rfl⟩ := h.get hk
        exact ⟨(hg o (List.mem_of_getElem? e1)).2.1, Nat.le_refl _⟩) (by omega) h2 h3
      rw [hc, ← en] at this
      refine this.mono ?_
      rintro e w' ⟨r, rfl, hr⟩
      exact ⟨r, rfl, hr.b⟩
    · have := sp_run nn.toNat bud G n ca (some ⟨G, 0, none⟩) (List.zipWith cpO ops gs) w hlz (fun _ => rfl) (h.oi hg) (by omega) h2 h3
      rw [hc, ← en] at this
      refine this.mono ?_
      rintro e w' ⟨r, rfl, hr⟩
      exact ⟨r, rfl, hr.b⟩
theorem flatA_at {l : List An} {i : Nat} {x : An} (hx : l[i]? = some x) : (flatA l)[i * 2]? = some (.int .i64 x.1.1) ∧ (flatA l)[i * 2 + 1]? = some x.2 := by
  induction l generalizing i with
  | nil => simp at hx
  | cons y r ih =>
    cases i with
    | zero => simp at hx; subst hx; exact ⟨rfl, rfl⟩
    | succ j =>
      have := ih (i := j) (by simpa using hx)
      rw [show (j + 1) * 2 + 1 = (j * 2 + 1) + 2 by omega, show (j + 1) * 2 = (j * 2) + 2 by omega]
      simpa [flatA] using this
theorem bs_own {W : World} {B : Nat} {u : Value} {data : List Int} (h : W.ownsRow B 5 1 u data.length (Ns .u8 data)) : Bs W u data := by
  rcases rz_own h with ⟨rfl, rfl⟩ | ⟨g, cap, rfl, r⟩
  · exact ⟨_, _, rfl, fun i hi => by simp at hi⟩
  · exact ⟨_, _, rfl, fun i hi => ⟨g, rfl, cell_n r i hi⟩⟩
theorem zs_own {W : World} {B : Nat} {u : Value} {os : List Int} (h : W.ownsRow B 3 1 u os.length (Ns .i64 os)) : Zs W u os := by
  rcases h.2 with ⟨e, h0⟩ | ⟨g, cap, cur, e, _⟩
  · have : os = [] := List.eq_nil_of_length_eq_zero h0
    subst this e
    exact ⟨_, _, rfl, fun i hi => by simp at hi⟩
  · subst e
    exact ⟨_, _, rfl, fun i hi => ⟨g, rfl, cell_n (RowV.ofOwns h) i hi⟩⟩
/-- a report of one's own reads so -/
theorem rr_own {W : World} {B : Nat} {ok : Bool} {cm : Int} {l : List An} {os : List Int} {v vo : Value} (h : W.ownsRow B 36 2 v l.length (flatA l)) (hr : ∀ x ∈ l, W.ownsRow B 5 1 x.2 x.1.2.length (Ns .u8 x.1.2)) (hos : W.ownsRow B 3 1 vo os.length (Ns .i64 os)) : Rr W (.agg #[.bool ok, v, .int .i64 cm, vo]) ok (l.map Prod.fst) cm os := by
  refine ⟨v, vo, rfl, ?_, zs_own hos⟩
  rcases h.2 with ⟨e, h0⟩ | ⟨g, cap, cur, e, _, h1, h2, h3, h4, h5⟩
  · have : l = [] := List.eq_nil_of_length_eq_zero h0
    subst this e
    exact ⟨_, _, rfl, fun k r hk => by simp at hk⟩
  · refine ⟨_, cap, by rw [e, List.length_map], fun k r hk => ?_⟩
    rw [List.getElem?_map] at hk
    cases hx : l[k]? with
    | none => rw [hx] at hk; cases hk
    | some x =>
      rw [hx] at hk
      cases hk
      have hi := (List.getElem?_eq_some_iff.1 hx).1
      obtain ⟨f1, f2⟩ := flatA_at hx
      rw [← h5, List.getElem?_take_of_lt (by omega), Array.getElem?_toList] at f1 f2
      refine ⟨g, x.2, rfl, fun j v hj => ?_, bs_own (hr x (List.mem_of_getElem? hx))⟩
      have hj2 := (List.getElem?_eq_some_iff.1 hj).1
      simp at hj2
      rcases (show j = 0 ∨ j = 1 by omega) with rfl | rfl
      · simp at hj; subst hj; simp [World.cell?, h1, f1]
      · simp at hj; subst hj; simp [World.cell?, h1, f2]
end Go.Proofs.Ytamfbplchblkbaa
