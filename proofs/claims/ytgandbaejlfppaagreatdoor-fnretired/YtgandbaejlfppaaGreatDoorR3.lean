import Derived.Test.YtgandbaejlfppaaGreatDoorN35
import Derived.Test.YtgandbaejlfppaaGreatDoorR1
namespace Go.Proofs.YtgandbaejlfppaaGreatDoor
open Go.RowKit Go.Maps
set_option linter.unusedVariables false
set_option linter.unusedSimpArgs false
set_option maxRecDepth 20000
theorem find_no9 {P : Nat → Bool} {n : Nat} (h : (List.range n).find? P = none) : ∀ k, k < n → P k = false := by
  intro k hk
  rw [List.find?_eq_none] at h
  have := h k (List.mem_range.2 hk)
  simpa using this
theorem Inv.num9 {cf : Cf} {h : Hs} (i : Inv cf h) {c : Nat} (hc : c < 12) {v : Int} (hv : v ∈ inQ h c) : 0 ≤ v ∧ v.toNat / slN c < 6 ∧ v.toNat % slN c < slN c ∧ ((v.toNat / slN c * slN c + v.toNat % slN c : Nat) : Int) = v ∧ h.st c (v.toNat / slN c) (v.toNat % slN c) = 2 := by
  have hz := szN_in hc
  have h0 : 0 ≤ v := by
    rw [inQ_nq] at hv
    unfold nq at hv
    obtain ⟨h1, h2⟩ := List.mem_filter.1 hv
    simp at h2
    rcases List.mem_append.1 h1 with h3 | h3
    · have := i.mxn c hc v h3; omega
    · exact i.ffn c hc v h3
  have hlt := i.wlt c hc v hv
  have hd : v.toNat / slN c < 6 := Nat.div_lt_of_lt_mul (by rw [Nat.mul_comm]; omega)
  have hm : v.toNat % slN c < slN c := Nat.mod_lt _ (by omega)
  have he : ((v.toNat / slN c * slN c + v.toNat % slN c : Nat) : Int) = v := by
    rw [Nat.div_add_mod']; omega
  refine ⟨h0, hd, hm, he, ?_⟩
  rw [i.wait c _ _ hc hd hm, he]
  exact hv
theorem nodup_le : ∀ {l l' : List Int}, l.Nodup → (∀ x ∈ l, x ∈ l') → l.length ≤ l'.length
  | [], l', _, _ => by simp
  | x :: l, l', hn, hs => by
    obtain ⟨h1, h2⟩ := List.nodup_cons.1 hn
    have hx := hs x (by simp)
    have h3 := nodup_le (l' := l'.erase x) h2 (fun y hy => (List.mem_erase_of_ne (fun e : y = x => h1 (by rw [← e]; exact hy))).2 (hs y (List.mem_cons_of_mem _ hy)))
    rw [List.length_erase_of_mem hx] at h3
    have h4 := List.length_pos_of_mem hx
    rw [List.length_cons]
    omega
theorem slot_pg {c s j i : Nat} (hc : c < 12) (hs : s < 6) (hj : j < slN c) (hi : i < szN c) : slabP c s ≤ (adr c s j + i) / 1024 ∧ (adr c s j + i) / 1024 < slabP c s + pgN c := by
  have h1 := adr_in hc hs hj
  have h2 : slabP c s * 1024 ≤ adr c s j := by unfold adr; omega
  omega
theorem byte_fresh (m : Nat → Option (Bool × List Int)) (p k a : Nat) : byteAt (freshM m p k) a = if p ≤ a / 1024 ∧ a / 1024 < p + k then 0 else byteAt m a := by
  unfold byteAt
  rw [freshM_eq]
  split
  · simp only [Option.map_some, Option.getD_some]
    rw [List.getElem?_replicate, if_pos (Nat.mod_lt _ (by omega))]
    rfl
  · rfl
theorem byte_gone (m : Nat → Option (Bool × List Int)) {p k a : Nat} (h : ¬ (p ≤ a / 1024 ∧ a / 1024 < p + k)) : byteAt (goneM m p k) a = byteAt m a := by
  unfold byteAt
  rw [goneM_eq, if_neg h]
theorem other_pg {c s j i s' : Nat} (hc : c < 12) (hs : s < 6) (hj : j < slN c) (hi : i < szN c) (hs' : s' < 6) (hne : s ≠ s') : ¬ (slabP c s' ≤ (adr c s j + i) / 1024 ∧ (adr c s j + i) / 1024 < slabP c s' + pgN c) := by
  have h1 := slot_pg hc hs hj hi
  have h2 := slab_apart hc hs hc hs' (fun e => hne e.2)
  omega
theorem cnt_le {m : Nat → Option (Bool × List Int)} (hm : ∀ k, 187 ≤ k → (m k).isSome = false) : ∀ k, cntM m k ≤ k ∧ cntM m k ≤ 187
  | 0 => by simp [cntM]
  | k + 1 => by
    have ih := cnt_le hm k
    by_cases e : 187 ≤ k
    · have e2 : cntM m (k + 1) = cntM m k := by simp [cntM, hm k e]
      omega
    · have e2 : cntM m (k + 1) ≤ cntM m k + 1 := by simp only [cntM]; cases (m k).isSome <;> simp
      omega
theorem clean_iff {m : Nat → Option (Bool × List Int)} {a n : Nat} : clean m a n = true ↔ ∀ i, i < n → byteAt m (a + i) = 0 := by
  unfold clean loadB
  simp
structure Rt9 (cf : Cf) (c : Nat) (K D : List (Nat × Nat)) (h : Hs) : Prop where
  inv : Inv cf h
  rg : h.rg = []
  live : ∀ t ∈ K, t.1 < 6 ∧ t.2 < slN c ∧ h.st c t.1 t.2 = 1
  dead : ∀ t ∈ D, t.1 < 6 ∧ t.2 < slN c ∧ (h.st c t.1 t.2 = 2 ∨ h.st c t.1 t.2 = 3 ∨ h.st c t.1 t.2 = 4) ∧ ∃ i, i < szN c ∧ byteAt h.m (adr c t.1 t.2 + i) ≠ 0
  oth : ∀ s j, s < 6 → j < slN c → (s, j) ∉ K → h.st c s j ≠ 1
  ret : ∀ s j, s < 6 → j < slN c → (s, j) ∉ D → h.st c s j ≠ 4
  zero : ∀ s j, s < 6 → j < slN c → (s, j) ∉ K → (s, j) ∉ D → onS h c s = true → ∀ i, i < szN c → byteAt h.m (adr c s j + i) = 0
theorem Rt9.new (cf : Cf) (c : Nat) : Rt9 cf c [] [] (newH cf) :=
  ⟨Inv.new cf, rfl, fun t h => (by cases h), fun t h => (by cases h), fun s j _ _ _ => (by simp [newH]), fun s j _ _ _ => (by simp [newH]), fun s j _ _ _ _ ho => by cases ho⟩
theorem Rt9.room {cf : Cf} {c : Nat} {K D : List (Nat × Nat)} {h : Hs} (r : Rt9 cf c K D h) (hc : c < 12) (hK : K.length ≤ 2) (hD : D.length ≤ 1) (hkd : ∀ t ∈ D, ∃ j, (t.1, j) ∈ K) (hb : cf.bud = 283) (hm : cf.mix ≤ 3) (hf : cf.fifo ≤ 6) : ∃ s h1, roomS cf h c = some (s, h1) ∧ Rt9 cf c K D h1 := by
  have hz := szN_in hc
  unfold roomS
  cases hp : pickS h c with
  | some s => exact ⟨s, h, rfl, r⟩
  | none =>
    cases hq : offS h c with
    | some s =>
      obtain ⟨hs, hoff⟩ := find_lt hq
      have hoff' : onS h c s = false := by simpa using hoff
      have hout : ∀ k, 187 ≤ k → (h.m k).isSome = false := fun k hk => by
        cases e : (h.m k).isSome with
        | false => rfl
        | true =>
          obtain ⟨x, hx, _⟩ := (r.inv.big k hk).1 e
          rw [r.rg] at hx
          cases hx
      have hcn := cnt_le hout 283
      refine ⟨s, { h with m := freshM h.m (slabP c s) (pgN c) }, ?_, r.inv.fresh hc hs, r.rg, r.live, fun t ht => ?_, r.oth, r.ret, fun s' j hs' hj hk hd ho i hi => ?_⟩
      · dsimp only
        rw [if_neg (by omega)]
      · obtain ⟨d1, d2, d3, i, d4, d5⟩ := r.dead t ht
        refine ⟨d1, d2, d3, i, d4, ?_⟩
        obtain ⟨j, hj⟩ := hkd t ht
        have hl := r.live _ hj
        have hon := r.inv.on1 hc hl.1 hl.2.1 (by rw [hl.2.2]; rfl)
        show byteAt (freshM h.m (slabP c s) (pgN c)) _ ≠ 0
        rw [byte_fresh, if_neg (other_pg hc d1 d2 d4 hs (fun e => by
          dsimp only at hon
          rw [e, hoff'] at hon; cases hon))]
        exact d5
      · show byteAt (freshM h.m (slabP c s) (pgN c)) _ = 0
        rw [byte_fresh]
        split
        · rfl
        · rename_i hx
          refine r.zero s' j hs' hj hk hd ?_ i hi
          by_cases e : s' = s
          · subst e
            exact absurd (slot_pg hc hs' hj hi) hx
          · have ho' : (freshM h.m (slabP c s) (pgN c) (slabP c s')).isSome = true := ho
            rw [freshM_eq, if_neg] at ho'
            · exact ho'
            · have := slab_apart hc hs' hc hs (fun x => e x.2)
              omega
    | none =>
      exfalso
      have a1 := find_no9 hp
      have a2 := find_no9 hq
      have key : ∀ s j, s < 6 → j < slN c → isFree (h.st c s j) = false := fun s j hs hj => by
        have b2 := a2 s hs
        have b1 := a1 s hs
        simp only [Bool.not_eq_false'] at b2
        rw [b2, Bool.true_and, Bool.not_eq_false'] at b1
        cases e : isFree (h.st c s j) with
        | false => rfl
        | true =>
          have : j ∈ freeS h c s := by
            unfold freeS
            exact List.mem_filter.2 ⟨List.mem_range.2 hj, e⟩
          rw [List.isEmpty_iff.1 b1] at this
          cases this
      have hn : ((List.range (6 * slN c)).map fun n : Nat => (n : Int)).Nodup := by
        have : (List.range (6 * slN c)).Nodup := List.nodup_range
        exact List.Pairwise.map _ (fun a b hab e => hab (by omega)) this
      have hsub : ∀ x ∈ (List.range (6 * slN c)).map fun n : Nat => (n : Int), x ∈ (K.map fun t => ((t.1 * slN c + t.2 : Nat) : Int)) ++ (D.map fun t => ((t.1 * slN c + t.2 : Nat) : Int)) ++ inQ h c := by
        intro x hx
        obtain ⟨n, hn, rfl⟩ := List.mem_map.1 hx
        have hn := List.mem_range.1 hn
        have hs : n / slN c < 6 := Nat.div_lt_of_lt_mul (by rw [Nat.mul_comm]; omega)
        have hj : n % slN c < slN c := Nat.mod_lt _ (by omega)
        have he : n / slN c * slN c + n % slN c = n := Nat.div_add_mod' _ _
        have hfr := key _ _ hs hj
        have hst := r.inv.st c (n / slN c) (n % slN c)
        have hw := r.inv.wait c (n / slN c) (n % slN c) hc hs hj
        rw [he] at hw
        by_cases e1 : (n / slN c, n % slN c) ∈ K
        · exact List.mem_append_left _ (List.mem_append_left _ (List.mem_map.2 ⟨_, e1, by dsimp only; rw [he]⟩))
        · by_cases e2 : (n / slN c, n % slN c) ∈ D
          · exact List.mem_append_left _ (List.mem_append_right _ (List.mem_map.2 ⟨_, e2, by dsimp only; rw [he]⟩))
          · have o1 := r.oth _ _ hs hj e1
            have o2 := r.ret _ _ hs hj e2
            refine List.mem_append_right _ (hw.1 ?_)
            have o3 : ¬ (h.st c (n / slN c) (n % slN c) = 0 ∨ h.st c (n / slN c) (n % slN c) = 3) := fun e => by
              rw [← isFree_or, hfr] at e; cases e
            omega
      have hle := nodup_le hn hsub
      have hl1 : (inQ h c).length ≤ (h.mx c ++ h.ff c).length := List.length_filter_le _ _
      have hl2 := r.inv.mxl c hc
      have hl3 := r.inv.ffl c hc
      simp only [List.length_map, List.length_range, List.length_append] at hle hl1
      omega
theorem Rt9.one {cf : Cf} {c : Nat} {K D : List (Nat × Nat)} {h : Hs} (r : Rt9 cf c K D h) (hc : c < 12) (hK : K.length ≤ 2) (hD : D.length ≤ 1) (hkd : ∀ t ∈ D, ∃ j, (t.1, j) ∈ K) (hb : cf.bud = 283) (hm : cf.mix ≤ 3) (hf : cf.fifo ≤ 6) (f : Nat) :
    (∃ s j h1, smallM cf c (f + 1) h = (some (s, j), h1) ∧ s < 6 ∧ j < slN c ∧ (s, j) ∉ K ∧ (s, j) ∉ D ∧ Rt9 cf c K D h1 ∧ onS h1 c s = true ∧ isFree (h1.st c s j) = true ∧ h1.mx = h.mx ∧ h1.ff = h.ff) ∨
    (∃ s j h2, smallM cf c (f + 1) h = smallM cf c f h2 ∧ Rt9 cf c K D h2 ∧ (s, j) ∈ D ∧ isFree (h.st c s j) = true ∧ h2.st c s j = 4 ∧ h2.mx = h.mx ∧ h2.ff = h.ff) := by
  obtain ⟨s, h1, hr, r1⟩ := r.room hc hK hD hkd hb hm hf
  obtain ⟨hs, i1, hon, hlen, hst, hu, hse⟩ := r.inv.room hc hr
  obtain ⟨_, p1, p2⟩ := pick_in cf hlen
  rw [smallM_succ, hr]
  dsimp only
  generalize pickJ cf h1 c s = j at *
  have hk : (s, j) ∉ K := fun e => by
    have := (r1.live _ e).2.2
    dsimp only at this
    rw [this] at p2; cases p2
  by_cases hd : (s, j) ∈ D
  · right
    obtain ⟨_, _, d3, i, d4, d5⟩ := r1.dead _ hd
    rw [if_neg (fun e => d5 (clean_iff.1 e i d4))]
    refine ⟨s, j, _, rfl, ?_, hd, by rw [← hse]; exact p2, upd3_same _ _ _ _ _, hst.mx, hst.ff⟩
    refine ⟨(i1.used (h1.used + 1)).retire hc hs p1 p2 hon, r1.rg, fun t ht => ?_, fun t ht => ?_, fun s' j' hs' hj' hk' => ?_, fun s' j' hs' hj' hd' => ?_, r1.zero⟩
    · obtain ⟨l1, l2, l3⟩ := r1.live t ht
      refine ⟨l1, l2, ?_⟩
      show upd3 h1.st c s j 4 c t.1 t.2 = 1
      rw [upd3_ne _ _ (by rintro ⟨_, e1, e2⟩; exact hk (by rw [← e1, ← e2]; exact ht))]
      exact l3
    · obtain ⟨l1, l2, l3, l4⟩ := r1.dead t ht
      refine ⟨l1, l2, ?_, l4⟩
      by_cases e : c = c ∧ t.1 = s ∧ t.2 = j
      · right; right
        show upd3 h1.st c s j 4 c t.1 t.2 = 4
        rw [e.2.1, e.2.2, upd3_same]
      · show upd3 h1.st c s j 4 c t.1 t.2 = 2 ∨ upd3 h1.st c s j 4 c t.1 t.2 = 3 ∨ upd3 h1.st c s j 4 c t.1 t.2 = 4
        rw [upd3_ne _ _ e]; exact l3
    · show upd3 h1.st c s j 4 c s' j' ≠ 1
      by_cases e : c = c ∧ s' = s ∧ j' = j
      · rw [e.2.1, e.2.2, upd3_same]; omega
      · rw [upd3_ne _ _ e]; exact r1.oth s' j' hs' hj' hk'
    · show upd3 h1.st c s j 4 c s' j' ≠ 4
      rw [upd3_ne _ _ (by rintro ⟨_, rfl, rfl⟩; exact hd' hd)]; exact r1.ret s' j' hs' hj' hd'
  · left
    rw [if_pos (clean_iff.2 (r1.zero s j hs p1 hk hd hon))]
    exact ⟨s, j, _, rfl, hs, p1, hk, hd, ⟨i1.used _, r1.rg, r1.live, r1.dead, r1.oth, r1.ret, r1.zero⟩, hon, p2, hst.mx, hst.ff⟩
theorem Rt9.small {cf : Cf} {c : Nat} {K D : List (Nat × Nat)} {h : Hs} (r : Rt9 cf c K D h) (hc : c < 12) (hK : K.length ≤ 2) (hD : D.length ≤ 1) (hkd : ∀ t ∈ D, ∃ j, (t.1, j) ∈ K) (hb : cf.bud = 283) (hm : cf.mix ≤ 3) (hf : cf.fifo ≤ 6) :
    ∃ s j h1, smallM cf c 2000 h = (some (s, j), h1) ∧ s < 6 ∧ j < slN c ∧ (s, j) ∉ K ∧ (s, j) ∉ D ∧ Rt9 cf c K D h1 ∧ onS h1 c s = true ∧ isFree (h1.st c s j) = true ∧ h1.mx = h.mx ∧ h1.ff = h.ff := by
  rcases r.one hc hK hD hkd hb hm hf 1999 with h1 | ⟨s, j, h2, e, r2, hd, hfr, h4, hmx, hff⟩
  · exact h1
  · rcases r2.one hc hK hD hkd hb hm hf 1998 with ⟨s', j', h1, e2, x⟩ | ⟨s', j', h3, e2, r3, hd', hfr', _⟩
    · obtain ⟨x1, x2, x3, x4, x5, x6, x7, x8, x9⟩ := x
      exact ⟨s', j', h1, e.trans e2, x1, x2, x3, x4, x5, x6, x7, x8.trans hmx, x9.trans hff⟩
    · exfalso
      have : (s', j') = (s, j) := by
        match D, hD, hd, hd' with
        | [t], _, hd, hd' =>
          simp at hd hd'
          rw [hd, hd']
      injection this with q1 q2
      subst q1 q2
      rw [h4] at hfr'
      cases hfr'
theorem Rt9.malloc {cf : Cf} {c : Nat} {K D : List (Nat × Nat)} {h : Hs} (r : Rt9 cf c K D h) (hc : c < 12) (hK : K.length ≤ 2) (hD : D.length ≤ 1) (hkd : ∀ t ∈ D, ∃ j, (t.1, j) ∈ K) (hb : cf.bud = 283) (hm : cf.mix ≤ 3) (hf : cf.fifo ≤ 6) {a : Nat} (ha : a ≤ 1016) (hca : coN a = c) :
    ∃ s j h', mallocM cf h a = (some (adr c s j), h') ∧ s < 6 ∧ j < slN c ∧ (s, j) ∉ K ∧ (s, j) ∉ D ∧ Rt9 cf c ((s, j) :: K) D h' ∧ (∀ i, i < 8 → byteAt h'.m (adr c s j + usN c + i) = (can cf (adr c s j))[i]?.getD 0) ∧ h'.mx = h.mx ∧ h'.ff = h.ff := by
  have hz := szN_in hc
  obtain ⟨s, j, h1, e, hs, hj, hk, hd, r1, hon, hfr, hmx, hff⟩ := r.small hc hK hD hkd hb hm hf
  have hrq := (coN_in ha).2
  rw [hca] at hrq
  have hopen : ∀ i, i < szN c → isOpen (h1.m ((adr c s j + i) / 1024)) = true := fun i hi => by
    have h2 := slot_pg hc hs hj hi
    have h3 := r1.inv.slab c s hc hs ((adr c s j + i) / 1024 - slabP c s) (by omega)
    rw [show slabP c s + ((adr c s j + i) / 1024 - slabP c s) = (adr c s j + i) / 1024 by omega, hon] at h3
    rw [r1.inv.fine.open]; exact h3
  have apart : ∀ s' j' i, s' < 6 → j' < slN c → ¬ (s' = s ∧ j' = j) → i < szN c → byteAt (storeM h1.m (adr c s j + usN c) (can cf (adr c s j)) 8) (adr c s' j' + i) = byteAt h1.m (adr c s' j' + i) := fun s' j' i hs' hj' hne hi => by
    have := slot_apart hc hs hj hc hs' hj' (by rintro ⟨_, rfl, rfl⟩; exact hne ⟨rfl, rfl⟩)
    exact storeM_byte _ _ _ _ 8 (by omega)
  rw [isFree_or] at hfr
  have iv := (r1.inv.setSt hc hs hj 1 (a : Int) (by omega) (by omega) (by omega) (by omega) (.inr hon) (fun _ => ⟨by omega, by omega⟩) (fun e => absurd rfl e)).bytes (adr c s j + usN c) (can cf (adr c s j)) 8
  refine ⟨s, j, { h1 with st := upd3 h1.st c s j 1, rq := upd3 h1.rq c s j a, m := storeM h1.m (adr c s j + usN c) (can cf (adr c s j)) 8 }, ?_, hs, hj, hk, hd, ⟨iv, r1.rg, fun t ht => ?_, fun t ht => ?_, fun s' j' hs' hj' hk' => ?_, fun s' j' hs' hj' hd' => ?_, fun s' j' hs' hj' hk' hd' ho i hi => ?_⟩, fun i hi => ?_, hmx, hff⟩
  · unfold mallocM
    rw [if_pos ha, hca, e]
  · rcases List.mem_cons.1 ht with rfl | ht
    · exact ⟨hs, hj, upd3_same _ _ _ _ _⟩
    · obtain ⟨l1, l2, l3⟩ := r1.live t ht
      refine ⟨l1, l2, ?_⟩
      show upd3 h1.st c s j 1 c t.1 t.2 = 1
      rw [upd3_ne _ _ (by rintro ⟨_, e1, e2⟩; exact hk (by rw [← e1, ← e2]; exact ht))]
      exact l3
  · obtain ⟨l1, l2, l3, i, l4, l5⟩ := r1.dead t ht
    have hne : ¬ (t.1 = s ∧ t.2 = j) := by rintro ⟨e1, e2⟩; exact hd (by rw [← e1, ← e2]; exact ht)
    refine ⟨l1, l2, ?_, i, l4, ?_⟩
    · show upd3 h1.st c s j 1 c t.1 t.2 = 2 ∨ upd3 h1.st c s j 1 c t.1 t.2 = 3 ∨ upd3 h1.st c s j 1 c t.1 t.2 = 4
      rw [upd3_ne _ _ (fun e => hne e.2)]; exact l3
    · show byteAt (storeM h1.m (adr c s j + usN c) (can cf (adr c s j)) 8) _ ≠ 0
      rw [apart _ _ _ l1 l2 hne l4]; exact l5
  · show upd3 h1.st c s j 1 c s' j' ≠ 1
    rw [List.mem_cons, not_or] at hk'
    rw [upd3_ne _ _ (by rintro ⟨_, rfl, rfl⟩; exact hk'.1 rfl)]
    exact r1.oth s' j' hs' hj' hk'.2
  · show upd3 h1.st c s j 1 c s' j' ≠ 4
    by_cases e : c = c ∧ s' = s ∧ j' = j
    · rw [e.2.1, e.2.2, upd3_same]; omega
    · rw [upd3_ne _ _ e]; exact r1.ret s' j' hs' hj' hd'
  · rw [List.mem_cons, not_or] at hk'
    show byteAt (storeM h1.m (adr c s j + usN c) (can cf (adr c s j)) 8) _ = 0
    rw [apart _ _ _ hs' hj' (by rintro ⟨rfl, rfl⟩; exact hk'.1 rfl) hi]
    refine r1.zero s' j' hs' hj' hk'.2 hd' ?_ i hi
    have ho' : (storeM h1.m (adr c s j + usN c) (can cf (adr c s j)) 8 (slabP c s')).isSome = true := ho
    rw [storeM_is] at ho'
    exact ho'
  · show byteAt (storeM h1.m (adr c s j + usN c) (can cf (adr c s j)) 8) _ = _
    rw [storeM_at r1.inv.fine _ _ 8 i hi (by rw [Nat.add_assoc]; exact hopen _ (by omega))]
theorem free_shape {cf : Cf} {h : Hs} (i : Inv cf h) (hf1 : 1 ≤ cf.fifo) {c s j : Nat} (hc : c < 12) (hs : s < 6) (hj : j < slN c) (hl : h.st c s j = 1) :
    ∃ s' j' v, s' < 6 ∧ j' < slN c ∧ upd3 h.st c s j 2 c s' j' = 2 ∧ (v = 2 ∨ v = 3) ∧ (freeSlot cf h c s j).st = upd3 (upd3 h.st c s j 2) c s' j' v ∧ (freeSlot cf h c s j).rg = h.rg ∧
      ((freeSlot cf h c s j).m = storeM h.m (adr c s j) (List.replicate (szN c) 0) (szN c) ∨ ((freeSlot cf h c s j).m = goneM (storeM h.m (adr c s j) (List.replicate (szN c) 0) (szN c)) (slabP c s') (pgN c) ∧ ∀ k, k < slN c → isFree ((freeSlot cf h c s j).st c s' k) = true)) := by
  have hz := szN_in hc
  obtain ⟨w1, w2, w3, w4, w5⟩ := wpM_perm (d := ((if cf.mix = 0 then 0 else dr cf h cf.mix : Nat) : Int)) (x := ((s * slN c + j : Nat) : Int)) hf1 (i.ffl c hc) (by omega) (i.ffn c hc) (i.mxn c hc)
  rw [freeSlot_eq]
  rcases i.freed hf1 hc hs hj hl with ⟨e, _⟩ | ⟨s', j', e, e1, e2, hs', hj', _, _⟩
  · rw [if_pos e]
    refine ⟨s, j, 2, hs, hj, upd3_same _ _ _ _ _, .inl rfl, ?_, rfl, .inl rfl⟩
    rw [upd3_self (upd3 h.st c s j 2) (upd3_same _ _ _ _ _)]
    rfl
  · rw [if_neg (by omega), e1, e2]
    have hin : leftM cf h c s j ∈ ((s * slN c + j : Nat) : Int) :: inQ h c := by
      rcases w5 with ⟨q1, _⟩ | ⟨_, q2⟩
      · exact absurd q1 (by unfold leftM at e; omega)
      · rw [inQ_nq]
        exact q2.mem_iff.2 (List.mem_cons_self ..)
    have hst2 : upd3 h.st c s j 2 c s' j' = 2 := by
      rcases List.mem_cons.1 hin with q | q
      · rw [q] at e1 e2
        have := num_div (n := slN c) (s := s) hj
        rw [Int.toNat_natCast] at e1 e2
        rw [this.1] at e1
        rw [this.2] at e2
        rw [← e1, ← e2, upd3_same]
      · obtain ⟨_, _, _, _, n5⟩ := i.num9 hc q
        rw [e1, e2] at n5
        by_cases e9 : c = c ∧ s' = s ∧ j' = j
        · rw [e9.2.1, e9.2.2, upd3_same]
        · rw [upd3_ne _ _ e9]; exact n5
    refine ⟨s', j', 3, hs', hj', hst2, .inr rfl, ?_, ?_, ?_⟩
    · unfold releaseM
      dsimp only
      split <;> rfl
    · unfold releaseM
      dsimp only
      split <;> rfl
    · unfold releaseM
      dsimp only
      split
      · rename_i hfull
        exact .inr ⟨rfl, freeS_all.1 hfull⟩
      · exact .inl rfl
theorem Rt9.free {cf : Cf} {c : Nat} {K D : List (Nat × Nat)} {h : Hs} {s j : Nat} (r : Rt9 cf c ((s, j) :: K) D h) (hc : c < 12) (hk : (s, j) ∉ K) (hd : (s, j) ∉ D) (hkd : ∀ t ∈ D, ∃ j, (t.1, j) ∈ K) (hf1 : 1 ≤ cf.fifo) : Rt9 cf c K D (freeSlot cf h c s j) := by
  have hz := szN_in hc
  obtain ⟨hs, hj, hl⟩ := r.live (s, j) (List.mem_cons_self ..)
  dsimp only at hs hj hl
  have iv := r.inv.fSlot hf1 hc hs hj hl
  obtain ⟨s', j', v, hs', hj', h2, hv, est, erg, em⟩ := free_shape r.inv hf1 hc hs hj hl
  have hon := r.inv.on1 hc hs hj (by rw [hl]; rfl)
  generalize freeSlot cf h c s j = H at *
  have live : ∀ t ∈ K, t.1 < 6 ∧ t.2 < slN c ∧ H.st c t.1 t.2 = 1 := fun t ht => by
    obtain ⟨l1, l2, l3⟩ := r.live t (List.mem_cons_of_mem _ ht)
    have a1 : upd3 h.st c s j 2 c t.1 t.2 = 1 := by
      rw [upd3_ne _ _ (by rintro ⟨_, e1, e2⟩; exact hk (by rw [← e1, ← e2]; exact ht))]; exact l3
    refine ⟨l1, l2, ?_⟩
    rw [est, upd3_ne _ _ (by rintro ⟨_, e1, e2⟩; rw [e1, e2, h2] at a1; omega)]
    exact a1
  have apart : ∀ s0 j0 i, s0 < 6 → j0 < slN c → ¬ (s0 = s ∧ j0 = j) → i < szN c → byteAt (storeM h.m (adr c s j) (List.replicate (szN c) 0) (szN c)) (adr c s0 j0 + i) = byteAt h.m (adr c s0 j0 + i) := fun s0 j0 i hs0 hj0 hne hi => by
    have := slot_apart hc hs hj hc hs0 hj0 (by rintro ⟨_, rfl, rfl⟩; exact hne ⟨rfl, rfl⟩)
    exact storeM_byte _ _ _ _ (szN c) (by omega)
  have bytes : ∀ s0 j0 i, s0 < 6 → j0 < slN c → i < szN c → onS H c s0 = true → byteAt H.m (adr c s0 j0 + i) = byteAt (storeM h.m (adr c s j) (List.replicate (szN c) 0) (szN c)) (adr c s0 j0 + i) := fun s0 j0 i hs0 hj0 hi ho => by
    rcases em with em | ⟨em, _⟩
    · rw [em]
    · have hne : s0 ≠ s' := fun e => by
        have ho' : (H.m (slabP c s0)).isSome = true := ho
        rw [em, e, goneM_eq, if_pos (by omega)] at ho'
        cases ho'
      rw [em, byte_gone _ (other_pg hc hs0 hj0 hi hs' hne)]
  refine ⟨iv, erg.trans r.rg, live, fun t ht => ?_, fun s0 j0 hs0 hj0 hk0 => ?_, fun s0 j0 hs0 hj0 hd0 => ?_, fun s0 j0 hs0 hj0 hk0 hd0 ho i hi => ?_⟩
  · obtain ⟨l1, l2, l3, i, l4, l5⟩ := r.dead t ht
    have hne : ¬ (t.1 = s ∧ t.2 = j) := by rintro ⟨e1, e2⟩; exact hd (by rw [← e1, ← e2]; exact ht)
    refine ⟨l1, l2, ?_, i, l4, ?_⟩
    · rw [est]
      by_cases e : c = c ∧ t.1 = s' ∧ t.2 = j'
      · rw [e.2.1, e.2.2, upd3_same]; omega
      · rw [upd3_ne _ _ e, upd3_ne _ _ (fun x => hne x.2)]; exact l3
    · obtain ⟨j9, hj9⟩ := hkd t ht
      obtain ⟨k1, k2, k3⟩ := live _ hj9
      rw [bytes _ _ _ l1 l2 l4 (iv.on1 hc k1 k2 (by rw [k3]; rfl)), apart _ _ _ l1 l2 hne l4]
      exact l5
  · rw [est]
    by_cases e : c = c ∧ s0 = s' ∧ j0 = j'
    · rw [e.2.1, e.2.2, upd3_same]; omega
    · rw [upd3_ne _ _ e]
      by_cases e9 : c = c ∧ s0 = s ∧ j0 = j
      · rw [e9.2.1, e9.2.2, upd3_same]; omega
      · rw [upd3_ne _ _ e9]
        exact r.oth s0 j0 hs0 hj0 (by rw [List.mem_cons, not_or]; exact ⟨fun x => by injection x with x1 x2; exact e9 ⟨rfl, x1, x2⟩, hk0⟩)
  · rw [est]
    by_cases e : c = c ∧ s0 = s' ∧ j0 = j'
    · rw [e.2.1, e.2.2, upd3_same]; omega
    · rw [upd3_ne _ _ e]
      by_cases e9 : c = c ∧ s0 = s ∧ j0 = j
      · rw [e9.2.1, e9.2.2, upd3_same]; omega
      · rw [upd3_ne _ _ e9]; exact r.ret s0 j0 hs0 hj0 hd0
  · rw [bytes _ _ _ hs0 hj0 hi ho]
    by_cases e9 : s0 = s ∧ j0 = j
    · rw [e9.1, e9.2]
      have h2 := slot_pg hc hs hj hi
      have h3 := r.inv.slab c s hc hs ((adr c s j + i) / 1024 - slabP c s) (by omega)
      rw [show slabP c s + ((adr c s j + i) / 1024 - slabP c s) = (adr c s j + i) / 1024 by omega, hon] at h3
      rw [storeM_at r.inv.fine _ _ (szN c) i hi (by rw [r.inv.fine.open]; exact h3), List.getElem?_replicate, if_pos hi]
      rfl
    · rw [apart _ _ _ hs0 hj0 e9 hi]
      refine r.zero s0 j0 hs0 hj0 (by rw [List.mem_cons, not_or]; exact ⟨fun x => by injection x with x1 x2; exact e9 ⟨x1, x2⟩, hk0⟩) hd0 ?_ i hi
      have ho' : (H.m (slabP c s0)).isSome = true := ho
      rcases em with em | ⟨em, _⟩
      · rw [em, storeM_is] at ho'; exact ho'
      · rw [em, goneM_eq] at ho'
        split at ho'
        · cases ho'
        · rw [storeM_is] at ho'; exact ho'
theorem Rt9.dirty {cf : Cf} {c : Nat} {K : List (Nat × Nat)} {h : Hs} (r : Rt9 cf c K [] h) (hc : c < 12) {s j z : Nat} (hs : s < 6) (hj : j < slN c) (h2 : h.st c s j = 2) (hz9 : z < szN c) {x : Int} (hx : x ≠ 0) : Rt9 cf c K [(s, j)] { h with m := storeM h.m (adr c s j + z) [x] 1 } := by
  have hk : (s, j) ∉ K := fun e => by have := (r.live _ e).2.2; dsimp only at this; omega
  have hon := r.inv.on1 hc hs hj (by rw [h2]; rfl)
  refine ⟨r.inv.bytes _ _ _, r.rg, r.live, fun t ht => ?_, r.oth, fun s' j' hs' hj' _ => r.ret s' j' hs' hj' (by simp), fun s' j' hs' hj' hk' hd' ho i hi => ?_⟩
  · simp at ht
    subst ht
    refine ⟨hs, hj, .inl h2, z, hz9, ?_⟩
    have h2 := slot_pg hc hs hj hz9
    have h3 := r.inv.slab c s hc hs ((adr c s j + z) / 1024 - slabP c s) (by omega)
    rw [show slabP c s + ((adr c s j + z) / 1024 - slabP c s) = (adr c s j + z) / 1024 by omega, hon] at h3
    have := storeM_at r.inv.fine (adr c s j + z) [x] 1 0 (by omega) (by rw [r.inv.fine.open]; exact h3)
    show byteAt (storeM h.m (adr c s j + z) [x] 1) _ ≠ 0
    rw [Nat.add_zero] at this
    rw [this]
    exact hx
  · have hne : ¬ (s' = s ∧ j' = j) := by rintro ⟨rfl, rfl⟩; exact hd' (by simp)
    have := slot_apart hc hs hj hc hs' hj' (by rintro ⟨_, rfl, rfl⟩; exact hne ⟨rfl, rfl⟩)
    show byteAt (storeM h.m (adr c s j + z) [x] 1) _ = 0
    rw [storeM_byte _ _ _ _ 1 (by omega)]
    refine r.zero s' j' hs' hj' hk' (by simp) ?_ i hi
    have ho' : (storeM h.m (adr c s j + z) [x] 1 (slabP c s')).isSome = true := ho
    rw [storeM_is] at ho'
    exact ho'
theorem runH_app (cf : Cf) : ∀ (l r : List Op6) (h : Hs) (an : List An4), runH cf (l ++ r) h an = runH cf r (runH cf l h an).1 (runH cf l h an).2
  | [], r, h, an => rfl
  | o :: l, r, h, an => runH_app cf l r _ _
theorem step_at (cf : Cf) (h : Hs) (an : List An4) (o : Op6) (n q : Nat) (ho : o.ref = ((n + 1 : Nat) : Int)) {b : An4} (hn : an[n]? = some b) (hb : b.addr = q) (hq : o.p + q < 18446744073709551616) : stepH cf h an o = doM cf h o (q + o.p) := by
  have hl := (List.getElem?_eq_some_iff.1 hn).1
  unfold stepH
  rw [if_neg (by omega), if_neg (by omega), ho, Int.toNat_natCast, Nat.add_sub_cancel, hn]
  simp only [Option.map_some, Option.getD_some]
  rw [hb, Nat.mod_eq_of_lt hq, Nat.add_comm]
theorem step_mal (cf : Cf) (h : Hs) (an : List An4) (a : Nat) {q : Nat} {h' : Hs} (e : mallocM cf h a = (some q, h')) : stepH cf h an (opMl a) = (⟨0, q, 0, []⟩, h') := by
  unfold stepH opMl doM
  simp only [if_true, e]
theorem Rt9.do {cf : Cf} {c : Nat} {K D : List (Nat × Nat)} {h : Hs} {s j : Nat} (r : Rt9 cf c ((s, j) :: K) D h) (hc : c < 12) (hcan : ∀ i, i < 8 → byteAt h.m (adr c s j + usN c + i) = (can cf (adr c s j))[i]?.getD 0) (rf : Int) : doM cf h ⟨3, rf, 0, 0, 0, []⟩ (adr c s j) = (.no 0, freeSlot cf h c s j) := by
  obtain ⟨hs, hj, hl⟩ := r.live (s, j) (List.mem_cons_self ..)
  dsimp only at hs hj hl
  have hfd : findM h (adr c s j) = .slot c s j := by
    unfold findM
    rw [slotAt_adr hc hs hj]
    simp only
    rw [if_pos hl]
  have hsd : sound cf h c s j = true := load8_eq (by unfold can; exact cRow_len _) hcan
  unfold doM
  simp only [hfd]
  rw [hsd]
  rfl
theorem Rt9.cyc {cf : Cf} {c : Nat} {K D : List (Nat × Nat)} {h : Hs} (r : Rt9 cf c K D h) (hc : c < 12) (hK : K.length ≤ 2) (hD : D.length ≤ 1) (hkd : ∀ t ∈ D, ∃ j, (t.1, j) ∈ K) (hb : cf.bud = 283) (hm : cf.mix ≤ 3) (hf1 : 1 ≤ cf.fifo) (hf : cf.fifo ≤ 6) {a : Nat} (ha : a ≤ 1016) (hca : coN a = c) (an : List An4) (rf : Int) (hrf : rf = ((an.length + 1 : Nat) : Int)) :
    ∃ q h', runH cf [opMl a, ⟨3, rf, 0, 0, 0, []⟩] h an = (h', an ++ [⟨0, q, 0, []⟩, .no 0]) ∧ Rt9 cf c K D h' ∧ ∀ t ∈ D, q ≠ adr c t.1 t.2 := by
  obtain ⟨s, j, h1, e, hs, hj, hk, hd, r1, hcan, _, _⟩ := r.malloc hc hK hD hkd hb hm hf ha hca
  have hA := adr_in hc hs hj
  refine ⟨adr c s j, freeSlot cf h1 c s j, ?_, r1.free hc hk hd hkd hf1, fun t ht e9 => ?_⟩
  · rw [runH_cons, step_mal cf h an a e, runH_cons, step_at cf h1 _ _ an.length (adr c s j) hrf (b := ⟨0, adr c s j, 0, []⟩) (by rw [List.getElem?_append_right (Nat.le_refl _), Nat.sub_self]; rfl) rfl (by dsimp only; omega)]
    dsimp only
    rw [Nat.add_zero, r1.do hc hcan]
    show (_, (an ++ [_]) ++ [_]) = _
    rw [List.append_assoc]
    rfl
  · obtain ⟨l1, l2, _⟩ := r1.dead t ht
    have hz := szN_in hc
    have := slot_apart hc hs hj hc l1 l2 (by rintro ⟨_, e1, e2⟩; exact hd (by rw [e1, e2]; exact ht))
    omega
theorem Rt9.cycs {cf : Cf} {c : Nat} {K D : List (Nat × Nat)} {h : Hs} (r : Rt9 cf c K D h) (hc : c < 12) (hK : K.length ≤ 2) (hD : D.length ≤ 1) (hkd : ∀ t ∈ D, ∃ j, (t.1, j) ∈ K) (hb : cf.bud = 283) (hm : cf.mix ≤ 3) (hf1 : 1 ≤ cf.fifo) (hf : cf.fifo ≤ 6) {a : Nat} (ha : a ≤ 1016) (hca : coN a = c) (an : List An4) (hn : an.length = 4) : ∀ k,
    ∃ h' bs, runH cf (cycs a k) h an = (h', an ++ bs) ∧ Rt9 cf c K D h' ∧ bs.length = 2 * k ∧ ∀ (i : Nat) (x : An4), bs[i]? = some x → x.code = 0 ∧ (i % 2 = 0 → ∀ t ∈ D, x.addr ≠ adr c t.1 t.2)
  | 0 => ⟨h, [], by rw [List.append_nil]; rfl, r, rfl, fun i x hx => by simp at hx⟩
  | k + 1 => by
    obtain ⟨h1, bs, e, r1, hl, hall⟩ := Rt9.cycs r hc hK hD hkd hb hm hf1 hf ha hca an hn k
    obtain ⟨q, h2, e2, r2, hq⟩ := r1.cyc hc hK hD hkd hb hm hf1 hf ha hca (an ++ bs) ((5 + 2 * k : Nat) : Int) (by rw [List.length_append]; omega)
    refine ⟨h2, bs ++ [⟨0, q, 0, []⟩, .no 0], ?_, r2, by rw [List.length_append]; simp; omega, fun i x hx => ?_⟩
    · rw [cycs_succ, runH_app, e]
      dsimp only
      rw [e2, List.append_assoc]
    · by_cases hi : i < bs.length
      · rw [List.getElem?_append_left hi] at hx
        exact hall i x hx
      · rw [List.getElem?_append_right (by omega)] at hx
        obtain ⟨d, hd⟩ : ∃ d, i - bs.length = d := ⟨_, rfl⟩
        rw [hd] at hx
        match d, hd, hx with
        | 0, hd, hx =>
          simp at hx
          subst hx
          exact ⟨rfl, fun _ => hq⟩
        | 1, hd, hx =>
          simp at hx
          subst hx
          exact ⟨rfl, fun h9 => by omega⟩
        | d + 2, hd, hx => simp at hx
theorem Rt9.give0 {cf : Cf} {c : Nat} {K : List (Nat × Nat)} {h : Hs} (r : Rt9 cf c K [] h) (hc : c < 12) (hp : pickS h c = some 0) {a : Nat} (ha : a ≤ 1016) (hca : coN a = c) : ∃ j, (mallocM cf h a).1 = some (adr c 0 j) ∧ j < slN c := by
  have hr : roomS cf h c = some (0, h) := by unfold roomS; rw [hp]
  obtain ⟨hs, i1, hon, hlen, hst, hu, hse⟩ := r.inv.room hc hr
  obtain ⟨_, p1, p2⟩ := pick_in cf hlen
  have hk : (0, pickJ cf h c 0) ∉ K := fun e => by
    have := (r.live _ e).2.2
    dsimp only at this
    rw [this] at p2; cases p2
  refine ⟨pickJ cf h c 0, ?_, p1⟩
  unfold mallocM
  rw [if_pos ha, hca, smallM_succ cf c 1999, hr]
  dsimp only
  rw [if_pos (clean_iff.2 (r.zero 0 _ hs p1 hk (by simp) hon))]
theorem adr_one {c s j s' j' : Nat} (hc : c < 12) (hs : s < 6) (hj : j < slN c) (hs' : s' < 6) (hj' : j' < slN c) (h : adr c s j = adr c s' j') : s = s' ∧ j = j' := by
  by_cases e : s = s' ∧ j = j'
  · exact e
  · have := slot_apart hc hs hj hc hs' hj' (fun x => e x.2)
    have := szN_in hc
    omega
theorem retired_run (cf : Cf) (hb : cf.bud = 283) (hm : cf.mix ≤ 3) (hf1 : 1 ≤ cf.fifo) (hf : cf.fifo ≤ 6) {a : Nat} (ha : a ≤ 1016) {z : Nat} (hz : z < szN (coN a)) {x : Int} (hx : x ≠ 0) (k : Nat) :
    ∃ (j : Nat) (H : Hs) (an : List An4), j < slN (coN a) ∧ runH cf (opsR a z x k) (newH cf) [] = (H, an) ∧ an.length = 4 + 2 * k ∧ (∀ (i : Nat) (b : An4), an[i]? = some b → b.code = 0 ∧ (3 < i → i % 2 = 0 → b.addr ≠ adr (coN a) 0 j)) ∧ (∃ b, an[1]? = some b ∧ b.addr = adr (coN a) 0 j) ∧ (H.st (coN a) 0 j = 2 ∨ H.st (coN a) 0 j = 3 ∨ H.st (coN a) 0 j = 4) := by
  obtain ⟨hc, hs8⟩ := coN_in ha
  have hzz := szN_in hc
  obtain ⟨c, hcc⟩ : ∃ c, coN a = c := ⟨_, rfl⟩
  rw [hcc] at hc hs8 hzz hz ⊢
  obtain ⟨j0, h0, g1, g2, _⟩ := new_give cf hb ha
  rw [hcc] at g1 g2
  obtain ⟨s1, j1, h1, e1, hs1, hj1, -, -, r1, -, mx1, ff1⟩ := (Rt9.new cf c).malloc hc (by simp) (by simp) (by simp) hb hm hf ha hcc
  have hs10 : s1 = 0 := by
    rw [g2] at e1
    injection e1 with e1 _
    injection e1 with e1
    exact ((adr_one hc (by omega) g1 hs1 hj1 e1).1).symm
  subst hs10
  have hq : inQ h1 c = [] := by
    unfold inQ
    rw [mx1, ff1]
    exact inQ_new cf c
  have hp : pickS h1 c = some 0 := by
    unfold pickS
    have on := r1.inv.on1 hc hs1 hj1 (by rw [(r1.live _ (List.mem_cons_self ..)).2.2]; rfl)
    obtain ⟨j9, h9, h99⟩ : ∃ j9, j9 < slN c ∧ j9 ≠ j1 := by
      by_cases e : j1 = 0
      · exact ⟨1, by omega, by omega⟩
      · exact ⟨0, by omega, by omega⟩
    have o1 := r1.oth 0 j9 hs1 h9 (by simp; exact h99)
    have o2 := r1.ret 0 j9 hs1 h9 (by simp)
    have o3 := r1.inv.wait c 0 j9 hc hs1 h9
    rw [hq] at o3
    have o4 : h1.st c 0 j9 ≠ 2 := fun e => by have := o3.1 e; cases this
    have o5 := r1.inv.st c 0 j9
    have hfr : isFree (h1.st c 0 j9) = true := isFree_or.2 (by omega)
    have hmem : j9 ∈ freeS h1 c 0 := by
      unfold freeS
      exact List.mem_filter.2 ⟨List.mem_range.2 h9, hfr⟩
    have hne : (freeS h1 c 0).isEmpty = false := by
      cases e : freeS h1 c 0 with
      | nil => rw [e] at hmem; cases hmem
      | cons _ _ => rfl
    rw [show List.range 6 = 0 :: [1, 2, 3, 4, 5] from rfl, List.find?_cons, on, hne]
    rfl
  obtain ⟨j2', g3, g4⟩ := r1.give0 hc hp ha hcc
  obtain ⟨s2, j2, h2, e2, hs2, hj2, hk2, -, r2, can2, mx2, ff2⟩ := r1.malloc hc (by simp) (by simp) (by simp) hb hm hf ha hcc
  have hs20 : s2 = 0 := by
    rw [e2] at g3
    dsimp only at g3
    injection g3 with g3
    exact (adr_one hc hs2 hj2 (by omega) g4 g3).1
  subst hs20
  have hA := adr_in hc hs2 hj2
  have r3 := r2.free hc hk2 (by simp) (by simp) hf1
  have st3 : (freeSlot cf h2 c 0 j2).st c 0 j2 = 2 := free_st hf1 (by rw [mx2, mx1]; rfl) (by rw [ff2, ff1]; rfl)
  have d3 := r2.do hc can2 2
  obtain ⟨h3, hh3⟩ : ∃ h3, freeSlot cf h2 c 0 j2 = h3 := ⟨_, rfl⟩
  rw [hh3] at r3 st3 d3
  have on3 := r3.inv.on1 hc hs2 hj2 (by rw [st3]; rfl)
  have ac : accC h3.m (adr c 0 j2 + z) ((1 : Nat) : Int) = 0 := accC_open (by omega) (by omega) (by omega) (fun i hi => by
    have h2 := slot_pg hc hs2 hj2 hz
    have h3 := r3.inv.slab c 0 hc hs2 ((adr c 0 j2 + z) / 1024 - slabP c 0) (by omega)
    rw [show slabP c 0 + ((adr c 0 j2 + z) / 1024 - slabP c 0) = (adr c 0 j2 + z) / 1024 by omega, on3] at h3
    obtain rfl : i = 0 := by omega
    rw [Nat.add_zero, r3.inv.fine.open]; exact h3)
  have r4 := r3.dirty hc hs2 hj2 st3 hz hx
  have d4 := do_store cf h3 (adr c 0 j2 + z) z 0 0 2 x ac
  obtain ⟨H, bs, e5, r5, hl5, hall⟩ := r4.cycs hc (by simp) (by simp) (fun t ht => ⟨j1, by simp at ht; subst ht; simp⟩) hb hm hf1 hf ha hcc [⟨0, adr c 0 j1, 0, []⟩, ⟨0, adr c 0 j2, 0, []⟩, .no 0, .no 0] rfl k
  refine ⟨j2, H, [⟨0, adr c 0 j1, 0, []⟩, ⟨0, adr c 0 j2, 0, []⟩, .no 0, .no 0] ++ bs, hj2, ?_, ?_, fun i b hi => ?_, ⟨⟨0, adr c 0 j2, 0, []⟩, rfl, rfl⟩, (r5.dead _ (List.mem_singleton.2 rfl)).2.2.1⟩
  · unfold opsR
    rw [runH_app]
    rw [runH_cons, step_mal cf _ _ a e1, runH_cons, step_mal cf _ _ a e2, runH_cons]
    simp only [List.nil_append, List.cons_append]
    rw [step_at cf h2 _ _ 1 (adr c 0 j2) rfl (b := ⟨0, adr c 0 j2, 0, []⟩) rfl rfl (by dsimp only; omega)]
    dsimp only
    rw [Nat.add_zero, d3, runH_cons]
    simp only [List.nil_append, List.cons_append]
    rw [step_at cf h3 _ _ 1 (adr c 0 j2) rfl (b := ⟨0, adr c 0 j2, 0, []⟩) rfl rfl (by dsimp only; omega)]
    dsimp only
    rw [d4]
    exact e5
  · simp [hl5]
    omega
  · by_cases h4 : i < 4
    · match i, h4, hi with
      | 0, _, hi => simp at hi; subst hi; exact ⟨rfl, fun h => by omega⟩
      | 1, _, hi => simp at hi; subst hi; exact ⟨rfl, fun h => by omega⟩
      | 2, _, hi => simp at hi; subst hi; exact ⟨rfl, fun h => by omega⟩
      | 3, _, hi => simp at hi; subst hi; exact ⟨rfl, fun h => by omega⟩
    · rw [List.getElem?_append_right (by simp; omega)] at hi
      obtain ⟨q1, q2⟩ := hall _ _ hi
      refine ⟨q1, fun _ h2 => q2 (by simp; omega) (0, j2) (by simp)⟩
end Go.Proofs.YtgandbaejlfppaaGreatDoor
