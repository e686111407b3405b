import Derived.Test.YtamfbplchblkbaaJa
namespace Go.Proofs.Ytamfbplchblkbaa
open Go.RowKit Go.Shelf Go.Maps
set_option linter.unusedVariables false

set_option maxRecDepth 20000 in
set_option maxHeartbeats 2000000 in
theorem im_run (nn : Nat) (bud : Int) (G n cap : Nat) (d : Option Addr) (ops : List Op9) (w : World) (hn : ops.length = n) (hd : 0 < n → d = some ⟨G, 0, none⟩) (hO : Oi w G ops) (hop : ∀ o ∈ ops, o.p ≤ 9223372036854775807 ∧ o.dl ≤ o.dc) (h1 : nn ≤ 4096) (h2 : 0 ≤ bud) (h3 : n ≤ 400) :
    Calls Try.prog 6 #[.int .i64 nn, .int .i64 bud, .slice d n cap] w fun e w' => ∃ r, e = .returned r ∧ Rep w (runM nn bud ops n).2 (cntM (runM nn bud ops n).1 nn) (opensM (runM nn bud ops n).1 nn) r w' := by
  obtain ⟨MF, hMF⟩ : ∃ x, (runM nn bud ops n).1 = x := ⟨_, rfl⟩
  obtain ⟨RF, hRF⟩ : ∃ x, (runM nn bud ops n).2 = x := ⟨_, rfl⟩
  rw [hMF, hRF]
  obtain ⟨cm, hCF⟩ : ∃ x, (cntM MF nn : Int) = x := ⟨_, rfl⟩
  obtain ⟨os, hOF⟩ : ∃ x, opensM MF nn = x := ⟨_, rfl⟩
  rw [hCF, hOF]
  have HCF := hid hCF
  have HOF := hid hOF
  clear hCF hOF
  have HMF := hid hMF
  have HRF := hid hRF
  clear hMF hRF
  have HO := hid hO
  have HP := hid hop
  clear hO hop
  have b1 : decide ((nn : Int) < 0) = false := decide_eq_false (by omega)
  have b2 : decide (4096 < (nn : Int)) = false := decide_eq_false (by omega)
  have b3 : decide (bud < 0) = false := decide_eq_false (by omega)
  have b4 : decide (400 < (n : Int)) = false := decide_eq_false (by omega)
  obtain ⟨i0, hi0, hz0, hz1, hz2⟩ := info_parts Try.info36
  go_enter Try.func6, Try.ntmps6
  go_wp2_with fail
  refine (im_new (nn : Int) bud _).mono ?_
  rintro e w1 ⟨S, M, rfl, him, hb, hS, hM, hSM⟩
  have hmk : ∃ w2, (Instr.makeSlice 26 (.int .i64 0) (.int .i64 n)).run Try.prog w1 = .ok (.slice (some ⟨w1.heap.size, 0, none⟩) 0 n) w2 ∧ Rm w S M nn bud (fun _ => none) (fun _ => none) w.heap.size [] (.slice (some ⟨w1.heap.size, 0, none⟩) 0 n) w2 := by
    obtain ⟨w2, e1, e2, e3⟩ := run_make_own (P := Try.prog) w1 w.heap.size 26 36 i0 _ 2 Try.underlying26 hi0 hz0 hz1 .i64 .i64 n (by rw [hz2]; omega) (by unfold maxLen; omega) (by have := hb.size; rw [al_size] at this; omega)
    have hz := hb.size
    rw [al_size] at hz hb hS hM
    have b0 : Below w.heap.size w (w.alloc (.cells #[.bool false, .slice none 0 0, .int .i64 0, .slice none 0 0] 29)) := (Below.refl _ _).alloc (Nat.le_refl _) _
    have bb : Below w.heap.size w w1 := ⟨hb.os.trans b0.os, hb.tape.trans b0.tape, hb.output.trans b0.output, by omega, fun g hg => (hb.block g (by omega)).trans (b0.block g hg)⟩
    refine ⟨w2, e1, him.grown e3, ⟨fun k => .inl ⟨rfl, rfl⟩, (fun j k b h => by cases h)⟩, e2, by simp, List.Pairwise.nil, ?_, below_trans bb (none_below e3) (by omega), by omega, by omega, (fun k g h => by cases h), Nat.le_refl _⟩
    rw [e3.block _ (by omega) (by simp), hb.block _ (by omega)]
    exact al_last _ _
  obtain ⟨w2, hmk, hR⟩ := hmk
  have F0 := hid hR
  clear him hb hS hM hSM hR
  go_wp2_with fail
  generalize w1.heap.size = ga at F0 ⊢
  clear hmk b1 b2 b3 b4
  generalize w.heap.size = Rb at F0 ⊢
  go_loopw [8, 37] (fun v i wr => ∃ k : Nat, k ≤ n ∧ i = .int .i64 k ∧ Hid (∃ l f, Rm w S M nn bud f (runM nn bud ops k).1 Rb l v wr ∧ l.map Prod.fst = (runM nn bud ops k).2)) (fun _ i _ => n - (intOf i).toNat)
  case atStart => exact ⟨0, Nat.zero_le _, rfl, [], _, F0.out, rfl⟩
  case round =>
    obtain ⟨k, hk, rfl, HL⟩ := hrel
    obtain ⟨l, f, hl, hm⟩ := HL.out
    clear HL
    by_cases hlt : k < n
    · obtain ⟨o, ho⟩ : ∃ o, ops[k]? = some o := ⟨_, List.getElem?_eq_getElem (by omega)⟩
      have HD := hd (by omega)
      subst HD
      obtain ⟨d0, d1, d2, d3, d4, d5⟩ := HO.out.six hl.bel ho
      have hlen : l.length = k := by rw [← runM_len nn bud ops k (by omega), ← hm]; simp
      have bV : Below wr.heap.size wr (wr.alloc (.cells #[.int .i64 o.kd, .int .i64 o.p, .int .i64 o.c, .int .u64 o.a, .int .i64 o.n, .slice o.d o.dl o.dc] 34)) := (Below.refl _ _).alloc (Nat.le_refl _) _
      have HV := hid (hl.below bV)
      have OV := hid (al_last wr (.cells #[.int .i64 o.kd, .int .i64 o.p, .int .i64 o.c, .int .u64 o.a, .int .i64 o.n, .slice o.d o.dl o.dc] 34))
      have hmem : o ∈ ops := List.mem_of_getElem? ho
      have ha := (HO.out.dat o hmem).1
      have HE := hid (runM_succ nn bud ops k o ho)
      have HM := hid hm
      clear hl F0 bV hm
      have hpp := HP.out o hmem
      have HG := hid (im_do S M nn bud f (runM nn bud ops k).1 o.kd o.p o.c o.a o.n o.d o.dl o.dc o.ys _ HV.out.im HV.out.pg (runM_out nn bud ops k) h1 ha hpp.1 (HV.out.da HO.out hmem) hpp.2)
      obtain ⟨st, hst⟩ : ∃ st, stepM nn bud (runM nn bud ops k).1 o.kd o.p o.c o.a o.n o.ys = st := ⟨_, rfl⟩
      rw [hst] at HG HE
      obtain ⟨m', code, data⟩ := st
      simp only at HG HE
      unfold opV at HG
      clear hst ho hmem ha hpp
      go_wp2_with fail
      refine (HG.out).mono ?_
      rintro e w3 ⟨u, rfl, hu, hi⟩
      obtain ⟨f', h3', hou, hap⟩ := HV.out.did hi hu
      have R3 := hid h3'
      have A3 := hid (And.intro hou hap)
      have hu1 : u.oneCell' = true := by
        rcases hou.2 with ⟨rfl, _⟩ | ⟨g, cap, cur, rfl, _⟩ <;> rfl
      have hus : ∃ p l c, u = .slice p l c := by
        rcases hou.2 with ⟨rfl, _⟩ | ⟨g, cap, cur, rfl, _⟩ <;> exact ⟨_, _, _, rfl⟩
      have hvs : ∃ p l c, u8 = .slice p l c := by
        rcases h3'.own.2 with ⟨rfl, _⟩ | ⟨g, cap, cur, rfl, _⟩ <;> exact ⟨_, _, _, rfl⟩
      obtain ⟨up, ul, uc, rfl⟩ := hus
      obtain ⟨vp, vl, vc, rfl⟩ := hvs
      clear hi hu h3' hou hap HG HV OV d0 d1 d2 d3 d4 d5
      have R8 := hid (R3.out.below ((Below.refl _ _).alloc (Nat.le_refl _) (.cells #[.int .i64 code, .slice up ul uc] 36)))
      go_wp2_with (at_builtin; refine wpList_append_own _ rfl _ _ 26 rfl w.heap.size 36 i0 _ 2 32 Try.underlying26 hi0 hz0 hz1 hz2 rfl (by omega) _ _ _ rfl R8.out.own _ 1 1 [.int .i64 code, .slice up ul uc] rfl rfl ?hc ?h1c ?b1 ?b2 ?b3 ?_)
      case hc => exact two_new w3 _ _ 36
      case h1c => intro x hx; simp at hx; rcases hx with rfl | rfl <;> rfl
      case b1 => unfold maxLen; omega
      case b2 => omega
      case b3 => exact R8.out.bel.size
      intro v1 w9 ho9 hg9 _
      have R9 := hid (R8.out.next ((code, data), .slice up ul uc) (own_keep A3.out.1 (fun g c _ hc => al_old _ _ _ (lt_blk hc))) A3.out.2 (by rw [hlen]; exact ho9) hg9)
      clear ho9 hg9 R8 R3 A3
      go_wp2
      go_roundw
      case rel => exact ⟨k + 1, by omega, by go_num, _, _, by rw [HE.out]; exact R9.out, by rw [HE.out]; simp [HM.out]⟩
      case measure => simp [intOf]; omega
    · have hkn : k = n := by omega
      subst hkn
      clear F0
      have hout := runM_out nn bud ops k
      rw [HMF.out] at hl hout
      rw [HRF.out] at hm
      have HT := hid (told_in sorts S M nn bud f MF wr hl.im hl.pg)
      have H0 := hid hl
      have HC := hid (held_cnt hl.pg h1 hout)
      have HOU := hid hout
      clear hl hout
      go_wp2_with fail
      refine (HT.out).mono ?_
      rintro e w4 ⟨vo, os', rfl, ho4, hmet, fr⟩
      have hos := told_opens h1 HOU.out hmet
      rw [hos, HOF.out] at ho4
      have hle : os'.length = os.length := by rw [← HOF.out, ← hos]; simp
      rw [hle] at ho4
      rw [HC.out, HCF.out]
      obtain ⟨q1, q2, q3, q4⟩ := H0.out.tell fr
      obtain ⟨va, vl, vc, rfl⟩ : ∃ a b c, vo = .slice a b c := by rcases ho4.2 with ⟨rfl, _⟩ | ⟨g, cap, cur, rfl, _⟩ <;> exact ⟨_, _, _, rfl⟩
      obtain ⟨ua, ul, uc, rfl⟩ : ∃ a b c, u8 = .slice a b c := by rcases q1.2 with ⟨rfl, _⟩ | ⟨g, cap, cur, rfl, _⟩ <;> exact ⟨_, _, _, rfl⟩
      have Q3 := hid q3
      have hg := grown_setRow w4 Rb #[.bool true, .slice ua ul uc, .int .i64 cm, .slice va vl vc]
      have ho5 := own_mono ho4 H0.out.bel.size
      have RP := hid (show Rep w (l.map Prod.fst) cm os (.agg #[.bool true, .slice ua ul uc, .int .i64 cm, .slice va vl vc]) (w4.setRow Rb #[.bool true, .slice ua ul uc, .int .i64 cm, .slice va vl vc]) from
        ⟨l, _, _, rfl, rfl, q1.kept hg (.inr (own_ne q1 q3 (by decide))), fun x hx => (q2 x hx).kept hg (.inr (own_ne (q2 x hx) q3 (by decide))), H0.out.apart, ho5.kept hg (.inr (own_ne ho5 q3 (by decide))), q4.grown hg q4.size (fun r hr => by have := H0.out.hR; simp at hr; omega)⟩)
      clear q1 q2 q3 q4 ho4 ho5 hg fr hmet hos hle HT H0 HOU HC
      go_wp2_with (first | (refine wpList_store_row rfl 29 _ _ rfl _ _ rfl rfl 29 _ Q3.out (by kernel_rfl) rfl ?o1 ?_))
      case o1 => simp [Value.oneCell']
      refine bodyPost_ret (results_cell_row (by rfl) _ _ Rb 29 _ (0, 0) _ (by rfl) (setRow_at Q3.out _) Try.underlying29 rfl (by kernel_rfl)) (by rfl) ?_
      exact ⟨_, rfl, by have h9 := RP.out; rw [hm] at h9; exact h9⟩
end Go.Proofs.Ytamfbplchblkbaa
#print axioms Go.Proofs.Ytamfbplchblkbaa.im_run
