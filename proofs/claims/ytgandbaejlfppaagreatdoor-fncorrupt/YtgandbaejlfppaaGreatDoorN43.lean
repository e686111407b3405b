import Derived.Test.YtgandbaejlfppaaGreatDoorN42
namespace Go.Proofs.YtgandbaejlfppaaGreatDoor
set_option linter.unusedVariables false
set_option linter.unusedSimpArgs false
set_option maxRecDepth 20000
set_option maxHeartbeats 8000000
open Go.RowKit Go.Maps
theorem eql33n (w:World):(binOp .eql 35 (Vn) (Vn)).run Tryz.prog w=.ok (.bool true) w:=by kernel_rfl
theorem eql33s (x:Addr) (n c:Nat) (w:World):(binOp .eql 35 (.slice (some x) n c) (Vn)).run Tryz.prog w=.ok (.bool false) w:=by kernel_rfl
theorem im_clone_nil (W:World):Calls Tryz.prog 45 #[Vn] W fun e W'=>e=.returned (Vn)∧W'=W:=by
 have e1:=eql33n;go_enter Tryz.func45,Tryz.ntmps45;go_wp2;go_ret;exact⟨rfl,rfl⟩
theorem im_clone_at (x:Addr) (c:Nat) (l:List Nat) (W:World) (hx:∀ j u,(Us l)[j]?=some u→W.cell? (x.add j)=some u) (hl:l.length≤100000) :
  Calls Tryz.prog 45 #[.slice (some x) l.length c] W fun e W'=>∃ v,e=.returned v∧W'.ownsRow W.heap.size 23 1 v l.length (Us l)∧Below W.heap.size W W':=by
 have bA:Below W.heap.size W (W.alloc (.cells #[] 23)):=(Below.refl _ _).alloc (Nat.le_refl _) _;obtain⟨v',U,happ,o9,g9⟩:=app_us (W.alloc (.cells #[] 23)) W.heap.size (Vl W.heap.size 0 0) [] l x c ⟨rfl,.inr ⟨W.heap.size,0,#[],rfl,Nat.le_refl _,al_last W _,Nat.le_refl _,Nat.zero_le _,rfl,rfl⟩⟩ (fun j u hj=>below_cell bA (hx j u hj)) (by simpa using hl) bA.size;have HF:=hid (And.intro o9 (bA.grown g9 bA.size (fun r hr=>by simp [Value.ownBlock] at hr;omega)));clear o9 g9 bA hx;generalize hn:l.length=n at *;have e1:=eql33s x n c;go_enter Tryz.func45,Tryz.ntmps45;go_wp2_with (at_builtin;refine list_app rfl _ _ rfl rfl rfl rfl happ ?_);go_wp2;go_ret;exact⟨_,rfl,by simpa [hn] using HF.out.1,HF.out.2⟩
theorem im_clone (B:Nat) (v:Value) (l:List Nat) (W:World) (h:Um B W v l) (hl:l.length≤100000) :
  Calls Tryz.prog 45 #[v] W fun e W'=>∃ v',e=.returned v'∧W'.ownsRow W.heap.size 23 1 v' l.length (Us l)∧Below W.heap.size W W':=by
 rcases h with ⟨rfl,rfl⟩|⟨g,o,cap,c,rfl,h1,h2,h3,h4,h5⟩
 ·refine (im_clone_nil W).mono ?_;rintro e W' ⟨rfl,rfl⟩;exact⟨_,rfl,⟨rfl,.inl ⟨rfl,rfl⟩⟩,Below.refl _ _⟩
 refine im_clone_at ⟨g,o,none⟩ cap l W (fun j u hj=>?_) hl;have hj':j < l.length:=by have:=(List.getElem?_eq_some_iff.1 hj).1;simpa [Us_len] using this
 rw [Addr.add_mid,cell_of_row _ _ _ _ _ _ h2,h5.2.2 j hj',←hj];simp [Us,hj']
end Go.Proofs.YtgandbaejlfppaaGreatDoor
namespace Go.Proofs.YtgandbaejlfppaaGreatDoor
set_option linter.unusedVariables false
set_option linter.unusedSimpArgs false
set_option maxRecDepth 20000
set_option maxHeartbeats 8000000
open Go.RowKit Go.Maps
section
variable {lt : Nat → Nat → Bool} {hi f r : Nat} {d : Array Nat}
theorem sift_end (h:2*r+1≥hi):Sort.siftDown lt hi f r d=d:=by rw [Sort.siftDown,dif_pos h]
theorem sift_R (h : ¬ 2 * r + 1 ≥ hi) (h1 : 2 * r + 2 < hi) (h2 : lt d[f + (2 * r + 1)]! d[f + (2 * r + 2)]! = true) (h3 : lt d[f + r]! d[f + (2 * r + 2)]! = true) : Sort.siftDown lt hi f r d = Sort.siftDown lt hi f (2 * r + 2) (Sort.swp d (f + r) (f + (2 * r + 2))) := by
  have h2' : lt d[f + (2 * r + 1)]! d[f + (2 * r + 1) + 1]! = true := h2
  rw [Sort.siftDown, dif_neg h, if_pos (by simp [h2']; omega), if_neg (by simp [h3]), dif_pos h1]
theorem sift_R0 (h : ¬ 2 * r + 1 ≥ hi) (h1 : 2 * r + 2 < hi) (h2 : lt d[f + (2 * r + 1)]! d[f + (2 * r + 2)]! = true) (h3 : lt d[f + r]! d[f + (2 * r + 2)]! = false) : Sort.siftDown lt hi f r d = d := by
  have h2' : lt d[f + (2 * r + 1)]! d[f + (2 * r + 1) + 1]! = true := h2
  rw [Sort.siftDown, dif_neg h, if_pos (by simp [h2']; omega), if_pos (by simp [h3])]
theorem sift_L (h : ¬ 2 * r + 1 ≥ hi) (h2 : 2 * r + 2 < hi → lt d[f + (2 * r + 1)]! d[f + (2 * r + 2)]! = false) (h3 : lt d[f + r]! d[f + (2 * r + 1)]! = true) : Sort.siftDown lt hi f r d = Sort.siftDown lt hi f (2 * r + 1) (Sort.swp d (f + r) (f + (2 * r + 1))) := by
  have h2' : 2 * r + 1 + 1 < hi → lt d[f + (2 * r + 1)]! d[f + (2 * r + 1) + 1]! = false := h2
  rw [Sort.siftDown, dif_neg h, if_neg (by simp only [Bool.and_eq_true, decide_eq_true_eq, not_and]; intro h9; rw [h2' h9]; simp), if_neg (by simp [h3])]
theorem sift_L0 (h : ¬ 2 * r + 1 ≥ hi) (h2 : 2 * r + 2 < hi → lt d[f + (2 * r + 1)]! d[f + (2 * r + 2)]! = false) (h3 : lt d[f + r]! d[f + (2 * r + 1)]! = false) : Sort.siftDown lt hi f r d = d := by
  have h2' : 2 * r + 1 + 1 < hi → lt d[f + (2 * r + 1)]! d[f + (2 * r + 1) + 1]! = false := h2
  rw [Sort.siftDown, dif_neg h, if_neg (by simp only [Bool.and_eq_true, decide_eq_true_eq, not_and]; intro h9; rw [h2' h9]; simp), if_pos (by simp [h3])]
end
theorem im_sift (G N c lo hi f : Nat) (d : Array Nat) (V0 V : World) (A : Au G N c V0 d V) (hb : f + hi ≤ N) (hN : N ≤ 100000) (hlo : lo ≤ N) :
    Calls Tryz.prog 186 #[.slice (some ⟨G, 0, none⟩) N c, .int .i64 lo, .int .i64 hi, .int .i64 f] V fun e V' => e = .returned (.tuple #[]) ∧ Au G N c V0 (Sort.siftDown ltN hi f lo d) V' := by
  obtain ⟨D0, hD⟩ : ∃ D0, Sort.siftDown ltN hi f lo d = D0 := ⟨_, rfl⟩
  rw [hD]
  have HD := hid hD
  have HA := hid A
  clear hD A
  go_enter Tryz.func186, Tryz.ntmps186
  go_wp2_with fail
  go_loopw [8] (fun s8 wr => ∃ (r : Nat) (d : Array Nat), r ≤ N ∧ s8 = .int .i64 r ∧ Hid (Sort.siftDown ltN hi f r d = D0) ∧ Hid (Au G N c V0 d wr)) (fun s8 _ => N + 1 - (intOf s8).toNat)
  case atStart => exact ⟨lo, d, hlo, rfl, HD, HA⟩
  case round =>
    clear HD HA
    obtain ⟨r, d, hr, rfl, HD, HA⟩ := hrel
    obtain ⟨ch, hch⟩ : ∃ ch, ch = 2 * r + 1 := ⟨_, rfl⟩
    have hchz : (2 : Int) * (r : Int) + 1 = (ch : Int) := by omega
    by_cases hend : ch ≥ hi
    · have he : (hi : Int) ≤ (ch : Int) := by omega
      have HE := hid (show d = D0 by have := HD.out; rw [sift_end (by omega)] at this; exact this)
      clear HD hch hend
      go_wp2
      go_end0
      exact ⟨rfl, by rw [← HE.out]; exact HA.out⟩
    · have he : ¬ ((hi : Int) ≤ (ch : Int)) := by omega
      obtain ⟨p, hp⟩ : ∃ p, p = f + ch := ⟨_, rfl⟩
      obtain ⟨q, hq⟩ : ∃ q, q = f + ch + 1 := ⟨_, rfl⟩
      obtain ⟨s, hs⟩ : ∃ s, s = f + r := ⟨_, rfl⟩
      obtain ⟨ch1, hch1⟩ : ∃ ch1, ch1 = ch + 1 := ⟨_, rfl⟩
      have hpz : (f : Int) + (ch : Int) = (p : Int) := by omega
      have hqz : (p : Int) + 1 = (q : Int) := by omega
      have hsz : (f : Int) + (r : Int) = (s : Int) := by omega
      have hc1z : (ch : Int) + 1 = (ch1 : Int) := by omega
      have hfq : (f : Int) + (ch1 : Int) = (q : Int) := by omega
      have hpN : (p : Int) < (N : Int) := by omega
      have hsN : (s : Int) < (N : Int) := by omega
      have xs := HA.out.cell (show s < N by omega)
      have xp := HA.out.cell (show p < N by omega)
      have HQ := hid (And.intro hch (And.intro hp (And.intro hq (And.intro hs hch1))))
      by_cases hc2 : ch1 < hi
      · have hc2z : (ch1 : Int) < (hi : Int) := by omega
        have hqN : (q : Int) < (N : Int) := by omega
        have xq := HA.out.cell (show q < N by omega)
        by_cases hl : ltN d[p]! d[q]! = true
        · clear hch hp hq hs hch1
          go_upto_region 3 with fail
          go_quiet (first | (go_at_call 163; exact Calls.quiet_of_same (im_lessT hl _)))
          have A1 := hid (HA.out.drewN nq)
          clear HA xs xp xq
          generalize wr.drewN nq = w1 at A1 ⊢
          have xs := A1.out.cell (show s < N by omega)
          have xq := A1.out.cell (show q < N by omega)
          by_cases hm : ltN d[s]! d[q]! = true
          · go_upto_region 5 with fail
            go_quiet (first | (go_at_call 163; exact Calls.quiet_of_same (im_lessT hm _)))
            have A2 := hid (A1.out.drewN nq)
            clear A1 xs xq
            generalize w1.drewN nq = w2 at A2 ⊢
            have xs := A2.out.cell (show s < N by omega)
            have xq := A2.out.cell (show q < N by omega)
            have f1 := A2.out.fz s
            obtain ⟨u9, y0⟩ := A2.out.sw1 (show s < N by omega) (show q < N by omega)
            have f0 := (A2.out.set (show s < N by omega) d[q]!).fz q
            have A3 := hid (A2.out.swap (show s < N by omega) (show q < N by omega)).drew
            have H3 := hid (show Sort.siftDown ltN hi f ch1 (Sort.swp d s q) = D0 by
              have := HD.out
              obtain ⟨rfl, rfl, rfl, rfl, rfl⟩ := HQ.out
              rw [sift_R (by omega) (by omega) hl hm] at this; exact this)
            clear A2
            go_upto_region 6 with fail
            go_region
            clear xs xq f1 y0 f0
            go_wp2
            go_roundw
            case rel => exact ⟨ch1, _, by omega, by go_num, H3, A3⟩
            case measure => have := HQ.out; simp [intOf]; omega
          · have hm : ltN d[s]! d[q]! = false := by simpa using hm
            have H3 := hid (show d = D0 by
              have := HD.out
              obtain ⟨rfl, rfl, rfl, rfl, rfl⟩ := HQ.out
              rw [sift_R0 (by omega) (by omega) hl hm] at this; exact this)
            go_upto_region 5 with fail
            go_quiet (first | (go_at_call 163; exact Calls.quiet_of_same (im_lessF hm _)))
            have A2 := hid (A1.out.drewN nq)
            clear A1 xs xq
            generalize w1.drewN nq = w2 at A2 ⊢
            go_wp2
            first | go_end0 | ((try simp only [Exit.inBlock, Exit.then]); refine bodyPost_ret (results_none rfl _ _ _) rfl ?_)
            exact ⟨rfl, by rw [← H3.out]; exact A2.out⟩
        · have hl : ltN d[p]! d[q]! = false := by simpa using hl
          have HL := hid (show 2 * r + 2 < hi → ltN d[f + (2 * r + 1)]! d[f + (2 * r + 2)]! = false from fun _ => by
            obtain ⟨rfl, rfl, rfl, _⟩ := HQ.out
            exact hl)
          clear hch hp hq hs hch1
          go_upto_region 3 with fail
          go_quiet (first | (go_at_call 163; exact Calls.quiet_of_same (im_lessF hl _)))
          have A1 := hid (HA.out.drewN nq)
          clear HA xs xp xq
          generalize wr.drewN nq = w1 at A1 ⊢
          have xs := A1.out.cell (show s < N by omega)
          have xp := A1.out.cell (show p < N by omega)
          by_cases hm : ltN d[s]! d[p]! = true
          · go_upto_region 5 with fail
            go_quiet (first | (go_at_call 163; exact Calls.quiet_of_same (im_lessT hm _)))
            have A2 := hid (A1.out.drewN nq)
            clear A1 xs xp
            generalize w1.drewN nq = w2 at A2 ⊢
            have xs := A2.out.cell (show s < N by omega)
            have xq := A2.out.cell (show p < N by omega)
            have f1 := A2.out.fz s
            obtain ⟨u9, y0⟩ := A2.out.sw1 (show s < N by omega) (show p < N by omega)
            have f0 := (A2.out.set (show s < N by omega) d[p]!).fz p
            have A3 := hid (A2.out.swap (show s < N by omega) (show p < N by omega)).drew
            have H3 := hid (show Sort.siftDown ltN hi f ch (Sort.swp d s p) = D0 by
              have := HD.out
              obtain ⟨rfl, rfl, rfl, rfl, rfl⟩ := HQ.out
              rw [sift_L (by omega) HL.out hm] at this; exact this)
            clear A2
            go_upto_region 6 with fail
            go_region
            clear xs xq f1 y0 f0
            go_wp2
            go_roundw
            case rel => exact ⟨ch, _, by omega, by go_num, H3, A3⟩
            case measure => have := HQ.out; simp [intOf]; omega
          · have hm : ltN d[s]! d[p]! = false := by simpa using hm
            have H3 := hid (show d = D0 by
              have := HD.out
              obtain ⟨rfl, rfl, rfl, rfl, rfl⟩ := HQ.out
              rw [sift_L0 (by omega) HL.out hm] at this; exact this)
            go_upto_region 5 with fail
            go_quiet (first | (go_at_call 163; exact Calls.quiet_of_same (im_lessF hm _)))
            have A2 := hid (A1.out.drewN nq)
            clear A1 xs xp
            generalize w1.drewN nq = w2 at A2 ⊢
            go_wp2
            first | go_end0 | ((try simp only [Exit.inBlock, Exit.then]); refine bodyPost_ret (results_none rfl _ _ _) rfl ?_)
            exact ⟨rfl, by rw [← H3.out]; exact A2.out⟩
      · have hc2z : decide ((ch1 : Int) < (hi : Int)) = false := decide_eq_false (by omega)
        have HL := hid (show 2 * r + 2 < hi → ltN d[f + (2 * r + 1)]! d[f + (2 * r + 2)]! = false from fun h9 => by
          obtain ⟨rfl, rfl, rfl, _, rfl⟩ := HQ.out
          omega)
        clear hch hp hq hs hch1
        go_upto_region 3 with fail
        go_quiet (fail)
        have A1 := hid (HA.out.drewN nq)
        clear HA xs xp
        generalize wr.drewN nq = w1 at A1 ⊢
        have xs := A1.out.cell (show s < N by omega)
        have xp := A1.out.cell (show p < N by omega)
        by_cases hm : ltN d[s]! d[p]! = true
        · go_upto_region 5 with fail
          go_quiet (first | (go_at_call 163; exact Calls.quiet_of_same (im_lessT hm _)))
          have A2 := hid (A1.out.drewN nq)
          clear A1 xs xp
          generalize w1.drewN nq = w2 at A2 ⊢
          have xs := A2.out.cell (show s < N by omega)
          have xq := A2.out.cell (show p < N by omega)
          have f1 := A2.out.fz s
          obtain ⟨u9, y0⟩ := A2.out.sw1 (show s < N by omega) (show p < N by omega)
          have f0 := (A2.out.set (show s < N by omega) d[p]!).fz p
          have A3 := hid (A2.out.swap (show s < N by omega) (show p < N by omega)).drew
          have H3 := hid (show Sort.siftDown ltN hi f ch (Sort.swp d s p) = D0 by
            have := HD.out
            obtain ⟨rfl, rfl, rfl, rfl, rfl⟩ := HQ.out
            rw [sift_L (by omega) HL.out hm] at this; exact this)
          clear A2
          go_upto_region 6 with fail
          go_region
          clear xs xq f1 y0 f0
          go_wp2
          go_roundw
          case rel => exact ⟨ch, _, by omega, by go_num, H3, A3⟩
          case measure => have := HQ.out; simp [intOf]; omega
        · have hm : ltN d[s]! d[p]! = false := by simpa using hm
          have H3 := hid (show d = D0 by
            have := HD.out
            obtain ⟨rfl, rfl, rfl, rfl, rfl⟩ := HQ.out
            rw [sift_L0 (by omega) HL.out hm] at this; exact this)
          go_upto_region 5 with fail
          go_quiet (first | (go_at_call 163; exact Calls.quiet_of_same (im_lessF hm _)))
          have A2 := hid (A1.out.drewN nq)
          clear A1 xs xp
          generalize w1.drewN nq = w2 at A2 ⊢
          go_wp2
          first | go_end0 | ((try simp only [Exit.inBlock, Exit.then]); refine bodyPost_ret (results_none rfl _ _ _) rfl ?_)
          exact ⟨rfl, by rw [← H3.out]; exact A2.out⟩
end Go.Proofs.YtgandbaejlfppaaGreatDoor
namespace Go.Proofs.YtgandbaejlfppaaGreatDoor
set_option linter.unusedVariables false
set_option linter.unusedSimpArgs false
set_option maxRecDepth 20000
set_option maxHeartbeats 8000000
open Go.RowKit Go.Maps
theorem im_heap (G N c a b:Nat) (d:Array Nat) (V0 V:World) (A:Au G N c V0 d V) (hab:a < b) (hb:b≤N) (hN:N≤100000) :
  Calls Tryz.prog 158 #[Vl G N c,Vi a,Vi b] V fun e V'=>e=.returned (.tuple #[])∧Au G N c V0 (Sort.heapSort ltN d a b) V':=by
 obtain⟨D0,hD⟩:∃ D0,Sort.heapSort ltN d a b=D0:=⟨_,rfl⟩;rw [hD];obtain⟨hi,hhi⟩:∃ hi,b - a=hi:=⟨_,rfl⟩;have hhz:(b:Int) - (a:Int)=(hi:Int):=by omega
 obtain⟨m,hm0⟩:∃ m,m=(hi - 1)/2:=⟨_,rfl⟩;obtain⟨D1,hD1⟩:∃ D1,Sort.heapBuild ltN hi a (m+1) d=D1:=⟨_,rfl⟩;have HD:=hid (show Sort.heapPop ltN a hi D1=D0 by rw [←hD,←hD1,←hhi,hm0,←hhi];rfl);have HD1:=hid hD1;have HA:=hid A;have hm:((hi:Int) - 1).tdiv 2=(m:Int):=by
  rw [Int.tdiv_eq_ediv_of_nonneg (by omega)];omega
 have hmN:m+1≤N:=by omega
 clear hD A hD1 hm0;go_enter Tryz.func158,Tryz.ntmps158;go_wp2_with fail;go_loopw [9] (fun s9 wr=>∃ (k:Nat) (z:Int) (d:Array Nat),k≤N∧z=(k:Int) - 1∧s9=Vi z∧Hid (Sort.heapBuild ltN hi a k d=D1)∧Hid (Au G N c V0 d wr)) (fun s9 _=>(intOf s9+1).toNat)
 case atStart=>exact ⟨m+1,m,d,hmN,by omega,rfl,HD1,HA⟩
 case round =>
  clear HD1 HA;obtain⟨k,z,d,hk,hz,rfl,HD1,HA⟩:=hrel
  cases k with
  | succ k =>
   obtain rfl:z=(k:Int):=by omega
   have h0:(0:Int)≤(k:Int):=by omega
   have HD2:=hid (show Sort.heapBuild ltN hi a k (Sort.siftDown ltN hi a k d)=D1 from HD1.out);clear HD1 hz;go_wp2_with fail;refine (im_sift G N c k hi a d V0 _ HA.out (by omega) hN (by omega)).mono ?_;rintro e w1 ⟨rfl,A1⟩;have A2:=hid A1;clear A1 HA;go_wp2;go_roundw
   case rel=>exact ⟨k,(k:Int) - 1,_,by omega,rfl,by go_num,HD2,A2⟩
   case measure=>(simp [intOf];try omega)
  | zero =>
   have hz0:¬((0:Int)≤z):=by omega
   have HE:=hid (show d=D1 from HD1.out);have A1:=hid (show Au G N c V0 D1 wr by rw [←HE.out];exact HA.out);clear HD1 HA HE hz;go_wp2_with fail;go_loopw [10] (fun s10 wr=>∃ (k:Nat) (z:Int) (d:Array Nat),k≤hi∧z=(k:Int) - 1∧s10=Vi z∧Hid (Sort.heapPop ltN a k d=D0)∧Hid (Au G N c V0 d wr)) (fun s10 _=>(intOf s10+1).toNat)
   case atStart=>exact ⟨hi,(hi:Int) - 1,D1,by omega,rfl,by go_num,HD,A1⟩
   case round =>
    clear HD A1;obtain⟨k,z,d,hk,hz,rfl,HD,HA⟩:=hrel
    cases k with
    | succ k =>
     obtain rfl:z=(k:Int):=by omega
     have h0:(0:Int)≤(k:Int):=by omega
     obtain⟨p,hp⟩:∃ p,p=a+k:=⟨_,rfl⟩;have hpz:(a:Int)+(k:Int)=(p:Int):=by omega
     have hpN:(p:Int) < (N:Int):=by omega
     have haN:(a:Int) < (N:Int):=by omega
     have HD2:=hid (show Sort.heapPop ltN a k (Sort.siftDown ltN k a 0 (Sort.swp d a p))=D0 by rw [hp];exact HD.out);have xa:=HA.out.cell (show a < N by omega);have xp:=HA.out.cell (show p < N by omega);have f1:=HA.out.fz a;obtain⟨u9,y0⟩:=HA.out.sw1 (show a < N by omega) (show p < N by omega);have f0:=(HA.out.set (show a < N by omega) d[p]!).fz p;have A2:=hid (HA.out.swap (show a < N by omega) (show p < N by omega)).drew;clear HD hz HA hp;go_upto_region 10 with fail
     go_region;clear xa xp f1 y0 f0;go_wp2_with fail;refine (im_sift G N c 0 k a _ V0 _ A2.out (by omega) hN (by omega)).mono ?_;rintro e w1 ⟨rfl,A1⟩;have A3:=hid A1;clear A1 A2;go_wp2;go_roundw
     case rel=>exact ⟨k,(k:Int) - 1,_,by omega,rfl,by go_num,HD2,A3⟩
     case measure=>(simp [intOf];try omega)
    | zero =>
     have hz0:¬((0:Int)≤z):=by omega
     clear hz;have HE:=hid (show d=D0 from HD.out);go_wp2
     go_end0
     exact⟨rfl,by rw [←HE.out];exact HA.out⟩
end Go.Proofs.YtgandbaejlfppaaGreatDoor
namespace Go.Proofs.YtgandbaejlfppaaGreatDoor
set_option linter.unusedVariables false
set_option linter.unusedSimpArgs false
set_option maxRecDepth 20000
set_option maxHeartbeats 8000000
open Go.RowKit Go.Maps Go.Shelf
attribute [local go_sem] Oper.semAt_some
theorem vals_in (l X n0 m:Nat) (hm:1≤m) (va:Option Addr) (vc base:Nat) (zs:List Nat) (J Jx:List Nat→World→Prop) (W:World)
  (hY:∀ pre (x:Nat) W1,J pre W1→pre.length < zs.length→YieldAt Fence.wide (m - 1) Tryz.prog l #[Vu (x:Nat)] W1 fun e W' =>
   (e=.returned (.bool true)∧J (pre++[x]) W'∧Below n0 W1 W')∨(e=.returned (.bool false)∧Jx (pre++[x]) W'))
  (hX:W.cell? ⟨X,0,none⟩=some (.slice va zs.length vc)) (hr:W.ownsRow base 23 1 (.slice va zs.length vc) zs.length (Us zs)) (hrn:∀ g,(Value.slice va zs.length vc).ownBlock=some g→g < n0) (hl:zs.length≤1000) (h0:J [] W) :
  CallsIn Fence.wide m Tryz.prog 86 #[.func (.yield l) #[] #[],Vp X 0] W fun e W'=>(∃ v,e=.returned v) ∧
   ((∃ ys,ys=zs∧J ys W')∨(∃ pre,pre <+: zs∧Jx pre W')):=by
 obtain⟨n,hn⟩:∃ n,zs.length=n:=⟨_,rfl⟩;rw [hn] at hX hr hrn hl hY;have HY:=hid hY;have HR:=hid hr;have HN:=hid hrn;have HL:=hid hn;have H0:=hid h0;clear hY hr hrn hn h0;refine callsIn_of_wp Tryz.func86 rfl trivial ?_ rfl;simp only [Tryz.ntmps86,List.size_toArray,List.length_cons,List.length_nil,Nat.reduceAdd,Nat.reduceSub,Array.replicate_succ,Array.replicate_zero,List.push_toArray,List.append_toArray,List.nil_append,List.cons_append]
 gi_wp2
 gi_loopw [7] (fun i wr=>∃ k:Nat,k≤n∧i=Vi k∧Hid (J (zs.take k) wr)∧Hid (Below n0 W wr)) (fun i _=>n - (intOf i).toNat)
 case atStart=>exact ⟨0,Nat.zero_le _,rfl,H0,hid (Below.refl _ _)⟩
 case round =>
  clear hX;obtain⟨k,hk,rfl,HJ,HB⟩:=hrel
  by_cases hlt:k < n
  ·obtain⟨G,rfl⟩:=own_at HR.out (by omega);obtain⟨x,hx⟩:∃ x,zs[k]?=some x:=⟨_,List.getElem?_eq_getElem (by rw [HL.out];exact hlt)⟩;have ck:wr.cell? ⟨G,k,none⟩=some (Vu (x:Nat)):=(HB.out.cell (p:=⟨G,k,none⟩) (HN.out G rfl)).trans (own_cell HR.out k _ (Us_at hx));obtain⟨fn,tmps,assign,body,hy,hR⟩:=HY.out (zs.take k) x wr HJ.out (by rw [List.length_take];omega);have HF:=hid (show zs.take (k+1)=zs.take k++[x] by rw [List.take_add_one,hx];rfl);have HRd:=hid hR;clear hR hx HJ
   gi_wp2
   refine HRd.out.mono ?_;rintro e W3 (⟨rfl,hJ3,hk3⟩|⟨rfl,hJx3⟩)
   ·have J3:=hid (show J (zs.take (k+1)) W3 by rw [HF.out];exact hJ3);have B3:=hid (HB.out.trans hk3);clear hJ3 hk3 hy
    gi_wp2
    go_roundw
    case rel=>exact ⟨k+1,by omega,by go_num,J3,B3⟩
    case measure=>simp [intOf];omega
   have J3:=hid (show Jx (zs.take (k+1)) W3 by rw [HF.out];exact hJx3);clear hJx3 hy
   gi_wp2
   refine bodyPost_ret (results_none rfl _ _ _) rfl ?_;exact⟨⟨_,rfl⟩,.inr ⟨_,List.take_prefix _ _,J3.out⟩⟩
  obtain rfl:n=k:=by omega
  have HE:=hid (show zs.take n=zs by rw [←HL.out,List.take_length])
  gi_wp2
  go_end0
  exact⟨⟨_,rfl⟩,.inl ⟨zs,rfl,by rw [←HE.out];exact HJ.out⟩⟩
theorem im_appendSeq_in (X:Nat) (va:Option Addr) (vc base:Nat) (zs:List Nat) (w:World) (hX:w.heap[X]?=some (.cells #[.slice va zs.length vc] 35 (0,0))) (hr:w.ownsRow base 23 1 (.slice va zs.length vc) zs.length (Us zs)) (hl:zs.length≤1000) :
  CallsIn Fence.wide 5 Tryz.prog 117 #[Vn,.func (.func 86) #[] #[Vp X 0]] w fun e W'=>∃ v,e=.returned v∧W'.ownsRow w.heap.size 23 1 v zs.length (Us zs)∧Below w.heap.size w W':=by
 obtain⟨i0,hi,hz0,hz1,hz2⟩:=info_parts info22;have HX:=hid hX;have HR:=hid hr;have HN:=hid (show ∀ g,(Value.slice va zs.length vc).ownBlock=some g→g < w.heap.size from fun g hg=>by obtain ⟨_,c,hc⟩:=own_lt hr hg;exact lt_blk hc);clear hX hr;refine callsIn_of_wp_marks Tryz.func117 rfl trivial ?_ rfl;simp only [Tryz.ntmps117,List.size_toArray,List.length_cons,List.length_nil,Nat.reduceAdd,Nat.reduceSub,Array.replicate_succ,Array.replicate_zero,List.push_toArray,List.append_toArray,List.nil_append,List.cons_append]
 gi_wp2
 have bO:=Boxed.new w 35 (Vn);have hB0:Below w.heap.size w (w.alloc (.cells #[Vn] 35)):=(Below.refl _ w).alloc (Nat.le_refl _) _;refine wpIn_rangeFunc_ownG rfl (by omega) (gf:=86) (lb:=#[Vp X 0]) rfl trivial (enters_of Tryz.func86 (by kernel_rfl) rfl)
  (encs:=fun x:Nat=>#[Vu (x:Nat)]) (Kp:=Below w.heap.size) (S:=fun ys=>ys=zs) (Sp:=fun pre=>pre <+: zs) (N:=zs.length) (w0:=w.alloc (.cells #[Vn] 35))
  (fun l J Jx W hW hJ hJx hY h0=>vals_in l X w.heap.size 4 (by omega) va vc base zs J Jx W hY ((hW.cell (p:=⟨X,0,none⟩) (by have:=lt_blk HX.out;simp;omega)).trans (by rw [cell_of_row _ _ _ _ _ _ (below_at HX.out hB0)];rfl)) (own_bel (own_bel HR.out hB0) (hW)) HN.out hl h0)
  belowK_t (belowK_b (by simp)) (Below.refl _ _) (fun _=>rfl)
  (fun pre W=>(∃ v,Boxed W w.heap.size 35 v∧W.ownsRow w.heap.size 23 1 v pre.length (Us pre)∧True)∧Below w.heap.size w W)
  (fun _ _ _=>False)
  (OwnFrom.and (Own.from (holdsRow_own w.heap.size w.heap.size 35 23 1 (fun pre:List Nat=>pre.length) (fun pre=>Us pre) (fun pre v=>True)) _) (ownFrom_below (Nat.le_refl _) (by simp)))
  (fun _ _ _ _ _ hs _ _=>hs)
  ⟨⟨_,bO,World.ownsRow_nil _ _ _ _,trivial⟩,hB0⟩
  (fun x=>{ tmps:=#[Vn,.func (.func 86) #[] #[Vp X 0],Vp w.heap.size 0,undef,Vn,Vu (x:Nat),.func (.func 86) #[] #[Vp X 0],Vu (x:Nat),undef,undef,undef,undef,undef],defers:=[] }) ?assign ?body ?done ?stop
 case assign =>
  intro l x W K hK
  gi_wp2
  exact hK
 case body =>
  rintro l pre x W ⟨⟨v,hv,hrow,_⟩,hB⟩ hlt;have hc:=hv.cell;have hb9:=hB.size
  gi_wp2_with (gi_at_builtin;refine wpListIn_append_own _ rfl _ _ 35 rfl w.heap.size 23 i0 (Vu 0) 1 8 Tryz.underlying35 hi hz0 hz1 hz2 rfl (by decide) _ _ _ rfl (hrow.alloc _) ⟨W.heap.size,0,none⟩ 1 1 [Vu (x:Nat)] rfl rfl (cell_one_new _ _ _) (by simp [Value.oneCell']) (by unfold maxLen;omega) (by omega) (by simp;omega) ?_;intro v' w1 hown' hgrow _;obtain ⟨g',cap',rfl⟩:=ownsRow_succ hown';obtain ⟨hv1,hv2,hr2,hk2,hb2⟩:=hv.appended (by decide) hrow hB.size (Nat.le_refl _) hown' hgrow;have hc1:=hv1.cell;have hf1:=hv1.frozen)
  exact⟨hk2.from _,hb2,⟨_,hv2,by simpa [Us] using hr2,trivial⟩,hB.trans hb2⟩
 case done =>
  rintro D ys W hD rfl ⟨⟨v,hv,hrow,_⟩,hB⟩ hK;have hc:=hv.cell
  gi_wp2
  refine⟨by simp,.inl ⟨_,_,rfl,run_takeDeferred hK,?_⟩⟩;exact⟨_,results_tmp rfl _ _ _,v,rfl,ownsRow_putObj hrow _ hK rfl,hB.trans (belowK_b (w:=w) (Nat.le_refl _) W D _ _ (by simp at hD;omega) hK rfl rfl)⟩
 case stop =>
  rintro D c pre W _ _ h _;exact h.elim
end Go.Proofs.YtgandbaejlfppaaGreatDoor
