import Derived.Shelf.SlSortCmp.WholeK
import Derived.Shelf.Slices.In.SortNone
import Derived.Shelf.Sort.Plain
import Derived.Sort.OwnSortedInts
import Derived.Test.YtgandbaejlfppaaGreatDoorN41
namespace Go.Proofs
shelf_lay Lays.n189 Nm 189 at Tryz as Tryz.lays189
end Go.Proofs
namespace Go.Proofs.YtgandbaejlfppaaGreatDoor
set_option linter.unusedVariables false
set_option linter.unusedSimpArgs false
set_option maxRecDepth 20000
set_option maxHeartbeats 8000000
open Go.ChangeShapes Go.WideShapes Go.ChangeAt Go.RowKit Go.Maps Go.Shelf
theorem sorts:Sorts:=by
 intro v os W base h hle
 rcases h.2 with ⟨rfl,h0⟩|⟨g,cap,cur,rfl,hg,hb,h1,h2,h3,h4⟩
 ·have e0:os=[]:=List.eq_nil_of_length_eq_zero (by simpa using h0);subst e0;refine (Any.slices_Sort_int_none Tryz.lays189 none 0 W).mono ?_;rintro e w' ⟨rfl,rfl⟩;exact⟨rfl,by simpa [Ns] using h,⟨rfl,rfl,rfl,Nat.le_refl _,fun _ _ _=>rfl⟩⟩
 have ht:cur.toList.take os.length=os.map (Value.int .i64):=by simpa [Ns] using h4
 refine (Any.slices_Sort_int Tryz.lays189 g 0 cap os W (holds_of_blockI hb ht) (lt_blk hb) (by omega)).mono ?_;rintro e w' ⟨rfl,n,os',rfl⟩;exact⟨rfl,ownsRow_sortedI (List.length_mergeSort os) hg hb h1 h2 h3,grownBy_sortedI _⟩
end Go.Proofs.YtgandbaejlfppaaGreatDoor
namespace Go.Proofs.YtgandbaejlfppaaGreatDoor
set_option linter.unusedVariables false
set_option linter.unusedSimpArgs false
set_option maxRecDepth 20000
set_option maxHeartbeats 8000000
open Go.ChangeShapes Go.WideShapes Go.ChangeAt Go.RowKit Go.Maps Go.Shelf
theorem told_in2 (hso:Sorts) (S M nn:Nat) (bud:Int) (f:Nat→Option Nat) (m:Nat→Option (Bool×List Int)) (w:World) (h:Im S M 0 nn bud f w) (hp:Pg f m w) :
  Calls Tryz.prog 41 #[Vp S 0] w fun e w'=>∃ v os,e=.returned (.tuple #[Vi (heldN f 0 4096:Nat),v])∧w'.ownsRow w.heap.size 3 1 v os.length (Ns .i64 (os.mergeSort fun x y=>decide (x≤y)))∧Met m (fun _=>false) os∧Below w.heap.size w w':=by
 obtain⟨i0,hi0,hz0,hz1,hz2⟩:=info_parts Tryz.info3Op;have HI:=hid h;have HP:=hid hp;have HSO:=hid hso;clear h hp hso
 go_enter_defers Tryz.func41,Tryz.ntmps41
 go_wp2_with fail;refine (im_lock HI.out).mono ?_;rintro e V ⟨rfl,hV⟩;have IV:=hid (hV▸HI.out.st 1);have PV:=hid (show Pg f m V by rw [hV];exact HP.out.other (fun k b hb=>Below.heap_setCell _ _ _ _ (HP.out.apart HI.out hb).1));have FV:=hid (show Fr S M f f w V by rw [hV];exact (Fr.refl S M f w).grownS (grown_set (grown_refl w S) 0 _));obtain⟨D,hown,hsz,hat,hhas,honly⟩:=IV.out.only;have HD:=hid (And.intro hat (And.intro hhas honly));have cM:V.cell? ⟨S,4,none⟩=some (.map (some M)):=by simp [World.cell?,IV.out.box]
 have hb4:heldN f 0 4096≤4096:=heldN_le f 0 4096;have HVV:=hid hV;clear hV hat hhas honly;go_wp2_with (at_range;refine wpList_range_own _ rfl _ 112 rfl 3 152 keyed3 Tryz.underlying112 ptrE M 4096 D rfl hown ?_;intro w0 hrg0 hg0 hs0)
 go_frame
 have MV:=hid (show M < V.heap.size by obtain ⟨es,clock,hb,_⟩:=hown;exact lt_blk hb);have B0:=hid ((Below.refl V.heap.size V).grown hg0 (Nat.le_refl _) (by simp));have RG0:=hid hrg0;have SZ:=hid (show V.heap.size+1≤w0.heap.size by omega);have M0:=hid (show Met m (has D) [] from ⟨List.nodup_nil,fun z=>by
  constructor
  ·intro hz;cases hz
  rintro⟨k,rfl,h1,h2,h3⟩;obtain⟨g,hg⟩:=open_some PV.out h2;rw [HD.out.2.1 k (by omega),hg] at h3
  cases h3⟩)
 obtain⟨r,hr⟩:∃ r,r=V.heap.size:=⟨_,rfl⟩;rw [←hr] at RG0 SZ ⊢;have HRr:=hid hr;clear hrg0 hg0 hs0 hown hr;go_loopw [4] (fun v wr=>∃ (left:Lit→Bool) (cnt:Nat) (os:List Int),os.length+cnt≤heldN f 0 4096∧Hid (wr.ranges Tryz.prog 3 ptrE M r 4096 D left cnt)∧Hid (wr.ownsRow (r+1) 3 1 v os.length (Ns .i64 os))∧Hid (Met m left os)∧Hid (Below V.heap.size V wr)) (fun _ wr=>wr.rangeLeft M r)
 case atStart=>exact ⟨_,_,[],by simp [hsz],RG0,hid ⟨rfl,.inl ⟨rfl,rfl⟩⟩,M0,B0⟩
 case round =>
  obtain⟨left,cnt,os,hle,hrg,hrow,hmet,hbel⟩:=hrel;clear RG0 M0 B0;go_wp2_with (at_next;refine wpList_next_ranges _ rfl _ rfl 3 keyed3 ptrE (Value.int .i64) mkP (fun key kl hk=>by obtain ⟨x,rfl,_⟩:=Maps.keyOf_int_inv Tryz.underlying3 hk;exact⟨x,rfl⟩) (fun v y hv=>by exact (ptrE_inv hv).elim (fun ⟨b,e,_⟩=>⟨some b,e⟩) (fun ⟨e,_⟩=>⟨none,e⟩)) M r 4096 D left cnt rfl hrg.out ?_ ?_)
  ·intro hc0 hl0;have HM:=hid (show Met m (fun _=>false) os from ⟨hmet.out.1,fun z=>by rw [hmet.out.2 z];simp [hl0]⟩);have HSV:=HSO.out _ os wr (r+1) hrow.out (by omega);obtain⟨vp,vl,vc,rfl⟩:∃ p l c,u4=.slice p l c:=by
    rcases hrow.out.2 with ⟨rfl,_⟩|⟨g,cap,cur,rfl,_⟩
    ·exact⟨_,_,_,rfl⟩
    exact⟨_,_,_,rfl⟩
   have hob:=own_base hrow.out;have HX:=hid HSV;have OB:=hid hob;clear HSV hob hc0 hl0 hrg hmet;go_wp2_with fail;refine (HX.out).mono ?_;rintro e w5 ⟨rfl,ho5,hg5⟩;have B5:=hid (hbel.out.grown hg5 hbel.out.size (fun g e=>by have:=OB.out g e;have:=HRr.out;omega));have I5:=hid (IV.out.grown (W':=w5) ⟨B5.out.os,B5.out.tape,B5.out.output,B5.out.size,fun k h _=>B5.out.block k h⟩);have H5:=hid ho5;have c4:w5.cell? ⟨S,4,none⟩=some (.map (some M)):=by simp [World.cell?,I5.out.box]
   clear ho5 hg5 hbel hrow HX;go_wp2_with (at_len;refine wpList_len_im _ rfl _ rfl I5.out rfl ?_);refine leaves_cons (f:=77) (args:=#[Vp S 0]) (by simp) (by simp [go_sem]) ?_;refine (Go.MuLone.unlock_deferred muLib ⟨S,0,none⟩ .returning _ (by simp [World.cell?,I5.out.box]) (by simp [World.frozen?,I5.out.box])).mono ?_;rintro e u' w'' ⟨rfl,rfl,rfl⟩;have hSr:S < r+1:=by have:=HRr.out;have:=lt_blk IV.out.box;omega
   have g6:=grown_set (grown_refl w5 S) 0 (.int .i32 0);have bx6:=(I5.out.st 0).box;refine⟨_,results_tmp2 (t:=2) (u:=3) (by rfl) _ _ _,_,os,rfl,own_mono (H5.out.kept g6 (.inr fun e=>by have:=OB.out _ e;omega)) ?_,HM.out,⟨g6.os.trans (B5.out.os.trans FV.out.os),g6.tape.trans (B5.out.tape.trans FV.out.tape),g6.output.trans (B5.out.output.trans FV.out.output),Nat.le_trans (Nat.le_trans FV.out.size B5.out.size) g6.size,fun k hk=>?_⟩⟩
   ·have:=HRr.out;have:=FV.out.size;omega
   by_cases e:k=S
   ·subst e;rw [bx6,HI.out.box]
   have hkV:k < V.heap.size:=Nat.lt_of_lt_of_le hk FV.out.size;rw [g6.block k (Nat.lt_of_lt_of_le hkV B5.out.size) (by simpa using e),B5.out.block k hkV,HVV.out,Below.heap_setCell _ _ _ _ e]
  intro x c kl yd yp w2 cnt2 hkey hlk hv hat hrg2 hlt hg2 hs2 hen;obtain⟨x',ex,rfl,_⟩:=Maps.keyOf_int_inv Tryz.underlying3 hkey
  cases ex
  obtain⟨k,rfl,hk4,hfk⟩:=HD.out.2.2 _ (has_true_of_atKey hat);obtain⟨g,hg⟩:=Option.isSome_iff_exists.1 hfk;have e1:=hat .nil;rw [HD.out.1 k (by omega),hg] at e1;obtain rfl:c=some g:=by
   cases c with
   | none=>simp [mkP,ptrE] at hv;rw [←hv.1] at e1;simp [asD] at e1
   | some b =>
    simp [mkP,ptrE] at hv;rw [←hv.1] at e1;simp [asD] at e1;have:b=g:=by omega
    rw [this]
  obtain⟨l,xs,hm,hxl,hb⟩:=PV.out.cell hg;have B2:=hid (hbel.out.grown hg2 hbel.out.size (fun j e=>by cases e;have:=HRr.out;omega));have cl:w2.cell? ⟨g,1024,none⟩=some (.bool l):=below_cell B2.out (PV.out.lockCell hg hm).1;have R2:=hid (hrow.out.kept hg2 (.inr fun e=>by have:=own_base hrow.out _ e;omega));have G2:=hid hrg2;have ST:=hid (hmet.out.step hk4 hlk);have LE:=hid (And.intro hrg2.left_eq hrg.out.left_eq);have S2:=hid hs2;have hlo:=hrg.out.lt;unfold mkP at hen ⊢;simp only [Option.map_some] at hen ⊢;have ho:isOpen (m k) = !l:=by rw [hm];rfl
  clear hkey hlk hv hat hrg2 hg2 hs2 hfk hg e1 hb hxl hrow hmet hbel hrg
  cases l with
  | true =>
   go_wp2;go_roundw
   case rel=>exact ⟨_,cnt2,os,by omega,G2,R2,ST.out.2 (by rw [ho];rfl),B2⟩
   case measure=>rw [LE.out.1,LE.out.2];exact hlt
  | false =>
   have R3:=hid (R2.out.alloc (.cells #[Vi (k:Int)] 3));have B3:=hid (B2.out.alloc B2.out.size (.cells #[Vi (k:Int)] 3));go_wp2_with (at_builtin;refine wpList_append_own _ rfl _ _ 24 rfl (r+1) 3 i0 (Vi 0) 1 8 Tryz.underlying24 hi0 hz0 hz1 hz2 rfl (by omega) _ _ _ rfl R3.out _ 1 1 [Vi (k:Int)] rfl rfl ?hc ?h1c ?b1 ?b2 ?b3 ?_)
   case hc=>exact one_new _ _ _ _ (by simp)
   case h1c=>intro u hu;simp at hu;subst hu;rfl
   case b1=>unfold maxLen;omega
   case b2=>omega
   case b3=>have:=S2.out;have:=HRr.out;simp;omega
   intro v1 w3 ho1 hg3 _;have hob:=own_base R3.out;have G3:=hid ((G2.out.alloc (.cells #[Vi (k:Int)] 3)).kept hg3 (fun e=>by have:=hob _ e.symm;have:=MV.out;have:=HRr.out;omega) (fun e=>by have:=hob _ e.symm;omega));have B4:=hid (B3.out.grown hg3 B3.out.size (fun j e=>by have:=hob _ e;have:=HRr.out;omega));have O3:=hid (show w3.ownsRow (r+1) 3 1 v1 (os++[(k:Int)]).length (Ns .i64 (os++[(k:Int)])) by rw [List.length_append];simpa [Ns] using ho1);have LE3:=hid G3.out.left_eq;clear ho1 hg3 hob;go_wp2;go_roundw
   case rel=>exact ⟨_,cnt2,os++[(k:Int)],by rw [List.length_append];simp;omega,G3,O3,ST.out.1 (by rw [ho];rfl),B4⟩
   case measure=>rw [LE3.out,LE.out.2];exact hlt
theorem im_spaceTold (S M:Nat) (bud:Int) (f:Nat→Option Nat) (m:Nat→Option (Bool×List Int)) (w:World) (h:Im S M 0 283 bud f w) (hp:Pg f m w) (hout:∀ k,283≤k→m k=none) :
  Calls Tryz.prog 41 #[Vp S 0] w fun e w'=>∃ v,e=.returned (.tuple #[Vi (heldN f 0 4096:Nat),v])∧w'.ownsRow w.heap.size 3 1 v (opensM m 283).length (Ns .i64 (opensM m 283))∧Below w.heap.size w w':=by
 refine (told_in2 sorts S M 283 bud f m w h hp).mono ?_;rintro e w' ⟨v,os,rfl,ho,hm,hb⟩;have hs:(os.mergeSort fun x y=>decide (x≤y))=opensM m 283:=sort_opens m 283 os hm.1 (fun z=>by
  rw [hm.2 z];constructor
  ·rintro⟨k,rfl,h1,h2,_⟩;refine⟨k,rfl,?_,h2⟩
   by_cases hk:k < 283
   ·exact hk
   rw [hout k (by omega)] at h2;simp [isOpen] at h2
  rintro⟨k,rfl,h1,h2⟩;exact⟨k,rfl,by omega,h2,rfl⟩)
 have hl:os.length=(opensM m 283).length:=by rw [←hs,List.length_mergeSort]
 rw [hs,hl] at ho;exact⟨v,rfl,ho,hb⟩
end Go.Proofs.YtgandbaejlfppaaGreatDoor
namespace Go.Proofs.YtgandbaejlfppaaGreatDoor
open Go.RowKit Go.Maps
set_option linter.unusedVariables false
set_option maxRecDepth 20000
theorem im_isNaN (x : Nat) (W : World) : Calls Tryz.prog 116 #[.int .u64 (x : Nat)] W fun e W' => e = .returned (.bool false) ∧ W' = W := by
  go_enter Tryz.func116, Tryz.ntmps116
  go_wp2
  go_ret
  exact ⟨rfl, rfl⟩
end Go.Proofs.YtgandbaejlfppaaGreatDoor
namespace Go.Proofs.YtgandbaejlfppaaGreatDoor
set_option linter.unusedVariables false
set_option linter.unusedSimpArgs false
set_option maxRecDepth 20000
set_option maxHeartbeats 8000000
open Go.RowKit Go.Maps
def ltN (x y:Nat):Bool:=decide (x < y)
theorem swoN:Sort.SWO ltN where
 irrefl x:=by simp [ltN]
 trans x y z h1 h2:=by simp [ltN] at *;omega
 ntrans x y z h1 h2:=by simp [ltN] at *;omega
structure Au (G N c:Nat) (V0:World) (d:Array Nat) (V:World):Prop where
 sz:d.size=N
 row:V.ownsRow G 23 1 (Vl G N c) N (Us d.toList)
 bel:Below G V0 V
variable {G N c:Nat} {V0 V:World} {d:Array Nat}
theorem Au.lt (h:Au G N c V0 d V):G < V.heap.size:=by
 rcases h.row.2 with ⟨e,_⟩|⟨g,cap,cur,e,h1,h2,_⟩
 ·cases e
 cases e
 exact lt_blk h2
theorem Au.cell (h:Au G N c V0 d V) {i:Nat} (hi:i < N):V.cell? ⟨G,i,none⟩=some (Vu ((d[i]! : Nat):Int)):=by
 refine own_cell h.row i _ (Us_at ?_);have:i < d.size:=by rw [h.sz];exact hi
 rw [Array.getElem?_toList,Array.getElem?_eq_getElem this,getElem!_pos d i this]
theorem Au.fz (h:Au G N c V0 d V) (i:Nat):V.frozen? ⟨G,i,none⟩=false:=own_fz h.row i
theorem Au.set (h:Au G N c V0 d V) {i:Nat} (hi:i < N) (x:Nat):Au G N c V0 (d.setIfInBounds i x) (V.setCell ⟨G,i,none⟩ (Vu (x:Nat))):=by
 refine⟨by rw [Array.size_setIfInBounds,h.sz],?_,h.bel.setCell (Nat.le_refl _) _⟩;have:=own_set h.row i (by rw [Us_len,Array.length_toList,h.sz];exact hi) (Vu (x:Nat));rw [Us_set] at this;rw [Array.toList_setIfInBounds];exact this
theorem Au.swap (h:Au G N c V0 d V) {i j:Nat} (hi:i < N) (hj:j < N):Au G N c V0 (Sort.swp d i j) ((V.setCell ⟨G,i,none⟩ (Vu ((d[j]! : Nat):Int))).setCell ⟨G,j,none⟩ (Vu ((d[i]! : Nat):Int))):=(h.set hi _).set hj _
theorem Au.below {V':World} (h:Au G N c V0 d V) (b:Below V.heap.size V V'):Au G N c V0 d V':=⟨h.sz,own_bel h.row b,h.bel.trans (b.mono (Nat.le_of_lt h.lt))⟩
theorem Au.drew (h:Au G N c V0 d V):Au G N c V0 d V.drew:=h.below (Below.refl _ _).drew
theorem Au.sw1 (h:Au G N c V0 d V) {i j:Nat} (hi:i < N) (hj:j < N):∃ u,(V.setCell ⟨G,i,none⟩ (Vu ((d[j]! : Nat):Int))).cell? ⟨G,j,none⟩=some (Vu ((u:Nat):Int)):=⟨_,(h.set hi _).cell hj⟩
theorem im_less (x y:Nat) (W:World):Calls Tryz.prog 163 #[Vu (x:Nat),Vu (y:Nat)] W fun e W'=>e=.returned (.bool (ltN x y))∧W'=W:=by
 have HN:=hid im_isNaN;unfold ltN
 by_cases h1:x < y
 ·have h1':(x:Int) < (y:Int):=by omega
  rw [decide_eq_true h1];go_enter Tryz.func163,Tryz.ntmps163;go_wp2_with (refine (HN.out _ _).mono ?_;rintro e W9 ⟨rfl,rfl⟩);go_ret;exact⟨rfl,rfl⟩
 have h1':¬((x:Int) < (y:Int)):=by omega
 rw [decide_eq_false h1];go_enter Tryz.func163,Tryz.ntmps163;go_wp2_with (refine (HN.out _ _).mono ?_;rintro e W9 ⟨rfl,rfl⟩);go_ret;exact⟨rfl,rfl⟩
theorem Au.drewN (h:Au G N c V0 d V) (n:Nat):Au G N c V0 d (V.drewN n):=by
 exact h.below ⟨rfl,rfl,rfl,Nat.le_refl _,fun _ _=>rfl⟩
theorem im_lessT {x y:Nat} (h:ltN x y=true) (W:World):Calls Tryz.prog 163 #[Vu (x:Nat),Vu (y:Nat)] W fun e W'=>e=.returned (.bool true)∧W'=W:=by
 have:=im_less x y W;rw [h] at this;exact this
theorem im_lessF {x y:Nat} (h:ltN x y=false) (W:World):Calls Tryz.prog 163 #[Vu (x:Nat),Vu (y:Nat)] W fun e W'=>e=.returned (.bool false)∧W'=W:=by
 have:=im_less x y W;rw [h] at this;exact this
end Go.Proofs.YtgandbaejlfppaaGreatDoor
namespace Go.Proofs.YtgandbaejlfppaaGreatDoor
set_option linter.unusedVariables false
set_option linter.unusedSimpArgs false
set_option maxRecDepth 20000
set_option maxHeartbeats 8000000
open Go.RowKit Go.Maps
theorem im_ins (G N c a b : Nat) (d : Array Nat) (V0 V : World) (A : Au G N c V0 d V) (hb : b ≤ N) (hN : N ≤ 100000) (ha : a ≤ N) :
    Calls Tryz.prog 157 #[.slice (some ⟨G, 0, none⟩) N c, .int .i64 a, .int .i64 b] V fun e V' => e = .returned (.tuple #[]) ∧ Au G N c V0 (Sort.insertionSort ltN d a b) V' := by
  have LS := hid im_less
  obtain ⟨D0, hD⟩ : ∃ D0, Sort.insertionSort ltN d a b = D0 := ⟨_, rfl⟩
  rw [hD]
  have HD := hid (show Sort.insOuter ltN a b (a + 1) d = D0 from hD)
  have HA := hid A
  clear hD A
  go_enter Tryz.func157, Tryz.ntmps157
  go_wp2_with fail
  go_loopw [6] (fun s6 wr => ∃ (i : Nat) (d : Array Nat), a + 1 ≤ i ∧ i ≤ N + 1 ∧ s6 = .int .i64 i ∧ Hid (Sort.insOuter ltN a b i d = D0) ∧ Hid (Au G N c V0 d wr)) (fun s6 _ => N + 1 - (intOf s6).toNat)
  case atStart => exact ⟨a + 1, d, Nat.le_refl _, by omega, by go_num, HD, HA⟩
  case round =>
    clear HD HA
    obtain ⟨i, d, hi1, hi2, rfl, HD, HA⟩ := hrel
    by_cases hlt : i < b
    · have HD1 := hid (show Sort.insOuter ltN a b (i + 1) (Sort.insInner ltN a i d) = D0 by have := HD.out; rw [Sort.insOuter, if_pos hlt] at this; exact this)
      obtain ⟨D1, hD1⟩ : ∃ D1, Sort.insInner ltN a i d = D1 := ⟨_, rfl⟩
      rw [hD1] at HD1
      have HI := hid hD1
      clear hD1 HD
      go_wp2_with fail
      go_loopw [7] (fun s7 wr => ∃ (j : Nat) (d : Array Nat), a ≤ j ∧ j ≤ i ∧ s7 = .int .i64 j ∧ Hid (Sort.insInner ltN a j d = D1) ∧ Hid (Au G N c V0 d wr)) (fun s7 _ => (intOf s7).toNat)
      case atStart => exact ⟨i, d, by omega, Nat.le_refl _, rfl, HI, HA⟩
      case round =>
        clear HI HA
        obtain ⟨j, d, hj1, hj2, rfl, HI, HA⟩ := hrel
        by_cases hja : a < j
        · obtain ⟨k, hk⟩ : ∃ k, j = k + 1 := ⟨j - 1, by omega⟩
          have HK := hid hk
          have x1 := HA.out.cell (show j < N by omega)
          have x0 := HA.out.cell (show k < N by omega)
          have hjz : (a : Int) < (j : Int) := by omega
          have hk1 : (j : Int) - 1 = (k : Int) := by omega
          have hjN : (j : Int) < (N : Int) := by omega
          have hkN : (k : Int) < (N : Int) := by omega
          have HII := hid (show Sort.insInner ltN a (k + 1) d = D1 by rw [← hk]; exact HI.out)
          clear hk
          by_cases hl : ltN d[j]! d[k]! = true
          · go_upto_region 4 with fail
            go_quiet (first | (go_at_call 163; exact Calls.quiet_of_same (im_lessT hl _)))
            have A1 := hid (HA.out.drewN nq)
            clear HA x1 x0
            generalize wr.drewN nq = w1 at A1 ⊢
            have x1 := A1.out.cell (show j < N by omega)
            have x0 := A1.out.cell (show k < N by omega)
            have f1 := A1.out.fz j
            obtain ⟨u9, y0⟩ := A1.out.sw1 (show j < N by omega) (show k < N by omega)
            have f0 := (A1.out.set (show j < N by omega) d[k]!).fz k
            have A2 := hid (A1.out.swap (show j < N by omega) (show k < N by omega))
            clear A1
            go_upto_region 6 with fail
            go_region
            have A3 := hid A2.out.drew
            have HI3 := hid (show Sort.insInner ltN a k (Sort.swp d j k) = D1 by
              have := HII.out
              rw [Sort.insInner, ← HK.out, if_pos (by simp only [hl, Bool.and_true, decide_eq_true_eq]; exact hja)] at this
              exact this)
            clear A2 x1 x0 f1 y0 f0
            go_wp2
            go_roundw
            case rel => exact ⟨k, _, by omega, by omega, by go_num, HI3, A3⟩
            case measure => simp [intOf]; omega
          · have hl : ltN d[j]! d[k]! = false := by simpa using hl
            go_upto_region 4 with fail
            go_quiet (first | (go_at_call 163; exact Calls.quiet_of_same (im_lessF hl _)))
            have A1 := hid (HA.out.drewN nq)
            have HI3 := hid (show d = D1 by
              have := HII.out
              rw [Sort.insInner, ← HK.out, if_neg (by simp [hl])] at this
              exact this)
            clear HA x1 x0
            generalize wr.drewN nq = w1 at A1 ⊢
            go_wp2
            go_roundw
            case rel => exact ⟨i + 1, D1, by omega, by omega, by go_num, HD1, hid (by rw [← HI3.out]; exact A1.out)⟩
            case measure => simp [intOf]; omega
        · have hjz : decide ((a : Int) < (j : Int)) = false := decide_eq_false (by omega)
          have HI3 := hid (show d = D1 by
              have := HI.out
              cases j with
              | zero => exact this
              | succ k => rw [Sort.insInner, if_neg (by simp; omega)] at this; exact this)
          go_upto_region 4 with fail
          go_quiet (fail)
          have A1 := hid (HA.out.drewN nq)
          clear HA
          generalize wr.drewN nq = w1 at A1 ⊢
          go_wp2
          go_roundw
          case rel => exact ⟨i + 1, D1, by omega, by omega, by go_num, HD1, hid (by rw [← HI3.out]; exact A1.out)⟩
          case measure => simp [intOf]; omega
    · have HI3 := hid (show d = D0 by have := HD.out; rw [Sort.insOuter, if_neg hlt] at this; exact this)
      have hz : ¬ ((i : Int) < (b : Int)) := by omega
      go_wp2
      go_end0
      exact ⟨rfl, by rw [← HI3.out]; exact HA.out⟩
end Go.Proofs.YtgandbaejlfppaaGreatDoor
