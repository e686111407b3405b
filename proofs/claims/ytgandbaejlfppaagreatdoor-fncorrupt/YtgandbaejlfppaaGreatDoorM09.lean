import Derived.Test.YtgandbaejlfppaaGreatDoorM08
import Derived.Test.YtgandbaejlfppaaGreatDoorM05
namespace Go.Proofs.YtgandbaejlfppaaGreatDoor
set_option linter.unusedVariables false
set_option linter.unusedSimpArgs false
set_option maxRecDepth 20000
set_option maxHeartbeats 8000000
open Go.ChangeShapes Go.WideShapes Go.ChangeAt Go.RowKit
theorem sp_SlabPages (c:Int) (w:World) :
  Calls Tryz.prog 89 #[Vi c] w fun e w'=>e=.returned (Vi (pg c))∧Below w.heap.size w w':=by
 have HI:=hidR (sp_SlotSize c)
 by_cases h:0≤c∧c < 12
 ·have hp:(pg c - 1)*1024 < 4*sz c∧4*sz c≤pg c*1024∧1≤pg c∧pg c≤4:=by
   rcases isc_split h with rfl|rfl|rfl|rfl|rfl|rfl|rfl|rfl|rfl|rfl|rfl|rfl <;> decide
  have hs:=sz_in h;generalize sz c=s at HI hs hp ⊢;generalize pg c=p at hp ⊢;clear h;go_enter Tryz.func89,Tryz.ntmps89;go_wp2_with fail;refine (HI.out _).mono ?_;rintro e w1 ⟨rfl,b1⟩;go_wp2
  go_loop [4] (fun n=>∃ k:Int,1≤k∧k≤p∧n=Vi k) (fun n=>(p - intOf n).toNat)
  case atStart=>exact ⟨1,by omega,by omega,rfl⟩
  case round =>
   obtain⟨k,h1,h2,rfl⟩:=hrel
   by_cases hlt:k < p
   ·have ht:k*1024 < 4*s:=by omega
    have hk4:p≤4:=hp.2.2.2;clear hp;go_wp2
    go_round
    case rel=>exact ⟨k+1,by omega,by omega,rfl⟩
    case measure=>simp [intOf];omega
   obtain rfl:k=p:=by omega
   have ht:¬k*1024 < 4*s:=by omega
   have hk4:k≤4:=hp.2.2.2;clear hlt hp;go_wp2;go_ret;exact⟨rfl,b1⟩
 rw [pg_out h];rw [sz_out h] at HI;clear h;go_enter Tryz.func89,Tryz.ntmps89;go_wp2_with fail;refine (HI.out _).mono ?_;rintro e w1 ⟨rfl,b1⟩;go_wp2;go_ret;exact⟨rfl,b1⟩
theorem sp_SlabSlots (c:Int) (w:World) :
  Calls Tryz.prog 90 #[Vi c] w fun e w'=>e=.returned (Vi (sl c))∧Below w.heap.size w w':=by
 have HI:=hidR (sp_SlotSize c);have HP:=hidR (sp_SlabPages c)
 by_cases h:0≤c∧c < 12
 ·have hs:=sz_in h;have hp:=pg_in h;rw [(sl_in h).2.2.1];generalize sz c=s at HI hs ⊢;generalize pg c=p at HP hp ⊢;clear h;go_enter Tryz.func90,Tryz.ntmps90;go_wp2_with fail;refine (HI.out _).mono ?_;rintro e w1 ⟨rfl,b1⟩;go_wp2_with fail;refine (HP.out _).mono ?_;rintro e w2 ⟨rfl,b2⟩;go_wp2_with fail;refine (HI.out _).mono ?_;rintro e w3 ⟨rfl,b3⟩;go_wp2;go_ret;exact⟨rfl,bl_transR b1 (bl_transR b2 b3)⟩
 rw [sl_out h];rw [sz_out h] at HI;clear h;go_enter Tryz.func90,Tryz.ntmps90;go_wp2_with fail;refine (HI.out _).mono ?_;rintro e w1 ⟨rfl,b1⟩;go_wp2;go_ret;exact⟨rfl,b1⟩
end Go.Proofs.YtgandbaejlfppaaGreatDoor
namespace Go.Proofs.YtgandbaejlfppaaGreatDoor
set_option linter.unusedVariables false
set_option linter.unusedSimpArgs false
set_option maxRecDepth 20000
set_option maxHeartbeats 8000000
open Go.ChangeShapes Go.WideShapes Go.ChangeAt Go.RowKit
theorem ret_intR {k:IntKind} {a b:Int} (h:a=b):Ending.returned (.int k a)=.returned (.int k b):=by rw [h]
def rp (c:Int):Int:=if 0≤c∧c < 12 then 6*(pg c+1) else 0
theorem rp_in {c:Int} (h:0≤c∧c < 12):rp c=6*(pg c+1):=by simp only [rp,if_pos h]
theorem rp_out {c:Int} (h:¬(0≤c∧c < 12)):rp c=0:=by simp only [rp,if_neg h]
theorem rp_le (c:Int):0≤rp c∧rp c≤30:=by
 by_cases h:0≤c∧c < 12
 ·have:=pg_in h;rw [rp_in h];omega
 rw [rp_out h];omega
def rsN:Nat→Int
 | 0=>1
 | k+1=>rsN k+rp k
def rs (c:Int):Int:=if 0≤c∧c < 12 then rsN c.toNat else -1
theorem rsN_le:∀ k:Nat,1≤rsN k∧rsN k≤1+30*k
 | 0=>by simp [rsN]
 | k+1=>by have:=rsN_le k;have:=rp_le k;simp only [rsN];omega
theorem im_slabExtent (c:Int) (w:World) (ht:Tb w) :
  Calls Tryz.prog 50 #[Vi c] w fun e w'=>e=.returned (Vi (pg c+1))∧w'=w:=by
 have HI:=hidR (im_SlabPages c w ht);have hs:=pg_le c;generalize pg c=s at HI hs ⊢;clear ht;go_enter Tryz.func50,Tryz.ntmps50;go_wp2_with fail;refine (HI.out).mono ?_;rintro e w' ⟨rfl,rfl⟩;go_wp2;go_ret;exact⟨rfl,rfl⟩
theorem im_RegionPages (c:Int) (w:World) (ht:Tb w) :
  Calls Tryz.prog 49 #[Vi c] w fun e w'=>e=.returned (Vi (rp c))∧w'=w:=by
 have HE:=hidR (im_slabExtent c w ht)
 by_cases h:0≤c∧c < 12
 ·have hs:=pg_in h;have HC:=hidR (im_isClass_yes _ w h);rw [rp_in h];generalize pg c=s at HE hs ⊢;clear ht h;go_enter Tryz.func49,Tryz.ntmps49;go_wp2_with fail;refine (HC.out).mono ?_;rintro e w' ⟨rfl,rfl⟩;go_wp2_with fail;refine (HE.out).mono ?_;rintro e w' ⟨rfl,rfl⟩;go_wp2;go_ret;exact⟨rfl,rfl⟩
 rw [rp_out h];have HC:=hidR (im_isClass_no _ w h);clear ht h;go_enter Tryz.func49,Tryz.ntmps49;go_wp2_with fail;refine (HC.out).mono ?_;rintro e w' ⟨rfl,rfl⟩;go_wp2;go_ret;exact⟨rfl,rfl⟩
theorem sp_RegionPages (c:Int) (w:World) :
  Calls Tryz.prog 59 #[Vi c] w fun e w'=>e=.returned (Vi (rp c))∧Below w.heap.size w w':=by
 have HI:=hidR (sp_SlotSize c);have HP:=hidR (sp_SlabPages c)
 by_cases h:0≤c∧c < 12
 ·have hs:=sz_in h;have hp:=pg_in h;rw [rp_in h];generalize sz c=s at HI hs ⊢;generalize pg c=p at HP hp ⊢;clear h;go_enter Tryz.func59,Tryz.ntmps59;go_wp2_with fail;refine (HI.out _).mono ?_;rintro e w1 ⟨rfl,b1⟩;go_wp2_with fail;refine (HP.out _).mono ?_;rintro e w2 ⟨rfl,b2⟩;go_wp2;go_ret;exact⟨rfl,bl_transR b1 b2⟩
 rw [rp_out h];rw [sz_out h] at HI;clear h;go_enter Tryz.func59,Tryz.ntmps59;go_wp2_with fail;refine (HI.out _).mono ?_;rintro e w1 ⟨rfl,b1⟩;go_wp2;go_ret;exact⟨rfl,b1⟩
theorem rs_in {c:Int} (h:0≤c∧c < 12):rs c=rsN c.toNat:=by simp only [rs,if_pos h]
theorem rs_out {c:Int} (h:¬(0≤c∧c < 12)):rs c = -1:=by simp only [rs,if_neg h]
theorem sp_RegionStart (c:Int) (w:World) :
  Calls Tryz.prog 58 #[Vi c] w fun e w'=>e=.returned (Vi (rs c))∧Below w.heap.size w w':=by
 have HI:=hidR (sp_SlotSize c);have HP:=hidR sp_RegionPages
 by_cases h:0≤c∧c < 12
 ·have hs:=sz_in h;rw [rs_in h];generalize sz c=s at HI hs ⊢;obtain⟨m,rfl⟩:=Int.eq_ofNat_of_zero_le h.1;have hm:m < 12:=by omega
  simp only [Int.toNat_natCast];clear h;go_enter Tryz.func58,Tryz.ntmps58;go_wp2_with fail;refine (HI.out _).mono ?_;rintro e w1 ⟨rfl,b1⟩;have B1:=hidR b1;clear b1;go_wp2;have e0:(s==0)=false:=by simp;omega
  simp only [e0];go_loopw [3,4] (fun n i wr=>∃ k:Nat,k≤m∧i=Vi k∧n=Vi (rsN k)∧Below w.heap.size w wr) (fun _ i _=>m - (intOf i).toNat)
  case atStart=>exact ⟨0,by omega,rfl,rfl,B1.out⟩
  case round =>
   obtain⟨k,hk,rfl,rfl,hb⟩:=hrel;have hn:=rsN_le k
   by_cases hlt:k < m
   ·have HN:=hidR (show rsN (k+1)=rsN k+rp (k:Int) from rfl);have hr:=rp_le (k:Int);have HB:=hidR hb;clear hb;go_wp2_with fail;refine (HP.out _ _).mono ?_;rintro e w2 ⟨rfl,b2⟩;generalize rsN k=a at hn HN;generalize rp (k:Int)=b at hr HN;have B2:=hidR (bl_transR HB.out b2);clear b2;go_wp2;go_roundw
    case rel=>exact ⟨k+1,by omega,by go_num,by rw [HN.out],B2.out⟩
    case measure=>simp [intOf];omega
   obtain rfl:k=m:=by omega
   go_wp2;go_ret;exact⟨rfl,hb⟩
 rw [rs_out h];rw [sz_out h] at HI;clear h;go_enter Tryz.func58,Tryz.ntmps58;go_wp2_with fail;refine (HI.out _).mono ?_;rintro e w1 ⟨rfl,b1⟩;go_wp2;go_ret;exact⟨rfl,b1⟩
end Go.Proofs.YtgandbaejlfppaaGreatDoor
namespace Go.Proofs.YtgandbaejlfppaaGreatDoor
set_option linter.unusedVariables false
set_option linter.unusedSimpArgs false
set_option maxRecDepth 20000
set_option maxHeartbeats 8000000
open Go.ChangeShapes Go.WideShapes Go.ChangeAt Go.RowKit
def stA (k:Nat):Array Value:=((List.range 13).map fun j=>Value.int .i64 (if j≤k then rsN j else 0)).toArray
theorem stA_size (k:Nat):(stA k).size=13:=by simp [stA]
theorem stA_get (k j:Nat) (h:j < 13):(stA k)[j]?=some (Vi (if j≤k then rsN j else 0)):=by
 simp [stA,h]
theorem stA_set (k:Nat):(stA k).setIfInBounds (k+1) (Vi (rsN (k+1)))=stA (k+1):=by
 apply Array.ext
 ·simp [stA]
 intro i h1 h2;have hi:i < 13:=by simpa [stA] using h2
 rw [Array.getElem_setIfInBounds (by simpa [stA] using h2)];simp only [stA,List.getElem_toArray,List.getElem_map,List.getElem_range]
 by_cases hne:k+1=i
 ·subst hne;simp
 have e:(i≤k)↔(i≤k+1):=by omega
 simp [e,hne]
theorem stA_0:stA 0=#[Value.int IntKind.i64 1,Value.int IntKind.i64 0,Value.int IntKind.i64 0,Value.int IntKind.i64 0,Value.int IntKind.i64 0,Value.int IntKind.i64 0,Value.int IntKind.i64 0,Value.int IntKind.i64 0,Value.int IntKind.i64 0,Value.int IntKind.i64 0,Value.int IntKind.i64 0,Value.int IntKind.i64 0,Value.int IntKind.i64 0]:=by kernel_rfl
def zeroA:Array Value:=#[Value.int IntKind.i64 0,Value.int IntKind.i64 0,Value.int IntKind.i64 0,Value.int IntKind.i64 0,Value.int IntKind.i64 0,Value.int IntKind.i64 0,Value.int IntKind.i64 0,Value.int IntKind.i64 0,Value.int IntKind.i64 0,Value.int IntKind.i64 0,Value.int IntKind.i64 0,Value.int IntKind.i64 0,Value.int IntKind.i64 0]
theorem al_lastR (w:World) (o:Obj):(w.alloc o).heap[w.heap.size]?=some o:=(MapKept.heap_alloc w o).1
theorem al_oldR (w:World) (o:Obj) (k:Nat) (h:k < w.heap.size):(w.alloc o).heap[k]?=w.heap[k]?:=(MapKept.heap_alloc w o).2 k h
theorem al_sizeR (w:World) (o:Obj):(w.alloc o).heap.size=w.heap.size+1:=by
 have e:(w.alloc o).heap=w.heap.push o:=rfl;rw [e,Array.size_push]
theorem Below.setRow {B:Nat} {a w:World} (h:Below B a w) {g:Nat} (hg:B≤g) (cs:Array Value):Below B a (w.setRow g cs):=by
 refine h.trans ⟨rfl,rfl,rfl,by simp [World.setRow],fun k hk=>?_⟩;have:g≠k:=by omega
 simp [World.setRow,Array.getElem?_modify,this]
theorem im_regionStarts (w:World) (ht:Tb w) :
  Calls Tryz.prog 20 #[] w fun e w'=>e=.returned (.agg (stA 12))∧Below w.heap.size w w':=by
 have HP:Hid (∀ (c:Int) w,Tb w→_):=fun c w h=>im_RegionPages c w h
 have HT:=hidR ht;clear ht;go_enter Tryz.func20,Tryz.ntmps20;go_wp2;go_loopw [4] (fun i wr=>∃ k:Nat,k≤12∧i=Vi k∧Hid (wr.heap[w.heap.size]?=some (.cells zeroA 77 (0,0))∧wr.heap[w.heap.size+1]?=some (.cells (stA k) 77 (0,0))∧Below w.heap.size w wr)) (fun i _=>12 - (intOf i).toNat)
 case atStart =>
  refine⟨0,by omega,rfl,?_,?_,?_⟩
  ·rw [al_oldR _ _ _ (by rw [al_sizeR];omega)];exact al_lastR _ _
  ·rw [stA_0,←al_sizeR w];exact al_lastR _ _
  exact ((Below.refl _ _).alloc (Nat.le_refl _) _).alloc (by rw [al_sizeR];omega) _
 case round =>
  obtain⟨k,hk,rfl,HH⟩:=hrel
  by_cases hlt:k < 12
  ·have hn:=rsN_le k;have hr:=rp_le (k:Int);have c1:wr.cell? ⟨w.heap.size+1,k,none⟩=some (Vi (rsN k)):=by
    simp [World.cell?,HH.out.2.1,stA_get k k (by omega)]
   have c2:wr.cell? ⟨w.heap.size+1,k+1,none⟩=some (Vi 0):=by
    simp [World.cell?,HH.out.2.1,stA_get k (k+1) (by omega)];intro h;omega
   have f2:wr.frozen? ⟨w.heap.size+1,k+1,none⟩=false:=by
    simp [World.frozen?,HH.out.2.1]
   have HC:Hid (∀ W:World,W.heap=wr.heap→Calls Tryz.prog 49 #[Vi (k:Int)] W fun e w'=>e=.returned (Vi (rp (k:Int)))∧w'=W):=fun W hW=>HP.out _ W (by
    obtain⟨t,fr,h⟩:=(HT.out.below HH.out.2.2).row;exact⟨t,fr,by rw [hW];exact h⟩)
   have HN:=hidR (show rsN (k+1)=rsN k+rp (k:Int) from rfl);generalize rsN k=a at hn c1 HN;generalize rp (k:Int)=b at hr HC HN;go_wp2
   go_region_with (go_at_call 49;refine (HC.out _ ?_).mono ?_;exact rfl;rintro e w' ⟨rfl,rfl⟩)
   all_goals
    go_wp2
    go_roundw
    case rel =>
     refine⟨k+1,by omega,by go_num,?_,?_,?_⟩
     ·have h1:=HH.out.1;simp [World.setCell,Array.getElem?_modify,World.drew,h1]
     ·have h2:=HH.out.2.1;rw [←stA_set,HN.out];simp [World.setCell,Array.getElem?_modify,World.drew,h2]
     exact HH.out.2.2.drew.setCell (p:=⟨w.heap.size+1,k+1,none⟩) (by simp) _
    case measure=>simp [intOf];omega
  obtain rfl:k=12:=by omega
  have h1:=hidR HH.out.1;have h2:=hidR HH.out.2.1;have HB:=hidR (Below.setRow HH.out.2.2 (Nat.le_refl _) (stA 12));have HR:Hid ((wr.setRow w.heap.size (stA 12)).heap[w.heap.size]?=some (.cells (stA 12) 77 (0,0))):=by
   have:=h1.out;exact hidR (by simp [World.setRow,Array.getElem?_modify,this])
  have hall:=hidR (show (stA 12).all (·.oneCell')=true by kernel_rfl);go_wp2_with (first|refine wpList_load_row rfl 77 _ rfl _ rfl _ _ _ _ h2.out Tryz.underlying77 rfl (by kernel_rfl) ?_|refine wpList_store_row rfl 77 _ _ rfl _ _ rfl rfl _ _ h1.out (by kernel_rfl) (by rw [stA_size];rfl) hall.out ?_);refine bodyPost_ret (results_cell_row (by rfl) _ _ w.heap.size 77 (stA 12) (0,0) _ (by rfl) HR.out Tryz.underlying77 rfl (by kernel_rfl)) (by rfl) ?_;exact⟨rfl,HB.out⟩
end Go.Proofs.YtgandbaejlfppaaGreatDoor
