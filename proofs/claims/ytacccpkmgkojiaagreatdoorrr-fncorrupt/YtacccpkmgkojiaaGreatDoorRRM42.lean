import Derived.Test.YtacccpkmgkojiaaGreatDoorRRM40
import Derived.Below
import Derived.BigGuardIn
import Derived.BigQuiet
import Derived.BigRegion
import Derived.BigRegionIn
import Derived.Conc.MuLone
import Derived.Deep.AppendLies
import Derived.Deep.AppendSrc
import Derived.Deep.CutBlock
import Derived.Deep.DeepCutAuto
import Derived.Deep.LoopGhost
import Derived.Deep.MidRow
import Derived.Deep.OwnRows
import Derived.Deep.QuietTactic
import Derived.Deep.RegionHeld
import Derived.Deep.RegionLaw
import Derived.Deep.RegionWith
import Derived.Defers
import Derived.Ground.SlsfProg
import Derived.KernelRfl
import Derived.Laws.Bits64b
import Derived.Laws.BytesString
import Derived.Laws.CopyOwn
import Derived.Laws.OwnMore
import Derived.Laws.Rows
import Derived.Laws.Tables
import Derived.Lib.SliceRun
import Derived.Lib.SmallJoins
import Derived.LoopIn
import Derived.LoopNIn
import Derived.Maps.AppendAt
import Derived.Maps.OwnOps
import Derived.Maps.OwnSet
import Derived.Maps.RangeWalk
import Derived.OpenShut
import Derived.OrdersHeld
import Derived.OwnWalkIn
import Derived.ProofKit
import Derived.RangeFuncBound
import Derived.RangeFuncCalls
import Derived.RangeFuncLeaves
import Derived.RangeFuncNested
import Derived.Recover
import Derived.Shelf.Abstract
import Derived.Shelf.Bits.Mul64
import Derived.Shelf.Lay
import Derived.Shelf.RegionOpen
import Derived.Shelf.SlGeneric
import Derived.Shelf.SlSortCmp.WholeK
import Derived.Shelf.SlSortCmp.Xorshift
import Derived.Shelf.Slices.In.SortNone
import Derived.Shelf.Sort.Plain
import Derived.Sort.AssemblyPlain
import Derived.Sort.KeysCollected
import Derived.Sort.OwnSortedInts
import Derived.Sort.Walk13a
import Derived.TacticsInMore
import Derived.Test.YtacccpkmgkojiaaGreatDoorRRProg
import Derived.WalkKit
import Derived.WalkLawsBesides
import Derived.Test.YtacccpkmgkojiaaGreatDoorRRM00
import Derived.Test.YtacccpkmgkojiaaGreatDoorRRM01
import Derived.Test.YtacccpkmgkojiaaGreatDoorRRM02
import Derived.Test.YtacccpkmgkojiaaGreatDoorRRM06
import Derived.Test.YtacccpkmgkojiaaGreatDoorRRM08
import Derived.Test.YtacccpkmgkojiaaGreatDoorRRM09
import Derived.Test.YtacccpkmgkojiaaGreatDoorRRM10
import Derived.Test.YtacccpkmgkojiaaGreatDoorRRM14
import Derived.Test.YtacccpkmgkojiaaGreatDoorRRM15
import Derived.Test.YtacccpkmgkojiaaGreatDoorRRM17
import Derived.Test.YtacccpkmgkojiaaGreatDoorRRM18
import Derived.Test.YtacccpkmgkojiaaGreatDoorRRM22
import Derived.Test.YtacccpkmgkojiaaGreatDoorRRM24
import Derived.Test.YtacccpkmgkojiaaGreatDoorRRM26
import Derived.Test.YtacccpkmgkojiaaGreatDoorRRM33
import Derived.Test.YtacccpkmgkojiaaGreatDoorRRM34
import Derived.Test.YtacccpkmgkojiaaGreatDoorRRM38
import Derived.Test.YtacccpkmgkojiaaGreatDoorRRM41
namespace Go.Proofs.YtacccpkmgkojiaaGreatDoorRR
set_option linter.unusedVariables false
set_option linter.unusedSimpArgs false
set_option maxRecDepth 20000
set_option maxHeartbeats 8000000
open Go.RowKit Go.Maps
theorem im_xor (rb X:Nat) (hX:X < 18446744073709551616) (w:World) (hc:w.cell? ⟨rb,0,none⟩=some (Vu X)) (hf:w.frozen? ⟨rb,0,none⟩=false) :
  Calls Tryz.prog 232 #[Vp rb 0] w fun e w'=>e=.returned (Vu (Sort.xorNextN X:Nat))∧w'=(w.setCell ⟨rb,0,none⟩ (Vu (Sort.xorNextN X:Nat))).drewN 3:=AnyF.xorshift_Next { Tryz.sortR with } rb 0 X hX w hc hf
theorem im_npow (n:Nat) (hn:n < 4611686018427387904) (w:World) :
  Calls Tryz.prog 231 #[Vi n] w fun e w'=>e=.returned (Vu ((1 <<< Sort.bitsLen n:Nat):Int))∧w'=w:=AnyF.nextPowerOfTwo { Tryz.sortR with } n hn w
def brk (a l M:Nat):Nat→Nat→UInt64×Array Nat→UInt64×Array Nat
 | 0,_,st=>st
 | n+1,idx,st=>brk a l M n (idx+1) (Sort.breakStep a l M st idx)
theorem im_break (G N cp a b:Nat) (d:Array Nat) (V0 V:World) (A:Au G N cp V0 d V) (hab:a+12 < b) (hb:b≤N) (hN:N≤100000) :
  Calls Tryz.prog 205 #[Vl G N cp,Vi a,Vi b] V fun r V'=>r=.returned (.tuple #[])∧Au G N cp V0 (Sort.breakPatterns d a b) V':=by
 obtain⟨l,hl⟩:∃ l,b - a=l:=⟨_,rfl⟩;obtain⟨M,hM⟩:∃ M,1 <<< Sort.bitsLen l=M:=⟨_,rfl⟩;obtain⟨q4,hq4⟩:∃ q4,l/4=q4:=⟨_,rfl⟩;obtain⟨x0,hx0⟩:∃ x0,a+q4*2 - 1=x0:=⟨_,rfl⟩;obtain⟨D0,hD⟩:∃ D0,Sort.breakPatterns d a b=D0:=⟨_,rfl⟩;rw [hD];have hD2:(brk a l M 3 x0 (UInt64.ofNat l,d)).2=D0:=by
  rw [←hD];unfold Sort.breakPatterns;simp only [hl,hM,hq4,hx0];rw [if_pos (show l≥8 by omega)];rfl
 have hMl:1≤M∧M≤2*l:=by
  rw [←hM,Nat.one_shiftLeft];exact⟨Nat.one_le_two_pow,Sort.two_pow_bitsLen_le (by omega)⟩
 have NP:=hid (fun w=>im_npow l (by omega) w);rw [hM] at NP;obtain⟨M1,hM1⟩:∃ M1,M - 1=M1:=⟨_,rfl⟩;have hM1z:(M:Int) - 1=(M1:Int):=by omega
 have hlz:(b:Int) - (a:Int)=(l:Int):=by omega
 have h4z:(l:Int).tdiv 4=(q4:Int):=by rw [Int.tdiv_eq_ediv_of_nonneg (by omega)];omega
 have h4y:(l:Int)/4=(q4:Int):=by omega
 obtain⟨x1,hx1⟩:∃ x1,a+q4*2=x1:=⟨_,rfl⟩;obtain⟨x2,hx2⟩:∃ x2,a+q4*2+1=x2:=⟨_,rfl⟩;have hx1z:(a:Int)+(q4:Int)*2=(x1:Int):=by omega
 have hx0z:(x1:Int) - 1=(x0:Int):=by omega
 have hx2z:(x1:Int)+1=(x2:Int):=by omega
 have h8:(8:Int)≤(l:Int):=by omega
 have bA:Below V.heap.size V (V.alloc (.cells #[Vu (l:Nat)] 280)):=(Below.refl _ _).alloc (Nat.le_refl _) _;have HA:=hid (A.below bA);have HS:=hid (al_last V (.cells #[Vu (l:Nat)] 280));have hG:=A.lt;have hr:x0+2=x2∧x2 < b∧x2 < N∧M1 < 200000∧l≤N∧a≤x0:=by omega
 have HM1:=hid hM1;have hD3:=hid hD2;have hab2:a+l≤N:=by omega
 clear A bA hl hM hq4 hx0 hD hD2 hx1 hx2 hM1;go_enter Tryz.func205,Tryz.ntmps205;go_wp2_with fail;generalize V.alloc _=W1 at HA HS ⊢;obtain⟨S,hS⟩:∃ S,V.heap.size=S:=⟨_,rfl⟩;rw [hS] at HS hG ⊢;refine (NP.out _).mono ?_;rintro r w1 ⟨rfl,rfl⟩;go_wp2_with fail;go_loopw [9] (fun s9 wr=>∃ (t:Nat) (idx:Nat) (r:UInt64) (d:Array Nat),t≤3∧x0+t=idx∧s9=Vi idx∧Hid ((brk a l M (3 - t) idx (r,d)).2=D0)∧Hid (wr.heap[S]?=some (.cells #[Vu (r.toNat:Nat)] 280 (0,0)))∧Hid (Au G N cp V0 d wr)) (fun s9 _=>x0+4 - (intOf s9).toNat)
 case atStart=>exact ⟨0,x0,_,d,by omega,rfl,rfl,hD3,hid (by rw [UInt64.toNat_ofNat_of_lt' (show l < 2 ^ 64 by omega)];exact HS.out),HA⟩
 case round =>
  clear hD3 HS HA;obtain⟨t,idx,r,d,ht,hidx,rfl,HD,HS,HA⟩:=hrel
  by_cases hlt:t < 3
  ·have hiz:(idx:Int)≤(x2:Int):=by omega
   obtain⟨k,hk⟩:∃ k,3 - t=k+1:=⟨2 - t,by omega⟩;have HD2:=hid (show (brk a l M k (idx+1) (Sort.breakStep a l M (r,d) idx)).2=D0 by have:=HD.out;rw [hk] at this;exact this);have XR:=hid (fun w hc hf=>im_xor S r.toNat r.toNat_lt w hc hf);rw [←Sort.xorNext_toNat] at XR;obtain⟨r2,hr2⟩:∃ r2,Sort.xorNext r=r2:=⟨_,rfl⟩;obtain⟨Y,hY⟩:∃ Y,r2.toNat=Y:=⟨_,rfl⟩;rw [hr2,hY] at XR;have hYl:Y < 18446744073709551616:=by rw [←hY];exact r2.toNat_lt
   obtain⟨o,ho⟩:∃ o,Y &&& M1=o:=⟨_,rfl⟩;have hoz:bits .and .u64 (Y:Int) (M1:Int)=(o:Int):=by rw [bits_and_u64_nat _ _ hYl (by omega),ho]
   have hol:o≤M1:=by rw [←ho];exact Nat.and_le_right
   have c1:wr.cell? ⟨S,0,none⟩=some (Vu (r.toNat:Nat)):=by rw [cell_of_row _ _ _ _ _ _ HS.out];rfl
   have f1:wr.frozen? ⟨S,0,none⟩=false:=by simp [World.frozen?,HS.out]
   have A1:=hid ((HA.out.box HS.out (by decide) hG (Vu (Y:Nat))).drewN 3);have S1:=hid (show ((wr.setCell ⟨S,0,none⟩ (Vu (Y:Nat))).drewN 3).heap[S]?=some (.cells #[Vu (r2.toNat:Nat)] 280 (0,0)) by rw [hY];exact box_set HS.out _);obtain⟨o2,ho2⟩:∃ o2,(if o≥l then o - l else o)=o2:=⟨_,rfl⟩;have HD3:=hid (show (brk a l M k (idx+1) (r2,Sort.swp d idx (a+o2))).2=D0 by
    have:=HD2.out;unfold Sort.breakStep at this;simp only [hr2,hY,HM1.out,ho,ho2] at this;exact this)
   have CX:=hid (XR.out wr c1 f1);have hidN:(idx:Int) < (N:Int):=by omega
   have ho2l:o2 < l∧o≤M1:=by rw [←ho2];split <;> omega
   obtain⟨p,hp⟩:∃ p,a+o2=p:=⟨_,rfl⟩;rw [hp] at HD3;have hpz:(a:Int)+(o2:Int)=(p:Int):=by omega
   have hpN:(p:Int) < (N:Int):=by omega
   clear HD HD2 XR hr2 hY ho HA HS;go_wp2_with fail;refine (CX.out).mono ?_;rintro e w1 ⟨rfl,hw1⟩;rw [←hw1] at A1 S1;clear CX hw1 c1 f1;have sw:∀ (A:Au G N cp V0 d w1),True:=fun _=>trivial
   have xa:=A1.out.cell (show idx < N by omega);have xp:=A1.out.cell (show p < N by omega);have f1:=A1.out.fz idx;obtain⟨u9,y0⟩:=A1.out.sw1 (show idx < N by omega) (show p < N by omega);have f0:=(A1.out.set (show idx < N by omega) d[p]!).fz p;have A2:=hid (A1.out.swap (show idx < N by omega) (show p < N by omega)).drew;have S2:=hid (show (((w1.setCell ⟨G,idx,none⟩ (Vu ((d[p]! : Nat):Int))).setCell ⟨G,p,none⟩ (Vu ((d[idx]! : Nat):Int))).drew).heap[S]?=some (.cells #[Vu (r2.toNat:Nat)] 280 (0,0)) by
    show ((w1.setCell ⟨G,idx,none⟩ (Vu ((d[p]! : Nat):Int))).setCell ⟨G,p,none⟩ (Vu ((d[idx]! : Nat):Int))).heap[S]?=_;rw [Below.heap_setCell _ _ _ _ (show S≠G by omega),Below.heap_setCell _ _ _ _ (show S≠G by omega)];exact S1.out)
   clear A1 S1 sw
   by_cases hge:o≥l
   ·rw [if_pos hge] at ho2;have hgz:(l:Int)≤(o:Int):=by omega
    have ho2z:(o:Int) - (l:Int)=(o2:Int):=by omega
    go_upto_region 10 with fail
    go_region;clear xa xp f1 y0 f0;go_wp2;go_roundw
    case rel=>exact ⟨t+1,idx+1,r2,_,by omega,by omega,by go_num,hid (by rw [show 3 - (t+1)=k by omega];exact HD3.out),S2,A2⟩
    case measure=>(simp [intOf];try omega)
   rw [if_neg hge] at ho2;subst ho2;have hgz:¬((l:Int)≤(o:Int)):=by omega
   go_upto_region 10 with fail
   go_region;clear xa xp f1 y0 f0;go_wp2;go_roundw
   case rel=>exact ⟨t+1,idx+1,r2,_,by omega,by omega,by go_num,hid (by rw [show 3 - (t+1)=k by omega];exact HD3.out),S2,A2⟩
   case measure=>(simp [intOf];try omega)
  obtain rfl:t=3:=by omega
  have hiz:¬((idx:Int)≤(x2:Int)):=by omega
  have HE:=hid (show d=D0 from HD.out);clear HD;go_wp2
  go_end0
  exact⟨rfl,by rw [←HE.out];exact HA.out⟩
end Go.Proofs.YtacccpkmgkojiaaGreatDoorRR
