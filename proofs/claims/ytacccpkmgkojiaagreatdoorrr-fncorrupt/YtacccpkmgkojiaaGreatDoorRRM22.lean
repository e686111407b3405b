import Derived.Below
import Derived.BigGuardIn
import Derived.BigQuiet
import Derived.BigRegionIn
import Derived.Conc.MuLone
import Derived.Deep.AppendLies
import Derived.Deep.CutBlock
import Derived.Deep.DeepCutAuto
import Derived.Deep.LoopGhost
import Derived.Deep.MidRow
import Derived.Deep.OwnRows
import Derived.Deep.QuietTactic
import Derived.Deep.RegionHeld
import Derived.Deep.RegionLaw
import Derived.Deep.RegionWith
import Derived.KernelRfl
import Derived.Laws.BytesString
import Derived.Laws.CopyOwn
import Derived.Laws.OwnMore
import Derived.Laws.Rows
import Derived.Laws.Tables
import Derived.Lib.SmallJoins
import Derived.LoopIn
import Derived.LoopNIn
import Derived.Maps.OwnOps
import Derived.Maps.OwnSet
import Derived.OpenShut
import Derived.OrdersHeld
import Derived.OwnWalkIn
import Derived.ProofKit
import Derived.RangeFuncBound
import Derived.RangeFuncCalls
import Derived.RangeFuncLeaves
import Derived.RangeFuncNested
import Derived.Shelf.Abstract
import Derived.Shelf.Bits.Mul64
import Derived.Shelf.RegionOpen
import Derived.TacticsInMore
import Derived.Test.YtacccpkmgkojiaaGreatDoorRRProg
import Derived.WalkKit
import Derived.WalkLawsBesides
import Derived.Test.YtacccpkmgkojiaaGreatDoorRRM00
import Derived.Test.YtacccpkmgkojiaaGreatDoorRRM01
import Derived.Test.YtacccpkmgkojiaaGreatDoorRRM02
import Derived.Test.YtacccpkmgkojiaaGreatDoorRRM03
import Derived.Test.YtacccpkmgkojiaaGreatDoorRRM04
import Derived.Test.YtacccpkmgkojiaaGreatDoorRRM05
import Derived.Test.YtacccpkmgkojiaaGreatDoorRRM06
import Derived.Test.YtacccpkmgkojiaaGreatDoorRRM07
import Derived.Test.YtacccpkmgkojiaaGreatDoorRRM08
import Derived.Test.YtacccpkmgkojiaaGreatDoorRRM09
import Derived.Test.YtacccpkmgkojiaaGreatDoorRRM10
import Derived.Test.YtacccpkmgkojiaaGreatDoorRRM14
import Derived.Test.YtacccpkmgkojiaaGreatDoorRRM15
import Derived.Test.YtacccpkmgkojiaaGreatDoorRRM16
import Derived.Test.YtacccpkmgkojiaaGreatDoorRRM17
import Derived.Test.YtacccpkmgkojiaaGreatDoorRRM18
import Derived.Test.YtacccpkmgkojiaaGreatDoorRRM19
import Derived.Test.YtacccpkmgkojiaaGreatDoorRRM21
namespace Go.Proofs.YtacccpkmgkojiaaGreatDoorRR
set_option linter.unusedVariables false
set_option linter.unusedSimpArgs false
set_option maxRecDepth 20000
set_option maxHeartbeats 8000000
open Go.RowKit Go.Maps
theorem adr_inj {c s j c' s' j':Nat} (hc:c < 12) (hs:s < 6) (hj:j < slN c) (hc':c' < 12) (hs':s' < 6) (hj':j' < slN c') (h:adr c s j=adr c' s' j'):(c,s,j)=(c',s',j'):=by
 obtain⟨k,hk,e⟩:=sA_mem hc hs hj;obtain⟨k',hk',e'⟩:=sA_mem hc' hs' hj';have e1:adA k=adr c s j:=by unfold adA;rw [e]
 have e2:adA k'=adr c' s' j':=by unfold adA;rw [e']
 rcases Nat.lt_trichotomy k k' with h1|h1|h1
 ·have:=adA_lt h1 hk';omega
 ·rw [←e,←e',h1]
 have:=adA_lt h1 hk;omega
theorem slotAt_in {p c s j:Nat} (h:slotAt p=some (c,s,j)):c < 12∧s < 6∧j < slN c∧adr c s j=p:=by
 unfold slotAt at h;have h1:=allS_in (List.mem_of_find?_eq_some h);have h2:=List.find?_some h;simp at h2;exact⟨h1.1,h1.2.1,h1.2.2,h2⟩
theorem slotAt_adr {c s j:Nat} (hc:c < 12) (hs:s < 6) (hj:j < slN c):slotAt (adr c s j)=some (c,s,j):=by
 cases e:slotAt (adr c s j) with
 | some t =>
  obtain⟨c',s',j'⟩:=t;obtain⟨h1,h2,h3,h4⟩:=slotAt_in e;rw [adr_inj h1 h2 h3 hc hs hj h4]
 | none =>
  unfold slotAt at e;have hm:(c,s,j)∈allS:=by
   unfold allS;simp only [List.mem_flatMap,List.mem_range,List.mem_map];exact⟨c,hc,s,hs,j,hj,rfl⟩
  have:=List.find?_eq_none.1 e _ hm;simp at this
theorem dec_at {p:Nat} {v:Value} (h:Dec (p:Int) v):(∃ c s j:Nat,c < 12∧s < 6∧j < slN c∧p=adr c s j∧v=pl 3 (c:Nat) (s:Nat) (j:Nat) 0 0)∨(slotAt p=none∧∃ k c s t q o:Int,v=pl k c s t q o∧(k≠3∨o≠0)):=by
 have far:∀ {c s j:Nat},slotAt p=some (c,s,j)→1024≤p∧p < 191488:=fun {c s j} e=>by
  obtain⟨h1,h2,h3,h4⟩:=slotAt_in e;have:=adr_in h1 h2 h3;omega
 have none_of:(∀ c s j,slotAt p≠some (c,s,j))→slotAt p=none:=fun h=>by
  cases e:slotAt p with
  | none=>rfl
  | some t=>obtain ⟨c,s,j⟩:=t;exact absurd e (h c s j)
 cases h with
 | out h=>exact .inr ⟨none_of (fun c s j e=>by have:=far e;omega),0,0,0,0,0,0,rfl,.inl (by decide)⟩
 | large h0 h1=>exact .inr ⟨none_of (fun c s j e=>by have:=far e;omega),4,0,0,0,_,_,rfl,.inl (by decide)⟩
 | zero h0 h1=>exact .inr ⟨none_of (fun c s j e=>by have:=far e;omega),1,0,0,0,0,0,rfl,.inl (by decide)⟩
 | slab c s h0 h1 hh =>
  obtain⟨c',rfl⟩:∃ c':Nat,c=(c':Int):=⟨c.toNat,by have:=hh.c0;omega⟩;obtain⟨s',rfl⟩:∃ s':Nat,s=(s':Int):=⟨s.toNat,by have:=hh.s0;omega⟩;have hc:c' < 12:=by have:=hh.c1;omega
  have hs:s' < 6:=by have:=hh.s1;omega
  have hz:=szN_in hc;have hlo:=hh.lo;have hhi:=hh.hi;rw [rs_c hc,pg_c hc] at hlo hhi;rw [rs_c hc,pg_c hc];have hsp:((rgN c':Nat):Int)+(s':Int)*((pgN c':Nat)+1)=(slabP c' s':Nat):=by unfold slabP;simp
  rw [hsp] at hlo hhi ⊢;obtain⟨o,ho⟩:∃ o:Nat,p=slabP c' s'*1024+o:=⟨p - slabP c' s'*1024,by omega⟩;have eo:(p:Int) - (slabP c' s':Nat)*1024=(o:Int):=by omega
  rw [eo];have one:∀ c s j,slotAt p=some (c,s,j)→c=c'∧s=s'∧o=j*szN c'∧j < slN c':=fun c s j e=>by
   obtain⟨h1,h2,h3,h4⟩:=slotAt_in e;have hA:=adr_in h1 h2 h3;have hA0:slabP c s*1024≤adr c s j:=by unfold adr;omega
   by_cases e2:c=c'∧s=s'
   ·obtain⟨rfl,rfl⟩:=e2;refine⟨rfl,rfl,?_,h3⟩;unfold adr at h4;omega
   rcases slab_apart h1 h2 hc hs e2 with h5|h5 <;> omega
  unfold plO;rw [pg_c hc,sl_c hc,sz_c hc]
  by_cases g1:((pgN c':Nat):Int)*1024≤(o:Int)
  ·rw [if_pos g1];refine .inr ⟨none_of (fun c s j e=>?_),_,_,_,_,_,_,rfl,.inl (by decide)⟩;obtain⟨rfl,rfl,e3,h3⟩:=one c s j e;have h5:(j+1)*szN c≤slN c*szN c:=Nat.mul_le_mul_right _ h3;rw [Nat.add_mul] at h5;have h6:slN c*szN c≤pgN c*1024:=hz.2.2.2.2.2.2.1;have h7:(pgN c*1024:Nat)≤o:=by omega
   omega
  rw [if_neg g1]
  by_cases g2:((slN c':Nat):Int)*((szN c':Nat):Int)≤(o:Int)
  ·rw [if_pos g2];refine .inr ⟨none_of (fun c s j e=>?_),_,_,_,_,_,_,rfl,.inl (by decide)⟩;obtain⟨rfl,rfl,e3,h3⟩:=one c s j e;have h5:(j+1)*szN c≤slN c*szN c:=Nat.mul_le_mul_right _ h3;rw [Nat.add_mul] at h5;have h7:slN c*szN c≤o:=by exact_mod_cast g2
   omega
  rw [if_neg g2];have h7:o < slN c'*szN c':=by
   have:¬(slN c'*szN c'≤o):=fun h=>g2 (by exact_mod_cast h)
   omega
  have hdv:((o:Int)/((szN c':Nat):Int))=((o/szN c':Nat):Int):=by simp
  have hmd:((o:Int) % ((szN c':Nat):Int))=((o % szN c':Nat):Int):=by simp
  rw [hdv,hmd]
  by_cases g3:o % szN c'=0
  ·have hj:o/szN c' < slN c':=(Nat.div_lt_iff_lt_mul (by omega)).2 h7;refine .inl ⟨c',s',o/szN c',hc,hs,hj,?_,by rw [g3];rfl⟩;unfold adr;have:=Nat.div_add_mod o (szN c');rw [g3,Nat.mul_comm] at this;omega
  refine .inr ⟨none_of (fun c s j e=>?_),_,_,_,_,_,_,rfl,.inr (by omega)⟩;obtain⟨rfl,rfl,e3,h3⟩:=one c s j e;exact g3 (by rw [e3];exact Nat.mul_mod_left _ _)
/-! the map of ranges -/
theorem keyed22:Keyed Tryz.prog 23:=int_keyed Tryz.underlying23
theorem zero196 (w:World):(zeroValue 175).run Tryz.prog w=.ok (.pointer none) w:=by kernel_rfl
theorem key22 (k:Nat) (h:k < 18446744073709551616):keyOf Tryz.prog 23 (.int .u64 k)=some (.int .u64 k):=keyOf_int_mk Tryz.underlying23 (WalkArith.wf_u64 ⟨by omega,by omega⟩)
theorem Mr.look {R n:Nat} {lo:Nat→Option Nat} {W:World} (h:Mr R n lo W) (k:Nat) (hk:k < 18446744073709551616) :
  (Instr.lookup 90 (.map (some R)) (.int .u64 k) false).run Tryz.prog W=.ok (.pointer ((lo k).map fun b=>⟨b,0,none⟩)) W:=by
 obtain⟨D,hown,_,hat,_⟩:=h.map;obtain⟨v,ps,hrun,hv⟩:=hown.lookup keyed22 Tryz.underlying90 (zero196 W) (show ptrE (.pointer none)=some (.nil,[]) from rfl) (key22 k hk);rw [hat k hk] at hv;rw [hrun]
 rcases ptrE_inv hv with ⟨b,rfl,h1⟩|⟨rfl,h1⟩
 ·cases hf:lo k with
  | none=>rw [hf] at h1;simp [asD] at h1
  | some b' =>
   rw [hf] at h1;simp [asD] at h1;have:b'=b:=by omega
   subst this;rfl
 cases hf:lo k with
 | none=>rfl
 | some b'=>rw [hf] at h1;simp [asD] at h1
theorem key_neU {j k:Nat} (h:j≠k):(Lit.int .u64 (j:Int))≠.int .u64 (k:Int):=by
 intro e;injection e with _ e
 omega
theorem tightU {W:World} {b n:Nat} {D:DataW Unit} {R:Value→Option (DataW Unit×List MemPlace)} (h:W.ownsMap Tryz.prog 23 R b n D) {n':Nat} (hn:Maps.size D≤n'):W.ownsMap Tryz.prog 23 R b n' D:=by
 obtain⟨es,clock,hb,F,hs,rfl⟩:=h;exact⟨es,clock,hb,F,by simpa [Maps.size,length_sorted] using hn,rfl⟩
theorem Mr.del {R n:Nat} {lo:Nat→Option Nat} {W:World} (h:Mr R n lo W) (k:Nat) (hk:k < 18446744073709551616) (ty:TypeId) :
  ∃ W',(Builtin.delete_ #[90,23] ty #[.map (some R),.int .u64 k]).run Tryz.prog W=.ok (.tuple #[]) W'∧Mr R (if (lo k).isSome then n - 1 else n) (upd lo k none) W'∧W.mapTurned W' R:=by
 obtain⟨D,hown,hsz,hat,hhas⟩:=h.map;obtain⟨W',hrun,hown',ht⟩:=hown.drop keyed22 Tryz.underlying90 (key22 k hk) ty;refine⟨W',hrun,⟨D.del (.int .u64 k),hown',?_,?_,?_⟩,ht⟩
 ·have e1:=Maps.size_del (k:=.int .u64 k) (hown.tidy keyed22);rw [hhas k hk] at e1
  cases hf:lo k <;> rw [hf] at e1 <;> simp at e1 ⊢<;> omega
 ·intro j hj
  by_cases e:j=k
  ·subst e;rw [Maps.atKey_del_same,upd_same];rfl
  rw [Maps.atKey_del_other (key_neU e),upd_other lo k j _ e];exact hat j hj
 intro j hj
 by_cases e:j=k
 ·subst e;rw [Maps.has_del_same,upd_same];rfl
 rw [Maps.has_del_other (key_neU e),upd_other lo k j _ e];exact hhas j hj
theorem Mr.put {R n:Nat} {lo:Nat→Option Nat} {W:World} (h:Mr R n lo W) (k b:Nat) (hk:k < 18446744073709551616) (hf:lo k=none) (hn:n < 4096) :
  ∃ W',(Instr.mapUpdate 90 (.map (some R)) (.int .u64 k) (.pointer (some ⟨b,0,none⟩))).run Tryz.prog W=.ok () W'∧Mr R (n+1) (upd lo k (some b)) W'∧W.mapTurned W' R:=by
 obtain⟨D,hown,hsz,hat,hhas⟩:=h.map;obtain⟨W',hrun,hown',ht⟩:=hown.store keyed22 Tryz.underlying90 (by decide) (key22 k hk) (ptrE_some b);have hlit:WideAt.IsKeyLit (.int .u64 (k:Int)):=by simp [WideAt.IsKeyLit]
 have e0:Maps.size (D.put (.int .u64 k) (.lit (.int .i64 b)))≤n+1:=by
  have e1:=Maps.size_put (k:=.int .u64 k) (hown.tidy keyed22) (.lit (.int .i64 b));rw [hhas k hk,hf] at e1;simp at e1;omega
 refine⟨W',hrun,⟨_,tightU hown' (by omega),e0,?_,?_⟩,ht⟩
 ·intro j hj
  by_cases e:j=k
  ·subst e;rw [Maps.atKey_put_same hown.isMap hlit,upd_same];rfl
  rw [Maps.atKey_put_other (key_neU e),upd_other lo k j _ e];exact hat j hj
 intro j hj
 by_cases e:j=k
 ·subst e;rw [Maps.has_put_same hown.isMap hlit,upd_same];rfl
 rw [Maps.has_put_other (key_neU e),upd_other lo k j _ e];exact hhas j hj
/-! methods by way of an interface -/
theorem meth_ks (g : Nat) (w : World) : (method 660 164 (.pointer (some ⟨g, 0, none⟩)) "loop.example/s01868/impl.kept").run Tryz.prog w = .ok (266, .pointer (some ⟨g, 0, none⟩)) w := by kernel_rfl
theorem meth_kl (g : Nat) (w : World) : (method 660 175 (.pointer (some ⟨g, 0, none⟩)) "loop.example/s01868/impl.kept").run Tryz.prog w = .ok (266, .pointer (some ⟨g, 0, none⟩)) w := by kernel_rfl
end Go.Proofs.YtacccpkmgkojiaaGreatDoorRR
namespace Go.Proofs.YtacccpkmgkojiaaGreatDoorRR
set_option linter.unusedVariables false
set_option linter.unusedSimpArgs false
set_option maxRecDepth 20000
set_option maxHeartbeats 8000000
open Go.RowKit Go.Maps
def atV (y:Ly) (d:Dy) (p:Nat):Value :=
 match d.lg p with
 | some g=>.iface 175 (Vp g 0)
 | none=>match slotAt p with
  | some (c,s,j)=>.iface 164 (Vp (y.sm c s j) 0)
  | none=>.nilIface
theorem box_slab (cf:Cf) (y:Ly) (d:Dy) (u c s:Nat) (hc:c < 12) (hs:s < 6):boxF cf y d u (7+c*6+s)=Vp (y.sb c s) 0:=by
 unfold boxF;rw [if_neg (by omega),if_pos (by omega)];have e1:(7+c*6+s - 7)/6=c:=by omega
 have e2:(7+c*6+s - 7) % 6=s:=by omega
 rw [e1,e2]
theorem Hp.slabAt {B:Nat} {y:Ly} {d:Dy} {cf:Cf} {h:Hs} {W:World} (hp:Hp B y d cf h W) (c s:Nat) (hc:c < 12) (hs:s < 6):W.cell? ⟨y.P,7+c*6+s,none⟩=some (Vp (y.sb c s) 0):=hp.cell _ (by omega) _ (box_slab cf y d h.used c s hc hs)
theorem Hp.bc {B:Nat} {y:Ly} {d:Dy} {cf:Cf} {h:Hs} {W:World} (hp:Hp B y d cf h W) (c s:Nat) (hc:c < 12) (hs:s < 6):Bc (y.sb c s) (y.sr c s) c s (slN c) (y.sc c s) (d.on c s) W:=by
 have hb:=hp.sl c s hc hs;exact⟨by rw [cell_of_row _ _ _ _ _ _ hb];rfl,by rw [cell_of_row _ _ _ _ _ _ hb];rfl,by rw [cell_of_row _ _ _ _ _ _ hb];rfl,by rw [cell_of_row _ _ _ _ _ _ hb];rfl⟩
theorem Hp.rowAt {B:Nat} {y:Ly} {d:Dy} {cf:Cf} {h:Hs} {W:World} (hp:Hp B y d cf h W) (c s j:Nat) (hc:c < 12) (hs:s < 6) (hj:j < slN c):W.cell? ⟨y.sr c s,j,none⟩=some (Vp (y.sm c s j) 0):=by
 rw [(hp.rw c s hc hs).cell j (by simpa using hj)];simp [hj]
theorem Hp.smAt {B:Nat} {y:Ly} {d:Dy} {cf:Cf} {h:Hs} {W:World} (hp:Hp B y d cf h W) (c s j:Nat) (hc:c < 12) (hs:s < 6) (hj:j < slN c):W.cell? ⟨y.sm c s j,0,none⟩=some (Vi (h.st c s j))∧W.cell? ⟨y.sm c s j,1,none⟩=some (Vi (h.rq c s j)):=by
 have hb:=hp.sm c s j hc hs hj;exact⟨by rw [cell_of_row _ _ _ _ _ _ hb];rfl,by rw [cell_of_row _ _ _ _ _ _ hb];rfl⟩
theorem Hp.scAt {B:Nat} {y:Ly} {d:Dy} {cf:Cf} {h:Hs} {W:World} (hp:Hp B y d cf h W) (c s j:Nat) (hc:c < 12) (hs:s < 6) (hj:j < slN c):Sc (y.sm c s j) (y.sb c s) c s j W:=by
 have hb:=hp.sm c s j hc hs hj;have bc:=hp.bc c s hc hs;exact⟨by rw [cell_of_row _ _ _ _ _ _ hb];rfl,by rw [cell_of_row _ _ _ _ _ _ hb];rfl,bc.d0,bc.d1,hp.tb,hc,hs,hj⟩
theorem im_at (B:Nat) (y:Ly) (d:Dy) (cf:Cf) (h:Hs) (p:Nat) (W:World) (hp:Hp B y d cf h W) (hpp:p < 18446744073709551616) :
  Calls Tryz.prog 102 #[Vp y.P 0,Vu (p:Nat)] W fun e W'=>e=.returned (atV y d p)∧Below W.heap.size W W':=by
 have c115:W.cell? ⟨y.P,115,none⟩=some (.map (some y.R)):=hp.cell 115 (by omega) _ rfl;have LK:=hp.mp.look p hpp
 cases hl:d.lg p with
 | some g =>
  have HE:=hid (show atV y d p=.iface 175 (Vp g 0) by unfold atV;rw [hl]);rw [hl] at LK;simp only [Option.map_some] at LK;clear hp hl;go_enter Tryz.func102,Tryz.ntmps102;go_wp2;go_ret;rw [HE.out];exact⟨rfl,Below.refl _ _⟩
 | none =>
  rw [hl] at LK;simp only [Option.map_none] at LK;have DC:=hid (im_Decode (p:Nat) (by omega) (by omega) W hp.tb);have HPB:=hid (fun V (hV:Below W.heap.size W V)=>hp.below hV);have HA:=hid (show atV y d p=match slotAt p with
    | some (c,s,j)=>.iface 164 (Vp (y.sm c s j) 0)
    | none=>.nilIface by unfold atV;rw [hl])
  clear hp hl;go_enter Tryz.func102,Tryz.ntmps102;go_wp2_with fail;refine (DC.out).mono ?_;rintro e V ⟨⟨v,hdec,rfl⟩,bV⟩;have BV:=hid bV;have XB:∀ {U:World},Below V.heap.size V U→Below W.heap.size W U:=fun hU=>bV.trans (hU.mono bV.size)
  clear bV DC LK c115
  rcases dec_at hdec with ⟨c,s,j,hc,hs,hj,rfl,rfl⟩|⟨hno,k,c,s,t,q,o,rfl,hko⟩
  ·rw [slotAt_adr hc hs hj] at HA;dsimp only at HA;unfold pl;go_upto_region 5 with fail
   have XU:=al_last V (.cells #[Vi 3,Vi (c:Nat),Vi (s:Nat),Vi (j:Nat),Vi 0,Vi 0] 55);have bU:Below V.heap.size V (V.alloc (.cells #[Vi 3,Vi (c:Nat),Vi (s:Nat),Vi (j:Nat),Vi 0,Vi 0] 55)):=(Below.refl _ _).alloc (Nat.le_refl _) _;generalize V.alloc _=U at *;generalize V.heap.size=X at *;have z0:U.cell? ⟨X,0,none⟩=some (Vi 3):=by rw [cell_of_row _ _ _ _ _ _ XU];rfl
   have z1:U.cell? ⟨X,1,none⟩=some (Vi (c:Nat)):=by rw [cell_of_row _ _ _ _ _ _ XU];rfl
   have z2:U.cell? ⟨X,2,none⟩=some (Vi (s:Nat)):=by rw [cell_of_row _ _ _ _ _ _ XU];rfl
   have z3:U.cell? ⟨X,3,none⟩=some (Vi (j:Nat)):=by rw [cell_of_row _ _ _ _ _ _ XU];rfl
   have z5:U.cell? ⟨X,5,none⟩=some (Vi 0):=by rw [cell_of_row _ _ _ _ _ _ XU];rfl
   have BU:=hid (show Below W.heap.size W U from XB bU);have HU:=HPB.out U BU.out;have q1:=HU.slabAt c s hc hs;have q2:=(HU.bc c s hc hs).d3;have q3:=HU.rowAt c s j hc hs hj;have hj64:=(szN_in hc).2.2.2.2.2.1;clear HU XU bU BV hdec;generalize y.sm c s j=gm at *;generalize y.sr c s=gr at *;generalize y.sb c s=gb at *;generalize y.sc c s=gc at *;generalize slN c=nn at *;go_upto_region 7 with fail
   refine wp_region_held (S:=fun W9=>W9.cell? ⟨X,1,none⟩=some (Vi (c:Nat))∧W9.cell? ⟨X,2,none⟩=some (Vi (s:Nat))∧W9.cell? ⟨X,3,none⟩=some (Vi (j:Nat))∧W9.cell? ⟨y.P,7+c*6+s,none⟩=some (Vp gb 0)∧W9.cell? ⟨gb,3,none⟩=some (Vl gr nn gc)∧W9.cell? ⟨gr,j,none⟩=some (Vp gm 0)) (by kernel_rfl) ?_;simp only [List.size_toArray,List.length_cons,List.length_nil,Nat.reduceAdd,Array.replicate_succ,Array.replicate_zero,List.push_toArray,List.nil_append,List.cons_append];have hS:=And.intro (show U.drew.cell? _=_ from z1) (And.intro (show U.drew.cell? _=_ from z2) (And.intro (show U.drew.cell? _=_ from z3) (And.intro (show U.drew.cell? _=_ from q1) (And.intro (show U.drew.cell? _=_ from q2) (show U.drew.cell? _=_ from q3)))));refine pk 0 27 (Vp y.P 0) hS ?_;simp only [lz,l0,ls];refine pk 1 28 (Vp X 1) hS ?_;simp only [lz,l0,ls];refine pz 2 29 (Vi (c:Nat)) hS ?_;simp only [lz,l0,ls];refine pk 3 30 (Vp X 2) hS ?_;simp only [lz,l0,ls];refine pz 4 31 (Vi (s:Nat)) hS ?_;simp only [lz,l0,ls];refine pk 5 32 (Vp y.P 0) hS ?_;simp only [lz,l0,ls];refine pk 6 33 (Vp y.P 7) hS ?_;simp only [lz,l0,ls];refine pz 7 34 (Vp y.P (7+c*6)) hS ?_;simp only [lz,l0,ls];refine pz 8 35 (Vp y.P (7+c*6+s)) hS ?_;simp only [lz,l0,ls];refine pz 9 36 (Vp gb 0) hS ?_;simp only [lz,l0,ls];refine pk 10 37 (Vp gb 0) hS ?_;simp only [lz,l0,ls];refine pk 11 38 (Vp gb 3) hS ?_;simp only [lz,l0,ls];refine pz 12 39 (Vl gr nn gc) hS ?_;simp only [lz,l0,ls];refine pk 13 40 (Vp X 3) hS ?_;simp only [lz,l0,ls];refine pz 14 41 (Vi (j:Nat)) hS ?_;simp only [lz,l0,ls];refine pz 15 42 (Vp gr j) hS ?_;simp only [lz,l0,ls];refine pz 16 43 (Vp gm 0) hS ?_;simp only [lz,l0,ls];refine pz 17 44 (.iface 164 (Vp gm 0)) hS ?_;simp only [lz,l0,ls];refine pk 18 4 (.iface 164 (Vp gm 0)) hS ?_;simp only [lz,l0,ls];refine wpAnyH_done (by kernel_rfl) ?_ _;clear hS;go_wp2;go_ret;rw [HA.out];exact⟨rfl,BU.out.drew⟩
  rw [hno] at HA;dsimp only at HA;unfold pl;go_upto_region 5 with fail
  have XU:=al_last V (.cells #[Vi k,Vi c,Vi s,Vi t,Vi q,Vi o] 55);have bU:Below V.heap.size V (V.alloc (.cells #[Vi k,Vi c,Vi s,Vi t,Vi q,Vi o] 55)):=(Below.refl _ _).alloc (Nat.le_refl _) _;generalize V.alloc _=U at *;generalize V.heap.size=X at *;have z0:U.cell? ⟨X,0,none⟩=some (Vi k):=by rw [cell_of_row _ _ _ _ _ _ XU];rfl
  have z5:U.cell? ⟨X,5,none⟩=some (Vi o):=by rw [cell_of_row _ _ _ _ _ _ XU];rfl
  have BU:=hid (show Below W.heap.size W U from XB bU);clear XU bU BV hdec
  by_cases hk3:k=3
  ·have ho:(o != 0)=true:=by rcases hko with h1|h1;exact absurd hk3 h1;simpa using h1
   subst hk3;clear hko;go_wp2;go_ret;rw [HA.out];exact⟨rfl,BU.out⟩
  have hk':(k != 3)=true:=by simpa using hk3
  clear hko hk3;go_wp2;go_ret;rw [HA.out];exact⟨rfl,BU.out⟩
end Go.Proofs.YtacccpkmgkojiaaGreatDoorRR
namespace Go.Proofs.YtacccpkmgkojiaaGreatDoorRR
set_option linter.unusedVariables false
set_option linter.unusedSimpArgs false
set_option maxRecDepth 20000
set_option maxHeartbeats 8000000
open Go.RowKit Go.Maps
inductive LkR (y:Ly) (d:Dy):Fd→Ending→Prop
 | slot (c s j:Nat):LkR y d (.slot c s j) (.returned (.iface 164 (Vp (y.sm c s j) 0)))
 | range (r:Rg9) (g:Nat) (h:d.lg r.base=some g):LkR y d (.range r) (.returned (.iface 175 (Vp g 0)))
 | no (code:Int):LkR y d (.no code) (.panicked (refV code))
theorem Inv.baseP {cf:Cf} {h:Hs} (i:Inv cf h) {r:Rg9} (hr:r∈h.rg):191488≤r.base∧r.base < 289792∧r.base/1024=r.first+r.guards∧r.base % 1024=0:=by
 obtain⟨h1,h2,h3,h4,h5,_⟩:=i.rgs r hr;unfold Rg9.ext at h2;unfold Rg9.base;omega
theorem slotAt_low {p c s j:Nat} (h:slotAt p=some (c,s,j)):p < 191488:=by
 obtain⟨h1,h2,h3,h4⟩:=slotAt_in h;have:=adr_in h1 h2 h3;omega
theorem slotAt_big {p:Nat} (h:191488≤p):slotAt p=none:=by
 cases e:slotAt p with
 | none=>rfl
 | some t=>obtain ⟨c,s,j⟩:=t;have:=slotAt_low e;omega
theorem Inv.relP {cf:Cf} {h:Hs} (i:Inv cf h) {p:Nat} (hp:p∈h.rel):findM h p=.no 4:=by
 obtain⟨h1,h2,h3,h4⟩:=i.rel p hp;unfold findM;rw [slotAt_big (by omega)];dsimp only
 cases e:h.rg.find? fun r=>r.base==p with
 | some r =>
  exfalso;have hm:=List.mem_of_find?_eq_some e;have hb:=List.find?_some e;simp at hb;have hr:=i.baseP hm;have h5:=h4 r hm;obtain⟨h6,h7,h8,h9,h10,_⟩:=i.rgs r hm;unfold Rg9.ext at h5;rw [hb] at hr;omega
 | none =>
  dsimp only;rw [if_pos (List.contains_iff_mem.2 hp)]
theorem Hp.lcAt {B:Nat} {y:Ly} {d:Dy} {cf:Cf} {h:Hs} {W:World} (hp:Hp B y d cf h W) (i:Inv cf h) {r:Rg9} (hr:r∈h.rg):∃ g,d.lg r.base=some g∧Lc g r W:=by
 obtain⟨g,h1,h2,h3⟩:=hp.lb r hr;obtain⟨h6,h7,h8,h9,h10,_⟩:=i.rgs r hr;unfold Rg9.ext at h7;exact⟨g,h1,by rw [cell_of_row _ _ _ _ _ _ h3];rfl,by rw [cell_of_row _ _ _ _ _ _ h3];rfl,by rw [cell_of_row _ _ _ _ _ _ h3];rfl,by rw [cell_of_row _ _ _ _ _ _ h3];rfl,by rw [cell_of_row _ _ _ _ _ _ h3];rfl,by omega,by omega,by omega⟩
theorem im_lookUp (B:Nat) (y:Ly) (d:Dy) (cf:Cf) (h:Hs) (p:Nat) (W:World) (hp:Hp B y d cf h W) (i:Inv cf h) (hpp:p < 18446744073709551616) (hrl:h.rel.length≤100000) :
  Calls Tryz.prog 69 #[Vp y.P 0,Vu (p:Nat)] W fun e W'=>LkR y d (findM h p) e∧Below W.heap.size W W':=by
 obtain⟨va,vn,vc,hv⟩:=own_sl4 hp.rl;have c117:W.cell? ⟨y.P,117,none⟩=some (.slice va vn vc):=by rw [←hv];exact hp.cell 117 (by omega) _ rfl
 have CO:=hid (im_contains B va vn vc p h.rel W (by rw [←hv];exact hp.rl) hrl);have AT:=hid (im_at B y d cf h p W hp hpp);have KP:=hid im_keptP;have HPB:=hid (fun V (hV:Below W.heap.size W V)=>hp.below hV);have LO:=hid (hp.lo p);clear hv
 by_cases hm:p∈h.rel
 ·have HE:=hid (i.relP hm);rw [List.contains_iff_mem.2 hm] at CO;clear hp hm AT HPB LO i;go_enter Tryz.func69,Tryz.ntmps69;go_wp2_with fail;refine (CO.out).mono ?_;rintro e W2 ⟨rfl,rfl⟩;clear CO;go_wp2;rw [HE.out];exact⟨rfl,.no 4,Below.refl _ _⟩
 have hmc:h.rel.contains p=false:=by
  cases hc:h.rel.contains p with
  | false=>rfl
  | true=>exact absurd (List.contains_iff_mem.1 hc) hm
 rw [hmc] at CO
 cases hl:d.lg p with
 | some g =>
  rw [hl] at LO;have hany:h.rg.any (fun r=>r.base==p)=true:=LO.out.symm;obtain⟨r,hfr⟩:∃ r,h.rg.find? (fun r=>r.base==p)=some r:=by
   cases e:h.rg.find? fun r=>r.base==p with
   | some r=>exact ⟨r,rfl⟩
   | none =>
    exfalso;obtain⟨r,hr,hb⟩:=List.any_eq_true.1 hany;exact List.find?_eq_none.1 e r hr hb
  have hrm:=List.mem_of_find?_eq_some hfr;have hrb:=List.find?_some hfr;simp at hrb;have hbp:=i.baseP hrm;obtain⟨g',hg',lc⟩:=hp.lcAt i hrm;rw [hrb,hl] at hg'
  cases hg'
  have hst:=(i.rgs r hrm).2.2.2.2.2;have HV:=hid (show atV y d p=.iface 175 (Vp g 0) by unfold atV;rw [hl]);rw [HV.out] at AT;have LC:=hid (fun V (hV:Below W.heap.size W V)=>(lc.below hV).c0);have mk:=fun w=>meth_kl g w
  have HF:=hid (show findM h p=if r.st=1 then .range r else .no 4 by unfold findM;rw [slotAt_big (by omega)];dsimp only;rw [hfr]);have HL:=hid (show d.lg r.base=some g by rw [hrb];exact hl);clear hp hm HPB LO lc hfr hrm hbp hany hmc hl hrb i;go_enter Tryz.func69,Tryz.ntmps69;go_wp2_with fail;refine (CO.out).mono ?_;rintro e W2 ⟨rfl,rfl⟩;clear CO;go_wp2_with fail;refine (AT.out).mono ?_;rintro e V ⟨rfl,bV⟩;have BV:=hid bV;have c0:=LC.out V bV;clear bV AT HV c117;go_wp2_with fail;refine (KP.out _ _).mono ?_;rintro e V2 ⟨rfl,rfl⟩
  rcases hst with ⟨h1,_⟩|⟨h1,_⟩
  ·have HF2:=hid (show findM h p=.range r by rw [HF.out,if_pos h1]);rw [h1] at c0;clear HF h1;go_wp2_with fail;refine (KP.out _ _).mono ?_;rintro e V3 ⟨rfl,rfl⟩;go_wp2;go_ret;rw [HF2.out];exact⟨.range r g HL.out,BV.out⟩
  have HF2:=hid (show findM h p=.no 4 by rw [HF.out,if_neg (by omega)]);rw [h1] at c0;clear HF h1;go_wp2_with fail;refine (KP.out _ _).mono ?_;rintro e V3 ⟨rfl,rfl⟩;go_wp2;rw [HF2.out];exact⟨rfl,.no 4,BV.out⟩
 | none =>
  rw [hl] at LO;have hfr:h.rg.find? (fun r=>r.base==p)=none:=by
   refine List.find?_eq_none.2 (fun r hr hb=>?_);have:h.rg.any (fun r=>r.base==p)=true:=List.any_eq_true.2 ⟨r,hr,hb⟩;rw [←LO.out] at this
   cases this
  cases hsl:slotAt p with
  | none =>
   have HV:=hid (show atV y d p=.nilIface by unfold atV;rw [hl,hsl]);rw [HV.out] at AT;have HF:=hid (show findM h p=.no 3 by unfold findM;rw [hsl];dsimp only;rw [hfr];dsimp only;rw [hmc];rfl);clear hp hm HPB LO hfr hmc hl hsl i;go_enter Tryz.func69,Tryz.ntmps69;go_wp2_with fail;refine (CO.out).mono ?_;rintro e W2 ⟨rfl,rfl⟩;clear CO;go_wp2_with fail;refine (AT.out).mono ?_;rintro e V ⟨rfl,bV⟩;have BV:=hid bV;clear bV AT HV c117;go_wp2;rw [HF.out];exact⟨rfl,.no 3,BV.out⟩
  | some q =>
   obtain⟨c,s,j⟩:=q;obtain⟨hc,hs,hj,hA⟩:=slotAt_in hsl;have HV:=hid (show atV y d p=.iface 164 (Vp (y.sm c s j) 0) by unfold atV;rw [hl,hsl]);rw [HV.out] at AT;have LC:=hid (fun V (hV:Below W.heap.size W V)=>((HPB.out V hV).smAt c s j hc hs hj).1);have HF:=hid (show findM h p=if h.st c s j=1 then .slot c s j else if h.st c s j=0 then .no 3 else .no 4 by unfold findM;rw [hsl]);have LS:=hid (LkR.slot (y:=y) (d:=d) c s j);have mk:=fun w=>meth_ks (y.sm c s j) w
   clear hp hm HPB LO hfr hmc hl hsl hA i;generalize y.sm c s j=gm at *;generalize h.st c s j=st at *;go_enter Tryz.func69,Tryz.ntmps69;go_wp2_with fail;refine (CO.out).mono ?_;rintro e W2 ⟨rfl,rfl⟩;clear CO;go_wp2_with fail;refine (AT.out).mono ?_;rintro e V ⟨rfl,bV⟩;have BV:=hid bV;have c0:=LC.out V bV;clear bV AT HV c117;go_wp2_with fail;refine (KP.out _ _).mono ?_;rintro e V2 ⟨rfl,rfl⟩
   by_cases h0:st=0
   ·have HF2:=hid (show findM h p=.no 3 by rw [HF.out,if_neg (by omega),if_pos h0]);subst h0;clear HF;go_wp2;rw [HF2.out];exact⟨rfl,.no 3,BV.out⟩
   have h0':(st==0)=false:=by simpa using h0
   by_cases h1:st=1
   ·have HF2:=hid (show findM h p=.slot c s j by rw [HF.out,if_pos h1]);subst h1;clear HF h0 h0';go_wp2_with fail;refine (KP.out _ _).mono ?_;rintro e V3 ⟨rfl,rfl⟩;go_wp2;go_ret;rw [HF2.out];exact⟨LS.out,BV.out⟩
   have HF2:=hid (show findM h p=.no 4 by rw [HF.out,if_neg h1,if_neg h0]);have h1':(st != 1)=true:=by simpa using h1
   clear HF h0 h1;go_wp2_with fail;refine (KP.out _ _).mono ?_;rintro e V3 ⟨rfl,rfl⟩;go_wp2;rw [HF2.out];exact⟨rfl,.no 4,BV.out⟩
end Go.Proofs.YtacccpkmgkojiaaGreatDoorRR
namespace Go.Proofs.YtacccpkmgkojiaaGreatDoorRR
set_option linter.unusedVariables false
set_option linter.unusedSimpArgs false
set_option maxRecDepth 20000
set_option maxHeartbeats 8000000
open Go.RowKit
def Byt (m:Nat→Option (Bool×List Int)):Prop:=∀ k q,m k=some q→∀ x∈q.2,0≤x∧x≤255
def okB (ys:List Int):Prop:=∀ y∈ys,0≤y∧y≤255
theorem okB.get {ys:List Int} (h:okB ys) (i:Nat):0≤ys[i]?.getD 0∧ys[i]?.getD 0≤255:=by
 cases e:ys[i]? with
 | none=>simp
 | some y=>exact h y (List.mem_of_getElem? e)
theorem Byt.put {m:Nat→Option (Bool×List Int)} (h:Byt m) (p:Nat) {x:Int} (hx:0≤x∧x≤255):Byt (putM m p x):=by
 intro k q hq;unfold putM at hq
 by_cases e:k=p/1024
 ·subst e;rw [updM_same] at hq
  cases hm:m (p/1024) with
  | none=>rw [hm] at hq;cases hq
  | some r =>
   rw [hm] at hq;simp at hq;subst hq;intro z hz
   rcases List.mem_or_eq_of_mem_set hz with h1|h1
   ·exact h _ _ hm z h1
   rw [h1];exact hx
 rw [updM_other _ _ _ _ e] at hq;exact h k q hq
theorem Byt.store {m:Nat→Option (Bool×List Int)} (h:Byt m) (a:Nat) {ys:List Int} (hy:okB ys):∀ k,Byt (storeM m a ys k)
 | 0=>h
 | k+1=>(Byt.store h a hy k).put _ (hy.get k)
theorem Byt.fresh {m:Nat→Option (Bool×List Int)} (h:Byt m) (p k:Nat):Byt (freshM m p k):=by
 intro j q hq;rw [freshM_eq] at hq
 split at hq
 ·injection hq with hq
  subst hq;intro x hx;rw [List.eq_of_mem_replicate hx];omega
 exact h j q hq
theorem Byt.gone {m:Nat→Option (Bool×List Int)} (h:Byt m) (p k:Nat):Byt (goneM m p k):=by
 intro j q hq;rw [goneM_eq] at hq
 split at hq
 ·cases hq
 exact h j q hq
theorem Byt.at {m:Nat→Option (Bool×List Int)} (h:Byt m) (p:Nat):0≤byteAt m p∧byteAt m p≤255:=by
 unfold byteAt
 cases hm:m (p/1024) with
 | none=>simp
 | some q =>
  simp only [Option.map_some,Option.getD_some];exact okB.get (fun y hy=>h _ _ hm y hy) _
theorem Byt.load {m:Nat→Option (Bool×List Int)} (h:Byt m) (a n:Nat):okB (loadB m a n):=by
 intro y hy;unfold loadB at hy;simp only [List.mem_map] at hy;obtain⟨i,_,rfl⟩:=hy;exact h.at _
theorem okB_can (cf:Cf) (a:Nat):okB (can cf a):=by
 intro y hy;unfold can cRow at hy;simp only [List.mem_map] at hy;obtain⟨i,_,rfl⟩:=hy
 split
 ·omega
 have:=cb_ge (cx cf.key (a:Int)) i;omega
theorem okB_zero (n:Nat):okB (List.replicate n 0):=fun y hy=>by rw [List.eq_of_mem_replicate hy];omega
theorem roomS_m {cf:Cf} {h h1:Hs} {c s:Nat} (e:roomS cf h c=some (s,h1)):h1.m=h.m∨h1.m=freshM h.m (slabP c s) (pgN c):=by
 unfold roomS at e
 split at e
 ·injection e with e;injection e with e1 e2;subst e2;exact .inl rfl
 split at e
 ·cases e
 split at e
 ·cases e
 injection e with e;injection e with e1 e2;subst e1;subst e2;exact .inr rfl
theorem Byt.small {cf:Cf} {c:Nat} : ∀ (f:Nat) {h:Hs},Byt h.m→Byt (smallM cf c f h).2.m
 | 0,h,b=>b
 | f+1,h,b=>by
  unfold smallM
  cases e:roomS cf h c with
  | none=>exact b
  | some q =>
   obtain⟨s,h1⟩:=q
   have b1:Byt h1.m:=by rcases roomS_m e with e1|e1 <;> rw [e1];exact b;exact b.fresh _ _
   dsimp only
   split
   ·exact b1
   exact Byt.small f (h:={ h1 with used:=h1.used+1,st:=_ }) b1
theorem Byt.malloc {cf:Cf} {h:Hs} (b:Byt h.m) (a:Nat):Byt (mallocM cf h a).2.m:=by
 unfold mallocM
 split
 ·have b1:=Byt.small (cf:=cf) (c:=coN a) 2000 b
  cases e:smallM cf (coN a) 2000 h with
  | mk o h1 =>
   rw [e] at b1
   cases o with
   | none=>exact b1
   | some q =>
    obtain⟨s,j⟩:=q;exact b1.store _ (okB_can cf _) 8
 dsimp only
 split
 ·exact b
 split
 ·exact b
 split
 ·exact b
 exact b.fresh _ _
theorem Byt.release {h:Hs} (b:Byt h.m) (c s j:Nat):Byt (releaseM h c s j).m:=by
 unfold releaseM;dsimp only
 split
 ·exact b.gone _ _
 exact b
theorem Byt.freeS {cf:Cf} {h:Hs} (b:Byt h.m) (c s j:Nat):Byt (freeSlot cf h c s j).m:=by
 unfold freeSlot;dsimp only;have b1:=b.store (adr c s j) (okB_zero (szN c)) (szN c)
 split
 ·split
  ·exact b1
  exact Byt.release (h:={ m:=_,st:=_,rq:=_,mx:=_,ff:=_,rg:=_,row:=_,rel:=_,used:=_ }) b1 _ _ _
 split
 ·exact b1
 exact Byt.release (h:={ m:=_,st:=_,rq:=_,mx:=_,ff:=_,rg:=_,row:=_,rel:=_,used:=_ }) b1 _ _ _
theorem Byt.freeR {cf:Cf} {h:Hs} (b:Byt h.m) (r:Rg9):Byt (freeRange cf h r).m:=by
 unfold freeRange;dsimp only
 split
 ·exact b.gone _ _
 exact b.gone _ _
theorem Byt.free {cf:Cf} {h:Hs} (b:Byt h.m) (f:Fd):Byt (freeM cf h f).m:=by
 cases f with
 | slot c s j=>exact b.freeS c s j
 | range r=>exact b.freeR r
 | no _=>exact b
theorem Byt.realloc {cf:Cf} {h:Hs} (b:Byt h.m) (p a:Nat):Byt (reallocM cf h p a).2.m:=by
 have b1:=b.malloc (cf:=cf) a;have tk:∀ old:Nat,Byt ((match mallocM cf h a with
   | (none,h1)=>((An4.no 1,h1):An4×Hs)
   | (some q,h1)=>(⟨0,q,0,[]⟩,freeM cf { h1 with m:=copyM h1.m p q (min old a) } (findM { h1 with m:=copyM h1.m p q (min old a) } p))).2.m):=fun old=>by
  cases e:mallocM cf h a with
  | mk o h1 =>
   rw [e] at b1
   cases o with
   | none=>exact b1
   | some q=>exact Byt.free (h:={ h1 with m:=copyM h1.m p q (min old a) }) (Byt.store b1 _ (Byt.load b1 _ _) _) _
 unfold reallocM;dsimp only
 split
 ·cases e:mallocM cf h a with
  | mk o h1 =>
   rw [e] at b1
   cases o with
   | none=>exact b1
   | some q=>exact b1
 split
 ·exact b
 ·split
  ·exact b
  split
  ·exact b
  exact tk _
 split
 ·exact b
 exact tk _
theorem Byt.do {cf:Cf} {h:Hs} (b:Byt h.m) (o:Op6) (p:Nat) (ho:okB o.ys):Byt (doM cf h o p).2.m:=by
 have ml:∀ n:Nat,Byt ((match mallocM cf h n with
   | (none,h1)=>((An4.no 1,h1):An4×Hs)
   | (some q,h1)=>(⟨0,q,0,[]⟩,h1)).2.m):=fun n=>by
  have b1:=b.malloc (cf:=cf) n
  cases e:mallocM cf h n with
  | mk o h1 =>
   rw [e] at b1
   cases o with
   | none=>exact b1
   | some q=>exact b1
 unfold doM;dsimp only
 split
 ·exact ml _
 split
 ·split
  ·exact b
  exact ml _
 split
 ·exact b.realloc _ _
 split
 ·split
  ·exact b
  ·split
   ·exact b
   exact b.freeS _ _ _
  exact b.freeR _
 split
 ·split <;> exact b
 split
 ·split <;> exact b
 split
 ·dsimp only
  split
  ·exact b.store _ ho _
  exact b
 exact b
theorem Byt.step {cf:Cf} {h:Hs} (b:Byt h.m) (an:List An4) (o:Op6) (ho:okB o.ys):Byt (stepH cf h an o).2.m:=by
 unfold stepH
 split
 ·exact b.do o _ ho
 split
 ·exact b
 exact b.do o _ ho
theorem Byt.new (cf:Cf):Byt (newH cf).m:=fun k q hq=>by simp [newH] at hq
end Go.Proofs.YtacccpkmgkojiaaGreatDoorRR
namespace Go.Proofs.YtacccpkmgkojiaaGreatDoorRR
set_option linter.unusedVariables false
set_option linter.unusedSimpArgs false
set_option maxRecDepth 20000
set_option maxHeartbeats 8000000
open Go.RowKit Go.Maps
def strB (data:List Int):ByteArray:=data.foldl (fun r n=>r.push (UInt8.ofNat n.toNat)) ByteArray.empty
theorem strB_aux:∀ (l:List Int) (r:ByteArray),(l.foldl (fun r n=>r.push (UInt8.ofNat n.toNat)) r).data.toList=r.data.toList++l.map (fun n=>UInt8.ofNat n.toNat)
 | [],r=>by simp
 | x::l,r=>by
  rw [List.foldl_cons,strB_aux l]
  simp [ByteArray.push]
theorem strB_list (l:List Int):(strB l).data.toList=l.map (fun n=>UInt8.ofNat n.toNat):=by
 unfold strB;rw [strB_aux];rfl
theorem bytes_ext {a b:ByteArray} (h:a.toList=b.toList):a=b:=by
 rw [Go.ByteArray.toList_eq,Go.ByteArray.toList_eq] at h
 cases a;cases b
 simp at h;exact congrArg ByteArray.mk h
theorem strB_inj {a b:List Int} (ha:okB a) (hb:okB b) (h:strB a=strB b):a=b:=by
 have e:=congrArg (fun s:ByteArray=>s.data.toList) h;simp only [strB_list] at e;have key:∀ (a b:List Int),okB a→okB b→a.map (fun n=>UInt8.ofNat n.toNat)=b.map (fun n=>UInt8.ofNat n.toNat)→a=b:=by
  intro a
  induction a with
  | nil=>intro b _ _ e;cases b with
   | nil=>rfl
   | cons y r=>simp at e
  | cons x l ih =>
   intro b h1 h2 e
   cases b with
   | nil=>simp at e
   | cons y r =>
    simp only [List.map_cons,List.cons.injEq] at e;have hx:=h1 x (by simp);have hy:=h2 y (by simp);have e1:=congrArg UInt8.toNat e.1;rw [UInt8.toNat_ofNat',UInt8.toNat_ofNat',Nat.mod_eq_of_lt (by omega),Nat.mod_eq_of_lt (by omega)] at e1;rw [ih r (fun z hz=>h1 z (by simp [hz])) (fun z hz=>h2 z (by simp [hz])) e.2];congr 1;omega
 exact key a b ha hb e
def Bs (w:World) (u:Value) (data:List Int):Prop:=∃ a c,u=.slice a data.length c∧∀ i,i < data.length→∃ g,a=some ⟨g,0,none⟩∧w.cell? ⟨g,i,none⟩=some (.int .u8 (data[i]?.getD 0))
theorem Bs.below {w W:World} {u:Value} {data:List Int} (h:Bs w u data) (hb:Below w.heap.size w W):Bs W u data:=by
 obtain⟨a,c,e,h1⟩:=h;exact⟨a,c,e,fun i hi=>by obtain ⟨g,e1,e2⟩:=h1 i hi;exact⟨g,e1,below_cell hb e2⟩⟩
theorem bs_own {W:World} {B:Nat} {u:Value} {l:List Int} (h:W.ownsRow B 5 1 u l.length (Ns .u8 l)):Bs W u l:=by
 obtain⟨a,c,e⟩:=own_sl2 h;subst e;refine⟨a,c,rfl,fun i hi=>?_⟩;obtain⟨g,hg⟩:=own_at h (by omega);subst hg;exact⟨g,rfl,own_cell h i _ (by simp [Ns,hi])⟩
theorem bs_row {W:World} {g n:Nat} {l:List Int} (h:RowV W g 5 (Ns .u8 l)) (hn:l.length=n):Bs W (Vl g n n) l:=by
 subst hn;exact⟨_,_,rfl,fun i hi=>⟨g,rfl,cell_n h i hi⟩⟩
theorem conv_bs {w:World} {u:Value} {data:List Int} (h:Bs w u data):(convert 22 9 u).run Tryz.prog w=.ok (.string (strB data)) w:=by
 obtain⟨a,c,rfl,hc⟩:=h;rw [run_convert_bytes_string w 22 9 5 a data.length c Tryz.underlying22 Tryz.underlying5 Tryz.underlying9]
 cases a with
 | none =>
  have:data=[]:=by
   cases data with
   | nil=>rfl
   | cons x r=>obtain ⟨g,e,_⟩:=hc 0 (by simp);cases e
  subst this;unfold Conv.bytesToString;simp [strB,Sem.run_pure]
 | some p =>
  refine run_bytesToString w p data.length c data ?_;have:=run_loadCells_list (P:=Tryz.prog) w p (data.map (Value.int .u8)) (fun j v hj=>by
   have hj2:=(List.getElem?_eq_some_iff.1 hj).1;simp at hj2;obtain⟨g,e,h1⟩:=hc j hj2
   cases e
   rw [Addr.add_mid,Nat.zero_add,h1,←hj];simp [hj2])
  simpa using this
theorem im_equal (u1 u2:Value) (d1 d2:List Int) (w:World) (h1:Bs w u1 d1) (h2:Bs w u2 d2) (o1:okB d1) (o2:okB d2) :
  Calls Tryz.prog 98 #[u1,u2] w fun e w'=>e=.returned (.bool (d1==d2))∧w'=w:=by
 have e1:=conv_bs h1;have e2:=conv_bs h2;have HE:=hid (show ((strB d1).toList==(strB d2).toList)=(d1==d2) by
  by_cases e:d1=d2
  ·subst e;simp
  have:(strB d1).toList≠(strB d2).toList:=fun h=>e (strB_inj o1 o2 (bytes_ext h))
  rw [beq_eq_false_iff_ne.2 this,beq_eq_false_iff_ne.2 e])
 generalize strB d1=t1 at *;generalize strB d2=t2 at *;clear h1 h2;go_enter Tryz.func98,Tryz.ntmps98;go_wp2;go_ret;rw [←HE.out];exact⟨rfl,rfl⟩
end Go.Proofs.YtacccpkmgkojiaaGreatDoorRR
namespace Go.Proofs.YtacccpkmgkojiaaGreatDoorRR
set_option linter.unusedVariables false
set_option linter.unusedSimpArgs false
set_option maxRecDepth 20000
set_option maxHeartbeats 8000000
open Go.RowKit Go.Maps
theorem ta_l (g:Nat) (w:World):(Instr.typeAssert (.iface 175 (Vp g 0)) 115 164 true).run Tryz.prog w=.ok (.tuple #[.pointer none,.bool false]) w:=by kernel_rfl
theorem ta_s (g:Nat) (w:World):(Instr.typeAssert (.iface 164 (Vp g 0)) 115 164 true).run Tryz.prog w=.ok (.tuple #[Vp g 0,.bool true]) w:=by kernel_rfl
def wholeFd (cf:Cf) (h:Hs):Fd→Fd
 | .slot c s j=>if sound cf h c s j then .slot c s j else .no 5
 | x=>x
def IntR (B:Nat) (y:Ly) (d:Dy) (cf:Cf) (h:Hs) (W:World) (f:Fd) (e:Ending) (W':World):Prop:=∃ f',LkR y d f e∧Hp B y { d with f:=f' } cf h W'∧Bi B W W'
theorem Inv.onLive {cf:Cf} {h:Hs} (i:Inv cf h) {c s j:Nat} (hc:c < 12) (hs:s < 6) (hj:j < slN c) (hl:h.st c s j=1):onS h c s=true:=by
 cases e:onS h c s with
 | true=>rfl
 | false=>have:=i.off c s hc hs e j hj;rw [hl] at this;cases this
theorem Inv.accS {cf:Cf} {h:Hs} (i:Inv cf h) {c s j:Nat} (hc:c < 12) (hs:s < 6) (hj:j < slN c) (hon:onS h c s=true) (k n:Nat) (hn:1≤n) (hk:k+n≤szN c):accC h.m (adr c s j+k) (n:Int)=0:=by
 have hA:=adr_in hc hs hj;have hz:=szN_in hc;refine accC_open hn (by omega) (by omega) (fun q hq=>?_);have:=i.openS hc hs hj hon (k:=k+q) (by omega);rw [show adr c s j+k+q=adr c s j+(k+q) by omega];exact this
theorem im_intact (B:Nat) (y:Ly) (d:Dy) (cf:Cf) (h:Hs) (p:Nat) (W:World) (hp:Hp B y d cf h W) (i:Inv cf h) (hb:Byt h.m) (hpp:p < 18446744073709551616) (hrl:h.rel.length≤100000) (hk0:0≤cf.key) (hk1:cf.key < 18446744073709551616) :
  Calls Tryz.prog 68 #[Vp y.P 0,Vu (p:Nat)] W (IntR B y d cf h W (wholeFd cf h (findM h p))):=by
 have LU:=hid (im_lookUp B y d cf h p W hp i hpp hrl);have SN:=hid (find_seen h p);have HPB:=hid (fun V (hV:Below W.heap.size W V)=>hp.below hV);have BW:=hid hp.bW;clear hp;generalize findM h p=fd at *;go_enter Tryz.func68,Tryz.ntmps68;go_wp2_with fail;refine (LU.out).mono ?_;rintro e V ⟨lk,bV⟩;have BV:=hid bV;clear LU bV
 cases lk with
 | no code =>
  exact⟨rfl,d.f,.no code,HPB.out V BV.out,Bi.ofBelow BV.out BW.out⟩
 | range r g hg =>
  have ta:=fun w=>ta_l g w
  clear SN;go_wp2;go_ret;exact⟨d.f,.range r g hg,HPB.out V BV.out,Bi.ofBelow BV.out BW.out⟩
 | slot c s j =>
  obtain⟨hc,hs,hj,hA,hl⟩:c < 12∧s < 6∧j < slN c∧adr c s j=p∧h.st c s j=1:=by
   have:=SN.out;generalize hfd:Fd.slot c s j=fd at this
   cases this with
   | slot c' s' j' a1 a2 a3 a4 a5=>cases hfd;exact⟨a1,a2,a3,a4,a5⟩
   | range=>cases hfd
   | no=>cases hfd
  have hon:=i.onLive hc hs hj hl;have hz:=szN_in hc;have hAd:=adr_in hc hs hj;have hacc:accC h.m (adr c s j+usN c) ((8:Nat):Int)=0:=i.accS hc hs hj hon (usN c) 8 (by omega) (by omega);have ta:=fun w=>ta_s (y.sm c s j) w
  have HV:=HPB.out V BV.out;have CA:=hid (fun U (hU:Below V.heap.size V U)=>im_canaryAt (y.sm c s j) (y.sb c s) c s j U ((HV.scAt c s j hc hs hj).below hU));have LD:=hid (fun U (hU:Hp B y d cf h U)=>im_hload B y d cf h (adr c s j+usN c) 8 U hU i.out (by omega) (by omega));rw [show min 8 4097=8 from rfl,hacc] at LD;rw [if_pos rfl] at LD;have SB:=hid (fun f' U (hU:Hp B y { d with f:=f' } cf h U)=>im_sbase (y.sm c s j) (y.sb c s) c s j U (hU.scAt c s j hc hs hj));have CN:=hid (fun U=>impl_any cf.key (adr c s j:Nat) U hk0 hk1 (by omega) (by omega));have EQ:=hid (fun u1 u2 U h1 h2=>im_equal u1 u2 (loadB h.m (adr c s j+usN c) 8) (can cf (adr c s j)) U h1 h2 (hb.load _ _) (okB_can cf _));have HS:=hid (show sound cf h c s j=(loadB h.m (adr c s j+usN c) 8==can cf (adr c s j)) from rfl);have HVV:=hid HV;have HL8:=hid (show (loadB h.m (adr c s j+usN c) 8).length=8 by simp [loadB]);have HC8:=hid (show cRow (cx cf.key ((adr c s j:Nat):Int))=can cf (adr c s j) from rfl);have HLS:=hid (LkR.slot (y:=y) (d:=d) c s j);have HWF:=hid (show wholeFd cf h (.slot c s j)=if sound cf h c s j then .slot c s j else .no 5 from rfl);clear HV SN hl hon hacc hA;generalize y.sm c s j=gm at *;generalize loadB h.m (adr c s j+usN c) 8=data at *;go_wp2_with fail;refine (CA.out _ (Below.refl _ _)).mono ?_;rintro e V2 ⟨rfl,b2⟩;have H2:=hid (HVV.out.below b2);have B2:=hid ((Bi.ofBelow BV.out BW.out).add b2 (Nat.le_trans BW.out BV.out.size));clear b2 CA HVV;go_wp2_with fail;refine (LD.out _ H2.out).mono ?_;rintro e V3 ⟨f',hp3,bi3,⟨_,v,rfl,own3⟩|⟨hn,_⟩⟩
  rotate_left
  ·exact absurd rfl hn
  have H3:=hid hp3;have B3:=hid (B2.out.trans bi3);have BS3:=hid (bs_own own3);obtain⟨va,vn,vc,rfl⟩:=own_sl4 own3;have ck:=hp3.cell 4 (by omega) _ rfl;have CK:=hid (show ∀ W9,Below V3.heap.size V3 W9→W9.cell? ⟨y.P,4,none⟩=some (Vu cf.key) from fun W9 k=>below_cell k ck);clear hp3 bi3 own3 LD H2 B2 ck;go_upto_region 5 with fail
  refine wp_region_held (S:=fun W9=>W9.cell? ⟨y.P,4,none⟩=some (Vu cf.key)) (by kernel_rfl) ?_;simp only [List.size_toArray,List.length_cons,List.length_nil,Nat.reduceAdd,Array.replicate_succ,Array.replicate_zero,List.push_toArray,List.nil_append,List.cons_append];have hS:=CK.out _ (Below.refl _ _).drew
  iterate 7 (refine py hS ?_;simp only [f0,f1,Nat.reduceAdd,lz,l0,ls])
  refine po 7 fun K' hK=>?_
  go_simp;refine (SB.out f' _ (H3.out.below (Below.refl _ _).drew)).mono ?_;rintro e V4 ⟨rfl,b4⟩;have k4:Below V3.heap.size V3 V4:=⟨b4.os,b4.tape,b4.output,b4.size,b4.block⟩;have h4:=CK.out _ k4;refine hK.out _ _ ⟨h4,?_⟩;clear hS;have hS:=h4;clear hK K';refine po 8 fun K' hK=>?_
  go_simp;refine (CN.out _).mono ?_;rintro e V5 ⟨rfl,r5,b5⟩;have k5:=bl_trans k4 b5;have h5:=CK.out _ k5;refine hK.out _ _ ⟨h5,?_⟩;clear hS;have hS:=h5;rw [HC8.out] at r5;have BS5:=bs_row r5 (by unfold can;exact cRow_len _);clear hK K';refine po 9 fun K' hK=>?_
  go_simp;refine (EQ.out _ _ _ (BS3.out.below k5) BS5).mono ?_;rintro e V6 ⟨rfl,hw⟩;rw [hw];clear hw V6;refine hK.out _ _ ⟨h5,?_⟩;clear hK K';refine py hS ?_;simp only [f0,f1,Nat.reduceAdd,lz,l0,ls];refine wpAnyH_done (by kernel_rfl) ?_ _;have K5:=hid k5;have B5:=hid (B3.out.add k5 H3.out.bW);have H5:=hid (H3.out.below k5);clear hS h5 h4 k5 k4 b4 b5 r5 BS5 BS3 CK SB CN EQ H3 B3
  cases hq:(data==can cf (adr c s j)) with
  | true =>
   have HW2:=hid (show wholeFd cf h (.slot c s j)=.slot c s j by rw [HWF.out,HS.out,hq];rfl);clear hq HS HWF;go_wp2;go_ret;rw [HW2.out];exact⟨f',HLS.out,H5.out,B5.out⟩
  | false =>
   have HW2:=hid (show wholeFd cf h (.slot c s j)=.no 5 by rw [HWF.out,HS.out,hq];rfl);clear hq HS HWF;go_wp2;rw [HW2.out];exact⟨rfl,f',.no 5,H5.out,B5.out⟩
end Go.Proofs.YtacccpkmgkojiaaGreatDoorRR
namespace Go.Proofs.YtacccpkmgkojiaaGreatDoorRR
set_option linter.unusedVariables false
set_option linter.unusedSimpArgs false
set_option maxRecDepth 20000
set_option maxHeartbeats 8000000
open Go.RowKit Go.Maps
structure Gd (d:Dy) (h:Hs) (an:Value):Prop where
 on:Tied d h
 un:d.un=.nilFunc
 an:d.an=an
def Hg (B:Nat) (y:Ly) (cf:Cf) (h:Hs) (an:Value) (W:World):Prop:=∃ d,Hp B y d cf h W∧Gd d h an
def Tk (B:Nat) (y:Ly) (cf:Cf) (h:Hs) (an:Value) (W:World):Prop:=∀ V,Below W.heap.size W V→Calls Tryz.prog 62 #[Vp y.P 0] V fun e V'=>e=.returned (.tuple #[])∧Hg B y cf h an V'∧Bi B V V'
theorem Hp.setDy {B:Nat} {y:Ly} {d:Dy} {cf:Cf} {h:Hs} {W:World} (hp:Hp B y d cf h W) (i:Nat) (v:Value) (d':Dy) (hi:(i=119∧d'={ d with an:=v })∨(i=120∧d'={ d with un:=v })):Hp B y d' cf h (W.setCell ⟨y.P,i,none⟩ v):=by
 have k:=hp.box.kyS i v;have hb:Below B W (W.setCell ⟨y.P,i,none⟩ v):=(Below.refl B W).grown (grown_set (grown_refl W y.P) _ _) hp.bW (fun r hr=>by simp at hr;have:=hp.ap.bP;omega);have bx:=hp.box.set i (by omega) v;rw [boxF_dy cf y d h.used i v d' (by rcases hi with h1|h1;exact .inr (.inr (.inl h1));exact .inr (.inr (.inr h1)))] at bx;have hM:(W.setCell ⟨y.P,i,none⟩ v).heap[y.M]?=W.heap[y.M]?:=Below.heap_setCell _ _ _ _ (fun e=>by
  obtain⟨c,h1,_⟩:=hp.box;obtain⟨D,⟨es,c2,h2,_⟩,_⟩:=hp.sp.map;rw [e,h1] at h2;cases h2)
 have hR:(W.setCell ⟨y.P,i,none⟩ v).heap[y.R]?=W.heap[y.R]?:=Below.heap_setCell _ _ _ _ (fun e=>by
  obtain⟨c,h1,_⟩:=hp.box;obtain⟨es,c2,h2⟩:=hp.mp.typ;rw [e,h1] at h2;cases h2)
 have e1:d'.f=d.f∧d'.on=d.on∧d'.lg=d.lg∧d'.ro=d.ro∧d'.rl=d.rl:=by rcases hi with ⟨_,rfl⟩|⟨_,rfl⟩ <;> exact ⟨rfl,rfl,rfl,rfl,rfl⟩
 obtain⟨e1,e2,e3,e4,e5⟩:=e1;exact⟨hp.ap,Nat.le_trans hp.bW hb.size,bx,hp.ds.belowB hb hp.ap.da,e1▸hp.sp.ky k (by decide) hM,e1▸hp.pg.ky k (by decide),e1▸hp.bf,
 fun c s hc hs=>by rw [e2];exact k.cells _ _ _ _ (hp.sl c s hc hs) (by decide),fun c s hc hs=>row_ky (hp.rw c s hc hs) k (by decide),fun c s j hc hs hj=>k.cells _ _ _ _ (hp.sm c s j hc hs hj) (by decide),
 fun c hc=>(hp.wt c hc).ky k (by decide) (by decide) (by decide),e3▸hp.mp.same hR,e3▸hp.lo,fun r hr=>by obtain ⟨g,h1,h2,h3⟩:=hp.lb r hr;exact⟨g,by rw [e3];exact h1,h2,k.cells _ _ _ _ h3 (by decide)⟩,e3▸hp.li,e4▸hp.ro.ky k (by decide),e5▸own_ky hp.rl k (by decide),by rw [e4,e5];exact hp.rr,hp.tb.belowB hb hp.ap.b0⟩
theorem neq_nilF (w:World):(binOp .neq 1 .nilFunc .nilFunc).run Tryz.prog w=.ok (.bool false) w:=by kernel_rfl
theorem neq_func (fn:Fn) (k1 k2:Array Value) (w:World):(binOp .neq 1 (.func fn k1 k2) .nilFunc).run Tryz.prog w=.ok (.bool true) w:=by kernel_rfl
theorem storeFn (w:World) (v0:Value) (g i:Nat) (fn:Fn) (k1 k2:Array Value) (hc:w.cell? ⟨g,i,none⟩=some v0) (hf:w.frozen? ⟨g,i,none⟩=false):(store ⟨g,i,none⟩ (.func fn k1 k2)).run Tryz.prog w=.ok () (w.setCell ⟨g,i,none⟩ (.func fn k1 k2)):=by
 rw [_root_.Go.run_store _ _ _ _ _ rfl,hc];simp [hf]
theorem storeNil (w:World) (v0:Value) (g i:Nat) (hc:w.cell? ⟨g,i,none⟩=some v0) (hf:w.frozen? ⟨g,i,none⟩=false):(store ⟨g,i,none⟩ .nilFunc).run Tryz.prog w=.ok () (w.setCell ⟨g,i,none⟩ .nilFunc):=by
 rw [_root_.Go.run_store _ _ _ _ _ rfl,hc];simp [hf]
theorem im_takeBack0 (P:Nat) (W:World) (c:W.cell? ⟨P,120,none⟩=some .nilFunc):Calls Tryz.prog 62 #[Vp P 0] W fun e W'=>e=.returned (.tuple #[])∧W'=W:=by
 have nq:=neq_nilF;go_enter Tryz.func62,Tryz.ntmps62;go_wp2
 go_end0
 exact⟨rfl,rfl⟩
theorem Hg.tk {B:Nat} {y:Ly} {cf:Cf} {h:Hs} {an:Value} {W:World} (hg:Hg B y cf h an W):Tk B y cf h an W:=by
 intro V hV;obtain⟨d,hp,gd⟩:=hg;have hpV:=hp.below hV;have c:=hpV.cell 120 (by omega) _ rfl;have e:boxF cf y d h.used 120=d.un:=rfl;rw [e,gd.un] at c;refine (im_takeBack0 y.P V c).mono ?_;rintro e W' ⟨rfl,rfl⟩;exact⟨rfl,⟨d,hpV,gd⟩,Bi.refl _ _⟩
theorem allBb_yes {m:Nat→Option (Bool×List Int)} {p:Nat} {v:Bool} : ∀ {c:Nat},(∀ i,i < c→(m (p+i)).isSome=v)→allBb m p v c=true
 | 0,_=>rfl
 | c+1,h=>by
  unfold allBb
  rw [allBb_yes (fun i hi=>h i (by omega)),h c (by omega)]
  simp
theorem stepM_commit {bud:Int} {m:Nat→Option (Bool×List Int)} {p c:Nat} (h1:1≤c) (h2:p+c≤283) (ho:∀ i,i < c→(m (p+i)).isSome=false):stepM 283 bud m 0 (p:Nat) (c:Nat) 0 0 []=if bud < (cntM m 283:Int)+c then (m,1,[]) else (freshM m p c,0,[]):=by
 unfold stepM;rw [if_neg (by decide),if_neg (by decide),if_neg (by decide),if_pos (by unfold okP;omega)];unfold pageM;rw [if_pos rfl,Int.toNat_natCast,Int.toNat_natCast,allBb_yes ho,if_neg (by decide)]
 split <;> rfl
theorem stepM_drop {bud:Int} {m:Nat→Option (Bool×List Int)} {p c:Nat} (h1:1≤c) (h2:p+c≤283) (ho:∀ i,i < c→(m (p+i)).isSome=true):stepM 283 bud m 1 (p:Nat) (c:Nat) 0 0 []=(goneM m p c,0,[]):=by
 unfold stepM;rw [if_neg (by decide),if_neg (by decide),if_neg (by decide),if_pos (by unfold okP;omega)];unfold pageM;rw [if_neg (by decide),Int.toNat_natCast,Int.toNat_natCast,allBb_yes ho,if_neg (by decide),if_pos rfl]
def CmR (B:Nat) (y:Ly) (d:Dy) (cf:Cf) (h:Hs) (p c:Nat) (fn:Fn) (k1 k2:Array Value) (W:World) (e:Ending) (W':World):Prop:=∃ f',Bi B W W' ∧
   ((¬((cf.bud:Int) < (cntM h.m 283:Int)+c)∧e=.returned (.tuple #[])∧Hp B y { d with f:=f',un:=.nilFunc } cf { h with m:=freshM h.m p c } W')∨((cf.bud:Int) < (cntM h.m 283:Int)+c∧e=.panicked (refV 1)∧Hp B y { d with f:=f',un:=.func fn k1 k2 } cf h W'))
theorem im_commit (B:Nat) (y:Ly) (d:Dy) (cf:Cf) (h:Hs) (p c:Nat) (fn:Fn) (k1 k2:Array Value) (W:World) (hp:Hp B y d cf h W) (hout:∀ k,283≤k→h.m k=none) (h1:1≤c) (h2:p+c≤283) (ho:∀ i,i < c→(h.m (p+i)).isSome=false) :
  Calls Tryz.prog 134 #[Vp y.P 0,opV 0 (p:Nat) (c:Nat) 0 0 none 0 0,.func fn k1 k2] W (CmR B y d cf h p c fn k1 k2 W):=by
 have hs:=stepM_commit (bud:=(cf.bud:Nat)) h1 h2 ho;obtain⟨V,hV⟩:∃ V,V=W.alloc (.cells #[Vi 0,Vi (p:Nat),Vi (c:Nat),Vu (0:Nat),Vi 0,Vn] 181):=⟨_,rfl⟩;have bV:Below W.heap.size W V:=by rw [hV];exact (Below.refl _ _).alloc (Nat.le_refl _) _
 have X:=(show V.heap[W.heap.size]?=some (.cells #[Vi 0,Vi (p:Nat),Vi (c:Nat),Vu (0:Nat),Vi 0,Vn] 181 (0,0)) by rw [hV];exact al_last W _);have HPV:=hp.below bV;have HP2:=HPV.setDy 120 (.func fn k1 k2) { d with un:=.func fn k1 k2 } (.inr ⟨rfl,rfl⟩);have BI2:=hid ((Bi.ofBelow bV hp.bW).trans (HPV.bi118 120 (.func fn k1 k2)));have c120:=HPV.cell 120 (by omega) _ rfl;have f120:V.frozen? ⟨y.P,120,none⟩=false:=HPV.box.free 120;have AK:=hid (fun U (hU:Hp B y { d with un:=.func fn k1 k2 } cf h U)=>im_ask B y { d with un:=.func fn k1 k2 } cf h 0 (p:Nat) (c:Nat) 0 0 none 0 0 [] U hU hout (by omega) (by omega) (Da.nil _ _ _ _) (Nat.le_refl _));rw [hs] at AK;have hne:W.heap.size≠y.P:=by have:=hp.box.lt;omega
 have X2:=hid (show (V.setCell ⟨y.P,120,none⟩ (.func fn k1 k2)).heap[W.heap.size]?=some (.cells #[Vi 0,Vi (p:Nat),Vi (c:Nat),Vu (0:Nat),Vi 0,Vn] 181 (0,0)) from (Below.heap_setCell _ _ _ _ hne).trans X);have H2:=hid HP2;have e120:boxF cf y d h.used 120=d.un:=rfl;rw [e120] at c120;unfold opV at AK ⊢;have NL:=hid (fun U f' m' (hU:Hp B y { d with f:=f',un:=.func fn k1 k2 } cf { h with m:=m' } U)=>And.intro (hU.setDy 120 .nilFunc { d with f:=f',un:=.nilFunc } (.inr ⟨rfl,rfl⟩)) (And.intro (hU.bi118 120 .nilFunc) (And.intro (hU.cell 120 (by omega) (.func fn k1 k2) rfl) (hU.box.free 120))));have st1:=storeFn V _ y.P 120 fn k1 k2 c120 f120;clear HP2 HPV bV X hp hs;go_enter Tryz.func134,Tryz.ntmps134;go_upto_region 1 with fail
 refine Eq.mp (congrArg _ hV) ?_;clear hV;go_upto_region 2 with fail
 generalize V.setCell ⟨y.P,120,none⟩ (.func fn k1 k2)=V2 at *;generalize W.heap.size=X at X2 ⊢;go_wp2_with (first|(refine wpList_load_row rfl 181 _ rfl _ rfl _ _ _ _ X2.out Tryz.underlying181 rfl (by kernel_rfl) ?_));refine (AK.out _ H2.out).mono ?_;clear AK c120 f120 X2 H2
 by_cases hb:(cf.bud:Int) < (cntM h.m 283:Int)+c
 ·rw [if_pos hb];rintro e U ⟨f',hpU,biU,⟨hc,_⟩|⟨_,rfl⟩⟩
  ·cases hc
  exact⟨rfl,f',BI2.out.trans biU,.inr ⟨hb,rfl,hpU⟩⟩
 rw [if_neg hb];rintro e U ⟨f',hpU,biU,⟨_,v,rfl,_⟩|⟨hc,_⟩⟩
 ·obtain⟨n1,n2,n3,n4⟩:=NL.out U f' _ hpU;have N1:=hid n1;have N2:=hid (BI2.out.trans (biU.trans n2));have st2:=storeNil U _ y.P 120 n3 n4;clear n1 n2 hpU biU NL BI2;go_wp2
  go_end0
  exact⟨f',N2.out,.inl ⟨by omega,rfl,N1.out⟩⟩
 exact absurd rfl hc
end Go.Proofs.YtacccpkmgkojiaaGreatDoorRR
