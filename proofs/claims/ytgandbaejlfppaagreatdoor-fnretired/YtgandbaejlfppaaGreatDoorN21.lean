import Derived.Test.YtgandbaejlfppaaGreatDoorN20
import Derived.Test.YtgandbaejlfppaaGreatDoorN17
import Derived.Test.YtgandbaejlfppaaGreatDoorN19
namespace Go.Proofs.YtgandbaejlfppaaGreatDoor
set_option linter.unusedVariables false
set_option linter.unusedSimpArgs false
set_option maxRecDepth 20000
set_option maxHeartbeats 8000000
open Go.RowKit Go.Maps
theorem adr_inj {c s j c' s' j':Nat} (hc:c < 12) (hs:s < 6) (hj:j < slN c) (hc':c' < 12) (hs':s' < 6) (hj':j' < slN c') (h:adr c s j=adr c' s' j'):(c,s,j)=(c',s',j'):=by
 obtain⟨k,hk,e⟩:=sA_mem hc hs hj;obtain⟨k',hk',e'⟩:=sA_mem hc' hs' hj';have e1:adA k=adr c s j:=by unfold adA;rw [e]
 have e2:adA k'=adr c' s' j':=by unfold adA;rw [e']
 rcases Nat.lt_trichotomy k k' with h1|h1|h1
 ·have:=adA_lt h1 hk';omega
 ·rw [←e,←e',h1]
 have:=adA_lt h1 hk;omega
theorem slotAt_in {p c s j:Nat} (h:slotAt p=some (c,s,j)):c < 12∧s < 6∧j < slN c∧adr c s j=p:=by
 unfold slotAt at h;have h1:=allS_in (List.mem_of_find?_eq_some h);have h2:=List.find?_some h;simp at h2;exact⟨h1.1,h1.2.1,h1.2.2,h2⟩
theorem slotAt_adr {c s j:Nat} (hc:c < 12) (hs:s < 6) (hj:j < slN c):slotAt (adr c s j)=some (c,s,j):=by
 cases e:slotAt (adr c s j) with
 | some t =>
  obtain⟨c',s',j'⟩:=t;obtain⟨h1,h2,h3,h4⟩:=slotAt_in e;rw [adr_inj h1 h2 h3 hc hs hj h4]
 | none =>
  unfold slotAt at e;have hm:(c,s,j)∈allS:=by
   unfold allS;simp only [List.mem_flatMap,List.mem_range,List.mem_map];exact⟨c,hc,s,hs,j,hj,rfl⟩
  have:=List.find?_eq_none.1 e _ hm;simp at this
theorem dec_at {p:Nat} {v:Value} (h:Dec (p:Int) v):(∃ c s j:Nat,c < 12∧s < 6∧j < slN c∧p=adr c s j∧v=pl 3 (c:Nat) (s:Nat) (j:Nat) 0 0)∨(slotAt p=none∧∃ k c s t q o:Int,v=pl k c s t q o∧(k≠3∨o≠0)):=by
 have far:∀ {c s j:Nat},slotAt p=some (c,s,j)→1024≤p∧p < 191488:=fun {c s j} e=>by
  obtain⟨h1,h2,h3,h4⟩:=slotAt_in e;have:=adr_in h1 h2 h3;omega
 have none_of:(∀ c s j,slotAt p≠some (c,s,j))→slotAt p=none:=fun h=>by
  cases e:slotAt p with
  | none=>rfl
  | some t=>obtain ⟨c,s,j⟩:=t;exact absurd e (h c s j)
 cases h with
 | out h=>exact .inr ⟨none_of (fun c s j e=>by have:=far e;omega),0,0,0,0,0,0,rfl,.inl (by decide)⟩
 | large h0 h1=>exact .inr ⟨none_of (fun c s j e=>by have:=far e;omega),4,0,0,0,_,_,rfl,.inl (by decide)⟩
 | zero h0 h1=>exact .inr ⟨none_of (fun c s j e=>by have:=far e;omega),1,0,0,0,0,0,rfl,.inl (by decide)⟩
 | slab c s h0 h1 hh =>
  obtain⟨c',rfl⟩:∃ c':Nat,c=(c':Int):=⟨c.toNat,by have:=hh.c0;omega⟩;obtain⟨s',rfl⟩:∃ s':Nat,s=(s':Int):=⟨s.toNat,by have:=hh.s0;omega⟩;have hc:c' < 12:=by have:=hh.c1;omega
  have hs:s' < 6:=by have:=hh.s1;omega
  have hz:=szN_in hc;have hlo:=hh.lo;have hhi:=hh.hi;rw [rs_c hc,pg_c hc] at hlo hhi;rw [rs_c hc,pg_c hc];have hsp:((rgN c':Nat):Int)+(s':Int)*((pgN c':Nat)+1)=(slabP c' s':Nat):=by unfold slabP;simp
  rw [hsp] at hlo hhi ⊢;obtain⟨o,ho⟩:∃ o:Nat,p=slabP c' s'*1024+o:=⟨p - slabP c' s'*1024,by omega⟩;have eo:(p:Int) - (slabP c' s':Nat)*1024=(o:Int):=by omega
  rw [eo];have one:∀ c s j,slotAt p=some (c,s,j)→c=c'∧s=s'∧o=j*szN c'∧j < slN c':=fun c s j e=>by
   obtain⟨h1,h2,h3,h4⟩:=slotAt_in e;have hA:=adr_in h1 h2 h3;have hA0:slabP c s*1024≤adr c s j:=by unfold adr;omega
   by_cases e2:c=c'∧s=s'
   ·obtain⟨rfl,rfl⟩:=e2;refine⟨rfl,rfl,?_,h3⟩;unfold adr at h4;omega
   rcases slab_apart h1 h2 hc hs e2 with h5|h5 <;> omega
  unfold plO;rw [pg_c hc,sl_c hc,sz_c hc]
  by_cases g1:((pgN c':Nat):Int)*1024≤(o:Int)
  ·rw [if_pos g1];refine .inr ⟨none_of (fun c s j e=>?_),_,_,_,_,_,_,rfl,.inl (by decide)⟩;obtain⟨rfl,rfl,e3,h3⟩:=one c s j e;have h5:(j+1)*szN c≤slN c*szN c:=Nat.mul_le_mul_right _ h3;rw [Nat.add_mul] at h5;have h6:slN c*szN c≤pgN c*1024:=hz.2.2.2.2.2.2.1;have h7:(pgN c*1024:Nat)≤o:=by omega
   omega
  rw [if_neg g1]
  by_cases g2:((slN c':Nat):Int)*((szN c':Nat):Int)≤(o:Int)
  ·rw [if_pos g2];refine .inr ⟨none_of (fun c s j e=>?_),_,_,_,_,_,_,rfl,.inl (by decide)⟩;obtain⟨rfl,rfl,e3,h3⟩:=one c s j e;have h5:(j+1)*szN c≤slN c*szN c:=Nat.mul_le_mul_right _ h3;rw [Nat.add_mul] at h5;have h7:slN c*szN c≤o:=by exact_mod_cast g2
   omega
  rw [if_neg g2];have h7:o < slN c'*szN c':=by
   have:¬(slN c'*szN c'≤o):=fun h=>g2 (by exact_mod_cast h)
   omega
  have hdv:((o:Int)/((szN c':Nat):Int))=((o/szN c':Nat):Int):=by simp
  have hmd:((o:Int) % ((szN c':Nat):Int))=((o % szN c':Nat):Int):=by simp
  rw [hdv,hmd]
  by_cases g3:o % szN c'=0
  ·have hj:o/szN c' < slN c':=(Nat.div_lt_iff_lt_mul (by omega)).2 h7;refine .inl ⟨c',s',o/szN c',hc,hs,hj,?_,by rw [g3];rfl⟩;unfold adr;have:=Nat.div_add_mod o (szN c');rw [g3,Nat.mul_comm] at this;omega
  refine .inr ⟨none_of (fun c s j e=>?_),_,_,_,_,_,_,rfl,.inr (by omega)⟩;obtain⟨rfl,rfl,e3,h3⟩:=one c s j e;exact g3 (by rw [e3];exact Nat.mul_mod_left _ _)
/-! the map of ranges -/
theorem keyed22:Keyed Tryz.prog 23:=int_keyed Tryz.underlying23
theorem zero196 (w:World):(zeroValue 145).run Tryz.prog w=.ok (.pointer none) w:=by kernel_rfl
theorem key22 (k:Nat) (h:k < 18446744073709551616):keyOf Tryz.prog 23 (.int .u64 k)=some (.int .u64 k):=keyOf_int_mk Tryz.underlying23 (WalkArith.wf_u64 ⟨by omega,by omega⟩)
theorem Mr.look {R n:Nat} {lo:Nat→Option Nat} {W:World} (h:Mr R n lo W) (k:Nat) (hk:k < 18446744073709551616) :
  (Instr.lookup 71 (.map (some R)) (.int .u64 k) false).run Tryz.prog W=.ok (.pointer ((lo k).map fun b=>⟨b,0,none⟩)) W:=by
 obtain⟨D,hown,_,hat,_⟩:=h.map;obtain⟨v,ps,hrun,hv⟩:=hown.lookup keyed22 Tryz.underlying71 (zero196 W) (show ptrE (.pointer none)=some (.nil,[]) from rfl) (key22 k hk);rw [hat k hk] at hv;rw [hrun]
 rcases ptrE_inv hv with ⟨b,rfl,h1⟩|⟨rfl,h1⟩
 ·cases hf:lo k with
  | none=>rw [hf] at h1;simp [asD] at h1
  | some b' =>
   rw [hf] at h1;simp [asD] at h1;have:b'=b:=by omega
   subst this;rfl
 cases hf:lo k with
 | none=>rfl
 | some b'=>rw [hf] at h1;simp [asD] at h1
theorem key_neU {j k:Nat} (h:j≠k):(Lit.int .u64 (j:Int))≠.int .u64 (k:Int):=by
 intro e;injection e with _ e
 omega
theorem tightU {W:World} {b n:Nat} {D:DataW Unit} {R:Value→Option (DataW Unit×List MemPlace)} (h:W.ownsMap Tryz.prog 23 R b n D) {n':Nat} (hn:Maps.size D≤n'):W.ownsMap Tryz.prog 23 R b n' D:=by
 obtain⟨es,clock,hb,F,hs,rfl⟩:=h;exact⟨es,clock,hb,F,by simpa [Maps.size,length_sorted] using hn,rfl⟩
theorem Mr.del {R n:Nat} {lo:Nat→Option Nat} {W:World} (h:Mr R n lo W) (k:Nat) (hk:k < 18446744073709551616) (ty:TypeId) :
  ∃ W',(Builtin.delete_ #[71,23] ty #[.map (some R),.int .u64 k]).run Tryz.prog W=.ok (.tuple #[]) W'∧Mr R (if (lo k).isSome then n - 1 else n) (upd lo k none) W'∧W.mapTurned W' R:=by
 obtain⟨D,hown,hsz,hat,hhas⟩:=h.map;obtain⟨W',hrun,hown',ht⟩:=hown.drop keyed22 Tryz.underlying71 (key22 k hk) ty;refine⟨W',hrun,⟨D.del (.int .u64 k),hown',?_,?_,?_⟩,ht⟩
 ·have e1:=Maps.size_del (k:=.int .u64 k) (hown.tidy keyed22);rw [hhas k hk] at e1
  cases hf:lo k <;> rw [hf] at e1 <;> simp at e1 ⊢<;> omega
 ·intro j hj
  by_cases e:j=k
  ·subst e;rw [Maps.atKey_del_same,upd_same];rfl
  rw [Maps.atKey_del_other (key_neU e),upd_other lo k j _ e];exact hat j hj
 intro j hj
 by_cases e:j=k
 ·subst e;rw [Maps.has_del_same,upd_same];rfl
 rw [Maps.has_del_other (key_neU e),upd_other lo k j _ e];exact hhas j hj
theorem Mr.put {R n:Nat} {lo:Nat→Option Nat} {W:World} (h:Mr R n lo W) (k b:Nat) (hk:k < 18446744073709551616) (hf:lo k=none) (hn:n < 4096) :
  ∃ W',(Instr.mapUpdate 71 (.map (some R)) (.int .u64 k) (.pointer (some ⟨b,0,none⟩))).run Tryz.prog W=.ok () W'∧Mr R (n+1) (upd lo k (some b)) W'∧W.mapTurned W' R:=by
 obtain⟨D,hown,hsz,hat,hhas⟩:=h.map;obtain⟨W',hrun,hown',ht⟩:=hown.store keyed22 Tryz.underlying71 (by decide) (key22 k hk) (ptrE_some b);have hlit:WideAt.IsKeyLit (.int .u64 (k:Int)):=by simp [WideAt.IsKeyLit]
 have e0:Maps.size (D.put (.int .u64 k) (.lit (.int .i64 b)))≤n+1:=by
  have e1:=Maps.size_put (k:=.int .u64 k) (hown.tidy keyed22) (.lit (.int .i64 b));rw [hhas k hk,hf] at e1;simp at e1;omega
 refine⟨W',hrun,⟨_,tightU hown' (by omega),e0,?_,?_⟩,ht⟩
 ·intro j hj
  by_cases e:j=k
  ·subst e;rw [Maps.atKey_put_same hown.isMap hlit,upd_same];rfl
  rw [Maps.atKey_put_other (key_neU e),upd_other lo k j _ e];exact hat j hj
 intro j hj
 by_cases e:j=k
 ·subst e;rw [Maps.has_put_same hown.isMap hlit,upd_same];rfl
 rw [Maps.has_put_other (key_neU e),upd_other lo k j _ e];exact hhas j hj
/-! methods by way of an interface -/
theorem meth_ks (g : Nat) (w : World) : (method 660 133 (.pointer (some ⟨g, 0, none⟩)) "loop.example/s01868/impl.kept").run Tryz.prog w = .ok (213, .pointer (some ⟨g, 0, none⟩)) w := by kernel_rfl
theorem meth_kl (g : Nat) (w : World) : (method 660 145 (.pointer (some ⟨g, 0, none⟩)) "loop.example/s01868/impl.kept").run Tryz.prog w = .ok (213, .pointer (some ⟨g, 0, none⟩)) w := by kernel_rfl
end Go.Proofs.YtgandbaejlfppaaGreatDoor
namespace Go.Proofs.YtgandbaejlfppaaGreatDoor
set_option linter.unusedVariables false
set_option linter.unusedSimpArgs false
set_option maxRecDepth 20000
set_option maxHeartbeats 8000000
open Go.RowKit Go.Maps
def atV (y:Ly) (d:Dy) (p:Nat):Value :=
 match d.lg p with
 | some g=>.iface 145 (Vp g 0)
 | none=>match slotAt p with
  | some (c,s,j)=>.iface 133 (Vp (y.sm c s j) 0)
  | none=>.nilIface
theorem box_slab (cf:Cf) (y:Ly) (d:Dy) (u c s:Nat) (hc:c < 12) (hs:s < 6):boxF cf y d u (7+c*6+s)=Vp (y.sb c s) 0:=by
 unfold boxF;rw [if_neg (by omega),if_pos (by omega)];have e1:(7+c*6+s - 7)/6=c:=by omega
 have e2:(7+c*6+s - 7) % 6=s:=by omega
 rw [e1,e2]
theorem Hp.slabAt {B:Nat} {y:Ly} {d:Dy} {cf:Cf} {h:Hs} {W:World} (hp:Hp B y d cf h W) (c s:Nat) (hc:c < 12) (hs:s < 6):W.cell? ⟨y.P,7+c*6+s,none⟩=some (Vp (y.sb c s) 0):=hp.cell _ (by omega) _ (box_slab cf y d h.used c s hc hs)
theorem Hp.bc {B:Nat} {y:Ly} {d:Dy} {cf:Cf} {h:Hs} {W:World} (hp:Hp B y d cf h W) (c s:Nat) (hc:c < 12) (hs:s < 6):Bc (y.sb c s) (y.sr c s) c s (slN c) (y.sc c s) (d.on c s) W:=by
 have hb:=hp.sl c s hc hs;exact⟨by rw [cell_of_row _ _ _ _ _ _ hb];rfl,by rw [cell_of_row _ _ _ _ _ _ hb];rfl,by rw [cell_of_row _ _ _ _ _ _ hb];rfl,by rw [cell_of_row _ _ _ _ _ _ hb];rfl⟩
theorem Hp.rowAt {B:Nat} {y:Ly} {d:Dy} {cf:Cf} {h:Hs} {W:World} (hp:Hp B y d cf h W) (c s j:Nat) (hc:c < 12) (hs:s < 6) (hj:j < slN c):W.cell? ⟨y.sr c s,j,none⟩=some (Vp (y.sm c s j) 0):=by
 rw [(hp.rw c s hc hs).cell j (by simpa using hj)];simp [hj]
theorem Hp.smAt {B:Nat} {y:Ly} {d:Dy} {cf:Cf} {h:Hs} {W:World} (hp:Hp B y d cf h W) (c s j:Nat) (hc:c < 12) (hs:s < 6) (hj:j < slN c):W.cell? ⟨y.sm c s j,0,none⟩=some (Vi (h.st c s j))∧W.cell? ⟨y.sm c s j,1,none⟩=some (Vi (h.rq c s j)):=by
 have hb:=hp.sm c s j hc hs hj;exact⟨by rw [cell_of_row _ _ _ _ _ _ hb];rfl,by rw [cell_of_row _ _ _ _ _ _ hb];rfl⟩
theorem Hp.scAt {B:Nat} {y:Ly} {d:Dy} {cf:Cf} {h:Hs} {W:World} (hp:Hp B y d cf h W) (c s j:Nat) (hc:c < 12) (hs:s < 6) (hj:j < slN c):Sc (y.sm c s j) (y.sb c s) c s j W:=by
 have hb:=hp.sm c s j hc hs hj;have bc:=hp.bc c s hc hs;exact⟨by rw [cell_of_row _ _ _ _ _ _ hb];rfl,by rw [cell_of_row _ _ _ _ _ _ hb];rfl,bc.d0,bc.d1,hp.tb,hc,hs,hj⟩
theorem im_at (B:Nat) (y:Ly) (d:Dy) (cf:Cf) (h:Hs) (p:Nat) (W:World) (hp:Hp B y d cf h W) (hpp:p < 18446744073709551616) :
  Calls Tryz.prog 74 #[Vp y.P 0,Vu (p:Nat)] W fun e W'=>e=.returned (atV y d p)∧Below W.heap.size W W':=by
 have c115:W.cell? ⟨y.P,115,none⟩=some (.map (some y.R)):=hp.cell 115 (by omega) _ rfl;have LK:=hp.mp.look p hpp
 cases hl:d.lg p with
 | some g =>
  have HE:=hid (show atV y d p=.iface 145 (Vp g 0) by unfold atV;rw [hl]);rw [hl] at LK;simp only [Option.map_some] at LK;clear hp hl;go_enter Tryz.func74,Tryz.ntmps74;go_wp2;go_ret;rw [HE.out];exact⟨rfl,Below.refl _ _⟩
 | none =>
  rw [hl] at LK;simp only [Option.map_none] at LK;have DC:=hid (im_Decode (p:Nat) (by omega) (by omega) W hp.tb);have HPB:=hid (fun V (hV:Below W.heap.size W V)=>hp.below hV);have HA:=hid (show atV y d p=match slotAt p with
    | some (c,s,j)=>.iface 133 (Vp (y.sm c s j) 0)
    | none=>.nilIface by unfold atV;rw [hl])
  clear hp hl;go_enter Tryz.func74,Tryz.ntmps74;go_wp2_with fail;refine (DC.out).mono ?_;rintro e V ⟨⟨v,hdec,rfl⟩,bV⟩;have BV:=hid bV;have XB:∀ {U:World},Below V.heap.size V U→Below W.heap.size W U:=fun hU=>bV.trans (hU.mono bV.size)
  clear bV DC LK c115
  rcases dec_at hdec with ⟨c,s,j,hc,hs,hj,rfl,rfl⟩|⟨hno,k,c,s,t,q,o,rfl,hko⟩
  ·rw [slotAt_adr hc hs hj] at HA;dsimp only at HA;unfold pl;go_upto_region 5 with fail
   have XU:=al_last V (.cells #[Vi 3,Vi (c:Nat),Vi (s:Nat),Vi (j:Nat),Vi 0,Vi 0] 50);have bU:Below V.heap.size V (V.alloc (.cells #[Vi 3,Vi (c:Nat),Vi (s:Nat),Vi (j:Nat),Vi 0,Vi 0] 50)):=(Below.refl _ _).alloc (Nat.le_refl _) _;generalize V.alloc _=U at *;generalize V.heap.size=X at *;have z0:U.cell? ⟨X,0,none⟩=some (Vi 3):=by rw [cell_of_row _ _ _ _ _ _ XU];rfl
   have z1:U.cell? ⟨X,1,none⟩=some (Vi (c:Nat)):=by rw [cell_of_row _ _ _ _ _ _ XU];rfl
   have z2:U.cell? ⟨X,2,none⟩=some (Vi (s:Nat)):=by rw [cell_of_row _ _ _ _ _ _ XU];rfl
   have z3:U.cell? ⟨X,3,none⟩=some (Vi (j:Nat)):=by rw [cell_of_row _ _ _ _ _ _ XU];rfl
   have z5:U.cell? ⟨X,5,none⟩=some (Vi 0):=by rw [cell_of_row _ _ _ _ _ _ XU];rfl
   have BU:=hid (show Below W.heap.size W U from XB bU);have HU:=HPB.out U BU.out;have q1:=HU.slabAt c s hc hs;have q2:=(HU.bc c s hc hs).d3;have q3:=HU.rowAt c s j hc hs hj;have hj64:=(szN_in hc).2.2.2.2.2.1;clear HU XU bU BV hdec;generalize y.sm c s j=gm at *;generalize y.sr c s=gr at *;generalize y.sb c s=gb at *;generalize y.sc c s=gc at *;generalize slN c=nn at *;go_upto_region 7 with fail
   refine wp_region_held (S:=fun W9=>W9.cell? ⟨X,1,none⟩=some (Vi (c:Nat))∧W9.cell? ⟨X,2,none⟩=some (Vi (s:Nat))∧W9.cell? ⟨X,3,none⟩=some (Vi (j:Nat))∧W9.cell? ⟨y.P,7+c*6+s,none⟩=some (Vp gb 0)∧W9.cell? ⟨gb,3,none⟩=some (Vl gr nn gc)∧W9.cell? ⟨gr,j,none⟩=some (Vp gm 0)) (by kernel_rfl) ?_;simp only [List.size_toArray,List.length_cons,List.length_nil,Nat.reduceAdd,Array.replicate_succ,Array.replicate_zero,List.push_toArray,List.nil_append,List.cons_append];have hS:=And.intro (show U.drew.cell? _=_ from z1) (And.intro (show U.drew.cell? _=_ from z2) (And.intro (show U.drew.cell? _=_ from z3) (And.intro (show U.drew.cell? _=_ from q1) (And.intro (show U.drew.cell? _=_ from q2) (show U.drew.cell? _=_ from q3)))));refine pk 0 27 (Vp y.P 0) hS ?_;simp only [lz,l0,ls];refine pk 1 28 (Vp X 1) hS ?_;simp only [lz,l0,ls];refine pz 2 29 (Vi (c:Nat)) hS ?_;simp only [lz,l0,ls];refine pk 3 30 (Vp X 2) hS ?_;simp only [lz,l0,ls];refine pz 4 31 (Vi (s:Nat)) hS ?_;simp only [lz,l0,ls];refine pk 5 32 (Vp y.P 0) hS ?_;simp only [lz,l0,ls];refine pk 6 33 (Vp y.P 7) hS ?_;simp only [lz,l0,ls];refine pz 7 34 (Vp y.P (7+c*6)) hS ?_;simp only [lz,l0,ls];refine pz 8 35 (Vp y.P (7+c*6+s)) hS ?_;simp only [lz,l0,ls];refine pz 9 36 (Vp gb 0) hS ?_;simp only [lz,l0,ls];refine pk 10 37 (Vp gb 0) hS ?_;simp only [lz,l0,ls];refine pk 11 38 (Vp gb 3) hS ?_;simp only [lz,l0,ls];refine pz 12 39 (Vl gr nn gc) hS ?_;simp only [lz,l0,ls];refine pk 13 40 (Vp X 3) hS ?_;simp only [lz,l0,ls];refine pz 14 41 (Vi (j:Nat)) hS ?_;simp only [lz,l0,ls];refine pz 15 42 (Vp gr j) hS ?_;simp only [lz,l0,ls];refine pz 16 43 (Vp gm 0) hS ?_;simp only [lz,l0,ls];refine pz 17 44 (.iface 133 (Vp gm 0)) hS ?_;simp only [lz,l0,ls];refine pk 18 4 (.iface 133 (Vp gm 0)) hS ?_;simp only [lz,l0,ls];refine wpAnyH_done (by kernel_rfl) ?_ _;clear hS;go_wp2;go_ret;rw [HA.out];exact⟨rfl,BU.out.drew⟩
  rw [hno] at HA;dsimp only at HA;unfold pl;go_upto_region 5 with fail
  have XU:=al_last V (.cells #[Vi k,Vi c,Vi s,Vi t,Vi q,Vi o] 50);have bU:Below V.heap.size V (V.alloc (.cells #[Vi k,Vi c,Vi s,Vi t,Vi q,Vi o] 50)):=(Below.refl _ _).alloc (Nat.le_refl _) _;generalize V.alloc _=U at *;generalize V.heap.size=X at *;have z0:U.cell? ⟨X,0,none⟩=some (Vi k):=by rw [cell_of_row _ _ _ _ _ _ XU];rfl
  have z5:U.cell? ⟨X,5,none⟩=some (Vi o):=by rw [cell_of_row _ _ _ _ _ _ XU];rfl
  have BU:=hid (show Below W.heap.size W U from XB bU);clear XU bU BV hdec
  by_cases hk3:k=3
  ·have ho:(o != 0)=true:=by rcases hko with h1|h1;exact absurd hk3 h1;simpa using h1
   subst hk3;clear hko;go_wp2;go_ret;rw [HA.out];exact⟨rfl,BU.out⟩
  have hk':(k != 3)=true:=by simpa using hk3
  clear hko hk3;go_wp2;go_ret;rw [HA.out];exact⟨rfl,BU.out⟩
end Go.Proofs.YtgandbaejlfppaaGreatDoor
namespace Go.Proofs.YtgandbaejlfppaaGreatDoor
set_option linter.unusedVariables false
set_option linter.unusedSimpArgs false
set_option maxRecDepth 20000
set_option maxHeartbeats 8000000
open Go.RowKit Go.Maps
structure Gd (d:Dy) (h:Hs) (an:Value):Prop where
 on:Tied d h
 un:d.un=.nilFunc
 an:d.an=an
def Hg (B:Nat) (y:Ly) (cf:Cf) (h:Hs) (an:Value) (W:World):Prop:=∃ d,Hp B y d cf h W∧Gd d h an
def Tk (B:Nat) (y:Ly) (cf:Cf) (h:Hs) (an:Value) (W:World):Prop:=∀ V,Below W.heap.size W V→Calls Tryz.prog 31 #[Vp y.P 0] V fun e V'=>e=.returned (.tuple #[])∧Hg B y cf h an V'∧Bi B V V'
theorem Hp.setDy {B:Nat} {y:Ly} {d:Dy} {cf:Cf} {h:Hs} {W:World} (hp:Hp B y d cf h W) (i:Nat) (v:Value) (d':Dy) (hi:(i=119∧d'={ d with an:=v })∨(i=120∧d'={ d with un:=v })):Hp B y d' cf h (W.setCell ⟨y.P,i,none⟩ v):=by
 have k:=hp.box.kyS i v;have hb:Below B W (W.setCell ⟨y.P,i,none⟩ v):=(Below.refl B W).grown (grown_set (grown_refl W y.P) _ _) hp.bW (fun r hr=>by simp at hr;have:=hp.ap.bP;omega);have bx:=hp.box.set i (by omega) v;rw [boxF_dy cf y d h.used i v d' (by rcases hi with h1|h1;exact .inr (.inr (.inl h1));exact .inr (.inr (.inr h1)))] at bx;have hM:(W.setCell ⟨y.P,i,none⟩ v).heap[y.M]?=W.heap[y.M]?:=Below.heap_setCell _ _ _ _ (fun e=>by
  obtain⟨c,h1,_⟩:=hp.box;obtain⟨D,⟨es,c2,h2,_⟩,_⟩:=hp.sp.map;rw [e,h1] at h2;cases h2)
 have hR:(W.setCell ⟨y.P,i,none⟩ v).heap[y.R]?=W.heap[y.R]?:=Below.heap_setCell _ _ _ _ (fun e=>by
  obtain⟨c,h1,_⟩:=hp.box;obtain⟨es,c2,h2⟩:=hp.mp.typ;rw [e,h1] at h2;cases h2)
 have e1:d'.f=d.f∧d'.on=d.on∧d'.lg=d.lg∧d'.ro=d.ro∧d'.rl=d.rl:=by rcases hi with ⟨_,rfl⟩|⟨_,rfl⟩ <;> exact ⟨rfl,rfl,rfl,rfl,rfl⟩
 obtain⟨e1,e2,e3,e4,e5⟩:=e1;exact⟨hp.ap,Nat.le_trans hp.bW hb.size,bx,hp.ds.belowB hb hp.ap.da,e1▸hp.sp.ky k (by decide) hM,e1▸hp.pg.ky k (by decide),e1▸hp.bf,
 fun c s hc hs=>by rw [e2];exact k.cells _ _ _ _ (hp.sl c s hc hs) (by decide),fun c s hc hs=>row_ky (hp.rw c s hc hs) k (by decide),fun c s j hc hs hj=>k.cells _ _ _ _ (hp.sm c s j hc hs hj) (by decide),
 fun c hc=>(hp.wt c hc).ky k (by decide) (by decide) (by decide),e3▸hp.mp.same hR,e3▸hp.lo,fun r hr=>by obtain ⟨g,h1,h2,h3⟩:=hp.lb r hr;exact⟨g,by rw [e3];exact h1,h2,k.cells _ _ _ _ h3 (by decide)⟩,e3▸hp.li,e4▸hp.ro.ky k (by decide),e5▸own_ky hp.rl k (by decide),by rw [e4,e5];exact hp.rr,hp.tb.belowB hb hp.ap.b0⟩
theorem neq_nilF (w:World):(binOp .neq 1 .nilFunc .nilFunc).run Tryz.prog w=.ok (.bool false) w:=by kernel_rfl
theorem neq_func (fn:Fn) (k1 k2:Array Value) (w:World):(binOp .neq 1 (.func fn k1 k2) .nilFunc).run Tryz.prog w=.ok (.bool true) w:=by kernel_rfl
theorem storeFn (w:World) (v0:Value) (g i:Nat) (fn:Fn) (k1 k2:Array Value) (hc:w.cell? ⟨g,i,none⟩=some v0) (hf:w.frozen? ⟨g,i,none⟩=false):(store ⟨g,i,none⟩ (.func fn k1 k2)).run Tryz.prog w=.ok () (w.setCell ⟨g,i,none⟩ (.func fn k1 k2)):=by
 rw [_root_.Go.run_store _ _ _ _ _ rfl,hc];simp [hf]
theorem storeNil (w:World) (v0:Value) (g i:Nat) (hc:w.cell? ⟨g,i,none⟩=some v0) (hf:w.frozen? ⟨g,i,none⟩=false):(store ⟨g,i,none⟩ .nilFunc).run Tryz.prog w=.ok () (w.setCell ⟨g,i,none⟩ .nilFunc):=by
 rw [_root_.Go.run_store _ _ _ _ _ rfl,hc];simp [hf]
theorem im_takeBack0 (P:Nat) (W:World) (c:W.cell? ⟨P,120,none⟩=some .nilFunc):Calls Tryz.prog 31 #[Vp P 0] W fun e W'=>e=.returned (.tuple #[])∧W'=W:=by
 have nq:=neq_nilF;go_enter Tryz.func31,Tryz.ntmps31;go_wp2
 go_end0
 exact⟨rfl,rfl⟩
theorem Hg.tk {B:Nat} {y:Ly} {cf:Cf} {h:Hs} {an:Value} {W:World} (hg:Hg B y cf h an W):Tk B y cf h an W:=by
 intro V hV;obtain⟨d,hp,gd⟩:=hg;have hpV:=hp.below hV;have c:=hpV.cell 120 (by omega) _ rfl;have e:boxF cf y d h.used 120=d.un:=rfl;rw [e,gd.un] at c;refine (im_takeBack0 y.P V c).mono ?_;rintro e W' ⟨rfl,rfl⟩;exact⟨rfl,⟨d,hpV,gd⟩,Bi.refl _ _⟩
theorem allBb_yes {m:Nat→Option (Bool×List Int)} {p:Nat} {v:Bool} : ∀ {c:Nat},(∀ i,i < c→(m (p+i)).isSome=v)→allBb m p v c=true
 | 0,_=>rfl
 | c+1,h=>by
  unfold allBb
  rw [allBb_yes (fun i hi=>h i (by omega)),h c (by omega)]
  simp
theorem stepM_commit {bud:Int} {m:Nat→Option (Bool×List Int)} {p c:Nat} (h1:1≤c) (h2:p+c≤283) (ho:∀ i,i < c→(m (p+i)).isSome=false):stepM 283 bud m 0 (p:Nat) (c:Nat) 0 0 []=if bud < (cntM m 283:Int)+c then (m,1,[]) else (freshM m p c,0,[]):=by
 unfold stepM;rw [if_neg (by decide),if_neg (by decide),if_neg (by decide),if_pos (by unfold okP;omega)];unfold pageM;rw [if_pos rfl,Int.toNat_natCast,Int.toNat_natCast,allBb_yes ho,if_neg (by decide)]
 split <;> rfl
theorem stepM_drop {bud:Int} {m:Nat→Option (Bool×List Int)} {p c:Nat} (h1:1≤c) (h2:p+c≤283) (ho:∀ i,i < c→(m (p+i)).isSome=true):stepM 283 bud m 1 (p:Nat) (c:Nat) 0 0 []=(goneM m p c,0,[]):=by
 unfold stepM;rw [if_neg (by decide),if_neg (by decide),if_neg (by decide),if_pos (by unfold okP;omega)];unfold pageM;rw [if_neg (by decide),Int.toNat_natCast,Int.toNat_natCast,allBb_yes ho,if_neg (by decide),if_pos rfl]
def CmR (B:Nat) (y:Ly) (d:Dy) (cf:Cf) (h:Hs) (p c:Nat) (fn:Fn) (k1 k2:Array Value) (W:World) (e:Ending) (W':World):Prop:=∃ f',Bi B W W' ∧
   ((¬((cf.bud:Int) < (cntM h.m 283:Int)+c)∧e=.returned (.tuple #[])∧Hp B y { d with f:=f',un:=.nilFunc } cf { h with m:=freshM h.m p c } W')∨((cf.bud:Int) < (cntM h.m 283:Int)+c∧e=.panicked (refV 1)∧Hp B y { d with f:=f',un:=.func fn k1 k2 } cf h W'))
theorem im_commit (B:Nat) (y:Ly) (d:Dy) (cf:Cf) (h:Hs) (p c:Nat) (fn:Fn) (k1 k2:Array Value) (W:World) (hp:Hp B y d cf h W) (hout:∀ k,283≤k→h.m k=none) (h1:1≤c) (h2:p+c≤283) (ho:∀ i,i < c→(h.m (p+i)).isSome=false) :
  Calls Tryz.prog 100 #[Vp y.P 0,opV 0 (p:Nat) (c:Nat) 0 0 none 0 0,.func fn k1 k2] W (CmR B y d cf h p c fn k1 k2 W):=by
 have hs:=stepM_commit (bud:=(cf.bud:Nat)) h1 h2 ho;obtain⟨V,hV⟩:∃ V,V=W.alloc (.cells #[Vi 0,Vi (p:Nat),Vi (c:Nat),Vu (0:Nat),Vi 0,Vn] 151):=⟨_,rfl⟩;have bV:Below W.heap.size W V:=by rw [hV];exact (Below.refl _ _).alloc (Nat.le_refl _) _
 have X:=(show V.heap[W.heap.size]?=some (.cells #[Vi 0,Vi (p:Nat),Vi (c:Nat),Vu (0:Nat),Vi 0,Vn] 151 (0,0)) by rw [hV];exact al_last W _);have HPV:=hp.below bV;have HP2:=HPV.setDy 120 (.func fn k1 k2) { d with un:=.func fn k1 k2 } (.inr ⟨rfl,rfl⟩);have BI2:=hid ((Bi.ofBelow bV hp.bW).trans (HPV.bi118 120 (.func fn k1 k2)));have c120:=HPV.cell 120 (by omega) _ rfl;have f120:V.frozen? ⟨y.P,120,none⟩=false:=HPV.box.free 120;have AK:=hid (fun U (hU:Hp B y { d with un:=.func fn k1 k2 } cf h U)=>im_ask B y { d with un:=.func fn k1 k2 } cf h 0 (p:Nat) (c:Nat) 0 0 none 0 0 [] U hU hout (by omega) (by omega) (Da.nil _ _ _ _) (Nat.le_refl _));rw [hs] at AK;have hne:W.heap.size≠y.P:=by have:=hp.box.lt;omega
 have X2:=hid (show (V.setCell ⟨y.P,120,none⟩ (.func fn k1 k2)).heap[W.heap.size]?=some (.cells #[Vi 0,Vi (p:Nat),Vi (c:Nat),Vu (0:Nat),Vi 0,Vn] 151 (0,0)) from (Below.heap_setCell _ _ _ _ hne).trans X);have H2:=hid HP2;have e120:boxF cf y d h.used 120=d.un:=rfl;rw [e120] at c120;unfold opV at AK ⊢;have NL:=hid (fun U f' m' (hU:Hp B y { d with f:=f',un:=.func fn k1 k2 } cf { h with m:=m' } U)=>And.intro (hU.setDy 120 .nilFunc { d with f:=f',un:=.nilFunc } (.inr ⟨rfl,rfl⟩)) (And.intro (hU.bi118 120 .nilFunc) (And.intro (hU.cell 120 (by omega) (.func fn k1 k2) rfl) (hU.box.free 120))));have st1:=storeFn V _ y.P 120 fn k1 k2 c120 f120;clear HP2 HPV bV X hp hs;go_enter Tryz.func100,Tryz.ntmps100;go_upto_region 1 with fail
 refine Eq.mp (congrArg _ hV) ?_;clear hV;go_upto_region 2 with fail
 generalize V.setCell ⟨y.P,120,none⟩ (.func fn k1 k2)=V2 at *;generalize W.heap.size=X at X2 ⊢;go_wp2_with (first|(refine wpList_load_row rfl 151 _ rfl _ rfl _ _ _ _ X2.out Tryz.underlying151 rfl (by kernel_rfl) ?_));refine (AK.out _ H2.out).mono ?_;clear AK c120 f120 X2 H2
 by_cases hb:(cf.bud:Int) < (cntM h.m 283:Int)+c
 ·rw [if_pos hb];rintro e U ⟨f',hpU,biU,⟨hc,_⟩|⟨_,rfl⟩⟩
  ·cases hc
  exact⟨rfl,f',BI2.out.trans biU,.inr ⟨hb,rfl,hpU⟩⟩
 rw [if_neg hb];rintro e U ⟨f',hpU,biU,⟨_,v,rfl,_⟩|⟨hc,_⟩⟩
 ·obtain⟨n1,n2,n3,n4⟩:=NL.out U f' _ hpU;have N1:=hid n1;have N2:=hid (BI2.out.trans (biU.trans n2));have st2:=storeNil U _ y.P 120 n3 n4;clear n1 n2 hpU biU NL BI2;go_wp2
  go_end0
  exact⟨f',N2.out,.inl ⟨by omega,rfl,N1.out⟩⟩
 exact absurd rfl hc
end Go.Proofs.YtgandbaejlfppaaGreatDoor
namespace Go.Proofs.YtgandbaejlfppaaGreatDoor
set_option linter.unusedVariables false
set_option linter.unusedSimpArgs false
set_option maxRecDepth 20000
set_option maxHeartbeats 8000000
open Go.RowKit Go.Maps
def updB (f:Nat→Nat→Bool) (c s:Nat) (v:Bool):Nat→Nat→Bool:=fun c' s'=>if c'=c∧s'=s then v else f c' s'
theorem Hp.setOn {B:Nat} {y:Ly} {d:Dy} {cf:Cf} {h:Hs} {W:World} (hp:Hp B y d cf h W) {c s:Nat} (hc:c < 12) (hs:s < 6) (v:Bool):Hp B y { d with on:=updB d.on c s v } cf h (W.setCell ⟨y.sb c s,2,none⟩ (.bool v))∧Bi B W (W.setCell ⟨y.sb c s,2,none⟩ (.bool v)):=by
 have hb:=hp.sl c s hc hs;have g:=grown_set (grown_refl W (y.sb c s)) 2 (.bool v);have k:Ky (· = 132) W (W.setCell ⟨y.sb c s,2,none⟩ (.bool v)):=Ky.grown hb rfl g;have bl:Below B W (W.setCell ⟨y.sb c s,2,none⟩ (.bool v)):=(Below.refl B W).grown g hp.bW (fun r hr=>by simp at hr;have:=hp.ap.bsb c s hc hs;omega);have hM:(W.setCell ⟨y.sb c s,2,none⟩ (.bool v)).heap[y.M]?=W.heap[y.M]?:=Below.heap_setCell _ _ _ _ (fun e=>by
  obtain⟨D,⟨es,c2,h2,_⟩,_⟩:=hp.sp.map;rw [e,hb] at h2;cases h2)
 have hR:(W.setCell ⟨y.sb c s,2,none⟩ (.bool v)).heap[y.R]?=W.heap[y.R]?:=Below.heap_setCell _ _ _ _ (fun e=>by
  obtain⟨es,c2,h2⟩:=hp.mp.typ;rw [e,hb] at h2;cases h2)
 refine⟨⟨hp.ap,Nat.le_trans hp.bW bl.size,hp.box.ky k (by decide),hp.ds.belowB bl hp.ap.da,hp.sp.ky k (by decide) hM,hp.pg.ky k (by decide),hp.bf,
 fun c' s' hc' hs'=>?_,fun c s hc hs=>row_ky (hp.rw c s hc hs) k (by decide),fun c s j hc hs hj=>k.cells _ _ _ _ (hp.sm c s j hc hs hj) (by decide),
 fun c hc=>(hp.wt c hc).ky k (by decide) (by decide) (by decide),hp.mp.same hR,hp.lo,fun r hr=>by obtain ⟨g,h1,h2,h3⟩:=hp.lb r hr;exact⟨g,h1,h2,k.cells _ _ _ _ h3 (by decide)⟩,hp.li,hp.ro.ky k (by decide),own_ky hp.rl k (by decide),hp.rr,hp.tb.belowB bl hp.ap.b0⟩,Bi.ofGrown hb (.inr (.inr (.inr (.inl rfl)))) (hp.ap.bsb c s hc hs) hp.bW g⟩
 by_cases e:c'=c∧s'=s
 ·obtain⟨rfl,rfl⟩:=e;show (W.setCell ⟨y.sb c' s',2,none⟩ (.bool v)).heap[y.sb c' s']?=some (.cells (sbC c' s' (updB d.on c' s' v c' s') _ _ _) 132 (0,0));have:updB d.on c' s' v c' s'=v:=by unfold updB;rw [if_pos ⟨rfl,rfl⟩]
  rw [this];have h2:=hp.sl c' s' hc' hs';simp [World.setCell,Array.getElem?_modify,h2,sbC]
 show (W.setCell ⟨y.sb c s,2,none⟩ (.bool v)).heap[y.sb c' s']?=some (.cells (sbC c' s' (updB d.on c s v c' s') _ _ _) 132 (0,0));have:updB d.on c s v c' s'=d.on c' s':=by unfold updB;rw [if_neg e]
 rw [this,Below.heap_setCell _ _ _ _ (fun e2=>e (by have:=hp.ap.isb c' s' c s hc' hs' hc hs e2;exact this))];exact hp.sl c' s' hc' hs'
def Kl (lg:Nat→Option Nat) (d:Dy):Prop:=∀ b g,lg b=some g→d.lg b=some g
theorem Kl.trans {lg:Nat→Option Nat} {d d':Dy} (h:Kl lg d) (k:Kl d.lg d'):Kl lg d':=fun b g e=>k b g (h b g e)
theorem Kl.refl (d:Dy):Kl d.lg d:=fun _ _ e=>e
def Hgl (B:Nat) (y:Ly) (cf:Cf) (h:Hs) (an:Value) (lg:Nat→Option Nat) (W:World):Prop:=∃ d,Hp B y d cf h W∧Gd d h an∧Kl lg d
inductive RmR (B:Nat) (y:Ly) (cf:Cf) (h:Hs) (an:Value) (lg:Nat→Option Nat) (c:Nat):Option (Nat×Hs)→Ending→World→Prop
 | yes (s:Nat) (h1:Hs) (W':World) (hg:Hgl B y cf h1 an lg W'):RmR B y cf h an lg c (some (s,h1)) (.returned (Vp (y.sb c s) 0)) W'
 | no (W':World) (tk:Tk B y cf h an W'):RmR B y cf h an lg c none (.panicked (refV 1)) W'
def slab6 (y:Ly) (c:Nat):List Value:=[Vp (y.sb c 0) 0,Vp (y.sb c 1) 0,Vp (y.sb c 2) 0,Vp (y.sb c 3) 0,Vp (y.sb c 4) 0,Vp (y.sb c 5) 0]
theorem Hp.range6 {B:Nat} {y:Ly} {d:Dy} {cf:Cf} {h:Hs} {W:World} (hp:Hp B y d cf h W) {c:Nat} (hc:c < 12):W.rangeAt y.P (7+c*6) (slab6 y c):=by
 intro j v hv;have hj:j < 6:=by have:=(List.getElem?_eq_some_iff.1 hv).1;simpa [slab6] using this
 have:=hp.slabAt c j hc hj;rw [this,←hv]
 rcases (show j=0∨j=1∨j=2∨j=3∨j=4∨j=5 by omega) with rfl|rfl|rfl|rfl|rfl|rfl <;> rfl
theorem slab6_get (y:Ly) (c k:Nat) (hk:k < 6):(slab6 y c)[k]?=some (Vp (y.sb c k) 0):=by
 rcases (show k=0∨k=1∨k=2∨k=3∨k=4∨k=5 by omega) with rfl|rfl|rfl|rfl|rfl|rfl <;> rfl
theorem pickS_some {h:Hs} {c k:Nat} (hk:k < 6) (h1:(onS h c k && !(freeS h c k).isEmpty)=true) (hl:∀ s,s < k→(onS h c s && !(freeS h c s).isEmpty)=false):pickS h c=some k:=by
 unfold pickS;rw [List.find?_eq_some_iff_append];refine⟨h1,List.range k,(List.range (6 - k - 1)).map (fun i=>k+1+i),?_,fun a ha=>?_⟩
 ·rcases (show k=0∨k=1∨k=2∨k=3∨k=4∨k=5 by omega) with rfl|rfl|rfl|rfl|rfl|rfl <;> rfl
 rw [hl a (by simpa using ha)];rfl
theorem pickS_none {h:Hs} {c:Nat} (hl:∀ s,s < 6→(onS h c s && !(freeS h c s).isEmpty)=false):pickS h c=none:=by
 unfold pickS;rw [List.find?_eq_none];intro a ha;rw [hl a (by simpa using ha)];simp
theorem offS_some {h:Hs} {c k:Nat} (hk:k < 6) (h1:onS h c k=false) (hl:∀ s,s < k→onS h c s=true):offS h c=some k:=by
 unfold offS;rw [List.find?_eq_some_iff_append];refine⟨by rw [h1];rfl,List.range k,(List.range (6 - k - 1)).map (fun i=>k+1+i),?_,fun a ha=>?_⟩
 ·rcases (show k=0∨k=1∨k=2∨k=3∨k=4∨k=5 by omega) with rfl|rfl|rfl|rfl|rfl|rfl <;> rfl
 rw [hl a (by simpa using ha)];rfl
theorem offS_none {h:Hs} {c:Nat} (hl:∀ s,s < 6→onS h c s=true):offS h c=none:=by
 unfold offS;rw [List.find?_eq_none];intro a ha;rw [hl a (by simpa using ha)];simp
theorem im_undoS (X b:Nat) (v0:Value) (W:World) (hX:W.cell? ⟨X,0,none⟩=some (Vp b 0)) (hc:W.cell? ⟨b,2,none⟩=some v0) (hf:W.frozen? ⟨b,2,none⟩=false) :
  Calls Tryz.prog 120 #[Vp X 0] W fun e W'=>e=.returned (.tuple #[])∧W'=W.setCell ⟨b,2,none⟩ (.bool false):=by
 go_enter Tryz.func120,Tryz.ntmps120;go_wp2
 go_end0
 exact⟨rfl,rfl⟩
theorem im_takeBackS (B:Nat) (y:Ly) (d:Dy) (cf:Cf) (h:Hs) (X c s:Nat) (W:World) (hp:Hp B y d cf h W) (hc:c < 12) (hs:s < 6) (hX:W.cell? ⟨X,0,none⟩=some (Vp (y.sb c s) 0)) (hu:d.un=.func (.func 120) #[] #[Vp X 0]) :
  Calls Tryz.prog 31 #[Vp y.P 0] W fun e W'=>e=.returned (.tuple #[])∧Hp B y { d with on:=updB d.on c s false,un:=.nilFunc } cf h W'∧Bi B W W':=by
 have bc:=hp.bc c s hc hs;have fz:W.frozen? ⟨y.sb c s,2,none⟩=false:=by simp [World.frozen?,hp.sl c s hc hs]
 have US:=hid (im_undoS X (y.sb c s) _ W hX bc.d2 fz);obtain⟨h1,b1⟩:=hp.setOn hc hs false;have c120:=hp.cell 120 (by omega) _ rfl;have e120:boxF cf y d h.used 120=d.un:=rfl;rw [e120,hu] at c120;have c1:=h1.cell 120 (by omega) (.func (.func 120) #[] #[Vp X 0]) (by show d.un=_;exact hu);have f1:=h1.box.free 120;have st1:=storeNil _ _ y.P 120 c1 f1;have H2:=hid (h1.setDy 120 .nilFunc { d with on:=updB d.on c s false,un:=.nilFunc } (.inr ⟨rfl,rfl⟩));have B2:=hid (b1.trans (h1.bi118 120 .nilFunc));have nq:=fun w=>neq_func (.func 120) #[] #[Vp X 0] w
 clear h1 b1 hp bc fz hX c1 f1;go_enter Tryz.func31,Tryz.ntmps31;go_wp2_with fail;refine (US.out).mono ?_;rintro e W2 ⟨rfl,rfl⟩;clear US;go_wp2
 go_end0
 exact⟨rfl,H2.out,B2.out⟩
end Go.Proofs.YtgandbaejlfppaaGreatDoor
