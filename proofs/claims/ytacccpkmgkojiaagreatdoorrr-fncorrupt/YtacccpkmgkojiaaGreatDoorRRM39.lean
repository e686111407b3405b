import Derived.Below
import Derived.BigGuardIn
import Derived.BigQuiet
import Derived.BigRegionIn
import Derived.Conc.MuLone
import Derived.Deep.AppendLies
import Derived.Deep.AppendSrc
import Derived.Deep.CutBlock
import Derived.Deep.DeepCutAuto
import Derived.Deep.LoopGhost
import Derived.Deep.MidRow
import Derived.Deep.OwnRows
import Derived.Deep.QuietTactic
import Derived.Deep.RegionHeld
import Derived.Deep.RegionLaw
import Derived.Deep.RegionWith
import Derived.Defers
import Derived.KernelRfl
import Derived.Laws.BytesString
import Derived.Laws.CopyOwn
import Derived.Laws.OwnMore
import Derived.Laws.Rows
import Derived.Laws.Tables
import Derived.Lib.SliceRun
import Derived.Lib.SmallJoins
import Derived.LoopIn
import Derived.LoopNIn
import Derived.Maps.AppendAt
import Derived.Maps.OwnOps
import Derived.Maps.OwnSet
import Derived.Maps.RangeWalk
import Derived.OpenShut
import Derived.OrdersHeld
import Derived.OwnWalkIn
import Derived.ProofKit
import Derived.RangeFuncBound
import Derived.RangeFuncCalls
import Derived.RangeFuncLeaves
import Derived.RangeFuncNested
import Derived.Recover
import Derived.Shelf.Abstract
import Derived.Shelf.Bits.Mul64
import Derived.Shelf.Lay
import Derived.Shelf.RegionOpen
import Derived.Shelf.Slices.In.SortNone
import Derived.Shelf.Sort.Plain
import Derived.Sort.KeysCollected
import Derived.Sort.OwnSortedInts
import Derived.TacticsInMore
import Derived.Test.YtacccpkmgkojiaaGreatDoorRRProg
import Derived.WalkKit
import Derived.WalkLawsBesides
import Derived.Test.YtacccpkmgkojiaaGreatDoorRRM00
import Derived.Test.YtacccpkmgkojiaaGreatDoorRRM01
import Derived.Test.YtacccpkmgkojiaaGreatDoorRRM02
import Derived.Test.YtacccpkmgkojiaaGreatDoorRRM06
import Derived.Test.YtacccpkmgkojiaaGreatDoorRRM07
import Derived.Test.YtacccpkmgkojiaaGreatDoorRRM08
import Derived.Test.YtacccpkmgkojiaaGreatDoorRRM09
import Derived.Test.YtacccpkmgkojiaaGreatDoorRRM10
import Derived.Test.YtacccpkmgkojiaaGreatDoorRRM12
import Derived.Test.YtacccpkmgkojiaaGreatDoorRRM14
import Derived.Test.YtacccpkmgkojiaaGreatDoorRRM15
import Derived.Test.YtacccpkmgkojiaaGreatDoorRRM17
import Derived.Test.YtacccpkmgkojiaaGreatDoorRRM18
import Derived.Test.YtacccpkmgkojiaaGreatDoorRRM19
import Derived.Test.YtacccpkmgkojiaaGreatDoorRRM22
import Derived.Test.YtacccpkmgkojiaaGreatDoorRRM24
import Derived.Test.YtacccpkmgkojiaaGreatDoorRRM26
import Derived.Test.YtacccpkmgkojiaaGreatDoorRRM27
import Derived.Test.YtacccpkmgkojiaaGreatDoorRRM29
import Derived.Test.YtacccpkmgkojiaaGreatDoorRRM31
import Derived.Test.YtacccpkmgkojiaaGreatDoorRRM33
import Derived.Test.YtacccpkmgkojiaaGreatDoorRRM34
import Derived.Test.YtacccpkmgkojiaaGreatDoorRRM35
import Derived.Test.YtacccpkmgkojiaaGreatDoorRRM36
import Derived.Test.YtacccpkmgkojiaaGreatDoorRRM38
namespace Go.Proofs.YtacccpkmgkojiaaGreatDoorRR
set_option linter.unusedVariables false
set_option linter.unusedSimpArgs false
set_option maxRecDepth 20000
set_option maxHeartbeats 8000000
open Go.RowKit Go.Maps
structure Ra9 (B:Nat) (W:World) (l:List Aw) (v:Value):Prop where
 row:W.ownsRow B 49 4 v l.length (flatB l)
 dat:∀ z∈l,W.ownsRow B 5 1 z.2 z.1.data.length (Ns .u8 z.1.data)
 dis:l.Pairwise fun y z=>∀ g,y.2.ownBlock=some g→z.2.ownBlock≠some g
theorem Ra9.ky {S:TypeId→Prop} {B:Nat} {W W':World} {l:List Aw} {v:Value} (r:Ra9 B W l v) (k:Ky S W W') (h1:¬S 49) (h2:¬S 5):Ra9 B W' l v :=
 ⟨own_ky r.row k h1,fun z hz=>own_ky (r.dat z hz) k h2,r.dis⟩
theorem Ra9.below {B:Nat} {W W':World} {l:List Aw} {v:Value} (r:Ra9 B W l v) (b:Below W.heap.size W W'):Ra9 B W' l v:=r.ky (Ky.below b:Ky (fun _=>False) W W') (fun e=>e) (fun e=>e)
theorem Ra9.nil (B:Nat) (W:World):Ra9 B W [] (Vn):=⟨⟨rfl,.inl ⟨rfl,rfl⟩⟩,(fun z hz=>by cases hz),List.Pairwise.nil⟩
theorem Ra9.ans {B:Nat} {W:World} {l:List Aw} {v:Value} (r:Ra9 B W l v) (hl:l.length≤300):Ans9 B W l v:=⟨r.row,hl⟩
theorem Hp.ky81 {B:Nat} {y:Ly} {d:Dy} {cf:Cf} {h:Hs} {V V':World} (hp:Hp B y d cf h V) (k:Ky (· = 49) V V') (b:Below B V V') (hM:V'.heap[y.M]?=V.heap[y.M]?) (hR:V'.heap[y.R]?=V.heap[y.R]?):Hp B y d cf h V' :=
 hp.keep ⟨k.more (fun t e=>by rw [e];decide),hM,hR⟩ b
theorem ru_add {B:Nat} {y:Ly} {d:Dy} {cf:Cf} {h:Hs} {V:World} {l:List Aw} {v:Value} (hp:Hp B y d cf h V) (gd:Gd d h v) (ra:Ra9 B V l v) (r:An4) (vd:Value) (base:Nat) (hbase:∀ z∈l,∀ g,z.2.ownBlock=some g→g < base) (hB:B≤base) (od:V.ownsRow base 5 1 vd r.data.length (Ns .u8 r.data)) (hl:l.length≤300) :
  ∃ v' U,(Builtin.append_ #[31,31] 31 #[v,Vl V.heap.size 1 1]).run Tryz.prog (V.alloc (.cells (aC (r,vd)).toArray 49))=.ok v' U∧U.cell? ⟨y.P,119,none⟩=some v∧U.frozen? ⟨y.P,119,none⟩=false∧(∃ d',Hp B y d' cf h (U.setCell ⟨y.P,119,none⟩ v')∧Gd d' h v')∧Ra9 B (U.setCell ⟨y.P,119,none⟩ v') (l++[(r,vd)]) v'∧Below B V (U.setCell ⟨y.P,119,none⟩ v'):=by
 have bA:Below V.heap.size V (V.alloc (.cells (aC (r,vd)).toArray 49)):=(Below.refl _ _).alloc (Nat.le_refl _) _;have hpA:=hp.below bA;have raA:=ra.below bA;have odA:=own_bel od bA;obtain⟨va,vn,vc,rfl⟩:=own_sl4 od;obtain⟨v',U,e1,e2,e3⟩:=app_an _ B v l (r,.slice va vn vc) V.heap.size 1 raA.row (al_last V _) rfl (by omega) hpA.bW;have kU:Ky (· = 49) _ U:=Ky.grownO (fun P hP=>by obtain ⟨_,c,hc⟩:=own_lt raA.row hP;exact⟨c,49,_,hc,rfl⟩) e3;have bU:Below B _ U:=(Below.refl B _).grown e3 hpA.bW (fun P hP=>(own_lt raA.row hP).1);have nb:∀ (g:Nat) es c,(V.alloc (.cells (aC (r,.slice va vn vc)).toArray 49)).heap[g]?=some (Obj.map es c)→U.heap[g]?=(V.alloc (.cells (aC (r,.slice va vn vc)).toArray 49)).heap[g]?:=fun (g:Nat) es c hg=>e3.block g (lt_blk hg) (fun e=>by
  obtain⟨_,c9,hc9⟩:=own_lt raA.row e.symm;rw [hg] at hc9;cases hc9)
 have hpU:Hp B y d cf h U:=by
  refine hpA.ky81 kU bU ?_ ?_
  ·obtain⟨D,⟨es,c2,h2,_⟩,_⟩:=hpA.sp.map;exact nb _ _ _ h2
  obtain⟨es,c2,h2⟩:=hpA.mp.typ;exact nb _ _ _ h2
 have cU:U.cell? ⟨y.P,119,none⟩=some v:=hpU.cell 119 (by omega) _ gd.an;have fU:=hpU.box.free 119;have hp2:=hpU.setDy 119 v' { d with an:=v' } (.inl ⟨rfl,rfl⟩);have k2:=hpU.box.kyS 119 v';have b2:Below B U (U.setCell ⟨y.P,119,none⟩ v'):=(Below.refl B U).setCell hpU.ap.bP _;refine⟨v',U,e1,cU,fU,⟨_,hp2,gd.on,gd.un,rfl⟩,⟨own_ky e2 k2 (by decide),fun z hz=>?_,?_⟩,((bA.mono hp.bW).trans bU).trans b2⟩
 ·rcases List.mem_append.1 hz with hz|hz
  ·exact own_ky (own_ky (raA.dat z hz) kU (by decide)) k2 (by decide)
  have:=List.mem_singleton.1 hz;subst this;exact own_mono9 (own_ky (own_ky odA kU (by decide)) k2 (by decide)) hB
 rw [List.pairwise_append];refine⟨ra.dis,List.pairwise_singleton _ _,fun z hz u hu g hg hg2=>?_⟩;have:=List.mem_singleton.1 hu;subst this;have h1:=(own_lt od hg2).1;have h2:=hbase z hz g hg;omega
theorem Ois.da {w W:World} {A:Option Addr} {ops:List Oin} (h:Ois w A ops) {B:Nat} {y:Ly} {d:Dy} {cf:Cf} {hh:Hs} (hp:Hp B y d cf hh W) (b:Below w.heap.size w W) (hB:w.heap.size≤B) {q:Oin} (hq:q∈ops):Da y.S y.M d.f W q.d q.o.ys.length q.o.ys:=by
 refine⟨rfl,fun i hi=>?_⟩;obtain⟨x,h1,h2,h3⟩:=h.dat q hq i hi;have s1:=hp.ap.bS;have s2:=hp.ap.bM;exact⟨x,h1,old_cell b h2,Nat.lt_of_lt_of_le h3 b.size,by omega,by omega,fun k e=>by have:=hp.bf k _ e;omega⟩
structure Oio (ops:List Oin):Prop where
 cap:∀ q∈ops,q.o.ys.length≤q.dc
 ref:∀ q∈ops,-9223372036854775808≤q.o.ref
 byt:∀ q∈ops,okB q.o.ys
structure Rst (B:Nat) (y:Ly) (cf:Cf) (w:World) (ops:List Oin) (k:Nat) (l:List Aw) (v:Value) (W:World):Prop where
 hg:∃ d,Hp B y d cf (runH cf ((ops.take k).map Oin.o) (newH cf) []).1 W∧Gd d (runH cf ((ops.take k).map Oin.o) (newH cf) []).1 v
 ok:Okh cf (runH cf ((ops.take k).map Oin.o) (newH cf) []).1 k
 ls:l.map (·.1)=(runH cf ((ops.take k).map Oin.o) (newH cf) []).2
 ra:Ra9 B W l v
 bel:Below w.heap.size w W
theorem Rst.len {B:Nat} {y:Ly} {cf:Cf} {w:World} {ops:List Oin} {k:Nat} {l:List Aw} {v:Value} {W:World} (r:Rst B y cf w ops k l v W) (hk:k≤ops.length):l.length=k:=by
 have:=congrArg List.length r.ls;rw [List.length_map,runH_len] at this;simpa [Nat.min_eq_left hk] using this
theorem Rst.first {B:Nat} {y:Ly} {cf:Cf} {w W:World} (ops:List Oin) (hp:Hp B y dyN cf (newH cf) W) (gd:Gd dyN (newH cf) (Vn)) (dk:Dok cf) (l1:1≤cf.large) (b:Below w.heap.size w W):Rst B y cf w ops 0 [] (Vn) W:=by
 have e:runH cf ((ops.take 0).map Oin.o) (newH cf) []=(newH cf,[]):=rfl;refine⟨⟨dyN,?_,?_⟩,?_,?_,Ra9.nil _ _,b⟩
 ·rw [e];exact hp
 ·rw [e];exact gd
 ·rw [e];exact⟨Inv.new cf,Byt.new cf,Few.new cf,by omega,dk,l1⟩
 rw [e];rfl
theorem take_step {ops:List Oin} {k:Nat} {q:Oin} (hq:ops[k]?=some q) (cf:Cf):runH cf ((ops.take (k+1)).map Oin.o) (newH cf) []=((stepH cf (runH cf ((ops.take k).map Oin.o) (newH cf) []).1 (runH cf ((ops.take k).map Oin.o) (newH cf) []).2 q.o).2,(runH cf ((ops.take k).map Oin.o) (newH cf) []).2++[(stepH cf (runH cf ((ops.take k).map Oin.o) (newH cf) []).1 (runH cf ((ops.take k).map Oin.o) (newH cf) []).2 q.o).1]):=by
 rw [List.take_add_one,hq];simp only [Option.toList_some,List.map_append,List.map_cons,List.map_nil];exact runH_snoc cf q.o _ _ _
end Go.Proofs.YtacccpkmgkojiaaGreatDoorRR
namespace Go.Proofs.YtacccpkmgkojiaaGreatDoorRR
set_option linter.unusedVariables false
set_option linter.unusedSimpArgs false
set_option maxRecDepth 20000
set_option maxHeartbeats 8000000
open Go.RowKit Go.Maps
def RcR (B:Nat) (y:Ly) (cf:Cf) (w:World) (ops:List Oin) (k:Nat) (l:List Aw) (v:Value) (r9:An4) (V:World) (e:Ending) (V':World):Prop:=∃ (a:Option Addr) (n c:Nat),e=.returned (.agg #[Vi r9.code,Vu (r9.addr:Nat),Vi (r9.size:Nat),.slice a n c])∧V'.cell? ⟨y.P,119,none⟩=some v∧(∀ (X:Nat) cc t f,t=42∨t=39→V.heap[X]?=some (.cells cc t f)→V'.heap[X]?=some (.cells cc t f)) ∧
 ∃ (a':Option Addr) (n' c':Nat) (U:World),(Builtin.append_ #[31,31] 31 #[v,Vl V'.heap.size 1 1]).run Tryz.prog (V'.alloc (.cells #[Vi r9.code,Vu (r9.addr:Nat),Vi (r9.size:Nat),.slice a n c] 49))=.ok (.slice a' n' c') U∧(V'.alloc (.cells #[Vi r9.code,Vu (r9.addr:Nat),Vi (r9.size:Nat),.slice a n c] 49)).cell? ⟨y.P,119,none⟩=some v∧U.cell? ⟨y.P,119,none⟩=some v∧U.frozen? ⟨y.P,119,none⟩=false∧(∀ (X:Nat) cc t f,t=42∨t=39→V'.heap[X]?=some (.cells cc t f)→(V'.alloc (.cells #[Vi r9.code,Vu (r9.addr:Nat),Vi (r9.size:Nat),.slice a n c] 49)).heap[X]?=some (.cells cc t f)∧U.heap[X]?=some (.cells cc t f)∧(U.setCell ⟨y.P,119,none⟩ (.slice a' n' c')).heap[X]?=some (.cells cc t f))∧∃ l',Rst B y cf w ops (k+1) l' (.slice a' n' c') (U.setCell ⟨y.P,119,none⟩ (.slice a' n' c'))
theorem Rst.call9 {B:Nat} {y:Ly} {cf:Cf} {w:World} {A:Option Addr} {ops:List Oin} {k:Nat} {l:List Aw} {v:Value} {W:World} (r:Rst B y cf w ops k l v W) (ho:Ois w A ops) (hi:Oio ops) (hB:w.heap.size≤B) (hN:ops.length≤300) {q:Oin} (hq:ops[k]?=some q) :
  ∃ r9,∀ V,Below W.heap.size W V→Calls Tryz.prog 38 #[Vp y.P 0,.agg #[Vi q.o.kd,Vi q.o.ref,Vu (q.o.p:Nat),Vu (q.o.a:Nat),Vu (q.o.b:Nat),.slice q.d q.o.ys.length q.dc]] V (RcR B y cf w ops k l v r9 V):=by
 have hlt:=(List.getElem?_eq_some_iff.1 hq).1;have hmem:=List.mem_of_getElem? hq;obtain⟨d,hp,gd⟩:=r.hg;have hlen:=r.len (by omega);have hw:=ho.wf q hmem;obtain⟨va,vn,vc,hv⟩:=own_sl4 r.ra.row;refine⟨(stepH cf (runH cf ((ops.take k).map Oin.o) (newH cf) []).1 (runH cf ((ops.take k).map Oin.o) (newH cf) []).2 q.o).1,fun V b=>?_⟩;have hpV:=hp.below b;have raV:=r.ra.below b;have belV:Below w.heap.size w V:=r.bel.trans (b.mono r.bel.size);rw [hv] at gd;have hA:Ans9 B V l (.slice va vn vc):=by rw [←hv];exact raV.ans (by omega)
 refine (im_run B B y d cf _ k l va vn vc q.o q.d q.dc V hpV gd r.ok (by omega) hA hw.1 hw.2.1 hw.2.2 (hi.ref q hmem) (hi.cap q hmem) (ho.da hpV belV hB hmem)).mono ?_;rintro e V' ⟨vd,rfl,od,⟨d2,hp2,gd2⟩,bi⟩;obtain⟨a9,n9,c9,rfl⟩:=own_sl4 od;rw [r.ls] at od hp2 gd2 ⊢;have c119:V'.cell? ⟨y.P,119,none⟩=some v:=by rw [hv];exact hp2.cell 119 (by omega) _ gd2.an
 refine⟨a9,n9,c9,rfl,c119,fun X cc t f ht hX=>bi.ky.cells _ _ _ _ hX (by rcases ht with rfl|rfl <;> (unfold hI;decide)),?_⟩;rw [←hv] at gd2;have raV':Ra9 B V' l v:=raV.ky bi.ky (by unfold hI;decide) (by unfold hI;decide);obtain⟨v',U,e1,e2,e3,⟨d9,hp9,gd9⟩,ra9,b9⟩:=ru_add hp2 gd2 raV' _ (.slice a9 n9 c9) V.heap.size (fun z hz g hg=>by
  obtain⟨_,c9,hc9⟩:=own_lt (raV.dat z hz) hg;exact lt_blk hc9) hpV.bW od (by omega)
 obtain⟨a8,n8,c8,rfl⟩:=own_sl4 ra9.row;have bA:Below V'.heap.size V' (V'.alloc (.cells (aC ((stepH cf (runH cf ((ops.take k).map Oin.o) (newH cf) []).1 (runH cf ((ops.take k).map Oin.o) (newH cf) []).2 q.o).1,.slice a9 n9 c9)).toArray 49)):=(Below.refl _ _).alloc (Nat.le_refl _) _;have raA:=raV'.below bA;obtain⟨v7,U7,f1,f2,f3⟩:=app_an _ B v l ((stepH cf (runH cf ((ops.take k).map Oin.o) (newH cf) []).1 (runH cf ((ops.take k).map Oin.o) (newH cf) []).2 q.o).1,.slice a9 n9 c9) V'.heap.size 1 raA.row (al_last V' _) rfl (by omega) (Nat.le_trans hp2.bW bA.size);have eU:U7=U:=by rw [e1] at f1;cases f1;rfl
 subst eU;have kU:Ky (· = 49) _ U7:=Ky.grownO (fun P hP=>by obtain ⟨_,c,hc⟩:=own_lt raA.row hP;exact⟨c,49,_,hc,rfl⟩) f3;refine⟨a8,n8,c8,U7,e1,below_cell bA c119,e2,e3,fun X cc t f ht hX=>?_,_,⟨d9,?_,?_⟩,?_,?_,ra9,belV.trans ((bi.bel.mono hB).trans (b9.mono hB))⟩
 ·have h1:=below_at hX bA;have h2:=kU.cells _ _ _ _ h1 (by rcases ht with rfl|rfl <;> decide);refine⟨h1,h2,?_⟩;rw [Below.heap_setCell _ _ _ _ (fun e=>?_)]
  ·exact h2
  have hbx:=(hp2.below bA).box.ky kU (by decide);obtain⟨c7,g1,_⟩:=hbx;rw [e] at h2;rw [g1] at h2
  cases h2
  rcases ht with e9|e9 <;> cases e9
 ·rw [take_step hq];exact hp9
 ·rw [take_step hq];exact gd9
 ·rw [take_step hq];obtain⟨i1,f1⟩:=r.ok.inv.step r.ok.dok.fifo1 r.ok.few (runH cf ((ops.take k).map Oin.o) (newH cf) []).2 q.o;exact⟨i1,r.ok.byt.step _ q.o (hi.byt q hmem),f1,by omega,r.ok.dok,r.ok.l1⟩
 rw [take_step hq,List.map_append,r.ls];rfl
structure Cq (X:Nat) (q:Oin) (V:World):Prop where
 c0:V.cell? ⟨X,0,none⟩=some (Vi q.o.kd)
 c1:V.cell? ⟨X,1,none⟩=some (Vi q.o.ref)
 c2:V.cell? ⟨X,2,none⟩=some (Vu (q.o.p:Nat))
 c3:V.cell? ⟨X,3,none⟩=some (Vu (q.o.a:Nat))
 c4:V.cell? ⟨X,4,none⟩=some (Vu (q.o.b:Nat))
 c5:V.cell? ⟨X,5,none⟩=some (.slice q.d q.o.ys.length q.dc)
theorem Cq.of {X:Nat} {q:Oin} {V:World} (h:V.heap[X]?=some (.cells #[Vi q.o.kd,Vi q.o.ref,Vu (q.o.p:Nat),Vu (q.o.a:Nat),Vu (q.o.b:Nat),.slice q.d q.o.ys.length q.dc] 42 (0,0))):Cq X q V:=by
 refine⟨?_,?_,?_,?_,?_,?_⟩ <;> (rw [cell_of_row _ _ _ _ _ _ h];rfl)
def ToldC (T9:Nat→Ly→Cf→Hs→World→Array Value→World→Prop):Prop:=∀ (B:Nat) (y:Ly) (d:Dy) (cf:Cf) (h:Hs) (k:Nat) (v:Value) (V:World),Hp B y d cf h V→Gd d h v→Okh cf h k →
 Calls Tryz.prog 39 #[Vp y.P 0] V fun e V'=>∃ m0 m1 m2 m3 m4 m5 m6 m7:Value,e=.returned (.agg #[m0,m1,m2,m3,m4,m5,m6,m7])∧(∀ v∈[m0,m1,m2,m3,m4,m5,m6,m7],v.oneCell'=true)∧T9 B y cf h V #[m0,m1,m2,m3,m4,m5,m6,m7] V'∧Below V.heap.size V V'
end Go.Proofs.YtacccpkmgkojiaaGreatDoorRR
namespace Go.Proofs.YtacccpkmgkojiaaGreatDoorRR
set_option linter.unusedVariables false
set_option linter.unusedSimpArgs false
set_option maxRecDepth 20000
set_option maxHeartbeats 8000000
open Go.RowKit Go.Maps
def RhR (T9:Nat→Ly→Cf→Hs→World→Array Value→World→Prop) (cf:Cf) (ops:List Oin) (w:World) (e:Ending) (W':World):Prop:=∃ (B:Nat) (y:Ly) (l:List Aw) (va:Value) (m0 m1 m2 m3 m4 m5 m6 m7:Value) (V V':World) (X:Nat),e=.returned (.agg #[.bool true,va,m0,m1,m2,m3,m4,m5,m6,m7])∧w.heap.size≤B∧Rst B y cf w ops ops.length l va V∧T9 B y cf (runH cf (ops.map Oin.o) (newH cf) []).1 V #[m0,m1,m2,m3,m4,m5,m6,m7] V'∧Below V.heap.size V V'∧V'.heap[X]?=some (.cells #[.bool false,Vn,Vi 0,Vn,Vn,Vn,Vn,Vn,Vn,Vi 0] 39 (0,0))∧W'=V'.setRow X #[.bool true,va,m0,m1,m2,m3,m4,m5,m6,m7]∧w.heap.size≤X∧X < B
theorem im_RunHeap (T9:Nat→Ly→Cf→Hs→World→Array Value→World→Prop) (TC:ToldC T9) (cf:Cf) (da:Option Addr) (dc:Nat) (A:Option Addr) (cap:Nat) (ops:List Oin) (w:World) (dk:Dok cf) (l1:1≤cf.large) (tb:Tb w) (ds:Sl w da cf.ds) (dab:∀ a,da=some a→a.block < w.heap.size) (h0:0 < w.heap.size) (ho:Ois w A ops) (hi:Oio ops) (hN:ops.length≤300) :
  Calls Tryz.prog 13 #[cfgV cf da dc,.slice A ops.length cap] w (RhR T9 cf ops w):=by
 unfold cfgV;have hok:okC (cf.mix:Nat) (cf.fifo:Nat) (cf.large:Nat) (cf.bud:Nat) cf.ds.length:=by
  have h1:=dk.mix;have h2:=dk.fifo1;have h3:=dk.fifo;have h4:=dk.large;have h5:=dk.bud;have h6:=dk.len;unfold okC;omega
 have b1:Below w.heap.size w (w.alloc (.cells #[Vi (cf.mix:Nat),Vi (cf.fifo:Nat),Vi (cf.large:Nat),Vi (cf.bud:Nat),Vu cf.key,.slice da cf.ds.length dc] 26)):=(Below.refl _ _).alloc (Nat.le_refl _) _;have b2:Below w.heap.size w ((w.alloc (.cells #[Vi (cf.mix:Nat),Vi (cf.fifo:Nat),Vi (cf.large:Nat),Vi (cf.bud:Nat),Vu cf.key,.slice da cf.ds.length dc] 26)).alloc (.cells #[.bool false,Vn,Vi 0,Vn,Vn,Vn,Vn,Vn,Vn,Vi 0] 39)):=b1.alloc b1.size _;have X4:=hid (show ((w.alloc (.cells #[Vi (cf.mix:Nat),Vi (cf.fifo:Nat),Vi (cf.large:Nat),Vi (cf.bud:Nat),Vu cf.key,.slice da cf.ds.length dc] 26)).alloc (.cells #[.bool false,Vn,Vi 0,Vn,Vn,Vn,Vn,Vn,Vn,Vi 0] 39)).heap[w.heap.size+1]?=some (.cells #[.bool false,Vn,Vi 0,Vn,Vn,Vn,Vn,Vn,Vn,Vi 0] 39 (0,0)) by rw [←al_size w (.cells #[Vi (cf.mix:Nat),Vi (cf.fifo:Nat),Vi (cf.large:Nat),Vi (cf.bud:Nat),Vu cf.key,.slice da cf.ds.length dc] 26)];exact al_last _ _);have X2:=hid (below_at (al_last w (.cells #[Vi (cf.mix:Nat),Vi (cf.fifo:Nat),Vi (cf.large:Nat),Vi (cf.bud:Nat),Vu cf.key,.slice da cf.ds.length dc] 26)) ((Below.refl _ _).alloc (Nat.le_refl _) (.cells #[.bool false,Vn,Vi 0,Vn,Vn,Vn,Vn,Vn,Vn,Vi 0] 39)));have GO:=hid (im_good (cf.mix:Nat) (cf.fifo:Nat) (cf.large:Nat) (cf.bud:Nat) cf.key da cf.ds.length dc _ (tb.ofBelow b2));rw [decide_eq_true hok] at GO;have B2:=hid b2;have NH:=hid (fun V (hV:Below w.heap.size w V)=>im_newHeap cf da dc V dk (tb.ofBelow hV) (ds.below hV) (fun a ha=>Nat.lt_of_lt_of_le (dab a ha) hV.size) (Nat.lt_of_lt_of_le h0 hV.size));unfold cfgV at NH;have CC:=hid (show ∀ V:World,V.heap[w.heap.size]?=some (.cells #[Vi (cf.mix:Nat),Vi (cf.fifo:Nat),Vi (cf.large:Nat),Vi (cf.bud:Nat),Vu cf.key,.slice da cf.ds.length dc] 26 (0,0))→∀ j u,(#[Vi (cf.mix:Nat),Vi (cf.fifo:Nat),Vi (cf.large:Nat),Vi (cf.bud:Nat),Vu cf.key,.slice da cf.ds.length dc]:Array Value)[j]?=some u→V.cell? ⟨w.heap.size,j,none⟩=some u from fun V hV j u hj=>by rw [cell_of_row _ _ _ _ _ _ hV];exact hj);have u0:=CC.out _ X2.out 0 _ rfl;have u1:=CC.out _ X2.out 1 _ rfl;have u2:=CC.out _ X2.out 2 _ rfl;have u3:=CC.out _ X2.out 3 _ rfl;have u4:=CC.out _ X2.out 4 _ rfl;have u5:=CC.out _ X2.out 5 _ rfl;have HO:=hid ho;have HI:=hid hi;have HT:=hid TC;have HDK:=hid (And.intro dk l1);obtain⟨N,hNe⟩:∃ N,ops.length=N:=⟨_,rfl⟩;rw [hNe];rw [hNe] at hN;have HN:=hid hNe;clear b1 b2 tb hok ds dab ho hi TC dk l1 hNe;go_enter Tryz.func13,Tryz.ntmps13;go_wp2_with fail;generalize (w.alloc _).alloc _=V0 at *;obtain⟨X,hX⟩:∃ X,w.heap.size+1=X:=⟨_,rfl⟩;rw [hX] at X4 ⊢;refine (GO.out).mono ?_;rintro e V ⟨rfl,bV⟩;have X5:=hid (below_at X4.out bV);have X6:=hid (below_at X2.out bV);have B5:=hid (B2.out.trans (bV.mono B2.out.size));have hn9:¬((300:Int) < (N:Int)):=by omega
 clear X4 X2 B2 GO bV u0 u1 u2 u3 u4 u5;have u0:=CC.out _ X6.out 0 _ rfl;have u1:=CC.out _ X6.out 1 _ rfl;have u2:=CC.out _ X6.out 2 _ rfl;have u3:=CC.out _ X6.out 3 _ rfl;have u4:=CC.out _ X6.out 4 _ rfl;have u5:=CC.out _ X6.out 5 _ rfl;go_wp2_with fail;refine (NH.out _ B5.out).mono ?_;rintro e V2 ⟨y,rfl,hyd,hp,gd,bV⟩;have hXV:=lt_blk X5.out;have X7:=hid (below_at X5.out bV);obtain⟨B,hBe⟩:∃ B,V.heap.size=B:=⟨_,rfl⟩;rw [hBe] at hp bV hXV;have HB:=hid (show w.heap.size≤B by rw [←hBe];exact B5.out.size);have R0:=hid (Rst.first ops hp gd HDK.out.1 HDK.out.2 (B5.out.trans (bV.mono HB.out)));have HXB:=hid (show w.heap.size≤X∧X < B from ⟨by omega,hXV⟩);obtain⟨P,hP⟩:∃ P,y.P=P:=⟨_,rfl⟩;rw [hP];have HP:=hid hP;clear hp gd bV hBe hXV hX hP X5 X6 B5 NH u0 u1 u2 u3 u4 u5 CC V0 hyd;go_wp2;go_loopw [21] (fun i wr=>∃ (k:Nat) (l:List Aw) (v:Value),k≤N∧i=Vi k∧Hid (Rst B y cf w ops k l v wr)∧Hid (wr.heap[X]?=some (.cells #[.bool false,Vn,Vi 0,Vn,Vn,Vn,Vn,Vn,Vn,Vi 0] 39 (0,0)))) (fun i _=>N - (intOf i).toNat)
 case atStart=>exact ⟨0,[],_,by omega,rfl,R0,X7⟩
 case round =>
  clear R0 X7;obtain⟨k,l,v,hk,rfl,HR,HX⟩:=hrel
  by_cases hlt:k < N
  ·obtain⟨q,hq⟩:∃ q,ops[k]?=some q:=⟨_,List.getElem?_eq_getElem (by rw [HN.out];exact hlt)⟩;obtain⟨G,rfl,hG,hcl⟩:=HO.out.at_ k q hq;have bw:=HR.out.bel;have u0:wr.cell? ⟨G,k*6,none⟩=some (Vi q.o.kd):=old_cell bw (hcl 0 _ rfl);have u1:=old_cell bw (hcl 1 _ rfl);have u2:=old_cell bw (hcl 2 _ rfl);have u3:=old_cell bw (hcl 3 _ rfl);have u4:=old_cell bw (hcl 4 _ rfl);have u5:=old_cell bw (hcl 5 _ rfl);obtain⟨r9,RC⟩:=HR.out.call9 HO.out HI.out HB.out (by rw [HN.out];exact hN) hq;have RC:=hid RC;obtain⟨va,vn,vc,rfl⟩:=own_sl4 HR.out.ra.row;have b1:Below wr.heap.size wr (wr.alloc (.cells #[Vi q.o.kd,Vi q.o.ref,Vu (q.o.p:Nat),Vu (q.o.a:Nat),Vu (q.o.b:Nat),.slice q.d q.o.ys.length q.dc] 42)):=(Below.refl _ _).alloc (Nat.le_refl _) _;have Y1:=hid (al_last wr (.cells #[Vi q.o.kd,Vi q.o.ref,Vu (q.o.p:Nat),Vu (q.o.a:Nat),Vu (q.o.b:Nat),.slice q.d q.o.ys.length q.dc] 42));have B1:=hid (show Below wr.heap.size wr ((wr.alloc (.cells #[Vi q.o.kd,Vi q.o.ref,Vu (q.o.p:Nat),Vu (q.o.a:Nat),Vu (q.o.b:Nat),.slice q.d q.o.ys.length q.dc] 42)).drew) from b1.trans ((Below.refl _ _).drew.mono b1.size));have c119:((wr.alloc (.cells #[Vi q.o.kd,Vi q.o.ref,Vu (q.o.p:Nat),Vu (q.o.a:Nat),Vu (q.o.b:Nat),.slice q.d q.o.ys.length q.dc] 42)).drew).cell? ⟨P,119,none⟩=some (.slice va vn vc):=by
    obtain⟨d,hp,gd⟩:=HR.out.hg;rw [←HP.out];exact (hp.below B1.out).cell 119 (by omega) _ gd.an
   have HX1:=hid (below_at HX.out B1.out);clear hcl bw hq hG;go_upto_region 7 with fail
   generalize wr.alloc _=V at Y1 B1 c119 HX1 ⊢;obtain⟨Y,hY⟩:∃ Y,wr.heap.size=Y:=⟨_,rfl⟩;rw [hY] at Y1 ⊢;clear u0 u1 u2 u3 u4 u5 HX;have RCV:=hid (RC.out _ B1.out);clear hY RC HR b1 B1;refine wp_region_held (S:=Cq Y q) (by kernel_rfl) ?_;simp only [List.size_toArray,List.length_cons,List.length_nil,Nat.reduceAdd,Array.replicate_succ,Array.replicate_zero,List.push_toArray,List.nil_append,List.cons_append];have HY:=hid (show V.drew.heap[Y]?=some (.cells #[Vi q.o.kd,Vi q.o.ref,Vu (q.o.p:Nat),Vu (q.o.a:Nat),Vu (q.o.b:Nat),.slice q.d q.o.ys.length q.dc] 42 (0,0)) from Y1.out);generalize hV1:V.drew=V1 at RCV HY c119 HX1;have hV1':({ heap:=V.heap,tape:=V.tape,drawn:=V.drawn+1,os:=V.os,output:=V.output } : World)=V1:=hV1;rw [hV1'];clear hV1 hV1' Y1;have HPP:=HP.out;have hS:=Cq.of HY.out
   iterate 4 (refine py hS ?_;simp only [f0,f1,Nat.reduceAdd,lz,l0,ls])
   refine pk 5 30 (Vp P 0) hS ?_;simp only [lz,l0,ls];refine pz 6 31 (.agg #[Vi q.o.kd,Vi q.o.ref,Vu (q.o.p:Nat),Vu (q.o.a:Nat),Vu (q.o.b:Nat),.slice q.d q.o.ys.length q.dc]) hS ?_;simp only [lz,l0,ls];refine wpAnyH_all (rs:=[4,7]) (by kernel_rfl) (by simp) (fun i9 hi9=>?_)
   rcases (by simpa using hi9:i9=4∨i9=7) with hi9|hi9
   ·subst hi9;refine wpOp_do rfl (by kernel_rfl) (fun K' hK=>?_);go_simp;refine hK.out _ _ ⟨hS,?_⟩;clear hK K';refine po 7 fun K' hK=>?_
    go_simp;rw [←HPP];refine (RCV.out).mono ?_;rintro e U1 ⟨a1,n1,c1,rfl,cU,kU,a2,n2,c2,U2,happ,cA,cU2,fU2,kU2,l2,hR⟩;rw [HPP] at cU cA cU2 fU2 hR kU2;have hS1:=Cq.of (kU _ _ _ _ (.inl rfl) HY.out);have HU:=hid (kU2 _ _ _ _ (.inl rfl) (kU _ _ _ _ (.inl rfl) HY.out));have HX2:=hid ((kU2 _ _ _ _ (.inr rfl) (kU _ _ _ _ (.inr rfl) HX1.out)).2.2);have HR2:=hid hR;refine hK.out _ _ ⟨hS1,?_⟩;clear hS kU kU2 hR;have hS:=hS1;clear hS1;clear hK K';refine po 8 fun K' hK=>?_
    go_simp;refine hK.out _ _ ⟨Cq.of HU.out.1,?_⟩;clear hS;have hS:=Cq.of HU.out.1;clear hK K';refine po 9 fun K' hK=>?_
    refine wpo_append 31 (.tmp 29) (.tmp 33) (v:=.slice va vn vc) (v2:=Vl U1.heap.size 1 1) (by kernel_rfl) (by kernel_rfl) (by kernel_rfl) (by kernel_rfl) happ ?_;refine hK.out _ _ ⟨Cq.of HU.out.2.1,?_⟩;clear hS;have hS:=Cq.of HU.out.2.1;clear hK K';refine pk 10 35 (Vp P 0) hS ?_;simp only [lz,l0,ls];refine pk 11 36 (Vp P 119) hS ?_;simp only [lz,l0,ls];refine po 12 fun K' hK=>?_
    go_simp;refine hK.out _ _ ⟨Cq.of HU.out.2.2,?_⟩;clear hS;clear hK K';refine wpAnyH_done (by kernel_rfl) ?_ _;go_wp2;go_roundw
    case rel=>exact ⟨k+1,l2,_,by omega,by go_num,HR2,HX2⟩
    case measure=>simp [intOf];omega
   subst hi9;refine wpOp_do rfl (by kernel_rfl) (fun K' hK=>?_);go_simp;rw [←HPP];refine (RCV.out).mono ?_;rintro e U1 ⟨a1,n1,c1,rfl,cU,kU,a2,n2,c2,U2,happ,cA,cU2,fU2,kU2,l2,hR⟩;rw [HPP] at cU cA cU2 fU2 hR kU2;have hS1:=Cq.of (kU _ _ _ _ (.inl rfl) HY.out);have HU:=hid (kU2 _ _ _ _ (.inl rfl) (kU _ _ _ _ (.inl rfl) HY.out));have HX2:=hid ((kU2 _ _ _ _ (.inr rfl) (kU _ _ _ _ (.inr rfl) HX1.out)).2.2);have HR2:=hid hR;refine hK.out _ _ ⟨hS1,?_⟩;clear hS kU kU2 hR;have hS:=hS1;clear hS1;clear hK K';refine wpAnyH_all (rs:=[4,8]) (by kernel_rfl) (by simp) (fun i9 hi9=>?_)
   rcases (by simpa using hi9:i9=4∨i9=8) with hi9|hi9
   ·subst hi9;refine wpOp_do rfl (by kernel_rfl) (fun K' hK=>?_);go_simp;refine hK.out _ _ ⟨hS,?_⟩;clear hK K';refine po 8 fun K' hK=>?_
    go_simp;refine hK.out _ _ ⟨Cq.of HU.out.1,?_⟩;clear hS;have hS:=Cq.of HU.out.1;clear hK K';refine po 9 fun K' hK=>?_
    refine wpo_append 31 (.tmp 29) (.tmp 33) (v:=.slice va vn vc) (v2:=Vl U1.heap.size 1 1) (by kernel_rfl) (by kernel_rfl) (by kernel_rfl) (by kernel_rfl) happ ?_;refine hK.out _ _ ⟨Cq.of HU.out.2.1,?_⟩;clear hS;have hS:=Cq.of HU.out.2.1;clear hK K';refine pk 10 35 (Vp P 0) hS ?_;simp only [lz,l0,ls];refine pk 11 36 (Vp P 119) hS ?_;simp only [lz,l0,ls];refine po 12 fun K' hK=>?_
    go_simp;refine hK.out _ _ ⟨Cq.of HU.out.2.2,?_⟩;clear hS;clear hK K';refine wpAnyH_done (by kernel_rfl) ?_ _;go_wp2;go_roundw
    case rel=>exact ⟨k+1,l2,_,by omega,by go_num,HR2,HX2⟩
    case measure=>simp [intOf];omega
   subst hi9;refine wpOp_do rfl (by kernel_rfl) (fun K' hK=>?_);go_simp;refine hK.out _ _ ⟨Cq.of HU.out.1,?_⟩;clear hS;have hS:=Cq.of HU.out.1;clear hK K';refine po 4 fun K' hK=>?_
   go_simp;refine hK.out _ _ ⟨hS,?_⟩;clear hK K';refine po 9 fun K' hK=>?_
   refine wpo_append 31 (.tmp 29) (.tmp 33) (v:=.slice va vn vc) (v2:=Vl U1.heap.size 1 1) (by kernel_rfl) (by kernel_rfl) (by kernel_rfl) (by kernel_rfl) happ ?_;refine hK.out _ _ ⟨Cq.of HU.out.2.1,?_⟩;clear hS;have hS:=Cq.of HU.out.2.1;clear hK K';refine pk 10 35 (Vp P 0) hS ?_;simp only [lz,l0,ls];refine pk 11 36 (Vp P 119) hS ?_;simp only [lz,l0,ls];refine po 12 fun K' hK=>?_
   go_simp;refine hK.out _ _ ⟨Cq.of HU.out.2.2,?_⟩;clear hS;clear hK K';refine wpAnyH_done (by kernel_rfl) ?_ _;go_wp2;go_roundw
   case rel=>exact ⟨k+1,l2,_,by omega,by go_num,HR2,HX2⟩
   case measure=>simp [intOf];omega
  obtain rfl:k=N:=by omega
  obtain⟨va,vn,vc,rfl⟩:=own_sl4 HR.out.ra.row;have hne:ops.take k=ops:=List.take_of_length_le (by rw [HN.out];exact Nat.le_refl _);obtain⟨d,hp,gd⟩:=HR.out.hg;have ok:=HR.out.ok;have bD:Below wr.heap.size wr wr.drew:=(Below.refl _ _).drew;have TD:=hid (HT.out B y d cf _ k _ _ (hp.below bD) gd ok);rw [hne] at TD;have c119:wr.drew.cell? ⟨P,119,none⟩=some (.slice va vn vc):=by
   rw [←HP.out];exact (hp.below bD).cell 119 (by omega) _ gd.an
  have HXD:=hid (below_at HX.out bD);have HPL:=hid (show P < wr.drew.heap.size by rw [←HP.out];exact (hp.below bD).box.lt);have hPX:P≠X:=fun e=>by
   obtain⟨c,h1,_⟩:=hp.box;have h2:=HX.out;rw [←e,←HP.out,h1] at h2
   cases h2
  have RD:=hid (show Rst B y cf w ops k l (.slice va vn vc) wr.drew from ⟨⟨d,hp.below bD,gd⟩,ok,HR.out.ls,HR.out.ra.below bD,HR.out.bel.drew⟩);clear hp gd ok bD HX HR hne;go_upto_region 9 with fail
  refine wp_region_held (S:=fun W9=>W9.cell? ⟨P,119,none⟩=some (.slice va vn vc)) (by kernel_rfl) ?_;simp only [List.size_toArray,List.length_cons,List.length_nil,Nat.reduceAdd,Array.replicate_succ,Array.replicate_zero,List.push_toArray,List.nil_append,List.cons_append];generalize hV1:wr.drew=V1 at TD c119 HXD RD HPL;have hV1':({ heap:=wr.heap,tape:=wr.tape,drawn:=wr.drawn+1,os:=wr.os,output:=wr.output } : World)=V1:=hV1;rw [hV1'];clear hV1 hV1';have HPP:=HP.out;have hS:=c119
  iterate 5 (refine py hS ?_;simp only [f0,f1,Nat.reduceAdd,lz,l0,ls])
  refine po 5 fun K' hK=>?_
  go_simp;rw [←HPP];refine (TD.out).mono ?_;rintro e U1 ⟨m0,m1,m2,m3,m4,m5,m6,m7,rfl,hone,ht,bU⟩;have hS1:=below_cell bU hS;refine hK.out _ _ ⟨hS1,?_⟩;clear hS;have hS:=hS1;have HONE:=hid hone;have HF:=hid (And.intro ht bU);have HX2:=hid (below_at HXD.out bU);have HPU:=hid (Nat.lt_of_lt_of_le HPL.out bU.size);clear hS1 hone ht bU;clear hK K';refine py hS ?_;simp only [f0,f1,Nat.reduceAdd,lz,l0,ls];refine po 7 fun K' hK=>?_
  refine wp_store_row 39 (.tmp 4) (.tmp 44) (by kernel_rfl) X #[.bool true,.slice va vn vc,m0,m1,m2,m3,m4,m5,m6,m7] (by kernel_rfl) (by kernel_rfl) 39 _ HX2.out (by kernel_rfl) rfl ?hone9 ?_
  case hone9=>exact all_oneCell_toArray (fun v hv=>by rcases List.mem_cons.1 hv with rfl|hv;rfl;rcases List.mem_cons.1 hv with rfl|hv;rfl;exact HONE.out v hv)
  have hS2:(U1.setRow X #[.bool true,.slice va vn vc,m0,m1,m2,m3,m4,m5,m6,m7]).cell? ⟨P,119,none⟩=some (.slice va vn vc):=by unfold World.cell? at hS ⊢;rw [(grown_setRow U1 X #[.bool true,.slice va vn vc,m0,m1,m2,m3,m4,m5,m6,m7]).block P HPU.out (by simpa using hPX)];exact hS
  refine hK.out _ _ ⟨hS2,?_⟩;clear hS hS2 hK K';refine wpAnyH_done (by kernel_rfl) ?_ _;go_wp2_with fail;refine bodyPost_ret (results_cell_row (by rfl) _ _ X 39 _ (0,0) _ (by rfl) (setRow_at HX2.out _) Tryz.underlying39 rfl (by kernel_rfl)) (by rfl) ?_;exact⟨B,y,l,_,m0,m1,m2,m3,m4,m5,m6,m7,V1,U1,X,rfl,HB.out,by rw [HN.out];exact RD.out,HF.out.1,HF.out.2,HX2.out,rfl,HXB.out.1,HXB.out.2⟩
end Go.Proofs.YtacccpkmgkojiaaGreatDoorRR
namespace Go.Proofs.YtacccpkmgkojiaaGreatDoorRR
set_option linter.unusedVariables false
set_option linter.unusedSimpArgs false
set_option maxRecDepth 20000
set_option maxHeartbeats 8000000
open Go.RowKit Go.Maps
def I3 (h:Hs) (c s j:Nat):List (Nat×Nat×Nat):=((List.range j).filter fun k=>decide (h.st c s k≠0)).map fun k=>(c,s,k)
def I2 (h:Hs) (c s:Nat):List (Nat×Nat×Nat):=(List.range s).flatMap fun s'=>I3 h c s' (slN c)
def I1 (h:Hs) (c:Nat):List (Nat×Nat×Nat):=(List.range c).flatMap fun c'=>I2 h c' 6
def inC (h:Hs) (x:Nat×Nat×Nat):List Value:=[Vi (x.1:Nat),Vi (x.2.1:Nat),Vi (x.2.2:Nat),Vi (h.st x.1 x.2.1 x.2.2),Vi (h.rq x.1 x.2.1 x.2.2)]
def flatI (h:Hs) (l:List (Nat×Nat×Nat)):List Value:=l.flatMap (inC h)
theorem flatI_snoc (h:Hs) (l:List (Nat×Nat×Nat)) (x:Nat×Nat×Nat):flatI h (l++[x])=flatI h l++inC h x:=by simp [flatI]
theorem I3_yes (h:Hs) (c s j:Nat) (hs:h.st c s j≠0):I3 h c s (j+1)=I3 h c s j++[(c,s,j)]:=by
 unfold I3;rw [List.range_succ,List.filter_append,List.map_append];simp [hs]
theorem I3_no (h:Hs) (c s j:Nat) (hs:h.st c s j=0):I3 h c s (j+1)=I3 h c s j:=by
 unfold I3;rw [List.range_succ,List.filter_append,List.map_append];simp [hs]
theorem I3_zero (h:Hs) (c s:Nat):I3 h c s 0=[]:=rfl
theorem I3_len (h:Hs) (c s j:Nat):(I3 h c s j).length≤j:=by
 unfold I3;rw [List.length_map];have:=List.length_filter_le (fun k=>decide (h.st c s k≠0)) (List.range j);simpa using this
theorem I2_succ (h:Hs) (c s:Nat):I2 h c (s+1)=I2 h c s++I3 h c s (slN c):=by
 unfold I2;rw [List.range_succ,List.flatMap_append];simp
theorem I1_succ (h:Hs) (c:Nat):I1 h (c+1)=I1 h c++I2 h c 6:=by
 unfold I1;rw [List.range_succ,List.flatMap_append];simp
theorem I2_len (h:Hs) (c s:Nat) (hc:c < 12):(I2 h c s).length≤s*64:=by
 induction s with
 | zero=>simp [I2]
 | succ s ih =>
  rw [I2_succ,List.length_append];have h1:=I3_len h c s (slN c);have h2:=szN_in hc;omega
theorem I1_len (h:Hs) (c:Nat) (hc:c≤12):(I1 h c).length≤c*384:=by
 induction c with
 | zero=>simp [I1]
 | succ c ih =>
  rw [I1_succ,List.length_append];have h1:=I2_len h c 6 (by omega);have h2:=ih (by omega);omega
theorem info102:(Tryz.prog.info? 44).map (fun i=>(i.zero,i.size,i.bytes))=some (some (.agg #[Vi 0,Vi 0,Vi 0,Vi 0,Vi 0]),5,40):=by kernel_rfl
theorem app_in (W:World) (B:Nat) (v:Value) (h:Hs) (l:List (Nat×Nat×Nat)) (x:Nat×Nat×Nat) (g c:Nat) (hown:W.ownsRow B 44 5 v l.length (flatI h l)) (hg:W.heap[g]?=some (.cells (inC h x).toArray 44 (0,0))) (hl:l.length≤100000) (hB:B≤W.heap.size) :
  ∃ v' w',(Builtin.append_ #[32,32] 32 #[v,Vl g 1 c]).run Tryz.prog W=.ok v' w'∧w'.ownsRow B 44 5 v' (l++[x]).length (flatI h (l++[x]))∧W.grownBy w' v.ownBlock:=by
 obtain⟨i0,hi0,hz0,hz1,hz2⟩:=info_parts info102;have hnw:∀ j u,(inC h x)[j]?=some u→W.cell? ((⟨g,0,none⟩:Addr).add j)=some u:=fun j u hj=>by
  rw [Addr.add_mid,Nat.zero_add,cell_of_row _ _ j _ _ _ hg];simpa using hj
 have h1:∀ u∈inC h x,u.oneCell'=true:=fun u hu=>by
  simp only [inC,List.mem_cons,List.not_mem_nil,or_false] at hu
  rcases hu with rfl|rfl|rfl|rfl|rfl <;> rfl
 obtain⟨v',w',e1,e2,e3,_⟩:=run_append_own (P:=Tryz.prog) W B 32 32 44 i0 _ 5 40 Tryz.underlying32 hi0 hz0 hz1 hz2 rfl (by omega) v _ _ hown ⟨g,0,none⟩ 1 c (inC h x) rfl hnw h1 (by unfold maxLen;omega) (by omega) hB;exact⟨v',w',e1,by rw [flatI_snoc,List.length_append];exact e2,e3⟩
def slab72 (y:Ly):List Value:=(List.range 72).map fun i=>Vp (y.sb (i/6) (i % 6)) 0
theorem Hp.range72 {B:Nat} {y:Ly} {d:Dy} {cf:Cf} {h:Hs} {W:World} (hp:Hp B y d cf h W):W.rangeAt y.P 7 (slab72 y):=by
 intro j v hv;have hj:j < 72:=by have:=(List.getElem?_eq_some_iff.1 hv).1;simpa [slab72] using this
 rw [hp.cell (7+j) (by omega) _ rfl];unfold boxF;rw [if_neg (by omega),if_pos (by omega),show 7+j - 7=j by omega];rw [←hv];simp [slab72,hj]
theorem ix69 (y:Ly) (k:Nat) (hk:k < 12) (w:World):(Instr.index 82 (.agg (slab72 y).toArray) (Vi (k:Nat))).run Tryz.prog w=.ok (.agg (slab6 y k).toArray) w:=by
 rcases (show k=0∨k=1∨k=2∨k=3∨k=4∨k=5∨k=6∨k=7∨k=8∨k=9∨k=10∨k=11 by omega) with rfl|rfl|rfl|rfl|rfl|rfl|rfl|rfl|rfl|rfl|rfl|rfl <;> kernel_rfl
theorem ix68 (y:Ly) (c k:Nat) (hk:k < 6) (w:World):(Instr.index 81 (.agg (slab6 y c).toArray) (Vi (k:Nat))).run Tryz.prog w=.ok (Vp (y.sb c k) 0) w:=by
 rcases (show k=0∨k=1∨k=2∨k=3∨k=4∨k=5 by omega) with rfl|rfl|rfl|rfl|rfl|rfl <;> kernel_rfl
structure Sv (b g:Nat) (s j:Nat) (st rq:Int) (V:World):Prop where
 c0:V.cell? ⟨b,1,none⟩=some (Vi (s:Nat))
 c1:V.cell? ⟨g,3,none⟩=some (Vi (j:Nat))
 c2:V.cell? ⟨g,0,none⟩=some (Vi st)
 c3:V.cell? ⟨g,1,none⟩=some (Vi rq)
theorem Sv.at {b g s j:Nat} {st rq:Int} {c:Nat} {on:Bool} {r n cap:Nat} {V:World} (h1:V.heap[b]?=some (.cells (sbC c s on r n cap) 163 (0,0))) (h2:V.heap[g]?=some (.cells (smC st rq b j) 168 (0,0))):Sv b g s j st rq V :=
 ⟨by rw [cell_of_row _ _ _ _ _ _ h1];rfl,by rw [cell_of_row _ _ _ _ _ _ h2];rfl,by rw [cell_of_row _ _ _ _ _ _ h2];rfl,by rw [cell_of_row _ _ _ _ _ _ h2];rfl⟩
theorem Sv.below {b g s j:Nat} {st rq:Int} {V V':World} (h:Sv b g s j st rq V) (k:Below V.heap.size V V'):Sv b g s j st rq V':=⟨below_cell k h.c0,below_cell k h.c1,below_cell k h.c2,below_cell k h.c3⟩
theorem im_toldSlots (B:Nat) (y:Ly) (d:Dy) (cf:Cf) (h:Hs) (W:World) (hp:Hp B y d cf h W) :
  Calls Tryz.prog 73 #[Vp y.P 0] W fun e W'=>∃ v,e=.returned v∧W'.ownsRow W.heap.size 44 5 v (I1 h 12).length (flatI h (I1 h 12))∧Below W.heap.size W W':=by
 have RG:=hid hp.range72;have I69:=hid (fun k hk w=>ix69 y k hk w);have I68:=hid (fun c k hk w=>ix68 y c k hk w);unfold slab6 at I69 I68;have HPB:=hid (fun V (hV:Below W.heap.size W V)=>hp.below hV);have SN:=hid (fun c (hc:c < 12)=>(szN_in hc));clear hp;go_enter Tryz.func73,Tryz.ntmps73;go_wp2_with (refine wpList_load_mid rfl 82 _ rfl _ _ rfl _ _ RG.out Tryz.underlying82 rfl (by kernel_rfl) ?_);generalize hA72:(slab72 y).toArray=A72 at *;clear hA72 RG;go_loopw [3,14] (fun v i wr=>∃ c:Nat,c≤12∧i=Vi c∧Hid (wr.ownsRow W.heap.size 44 5 v (I1 h c).length (flatI h (I1 h c)))∧Hid (Below W.heap.size W wr)) (fun _ i _=>12 - (intOf i).toNat)
 case atStart=>exact ⟨0,by omega,rfl,hid ⟨rfl,.inl ⟨rfl,rfl⟩⟩,hid (Below.refl _ _)⟩
 case round =>
  obtain⟨c,hc,rfl,HO,HB⟩:=hrel;obtain⟨va,vb,vc,rfl⟩:=own_sl4 HO.out
  by_cases hlt:c < 12
  ·have hcl:(c:Int) < 12:=by omega
   have i69:=fun w=>I69.out c hlt w
   have bA:Below wr.heap.size wr (wr.alloc (.cells #[Vp (y.sb c 0) 0,Vp (y.sb c 1) 0,Vp (y.sb c 2) 0,Vp (y.sb c 3) 0,Vp (y.sb c 4) 0,Vp (y.sb c 5) 0] 81)):=(Below.refl _ _).alloc (Nat.le_refl _) _;have O1:=hid (own_bel HO.out bA);have B1:=hid (HB.out.trans (bA.mono HB.out.size));have hsn:=SN.out c hlt;have hI1:=I1_len h c (by omega);clear HO HB bA;go_wp2_with fail;generalize wr.alloc _=V1 at O1 B1 ⊢;go_loopw [3,19] (fun v i wr=>∃ s:Nat,s≤6∧i=Vi s∧Hid (wr.ownsRow W.heap.size 44 5 v (I1 h c++I2 h c s).length (flatI h (I1 h c++I2 h c s)))∧Hid (Below W.heap.size W wr)) (fun _ i _=>6 - (intOf i).toNat)
   case atStart=>exact ⟨0,by omega,rfl,hid (by rw [show I2 h c 0=[] from rfl,List.append_nil];exact O1.out),B1⟩
   case round =>
    clear O1 B1;obtain⟨s,hs,rfl,HO,HB⟩:=hrel;obtain⟨va,vb,vc,rfl⟩:=own_sl4 HO.out
    by_cases hst:s < 6
    ·have hsl:(s:Int) < 6:=by omega
     have i68:=fun w=>I68.out c s hst w
     have d3:=(HPB.out wr HB.out).bc c s hlt hst |>.d3
     have hI2:=I2_len h c s hlt;have HR:=hid (fun V (hV:Below W.heap.size W V) j (hj:j < slN c)=>And.intro ((HPB.out V hV).rowAt c s j hlt hst hj) (Sv.at ((HPB.out V hV).sl c s hlt hst) ((HPB.out V hV).sm c s j hlt hst hj)));have HY:=hid (fun j (hj:h.st c s j≠0)=>I3_yes h c s j hj);have HN:=hid (fun j (hj:h.st c s j=0)=>I3_no h c s j hj);have HL:=hid (fun j=>I3_len h c s j);obtain⟨n,hn⟩:∃ n,slN c=n:=⟨_,rfl⟩;have HNE:=hid hn;rw [hn] at d3 HR hsn;generalize y.sr c s=r at *;generalize y.sc c s=cap9 at *;go_wp2_with fail;go_loopw [3,27] (fun v i wr=>∃ j:Nat,j≤n∧i=Vi j∧Hid (wr.ownsRow W.heap.size 44 5 v (I1 h c++I2 h c s++I3 h c s j).length (flatI h (I1 h c++I2 h c s++I3 h c s j)))∧Hid (Below W.heap.size W wr)) (fun _ i _=>n - (intOf i).toNat)
     case atStart=>exact ⟨0,by omega,rfl,hid (by rw [I3_zero,List.append_nil];exact HO.out),HB⟩
     case round =>
      clear HO HB d3;obtain⟨j,hj,rfl,HO,HB⟩:=hrel;obtain⟨va,vb,vc,rfl⟩:=own_sl4 HO.out
      by_cases hjt:j < n
      ·obtain⟨r0,sv⟩:=HR.out wr HB.out j hjt;have st0:=sv.c2;have hlen:(I1 h c++I2 h c s++I3 h c s j).length≤100000:=by
        rw [List.length_append,List.length_append];have:=HL.out j;omega
       by_cases h0:h.st c s j=0
       ·have EN:=hid (HN.out j h0);rw [h0] at st0;clear sv;go_wp2;go_roundw
        case rel=>exact ⟨j+1,by omega,by go_num,hid (by rw [EN.out];exact HO.out),HB⟩
        case measure=>simp [intOf];omega
       have EY:=hid (HY.out j h0);have h0':(h.st c s j==0)=false:=by simpa using h0
       have h0'':(h.st c s j != 0)=true:=by simpa using h0
       have SD:=hid (sv.below (Below.refl _ wr).drew);have bD:Below wr.heap.size wr wr.drew:=(Below.refl _ _).drew;have bA:Below wr.drew.heap.size wr.drew (wr.drew.alloc (.cells (inC h (c,s,j)).toArray 44)):=(Below.refl _ _).alloc (Nat.le_refl _) _;have BA:=hid ((HB.out.trans (bD.mono HB.out.size)).trans (bA.mono (Nat.le_trans HB.out.size bD.size)));obtain⟨v',U,happ,o9,g9⟩:=app_in _ W.heap.size (.slice va vb vc) h (I1 h c++I2 h c s++I3 h c s j) (c,s,j) wr.drew.heap.size 1 (own_bel (own_bel HO.out bD) bA) (al_last wr.drew _) hlen BA.out.size;obtain⟨wa,wb,wc,rfl⟩:=own_sl4 o9;have BU:=hid (BA.out.grown g9 BA.out.size (fun p hp=>(own_lt (own_bel (own_bel HO.out bD) bA) hp).1));have SA:=hid (SD.out.below bA);have SU:=hid (show Sv (y.sb c s) (y.sm c s j) s j (h.st c s j) (h.rq c s j) U from (HR.out U BU.out j hjt).2);have O9:=hid o9;clear o9 g9 bA bD sv HO HB BA;unfold inC at happ SA;go_upto_region 12 with fail
       refine wp_region_held (S:=Sv (y.sb c s) (y.sm c s j) s j (h.st c s j) (h.rq c s j)) (by kernel_rfl) ?_;simp only [List.size_toArray,List.length_cons,List.length_nil,Nat.reduceAdd,Array.replicate_succ,Array.replicate_zero,List.push_toArray,List.nil_append,List.cons_append];generalize hV1:wr.drew=V1 at SD SA happ;have hV1':({ heap:=wr.heap,tape:=wr.tape,drawn:=wr.drawn+1,os:=wr.os,output:=wr.output } : World)=V1:=hV1;rw [hV1'];clear hV1 hV1' r0 st0 i68 i69;have hS:=SD.out
       iterate 21 (refine py hS ?_;simp only [f0,f1,Nat.reduceAdd,lz,l0,ls])
       refine po 21 fun K' hK=>?_
       go_simp;refine hK.out _ _ ⟨SA.out,?_⟩;clear hS;have hS:=SA.out;clear hK K';refine po 22 fun K' hK=>?_
       refine wpo_append 32 (.tmp 37) (.tmp 58) (v:=.slice va vb vc) (v2:=Vl V1.heap.size 1 1) (by kernel_rfl) (by kernel_rfl) (by kernel_rfl) (by kernel_rfl) happ ?_;refine hK.out _ _ ⟨SU.out,?_⟩;clear hS;have hS:=SU.out;clear hK K';refine py hS ?_;simp only [f0,f1,Nat.reduceAdd,lz,l0,ls];refine wpAnyH_done (by kernel_rfl) ?_ _;go_wp2;go_roundw
       case rel=>exact ⟨j+1,by omega,by go_num,hid (by rw [EY.out,←List.append_assoc];exact O9.out),BU⟩
       case measure=>simp [intOf];omega
      obtain rfl:j=n:=by omega
      go_wp2;go_roundw
      case rel=>exact ⟨s+1,by omega,by go_num,hid (by rw [I2_succ,HNE.out,←List.append_assoc];exact HO.out),HB⟩
      case measure=>simp [intOf];omega
    obtain rfl:s=6:=by omega
    go_wp2;go_roundw
    case rel=>exact ⟨c+1,by omega,by go_num,hid (by rw [I1_succ];exact HO.out),HB⟩
    case measure=>simp [intOf];omega
  obtain rfl:c=12:=by omega
  go_wp2;go_ret;exact⟨_,rfl,HO.out,HB.out⟩
end Go.Proofs.YtacccpkmgkojiaaGreatDoorRR
namespace Go.Proofs.YtacccpkmgkojiaaGreatDoorRR
set_option linter.unusedVariables false
set_option linter.unusedSimpArgs false
set_option maxRecDepth 20000
set_option maxHeartbeats 8000000
open Go.ChangeShapes Go.WideShapes Go.ChangeAt Go.RowKit Go.Maps Go.Shelf
theorem told_in2 (hso:Sorts) (S M nn:Nat) (bud:Int) (f:Nat→Option Nat) (m:Nat→Option (Bool×List Int)) (w:World) (h:Im S M 0 nn bud f w) (hp:Pg f m w) :
  Calls Tryz.prog 72 #[Vp S 0] w fun e w'=>∃ v os,e=.returned (.tuple #[Vi (heldN f 0 4096:Nat),v])∧w'.ownsRow w.heap.size 3 1 v os.length (Ns .i64 (os.mergeSort fun x y=>decide (x≤y)))∧Met m (fun _=>false) os∧Below w.heap.size w w':=by
 obtain⟨i0,hi0,hz0,hz1,hz2⟩:=info_parts Tryz.info3Op;have HI:=hid h;have HP:=hid hp;have HSO:=hid hso;clear h hp hso
 go_enter_defers Tryz.func72,Tryz.ntmps72
 go_wp2_with fail;refine (im_lock HI.out).mono ?_;rintro e V ⟨rfl,hV⟩;have IV:=hid (hV▸HI.out.st 1);have PV:=hid (show Pg f m V by rw [hV];exact HP.out.other (fun k b hb=>Below.heap_setCell _ _ _ _ (HP.out.apart HI.out hb).1));have FV:=hid (show Fr S M f f w V by rw [hV];exact (Fr.refl S M f w).grownS (grown_set (grown_refl w S) 0 _));obtain⟨D,hown,hsz,hat,hhas,honly⟩:=IV.out.only;have HD:=hid (And.intro hat (And.intro hhas honly));have cM:V.cell? ⟨S,4,none⟩=some (.map (some M)):=by simp [World.cell?,IV.out.box]
 have hb4:heldN f 0 4096≤4096:=heldN_le f 0 4096;have HVV:=hid hV;clear hV hat hhas honly;go_wp2_with (at_range;refine wpList_range_own _ rfl _ 143 rfl 3 182 keyed3 Tryz.underlying143 ptrE M 4096 D rfl hown ?_;intro w0 hrg0 hg0 hs0)
 go_frame
 have MV:=hid (show M < V.heap.size by obtain ⟨es,clock,hb,_⟩:=hown;exact lt_blk hb);have B0:=hid ((Below.refl V.heap.size V).grown hg0 (Nat.le_refl _) (by simp));have RG0:=hid hrg0;have SZ:=hid (show V.heap.size+1≤w0.heap.size by omega);have M0:=hid (show Met m (has D) [] from ⟨List.nodup_nil,fun z=>by
  constructor
  ·intro hz;cases hz
  rintro⟨k,rfl,h1,h2,h3⟩;obtain⟨g,hg⟩:=open_some PV.out h2;rw [HD.out.2.1 k (by omega),hg] at h3
  cases h3⟩)
 obtain⟨r,hr⟩:∃ r,r=V.heap.size:=⟨_,rfl⟩;rw [←hr] at RG0 SZ ⊢;have HRr:=hid hr;clear hrg0 hg0 hs0 hown hr;go_loopw [4] (fun v wr=>∃ (left:Lit→Bool) (cnt:Nat) (os:List Int),os.length+cnt≤heldN f 0 4096∧Hid (wr.ranges Tryz.prog 3 ptrE M r 4096 D left cnt)∧Hid (wr.ownsRow (r+1) 3 1 v os.length (Ns .i64 os))∧Hid (Met m left os)∧Hid (Below V.heap.size V wr)) (fun _ wr=>wr.rangeLeft M r)
 case atStart=>exact ⟨_,_,[],by simp [hsz],RG0,hid ⟨rfl,.inl ⟨rfl,rfl⟩⟩,M0,B0⟩
 case round =>
  obtain⟨left,cnt,os,hle,hrg,hrow,hmet,hbel⟩:=hrel;clear RG0 M0 B0;go_wp2_with (at_next;refine wpList_next_ranges _ rfl _ rfl 3 keyed3 ptrE (Value.int .i64) mkP (fun key kl hk=>by obtain ⟨x,rfl,_⟩:=Maps.keyOf_int_inv Tryz.underlying3 hk;exact⟨x,rfl⟩) (fun v y hv=>by exact (ptrE_inv hv).elim (fun ⟨b,e,_⟩=>⟨some b,e⟩) (fun ⟨e,_⟩=>⟨none,e⟩)) M r 4096 D left cnt rfl hrg.out ?_ ?_)
  ·intro hc0 hl0;have HM:=hid (show Met m (fun _=>false) os from ⟨hmet.out.1,fun z=>by rw [hmet.out.2 z];simp [hl0]⟩);have HSV:=HSO.out _ os wr (r+1) hrow.out (by omega);obtain⟨vp,vl,vc,rfl⟩:∃ p l c,u4=.slice p l c:=by
    rcases hrow.out.2 with ⟨rfl,_⟩|⟨g,cap,cur,rfl,_⟩
    ·exact⟨_,_,_,rfl⟩
    exact⟨_,_,_,rfl⟩
   have hob:=own_base hrow.out;have HX:=hid HSV;have OB:=hid hob;clear HSV hob hc0 hl0 hrg hmet;go_wp2_with fail;refine (HX.out).mono ?_;rintro e w5 ⟨rfl,ho5,hg5⟩;have B5:=hid (hbel.out.grown hg5 hbel.out.size (fun g e=>by have:=OB.out g e;have:=HRr.out;omega));have I5:=hid (IV.out.grown (W':=w5) ⟨B5.out.os,B5.out.tape,B5.out.output,B5.out.size,fun k h _=>B5.out.block k h⟩);have H5:=hid ho5;have c4:w5.cell? ⟨S,4,none⟩=some (.map (some M)):=by simp [World.cell?,I5.out.box]
   clear ho5 hg5 hbel hrow HX;go_wp2_with (at_len;refine wpList_len_im _ rfl _ rfl I5.out rfl ?_);refine leaves_cons (f:=105) (args:=#[Vp S 0]) (by simp) (by simp [go_sem]) ?_;refine (Go.MuLone.unlock_deferred muLib ⟨S,0,none⟩ .returning _ (by simp [World.cell?,I5.out.box]) (by simp [World.frozen?,I5.out.box])).mono ?_;rintro e u' w'' ⟨rfl,rfl,rfl⟩;have hSr:S < r+1:=by have:=HRr.out;have:=lt_blk IV.out.box;omega
   have g6:=grown_set (grown_refl w5 S) 0 (.int .i32 0);have bx6:=(I5.out.st 0).box;refine⟨_,results_tmp2 (t:=2) (u:=3) (by rfl) _ _ _,_,os,rfl,own_mono (H5.out.kept g6 (.inr fun e=>by have:=OB.out _ e;omega)) ?_,HM.out,⟨g6.os.trans (B5.out.os.trans FV.out.os),g6.tape.trans (B5.out.tape.trans FV.out.tape),g6.output.trans (B5.out.output.trans FV.out.output),Nat.le_trans (Nat.le_trans FV.out.size B5.out.size) g6.size,fun k hk=>?_⟩⟩
   ·have:=HRr.out;have:=FV.out.size;omega
   by_cases e:k=S
   ·subst e;rw [bx6,HI.out.box]
   have hkV:k < V.heap.size:=Nat.lt_of_lt_of_le hk FV.out.size;rw [g6.block k (Nat.lt_of_lt_of_le hkV B5.out.size) (by simpa using e),B5.out.block k hkV,HVV.out,Below.heap_setCell _ _ _ _ e]
  intro x c kl yd yp w2 cnt2 hkey hlk hv hat hrg2 hlt hg2 hs2 hen;obtain⟨x',ex,rfl,_⟩:=Maps.keyOf_int_inv Tryz.underlying3 hkey
  cases ex
  obtain⟨k,rfl,hk4,hfk⟩:=HD.out.2.2 _ (has_true_of_atKey hat);obtain⟨g,hg⟩:=Option.isSome_iff_exists.1 hfk;have e1:=hat .nil;rw [HD.out.1 k (by omega),hg] at e1;obtain rfl:c=some g:=by
   cases c with
   | none=>simp [mkP,ptrE] at hv;rw [←hv.1] at e1;simp [asD] at e1
   | some b =>
    simp [mkP,ptrE] at hv;rw [←hv.1] at e1;simp [asD] at e1;have:b=g:=by omega
    rw [this]
  obtain⟨l,xs,hm,hxl,hb⟩:=PV.out.cell hg;have B2:=hid (hbel.out.grown hg2 hbel.out.size (fun j e=>by cases e;have:=HRr.out;omega));have cl:w2.cell? ⟨g,1024,none⟩=some (.bool l):=below_cell B2.out (PV.out.lockCell hg hm).1;have R2:=hid (hrow.out.kept hg2 (.inr fun e=>by have:=own_base hrow.out _ e;omega));have G2:=hid hrg2;have ST:=hid (hmet.out.step hk4 hlk);have LE:=hid (And.intro hrg2.left_eq hrg.out.left_eq);have S2:=hid hs2;have hlo:=hrg.out.lt;unfold mkP at hen ⊢;simp only [Option.map_some] at hen ⊢;have ho:isOpen (m k) = !l:=by rw [hm];rfl
  clear hkey hlk hv hat hrg2 hg2 hs2 hfk hg e1 hb hxl hrow hmet hbel hrg
  cases l with
  | true =>
   go_wp2;go_roundw
   case rel=>exact ⟨_,cnt2,os,by omega,G2,R2,ST.out.2 (by rw [ho];rfl),B2⟩
   case measure=>rw [LE.out.1,LE.out.2];exact hlt
  | false =>
   have R3:=hid (R2.out.alloc (.cells #[Vi (k:Int)] 3));have B3:=hid (B2.out.alloc B2.out.size (.cells #[Vi (k:Int)] 3));go_wp2_with (at_builtin;refine wpList_append_own _ rfl _ _ 24 rfl (r+1) 3 i0 (Vi 0) 1 8 Tryz.underlying24 hi0 hz0 hz1 hz2 rfl (by omega) _ _ _ rfl R3.out _ 1 1 [Vi (k:Int)] rfl rfl ?hc ?h1c ?b1 ?b2 ?b3 ?_)
   case hc=>exact one_new _ _ _ _ (by simp)
   case h1c=>intro u hu;simp at hu;subst hu;rfl
   case b1=>unfold maxLen;omega
   case b2=>omega
   case b3=>have:=S2.out;have:=HRr.out;simp;omega
   intro v1 w3 ho1 hg3 _;have hob:=own_base R3.out;have G3:=hid ((G2.out.alloc (.cells #[Vi (k:Int)] 3)).kept hg3 (fun e=>by have:=hob _ e.symm;have:=MV.out;have:=HRr.out;omega) (fun e=>by have:=hob _ e.symm;omega));have B4:=hid (B3.out.grown hg3 B3.out.size (fun j e=>by have:=hob _ e;have:=HRr.out;omega));have O3:=hid (show w3.ownsRow (r+1) 3 1 v1 (os++[(k:Int)]).length (Ns .i64 (os++[(k:Int)])) by rw [List.length_append];simpa [Ns] using ho1);have LE3:=hid G3.out.left_eq;clear ho1 hg3 hob;go_wp2;go_roundw
   case rel=>exact ⟨_,cnt2,os++[(k:Int)],by rw [List.length_append];simp;omega,G3,O3,ST.out.1 (by rw [ho];rfl),B4⟩
   case measure=>rw [LE3.out,LE.out.2];exact hlt
theorem im_spaceTold (S M:Nat) (bud:Int) (f:Nat→Option Nat) (m:Nat→Option (Bool×List Int)) (w:World) (h:Im S M 0 283 bud f w) (hp:Pg f m w) (hout:∀ k,283≤k→m k=none) :
  Calls Tryz.prog 72 #[Vp S 0] w fun e w'=>∃ v,e=.returned (.tuple #[Vi (heldN f 0 4096:Nat),v])∧w'.ownsRow w.heap.size 3 1 v (opensM m 283).length (Ns .i64 (opensM m 283))∧Below w.heap.size w w':=by
 refine (told_in2 sorts S M 283 bud f m w h hp).mono ?_;rintro e w' ⟨v,os,rfl,ho,hm,hb⟩;have hs:(os.mergeSort fun x y=>decide (x≤y))=opensM m 283:=sort_opens m 283 os hm.1 (fun z=>by
  rw [hm.2 z];constructor
  ·rintro⟨k,rfl,h1,h2,_⟩;refine⟨k,rfl,?_,h2⟩
   by_cases hk:k < 283
   ·exact hk
   rw [hout k (by omega)] at h2;simp [isOpen] at h2
  rintro⟨k,rfl,h1,h2⟩;exact⟨k,rfl,by omega,h2,rfl⟩)
 have hl:os.length=(opensM m 283).length:=by rw [←hs,List.length_mergeSort]
 rw [hs,hl] at ho;exact⟨v,rfl,ho,hb⟩
end Go.Proofs.YtacccpkmgkojiaaGreatDoorRR
namespace Go.Proofs.YtacccpkmgkojiaaGreatDoorRR
set_option linter.unusedVariables false
set_option linter.unusedSimpArgs false
set_option maxRecDepth 20000
set_option maxHeartbeats 8000000
open Go.RowKit Go.Maps
theorem eql33n (w:World):(binOp .eql 35 (Vn) (Vn)).run Tryz.prog w=.ok (.bool true) w:=by kernel_rfl
theorem eql33s (x:Addr) (n c:Nat) (w:World):(binOp .eql 35 (.slice (some x) n c) (Vn)).run Tryz.prog w=.ok (.bool false) w:=by kernel_rfl
theorem im_clone_nil (W:World):Calls Tryz.prog 76 #[Vn] W fun e W'=>e=.returned (Vn)∧W'=W:=by
 have e1:=eql33n;go_enter Tryz.func76,Tryz.ntmps76;go_wp2;go_ret;exact⟨rfl,rfl⟩
theorem im_clone_at (x:Addr) (c:Nat) (l:List Nat) (W:World) (hx:∀ j u,(Us l)[j]?=some u→W.cell? (x.add j)=some u) (hl:l.length≤100000) :
  Calls Tryz.prog 76 #[.slice (some x) l.length c] W fun e W'=>∃ v,e=.returned v∧W'.ownsRow W.heap.size 23 1 v l.length (Us l)∧Below W.heap.size W W':=by
 have bA:Below W.heap.size W (W.alloc (.cells #[] 23)):=(Below.refl _ _).alloc (Nat.le_refl _) _;obtain⟨v',U,happ,o9,g9⟩:=app_us (W.alloc (.cells #[] 23)) W.heap.size (Vl W.heap.size 0 0) [] l x c ⟨rfl,.inr ⟨W.heap.size,0,#[],rfl,Nat.le_refl _,al_last W _,Nat.le_refl _,Nat.zero_le _,rfl,rfl⟩⟩ (fun j u hj=>below_cell bA (hx j u hj)) (by simpa using hl) bA.size;have HF:=hid (And.intro o9 (bA.grown g9 bA.size (fun r hr=>by simp [Value.ownBlock] at hr;omega)));clear o9 g9 bA hx;generalize hn:l.length=n at *;have e1:=eql33s x n c;go_enter Tryz.func76,Tryz.ntmps76;go_wp2_with (at_builtin;refine list_app rfl _ _ rfl rfl rfl rfl happ ?_);go_wp2;go_ret;exact⟨_,rfl,by simpa [hn] using HF.out.1,HF.out.2⟩
theorem im_clone (B:Nat) (v:Value) (l:List Nat) (W:World) (h:Um B W v l) (hl:l.length≤100000) :
  Calls Tryz.prog 76 #[v] W fun e W'=>∃ v',e=.returned v'∧W'.ownsRow W.heap.size 23 1 v' l.length (Us l)∧Below W.heap.size W W':=by
 rcases h with ⟨rfl,rfl⟩|⟨g,o,cap,c,rfl,h1,h2,h3,h4,h5⟩
 ·refine (im_clone_nil W).mono ?_;rintro e W' ⟨rfl,rfl⟩;exact⟨_,rfl,⟨rfl,.inl ⟨rfl,rfl⟩⟩,Below.refl _ _⟩
 refine im_clone_at ⟨g,o,none⟩ cap l W (fun j u hj=>?_) hl;have hj':j < l.length:=by have:=(List.getElem?_eq_some_iff.1 hj).1;simpa [Us_len] using this
 rw [Addr.add_mid,cell_of_row _ _ _ _ _ _ h2,h5.2.2 j hj',←hj];simp [Us,hj']
end Go.Proofs.YtacccpkmgkojiaaGreatDoorRR
