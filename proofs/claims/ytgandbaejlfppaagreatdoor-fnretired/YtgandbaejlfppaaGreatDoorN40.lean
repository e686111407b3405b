import Derived.Test.YtgandbaejlfppaaGreatDoorN37
import Derived.Test.YtgandbaejlfppaaGreatDoorN38
import Derived.Test.YtgandbaejlfppaaGreatDoorN39
namespace Go.Proofs.YtgandbaejlfppaaGreatDoor
set_option linter.unusedVariables false
set_option linter.unusedSimpArgs false
set_option maxRecDepth 20000
set_option maxHeartbeats 8000000
open Go.RowKit Go.Maps
structure Ra9 (B:Nat) (W:World) (l:List Aw) (v:Value):Prop where
 row:W.ownsRow B 45 4 v l.length (flatB l)
 dat:∀ z∈l,W.ownsRow B 5 1 z.2 z.1.data.length (Ns .u8 z.1.data)
 dis:l.Pairwise fun y z=>∀ g,y.2.ownBlock=some g→z.2.ownBlock≠some g
theorem Ra9.ky {S:TypeId→Prop} {B:Nat} {W W':World} {l:List Aw} {v:Value} (r:Ra9 B W l v) (k:Ky S W W') (h1:¬S 45) (h2:¬S 5):Ra9 B W' l v :=
 ⟨own_ky r.row k h1,fun z hz=>own_ky (r.dat z hz) k h2,r.dis⟩
theorem Ra9.below {B:Nat} {W W':World} {l:List Aw} {v:Value} (r:Ra9 B W l v) (b:Below W.heap.size W W'):Ra9 B W' l v:=r.ky (Ky.below b:Ky (fun _=>False) W W') (fun e=>e) (fun e=>e)
theorem Ra9.nil (B:Nat) (W:World):Ra9 B W [] (Vn):=⟨⟨rfl,.inl ⟨rfl,rfl⟩⟩,(fun z hz=>by cases hz),List.Pairwise.nil⟩
theorem Ra9.ans {B:Nat} {W:World} {l:List Aw} {v:Value} (r:Ra9 B W l v) (hl:l.length≤300):Ans9 B W l v:=⟨r.row,hl⟩
theorem Hp.ky81 {B:Nat} {y:Ly} {d:Dy} {cf:Cf} {h:Hs} {V V':World} (hp:Hp B y d cf h V) (k:Ky (· = 45) V V') (b:Below B V V') (hM:V'.heap[y.M]?=V.heap[y.M]?) (hR:V'.heap[y.R]?=V.heap[y.R]?):Hp B y d cf h V' :=
 hp.keep ⟨k.more (fun t e=>by rw [e];decide),hM,hR⟩ b
theorem ru_add {B:Nat} {y:Ly} {d:Dy} {cf:Cf} {h:Hs} {V:World} {l:List Aw} {v:Value} (hp:Hp B y d cf h V) (gd:Gd d h v) (ra:Ra9 B V l v) (r:An4) (vd:Value) (base:Nat) (hbase:∀ z∈l,∀ g,z.2.ownBlock=some g→g < base) (hB:B≤base) (od:V.ownsRow base 5 1 vd r.data.length (Ns .u8 r.data)) (hl:l.length≤300) :
  ∃ v' U,(Builtin.append_ #[31,31] 31 #[v,Vl V.heap.size 1 1]).run Tryz.prog (V.alloc (.cells (aC (r,vd)).toArray 45))=.ok v' U∧U.cell? ⟨y.P,119,none⟩=some v∧U.frozen? ⟨y.P,119,none⟩=false∧(∃ d',Hp B y d' cf h (U.setCell ⟨y.P,119,none⟩ v')∧Gd d' h v')∧Ra9 B (U.setCell ⟨y.P,119,none⟩ v') (l++[(r,vd)]) v'∧Below B V (U.setCell ⟨y.P,119,none⟩ v'):=by
 have bA:Below V.heap.size V (V.alloc (.cells (aC (r,vd)).toArray 45)):=(Below.refl _ _).alloc (Nat.le_refl _) _;have hpA:=hp.below bA;have raA:=ra.below bA;have odA:=own_bel od bA;obtain⟨va,vn,vc,rfl⟩:=own_sl4 od;obtain⟨v',U,e1,e2,e3⟩:=app_an _ B v l (r,.slice va vn vc) V.heap.size 1 raA.row (al_last V _) rfl (by omega) hpA.bW;have kU:Ky (· = 45) _ U:=Ky.grownO (fun P hP=>by obtain ⟨_,c,hc⟩:=own_lt raA.row hP;exact⟨c,45,_,hc,rfl⟩) e3;have bU:Below B _ U:=(Below.refl B _).grown e3 hpA.bW (fun P hP=>(own_lt raA.row hP).1);have nb:∀ (g:Nat) es c,(V.alloc (.cells (aC (r,.slice va vn vc)).toArray 45)).heap[g]?=some (Obj.map es c)→U.heap[g]?=(V.alloc (.cells (aC (r,.slice va vn vc)).toArray 45)).heap[g]?:=fun (g:Nat) es c hg=>e3.block g (lt_blk hg) (fun e=>by
  obtain⟨_,c9,hc9⟩:=own_lt raA.row e.symm;rw [hg] at hc9;cases hc9)
 have hpU:Hp B y d cf h U:=by
  refine hpA.ky81 kU bU ?_ ?_
  ·obtain⟨D,⟨es,c2,h2,_⟩,_⟩:=hpA.sp.map;exact nb _ _ _ h2
  obtain⟨es,c2,h2⟩:=hpA.mp.typ;exact nb _ _ _ h2
 have cU:U.cell? ⟨y.P,119,none⟩=some v:=hpU.cell 119 (by omega) _ gd.an;have fU:=hpU.box.free 119;have hp2:=hpU.setDy 119 v' { d with an:=v' } (.inl ⟨rfl,rfl⟩);have k2:=hpU.box.kyS 119 v';have b2:Below B U (U.setCell ⟨y.P,119,none⟩ v'):=(Below.refl B U).setCell hpU.ap.bP _;refine⟨v',U,e1,cU,fU,⟨_,hp2,gd.on,gd.un,rfl⟩,⟨own_ky e2 k2 (by decide),fun z hz=>?_,?_⟩,((bA.mono hp.bW).trans bU).trans b2⟩
 ·rcases List.mem_append.1 hz with hz|hz
  ·exact own_ky (own_ky (raA.dat z hz) kU (by decide)) k2 (by decide)
  have:=List.mem_singleton.1 hz;subst this;exact own_mono9 (own_ky (own_ky odA kU (by decide)) k2 (by decide)) hB
 rw [List.pairwise_append];refine⟨ra.dis,List.pairwise_singleton _ _,fun z hz u hu g hg hg2=>?_⟩;have:=List.mem_singleton.1 hu;subst this;have h1:=(own_lt od hg2).1;have h2:=hbase z hz g hg;omega
theorem Ois.da {w W:World} {A:Option Addr} {ops:List Oin} (h:Ois w A ops) {B:Nat} {y:Ly} {d:Dy} {cf:Cf} {hh:Hs} (hp:Hp B y d cf hh W) (b:Below w.heap.size w W) (hB:w.heap.size≤B) {q:Oin} (hq:q∈ops):Da y.S y.M d.f W q.d q.o.ys.length q.o.ys:=by
 refine⟨rfl,fun i hi=>?_⟩;obtain⟨x,h1,h2,h3⟩:=h.dat q hq i hi;have s1:=hp.ap.bS;have s2:=hp.ap.bM;exact⟨x,h1,old_cell b h2,Nat.lt_of_lt_of_le h3 b.size,by omega,by omega,fun k e=>by have:=hp.bf k _ e;omega⟩
structure Oio (ops:List Oin):Prop where
 cap:∀ q∈ops,q.o.ys.length≤q.dc
 ref:∀ q∈ops,-9223372036854775808≤q.o.ref
 byt:∀ q∈ops,okB q.o.ys
structure Rst (B:Nat) (y:Ly) (cf:Cf) (w:World) (ops:List Oin) (k:Nat) (l:List Aw) (v:Value) (W:World):Prop where
 hg:∃ d,Hp B y d cf (runH cf ((ops.take k).map Oin.o) (newH cf) []).1 W∧Gd d (runH cf ((ops.take k).map Oin.o) (newH cf) []).1 v
 ok:Okh cf (runH cf ((ops.take k).map Oin.o) (newH cf) []).1 k
 ls:l.map (·.1)=(runH cf ((ops.take k).map Oin.o) (newH cf) []).2
 ra:Ra9 B W l v
 bel:Below w.heap.size w W
theorem Rst.len {B:Nat} {y:Ly} {cf:Cf} {w:World} {ops:List Oin} {k:Nat} {l:List Aw} {v:Value} {W:World} (r:Rst B y cf w ops k l v W) (hk:k≤ops.length):l.length=k:=by
 have:=congrArg List.length r.ls;rw [List.length_map,runH_len] at this;simpa [Nat.min_eq_left hk] using this
theorem Rst.first {B:Nat} {y:Ly} {cf:Cf} {w W:World} (ops:List Oin) (hp:Hp B y dyN cf (newH cf) W) (gd:Gd dyN (newH cf) (Vn)) (dk:Dok cf) (l1:1≤cf.large) (b:Below w.heap.size w W):Rst B y cf w ops 0 [] (Vn) W:=by
 have e:runH cf ((ops.take 0).map Oin.o) (newH cf) []=(newH cf,[]):=rfl;refine⟨⟨dyN,?_,?_⟩,?_,?_,Ra9.nil _ _,b⟩
 ·rw [e];exact hp
 ·rw [e];exact gd
 ·rw [e];exact⟨Inv.new cf,Byt.new cf,Few.new cf,by omega,dk,l1⟩
 rw [e];rfl
theorem take_step {ops:List Oin} {k:Nat} {q:Oin} (hq:ops[k]?=some q) (cf:Cf):runH cf ((ops.take (k+1)).map Oin.o) (newH cf) []=((stepH cf (runH cf ((ops.take k).map Oin.o) (newH cf) []).1 (runH cf ((ops.take k).map Oin.o) (newH cf) []).2 q.o).2,(runH cf ((ops.take k).map Oin.o) (newH cf) []).2++[(stepH cf (runH cf ((ops.take k).map Oin.o) (newH cf) []).1 (runH cf ((ops.take k).map Oin.o) (newH cf) []).2 q.o).1]):=by
 rw [List.take_add_one,hq];simp only [Option.toList_some,List.map_append,List.map_cons,List.map_nil];exact runH_snoc cf q.o _ _ _
end Go.Proofs.YtgandbaejlfppaaGreatDoor
namespace Go.Proofs.YtgandbaejlfppaaGreatDoor
set_option linter.unusedVariables false
set_option linter.unusedSimpArgs false
set_option maxRecDepth 20000
set_option maxHeartbeats 8000000
open Go.RowKit Go.Maps
def RcR (B:Nat) (y:Ly) (cf:Cf) (w:World) (ops:List Oin) (k:Nat) (l:List Aw) (v:Value) (r9:An4) (V:World) (e:Ending) (V':World):Prop:=∃ (a:Option Addr) (n c:Nat),e=.returned (.agg #[Vi r9.code,Vu (r9.addr:Nat),Vi (r9.size:Nat),.slice a n c])∧V'.cell? ⟨y.P,119,none⟩=some v∧(∀ (X:Nat) cc t f,t=42∨t=39→V.heap[X]?=some (.cells cc t f)→V'.heap[X]?=some (.cells cc t f)) ∧
 ∃ (a':Option Addr) (n' c':Nat) (U:World),(Builtin.append_ #[31,31] 31 #[v,Vl V'.heap.size 1 1]).run Tryz.prog (V'.alloc (.cells #[Vi r9.code,Vu (r9.addr:Nat),Vi (r9.size:Nat),.slice a n c] 45))=.ok (.slice a' n' c') U∧(V'.alloc (.cells #[Vi r9.code,Vu (r9.addr:Nat),Vi (r9.size:Nat),.slice a n c] 45)).cell? ⟨y.P,119,none⟩=some v∧U.cell? ⟨y.P,119,none⟩=some v∧U.frozen? ⟨y.P,119,none⟩=false∧(∀ (X:Nat) cc t f,t=42∨t=39→V'.heap[X]?=some (.cells cc t f)→(V'.alloc (.cells #[Vi r9.code,Vu (r9.addr:Nat),Vi (r9.size:Nat),.slice a n c] 45)).heap[X]?=some (.cells cc t f)∧U.heap[X]?=some (.cells cc t f)∧(U.setCell ⟨y.P,119,none⟩ (.slice a' n' c')).heap[X]?=some (.cells cc t f))∧∃ l',Rst B y cf w ops (k+1) l' (.slice a' n' c') (U.setCell ⟨y.P,119,none⟩ (.slice a' n' c'))
theorem Rst.call9 {B:Nat} {y:Ly} {cf:Cf} {w:World} {A:Option Addr} {ops:List Oin} {k:Nat} {l:List Aw} {v:Value} {W:World} (r:Rst B y cf w ops k l v W) (ho:Ois w A ops) (hi:Oio ops) (hB:w.heap.size≤B) (hN:ops.length≤300) {q:Oin} (hq:ops[k]?=some q) :
  ∃ r9,∀ V,Below W.heap.size W V→Calls Tryz.prog 17 #[Vp y.P 0,.agg #[Vi q.o.kd,Vi q.o.ref,Vu (q.o.p:Nat),Vu (q.o.a:Nat),Vu (q.o.b:Nat),.slice q.d q.o.ys.length q.dc]] V (RcR B y cf w ops k l v r9 V):=by
 have hlt:=(List.getElem?_eq_some_iff.1 hq).1;have hmem:=List.mem_of_getElem? hq;obtain⟨d,hp,gd⟩:=r.hg;have hlen:=r.len (by omega);have hw:=ho.wf q hmem;obtain⟨va,vn,vc,hv⟩:=own_sl4 r.ra.row;refine⟨(stepH cf (runH cf ((ops.take k).map Oin.o) (newH cf) []).1 (runH cf ((ops.take k).map Oin.o) (newH cf) []).2 q.o).1,fun V b=>?_⟩;have hpV:=hp.below b;have raV:=r.ra.below b;have belV:Below w.heap.size w V:=r.bel.trans (b.mono r.bel.size);rw [hv] at gd;have hA:Ans9 B V l (.slice va vn vc):=by rw [←hv];exact raV.ans (by omega)
 refine (im_run B B y d cf _ k l va vn vc q.o q.d q.dc V hpV gd r.ok (by omega) hA hw.1 hw.2.1 hw.2.2 (hi.ref q hmem) (hi.cap q hmem) (ho.da hpV belV hB hmem)).mono ?_;rintro e V' ⟨vd,rfl,od,⟨d2,hp2,gd2⟩,bi⟩;obtain⟨a9,n9,c9,rfl⟩:=own_sl4 od;rw [r.ls] at od hp2 gd2 ⊢;have c119:V'.cell? ⟨y.P,119,none⟩=some v:=by rw [hv];exact hp2.cell 119 (by omega) _ gd2.an
 refine⟨a9,n9,c9,rfl,c119,fun X cc t f ht hX=>bi.ky.cells _ _ _ _ hX (by rcases ht with rfl|rfl <;> (unfold hI;decide)),?_⟩;rw [←hv] at gd2;have raV':Ra9 B V' l v:=raV.ky bi.ky (by unfold hI;decide) (by unfold hI;decide);obtain⟨v',U,e1,e2,e3,⟨d9,hp9,gd9⟩,ra9,b9⟩:=ru_add hp2 gd2 raV' _ (.slice a9 n9 c9) V.heap.size (fun z hz g hg=>by
  obtain⟨_,c9,hc9⟩:=own_lt (raV.dat z hz) hg;exact lt_blk hc9) hpV.bW od (by omega)
 obtain⟨a8,n8,c8,rfl⟩:=own_sl4 ra9.row;have bA:Below V'.heap.size V' (V'.alloc (.cells (aC ((stepH cf (runH cf ((ops.take k).map Oin.o) (newH cf) []).1 (runH cf ((ops.take k).map Oin.o) (newH cf) []).2 q.o).1,.slice a9 n9 c9)).toArray 45)):=(Below.refl _ _).alloc (Nat.le_refl _) _;have raA:=raV'.below bA;obtain⟨v7,U7,f1,f2,f3⟩:=app_an _ B v l ((stepH cf (runH cf ((ops.take k).map Oin.o) (newH cf) []).1 (runH cf ((ops.take k).map Oin.o) (newH cf) []).2 q.o).1,.slice a9 n9 c9) V'.heap.size 1 raA.row (al_last V' _) rfl (by omega) (Nat.le_trans hp2.bW bA.size);have eU:U7=U:=by rw [e1] at f1;cases f1;rfl
 subst eU;have kU:Ky (· = 45) _ U7:=Ky.grownO (fun P hP=>by obtain ⟨_,c,hc⟩:=own_lt raA.row hP;exact⟨c,45,_,hc,rfl⟩) f3;refine⟨a8,n8,c8,U7,e1,below_cell bA c119,e2,e3,fun X cc t f ht hX=>?_,_,⟨d9,?_,?_⟩,?_,?_,ra9,belV.trans ((bi.bel.mono hB).trans (b9.mono hB))⟩
 ·have h1:=below_at hX bA;have h2:=kU.cells _ _ _ _ h1 (by rcases ht with rfl|rfl <;> decide);refine⟨h1,h2,?_⟩;rw [Below.heap_setCell _ _ _ _ (fun e=>?_)]
  ·exact h2
  have hbx:=(hp2.below bA).box.ky kU (by decide);obtain⟨c7,g1,_⟩:=hbx;rw [e] at h2;rw [g1] at h2
  cases h2
  rcases ht with e9|e9 <;> cases e9
 ·rw [take_step hq];exact hp9
 ·rw [take_step hq];exact gd9
 ·rw [take_step hq];obtain⟨i1,f1⟩:=r.ok.inv.step r.ok.dok.fifo1 r.ok.few (runH cf ((ops.take k).map Oin.o) (newH cf) []).2 q.o;exact⟨i1,r.ok.byt.step _ q.o (hi.byt q hmem),f1,by omega,r.ok.dok,r.ok.l1⟩
 rw [take_step hq,List.map_append,r.ls];rfl
structure Cq (X:Nat) (q:Oin) (V:World):Prop where
 c0:V.cell? ⟨X,0,none⟩=some (Vi q.o.kd)
 c1:V.cell? ⟨X,1,none⟩=some (Vi q.o.ref)
 c2:V.cell? ⟨X,2,none⟩=some (Vu (q.o.p:Nat))
 c3:V.cell? ⟨X,3,none⟩=some (Vu (q.o.a:Nat))
 c4:V.cell? ⟨X,4,none⟩=some (Vu (q.o.b:Nat))
 c5:V.cell? ⟨X,5,none⟩=some (.slice q.d q.o.ys.length q.dc)
theorem Cq.of {X:Nat} {q:Oin} {V:World} (h:V.heap[X]?=some (.cells #[Vi q.o.kd,Vi q.o.ref,Vu (q.o.p:Nat),Vu (q.o.a:Nat),Vu (q.o.b:Nat),.slice q.d q.o.ys.length q.dc] 42 (0,0))):Cq X q V:=by
 refine⟨?_,?_,?_,?_,?_,?_⟩ <;> (rw [cell_of_row _ _ _ _ _ _ h];rfl)
def ToldC (T9:Nat→Ly→Cf→Hs→World→Array Value→World→Prop):Prop:=∀ (B:Nat) (y:Ly) (d:Dy) (cf:Cf) (h:Hs) (k:Nat) (v:Value) (V:World),Hp B y d cf h V→Gd d h v→Okh cf h k →
 Calls Tryz.prog 18 #[Vp y.P 0] V fun e V'=>∃ m0 m1 m2 m3 m4 m5 m6 m7:Value,e=.returned (.agg #[m0,m1,m2,m3,m4,m5,m6,m7])∧(∀ v∈[m0,m1,m2,m3,m4,m5,m6,m7],v.oneCell'=true)∧T9 B y cf h V #[m0,m1,m2,m3,m4,m5,m6,m7] V'∧Below V.heap.size V V'
end Go.Proofs.YtgandbaejlfppaaGreatDoor
namespace Go.Proofs.YtgandbaejlfppaaGreatDoor
set_option linter.unusedVariables false
set_option linter.unusedSimpArgs false
set_option maxRecDepth 20000
set_option maxHeartbeats 8000000
open Go.RowKit Go.Maps
def RhR (T9:Nat→Ly→Cf→Hs→World→Array Value→World→Prop) (cf:Cf) (ops:List Oin) (w:World) (e:Ending) (W':World):Prop:=∃ (B:Nat) (y:Ly) (l:List Aw) (va:Value) (m0 m1 m2 m3 m4 m5 m6 m7:Value) (V V':World) (X:Nat),e=.returned (.agg #[.bool true,va,m0,m1,m2,m3,m4,m5,m6,m7])∧w.heap.size≤B∧Rst B y cf w ops ops.length l va V∧T9 B y cf (runH cf (ops.map Oin.o) (newH cf) []).1 V #[m0,m1,m2,m3,m4,m5,m6,m7] V'∧Below V.heap.size V V'∧V'.heap[X]?=some (.cells #[.bool false,Vn,Vi 0,Vn,Vn,Vn,Vn,Vn,Vn,Vi 0] 39 (0,0))∧W'=V'.setRow X #[.bool true,va,m0,m1,m2,m3,m4,m5,m6,m7]∧w.heap.size≤X∧X < B
theorem im_RunHeap (T9:Nat→Ly→Cf→Hs→World→Array Value→World→Prop) (TC:ToldC T9) (cf:Cf) (da:Option Addr) (dc:Nat) (A:Option Addr) (cap:Nat) (ops:List Oin) (w:World) (dk:Dok cf) (l1:1≤cf.large) (tb:Tb w) (ds:Sl w da cf.ds) (dab:∀ a,da=some a→a.block < w.heap.size) (h0:0 < w.heap.size) (ho:Ois w A ops) (hi:Oio ops) (hN:ops.length≤300) :
  Calls Tryz.prog 8 #[cfgV cf da dc,.slice A ops.length cap] w (RhR T9 cf ops w):=by
 unfold cfgV;have hok:okC (cf.mix:Nat) (cf.fifo:Nat) (cf.large:Nat) (cf.bud:Nat) cf.ds.length:=by
  have h1:=dk.mix;have h2:=dk.fifo1;have h3:=dk.fifo;have h4:=dk.large;have h5:=dk.bud;have h6:=dk.len;unfold okC;omega
 have b1:Below w.heap.size w (w.alloc (.cells #[Vi (cf.mix:Nat),Vi (cf.fifo:Nat),Vi (cf.large:Nat),Vi (cf.bud:Nat),Vu cf.key,.slice da cf.ds.length dc] 26)):=(Below.refl _ _).alloc (Nat.le_refl _) _;have b2:Below w.heap.size w ((w.alloc (.cells #[Vi (cf.mix:Nat),Vi (cf.fifo:Nat),Vi (cf.large:Nat),Vi (cf.bud:Nat),Vu cf.key,.slice da cf.ds.length dc] 26)).alloc (.cells #[.bool false,Vn,Vi 0,Vn,Vn,Vn,Vn,Vn,Vn,Vi 0] 39)):=b1.alloc b1.size _;have X4:=hid (show ((w.alloc (.cells #[Vi (cf.mix:Nat),Vi (cf.fifo:Nat),Vi (cf.large:Nat),Vi (cf.bud:Nat),Vu cf.key,.slice da cf.ds.length dc] 26)).alloc (.cells #[.bool false,Vn,Vi 0,Vn,Vn,Vn,Vn,Vn,Vn,Vi 0] 39)).heap[w.heap.size+1]?=some (.cells #[.bool false,Vn,Vi 0,Vn,Vn,Vn,Vn,Vn,Vn,Vi 0] 39 (0,0)) by rw [←al_size w (.cells #[Vi (cf.mix:Nat),Vi (cf.fifo:Nat),Vi (cf.large:Nat),Vi (cf.bud:Nat),Vu cf.key,.slice da cf.ds.length dc] 26)];exact al_last _ _);have X2:=hid (below_at (al_last w (.cells #[Vi (cf.mix:Nat),Vi (cf.fifo:Nat),Vi (cf.large:Nat),Vi (cf.bud:Nat),Vu cf.key,.slice da cf.ds.length dc] 26)) ((Below.refl _ _).alloc (Nat.le_refl _) (.cells #[.bool false,Vn,Vi 0,Vn,Vn,Vn,Vn,Vn,Vn,Vi 0] 39)));have GO:=hid (im_good (cf.mix:Nat) (cf.fifo:Nat) (cf.large:Nat) (cf.bud:Nat) cf.key da cf.ds.length dc _ (tb.ofBelow b2));rw [decide_eq_true hok] at GO;have B2:=hid b2;have NH:=hid (fun V (hV:Below w.heap.size w V)=>im_newHeap cf da dc V dk (tb.ofBelow hV) (ds.below hV) (fun a ha=>Nat.lt_of_lt_of_le (dab a ha) hV.size) (Nat.lt_of_lt_of_le h0 hV.size));unfold cfgV at NH;have CC:=hid (show ∀ V:World,V.heap[w.heap.size]?=some (.cells #[Vi (cf.mix:Nat),Vi (cf.fifo:Nat),Vi (cf.large:Nat),Vi (cf.bud:Nat),Vu cf.key,.slice da cf.ds.length dc] 26 (0,0))→∀ j u,(#[Vi (cf.mix:Nat),Vi (cf.fifo:Nat),Vi (cf.large:Nat),Vi (cf.bud:Nat),Vu cf.key,.slice da cf.ds.length dc]:Array Value)[j]?=some u→V.cell? ⟨w.heap.size,j,none⟩=some u from fun V hV j u hj=>by rw [cell_of_row _ _ _ _ _ _ hV];exact hj);have u0:=CC.out _ X2.out 0 _ rfl;have u1:=CC.out _ X2.out 1 _ rfl;have u2:=CC.out _ X2.out 2 _ rfl;have u3:=CC.out _ X2.out 3 _ rfl;have u4:=CC.out _ X2.out 4 _ rfl;have u5:=CC.out _ X2.out 5 _ rfl;have HO:=hid ho;have HI:=hid hi;have HT:=hid TC;have HDK:=hid (And.intro dk l1);obtain⟨N,hNe⟩:∃ N,ops.length=N:=⟨_,rfl⟩;rw [hNe];rw [hNe] at hN;have HN:=hid hNe;clear b1 b2 tb hok ds dab ho hi TC dk l1 hNe;go_enter Tryz.func8,Tryz.ntmps8;go_wp2_with fail;generalize (w.alloc _).alloc _=V0 at *;obtain⟨X,hX⟩:∃ X,w.heap.size+1=X:=⟨_,rfl⟩;rw [hX] at X4 ⊢;refine (GO.out).mono ?_;rintro e V ⟨rfl,bV⟩;have X5:=hid (below_at X4.out bV);have X6:=hid (below_at X2.out bV);have B5:=hid (B2.out.trans (bV.mono B2.out.size));have hn9:¬((300:Int) < (N:Int)):=by omega
 clear X4 X2 B2 GO bV u0 u1 u2 u3 u4 u5;have u0:=CC.out _ X6.out 0 _ rfl;have u1:=CC.out _ X6.out 1 _ rfl;have u2:=CC.out _ X6.out 2 _ rfl;have u3:=CC.out _ X6.out 3 _ rfl;have u4:=CC.out _ X6.out 4 _ rfl;have u5:=CC.out _ X6.out 5 _ rfl;go_wp2_with fail;refine (NH.out _ B5.out).mono ?_;rintro e V2 ⟨y,rfl,hyd,hp,gd,bV⟩;have hXV:=lt_blk X5.out;have X7:=hid (below_at X5.out bV);obtain⟨B,hBe⟩:∃ B,V.heap.size=B:=⟨_,rfl⟩;rw [hBe] at hp bV hXV;have HB:=hid (show w.heap.size≤B by rw [←hBe];exact B5.out.size);have R0:=hid (Rst.first ops hp gd HDK.out.1 HDK.out.2 (B5.out.trans (bV.mono HB.out)));have HXB:=hid (show w.heap.size≤X∧X < B from ⟨by omega,hXV⟩);obtain⟨P,hP⟩:∃ P,y.P=P:=⟨_,rfl⟩;rw [hP];have HP:=hid hP;clear hp gd bV hBe hXV hX hP X5 X6 B5 NH u0 u1 u2 u3 u4 u5 CC V0 hyd;go_wp2;go_loopw [21] (fun i wr=>∃ (k:Nat) (l:List Aw) (v:Value),k≤N∧i=Vi k∧Hid (Rst B y cf w ops k l v wr)∧Hid (wr.heap[X]?=some (.cells #[.bool false,Vn,Vi 0,Vn,Vn,Vn,Vn,Vn,Vn,Vi 0] 39 (0,0)))) (fun i _=>N - (intOf i).toNat)
 case atStart=>exact ⟨0,[],_,by omega,rfl,R0,X7⟩
 case round =>
  clear R0 X7;obtain⟨k,l,v,hk,rfl,HR,HX⟩:=hrel
  by_cases hlt:k < N
  ·obtain⟨q,hq⟩:∃ q,ops[k]?=some q:=⟨_,List.getElem?_eq_getElem (by rw [HN.out];exact hlt)⟩;obtain⟨G,rfl,hG,hcl⟩:=HO.out.at_ k q hq;have bw:=HR.out.bel;have u0:wr.cell? ⟨G,k*6,none⟩=some (Vi q.o.kd):=old_cell bw (hcl 0 _ rfl);have u1:=old_cell bw (hcl 1 _ rfl);have u2:=old_cell bw (hcl 2 _ rfl);have u3:=old_cell bw (hcl 3 _ rfl);have u4:=old_cell bw (hcl 4 _ rfl);have u5:=old_cell bw (hcl 5 _ rfl);obtain⟨r9,RC⟩:=HR.out.call9 HO.out HI.out HB.out (by rw [HN.out];exact hN) hq;have RC:=hid RC;obtain⟨va,vn,vc,rfl⟩:=own_sl4 HR.out.ra.row;have b1:Below wr.heap.size wr (wr.alloc (.cells #[Vi q.o.kd,Vi q.o.ref,Vu (q.o.p:Nat),Vu (q.o.a:Nat),Vu (q.o.b:Nat),.slice q.d q.o.ys.length q.dc] 42)):=(Below.refl _ _).alloc (Nat.le_refl _) _;have Y1:=hid (al_last wr (.cells #[Vi q.o.kd,Vi q.o.ref,Vu (q.o.p:Nat),Vu (q.o.a:Nat),Vu (q.o.b:Nat),.slice q.d q.o.ys.length q.dc] 42));have B1:=hid (show Below wr.heap.size wr ((wr.alloc (.cells #[Vi q.o.kd,Vi q.o.ref,Vu (q.o.p:Nat),Vu (q.o.a:Nat),Vu (q.o.b:Nat),.slice q.d q.o.ys.length q.dc] 42)).drew) from b1.trans ((Below.refl _ _).drew.mono b1.size));have c119:((wr.alloc (.cells #[Vi q.o.kd,Vi q.o.ref,Vu (q.o.p:Nat),Vu (q.o.a:Nat),Vu (q.o.b:Nat),.slice q.d q.o.ys.length q.dc] 42)).drew).cell? ⟨P,119,none⟩=some (.slice va vn vc):=by
    obtain⟨d,hp,gd⟩:=HR.out.hg;rw [←HP.out];exact (hp.below B1.out).cell 119 (by omega) _ gd.an
   have HX1:=hid (below_at HX.out B1.out);clear hcl bw hq hG;go_upto_region 7 with fail
   generalize wr.alloc _=V at Y1 B1 c119 HX1 ⊢;obtain⟨Y,hY⟩:∃ Y,wr.heap.size=Y:=⟨_,rfl⟩;rw [hY] at Y1 ⊢;clear u0 u1 u2 u3 u4 u5 HX;have RCV:=hid (RC.out _ B1.out);clear hY RC HR b1 B1;refine wp_region_held (S:=Cq Y q) (by kernel_rfl) ?_;simp only [List.size_toArray,List.length_cons,List.length_nil,Nat.reduceAdd,Array.replicate_succ,Array.replicate_zero,List.push_toArray,List.nil_append,List.cons_append];have HY:=hid (show V.drew.heap[Y]?=some (.cells #[Vi q.o.kd,Vi q.o.ref,Vu (q.o.p:Nat),Vu (q.o.a:Nat),Vu (q.o.b:Nat),.slice q.d q.o.ys.length q.dc] 42 (0,0)) from Y1.out);generalize hV1:V.drew=V1 at RCV HY c119 HX1;have hV1':({ heap:=V.heap,tape:=V.tape,drawn:=V.drawn+1,os:=V.os,output:=V.output } : World)=V1:=hV1;rw [hV1'];clear hV1 hV1' Y1;have HPP:=HP.out;have hS:=Cq.of HY.out
   iterate 4 (refine py hS ?_;simp only [f0,f1,Nat.reduceAdd,lz,l0,ls])
   refine pk 5 30 (Vp P 0) hS ?_;simp only [lz,l0,ls];refine pz 6 31 (.agg #[Vi q.o.kd,Vi q.o.ref,Vu (q.o.p:Nat),Vu (q.o.a:Nat),Vu (q.o.b:Nat),.slice q.d q.o.ys.length q.dc]) hS ?_;simp only [lz,l0,ls];refine wpAnyH_all (rs:=[4,7]) (by kernel_rfl) (by simp) (fun i9 hi9=>?_)
   rcases (by simpa using hi9:i9=4∨i9=7) with hi9|hi9
   ·subst hi9;refine wpOp_do rfl (by kernel_rfl) (fun K' hK=>?_);go_simp;refine hK.out _ _ ⟨hS,?_⟩;clear hK K';refine po 7 fun K' hK=>?_
    go_simp;rw [←HPP];refine (RCV.out).mono ?_;rintro e U1 ⟨a1,n1,c1,rfl,cU,kU,a2,n2,c2,U2,happ,cA,cU2,fU2,kU2,l2,hR⟩;rw [HPP] at cU cA cU2 fU2 hR kU2;have hS1:=Cq.of (kU _ _ _ _ (.inl rfl) HY.out);have HU:=hid (kU2 _ _ _ _ (.inl rfl) (kU _ _ _ _ (.inl rfl) HY.out));have HX2:=hid ((kU2 _ _ _ _ (.inr rfl) (kU _ _ _ _ (.inr rfl) HX1.out)).2.2);have HR2:=hid hR;refine hK.out _ _ ⟨hS1,?_⟩;clear hS kU kU2 hR;have hS:=hS1;clear hS1;clear hK K';refine po 8 fun K' hK=>?_
    go_simp;refine hK.out _ _ ⟨Cq.of HU.out.1,?_⟩;clear hS;have hS:=Cq.of HU.out.1;clear hK K';refine po 9 fun K' hK=>?_
    refine wpo_append 31 (.tmp 29) (.tmp 33) (v:=.slice va vn vc) (v2:=Vl U1.heap.size 1 1) (by kernel_rfl) (by kernel_rfl) (by kernel_rfl) (by kernel_rfl) happ ?_;refine hK.out _ _ ⟨Cq.of HU.out.2.1,?_⟩;clear hS;have hS:=Cq.of HU.out.2.1;clear hK K';refine pk 10 35 (Vp P 0) hS ?_;simp only [lz,l0,ls];refine pk 11 36 (Vp P 119) hS ?_;simp only [lz,l0,ls];refine po 12 fun K' hK=>?_
    go_simp;refine hK.out _ _ ⟨Cq.of HU.out.2.2,?_⟩;clear hS;clear hK K';refine wpAnyH_done (by kernel_rfl) ?_ _;go_wp2;go_roundw
    case rel=>exact ⟨k+1,l2,_,by omega,by go_num,HR2,HX2⟩
    case measure=>simp [intOf];omega
   subst hi9;refine wpOp_do rfl (by kernel_rfl) (fun K' hK=>?_);go_simp;rw [←HPP];refine (RCV.out).mono ?_;rintro e U1 ⟨a1,n1,c1,rfl,cU,kU,a2,n2,c2,U2,happ,cA,cU2,fU2,kU2,l2,hR⟩;rw [HPP] at cU cA cU2 fU2 hR kU2;have hS1:=Cq.of (kU _ _ _ _ (.inl rfl) HY.out);have HU:=hid (kU2 _ _ _ _ (.inl rfl) (kU _ _ _ _ (.inl rfl) HY.out));have HX2:=hid ((kU2 _ _ _ _ (.inr rfl) (kU _ _ _ _ (.inr rfl) HX1.out)).2.2);have HR2:=hid hR;refine hK.out _ _ ⟨hS1,?_⟩;clear hS kU kU2 hR;have hS:=hS1;clear hS1;clear hK K';refine wpAnyH_all (rs:=[4,8]) (by kernel_rfl) (by simp) (fun i9 hi9=>?_)
   rcases (by simpa using hi9:i9=4∨i9=8) with hi9|hi9
   ·subst hi9;refine wpOp_do rfl (by kernel_rfl) (fun K' hK=>?_);go_simp;refine hK.out _ _ ⟨hS,?_⟩;clear hK K';refine po 8 fun K' hK=>?_
    go_simp;refine hK.out _ _ ⟨Cq.of HU.out.1,?_⟩;clear hS;have hS:=Cq.of HU.out.1;clear hK K';refine po 9 fun K' hK=>?_
    refine wpo_append 31 (.tmp 29) (.tmp 33) (v:=.slice va vn vc) (v2:=Vl U1.heap.size 1 1) (by kernel_rfl) (by kernel_rfl) (by kernel_rfl) (by kernel_rfl) happ ?_;refine hK.out _ _ ⟨Cq.of HU.out.2.1,?_⟩;clear hS;have hS:=Cq.of HU.out.2.1;clear hK K';refine pk 10 35 (Vp P 0) hS ?_;simp only [lz,l0,ls];refine pk 11 36 (Vp P 119) hS ?_;simp only [lz,l0,ls];refine po 12 fun K' hK=>?_
    go_simp;refine hK.out _ _ ⟨Cq.of HU.out.2.2,?_⟩;clear hS;clear hK K';refine wpAnyH_done (by kernel_rfl) ?_ _;go_wp2;go_roundw
    case rel=>exact ⟨k+1,l2,_,by omega,by go_num,HR2,HX2⟩
    case measure=>simp [intOf];omega
   subst hi9;refine wpOp_do rfl (by kernel_rfl) (fun K' hK=>?_);go_simp;refine hK.out _ _ ⟨Cq.of HU.out.1,?_⟩;clear hS;have hS:=Cq.of HU.out.1;clear hK K';refine po 4 fun K' hK=>?_
   go_simp;refine hK.out _ _ ⟨hS,?_⟩;clear hK K';refine po 9 fun K' hK=>?_
   refine wpo_append 31 (.tmp 29) (.tmp 33) (v:=.slice va vn vc) (v2:=Vl U1.heap.size 1 1) (by kernel_rfl) (by kernel_rfl) (by kernel_rfl) (by kernel_rfl) happ ?_;refine hK.out _ _ ⟨Cq.of HU.out.2.1,?_⟩;clear hS;have hS:=Cq.of HU.out.2.1;clear hK K';refine pk 10 35 (Vp P 0) hS ?_;simp only [lz,l0,ls];refine pk 11 36 (Vp P 119) hS ?_;simp only [lz,l0,ls];refine po 12 fun K' hK=>?_
   go_simp;refine hK.out _ _ ⟨Cq.of HU.out.2.2,?_⟩;clear hS;clear hK K';refine wpAnyH_done (by kernel_rfl) ?_ _;go_wp2;go_roundw
   case rel=>exact ⟨k+1,l2,_,by omega,by go_num,HR2,HX2⟩
   case measure=>simp [intOf];omega
  obtain rfl:k=N:=by omega
  obtain⟨va,vn,vc,rfl⟩:=own_sl4 HR.out.ra.row;have hne:ops.take k=ops:=List.take_of_length_le (by rw [HN.out];exact Nat.le_refl _);obtain⟨d,hp,gd⟩:=HR.out.hg;have ok:=HR.out.ok;have bD:Below wr.heap.size wr wr.drew:=(Below.refl _ _).drew;have TD:=hid (HT.out B y d cf _ k _ _ (hp.below bD) gd ok);rw [hne] at TD;have c119:wr.drew.cell? ⟨P,119,none⟩=some (.slice va vn vc):=by
   rw [←HP.out];exact (hp.below bD).cell 119 (by omega) _ gd.an
  have HXD:=hid (below_at HX.out bD);have HPL:=hid (show P < wr.drew.heap.size by rw [←HP.out];exact (hp.below bD).box.lt);have hPX:P≠X:=fun e=>by
   obtain⟨c,h1,_⟩:=hp.box;have h2:=HX.out;rw [←e,←HP.out,h1] at h2
   cases h2
  have RD:=hid (show Rst B y cf w ops k l (.slice va vn vc) wr.drew from ⟨⟨d,hp.below bD,gd⟩,ok,HR.out.ls,HR.out.ra.below bD,HR.out.bel.drew⟩);clear hp gd ok bD HX HR hne;go_upto_region 9 with fail
  refine wp_region_held (S:=fun W9=>W9.cell? ⟨P,119,none⟩=some (.slice va vn vc)) (by kernel_rfl) ?_;simp only [List.size_toArray,List.length_cons,List.length_nil,Nat.reduceAdd,Array.replicate_succ,Array.replicate_zero,List.push_toArray,List.nil_append,List.cons_append];generalize hV1:wr.drew=V1 at TD c119 HXD RD HPL;have hV1':({ heap:=wr.heap,tape:=wr.tape,drawn:=wr.drawn+1,os:=wr.os,output:=wr.output } : World)=V1:=hV1;rw [hV1'];clear hV1 hV1';have HPP:=HP.out;have hS:=c119
  iterate 5 (refine py hS ?_;simp only [f0,f1,Nat.reduceAdd,lz,l0,ls])
  refine po 5 fun K' hK=>?_
  go_simp;rw [←HPP];refine (TD.out).mono ?_;rintro e U1 ⟨m0,m1,m2,m3,m4,m5,m6,m7,rfl,hone,ht,bU⟩;have hS1:=below_cell bU hS;refine hK.out _ _ ⟨hS1,?_⟩;clear hS;have hS:=hS1;have HONE:=hid hone;have HF:=hid (And.intro ht bU);have HX2:=hid (below_at HXD.out bU);have HPU:=hid (Nat.lt_of_lt_of_le HPL.out bU.size);clear hS1 hone ht bU;clear hK K';refine py hS ?_;simp only [f0,f1,Nat.reduceAdd,lz,l0,ls];refine po 7 fun K' hK=>?_
  refine wp_store_row 39 (.tmp 4) (.tmp 44) (by kernel_rfl) X #[.bool true,.slice va vn vc,m0,m1,m2,m3,m4,m5,m6,m7] (by kernel_rfl) (by kernel_rfl) 39 _ HX2.out (by kernel_rfl) rfl ?hone9 ?_
  case hone9=>exact all_oneCell_toArray (fun v hv=>by rcases List.mem_cons.1 hv with rfl|hv;rfl;rcases List.mem_cons.1 hv with rfl|hv;rfl;exact HONE.out v hv)
  have hS2:(U1.setRow X #[.bool true,.slice va vn vc,m0,m1,m2,m3,m4,m5,m6,m7]).cell? ⟨P,119,none⟩=some (.slice va vn vc):=by unfold World.cell? at hS ⊢;rw [(grown_setRow U1 X #[.bool true,.slice va vn vc,m0,m1,m2,m3,m4,m5,m6,m7]).block P HPU.out (by simpa using hPX)];exact hS
  refine hK.out _ _ ⟨hS2,?_⟩;clear hS hS2 hK K';refine wpAnyH_done (by kernel_rfl) ?_ _;go_wp2_with fail;refine bodyPost_ret (results_cell_row (by rfl) _ _ X 39 _ (0,0) _ (by rfl) (setRow_at HX2.out _) Tryz.underlying39 rfl (by kernel_rfl)) (by rfl) ?_;exact⟨B,y,l,_,m0,m1,m2,m3,m4,m5,m6,m7,V1,U1,X,rfl,HB.out,by rw [HN.out];exact RD.out,HF.out.1,HF.out.2,HX2.out,rfl,HXB.out.1,HXB.out.2⟩
end Go.Proofs.YtgandbaejlfppaaGreatDoor
