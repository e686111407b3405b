import Derived.Test.YtgandbaejlfppaaGreatDoorN40
import Derived.Test.YtgandbaejlfppaaGreatDoorN43
import Derived.Test.YtgandbaejlfppaaGreatDoorN44
namespace Go.Proofs.YtgandbaejlfppaaGreatDoor
set_option linter.unusedVariables false
set_option linter.unusedSimpArgs false
set_option maxRecDepth 20000
set_option maxHeartbeats 8000000
open Go.RowKit Go.Maps
def wait36 (cf:Cf) (y:Ly):List Value:=(List.range 36).map fun i=>qcV cf y (i/3) (i % 3)
theorem Hp.range36 {B:Nat} {y:Ly} {d:Dy} {cf:Cf} {h:Hs} {W:World} (hp:Hp B y d cf h W):W.rangeAt y.P 79 (wait36 cf y):=by
 intro j v hv;have hj:j < 36:=by have:=(List.getElem?_eq_some_iff.1 hv).1;simpa [wait36] using this
 rw [hp.cell (79+j) (by omega) _ rfl];unfold boxF;rw [if_neg (by omega),if_neg (by omega),if_pos (by omega),show 79+j - 79=j by omega];rw [←hv];simp [wait36,hj]
theorem ix76 (cf:Cf) (y:Ly) (k:Nat) (hk:k < 12) (w:World):(Instr.index 70 (.agg (wait36 cf y).toArray) (Vi (k:Nat))).run Tryz.prog w=.ok (.agg #[Vp (y.qm k) 0,Vp (y.qg k) 0,v3of cf.mix (y.qm k) (y.qg k)]) w:=by
 rcases (show k=0∨k=1∨k=2∨k=3∨k=4∨k=5∨k=6∨k=7∨k=8∨k=9∨k=10∨k=11 by omega) with rfl|rfl|rfl|rfl|rfl|rfl|rfl|rfl|rfl|rfl|rfl|rfl <;> kernel_rfl
theorem mB_cells {Y:Nat} {V:World} {a0 a1 a2 a3 a4 a5 a6 a7:Value} (h:V.heap[Y]?=some (.cells #[a0,a1,a2,a3,a4,a5,a6,a7] 37 (0,0))):V.cell? ⟨Y,0,none⟩=some a0∧V.cell? ⟨Y,1,none⟩=some a1∧V.cell? ⟨Y,2,none⟩=some a2∧V.cell? ⟨Y,3,none⟩=some a3∧V.cell? ⟨Y,4,none⟩=some a4∧V.cell? ⟨Y,5,none⟩=some a5∧V.cell? ⟨Y,6,none⟩=some a6∧V.cell? ⟨Y,7,none⟩=some a7∧∀ j,V.frozen? ⟨Y,j,none⟩=false:=by
 refine⟨?_,?_,?_,?_,?_,?_,?_,?_,fun j=>by simp [World.frozen?,h]⟩ <;> (rw [cell_of_row _ _ _ _ _ _ h];rfl)
structure Mt9 (B:Nat) (y:Ly) (d:Dy) (cf:Cf) (h:Hs) (W:World) (X Y:Nat) (vo vs vw vr vl ve:Value) (ws:List (Nat×Nat)) (rs:List Rg9) (V:World):Prop where
 bel:Below W.heap.size W V
 xb:V.heap[X]?=some (.cells #[Vi 0,Vn,Vn,Vn,Vn,Vn,Vn,Vi 0] 37 (0,0))
 yb:V.heap[Y]?=some (.cells #[Vi (cntM h.m 283),vo,vs,vw,vr,vl,ve,Vi (h.used:Nat)] 37 (0,0))
 o:V.ownsRow W.heap.size 3 1 vo (opensM h.m 283).length (Ns .i64 (opensM h.m 283))
 s:V.ownsRow W.heap.size 53 5 vs (I1 h 12).length (flatI h (I1 h 12))
 w:Wt9 cf h W.heap.size vo ws vw V
 r:V.ownsRow W.heap.size 160 5 vr rs.length (flatT rs)
 rp:rs.Perm h.rg∧rs.Pairwise (fun a b=>a.base≤b.base)
 bx:W.heap.size≤X
 by_:W.heap.size≤Y
 ne:X≠Y
theorem Mt9.below {B:Nat} {y:Ly} {d:Dy} {cf:Cf} {h:Hs} {W:World} {X Y:Nat} {vo vs vw vr vl ve:Value} {ws:List (Nat×Nat)} {rs:List Rg9} {V V':World} (m:Mt9 B y d cf h W X Y vo vs vw vr vl ve ws rs V) (b:Below V.heap.size V V'):Mt9 B y d cf h W X Y vo vs vw vr vl ve ws rs V' :=
 ⟨m.bel.trans (b.mono m.bel.size),below_at m.xb b,below_at m.yb b,own_bel m.o b,own_bel m.s b,m.w.below b,own_bel m.r b,m.rp,m.bx,m.by_,m.ne⟩
theorem zc3 {Z:Nat} {V:World} {a b c:Value} (h:V.heap[Z]?=some (.cells #[a,b,c] 69 (0,0))):V.cell? ⟨Z,0,none⟩=some a∧V.cell? ⟨Z,1,none⟩=some b∧V.cell? ⟨Z,2,none⟩=some c:=by
 refine⟨?_,?_,?_⟩ <;> (rw [cell_of_row _ _ _ _ _ _ h];rfl)
theorem al9 {W V:World} (b:Below W.heap.size W V) (o:Obj):∃ Y,V.heap.size=Y∧Below V.heap.size V (V.alloc o)∧(V.alloc o).heap[Y]?=some o∧W.heap.size≤Y:=⟨_,rfl,(Below.refl _ _).alloc (Nat.le_refl _) _,al_last V o,b.size⟩
theorem st9 {V:World} {Y:Nat} {c:Array Value} (h:V.heap[Y]?=some (.cells c 37 (0,0))) (cs:Array Value):V.grownBy (V.setRow Y cs) (some Y)∧Ky (· = 37) V (V.setRow Y cs)∧(V.setRow Y cs).heap[Y]?=some (.cells cs 37 (0,0)):=⟨grown_setRow V Y cs,Ky.grown h rfl (grown_setRow V Y cs),setRow_at h cs⟩
theorem Mt9.set {B:Nat} {y:Ly} {d:Dy} {cf:Cf} {h:Hs} {W:World} {X Y:Nat} {vo vs vw vr vl ve:Value} {ws:List (Nat×Nat)} {rs:List Rg9} {V:World} (m:Mt9 B y d cf h W X Y vo vs vw vr vl ve ws rs V) (i:Nat) (v vl' ve':Value) (hi:i=5∧vl'=v∧ve'=ve∨i=6∧vl'=vl∧ve'=v):Mt9 B y d cf h W X Y vo vs vw vr vl' ve' ws rs (V.setCell ⟨Y,i,none⟩ v)∧Ky (· = 37) V (V.setCell ⟨Y,i,none⟩ v):=by
 have g:=grown_set (grown_refl V Y) i v;have k:Ky (· = 37) V (V.setCell ⟨Y,i,none⟩ v):=Ky.grown m.yb rfl g;refine⟨⟨m.bel.grown g m.bel.size (fun r hr=>by simp at hr;have:=m.by_;omega),?_,?_,own_ky m.o k (by decide),own_ky m.s k (by decide),m.w.ky k (by decide) (by decide),own_ky m.r k (by decide),m.rp,m.bx,m.by_,m.ne⟩,k⟩
 ·rw [Below.heap_setCell _ _ _ _ m.ne];exact m.xb
 rcases hi with ⟨rfl,rfl,rfl⟩|⟨rfl,rfl,rfl⟩ <;> simp [World.setCell,Array.getElem?_modify,m.yb]
theorem Mt9.addW {B:Nat} {y:Ly} {d:Dy} {cf:Cf} {h:Hs} {W:World} {X Y:Nat} {vo vs vw vr vl ve:Value} {ws:List (Nat×Nat)} {rs:List Rg9} {V U:World} (m:Mt9 B y d cf h W X Y vo vs vw vr vl ve ws rs V) (b:Below V.heap.size V U) {g1 g2:Nat} (r1:RowV U g1 3 (Ns .i64 (h.mx ws.length))) (r2:RowV U g2 3 (Ns .i64 (h.ff ws.length))) (hg1:V.heap.size≤g1) (hg2:g1 < g2) (hl:ws.length≤12) :
  ∃ v' U',(Builtin.append_ #[33,33] 33 #[vw,Vl U.heap.size 1 1]).run Tryz.prog (U.alloc (.cells #[Vl g1 (h.mx ws.length).length (h.mx ws.length).length,Vl g2 (h.ff ws.length).length (h.ff ws.length).length,Vi (cf.fifo:Nat)] 88))=.ok v' U'∧v'.oneCell'=true∧U'.cell? ⟨Y,3,none⟩=some vw∧U'.frozen? ⟨Y,3,none⟩=false∧Ky (· = 88) V U'∧Ky (fun t=>t=88∨t=37) V (U'.setCell ⟨Y,3,none⟩ v')∧Mt9 B y d cf h W X Y vo vs v' vr vl ve (ws++[(g1,g2)]) rs (U'.setCell ⟨Y,3,none⟩ v'):=by
 obtain⟨v',U',e1,w2,k2,b2⟩:=m.w.add m.bel.size (fun g hg=>by obtain ⟨_,c,hc⟩:=own_lt m.o hg;exact lt_blk hc) b r1 r2 hg1 hg2 hl;have y2:=k2.cells _ _ _ _ m.yb (by decide);have x2:=k2.cells _ _ _ _ m.xb (by decide);have g:=grown_set (grown_refl U' Y) 3 v';have k:Ky (· = 37) U' (U'.setCell ⟨Y,3,none⟩ v'):=Ky.grown y2 rfl g;obtain⟨va,vn,vc,rfl⟩:=own_sl4 w2.row;refine⟨_,U',e1,rfl,(mB_cells y2).2.2.2.1,(mB_cells y2).2.2.2.2.2.2.2.2 3,k2,(k2.more (fun t e=>.inl e)).trans (k.more (fun t e=>.inr e)),⟨(m.bel.trans b2).grown g (Nat.le_trans m.bel.size k2.size) (fun r hr=>by simp at hr;have:=m.by_;omega),?_,?_,own_ky (own_ky m.o k2 (by decide)) k (by decide),own_ky (own_ky m.s k2 (by decide)) k (by decide),w2.ky k (by decide) (by decide),own_ky (own_ky m.r k2 (by decide)) k (by decide),m.rp,m.bx,m.by_,m.ne⟩⟩
 ·rw [Below.heap_setCell _ _ _ _ m.ne];exact x2
 simp [World.setCell,Array.getElem?_modify,y2]
theorem im_told (SO:SortsR) (SC:SortedC):ToldC Told9:=by
 intro B y d cf h k an W hp gd ok;have HPB:=hid (fun V (hV:Below W.heap.size W V)=>hp.below hV);have HOK:=hid ok;have hrl:h.rg.length≤400∧h.rel.length≤400∧h.row.length≤400:=by
  have h1:=ok.few.rg;have h2:=ok.few.rel;have h3:=ok.few.row;have h4:=ok.kk;omega
 have bA:Below W.heap.size W (W.alloc (.cells #[Vi 0,Vn,Vn,Vn,Vn,Vn,Vn,Vi 0] 37)):=(Below.refl _ _).alloc (Nat.le_refl _) _;have XA:=hid (al_last W (.cells #[Vi 0,Vn,Vn,Vn,Vn,Vn,Vn,Vi 0] 37));have ST:=hid (im_spaceTold y.S y.M (cf.bud:Nat) d.f h.m _ (hp.below bA).sp (hp.below bA).pg ok.inv.out);have c6:=(hp.below bA).cell 6 (by omega) (Vp y.S 0) rfl;have HCN:=hid (show (heldN d.f 0 4096:Nat)=cntM h.m 283 by
  rw [cntM_held (fun k=>hp.pg.none_iff k) 4096];exact cntM_out (n:=283) ok.inv.out 3813)
 have TS:=hid (fun V (hV:Below W.heap.size W V)=>im_toldSlots B y d cf h V (hp.below hV));have TR:=hid (fun V (hV:Below W.heap.size W V)=>im_toldRanges SO B y d cf h V (hp.below hV) ok.inv hrl.1);have HSC:=hid SC;have BA:=hid bA;clear hp gd ok bA SO SC;go_enter Tryz.func18,Tryz.ntmps18;go_wp2_with fail;generalize W.alloc _=V0 at *;obtain⟨X,hX⟩:∃ X,X=W.heap.size:=⟨_,rfl⟩;rw [←hX] at XA ⊢;have HX:=hid (show W.heap.size≤X by omega);clear hX;refine (ST.out).mono ?_;rintro e V1 ⟨vo,rfl,ho,b1⟩;obtain⟨oa,on,oc,rfl⟩:=own_sl4 ho;have X1:=hid (below_at XA.out b1);have O1:=hid (own_mono9 ho BA.out.size);have B1:=hid (BA.out.trans (b1.mono BA.out.size));rw [HCN.out];have HXV:=hid (show X < V1.heap.size from lt_blk X1.out);clear ho b1 ST c6 XA BA HCN;go_upto_region 2 with fail
 have c118:V1.drew.cell? ⟨y.P,118,none⟩=some (Vi (h.used:Nat)):=(HPB.out _ B1.out.drew).cell 118 (by omega) _ rfl;have B1D:=hid (show Below W.heap.size W V1.drew from B1.out.drew);have X1D:=hid (below_at X1.out (Below.refl _ V1).drew);have O1D:=hid (own_bel O1.out (Below.refl _ V1).drew)
 go_cut [5] (fun s5 w'=>∃ (Y:Nat) (vs vr:Value) (rs:List Rg9),s5=Vp Y 0∧Hid (Mt9 B y d cf h W X Y (.slice oa on oc) vs (Vn) vr (Vn) (Vn) [] rs w'))
 case first =>
  refine wp_region_held (S:=fun W9=>W9.cell? ⟨y.P,118,none⟩=some (Vi (h.used:Nat))) (by kernel_rfl) ?_;simp only [List.size_toArray,List.length_cons,List.length_nil,Nat.reduceAdd,Array.replicate_succ,Array.replicate_zero,List.push_toArray,List.nil_append,List.cons_append];generalize hV1:V1.drew=V2 at c118 B1D X1D O1D;have hV1':({ heap:=V1.heap,tape:=V1.tape,drawn:=V1.drawn+1,os:=V1.os,output:=V1.output } : World)=V2:=hV1;rw [hV1'];clear hV1 hV1' X1 O1 B1;have BC:=B1D;have XC:=X1D;have OC:=O1D;have hS:=c118
  iterate 3 (refine py hS ?_;simp only [f0,f1,Nat.reduceAdd,lz,l0,ls])
  refine pk 4 20 (Vp y.P 0) hS ?_;simp only [lz,l0,ls];refine pk 6 22 (Vp y.P 0) hS ?_;simp only [lz,l0,ls];refine pk 7 23 (Vp y.P 0) hS ?_;simp only [lz,l0,ls];refine pk 8 24 (Vp y.P 118) hS ?_;simp only [lz,l0,ls];refine pz 9 25 (Vi (h.used:Nat)) hS ?_;simp only [lz,l0,ls];refine wpAnyH_all (rs:=[3,11]) (by kernel_rfl) (by simp) (fun i9 hi9=>?_)
  rcases (by simpa using hi9:i9=3∨i9=11) with hi9|hi9
  ·subst hi9;refine wpOp_do rfl (by kernel_rfl) (fun K' hK=>?_);go_simp;refine (TS.out _ BC.out).mono ?_;rintro e U1 ⟨vs,rfl,hs,bU⟩;obtain⟨sa,sn,sc,rfl⟩:=own_sl4 hs;have hS1:=below_cell bU hS;refine hK.out _ _ ⟨hS1,?_⟩;clear hS;have hS:=hS1;have XC:=hid (below_at XC.out bU);have OC:=hid (own_bel OC.out bU)
   try have SC:=hid (own_bel SC.out bU)
   try have RC:=hid (own_bel RC.out bU)
   try have YC:=hid (below_at YC.out bU)
   have SC:=hid (own_mono9 hs BC.out.size);have BC:=hid (BC.out.trans (bU.mono BC.out.size));clear hS1 hs bU;clear hK K';refine wpAnyH_all (rs:=[5,11]) (by kernel_rfl) (by simp) (fun i9 hi9=>?_)
   rcases (by simpa using hi9:i9=5∨i9=11) with hi9|hi9
   ·subst hi9;refine wpOp_do rfl (by kernel_rfl) (fun K' hK=>?_);go_simp;refine (TR.out _ BC.out).mono ?_;rintro e U2 ⟨vr,rs,rfl,hp5,hs5,hr,bU⟩;obtain⟨ra,rn,rc,rfl⟩:=own_sl4 hr;have hS1:=below_cell bU hS;refine hK.out _ _ ⟨hS1,?_⟩;clear hS;have hS:=hS1;have XC:=hid (below_at XC.out bU);have OC:=hid (own_bel OC.out bU)
    try have SC:=hid (own_bel SC.out bU)
    try have RC:=hid (own_bel RC.out bU)
    try have YC:=hid (below_at YC.out bU)
    have RC:=hid (own_mono9 hr BC.out.size);have BC:=hid (BC.out.trans (bU.mono BC.out.size));have RP:=hid (And.intro hp5 hs5);clear hS1 hp5 hs5 hr bU;clear hK K';refine pz 10 26 (.agg #[Vi (cntM h.m 283),.slice oa on oc,.slice sa sn sc,Vn,.slice ra rn rc,Vn,Vn,Vi (h.used:Nat)]) hS ?_;simp only [lz,l0,ls];refine po 11 fun K' hK=>?_
    go_simp;obtain⟨Y,hY,bU,hy9,hyb⟩:=al9 BC.out (.cells #[Vi 0,Vn,Vn,Vn,Vn,Vn,Vn,Vi 0] 37);rw [hY];have HNE:=hid (show X≠Y by have:=lt_blk XC.out;omega);have HY:=hid hyb;have hS1:=below_cell bU hS;refine hK.out _ _ ⟨hS1,?_⟩;clear hS;have hS:=hS1;have XC:=hid (below_at XC.out bU);have OC:=hid (own_bel OC.out bU)
    try have SC:=hid (own_bel SC.out bU)
    try have RC:=hid (own_bel RC.out bU)
    try have YC:=hid (below_at YC.out bU)
    have YC:=hid hy9;have BC:=hid (BC.out.trans (bU.mono BC.out.size));clear hS1 bU hy9 hyb hY;clear hK K';refine po 12 fun K' hK=>?_
    refine wp_store_row 37 (.tmp 5) (.tmp 26) (by kernel_rfl) Y #[Vi (cntM h.m 283),.slice oa on oc,.slice sa sn sc,Vn,.slice ra rn rc,Vn,Vn,Vi (h.used:Nat)] (by kernel_rfl) (by kernel_rfl) 37 _ YC.out (by kernel_rfl) rfl (by simp [Value.oneCell']) ?_;obtain⟨g9,k9,y9⟩:=st9 YC.out #[Vi (cntM h.m 283),.slice oa on oc,.slice sa sn sc,Vn,.slice ra rn rc,Vn,Vn,Vi (h.used:Nat)];have M0:=hid (Mt9.mk (B:=B) (y:=y) (d:=d) (cf:=cf) (h:=h) (W:=W) (X:=X) (Y:=Y) (vo:=.slice oa on oc) (vs:=.slice sa sn sc) (vw:=Vn) (vr:=.slice ra rn rc) (vl:=Vn) (ve:=Vn) (ws:=[]) (rs:=rs) (BC.out.grown g9 BC.out.size (fun r hr=>by simp at hr;have:=HY.out;omega)) (by rw [g9.block X (lt_blk XC.out) (by simpa using HNE.out)];exact XC.out) y9 (own_ky OC.out k9 (by decide)) (own_ky SC.out k9 (by decide)) ⟨⟨rfl,.inl ⟨rfl,rfl⟩⟩,(fun c p hp=>by simp at hp),List.Pairwise.nil,(fun g hg p hp=>by cases hp)⟩ (own_ky RC.out k9 (by decide)) RP.out HX.out HY.out HNE.out);have hS1:=(HPB.out _ M0.out.bel).cell 118 (by omega) (Vi (h.used:Nat)) rfl;refine hK.out _ _ ⟨hS1,?_⟩;clear hS hS1 g9 k9 y9 hK K';refine wpAnyH_done (by kernel_rfl) ?_ _;go_wp2_with fail
    go_meet
    case rel=>exact ⟨Y,_,_,rs,rfl,M0⟩
   subst hi9;refine wpOp_do rfl (by kernel_rfl) (fun K' hK=>?_);go_simp;obtain⟨Y,hY,bU,hy9,hyb⟩:=al9 BC.out (.cells #[Vi 0,Vn,Vn,Vn,Vn,Vn,Vn,Vi 0] 37);rw [hY];have HNE:=hid (show X≠Y by have:=lt_blk XC.out;omega);have HY:=hid hyb;have hS1:=below_cell bU hS;refine hK.out _ _ ⟨hS1,?_⟩;clear hS;have hS:=hS1;have XC:=hid (below_at XC.out bU);have OC:=hid (own_bel OC.out bU)
   try have SC:=hid (own_bel SC.out bU)
   try have RC:=hid (own_bel RC.out bU)
   try have YC:=hid (below_at YC.out bU)
   have YC:=hid hy9;have BC:=hid (BC.out.trans (bU.mono BC.out.size));clear hS1 bU hy9 hyb hY;clear hK K';refine po 5 fun K' hK=>?_
   go_simp;refine (TR.out _ BC.out).mono ?_;rintro e U2 ⟨vr,rs,rfl,hp5,hs5,hr,bU⟩;obtain⟨ra,rn,rc,rfl⟩:=own_sl4 hr;have hS1:=below_cell bU hS;refine hK.out _ _ ⟨hS1,?_⟩;clear hS;have hS:=hS1;have XC:=hid (below_at XC.out bU);have OC:=hid (own_bel OC.out bU)
   try have SC:=hid (own_bel SC.out bU)
   try have RC:=hid (own_bel RC.out bU)
   try have YC:=hid (below_at YC.out bU)
   have RC:=hid (own_mono9 hr BC.out.size);have BC:=hid (BC.out.trans (bU.mono BC.out.size));have RP:=hid (And.intro hp5 hs5);clear hS1 hp5 hs5 hr bU;clear hK K';refine pz 10 26 (.agg #[Vi (cntM h.m 283),.slice oa on oc,.slice sa sn sc,Vn,.slice ra rn rc,Vn,Vn,Vi (h.used:Nat)]) hS ?_;simp only [lz,l0,ls];refine po 12 fun K' hK=>?_
   refine wp_store_row 37 (.tmp 5) (.tmp 26) (by kernel_rfl) Y #[Vi (cntM h.m 283),.slice oa on oc,.slice sa sn sc,Vn,.slice ra rn rc,Vn,Vn,Vi (h.used:Nat)] (by kernel_rfl) (by kernel_rfl) 37 _ YC.out (by kernel_rfl) rfl (by simp [Value.oneCell']) ?_;obtain⟨g9,k9,y9⟩:=st9 YC.out #[Vi (cntM h.m 283),.slice oa on oc,.slice sa sn sc,Vn,.slice ra rn rc,Vn,Vn,Vi (h.used:Nat)];have M0:=hid (Mt9.mk (B:=B) (y:=y) (d:=d) (cf:=cf) (h:=h) (W:=W) (X:=X) (Y:=Y) (vo:=.slice oa on oc) (vs:=.slice sa sn sc) (vw:=Vn) (vr:=.slice ra rn rc) (vl:=Vn) (ve:=Vn) (ws:=[]) (rs:=rs) (BC.out.grown g9 BC.out.size (fun r hr=>by simp at hr;have:=HY.out;omega)) (by rw [g9.block X (lt_blk XC.out) (by simpa using HNE.out)];exact XC.out) y9 (own_ky OC.out k9 (by decide)) (own_ky SC.out k9 (by decide)) ⟨⟨rfl,.inl ⟨rfl,rfl⟩⟩,(fun c p hp=>by simp at hp),List.Pairwise.nil,(fun g hg p hp=>by cases hp)⟩ (own_ky RC.out k9 (by decide)) RP.out HX.out HY.out HNE.out);have hS1:=(HPB.out _ M0.out.bel).cell 118 (by omega) (Vi (h.used:Nat)) rfl;refine hK.out _ _ ⟨hS1,?_⟩;clear hS hS1 g9 k9 y9 hK K';refine wpAnyH_done (by kernel_rfl) ?_ _;go_wp2_with fail
   go_meet
   case rel=>exact ⟨Y,_,_,rs,rfl,M0⟩
  subst hi9;refine wpOp_do rfl (by kernel_rfl) (fun K' hK=>?_);go_simp;obtain⟨Y,hY,bU,hy9,hyb⟩:=al9 BC.out (.cells #[Vi 0,Vn,Vn,Vn,Vn,Vn,Vn,Vi 0] 37);rw [hY];have HNE:=hid (show X≠Y by have:=lt_blk XC.out;omega);have HY:=hid hyb;have hS1:=below_cell bU hS;refine hK.out _ _ ⟨hS1,?_⟩;clear hS;have hS:=hS1;have XC:=hid (below_at XC.out bU);have OC:=hid (own_bel OC.out bU)
  try have SC:=hid (own_bel SC.out bU)
  try have RC:=hid (own_bel RC.out bU)
  try have YC:=hid (below_at YC.out bU)
  have YC:=hid hy9;have BC:=hid (BC.out.trans (bU.mono BC.out.size));clear hS1 bU hy9 hyb hY;clear hK K';refine po 3 fun K' hK=>?_
  go_simp;refine (TS.out _ BC.out).mono ?_;rintro e U1 ⟨vs,rfl,hs,bU⟩;obtain⟨sa,sn,sc,rfl⟩:=own_sl4 hs;have hS1:=below_cell bU hS;refine hK.out _ _ ⟨hS1,?_⟩;clear hS;have hS:=hS1;have XC:=hid (below_at XC.out bU);have OC:=hid (own_bel OC.out bU)
  try have SC:=hid (own_bel SC.out bU)
  try have RC:=hid (own_bel RC.out bU)
  try have YC:=hid (below_at YC.out bU)
  have SC:=hid (own_mono9 hs BC.out.size);have BC:=hid (BC.out.trans (bU.mono BC.out.size));clear hS1 hs bU;clear hK K';refine po 5 fun K' hK=>?_
  go_simp;refine (TR.out _ BC.out).mono ?_;rintro e U2 ⟨vr,rs,rfl,hp5,hs5,hr,bU⟩;obtain⟨ra,rn,rc,rfl⟩:=own_sl4 hr;have hS1:=below_cell bU hS;refine hK.out _ _ ⟨hS1,?_⟩;clear hS;have hS:=hS1;have XC:=hid (below_at XC.out bU);have OC:=hid (own_bel OC.out bU)
  try have SC:=hid (own_bel SC.out bU)
  try have RC:=hid (own_bel RC.out bU)
  try have YC:=hid (below_at YC.out bU)
  have RC:=hid (own_mono9 hr BC.out.size);have BC:=hid (BC.out.trans (bU.mono BC.out.size));have RP:=hid (And.intro hp5 hs5);clear hS1 hp5 hs5 hr bU;clear hK K';refine pz 10 26 (.agg #[Vi (cntM h.m 283),.slice oa on oc,.slice sa sn sc,Vn,.slice ra rn rc,Vn,Vn,Vi (h.used:Nat)]) hS ?_;simp only [lz,l0,ls];refine po 12 fun K' hK=>?_
  refine wp_store_row 37 (.tmp 5) (.tmp 26) (by kernel_rfl) Y #[Vi (cntM h.m 283),.slice oa on oc,.slice sa sn sc,Vn,.slice ra rn rc,Vn,Vn,Vi (h.used:Nat)] (by kernel_rfl) (by kernel_rfl) 37 _ YC.out (by kernel_rfl) rfl (by simp [Value.oneCell']) ?_;obtain⟨g9,k9,y9⟩:=st9 YC.out #[Vi (cntM h.m 283),.slice oa on oc,.slice sa sn sc,Vn,.slice ra rn rc,Vn,Vn,Vi (h.used:Nat)];have M0:=hid (Mt9.mk (B:=B) (y:=y) (d:=d) (cf:=cf) (h:=h) (W:=W) (X:=X) (Y:=Y) (vo:=.slice oa on oc) (vs:=.slice sa sn sc) (vw:=Vn) (vr:=.slice ra rn rc) (vl:=Vn) (ve:=Vn) (ws:=[]) (rs:=rs) (BC.out.grown g9 BC.out.size (fun r hr=>by simp at hr;have:=HY.out;omega)) (by rw [g9.block X (lt_blk XC.out) (by simpa using HNE.out)];exact XC.out) y9 (own_ky OC.out k9 (by decide)) (own_ky SC.out k9 (by decide)) ⟨⟨rfl,.inl ⟨rfl,rfl⟩⟩,(fun c p hp=>by simp at hp),List.Pairwise.nil,(fun g hg p hp=>by cases hp)⟩ (own_ky RC.out k9 (by decide)) RP.out HX.out HY.out HNE.out);have hS1:=(HPB.out _ M0.out.bel).cell 118 (by omega) (Vi (h.used:Nat)) rfl;refine hK.out _ _ ⟨hS1,?_⟩;clear hS hS1 g9 k9 y9 hK K';refine wpAnyH_done (by kernel_rfl) ?_ _;go_wp2_with fail
  go_meet
  case rel=>exact ⟨Y,_,_,rs,rfl,M0⟩
 case rest =>
  obtain⟨Y,vs,vr,rs,rfl,M0⟩:=hcut;clear B1D X1D O1D c118 TS TR HX X1 O1 B1 HXV;have RG:=hid (HPB.out _ M0.out.bel).range36;have I76:=hid (fun k hk w=>ix76 cf y k hk w);go_wp2_with (refine wpList_load_mid rfl 70 _ rfl _ _ rfl _ _ RG.out Tryz.underlying70 rfl (by kernel_rfl) ?_);generalize hA36:(wait36 cf y).toArray=A36 at *;clear hA36 RG;go_loopw [31] (fun i wr=>∃ (c:Nat) (vw:Value) (ws:List (Nat×Nat)),c≤12∧i=Vi c∧Hid (ws.length=c)∧Hid (Mt9 B y d cf h W X Y (.slice oa on oc) vs vw vr (Vn) (Vn) ws rs wr)) (fun i _=>12 - (intOf i).toNat)
  case atStart=>exact ⟨0,_,[],by omega,rfl,hid rfl,M0⟩
  case round =>
   clear M0;obtain⟨c,vw,ws,hc,rfl,HL,HM⟩:=hrel
   by_cases hlt:c < 12
   ·have hcl:(c:Int) < 12:=by omega
    obtain⟨wa,wn,wc,rfl⟩:=own_sl4 HM.out.w.row;have i76:=fun w=>I76.out c hlt w
    obtain⟨tt,pp,hv3⟩:∃ (tt:Nat) (pp:Nat),v3of cf.mix (y.qm c) (y.qg c)=.iface tt (Vp pp 0):=by unfold v3of;split <;> exact ⟨_,_,rfl⟩
    rw [hv3] at i76;have QT:=hid (fun V (hV:Below W.heap.size W V)=>told_any (y.qm c) (y.qr c) (y.qg c) (y.qq c) cf.fifo _ tt ⟨pp,0,none⟩ (h.mx c) (h.ff c) V rfl ((HPB.out V hV).wt c hlt) (by rw [HOK.out.inv.mxl c hlt];have:=HOK.out.dok.mix;omega) (by have:=HOK.out.dok.fifo;omega));have bA:Below wr.heap.size wr (wr.alloc (.cells #[Vp (y.qm c) 0,Vp (y.qg c) 0,.iface tt (Vp pp 0)] 69)):=(Below.refl _ _).alloc (Nat.le_refl _) _;have M1:=hid (HM.out.below bA);have Z1:=hid (al_last wr (.cells #[Vp (y.qm c) 0,Vp (y.qg c) 0,.iface tt (Vp pp 0)] 69));clear HM bA hv3;go_upto_region 6 with fail
    generalize wr.alloc _=V at M1 Z1 ⊢;obtain⟨Z,hZ⟩:∃ Z,wr.heap.size=Z:=⟨_,rfl⟩;rw [hZ] at Z1 ⊢;clear hZ i76;have MD:=hid (M1.out.below (Below.refl _ V).drew);have ZD:=hid (below_at Z1.out (Below.refl _ V).drew);have cA:=(mB_cells MD.out.yb).2.2.2.1;refine wp_region_held (S:=fun W9=>W9.cell? ⟨Z,0,none⟩=some (Vp (y.qm c) 0)∧W9.cell? ⟨Z,1,none⟩=some (Vp (y.qg c) 0)∧W9.cell? ⟨Z,2,none⟩=some (.iface tt (Vp pp 0))) (by kernel_rfl) ?_;simp only [List.size_toArray,List.length_cons,List.length_nil,Nat.reduceAdd,Array.replicate_succ,Array.replicate_zero,List.push_toArray,List.nil_append,List.cons_append];generalize hV1:V.drew=V2 at MD ZD cA;have hV1':({ heap:=V.heap,tape:=V.tape,drawn:=V.drawn+1,os:=V.os,output:=V.output } : World)=V2:=hV1;rw [hV1'];clear hV1 hV1' M1 Z1;have hS:=zc3 ZD.out;refine py hS ?_;simp only [f0,f1,Nat.reduceAdd,lz,l0,ls];refine pz 2 36 (.agg #[Vp (y.qm c) 0,Vp (y.qg c) 0,.iface tt (Vp pp 0)]) hS ?_;simp only [lz,l0,ls];refine wpAnyH_all (rs:=[1,3]) (by kernel_rfl) (by simp) (fun i9 hi9=>?_)
    rcases (by simpa using hi9:i9=1∨i9=3) with hi9|hi9
    ·subst hi9;refine wpOp_do rfl (by kernel_rfl) (fun K' hK=>?_);go_simp;refine hK.out _ _ ⟨hS,?_⟩;clear hK K';refine po 3 fun K' hK=>?_
     go_simp;refine (QT.out _ MD.out.bel).mono ?_;rintro e U1 ⟨g1,g2,rfl,r1,r2,hg1,hg2,bU⟩;unfold wv;obtain⟨v9,U2,happ,hone,c39,f39,k9,k99,m9⟩:=MD.out.addW bU (by rw [HL.out];exact r1) (by rw [HL.out];exact r2) hg1 hg2 (by rw [HL.out];omega);rw [HL.out] at happ;obtain⟨xa,xn,xc,rfl⟩:=own_sl4 m9.w.row;have cB:=below_cell bU cA;have bA:Below U1.heap.size U1 (U1.alloc (.cells #[Vl g1 (h.mx c).length (h.mx c).length,Vl g2 (h.ff c).length (h.ff c).length,Vi (cf.fifo:Nat)] 88)):=(Below.refl _ _).alloc (Nat.le_refl _) _;have cC:=below_cell bA cB;have ZU:=hid (zc3 (below_at ZD.out bU));have ZA:=hid (zc3 (below_at (below_at ZD.out bU) bA));have Z9:=hid (zc3 (k9.cells _ _ _ _ ZD.out (by decide)));have Z99:=hid (zc3 (k99.cells _ _ _ _ ZD.out (by decide)));have M9:=hid m9;refine hK.out _ _ ⟨ZU.out,?_⟩;clear hS r1 r2 hg1 hg2 bU bA hone k9 k99 m9;have hS:=ZU.out;clear hK K';refine po 4 fun K' hK=>?_
     go_simp;refine hK.out _ _ ⟨ZA.out,?_⟩;clear hS;have hS:=ZA.out;clear hK K';refine po 5 fun K' hK=>?_
     refine wpo_append 33 (.tmp 35) (.tmp 38) (v:=.slice wa wn wc) (v2:=Vl U1.heap.size 1 1) (by kernel_rfl) (by kernel_rfl) (by kernel_rfl) (by kernel_rfl) happ ?_;refine hK.out _ _ ⟨Z9.out,?_⟩;clear hS;have hS:=Z9.out;clear hK K';refine pk 6 40 (Vp Y 3) hS ?_;simp only [lz,l0,ls];refine po 7 fun K' hK=>?_
     go_simp;refine hK.out _ _ ⟨Z99.out,?_⟩;clear hS;clear hK K';refine wpAnyH_done (by kernel_rfl) ?_ _;go_wp2;go_roundw
     case rel=>exact ⟨c+1,_,ws++[(g1,g2)],by omega,by go_num,hid (by rw [List.length_append,HL.out];rfl),M9⟩
     case measure=>simp [intOf];omega
    subst hi9;refine wpOp_do rfl (by kernel_rfl) (fun K' hK=>?_);go_simp;refine (QT.out _ MD.out.bel).mono ?_;rintro e U1 ⟨g1,g2,rfl,r1,r2,hg1,hg2,bU⟩;unfold wv;obtain⟨v9,U2,happ,hone,c39,f39,k9,k99,m9⟩:=MD.out.addW bU (by rw [HL.out];exact r1) (by rw [HL.out];exact r2) hg1 hg2 (by rw [HL.out];omega);rw [HL.out] at happ;obtain⟨xa,xn,xc,rfl⟩:=own_sl4 m9.w.row;have cB:=below_cell bU cA;have bA:Below U1.heap.size U1 (U1.alloc (.cells #[Vl g1 (h.mx c).length (h.mx c).length,Vl g2 (h.ff c).length (h.ff c).length,Vi (cf.fifo:Nat)] 88)):=(Below.refl _ _).alloc (Nat.le_refl _) _;have cC:=below_cell bA cB;have ZU:=hid (zc3 (below_at ZD.out bU));have ZA:=hid (zc3 (below_at (below_at ZD.out bU) bA));have Z9:=hid (zc3 (k9.cells _ _ _ _ ZD.out (by decide)));have Z99:=hid (zc3 (k99.cells _ _ _ _ ZD.out (by decide)));have M9:=hid m9;refine hK.out _ _ ⟨ZU.out,?_⟩;clear hS r1 r2 hg1 hg2 bU bA hone k9 k99 m9;have hS:=ZU.out;clear hK K';refine wpAnyH_all (rs:=[1,4]) (by kernel_rfl) (by simp) (fun i9 hi9=>?_)
    rcases (by simpa using hi9:i9=1∨i9=4) with hi9|hi9
    ·subst hi9;refine wpOp_do rfl (by kernel_rfl) (fun K' hK=>?_);go_simp;refine hK.out _ _ ⟨hS,?_⟩;clear hK K';refine po 4 fun K' hK=>?_
     go_simp;refine hK.out _ _ ⟨ZA.out,?_⟩;clear hS;have hS:=ZA.out;clear hK K';refine po 5 fun K' hK=>?_
     refine wpo_append 33 (.tmp 35) (.tmp 38) (v:=.slice wa wn wc) (v2:=Vl U1.heap.size 1 1) (by kernel_rfl) (by kernel_rfl) (by kernel_rfl) (by kernel_rfl) happ ?_;refine hK.out _ _ ⟨Z9.out,?_⟩;clear hS;have hS:=Z9.out;clear hK K';refine pk 6 40 (Vp Y 3) hS ?_;simp only [lz,l0,ls];refine po 7 fun K' hK=>?_
     go_simp;refine hK.out _ _ ⟨Z99.out,?_⟩;clear hS;clear hK K';refine wpAnyH_done (by kernel_rfl) ?_ _;go_wp2;go_roundw
     case rel=>exact ⟨c+1,_,ws++[(g1,g2)],by omega,by go_num,hid (by rw [List.length_append,HL.out];rfl),M9⟩
     case measure=>simp [intOf];omega
    subst hi9;refine wpOp_do rfl (by kernel_rfl) (fun K' hK=>?_);go_simp;refine hK.out _ _ ⟨ZA.out,?_⟩;clear hS;have hS:=ZA.out;clear hK K';refine po 1 fun K' hK=>?_
    go_simp;refine hK.out _ _ ⟨hS,?_⟩;clear hK K';refine po 5 fun K' hK=>?_
    refine wpo_append 33 (.tmp 35) (.tmp 38) (v:=.slice wa wn wc) (v2:=Vl U1.heap.size 1 1) (by kernel_rfl) (by kernel_rfl) (by kernel_rfl) (by kernel_rfl) happ ?_;refine hK.out _ _ ⟨Z9.out,?_⟩;clear hS;have hS:=Z9.out;clear hK K';refine pk 6 40 (Vp Y 3) hS ?_;simp only [lz,l0,ls];refine po 7 fun K' hK=>?_
    go_simp;refine hK.out _ _ ⟨Z99.out,?_⟩;clear hS;clear hK K';refine wpAnyH_done (by kernel_rfl) ?_ _;go_wp2;go_roundw
    case rel=>exact ⟨c+1,_,ws++[(g1,g2)],by omega,by go_num,hid (by rw [List.length_append,HL.out];rfl),M9⟩
    case measure=>simp [intOf];omega
   obtain rfl:c=12:=by omega
   obtain⟨qa,qc,hro⟩:=um_slice0 (HPB.out wr HM.out.bel).ro;obtain⟨ea,en,ec,hrl9⟩:=own_sl4 (HPB.out wr HM.out.bel).rl;have c116:wr.cell? ⟨y.P,116,none⟩=some (.slice qa h.row.length qc):=by rw [←hro];exact (HPB.out wr HM.out.bel).cell 116 (by omega) _ rfl
   have CL:=hid (im_clone B d.ro h.row wr (HPB.out wr HM.out.bel).ro (by omega));rw [hro] at CL;have HRO:=hid hro;have HRL:=hid hrl9;clear hro hrl9 hlt hc I76;go_wp2_with fail;refine (CL.out).mono ?_;rintro e U1 ⟨vl,rfl,hl,b1⟩;obtain⟨la,ln,lc,rfl⟩:=own_sl4 hl;have M1:=hid (HM.out.below b1);have L1:=hid (own_mono9 hl HM.out.bel.size);have c5:=(mB_cells M1.out.yb).2.2.2.2.2.1;have f5:=(mB_cells M1.out.yb).2.2.2.2.2.2.2.2 5;obtain⟨m2,k2⟩:=M1.out.set 5 (.slice la ln lc) (.slice la ln lc) (Vn) (.inl ⟨rfl,rfl,rfl⟩);have M2:=hid m2;have L2:=hid (own_ky L1.out k2 (by decide));have c117:(U1.setCell ⟨Y,5,none⟩ (.slice la ln lc)).cell? ⟨y.P,117,none⟩=some (.slice ea en ec):=by rw [←HRL.out];exact (HPB.out _ m2.bel).cell 117 (by omega) _ rfl
   clear hl b1 m2 k2 HM M1 L1 CL c116;go_wp2_with fail;generalize U1.setCell ⟨Y,5,none⟩ (.slice la ln lc)=U2 at *;refine (im_values ea en ec U2).mono ?_;rintro e U3 ⟨rfl,hU3⟩;have b3:Below U2.heap.size U2 U3:=by rw [hU3];exact (Below.refl _ _).alloc (Nat.le_refl _) _
   have z3:U3.heap[U2.heap.size]?=some (.cells #[.slice ea en ec] 35 (0,0)):=by rw [hU3];exact al_last _ _
   have M3:=hid (M2.out.below b3);have L3:=hid (own_bel L2.out b3);have SV:=hid (HSC.out U2.heap.size ea en ec h.rel U3 B z3 (by rw [←HRL.out];exact (HPB.out U3 M3.out.bel).rl) (by omega));clear hU3 b3 z3 M2 L2 c117 c5 f5;go_wp2_with fail;refine (SV.out).mono ?_;rintro e U4 ⟨ve,es,rfl,hp4,hs4,he4,b4⟩;obtain⟨xa,xn,xc,rfl⟩:=own_sl4 he4;have M4:=hid (M3.out.below b4);have L4:=hid (own_bel L3.out b4);have HNE:=hid (show ∀ g,(Value.slice la ln lc).ownBlock=some g→(Value.slice xa xn xc).ownBlock≠some g from fun g hg he=>by
    obtain⟨_,c9,hc9⟩:=own_lt L3.out hg;have h1:=lt_blk hc9;have h2:=(own_lt he4 he).1;omega)
   have E4:=hid (And.intro hp4 (And.intro hs4 (own_mono9 he4 M3.out.bel.size)));have c6:=(mB_cells M4.out.yb).2.2.2.2.2.2.1;have f6:=(mB_cells M4.out.yb).2.2.2.2.2.2.2.2 6;obtain⟨m5,k5⟩:=M4.out.set 6 (.slice xa xn xc) (.slice la ln lc) (.slice xa xn xc) (.inr ⟨rfl,rfl,rfl⟩);have M5:=hid m5;have L5:=hid (own_ky L4.out k5 (by decide));have E5:=hid (own_ky E4.out.2.2 k5 (by decide));obtain⟨u0,u1,u2,u3,u4,u5,u6,u7,_⟩:=mB_cells m5.yb;obtain⟨wa,wn,wc9,hvw⟩:=own_sl4 m5.w.row;obtain⟨sa,sn,sc,hvs⟩:=own_sl4 m5.s;obtain⟨ra,rn,rc,hvr⟩:=own_sl4 m5.r;subst hvw hvs hvr;clear hp4 hs4 he4 b4 m5 k5 M3 L3 M4 L4 SV;go_wp2_with (refine wpList_store_row rfl 37 _ _ rfl _ _ rfl rfl 37 _ M5.out.xb (by kernel_rfl) rfl (by simp [Value.oneCell']) ?_);refine bodyPost_ret (results_cell_row (by rfl) _ _ X 37 _ (0,0) _ (by rfl) (setRow_at M5.out.xb _) Tryz.underlying37 rfl (by kernel_rfl)) (by rfl) ?_;have kX:Ky (· = 37) _ _:=Ky.grown M5.out.xb rfl (grown_setRow (U4.setCell ⟨Y,6,none⟩ (.slice xa xn xc)) X #[Vi (cntM h.m 283),.slice oa on oc,.slice sa sn sc,.slice wa wn wc9,.slice ra rn rc,.slice la ln lc,.slice xa xn xc,Vi (h.used:Nat)]);refine⟨_,_,_,_,_,_,_,_,rfl,fun v hv=>?_,⟨_,_,_,_,_,_,ws,rs,es,rfl,own_ky M5.out.o kX (by decide),own_ky M5.out.s kX (by decide),⟨HL.out,M5.out.w.ky kX (by decide) (by decide)⟩,⟨M5.out.rp.1,M5.out.rp.2,own_ky M5.out.r kX (by decide)⟩,own_ky L5.out kX (by decide),⟨E4.out.1,E4.out.2.1,own_ky E5.out kX (by decide)⟩,HNE.out⟩,M5.out.bel.grown (grown_setRow _ _ _) M5.out.bel.size (fun r hr=>by simp at hr;have:=M5.out.bx;omega)⟩;simp only [List.mem_cons,List.not_mem_nil,or_false] at hv
   rcases hv with rfl|rfl|rfl|rfl|rfl|rfl|rfl|rfl <;> rfl
end Go.Proofs.YtgandbaejlfppaaGreatDoor
