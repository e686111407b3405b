import Derived.Below
import Derived.BigGuardIn
import Derived.BigQuiet
import Derived.BigRegionIn
import Derived.Conc.MuLone
import Derived.Deep.AppendLies
import Derived.Deep.AppendSrc
import Derived.Deep.CutBlock
import Derived.Deep.DeepCutAuto
import Derived.Deep.LoopGhost
import Derived.Deep.MidRow
import Derived.Deep.OwnRows
import Derived.Deep.QuietTactic
import Derived.Deep.RegionHeld
import Derived.Deep.RegionLaw
import Derived.Deep.RegionWith
import Derived.Defers
import Derived.KernelRfl
import Derived.Laws.BytesString
import Derived.Laws.CopyOwn
import Derived.Laws.OwnMore
import Derived.Laws.Rows
import Derived.Laws.Tables
import Derived.Lib.SliceRun
import Derived.Lib.SmallJoins
import Derived.LoopIn
import Derived.LoopNIn
import Derived.Maps.AppendAt
import Derived.Maps.OwnOps
import Derived.Maps.OwnSet
import Derived.Maps.RangeWalk
import Derived.OpenShut
import Derived.OrdersHeld
import Derived.OwnWalkIn
import Derived.ProofKit
import Derived.RangeFuncBound
import Derived.RangeFuncCalls
import Derived.RangeFuncLeaves
import Derived.RangeFuncNested
import Derived.Recover
import Derived.Shelf.Abstract
import Derived.Shelf.Bits.Mul64
import Derived.Shelf.RegionOpen
import Derived.TacticsInMore
import Derived.Test.YtacccpkmgkojiaaGreatDoorRRProg
import Derived.WalkKit
import Derived.WalkLawsBesides
import Derived.Test.YtacccpkmgkojiaaGreatDoorRRM00
import Derived.Test.YtacccpkmgkojiaaGreatDoorRRM01
import Derived.Test.YtacccpkmgkojiaaGreatDoorRRM02
import Derived.Test.YtacccpkmgkojiaaGreatDoorRRM06
import Derived.Test.YtacccpkmgkojiaaGreatDoorRRM08
import Derived.Test.YtacccpkmgkojiaaGreatDoorRRM09
import Derived.Test.YtacccpkmgkojiaaGreatDoorRRM10
import Derived.Test.YtacccpkmgkojiaaGreatDoorRRM12
import Derived.Test.YtacccpkmgkojiaaGreatDoorRRM14
import Derived.Test.YtacccpkmgkojiaaGreatDoorRRM15
import Derived.Test.YtacccpkmgkojiaaGreatDoorRRM17
import Derived.Test.YtacccpkmgkojiaaGreatDoorRRM18
import Derived.Test.YtacccpkmgkojiaaGreatDoorRRM22
import Derived.Test.YtacccpkmgkojiaaGreatDoorRRM24
import Derived.Test.YtacccpkmgkojiaaGreatDoorRRM26
import Derived.Test.YtacccpkmgkojiaaGreatDoorRRM27
import Derived.Test.YtacccpkmgkojiaaGreatDoorRRM29
import Derived.Test.YtacccpkmgkojiaaGreatDoorRRM31
import Derived.Test.YtacccpkmgkojiaaGreatDoorRRM33
import Derived.Test.YtacccpkmgkojiaaGreatDoorRRM34
namespace Go.Proofs.YtacccpkmgkojiaaGreatDoorRR
set_option linter.unusedVariables false
set_option linter.unusedSimpArgs false
set_option maxRecDepth 20000
set_option maxHeartbeats 8000000
open Go.RowKit Go.Maps
def cfA (cf:Cf) (da:Option Addr) (dc:Nat):Array Value:=#[Vi (cf.mix:Nat),Vi (cf.fifo:Nat),Vi (cf.large:Nat),Vi (cf.bud:Nat),Vu cf.key,.slice da cf.ds.length dc]
def hp0 (mix fifo large bud key:Int) (da:Option Addr) (dl dc S R:Nat):Array Value :=
 ([Vi mix,Vi fifo,Vi large,Vi bud,Vu key,.slice da dl dc,Vp S 0]++List.replicate 72 (.pointer none)++(List.replicate 12 [.pointer none,.pointer none,.nilIface]).flatten++[.map (some R),Vn,Vn,Vi 0,Vn,.nilFunc]:List Value).toArray
theorem box79 (mix fifo large bud key:Int) (da:Option Addr) (dl dc S R:Nat) (w:World):(Instr.box 92 (.agg (hp0 mix fifo large bud key da dl dc S R))).run Tryz.prog w=.ok (Vp w.heap.size 0) (w.alloc (.cells (hp0 mix fifo large bud key da dl dc S R) 92)):=by kernel_rfl
theorem hp0_at (cf:Cf) (da:Option Addr) (dc S R:Nat) (fl:Nat→Sb9) (qs:Nat→Qb9):(hp0 (cf.mix:Nat) (cf.fifo:Nat) (cf.large:Nat) (cf.bud:Nat) cf.key da cf.ds.length dc S R).size=121∧∀ i,i < 121→(hp0 (cf.mix:Nat) (cf.fifo:Nat) (cf.large:Nat) (cf.bud:Nat) cf.key da cf.ds.length dc S R)[i]?=some (boxN cf da dc S R fl qs 0 0 i):=by
 have e:hp0 (cf.mix:Nat) (cf.fifo:Nat) (cf.large:Nat) (cf.bud:Nat) cf.key da cf.ds.length dc S R=((List.range 121).map (boxN cf da dc S R fl qs 0 0)).toArray:=by kernel_rfl
 rw [e];exact⟨by simp,fun i hi=>by simp [hi]⟩
theorem wpo_box {tt:TypeId} {o:Oper} {a:Act} {W W':World} {K:Act→World→Prop} {Q:Exit→Act→World→Prop} (x:Operand) {v v':Value} (hop:o.op=Op.box tt x) (hx:a.eval x=v) (hr:(Instr.box tt v).run Tryz.prog W=.ok v' W') (hK:K (a.put o.dst v') W'):Oper.wp Tryz.prog o a W K Q:=by
 unfold Oper.wp;simp [execOp,hop,hx,hr,Result.andThen];exact hK
structure Cx (X:Nat) (cf:Cf) (da:Option Addr) (dc:Nat) (W V:World):Prop where
 bx:V.heap[X]?=some (.cells (cfA cf da dc) 26 (0,0))
 c0:V.cell? ⟨X,0,none⟩=some (Vi (cf.mix:Nat))
 c1:V.cell? ⟨X,1,none⟩=some (Vi (cf.fifo:Nat))
 c2:V.cell? ⟨X,2,none⟩=some (Vi (cf.large:Nat))
 c3:V.cell? ⟨X,3,none⟩=some (Vi (cf.bud:Nat))
 c4:V.cell? ⟨X,4,none⟩=some (Vu cf.key)
 c5:V.cell? ⟨X,5,none⟩=some (.slice da cf.ds.length dc)
 tb:Tb V
 bel:Below W.heap.size W V
theorem Cx.at {X:Nat} {cf:Cf} {da:Option Addr} {dc:Nat} {W V:World} (h:V.heap[X]?=some (.cells (cfA cf da dc) 26 (0,0))) (tb:Tb V) (b:Below W.heap.size W V):Cx X cf da dc W V:=by
 refine⟨h,?_,?_,?_,?_,?_,?_,tb,b⟩ <;> (rw [cell_of_row _ _ _ _ _ _ h];rfl)
theorem Cx.turn {X:Nat} {cf:Cf} {da:Option Addr} {dc:Nat} {W V V':World} (h:Cx X cf da dc W V) (k:Ky (· = 92) V V') (b:Below W.heap.size V V') (h0:0 < W.heap.size):Cx X cf da dc W V' :=
 Cx.at (k.cells _ _ _ _ h.bx (by decide)) (h.tb.belowB b h0) (h.bel.trans b)
theorem Nh.turn {B P S M R:Nat} {da:Option Addr} {dc:Nat} {cf:Cf} {fl:Nat→Sb9} {qs:Nat→Qb9} {k w:Nat} {W W':World} (h:Nh B P S M R da dc cf fl qs k w W) (g:W.grownBy W' (some P)):Ky (· = 92) W W'∧Below B W W':=by
 obtain⟨c,h1,_⟩:=h.box;exact⟨Ky.grown h1 rfl g,(Below.refl B W).grown g h.bW (fun r hr=>by simp at hr;have:=h.bP;omega)⟩
theorem setc3 (W:World) (P o:Nat) (a b c:Value):W.setCells P o [a,b,c]=((W.setCell ⟨P,o,none⟩ a).setCell ⟨P,o+1,none⟩ b).setCell ⟨P,o+2,none⟩ c:=by
 simp [World.setCells]
def v3of (n m g:Nat):Value:=if n=0 then .iface 84 (Vp g 0) else .iface 83 (Vp m 0)
theorem v3of_one (n m g:Nat):(v3of n m g).oneCell'=true:=by unfold v3of;split <;> rfl
theorem qv9 (n m g:Nat):qv m g (List.replicate n (-1))=.agg #[Vp m 0,Vp g 0,v3of n m g]:=by unfold qv v3of;simp
theorem Cx.below {X:Nat} {cf:Cf} {da:Option Addr} {dc:Nat} {W V V':World} (h:Cx X cf da dc W V) (b:Below V.heap.size V V'):Cx X cf da dc W V' :=
 ⟨below_at h.bx b,below_cell b h.c0,below_cell b h.c1,below_cell b h.c2,below_cell b h.c3,below_cell b h.c4,below_cell b h.c5,h.tb.ofBelow b,h.bel.trans (b.mono h.bel.size)⟩
theorem Cx.of {cf:Cf} {da:Option Addr} {dc:Nat} {W:World} (tb:Tb W):Cx W.heap.size cf da dc W (W.alloc (.cells (cfA cf da dc) 26)):=by
 have h:=al_last W (.cells (cfA cf da dc) 26);have b:Below W.heap.size W (W.alloc (.cells (cfA cf da dc) 26)):=(Below.refl _ _).alloc (Nat.le_refl _) _;exact Cx.at h (tb.ofBelow b) b
theorem Mr.bel9 {R n:Nat} {lo:Nat→Option Nat} {W W':World} (h:Mr R n lo W) (b:Below W.heap.size W W'):Mr R n lo W':=by
 obtain⟨es,c,hR⟩:=h.typ;exact h.same (b.block _ (lt_blk hR))
theorem Mr.made (W:World):Mr W.heap.size 0 (fun _=>none) (W.alloc (.map #[] 0)) :=
 ⟨.map [],(World.ownsMap_made W Tryz.prog 23 ptrE).mono (Nat.zero_le _),Nat.le_refl _,fun k hk=>rfl,fun k hk=>rfl⟩
theorem Cx.mapped {X:Nat} {cf:Cf} {da:Option Addr} {dc:Nat} {W V:World} (h:Cx X cf da dc W V):∃ R,V.heap.size=R∧Cx X cf da dc W (V.alloc (.map #[] 0))∧Mr R 0 (fun _=>none) (V.alloc (.map #[] 0))∧W.heap.size≤R∧R < (V.alloc (.map #[] 0)).heap.size∧Below V.heap.size V (V.alloc (.map #[] 0)) :=
 ⟨_,rfl,h.below ((Below.refl _ _).alloc (Nat.le_refl _) _),Mr.made V,h.bel.size,by rw [al_size];omega,(Below.refl _ _).alloc (Nat.le_refl _) _⟩
theorem Nh.first {cf:Cf} {da:Option Addr} {dc X S M R:Nat} {W U:World} (hX:Cx X cf da dc W U) (ds:Sl W da cf.ds) (dab:∀ a,da=some a→a.block < W.heap.size) (h0:0 < W.heap.size) (hI:Im S M 0 283 (cf.bud:Nat) (fun _=>none) U) (bS:W.heap.size≤S) (bM:W.heap.size≤M) (hM:Mr R 0 (fun _=>none) U) (bR:W.heap.size≤R) (hne:M≠R) (fl:Nat→Sb9) (qs:Nat→Qb9) :
  ∃ P,U.heap.size=P∧Nh W.heap.size P S M R da dc cf fl qs 0 0 (U.alloc (.cells (hp0 (cf.mix:Nat) (cf.fifo:Nat) (cf.large:Nat) (cf.bud:Nat) cf.key da cf.ds.length dc S R) 92))∧Cx X cf da dc W (U.alloc (.cells (hp0 (cf.mix:Nat) (cf.fifo:Nat) (cf.large:Nat) (cf.bud:Nat) cf.key da cf.ds.length dc S R) 92)):=by
 have b:Below U.heap.size U (U.alloc (.cells (hp0 (cf.mix:Nat) (cf.fifo:Nat) (cf.large:Nat) (cf.bud:Nat) cf.key da cf.ds.length dc S R) 92)):=(Below.refl _ _).alloc (Nat.le_refl _) _;have hx:=hX.below b;obtain⟨e1,e2⟩:=hp0_at cf da dc S R fl qs;refine⟨_,rfl,⟨⟨_,al_last _ _,e1,e2⟩,Nat.le_trans hX.bel.size b.size,(ds.below hX.bel).below b,dab,hI.ky (Ky.below b:Ky (fun _=>False) _ _) (fun e=>e) (b.block _ hI.lt.2),hM.bel9 b,hX.bel.size,bS,bM,bR,hne,(fun i hi=>by omega),(fun i j hi=>by omega),(fun c hc=>by omega),(fun c c' hc=>by omega),hx.tb,h0⟩,hx⟩
def NhR (cf:Cf) (da:Option Addr) (dc:Nat) (W:World) (e:Ending) (W':World):Prop:=∃ y,e=.returned (Vp y.P 0)∧y.da=da∧Hp W.heap.size y dyN cf (newH cf) W'∧Gd dyN (newH cf) (Vn)∧Below W.heap.size W W'
theorem im_newHeap (cf:Cf) (da:Option Addr) (dc:Nat) (W:World) (dk:Dok cf) (tb:Tb W) (ds:Sl W da cf.ds) (dab:∀ a,da=some a→a.block < W.heap.size) (h0:0 < W.heap.size) :
    Calls Tryz.prog 37 #[cfgV cf da dc] W (NhR cf da dc W):=by
  have HX:=hid (Cx.of (cf:=cf) (da:=da) (dc:=dc) tb)
  have DS:=hid ds
  have DAB:=hid dab
  have H0:=hid h0
  have hfi:=dk.fifo1
  have hfm:=dk.fifo
  have hmx:=dk.mix
  have hbu:=dk.bud
  unfold cfgV
  clear tb ds dab h0
  go_enter Tryz.func37,Tryz.ntmps37
  go_upto_region 1 with fail
  have HD:=hid (show Cx W.heap.size cf da dc W ((W.alloc (.cells (cfA cf da dc) 26)).drew) from HX.out.below (Below.refl _ _).drew)
  unfold cfA at HD
  generalize W.alloc _=V0 at HD ⊢
  obtain⟨X,hX⟩:∃ X,X=W.heap.size:=⟨_,rfl⟩
  rw [←hX] at HD ⊢
  clear hX HX
  go_cut [3] (fun s3 w'=>∃ P S M R,s3=.pointer (some ⟨P,0,none⟩)∧Hid (Nh W.heap.size P S M R da dc cf (fun _=>⟨0,0,0,fun _=>0⟩) (fun _=>⟨0,0,0,0⟩) 0 0 w')∧Hid (Cx X cf da dc W w'))
  case first =>
    refine wp_region_held (S:=Cx X cf da dc W) (by kernel_rfl) ?_
    simp only [List.size_toArray,List.length_cons,List.length_nil,Nat.reduceAdd,Array.replicate_succ,Array.replicate_zero,List.push_toArray,List.nil_append,List.cons_append]
    generalize hV1:V0.drew=V1 at HD
    have hV1':({ heap:=V0.heap,tape:=V0.tape,drawn:=V0.drawn+1,os:=V0.os,output:=V0.output } : World)=V1:=hV1
    rw [hV1']
    clear hV1 hV1'
    have hS:=HD.out
    refine wpAnyH_put (i:=0) (d:=6) (v:=.agg #[.int .i64 (cf.mix:Nat),.int .i64 (cf.fifo:Nat),.int .i64 (cf.large:Nat),.int .i64 (cf.bud:Nat),.int .u64 cf.key,.slice da cf.ds.length dc]) rfl (by kernel_rfl) (by kernel_rfl) (by kernel_rfl) (by kernel_rfl) (fun _ _ _ h=>h) (Or.inl ⟨by kernel_rfl,fun W hS=>by obtain ⟨_,y0,y1,y2,y3,y4,y5,y6,y7⟩:=hS;first|(go_simp;done)|(go_simp;omega)⟩) hS ?_
    simp only [List.setIfInBounds_toArray,List.set_cons_zero,List.set_cons_succ]
    refine wpAnyH_put (i:=2) (d:=8) (v:=.pointer (some ⟨X,3,none⟩)) rfl (by kernel_rfl) (by kernel_rfl) (by kernel_rfl) (by kernel_rfl) (fun _ _ _ h=>h) (Or.inl ⟨by kernel_rfl,fun _ _=>by kernel_rfl⟩) hS ?_
    simp only [List.setIfInBounds_toArray,List.set_cons_zero,List.set_cons_succ]
    refine wpAnyH_put (i:=3) (d:=9) (v:=.int .i64 (cf.bud:Nat)) rfl (by kernel_rfl) (by kernel_rfl) (by kernel_rfl) (by kernel_rfl) (fun _ _ _ h=>h) (Or.inl ⟨by kernel_rfl,fun W hS=>by obtain ⟨_,y0,y1,y2,y3,y4,y5,y6,y7⟩:=hS;first|(go_simp;done)|(go_simp;omega)⟩) hS ?_
    simp only [List.setIfInBounds_toArray,List.set_cons_zero,List.set_cons_succ]
    refine wpAnyH_all (rs:=[1,5]) (by kernel_rfl) (by simp) (fun i9 hi9=>?_)
    rcases (by simpa using hi9:i9=1∨i9=5) with hi9|hi9
    · subst hi9
      refine wpOp_do rfl (by kernel_rfl) (fun K' hK=>?_)
      go_simp
      refine (im_ArenaPages _ hS.tb).mono ?_
      rintro e U ⟨rfl,bU⟩
      have hU:=hS.below bU
      refine hK.out _ _ ⟨hU,?_⟩
      clear hS
      have hS:=hU
      clear hU
      try have HM:=hid (And.intro (HM.out.1.bel9 bU) (And.intro HM.out.2.1 (Nat.lt_of_lt_of_le HM.out.2.2 bU.size)))
      clear bU
      clear hK K'
      refine wpAnyH_all (rs:=[4,5]) (by kernel_rfl) (by simp) (fun i9 hi9=>?_)
      rcases (by simpa using hi9:i9=4∨i9=5) with hi9|hi9
      · subst hi9
        refine wpOp_do rfl (by kernel_rfl) (fun K' hK=>?_)
        go_simp
        refine (im_new 283 (cf.bud:Nat) _).mono ?_
        rintro e U ⟨S,M,rfl,hI,bU,hbS,hbM,hne⟩
        have hsz:=hS.bel.size
        have hU:=hS.below bU
        refine hK.out _ _ ⟨hU,?_⟩
        clear hS
        have hS:=hU
        clear hU
        try have HNE:=hid (show M≠R by have:=HM.out.2.2;omega)
        have HI:=hid (And.intro hI (And.intro (Nat.le_trans hsz hbS) (Nat.le_trans hsz hbM)))
        try have HM:=hid (And.intro (HM.out.1.bel9 bU) (And.intro HM.out.2.1 (Nat.lt_of_lt_of_le HM.out.2.2 bU.size)))
        clear bU hI hbS hbM hne hsz
        clear hK K'
        refine wpAnyH_one (r:=5) (by kernel_rfl) ?_
        refine wpOp_do rfl (by kernel_rfl) (fun K' hK=>?_)
        have hmm:=@run_makeMap Tryz.prog
        go_simp
        clear hmm
        obtain⟨R,hR,hC,hMr,hbR,hlR,bU⟩:=hS.mapped
        rw [hR]
        refine hK.out _ _ ⟨hC,?_⟩
        try have HNE:=hid (show M≠R by have:=HI.out.1.lt.2;omega)
        try have HI:=hid (And.intro (HI.out.1.ky (Ky.below bU:Ky (fun _=>False) _ _) (fun e=>e) (bU.block _ HI.out.1.lt.2)) HI.out.2)
        have HM:=hid (And.intro hMr (And.intro hbR hlR))
        clear hS hMr hbR hlR hR bU
        have hS:=hC
        clear hC hK K'
        refine wpAnyH_put (i:=6) (d:=12) (v:=.agg (hp0 (cf.mix:Nat) (cf.fifo:Nat) (cf.large:Nat) (cf.bud:Nat) cf.key da cf.ds.length dc S R)) rfl (by kernel_rfl) (by kernel_rfl) (by kernel_rfl) (by kernel_rfl) (fun _ _ _ h=>h) (Or.inl ⟨by kernel_rfl,fun _ _=>by kernel_rfl⟩) hS ?_
        simp only [List.setIfInBounds_toArray,List.set_cons_zero,List.set_cons_succ]
        refine wpAnyH_one (r:=7) (by kernel_rfl) ?_
        refine wpOp_do rfl (by kernel_rfl) (fun K' hK=>?_)
        refine wpo_box (.tmp 12) (by kernel_rfl) (by kernel_rfl) (box79 (cf.mix:Nat) (cf.fifo:Nat) (cf.large:Nat) (cf.bud:Nat) cf.key da cf.ds.length dc S R _) ?_
        obtain⟨P,hP,hN,hC⟩:=Nh.first hS DS.out DAB.out H0.out HI.out.1 HI.out.2.1 HI.out.2.2 HM.out.1 HM.out.2.1 HNE.out (fun _=>⟨0,0,0,fun _=>0⟩) (fun _=>⟨0,0,0,0⟩)
        rw [hP]
        refine hK.out _ _ ⟨hC,?_⟩
        have HN:=hid hN
        clear hS
        have hS:=hC
        clear hC hN hP hK K'
        refine wpAnyH_put (i:=8) (d:=3) (v:=.pointer (some ⟨P,0,none⟩)) rfl (by kernel_rfl) (by kernel_rfl) (by kernel_rfl) (by kernel_rfl) (fun _ _ _ h=>h) (Or.inl ⟨by kernel_rfl,fun _ _=>by kernel_rfl⟩) hS ?_
        simp only [List.setIfInBounds_toArray,List.set_cons_zero,List.set_cons_succ]
        refine wpAnyH_done (by kernel_rfl) ?_ _
        go_wp2_with fail
        go_meet
        case rel=>exact ⟨P,S,M,R,rfl,HN,hid hS⟩
      · subst hi9
        refine wpOp_do rfl (by kernel_rfl) (fun K' hK=>?_)
        have hmm:=@run_makeMap Tryz.prog
        go_simp
        clear hmm
        obtain⟨R,hR,hC,hMr,hbR,hlR,bU⟩:=hS.mapped
        rw [hR]
        refine hK.out _ _ ⟨hC,?_⟩
        try have HNE:=hid (show M≠R by have:=HI.out.1.lt.2;omega)
        try have HI:=hid (And.intro (HI.out.1.ky (Ky.below bU:Ky (fun _=>False) _ _) (fun e=>e) (bU.block _ HI.out.1.lt.2)) HI.out.2)
        have HM:=hid (And.intro hMr (And.intro hbR hlR))
        clear hS hMr hbR hlR hR bU
        have hS:=hC
        clear hC hK K'
        refine wpAnyH_one (r:=4) (by kernel_rfl) ?_
        refine wpOp_do rfl (by kernel_rfl) (fun K' hK=>?_)
        go_simp
        refine (im_new 283 (cf.bud:Nat) _).mono ?_
        rintro e U ⟨S,M,rfl,hI,bU,hbS,hbM,hne⟩
        have hsz:=hS.bel.size
        have hU:=hS.below bU
        refine hK.out _ _ ⟨hU,?_⟩
        clear hS
        have hS:=hU
        clear hU
        try have HNE:=hid (show M≠R by have:=HM.out.2.2;omega)
        have HI:=hid (And.intro hI (And.intro (Nat.le_trans hsz hbS) (Nat.le_trans hsz hbM)))
        try have HM:=hid (And.intro (HM.out.1.bel9 bU) (And.intro HM.out.2.1 (Nat.lt_of_lt_of_le HM.out.2.2 bU.size)))
        clear bU hI hbS hbM hne hsz
        clear hK K'
        refine wpAnyH_put (i:=6) (d:=12) (v:=.agg (hp0 (cf.mix:Nat) (cf.fifo:Nat) (cf.large:Nat) (cf.bud:Nat) cf.key da cf.ds.length dc S R)) rfl (by kernel_rfl) (by kernel_rfl) (by kernel_rfl) (by kernel_rfl) (fun _ _ _ h=>h) (Or.inl ⟨by kernel_rfl,fun _ _=>by kernel_rfl⟩) hS ?_
        simp only [List.setIfInBounds_toArray,List.set_cons_zero,List.set_cons_succ]
        refine wpAnyH_one (r:=7) (by kernel_rfl) ?_
        refine wpOp_do rfl (by kernel_rfl) (fun K' hK=>?_)
        refine wpo_box (.tmp 12) (by kernel_rfl) (by kernel_rfl) (box79 (cf.mix:Nat) (cf.fifo:Nat) (cf.large:Nat) (cf.bud:Nat) cf.key da cf.ds.length dc S R _) ?_
        obtain⟨P,hP,hN,hC⟩:=Nh.first hS DS.out DAB.out H0.out HI.out.1 HI.out.2.1 HI.out.2.2 HM.out.1 HM.out.2.1 HNE.out (fun _=>⟨0,0,0,fun _=>0⟩) (fun _=>⟨0,0,0,0⟩)
        rw [hP]
        refine hK.out _ _ ⟨hC,?_⟩
        have HN:=hid hN
        clear hS
        have hS:=hC
        clear hC hN hP hK K'
        refine wpAnyH_put (i:=8) (d:=3) (v:=.pointer (some ⟨P,0,none⟩)) rfl (by kernel_rfl) (by kernel_rfl) (by kernel_rfl) (by kernel_rfl) (fun _ _ _ h=>h) (Or.inl ⟨by kernel_rfl,fun _ _=>by kernel_rfl⟩) hS ?_
        simp only [List.setIfInBounds_toArray,List.set_cons_zero,List.set_cons_succ]
        refine wpAnyH_done (by kernel_rfl) ?_ _
        go_wp2_with fail
        go_meet
        case rel=>exact ⟨P,S,M,R,rfl,HN,hid hS⟩
    · subst hi9
      refine wpOp_do rfl (by kernel_rfl) (fun K' hK=>?_)
      have hmm:=@run_makeMap Tryz.prog
      go_simp
      clear hmm
      obtain⟨R,hR,hC,hMr,hbR,hlR,bU⟩:=hS.mapped
      rw [hR]
      refine hK.out _ _ ⟨hC,?_⟩
      try have HNE:=hid (show M≠R by have:=HI.out.1.lt.2;omega)
      try have HI:=hid (And.intro (HI.out.1.ky (Ky.below bU:Ky (fun _=>False) _ _) (fun e=>e) (bU.block _ HI.out.1.lt.2)) HI.out.2)
      have HM:=hid (And.intro hMr (And.intro hbR hlR))
      clear hS hMr hbR hlR hR bU
      have hS:=hC
      clear hC hK K'
      refine wpAnyH_one (r:=1) (by kernel_rfl) ?_
      refine wpOp_do rfl (by kernel_rfl) (fun K' hK=>?_)
      go_simp
      refine (im_ArenaPages _ hS.tb).mono ?_
      rintro e U ⟨rfl,bU⟩
      have hU:=hS.below bU
      refine hK.out _ _ ⟨hU,?_⟩
      clear hS
      have hS:=hU
      clear hU
      try have HM:=hid (And.intro (HM.out.1.bel9 bU) (And.intro HM.out.2.1 (Nat.lt_of_lt_of_le HM.out.2.2 bU.size)))
      clear bU
      clear hK K'
      refine wpAnyH_one (r:=4) (by kernel_rfl) ?_
      refine wpOp_do rfl (by kernel_rfl) (fun K' hK=>?_)
      go_simp
      refine (im_new 283 (cf.bud:Nat) _).mono ?_
      rintro e U ⟨S,M,rfl,hI,bU,hbS,hbM,hne⟩
      have hsz:=hS.bel.size
      have hU:=hS.below bU
      refine hK.out _ _ ⟨hU,?_⟩
      clear hS
      have hS:=hU
      clear hU
      try have HNE:=hid (show M≠R by have:=HM.out.2.2;omega)
      have HI:=hid (And.intro hI (And.intro (Nat.le_trans hsz hbS) (Nat.le_trans hsz hbM)))
      try have HM:=hid (And.intro (HM.out.1.bel9 bU) (And.intro HM.out.2.1 (Nat.lt_of_lt_of_le HM.out.2.2 bU.size)))
      clear bU hI hbS hbM hne hsz
      clear hK K'
      refine wpAnyH_put (i:=6) (d:=12) (v:=.agg (hp0 (cf.mix:Nat) (cf.fifo:Nat) (cf.large:Nat) (cf.bud:Nat) cf.key da cf.ds.length dc S R)) rfl (by kernel_rfl) (by kernel_rfl) (by kernel_rfl) (by kernel_rfl) (fun _ _ _ h=>h) (Or.inl ⟨by kernel_rfl,fun _ _=>by kernel_rfl⟩) hS ?_
      simp only [List.setIfInBounds_toArray,List.set_cons_zero,List.set_cons_succ]
      refine wpAnyH_one (r:=7) (by kernel_rfl) ?_
      refine wpOp_do rfl (by kernel_rfl) (fun K' hK=>?_)
      refine wpo_box (.tmp 12) (by kernel_rfl) (by kernel_rfl) (box79 (cf.mix:Nat) (cf.fifo:Nat) (cf.large:Nat) (cf.bud:Nat) cf.key da cf.ds.length dc S R _) ?_
      obtain⟨P,hP,hN,hC⟩:=Nh.first hS DS.out DAB.out H0.out HI.out.1 HI.out.2.1 HI.out.2.2 HM.out.1 HM.out.2.1 HNE.out (fun _=>⟨0,0,0,fun _=>0⟩) (fun _=>⟨0,0,0,0⟩)
      rw [hP]
      refine hK.out _ _ ⟨hC,?_⟩
      have HN:=hid hN
      clear hS
      have hS:=hC
      clear hC hN hP hK K'
      refine wpAnyH_put (i:=8) (d:=3) (v:=.pointer (some ⟨P,0,none⟩)) rfl (by kernel_rfl) (by kernel_rfl) (by kernel_rfl) (by kernel_rfl) (fun _ _ _ h=>h) (Or.inl ⟨by kernel_rfl,fun _ _=>by kernel_rfl⟩) hS ?_
      simp only [List.setIfInBounds_toArray,List.set_cons_zero,List.set_cons_succ]
      refine wpAnyH_done (by kernel_rfl) ?_ _
      go_wp2_with fail
      go_meet
      case rel=>exact ⟨P,S,M,R,rfl,HN,hid hS⟩
  case rest =>
    obtain⟨P,S,M,R,rfl,HN,HC⟩:=hcut
    clear HD
    go_wp2
    go_loopw [14] (fun i wr=>∃ (c:Nat) (fl:Nat→Sb9) (qs:Nat→Qb9),c≤12∧i=.int .i64 c∧Hid (Nh W.heap.size P S M R da dc cf fl qs (c*6) c wr)∧Hid (Cx X cf da dc W wr)) (fun i _=>12 - (intOf i).toNat)
    case atStart=>exact ⟨0,_,_,by omega,rfl,HN,HC⟩
    case round =>
      clear HN HC
      obtain⟨c,fl,qs,hc,rfl,HN,HC⟩:=hrel
      by_cases hlt:c < 12
      · have hcl:(c:Int) < 12:=by omega
        have hc0:(0:Int)≤(c:Int):=by omega
        go_upto_region 5 with fail
        have HND:=hid (HN.out.below (Below.refl _ wr).drew)
        have HCD:=hid (HC.out.below (Below.refl _ wr).drew)
        go_cut [] (fun w'=>∃ qs',Hid (Nh W.heap.size P S M R da dc cf fl qs' (c*6) (c+1) w')∧Hid (Cx X cf da dc W w'))
        case first =>
          refine wp_region_held (S:=Cx X cf da dc W) (by kernel_rfl) ?_
          simp only [List.size_toArray,List.length_cons,List.length_nil,Nat.reduceAdd,Array.replicate_succ,Array.replicate_zero,List.push_toArray,List.nil_append,List.cons_append]
          generalize hV1:wr.drew=V1 at HND HCD
          have hV1':({ heap:=wr.heap,tape:=wr.tape,drawn:=wr.drawn+1,os:=wr.os,output:=wr.output } : World)=V1:=hV1
          rw [hV1']
          clear hV1 hV1' HN HC
          have hS:=HCD.out
          refine wpAnyH_put (i:=0) (d:=17) (v:=.pointer (some ⟨P,0,none⟩)) rfl (by kernel_rfl) (by kernel_rfl) (by kernel_rfl) (by kernel_rfl) (fun _ _ _ h=>h) (Or.inl ⟨by kernel_rfl,fun _ _=>by kernel_rfl⟩) hS ?_
          simp only [List.setIfInBounds_toArray,List.set_cons_zero,List.set_cons_succ]
          refine wpAnyH_put (i:=1) (d:=18) (v:=.int .i64 (c:Nat)) rfl (by kernel_rfl) (by kernel_rfl) (by kernel_rfl) (by kernel_rfl) (fun _ _ _ h=>h) (Or.inl ⟨by kernel_rfl,fun _ _=>by kernel_rfl⟩) hS ?_
          simp only [List.setIfInBounds_toArray,List.set_cons_zero,List.set_cons_succ]
          refine wpAnyH_put (i:=2) (d:=19) (v:=.pointer (some ⟨X,0,none⟩)) rfl (by kernel_rfl) (by kernel_rfl) (by kernel_rfl) (by kernel_rfl) (fun _ _ _ h=>h) (Or.inl ⟨by kernel_rfl,fun _ _=>by kernel_rfl⟩) hS ?_
          simp only [List.setIfInBounds_toArray,List.set_cons_zero,List.set_cons_succ]
          refine wpAnyH_put (i:=3) (d:=20) (v:=.int .i64 (cf.mix:Nat)) rfl (by kernel_rfl) (by kernel_rfl) (by kernel_rfl) (by kernel_rfl) (fun _ _ _ h=>h) (Or.inl ⟨by kernel_rfl,fun W hS=>by obtain ⟨_,y0,y1,y2,y3,y4,y5,y6,y7⟩:=hS;first|(go_simp;done)|(go_simp;omega)⟩) hS ?_
          simp only [List.setIfInBounds_toArray,List.set_cons_zero,List.set_cons_succ]
          refine wpAnyH_put (i:=4) (d:=21) (v:=.pointer (some ⟨X,1,none⟩)) rfl (by kernel_rfl) (by kernel_rfl) (by kernel_rfl) (by kernel_rfl) (fun _ _ _ h=>h) (Or.inl ⟨by kernel_rfl,fun _ _=>by kernel_rfl⟩) hS ?_
          simp only [List.setIfInBounds_toArray,List.set_cons_zero,List.set_cons_succ]
          refine wpAnyH_put (i:=5) (d:=22) (v:=.int .i64 (cf.fifo:Nat)) rfl (by kernel_rfl) (by kernel_rfl) (by kernel_rfl) (by kernel_rfl) (fun _ _ _ h=>h) (Or.inl ⟨by kernel_rfl,fun W hS=>by obtain ⟨_,y0,y1,y2,y3,y4,y5,y6,y7⟩:=hS;first|(go_simp;done)|(go_simp;omega)⟩) hS ?_
          simp only [List.setIfInBounds_toArray,List.set_cons_zero,List.set_cons_succ]
          refine wpAnyH_put (i:=8) (d:=25) (v:=.pointer (some ⟨P,0,none⟩)) rfl (by kernel_rfl) (by kernel_rfl) (by kernel_rfl) (by kernel_rfl) (fun _ _ _ h=>h) (Or.inl ⟨by kernel_rfl,fun _ _=>by kernel_rfl⟩) hS ?_
          simp only [List.setIfInBounds_toArray,List.set_cons_zero,List.set_cons_succ]
          refine wpAnyH_put (i:=9) (d:=26) (v:=.pointer (some ⟨P,79,none⟩)) rfl (by kernel_rfl) (by kernel_rfl) (by kernel_rfl) (by kernel_rfl) (fun _ _ _ h=>h) (Or.inl ⟨by kernel_rfl,fun _ _=>by kernel_rfl⟩) hS ?_
          simp only [List.setIfInBounds_toArray,List.set_cons_zero,List.set_cons_succ]
          refine wpAnyH_one (r:=6) (by kernel_rfl) ?_
          refine wpOp_do rfl (by kernel_rfl) (fun K' hK=>?_)
          go_simp
          refine (empty_in cf.mix (cf.fifo:Nat) _ hmx).mono ?_
          rintro e U1 ⟨gm,rfl,rw1,hg1,b1⟩
          have hU:=hS.below b1
          refine hK.out _ _ ⟨hU,?_⟩
          clear hS
          have hS:=hU
          have B1:=hid b1
          have RW1:=hid rw1
          clear hU b1 rw1 hg1
          clear hK K'
          refine wpAnyH_one (r:=7) (by kernel_rfl) ?_
          refine wpOp_do rfl (by kernel_rfl) (fun K' hK=>?_)
          go_simp
          refine (newQ_in (some ⟨gm,0,none⟩) cf.mix cf.mix none 0 0 cf.fifo (List.replicate cf.mix (-1)) [] _ ⟨.inr ⟨gm,rfl,RW1.out⟩,by simp,.inl ⟨rfl,rfl⟩,rfl⟩ hmx ⟨hfi,hfm⟩ (Nat.zero_le _)).mono ?_
          rintro e U2 ⟨m9,r9,g9,q9,rfl,hQ,hb,b2⟩
          have hU:=hS.below b2
          rw [qv9]
          refine hK.out _ _ ⟨hU,?_⟩
          clear hS
          have hS:=hU
          have HQ:=hid hQ
          have HB:=hid (show V1.heap.size≤m9∧V1.heap.size≤r9∧V1.heap.size≤g9∧V1.heap.size≤q9 by have:=B1.out.size;omega)
          have BT:=hid (B1.out.trans (b2.mono B1.out.size))
          clear hU b2 hQ hb B1 RW1
          clear hK K'
          refine wpAnyH_put (i:=10) (d:=27) (v:=.pointer (some ⟨P,79+c*3,none⟩)) rfl (by kernel_rfl) (by kernel_rfl) (by kernel_rfl) (by kernel_rfl) (fun _ _ _ h=>h) (Or.inl ⟨by kernel_rfl,fun W hS=>by obtain ⟨_,y0,y1,y2,y3,y4,y5,y6,y7⟩:=hS;first|(go_simp;done)|(go_simp;omega)⟩) hS ?_
          simp only [List.setIfInBounds_toArray,List.set_cons_zero,List.set_cons_succ]
          refine wpAnyH_one (r:=11) (by kernel_rfl) ?_
          refine wpOp_do rfl (by kernel_rfl) (fun K' hK=>?_)
          have hN2:=HND.out.below BT.out
          refine wp_store_mid 88 (.tmp 27) (.tmp 24) (by kernel_rfl) P (79+c*3) #[.pointer (some ⟨m9,0,none⟩),.pointer (some ⟨g9,0,none⟩),v3of cf.mix m9 g9] (by kernel_rfl) (by kernel_rfl) (fun j hj=>⟨by rw [hN2.box.cell _ (by simp at hj;omega)];rfl,hN2.box.free _⟩) (by kernel_rfl) (all_oneCell_toArray (fun v hv=>by simp at hv;rcases hv with rfl|rfl|rfl;rfl;rfl;exact v3of_one _ _ _)) ?_
          have es:=setc3 U2 P (79+c*3) (.pointer (some ⟨m9,0,none⟩)) (.pointer (some ⟨g9,0,none⟩)) (v3of cf.mix m9 g9)
          obtain⟨U3,hU3⟩:∃ U3,U3=((U2.setCell ⟨P,79+c*3,none⟩ (.pointer (some ⟨m9,0,none⟩))).setCell ⟨P,79+c*3+1,none⟩ (.pointer (some ⟨g9,0,none⟩))).setCell ⟨P,79+c*3+2,none⟩ (v3of cf.mix m9 g9):=⟨_,rfl⟩
          rw [←hU3] at es
          simp only [es]
          have hA:=HND.out.addW BT.out HQ.out HB.out hlt (W':=U3) (by rw [hU3];unfold v3of;rfl)
          obtain⟨ky9,be9⟩:=hN2.turn (W':=U3) (by rw [hU3];exact grown_set (grown_set (grown_set (grown_refl U2 P) _ _) _ _) _ _)
          clear es hU3
          have hC:=hS.turn ky9 be9 H0.out
          refine hK.out _ _ ⟨hC,?_⟩
          have HA:=hid hA
          have HC:=hid hC
          clear hA hC ky9 be9 hK K' hS
          refine wpAnyH_done (by kernel_rfl) ?_ _
          go_wp2_with fail
          go_meet
          case rel=>exact ⟨_,HA,HC⟩
        case rest =>
          obtain⟨qs2,HN2,HC2⟩:=hcut
          clear HND HCD HN HC
          go_wp2
          go_loopw [28] (fun i wq=>∃ (j:Nat) (fl:Nat→Sb9),j≤6∧i=.int .i64 j∧Hid (Nh W.heap.size P S M R da dc cf fl qs2 (c*6+j) (c+1) wq)∧Hid (Cx X cf da dc W wq)) (fun i _=>6 - (intOf i).toNat)
          case atStart=>exact ⟨0,_,by omega,rfl,HN2,HC2⟩
          case round =>
            clear HN2 HC2
            obtain⟨j,fl2,hj,rfl,HN,HC⟩:=hrel
            by_cases hjt:j < 6
            · have hjl:(j:Int) < 6:=by omega
              have hj0:(0:Int)≤(j:Int):=by omega
              go_upto_region 9 with fail
              have HND:=hid (HN.out.below (Below.refl _ wr).drew)
              have HCD:=hid (HC.out.below (Below.refl _ wr).drew)
              refine wp_region_held (S:=Cx X cf da dc W) (by kernel_rfl) ?_
              simp only [List.size_toArray,List.length_cons,List.length_nil,Nat.reduceAdd,Array.replicate_succ,Array.replicate_zero,List.push_toArray,List.nil_append,List.cons_append]
              generalize hV1:wr.drew=V1 at HND HCD
              have hV1':({ heap:=wr.heap,tape:=wr.tape,drawn:=wr.drawn+1,os:=wr.os,output:=wr.output } : World)=V1:=hV1
              rw [hV1']
              clear hV1 hV1' HN HC
              have hS:=HCD.out
              refine wpAnyH_put (i:=0) (d:=31) (v:=.pointer (some ⟨P,0,none⟩)) rfl (by kernel_rfl) (by kernel_rfl) (by kernel_rfl) (by kernel_rfl) (fun _ _ _ h=>h) (Or.inl ⟨by kernel_rfl,fun _ _=>by kernel_rfl⟩) hS ?_
              simp only [List.setIfInBounds_toArray,List.set_cons_zero,List.set_cons_succ]
              refine wpAnyH_put (i:=1) (d:=32) (v:=.int .i64 (c:Nat)) rfl (by kernel_rfl) (by kernel_rfl) (by kernel_rfl) (by kernel_rfl) (fun _ _ _ h=>h) (Or.inl ⟨by kernel_rfl,fun _ _=>by kernel_rfl⟩) hS ?_
              simp only [List.setIfInBounds_toArray,List.set_cons_zero,List.set_cons_succ]
              refine wpAnyH_put (i:=2) (d:=33) (v:=.int .i64 (j:Nat)) rfl (by kernel_rfl) (by kernel_rfl) (by kernel_rfl) (by kernel_rfl) (fun _ _ _ h=>h) (Or.inl ⟨by kernel_rfl,fun _ _=>by kernel_rfl⟩) hS ?_
              simp only [List.setIfInBounds_toArray,List.set_cons_zero,List.set_cons_succ]
              refine wpAnyH_put (i:=3) (d:=34) (v:=.int .i64 (c:Nat)) rfl (by kernel_rfl) (by kernel_rfl) (by kernel_rfl) (by kernel_rfl) (fun _ _ _ h=>h) (Or.inl ⟨by kernel_rfl,fun _ _=>by kernel_rfl⟩) hS ?_
              simp only [List.setIfInBounds_toArray,List.set_cons_zero,List.set_cons_succ]
              refine wpAnyH_put (i:=4) (d:=35) (v:=.int .i64 (j:Nat)) rfl (by kernel_rfl) (by kernel_rfl) (by kernel_rfl) (by kernel_rfl) (fun _ _ _ h=>h) (Or.inl ⟨by kernel_rfl,fun _ _=>by kernel_rfl⟩) hS ?_
              simp only [List.setIfInBounds_toArray,List.set_cons_zero,List.set_cons_succ]
              refine wpAnyH_put (i:=6) (d:=37) (v:=.pointer (some ⟨P,0,none⟩)) rfl (by kernel_rfl) (by kernel_rfl) (by kernel_rfl) (by kernel_rfl) (fun _ _ _ h=>h) (Or.inl ⟨by kernel_rfl,fun _ _=>by kernel_rfl⟩) hS ?_
              simp only [List.setIfInBounds_toArray,List.set_cons_zero,List.set_cons_succ]
              refine wpAnyH_put (i:=7) (d:=38) (v:=.pointer (some ⟨P,7,none⟩)) rfl (by kernel_rfl) (by kernel_rfl) (by kernel_rfl) (by kernel_rfl) (fun _ _ _ h=>h) (Or.inl ⟨by kernel_rfl,fun _ _=>by kernel_rfl⟩) hS ?_
              simp only [List.setIfInBounds_toArray,List.set_cons_zero,List.set_cons_succ]
              refine wpAnyH_put (i:=8) (d:=39) (v:=.pointer (some ⟨P,7+c*6,none⟩)) rfl (by kernel_rfl) (by kernel_rfl) (by kernel_rfl) (by kernel_rfl) (fun _ _ _ h=>h) (Or.inl ⟨by kernel_rfl,fun W hS=>by obtain ⟨_,y0,y1,y2,y3,y4,y5,y6,y7⟩:=hS;first|(go_simp;done)|(go_simp;omega)⟩) hS ?_
              simp only [List.setIfInBounds_toArray,List.set_cons_zero,List.set_cons_succ]
              refine wpAnyH_one (r:=5) (by kernel_rfl) ?_
              refine wpOp_do rfl (by kernel_rfl) (fun K' hK=>?_)
              go_simp
              refine (im_newSlab c j hlt _ hS.tb).mono ?_
              rintro e U1 ⟨g9,r9,cap9,sm9,rfl,hs9,b1⟩
              have hU:=hS.below b1
              refine hK.out _ _ ⟨hU,?_⟩
              clear hS
              have hS:=hU
              have hN2:=HND.out.below b1
              have hA:=HND.out.addS b1 (k:=c*6+j) (by rw [show (c*6+j)/6=c by omega,show (c*6+j) % 6=j by omega];exact hs9) (by omega)
              rw [show 7+(c*6+j)=7+c*6+j by omega] at hA
              obtain⟨ky9,be9⟩:=hN2.turn (grown_set (grown_refl U1 P) (7+c*6+j) (.pointer (some ⟨g9,0,none⟩)))
              have c9:=hN2.box.cell (7+c*6+j) (by omega)
              have f9:=hN2.box.free (7+c*6+j)
              have HA:=hid hA
              have HC:=hid (hS.turn ky9 be9 H0.out)
              clear hU b1 hN2 hA ky9 be9 hs9
              clear hK K'
              refine wpAnyH_put (i:=9) (d:=40) (v:=.pointer (some ⟨P,7+c*6+j,none⟩)) rfl (by kernel_rfl) (by kernel_rfl) (by kernel_rfl) (by kernel_rfl) (fun _ _ _ h=>h) (Or.inl ⟨by kernel_rfl,fun W hS=>by obtain ⟨_,y0,y1,y2,y3,y4,y5,y6,y7⟩:=hS;first|(go_simp;done)|(go_simp;omega)⟩) hS ?_
              simp only [List.setIfInBounds_toArray,List.set_cons_zero,List.set_cons_succ]
              refine wpAnyH_one (r:=10) (by kernel_rfl) ?_
              refine wpOp_do rfl (by kernel_rfl) (fun K' hK=>?_)
              go_simp
              refine hK.out _ _ ⟨HC.out,?_⟩
              clear hS
              clear hK K'
              refine wpAnyH_done (by kernel_rfl) ?_ _
              go_wp2
              go_roundw
              case rel=>exact ⟨j+1,_,by omega,by go_num,HA,HC⟩
              case measure=>simp [intOf];omega
            · obtain rfl:j=6:=by omega
              go_wp2
              go_roundw
              case rel=>exact ⟨c+1,fl2,qs2,by omega,by go_num,hid (by have:=HN.out;rw [show c*6+6=(c+1)*6 by omega] at this;exact this),HC⟩
              case measure=>simp [intOf];omega
      · obtain rfl:c=12:=by omega
        go_wp2
        go_ret
        obtain⟨h1,h2⟩:=HN.out.made
        exact⟨lyN P S M R da dc fl qs,rfl,rfl,h1,h2,HC.out.bel⟩
end Go.Proofs.YtacccpkmgkojiaaGreatDoorRR
