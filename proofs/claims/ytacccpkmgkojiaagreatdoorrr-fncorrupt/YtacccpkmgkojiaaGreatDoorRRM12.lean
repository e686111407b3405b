import Derived.BigGuardIn
import Derived.BigQuiet
import Derived.BigRegionIn
import Derived.Conc.MuLone
import Derived.Deep.AppendLies
import Derived.Deep.OwnRows
import Derived.Deep.QuietTactic
import Derived.Deep.RegionWith
import Derived.KernelRfl
import Derived.Laws.CopyOwn
import Derived.Laws.OwnMore
import Derived.Laws.Rows
import Derived.Laws.Tables
import Derived.LoopIn
import Derived.LoopNIn
import Derived.Maps.OwnOps
import Derived.Maps.OwnSet
import Derived.OpenShut
import Derived.OrdersHeld
import Derived.OwnWalkIn
import Derived.ProofKit
import Derived.RangeFuncBound
import Derived.RangeFuncCalls
import Derived.RangeFuncLeaves
import Derived.RangeFuncNested
import Derived.Shelf.Abstract
import Derived.Shelf.Bits.Mul64
import Derived.Shelf.RegionOpen
import Derived.TacticsInMore
import Derived.Test.YtacccpkmgkojiaaGreatDoorRRProg
import Derived.WalkKit
import Derived.WalkLawsBesides
import Derived.Test.YtacccpkmgkojiaaGreatDoorRRM00
import Derived.Test.YtacccpkmgkojiaaGreatDoorRRM01
import Derived.Test.YtacccpkmgkojiaaGreatDoorRRM02
import Derived.Test.YtacccpkmgkojiaaGreatDoorRRM06
import Derived.Test.YtacccpkmgkojiaaGreatDoorRRM10
import Derived.Test.YtacccpkmgkojiaaGreatDoorRRM11
namespace Go.Proofs.YtacccpkmgkojiaaGreatDoorRR
set_option linter.unusedVariables false
set_option linter.unusedSimpArgs false
set_option maxRecDepth 20000
set_option maxHeartbeats 8000000
open Go.ChangeShapes Go.WideShapes Go.ChangeAt Go.RowKit
def qv (M G:Nat) (mix:List Int):Value:=.agg #[Vp M 0,Vp G 0,if mix.length=0 then .iface 84 (Vp G 0) else .iface 83 (Vp M 0)]
theorem al_two (w:World) (A B:Obj):(((w.alloc A).alloc B).heap[w.heap.size]?=some A)∧(((w.alloc A).alloc B).heap[w.heap.size+1]?=some B)∧Below w.heap.size w ((w.alloc A).alloc B):=by
 have h1:=al_lastW w A;have h2:=al_lastW (w.alloc A) B;rw [al_sizeW] at h2;exact⟨al_oldW h1 B,h2,((Below.refl _ w).alloc (Nat.le_refl _) A).alloc (by rw [al_sizeW];omega) B⟩
theorem below_at {w w':World} {g:Nat} {o:Obj} (h:w.heap[g]?=some o) (hb:Below w.heap.size w w'):w'.heap[g]?=some o:=by
 rw [hb.block g (lt_blkW h)];exact h
theorem blk_ne {W:World} {g k:Nat} {A B:Obj} (h1:W.heap[g]?=some A) (h2:W.heap[k]?=some B) (hne:A≠B):g≠k:=by
 rintro rfl;rw [h1] at h2
 cases h2
 exact hne rfl
theorem newQ_in (am:Option Addr) (lm cm:Nat) (af:Option Addr) (lf cf n:Nat) (mix fifo:List Int) (w:World) (h:Wt w am lm af lf mix fifo) (hm:lm≤16) (hn:1≤n∧n≤32) (hf:lf≤n) :
  Calls Tryz.prog 58 #[wv am lm cm af lf cf (n:Nat)] w fun e w'=>∃ M rm G rq,e=.returned (qv M G mix)∧Qr w' M rm G rq n mix fifo∧(w.heap.size≤M∧w.heap.size≤rm∧w.heap.size≤G∧w.heap.size≤rq)∧Below w.heap.size w w':=by
 unfold wv;have T2:=hid (al_two w (.cells #[.slice am lm cm,.slice af lf cf,Vi (n:Nat)] 69) (.cells #[.pointer none,.pointer none,.nilIface] 88));have N1:=hid (newRing_in n lf cf af fifo _ h.fl hf (by omega) (h.f.below T2.out.2.2));have N2:=hid (fun W (hW:Below w.heap.size w W)=>newRing_in lm lm cm am mix W h.ml (Nat.le_refl _) (by omega) (h.m.below hW));have ML:=hid h.ml;have FL:=hid h.fl;clear h;go_enter Tryz.func58,Tryz.ntmps58;go_wp2_with fail;refine (N1.out).mono ?_;rintro e w1 ⟨rq,rfl,r1,g1,b1⟩;have B1:=hid (bl_trans T2.out.2.2 b1);have x0:=hid (below_at T2.out.1 b1);have x1:=hid (below_at T2.out.2.1 b1);have R1:=hid r1;have G1:=hid (show w.heap.size≤rq∧rq < w1.heap.size from ⟨by have:=T2.out.2.2.size;omega,r1.lt⟩);clear b1 r1 g1 N1 T2;have A1:=hid ((Below.refl _ w1).alloc (Nat.le_refl _) (.cells #[Vl rq n n,Vi 0,Vi (lf:Nat)] 157));have c0:(w1.alloc (.cells #[Vl rq n n,Vi 0,Vi (lf:Nat)] 157)).cell? ⟨w.heap.size,0,none⟩=some (.slice am lm cm):=by rw [cell_of_row _ _ _ _ _ _ (below_at x0.out A1.out)];rfl
 go_wp2_with fail;refine (N2.out _ (bl_trans B1.out A1.out)).mono ?_;rintro e w2 ⟨rm,rfl,r2,g2,b2⟩;clear c0;have L1:=B1.out.size;have hQ:=hid (below_at (al_lastW w1 (.cells #[Vl rq n n,Vi 0,Vi (lf:Nat)] 157)) b2);have hrq:=hid ((R1.out.below A1.out R1.out.lt).below b2 (Nat.lt_of_lt_of_le R1.out.lt A1.out.size));have B2:=hid (bl_trans (bl_trans B1.out A1.out) b2);have y0:=hid (below_at (below_at x0.out A1.out) b2);have y1:=hid (below_at (below_at x1.out A1.out) b2);have hne:=hid (show rm≠rq by have:=G1.out.2;rw [al_sizeW] at g2;omega);have hrm:=hid (show w.heap.size≤rm by rw [al_sizeW] at g2;omega);have R2:=hid r2;have hG:=hid (show w.heap.size≤w1.heap.size by have:=B1.out.size;omega);generalize w1.heap.size=G at *;have A2:=hid ((Below.refl _ w2).alloc (Nat.le_refl _) (.cells #[Vl rm lm lm,Vi 0,Vi (lm:Nat),.iface 84 (Vp G 0)] 159));clear x0 x1 b2 r2 g2 B1 A1 R1 N2;have z0:=hid (below_at y0.out A2.out);have z1:=hid (below_at y1.out A2.out);have zM:=hid (al_lastW w2 (.cells #[Vl rm lm lm,Vi 0,Vi (lm:Nat),.iface 84 (Vp G 0)] 159));have zQ:=hid (below_at hQ.out A2.out);have zr:=hid (hrq.out.below A2.out hrq.out.lt);have zm:=hid (R2.out.below A2.out R2.out.lt);have zB:=hid (bl_trans B2.out A2.out);have hM:=hid B2.out.size;have c0:(w2.alloc (.cells #[Vl rm lm lm,Vi 0,Vi (lm:Nat),.iface 84 (Vp G 0)] 159)).cell? ⟨w.heap.size,0,none⟩=some (.slice am lm cm):=by rw [cell_of_row _ _ _ _ _ _ z0.out];rfl
 have d0:(w2.alloc (.cells #[Vl rm lm lm,Vi 0,Vi (lm:Nat),.iface 84 (Vp G 0)] 159)).cell? ⟨w.heap.size+1,0,none⟩=some (.pointer none):=by rw [cell_of_row _ _ _ _ _ _ z1.out];rfl
 have d1:(w2.alloc (.cells #[Vl rm lm lm,Vi 0,Vi (lm:Nat),.iface 84 (Vp G 0)] 159)).cell? ⟨w.heap.size+1,1,none⟩=some (.pointer none):=by rw [cell_of_row _ _ _ _ _ _ z1.out];rfl
 have d2:(w2.alloc (.cells #[Vl rm lm lm,Vi 0,Vi (lm:Nat),.iface 84 (Vp G 0)] 159)).cell? ⟨w.heap.size+1,2,none⟩=some .nilIface:=by rw [cell_of_row _ _ _ _ _ _ z1.out];rfl
 have f0:(w2.alloc (.cells #[Vl rm lm lm,Vi 0,Vi (lm:Nat),.iface 84 (Vp G 0)] 159)).frozen? ⟨w.heap.size+1,0,none⟩=false:=frozen_of_row _ _ _ _ _ z1.out;have f1:(w2.alloc (.cells #[Vl rm lm lm,Vi 0,Vi (lm:Nat),.iface 84 (Vp G 0)] 159)).frozen? ⟨w.heap.size+1,1,none⟩=false:=frozen_of_row _ _ _ _ _ z1.out;have f2:(w2.alloc (.cells #[Vl rm lm lm,Vi 0,Vi (lm:Nat),.iface 84 (Vp G 0)] 159)).frozen? ⟨w.heap.size+1,2,none⟩=false:=frozen_of_row _ _ _ _ _ z1.out;have FIN:=hid (show ∀ v0 v1 v2:Value,∀ W',W'=(((w2.alloc (.cells #[Vl rm lm lm,Vi 0,Vi (lm:Nat),.iface 84 (Vp G 0)] 159)).setCell ⟨w.heap.size+1,0,none⟩ v0).setCell ⟨w.heap.size+1,1,none⟩ v1).setCell ⟨w.heap.size+1,2,none⟩ v2→Qr W' w2.heap.size rm G rq n mix fifo∧(w.heap.size≤w2.heap.size∧w.heap.size≤rm∧w.heap.size≤G∧w.heap.size≤rq)∧Below w.heap.size w W' from ?FIN)
 case FIN =>
  rintro v0 v1 v2 W' rfl;have bt:But (fun k=>k=w.heap.size+1) (w2.alloc (.cells #[Vl rm lm lm,Vi 0,Vi (lm:Nat),.iface 84 (Vp G 0)] 159)) ((((w2.alloc (.cells #[Vl rm lm lm,Vi 0,Vi (lm:Nat),.iface 84 (Vp G 0)] 159)).setCell ⟨w.heap.size+1,0,none⟩ v0).setCell ⟨w.heap.size+1,1,none⟩ v1).setCell ⟨w.heap.size+1,2,none⟩ v2):=(((But.refl (fun k=>k=w.heap.size+1) (w2.alloc (.cells #[Vl rm lm lm,Vi 0,Vi (lm:Nat),.iface 84 (Vp G 0)] 159))).set _ _ _ rfl).set _ _ _ rfl).set _ _ _ rfl;have q0:Qr (w2.alloc (.cells #[Vl rm lm lm,Vi 0,Vi (lm:Nat),.iface 84 (Vp G 0)] 159)) w2.heap.size rm G rq n mix fifo:=by
   refine⟨⟨by rw [ML.out];exact zM.out,?_⟩,⟨_,0,lf,zQ.out,zr.out,?_,?_,hf,fun _=>rfl,?_⟩,hne.out⟩
   ·have:=zm.out
    rwa [Nat.sub_self,List.replicate_zero,List.append_nil] at this
   ·rw [List.length_append,List.length_replicate,FL.out];omega
   ·omega
   rw [List.drop_zero,List.take_zero,List.append_nil,←FL.out,List.take_append_of_le_length (Nat.le_refl _),List.take_length]
  have o1:=z1.out;have n1:=blk_ne zM.out o1 (by simp);have n2:rm≠w.heap.size+1:=(zm.out.ne o1 (by decide)).symm;have n3:=blk_ne zQ.out o1 (by simp);have n4:rq≠w.heap.size+1:=(zr.out.ne o1 (by decide)).symm;exact⟨q0.but bt n1 n2 n3 n4,⟨hM.out,hrm.out,hG.out,G1.out.1⟩,zB.out.trans (bt.below zB.out.size (fun g e=>by omega))⟩
 clear z0 zM zQ zr zm zB hM hQ hrq hrm hG R2 A2 B2 y0 y1 hne
 by_cases h0:lm=0
 ·have q1:qv w2.heap.size G mix=.agg #[Vp w2.heap.size 0,Vp G 0,.iface 84 (Vp G 0)]:=by unfold qv;rw [ML.out,if_pos h0]
  have HQ:=hid q1;have h0':((lm:Int)==0)=true:=by simp [h0]
  clear q1 h0;go_wp2;refine bodyPost_ret (results_cell_row (by rfl) _ _ (w.heap.size+1) 88 _ (0,0) _ (by rfl) (set3 z1.out _ _ _) Tryz.underlying88 rfl (by kernel_rfl)) (by rfl) ?_;exact⟨w2.heap.size,rm,G,rq,by rw [HQ.out],FIN.out _ _ _ _ rfl⟩
 have q1:qv w2.heap.size G mix=.agg #[Vp w2.heap.size 0,Vp G 0,.iface 83 (Vp w2.heap.size 0)]:=by unfold qv;rw [ML.out,if_neg h0]
 have HQ:=hid q1;have h0':((lm:Int)==0)=false:=by simp;omega
 clear q1 h0;go_wp2;refine bodyPost_ret (results_cell_row (by rfl) _ _ (w.heap.size+1) 88 _ (0,0) _ (by rfl) (set3 z1.out _ _ _) Tryz.underlying88 rfl (by kernel_rfl)) (by rfl) ?_;exact⟨w2.heap.size,rm,G,rq,by rw [HQ.out],FIN.out _ _ _ _ rfl⟩
end Go.Proofs.YtacccpkmgkojiaaGreatDoorRR
namespace Go.Proofs.YtacccpkmgkojiaaGreatDoorRR
set_option linter.unusedVariables false
set_option linter.unusedSimpArgs false
set_option maxRecDepth 20000
set_option maxHeartbeats 8000000
open Go.ChangeShapes Go.WideShapes Go.ChangeAt Go.RowKit
theorem rowM (M rm G rq n:Nat) (mix fifo:List Int) (W:World) (h:Qr W M rm G rq n mix fifo) (hml:mix.length≤1024) :
  Calls Tryz.prog 111 #[Vp M 0] W fun e w'=>e=.returned (Vl W.heap.size mix.length mix.length)∧RowV w' W.heap.size 3 (Ns .i64 mix)∧Below W.heap.size W w':=by
 have hb:=h.mx.1;have hr:=h.mx.2;have:=row_in M rm mix.length 0 mix.length _ W.heap.size mix W rfl rfl (by rw [cell_of_row _ _ _ _ _ _ hb];rfl) (by rw [cell_of_row _ _ _ _ _ _ hb];rfl) (by rw [cell_of_row _ _ _ _ _ _ hb];rfl) hr rfl (Nat.zero_le _) (Nat.le_refl _) hml
 rwa [List.drop_zero,List.take_zero,List.append_nil,List.take_length] at this
theorem rowQ (M rm G rq n:Nat) (mix fifo:List Int) (W:World) (h:Qr W M rm G rq n mix fifo) (hnl:n≤1024) :
  Calls Tryz.prog 111 #[Vp G 0] W fun e w'=>e=.returned (Vl W.heap.size fifo.length fifo.length)∧RowV w' W.heap.size 3 (Ns .i64 fifo)∧Below W.heap.size W w':=by
 obtain⟨ps,o,k,hb,hr,hn,ho,hk,h0,e⟩:=h.qu;have:=row_in G rq n o k _ W.heap.size ps W rfl rfl (by rw [cell_of_row _ _ _ _ _ _ hb];rfl) (by rw [cell_of_row _ _ _ _ _ _ hb];rfl) (by rw [cell_of_row _ _ _ _ _ _ hb];rfl) hr hn (by omega) hk hnl;rw [←e] at this;have el:fifo.length=k:=by rw [e];simp;omega
 rw [el];exact this
theorem cells_off (W:World) (g:Nat) (a b c:Value) (x:Addr) (h:x.block≠g):(((W.setCell ⟨g,0,none⟩ a).setCell ⟨g,1,none⟩ b).setCell ⟨g,2,none⟩ c).cell? x=W.cell? x:=by
 unfold World.cell?;rw [heap_setCell_other _ _ _ _ (by simpa using h),heap_setCell_other _ _ _ _ (by simpa using h),heap_setCell_other _ _ _ _ (by simpa using h)]
theorem told_any (M rm G rq n s:Nat) (t:TypeId) (a:Addr) (mix fifo:List Int) (w:World) (hs:s=w.heap.size) (h:Qr w M rm G rq n mix fifo) (hml:mix.length≤1024) (hnl:n≤1024) :
    Calls Tryz.prog 75 #[.agg #[.pointer (some ⟨M,0,none⟩),.pointer (some ⟨G,0,none⟩),.iface t (.pointer (some a))]] w fun e w'=>∃ g1 g2,e=.returned (wv (some ⟨g1,0,none⟩) mix.length mix.length (some ⟨g2,0,none⟩) fifo.length fifo.length (n:Nat))∧RowV w' g1 3 (Ns .i64 mix)∧RowV w' g2 3 (Ns .i64 fifo)∧w.heap.size≤g1∧g1 < g2∧Below w.heap.size w w':=by
  have T2:=al_two w (.cells #[.pointer (some ⟨M,0,none⟩),.pointer (some ⟨G,0,none⟩),.iface t (.pointer (some a))] 88) (.cells #[.slice none 0 0,.slice none 0 0,.int .i64 0] 69)
  obtain⟨ps,o,k,hb,hx⟩:=h.qu
  clear hx
  have RM:=hid (fun W (hW:Qr W M rm G rq n mix fifo)=>rowM M rm G rq n mix fifo W hW hml)
  have RQ:=hid (fun W (hW:Qr W M rm G rq n mix fifo)=>rowQ M rm G rq n mix fifo W hW hnl)
  have hGl:=lt_blkW hb
  have hGs:G≠s+1:=by omega
  have hGn:G≠s:=by omega
  have cG:=below_cell T2.2.2 (show w.cell? ⟨G,0,none⟩=some (.slice (some ⟨rq,0,none⟩) n n) by rw [cell_of_row _ _ _ _ _ _ hb];rfl)
  have hq:=h.but (But.ofBelow (S:=fun _=>False) T2.2.2) id id id id
  have HS0:=hid (show w.heap.size+2≤((w.alloc (.cells #[.pointer (some ⟨M,0,none⟩),.pointer (some ⟨G,0,none⟩),.iface t (.pointer (some a))] 88)).alloc (.cells #[.slice none 0 0,.slice none 0 0,.int .i64 0] 69)).heap.size by rw [al_sizeW,al_sizeW];omega)
  clear h hb
  go_enter Tryz.func75,Tryz.ntmps75
  go_wp2
  rw [←hs]
  have HBx:=T2.2.2
  rw [←hs] at T2
  generalize (w.alloc (.cells #[.pointer (some ⟨M,0,none⟩),.pointer (some ⟨G,0,none⟩),.iface t (.pointer (some a))] 88)).alloc (.cells #[.slice none 0 0,.slice none 0 0,.int .i64 0] 69)=W0 at *
  have CA0:W0.drew.cell? ⟨s,0,none⟩=some (.pointer (some ⟨M,0,none⟩))∧W0.drew.cell? ⟨s,1,none⟩=some (.pointer (some ⟨G,0,none⟩))∧W0.drew.cell? ⟨G,0,none⟩=some (.slice (some ⟨rq,0,none⟩) n n):=⟨(cell_of_row W0 _ _ _ _ _ T2.1).trans rfl,(cell_of_row W0 _ _ _ _ _ T2.1).trans rfl,cG⟩
  have HQ:Hid (Qr W0.drew M rm G rq n mix fifo):=hq.but (S:=fun _=>False) (But.refl _ _).drew id id id id
  have HZ:Hid (W0.drew.heap[s+1]?=some (.cells #[.slice none 0 0,.slice none 0 0,.int .i64 0] 69 (0,0))):=T2.2.1
  have HB:=hid HBx.drew
  clear HBx
  have HW:=hid hs
  clear T2 hs hq cG
  refine wp_region_held (S:=fun W=>W.cell? ⟨s,0,none⟩=some (.pointer (some ⟨M,0,none⟩))∧W.cell? ⟨s,1,none⟩=some (.pointer (some ⟨G,0,none⟩))∧W.cell? ⟨G,0,none⟩=some (.slice (some ⟨rq,0,none⟩) n n)) (by kernel_rfl) ?_
  simp only [List.size_toArray,List.length_cons,List.length_nil,Nat.reduceAdd,Array.replicate_succ,Array.replicate_zero,List.push_toArray,List.nil_append,List.cons_append]
  have hS:=CA0
  refine wpAnyH_putW (i:=0) (d:=3) (v:=.pointer (some ⟨s,0,none⟩)) rfl (by kernel_rfl) (by kernel_rfl) (by kernel_rfl) (by kernel_rfl) (fun _ _ _ h=>h) (Or.inl ⟨by kernel_rfl,fun _ _=>by kernel_rfl⟩) hS ?_
  simp only [List.setIfInBounds_toArray,List.set_cons_zero,List.set_cons_succ]
  refine wpAnyH_putW (i:=1) (d:=4) (v:=.pointer (some ⟨M,0,none⟩)) rfl (by kernel_rfl) (by kernel_rfl) (by kernel_rfl) (by kernel_rfl) (fun _ _ _ h=>h) (Or.inl ⟨by kernel_rfl,fun W hS=>by obtain ⟨h1,h2,h3⟩:=hS;go_simp⟩) hS ?_
  simp only [List.setIfInBounds_toArray,List.set_cons_zero,List.set_cons_succ]
  refine wpAnyH_putW (i:=2) (d:=5) (v:=.pointer (some ⟨M,0,none⟩)) rfl (by kernel_rfl) (by kernel_rfl) (by kernel_rfl) (by kernel_rfl) (fun _ _ _ h=>h) (Or.inl ⟨by kernel_rfl,fun _ _=>by kernel_rfl⟩) hS ?_
  simp only [List.setIfInBounds_toArray,List.set_cons_zero,List.set_cons_succ]
  refine wpAnyH_putW (i:=3) (d:=6) (v:=.pointer (some ⟨M,0,none⟩)) rfl (by kernel_rfl) (by kernel_rfl) (by kernel_rfl) (by kernel_rfl) (fun _ _ _ h=>h) (Or.inl ⟨by kernel_rfl,fun _ _=>by kernel_rfl⟩) hS ?_
  simp only [List.setIfInBounds_toArray,List.set_cons_zero,List.set_cons_succ]
  refine wpAnyH_putW (i:=5) (d:=8) (v:=.pointer (some ⟨s,1,none⟩)) rfl (by kernel_rfl) (by kernel_rfl) (by kernel_rfl) (by kernel_rfl) (fun _ _ _ h=>h) (Or.inl ⟨by kernel_rfl,fun _ _=>by kernel_rfl⟩) hS ?_
  simp only [List.setIfInBounds_toArray,List.set_cons_zero,List.set_cons_succ]
  refine wpAnyH_putW (i:=6) (d:=9) (v:=.pointer (some ⟨G,0,none⟩)) rfl (by kernel_rfl) (by kernel_rfl) (by kernel_rfl) (by kernel_rfl) (fun _ _ _ h=>h) (Or.inl ⟨by kernel_rfl,fun W hS=>by obtain ⟨h1,h2,h3⟩:=hS;go_simp⟩) hS ?_
  simp only [List.setIfInBounds_toArray,List.set_cons_zero,List.set_cons_succ]
  refine wpAnyH_putW (i:=7) (d:=10) (v:=.pointer (some ⟨G,0,none⟩)) rfl (by kernel_rfl) (by kernel_rfl) (by kernel_rfl) (by kernel_rfl) (fun _ _ _ h=>h) (Or.inl ⟨by kernel_rfl,fun _ _=>by kernel_rfl⟩) hS ?_
  simp only [List.setIfInBounds_toArray,List.set_cons_zero,List.set_cons_succ]
  refine wpAnyH_putW (i:=8) (d:=11) (v:=.pointer (some ⟨G,0,none⟩)) rfl (by kernel_rfl) (by kernel_rfl) (by kernel_rfl) (by kernel_rfl) (fun _ _ _ h=>h) (Or.inl ⟨by kernel_rfl,fun _ _=>by kernel_rfl⟩) hS ?_
  simp only [List.setIfInBounds_toArray,List.set_cons_zero,List.set_cons_succ]
  refine wpAnyH_putW (i:=10) (d:=13) (v:=.pointer (some ⟨s,1,none⟩)) rfl (by kernel_rfl) (by kernel_rfl) (by kernel_rfl) (by kernel_rfl) (fun _ _ _ h=>h) (Or.inl ⟨by kernel_rfl,fun _ _=>by kernel_rfl⟩) hS ?_
  simp only [List.setIfInBounds_toArray,List.set_cons_zero,List.set_cons_succ]
  refine wpAnyH_putW (i:=11) (d:=14) (v:=.pointer (some ⟨G,0,none⟩)) rfl (by kernel_rfl) (by kernel_rfl) (by kernel_rfl) (by kernel_rfl) (fun _ _ _ h=>h) (Or.inl ⟨by kernel_rfl,fun W hS=>by obtain ⟨h1,h2,h3⟩:=hS;go_simp⟩) hS ?_
  simp only [List.setIfInBounds_toArray,List.set_cons_zero,List.set_cons_succ]
  refine wpAnyH_putW (i:=12) (d:=15) (v:=.pointer (some ⟨G,0,none⟩)) rfl (by kernel_rfl) (by kernel_rfl) (by kernel_rfl) (by kernel_rfl) (fun _ _ _ h=>h) (Or.inl ⟨by kernel_rfl,fun _ _=>by kernel_rfl⟩) hS ?_
  simp only [List.setIfInBounds_toArray,List.set_cons_zero,List.set_cons_succ]
  refine wpAnyH_putW (i:=13) (d:=16) (v:=.pointer (some ⟨G,0,none⟩)) rfl (by kernel_rfl) (by kernel_rfl) (by kernel_rfl) (by kernel_rfl) (fun _ _ _ h=>h) (Or.inl ⟨by kernel_rfl,fun _ _=>by kernel_rfl⟩) hS ?_
  simp only [List.setIfInBounds_toArray,List.set_cons_zero,List.set_cons_succ]
  refine wpAnyH_putW (i:=14) (d:=17) (v:=.pointer (some ⟨G,0,none⟩)) rfl (by kernel_rfl) (by kernel_rfl) (by kernel_rfl) (by kernel_rfl) (fun _ _ _ h=>h) (Or.inl ⟨by kernel_rfl,fun _ _=>by kernel_rfl⟩) hS ?_
  simp only [List.setIfInBounds_toArray,List.set_cons_zero,List.set_cons_succ]
  refine wpAnyH_putW (i:=15) (d:=18) (v:=.slice (some ⟨rq,0,none⟩) n n) rfl (by kernel_rfl) (by kernel_rfl) (by kernel_rfl) (by kernel_rfl) (fun _ _ _ h=>h) (Or.inl ⟨by kernel_rfl,fun W hS=>by obtain ⟨h1,h2,h3⟩:=hS;go_simp⟩) hS ?_
  simp only [List.setIfInBounds_toArray,List.set_cons_zero,List.set_cons_succ]
  refine wpAnyH_putW (i:=16) (d:=19) (v:=.int .i64 (n:Nat)) rfl (by kernel_rfl) (by kernel_rfl) (by kernel_rfl) (by kernel_rfl) (fun _ _ _ h=>h) (Or.inl ⟨by kernel_rfl,fun W _=>by first|(go_simp;done)|(go_simp;omega)⟩) hS ?_
  simp only [List.setIfInBounds_toArray,List.set_cons_zero,List.set_cons_succ]
  refine wpAnyH_oneW (r:=4) (by kernel_rfl) ?_
  refine wpOp_doW rfl (by kernel_rfl) (fun K' hK=>?_)
  go_simp
  refine (RM.out _ HQ.out).mono ?_
  rintro e w1 ⟨rfl,r1,b1⟩
  have B1:=hid (bl_trans HB.out b1)
  have Q1:=hid (HQ.out.but (But.ofBelow (S:=fun _=>False) b1) id id id id)
  have Z1:=hid (below_at HZ.out b1)
  have R1:=hid r1
  have hS1:=(show _∧_∧_ from ⟨below_cell b1 hS.1,below_cell b1 hS.2.1,below_cell b1 hS.2.2⟩)
  refine hK.out _ _ ⟨hS1,?_⟩
  clear hS r1 b1
  have hS:=hS1
  clear hS1
  clear hK K'
  refine wpAnyH_oneW (r:=9) (by kernel_rfl) ?_
  refine wpOp_doW rfl (by kernel_rfl) (fun K' hK=>?_)
  go_simp
  refine (RQ.out _ Q1.out).mono ?_
  rintro e w2 ⟨rfl,r2,b2⟩
  have B2:=hid (bl_trans B1.out b2)
  have Z2:=hid (below_at Z1.out b2)
  have R2:=hid r2
  have X1:=hid (R1.out.below b2 R1.out.lt)
  have hS1:=(show _∧_∧_ from ⟨below_cell b2 hS.1,below_cell b2 hS.2.1,below_cell b2 hS.2.2⟩)
  refine hK.out _ _ ⟨hS1,?_⟩
  have L1:=hid (R1.out.lt)
  clear hS r2 b2
  have hS:=hS1
  clear hS1
  clear hK K'
  refine wpAnyH_putW (i:=17) (d:=20) (v:=.agg #[.slice (some ⟨W0.drew.heap.size,0,none⟩) mix.length mix.length,.slice (some ⟨w1.heap.size,0,none⟩) fifo.length fifo.length,.int .i64 (n:Nat)]) rfl (by kernel_rfl) (by kernel_rfl) (by kernel_rfl) (by kernel_rfl) (fun _ _ _ h=>h) (Or.inl ⟨by kernel_rfl,fun _ _=>by kernel_rfl⟩) hS ?_
  simp only [List.setIfInBounds_toArray,List.set_cons_zero,List.set_cons_succ]
  have d0:w2.cell? ⟨s+1,0,none⟩=some (.slice none 0 0):=by rw [cell_of_row _ _ _ _ _ _ Z2.out];rfl
  have d1:w2.cell? ⟨s+1,1,none⟩=some (.slice none 0 0):=by rw [cell_of_row _ _ _ _ _ _ Z2.out];rfl
  have d2:w2.cell? ⟨s+1,2,none⟩=some (.int .i64 0):=by rw [cell_of_row _ _ _ _ _ _ Z2.out];rfl
  have f0:w2.frozen? ⟨s+1,0,none⟩=false:=frozen_of_row _ _ _ _ _ Z2.out
  have f1:w2.frozen? ⟨s+1,1,none⟩=false:=frozen_of_row _ _ _ _ _ Z2.out
  have f2:w2.frozen? ⟨s+1,2,none⟩=false:=frozen_of_row _ _ _ _ _ Z2.out
  refine wpAnyH_oneW (r:=18) (by kernel_rfl) ?_
  refine wpOp_doW rfl (by kernel_rfl) (fun K' hK=>?_)
  go_simp
  refine hK.out _ _ ⟨⟨?_,?_,?_⟩,?_⟩
  · have:=hS.1;rw [cells_off _ _ _ _ _ _ (by dsimp only;omega)];exact this
  · have:=hS.2.1;rw [cells_off _ _ _ _ _ _ (by dsimp only;omega)];exact this
  · have:=hS.2.2;rw [cells_off _ _ _ _ _ _ (by dsimp only;exact hGs)];exact this
  refine wpAnyH_done (by kernel_rfl) ?_ _
  go_wp2
  refine bodyPost_ret (results_cell_row (by rfl) _ _ (s+1) 69 _ (0,0) _ (by rfl) (set3 Z2.out _ _ _) Tryz.underlying69 rfl (by kernel_rfl)) (by rfl) ?_
  have hlt:=HB.out.size
  have hw1:=R1.out.lt
  have h0:s+1≠W0.drew.heap.size:=by have:=HS0.out;have:=HW.out;show s+1≠W0.heap.size;omega
  have h1:s+1≠w1.heap.size:=by have:=HS0.out;have:=HW.out;have e:W0.drew.heap.size=W0.heap.size:=rfl;omega
  refine⟨W0.drew.heap.size,w1.heap.size,rfl,?_,?_,hlt,hw1,?_⟩
  · exact ((X1.out.other (Ne.symm h0) _).other (Ne.symm h0) _).other (Ne.symm h0) _
  · exact ((R2.out.other (Ne.symm h1) _).other (Ne.symm h1) _).other (Ne.symm h1) _
  · have:=HW.out
    exact ((B2.out.setCell (by dsimp only;omega) _).setCell (by dsimp only;omega) _).setCell (by dsimp only;omega) _
end Go.Proofs.YtacccpkmgkojiaaGreatDoorRR
namespace Go.Proofs.YtacccpkmgkojiaaGreatDoorRR
set_option linter.unusedVariables false
set_option linter.unusedSimpArgs false
set_option maxRecDepth 20000
set_option maxHeartbeats 8000000
open Go.ChangeShapes Go.WideShapes Go.ChangeAt Go.RowKit
theorem empty_in (m:Nat) (lim:Int) (w:World) (hm:m≤16) :
  Calls Tryz.prog 59 #[Vi m,Vi lim] w fun e w'=>∃ g,e=.returned (.agg #[Vl g m m,Vn,Vi lim])∧RowV w' g 3 (Ns .i64 (List.replicate m (-1)))∧w.heap.size≤g∧Below w.heap.size w w':=by
 have RP:=hid (fun W q (hr:RowV W q 3 (Ns .i64 [-1]))=>repeat_in q m W hm hr);have AA:=al_two w (.cells #[Vn,Vn,Vi 0] 69) (.cells #[Vi (-1)] 3);have q1:=hid (show RowV ((w.alloc (.cells #[Vn,Vn,Vi 0] 69)).alloc (.cells #[Vi (-1)] 3)) (w.heap.size+1) 3 (Ns .i64 [-1]) from rowOf AA.2.1);have X1:=hid AA.1;have B1:=hid AA.2.2;clear AA hm;go_enter Tryz.func59,Tryz.ntmps59;go_wp2_with fail;refine (RP.out _ _ q1.out).mono ?_;rintro e w2 ⟨g,rfl,r2,l2',b2⟩;have x2:=below_at X1.out b2;have R2:=hid r2;have L2:=hid (show w.heap.size+1 < g by have:=q1.out.lt;omega);have B2:=hid (bl_trans B1.out b2);clear r2 l2' b2 RP q1 X1 B1;have c0:w2.cell? ⟨w.heap.size,0,none⟩=some (Vn):=by rw [cell_of_row _ _ _ _ _ _ x2];rfl
 have c1:w2.cell? ⟨w.heap.size,1,none⟩=some (Vn):=by rw [cell_of_row _ _ _ _ _ _ x2];rfl
 have c2:w2.cell? ⟨w.heap.size,2,none⟩=some (Vi 0):=by rw [cell_of_row _ _ _ _ _ _ x2];rfl
 have f0:w2.frozen? ⟨w.heap.size,0,none⟩=false:=frozen_of_row _ _ _ _ _ x2;have f1:w2.frozen? ⟨w.heap.size,1,none⟩=false:=frozen_of_row _ _ _ _ _ x2;have f2:w2.frozen? ⟨w.heap.size,2,none⟩=false:=frozen_of_row _ _ _ _ _ x2;have X2:=hid x2;clear x2;go_wp2;refine bodyPost_ret (results_cell_row (by rfl) _ _ w.heap.size 69 _ (0,0) _ (by rfl) (set3 X2.out _ _ _) Tryz.underlying69 rfl (by kernel_rfl)) (by rfl) ?_;refine⟨g,rfl,((R2.out.other (p:=⟨_,_,none⟩) ?_ _).other (p:=⟨_,_,none⟩) ?_ _).other (p:=⟨_,_,none⟩) ?_ _,by have:=L2.out;omega,((B2.out.setCell (p:=⟨_,_,none⟩) (Nat.le_refl _) _).setCell (p:=⟨_,_,none⟩) (Nat.le_refl _) _).setCell (p:=⟨_,_,none⟩) (Nat.le_refl _) _⟩
 all_goals (have:=L2.out;dsimp only;omega)
end Go.Proofs.YtacccpkmgkojiaaGreatDoorRR
