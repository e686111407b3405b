import Derived.Test.YtgandbaejlfppaaGreatDoorM02
import Derived.Test.YtgandbaejlfppaaGreatDoorM03
import Derived.Test.YtgandbaejlfppaaGreatDoorM05
namespace Go.Proofs.YtgandbaejlfppaaGreatDoor
set_option linter.unusedVariables false
set_option linter.unusedSimpArgs false
set_option maxRecDepth 20000
set_option maxHeartbeats 8000000
open Go.RowKit Go.Shelf
theorem wpAny_one {P:Program} {md:Region.Mode} {ops:Array Oper} {Q:Exit→Act→World→Prop} {r fuel:Nat} {listed:Array Bool} {a:Act} {w:World} (hr:Region.ready md ops listed=[r])
  (h:wpOp P ops Q r (wpAny P md ops Q fuel (listed.setIfInBounds r true)) a w):wpAny P md ops Q (fuel+1) listed a w :=
 wpAny_all hr (by simp) (fun i hi=>by
  obtain rfl:i=r:=by simpa using hi
  exact h)
theorem wpAny_put {P:Program} {md:Region.Mode} {ops:Array Oper} {Q:Exit→Act→World→Prop} {i d:Nat} {oi:Oper} {v:Value} {fuel:Nat} {listed:Array Bool} {a:Act} {w:World} (hi:ops[i]?=some oi) (hd:oi.dst=some d)
  (hs:Region.noSelect ops=true) (hf:Region.free md ops listed i=true) (hr:(Region.ready md ops listed).contains i=true)
  (hQ:∀ c a w,Q (.panic c) (a.put oi.dst v) w→Q (.panic c) a w) (hy:Yields P ops oi v a)
  (h:wpAny P md ops Q fuel (listed.setIfInBounds i true) { a with tmps:=a.tmps.setIfInBounds d v } w):wpAny P md ops Q (fuel+1) listed a w :=
 wpAny_take hi hs hf hr hQ hy (by
  have e:a.put oi.dst v={ a with tmps:=a.tmps.setIfInBounds d v }:=by rw [hd];rfl
  rw [e];exact h)
def loadB (m:Nat→Option (Bool×List Int)) (a n:Nat):List Int:=(List.range n).map fun i=>byteAt m (a+i)
theorem setRow_at {v:World} {g:Nat} {old:Array Value} {t:TypeId} (h:v.heap[g]?=some (.cells old t (0,0))) (cs:Array Value):(v.setRow g cs).heap[g]?=some (.cells cs t (0,0)):=by
 simp [World.setRow,Array.getElem?_modify,h]
theorem grown_setRow (w:World) (g:Nat) (cs:Array Value):w.grownBy (w.setRow g cs) (some g) :=
 ⟨rfl,rfl,rfl,by simp [World.setRow],fun k _ hne=>by
  have:g≠k:=fun e=>hne (by rw [e])
  simp [World.setRow,Array.getElem?_modify,this]⟩
theorem own_mono {w:World} {base base':Nat} {e:TypeId} {size:Nat} {v:Value} {n:Nat} {xs:List Value} (h:w.ownsRow base e size v n xs) (hb:base'≤base):w.ownsRow base' e size v n xs :=
 ⟨h.1,h.2.imp id fun ⟨g,cap,cur,h1,h2,h3⟩=>⟨g,cap,cur,h1,Nat.le_trans hb h2,h3⟩⟩
end Go.Proofs.YtgandbaejlfppaaGreatDoor
namespace Go.Proofs.YtgandbaejlfppaaGreatDoor
set_option linter.unusedVariables false
set_option linter.unusedSimpArgs false
set_option maxRecDepth 20000
set_option maxHeartbeats 8000000
open Go.RowKit Go.Shelf
def accC (m:Nat→Option (Bool×List Int)) (a:Nat) (n:Int):Int :=
 if n < 0∨4096 < n then 6 else if n=0 then 0 else if 4611686018427387904≤(a:Int)+(n - 1) then 2 else accCode (reachN m a n.toNat)
end Go.Proofs.YtgandbaejlfppaaGreatDoor
namespace Go.Proofs.YtgandbaejlfppaaGreatDoor
set_option linter.unusedVariables false
set_option linter.unusedSimpArgs false
set_option maxRecDepth 20000
set_option maxHeartbeats 8000000
open Go.ChangeShapes Go.WideShapes Go.ChangeAt Go.RowKit
def Mx (w:World) (M r G:Nat) (mix:List Int):Prop:=w.heap[M]?=some (.cells #[Vl r mix.length mix.length,Vi (0:Nat),Vi (mix.length:Nat),.iface 65 (Vp G 0)] 128 (0,0))∧RowV w r 3 (Ns .i64 mix)
theorem Mx.but {S:Nat→Prop} {w w':World} {M r G:Nat} {mix:List Int} (h:Mx w M r G mix) (hb:But S w w') (h1:¬S M) (h2:¬S r):Mx w' M r G mix :=
 ⟨hb.at h.1 h1,h.2.but hb h2⟩
structure Qr (w:World) (M rm G rq n:Nat) (mix fifo:List Int):Prop where
 mx:Mx w M rm G mix
 qu:Qu w G rq n fifo
 ne:rm≠rq
theorem Qr.sep {w:World} {M rm G rq n:Nat} {mix fifo:List Int} (h:Qr w M rm G rq n mix fifo):M≠G∧M≠rq∧M≠rm∧G≠rm∧G≠rq:=by
 obtain⟨⟨a,b⟩,⟨ps,o,hh,c,d,_⟩,e⟩:=h;refine⟨?_,d.ne a (by decide),b.ne a (by decide),b.ne c (by decide),d.ne c (by decide)⟩;rintro rfl;rw [a] at c;simp at c
theorem Qr.but {S:Nat→Prop} {w w':World} {M rm G rq n:Nat} {mix fifo:List Int} (h:Qr w M rm G rq n mix fifo) (hb:But S w w') (h1:¬S M) (h2:¬S rm) (h3:¬S G) (h4:¬S rq):Qr w' M rm G rq n mix fifo :=
 ⟨h.mx.but hb h1 h2,h.qu.but hb h3 h4,h.ne⟩
def Qs (rm G rq:Nat):Nat→Prop:=fun k=>k=rm∨k=G∨k=rq
theorem mpush (M rm G rq n:Nat) (mix fifo:List Int) (x d:Int) (w:World) (h:Qr w M rm G rq n mix fifo) (h0:mix≠[]) (hml:mix.length≤1024) (hnl:n≤1024) :
  Calls Tryz.prog 209 #[Vp M 0,Vi x,Vi d] w fun e w'=>∃ z,e=.returned (Vi z)∧z=(wpM n mix fifo x d).2.2∧Qr w' M rm G rq n (wpM n mix fifo x d).1 (wpM n mix fifo x d).2.1∧But (Qs rm G rq) w w':=by
 have hl:0 < mix.length:=List.length_pos_iff.2 h0;obtain⟨s1,s2,s3,s4,s5⟩:=h.sep;have hlen:(mix.set (md d mix.length) x).length=mix.length:=by simp
 by_cases hm:mix[md d mix.length]?.getD 0 = -1
 ·refine (mpush_empty M G rm mix.length _ mix x d w h.mx.1 h.mx.2 rfl hl hml rfl hm).mono ?_;rintro e w' ⟨rfl,r1,g1⟩;unfold wpM;rw [if_neg h0,if_pos hm];have hb:But (Qs rm G rq) w w':=.ofGrown g1 (.inl rfl);refine⟨_,rfl,rfl,⟨⟨?_,r1⟩,h.qu.but (But.ofGrown (S:=fun k=>k=rm) g1 rfl) s4 (fun e=>h.ne e.symm),h.ne⟩,hb⟩;rw [hlen];exact cell_blk g1 h.mx.1 s3
 refine (mpush_on M G rm mix.length _ mix x d w h.mx.1 h.mx.2 rfl hl hml rfl _ rfl hm (fun v w'=>v=Vi (wpM n mix fifo x d).2.2∧Qr w' M rm G rq n (wpM n mix fifo x d).1 (wpM n mix fifo x d).2.1∧But (Qs rm G rq) w w') (fun w1 r1 g1=>?_)).mono ?_
 ·have hq:=h.qu.but (But.ofGrown (S:=fun k=>k=rm) g1 rfl) s4 (fun e=>h.ne e.symm);refine (qpush G rq n fifo _ d w1 hq hnl).mono ?_;rintro e w' ⟨rfl,q1,b1⟩;refine⟨_,rfl,?_,?_,?_⟩
  ·unfold wpM;rw [if_neg h0,if_neg hm]
  ·unfold wpM;rw [if_neg h0,if_neg hm];refine⟨⟨?_,r1.but b1 (fun h2=>h2.elim (fun e=>s4 e.symm) (fun e=>h.ne e))⟩,q1,h.ne⟩;rw [hlen];exact b1.at (cell_blk g1 h.mx.1 s3) (fun h2=>h2.elim (fun e=>s1 e) (fun e=>s2 e))
  exact (But.ofGrown g1 (.inl rfl)).trans (b1.mono (fun g h2=>h2.elim (fun e=>.inr (.inl e)) (fun e=>.inr (.inr e))))
 rintro e w' ⟨z,rfl,h1,h2,h3⟩;simp at h1;exact⟨z,rfl,h1,h2,h3⟩
end Go.Proofs.YtgandbaejlfppaaGreatDoor
namespace Go.Proofs.YtgandbaejlfppaaGreatDoor
set_option linter.unusedVariables false
set_option linter.unusedSimpArgs false
set_option maxRecDepth 20000
set_option maxHeartbeats 8000000
open Go.ChangeShapes Go.WideShapes Go.ChangeAt Go.RowKit
def qv (M G:Nat) (mix:List Int):Value:=.agg #[Vp M 0,Vp G 0,if mix.length=0 then .iface 65 (Vp G 0) else .iface 64 (Vp M 0)]
theorem al_two (w:World) (A B:Obj):(((w.alloc A).alloc B).heap[w.heap.size]?=some A)∧(((w.alloc A).alloc B).heap[w.heap.size+1]?=some B)∧Below w.heap.size w ((w.alloc A).alloc B):=by
 have h1:=al_lastW w A;have h2:=al_lastW (w.alloc A) B;rw [al_sizeW] at h2;exact⟨al_oldW h1 B,h2,((Below.refl _ w).alloc (Nat.le_refl _) A).alloc (by rw [al_sizeW];omega) B⟩
theorem below_at {w w':World} {g:Nat} {o:Obj} (h:w.heap[g]?=some o) (hb:Below w.heap.size w w'):w'.heap[g]?=some o:=by
 rw [hb.block g (lt_blkW h)];exact h
theorem blk_ne {W:World} {g k:Nat} {A B:Obj} (h1:W.heap[g]?=some A) (h2:W.heap[k]?=some B) (hne:A≠B):g≠k:=by
 rintro rfl;rw [h1] at h2
 cases h2
 exact hne rfl
theorem newQ_in (am:Option Addr) (lm cm:Nat) (af:Option Addr) (lf cf n:Nat) (mix fifo:List Int) (w:World) (h:Wt w am lm af lf mix fifo) (hm:lm≤16) (hn:1≤n∧n≤32) (hf:lf≤n) :
  Calls Tryz.prog 27 #[wv am lm cm af lf cf (n:Nat)] w fun e w'=>∃ M rm G rq,e=.returned (qv M G mix)∧Qr w' M rm G rq n mix fifo∧(w.heap.size≤M∧w.heap.size≤rm∧w.heap.size≤G∧w.heap.size≤rq)∧Below w.heap.size w w':=by
 unfold wv;have T2:=hid (al_two w (.cells #[.slice am lm cm,.slice af lf cf,Vi (n:Nat)] 88) (.cells #[.pointer none,.pointer none,.nilIface] 69));have N1:=hid (newRing_in n lf cf af fifo _ h.fl hf (by omega) (h.f.below T2.out.2.2));have N2:=hid (fun W (hW:Below w.heap.size w W)=>newRing_in lm lm cm am mix W h.ml (Nat.le_refl _) (by omega) (h.m.below hW));have ML:=hid h.ml;have FL:=hid h.fl;clear h;go_enter Tryz.func27,Tryz.ntmps27;go_wp2_with fail;refine (N1.out).mono ?_;rintro e w1 ⟨rq,rfl,r1,g1,b1⟩;have B1:=hid (bl_trans T2.out.2.2 b1);have x0:=hid (below_at T2.out.1 b1);have x1:=hid (below_at T2.out.2.1 b1);have R1:=hid r1;have G1:=hid (show w.heap.size≤rq∧rq < w1.heap.size from ⟨by have:=T2.out.2.2.size;omega,r1.lt⟩);clear b1 r1 g1 N1 T2;have A1:=hid ((Below.refl _ w1).alloc (Nat.le_refl _) (.cells #[Vl rq n n,Vi 0,Vi (lf:Nat)] 126));have c0:(w1.alloc (.cells #[Vl rq n n,Vi 0,Vi (lf:Nat)] 126)).cell? ⟨w.heap.size,0,none⟩=some (.slice am lm cm):=by rw [cell_of_row _ _ _ _ _ _ (below_at x0.out A1.out)];rfl
 go_wp2_with fail;refine (N2.out _ (bl_trans B1.out A1.out)).mono ?_;rintro e w2 ⟨rm,rfl,r2,g2,b2⟩;clear c0;have L1:=B1.out.size;have hQ:=hid (below_at (al_lastW w1 (.cells #[Vl rq n n,Vi 0,Vi (lf:Nat)] 126)) b2);have hrq:=hid ((R1.out.below A1.out R1.out.lt).below b2 (Nat.lt_of_lt_of_le R1.out.lt A1.out.size));have B2:=hid (bl_trans (bl_trans B1.out A1.out) b2);have y0:=hid (below_at (below_at x0.out A1.out) b2);have y1:=hid (below_at (below_at x1.out A1.out) b2);have hne:=hid (show rm≠rq by have:=G1.out.2;rw [al_sizeW] at g2;omega);have hrm:=hid (show w.heap.size≤rm by rw [al_sizeW] at g2;omega);have R2:=hid r2;have hG:=hid (show w.heap.size≤w1.heap.size by have:=B1.out.size;omega);generalize w1.heap.size=G at *;have A2:=hid ((Below.refl _ w2).alloc (Nat.le_refl _) (.cells #[Vl rm lm lm,Vi 0,Vi (lm:Nat),.iface 65 (Vp G 0)] 128));clear x0 x1 b2 r2 g2 B1 A1 R1 N2;have z0:=hid (below_at y0.out A2.out);have z1:=hid (below_at y1.out A2.out);have zM:=hid (al_lastW w2 (.cells #[Vl rm lm lm,Vi 0,Vi (lm:Nat),.iface 65 (Vp G 0)] 128));have zQ:=hid (below_at hQ.out A2.out);have zr:=hid (hrq.out.below A2.out hrq.out.lt);have zm:=hid (R2.out.below A2.out R2.out.lt);have zB:=hid (bl_trans B2.out A2.out);have hM:=hid B2.out.size;have c0:(w2.alloc (.cells #[Vl rm lm lm,Vi 0,Vi (lm:Nat),.iface 65 (Vp G 0)] 128)).cell? ⟨w.heap.size,0,none⟩=some (.slice am lm cm):=by rw [cell_of_row _ _ _ _ _ _ z0.out];rfl
 have d0:(w2.alloc (.cells #[Vl rm lm lm,Vi 0,Vi (lm:Nat),.iface 65 (Vp G 0)] 128)).cell? ⟨w.heap.size+1,0,none⟩=some (.pointer none):=by rw [cell_of_row _ _ _ _ _ _ z1.out];rfl
 have d1:(w2.alloc (.cells #[Vl rm lm lm,Vi 0,Vi (lm:Nat),.iface 65 (Vp G 0)] 128)).cell? ⟨w.heap.size+1,1,none⟩=some (.pointer none):=by rw [cell_of_row _ _ _ _ _ _ z1.out];rfl
 have d2:(w2.alloc (.cells #[Vl rm lm lm,Vi 0,Vi (lm:Nat),.iface 65 (Vp G 0)] 128)).cell? ⟨w.heap.size+1,2,none⟩=some .nilIface:=by rw [cell_of_row _ _ _ _ _ _ z1.out];rfl
 have f0:(w2.alloc (.cells #[Vl rm lm lm,Vi 0,Vi (lm:Nat),.iface 65 (Vp G 0)] 128)).frozen? ⟨w.heap.size+1,0,none⟩=false:=frozen_of_row _ _ _ _ _ z1.out;have f1:(w2.alloc (.cells #[Vl rm lm lm,Vi 0,Vi (lm:Nat),.iface 65 (Vp G 0)] 128)).frozen? ⟨w.heap.size+1,1,none⟩=false:=frozen_of_row _ _ _ _ _ z1.out;have f2:(w2.alloc (.cells #[Vl rm lm lm,Vi 0,Vi (lm:Nat),.iface 65 (Vp G 0)] 128)).frozen? ⟨w.heap.size+1,2,none⟩=false:=frozen_of_row _ _ _ _ _ z1.out;have FIN:=hid (show ∀ v0 v1 v2:Value,∀ W',W'=(((w2.alloc (.cells #[Vl rm lm lm,Vi 0,Vi (lm:Nat),.iface 65 (Vp G 0)] 128)).setCell ⟨w.heap.size+1,0,none⟩ v0).setCell ⟨w.heap.size+1,1,none⟩ v1).setCell ⟨w.heap.size+1,2,none⟩ v2→Qr W' w2.heap.size rm G rq n mix fifo∧(w.heap.size≤w2.heap.size∧w.heap.size≤rm∧w.heap.size≤G∧w.heap.size≤rq)∧Below w.heap.size w W' from ?FIN)
 case FIN =>
  rintro v0 v1 v2 W' rfl;have bt:But (fun k=>k=w.heap.size+1) (w2.alloc (.cells #[Vl rm lm lm,Vi 0,Vi (lm:Nat),.iface 65 (Vp G 0)] 128)) ((((w2.alloc (.cells #[Vl rm lm lm,Vi 0,Vi (lm:Nat),.iface 65 (Vp G 0)] 128)).setCell ⟨w.heap.size+1,0,none⟩ v0).setCell ⟨w.heap.size+1,1,none⟩ v1).setCell ⟨w.heap.size+1,2,none⟩ v2):=(((But.refl (fun k=>k=w.heap.size+1) (w2.alloc (.cells #[Vl rm lm lm,Vi 0,Vi (lm:Nat),.iface 65 (Vp G 0)] 128))).set _ _ _ rfl).set _ _ _ rfl).set _ _ _ rfl;have q0:Qr (w2.alloc (.cells #[Vl rm lm lm,Vi 0,Vi (lm:Nat),.iface 65 (Vp G 0)] 128)) w2.heap.size rm G rq n mix fifo:=by
   refine⟨⟨by rw [ML.out];exact zM.out,?_⟩,⟨_,0,lf,zQ.out,zr.out,?_,?_,hf,fun _=>rfl,?_⟩,hne.out⟩
   ·have:=zm.out
    rwa [Nat.sub_self,List.replicate_zero,List.append_nil] at this
   ·rw [List.length_append,List.length_replicate,FL.out];omega
   ·omega
   rw [List.drop_zero,List.take_zero,List.append_nil,←FL.out,List.take_append_of_le_length (Nat.le_refl _),List.take_length]
  have o1:=z1.out;have n1:=blk_ne zM.out o1 (by simp);have n2:rm≠w.heap.size+1:=(zm.out.ne o1 (by decide)).symm;have n3:=blk_ne zQ.out o1 (by simp);have n4:rq≠w.heap.size+1:=(zr.out.ne o1 (by decide)).symm;exact⟨q0.but bt n1 n2 n3 n4,⟨hM.out,hrm.out,hG.out,G1.out.1⟩,zB.out.trans (bt.below zB.out.size (fun g e=>by omega))⟩
 clear z0 zM zQ zr zm zB hM hQ hrq hrm hG R2 A2 B2 y0 y1 hne
 by_cases h0:lm=0
 ·have q1:qv w2.heap.size G mix=.agg #[Vp w2.heap.size 0,Vp G 0,.iface 65 (Vp G 0)]:=by unfold qv;rw [ML.out,if_pos h0]
  have HQ:=hid q1;have h0':((lm:Int)==0)=true:=by simp [h0]
  clear q1 h0;go_wp2;refine bodyPost_ret (results_cell_row (by rfl) _ _ (w.heap.size+1) 69 _ (0,0) _ (by rfl) (set3 z1.out _ _ _) Tryz.underlying69 rfl (by kernel_rfl)) (by rfl) ?_;exact⟨w2.heap.size,rm,G,rq,by rw [HQ.out],FIN.out _ _ _ _ rfl⟩
 have q1:qv w2.heap.size G mix=.agg #[Vp w2.heap.size 0,Vp G 0,.iface 64 (Vp w2.heap.size 0)]:=by unfold qv;rw [ML.out,if_neg h0]
 have HQ:=hid q1;have h0':((lm:Int)==0)=false:=by simp;omega
 clear q1 h0;go_wp2;refine bodyPost_ret (results_cell_row (by rfl) _ _ (w.heap.size+1) 69 _ (0,0) _ (by rfl) (set3 z1.out _ _ _) Tryz.underlying69 rfl (by kernel_rfl)) (by rfl) ?_;exact⟨w2.heap.size,rm,G,rq,by rw [HQ.out],FIN.out _ _ _ _ rfl⟩
end Go.Proofs.YtgandbaejlfppaaGreatDoor
namespace Go.Proofs.YtgandbaejlfppaaGreatDoor
set_option linter.unusedVariables false
set_option linter.unusedSimpArgs false
set_option maxRecDepth 20000
set_option maxHeartbeats 8000000
open Go.ChangeShapes Go.WideShapes Go.ChangeAt Go.RowKit
theorem epush (M rm G rq n:Nat) (fifo:List Int) (x d:Int) (w:World) (h:Qr w M rm G rq n [] fifo) (hnl:n≤1024) :
  Calls Tryz.prog 211 #[Vp G 0,Vi x,Vi d] w fun e w'=>∃ z,e=.returned (Vi z)∧z=(wpM n [] fifo x d).2.2∧Qr w' M rm G rq n (wpM n [] fifo x d).1 (wpM n [] fifo x d).2.1∧But (Qs rm G rq) w w':=by
 obtain⟨s1,s2,s3,s4,s5⟩:=h.sep;refine (qpush G rq n fifo x d w h.qu hnl).mono ?_;rintro e w' ⟨rfl,q1,b1⟩;have e1:wpM n [] fifo x d=([],(pushF n fifo x).1,(pushF n fifo x).2):=by unfold wpM;rw [if_pos rfl]
 rw [e1];exact⟨_,rfl,rfl,⟨h.mx.but b1 (fun h2=>h2.elim (fun e=>s1 e) (fun e=>s2 e)) (fun h2=>h2.elim (fun e=>s4 e.symm) (fun e=>h.ne e)),q1,h.ne⟩,b1.mono (fun g h2=>h2.elim (fun e=>.inr (.inl e)) (fun e=>.inr (.inr e)))⟩
end Go.Proofs.YtgandbaejlfppaaGreatDoor
namespace Go.Proofs.YtgandbaejlfppaaGreatDoor
set_option linter.unusedVariables false
set_option linter.unusedSimpArgs false
set_option maxRecDepth 20000
set_option maxHeartbeats 8000000
open Go.ChangeShapes Go.WideShapes Go.ChangeAt Go.RowKit
theorem epushL (M rm G rq n:Nat) (mix fifo:List Int) (x d:Int) (w:World) (h:Qr w M rm G rq n mix fifo) (hnl:n≤1024) (h0:mix.length=0) :
  Calls Tryz.prog 211 #[Vp G 0,Vi x,Vi d] w fun e w'=>∃ z,e=.returned (Vi z)∧z=(wpM n mix fifo x d).2.2∧Qr w' M rm G rq n (wpM n mix fifo x d).1 (wpM n mix fifo x d).2.1∧But (Qs rm G rq) w w':=by
 obtain rfl:=List.length_eq_zero_iff.1 h0;exact epush M rm G rq n fifo x d w h hnl
end Go.Proofs.YtgandbaejlfppaaGreatDoor
