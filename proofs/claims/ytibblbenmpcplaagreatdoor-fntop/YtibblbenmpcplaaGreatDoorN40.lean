import Derived.Test.YtibblbenmpcplaaGreatDoorN33
import Derived.Test.YtibblbenmpcplaaGreatDoorN38
set_option linter.unusedVariables false
set_option linter.unusedSimpArgs false
set_option maxRecDepth 20000
set_option maxHeartbeats 8000000
namespace Go.Proofs.YtibblbenmpcplaaGreatDoor
open Go.Proofs.Tryz
variable {V W W':World} {R X dc:Nat} {cf:Cf} {da:Option Addr}
section
open Go.RowKit Go.Maps
def Cb (cf:Cf) (da:Option Addr) (dc:Nat):Array Value:=#[I cf.mix,I cf.fifo,I cf.large,I cf.bud,U cf.key,.slice da cf.ds.length dc]
def iF (mix fifo large bud key:Int) (da:Option Addr) (e dc S R:Nat):Array Value :=
 ([I mix,I fifo,I large,I bud,U key,.slice da e dc,J S 0]++List.replicate 72 (.pointer none)++(List.replicate 12 [.pointer none,.pointer none,.nilIface]).flatten++[.map (some R),C,C,I 0,C,.nilFunc]:List Value).toArray
theorem xZ (mix fifo large bud key da dl dc S R) (w:World):(Instr.box 71 (.agg (iF mix fifo large bud key da dl dc S R))).run prog w=.ok (J w.heap.size 0) (w.alloc (.cells (iF mix fifo large bud key da dl dc S R) 71)):=E
theorem AY (cf:Cf) (da dc S R fl qs):(iF (cf.mix:Nat) (cf.fifo:Nat) (cf.large:Nat) (cf.bud:Nat) cf.key da cf.ds.length dc S R).size=121/\∀ i,i<121->(iF (cf.mix:Nat) (cf.fifo:Nat) (cf.large:Nat) (cf.bud:Nat) cf.key da cf.ds.length dc S R)[i]?=some (nw cf da dc S R fl qs 0 0 i):=by
 have e:iF (cf.mix:Nat) (cf.fifo:Nat) (cf.large:Nat) (cf.bud:Nat) cf.key da cf.ds.length dc S R=((List.range 121).map (nw cf da dc S R fl qs 0 0)).toArray:=E;rw [e];exact⟨bH,λi a=>by simp [a]⟩
theorem oM {c:TypeId} {o:Oper} {a:Act} {K:Act->World->Prop} {Q:Exit->Act->World->Prop} (x:Operand) {v d:Value} (b:o.op=Op.box c x) (e:a.eval x=v) (f:(Instr.box c v).run prog W=.ok d W') (g:K (a.put o.dst d) W'):Oper.wp prog o a W K Q:=by
 unfold Oper.wp;simp [execOp,b,e,f,Result.andThen];exact g
structure Cx (X:Nat) (cf:Cf) (da:Option Addr) (dc:Nat) (W V:World):Prop where
 bx:V.heap[X]?=some (.cells (Cb cf da dc) 26)
 c0:V.cell? ⟨X,0,none⟩=some (I cf.mix)
 c1:V.cell? ⟨X,1,none⟩=some (I cf.fifo)
 c2:V.cell? ⟨X,2,none⟩=some (I cf.large)
 c3:V.cell? ⟨X,3,none⟩=some (I cf.bud)
 c4:V.cell? ⟨X,4,none⟩=some (U cf.key)
 c5:V.cell? ⟨X,5,none⟩=some (.slice da cf.ds.length dc)
 tb:Tb V
 bel:D W V
theorem Cx.at (h:V.heap[X]?=some (.cells (Cb cf da dc) 26)) (a:Tb V) (b:D W V):Cx X cf da dc W V:=by
 refine⟨h,?_,?_,?_,?_,?_,?_,a,b⟩ <;> (rw [GT _ _ _ _ _ _ h];rfl)
theorem Cx.turn {V'} (h:Cx X cf da dc W V) (k:Ky (· = 71) V V') (b:Below W.heap.size V V') (a:0<W.heap.size):Cx X cf da dc W V' :=
 Cx.at (k.cells _ _ _ _ h.bx ar) (h.tb.belowB b a) (h.bel.trans b)
theorem Nh.turn {B P S M fl qs k w} (h:Nh B P S M R da dc cf fl qs k w W) (g:W.grownBy W' (some P)):Ky (· = 71) W W'/\Below B W W':=by
 obtain⟨c,a,_⟩:=h.box;exact⟨Ky.grown a rfl g,(Fu B W).grown g h.bW (λr a=>by simp at a;have:=h.bP;omega)⟩
theorem El (W:World) (P o:Nat) (a b c:Value):W.setCells P o [a,b,c]=((W.setCell ⟨P,o,none⟩ a).setCell ⟨P,o+1,none⟩ b).setCell ⟨P,o+2,none⟩ c:=by
 simp [World.setCells]
def lY (n m g:Nat):Value:=if n=0 then .iface 63 (J g 0) else .iface 62 (J m 0)
theorem xK (n m g):(lY n m g).oneCell'=true:=by unfold lY;split <;> rfl
theorem Fl (n m g:Nat):qv m g (List.replicate n (-1))=.agg #[J m 0,J g 0,lY n m g]:=by unfold qv lY;simp
theorem Cx.below {V'} (h:Cx X cf da dc W V) (b:D V V'):Cx X cf da dc W V' :=
 ⟨ae h.bx b,ad b h.c0,ad b h.c1,ad b h.c2,ad b h.c3,ad b h.c4,ad b h.c5,h.tb.ofBelow b,h.bel.trans (b.mono h.bel.size)⟩
theorem Cx.of (a:Tb W):Cx W.heap.size cf da dc W (W.alloc (.cells (Cb cf da dc) 26)):=by
 have h:=ao W (.cells (Cb cf da dc) 26);have b:D W (W.alloc (.cells (Cb cf da dc) 26)):=(Fu _ _).alloc (Fv _) _;exact Cx.at h (a.ofBelow b) b
theorem Mr.bel9 {n lo} (h:Mr R n lo W) (b:D W W'):Mr R n lo W':=by
 obtain⟨d,c,a⟩:=h.typ;exact h.same (b.block _ (ag a))
theorem Mr.made (W:World):Mr W.heap.size 0 (λ_=>none) (W.alloc (.map #[] 0)) :=
 ⟨.map [],(World.ownsMap_made W prog 23 ev).mono (FH _),Fv _,λk a=>rfl,λk a=>rfl⟩
theorem Cx.mapped (h:Cx X cf da dc W V):∃ R,V.heap.size=R/\Cx X cf da dc W (V.alloc (.map #[] 0))/\Mr R 0 (λ_=>none) (V.alloc (.map #[] 0))/\W.heap.size<=R/\R<(V.alloc (.map #[] 0)).heap.size/\D V (V.alloc (.map #[] 0)) :=
 ⟨_,rfl,h.below ((Fu _ _).alloc (Fv _) _),Mr.made V,h.bel.size,by rw [aO];omega,(Fu _ _).alloc (Fv _) _⟩
theorem Nh.first {S M U} (d:Cx X cf da dc W U) (g:Sl W da cf.ds) (e:∀ a,da=some a->a.block<W.heap.size) (k:0<W.heap.size) (hI:Im S M 0 283 (cf.bud:Nat) (λ_=>none) U) (j:W.heap.size<=S) (l:W.heap.size<=M) (m:Mr R 0 (λ_=>none) U) (n:W.heap.size<=R) (a:M≠R) (fl qs) :
  ∃ P,U.heap.size=P/\Nh W.heap.size P S M R da dc cf fl qs 0 0 (U.alloc (.cells (iF (cf.mix:Nat) (cf.fifo:Nat) (cf.large:Nat) (cf.bud:Nat) cf.key da cf.ds.length dc S R) 71))/\Cx X cf da dc W (U.alloc (.cells (iF (cf.mix:Nat) (cf.fifo:Nat) (cf.large:Nat) (cf.bud:Nat) cf.key da cf.ds.length dc S R) 71)):=by
 have b:D U (U.alloc (.cells (iF (cf.mix:Nat) (cf.fifo:Nat) (cf.large:Nat) (cf.bud:Nat) cf.key da cf.ds.length dc S R) 71)):=(Fu _ _).alloc (Fv _) _;have f:=d.below b;obtain⟨o,p⟩:=AY cf da dc S R fl qs;refine⟨_,rfl,⟨⟨_,ao _ _,o,p⟩,Fx d.bel.size b.size,(g.below d.bel).below b,e,hI.ky (Ky.below b:Ky (λ_=>False) _ _) (λe=>e) (b.block _ hI.lt.2),m.bel9 b,d.bel.size,j,l,n,a,(λi q=>Z),(λi j q=>Z),(λc r=>Z),(λc a r=>Z),f.tb,k⟩,f⟩
def Fc (cf:Cf) (da:Option Addr) (dc:Nat) (W:World) (e:Ending) (W':World):Prop:=∃ y,e=.returned (J y.P 0)/\y.da=da/\Hp W.heap.size y BP cf (aP cf) W'/\Gd BP (aP cf) (C)/\Below W.heap.size W W'
theorem rV (cf da dc W) (dk:mE cf) (c:Tb W) (d:Sl W da cf.ds) (b:∀ a,da=some a->a.block<W.heap.size) (a:0<W.heap.size) :
  Calls prog 13 #[gZ cf da dc] W (Fc cf da dc W):=by
 have e:=H (Cx.of (cf:=cf) (da:=da) (dc:=dc) c);have DS:=H d;have F:=H b;have H0:=H a;have a3:=dk.fifo1;have a4:=dk.fifo;have a0:=dk.mix;have a7:=dk.bud;unfold gZ;clear c d b a;go_enter func13,ntmps13;go_upto_region 1 with fail
 have G:=H (show Cx W.heap.size cf da dc W ((W.alloc (.cells (Cb cf da dc) 26)).drew) from e.below (Fu _ _).drew);unfold Cb at G;generalize W.alloc _=K at G ⊢;obtain⟨X,a⟩:∃ X,X=W.heap.size:=⟨_,rfl⟩;rw [<-a] at G ⊢;clear a e;go_cut [3] (λa w'=>∃ P S M R,a=.pointer (some ⟨P,0,none⟩)/\Hid (Nh W.heap.size P S M R da dc cf (λ_=>⟨0,0,0,λ_=>0⟩) (λ_=>⟨0,0,0,0⟩) 0 0 w')/\Hid (Cx X cf da dc W w'));case first =>
  refine wp_region_held (S:=Cx X cf da dc W) E ?_;simp only [FX,FN,F1,Nat.reduceAdd,FP,FO,FY,FV,F5];generalize o:K.drew=y at G;have m:({ heap:=K.heap,tape:=K.tape,drawn:=K.drawn+1,os:=K.os,output:=K.output } : World)=y:=o;rw [m];clear o m;have b:=G.out;refine pf 0 (.agg #[.int .i64 (cf.mix:Nat),.int .i64 (cf.fifo:Nat),.int .i64 (cf.large:Nat),.int .i64 (cf.bud:Nat),.int .u64 cf.key,.slice da cf.ds.length dc]) rfl b (λW b=>by obtain ⟨_,L,N,O,Q,T,V,Y,y7⟩:=b;first|(go_simp;done)|(go_simp;omega)) ?_;refine pf 2 (.pointer (some ⟨X,3,none⟩)) rfl b (λ_ _=>E) ?_;refine pf 3 (.int .i64 (cf.bud:Nat)) rfl b (λW b=>by obtain ⟨_,L,N,O,Q,T,V,Y,y7⟩:=b;first|(go_simp;done)|(go_simp;omega)) ?_;refine lZ [1,5] λi9 j=>?_;rcases (by simpa using j:i9=1\/i9=5) with j|j
  ·subst j;refine cw λK' d=>?_;go_simp
   refine (eH _ b.tb).mono ?_;rintro e a ⟨rfl,c⟩;have f:=b.below c;refine d _ _ ⟨f,?_⟩;clear b;have b:=f;clear f
   (try have g:=H (IT (g.1.bel9 c) (IT g.2.1 (FG g.2.2 c.size))));clear c;clear d K';refine lZ [4,5] λi9 j=>?_;rcases (by simpa using j:i9=4\/i9=5) with j|j
   ·subst j;refine cw λK' d=>?_;go_simp
    refine (ty 283 (cf.bud:Nat) _).mono ?_;rintro e a ⟨S,M,rfl,hI,c,p,q,v⟩;have n:=b.bel.size;have f:=b.below c;refine d _ _ ⟨f,?_⟩;clear b;have b:=f;clear f
    (try have r:=H (show M≠R by have:=g.2.2;omega));have i:=H (IT hI (IT (Fx n p) (Fx n q)))
    (try have g:=H (IT (g.1.bel9 c) (IT g.2.1 (FG g.2.2 c.size))));clear c hI p q v n;clear d K';refine gu 5 ?_;refine cw λK' d=>?_;have x:=@run_makeMap prog
    go_simp;clear x;obtain⟨R,z,l,s,t,u,c⟩:=b.mapped;rw [z];refine d _ _ ⟨l,?_⟩
    try have r:=H (show M≠R by have:=i.1.lt.2;omega)
    (try have i:=H (IT (i.1.ky (Ky.below c:Ky (λ_=>False) _ _) (λe=>e) (c.block _ i.1.lt.2)) i.2));have g:=H (IT s (IT t u));clear b s t u z c;have b:=l;clear l d K';refine pf 6 (.agg (iF (cf.mix:Nat) (cf.fifo:Nat) (cf.large:Nat) (cf.bud:Nat) cf.key da cf.ds.length dc S R)) rfl b (λ_ _=>E) ?_;refine gu 7 ?_;refine cw λK' d=>?_;refine oM (.tmp 12) E E (xZ (cf.mix:Nat) (cf.fifo:Nat) (cf.large:Nat) (cf.bud:Nat) cf.key da cf.ds.length dc S R _) ?_
    obtain⟨P,A,B,l⟩:=Nh.first b DS F H0 i.1 i.2.1 i.2.2 g.1 g.2.1 r (λ_=>⟨0,0,0,λ_=>0⟩) (λ_=>⟨0,0,0,0⟩)
    rw [A];refine d _ _ ⟨l,?_⟩;have w:=H B;clear b;have b:=l;clear l B A d K';refine pf 8 (.pointer (some ⟨P,0,none⟩)) rfl b (λ_ _=>E) ?_;refine bY ?_;go_wp2_with fail;go_meet;case rel=>exact ⟨P,S,M,R,rfl,w,H b⟩
   ·subst j;refine cw λK' d=>?_;have x:=@run_makeMap prog
    go_simp;clear x;obtain⟨R,z,l,s,t,u,c⟩:=b.mapped;rw [z];refine d _ _ ⟨l,?_⟩
    try have r:=H (show M≠R by have:=i.1.lt.2;omega)
    (try have i:=H (IT (i.1.ky (Ky.below c:Ky (λ_=>False) _ _) (λe=>e) (c.block _ i.1.lt.2)) i.2));have g:=H (IT s (IT t u));clear b s t u z c;have b:=l;clear l d K';refine gu 4 ?_;refine cw λK' d=>?_;go_simp
    refine (ty 283 (cf.bud:Nat) _).mono ?_;rintro e a ⟨S,M,rfl,hI,c,p,q,v⟩;have n:=b.bel.size;have f:=b.below c;refine d _ _ ⟨f,?_⟩;clear b;have b:=f;clear f
    (try have r:=H (show M≠R by have:=g.2.2;omega));have i:=H (IT hI (IT (Fx n p) (Fx n q)))
    (try have g:=H (IT (g.1.bel9 c) (IT g.2.1 (FG g.2.2 c.size))));clear c hI p q v n;clear d K';refine pf 6 (.agg (iF (cf.mix:Nat) (cf.fifo:Nat) (cf.large:Nat) (cf.bud:Nat) cf.key da cf.ds.length dc S R)) rfl b (λ_ _=>E) ?_;refine gu 7 ?_;refine cw λK' d=>?_;refine oM (.tmp 12) E E (xZ (cf.mix:Nat) (cf.fifo:Nat) (cf.large:Nat) (cf.bud:Nat) cf.key da cf.ds.length dc S R _) ?_
    obtain⟨P,A,B,l⟩:=Nh.first b DS F H0 i.1 i.2.1 i.2.2 g.1 g.2.1 r (λ_=>⟨0,0,0,λ_=>0⟩) (λ_=>⟨0,0,0,0⟩)
    rw [A];refine d _ _ ⟨l,?_⟩;have w:=H B;clear b;have b:=l;clear l B A d K';refine pf 8 (.pointer (some ⟨P,0,none⟩)) rfl b (λ_ _=>E) ?_;refine bY ?_;go_wp2_with fail;go_meet;case rel=>exact ⟨P,S,M,R,rfl,w,H b⟩
  ·subst j;refine cw λK' d=>?_;have x:=@run_makeMap prog
   go_simp;clear x;obtain⟨R,z,l,s,t,u,c⟩:=b.mapped;rw [z];refine d _ _ ⟨l,?_⟩
   try have r:=H (show M≠R by have:=i.1.lt.2;omega)
   (try have i:=H (IT (i.1.ky (Ky.below c:Ky (λ_=>False) _ _) (λe=>e) (c.block _ i.1.lt.2)) i.2));have g:=H (IT s (IT t u));clear b s t u z c;have b:=l;clear l d K';refine gu 1 ?_;refine cw λK' d=>?_;go_simp
   refine (eH _ b.tb).mono ?_;rintro e a ⟨rfl,c⟩;have f:=b.below c;refine d _ _ ⟨f,?_⟩;clear b;have b:=f;clear f
   (try have g:=H (IT (g.1.bel9 c) (IT g.2.1 (FG g.2.2 c.size))));clear c;clear d K';refine gu 4 ?_;refine cw λK' d=>?_;go_simp
   refine (ty 283 (cf.bud:Nat) _).mono ?_;rintro e a ⟨S,M,rfl,hI,c,p,q,v⟩;have n:=b.bel.size;have f:=b.below c;refine d _ _ ⟨f,?_⟩;clear b;have b:=f;clear f
   (try have r:=H (show M≠R by have:=g.2.2;omega));have i:=H (IT hI (IT (Fx n p) (Fx n q)))
   (try have g:=H (IT (g.1.bel9 c) (IT g.2.1 (FG g.2.2 c.size))));clear c hI p q v n;clear d K';refine pf 6 (.agg (iF (cf.mix:Nat) (cf.fifo:Nat) (cf.large:Nat) (cf.bud:Nat) cf.key da cf.ds.length dc S R)) rfl b (λ_ _=>E) ?_;refine gu 7 ?_;refine cw λK' d=>?_;refine oM (.tmp 12) E E (xZ (cf.mix:Nat) (cf.fifo:Nat) (cf.large:Nat) (cf.bud:Nat) cf.key da cf.ds.length dc S R _) ?_
   obtain⟨P,A,B,l⟩:=Nh.first b DS F H0 i.1 i.2.1 i.2.2 g.1 g.2.1 r (λ_=>⟨0,0,0,λ_=>0⟩) (λ_=>⟨0,0,0,0⟩)
   rw [A];refine d _ _ ⟨l,?_⟩;have w:=H B;clear b;have b:=l;clear l B A d K';refine pf 8 (.pointer (some ⟨P,0,none⟩)) rfl b (λ_ _=>E) ?_;refine bY ?_;go_wp2_with fail;go_meet;case rel=>exact ⟨P,S,M,R,rfl,w,H b⟩
 case rest =>
  obtain⟨P,S,M,R,rfl,w,n⟩:=hcut;clear G;go_wp2;go_loopw [14] (λi wr=>∃ (c:Nat) (z:Nat->D2) (qs:Nat->Do),c<=12/\i=.int .i64 c/\Hid (Nh W.heap.size P S M R da dc cf z qs (c*6) c wr)/\Hid (Cx X cf da dc W wr)) (λi _=>12-(intOf i).toNat);case atStart=>exact ⟨0,_,_,Z,rfl,w,n⟩
  case round =>
   clear w n;obtain⟨c,z,qs,hc,rfl,w,n⟩:=hrel;by_cases A:c<12
   ·have a8:(c:Int)<12:=Z;have a9:(0:Int)<=(c:Int):=Z;(go_upto_region 5 with fail);have a:=H (w.below (Fu _ wr).drew);have p:=H (n.below (Fu _ wr).drew);go_cut [] (λw'=>∃ g,Hid (Nh W.heap.size P S M R da dc cf z g (c*6) (c+1) w')/\Hid (Cx X cf da dc W w'));case first =>
     refine wp_region_held (S:=Cx X cf da dc W) E ?_;simp only [FX,FN,F1,Nat.reduceAdd,FP,FO,FY,FV,F5];generalize o:wr.drew=y at a p;have m:({ heap:=wr.heap,tape:=wr.tape,drawn:=wr.drawn+1,os:=wr.os,output:=wr.output } : World)=y:=o;rw [m];clear o m w n;have b:=p.out;refine pf 0 (.pointer (some ⟨P,0,none⟩)) rfl b (λ_ _=>E) ?_;refine pf 1 (.int .i64 (c:Nat)) rfl b (λ_ _=>E) ?_;refine pf 2 (.pointer (some ⟨X,0,none⟩)) rfl b (λ_ _=>E) ?_;refine pf 3 (.int .i64 (cf.mix:Nat)) rfl b (λW b=>by obtain ⟨_,L,N,O,Q,T,V,Y,y7⟩:=b;first|(go_simp;done)|(go_simp;omega)) ?_;refine pf 4 (.pointer (some ⟨X,1,none⟩)) rfl b (λ_ _=>E) ?_;refine pf 5 (.int .i64 (cf.fifo:Nat)) rfl b (λW b=>by obtain ⟨_,L,N,O,Q,T,V,Y,y7⟩:=b;first|(go_simp;done)|(go_simp;omega)) ?_;refine pf 8 (.pointer (some ⟨P,0,none⟩)) rfl b (λ_ _=>E) ?_;refine pf 9 (.pointer (some ⟨P,79,none⟩)) rfl b (λ_ _=>E) ?_;refine gu 6 ?_;refine cw λK' d=>?_;go_simp
     refine (yy cf.mix (cf.fifo:Nat) _ a0).mono ?_;rintro e U1 ⟨gm,rfl,g,r,u⟩;have f:=b.below u;refine d _ _ ⟨f,?_⟩;clear b;have b:=f;have q:=H u;have j:=H g;clear f u g r;clear d K';refine gu 7 ?_;refine cw λK' d=>?_;go_simp
     refine (zq (some ⟨gm,0,none⟩) cf.mix cf.mix none 0 0 cf.fifo (List.replicate cf.mix (-1)) [] _ ⟨.inr ⟨gm,rfl,j⟩,bH,.inl ⟨rfl,rfl⟩,rfl⟩ a0 ⟨a3,a4⟩ (FH _)).mono ?_;rintro e U2 ⟨x,r9,s,q9,rfl,r,t,g⟩;have f:=b.below g;rw [Fl];refine d _ _ ⟨f,?_⟩;clear b;have b:=f;have HQ:=H r;have HB:=H (show y.heap.size<=x/\y.heap.size<=r9/\y.heap.size<=s/\y.heap.size<=q9 by have:=q.size;omega);have BT:=H (q.trans (g.mono q.size));clear f g r t q j;clear d K';refine pf 10 (.pointer (some ⟨P,79+c*3,none⟩)) rfl b (λW b=>by obtain ⟨_,L,N,O,Q,T,V,Y,y7⟩:=b;first|(go_simp;done)|(go_simp;omega)) ?_;refine gu 11 ?_;refine cw λK' d=>?_;have g:=a.below BT.out
     refine wp_store_mid 67 (.tmp 27) (.tmp 24) E P (79+c*3) #[.pointer (some ⟨x,0,none⟩),.pointer (some ⟨s,0,none⟩),lY cf.mix x s] E E (λj hj=>⟨by rw [g.box.cell _ (by simp at hj;omega)];rfl,g.box.free _⟩) E (all_oneCell_toArray (λv q=>by simp at q;rcases q with rfl|rfl|rfl;rfl;rfl;exact xK _ _ _)) ?_;have B:=El U2 P (79+c*3) (.pointer (some ⟨x,0,none⟩)) (.pointer (some ⟨s,0,none⟩)) (lY cf.mix x s);obtain⟨U3,t⟩:∃ U3,U3=((U2.setCell ⟨P,79+c*3,none⟩ (.pointer (some ⟨x,0,none⟩))).setCell ⟨P,79+c*3+1,none⟩ (.pointer (some ⟨s,0,none⟩))).setCell ⟨P,79+c*3+2,none⟩ (lY cf.mix x s):=⟨_,rfl⟩;rw [<-t] at B;simp only [B];have v:=a.addW BT HQ HB A (W':=U3) (by rw [t];unfold lY;rfl);obtain⟨q,r⟩:=g.turn (W':=U3) (by rw [t];exact au (au (au (al U2 P) _ _) _ _) _ _);clear B t;have l:=b.turn q r H0.out;refine d _ _ ⟨l,?_⟩;have HA:=H v;have n:=H l;clear v l q r d K' b;refine bY ?_;go_wp2_with fail;go_meet;case rel=>exact ⟨_,HA,n⟩
    case rest =>
     obtain⟨t,B,a1⟩:=hcut;clear a p w n;go_wp2;go_loopw [28] (λi l=>∃ (j:Nat) (z:Nat->D2),j<=6/\i=.int .i64 j/\Hid (Nh W.heap.size P S M R da dc cf z t (c*6+j) (c+1) l)/\Hid (Cx X cf da dc W l)) (λi _=>6-(intOf i).toNat);(case atStart=>exact ⟨0,_,Z,rfl,B,a1⟩);case round =>
      clear B a1;obtain⟨j,a5,hj,rfl,w,n⟩:=hrel;by_cases b0:j<6
      ·have b3:(j:Int)<6:=Z;have b4:(0:Int)<=(j:Int):=Z;(go_upto_region 9 with fail);have a:=H (w.below (Fu _ wr).drew);have p:=H (n.below (Fu _ wr).drew);refine wp_region_held (S:=Cx X cf da dc W) E ?_;simp only [FX,FN,F1,Nat.reduceAdd,FP,FO,FY,FV,F5];generalize o:wr.drew=y at a p;have m:({ heap:=wr.heap,tape:=wr.tape,drawn:=wr.drawn+1,os:=wr.os,output:=wr.output } : World)=y:=o;rw [m];clear o m w n;have b:=p.out;refine pf 0 (.pointer (some ⟨P,0,none⟩)) rfl b (λ_ _=>E) ?_;refine pf 1 (.int .i64 (c:Nat)) rfl b (λ_ _=>E) ?_;refine pf 2 (.int .i64 (j:Nat)) rfl b (λ_ _=>E) ?_;refine pf 3 (.int .i64 (c:Nat)) rfl b (λ_ _=>E) ?_;refine pf 4 (.int .i64 (j:Nat)) rfl b (λ_ _=>E) ?_;refine pf 6 (.pointer (some ⟨P,0,none⟩)) rfl b (λ_ _=>E) ?_;refine pf 7 (.pointer (some ⟨P,7,none⟩)) rfl b (λ_ _=>E) ?_;refine pf 8 (.pointer (some ⟨P,7+c*6,none⟩)) rfl b (λW b=>by obtain ⟨_,L,N,O,Q,T,V,Y,y7⟩:=b;first|(go_simp;done)|(go_simp;omega)) ?_;refine gu 5 ?_;refine cw λK' d=>?_;go_simp
       refine (tf c j A _ b.tb).mono ?_;rintro e U1 ⟨s,r9,a6,b5,rfl,a2,u⟩;have f:=b.below u;refine d _ _ ⟨f,?_⟩;clear b;have b:=f;have g:=a.below u;have v:=a.addS u (k:=c*6+j) (by rw [show (c*6+j)/6=c by omega,show (c*6+j)%6=j by omega];exact a2) Z;rw [show 7+(c*6+j)=7+c*6+j by omega] at v;obtain⟨q,r⟩:=g.turn (au (al U1 P) (7+c*6+j) (.pointer (some ⟨s,0,none⟩)));have c9:=g.box.cell (7+c*6+j) Z;have f9:=g.box.free (7+c*6+j);have HA:=H v;have n:=H (b.turn q r H0);clear f u g v q r a2;clear d K';refine pf 9 (.pointer (some ⟨P,7+c*6+j,none⟩)) rfl b (λW b=>by obtain ⟨_,L,N,O,Q,T,V,Y,y7⟩:=b;first|(go_simp;done)|(go_simp;omega)) ?_;refine gu 10 ?_;refine cw λK' d=>?_;go_simp
       refine d _ _ ⟨n,?_⟩;clear b;clear d K';refine bY ?_;go_wp2;go_roundw;(case rel=>exact ⟨j+1,_,Z,aY,HA,n⟩);case measure=>simp [intOf];omega
      ·obtain rfl:j=6:=Z;go_wp2;go_roundw;(case rel=>exact ⟨c+1,a5,t,Z,aY,H (by have:=w.out;rw [show c*6+6=(c+1)*6 by omega] at this;exact this),n⟩);case measure=>simp [intOf];omega
   ·obtain rfl:c=12:=Z;go_wp2;go_ret;obtain⟨a,g⟩:=w.made;exact⟨Fa P S M R da dc z qs,rfl,rfl,a,g,n.bel⟩
end
end Go.Proofs.YtibblbenmpcplaaGreatDoor
