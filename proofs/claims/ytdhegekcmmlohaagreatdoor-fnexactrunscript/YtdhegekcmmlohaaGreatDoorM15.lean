import Derived.Test.YtdhegekcmmlohaaGreatDoorM14
set_option linter.unusedVariables false
set_option linter.unusedSimpArgs false
set_option maxRecDepth 20000
set_option maxHeartbeats 8000000
namespace Go.Proofs.YtdhegekcmmlohaaGreatDoor
open Go.Proofs.Tryz Go.RowKit Go.Maps Go.Shelf Go.ChangeShapes Go.WideShapes Go.ChangeAt
section
variable {V W W':World}{R X dc:Nat}{cf:Cf}{da:Option Addr}
def Cb(cf:Cf)(da:Option Addr)(dc:Nat):Array Value:=#[I cf.mix,I cf.fifo,I cf.large,I cf.bud,U cf.key,.slice da cf.ds.length dc]
def iF(mix fifo large bud key:Int)(da:Option Addr)(dl dc S R:Nat):Array Value:=
 ([I mix,I fifo,I large,I bud,U key,.slice da dl dc,J S 0]++List.replicate 72 (.pointer none)++(List.replicate 12 [.pointer none,.pointer none,.nilIface]).flatten++[.map (some R),C,C,I 0,C,.nilFunc]:List Value).toArray
theorem xZ(mix fifo large bud key da dl dc S R)(w:QM):(Instr.box 154 (.agg (iF mix fifo large bud key da dl dc S R))).run prog w=.ok (J w.heap.size 0) (w.alloc (.cells (iF mix fifo large bud key da dl dc S R) 154)):=E
theorem AY(cf:Cf)(da dc S R fl qs):(iF (cf.mix:Nat) (cf.fifo:Nat) (cf.large:Nat) (cf.bud:Nat) cf.key da cf.ds.length dc S R).size=121/\∀i,i<121->(iF (cf.mix:Nat) (cf.fifo:Nat) (cf.large:Nat) (cf.bud:Nat) cf.key da cf.ds.length dc S R)[i]?=some (nw cf da dc S R fl qs 0 0 i):=by
 have e:iF (cf.mix:Nat) (cf.fifo:Nat) (cf.large:Nat) (cf.bud:Nat) cf.key da cf.ds.length dc S R=((List.range 121).map (nw cf da dc S R fl qs 0 0)).toArray:=E;rw[e];exact⟨bH,λi a=>by simp[a]⟩
theorem oM{c:QO}{o:Oper}{a:Act}{K:Act->QM->Prop}{Q:Exit->Act->QM->Prop}(x:Operand){v d:QN}(b:o.op=Op.box c x)(e:a.eval x=v)(f:(Instr.box c v).run prog W=.ok d W')(g:K (a.put o.dst d) W'):Oper.wp prog o a W K Q:=by
 unfold Oper.wp;simp[execOp,b,e,f,Result.andThen];exact g
structure Cx(X:Nat)(cf:Cf)(da:QP)(dc:Nat)(W V:QM):Prop where
 bx:V.heap[X]?=some (.cells (Cb cf da dc) 30)
 c0:V.cell? (Qz X 0)=some (I cf.mix)
 c1:V.cell? (Qz X 1)=some (I cf.fifo)
 c2:V.cell? (Qz X 2)=some (I cf.large)
 c3:V.cell? (Qz X 3)=some (I cf.bud)
 c4:V.cell? (Qz X 4)=some (U cf.key)
 c5:V.cell? (Qz X 5)=some (.slice da cf.ds.length dc)
 tb:Tb V
 bel:D W V
theorem Cx.at(h:V.heap[X]?=some (.cells (Cb cf da dc) 30))(a:Tb V)(b:D W V):Cx X cf da dc W V:=by
 refine⟨h,?_,?_,?_,?_,?_,?_,a,b⟩<;>(rw[GT _ _ _ _ _ _ h];rfl)
theorem Cx.turn{V'}(h:Cx X cf da dc W V)(k:Ky (· =154) V V')(b:Below W.heap.size V V')(a:6<W.heap.size):Cx X cf da dc W V':=
 Cx.at (k.cells _ _ _ _ h.bx ar) (h.tb.belowB b a) (h.bel.trans b)
theorem Nh.turn{B P S M fl qs k w}(h:Nh B P S M R da dc cf fl qs k w W)(g:W.grownBy W' (some P)):Ky (· =154) W W'/\Below B W W':=by
 have⟨c,a,_⟩:=h.box;exact⟨Ky.grown a rfl g,(Fu B W).grown g h.bW (λr a=>by simp at a;have:=h.bP;omega)⟩
theorem El(W:QM)(P o:Nat)(a b c:QN):W.setCells P o [a,b,c]=((W.setCell (Qz P o) a).setCell (Qz P (o+1)) b).setCell (Qz P (o+2)) c:=by
 simp[World.setCells]
def lY(n m g:Nat):Value:=if n=0 then .iface 146 (J g 0)else .iface 145 (J m 0)
theorem xK(n m g):(lY n m g).oneCell'=true:=by unfold lY;split<;>rfl
theorem Fl(n m g:Nat):qv m g (List.replicate n (-1))=.agg #[J m 0,J g 0,lY n m g]:=by unfold qv lY;simp
theorem Cx.below{V'}(h:Cx X cf da dc W V)(b:D V V'):Cx X cf da dc W V':=
 ⟨ae h.bx b,NI b h.c0,NI b h.c1,NI b h.c2,NI b h.c3,NI b h.c4,NI b h.c5,h.tb.ofBelow b,h.bel.trans (b.mono h.bel.size)⟩
theorem Cx.of(a:Tb W):Cx W.heap.size cf da dc W (W.alloc (.cells (Cb cf da dc) 30)):=by
 have h:=ao W (.cells (Cb cf da dc) 30);have b:D W (W.alloc (.cells (Cb cf da dc) 30)):=(Fu _ _).alloc (Fv _) _;exact Cx.at h (a.ofBelow b) b
theorem Mr.bel9{n lo}(h:Mr R n lo W)(b:D W W'):Mr R n lo W':=by
 have⟨d,c,a⟩:=h.typ;exact h.same (b.block _ (ag a))
theorem Mr.made(W:QM):Mr W.heap.size 0 (λ_=>none) (W.alloc (.map #[] 0)):=
 ⟨.map [],(World.ownsMap_made W prog 27 ev).mono (FH _),Fv _,λk a=>rfl,λk a=>rfl⟩
theorem Cx.mapped(h:Cx X cf da dc W V):∃R,V.heap.size=R/\Cx X cf da dc W (V.alloc (.map #[] 0))/\Mr R 0 (λ_=>none) (V.alloc (.map #[] 0))/\W.heap.size<=R/\R<(V.alloc (.map #[] 0)).heap.size/\D V (V.alloc (.map #[] 0)):=
 ⟨_,rfl,h.below ((Fu _ _).alloc (Fv _) _),Mr.made V,h.bel.size,by rw[aO];omega,(Fu _ _).alloc (Fv _) _⟩
theorem Nh.first{S M U}(d:Cx X cf da dc W U)(g:Sl W da cf.ds)(e:∀a,da=some a->a.block<W.heap.size)(k:6<W.heap.size)(hI:Im S M 0 283 (cf.bud:Nat) (λ_=>none) U)(j:W.heap.size<=S)(l:W.heap.size<=M)(m:Mr R 0 (λ_=>none) U)(n:W.heap.size<=R)(a:M≠R)(fl qs):
  ∃P,U.heap.size=P/\Nh W.heap.size P S M R da dc cf fl qs 0 0 (U.alloc (.cells (iF (cf.mix:Nat) (cf.fifo:Nat) (cf.large:Nat) (cf.bud:Nat) cf.key da cf.ds.length dc S R) 154))/\Cx X cf da dc W (U.alloc (.cells (iF (cf.mix:Nat) (cf.fifo:Nat) (cf.large:Nat) (cf.bud:Nat) cf.key da cf.ds.length dc S R) 154)):=by
 have b:D U (U.alloc (.cells (iF (cf.mix:Nat) (cf.fifo:Nat) (cf.large:Nat) (cf.bud:Nat) cf.key da cf.ds.length dc S R) 154)):=(Fu _ _).alloc (Fv _) _;have f:=d.below b;have⟨e1,o⟩:=AY cf da dc S R fl qs;refine⟨_,rfl,⟨⟨_,ao _ _,e1,o⟩,Fx d.bel.size b.size,(g.below d.bel).below b,e,hI.ky (Ky.below b:Ky (λ_=>False) _ _) (λe=>e) (b.block _ hI.lt.2),m.bel9 b,d.bel.size,j,l,n,a,(λi p=>Z),(λi j p=>Z),(λc q=>Z),(λc a q=>Z),f.tb,k⟩,f⟩
def Fc(cf:Cf)(da:Option Addr)(dc:Nat)(W:World)(e:Ending)(W':World):Prop:=∃y,e=.returned (J y.P 0)/\y.da=da/\Hp W.heap.size y BP cf (aP cf) W'/\Gd BP (aP cf) (C)/\Below W.heap.size W W'
theorem rV(cf da dc W)(dk:mE cf)(c:Tb W)(d:Sl W da cf.ds)(b:∀a,da=some a->a.block<W.heap.size)(a:6<W.heap.size):
  QA 61 #[gZ cf da dc] W (Fc cf da dc W):=by
 have⟨e,DS,F,H0⟩:=Qf (Cx.of (cf:=cf) (da:=da) (dc:=dc) c) d b a;have a3:=dk.fifo1;have a4:=dk.fifo;have a0:=dk.mix;have a7:=dk.bud;unfold gZ;clear c d b a;go_enter func61,ntmps61;go_upto_region 1 with fail
 have G:Hid (Cx W.heap.size cf da dc W ((W.alloc (.cells (Cb cf da dc) 30)).drew)):=e.below (Fu _ _).drew;unfold Cb at G;generalize W.alloc _=K at G⊢;have⟨X,a⟩:=Qb W.heap.size;rw[<-a]at G⊢;clear a;go_cut [3] (λa w'=>∃P S M R,a=J P 0/\Hid (Nh W.heap.size P S M R da dc cf (λ_=>⟨0,0,0,λ_=>0⟩) (λ_=>⟨0,0,0,0⟩) 0 0 w')/\Hid (Cx X cf da dc W w'));case first=>
  refine wp_region_held (S:=Cx X cf da dc W) E ?_;simp only[FX,FN,F1,Nat.reduceAdd,FP,FO,FY,FV,F5];generalize o:K.drew=y at G;have m:({heap:=K.heap,tape:=K.tape,drawn:=K.drawn+1,os:=K.os,output:=K.output}:QM)=y:=o;rw[m];clear o m;have b:=G.out;refine pf 0 (.agg #[I cf.mix,I cf.fifo,I cf.large,I cf.bud,U cf.key,.slice da cf.ds.length dc]) rfl b (λW b=>by obtain⟨_,L,N,O,Q,T,V,Y,y7⟩:=b;first|(go_simp;done)|(go_simp;omega)) ?_;refine pf 2 (J X 3) rfl b (λ_ _=>E) ?_;refine pf 3 (I cf.bud) rfl b (λW b=>by obtain⟨_,L,N,O,Q,T,V,Y,y7⟩:=b;first|(go_simp;done)|(go_simp;omega)) ?_;refine lZ [1,5] λi9 j=>?_;rcases(by simpa using j:i9=1\/i9=5)with j|j
  ·subst j;refine cw λK' d=>?_;go_simp
   refine(eH _ b.tb).mono ?_;rintro e a⟨rfl,c⟩;have f:=b.below c;refine d _ _ ⟨f,?_⟩;clear b;have b:=f;clear f
   (try have g:=H (IT (g.1.bel9 c) (IT g.2.1 (FG g.2.2 c.size))));clear c;clear d K';refine lZ [4,5] λi9 j=>?_;rcases(by simpa using j:i9=4\/i9=5)with j|j
   ·subst j;refine cw λK' d=>?_;go_simp
    refine(ty 283 (cf.bud:Nat) _).mono ?_;rintro e a⟨S,M,rfl,hI,c,p,q,v⟩;have n:=b.bel.size;have f:=b.below c;refine d _ _ ⟨f,?_⟩;clear b;have b:=f;clear f
    (try have r:=H (show M≠R by have:=g.2.2;omega));have i:=H (IT hI (IT (Fx n p) (Fx n q)))
    (try have g:=H (IT (g.1.bel9 c) (IT g.2.1 (FG g.2.2 c.size))));clear c hI p q v n;clear d K';refine gu 5 ?_;refine cw λK' d=>?_;have x:=@run_makeMap prog
    go_simp;clear x;have⟨R,z,l,s,t,u,c⟩:=b.mapped;rw[z];refine d _ _ ⟨l,?_⟩
    try have r:=H (show M≠R by have:=i.1.lt.2;omega)
    (try have i:=H (IT (i.1.ky (Ky.below c:Ky (λ_=>False) _ _) (λe=>e) (c.block _ i.1.lt.2)) i.2));have g:=H (IT s (IT t u));clear b s t u z c;have b:=l;clear l d K';refine pf 6 (.agg (iF (cf.mix:Nat) (cf.fifo:Nat) (cf.large:Nat) (cf.bud:Nat) cf.key da cf.ds.length dc S R)) rfl b (λ_ _=>E) ?_;refine gu 7 ?_;refine cw λK' d=>?_;refine oM (.tmp 12) E E (xZ (cf.mix:Nat) (cf.fifo:Nat) (cf.large:Nat) (cf.bud:Nat) cf.key da cf.ds.length dc S R _) ?_
    have⟨P,A,B,l⟩:=Nh.first b DS F H0 i.1 i.2.1 i.2.2 g.1 g.2.1 r (λ_=>⟨0,0,0,λ_=>0⟩) (λ_=>⟨0,0,0,0⟩)
    rw[A];refine d _ _ ⟨l,?_⟩;have w:=H B;clear b;have b:=l;clear l B A d K';refine pf 8 (J P 0) rfl b (λ_ _=>E) ?_;refine bY ?_;go_wp2_with fail;go_meet;case rel=>exact⟨P,S,M,R,rfl,w,H b⟩
   ·subst j;refine cw λK' d=>?_;have x:=@run_makeMap prog
    go_simp;clear x;have⟨R,z,l,s,t,u,c⟩:=b.mapped;rw[z];refine d _ _ ⟨l,?_⟩
    try have r:=H (show M≠R by have:=i.1.lt.2;omega)
    (try have i:=H (IT (i.1.ky (Ky.below c:Ky (λ_=>False) _ _) (λe=>e) (c.block _ i.1.lt.2)) i.2));have g:=H (IT s (IT t u));clear b s t u z c;have b:=l;clear l d K';refine gu 4 ?_;refine cw λK' d=>?_;go_simp
    refine(ty 283 (cf.bud:Nat) _).mono ?_;rintro e a⟨S,M,rfl,hI,c,p,q,v⟩;have n:=b.bel.size;have f:=b.below c;refine d _ _ ⟨f,?_⟩;clear b;have b:=f;clear f
    (try have r:=H (show M≠R by have:=g.2.2;omega));have i:=H (IT hI (IT (Fx n p) (Fx n q)))
    (try have g:=H (IT (g.1.bel9 c) (IT g.2.1 (FG g.2.2 c.size))));clear c hI p q v n;clear d K';refine pf 6 (.agg (iF (cf.mix:Nat) (cf.fifo:Nat) (cf.large:Nat) (cf.bud:Nat) cf.key da cf.ds.length dc S R)) rfl b (λ_ _=>E) ?_;refine gu 7 ?_;refine cw λK' d=>?_;refine oM (.tmp 12) E E (xZ (cf.mix:Nat) (cf.fifo:Nat) (cf.large:Nat) (cf.bud:Nat) cf.key da cf.ds.length dc S R _) ?_
    have⟨P,A,B,l⟩:=Nh.first b DS F H0 i.1 i.2.1 i.2.2 g.1 g.2.1 r (λ_=>⟨0,0,0,λ_=>0⟩) (λ_=>⟨0,0,0,0⟩)
    rw[A];refine d _ _ ⟨l,?_⟩;have w:=H B;clear b;have b:=l;clear l B A d K';refine pf 8 (J P 0) rfl b (λ_ _=>E) ?_;refine bY ?_;go_wp2_with fail;go_meet;case rel=>exact⟨P,S,M,R,rfl,w,H b⟩
  ·subst j;refine cw λK' d=>?_;have x:=@run_makeMap prog
   go_simp;clear x;have⟨R,z,l,s,t,u,c⟩:=b.mapped;rw[z];refine d _ _ ⟨l,?_⟩
   try have r:=H (show M≠R by have:=i.1.lt.2;omega)
   (try have i:=H (IT (i.1.ky (Ky.below c:Ky (λ_=>False) _ _) (λe=>e) (c.block _ i.1.lt.2)) i.2));have g:=H (IT s (IT t u));clear b s t u z c;have b:=l;clear l d K';refine gu 1 ?_;refine cw λK' d=>?_;go_simp
   refine(eH _ b.tb).mono ?_;rintro e a⟨rfl,c⟩;have f:=b.below c;refine d _ _ ⟨f,?_⟩;clear b;have b:=f;clear f
   (try have g:=H (IT (g.1.bel9 c) (IT g.2.1 (FG g.2.2 c.size))));clear c;clear d K';refine gu 4 ?_;refine cw λK' d=>?_;go_simp
   refine(ty 283 (cf.bud:Nat) _).mono ?_;rintro e a⟨S,M,rfl,hI,c,p,q,v⟩;have n:=b.bel.size;have f:=b.below c;refine d _ _ ⟨f,?_⟩;clear b;have b:=f;clear f
   (try have r:=H (show M≠R by have:=g.2.2;omega));have i:=H (IT hI (IT (Fx n p) (Fx n q)))
   (try have g:=H (IT (g.1.bel9 c) (IT g.2.1 (FG g.2.2 c.size))));clear c hI p q v n;clear d K';refine pf 6 (.agg (iF (cf.mix:Nat) (cf.fifo:Nat) (cf.large:Nat) (cf.bud:Nat) cf.key da cf.ds.length dc S R)) rfl b (λ_ _=>E) ?_;refine gu 7 ?_;refine cw λK' d=>?_;refine oM (.tmp 12) E E (xZ (cf.mix:Nat) (cf.fifo:Nat) (cf.large:Nat) (cf.bud:Nat) cf.key da cf.ds.length dc S R _) ?_
   have⟨P,A,B,l⟩:=Nh.first b DS F H0 i.1 i.2.1 i.2.2 g.1 g.2.1 r (λ_=>⟨0,0,0,λ_=>0⟩) (λ_=>⟨0,0,0,0⟩)
   rw[A];refine d _ _ ⟨l,?_⟩;have w:=H B;clear b;have b:=l;clear l B A d K';refine pf 8 (J P 0) rfl b (λ_ _=>E) ?_;refine bY ?_;go_wp2_with fail;go_meet;case rel=>exact⟨P,S,M,R,rfl,w,H b⟩
 case rest=>
  obtain⟨P,S,M,R,rfl,w,n⟩:=hcut;go_wp2;go_loopw [14] (λi wr=>∃(c:Nat)(z:Nat->D2)(qs:Nat->Do),c<=12/\i=I c/\Hid (Nh W.heap.size P S M R da dc cf z qs (c*6) c wr)/\Hid (Cx X cf da dc W wr)) (λi _=>12-(intOf i).toNat);case atStart=>exact⟨0,_,_,Z,rfl,w,n⟩
  case round=>
   clear w n;obtain⟨c,z,qs,hc,rfl,w,n⟩:=hrel;by_cases A:c<12
   ·have a8:(c:Int)<12:=Z;have a9:(0:Int)<=(c:Int):=Z;(go_upto_region 5 with fail);have⟨a,p⟩:=y7 (w.below (Fu _ wr).drew) (n.below (Fu _ wr).drew);go_cut [] (λw'=>∃g,Hid (Nh W.heap.size P S M R da dc cf z g (c*6) (c+1) w')/\Hid (Cx X cf da dc W w'));case first=>
     refine wp_region_held (S:=Cx X cf da dc W) E ?_;simp only[FX,FN,F1,Nat.reduceAdd,FP,FO,FY,FV,F5];generalize o:wr.drew=y at a p;have m:({heap:=wr.heap,tape:=wr.tape,drawn:=wr.drawn+1,os:=wr.os,output:=wr.output}:QM)=y:=o;rw[m];clear o m w n;have b:=p.out;refine pf 0 (J P 0) rfl b (λ_ _=>E) ?_;refine pf 1 (I c) rfl b (λ_ _=>E) ?_;refine pf 2 (J X 0) rfl b (λ_ _=>E) ?_;refine pf 3 (I cf.mix) rfl b (λW b=>by obtain⟨_,L,N,O,Q,T,V,Y,y7⟩:=b;first|(go_simp;done)|(go_simp;omega)) ?_;refine pf 4 (J X 1) rfl b (λ_ _=>E) ?_;refine pf 5 (I cf.fifo) rfl b (λW b=>by obtain⟨_,L,N,O,Q,T,V,Y,y7⟩:=b;first|(go_simp;done)|(go_simp;omega)) ?_;refine pf 8 (J P 0) rfl b (λ_ _=>E) ?_;refine pf 9 (J P 79) rfl b (λ_ _=>E) ?_;refine gu 6 ?_;refine cw λK' d=>?_;go_simp
     refine(yy cf.mix (cf.fifo:Nat) _ a0).mono ?_;rintro e U1⟨gm,rfl,g,r,u⟩;have f:=b.below u;refine d _ _ ⟨f,?_⟩;clear b;have b:=f;have⟨q,j⟩:=y7 u g;clear f u g r;clear d K';refine gu 7 ?_;refine cw λK' d=>?_;go_simp
     refine(zq (some (Qz gm 0)) cf.mix cf.mix none 0 0 cf.fifo (List.replicate cf.mix (-1)) [] _ ⟨.inr ⟨gm,rfl,j⟩,bH,.inl ⟨rfl,rfl⟩,rfl⟩ a0 ⟨a3,a4⟩ (FH _)).mono ?_;rintro e U2⟨x,r9,s,q9,rfl,r,t,g⟩;have f:=b.below g;rw[Fl];refine d _ _ ⟨f,?_⟩;clear b;have b:=f;have HQ:=H r;have HB:=H (show y.heap.size<=x/\y.heap.size<=r9/\y.heap.size<=s/\y.heap.size<=q9 by have:=q.size;omega);have BT:=H (q.trans (g.mono q.size));clear f g r t;clear d K';refine pf 10 (.pointer (some (Qz P (79+c*3)))) rfl b (λW b=>by obtain⟨_,L,N,O,Q,T,V,Y,y7⟩:=b;first|(go_simp;done)|(go_simp;omega)) ?_;refine gu 11 ?_;refine cw λK' d=>?_;have g:=a.below BT
     refine wp_store_mid 150 (.tmp 27) (.tmp 24) E P (79+c*3) #[J x 0,J s 0,lY cf.mix x s] E E (λj hj=>⟨by rw[g.box.cell _ (by simp at hj;omega)];rfl,g.box.free _⟩) E (all_oneCell_toArray (λv hv=>by simp at hv;rcases hv with rfl|rfl|rfl;rfl;rfl;exact xK _ _ _)) ?_;have B:=El U2 P (79+c*3) (J x 0) (J s 0) (lY cf.mix x s);have⟨U3,t⟩:=Qb (((U2.setCell (Qz P (79+c*3)) (J x 0)).setCell (Qz P (79+c*3+1)) (J s 0)).setCell (Qz P (79+c*3+2)) (lY cf.mix x s));rw[<-t]at B;simp only[B];have v:=a.addW BT HQ HB A (W':=U3) (by rw[t];unfold lY;rfl);have⟨q,r⟩:=g.turn (W':=U3) (by rw[t];exact au (au (au (al U2 P) _ _) _ _) _ _);clear B t;have l:=b.turn q r H0;refine d _ _ ⟨l,?_⟩;have⟨HA,n⟩:=y7 v l;clear v l q r d K' b;refine bY ?_;go_wp2_with fail;go_meet;case rel=>exact⟨_,HA,n⟩
    case rest=>
     have⟨t,B,a1⟩:=hcut;clear w;go_wp2;go_loopw [28] (λi l=>∃(j:Nat)(z:Nat->D2),j<=6/\i=I j/\Hid (Nh W.heap.size P S M R da dc cf z t (c*6+j) (c+1) l)/\Hid (Cx X cf da dc W l)) (λi _=>6-(intOf i).toNat);(case atStart=>exact⟨0,_,Z,rfl,B,a1⟩);case round=>
      clear B a1;obtain⟨j,a5,hj,rfl,w,n⟩:=hrel;by_cases b0:j<6
      ·have b3:(j:Int)<6:=Z;have b4:(0:Int)<=(j:Int):=Z;(go_upto_region 9 with fail);have⟨a,p⟩:=y7 (w.below (Fu _ wr).drew) (n.below (Fu _ wr).drew);refine wp_region_held (S:=Cx X cf da dc W) E ?_;simp only[FX,FN,F1,Nat.reduceAdd,FP,FO,FY,FV,F5];generalize o:wr.drew=y at a p;have m:({heap:=wr.heap,tape:=wr.tape,drawn:=wr.drawn+1,os:=wr.os,output:=wr.output}:QM)=y:=o;rw[m];clear o m w n;have b:=p.out;refine pf 0 (J P 0) rfl b (λ_ _=>E) ?_;refine pf 1 (I c) rfl b (λ_ _=>E) ?_;refine pf 2 (I j) rfl b (λ_ _=>E) ?_;refine pf 3 (I c) rfl b (λ_ _=>E) ?_;refine pf 4 (I j) rfl b (λ_ _=>E) ?_;refine pf 6 (J P 0) rfl b (λ_ _=>E) ?_;refine pf 7 (J P 7) rfl b (λ_ _=>E) ?_;refine pf 8 (.pointer (some (Qz P (7+c*6)))) rfl b (λW b=>by obtain⟨_,L,N,O,Q,T,V,Y,y7⟩:=b;first|(go_simp;done)|(go_simp;omega)) ?_;refine gu 5 ?_;refine cw λK' d=>?_;go_simp
       refine(tf c j A _ b.tb).mono ?_;rintro e U1⟨s,r9,a6,b5,rfl,a2,u⟩;have f:=b.below u;refine d _ _ ⟨f,?_⟩;clear b;have b:=f;have g:=a.below u;have v:=a.addS u (k:=c*6+j) (by rw[show(c*6+j)/6=c by omega,show(c*6+j)%6=j by omega];exact a2) Z;rw[show 7+(c*6+j)=7+c*6+j by omega]at v;have⟨q,r⟩:=g.turn (au (al U1 P) (7+c*6+j) (J s 0));have c9:=g.box.cell (7+c*6+j) Z;have f9:=g.box.free (7+c*6+j);have⟨HA,n⟩:=y7 v (b.turn q r H0);clear f u g v q r a2;clear d K';refine pf 9 (.pointer (some (Qz P (7+c*6+j)))) rfl b (λW b=>by obtain⟨_,L,N,O,Q,T,V,Y,y7⟩:=b;first|(go_simp;done)|(go_simp;omega)) ?_;refine gu 10 ?_;refine cw λK' d=>?_;go_simp
       refine d _ _ ⟨n,?_⟩;clear b;clear d K';refine bY ?_;go_wp2;go_roundw;(case rel=>exact⟨j+1,_,Z,aY,HA,n⟩);case measure=>exact QE
      ·obtain rfl:j=6:=Z;go_wp2;go_roundw;(case rel=>exact⟨c+1,a5,t,Z,aY,H (by have:=w.out;rw[show c*6+6=(c+1)*6 by omega]at this;exact this),n⟩);case measure=>exact QE
   ·obtain rfl:c=12:=Z;go_wp2;go_ret;have⟨a,g⟩:=w.made;exact⟨Fa P S M R da dc z qs,rfl,rfl,a,g,n.bel⟩
end
section
variable {B k:Nat}{V W w:World}{l:List Aw}{v:Value}{y:Ly}{d:Dy}{cf:Cf}{A:Option Addr}{ops:List df}{q:df}
structure Ra9(B:Nat)(W:QM)(l:List Aw)(v:QN):Prop where
 row:W.ownsRow B 46 4 v l.length (fZ l)
 dat:∀z∈l,W.ownsRow B 5 1 z.2 z.1.data.length (Ns .u8 z.1.data)
 dis:l.Pairwise λy z=>∀g,y.2.ownBlock=some g->z.2.ownBlock≠some g
theorem Ra9.ky{S W'}(r:Ra9 B W l v)(k:Ky S W W')(a:¬S 46)(b:¬S 5):Ra9 B W' l v:=
 ⟨ai r.row k a,λz c=>ai (r.dat z c) k b,r.dis⟩
theorem Ra9.below{B W W' l v}(r:Ra9 B W l v)(b:D W W'):Ra9 B W' l v:=r.ky (Ky.below b:Ky (λ_=>False) W W') (λe=>e) (λe=>e)
theorem Ra9.nil(B W):Ra9 B W [] (C):=⟨⟨rfl,.inl ⟨rfl,rfl⟩⟩,(λz a=>by cases a),List.Pairwise.nil⟩
theorem Ra9.ans(r:Ra9 B W l v)(a:l.length<=300):wK B W l v:=⟨r.row,a⟩
theorem Hp.ky81{h V'}(a:Hp B y d cf h V)(k:Ky (· =46) V V')(b:Below B V V')(c:V'.heap[y.M]?=V.heap[y.M]?)(f:V'.heap[y.R]?=V.heap[y.R]?):Hp B y d cf h V':=
 a.keep ⟨k.more (λt e=>by rw[e];decide),c,f⟩ b
theorem wA{h}(R:Hp B y d cf h V)(t:Gd d h v)(S:Ra9 B V l v)(r:An4)(n:QN)(e:Nat)(m:∀z∈l,∀g,z.2.ownBlock=some g->g<e)(W:B<=e)(w:V.ownsRow e 5 1 n r.data.length (Ns .u8 r.data))(hl:l.length<=300):
  ∃f a,QI 35 v (Vl V.heap.size 1 1) (V.alloc (.cells (aC (r,n)).toArray 46)) f a/\QG a y.P 119 v/\a.frozen? (Qz y.P 119)=false/\(∃b,Hp B y b cf h (a.setCell (Qz y.P 119) f)/\Gd b h f)/\Ra9 B (a.setCell (Qz y.P 119) f) (l++[(r,n)]) f/\Below B V (a.setCell (Qz y.P 119) f):=by
 have o:D V (V.alloc (.cells (aC (r,n)).toArray 46)):=(Fu _ _).alloc (Fv _) _;have i:=R.below o;have j:=S.below o;have x:=ax w o;obtain⟨A,F,G,rfl⟩:=aA w;have⟨f,a,e1,X,K⟩:=pA _ B v l (r,.slice A F G) V.heap.size 1 j.row (ao V _) rfl Z i.bW;have L:Ky (· =46) _ a:=Ky.grownO (λP M=>by obtain⟨_,c,b⟩:=aF j.row M;exact⟨c,46,_,b,rfl⟩) K;have T:Below B _ a:=(Fu B _).grown K i.bW (λP M=>(aF j.row M).1);have nb:∀(g:Nat)p c,(V.alloc (.cells (aC (r,.slice A F G)).toArray 46)).heap[g]?=some (Obj.map p c)->a.heap[g]?=(V.alloc (.cells (aC (r,.slice A F G)).toArray 46)).heap[g]?:=λ(g:Nat)p c q=>K.block g (ag q) (λe=>by
  have⟨_,k,b⟩:=aF j.row e.symm;rw[q]at b;cases b)
 have k:Hp B y d cf h a:=by
  refine i.ky81 L T ?_ ?_;·obtain⟨b,⟨p,N,s,_⟩,_⟩:=i.sp.map;exact nb _ _ _ s
  have⟨p,N,s⟩:=i.mp.typ;exact nb _ _ _ s
 have Y:a.cell? (Qz y.P 119)=some v:=k.cell 119 Z _ t.an;have fU:=k.box.free 119;have N:=k.setDy 119 f {d with an:=f} (.inl ⟨rfl,rfl⟩);have O:=k.box.kyS 119 f;have b2:Below B a (a.setCell (Qz y.P 119) f):=(Fu B a).setCell k.ap.bP _;refine⟨f,a,e1,Y,fU,⟨_,N,t.on,t.un,rfl⟩,⟨ai X O ar,λz b=>?_,?_⟩,((o.mono R.bW).trans T).trans b2⟩
 ·rcases F8.1 b with b|b;·exact ai (ai (j.dat z b) L ar) O ar
  have:=List.mem_singleton.1 b;subst this;exact aN (ai (ai x L ar) O ar) W
 rw[Is];refine⟨S.dis,List.pairwise_singleton _ _,λz b u hu g q Q=>?_⟩;have:=List.mem_singleton.1 hu;subst this;have h1:=(aF w Q).1;have s:=m z b g q;omega
theorem Ois.da(h:Ois w A ops){hh}(a:Hp B y d cf hh W)(b:D w W)(m:w.heap.size<=B)(c:q∈ops):Da y.S y.M d.f W q.d q.o.ys.length q.o.ys:=by
 refine⟨rfl,λi f=>?_⟩;have⟨x,g,j,l⟩:=h.dat q c i f;have n:=a.ap.bS;have o:=a.ap.bM;exact⟨x,g,cR b j,FG l b.size,Z,Z,λk e=>by have:=a.bf k _ e;omega⟩
structure EA(ops:List df):Prop where
 cap:∀q∈ops,q.o.ys.length<=q.dc
 ref:∀q∈ops,-9223372036854775808<=q.o.ref
 byt:∀q∈ops,okB q.o.ys
structure Rst(B:Nat)(y:Ly)(cf:Cf)(w:QM)(ops:List df)(k:Nat)(l:List Aw)(v:QN)(W:QM):Prop where
 hg:∃d,Hp B y d cf (NJ cf ((ops.take k).map df.o) (aP cf) []).1 W/\Gd d (NJ cf ((ops.take k).map df.o) (aP cf) []).1 v
 ok:vJ cf (NJ cf ((ops.take k).map df.o) (aP cf) []).1 k
 ls:l.map (·.1)=(NJ cf ((ops.take k).map df.o) (aP cf) []).2
 ra:Ra9 B W l v
 bel:D w W
theorem Rst.len(r:Rst B y cf w ops k l v W)(a:k<=ops.length):l.length=k:=by
 have:=congrArg List.length r.ls;rw[Gz,ft]at this;simpa[Hz a]using this
theorem Rst.first(ops)(a:Hp B y BP cf (aP cf) W)(c:Gd BP (aP cf) (C))(d:mE cf)(l1:1<=cf.large)(b:D w W):Rst B y cf w ops 0 [] (C) W:=by
 have e:NJ cf ((ops.take 0).map df.o) (aP cf) []=(aP cf,[]):=rfl;refine⟨⟨BP,?_,?_⟩,?_,?_,Ra9.nil _ _,b⟩;·rw[e];exact a
 ·rw[e];exact c
 ·rw[e];exact⟨Inv.new cf,Byt.new cf,Few.new cf,Z,d,l1⟩
 rw[e];rfl
theorem ei(a:ops[k]?=some q)(cf):NJ cf ((ops.take (k+1)).map df.o) (aP cf) []=((bU cf (NJ cf ((ops.take k).map df.o) (aP cf) []).1 (NJ cf ((ops.take k).map df.o) (aP cf) []).2 q.o).2,(NJ cf ((ops.take k).map df.o) (aP cf) []).2++[(bU cf (NJ cf ((ops.take k).map df.o) (aP cf) []).1 (NJ cf ((ops.take k).map df.o) (aP cf) []).2 q.o).1]):=by
 rw[F_,a];simp only[IQ,Hr,It,List.map_nil];exact gF cf q.o _ _ _
theorem Rst.call(r:Rst B y cf w ops k l v W)(b:D W V)(N:Ois w A ops)(x:EA ops)(F:w.heap.size<=B)(hN:ops.length<=300)(o:ops[k]?=some q):
  QA 62 #[J y.P 0,eZ q.o q.d q.dc] V λe s=>∃p,e=QJ (jP (bU cf (NJ cf ((ops.take k).map df.o) (aP cf) []).1 (NJ cf ((ops.take k).map df.o) (aP cf) []).2 q.o).1 p)/\s.cell? (Qz y.P 119)=some v /\
   ∃t a,QI 35 v (Vl s.heap.size 1 1) (s.alloc (.cells (aC ((bU cf (NJ cf ((ops.take k).map df.o) (aP cf) []).1 (NJ cf ((ops.take k).map df.o) (aP cf) []).2 q.o).1,p)).toArray 46)) t a/\QG a y.P 119 v/\a.frozen? (Qz y.P 119)=false/\Rst B y cf w ops (k+1) (l++[((bU cf (NJ cf ((ops.take k).map df.o) (aP cf) []).1 (NJ cf ((ops.take k).map df.o) (aP cf) []).2 q.o).1,p)]) t (a.setCell (Qz y.P 119) t):=by
 have Y:=(Fz.1 o).1;have f:=FM o;have⟨d,hp,O⟩:=r.hg;have P:=r.len Z;have z:=N.wf q f;have⟨Q,R,S,hv⟩:=aA r.ra.row;have j:=hp.below b;have m:=r.ra.below b;have i:D w V:=r.bel.trans (b.mono r.bel.size);rw[hv]at O;have hA:wK B V l (.slice Q R S):=by rw[<-hv];exact m.ans Z
 have c:=yv B B y d cf _ k l Q R S q.o q.d q.dc V j O r.ok Z hA z.1 z.2.1 z.2.2 (x.ref q f) (x.cap q f) (N.da j i F f);refine c.mono ?_;rintro e s⟨p,rfl,T,⟨d2,n,g⟩,X⟩;rw[r.ls]at T n g⊢;refine⟨p,rfl,?_,?_⟩;·rw[hv];exact n.cell 119 Z _ g.an
 rw[<-hv]at g;have u:Ra9 B s l v:=m.ky X.ky (by unfold hI;decide) (by unfold hI;decide);obtain⟨t,a,e1,e2,e3,⟨d9,G,K⟩,L,b9⟩:=wA n g u _ p V.heap.size (λz b g c=>by
  have⟨_,c9,M⟩:=aF (m.dat z b) c;exact ag M) j.bW T Z
 refine⟨t,a,e1,e2,e3,⟨d9,?_,?_⟩,?_,?_,L,i.trans ((X.bel.mono F).trans (b9.mono F))⟩;·rw[ei o];exact G
 ·rw[ei o];exact K
 ·rw[ei o];have⟨M,f1⟩:=r.ok.inv.step r.ok.dok.fifo1 r.ok.few (NJ cf ((ops.take k).map df.o) (aP cf) []).2 q.o;exact⟨M,r.ok.byt.step _ q.o (x.byt q f),f1,Z,r.ok.dok,r.ok.l1⟩
 rw[ei o,Hr,r.ls];rfl
def Ft(B:Nat)(y:Ly)(cf:Cf)(w:World)(ops:List df)(k:Nat)(l:List Aw)(v:Value)(d:An4)(V:World)(e:Ending)(g:World):Prop:=∃(a:Option Addr)(n c:Nat),e=.returned (.agg #[I d.code,U d.addr,I d.size,.slice a n c])/\g.cell? ⟨y.P,119,none⟩=some v/\(∀(X:Nat)e t f,t=48\/t=43->V.heap[X]?=some (.cells e t f)->g.heap[X]?=some (.cells e t f)) /\
 ∃(i:Option Addr)(j m:Nat)(b:World),(Builtin.append_ #[35,35] 35 #[v,Vl g.heap.size 1 1]).run prog (g.alloc (.cells #[I d.code,U d.addr,I d.size,.slice a n c] 46))=.ok (.slice i j m) b/\(g.alloc (.cells #[I d.code,U d.addr,I d.size,.slice a n c] 46)).cell? ⟨y.P,119,none⟩=some v/\b.cell? ⟨y.P,119,none⟩=some v/\b.frozen? ⟨y.P,119,none⟩=false/\(∀(X:Nat)e t f,t=48\/t=43->g.heap[X]?=some (.cells e t f)->(g.alloc (.cells #[I d.code,U d.addr,I d.size,.slice a n c] 46)).heap[X]?=some (.cells e t f)/\b.heap[X]?=some (.cells e t f)/\(b.setCell ⟨y.P,119,none⟩ (.slice i j m)).heap[X]?=some (.cells e t f))/\∃a,Rst B y cf w ops (k+1) a (.slice i j m) (b.setCell ⟨y.P,119,none⟩ (.slice i j m))
theorem Rst.call9(r:Rst B y cf w ops k l v W)(ho:Ois w A ops)(O:EA ops)(Q:w.heap.size<=B)(hN:ops.length<=300)(u:ops[k]?=some q):
  ∃a,∀V,D W V->QA 62 #[J y.P 0,.agg #[I q.o.kd,I q.o.ref,U q.o.p,U q.o.a,U q.o.b,.slice q.d q.o.ys.length q.dc]] V (Ft B y cf w ops k l v a V):=by
 have a3:=(Fz.1 u).1;have i:=FM u;obtain⟨d,hp,gd⟩:=r.hg;have a2:=r.len Z;have P:=ho.wf q i;obtain⟨va,vn,vc,hv⟩:=aA r.ra.row;refine⟨(bU cf (NJ cf ((ops.take k).map df.o) (aP cf) []).1 (NJ cf ((ops.take k).map df.o) (aP cf) []).2 q.o).1,λV b=>?_⟩;have p:=hp.below b;have s:=r.ra.below b;have m:D w V:=r.bel.trans (b.mono r.bel.size);rw[hv]at gd;have hA:wK B V l (.slice va vn vc):=by rw[<-hv];exact s.ans Z
 refine(yv B B y d cf _ k l va vn vc q.o q.d q.dc V p gd r.ok Z hA P.1 P.2.1 P.2.2 (O.ref q i) (O.cap q i) (ho.da p m Q i)).mono ?_;rintro e x⟨vd,rfl,R,⟨d2,j,g⟩,S⟩;obtain⟨L,M,F,rfl⟩:=aA R;rw[r.ls]at R j g⊢;have n:x.cell? (Qz y.P 119)=some v:=by rw[hv];exact j.cell 119 Z _ g.an
 refine⟨L,M,F,rfl,n,λX cc t f N T=>S.ky.cells _ _ _ _ T (by rcases N with rfl|rfl<;>(unfold hI;decide)),?_⟩;rw[<-hv]at g;have o:Ra9 B x l v:=s.ky S.ky (by unfold hI;decide) (by unfold hI;decide);obtain⟨v',a,e1,e2,e3,⟨d9,Y,a0⟩,G,b9⟩:=wA j g o _ (.slice L M F) V.heap.size (λz b g g=>by
  obtain⟨_,F,c⟩:=aF (s.dat z b) g;exact ag c) p.bW R Z
 obtain⟨a8,n8,c8,rfl⟩:=aA G.row;have z:D x (x.alloc (.cells (aC ((bU cf (NJ cf ((ops.take k).map df.o) (aP cf) []).1 (NJ cf ((ops.take k).map df.o) (aP cf) []).2 q.o).1,.slice L M F)).toArray 46)):=(Fu _ _).alloc (Fv _) _;have K:=o.below z;obtain⟨v7,U7,f1,f2,f3⟩:=pA _ B v l ((bU cf (NJ cf ((ops.take k).map df.o) (aP cf) []).1 (NJ cf ((ops.take k).map df.o) (aP cf) []).2 q.o).1,.slice L M F) x.heap.size 1 K.row (ao x _) rfl Z (Fx j.bW z.size);have eU:U7=a:=by rw[e1]at f1;cases f1;rfl
 subst eU;have kU:Ky (· =46) _ U7:=Ky.grownO (λP a=>by obtain⟨_,c,hc⟩:=aF K.row a;exact⟨c,46,_,hc,rfl⟩) f3;refine⟨a8,n8,c8,U7,e1,NI z n,e2,e3,λX cc t f N T=>?_,_,⟨d9,?_,?_⟩,?_,?_,G,m.trans ((S.bel.mono Q).trans (b9.mono Q))⟩
 ·have h1:=ae T z;have c:=kU.cells _ _ _ _ h1 (by rcases N with rfl|rfl<;>decide);refine⟨h1,c,?_⟩;rw[GQ _ _ _ _ (λe=>?_)];·exact c
  have a1:=(j.below z).box.ky kU ar;obtain⟨c7,g1,_⟩:=a1;rw[e]at c;rw[g1]at c;cases c;rcases N with e9|e9<;>cases e9
 ·rw[ei u];exact Y
 ·rw[ei u];exact a0
 ·rw[ei u];obtain⟨c,f1⟩:=r.ok.inv.step r.ok.dok.fifo1 r.ok.few (NJ cf ((ops.take k).map df.o) (aP cf) []).2 q.o;exact⟨c,r.ok.byt.step _ q.o (O.byt q i),f1,Z,r.ok.dok,r.ok.l1⟩
 rw[ei u,Hr,r.ls];rfl
structure Cq(X:Nat)(q:df)(V:QM):Prop where
 c0:V.cell? (Qz X 0)=some (I q.o.kd)
 c1:V.cell? (Qz X 1)=some (I q.o.ref)
 c2:V.cell? (Qz X 2)=some (U q.o.p)
 c3:V.cell? (Qz X 3)=some (U q.o.a)
 c4:V.cell? (Qz X 4)=some (U q.o.b)
 c5:V.cell? (Qz X 5)=some (.slice q.d q.o.ys.length q.dc)
theorem Cq.of{X:Nat}(h:V.heap[X]?=some (Qn q)):Cq X q V:=by
 refine⟨?_,?_,?_,?_,?_,?_⟩<;>(rw[GT _ _ _ _ _ _ h];rfl)
def AH(T9:Nat->Ly->Cf->Hs->World->Array Value->World->Prop):Prop:=∀(B:Nat)(y:Ly)(d:Dy)(cf:Cf)(h:Hs)(k:Nat)(v:Value)(V:World),Hp B y d cf h V->Gd d h v->vJ cf h k ->
 QA 63 #[J y.P 0] V λe L=>∃u F t z K A i j:Value,e=.returned (.agg #[u,F,t,z,K,A,i,j])/\(∀v∈[u,F,t,z,K,A,i,j],v.oneCell'=true)/\T9 B y cf h V #[u,F,t,z,K,A,i,j] L/\D V L
theorem nt(mi fi la bu ky)(b:Option Addr)(dn)(c:Nat)(A:Option Addr)(n i:Nat)(W)(l:Tb W)(d:¬(jg mi fi la bu dn/\n<=300)):
  QA 34 #[.agg #[I mi,I fi,I la,I bu,U ky,.slice b dn c],.slice A n i] W λe q=>e=.returned (.agg #[.bool false,C,I 0,C,C,C,C,C,C,I 0])/\D W q:=by
 have f:D W (W.alloc (.cells #[I mi,I fi,I la,I bu,U ky,.slice b dn c] 30)):=(Fu _ _).alloc (Fv _) _;have g:D W ((W.alloc (.cells #[I mi,I fi,I la,I bu,U ky,.slice b dn c] 30)).alloc Qq):=f.alloc f.size _;have m:=H (show((W.alloc (.cells #[I mi,I fi,I la,I bu,U ky,.slice b dn c] 30)).alloc Qq).heap[W.heap.size+1]?=some Qq by rw[<-aO W (.cells #[I mi,I fi,I la,I bu,U ky,.slice b dn c] 30)];exact ao _ _);have o:=ae (ao W (.cells #[I mi,I fi,I la,I bu,U ky,.slice b dn c] 30)) ((Fu _ _).alloc (Fv _) Qq);have⟨p,k⟩:=y7 (OR mi fi la bu ky b dn c _ (l.ofBelow g)) g;have a:=H (show∀j u,#[Value.int .i64 mi,I fi,I la,I bu,U ky,.slice b dn c][j]?=some u->((W.alloc (.cells #[I mi,I fi,I la,I bu,U ky,.slice b dn c] 30)).alloc Qq).cell? (Qz W.heap.size j)=some u from λj u b=>by rw[GT _ _ _ _ _ _ o];exact b);have u0:=a.out 0 _ rfl;have u1:=a.out 1 _ rfl;have u2:=a.out 2 _ rfl;have u3:=a.out 3 _ rfl;have u4:=a.out 4 _ rfl;have u5:=a.out 5 _ rfl;go_enter func34,ntmps34;go_wp2_with fail;generalize (W.alloc _).alloc _=l at*;generalize o:W.heap.size+1=X at*;refine(p).mono ?_;rintro e V⟨rfl,a⟩;have⟨f,g⟩:=y7 (ae m a) (k.trans (a.mono k.size));by_cases a:jg mi fi la bu dn
 ·have j:decide (jg mi fi la bu dn)=true:=G8 a;have m:(300:Int)<(n:Int):=by
   have:¬n<=300:=λe=>d ⟨a,e⟩
   omega
  rw[j];go_wp2_with (refine eG f ?_);refine fM (aw f _) underlying43 ?_;exact⟨rfl,g.grown (aj _ _ _) g.size (λr k=>by simp at k;omega)⟩
 have j:decide (jg mi fi la bu dn)=false:=GR a;rw[j];go_wp2_with (refine eG f ?_);refine fM (aw f _) underlying43 ?_;exact⟨rfl,g.grown (aj _ _ _) g.size (λr k=>by simp at k;omega)⟩
def Fs(T9:Nat->Ly->Cf->Hs->World->Array Value->World->Prop)(cf:Cf)(ops:List df)(w:World)(e:Ending)(W':World):Prop:=∃(B:Nat)(y:Ly)(l:List Aw)(A:Value)(v K u z L F j t:Value)(V i:World)(X:Nat),e=.returned (.agg #[.bool true,A,v,K,u,z,L,F,j,t])/\w.heap.size<=B/\Rst B y cf w ops ops.length l A V/\T9 B y cf (NJ cf (ops.map df.o) (aP cf) []).1 V #[v,K,u,z,L,F,j,t] i/\D V i/\i.heap[X]?=some Qq/\W'=i.setRow X #[.bool true,A,v,K,u,z,L,F,j,t]/\w.heap.size<=X/\X<B
theorem sZ(T9)(t:AH T9)(cf da dc A)(a7:Nat)(ops w)(c:mE cf)(l1:1<=cf.large)(m:Tb w)(x:Sl w da cf.ds)(g:∀a,da=some a->a.block<w.heap.size)(h0:6<w.heap.size)(z:Ois w A ops)(F:EA ops)(hN:ops.length<=300):
  QA 34 #[gZ cf da dc,.slice A ops.length a7] w (Fs T9 cf ops w):=by
 unfold gZ;have i:jg (cf.mix:Nat) (cf.fifo:Nat) (cf.large:Nat) (cf.bud:Nat) cf.ds.length:=by
  have h1:=c.mix;have h2:=c.fifo1;have b:=c.fifo;have e:=c.large;have f:=c.bud;have j:=c.len;unfold jg;omega
 have W:Below w.heap.size w (w.alloc (.cells #[I cf.mix,I cf.fifo,I cf.large,I cf.bud,U cf.key,.slice da cf.ds.length dc] 30)):=(Fu _ _).alloc (Fv _) _;have n:Below w.heap.size w ((w.alloc (.cells #[I cf.mix,I cf.fifo,I cf.large,I cf.bud,U cf.key,.slice da cf.ds.length dc] 30)).alloc (.cells #[.bool false,C,I 0,C,C,C,C,C,C,I 0] 43)):=W.alloc W.size _;have o:=H (show((w.alloc (.cells #[I cf.mix,I cf.fifo,I cf.large,I cf.bud,U cf.key,.slice da cf.ds.length dc] 30)).alloc (.cells #[.bool false,C,I 0,C,C,C,C,C,C,I 0] 43)).heap[w.heap.size+1]?=some (.cells #[.bool false,C,I 0,C,C,C,C,C,C,I 0] 43) by rw[<-aO w (.cells #[I cf.mix,I cf.fifo,I cf.large,I cf.bud,U cf.key,.slice da cf.ds.length dc] 30)];exact ao _ _);have f:=H (ae (ao w (.cells #[I cf.mix,I cf.fifo,I cf.large,I cf.bud,U cf.key,.slice da cf.ds.length dc] 30)) ((Fu _ _).alloc (Fv _) (.cells #[.bool false,C,I 0,C,C,C,C,C,C,I 0] 43)));have p:=H (OR (cf.mix:Nat) (cf.fifo:Nat) (cf.large:Nat) (cf.bud:Nat) cf.key da cf.ds.length dc _ (m.ofBelow n));rw[G8 i]at p;have r:=H n;have s:=H (λV(hV:Below w.heap.size w V)=>rV cf da dc V c (m.ofBelow hV) (x.below hV) (λa ha=>FG (g a ha) hV.size) (FG h0 hV.size));unfold gZ at s;have b:=H (show∀V:World,V.heap[w.heap.size]?=some (.cells #[I cf.mix,I cf.fifo,I cf.large,I cf.bud,U cf.key,.slice da cf.ds.length dc] 30)->∀j u,(#[I cf.mix,I cf.fifo,I cf.large,I cf.bud,U cf.key,.slice da cf.ds.length dc]:Array Value)[j]?=some u->V.cell? (Qz w.heap.size j)=some u from λV hV j u a=>by rw[GT _ _ _ _ _ _ hV];exact a);have u0:=b.out _ f 0 _ rfl;have u1:=b.out _ f 1 _ rfl;have u2:=b.out _ f 2 _ rfl;have u3:=b.out _ f 3 _ rfl;have u4:=b.out _ f 4 _ rfl;have u5:=b.out _ f 5 _ rfl;have HO:=H z;have HI:=H F;have HT:=H t;have a5:=H (IT c l1);have⟨N,e⟩:=Qa ops.length;rw[e];rw[e]at hN;have HN:=H e;clear W n m i x g z F t c l1 e;go_enter func34,ntmps34;go_wp2_with fail;generalize (w.alloc _).alloc _=z at*;have⟨X,x⟩:=Qa (w.heap.size+1);rw[x]at o⊢;refine(p).mono ?_;rintro e V⟨rfl,c⟩;have m:=H (ae o c);have g:=H (ae f c);have j:=H (r.trans (c.mono r.size));have a9:¬((300:Int)<(N:Int)):=Z;clear o f r p c u0 u1 u2 u3 u4 u5;have u0:=b.out _ g 0 _ rfl;have u1:=b.out _ g 1 _ rfl;have u2:=b.out _ g 2 _ rfl;have u3:=b.out _ g 3 _ rfl;have u4:=b.out _ g 4 _ rfl;have u5:=b.out _ g 5 _ rfl;go_wp2_with fail;refine(s _ j).mono ?_;rintro e V2⟨y,rfl,n,t,M,c⟩;have f:=ag m;have X7:=H (ae m c);have⟨B,i⟩:=Qa V.heap.size;rw[i]at t c f;have HB:=H (show w.heap.size<=B by rw[<-i];exact j.size);have R0:=H (Rst.first ops t M a5.1 a5.2 (j.trans (c.mono HB)));have a6:=H (show w.heap.size<=X/\X<B from⟨Z,f⟩);have⟨P,o⟩:=Qa y.P;rw[o];have HP:=H o;clear t M c i f x o m g j s u0 u1 u2 u3 u4 u5 b z n;go_wp2;go_loopw [21] (λi wr=>∃(k:Nat)(l:List Aw)(v:Value),k<=N/\i=I k/\Hid (Rst B y cf w ops k l v wr)/\Hid (wr.heap[X]?=some (.cells #[.bool false,C,I 0,C,C,C,C,C,C,I 0] 43))) (λi _=>N-(intOf i).toNat);case atStart=>exact⟨0,[],_,Z,rfl,R0,X7⟩
 case round=>
  clear R0 X7;obtain⟨k,l,v,hk,rfl,x,HX⟩:=hrel;by_cases a8:k<N
  ·obtain⟨q,n⟩:∃q,ops[k]?=some q:=⟨_,Fy (by rw[HN];exact a8)⟩;obtain⟨G,rfl,o,b⟩:=HO.at_ k q n;have c:=x.bel;have u0:wr.cell? (Qz G (k*6))=some (I q.o.kd):=cR c (b 0 _ rfl);have u1:=cR c (b 1 _ rfl);have u2:=cR c (b 2 _ rfl);have u3:=cR c (b 3 _ rfl);have u4:=cR c (b 4 _ rfl);have u5:=cR c (b 5 _ rfl);have⟨r9,g⟩:=x.call9 HO HI HB (by rw[HN];exact hN) n;have g:=H g;obtain⟨z,F,K,rfl⟩:=aA x.ra.row;have W:Below wr.heap.size wr (wr.alloc (.cells #[I q.o.kd,I q.o.ref,U q.o.p,U q.o.a,U q.o.b,.slice q.d q.o.ys.length q.dc] 48)):=(Fu _ _).alloc (Fv _) _;have j:=H (ao wr (.cells #[I q.o.kd,I q.o.ref,U q.o.p,U q.o.a,U q.o.b,.slice q.d q.o.ys.length q.dc] 48));have f:=H (show Below wr.heap.size wr ((wr.alloc (.cells #[I q.o.kd,I q.o.ref,U q.o.p,U q.o.a,U q.o.b,.slice q.d q.o.ys.length q.dc] 48)).drew)from W.trans ((Fu _ _).drew.mono W.size));have m:((wr.alloc (.cells #[I q.o.kd,I q.o.ref,U q.o.p,U q.o.a,U q.o.b,.slice q.d q.o.ys.length q.dc] 48)).drew).cell? (Qz P 119)=some (.slice z F K):=by
    have⟨d,t,M⟩:=x.hg;rw[<-HP.out];exact(t.below f).cell 119 Z _ M.an
   have O:=H (ae HX f);clear b c n o;(go_upto_region 7 with fail);generalize wr.alloc _=V at j f m O⊢;have⟨Y,b⟩:=Qa wr.heap.size;rw[b]at j⊢;clear u0 u1 u2 u3 u4 u5 HX;have a0:=H (g _ f);clear b g x W f;refine rh (S:=Cq Y q) ?_;have HY:=H (show V.drew.heap[Y]?=some (.cells #[I q.o.kd,I q.o.ref,U q.o.p,U q.o.a,U q.o.b,.slice q.d q.o.ys.length q.dc] 48)from j);generalize L:V.drew=V1 at a0 HY m O;have n:({heap:=V.heap,tape:=V.tape,drawn:=V.drawn+1,os:=V.os,output:=V.output}:World)=V1:=L;rw[n];clear L n j;have s:=HP.out;have f:=Cq.of HY;(iterate 4 (refine py f ?_;simp only[f0,f1,Nat.reduceAdd,lz,l0,ls]));refine pk 5 (J P 0) f ?_;refine pz 6 (.agg #[I q.o.kd,I q.o.ref,U q.o.p,U q.o.a,U q.o.b,.slice q.d q.o.ys.length q.dc]) f ?_;refine lZ [4,7] λi9 c=>?_;rcases(by simpa using c:i9=4\/i9=7)with c|c
   ·subst c;refine cw λK' b=>?_;go_simp;refine b _ _ ⟨f,?_⟩;clear b K';refine po 7 λK' b=>?_
    go_simp;rw[<-s];refine(a0).mono ?_;rintro e T⟨a1,n1,c1,rfl,cU,Q,a2,n2,c2,U2,r,cA,a3,a4,j,l2,hR⟩;rw[s]at cU cA a3 a4 hR j;have g:=Cq.of (Q _ _ _ _ (.inl rfl) HY);have p:=H (j _ _ _ _ (.inl rfl) (Q _ _ _ _ (.inl rfl) HY));have o:=H ((j _ _ _ _ (.inr rfl) (Q _ _ _ _ (.inr rfl) O)).2.2);have R:=H hR;refine b _ _ ⟨g,?_⟩;clear f Q j hR;have f:=g;clear g;clear b K';refine po 8 λK' b=>?_;go_simp;refine b _ _ ⟨Cq.of p.1,?_⟩;clear f;have f:=Cq.of p.1;clear b K';refine po 9 λK' b=>?_
    refine aV 35 (.tmp 29) (.tmp 33) (v:=.slice z F K) (v2:=Vl T.heap.size 1 1) E E E E r ?_;refine b _ _ ⟨Cq.of p.2.1,?_⟩;clear f;have f:=Cq.of p.2.1;clear b K';refine pk 10 (J P 0) f ?_;refine pk 11 (J P 119) f ?_;refine po 12 λK' b=>?_;go_simp;refine b _ _ ⟨Cq.of p.2.2,?_⟩;clear f;clear b K';refine bY ?_;go_wp2;go_roundw
    (case rel=>exact⟨k+1,l2,_,Z,aY,R,o⟩);case measure=>exact QE
   subst c;refine cw λK' b=>?_;go_simp;rw[<-s];refine(a0).mono ?_;rintro e T⟨a1,n1,c1,rfl,cU,Q,a2,n2,c2,U2,r,cA,a3,a4,j,l2,hR⟩;rw[s]at cU cA a3 a4 hR j;have g:=Cq.of (Q _ _ _ _ (.inl rfl) HY);have p:=H (j _ _ _ _ (.inl rfl) (Q _ _ _ _ (.inl rfl) HY));have o:=H ((j _ _ _ _ (.inr rfl) (Q _ _ _ _ (.inr rfl) O)).2.2);have R:=H hR;refine b _ _ ⟨g,?_⟩;clear f Q j hR;have f:=g;clear g;clear b K';refine lZ [4,8] λi9 c=>?_
   rcases(by simpa using c:i9=4\/i9=8)with c|c
   ·subst c;refine cw λK' b=>?_;go_simp;refine b _ _ ⟨f,?_⟩;clear b K';refine po 8 λK' b=>?_
    go_simp;refine b _ _ ⟨Cq.of p.1,?_⟩;clear f;have f:=Cq.of p.1;clear b K';refine po 9 λK' b=>?_;refine aV 35 (.tmp 29) (.tmp 33) (v:=.slice z F K) (v2:=Vl T.heap.size 1 1) E E E E r ?_;refine b _ _ ⟨Cq.of p.2.1,?_⟩;clear f;have f:=Cq.of p.2.1;clear b K';refine pk 10 (J P 0) f ?_;refine pk 11 (J P 119) f ?_;refine po 12 λK' b=>?_
    go_simp;refine b _ _ ⟨Cq.of p.2.2,?_⟩;clear f;clear b K';refine bY ?_;go_wp2;go_roundw;(case rel=>exact⟨k+1,l2,_,Z,aY,R,o⟩);case measure=>exact QE
   subst c;refine cw λK' b=>?_;go_simp;refine b _ _ ⟨Cq.of p.1,?_⟩;clear f;have f:=Cq.of p.1;clear b K';refine po 4 λK' b=>?_
   go_simp;refine b _ _ ⟨f,?_⟩;clear b K';refine po 9 λK' b=>?_;refine aV 35 (.tmp 29) (.tmp 33) (v:=.slice z F K) (v2:=Vl T.heap.size 1 1) E E E E r ?_;refine b _ _ ⟨Cq.of p.2.1,?_⟩;clear f;have f:=Cq.of p.2.1;clear b K';refine pk 10 (J P 0) f ?_;refine pk 11 (J P 119) f ?_;refine po 12 λK' b=>?_
   go_simp;refine b _ _ ⟨Cq.of p.2.2,?_⟩;clear f;clear b K';refine bY ?_;go_wp2;go_roundw;(case rel=>exact⟨k+1,l2,_,Z,aY,R,o⟩);case measure=>exact QE
  obtain rfl:k=N:=Z;obtain⟨z,F,K,rfl⟩:=aA x.ra.row;have p:ops.take k=ops:=Ge (by rw[HN];exact Fv _);have⟨d,t,M⟩:=x.hg;have O:=x.ok;have j:Below wr.heap.size wr wr.drew:=(Fu _ _).drew;have TD:=H (HT B y d cf _ k _ _ (t.below j) M O);rw[p]at TD;have m:wr.drew.cell? (Qz P 119)=some (.slice z F K):=by
   rw[<-HP.out];exact(t.below j).cell 119 Z _ M.an
  have r:=H (ae HX j);have G:=H (show P<wr.drew.heap.size by rw[<-HP.out];exact(t.below j).box.lt);have a0:P≠X:=λe=>by
   have⟨c,h1,_⟩:=t.box;have h2:=HX.out;rw[<-e,<-HP.out,h1]at h2;cases h2
  have RD:=H (show Rst B y cf w ops k l (.slice z F K) wr.drew from⟨⟨d,t.below j,M⟩,O,x.ls,x.ra.below j,x.bel.drew⟩);clear t M O j HX x p;go_upto_region 9 with fail
  refine rh (S:=λa=>a.cell? (Qz P 119)=some (.slice z F K)) ?_;generalize L:wr.drew=V1 at TD m r RD G;have n:({heap:=wr.heap,tape:=wr.tape,drawn:=wr.drawn+1,os:=wr.os,output:=wr.output}:World)=V1:=L;rw[n];clear L n;have s:=HP.out;have f:=m;iterate 5 (refine py f ?_;simp only[f0,f1,Nat.reduceAdd,lz,l0,ls])
  refine po 5 λK' b=>?_;go_simp;rw[<-s];refine(TD).mono ?_;rintro e T⟨x,O,Q,R,Y,m5,m6,m7,rfl,c,ht,j⟩;have g:=NI j f;refine b _ _ ⟨g,?_⟩;clear f;have f:=g;have p:=H c;have HF:=H (IT ht j);have o:=H (ae r j);have a3:=H (FG G j.size);clear g c ht j;clear b K';refine py f ?_;simp only[f0,f1,Nat.reduceAdd,lz,l0,ls];refine po 7 λK' b=>?_
  refine Ih 43 (.tmp 4) (.tmp 44) E X #[.bool true,.slice z F K,x,O,Q,R,Y,m5,m6,m7] E E 43 _ o E rfl ?hone9 ?_;case hone9=>exact all_oneCell_toArray (λv hv=>by rcases F4.1 hv with rfl|hv;rfl;rcases F4.1 hv with rfl|hv;rfl;exact p v hv)
  have c:(T.setRow X #[.bool true,.slice z F K,x,O,Q,R,Y,m5,m6,m7]).cell? (Qz P 119)=some (.slice z F K):=by unfold World.cell? at f⊢;rw[(aj T X #[.bool true,.slice z F K,x,O,Q,R,Y,m5,m6,m7]).block P a3 (by simpa using a0)];exact f
  refine b _ _ ⟨c,?_⟩;clear f c b K';refine bY ?_;go_wp2_with fail;refine fM (aw o _) underlying43 ?_;exact⟨B,y,l,_,x,O,Q,R,Y,m5,m6,m7,V1,T,X,rfl,HB,by rw[HN];exact RD,HF.1,HF.2,o,rfl,a6.1,a6.2⟩
end
section
variable {B P Q T c dc j n s:Nat}{cf:Cf}{V W:World}{da:Option Addr}{l:List (Nat×Nat×Nat)}{ws:List (Option Addr×Nat×Nat)}{sv:Value}
def I3(h:Hs)(c s j:Nat):List (Nat×Nat×Nat):=((List.range j).filter λk=>decide (h.st c s k≠0)).map λk=>(c,s,k)
def I2(h:Hs)(c s:Nat):List (Nat×Nat×Nat):=(List.range s).flatMap λe=>I3 h c e (aM c)
def I1(h:Hs)(c:Nat):List (Nat×Nat×Nat):=(List.range c).flatMap λc'=>I2 h c' 6
def yx(h:Hs)(x:Nat×Nat×Nat):List Value:=[I x.1,I x.2.1,I x.2.2,I (h.st x.1 x.2.1 x.2.2),I (h.rq x.1 x.2.1 x.2.2)]
def fP(h:Hs)(l:List (Nat×Nat×Nat)):List Value:=l.flatMap (yx h)
theorem so(h)(l:List (Nat×Nat×Nat))(x:Nat×Nat×Nat):fP h (l++[x])=fP h l++yx h x:=by simp[fP]
theorem BH(h:Hs)(c s j:Nat)(a:h.st c s j≠0):I3 h c s (j+1)=I3 h c s j++[(c,s,j)]:=by
 unfold I3;rw[Gs,Hl,Hr];simp[a]
theorem DV(h:Hs)(c s j:Nat)(a:h.st c s j=0):I3 h c s (j+1)=I3 h c s j:=by
 unfold I3;rw[Gs,Hl,Hr];simp[a]
theorem yL(h c s):I3 h c s 0=[]:=rfl
theorem xz(h c s j):(I3 h c s j).length<=j:=by
 unfold I3;rw[Gz];have:=Hb (λk=>decide (h.st c s k≠0)) (List.range j);simpa using this
theorem OO(h c)(s:Nat):I2 h c (s+1)=I2 h c s++I3 h c s (aM c):=by
 unfold I2;rw[Gs,Gu];simp
theorem ua(h)(c:Nat):I1 h (c+1)=I1 h c++I2 h c 6:=by
 unfold I1;rw[Gs,Gu];simp
theorem x_(h)(c:Nat)(s)(a:c<12):(I2 h c s).length<=s*64:=by
 induction s with
 |zero=>simp[I2]
 |succ s b=>
  rw[OO,FC];have d:=xz h c s (aM c);have e:=aX a;omega
theorem Cr(h)(c:Nat)(b:c<=12):(I1 h c).length<=c*384:=by
 induction c with
 |zero=>simp[I1]
 |succ c a=>
  rw[ua,FC];have d:=x_ h c 6 Z;have e:=a Z;omega
theorem zy:(prog.info? 111).map (λi=>(i.zero,i.size,i.bytes))=some (some (.agg #[I 0,I 0,I 0,I 0,I 0]),5,40):=E
theorem xE(W:QM)(B:Nat)(v:QN)(h)(l:List (Nat×Nat×Nat))(x)(g:Nat)(c)(a:W.ownsRow B 111 5 v l.length (fP h l))(o:W.heap[g]?=some (.cells (yx h x).toArray 111))(y:l.length<=100000)(p:B<=W.heap.size):
  ∃d b,QI 36 v (Vl g 1 c) W d b/\b.ownsRow B 111 5 d (l++[x]).length (fP h (l++[x]))/\W.grownBy b v.ownBlock:=by
 have⟨q,e,f,i,k⟩:=G0 zy;have m:∀j u,(yx h x)[j]?=some u->W.cell? (((Qz g 0):Addr).add j)=some u:=λj u r=>by
  rw[Addr.add_mid,Oi,GT _ _ j _ _ _ o];simpa using r
 have s:∀u∈yx h x,u.oneCell'=true:=λu n=>by
  simp only[yx,F4,Gp,or_false]at n;rcases n with rfl|rfl|rfl|rfl|rfl<;>rfl
 have⟨d,b,e1,t,w,_⟩:=Ia (P:=prog) W B 36 36 111 q _ 5 40 underlying36 e f i k rfl Z v _ _ a (Qz g 0) 1 c (yx h x) rfl m s (by unfold maxLen;omega) Z p;exact⟨d,b,e1,by rw[so,FC];exact t,w⟩
def lN(y:Ly):List Value:=(List.range 72).map λi=>J (y.sb (i/6) (i%6)) 0
theorem Hp.range72{y d h}(a:Hp B y d cf h W):W.rangeAt y.P 7 (lN y):=by
 intro j v hv;have b:j<72:=by have:=(Fz.1 hv).1;simpa[lN]using this
 rw[a.cell (7+j) Z _ rfl];unfold boxF;rw[GO Z,GP Z,show 7+j-7=j by omega];rw[<-hv];simp[lN,b]
theorem EL(y)(k:Nat)(a:k<12)(w:QM):(Instr.index 144 (.agg (lN y).toArray) (I k)).run prog w=.ok (.agg (kv y k).toArray) w:=by
 rcases(show k=0\/k=1\/k=2\/k=3\/k=4\/k=5\/k=6\/k=7\/k=8\/k=9\/k=10\/k=11 by omega)with rfl|rfl|rfl|rfl|rfl|rfl|rfl|rfl|rfl|rfl|rfl|rfl<;>kernel_rfl
theorem EW(y c)(k:Nat)(a:k<6)(w:QM):(Instr.index 143 (.agg (kv y c).toArray) (I k)).run prog w=.ok (J (y.sb c k) 0) w:=by
 rcases(show k=0\/k=1\/k=2\/k=3\/k=4\/k=5 by omega)with rfl|rfl|rfl|rfl|rfl|rfl<;>kernel_rfl
structure Sv(b g:Nat)(s j:Nat)(st rq:Int)(V:QM):Prop where
 c0:V.cell? (Qz b 1)=some (I s)
 c1:V.cell? (Qz g 3)=some (I j)
 c2:V.cell? (Qz g 0)=some (I st)
 c3:V.cell? (Qz g 1)=some (I rq)
theorem Sv.at{b g:Nat}{st rq on r cap}(d:V.heap[b]?=some (.cells (CZ c s on r n cap) 267))(a:V.heap[g]?=some (.cells (Oe st rq b j) 272)):Sv b g s j st rq V:=
 ⟨bJ d,bJ a,bJ a,bJ a⟩
theorem Sv.below{b g st rq V'}(h:Sv b g s j st rq V)(k:D V V'):Sv b g s j st rq V':=⟨NI k h.c0,NI k h.c1,NI k h.c2,NI k h.c3⟩
theorem pD(B y d cf h W)(u:Hp B y d cf h W):
  QA 108 #[J y.P 0] W λe W'=>∃v,e=QJ v/\W'.ownsRow W.heap.size 111 5 v (I1 h 12).length (fP h (I1 h 12))/\D W W':=by
 have⟨b,x,z⟩:=Qe u.range72 (λk T w=>EL y k T w) (λc k T w=>EW y c k T w);unfold kv at x z;have⟨o,SN⟩:=y7 (λV(A:D W V)=>u.below A) (λc(hc:c<12)=>(aX hc));go_enter func108,ntmps108;go_wp2_with (refine wpList_load_mid rfl 144 _ rfl _ _ rfl _ _ b underlying144 rfl E ?_);generalize a:(lN y).toArray=a5 at*;go_loopw [3,14] (λv i wr=>∃c:Nat,c<=12/\i=I c/\Hid (wr.ownsRow W.heap.size 111 5 v (I1 h c).length (fP h (I1 h c)))/\Hid (D W wr)) (λ_ i _=>12-(intOf i).toNat);case atStart=>exact⟨0,Z,rfl,H ⟨rfl,.inl ⟨rfl,rfl⟩⟩,H (Fu _ _)⟩
 case round=>
  obtain⟨c,hc,rfl,f,b⟩:=hrel;obtain⟨N,O,P,rfl⟩:=aA f;by_cases g:c<12
  ·have a6:(c:Int)<12:=Z;have X:=λw=>x.out c g w
   have q:D wr (wr.alloc (.cells #[J (y.sb c 0) 0,J (y.sb c 1) 0,J (y.sb c 2) 0,J (y.sb c 3) 0,J (y.sb c 4) 0,J (y.sb c 5) 0] 143)):=(Fu _ _).alloc (Fv _) _;have⟨Y,B1⟩:=y7 (ax f q) (b.trans (q.mono b.size));have a0:=SN.out c g;have a7:=Cr h c Z;go_wp2_with fail;generalize wr.alloc _=V1 at Y B1⊢;go_loopw [3,19] (λv i wr=>∃s:Nat,s<=6/\i=I s/\Hid (wr.ownsRow W.heap.size 111 5 v (I1 h c++I2 h c s).length (fP h (I1 h c++I2 h c s)))/\Hid (D W wr)) (λ_ i _=>6-(intOf i).toNat);(case atStart=>exact⟨0,Z,rfl,H (by rw[show I2 h c 0=[]from rfl,Gl];exact Y),B1⟩);case round=>
    obtain⟨s,hs,rfl,f,b⟩:=hrel;obtain⟨N,O,P,rfl⟩:=aA f;by_cases l:s<6
    ·have a8:(s:Int)<6:=Z;have a1:=λw=>z.out c s l w
     have d3:=(o wr b).bc c s g l |>.d3
     have a9:=x_ h c s g;have⟨HR,HY,HN,HL⟩:=Qf (λV(A:D W V)j(t:j<aM c)=>IT ((o V A).rowAt c s j g l t) (Sv.at ((o V A).sl c s g l) ((o V A).sm c s j g l t))) (λj(t:h.st c s j≠0)=>BH h c s j t) (λj(t:h.st c s j=0)=>DV h c s j t) (λj=>xz h c s j);have⟨n,hn⟩:=Qa (aM c);have a2:=H hn;rw[hn]at d3 HR a0;generalize y.sr c s=r at*;generalize y.sc c s=a3 at*;go_wp2_with fail;go_loopw [3,27] (λv i wr=>∃j:Nat,j<=n/\i=I j/\Hid (wr.ownsRow W.heap.size 111 5 v (I1 h c++I2 h c s++I3 h c s j).length (fP h (I1 h c++I2 h c s++I3 h c s j)))/\Hid (D W wr)) (λ_ i _=>n-(intOf i).toNat);(case atStart=>exact⟨0,Z,rfl,H (by rw[yL,Gl];exact f),b⟩);case round=>
      obtain⟨j,t,rfl,f,b⟩:=hrel;obtain⟨N,O,P,rfl⟩:=aA f;by_cases F:j<n
      ·have⟨r0,sv⟩:=HR.out wr b j F;have G:=sv.c2;have K:(I1 h c++I2 h c s++I3 h c s j).length<=100000:=by
        rw[FC,FC];have:=HL.out j;omega
       by_cases L:h.st c s j=0
       ·have a:=H (HN j L);rw[L]at G;go_wp2;go_roundw;(case rel=>exact⟨j+1,Z,aY,H (by rw[a];exact f),b⟩);case measure=>exact QE
       have EY:=H (HY j L);have b0:(h.st c s j==0)=false:=(by simpa using L);have a4:(h.st c s j !=0)=true:=(by simpa using L);have SD:=H (sv.below (Fu _ wr).drew);have M:D wr wr.drew:=(Fu _ _).drew;have q:Below wr.drew.heap.size wr.drew (wr.drew.alloc (.cells (yx h (c,s,j)).toArray 111)):=(Fu _ _).alloc (Fv _) _;have Q:=H ((b.trans (M.mono b.size)).trans (q.mono (Fx b.size M.size)));have⟨v',a,m,o9,g9⟩:=xE _ W.heap.size (.slice N O P) h (I1 h c++I2 h c s++I3 h c s j) (c,s,j) wr.drew.heap.size 1 (ax (ax f M) q) (ao wr.drew _) K Q.size;obtain⟨wa,wb,wc,rfl⟩:=aA o9;have BU:=H (Q.grown g9 Q.size (λp u=>(aF (ax (ax f M) q) u).1));have⟨R,SU,O9⟩:=Qe (SD.below q) (show Sv (y.sb c s) (y.sm c s j) s j (h.st c s j) (h.rq c s j) a from(HR a BU j F).2) o9;unfold yx at m R;(go_upto_region 12 with fail);refine rh (S:=Sv (y.sb c s) (y.sm c s j) s j (h.st c s j) (h.rq c s j)) ?_;generalize M:wr.drew=V1 at SD R m;have p:({heap:=wr.heap,tape:=wr.tape,drawn:=wr.drawn+1,os:=wr.os,output:=wr.output}:QM)=V1:=M;rw[p];have p:=SD.out;(iterate 21 (refine py p ?_;simp only[f0,f1,Nat.reduceAdd,lz,l0,ls]));refine po 21 λK' G=>?_;go_simp;refine G _ _ ⟨R,?_⟩;have p:=R.out;refine po 22 λK' G=>?_
       refine aV 36 (.tmp 37) (.tmp 58) (v:=.slice N O P) (v2:=Vl V1.heap.size 1 1) E E E E m ?_;refine G _ _ ⟨SU,?_⟩;have p:=SU.out;refine py p ?_;simp only[f0,f1,Nat.reduceAdd,lz,l0,ls];refine bY ?_;go_wp2;go_roundw;(case rel=>exact⟨j+1,Z,aY,H (by rw[EY,<-GJ];exact O9),BU⟩);case measure=>exact QE
      obtain rfl:j=n:=Z;go_wp2;go_roundw;(case rel=>exact⟨s+1,Z,aY,H (by rw[OO,a2,<-GJ];exact f),b⟩);case measure=>exact QE
    obtain rfl:s=6:=Z;go_wp2;go_roundw;(case rel=>exact⟨c+1,Z,aY,H (by rw[ua];exact f),b⟩);case measure=>exact QE
  obtain rfl:c=12:=Z;go_wp2;go_ret;exact⟨_,rfl,f,b⟩
def C7(cf:Cf)(da:Option Addr)(dc T:Nat)(sv wv:Value):Array Value:=#[I cf.mix,I cf.fifo,I cf.large,I cf.bud,U cf.key,.slice da cf.ds.length dc,J T 0,sv,wv,C,C,C,I 0]
structure Nw(B:Nat)(cf:Cf)(da:Option Addr)(dc P T Q:Nat)(l:List (Nat×Nat×Nat))(ws:List (Option Addr×Nat×Nat))(sv wv:QN)(W:QM):Prop where
 box:W.heap[P]?=some (.cells (C7 cf da dc T sv wv) 106)
 bp:B<=P
 bq:B<=Q
 ds:Sl W da cf.ds
 sp:Sx T Q 283 (cf.bud:Nat) (λ_=>none) W
 sl:W.ownsRow B 109 6 sv l.length (l.flatMap yI)
 wt:W.ownsRow B 113 3 wv ws.length (ws.flatMap (rU cf.fifo))
 wm:∀p∈ws,Wq W (.slice p.1 p.2.1 p.2.2) (List.replicate cf.mix (-1))
theorem Nw.below{B cf da dc P T Q l ws sv wv W W'}(h:Nw B cf da dc P T Q l ws sv wv W)(a:D W W'):Nw B cf da dc P T Q l ws sv wv W':=by
 have k:Ky (λ_=>False) W W':=Ky.below a;exact⟨k.cells _ _ _ _ h.box (λe=>e),h.bp,h.bq,h.ds.ky k (λe=>e),h.sp.below a,ai h.sl k (λe=>e),ai h.wt k (λe=>e),λp b=>(h.wm p b).ky k (λe=>e)⟩
theorem Nw.cell{B cf da dc P T Q l ws sv wv W}(h:Nw B cf da dc P T Q l ws sv wv W)(i:Nat)(v:QN)(hv:(C7 cf da dc T sv wv)[i]?=some v):W.cell? (Qz P i)=some v:=by
 simp[QC,h.box,hv]
theorem Nw.addS{wv}(h:Nw B cf da dc P T Q l ws sv wv V)(k:B<=V.heap.size)(t)(o:l.length<=2000):
  ∃b a,QI 103 sv (Vl V.heap.size 1 1) (V.alloc (.cells (yI t).toArray 109)) b a/\a.cell? (Qz P 7)=some sv/\a.frozen? (Qz P 7)=false/\Nw B cf da dc P T Q (l++[t]) ws b wv (a.setCell (Qz P 7) b)/\Below B V (a.setCell (Qz P 7) b):=by
 have i:D V (V.alloc (.cells (yI t).toArray 109)):=(Fu _ _).alloc (Fv _) _;have d:=h.below i;have m:=Fx k i.size;have⟨b,a,q,r,n⟩:=BL _ B sv l t V.heap.size 1 d.sl (ao V _) o m;have e:Ky (· =109) _ a:=Ky.grownO (λP j=>by obtain⟨_,c,f⟩:=aF d.sl j;exact⟨c,109,_,f,rfl⟩) n;have g:=e.cells _ _ _ _ d.box ar;have f:Ky (· =106) a (a.setCell (Qz P 7) b):=Ky.grown g rfl (au (al a P) 7 b);refine⟨b,a,q,by simp[QC,g,C7],by simp[QD,g],⟨?_,h.bp,h.bq,(d.ds.ky e ar).ky f ar,(d.sp.ky e ar ar ar).ky f ar ar ar,ai r f ar,ai (ai d.wt e ar) f ar,λp s=>((d.wm p s).ky e ar).ky f ar⟩,?_⟩;·simp[World.setCell,FD,g,C7]
 exact((i.mono k).trans ((Fu B _).grown n m (λP j=>(aF d.sl j).1))).setCell h.bp _
theorem Nw.addW{wv}(h:Nw B cf da dc P T Q l ws sv wv V)(m:B<=V.heap.size)(t:QP×Nat×Nat)(r:Wq V (.slice t.1 t.2.1 t.2.2) (List.replicate cf.mix (-1)))(s:ws.length<=2000):
  ∃b a,QI 37 wv (Vl V.heap.size 1 1) (V.alloc (.cells (rU cf.fifo t).toArray 113)) b a/\a.cell? (Qz P 8)=some wv/\a.frozen? (Qz P 8)=false/\Nw B cf da dc P T Q l (ws++[t]) sv b (a.setCell (Qz P 8) b)/\Below B V (a.setCell (Qz P 8) b)/\Below B V a:=by
 have i:D V (V.alloc (.cells (rU cf.fifo t).toArray 113)):=(Fu _ _).alloc (Fv _) _;have u:Ky (λ_=>False) V (V.alloc (.cells (rU cf.fifo t).toArray 113)):=Ky.below i;have d:=h.below i;have n:=Fx m i.size;have⟨b,a,v,w,o⟩:=By _ B wv cf.fifo ws t V.heap.size 1 d.wt (ao V _) s n;have f:Ky (· =113) _ a:=Ky.grownO (λP k=>by obtain⟨_,c,e⟩:=aF d.wt k;exact⟨c,113,_,e,rfl⟩) o;have j:=f.cells _ _ _ _ d.box ar;have q:=(i.mono m).trans ((Fu B _).grown o n (λP k=>(aF d.wt k).1));have g:Ky (· =106) a (a.setCell (Qz P 8) b):=Ky.grown j rfl (au (al a P) 8 b);refine⟨b,a,v,by simp[QC,j,C7],by simp[QD,j],⟨?_,h.bp,h.bq,(d.ds.ky f ar).ky g ar,(d.sp.ky f ar ar ar).ky g ar ar ar,ai (ai d.sl f ar) g ar,ai w g ar,λp e=>?_⟩,q.setCell h.bp _,q⟩;·simp[World.setCell,FD,j,C7]
 rcases F8.1 e with e|e;·exact((d.wm p e).ky f ar).ky g ar
 simp at e;subst e;exact((r.ky u (λe=>e)).ky f ar).ky g ar
theorem Nw.made{wv}(h:Nw B cf da dc P T Q dF ws sv wv W)(m:ws.length=12)(k:∀g,¬e_ Q W g):∃x:Sm,x.P=P/\l_ x/\Sh B x cf (aP cf) W:=by
 have d:dF.length=1062:=by decide +kernel
 obtain⟨q,n,rfl⟩:=aK h.sl;obtain⟨G,rfl⟩:=cr h.sl Z;have f:=h.sl;have j:=h.box;rw[d]at f j
 let a:Nat->QP×Nat×Nat:=λc=>(ws[c]?).getD (none,0,0)
 refine⟨⟨P,T,Q,G,n,da,dc,wv,C,C,C,λc=>.slice (a c).1 (a c).2.1 (a c).2.2,λ_=>C⟩,rfl,λg l=>by simp[Value.ownBlock]at l,⟨j,h.bp,h.bq,λg l=>absurd l (k g),h.ds,h.sp,f,?_,λc r=>⟨?_,⟨none,0,rfl,λ_=>rfl,?_⟩⟩,⟨rfl,.inl ⟨rfl,rfl⟩⟩,⟨rfl,.inl ⟨rfl,rfl⟩⟩,⟨rfl,.inl ⟨rfl,rfl⟩⟩⟩⟩
 ·have b:=h.wt;rw[m]at b;have e:ws=(List.range 12).map a:=by
   apply Ho;intro i;by_cases o:i<12
   ·rw[Gv,List.getElem?_range o];have:i<ws.length:=Z;simp[a,Fy this]
   rw[FJ Z,FJ bG]
  have p:ws.flatMap (rU cf.fifo)=(List.range 12).flatMap λc=>[.slice (a c).1 (a c).2.1 (a c).2.2,C,I cf.fifo]:=by
   conv=>lhs;rw[e]
   rw[List.flatMap_map];rfl
  rw[p]at b;exact b
 ·have b:a c∈ws:=by
   have:c<ws.length:=Z;simp only[a,Fy this,Ht];exact Iw this
  exact h.wm _ b
 exact .inl ⟨rfl,rfl⟩
theorem Ow.wq{a zs}(h:Ow W B a c zs):Wq W (.slice a zs.length c) zs:=by
 refine⟨a,c,rfl,?_,?_⟩
 ·rcases h.2 with⟨e,j⟩|⟨g,d,b,e,_⟩;·simp at e;intro _;exact e.2.2
  simp at e;intro f;rw[f]at e;simp at e
 rcases h.2 with⟨e,j⟩|⟨g,d,b,e,m,l,n,o,p,f⟩;·simp at e;exact .inl ⟨e.1,List.length_eq_zero_iff.1 j⟩
 simp at e;refine .inr ⟨g,e.1,b,l,?_,λi k=>?_⟩;·rw[<-f];simp;omega
 rw[<-f,Hf (by rw[<-f]at k;simp at k;omega),Gg]
theorem ly{b:Nat}{e:QO}{d:Nat}{v:QN}{f:List QN}(h:W.ownsRow b e d v n f):∃a n c,v=.slice a n c:=by
 have⟨a,c,h⟩:=aK h;exact⟨a,n,c,h⟩
theorem D5(a:c<12):(rs (c:Int)+(s:Int)*(pg (c:Int)+1))*1024+(j:Int)*sz (c:Int)=((bh c s j:Nat):Int):=by
 rw[OT a,pU a,uT a];unfold bh aD;simp
theorem Nw.mono{a:Nat}{wv}(h:Nw B cf da dc P T Q l ws sv wv W)(b:a<=B):Nw a cf da dc P T Q l ws sv wv W:=
 ⟨h.box,Fx b h.bp,Fx b h.bq,h.ds,h.sp,dm h.sl b,dm h.wt b,h.wm⟩
theorem Sx.noPg{bud}(h:Sx T Q n bud (λ_=>none) W)(g):¬e_ Q W g:=by
 rintro⟨k,hk⟩;have⟨c,b,e,d,_⟩:=h.row;simp only[QC,b]at hk;by_cases a:k<n;·have:=(d k a).2.2;simp at hk;rw[this]at hk;simp at hk
 simp at hk;have:=(Array.getElem?_eq_some_iff.1 hk).1;omega
theorem zP:DG:=by
 intro cf da dc W e b;unfold gZ;have d:Below W.heap.size W (W.alloc (Qm cf da dc)):=(Fu _ _).alloc (Fv _) _;have a:=ao W (Qm cf da dc);have⟨t,v,HD,i⟩:=Qf mA (λV=>Ce 283 (cf.bud:Nat) V Z) e b;go_enter func42,ntmps42;go_wp2_with fail;generalize W.alloc _=V at d a⊢;have⟨BW,M⟩:=y7 d d.size;have⟨Y,b⟩:=Qa W.heap.size;rw[b]at a⊢;have HY:=H b;have f:Hid (∀d,Below V.heap.size V d->QG d Y 0 (I cf.mix)/\QG d Y 1 (I cf.fifo)/\QG d Y 2 (I cf.large)/\QG d Y 3 (I cf.bud)/\QG d Y 4 (U cf.key)/\QG d Y 5 (.slice da cf.ds.length dc)):=(λd h=>
  ⟨NI h (by simp only[QC,a];rfl),NI h (by simp only[QC,a];rfl),NI h (by simp only[QC,a];rfl),NI h (by simp only[QC,a];rfl),NI h (by simp only[QC,a];rfl),NI h (by simp only[QC,a];rfl)⟩)
 refine wp_region_held (S:=λd=>QG d Y 0 (I cf.mix)/\QG d Y 1 (I cf.fifo)/\QG d Y 2 (I cf.large)/\QG d Y 3 (I cf.bud)/\QG d Y 4 (U cf.key)/\QG d Y 5 (.slice da cf.ds.length dc)) E ?_;simp only[FX,FN,F1,Nat.reduceAdd,FP,FO,FY,FV,F5];have a:=f.out _ (Fu _ _).drew;refine pf 0 (.agg #[I cf.mix,I cf.fifo,I cf.large,I cf.bud,U cf.key,.slice da cf.ds.length dc]) rfl a (λW a=>by obtain⟨y0,y1,y2,y3,y4,y5⟩:=a;first|(go_simp;done)|(go_simp;omega)) ?_;refine pf 2 (J Y 3) rfl a (λ_ _=>E) ?_;refine pf 3 (I cf.bud) rfl a (λW a=>by obtain⟨y0,y1,y2,y3,y4,y5⟩:=a;first|(go_simp;done)|(go_simp;omega)) ?_;refine gu 1 ?_;refine cw λK' b=>?_;go_simp
 refine(t _).mono ?_;rintro e k⟨rfl,g⟩;have u:Below V.heap.size V k:=⟨g.os,g.tape,g.output,g.size,g.block⟩;have y:=f.out _ u;refine b _ _ ⟨y,?_⟩;have a:=y;refine gu 4 ?_;refine cw λK' b=>?_;go_simp
 refine(v _).mono ?_;rintro e z⟨T,Q,rfl,w,n,hT,x⟩;have l:=az u n;have o:=f.out _ l;refine b _ _ ⟨o,?_⟩;have a:=o;refine pf 5 (.agg #[I cf.mix,I cf.fifo,I cf.large,I cf.bud,U cf.key,.slice da cf.ds.length dc,J T 0,C,C,C,C,C,I 0]) rfl a (λ_ _=>E) ?_;refine gu 6 ?_;refine cw λK' b=>?_;go_simp
 have m:Below z.heap.size z (z.alloc (.cells #[I cf.mix,I cf.fifo,I cf.large,I cf.bud,U cf.key,.slice da cf.ds.length dc,J T 0,C,C,C,C,C,I 0] 106)):=(Fu _ _).alloc (Fv _) _;have q:=f.out _ (az l m);refine b _ _ ⟨q,?_⟩;have a:=q;refine pf 7 (J z.heap.size 0) rfl a (λ_ _=>E) ?_;refine bY ?_;have K3:=H (az l m);have⟨P,A⟩:=Qa z.heap.size;have N0:=H (show Nw V.heap.size cf da dc z.heap.size T Q (dF.take (fQ 0)) [] C C (z.alloc (.cells #[I cf.mix,I cf.fifo,I cf.large,I cf.bud,U cf.key,.slice da cf.ds.length dc,J T 0,C,C,C,C,C,I 0] 106))from
  ⟨ao z _,(az u n).size,Fx u.size x,i.ky (Ky.below (BW.trans (K3.mono M)):Ky (λ_=>False) _ _) (λe=>e),w.below m,⟨rfl,.inl ⟨rfl,rfl⟩⟩,⟨rfl,.inl ⟨rfl,rfl⟩⟩,λp p=>by cases p⟩)
 rw[A]at N0⊢;have⟨r,LN⟩:=y7 (show∀d,Below V.heap.size V d->QG d Y 0 (I cf.mix)/\QG d Y 1 (I cf.fifo)from λd h=>⟨(f d h).1,(f d h).2.1⟩) (λV9=>xY cf.mix cf.fifo V9 HD.mix);unfold wv at LN;generalize z.alloc _=V3 at N0 K3⊢;go_wp2;go_loopw [4] (λi G=>∃c:Nat,c<=12/\i=I c/\∃(ws:List (Option Addr×Nat×Nat))(sv wv:QN),Hid (ws.length=c)/\Hid (Nw V.heap.size cf da dc P T Q (dF.take (fQ c)) ws sv wv G)/\Hid (Below V.heap.size V G)) (λi _=>12-(intOf i).toNat);case atStart=>exact⟨0,FH _,rfl,[],_,_,H rfl,N0,K3⟩
 case round=>
  obtain⟨c,hc,rfl,ws,sv,wv,l,N,O⟩:=hrel;by_cases m:c<12
  ·have⟨wa,wc,b8⟩:=aK N.wt;subst b8;have c8:wr.cell? (Qz P 8)=some (.slice wa ws.length wc):=N.cell 8 _ rfl;(go_upto_if 37 with fail);go_cut [4] (λn f=>n=I c/\∃(ws:List (Option Addr×Nat×Nat))(wv:QN),Hid (ws.length=c+1)/\Hid (Nw V.heap.size cf da dc P T Q (dF.take (fQ c)) ws sv wv f)/\Hid (Below V.heap.size V f));case first=>
    refine wp_region_held (S:=λd=>QG d Y 0 (I cf.mix)/\QG d Y 1 (I cf.fifo)) E ?_;simp only[FX,FN,F1,Nat.reduceAdd,FP,FO,FY,FV,F5];have a:=r.out _ O.drew;refine pf 0 (J P 0) rfl a (λ_ _=>E) ?_;refine pf 1 (J P 0) rfl a (λ_ _=>E) ?_;refine pf 2 (J P 0) rfl a (λ_ _=>E) ?_;refine pf 3 (J P 8) rfl a (λ_ _=>E) ?_;refine pf 5 (J Y 0) rfl a (λ_ _=>E) ?_;refine pf 6 (I cf.mix) rfl a (λW a=>by obtain⟨y0,y1⟩:=a;first|(go_simp;done)|(go_simp;omega)) ?_;refine pf 7 (J Y 1) rfl a (λ_ _=>E) ?_;refine pf 8 (I cf.fifo) rfl a (λW a=>by obtain⟨y0,y1⟩:=a;first|(go_simp;done)|(go_simp;omega)) ?_;refine lZ [4,9] λi9 f=>?_;rcases(by simpa using f:i9=4\/i9=9)with f|f
    ·subst f;refine cw λK' b=>?_;go_simp
     refine b _ _ ⟨a,?_⟩;refine gu 9 ?_;refine cw λK' b=>?_;go_simp
     refine(LN _).mono ?_;rintro e k⟨n,o,rfl,R,g⟩;have u:Below wr.heap.size wr k:=⟨g.os,g.tape,g.output,g.size,g.block⟩;have⟨w,t⟩:=y7 (N.below u) (O.trans (u.mono O.size));have p:Hid (V.heap.size<=k.heap.size):=t.size;have⟨v4,w4,e4,c4,f4,X,x,v⟩:=w.addW p (n,cf.mix,o) (by have:=Ow.wq R;rw[Gc]at this;exact this) (by rw[l];omega);have⟨b9,c0,c1,a0⟩:=ly X.wt;subst a0;have⟨A,B4,B⟩:=Qe X (t.trans x) (t.trans v);have c2:k.cell? (Qz P 8)=some (.slice wa ws.length wc):=w.cell 8 _ rfl;have c3:(k.alloc (.cells #[.slice n cf.mix o,C,I cf.fifo] 113)).cell? (Qz P 8)=some (.slice wa ws.length wc):=(w.below ((Fu _ _).alloc (Fv _) (.cells (rU cf.fifo (n,cf.mix,o)).toArray 113))).cell 8 _ rfl;unfold rU at e4;have y:=r.out _ t;refine b _ _ ⟨y,?_⟩;have a:=y;refine gu 10 ?_;refine cw λK' b=>?_;go_simp
     have K:=r.out _ (t.trans (((Fu k.heap.size k).alloc (Fv _) (.cells #[.slice n cf.mix o,C,I cf.fifo] 113)).mono p));refine b _ _ ⟨K,?_⟩;have a:=K;refine gu 11 ?_;have L:=r.out _ B;refine fq rfl rfl _ _ rfl rfl rfl rfl e4 ⟨L,?_⟩;have a:=L;refine pf 12 (J P 0) rfl a (λ_ _=>E) ?_;refine pf 13 (J P 8) rfl a (λ_ _=>E) ?_;refine gu 14 ?_;refine cw λK' b=>?_;go_simp
     have h5:=r.out _ B4;refine b _ _ ⟨h5,?_⟩;refine bY ?_;go_wp2_with fail;go_meet;case rel=>exact⟨rfl,ws++[(n,cf.mix,o)],_,H (by rw[FC,l];rfl),A,B4⟩
    ·subst f;refine cw λK' b=>?_;go_simp
     refine(LN _).mono ?_;rintro e k⟨n,o,rfl,R,g⟩;have u:Below wr.heap.size wr k:=⟨g.os,g.tape,g.output,g.size,g.block⟩;have⟨w,t⟩:=y7 (N.below u) (O.trans (u.mono O.size));have p:Hid (V.heap.size<=k.heap.size):=t.size;have⟨v4,w4,e4,c4,f4,X,x,v⟩:=w.addW p (n,cf.mix,o) (by have:=Ow.wq R;rw[Gc]at this;exact this) (by rw[l];omega);have⟨b9,c0,c1,a0⟩:=ly X.wt;subst a0;have⟨A,B4,B⟩:=Qe X (t.trans x) (t.trans v);have c2:k.cell? (Qz P 8)=some (.slice wa ws.length wc):=w.cell 8 _ rfl;have c3:(k.alloc (.cells #[.slice n cf.mix o,C,I cf.fifo] 113)).cell? (Qz P 8)=some (.slice wa ws.length wc):=(w.below ((Fu _ _).alloc (Fv _) (.cells (rU cf.fifo (n,cf.mix,o)).toArray 113))).cell 8 _ rfl;unfold rU at e4;have y:=r.out _ t;refine b _ _ ⟨y,?_⟩;have a:=y;refine lZ [4,10] λi9 f=>?_;rcases(by simpa using f:i9=4\/i9=10)with f|f
     ·subst f;refine cw λK' b=>?_;go_simp
      refine b _ _ ⟨a,?_⟩;refine gu 10 ?_;refine cw λK' b=>?_;go_simp
      have K:=r.out _ (t.trans (((Fu k.heap.size k).alloc (Fv _) (.cells #[.slice n cf.mix o,C,I cf.fifo] 113)).mono p));refine b _ _ ⟨K,?_⟩;have a:=K;refine gu 11 ?_;have L:=r.out _ B;refine fq rfl rfl _ _ rfl rfl rfl rfl e4 ⟨L,?_⟩;have a:=L;refine pf 12 (J P 0) rfl a (λ_ _=>E) ?_;refine pf 13 (J P 8) rfl a (λ_ _=>E) ?_;refine gu 14 ?_;refine cw λK' b=>?_;go_simp
      have h5:=r.out _ B4;refine b _ _ ⟨h5,?_⟩;refine bY ?_;go_wp2_with fail;go_meet;case rel=>exact⟨rfl,ws++[(n,cf.mix,o)],_,H (by rw[FC,l];rfl),A,B4⟩
     ·subst f;refine cw λK' b=>?_;go_simp
      have K:=r.out _ (t.trans (((Fu k.heap.size k).alloc (Fv _) (.cells #[.slice n cf.mix o,C,I cf.fifo] 113)).mono p));refine b _ _ ⟨K,?_⟩;have a:=K;refine gu 4 ?_;refine cw λK' b=>?_;go_simp
      refine b _ _ ⟨a,?_⟩;refine gu 11 ?_;have L:=r.out _ B;refine fq rfl rfl _ _ rfl rfl rfl rfl e4 ⟨L,?_⟩;have a:=L;refine pf 12 (J P 0) rfl a (λ_ _=>E) ?_;refine pf 13 (J P 8) rfl a (λ_ _=>E) ?_;refine gu 14 ?_;refine cw λK' b=>?_;go_simp
      have h5:=r.out _ B4;refine b _ _ ⟨h5,?_⟩;refine bY ?_;go_wp2_with fail;go_meet;case rel=>exact⟨rfl,ws++[(n,cf.mix,o)],_,H (by rw[FC,l];rfl),A,B4⟩
   case rest=>
    obtain⟨rfl,a1,a2,a6,w,a7⟩:=hcut;go_wp2;go_loopw [5] (λi G=>∃s:Nat,s<=6/\i=I s/\∃sv:QN,Hid (Nw V.heap.size cf da dc P T Q (dF.take (fQ c+s*aM c)) a1 sv a2 G)/\Hid (Below V.heap.size V G)) (λi _=>6-(intOf i).toNat);(case atStart=>exact⟨0,FH _,rfl,sv,H (by rw[Nat.zero_mul];exact w),a7⟩);case round=>
     obtain⟨s,hs,rfl,a8,N2,a3⟩:=hrel;by_cases c5:s<6
     ·have d0:=H (λV9=>xM c V9 m);go_wp2;simp only[show decide ((s:Int)<6)=true from G8 Z];go_loopw [6] (λi G=>∃j:Nat,j<=aM c/\i=I j/\∃sv:QN,Hid (Nw V.heap.size cf da dc P T Q (dF.take (fQ c+s*aM c+j)) a1 sv a2 G)/\Hid (Below V.heap.size V G)) (λi _=>aM c-(intOf i).toNat);(case atStart=>exact⟨0,FH _,rfl,a8,N2,a3⟩);case round=>
       obtain⟨j,hj,rfl,d1,N3,b0⟩:=hrel;have a4:aM c<=64:=by
        have:∀c∈List.range 12,aM c<=64:=ar;exact this c (Gh.2 m)
       have⟨sn,q⟩:=Qa (aM c);have F:=H q;go_wp2_with fail;refine(d0 _).mono ?_;rintro e V4⟨rfl,x⟩;have⟨A,a5⟩:=y7 (N3.below x) (az b0 x);rw[q]at hj a4⊢;by_cases d2:j<sn
       ·have d6:(j:Int)<(sn:Int):=Z;have TN:=H (uU (c:=c) (s:=s) (j:=j) m c5 (by rw[q];exact d2));have SA:=H (λV9=>kJ (c:Int) (s:Int) (j:Int) ⟨Z,Z,Z,Z,Z,by rw[vA m,q];omega⟩ V9);rw[D5 m]at SA;go_wp2_with fail;refine(SA _).mono ?_;rintro e V5⟨rfl,b5⟩;have⟨N5,b3⟩:=y7 (A.below b5) (az a5 b5);have⟨sa,b7,sc,d3⟩:=ly N5.sl;subst d3;have c7:V5.cell? (Qz P 7)=some (.slice sa b7 sc):=N5.cell 7 _ rfl;have⟨v6,w6,e6,c6,f6,n6,b6⟩:=N5.addS b3.size (c,s,j) (by rw[Hm,fG];omega);have⟨d7,d8,d9,d4⟩:=ly n6.sl;subst d4;have⟨N6,d5⟩:=y7 n6 (b3.trans b6);unfold yI at e6;have e2:(V5.alloc (.cells #[I c,I s,I j,U (bh c s j:Nat),I 0,I 0] 109)).cell? (Qz P 7)=some (.slice sa b7 sc):=(N5.below ((Fu _ _).alloc (Fv _) (.cells #[I c,I s,I j,U (bh c s j:Nat),I 0,I 0] 109))).cell 7 _ rfl;go_wp2_with (at_builtin;refine cY rfl (.tmp 55) (.tmp 61) (by with_reducible rfl) rfl rfl rfl e6 ?_);go_roundw;(case rel=>exact⟨j+1,by rw[F];omega,aY,_,H (by rw[<-H_,TN];exact N6),d5⟩);case measure=>(have:=F.out;simp[intOf];omega)
       ·obtain rfl:j=sn:=Z;go_wp2;go_roundw;(case rel=>exact⟨s+1,Z,aY,d1,H (by rw[Gy,GF,<-H_,F];rw[F]at A;exact A),a5⟩);case measure=>exact QE
     ·obtain rfl:s=6:=Z;go_wp2;go_roundw;(case rel=>exact⟨c+1,Z,aY,a1,a8,a2,a6,H (by rw[<-sN c m];exact N2),a3⟩);case measure=>exact QE
  ·obtain rfl:c=12:=Z;go_wp2;go_ret;have⟨x,f,n,o⟩:=Nw.made (N.mono M) l (λg=>N.sp.noPg g);exact⟨x,by rw[f];rfl,n,o,BW.trans (O.mono M)⟩
end
end Go.Proofs.YtdhegekcmmlohaaGreatDoor
