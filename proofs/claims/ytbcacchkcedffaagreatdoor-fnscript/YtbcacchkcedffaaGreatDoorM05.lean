import Derived.Sort.KeysCollected
import Derived.Shelf.Slices.In.SortNone
import Derived.Shelf.Sort.Plain
import Derived.Sort.OwnSortedInts
import Derived.Shelf.SlSortCmp.NoneTotal
import Derived.Test.YtbcacchkcedffaaGreatDoorM04
set_option linter.all false
set_option maxRecDepth 20000
set_option maxHeartbeats 0
namespace Go.Proofs
shelf_lay Lays.n189 Nm 189 at Tryz as Tryz.lays189
section
open Go.Shelf Go.RowKit Go.Lib Go.Sort
shelf_lay_g SlLaysF0.n6 Slsf 6 at Tryz 122 as Tryz.sortR
end
namespace YtbcacchkcedffaaGreatDoor
open Go.Proofs.Tryz Go.RowKit Go.Maps Go.Shelf Go.ChangeShapes Go.WideShapes Go.ChangeAt
section
variable {V W W':World}{R X dc:Nat}{cf:Cf}{da:Option Addr}
def Rc(cf:Cf)(da:Option Addr)(dc:Nat):Array Value:=#[I cf.mix,I cf.fifo,I cf.large,I cf.bud,U cf.key,.slice da cf.ds.length dc]
def iF(mix fifo large bud key:Int)(da:Option Addr)(dl dc S R:Nat):Array Value:=
 ([I mix,I fifo,I large,I bud,U key,.slice da dl dc,J S 0]++List.replicate 72 (.pointer none)++(List.replicate 12 [.pointer none,.pointer none,.nilIface]).flatten++[.map (some R),C,C,I 0,C,.nilFunc]:List Value).toArray
def xZ(mix fifo large bud key da dl dc S R){w:QM}:(Instr.box 92 (.agg (iF mix fifo large bud key da dl dc S R))).run prog w=.ok (J w.heap.size 0) (w.alloc (.cells (iF mix fifo large bud key da dl dc S R) 92)):=E
def AY(cf:Cf)(da dc S R fl qs):(iF (cf.mix:Nat) (cf.fifo:Nat) (cf.large:Nat) (cf.bud:Nat) cf.key da cf.ds.length dc S R).size=121/\∀i,i<121->(iF (cf.mix:Nat) (cf.fifo:Nat) (cf.large:Nat) (cf.bud:Nat) cf.key da cf.ds.length dc S R)[i]?=some (nw cf da dc S R fl qs 0 0 i):=by let e:iF (cf.mix:Nat) (cf.fifo:Nat) (cf.large:Nat) (cf.bud:Nat) cf.key da cf.ds.length dc S R=((List.range 121).map (nw cf da dc S R fl qs 0 0)).toArray:=E;rw[e];exact⟨bH,λi a=>by simp[a]⟩
def oM{c:QO}{o:Oper}{a:Act}{K:Act->QM->Prop}{Q:Exit->Act->QM->Prop}(x:Operand){v d:QN}(b:o.op=Op.box c x)(e:a.eval x=v)(f:(Instr.box c v).run prog W=.ok d W')(g:K (a.put o.dst d) W'):Oper.wp prog o a W K Q:=by unfold Oper.wp;simp[execOp,b,e,f,Result.andThen];exact g
structure Cx(X:Nat)(cf:Cf)(da:QP)(dc:Nat)(W V:QM):Prop where
 bx:V.heap[X]?=some (.cells (Rc cf da dc) 27)
 c0:V.cell? (Qz X 0)=some (I cf.mix)
 c1:V.cell? (Qz X 1)=some (I cf.fifo)
 c2:V.cell? (Qz X 2)=some (I cf.large)
 c3:V.cell? (Qz X 3)=some (I cf.bud)
 c4:V.cell? (Qz X 4)=some (U cf.key)
 c5:V.cell? (Qz X 5)=some (.slice da cf.ds.length dc)
 tb:Tb V
 bel:D W V
def Cx.at(h:V.heap[X]?=some (.cells (Rc cf da dc) 27))(a:Tb V)(b:D W V):Cx X cf da dc W V:=by refine⟨h,?_,?_,?_,?_,?_,?_,a,b⟩<;>(rw[ac h];rfl)
def Cx.turn{V'}(h:Cx X cf da dc W V)(k:Ky (· =92) V V')(b:Below W.heap.size V V')(a:2<W.heap.size):Cx X cf da dc W V':=
 Cx.at (k.XC h.bx) (h.tb.belowB b a) (h.bel.trans b)
def Nh.turn{B P S M fl qs k w}(h:Nh B P S M R da dc cf fl qs k w W)(g:W.grownBy W' (some P)):Ky (· =92) W W'/\Below B W W':=by let⟨c,a,_⟩:=h.box;exact⟨Ky.grown a rfl g,(Fu B W).grown g h.bW (λr a=>by simp at a;have:=h.bP;omega)⟩
def El(W:QM)(P o:Nat)(a b c:QN):W.setCells P o [a,b,c]=((W.setCell (Qz P o) a).setCell (Qz P (o+1)) b).setCell (Qz P (o+2)) c:=by simp[World.setCells]
def lY(n m g:Nat):Value:=if n=0 then .iface 84 (J g 0)else .iface 83 (J m 0)
def xK{n m g}:(lY n m g).oneCell'=true:=by unfold lY;split<;>rfl
def Fl(n m g:Nat):qv m g (List.replicate n (-1))=.agg #[J m 0,J g 0,lY n m g]:=by unfold qv lY;simp
def Cx.below{V'}(h:Cx X cf da dc W V)(b:D V V'):Cx X cf da dc W V':=
 ⟨ae h.bx b,NI b h.c0,NI b h.c1,NI b h.c2,NI b h.c3,NI b h.c4,NI b h.c5,h.tb.ofBelow b,h.bel.trans (b.mono h.bel.size)⟩
def Cx.of(a:Tb W):Cx W.heap.size cf da dc W (W.alloc (.cells (Rc cf da dc) 27)):=by let h:=ao W (.cells (Rc cf da dc) 27);let b:D W (W.alloc (.cells (Rc cf da dc) 27)):=ph;exact Cx.at h (a.ofBelow b) b
def Mr.bel9{n lo}(h:Mr R n lo W)(b:D W W'):Mr R n lo W':=by let⟨d,c,a⟩:=h.typ;exact h.same (b.block _ (ag a))
def Mr.made(W:QM):Mr W.heap.size 0 (λ_=>none) (W.alloc (.map #[] 0)):=
 ⟨.map [],(World.ownsMap_made W prog 24 ev).mono aa,gi,λk a=>rfl,λk a=>rfl⟩
def Cx.mapped(h:Cx X cf da dc W V):∃R,V.heap.size=R/\Cx X cf da dc W (V.alloc (.map #[] 0))/\Mr R 0 (λ_=>none) (V.alloc (.map #[] 0))/\W.heap.size<=R/\R<(V.alloc (.map #[] 0)).heap.size/\D V (V.alloc (.map #[] 0)):=
 ⟨_,rfl,h.below ph,Mr.made V,h.bel.size,by rw[aO];omega,ph⟩
def Nh.first{S M U}(d:Cx X cf da dc W U)(g:Sl W da cf.ds)(e:∀a,da=some a->a.block<W.heap.size)(k:2<W.heap.size)(hI:Im S M 0 283 (cf.bud:Nat) (λ_=>none) U)(j:W.heap.size<=S)(l:W.heap.size<=M)(m:Mr R 0 (λ_=>none) U)(n:W.heap.size<=R)(a:M≠R)(fl qs):
  ∃P,U.heap.size=P/\Nh W.heap.size P S M R da dc cf fl qs 0 0 (U.alloc (.cells (iF (cf.mix:Nat) (cf.fifo:Nat) (cf.large:Nat) (cf.bud:Nat) cf.key da cf.ds.length dc S R) 92))/\Cx X cf da dc W (U.alloc (.cells (iF (cf.mix:Nat) (cf.fifo:Nat) (cf.large:Nat) (cf.bud:Nat) cf.key da cf.ds.length dc S R) 92)):=by
 let b:D U (U.alloc (.cells (iF (cf.mix:Nat) (cf.fifo:Nat) (cf.large:Nat) (cf.bud:Nat) cf.key da cf.ds.length dc S R) 92)):=ph;let f:=d.below b;let⟨o,p⟩:=AY cf da dc S R fl qs;refine⟨_,rfl,⟨⟨_,XD,o,p⟩,Fx d.bel.size b.size,(g.below d.bel).below b,e,hI.ky (Ky.below b:Ky (λ_=>False) _ _) (λe=>e) (b.block _ hI.lt.2),m.bel9 b,d.bel.size,j,l,n,a,(λi q=>Z),(λi j q=>Z),(λc r=>Z),(λc a r=>Z),f.tb,k⟩,f⟩
def Fc(cf:Cf)(da:Option Addr)(dc:Nat)(W:World)(e:Ending)(W':World):Prop:=∃y,e=.returned (J y.P 0)/\y.da=da/\Hp W.heap.size y BP cf (aP cf) W'/\Gd BP (aP cf) (C)/\Below W.heap.size W W'
def rV(cf da dc W)(dk:mE cf)(c:Tb W)(d:Sl W da cf.ds)(b:∀a,da=some a->a.block<W.heap.size)(a:2<W.heap.size):
  Calls prog 27 #[gZ cf da dc] W (Fc cf da dc W):=by
 have⟨e,DS,F,H0⟩:=Qf (Cx.of (cf:=cf) (da:=da) (dc:=dc) c) d b a;have a3:=dk.fifo1;have a4:=dk.fifo;have a0:=dk.mix;unfold gZ;clear c d b a;go_in;go_upto_region 1 with fail
 have G:Hid (Cx W.heap.size cf da dc W ((W.alloc (.cells (Rc cf da dc) 27)).drew)):=e.below ld;unfold Rc at G;generalize W.alloc _=K at G⊢;have⟨X,a⟩:=Qb W.heap.size;rw[<-a]at G⊢;clear a;go_cut [3] (λa w'=>∃P S M R,a=J P 0/\Hid (Nh W.heap.size P S M R da dc cf (λ_=>⟨0,0,0,λ_=>0⟩) (λ_=>⟨0,0,0,0⟩) 0 0 w')/\Hid (Cx X cf da dc W w'));case first=>
  apply wp_region_held (S:=Cx X cf da dc W) E;simp only[FX,FN,F1,Nat.reduceAdd,FP,FO,FY,FV,F5];generalize o:K.drew=y at G;have m:({heap:=K.heap,tape:=K.tape,drawn:=K.drawn+1,os:=K.os,output:=K.output}:QM)=y:=o;rw[m];clear o m;have b:=G.out;refine pf 0 (.agg #[I cf.mix,I cf.fifo,I cf.large,I cf.bud,U cf.key,.slice da cf.ds.length dc]) rfl b (λW b=>by obtain⟨_,L,N,O,Q,T,V,Y,y7⟩:=b;first|(go_simp;done)|(go_simp;omega)) ?_;apply PX 2 b;refine pf 3 (I cf.bud) rfl b (λW b=>by obtain⟨_,L,N,O,Q,T,V,Y,y7⟩:=b;first|(go_simp;done)|(go_simp;omega)) ?_;refine lZ [1,5] λi9 j=>?_;rcases(by simpa using j:i9=1\/i9=5)with j|j
  ·subst j;refine cw λK' d=>?_;go_simp
   apply(eH _ b.tb).mono;rintro e a⟨rfl,c⟩;have f:=b.below c;refine d _ _ ⟨f,?_⟩;have b:=f
   (try have g:=H (IT (g.1.bel9 c) (IT g.2.1 (FG g.2.2 c.size))));refine lZ [4,5] λi9 j=>?_;rcases(by simpa using j:i9=4\/i9=5)with j|j
   ·subst j;refine cw λK' d=>?_;go_simp
    apply(ty 283 (cf.bud:Nat)).mono;rintro e a⟨S,M,rfl,hI,c,p,q,v⟩;have n:=b.bel.size;have f:=b.below c;refine d _ _ ⟨f,?_⟩;have b:=f
    (try have r:=H (show M≠R by have:=g.2.2;omega));have i:=H (IT hI (IT (Fx n p) (Fx n q)))
    (try have g:=H (IT (g.1.bel9 c) (IT g.2.1 (FG g.2.2 c.size))));refine po 5 λK' d=>?_;have x:=@run_makeMap prog
    go_simp;have⟨R,z,l,s,t,u,c⟩:=b.mapped;rw[z];refine d _ _ ⟨l,?_⟩
    try have r:=H (show M≠R by have:=i.1.lt.2;omega)
    (try have i:=H (IT (i.1.ky (Ky.below c:Ky (λ_=>False) _ _) (λe=>e) (c.block _ i.1.lt.2)) i.2));have g:=H (IT s (IT t u));have b:=l;apply PX 6 b;refine po 7 λK' d=>?_;apply oM (.tmp 12) E E (xZ (cf.mix:Nat) (cf.fifo:Nat) (cf.large:Nat) (cf.bud:Nat) cf.key da cf.ds.length dc S R)
    have⟨P,A,B,l⟩:=Nh.first b DS F H0 i.1 i.2.1 i.2.2 g.1 g.2.1 r (λ_=>⟨0,0,0,λ_=>0⟩) (λ_=>⟨0,0,0,0⟩)
    rw[A];refine d _ _ ⟨l,?_⟩;have w:=H B;have b:=l;apply PX 8 b;refine bY ?_;go_wp2;go_meet;exact⟨P,S,M,R,rfl,w,H b⟩
   ·subst j;refine cw λK' d=>?_;have x:=@run_makeMap prog
    go_simp;have⟨R,z,l,s,t,u,c⟩:=b.mapped;rw[z];refine d _ _ ⟨l,?_⟩
    try have r:=H (show M≠R by have:=i.1.lt.2;omega)
    (try have i:=H (IT (i.1.ky (Ky.below c:Ky (λ_=>False) _ _) (λe=>e) (c.block _ i.1.lt.2)) i.2));have g:=H (IT s (IT t u));have b:=l;refine po 4 λK' d=>?_;go_simp
    apply(ty 283 (cf.bud:Nat)).mono;rintro e a⟨S,M,rfl,hI,c,p,q,v⟩;have n:=b.bel.size;have f:=b.below c;refine d _ _ ⟨f,?_⟩;have b:=f
    (try have r:=H (show M≠R by have:=g.2.2;omega));have i:=H (IT hI (IT (Fx n p) (Fx n q)))
    (try have g:=H (IT (g.1.bel9 c) (IT g.2.1 (FG g.2.2 c.size))));apply PX 6 b;refine po 7 λK' d=>?_;apply oM (.tmp 12) E E (xZ (cf.mix:Nat) (cf.fifo:Nat) (cf.large:Nat) (cf.bud:Nat) cf.key da cf.ds.length dc S R)
    have⟨P,A,B,l⟩:=Nh.first b DS F H0 i.1 i.2.1 i.2.2 g.1 g.2.1 r (λ_=>⟨0,0,0,λ_=>0⟩) (λ_=>⟨0,0,0,0⟩)
    rw[A];refine d _ _ ⟨l,?_⟩;have w:=H B;have b:=l;apply PX 8 b;refine bY ?_;go_wp2;go_meet;exact⟨P,S,M,R,rfl,w,H b⟩
  ·subst j;refine cw λK' d=>?_;have x:=@run_makeMap prog
   go_simp;have⟨R,z,l,s,t,u,c⟩:=b.mapped;rw[z];refine d _ _ ⟨l,?_⟩
   try have r:=H (show M≠R by have:=i.1.lt.2;omega)
   (try have i:=H (IT (i.1.ky (Ky.below c:Ky (λ_=>False) _ _) (λe=>e) (c.block _ i.1.lt.2)) i.2));have g:=H (IT s (IT t u));have b:=l;refine po 1 λK' d=>?_;go_simp
   apply(eH _ b.tb).mono;rintro e a⟨rfl,c⟩;have f:=b.below c;refine d _ _ ⟨f,?_⟩;have b:=f
   (try have g:=H (IT (g.1.bel9 c) (IT g.2.1 (FG g.2.2 c.size))));refine po 4 λK' d=>?_;go_simp
   apply(ty 283 (cf.bud:Nat)).mono;rintro e a⟨S,M,rfl,hI,c,p,q,v⟩;have n:=b.bel.size;have f:=b.below c;refine d _ _ ⟨f,?_⟩;have b:=f
   (try have r:=H (show M≠R by have:=g.2.2;omega));have i:=H (IT hI (IT (Fx n p) (Fx n q)))
   (try have g:=H (IT (g.1.bel9 c) (IT g.2.1 (FG g.2.2 c.size))));apply PX 6 b;refine po 7 λK' d=>?_;apply oM (.tmp 12) E E (xZ (cf.mix:Nat) (cf.fifo:Nat) (cf.large:Nat) (cf.bud:Nat) cf.key da cf.ds.length dc S R)
   have⟨P,A,B,l⟩:=Nh.first b DS F H0 i.1 i.2.1 i.2.2 g.1 g.2.1 r (λ_=>⟨0,0,0,λ_=>0⟩) (λ_=>⟨0,0,0,0⟩)
   rw[A];refine d _ _ ⟨l,?_⟩;have w:=H B;have b:=l;apply PX 8 b;refine bY ?_;go_wp2;go_meet;exact⟨P,S,M,R,rfl,w,H b⟩
 obtain⟨P,S,M,R,rfl,w,n⟩:=hcut;go_wp2;go_loopw [14] (λi wr=>∃(c:Nat)(z:Nat->D2)(qs:Nat->Do),c<=12/\i=I c/\Hid (Nh W.heap.size P S M R da dc cf z qs (c*6) c wr)/\Hid (Cx X cf da dc W wr)) (λi _=>12-(intOf i).toNat);exact⟨0,_,_,Z,rfl,w,n⟩
 case round=>
  obtain⟨c,z,qs,hc,rfl,w,n⟩:=hrel;by_cases A:c<12
  ·(go_upto_region 5 with fail);have⟨a,p⟩:=y7 (w.below (Fu _ wr).drew) (n.below (Fu _ wr).drew);go_cut [] (λw'=>∃g,Hid (Nh W.heap.size P S M R da dc cf z g (c*6) (c+1) w')/\Hid (Cx X cf da dc W w'));case first=>
    apply wp_region_held (S:=Cx X cf da dc W) E;simp only[FX,FN,F1,Nat.reduceAdd,FP,FO,FY,FV,F5];generalize o:wr.drew=y at a p;have m:({heap:=wr.heap,tape:=wr.tape,drawn:=wr.drawn+1,os:=wr.os,output:=wr.output}:QM)=y:=o;rw[m];have b:=p.out;(iterate 3 refine PX 0 b ?_);refine pf 3 (I cf.mix) rfl b (λW b=>by obtain⟨_,L,N,O,Q,T,V,Y,y7⟩:=b;first|(go_simp;done)|(go_simp;omega)) ?_;apply PX 4 b;refine pf 5 (I cf.fifo) rfl b (λW b=>by obtain⟨_,L,N,O,Q,T,V,Y,y7⟩:=b;first|(go_simp;done)|(go_simp;omega)) ?_;(iterate 2 refine PX 8 b ?_);refine po 6 λK' d=>?_;go_simp
    apply(yy cf.mix (cf.fifo:Nat) a0).mono;rintro e U1⟨gm,rfl,g,r,u⟩;have f:=b.below u;refine d _ _ ⟨f,?_⟩;have b:=f;have⟨q,j⟩:=y7 u g;refine po 7 λK' d=>?_;go_simp
    apply(zq (some (Qz gm 0)) cf.mix cf.mix none 0 0 cf.fifo (List.replicate cf.mix (-1)) [] ⟨.inr ⟨gm,rfl,j⟩,bH,.inl ⟨rfl,rfl⟩,rfl⟩ a0 ⟨a3,a4⟩ aa).mono;rintro e U2⟨x,r9,s,q9,rfl,r,t,g⟩;have f:=b.below g;rw[Fl];refine d _ _ ⟨f,?_⟩;have b:=f;have HQ:=H r;have HB:=H (show y.heap.size<=x/\y.heap.size<=r9/\y.heap.size<=s/\y.heap.size<=q9 by have:=q.size;omega);have BT:=H (q.trans (g.mono q.size));refine pf 10 (.pointer (some (Qz P (79+c*3)))) rfl b (λW b=>by obtain⟨_,L,N,O,Q,T,V,Y,y7⟩:=b;first|(go_simp;done)|(go_simp;omega)) ?_;refine po 11 λK' d=>?_;have g:=a.below BT
    refine wp_store_mid 88 (.tmp 27) (.tmp 24) E P (79+c*3) #[J x 0,J s 0,lY cf.mix x s] E E (λj hj=>⟨by rw[g.box.cell _ (by simp at hj;omega)];rfl,g.box.free _⟩) E (all_oneCell_toArray (λv hv=>by simp at hv;rcases hv with rfl|rfl|rfl;rfl;rfl;exact xK)) ?_;have B:=El U2 P (79+c*3) (J x 0) (J s 0) (lY cf.mix x s);have⟨U3,t⟩:=Qb (((U2.setCell (Qz P (79+c*3)) (J x 0)).setCell (Qz P (79+c*3+1)) (J s 0)).setCell (Qz P (79+c*3+2)) (lY cf.mix x s));rw[<-t]at B;simp only[B];have v:=a.addW BT HQ HB A (W':=U3) (by rw[t];unfold lY;rfl);have⟨q,r⟩:=g.turn (W':=U3) (by rw[t];exact au (au (au (Q6 U2 P) _ _) _ _) _ _);have l:=b.turn q r H0;refine d _ _ ⟨l,?_⟩;have⟨HA,n⟩:=y7 v l;refine bY ?_;go_wp2;go_meet;exact⟨_,HA,n⟩
   case rest=>
    have⟨t,B,a1⟩:=hcut;go_wp2;go_loopw [28] (λi l=>∃(j:Nat)(z:Nat->D2),j<=6/\i=I j/\Hid (Nh W.heap.size P S M R da dc cf z t (c*6+j) (c+1) l)/\Hid (Cx X cf da dc W l)) (λi _=>6-(intOf i).toNat);(case atStart=>exact⟨0,_,Z,rfl,B,a1⟩);case round=>
     obtain⟨j,a5,hj,rfl,w,n⟩:=hrel;by_cases b0:j<6
     ·(go_upto_region 9 with fail);have⟨a,p⟩:=y7 (w.below (Fu _ wr).drew) (n.below (Fu _ wr).drew);apply wp_region_held (S:=Cx X cf da dc W) E;simp only[FX,FN,F1,Nat.reduceAdd,FP,FO,FY,FV,F5];generalize o:wr.drew=y at a p;have m:({heap:=wr.heap,tape:=wr.tape,drawn:=wr.drawn+1,os:=wr.os,output:=wr.output}:QM)=y:=o;rw[m];have b:=p.out;(iterate 5 refine PX 0 b ?_);(iterate 2 refine PX 6 b ?_);refine pf 8 (.pointer (some (Qz P (7+c*6)))) rfl b (λW b=>by obtain⟨_,L,N,O,Q,T,V,Y,y7⟩:=b;first|(go_simp;done)|(go_simp;omega)) ?_;refine po 5 λK' d=>?_;go_simp
      apply(tf c j A b.tb).mono;rintro e U1⟨s,r9,a6,b5,rfl,a2,u⟩;have f:=b.below u;refine d _ _ ⟨f,?_⟩;have b:=f;have g:=a.below u;have v:=a.addS u (k:=c*6+j) (by rw[show(c*6+j)/6=c by omega,show(c*6+j)%6=j by omega];exact a2) Z;rw[show 7+(c*6+j)=7+c*6+j by omega]at v;have⟨q,r⟩:=g.turn (au (Q6 U1 P) (7+c*6+j) (J s 0));have c9:=g.box.cell (7+c*6+j) Z;have f9:=g.box.free (7+c*6+j);have⟨HA,n⟩:=y7 v (b.turn q r H0);refine pf 9 (.pointer (some (Qz P (7+c*6+j)))) rfl b (λW b=>by obtain⟨_,L,N,O,Q,T,V,Y,y7⟩:=b;first|(go_simp;done)|(go_simp;omega)) ?_;refine po 10 λK' d=>?_;go_simp
      refine d _ _ ⟨n,?_⟩;refine bY ?_;go_wp2;go_roundw;(exact⟨j+1,_,Z,aY,HA,n⟩);exact QE
     ·obtain rfl:j=6:=Z;go_wp2;go_roundw;(exact⟨c+1,a5,t,Z,aY,H (by have:=w.out;rw[show c*6+6=(c+1)*6 by omega]at this;exact this),n⟩);exact QE
  ·obtain rfl:c=12:=Z;go_wp2;go_ret;have⟨a,g⟩:=w.made;exact⟨Fa P S M R da dc z qs,rfl,rfl,a,g,n.bel⟩
end
section
variable {B k:Nat}{V W w:World}{l:List Aw}{v:Value}{y:Ly}{d:Dy}{cf:Cf}{A:Option Addr}{ops:List df}{q:df}
structure Ra9(B:Nat)(W:QM)(l:List Aw)(v:QN):Prop where
 row:W.ownsRow B 94 4 v l.length (fZ l)
 dat:∀z∈l,W.ownsRow B 5 1 z.2 z.1.data.length (Ns .u8 z.1.data)
 dis:l.Pairwise λy z=>∀g,y.2.ownBlock=some g->z.2.ownBlock≠some g
def Ra9.ky{S W'}(r:Ra9 B W l v)(k:Ky S W W')(a:¬S 94)(b:¬S 5):Ra9 B W' l v:=
 ⟨ai r.row k a,λz c=>ai (r.dat z c) k b,r.dis⟩
def Ra9.below{B W W' l v}(r:Ra9 B W l v)(b:D W W'):Ra9 B W' l v:=r.ky (Ky.below b:Ky (λ_=>False) W W') (λe=>e) (λe=>e)
def Ra9.nil(B W):Ra9 B W [] (C):=⟨⟨rfl,.inl ⟨rfl,rfl⟩⟩,(λz a=>by cases a),List.Pairwise.nil⟩
def Ra9.ans(r:Ra9 B W l v)(a:l.length<=300):wK B W l v:=⟨r.row,a⟩
def Hp.ky81{h V'}(a:Hp B y d cf h V)(k:Ky (· =94) V V')(b:Below B V V')(c:V'.heap[y.M]?=V.heap[y.M]?)(f:V'.heap[y.R]?=V.heap[y.R]?):Hp B y d cf h V':=
 a.keep ⟨k.more (λt e=>by rw[e];decide),c,f⟩ b
def wA{h}(R:Hp B y d cf h V)(t:Gd d h v)(S:Ra9 B V l v){r:An4}(n:QN)(e:Nat)(m:∀z∈l,∀g,z.2.ownBlock=some g->g<e)(W:B<=e)(w:V.ownsRow e 5 1 n r.data.length (Ns .u8 r.data))(hl:l.length<=300):
  ∃f a,QI 33 v (Vl V.heap.size 1 1) (V.alloc (.cells (aC (r,n)).toArray 94)) f a/\QG a y.P 119 v/\a.frozen? (Qz y.P 119)=false/\(∃b,Hp B y b cf h (a.setCell (Qz y.P 119) f)/\Gd b h f)/\Ra9 B (a.setCell (Qz y.P 119) f) (l++[(r,n)]) f/\Below B V (a.setCell (Qz y.P 119) f):=by
 let o:D V (V.alloc (.cells (aC (r,n)).toArray 94)):=ph;let i:=R.below o;let j:=S.below o;let x:=ax w o;obtain⟨A,F,G,rfl⟩:=aA w;let⟨f,a,X,Y,K⟩:=pA B v l (r,.slice A F G) V.heap.size 1 j.row (ao V _) rfl Z i.bW;let L:Ky (· =94) _ a:=Ky.grownO (λP M=>by obtain⟨_,c,b⟩:=aF j.row M;exact⟨c,94,_,b,rfl⟩) K;let T:Below B _ a:=(Fu B _).grown K i.bW (λP M=>(aF j.row M).1);refine(let_mvar%?A:=V.alloc (.cells (aC (r,.slice A F G)).toArray 94);?_);let nb:∀(g:Nat)p c,(?A).heap[g]?=some (Obj.map p c)->a.heap[g]?=(?A).heap[g]?:=λ(g:Nat)p c q=>K.block g (ag q) (λe=>by let⟨_,k,b⟩:=aF j.row e.symm;rw[q]at b;cases b)
 let k:Hp B y d cf h a:=by
  apply i.ky81 L T;.obtain⟨b,⟨p,N,s,_⟩,_⟩:=i.sp.map;exact nb _ _ _ s
  let⟨p,N,s⟩:=i.mp.typ;exact nb _ _ _ s
 let cU:a.cell? (Qz y.P 119)=some v:=k.cell 119 Z _ t.an;let fU:=k.box.free 119;let N:=k.setDy 119 f {d with an:=f} (.inl ⟨rfl,rfl⟩);let O:=k.box.kyS 119 f;let b2:Below B a (a.setCell (Qz y.P 119) f):=(Fu B a).setCell k.ap.bP _;refine⟨f,a,X,cU,fU,⟨_,N,t.on,t.un,rfl⟩,⟨ai Y O,λz b=>?_,?_⟩,((o.mono R.bW).trans T).trans b2⟩
 .rcases F8.1 b with b|b;.exact ai (ai (j.dat z b) L ar) O
  have:=List.mem_singleton.1 b;subst this;exact aN (ai (ai x L ar) O) W
 rw[Is];refine⟨S.dis,List.pairwise_singleton _ _,λz b u hu g q Q=>?_⟩;have:=List.mem_singleton.1 hu;subst this;let h1:=(aF w Q).1;let s:=m z b g q;omega
def Ois.da(h:Ois w A ops){hh}(a:Hp B y d cf hh W)(b:D w W)(m:w.heap.size<=B)(c:q∈ops):Da y.S y.M d.f W q.d q.o.ys.length q.o.ys:=by refine⟨rfl,λi f=>?_⟩;let⟨x,g,j,l⟩:=h.dat q c i f;let n:=a.ap.bS;let o:=a.ap.bM;exact⟨x,g,cR b j,FG l b.size,Z,Z,λk e=>by have:=a.bf k _ e;omega⟩
structure EA(ops:List df):Prop where
 cap:∀q∈ops,q.o.ys.length<=q.dc
 ref:∀q∈ops,-9223372036854775808<=q.o.ref
 byt:∀q∈ops,okB q.o.ys
structure Rst(B:Nat)(y:Ly)(cf:Cf)(w:QM)(ops:List df)(k:Nat)(l:List Aw)(v:QN)(W:QM):Prop where
 hg:∃d,Hp B y d cf (NJ cf ((ops.take k).map df.o) (aP cf) []).1 W/\Gd d (NJ cf ((ops.take k).map df.o) (aP cf) []).1 v
 ok:vJ cf (NJ cf ((ops.take k).map df.o) (aP cf) []).1 k
 ls:l.map (·.1)=(NJ cf ((ops.take k).map df.o) (aP cf) []).2
 ra:Ra9 B W l v
 bel:D w W
def Rst.len(r:Rst B y cf w ops k l v W)(a:k<=ops.length):l.length=k:=by have:=congrArg List.length r.ls;rw[Gz,ft]at this;simpa[Hz a]using this
def Rst.first(ops)(a:Hp B y BP cf (aP cf) W)(c:Gd BP (aP cf) (C))(d:mE cf)(f:1<=cf.large)(b:D w W):Rst B y cf w ops 0 [] (C) W:=by
 let e:NJ cf ((ops.take 0).map df.o) (aP cf) []=(aP cf,[]):=rfl;refine⟨⟨BP,?_,?_⟩,?_,?_,Ra9.nil _ _,b⟩;.rwa[e]
 .rwa[e]
 .rw[e];exact⟨Inv.new cf,Byt.new cf,Few.new cf,Z,d,f⟩
 rw[e];rfl
def ei(a:ops[k]?=some q)(cf):NJ cf ((ops.take (k+1)).map df.o) (aP cf) []=((bU cf (NJ cf ((ops.take k).map df.o) (aP cf) []).1 (NJ cf ((ops.take k).map df.o) (aP cf) []).2 q.o).2,(NJ cf ((ops.take k).map df.o) (aP cf) []).2++[(bU cf (NJ cf ((ops.take k).map df.o) (aP cf) []).1 (NJ cf ((ops.take k).map df.o) (aP cf) []).2 q.o).1]):=by rw[F_,a];simp only[IQ,Hr,It,List.map_nil];exact gF cf q.o _ _ _
def Rst.call(r:Rst B y cf w ops k l v W)(b:D W V)(N:Ois w A ops)(x:EA ops)(F:w.heap.size<=B)(hN:ops.length<=300)(o:ops[k]?=some q):
  QA 28 #[J y.P 0,eZ q.o q.d q.dc] V λe s=>∃p,e=QJ (jP (bU cf (NJ cf ((ops.take k).map df.o) (aP cf) []).1 (NJ cf ((ops.take k).map df.o) (aP cf) []).2 q.o).1 p)/\s.cell? (Qz y.P 119)=some v /\
   ∃t a,QI 33 v (Vl s.heap.size 1 1) (s.alloc (.cells (aC ((bU cf (NJ cf ((ops.take k).map df.o) (aP cf) []).1 (NJ cf ((ops.take k).map df.o) (aP cf) []).2 q.o).1,p)).toArray 94)) t a/\QG a y.P 119 v/\a.frozen? (Qz y.P 119)=false/\Rst B y cf w ops (k+1) (l++[((bU cf (NJ cf ((ops.take k).map df.o) (aP cf) []).1 (NJ cf ((ops.take k).map df.o) (aP cf) []).2 q.o).1,p)]) t (a.setCell (Qz y.P 119) t):=by
 let Y:=(Fz.1 o).1;let f:=FM o;let⟨d,hp,O⟩:=r.hg;let P:=r.len Z;let z:=N.wf q f;let⟨Q,R,S,hv⟩:=aA r.ra.row;let j:=hp.below b;let m:=r.ra.below b;let i:D w V:=r.bel.trans (b.mono r.bel.size);rw[hv]at O;let hA:wK B V l (.slice Q R S):=by rw[<-hv];exact m.ans Z
 let c:=yv B B y d cf k l Q R S q.o q.d q.dc V j O r.ok Z hA z.1 z.2.1 z.2.2 (x.ref q f) (x.cap q f) (N.da j i F f);apply c.mono;rintro e s⟨p,rfl,T,⟨d2,n,g⟩,X⟩;rw[r.ls]at T n g⊢;refine⟨p,rfl,?_,?_⟩;.rw[hv];exact n.cell 119 Z _ g.an
 rw[<-hv]at g;let u:Ra9 B s l v:=m.ky X.ky (by unfold hI;decide) (by unfold hI;decide);obtain⟨t,a,e1,e2,e3,⟨d9,G,K⟩,L,b9⟩:=wA n g u p V.heap.size (λz b g c=>by let⟨_,c9,M⟩:=aF (m.dat z b) c;exact ag M) j.bW T Z
 refine⟨t,a,e1,e2,e3,⟨d9,?_,?_⟩,?_,?_,L,i.trans ((X.bel.mono F).trans (b9.mono F))⟩;.rwa[ei o]
 .rwa[ei o]
 .rw[ei o];let⟨M,f1⟩:=r.ok.inv.step r.ok.dok.fifo1 r.ok.few (NJ cf ((ops.take k).map df.o) (aP cf) []).2 q.o;exact⟨M,r.ok.byt.step _ q.o (x.byt q f),f1,Z,r.ok.dok,r.ok.l1⟩
 rw[ei o,Hr,r.ls];rfl
def Ft(B:Nat)(y:Ly)(cf:Cf)(w:World)(ops:List df)(k:Nat)(l:List Aw)(v:Value)(d:An4)(V:World)(e:Ending)(g:World):Prop:=∃(a:Option Addr)(n c:Nat),e=.returned (.agg #[I d.code,U d.addr,I d.size,.slice a n c])/\g.cell? ⟨y.P,119,none⟩=some v/\(∀(X:Nat)e t f,t=63\/t=41->V.heap[X]?=some (.cells e t f)->g.heap[X]?=some (.cells e t f)) /\
 ∃(i:Option Addr)(j m:Nat)(b:World),(Builtin.append_ #[33,33] 33 #[v,Vl g.heap.size 1 1]).run prog (g.alloc (.cells #[I d.code,U d.addr,I d.size,.slice a n c] 94))=.ok (.slice i j m) b/\(g.alloc (.cells #[I d.code,U d.addr,I d.size,.slice a n c] 94)).cell? ⟨y.P,119,none⟩=some v/\b.cell? ⟨y.P,119,none⟩=some v/\b.frozen? ⟨y.P,119,none⟩=false/\(∀(X:Nat)e t f,t=63\/t=41->g.heap[X]?=some (.cells e t f)->(g.alloc (.cells #[I d.code,U d.addr,I d.size,.slice a n c] 94)).heap[X]?=some (.cells e t f)/\b.heap[X]?=some (.cells e t f)/\(b.setCell ⟨y.P,119,none⟩ (.slice i j m)).heap[X]?=some (.cells e t f))/\∃a,Rst B y cf w ops (k+1) a (.slice i j m) (b.setCell ⟨y.P,119,none⟩ (.slice i j m))
def Rst.call9(r:Rst B y cf w ops k l v W)(ho:Ois w A ops)(O:EA ops)(Q:w.heap.size<=B)(hN:ops.length<=300)(u:ops[k]?=some q):
  ∃a,∀V,D W V->QA 28 #[J y.P 0,.agg #[I q.o.kd,I q.o.ref,U q.o.p,U q.o.a,U q.o.b,.slice q.d q.o.ys.length q.dc]] V (Ft B y cf w ops k l v a V):=by
 let a3:=(Fz.1 u).1;let i:=FM u;obtain⟨d,hp,gd⟩:=r.hg;let a2:=r.len Z;let P:=ho.wf q i;obtain⟨va,vn,vc,hv⟩:=aA r.ra.row;refine(let_mvar%?A:=NJ cf ((ops.take k).map df.o) (aP cf) [];?_);refine⟨(bU cf (?A).1 (?A).2 q.o).1,λV b=>?_⟩;let p:=hp.below b;let s:=r.ra.below b;have m:D w V:=r.bel.trans (b.mono r.bel.size);rw[hv]at gd;let hA:wK B V l (.slice va vn vc):=by rw[<-hv];exact s.ans Z
 apply(yv B B y d cf k l va vn vc q.o q.d q.dc V p gd r.ok Z hA P.1 P.2.1 P.2.2 (O.ref q i) (O.cap q i) (ho.da p m Q i)).mono;rintro e x⟨vd,rfl,R,⟨d2,j,g⟩,S⟩;obtain⟨L,M,F,rfl⟩:=aA R;rw[r.ls]at R j g⊢;have n:x.cell? (Qz y.P 119)=some v:=by rw[hv];exact j.cell 119 Z _ g.an
 refine⟨L,M,F,rfl,n,λX cc t f N T=>S.ky.XC T (by rcases N with rfl|rfl<;>(unfold hI;decide)),?_⟩;rw[<-hv]at g;let o:Ra9 B x l v:=s.ky S.ky (by unfold hI;decide) (by unfold hI;decide);obtain⟨v',a,e1,e2,e3,⟨d9,Y,a0⟩,G,b9⟩:=wA j g o (.slice L M F) V.heap.size (λz b g g=>by obtain⟨_,F,c⟩:=aF (s.dat z b) g;exact ag c) p.bW R Z
 obtain⟨a8,n8,c8,rfl⟩:=aA G.row;have z:D x (x.alloc (.cells (aC ((bU cf (?A).1 (?A).2 q.o).1,.slice L M F)).toArray 94)):=ph;let K:=o.below z;obtain⟨v7,U7,f1,f2,f3⟩:=pA B v l ((bU cf (?A).1 (?A).2 q.o).1,.slice L M F) x.heap.size 1 K.row (ao x _) rfl Z (Fx j.bW z.size);have eU:U7=a:=by rw[e1]at f1;cases f1;rfl
 subst eU;have kU:Ky (· =94) _ U7:=Ky.grownO (λP a=>by obtain⟨_,c,hc⟩:=aF K.row a;exact⟨c,94,_,hc,rfl⟩) f3;refine⟨a8,n8,c8,U7,e1,NI z n,e2,e3,λX cc t f N T=>?_,_,⟨d9,?_,?_⟩,?_,?_,G,m.trans ((S.bel.mono Q).trans (b9.mono Q))⟩
 .let h1:=ae T z;let c:=kU.XC h1 (by rcases N with rfl|rfl<;>decide);refine⟨h1,c,?_⟩;rw[XB (λe=>?_)];.exact c
  let a1:=(j.below z).box.ky kU ar;obtain⟨c7,g1,_⟩:=a1;rw[e]at c;rw[g1]at c;cases c;rcases N with e9|e9<;>cases e9
 .rwa[ei u]
 ·rw[ei u];exact a0
 ·rw[ei u];obtain⟨c,f1⟩:=r.ok.inv.step r.ok.dok.fifo1 r.ok.few (?A).2 q.o;exact⟨c,r.ok.byt.step _ q.o (O.byt q i),f1,Z,r.ok.dok,r.ok.l1⟩
 rw[ei u,Hr,r.ls];rfl
structure Cq(X:Nat)(q:df)(V:QM):Prop where
 c0:V.cell? (Qz X 0)=some (I q.o.kd)
 c1:V.cell? (Qz X 1)=some (I q.o.ref)
 c2:V.cell? (Qz X 2)=some (U q.o.p)
 c3:V.cell? (Qz X 3)=some (U q.o.a)
 c4:V.cell? (Qz X 4)=some (U q.o.b)
 c5:V.cell? (Qz X 5)=some (.slice q.d q.o.ys.length q.dc)
def Cq.of{X:Nat}(h:V.heap[X]?=some (.cells #[I q.o.kd,I q.o.ref,U q.o.p,U q.o.a,U q.o.b,.slice q.d q.o.ys.length q.dc] 63)):Cq X q V:=by refine⟨?_,?_,?_,?_,?_,?_⟩<;>(rw[ac h];rfl)
def AH(L:Nat->Ly->Cf->Hs->World->Array Value->World->Prop):Prop:=∀(B:Nat)(y:Ly)(d:Dy)(cf:Cf)(h:Hs)(k:Nat)(v:Value)(V:World),Hp B y d cf h V->Gd d h v->vJ cf h k ->
 QA 29 #[J y.P 0] V λe K=>∃t A l u F z i j:Value,e=.returned (.agg #[t,A,l,u,F,z,i,j])/\(∀v∈[t,A,l,u,F,z,i,j],v.oneCell'=true)/\L B y cf h V #[t,A,l,u,F,z,i,j] K/\D V K
def nt(mi fi la bu ky)(b:Option Addr)(dn)(c:Nat)(A:Option Addr)(n i:Nat)(W)(l:Tb W)(d:¬(jg mi fi la bu dn/\n<=300)):
  Calls prog 10 #[.agg #[I mi,I fi,I la,I bu,U ky,.slice b dn c],.slice A n i] W λe q=>e=.returned (.agg #[.bool false,C,I 0,C,C,C,C,C,C,I 0])/\D W q:=by
 refine(let_mvar%?B:=W.alloc (.cells #[I mi,I fi,I la,I bu,U ky,.slice b dn c] 27);?_);let f:D W ?B:=ph;refine(let_mvar%?A:=(?B).alloc (.cells #[.bool false,C,I 0,C,C,C,C,C,C,I 0] 41);?_);have g:D W ?A:=f.alloc f.size _;have m:=H (show (?A).heap[W.heap.size+1]?=some (.cells #[.bool false,C,I 0,C,C,C,C,C,C,I 0] 41) by rw[<-aO W (.cells #[I mi,I fi,I la,I bu,U ky,.slice b dn c] 27)];exact XD);have o:=ae (ao W (.cells #[I mi,I fi,I la,I bu,U ky,.slice b dn c] 27)) (th.alloc gi (.cells #[.bool false,C,I 0,C,C,C,C,C,C,I 0] 41));have⟨p,k⟩:=y7 (OR mi fi la bu ky b dn c (l.ofBelow g)) g;have a:=H (show∀j u,#[Value.int .i64 mi,I fi,I la,I bu,U ky,.slice b dn c][j]?=some u->(?A).cell? (Qz W.heap.size j)=some u from λj u b=>by rw[ac o];exact b);go_in;go_wp2_with fail;generalize (W.alloc _).alloc _=l at*;generalize o:W.heap.size+1=X at*;apply (p).mono;rintro e V⟨rfl,a⟩;let⟨f,g⟩:=y7 (ae m a) (k.trans (a.mono k.size));by_cases a:jg mi fi la bu dn
 .let j:decide (jg mi fi la bu dn)=true:=G8 a;let m:(300:Int)<(n:Int):=by
   have:¬n<=300:=λe=>d ⟨a,e⟩
   omega
  rw[j];go_wp2_with (apply eG f);apply fM (aw f _) underlying41;exact⟨rfl,g.grown (aj _ _ _) g.size (λr k=>by simp at k;omega)⟩
 let j:decide (jg mi fi la bu dn)=false:=GR a;rw[j];go_wp2_with (apply eG f);apply fM (aw f _) underlying41;exact⟨rfl,g.grown (aj _ _ _) g.size (λr k=>by simp at k;omega)⟩
def Sn(N:Nat->Ly->Cf->Hs->World->Array Value->World->Prop)(cf:Cf)(ops:List df)(w:World)(e:Ending)(W':World):Prop:=∃(B:Nat)(y:Ly)(l:List Aw)(A:Value)(v K u z L F j t:Value)(V i:World)(X:Nat),e=.returned (.agg #[.bool true,A,v,K,u,z,L,F,j,t])/\w.heap.size<=B/\Rst B y cf w ops ops.length l A V/\N B y cf (NJ cf (ops.map df.o) (aP cf) []).1 V #[v,K,u,z,L,F,j,t] i/\D V i/\i.heap[X]?=some (.cells #[.bool false,C,I 0,C,C,C,C,C,C,I 0] 41)/\W'=i.setRow X #[.bool true,A,v,K,u,z,L,F,j,t]/\w.heap.size<=X/\X<B
def sZ(T9)(t:AH T9)(cf da dc A)(a7:Nat)(ops w)(c:mE cf)(x:1<=cf.large)(m:Tb w)(z:Sl w da cf.ds)(g:∀a,da=some a->a.block<w.heap.size)(h0:2<w.heap.size)(F:Ois w A ops)(G:EA ops)(hN:ops.length<=300):
  Calls prog 10 #[gZ cf da dc,.slice A ops.length a7] w (Sn T9 cf ops w):=by
 unfold gZ;have i:jg (cf.mix:Nat) (cf.fifo:Nat) (cf.large:Nat) (cf.bud:Nat) cf.ds.length:=by have h1:=c.mix;have h2:=c.fifo1;have b:=c.fifo;have e:=c.large;have f:=c.bud;have j:=c.len;unfold jg;omega
 refine(let_mvar%?D:=I cf.large;let_mvar%?B:=w.alloc (.cells #[I cf.mix,I cf.fifo,?D,I cf.bud,U cf.key,.slice da cf.ds.length dc] 27);let_mvar%?C:=Below w.heap.size w;?_);have W:?C ?B:=ph;have n:?C ((?B).alloc (.cells #[.bool false,C,I 0,C,C,C,C,C,C,I 0] 41)):=W.alloc W.size _;have o:=H (show((?B).alloc (.cells #[.bool false,C,I 0,C,C,C,C,C,C,I 0] 41)).heap[w.heap.size+1]?=some (.cells #[.bool false,C,I 0,C,C,C,C,C,C,I 0] 41) by rw[<-aO w (.cells #[I cf.mix,I cf.fifo,?D,I cf.bud,U cf.key,.slice da cf.ds.length dc] 27)];exact XD);have f:=H (ae (ao w (.cells #[I cf.mix,I cf.fifo,?D,I cf.bud,U cf.key,.slice da cf.ds.length dc] 27)) (th.alloc gi (.cells #[.bool false,C,I 0,C,C,C,C,C,C,I 0] 41)));have p:=H (OR (cf.mix:Nat) (cf.fifo:Nat) (cf.large:Nat) (cf.bud:Nat) cf.key da cf.ds.length dc (m.ofBelow n));rw[G8 i]at p;have r:=H n;have s:=H (λV(hV:?C V)=>rV cf da dc V c (m.ofBelow hV) (z.below hV) (λa ha=>FG (g a ha) hV.size) (FG h0 hV.size));unfold gZ at s;have b:=H (show∀V:World,V.heap[w.heap.size]?=some (.cells #[I cf.mix,I cf.fifo,?D,I cf.bud,U cf.key,.slice da cf.ds.length dc] 27)->∀j u,(#[I cf.mix,I cf.fifo,?D,I cf.bud,U cf.key,.slice da cf.ds.length dc]:Array Value)[j]?=some u->V.cell? (Qz w.heap.size j)=some u from λV hV j u a=>by rw[ac hV];exact a);have u0:=b.out _ f 0 _ rfl;have u1:=b.out _ f 1 _ rfl;have u2:=b.out _ f 2 _ rfl;have u3:=b.out _ f 3 _ rfl;have u4:=b.out _ f 4 _ rfl;have u5:=b.out _ f 5 _ rfl;have HO:=H F;have HI:=H G;have HT:=H t;have a5:=H (IT c x);have⟨N,e⟩:=Qa ops.length;rw[e];rw[e]at hN;have HN:=H e;go_in;go_wp2_with fail;generalize (w.alloc _).alloc _=z at*;have⟨X,x⟩:=Qa (w.heap.size+1);rw[x]at o⊢;refine(p).mono ?_;rintro e V⟨rfl,c⟩;have m:=H (ae o c);have g:=H (ae f c);have j:=H (r.trans (c.mono r.size));have a9:¬((300:Int)<(N:Int)):=Z;have u0:=b.out _ g 0 _ rfl;have u1:=b.out _ g 1 _ rfl;have u2:=b.out _ g 2 _ rfl;have u3:=b.out _ g 3 _ rfl;have u4:=b.out _ g 4 _ rfl;have u5:=b.out _ g 5 _ rfl;go_wp2_with fail;refine(s _ j).mono ?_;rintro e V2⟨y,rfl,n,t,M,c⟩;have f:=ag m;have X7:=H (ae m c);have⟨B,i⟩:=Qa V.heap.size;rw[i]at t c f;have HB:=H (show w.heap.size<=B by rw[<-i];exact j.size);have R0:=H (Rst.first ops t M a5.1 a5.2 (j.trans (c.mono HB)));have a6:=H (show w.heap.size<=X/\X<B from⟨Z,f⟩);have⟨P,o⟩:=Qa y.P;rw[o];have HP:=H o;go_wp2;go_loopw [21] (λi wr=>∃(k:Nat)(l:List Aw)(v:Value),k<=N/\i=I k/\Hid (Rst B y cf w ops k l v wr)/\Hid (wr.heap[X]?=some (.cells #[.bool false,C,I 0,C,C,C,C,C,C,I 0] 41))) (λi _=>N-(intOf i).toNat);exact⟨0,[],_,Z,rfl,R0,X7⟩
 obtain⟨k,l,v,hk,rfl,x,HX⟩:=hrel;by_cases a8:k<N
 ·obtain⟨q,n⟩:∃q,ops[k]?=some q:=⟨_,Fy (by rw[HN];exact a8)⟩;obtain⟨G,rfl,o,b⟩:=HO.at_ k q n;have c:=x.bel;have u0:wr.cell? (Qz G (k*6))=some (I q.o.kd):=cR c (b 0 _ rfl);have u1:=cR c (b 1 _ rfl);have u2:=cR c (b 2 _ rfl);have u3:=cR c (b 3 _ rfl);have u4:=cR c (b 4 _ rfl);have u5:=cR c (b 5 _ rfl);have⟨r9,g⟩:=x.call9 HO HI HB (by rw[HN];exact hN) n;have g:=H g;obtain⟨z,F,K,rfl⟩:=aA x.ra.row;refine(let_mvar%?A:=wr.alloc (.cells #[I q.o.kd,I q.o.ref,U q.o.p,U q.o.a,U q.o.b,.slice q.d q.o.ys.length q.dc] 63);?_);have W:Below wr.heap.size wr ?A:=ph;have j:=H (ao wr (.cells #[I q.o.kd,I q.o.ref,U q.o.p,U q.o.a,U q.o.b,.slice q.d q.o.ys.length q.dc] 63));have f:=H (show Below wr.heap.size wr ((?A).drew)from W.trans (ld.mono W.size));have m:((?A).drew).cell? (Qz P 119)=some (.slice z F K):=by have⟨d,t,M⟩:=x.hg;rw[<-HP.out];exact(t.below f).cell 119 Z _ M.an
  have O:=H (ae HX f);(go_upto_region 7 with fail);generalize wr.alloc _=V at j f m O⊢;have⟨Y,b⟩:=Qa wr.heap.size;rw[b]at j⊢;have a0:=H (g _ f);refine rh (S:=Cq Y q) ?_;have HY:=H (show V.drew.heap[Y]?=some (.cells #[I q.o.kd,I q.o.ref,U q.o.p,U q.o.a,U q.o.b,.slice q.d q.o.ys.length q.dc] 63)from j);generalize L:V.drew=V1 at a0 HY m O;have n:({heap:=V.heap,tape:=V.tape,drawn:=V.drawn+1,os:=V.os,output:=V.output}:World)=V1:=L;rw[n];have s:=HP.out;have f:=Cq.of HY;(iterate 4 (refine py f ?_;simp only[f0,f1,Nat.reduceAdd,lz,l0,ls]));(iterate 2 refine PX 5 f ?_);refine lZ [4,7] λi9 c=>?_;rcases(by simpa using c:i9=4\/i9=7)with c|c
  ·subst c;refine cw λK' b=>?_;go_simp;refine b _ _ ⟨f,?_⟩;refine po 7 λK' b=>?_
   go_simp;rw[<-s];refine(a0).mono ?_;rintro e T⟨a1,n1,c1,rfl,cU,Q,a2,n2,c2,U2,r,cA,a3,a4,j,l2,hR⟩;rw[s]at cU cA a3 a4 hR j;have g:=Cq.of (Q _ _ _ _ (.inl rfl) HY);have p:=H (j _ _ _ _ (.inl rfl) (Q _ _ _ _ (.inl rfl) HY));have o:=H ((j _ _ _ _ (.inr rfl) (Q _ _ _ _ (.inr rfl) O)).2.2);have R:=H hR;refine b _ _ ⟨g,?_⟩;have f:=g;refine po 8 λK' b=>?_;go_simp;refine b _ _ ⟨Cq.of p.1,?_⟩;have f:=Cq.of p.1;refine po 9 λK' b=>?_
   refine aV 33 (.tmp 29) (.tmp 33) (v:=.slice z F K) (v2:=Vl T.heap.size 1 1) E E E E r ?_;refine b _ _ ⟨Cq.of p.2.1,?_⟩;have f:=Cq.of p.2.1;(iterate 2 refine PX 10 f ?_);refine po 12 λK' b=>?_;go_simp;refine b _ _ ⟨Cq.of p.2.2,?_⟩;refine bY ?_;go_wp2;go_roundw
   (exact⟨k+1,l2,_,Z,aY,R,o⟩);exact QE
  subst c;refine cw λK' b=>?_;go_simp;rw[<-s];refine(a0).mono ?_;rintro e T⟨a1,n1,c1,rfl,cU,Q,a2,n2,c2,U2,r,cA,a3,a4,j,l2,hR⟩;rw[s]at cU cA a3 a4 hR j;have g:=Cq.of (Q _ _ _ _ (.inl rfl) HY);have p:=H (j _ _ _ _ (.inl rfl) (Q _ _ _ _ (.inl rfl) HY));have o:=H ((j _ _ _ _ (.inr rfl) (Q _ _ _ _ (.inr rfl) O)).2.2);have R:=H hR;refine b _ _ ⟨g,?_⟩;have f:=g;refine lZ [4,8] λi9 c=>?_
  rcases(by simpa using c:i9=4\/i9=8)with c|c
  ·subst c;refine cw λK' b=>?_;go_simp;refine b _ _ ⟨f,?_⟩;refine po 8 λK' b=>?_
   go_simp;refine b _ _ ⟨Cq.of p.1,?_⟩;have f:=Cq.of p.1;refine po 9 λK' b=>?_;refine aV 33 (.tmp 29) (.tmp 33) (v:=.slice z F K) (v2:=Vl T.heap.size 1 1) E E E E r ?_;refine b _ _ ⟨Cq.of p.2.1,?_⟩;have f:=Cq.of p.2.1;(iterate 2 refine PX 10 f ?_);refine po 12 λK' b=>?_
   go_simp;refine b _ _ ⟨Cq.of p.2.2,?_⟩;refine bY ?_;go_wp2;go_roundw;(exact⟨k+1,l2,_,Z,aY,R,o⟩);exact QE
  subst c;refine cw λK' b=>?_;go_simp;refine b _ _ ⟨Cq.of p.1,?_⟩;have f:=Cq.of p.1;refine po 4 λK' b=>?_
  go_simp;refine b _ _ ⟨f,?_⟩;refine po 9 λK' b=>?_;refine aV 33 (.tmp 29) (.tmp 33) (v:=.slice z F K) (v2:=Vl T.heap.size 1 1) E E E E r ?_;refine b _ _ ⟨Cq.of p.2.1,?_⟩;have f:=Cq.of p.2.1;(iterate 2 refine PX 10 f ?_);refine po 12 λK' b=>?_
  go_simp;refine b _ _ ⟨Cq.of p.2.2,?_⟩;refine bY ?_;go_wp2;go_roundw;(exact⟨k+1,l2,_,Z,aY,R,o⟩);exact QE
 obtain rfl:k=N:=Z;obtain⟨z,F,K,rfl⟩:=aA x.ra.row;have p:ops.take k=ops:=Ge (by rw[HN];exact gi);have⟨d,t,M⟩:=x.hg;have O:=x.ok;have j:Below wr.heap.size wr wr.drew:=ld;have TD:=H (HT B y d cf _ k _ _ (t.below j) M O);rw[p]at TD;have m:wr.drew.cell? (Qz P 119)=some (.slice z F K):=by rw[<-HP.out];exact(t.below j).cell 119 Z _ M.an
 have r:=H (ae HX j);have G:=H (show P<wr.drew.heap.size by rw[<-HP.out];exact(t.below j).box.lt);have a0:P≠X:=λe=>by have⟨c,h1,_⟩:=t.box;have h2:=HX.out;rw[<-e,<-HP.out,h1]at h2;cases h2
 have RD:=H (show Rst B y cf w ops k l (.slice z F K) wr.drew from⟨⟨d,t.below j,M⟩,O,x.ls,x.ra.below j,x.bel.drew⟩);go_upto_region 9 with fail
 refine rh (S:=λa=>a.cell? (Qz P 119)=some (.slice z F K)) ?_;generalize L:wr.drew=V1 at TD m r RD G;have n:({heap:=wr.heap,tape:=wr.tape,drawn:=wr.drawn+1,os:=wr.os,output:=wr.output}:World)=V1:=L;rw[n];have s:=HP.out;have f:=m;iterate 5 (refine py f ?_;simp only[f0,f1,Nat.reduceAdd,lz,l0,ls])
 refine po 5 λK' b=>?_;go_simp;rw[<-s];refine(TD).mono ?_;rintro e T⟨x,O,Q,R,Y,m5,m6,m7,rfl,c,ht,j⟩;have g:=NI j f;refine b _ _ ⟨g,?_⟩;have f:=g;have p:=H c;have HF:=H (IT ht j);have o:=H (ae r j);have a3:=H (FG G j.size);refine py f ?_;simp only[f0,f1,Nat.reduceAdd,lz,l0,ls];refine po 7 λK' b=>?_
 refine Ih 41 (.tmp 4) (.tmp 44) E X #[.bool true,.slice z F K,x,O,Q,R,Y,m5,m6,m7] E E 41 _ o E rfl ?hone9 ?_;case hone9=>exact all_oneCell_toArray (λv hv=>by rcases F4.1 hv with rfl|hv;rfl;rcases F4.1 hv with rfl|hv;rfl;exact p v hv)
 have c:(T.setRow X #[.bool true,.slice z F K,x,O,Q,R,Y,m5,m6,m7]).cell? (Qz P 119)=some (.slice z F K):=by unfold World.cell? at f⊢;rw[(aj T X #[.bool true,.slice z F K,x,O,Q,R,Y,m5,m6,m7]).block P a3 (by simpa using a0)];exact f
 refine b _ _ ⟨c,?_⟩;refine bY ?_;go_wp2_with fail;refine fM (aw o _) underlying41 ?_;exact⟨B,y,l,_,x,O,Q,R,Y,m5,m6,m7,V1,T,X,rfl,HB,by rw[HN];exact RD,HF.1,HF.2,o,rfl,a6.1,a6.2⟩
end
def uk:∀(b L2:List Int),b.Nodup->(∀x,x∈b->x∈L2)->L2.length<=b.length->∀y,y∈L2->y∈b
 |[],L2,_,_,c,y,b=>by
  have:L2=[]:=List.length_eq_zero_iff.1 (by simpa using c)
  rw[this]at b;cases b
 |a::t,L2,d,f,c,y,b=>by
  let ha:=f a bH
  rw[GI]at d
  by_cases e:y=a
  .subst e;simp
  let i:∀x,x∈t->x∈L2.erase a:=λx g=>(List.mem_erase_of_ne (λe:x=a=>d.1 (e▸g))).2 (f x (by simp[g]))
  let j:(L2.erase a).length<=t.length:=by rw[List.length_erase_of_mem ha];simp at c;omega
  let k:=uk t (L2.erase a) d.2 i j y ((List.mem_erase_of_ne e).2 b)
  simp[k]
def Ai:Lit->Int
 | .int _ x=>x
 |_=>0
def lM(f:Nat->Option Nat)(N:Nat):List Int:=((List.range N).filter λk=>(f k).isSome).map λk=>((k:Nat):Int)
def nV(f):∀N,(lM f N).length=bm f 0 N
 |0=>rfl
 |N+1=>by
  let b:=nV f N
  unfold lM at b⊢
  rw[Gs,Hl,Hr,FC,b]
  simp only[bm,Oi]
  congr 1
  cases a:(f N).isSome<;>simp[List.filter,a]
def rM(f N):(lM f N).Nodup:=by unfold lM;refine List.pairwise_map.2 ((List.nodup_range.filter _).imp ?_);intro a b h e;exact h Z
def nQ(f N)(z:Int):z∈lM f N↔∃k:Nat,z=k/\k<N/\(f k).isSome=true:=by
 unfold lM;simp only[FQ,Gk,Gh];constructor;.rintro⟨k,⟨h1,h2⟩,rfl⟩;exact⟨k,rfl,h1,h2⟩
 rintro⟨k,rfl,h1,h2⟩;exact⟨k,⟨h1,h2⟩,rfl⟩
def Im.only{S M st n bud f W}(h:Im S M st n bud f W):∃a:DataW Unit,W.ownsMap prog 3 ev M 4096 a/\Maps.size a=bm f 0 4096/\(∀k:Nat,k<4611686018427387904->a.atKey (.int .i64 k) .nil=sG (f k))/\(∀k:Nat,k<4611686018427387904->has a (.int .i64 k)=(f k).isSome)/\∀z:Int,has a (.int .i64 z)=true->∃k:Nat,z=k/\k<4096/\(f k).isSome=true:=by
 let⟨a,b,i,m,c⟩:=h.map;refine⟨a,b,i,m,c,?_⟩;let⟨j,r,s,_⟩:=b.entries g_;let d:∀p∈j,∃x:Int,p.1=.int .i64 x:=by
  let⟨o,l,q⟩:=b.keysOf;obtain rfl:j=o:=by rw[r]at l;simpa using l
  intro p e;let⟨v,hv⟩:=q p e;let⟨x,_,g,_⟩:=Maps.keyOf_int_inv underlying3 hv;exact⟨x,g⟩
 subst r;let l:∀z:Int,z∈j.map (λp=>Ai p.1)↔has (.map j) (.int .i64 z)=true:=by
  intro z;rw[has_eq,List.any_eq_true,FQ];constructor;.rintro⟨p,e,rfl⟩;let⟨x,g⟩:=d p e;exact⟨p,e,by rw[g];simp[Lit.sameKey,Ai]⟩
  rintro⟨p,e,hs⟩;let⟨x,g⟩:=d p e;refine⟨p,e,?_⟩;rw[g]at hs⊢;simpa[Lit.sameKey,Ai]using hs
 intro z o;have:=uk (lM f 4096) (j.map λp=>Ai p.1) (rM f 4096) (λx g=>by obtain⟨k,rfl,t,q⟩:=(nQ f 4096 x).1 g;rwa[l,c k Z]) (by rw[Gz,nV,<-i];exact gi) z ((l z).2 o)
 exact(nQ f 4096 z).1 this
def i_(m):∀(n:Nat)(z:Int),z∈NN m n↔∃k:Nat,z=k/\k<n/\isOpen (m k)=true
 |0,z=>by simp[NN]
 | n+1,z=>by
  have d:=i_ m n z
  simp only[NN]
  split
  ·rename_i b
   rw[F8,d]
   simp only[List.mem_singleton]
   constructor
   ·rintro(⟨k,rfl,c,a⟩|rfl)
    ·exact⟨k,rfl,Z,a⟩
    exact⟨n,rfl,Z,b⟩
   rintro⟨k,rfl,c,a⟩
   by_cases e:k=n
   ·right;rw[e]
   left;exact⟨k,rfl,Z,a⟩
  rename_i b
  rw[d]
  constructor
  ·rintro⟨k,rfl,c,a⟩;exact⟨k,rfl,Z,a⟩
  rintro⟨k,rfl,c,a⟩
  refine⟨k,rfl,?_,a⟩
  by_cases e:k=n
  ·subst e;exact absurd a b
  omega
def eE(m):∀n:Nat,(NN m n).Pairwise (λx y=>x<y)
 |0=>List.Pairwise.nil
 | n+1=>by
  simp only[NN]
  split
  .rw[Is]
   refine⟨eE m n,bH,λx a y b=>?_⟩
   obtain⟨k,rfl,c,_⟩:=(i_ m n x).1 a
   simp at b
   omega
  exact eE m n
def rY(m:Nat->Option (Bool×List Int))(n:Nat)(d:List Int)(g:d.Nodup)(h:∀z,z∈d↔∃k:Nat,z=k/\k<n/\isOpen (m k)=true):(d.mergeSort λx y=>decide (x<=y))=NN m n:=by
 let i:d.Perm (NN m n):=(List.perm_ext_iff_of_nodup g ((eE m n).imp λh=>Z)).2 λz=>by rw[h z,i_]
 let j:∀a b c:Int,decide (a<=b)=true->decide (b<=c)=true->decide (a<=c)=true:=λa b c e f=>by simp at*;omega
 let k:∀a b:Int,(decide (a<=b) || decide (b<=a))=true:=λa b=>bG
 refine List.Perm.eq_of_pairwise (le:=λa b=>decide (a<=b)=true) (λa b _ _ e f=>by simp at e f;omega) (List.pairwise_mergeSort j k d) ((eE m n).imp λh=>bG) ((List.mergeSort_perm d _).trans i)
def tC(r:Rg9):List Value:=[U r.base,I r.first,I r.ext,I r.st,I r.rq]
def dH(l:List Rg9):List Value:=l.flatMap tC
def tD(l:List Rg9)(r:Rg9):dH (l++[r])=dH l++tC r:=by simp[dH]
def yR:(prog.info? 227).map (λi=>(i.zero,i.size,i.bytes))=some (some (.agg #[U 0,I 0,I 0,I 0,I 0]),5,40):=E
def yB{W:QM}(B:Nat)(v:QN)(l:List Rg9)(r)(g:Nat)(c)(a:W.ownsRow B 227 5 v l.length (dH l))(o:W.heap[g]?=some (.cells (tC r).toArray 227))(z:l.length<=100000)(p:B<=W.heap.size):
  ∃d b,QI 36 v (Vl g 1 c) W d b/\b.ownsRow B 227 5 d (l++[r]).length (dH (l++[r]))/\W.grownBy b v.ownBlock:=by
 let⟨q,e,f,i,k⟩:=G0 yR;let m:∀j u,(tC r)[j]?=some u->W.cell? (((Qz g 0):Addr).add j)=some u:=λj u s=>by rw[Addr.add_mid,Oi,GT _ _ j _ _ _ o];simpa using s
 let t:∀u∈tC r,u.oneCell'=true:=λu n=>by simp only[tC,F4,Gp,or_false]at n;rcases n with rfl|rfl|rfl|rfl|rfl<;>rfl
 let⟨d,b,w,x,y,_⟩:=Ia (P:=prog) W B 36 36 227 q _ 5 40 underlying36 e f i k rfl Z v _ _ a (Qz g 0) 1 c (tC r) rfl m t (by unfold maxLen;omega) Z p;exact⟨d,b,w,by rwa[tD,FC],y⟩
def tz:Prop:=∀(v:Value)(rs:List Rg9)(W:World)(base:Nat),W.ownsRow base 227 5 v rs.length (dH rs)->rs.length<=1000 ->
 QA 122 #[v,.func (.func 123) #[] #[]] W λe w'=>e=.returned (.tuple #[])/\∃i,i.Perm rs/\i.Pairwise (λa b=>a.base<=b.base)/\w'.ownsRow base 227 5 v rs.length (dH i)/\W.grownBy w' v.ownBlock
def uM{W i:QM}{B:Nat}{e:QO}{sz:Nat}{v:QN}{n:Nat}{j:List QN}{r:Nat}(h:W.ownsRow B e sz v n j)(g:W.grownBy i (some r))(c:v.ownBlock=some r->False):i.ownsRow B e sz v n j:=by
 refine⟨h.1,?_⟩;rcases h.2 with a|⟨b,d,f,rfl,k,a,l⟩;.exact .inl a
 refine .inr ⟨b,d,f,rfl,k,?_,l⟩;rwa[g.block b (ag a) (λb=>c (by simp at b;subst b;rfl))]
def Inv.nodup{cf h}(i:Inv cf h):h.rg.Nodup:=by refine List.Pairwise.imp_of_mem ?_ i.apart;intro a b ha d c e;subst e;have:a.ext=a.guards+a.pages+1:=rfl;omega
def uI{c:List Rg9}(l:c.Nodup){left}{d:List Rg9}(g:(eX c left).Perm d){r:Rg9}(n:r∈c)(o:∀a∈c,a.base=r.base->a=r)(p:left (.int .u64 (r.base:Nat))=true):(eX c (λz=>left z && !z.sameKey (.int .u64 (r.base:Nat)))).Perm (d++[r]):=by
 let i:(eX c left).Nodup:=l.filter _;let j:d.Nodup:=g.nodup_iff.1 i;let k:r∉d:=λq=>by have:=g.mem_iff.2 q;unfold eX at this;rw[Gk,p]at this;simp at this
 let f:(d++[r]).Nodup:=by rw[List.nodup_append];exact⟨j,bH,λa ha b m e=>by simp at m;subst m;subst e;exact k ha⟩
 refine(List.perm_ext_iff_of_nodup (show(eX c _).Nodup from l.filter _) f).2 λx=>?_;rw[F8,<-g.mem_iff];unfold eX;rw[Gk,Gk]
 by_cases e:x.base=r.base
 .constructor;.rintro⟨a,_⟩;exact .inr (by simpa using o x a e)
  rintro(⟨a,b⟩|a);.exact⟨a,by simp[e,Lit.sameKey]⟩
  have:=List.mem_singleton.1 a;subst this;exact⟨n,by simp[Lit.sameKey]⟩
 let m:(Lit.int .u64 (x.base:Nat)).sameKey (.int .u64 (r.base:Nat))=false:=by simp[Lit.sameKey];omega
 dsimp only;rw[m];constructor;.rintro⟨a,b⟩;exact .inl ⟨a,by simpa using b⟩
 rintro(⟨a,b⟩|a);.exact⟨a,by simpa using b⟩
 have:=List.mem_singleton.1 a;subst this;exact absurd rfl e
def xN{a:List Rg9}{left:Lit->Bool}(h:∀r∈a,left (.int .u64 (r.base:Nat))=true):eX a left=[]:=by unfold eX;rw[IC];intro r b;rw[h r b];simp
def nk(l:tz)(B y d cf h W)(w:Hp B y d cf h W)(i:Inv cf h)(b6:h.rg.length<=400):
  Calls prog 66 #[.pointer (some (Qz y.P 0))] W λe W'=>∃v rs,e=QJ v/\rs.Perm h.rg/\rs.Pairwise (λa b=>a.base<=b.base)/\W'.ownsRow W.heap.size 227 5 v rs.length (dH rs)/\D W W':=by
 have⟨a6,HI,a7⟩:=Qe (λV(X:D W V)=>w.below X) i l;have⟨a,g,b7,j,f⟩:=w.mp.map;have k:=w.cell 115 Z (.map (some y.R)) rfl;have a8:=H (show y.R<W.heap.size by obtain⟨n,c,m⟩:=w.mp.typ;exact ag m);have⟨HD,Y⟩:=y7 (IT j f) w.lo;clear w i j f l;go_in;go_wp2_with (at_range;refine wpList_range_own _ rfl _ 90 rfl 24 210 fa underlying90 ev y.R 4096 a rfl g ?_;intro w0 f j l)
 go_frame
 have⟨r,i⟩:=Qb W.heap.size;have m:D W w0:=(Fu W.heap.size W).grown j gi bH;have⟨B0,SZ,o⟩:=Qe m (show r+1<=w0.heap.size by omega) i;rw[<-i]at f⊢;have a0:=H f;have M0:=H (show(eX h.rg (has a)).Perm [] by rw[xN (λr i=>by have h1:=HI.baseP i;rw[HD.2 r.base Z,Y r.base];exact List.any_eq_true.2 ⟨r,i,bH⟩)])
 clear f j l g m i k;go_loopw [3] (λv wr=>∃(left:Lit->Bool)(F:Nat)(q:List Rg9),Hid (wr.ranges prog 24 ev y.R r 4096 a left F)/\Hid (wr.ownsRow (r+1) 227 5 v q.length (dH q))/\Hid ((eX h.rg left).Perm q)/\Hid (D W wr)/\r+1<=wr.heap.size) (λ_ wr=>wr.rangeLeft y.R r);exact⟨_,_,[],a0,H ⟨rfl,.inl ⟨rfl,rfl⟩⟩,M0,B0,SZ⟩
 let⟨left,F,q,z,i,l,k,b5⟩:=hrel;let b8:q.length<=400:=by let h1:=l.length_eq;let f:=Hb (λr:Rg9=>!left (.int .u64 (r.base:Nat))) h.rg;unfold eX at h1;omega
 obtain⟨O,P,Q,rfl⟩:=aA i;go_wp2_with (at_next;refine wpList_next_ranges _ rfl _ rfl 24 fa ev (Value.int .u64) rt (λf kl f=>by obtain⟨x,rfl,_⟩:=Maps.keyOf_int_inv underlying24 f;exact⟨x,rfl⟩) (λv y hv=>by exact(hF hv).elim (λ⟨b,e,_⟩=>⟨some b,e⟩) (λ⟨e,_⟩=>⟨none,e⟩)) y.R r 4096 a left F rfl z ?_ ?_);.intro m f;let u:=H (show h.rg.Perm q by have:=l.out;rw[qn f]at this;exact this);let⟨j,A⟩:=y7 (a7 _ q wr (r+1) i Z) (λg(e:(Value.slice O P Q).ownBlock=some g)=>(aF i e).1);go_wp2_with fail;apply (j).mono;rintro e K⟨rfl,rs,f,m,n,p⟩;let G:=H (k.grown p k.size (λg e=>by have:=A.out g e;have:=o.out;omega));let⟨s,t⟩:=y7 (IT (f.trans u.symm) (IT m n)) f.length_eq;go_wp2;go_ret;exact⟨_,rs,rfl,s.1,s.2.1,aN (by rw[t];exact s.2.2) (by have:=o.out;omega),G⟩
 intro x c kl yd yp m a1 A a2 hv s t a9 G b1 K;obtain⟨x',ex,rfl,a3⟩:=Maps.keyOf_int_inv underlying24 A;cases ex;let b3:=bounds_u64 a3;obtain⟨kk,rfl⟩:∃kk:Nat,x=(kk:Int):=⟨x.toNat,Z⟩;let L:=has_true_of_atKey s;rw[HD.2 kk Z,Y kk]at L;let⟨n,M,a4⟩:=List.any_eq_true.1 L;simp at a4;subst a4;let⟨g,a5,lc⟩:=(a6 W th).lcAt HI M;let R:=s .nil;rw[HD.1 n.base Z,a5]at R;obtain rfl:c=some g:=by
  cases c with
  |none=>simp[rt,ev]at hv;rw[<-hv.1]at R;simp[sG]at R
  |some b=>simp[rt,ev]at hv;rw[<-hv.1]at R;simp[sG]at R;have:b=g:=Z;rw[this]
 let T:D W m:=k.grown G k.size (λj e=>by cases e;have:=o.out;omega);let R2:Hid (m.ownsRow (r+1) 227 5 (.slice O P Q) q.length (dH q)):=(uM i G (λe=>by have:=(aF i e).1;omega));let⟨G2,LE,ST,LC,S2⟩:=Qg t (IT t.left_eq z.left_eq) (uI HI.nodup l M (λa a e=>HI.uniq M a e) a2) (λV(X:D W V)=>lc.below X) (show r+1<=m.heap.size by omega);unfold rt at K⊢;simp only[Hi]at K⊢;let bD:D m m.drew:=ld;let bE:D m m.drew.drew:=bD.drew;let N:D m (m.drew.drew.alloc (.cells (tC n).toArray 227)):=bE.alloc bE.size _;let⟨v',f,u,o9,g9⟩:=yB (r+1) (.slice O P Q) q n m.drew.drew.heap.size 1 (ax R2 N) (ao m.drew.drew _) Z (Fx S2 N.size);obtain⟨wa,wb,wc,rfl⟩:=aA o9;let BA:=H (T.trans (N.mono T.size));let j:∀p,(Value.slice O P Q).ownBlock=some p->r+1<=p:=λp w=>(aF (ax R2 N) w).1
 let BU:=H (BA.grown g9 BA.size (λp w=>by have:=j p w;have:=o.out;omega));let GU:=H ((G2.kept (hJ N) bH bH).kept g9 (λe=>by have:=j _ e.symm;have:=a8.out;have:=o.out;omega) (λe=>by have:=j _ e.symm;omega));let⟨O9,LU,LA,SU,LD,b4,s⟩:=Qi o9 (LC f BU) (LC _ BA) (Fx (Fx S2 N.size) g9.size) (LC _ (T.trans (bD.mono T.size))) GU.left_eq (λV(X:Lc g n V)=>iE g n V X);unfold tC at u LA;go_upto_region 5 with fail
 apply rh (S:=Lc g n);generalize j:m.drew=l at LD LA u;let i:({heap:=m.heap,tape:=m.tape,drawn:=m.drawn+1,os:=m.os,output:=m.output}:QM)=l:=j;rw[i];let i:=LD.out;(iterate 7 apply PX 0 i);(iterate 10 apply PX 8 i);refine po 7 λK' j=>?_;go_simp;apply (s _ i).mono;rintro e t⟨rfl,rfl⟩;let k:=i.below ld;refine j _ _ ⟨k,?_⟩;let i:=k;apply PX 18 i;refine po 19 λK' j=>?_
 go_simp;refine j _ _ ⟨LA,?_⟩;let i:=LA.out;refine po 20 λK' j=>?_;apply aV 36 (.tmp 16) (.tmp 35) (v:=.slice O P Q) (v2:=.slice (some (Qz l.drew.heap.size 0)) 1 1) E E E E u;refine j _ _ ⟨LU,?_⟩;let i:=LU.out;refine PX 21 i ?_;refine bY ?_;simp only[Act.put,List.getElem_toArray,List.getElem_cons_succ,List.getElem_cons_zero,Fw,FA,FB];go_wp2;go_roundw
 exact⟨_,a1,q++[n],GU,O9,ST,BU,SU⟩
 case measure=>rw[b4,LE.2];exact a9
def AE:Prop:=∀(v:Value)(os:List Int)(W:World)(base:Nat),W.ownsRow base 3 1 v os.length (Ns .i64 os)->os.length<=4096 ->
 QA 120 #[v] W λe w'=>e=.returned (.tuple #[])/\w'.ownsRow base 3 1 v os.length (Ns .i64 (os.mergeSort λx y=>decide (x<=y)))/\W.grownBy w' v.ownBlock
def Et(c:Option Nat):Value:=.pointer (c.map λb=>⟨b,0,none⟩)
def Met(m:Nat->Option (Bool×List Int))(left:Lit->Bool)(os:List Int):Prop:=os.Nodup/\∀z,z∈os↔∃k:Nat,z=k/\k<4096/\isOpen (m k)=true/\left (.int .i64 k)=false
def Met.step{m left os}(h:Met m left os){k:Nat}(o:k<4096)(p:left (.int .i64 k)=true):
  (isOpen (m k)=true->Met m (λz=>left z && !z.sameKey (.int .i64 k)) (os++[(k:Int)]))/\(isOpen (m k)=false->Met m (λz=>left z && !z.sameKey (.int .i64 k)) os):=by
 let l:∀j:Nat,(Lit.int .i64 (j:Int)).sameKey (.int .i64 (k:Int))=decide (j=k):=λj=>by
  by_cases e:j=k;.subst e;simp[Lit.sameKey]
  have:¬((j:Int)=(k:Int)):=Z;simp[Lit.sameKey,e,this]
 let g:(k:Int)∉os:=λq=>by let⟨j,e,_,_,a⟩:=(h.2 _).1 q;obtain rfl:k=j:=Z;rw[p]at a;cases a
 constructor
 .intro i;refine⟨List.nodup_append.2 ⟨h.1,bH,λa ha b n=>by simp at n;subst n;exact λe=>g (e▸ha)⟩,λz=>?_⟩;rw[F8,h.2 z];simp only[List.mem_singleton,l];constructor
  .rintro(⟨j,rfl,d,c,f⟩|rfl);.exact⟨j,rfl,d,c,by rw[f];rfl⟩
   exact⟨k,rfl,o,i,bH⟩
  rintro⟨j,rfl,d,c,f⟩;by_cases e:j=k;.right;rw[e]
  left;refine⟨j,rfl,d,c,?_⟩;simpa[e]using f
 intro i;refine⟨h.1,λz=>?_⟩;rw[h.2 z];simp only[l];constructor;.rintro⟨j,rfl,d,c,f⟩;exact⟨j,rfl,d,c,by rw[f];rfl⟩
 rintro⟨j,rfl,d,c,f⟩;let e:j≠k:=λe=>by subst e;rw[i]at c;cases c
 refine⟨j,rfl,d,c,?_⟩;simpa[e]using f
def Fr.grownS{S M f w W}{b:QM}(h:Fr S M f f w W)(a:W.grownBy b (some S)):Fr S M f f w b:=
 ⟨a.os.trans h.os,a.tape.trans h.tape,a.output.trans h.output,Fx h.size a.size,λj c d e g=>by
  rw[a.block j (FG c h.size) (by simpa using d)]
  exact h.block j c d e g,h.made⟩
section
variable {B P Q T c dc j n s:Nat}{cf:Cf}{V W:World}{da:Option Addr}{l:List (Nat×Nat×Nat)}{ws:List (Option Addr×Nat×Nat)}{sv:Value}
def I3(h:Hs)(c s j:Nat):List (Nat×Nat×Nat):=((List.range j).filter λk=>decide (h.st c s k≠0)).map λk=>(c,s,k)
def I2(h:Hs)(c s:Nat):List (Nat×Nat×Nat):=(List.range s).flatMap λe=>I3 h c e (aM c)
def I1(h:Hs)(c:Nat):List (Nat×Nat×Nat):=(List.range c).flatMap λc'=>I2 h c' 6
def yx(h:Hs)(x:Nat×Nat×Nat):List Value:=[I x.1,I x.2.1,I x.2.2,I (h.st x.1 x.2.1 x.2.2),I (h.rq x.1 x.2.1 x.2.2)]
def fP(h:Hs)(l:List (Nat×Nat×Nat)):List Value:=l.flatMap (yx h)
def so(h)(l:List (Nat×Nat×Nat))(x:Nat×Nat×Nat):fP h (l++[x])=fP h l++yx h x:=by simp[fP]
def BH(h:Hs)(c s j:Nat)(a:h.st c s j≠0):I3 h c s (j+1)=I3 h c s j++[(c,s,j)]:=by unfold I3;rw[Gs,Hl,Hr];simp[a]
def DV(h:Hs)(c s j:Nat)(a:h.st c s j=0):I3 h c s (j+1)=I3 h c s j:=by unfold I3;rw[Gs,Hl,Hr];simp[a]
def yL(h c s):I3 h c s 0=[]:=rfl
def xz(h c s j):(I3 h c s j).length<=j:=by unfold I3;rw[Gz];have:=Hb (λk=>decide (h.st c s k≠0)) (List.range j);simpa using this
def OO(h c)(s:Nat):I2 h c (s+1)=I2 h c s++I3 h c s (aM c):=by unfold I2;rw[Gs,Gu];simp
def ua(h)(c:Nat):I1 h (c+1)=I1 h c++I2 h c 6:=by unfold I1;rw[Gs,Gu];simp
def x_(h)(c:Nat)(s)(a:c<12):(I2 h c s).length<=s*64:=by
 induction s with
 |zero=>simp[I2]
 |succ s b=>rw[OO,FC];let d:=xz h c s (aM c);let e:=aX a;omega
def Cr(h)(c:Nat)(b:c<=12):(I1 h c).length<=c*384:=by
 induction c with
 |zero=>simp[I1]
 |succ c a=>rw[ua,FC];let d:=x_ h c 6 Z;let e:=a Z;omega
def zy:(prog.info? 223).map (λi=>(i.zero,i.size,i.bytes))=some (some (.agg #[I 0,I 0,I 0,I 0,I 0]),5,40):=E
def xE{W:QM}(B:Nat)(v:QN)(h)(l:List (Nat×Nat×Nat))(x)(g:Nat)(c)(a:W.ownsRow B 223 5 v l.length (fP h l))(o:W.heap[g]?=some (.cells (yx h x).toArray 223))(z:l.length<=100000)(p:B<=W.heap.size):
  ∃d b,QI 34 v (Vl g 1 c) W d b/\b.ownsRow B 223 5 d (l++[x]).length (fP h (l++[x]))/\W.grownBy b v.ownBlock:=by
 let⟨q,e,f,i,k⟩:=G0 zy;let m:∀j u,(yx h x)[j]?=some u->W.cell? (((Qz g 0):Addr).add j)=some u:=λj u r=>by rw[Addr.add_mid,Oi,GT _ _ j _ _ _ o];simpa using r
 let s:∀u∈yx h x,u.oneCell'=true:=λu n=>by simp only[yx,F4,Gp,or_false]at n;rcases n with rfl|rfl|rfl|rfl|rfl<;>rfl
 let⟨d,b,t,w,y,_⟩:=Ia (P:=prog) W B 34 34 223 q _ 5 40 underlying34 e f i k rfl Z v _ _ a (Qz g 0) 1 c (yx h x) rfl m s (by unfold maxLen;omega) Z p;exact⟨d,b,t,by rwa[so,FC],y⟩
def lN(y:Ly):List Value:=(List.range 72).map λi=>J (y.sb (i/6) (i%6)) 0
def Hp.range72{y d h}(a:Hp B y d cf h W):W.rangeAt y.P 7 (lN y):=by
 intro j v hv;let b:j<72:=by have:=(Fz.1 hv).1;simpa[lN]using this
 rw[a.cell (7+j) Z _ rfl];unfold boxF;rw[GO Z,GP Z,show 7+j-7=j by omega];rw[<-hv];simp[lN,b]
def EL(y)(k:Nat)(a:k<12)(w:QM):(Instr.index 82 (.agg (lN y).toArray) (I k)).run prog w=.ok (.agg (kv y k).toArray) w:=by rcases(show k=0\/k=1\/k=2\/k=3\/k=4\/k=5\/k=6\/k=7\/k=8\/k=9\/k=10\/k=11 by omega)with rfl|rfl|rfl|rfl|rfl|rfl|rfl|rfl|rfl|rfl|rfl|rfl<;>kernel_rfl
def EW(y c)(k:Nat)(a:k<6)(w:QM):(Instr.index 81 (.agg (kv y c).toArray) (I k)).run prog w=.ok (J (y.sb c k) 0) w:=by rcases(show k=0\/k=1\/k=2\/k=3\/k=4\/k=5 by omega)with rfl|rfl|rfl|rfl|rfl|rfl<;>kernel_rfl
structure Sv(b g:Nat)(s j:Nat)(st rq:Int)(V:QM):Prop where
 c0:V.cell? (Qz b 1)=some (I s)
 c1:V.cell? (Qz g 3)=some (I j)
 c2:V.cell? (Qz g 0)=some (I st)
 c3:V.cell? (Qz g 1)=some (I rq)
def Sv.at{b g:Nat}{st rq on r cap}(d:V.heap[b]?=some (.cells (CZ c s on r n cap) 198))(a:V.heap[g]?=some (.cells (Oe st rq b j) 203)):Sv b g s j st rq V:=
 ⟨bJ d,bJ a,bJ a,bJ a⟩
def Sv.below{b g st rq V'}(h:Sv b g s j st rq V)(k:D V V'):Sv b g s j st rq V':=⟨NI k h.c0,NI k h.c1,NI k h.c2,NI k h.c3⟩
def pD(B y d cf h W)(u:Hp B y d cf h W):
  Calls prog 65 #[J y.P 0] W λe W'=>∃v,e=QJ v/\W'.ownsRow W.heap.size 223 5 v (I1 h 12).length (fP h (I1 h 12))/\D W W':=by
 have⟨b,x,z⟩:=Qe u.range72 (λk T w=>EL y k T w) (λc k T w=>EW y c k T w);unfold kv at x z;have⟨o,SN⟩:=y7 (λV(A:D W V)=>u.below A) (λc(hc:c<12)=>(aX hc));go_in;go_wp2_with (refine wpList_load_mid rfl 82 _ rfl _ _ rfl _ _ b underlying82 rfl E ?_);generalize a:(lN y).toArray=a5 at*;go_loopw [3,14] (λv i wr=>∃c:Nat,c<=12/\i=I c/\Hid (wr.ownsRow W.heap.size 223 5 v (I1 h c).length (fP h (I1 h c)))/\Hid (D W wr)) (λ_ i _=>12-(intOf i).toNat);exact⟨0,Z,rfl,H ⟨rfl,.inl ⟨rfl,rfl⟩⟩,H th⟩
 obtain⟨c,hc,rfl,f,b⟩:=hrel;obtain⟨N,O,P,rfl⟩:=aA f;by_cases g:c<12
 ·have a6:(c:Int)<12:=Z;have X:=λw=>x.out c g w
  have q:D wr (wr.alloc (.cells #[J (y.sb c 0) 0,J (y.sb c 1) 0,J (y.sb c 2) 0,J (y.sb c 3) 0,J (y.sb c 4) 0,J (y.sb c 5) 0] 81)):=ph;have⟨Y,B1⟩:=y7 (ax f q) (b.trans (q.mono b.size));have a0:=SN.out c g;have a7:=Cr h c Z;go_wp2;generalize wr.alloc _=V1 at Y B1⊢;go_loopw [3,19] (λv i wr=>∃s:Nat,s<=6/\i=I s/\Hid (wr.ownsRow W.heap.size 223 5 v (I1 h c++I2 h c s).length (fP h (I1 h c++I2 h c s)))/\Hid (D W wr)) (λ_ i _=>6-(intOf i).toNat);(case atStart=>exact⟨0,Z,rfl,H (by rw[show I2 h c 0=[]from rfl,Gl];exact Y),B1⟩);case round=>
   obtain⟨s,hs,rfl,f,b⟩:=hrel;obtain⟨N,O,P,rfl⟩:=aA f;by_cases l:s<6
   ·have a8:(s:Int)<6:=Z;have a1:=λw=>z.out c s l w
    have d3:=(o wr b).bc c s g l |>.d3
    have a9:=x_ h c s g;have⟨HR,HY,HN,HL⟩:=Qf (λV(A:D W V)j(t:j<aM c)=>IT ((o V A).rowAt c s j g l t) (Sv.at ((o V A).sl c s g l) ((o V A).sm c s j g l t))) (λj(t:h.st c s j≠0)=>BH h c s j t) (λj(t:h.st c s j=0)=>DV h c s j t) (λj=>xz h c s j);have⟨n,hn⟩:=Qa (aM c);have a2:=H hn;rw[hn]at d3 HR a0;generalize y.sr c s=r at*;generalize y.sc c s=a3 at*;go_wp2;go_loopw [3,27] (λv i wr=>∃j:Nat,j<=n/\i=I j/\Hid (wr.ownsRow W.heap.size 223 5 v (I1 h c++I2 h c s++I3 h c s j).length (fP h (I1 h c++I2 h c s++I3 h c s j)))/\Hid (D W wr)) (λ_ i _=>n-(intOf i).toNat);(case atStart=>exact⟨0,Z,rfl,H (by rw[yL,Gl];exact f),b⟩);case round=>
     obtain⟨j,t,rfl,f,b⟩:=hrel;obtain⟨N,O,P,rfl⟩:=aA f;by_cases F:j<n
     ·have⟨r0,sv⟩:=HR.out wr b j F;have G:=sv.c2;have K:(I1 h c++I2 h c s++I3 h c s j).length<=100000:=by rw[FC,FC];have:=HL.out j;omega
      by_cases L:h.st c s j=0
      ·have a:=H (HN j L);rw[L]at G;go_wp2;go_roundw;(exact⟨j+1,Z,aY,H (by rw[a];exact f),b⟩);exact QE
      have EY:=H (HY j L);have b0:(h.st c s j==0)=false:=(by simpa using L);have a4:(h.st c s j !=0)=true:=(by simpa using L);have SD:=H (sv.below (Fu _ wr).drew);have M:D wr wr.drew:=ld;have q:Below wr.drew.heap.size wr.drew (wr.drew.alloc (.cells (yx h (c,s,j)).toArray 223)):=ph;have Q:=H ((b.trans (M.mono b.size)).trans (q.mono (Fx b.size M.size)));have⟨v',a,m,o9,g9⟩:=xE W.heap.size (.slice N O P) h (I1 h c++I2 h c s++I3 h c s j) (c,s,j) wr.drew.heap.size 1 (ax (ax f M) q) (ao wr.drew _) K Q.size;obtain⟨wa,wb,wc,rfl⟩:=aA o9;have BU:=H (Q.grown g9 Q.size (λp u=>(aF (ax (ax f M) q) u).1));refine(let_mvar%?A:=Sv (y.sb c s) (y.sm c s j) s j (h.st c s j) (h.rq c s j);?_);have⟨R,SU,O9⟩:=Qe (SD.below q) (show ?A a from(HR a BU j F).2) o9;unfold yx at m R;(go_upto_region 12 with fail);refine rh (S:=?A) ?_;generalize M:wr.drew=V1 at SD R m;have p:({heap:=wr.heap,tape:=wr.tape,drawn:=wr.drawn+1,os:=wr.os,output:=wr.output}:QM)=V1:=M;rw[p];have p:=SD.out;(iterate 21 (refine py p ?_;simp only[f0,f1,Nat.reduceAdd,lz,l0,ls]));refine po 21 λK' G=>?_;go_simp;refine G _ _ ⟨R,?_⟩;have p:=R.out;refine po 22 λK' G=>?_
      apply aV 34 (.tmp 37) (.tmp 58) (v:=.slice N O P) (v2:=Vl V1.heap.size 1 1) E E E E m;refine G _ _ ⟨SU,?_⟩;have p:=SU.out;refine py p ?_;simp only[f0,f1,Nat.reduceAdd,lz,l0,ls];refine bY ?_;go_wp2;go_roundw;(exact⟨j+1,Z,aY,H (by rw[EY,<-GJ];exact O9),BU⟩);exact QE
     obtain rfl:j=n:=Z;go_wp2;go_roundw;(exact⟨s+1,Z,aY,H (by rw[OO,a2,<-GJ];exact f),b⟩);exact QE
   obtain rfl:s=6:=Z;go_wp2;go_roundw;(exact⟨c+1,Z,aY,H (by rw[ua];exact f),b⟩);exact QE
 obtain rfl:c=12:=Z;go_wp2;go_ret;exact⟨_,rfl,f,b⟩
def C7(cf:Cf)(da:Option Addr)(dc T:Nat)(sv wv:Value):Array Value:=#[I cf.mix,I cf.fifo,I cf.large,I cf.bud,U cf.key,.slice da cf.ds.length dc,J T 0,sv,wv,C,C,C,I 0]
structure Nw(B:Nat)(cf:Cf)(da:Option Addr)(dc P T Q:Nat)(l:List (Nat×Nat×Nat))(ws:List (Option Addr×Nat×Nat))(sv wv:QN)(W:QM):Prop where
 box:W.heap[P]?=some (.cells (C7 cf da dc T sv wv) 240)
 bp:B<=P
 bq:B<=Q
 ds:Sl W da cf.ds
 sp:Sx T Q 283 (cf.bud:Nat) (λ_=>none) W
 sl:W.ownsRow B 242 6 sv l.length (l.flatMap yI)
 wt:W.ownsRow B 123 3 wv ws.length (ws.flatMap (rU cf.fifo))
 wm:∀p∈ws,Wq W (.slice p.1 p.2.1 p.2.2) (List.replicate cf.mix (-1))
def Nw.below{B cf da dc P T Q l ws sv wv W W'}(h:Nw B cf da dc P T Q l ws sv wv W)(a:D W W'):Nw B cf da dc P T Q l ws sv wv W':=by let k:Ky (λ_=>False) W W':=Ky.below a;exact⟨k.XC h.box (λe=>e),h.bp,h.bq,h.ds.ky k (λe=>e),h.sp.below a,ai h.sl k (λe=>e),ai h.wt k (λe=>e),λp b=>(h.wm p b).ky k (λe=>e)⟩
def Nw.cell{B cf da dc P T Q l ws sv wv W}(h:Nw B cf da dc P T Q l ws sv wv W)(i:Nat)(v:QN)(hv:(C7 cf da dc T sv wv)[i]?=some v):W.cell? (Qz P i)=some v:=by simp[QC,h.box,hv]
def Nw.addS{wv}(h:Nw B cf da dc P T Q l ws sv wv V)(k:B<=V.heap.size)(t)(o:l.length<=2000):
  ∃b a,QI 237 sv (Vl V.heap.size 1 1) (V.alloc (.cells (yI t).toArray 242)) b a/\a.cell? (Qz P 7)=some sv/\a.frozen? (Qz P 7)=false/\Nw B cf da dc P T Q (l++[t]) ws b wv (a.setCell (Qz P 7) b)/\Below B V (a.setCell (Qz P 7) b):=by
 let i:D V (V.alloc (.cells (yI t).toArray 242)):=ph;let d:=h.below i;let m:=Fx k i.size;let⟨b,a,q,r,n⟩:=BL B sv l t V.heap.size 1 d.sl (ao V _) o m;let e:Ky (· =242) _ a:=Ky.grownO (λP j=>by obtain⟨_,c,f⟩:=aF d.sl j;exact⟨c,242,_,f,rfl⟩) n;let g:=e.XC d.box;let f:Ky (· =240) a (a.setCell (Qz P 7) b):=Ky.grown g rfl (au (Q6 a P) 7 b);refine⟨b,a,q,by simp[QC,g,C7],by simp[QD,g],⟨?_,h.bp,h.bq,(d.ds.ky e ar).ky f ar,(d.sp.ky e ar ar ar).ky f ar ar ar,ai r f,ai (ai d.wt e ar) f,λp s=>((d.wm p s).ky e ar).ky f ar⟩,?_⟩;.simp[World.setCell,FD,g,C7]
 exact((i.mono k).trans ((Fu B _).grown n m (λP j=>(aF d.sl j).1))).setCell h.bp _
def Nw.addW{wv}(h:Nw B cf da dc P T Q l ws sv wv V)(m:B<=V.heap.size)(t:QP×Nat×Nat)(r:Wq V (.slice t.1 t.2.1 t.2.2) (List.replicate cf.mix (-1)))(s:ws.length<=2000):
  ∃b a,QI 35 wv (Vl V.heap.size 1 1) (V.alloc (.cells (rU cf.fifo t).toArray 123)) b a/\a.cell? (Qz P 8)=some wv/\a.frozen? (Qz P 8)=false/\Nw B cf da dc P T Q l (ws++[t]) sv b (a.setCell (Qz P 8) b)/\Below B V (a.setCell (Qz P 8) b)/\Below B V a:=by
 refine(let_mvar%?A:=V.alloc (.cells (rU cf.fifo t).toArray 123);?_);let i:D V ?A:=ph;let u:Ky (λ_=>False) V ?A:=Ky.below i;let d:=h.below i;let n:=Fx m i.size;let⟨b,a,v,w,o⟩:=By B wv cf.fifo ws t V.heap.size 1 d.wt (ao V _) s n;let f:Ky (· =123) _ a:=Ky.grownO (λP k=>by obtain⟨_,c,e⟩:=aF d.wt k;exact⟨c,123,_,e,rfl⟩) o;let j:=f.XC d.box;let q:=(i.mono m).trans ((Fu B _).grown o n (λP k=>(aF d.wt k).1));let g:Ky (· =240) a (a.setCell (Qz P 8) b):=Ky.grown j rfl (au (Q6 a P) 8 b);refine⟨b,a,v,by simp[QC,j,C7],by simp[QD,j],⟨?_,h.bp,h.bq,(d.ds.ky f ar).ky g ar,(d.sp.ky f ar ar ar).ky g ar ar ar,ai (ai d.sl f ar) g,ai w g,λp e=>?_⟩,q.setCell h.bp _,q⟩;.simp[World.setCell,FD,j,C7]
 rcases F8.1 e with e|e;.exact((d.wm p e).ky f ar).ky g ar
 simp at e;subst e;exact((r.ky u (λe=>e)).ky f ar).ky g ar
def Nw.made{wv}(h:Nw B cf da dc P T Q dF ws sv wv W)(m:ws.length=12)(k:∀g,¬e_ Q W g):∃x:Sm,x.P=P/\l_ x/\Sh B x cf (aP cf) W:=by
 let d:dF.length=1062:=by decide +kernel
 obtain⟨q,n,rfl⟩:=aK h.sl;obtain⟨G,rfl⟩:=cr h.sl Z;let f:=h.sl;let j:=h.box;rw[d]at f j
 let a:Nat->QP×Nat×Nat:=λc=>(ws[c]?).getD (none,0,0)
 refine⟨⟨P,T,Q,G,n,da,dc,wv,C,C,C,λc=>.slice (a c).1 (a c).2.1 (a c).2.2,λ_=>C⟩,rfl,λg l=>by simp[Value.ownBlock]at l,⟨j,h.bp,h.bq,λg l=>absurd l (k g),h.ds,h.sp,f,?_,λc r=>⟨?_,⟨none,0,rfl,λ_=>rfl,?_⟩⟩,⟨rfl,.inl ⟨rfl,rfl⟩⟩,⟨rfl,.inl ⟨rfl,rfl⟩⟩,⟨rfl,.inl ⟨rfl,rfl⟩⟩⟩⟩
 .let b:=h.wt;rw[m]at b;let e:ws=(List.range 12).map a:=by
   apply Ho;intro i;by_cases o:i<12
   .rw[Gv,List.getElem?_range o];have:i<ws.length:=Z;simp[a,Fy this]
   rw[FJ Z,FJ bG]
  let p:ws.flatMap (rU cf.fifo)=(List.range 12).flatMap λc=>[.slice (a c).1 (a c).2.1 (a c).2.2,C,I cf.fifo]:=by
   conv=>lhs;rw[e]
   rw[List.flatMap_map];rfl
  rw[p]at b;exact b
 .let b:a c∈ws:=by have:c<ws.length:=Z;simp only[a,Fy this,Ht];exact Iw this
  exact h.wm _ b
 exact .inl ⟨rfl,rfl⟩
def Ow.wq{a zs}(h:Ow W B a c zs):Wq W (.slice a zs.length c) zs:=by
 refine⟨a,c,rfl,?_,?_⟩
 .rcases h.2 with⟨e,j⟩|⟨g,d,b,e,_⟩;.simp at e;intro _;exact e.2.2
  simp at e;intro f;rw[f]at e;simp at e
 rcases h.2 with⟨e,j⟩|⟨g,d,b,e,m,l,n,o,p,f⟩;.simp at e;exact .inl ⟨e.1,List.length_eq_zero_iff.1 j⟩
 simp at e;refine .inr ⟨g,e.1,b,l,?_,λi k=>?_⟩;.rw[<-f];simp;omega
 rw[<-f,Hf (by rw[<-f]at k;simp at k;omega),Gg]
def ly{b:Nat}{e:QO}{d:Nat}{v:QN}{f:List QN}(h:W.ownsRow b e d v n f):∃a n c,v=.slice a n c:=by let⟨a,c,h⟩:=aK h;exact⟨a,n,c,h⟩
def D5(a:c<12):(rs (c:Int)+(s:Int)*(pg (c:Int)+1))*1024+(j:Int)*sz (c:Int)=((bh c s j:Nat):Int):=by rw[OT a,pU a,uT a];unfold bh aD;simp
def Nw.mono{a:Nat}{wv}(h:Nw B cf da dc P T Q l ws sv wv W)(b:a<=B):Nw a cf da dc P T Q l ws sv wv W:=
 ⟨h.box,Fx b h.bp,Fx b h.bq,h.ds,h.sp,dm h.sl b,dm h.wt b,h.wm⟩
def Sx.noPg{bud}(h:Sx T Q n bud (λ_=>none) W)(g):¬e_ Q W g:=by
 rintro⟨k,hk⟩;let⟨c,b,e,d,_⟩:=h.row;simp only[QC,b]at hk;by_cases a:k<n;.have:=(d k a).2.2;simp at hk;rw[this]at hk;simp at hk
 simp at hk;have:=(Array.getElem?_eq_some_iff.1 hk).1;omega
def zP:DG:=by
 intro cf da dc W e b;unfold gZ;refine(let_mvar%?C:=I cf.fifo;let_mvar%?E:=I cf.mix;let_mvar%?F:=I cf.large;let_mvar%?G:=I cf.bud;let_mvar%?H:=U cf.key;?_);have d:Below W.heap.size W (W.alloc (.cells #[?E,?C,?F,?G,?H,.slice da cf.ds.length dc] 27)):=ph;have a:=ao W (.cells #[?E,?C,?F,?G,?H,.slice da cf.ds.length dc] 27);have⟨t,v,HD,i⟩:=Qf mA (λV=>Ce 283 (cf.bud:Nat) V Z) e b;go_enter func129,ntmps129;go_wp2_with fail;generalize W.alloc _=V at d a⊢;have⟨BW,M⟩:=y7 d d.size;have⟨Y,b⟩:=Qa W.heap.size;rw[b]at a⊢;refine(let_mvar%?B:=Below V.heap.size V;?_);have f:Hid (∀d,?B d->QG d Y 0 (?E)/\QG d Y 1 (?C)/\QG d Y 2 (?F)/\QG d Y 3 (?G)/\QG d Y 4 (?H)/\QG d Y 5 (.slice da cf.ds.length dc)):=(λd h=>⟨NI h (by simp only[QC,a];rfl),NI h (by simp only[QC,a];rfl),NI h (by simp only[QC,a];rfl),NI h (by simp only[QC,a];rfl),NI h (by simp only[QC,a];rfl),NI h (by simp only[QC,a];rfl)⟩)
 refine wp_region_held (S:=λd=>QG d Y 0 (?E)/\QG d Y 1 (?C)/\QG d Y 2 (?F)/\QG d Y 3 (?G)/\QG d Y 4 (?H)/\QG d Y 5 (.slice da cf.ds.length dc)) E ?_;simp only[FX,FN,F1,Nat.reduceAdd,FP,FO,FY,FV,F5];have a:=f.out _ ld;refine pf 0 (.agg #[?E,?C,?F,?G,?H,.slice da cf.ds.length dc]) rfl a (λW a=>by obtain⟨y0,y1,y2,y3,y4,y5⟩:=a;first|(go_simp;done)|(go_simp;omega)) ?_;refine pf 2 (J Y 3) rfl a (λ_ _=>E) ?_;refine pf 3 (?G) rfl a (λW a=>by obtain⟨y0,y1,y2,y3,y4,y5⟩:=a;first|(go_simp;done)|(go_simp;omega)) ?_;refine po 1 λK' b=>?_;go_simp
 refine(t _).mono ?_;rintro e k⟨rfl,g⟩;have u:?B k:=⟨g.os,g.tape,g.output,g.size,g.block⟩;have y:=f.out _ u;refine b _ _ ⟨y,?_⟩;have a:=y;refine po 4 λK' b=>?_;go_simp
 refine(v _).mono ?_;rintro e z⟨T,Q,rfl,w,n,hT,x⟩;have l:=az u n;have o:=f.out _ l;refine b _ _ ⟨o,?_⟩;have a:=o;refine pf 5 (.agg #[?E,?C,?F,?G,?H,.slice da cf.ds.length dc,J T 0,C,C,C,C,C,I 0]) rfl a (λ_ _=>E) ?_;refine po 6 λK' b=>?_;go_simp
 refine(let_mvar%?A:=z.alloc (.cells #[?E,?C,?F,?G,?H,.slice da cf.ds.length dc,J T 0,C,C,C,C,C,I 0] 240);?_);have m:Below z.heap.size z ?A:=ph;have q:=f.out _ (az l m);refine b _ _ ⟨q,?_⟩;have a:=q;refine pf 7 (J z.heap.size 0) rfl a (λ_ _=>E) ?_;refine bY ?_;have K3:=H (az l m);have⟨P,A⟩:=Qa z.heap.size;refine(let_mvar%?D:=Nw V.heap.size cf da dc;?_);have N0:=H (show ?D z.heap.size T Q (dF.take (fQ 0)) [] C C ?A from
  ⟨ao z _,(az u n).size,Fx u.size x,i.ky (Ky.below (BW.trans (K3.mono M)):Ky (λ_=>False) _ _) (λe=>e),w.below m,⟨rfl,.inl ⟨rfl,rfl⟩⟩,⟨rfl,.inl ⟨rfl,rfl⟩⟩,λp p=>by cases p⟩)
 rw[A]at N0⊢;have⟨r,LN⟩:=y7 (show∀d,?B d->QG d Y 0 (?E)/\QG d Y 1 (?C)from λd h=>⟨(f d h).1,(f d h).2.1⟩) (λV9=>xY cf.mix cf.fifo V9 HD.mix);unfold wv at LN;generalize z.alloc _=V3 at N0 K3⊢;go_wp2;go_loopw [4] (λi G=>∃c:Nat,c<=12/\i=I c/\∃(ws:List (Option Addr×Nat×Nat))(sv wv:QN),Hid (ws.length=c)/\Hid (?D P T Q (dF.take (fQ c)) ws sv wv G)/\Hid (?B G)) (λi _=>12-(intOf i).toNat);exact⟨0,aa,rfl,[],_,_,H rfl,N0,K3⟩
 obtain⟨c,hc,rfl,ws,sv,wv,l,N,O⟩:=hrel;by_cases m:c<12
 ·have⟨wa,wc,b8⟩:=aK N.wt;subst b8;have c8:wr.cell? (Qz P 8)=some (.slice wa ws.length wc):=N.cell 8 _ rfl;(go_upto_if 37 with fail);go_cut [4] (λn f=>n=I c/\∃(ws:List (Option Addr×Nat×Nat))(wv:QN),Hid (ws.length=c+1)/\Hid (?D P T Q (dF.take (fQ c)) ws sv wv f)/\Hid (?B f));case first=>
   refine wp_region_held (S:=λd=>QG d Y 0 (?E)/\QG d Y 1 (?C)) E ?_;simp only[FX,FN,F1,Nat.reduceAdd,FP,FO,FY,FV,F5];have a:=r.out _ O.drew;refine pf 0 (J P 0) rfl a (λ_ _=>E) ?_;refine pf 1 (J P 0) rfl a (λ_ _=>E) ?_;refine pf 2 (J P 0) rfl a (λ_ _=>E) ?_;refine pf 3 (J P 8) rfl a (λ_ _=>E) ?_;refine pf 5 (J Y 0) rfl a (λ_ _=>E) ?_;refine pf 6 (?E) rfl a (λW a=>by obtain⟨y0,y1⟩:=a;first|(go_simp;done)|(go_simp;omega)) ?_;refine pf 7 (J Y 1) rfl a (λ_ _=>E) ?_;refine pf 8 (?C) rfl a (λW a=>by obtain⟨y0,y1⟩:=a;first|(go_simp;done)|(go_simp;omega)) ?_;refine lZ [4,9] λi9 f=>?_;rcases(by simpa using f:i9=4\/i9=9)with f|f
   ·subst f;refine cw λK' b=>?_;go_simp
    refine b _ _ ⟨a,?_⟩;refine po 9 λK' b=>?_;go_simp
    refine(LN _).mono ?_;rintro e k⟨n,o,rfl,R,g⟩;have u:Below wr.heap.size wr k:=⟨g.os,g.tape,g.output,g.size,g.block⟩;have⟨w,t⟩:=y7 (N.below u) (O.trans (u.mono O.size));have p:Hid (V.heap.size<=k.heap.size):=t.size;have⟨v4,w4,e4,c4,f4,X,x,v⟩:=w.addW p (n,cf.mix,o) (by have:=Ow.wq R;rw[Gc]at this;exact this) (by rw[l];omega);have⟨b9,c0,c1,a0⟩:=ly X.wt;subst a0;have⟨A,B4,B⟩:=Qe X (t.trans x) (t.trans v);have c2:k.cell? (Qz P 8)=some (.slice wa ws.length wc):=w.cell 8 _ rfl;have c3:(k.alloc (.cells #[.slice n cf.mix o,C,?C] 123)).cell? (Qz P 8)=some (.slice wa ws.length wc):=(w.below (th.alloc gi (.cells (rU cf.fifo (n,cf.mix,o)).toArray 123))).cell 8 _ rfl;unfold rU at e4;have y:=r.out _ t;refine b _ _ ⟨y,?_⟩;have a:=y;refine po 10 λK' b=>?_;go_simp
    have K:=r.out _ (t.trans (((Fu k.heap.size k).alloc gi (.cells #[.slice n cf.mix o,C,?C] 123)).mono p));refine b _ _ ⟨K,?_⟩;have a:=K;refine gu 11 ?_;have L:=r.out _ B;refine ur e4 ⟨L,?_⟩;have a:=L;refine pf 12 (J P 0) rfl a (λ_ _=>E) ?_;refine pf 13 (J P 8) rfl a (λ_ _=>E) ?_;refine po 14 λK' b=>?_;go_simp
    have h5:=r.out _ B4;refine b _ _ ⟨h5,?_⟩;refine bY ?_;go_wp2_with fail;go_meet;exact⟨rfl,ws++[(n,cf.mix,o)],_,H (by rw[FC,l];rfl),A,B4⟩
   ·subst f;refine cw λK' b=>?_;go_simp
    refine(LN _).mono ?_;rintro e k⟨n,o,rfl,R,g⟩;have u:Below wr.heap.size wr k:=⟨g.os,g.tape,g.output,g.size,g.block⟩;have⟨w,t⟩:=y7 (N.below u) (O.trans (u.mono O.size));have p:Hid (V.heap.size<=k.heap.size):=t.size;have⟨v4,w4,e4,c4,f4,X,x,v⟩:=w.addW p (n,cf.mix,o) (by have:=Ow.wq R;rw[Gc]at this;exact this) (by rw[l];omega);have⟨b9,c0,c1,a0⟩:=ly X.wt;subst a0;have⟨A,B4,B⟩:=Qe X (t.trans x) (t.trans v);have c2:k.cell? (Qz P 8)=some (.slice wa ws.length wc):=w.cell 8 _ rfl;have c3:(k.alloc (.cells #[.slice n cf.mix o,C,?C] 123)).cell? (Qz P 8)=some (.slice wa ws.length wc):=(w.below (th.alloc gi (.cells (rU cf.fifo (n,cf.mix,o)).toArray 123))).cell 8 _ rfl;unfold rU at e4;have y:=r.out _ t;refine b _ _ ⟨y,?_⟩;have a:=y;refine lZ [4,10] λi9 f=>?_;rcases(by simpa using f:i9=4\/i9=10)with f|f
    ·subst f;refine cw λK' b=>?_;go_simp
     refine b _ _ ⟨a,?_⟩;refine po 10 λK' b=>?_;go_simp
     have K:=r.out _ (t.trans (((Fu k.heap.size k).alloc gi (.cells #[.slice n cf.mix o,C,?C] 123)).mono p));refine b _ _ ⟨K,?_⟩;have a:=K;refine gu 11 ?_;have L:=r.out _ B;refine ur e4 ⟨L,?_⟩;have a:=L;refine pf 12 (J P 0) rfl a (λ_ _=>E) ?_;refine pf 13 (J P 8) rfl a (λ_ _=>E) ?_;refine po 14 λK' b=>?_;go_simp
     have h5:=r.out _ B4;refine b _ _ ⟨h5,?_⟩;refine bY ?_;go_wp2_with fail;go_meet;exact⟨rfl,ws++[(n,cf.mix,o)],_,H (by rw[FC,l];rfl),A,B4⟩
    ·subst f;refine cw λK' b=>?_;go_simp
     have K:=r.out _ (t.trans (((Fu k.heap.size k).alloc gi (.cells #[.slice n cf.mix o,C,?C] 123)).mono p));refine b _ _ ⟨K,?_⟩;have a:=K;refine po 4 λK' b=>?_;go_simp
     refine b _ _ ⟨a,?_⟩;refine gu 11 ?_;have L:=r.out _ B;refine ur e4 ⟨L,?_⟩;have a:=L;refine pf 12 (J P 0) rfl a (λ_ _=>E) ?_;refine pf 13 (J P 8) rfl a (λ_ _=>E) ?_;refine po 14 λK' b=>?_;go_simp
     have h5:=r.out _ B4;refine b _ _ ⟨h5,?_⟩;refine bY ?_;go_wp2_with fail;go_meet;exact⟨rfl,ws++[(n,cf.mix,o)],_,H (by rw[FC,l];rfl),A,B4⟩
  case rest=>
   obtain⟨rfl,a1,a2,a6,w,a7⟩:=hcut;go_wp2;go_loopw [5] (λi G=>∃s:Nat,s<=6/\i=I s/\∃sv:QN,Hid (?D P T Q (dF.take (fQ c+s*aM c)) a1 sv a2 G)/\Hid (?B G)) (λi _=>6-(intOf i).toNat);(case atStart=>exact⟨0,aa,rfl,sv,H (by rw[Nat.zero_mul];exact w),a7⟩);case round=>
    obtain⟨s,hs,rfl,a8,N2,a3⟩:=hrel;by_cases c5:s<6
    ·have d0:=H (λV9=>xM c V9 m);go_wp2;simp only[show decide ((s:Int)<6)=true from G8 Z];go_loopw [6] (λi G=>∃j:Nat,j<=aM c/\i=I j/\∃sv:QN,Hid (?D P T Q (dF.take (fQ c+s*aM c+j)) a1 sv a2 G)/\Hid (?B G)) (λi _=>aM c-(intOf i).toNat);(case atStart=>exact⟨0,aa,rfl,a8,N2,a3⟩);case round=>
      obtain⟨j,hj,rfl,d1,N3,b0⟩:=hrel;have a4:aM c<=64:=by have:∀c∈List.range 12,aM c<=64:=ar;exact this c (Gh.2 m)
      have⟨sn,q⟩:=Qa (aM c);have F:=H q;go_wp2_with fail;refine(d0 _).mono ?_;rintro e V4⟨rfl,x⟩;have⟨A,a5⟩:=y7 (N3.below x) (az b0 x);rw[q]at hj a4⊢;by_cases d2:j<sn
      ·have TN:=H (uU (c:=c) (s:=s) (j:=j) m c5 (by rw[q];exact d2));have SA:=H (λV9=>kJ (c:Int) (s:Int) (j:Int) ⟨Z,Z,Z,Z,Z,by rw[vA m,q];omega⟩ V9);rw[D5 m]at SA;go_wp2_with fail;refine(SA _).mono ?_;rintro e V5⟨rfl,b5⟩;have⟨N5,b3⟩:=y7 (A.below b5) (az a5 b5);have⟨sa,b7,sc,d3⟩:=ly N5.sl;subst d3;have c7:V5.cell? (Qz P 7)=some (.slice sa b7 sc):=N5.cell 7 _ rfl;have⟨v6,w6,e6,c6,f6,n6,b6⟩:=N5.addS b3.size (c,s,j) (by rw[Hm,fG];omega);have⟨d7,d8,d9,d4⟩:=ly n6.sl;subst d4;have⟨N6,d5⟩:=y7 n6 (b3.trans b6);unfold yI at e6;have e0:(V5.alloc (.cells #[I c,I s,I j,U (bh c s j:Nat),I 0,I 0] 242)).cell? (Qz P 7)=some (.slice sa b7 sc):=(N5.below (th.alloc gi (.cells #[I c,I s,I j,U (bh c s j:Nat),I 0,I 0] 242))).cell 7 _ rfl;go_wp2_with (at_builtin;refine up e6 ?_);go_roundw;(exact⟨j+1,by rw[F];omega,aY,_,H (by rw[<-H_,TN];exact N6),d5⟩);case measure=>(have:=F.out;simp[intOf];omega)
      ·obtain rfl:j=sn:=Z;go_wp2;go_roundw;(exact⟨s+1,Z,aY,d1,H (by rw[Gy,GF,<-H_,F];rw[F]at A;exact A),a5⟩);exact QE
    ·obtain rfl:s=6:=Z;go_wp2;go_roundw;(exact⟨c+1,Z,aY,a1,a8,a2,a6,H (by rw[<-sN c m];exact N2),a3⟩);exact QE
 ·obtain rfl:c=12:=Z;go_wp2;go_ret;have⟨x,f,n,o⟩:=Nw.made (N.mono M) l (λg=>N.sp.noPg g);exact⟨x,by rw[f];rfl,n,o,BW.trans (O.mono M)⟩
end
section
variable {S:TypeId->Prop}{cf:Cf}{h:Hs}{vw:Value}{V V' V0 W:World}{G N X Y c i j:Nat}{A:Array Value}
def Dh:AE:=by
 intro v a W f h i;rcases h.2 with⟨rfl,j⟩|⟨g,b,c,rfl,k,d,l,m,o,p⟩;.have n:a=[]:=Ik (by simpa using j);subst n;apply(Any.slices_Sort_int_none Tryz.lays189 none 0 W).mono;rintro e q⟨rfl,rfl⟩;exact⟨rfl,by simpa[Ns]using h,⟨rfl,rfl,rfl,gi,λ_ _ _=>rfl⟩⟩
 let r:c.toList.take a.length=a.map (Value.int .i64):=by simpa[Ns]using p
 apply(Any.slices_Sort_int Tryz.lays189 g 0 b a W (holds_of_blockI d r) (ag d) Z).mono;rintro e q⟨rfl,n,s,rfl⟩;exact⟨rfl,ownsRow_sortedI (List.length_mergeSort a) k d l m o,grownBy_sortedI _⟩
def xi(a:AE)(S M)(nn:Nat)(bud f m w)(h:Im S M 0 nn bud f w)(b:Pg f m w):
  QA 64 #[J S 0] w λe w'=>∃v o,e=QJ (.tuple #[I (bm f 0 4096:Nat),v])/\w'.ownsRow w.heap.size 3 1 v o.length (Ns .i64 (o.mergeSort λx y=>decide (x<=y)))/\Met m (λ_=>false) o/\D w w':=by
 have⟨i0,a1,a2,a3,a4⟩:=G0 Tryz.info3Op;have⟨HI,HP,a5⟩:=Qe h b a;clear h b a;go_enter_defers func64,ntmps64;go_wp2_with fail;refine(fX HI).mono ?_;rintro e V⟨rfl,l⟩;have IV:=H (l▸HI.st 1);have PV:=H (show Pg f m V by rw[l];exact HP.other (λk b R=>XB (HP.apart HI R).1));have O:=H (show Fr S M f f w V by rw[l];exact(Fr.refl S M f w).grownS (au (Q6 w S) 0 _));have⟨a,d,a6,s,i,g⟩:=IV.only;have HD:=H (IT s (IT i g));have cM:V.cell? (Qz S 4)=some (.map (some M)):=by simp[QC,IV.box]
 have b0:bm f 0 4096<=4096:=ep f 0 4096;have a7:=H l;clear l s i g;go_wp2_with (at_range;refine wpList_range_own _ rfl _ 178 rfl 3 217 g_ underlying178 ev M 4096 a rfl d ?_;intro w0 i l n)
 go_frame
 have MV:=H (show M<V.heap.size by obtain⟨p,g,R,_⟩:=d;exact ag R);have⟨B0,L,SZ⟩:=Qe ((Fu V.heap.size V).grown l gi bH) i (show V.heap.size+1<=w0.heap.size by omega);have M0:=H (show Met m (has a) []from⟨List.nodup_nil,λz=>by
  constructor;·intro g;cases g
  rintro⟨k,rfl,h1,h2,h3⟩;have⟨g,P⟩:=jR PV h2;rw[HD.2.1 k Z,P]at h3;cases h3⟩)
 have⟨r,p⟩:=Qb V.heap.size;rw[<-p]at L SZ⊢;have q:=H p;clear i l n d p;go_loopw [4] (λv wr=>∃(left:Lit->Bool)(F:Nat)(o:List Int),o.length+F<=bm f 0 4096/\Hid (wr.ranges prog 3 ev M r 4096 a left F)/\Hid (wr.ownsRow (r+1) 3 1 v o.length (Ns .i64 o))/\Hid (Met m left o)/\Hid (D V wr)) (λ_ wr=>wr.rangeLeft M r);exact⟨_,_,[],by simp[a6],L,H ⟨rfl,.inl ⟨rfl,rfl⟩⟩,M0,B0⟩
 have⟨left,F,o,b4,A,d,n,i⟩:=hrel;go_wp2_with (at_next;refine wpList_next_ranges _ rfl _ rfl 3 g_ ev (Value.int .i64) Et (λl kl hk=>by obtain⟨x,rfl,_⟩:=Maps.keyOf_int_inv underlying3 hk;exact⟨x,rfl⟩) (λv y hv=>by exact(hF hv).elim (λ⟨b,e,_⟩=>⟨some b,e⟩) (λ⟨e,_⟩=>⟨none,e⟩)) M r 4096 a left F rfl A ?_ ?_)
 ·intro K B;have X:=H (show Met m (λ_=>false) o from⟨n.1,λz=>by rw[n.2 z];simp[B]⟩);have G:=a5.out _ o wr (r+1) d Z;obtain⟨vp,vl,vc,rfl⟩:∃p l c,u4=.slice p l c:=by
   rcases d.2 with⟨rfl,_⟩|⟨g,Y,a0,rfl,_⟩;·exact⟨_,_,_,rfl⟩
   exact⟨_,_,_,rfl⟩
  have p:=cI d;have⟨T,W⟩:=y7 G p;go_wp2_with fail;refine(T).mono ?_;rintro e Q⟨rfl,G,K⟩;have B:=H (i.grown K i.size (λg e=>by have:=W.out g e;have:=q.out;omega));have⟨N,H5⟩:=y7 (IV.grown (W':=Q) ⟨B.os,B.tape,B.output,B.size,λk h _=>B.block k h⟩) G;have c4:Q.cell? (Qz S 4)=some (.map (some M)):=(by simp[QC,N.box]);go_wp2_with (at_len;refine nj rfl rfl N rfl ?_);refine Iy (f:=119) (args:=#[J S 0]) bH (by simp[go_sem]) ?_;refine(Go.MuLone.unlock_deferred jw (Qz S 0) .returning _ (by simp[QC,N.box]) (by simp[QD,N.box])).mono ?_;rintro e u' a8⟨rfl,rfl,rfl⟩;have a9:S<r+1:=(by have:=q.out;have:=ag IV.box;omega);have G:=au (Q6 Q S) 0 (.int .i32 0);have T:=(N.st 0).box;refine⟨_,results_tmp2 (t:=2) (u:=3) dU _ _ _,_,o,rfl,dm (H5.kept G (.inr λe=>by have:=W.out _ e;omega)) ?_,X,⟨G.os.trans (B.os.trans O.os),G.tape.trans (B.tape.trans O.tape),G.output.trans (B.output.trans O.output),Fx (Fx O.size B.size) G.size,λk hk=>?_⟩⟩;·have:=q.out;have:=O.size;omega
  by_cases e:k=S;·subst e;rw[T,HI.box]
  have K:k<V.heap.size:=FG hk O.size;rw[G.block k (FG K B.size) (by simpa using e),B.block k K,a7,XB e]
 intro x c kl yd yp w2 G K T hv s B W N X Y;obtain⟨x',ex,rfl,_⟩:=Maps.keyOf_int_inv underlying3 K;cases ex;obtain⟨k,rfl,a8,a0⟩:=HD.2.2 _ (has_true_of_atKey s);have⟨g,P⟩:=Option.isSome_iff_exists.1 a0;have Q:=s .nil;rw[HD.1 k Z,P]at Q;obtain rfl:c=some g:=by
  cases c with
  |none=>simp[Et,ev]at hv;rw[<-hv.1]at Q;simp[sG]at Q
  |some b=>simp[Et,ev]at hv;rw[<-hv.1]at Q;simp[sG]at Q;have:b=g:=Z;rw[this]
 have⟨l,xs,hm,a9,R⟩:=PV.cell P;have B2:=H (i.grown N i.size (λj e=>by cases e;have:=q.out;omega));have cl:w2.cell? (Qz g 1024)=some (.bool l):=NI B2 (PV.lockCell P hm).1;have R2:=H (d.kept N (.inr λe=>by have:=cI d _ e;omega));have⟨G2,ST,LE,S2⟩:=Qf B (n.step a8 T) (IT B.left_eq A.left_eq) X;have b5:=A.lt;unfold Et at Y⊢;simp only[Hi]at Y⊢;have ho:isOpen (m k) =!l:=by rw[hm];rfl
 clear K T hv s B N X a0 P Q R a9 d n i A;cases l with
 |true=>go_wp2;go_roundw;(exact⟨_,G,o,Z,G2,R2,ST.2 (by rw[ho];rfl),B2⟩);case measure=>rw[LE.1,LE.2];exact W
 |false=>have⟨A,B⟩:=y7 (R2.alloc (.cells #[I (k:Int)] 3)) (B2.alloc B2.size (.cells #[I (k:Int)] 3));go_wp2_with (at_builtin;refine Ib _ rfl _ _ 25 rfl (r+1) 3 i0 (I 0) 1 8 underlying25 a1 a2 a3 a4 rfl Z _ _ _ rfl A _ 1 1 [I (k:Int)] rfl rfl ?hc ?h1c ?b1 ?b2 ?b3 ?_);(case hc=>exact ek _ _ _ _ bH);(case h1c=>intro u K;simp at K;subst K;rfl);(case b1=>unfold maxLen;omega);(case b2=>omega);(case b3=>have:=S2.out;have:=q.out;simp;omega);intro Q T i d _;have p:=cI A;have N:=H ((G2.alloc (.cells #[I (k:Int)] 3)).kept d (λe=>by have:=p _ e.symm;have:=MV.out;have:=q.out;omega) (λe=>by have:=p _ e.symm;omega));have X:=H (B.grown d B.size (λj e=>by have:=p _ e;have:=q.out;omega));have O3:=H (show T.ownsRow (r+1) 3 1 Q (o++[(k:Int)]).length (Ns .i64 (o++[(k:Int)])) by rw[FC];simpa[Ns]using i);have n:=H N.left_eq;clear i d p;go_wp2;go_roundw;(exact⟨_,G,o++[(k:Int)],by rw[FC];simp;omega,N,O3,ST.1 (by rw[ho];rfl),X⟩);case measure=>rw[n,LE.2];exact W
def pK(S M bud f m){w}(h:Im S M 0 283 bud f w)(j:Pg f m w)(a:∀k,283<=k->m k=none):
  QA 64 #[J S 0] w λe b=>∃v,e=QJ (.tuple #[I (bm f 0 4096:Nat),v])/\b.ownsRow w.heap.size 3 1 v (NN m 283).length (Ns .i64 (NN m 283))/\D w b:=by
 apply(xi Dh S M 283 bud f m w h j).mono;rintro e b⟨v,c,rfl,d,g,l⟩;let i:(c.mergeSort λx y=>decide (x<=y))=NN m 283:=rY m 283 c g.1 (λz=>by
  rw[g.2 z];constructor
  .rintro⟨k,rfl,h1,h2,_⟩;refine⟨k,rfl,?_,h2⟩;by_cases n:k<283;.exact n
   rw[a k Z]at h2;simp[isOpen]at h2
  rintro⟨k,rfl,h1,h2⟩;exact⟨k,rfl,Z,h2,rfl⟩)
 let k:c.length=(NN m 283).length:=by rw[<-i,List.length_mergeSort]
 rw[i,k]at d;exact⟨v,rfl,d,l⟩
def E_(cf:Cf)(h:Hs)(c:Nat)(p:Nat×Nat):List Value:=[Vl p.1 (h.mx c).length (h.mx c).length,Vl p.2 (h.ff c).length (h.ff c).length,I cf.fifo]
def mw(cf:Cf)(h:Hs)(ws:List (Nat×Nat)):List Value:=ws.zipIdx.flatMap λx=>E_ cf h x.2 x.1
def rD(cf h)(a:List (Nat×Nat))(p:Nat×Nat):mw cf h (a++[p])=mw cf h a++E_ cf h a.length p:=by unfold mw;rw[List.zipIdx_append,Gu];simp
def An:(prog.info? 123).map (λi=>(i.zero,i.size,i.bytes))=some (some (.agg #[C,C,I 0]),3,56):=E
def tX{W:QM}(B:Nat)(v:QN)(n:Nat)(p:List QN){a b c:QN}(g q:Nat)(d:W.ownsRow B 123 3 v n p)(s:W.heap[g]?=some (.cells #[a,b,c] 123))(t:a.oneCell'=true)(w:b.oneCell'=true)(x:c.oneCell'=true)(M:n<=1000)(y:B<=W.heap.size):
  ∃f e,QI 35 v (Vl g 1 q) W f e/\e.ownsRow B 123 3 f (n+1) (p++[a,b,c])/\W.grownBy e v.ownBlock:=by
 let⟨z,i,k,l,m⟩:=G0 An;let o:∀j u,[a,b,c][j]?=some u->W.cell? (((Qz g 0):Addr).add j)=some u:=λj u A=>by rw[Addr.add_mid,Oi,GT _ _ j _ _ _ s];simpa using A
 let F:∀u∈[a,b,c],u.oneCell'=true:=λu r=>by
  simp only[F4,Gp,or_false]at r;rcases r with rfl|rfl|rfl;.exact t
  .exact w
  exact x
 let⟨f,e,G,K,L,_⟩:=Ia (P:=prog) W B 35 35 123 z _ 3 56 underlying35 i k l m rfl Z v _ _ d (Qz g 0) 1 q [a,b,c] rfl o F (by unfold maxLen;omega) Z y;exact⟨f,e,G,K,L⟩
def tH:Prop:=∀(X:Nat)(t:Option Addr)(i j:Nat)(l:List Nat)(W:World)(base:Nat),W.heap[X]?=some (.cells #[.slice t i j] 37)->W.ownsRow base 24 1 (.slice t i j) l.length (Us l)->l.length<=1000 ->
 QA 69 #[.func (.func 128) #[] #[J X 0]] W λe W'=>∃v u,e=.returned v/\W'.ownsRow W.heap.size 24 1 v l.length (Us u)/\D W W'
def uS(a:QP)(b c:Nat)(W:QM):Calls prog 70 #[.slice a b c] W λe d=>e=QJ (.func (.func 128) #[] #[J W.heap.size 0])/\d=W.alloc (.cells #[.slice a b c] 37):=by go_wp2;go_ret;exact QB
structure Wt9(cf:Cf)(h:Hs)(base:Nat)(vo:QN)(ws:List (Nat×Nat))(vw:QN)(W:QM):Prop where
 row:W.ownsRow base 123 3 vw ws.length (mw cf h ws)
 at_:∀c p,ws[c]?=some p->RowV W p.1 3 (Ns .i64 (h.mx c))/\RowV W p.2 3 (Ns .i64 (h.ff c))/\base<=p.1/\p.1<p.2
 ord:ws.Pairwise λp q=>p.2<q.1
 vo:∀g,vo.ownBlock=some g->∀p∈ws,g<p.1
def Wt9.ky{base vo ws W'}(w:Wt9 cf h base vo ws vw W)(k:Ky S W W')(d:¬S 123)(b:¬S 3):Wt9 cf h base vo ws vw W':=
 ⟨ai w.row k d,λc p a=>⟨cL (w.at_ c p a).1 k b,cL (w.at_ c p a).2.1 k b,(w.at_ c p a).2.2⟩,w.ord,w.vo⟩
def Wt9.below{cf h base vo ws vw W W'}(w:Wt9 cf h base vo ws vw W)(b:D W W'):Wt9 cf h base vo ws vw W':=w.ky (Ky.below b:Ky (λ_=>False) W W') (λe=>e) (λe=>e)
def Wt9.add{base vo ws U}(w:Wt9 cf h base vo ws vw V)(l:base<=V.heap.size)(o:∀g,vo.ownBlock=some g->g<V.heap.size)(b:D V U){g1 g2}(x:RowV U g1 3 (Ns .i64 (h.mx ws.length)))(y:RowV U g2 3 (Ns .i64 (h.ff ws.length)))(r:V.heap.size<=g1)(s:g1<g2)(B:ws.length<=12):
  ∃m d,QI 35 vw (Vl U.heap.size 1 1) (U.alloc (.cells #[Vl g1 (h.mx ws.length).length (h.mx ws.length).length,Vl g2 (h.ff ws.length).length (h.ff ws.length).length,I cf.fifo] 123)) m d/\Wt9 cf h base vo (ws++[(g1,g2)]) m d/\Ky (· =123) V d/\Below base V d:=by
 refine(let_mvar%?A:=U.alloc (.cells #[Vl g1 (h.mx ws.length).length (h.mx ws.length).length,Vl g2 (h.ff ws.length).length (h.ff ws.length).length,I cf.fifo] 123);?_);let f:D U ?A:=ph;let n:=(w.below b).below f;let i:base<=(?A).heap.size:=Fx (Fx l b.size) f.size;let⟨m,d,z,A,u⟩:=tX base vw ws.length (mw cf h ws) U.heap.size 1 n.row (ao U _) rfl rfl rfl Z i;let j:Ky (· =123) _ d:=Ky.grownO (λP t=>by obtain⟨_,c,k⟩:=aF n.row t;exact⟨c,123,_,k,rfl⟩) u;refine⟨m,d,z,⟨?_,λc p a=>?_,?_,λg v p a=>?_⟩,((Ky.below b).trans (Ky.below f)).trans j,((b.mono l).trans (f.mono (Fx l b.size))).grown u i (λP t=>(aF n.row t).1)⟩;.rwa[rD,FC]
 .by_cases k:c<ws.length;.rw[Ga k]at a;have:=n.at_ c p a;exact⟨cL this.1 j ar,cL this.2.1 j ar,this.2.2⟩
  have q:c=ws.length:=by have:=(Fz.1 a).1;simp at this;omega
  subst q;simp at a;subst a;exact⟨cL (cL x (Ky.below f:Ky (λ_=>False) _ _) (λe=>e)) j ar,cL (cL y (Ky.below f:Ky (λ_=>False) _ _) (λe=>e)) j ar,Fx l r,s⟩
 .rw[Is];refine⟨w.ord,List.pairwise_singleton _ _,λp a q e=>?_⟩;have:=List.mem_singleton.1 e;subst this;let⟨c,k⟩:=He a;have:=(w.at_ c p k).2.1.lt;omega
 rcases F8.1 a with a|a;.exact w.vo g v p a
 have:=List.mem_singleton.1 a;subst this;have:=o g v;omega
def AI(_:Nat)(_:Ly)(_:Cf)(h:Hs)(_:World)(m:Array Value)(_:World):Prop:=(∀v∈m.toList,v.oneCell'=true)/\m[0]?=some (I (bz h.m 283:Nat))/\m[7]?=some (I h.used)
def EP{g t:Nat}{a b c d e f:QN}(h:V.heap[g]?=some (.cells #[a,b,c,d,e,f] t)):V.cell? (Qz g 0)=some a/\V.cell? (Qz g 1)=some b/\V.cell? (Qz g 2)=some c/\V.cell? (Qz g 3)=some d/\V.cell? (Qz g 4)=some e/\V.cell? (Qz g 5)=some f:=by refine⟨?_,?_,?_,?_,?_,?_⟩<;>(rw[ac h];rfl)
structure Me(W:QM)(X Y:Nat)(A:Array QN)(V:QM):Prop where
 bel:D W V
 xb:V.heap[X]?=some (.cells #[I 0,C,C,C,C,C,C,I 0] 39)
 yb:V.heap[Y]?=some (.cells A 39)
 bx:W.heap.size<=X
 by_:W.heap.size<=Y
 ne:X≠Y
def Me.below(m:Me W X Y A V)(b:D V V'):Me W X Y A V':=
 ⟨m.bel.trans (b.mono m.bel.size),ae m.xb b,ae m.yb b,m.bx,m.by_,m.ne⟩
def Me.ky(m:Me W X Y A V)(k:Ky S V V')(h:¬S 39)(b:Below W.heap.size V V'):Me W X Y A V':=
 ⟨m.bel.trans b,k.XC m.xb h,k.XC m.yb h,m.bx,m.by_,m.ne⟩
def Me.set(m:Me W X Y A V)(i:Nat)(v:QN):Me W X Y (A.setIfInBounds i v) (V.setCell (Qz Y i) v)/\Ky (· =39) V (V.setCell (Qz Y i) v):=by
 let g:=au (Q6 V Y) i v;refine⟨⟨m.bel.grown g m.bel.size (λr a=>by simp at a;have:=m.by_;omega),?_,?_,m.bx,m.by_,m.ne⟩,Ky.grown m.yb rfl g⟩;.rw[XB m.ne];exact m.xb
 simp[World.setCell,FD,m.yb]
def E9(cf:Cf)(p:Value×Value):List Value:=[p.1,p.2,I cf.fifo]
def lE(cf:Cf)(ws:List (Value×Value)):List Value:=ws.flatMap (E9 cf)
def rA(cf)(a:List (QN×QN))(p:QN×QN):lE cf (a++[p])=lE cf a++E9 cf p:=by simp[lE]
structure Wt8(cf:Cf)(h:Hs)(W:QM)(ws:List (QN×QN))(vw:QN)(V:QM):Prop where
 row:V.ownsRow W.heap.size 123 3 vw ws.length (lE cf ws)
 at_:∀c p,ws[c]?=some p->V.ownsRow W.heap.size 3 1 p.1 (h.mx c).length (Ns .i64 (h.mx c))/\V.ownsRow W.heap.size 3 1 p.2 (h.ff c).length (Ns .i64 (h.ff c))
def Wt8.ky{ws}(w:Wt8 cf h W ws vw V)(k:Ky S V V')(d:¬S 123)(a:¬S 3):Wt8 cf h W ws vw V':=
 ⟨ai w.row k d,λc p b=>⟨ai (w.at_ c p b).1 k a,ai (w.at_ c p b).2 k a⟩⟩
def xP:(prog.info? 3).map (λi=>(i.zero,i.size,i.bytes))=some (some (I 0),1,8):=E
def zB(W:QM)(a:QP)(c:Nat):(Builtin.append_ #[25,25] 25 #[C,.slice a 0 c]).run prog W=.ok (C) W:=by let⟨g,b,d,e,f⟩:=G0 xP;cases a<;>simp[Builtin.append_,run_underlying underlying25,sizeOf,typeInfo,b,Builtin.lenOf,Builtin.firstCells,loadCells,loadCellsFrom]
def tO(W v l)(h:Wq W v l)(z:l.length<=90000):
  ∃a n c d e f b,v=.slice a n c/\QI 25 C (.slice a n c) W (.slice d e f) b/\b.ownsRow W.heap.size 3 1 (.slice d e f) l.length (Ns .i64 l)/\D W b:=by
 obtain⟨a,c,rfl,_,t⟩:=h;rcases t with⟨rfl,rfl⟩|⟨g,rfl,i⟩;.exact⟨none,0,c,none,0,0,W,rfl,zB W none c,⟨rfl,.inl ⟨rfl,rfl⟩⟩,th⟩
 let⟨w,k,m,o,p⟩:=G0 xP;let⟨A,b,x,q,y,_⟩:=Ia (P:=prog) W W.heap.size 25 25 3 w _ 1 8 underlying25 k m o p rfl Z (C) 0 [] ⟨rfl,.inl ⟨rfl,rfl⟩⟩ (Qz g 0) l.length c (Ns .i64 l) (by simp[Ns]) (λj u s=>by
  let r:j<(Ns .i64 l).length:=(Fz.1 s).1;rwa[Addr.add_mid,Oi,i.cell j r]) (λu a=>by
  simp only[Ns,FQ]at a;obtain⟨n,_,rfl⟩:=a;rfl) (by unfold maxLen;omega) Z gi
 rw[Oi,FV]at q;obtain⟨d,e,f,rfl⟩:=aA q;exact⟨_,_,_,d,e,f,b,rfl,x,q,(Fu _ W).grown y gi (λr i=>by simp[Value.ownBlock]at i)⟩
def Wt8.add{B x ws}(w:Wt8 cf h W ws vw V)(s:D W V)(O:∀V,D W V->Sh B x cf h V)(r:c<12)(hl:ws.length=c)(a0:(h.mx c).length<=100/\(h.ff c).length<=100){P Q:QP}{R S:Nat}(K:x.mv c=.slice P (h.mx c).length R)(L:x.fv c=.slice Q (h.ff c).length S):
  ∃f g i m j k l b y z A a,QI 25 C (.slice P (h.mx c).length R) V (.slice f g i) m/\QI 25 C (.slice Q (h.ff c).length S) m (.slice j k l) b/\QI 35 vw (Vl b.heap.size 1 1) (b.alloc (.cells #[.slice f g i,.slice j k l,I cf.fifo] 123)) (.slice y z A) a/\D V m/\D V b/\D V (b.alloc (.cells #[.slice f g i,.slice j k l,I cf.fifo] 123))/\(b.alloc (.cells #[.slice f g i,.slice j k l,I cf.fifo] 123)).grownBy a vw.ownBlock/\Ky (· =123) (b.alloc (.cells #[.slice f g i,.slice j k l,I cf.fifo] 123)) a/\Wt8 cf h W (ws++[(.slice f g i,.slice j k l)]) (.slice y z A) a/\D W a:=by
 let⟨b1,b2,b3,f,g,i,m,T,e1,o1,F⟩:=tO V (x.mv c) (h.mx c) ((O V s).wm c r).1 Z;rw[K]at T;cases T;let t:D W m:=s.trans (F.mono s.size);let⟨b4,b5,b6,j,k,l,b,X,e2,o2,Y⟩:=tO m (x.fv c) (h.ff c) ((O m t).wm c r).2 Z;rw[L]at X;cases X;let n:D V b:=F.trans (Y.mono F.size);refine(let_mvar%?A:=b.alloc (.cells #[.slice f g i,.slice j k l,I cf.fifo] 123);?_);let M:D b ?A:=ph;let o:=n.trans (M.mono n.size);let G:=w.ky (Ky.below o:Ky (λ_=>False) _ _) (λe=>e) (λe=>e);let q:D W ?A:=s.trans (o.mono s.size);let⟨v',a,f1,f2,f3⟩:=tX W.heap.size vw ws.length (lE cf ws) b.heap.size 1 G.row (ao b _) rfl rfl rfl Z q.size;obtain⟨y,z,A,rfl⟩:=aA f2;let u:Ky (· =123) _ a:=Ky.grownO (λP e=>by obtain⟨_,c,r⟩:=aF G.row e;exact⟨c,123,_,r,rfl⟩) f3;refine⟨f,g,i,m,j,k,l,b,y,z,A,a,e1,e2,f1,F,n,o,f3,u,⟨?_,λd p v=>?_⟩,q.grown f3 q.size (λr a=>(aF G.row a).1)⟩;.rwa[rA,FC]
 by_cases hd:d<ws.length;.rw[Ga hd]at v;have:=G.at_ d p v;exact⟨ai this.1 u,ai this.2 u⟩
 have N:d=ws.length:=by have:=(Fz.1 v).1;simp at this;omega
 subst N;simp at v;subst v;rw[hl];exact⟨ai (aN (ax (ax o1 Y) M) s.size) u,ai (aN (ax o2 M) t.size) u⟩
def qj(x:Nat)(W:QM):Calls prog 177 #[.int .u64 (x:Nat)] W λe a=>e=QJ Qk/\a=W:=by go_wp2;go_ret;exact QB
def aQ(x y:Nat):Bool:=decide (x<y)
structure Au(G N c:Nat)(V0:QM)(d:Array Nat)(V:QM):Prop where
 sz:d.size=N
 row:V.ownsRow G 24 1 (Vl G N c) N (Us d.toList)
 bel:Below G V0 V
variable {G N c:Nat}{V0 V:World}{d:Array Nat}
def Au.lt(h:Au G N c V0 d V):G<V.heap.size:=by
 rcases h.row.2 with⟨e,_⟩|⟨g,a,b,e,i,f,_⟩;.cases e
 cases e;exact ag f
def Au.cell(h:Au G N c V0 d V){i:Nat}(a:i<N):V.cell? (Qz G i)=some (U ((d[i]!:Nat):Int)):=by
 refine bC h.row i _ (ny ?_);have:i<d.size:=by rwa[h.sz]
 rw[Gg,Hw this,getElem!_pos d i this]
def Au.fz(h:Au G N c V0 d V)(i:Nat):V.frozen? (Qz G i)=false:=oG h.row i
def Au.set(h:Au G N c V0 d V)(a:i<N)(x:Nat):Au G N c V0 (d.setIfInBounds i x) (V.setCell (Qz G i) (U x)):=by refine⟨by rw[Array.size_setIfInBounds,h.sz],?_,h.bel.setCell gi _⟩;have:=dP h.row i (by rwa[fK,Array.length_toList,h.sz]) (U x);rw[sg]at this;rw[Array.toList_setIfInBounds];exact this
def Au.swap(h:Au G N c V0 d V)(a:i<N)(b:j<N):Au G N c V0 (Sort.swp d i j) ((V.setCell (Qz G i) (U ((d[j]!:Nat):Int))).setCell (Qz G j) (U ((d[i]!:Nat):Int))):=(h.set a _).set b _
def Au.below(h:Au G N c V0 d V)(b:D V V'):Au G N c V0 d V':=⟨h.sz,ax h.row b,h.bel.trans (b.mono (Nat.le_of_lt h.lt))⟩
def Au.drew(h:Au G N c V0 d V):Au G N c V0 d V.drew:=h.below ld
def Au.sw1(h:Au G N c V0 d V)(a:i<N)(b:j<N):∃u,(V.setCell (Qz G i) (U ((d[j]!:Nat):Int))).cell? (Qz G j)=some (U ((u:Nat):Int)):=⟨_,(h.set a _).cell b⟩
def pG(x y:Nat)(W:QM):QA 252 #[U x,U y] W λe d=>e=QJ (.bool (aQ x y))/\d=W:=by
 let b:=H qj;unfold aQ;by_cases c:x<y
 .let a:(x:Int)<(y:Int):=Z;rw[G8 c];go_enter func252,ntmps252;go_wp2_with (apply(b _ _).mono;rintro e f⟨rfl,rfl⟩);go_ret;exact QB
 let a:¬((x:Int)<(y:Int)):=Z;rw[GR c];go_enter func252,ntmps252;go_wp2_with (apply(b _ _).mono;rintro e f⟨rfl,rfl⟩);go_ret;exact QB
def Au.drewN(h:Au G N c V0 d V)(n:Nat):Au G N c V0 d (V.drewN n):=by exact h.below ⟨rfl,rfl,rfl,gi,λ_ _=>rfl⟩
def AnyU(G N c:Nat)(V0 V:World):Prop:=∃d,Au G N c V0 d V
def AnyU.at(h:AnyU G N c V0 V)(a:i<N):∃x:Nat,V.cell? (Qz G i)=some (U x):=by let⟨d,h⟩:=h;exact⟨_,h.cell a⟩
def AnyU.below{G N c V0 V V'}(h:AnyU G N c V0 V)(b:D V V'):AnyU G N c V0 V':=by let⟨d,h⟩:=h;exact⟨d,h.below b⟩
def AnyU.dN(h:AnyU G N c V0 V)(n:Nat):AnyU G N c V0 (V.drewN n):=by let⟨d,h⟩:=h;exact⟨d,h.drewN n⟩
def AnyU.sw(h:AnyU G N c V0 V)(a:i<N)(b:j<N):∃x y u:Nat,QG V G i (U x)/\QG V G j (U y)/\V.frozen? (Qz G i)=false/\QG (V.setCell (Qz G i) (U y)) G j (U u)/\(V.setCell (Qz G i) (U y)).frozen? (Qz G j)=false/\Hid (AnyU G N c V0 ((V.setCell (Qz G i) (U y)).setCell (Qz G j) (U x)).drew):=by let⟨d,h⟩:=h;let⟨u,e⟩:=h.sw1 a b;exact⟨_,_,u,h.cell a,h.cell b,h.fz i,e,(h.set a _).fz j,H ⟨_,(h.swap a b).drew⟩⟩
def jN{x y}{b:Bool}(h:aQ x y=b){W:QM}:QA 252 #[U x,U y] W λe a=>e=QJ (.bool b)/\a=W:=h▸pG x y W
def Bj(G N c)(a b:Nat)(V0){V}(A:AnyU G N c V0 V)(O:b<=N)(P:N<=100000)(ha:a<=N):
  Calls prog 246 #[.slice (some (Qz G 0)) N c,I a,I b] V λe V'=>e=QJ (.tuple #[])/\AnyU G N c V0 V':=by
 have d:=H A;clear A;go_wp2;go_loopw [6] (λg wr=>∃i:Nat,a+1<=i/\i<=N+1/\g=I i/\Hid (AnyU G N c V0 wr)) (λg _=>N+1-(intOf g).toNat);exact⟨a+1,gi,Z,aY,d⟩
 clear d;obtain⟨i,q,r,rfl,d⟩:=hrel;by_cases s:i<b
 .go_wp2;go_loopw [7] (λl wr=>∃j:Nat,a<=j/\j<=i/\l=I j/\Hid (AnyU G N c V0 wr)) (λl _=>(intOf l).toNat);(case atStart=>exact⟨i,Z,gi,rfl,d⟩);case round=>
   clear d;obtain⟨j,t,v,rfl,d⟩:=hrel;by_cases w:a<j
   ·obtain⟨k,f⟩:∃k,j=k+1:=⟨j-1,Z⟩;have⟨x,m⟩:=d.at (show j<N by omega);have⟨y,n⟩:=d.at (show k<N by omega);have o:(a:Int)<(j:Int):=Z;have z:(j:Int)-1=(k:Int):=Z;clear f;cases p:aQ x y
    all_goals
     go_upto_region 4 with fail
     go_quiet (first|(go_at_call 252;exact GW (jN p)))
     have f:=H (d.dN nq)
     clear d m n p
     generalize wr.drewN nq=K at f⊢
    .go_wp2;go_roundw;(exact⟨i+1,Z,Z,aY,f⟩);exact QE
    .let⟨x,y,u,m,n,f1,L,f0,M⟩:=f.sw (show j<N by omega) (show k<N by omega);(go_upto_region 6 with fail);go_region;clear m n f1 L f0;go_wp2;go_roundw;(exact⟨k,Z,Z,aY,M⟩);exact QE
   .let o:decide ((a:Int)<(j:Int))=false:=GR Z;(go_upto_region 4 with fail);go_quiet (fail);have f:=H (d.dN nq);clear d;generalize wr.drewN nq=K at f⊢;go_wp2;go_roundw;(exact⟨i+1,Z,Z,aY,f⟩);exact QE
 .let f:¬((i:Int)<(b:Int)):=Z;go_wp2;go_end0;exact⟨rfl,d⟩
attribute [local go_sem] Oper.semAt_some
def zI(l X q m:Nat)(Y:1<=m)(r:QP)(s g:Nat)(b:List Nat)(a t:List Nat->QM->Prop)(W:QM)
  (u:∀c(x:Nat)d,a c d->c.length<b.length->YieldAt Fence.wide (m-1) prog l #[U x] d λe f=>(e=QJ Ql/\a (c++[x]) f/\Below q d f)\/(e=QJ Qk/\t (c++[x]) f))
  (A:QG W X 0 (.slice r b.length s)) (j:W.ownsRow g 24 1 (.slice r b.length s) b.length (Us b)) (d:∀g,(Value.slice r b.length s).ownBlock=some g->g<q) (Q:b.length<=1000) (k:a [] W):
  CallsIn Fence.wide m prog 128 #[.func (.yield l) #[] #[],J X 0] W λe f=>(∃v,e=QJ v) /\
   ((∃g,g=b/\a g f)\/(∃c,c <+:b/\t c f)):=by
 let⟨n,c⟩:=Qa b.length;rw[c]at A j d Q u;let⟨R,B,S,F,T⟩:=Qg u j d c k;refine callsIn_of_wp func128 rfl trivial ?_ rfl;simp only[ntmps128,FX,FN,F1,Nat.reduceAdd,Nat.reduceSub,FP,FO,FY,Iv,FV,F5];gi_wp2
 gi_loopw [7] (λi wr=>∃k:Nat,k<=n/\i=I k/\Hid (a (b.take k) wr)/\Hid (Below q W wr)) (λi _=>n-(intOf i).toNat)
 exact⟨0,aa,rfl,T,H th⟩
 obtain⟨k,hk,rfl,v,K⟩:=hrel;by_cases w:k<n
 .obtain⟨G,rfl⟩:=cr B Z;obtain⟨x,c⟩:∃x,b[k]?=some x:=⟨_,Fy (by rwa[F])⟩;let ck:wr.cell? (Qz G k)=some (U x):=(K.cell (p:=(Qz G k)) (S G rfl)).trans (bC B k _ (ny c));let⟨fn,L,o,M,N,d⟩:=R.out (b.take k) x wr v (by rw[Hm];omega);let O:=H (show b.take (k+1)=b.take k++[x] by rw[F_,c];rfl);let y:=H d;gi_wp2;apply y.mono;rintro e P(⟨rfl,d,j⟩|⟨rfl,c⟩)
  .let z:=H (show a (b.take (k+1)) P by rwa[O]);let V:=H (K.trans j);gi_wp2;go_roundw;(exact⟨k+1,Z,aY,z,V⟩);exact QE
  let z:=H (show t (b.take (k+1)) P by rwa[O]);gi_wp2;apply GX (Ir rfl _ _ _) rfl;exact⟨⟨_,rfl⟩,.inr ⟨_,List.take_prefix _ _,z⟩⟩
 obtain rfl:n=k:=Z;let c:=H (show b.take n=b by rw[<-F.out,G9]);gi_wp2;go_end0;exact⟨⟨_,rfl⟩,.inl ⟨b,rfl,by rwa[<-c.out]⟩⟩
def kH(X:Nat)(q:Option Addr)(r i:Nat)(f:List Nat)(w:World)(b:w.heap[X]?=some (.cells #[.slice q f.length r] 37))(a:w.ownsRow i 24 1 (.slice q f.length r) f.length (Us f))(M:f.length<=1000):
  CallsIn Fence.wide 5 prog 178 #[C,.func (.func 128) #[] #[J X 0]] w λe F=>∃v,e=.returned v/\F.ownsRow w.heap.size 24 1 v f.length (Us f)/\D w F:=by
 let⟨O,P,s,t,u⟩:=G0 iY;let⟨G,Q⟩:=y7 b a;have R:=H (show∀g,(Value.slice q f.length r).ownBlock=some g->g<w.heap.size from λg d=>by obtain⟨_,c,y⟩:=aF a d;exact ag y);clear b a;refine callsIn_of_wp_marks func178 rfl trivial ?_ rfl;simp only[ntmps178,FX,FN,F1,Nat.reduceAdd,Nat.reduceSub,FP,FO,FY,Iv,FV,F5];gi_wp2;let T:=Boxed.new w 37 (C);let g:D w (w.alloc (.cells #[C] 37)):=(Fu _ w).alloc gi _;refine wpIn_rangeFunc_ownG rfl Z (gf:=128) (lb:=#[J X 0]) rfl trivial (enters_of func128 E rfl)
  (encs:=λx:Nat=>#[U x]) (Kp:=Below w.heap.size) (S:=λL=>L=f) (Sp:=λb=>b <+:f) (N:=f.length) (w0:=w.alloc (.cells #[C] 37))
  (λl a e W d j j j k=>zI l X w.heap.size 4 Z q r i f a e W j ((d.cell (p:=(Qz X 0)) (by have:=ag G;simp;omega)).trans (by rw[ac (ae G g)];rfl)) (ax (ax Q g) (d)) R M k)
  belowK_t (belowK_b bH) th (λ_=>rfl)
  (λb W=>(∃v,Boxed W w.heap.size 37 v/\W.ownsRow w.heap.size 24 1 v b.length (Us b)/\True)/\D w W)
  (λ_ _ _=>False)
  (OwnFrom.and (Own.from (holdsRow_own w.heap.size w.heap.size 37 24 1 (λb:List Nat=>b.length) (λb=>Us b) (λb v=>True)) _) (ownFrom_below gi bH))
  (λ_ _ _ _ _ a _ _=>a)
  ⟨⟨_,T,World.ownsRow_nil _ _ _ _,trivial⟩,g⟩
  (λx=>{tmps:=#[C,.func (.func 128) #[] #[J X 0],J w.heap.size 0,undef,C,U x,.func (.func 128) #[] #[J X 0],U x,undef,undef,undef,undef,undef],defers:=[]}) ?assign ?body ?done ?stop
 case assign=>intro l x W K k;gi_wp2;exact k
 case body=>
  rintro l b x W⟨⟨v,hv,d,_⟩,m⟩V;let y:=hv.cell;let Y:=m.size
  gi_wp2_with (gi_at_builtin;refine wpListIn_append_own _ rfl _ _ 37 rfl w.heap.size 24 O (U 0) 1 8 underlying37 P s t u rfl ar _ _ _ rfl (d.alloc _) (Qz W.heap.size 0) 1 1 [U x] rfl rfl (cell_one_new _ _ _) mL (by unfold maxLen;omega) Z bG ?_;intro v' w1 a j _;obtain⟨g',K,rfl⟩:=ownsRow_succ a;obtain⟨n,z,A,B,o⟩:=hv.appended ar d m.size gi a j;let a0:=n.cell;let a1:=n.frozen)
  exact⟨B.from _,o,⟨_,z,by simpa[Us]using A,trivial⟩,m.trans o⟩
 case done=>rintro a L W j rfl⟨⟨v,hv,d,_⟩,m⟩k;let y:=hv.cell;gi_wp2;refine⟨bH,.inl ⟨_,_,rfl,run_takeDeferred k,?_⟩⟩;exact⟨_,results_tmp rfl _ _ _,v,rfl,ownsRow_putObj d _ k rfl,m.trans (belowK_b (w:=w) gi W a _ _ (by simp at j;omega) k rfl rfl)⟩
 case stop=>rintro a c b W _ _ h _;exact h.elim
end
def A1(w:QM):(binOp .eql 37 (C) (C)).run prog w=.ok Ql w:=E
def Cm(x:Addr)(n c:Nat)(w:QM):(binOp .eql 37 (.slice (some x) n c) (C)).run prog w=.ok Qk w:=E
def oS(W:QM):Calls prog 68 #[C] W λe a=>e=QJ (C)/\a=W:=by let b:=A1;go_wp2;go_ret;exact QB
def p_(x:Addr)(c:Nat)(l)(W:QM)(f:∀j u,(Us l)[j]?=some u->W.cell? (x.add j)=some u)(o:l.length<=100000):
  Calls prog 68 #[.slice (some x) l.length c] W λe g=>∃v,e=QJ v/\g.ownsRow W.heap.size 24 1 v l.length (Us l)/\D W g:=by
 let b:D W (W.alloc (.cells #[] 24)):=ph;let⟨p,a,d,i,k⟩:=jQ (W.alloc (.cells #[] 24)) W.heap.size (Vl W.heap.size 0 0) [] l x c ⟨rfl,.inr ⟨W.heap.size,0,#[],rfl,gi,ao W _,gi,aa,rfl,rfl⟩⟩ (λj u a=>NI b (f j u a)) (by simpa using o) b.size;let m:=H (IT i (b.grown k b.size (λr a=>by simp[Value.ownBlock]at a;omega)));generalize b:l.length=n at*;let f:=Cm x n c;go_in;go_wp2_with (at_builtin;refine up d ?_);go_wp2;go_ret;exact⟨_,rfl,by simpa[b]using m.1,m.2⟩
def xt(B v l W)(h:Um B W v l)(i:l.length<=100000):
  QA 68 #[v] W λe b=>∃a,e=QJ a/\b.ownsRow W.heap.size 24 1 a l.length (Us l)/\D W b:=by
 rcases h with⟨rfl,rfl⟩|⟨g,o,d,c,rfl,n,k,p,q,m⟩;.apply(oS W).mono;rintro e b⟨rfl,rfl⟩;exact⟨_,rfl,⟨rfl,.inl ⟨rfl,rfl⟩⟩,th⟩
 refine p_ (Qz g o) d l W (λj u f=>?_) i;let a:j<l.length:=by have:=(Fz.1 f).1;simpa[fK]using this
 rw[Addr.add_mid,ac k,m.2.2 j a,<-f];simp[Us,a]
def vO{d t:Nat}{V:QM}{a b c:QN}(h:V.heap[d]?=some (.cells #[a,b,c] t)):V.cell? (Qz d 0)=some a/\V.cell? (Qz d 1)=some b/\V.cell? (Qz d 2)=some c:=by refine⟨?_,?_,?_⟩<;>(rw[ac h];rfl)
section
open Go.Shelf Go.RowKit Go.Lib Go.Sort
instance:Inhabited Rg9:= ⟨⟨0,0,0,0,0⟩⟩
def tq(x y:Rg9):Int:=Lib.compareInt (x.base:Nat) (y.base:Nat)
def Oh(x y:Rg9):ltOf tq x y=decide (x.base<y.base):=by
 unfold ltOf tq Lib.compareInt;by_cases a:x.base<y.base;.simp[a]
 .by_cases b:y.base<x.base<;>simp[a,b]
def Ev:SWO (ltOf tq) where
 irrefl x:=by rw[Oh];simp
 trans x y z h1 h2:=by rw[Oh]at*;simp at*;omega
 ntrans x y z h1 h2:=by rw[Oh]at*;simp at*;omega
set_option maxHeartbeats 1000000 in
set_option maxHeartbeats 1000000 in
def sU(x y:Nat)(W:QM):QA 124 #[.int .u64 (x:Nat),.int .u64 (y:Nat)] W λe a=>e=QJ (.int .i64 (Lib.compareInt (x:Nat) (y:Nat)))/\a=W:=by
 let b:=H qj;unfold Lib.compareInt;by_cases c:(x:Int)<(y:Int)
 .rw[GP c];go_enter func124,ntmps124;go_wp2_with fail;apply (b _ _).mono;rintro e a⟨rfl,rfl⟩;go_wp2_with fail;apply (b _ _).mono;rintro e a⟨rfl,rfl⟩;go_wp2;go_ret;exact QB
 .rw[GO c];by_cases d:(y:Int)<(x:Int)
  .rw[GP d];go_enter func124,ntmps124;go_wp2_with fail;apply (b _ _).mono;rintro e a⟨rfl,rfl⟩;go_wp2_with fail;apply (b _ _).mono;rintro e a⟨rfl,rfl⟩;go_wp2;go_ret;exact QB
  .rw[GO d];go_enter func124,ntmps124;go_wp2_with fail;apply (b _ _).mono;rintro e a⟨rfl,rfl⟩;go_wp2_with fail;apply (b _ _).mono;rintro e a⟨rfl,rfl⟩;go_wp2;go_ret;exact QB
set_option maxHeartbeats 1000000 in
def zW(x y){W:QM}:Calls prog 123 #[.agg (tC x).toArray,.agg (tC y).toArray] W λe b=>e=QJ (.int .i64 (tq x y))/\∃q a,b=grow (W.drewN q) a:=by have a:=H (λV=>sU x.base y.base V);unfold tq;generalize Lib.compareInt (x.base:Nat) (y.base:Nat)=r at*;unfold tC;go_in;go_wp2_with fail;apply (a _).mono;rintro e c⟨rfl,rfl⟩;go_wp2;go_ret;exact⟨rfl,0,_,by rw[alloc_eq_grow,alloc_eq_grow,grow_grow];rfl⟩
def yF(b c a:Nat)(w:QM):CmpLays prog 123 #[] tC 5 tq b c a w:=
 λ_ _ _ _ x y=>zW x y
def Cv{w:QM}{g:Nat}{a:Array QN}{rs:List Rg9}(c:w.heap[g]?=some (.cells a 227))(i:a.toList.take (rs.length*5)=dH rs):HoldsK tC 5 w g 0 rs.toArray:=by
 intro j k;let b:j<rs.length*5:=by simpa using k
 refine⟨?_,by simp[QD,c]⟩;let d:j/5<rs.length:=Z;let e:(dH rs)[j/5*5+j%5]?=(tC rs[j/5])[j%5]?:=eC tC 5 (λ_=>rfl) rs (j/5) _ (Fy d) (j%5) Z;rw[show j/5*5+j%5=j by omega,<-i,Hf b,Gg]at e;rw[Oi,ac c,e,id,get_flatK _ _ _ _ (by simpa using b)];let f:j%5<(tC rs[j/5]).length:=by show j%5<5;omega
 rw[Fy f];congr 1;rw[getElem!_pos rs.toArray (j/5) (by simpa using d)];simp[f]
def pP{w:QM}{g n:Nat}{f:Array Obj}{a:Array QN}{e:QO}{b:Nat×Nat}(d:Array Rg9)(c:w.heap[g]?=some (.cells a e b)):
  (sortWorldK tC 5 w g 0 n d f).heap[g]?=some (.cells (putCells id 0 (flatK tC 5 d) a) e b):=by
 let i:g<w.heap.size:=(Array.getElem?_eq_some_iff.1 c).1;unfold sortWorldK putRowK;rw[heap_grow_old _ _ (by simpa using i)];simp[putRow,mapBlock,Sort.ahead,FD,c,onCells]
def kN{w:QM}{g n:Nat}{b:Array Obj}(d:Array Rg9):w.grownBy (sortWorldK tC 5 w g 0 n d b) (some g):=by
 unfold sortWorldK putRowK;refine⟨rfl,rfl,rfl,bH,λk c a=>?_⟩;rw[heap_grow_old _ _ (by simpa using c)];have:g≠k:=λe=>a (by rw[e])
 simp[putRow,mapBlock,Sort.ahead,FD,this]
def jC:∀rs:List Rg9,(dH rs).length=rs.length*5
 |[]=>rfl
 |r::rs=>by
  have:=jC rs
  unfold dH at this⊢
  rw[If,FC,this]
  simp[tC]
  omega
def uA(a:Array QN)(rs:List Rg9)(h:rs.length*5<=a.size):(putCells id 0 (flatK tC 5 rs.toArray) a).toList.take (rs.length*5)=dH rs:=by
 let g:(dH rs).length=rs.length*5:=jC rs;apply Ho;intro j;by_cases b:j<rs.length*5
 .rw[Hf b,Gg];let d:j/5<rs.length:=Z;let e:(dH rs)[j/5*5+j%5]?=(tC rs[j/5])[j%5]?:=eC tC 5 (λ_=>rfl) rs (j/5) _ (Fy d) (j%5) Z;rw[show j/5*5+j%5=j by omega]at e;rw[e];let f:j%5<(tC rs[j/5]).length:=by show j%5<5;omega
  rw[Fy f];let c:=get_flatK tC 5 rs.toArray j (by simpa using b);rw[getElem!_pos rs.toArray (j/5) (by simpa using d)]at c;simp only[List.getElem_toArray]at c;rw[getElem!_pos _ j (by simpa using b),getElem!_pos _ (j%5) f]at c;simp[putCells,b,show j<a.size by omega];exact c
 .rw[List.getElem?_take_eq_none Z,FJ Z]
def sX{d b:Array Rg9}(h:PermIn 0 d.size d b):b.toList.Perm d.toList:=by let a:=h.2.2;rw[<-h.1]at a;simp only[Array.extract_size]at a;rw[h.1]at a;simpa using a
end
def OM(G N c)(v j f:Nat)(V0){V}(A:AnyU G N c V0 V)(hb:f+j<=N)(hN:N<=100000)(w:v<=N):
  Calls prog 301 #[.slice (some (Qz G 0)) N c,I v,I j,I f] V λe S=>e=QJ (.tuple #[])/\AnyU G N c V0 S:=by
 have i:=H A;clear A;go_wp2;go_loopw [8] (λz wr=>∃r:Nat,r<=N/\z=I r/\Hid (AnyU G N c V0 wr)) (λz _=>N+1-(intOf z).toNat);exact⟨v,w,rfl,i⟩
 clear i;obtain⟨r,hr,rfl,i⟩:=hrel;have⟨b,d⟩:=Qb (2*r+1);have K:(2:Int)*(r:Int)+1=(b:Int):=Z;have HR:=H d;by_cases l:b≥j
 ·have T:(j:Int)<=(b:Int):=Z;clear d l;go_wp2;go_end0;exact⟨rfl,i⟩
 ·have T:¬((j:Int)<=(b:Int)):=Z;have⟨p,L⟩:=Qb (f+b);have⟨q,M⟩:=Qb (p+1);have⟨s,O⟩:=Qb (f+r);have⟨a,g⟩:=Qb (b+1);have X:(f:Int)+(b:Int)=(p:Int):=Z;have Y:(p:Int)+1=(q:Int):=Z;have a0:(f:Int)+(r:Int)=(s:Int):=Z;have P:(b:Int)+1=(a:Int):=Z;have a1:(f:Int)+(a:Int)=(q:Int):=Z;have a2:(p:Int)<(N:Int):=Z;have a3:(s:Int)<(N:Int):=Z;have⟨o,HQ⟩:=y7 (λW(A:AnyU G N c V0 W)=>A.sw (show s<N by omega) (show p<N by omega)) (IT d g);by_cases a4:a<j
  case' pos=>
   have m:(a:Int)<(j:Int):=Z;have t:(q:Int)<(N:Int):=Z;have B:=H (λW(A:AnyU G N c V0 W)=>A.sw (show s<N by omega) (show q<N by omega));have⟨x,F⟩:=i.at (show p<N by omega);have⟨y,R⟩:=i.at (show q<N by omega);clear d L M O g;cases n:aQ x y
   case' true=>clear o;have o:=B
   all_goals
    go_upto_region 3 with fail
    go_quiet (first|(go_at_call 252;exact GW (jN n)))
    have k:=H (i.dN nq)
    clear i F R n
    generalize wr.drewN nq=Q at k⊢
  case' neg=>have m:decide ((a:Int)<(j:Int))=false:=GR Z;clear d L M O g;(go_upto_region 3 with fail);go_quiet (fail);have k:=H (i.dN nq);clear i;generalize wr.drewN nq=Q at k⊢
  all_goals
   have⟨x,y,u,B,F,_⟩:=o.out _ k
   cases n:aQ x y
   all_goals
    go_upto_region 5 with fail
    go_quiet (first|(go_at_call 252;exact GW (jN n)))
    have t:=H (k.dN nq)
    clear k B F n
    generalize Q.drewN nq=R at t⊢
   ·go_wp2
    first|go_end0|((try simp only[Exit.inBlock,Exit.then]);refine GX (Ir rfl _ _ _) rfl ?_)
    exact⟨rfl,t⟩
   ·have⟨x,y,u,B,F,f1,y0,f0,R⟩:=o.out _ t;(go_upto_region 6 with fail);go_region;clear B F f1 y0 f0;have a5:=HQ.out;go_wp2;go_roundw;(case rel=>first|exact⟨b,Z,aY,R⟩|exact⟨a,Z,aY,R⟩);exact QE
def zX(G N c)(a b:Nat)(V0){V}(A:AnyU G N c V0 V)(s:a<b)(S:b<=N)(r:N<=100000):
  Calls prog 247 #[Vl G N c,I a,I b] V λe t=>e=QJ (.tuple #[])/\AnyU G N c V0 t:=by
 let⟨f,v⟩:=Qa (b-a);let w:(b:Int)-(a:Int)=(f:Int):=Z;have⟨m,g⟩:=Qb ((f-1)/2);have d:=H A;have T:((f:Int)-1).tdiv 2=(m:Int):=by rw[Ig Z];omega
 have n:m+1<=N:=Z;clear A g;go_in;go_wp2_with fail;go_loopw [9] (λo wr=>∃(k:Nat)(z:Int),k<=N/\z=(k:Int)-1/\o=I z/\Hid (AnyU G N c V0 wr)) (λo _=>(intOf o+1).toNat);exact⟨m+1,m,n,Z,rfl,d⟩
 clear d;obtain⟨k,z,A,i,rfl,d⟩:=hrel;cases k with
 |succ k=>obtain rfl:z=(k:Int):=Z;have B:(0:Int)<=(k:Int):=Z;clear i;go_wp2_with fail;refine(OM G N c k f a V0 d Z r Z).mono ?_;rintro e F⟨rfl,j⟩;have l:=H j;clear j d;go_wp2;go_roundw;(exact⟨k,(k:Int)-1,Z,rfl,aY,l⟩);exact QE
 | zero=>
  have q:¬((0:Int)<=z):=Z;clear i;go_wp2_with fail;go_loopw [10] (λg wr=>∃(k:Nat)(z:Int),k<=f/\z=(k:Int)-1/\g=I z/\Hid (AnyU G N c V0 wr)) (λg _=>(intOf g+1).toNat);(case atStart=>exact⟨f,(f:Int)-1,Z,rfl,aY,d⟩);case round=>
   clear d;obtain⟨k,z,A,i,rfl,d⟩:=hrel;cases k with
   |succ k=>obtain rfl:z=(k:Int):=Z;have B:(0:Int)<=(k:Int):=Z;have⟨p,K⟩:=Qb (a+k);have L:(a:Int)+(k:Int)=(p:Int):=Z;have M:(p:Int)<(N:Int):=Z;have O:(a:Int)<(N:Int):=Z;have⟨x,y,u,P,Q,f1,R,f0,l⟩:=d.sw (show a<N by omega) (show p<N by omega);clear i d K;(go_upto_region 10 with fail);go_region;clear P Q f1 R f0;go_wp2_with fail;refine(OM G N c 0 k a V0 l Z r Z).mono ?_;rintro e F⟨rfl,j⟩;have K:=H j;clear j l;go_wp2;go_roundw;(exact⟨k,(k:Int)-1,Z,rfl,aY,K⟩);exact QE
   |zero=>have q:¬((0:Int)<=z):=Z;clear i;go_wp2;go_end0;exact⟨rfl,d⟩
def Bg(G N c)(a b:Nat)(V0){V}(A:AnyU G N c V0 V)(k:a<b)(z:b<=N)(B:N<=100000):
  Calls prog 250 #[Vl G N c,I a,I b] V λe l=>e=QJ (.tuple #[])/\AnyU G N c V0 l:=by
 let⟨f,m⟩:=Qa (b-1);let n:(b:Int)-1=(f:Int):=Z;let d:=H A;go_wp2;go_loopw [6,7] (λg b wr=>∃i j:Nat,i<=N/\j<N/\g=I i/\b=I j/\Hid (AnyU G N c V0 wr)) (λg _ _=>N+1-(intOf g).toNat);exact⟨a,f,Z,Z,rfl,rfl,d⟩
 obtain⟨i,j,A,F,rfl,rfl,d⟩:=hrel;by_cases o:i<j
 .let p:(i:Int)<(j:Int):=Z;let q:(i:Int)<(N:Int):=Z;let r:(j:Int)<(N:Int):=Z;let⟨x,y,u,s,t,f1,v,f0,w⟩:=d.sw (show i<N by omega) (show j<N by omega);(go_upto_region 3 with fail);go_region;go_wp2;go_roundw;(exact⟨i+1,j-1,Z,Z,aY,by congr 1;omega,w⟩);exact QE
 let p:¬((i:Int)<(j:Int)):=Z;go_wp2;go_end0;exact⟨rfl,d⟩
def AnyB(G N c:Nat)(e:World)(S k:Nat)(V:World):Prop:=AnyU G N c e V/\G<S/\∃s:Nat,s<=k/\V.heap[S]?=some (.cells #[I s] 3)
def AnyB.inc{G N c V0 S k V}(h:AnyB G N c V0 S k V):∃s:Nat,s<=k/\V.cell? (Qz S 0)=some (I s)/\V.frozen? (Qz S 0)=false/\Hid (AnyB G N c V0 S (k+1) (V.setCell (Qz S 0) (I ((s+1:Nat):Int)))):=by obtain⟨⟨d,b⟩,e,s,f,a⟩:=h;let g:=au (Q6 V S) 0 (I ((s+1:Nat):Int));refine⟨s,f,by simp[QC,a],by simp[QD,a],H ⟨⟨d,b.sz,ai b.row (Ky.grown (S:=(· =3)) a rfl g),b.bel.trans (th.setCell (Nat.le_of_lt e) _)⟩,e,s+1,Z,by simp[World.setCell,FD,a]⟩⟩
def AnyB.dN{G N c V0 S k V}(h:AnyB G N c V0 S k V)(n:Nat):AnyB G N c V0 S (k+1) (V.drewN n):=by let⟨a,b,s,e,d⟩:=h;exact⟨a.dN n,b,s,Z,d⟩
def jK(G N c a b S k i f:Nat)(l:QM){V:QM}(A:AnyB G N c l S k V)(ha:i<=a/\a<f)(d:i<=b/\b<f)(B:f<=N)(F:N<=100000)(K:k<=100):
  QA 319 #[.slice (some (Qz G 0)) N c,.int .i64 a,.int .i64 b,.pointer (some (Qz S 0))] V λe t=>∃x y:Nat,e=QJ (.tuple #[.int .i64 (x:Nat),.int .i64 (y:Nat)])/\(i<=x/\x<f)/\(i<=y/\y<f)/\AnyB G N c l S (k+1) t:=by
 let⟨x,n⟩:=A.1.at (show a<N by omega);let⟨y,o⟩:=A.1.at (show b<N by omega);let⟨g,j⟩:=y7 A (IT ha d);cases p:aQ y x
 .go_enter func319,ntmps319;go_upto_region 1 with fail
  go_quiet (first|(go_at_call 252;exact GW (jN p)));have d:=H (g.dN nq);generalize V.drewN nq=w at d⊢;go_wp2;apply GX (b_ rfl) rfl;exact⟨a,b,rfl,j.1,j.2,d⟩
 .go_enter func319,ntmps319;go_upto_region 1 with fail
  go_quiet (first|(go_at_call 252;exact GW (jN p)));have d:=H (show AnyB G N c l S k (V.drewN nq)from⟨g.1.dN nq,g.2⟩);generalize V.drewN nq=w at d⊢;let⟨s,z,L,f1,q⟩:=d.inc;let⟨m,r⟩:=Qa (s+1);rw[r]at q;let A:(s:Int)+1=(m:Int):=Z;go_wp2;apply GX (b_ rfl) rfl;exact⟨b,a,rfl,j.2,j.1,q⟩
def kc(G N f a b e S k d c:Nat)(g V:QM)(A:AnyB G N f g S k V)(ha:d<=a/\a<c)(s:d<=b/\b<c)(t:d<=e/\e<c)(i:c<=N)(j:N<=100000)(F:k<=90):
  Calls prog 303 #[Vl G N f,I a,I b,I e,J S 0] V λr u=>∃x:Nat,r=QJ (I x)/\(d<=x/\x<c)/\AnyB G N f g S (k+3) u:=by
 let n:=H A;go_in;go_wp2_with fail;apply (jK G N f a b S k d c g n ha s i j Z).mono;rintro r K⟨v,w,rfl,l,m,o⟩;let p:=H o;go_wp2_with fail;apply (jK G N f w e S (k+1) d c g p m t i j Z).mono;rintro r L⟨x,M,rfl,n,y,o⟩;let q:=H o;go_wp2_with fail;apply (jK G N f v x S (k+2) d c g q l n i j Z).mono;rintro r O⟨P,z,rfl,A,o,p⟩;let B:=H p;go_wp2;go_ret;exact⟨z,rfl,o,B⟩
def jV(G N b a S k d c:Nat)(e:QM){V:QM}(A:AnyB G N b e S k V)(j:d+1<=a)(ha:a+1<c)(l:c<=N)(m:N<=100000)(n:k<=90):
  Calls prog 302 #[Vl G N b,I a,J S 0] V λr o=>∃x:Nat,r=QJ (I x)/\(d<=x/\x<c)/\AnyB G N b e S (k+3) o:=by
 let f:=H (kc G N b (a-1) a (a+1) S k d c e V A Z Z Z l m n);let⟨p,g⟩:=Qa (a-1);let⟨q,i⟩:=Qa (a+1);rw[g,i]at f;let s:(a:Int)-1=(p:Int):=Z;let t:(a:Int)+1=(q:Int):=Z;let u:q<=100000:=Z;go_in;go_wp2_with fail;apply (f).mono;rintro r w⟨x,rfl,i,g⟩;let v:=H g;go_wp2;go_ret;exact⟨x,rfl,i,v⟩
def yj(G N cp)(a b:Nat)(V0){V}(A:AnyU G N cp V0 V)(t:a+12<b)(f:b<=N)(g:N<=100000):
  Calls prog 249 #[Vl G N cp,I a,I b] V λr u=>∃x h:Nat,r=QJ (.tuple #[I x,I h])/\(a<=x/\x<b)/\h<=2/\AnyU G N cp V0 u:=by
 let⟨l,o⟩:=Qa (b-a);let⟨c,m⟩:=Qa (l/4);let⟨i,p⟩:=Qa (a+c*1);let⟨j,q⟩:=Qa (a+c*2);let⟨k,s⟩:=Qa (a+c*3);let v:(b:Int)-(a:Int)=(l:Int):=Z;let w:(l:Int).tdiv 4=(c:Int):=by rw[Ig Z];omega
 let y:(l:Int)/4=(c:Int):=Z;let z:(a:Int)+(c:Int)=(i:Int):=Z;let B:(a:Int)+(c:Int)*2=(j:Int):=Z;let F:(a:Int)+(c:Int)*3=(k:Int):=Z;let P:(8:Int)<=(l:Int):=Z;let n:D V (V.alloc (.cells #[I 0] 3)):=ph;have e:=H (show AnyB G N cp V0 V.heap.size 0 (V.alloc (.cells #[I 0] 3))from⟨A.below n,by obtain⟨d,h⟩:=A;exact h.lt,0,gi,ao V _⟩);let Q:(a+1<=i/\i+1<b)/\(a+1<=j/\j+1<b)/\(a+1<=k/\k+1<b):=Z;go_in;by_cases A:l≥50
 case' pos=>let m:(50:Int)<=(l:Int):=Z;go_wp2_with fail;generalize V.alloc _=K at e⊢;generalize V.heap.size=S at e⊢;apply (jV G N cp i S 0 a b V0 e Z Z f g Z).mono;rintro r R⟨L,rfl,n,d⟩;have p:=H d;go_wp2_with fail;apply (jV G N cp j S 3 a b V0 p Z Z f g Z).mono;rintro r T⟨M,rfl,o,d⟩;let q:=H d;go_wp2_with fail;apply (jV G N cp k S 6 a b V0 q Z Z f g Z).mono;rintro r W⟨O,rfl,p,d⟩;let s:=H d;go_wp2_with fail;apply (kc G N cp L M O S 9 a b V0 _ s n o p f g Z).mono
 case' neg=>have m:¬((50:Int)<=(l:Int)):=Z;go_wp2_with fail;generalize V.alloc _=K at e⊢;generalize V.heap.size=S at e⊢;refine(kc G N cp i j k S 0 a b V0 _ e Z Z Z f g Z).mono ?_
 all_goals
  rintro r q⟨x,rfl,d,o,_,s,L,p⟩
  have n:=H o
  have M:q.cell? (Qz S 0)=some (I s):=bJ p
  clear o p
  rcases(show s=0\/(s≠0/\s=12)\/(s≠0/\s≠12) by omega)with rfl|⟨_,rfl⟩|⟨O,R⟩
  all_goals
   try let o:¬((s:Int)=0):=Z
   try let p:¬((s:Int)=12):=Z
   go_wp2
   apply GX (b_ rfl) rfl
   first|exact⟨x,1,rfl,d,Z,n⟩|exact⟨x,2,rfl,d,Z,n⟩|exact⟨x,0,rfl,d,Z,n⟩
def Ba(a X:Nat)(b:X<18446744073709551616)(w:QM)(c:QG w a 0 (U X))(d:w.frozen? (Qz a 0)=false):
 QA 294 #[J a 0] w λe f=>e=QJ (U (Sort.xorNextN X:Nat))/\f=(w.setCell (Qz a 0) (U (Sort.xorNextN X:Nat))).drewN 3:=AnyF.xorshift_Next {Tryz.sortR with} a 0 X b w c d
def zC(n:Nat)(a:n<4611686018427387904)(w:QM):
 QA 293 #[I n] w λe b=>e=QJ (U ((1 <<< Sort.bitsLen n:Nat):Int))/\b=w:=AnyF.nextPowerOfTwo {Tryz.sortR with} n a w
def yo(G N cp)(a b:Nat)(V0){V}(A:AnyU G N cp V0 V)(a4:a+12<b)(hb:b<=N)(hN:N<=100000):
  Calls prog 248 #[Vl G N cp,I a,I b] V λr V'=>r=QJ (.tuple #[])/\AnyU G N cp V0 V':=by
 have⟨l,v⟩:=Qa (b-a);have⟨M,c⟩:=Qa (1 <<< Sort.bitsLen l);have⟨i,e⟩:=Qa (l/4);have⟨j,g⟩:=Qa (a+i*2-1);have a5:1<=M/\M<=2*l:=by rw[<-c,Nat.one_shiftLeft];exact⟨Nat.one_le_two_pow,Sort.two_pow_bitsLen_le Z⟩
 have O:=H (λw=>zC l Z w);rw[c]at O;have⟨k,o⟩:=Qa (M-1);have P:(M:Int)-1=(k:Int):=Z;have a6:(b:Int)-(a:Int)=(l:Int):=Z;have a7:(l:Int).tdiv 4=(i:Int):=by rw[Ig Z];omega
 have a8:(l:Int)/4=(i:Int):=Z;have⟨s,p⟩:=Qa (a+i*2);have⟨m,q⟩:=Qa (a+i*2+1);have Q:(a:Int)+(i:Int)*2=(s:Int):=Z;have R:(s:Int)-1=(j:Int):=Z;have T:(s:Int)+1=(m:Int):=Z;have h8:(8:Int)<=(l:Int):=Z;have t:D V (V.alloc (.cells #[U l] 374)):=ph;have⟨n,f⟩:=y7 (A.below t) (ao V (.cells #[U l] 374));have W:G<V.heap.size:=by obtain⟨d,h⟩:=A;exact h.lt
 have hr:j+2=m/\m<b/\m<N/\k<200000/\l<=N/\a<=j:=Z;have X:a+l<=N:=Z;clear A t v c e g p q o;go_in;go_wp2_with fail;generalize V.alloc _=W1 at n f⊢;generalize V.heap.size=S at f W⊢;refine(O _).mono ?_;rintro r A⟨rfl,rfl⟩;go_wp2_with fail;go_loopw [9] (λB wr=>∃t c r:Nat,t<=3/\j+t=c/\r<18446744073709551616/\B=I c/\Hid (wr.heap[S]?=some (.cells #[U r] 374))/\Hid (AnyU G N cp V0 wr)) (λB _=>j+4-(intOf B).toNat);exact⟨0,j,l,Z,rfl,Z,rfl,f,n⟩
 clear f n;obtain⟨t,c,r,ht,a0,F,rfl,f,n⟩:=hrel;by_cases a9:t<3
 ·have K:(c:Int)<=(m:Int):=Z;have⟨Y,e⟩:=Qa (Sort.xorNextN r);have x:=H (λw b g=>Ba S r F w b g);have v:Y<18446744073709551616:=by have:=(Sort.xorNext (UInt64.ofNat r)).toNat_lt;rw[Sort.xorNext_toNat,UInt64.toNat_ofNat_of_lt' (show r<2 ^ 64 by omega),e]at this;exact this
  rw[e]at x;have⟨o,y⟩:=Qa (Y &&& k);have b0:bits .and .u64 (Y:Int) (k:Int)=(o:Int):=(by rw[bits_and_u64_nat _ _ v Z,y]);have b1:o<=k:=(by rw[<-y];exact Nat.and_le_right);have c1:wr.cell? (Qz S 0)=some (U r):=bJ f;have f1:wr.frozen? (Qz S 0)=false:=(by simp[QD,f.out]);refine(let_mvar%?B:=wr.setCell (Qz S 0) (U Y);?_);have z:=H (show AnyU G N cp V0 ((?B).drewN 3)from by have⟨d,h⟩:=n.out;have g:=au (Q6 wr S) 0 (U Y);exact AnyU.dN ⟨d,h.sz,ai h.row (Ky.grown (S:=(· =374)) f rfl g),h.bel.trans (th.setCell (Nat.le_of_lt W) _)⟩ 3)
  have L:=H (show((?B).drewN 3).heap[S]?=some (.cells #[U Y] 374)from by show(?B).heap[S]?=_;simp[World.setCell,FD,f.out]);have⟨q,g⟩:=Qa (if o≥l then o-l else o);have CX:=H (x wr c1 f1);have a1:(c:Int)<(N:Int):=Z;have a2:q<l/\o<=k:=(by rw[<-g];split<;>omega);have⟨p,hp⟩:=Qa (a+q);have b2:(a:Int)+(q:Int)=(p:Int):=Z;have b3:(p:Int)<(N:Int):=Z;clear e y n f;go_wp2_with fail;refine(CX).mono ?_;rintro e A⟨rfl,x⟩;rw[<-x]at z L;clear x c1 f1;have⟨x,y,u,y1,y9,f1,y0,f0,A2⟩:=z.sw (show c<N by omega) (show p<N by omega);refine(let_mvar%?A:=(A.setCell (Qz G c) (U y)).setCell (Qz G p) (U x);?_);have S2:=H (show((?A).drew).heap[S]?=some (.cells #[U Y] 374) by show(?A).heap[S]?=_;rw[XB (show S≠G by omega),XB (show S≠G by omega)];exact L)
  clear z L;by_cases z:o≥l
  case' pos=>rw[GP z]at g;have L:(l:Int)<=(o:Int):=Z;have a3:(o:Int)-(l:Int)=(q:Int):=Z
  case' neg=>rw[GO z]at g;subst g;have L:¬((l:Int)<=(o:Int)):=Z
  all_goals
   go_upto_region 10 with fail
   go_region
   clear y1 y9 f1 y0 f0
   go_wp2
   go_roundw
   exact⟨t+1,c+1,Y,Z,Z,v,aY,S2,A2⟩
   exact QE
 have K:¬((c:Int)<=(m:Int)):=Z;go_wp2;go_end0;exact⟨rfl,n⟩
section
open Go.Shelf Go.RowKit Go.Lib Go.Sort
def BE:tz:=by
 intro v rs W p h q;rcases h.2 with⟨rfl,r⟩|⟨g,c,k,rfl,s,l,t,u,y,z⟩;.have b:rs=[]:=Ik r;subst b;have a:=AnyF.slices_SortFunc_none Tryz.sortR none 0 (.func (.func 123) #[] #[]) W;apply a.mono;rintro e A⟨rfl,rfl⟩;exact⟨rfl,[],List.Perm.refl _,List.Pairwise.nil,h,⟨rfl,rfl,rfl,gi,λ_ _ _=>rfl⟩⟩
 let B:∀b w,(callFunc 123 b).run prog w=.ok (.enter 123 b) w:=enters_of func123 E rfl;let a:=AnyQ.slices_SortFunc Tryz.sortR 5 Tryz.isAgg227 Tryz.sizeOf227 tC (λ_=>rfl) (λx v hv=>by simp[tC]at hv;rcases hv with rfl|rfl|rfl|rfl|rfl<;>rfl) tq Ev 123 #[] g 0 c rs.toArray W B (yF g 0 rs.toArray.size W) (Cv l z) (ag l) bG;simp only[FX]at a;apply a.mono;rintro e A⟨rfl,b,n,K,w,x,rfl⟩;let f:b.toList.Perm rs:=by have:=sX (d:=rs.toArray) (by simpa using w);simpa using this
 let m:b.toList.length=rs.length:=f.length_eq;refine⟨rfl,b.toList,f,?_,⟨by rw[jC,m],.inr ⟨g,c,_,rfl,s,pP b l,t,u,by simp[putCells,y],?_⟩⟩,kN b⟩;.rw[II];intro i j F G o;have:=x i j aa o Z;rw[Oh,getElem!_pos b i (by simpa using F),getElem!_pos b j (by simpa using G)]at this;simp at this;simpa using this
 have:=uA k b.toList (by rw[m];omega);rw[m]at this;simpa using this
end
section
variable {B Y:Nat}{y:Ly}{d:Dy}{cf:Cf}{h:Hs}{V W:World}
def lR(cf:Cf)(y:Ly):List Value:=(List.range 36).map λi=>Eu cf y (i/3) (i%3)
def Hp.range36(a:Hp B y d cf h W):W.rangeAt y.P 79 (lR cf y):=by
 intro j v hv;let b:j<36:=by have:=(Fz.1 hv).1;simpa[lR]using this
 rw[a.cell (79+j) Z _ rfl];unfold boxF;rw[GO Z,GO Z,GP Z,show 79+j-79=j by omega];rw[<-hv];simp[lR,b]
def EF(cf y)(k:Nat)(a:k<12)(w:QM):(Instr.index 89 (.agg (lR cf y).toArray) (I k)).run prog w=.ok (.agg #[J (y.qm k) 0,J (y.qg k) 0,lY cf.mix (y.qm k) (y.qg k)]) w:=by rcases(show k=0\/k=1\/k=2\/k=3\/k=4\/k=5\/k=6\/k=7\/k=8\/k=9\/k=10\/k=11 by omega)with rfl|rfl|rfl|rfl|rfl|rfl|rfl|rfl|rfl|rfl|rfl|rfl<;>kernel_rfl
def Q7{a b c d e f g i:QN}(h:V.heap[Y]?=some (.cells #[a,b,c,d,e,f,g,i] 39)):V.cell? (Qz Y 0)=some a/\V.cell? (Qz Y 1)=some b/\V.cell? (Qz Y 2)=some c/\V.cell? (Qz Y 3)=some d/\V.cell? (Qz Y 4)=some e/\V.cell? (Qz Y 5)=some f/\V.cell? (Qz Y 6)=some g/\V.cell? (Qz Y 7)=some i/\∀j,V.frozen? (Qz Y j)=false:=by refine⟨?_,?_,?_,?_,?_,?_,?_,?_,λj=>by simp[QD,h]⟩<;>(rw[ac h];rfl)
structure Mt9(B:Nat)(y:Ly)(d:Dy)(cf:Cf)(h:Hs)(W:QM)(X Y:Nat)(vo vs vw vr vl ve:QN)(ws:List (Nat×Nat))(rs:List Rg9)(V:QM):Prop where
 bel:D W V
 xb:V.heap[X]?=some (.cells #[I 0,C,C,C,C,C,C,I 0] 39)
 yb:V.heap[Y]?=some (.cells #[I (bz h.m 283),vo,vs,vw,vr,vl,ve,I h.used] 39)
 o:V.ownsRow W.heap.size 3 1 vo (NN h.m 283).length (Ns .i64 (NN h.m 283))
 s:V.ownsRow W.heap.size 223 5 vs (I1 h 12).length (fP h (I1 h 12))
 w:Wt9 cf h W.heap.size vo ws vw V
 r:V.ownsRow W.heap.size 227 5 vr rs.length (dH rs)
 rp:rs.Perm h.rg/\rs.Pairwise (λa b=>a.base<=b.base)
 bx:W.heap.size<=X
 by_:W.heap.size<=Y
 ne:X≠Y
def Mt9.below{B y d cf h W X Y vo vs vw vr vl ve ws rs V V'}(m:Mt9 B y d cf h W X Y vo vs vw vr vl ve ws rs V)(b:D V V'):Mt9 B y d cf h W X Y vo vs vw vr vl ve ws rs V':=
 ⟨m.bel.trans (b.mono m.bel.size),ae m.xb b,ae m.yb b,ax m.o b,ax m.s b,m.w.below b,ax m.r b,m.rp,m.bx,m.by_,m.ne⟩
def zZ{d:Nat}{a b c:QN}(h:V.heap[d]?=some (.cells #[a,b,c] 88)):V.cell? (Qz d 0)=some a/\V.cell? (Qz d 1)=some b/\V.cell? (Qz d 2)=some c:=by refine⟨?_,?_,?_⟩<;>(rw[ac h];rfl)
def C0(b:D W V)(o:Obj):∃Y,V.heap.size=Y/\D V (V.alloc o)/\(V.alloc o).heap[Y]?=some o/\W.heap.size<=Y:=⟨_,rfl,ph,ao V o,b.size⟩
def yO{c:Array QN}(h:V.heap[Y]?=some (.cells c 39))(a:Array QN):V.grownBy (V.setRow Y a) (some Y)/\Ky (· =39) V (V.setRow Y a)/\(V.setRow Y a).heap[Y]?=some (.cells a 39):=⟨aj V Y a,Ky.grown h rfl (aj V Y a),aw h a⟩
def Mt9.set{X vo vs vw vr vl ve ws rs}(m:Mt9 B y d cf h W X Y vo vs vw vr vl ve ws rs V)(i:Nat)(v a b:QN)(c:i=5/\a=v/\b=ve\/i=6/\a=vl/\b=v):Mt9 B y d cf h W X Y vo vs vw vr a b ws rs (V.setCell (Qz Y i) v)/\Ky (· =39) V (V.setCell (Qz Y i) v):=by
 let g:=au (Q6 V Y) i v;let k:Ky (· =39) V (V.setCell (Qz Y i) v):=Ky.grown m.yb rfl g;refine⟨⟨m.bel.grown g m.bel.size (λr a=>by simp at a;have:=m.by_;omega),?_,?_,ai m.o k,ai m.s k,m.w.ky k ar ar,ai m.r k,m.rp,m.bx,m.by_,m.ne⟩,k⟩;.rw[XB m.ne];exact m.xb
 rcases c with⟨rfl,rfl,rfl⟩|⟨rfl,rfl,rfl⟩<;>simp[World.setCell,FD,m.yb]
def Mt9.addW{X vo vs vw vr vl ve ws rs U}(m:Mt9 B y d cf h W X Y vo vs vw vr vl ve ws rs V)(b:D V U){g1 g2}(o:RowV U g1 3 (Ns .i64 (h.mx ws.length)))(p:RowV U g2 3 (Ns .i64 (h.ff ws.length)))(j:V.heap.size<=g1)(l:g1<g2)(q:ws.length<=12):
  ∃f a,QI 35 vw (Vl U.heap.size 1 1) (U.alloc (.cells #[Vl g1 (h.mx ws.length).length (h.mx ws.length).length,Vl g2 (h.ff ws.length).length (h.ff ws.length).length,I cf.fifo] 123)) f a/\f.oneCell'=true/\QG a Y 3 vw/\a.frozen? (Qz Y 3)=false/\Ky (· =123) V a/\Ky (λt=>t=123\/t=39) V (a.setCell (Qz Y 3) f)/\Mt9 B y d cf h W X Y vo vs f vr vl ve (ws++[(g1,g2)]) rs (a.setCell (Qz Y 3) f):=by
 let⟨f,a,r,n,i,s⟩:=m.w.add m.bel.size (λg e=>by obtain⟨_,c,k⟩:=aF m.o e;exact ag k) b o p j l q;let c:=i.XC m.yb;let u:=i.XC m.xb;let g:=au (Q6 a Y) 3 f;let k:Ky (· =39) a (a.setCell (Qz Y 3) f):=Ky.grown c rfl g;obtain⟨v,w,x,rfl⟩:=aA n.row;refine⟨_,a,r,rfl,(Q7 c).2.2.2.1,(Q7 c).2.2.2.2.2.2.2.2 3,i,(i.more (λt e=>.inl e)).trans (k.more (λt e=>.inr e)),⟨(m.bel.trans s).grown g (Fx m.bel.size i.size) (λr a=>by simp at a;have:=m.by_;omega),?_,?_,ai (ai m.o i ar) k,ai (ai m.s i ar) k,n.ky k ar ar,ai (ai m.r i ar) k,m.rp,m.bx,m.by_,m.ne⟩⟩;.rwa[XB m.ne]
 simp[World.setCell,FD,c]
def zj(e:tz)(m:tH):AH AI:=by
 intro B y d cf h k an W K i a;have⟨o,a2⟩:=y7 (λV(hV:D W V)=>K.below hV) a;have a7:h.rg.length<=400/\h.rel.length<=400/\h.row.length<=400:=by have b:=a.few.rg;have c:=a.few.rel;have f:=a.few.row;have g:=a.kk;omega
 have A:D W (W.alloc (.cells #[I 0,C,C,C,C,C,C,I 0] 39)):=ph;have⟨f,g⟩:=y7 (ao W (.cells #[I 0,C,C,C,C,C,C,I 0] 39)) (pK y.S y.M (cf.bud:Nat) d.f h.m (K.below A).sp (K.below A).pg a.inv.out);have c6:=(K.below A).cell 6 Z (J y.S 0) rfl;have b:=H (show(bm d.f 0 4096:Nat)=bz h.m 283 by rw[ke (λk=>K.pg.none_iff k) 4096];exact mn (n:=283) a.inv.out 3813)
 have⟨TS,TR,a8,c⟩:=Qf (λV(hV:D W V)=>pD B y d cf h V (K.below hV)) (λV(hV:D W V)=>nk e B y d cf h V (K.below hV) a.inv a7.1) m A;clear K i a A e m;go_enter func29,ntmps29;go_wp2_with fail;generalize W.alloc _=V0 at*;have⟨X,a⟩:=Qb W.heap.size;rw[<-a]at f⊢;have HX:=H (show W.heap.size<=X by omega);clear a;refine(g).mono ?_;rintro e L⟨vo,rfl,ho,b1⟩;obtain⟨oa,on,oc,rfl⟩:=aA ho;have⟨X1,O1,B1⟩:=Qe (ae f b1) (aN ho c.size) (c.trans (b1.mono c.size));rw[b];clear ho b1 c6;go_upto_region 2 with fail
 have M:L.drew.cell? (Qz y.P 118)=some (I h.used):=(o _ B1.drew).cell 118 Z _ rfl;have⟨a3,a4,a5⟩:=Qe B1.drew (ae X1 (Fu _ L).drew) (ax O1 (Fu _ L).drew);go_cut [5] (λa b=>∃(Y:Nat)(vs vr:QN)(rs:List Rg9),a=J Y 0/\Hid (Mt9 B y d cf h W X Y (.slice oa on oc) vs (C) vr (C) (C) [] rs b));case first=>
  refine rh (S:=λW9=>QG W9 y.P 118 (I h.used)) ?_;generalize N:L.drew=V2 at M a3 a4 a5;have s:({heap:=L.heap,tape:=L.tape,drawn:=L.drawn+1,os:=L.os,output:=L.output}:QM)=V2:=N;rw[s];clear N s;have g:=a3;have i:=a4;have t:=a5;have j:=M;iterate 3 (refine py j ?_;simp only[f0,f1,Nat.reduceAdd,lz,l0,ls])
  refine PX 4 j ?_;(iterate 4 refine PX 6 j ?_);refine lZ [3,11] λO l=>?_;rcases(by simpa using l:O=3\/O=11)with l|l
  case' inl=>
   subst l;refine cw λK' f=>?_;go_simp;refine(TS _ g).mono ?_;rintro e G⟨vs,rfl,hs,b⟩;obtain⟨sa,sn,sc,rfl⟩:=aA hs;have a:=NI b j;refine f _ _ ⟨a,?_⟩;clear j;have j:=a;have i:=H (ae i b);have t:=H (ax t b)
   try have m:=H (ax m b)
   try have q:=H (ax q b)
   (try have p:=H (ae p b));have⟨m,g⟩:=y7 (aN hs g.size) (g.trans (b.mono g.size));clear a hs b;clear f K';refine lZ [5,11] λO l=>?_;rcases(by simpa using l:O=5\/O=11)with l|l
   case' inl.inl=>
    subst l;refine cw λK' f=>?_;go_simp;refine(TR _ g).mono ?_;rintro e U2⟨vr,rs,rfl,u,w,F,b⟩;obtain⟨P,Q,R,rfl⟩:=aA F;have a:=NI b j;refine f _ _ ⟨a,?_⟩;have j:=a;have i:=H (ae i b);have t:=H (ax t b)
    try have m:=H (ax m b)
    try have q:=H (ax q b)
    (try have p:=H (ae p b));have⟨q,g,RP⟩:=Qe (aN F g.size) (g.trans (b.mono g.size)) (IT u w);refine PX 10 j ?_;refine po 11 λK' f=>?_;go_simp;have⟨Y,hY,b,x,z⟩:=C0 g (.cells #[I 0,C,C,C,C,C,C,I 0] 39);rw[hY];have a0:=H (show X≠Y by have:=ag i;omega);have HY:=H z;have a:=NI b j;refine f _ _ ⟨a,?_⟩;have j:=a;have i:=H (ae i b);have t:=H (ax t b)
    try have m:=H (ax m b)
    try have q:=H (ax q b)
    (try have p:=H (ae p b));have p:=H x;have g:=H (g.trans (b.mono g.size))
   case' inl.inr=>
    subst l;refine cw λK' f=>?_;go_simp;have⟨Y,hY,b,x,z⟩:=C0 g (.cells #[I 0,C,C,C,C,C,C,I 0] 39);rw[hY];have a0:=H (show X≠Y by have:=ag i;omega);have HY:=H z;have a:=NI b j;refine f _ _ ⟨a,?_⟩;have j:=a;have i:=H (ae i b);have t:=H (ax t b)
    try have m:=H (ax m b)
    try have q:=H (ax q b)
    (try have p:=H (ae p b));have⟨p,g⟩:=y7 x (g.trans (b.mono g.size));refine po 5 λK' f=>?_;go_simp;refine(TR _ g).mono ?_;rintro e U2⟨vr,rs,rfl,u,w,F,b⟩;obtain⟨P,Q,R,rfl⟩:=aA F;have a:=NI b j;refine f _ _ ⟨a,?_⟩;have j:=a;have i:=H (ae i b);have t:=H (ax t b)
    try have m:=H (ax m b)
    try have q:=H (ax q b)
    (try have p:=H (ae p b));have⟨q,g,RP⟩:=Qe (aN F g.size) (g.trans (b.mono g.size)) (IT u w);refine PX 10 j ?_
  case' inr=>
   subst l;refine cw λK' f=>?_;go_simp;have⟨Y,hY,b,x,z⟩:=C0 g (.cells #[I 0,C,C,C,C,C,C,I 0] 39);rw[hY];have a0:=H (show X≠Y by have:=ag i;omega);have HY:=H z;have a:=NI b j;refine f _ _ ⟨a,?_⟩;have j:=a;have i:=H (ae i b);have t:=H (ax t b)
   try have m:=H (ax m b)
   try have q:=H (ax q b)
   (try have p:=H (ae p b));have⟨p,g⟩:=y7 x (g.trans (b.mono g.size));refine po 3 λK' f=>?_;go_simp;refine(TS _ g).mono ?_;rintro e G⟨vs,rfl,hs,b⟩;obtain⟨sa,sn,sc,rfl⟩:=aA hs;have a:=NI b j;refine f _ _ ⟨a,?_⟩;have j:=a;have i:=H (ae i b);have t:=H (ax t b)
   try have m:=H (ax m b)
   try have q:=H (ax q b)
   (try have p:=H (ae p b));have⟨m,g⟩:=y7 (aN hs g.size) (g.trans (b.mono g.size));refine po 5 λK' f=>?_;go_simp;refine(TR _ g).mono ?_;rintro e U2⟨vr,rs,rfl,u,w,F,b⟩;obtain⟨P,Q,R,rfl⟩:=aA F;have a:=NI b j;refine f _ _ ⟨a,?_⟩;have j:=a;have i:=H (ae i b);have t:=H (ax t b)
   try have m:=H (ax m b)
   try have q:=H (ax q b)
   (try have p:=H (ae p b));have⟨q,g,RP⟩:=Qe (aN F g.size) (g.trans (b.mono g.size)) (IT u w);refine PX 10 j ?_
  all_goals
   refine po 12 λK' f=>?_
   refine Ih 39 (.tmp 5) (.tmp 26) E Y #[I (bz h.m 283),.slice oa on oc,.slice sa sn sc,C,.slice P Q R,C,C,I h.used] E E 39 _ p E rfl mL ?_
   have⟨g9,T,y9⟩:=yO p #[I (bz h.m 283),.slice oa on oc,.slice sa sn sc,C,.slice P Q R,C,C,I h.used]
   have M0:=H (Mt9.mk (B:=B) (y:=y) (d:=d) (cf:=cf) (h:=h) (W:=W) (X:=X) (Y:=Y) (vo:=.slice oa on oc) (vs:=.slice sa sn sc) (vw:=C) (vr:=.slice P Q R) (vl:=C) (ve:=C) (ws:=[]) (rs:=rs) (g.grown g9 g.size (λr F=>by simp at F;have:=HY.out;omega)) (by rw[g9.block X (ag i) (by simpa using a0.out)];exact i) y9 (ai t T) (ai m T) ⟨⟨rfl,.inl ⟨rfl,rfl⟩⟩,(λc p K=>by simp at K),List.Pairwise.nil,(λg g p K=>by cases K)⟩ (ai q T) RP HX HY a0)
   have a:=(o _ M0.bel).cell 118 Z (I h.used) rfl
   refine f _ _ ⟨a,?_⟩
   clear j a g9 T y9 f K'
   refine bY ?_
   go_wp2_with fail
   go_meet
   exact⟨Y,_,_,rs,rfl,M0⟩
 obtain⟨Y,vs,vr,rs,rfl,M0⟩:=hcut;have g:=H (o _ M0.bel).range36;have a6:=H (λk a w=>EF cf y k a w);go_wp2_with (refine wpList_load_mid rfl 89 _ rfl _ _ rfl _ _ g underlying89 rfl E ?_);generalize a:(lR cf y).toArray=b5 at*;go_loopw [31] (λi wr=>∃(c:Nat)(vw:QN)(ws:List (Nat×Nat)),c<=12/\i=I c/\Hid (ws.length=c)/\Hid (Mt9 B y d cf h W X Y (.slice oa on oc) vs vw vr (C) (C) ws rs wr)) (λi _=>12-(intOf i).toNat);exact⟨0,_,[],Z,rfl,H rfl,M0⟩
 case round=>
  obtain⟨c,vw,ws,hc,rfl,p,HM⟩:=hrel;by_cases a0:c<12
  ·have b2:(c:Int)<12:=Z;obtain⟨wa,wn,wc,rfl⟩:=aA HM.w.row;have g:=λw=>a6.out c a0 w
   obtain⟨tt,pp,a⟩:∃(tt:Nat)(pp:Nat),lY cf.mix (y.qm c) (y.qg c)=.iface tt (J pp 0):=by unfold lY;split<;>exact⟨_,_,rfl⟩
   rw[a]at g;have QT:=H (λV(hV:D W V)=>xd (y.qm c) (y.qr c) (y.qg c) (y.qq c) cf.fifo tt (Qz pp 0) (h.mx c) (h.ff c) V rfl ((o V hV).wt c a0) (by rw[a2.inv.mxl c a0];have:=a2.dok.mix;omega) (by have:=a2.dok.fifo;omega));have A:D wr (wr.alloc (.cells #[J (y.qm c) 0,J (y.qg c) 0,.iface tt (J pp 0)] 88)):=ph;have⟨M1,q⟩:=y7 (HM.below A) (ao wr (.cells #[J (y.qm c) 0,J (y.qg c) 0,.iface tt (J pp 0)] 88));(go_upto_region 6 with fail);generalize wr.alloc _=V at M1 q⊢;have⟨a,t⟩:=Qa wr.heap.size;rw[t]at q⊢;have⟨MD,z⟩:=y7 (M1.below (Fu _ V).drew) (ae q (Fu _ V).drew);have cA:=(Q7 MD.yb).2.2.2.1;refine rh (S:=λW9=>QG W9 a 0 (J (y.qm c) 0)/\QG W9 a 1 (J (y.qg c) 0)/\QG W9 a 2 (.iface tt (J pp 0))) ?_;generalize N:V.drew=V2 at MD z cA;have s:({heap:=V.heap,tape:=V.tape,drawn:=V.drawn+1,os:=V.os,output:=V.output}:QM)=V2:=N;rw[s];have j:=zZ z;refine py j ?_;simp only[f0,f1,Nat.reduceAdd,lz,l0,ls];refine PX 2 j ?_;refine lZ [1,3] λO l=>?_;rcases(by simpa using l:O=1\/O=3)with l|l
   ·subst l;refine cw λK' f=>?_;go_simp;refine f _ _ ⟨j,?_⟩;refine po 3 λK' f=>?_
    go_simp;refine(QT _ MD.bel).mono ?_;rintro e G⟨g1,g2,rfl,r1,r2,q,t,b⟩;unfold wv;have⟨v9,U2,g,u,b0,f39,T,x,m9⟩:=MD.addW b (by rw[p];exact r1) (by rw[p];exact r2) q t (by rw[p];omega);rw[p]at g;obtain⟨xa,xn,xc,rfl⟩:=aA m9.w.row;have cB:=NI b cA;have A:D G (G.alloc (.cells #[Vl g1 (h.mx c).length (h.mx c).length,Vl g2 (h.ff c).length (h.ff c).length,I cf.fifo] 123)):=ph;have cC:=NI A cB;have⟨ZU,ZA,Z9,a1,M9⟩:=Qg (zZ (ae z b)) (zZ (ae (ae z b) A)) (zZ (T.XC z)) (zZ (x.XC z)) m9;refine f _ _ ⟨ZU,?_⟩;have j:=ZU.out;refine po 4 λK' f=>?_;go_simp;refine f _ _ ⟨ZA,?_⟩;have j:=ZA.out;refine po 5 λK' f=>?_
    refine aV 35 (.tmp 35) (.tmp 38) (v:=.slice wa wn wc) (v2:=Vl G.heap.size 1 1) E E E E g ?_;refine f _ _ ⟨Z9,?_⟩;have j:=Z9.out;refine PX 6 j ?_;refine po 7 λK' f=>?_;go_simp;refine f _ _ ⟨a1,?_⟩;refine bY ?_;go_wp2;go_roundw
    (exact⟨c+1,_,ws++[(g1,g2)],Z,aY,H (by rw[FC,p];rfl),M9⟩);exact QE
   subst l;refine cw λK' f=>?_;go_simp;refine(QT _ MD.bel).mono ?_;rintro e G⟨g1,g2,rfl,r1,r2,q,t,b⟩;unfold wv;have⟨v9,U2,g,u,b0,f39,T,x,m9⟩:=MD.addW b (by rw[p];exact r1) (by rw[p];exact r2) q t (by rw[p];omega);rw[p]at g;obtain⟨xa,xn,xc,rfl⟩:=aA m9.w.row;have cB:=NI b cA;have A:D G (G.alloc (.cells #[Vl g1 (h.mx c).length (h.mx c).length,Vl g2 (h.ff c).length (h.ff c).length,I cf.fifo] 123)):=ph;have cC:=NI A cB;have⟨ZU,ZA,Z9,a1,M9⟩:=Qg (zZ (ae z b)) (zZ (ae (ae z b) A)) (zZ (T.XC z)) (zZ (x.XC z)) m9;refine f _ _ ⟨ZU,?_⟩;have j:=ZU.out;refine lZ [1,4] λO l=>?_
   rcases(by simpa using l:O=1\/O=4)with l|l
   ·subst l;refine cw λK' f=>?_;go_simp;refine f _ _ ⟨j,?_⟩;refine po 4 λK' f=>?_
    go_simp;refine f _ _ ⟨ZA,?_⟩;have j:=ZA.out;refine po 5 λK' f=>?_;refine aV 35 (.tmp 35) (.tmp 38) (v:=.slice wa wn wc) (v2:=Vl G.heap.size 1 1) E E E E g ?_;refine f _ _ ⟨Z9,?_⟩;have j:=Z9.out;refine PX 6 j ?_;refine po 7 λK' f=>?_
    go_simp;refine f _ _ ⟨a1,?_⟩;refine bY ?_;go_wp2;go_roundw;(exact⟨c+1,_,ws++[(g1,g2)],Z,aY,H (by rw[FC,p];rfl),M9⟩);exact QE
   subst l;refine cw λK' f=>?_;go_simp;refine f _ _ ⟨ZA,?_⟩;have j:=ZA.out;refine po 1 λK' f=>?_
   go_simp;refine f _ _ ⟨j,?_⟩;refine po 5 λK' f=>?_;refine aV 35 (.tmp 35) (.tmp 38) (v:=.slice wa wn wc) (v2:=Vl G.heap.size 1 1) E E E E g ?_;refine f _ _ ⟨Z9,?_⟩;clear j;have j:=Z9.out;clear f K';refine PX 6 j ?_;refine po 7 λK' f=>?_
   go_simp;refine f _ _ ⟨a1,?_⟩;clear j;clear f K';refine bY ?_;go_wp2;go_roundw;(exact⟨c+1,_,ws++[(g1,g2)],Z,aY,H (by rw[FC,p];rfl),M9⟩);exact QE
  obtain rfl:c=12:=Z;have⟨qa,qc,a⟩:=oz (o wr HM.bel).ro;have⟨ea,en,ec,g⟩:=aA (o wr HM.bel).rl;have u:wr.cell? (Qz y.P 116)=some (.slice qa h.row.length qc):=(by rw[<-a];exact(o wr HM.bel).cell 116 Z _ rfl);have CL:=H (xt B d.ro h.row wr (o wr HM.bel).ro Z);rw[a]at CL;have⟨b6,x⟩:=y7 a g;clear a g a0 hc;go_wp2_with fail;refine(CL).mono ?_;rintro e G⟨vl,rfl,hl,b1⟩;obtain⟨g,q,t,rfl⟩:=aA hl;have M1:=H (HM.below b1);have c5:=(Q7 M1.yb).2.2.2.2.2.1;have f5:=(Q7 M1.yb).2.2.2.2.2.2.2.2 5;have⟨a,k2⟩:=M1.set 5 (.slice g q t) (.slice g q t) (C) (.inl ⟨rfl,rfl,rfl⟩);have M2:=H a;have z:(G.setCell (Qz Y 5) (.slice g q t)).cell? (Qz y.P 117)=some (.slice ea en ec):=(by rw[<-x.out];exact(o _ a.bel).cell 117 Z _ rfl);clear hl b1 a k2 HM u;go_wp2_with fail;generalize G.setCell (Qz Y 5) (.slice g q t)=U2 at*;refine(uS ea en ec U2).mono ?_;rintro e U3⟨rfl,a⟩;have u:D U2 U3:=(by rw[a];exact ph);have z3:U3.heap[U2.heap.size]?=some (.cells #[.slice ea en ec] 37):=(by rw[a];exact XD);have M3:=H (M2.below u);have SV:=H (a8 U2.heap.size ea en ec h.rel U3 B z3 (by rw[<-x.out];exact(o U3 M3.bel).rl) Z);clear a u z3 z c5 f5;go_wp2_with fail;refine(SV).mono ?_;rintro e U4⟨ve,es,rfl,u,b4⟩;obtain⟨xa,xn,xc,rfl⟩:=aA u;have M4:=H (M3.below b4);have c6:=(Q7 M4.yb).2.2.2.2.2.2.1;have f6:=(Q7 M4.yb).2.2.2.2.2.2.2.2 6;have⟨a,k5⟩:=M4.set 6 (.slice xa xn xc) (.slice g q t) (.slice xa xn xc) (.inr ⟨rfl,rfl,rfl⟩);have z:=H a;have⟨u0,u1,u2,u3,u4,u5,u6,u7,_⟩:=Q7 a.yb;have⟨wa,wn,a0,a1⟩:=aA a.w.row;have⟨sa,sn,sc,b0⟩:=aA a.s;have⟨P,Q,R,b2⟩:=aA a.r;subst a1 b0 b2;clear u b4 a k5;go_wp2_with (refine eG z.xb ?_);refine fM (aw z.xb _) underlying39 ?_;have ho:∀w∈[Value.int .i64 (bz h.m 283),.slice oa on oc,.slice sa sn sc,.slice wa wn a0,.slice P Q R,.slice g q t,.slice xa xn xc,I h.used],w.oneCell'=true:=mL;exact⟨_,_,_,_,_,_,_,_,rfl,ho,⟨ho,rfl,rfl⟩,z.bel.grown (aj _ _ _) z.bel.size (λr F=>by simp at F;have:=z.bx;omega)⟩
end
def zH (G N cp)(a b:Nat)(V0){V}(A:AnyU G N cp V0 V)(a5:a<b)(hb:b<=N)(hN:N<=100000):
  Calls prog 251 #[.slice (some (Qz G 0)) N cp,I a,I b] V λr V'=>∃q,r=QJ (.bool q)/\AnyU G N cp V0 V':=by
 have c:=H A;clear A;go_wp2;refine(let_mvar%?A:=AnyU G N cp V0;?_);go_loopw [7,8] (λp M wr=>∃t i:Nat,t<=5/\a+1<=i/\i<=b/\p=I i/\M=I t/\Hid (?A wr)) (λ_ M _=>6-(intOf M).toNat);exact⟨0,a+1,Z,Z,Z,aY,rfl,c⟩
 clear c;obtain⟨t,i,ht,O,P,rfl,rfl,c⟩:=hrel;by_cases a6:t<5
 .have a7:(t:Int)<5:=Z;(go_upto_block 2 with fail);go_cut [7]from 13 to 132 (λp Q=>∃I1:Nat,a+1<=I1/\I1<=b/\p=I I1/\Hid (?A Q))
  case first=>
   go_wp2;go_loopw [7] (λp wr=>∃i:Nat,a+1<=i/\i<=b/\p=I i/\Hid (?A wr)) (λp _=>b+1-(intOf p).toNat);(case atStart=>exact⟨i,O,P,rfl,c⟩);case round=>
    clear c;obtain⟨j,q,s,rfl,c⟩:=hrel;by_cases R:j<b
    ·obtain⟨k,S⟩:∃k,j=k+1:=⟨j-1,Z⟩;have g:(j:Int)<(b:Int):=Z;have T:(j:Int)-1=(k:Int):=Z;have z:(j:Int)<(N:Int):=Z;have W:(k:Int)<(N:Int):=Z;have⟨x,e⟩:=c.at (show j<N by omega);have⟨y,f⟩:=c.at (show k<N by omega);clear S;cases o:aQ x y
     all_goals
      go_upto_region 5 with fail
      go_quiet (first|(go_at_call 252;exact GW (jN o)))
      have d:=H (c.dN nq)
      clear c e f o
      generalize wr.drewN nq=X at d⊢
     .go_wp2;go_roundw;(exact⟨j+1,Z,Z,aY,d⟩);exact QE
     .go_wp2;go_meet;exact⟨j,q,s,rfl,d⟩
    .let g:decide ((j:Int)<(b:Int))=false:=GR Z;(go_upto_region 5 with fail);go_quiet (fail);have d:=H (c.dN nq);generalize wr.drewN nq=X at d⊢;go_wp2;go_meet;exact⟨j,q,s,rfl,d⟩
  case rest=>
   obtain⟨I1,r1,r2,rfl,c⟩:=hcut;by_cases a8:I1=b
   .let Y:(I1:Int)=(b:Int):=Z;go_wp2
    first|go_ret|((try simp only[Exit.inBlock,Exit.then]);go_ret)
    exact⟨_,rfl,c⟩
   .let Y:¬((I1:Int)=(b:Int)):=Z;let⟨L,hL⟩:=Qa (b-a);by_cases b0:b-a<50
    .let a0:(L:Int)<50:=Z;go_wp2
     first|go_ret|((try simp only[Exit.inBlock,Exit.then]);go_ret)
     exact⟨_,rfl,c⟩
    .let a0:¬((L:Int)<50):=Z;let⟨k,S⟩:=Qa (I1-1);let T:(I1:Int)-1=(k:Int):=Z;let W:(k:Int)<(N:Int):=Z;let⟨x,y,u,e,f,f1,A,f0,l⟩:=c.sw (show I1<N by omega) (show k<N by omega);(go_upto_region 11 with fail);go_region;generalize World.drew _=w9 at l⊢;let⟨B,b2⟩:=Qa (I1-a);let⟨F,b3⟩:=Qa (b-I1);(go_upto_if 61 with fail);go_cut [9]from 13 to 132 (λK Q=>Hid (?A Q))
     case first=>
      by_cases h2:I1-a≥2
      .let v:(2:Int)<=(B:Int):=Z;go_wp2;go_loopw [9] (λK wr=>∃j:Nat,j<=k/\K=I j/\Hid (?A wr)) (λK _=>(intOf K).toNat);(case atStart=>exact⟨k,gi,aY,l⟩);case round=>
        obtain⟨j,w,rfl,c⟩:=hrel;cases j with
        |zero=>go_wp2;go_meet;exact c
        | succ m=>
         let⟨j,n⟩:=Qa (m+1);rw[n]at w⊢;let g:(1:Int)<=(j:Int):=Z;let a1:(j:Int)-1=(m:Int):=Z;let z:(j:Int)<(N:Int):=Z;let a2:(m:Int)<(N:Int):=Z;let⟨x,e⟩:=c.at (show j<N by omega);let⟨y,f⟩:=c.at (show m<N by omega);cases o:aQ x y
         all_goals
          go_upto_region 16 with fail
          go_quiet (first|(go_at_call 252;exact GW (jN o)))
          have d:=H (c.dN nq)
          clear c e f o
          generalize wr.drewN nq=X at d⊢
         .go_wp2;go_meet;exact d
         .let⟨x,y,u,e,f,f1,A,f0,l⟩:=d.sw (show j<N by omega) (show m<N by omega);(go_upto_region 17 with fail);go_region;go_wp2;go_roundw;(exact⟨m,Z,aY,l⟩);exact QE
      .let v:¬((2:Int)<=(B:Int)):=Z;go_wp2;go_meet;exact l
     case rest=>
      let d:=hcut;by_cases h2:b-I1≥2
      case' neg=>let v:¬((2:Int)<=(F:Int)):=Z
      case' pos=>
       let v:(2:Int)<=(F:Int):=Z;go_wp2;go_loopw [10] (λw wr=>∃j:Nat,I1+1<=j/\j<=b/\w=I j/\Hid (?A wr)) (λw _=>b+1-(intOf w).toNat);(case atStart=>exact⟨I1+1,gi,Z,aY,d⟩);obtain⟨j,q,s,rfl,c⟩:=hrel;by_cases R:j<b
       case' pos=>
        let⟨m,n⟩:=Qa (j-1);let g:(j:Int)<(b:Int):=Z;let a1:(j:Int)-1=(m:Int):=Z;let z:(j:Int)<(N:Int):=Z;let a2:(m:Int)<(N:Int):=Z;let⟨x,e⟩:=c.at (show j<N by omega);let⟨y,f⟩:=c.at (show m<N by omega);cases o:aQ x y
        all_goals
         go_upto_region 22 with fail
         go_quiet (first|(go_at_call 252;exact GW (jN o)))
         have d:=H (c.dN nq)
         clear c e f o
         generalize wr.drewN nq=X at d⊢
        rotate_left
        .let⟨x,y,u,e,f,f1,A,f0,l⟩:=d.sw (show j<N by omega) (show m<N by omega);(go_upto_region 23 with fail);go_region;go_wp2;go_roundw;(exact⟨j+1,Z,Z,aY,l⟩);exact QE
       case' neg=>let g:¬((j:Int)<(b:Int)):=Z;let d:=c
      all_goals
       go_wp2
       go_roundw
       exact⟨t+1,I1,Z,Z,Z,aY,aY,d⟩
       exact QE
 .obtain rfl:t=5:=Z;go_wp2
  first|go_ret|((try simp only[Exit.inBlock,Exit.then]);go_ret)
  exact⟨_,rfl,c⟩
def Ca(G N cp)(a b o:Nat)(V0){V}(A:AnyU G N cp V0 V)(h1:a<=o)(h2:o<b)(hb:b<=N)(hN:N<=100000):
  Calls prog 253 #[.slice (some (Qz G 0)) N cp,I a,I b,I o] V λr S=>∃i:Nat,r=QJ (I i)/\(a+1<=i/\i<=b)/\AnyU G N cp V0 S:=by
 let⟨t,T⟩:=Qa (b-1);let Q:(b:Int)-1=(t:Int):=Z;have c:=H A;clear A;go_in;let g:(a:Int)<(N:Int):=Z;let p:(o:Int)<(N:Int):=Z;let⟨x,y,u,l,n,f1,w,f0,v⟩:=c.sw (show a<N by omega) (show o<N by omega);go_upto_region 1 with fail
 go_region;clear l n f1 w f0;go_wp2;refine(let_mvar%?A:=AnyU G N cp V0;?_);go_loopw [9,10] (λz d wr=>∃i j:Nat,a+1<=i/\i<=b/\a<=j/\j<b/\z=I i/\d=I j/\Hid (?A wr)) (λz _ _=>b+1-(intOf z).toNat);exact⟨a+1,t,Z,Z,Z,Z,aY,rfl,v⟩
 clear v g p;obtain⟨i,j,W,X,Y,hj,rfl,rfl,c⟩:=hrel;go_upto_block 2 with fail
 go_cut [9]from 29 to 45 (λs A=>∃I2:Nat,i<=I2/\I2<=b/\s=I I2/\Hid (?A A))
 case first=>
  go_wp2;go_loopw [9] (λs wr=>∃k:Nat,i<=k/\k<=b/\s=I k/\Hid (?A wr)) (λs _=>b+1-(intOf s).toNat);(case atStart=>exact⟨i,Z,Z,aY,c⟩);case round=>
   clear c;obtain⟨k,B,F,rfl,c⟩:=hrel;by_cases K:k<=j
   case' pos=>
    let d:(k:Int)<=(j:Int):=Z;let g:(k:Int)<(N:Int):=Z;let L:(a:Int)<(N:Int):=Z;have⟨x,l⟩:=c.at (show k<N by omega);have⟨y,n⟩:=c.at (show a<N by omega);cases q:aQ y x
    all_goals
     go_upto_region 3 with fail
     go_quiet (first|(go_at_call 252;exact GW (jN q)))
     have e:=H (c.dN nq)
     clear c l n q
     generalize wr.drewN nq=M at e⊢
    ·go_wp2;go_roundw;(exact⟨k+1,Z,Z,aY,e⟩);exact QE
   case' neg=>have d:decide ((k:Int)<=(j:Int))=false:=GR Z;(go_upto_region 3 with fail);go_quiet (fail);have e:=H (c.dN nq);clear c;generalize wr.drewN nq=M at e⊢
   all_goals
    go_wp2
    go_meet
    exact⟨k,B,F,rfl,e⟩
 case rest=>
  obtain⟨I2,a0,a1,rfl,c⟩:=hcut;(go_upto_block 4 with fail);go_cut [10]from 46 to 61 (λs A=>∃f:Nat,a<=f/\f<=j/\s=I f/\Hid (?A A))
  case first=>
   go_wp2;go_loopw [10] (λs wr=>∃k:Nat,a<=k/\k<=j/\s=I k/\Hid (?A wr)) (λs _=>(intOf s).toNat);(case atStart=>exact⟨j,Z,Z,aY,c⟩);case round=>
    clear c;obtain⟨k,B,F,rfl,c⟩:=hrel;by_cases K:I2<=k
    case' pos=>
     obtain⟨m,R⟩:∃m,k=m+1:=⟨k-1,Z⟩;have d:(I2:Int)<=(k:Int):=Z;have O:(k:Int)-1=(m:Int):=Z;have g:(k:Int)<(N:Int):=Z;have L:(a:Int)<(N:Int):=Z;have⟨x,l⟩:=c.at (show k<N by omega);have⟨y,n⟩:=c.at (show a<N by omega);clear R;cases q:aQ y x
     all_goals
      go_upto_region 5 with fail
      go_quiet (first|(go_at_call 252;exact GW (jN q)))
      have e:=H (c.dN nq)
      clear c l n q
      generalize wr.drewN nq=M at e⊢
     rotate_left
     ·go_wp2;go_roundw;(exact⟨m,Z,Z,aY,e⟩);exact QE
    case' neg=>have d:decide ((I2:Int)<=(k:Int))=false:=GR Z;(go_upto_region 5 with fail);go_quiet (fail);have e:=H (c.dN nq);clear c;generalize wr.drewN nq=M at e⊢
    all_goals
     go_wp2
     go_meet
     exact⟨k,B,F,rfl,e⟩
  case rest=>
   obtain⟨f,a2,a3,rfl,c⟩:=hcut;by_cases a4:I2 > f
   .let P:(f:Int)<(I2:Int):=Z;go_wp2
    first|go_ret|((try simp only[Exit.inBlock,Exit.then]);go_ret)
    exact⟨I2,rfl,Z,c⟩
   .let P:¬((f:Int)<(I2:Int)):=Z;let⟨m,R⟩:=Qa (f-1);let O:(f:Int)-1=(m:Int):=Z;let g:(I2:Int)<(N:Int):=Z;let p:(f:Int)<(N:Int):=Z;let⟨x,y,u,l,n,f1,w,f0,v⟩:=c.sw (show I2<N by omega) (show f<N by omega);clear c;(go_upto_region 8 with fail);go_region;clear l n f1 w f0;go_wp2;go_roundw;(exact⟨I2+1,m,Z,Z,Z,Z,aY,aY,v⟩);exact QE
def zd(G N cp)(a b P:Nat)(V0){V}(A:AnyU G N cp V0 V)(h1:a<=P)(h2:P<b)(hb:b<=N)(hN:N<=100000):
  Calls prog 254 #[.slice (some (Qz G 0)) N cp,I a,I b,I P] V λr V'=>∃(i:Nat)(q:Bool),r=QJ (.tuple #[I i,.bool q])/\(a<=i/\i<b)/\AnyU G N cp V0 V':=by
 let⟨i,hi⟩:=Qa (a+1);let⟨j,hj⟩:=Qa (b-1);let X:(a:Int)+1=(i:Int):=Z;let Y:(b:Int)-1=(j:Int):=Z;have c:=H A;go_in;refine(let_mvar%?B:=(a:Int)<(N:Int);?_);let g:?B:=Z;let o:(P:Int)<(N:Int):=Z;let⟨x,y,u,l,n,f1,t,f0,p⟩:=c.sw (show a<N by omega) (show P<N by omega);go_upto_region 1 with fail
 go_region;generalize World.drew _=w0 at p⊢;have c:=p;go_upto_block 0 with fail
 refine(let_mvar%?A:=AnyU G N cp V0;?_);go_cut [10]from 30 to 45 (λs z=>∃I2:Nat,i<=I2/\I2<=b/\s=I I2/\Hid (?A z))
 ·go_wp2;go_loopw [10] (λs wr=>∃k:Nat,i<=k/\k<=b/\s=I k/\Hid (?A wr)) (λs _=>b+1-(intOf s).toNat);exact⟨i,Z,Z,aY,c⟩
  obtain⟨k,A,B,rfl,c⟩:=hrel;by_cases F:k<=j
  case' pos=>
   let e:(k:Int)<=(j:Int):=Z;let g:(k:Int)<(N:Int):=Z;let K:?B:=Z;let⟨x,l⟩:=c.at (show k<N by omega);let⟨y,n⟩:=c.at (show a<N by omega);cases q:aQ x y
   all_goals
    go_upto_region 3 with fail
    go_quiet (first|(go_at_call 252;exact GW (jN q)))
    have f:=H (c.dN nq)
    clear c l n q
    generalize wr.drewN nq=L at f⊢
   rotate_left
   .go_wp2;go_roundw;(exact⟨k+1,Z,Z,aY,f⟩);exact QE
  case' neg=>let e:decide ((k:Int)<=(j:Int))=false:=GR Z;(go_upto_region 3 with fail);go_quiet (fail);have f:=H (c.dN nq);clear c;generalize wr.drewN nq=L at f⊢
  all_goals
   go_wp2
   go_meet
   exact⟨k,A,B,rfl,f⟩
 obtain⟨I2,Q,R,rfl,c⟩:=hcut;go_upto_block 2 with fail
 go_cut [11]from 46 to 62 (λs z=>∃d:Nat,a<=d/\d<=j/\s=I d/\Hid (?A z))
 case first=>
  go_wp2;go_loopw [11] (λs wr=>∃k:Nat,a<=k/\k<=j/\s=I k/\Hid (?A wr)) (λs _=>(intOf s).toNat);(case atStart=>exact⟨j,Z,Z,aY,c⟩);case round=>
   clear c;obtain⟨k,A,B,rfl,c⟩:=hrel;by_cases F:I2<=k
   case' pos=>
    obtain⟨m,O⟩:∃m,k=m+1:=⟨k-1,Z⟩;have e:(I2:Int)<=(k:Int):=Z;have v:(k:Int)-1=(m:Int):=Z;have g:(k:Int)<(N:Int):=Z;have K:?B:=Z;have⟨x,l⟩:=c.at (show k<N by omega);have⟨y,n⟩:=c.at (show a<N by omega);clear O;cases q:aQ x y
    all_goals
     go_upto_region 5 with fail
     go_quiet (first|(go_at_call 252;exact GW (jN q)))
     have f:=H (c.dN nq)
     clear c l n q
     generalize wr.drewN nq=L at f⊢
    .go_wp2;go_roundw;(exact⟨m,Z,Z,aY,f⟩);exact QE
   case' neg=>let e:decide ((I2:Int)<=(k:Int))=false:=GR Z;(go_upto_region 5 with fail);go_quiet (fail);have f:=H (c.dN nq);clear c;generalize wr.drewN nq=L at f⊢
   all_goals
    go_wp2
    go_meet
    exact⟨k,A,B,rfl,f⟩
 case rest=>
  obtain⟨d,S,T,rfl,c⟩:=hcut;by_cases W:I2 > d
  .let w:(d:Int)<(I2:Int):=Z;let g:(d:Int)<(N:Int):=Z;let o:?B:=Z;let⟨x,y,u,l,n,f1,t,f0,p⟩:=c.sw (show d<N by omega) (show a<N by omega);clear c;(go_upto_region 8 with fail);go_region;clear l n f1 t f0;go_wp2;apply GX (b_ rfl) rfl;exact⟨d,_,rfl,Z,p⟩
  .let w:¬((d:Int)<(I2:Int)):=Z;let⟨m,O⟩:=Qa (d-1);let v:(d:Int)-1=(m:Int):=Z;let g:(I2:Int)<(N:Int):=Z;let o:(d:Int)<(N:Int):=Z;let⟨x,y,u,l,n,f1,t,f0,p⟩:=c.sw (show I2<N by omega) (show d<N by omega);(go_upto_region 10 with fail);go_region;go_wp2;go_loopw [10,11] (λM r wr=>∃i j:Nat,a+1<=i/\i<=b/\a<=j/\j<b/\M=I i/\r=I j/\Hid (?A wr)) (λM _ _=>b+1-(intOf M).toNat);(case atStart=>exact⟨I2+1,m,Z,Z,Z,Z,aY,aY,p⟩);case round=>
    obtain⟨i,j,a0,a1,a2,hj,rfl,rfl,c⟩:=hrel;(go_upto_block 6 with fail);go_cut [10]from 99 to 114 (λs z=>∃I2:Nat,i<=I2/\I2<=b/\s=I I2/\Hid (?A z))
    case first=>
     go_wp2;go_loopw [10] (λs wr=>∃k:Nat,i<=k/\k<=b/\s=I k/\Hid (?A wr)) (λs _=>b+1-(intOf s).toNat);(case atStart=>exact⟨i,Z,Z,aY,c⟩);case round=>
      obtain⟨k,A,B,rfl,c⟩:=hrel;by_cases F:k<=j
      case' pos=>
       let e:(k:Int)<=(j:Int):=Z;let g:(k:Int)<(N:Int):=Z;let K:?B:=Z;let⟨x,l⟩:=c.at (show k<N by omega);have⟨y,n⟩:=c.at (show a<N by omega);cases q:aQ x y
       all_goals
        go_upto_region 13 with fail
        go_quiet (first|(go_at_call 252;exact GW (jN q)))
        have f:=H (c.dN nq)
        clear c l n q
        generalize wr.drewN nq=L at f⊢
       rotate_left
       ·go_wp2;go_roundw;(exact⟨k+1,Z,Z,aY,f⟩);exact QE
      case' neg=>have e:decide ((k:Int)<=(j:Int))=false:=GR Z;(go_upto_region 13 with fail);go_quiet (fail);have f:=H (c.dN nq);generalize wr.drewN nq=L at f⊢
      all_goals
       go_wp2
       go_meet
       exact⟨k,A,B,rfl,f⟩
    case rest=>
     obtain⟨I2,Q,R,rfl,c⟩:=hcut;(go_upto_block 8 with fail);go_cut [11]from 115 to 131 (λs z=>∃d:Nat,a<=d/\d<=j/\s=I d/\Hid (?A z))
     case first=>
      go_wp2;go_loopw [11] (λs wr=>∃k:Nat,a<=k/\k<=j/\s=I k/\Hid (?A wr)) (λs _=>(intOf s).toNat);(case atStart=>exact⟨j,Z,Z,aY,c⟩);case round=>
       obtain⟨k,A,B,rfl,c⟩:=hrel;by_cases F:I2<=k
       case' pos=>
        obtain⟨m,O⟩:∃m,k=m+1:=⟨k-1,Z⟩;have e:(I2:Int)<=(k:Int):=Z;have v:(k:Int)-1=(m:Int):=Z;have g:(k:Int)<(N:Int):=Z;have K:?B:=Z;have⟨x,l⟩:=c.at (show k<N by omega);have⟨y,n⟩:=c.at (show a<N by omega);clear O;cases q:aQ x y
        all_goals
         go_upto_region 15 with fail
         go_quiet (first|(go_at_call 252;exact GW (jN q)))
         have f:=H (c.dN nq)
         clear c l n q
         generalize wr.drewN nq=L at f⊢
        ·go_wp2;go_roundw;(exact⟨m,Z,Z,aY,f⟩);exact QE
       case' neg=>have e:decide ((I2:Int)<=(k:Int))=false:=GR Z;(go_upto_region 15 with fail);go_quiet (fail);have f:=H (c.dN nq);clear c;generalize wr.drewN nq=L at f⊢
       all_goals
        go_wp2
        go_meet
        exact⟨k,A,B,rfl,f⟩
     case rest=>
      obtain⟨d,S,T,rfl,c⟩:=hcut;by_cases W:I2 > d
      .let w:(d:Int)<(I2:Int):=Z;let g:(d:Int)<(N:Int):=Z;let o:?B:=Z;let⟨x,y,u,l,n,f1,t,f0,p⟩:=c.sw (show d<N by omega) (show a<N by omega);clear c;(go_upto_region 21 with fail);go_region;clear l n f1 t f0;go_wp2;apply GX (b_ rfl) rfl;exact⟨d,_,rfl,Z,p⟩
      .let w:¬((d:Int)<(I2:Int)):=Z;let⟨m,O⟩:=Qa (d-1);let v:(d:Int)-1=(m:Int):=Z;let g:(I2:Int)<(N:Int):=Z;let o:(d:Int)<(N:Int):=Z;let⟨x,y,u,l,n,f1,t,f0,p⟩:=c.sw (show I2<N by omega) (show d<N by omega);clear c;(go_upto_region 18 with fail);go_region;clear l n f1 t f0;go_wp2;go_roundw;(exact⟨I2+1,m,Z,Z,Z,Z,aY,aY,p⟩);exact QE
def Og (G) (N:Nat) (cp V0)(z:N<=100000):∀(n P F k:Nat)(V:QM),F-P<n->AnyU G N cp V0 V->P<=F->F<=N->k<=100 ->
    QA 179 #[.slice (some (Qz G 0)) N cp,I P,I F,I k] V λr V'=>r=QJ (.tuple #[])/\AnyU G N cp V0 V':=by
  intro n;induction n with
  |zero=>intro _ _ _ _ h;exact absurd h (Nat.not_lt_zero _)
  | succ n a =>
    intro P F k V hn A a4 hb S;have⟨IH,o⟩:=y7 a A;go_enter func179,ntmps179;go_wp2_with fail;refine(let_mvar%?A:=AnyU G N cp V0;?_);go_loopw [1,2,3,8,9] (λs1 s2 s3 c d wr=>∃(a b i:Nat)(T wp:Bool),s1=I a/\s2=I b/\s3=I i/\c=.bool T/\d=.bool wp/\a<=b/\b<=F/\P<=a/\i<=100/\Hid (?A wr)) (λs1 s2 _ _ _ _=>(intOf s2-intOf s1).toNat);(case atStart=>exact⟨P,F,k,true,true,rfl,rfl,rfl,rfl,rfl,a4,gi,gi,S,o⟩);obtain⟨a,b,i,T,wp,rfl,rfl,rfl,rfl,rfl,a8,b8,b9,a5,o⟩:=hrel;have⟨L,hL⟩:=Qa (b-a);by_cases c1:L<=12
    · have W:(L:Int)<=12:=by omega
      go_wp2_with fail
      refine(Bj G N cp a b V0 o Z z Z).mono ?_
      rintro e X⟨rfl,f⟩
      have s:=H f
      clear f o
      go_wp2
      first|go_end0|((try simp only[Exit.inBlock,Exit.then]);refine GX (Ir rfl _ _ _) rfl ?_)
      exact⟨rfl,s⟩
    · have W:¬((L:Int)<=12):=by omega
      by_cases a6:i=0
      · subst a6
        go_wp2_with fail
        refine(zX G N cp a b V0 o Z Z z).mono ?_
        rintro e X⟨rfl,f⟩
        have s:=H f
        clear f o
        go_wp2
        first|go_end0|((try simp only[Exit.inBlock,Exit.then]);refine GX (Ir rfl _ _ _) rfl ?_)
        exact⟨rfl,s⟩
      · have a9:¬((i:Int)=0):=by omega
        go_upto_if 35 with fail
        go_cut [3]from 19 to 133 (λs3 t=>∃c:Nat,s3=I c/\c<=100/\Hid (?A t))
        case first=>
          cases T
          · obtain⟨c,d⟩:∃c,i-1=c:=⟨_,rfl⟩
            have g:(i:Int)-1=(c:Int):=Z
            go_wp2_with fail
            refine(yo G N cp a b V0 o Z Z z).mono ?_
            rintro e X⟨rfl,f⟩
            have s:=H f
            clear f o
            go_wp2_with fail
            go_meet
            exact⟨c,rfl,Z,s⟩
          · go_wp2_with fail
            go_meet
            exact⟨i,rfl,a5,o⟩
        case rest =>
          obtain⟨c,rfl,d,g⟩:=hcut;(go_upto_region 10 with fail);go_wp2_with fail;refine(yj G N cp a b V0 g Z Z z).mono ?_;rintro e X⟨pv,K,rfl,M,Y,f⟩;have u:=H f;(go_upto_if 50 with fail);go_cut [11,12]from 19 to 133 (λg O t=>∃j l:Nat,g=I j/\O=I l/\a<=j/\j<b/\l<=2/\Hid (?A t))
          case first=>
            by_cases q:K=2
            · subst q
              have⟨g,v⟩:=Qa (b-1)
              have⟨m,w⟩:=Qa (pv-a)
              have⟨p,x⟩:=Qa (g-m)
              have y:(b:Int)-1=(g:Int):=Z
              have A:(pv:Int)-(a:Int)=(m:Int):=Z
              have B:(g:Int)-(m:Int)=(p:Int):=Z
              go_wp2_with fail
              refine(Bg G N cp a b V0 u Z Z z).mono ?_
              rintro e X⟨rfl,f⟩
              have s:=H f
              clear f u
              go_wp2_with fail
              go_meet
              exact⟨p,1,rfl,aY,Z,Z,Z,s⟩
            · have g:¬((K:Int)=2):=by omega
              go_wp2_with fail
              go_meet
              exact⟨pv,K,rfl,rfl,M.1,M.2,Y,u⟩
          case rest =>
            obtain⟨j,l,rfl,rfl,A,B,b2,a2⟩:=hcut;(go_upto_region 15 with fail);go_cut [12,68]from 19 to 133 (λO g t=>∃bb:Bool,O=I l/\g=.bool bb/\Hid (?A t))
            case first=>
              by_cases g:l=1
              case' pos=>subst g
              case' neg=>have m:¬((l:Int)=1):=Z
              all_goals
                cases T<;>cases wp<;>
                  (go_wp2_with fail
                   go_meet
                   exact⟨_,rfl,rfl,a2⟩)
            case rest =>
              obtain⟨bb,rfl,rfl,v⟩:=hcut;(go_upto_if 68 with fail);go_cut []from 19 to 133 (λt=>Hid (?A t))
              case first=>
                cases bb
                · go_wp2_with fail
                  go_meet
                  exact v
                · go_wp2_with fail
                  refine(zH G N cp a b V0 v Z Z z).mono ?_
                  rintro e X⟨g,rfl,f⟩
                  have s:=H f
                  clear f v
                  cases g
                  · go_wp2_with fail
                    go_meet
                    exact s
                  · go_wp2
                    first|go_end0|((try simp only[Exit.inBlock,Exit.then]);refine GX (Ir rfl _ _ _) rfl ?_)
                    exact⟨rfl,s⟩
              case rest=>
                have p:=hcut;have⟨y,xp⟩:=p.at (show j<N by omega);have c2:(j:Int)<(N:Int):=Z;(go_upto_region 17 with fail);go_cut [87]from 19 to 133 (λg t=>∃q,g=.bool q/\Hid (?A t))
                case first=>
                  by_cases a3:a > 0
                  · obtain⟨g,w⟩:∃g,a-1=g:=⟨_,rfl⟩
                    have m:(0:Int)<(a:Int):=Z
                    have Q:(a:Int)-1=(g:Int):=Z
                    have R:(g:Int)<(N:Int):=Z
                    have⟨x,xa⟩:=p.at (show g<N by omega)
                    clear w
                    cases w:aQ x y
                    all_goals
                      go_quiet (first|(go_at_call 252;exact GW (jN w)))
                      have f:=H (p.dN nq)
                      go_wp2_with fail
                      go_meet
                      exact⟨_,rfl,f⟩
                  · have m:decide ((0:Int)<(a:Int))=false:=GR Z
                    go_quiet (fail)
                    have f:=H (p.dN nq)
                    go_wp2_with fail
                    go_meet
                    exact⟨_,rfl,f⟩
                case rest=>
                  obtain⟨q,rfl,w⟩:=hcut;cases q
                  · go_upto_region 20 with fail
                    go_wp2_with fail
                    refine(zd G N cp a b j V0 w A B Z z).mono ?_
                    rintro e w7⟨g,ap,rfl,a3,A7⟩
                    have m:=H A7
                    have⟨Q,c3⟩:=Qa (g-a)
                    have⟨R,c4⟩:=Qa (b-g)
                    have⟨l8,c5⟩:=Qa (L/8)
                    have b3:(g:Int)-(a:Int)=(Q:Int):=Z
                    have b4:(b:Int)-(g:Int)=(R:Int):=Z
                    have b5:(L:Int).tdiv 8=(l8:Int):=by rw[Ig Z];omega
                    have⟨m1,c6⟩:=Qa (g+1)
                    have b7:(g:Int)+1=(m1:Int):=Z
                    clear A7 w
                    by_cases h4:Q<R
                    · have a7:(Q:Int)<(R:Int):=by omega
                      go_wp2_with fail
                      refine(IH a g c w7 Z m Z Z d).mono ?_
                      rintro e w8⟨rfl,A8⟩
                      have x:=H A8
                      clear A8 m
                      go_wp2
                      go_roundw
                      exact⟨m1,b,c,_,ap,aY,rfl,rfl,rfl,rfl,Z,Z,Z,d,x⟩
                      exact QE
                    · have a7:¬((Q:Int)<(R:Int)):=by omega
                      go_wp2_with fail
                      refine(IH m1 b c w7 Z m Z Z d).mono ?_
                      rintro e w8⟨rfl,A8⟩
                      have x:=H A8
                      clear A8 m
                      go_wp2
                      go_roundw
                      exact⟨a,g,c,_,ap,rfl,rfl,rfl,rfl,rfl,Z,Z,Z,d,x⟩
                      exact QE
                  · go_wp2_with fail
                    refine(Ca G N cp a b j V0 w A B Z z).mono ?_
                    rintro e w7⟨g,rfl,a3,A7⟩
                    have m:=H A7
                    clear A7 w
                    go_wp2
                    go_roundw
                    exact⟨g,b,c,T,wp,rfl,rfl,rfl,rfl,rfl,Z,Z,Z,d,m⟩
                    exact QE
def wd(n:Nat)(b:n<18446744073709551616)(w:QM):QA 175 #[U n] w λe a=>e=QJ (I (Sort.bitsLen n:Nat))/\a=w:=by let h:=Any.bits_Len (SlLaysF0.n15.bits (P:=prog) (ρ:=Tryz.sortR_ren) {Tryz.sortR with}) (n:Int) w Z Z;rw[F0,bitLen_eq _ Z]at h;exact h
def wY{W:QM}{B:Nat}{e:QO}{sz:Nat}{G n cap}{b:List QN}(h:W.ownsRow B e sz (Vl G n cap) n b):W.ownsRow G e sz (Vl G n cap) n b:=by
 refine⟨h.1,?_⟩;rcases h.2 with⟨e,_⟩|⟨g,c,a,e,f,d⟩;.cases e
 cases e;exact .inr ⟨G,cap,a,rfl,gi,d⟩
def z_(W:QM):Calls prog 246 #[C,I 0,I 0] W λe b=>e=QJ (.tuple #[])/\b=W:=by
 go_wp2;go_loopw [6] (λa wr=>a=I 1/\wr=W) (λa _=>0);exact⟨rfl,rfl⟩
 case round=>obtain⟨rfl,rfl⟩:=hrel;go_wp2;go_end0;exact QB
def Aa(W:QM)(a:Nat):Calls prog 179 #[C,I 0,I 0,I a] W λe b=>e=QJ (.tuple #[])/\b=W:=by
 go_in;go_wp2_with fail;go_loopw [1,2,3,8,9] (λa b c c c wr=>a=I 0/\b=I 0/\wr=W) (λ_ _ _ _ _ _=>0);exact⟨rfl,rfl,rfl⟩
 obtain⟨rfl,rfl,rfl⟩:=hrel;go_wp2_with fail;apply (z_ wr).mono;rintro e c⟨rfl,rfl⟩;go_wp2
 first|go_end0|((try simp only[Exit.inBlock,Exit.then]);apply GX (Ir rfl _ _ _) rfl)
 exact QB
def Ad(W:QM)(B:Nat)(v:QN)(l:List Nat)(a:W.ownsRow B 24 1 v l.length (Us l))(n:l.length<=1000):
  QA 127 #[v] W λe i=>e=QJ (.tuple #[])/\∃b,i.ownsRow B 24 1 v l.length (Us b)/\Below B W i:=by
 rcases a.2 with⟨rfl,o⟩|⟨G,c,p,hv,j,m⟩
 ·have d:l=[]:=List.length_eq_zero_iff.1 o;subst d;have⟨f,b⟩:=y7 (wd 0 Z) (Aa · (Sort.bitsLen 0));go_enter func127,ntmps127;go_wp2_with fail;refine(f _).mono ?_;rintro e g⟨rfl,rfl⟩;go_wp2_with fail;refine(b _).mono ?_;rintro e g⟨rfl,rfl⟩;go_wp2;go_end0;exact⟨rfl,[],a,th⟩
 subst hv;let⟨N,k⟩:=Qa l.length;rw[k]at a n⊢;have d:Sort.bitsLen N<=100:=by have:=(Sort.bitsLen_le_iff N 20).2 Z;omega
 have⟨f,b⟩:=y7 (wd N Z) (Og G N c W Z (N+1) 0 N (Sort.bitsLen N) W Z ⟨l.toArray,by simpa using k,wY a,th⟩ Z gi d);go_enter func127,ntmps127;go_wp2_with fail;refine(f _).mono ?_;rintro e g⟨rfl,rfl⟩;generalize Sort.bitsLen N=r at*;go_wp2_with fail;apply (b).mono;rintro e g⟨rfl,q,a⟩;let m:=H a;go_wp2;go_end0;exact⟨rfl,q.toList,aN m.row j,m.bel.mono j⟩
def Ra:tH:=by
 intro X p t q l W a i f g;let⟨u,w,r⟩:=aK f;cases r;let j:Hid (QA 178 #[C,.func (.func 128) #[] #[J X 0]] W λe b=>∃v,e=QJ v/\b.ownsRow W.heap.size 24 1 v l.length (Us l)/\D W b):=H ((callsIn_wide (n:=5)).1 (kH X p q a l W i f g));let k:QA 126 #[.func (.func 128) #[] #[J X 0]] W λe b=>∃v,e=QJ v/\b.ownsRow W.heap.size 24 1 v l.length (Us l)/\D W b:=by go_enter func126,ntmps126;go_wp2_with fail;apply (j).mono;rintro e m⟨v,rfl,hv,c⟩;let d:=H (IT hv c);go_wp2;go_ret;exact⟨v,rfl,d.1,d.2⟩
 let⟨o,s⟩:=y7 k g;go_enter func69,ntmps69;go_wp2_with fail;apply (o).mono;rintro e m⟨v,rfl,hv,c⟩;let⟨f,d⟩:=y7 (Ad m W.heap.size v l hv s) c;go_wp2_with fail;apply (f).mono;rintro e o⟨rfl,k,g,i⟩;let j:=H (IT g (d.trans i));go_wp2;go_ret;exact⟨v,k,rfl,j.1,j.2⟩
def zY(B x cf h k W)(a:Sh B x cf h W)(f:Inv cf h)(b:Few k h)(hk:k<=302)(g:mE cf):
  Calls prog 73 #[J x.P 0] W λe V'=>∃c i m2 j l m5 m d:QN,e=QJ (.agg #[c,i,m2,j,l,m5,m,d])/\(∀v∈[c,i,m2,j,l,m5,m,d],v.oneCell'=true)/\D W V'/\c=I (bz h.m 283:Nat)/\d=I h.used:=by
 have⟨s,HI,HD⟩:=Qe (λV(hV:D W V)=>a.below hV) f g;have b6:h.rg.length<=302/\h.rel.length<=400/\h.row.length<=400:=by have h1:=b.rg;have h2:=b.rel;have h3:=b.row;omega
 have Q:D W (W.alloc (.cells #[I 0,C,C,C,C,C,C,I 0] 39)):=ph;have⟨XA,CO,OP,BA⟩:=Qf (ao W (.cells #[I 0,C,C,C,C,C,C,I 0] 39)) (λV(hV:D W V)=>gj x.T x.Q 283 (cf.bud:Nat) h.m V (a.below hV).sp Z) (λV(hV:D W V)=>rX x.T x.Q 283 (cf.bud:Nat) h.m V (a.below hV).sp Z) Q;clear a f b g Q;go_in;go_upto_region 1 with fail
 generalize W.alloc _=V0 at*;have⟨X,a⟩:=Qb W.heap.size;rw[<-a]at XA⊢;have HX:=H (show W.heap.size<=X by omega);clear a;have⟨a6,b2⟩:=y7 (show D W V0.drew from BA.drew) (ae XA (Fu _ V0).drew);refine(let_mvar%?C:=I h.used;?_);have c0:=IT ((s _ a6).cell 6 (J x.T 0) rfl) ((s _ a6).cell 12 (?C) rfl);refine(let_mvar%?A:=I (bz h.m 283);?_);go_cut [3] (λa b=>∃(Y:Nat)(L:QP)(M O:Nat),a=J Y 0/\Hid (Me W X Y #[?A,.slice L M O,C,C,C,C,C,?C] b));case first=>
  refine rh (S:=λW9=>QG W9 x.P 6 (J x.T 0)/\QG W9 x.P 12 (?C)) ?_;generalize a7:V0.drew=V2 at c0 a6 b2;have a0:({heap:=V0.heap,tape:=V0.tape,drawn:=V0.drawn+1,os:=V0.os,output:=V0.output}:QM)=V2:=a7;rw[a0];clear a7 a0;have b:=a6;have c:=b2;have f:=c0;iterate 4 (refine py f ?_;simp[f0,f1,Nat.reduceAdd,lz,l0,ls])
  (iterate 4 refine PX 5 f ?_);(iterate 4 refine PX 10 f ?_);refine lZ [4,15] λi9 n=>?_;rcases(by simpa using n:i9=4\/i9=15)with n|n
  case' inl=>
   subst n;refine cw λK' m=>?_;go_simp;refine(CO _ b).mono ?_;rintro e z⟨rfl,o⟩;have a:=IT (NI o f.1) (NI o f.2);refine m _ _ ⟨a,?_⟩;clear f;have f:=a;have c:=H (ae c o)
   (try have d:=H (ae d o));have b:=H (b.trans (o.mono b.size));clear a o;clear m K';refine lZ [9,15] λi9 n=>?_;rcases(by simpa using n:i9=9\/i9=15)with n|n
   case' inl.inl=>
    subst n;refine cw λK' m=>?_;go_simp;refine(OP _ b).mono ?_;rintro e t⟨w,rfl,l,o⟩;obtain⟨L,M,O,rfl⟩:=aA l;have a:=IT (NI o f.1) (NI o f.2);refine m _ _ ⟨a,?_⟩;clear f;have f:=a;have c:=H (ae c o)
    (try have d:=H (ae d o));have b:=H (b.trans (o.mono b.size));clear a l o;clear m K';refine PX 14 f ?_;refine po 15 λK' m=>?_;go_simp;have⟨Y,p,o,g,i⟩:=C0 b (.cells #[I 0,C,C,C,C,C,C,I 0] 39);rw[p];have j:=H (show X≠Y by have:=ag c;omega);have q:=H i;have a:=IT (NI o f.1) (NI o f.2);refine m _ _ ⟨a,?_⟩;clear f;have f:=a;have c:=H (ae c o)
    (try have d:=H (ae d o));have⟨d,b⟩:=y7 g (b.trans (o.mono b.size));clear a o g i p;clear m K'
   case' inl.inr=>
    subst n;refine cw λK' m=>?_;go_simp;have⟨Y,p,o,g,i⟩:=C0 b (.cells #[I 0,C,C,C,C,C,C,I 0] 39);rw[p];have j:=H (show X≠Y by have:=ag c;omega);have q:=H i;have a:=IT (NI o f.1) (NI o f.2);refine m _ _ ⟨a,?_⟩;have f:=a;have c:=H (ae c o)
    (try have d:=H (ae d o));have⟨d,b⟩:=y7 g (b.trans (o.mono b.size));refine po 9 λK' m=>?_;go_simp;refine(OP _ b).mono ?_;rintro e t⟨w,rfl,l,o⟩;obtain⟨L,M,O,rfl⟩:=aA l;have a:=IT (NI o f.1) (NI o f.2);refine m _ _ ⟨a,?_⟩;have f:=a;have c:=H (ae c o)
    (try have d:=H (ae d o));have b:=H (b.trans (o.mono b.size));refine PX 14 f ?_
  case' inr=>
   subst n;refine cw λK' m=>?_;go_simp;have⟨Y,p,o,g,i⟩:=C0 b (.cells #[I 0,C,C,C,C,C,C,I 0] 39);rw[p];have j:=H (show X≠Y by have:=ag c;omega);have q:=H i;have a:=IT (NI o f.1) (NI o f.2);refine m _ _ ⟨a,?_⟩;have f:=a;have c:=H (ae c o)
   (try have d:=H (ae d o));have⟨d,b⟩:=y7 g (b.trans (o.mono b.size));refine po 4 λK' m=>?_;go_simp;refine(CO _ b).mono ?_;rintro e z⟨rfl,o⟩;have a:=IT (NI o f.1) (NI o f.2);refine m _ _ ⟨a,?_⟩;have f:=a;have c:=H (ae c o)
   (try have d:=H (ae d o));have b:=H (b.trans (o.mono b.size));refine po 9 λK' m=>?_;go_simp;refine(OP _ b).mono ?_;rintro e t⟨w,rfl,l,o⟩;obtain⟨L,M,O,rfl⟩:=aA l;have a:=IT (NI o f.1) (NI o f.2);refine m _ _ ⟨a,?_⟩;have f:=a;have c:=H (ae c o)
   (try have d:=H (ae d o));have b:=H (b.trans (o.mono b.size));refine PX 14 f ?_
  all_goals
   refine po 16 λK' m=>?_
   refine Ih 39 (.tmp 3) (.tmp 29) E Y #[?A,.slice L M O,C,C,C,C,C,?C] E E 39 _ d E rfl mL ?_
   have⟨R,F,y⟩:=yO d #[?A,.slice L M O,C,C,C,C,C,?C]
   have M0:=H (Me.mk (W:=W) (X:=X) (Y:=Y) (A:=#[?A,.slice L M O,C,C,C,C,C,?C]) (b.grown R b.size (λr hr=>by simp at hr;have:=q.out;omega)) (by rw[R.block X (ag c) (by simpa using j.out)];exact c) y HX q j)
   have a:=IT ((s _ M0.bel).cell 6 (J x.T 0) rfl) ((s _ M0.bel).cell 12 (?C) rfl)
   refine m _ _ ⟨a,?_⟩
   clear f a R F y m K'
   refine bY ?_
   go_wp2_with fail
   go_meet
   exact⟨Y,_,_,_,rfl,M0⟩
 obtain⟨Y,L,M,O,rfl,M0⟩:=hcut;have c7:=(s _ M0.bel).cell 7 (Vl x.G 1062 x.gc) rfl;go_wp2_with fail;go_loopw [35] (λi wr=>∃(K:Nat)(vs:QN),K<=1062/\i=I K/\Hid (Me W X Y #[?A,.slice L M O,vs,C,C,C,C,?C] wr)/\∃l,Hid (List.length l<=K)/\Hid (wr.ownsRow W.heap.size 223 5 vs l.length (fP h l))) (λi _=>1062-(intOf i).toNat);exact⟨0,_,Z,rfl,M0,[],H gi,H ⟨rfl,.inl ⟨rfl,rfl⟩⟩⟩
 case round=>
  obtain⟨K,vs,m,rfl,w,l,b7,g⟩:=hrel;by_cases y:K<1062
  ·obtain⟨va,vn,vc,rfl⟩:=aA g;have⟨d0,d1,d2,d3,d4,d5⟩:=(s wr w.bel).slot y;have a9:=b7.out;refine(let_mvar%?B:=h.st (sA K).1 (sA K).2.1 (sA K).2.2;?_);have a:dC h K=?B:=rfl;have c:fJ h K=h.rq (sA K).1 (sA K).2.1 (sA K).2.2:=rfl;rw[a]at d4;rw[c]at d5;have Q:D wr (wr.alloc (.cells #[I ((sA K).1:Nat),I ((sA K).2.1:Nat),I ((sA K).2.2:Nat),U (gt K:Nat),I (?B),I (h.rq (sA K).1 (sA K).2.1 (sA K).2.2)] 242)):=ph;have T:=ao wr (.cells #[I ((sA K).1:Nat),I ((sA K).2.1:Nat),I ((sA K).2.2:Nat),U (gt K:Nat),I (?B),I (h.rq (sA K).1 (sA K).2.1 (sA K).2.2)] 242);have⟨F,b,z⟩:=Qe (w.below Q) (ax g Q) (EP T);(go_upto_region 5 with fail);generalize wr.alloc _=V at F b z⊢;have⟨a,hZ⟩:=Qa wr.heap.size;rw[hZ]at z⊢;by_cases h0:?B=0
   ·rw[h0]at z;have⟨z0,z1,z2,z3,z4,z5⟩:=z.out;go_wp2;go_roundw;(exact⟨K+1,_,Z,aY,F,l,H Z,b⟩);exact QE
   have j:(?B !=0)=true:=(by simpa using h0);have⟨z0,z1,z2,z3,z4,z5⟩:=z.out;have bB:D V (V.alloc (.cells (yx h (sA K)).toArray 223)):=ph;have MB:=H (F.below bB);have⟨v',d,t,o9,R⟩:=xE W.heap.size (.slice va vn vc) h l (sA K) V.heap.size 1 (ax b bB) (ao V _) Z MB.bel.size;obtain⟨xa,xn,xc,rfl⟩:=aA o9;have kU:Ky (· =223) _ d:=Ky.grownO (λP hP=>by obtain⟨_,c,hc⟩:=aF (ax b bB) hP;exact⟨c,223,_,hc,rfl⟩) R;have MU:=H (MB.ky kU ar (th.grown R MB.bel.size (λr hr=>(aF (ax b bB) hr).1)));have G:=(Q7 F.yb).2.2.1;have p:=(Q7 MU.yb).2.2.1;have f29:=(Q7 MU.yb).2.2.2.2.2.2.2.2 2;have⟨m2,k2⟩:=MU.set 2 (.slice xa xn xc);have⟨M2,q⟩:=y7 (show Me W X Y #[?A,.slice L M O,.slice xa xn xc,C,C,C,C,?C] (d.setCell (Qz Y 2) (.slice xa xn xc))from m2) (ai o9 k2);unfold yx at t;go_wp2_with (at_builtin;refine up t ?_);go_wp2;go_roundw;(exact⟨K+1,_,Z,aY,M2,l++[sA K],H (by rw[FC];exact Nat.succ_le_succ a9),q⟩);exact QE
  obtain rfl:K=1062:=Z;simp[Int.cast_ofNat_Int];obtain⟨va,vn,vc,rfl⟩:=aA g;obtain⟨wb,b3,b⟩:∃wb b3,x.wv=Vl wb 12 b3:=by
   rcases(s wr w.bel).wt.2 with⟨_,h0⟩|⟨g,j,p,e,_⟩;·omega
   exact⟨g,j,e⟩
  have c8:=(s wr w.bel).cell 8 (Vl wb 12 b3) (by rw[<-b];rfl);have b8:=H b;go_wp2_with fail;go_loopw [64] (λi wr=>∃(c:Nat)(vw:QN)(ws:List (QN×QN)),c<=12/\i=I c/\Hid (ws.length=c)/\Hid (Me W X Y #[?A,.slice L M O,.slice va vn vc,vw,C,C,C,?C] wr)/\Hid (Wt8 cf h W ws vw wr)) (λi _=>12-(intOf i).toNat);(case atStart=>exact⟨0,_,[],Z,rfl,H rfl,w,H ⟨⟨rfl,.inl ⟨rfl,rfl⟩⟩,λc p hp=>by simp at hp⟩⟩);case round=>
   obtain⟨c,vw,ws,hc,rfl,HL,w,HW⟩:=hrel;by_cases y:c<12
   ·obtain⟨wa,wn,p,rfl⟩:=aA HW.row;have⟨d0,d1,d2⟩:=(s wr w.bel).wtCells b8 y;have⟨G,N,b,_,_⟩:=((s wr w.bel).wm c y).1;have⟨j,q,a3,_,_⟩:=((s wr w.bel).wm c y).2;rw[b]at d0;rw[a3]at d1;have Q:D wr (wr.alloc (.cells #[.slice G (h.mx c).length N,.slice j (h.ff c).length q,I cf.fifo] 123)):=ph;have⟨T,F,W1⟩:=Qe (ao wr (.cells #[.slice G (h.mx c).length N,.slice j (h.ff c).length q,I cf.fifo] 123)) (w.below Q) (HW.ky (Ky.below Q:Ky (λ_=>False) _ _) (λe=>e) (λe=>e));have a8:Hid (∀g,(Value.slice wa wn p).ownBlock=some g->g<wr.heap.size):=(λg g=>by obtain⟨_,c9,b0⟩:=aF HW.row g;exact ag b0);have b0:=H (IT b a3);have b5:(h.mx c).length<=100/\(h.ff c).length<=100:=by have h1:=HI.mxl c y;have h2:=HI.ffl c y;have h3:=HD.mix;have h4:=HD.fifo;omega
    (go_upto_region 11 with fail);generalize wr.alloc _=V at F W1 T⊢;have⟨a,hZ⟩:=Qa wr.heap.size;rw[hZ]at T a8⊢;have b:D V V.drew:=ld;have⟨MD,WD,ZD⟩:=Qe (F.below b) (W1.ky (Ky.below b:Ky (λ_=>False) _ _) (λe=>e) (λe=>e)) (ae T b);refine rh (S:=λW9=>QG W9 a 0 (.slice G (h.mx c).length N)/\QG W9 a 1 (.slice j (h.ff c).length q)/\QG W9 a 2 (I cf.fifo)) ?_;generalize a7:V.drew=V2 at MD WD ZD;have a0:({heap:=V.heap,tape:=V.tape,drawn:=V.drawn+1,os:=V.os,output:=V.output}:QM)=V2:=a7;rw[a0];have⟨a4,n4,c4,w1,a5,n5,c5,w2,xa,xn,xc,d,e1,e2,t,l1,a3,b,R,kU,w9,o⟩:=WD.add MD.bel s y HL b5 b0.1 b0.2;have cA:=(Q7 MD.yb).2.2.2.1;have c1:=NI l1 cA;have c3:=NI a3 cA;have d6:=NI b cA;have MA:=MD.below b;have MU:=MA.ky kU ar (th.grown R MA.bel.size (λr hr=>(aF (ax WD.row b) hr).1));have⟨Z0,T,Z2,Z3⟩:=Qf (vO ZD) (vO (ae ZD l1)) (vO (ae ZD a3)) (vO (ae ZD b));have zU:d.heap[a]?=some (.cells #[.slice G (h.mx c).length N,.slice j (h.ff c).length q,I cf.fifo] 123):=(by rw[R.block a (ag (ae ZD b)) (λe=>by have:=a8.out a e.symm;omega)];exact ae ZD b);have Z4:=H (vO zU);have d7:=(Q7 MU.yb).2.2.2.1;have d8:=(Q7 MU.yb).2.2.2.2.2.2.2.2 3;have⟨m2,k2⟩:=MU.set 3 (.slice xa xn xc);have⟨M2,W2,Z5⟩:=Qe (show Me W X Y #[?A,.slice L M O,.slice va vn vc,.slice xa xn xc,C,C,C,?C] (d.setCell (Qz Y 3) (.slice xa xn xc))from m2) (w9.ky k2 ar ar) (vO (show(d.setCell (Qz Y 3) (.slice xa xn xc)).heap[a]?=some (.cells #[.slice G (h.mx c).length N,.slice j (h.ff c).length q,I cf.fifo] 123)from k2.XC zU));have f:=Z0.out;refine py f ?_;simp[f0,f1,Nat.reduceAdd,lz,l0,ls];(iterate 2 refine PX 2 f ?_);(iterate 2 refine PX 5 f ?_);(iterate 2 refine PX 8 f ?_);refine lZ [1,4] λi9 n=>?_;rcases(by simpa using n:i9=1\/i9=4)with n|n
    ·subst n;refine cw λK' m=>?_;go_simp;refine m _ _ ⟨f,?_⟩;refine po 4 λK' m=>?_
     refine aV 25 (.const (C)) (.tmp 71) (v:=C) (v2:=.slice G (h.mx c).length N) E E E E e1 ?_;refine m _ _ ⟨T,?_⟩;have f:=T.out;refine po 7 λK' m=>?_;refine aV 25 (.const (C)) (.tmp 74) (v:=C) (v2:=.slice j (h.ff c).length q) E E E E e2 ?_;refine m _ _ ⟨Z2,?_⟩;have f:=Z2.out;refine PX 10 f ?_;refine po 11 λK' m=>?_
     go_simp;refine m _ _ ⟨Z3,?_⟩;have f:=Z3.out;refine po 12 λK' m=>?_;refine aV 35 (.tmp 69) (.tmp 79) (v:=.slice wa wn p) (v2:=Vl w2.heap.size 1 1) E E E E t ?_;refine m _ _ ⟨Z4,?_⟩;have f:=Z4.out;refine PX 13 f ?_;refine po 14 λK' m=>?_
     go_simp;refine m _ _ ⟨Z5,?_⟩;refine bY ?_;go_wp2;go_roundw;(exact⟨c+1,_,ws++[(.slice a4 n4 c4,.slice a5 n5 c5)],Z,aY,H (by rw[FC,HL];rfl),M2,W2⟩);exact QE
    subst n;refine cw λK' m=>?_;refine aV 25 (.const (C)) (.tmp 71) (v:=C) (v2:=.slice G (h.mx c).length N) E E E E e1 ?_;refine m _ _ ⟨T,?_⟩;have f:=T.out;refine lZ [1,7] λi9 n=>?_
    rcases(by simpa using n:i9=1\/i9=7)with n|n
    ·subst n;refine cw λK' m=>?_;go_simp;refine m _ _ ⟨f,?_⟩;refine po 7 λK' m=>?_
     refine aV 25 (.const (C)) (.tmp 74) (v:=C) (v2:=.slice j (h.ff c).length q) E E E E e2 ?_;refine m _ _ ⟨Z2,?_⟩;have f:=Z2.out;refine PX 10 f ?_;refine po 11 λK' m=>?_;go_simp;refine m _ _ ⟨Z3,?_⟩;have f:=Z3.out;refine po 12 λK' m=>?_
     refine aV 35 (.tmp 69) (.tmp 79) (v:=.slice wa wn p) (v2:=Vl w2.heap.size 1 1) E E E E t ?_;refine m _ _ ⟨Z4,?_⟩;have f:=Z4.out;refine PX 13 f ?_;refine po 14 λK' m=>?_;go_simp;refine m _ _ ⟨Z5,?_⟩;refine bY ?_;go_wp2;go_roundw
     (exact⟨c+1,_,ws++[(.slice a4 n4 c4,.slice a5 n5 c5)],Z,aY,H (by rw[FC,HL];rfl),M2,W2⟩);exact QE
    subst n;refine cw λK' m=>?_;refine aV 25 (.const (C)) (.tmp 74) (v:=C) (v2:=.slice j (h.ff c).length q) E E E E e2 ?_;refine m _ _ ⟨Z2,?_⟩;have f:=Z2.out;refine PX 10 f ?_;refine lZ [1,11] λi9 n=>?_
    rcases(by simpa using n:i9=1\/i9=11)with n|n
    ·subst n;refine cw λK' m=>?_;go_simp;refine m _ _ ⟨f,?_⟩;refine po 11 λK' m=>?_
     go_simp;refine m _ _ ⟨Z3,?_⟩;have f:=Z3.out;refine po 12 λK' m=>?_;refine aV 35 (.tmp 69) (.tmp 79) (v:=.slice wa wn p) (v2:=Vl w2.heap.size 1 1) E E E E t ?_;refine m _ _ ⟨Z4,?_⟩;have f:=Z4.out;refine PX 13 f ?_;refine po 14 λK' m=>?_
     go_simp;refine m _ _ ⟨Z5,?_⟩;clear m K';refine bY ?_;go_wp2;go_roundw;(exact⟨c+1,_,ws++[(.slice a4 n4 c4,.slice a5 n5 c5)],Z,aY,H (by rw[FC,HL];rfl),M2,W2⟩);exact QE
    subst n;refine cw λK' m=>?_;go_simp;refine m _ _ ⟨Z3,?_⟩;clear f;have f:=Z3.out;clear m K';refine po 1 λK' m=>?_
    go_simp;refine m _ _ ⟨f,?_⟩;clear m K';refine po 12 λK' m=>?_;refine aV 35 (.tmp 69) (.tmp 79) (v:=.slice wa wn p) (v2:=Vl w2.heap.size 1 1) E E E E t ?_;refine m _ _ ⟨Z4,?_⟩;clear f;have f:=Z4.out;clear m K';refine PX 13 f ?_;refine po 14 λK' m=>?_
    go_simp;refine m _ _ ⟨Z5,?_⟩;clear f;clear m K';refine bY ?_;go_wp2;go_roundw;(exact⟨c+1,_,ws++[(.slice a4 n4 c4,.slice a5 n5 c5)],Z,aY,H (by rw[FC,HL];rfl),M2,W2⟩);exact QE
   obtain rfl:c=12:=Z;simp[Int.cast_ofNat_Int];obtain⟨wa,wn,p,rfl⟩:=aA HW.row;have⟨ra,rc,b⟩:=aK (s wr w.bel).rg;have a8:=H b;have c9:wr.cell? (Qz x.P 9)=some (.slice ra h.rg.length rc):=(by rw[<-b];exact(s wr w.bel).cell 9 x.rv rfl);have⟨N,j⟩:=Qa h.rg.length;rw[j]at c9 b6;have HN:=H j;clear HW b j y hc;go_wp2_with fail;go_loopw [8,88] (λb i wr=>∃(K:Nat)(ba:QP)(bn bc:Nat),K<=N/\b=.slice ba bn bc/\i=I K/\Hid (Me W X Y #[?A,.slice L M O,.slice va vn vc,.slice wa wn p,C,C,C,?C] wr)/\∃l,Hid (List.length l=K)/\Hid (wr.ownsRow W.heap.size 24 1 (.slice ba bn bc) l.length (Us l))) (λ_ i _=>N-(intOf i).toNat);(case atStart=>exact⟨0,_,_,_,Z,rfl,rfl,w,[],H rfl,H ⟨rfl,.inl ⟨rfl,rfl⟩⟩⟩);case round=>
    clear w c9;obtain⟨K,ba,bn,bc,m,rfl,rfl,w,l,b0,HO⟩:=hrel;by_cases y:K<N
    ·obtain⟨G,rfl⟩:=cr (by have:=(s wr w.bel).rg;rw[a8]at this;exact this) (by rw[HN];omega);obtain⟨r,hr⟩:∃r,h.rg[K]?=some r:=⟨_,Fy (by rw[HN];exact y)⟩;have⟨d0,d1,d2,d3,d4,d5⟩:=(s wr w.bel).range a8 hr;have Q:D wr (wr.alloc (.cells #[U r.base,I r.first,I r.ext,I r.pages,I r.st,I r.rq] 244)):=ph;have T:=ao wr (.cells #[U r.base,I r.first,I r.ext,I r.pages,I r.st,I r.rq] 244);have⟨F,O1,z⟩:=Qe (w.below Q) (ax HO Q) (EP T);clear w HO Q T hr;(go_upto_region 17 with fail);generalize wr.alloc _=V at F O1 z⊢;have⟨a,hZ⟩:=Qa wr.heap.size;rw[hZ]at z⊢;clear hZ d0 d1 d2 d3 d4 d5;have⟨z0,z1,z2,z3,z4,z5⟩:=z.out;have bB:D V (V.alloc (.cells #[U r.base] 24)):=ph;have MB:=F.below bB;have⟨v',d,t,o9,R⟩:=jQ _ W.heap.size (.slice ba bn bc) l [r.base] (Qz V.heap.size 0) 1 (ax O1 bB) (λj u hj=>by have b:j=0:=(by have:=(Fz.1 hj).1;simp[Us]at this;exact this);subst b;rw[Addr.add_mid,ac (ao V _)];exact hj) (by rw[b0];simp;omega) MB.bel.size
     obtain⟨xa,xn,xc,rfl⟩:=aA o9;have kU:Ky (· =24) _ d:=Ky.grownO (λP hP=>by obtain⟨_,c,hc⟩:=aF (ax O1 bB) hP;exact⟨c,24,_,hc,rfl⟩) R;have M2:=H (MB.ky kU ar (th.grown R MB.bel.size (λr hr=>(aF (ax O1 bB) hr).1)));have O2:=H o9;have b:QI 37 (.slice ba bn bc) (Vl V.heap.size 1 1) (V.alloc (.cells #[U r.base] 24)) (.slice xa xn xc) d:=t;clear t o9 R kU MB bB;go_wp2_with (at_builtin;refine up b ?_);go_wp2;go_roundw;(exact⟨K+1,_,_,_,Z,rfl,aY,M2,l++[r.base],H (by rw[FC,b0];rfl),O2⟩);exact QE
    obtain rfl:N=K:=Z;clear y m;go_wp2_with fail;refine(ue wr W.heap.size _ _ HO (by rw[b0];omega)).mono ?_;rintro e d⟨bs,v',rfl,hp,q,o9,b9⟩;have b:bs.length=N:=(by rw[hp.length_eq,b0]);obtain⟨sa,sc,rfl⟩:=aK o9;rw[b]at o9⊢;have⟨c1,F,O2⟩:=Qe b (w.below b9) (aN o9 w.bel.size);clear hp q o9 b HO w b9;go_wp2_with fail;go_loopw [101] (λi wr=>∃(q:Nat)(vr:QN),q<=N/\i=I q/\Hid (Me W X Y #[?A,.slice L M O,.slice va vn vc,.slice wa wn p,vr,C,C,?C] wr)/\Hid (wr.ownsRow W.heap.size 24 1 (.slice sa N sc) N (Us bs))/\∃l,Hid (List.length l<=q*302)/\Hid (wr.ownsRow W.heap.size 227 5 vr l.length (dH l))) (λi _=>N-(intOf i).toNat);(case atStart=>exact⟨0,_,Z,rfl,F,O2,[],H aa,H ⟨rfl,.inl ⟨rfl,rfl⟩⟩⟩);case round=>
     clear F O2;obtain⟨q,vr,hq,rfl,w,HO,l,a3,HT⟩:=hrel;by_cases y:q<N
     ·obtain⟨G2,rfl⟩:=cr HO Z;obtain⟨b,hb⟩:∃b,bs[q]?=some b:=⟨_,Fy (by rw[c1];exact y)⟩;have cq:=bC HO q _ (ny hb);have c9:wr.cell? (Qz x.P 9)=some (.slice ra h.rg.length rc):=(by rw[<-a8.out];exact(s wr w.bel).cell 9 x.rv rfl);rw[HN]at c9;clear hb;go_wp2_with fail;go_loopw [110] (λi wr=>∃(j:Nat)(vr:QN),j<=N/\i=I j/\Hid (Me W X Y #[?A,.slice L M O,.slice va vn vc,.slice wa wn p,vr,C,C,?C] wr)/\Hid (wr.ownsRow W.heap.size 24 1 (Vl G2 N sc) N (Us bs))/\∃l,Hid (List.length l<=q*302+j)/\Hid (wr.ownsRow W.heap.size 227 5 vr l.length (dH l))) (λi _=>N-(intOf i).toNat);(case atStart=>exact⟨0,_,Z,rfl,w,HO,l,a3,HT⟩);case round=>
       clear w HO HT cq c9 a3;obtain⟨j,vr,hj,rfl,w,HO,l,a3,HT⟩:=hrel;by_cases b5:j<N
       ·obtain⟨G,rfl⟩:=cr (by have:=(s wr w.bel).rg;rw[a8]at this;exact this) (by rw[HN];omega);obtain⟨r,hr⟩:∃r,h.rg[j]?=some r:=⟨_,Fy (by rw[HN];exact b5)⟩;have⟨d0,d1,d2,d3,d4,d5⟩:=(s wr w.bel).range a8 hr;obtain⟨ta,tn,tc,rfl⟩:=aA HT;have Q:D wr (wr.alloc (.cells #[U r.base,I r.first,I r.ext,I r.pages,I r.st,I r.rq] 244)):=ph;have T:=ao wr (.cells #[U r.base,I r.first,I r.ext,I r.pages,I r.st,I r.rq] 244);have⟨F,O1,T1,z⟩:=Qf (w.below Q) (ax HO Q) (ax HT Q) (EP T);have a9:l.length<=100000:=(by have:=a3.out;omega);clear w HO HT Q T hr;(go_upto_region 25 with fail);generalize wr.alloc _=V at F O1 T1 z⊢;have⟨a,hZ⟩:=Qa wr.heap.size;rw[hZ]at z⊢;clear hZ d0 d1 d2 d3 d4 d5;by_cases e:b=r.base
        ·subst e;have⟨z0,z1,z2,z3,z4,z5⟩:=z.out;have bB:D V (V.alloc (.cells (tC r).toArray 227)):=ph;have MB:=H (F.below bB);have⟨v',d,t,o9,R⟩:=yB W.heap.size (.slice ta tn tc) _ r V.heap.size 1 (ax T1 bB) (ao V _) a9 MB.bel.size;obtain⟨xa,xn,xc,rfl⟩:=aA o9;have kU:Ky (· =227) _ d:=Ky.grownO (λP hP=>by obtain⟨_,c,hc⟩:=aF (ax T1 bB) hP;exact⟨c,227,_,hc,rfl⟩) R;have MU:=H (MB.ky kU ar (th.grown R MB.bel.size (λr hr=>(aF (ax T1 bB) hr).1)));have c4:=(Q7 F.yb).2.2.2.2.1;have c3:=(Q7 MU.yb).2.2.2.2.1;have f49:=(Q7 MU.yb).2.2.2.2.2.2.2.2 4;have⟨m2,k2⟩:=MU.set 4 (.slice xa xn xc);have⟨M2,O2,T2⟩:=Qe (show Me W X Y #[?A,.slice L M O,.slice va vn vc,.slice wa wn p,.slice xa xn xc,C,C,?C] (d.setCell (Qz Y 4) (.slice xa xn xc))from m2) (ai (ai (ax O1 bB) kU ar) k2) (ai o9 k2);unfold tC at t;clear o9 R kU m2 k2 bB a9;go_wp2_with (at_builtin;refine up t ?_);go_wp2;go_roundw;(exact⟨j+1,_,Z,aY,M2,O2,l++[r],H (by rw[FC];exact Nat.succ_le_succ a3),T2⟩);exact QE
        have c3:¬((r.base:Int)=(b:Int)):=Z;have⟨z0,z1,z2,z3,z4,z5⟩:=z.out;clear e;go_wp2;go_roundw;(exact⟨j+1,_,Z,aY,F,O1,l,H (Nat.le_succ_of_le a3),T1⟩);exact QE
       obtain rfl:N=j:=Z;go_wp2;go_roundw;(exact⟨q+1,_,Z,aY,w,HO,l,H (by have:=a3.out;omega),HT⟩);exact QE
     obtain rfl:N=q:=Z;obtain⟨ta,tn,tc,rfl⟩:=aA HT;have⟨qa,qc,b⟩:=aK (s wr w.bel).ro;have d6:wr.cell? (Qz x.P 10)=some (.slice qa h.row.length qc):=(by rw[<-b];exact(s wr w.bel).cell 10 x.ov rfl);have⟨v1,w1,e1,o1,b1⟩:=ug wr B qa qc h.row (by rw[<-b];exact(s wr w.bel).ro) Z;obtain⟨la,ln,lc,rfl⟩:=aA o1;have F:=w.below b1;have c5:=(Q7 F.yb).2.2.2.2.2.1;have f5:=(Q7 F.yb).2.2.2.2.2.2.2.2 5;have⟨m2,k2⟩:=F.set 5 (.slice la ln lc);refine(let_mvar%?D:=w1.setCell (Qz Y 5) (.slice la ln lc);?_);have M2:Hid (Me W X Y #[?A,.slice L M O,.slice va vn vc,.slice wa wn p,.slice ta tn tc,.slice la ln lc,C,?C] ?D):=m2;have⟨ea,ec,b5⟩:=aK (s _ m2.bel).rl;have d7:(?D).cell? (Qz x.P 11)=some (.slice ea h.rel.length ec):=(by rw[<-b5];exact(s _ m2.bel).cell 11 x.lv rfl);have SV:=H (ue ?D B (.slice ea h.rel.length ec) h.rel (by rw[<-b5];exact(s _ m2.bel).rl) Z);clear b o1 b1 F m2 k2 b5 w HO HT y hq;go_wp2_with (at_builtin;refine up e1 ?_);refine(SV).mono ?_;rintro e U4⟨es,ve,rfl,b5,c3,b,b4⟩;rw[b5.length_eq]at b;obtain⟨ya,yn,yc,rfl⟩:=aA b;have M4:=M2.below b4;have c6:=(Q7 M4.yb).2.2.2.2.2.2.1;have f6:=(Q7 M4.yb).2.2.2.2.2.2.2.2 6;have⟨m5,k5⟩:=M4.set 6 (.slice ya yn yc);have M5:Hid (Me W X Y #[?A,.slice L M O,.slice va vn vc,.slice wa wn p,.slice ta tn tc,.slice la ln lc,.slice ya yn yc,?C] (U4.setCell (Qz Y 6) (.slice ya yn yc))):=m5;have⟨u0,u1,u2,u3,u4,u5,u6,u7,_⟩:=Q7 M5.yb;clear b5 c3 b b4 m5 k5 M4;go_wp2_with (refine eG M5.xb ?_);refine fM (aw M5.xb _) underlying39 ?_;refine⟨_,_,_,_,_,_,_,_,rfl,λv hv=>?_,M5.bel.grown (aj _ _ _) M5.bel.size (λr hr=>by simp at hr;have:=M5.bx;omega),rfl,rfl⟩;simp[F4,Gp,or_false]at hv;rcases hv with rfl|rfl|rfl|rfl|rfl|rfl|rfl|rfl<;>rfl
def xS(a b c d:Int)(e n:Nat):decide (0<=a/\a<=16/\1<=b/\b<=32/\1<=c/\c<=16/\0<=d/\d<=283/\e<=20000/\n<=300)=decide (jg a b c d e/\n<=300):=by
 apply decide_eq_decide.2;unfold jg;constructor;.rintro⟨h1,h2,h3,h4,h5,h6,h7,h8,h9,h10⟩;exact⟨⟨h1,h2,h3,h4,h5,h6,h7,h8,h9⟩,h10⟩
 rintro⟨⟨h1,h2,h3,h4,h5,h6,h7,h8,h9⟩,h10⟩;exact⟨h1,h2,h3,h4,h5,h6,h7,h8,h9,h10⟩
def Ois.below{w V A ops}(h:Ois w A ops)(b:D w V):Ois V A ops:=by
 refine⟨λk q a=>?_,h.wf,λq a i c=>?_⟩;.let⟨G,e,d,f⟩:=h.at_ k q a;exact⟨G,e,FG d b.size,λj u g=>NI b (f j u g)⟩
 let⟨x,e,d,f⟩:=h.dat q a i c;exact⟨x,e,NI b d,FG f b.size⟩
structure Fq(cf:Cf)(ops:List df)(w:QM)(l:List Aw)(va:QN)(m:Array QN)(W:QM):Prop where
 ls:l.map (·.1)=(NJ cf (ops.map df.o) (aP cf) []).2
 row:W.ownsRow w.heap.size 94 4 va l.length (fZ l)
 dat:∀y∈l,W.ownsRow w.heap.size 5 1 y.2 y.1.data.length (Ns .u8 y.1.data)
 one:∀v∈m.toList,v.oneCell'=true
 bel:D w W
 com:m[0]?=some (I (bz (NJ cf (ops.map df.o) (aP cf) []).1.m 283:Nat))
 use:m[7]?=some (I ((NJ cf (ops.map df.o) (aP cf) []).1.used:Nat))
def ng(mi fi la bu ky)(a:Option Addr)(dn)(b:Nat)(A:Option Addr)(n f:Nat)(w:World)(g:¬(jg mi fi la bu dn/\n<=300)):
  Calls prog 32 #[.agg #[I mi,I fi,I la,I bu,U ky,.slice a dn b],.slice A n f] w λe o=>e=.returned (.agg #[.bool false,C,I 0,C,C,C,C,C,C,I 0])/\D w o:=by
 refine(let_mvar%?B:=w.alloc (.cells #[I mi,I fi,I la,I bu,U ky,.slice a dn b] 27);?_);have i:D w ?B:=ph;refine(let_mvar%?A:=(?B).alloc (.cells #[.bool false,C,I 0,C,C,C,C,C,C,I 0] 41);?_);have l:D w ?A:=i.alloc i.size _;have m:=H (show (?A).heap[w.heap.size+1]?=some (.cells #[.bool false,C,I 0,C,C,C,C,C,C,I 0] 41) by rw[<-aO w (.cells #[I mi,I fi,I la,I bu,U ky,.slice a dn b] 27)];exact XD);have⟨c,k⟩:=y7 (ae (ao w (.cells #[I mi,I fi,I la,I bu,U ky,.slice a dn b] 27)) (th.alloc gi (.cells #[.bool false,C,I 0,C,C,C,C,C,C,I 0] 41))) l;have d:=H (show∀V:World,V.heap[w.heap.size]?=some (.cells #[I mi,I fi,I la,I bu,U ky,.slice a dn b] 27)->∀j u,(#[I mi,I fi,I la,I bu,U ky,.slice a dn b]:Array Value)[j]?=some u->V.cell? (Qz w.heap.size j)=some u from λV o j u j=>by rw[ac o];exact j);have j:=H (rB mi fi la bu ky a dn b A n f ?A);rw[xS,GR g]at j;go_in;go_wp2_with fail;generalize (w.alloc _).alloc _=i at*;generalize l:w.heap.size+1=X at*;apply (j).mono;rintro e V⟨rfl,c⟩;let⟨d,g⟩:=y7 (ae m c) (k.trans (c.mono k.size));go_wp2_with (apply eG d);apply fM (aw d _) underlying41;exact⟨rfl,g.grown (aj _ _ _) g.size (λr a=>by simp at a;omega)⟩
def su(cf da dc A)(g:Nat)(ops w)(b:mE cf)(F:1<=cf.large)(G:Sl w da cf.ds)(K:Ois w A ops)(N:ops.length<=300):
  Calls prog 32 #[gZ cf da dc,.slice A ops.length g] w λe Y=>∃(l:List Aw)(k m n o p q r s t:Value),e=.returned (.agg #[.bool true,k,m,n,o,p,q,r,s,t])/\Fq cf ops w l k #[m,n,o,p,q,r,s,t] Y:=by
 unfold gZ;have v:jg (cf.mix:Nat) (cf.fifo:Nat) (cf.large:Nat) (cf.bud:Nat) cf.ds.length/\ops.length<=300:=by have a:=b.mix;have c:=b.fifo1;have d:=b.fifo;have f:=b.large;have i:=b.bud;have j:=b.len;unfold jg;omega
 refine(let_mvar%?G:=I cf.bud;let_mvar%?F:=I cf.mix;let_mvar%?E:=U cf.key;let_mvar%?D:=I cf.fifo;let_mvar%?C:=I cf.large;let_mvar%?B:=w.alloc (.cells #[?F,?D,?C,?G,?E,.slice da cf.ds.length dc] 27);?_);have i:D w ?B:=ph;refine(let_mvar%?A:=(?B).alloc (.cells #[.bool false,C,I 0,C,C,C,C,C,C,I 0] 41);?_);have c:D w ?A:=i.alloc i.size _;have x:=H (show (?A).heap[w.heap.size+1]?=some (.cells #[.bool false,C,I 0,C,C,C,C,C,C,I 0] 41) by rw[<-aO w (.cells #[?F,?D,?C,?G,?E,.slice da cf.ds.length dc] 27)];exact XD);have⟨d,y⟩:=y7 (ae (ao w (.cells #[?F,?D,?C,?G,?E,.slice da cf.ds.length dc] 27)) (th.alloc gi (.cells #[.bool false,C,I 0,C,C,C,C,C,C,I 0] 41))) c;have a:=H (show∀V:World,V.heap[w.heap.size]?=some (.cells #[?F,?D,?C,?G,?E,.slice da cf.ds.length dc] 27)->∀j u,(#[?F,?D,?C,?G,?E,.slice da cf.ds.length dc]:Array Value)[j]?=some u->V.cell? (Qz w.heap.size j)=some u from λV L j u f=>by rw[ac L];exact f);have u0:=a.out _ d 0 _ rfl;have u1:=a.out _ d 1 _ rfl;have u2:=a.out _ d 2 _ rfl;have u3:=a.out _ d 3 _ rfl;have u4:=a.out _ d 4 _ rfl;have u5:=a.out _ d 5 _ rfl;have B:=H (rB (cf.mix:Nat) (cf.fifo:Nat) (cf.large:Nat) (cf.bud:Nat) cf.key da cf.ds.length dc A ops.length g ?A);rw[xS,G8 v]at B;have M:=H (λV(L:D w V)=>CW zP cf da dc A g ops V b F (G.below L) (K.below L) N);unfold gZ at M;have⟨hinv,f⟩:=jp cf b.fifo1 (ops.map df.o) (aP cf) [] 0 (Inv.new cf) (Few.new cf);have j:=H (IT hinv (f.mono (by rw[Gz];omega:0+(ops.map df.o).length<=302)));have z:=H b;go_in;go_wp2_with fail;generalize (w.alloc _).alloc _=V0 at*;let⟨X,hX⟩:=Qa (w.heap.size+1);rw[hX]at x⊢;apply (B).mono;rintro e V⟨rfl,b⟩;let⟨R,f,v⟩:=Qe (ae x b) (ae d b) (y.trans (b.mono y.size));let u0:=a.out _ f 0 _ rfl;let u1:=a.out _ f 1 _ rfl;let u2:=a.out _ f 2 _ rfl;let u3:=a.out _ f 3 _ rfl;let u4:=a.out _ f 4 _ rfl;let u5:=a.out _ f 5 _ rfl;go_wp2_with fail;apply (M V v).mono;rintro e V1⟨x,l,k,B,rfl,S,d,F,G,b,i⟩;let⟨T,W,N⟩:=Qe (ae R i) (zY B x cf _ 302 V1 F j.1 j.2 gi z) (v.trans (i.mono v.size));have O:w.heap.size<=B:=Fx v.size S;have P:=H (IT (aN b.row O) (λy(K:y∈l)=>aN (b.dat y K).1 O));obtain⟨k,vn,vc,rfl⟩:=aA b.row;have Q:=H G;go_wp2_with fail;refine(W).mono ?_;rintro e z⟨m,n,o,p,q,r,s,t,rfl,a,c,b,d⟩;have i:=H (IT b d);clear b d;let⟨f,d,j,b⟩:=Qf (ae T c) (IT (ax P.1 c) (λy(K:y∈l)=>ax (P.2 y K) c)) (N.trans (c.mono N.size)) a;clear a c;go_wp2_with (refine Gf rfl 41 _ _ rfl _ _ rfl rfl 41 _ f E rfl (all_oneCell_toArray (λv hv=>by rcases F4.1 hv with rfl|hv;rfl;rcases F4.1 hv with rfl|hv;rfl;exact b v hv)) ?_);apply fM (aw f _) underlying41;let a:Ky (· =41) _ _:=Ky.grown f rfl (aj z X #[.bool true,.slice k vn vc,m,n,o,p,q,r,s,t]);exact⟨l,_,m,n,o,p,q,r,s,t,rfl,Q,ai d.1 a,λy K=>ai (d.2 y K) a,b,j.grown (aj _ _ _) j.size (λr a=>by simp at a;omega),congrArg some i.1,congrArg some i.2⟩
