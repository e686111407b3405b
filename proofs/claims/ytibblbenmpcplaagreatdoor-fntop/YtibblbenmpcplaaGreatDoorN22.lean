import Derived.Test.YtibblbenmpcplaaGreatDoorN18
import Derived.Test.YtibblbenmpcplaaGreatDoorN21
set_option linter.unusedVariables false
set_option linter.unusedSimpArgs false
set_option maxRecDepth 20000
set_option maxHeartbeats 8000000
namespace Go.Proofs.YtibblbenmpcplaaGreatDoor
open Go.Proofs.Tryz
variable {B:Nat} {x:Sm} {cf:Cf} {h:Hs} {W W0:World}
section
open Go.RowKit
structure Br (x:Sm) (B:Nat) (W W':World):Prop where
 bk:Bk B x.Q W W'
 rf:∀ (g:Nat) (c:Array Value) (t:TypeId) (f:Nat×Nat),W.heap[g]?=some (.cells c t f)->g≠x.G->t≠204->t≠5->W'.heap[g]?=some (.cells c t f)
theorem Br.refl (x B W):Br x B W W:=⟨Bk.refl _ _ _,λ_ _ _ _ h _ _ _=>h⟩
theorem Sh.brB {W'} (a:Sh B x cf h W) (k:Br x B W0 W) (d:B<=W0.heap.size) (b:D W W'):Br x B W0 W' :=
 ⟨a.bkB k.bk d b,λg c t f e i j l=>by
  have:=k.rf g c t f e i j l
  rw [b.block g (ag this)];exact this⟩
theorem Sh.brG (a:Sh B x cf h W) (k:Br x B W0 W) (b:B<=W0.heap.size) (i:Nat) (v:Value):Br x B W0 (W.setCell ⟨x.G,i,none⟩ v) :=
 ⟨a.bkG k.bk b i v,λg c t f d e j l=>by
  have:=k.rf g c t f d e j l
  rw [(au (al W x.G) i v).block g (ag this) bG];exact this⟩
theorem Sh.brS {W'} (a:Sh B x cf h W) (k:Br x B W0 W) (j:B<=W0.heap.size) (f:Sf x.Q W W'):Br x B W0 W' :=
 ⟨a.bkS k.bk j f,λg c t b l m d i=>(f.ky a.sp).cells g c t b (k.rf g c t b l m d i) (by rintro (e|e);exact d e;exact i e)⟩
theorem qO (B x cf h) (c s j:Nat) (W) (k:Sh B x cf h W) (r:B<=W.heap.size) (L:xl h) (t:c<12) (d:s<6) (hj:j<aM c) :
  Calls prog 152 #[J x.P 0,I c,I s,I j] W λe R=>e=.returned (.tuple #[])/\Sh B x cf (bK h c s j) R/\Br x B W R:=by
 obtain⟨K,M,b⟩:=pw t d hj;obtain⟨a,i⟩:∃ a:Hs,a={ h with st:=aE h.st c s j 3 }:=⟨_,rfl⟩;have u:=H (λ(V:World) (f:Sh B x cf h V)=>show Sh B x cf a (V.setCell ⟨x.G,K*6+4,none⟩ (I 3)) by
  have:=f.setSt M 3;rw [b] at this;rw [i];exact this)
 have a0:=H (show B<=x.G by
  rcases k.sl.2 with ⟨e,_⟩|⟨g,l,n,e,o,_⟩;·simp at e
  simp at e;omega)
 have g:∀ V,Sh B x cf h V\/Sh B x cf a V->V.cell? ⟨x.P,7,none⟩=some (Vl x.G 1062 x.gc):=λV f=>by
  rcases f with f|f;·exact f.cell 7 _ rfl
  exact f.cell 7 _ rfl
 have S:=H g;have a1:=g W (.inl k);have HS:=H k;have F:=H b;have T:=H i;clear k g b i;go_enter func152,ntmps152;go_wp2;go_loopw [15] (λi wr=>∃ k:Nat,k<=1062/\i=I k/\Hid (if K<k then Sh B x cf a wr else Sh B x cf h wr)/\Hid (Br x B W wr)) (λi _=>1062-(intOf i).toNat);case atStart=>exact ⟨0,FH _,rfl,H (by rw [GO Z];exact HS),H (Br.refl _ _ _)⟩
 case round =>
  obtain⟨k,hk,rfl,w,N⟩:=hrel;by_cases o:k<1062
  ·obtain⟨b,g,p⟩:∃ b:Hs,Sh B x cf b wr/\(Sh B x cf h wr\/Sh B x cf a wr):=by
    have:=w.out;split at this;·exact⟨a,this,.inr this⟩
    exact⟨h,this,.inl this⟩
   obtain⟨d0,d1,d2,d3,d4,d5⟩:=g.slot o;have q:D wr (wr.alloc (.cells #[I ((sA k).1:Nat),I ((sA k).2.1:Nat),I ((sA k).2.2:Nat),U (gt k:Nat),I (dC b k),I (fJ b k)] 126)):=(Fu _ _).alloc (Fv _) _;have e7:(wr.alloc (.cells #[I ((sA k).1:Nat),I ((sA k).2.1:Nat),I ((sA k).2.2:Nat),U (gt k:Nat),I (dC b k),I (fJ b k)] 126)).cell? ⟨x.P,7,none⟩=some (Vl x.G 1062 x.gc):=ad q (S wr p);have G:=H (show Br x B W (wr.alloc (.cells #[I ((sA k).1:Nat),I ((sA k).2.1:Nat),I ((sA k).2.2:Nat),U (gt k:Nat),I (dC b k),I (fJ b k)] 126)) from g.brB N r q);by_cases v:k=K
   ·subst v;have l:=H (show Sh B x cf h (wr.alloc (.cells #[I ((sA k).1:Nat),I ((sA k).2.1:Nat),I ((sA k).2.2:Nat),U (gt k:Nat),I (dC b k),I (fJ b k)] 126)) by
     have:=w.out;rw [GO Z] at this;exact this.below q)
    have n:=H (u _ l);have y:=H (l.brG G r (k*6+4) (I 3));have v4:=(l.slot o).2.2.2.2.1;have f4:=l.slotF (k*6+4);have A:(sA k).1=c:=(by rw [F.out]);have X:(sA k).2.1=s:=(by rw [F.out]);have Y:(sA k).2.2=j:=(by rw [F.out]);generalize dC b k=z at *;generalize dC h k=z0 at *;generalize fJ b k=z2 at *;generalize gt k=z3 at *;generalize (sA k).2.2=Q at *;generalize (sA k).1=O at *;generalize (sA k).2.1=P at *;subst A X Y;clear q g p;go_wp2;go_roundw;(case rel=>exact ⟨k+1,Z,aY,H (by rw [GP Z];exact n),y⟩);case measure=>simp [intOf];omega
   have l:=H (show (if K<k+1 then Sh B x cf a (wr.alloc (.cells #[I ((sA k).1:Nat),I ((sA k).2.1:Nat),I ((sA k).2.2:Nat),U (gt k:Nat),I (dC b k),I (fJ b k)] 126)) else Sh B x cf h (wr.alloc (.cells #[I ((sA k).1:Nat),I ((sA k).2.1:Nat),I ((sA k).2.2:Nat),U (gt k:Nat),I (dC b k),I (fJ b k)] 126))) by
    have:=w.out;by_cases A:K<k;·rw [GP A] at this;rw [GP Z];exact this.below q
    rw [GO A] at this;rw [GO Z];exact this.below q)
   have A:¬((sA k).1=c/\(sA k).2.1=s/\(sA k).2.2=j):=λe=>v (v_ o M (by rw [F.out,Prod.ext_iff,Prod.ext_iff];exact e))
   generalize dC b k=z at *;generalize fJ b k=z2 at *;generalize gt k=z3 at *;generalize (sA k).2.2=Q at *;generalize (sA k).1=O at *;generalize (sA k).2.1=P at *;clear q g p;by_cases g:O=c
   ·subst g;by_cases p:P=s
    ·subst p;have q:((Q:Int)==(j:Int))=false:=bG;go_wp2;go_roundw;(case rel=>exact ⟨k+1,Z,aY,l,G⟩);case measure=>simp [intOf];omega
    have q:((P:Int)==(s:Int))=false:=bG;go_wp2;go_roundw;(case rel=>exact ⟨k+1,Z,aY,l,G⟩);case measure=>simp [intOf];omega
   have p:((O:Int)==(c:Int))=false:=bG;go_wp2;go_roundw;(case rel=>exact ⟨k+1,Z,aY,l,G⟩);case measure=>simp [intOf];omega
  obtain rfl:k=1062:=Z;have g:=H (show Sh B x cf a wr by have:=w.out;rw [GP M] at this;exact this);have z:xl a:=by
   rw [T.out];intro b l p;show 0<=aE h.st c s j 3 b l p/\aE h.st c s j 3 b l p<=4;unfold aE;split;·omega
   exact L b l p
  have G:=H (vW z t d);have X:=H (show bK h c s j=if (freeS a c s).length=aM c then { a with m:=bQ a.m (aD c s) (dI c) } else a by
   rw [T.out];rfl)
  have l:D wr (wr.alloc (.cells #[I 1,I 2,I 4] 3)):=(Fu _ _).alloc (Fv _) _;have q:=H (yC B x cf a c s (some ⟨wr.heap.size,0,none⟩) 3 3 [1,2,4] _ (g.below l) (.inr ⟨wr.heap.size,rfl,rowOf (ao _ _)⟩) rfl ar Z);go_wp2_with fail;refine q.mono ?_;rintro e A ⟨v,rfl,O,p⟩;obtain⟨va,vc,rfl⟩:=aK O;have n:=H ((g.below l).below p);have b:=az l p;have y:=H (show Br x B W A from g.brB N r b);clear O p l b q g;by_cases b:(freeS a c s).length=aM c
  ·have O:=G.2 b;rw [O];have g:=H (X.trans (GP b));have P:A.cell? ⟨x.P,6,none⟩=some (J x.T 0):=n.cell 6 _ rfl;have Y:=H (λV=>mc c s V t d);have CG:=H (λV=>yh c V t);have hp:=cD t d;have CD:=H (λV (f:D A V)=>qJ x.T x.Q 283 (cf.bud:Nat) a.m (aD c s) (dI c) V ((n.below f).sp) Z Z);generalize aD c s=sp at *;generalize dI c=pn at *;clear G S u w N;go_wp2
   go_region_with (first
    | (go_at_call 64;refine (Y _).mono ?_;rintro e l ⟨rfl,q⟩;have Q:D A l:=⟨q.os,q.tape,q.output,q.size,q.block⟩;have a2:=ad Q P)
    | (go_at_call 65;refine (CG _).mono ?_;rintro e V2 ⟨rfl,p⟩;have l:D A V2:=az Q p;have a2:=ad l P)
    | (go_at_call 153;refine (CD _ l).mono ?_;rintro e V3 ⟨rfl,x3,f3⟩))
   all_goals (
    have SF:=H (IT ((n.below l).space (Fx (Fx r y.bk.bel.size) l.size) _ x3 f3) ((n.below l).brS (n.brB y r l) r f3))
    clear x3 f3 Q l q p P Y CG CD
    go_wp2
    go_end0
    rw [g.out]
    exact⟨rfl,SF⟩)
  have g:=H (X.trans (GO b));have O:¬jc a c s [1,2,4] 1062=[]:=λe=>b (G.1 e)
  have l:(((jc a c s [1,2,4] 1062).length:Int)==0)=false:=by
   simp;exact O
  generalize (jc a c s [1,2,4] 1062).length=q at *;go_wp2;go_end0;rw [g.out];exact⟨rfl,n,y⟩
end
end Go.Proofs.YtibblbenmpcplaaGreatDoor
