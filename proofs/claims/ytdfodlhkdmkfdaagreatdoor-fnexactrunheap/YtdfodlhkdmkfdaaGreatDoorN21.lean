import Derived.Test.YtdfodlhkdmkfdaaGreatDoorN18
set_option linter.unusedVariables false
set_option linter.unusedSimpArgs false
set_option maxRecDepth 20000
set_option maxHeartbeats 8000000
namespace Go.Proofs.YtdfodlhkdmkfdaaGreatDoor
open Go.Proofs.Tryz
variable {B:Nat} {x:Sm} {cf:Cf} {h:Hs} {W W0:World}
section
open Go.RowKit
structure Br (x:Sm) (B:Nat) (W W':World):Prop where
 bk:Bk B x.Q W W'
 rf:∀ (g:Nat) (c:Array Value) (t:TypeId) (f:Nat×Nat),W.heap[g]?=some (.cells c t f)->g≠x.G->t≠164->t≠5->W'.heap[g]?=some (.cells c t f)
theorem Br.refl (x B W):Br x B W W:=⟨Bk.refl _ _ _,λ_ _ _ _ h _ _ _=>h⟩
theorem Sh.brB {W'} (a:Sh B x cf h W) (k:Br x B W0 W) (d:B<=W0.heap.size) (b:D W W'):Br x B W0 W' :=
 ⟨a.bkB k.bk d b,λg c t f e i j l=>by
  have:=k.rf g c t f e i j l
  rw [b.block g (ah this)];exact this⟩
theorem Sh.brG (a:Sh B x cf h W) (k:Br x B W0 W) (b:B<=W0.heap.size) (i:Nat) (v:Value):Br x B W0 (W.setCell ⟨x.G,i,none⟩ v) :=
 ⟨a.bkG k.bk b i v,λg c t f d e j l=>by
  have:=k.rf g c t f d e j l
  rw [(au (ao W x.G) i v).block g (ah this) cd];exact this⟩
theorem Sh.brS {W'} (a:Sh B x cf h W) (k:Br x B W0 W) (j:B<=W0.heap.size) (f:Sf x.Q W W'):Br x B W0 W' :=
 ⟨a.bkS k.bk j f,λg c t b l m d i=>(f.ky a.sp).cells g c t b (k.rf g c t b l m d i) (by rintro (e|e);exact d e;exact i e)⟩
theorem sE (B x cf h) (c s j:Nat) (W) (k:Sh B x cf h W) (q:B<=W.heap.size) (G:Ai h) (r:c<12) (d:s<6) (hj:j<aU c) :
  Calls prog 147 #[J x.P 0,I c,I s,I j] W λe Q=>e=.returned (.tuple #[])/\Sh B x cf (cV h c s j) Q/\Br x B W Q:=by
 obtain⟨K,L,b⟩:=qo r d hj;obtain⟨a,i⟩:∃ a:Hs,a={ h with st:=aJ h.st c s j 3 }:=⟨_,rfl⟩;have t:=H (λ(V:World) (f:Sh B x cf h V)=>show Sh B x cf a (V.setCell ⟨x.G,K*6+4,none⟩ (I 3)) by
  have:=f.setSt L 3;rw [b] at this;rw [i];exact this)
 have a0:=H (show B<=x.G by
  rcases k.sl.2 with ⟨e,_⟩|⟨g,l,n,e,o,_⟩;·simp at e
  simp at e;omega)
 have g:∀ V,Sh B x cf h V\/Sh B x cf a V->V.cell? ⟨x.P,7,none⟩=some (Vl x.G 1062 x.gc):=λV f=>by
  rcases f with f|f;·exact f.cell 7 _ rfl
  exact f.cell 7 _ rfl
 have R:=H g;have a1:=g W (.inl k);have HS:=H k;have A:=H b;have S:=H i;clear k g b i;go_enter func147,ntmps147;go_wp2;go_loopw [15] (λi wr=>∃ k:Nat,k<=1062/\i=I k/\Hid (if K<k then Sh B x cf a wr else Sh B x cf h wr)/\Hid (Br x B W wr)) (λi _=>1062-(intOf i).toNat);case atStart=>exact ⟨0,Jt _,rfl,H (by rw [tg Z];exact HS),H (Br.refl _ _ _)⟩
 case round =>
  obtain⟨k,hk,rfl,u,M⟩:=hrel;by_cases n:k<1062
  ·obtain⟨b,g,o⟩:∃ b:Hs,Sh B x cf b wr/\(Sh B x cf h wr\/Sh B x cf a wr):=by
    have:=u.out;split at this;·exact⟨a,this,.inr this⟩
    exact⟨h,this,.inl this⟩
   obtain⟨d0,d1,d2,d3,d4,d5⟩:=g.slot n;have p:D wr (wr.alloc (.cells #[I ((sA k).1:Nat),I ((sA k).2.1:Nat),I ((sA k).2.2:Nat),U (gJ k:Nat),I (dH b k),I (f_ b k)] 100)):=(Jn _ _).alloc (Jo _) _;have e7:(wr.alloc (.cells #[I ((sA k).1:Nat),I ((sA k).2.1:Nat),I ((sA k).2.2:Nat),U (gJ k:Nat),I (dH b k),I (f_ b k)] 100)).cell? ⟨x.P,7,none⟩=some (Vl x.G 1062 x.gc):=ol p (R wr o);have F:=H (show Br x B W (wr.alloc (.cells #[I ((sA k).1:Nat),I ((sA k).2.1:Nat),I ((sA k).2.2:Nat),U (gJ k:Nat),I (dH b k),I (f_ b k)] 100)) from g.brB M q p);by_cases v:k=K
   ·subst v;have l:=H (show Sh B x cf h (wr.alloc (.cells #[I ((sA k).1:Nat),I ((sA k).2.1:Nat),I ((sA k).2.2:Nat),U (gJ k:Nat),I (dH b k),I (f_ b k)] 100)) by
     have:=u.out;rw [tg Z] at this;exact this.below p)
    have S2:=H (t _ l);have w:=H (l.brG F q (k*6+4) (I 3));have v4:=(l.slot n).2.2.2.2.1;have f4:=l.slotF (k*6+4);have y:(sA k).1=c:=(by rw [A.out]);have T:(sA k).2.1=s:=(by rw [A.out]);have X:(sA k).2.2=j:=(by rw [A.out]);generalize dH b k=z at *;generalize dH h k=z0 at *;generalize f_ b k=Y at *;generalize gJ k=z3 at *;generalize (sA k).2.2=P at *;generalize (sA k).1=N at *;generalize (sA k).2.1=O at *;subst y T X;clear p g o;go_wp2;go_roundw;(case rel=>exact ⟨k+1,Z,aR,H (by rw [tm Z];exact S2),w⟩);case measure=>simp [intOf];omega
   have l:=H (show (if K<k+1 then Sh B x cf a (wr.alloc (.cells #[I ((sA k).1:Nat),I ((sA k).2.1:Nat),I ((sA k).2.2:Nat),U (gJ k:Nat),I (dH b k),I (f_ b k)] 100)) else Sh B x cf h (wr.alloc (.cells #[I ((sA k).1:Nat),I ((sA k).2.1:Nat),I ((sA k).2.2:Nat),U (gJ k:Nat),I (dH b k),I (f_ b k)] 100))) by
    have:=u.out;by_cases y:K<k;·rw [tm y] at this;rw [tm Z];exact this.below p
    rw [tg y] at this;rw [tg Z];exact this.below p)
   have y:¬((sA k).1=c/\(sA k).2.1=s/\(sA k).2.2=j):=λe=>v (yP n L (by rw [A.out,Prod.ext_iff,Prod.ext_iff];exact e))
   generalize dH b k=z at *;generalize f_ b k=Y at *;generalize gJ k=z3 at *;generalize (sA k).2.2=P at *;generalize (sA k).1=N at *;generalize (sA k).2.1=O at *;clear p g o;by_cases g:N=c
   ·subst g;by_cases o:O=s
    ·subst o;have p:((P:Int)==(j:Int))=false:=cd;go_wp2;go_roundw;(case rel=>exact ⟨k+1,Z,aR,l,F⟩);case measure=>simp [intOf];omega
    have p:((O:Int)==(s:Int))=false:=cd;go_wp2;go_roundw;(case rel=>exact ⟨k+1,Z,aR,l,F⟩);case measure=>simp [intOf];omega
   have o:((N:Int)==(c:Int))=false:=cd;go_wp2;go_roundw;(case rel=>exact ⟨k+1,Z,aR,l,F⟩);case measure=>simp [intOf];omega
  obtain rfl:k=1062:=Z;have S1:=H (show Sh B x cf a wr by have:=u.out;rw [tm L] at this;exact this);have y:Ai a:=by
   rw [S.out];intro b g l;show 0<=aJ h.st c s j 3 b g l/\aJ h.st c s j 3 b g l<=4;unfold aJ;split;·omega
   exact G b g l
  have F:=H (Ab y r d);have T:=H (show cV h c s j=if (freeS a c s).length=aU c then { a with m:=bQ a.m (aF c s) (dQ c) } else a by
   rw [S.out];rfl)
  have g:D wr (wr.alloc (.cells #[I 1,I 2,I 4] 3)):=(Jn _ _).alloc (Jo _) _;have l:=H (yN B x cf a c s (some ⟨wr.heap.size,0,none⟩) 3 3 [1,2,4] _ (S1.below g) (.inr ⟨wr.heap.size,rfl,rowOf (av _ _)⟩) rfl al Z);go_wp2_with fail;refine l.mono ?_;rintro e z ⟨v,rfl,p,o⟩;obtain⟨va,vc,rfl⟩:=aG p;have S2:=H ((S1.below g).below o);have b:=aB g o;have w:=H (show Br x B W z from S1.brB M q b);clear p o g b l S1;by_cases b:(freeS a c s).length=aU c
  ·have N:=F.2 b;rw [N];have g:=H (T.trans (tm b));have O:z.cell? ⟨x.P,6,none⟩=some (J x.T 0):=S2.cell 6 _ rfl;have X:=H (λV=>mO c s V r d);have Y:=H (λV=>p6 c V r);have hp:=cL r d;have CD:=H (λV (f:D z V)=>sd x.T x.Q 283 (cf.bud:Nat) a.m (aF c s) (dQ c) V ((S2.below f).sp) Z Z);generalize aF c s=sp at *;generalize dQ c=pn at *;clear F R t u M;go_wp2
   go_region_with (first
    | (go_at_call 135;refine (X _).mono ?_;rintro e l ⟨rfl,p⟩;have P:D z l:=⟨p.os,p.tape,p.output,p.size,p.block⟩;have a2:=ol P O)
    | (go_at_call 134;refine (Y _).mono ?_;rintro e V2 ⟨rfl,o⟩;have l:D z V2:=aB P o;have a2:=ol l O)
    | (go_at_call 148;refine (CD _ l).mono ?_;rintro e V3 ⟨rfl,x3,f3⟩))
   all_goals (
    have SF:=H (LG ((S2.below l).space (Jp (Jp q w.bk.bel.size) l.size) _ x3 f3) ((S2.below l).brS (S2.brB w q l) q f3))
    clear x3 f3 P l p o O X Y CD
    go_wp2
    go_end0
    rw [g.out]
    exact⟨rfl,SF⟩)
  have g:=H (T.trans (tg b));have N:¬jE a c s [1,2,4] 1062=[]:=λe=>b (F.1 e)
  have l:(((jE a c s [1,2,4] 1062).length:Int)==0)=false:=by
   simp;exact N
  generalize (jE a c s [1,2,4] 1062).length=p at *;go_wp2;go_end0;rw [g.out];exact⟨rfl,S2,w⟩
end
end Go.Proofs.YtdfodlhkdmkfdaaGreatDoor
