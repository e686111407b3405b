import Derived.Test.YtdhegekcmmlohaaGreatDoorM03
import Derived.Test.YtdhegekcmmlohaaGreatDoorM04
set_option linter.unusedVariables false
set_option linter.unusedSimpArgs false
set_option maxRecDepth 20000
set_option maxHeartbeats 8000000
namespace Go.Proofs.YtdhegekcmmlohaaGreatDoor
open Go.Proofs.Tryz Go.RowKit Go.Maps Go.Shelf Go.ChangeShapes Go.WideShapes Go.ChangeAt
section
variable {w:World}{a c j k n p s:Nat}{h:Hs}{cf:Cf}{q r:Rg9}
theorem Ow.mono{b:Nat}{b' a zs}(h:Ow w b' a c zs)(k:b<=b'):Ow w b a c zs:=by
 refine⟨h.1,?_⟩;rcases h.2 with i|⟨g,d,f,e,l,j⟩;·exact .inl i
 exact .inr ⟨g,d,f,e,Z,j⟩
theorem dz{c:Array Oper}{b:List Oper}{o:Oper}{a:Act}{Q:Exit->Act->QM->Prop}(d:o.guard=none)(s x:Operand)
  (i:o.op=.call {callee:=.builtin .append,args:=#[s,x],argTypes:=#[28,28]}) (j:o.type=28) {v e f:QN} {g:QM} (k:a.eval s=v) (l:a.eval x=e)
  (m:QI 28 v e w f g) (h:wpList prog c Q b (a.put o.dst f) g):wpList prog c Q (o::b) a w:=by
 refine IA d λK n=>?_;unfold Oper.wp;simp[execOp,i,j,resolve,invoke,builtin,k,l,m,Result.andThen];exact n _ _ h
def iG(mix:List Int)(i:Nat)(x:Int)(k:Nat):Int:=if i<k then mix[i]?.getD 0 else x
theorem vq(am b cm af lf)(cf n:Nat)(mix fifo)(x:Int)(d w)(h:Wt w am b af lf mix fifo)(a8:af=none->cf=0)(f:eN mix fifo (n:Nat)=true)(hx:0<=x):
  QA 130 #[wv am b cm af lf cf (n:Nat),I x,I d] w λe w'=>B_ w n (ed n mix fifo x d).1 (ed n mix fifo x d).2.1 (ed n mix fifo x d).2.2 e w':=by
 have⟨i,j⟩:=Qb (md d b);have g:=H (lF w (.cells #[.slice am b cm,.slice af lf cf,I n] 113) (.cells #[C,C,I 0] 113));have l:=H (u_ am b cm af lf cf (n:Nat) mix fifo _ (h.below g.2.2));rw[f]at l;have⟨g1,g2,g3,g4⟩:=ti f;rw[h.ml]at g1;rw[h.fl]at g4;have LM:=H (λW(P:0<b)=>lU d b W P Z);rw[<-j]at LM;have HI:Hid (0<b->i<b):=λP=>j▸oh d b P;have CM:=H (λW(hW:D w W)=>(h.m.below hW).cells);have GS:=H (λW(hW:D w W)=>(h.f.below hW).srcs);have ML:=H h.ml;have M:=H h.fl;have b7:¬(x<0):=Z;have HW:=H (show ed n mix fifo x d=if b=0 then([],(cu n fifo x).1,(cu n fifo x).2)else if mix[i]?.getD 0 = -1 then(mix.set i x,fifo,-1)else(mix.set i x,(cu n fifo (mix[i]?.getD 0)).1,(cu n fifo (mix[i]?.getD 0)).2) by
  unfold ed;rw[h.ml,<-j];by_cases L:b=0;·rw[GP L,GP (List.length_eq_zero_iff.1 (by rw[h.ml];exact L))]
  rw[GO L,GO (λe=>L (by rw[<-h.ml,e];rfl))])
 have NB:=H (show∀k,k<b -> -1<=mix[k]?.getD 0 by
  intro k hk;unfold eN at f;simp only[Gi]at f;have:=f.2.2.2.2.1;unfold nb at this;rw[List.all_eq_true]at this;have m:k<mix.length:=by rw[h.ml];exact hk
  have o:=this (mix[k]) bH;simp[m]at o⊢;exact o)
 unfold wv at l⊢;clear h f j;go_enter func130,ntmps130;go_wp2_with fail;refine(l).mono ?_;rintro e Q⟨rfl,f⟩;have m:=H (az g.2.2 f);have j:=H (ae g.1 f);have o:=H (ae g.2.1 f);have S1:=H (show w.heap.size+1<Q.heap.size by have:=f.size;rw[cS,cS]at this;omega);clear f l g;have c2:Q.cell? (Qz w.heap.size 2)=some (I n):=bJ j;have f:=H ((Fu _ Q).alloc (Fv _) (.cells #[C,C,I n] 113));have L0:=H (show Lp w w.heap.size Q.heap.size am b cm af lf cf n 0 none 0 (mix.set i x) (Q.alloc (.cells #[C,C,I n] 113))from
  ⟨dD _ _,Ow.nil _ _,ae j f,ae o f,az m f⟩)
 have c0:(Q.alloc (.cells #[C,C,I n] 113)).cell? (Qz w.heap.size 0)=some (.slice am b cm):=bJ L0.s0;clear f j o m;go_wp2;generalize Q.heap.size=o at*;go_loopw [28,9] (λv y wr=>∃(k:Nat)(a:QP)(c:Nat),k<=b/\v=I k/\y=I (iG mix i x k)/\Hid (Lp w w.heap.size o am b cm af lf cf n k a c (mix.set i x) wr)) (λv _ _=>b-(intOf v).toNat);case atStart=>exact⟨0,none,0,FH _,rfl,rfl,L0⟩
 case round=>
  obtain⟨k,a,c,hk,rfl,rfl,s⟩:=hrel;clear L0 c0;by_cases N:k<b
  ·obtain⟨g,rfl,S⟩:=CM.out _ s.b k (by rw[ML];exact N);have P:0<b:=Z;have K:=HI.out P;have T:wr.cell? (Qz w.heap.size 0)=some (Vl g b cm):=bJ s.s0;have V:wr.cell? (Qz o 0)=some (.slice a k c):=bJ s.ob;have f:=wM mix i k x (by rw[ML];exact N);by_cases l:k=i
   ·have t:((k:Int)==(i:Int))=true:=(by simp[l]);rw[GP l]at f;have⟨u,z,O,j,q,A,m⟩:=s.next rfl S1 (by rw[Gj,ML]) N g1 x f
    have F:=H m;have G:=H (show mix[k]?.getD 0=iG mix i x (k+1) by unfold iG;rw[GP Z,l]);clear m f l;go_wp2_with fail;refine(LM _ P).mono ?_;rintro e R⟨rfl,rfl⟩;go_wp2_with (at_builtin;refine dz rfl (.tmp 43) (.tmp 45) rfl rfl rfl rfl j ?_);go_roundw;(case rel=>exact⟨k+1,u,z,Z,aY,by rw[<-G.out],F⟩);case measure=>exact QE
   have t:((k:Int)==(i:Int))=false:=bG;rw[GO l]at f;have⟨u,z,O,j,q,A,m⟩:=s.next rfl S1 (by rw[Gj,ML]) N g1 _ f
   have F:=H m;have G:=H (show iG mix i x k=iG mix i x (k+1) by
    unfold iG;by_cases h:i<k;·rw[GP h,GP Z]
    rw[GO h,GO Z])
   clear m f l;generalize mix[k]?.getD 0=y at*;go_wp2_with fail;refine(LM _ P).mono ?_;rintro e R⟨rfl,rfl⟩;go_wp2_with (at_builtin;refine dz rfl (.tmp 43) (.tmp 45) rfl rfl rfl rfl j ?_);go_roundw;(case rel=>exact⟨k+1,u,z,Z,aY,by rw[<-G.out],F⟩);case measure=>exact QE
  obtain rfl:b=k:=Z;have HY:=H (show -1<=iG mix i x b/\(iG mix i x b = -1->ed n mix fifo x d=(mix.set i x,fifo,-1))/\(0<=iG mix i x b->ed n mix fifo x d=(mix.set i x,(cu n fifo (iG mix i x b)).1,(cu n fifo (iG mix i x b)).2)) by
   rw[HW];by_cases L:b=0
   ·have e:iG mix i x b=x:=(by unfold iG;rw[GO Z]);have f:mix=[]:=List.length_eq_zero_iff.1 (by rw[ML];exact L);rw[e,GP L,f];exact⟨Z,λh=>Z,λ_=>rfl⟩
   have e:iG mix i x b=mix[i]?.getD 0:=(by unfold iG;rw[GP (HI Z)]);have f:=NB.out i (HI Z);rw[e,GO L];refine⟨f,λh=>by rw[GP h],λh=>by rw[GO Z]⟩)
  clear HW NB HI LM CM;have⟨a2,c2,W2,j,z,l⟩:=kV wr wr.heap.size none 0 [] af lf cf fifo (Ow.nil _ _) M a8 (GS _ s.b) bG (Fv _);simp only[F1,Oi,FV]at j z;have f:=l.below (Fv _) (λ_ h=>h);have b8:wr.cell? (Qz w.heap.size 1)=some (.slice af lf cf):=bJ s.s0;have R:(mix.set i x).length=b:=by rw[Gj,ML]
  clear GS l;generalize iG mix i x b=y at*;by_cases hy:y = -1
  ·have t:¬(0<=y):=Z;have HE:=H (HY.2.1 hy);have n2:W2.cell? (Qz w.heap.size 2)=some (I n):=(by rw[GT _ _ _ _ _ _ (ae s.s0 f)];rfl);have a0:(lf:Int)<=(n:Int):=Z;have⟨m,q⟩:=s.fin rfl S1 R f z;rw[M]at q;have⟨p0,p1,p2,l,O⟩:=q _ (.inl rfl);have o1:W2.cell? (Qz o 1)=some (C):=bJ m;have o2:W2.frozen? (Qz o 1)=false:=GY _ _ _ _ _ m;have P3:=H l;have P4:=H O;have d0:=(GT _ _ 0 _ _ _ l).trans rfl;have d1:=(GT _ _ 1 _ _ _ l).trans rfl;have d2:=(GT _ _ 2 _ _ _ l).trans rfl;have f0:=GY _ _ 0 _ _ l;have f1:=GY _ _ 1 _ _ l;have f2:=GY _ _ 2 _ _ l;clear m q l O s z f HY;go_wp2_with (at_builtin;refine dz rfl (.const (C)) (.tmp 50) (by with_reducible rfl) rfl rfl rfl j ?_);refine GX (ic dU _ _ (w.heap.size+1) 113 _ (0,0) _ dU (set3 P3 _ _ _) underlying113 rfl E) dU ?_;rw[HE];exact P4 _ _ (.inl rfl)
  have a9:0<=y:=by have:=HY.1;omega
  have HE:=H (HY.2.2 a9);have⟨a3,c3,S,u,A,F⟩:=uf W2 wr.heap.size a2 c2 fifo y z (by rw[M];omega) f.size;have t:D wr S:=f.trans (F.below f.size (λ_ h=>h));have T:(fifo++[y]).length=lf+1:=by rw[FC,M];rfl
  rw[M]at u;have n2:S.cell? (Qz w.heap.size 2)=some (I n):=by rw[GT _ _ _ _ _ _ (ae s.s0 t)];rfl
  clear z F f;by_cases a1:lf<n
  ·have a0:(lf:Int)+1<=(n:Int):=Z;have V:=H (show ed n mix fifo x d=(mix.set i x,fifo++[y],-1) by rw[HE];unfold cu;rw[GP (by rw[M];exact a1)]);have⟨m,q⟩:=s.fin rfl S1 R t A;rw[T]at q;have⟨p0,p1,p2,l,O⟩:=q _ (.inl rfl);have o1:S.cell? (Qz o 1)=some (C):=bJ m;have o2:S.frozen? (Qz o 1)=false:=GY _ _ _ _ _ m;have P3:=H l;have P4:=H O;have d0:=(GT _ _ 0 _ _ _ l).trans rfl;have d1:=(GT _ _ 1 _ _ _ l).trans rfl;have d2:=(GT _ _ 2 _ _ _ l).trans rfl;have f0:=GY _ _ 0 _ _ l;have f1:=GY _ _ 1 _ _ l;have f2:=GY _ _ 2 _ _ l;clear m q l O s t HY HE A T;go_wp2_with (at_builtin;first|refine dz rfl (.const (C)) (.tmp 50) (by with_reducible rfl) rfl rfl rfl j ?_|refine dz rfl (.tmp 54) (.tmp 56) (by with_reducible rfl) rfl rfl rfl u ?_);refine GX (ic dU _ _ (w.heap.size+1) 113 _ (0,0) _ dU (set3 P3 _ _ _) underlying113 rfl E) dU ?_;rw[V];exact P4 _ _ (.inl rfl)
  have a0:¬((lf:Int)+1<=(n:Int)):=Z;have V:=H (show ed n mix fifo x d=(mix.set i x,(fifo++[y]).drop 1,fifo[0]?.getD 0) by
   rw[HE];unfold cu;rw[GO (by rw[M];exact a1)];cases fifo with
   |nil=>have:=M.out;simp at this;omega
   |cons f r=>rfl)
  obtain⟨g,rfl,z⟩:∃g,a3=some (Qz g 0)/\RowV S g 3 (Ns .i64 (fifo++[y])):=by
   rcases A.sl with⟨_,L⟩|h;·simp at L
   exact h
  have F:=A.capge;rw[T]at F;have⟨dp,b0,a5⟩:=iy g 1 (lf+1) c3 Z F;simp only[Nat.add_sub_cancel]at b0;have b5:¬(c3=1):=Z;have a6:=a5 Z;subst a6;have b2:=A.base g rfl;have l1:((fifo++[y]).drop 1).length=lf:=by rw[List.length_drop,T];omega
  have⟨a4,c4,W4,G,X,Y⟩:=kV S S.heap.size none 0 [] (some (Qz g 1)) lf (c3-1) ((fifo++[y]).drop 1) (Ow.nil _ _) l1 bH (.inr ⟨_,rfl,by
   have:=mU z 1 lf (by rw[T];omega);rwa [Ge Z]at this⟩) bG (Fv _)
  simp only[F1,Oi,FV]at G X;have a7:=t.trans (Y.below (B:=wr.heap.size) t.size (λk h=>Fx t.size h));have K:=z.below (Y.below (Fv _) (λ_ h=>h)) z.lt;have⟨m,q⟩:=s.fin rfl S1 R a7 (X.mono t.size);rw[l1]at q;have⟨p0,p1,p2,l,O⟩:=q _ (.inl rfl);have o1:W4.cell? (Qz o 1)=some (C):=bJ m;have o2:W4.frozen? (Qz o 1)=false:=GY _ _ _ _ _ m;have b3:g≠o:=by have:=dO s.ob;omega
  have b4:g≠w.heap.size+1:=by have:=dO s.ob;have:=S1.out;omega
  have b6:w.heap.size+1≠g:=λe=>b4 e.symm
  have q0:(W4.setCell (Qz o 1) (.slice a4 lf c4)).cell? (Qz g 0)=some (I (fifo[0]?.getD 0)):=by
   have:=jZ (K.other (p:=(Qz o 1)) b3 (.slice a4 lf c4)) 0 (by rw[T];omega);rw[this];congr 2;cases fifo with
   |nil=>have:=M.out;simp at this;omega
   |cons f r=>rfl
  have P3:=H l;have P4:=H O;have d0:=(GT _ _ 0 _ _ _ l).trans rfl;have d1:=(GT _ _ 1 _ _ _ l).trans rfl;have d2:=(GT _ _ 2 _ _ _ l).trans rfl;have f0:=GY _ _ 0 _ _ l;have f1:=GY _ _ 1 _ _ l;have f2:=GY _ _ 2 _ _ l;clear m q l O s t HY HE A T z K X Y a7 b2 l1 F a5;generalize fifo[0]?.getD 0=f at*;go_wp2_with (at_builtin;first|refine dz rfl (.const (C)) (.tmp 50) (by with_reducible rfl) rfl rfl rfl j ?_|refine dz rfl (.tmp 54) (.tmp 56) (by with_reducible rfl) rfl rfl rfl u ?_|refine dz rfl (.const (C)) (.tmp 67) (by with_reducible rfl) rfl rfl rfl G ?_);go_region
  all_goals
   go_wp2
   refine GX (ic dU _ _ (w.heap.size+1) 113 _ (0,0) _ dU (set3 P3 _ _ _) underlying113 rfl E) dU ?_
   rw[V]
   exact P4 _ _ (.inr rfl)
theorem yl(k:Nat):List.replicate k (-1:Int)++[-1]=List.replicate (k+1) (-1):=by
 rw[List.replicate_succ']
structure Ln(w:QM)(s o n k:Nat)(a:QP)(c:Nat)(W:QM):Prop where
 ob:W.heap[o]?=some (.cells #[.slice a k c,C,I n] 113)
 ow:Ow W (o+1) a c (List.replicate k (-1))
 s1:W.heap[s]?=some (.cells #[C,C,I 0] 113)
 b:D w W
theorem Ln.next{o a W}(h:Ln w s o n k a c W)(q:w.heap.size=s)(m:s<o)(r:k<=16):
  ∃d e b,QI 28 (.slice a k c) (Vl W.heap.size 1 1) (W.alloc (.cells #[I (-1)] 3)) (.slice d (k+1) e) b/\QG b o 0 (.slice a k c)/\b.frozen? (Qz o 0)=false/\Ln w s o n (k+1) d e (b.setCell (Qz o 0) (.slice d (k+1) e)):=by
 have t:=dO h.ob;have⟨d,e,b,l,f,i⟩:=uf W (o+1) a c (List.replicate k (-1)) (-1) h.ow bG Z;rw[Gc]at l;rw[yl]at f;have j:=i.at h.ob Z;have p:=i.at h.s1 Z;refine⟨d,e,b,l,bJ j,GY _ _ _ _ _ j,⟨?_,?_,oZ p _ _ _ Z,?_⟩⟩;·rw[Ic _ _ _ _ _ _ j];rfl
 ·exact f.but (S:=λk=>k=o) ((But.refl _ b).set _ _ _ rfl) (λg e=>by have:=(f.base g e).1;omega)
 exact(h.b.trans (i.below (by have:=h.b.size;omega) (λg b=>Z))).setCell iM _
theorem xY(m n:Nat)(w:QM)(v:m<=16):
  QA 69 #[I m,I n] w λe f=>∃a c,e=QJ (wv a m c none 0 0 (n:Nat))/\Ow f w.heap.size a c (List.replicate m (-1))/\D w f:=by
 have b:=lF w (.cells #[C,C,I 0] 113) (.cells #[C,C,I n] 113);have g:=H (show Ln w w.heap.size (w.heap.size+1) n 0 none 0 ((w.alloc (.cells #[C,C,I 0] 113)).alloc (.cells #[C,C,I n] 113))from⟨b.2.1,Ow.nil _ _,b.1,b.2.2⟩);unfold wv;go_enter func69,ntmps69;go_wp2;go_loopw [0] (λi wr=>∃(k:Nat)(a:QP)(c:Nat),k<=m/\i=I ((m:Int)-(k:Int))/\Hid (Ln w w.heap.size (w.heap.size+1) n k a c wr)) (λi _=>(intOf i).toNat);case atStart=>exact⟨0,none,0,FH _,aY,g⟩
 case round=>
  obtain⟨k,a,c,x,rfl,b⟩:=hrel;by_cases l:k<m
  ·have o:(0:Int)<(m:Int)-(k:Int):=Z;have⟨p,q,y,d,r,s,j⟩:=b.next rfl Z Z
   have t:=H j;have u:wr.cell? ⟨w.heap.size+1,0,none⟩=some (.slice a k c):=bJ b.ob;go_wp2_with (at_builtin;refine dz rfl (.tmp 13) (.tmp 14) (by with_reducible rfl) rfl rfl rfl d ?_);go_roundw;(case rel=>exact⟨k+1,p,q,Z,aY,t⟩);case measure=>exact QE
  obtain rfl:m=k:=Z;have o:¬((0:Int)<(m:Int)-(m:Int)):=Z;have u:wr.cell? ⟨w.heap.size+1,0,none⟩=some (.slice a m c):=bJ b.ob;have r:wr.cell? ⟨w.heap.size+1,1,none⟩=some (C):=bJ b.ob;have s:wr.cell? ⟨w.heap.size+1,2,none⟩=some (I n):=bJ b.ob;have d:wr.cell? (Qz w.heap.size 0)=some (C):=bJ b.s1;have j:wr.cell? (Qz w.heap.size 1)=some (C):=bJ b.s1;have p:wr.cell? (Qz w.heap.size 2)=some (I 0):=bJ b.s1;have f0:wr.frozen? (Qz w.heap.size 0)=false:=GY _ _ _ _ _ b.s1;have f1:wr.frozen? (Qz w.heap.size 1)=false:=GY _ _ _ _ _ b.s1;have f2:wr.frozen? (Qz w.heap.size 2)=false:=GY _ _ _ _ _ b.s1;go_wp2;refine GX (Gq dU _ _ w.heap.size 113 _ (0,0) _ dU (set3 b.s1 _ _ _) underlying113 rfl E) dU ?_;refine⟨a,c,rfl,?_,((b.b.setCell iM _).setCell iM _).setCell iM _⟩;exact(b.ow.but (S:=λk=>k=w.heap.size) ((((But.refl (λk=>k=w.heap.size) wr).set _ _ _ rfl).set _ _ _ rfl).set _ _ _ rfl) (λg e=>by have:=(b.ow.base g e).1;omega)).mono Z
theorem gO(a:dV h n=some s):187<=s/\s+n<=283/\∀r∈h.rg,s+n<=r.first\/r.first+r.ext<=s:=by
 unfold dV at a;rw[Option.map_eq_some_iff]at a;obtain⟨k,c,rfl⟩:=a;have⟨d,b⟩:=lr c;simp at b;refine⟨Z,Z,λr a=>?_⟩;exact b.2 r a
theorem mF(h:1016<a):1<=aR a:=by
 unfold aR;split<;>omega
theorem Inv.large(i:Inv cf h){g:Nat}(M:1<=g)(N:g<=3)(ha:1016<a)(l:dV h (g+aR a+1)=some s):Inv cf {h with m:=aT h.m (s+g) (aR a),rg:=h.rg++[⟨s,g,aR a,1,a⟩],rel:=h.rel.filter λb=>b/1024<s || s+(g+aR a+1)<=b/1024}:=by
 have⟨X,O,G⟩:=gO l;have P:=mF ha;have⟨p,w⟩:=Qa (aR a);rw[w]at O G P⊢;have t:∀k,k<187->aT h.m (s+g) p k=h.m k:=λk u=>by rw[cO,GO Z]
 have z:∀o q,o<12->q<6->dA {h with m:=aT h.m (s+g) p,rg:=h.rg++[⟨s,g,p,1,a⟩],rel:=h.rel.filter λb=>b/1024<s || s+(g+p+1)<=b/1024} o q=dA h o q:=λo q c d=>by
  have:=cD c d;unfold dA;show(aT h.m (s+g) p (aD o q)).isSome=_;rw[t _ Z]
 refine⟨i.st,i.fine.fresh _ _,λk u=>?_,λo q c d j Q=>?_,λo q c d K=>?_,i.req,i.mxl,i.ffl,i.ffn,i.mxn,i.wait,i.wlt,i.wnd,λr l=>?_,?_,λk u=>?_,λk u v=>?_,λb=>?_,i.rownd,i.rowl,λb R=>?_⟩;·show aT h.m _ _ k=none;rw[cO,GO Z];exact i.out k u
 ·have:=cD c d;rw[z o q c d];show(aT h.m _ _ _).isSome=_;rw[t _ Z];exact i.slab o q c d j Q
 ·rw[z o q c d]at K;exact i.off o q c d K
 ·rcases F8.1 l with f|f;·exact i.rgs r f
  simp at f;subst f;dsimp only[Rg9.ext];refine⟨Z,Z,Z,Z,Z,.inl ⟨rfl,Z,?_⟩⟩;rw[F0];exact w
 ·rw[Is];refine⟨i.apart,bH,λx v y L=>?_⟩;simp at L;subst L;have:=G x v;dsimp only[Rg9.ext]at this⊢;omega
 ·show(aT h.m (s+g) p k).isSome=true↔_;rw[cO];have A:=i.big k u;constructor
  ·intro v;split at v
   ·rename_i e;exact⟨_,List.mem_append_right _ (List.mem_singleton.2 rfl),rfl,e.1,e.2⟩
   have⟨r,l,f⟩:=A.1 v;exact⟨r,IF _ l,f⟩
  rintro⟨r,l,f⟩;rcases F8.1 l with n|n
  ·split;·rfl
   exact A.2 ⟨r,n,f⟩
  simp at n;subst n;rw[GP f.2];rfl
 ·have B:(aT h.m (s+g) p k).isSome=true:=v;rw[t k u]at B;exact i.low k u B
 ·show b∈h.row↔_;rw[i.row b];constructor;·rintro⟨r,l,f⟩;exact⟨r,IF _ l,f⟩
  rintro⟨r,l,f⟩;rcases F8.1 l with n|n;·exact⟨r,n,f⟩
  simp at n;subst n;have:(1:Int)=2:=f.1;omega
 have⟨f,n⟩:=Gk.1 R;have⟨S,T,V,W⟩:=i.rel b f;refine⟨S,T,V,λr l=>?_⟩;rcases F8.1 l with F|F;·exact W r F
 simp at F;subst F;simp at n;exact n
theorem tN(i:Inv cf h)(a:r∈h.rg):r.base=(r.first+r.guards)*1024/\r.base/1024=r.first+r.guards/\r.base%1024=0/\r.ext=r.guards+r.pages+1:=by
 unfold Rg9.base Rg9.ext;refine⟨rfl,?_,?_,rfl⟩<;>omega
theorem zG{l:List Rg9}(ha:l.Pairwise λa b=>a.first+a.ext<=b.first\/b.first+b.ext<=a.first)(f:r∈l)(g:q∈l)(i:∀x∈l,1<=x.guards)(j:r.base=q.base):r=q:=by
 induction l with
 |nil=>cases f
 | cons a t k=>
  have c:r.first+r.guards=q.first+q.guards:=by unfold Rg9.base at j;omega
  have b:∀x∈t,(x.first+x.guards=a.first+a.guards)->False:=λx b m=>by
   have:=(List.pairwise_cons.1 ha).1 x b;unfold Rg9.ext at this;omega
  rcases F4.1 f with d|d<;>rcases F4.1 g with e|e
  ·rw[d,e]
  ·subst d;exact absurd c.symm (b q e)
  ·subst e;exact absurd c (b r d)
  exact k (List.pairwise_cons.1 ha).2 d e (λx b=>i x (Ij _ b))
theorem Inv.one(i:Inv cf h)(a:r∈h.rg)(b:q∈h.rg)(c:r.base=q.base):r=q:=
 zG i.apart a b (λx a=>(i.rgs x a).2.2.1) c
theorem Inv.setRq(i:Inv cf h)(l:r∈h.rg)(m:r.st=1)(ha:1016<a)(n:aR a=r.pages):Inv cf {h with rg:=h.rg.map λx=>if x.base=r.base then {x with rq:=a}else x}:=by
 have c:∀x,(if x.base=r.base then({x with rq:=(a:Int)}:Rg9)else x).first=x.first/\(if x.base=r.base then({x with rq:=(a:Int)}:Rg9)else x).guards=x.guards/\(if x.base=r.base then({x with rq:=(a:Int)}:Rg9)else x).pages=x.pages/\(if x.base=r.base then({x with rq:=(a:Int)}:Rg9)else x).st=x.st:=λx=>by
  split<;>exact⟨rfl,rfl,rfl,rfl⟩
 refine⟨i.st,i.fine,i.out,i.slab,i.off,i.req,i.mxl,i.ffl,i.ffn,i.mxn,i.wait,i.wlt,i.wnd,λy j=>?_,?_,λk o=>?_,i.low,λb=>?_,i.rownd,i.rowl,λb p=>?_⟩
 ·obtain⟨x,f,rfl⟩:=FQ.1 j;have⟨g,q,s,t⟩:=c x;have d:=i.rgs x f;unfold Rg9.ext at d⊢;rw[g,q,s,t];refine⟨d.1,d.2.1,d.2.2.1,d.2.2.2.1,d.2.2.2.2.1,?_⟩;by_cases e:x.base=r.base;·have:=i.one f l e;subst this;rw[GP rfl];exact .inl ⟨m,iM,by dsimp only;rw[F0];exact n⟩
  rw[GO e];exact d.2.2.2.2.2
 ·show(h.rg.map _).Pairwise _;rw[List.pairwise_map];refine i.apart.imp (λ{x y}d=>?_);unfold Rg9.ext at d⊢;rw[(c x).1,(c x).2.1,(c x).2.2.1,(c y).1,(c y).2.1,(c y).2.2.1];exact d
 ·show(h.m k).isSome=true↔_;rw[i.big k o];constructor;·rintro⟨x,f,d,g⟩;refine⟨_,FQ.2 ⟨x,f,rfl⟩,?_⟩;rw[(c x).1,(c x).2.1,(c x).2.2.1,(c x).2.2.2];exact⟨d,g⟩
  rintro⟨y,j,d,g⟩;obtain⟨x,f,rfl⟩:=FQ.1 j;rw[(c x).2.2.2]at d;rw[(c x).1,(c x).2.1,(c x).2.2.1]at g;exact⟨x,f,d,g⟩
 ·show b∈h.row↔_;rw[i.row b];constructor
  ·rintro⟨x,f,d,g⟩;refine⟨_,FQ.2 ⟨x,f,rfl⟩,?_⟩;have e:(if x.base=r.base then({x with rq:=(a:Int)}:Rg9)else x).base=x.base:=(by split<;>rfl);rw[e,(c x).2.2.2];exact⟨d,g⟩
  rintro⟨y,j,d,g⟩;obtain⟨x,f,rfl⟩:=FQ.1 j;rw[(c x).2.2.2]at d;have e:(if x.base=r.base then({x with rq:=(a:Int)}:Rg9)else x).base=x.base:=by split<;>rfl
  rw[e]at g;exact⟨x,f,d,g⟩
 have⟨d,g,q,s⟩:=i.rel b p;refine⟨d,g,q,λy j=>?_⟩;obtain⟨x,f,rfl⟩:=FQ.1 j;have:=s x f;unfold Rg9.ext at this⊢;rw[(c x).1,(c x).2.1,(c x).2.2.1];exact this
def tV(h:Hs)(r:Rg9):Hs:={h with m:=bQ h.m (r.first+r.guards) r.pages,rg:=h.rg.map λx=>if x.base=r.base then {x with st:=2,rq:=0}else x,row:=h.row++[r.base]}
theorem cG(cf h r):aJ cf h r=if cf.large<(h.row++[r.base]).length then {tV h r with rg:=(tV h r).rg.filter λx=>x.base≠(h.row++[r.base])[0]?.getD 0,rel:=h.rel++[(h.row++[r.base])[0]?.getD 0],row:=(h.row++[r.base]).tail}else tV h r:=rfl
theorem Inv.fA(i:Inv cf h)(z:r∈h.rg)(h1:r.st=1)(w:Cf)(V:w.mix=cf.mix)(W:w.fifo=cf.fifo)(hl:h.row.length+1<=w.large):Inv w (tV h r):=by
 have d:∀x:Rg9,(if x.base=r.base then({x with st:=2,rq:=0}:Rg9)else x).first=x.first/\(if x.base=r.base then({x with st:=2,rq:=0}:Rg9)else x).guards=x.guards/\(if x.base=r.base then({x with st:=2,rq:=0}:Rg9)else x).pages=x.pages/\(if x.base=r.base then({x with st:=2,rq:=0}:Rg9)else x).base=x.base:=λx=>by
  split<;>exact⟨rfl,rfl,rfl,rfl⟩
 have⟨b1,b2,b3,b4,b5,b6⟩:=i.rgs r z;have X:r.ext=r.guards+r.pages+1:=rfl;have A:∀k,k<187->bQ h.m (r.first+r.guards) r.pages k=h.m k:=λk B=>by rw[eb,GO Z]
 have G:∀s u,s<12->u<6->dA (tV h r) s u=dA h s u:=λs u m n=>by
  have:=cD m n;unfold dA;show(bQ h.m (r.first+r.guards) r.pages (aD s u)).isSome=_;rw[A _ Z]
 have O:∀x∈h.rg,x≠r->x.first+x.ext<=r.first\/r.first+r.ext<=x.first:=λx f o=>by
  have P:∀{l:List Rg9},(l.Pairwise λa b=>a.first+a.ext<=b.first\/b.first+b.ext<=a.first)->x∈l->r∈l->x.first+x.ext<=r.first\/r.first+r.ext<=x.first:=λ{l}=>by
   induction l with
   |nil=>intro _ f;cases f
   |cons a t Y=>
    intro hp f z;have⟨R,p2⟩:=List.pairwise_cons.1 hp;rcases F4.1 f with e1|e1<;>rcases F4.1 z with K|K
    ·exact absurd (e1.trans K.symm) o
    ·subst e1;exact R r K
    ·subst K;have:=R x e1;omega
    exact Y p2 e1 K
  exact P i.apart f z
 refine⟨i.st,i.fine.gone _ _,λk B=>?_,λs u m n j hj=>?_,λs u m n S=>?_,i.req,λc Q=>V▸i.mxl c Q,λc Q=>W▸i.ffl c Q,i.ffn,i.mxn,i.wait,i.wlt,i.wnd,λy F=>?_,?_,λk B=>?_,λk B f=>?_,λb=>?_,?_,?_,λb N=>?_⟩
 ·show bQ h.m _ _ k=none;rw[eb];split;·rfl
  exact i.out k B
 ·have:=cD m n;rw[G s u m n];show(bQ h.m _ _ _).isSome=_;rw[A _ Z];exact i.slab s u m n j hj
 ·rw[G s u m n]at S;exact i.off s u m n S
 ·obtain⟨x,f,rfl⟩:=FQ.1 F;have⟨k1,k2,k3,k4⟩:=d x;have g:=i.rgs x f;unfold Rg9.ext at g⊢;rw[k1,k2,k3];refine⟨g.1,g.2.1,g.2.2.1,g.2.2.2.1,g.2.2.2.2.1,?_⟩;by_cases e:x.base=r.base;·rw[GP e];exact .inr ⟨rfl,rfl⟩
  rw[GO e];exact g.2.2.2.2.2
 ·show(h.rg.map _).Pairwise _;rw[List.pairwise_map];refine i.apart.imp (λ{x y}L=>?_);unfold Rg9.ext at L⊢;rw[(d x).1,(d x).2.1,(d x).2.2.1,(d y).1,(d y).2.1,(d y).2.2.1];exact L
 ·show(bQ h.m (r.first+r.guards) r.pages k).isSome=true↔_;rw[eb];have g:=i.big k B;constructor
  ·intro f;split at f;·cases f
   rename_i hn;have⟨x,v,q,p⟩:=g.1 f;have o:x.base≠r.base:=λe=>by
    have:=i.one v z e;subst this;exact hn p
   refine⟨x,FQ.2 ⟨x,v,by rw[GO o]⟩,q,p⟩
  rintro⟨y,F,q,p⟩;obtain⟨x,v,rfl⟩:=FQ.1 F;have o:x.base≠r.base:=λe=>by
   rw[GP e]at q;have:(2:Int)=1:=q;omega
  rw[GO o]at q p;have:=O x v (λe=>o (by rw[e]));unfold Rg9.ext at this;rw[GO Z];exact g.2 ⟨x,v,q,p⟩
 ·have M:(bQ h.m (r.first+r.guards) r.pages k).isSome=true:=f;rw[A k B]at M;exact i.low k B M
 ·show b∈h.row++[r.base]↔_;rw[F8,i.row b];constructor
  ·rintro(⟨x,f,q,p⟩|T)
   ·have o:x.base≠r.base:=λe=>by
     have:=i.one f z e;subst this;omega
    exact⟨x,FQ.2 ⟨x,f,by rw[GO o]⟩,q,p⟩
   simp at T;subst T;exact⟨_,FQ.2 ⟨r,z,rfl⟩,by rw[GP rfl],(d r).2.2.2⟩
  rintro⟨y,F,q,p⟩;obtain⟨x,f,rfl⟩:=FQ.1 F;rw[(d x).2.2.2]at p;by_cases e:x.base=r.base;·right;simp;rw[<-p,e]
  rw[GO e]at q;exact .inl ⟨x,f,q,p⟩
 ·show(h.row++[r.base]).Nodup;rw[List.nodup_append];refine⟨i.rownd,bH,λa ha b N=>?_⟩;simp at N;subst N;rintro rfl;have⟨x,f,q,p⟩:=(i.row _).1 ha;have:=i.one f z p;subst this;omega
 ·show(h.row++[r.base]).length<=_;simp;omega
 have⟨q,p,q3,q4⟩:=i.rel b N;refine⟨q,p,q3,λy F=>?_⟩;obtain⟨x,f,rfl⟩:=FQ.1 F;have:=q4 x f;unfold Rg9.ext at this⊢;rw[(d x).1,(d x).2.1,(d x).2.2.1];exact this
theorem Inv.leave(i:Inv cf h){b0:Nat}{t:List Nat}(g:h.row=b0::t)(j:Cf)(K:j.mix=cf.mix)(L:j.fifo=cf.fifo)(M:t.length<=j.large):Inv j {h with rg:=h.rg.filter λx=>x.base≠b0,rel:=h.rel++[b0],row:=t}:=by
 have⟨p,m,V,e0⟩:=(i.row b0).1 (by rw[g];simp);have s:=i.rownd;rw[g]at s;have⟨N,O⟩:=GI.1 s;have d:∀x,x∈(h.rg.filter λx=>decide (x.base≠b0))↔x∈h.rg/\x.base≠b0:=λx=>by rw[Gk];simp
 refine⟨i.st,i.fine,i.out,i.slab,i.off,i.req,λc z=>K▸i.mxl c z,λc z=>L▸i.ffl c z,i.ffn,i.mxn,i.wait,i.wlt,i.wnd,λy u=>i.rgs y ((d y).1 u).1,i.apart.filter _,λk P=>?_,i.low,λb=>?_,O,M,λb w=>?_⟩
 ·show(h.m k).isSome=true↔_;rw[i.big k P];constructor;·rintro⟨x,f,o,n⟩;refine⟨x,(d x).2 ⟨f,λe=>?_⟩,o,n⟩;have:=i.one f m (e.trans e0.symm);subst this;omega
  rintro⟨x,f,q⟩;exact⟨x,((d x).1 f).1,q⟩
 ·show b∈t↔_;have l:=i.row b;rw[g]at l;constructor;·intro w;have⟨x,f,o,n⟩:=l.1 (Ij _ w);refine⟨x,(d x).2 ⟨f,λe=>?_⟩,o,n⟩;rw[n]at e;subst e;exact N w
  rintro⟨x,f,o,n⟩;have⟨r,v⟩:=(d x).1 f;rcases F4.1 (l.2 ⟨x,r,o,n⟩)with e|e;·exact absurd (n.trans e) v
  exact e
 rcases F8.1 w with r|r;·have⟨o,n,l,v⟩:=i.rel b r;exact⟨o,n,l,λy u=>v y ((d y).1 u).1⟩
 simp at r;subst r;have⟨W,X,Y,b4,b5,b6⟩:=i.rgs p m;have⟨f1,f2,f3,f4⟩:=tN i m;rw[e0]at f2 f3;refine⟨f3,Z,Z,λy u=>?_⟩;have⟨A,B⟩:=(d y).1 u;rw[f2];have F:∀{l:List Rg9},(l.Pairwise λa b=>a.first+a.ext<=b.first\/b.first+b.ext<=a.first)->y∈l->p∈l->y.first+y.ext<=p.first\/p.first+p.ext<=y.first:=λ{l}=>by
  induction l with
  |nil=>intro _ f;cases f
  |cons a t Q=>
   intro R f S;have⟨G,T⟩:=List.pairwise_cons.1 R;rcases F4.1 f with e1|e1<;>rcases F4.1 S with v|v
   ·have:=e1.trans v.symm;subst this;exact absurd e0 B
   ·subst e1;exact G p v
   ·subst v;have:=G y e1;omega
   exact Q T e1 v
 have:=F i.apart A m;omega
theorem Inv.fRange(i:Inv cf h)(e:r∈h.rg)(f:r.st=1):Inv cf (aJ cf h r):=by
 rw[cG];by_cases c:cf.large<(h.row++[r.base]).length
 ·rw[GP c];have g:=i.fA e f {cf with large:=cf.large+1} rfl rfl (by have:=i.rowl;dsimp only;omega);obtain⟨d,t,b⟩:∃d t,h.row++[r.base]=d::t:=by
   cases h.row with
   |nil=>exact⟨_,_,rfl⟩
   |cons a l=>exact⟨a,l++[r.base],rfl⟩
  have j:=g.leave (b0:=d) (t:=t) b cf rfl rfl (by
   have k:=congrArg List.length b;have:=i.rowl;simp at k;omega)
  rw[b];exact j
 rw[GO c];exact i.fA e f cf rfl rfl (by simp at c;omega)
theorem jf(h:a<=1016):fD a<12/\a+8<=cy (fD a):=(zO h).2
inductive Seen(h:Hs)(p:Nat):Fd->Prop
 |slot (c s j:Nat):c<12->s<6->j<aM c->bh c s j=p->h.st c s j=1->Seen h p (.slot c s j)
 |range (r:Rg9):r∈h.rg->r.base=p->r.st=1->Seen h p (.range r)
 |no (code:Int):(code=3\/code=4)->Seen h p (.no code)
theorem oD{t:Nat×Nat×Nat}(h:t∈dF):t.1<12/\t.2.1<6/\t.2.2<aM t.1:=by
 unfold dF at h;simp only[List.mem_flatMap,Gh,FQ]at h;obtain⟨c,a,s,b,j,d,rfl⟩:=h;exact⟨a,b,d⟩
theorem bT(h p):Seen h p (aB h p):=by
 unfold aB;cases e:ce p with
 |some t=>
  have⟨c,s,j⟩:=t;unfold ce at e;have a:=oD (Ip e);have b:=List.find?_some e;simp at b;dsimp only at a⊢;split;·rename_i d;exact .slot c s j a.1 a.2.1 a.2.2 b d
  split;·exact .no 3 (.inl rfl)
  exact .no 4 (.inr rfl)
 | none=>
  dsimp only;cases f:h.rg.find? λr=>r.base==p with
  |some r=>
   have a:=Ip f;have b:=List.find?_some f;simp at b;dsimp only;split;·rename_i d;exact .range r a b d
   exact .no 4 (.inr rfl)
  |none=>
   dsimp only;split;·exact .no 4 (.inr rfl)
   exact .no 3 (.inl rfl)
structure Few(k:Nat)(h:Hs):Prop where
 rg:h.rg.length<=k
 rel:h.rel.length<=k
 row:h.row.length<=k
 used:h.used<=2100*k
theorem Few.mono{b:Nat}(f:Few k h)(a:k<=b):Few b h:=
 ⟨Fx f.rg a,Fx f.rel a,Fx f.row a,Fx f.used (IJ _ a)⟩
theorem Inv.malloc(i:Inv cf h)(f:Few k h)(a):Inv cf (av cf h a).2/\(av cf h a).2.rg.length<=k+1/\(av cf h a).2.rel.length<=k/\(av cf h a).2.row.length<=k/\(av cf h a).2.used<=h.used+2000:=by
 unfold av;by_cases ha:a<=1016
 ·rw[GP ha];have⟨l,t⟩:=jf ha;generalize fD a=c at*;have⟨g,m⟩:=Inv.small l 2000 i;cases e:bN cf c 2000 h with
  | mk o p=>
   rw[e]at g m;have f1:p.rg.length<=k+1/\p.rel.length<=k/\p.row.length<=k:=by
    dsimp only at g;rw[g.stay.rg,g.stay.rel,g.stay.row];exact⟨by have:=f.rg;omega,f.rel,f.row⟩
   cases o with
   |none=>exact⟨g.inv,f1.1,f1.2.1,f1.2.2,m⟩
   |some q=>
    have⟨s,j⟩:=q;have⟨u,v,r,d,_,_⟩:=g.some s j rfl;rw[jL]at d;have x:=aX l;have b:=g.inv.setSt l u v 1 (a:Int) Z Z Z (by dsimp only at d⊢;omega) (.inr r) (λ_=>⟨Z,Z⟩) (λe=>absurd rfl e);exact⟨b.bytes (bh c s j+eV c) (can cf (bh c s j)) 8,f1.1,f1.2.1,f1.2.2,m⟩
 rw[GO ha];dsimp only;have y:=mW cf h (n:=3) Z;have b:=i.used (h.used+1);have f0:=f.rg;split;·exact⟨b,iM,f.rel,f.row,iM⟩
 split;·exact⟨b,iM,f.rel,f.row,iM⟩
 rename_i s w;split;·exact⟨b,iM,f.rel,f.row,iM⟩
 refine⟨b.large Z Z Z w,bG,?_,f.row,iM⟩;exact Fx (Hb _ _) f.rel
theorem Inv.fAny(i:Inv cf h)(d:1<=cf.fifo){x:Fd}(k:Seen h p x):Inv cf (db cf h x)/\(db cf h x).rg.length<=h.rg.length/\(db cf h x).rel.length<=h.rel.length+1/\(db cf h x).row.length<=h.row.length+1/\(db cf h x).used<=h.used+1:=by
 cases k with
 | slot c s j f e l u m=>
  refine⟨i.fSlot d f e l m,?_⟩;show(aL cf h c s j).rg.length<=_/\(aL cf h c s j).rel.length<=_/\(aL cf h c s j).row.length<=_/\(aL cf h c s j).used<=_;rw[cW];have ha:(bX cf h c s j).rg=h.rg/\(bX cf h c s j).rel=h.rel/\(bX cf h c s j).row=h.row/\(bX cf h c s j).used<=h.used+1:=by
   unfold bX;refine⟨rfl,rfl,rfl,?_⟩;dsimp only;split<;>omega
  have g:∀a b,(bK (bX cf h c s j) c a b).rg=h.rg/\(bK (bX cf h c s j) c a b).rel=h.rel/\(bK (bX cf h c s j) c a b).row=h.row/\(bK (bX cf h c s j) c a b).used<=h.used+1:=λa b=>by
   unfold bK;dsimp only;split<;>exact ha
  split;·rw[ha.1,ha.2.1,ha.2.2.1];exact⟨Fv _,Z,Z,ha.2.2.2⟩
  have⟨n,o,q,t⟩:=g ((er cf h c s j).toNat/aM c) ((er cf h c s j).toNat%aM c);rw[n,o,q];exact⟨Fv _,Z,Z,t⟩
 |range r b g e=>
  refine⟨i.fRange b e,?_⟩;show(aJ cf h r).rg.length<=_/\(aJ cf h r).rel.length<=_/\(aJ cf h r).row.length<=_/\(aJ cf h r).used<=_;rw[cG];unfold tV;split;·dsimp only;refine⟨?_,bH,bH,Z⟩;exact Fx (Hb _ _) bH
  dsimp only;exact⟨bH,Z,bH,Z⟩
 |no b f=>exact⟨i,Fv _,Nat.le_add_right _ _,Nat.le_add_right _ _,Nat.le_add_right _ _⟩
theorem Inv.realloc(i:Inv cf h)(w:1<=cf.fifo)(f:Few k h)(p a):Inv cf (a_ cf h p a).2/\Few (k+1) (a_ cf h p a).2:=by
 have⟨l,x,F,G,K⟩:=i.malloc f a;have Y:=f.used;have n:Few (k+1) h:=f.mono Z;have u:Few (k+1) (av cf h a).2:=⟨x,Z,Z,Z⟩;have L:∀d:Nat,∀q b,av cf h a=(some q,b)->Inv cf (db cf {b with m:=aZ b.m p q (min d a)} (aB {b with m:=aZ b.m p q (min d a)} p))/\Few (k+1) (db cf {b with m:=aZ b.m p q (min d a)} (aB {b with m:=aZ b.m p q (min d a)} p)):=λd q b e=>by
  rw[e]at l x F G K;dsimp only at l x F G K;have Q:Inv cf {b with m:=aZ b.m p q (min d a)}:=l.bytes q _ _;have⟨R,S,T,V,W⟩:=Q.fAny w (bT _ p);generalize db cf {b with m:=aZ b.m p q (min d a)} (aB {b with m:=aZ b.m p q (min d a)} p)=M at*;dsimp only at S T V W;exact⟨R,Z,Z,Z,Z⟩
 unfold a_;dsimp only;by_cases y:p=0
 ·rw[GP y];cases e:av cf h a with
  |mk o b=>
   rw[e]at l u;cases o with
   |none=>exact⟨l,u⟩
   |some q=>exact⟨l,u⟩
 rw[GO y];have t:=bT h p;cases e:aB h p with
 |no N=>exact⟨i,n⟩
 | slot c s j=>
  rw[e]at t;dsimp only;split;·exact⟨i,n⟩
  split
  ·rename_i g;cases t with
   | slot _ _ _ z t O y P=>
    have⟨_,A⟩:=jf g.1;rw[g.2]at A;have hz:=aX z;have B:dA h c s=true:=by
     cases M:dA h c s with
     |true=>rfl
     |false=>have:=i.off c s z t M j O;rw[P]at this;simp[be]at this
    have:=i.setSt z t O 1 (a:Int) Z Z Z Z (.inr B) (λ_=>⟨Z,Z⟩) (λe=>absurd rfl e);rw[gy h.st P]at this;exact⟨this,n.rg,n.rel,n.row,n.used⟩
  cases v:av cf h a with
  |mk o b=>
   cases o with
   |none=>rw[v]at l u;exact⟨l,u⟩
   |some q=>exact L _ q b v
 | range r=>
  rw[e]at t;dsimp only;split
  ·rename_i g;cases t with
   |range _ X hb t=>
    refine⟨i.setRq X t g.1 g.2,?_⟩;exact⟨by simp;exact n.rg,n.rel,n.row,n.used⟩
  cases v:av cf h a with
  |mk o b=>
   cases o with
   |none=>rw[v]at l u;exact⟨l,u⟩
   |some q=>exact L _ q b v
theorem Inv.do(i:Inv cf h)(g:1<=cf.fifo)(f:Few k h)(o p):Inv cf (NQ cf h o p).2/\Few (k+1) (NQ cf h o p).2:=by
 have a:Few (k+1) h:=f.mono Z;have v:=f.used;have t:∀n,Inv cf (av cf h n).2/\Few (k+1) (av cf h n).2:=λn=>by
  have⟨b,d,e,l,m⟩:=i.malloc f n;exact⟨b,d,Z,Z,Z⟩
 have b:∀n,Inv cf (match av cf h n with
  |(none,d)=>(An4.no 1,d)
  |(some q,d)=>(⟨0,q,0,[]⟩,d)).2/\Few (k+1) (match av cf h n with
  |(none,d)=>(An4.no 1,d)
  |(some q,d)=>(⟨0,q,0,[]⟩,d)).2:=λn=>by
  have:=t n
  cases e:av cf h n with
  |mk o d=>
   rw[e]at this;cases o with
   |none=>exact this
   |some q=>exact this
 unfold NQ;dsimp only;split;·exact b _
 split
 ·split;·exact⟨i,a⟩
  exact b _
 split;·exact i.realloc g f p o.a
 split
 ·have u:=bT h p;have⟨l,w,x,y,z⟩:=i.fAny g u;have m:Few (k+1) (db cf h (aB h p)):=⟨by have:=f.rg;omega,by have:=f.rel;omega,by have:=f.row;omega,Z⟩;cases e:aB h p with
  |no d=>exact⟨i,a⟩
  |slot c s j=>
   rw[e]at l m;dsimp only;split;·exact⟨i,a⟩
   exact⟨l,m⟩
  |range r=>rw[e]at l m;exact⟨l,m⟩
 split
 ·cases e:aB h p with
  |no d=>exact⟨i,a⟩
  |slot c s j=>exact⟨i,a⟩
  |range r=>exact⟨i,a⟩
 split;·split<;>exact⟨i,a⟩
 split
 ·dsimp only;split;·exact⟨i.bytes p o.ys _,a.rg,a.rel,a.row,a.used⟩
  exact⟨i,a⟩
 exact⟨i,a⟩
theorem Inv.step(i:Inv cf h)(a:1<=cf.fifo)(f:Few k h)(an o):Inv cf (bU cf h an o).2/\Few (k+1) (bU cf h an o).2:=by
 unfold bU;split;·exact i.do a f o _
 split;·exact⟨i,f.mono Z⟩
 exact i.do a f o _
inductive Area(h:Hs)(p n:Nat):Prop
 |slot (c s j:Nat):c<12->s<6->j<aM c->bh c s j=p->h.st c s j=1->n<=cy c->Area h p n
 |range (r:Rg9):r∈h.rg->r.base=p->r.st=1->n<=r.pages*1024->Area h p n
theorem Inv.on1(i:Inv cf h)(a:c<12)(b:s<6)(d:j<aM c)(e:be (h.st c s j)=false):dA h c s=true:=by
 cases f:dA h c s with
 |true=>rfl
 |false=>have:=i.off c s a b f j d;rw[e]at this;cases this
theorem Inv.openA(i:Inv cf h)(a:Area h p n)(q:k<n):isOpen (h.m ((p+k)/1024))=true:=by
 rw[i.fine.open];cases a with
 |slot c s j d b f t l m=>
  have e:=i.on1 d b f (by rw[l];rfl);have o:=ca d b f;have u:aD c s*1024<=bh c s j:=by unfold bh;omega
  have g:=i.slab c s d b ((p+k)/1024-aD c s) Z;rw[show aD c s+((p+k)/1024-aD c s)=(p+k)/1024 by omega,e]at g;exact g
 |range r d e b m=>
  have o:=i.rgs r d;unfold Rg9.base at e;exact(i.big _ Z).2 ⟨r,d,b,Z,Z⟩
theorem gN{a d b:Nat}(l:c<12)(m:s<6)(n:j<aM c)(f:a<12)(g:d<6)(i:b<aM a)(k:¬(c=a/\s=d/\j=b)):bh c s j+cy c<=bh a d b\/bh a d b+cy a<=bh c s j:=by
 have o:=ca l m n;have p:=ca f g i;have q:aD c s*1024<=bh c s j:=by unfold bh;omega
 have r:aD a d*1024<=bh a d b:=by unfold bh;omega
 by_cases e:c=a/\s=d
 ·obtain⟨rfl,rfl⟩:=e;unfold bh;rcases Ie j b with h|h|h;·have:(j+1)*cy c<=b*cy c:=Gm _ h;rw[Gy,GF]at this;omega
  ·exact absurd ⟨rfl,rfl,h⟩ k
  have:(b+1)*cy c<=j*cy c:=Gm _ h;rw[Gy,GF]at this;omega
 have:=ew l m f g e;omega
theorem Inv.far(i:Inv cf h)(c:r∈h.rg)(j:q∈h.rg)(d:r≠q):r.first+r.ext<=q.first\/q.first+q.ext<=r.first:=by
 have e:∀{l:List Rg9},(l.Pairwise λa b=>a.first+a.ext<=b.first\/b.first+b.ext<=a.first)->r∈l->q∈l->r.first+r.ext<=q.first\/q.first+q.ext<=r.first:=λ{l}=>by
  induction l with
  |nil=>intro _ f;cases f
  |cons a t k=>
   intro m f c;have⟨g,n⟩:=List.pairwise_cons.1 m;rcases F4.1 f with e1|e1<;>rcases F4.1 c with b|b
   ·exact absurd (e1.trans b.symm) d
   ·subst e1;exact g q b
   ·subst b;have:=g r e1;omega
   exact k n e1 b
 exact e i.apart c j
theorem Inv.apartA(i:Inv cf h){q m}(a:Area h p n)(b:Area h q m)(k:p≠q):p+n<=q\/q+m<=p:=by
 cases a with
 | slot c s j t v x y L z=>
  cases b with
  |slot A B F e d f l w g=>
   have:=gN t v x e d f (by rintro⟨rfl,rfl,rfl⟩;exact k (y.symm.trans l));omega
  |range r u o d g=>
   have G:=ca t v x;have K:=i.rgs r u;unfold Rg9.base at o;omega
 | range r u o v z=>
  cases b with
  |slot A B F e d f l w g=>
   have G:=ca e d f;have K:=i.rgs r u;unfold Rg9.base at o;omega
  |range y x t d g=>
   have:=i.far u x (by rintro rfl;exact k (o.symm.trans t));unfold Rg9.ext at this;unfold Rg9.base at o t;omega
theorem gE(a:Nat):a<=aR a*1024:=by
 unfold aR;split<;>omega
structure Gave(cf:Cf)(h:Hs)(a q:Nat)(h1:Hs):Prop where
 inv:Inv cf h1
 area:Area h1 q a
 fresh:∀n,¬Area h q n
 live:∀c s j,c<12->s<6->j<aM c->h.st c s j=1->h1.st c s j=1/\h1.rq c s j=h.rq c s j
 rg:h1.rg=h.rg\/∃r,h1.rg=h.rg++[r]/\r.base=q
 rel:∀b,b∈h1.rel->b∈h.rel
theorem Inv.gave(i:Inv cf h){q:Nat}{K:Hs}(d:av cf h a=(some q,K)):Gave cf h a q K:=by
 have L:=(i.malloc (k:=h.rg.length+h.rel.length+h.row.length+h.used) ⟨Z,Z,Z,Z⟩ a).1;rw[d]at L;dsimp only at L;unfold av at d;by_cases ha:a<=1016
 ·rw[GP ha]at d;have⟨B,T⟩:=jf ha;generalize fD a=c at*;have⟨g,V⟩:=Inv.small B 2000 i;cases e:bN cf c 2000 h with
  | mk o R=>
   rw[e]at g V d;cases o with
   |none=>simp at d
   | some t=>
    have⟨s,j⟩:=t;simp at d;obtain⟨rfl,rfl⟩:=d;have⟨M,N,W,X,x,Y⟩:=g.some s j rfl;refine⟨L,.slot c s j B M N rfl (aS _ _ _ _ _) Z,λn O=>?_,λu v w l f m F=>?_,.inl g.stay.rg,λb y=>g.stay.rel▸y⟩
    ·cases O with
     |slot u v w l f m P G z=>
      by_cases p:u=c/\v=s/\w=j;·obtain⟨rfl,rfl,rfl⟩:=p;rw[G]at x;simp[be]at x
      have:=gN l f m B M N p;have z1:=aX B;have z2:=aX l;omega
     |range r A y f z=>
      have K:=ca B M N;have S:=i.rgs r A;unfold Rg9.base at y;omega
    have p:¬(u=c/\v=s/\w=j):=by
     rintro⟨rfl,rfl,rfl⟩;rw[F]at x;simp[be]at x
    have Q:=g.stay.live u v w (by rw[F];rfl);refine⟨?_,?_⟩;·show aE R.st c s j 1 u v w=1;rw[aU _ _ p];exact Q.trans F
    show aE R.rq c s j a u v w=h.rq u v w;rw[aU _ _ p];exact congrFun (congrFun (congrFun g.stay.rq u) v) w
 rw[GO ha]at d;dsimp only at d;have hd:=mW cf h (n:=3) Z;split at d;·simp at d
 split at d;·simp at d
 rename_i s A;split at d;·simp at d
 have⟨r1,r2,r3⟩:=gO A;simp at d;obtain⟨rfl,rfl⟩:=d;have hp:=gE a;refine⟨L,.range ⟨s,1+dr cf h 3,aR a,1,a⟩ (List.mem_append_right _ (List.mem_singleton.2 rfl)) rfl rfl hp,λn O=>?_,λu v w l f m F=>⟨F,rfl⟩,.inr ⟨_,rfl,rfl⟩,λb y=>(Gk.1 y).1⟩;cases O with
 |slot u v w l f m P G z=>
  have K:=ca l f m;omega
 |range r A y f z=>
  have S:=r3 r A;have h3:=i.rgs r A;unfold Rg9.base at y;unfold Rg9.ext at S;omega
theorem Gave.keeps{h1 q}(g:Gave cf h a q h1)(A:Area h p n):Area h1 p n/\p≠q:=by
 refine⟨?_,λe=>g.fresh n (e▸A)⟩;cases A with
 |slot c s j f b i k l d=>exact .slot c s j f b i k (g.live c s j f b i l).1 d
 |range r f i b d=>
  refine .range r ?_ i b d;rcases g.rg with e|⟨k,e,_⟩;·rw[e];exact f
  rw[e];exact IF _ f
theorem gW{b:Hs}(a:aB h p=.slot c s j)(f:b.st c s j=1):aB b p=.slot c s j:=by
 unfold aB at a⊢;cases e:ce p with
 |some t=>
  have⟨d,g,i⟩:=t;rw[e]at a;dsimp only at a⊢;split at a;·simp at a;obtain⟨rfl,rfl,rfl⟩:=a;rw[GP f]
  split at a<;>cases a
 |none=>
  rw[e]at a;dsimp only at a;cases d:h.rg.find? λr=>r.base==p with
  |some r=>rw[d]at a;dsimp only at a;split at a<;>cases a
  |none=>rw[d]at a;dsimp only at a;split at a<;>cases a
theorem fV{b:Hs}(a:aB h p=.range r)(g:b.rg=h.rg\/∃f,b.rg=h.rg++[f]):aB b p=.range r:=by
 unfold aB at a⊢;cases e:ce p with
 |some t=>
  have⟨c,d,i⟩:=t;rw[e]at a;dsimp only at a⊢;split at a;·cases a
  split at a<;>cases a
 | none=>
  rw[e]at a;dsimp only at a⊢;cases c:h.rg.find? λr=>r.base==p with
  | some i=>
   rw[c]at a;have j:(b.rg.find? λr=>r.base==p)=some i:=by
    rcases g with d|⟨f,d⟩;·rw[d];exact c
    rw[d,List.find?_append,c];rfl
   rw[j];exact a
  |none=>rw[c]at a;dsimp only at a;split at a<;>cases a
theorem vz(m)(p:Nat)(x)(a:Nat)(h:a≠p):bO (dZ m p x) a=bO m a:=by
 unfold bO dZ;by_cases e:a/1024=p/1024
 ·rw[e,bV];have b:p%1024≠a%1024:=Z;cases m (p/1024)with
  |none=>rfl
  |some q=>simp[b]
 rw[aW _ _ _ _ e]
theorem h_(m)(q:Nat)(ys)(a:Nat):∀k,(a<q\/q+k<=a)->bO (ay m q ys k) a=bO m a
 |0,_=>rfl
 |k+1,h=>by
  show bO (dZ (ay m q ys k) (q+k) _) a=_
  rw[vz _ _ _ _ Z]
  exact h_ m q ys a k Z
end
section
variable {cf:Cf}{h:Hs}{B Q n:Nat}{W W':World}{t:TypeId}{x:Sm}{v:Value}{r:Option Nat}
def pJ(P:Nat->Bool):Nat->Int
 |0=> -1
 |n+1=>if P (5-n)then((5-n:Nat):Int)else pJ P n
theorem ux(P):pJ P 6=match(List.range 6).find? P with|some s=>(s:Int)|none=> -1:=by
 have e:List.range 6=[0,1,2,3,4,5]:=rfl;rw[e];simp only[pJ,List.find?];cases P 0<;>cases P 1<;>cases P 2<;>cases P 3<;>cases P 4<;>cases P 5<;>rfl
theorem sK(P):∀n,n<=6 -> -1<=pJ P n/\pJ P n<=5
 |0,_=>by simp[pJ]
 |n+1,h=>by
  have:=sK P n Z
  simp only[pJ]
  split<;>omega
theorem Inv.openS(i:Inv cf h){c s j k:Nat}(b:c<12)(d:s<6)(f:j<aM c)(a:dA h c s=true)(g:k<cy c):isOpen (h.m ((bh c s j+k)/1024))=true:=by
 have l:=ca b d f;have m:aD c s*1024<=bh c s j:=by unfold bh;omega
 have e:=i.slab c s b d ((bh c s j+k)/1024-aD c s) Z;rw[show aD c s+((bh c s j+k)/1024-aD c s)=(bh c s j+k)/1024 by omega,a]at e;rw[i.fine.open];exact e
def ir(h:Hs)(c s:Nat):Bool:=dA h c s && !(freeS h c s).isEmpty
theorem sk(m a)(k:Nat):clean m a (k+1)=(clean m a k&&(bO m (a+k)==0)):=by
 unfold clean;rw[lP,List.all_append];simp
def Fh(c:Nat)(o:Option (Nat×Nat))(K:Int):Prop:=match o with|none=>K = -1|some (s,j)=>∃k:Nat,K=(k:Int)/\k<1062/\sA k=(c,s,j)
theorem mT{h a:Hs}(e:h.st=a.st)(c):∀n,dy h c n=dy a c n
 |0=>rfl
 |n+1=>by
  simp only[dy,freeS]
  rw[mT e c n,e]
theorem xf(B x cf h)(c:Nat)(W)(b:Sh B x cf h W)(f:B<=W.heap.size)(g:Inv cf h)(L:c<12)(i:h.used+2000<=1000000)(j:cf.ds.length<=20000)(k:∀d∈cf.ds,(Lit.int .i64 d).wf=true):
  QA 120 #[J x.P 0,I c] W λe W'=>∃K:Int,e=QJ (I K)/\Sh B x cf (bN cf c 2000 h).2 W'/\Bk B x.Q W W'/\Fh c (bN cf c 2000 h).1 K:=by
 have⟨HS,HI,q⟩:=Qe b g f;have HF:=H (show dy h c 6<2000 by
  have l:=mf h c 6;have h2:=aX L;have:6*aM c<=6*64:=IJ _ Z;omega)
 have⟨z,a⟩:=Qa (bN cf c 2000 h);rw[a];have⟨HR,HU,HD⟩:=Qe a i (IT j k);clear b g f a i j k;go_enter func120,ntmps120;go_wp2;go_loopg [5] 2000 (λgk _ wr=>∃o:Hs,Hid (bN cf c gk o=z)/\Hid (dy o c 6<gk)/\Hid (Sh B x cf o wr)/\Hid (Inv cf o)/\Hid (Bk B x.Q W wr)/\Hid (o.used+gk<=h.used+2000));case atStart=>exact⟨h,HR,HF,HS,HI,H (Bk.refl _ _ _),H (Fv _)⟩
 case round=>
  have⟨o,KR,KF,KS,KI,KB,KU⟩:=hrel;have⟨ON,FR,OF⟩:=Qe (λV(T:Sh B x cf o V)s(a:s<6)=>Dc B x cf o c s V T L a) uC (λV(T:Sh B x cf o V)s g(hr:RowV V g 3 (Ns .i64 [0,3]))=>yC B x cf o c s (some (Qz g 0)) 2 2 [0,3] V T (.inr ⟨g,rfl,hr⟩) rfl ar Z);go_wp2;go_loopw [5,6,7] (λa b s wq=>∃n:Nat,n<=6/\s=I (5-(n:Int))/\a=I (pJ (ir o c) n)/\b=I (pJ (λs=>!dA o c s) n)/\Hid (Sh B x cf o wq)/\Hid (Bk B x.Q W wq)) (λ_ _ s _=>(intOf s+1).toNat);case atStart=>exact⟨0,Z,rfl,rfl,rfl,KS,KB⟩
  case round=>
   clear KS KB;obtain⟨n,hn,rfl,rfl,rfl,M,BQ⟩:=hrel;have a8:Hid (B<=wr.heap.size):=Fx q BQ.bel.size;have d1:=sK (ir o c) n hn;have d2:=sK (λs=>!dA o c s) n hn;by_cases a4:n<6
   ·obtain⟨s,O⟩:∃s:Nat,s=5-n:=⟨_,rfl⟩;have f:(5-(n:Int))=(s:Int):=Z;have t:s<6:=Z;have d:=H (show pJ (ir o c) (n+1)=if ir o c s then(s:Int)else pJ (ir o c) n by rw[O];rfl);have i:=H (show pJ (λs=>!dA o c s) (n+1)=if(!dA o c s)then(s:Int)else pJ (λs=>!dA o c s) n by rw[O];rfl);have r:s+n=5:=Z;rw[f];clear O f;have f:=H (ON _ M s t);generalize pJ (ir o c) n=i1 at*;generalize pJ (λs=>!dA o c s) n=i2 at*;go_wp2_with fail;refine f.mono ?_;rintro e P⟨rfl,u⟩;have⟨S1,B1,L1⟩:=Qe (M.below u) (M.bkB BQ q u) (Fx a8 u.size);clear u;cases w:dA o c s
    ·have f:=H (d.trans (GO (by unfold ir;simp[w])));have k:=H (i.trans (GP (by simp[w])));clear w;go_wp2;go_roundw;(case rel=>exact⟨n+1,Z,aY,by rw[f],by rw[k],S1,B1⟩);case measure=>exact QE
    have k:=H (i.trans (GO (by simp[w])));go_wp2_with fail;refine(FR _).mono ?_;rintro e V2⟨g,rfl,j,N⟩;have⟨S2,B2,L2⟩:=Qe (S1.below N) (S1.bkB B1 q N) (Fx L1 N.size);have C2:=H (OF _ S2 s g j);clear N j;go_wp2_with fail;refine C2.mono ?_;rintro e V3⟨v,rfl,j,b3⟩;have⟨S3,B3⟩:=y7 (S2.below b3) (S2.bkB B2 q b3);obtain⟨va,vc,rfl⟩:=aK j;have Q:=kE o c s L t;have b6:=iD o c s;have hz:=aX L;rw[Q];clear j b3 Q;by_cases j:(freeS o c s).length=0
    ·have f:=H (d.trans (GO (by unfold ir;rw[List.length_eq_zero_iff]at j;simp[j])));have p:¬((0:Int)<((freeS o c s).length:Int)):=Z;generalize (freeS o c s).length=fl at*;clear w;go_wp2;go_roundw;(case rel=>exact⟨n+1,Z,aY,by rw[f],by rw[k],S3,B3⟩);case measure=>exact QE
    have f:=H (d.trans (GP (by unfold ir;rw[List.length_eq_zero_iff]at j;simp[w,j])));have p:(0:Int)<((freeS o c s).length:Int):=Z;generalize (freeS o c s).length=fl at*;clear w;go_wp2;go_roundw;(case rel=>exact⟨n+1,Z,aY,by rw[f],by rw[k],S3,B3⟩);case measure=>exact QE
   obtain rfl:n=6:=Z;have⟨E1,E2⟩:=y7 (show pJ (ir o c) 6=match NW o c with|some s=>(s:Int)|none=> -1 from ux _) (show pJ (λs=>!dA o c s) 6=match qS o c with|some s=>(s:Int)|none=> -1 from ux _);generalize pJ (ir o c) 6=i1 at*;generalize pJ (λs=>!dA o c s) 6=i2 at*;obtain⟨f,d⟩:∃f,gk=f+1:=⟨gk-1,by have:=KF.out;omega⟩;have KG:=H d;have y:=H (show(match cJ cf o c with
     |none=>(none,o)
     |some (s,l)=>if clean l.m (bh c s (du cf l c s)) (cy c)then(some (s,du cf l c s),{l with used:=l.used+1})
      else bN cf c f {l with used:=l.used+1,st:=aE l.st c s (du cf l c s) 4})=z by
    have:=KR.out;rw[d,f_]at this;exact this)
   clear d ON OF a4;(go_upto_if 31 with fail);go_cut [5] (λd w'=>∃(p:Nat)(l:Hs),d=I p/\Hid (cJ cf o c=some (p,l))/\Hid (Sh B x cf l w')/\Hid (Bk B x.Q W w'));case first=>
    cases k:NW o c with
    |some p=>
     have e1:i1=(p:Int):=(by have:=E1.out;rw[k]at this;exact this);subst e1;have a0:¬((p:Int)<0):=Z;have F:=H (show cJ cf o c=some (p,o) by unfold cJ;rw[k]);clear k;go_wp2;go_meet;case rel=>exact⟨p,o,rfl,F,M,BQ⟩
    | none=>
     have e1:i1 = -1:=(by have:=E1.out;rw[k]at this;exact this);subst e1;have d:decide ((-1:Int)<0)=true:=ar;simp only[d];clear d;cases A:qS o c with
     |none=>
      have e2:i2 = -1:=(by have:=E2.out;rw[A]at this;exact this);subst e2;have F:=H (show z=(none,o) by have:=y.out;unfold cJ at this;rw[k,A]at this;exact this.symm);clear k A;go_wp2;refine rh (S:=λ_=>True) ?_;have d:True:=trivial;refine pk 0 (I (-1)) d ?_;refine pz 1 Ql d ?_;refine pk 2 Ql d ?_;refine ps 3 d ?_;refine ps 4 d ?_;refine ps 5 d ?_;refine ps 6 d ?_;refine ps 7 d ?_;refine ps 8 d ?_;refine ps 9 d ?_;refine ps 10 d ?_;refine ps 11 d ?_;refine ps 12 d ?_;refine ps 13 d ?_;refine pz 14 Ql d ?_;refine bY ?_;have⟨S9,i⟩:=y7 (M.below (Fu _ _).drew) (M.bkB BQ q (Fu _ _).drew);go_wp2;go_ret;rw[F];exact⟨-1,rfl,S9,i,rfl⟩
     | some p=>
      have e2:i2=(p:Int):=(by have:=E2.out;rw[A]at this;exact this);subst e2;have⟨t,_⟩:=lr A;have a1:=cD L t;have R:wr.cell? (Qz x.P 6)=some (J x.T 0):=M.cell 6 _ rfl;have⟨CP,CG⟩:=y7 (λV=>mc c p V L t) (λV=>yh c V L);have a0:¬((p:Int)<0):=Z;have a2:decide ((p:Int)<0)=false:=bH;by_cases i:cf.bud<bz o.m 283+dI c
      ·have F:=H (show z=(none,o) by
        have:=y.out;unfold cJ at this;rw[k,A]at this;dsimp only at this;rw[GP i]at this;exact this.symm)
       have CC:=H (λV(T:D wr V)=>jm x.T x.Q 283 (cf.bud:Nat) o.m (aD c p) (dI c) V ((M.below T).sp) Z Z Z);generalize aD c p=sp at*;generalize dI c=pn at*;clear k A i;go_wp2;refine rh (S:=λW'=>QG W' x.P 6 (J x.T 0)) ?_;have d:=R;refine pk 0 (I p) d ?_;refine pz 1 Qk d ?_;refine pk 2 Qk d ?_;refine pk 3 (J x.P 0) d ?_;refine pk 4 (J x.P 0) d ?_;refine pk 5 (J x.P 6) d ?_;refine pz 6 (J x.T 0) d ?_;refine pk 7 (I c) d ?_;refine pk 8 (I p) d ?_;refine pk 10 (I c) d ?_;refine po 9 λK' r=>?_;go_simp;refine(CP _).mono ?_;rintro e P⟨rfl,u⟩;have G:D wr P:=⟨u.os,u.tape,u.output,u.size,u.block⟩;have l:=NI G R;refine r _ _ ⟨l,?_⟩;clear d;have d:=l;clear r K';refine po 11 λK' r=>?_
       go_simp;refine(CG _).mono ?_;rintro e V2⟨rfl,N⟩;have j:=az G N;have h2:=NI j R;refine r _ _ ⟨h2,?_⟩;clear d;have d:=h2;clear r K';refine po 12 λK' r=>?_;go_simp;refine(CC _ j).mono ?_;rintro e V3⟨rfl,b3⟩;have k3:=az j b3;have X:=NI k3 R;refine r _ _ ⟨X,?_⟩;clear d;have d:=X;clear r K';refine pz 13 Ql d ?_;refine pz 14 Ql d ?_;refine bY ?_;have Y:=H (IT (M.below k3) (M.bkB BQ q k3));clear G j k3 u N b3 R d l h2 X;go_wp2;go_ret;rw[F];exact⟨-1,rfl,Y.1,Y.2,rfl⟩
      have F:=H (show cJ cf o c=some (p,{o with m:=aT o.m (aD c p) (dI c)}) by
       unfold cJ;rw[k,A];dsimp only;rw[GO i])
      have CC:=H (λV(T:D wr V)=>iK x.T x.Q 283 (cf.bud:Nat) o.m (aD c p) (dI c) V ((M.below T).sp) Z Z Z);generalize aD c p=sp at*;generalize dI c=pn at*;clear k A i;go_wp2;refine rh (S:=λW'=>QG W' x.P 6 (J x.T 0)) ?_;have d:=R;refine pk 0 (I p) d ?_;refine pz 1 Qk d ?_;refine pk 2 Qk d ?_;refine pk 3 (J x.P 0) d ?_;refine pk 4 (J x.P 0) d ?_;refine pk 5 (J x.P 6) d ?_;refine pz 6 (J x.T 0) d ?_;refine pk 7 (I c) d ?_;refine pk 8 (I p) d ?_;refine pk 10 (I c) d ?_;refine po 9 λK' r=>?_;go_simp;refine(CP _).mono ?_;rintro e P⟨rfl,u⟩;have G:D wr P:=⟨u.os,u.tape,u.output,u.size,u.block⟩;have l:=NI G R;refine r _ _ ⟨l,?_⟩;clear d;have d:=l;clear r K';refine po 11 λK' r=>?_
      go_simp;refine(CG _).mono ?_;rintro e V2⟨rfl,N⟩;have j:=az G N;have h2:=NI j R;refine r _ _ ⟨h2,?_⟩;clear d;have d:=h2;clear r K';refine po 12 λK' r=>?_;go_simp;refine(CC _ j).mono ?_;rintro e V3⟨rfl,i,f3⟩;have Y:=H (IT ((M.below j).space (Fx a8 j.size) _ i f3) ((M.below j).bkS (M.bkB BQ q j) q f3));have X:V3.cell? (Qz x.P 6)=some (J x.T 0):=Y.1.cell 6 _ rfl;refine r _ _ ⟨X,?_⟩;clear d;have d:=X;clear r K';refine pz 13 Qk d ?_;refine pz 14 Qk d ?_;refine bY ?_;clear i f3 G j u N R d l h2 X;go_wp2
      go_meet;case rel=>exact⟨p,_,rfl,F,H Y.1,H Y.2⟩
   case rest=>
    obtain⟨p,l,rfl,RM,S1,B1⟩:=hcut;have⟨t,j1,w,X,a0,c2,O⟩:=KI.room L RM;have i:=H (show(if clean l.m (bh c p (du cf l c p)) (cy c)then(some (p,du cf l c p),{l with used:=l.used+1})
      else bN cf c f {l with used:=l.used+1,st:=aE l.st c p (du cf l c p) 4})=z by
     have:=y.out;rw[RM]at this;exact this)
    have⟨k,A,F⟩:=oH cf X;have⟨J1,a9,b7,L1⟩:=Qf j1 w O (show B<=wc.heap.size from Fx q B1.bel.size);have b6:=iD l c p;have hz:=aX L;have Q:=kE l c p L t;have b8:=mW cf l X;obtain⟨K,r⟩:∃K,(jc l c p [0,3] 1062)[dr cf l (freeS l c p).length]?=some K:=⟨_,Fy (by rw[Q];exact b8)⟩;have⟨a1,jj,a5,a3,G⟩:=tw L t r;rw[k]at a5;simp at a5;subst a5;have a7:=KU.out;have b4:=HU.out;have b9:l.used<=1000000:=(by have:=KF.out;omega);have⟨OF,DR,Y,a6,b0,a2⟩:=Qh (λV(T:Sh B x cf l V)g(hr:RowV V g 3 (Ns .i64 [0,3]))=>yC B x cf l c p (some (Qz g 0)) 2 2 [0,3] V T (.inr ⟨g,rfl,hr⟩) rfl ar Z) (λV(T:Sh B x cf l V)=>oQ B x cf l (freeS l c p).length V T Z Z b9 HD.1 HD.2) (show(Zn (jc l c p [0,3] 1062))[dr cf l (freeS l c p).length]?=some (I K) by simp[Zn,r]) G F A;have y:=i;rw[Q]at OF;generalize du cf l c p=j at*;generalize dr cf l (freeS l c p).length=dd at*;generalize c0:(freeS l c p).length=fl at*;clear k A F j1 w O a0 Q r G a3 RM KI c0 a7 b4 M BQ d1 d2;go_wp2_with fail;refine(FR _).mono ?_;rintro e P⟨g,rfl,i,u⟩;have⟨S2,B2,L2⟩:=Qe (S1.below u) (S1.bkB B1 q u) (Fx L1 u.size);have C2:=H (OF _ S2 g i);clear u i S1 B1;go_wp2_with fail;refine C2.mono ?_;rintro e V2⟨v,rfl,i,N⟩;have⟨S3,B3,F⟩:=Qe (S2.below N) (S2.bkB B2 q N) (Fx L2 N.size);obtain⟨va,vc,rfl⟩:=aK i;obtain⟨G,rfl⟩:=cr i X;have k:=H i;clear i N;go_wp2_with fail;refine(DR _ S3).mono ?_;rintro e V3⟨rfl,A,i⟩;have cK:V3.cell? (Qz G dd)=some (I K):=bC (ai k (Ky.grown S3.box rfl i) ar) dd _ Y;have⟨S4,B4⟩:=y7 A (S3.bkP B3 q i);clear A i;obtain⟨h4,A⟩:∃h4:Hs,h4={l with used:=l.used+1}:=⟨_,rfl⟩;rw[<-A]at S4;have⟨SZ,Y⟩:=y7 (λV=>wN c V L) (show∀k,k<cy c->isOpen (l.m ((bh c p j+k)/1024))=true from λk b4=>J1.openS L t a2 a9 b4);have i:=ca L t a2;have a7:=H A;have⟨a,ha⟩:=Qa (bh c p j);have⟨zz,F⟩:=Qa (cy c);have HA:=H (show gt K=a by unfold gt;rw[a6];exact ha);rw[ha]at y Y i;rw[F]at y SZ Y i hz;have c3:=hz.1;have c4:=hz.2.1;have c5:a+zz<191488:=i.2.2;clear A ha F hz i;go_wp2;go_loopw [10,11] (λb i wq=>∃k:Nat,k<=zz/\i=I k/\b=.bool (clean l.m a k)/\Hid (Sh B x cf h4 wq)/\Hid (Bk B x.Q W wq)) (λ_ i _=>zz-(intOf i).toNat);(case atStart=>exact⟨0,FH _,rfl,rfl,S4,B4⟩);case round=>
     clear S4 B4 cK;obtain⟨k,b4,rfl,rfl,S4,B4⟩:=hrel;go_wp2_with fail;refine(SZ _).mono ?_;rintro e V5⟨rfl,A⟩;have⟨F,B5⟩:=y7 (S4.below A) (S4.bkB B4 q A);clear A S4 B4;by_cases a4:k<zz
     ·have c0:(k:Int)<(zz:Int):=Z;have HC:=H (sk l.m a k);cases A:clean l.m a k
      ·have a0:=H (show clean l.m a (k+1)=false by rw[HC,A];rfl);clear A;go_wp2;refine rh (S:=λ_=>True) ?_;have d:True:=trivial;refine pk 0 Qk d ?_;refine pk 1 Qk d ?_;refine ps 2 d ?_;refine ps 3 d ?_;refine ps 4 d ?_;refine ps 5 d ?_;refine ps 6 d ?_;refine ps 7 d ?_;refine ps 8 d ?_;refine ps 9 d ?_;refine ps 10 d ?_;refine ps 11 d ?_;refine ps 12 d ?_;refine ps 13 d ?_;refine ps 14 d ?_;refine ps 15 d ?_;refine ps 16 d ?_;refine ps 17 d ?_;refine ps 18 d ?_;refine pz 19 Qk d ?_;refine pk 20 Qk d ?_;refine bY ?_;have⟨S6,B6⟩:=y7 (F.below (Fu _ _).drew) (F.bkB B5 q (Fu _ _).drew);go_wp2;go_roundw;(case rel=>exact⟨k+1,Z,aY,by rw[a0],S6,B6⟩);case measure=>exact QE
      have R:V5.cell? (Qz x.P 6)=some (J x.T 0):=F.cell 6 _ rfl;have c7:V5.cell? (Qz x.P 7)=some (Vl x.G 1062 x.gc):=F.cell 7 _ rfl;have d3:=(F.slot a1).2.2.2.1;rw[HA]at d3;have a3:=Y.out k a4;have GC:Hid (∀P,D V5 P->QA 129 #[J x.T 0,U (IntKind.u64.wrap ((a:Int)+IntKind.u64.wrap (k:Int)))] P λe w'=>e=QJ (.int .u8 (bO l.m (a+k)))/\w'=P):=(λP b=>by
       rw[dX (k:Int) Z Z,dX _ Z Z];have:=(F.below b).sp;rw[a7]at this;exact kT x.T x.Q 283 (cf.bud:Nat) l.m (a+k) P this Z Z a3)
      rw[A,Bool.true_and]at HC;clear A a3;generalize bO l.m (a+k)=bt at*;by_cases a3:bt=0
      ·have a0:=H (show clean l.m a (k+1)=true by rw[HC,a3];rfl);subst a3;go_wp2;refine rh (S:=λW'=>QG W' x.P 6 (J x.T 0)/\QG W' x.P 7 (Vl x.G 1062 x.gc)/\QG W' x.G (K*6+3) (U a)) ?_;have d:=(show _/\_/\_ from⟨R,c7,d3⟩);refine pk 0 Ql d ?_;refine pk 1 Ql d ?_;refine pk 2 (J x.P 0) d ?_;refine pk 3 (J x.P 0) d ?_;refine pk 4 (J x.P 6) d ?_;refine pz 5 (J x.T 0) d ?_;refine pk 6 (J x.P 0) d ?_;refine pk 7 (J x.P 0) d ?_;refine pk 8 (J x.P 7) d ?_;refine pz 9 (Vl x.G 1062 x.gc) d ?_;refine pk 10 (I K) d ?_;refine pz 11 (J x.G (K*6)) d ?_;refine pk 12 (J x.G (K*6+3)) d ?_;refine pz 13 (U a) d ?_;refine pk 14 (I k) d ?_;refine pz 15 (U (IntKind.u64.wrap (k:Int))) d ?_;refine pz 16 (U (IntKind.u64.wrap ((a:Int)+IntKind.u64.wrap (k:Int)))) d ?_;refine po 17 λK' r=>?_;go_simp;refine(GC _ ((Fu _ _).drew)).mono ?_;rintro e P⟨rfl,rfl⟩;refine r _ _ ⟨d,?_⟩;clear r K';refine pz 18 Ql d ?_;refine pz 19 Ql d ?_;refine pk 20 Ql d ?_;refine bY ?_;clear d;have⟨S6,B6⟩:=y7 (F.below (Fu _ _).drew) (F.bkB B5 q (Fu _ _).drew);go_wp2;go_roundw
       (case rel=>exact⟨k+1,Z,aY,by rw[a0],S6,B6⟩);case measure=>exact QE
      have a0:=H (show clean l.m a (k+1)=false by rw[HC];simpa using a3);have c1:(bt==0)=false:=(by simpa using a3);go_wp2;refine rh (S:=λW'=>QG W' x.P 6 (J x.T 0)/\QG W' x.P 7 (Vl x.G 1062 x.gc)/\QG W' x.G (K*6+3) (U a)) ?_;have d:=(show _/\_/\_ from⟨R,c7,d3⟩);refine pk 0 Ql d ?_;refine pk 1 Ql d ?_;refine pk 2 (J x.P 0) d ?_;refine pk 3 (J x.P 0) d ?_;refine pk 4 (J x.P 6) d ?_;refine pz 5 (J x.T 0) d ?_;refine pk 6 (J x.P 0) d ?_;refine pk 7 (J x.P 0) d ?_;refine pk 8 (J x.P 7) d ?_;refine pz 9 (Vl x.G 1062 x.gc) d ?_;refine pk 10 (I K) d ?_;refine pz 11 (J x.G (K*6)) d ?_;refine pk 12 (J x.G (K*6+3)) d ?_;refine pz 13 (U a) d ?_;refine pk 14 (I k) d ?_;refine pz 15 (U (IntKind.u64.wrap (k:Int))) d ?_;refine pz 16 (U (IntKind.u64.wrap ((a:Int)+IntKind.u64.wrap (k:Int)))) d ?_;refine po 17 λK' r=>?_;go_simp;refine(GC _ ((Fu _ _).drew)).mono ?_;rintro e P⟨rfl,rfl⟩;refine r _ _ ⟨d,?_⟩;clear r K';refine pz 18 Qk d ?_;refine pz 19 Qk d ?_;refine pk 20 Qk d ?_;refine bY ?_;clear d;have⟨S6,B6⟩:=y7 (F.below (Fu _ _).drew) (F.bkB B5 q (Fu _ _).drew);go_wp2;go_roundw
      (case rel=>exact⟨k+1,Z,aY,by rw[a0],S6,B6⟩);case measure=>exact QE
     obtain rfl:k=zz:=Z;cases A:clean l.m a k
     ·have a0:=H (show bN cf c f {l with used:=l.used+1,st:=aE l.st c p j 4}=z by
       have:=y.out;rw[GO (by rw[A];decide)]at this;exact this)
      have c7:V5.cell? (Qz x.P 7)=some (Vl x.G 1062 x.gc):=F.cell 7 _ rfl;have d4:=(F.slot a1).2.2.2.2.1;have f4:=F.slotF (K*6+4);have c0:=H (show B<=x.G by
       rcases F.sl.2 with⟨e,_⟩|⟨g,a3,c1,e,hg,_⟩;·simp at e
       simp at e;omega)
      have S6:=H (show Sh B x cf {l with used:=l.used+1,st:=aE l.st c p j 4} (V5.setCell (Qz x.G (K*6+4)) (I 4)) by
       have:=F.setSt a1 4;rw[a6,a7]at this;exact this)
      have⟨B6,I6⟩:=y7 (F.bkG B5 q (K*6+4) (I 4)) (show Inv cf {l with used:=l.used+1,st:=aE l.st c p j 4}from(J1.used (l.used+1)).retire L t a2 b0 a9);have F6:=H (show dy {l with used:=l.used+1,st:=aE l.st c p j 4} c 6<f by
       have q1:=(jE (h:=l) (s:=p) a2 b0 6).2 t;have q2:dy {l with used:=l.used+1,st:=aE l.st c p j 4} c 6=dy {l with st:=aE l.st c p j 4} c 6:=rfl;have q3:dy l c 6=dy o c 6:=mT b7 c 6;have q4:=KF.out;have q5:=KG.out;omega)
      have U6:=H (show l.used+1+f<=h.used+2000 by
       have q1:=KU.out;have q5:=KG.out;omega)
      generalize dC h4 K=z4 at d4;clear A y;go_wp2
      go_roundg f
      (case rel=>exact⟨_,a0,F6,S6,I6,B6,U6⟩);case measure=>have:=KG.out;omega
     have a0:=H (show z=(some (p,j),{l with used:=l.used+1}) by
      have:=y.out;rw[GP A]at this;exact this.symm)
     clear A y Y SZ;go_wp2;go_ret;rw[a0];exact⟨(K:Int),rfl,a7.out▸F.out,B5,K,rfl,a1,a6⟩
def jP(a:An4)(v:Value):Value:=.agg #[I a.code,U a.addr,I a.size,v]
def mQ:Option Nat->An4
 |none=>.no 1
 |some q=>⟨0,q,0,[]⟩
structure mE(cf:Cf):Prop where
 len:cf.ds.length<=20000
 wf:∀d∈cf.ds,(Lit.int .i64 d).wf=true
 key0:0<=cf.key
 key1:cf.key<18446744073709551616
 mix:cf.mix<=16
 fifo1:1<=cf.fifo
 fifo:cf.fifo<=32
 large:cf.large<=16
 bud:cf.bud<=283
theorem jI{m:Nat->Option (Bool×List Int)}{a:Nat}(c:1<=n)(d:n<=4096)(e:a+n<=1000000)(b:∀k,k<n->isOpen (m ((a+k)/1024))=true):ci m a (n:Int)=0:=by
 unfold ci;rw[GO Z,GO Z,GO Z,F0,jX b];rfl
theorem Av(a:Nat)(W:QM)(ha:a<=1016):QA 121 #[U a] W λe W'=>e=QJ (I (fD a:Nat))/\D W W':=by
 refine(sJ (a:Int) Z Z W).mono ?_;rintro e W'⟨rfl,b⟩;exact⟨cX (zO ha).1,b⟩
theorem Bk.at(k:Bk B Q W W'){g:Nat}{c:Array QN}{f:Nat×Nat}(a:W.heap[g]?=some (.cells c t f))(b:¬hT t):W'.heap[g]?=some (.cells c t f):=k.ky.cells g c t f a b
theorem eB(h:t≠106/\t≠109/\t≠113/\t≠115/\t≠27/\t≠179/\t≠5):¬hT t:=by
 intro e;rcases e with e|e|e|e|e|e|e;·exact h.1 e
 ·exact h.2.1 e
 ·exact h.2.2.1 e
 ·exact h.2.2.2.1 e
 ·exact h.2.2.2.2.1 e
 ·exact h.2.2.2.2.2.1 e
 exact h.2.2.2.2.2.2 e
theorem Bk.loc{R:Nat}{W0}(k:Bk B Q W0 W)(b:W.grownBy W' (some R))(l:W0.heap.size<=R)(i:Q<W0.heap.size)(m:B<=W0.heap.size):Bk B Q W0 W':=by
 have n:=k.bel.size;have d:∀g,g<W0.heap.size->W'.heap[g]?=W.heap[g]?:=λg j=>b.block g Z bG
 refine⟨k.bel.grown b Z (λr a=>by simp at a;omega),⟨b.os.trans k.ky.os,b.tape.trans k.ky.tape,b.output.trans k.ky.output,Fx k.ky.size b.size,λg c t f a e=>by rw[d g (ag a)];exact k.ky.cells g c t f a e⟩,λg c f a e=>by rw[d g (ag a)];exact k.by5 g c f a e,λg a=>k.pg g (cV (d Q i) a)⟩
theorem Sh.kyO{t:Nat}(a:Sh B x cf h W)(k:Ky (· =t) W W')(d:t=46\/t=48\/t=172):Sh B x cf h W':=by
 rcases d with rfl|rfl|rfl
 all_goals exact⟨k.cells _ _ _ _ a.box ar,a.bp,a.bq,λg e=>a.bg g (cV (a.sp.qEq k ar) e),a.ds.ky k ar,a.sp.ky k ar ar ar,ai a.sl k ar,ai a.wt k ar,λc b=>⟨(a.wm c b).1.ky k ar,(a.wm c b).2.ky k ar⟩,ai a.rg k ar,ai a.ro k ar,ai a.rl k ar⟩
theorem Sh.off81{R:Nat}{c:Array QN}(b:Sh B x cf h W)(d:W.heap[R]?=some (.cells c 46))(a:Array QN):Sh B x cf h (W.setRow R a):=b.kyO (Ky.grown d rfl (aj W R a)) (.inl rfl)
def A4(cf:Cf)(c a:Nat):Option (Nat×Nat)×Hs->Option Nat×Hs
 |(none,e)=>(none,e)
 |(some (s,j),e)=>(some (bh c s j),{e with st:=aE e.st c s j 1,rq:=aE e.rq c s j a,m:=ay e.m (bh c s j+eV c) (can cf (bh c s j)) 8})
theorem iP(cf h){a:Nat}(ha:a<=1016):av cf h a=A4 cf (fD a) a (bN cf (fD a) 2000 h):=by
 unfold av A4;rw[GP ha];rfl
theorem qz(B x cf h)(a:Nat)(W)(f:Sh B x cf h W)(hB:B<=W.heap.size)(n:Inv cf h)(hu:h.used+2000<=1000000)(g:mE cf)(ha:a<=1016):
  QA 72 #[J x.P 0,U a] W λe W'=>e=QJ (jP (mQ (av cf h a).1) (C))/\Sh B x cf (av cf h a).2 W'/\Bk B x.Q W W':=by
 have⟨G,a1⟩:=jf ha;have r:=H (λV=>Av a V ha);have hz:=aX G;have⟨o,_⟩:=Inv.small G 2000 n;have⟨y,b⟩:=Qa (bN cf (fD a) 2000 h);have HM:=H (show av cf h a=A4 cf (fD a) a y by rw[<-b];exact iP cf h ha);have q:=H (λV(O:Sh B x cf h V)(c:B<=V.heap.size)=>xf B x cf h (fD a) V O c n G hu g.len g.wf);rw[b]at o;simp only[b]at q;have P:=H o;have t:=H hB;have HD:=H g;have a9:(a:Int)<=1016:=Z;generalize fD a=c at*;have A:D W (W.alloc (.cells #[I 0,U 0,I 0,C] 46)):=(Fu _ _).alloc (Fv _) _;have j:=H (f.below A);have p:=H (f.bkB (Bk.refl _ _ _) hB A);have l:=H (ao W (.cells #[I 0,U 0,I 0,C] 46));have⟨i,d⟩:=Qa (av cf h a);rw[d];have T:=H d;have s:=f.ltQ;clear f b o n g A d;go_enter func72,ntmps72;go_wp2_with fail;generalize W.alloc _=V at j p l⊢;have⟨R,b⟩:=Qb W.heap.size;rw[<-b]at l⊢;have HR:=H b;have HQ:=H s;clear b s;refine(r _).mono ?_;rintro e V1⟨rfl,b⟩;have f:=H (j.below b);have d:=H (j.bkB p t b);have g:=H (ae l b);clear b j p l r;go_wp2_with fail;refine(q _ f (Fx t d.bel.size)).mono ?_;rintro e p⟨K,rfl,j,b,L⟩;have z:=H j;have B2:=H (d.trans b);have X:=H (b.at g (eB ar));clear j b f d g q;have⟨o,b⟩:=y;cases o with
 |none=>
  have w:K = -1:=L;subst w;have HE:=H (show i=(none,b) by rw[<-T.out,HM];rfl);clear L HM;go_wp2_with (refine eG X ?_);refine fM (aw X _) underlying46 ?_;rw[HE];exact⟨rfl,z.off81 X _,B2.loc (aj p R _) (by rw[HR];exact Fv _) HQ t⟩
 | some q=>
  have⟨s,j⟩:=q;obtain⟨k,rfl,hk,f⟩:∃k:Nat,K=(k:Int)/\k<1062/\sA k=(c,s,j):=L;have⟨M,hj,d,_,_,_⟩:=P.some s j rfl;have a2:=ca G M hj;have I1:=H P.inv;dsimp only at z;have HE:=H (show i=(some (bh c s j),{b with st:=aE b.st c s j 1,rq:=aE b.rq c s j a,m:=ay b.m (bh c s j+eV c) (can cf (bh c s j)) 8}) by rw[<-T.out,HM];rfl);have b0:¬((k:Int)<0):=Z;have b3:=H f;have n:=H (show Sh B x cf {b with st:=aE b.st c s j 1} (p.setCell (Qz x.G (k*6+4)) (I 1)) by
   have:=z.setSt hk 1;rw[f]at this;exact this)
  have B3:=H (z.bkG B2 t (k*6+4) (I 1));have c7:p.cell? (Qz x.P 7)=some (Vl x.G 1062 x.gc):=z.cell 7 _ rfl;have d4:=(z.slot hk).2.2.2.2.1;have f4:=z.slotF (k*6+4);have Q:=H (show Sh B x cf {b with st:=aE b.st c s j 1,rq:=aE b.rq c s j a} ((p.setCell (Qz x.G (k*6+4)) (I 1)).setCell (Qz x.G (k*6+5)) (I a)) by
   have:=n.setRq hk (a:Nat);rw[f]at this;exact this)
  have Y:=H (n.bkG B3 t (k*6+5) (I a));have a3:(p.setCell (Qz x.G (k*6+4)) (I 1)).cell? (Qz x.P 7)=some (Vl x.G 1062 x.gc):=n.cell 7 _ rfl;have a4:=(n.slot hk).2.2.2.2.2;have f53:=n.slotF (k*6+5);have a5:((p.setCell (Qz x.G (k*6+4)) (I 1)).setCell (Qz x.G (k*6+5)) (I a)).cell? (Qz x.P 7)=some (Vl x.G 1062 x.gc):=Q.cell 7 _ rfl;have⟨e0,e1,e2,e3,e4,e5⟩:=Q.slot hk;have eA:gt k=bh c s j:=by unfold gt;rw[f]
  have eS:dC {b with st:=aE b.st c s j 1,rq:=aE b.rq c s j a} k=1:=by unfold dC;rw[f];exact aS _ _ _ _ _
  have eR:fJ {b with st:=aE b.st c s j 1,rq:=aE b.rq c s j a} k=(a:Nat):=by unfold fJ;rw[f];exact aS _ _ _ _ _
  rw[eA]at e3;rw[eS]at e4;rw[eR]at e5;rw[f]at e0 e1 e2;have I4:=H (show Inv cf {b with st:=aE b.st c s j 1,rq:=aE b.rq c s j a}from by
   have g:=(P.some s j rfl).2.2.2.1;rw[jL]at g;exact P.inv.setSt G M hj 1 (a:Int) Z Z Z (by dsimp only at g⊢;omega) (.inr d) (λ_=>⟨Z,Z⟩) (λe=>absurd rfl e))
  have N:Hid (∀i,i<8->isOpen (b.m ((bh c s j+eV c+i)/1024))=true):=(λi f=>by
   have:=P.inv.openS (k:=eV c+i) G M hj d Z;rw[H_];exact this)
  have CC:=H (λV f g i l=>nP c (bh c s j) f g i l V G Z);have CS:=H (λV=>rO cf.key ((bh c s j:Nat):Int) V HD.key0 HD.key1 Z Z);have a6:eV c+8<=cy c:=Z;have a0:Hid (can cf (bh c s j)=gI (cx cf.key ((bh c s j:Nat):Int))):=rfl;have⟨r,a7⟩:=Qa (bh c s j);have⟨u,a8⟩:=Qa (eV c);rw[a7]at e3 N CC CS HE a2 a0;rw[a8]at N CC HE a6;have b4:r+u+8<=191488:=Z;have ST:=H (λV f g(O:Sx x.T x.Q 283 (cf.bud:Nat) b.m V)(hD:Dt x.Q V (some (Qz g 0)) 8 (gI (cx cf.key (r:Int))))=>qR x.T x.Q 283 (cf.bud:Nat) b.m (r+u) 8 f (some (Qz g 0)) _ V O hD Z Z 0 (jI Z Z Z N));have X4:=H (show((p.setCell (Qz x.G (k*6+4)) (I 1)).setCell (Qz x.G (k*6+5)) (I a)).heap[R]?=some (.cells #[I 0,U 0,I 0,C] 46) by
   have⟨c2,l⟩:=di z.sl;have⟨c3,F⟩:=di n.sl;exact(Ky.grown F rfl (au (al _ x.G) _ _):Ky (· =109) _ _).cells _ _ _ _ ((Ky.grown l rfl (au (al _ x.G) _ _):Ky (· =109) _ _).cells _ _ _ _ X ar) ar)
  clear I1 P HM a1 hz d eA eS eR;have hv:((p.setCell (Qz x.G (k*6+4)) (I 1)).setCell (Qz x.G (k*6+5)) (I a)).heap.size=p.heap.size:=by simp[World.setCell]
  have HV:=H hv;clear hv;go_wp2;generalize (p.setCell (Qz x.G (k*6+4)) (I 1)).setCell (Qz x.G (k*6+5)) (I a)=V4 at Q Y X4 HV⊢;have A:D V4 (V4.alloc (.cells #[I c,I s,I j,U r,I 1,I a] 109)):=(Fu _ _).alloc (Fv _) _;have F:=H (ao V4 (.cells #[I c,I s,I j,U r,I 1,I a] 109));have l:=H (Q.below A);have B5:=H (Q.bkB Y t A);have X5:=H (ae X4 A);clear A e0 e1 e2 e3 e4 e5 c7 d4 f4 a3 a4 f53 a5 z n Q B2 B3 Y X X4;generalize V4.alloc _=V5 at l B5 X5 F⊢;rw[HV]at F;generalize p.heap.size=Y at F⊢;have SS:Hid (∀(V:QM){b:Hs},Sh B x cf b V->V.heap[Y]?=some (.cells #[I c,I s,I j,U r,I 1,I a] 109)->V.cell? (Qz x.P 6)=some (J x.T 0)/\V.cell? (Qz x.P 4)=some (U cf.key)/\V.cell? (Qz Y 0)=some (I c)/\V.cell? (Qz Y 1)=some (I s)/\V.cell? (Qz Y 2)=some (I j)/\V.cell? (Qz Y 3)=some (U r)/\V.cell? (Qz Y 4)=some (I 1)/\V.cell? (Qz Y 5)=some (I a)):=(λV b O b=>
   ⟨O.cell 6 _ rfl,O.cell 4 _ rfl,by simp[QC,b],by simp[QC,b],by simp[QC,b],by simp[QC,b],by simp[QC,b],by simp[QC,b]⟩)
  refine rh (S:=λW'=>W'.cell? (Qz x.P 6)=some (J x.T 0)/\W'.cell? (Qz x.P 4)=some (U cf.key)/\W'.cell? (Qz Y 0)=some (I c)/\W'.cell? (Qz Y 1)=some (I s)/\W'.cell? (Qz Y 2)=some (I j)/\W'.cell? (Qz Y 3)=some (U r)/\W'.cell? (Qz Y 4)=some (I 1)/\W'.cell? (Qz Y 5)=some (I a)) ?_;have d:=SS.out _ (l.below (Fu _ _).drew) F;iterate 5 (refine py d ?_;simp only[f0,f1,Nat.reduceAdd,lz,l0,ls])
  refine pk 6 (J x.P 0) d ?_;refine pk 7 (J x.P 0) d ?_;refine pk 8 (J x.P 0) d ?_;refine pk 9 (J x.P 4) d ?_;refine pz 10 (U cf.key) d ?_;refine pk 11 (J Y 3) d ?_;refine pz 12 (U r) d ?_;refine po 5 λK' w=>?_;go_simp;refine(CC _ _ _ _ _).mono ?_;rintro e V6⟨rfl,Q⟩;have k6:D V5 V6:=⟨Q.os,Q.tape,Q.output,Q.size,Q.block⟩;have h6:=SS.out _ (l.below k6) (ae F k6);refine w _ _ ⟨h6,?_⟩;clear d;have d:=h6;clear w K';refine po 13 λK' w=>?_
  go_simp;refine(CS _).mono ?_;rintro e V7⟨v,rfl,o7,b7⟩;obtain⟨va,vc,rfl⟩:=aK o7;obtain⟨g,rfl⟩:=cr o7 Z;have n:=az k6 b7;have h7:=SS.out _ (l.below n) (ae F n);refine w _ _ ⟨h7,?_⟩;clear d;have d:=h7;clear w K';refine po 14 λK' w=>?_;go_simp;refine(ST _ vc g (l.below n).sp (Dt.own (l.below k6).sp b7 (dK _) o7)).mono ?_;rintro e V8⟨rfl,x8,f8⟩;have S8:=H ((l.below n).space (Fx (Fx t B5.bel.size) n.size) _ x8 f8);have B8:=H ((l.below n).bkS (l.bkB B5 t n) t f8);have Y8:=H ((f8.ky (l.below n).sp).cells _ _ _ _ (ae F n) ar);have X8:=H ((f8.ky (l.below n).sp).cells _ _ _ _ (ae X5 n) ar);have h8:=SS.out _ S8 Y8;refine w _ _ ⟨h8,?_⟩;clear d;have d:=h8;clear w K';refine bY ?_;have y3:=d.2.2.2.2.2.1;clear d h6 h7 h8 k6 n Q b7 o7 x8 f8 SS ST CS CC l B5 X5 F;go_wp2_with (refine eG X8 ?_);refine fM (aw X8 _) underlying46 ?_;rw[HE];refine⟨rfl,S8.off81 X8 _,B8.loc (aj V8 R _) (by rw[HR];exact Fv _) HQ t⟩
theorem fq{P:Program}{b:Array Oper}{Q:Exit->Act->QM->Prop}{i:Nat}{o:Oper}{K:Act->QM->Prop}{a:Act}{w:QM}(j:b[i]?=some o)(c:o.guard=none)(s x:Operand)
  (k:o.op=.call {callee:=.builtin .append,args:=#[s,x],argTypes:=#[t,t]}) (l:o.type=t) {e f:QN} {g:QM} (m:a.eval s=v) (n:a.eval x=e)
  (p:(Builtin.append_ #[t,t] t #[v,e]).run P w=.ok f g) (q:K (a.put o.dst f) g):wpOp P b Q i K a w:=by
 refine fO j (by simp[Region.wanted,c]) (λK' d=>?_);unfold Oper.wp;simp[execOp,k,l,resolve,invoke,builtin,m,n,p,Result.andThen];exact d _ _ q
theorem Sh.books(d:Sh B x cf h W)(k:Ky (λt=>t=106\/t=115\/t=27) W W')(f i j:QN)(e:List Rg9)(a b:List Nat)
  (m:W'.heap[x.P]?=some (.cells (fN cf {x with rv:=f,ov:=i,lv:=j} h.used) 106)) (n:W'.ownsRow B 115 6 f e.length (eM e)) (o:W'.ownsRow B 27 1 i a.length (Us a)) (p:W'.ownsRow B 27 1 j b.length (Us b)):
  Sh B {x with rv:=f,ov:=i,lv:=j} cf {h with rg:=e,row:=a,rel:=b} W':=
 ⟨m,d.bp,d.bq,λg q=>d.bg g (cV (d.sp.qEq k ar) q),d.ds.ky k ar,d.sp.ky k ar ar ar,ai d.sl k ar,ai d.wt k ar,λc l=>⟨(d.wm c l).1.ky k ar,(d.wm c l).2.ky k ar⟩,n,o,p⟩
def l_(x:Sm):Prop:=∀g,x.ov.ownBlock=some g->x.lv.ownBlock≠some g
theorem aF{e:QO}{sz:Nat}{c:List QN}(h:W.ownsRow B e sz v n c){g:Nat}(a:v.ownBlock=some g):B<=g/\∃c,W.heap[g]?=some (.cells c e):=by
 rcases h.2 with⟨rfl,j⟩|⟨k,d,b,rfl,f,i,_⟩;·simp[Value.ownBlock]at a
 simp[Value.ownBlock]at a;subst a;exact⟨f,b,i⟩
theorem lH{e:QO}{sz:Nat}{i:List QN}(h:W.ownsRow B e sz v n i)(j:W.grownBy W' r)(b:∀g,v.ownBlock=some g->r≠some g):W'.ownsRow B e sz v n i:=by
 refine⟨h.1,?_⟩;rcases h.2 with a|⟨c,d,f,rfl,g,a,k⟩;·exact .inl a
 refine .inr ⟨c,d,f,rfl,g,?_,k⟩;rw[j.block c (ag a) (λe=>b c rfl e.symm)];exact a
theorem Ky.grownO{S:QO->Prop}(i:∀P,r=some P->∃c t f,W.heap[P]?=some (.cells c t f)/\S t)(b:W.grownBy W' r):Ky S W W':=by
 refine⟨b.os,b.tape,b.output,b.size,λg l m n a j=>?_⟩;rw[b.block g (ag a) (λe=>?_)];·exact a
 have⟨c,t,f,d,k⟩:=i g e.symm;rw[a]at d;simp at d;exact j (d.2.1▸k)
theorem Bk.ofGrownO{n:Array QN}{o:Nat×Nat}(d:∀P,r=some P->B<=P/\∃c t f,W.heap[P]?=some (.cells c t f)/\hT t/\t≠5/\t≠179)(m:W.heap[Q]?=some (.cells n 179 o))(j:B<=W.heap.size)(i:W.grownBy W' r):Bk B Q W W':=by
 have k:some Q≠r:=λe=>by
  have⟨_,c,t,f,b,_,_,a⟩:=d Q e.symm;rw[m]at b;simp at b;exact a b.2.1.symm
 refine⟨(Fu B W).grown i j (λP l=>(d P l).1),Ky.grownO (λP l=>?_) i,λg q s a _=>?_,λg a=>.inl (cV (i.block Q (ag m) k) a)⟩;·have⟨_,c,t,f,b,p,_⟩:=d P l;exact⟨c,t,f,b,p⟩
 rw[i.block g (ag a) (λe=>?_)];·exact a
 have⟨_,c,t,f,b,_,p,_⟩:=d g e.symm;rw[a]at b;simp at b;exact p b.2.1.symm
theorem Sh.boxSet(a:Sh B x cf h W)(i:Nat)(v:QN):(W.setCell (Qz x.P i) v).heap[x.P]?=some (.cells ((fN cf x h.used).setIfInBounds i v) 106):=by
 simp[World.setCell,FD,a.box]
theorem Sh.boxF(a:Sh B x cf h W)(i:Nat):W.frozen? (Qz x.P i)=false:=by simp[QD,a.box]
end
end Go.Proofs.YtdhegekcmmlohaaGreatDoor
