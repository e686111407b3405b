import Derived.Test.YtdfodlhkdmkfdaaGreatDoorN14
set_option linter.unusedVariables false
set_option linter.unusedSimpArgs false
set_option maxRecDepth 20000
set_option maxHeartbeats 8000000
namespace Go.Proofs.YtdfodlhkdmkfdaaGreatDoor
open Go.Proofs.Tryz
variable {w:World} {a c j k n p q s:Nat} {h:Hs} {cf:Cf}
section
open Go.ChangeShapes Go.WideShapes Go.ChangeAt Go.RowKit
theorem Ow.mono {b:Nat} {b' a zs} (h:Ow w b' a c zs) (k:b<=b'):Ow w b a c zs:=by
 refine⟨h.1,?_⟩;rcases h.2 with i|⟨g,d,f,e,l,j⟩;·exact .inl i
 exact .inr ⟨g,d,f,e,Z,j⟩
theorem dF {c:Array Oper} {b:List Oper} {o:Oper} {a:Act} {Q:Exit->Act->World->Prop} (d:o.guard=none) (s x:Operand)
  (i:o.op=.call { callee:=.builtin .append,args:=#[s,x],argTypes:=#[23,23] }) (j:o.type=23) {v e f:Value} {g:World} (k:a.eval s=v) (l:a.eval x=e)
  (m:(Builtin.append_ #[23,23] 23 #[v,e]).run prog w=.ok f g) (h:wpList prog c Q b (a.put o.dst f) g):wpList prog c Q (o::b) a w:=by
 refine Lf d λK n=>?_;unfold Oper.wp;simp [execOp,i,j,resolve,invoke,builtin,k,l,m,Result.andThen];exact n _ _ h
def je (mix:List Int) (i:Nat) (x:Int) (k:Nat):Int:=if i<k then mix[i]?.getD 0 else x
theorem xy (am b cm af lf) (cf n:Nat) (mix fifo) (x:Int) (d w) (h:Wt w am b af lf mix fifo) (a8:af=none->cf=0) (f:fg mix fifo (n:Nat)=true) (hx:0<=x) :
  Calls prog 146 #[wv am b cm af lf cf (n:Nat),I x,I d] w λe w'=>Ft w n (eH n mix fifo x d).1 (eH n mix fifo x d).2.1 (eH n mix fifo x d).2.2 e w':=by
 obtain⟨i,j⟩:∃ i,i=md d b:=⟨_,rfl⟩;have g:=H (mQ w (.cells #[.slice am b cm,.slice af lf cf,I n] 104) (.cells #[C,C,I 0] 104));have l:=H (wL am b cm af lf cf (n:Nat) mix fifo _ (h.below g.2.2));rw [f] at l;obtain⟨g1,g2,g3,g4⟩:=uZ f;rw [h.ml] at g1;rw [h.fl] at g4;have LM:=H (λW (P:0<b)=>oe d b W P Z);rw [<-j] at LM;have HI:=H (show 0<b->i<b from λP=>j▸ru d b P);have CM:=H (λW (hW:D w W)=>(h.m.below hW).cells);have GS:=H (λW (hW:D w W)=>(h.f.below hW).srcs);have ML:=H h.ml;have M:=H h.fl;have b7:¬(x<0):=Z;have HW:=H (show eH n mix fifo x d=if b=0 then ([],(dx n fifo x).1,(dx n fifo x).2) else if mix[i]?.getD 0 = -1 then (mix.set i x,fifo,-1) else (mix.set i x,(dx n fifo (mix[i]?.getD 0)).1,(dx n fifo (mix[i]?.getD 0)).2) by
  unfold eH;rw [h.ml,<-j];by_cases L:b=0;·rw [tm L,tm (List.length_eq_zero_iff.1 (by rw [h.ml];exact L))]
  rw [tg L,tg (λe=>L (by rw [<-h.ml,e];rfl))])
 have NB:=H (show ∀ k,k<b -> -1<=mix[k]?.getD 0 by
  intro k hk;unfold fg at f;simp only [JY] at f;have:=f.2.2.2.2.1;unfold nb at this;rw [List.all_eq_true] at this;have m:k<mix.length:=by rw [h.ml];exact hk
  have o:=this (mix[k]) bh;simp [m] at o ⊢;exact o)
 unfold wv at l ⊢;clear h f j;go_enter func146,ntmps146;go_wp2_with fail;refine (l).mono ?_;rintro e Q ⟨rfl,f⟩;have m:=H (aB g.2.2 f);have j:=H (ae g.1 f);have o:=H (ae g.2.1 f);have S1:=H (show w.heap.size+1<Q.heap.size by have:=f.size;rw [df,df] at this;omega);clear f l g;have c2:Q.cell? ⟨w.heap.size,2,none⟩=some (I n):=aM j.out;have f:=H ((Jn _ Q).alloc (Jo _) (.cells #[C,C,I n] 104));have L0:=H (show Lp w w.heap.size Q.heap.size am b cm af lf cf n 0 none 0 (mix.set i x) (Q.alloc (.cells #[C,C,I n] 104)) from
  ⟨dI _ _,Ow.nil _ _,ae j f,ae o f,aB m f⟩)
 have c0:(Q.alloc (.cells #[C,C,I n] 104)).cell? ⟨w.heap.size,0,none⟩=some (.slice am b cm):=aM L0.s0;clear f j o m;go_wp2;generalize Q.heap.size=o at *;go_loopw [28,9] (λv y wr=>∃ (k:Nat) (a:Option Addr) (c:Nat),k<=b/\v=I k/\y=I (je mix i x k)/\Hid (Lp w w.heap.size o am b cm af lf cf n k a c (mix.set i x) wr)) (λv _ _=>b-(intOf v).toNat);case atStart=>exact ⟨0,none,0,Jt _,rfl,rfl,L0⟩
 case round =>
  obtain⟨k,a,c,hk,rfl,rfl,s⟩:=hrel;clear L0 c0;by_cases N:k<b
  ·obtain⟨g,rfl,R⟩:=CM.out _ s.b k (by rw [ML.out];exact N);have P:0<b:=Z;have G:=HI.out P;have S:wr.cell? ⟨w.heap.size,0,none⟩=some (Vl g b cm):=aM s.s0;have T:wr.cell? ⟨o,0,none⟩=some (.slice a k c):=aM s.ob;have f:=yv mix i k x (by rw [ML.out];exact N);by_cases l:k=i
   ·have r:((k:Int)==(i:Int))=true:=(by simp [l]);rw [tm l] at f;obtain⟨t,u,K,j,q,z,m⟩:=s.next rfl S1 (by rw [JU,ML.out]) N g1 x f
    have A:=H m;have F:=H (show mix[k]?.getD 0=je mix i x (k+1) by unfold je;rw [tm Z,l]);clear m f l;go_wp2_with fail;refine (LM _ P).mono ?_;rintro e O ⟨rfl,rfl⟩;go_wp2_with (at_builtin;refine dF rfl (.tmp 43) (.tmp 45) rfl rfl rfl rfl j ?_);go_roundw;(case rel=>exact ⟨k+1,t,u,Z,aR,by rw [<-F.out],A⟩);case measure=>simp [intOf];omega
   have r:((k:Int)==(i:Int))=false:=cd;rw [tg l] at f;obtain⟨t,u,K,j,q,z,m⟩:=s.next rfl S1 (by rw [JU,ML.out]) N g1 _ f
   have A:=H m;have F:=H (show je mix i x k=je mix i x (k+1) by
    unfold je;by_cases h:i<k;·rw [tm h,tm Z]
    rw [tg h,tg Z])
   clear m f l;generalize mix[k]?.getD 0=y at *;go_wp2_with fail;refine (LM _ P).mono ?_;rintro e O ⟨rfl,rfl⟩;go_wp2_with (at_builtin;refine dF rfl (.tmp 43) (.tmp 45) rfl rfl rfl rfl j ?_);go_roundw;(case rel=>exact ⟨k+1,t,u,Z,aR,by rw [<-F.out],A⟩);case measure=>simp [intOf];omega
  obtain rfl:b=k:=Z;have HY:=H (show -1<=je mix i x b/\(je mix i x b = -1->eH n mix fifo x d=(mix.set i x,fifo,-1))/\(0<=je mix i x b->eH n mix fifo x d=(mix.set i x,(dx n fifo (je mix i x b)).1,(dx n fifo (je mix i x b)).2)) by
   rw [HW.out];by_cases L:b=0
   ·have e:je mix i x b=x:=(by unfold je;rw [tg Z]);have f:mix=[]:=List.length_eq_zero_iff.1 (by rw [ML.out];exact L);rw [e,tm L,f];exact⟨Z,λh=>Z,λ_=>rfl⟩
   have e:je mix i x b=mix[i]?.getD 0:=(by unfold je;rw [tm (HI.out Z)]);have f:=NB.out i (HI Z);rw [e,tg L];refine⟨f,λh=>by rw [tm h],λh=>by rw [tg Z]⟩)
  clear HW NB HI LM CM;obtain⟨a2,c2,W2,j,r,l⟩:=mc wr wr.heap.size none 0 [] af lf cf fifo (Ow.nil _ _) M a8 (GS _ s.b) cd (Jo _);simp only [JO,JQ,JF] at j r;have f:=l.below (Jo _) (λ_ h=>h);have b8:wr.cell? ⟨w.heap.size,1,none⟩=some (.slice af lf cf):=aM s.s0;have R:(mix.set i x).length=b:=by rw [JU,ML.out]
  clear GS l;generalize je mix i x b=y at *;by_cases hy:y = -1
  ·have t:¬(0<=y):=Z;have HE:=H (HY.2.1 hy);have n2:W2.cell? ⟨w.heap.size,2,none⟩=some (I n):=(by rw [t6 _ _ _ _ _ _ (ae s.s0 f)];rfl);have a0:(lf:Int)<=(n:Int):=Z;obtain⟨m,q⟩:=s.fin rfl S1 R f r;rw [M.out] at q;obtain⟨p0,p1,p2,l,O⟩:=q _ (.inl rfl);have o1:W2.cell? ⟨o,1,none⟩=some (C):=aM m;have o2:W2.frozen? ⟨o,1,none⟩=false:=xg _ _ _ _ _ m;have P3:=H l;have P4:=H O;have d0:=(t6 _ _ 0 _ _ _ l).trans rfl;have d1:=(t6 _ _ 1 _ _ _ l).trans rfl;have d2:=(t6 _ _ 2 _ _ _ l).trans rfl;have f0:=xg _ _ 0 _ _ l;have f1:=xg _ _ 1 _ _ l;have f2:=xg _ _ 2 _ _ l;clear m q l O s r f HY;go_wp2_with (at_builtin;refine dF rfl (.const (C)) (.tmp 50) (by with_reducible rfl) rfl rfl rfl j ?_);refine wA (iA dC _ _ (w.heap.size+1) 104 _ (0,0) _ dC (set3 P3 _ _ _) underlying104 rfl E) dC ?_;rw [HE.out];exact P4 _ _ (.inl rfl)
  have a9:0<=y:=by have:=HY.1;omega
  have HE:=H (HY.2.2 a9);obtain⟨a3,c3,S,u,A,z⟩:=vJ W2 wr.heap.size a2 c2 fifo y r (by rw [M.out];omega) f.size;have t:D wr S:=f.trans (z.below f.size (λ_ h=>h));have T:(fifo++[y]).length=lf+1:=by rw [Jv,M.out];rfl
  rw [M.out] at u;have n2:S.cell? ⟨w.heap.size,2,none⟩=some (I n):=by rw [t6 _ _ _ _ _ _ (ae s.s0 t)];rfl
  clear r z f;by_cases a1:lf<n
  ·have a0:(lf:Int)+1<=(n:Int):=Z;have V:=H (show eH n mix fifo x d=(mix.set i x,fifo++[y],-1) by rw [HE.out];unfold dx;rw [tm (by rw [M.out];exact a1)]);obtain⟨m,q⟩:=s.fin rfl S1 R t A;rw [T] at q;obtain⟨p0,p1,p2,l,O⟩:=q _ (.inl rfl);have o1:S.cell? ⟨o,1,none⟩=some (C):=aM m;have o2:S.frozen? ⟨o,1,none⟩=false:=xg _ _ _ _ _ m;have P3:=H l;have P4:=H O;have d0:=(t6 _ _ 0 _ _ _ l).trans rfl;have d1:=(t6 _ _ 1 _ _ _ l).trans rfl;have d2:=(t6 _ _ 2 _ _ _ l).trans rfl;have f0:=xg _ _ 0 _ _ l;have f1:=xg _ _ 1 _ _ l;have f2:=xg _ _ 2 _ _ l;clear m q l O s t HY HE A T;go_wp2_with (at_builtin;first|refine dF rfl (.const (C)) (.tmp 50) (by with_reducible rfl) rfl rfl rfl j ?_|refine dF rfl (.tmp 54) (.tmp 56) (by with_reducible rfl) rfl rfl rfl u ?_);refine wA (iA dC _ _ (w.heap.size+1) 104 _ (0,0) _ dC (set3 P3 _ _ _) underlying104 rfl E) dC ?_;rw [V.out];exact P4 _ _ (.inl rfl)
  have a0:¬((lf:Int)+1<=(n:Int)):=Z;have V:=H (show eH n mix fifo x d=(mix.set i x,(fifo++[y]).drop 1,fifo[0]?.getD 0) by
   rw [HE.out];unfold dx;rw [tg (by rw [M.out];exact a1)];cases fifo with
   | nil=>have:=M.out;simp at this;omega
   | cons f r=>rfl)
  obtain⟨g,rfl,z⟩:∃ g,a3=some ⟨g,0,none⟩/\RowV S g 3 (Ns .i64 (fifo++[y])):=by
   rcases A.sl with ⟨_,L⟩|h;·simp at L
   exact h
  have F:=A.capge;rw [T] at F;obtain⟨dp,b0,a5⟩:=jc g 1 (lf+1) c3 Z F;simp only [Nat.add_sub_cancel] at b0;have b5:¬(c3=1):=Z;have a6:=a5 Z;subst a6;have b2:=A.base g rfl;have l1:((fifo++[y]).drop 1).length=lf:=by rw [List.length_drop,T];omega
  obtain⟨a4,c4,W4,G,X,Y⟩:=mc S S.heap.size none 0 [] (some ⟨g,1,none⟩) lf (c3-1) ((fifo++[y]).drop 1) (Ow.nil _ _) l1 bh (.inr ⟨_,rfl,by
   have:=nI z 1 lf (by rw [T];omega);rwa [JN Z] at this⟩) cd (Jo _)
  simp only [JO,JQ,JF] at G X;have a7:=t.trans (Y.below (B:=wr.heap.size) t.size (λk h=>Jp t.size h));have K:=z.below (Y.below (Jo _) (λ_ h=>h)) z.lt;obtain⟨m,q⟩:=s.fin rfl S1 R a7 (X.mono t.size);rw [l1] at q;obtain⟨p0,p1,p2,l,O⟩:=q _ (.inl rfl);have o1:W4.cell? ⟨o,1,none⟩=some (C):=aM m;have o2:W4.frozen? ⟨o,1,none⟩=false:=xg _ _ _ _ _ m;have b3:g≠o:=by have:=dO s.ob;omega
  have b4:g≠w.heap.size+1:=by have:=dO s.ob;have:=S1.out;omega
  have b6:w.heap.size+1≠g:=λe=>b4 e.symm
  have q0:(W4.setCell ⟨o,1,none⟩ (.slice a4 lf c4)).cell? ⟨g,0,none⟩=some (I (fifo[0]?.getD 0)):=by
   have:=dR (K.other (p:=⟨o,1,none⟩) b3 (.slice a4 lf c4)) 0 (by rw [T];omega);rw [this];congr 2;cases fifo with
   | nil=>have:=M.out;simp at this;omega
   | cons f r=>rfl
  have P3:=H l;have P4:=H O;have d0:=(t6 _ _ 0 _ _ _ l).trans rfl;have d1:=(t6 _ _ 1 _ _ _ l).trans rfl;have d2:=(t6 _ _ 2 _ _ _ l).trans rfl;have f0:=xg _ _ 0 _ _ l;have f1:=xg _ _ 1 _ _ l;have f2:=xg _ _ 2 _ _ l;clear m q l O s t HY HE A T z K X Y a7 b2 l1 F a5;generalize fifo[0]?.getD 0=f at *;go_wp2_with (at_builtin;first|refine dF rfl (.const (C)) (.tmp 50) (by with_reducible rfl) rfl rfl rfl j ?_|refine dF rfl (.tmp 54) (.tmp 56) (by with_reducible rfl) rfl rfl rfl u ?_|refine dF rfl (.const (C)) (.tmp 67) (by with_reducible rfl) rfl rfl rfl G ?_);go_region
  all_goals
   go_wp2
   refine wA (iA dC _ _ (w.heap.size+1) 104 _ (0,0) _ dC (set3 P3 _ _ _) underlying104 rfl E) dC ?_
   rw [V.out]
   exact P4 _ _ (.inr rfl)
theorem Am (k:Nat):List.replicate k (-1:Int)++[-1]=List.replicate (k+1) (-1):=by
 rw [List.replicate_succ']
structure Ln (w:World) (s o n k:Nat) (a:Option Addr) (c:Nat) (W:World):Prop where
 ob:W.heap[o]?=some (.cells #[.slice a k c,C,I n] 104)
 ow:Ow W (o+1) a c (List.replicate k (-1))
 s1:W.heap[s]?=some (.cells #[C,C,I 0] 104)
 b:D w W
theorem Ln.next {o a W} (h:Ln w s o n k a c W) (q:w.heap.size=s) (m:s<o) (r:k<=16) :
  ∃ d e b,(Builtin.append_ #[23,23] 23 #[.slice a k c,Vl W.heap.size 1 1]).run prog (W.alloc (.cells #[I (-1)] 3))=.ok (.slice d (k+1) e) b/\b.cell? ⟨o,0,none⟩=some (.slice a k c)/\b.frozen? ⟨o,0,none⟩=false/\Ln w s o n (k+1) d e (b.setCell ⟨o,0,none⟩ (.slice d (k+1) e)):=by
 have t:=dO h.ob;obtain⟨d,e,b,l,f,i⟩:=vJ W (o+1) a c (List.replicate k (-1)) (-1) h.ow cd Z;rw [JS] at l;rw [Am] at f;have j:=i.at h.ob Z;have p:=i.at h.s1 Z;refine⟨d,e,b,l,aM j,xg _ _ _ _ _ j,⟨?_,?_,bT p _ _ _ Z,?_⟩⟩;·rw [Ku _ _ _ _ _ _ j];rfl
 ·exact f.but (S:=λk=>k=o) ((But.refl _ b).set _ _ _ rfl) (λg e=>by have:=(f.base g e).1;omega)
 exact (h.b.trans (i.below (by have:=h.b.size;omega) (λg b=>Z))).setCell it _
theorem zo (m n:Nat) (w:World) (v:m<=16) :
  Calls prog 87 #[I m,I n] w λe f=>∃ a c,e=.returned (wv a m c none 0 0 (n:Nat))/\Ow f w.heap.size a c (List.replicate m (-1))/\D w f:=by
 have b:=mQ w (.cells #[C,C,I 0] 104) (.cells #[C,C,I n] 104);have g:=H (show Ln w w.heap.size (w.heap.size+1) n 0 none 0 ((w.alloc (.cells #[C,C,I 0] 104)).alloc (.cells #[C,C,I n] 104)) from ⟨b.2.1,Ow.nil _ _,b.1,b.2.2⟩);clear b;unfold wv;go_enter func87,ntmps87;go_wp2;go_loopw [0] (λi wr=>∃ (k:Nat) (a:Option Addr) (c:Nat),k<=m/\i=I ((m:Int)-(k:Int))/\Hid (Ln w w.heap.size (w.heap.size+1) n k a c wr)) (λi _=>(intOf i).toNat);case atStart=>exact ⟨0,none,0,Jt _,aR,g⟩
 case round =>
  obtain⟨k,a,c,x,rfl,b⟩:=hrel;clear g;by_cases l:k<m
  ·have o:(0:Int)<(m:Int)-(k:Int):=Z;obtain⟨p,q,y,d,r,s,j⟩:=b.next rfl Z Z
   have t:=H j;have u:wr.cell? ⟨w.heap.size+1,0,none⟩=some (.slice a k c):=aM b.ob;clear j b;go_wp2_with (at_builtin;refine dF rfl (.tmp 13) (.tmp 14) (by with_reducible rfl) rfl rfl rfl d ?_);go_roundw;(case rel=>exact ⟨k+1,p,q,Z,aR,t⟩);case measure=>simp [intOf];omega
  obtain rfl:m=k:=Z;have o:¬((0:Int)<(m:Int)-(m:Int)):=Z;have u:wr.cell? ⟨w.heap.size+1,0,none⟩=some (.slice a m c):=aM b.ob;have r:wr.cell? ⟨w.heap.size+1,1,none⟩=some (C):=aM b.ob;have s:wr.cell? ⟨w.heap.size+1,2,none⟩=some (I n):=aM b.ob;have d:wr.cell? ⟨w.heap.size,0,none⟩=some (C):=aM b.s1;have j:wr.cell? ⟨w.heap.size,1,none⟩=some (C):=aM b.s1;have p:wr.cell? ⟨w.heap.size,2,none⟩=some (I 0):=aM b.s1;have f0:wr.frozen? ⟨w.heap.size,0,none⟩=false:=xg _ _ _ _ _ b.s1;have f1:wr.frozen? ⟨w.heap.size,1,none⟩=false:=xg _ _ _ _ _ b.s1;have f2:wr.frozen? ⟨w.heap.size,2,none⟩=false:=xg _ _ _ _ _ b.s1;go_wp2;refine wA (p7 dC _ _ w.heap.size 104 _ (0,0) _ dC (set3 b.s1 _ _ _) underlying104 rfl E) dC ?_;refine⟨a,c,rfl,?_,((b.b.setCell it _).setCell it _).setCell it _⟩;exact (b.ow.but (S:=λk=>k=w.heap.size) ((((But.refl (λk=>k=w.heap.size) wr).set _ _ _ rfl).set _ _ _ rfl).set _ _ _ rfl) (λg e=>by have:=(b.ow.base g e).1;omega)).mono Z
end
section
open Go.RowKit
theorem vL (h:a<=1016):gN a<12/\a+8<=cR (gN a):=(CQ h).2
inductive Seen (h:Hs) (p:Nat):Fd->Prop
 | slot (c s j:Nat):c<12->s<6->j<aU c->bF c s j=p->h.st c s j=1->Seen h p (.slot c s j)
 | range (r:Rg9):r∈h.rg->r.base=p->r.st=1->Seen h p (.range r)
 | no (code:Int):(code=3\/code=4)->Seen h p (.no code)
theorem cP {t:Nat×Nat×Nat} (h:t∈dM):t.1<12/\t.2.1<6/\t.2.2<aU t.1:=by
 unfold dM at h;simp only [List.mem_flatMap,JW,JE] at h;obtain⟨c,a,s,b,j,d,rfl⟩:=h;exact⟨a,b,d⟩
theorem eC (h p):Seen h p (aP h p):=by
 unfold aP;cases e:bj p with
 | some t =>
  obtain⟨c,s,j⟩:=t;unfold bj at e;have a:=cP (KJ e);have b:=List.find?_some e;simp at b;dsimp only at a ⊢;split;·rename_i d;exact .slot c s j a.1 a.2.1 a.2.2 b d
  split;·exact .no 3 (.inl rfl)
  exact .no 4 (.inr rfl)
 | none =>
  dsimp only;cases f:h.rg.find? λr=>r.base==p with
  | some r =>
   have a:=KJ f;have b:=List.find?_some f;simp at b;dsimp only;split;·rename_i d;exact .range r a b d
   exact .no 4 (.inr rfl)
  | none =>
   dsimp only;split;·exact .no 4 (.inr rfl)
   exact .no 3 (.inl rfl)
structure Few (k:Nat) (h:Hs):Prop where
 rg:h.rg.length<=k
 rel:h.rel.length<=k
 row:h.row.length<=k
 used:h.used<=2100*k
theorem Few.mono {b:Nat} (f:Few k h) (a:k<=b):Few b h :=
 ⟨Jp f.rg a,Jp f.rel a,Jp f.row a,Jp f.used (Lr _ a)⟩
theorem Inv.malloc (i:Inv cf h) (f:Few k h) (a):Inv cf (az cf h a).2/\(az cf h a).2.rg.length<=k+1/\(az cf h a).2.rel.length<=k/\(az cf h a).2.row.length<=k/\(az cf h a).2.used<=h.used+2000:=by
 unfold az;by_cases ha:a<=1016
 ·rw [tm ha];obtain⟨l,t⟩:=vL ha;generalize gN a=c at *;obtain⟨g,m⟩:=Inv.small l 2000 i;cases e:cy cf c 2000 h with
  | mk o p =>
   rw [e] at g m;have f1:p.rg.length<=k+1/\p.rel.length<=k/\p.row.length<=k:=by
    dsimp only at g;rw [g.stay.rg,g.stay.rel,g.stay.row];exact⟨by have:=f.rg;omega,f.rel,f.row⟩
   cases o with
   | none=>exact ⟨g.inv,f1.1,f1.2.1,f1.2.2,m⟩
   | some q =>
    obtain⟨s,j⟩:=q;obtain⟨u,v,r,d,_,_⟩:=g.some s j rfl;rw [km] at d;have x:=bI l;have b:=g.inv.setSt l u v 1 (a:Int) Z Z Z (by dsimp only at d ⊢;omega) (.inr r) (λ_=>⟨Z,Z⟩) (λe=>absurd rfl e);exact⟨b.bytes (bF c s j+fy c) (can cf (bF c s j)) 8,f1.1,f1.2.1,f1.2.2,m⟩
 rw [tg ha];dsimp only;have y:=pH cf h (n:=3) Z;have b:=i.used (h.used+1);have f0:=f.rg;split;·exact⟨b,it,f.rel,f.row,it⟩
 split;·exact⟨b,it,f.rel,f.row,it⟩
 rename_i s w;split;·exact⟨b,it,f.rel,f.row,it⟩
 refine⟨b.large Z Z Z w,cd,?_,f.row,it⟩;exact Jp (A1 _ _) f.rel
theorem Inv.fAny (i:Inv cf h) (d:1<=cf.fifo) {x:Fd} (k:Seen h p x):Inv cf (eM cf h x)/\(eM cf h x).rg.length<=h.rg.length/\(eM cf h x).rel.length<=h.rel.length+1/\(eM cf h x).row.length<=h.row.length+1/\(eM cf h x).used<=h.used+1:=by
 cases k with
 | slot c s j f e l t m =>
  refine⟨i.fSlot d f e l m,?_⟩;show (bH cf h c s j).rg.length<=_/\(bH cf h c s j).rel.length<=_/\(bH cf h c s j).row.length<=_/\(bH cf h c s j).used<=_;rw [fc];have ha:(cn cf h c s j).rg=h.rg/\(cn cf h c s j).rel=h.rel/\(cn cf h c s j).row=h.row/\(cn cf h c s j).used<=h.used+1:=by
   unfold cn;refine⟨rfl,rfl,rfl,?_⟩;dsimp only;split <;> omega
  have g:∀ a b,(cV (cn cf h c s j) c a b).rg=h.rg/\(cV (cn cf h c s j) c a b).rel=h.rel/\(cV (cn cf h c s j) c a b).row=h.row/\(cV (cn cf h c s j) c a b).used<=h.used+1:=λa b=>by
   unfold cV;dsimp only;split <;> exact ha
  split;·rw [ha.1,ha.2.1,ha.2.2.1];exact⟨Jo _,Z,Z,ha.2.2.2⟩
  obtain⟨n,o,q,r⟩:=g ((fD cf h c s j).toNat/aU c) ((fD cf h c s j).toNat%aU c);rw [n,o,q];exact⟨Jo _,Z,Z,r⟩
 | range r b g e =>
  refine⟨i.fRange b e,?_⟩;show (aZ cf h r).rg.length<=_/\(aZ cf h r).rel.length<=_/\(aZ cf h r).row.length<=_/\(aZ cf h r).used<=_;rw [ij];unfold zd;split;·dsimp only;refine⟨?_,bh,bh,Z⟩;exact Jp (A1 _ _) bh
  dsimp only;exact⟨bh,Z,bh,Z⟩
 | no b f=>exact ⟨i,Jo _,Nat.le_add_right _ _,Nat.le_add_right _ _,Nat.le_add_right _ _⟩
theorem Inv.realloc (i:Inv cf h) (w:1<=cf.fifo) (f:Few k h) (p a):Inv cf (cF cf h p a).2/\Few (k+1) (cF cf h p a).2:=by
 obtain⟨l,x,F,G,K⟩:=i.malloc f a;have Y:=f.used;have n:Few (k+1) h:=f.mono Z;have u:Few (k+1) (az cf h a).2:=⟨x,Z,Z,Z⟩;have L:∀ d:Nat,∀ q b,az cf h a=(some q,b)->Inv cf (eM cf { b with m:=cN b.m p q (min d a) } (aP { b with m:=cN b.m p q (min d a) } p))/\Few (k+1) (eM cf { b with m:=cN b.m p q (min d a) } (aP { b with m:=cN b.m p q (min d a) } p)):=λd q b e=>by
  rw [e] at l x F G K;dsimp only at l x F G K;have Q:Inv cf { b with m:=cN b.m p q (min d a) }:=l.bytes q _ _;obtain⟨R,S,T,V,W⟩:=Q.fAny w (eC _ p);generalize eM cf { b with m:=cN b.m p q (min d a) } (aP { b with m:=cN b.m p q (min d a) } p)=M at *;dsimp only at S T V W;exact⟨R,Z,Z,Z,Z⟩
 unfold cF;dsimp only;by_cases y:p=0
 ·rw [tm y];cases e:az cf h a with
  | mk o b =>
   rw [e] at l u;cases o with
   | none=>exact ⟨l,u⟩
   | some q=>exact ⟨l,u⟩
 rw [tg y];have t:=eC h p;cases e:aP h p with
 | no N=>exact ⟨i,n⟩
 | slot c s j =>
  rw [e] at t;dsimp only;split;·exact⟨i,n⟩
  split
  ·rename_i g;cases t with
   | slot _ _ _ z t O y P =>
    obtain⟨_,A⟩:=vL g.1;rw [g.2] at A;have hz:=bI z;have B:dJ h c s=true:=by
     cases M:dJ h c s with
     | true=>rfl
     | false=>have:=i.off c s z t M j O;rw [P] at this;simp [bv] at this
    have:=i.setSt z t O 1 (a:Int) Z Z Z Z (.inr B) (λ_=>⟨Z,Z⟩) (λe=>absurd rfl e);rw [iV h.st P] at this;exact⟨this,n.rg,n.rel,n.row,n.used⟩
  cases v:az cf h a with
  | mk o b =>
   cases o with
   | none=>rw [v] at l u;exact⟨l,u⟩
   | some q=>exact L _ q b v
 | range r =>
  rw [e] at t;dsimp only;split
  ·rename_i g;cases t with
   | range _ X hb t =>
    refine⟨i.setRq X t g.1 g.2,?_⟩;exact⟨by simp;exact n.rg,n.rel,n.row,n.used⟩
  cases v:az cf h a with
  | mk o b =>
   cases o with
   | none=>rw [v] at l u;exact⟨l,u⟩
   | some q=>exact L _ q b v
theorem Inv.do (i:Inv cf h) (g:1<=cf.fifo) (f:Few k h) (o p):Inv cf (dP cf h o p).2/\Few (k+1) (dP cf h o p).2:=by
 have a:Few (k+1) h:=f.mono Z;have v:=f.used;have t:∀ n,Inv cf (az cf h n).2/\Few (k+1) (az cf h n).2:=λn=>by
  obtain⟨b,d,e,l,m⟩:=i.malloc f n;exact⟨b,d,Z,Z,Z⟩
 have b:∀ n,Inv cf (match az cf h n with
  | (none,d)=>(An4.no 1,d)
  | (some q,d)=>(⟨0,q,0,[]⟩,d)).2/\Few (k+1) (match az cf h n with
  | (none,d)=>(An4.no 1,d)
  | (some q,d)=>(⟨0,q,0,[]⟩,d)).2:=λn=>by
  have:=t n
  cases e:az cf h n with
  | mk o d =>
   rw [e] at this;cases o with
   | none=>exact this
   | some q=>exact this
 unfold dP;dsimp only;split;·exact b _
 split
 ·split;·exact⟨i,a⟩
  exact b _
 split;·exact i.realloc g f p o.a
 split
 ·have u:=eC h p;obtain⟨l,w,x,y,z⟩:=i.fAny g u;have m:Few (k+1) (eM cf h (aP h p)):=⟨by have:=f.rg;omega,by have:=f.rel;omega,by have:=f.row;omega,Z⟩;cases e:aP h p with
  | no d=>exact ⟨i,a⟩
  | slot c s j =>
   rw [e] at l m;dsimp only;split;·exact⟨i,a⟩
   exact⟨l,m⟩
  | range r=>rw [e] at l m;exact⟨l,m⟩
 split
 ·cases e:aP h p with
  | no d=>exact ⟨i,a⟩
  | slot c s j=>exact ⟨i,a⟩
  | range r=>exact ⟨i,a⟩
 split;·split <;> exact ⟨i,a⟩
 split
 ·dsimp only;split;·exact⟨i.bytes p o.ys _,a.rg,a.rel,a.row,a.used⟩
  exact⟨i,a⟩
 exact⟨i,a⟩
theorem Inv.step (i:Inv cf h) (a:1<=cf.fifo) (f:Few k h) (an o):Inv cf (cW cf h an o).2/\Few (k+1) (cW cf h an o).2:=by
 unfold cW;split;·exact i.do a f o _
 split;·exact⟨i,f.mono Z⟩
 exact i.do a f o _
inductive Area (h:Hs) (p n:Nat):Prop
 | slot (c s j:Nat):c<12->s<6->j<aU c->bF c s j=p->h.st c s j=1->n<=cR c->Area h p n
 | range (r:Rg9):r∈h.rg->r.base=p->r.st=1->n<=r.pages*1024->Area h p n
theorem Inv.on1 (i:Inv cf h) (a:c<12) (b:s<6) (d:j<aU c) (e:bv (h.st c s j)=false):dJ h c s=true:=by
 cases f:dJ h c s with
 | true=>rfl
 | false=>have:=i.off c s a b f j d;rw [e] at this;cases this
theorem Inv.openA (i:Inv cf h) (a:Area h p n) (q:k<n):isOpen (h.m ((p+k)/1024))=true:=by
 rw [i.fine.open];cases a with
 | slot c s j d b f r l m =>
  have e:=i.on1 d b f (by rw [l];rfl);have o:=cY d b f;have t:aF c s*1024<=bF c s j:=by unfold bF;omega
  have g:=i.slab c s d b ((p+k)/1024-aF c s) Z;rw [show aF c s+((p+k)/1024-aF c s)=(p+k)/1024 by omega,e] at g;exact g
 | range r d e b m =>
  have o:=i.rgs r d;unfold Rg9.base at e;exact (i.big _ Z).2 ⟨r,d,b,Z,Z⟩
theorem nt {a d b:Nat} (l:c<12) (m:s<6) (n:j<aU c) (f:a<12) (g:d<6) (i:b<aU a) (k:¬(c=a/\s=d/\j=b)):bF c s j+cR c<=bF a d b\/bF a d b+cR a<=bF c s j:=by
 have o:=cY l m n;have p:=cY f g i;have q:aF c s*1024<=bF c s j:=by unfold bF;omega
 have r:aF a d*1024<=bF a d b:=by unfold bF;omega
 by_cases e:c=a/\s=d
 ·obtain⟨rfl,rfl⟩:=e;unfold bF;rcases Kv j b with h|h|h;·have:(j+1)*cR c<=b*cR c:=JR _ h;rw [J4,Ki] at this;omega
  ·exact absurd ⟨rfl,rfl,h⟩ k
  have:(b+1)*cR c<=j*cR c:=JR _ h;rw [J4,Ki] at this;omega
 have:=eT l m f g e;omega
theorem Inv.far (i:Inv cf h) {r q:Rg9} (d:r∈h.rg) (k:q∈h.rg) (e:r≠q):r.first+r.ext<=q.first\/q.first+q.ext<=r.first:=by
 have f:∀ {l:List Rg9},(l.Pairwise λa b=>a.first+a.ext<=b.first\/b.first+b.ext<=a.first)->r∈l->q∈l->r.first+r.ext<=q.first\/q.first+q.ext<=r.first:=λ{l}=>by
  induction l with
  | nil=>intro _ g;cases g
  | cons a t m =>
   intro n g d;obtain⟨j,o⟩:=List.pairwise_cons.1 n;rcases JG.1 g with b|b <;> rcases JG.1 d with c|c
   ·exact absurd (b.trans c.symm) e
   ·subst b;exact j q c
   ·subst c;have:=j r b;omega
   exact m o b c
 exact f i.apart d k
theorem Inv.apartA (i:Inv cf h) {m} (a:Area h p n) (b:Area h q m) (k:p≠q):p+n<=q\/q+m<=p:=by
 cases a with
 | slot c s j t v x y L z =>
  cases b with
  | slot A B F e d f l w g =>
   have:=nt t v x e d f (by rintro ⟨rfl,rfl,rfl⟩;exact k (y.symm.trans l));omega
  | range r u o d g =>
   have G:=cY t v x;have K:=i.rgs r u;unfold Rg9.base at o;omega
 | range r u o v z =>
  cases b with
  | slot A B F e d f l w g =>
   have G:=cY e d f;have K:=i.rgs r u;unfold Rg9.base at o;omega
  | range y x t d g =>
   have:=i.far u x (by rintro rfl;exact k (o.symm.trans t));unfold Rg9.ext at this;unfold Rg9.base at o t;omega
theorem gP (a:Nat):a<=aS a*1024:=by
 unfold aS;split <;> omega
structure Gave (cf:Cf) (h:Hs) (a q:Nat) (h1:Hs):Prop where
 inv:Inv cf h1
 area:Area h1 q a
 fresh:∀ n,¬Area h q n
 live:∀ c s j,c<12->s<6->j<aU c->h.st c s j=1->h1.st c s j=1/\h1.rq c s j=h.rq c s j
 rg:h1.rg=h.rg\/∃ r,h1.rg=h.rg++[r]/\r.base=q
 rel:∀ b,b∈h1.rel->b∈h.rel
theorem Inv.gave (i:Inv cf h) {K:Hs} (d:az cf h a=(some q,K)):Gave cf h a q K:=by
 have L:=(i.malloc (k:=h.rg.length+h.rel.length+h.row.length+h.used) ⟨Z,Z,Z,Z⟩ a).1;rw [d] at L;dsimp only at L;unfold az at d;by_cases ha:a<=1016
 ·rw [tm ha] at d;obtain⟨B,T⟩:=vL ha;generalize gN a=c at *;obtain⟨g,V⟩:=Inv.small B 2000 i;cases e:cy cf c 2000 h with
  | mk o R =>
   rw [e] at g V d;cases o with
   | none=>simp at d
   | some t =>
    obtain⟨s,j⟩:=t;simp at d;obtain⟨rfl,rfl⟩:=d;obtain⟨M,N,W,X,x,Y⟩:=g.some s j rfl;refine⟨L,.slot c s j B M N rfl (a_ _ _ _ _ _) Z,λn O=>?_,λu v w l f m F=>?_,.inl g.stay.rg,λb y=>g.stay.rel▸y⟩
    ·cases O with
     | slot u v w l f m P G z =>
      by_cases p:u=c/\v=s/\w=j;·obtain⟨rfl,rfl,rfl⟩:=p;rw [G] at x;simp [bv] at x
      have:=nt l f m B M N p;have z1:=bI B;have z2:=bI l;omega
     | range r A y f z =>
      have K:=cY B M N;have S:=i.rgs r A;unfold Rg9.base at y;omega
    have p:¬(u=c/\v=s/\w=j):=by
     rintro⟨rfl,rfl,rfl⟩;rw [F] at x;simp [bv] at x
    have Q:=g.stay.live u v w (by rw [F];rfl);refine⟨?_,?_⟩;·show aJ R.st c s j 1 u v w=1;rw [bo _ _ p];exact Q.trans F
    show aJ R.rq c s j a u v w=h.rq u v w;rw [bo _ _ p];exact congrFun (congrFun (congrFun g.stay.rq u) v) w
 rw [tg ha] at d;dsimp only at d;have hd:=pH cf h (n:=3) Z;split at d;·simp at d
 split at d;·simp at d
 rename_i s A;split at d;·simp at d
 obtain⟨r1,r2,r3⟩:=jY A;simp at d;obtain⟨rfl,rfl⟩:=d;have hp:=gP a;refine⟨L,.range ⟨s,1+dr cf h 3,aS a,1,a⟩ (List.mem_append_right _ (List.mem_singleton.2 rfl)) rfl rfl hp,λn O=>?_,λu v w l f m F=>⟨F,rfl⟩,.inr ⟨_,rfl,rfl⟩,λb y=>(J8.1 y).1⟩;cases O with
 | slot u v w l f m P G z =>
  have K:=cY l f m;omega
 | range r A y f z =>
  have S:=r3 r A;have h3:=i.rgs r A;unfold Rg9.base at y;unfold Rg9.ext at S;omega
theorem Gave.keeps {h1} (g:Gave cf h a q h1) (A:Area h p n):Area h1 p n/\p≠q:=by
 refine⟨?_,λe=>g.fresh n (e▸A)⟩;cases A with
 | slot c s j f b i k l d=>exact .slot c s j f b i k (g.live c s j f b i l).1 d
 | range r f i b d =>
  refine .range r ?_ i b d;rcases g.rg with e|⟨k,e,_⟩;·rw [e];exact f
  rw [e];exact Ll _ f
theorem n_ {b:Hs} (a:aP h p=.slot c s j) (f:b.st c s j=1):aP b p=.slot c s j:=by
 unfold aP at a ⊢;cases e:bj p with
 | some t =>
  obtain⟨d,g,i⟩:=t;rw [e] at a;dsimp only at a ⊢;split at a;·simp at a;obtain⟨rfl,rfl,rfl⟩:=a;rw [tm f]
  split at a <;> cases a
 | none =>
  rw [e] at a;dsimp only at a;cases d:h.rg.find? λr=>r.base==p with
  | some r=>rw [d] at a;dsimp only at a;split at a <;> cases a
  | none=>rw [d] at a;dsimp only at a;split at a <;> cases a
theorem k_ {b:Hs} {r:Rg9} (a:aP h p=.range r) (g:b.rg=h.rg\/∃ f,b.rg=h.rg++[f]):aP b p=.range r:=by
 unfold aP at a ⊢;cases e:bj p with
 | some t =>
  obtain⟨c,d,i⟩:=t;rw [e] at a;dsimp only at a ⊢;split at a;·cases a
  split at a <;> cases a
 | none =>
  rw [e] at a;dsimp only at a ⊢;cases c:h.rg.find? λr=>r.base==p with
  | some i =>
   rw [c] at a;have j:(b.rg.find? λr=>r.base==p)=some i:=by
    rcases g with d|⟨f,d⟩;·rw [d];exact c
    rw [d,List.find?_append,c];rfl
   rw [j];exact a
  | none=>rw [c] at a;dsimp only at a;split at a <;> cases a
theorem xR (m) (p:Nat) (x) (a:Nat) (h:a≠p):bN (eu m p x) a=bN m a:=by
 unfold bN eu;by_cases e:a/1024=p/1024
 ·rw [e,bZ];have b:p%1024≠a%1024:=Z;cases m (p/1024) with
  | none=>rfl
  | some q=>simp [b]
 rw [aW _ _ _ _ e]
theorem iy (m) (q:Nat) (ys) (a:Nat):∀ k,(a<q\/q+k<=a)->bN (ax m q ys k) a=bN m a
 | 0,_=>rfl
 | k+1,h=>by
  show bN (eu (ax m q ys k) (q+k) _) a=_
  rw [xR _ _ _ _ Z]
  exact iy m q ys a k Z
end
end Go.Proofs.YtdfodlhkdmkfdaaGreatDoor
