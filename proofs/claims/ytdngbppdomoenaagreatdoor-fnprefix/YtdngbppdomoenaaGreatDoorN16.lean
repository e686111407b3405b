import Derived.Test.YtdngbppdomoenaaGreatDoorN15
set_option linter.unusedVariables false
set_option linter.unusedSimpArgs false
set_option maxRecDepth 20000
set_option maxHeartbeats 8000000
namespace Go.Proofs.YtdngbppdomoenaaGreatDoor
open Go.Proofs.Tryz
variable {w:World} {a c j k n p s:Nat} {h:Hs} {cf:Cf} {q r:Rg9}
section
open Go.ChangeShapes Go.WideShapes Go.ChangeAt Go.RowKit
theorem Ow.mono {b:Nat} {b' a zs} (h:Ow w b' a c zs) (k:b<=b'):Ow w b a c zs:=by
 refine⟨h.1,?_⟩;rcases h.2 with i|⟨g,d,f,e,l,j⟩;·exact .inl i
 exact .inr ⟨g,d,f,e,Z,j⟩
theorem dz {c:Array Oper} {b:List Oper} {o:Oper} {a:Act} {Q:Exit->Act->World->Prop} (d:o.guard=none) (s x:Operand)
  (i:o.op=.call { callee:=.builtin .append,args:=#[s,x],argTypes:=#[24,24] }) (j:o.type=24) {v e f:Value} {g:World} (k:a.eval s=v) (l:a.eval x=e)
  (m:(Builtin.append_ #[24,24] 24 #[v,e]).run prog w=.ok f g) (h:wpList prog c Q b (a.put o.dst f) g):wpList prog c Q (o::b) a w:=by
 refine IA d λK n=>?_;unfold Oper.wp;simp [execOp,i,j,resolve,invoke,builtin,k,l,m,Result.andThen];exact n _ _ h
def iG (mix:List Int) (i:Nat) (x:Int) (k:Nat):Int:=if i<k then mix[i]?.getD 0 else x
theorem vq (am b cm af lf) (cf n:Nat) (mix fifo) (x:Int) (d w) (h:Wt w am b af lf mix fifo) (a8:af=none->cf=0) (f:eN mix fifo (n:Nat)=true) (hx:0<=x) :
  Calls prog 168 #[wv am b cm af lf cf (n:Nat),I x,I d] w λe w'=>B_ w n (ed n mix fifo x d).1 (ed n mix fifo x d).2.1 (ed n mix fifo x d).2.2 e w':=by
 obtain⟨i,j⟩:∃ i,i=md d b:=⟨_,rfl⟩;have g:=H (lF w (.cells #[.slice am b cm,.slice af lf cf,I n] 68) (.cells #[C,C,I 0] 68));have l:=H (u_ am b cm af lf cf (n:Nat) mix fifo _ (h.below g.2.2));rw [f] at l;obtain⟨g1,g2,g3,g4⟩:=ti f;rw [h.ml] at g1;rw [h.fl] at g4;have LM:=H (λW (P:0<b)=>lU d b W P Z);rw [<-j] at LM;have HI:=H (show 0<b->i<b from λP=>j▸oh d b P);have CM:=H (λW (hW:D w W)=>(h.m.below hW).cells);have GS:=H (λW (hW:D w W)=>(h.f.below hW).srcs);have ML:=H h.ml;have M:=H h.fl;have b7:¬(x<0):=Z;have HW:=H (show ed n mix fifo x d=if b=0 then ([],(cu n fifo x).1,(cu n fifo x).2) else if mix[i]?.getD 0 = -1 then (mix.set i x,fifo,-1) else (mix.set i x,(cu n fifo (mix[i]?.getD 0)).1,(cu n fifo (mix[i]?.getD 0)).2) by
  unfold ed;rw [h.ml,<-j];by_cases L:b=0;·rw [GP L,GP (List.length_eq_zero_iff.1 (by rw [h.ml];exact L))]
  rw [GO L,GO (λe=>L (by rw [<-h.ml,e];rfl))])
 have NB:=H (show ∀ k,k<b -> -1<=mix[k]?.getD 0 by
  intro k hk;unfold eN at f;simp only [Gi] at f;have:=f.2.2.2.2.1;unfold nb at this;rw [List.all_eq_true] at this;have m:k<mix.length:=by rw [h.ml];exact hk
  have o:=this (mix[k]) bH;simp [m] at o ⊢;exact o)
 unfold wv at l ⊢;clear h f j;go_enter func168,ntmps168;go_wp2_with fail;refine (l).mono ?_;rintro e Q ⟨rfl,f⟩;have m:=H (az g.2.2 f);have j:=H (ae g.1 f);have o:=H (ae g.2.1 f);have S1:=H (show w.heap.size+1<Q.heap.size by have:=f.size;rw [cS,cS] at this;omega);clear f l g;have c2:Q.cell? ⟨w.heap.size,2,none⟩=some (I n):=bJ j.out;have f:=H ((Fu _ Q).alloc (Fv _) (.cells #[C,C,I n] 68));have L0:=H (show Lp w w.heap.size Q.heap.size am b cm af lf cf n 0 none 0 (mix.set i x) (Q.alloc (.cells #[C,C,I n] 68)) from
  ⟨dD _ _,Ow.nil _ _,ae j f,ae o f,az m f⟩)
 have c0:(Q.alloc (.cells #[C,C,I n] 68)).cell? ⟨w.heap.size,0,none⟩=some (.slice am b cm):=bJ L0.s0;clear f j o m;go_wp2;generalize Q.heap.size=o at *;go_loopw [28,9] (λv y wr=>∃ (k:Nat) (a:Option Addr) (c:Nat),k<=b/\v=I k/\y=I (iG mix i x k)/\Hid (Lp w w.heap.size o am b cm af lf cf n k a c (mix.set i x) wr)) (λv _ _=>b-(intOf v).toNat);case atStart=>exact ⟨0,none,0,FH _,rfl,rfl,L0⟩
 case round =>
  obtain⟨k,a,c,hk,rfl,rfl,s⟩:=hrel;clear L0 c0;by_cases N:k<b
  ·obtain⟨g,rfl,S⟩:=CM.out _ s.b k (by rw [ML.out];exact N);have P:0<b:=Z;have K:=HI.out P;have T:wr.cell? ⟨w.heap.size,0,none⟩=some (Vl g b cm):=bJ s.s0;have V:wr.cell? ⟨o,0,none⟩=some (.slice a k c):=bJ s.ob;have f:=wM mix i k x (by rw [ML.out];exact N);by_cases l:k=i
   ·have t:((k:Int)==(i:Int))=true:=(by simp [l]);rw [GP l] at f;obtain⟨u,z,O,j,q,A,m⟩:=s.next rfl S1 (by rw [Gj,ML.out]) N g1 x f
    have F:=H m;have G:=H (show mix[k]?.getD 0=iG mix i x (k+1) by unfold iG;rw [GP Z,l]);clear m f l;go_wp2_with fail;refine (LM _ P).mono ?_;rintro e R ⟨rfl,rfl⟩;go_wp2_with (at_builtin;refine dz rfl (.tmp 43) (.tmp 45) rfl rfl rfl rfl j ?_);go_roundw;(case rel=>exact ⟨k+1,u,z,Z,aY,by rw [<-G.out],F⟩);case measure=>simp [intOf];omega
   have t:((k:Int)==(i:Int))=false:=bG;rw [GO l] at f;obtain⟨u,z,O,j,q,A,m⟩:=s.next rfl S1 (by rw [Gj,ML.out]) N g1 _ f
   have F:=H m;have G:=H (show iG mix i x k=iG mix i x (k+1) by
    unfold iG;by_cases h:i<k;·rw [GP h,GP Z]
    rw [GO h,GO Z])
   clear m f l;generalize mix[k]?.getD 0=y at *;go_wp2_with fail;refine (LM _ P).mono ?_;rintro e R ⟨rfl,rfl⟩;go_wp2_with (at_builtin;refine dz rfl (.tmp 43) (.tmp 45) rfl rfl rfl rfl j ?_);go_roundw;(case rel=>exact ⟨k+1,u,z,Z,aY,by rw [<-G.out],F⟩);case measure=>simp [intOf];omega
  obtain rfl:b=k:=Z;have HY:=H (show -1<=iG mix i x b/\(iG mix i x b = -1->ed n mix fifo x d=(mix.set i x,fifo,-1))/\(0<=iG mix i x b->ed n mix fifo x d=(mix.set i x,(cu n fifo (iG mix i x b)).1,(cu n fifo (iG mix i x b)).2)) by
   rw [HW.out];by_cases L:b=0
   ·have e:iG mix i x b=x:=(by unfold iG;rw [GO Z]);have f:mix=[]:=List.length_eq_zero_iff.1 (by rw [ML.out];exact L);rw [e,GP L,f];exact⟨Z,λh=>Z,λ_=>rfl⟩
   have e:iG mix i x b=mix[i]?.getD 0:=(by unfold iG;rw [GP (HI.out Z)]);have f:=NB.out i (HI Z);rw [e,GO L];refine⟨f,λh=>by rw [GP h],λh=>by rw [GO Z]⟩)
  clear HW NB HI LM CM;obtain⟨a2,c2,W2,j,z,l⟩:=kV wr wr.heap.size none 0 [] af lf cf fifo (Ow.nil _ _) M a8 (GS _ s.b) bG (Fv _);simp only [F1,Gb,FV] at j z;have f:=l.below (Fv _) (λ_ h=>h);have b8:wr.cell? ⟨w.heap.size,1,none⟩=some (.slice af lf cf):=bJ s.s0;have R:(mix.set i x).length=b:=by rw [Gj,ML.out]
  clear GS l;generalize iG mix i x b=y at *;by_cases hy:y = -1
  ·have t:¬(0<=y):=Z;have HE:=H (HY.2.1 hy);have n2:W2.cell? ⟨w.heap.size,2,none⟩=some (I n):=(by rw [GT _ _ _ _ _ _ (ae s.s0 f)];rfl);have a0:(lf:Int)<=(n:Int):=Z;obtain⟨m,q⟩:=s.fin rfl S1 R f z;rw [M.out] at q;obtain⟨p0,p1,p2,l,O⟩:=q _ (.inl rfl);have o1:W2.cell? ⟨o,1,none⟩=some (C):=bJ m;have o2:W2.frozen? ⟨o,1,none⟩=false:=GY _ _ _ _ _ m;have P3:=H l;have P4:=H O;have d0:=(GT _ _ 0 _ _ _ l).trans rfl;have d1:=(GT _ _ 1 _ _ _ l).trans rfl;have d2:=(GT _ _ 2 _ _ _ l).trans rfl;have f0:=GY _ _ 0 _ _ l;have f1:=GY _ _ 1 _ _ l;have f2:=GY _ _ 2 _ _ l;clear m q l O s z f HY;go_wp2_with (at_builtin;refine dz rfl (.const (C)) (.tmp 50) (by with_reducible rfl) rfl rfl rfl j ?_);refine GX (ic dU _ _ (w.heap.size+1) 68 _ (0,0) _ dU (set3 P3 _ _ _) underlying68 rfl E) dU ?_;rw [HE.out];exact P4 _ _ (.inl rfl)
  have a9:0<=y:=by have:=HY.1;omega
  have HE:=H (HY.2.2 a9);obtain⟨a3,c3,S,u,A,F⟩:=uf W2 wr.heap.size a2 c2 fifo y z (by rw [M.out];omega) f.size;have t:D wr S:=f.trans (F.below f.size (λ_ h=>h));have T:(fifo++[y]).length=lf+1:=by rw [FC,M.out];rfl
  rw [M.out] at u;have n2:S.cell? ⟨w.heap.size,2,none⟩=some (I n):=by rw [GT _ _ _ _ _ _ (ae s.s0 t)];rfl
  clear z F f;by_cases a1:lf<n
  ·have a0:(lf:Int)+1<=(n:Int):=Z;have V:=H (show ed n mix fifo x d=(mix.set i x,fifo++[y],-1) by rw [HE.out];unfold cu;rw [GP (by rw [M.out];exact a1)]);obtain⟨m,q⟩:=s.fin rfl S1 R t A;rw [T] at q;obtain⟨p0,p1,p2,l,O⟩:=q _ (.inl rfl);have o1:S.cell? ⟨o,1,none⟩=some (C):=bJ m;have o2:S.frozen? ⟨o,1,none⟩=false:=GY _ _ _ _ _ m;have P3:=H l;have P4:=H O;have d0:=(GT _ _ 0 _ _ _ l).trans rfl;have d1:=(GT _ _ 1 _ _ _ l).trans rfl;have d2:=(GT _ _ 2 _ _ _ l).trans rfl;have f0:=GY _ _ 0 _ _ l;have f1:=GY _ _ 1 _ _ l;have f2:=GY _ _ 2 _ _ l;clear m q l O s t HY HE A T;go_wp2_with (at_builtin;first|refine dz rfl (.const (C)) (.tmp 50) (by with_reducible rfl) rfl rfl rfl j ?_|refine dz rfl (.tmp 54) (.tmp 56) (by with_reducible rfl) rfl rfl rfl u ?_);refine GX (ic dU _ _ (w.heap.size+1) 68 _ (0,0) _ dU (set3 P3 _ _ _) underlying68 rfl E) dU ?_;rw [V.out];exact P4 _ _ (.inl rfl)
  have a0:¬((lf:Int)+1<=(n:Int)):=Z;have V:=H (show ed n mix fifo x d=(mix.set i x,(fifo++[y]).drop 1,fifo[0]?.getD 0) by
   rw [HE.out];unfold cu;rw [GO (by rw [M.out];exact a1)];cases fifo with
   | nil=>have:=M.out;simp at this;omega
   | cons f r=>rfl)
  obtain⟨g,rfl,z⟩:∃ g,a3=some ⟨g,0,none⟩/\RowV S g 3 (Ns .i64 (fifo++[y])):=by
   rcases A.sl with ⟨_,L⟩|h;·simp at L
   exact h
  have F:=A.capge;rw [T] at F;obtain⟨dp,b0,a5⟩:=iy g 1 (lf+1) c3 Z F;simp only [Nat.add_sub_cancel] at b0;have b5:¬(c3=1):=Z;have a6:=a5 Z;subst a6;have b2:=A.base g rfl;have l1:((fifo++[y]).drop 1).length=lf:=by rw [List.length_drop,T];omega
  obtain⟨a4,c4,W4,G,X,Y⟩:=kV S S.heap.size none 0 [] (some ⟨g,1,none⟩) lf (c3-1) ((fifo++[y]).drop 1) (Ow.nil _ _) l1 bH (.inr ⟨_,rfl,by
   have:=mU z 1 lf (by rw [T];omega);rwa [Ge Z] at this⟩) bG (Fv _)
  simp only [F1,Gb,FV] at G X;have a7:=t.trans (Y.below (B:=wr.heap.size) t.size (λk h=>Fx t.size h));have K:=z.below (Y.below (Fv _) (λ_ h=>h)) z.lt;obtain⟨m,q⟩:=s.fin rfl S1 R a7 (X.mono t.size);rw [l1] at q;obtain⟨p0,p1,p2,l,O⟩:=q _ (.inl rfl);have o1:W4.cell? ⟨o,1,none⟩=some (C):=bJ m;have o2:W4.frozen? ⟨o,1,none⟩=false:=GY _ _ _ _ _ m;have b3:g≠o:=by have:=dO s.ob;omega
  have b4:g≠w.heap.size+1:=by have:=dO s.ob;have:=S1.out;omega
  have b6:w.heap.size+1≠g:=λe=>b4 e.symm
  have q0:(W4.setCell ⟨o,1,none⟩ (.slice a4 lf c4)).cell? ⟨g,0,none⟩=some (I (fifo[0]?.getD 0)):=by
   have:=jZ (K.other (p:=⟨o,1,none⟩) b3 (.slice a4 lf c4)) 0 (by rw [T];omega);rw [this];congr 2;cases fifo with
   | nil=>have:=M.out;simp at this;omega
   | cons f r=>rfl
  have P3:=H l;have P4:=H O;have d0:=(GT _ _ 0 _ _ _ l).trans rfl;have d1:=(GT _ _ 1 _ _ _ l).trans rfl;have d2:=(GT _ _ 2 _ _ _ l).trans rfl;have f0:=GY _ _ 0 _ _ l;have f1:=GY _ _ 1 _ _ l;have f2:=GY _ _ 2 _ _ l;clear m q l O s t HY HE A T z K X Y a7 b2 l1 F a5;generalize fifo[0]?.getD 0=f at *;go_wp2_with (at_builtin;first|refine dz rfl (.const (C)) (.tmp 50) (by with_reducible rfl) rfl rfl rfl j ?_|refine dz rfl (.tmp 54) (.tmp 56) (by with_reducible rfl) rfl rfl rfl u ?_|refine dz rfl (.const (C)) (.tmp 67) (by with_reducible rfl) rfl rfl rfl G ?_);go_region
  all_goals
   go_wp2
   refine GX (ic dU _ _ (w.heap.size+1) 68 _ (0,0) _ dU (set3 P3 _ _ _) underlying68 rfl E) dU ?_
   rw [V.out]
   exact P4 _ _ (.inr rfl)
theorem yl (k:Nat):List.replicate k (-1:Int)++[-1]=List.replicate (k+1) (-1):=by
 rw [List.replicate_succ']
structure Ln (w:World) (s o n k:Nat) (a:Option Addr) (c:Nat) (W:World):Prop where
 ob:W.heap[o]?=some (.cells #[.slice a k c,C,I n] 68)
 ow:Ow W (o+1) a c (List.replicate k (-1))
 s1:W.heap[s]?=some (.cells #[C,C,I 0] 68)
 b:D w W
theorem Ln.next {o a W} (h:Ln w s o n k a c W) (q:w.heap.size=s) (m:s<o) (r:k<=16) :
  ∃ d e b,(Builtin.append_ #[24,24] 24 #[.slice a k c,Vl W.heap.size 1 1]).run prog (W.alloc (.cells #[I (-1)] 3))=.ok (.slice d (k+1) e) b/\b.cell? ⟨o,0,none⟩=some (.slice a k c)/\b.frozen? ⟨o,0,none⟩=false/\Ln w s o n (k+1) d e (b.setCell ⟨o,0,none⟩ (.slice d (k+1) e)):=by
 have t:=dO h.ob;obtain⟨d,e,b,l,f,i⟩:=uf W (o+1) a c (List.replicate k (-1)) (-1) h.ow bG Z;rw [Gc] at l;rw [yl] at f;have j:=i.at h.ob Z;have p:=i.at h.s1 Z;refine⟨d,e,b,l,bJ j,GY _ _ _ _ _ j,⟨?_,?_,oZ p _ _ _ Z,?_⟩⟩;·rw [Ic _ _ _ _ _ _ j];rfl
 ·exact f.but (S:=λk=>k=o) ((But.refl _ b).set _ _ _ rfl) (λg e=>by have:=(f.base g e).1;omega)
 exact (h.b.trans (i.below (by have:=h.b.size;omega) (λg b=>Z))).setCell iM _
theorem xY (m n:Nat) (w:World) (v:m<=16) :
  Calls prog 122 #[I m,I n] w λe f=>∃ a c,e=.returned (wv a m c none 0 0 (n:Nat))/\Ow f w.heap.size a c (List.replicate m (-1))/\D w f:=by
 have b:=lF w (.cells #[C,C,I 0] 68) (.cells #[C,C,I n] 68);have g:=H (show Ln w w.heap.size (w.heap.size+1) n 0 none 0 ((w.alloc (.cells #[C,C,I 0] 68)).alloc (.cells #[C,C,I n] 68)) from ⟨b.2.1,Ow.nil _ _,b.1,b.2.2⟩);clear b;unfold wv;go_enter func122,ntmps122;go_wp2;go_loopw [0] (λi wr=>∃ (k:Nat) (a:Option Addr) (c:Nat),k<=m/\i=I ((m:Int)-(k:Int))/\Hid (Ln w w.heap.size (w.heap.size+1) n k a c wr)) (λi _=>(intOf i).toNat);case atStart=>exact ⟨0,none,0,FH _,aY,g⟩
 case round =>
  obtain⟨k,a,c,x,rfl,b⟩:=hrel;clear g;by_cases l:k<m
  ·have o:(0:Int)<(m:Int)-(k:Int):=Z;obtain⟨p,q,y,d,r,s,j⟩:=b.next rfl Z Z
   have t:=H j;have u:wr.cell? ⟨w.heap.size+1,0,none⟩=some (.slice a k c):=bJ b.ob;clear j b;go_wp2_with (at_builtin;refine dz rfl (.tmp 13) (.tmp 14) (by with_reducible rfl) rfl rfl rfl d ?_);go_roundw;(case rel=>exact ⟨k+1,p,q,Z,aY,t⟩);case measure=>simp [intOf];omega
  obtain rfl:m=k:=Z;have o:¬((0:Int)<(m:Int)-(m:Int)):=Z;have u:wr.cell? ⟨w.heap.size+1,0,none⟩=some (.slice a m c):=bJ b.ob;have r:wr.cell? ⟨w.heap.size+1,1,none⟩=some (C):=bJ b.ob;have s:wr.cell? ⟨w.heap.size+1,2,none⟩=some (I n):=bJ b.ob;have d:wr.cell? ⟨w.heap.size,0,none⟩=some (C):=bJ b.s1;have j:wr.cell? ⟨w.heap.size,1,none⟩=some (C):=bJ b.s1;have p:wr.cell? ⟨w.heap.size,2,none⟩=some (I 0):=bJ b.s1;have f0:wr.frozen? ⟨w.heap.size,0,none⟩=false:=GY _ _ _ _ _ b.s1;have f1:wr.frozen? ⟨w.heap.size,1,none⟩=false:=GY _ _ _ _ _ b.s1;have f2:wr.frozen? ⟨w.heap.size,2,none⟩=false:=GY _ _ _ _ _ b.s1;go_wp2;refine GX (Gq dU _ _ w.heap.size 68 _ (0,0) _ dU (set3 b.s1 _ _ _) underlying68 rfl E) dU ?_;refine⟨a,c,rfl,?_,((b.b.setCell iM _).setCell iM _).setCell iM _⟩;exact (b.ow.but (S:=λk=>k=w.heap.size) ((((But.refl (λk=>k=w.heap.size) wr).set _ _ _ rfl).set _ _ _ rfl).set _ _ _ rfl) (λg e=>by have:=(b.ow.base g e).1;omega)).mono Z
end
section
open Go.RowKit
theorem gO (a:dV h n=some s):187<=s/\s+n<=283/\∀ r∈h.rg,s+n<=r.first\/r.first+r.ext<=s:=by
 unfold dV at a;rw [Option.map_eq_some_iff] at a;obtain⟨k,c,rfl⟩:=a;obtain⟨d,b⟩:=lr c;simp at b;refine⟨Z,Z,λr a=>?_⟩;exact b.2 r a
theorem mF (h:1016<a):1<=aR a:=by
 unfold aR;split <;> omega
theorem Inv.large (i:Inv cf h) {g:Nat} (M:1<=g) (N:g<=3) (ha:1016<a) (l:dV h (g+aR a+1)=some s):Inv cf { h with m:=aT h.m (s+g) (aR a),rg:=h.rg++[⟨s,g,aR a,1,a⟩],rel:=h.rel.filter λb=>b/1024<s || s+(g+aR a+1)<=b/1024 }:=by
 obtain⟨X,O,G⟩:=gO l;have P:=mF ha;obtain⟨p,w⟩:∃ p,aR a=p:=⟨_,rfl⟩;rw [w] at O G P ⊢;have t:∀ k,k<187->aT h.m (s+g) p k=h.m k:=λk u=>by rw [cO,GO Z]
 have z:∀ o q,o<12->q<6->dA { h with m:=aT h.m (s+g) p,rg:=h.rg++[⟨s,g,p,1,a⟩],rel:=h.rel.filter λb=>b/1024<s || s+(g+p+1)<=b/1024 } o q=dA h o q:=λo q c d=>by
  have:=cD c d;unfold dA;show (aT h.m (s+g) p (aD o q)).isSome=_;rw [t _ Z]
 refine⟨i.st,i.fine.fresh _ _,λk u=>?_,λo q c d j Q=>?_,λo q c d K=>?_,i.req,i.mxl,i.ffl,i.ffn,i.mxn,i.wait,i.wlt,i.wnd,λr l=>?_,?_,λk u=>?_,λk u v=>?_,λb=>?_,i.rownd,i.rowl,λb R=>?_⟩;·show aT h.m _ _ k=none;rw [cO,GO Z];exact i.out k u
 ·have:=cD c d;rw [z o q c d];show (aT h.m _ _ _).isSome=_;rw [t _ Z];exact i.slab o q c d j Q
 ·rw [z o q c d] at K;exact i.off o q c d K
 ·rcases F8.1 l with f|f;·exact i.rgs r f
  simp at f;subst f;dsimp only [Rg9.ext];refine⟨Z,Z,Z,Z,Z,.inl ⟨rfl,Z,?_⟩⟩;rw [F0];exact w
 ·rw [Is];refine⟨i.apart,bH,λx v y L=>?_⟩;simp at L;subst L;have:=G x v;dsimp only [Rg9.ext] at this ⊢;omega
 ·show (aT h.m (s+g) p k).isSome=true↔_;rw [cO];have A:=i.big k u;constructor
  ·intro v;split at v
   ·rename_i e;exact⟨_,List.mem_append_right _ (List.mem_singleton.2 rfl),rfl,e.1,e.2⟩
   obtain⟨r,l,f⟩:=A.1 v;exact⟨r,IF _ l,f⟩
  rintro⟨r,l,f⟩;rcases F8.1 l with n|n
  ·split;·rfl
   exact A.2 ⟨r,n,f⟩
  simp at n;subst n;rw [GP f.2];rfl
 ·have B:(aT h.m (s+g) p k).isSome=true:=v;rw [t k u] at B;exact i.low k u B
 ·show b∈h.row↔_;rw [i.row b];constructor;·rintro⟨r,l,f⟩;exact⟨r,IF _ l,f⟩
  rintro⟨r,l,f⟩;rcases F8.1 l with n|n;·exact⟨r,n,f⟩
  simp at n;subst n;have:(1:Int)=2:=f.1;omega
 obtain⟨f,n⟩:=Gk.1 R;obtain⟨S,T,V,W⟩:=i.rel b f;refine⟨S,T,V,λr l=>?_⟩;rcases F8.1 l with F|F;·exact W r F
 simp at F;subst F;simp at n;exact n
theorem tN (i:Inv cf h) (a:r∈h.rg):r.base=(r.first+r.guards)*1024/\r.base/1024=r.first+r.guards/\r.base%1024=0/\r.ext=r.guards+r.pages+1:=by
 unfold Rg9.base Rg9.ext;refine⟨rfl,?_,?_,rfl⟩ <;> omega
theorem zG {l:List Rg9} (ha:l.Pairwise λa b=>a.first+a.ext<=b.first\/b.first+b.ext<=a.first) (f:r∈l) (g:q∈l) (i:∀ x∈l,1<=x.guards) (j:r.base=q.base):r=q:=by
 induction l with
 | nil=>cases f
 | cons a t k =>
  have c:r.first+r.guards=q.first+q.guards:=by unfold Rg9.base at j;omega
  have b:∀ x∈t,(x.first+x.guards=a.first+a.guards)->False:=λx b m=>by
   have:=(List.pairwise_cons.1 ha).1 x b;unfold Rg9.ext at this;omega
  rcases F4.1 f with d|d <;> rcases F4.1 g with e|e
  ·rw [d,e]
  ·subst d;exact absurd c.symm (b q e)
  ·subst e;exact absurd c (b r d)
  exact k (List.pairwise_cons.1 ha).2 d e (λx b=>i x (Ij _ b))
theorem Inv.one (i:Inv cf h) (a:r∈h.rg) (b:q∈h.rg) (c:r.base=q.base):r=q :=
 zG i.apart a b (λx a=>(i.rgs x a).2.2.1) c
theorem Inv.setRq (i:Inv cf h) (l:r∈h.rg) (m:r.st=1) (ha:1016<a) (n:aR a=r.pages):Inv cf { h with rg:=h.rg.map λx=>if x.base=r.base then { x with rq:=a } else x }:=by
 have c:∀ x,(if x.base=r.base then ({ x with rq:=(a:Int) } : Rg9) else x).first=x.first/\(if x.base=r.base then ({ x with rq:=(a:Int) } : Rg9) else x).guards=x.guards/\(if x.base=r.base then ({ x with rq:=(a:Int) } : Rg9) else x).pages=x.pages/\(if x.base=r.base then ({ x with rq:=(a:Int) } : Rg9) else x).st=x.st:=λx=>by
  split <;> exact ⟨rfl,rfl,rfl,rfl⟩
 refine⟨i.st,i.fine,i.out,i.slab,i.off,i.req,i.mxl,i.ffl,i.ffn,i.mxn,i.wait,i.wlt,i.wnd,λy j=>?_,?_,λk o=>?_,i.low,λb=>?_,i.rownd,i.rowl,λb p=>?_⟩
 ·obtain⟨x,f,rfl⟩:=FQ.1 j;obtain⟨g,q,s,t⟩:=c x;have d:=i.rgs x f;unfold Rg9.ext at d ⊢;rw [g,q,s,t];refine⟨d.1,d.2.1,d.2.2.1,d.2.2.2.1,d.2.2.2.2.1,?_⟩;by_cases e:x.base=r.base;·have:=i.one f l e;subst this;rw [GP rfl];exact .inl ⟨m,iM,by dsimp only;rw [F0];exact n⟩
  rw [GO e];exact d.2.2.2.2.2
 ·show (h.rg.map _).Pairwise _;rw [List.pairwise_map];refine i.apart.imp (λ{x y} d=>?_);unfold Rg9.ext at d ⊢;rw [(c x).1,(c x).2.1,(c x).2.2.1,(c y).1,(c y).2.1,(c y).2.2.1];exact d
 ·show (h.m k).isSome=true↔_;rw [i.big k o];constructor;·rintro⟨x,f,d,g⟩;refine⟨_,FQ.2 ⟨x,f,rfl⟩,?_⟩;rw [(c x).1,(c x).2.1,(c x).2.2.1,(c x).2.2.2];exact⟨d,g⟩
  rintro⟨y,j,d,g⟩;obtain⟨x,f,rfl⟩:=FQ.1 j;rw [(c x).2.2.2] at d;rw [(c x).1,(c x).2.1,(c x).2.2.1] at g;exact⟨x,f,d,g⟩
 ·show b∈h.row↔_;rw [i.row b];constructor
  ·rintro⟨x,f,d,g⟩;refine⟨_,FQ.2 ⟨x,f,rfl⟩,?_⟩;have e:(if x.base=r.base then ({ x with rq:=(a:Int) } : Rg9) else x).base=x.base:=(by split <;> rfl);rw [e,(c x).2.2.2];exact⟨d,g⟩
  rintro⟨y,j,d,g⟩;obtain⟨x,f,rfl⟩:=FQ.1 j;rw [(c x).2.2.2] at d;have e:(if x.base=r.base then ({ x with rq:=(a:Int) } : Rg9) else x).base=x.base:=by split <;> rfl
  rw [e] at g;exact⟨x,f,d,g⟩
 obtain⟨d,g,q,s⟩:=i.rel b p;refine⟨d,g,q,λy j=>?_⟩;obtain⟨x,f,rfl⟩:=FQ.1 j;have:=s x f;unfold Rg9.ext at this ⊢;rw [(c x).1,(c x).2.1,(c x).2.2.1];exact this
def tV (h:Hs) (r:Rg9):Hs:={ h with m:=bQ h.m (r.first+r.guards) r.pages,rg:=h.rg.map λx=>if x.base=r.base then { x with st:=2,rq:=0 } else x,row:=h.row++[r.base] }
theorem cG (cf h r):aJ cf h r=if cf.large<(h.row++[r.base]).length then { tV h r with rg:=(tV h r).rg.filter λx=>x.base≠(h.row++[r.base])[0]?.getD 0,rel:=h.rel++[(h.row++[r.base])[0]?.getD 0],row:=(h.row++[r.base]).tail } else tV h r:=rfl
theorem Inv.fA (i:Inv cf h) (z:r∈h.rg) (h1:r.st=1) (w:Cf) (W:w.mix=cf.mix) (X:w.fifo=cf.fifo) (hl:h.row.length+1<=w.large):Inv w (tV h r):=by
 have d:∀ x:Rg9,(if x.base=r.base then ({ x with st:=2,rq:=0 } : Rg9) else x).first=x.first/\(if x.base=r.base then ({ x with st:=2,rq:=0 } : Rg9) else x).guards=x.guards/\(if x.base=r.base then ({ x with st:=2,rq:=0 } : Rg9) else x).pages=x.pages/\(if x.base=r.base then ({ x with st:=2,rq:=0 } : Rg9) else x).base=x.base:=λx=>by
  split <;> exact ⟨rfl,rfl,rfl,rfl⟩
 obtain⟨b1,b2,b3,b4,b5,b6⟩:=i.rgs r z;have Y:r.ext=r.guards+r.pages+1:=rfl;have A:∀ k,k<187->bQ h.m (r.first+r.guards) r.pages k=h.m k:=λk B=>by rw [eb,GO Z]
 have G:∀ s u,s<12->u<6->dA (tV h r) s u=dA h s u:=λs u m n=>by
  have:=cD m n;unfold dA;show (bQ h.m (r.first+r.guards) r.pages (aD s u)).isSome=_;rw [A _ Z]
 have P:∀ x∈h.rg,x≠r->x.first+x.ext<=r.first\/r.first+r.ext<=x.first:=λx f o=>by
  have Q:∀ {l:List Rg9},(l.Pairwise λa b=>a.first+a.ext<=b.first\/b.first+b.ext<=a.first)->x∈l->r∈l->x.first+x.ext<=r.first\/r.first+r.ext<=x.first:=λ{l}=>by
   induction l with
   | nil=>intro _ f;cases f
   | cons a t ih =>
    intro hp f z;obtain⟨S,p2⟩:=List.pairwise_cons.1 hp;rcases F4.1 f with K|K <;> rcases F4.1 z with L|L
    ·exact absurd (K.trans L.symm) o
    ·subst K;exact S r L
    ·subst L;have:=S x K;omega
    exact ih p2 K L
  exact Q i.apart f z
 refine⟨i.st,i.fine.gone _ _,λk B=>?_,λs u m n j hj=>?_,λs u m n T=>?_,i.req,λc R=>W▸i.mxl c R,λc R=>X▸i.ffl c R,i.ffn,i.mxn,i.wait,i.wlt,i.wnd,λy F=>?_,?_,λk B=>?_,λk B f=>?_,λb=>?_,?_,?_,λb O=>?_⟩
 ·show bQ h.m _ _ k=none;rw [eb];split;·rfl
  exact i.out k B
 ·have:=cD m n;rw [G s u m n];show (bQ h.m _ _ _).isSome=_;rw [A _ Z];exact i.slab s u m n j hj
 ·rw [G s u m n] at T;exact i.off s u m n T
 ·obtain⟨x,f,rfl⟩:=FQ.1 F;obtain⟨k1,k2,k3,k4⟩:=d x;have g:=i.rgs x f;unfold Rg9.ext at g ⊢;rw [k1,k2,k3];refine⟨g.1,g.2.1,g.2.2.1,g.2.2.2.1,g.2.2.2.2.1,?_⟩;by_cases e:x.base=r.base;·rw [GP e];exact .inr ⟨rfl,rfl⟩
  rw [GO e];exact g.2.2.2.2.2
 ·show (h.rg.map _).Pairwise _;rw [List.pairwise_map];refine i.apart.imp (λ{x y} M=>?_);unfold Rg9.ext at M ⊢;rw [(d x).1,(d x).2.1,(d x).2.2.1,(d y).1,(d y).2.1,(d y).2.2.1];exact M
 ·show (bQ h.m (r.first+r.guards) r.pages k).isSome=true↔_;rw [eb];have g:=i.big k B;constructor
  ·intro f;split at f;·cases f
   rename_i hn;obtain⟨x,v,q,p⟩:=g.1 f;have o:x.base≠r.base:=λe=>by
    have:=i.one v z e;subst this;exact hn p
   refine⟨x,FQ.2 ⟨x,v,by rw [GO o]⟩,q,p⟩
  rintro⟨y,F,q,p⟩;obtain⟨x,v,rfl⟩:=FQ.1 F;have o:x.base≠r.base:=λe=>by
   rw [GP e] at q;have:(2:Int)=1:=q;omega
  rw [GO o] at q p;have:=P x v (λe=>o (by rw [e]));unfold Rg9.ext at this;rw [GO Z];exact g.2 ⟨x,v,q,p⟩
 ·have N:(bQ h.m (r.first+r.guards) r.pages k).isSome=true:=f;rw [A k B] at N;exact i.low k B N
 ·show b∈h.row++[r.base]↔_;rw [F8,i.row b];constructor
  ·rintro (⟨x,f,q,p⟩|V)
   ·have o:x.base≠r.base:=λe=>by
     have:=i.one f z e;subst this;omega
    exact⟨x,FQ.2 ⟨x,f,by rw [GO o]⟩,q,p⟩
   simp at V;subst V;exact⟨_,FQ.2 ⟨r,z,rfl⟩,by rw [GP rfl],(d r).2.2.2⟩
  rintro⟨y,F,q,p⟩;obtain⟨x,f,rfl⟩:=FQ.1 F;rw [(d x).2.2.2] at p;by_cases e:x.base=r.base;·right;simp;rw [<-p,e]
  rw [GO e] at q;exact .inl ⟨x,f,q,p⟩
 ·show (h.row++[r.base]).Nodup;rw [List.nodup_append];refine⟨i.rownd,bH,λa ha b O=>?_⟩;simp at O;subst O;rintro rfl;obtain⟨x,f,q,p⟩:=(i.row _).1 ha;have:=i.one f z p;subst this;omega
 ·show (h.row++[r.base]).length<=_;simp;omega
 obtain⟨q,p,q3,q4⟩:=i.rel b O;refine⟨q,p,q3,λy F=>?_⟩;obtain⟨x,f,rfl⟩:=FQ.1 F;have:=q4 x f;unfold Rg9.ext at this ⊢;rw [(d x).1,(d x).2.1,(d x).2.2.1];exact this
theorem Inv.leave (i:Inv cf h) {b0:Nat} {t:List Nat} (g:h.row=b0::t) (j:Cf) (M:j.mix=cf.mix) (N:j.fifo=cf.fifo) (O:t.length<=j.large):Inv j { h with rg:=h.rg.filter λx=>x.base≠b0,rel:=h.rel++[b0],row:=t }:=by
 obtain⟨p,m,X,A⟩:=(i.row b0).1 (by rw [g];simp);have s:=i.rownd;rw [g] at s;obtain⟨P,Q⟩:=GI.1 s;have d:∀ x,x∈(h.rg.filter λx=>decide (x.base≠b0))↔x∈h.rg/\x.base≠b0:=λx=>by rw [Gk];simp
 refine⟨i.st,i.fine,i.out,i.slab,i.off,i.req,λc B=>M▸i.mxl c B,λc B=>N▸i.ffl c B,i.ffn,i.mxn,i.wait,i.wlt,i.wnd,λy u=>i.rgs y ((d y).1 u).1,i.apart.filter _,λk R=>?_,i.low,λb=>?_,Q,O,λb z=>?_⟩
 ·show (h.m k).isSome=true↔_;rw [i.big k R];constructor;·rintro⟨x,f,o,n⟩;refine⟨x,(d x).2 ⟨f,λe=>?_⟩,o,n⟩;have:=i.one f m (e.trans A.symm);subst this;omega
  rintro⟨x,f,q⟩;exact⟨x,((d x).1 f).1,q⟩
 ·show b∈t↔_;have l:=i.row b;rw [g] at l;constructor;·intro z;obtain⟨x,f,o,n⟩:=l.1 (Ij _ z);refine⟨x,(d x).2 ⟨f,λe=>?_⟩,o,n⟩;rw [n] at e;subst e;exact P z
  rintro⟨x,f,o,n⟩;obtain⟨r,v⟩:=(d x).1 f;rcases F4.1 (l.2 ⟨x,r,o,n⟩) with e|e;·exact absurd (n.trans e) v
  exact e
 rcases F8.1 z with r|r;·obtain⟨o,n,l,v⟩:=i.rel b r;exact⟨o,n,l,λy u=>v y ((d y).1 u).1⟩
 simp at r;subst r;obtain⟨Y,b2,b3,b4,b5,b6⟩:=i.rgs p m;obtain⟨f1,f2,f3,f4⟩:=tN i m;rw [A] at f2 f3;refine⟨f3,Z,Z,λy u=>?_⟩;obtain⟨F,G⟩:=(d y).1 u;rw [f2];have K:∀ {l:List Rg9},(l.Pairwise λa b=>a.first+a.ext<=b.first\/b.first+b.ext<=a.first)->y∈l->p∈l->y.first+y.ext<=p.first\/p.first+p.ext<=y.first:=λ{l}=>by
  induction l with
  | nil=>intro _ f;cases f
  | cons a t S =>
   intro T f V;obtain⟨L,W⟩:=List.pairwise_cons.1 T;rcases F4.1 f with v|v <;> rcases F4.1 V with w|w
   ·have:=v.trans w.symm;subst this;exact absurd A G
   ·subst v;exact L p w
   ·subst w;have:=L y v;omega
   exact S W v w
 have:=K i.apart F m;omega
theorem Inv.fRange (i:Inv cf h) (e:r∈h.rg) (f:r.st=1):Inv cf (aJ cf h r):=by
 rw [cG];by_cases c:cf.large<(h.row++[r.base]).length
 ·rw [GP c];have g:=i.fA e f { cf with large:=cf.large+1 } rfl rfl (by have:=i.rowl;dsimp only;omega);obtain⟨d,t,b⟩:∃ d t,h.row++[r.base]=d::t:=by
   cases h.row with
   | nil=>exact ⟨_,_,rfl⟩
   | cons a l=>exact ⟨a,l++[r.base],rfl⟩
  have j:=g.leave (b0:=d) (t:=t) b cf rfl rfl (by
   have k:=congrArg List.length b;have:=i.rowl;simp at k;omega)
  rw [b];exact j
 rw [GO c];exact i.fA e f cf rfl rfl (by simp at c;omega)
theorem jf (h:a<=1016):fD a<12/\a+8<=cy (fD a):=(zO h).2
inductive Seen (h:Hs) (p:Nat):Fd->Prop
 | slot (c s j:Nat):c<12->s<6->j<aM c->bh c s j=p->h.st c s j=1->Seen h p (.slot c s j)
 | range (r:Rg9):r∈h.rg->r.base=p->r.st=1->Seen h p (.range r)
 | no (code:Int):(code=3\/code=4)->Seen h p (.no code)
theorem oD {t:Nat×Nat×Nat} (h:t∈dF):t.1<12/\t.2.1<6/\t.2.2<aM t.1:=by
 unfold dF at h;simp only [List.mem_flatMap,Gh,FQ] at h;obtain⟨c,a,s,b,j,d,rfl⟩:=h;exact⟨a,b,d⟩
theorem bT (h p):Seen h p (aB h p):=by
 unfold aB;cases e:ce p with
 | some t =>
  obtain⟨c,s,j⟩:=t;unfold ce at e;have a:=oD (Ip e);have b:=List.find?_some e;simp at b;dsimp only at a ⊢;split;·rename_i d;exact .slot c s j a.1 a.2.1 a.2.2 b d
  split;·exact .no 3 (.inl rfl)
  exact .no 4 (.inr rfl)
 | none =>
  dsimp only;cases f:h.rg.find? λr=>r.base==p with
  | some r =>
   have a:=Ip f;have b:=List.find?_some f;simp at b;dsimp only;split;·rename_i d;exact .range r a b d
   exact .no 4 (.inr rfl)
  | none =>
   dsimp only;split;·exact .no 4 (.inr rfl)
   exact .no 3 (.inl rfl)
structure Few (k:Nat) (h:Hs):Prop where
 rg:h.rg.length<=k
 rel:h.rel.length<=k
 row:h.row.length<=k
 used:h.used<=2100*k
theorem Few.mono {b:Nat} (f:Few k h) (a:k<=b):Few b h :=
 ⟨Fx f.rg a,Fx f.rel a,Fx f.row a,Fx f.used (IJ _ a)⟩
theorem Inv.malloc (i:Inv cf h) (f:Few k h) (a):Inv cf (av cf h a).2/\(av cf h a).2.rg.length<=k+1/\(av cf h a).2.rel.length<=k/\(av cf h a).2.row.length<=k/\(av cf h a).2.used<=h.used+2000:=by
 unfold av;by_cases ha:a<=1016
 ·rw [GP ha];obtain⟨l,t⟩:=jf ha;generalize fD a=c at *;obtain⟨g,m⟩:=Inv.small l 2000 i;cases e:bN cf c 2000 h with
  | mk o p =>
   rw [e] at g m;have f1:p.rg.length<=k+1/\p.rel.length<=k/\p.row.length<=k:=by
    dsimp only at g;rw [g.stay.rg,g.stay.rel,g.stay.row];exact⟨by have:=f.rg;omega,f.rel,f.row⟩
   cases o with
   | none=>exact ⟨g.inv,f1.1,f1.2.1,f1.2.2,m⟩
   | some q =>
    obtain⟨s,j⟩:=q;obtain⟨u,v,r,d,_,_⟩:=g.some s j rfl;rw [jL] at d;have x:=aX l;have b:=g.inv.setSt l u v 1 (a:Int) Z Z Z (by dsimp only at d ⊢;omega) (.inr r) (λ_=>⟨Z,Z⟩) (λe=>absurd rfl e);exact⟨b.bytes (bh c s j+eV c) (can cf (bh c s j)) 8,f1.1,f1.2.1,f1.2.2,m⟩
 rw [GO ha];dsimp only;have y:=mW cf h (n:=3) Z;have b:=i.used (h.used+1);have f0:=f.rg;split;·exact⟨b,iM,f.rel,f.row,iM⟩
 split;·exact⟨b,iM,f.rel,f.row,iM⟩
 rename_i s w;split;·exact⟨b,iM,f.rel,f.row,iM⟩
 refine⟨b.large Z Z Z w,bG,?_,f.row,iM⟩;exact Fx (Hb _ _) f.rel
theorem Inv.fAny (i:Inv cf h) (d:1<=cf.fifo) {x:Fd} (k:Seen h p x):Inv cf (db cf h x)/\(db cf h x).rg.length<=h.rg.length/\(db cf h x).rel.length<=h.rel.length+1/\(db cf h x).row.length<=h.row.length+1/\(db cf h x).used<=h.used+1:=by
 cases k with
 | slot c s j f e l u m =>
  refine⟨i.fSlot d f e l m,?_⟩;show (aL cf h c s j).rg.length<=_/\(aL cf h c s j).rel.length<=_/\(aL cf h c s j).row.length<=_/\(aL cf h c s j).used<=_;rw [cW];have ha:(bX cf h c s j).rg=h.rg/\(bX cf h c s j).rel=h.rel/\(bX cf h c s j).row=h.row/\(bX cf h c s j).used<=h.used+1:=by
   unfold bX;refine⟨rfl,rfl,rfl,?_⟩;dsimp only;split <;> omega
  have g:∀ a b,(bK (bX cf h c s j) c a b).rg=h.rg/\(bK (bX cf h c s j) c a b).rel=h.rel/\(bK (bX cf h c s j) c a b).row=h.row/\(bK (bX cf h c s j) c a b).used<=h.used+1:=λa b=>by
   unfold bK;dsimp only;split <;> exact ha
  split;·rw [ha.1,ha.2.1,ha.2.2.1];exact⟨Fv _,Z,Z,ha.2.2.2⟩
  obtain⟨n,o,q,t⟩:=g ((er cf h c s j).toNat/aM c) ((er cf h c s j).toNat%aM c);rw [n,o,q];exact⟨Fv _,Z,Z,t⟩
 | range r b g e =>
  refine⟨i.fRange b e,?_⟩;show (aJ cf h r).rg.length<=_/\(aJ cf h r).rel.length<=_/\(aJ cf h r).row.length<=_/\(aJ cf h r).used<=_;rw [cG];unfold tV;split;·dsimp only;refine⟨?_,bH,bH,Z⟩;exact Fx (Hb _ _) bH
  dsimp only;exact⟨bH,Z,bH,Z⟩
 | no b f=>exact ⟨i,Fv _,Nat.le_add_right _ _,Nat.le_add_right _ _,Nat.le_add_right _ _⟩
theorem Inv.realloc (i:Inv cf h) (w:1<=cf.fifo) (f:Few k h) (p a):Inv cf (a_ cf h p a).2/\Few (k+1) (a_ cf h p a).2:=by
 obtain⟨l,x,F,G,K⟩:=i.malloc f a;have Y:=f.used;have n:Few (k+1) h:=f.mono Z;have u:Few (k+1) (av cf h a).2:=⟨x,Z,Z,Z⟩;have L:∀ d:Nat,∀ q b,av cf h a=(some q,b)->Inv cf (db cf { b with m:=aZ b.m p q (min d a) } (aB { b with m:=aZ b.m p q (min d a) } p))/\Few (k+1) (db cf { b with m:=aZ b.m p q (min d a) } (aB { b with m:=aZ b.m p q (min d a) } p)):=λd q b e=>by
  rw [e] at l x F G K;dsimp only at l x F G K;have Q:Inv cf { b with m:=aZ b.m p q (min d a) }:=l.bytes q _ _;obtain⟨R,S,T,V,W⟩:=Q.fAny w (bT _ p);generalize db cf { b with m:=aZ b.m p q (min d a) } (aB { b with m:=aZ b.m p q (min d a) } p)=M at *;dsimp only at S T V W;exact⟨R,Z,Z,Z,Z⟩
 unfold a_;dsimp only;by_cases y:p=0
 ·rw [GP y];cases e:av cf h a with
  | mk o b =>
   rw [e] at l u;cases o with
   | none=>exact ⟨l,u⟩
   | some q=>exact ⟨l,u⟩
 rw [GO y];have t:=bT h p;cases e:aB h p with
 | no N=>exact ⟨i,n⟩
 | slot c s j =>
  rw [e] at t;dsimp only;split;·exact⟨i,n⟩
  split
  ·rename_i g;cases t with
   | slot _ _ _ z t O y P =>
    obtain⟨_,A⟩:=jf g.1;rw [g.2] at A;have hz:=aX z;have B:dA h c s=true:=by
     cases M:dA h c s with
     | true=>rfl
     | false=>have:=i.off c s z t M j O;rw [P] at this;simp [be] at this
    have:=i.setSt z t O 1 (a:Int) Z Z Z Z (.inr B) (λ_=>⟨Z,Z⟩) (λe=>absurd rfl e);rw [gy h.st P] at this;exact⟨this,n.rg,n.rel,n.row,n.used⟩
  cases v:av cf h a with
  | mk o b =>
   cases o with
   | none=>rw [v] at l u;exact⟨l,u⟩
   | some q=>exact L _ q b v
 | range r =>
  rw [e] at t;dsimp only;split
  ·rename_i g;cases t with
   | range _ X hb t =>
    refine⟨i.setRq X t g.1 g.2,?_⟩;exact⟨by simp;exact n.rg,n.rel,n.row,n.used⟩
  cases v:av cf h a with
  | mk o b =>
   cases o with
   | none=>rw [v] at l u;exact⟨l,u⟩
   | some q=>exact L _ q b v
theorem Inv.do (i:Inv cf h) (g:1<=cf.fifo) (f:Few k h) (o p):Inv cf (dv cf h o p).2/\Few (k+1) (dv cf h o p).2:=by
 have a:Few (k+1) h:=f.mono Z;have v:=f.used;have t:∀ n,Inv cf (av cf h n).2/\Few (k+1) (av cf h n).2:=λn=>by
  obtain⟨b,d,e,l,m⟩:=i.malloc f n;exact⟨b,d,Z,Z,Z⟩
 have b:∀ n,Inv cf (match av cf h n with
  | (none,d)=>(An4.no 1,d)
  | (some q,d)=>(⟨0,q,0,[]⟩,d)).2/\Few (k+1) (match av cf h n with
  | (none,d)=>(An4.no 1,d)
  | (some q,d)=>(⟨0,q,0,[]⟩,d)).2:=λn=>by
  have:=t n
  cases e:av cf h n with
  | mk o d =>
   rw [e] at this;cases o with
   | none=>exact this
   | some q=>exact this
 unfold dv;dsimp only;split;·exact b _
 split
 ·split;·exact⟨i,a⟩
  exact b _
 split;·exact i.realloc g f p o.a
 split
 ·have u:=bT h p;obtain⟨l,w,x,y,z⟩:=i.fAny g u;have m:Few (k+1) (db cf h (aB h p)):=⟨by have:=f.rg;omega,by have:=f.rel;omega,by have:=f.row;omega,Z⟩;cases e:aB h p with
  | no d=>exact ⟨i,a⟩
  | slot c s j =>
   rw [e] at l m;dsimp only;split;·exact⟨i,a⟩
   exact⟨l,m⟩
  | range r=>rw [e] at l m;exact⟨l,m⟩
 split
 ·cases e:aB h p with
  | no d=>exact ⟨i,a⟩
  | slot c s j=>exact ⟨i,a⟩
  | range r=>exact ⟨i,a⟩
 split;·split <;> exact ⟨i,a⟩
 split
 ·dsimp only;split;·exact⟨i.bytes p o.ys _,a.rg,a.rel,a.row,a.used⟩
  exact⟨i,a⟩
 exact⟨i,a⟩
theorem Inv.step (i:Inv cf h) (a:1<=cf.fifo) (f:Few k h) (an o):Inv cf (bU cf h an o).2/\Few (k+1) (bU cf h an o).2:=by
 unfold bU;split;·exact i.do a f o _
 split;·exact⟨i,f.mono Z⟩
 exact i.do a f o _
inductive Area (h:Hs) (p n:Nat):Prop
 | slot (c s j:Nat):c<12->s<6->j<aM c->bh c s j=p->h.st c s j=1->n<=cy c->Area h p n
 | range (r:Rg9):r∈h.rg->r.base=p->r.st=1->n<=r.pages*1024->Area h p n
theorem Inv.on1 (i:Inv cf h) (a:c<12) (b:s<6) (d:j<aM c) (e:be (h.st c s j)=false):dA h c s=true:=by
 cases f:dA h c s with
 | true=>rfl
 | false=>have:=i.off c s a b f j d;rw [e] at this;cases this
theorem Inv.openA (i:Inv cf h) (a:Area h p n) (q:k<n):isOpen (h.m ((p+k)/1024))=true:=by
 rw [i.fine.open];cases a with
 | slot c s j d b f t l m =>
  have e:=i.on1 d b f (by rw [l];rfl);have o:=ca d b f;have u:aD c s*1024<=bh c s j:=by unfold bh;omega
  have g:=i.slab c s d b ((p+k)/1024-aD c s) Z;rw [show aD c s+((p+k)/1024-aD c s)=(p+k)/1024 by omega,e] at g;exact g
 | range r d e b m =>
  have o:=i.rgs r d;unfold Rg9.base at e;exact (i.big _ Z).2 ⟨r,d,b,Z,Z⟩
theorem gN {a d b:Nat} (l:c<12) (m:s<6) (n:j<aM c) (f:a<12) (g:d<6) (i:b<aM a) (k:¬(c=a/\s=d/\j=b)):bh c s j+cy c<=bh a d b\/bh a d b+cy a<=bh c s j:=by
 have o:=ca l m n;have p:=ca f g i;have q:aD c s*1024<=bh c s j:=by unfold bh;omega
 have r:aD a d*1024<=bh a d b:=by unfold bh;omega
 by_cases e:c=a/\s=d
 ·obtain⟨rfl,rfl⟩:=e;unfold bh;rcases Ie j b with h|h|h;·have:(j+1)*cy c<=b*cy c:=Gm _ h;rw [Gy,GF] at this;omega
  ·exact absurd ⟨rfl,rfl,h⟩ k
  have:(b+1)*cy c<=j*cy c:=Gm _ h;rw [Gy,GF] at this;omega
 have:=ew l m f g e;omega
theorem Inv.far (i:Inv cf h) (d:r∈h.rg) (k:q∈h.rg) (e:r≠q):r.first+r.ext<=q.first\/q.first+q.ext<=r.first:=by
 have f:∀ {l:List Rg9},(l.Pairwise λa b=>a.first+a.ext<=b.first\/b.first+b.ext<=a.first)->r∈l->q∈l->r.first+r.ext<=q.first\/q.first+q.ext<=r.first:=λ{l}=>by
  induction l with
  | nil=>intro _ g;cases g
  | cons a t m =>
   intro n g d;obtain⟨j,o⟩:=List.pairwise_cons.1 n;rcases F4.1 g with b|b <;> rcases F4.1 d with c|c
   ·exact absurd (b.trans c.symm) e
   ·subst b;exact j q c
   ·subst c;have:=j r b;omega
   exact m o b c
 exact f i.apart d k
theorem Inv.apartA (i:Inv cf h) {q m} (a:Area h p n) (b:Area h q m) (k:p≠q):p+n<=q\/q+m<=p:=by
 cases a with
 | slot c s j t v x y L z =>
  cases b with
  | slot A B F e d f l w g =>
   have:=gN t v x e d f (by rintro ⟨rfl,rfl,rfl⟩;exact k (y.symm.trans l));omega
  | range r u o d g =>
   have G:=ca t v x;have K:=i.rgs r u;unfold Rg9.base at o;omega
 | range r u o v z =>
  cases b with
  | slot A B F e d f l w g =>
   have G:=ca e d f;have K:=i.rgs r u;unfold Rg9.base at o;omega
  | range y x t d g =>
   have:=i.far u x (by rintro rfl;exact k (o.symm.trans t));unfold Rg9.ext at this;unfold Rg9.base at o t;omega
theorem gE (a:Nat):a<=aR a*1024:=by
 unfold aR;split <;> omega
structure Gave (cf:Cf) (h:Hs) (a q:Nat) (h1:Hs):Prop where
 inv:Inv cf h1
 area:Area h1 q a
 fresh:∀ n,¬Area h q n
 live:∀ c s j,c<12->s<6->j<aM c->h.st c s j=1->h1.st c s j=1/\h1.rq c s j=h.rq c s j
 rg:h1.rg=h.rg\/∃ r,h1.rg=h.rg++[r]/\r.base=q
 rel:∀ b,b∈h1.rel->b∈h.rel
theorem Inv.gave (i:Inv cf h) {q:Nat} {K:Hs} (d:av cf h a=(some q,K)):Gave cf h a q K:=by
 have L:=(i.malloc (k:=h.rg.length+h.rel.length+h.row.length+h.used) ⟨Z,Z,Z,Z⟩ a).1;rw [d] at L;dsimp only at L;unfold av at d;by_cases ha:a<=1016
 ·rw [GP ha] at d;obtain⟨B,T⟩:=jf ha;generalize fD a=c at *;obtain⟨g,V⟩:=Inv.small B 2000 i;cases e:bN cf c 2000 h with
  | mk o R =>
   rw [e] at g V d;cases o with
   | none=>simp at d
   | some t =>
    obtain⟨s,j⟩:=t;simp at d;obtain⟨rfl,rfl⟩:=d;obtain⟨M,N,W,X,x,Y⟩:=g.some s j rfl;refine⟨L,.slot c s j B M N rfl (aS _ _ _ _ _) Z,λn O=>?_,λu v w l f m F=>?_,.inl g.stay.rg,λb y=>g.stay.rel▸y⟩
    ·cases O with
     | slot u v w l f m P G z =>
      by_cases p:u=c/\v=s/\w=j;·obtain⟨rfl,rfl,rfl⟩:=p;rw [G] at x;simp [be] at x
      have:=gN l f m B M N p;have z1:=aX B;have z2:=aX l;omega
     | range r A y f z =>
      have K:=ca B M N;have S:=i.rgs r A;unfold Rg9.base at y;omega
    have p:¬(u=c/\v=s/\w=j):=by
     rintro⟨rfl,rfl,rfl⟩;rw [F] at x;simp [be] at x
    have Q:=g.stay.live u v w (by rw [F];rfl);refine⟨?_,?_⟩;·show aE R.st c s j 1 u v w=1;rw [aU _ _ p];exact Q.trans F
    show aE R.rq c s j a u v w=h.rq u v w;rw [aU _ _ p];exact congrFun (congrFun (congrFun g.stay.rq u) v) w
 rw [GO ha] at d;dsimp only at d;have hd:=mW cf h (n:=3) Z;split at d;·simp at d
 split at d;·simp at d
 rename_i s A;split at d;·simp at d
 obtain⟨r1,r2,r3⟩:=gO A;simp at d;obtain⟨rfl,rfl⟩:=d;have hp:=gE a;refine⟨L,.range ⟨s,1+dr cf h 3,aR a,1,a⟩ (List.mem_append_right _ (List.mem_singleton.2 rfl)) rfl rfl hp,λn O=>?_,λu v w l f m F=>⟨F,rfl⟩,.inr ⟨_,rfl,rfl⟩,λb y=>(Gk.1 y).1⟩;cases O with
 | slot u v w l f m P G z =>
  have K:=ca l f m;omega
 | range r A y f z =>
  have S:=r3 r A;have h3:=i.rgs r A;unfold Rg9.base at y;unfold Rg9.ext at S;omega
theorem Gave.keeps {h1 q} (g:Gave cf h a q h1) (A:Area h p n):Area h1 p n/\p≠q:=by
 refine⟨?_,λe=>g.fresh n (e▸A)⟩;cases A with
 | slot c s j f b i k l d=>exact .slot c s j f b i k (g.live c s j f b i l).1 d
 | range r f i b d =>
  refine .range r ?_ i b d;rcases g.rg with e|⟨k,e,_⟩;·rw [e];exact f
  rw [e];exact IF _ f
theorem gW {h':Hs} (a:aB h p=.slot c s j) (d:h'.st c s j=1):aB h' p=.slot c s j:=by
 unfold aB at a ⊢;cases e:ce p with
 | some t =>
  obtain⟨b,f,g⟩:=t;rw [e] at a;dsimp only at a ⊢;split at a;·simp at a;obtain⟨rfl,rfl,rfl⟩:=a;rw [GP d]
  split at a <;> cases a
 | none =>
  rw [e] at a;dsimp only at a;cases b:h.rg.find? λr=>r.base==p with
  | some r=>rw [b] at a;dsimp only at a;split at a <;> cases a
  | none=>rw [b] at a;dsimp only at a;split at a <;> cases a
theorem fV {h':Hs} (a:aB h p=.range r) (f:h'.rg=h.rg\/∃ d,h'.rg=h.rg++[d]):aB h' p=.range r:=by
 unfold aB at a ⊢;cases e:ce p with
 | some t =>
  obtain⟨b,c,g⟩:=t;rw [e] at a;dsimp only at a ⊢;split at a;·cases a
  split at a <;> cases a
 | none =>
  rw [e] at a;dsimp only at a ⊢;cases b:h.rg.find? λr=>r.base==p with
  | some g =>
   rw [b] at a;have i:(h'.rg.find? λr=>r.base==p)=some g:=by
    rcases f with c|⟨d,c⟩;·rw [c];exact b
    rw [c,List.find?_append,b];rfl
   rw [i];exact a
  | none=>rw [b] at a;dsimp only at a;split at a <;> cases a
theorem vz (m) (p:Nat) (x) (a:Nat) (h:a≠p):bO (dZ m p x) a=bO m a:=by
 unfold bO dZ;by_cases e:a/1024=p/1024
 ·rw [e,bV];have b:p%1024≠a%1024:=Z;cases m (p/1024) with
  | none=>rfl
  | some q=>simp [b]
 rw [aW _ _ _ _ e]
theorem h_ (m) (q:Nat) (ys) (a:Nat):∀ k,(a<q\/q+k<=a)->bO (ay m q ys k) a=bO m a
 | 0,_=>rfl
 | k+1,h=>by
  show bO (dZ (ay m q ys k) (q+k) _) a=_
  rw [vz _ _ _ _ Z]
  exact h_ m q ys a k Z
end
end Go.Proofs.YtdngbppdomoenaaGreatDoor
