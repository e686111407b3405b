import Derived.Test.YtdngbppdomoenaaGreatDoorN10
set_option linter.unusedVariables false
set_option linter.unusedSimpArgs false
set_option maxRecDepth 20000
set_option maxHeartbeats 8000000
namespace Go.Proofs.YtdngbppdomoenaaGreatDoor
open Go.Proofs.Tryz
variable {ms zs:List Int} {B Q c k n:Nat} {W W' W0 w:World} {cf:Cf} {a:Option Addr} {z:Int} {x:Sm} {h:Hs}
section
open Go.ChangeShapes Go.WideShapes Go.ChangeAt Go.RowKit
theorem wL (a:List Int) (i k:Nat) (x:Int) (b:k<a.length):(a.set i x).take (k+1)=(a.set i x).take k++[if k=i then x else a[k]?.getD 0]:=by
 rw [FN];congr 1;rw [Gc];by_cases h:i=k;·subst h;simp [b]
 rw [Gu h,Gu (λe=>h e.symm)];simp [b]
structure Lp (w:World) (s o:Nat) (am:Option Addr) (lm cm:Nat) (af:Option Addr) (lf cf n:Nat) (k:Nat) (a:Option Addr) (c:Nat) (ms:List Int) (W:World):Prop where
 ob:W.heap[o]?=some (.cells #[.slice a k c,C,I n] 68)
 ow:Ow W (o+1) a c (ms.take k)
 s0:W.heap[s]?=some (.cells #[.slice am lm cm,.slice af lf cf,I n] 68)
 s1:W.heap[s+1]?=some (.cells #[C,C,I 0] 68)
 b:D w W
theorem EV (h:k<=ms.length):(ms.take k).length=k:=bK
theorem Lp.next {s o am lm cm af lf cf} (h:Lp w s o am lm cm af lf cf n k a c ms W) (p:w.heap.size=s) (q:s+1<o) (z:ms.length=lm) (A:k<lm) (r:lm<=16) (x:Int) (t:ms.take (k+1)=ms.take k++[x]) :
  ∃ d e W',(Builtin.append_ #[24,24] 24 #[.slice a k c,Vl W.heap.size 1 1]).run prog (W.alloc (.cells #[I x] 3))=.ok (.slice d (k+1) e) W'/\W'.cell? ⟨o,0,none⟩=some (.slice a k c)/\W'.frozen? ⟨o,0,none⟩=false/\Lp w s o am lm cm af lf cf n (k+1) d e ms (W'.setCell ⟨o,0,none⟩ (.slice d (k+1) e)):=by
 have b:D W (W.alloc (.cells #[I x] 3)):=(Fc _ W).alloc (Fe _) _;have l:=EV (ms:=ms) (k:=k) Z;have B:=dI h.ob;obtain⟨d,e,W',m,i,f⟩:=kQ (W.alloc (.cells #[I x] 3)) (o+1) a c (ms.take k) (some ⟨W.heap.size,0,none⟩) 1 1 [x] (h.ow.below b) rfl bF (.inr ⟨_,rfl,λj u g=>by
  cases j with
  | zero =>
   simp [Ns] at g;subst g;rw [show (⟨W.heap.size,0,none⟩:Addr).add 0=⟨W.heap.size,0,none⟩ from rfl,Gz _ _ _ _ _ _ (dD W _)];rfl
  | succ j=>simp [Ns] at g⟩) (by rw [l];omega) (by have:=b.size;omega)
 rw [l] at m;rw [<-t] at i;have j:=f.at (ae h.ob b) Z;have v:=f.at (ae h.s0 b) Z;have y:=f.at (ae h.s1 b) Z;refine⟨d,e,W',m,bY j,GG _ _ _ _ _ j,⟨?_,?_,l_ v _ _ _ Z,l_ y _ _ _ Z,?_⟩⟩;·rw [Hm _ _ _ _ _ _ j];rfl
 ·exact i.but (S:=λk=>k=o) ((But.refl _ W').set _ _ _ rfl) (λg e=>by have:=(i.base g e).1;omega)
 exact ((az h.b b).trans (f.below (by rw [p];have:=b.size;omega) (λg b=>Z))).setCell iK _
theorem ub (W base a c zs y) (h:Ow W base a c zs) (f:zs.length<=1000000) (g:base<=W.heap.size) :
  ∃ b d W',(Builtin.append_ #[24,24] 24 #[.slice a zs.length c,Vl W.heap.size 1 1]).run prog (W.alloc (.cells #[I y] 3))=.ok (.slice b (zs.length+1) d) W'/\Ow W' base b d (zs++[y])/\But (λk=>base<=k) W W':=by
 have e:D W (W.alloc (.cells #[I y] 3)):=(Fc _ W).alloc (Fe _) _;obtain⟨b,d,W',i,l,g⟩:=kQ (W.alloc (.cells #[I y] 3)) base a c zs (some ⟨W.heap.size,0,none⟩) 1 1 [y] (h.below e) rfl bF (.inr ⟨_,rfl,λj u f=>by
  cases j with
  | zero =>
   simp [Ns] at f;subst f;rw [show (⟨W.heap.size,0,none⟩:Addr).add 0=⟨W.heap.size,0,none⟩ from rfl,Gz _ _ _ _ _ _ (dD W _)];rfl
  | succ j=>simp [Ns] at f⟩) Z (by have:=e.size;omega)
 exact⟨b,d,W',i,l,(But.ofBelow e).trans g⟩
theorem Sl.srcs (h:Sl w a zs):(a=none/\zs=[])\/∃ b,a=some b/\∀ j u,(Ns .i64 zs)[j]?=some u->w.cell? (b.add j)=some u:=by
 rcases h with h|⟨g,rfl,d⟩;·exact .inl h
 right;refine⟨_,rfl,λj v b=>?_⟩;have c:j<(Ns .i64 zs).length:=by
  by_cases c:j<(Ns .i64 zs).length;·exact c
  rw [Ft Z] at b;cases b
 have:=d.cell j c;rw [b] at this;have e:(⟨g,0,none⟩:Addr).add j=⟨g,j,none⟩:=by cases j <;> simp [Addr.add]
 rw [e];exact this
def BG (w:World) (n:Nat) (M F:List Int) (z:Int) (e:Ending) (l:World):Prop :=
 ∃ i c1 j c2,e=.returned (.tuple #[wv i M.length c1 j F.length c2 (n:Nat),I z])/\Wt l i M.length j F.length M F/\(i=none->c1=0)/\(j=none->c2=0)/\D w l/\(∀ g,i=some ⟨g,0,none⟩->w.heap.size<=g)/\(∀ g,j=some ⟨g,0,none⟩->w.heap.size<=g)
theorem Lp.fin {s o am lm cm af lf cf W2} (h:Lp w s o am lm cm af lf cf n lm a c ms W) (K:w.heap.size=s) (y:s+1<o) (v:ms.length=lm) {a2 c2 F} (p:D W W2) (m:Ow W2 W.heap.size a2 c2 F) :
  W2.heap[o]?=some (.cells #[.slice a lm c,C,I n] 68)/\(∀ b,b=W2.setCell ⟨o,1,none⟩ (.slice a2 F.length c2)\/b=(W2.setCell ⟨o,1,none⟩ (.slice a2 F.length c2)).drew ->
   b.cell? ⟨o,0,none⟩=some (.slice a lm c)/\b.cell? ⟨o,1,none⟩=some (.slice a2 F.length c2)/\b.cell? ⟨o,2,none⟩=some (I n) /\
   b.heap[s+1]?=some (.cells #[C,C,I 0] 68) /\
   ∀ f z,f=((b.setCell ⟨s+1,0,none⟩ (.slice a lm c)).setCell ⟨s+1,1,none⟩ (.slice a2 F.length c2)).setCell ⟨s+1,2,none⟩ (I n)\/f=(((b.setCell ⟨s+1,0,none⟩ (.slice a lm c)).setCell ⟨s+1,1,none⟩ (.slice a2 F.length c2)).setCell ⟨s+1,2,none⟩ (I n)).drew->BG w n ms F z (.returned (.tuple #[.agg #[.slice a lm c,.slice a2 F.length c2,I n],I z])) f):=by
 have L:=dI h.ob;have q:=ae h.ob p;have A:=ae h.s1 p;have e:ms.take lm=ms:=by rw [<-v,GK]
 have l:=h.ow;rw [e] at l;refine⟨q,λb x=>?_⟩;have d:But (λk=>k=o) W2 b:=by
  rcases x with rfl|rfl;·exact (But.refl _ W2).set _ _ _ rfl
  exact ((But.refl (λk=>k=o) W2).set _ _ _ rfl).drew
 have i:b.heap[o]?=some (.cells #[.slice a lm c,.slice a2 F.length c2,I n] 68):=by
  rcases x with rfl|rfl;·rw [Hm _ _ _ _ _ _ q];rfl
  show (W2.setCell ⟨o,1,none⟩ _).heap[o]?=_;rw [Hm _ _ _ _ _ _ q];rfl
 refine⟨bY i,bY i,bY i,d.at A Z,λf z B=>?_⟩;have j:But (λk=>k=s+1) b f:=by
  rcases B with rfl|rfl;·exact (((But.refl (λk=>k=s+1) b).set _ _ _ rfl).set _ _ _ rfl).set _ _ _ rfl
  exact ((((But.refl (λk=>k=s+1) b).set _ _ _ rfl).set _ _ _ rfl).set _ _ _ rfl).drew
 have r:Sl f a ms:=(((l.below p).but d (λg e=>by have:=(l.base g e).1;omega)).but j (λg e=>by have:=(l.base g e).1;omega)).sl;have t:Sl f a2 F:=((m.but d (λg e=>by have:=(m.base g e).1;omega)).but j (λg e=>by have:=(m.base g e).1;omega)).sl;refine⟨a,c,a2,c2,by rw [v];rfl,⟨r,rfl,t,rfl⟩,l.cap0,m.cap0,?_,λg e=>by have:=(l.base g e).1;omega,λg e=>by have:=(m.base g e).1;have:=h.b.size;omega⟩;have u:=az h.b p;exact (u.trans (d.below (by have:=u.size;omega) (λg G=>Z))).trans (j.below (by have:=u.size;have:=d.size;omega) (λg G=>Z))
theorem Ow.mono {b i:Nat} (h:Ow w i a c zs) (l:b<=i):Ow w b a c zs:=by
 refine⟨h.1,?_⟩;rcases h.2 with j|⟨g,d,f,e,m,k⟩;·exact .inl j
 exact .inr ⟨g,d,f,e,Z,k⟩
theorem dA {c:Array Oper} {b:List Oper} {o:Oper} {a:Act} {Q:Exit->Act->World->Prop} (d:o.guard=none) (s x:Operand)
  (i:o.op=.call { callee:=.builtin .append,args:=#[s,x],argTypes:=#[24,24] }) (j:o.type=24) {v e f:Value} {g:World} (k:a.eval s=v) (l:a.eval x=e)
  (m:(Builtin.append_ #[24,24] 24 #[v,e]).run prog w=.ok f g) (h:wpList prog c Q b (a.put o.dst f) g):wpList prog c Q (o::b) a w:=by
 refine Ii d λK n=>?_;unfold Oper.wp;simp [execOp,i,j,resolve,invoke,builtin,k,l,m,Result.andThen];exact n _ _ h
def iD (mix:List Int) (i:Nat) (x:Int) (k:Nat):Int:=if i<k then mix[i]?.getD 0 else x
theorem vg (am b cm af lf) (cf n:Nat) (mix fifo) (x:Int) (d w) (h:Wt w am b af lf mix fifo) (a8:af=none->cf=0) (f:fh mix fifo (n:Nat)=true) (hx:0<=x) :
  Calls prog 168 #[wv am b cm af lf cf (n:Nat),I x,I d] w λe w'=>BG w n (er n mix fifo x d).1 (er n mix fifo x d).2.1 (er n mix fifo x d).2.2 e w':=by
 obtain⟨i,j⟩:∃ i,i=md d b:=⟨_,rfl⟩;have g:=H (lC w (.cells #[.slice am b cm,.slice af lf cf,I n] 68) (.cells #[C,C,I 0] 68));have l:=H (uU am b cm af lf cf (n:Nat) mix fifo _ (h.below g.2.2));rw [f] at l;obtain⟨g1,g2,g3,g4⟩:=s_ f;rw [h.ml] at g1;rw [h.fl] at g4;have LM:=H (λW (P:0<b)=>lR d b W P Z);rw [<-j] at LM;have HI:=H (show 0<b->i<b from λP=>j▸ru d b P);have CM:=H (λW (hW:D w W)=>(h.m.below hW).cells);have GS:=H (λW (hW:D w W)=>(h.f.below hW).srcs);have ML:=H h.ml;have M:=H h.fl;have b7:¬(x<0):=Z;have HW:=H (show er n mix fifo x d=if b=0 then ([],(cQ n fifo x).1,(cQ n fifo x).2) else if mix[i]?.getD 0 = -1 then (mix.set i x,fifo,-1) else (mix.set i x,(cQ n fifo (mix[i]?.getD 0)).1,(cQ n fifo (mix[i]?.getD 0)).2) by
  unfold er;rw [h.ml,<-j];by_cases L:b=0;·rw [Gv L,Gv (List.length_eq_zero_iff.1 (by rw [h.ml];exact L))]
  rw [Gu L,Gu (λe=>L (by rw [<-h.ml,e];rfl))])
 have NB:=H (show ∀ k,k<b -> -1<=mix[k]?.getD 0 by
  intro k hk;unfold fh at f;simp only [FV] at f;have:=f.2.2.2.2.1;unfold nb at this;rw [List.all_eq_true] at this;have m:k<mix.length:=by rw [h.ml];exact hk
  have o:=this (mix[k]) bF;simp [m] at o ⊢;exact o)
 unfold wv at l ⊢;clear h f j;go_enter func168,ntmps168;go_wp2_with fail;refine (l).mono ?_;rintro e Q ⟨rfl,f⟩;have m:=H (az g.2.2 f);have j:=H (ae g.1 f);have o:=H (ae g.2.1 f);have S1:=H (show w.heap.size+1<Q.heap.size by have:=f.size;rw [db,db] at this;omega);clear f l g;have c2:Q.cell? ⟨w.heap.size,2,none⟩=some (I n):=bY j.out;have f:=H ((Fc _ Q).alloc (Fe _) (.cells #[C,C,I n] 68));have L0:=H (show Lp w w.heap.size Q.heap.size am b cm af lf cf n 0 none 0 (mix.set i x) (Q.alloc (.cells #[C,C,I n] 68)) from
  ⟨dD _ _,Ow.nil _ _,ae j f,ae o f,az m f⟩)
 have c0:(Q.alloc (.cells #[C,C,I n] 68)).cell? ⟨w.heap.size,0,none⟩=some (.slice am b cm):=bY L0.s0;clear f j o m;go_wp2;generalize Q.heap.size=o at *;go_loopw [28,9] (λv y wr=>∃ (k:Nat) (a:Option Addr) (c:Nat),k<=b/\v=I k/\y=I (iD mix i x k)/\Hid (Lp w w.heap.size o am b cm af lf cf n k a c (mix.set i x) wr)) (λv _ _=>b-(intOf v).toNat);case atStart=>exact ⟨0,none,0,Fs _,rfl,rfl,L0⟩
 case round =>
  obtain⟨k,a,c,hk,rfl,rfl,s⟩:=hrel;clear L0 c0;by_cases N:k<b
  ·obtain⟨g,rfl,O⟩:=CM.out _ s.b k (by rw [ML.out];exact N);have P:0<b:=Z;have G:=HI.out P;have R:wr.cell? ⟨w.heap.size,0,none⟩=some (Vl g b cm):=bY s.s0;have S:wr.cell? ⟨o,0,none⟩=some (.slice a k c):=bY s.ob;have f:=wL mix i k x (by rw [ML.out];exact N);by_cases l:k=i
   ·have r:((k:Int)==(i:Int))=true:=(by simp [l]);rw [Gv l] at f;obtain⟨t,u,W',j,q,z,m⟩:=s.next rfl S1 (by rw [FX,ML.out]) N g1 x f
    have A:=H m;have F:=H (show mix[k]?.getD 0=iD mix i x (k+1) by unfold iD;rw [Gv Z,l]);clear m f l;go_wp2_with fail;refine (LM _ P).mono ?_;rintro e K ⟨rfl,rfl⟩;go_wp2_with (at_builtin;refine dA rfl (.tmp 43) (.tmp 45) rfl rfl rfl rfl j ?_);go_roundw;(case rel=>exact ⟨k+1,t,u,Z,aY,by rw [<-F.out],A⟩);case measure=>simp [intOf];omega
   have r:((k:Int)==(i:Int))=false:=bK;rw [Gu l] at f;obtain⟨t,u,W',j,q,z,m⟩:=s.next rfl S1 (by rw [FX,ML.out]) N g1 _ f
   have A:=H m;have F:=H (show iD mix i x k=iD mix i x (k+1) by
    unfold iD;by_cases h:i<k;·rw [Gv h,Gv Z]
    rw [Gu h,Gu Z])
   clear m f l;generalize mix[k]?.getD 0=y at *;go_wp2_with fail;refine (LM _ P).mono ?_;rintro e K ⟨rfl,rfl⟩;go_wp2_with (at_builtin;refine dA rfl (.tmp 43) (.tmp 45) rfl rfl rfl rfl j ?_);go_roundw;(case rel=>exact ⟨k+1,t,u,Z,aY,by rw [<-F.out],A⟩);case measure=>simp [intOf];omega
  obtain rfl:b=k:=Z;have HY:=H (show -1<=iD mix i x b/\(iD mix i x b = -1->er n mix fifo x d=(mix.set i x,fifo,-1))/\(0<=iD mix i x b->er n mix fifo x d=(mix.set i x,(cQ n fifo (iD mix i x b)).1,(cQ n fifo (iD mix i x b)).2)) by
   rw [HW.out];by_cases L:b=0
   ·have e:iD mix i x b=x:=(by unfold iD;rw [Gu Z]);have f:mix=[]:=List.length_eq_zero_iff.1 (by rw [ML.out];exact L);rw [e,Gv L,f];exact⟨Z,λh=>Z,λ_=>rfl⟩
   have e:iD mix i x b=mix[i]?.getD 0:=(by unfold iD;rw [Gv (HI.out Z)]);have f:=NB.out i (HI Z);rw [e,Gu L];refine⟨f,λh=>by rw [Gv h],λh=>by rw [Gu Z]⟩)
  clear HW NB HI LM CM;obtain⟨a2,c2,W2,j,r,l⟩:=kQ wr wr.heap.size none 0 [] af lf cf fifo (Ow.nil _ _) M a8 (GS _ s.b) bK (Fe _);simp only [FH,FP,Fy] at j r;have f:=l.below (Fe _) (λ_ h=>h);have b8:wr.cell? ⟨w.heap.size,1,none⟩=some (.slice af lf cf):=bY s.s0;have R:(mix.set i x).length=b:=by rw [FX,ML.out]
  clear GS l;generalize iD mix i x b=y at *;by_cases hy:y = -1
  ·have t:¬(0<=y):=Z;have HE:=H (HY.2.1 hy);have n2:W2.cell? ⟨w.heap.size,2,none⟩=some (I n):=(by rw [Gz _ _ _ _ _ _ (ae s.s0 f)];rfl);have a0:(lf:Int)<=(n:Int):=Z;obtain⟨m,q⟩:=s.fin rfl S1 R f r;rw [M.out] at q;obtain⟨p0,p1,p2,l,O⟩:=q _ (.inl rfl);have o1:W2.cell? ⟨o,1,none⟩=some (C):=bY m;have o2:W2.frozen? ⟨o,1,none⟩=false:=GG _ _ _ _ _ m;have P3:=H l;have P4:=H O;have d0:=(Gz _ _ 0 _ _ _ l).trans rfl;have d1:=(Gz _ _ 1 _ _ _ l).trans rfl;have d2:=(Gz _ _ 2 _ _ _ l).trans rfl;have f0:=GG _ _ 0 _ _ l;have f1:=GG _ _ 1 _ _ l;have f2:=GG _ _ 2 _ _ l;clear m q l O s r f HY;go_wp2_with (at_builtin;refine dA rfl (.const (C)) (.tmp 50) (by with_reducible rfl) rfl rfl rfl j ?_);refine GF (h_ ef _ _ (w.heap.size+1) 68 _ (0,0) _ ef (set3 P3 _ _ _) underlying68 rfl E) ef ?_;rw [HE.out];exact P4 _ _ (.inl rfl)
  have a9:0<=y:=by have:=HY.1;omega
  have HE:=H (HY.2.2 a9);obtain⟨a3,c3,S,u,A,z⟩:=ub W2 wr.heap.size a2 c2 fifo y r (by rw [M.out];omega) f.size;have t:D wr S:=f.trans (z.below f.size (λ_ h=>h));have T:(fifo++[y]).length=lf+1:=by rw [Fo,M.out];rfl
  rw [M.out] at u;have n2:S.cell? ⟨w.heap.size,2,none⟩=some (I n):=by rw [Gz _ _ _ _ _ _ (ae s.s0 t)];rfl
  clear r z f;by_cases a1:lf<n
  ·have a0:(lf:Int)+1<=(n:Int):=Z;have V:=H (show er n mix fifo x d=(mix.set i x,fifo++[y],-1) by rw [HE.out];unfold cQ;rw [Gv (by rw [M.out];exact a1)]);obtain⟨m,q⟩:=s.fin rfl S1 R t A;rw [T] at q;obtain⟨p0,p1,p2,l,O⟩:=q _ (.inl rfl);have o1:S.cell? ⟨o,1,none⟩=some (C):=bY m;have o2:S.frozen? ⟨o,1,none⟩=false:=GG _ _ _ _ _ m;have P3:=H l;have P4:=H O;have d0:=(Gz _ _ 0 _ _ _ l).trans rfl;have d1:=(Gz _ _ 1 _ _ _ l).trans rfl;have d2:=(Gz _ _ 2 _ _ _ l).trans rfl;have f0:=GG _ _ 0 _ _ l;have f1:=GG _ _ 1 _ _ l;have f2:=GG _ _ 2 _ _ l;clear m q l O s t HY HE A T;go_wp2_with (at_builtin;first|refine dA rfl (.const (C)) (.tmp 50) (by with_reducible rfl) rfl rfl rfl j ?_|refine dA rfl (.tmp 54) (.tmp 56) (by with_reducible rfl) rfl rfl rfl u ?_);refine GF (h_ ef _ _ (w.heap.size+1) 68 _ (0,0) _ ef (set3 P3 _ _ _) underlying68 rfl E) ef ?_;rw [V.out];exact P4 _ _ (.inl rfl)
  have a0:¬((lf:Int)+1<=(n:Int)):=Z;have V:=H (show er n mix fifo x d=(mix.set i x,(fifo++[y]).drop 1,fifo[0]?.getD 0) by
   rw [HE.out];unfold cQ;rw [Gu (by rw [M.out];exact a1)];cases fifo with
   | nil=>have:=M.out;simp at this;omega
   | cons f r=>rfl)
  obtain⟨g,rfl,z⟩:∃ g,a3=some ⟨g,0,none⟩/\RowV S g 3 (Ns .i64 (fifo++[y])):=by
   rcases A.sl with ⟨_,L⟩|h;·simp at L
   exact h
  have F:=A.capge;rw [T] at F;obtain⟨dp,b0,a5⟩:=iu g 1 (lf+1) c3 Z F;simp only [Nat.add_sub_cancel] at b0;have b5:¬(c3=1):=Z;have a6:=a5 Z;subst a6;have b2:=A.base g rfl;have l1:((fifo++[y]).drop 1).length=lf:=by rw [List.length_drop,T];omega
  obtain⟨a4,c4,W4,G,X,Y⟩:=kQ S S.heap.size none 0 [] (some ⟨g,1,none⟩) lf (c3-1) ((fifo++[y]).drop 1) (Ow.nil _ _) l1 bF (.inr ⟨_,rfl,by
   have:=mU z 1 lf (by rw [T];omega);rwa [FQ Z] at this⟩) bK (Fe _)
  simp only [FH,FP,Fy] at G X;have a7:=t.trans (Y.below (B:=wr.heap.size) t.size (λk h=>Fg t.size h));have K:=z.below (Y.below (Fe _) (λ_ h=>h)) z.lt;obtain⟨m,q⟩:=s.fin rfl S1 R a7 (X.mono t.size);rw [l1] at q;obtain⟨p0,p1,p2,l,O⟩:=q _ (.inl rfl);have o1:W4.cell? ⟨o,1,none⟩=some (C):=bY m;have o2:W4.frozen? ⟨o,1,none⟩=false:=GG _ _ _ _ _ m;have b3:g≠o:=by have:=dI s.ob;omega
  have b4:g≠w.heap.size+1:=by have:=dI s.ob;have:=S1.out;omega
  have b6:w.heap.size+1≠g:=λe=>b4 e.symm
  have q0:(W4.setCell ⟨o,1,none⟩ (.slice a4 lf c4)).cell? ⟨g,0,none⟩=some (I (fifo[0]?.getD 0)):=by
   have:=iV (K.other (p:=⟨o,1,none⟩) b3 (.slice a4 lf c4)) 0 (by rw [T];omega);rw [this];congr 2;cases fifo with
   | nil=>have:=M.out;simp at this;omega
   | cons f r=>rfl
  have P3:=H l;have P4:=H O;have d0:=(Gz _ _ 0 _ _ _ l).trans rfl;have d1:=(Gz _ _ 1 _ _ _ l).trans rfl;have d2:=(Gz _ _ 2 _ _ _ l).trans rfl;have f0:=GG _ _ 0 _ _ l;have f1:=GG _ _ 1 _ _ l;have f2:=GG _ _ 2 _ _ l;clear m q l O s t HY HE A T z K X Y a7 b2 l1 F a5;generalize fifo[0]?.getD 0=f at *;go_wp2_with (at_builtin;first|refine dA rfl (.const (C)) (.tmp 50) (by with_reducible rfl) rfl rfl rfl j ?_|refine dA rfl (.tmp 54) (.tmp 56) (by with_reducible rfl) rfl rfl rfl u ?_|refine dA rfl (.const (C)) (.tmp 67) (by with_reducible rfl) rfl rfl rfl G ?_);go_region
  all_goals
   go_wp2
   refine GF (h_ ef _ _ (w.heap.size+1) 68 _ (0,0) _ ef (set3 P3 _ _ _) underlying68 rfl E) ef ?_
   rw [V.out]
   exact P4 _ _ (.inr rfl)
theorem yx (m:Nat) (lim) (w:World) (b:m<=16) :
  Calls prog 63 #[I m,I lim] w λe i=>∃ g,e=.returned (.agg #[Vl g m m,C,I lim])/\RowV i g 3 (Ns .i64 (List.replicate m (-1)))/\w.heap.size<=g/\D w i:=by
 have j:=H (λW q (hr:RowV W q 3 (Ns .i64 [-1]))=>vv q m W b hr);have a:=lC w (.cells #[C,C,I 0] 68) (.cells #[I (-1)] 3);have c:=H (show RowV ((w.alloc (.cells #[C,C,I 0] 68)).alloc (.cells #[I (-1)] 3)) (w.heap.size+1) 3 (Ns .i64 [-1]) from rowOf a.2.1);have k:=H a.1;have l:=H a.2.2;clear a b;go_enter func63,ntmps63;go_wp2_with fail;refine (j _ _ c).mono ?_;rintro e b ⟨g,rfl,n,d,f⟩;have a:=ae k f;have q:=H n;have o:=H (show w.heap.size+1<g by have:=c.lt;omega);have r:=H (az l f);clear n d f j c k l;have d:b.cell? ⟨w.heap.size,0,none⟩=some (C):=bY a;have f:b.cell? ⟨w.heap.size,1,none⟩=some (C):=bY a;have j:b.cell? ⟨w.heap.size,2,none⟩=some (I 0):=bY a;have f0:b.frozen? ⟨w.heap.size,0,none⟩=false:=GG _ _ _ _ _ a;have f1:b.frozen? ⟨w.heap.size,1,none⟩=false:=GG _ _ _ _ _ a;have f2:b.frozen? ⟨w.heap.size,2,none⟩=false:=GG _ _ _ _ _ a;have c:=H a;clear a;go_wp2;refine GF (Ga ef _ _ w.heap.size 68 _ (0,0) _ ef (set3 c _ _ _) underlying68 rfl E) ef ?_;refine⟨g,rfl,((q.other (p:=⟨_,_,none⟩) ?_ _).other (p:=⟨_,_,none⟩) ?_ _).other (p:=⟨_,_,none⟩) ?_ _,by have:=o.out;omega,((r.setCell (p:=⟨_,_,none⟩) (Fe _) _).setCell (p:=⟨_,_,none⟩) (Fe _) _).setCell (p:=⟨_,_,none⟩) (Fe _) _⟩
 all_goals (have:=o.out;dsimp only;omega)
def tS (n m:Nat) (slots e:List Int):Nat->List Int×List Int
 | 0=>(List.replicate m (-1),[])
 | k+1=>((er n (tS n m slots e k).1 (tS n m slots e k).2 (slots[k]?.getD 0) (e[k]?.getD 0)).1,(er n (tS n m slots e k).1 (tS n m slots e k).2 (slots[k]?.getD 0) (e[k]?.getD 0)).2.1)
def D7 (n m:Nat) (slots e:List Int) (k:Nat):Int:=(er n (tS n m slots e k).1 (tS n m slots e k).2 (slots[k]?.getD 0) (e[k]?.getD 0)).2.2
def qU (n m:Nat) (slots e:List Int):List Int:=(List.range slots.length).map (D7 n m slots e)
theorem u_ (n m slots draws):(qU n m slots draws).length=slots.length:=by simp [qU]
theorem vL (n m) (a:List Int) (draws) (k:Nat) (h:k<a.length):(qU n m a draws)[k]?=some (D7 n m a draws k):=by simp [qU,h]
structure Li (w:World) (q L M rm G rq n m:Nat) (slots draws:List Int) (cs:Array Value) (k:Nat) (ys:List Int) (W:World):Prop where
 q:W.heap[q]?=some (.cells cs 86)
 row:RowV W L 3 (Ns .i64 ys)
 yl:ys.length=slots.length
 ag:Agree ys (qU n m slots draws) k
 qr:Qr W M rm G rq n (tS n m slots draws k).1 (tS n m slots draws k).2
 b:D w W
theorem Li.next {q M rm G rq m slots draws cs} {d:Nat} {ys w5} (h:Li w q (q+1) M rm G rq n m slots draws cs k ys W) (g:(rm<q/\G<q/\rq<q)/\(w.heap.size<=rm/\w.heap.size<=G/\w.heap.size<=rq)/\w.heap.size<=q) (i:k<d) (f:z=(er n (tS n m slots draws k).1 (tS n m slots draws k).2 (slots[k]?.getD 0) (draws[k]?.getD 0)).2.2) (b:Qr w5 M rm G rq n (er n (tS n m slots draws k).1 (tS n m slots draws k).2 (slots[k]?.getD 0) (draws[k]?.getD 0)).1 (er n (tS n m slots draws k).1 (tS n m slots draws k).2 (slots[k]?.getD 0) (draws[k]?.getD 0)).2.1) (c:But (Qs rm G rq) W w5) (a:slots.length=d:=by assumption) :
  w5.cell? ⟨q+1,k,none⟩=some (I (ys[k]?.getD 0))/\w5.frozen? ⟨q+1,k,none⟩=false/\Li w q (q+1) M rm G rq n m slots draws cs (k+1) (ys.set k z) (w5.setCell ⟨q+1,k,none⟩ (I z)):=by
 have a:=h.row.but c (by unfold Qs;omega);have j:=h.q;have l:=dI h.q;refine⟨iV a k (by rw [h.yl];omega),a.free k,⟨?_,?_,?_,?_,?_,?_⟩⟩;·exact l_ (c.at h.q (by unfold Qs;omega)) _ _ _ Z
 ·rw [<-sq];exact a.set k (by rw [bo,h.yl];omega) _
 ·rw [FX];exact h.yl
 ·refine h.ag.succ (by rw [u_];omega) z ?_;rw [vL _ _ _ _ _ Z,f];rfl
 ·exact b.but (S:=λk=>k=q+1) ((But.refl _ w5).set _ _ _ rfl) (by have:=b.sep;intro e;have:=b.mx.1;rw [e] at this;exact (a.ne this av) rfl) Z Z Z
 exact (h.b.trans (c.below h.b.size (λg a=>by unfold Qs at a;omega))).setCell iK _
end
section
open Go.RowKit
def Zn (zs:List Nat):List Value:=zs.map λ(n:Nat)=>Value.int .i64 (n:Int)
theorem yS (zs:List Nat) (n:Nat):Zn (zs++[n])=Zn zs++[I (n:Int)]:=by simp [Zn]
def jn (e:List Int) (z:Int) (k r:Nat):List Nat:=if (e.take r).contains z then [k] else []
theorem yD {a:List Int} {r:Nat} (d:a.Nodup) (h:a[r]?=some z):jn a z k r=[]/\jn a z k (r+1)=[k]:=by
 have f:=(Fl.1 h).1;have b:(a.take r).contains z=false:=by
  rw [List.contains_eq_mem,decide_eq_false_iff_not];intro g;obtain⟨i,c⟩:=GQ g;have e:=(Fl.1 c).1;rw [G0] at e;rw [GR Z] at c;have j:=Ir.1 d i r Z f Z;rw [Fj Z] at c h;simp at c h;exact j (c.trans h.symm)
 refine⟨by unfold jn;rw [b];rfl,?_⟩;unfold jn;rw [FN,h];simp
theorem zS {a:List Int} {y:Int} {r:Nat} (b:z≠y) (h:a[r]?=some y):jn a z k (r+1)=jn a z k r:=by
 unfold jn;rw [FN,h];simp [b]
theorem BM:(prog.info? 3).map (λi=>(i.zero,i.size,i.bytes))=some (some (I 0),1,8):=E
theorem yB (B x cf h) (c s:Nat) (a) (b R:Nat) (sts W) (f:Sh B x cf h W) (d:Sl W a sts) (g:sts.length=b) (S:sts.Nodup) (a6:b<=3) :
  Calls prog 220 #[J x.P 0,I c,I s,.slice a b R] W λe W'=>∃ v,e=.returned v/\W'.ownsRow W.heap.size 3 1 v (iZ h c s sts 1062).length (Zn (iZ h c s sts 1062))/\D W W':=by
 obtain⟨i0,T,Y,a0,a3⟩:=GI BM;have c7:W.cell? ⟨x.P,7,none⟩=some (Vl x.G 1062 x.gc):=f.cell 7 _ rfl;have HS:=H f;have HT:=H d.cells;have HL:=H g;clear f d g;go_enter func220,ntmps220;go_wp2;go_loopw [9,19] (λv i wr=>∃ k:Nat,k<=1062/\i=I k/\Hid (wr.ownsRow W.heap.size 3 1 v (iZ h c s sts k).length (Zn (iZ h c s sts k)))/\Hid (D W wr)) (λ_ i _=>1062-(intOf i).toNat);case atStart=>exact ⟨0,Fs _,rfl,H ⟨rfl,.inl ⟨rfl,rfl⟩⟩,H (Fc _ _)⟩
 case round =>
  obtain⟨k,hk,rfl,HO,M⟩:=hrel;by_cases a4:k<1062
  ·obtain⟨d0,d1,d2,d3,d4,d5⟩:=(HS.below M).slot a4;have HN:=H (xG h c s sts k);have a7:=zD h c s sts k;obtain⟨va,vb,vc,rfl⟩:∃ p l N,u9=.slice p l N:=by rcases HO.2 with ⟨rfl,_⟩|⟨g,cp,a5,rfl,_⟩ <;> exact ⟨_,_,_,rfl⟩
   have n:=H (HO.alloc (.cells #[I ((sA k).1:Nat),I ((sA k).2.1:Nat),I ((sA k).2.2:Nat),U (gu k:Nat),I (dB h k),I (fX h k)] 146));have o:=H (M.alloc M.size (.cells #[I ((sA k).1:Nat),I ((sA k).2.1:Nat),I ((sA k).2.2:Nat),U (gu k:Nat),I (dB h k),I (fX h k)] 146));have O:=H (ao wr (.cells #[I ((sA k).1:Nat),I ((sA k).2.1:Nat),I ((sA k).2.2:Nat),U (gu k:Nat),I (dB h k),I (fX h k)] 146));by_cases hc:(sA k).1=c
   ·by_cases d:(sA k).2.1=s
    ·have HF:=H (show iZ h c s sts (k+1)=iZ h c s sts k++jn sts (dB h k) k sts.length by
      rw [HN.out];unfold jn;rw [FQ (Fe _)];simp [hc,d])
     have a8:(iZ h c s sts k).length<=1062:=Z;generalize f:iZ h c s sts k=q at *;clear f;generalize dB h k=z at *;generalize fX h k=z2 at *;generalize gu k=z3 at *;generalize (sA k).2.2=e3 at *;generalize (sA k).1=t at *;generalize (sA k).2.1=P at *;subst hc;subst d;have w:(wr.alloc (.cells #[I t,I P,I e3,U z3,I z,I z2] 146)).heap[wr.heap.size]?=some (.cells #[I t,I P,I e3,U z3,I z,I z2] 146):=O.out;go_wp2;generalize wr.alloc _=V at n o O w ⊢;have f:=H (show wr.heap.size<=wr.heap.size from Fe _);generalize wr.heap.size=X at O w ⊢;clear d0 d1 d2 d3 d4 d5 O f;have f:decide ((k:Int)<1062)=true:=bK;simp only [f];clear f;have O0:=H (show V.ownsRow W.heap.size 3 1 (.slice va vb vc) (q++jn sts z k 0).length (Zn (q++jn sts z k 0)) by simpa [jn] using n.out);have X0:=H w;clear n w;go_loopw [9,36] (λv i f=>∃ r:Nat,r<=b/\i=I r/\Hid (f.ownsRow W.heap.size 3 1 v (q++jn sts z k r).length (Zn (q++jn sts z k r)))/\Hid (D W f)/\Hid (f.heap[X]?=some (.cells #[I t,I P,I e3,U z3,I z,I z2] 146))) (λ_ i _=>b-(intOf i).toNat);(case atStart=>exact ⟨0,Fs _,rfl,O0,o,X0⟩);case round =>
      obtain⟨r,hr,rfl,A,F,Q⟩:=hrel;clear O0 o X0;by_cases G:r<b
      ·obtain⟨g,rfl,f⟩:=HT.out r (by rw [HL.out];exact G);have j:=ad F f;have w:wr.cell? ⟨X,4,none⟩=some (I z):=(by simp [World.cell?,Q.out]);obtain⟨y,K⟩:∃ y,sts[r]?=some y:=⟨_,Fj (by rw [HL.out];exact G)⟩;rw [K] at j;simp only [Hb] at j;obtain⟨a9,b0,b4,rfl⟩:∃ p l N,u9=.slice p l N:=by rcases A.2 with ⟨rfl,_⟩|⟨g,cp,a5,rfl,_⟩ <;> exact ⟨_,_,_,rfl⟩
       clear f;by_cases f:z=y
       ·subst f;obtain⟨l,m⟩:=yD (k:=k) S K;rw [l,F4] at A;have O8:=H (A.alloc (.cells #[I k] 3));have B8:=H (F.alloc F.size (.cells #[I k] 3));have X8:=H ((ej wr (.cells #[I k] 3) X (ai Q)).trans Q);have A2:=H m;clear K l m;go_wp2_with (at_builtin;refine Hl _ rfl _ _ 24 rfl W.heap.size 3 i0 (I 0) 1 8 underlying24 T Y a0 a3 rfl Z _ _ _ rfl O8 _ 1 1 [I k] rfl rfl ?hc ?h1c ?b1 ?b2 ?b3 ?_);(case hc=>exact eG _ _ _ _ bF);(case h1c=>intro u hu;simp at hu;subst hu;rfl);(case b1=>unfold maxLen;omega);(case b2=>omega);(case b3=>exact B8.size);intro v1 w9 p l _;have m:=H (IB p (IB (B8.grown l B8.size (cN O8)) (show w9.heap[X]?=_ from (l.block X (ai X8) (λe=>by
         obtain⟨N,L⟩:=mK O8 e.symm;rw [X8.out] at L;simp at L)).trans X8)))
        clear p l;go_wp2;go_roundw;(case rel=>exact ⟨r+1,Z,aY,H (by rw [A2.out,Fo,yS];exact m.1),H m.2.1,H m.2.2⟩);case measure=>simp [intOf];omega
       have A2:=H (zS (k:=k) f K);have l:(z==y)=false:=(by simpa using f);clear K f;go_wp2;go_roundw;(case rel=>exact ⟨r+1,Z,aY,H (by rw [A2.out];exact A),F,Q⟩);case measure=>simp [intOf];omega
      obtain rfl:r=b:=Z;go_wp2;go_roundw;(case rel=>exact ⟨k+1,Z,aY,H (by rw [HF.out,HL.out];exact A),F⟩);case measure=>simp [intOf];omega
    have f:=H (show iZ h c s sts (k+1)=iZ h c s sts k by
     rw [HN.out,Gu (by simp [d])];simp)
    have j:(((sA k).1:Nat):Int)=(c:Int):=Z;have l:((((sA k).2.1:Nat):Int) != (s:Int))=true:=bK;generalize (sA k).1=t at *;generalize (sA k).2.1=P at *;subst hc;clear j d;go_wp2;go_roundw;(case rel=>exact ⟨k+1,Z,aY,H (by rw [f.out];exact n),o⟩);case measure=>simp [intOf];omega
   have f:=H (show iZ h c s sts (k+1)=iZ h c s sts k by
    rw [HN.out,Gu (by simp [hc])];simp)
   have j:((((sA k).1:Nat):Int) != (c:Int))=true:=bK;generalize (sA k).1=t at *;clear hc;go_wp2;go_roundw;(case rel=>exact ⟨k+1,Z,aY,H (by rw [f.out];exact n),o⟩);case measure=>simp [intOf];omega
  have:k=1062:=Z;subst this;go_wp2;go_ret;exact⟨_,rfl,HO,M⟩
theorem df {P:Program} {t:TypeId} {c:Array Oper} {b:List Oper} {o:Oper} {a:Act} {Q:Exit->Act->World->Prop} (d:o.guard=none) (s x:Operand)
  (i:o.op=.call { callee:=.builtin .append,args:=#[s,x],argTypes:=#[t,t] }) (j:o.type=t) {v e f:Value} {g:World} (k:a.eval s=v) (l:a.eval x=e)
  (m:(Builtin.append_ #[t,t] t #[v,e]).run P w=.ok f g) (h:wpList P c Q b (a.put o.dst f) g):wpList P c Q (o::b) a w:=by
 refine Ii d λK n=>?_;unfold Oper.wp;simp [execOp,i,j,resolve,invoke,builtin,k,l,m,Result.andThen];exact n _ _ h
theorem zx:(prog.info? 148).map (λi=>(i.zero,i.size,i.bytes))=some (some (.agg #[U 0,I 0,I 0,I 0,I 0,I 0]),6,48):=E
theorem iT:(prog.info? 23).map (λi=>(i.zero,i.size,i.bytes))=some (some (U 0),1,8):=E
theorem sX (l:List Rg9) (r:Rg9):fg (l++[r])=fg l++rC r:=by simp [fg,rC]
theorem d_ (l):(fg l).length=l.length*6:=by
 induction l with
 | nil=>rfl
 | cons r l a=>simp only [fg,Ho,Fo,Fx] at a ⊢;rw [a];simp;omega
theorem kV (l:List Nat) (n:Nat):Us (l++[n])=Us l++[U (n:Int)]:=by simp [Us]
theorem fY (l):(Us l).length=l.length:=by simp [Us]
theorem wM (W:World) (B:Nat) (v:Value) (l:List Rg9) (r) (g:Nat) (c) (a:W.ownsRow B 148 6 v l.length (fg l)) (o:W.heap[g]?=some (.cells (rC r).toArray 148)) (z:l.length<=1000) (p:B<=W.heap.size) :
  ∃ d b,(Builtin.append_ #[141,141] 141 #[v,Vl g 1 c]).run prog W=.ok d b/\b.ownsRow B 148 6 d (l++[r]).length (fg (l++[r]))/\W.grownBy b v.ownBlock:=by
 obtain⟨q,e,f,i,k⟩:=GI zx;have m:∀ j u,(rC r)[j]?=some u->W.cell? ((⟨g,0,none⟩:Addr).add j)=some u:=λj u s=>by
  rw [Addr.add_mid,FP,Gz _ _ j _ _ _ o];simpa using s
 have t:∀ u∈rC r,u.oneCell'=true:=λu n=>by
  simp only [rC,FG,F1,or_false] at n;rcases n with rfl|rfl|rfl|rfl|rfl|rfl <;> rfl
 obtain⟨d,b,w,x,y,_⟩:=Hk (P:=prog) W B 141 141 148 q _ 6 48 underlying141 e f i k rfl Z v _ _ a ⟨g,0,none⟩ 1 c (rC r) rfl m t (by unfold maxLen;omega) Z p;exact⟨d,b,w,by rw [sX,Fo];exact x,y⟩
theorem jM (W:World) (B:Nat) (v:Value) (l m:List Nat) (x:Addr) (c:Nat) (a:W.ownsRow B 23 1 v l.length (Us l)) (k:∀ j u,(Us m)[j]?=some u->W.cell? (x.add j)=some u) (w:l.length+m.length<=100000) (o:B<=W.heap.size) :
  ∃ d b,(Builtin.append_ #[34,34] 34 #[v,.slice (some x) m.length c]).run prog W=.ok d b/\b.ownsRow B 23 1 d (l++m).length (Us (l++m))/\W.grownBy b v.ownBlock:=by
 obtain⟨p,e,f,g,i⟩:=GI iT;have q:∀ u∈Us m,u.oneCell'=true:=λu j=>by
  simp only [Us,FC] at j;obtain⟨n,_,rfl⟩:=j;rfl
 obtain⟨d,b,r,s,t,_⟩:=Hk (P:=prog) W B 34 34 23 p _ 1 8 underlying34 e f g i rfl Z v _ _ a x m.length c (Us m) (by rw [fY,Nat.mul_one]) k q (by unfold maxLen;omega) Z o;exact⟨d,b,r,by rw [Fo];simpa [Us] using s,t⟩
theorem Dt.own {T bud m V V1} (a:Sx T Q n bud m V) (f:D V V1) {g cp} (j:zs.length=k) (b:V1.ownsRow V.heap.size 5 1 (Vl g k cp) k (Ns .u8 zs)):Dt Q V1 (some ⟨g,0,none⟩) k zs:=by
 subst j;obtain⟨c,l⟩:=dv b;have o:V.heap.size<=g:=by
  rcases b.2 with ⟨e,_⟩|⟨p,d,i,e,q,_⟩;·simp at e
  simp at e;omega
 refine⟨rfl,λi p=>⟨⟨g,0,none⟩,rfl,?_,?_,?_,λe=>?_⟩⟩;·rw [Addr.add_mid,FP];exact bC b i _ (by simp [Ns,p])
 ·rw [Addr.add_mid];exact ai l
 ·rw [Addr.add_mid];have:=a.ltQ;show g≠Q;omega
 rw [Addr.add_mid] at e;have q:V1.heap[Q]?=V.heap[Q]?:=f.block Q a.ltQ;obtain⟨r,d⟩:=a.pgT (de q e);have:=ai d;exact absurd this (by show ¬g<_;omega)
def hT (t:TypeId):Prop:=t=143\/t=146\/t=68\/t=148\/t=23\/t=217\/t=5
structure Bk (B Q:Nat) (W W':World):Prop where
 bel:Below B W W'
 ky:Ky hT W W'
 by5:∀ (g:Nat) (c:Array Value) (f:Nat×Nat),W.heap[g]?=some (.cells c 5 f)->¬ft Q W g->W'.heap[g]?=some (.cells c 5 f)
 pg:∀ g,ft Q W' g->ft Q W g\/W.heap.size<=g
theorem Bk.refl (B Q W):Bk B Q W W:=⟨Fc _ _,Ky.refl _ _,λ_ _ _ h _=>h,λ_ h=>.inl h⟩
theorem Bk.trans {B Q a b c} (h:Bk B Q a b) (k:Bk B Q b c):Bk B Q a c:=by
 refine⟨h.bel.trans k.bel,h.ky.trans k.ky,λg j f l e=>k.by5 g j f (h.by5 g j f l e) (λi=>?_),λg e=>?_⟩
 ·rcases h.pg g i with d|d;·exact e d
  have:=ai l;omega
 rcases k.pg g e with d|d;·exact h.pg g d
 right;have:=h.bel.size;omega
theorem Bk.ofBelow (b:D W W') (d:Q<W.heap.size) (e:B<=W.heap.size):Bk B Q W W' :=
 ⟨b.mono e,Ky.below b,λg c f a _=>by rw [b.block g (ai a)];exact a,λg a=>.inl (de (b.block Q d) a)⟩
theorem Bk.add {V V'} (h:Bk B Q W V) (b:D V V') (a:Q<V.heap.size) (c:B<=V.heap.size):Bk B Q W V':=h.trans (Bk.ofBelow b a c)
theorem Bk.ofGrown {P:Nat} {c l:Array Value} {t:TypeId} {f m:Nat×Nat} (j:W.heap[P]?=some (.cells c t f)) (d:W.heap[Q]?=some (.cells l 217 m)) (n:hT t) (o:t≠5) (b:t≠217) (q:B<=P) (k:B<=W.heap.size) (i:W.grownBy W' (some P)):Bk B Q W W':=by
 have p:Q≠P:=λe=>by
  subst e;rw [j] at d;simp at d;exact b d.2.1
 refine⟨(Fc B W).grown i k (λr a=>by simp at a;omega),Ky.grown j n i,λg r s a _=>?_,λg a=>.inl (de (i.block Q (ai d) bK) a)⟩;rw [i.block g (ai a) (λe=>?_)];·exact a
 simp at e;subst e;rw [j] at a;simp at a;exact o a.2.1
theorem Bk.ofSf {T bud m} (i:Sx T Q n bud m W) (a:Sf Q W W') (k:B<=W.heap.size) (l:B<=Q) (b:∀ g,ft Q W g->B<=g):Bk B Q W W':=by
 refine⟨a.below k l b,(a.ky i).more (λt d=>by unfold hT;rcases d with h|h <;> simp [h]),λg c f d b=>?_,a.pg⟩;rw [a.block g (ai d) (λe=>?_) b];·exact d
 subst e;obtain⟨o,j,_⟩:=i.row;rw [d] at j;simp at j
theorem Sh.qrow (a:Sh B x cf h W):∃ b,W.heap[x.Q]?=some (.cells b 217):=by
 obtain⟨b,c,_⟩:=a.sp.row;exact⟨b,c⟩
theorem Sh.ltQ {B x cf h W} (a:Sh B x cf h W):x.Q<W.heap.size:=a.sp.ltQ
theorem Sh.bkB (a:Sh B x cf h W) (k:Bk B x.Q W0 W) (c:B<=W0.heap.size) (b:D W W'):Bk B x.Q W0 W':=k.add b a.ltQ (Fg c k.bel.size)
theorem Sh.bkP (a:Sh B x cf h W) (k:Bk B x.Q W0 W) (b:B<=W0.heap.size) (g:W.grownBy W' (some x.P)):Bk B x.Q W0 W':=by
 obtain⟨d,c⟩:=a.qrow;exact k.trans (Bk.ofGrown a.box c (.inl rfl) av av a.bp (Fg b k.bel.size) g)
theorem Sh.bkG (a:Sh B x cf h W) (k:Bk B x.Q W0 W) (d:B<=W0.heap.size) (i:Nat) (v:Value):Bk B x.Q W0 (W.setCell ⟨x.G,i,none⟩ v):=by
 obtain⟨n,f⟩:=a.qrow;obtain⟨c,j⟩:=dv a.sl;have l:B<=x.G:=by
  rcases a.sl.2 with ⟨e,_⟩|⟨g,b,m,e,o,_⟩;·simp at e
  simp at e;omega
 exact k.trans (Bk.ofGrown j f (.inr (.inl rfl)) av av l (Fg d k.bel.size) (au (ar W x.G) i v))
theorem Sh.bkS (a:Sh B x cf h W) (k:Bk B x.Q W0 W) (b:B<=W0.heap.size) (f:Sf x.Q W W'):Bk B x.Q W0 W':=k.trans (Bk.ofSf a.sp f (Fg b k.bel.size) a.bq a.bg)
end
end Go.Proofs.YtdngbppdomoenaaGreatDoor
