import Derived.Shelf.SlSortCmp.NoneTotal
import Derived.Test.YtdfodlhkdmkfdaaGreatDoorN41
import Derived.Test.YtdfodlhkdmkfdaaGreatDoorN43
import Derived.Test.YtdfodlhkdmkfdaaGreatDoorN44
set_option linter.unusedVariables false
set_option linter.unusedSimpArgs false
set_option maxRecDepth 20000
set_option maxHeartbeats 8000000
namespace Go.Proofs.YtdfodlhkdmkfdaaGreatDoor
open Go.Proofs.Tryz
variable {rg:List Rg9} {bs:List Nat} {g j k k0:Nat} {W W':World}
section
open Go.RowKit Go.Maps
theorem xu {d t:Nat} {V:World} {a b c:Value} (h:V.heap[d]?=some (.cells #[a,b,c] t)):V.cell? ⟨d,0,none⟩=some a/\V.cell? ⟨d,1,none⟩=some b/\V.cell? ⟨d,2,none⟩=some c:=by
 refine⟨?_,?_,?_⟩ <;> (rw [t6 _ _ _ _ _ _ h];rfl)
structure Rx9 (cf:Cf) (h:Hs) (W:World) (ws:List (Value×Value)) (vo vs vw:Value) (V:World):Prop where
 r:Rw9 h W vo vs V
 w:Wt8 cf h W ws vw V
theorem Rx9.ky {cf h W ws vo vs vw V V' S} (x:Rx9 cf h W ws vo vs vw V) (k:Ky S V V') (a:¬S 3) (b:¬S 102) (c:¬S 104):Rx9 cf h W ws vo vs vw V':=⟨x.r.ky k a b,x.w.ky k c a⟩
theorem Rx9.below {cf h W ws vo vs vw V V'} (x:Rx9 cf h W ws vo vs vw V) (b:D V V'):Rx9 cf h W ws vo vs vw V':=x.ky (Ky.below b:Ky (λ_=>False) _ _) (λe=>e) (λe=>e) (λe=>e)
def gZ (rg:List Rg9) (b:Nat):List Rg9:=rg.filter λr=>decide (r.base=b)
theorem Cv (b:(rg.map (·.base)).Nodup) {a:Rg9} (ha:a∈rg):gZ rg a.base=[a]:=by
 unfold gZ;induction rg with
 | nil=>cases ha
 | cons r l c =>
  rw [KV,Km] at b;rcases JG.1 ha with rfl|ha;·rw [GO bh,Lh.2];intro x d;simp;intro e;exact b.1 (JE.2 ⟨x,d,e⟩)
  rw [K_,c b.2 ha];simp;intro e;exact b.1 (JE.2 ⟨a,ha,e.symm⟩)
theorem flatMap_one {l:List Rg9} (c:(rg.map (·.base)).Nodup) (b:∀ a∈l,a∈rg):(l.map (·.base)).flatMap (gZ rg)=l:=by
 induction l with
 | nil=>rfl
 | cons a l d =>
  rw [KV,Kw,Cv c (b a bh),d (λx a=>b x (by simp [a]))];rfl
theorem yy (a:(rg.map (·.base)).Nodup) (b:bs.Perm (rg.map (·.base))):(bs.flatMap (gZ rg)).Perm rg:=by
 refine (b.flatMap_right _).trans ?_;rw [flatMap_one a (λa h=>h)]
theorem tO (rg) (e:bs.Pairwise (· <= ·)):(bs.flatMap (gZ rg)).Pairwise (λa b=>a.base<=b.base):=by
 rw [List.pairwise_flatMap];refine⟨λb _=>?_,e.imp (λ{a b} f x c y d=>?_)⟩;·refine List.Pairwise.imp_of_mem (R:=λ_ _=>True) (λ{x y} c d _=>?_) (List.pairwise_of_forall (λ_ _=>trivial));simp [gZ] at c d;omega
 simp [gZ] at c d;omega
theorem rS {cf h} (i:Inv cf h):(h.rg.map (·.base)).Nodup:=by
 unfold List.Nodup;rw [List.pairwise_map];refine i.apart.imp_of_mem (λ{a b} ha c d e=>?_);have d:=i.rgs a ha;have e:=i.rgs b c;unfold Rg9.base Rg9.ext at *;omega
theorem Ac {b} {r:Rg9} (a:rg[j]?=some r):gZ (rg.take (j+1)) b=gZ (rg.take j) b++(if r.base=b then [r] else []):=by
 unfold gZ;rw [JK,a,FV];congr 1;by_cases e:r.base=b <;> simp [e,List.filter]
theorem xj {q b:Nat} (a:bs[q]?=some b):(bs.take (q+1)).flatMap (gZ rg)=(bs.take q).flatMap (gZ rg)++gZ rg b:=by
 rw [JK,a,J9];simp
theorem zH (rg b):(gZ rg b).length<=rg.length:=A1 _ _
theorem uO (rg) (l:List Nat):(l.flatMap (gZ rg)).length<=l.length*rg.length:=by
 induction l with
 | nil=>simp
 | cons a l b =>
  rw [Kw,Jv,JD,Nat.succ_mul];have:=zH rg a;omega
theorem yT (q j b:Nat) (a:rg.length<=302) (d:bs.length<=302):((bs.take q).flatMap (gZ rg)++gZ (rg.take j) b).length<=100000:=by
 rw [Jv];have e:=uO rg (bs.take q);have c:=zH (rg.take j) b;have f:(bs.take q).length*rg.length<=302*302:=Nat.mul_le_mul (by rw [F9];omega) a;rw [F9] at c;omega
structure Qw where
 a:Nat
 b:Nat
 n:Nat
 m:Nat
def dy:List Qw->Nat
 | []=>0
 | x::r=>x.n+x.m+1+dy r
theorem mZ:∀ (a b:List Qw),dy (a++b)=dy a+dy b
 | [],b=>by simp [dy]
 | o::r,b=>by simp [dy,mZ r b];omega
theorem iU {l:List Qw} {x:Qw} (h:l[k]?=some x):dy (l.take (k+1))=dy (l.take k)+(x.n+x.m+1):=by
 rw [JK,h,mZ];simp [dy]
theorem vX (l:List Qw) (k:Nat):dy (l.take k)<=dy l:=by
 have a:=mZ (l.take k) (l.drop k);rw [List.take_append_drop] at a;omega
def Ia (g:Nat) (l:List Qw):Prop:=∀ (i j:Nat) (x y:Qw),l[i]?=some x->l[j]?=some y->x.a≠y.b/\(i≠j->x.a≠y.a/\x.b≠y.b)/\x.a≠g/\x.b≠g
structure Mw (w:World) (g:Nat) (l:List Qw) (k0 k:Nat) (W:World):Prop where
 typ:∃ cs,W.heap[g]?=some (.cells cs 104)/\l.length*3<=cs.size
 cel:∀ (i:Nat) (x:Qw),l[i]?=some x->W.cell? ⟨g,i*3,none⟩=some (Vl x.a x.n x.n)/\W.cell? ⟨g,i*3+1,none⟩=some (Vl x.b x.m x.m)
 don:∀ (i:Nat) (x:Qw),l[i]?=some x->i<k->RowV W x.a 3 (Ns .i64 (eo (k0+dy (l.take i)) x.n))/\RowV W x.b 3 (Ns .i64 (eo (k0+dy (l.take i)+x.n) x.m))/\W.cell? ⟨g,i*3+2,none⟩=some (I ((k0+dy (l.take i)+x.n+x.m:Nat):Int))
 rst:∀ (i:Nat) (x:Qw),l[i]?=some x->∃ z1 z2:List Int,z1.length=x.n/\z2.length=x.m/\RowV W x.a 3 (Ns .i64 z1)/\RowV W x.b 3 (Ns .i64 z2)
 bt:Bt (λb=>b=g\/∃ x∈l,x.a=b\/x.b=b) w W
theorem Mw.step {w W1 W2 l} {x:Qw} (h:Mw w g l k0 k W) (n:Ia g l) (c:l[k]?=some x) (M:RowV W1 x.a 3 (Ns .i64 (eo (k0+dy (l.take k)) x.n))) (B:W.grownBy W1 (some x.a)) (N:RowV W2 x.b 3 (Ns .i64 (eo (k0+dy (l.take k)+x.n) x.m))) (v:W1.grownBy W2 (some x.b)) :
  Mw w g l k0 (k+1) (W2.setCell ⟨g,k*3+2,none⟩ (I ((k0+dy (l.take k)+x.n+x.m:Nat):Int)))/\∃ z,W2.heap[g]?=some (.cells z 104)/\k*3+2<z.size:=by
 obtain⟨z,p,R⟩:=h.typ;have X:=(Jr.1 c).1;have o:=(n k k x x c c).2.2;have Y:=B.size;have s2:=v.size;have O:∀ b,b<W.heap.size->b≠x.a->b≠x.b->W2.heap[b]?=W.heap[b]?:=λb S q s=>by
  rw [v.block b Z (by simpa using s),B.block b S (by simpa using q)]
 have P:W2.heap[g]?=W.heap[g]?:=O g (ah p) (KN o.1) (KN o.2);have Q:=au (ao W2 g) (k*3+2) (I ((k0+dy (l.take k)+x.n+x.m:Nat):Int));have F:∀ i,i≠k*3+2->(W2.setCell ⟨g,k*3+2,none⟩ (I ((k0+dy (l.take k)+x.n+x.m:Nat):Int))).cell? ⟨g,i,none⟩=W.cell? ⟨g,i,none⟩:=λi hi=>by
  rw [KH _ _ _ _ (by intro e;simp at e;try omega)];unfold World.cell?;simp only [P]
 have t:∀ {b:Nat} {a:List Value},RowV W2 b 3 a->b≠g->RowV (W2.setCell ⟨g,k*3+2,none⟩ (I ((k0+dy (l.take k)+x.n+x.m:Nat):Int))) b 3 a:=λr j=>r.eqb (Q.block _ r.lt (by simpa using j))
 have A:∀ {b:Nat} {a:List Value},RowV W b 3 a->b≠g->b≠x.a->b≠x.b->RowV (W2.setCell ⟨g,k*3+2,none⟩ (I ((k0+dy (l.take k)+x.n+x.m:Nat):Int))) b 3 a:=λr j q s=>t (r.eqb (O _ r.lt q s)) j
 have d:=P.trans p;have u:RowV W2 x.a 3 (Ns .i64 (eo (k0+dy (l.take k)) x.n)):=M.eqb (v.block _ M.lt (by simpa using (n k k x x c c).1));refine⟨⟨⟨_,aO d _,by simpa using R⟩,λi y a=>?_,λi y a T=>?_,λi y a=>?_,?_⟩,⟨z,d,Z⟩⟩;·rw [F _ Z,F _ Z];exact h.cel i y a
 ·by_cases e:i=k
  ·subst e;rw [c] at a;cases a;refine⟨t u o.1,t N o.2,?_⟩;obtain⟨m,f⟩:∃ m,W2.cell? ⟨g,i*3+2,none⟩=some m:=by
    rw [t6 _ _ _ _ _ _ d];exact⟨_,IS Z⟩
   exact World.cell?_setCell_same _ _ _ f
  obtain⟨G,K,m⟩:=h.don i y a Z;have f:=n i k y x a c;have L:=n k i x y c a;refine⟨A G f.2.2.1 (f.2.1 e).1 f.1,A K f.2.2.2 (KN L.1) (f.2.1 e).2,?_⟩;rw [F _ Z];exact m
 ·by_cases e:i=k
  ·subst e;rw [c] at a;cases a;exact⟨_,_,ey _ _,ey _ _,t u o.1,t N o.2⟩
  obtain⟨m,V,q,s,G,K⟩:=h.rst i y a;have f:=n i k y x a c;have L:=n k i x y c a;exact⟨m,V,q,s,A G f.2.2.1 (f.2.1 e).1 f.1,A K f.2.2.2 (KN L.1) (f.2.1 e).2⟩
 have m:=JA c;exact ((h.bt.grown B (λb e=>by cases e;exact .inl (.inr ⟨x,m,.inl rfl⟩))).grown v (λb e=>by cases e;exact .inl (.inr ⟨x,m,.inr rfl⟩))).grown Q (λb e=>by cases e;exact .inl (.inl rfl))
theorem Fj (g) (n:Nat) (cap k0 l w) (h:Mw w g l k0 0 w) (a:Ia g l) (b:l.length=n) (T:k0+dy l<=100000000) (G:dy l<=1000000) (V:n<=1000) :
  Calls prog 76 #[Vl g n cap,I k0] w λe f=>e=.returned (I (k0+dy l:Nat))/\Mw w g l k0 n f:=by
 have t:=H h;have u:=H a;have v:=H b;clear h a b;go_enter func76,ntmps76;go_wp2;go_loopw [1,5] (λb i wr=>∃ k q:Nat,k<=n/\i=I k/\b=I q/\q=k0+dy (l.take k)/\Hid (Mw w g l k0 k wr)) (λ_ i _=>n-(intOf i).toNat);case atStart=>exact ⟨0,k0,Jt _,rfl,rfl,by simp [dy],t⟩
 case round =>
  obtain⟨k,q,W,rfl,rfl,j,a⟩:=hrel;clear t;by_cases K:k<n
  ·obtain⟨x,b⟩:∃ x,l[k]?=some x:=⟨_,Jq (by have:=v.out;omega)⟩;have L:q+x.n+x.m+1<=100000000/\x.n+x.m<=1000000:=(by have:=vX l (k+1);rw [iU b] at this;omega);have M:=H (iU b);have m:=H b;have c:=H j;obtain⟨N,O,p,r,s,y⟩:=a.rst k x b;obtain⟨Q,o⟩:=a.cel k x b;have z:=H (tN x.a x.n x.n N q wr p Z Z s);have d:=H (LG r y);clear b j p s r y;go_wp2_with fail;refine (z).mono ?_;rintro e y ⟨rfl,A,b⟩;have p:=(u k k x x m m);have B:=d.2.eqb (b.block _ d.2.lt (by simpa using (KN p.1)));have R:y.cell? ⟨g,k*3+1,none⟩=some (Vl x.b x.m x.m):=by
    obtain⟨S,r,_⟩:=a.typ;have:=b.block g (ah r) (by simpa using (KN p.2.2.1));unfold World.cell? at o ⊢;simp only [this];exact o
   have F:=H (tN x.b x.m x.m O (q+x.n) y d.1 Z Z B);have s:=H (LG A b);clear z Q o d B p A b;go_wp2_with fail;refine (F).mono ?_;rintro e A ⟨rfl,d,o⟩;have b:=H (a.step u m (by rw [<-c.out];exact s.1) s.2 (by rw [<-c.out];exact d) o);rw [<-c.out] at b;obtain⟨S,p,z⟩:=b.2;have Y:=H (LG p z);have S1:=H b.1;clear F R s d o a p z b;go_wp2_with (refine gW (P:=λf=>Mw w g l k0 (k+1) f) rfl 3 _ _ rfl Y.1 Y.2 rfl rfl E S1 ?_;clear S1 Y;intro d b);go_roundw;(case rel=>exact ⟨k+1,q+x.n+x.m+1,Z,aR,aR,by have:=c.out;have:=M.out;omega,b⟩);case measure=>simp [intOf];omega
  have b:k=n:=Z;subst b;subst j;have c:Hid (l.take k=l):=H (by rw [<-v.out];exact zM ..);rw [c.out];go_wp2;go_ret;exact⟨rfl,a⟩
structure Dw8 (g:Nat) (l:List Qw) (k0:Nat) (W:World):Prop where
 typ:∃ cs,W.heap[g]?=some (.cells cs 104)
 cel:∀ (i:Nat) (x:Qw),l[i]?=some x->W.cell? ⟨g,i*3,none⟩=some (Vl x.a x.n x.n)/\W.cell? ⟨g,i*3+1,none⟩=some (Vl x.b x.m x.m)
 don:∀ (i:Nat) (x:Qw),l[i]?=some x->RowV W x.a 3 (Ns .i64 (eo (k0+dy (l.take i)) x.n))/\RowV W x.b 3 (Ns .i64 (eo (k0+dy (l.take i)+x.n) x.m))/\W.cell? ⟨g,i*3+2,none⟩=some (I ((k0+dy (l.take i)+x.n+x.m:Nat):Int))
theorem Dw8.keep {l} (h:Dw8 g l k0 W) (e:W'.heap[g]?=W.heap[g]?) (f:∀ x∈l,∀ b,x.a=b\/x.b=b->b<W.heap.size->W'.heap[b]?=W.heap[b]?):Dw8 g l k0 W':=by
 have a:∀ i,W'.cell? ⟨g,i,none⟩=W.cell? ⟨g,i,none⟩:=λi=>by unfold World.cell?;simp only [e]
 refine⟨by obtain ⟨c,b⟩:=h.typ;exact⟨c,e.trans b⟩,λi x d=>?_,λi x d=>?_⟩;·rw [a,a];exact h.cel i x d
 obtain⟨b,j,k⟩:=h.don i x d;have m:=JA d;exact⟨b.eqb (f x m _ (.inl rfl) b.lt),j.eqb (f x m _ (.inr rfl) j.lt),(a _).trans k⟩
theorem Dw8.below {l} (h:Dw8 g l k0 W) (a:D W W'):Dw8 g l k0 W':=by
 obtain⟨c,d⟩:=h.typ;exact h.keep (a.block g (ah d)) (λx _ b _ c=>a.block b c)
theorem ET (g) (n:Nat) (cap k0 l w) (h:Dw8 g l k0 w) (a:l.length=n) (M:k0+dy l<=100000000) (s:dy l<=1000000) (N:n<=1000) :
  Calls prog 82 #[Vl g n cap,I k0] w λe t=>e=.returned (I (k0+dy l:Nat))/\D w t:=by
 have u:=H h;have o:=H a;clear h a;go_enter func82,ntmps82;go_wp2;go_loopw [1,5] (λb i wr=>∃ k q:Nat,k<=n/\i=I k/\b=I q/\q=k0+dy (l.take k)/\Hid (D w wr)) (λ_ i _=>n-(intOf i).toNat);case atStart=>exact ⟨0,k0,Jt _,rfl,rfl,by simp [dy],H (Jn _ _)⟩
 case round =>
  obtain⟨k,q,O,rfl,rfl,b,c⟩:=hrel;by_cases v:k<n
  ·obtain⟨x,a⟩:∃ x,l[k]?=some x:=⟨_,Jq (by have:=o.out;omega)⟩;have y:q+x.n+x.m+1<=100000000/\x.n+x.m<=1000000:=(by have:=vX l (k+1);rw [iU a] at this;omega);have z:=H (iU a);have d:=u.below c.out;obtain⟨A,B⟩:=d.cel k x a;obtain⟨f,j,m⟩:=d.don k x a;rw [<-b] at f j m;have F:wr.cell? ⟨g,k*3+2,none⟩=some (I ((q+x.n+x.m:Nat):Int)):=m;have p:=H (tY x.a x.n x.n q wr Z Z f);have r:=H (tY x.b x.m x.m (q+x.n) wr Z Z j);have G:=H b;have K:¬(((q+x.n:Nat):Int)<0):=Z;have L:¬(((q+x.n+x.m:Nat):Int)<0):=Z;clear a b f j d m;go_wp2_with fail;refine (p).mono ?_;rintro e a ⟨rfl,rfl⟩;clear p A;go_wp2_with fail;refine (r).mono ?_;rintro e a ⟨rfl,rfl⟩;clear r B;go_wp2;go_roundw;(case rel=>exact ⟨k+1,q+x.n+x.m+1,Z,aR,aR,by have:=G.out;have:=z.out;omega,c⟩);case measure=>simp [intOf];omega
  have a:k=n:=Z;subst a;subst b;have d:Hid (l.take k=l):=H (by rw [<-o.out];exact zM ..);rw [d.out];go_wp2;go_ret;exact⟨rfl,c⟩
structure W0 (g:Nat) (l:List Qw) (W:World):Prop where
 typ:∃ cs,W.heap[g]?=some (.cells cs 104)/\l.length*3<=cs.size
 cel:∀ (i:Nat) (x:Qw),l[i]?=some x->W.cell? ⟨g,i*3,none⟩=some (Vl x.a x.n x.n)/\W.cell? ⟨g,i*3+1,none⟩=some (Vl x.b x.m x.m)
 rst:∀ (i:Nat) (x:Qw),l[i]?=some x->∃ z1 z2:List Int,z1.length=x.n/\z2.length=x.m/\RowV W x.a 3 (Ns .i64 z1)/\RowV W x.b 3 (Ns .i64 z2)
theorem Gy (g cap l) (z:Ia g l) (p:dy l<=1000000) (v:l.length<=1000) :
  Pq 76 82 (Vl g l.length cap) (λb=>b=g\/∃ x∈l,x.a=b\/x.b=b) (dy l) (W0 g l) (λk W=>Dw8 g l k W):=by
 refine⟨?_,?_,?_,?_,?_,?_⟩
 ·rintro W W' ⟨j,q,n⟩ o;have e:=o g (.inl rfl);have d:∀ i,W'.cell? ⟨g,i,none⟩=W.cell? ⟨g,i,none⟩:=λi=>by unfold World.cell?;simp only [e]
  refine⟨by obtain ⟨c,f,r⟩:=j;exact⟨c,e.trans f,r⟩,λi x a=>by rw [d,d];exact q i x a,λi x a=>?_⟩;obtain⟨w,y,f,r,s,t⟩:=n i x a;have m:=JA a;exact⟨w,y,f,r,s.eqb (o _ (.inr ⟨x,m,.inl rfl⟩)),t.eqb (o _ (.inr ⟨x,m,.inr rfl⟩))⟩
 ·intro k W W' h o;exact h.keep (o g (.inl rfl)) (λx a b e _=>o b (.inr ⟨x,a,e⟩))
 ·rintro W ⟨j,q,n⟩ b (rfl|⟨x,a,e⟩);·obtain⟨c,f,r⟩:=j;exact ah f
  obtain⟨i,d⟩:=ek a;obtain⟨w,y,f,r,s,t⟩:=n i x d;rcases e with rfl|rfl;·exact s.lt
  exact t.lt
 ·rintro k W ⟨j,q,n⟩ b (rfl|⟨x,a,e⟩);·obtain⟨c,f⟩:=j;exact ah f
  obtain⟨i,d⟩:=ek a;obtain⟨s,t,_⟩:=n i x d;rcases e with rfl|rfl;·exact s.lt
  exact t.lt
 ·rintro k W u ⟨j,q,n⟩;refine (Fj g l.length cap k l W ⟨j,q,λi x _ h=>Z,n,Bt.refl _ _⟩ z rfl u p v).mono ?_;rintro e A ⟨rfl,m⟩;exact⟨rfl,⟨by obtain ⟨c,f,_⟩:=m.typ;exact⟨c,f⟩,m.cel,λi x a=>m.don i x a (Jr.1 a).1⟩,m.bt⟩
 intro k W u h;exact ET g l.length cap k l W h rfl u p v
structure Prt where
 S:Nat->Prop
 n:Nat
 own:World->Prop
 md:Nat->World->Prop
structure Prt.ok (p:Prt):Prop where
 ok:∀ W W',p.own W->(∀ b,p.S b->W'.heap[b]?=W.heap[b]?)->p.own W'
 ky:∀ k W W',p.md k W->(∀ b,p.S b->W'.heap[b]?=W.heap[b]?)->p.md k W'
 lt:∀ W,p.own W->∀ b,p.S b->b<W.heap.size
 ltm:∀ k W,p.md k W->∀ b,p.S b->b<W.heap.size
theorem Pq.prt {F G v} {p:Prt} (h:Pq F G v p.S p.n p.own p.md):p.ok:=⟨h.ok,h.ky,h.lt,h.ltm⟩
def Kk (l:Nat->Prt) (k:Nat):Nat->Nat
 | 0=>k
 | j+1=>Kk l k j+(l j).n
structure St9 (l:Nat->Prt) (N j k:Nat) (W:World):Prop where
 d:∀ i,i<j->(l i).md (Kk l k i) W
 o:∀ i,j<=i->i<N->(l i).own W
theorem St9.step {l N} (h:St9 l N j k W) (f:∀ i,i<N->(l i).ok) (a:∀ i j,i<N->j<N->i≠j->∀ b,(l i).S b->¬(l j).S b) (m:j<N) (o:(l j).md (Kk l k j) W') (n:Bt (l j).S W W'):St9 l N (j+1) k W':=by
 refine⟨λi p=>?_,λi p g=>?_⟩
 ·by_cases e:i=j;·subst e;exact o
  have c:=h.d i Z;exact (f i Z).ky _ W W' c (λb d=>n.block b ((f i Z).ltm _ W c b d) (a i j Z m e b d))
 have c:=h.o i Z g;exact (f i g).ok W W' c (λb d=>n.block b ((f i g).lt W c b d) (a i j g m Z b d))
theorem St9.below {l N} (h:St9 l N j k W) (c:∀ i,i<N->(l i).ok) (g:j<=N) (f:D W W'):St9 l N j k W' :=
 ⟨λi a=>(c i Z).ky _ W W' (h.d i a) (λb e=>f.block b ((c i Z).ltm _ W (h.d i a) b e)),
 λi a d=>(c i d).ok W W' (h.o i a d) (λb e=>f.block b ((c i d).lt W (h.o i a d) b e))⟩
theorem Em (l:Nat->Prt) (k x y) (M:Option Addr) (N O:Nat) (f:Option Addr) (g m:Nat) (n:Option Addr) (o p:Nat) (q:Option Addr) (r s:Nat) (t:Option Addr) (u v:Nat) (z:Option Addr) (A B:Nat) (w) (V:Pq 32 80 (.slice M N O) (l 0).S (l 0).n (l 0).own (l 0).md) (W:Pq 75 81 (.slice f g m) (l 1).S (l 1).n (l 1).own (l 1).md) (X:Pq 76 82 (.slice n o p) (l 2).S (l 2).n (l 2).own (l 2).md) (Y:Pq 77 83 (.slice q r s) (l 3).S (l 3).n (l 3).own (l 3).md) (C4:Pq 78 84 (.slice t u v) (l 4).S (l 4).n (l 4).own (l 4).md) (C5:Pq 78 84 (.slice z A B) (l 5).S (l 5).n (l 5).own (l 5).md) (a:∀ i j,i<6->j<6->i≠j->∀ b,(l i).S b->¬(l j).S b) (hk:Kk l k 6<=100000000) (h:St9 l 6 0 k w) :
  Calls prog 35 #[.agg #[I x,.slice M N O,.slice f g m,.slice n o p,.slice q r s,.slice t u v,.slice z A B,I y],I k] w λe w'=>∃ K:Nat,e=.returned (I K)/\K=Kk l k 6/\St9 l 6 6 k w'/\Bt (λb=>∃ i,i<6/\(l i).S b) w w':=by
 have P:∀ i,i<6->(l i).ok:=λi Q=>by
  match i,Q with
  | 0,_=>exact V.prt
  | 1,_=>exact W.prt
  | 2,_=>exact X.prt
  | 3,_=>exact Y.prt
  | 4,_=>exact C4.prt
  | 5,_=>exact C5.prt
 have d:∀ i,i<6->∀ b,(l i).S b->b<w.heap.size:=λi Q=>(P i Q).lt w (h.o i (Jt _) Q)
 have c:D w (w.alloc (.cells #[I x,.slice M N O,.slice f g m,.slice n o p,.slice q r s,.slice t u v,.slice z A B,I y] 35)):=(Jn _ _).alloc (Jo _) _;have x0:=av w (.cells #[I x,.slice M N O,.slice f g m,.slice n o p,.slice q r s,.slice t u v,.slice z A B,I y] 35);have R:=H x0;have S:=H (h.below P Z c);have B0:=H (show Bt (λb=>∃ i,i<6/\(l i).S b) w (w.alloc (.cells #[I x,.slice M N O,.slice f g m,.slice n o p,.slice q r s,.slice t u v,.slice z A B,I y] 35)) from (Bt.refl _ _).bel c);have F:=H P;have G:=H d;have K:=H a;have D0:=H V;have D1:=H W;have D2:=H X;have D3:=H Y;have D4:=H C4;have D5:=H C5;have L:Hid (((((((k+(l 0).n)+(l 1).n)+(l 2).n)+(l 3).n)+(l 4).n)+(l 5).n)<=100000000):=H hk;clear P d a c x0 h hk V W X Y C4 C5;go_enter func35,ntmps35;go_wp2_with fail;generalize w.alloc _=V0 at R S B0 ⊢;refine (D0.mark k _ (by have:=L.out;omega) (S.o 0 (Jo _) Z)).mono ?_;rintro e Y ⟨rfl,d,c⟩;have P:=H ((c.block _ (ah R) (λe=>Lj _ (G 0 Z _ e))).trans R);have V:=H (S.step F K Z d c);have W:=H ((B0.trans c).mono (T:=λb=>∃ i,i<6/\(l i).S b) (λb a=>by rcases a with a|a;exact a;exact⟨0,Z,a⟩));clear R S B0 D0 d c;have c2:Y.cell? ⟨w.heap.size,2,none⟩=some (.slice f g m):=aM P.out;go_wp2_with fail;refine (D1.mark (k+(l 0).n) _ (by have:=L.out;omega) (V.o 1 (Jo _) Z)).mono ?_;rintro e U1 ⟨rfl,d,c⟩;have R:=H ((c.block _ (ah P) (λe=>Lj _ (G 1 Z _ e))).trans P);have S:=H (V.step F K Z d c);have X:=H ((W.trans c).mono (T:=λb=>∃ i,i<6/\(l i).S b) (λb a=>by rcases a with a|a;exact a;exact⟨1,Z,a⟩));clear P V W D1 d c c2;have c3:U1.cell? ⟨w.heap.size,3,none⟩=some (.slice n o p):=aM R.out;go_wp2_with fail;refine (D2.mark ((k+(l 0).n)+(l 1).n) _ (by have:=L.out;omega) (S.o 2 (Jo _) Z)).mono ?_;rintro e U2 ⟨rfl,d,c⟩;have P:=H ((c.block _ (ah R) (λe=>Lj _ (G 2 Z _ e))).trans R);have V:=H (S.step F K Z d c);have W:=H ((X.trans c).mono (T:=λb=>∃ i,i<6/\(l i).S b) (λb a=>by rcases a with a|a;exact a;exact⟨2,Z,a⟩));clear R S X D2 d c c3;have c4:U2.cell? ⟨w.heap.size,4,none⟩=some (.slice q r s):=aM P.out;go_wp2_with fail;refine (D3.mark (((k+(l 0).n)+(l 1).n)+(l 2).n) _ (by have:=L.out;omega) (V.o 3 (Jo _) Z)).mono ?_;rintro e U3 ⟨rfl,d,c⟩;have R:=H ((c.block _ (ah P) (λe=>Lj _ (G 3 Z _ e))).trans P);have S:=H (V.step F K Z d c);have X:=H ((W.trans c).mono (T:=λb=>∃ i,i<6/\(l i).S b) (λb a=>by rcases a with a|a;exact a;exact⟨3,Z,a⟩));clear P V W D3 d c c4;have c5:U3.cell? ⟨w.heap.size,5,none⟩=some (.slice t u v):=aM R.out;go_wp2_with fail;refine (D4.mark ((((k+(l 0).n)+(l 1).n)+(l 2).n)+(l 3).n) _ (by have:=L.out;omega) (S.o 4 (Jo _) Z)).mono ?_;rintro e U4 ⟨rfl,d,c⟩;have P:=H ((c.block _ (ah R) (λe=>Lj _ (G 4 Z _ e))).trans R);have V:=H (S.step F K Z d c);have W:=H ((X.trans c).mono (T:=λb=>∃ i,i<6/\(l i).S b) (λb a=>by rcases a with a|a;exact a;exact⟨4,Z,a⟩));clear R S X D4 d c c5;have R:U4.cell? ⟨w.heap.size,6,none⟩=some (.slice z A B):=aM P.out;go_wp2_with fail;refine (D5.mark (((((k+(l 0).n)+(l 1).n)+(l 2).n)+(l 3).n)+(l 4).n) _ (by have:=L.out;omega) (V.o 5 (Jo _) Z)).mono ?_;rintro e U5 ⟨rfl,d,c⟩;have X6:=H ((c.block _ (ah P) (λe=>Lj _ (G 5 Z _ e))).trans P);have S:=H (V.step F K Z d c);have X:=H ((W.trans c).mono (T:=λb=>∃ i,i<6/\(l i).S b) (λb a=>by rcases a with a|a;exact a;exact⟨5,Z,a⟩));clear P V W D5 d c R;go_wp2;go_ret;exact⟨_,rfl,rfl,S,X⟩
theorem Fw (l:Nat->Prt) (k x y) (G:Option Addr) (L M:Nat) (d:Option Addr) (f g:Nat) (m:Option Addr) (n o:Nat) (p:Option Addr) (q r:Nat) (s:Option Addr) (t u:Nat) (v:Option Addr) (z A:Nat) (w) (Q:Pq 32 80 (.slice G L M) (l 0).S (l 0).n (l 0).own (l 0).md) (R:Pq 75 81 (.slice d f g) (l 1).S (l 1).n (l 1).own (l 1).md) (S:Pq 76 82 (.slice m n o) (l 2).S (l 2).n (l 2).own (l 2).md) (T:Pq 77 83 (.slice p q r) (l 3).S (l 3).n (l 3).own (l 3).md) (V:Pq 78 84 (.slice s t u) (l 4).S (l 4).n (l 4).own (l 4).md) (W:Pq 78 84 (.slice v z A) (l 5).S (l 5).n (l 5).own (l 5).md) (B:∀ i j,i<6->j<6->i≠j->∀ b,(l i).S b->¬(l j).S b) (Y:Kk l k 6<=100000000) (h:St9 l 6 6 k w) :
  Calls prog 37 #[.agg #[I x,.slice G L M,.slice d f g,.slice m n o,.slice p q r,.slice s t u,.slice v z A,I y],I k] w λe w'=>∃ K:Nat,e=.returned (I K)/\K=Kk l k 6/\D w w':=by
 have K:∀ i,i<6->(l i).ok:=λi N=>by
  match i,N with
  | 0,_=>exact Q.prt
  | 1,_=>exact R.prt
  | 2,_=>exact S.prt
  | 3,_=>exact T.prt
  | 4,_=>exact V.prt
  | 5,_=>exact W.prt
 have F:∀ i,i<6->∀ b,(l i).S b->b<w.heap.size:=λi N=>(K i N).ltm _ w (h.d i N)
 have a:D w (w.alloc (.cells #[I x,.slice G L M,.slice d f g,.slice m n o,.slice p q r,.slice s t u,.slice v z A,I y] 35)):=(Jn _ _).alloc (Jo _) _;have x0:=av w (.cells #[I x,.slice G L M,.slice d f g,.slice m n o,.slice p q r,.slice s t u,.slice v z A,I y] 35);have X:=H x0;have O:=H (h.below K Z a);have P:=H a;have b:=H K;have LT:=H F;have DI:=H B;have D0:=H Q;have D1:=H R;have D2:=H S;have D3:=H T;have D4:=H V;have D5:=H W;have c:Hid (((((((k+(l 0).n)+(l 1).n)+(l 2).n)+(l 3).n)+(l 4).n)+(l 5).n)<=100000000):=H Y;clear K F B a x0 h Y Q R S T V W;go_enter func37,ntmps37;go_wp2_with fail;generalize w.alloc _=V0 at X O P ⊢;refine (D0.held k _ (by have:=c.out;omega) (O.d 0 Z)).mono ?_;rintro e R ⟨rfl,a⟩;have B:=H (ae X a);have F:=H (O.below b (Jo _) a);have K:=H (P.trans (a.mono P.size));clear X O P D0 a;have S:R.cell? ⟨w.heap.size,2,none⟩=some (.slice d f g):=aM B.out;have T:¬((((k+(l 0).n):Nat):Int)<0):=Z;go_wp2_with fail;refine (D1.held (k+(l 0).n) _ (by have:=c.out;omega) (F.d 1 Z)).mono ?_;rintro e V ⟨rfl,a⟩;have O:=H (ae B a);have P:=H (F.below b (Jo _) a);have Q:=H (K.trans (a.mono K.size));clear B F K D1 a S;have S:V.cell? ⟨w.heap.size,3,none⟩=some (.slice m n o):=aM O.out;have W:¬(((((k+(l 0).n)+(l 1).n):Nat):Int)<0):=Z;go_wp2_with fail;refine (D2.held ((k+(l 0).n)+(l 1).n) _ (by have:=c.out;omega) (P.d 2 Z)).mono ?_;rintro e X ⟨rfl,a⟩;have B:=H (ae O a);have F:=H (P.below b (Jo _) a);have K:=H (Q.trans (a.mono Q.size));clear O P Q D2 a S;have S:X.cell? ⟨w.heap.size,4,none⟩=some (.slice p q r):=aM B.out;have Y:¬((((((k+(l 0).n)+(l 1).n)+(l 2).n):Nat):Int)<0):=Z;go_wp2_with fail;refine (D3.held (((k+(l 0).n)+(l 1).n)+(l 2).n) _ (by have:=c.out;omega) (F.d 3 Z)).mono ?_;rintro e U3 ⟨rfl,a⟩;have O:=H (ae B a);have P:=H (F.below b (Jo _) a);have Q:=H (K.trans (a.mono K.size));clear B F K D3 a S;have S:U3.cell? ⟨w.heap.size,5,none⟩=some (.slice s t u):=aM O.out;have a0:¬(((((((k+(l 0).n)+(l 1).n)+(l 2).n)+(l 3).n):Nat):Int)<0):=Z;go_wp2_with fail;refine (D4.held ((((k+(l 0).n)+(l 1).n)+(l 2).n)+(l 3).n) _ (by have:=c.out;omega) (P.d 4 Z)).mono ?_;rintro e U4 ⟨rfl,a⟩;have B:=H (ae O a);have F:=H (P.below b (Jo _) a);have K:=H (Q.trans (a.mono Q.size));clear O P Q D4 a S;have O:U4.cell? ⟨w.heap.size,6,none⟩=some (.slice v z A):=aM B.out;have P:¬((((((((k+(l 0).n)+(l 1).n)+(l 2).n)+(l 3).n)+(l 4).n):Nat):Int)<0):=Z;go_wp2_with fail;refine (D5.held (((((k+(l 0).n)+(l 1).n)+(l 2).n)+(l 3).n)+(l 4).n) _ (by have:=c.out;omega) (F.d 5 Z)).mono ?_;rintro e S ⟨rfl,a⟩;have X6:=H (ae B a);have T6:=H (F.below b (Jo _) a);have Q:=H (K.trans (a.mono K.size));clear B F K D5 a O;have a:¬(((((((((k+(l 0).n)+(l 1).n)+(l 2).n)+(l 3).n)+(l 4).n)+(l 5).n):Nat):Int)<0):=Z;go_wp2;go_ret;exact⟨_,rfl,rfl,Q⟩
theorem DG (l:Nat->Prt) (x y) (f:Option Addr) (g m:Nat) (n:Option Addr) (o p:Nat) (q:Option Addr) (r t:Nat) (u:Option Addr) (v w:Nat) (z:Option Addr) (A B:Nat) (F:Option Addr) (G L:Nat) (O:Pq 32 80 (.slice f g m) (l 0).S (l 0).n (l 0).own (l 0).md) (P:Pq 75 81 (.slice n o p) (l 1).S (l 1).n (l 1).own (l 1).md) (Q:Pq 76 82 (.slice q r t) (l 2).S (l 2).n (l 2).own (l 2).md) (R:Pq 77 83 (.slice u v w) (l 3).S (l 3).n (l 3).own (l 3).md) (S:Pq 78 84 (.slice z A B) (l 4).S (l 4).n (l 4).own (l 4).md) (T:Pq 78 84 (.slice F G L) (l 5).S (l 5).n (l 5).own (l 5).md) (d:∀ i j,i<6->j<6->i≠j->∀ b,(l i).S b->¬(l j).S b) :
  Pq 35 37 (.agg #[I x,.slice f g m,.slice n o p,.slice q r t,.slice u v w,.slice z A B,.slice F G L,I y]) (λb=>∃ i,i<6/\(l i).S b) (Kk l 0 6) (λW=>∀ i,i<6->(l i).own W) (λk W=>∀ i,i<6->(l i).md (Kk l k i) W):=by
 have M:∀ i,i<6->(l i).ok:=λi a=>by
  match i,a with
  | 0,_=>exact O.prt
  | 1,_=>exact P.prt
  | 2,_=>exact Q.prt
  | 3,_=>exact R.prt
  | 4,_=>exact S.prt
  | 5,_=>exact T.prt
 have N:∀ k,Kk l k 6=k+Kk l 0 6:=λk=>by simp only [Kk];omega
 refine⟨λW W' h V i a=>(M i a).ok W W' (h i a) (λb c=>V b ⟨i,a,c⟩),λk W W' h V i a=>(M i a).ky _ W W' (h i a) (λb c=>V b ⟨i,a,c⟩),?_,?_,?_,?_⟩;·rintro W h b ⟨i,a,c⟩;exact (M i a).lt W (h i a) b c
 ·rintro k W h b ⟨i,a,c⟩;exact (M i a).ltm _ W (h i a) b c
 ·intro k W X h;refine (Em l k x y f g m n o p q r t u v w z A B F G L W O P Q R S T d (by rw [N];exact X) ⟨λi a=>Z,λi _ a=>h i a⟩).mono ?_;rintro e Y ⟨K,rfl,rfl,s,b⟩;exact⟨by rw [N],s.d,b⟩
 intro k W X h;refine (Fw l k x y f g m n o p q r t u v w z A B F G L W O P Q R S T d (by rw [N];exact X) ⟨h,λi a a=>Z⟩).mono ?_;rintro e Y ⟨K,rfl,rfl,b⟩;exact⟨by rw [N],b⟩
theorem FD (l:Nat->Prt) (k) (Q:Bool) (x y) (N:Option Addr) (O P:Nat) (g:Option Addr) (m n:Nat) (o:Option Addr) (p q:Nat) (r:Option Addr) (s t:Nat) (u:Option Addr) (v z:Nat) (A:Option Addr) (B F:Nat) (G:Option Addr) (L M:Nat) (w) (W:Pq 34 36 (.slice N O P) (l 0).S (l 0).n (l 0).own (l 0).md) (X:Pq 35 37 (.agg #[I x,.slice g m n,.slice o p q,.slice r s t,.slice u v z,.slice A B F,.slice G L M,I y]) (l 1).S (l 1).n (l 1).own (l 1).md) (c:∀ i j,i<2->j<2->i≠j->∀ b,(l i).S b->¬(l j).S b) (hk:Kk l k 2<=100000000) (h:St9 l 2 0 k w) :
  Calls prog 15 #[.agg #[.bool Q,.slice N O P,I x,.slice g m n,.slice o p q,.slice r s t,.slice u v z,.slice A B F,.slice G L M,I y],I k] w λe w'=>∃ K:Nat,e=.returned (I K)/\K=Kk l k 2/\St9 l 2 2 k w'/\Bt (λb=>∃ i,i<2/\(l i).S b) w w':=by
 have f:∀ i,i<2->(l i).ok:=λi R=>by
  match i,R with
  | 0,_=>exact W.prt
  | 1,_=>exact X.prt
 have d:∀ i,i<2->∀ b,(l i).S b->b<w.heap.size:=λi R=>(f i R).lt w (h.o i (Jt _) R)
 have a:D w (w.alloc (.cells #[.bool Q,.slice N O P,I x,.slice g m n,.slice o p q,.slice r s t,.slice u v z,.slice A B F,.slice G L M,I y] 37)):=(Jn _ _).alloc (Jo _) _;have K:=av w (.cells #[.bool Q,.slice N O P,I x,.slice g m n,.slice o p q,.slice r s t,.slice u v z,.slice A B F,.slice G L M,I y] 37);have S:=H K;have V:=H (h.below f Z a);have Y:=H (show Bt (λb=>∃ i,i<2/\(l i).S b) w (w.alloc (.cells #[.bool Q,.slice N O P,I x,.slice g m n,.slice o p q,.slice r s t,.slice u v z,.slice A B F,.slice G L M,I y] 37)) from (Bt.refl _ _).bel a);have HP:=H f;have LT:=H d;have DI:=H c;have D0:=H W;have D1:=H X;have HK:Hid (((k+(l 0).n)+(l 1).n)<=100000000):=H hk;clear f d c a K h hk W X;go_enter func15,ntmps15;go_wp2_with fail;generalize w.alloc _=V0 at S V Y ⊢;refine (D0.mark k _ (by have:=HK.out;omega) (V.o 0 (Jo _) Z)).mono ?_;rintro e f ⟨rfl,K,a⟩;have c:=H ((a.block _ (ah S) (λe=>Lj _ (LT 0 Z _ e))).trans S);have W:=H (V.step HP DI Z K a);have X:=H ((Y.trans a).mono (T:=λb=>∃ i,i<2/\(l i).S b) (λb d=>by rcases d with d|d;exact d;exact⟨0,Z,d⟩));clear S V Y D0 K a;have S:f.cell? ⟨w.heap.size,2,none⟩=some (I x):=aM c.out;have V:f.cell? ⟨w.heap.size,3,none⟩=some (.slice g m n):=aM c.out;have Y:f.cell? ⟨w.heap.size,4,none⟩=some (.slice o p q):=aM c.out;have c5:f.cell? ⟨w.heap.size,5,none⟩=some (.slice r s t):=aM c.out;have c6:f.cell? ⟨w.heap.size,6,none⟩=some (.slice u v z):=aM c.out;have c7:f.cell? ⟨w.heap.size,7,none⟩=some (.slice A B F):=aM c.out;have c8:f.cell? ⟨w.heap.size,8,none⟩=some (.slice G L M):=aM c.out;have c9:f.cell? ⟨w.heap.size,9,none⟩=some (I y):=aM c.out;go_wp2_with fail;refine (D1.mark (k+(l 0).n) _ (by have:=HK.out;omega) (W.o 1 (Jo _) Z)).mono ?_;rintro e U1 ⟨rfl,K,a⟩;have X2:=H ((a.block _ (ah c) (λe=>Lj _ (LT 1 Z _ e))).trans c);have T2:=H (W.step HP DI Z K a);have B2:=H ((X.trans a).mono (T:=λb=>∃ i,i<2/\(l i).S b) (λb d=>by rcases d with d|d;exact d;exact⟨1,Z,d⟩));clear c W X D1 K a S V Y c5 c6 c7 c8 c9;go_wp2;go_ret;exact⟨_,rfl,rfl,T2,B2⟩
theorem ED (l:Nat->Prt) (k) (S:Bool) (x y) (L:Option Addr) (M N:Nat) (d:Option Addr) (f g:Nat) (m:Option Addr) (n o:Nat) (p:Option Addr) (q r:Nat) (s:Option Addr) (t u:Nat) (v:Option Addr) (z A:Nat) (B:Option Addr) (F G:Nat) (w) (T:Pq 34 36 (.slice L M N) (l 0).S (l 0).n (l 0).own (l 0).md) (V:Pq 35 37 (.agg #[I x,.slice d f g,.slice m n o,.slice p q r,.slice s t u,.slice v z A,.slice B F G,I y]) (l 1).S (l 1).n (l 1).own (l 1).md) (c:∀ i j,i<2->j<2->i≠j->∀ b,(l i).S b->¬(l j).S b) (X:Kk l k 2<=100000000) (h:St9 l 2 2 k w) :
  Calls prog 16 #[.agg #[.bool S,.slice L M N,I x,.slice d f g,.slice m n o,.slice p q r,.slice s t u,.slice v z A,.slice B F G,I y],I k] w λe w'=>∃ K:Nat,e=.returned (I K)/\K=Kk l k 2/\D w w':=by
 have O:∀ i,i<2->(l i).ok:=λi P=>by
  match i,P with
  | 0,_=>exact T.prt
  | 1,_=>exact V.prt
 have K:∀ i,i<2->∀ b,(l i).S b->b<w.heap.size:=λi P=>(O i P).ltm _ w (h.d i P)
 have a:D w (w.alloc (.cells #[.bool S,.slice L M N,I x,.slice d f g,.slice m n o,.slice p q r,.slice s t u,.slice v z A,.slice B F G,I y] 37)):=(Jn _ _).alloc (Jo _) _;have b:=av w (.cells #[.bool S,.slice L M N,I x,.slice d f g,.slice m n o,.slice p q r,.slice s t u,.slice v z A,.slice B F G,I y] 37);have W:=H b;have Q:=H (h.below O Z a);have R:=H a;have Y:=H O;have LT:=H K;have DI:=H c;have D0:=H T;have D1:=H V;have HK:Hid (((k+(l 0).n)+(l 1).n)<=100000000):=H X;clear O K c a b h X T V;go_enter func16,ntmps16;go_wp2_with fail;generalize w.alloc _=V0 at W Q R ⊢;refine (D0.held k _ (by have:=HK.out;omega) (Q.d 0 Z)).mono ?_;rintro e c ⟨rfl,a⟩;have b:=H (ae W a);have K:=H (Q.below Y (Jo _) a);have O:=H (R.trans (a.mono R.size));clear W Q R D0 a;have Q:c.cell? ⟨w.heap.size,2,none⟩=some (I x):=aM b.out;have R:c.cell? ⟨w.heap.size,3,none⟩=some (.slice d f g):=aM b.out;have T:c.cell? ⟨w.heap.size,4,none⟩=some (.slice m n o):=aM b.out;have V:c.cell? ⟨w.heap.size,5,none⟩=some (.slice p q r):=aM b.out;have W:c.cell? ⟨w.heap.size,6,none⟩=some (.slice s t u):=aM b.out;have X:c.cell? ⟨w.heap.size,7,none⟩=some (.slice v z A):=aM b.out;have c8:c.cell? ⟨w.heap.size,8,none⟩=some (.slice B F G):=aM b.out;have c9:c.cell? ⟨w.heap.size,9,none⟩=some (I y):=aM b.out;have a0:¬((((k+(l 0).n):Nat):Int)<0):=Z;go_wp2_with fail;refine (D1.held (k+(l 0).n) _ (by have:=HK.out;omega) (K.d 1 Z)).mono ?_;rintro e U1 ⟨rfl,a⟩;have X2:=H (ae b a);have T2:=H (K.below Y (Jo _) a);have B2:=H (O.trans (a.mono O.size));clear b K O D1 a Q R T V W X c8 c9;have a:¬(((((k+(l 0).n)+(l 1).n):Nat):Int)<0):=Z;go_wp2;go_ret;exact⟨_,rfl,rfl,B2⟩
end
section
open Go.Shelf Go.RowKit Go.Lib Go.Sort
theorem Ex:uo:=by
 intro v rs W p h q;rcases h.2 with ⟨rfl,r⟩|⟨g,c,k,rfl,s,l,t,u,y,z⟩;·have b:rs=[]:=KD r;subst b;have a:=AnyF.slices_SortFunc_none Tryz.sortR none 0 (.func (.func 122) #[] #[]) W;change Calls prog 121 _ _ _ at a;refine a.mono ?_;rintro e A ⟨rfl,rfl⟩;exact⟨rfl,[],List.Perm.refl _,List.Pairwise.nil,h,⟨rfl,rfl,rfl,Jo _,λ_ _ _=>rfl⟩⟩
 have B:∀ b w,(callFunc 122 b).run prog w=.ok (.enter 122 b) w:=enters_of func122 E rfl;have a:=AnyQ.slices_SortFunc Tryz.sortR 5 Tryz.isAgg109 Tryz.sizeOf109 tC (λ_=>rfl) (λx v b=>by simp [tC] at b;rcases b with rfl|rfl|rfl|rfl|rfl <;> rfl) tT IF 122 #[] g 0 c rs.toArray W B (zi g 0 rs.toArray.size W) (Fz l z) (ah l) cd;change Calls prog 121 _ _ _ at a;simp only [JJ] at a;refine a.mono ?_;rintro e A ⟨rfl,b,n,K,w,x,rfl⟩;have f:b.toList.Perm rs:=by have:=uM (d:=rs.toArray) (by simpa using w);simpa using this
 have m:b.toList.length=rs.length:=f.length_eq;refine⟨rfl,b.toList,f,?_,⟨by rw [pc,m],.inr ⟨g,c,_,rfl,s,qZ b l,t,u,by simp [putCells,y],?_⟩⟩,lO b⟩;·rw [Lq];intro i j F G o;have:=x i j (Jt _) o Z;rw [Hz,getElem!_pos b i (by simpa using F),getElem!_pos b j (by simpa using G)] at this;simp at this;simpa using this
 have:=xf k b.toList (by rw [m];omega);rw [m] at this;simpa using this
end
end Go.Proofs.YtdfodlhkdmkfdaaGreatDoor
