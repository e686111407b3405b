import Derived.Test.YtdngbppdomoenaaGreatDoorN39
import Derived.Test.YtdngbppdomoenaaGreatDoorN40
set_option linter.unusedVariables false
set_option linter.unusedSimpArgs false
set_option maxRecDepth 20000
set_option maxHeartbeats 8000000
namespace Go.Proofs.YtdngbppdomoenaaGreatDoor
open Go.Proofs.Tryz
variable {B k n:Nat} {V W w:World} {l:List Aw} {m0 m1 m2 m3 m4 m5 m6 m7 v va:Value} {q y:dh} {d:Dy} {cf:Cf} {A:Option Addr} {ops xs:List dh} {o:Oper} {f11 f5:Option Value} {f10 f13:Option Nat} {a:Act} {K:Act->World->Prop} {Q:Exit->Act->World->Prop} {an:List An4}
section
open Go.RowKit Go.Maps
structure Ra9 (B:Nat) (W:World) (l:List Aw) (v:Value):Prop where
 row:W.ownsRow B 44 4 v l.length (fw l)
 dat:∀ z∈l,W.ownsRow B 5 1 z.2 z.1.data.length (Ns .u8 z.1.data)
 dis:l.Pairwise λy z=>∀ g,y.2.ownBlock=some g->z.2.ownBlock≠some g
theorem Ra9.ky {S W'} (r:Ra9 B W l v) (k:Ky S W W') (a:¬S 44) (b:¬S 5):Ra9 B W' l v :=
 ⟨aj r.row k a,λz c=>aj (r.dat z c) k b,r.dis⟩
theorem Ra9.below {B W W' l v} (r:Ra9 B W l v) (b:D W W'):Ra9 B W' l v:=r.ky (Ky.below b:Ky (λ_=>False) W W') (λe=>e) (λe=>e)
theorem Ra9.nil (B W):Ra9 B W [] (C):=⟨⟨rfl,.inl ⟨rfl,rfl⟩⟩,(λz a=>by cases a),List.Pairwise.nil⟩
theorem Ra9.ans (r:Ra9 B W l v) (a:l.length<=300):wJ B W l v:=⟨r.row,a⟩
theorem Hp.ky81 {y h V'} (a:Hp B y d cf h V) (k:Ky (· = 44) V V') (b:Below B V V') (c:V'.heap[y.M]?=V.heap[y.M]?) (f:V'.heap[y.R]?=V.heap[y.R]?):Hp B y d cf h V' :=
 a.keep ⟨k.more (λt e=>by rw [e];decide),c,f⟩ b
theorem wy {y h} (Q:Hp B y d cf h V) (t:Gd d h v) (R:Ra9 B V l v) (r:An4) (n:Value) (e:Nat) (m:∀ z∈l,∀ g,z.2.ownBlock=some g->g<e) (T:B<=e) (w:V.ownsRow e 5 1 n r.data.length (Ns .u8 r.data)) (hl:l.length<=300) :
  ∃ f a,(Builtin.append_ #[30,30] 30 #[v,Vl V.heap.size 1 1]).run prog (V.alloc (.cells (aC (r,n)).toArray 44))=.ok f a/\a.cell? ⟨y.P,119,none⟩=some v/\a.frozen? ⟨y.P,119,none⟩=false/\(∃ b,Hp B y b cf h (a.setCell ⟨y.P,119,none⟩ f)/\Gd b h f)/\Ra9 B (a.setCell ⟨y.P,119,none⟩ f) (l++[(r,n)]) f/\Below B V (a.setCell ⟨y.P,119,none⟩ f):=by
 have o:D V (V.alloc (.cells (aC (r,n)).toArray 44)):=(Fc _ _).alloc (Fe _) _;have i:=Q.below o;have j:=R.below o;have x:=ay w o;obtain⟨va,A,F,rfl⟩:=aD w;obtain⟨f,a,W,X,G⟩:=pA _ B v l (r,.slice va A F) V.heap.size 1 j.row (ao V _) rfl Z i.bW;have K:Ky (· = 44) _ a:=Ky.grownO (λP L=>by obtain ⟨_,c,b⟩:=aH j.row L;exact⟨c,44,_,b,rfl⟩) G;have S:Below B _ a:=(Fc B _).grown G i.bW (λP L=>(aH j.row L).1);have nb:∀ (g:Nat) p c,(V.alloc (.cells (aC (r,.slice va A F)).toArray 44)).heap[g]?=some (Obj.map p c)->a.heap[g]?=(V.alloc (.cells (aC (r,.slice va A F)).toArray 44)).heap[g]?:=λ(g:Nat) p c q=>G.block g (ai q) (λe=>by
  obtain⟨_,k,b⟩:=aH j.row e.symm;rw [q] at b;cases b)
 have k:Hp B y d cf h a:=by
  refine i.ky81 K S ?_ ?_;·obtain⟨b,⟨p,M,s,_⟩,_⟩:=i.sp.map;exact nb _ _ _ s
  obtain⟨p,M,s⟩:=i.mp.typ;exact nb _ _ _ s
 have Y:a.cell? ⟨y.P,119,none⟩=some v:=k.cell 119 Z _ t.an;have fU:=k.box.free 119;have M:=k.setDy 119 f { d with an:=f } (.inl ⟨rfl,rfl⟩);have N:=k.box.kyS 119 f;have b2:Below B a (a.setCell ⟨y.P,119,none⟩ f):=(Fc B a).setCell k.ap.bP _;refine⟨f,a,W,Y,fU,⟨_,M,t.on,t.un,rfl⟩,⟨aj X N av,λz b=>?_,?_⟩,((o.mono Q.bW).trans S).trans b2⟩
 ·rcases FM.1 b with b|b;·exact aj (aj (j.dat z b) K av) N av
  have:=List.mem_singleton.1 b;subst this;exact aN (aj (aj x K av) N av) T
 rw [H_];refine⟨R.dis,List.pairwise_singleton _ _,λz b u hu g q O=>?_⟩;have:=List.mem_singleton.1 hu;subst this;have h1:=(aH w O).1;have s:=m z b g q;omega
theorem Ois.da (h:Ois w A ops) {y hh} (a:Hp B y d cf hh W) (b:D w W) (m:w.heap.size<=B) (c:q∈ops):Da y.S y.M d.f W q.d q.o.ys.length q.o.ys:=by
 refine⟨rfl,λi f=>?_⟩;obtain⟨x,g,j,l⟩:=h.dat q c i f;have n:=a.ap.bS;have o:=a.ap.bM;exact⟨x,g,c_ b j,Fq l b.size,Z,Z,λk e=>by have:=a.bf k _ e;omega⟩
structure Er (ops:List dh):Prop where
 cap:∀ q∈ops,q.o.ys.length<=q.dc
 ref:∀ q∈ops,-9223372036854775808<=q.o.ref
 byt:∀ q∈ops,okB q.o.ys
structure Rst (B:Nat) (y:Ly) (cf:Cf) (w:World) (ops:List dh) (k:Nat) (l:List Aw) (v:Value) (W:World):Prop where
 hg:∃ d,Hp B y d cf (bh cf ((ops.take k).map dh.o) (aS cf) []).1 W/\Gd d (bh cf ((ops.take k).map dh.o) (aS cf) []).1 v
 ok:vF cf (bh cf ((ops.take k).map dh.o) (aS cf) []).1 k
 ls:l.map (·.1)=(bh cf ((ops.take k).map dh.o) (aS cf) []).2
 ra:Ra9 B W l v
 bel:D w W
theorem Rst.len {y} (r:Rst B y cf w ops k l v W) (a:k<=ops.length):l.length=k:=by
 have:=congrArg List.length r.ls;rw [Gf,fL] at this;simpa [Hh a] using this
theorem Rst.first {y} (ops) (a:Hp B y BE cf (aS cf) W) (c:Gd BE (aS cf) (C)) (d:kZ cf) (f:1<=cf.large) (b:D w W):Rst B y cf w ops 0 [] (C) W:=by
 have e:bh cf ((ops.take 0).map dh.o) (aS cf) []=(aS cf,[]):=rfl;refine⟨⟨BE,?_,?_⟩,?_,?_,Ra9.nil _ _,b⟩;·rw [e];exact a
 ·rw [e];exact c
 ·rw [e];exact⟨Inv.new cf,Byt.new cf,Few.new cf,Z,d,f⟩
 rw [e];rfl
theorem eC (a:ops[k]?=some q) (cf):bh cf ((ops.take (k+1)).map dh.o) (aS cf) []=((ce cf (bh cf ((ops.take k).map dh.o) (aS cf) []).1 (bh cf ((ops.take k).map dh.o) (aS cf) []).2 q.o).2,(bh cf ((ops.take k).map dh.o) (aS cf) []).2++[(ce cf (bh cf ((ops.take k).map dh.o) (aS cf) []).1 (bh cf ((ops.take k).map dh.o) (aS cf) []).2 q.o).1]):=by
 rw [FN,a];simp only [Iy,Ha,Ia,List.map_nil];exact gF cf q.o _ _ _
theorem Rst.call {y} (r:Rst B y cf w ops k l v W) (b:D W V) (O:Ois w A ops) (F:Er ops) (G:w.heap.size<=B) (hN:ops.length<=300) (o:ops[k]?=some q) :
  Calls prog 32 #[J y.P 0,fB q.o q.d q.dc] V λe s=>∃ p,e=.returned (jL (ce cf (bh cf ((ops.take k).map dh.o) (aS cf) []).1 (bh cf ((ops.take k).map dh.o) (aS cf) []).2 q.o).1 p)/\s.cell? ⟨y.P,119,none⟩=some v /\
   ∃ t a,(Builtin.append_ #[30,30] 30 #[v,Vl s.heap.size 1 1]).run prog (s.alloc (.cells (aC ((ce cf (bh cf ((ops.take k).map dh.o) (aS cf) []).1 (bh cf ((ops.take k).map dh.o) (aS cf) []).2 q.o).1,p)).toArray 44))=.ok t a/\a.cell? ⟨y.P,119,none⟩=some v/\a.frozen? ⟨y.P,119,none⟩=false/\Rst B y cf w ops (k+1) (l++[((ce cf (bh cf ((ops.take k).map dh.o) (aS cf) []).1 (bh cf ((ops.take k).map dh.o) (aS cf) []).2 q.o).1,p)]) t (a.setCell ⟨y.P,119,none⟩ t):=by
 have Y:=(Fl.1 o).1;have f:=Fz o;obtain⟨d,hp,P⟩:=r.hg;have Q:=r.len Z;have z:=O.wf q f;obtain⟨va,R,S,x⟩:=aD r.ra.row;have j:=hp.below b;have m:=r.ra.below b;have i:D w V:=r.bel.trans (b.mono r.bel.size);rw [x] at P;have hA:wJ B V l (.slice va R S):=by rw [<-x];exact m.ans Z
 have c:=yu B B y d cf _ k l va R S q.o q.d q.dc V j P r.ok Z hA z.1 z.2.1 z.2.2 (F.ref q f) (F.cap q f) (O.da j i G f);refine c.mono ?_;rintro e s ⟨p,rfl,T,⟨d2,n,g⟩,X⟩;rw [r.ls] at T n g ⊢;refine⟨p,rfl,?_,?_⟩;·rw [x];exact n.cell 119 Z _ g.an
 rw [<-x] at g;have u:Ra9 B s l v:=m.ky X.ky (by unfold hI;decide) (by unfold hI;decide);obtain⟨t,a,e1,e2,e3,⟨d9,K,L⟩,M,b9⟩:=wy n g u _ p V.heap.size (λz b g c=>by
  obtain⟨_,c9,N⟩:=aH (m.dat z b) c;exact ai N) j.bW T Z
 refine⟨t,a,e1,e2,e3,⟨d9,?_,?_⟩,?_,?_,M,i.trans ((X.bel.mono G).trans (b9.mono G))⟩;·rw [eC o];exact K
 ·rw [eC o];exact L
 ·rw [eC o];obtain⟨N,f1⟩:=r.ok.inv.step r.ok.dok.fifo1 r.ok.few (bh cf ((ops.take k).map dh.o) (aS cf) []).2 q.o;exact⟨N,r.ok.byt.step _ q.o (F.byt q f),f1,Z,r.ok.dok,r.ok.l1⟩
 rw [eC o,Ha,r.ls];rfl
def Fb (B:Nat) (y:Ly) (cf:Cf) (w:World) (ops:List dh) (k:Nat) (l:List Aw) (v:Value) (d:An4) (V:World) (e:Ending) (g:World):Prop:=∃ (a:Option Addr) (n c:Nat),e=.returned (.agg #[I d.code,U d.addr,I d.size,.slice a n c])/\g.cell? ⟨y.P,119,none⟩=some v/\(∀ (X:Nat) e t f,t=42\/t=38->V.heap[X]?=some (.cells e t f)->g.heap[X]?=some (.cells e t f)) /\
 ∃ (i:Option Addr) (j m:Nat) (b:World),(Builtin.append_ #[30,30] 30 #[v,Vl g.heap.size 1 1]).run prog (g.alloc (.cells #[I d.code,U d.addr,I d.size,.slice a n c] 44))=.ok (.slice i j m) b/\(g.alloc (.cells #[I d.code,U d.addr,I d.size,.slice a n c] 44)).cell? ⟨y.P,119,none⟩=some v/\b.cell? ⟨y.P,119,none⟩=some v/\b.frozen? ⟨y.P,119,none⟩=false/\(∀ (X:Nat) e t f,t=42\/t=38->g.heap[X]?=some (.cells e t f)->(g.alloc (.cells #[I d.code,U d.addr,I d.size,.slice a n c] 44)).heap[X]?=some (.cells e t f)/\b.heap[X]?=some (.cells e t f)/\(b.setCell ⟨y.P,119,none⟩ (.slice i j m)).heap[X]?=some (.cells e t f))/\∃ c,Rst B y cf w ops (k+1) c (.slice i j m) (b.setCell ⟨y.P,119,none⟩ (.slice i j m))
theorem Rst.call9 {y} (r:Rst B y cf w ops k l v W) (ho:Ois w A ops) (Q:Er ops) (R:w.heap.size<=B) (hN:ops.length<=300) (u:ops[k]?=some q) :
  ∃ a,∀ V,D W V->Calls prog 32 #[J y.P 0,.agg #[I q.o.kd,I q.o.ref,U q.o.p,U q.o.a,U q.o.b,.slice q.d q.o.ys.length q.dc]] V (Fb B y cf w ops k l v a V):=by
 have a4:=(Fl.1 u).1;have i:=Fz u;obtain⟨d,hp,gd⟩:=r.hg;have a3:=r.len Z;have P:=ho.wf q i;obtain⟨va,vn,vc,L⟩:=aD r.ra.row;refine⟨(ce cf (bh cf ((ops.take k).map dh.o) (aS cf) []).1 (bh cf ((ops.take k).map dh.o) (aS cf) []).2 q.o).1,λV b=>?_⟩;have p:=hp.below b;have s:=r.ra.below b;have m:D w V:=r.bel.trans (b.mono r.bel.size);rw [L] at gd;have hA:wJ B V l (.slice va vn vc):=by rw [<-L];exact s.ans Z
 refine (yu B B y d cf _ k l va vn vc q.o q.d q.dc V p gd r.ok Z hA P.1 P.2.1 P.2.2 (Q.ref q i) (Q.cap q i) (ho.da p m R i)).mono ?_;rintro e x ⟨vd,rfl,S,⟨d2,j,g⟩,T⟩;obtain⟨M,N,F,rfl⟩:=aD S;rw [r.ls] at S j g ⊢;have n:x.cell? ⟨y.P,119,none⟩=some v:=by rw [L];exact j.cell 119 Z _ g.an
 refine⟨M,N,F,rfl,n,λX cc t f O Y=>T.ky.cells _ _ _ _ Y (by rcases O with rfl|rfl <;> (unfold hI;decide)),?_⟩;rw [<-L] at g;have o:Ra9 B x l v:=s.ky T.ky (by unfold hI;decide) (by unfold hI;decide);obtain⟨v',a,e1,e2,e3,⟨d9,a0,a1⟩,G,b9⟩:=wy j g o _ (.slice M N F) V.heap.size (λz b g g=>by
  obtain⟨_,F,c⟩:=aH (s.dat z b) g;exact ai c) p.bW S Z
 obtain⟨a8,n8,c8,rfl⟩:=aD G.row;have z:D x (x.alloc (.cells (aC ((ce cf (bh cf ((ops.take k).map dh.o) (aS cf) []).1 (bh cf ((ops.take k).map dh.o) (aS cf) []).2 q.o).1,.slice M N F)).toArray 44)):=(Fc _ _).alloc (Fe _) _;have K:=o.below z;obtain⟨v7,U7,f1,f2,f3⟩:=pA _ B v l ((ce cf (bh cf ((ops.take k).map dh.o) (aS cf) []).1 (bh cf ((ops.take k).map dh.o) (aS cf) []).2 q.o).1,.slice M N F) x.heap.size 1 K.row (ao x _) rfl Z (Fg j.bW z.size);have eU:U7=a:=by rw [e1] at f1;cases f1;rfl
 subst eU;have kU:Ky (· = 44) _ U7:=Ky.grownO (λP a=>by obtain ⟨_,c,hc⟩:=aH K.row a;exact⟨c,44,_,hc,rfl⟩) f3;refine⟨a8,n8,c8,U7,e1,ad z n,e2,e3,λX cc t f O Y=>?_,_,⟨d9,?_,?_⟩,?_,?_,G,m.trans ((T.bel.mono R).trans (b9.mono R))⟩
 ·have h1:=ae Y z;have c:=kU.cells _ _ _ _ h1 (by rcases O with rfl|rfl <;> decide);refine⟨h1,c,?_⟩;rw [Gx _ _ _ _ (λe=>?_)];·exact c
  have a2:=(j.below z).box.ky kU av;obtain⟨c7,g1,_⟩:=a2;rw [e] at c;rw [g1] at c;cases c;rcases O with e9|e9 <;> cases e9
 ·rw [eC u];exact a0
 ·rw [eC u];exact a1
 ·rw [eC u];obtain⟨c,f1⟩:=r.ok.inv.step r.ok.dok.fifo1 r.ok.few (bh cf ((ops.take k).map dh.o) (aS cf) []).2 q.o;exact⟨c,r.ok.byt.step _ q.o (Q.byt q i),f1,Z,r.ok.dok,r.ok.l1⟩
 rw [eC u,Ha,r.ls];rfl
structure Cq (X:Nat) (q:dh) (V:World):Prop where
 c0:V.cell? ⟨X,0,none⟩=some (I q.o.kd)
 c1:V.cell? ⟨X,1,none⟩=some (I q.o.ref)
 c2:V.cell? ⟨X,2,none⟩=some (U q.o.p)
 c3:V.cell? ⟨X,3,none⟩=some (U q.o.a)
 c4:V.cell? ⟨X,4,none⟩=some (U q.o.b)
 c5:V.cell? ⟨X,5,none⟩=some (.slice q.d q.o.ys.length q.dc)
theorem Cq.of {X:Nat} (h:V.heap[X]?=some (.cells #[I q.o.kd,I q.o.ref,U q.o.p,U q.o.a,U q.o.b,.slice q.d q.o.ys.length q.dc] 42)):Cq X q V:=by
 refine⟨?_,?_,?_,?_,?_,?_⟩ <;> (rw [Gz _ _ _ _ _ _ h];rfl)
def Ay (j:Nat->Ly->Cf->Hs->World->Array Value->World->Prop):Prop:=∀ (B:Nat) (y:Ly) (d:Dy) (cf:Cf) (h:Hs) (k:Nat) (v:Value) (V:World),Hp B y d cf h V->Gd d h v->vF cf h k ->
 Calls prog 33 #[J y.P 0] V λe i=>∃ m0 m1 m2 m3 m4 m5 m6 m7:Value,e=.returned (.agg #[m0,m1,m2,m3,m4,m5,m6,m7])/\(∀ v∈[m0,m1,m2,m3,m4,m5,m6,m7],v.oneCell'=true)/\j B y cf h V #[m0,m1,m2,m3,m4,m5,m6,m7] i/\D V i
theorem nv (mi fi la bu ky) (b:Option Addr) (dn) (c:Nat) (A:Option Addr) (n i:Nat) (W) (l:Tb W) (d:¬(jc mi fi la bu dn/\n<=300)) :
  Calls prog 11 #[.agg #[I mi,I fi,I la,I bu,U ky,.slice b dn c],.slice A n i] W λe q=>e=.returned (.agg #[.bool false,C,I 0,C,C,C,C,C,C,I 0])/\D W q:=by
 have f:D W (W.alloc (.cells #[I mi,I fi,I la,I bu,U ky,.slice b dn c] 26)):=(Fc _ _).alloc (Fe _) _;have g:D W ((W.alloc (.cells #[I mi,I fi,I la,I bu,U ky,.slice b dn c] 26)).alloc (.cells #[.bool false,C,I 0,C,C,C,C,C,C,I 0] 38)):=f.alloc f.size _;have m:=H (show ((W.alloc (.cells #[I mi,I fi,I la,I bu,U ky,.slice b dn c] 26)).alloc (.cells #[.bool false,C,I 0,C,C,C,C,C,C,I 0] 38)).heap[W.heap.size+1]?=some (.cells #[.bool false,C,I 0,C,C,C,C,C,C,I 0] 38) by rw [<-aF W (.cells #[I mi,I fi,I la,I bu,U ky,.slice b dn c] 26)];exact ao _ _);have o:=ae (ao W (.cells #[I mi,I fi,I la,I bu,U ky,.slice b dn c] 26)) ((Fc _ _).alloc (Fe _) (.cells #[.bool false,C,I 0,C,C,C,C,C,C,I 0] 38));have p:=H (tZ mi fi la bu ky b dn c _ (l.ofBelow g));have k:=H g;have a:=H (show ∀ j u,#[Value.int .i64 mi,I fi,I la,I bu,U ky,.slice b dn c][j]?=some u->((W.alloc (.cells #[I mi,I fi,I la,I bu,U ky,.slice b dn c] 26)).alloc (.cells #[.bool false,C,I 0,C,C,C,C,C,C,I 0] 38)).cell? ⟨W.heap.size,j,none⟩=some u from λj u b=>by rw [Gz _ _ _ _ _ _ o];exact b);have u0:=a.out 0 _ rfl;have u1:=a.out 1 _ rfl;have u2:=a.out 2 _ rfl;have u3:=a.out 3 _ rfl;have u4:=a.out 4 _ rfl;have u5:=a.out 5 _ rfl;clear a o f g l;go_enter func11,ntmps11;go_wp2_with fail;generalize (W.alloc _).alloc _=l at *;generalize o:W.heap.size+1=X at *;refine (p).mono ?_;rintro e V ⟨rfl,a⟩;have f:=H (ae m a);have g:=H (k.trans (a.mono k.size));clear m k p a u0 u1 u2 u3 u4 u5;by_cases a:jc mi fi la bu dn
 ·have j:decide (jc mi fi la bu dn)=true:=GJ a;have m:(300:Int)<(n:Int):=by
   have:¬n<=300:=λe=>d ⟨a,e⟩
   omega
  clear d a;rw [j];go_wp2_with (refine eF f ?_);refine fp (aw f _) underlying38 ?_;exact⟨rfl,g.grown (al _ _ _) g.size (λr k=>by simp at k;omega)⟩
 have j:decide (jc mi fi la bu dn)=false:=Gy a;clear d a;rw [j];go_wp2_with (refine eF f ?_);refine fp (aw f _) underlying38 ?_;exact⟨rfl,g.grown (al _ _ _) g.size (λr k=>by simp at k;omega)⟩
def Fa (j:Nat->Ly->Cf->Hs->World->Array Value->World->Prop) (cf:Cf) (ops:List dh) (w:World) (e:Ending) (W':World):Prop:=∃ (B:Nat) (y:Ly) (l:List Aw) (va:Value) (m0 m1 m2 m3 m4 m5 m6 m7:Value) (V i:World) (X:Nat),e=.returned (.agg #[.bool true,va,m0,m1,m2,m3,m4,m5,m6,m7])/\w.heap.size<=B/\Rst B y cf w ops ops.length l va V/\j B y cf (bh cf (ops.map dh.o) (aS cf) []).1 V #[m0,m1,m2,m3,m4,m5,m6,m7] i/\D V i/\i.heap[X]?=some (.cells #[.bool false,C,I 0,C,C,C,C,C,C,I 0] 38)/\W'=i.setRow X #[.bool true,va,m0,m1,m2,m3,m4,m5,m6,m7]/\w.heap.size<=X/\X<B
theorem sU (T9) (t:Ay T9) (cf da dc A) (a6:Nat) (ops w) (c:kZ cf) (x:1<=cf.large) (m:Tb w) (z:Sl w da cf.ds) (g:∀ a,da=some a->a.block<w.heap.size) (h0:0<w.heap.size) (F:Ois w A ops) (G:Er ops) (hN:ops.length<=300) :
  Calls prog 11 #[gV cf da dc,.slice A ops.length a6] w (Fa T9 cf ops w):=by
 unfold gV;have i:jc (cf.mix:Nat) (cf.fifo:Nat) (cf.large:Nat) (cf.bud:Nat) cf.ds.length:=by
  have h1:=c.mix;have h2:=c.fifo1;have b:=c.fifo;have e:=c.large;have f:=c.bud;have j:=c.len;unfold jc;omega
 have T:Below w.heap.size w (w.alloc (.cells #[I cf.mix,I cf.fifo,I cf.large,I cf.bud,U cf.key,.slice da cf.ds.length dc] 26)):=(Fc _ _).alloc (Fe _) _;have n:Below w.heap.size w ((w.alloc (.cells #[I cf.mix,I cf.fifo,I cf.large,I cf.bud,U cf.key,.slice da cf.ds.length dc] 26)).alloc (.cells #[.bool false,C,I 0,C,C,C,C,C,C,I 0] 38)):=T.alloc T.size _;have o:=H (show ((w.alloc (.cells #[I cf.mix,I cf.fifo,I cf.large,I cf.bud,U cf.key,.slice da cf.ds.length dc] 26)).alloc (.cells #[.bool false,C,I 0,C,C,C,C,C,C,I 0] 38)).heap[w.heap.size+1]?=some (.cells #[.bool false,C,I 0,C,C,C,C,C,C,I 0] 38) by rw [<-aF w (.cells #[I cf.mix,I cf.fifo,I cf.large,I cf.bud,U cf.key,.slice da cf.ds.length dc] 26)];exact ao _ _);have f:=H (ae (ao w (.cells #[I cf.mix,I cf.fifo,I cf.large,I cf.bud,U cf.key,.slice da cf.ds.length dc] 26)) ((Fc _ _).alloc (Fe _) (.cells #[.bool false,C,I 0,C,C,C,C,C,C,I 0] 38)));have p:=H (tZ (cf.mix:Nat) (cf.fifo:Nat) (cf.large:Nat) (cf.bud:Nat) cf.key da cf.ds.length dc _ (m.ofBelow n));rw [GJ i] at p;have r:=H n;have s:=H (λV (hV:Below w.heap.size w V)=>rR cf da dc V c (m.ofBelow hV) (z.below hV) (λa ha=>Fq (g a ha) hV.size) (Fq h0 hV.size));unfold gV at s;have b:=H (show ∀ V:World,V.heap[w.heap.size]?=some (.cells #[I cf.mix,I cf.fifo,I cf.large,I cf.bud,U cf.key,.slice da cf.ds.length dc] 26)->∀ j u,(#[I cf.mix,I cf.fifo,I cf.large,I cf.bud,U cf.key,.slice da cf.ds.length dc]:Array Value)[j]?=some u->V.cell? ⟨w.heap.size,j,none⟩=some u from λV hV j u e=>by rw [Gz _ _ _ _ _ _ hV];exact e);have u0:=b.out _ f 0 _ rfl;have u1:=b.out _ f 1 _ rfl;have u2:=b.out _ f 2 _ rfl;have u3:=b.out _ f 3 _ rfl;have u4:=b.out _ f 4 _ rfl;have u5:=b.out _ f 5 _ rfl;have HO:=H F;have HI:=H G;have HT:=H t;have a4:=H (IB c x);obtain⟨N,e⟩:∃ N,ops.length=N:=⟨_,rfl⟩;rw [e];rw [e] at hN;have HN:=H e;clear T n m i z g F G t c x e;go_enter func11,ntmps11;go_wp2_with fail;generalize (w.alloc _).alloc _=z at *;obtain⟨X,x⟩:∃ X,w.heap.size+1=X:=⟨_,rfl⟩;rw [x] at o ⊢;refine (p).mono ?_;rintro e V ⟨rfl,c⟩;have m:=H (ae o c);have g:=H (ae f c);have j:=H (r.trans (c.mono r.size));have a8:¬((300:Int)<(N:Int)):=Z;clear o f r p c u0 u1 u2 u3 u4 u5;have u0:=b.out _ g 0 _ rfl;have u1:=b.out _ g 1 _ rfl;have u2:=b.out _ g 2 _ rfl;have u3:=b.out _ g 3 _ rfl;have u4:=b.out _ g 4 _ rfl;have u5:=b.out _ g 5 _ rfl;go_wp2_with fail;refine (s _ j).mono ?_;rintro e V2 ⟨y,rfl,n,t,L,c⟩;have f:=ai m.out;have X7:=H (ae m c);obtain⟨B,i⟩:∃ B,V.heap.size=B:=⟨_,rfl⟩;rw [i] at t c f;have HB:=H (show w.heap.size<=B by rw [<-i];exact j.size);have R0:=H (Rst.first ops t L a4.1 a4.2 (j.trans (c.mono HB)));have a5:=H (show w.heap.size<=X/\X<B from ⟨Z,f⟩);obtain⟨P,o⟩:∃ P,y.P=P:=⟨_,rfl⟩;rw [o];have HP:=H o;clear t L c i f x o m g j s u0 u1 u2 u3 u4 u5 b z n;go_wp2;go_loopw [21] (λi wr=>∃ (k:Nat) (l:List Aw) (v:Value),k<=N/\i=I k/\Hid (Rst B y cf w ops k l v wr)/\Hid (wr.heap[X]?=some (.cells #[.bool false,C,I 0,C,C,C,C,C,C,I 0] 38))) (λi _=>N-(intOf i).toNat);case atStart=>exact ⟨0,[],_,Z,rfl,R0,X7⟩
 case round =>
  clear R0 X7;obtain⟨k,l,v,hk,rfl,x,HX⟩:=hrel;by_cases a7:k<N
  ·obtain⟨q,n⟩:∃ q,ops[k]?=some q:=⟨_,Fj (by rw [HN.out];exact a7)⟩;obtain⟨G,rfl,o,b⟩:=HO.at_ k q n;have c:=x.bel;have u0:wr.cell? ⟨G,k*6,none⟩=some (I q.o.kd):=c_ c (b 0 _ rfl);have u1:=c_ c (b 1 _ rfl);have u2:=c_ c (b 2 _ rfl);have u3:=c_ c (b 3 _ rfl);have u4:=c_ c (b 4 _ rfl);have u5:=c_ c (b 5 _ rfl);obtain⟨r9,g⟩:=x.call9 HO HI HB (by rw [HN.out];exact hN) n;have g:=H g;obtain⟨va,z,F,rfl⟩:=aD x.ra.row;have T:Below wr.heap.size wr (wr.alloc (.cells #[I q.o.kd,I q.o.ref,U q.o.p,U q.o.a,U q.o.b,.slice q.d q.o.ys.length q.dc] 42)):=(Fc _ _).alloc (Fe _) _;have j:=H (ao wr (.cells #[I q.o.kd,I q.o.ref,U q.o.p,U q.o.a,U q.o.b,.slice q.d q.o.ys.length q.dc] 42));have f:=H (show Below wr.heap.size wr ((wr.alloc (.cells #[I q.o.kd,I q.o.ref,U q.o.p,U q.o.a,U q.o.b,.slice q.d q.o.ys.length q.dc] 42)).drew) from T.trans ((Fc _ _).drew.mono T.size));have m:((wr.alloc (.cells #[I q.o.kd,I q.o.ref,U q.o.p,U q.o.a,U q.o.b,.slice q.d q.o.ys.length q.dc] 42)).drew).cell? ⟨P,119,none⟩=some (.slice va z F):=by
    obtain⟨d,t,L⟩:=x.hg;rw [<-HP.out];exact (t.below f).cell 119 Z _ L.an
   have M:=H (ae HX f);clear b c n o;(go_upto_region 7 with fail);generalize wr.alloc _=V at j f m M ⊢;obtain⟨Y,b⟩:∃ Y,wr.heap.size=Y:=⟨_,rfl⟩;rw [b] at j ⊢;clear u0 u1 u2 u3 u4 u5 HX;have W:=H (g _ f);clear b g x T f;refine rh (S:=Cq Y q) ?_;have HY:=H (show V.drew.heap[Y]?=some (.cells #[I q.o.kd,I q.o.ref,U q.o.p,U q.o.a,U q.o.b,.slice q.d q.o.ys.length q.dc] 42) from j);generalize K:V.drew=V1 at W HY m M;have n:({ heap:=V.heap,tape:=V.tape,drawn:=V.drawn+1,os:=V.os,output:=V.output } : World)=V1:=K;rw [n];clear K n j;have s:=HP.out;have f:=Cq.of HY.out;(iterate 4 (refine py f ?_;simp only [f0,f1,Nat.reduceAdd,lz,l0,ls]));refine pk 5 (J P 0) f ?_;refine pz 6 (.agg #[I q.o.kd,I q.o.ref,U q.o.p,U q.o.a,U q.o.b,.slice q.d q.o.ys.length q.dc]) f ?_;refine lW [4,7] λi9 c=>?_;rcases (by simpa using c:i9=4\/i9=7) with c|c
   ·subst c;refine cv λK' b=>?_;go_simp;refine b _ _ ⟨f,?_⟩;clear b K';refine po 7 λK' b=>?_
    go_simp;rw [<-s];refine (W).mono ?_;rintro e R ⟨a1,n1,c1,rfl,cU,O,a2,n2,c2,U2,r,cA,a0,a3,j,l2,hR⟩;rw [s] at cU cA a0 a3 hR j;have g:=Cq.of (O _ _ _ _ (.inl rfl) HY);have p:=H (j _ _ _ _ (.inl rfl) (O _ _ _ _ (.inl rfl) HY));have o:=H ((j _ _ _ _ (.inr rfl) (O _ _ _ _ (.inr rfl) M)).2.2);have Q:=H hR;refine b _ _ ⟨g,?_⟩;clear f O j hR;have f:=g;clear g;clear b K';refine po 8 λK' b=>?_;go_simp;refine b _ _ ⟨Cq.of p.1,?_⟩;clear f;have f:=Cq.of p.1;clear b K';refine po 9 λK' b=>?_
    refine aT 30 (.tmp 29) (.tmp 33) (v:=.slice va z F) (v2:=Vl R.heap.size 1 1) E E E E r ?_;refine b _ _ ⟨Cq.of p.2.1,?_⟩;clear f;have f:=Cq.of p.2.1;clear b K';refine pk 10 (J P 0) f ?_;refine pk 11 (J P 119) f ?_;refine po 12 λK' b=>?_;go_simp;refine b _ _ ⟨Cq.of p.2.2,?_⟩;clear f;clear b K';refine bN ?_;go_wp2;go_roundw
    (case rel=>exact ⟨k+1,l2,_,Z,aY,Q,o⟩);case measure=>simp [intOf];omega
   subst c;refine cv λK' b=>?_;go_simp;rw [<-s];refine (W).mono ?_;rintro e R ⟨a1,n1,c1,rfl,cU,O,a2,n2,c2,U2,r,cA,a0,a3,j,l2,hR⟩;rw [s] at cU cA a0 a3 hR j;have g:=Cq.of (O _ _ _ _ (.inl rfl) HY);have p:=H (j _ _ _ _ (.inl rfl) (O _ _ _ _ (.inl rfl) HY));have o:=H ((j _ _ _ _ (.inr rfl) (O _ _ _ _ (.inr rfl) M)).2.2);have Q:=H hR;refine b _ _ ⟨g,?_⟩;clear f O j hR;have f:=g;clear g;clear b K';refine lW [4,8] λi9 c=>?_
   rcases (by simpa using c:i9=4\/i9=8) with c|c
   ·subst c;refine cv λK' b=>?_;go_simp;refine b _ _ ⟨f,?_⟩;clear b K';refine po 8 λK' b=>?_
    go_simp;refine b _ _ ⟨Cq.of p.1,?_⟩;clear f;have f:=Cq.of p.1;clear b K';refine po 9 λK' b=>?_;refine aT 30 (.tmp 29) (.tmp 33) (v:=.slice va z F) (v2:=Vl R.heap.size 1 1) E E E E r ?_;refine b _ _ ⟨Cq.of p.2.1,?_⟩;clear f;have f:=Cq.of p.2.1;clear b K';refine pk 10 (J P 0) f ?_;refine pk 11 (J P 119) f ?_;refine po 12 λK' b=>?_
    go_simp;refine b _ _ ⟨Cq.of p.2.2,?_⟩;clear f;clear b K';refine bN ?_;go_wp2;go_roundw;(case rel=>exact ⟨k+1,l2,_,Z,aY,Q,o⟩);case measure=>simp [intOf];omega
   subst c;refine cv λK' b=>?_;go_simp;refine b _ _ ⟨Cq.of p.1,?_⟩;clear f;have f:=Cq.of p.1;clear b K';refine po 4 λK' b=>?_
   go_simp;refine b _ _ ⟨f,?_⟩;clear b K';refine po 9 λK' b=>?_;refine aT 30 (.tmp 29) (.tmp 33) (v:=.slice va z F) (v2:=Vl R.heap.size 1 1) E E E E r ?_;refine b _ _ ⟨Cq.of p.2.1,?_⟩;clear f;have f:=Cq.of p.2.1;clear b K';refine pk 10 (J P 0) f ?_;refine pk 11 (J P 119) f ?_;refine po 12 λK' b=>?_
   go_simp;refine b _ _ ⟨Cq.of p.2.2,?_⟩;clear f;clear b K';refine bN ?_;go_wp2;go_roundw;(case rel=>exact ⟨k+1,l2,_,Z,aY,Q,o⟩);case measure=>simp [intOf];omega
  obtain rfl:k=N:=Z;obtain⟨va,z,F,rfl⟩:=aD x.ra.row;have p:ops.take k=ops:=FQ (by rw [HN.out];exact Fe _);obtain⟨d,t,L⟩:=x.hg;have M:=x.ok;have j:Below wr.heap.size wr wr.drew:=(Fc _ _).drew;have O:=H (HT B y d cf _ k _ _ (t.below j) L M);rw [p] at O;have m:wr.drew.cell? ⟨P,119,none⟩=some (.slice va z F):=by
   rw [<-HP.out];exact (t.below j).cell 119 Z _ L.an
  have r:=H (ae HX j);have G:=H (show P<wr.drew.heap.size by rw [<-HP.out];exact (t.below j).box.lt);have Q:P≠X:=λe=>by
   obtain⟨c,h1,_⟩:=t.box;have h2:=HX.out;rw [<-e,<-HP.out,h1] at h2;cases h2
  have W:=H (show Rst B y cf w ops k l (.slice va z F) wr.drew from ⟨⟨d,t.below j,L⟩,M,x.ls,x.ra.below j,x.bel.drew⟩);clear t L M j HX x p;go_upto_region 9 with fail
  refine rh (S:=λc=>c.cell? ⟨P,119,none⟩=some (.slice va z F)) ?_;generalize K:wr.drew=V1 at O m r W G;have n:({ heap:=wr.heap,tape:=wr.tape,drawn:=wr.drawn+1,os:=wr.os,output:=wr.output } : World)=V1:=K;rw [n];clear K n;have s:=HP.out;have f:=m;iterate 5 (refine py f ?_;simp only [f0,f1,Nat.reduceAdd,lz,l0,ls])
  refine po 5 λK' b=>?_;go_simp;rw [<-s];refine (O).mono ?_;rintro e R ⟨m0,m1,m2,m3,m4,m5,m6,m7,rfl,c,M,j⟩;have g:=ad j f;refine b _ _ ⟨g,?_⟩;clear f;have f:=g;have p:=H c;have Y:=H (IB M j);have o:=H (ae r j);have x:=H (Fq G j.size);clear g c M j;clear b K';refine py f ?_;simp only [f0,f1,Nat.reduceAdd,lz,l0,ls];refine po 7 λK' b=>?_
  refine Hr 38 (.tmp 4) (.tmp 44) E X #[.bool true,.slice va z F,m0,m1,m2,m3,m4,m5,m6,m7] E E 38 _ o E rfl ?hone9 ?_;case hone9=>exact all_oneCell_toArray (λv c=>by rcases FG.1 c with rfl|c;rfl;rcases FG.1 c with rfl|c;rfl;exact p v c)
  have c:(R.setRow X #[.bool true,.slice va z F,m0,m1,m2,m3,m4,m5,m6,m7]).cell? ⟨P,119,none⟩=some (.slice va z F):=by unfold World.cell? at f ⊢;rw [(al R X #[.bool true,.slice va z F,m0,m1,m2,m3,m4,m5,m6,m7]).block P x.out (by simpa using Q)];exact f
  refine b _ _ ⟨c,?_⟩;clear f c b K';refine bN ?_;go_wp2_with fail;refine fp (aw o _) underlying38 ?_;exact⟨B,y,l,_,m0,m1,m2,m3,m4,m5,m6,m7,V1,R,X,rfl,HB,by rw [HN.out];exact W,Y.1,Y.2,o,rfl,a5.1,a5.2⟩
end
section
open Go.RowKit Go.Shelf Go.Maps
def AU : Prop := ∀ (cf : Cf) (da : Option Addr) (dc : Nat) (A : Option Addr) (cap : Nat) (ops : List dh) (w : World), kZ cf->1<=cf.large->Tb w->Sl w da cf.ds->(∀ a, da=some a->a.block<w.heap.size)->0<w.heap.size->Ois w A ops->(∀ q ∈ ops, q.o.ys.length<=q.dc /\ -9223372036854775808<=q.o.ref/\∀ y ∈ q.o.ys, 0<=y/\y<=255)->ops.length<=300 ->
 Calls prog 11 #[gV cf da dc, .slice A ops.length cap] w λe W' => ∃ (l : List Aw) (va m0 m1 m2 m3 m4 m5 m6 m7 : Value), e=.returned (.agg #[.bool true, va, m0, m1, m2, m3, m4, m5, m6, m7])/\(∀ v ∈ [va, m0, m1, m2, m3, m4, m5, m6, m7], v.oneCell'=true)/\l.map (·.1)=(bh cf (ops.map dh.o) (aS cf) []).2/\W'.ownsRow w.heap.size 44 4 va l.length (fw l)/\(∀ z ∈ l, W'.ownsRow w.heap.size 5 1 z.2 z.1.data.length (Ns .u8 z.1.data))/\D w W'
theorem Ok4.sl {c} (f:Ok4 B c W):Sl W c.da c.ds/\∀ a,c.da=some a->a.block<W.heap.size:=by
 rcases f.d.2 with ⟨d,k⟩|⟨g,l,e,d,k,j,m⟩
 ·injection d with b n o;refine⟨.inl ⟨b,List.length_eq_zero_iff.1 Z⟩,λa ha=>by rw [b] at ha;cases ha⟩
 ·injection d with b n o;obtain⟨q,r,s,p⟩:=m;have t:=f.d.1;refine⟨.inr ⟨g,b,e,j,Z,λi u=>?_⟩,λa ha=>by rw [b] at ha;cases ha;exact ai j⟩;rw [<-p,Ge,Gv Z,FY]
theorem tI {C} (r:W.ownsRow B 42 6 (.slice A ops.length n) ops.length (cR ops)) (c:∀ q∈ops,Od6 C q W) :
  Ois W A ops/\∀ q∈ops,q.o.ys.length<=q.dc /\ -9223372036854775808<=q.o.ref/\∀ y∈q.o.ys,0<=y/\y<=255:=by
 refine⟨⟨λk q a=>?_,λq a=>⟨(c q a).p,(c q a).a,(c q a).b⟩,λq a i s=>?_⟩,λq a=>⟨?_,(c q a).r,(c q a).y⟩⟩
 ·have G:=(Fl.1 a).1;rcases r.2 with ⟨_,l⟩|⟨g,t,m,d,l,f,v,w,x,p⟩;·omega
  ·injection d with e b o;refine⟨g,e,ai f,λj u z=>?_⟩;have F:j<6:=by
    have:=(Fl.1 z).1;simpa [ee] using this
   rw [Gz _ _ _ _ _ _ f];have e:=flat_get ee 6 (λ_=>rfl) ops k j q a F;have b:(cR ops)[k*6+j]?=some u:=(by rw [<-z];exact e);rw [<-p,Ge,Gv Z,FY] at b;exact b
 ·rcases (c q a).d.2 with ⟨_,l⟩|⟨g,t,m,d,l,f,v,w,x,p⟩;·omega
  ·injection d with e b o;have j:(⟨g,0,none⟩:Addr).add i=⟨g,i,none⟩:=(by cases i <;> simp [Addr.add]);refine⟨⟨g,0,none⟩,e,?_,by rw [j];exact ai f⟩;have b:(Ns .u8 q.o.ys)[i]?=some (.int .u8 (q.o.ys[i]?.getD 0)):=by
    rw [Fj s];simp [Ns,s]
   rw [<-p,Ge,Gv Z,FY] at b;have o:W.cell? ⟨g,i,none⟩=some (.int .u8 (q.o.ys[i]?.getD 0)):=(by rw [Gz _ _ _ _ _ _ f];exact b);rw [j];exact o
 ·rcases (c q a).d.2 with ⟨d,l⟩|⟨g,t,m,d,l,f,v,w,x,p⟩;·injection d with e b o;omega
  ·injection d with e b o;omega
theorem Bd {c} (a:Ok4 B c W) (h:jc c.mi c.fi c.la c.bu c.ds.length) :
  ∃ cf:Cf,Value.agg (pP c).toArray=gV cf c.da c.dc/\kZ cf/\1<=cf.large/\cf.ds=c.ds:=by
 unfold jc at h;refine⟨⟨c.mi.toNat,c.fi.toNat,c.la.toNat,c.bu.toNat,c.ky,c.ds⟩,?_,⟨by show c.ds.length<=_;omega,λd b=>?_,a.k0,by have:=a.k1;show c.ky<_;omega,by show c.mi.toNat<=_;omega,by show 1<=c.fi.toNat;omega,by show c.fi.toNat<=_;omega,by show c.la.toNat<=_;omega,by show c.bu.toNat<=_;omega⟩,by show 1<=c.la.toNat;omega,rfl⟩
 ·unfold pP gV;simp only [It h.1,It (show 0<=c.fi by omega),It (show 0<=c.la by omega),It (show 0<=c.bu by omega)]
 ·have:=a.dw d b;have e:IntKind.i64.min = -9223372036854775808:=rfl;have f:IntKind.i64.max=9223372036854775807:=rfl;simp only [Lit.wf,e,f,FV,GX];omega
def C5 : Prop := ∀ (cf : Cf) (da : Option Addr) (dc : Nat) (A : Option Addr) (cap : Nat) (ops : List dh) (w : World), kZ cf->1<=cf.large->Sl w da cf.ds->Ois w A ops->ops.length<=300 ->
 Calls prog 12 #[gV cf da dc, .slice A ops.length cap] w λe W' => ∃ (l : List Aw) (va m0 m1 m2 m3 m4 m5 m6 m7 : Value), e=.returned (.agg #[.bool true, va, m0, m1, m2, m3, m4, m5, m6, m7])/\(∀ v ∈ [va, m0, m1, m2, m3, m4, m5, m6, m7], v.oneCell'=true)/\l.map (·.1)=(bh cf (ops.map dh.o) (aS cf) []).2/\W'.ownsRow w.heap.size 44 4 va l.length (fw l)/\(∀ z ∈ l, W'.ownsRow w.heap.size 5 1 z.2 z.1.data.length (Ns .u8 z.1.data))/\D w W'
theorem eD {w'} (h:D w w') {g:Nat} {o:Obj} (a:w.heap[g]?=some o):w'.heap[g]?=some o:=by rw [h.block g (ai a)];exact a
def CF : Array Value := #[.bool false, .slice none 0 0, .int .i64 0, .slice none 0 0, .slice none 0 0, .slice none 0 0, .slice none 0 0, .slice none 0 0, .slice none 0 0, .int .i64 0]
structure Q7 (U : World) (xs : List dh) (y : dh) (f5 f11 : Option Value) (f10 f13 : Option Nat) (W : World) : Prop where
  bel : D U W
  r5 : ∀ v, f5=some v->W.ownsRow U.heap.size 42 6 v xs.length (cR xs)
  r10 : ∀ g, f10=some g->W.heap[g]? = some (.cells (ee y).toArray 42)/\U.heap.size<=g
  r11 : ∀ v, f11=some v->W.ownsRow U.heap.size 42 6 v (xs++[y]).length (cR (xs++[y]))
  r13 : ∀ g, f13=some g->W.heap[g]? = some (.cells CF 38)/\U.heap.size<=g
theorem Q7.first {U} (xs y) (b:D U W):Q7 U xs y none none none none W :=
 ⟨b,λv e=>(by cases e),λv e=>(by cases e),λv e=>(by cases e),λv e=>(by cases e)⟩
theorem Q7.low {U W'} (q:Q7 U xs y f5 f11 f10 f13 W) (b:D W W'):Q7 U xs y f5 f11 f10 f13 W' :=
 ⟨az q.bel b,λv e=>ay (q.r5 v e) b,λg e=>⟨eD b (q.r10 g e).1,(q.r10 g e).2⟩,λv e=>ay (q.r11 v e) b,λg e=>⟨eD b (q.r13 g e).1,(q.r13 g e).2⟩⟩
theorem Q7.s10 {U} (q:Q7 U xs y f5 f11 none f13 W):Q7 U xs y f5 f11 (some W.heap.size) f13 (W.alloc (.cells (ee y).toArray 42)):=by
 have h:=q.low ((Fc _ _).alloc (Fe _) (.cells (ee y).toArray 42));exact⟨h.bel,h.r5,λg e=>by injection e with e;subst e;exact⟨ao W _,q.bel.size⟩,h.r11,h.r13⟩
theorem Q7.s13 {U} (q:Q7 U xs y f5 f11 f10 none W):Q7 U xs y f5 f11 f10 (some W.heap.size) (W.alloc (.cells CF 38)):=by
 have h:=q.low ((Fc _ _).alloc (Fe _) (.cells CF 38));exact⟨h.bel,h.r5,h.r10,h.r11,λg e=>by injection e with e;subst e;exact⟨ao W _,q.bel.size⟩⟩
theorem Q7.s5 {U} (q:Q7 U xs y none f11 f10 f13 W) (G c:Nat) (d:∀ k q,xs[k]?=some q->∀ j u,(ee q)[j]?=some u->U.cell? ⟨G,k*6+j,none⟩=some u) (l:xs.length<=500) :
  ∃ a b,(Builtin.append_ #[27,27] 27 #[.slice none 0 0,.slice (some ⟨G,0,none⟩) xs.length c]).run prog W=.ok a b/\Q7 U xs y (some a) f11 f10 f13 b:=by
 obtain⟨a,b,f,g,i⟩:=IK (W:=W) (B:=U.heap.size) (v:=.slice none 0 0) (xs:=[]) ⟨rfl,.inl ⟨rfl,rfl⟩⟩ xs G c (λk o c j u e=>ad q.bel (d k o c j u e)) bK q.bel.size;have h:=q.low ((Fc W.heap.size W).grown i (Fe _) (λr e=>by cases e));exact⟨a,b,f,h.bel,λv e=>by injection e with e;subst e;exact g,h.r10,h.r11,h.r13⟩
theorem Q7.s11 {U} {f:Value} {a:Nat} (q:Q7 U xs y (some f) none (some a) f13 W) (j:Nat) (p:xs.length<=500) :
  ∃ c d,(Builtin.append_ #[27,27] 27 #[f,.slice (some ⟨a,0,none⟩) 1 j]).run prog W=.ok c d/\Q7 U xs y none (some c) none f13 d:=by
 have i:=q.r5 f rfl;obtain⟨c,d,m,n,l⟩:=IK i [y] a j (λk o b j u e=>by
  cases k with
  | zero =>
   simp at b;subst b;rw [Gz _ _ _ _ _ _ (q.r10 a rfl).1];simpa using e
  | succ k=>simp at b) bK q.bel.size
 refine⟨c,d,m,q.bel.grown l q.bel.size (λr e=>(aH i e).1),λv e=>(by cases e),λv e=>(by cases e),λv e=>by injection e with e;subst e;exact n,λg e=>?_⟩;have b:=q.r13 g e;exact⟨by rw [l.block g (ai b.1) (λe=>dZ i b.1 av e.symm)];exact b.1,b.2⟩
theorem qI {e:TypeId} {sz:Nat} {xs:List Value} (h:W.ownsRow B e sz v n xs) (d:0<n):∃ g c,v=.slice (some ⟨g,0,none⟩) n c:=by
 rcases h.2 with ⟨a,f⟩|⟨g,b,c,a,_⟩;·omega
 ·exact⟨g,b,a⟩
theorem Q7.w5 {U} (q:Q7 U xs y none f11 f10 f13 W) {G t:Nat} (n:Nat) (c:∀ k q,xs[k]?=some q->∀ j u,(ee q)[j]?=some u->U.cell? ⟨G,k*6+j,none⟩=some u) (d:xs.length<=500) (f:xs.length=t) (x:Operand) (h:∀ v w,Q7 U xs y (some v) f11 f10 f13 w->K (a.put o.dst v) w) (b:o.op=.call { callee:=.builtin .append,args:=#[.const (.slice none 0 0),x],argTypes:=#[27,27] }:=by kernel_rfl) (g:o.type=27:=by kernel_rfl) (i:a.eval (.const (.slice none 0 0))=.slice none 0 0:=by kernel_rfl) (j:a.eval x=.slice (some ⟨G,0,none⟩) t n:=by kernel_rfl):o.wp prog a W K Q:=by
 subst f;obtain⟨v,w,e,r⟩:=q.s5 G n c d;exact aT 27 _ _ b g i j e (h v w r)
theorem Q7.w11 {U} {i:Value} {b:Nat} (q:Q7 U xs y (some i) none (some b) f13 W) (j:xs.length<=500) {t:Nat} (k:(xs++[y]).length=t) (x z:Operand) (h:∀ g c w,Q7 U xs y none (some (.slice (some ⟨g,0,none⟩) t c)) none f13 w->K (a.put o.dst (.slice (some ⟨g,0,none⟩) t c)) w) (d:o.op=.call { callee:=.builtin .append,args:=#[x,z],argTypes:=#[27,27] }:=by kernel_rfl) (f:o.type=27:=by kernel_rfl) (l:a.eval x=i:=by kernel_rfl) (m:a.eval z=.slice (some ⟨b,0,none⟩) 1 1:=by kernel_rfl):o.wp prog a W K Q:=by
 obtain⟨v,w,e,r⟩:=q.s11 1 j;obtain⟨g,c,rfl⟩:=qI (r.r11 _ rfl) (by simp);rw [k] at e r;exact aT 27 _ _ d f l m e (h g c w r)
structure R7 (U : World) (an : List An4) (va m0 m1 m2 m3 m4 m5 m6 m7 : Value) (f13 : Option Nat) (W : World) : Prop where
  bel : D U W
  one : (#[.bool true, va, m0, m1, m2, m3, m4, m5, m6, m7] : Array Value).all (·.oneCell')=true
  rep : ∃ l : List Aw, l.map (·.1)=an/\W.ownsRow U.heap.size 44 4 va l.length (fw l)/\∀ z ∈ l, W.ownsRow U.heap.size 5 1 z.2 z.1.data.length (Ns .u8 z.1.data)
  r13 : ∀ g, f13=some g->W.heap[g]? = some (.cells CF 38)/\U.heap.size<=g
theorem R7.s13 {U} (q:R7 U an va m0 m1 m2 m3 m4 m5 m6 m7 none W):R7 U an va m0 m1 m2 m3 m4 m5 m6 m7 (some W.heap.size) (W.alloc (.cells CF 38)):=by
 have b:=(Fc W.heap.size W).alloc (Fe _) (.cells CF 38);obtain⟨l,a,c,d⟩:=q.rep;exact⟨az q.bel b,q.one,⟨l,a,ay c b,λz f=>ay (d z f) b⟩,λg e=>by injection e with e;subst e;exact⟨ao W _,q.bel.size⟩⟩
def Bu (a : World) (an : List An4) (F : Nat) (W : World) : Prop := ∃ (va m0 m1 m2 m3 m4 m5 m6 m7 : Value) (l : List Aw), W.heap[F]? = some (.cells #[.bool true, va, m0, m1, m2, m3, m4, m5, m6, m7] 38)/\l.map (·.1)=an/\W.ownsRow a.heap.size 44 4 va l.length (fw l)/\(∀ z ∈ l, W.ownsRow a.heap.size 5 1 z.2 z.1.data.length (Ns .u8 z.1.data))/\D a W
theorem R7.s14 {U} {F:Nat} (q:R7 U an va m0 m1 m2 m3 m4 m5 m6 m7 (some F) W):Bu U an F (W.setRow F #[.bool true,va,m0,m1,m2,m3,m4,m5,m6,m7]):=by
 have g:=al W F #[.bool true,va,m0,m1,m2,m3,m4,m5,m6,m7];obtain⟨l,e,b,c⟩:=q.rep;obtain⟨a,f⟩:=q.r13 F rfl;exact⟨va,m0,m1,m2,m3,m4,m5,m6,m7,l,aw a _,e,b.kept g (.inr (dZ b a av)),λz d=>(c z d).kept g (.inr (dZ (c z d) a av)),q.bel.grown g q.bel.size (λr e=>by cases e;exact f)⟩
theorem R7.w14 {U} {F:Nat} (q:R7 U an va m0 m1 m2 m3 m4 m5 m6 m7 (some F) W) (x z:Operand) (h:∀ w,Bu U an F w->D U w->K (a.put o.dst undef) w) (c:o.op=.store 38 x z:=by kernel_rfl) (d:a.eval x=.pointer (some ⟨F,0,none⟩):=by kernel_rfl) (e:a.eval z=.agg #[.bool true,va,m0,m1,m2,m3,m4,m5,m6,m7]:=by kernel_rfl):o.wp prog a W K Q:=by
 refine Hr 38 x z c F #[.bool true,va,m0,m1,m2,m3,m4,m5,m6,m7] d e 38 _ (q.r13 _ rfl).1 (by kernel_rfl) rfl q.one ?_;have r:=q.s14;refine h _ r ?_;obtain⟨_,_,_,_,_,_,_,_,_,_,_,_,_,_,b⟩:=r;exact b
theorem Q7.run (v:AU) {U} {g c:Nat} (q:Q7 U xs y none (some (.slice (some ⟨g,0,none⟩) n c)) none f13 W) {da} (p:Nat) (w:n=(xs++[y]).length) (x:kZ cf) (A:1<=cf.large) (B:Tb U) (F:Sl U da cf.ds) (d:∀ a,da=some a->a.block<U.heap.size) (f:0<U.heap.size) {C} (G:∀ o∈xs++[y],Od6 C o U) (K:n<=300) (i:(bh cf ((xs++[y]).map dh.o) (aS cf) []).2=an) :
  Calls prog 11 #[.agg #[.int .i64 (cf.mix:Nat),.int .i64 (cf.fifo:Nat),.int .i64 (cf.large:Nat),.int .i64 (cf.bud:Nat),.int .u64 cf.key,.slice da cf.ds.length p],.slice (some ⟨g,0,none⟩) n c] W λe r=>∃ va m0 m1 m2 m3 m4 m5 m6 m7,e=.returned (.agg #[.bool true,va,m0,m1,m2,m3,m4,m5,m6,m7])/\R7 U an va m0 m1 m2 m3 m4 m5 m6 m7 f13 r:=by
 subst w;have s:=tI (q.r11 _ rfl) (λo b=>(G o b).bel q.bel);refine (v cf da p (some ⟨g,0,none⟩) c (xs++[y]) W x A (B.below q.bel) (F.below q.bel) (λa ha=>Fq (d a ha) q.bel.size) (Fq f q.bel.size) s.1 s.2 K).mono ?_;rintro e r ⟨l,va,m0,m1,m2,m3,m4,m5,m6,m7,rfl,j,L,k,m,b⟩;refine⟨va,m0,m1,m2,m3,m4,m5,m6,m7,rfl,az q.bel b,?_,⟨l,L.trans i,dV q.bel.size k,λz M=>dV q.bel.size (m z M)⟩,λt u=>⟨eD b (q.r13 t u).1,(q.r13 t u).2⟩⟩;have h:=j;simp only [FG,F1,or_false,forall_eq_or_imp,forall_eq] at h;obtain⟨N,f,O,P,Q,R,S,T,V⟩:=h;rw [<-Array.all_toList];simp only [List.all_cons,List.all_nil,Bool.and_true,FV];exact⟨rfl,N,f,O,P,Q,R,S,T,V⟩
end
end Go.Proofs.YtdngbppdomoenaaGreatDoor
