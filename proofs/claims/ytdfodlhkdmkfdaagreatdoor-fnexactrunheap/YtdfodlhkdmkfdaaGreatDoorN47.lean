import Derived.Test.YtdfodlhkdmkfdaaGreatDoorN46
set_option linter.unusedVariables false
set_option linter.unusedSimpArgs false
set_option maxRecDepth 20000
set_option maxHeartbeats 8000000
namespace Go.Proofs.YtdfodlhkdmkfdaaGreatDoor
open Go.Proofs.Tryz
variable {w:World} {u:Value} {zs:List Int} {B e:Nat}
section
open Go.RowKit Go.Maps
def Rd1 (k:IntKind) (w:World) (u:Value) (zs:List Int):Prop:=∃ a c,u=.slice a zs.length c/\∀ i,i<zs.length->∃ g,a=some ⟨g,0,none⟩/\w.cell? ⟨g,i,none⟩=some (.int k (zs[i]?.getD 0))
theorem Rd1.below {k W} (h:Rd1 k w u zs) (b:D w W):Rd1 k W u zs:=by
 obtain⟨a,c,e,d⟩:=h;exact⟨a,c,e,λi f=>by obtain ⟨g,j,l⟩:=d i f;exact⟨g,j,ol b l⟩⟩
theorem Rd1.sl {k} (h:Rd1 k w u zs):∃ a b c,u=.slice a b c:=by obtain ⟨a,c,e,_⟩:=h;exact⟨_,_,_,e⟩
theorem kL {k} {n:Nat} (h:w.ownsRow B e 1 u n (Ns k zs)):Rd1 k w u zs:=by
 have b:zs.length=n:=by have:=h.1;rw [aX] at this;omega
 rcases h.2 with ⟨rfl,d⟩|⟨g,a,f,rfl,_⟩;·exact⟨none,0,by rw [b,d],λi c=>Z⟩
 refine⟨some ⟨g,0,none⟩,a,by rw [b],λi c=>⟨g,rfl,be h i _ ?_⟩⟩;simp [Ns,c]
theorem vt {n:Nat} {l} (h:w.ownsRow B e 1 u n (Us l)):Rd1 .u64 w u (l.map (λx:Nat=>(x:Int))):=by
 refine kL (B:=B) (e:=e) (n:=n) ?_;have a:Ns .u64 (l.map (λx:Nat=>(x:Int)))=Us l:=by simp [Ns,Us]
 rw [a];exact h
theorem jb {k g} (h:RowV w g e (Ns k zs)) (c):Rd1 k w (Vl g zs.length c) zs:=⟨_,_,rfl,λi a=>⟨g,rfl,dR h i a⟩⟩
theorem As (u1 u2:Value) (zs:List Int) (w:World) (c:Rd1 .i64 w u1 zs) (d:Rd1 .i64 w u2 zs) (f:zs.length<=1048576):Calls prog 30 #[u1,u2] w λe g=>e=.returned (.bool true)/\D w g:=by
 obtain⟨a,i,rfl,j⟩:=c;obtain⟨b,cb,rfl,k⟩:=d;exact Ik a b zs.length i cb zs w f j k
theorem GK (u1 u2:Value) (zs:List Int) (w:World) (c:Rd1 .u8 w u1 zs) (d:Rd1 .u8 w u2 zs) (f:zs.length<=1048576):Calls prog 74 #[u1,u2] w λe g=>e=.returned (.bool true)/\D w g:=by
 obtain⟨a,i,rfl,j⟩:=c;obtain⟨b,cb,rfl,k⟩:=d;exact Ih a b zs.length i cb zs w f j k
theorem AM (u1 u2:Value) (zs:List Int) (w:World) (c:Rd1 .u64 w u1 zs) (d:Rd1 .u64 w u2 zs) (f:zs.length<=1048576):Calls prog 73 #[u1,u2] w λe g=>e=.returned (.bool true)/\D w g:=by
 obtain⟨a,i,rfl,j⟩:=c;obtain⟨b,cb,rfl,k⟩:=d;exact IG a b zs.length i cb zs w f j k
theorem gC (w) (a b:Array Value) (t:TypeId):D w ((w.alloc (.cells a t)).alloc (.cells b t))/\((w.alloc (.cells a t)).alloc (.cells b t)).heap[w.heap.size]?=some (.cells a t)/\((w.alloc (.cells a t)).alloc (.cells b t)).heap[w.heap.size+1]?=some (.cells b t):=by
 refine⟨((Jn _ _).alloc (Jo _) _).alloc (by rw [aA];omega) _,?_,?_⟩;·rw [dG _ _ _ (by rw [aA];omega)];exact av _ _
 rw [<-aA w (.cells a t)];exact av _ _
theorem It (a b c d f) (w:World)  :
  Calls prog 128 #[.agg #[I a,I b,I c,I d,I f],.agg #[I a,I b,I c,I d,I f]] w λe k=>e=.returned (.bool true)/\D w k:=by
 obtain⟨g,i,j⟩:=gC w #[I a,I b,I c,I d,I f] #[I a,I b,I c,I d,I f] 102;have l:=H g;have m:=H i;have n:=H j;clear g i j;have g:(a != a)=false:=bh;have i:(b != b)=false:=bh;have j:(c != c)=false:=bh;have o:(d != d)=false:=bh;have p:(f != f)=false:=bh;go_enter func128,ntmps128;go_wp2;go_ret;exact⟨rfl,l⟩
theorem IL (a b c d f) (w:World)  :
  Calls prog 130 #[.agg #[U a,I b,I c,I d,I f],.agg #[U a,I b,I c,I d,I f]] w λe k=>e=.returned (.bool true)/\D w k:=by
 obtain⟨g,i,j⟩:=gC w #[U a,I b,I c,I d,I f] #[U a,I b,I c,I d,I f] 109;have l:=H g;have m:=H i;have n:=H j;clear g i j;have g:(a != a)=false:=bh;have i:(b != b)=false:=bh;have j:(c != c)=false:=bh;have o:(d != d)=false:=bh;have p:(f != f)=false:=bh;go_enter func130,ntmps130;go_wp2;go_ret;exact⟨rfl,l⟩
theorem Iz (a b c) (k l:Option Addr) (l0 m n d:Nat) (w) (p:∀ W,D w W->Calls prog 74 #[.slice k l0 m,.slice l n d] W λe o=>e=.returned (.bool true)/\D W o) :
  Calls prog 69 #[.agg #[I a,U b,I c,.slice k l0 m],.agg #[I a,U b,I c,.slice l n d]] w λe o=>e=.returned (.bool true)/\D w o:=by
 obtain⟨j,q,r⟩:=gC w #[I a,U b,I c,.slice k l0 m] #[I a,U b,I c,.slice l n d] 81;have f:=H j;have g:=H q;have i:=H r;have s:=H p;clear j q r p;have d:(a != a)=false:=bh;have u:(b != b)=false:=bh;have v:(c != c)=false:=bh;go_enter func69,ntmps69;go_wp2_with fail;generalize (w.alloc _).alloc _=x at f g i ⊢;refine (s _ f).mono ?_;rintro e y ⟨rfl,j⟩;have t:=H (f.trans (j.mono f.size));have q:=ae g j;have r:=ae i j;clear g i j;have g:=H q;have i:=H r;clear q r;go_wp2;go_ret;exact⟨rfl,t⟩
theorem FY (a b c d f) (m n:Option Addr) (l0 o p g:Nat) (w) (r:∀ W,D w W->Calls prog 74 #[.slice m l0 o,.slice n p g] W λe q=>e=.returned (.bool true)/\D W q) :
  Calls prog 31 #[.agg #[I a,I b,U c,U d,U f,.slice m l0 o],.agg #[I a,I b,U c,U d,U f,.slice n p g]] w λe q=>e=.returned (.bool true)/\D w q:=by
 obtain⟨l,s,t⟩:=gC w #[I a,I b,U c,U d,U f,.slice m l0 o] #[I a,I b,U c,U d,U f,.slice n p g] 61;have i:=H l;have j:=H s;have k:=H t;have u:=H r;clear l s t r;have g:(a != a)=false:=bh;have x:(b != b)=false:=bh;have y:(c != c)=false:=bh;have z:(d != d)=false:=bh;have A:(f != f)=false:=bh;go_enter func31,ntmps31;go_wp2_with fail;generalize (w.alloc _).alloc _=B at i j k ⊢;refine (u _ i).mono ?_;rintro e F ⟨rfl,l⟩;have v:=H (i.trans (l.mono i.size));have s:=ae j l;have t:=ae k l;clear j k l;have j:=H s;have k:=H t;clear s t;go_wp2;go_ret;exact⟨rfl,v⟩
theorem ac (a b c d f) (m n:Option Addr) (l0 o p g:Nat) (w) (r:∀ W,D w W->Calls prog 30 #[.slice m l0 o,.slice n p g] W λe q=>e=.returned (.bool true)/\D W q) :
  Calls prog 11 #[.agg #[I a,I b,I c,I d,U f,.slice m l0 o],.agg #[I a,I b,I c,I d,U f,.slice n p g]] w λe q=>e=.returned (.bool true)/\D w q:=by
 obtain⟨l,s,t⟩:=gC w #[I a,I b,I c,I d,U f,.slice m l0 o] #[I a,I b,I c,I d,U f,.slice n p g] 39;have i:=H l;have j:=H s;have k:=H t;have u:=H r;clear l s t r;have g:(a != a)=false:=bh;have x:(b != b)=false:=bh;have y:(c != c)=false:=bh;have z:(d != d)=false:=bh;have A:(f != f)=false:=bh;go_enter func11,ntmps11;go_wp2_with fail;generalize (w.alloc _).alloc _=B at i j k ⊢;refine (u _ i).mono ?_;rintro e F ⟨rfl,l⟩;have v:=H (i.trans (l.mono i.size));have s:=ae j l;have t:=ae k l;clear j k l;have j:=H s;have k:=H t;clear s t;go_wp2;go_ret;exact⟨rfl,v⟩
theorem Io (t u:Option Addr) (l0 v x y:Nat) (l m:Option Addr) (n o p q:Nat) (a w) (F:∀ W,D w W->Calls prog 30 #[.slice t l0 v,.slice u x y] W λe f=>e=.returned (.bool true)/\D W f) (G:∀ W,D w W->Calls prog 30 #[.slice l n o,.slice m p q] W λe f=>e=.returned (.bool true)/\D W f) :
  Calls prog 129 #[.agg #[.slice t l0 v,.slice l n o,I a],.agg #[.slice u x y,.slice m p q,I a]] w λe f=>e=.returned (.bool true)/\D w f:=by
 obtain⟨d,g,i⟩:=gC w #[.slice t l0 v,.slice l n o,I a] #[.slice u x y,.slice m p q,I a] 104;have r:=H d;have b:=H g;have c:=H i;have L:=H F;have M:=H G;clear d g i F G;have O:(a != a)=false:=bh;go_enter func129,ntmps129;go_wp2_with fail;generalize (w.alloc _).alloc _=P at r b c ⊢;refine (L _ r).mono ?_;rintro e s ⟨rfl,d⟩;have z:=H (r.trans (d.mono r.size));have g:=ae b d;have i:=ae c d;clear b c d;have b:=H g;have c:=H i;clear g i;have A:s.cell? ⟨w.heap.size,1,none⟩=some (.slice l n o):=aM b.out;have B:s.cell? ⟨w.heap.size+1,1,none⟩=some (.slice m p q):=aM c.out;have j:s.cell? ⟨w.heap.size,2,none⟩=some (I a):=aM b.out;have k:s.cell? ⟨w.heap.size+1,2,none⟩=some (I a):=aM c.out;go_wp2_with fail;refine (M _ z).mono ?_;rintro e K ⟨rfl,d⟩;have N:=H (z.trans (d.mono z.size));have g:=ae b d;have i:=ae c d;clear b c d A B j k;have b:=H g;have c:=H i;clear g i;have j:K.cell? ⟨w.heap.size,2,none⟩=some (I a):=aM b.out;have k:K.cell? ⟨w.heap.size+1,2,none⟩=some (I a):=aM c.out;go_wp2;go_ret;exact⟨rfl,N⟩
theorem F1 (a b) (p0 q0:Option Addr) (l0 m0 j0 n0:Nat) (p1 q1:Option Addr) (l1 m1 j1 n1:Nat) (Y q2:Option Addr) (l2 m2 j2 n2:Nat) (Q R:Option Addr) (S T V X:Nat) (F G:Option Addr) (K L M N:Nat) (u v:Option Addr) (x y z A:Nat) (w) (h0:∀ W,D w W->Calls prog 30 #[.slice p0 l0 m0,.slice q0 j0 n0] W λe p=>e=.returned (.bool true)/\D W p) (h1:∀ W,D w W->Calls prog 70 #[.slice p1 l1 m1,.slice q1 j1 n1] W λe p=>e=.returned (.bool true)/\D W p) (h2:∀ W,D w W->Calls prog 71 #[.slice Y l2 m2,.slice q2 j2 n2] W λe p=>e=.returned (.bool true)/\D W p) (h3:∀ W,D w W->Calls prog 72 #[.slice Q S T,.slice R V X] W λe p=>e=.returned (.bool true)/\D W p) (h4:∀ W,D w W->Calls prog 73 #[.slice F K L,.slice G M N] W λe p=>e=.returned (.bool true)/\D W p) (h5:∀ W,D w W->Calls prog 73 #[.slice u x y,.slice v z A] W λe p=>e=.returned (.bool true)/\D W p) :
  Calls prog 29 #[.agg #[I a,.slice p0 l0 m0,.slice p1 l1 m1,.slice Y l2 m2,.slice Q S T,.slice F K L,.slice u x y,I b],.agg #[I a,.slice q0 j0 n0,.slice q1 j1 n1,.slice q2 j2 n2,.slice R V X,.slice G M N,.slice v z A,I b]] w λe p=>e=.returned (.bool true)/\D w p:=by
 obtain⟨f,g,i⟩:=gC w #[I a,.slice p0 l0 m0,.slice p1 l1 m1,.slice Y l2 m2,.slice Q S T,.slice F K L,.slice u x y,I b] #[I a,.slice q0 j0 n0,.slice q1 j1 n1,.slice q2 j2 n2,.slice R V X,.slice G M N,.slice v z A,I b] 35;have W:=H f;have c:=H g;have d:=H i;have K0:=H h0;have K1:=H h1;have K2:=H h2;have K3:=H h3;have K4:=H h4;have K5:=H h5;clear f g i h0 h1 h2 h3 h4 h5;have n0:(a != a)=false:=bh;have n7:(b != b)=false:=bh;go_enter func29,ntmps29;go_wp2_with fail;generalize (w.alloc _).alloc _=V0 at W c d ⊢;refine (K0 _ W).mono ?_;rintro e q ⟨rfl,f⟩;have B1:=H (W.trans (f.mono W.size));have l:=ae c f;have m:=ae d f;clear c d f;have c:=H l;have d:=H m;clear l m;have B:q.cell? ⟨w.heap.size,2,none⟩=some (.slice p1 l1 m1):=aM c.out;have a0:q.cell? ⟨w.heap.size+1,2,none⟩=some (.slice q1 j1 n1):=aM d.out;have O:q.cell? ⟨w.heap.size,3,none⟩=some (.slice Y l2 m2):=aM c.out;have P:q.cell? ⟨w.heap.size+1,3,none⟩=some (.slice q2 j2 n2):=aM d.out;have r:q.cell? ⟨w.heap.size,4,none⟩=some (.slice Q S T):=aM c.out;have s:q.cell? ⟨w.heap.size+1,4,none⟩=some (.slice R V X):=aM d.out;have n:q.cell? ⟨w.heap.size,5,none⟩=some (.slice F K L):=aM c.out;have o:q.cell? ⟨w.heap.size+1,5,none⟩=some (.slice G M N):=aM d.out;have j:q.cell? ⟨w.heap.size,6,none⟩=some (.slice u x y):=aM c.out;have k:q.cell? ⟨w.heap.size+1,6,none⟩=some (.slice v z A):=aM d.out;have g:q.cell? ⟨w.heap.size,7,none⟩=some (I b):=aM c.out;have i:q.cell? ⟨w.heap.size+1,7,none⟩=some (I b):=aM d.out;go_wp2_with fail;refine (K1 _ B1).mono ?_;rintro e t ⟨rfl,f⟩;have B2:=H (B1.trans (f.mono B1.size));have l:=ae c f;have m:=ae d f;clear c d f B a0 O P r s n o j k g i;have c:=H l;have d:=H m;clear l m;have O:t.cell? ⟨w.heap.size,3,none⟩=some (.slice Y l2 m2):=aM c.out;have P:t.cell? ⟨w.heap.size+1,3,none⟩=some (.slice q2 j2 n2):=aM d.out;have r:t.cell? ⟨w.heap.size,4,none⟩=some (.slice Q S T):=aM c.out;have s:t.cell? ⟨w.heap.size+1,4,none⟩=some (.slice R V X):=aM d.out;have n:t.cell? ⟨w.heap.size,5,none⟩=some (.slice F K L):=aM c.out;have o:t.cell? ⟨w.heap.size+1,5,none⟩=some (.slice G M N):=aM d.out;have j:t.cell? ⟨w.heap.size,6,none⟩=some (.slice u x y):=aM c.out;have k:t.cell? ⟨w.heap.size+1,6,none⟩=some (.slice v z A):=aM d.out;have g:t.cell? ⟨w.heap.size,7,none⟩=some (I b):=aM c.out;have i:t.cell? ⟨w.heap.size+1,7,none⟩=some (I b):=aM d.out;go_wp2_with fail;refine (K2 _ B2).mono ?_;rintro e B ⟨rfl,f⟩;have B3:=H (B2.trans (f.mono B2.size));have l:=ae c f;have m:=ae d f;clear c d f O P r s n o j k g i;have c:=H l;have d:=H m;clear l m;have r:B.cell? ⟨w.heap.size,4,none⟩=some (.slice Q S T):=aM c.out;have s:B.cell? ⟨w.heap.size+1,4,none⟩=some (.slice R V X):=aM d.out;have n:B.cell? ⟨w.heap.size,5,none⟩=some (.slice F K L):=aM c.out;have o:B.cell? ⟨w.heap.size+1,5,none⟩=some (.slice G M N):=aM d.out;have j:B.cell? ⟨w.heap.size,6,none⟩=some (.slice u x y):=aM c.out;have k:B.cell? ⟨w.heap.size+1,6,none⟩=some (.slice v z A):=aM d.out;have g:B.cell? ⟨w.heap.size,7,none⟩=some (I b):=aM c.out;have i:B.cell? ⟨w.heap.size+1,7,none⟩=some (I b):=aM d.out;go_wp2_with fail;refine (K3 _ B3).mono ?_;rintro e O ⟨rfl,f⟩;have P:=H (B3.trans (f.mono B3.size));have l:=ae c f;have m:=ae d f;clear c d f r s n o j k g i;have c:=H l;have d:=H m;clear l m;have n:O.cell? ⟨w.heap.size,5,none⟩=some (.slice F K L):=aM c.out;have o:O.cell? ⟨w.heap.size+1,5,none⟩=some (.slice G M N):=aM d.out;have j:O.cell? ⟨w.heap.size,6,none⟩=some (.slice u x y):=aM c.out;have k:O.cell? ⟨w.heap.size+1,6,none⟩=some (.slice v z A):=aM d.out;have g:O.cell? ⟨w.heap.size,7,none⟩=some (I b):=aM c.out;have i:O.cell? ⟨w.heap.size+1,7,none⟩=some (I b):=aM d.out;go_wp2_with fail;refine (K4 _ P).mono ?_;rintro e r ⟨rfl,f⟩;have s:=H (P.trans (f.mono P.size));have l:=ae c f;have m:=ae d f;clear c d f n o j k g i;have c:=H l;have d:=H m;clear l m;have j:r.cell? ⟨w.heap.size,6,none⟩=some (.slice u x y):=aM c.out;have k:r.cell? ⟨w.heap.size+1,6,none⟩=some (.slice v z A):=aM d.out;have g:r.cell? ⟨w.heap.size,7,none⟩=some (I b):=aM c.out;have i:r.cell? ⟨w.heap.size+1,7,none⟩=some (I b):=aM d.out;go_wp2_with fail;refine (K5 _ s).mono ?_;rintro e n ⟨rfl,f⟩;have o:=H (s.trans (f.mono s.size));have l:=ae c f;have m:=ae d f;clear c d f j k g i;have c:=H l;have d:=H m;clear l m;have g:n.cell? ⟨w.heap.size,7,none⟩=some (I b):=aM c.out;have i:n.cell? ⟨w.heap.size+1,7,none⟩=some (I b):=aM d.out;go_wp2;go_ret;exact⟨rfl,o⟩
theorem Dd (i:Bool) (a b) (p0 q0:Option Addr) (l0 m0 j0 k:Nat) (l m:Option Addr) (n o p q:Nat) (r s:Option Addr) (t u v x:Nat) (y z:Option Addr) (A B F G:Nat) (K L:Option Addr) (M N O P:Nat) (Q R:Option Addr) (S T V X:Nat) (Y q6:Option Addr) (l6 m6 j6 n6:Nat) (w) (h0:∀ W,D w W->Calls prog 28 #[.slice p0 l0 m0,.slice q0 j0 k] W λe j=>e=.returned (.bool true)/\D W j) (h1:∀ W,D w W->Calls prog 29 #[.agg #[I a,.slice l n o,.slice r t u,.slice y A B,.slice K M N,.slice Q S T,.slice Y l6 m6,I b],.agg #[I a,.slice m p q,.slice s v x,.slice z F G,.slice L O P,.slice R V X,.slice q6 j6 n6,I b]] W λe j=>e=.returned (.bool true)/\D W j) :
  Calls prog 10 #[.agg #[.bool i,.slice p0 l0 m0,I a,.slice l n o,.slice r t u,.slice y A B,.slice K M N,.slice Q S T,.slice Y l6 m6,I b],.agg #[.bool i,.slice q0 j0 k,I a,.slice m p q,.slice s v x,.slice z F G,.slice L O P,.slice R V X,.slice q6 j6 n6,I b]] w λe j=>e=.returned (.bool true)/\D w j:=by
 obtain⟨c,d,f⟩:=gC w #[.bool i,.slice p0 l0 m0,I a,.slice l n o,.slice r t u,.slice y A B,.slice K M N,.slice Q S T,.slice Y l6 m6,I b] #[.bool i,.slice q0 j0 k,I a,.slice m p q,.slice s v x,.slice z F G,.slice L O P,.slice R V X,.slice q6 j6 n6,I b] 37;have W:=H c;have X1:=H d;have X2:=H f;have K0:=H h0;have K1:=H h1;clear c d f h0 h1;have k:(i != i)=false:=bh;go_enter func10,ntmps10;go_wp2_with fail;generalize (w.alloc _).alloc _=V0 at W X1 X2 ⊢;refine (K0 _ W).mono ?_;rintro e c ⟨rfl,g⟩;have B1:=H (W.trans (g.mono W.size));have d:=ae X1 g;have f:=ae X2 g;clear X1 X2 g;have a0:c.cell? ⟨w.heap.size,2,none⟩=some (I a):=aM d;have a1:c.cell? ⟨w.heap.size+1,2,none⟩=some (I a):=aM f;have a2:c.cell? ⟨w.heap.size,3,none⟩=some (.slice l n o):=aM d;have a3:c.cell? ⟨w.heap.size+1,3,none⟩=some (.slice m p q):=aM f;have a4:c.cell? ⟨w.heap.size,4,none⟩=some (.slice r t u):=aM d;have a5:c.cell? ⟨w.heap.size+1,4,none⟩=some (.slice s v x):=aM f;have a6:c.cell? ⟨w.heap.size,5,none⟩=some (.slice y A B):=aM d;have a7:c.cell? ⟨w.heap.size+1,5,none⟩=some (.slice z F G):=aM f;have a8:c.cell? ⟨w.heap.size,6,none⟩=some (.slice K M N):=aM d;have a9:c.cell? ⟨w.heap.size+1,6,none⟩=some (.slice L O P):=aM f;have b0:c.cell? ⟨w.heap.size,7,none⟩=some (.slice Q S T):=aM d;have b1:c.cell? ⟨w.heap.size+1,7,none⟩=some (.slice R V X):=aM f;have b2:c.cell? ⟨w.heap.size,8,none⟩=some (.slice Y l6 m6):=aM d;have b3:c.cell? ⟨w.heap.size+1,8,none⟩=some (.slice q6 j6 n6):=aM f;have b4:c.cell? ⟨w.heap.size,9,none⟩=some (I b):=aM d;have b5:c.cell? ⟨w.heap.size+1,9,none⟩=some (I b):=aM f;clear d f;go_wp2_with fail;refine (K1 _ B1).mono ?_;rintro e f ⟨rfl,g⟩;have d:=H (B1.trans (g.mono B1.size));clear g a0 a1 a2 a3 a4 a5 a6 a7 a8 a9 b0 b1 b2 b3 b4 b5;go_wp2;go_ret;exact⟨rfl,d⟩
end
section
open Go.RowKit Go.Shelf Go.Maps
theorem kY {a b c:World} (d:Below B a b) (e:D b c) (f:B<=b.heap.size):Below B a c:=d.trans (e.mono f)
theorem nz (w:World) (p:Addr) (b:TypeId) (a:List Value) (d:TypeDesc) (g:∀ j v,a[j]?=some v->w.cell? (p.add j)=some v)
  (j:prog.underlying b=some d) (m:d.isRow=true) (f:(prog.info? b).map (·.size)=some a.length) :
  (loadVar b p).run prog w=.ok (.agg a.toArray) w:=by
 have k:(loadCells p a.length).run prog w=.ok a.toArray w:=run_loadCells_list (P:=prog) w p a g;cases e:prog.info? b with
 | none=>simp [e] at f
 | some i =>
  have l:i.size=a.length:=by simpa [e] using f
  have c:(isAgg b).run prog w=.ok true w:=by
   unfold isAgg;rw [Sem.run_bind,run_underlying j w];cases d <;> simp_all
  simp [loadVar,Sem.run_bind,c,sizeOf,typeInfo,e,l,k]
theorem iR {c:Array Oper} {b:List Oper} {e:Oper} {a:Act} {Q:Exit->Act->World->Prop} (i:e.guard=none) (f:TypeId) (x:Operand) (k:e.op=.load f x)
  (p:Addr) (l:a.eval x=.pointer (some p)) (g:List Value) (d:TypeDesc) (m:∀ j v,g[j]?=some v->w.cell? (p.add j)=some v)
  (j:prog.underlying f=some d) (n:d.isRow=true) (o:(prog.info? f).map (·.size)=some g.length)
  (h:wpList prog c Q b (a.put e.dst (.agg g.toArray)) w):wpList prog c Q (e::b) a w :=
 Lf i λ_ q=>by
  unfold Oper.wp execOp
  simp only [k,l,Instr.loadAt,Instr.sureAddr,Sem.run_bind,Sem.run_pure,Result.andThen_ok,nz w p f g d m j n o]
  exact q _ _ h
def IW (w:World) (o:cH):Prop:=(o.o.p<18446744073709551616/\o.o.a<18446744073709551616/\o.o.b<18446744073709551616 /\ -9223372036854775808<=o.o.ref)/\o.o.ys.length<=maxLen/\∃ zs,IsRow .u8 w o.d o.o.ys.length o.dc zs/\o.o.ys=zs.take o.o.ys.length
structure InO (w:World) (A:Option Addr) (len:Nat) (ops:List cH):Prop where
 hl:ops.length=len
 hm:len<=maxLen
 at_:∀ k o,ops[k]?=some o->∃ x,A=some x/\(∀ j v,(gF o)[j]?=some v->w.cell? ((x.add (k*6)).add j)=some v)/\IW w o
theorem InO.below {w W A len ops} (h:InO w A len ops) (a:D w W):InO W A len ops :=
 ⟨h.hl,h.hm,λk o b=>by
  obtain⟨x,e,c,d,f,zs,g,i⟩:=h.at_ k o b
  exact⟨x,e,λj v l=>ol a (c j v l),d,f,zs,g.below a,i⟩⟩
def jF:List cH->Nat
 | []=>0
 | o::r=>o.o.ys.length+jF r
theorem vQ:∀ (a b:List cH),jF (a++b)=jF a+jF b
 | [],b=>by simp [jF]
 | o::r,b=>by simp [jF,vQ r b];omega
theorem zT {a:List cH} {k:Nat} {o:cH} (h:a[k]?=some o):jF (a.take (k+1))=jF (a.take k)+o.o.ys.length:=by
 rw [JK,h,vQ];simp [jF]
theorem ri:∀ {a:List cH} {o:cH},o∈a->o.o.ys.length<=jF a
 | p::r,o,h=>by
  rcases JG.1 h with rfl|a
  ·simp [jF]
  have:=ri a;simp [jF];omega
theorem Iv (d:Option Addr) (a c:Nat) (b:Nat) (w:World) (k:b<=1048576) (f:a<=maxLen) :
  Calls prog 38 #[.slice d a c,I b] w λe g=>e=.returned (I (if a<=b then ((b-a:Nat):Int) else -1))/\g=w:=by
 unfold maxLen at f;by_cases h:a<=b
 ·rw [tm h];have i:¬((b:Int)-a<0):=Z;have j:(Lit.int .i64 ((b:Int)-a)).wf=true:=Lm Z;have l:(b:Int)-a=((b-a:Nat):Int):=Z;go_enter func38,ntmps38;go_wp2;go_ret;exact⟨ct Z,rfl⟩
 rw [tg h];have i:((b:Int)-a<0):=Z;have j:(Lit.int .i64 ((b:Int)-a)).wf=true:=Lm Z;go_enter func38,ntmps38;go_wp2;go_ret;exact⟨rfl,rfl⟩
theorem Iy (o:cH) (b:Nat) (w:World) (d:b<=1048576) (f:o.o.ys.length<=maxLen) :
  Calls prog 18 #[.agg (gF o).toArray,I b] w λe g=>e=.returned (I (if o.o.ys.length<=b then ((b-o.o.ys.length:Nat):Int) else -1))/\D w g:=by
 have a:=H (λW=>Iv o.d o.o.ys.length o.dc b W d f);have c:=H (((Jn w.heap.size w).alloc (Jo _) (.cells (gF o).toArray 54)));unfold gF at *;have l:((if o.o.ys.length<=b then ((b-o.o.ys.length:Nat):Int) else -1)<0)↔¬o.o.ys.length<=b:=by split <;> omega
 have i:¬o.o.ys.length<=b->(if o.o.ys.length<=b then ((b-o.o.ys.length:Nat):Int) else -1) = -1:=λh=>tg h
 generalize (if o.o.ys.length<=b then ((b-o.o.ys.length:Nat):Int) else -1)=r at *;by_cases h:o.o.ys.length<=b
 ·have j:¬(r<0):=Z;go_enter func18,ntmps18;go_wp2_with fail;refine (a _).mono ?_;rintro e k ⟨rfl,rfl⟩;go_wp2;go_ret;exact⟨rfl,c⟩
 have j:r<0:=Z;go_enter func18,ntmps18;go_wp2_with fail;refine (a _).mono ?_;rintro e k ⟨rfl,rfl⟩;go_wp2;go_ret;exact⟨ct (i h).symm,c⟩
theorem Hb (d:Option Addr) (a c:Nat) (b:Nat) (w:World) (k:b<=1048576) (f:a<=maxLen) :
  Calls prog 17 #[.slice d a c,I b] w λe g=>e=.returned (I (if a<=b then ((b-a:Nat):Int) else -1))/\g=w:=by
 unfold maxLen at f;by_cases h:a<=b
 ·rw [tm h];have i:¬((b:Int)-a<0):=Z;have j:(Lit.int .i64 ((b:Int)-a)).wf=true:=Lm Z;have l:(b:Int)-a=((b-a:Nat):Int):=Z;go_enter func17,ntmps17;go_wp2;go_ret;exact⟨ct Z,rfl⟩
 rw [tg h];have i:((b:Int)-a<0):=Z;have j:(Lit.int .i64 ((b:Int)-a)).wf=true:=Lm Z;go_enter func17,ntmps17;go_wp2;go_ret;exact⟨rfl,rfl⟩
theorem Ga (A len) (g:Nat) (ops w) (L:Nat) (N:L<=1048576) (h:InO w A len ops) :
  Calls prog 5 #[.slice A len g,I L] w λe B=>∃ r:Int,e=.returned (I r)/\(r<0\/len+jF ops<=L)/\D w B:=by
 have F:=h.hm;unfold maxLen at F;have j:(Lit.int .i64 ((L:Int)-(len:Int))).wf=true:=Lm Z;have l:=H h;clear h;by_cases O:L<len
 ·have a:((L:Int)-(len:Int)<0):=Z;go_enter func5,ntmps5;go_wp2;go_ret;exact⟨_,rfl,.inl Z,Jn _ _⟩
 have a:¬((L:Int)-(len:Int)<0):=Z;have p:=H (Jn w.heap.size w);go_enter func5,ntmps5;go_wp2;go_loopw [1,5] (λb i wr=>∃ k:Nat,k<=len/\i=I k/\len+jF (ops.take k)<=L/\b=I (L-(len+jF (ops.take k)):Nat)/\Hid (D w wr)) (λ_ i _=>len-(intOf i).toNat);case atStart=>exact ⟨0,Jt _,rfl,by simp [jF];omega,jI (by simp [jF];omega),p⟩
 case round =>
  obtain⟨k,P,rfl,c,rfl,d⟩:=hrel;clear p j a;by_cases G:k<len
  ·obtain⟨o,m⟩:∃ o,ops[k]?=some o:=⟨_,Jq (by have:=l.hl;omega)⟩;obtain⟨x,rfl,q,s⟩:=(l.below d).at_ k o m;have t:=H q;have u:=H (zT m);have f:L-(len+jF (ops.take k))<=1048576:=Z;obtain⟨b,K⟩:∃ b,L-(len+jF (ops.take k))=b:=⟨_,rfl⟩;rw [K] at f ⊢;have v:=H (λW=>Iy o b W f s.2.1);have y:¬o.o.ys.length<=b->(if o.o.ys.length<=b then ((b-o.o.ys.length:Nat):Int) else -1) = -1:=λh=>tg h
   have z:o.o.ys.length<=b->(if o.o.ys.length<=b then ((b-o.o.ys.length:Nat):Int) else -1)=((b-o.o.ys.length:Nat):Int):=λh=>tm h
   generalize (if o.o.ys.length<=b then ((b-o.o.ys.length:Nat):Int) else -1)=r at *;have M:=H y;have n:=H z;clear q s m y z;go_wp2_with (first|(refine iR rfl 54 _ rfl _ rfl (gF o) _ t underlying54 rfl E ?_));refine (v _).mono ?_;rintro e y ⟨rfl,m⟩;have q:=H (kY d m d.size);clear m d t v;by_cases s:o.o.ys.length<=b
   ·have m:=n.out s;subst m;have a:¬(((b-o.o.ys.length:Nat):Int)<0):=Z;go_wp2;go_roundw;(case rel=>exact ⟨k+1,Z,aR,by have:=u.out;omega,jI (by have:=u.out;omega),q⟩);case measure=>simp [intOf];omega
   have m:=M.out s;subst m;go_wp2;go_ret;exact⟨_,rfl,.inl Z,q⟩
  have f:k=len:=Z;subst f;have a:(ops.take k)=ops:=JN (by have:=l.hl;omega);rw [a] at c ⊢;generalize L-(k+jF ops)=b;go_wp2;go_ret;exact⟨_,rfl,.inr c,d⟩
theorem pD (w:World) (a b c:Obj):((((w.alloc a).alloc b).alloc c).heap[w.heap.size]?=some a)/\((((w.alloc a).alloc b).alloc c).heap[w.heap.size+1]?=some b)/\((((w.alloc a).alloc b).alloc c).heap[w.heap.size+1+1]?=some c)/\D w (((w.alloc a).alloc b).alloc c):=by
 refine⟨?_,?_,?_,(((Jn _ _).alloc (Jo _) a).alloc (by rw [aA];omega) b).alloc (by rw [aA,aA];omega) c⟩;·rw [dG _ _ _ (by rw [aA,aA];omega),dG _ _ _ (by rw [aA];omega)];exact av _ _
 ·rw [dG _ _ _ (by rw [aA,aA];omega),<-aA w a];exact av _ _
 rw [<-aA w a,<-aA (w.alloc a) b];exact av _ _
def xW (o:cH) (g:Nat):cH:=⟨o.o,some ⟨g,0,none⟩,o.o.ys.length⟩
theorem Ix (o w) (h:IW w o) (r:o.o.ys.length<=1048576) :
  Calls prog 23 #[.agg (gF o).toArray] w λe l=>∃ g,e=.returned (.agg (gF (xW o g)).toArray)/\RowV l g 5 (Ns .u8 o.o.ys)/\w.heap.size<=g/\D w l:=by
 obtain⟨_,_,zs,d,a⟩:=h;have j:=H (λW (b:D w W)=>Is o.d o.o.ys.length o.dc zs W (d.below b) r);rw [<-a] at j;clear d a;unfold xW gF;have a:=H (pD w (.cells #[I o.o.kd,I o.o.ref,U o.o.p,U o.o.a,U o.o.b,.slice o.d o.o.ys.length o.dc] 54) (.cells #[I 0,I 0,U 0,U 0,U 0,C] 61) (.cells #[I o.o.kd,I o.o.ref,U o.o.p,U o.o.a,U o.o.b,C] 61));go_enter func23,ntmps23;go_wp2_with fail;refine (j _ a.2.2.2).mono ?_;rintro e f ⟨rfl,m,c⟩;have k:=H ((c.block _ (ah a.2.1)).trans a.2.1);have b:=H ((c.block _ (ah a.2.2.1)).trans a.2.2.1);have n:=H (aB a.2.2.2 c);have i:=H m;have q:=H (a.2.2.2.size);clear m c a j;generalize (((w.alloc _).alloc _).alloc _).heap.size=g at i q ⊢;have t:f.cell? ⟨w.heap.size+1+1,5,none⟩=some (C):=by simp [World.cell?,b.out]
 have u:f.frozen? ⟨w.heap.size+1+1,5,none⟩=false:=by simp [World.frozen?,b.out]
 have s:=H (show (f.setCell ⟨w.heap.size+1+1,5,none⟩ (Vl g o.o.ys.length o.o.ys.length)).heap[w.heap.size+1+1]?=some (.cells #[I o.o.kd,I o.o.ref,U o.o.p,U o.o.a,U o.o.b,Vl g o.o.ys.length o.o.ys.length] 61) by rw [aO b.out];rfl);have m:=H (show (f.setCell ⟨w.heap.size+1+1,5,none⟩ (Vl g o.o.ys.length o.o.ys.length)).heap[w.heap.size+1]?=some (.cells #[I 0,I 0,U 0,U 0,U 0,C] 61) by rw [t4 _ _ _ _ it];exact k);have a:g≠w.heap.size+1+1/\g≠w.heap.size+1:=by
  obtain⟨c,j,_⟩:=i.out;exact⟨λe=>by subst e;rw [b.out] at j;simp at j,λe=>by subst e;rw [k.out] at j;simp at j⟩
 have j:=H (i.other (p:=⟨w.heap.size+1+1,5,none⟩) (by simpa using a.1) (Vl g o.o.ys.length o.o.ys.length));have c:=H (n.setCell (p:=⟨w.heap.size+1+1,5,none⟩) it (Vl g o.o.ys.length o.o.ys.length));clear k b n i;go_wp2_with (first|(refine J0 rfl 61 _ rfl _ rfl _ _ _ _ s underlying61 rfl E ?_)|(refine JX rfl 61 _ _ rfl _ _ rfl rfl 61 _ m E rfl ?o1 ?_));case o1=>simp [Value.oneCell']
 refine wA (p7 dC _ _ (w.heap.size+1) 61 _ (0,0) _ dC (aw m _) underlying61 rfl E) dC ?_;refine⟨g,rfl,j.grown (ar _ _ _) a.2,q,c.grown (ar _ _ _) c.size (λr d=>by simp at d;omega)⟩
theorem eK (b:Nat):∀ (a:List Value) (o:Nat) (w:World),w.grownBy (w.setCells b o a) (some b)
 | [],o,w=>⟨rfl,rfl,rfl,Jo _,λ_ _ _=>rfl⟩
 | v::r,o,w=>by
  have a:=au (ao w b) o v
  have c:=eK b r (o+1) (w.setCell ⟨b,o,none⟩ v)
  refine⟨c.os.trans a.os,c.tape.trans a.tape,c.output.trans a.output,Jp a.size c.size,λk d e=>?_⟩
  rw [World.setCells,c.block k (Ju d a.size) e]
  exact a.block k d e
theorem jf (b:Nat):∀ (d:List Value) (o:Nat) (w:World) (c:Array Value) (t:TypeId),w.heap[b]?=some (.cells c t)->∃ a,(w.setCells b o d).heap[b]?=some (.cells a t)/\a.size=c.size
 | [],o,w,c,t,h=>⟨c,h,rfl⟩
 | v::r,o,w,c,t,h=>by
  obtain⟨a,d,e⟩:=jf b r (o+1) (w.setCell ⟨b,o,none⟩ v) _ t (aO h v)
  exact⟨a,d,by simpa using e⟩
theorem oV {G N o:Nat} {c:Array Value} {t:TypeId} (h:w.heap[G]?=some (.cells c t)) (n:Nat) (a:o+n<=c.size):w.there G o n:=λj b=>by
 constructor
 ·simp [World.cell?,h];omega
 simp [World.frozen?,h]
structure Cp (B:Nat) (w:World) (G N:Nat) (ops:List cH) (gs:List Nat):Prop where
 typ:∃ c,w.heap[G]?=some (.cells c 61)/\c.size=N*6
 at_:∀ k o g,ops[k]?=some o->gs[k]?=some g->w.rangeAt G (k*6) (gF (xW o g))/\RowV w g 5 (Ns .u8 o.o.ys)/\B<=g
 nd:gs.Nodup
 hl:gs.length=ops.length
 hG:B<=G
theorem Cp.below {B G N w W ops gs} (h:Cp B w G N ops gs) (d:D w W):Cp B W G N ops gs :=
 ⟨by obtain ⟨c,a,b⟩:=h.typ;exact⟨c,(d.block _ (ah a)).trans a,b⟩,λk o g e f=>by
  obtain⟨a,b,i⟩:=h.at_ k o g e f
  exact⟨aK a d,b.below d b.lt,i⟩,h.nd,h.hl,h.hG⟩
theorem i_ (o):(gF o).length=6:=rfl
theorem Cp.next {G N} {g k:Nat} {w1} {j:List cH} {gs} {o:cH} (h:Cp B w G N (j.take k) gs) (s:j[k]?=some o) (P:k<N) (z:D w w1) (Q:w.heap.size<=g) (v:RowV w1 g 5 (Ns .u8 o.o.ys)) (A:B<=g) :
  Cp B (w1.setCells G (k*6) (gF (xW o g))) G N (j.take (k+1)) (gs++[g]):=by
 have x:=h.below z;obtain⟨c,t,R⟩:=x.typ;have m:(j.take k).length=k:=by
  have:=(Jr.1 s).1;simp;omega
 have n:gs.length=k:=h.hl.trans m;have F:w1.there G (k*6) 6:=oV (N:=N) t 6 Z;have p:∀ {l:Nat} {a:List Value},RowV w1 l 5 a->l≠G:=λu e=>by
  obtain⟨y,a,_⟩:=u;subst e;rw [t] at a;simp at a
 have q:∀ l,l∈gs->l≠g:=λl K e=>by
  obtain⟨i,a⟩:=BR K;have b:=(Jr.1 a).1;obtain⟨_,r,_⟩:=h.at_ i _ l (Jq Z) a;have:=r.lt;omega
 refine⟨?_,λi L l d f=>?_,?_,by rw [JK,s];simp [n,m],h.hG⟩;·obtain⟨y,a,b⟩:=jf G (gF (xW o g)) (k*6) w1 c 61 t;exact⟨y,a,Z⟩
 ·rw [JK,s] at d;by_cases r:i<k;·rw [Kh Z] at d f;obtain⟨M,b,O⟩:=x.at_ i L l d f;exact⟨World.rangeAt_setCells_apart M _ _ _ (.inr (.inl (by rw [i_];omega))),b.grown (eK _ _ _ _) (p b),O⟩
  have a:i=k:=by
   have:=(Jr.1 f).1;simp at this;omega
  subst a;rw [List.getElem?_append_right Z,n] at f;rw [List.getElem?_append_right Z,m] at d;simp at d f;subst d f;exact⟨World.rangeAt_setCells_same _ _ _ _ (by rw [i_];exact F),v.grown (eK _ _ _ _) (p v),A⟩
 refine List.nodup_append.2 ⟨h.nd,bh,λa ha b r=>?_⟩;simp at r;subst r;exact q a ha
theorem Tryz.info61:(prog.info? 61).map (λi=>(i.zero,i.size,i.bytes))=some (some (.agg #[I 0,I 0,U 0,U 0,U 0,C]),6,64):=E
theorem GI (A len) (r:Nat) (ops w) (h:InO w A len ops) (u:len+jF ops<=1048576) :
  Calls prog 8 #[.slice A len r] w λe v=>∃ n,e=.returned (Vl w.heap.size len len)/\Cp w.heap.size v w.heap.size len ops n/\Below w.heap.size w v:=by
 obtain⟨K,hi,a,b,c⟩:=zr Tryz.info61;have d:(Instr.makeSlice 41 (I len) (I len)).run prog w=.ok (Vl w.heap.size len len) (w.alloc (.cells (madeCells #[I 0,I 0,U 0,U 0,U 0,C] (len*6)) 61)):=by
  have:=run_make (P:=prog) w 41 61 K _ underlying41 hi a .i64 .i64 len len Z (Int.le_refl _) (by rw [c];omega) Z;rw [b] at this;simpa [Value.cells] using this
 have j:=H ((Jn w.heap.size w).alloc (Jo _) (.cells (madeCells #[I 0,I 0,U 0,U 0,U 0,C] (len*6)) 61));have l:=H (show Cp w.heap.size (w.alloc (.cells (madeCells #[I 0,I 0,U 0,U 0,U 0,C] (len*6)) 61)) w.heap.size len (ops.take 0) [] from
  ⟨⟨_,av _ _,size_madeCells _ _⟩,λk o g f _=>by simp at f,List.nodup_nil,bh,Jo _⟩)
 generalize madeCells _ (len*6)=R at d j l;have s:=H h;clear h hi a b c;obtain⟨G,b⟩:∃ G,w.heap.size=G:=⟨_,rfl⟩;go_enter func8,ntmps8;go_wp2;clear d;generalize w.alloc _=W0 at j l ⊢;rw [b] at l j;go_loopw [4] (λi wr=>∃ k:Nat,k<=len/\i=I k/\Hid (Below G w wr)/\∃ n,Hid (Cp G wr G len (ops.take k) n)) (λi _=>len-(intOf i).toNat);case atStart=>exact ⟨0,Jt _,rfl,j,[],l⟩
 case round =>
  obtain⟨k,S,rfl,d,n,m⟩:=hrel;clear j l;by_cases t:k<len
  ·obtain⟨o,f⟩:∃ o,ops[k]?=some o:=⟨_,Jq (by have:=s.hl;omega)⟩;obtain⟨x,rfl,p,a⟩:=(s.below (b.symm▸d.out)).at_ k o f;have y:=H p;have z:=H (Ix o wr a (by have:=ri (JA f);omega));have L:=H f;clear p a f;go_wp2_with (first|(refine iR rfl 54 _ rfl _ rfl (gF o) _ y underlying54 rfl E ?_));refine (z).mono ?_;rintro e B ⟨g,rfl,q,F,a⟩;have M:=H (m.next L t a F q (by have:=d.size;have:=b;omega));have O:=H (show B.there G (k*6) 6 by
    obtain⟨c,p,Q⟩:=(m.below a).typ;exact oV (N:=len) p 6 Z)
   have Q:=H ((kY d a (by rw [<-b];exact Jp (Jo _) (b.symm▸d.size))).grown (eK G (gF (xW o g)) (k*6) B) (by rw [<-b];exact Jp (b.symm▸d.size) a.size) (λr q=>by simp at q;omega));clear q F a m d z y;obtain⟨c,a⟩:∃ c,(gF (xW o g)).toArray=c:=⟨_,rfl⟩;rw [a];go_wp2_with (first|(refine wpList_store_mid rfl 61 _ _ rfl G (k*6) c ?hx ?hy ?th ?hi ?o1 ?_));(case hy=>rfl);(case th=>rw [<-a,JJ,i_];exact O.out);(case hi=>rw [<-a,JJ,i_];kernel_rfl);(case o1=>rw [<-a];simp [gF,Value.oneCell']);(case hx=>rfl);subst a;go_roundw;(case rel=>exact ⟨k+1,Z,aR,Q,_,M⟩);case measure=>simp [intOf];omega
  have a:k=len:=Z;subst a;have u:(ops.take k)=ops:=JN (by have:=s.hl;omega);rw [u] at m;go_wp2;go_ret;rw [b];exact⟨_,rfl,m,d⟩
theorem GN (a:Option Addr) (b c:Nat) (zs:List Int) (w:World) (h:IsRow .i64 w a b c zs) (d:b<=1048576) :
  Calls prog 22 #[.slice a b c] w λe f=>e=.returned (Vl w.heap.size b b)/\RowV f w.heap.size 3 (Ns .i64 (zs.take b))/\D w f:=by
 have g:=h.len;rcases h with ⟨rfl,rfl,rfl,rfl⟩|⟨x,rfl,l,m,n,j,o⟩;·exact wV w
 refine wK x b c (zs.take b) w g d λi k=>?_;rw [j i Z];simp [k,List.getD_eq_getElem?_getD]
theorem IB (mi fi la bu ky) (d:Option Addr) (a c b:Nat) (w:World) (i:b<=1048576) (j:a<=maxLen) :
  Calls prog 4 #[.agg #[I mi,I fi,I la,I bu,U ky,.slice d a c],I b] w λe k=>e=.returned (I (if a<=b then ((b-a:Nat):Int) else -1))/\D w k:=by
 have f:=H (λW=>Hb d a c b W i j);have g:=H (((Jn w.heap.size w).alloc (Jo _) (.cells #[I mi,I fi,I la,I bu,U ky,.slice d a c] 25)));have o:((if a<=b then ((b-a:Nat):Int) else -1)<0)↔¬a<=b:=by split <;> omega
 have l:¬a<=b->(if a<=b then ((b-a:Nat):Int) else -1) = -1:=λh=>tg h
 generalize (if a<=b then ((b-a:Nat):Int) else -1)=r at *;by_cases h:a<=b
 ·have m:¬(r<0):=Z;go_enter func4,ntmps4;go_wp2_with fail;refine (f _).mono ?_;rintro e n ⟨rfl,rfl⟩;go_wp2;go_ret;exact⟨rfl,g⟩
 have m:r<0:=Z;go_enter func4,ntmps4;go_wp2_with fail;refine (f _).mono ?_;rintro e n ⟨rfl,rfl⟩;go_wp2;go_ret;exact⟨ct (l h).symm,g⟩
theorem IJ (mi fi la bu ky) (d:Option Addr) (a i:Nat) (zs:List Int) (w:World) (j:IsRow .i64 w d a i zs) (t:a<=1048576) :
  Calls prog 7 #[.agg #[I mi,I fi,I la,I bu,U ky,.slice d a i]] w λe o=>∃ g,e=.returned (.agg #[I mi,I fi,I la,I bu,U ky,Vl g a a])/\RowV o g 3 (Ns .i64 (zs.take a))/\w.heap.size<=g/\D w o:=by
 have m:=H (λW (b:D w W)=>GN d a i zs W (j.below b) t);clear j;have b:=H (pD w (.cells #[I mi,I fi,I la,I bu,U ky,.slice d a i] 25) (.cells #[I 0,I 0,I 0,I 0,U 0,C] 39) (.cells #[I mi,I fi,I la,I bu,U ky,C] 39));go_enter func7,ntmps7;go_wp2_with fail;refine (m _ b.2.2.2).mono ?_;rintro e k ⟨rfl,q,c⟩;have n:=H ((c.block _ (ah b.2.1)).trans b.2.1);have f:=H ((c.block _ (ah b.2.2.1)).trans b.2.2.1);have r:=H (aB b.2.2.2 c);have l:=H q;have s:=H (b.2.2.2.size);clear q c b m;generalize (((w.alloc _).alloc _).alloc _).heap.size=g at l s ⊢;have v:k.cell? ⟨w.heap.size+1+1,5,none⟩=some (C):=by simp [World.cell?,f.out]
 have x:k.frozen? ⟨w.heap.size+1+1,5,none⟩=false:=by simp [World.frozen?,f.out]
 have u:=H (show (k.setCell ⟨w.heap.size+1+1,5,none⟩ (Vl g a a)).heap[w.heap.size+1+1]?=some (.cells #[I mi,I fi,I la,I bu,U ky,Vl g a a] 39) by rw [aO f.out];rfl);have q:=H (show (k.setCell ⟨w.heap.size+1+1,5,none⟩ (Vl g a a)).heap[w.heap.size+1]?=some (.cells #[I 0,I 0,I 0,I 0,U 0,C] 39) by rw [t4 _ _ _ _ it];exact n);have b:g≠w.heap.size+1+1/\g≠w.heap.size+1:=by
  obtain⟨c,m,_⟩:=l.out;exact⟨λe=>by subst e;rw [f.out] at m;simp at m,λe=>by subst e;rw [n.out] at m;simp at m⟩
 have m:=H (l.other (p:=⟨w.heap.size+1+1,5,none⟩) (by simpa using b.1) (Vl g a a));have c:=H (r.setCell (p:=⟨w.heap.size+1+1,5,none⟩) it (Vl g a a));clear n f r l;go_wp2_with (first|(refine J0 rfl 39 _ rfl _ rfl _ _ _ _ u underlying39 rfl E ?_)|(refine JX rfl 39 _ _ rfl _ _ rfl rfl 39 _ q E rfl ?o1 ?_));case o1=>simp [Value.oneCell']
 refine wA (p7 dC _ _ (w.heap.size+1) 39 _ (0,0) _ dC (aw q _) underlying39 rfl E) dC ?_;refine⟨g,rfl,m.grown (ar _ _ _) b.2,s,c.grown (ar _ _ _) c.size (λr j=>by simp at j;omega)⟩
end
end Go.Proofs.YtdfodlhkdmkfdaaGreatDoor
