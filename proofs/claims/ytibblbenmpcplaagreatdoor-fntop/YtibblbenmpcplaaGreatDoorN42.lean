import Derived.Sort.KeysCollected
import Derived.Test.YtibblbenmpcplaaGreatDoorN39
set_option linter.unusedVariables false
set_option linter.unusedSimpArgs false
set_option maxRecDepth 20000
set_option maxHeartbeats 8000000
namespace Go.Proofs.YtibblbenmpcplaaGreatDoor
open Go.Proofs.Tryz
section
open Go.ChangeShapes Go.WideShapes Go.ChangeAt Go.RowKit Go.Maps Go.Shelf
theorem uk:∀ (b L2:List Int),b.Nodup->(∀ x,x∈b->x∈L2)->L2.length<=b.length->∀ y,y∈L2->y∈b
 | [],L2,_,_,c,y,b=>by
  have:L2=[]:=List.length_eq_zero_iff.1 (by simpa using c)
  rw [this] at b;cases b
 | a::t,L2,d,f,c,y,b=>by
  have ha:=f a bH
  rw [GI] at d
  by_cases e:y=a
  ·subst e;simp
  have i:∀ x,x∈t->x∈L2.erase a:=λx g=>(List.mem_erase_of_ne (λe:x=a=>d.1 (e▸g))).2 (f x (by simp [g]))
  have j:(L2.erase a).length<=t.length:=by rw [List.length_erase_of_mem ha];simp at c;omega
  have k:=uk t (L2.erase a) d.2 i j y ((List.mem_erase_of_ne e).2 b)
  simp [k]
def Ai:Lit->Int
 | .int _ x=>x
 | _=>0
def lM (f:Nat->Option Nat) (N:Nat):List Int:=((List.range N).filter λk=>(f k).isSome).map λk=>((k:Nat):Int)
theorem nV (f):∀ N,(lM f N).length=bm f 0 N
 | 0=>rfl
 | N+1=>by
  have b:=nV f N
  unfold lM at b ⊢
  rw [Gs,Hl,Hr,FC,b]
  simp only [bm,Gb]
  congr 1
  cases a:(f N).isSome <;> simp [List.filter,a]
theorem rM (f N):(lM f N).Nodup:=by
 unfold lM;refine List.pairwise_map.2 ((List.nodup_range.filter _).imp ?_);intro a b h e;exact h Z
theorem nQ (f N) (z:Int):z∈lM f N↔∃ k:Nat,z=k/\k<N/\(f k).isSome=true:=by
 unfold lM;simp only [FQ,Gk,Gh];constructor;·rintro⟨k,⟨h1,h2⟩,rfl⟩;exact⟨k,rfl,h1,h2⟩
 rintro⟨k,rfl,h1,h2⟩;exact⟨k,⟨h1,h2⟩,rfl⟩
theorem Im.only {S M st n bud f W} (h:Im S M st n bud f W):∃ a:DataW Unit,W.ownsMap prog 3 ev M 4096 a/\Maps.size a=bm f 0 4096/\(∀ k:Nat,k<4611686018427387904->a.atKey (.int .i64 k) .nil=sG (f k))/\(∀ k:Nat,k<4611686018427387904->has a (.int .i64 k)=(f k).isSome)/\∀ z:Int,has a (.int .i64 z)=true->∃ k:Nat,z=k/\k<4096/\(f k).isSome=true:=by
 obtain⟨a,b,i,m,c⟩:=h.map;refine⟨a,b,i,m,c,?_⟩;obtain⟨j,r,s,_⟩:=b.entries g_;have d:∀ p∈j,∃ x:Int,p.1=.int .i64 x:=by
  obtain⟨o,l,q⟩:=b.keysOf;obtain rfl:j=o:=by rw [r] at l;simpa using l
  intro p e;obtain⟨v,t⟩:=q p e;obtain⟨x,_,g,_⟩:=Maps.keyOf_int_inv underlying3 t;exact⟨x,g⟩
 subst r;have l:∀ z:Int,z∈j.map (λp=>Ai p.1)↔has (.map j) (.int .i64 z)=true:=by
  intro z;rw [has_eq,List.any_eq_true,FQ];constructor;·rintro⟨p,e,rfl⟩;obtain⟨x,g⟩:=d p e;exact⟨p,e,by rw [g];simp [Lit.sameKey,Ai]⟩
  rintro⟨p,e,hs⟩;obtain⟨x,g⟩:=d p e;refine⟨p,e,?_⟩;rw [g] at hs ⊢;simpa [Lit.sameKey,Ai] using hs
 intro z o;have:=uk (lM f 4096) (j.map λp=>Ai p.1) (rM f 4096) (λx g=>by
  obtain⟨k,rfl,t,q⟩:=(nQ f 4096 x).1 g;rw [l,c k Z];exact q) (by rw [Gz,nV,<-i];exact Fv _) z ((l z).2 o)
 exact (nQ f 4096 z).1 this
theorem i_ (m):∀ (n:Nat) (z:Int),z∈bw m n↔∃ k:Nat,z=k/\k<n/\isOpen (m k)=true
 | 0,z=>by simp [bw]
 | n+1,z=>by
  have d:=i_ m n z
  simp only [bw]
  split
  ·rename_i b
   rw [F8,d]
   simp only [List.mem_singleton]
   constructor
   ·rintro (⟨k,rfl,c,a⟩|rfl)
    ·exact⟨k,rfl,Z,a⟩
    exact⟨n,rfl,Z,b⟩
   rintro⟨k,rfl,c,a⟩
   by_cases e:k=n
   ·right;rw [e]
   left;exact⟨k,rfl,Z,a⟩
  rename_i b
  rw [d]
  constructor
  ·rintro⟨k,rfl,c,a⟩;exact⟨k,rfl,Z,a⟩
  rintro⟨k,rfl,c,a⟩
  refine⟨k,rfl,?_,a⟩
  by_cases e:k=n
  ·subst e;exact absurd a b
  omega
theorem eE (m):∀ n:Nat,(bw m n).Pairwise (λx y=>x<y)
 | 0=>List.Pairwise.nil
 | n+1=>by
  simp only [bw]
  split
  ·rw [Is]
   refine⟨eE m n,bH,λx a y b=>?_⟩
   obtain⟨k,rfl,c,_⟩:=(i_ m n x).1 a
   simp at b
   omega
  exact eE m n
theorem rY (m:Nat->Option (Bool×List Int)) (n:Nat) (d:List Int) (g:d.Nodup) (h:∀ z,z∈d↔∃ k:Nat,z=k/\k<n/\isOpen (m k)=true):(d.mergeSort λx y=>decide (x<=y))=bw m n:=by
 have i:d.Perm (bw m n):=(List.perm_ext_iff_of_nodup g ((eE m n).imp λh=>Z)).2 λz=>by rw [h z,i_]
 have j:∀ a b c:Int,decide (a<=b)=true->decide (b<=c)=true->decide (a<=c)=true:=λa b c e f=>by simp at *;omega
 have k:∀ a b:Int,(decide (a<=b) || decide (b<=a))=true:=λa b=>bG
 refine List.Perm.eq_of_pairwise (le:=λa b=>decide (a<=b)=true) (λa b _ _ e f=>by simp at e f;omega) (List.pairwise_mergeSort j k d) ((eE m n).imp λh=>bG) ((List.mergeSort_perm d _).trans i)
end
section
open Go.RowKit Go.Maps Go.ChangeShapes Go.WideShapes Go.ChangeAt
def tC (r:Rg9):List Value:=[U r.base,I r.first,I r.ext,I r.st,I r.rq]
def dH (l:List Rg9):List Value:=l.flatMap tC
theorem tD (l:List Rg9) (r:Rg9):dH (l++[r])=dH l++tC r:=by simp [dH]
theorem yR:(prog.info? 132).map (λi=>(i.zero,i.size,i.bytes))=some (some (.agg #[U 0,I 0,I 0,I 0,I 0]),5,40):=E
theorem yB (W:World) (B:Nat) (v:Value) (l:List Rg9) (r) (g:Nat) (c) (a:W.ownsRow B 132 5 v l.length (dH l)) (o:W.heap[g]?=some (.cells (tC r).toArray 132)) (z:l.length<=100000) (p:B<=W.heap.size) :
  ∃ d b,(Builtin.append_ #[33,33] 33 #[v,Vl g 1 c]).run prog W=.ok d b/\b.ownsRow B 132 5 d (l++[r]).length (dH (l++[r]))/\W.grownBy b v.ownBlock:=by
 obtain⟨q,e,f,i,k⟩:=G0 yR;have m:∀ j u,(tC r)[j]?=some u->W.cell? ((⟨g,0,none⟩:Addr).add j)=some u:=λj u s=>by
  rw [Addr.add_mid,Gb,GT _ _ j _ _ _ o];simpa using s
 have t:∀ u∈tC r,u.oneCell'=true:=λu n=>by
  simp only [tC,F4,Gp,or_false] at n;rcases n with rfl|rfl|rfl|rfl|rfl <;> rfl
 obtain⟨d,b,w,x,y,_⟩:=Ia (P:=prog) W B 33 33 132 q _ 5 40 underlying33 e f i k rfl Z v _ _ a ⟨g,0,none⟩ 1 c (tC r) rfl m t (by unfold maxLen;omega) Z p;exact⟨d,b,w,by rw [tD,FC];exact x,y⟩
def tz:Prop:=∀ (v:Value) (rs:List Rg9) (W:World) (base:Nat),W.ownsRow base 132 5 v rs.length (dH rs)->rs.length<=1000 ->
 Calls prog 89 #[v,.func (.func 90) #[] #[]] W λe j=>e=.returned (.tuple #[])/\∃ i,i.Perm rs/\i.Pairwise (λa b=>a.base<=b.base)/\j.ownsRow base 132 5 v rs.length (dH i)/\W.grownBy j v.ownBlock
theorem uM {W i:World} {B:Nat} {e:TypeId} {sz:Nat} {v:Value} {n:Nat} {j:List Value} {r:Nat} (h:W.ownsRow B e sz v n j) (g:W.grownBy i (some r)) (c:v.ownBlock=some r->False):i.ownsRow B e sz v n j:=by
 refine⟨h.1,?_⟩;rcases h.2 with a|⟨b,d,f,rfl,k,a,l⟩;·exact .inl a
 refine .inr ⟨b,d,f,rfl,k,?_,l⟩;rw [g.block b (ag a) (λb=>c (by simp at b;subst b;rfl))];exact a
theorem Inv.nodup {cf h} (i:Inv cf h):h.rg.Nodup:=by
 refine List.Pairwise.imp_of_mem ?_ i.apart;intro a b ha d c e;subst e;have f:=i.rgs a ha;have:a.ext=a.guards+a.pages+1:=rfl;omega
theorem uI {c:List Rg9} (l:c.Nodup) {left} {d:List Rg9} (g:(eX c left).Perm d) {r:Rg9} (n:r∈c) (o:∀ a∈c,a.base=r.base->a=r) (p:left (.int .u64 (r.base:Nat))=true):(eX c (λz=>left z && !z.sameKey (.int .u64 (r.base:Nat)))).Perm (d++[r]):=by
 have i:(eX c left).Nodup:=l.filter _;have j:d.Nodup:=g.nodup_iff.1 i;have k:r∉d:=λq=>by
  have:=g.mem_iff.2 q;unfold eX at this;rw [Gk,p] at this;simp at this
 have f:(d++[r]).Nodup:=by
  rw [List.nodup_append];exact⟨j,bH,λa ha b m e=>by simp at m;subst m;subst e;exact k ha⟩
 refine (List.perm_ext_iff_of_nodup (show (eX c _).Nodup from l.filter _) f).2 λx=>?_;rw [F8,<-g.mem_iff];unfold eX;rw [Gk,Gk]
 by_cases e:x.base=r.base
 ·constructor;·rintro⟨a,_⟩;exact .inr (by simpa using o x a e)
  rintro (⟨a,b⟩|a);·exact⟨a,by simp [e,Lit.sameKey]⟩
  have:=List.mem_singleton.1 a;subst this;exact⟨n,by simp [Lit.sameKey]⟩
 have m:(Lit.int .u64 (x.base:Nat)).sameKey (.int .u64 (r.base:Nat))=false:=by
  simp [Lit.sameKey];omega
 dsimp only;rw [m];constructor;·rintro⟨a,b⟩;exact .inl ⟨a,by simpa using b⟩
 rintro (⟨a,b⟩|a);·exact⟨a,by simpa using b⟩
 have:=List.mem_singleton.1 a;subst this;exact absurd rfl e
theorem xN {a:List Rg9} {left:Lit->Bool} (h:∀ r∈a,left (.int .u64 (r.base:Nat))=true):eX a left=[]:=by
 unfold eX;rw [IC];intro r b;rw [h r b];simp
theorem nk (l:tz) (B y d cf h W) (w:Hp B y d cf h W) (i:Inv cf h) (b7:h.rg.length<=400) :
  Calls prog 50 #[.pointer (some ⟨y.P,0,none⟩)] W λe W'=>∃ v rs,e=.returned v/\rs.Perm h.rg/\rs.Pairwise (λa b=>a.base<=b.base)/\W'.ownsRow W.heap.size 132 5 v rs.length (dH rs)/\D W W':=by
 have a7:=H (λV (Y:D W V)=>w.below Y);have HI:=H i;have a8:=H l;obtain⟨a,g,b8,j,f⟩:=w.mp.map;have k:=w.cell 115 Z (.map (some y.R)) rfl;have a9:=H (show y.R<W.heap.size by obtain ⟨n,c,m⟩:=w.mp.typ;exact ag m);have HD:=H (IT j f);have a0:=H w.lo;clear w i j f l;go_enter func50,ntmps50;go_wp2_with (at_range;refine wpList_range_own _ rfl _ 69 rfl 23 168 fa underlying69 ev y.R 4096 a rfl g ?_;intro w0 f j l)
 go_frame
 obtain⟨r,i⟩:∃ r,r=W.heap.size:=⟨_,rfl⟩;have m:D W w0:=(Fu W.heap.size W).grown j (Fv _) bH;have B0:=H m;have SZ:=H (show r+1<=w0.heap.size by omega);have o:=H i;rw [<-i] at f ⊢;have a1:=H f;have M0:=H (show (eX h.rg (has a)).Perm [] by
  rw [xN (λr i=>by
   have h1:=HI.baseP i;rw [HD.2 r.base Z,a0.out r.base];exact List.any_eq_true.2 ⟨r,i,bH⟩)])
 clear f j l g m i k;go_loopw [3] (λv wr=>∃ (left:Lit->Bool) (F:Nat) (q:List Rg9),Hid (wr.ranges prog 23 ev y.R r 4096 a left F)/\Hid (wr.ownsRow (r+1) 132 5 v q.length (dH q))/\Hid ((eX h.rg left).Perm q)/\Hid (D W wr)/\r+1<=wr.heap.size) (λ_ wr=>wr.rangeLeft y.R r);case atStart=>exact ⟨_,_,[],a1,H ⟨rfl,.inl ⟨rfl,rfl⟩⟩,M0,B0,SZ⟩
 case round =>
  obtain⟨left,F,q,z,i,l,k,b6⟩:=hrel;clear a1 M0 B0 SZ;have b9:q.length<=400:=by
   have h1:=l.length_eq;have f:=Hb (λr:Rg9 => !left (.int .u64 (r.base:Nat))) h.rg;unfold eX at h1;omega
  obtain⟨P,Q,R,rfl⟩:=aA i.out;go_wp2_with (at_next;refine wpList_next_ranges _ rfl _ rfl 23 fa ev (Value.int .u64) rt (λf kl f=>by obtain ⟨x,rfl,_⟩:=Maps.keyOf_int_inv underlying23 f;exact⟨x,rfl⟩) (λv y G=>by exact (hF G).elim (λ⟨b,e,_⟩=>⟨some b,e⟩) (λ⟨e,_⟩=>⟨none,e⟩)) y.R r 4096 a left F rfl z ?_ ?_);·intro m f;have u:=H (show h.rg.Perm q by have:=l.out;rw [qn f] at this;exact this);have j:=H (a8 _ q wr (r+1) i Z);have A:=H (λg (e:(Value.slice P Q R).ownBlock=some g)=>(aF i e).1);clear z m f l HD;go_wp2_with fail;refine (j).mono ?_;rintro e L ⟨rfl,rs,f,m,n,p⟩;have K:=H (k.grown p k.size (λg e=>by have:=A.out g e;have:=o.out;omega));have s:=H (IT (f.trans u.symm) (IT m n));have t:=H f.length_eq;clear f m n p j u i k A;go_wp2;go_ret;exact⟨_,rs,rfl,s.1,s.2.1,aN (by rw [t.out];exact s.2.2) (by have:=o.out;omega),K⟩
  intro x c kl yd yp m a2 A a3 G s t b1 K b3 L;obtain⟨x',ex,rfl,a4⟩:=Maps.keyOf_int_inv underlying23 A;cases ex;have b4:=bounds_u64 a4;obtain⟨kk,rfl⟩:∃ kk:Nat,x=(kk:Int):=⟨x.toNat,Z⟩;have M:=has_true_of_atKey s;rw [HD.2 kk Z,a0.out kk] at M;obtain⟨n,N,a5⟩:=List.any_eq_true.1 M;simp at a5;subst a5;obtain⟨g,a6,lc⟩:=(a7 W (Fu _ _)).lcAt HI N;have T:=s .nil;rw [HD.1 n.base Z,a6] at T;obtain rfl:c=some g:=by
   cases c with
   | none=>simp [rt,ev] at G;rw [<-G.1] at T;simp [sG] at T
   | some b =>
    simp [rt,ev] at G;rw [<-G.1] at T;simp [sG] at T;have:b=g:=Z;rw [this]
  have X:D W m:=k.grown K k.size (λj e=>by cases e;have:=o.out;omega);have B2:=H X;have R2:=H (show m.ownsRow (r+1) 132 5 (.slice P Q R) q.length (dH q) from uM i K (λe=>by have:=(aF i e).1;omega));have G2:=H t;have LE:=H (IT t.left_eq z.left_eq);have ST:=H (uI HI.nodup l N (λa a e=>HI.uniq N a e) a3);have LC:=H (λV (Y:D W V)=>lc.below Y);have S2:=H (show r+1<=m.heap.size by omega);unfold rt at L ⊢;simp only [Hi] at L ⊢;have bD:D m m.drew:=(Fu _ _).drew;have bE:D m m.drew.drew:=bD.drew;have O:D m (m.drew.drew.alloc (.cells (tC n).toArray 132)):=bE.alloc bE.size _;obtain⟨v',f,u,o9,g9⟩:=yB _ (r+1) (.slice P Q R) q n m.drew.drew.heap.size 1 (ax R2 O) (ao m.drew.drew _) Z (Fx S2 O.size);obtain⟨wa,wb,wc,rfl⟩:=aA o9;have BA:=H (X.trans (O.mono X.size));have j:∀ p,(Value.slice P Q R).ownBlock=some p->r+1<=p:=λp w=>(aF (ax R2 O) w).1
  have BU:=H (BA.grown g9 BA.size (λp w=>by have:=j p w;have:=o.out;omega));have GU:=H ((G2.kept (hJ O) bH bH).kept g9 (λe=>by have:=j _ e.symm;have:=a9.out;have:=o.out;omega) (λe=>by have:=j _ e.symm;omega));have O9:=H o9;have LU:=H (LC f BU);have LA:=H (LC _ BA);have SU:=H (show r+1<=f.heap.size from Fx (Fx S2 O.size) g9.size);have LD:=H (LC _ (X.trans (bD.mono X.size)));have b5:=H GU.left_eq;clear A a3 G s t K b3 M T k z a6 lc X b4 a4 i l bD bE O j g9 o9;have s:=H (λV (Y:Lc g n V)=>iE g n V Y);unfold tC at u LA;go_upto_region 5 with fail
  refine rh (S:=Lc g n) ?_;generalize j:m.drew=l at LD LA u;have i:({ heap:=m.heap,tape:=m.tape,drawn:=m.drawn+1,os:=m.os,output:=m.output } : World)=l:=j;rw [i];clear j i L;have i:=LD.out;refine pk 0 (.slice P Q R) i ?_;refine pk 1 (.int .u64 (n.base:Nat)) i ?_;refine pk 2 (.pointer (some ⟨g,0,none⟩)) i ?_;refine pk 3 (.pointer (some ⟨g,0,none⟩)) i ?_;refine pk 4 (.pointer (some ⟨g,2,none⟩)) i ?_;refine pz 5 (.int .i64 (n.first:Nat)) i ?_;refine pk 6 (.pointer (some ⟨g,0,none⟩)) i ?_;refine pk 8 (.pointer (some ⟨g,0,none⟩)) i ?_;refine pk 9 (.pointer (some ⟨g,0,none⟩)) i ?_;refine pk 10 (.pointer (some ⟨g,0,none⟩)) i ?_;refine pk 11 (.pointer (some ⟨g,0,none⟩)) i ?_;refine pz 12 (.int .i64 n.st) i ?_;refine pk 13 (.pointer (some ⟨g,0,none⟩)) i ?_;refine pk 14 (.pointer (some ⟨g,0,none⟩)) i ?_;refine pk 15 (.pointer (some ⟨g,0,none⟩)) i ?_;refine pk 16 (.pointer (some ⟨g,1,none⟩)) i ?_;refine pz 17 (.int .i64 n.rq) i ?_;refine po 7 λK' j=>?_;go_simp;refine (s _ i).mono ?_;rintro e t ⟨rfl,rfl⟩;have k:=i.below (Fu _ _).drew;refine j _ _ ⟨k,?_⟩;clear i;have i:=k;clear k;clear j K';refine pz 18 (.agg #[.int .u64 (n.base:Nat),.int .i64 (n.first:Nat),.int .i64 (n.ext:Nat),.int .i64 n.st,.int .i64 n.rq]) i ?_;refine po 19 λK' j=>?_
  go_simp;refine j _ _ ⟨LA,?_⟩;clear i;have i:=LA.out;clear j K';refine po 20 λK' j=>?_;refine aV 33 (.tmp 16) (.tmp 35) (v:=.slice P Q R) (v2:=.slice (some ⟨l.drew.heap.size,0,none⟩) 1 1) E E E E u ?_;refine j _ _ ⟨LU,?_⟩;clear i;have i:=LU.out;clear j K';refine pk 21 (.slice wa wb wc) i ?_;refine bY ?_;simp only [Act.put,List.getElem_toArray,List.getElem_cons_succ,List.getElem_cons_zero,Fw,FA,FB];go_wp2;go_roundw
  case rel=>exact ⟨_,a2,q++[n],GU,O9,ST,BU,SU⟩
  case measure=>rw [b5.out,LE.2];exact b1
end
section
open Go.ChangeShapes Go.WideShapes Go.ChangeAt Go.RowKit Go.Maps Go.Shelf
def AE:Prop:=∀ (v:Value) (os:List Int) (W:World) (base:Nat),W.ownsRow base 3 1 v os.length (Ns .i64 os)->os.length<=4096 ->
 Calls prog 87 #[v] W λe i=>e=.returned (.tuple #[])/\i.ownsRow base 3 1 v os.length (Ns .i64 (os.mergeSort λx y=>decide (x<=y)))/\W.grownBy i v.ownBlock
def Et (c:Option Nat):Value:=.pointer (c.map λb=>⟨b,0,none⟩)
def Met (m:Nat->Option (Bool×List Int)) (left:Lit->Bool) (os:List Int):Prop:=os.Nodup/\∀ z,z∈os↔∃ k:Nat,z=k/\k<4096/\isOpen (m k)=true/\left (.int .i64 k)=false
theorem Met.step {m left os} (h:Met m left os) {k:Nat} (o:k<4096) (p:left (.int .i64 k)=true) :
  (isOpen (m k)=true->Met m (λz=>left z && !z.sameKey (.int .i64 k)) (os++[(k:Int)]))/\(isOpen (m k)=false->Met m (λz=>left z && !z.sameKey (.int .i64 k)) os):=by
 have l:∀ j:Nat,(Lit.int .i64 (j:Int)).sameKey (.int .i64 (k:Int))=decide (j=k):=λj=>by
  by_cases e:j=k;·subst e;simp [Lit.sameKey]
  have:¬((j:Int)=(k:Int)):=Z;simp [Lit.sameKey,e,this]
 have g:(k:Int)∉os:=λq=>by
  obtain⟨j,e,_,_,a⟩:=(h.2 _).1 q;obtain rfl:k=j:=Z;rw [p] at a;cases a
 constructor
 ·intro i;refine⟨List.nodup_append.2 ⟨h.1,bH,λa ha b n=>by simp at n;subst n;exact λe=>g (e▸ha)⟩,λz=>?_⟩;rw [F8,h.2 z];simp only [List.mem_singleton,l];constructor
  ·rintro (⟨j,rfl,d,c,f⟩|rfl);·exact⟨j,rfl,d,c,by rw [f];rfl⟩
   exact⟨k,rfl,o,i,bH⟩
  rintro⟨j,rfl,d,c,f⟩;by_cases e:j=k;·right;rw [e]
  left;refine⟨j,rfl,d,c,?_⟩;simpa [e] using f
 intro i;refine⟨h.1,λz=>?_⟩;rw [h.2 z];simp only [l];constructor;·rintro⟨j,rfl,d,c,f⟩;exact⟨j,rfl,d,c,by rw [f];rfl⟩
 rintro⟨j,rfl,d,c,f⟩;have e:j≠k:=λe=>by subst e;rw [i] at c;cases c
 refine⟨j,rfl,d,c,?_⟩;simpa [e] using f
theorem Fr.grownS {S M f w W} {b:World} (h:Fr S M f f w W) (a:W.grownBy b (some S)):Fr S M f f w b :=
 ⟨a.os.trans h.os,a.tape.trans h.tape,a.output.trans h.output,Fx h.size a.size,λj c d e g=>by
  rw [a.block j (FG c h.size) (by simpa using d)]
  exact h.block j c d e g,h.made⟩
end
end Go.Proofs.YtibblbenmpcplaaGreatDoor
