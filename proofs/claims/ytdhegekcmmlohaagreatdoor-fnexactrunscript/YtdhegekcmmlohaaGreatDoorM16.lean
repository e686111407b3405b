import Derived.Sort.KeysCollected
import Derived.Shelf.SlSortCmp.WholeK
import Derived.Shelf.Slices.In.SortNone
import Derived.Shelf.Sort.Plain
import Derived.Sort.OwnSortedInts
import Derived.Test.YtdhegekcmmlohaaGreatDoorM14
set_option linter.unusedVariables false
set_option linter.unusedSimpArgs false
set_option maxRecDepth 20000
set_option maxHeartbeats 8000000
namespace Go.Proofs.YtdhegekcmmlohaaGreatDoor
open Go.Proofs.Tryz Go.RowKit Go.Maps Go.Shelf Go.ChangeShapes Go.WideShapes Go.ChangeAt
theorem uk:∀(b L2:List Int),b.Nodup->(∀x,x∈b->x∈L2)->L2.length<=b.length->∀y,y∈L2->y∈b
 |[],L2,_,_,c,y,b=>by
  have:L2=[]:=List.length_eq_zero_iff.1 (by simpa using c)
  rw[this]at b;cases b
 |a::t,L2,d,f,c,y,b=>by
  have ha:=f a bH
  rw[GI]at d
  by_cases e:y=a
  ·subst e;simp
  have i:∀x,x∈t->x∈L2.erase a:=λx g=>(List.mem_erase_of_ne (λe:x=a=>d.1 (e▸g))).2 (f x (by simp[g]))
  have j:(L2.erase a).length<=t.length:=by rw[List.length_erase_of_mem ha];simp at c;omega
  have k:=uk t (L2.erase a) d.2 i j y ((List.mem_erase_of_ne e).2 b)
  simp[k]
def Ai:Lit->Int
 | .int _ x=>x
 |_=>0
def lM(f:Nat->Option Nat)(N:Nat):List Int:=((List.range N).filter λk=>(f k).isSome).map λk=>((k:Nat):Int)
theorem nV(f):∀N,(lM f N).length=bm f 0 N
 |0=>rfl
 |N+1=>by
  have b:=nV f N
  unfold lM at b⊢
  rw[Gs,Hl,Hr,FC,b]
  simp only[bm,Oi]
  congr 1
  cases a:(f N).isSome<;>simp[List.filter,a]
theorem rM(f N):(lM f N).Nodup:=by
 unfold lM;refine List.pairwise_map.2 ((List.nodup_range.filter _).imp ?_);intro a b h e;exact h Z
theorem nQ(f N)(z:Int):z∈lM f N↔∃k:Nat,z=k/\k<N/\(f k).isSome=true:=by
 unfold lM;simp only[FQ,Gk,Gh];constructor;·rintro⟨k,⟨h1,h2⟩,rfl⟩;exact⟨k,rfl,h1,h2⟩
 rintro⟨k,rfl,h1,h2⟩;exact⟨k,⟨h1,h2⟩,rfl⟩
theorem Im.only{S M st n bud f W}(h:Im S M st n bud f W):∃a:DataW Unit,W.ownsMap prog 3 ev M 4096 a/\Maps.size a=bm f 0 4096/\(∀k:Nat,k<4611686018427387904->a.atKey (.int .i64 k) .nil=sG (f k))/\(∀k:Nat,k<4611686018427387904->has a (.int .i64 k)=(f k).isSome)/\∀z:Int,has a (.int .i64 z)=true->∃k:Nat,z=k/\k<4096/\(f k).isSome=true:=by
 have⟨a,b,i,m,c⟩:=h.map;refine⟨a,b,i,m,c,?_⟩;have⟨j,r,s,_⟩:=b.entries g_;have d:∀p∈j,∃x:Int,p.1=.int .i64 x:=by
  have⟨o,l,q⟩:=b.keysOf;obtain rfl:j=o:=by rw[r]at l;simpa using l
  intro p e;have⟨v,hv⟩:=q p e;have⟨x,_,g,_⟩:=Maps.keyOf_int_inv underlying3 hv;exact⟨x,g⟩
 subst r;have l:∀z:Int,z∈j.map (λp=>Ai p.1)↔has (.map j) (.int .i64 z)=true:=by
  intro z;rw[has_eq,List.any_eq_true,FQ];constructor;·rintro⟨p,e,rfl⟩;have⟨x,g⟩:=d p e;exact⟨p,e,by rw[g];simp[Lit.sameKey,Ai]⟩
  rintro⟨p,e,hs⟩;have⟨x,g⟩:=d p e;refine⟨p,e,?_⟩;rw[g]at hs⊢;simpa[Lit.sameKey,Ai]using hs
 intro z o;have:=uk (lM f 4096) (j.map λp=>Ai p.1) (rM f 4096) (λx g=>by
  obtain⟨k,rfl,t,q⟩:=(nQ f 4096 x).1 g;rw[l,c k Z];exact q) (by rw[Gz,nV,<-i];exact Fv _) z ((l z).2 o)
 exact(nQ f 4096 z).1 this
theorem i_(m):∀(n:Nat)(z:Int),z∈NN m n↔∃k:Nat,z=k/\k<n/\isOpen (m k)=true
 |0,z=>by simp[NN]
 | n+1,z=>by
  have d:=i_ m n z
  simp only[NN]
  split
  ·rename_i b
   rw[F8,d]
   simp only[List.mem_singleton]
   constructor
   ·rintro(⟨k,rfl,c,a⟩|rfl)
    ·exact⟨k,rfl,Z,a⟩
    exact⟨n,rfl,Z,b⟩
   rintro⟨k,rfl,c,a⟩
   by_cases e:k=n
   ·right;rw[e]
   left;exact⟨k,rfl,Z,a⟩
  rename_i b
  rw[d]
  constructor
  ·rintro⟨k,rfl,c,a⟩;exact⟨k,rfl,Z,a⟩
  rintro⟨k,rfl,c,a⟩
  refine⟨k,rfl,?_,a⟩
  by_cases e:k=n
  ·subst e;exact absurd a b
  omega
theorem eE(m):∀n:Nat,(NN m n).Pairwise (λx y=>x<y)
 |0=>List.Pairwise.nil
 | n+1=>by
  simp only[NN]
  split
  ·rw[Is]
   refine⟨eE m n,bH,λx a y b=>?_⟩
   obtain⟨k,rfl,c,_⟩:=(i_ m n x).1 a
   simp at b
   omega
  exact eE m n
theorem rY(m:Nat->Option (Bool×List Int))(n:Nat)(d:List Int)(g:d.Nodup)(h:∀z,z∈d↔∃k:Nat,z=k/\k<n/\isOpen (m k)=true):(d.mergeSort λx y=>decide (x<=y))=NN m n:=by
 have i:d.Perm (NN m n):=(List.perm_ext_iff_of_nodup g ((eE m n).imp λh=>Z)).2 λz=>by rw[h z,i_]
 have j:∀a b c:Int,decide (a<=b)=true->decide (b<=c)=true->decide (a<=c)=true:=λa b c e f=>by simp at*;omega
 have k:∀a b:Int,(decide (a<=b) || decide (b<=a))=true:=λa b=>bG
 refine List.Perm.eq_of_pairwise (le:=λa b=>decide (a<=b)=true) (λa b _ _ e f=>by simp at e f;omega) (List.pairwise_mergeSort j k d) ((eE m n).imp λh=>bG) ((List.mergeSort_perm d _).trans i)
def tC(r:Rg9):List Value:=[U r.base,I r.first,I r.ext,I r.st,I r.rq]
def dH(l:List Rg9):List Value:=l.flatMap tC
theorem tD(l:List Rg9)(r:Rg9):dH (l++[r])=dH l++tC r:=by simp[dH]
theorem yR:(prog.info? 118).map (λi=>(i.zero,i.size,i.bytes))=some (some (.agg #[U 0,I 0,I 0,I 0,I 0]),5,40):=E
theorem yB(W:QM)(B:Nat)(v:QN)(l:List Rg9)(r)(g:Nat)(c)(a:W.ownsRow B 118 5 v l.length (dH l))(o:W.heap[g]?=some (.cells (tC r).toArray 118))(y:l.length<=100000)(p:B<=W.heap.size):
  ∃d b,QI 38 v (Vl g 1 c) W d b/\b.ownsRow B 118 5 d (l++[r]).length (dH (l++[r]))/\W.grownBy b v.ownBlock:=by
 have⟨q,e,f,i,k⟩:=G0 yR;have m:∀j u,(tC r)[j]?=some u->W.cell? (((Qz g 0):Addr).add j)=some u:=λj u s=>by
  rw[Addr.add_mid,Oi,GT _ _ j _ _ _ o];simpa using s
 have t:∀u∈tC r,u.oneCell'=true:=λu n=>by
  simp only[tC,F4,Gp,or_false]at n;rcases n with rfl|rfl|rfl|rfl|rfl<;>rfl
 have⟨d,b,e1,w,x,_⟩:=Ia (P:=prog) W B 38 38 118 q _ 5 40 underlying38 e f i k rfl Z v _ _ a (Qz g 0) 1 c (tC r) rfl m t (by unfold maxLen;omega) Z p;exact⟨d,b,e1,by rw[tD,FC];exact w,x⟩
def tz:Prop:=∀(v:Value)(rs:List Rg9)(W:World)(base:Nat),W.ownsRow base 118 5 v rs.length (dH rs)->rs.length<=1000 ->
 QA 170 #[v,.func (.func 171) #[] #[]] W λe w'=>e=.returned (.tuple #[])/\∃i,i.Perm rs/\i.Pairwise (λa b=>a.base<=b.base)/\w'.ownsRow base 118 5 v rs.length (dH i)/\W.grownBy w' v.ownBlock
theorem uM{W i:QM}{B:Nat}{e:QO}{sz:Nat}{v:QN}{n:Nat}{j:List QN}{r:Nat}(h:W.ownsRow B e sz v n j)(g:W.grownBy i (some r))(c:v.ownBlock=some r->False):i.ownsRow B e sz v n j:=by
 refine⟨h.1,?_⟩;rcases h.2 with a|⟨b,d,f,rfl,k,a,l⟩;·exact .inl a
 refine .inr ⟨b,d,f,rfl,k,?_,l⟩;rw[g.block b (ag a) (λb=>c (by simp at b;subst b;rfl))];exact a
theorem Inv.nodup{cf h}(i:Inv cf h):h.rg.Nodup:=by
 refine List.Pairwise.imp_of_mem ?_ i.apart;intro a b ha d c e;subst e;have f:=i.rgs a ha;have:a.ext=a.guards+a.pages+1:=rfl;omega
theorem uI{c:List Rg9}(l:c.Nodup){left}{d:List Rg9}(g:(eX c left).Perm d){r:Rg9}(n:r∈c)(o:∀a∈c,a.base=r.base->a=r)(p:left (.int .u64 (r.base:Nat))=true):(eX c (λz=>left z && !z.sameKey (.int .u64 (r.base:Nat)))).Perm (d++[r]):=by
 have i:(eX c left).Nodup:=l.filter _;have j:d.Nodup:=g.nodup_iff.1 i;have k:r∉d:=λq=>by
  have:=g.mem_iff.2 q;unfold eX at this;rw[Gk,p]at this;simp at this
 have f:(d++[r]).Nodup:=by
  rw[List.nodup_append];exact⟨j,bH,λa ha b m e=>by simp at m;subst m;subst e;exact k ha⟩
 refine(List.perm_ext_iff_of_nodup (show(eX c _).Nodup from l.filter _) f).2 λx=>?_;rw[F8,<-g.mem_iff];unfold eX;rw[Gk,Gk]
 by_cases e:x.base=r.base
 ·constructor;·rintro⟨a,_⟩;exact .inr (by simpa using o x a e)
  rintro(⟨a,b⟩|a);·exact⟨a,by simp[e,Lit.sameKey]⟩
  have:=List.mem_singleton.1 a;subst this;exact⟨n,by simp[Lit.sameKey]⟩
 have m:(Lit.int .u64 (x.base:Nat)).sameKey (.int .u64 (r.base:Nat))=false:=by
  simp[Lit.sameKey];omega
 dsimp only;rw[m];constructor;·rintro⟨a,b⟩;exact .inl ⟨a,by simpa using b⟩
 rintro(⟨a,b⟩|a);·exact⟨a,by simpa using b⟩
 have:=List.mem_singleton.1 a;subst this;exact absurd rfl e
theorem xN{a:List Rg9}{left:Lit->Bool}(h:∀r∈a,left (.int .u64 (r.base:Nat))=true):eX a left=[]:=by
 unfold eX;rw[IC];intro r b;rw[h r b];simp
theorem nk(l:tz)(B y d cf h W)(w:Hp B y d cf h W)(i:Inv cf h)(b5:h.rg.length<=400):
  QA 109 #[.pointer (some (Qz y.P 0))] W λe W'=>∃v rs,e=QJ v/\rs.Perm h.rg/\rs.Pairwise (λa b=>a.base<=b.base)/\W'.ownsRow W.heap.size 118 5 v rs.length (dH rs)/\D W W':=by
 have⟨a5,HI,a6⟩:=Qe (λV(T:D W V)=>w.below T) i l;have⟨a,g,b6,j,f⟩:=w.mp.map;have k:=w.cell 115 Z (.map (some y.R)) rfl;have a7:=H (show y.R<W.heap.size by obtain⟨n,c,m⟩:=w.mp.typ;exact ag m);have⟨HD,X⟩:=y7 (IT j f) w.lo;clear w i j f l;go_enter func109,ntmps109;go_wp2_with (at_range;refine wpList_range_own _ rfl _ 152 rfl 27 278 fa underlying152 ev y.R 4096 a rfl g ?_;intro w0 f j l)
 go_frame
 have⟨r,i⟩:=Qb W.heap.size;have m:D W w0:=(Fu W.heap.size W).grown j (Fv _) bH;have⟨B0,SZ,o⟩:=Qe m (show r+1<=w0.heap.size by omega) i;rw[<-i]at f⊢;have Y:=H f;have M0:=H (show(eX h.rg (has a)).Perm [] by
  rw[xN (λr i=>by
   have h1:=HI.baseP i;rw[HD.2 r.base Z,X r.base];exact List.any_eq_true.2 ⟨r,i,bH⟩)])
 clear f j l g m i k;go_loopw [3] (λv wr=>∃(left:Lit->Bool)(F:Nat)(q:List Rg9),Hid (wr.ranges prog 27 ev y.R r 4096 a left F)/\Hid (wr.ownsRow (r+1) 118 5 v q.length (dH q))/\Hid ((eX h.rg left).Perm q)/\Hid (D W wr)/\r+1<=wr.heap.size) (λ_ wr=>wr.rangeLeft y.R r);case atStart=>exact⟨_,_,[],Y,H ⟨rfl,.inl ⟨rfl,rfl⟩⟩,M0,B0,SZ⟩
 case round=>
  have⟨left,F,q,z,i,l,k,b4⟩:=hrel;have b7:q.length<=400:=by
   have h1:=l.length_eq;have f:=Hb (λr:Rg9=>!left (.int .u64 (r.base:Nat))) h.rg;unfold eX at h1;omega
  obtain⟨O,P,Q,rfl⟩:=aA i;go_wp2_with (at_next;refine wpList_next_ranges _ rfl _ rfl 27 fa ev (Value.int .u64) rt (λf kl f=>by obtain⟨x,rfl,_⟩:=Maps.keyOf_int_inv underlying27 f;exact⟨x,rfl⟩) (λv y hv=>by exact(hF hv).elim (λ⟨b,e,_⟩=>⟨some b,e⟩) (λ⟨e,_⟩=>⟨none,e⟩)) y.R r 4096 a left F rfl z ?_ ?_);·intro m f;have u:=H (show h.rg.Perm q by have:=l.out;rw[qn f]at this;exact this);have⟨j,A⟩:=y7 (a6 _ q wr (r+1) i Z) (λg(e:(Value.slice O P Q).ownBlock=some g)=>(aF i e).1);clear z m f l;go_wp2_with fail;refine(j).mono ?_;rintro e K⟨rfl,rs,f,m,n,p⟩;have G:=H (k.grown p k.size (λg e=>by have:=A.out g e;have:=o.out;omega));have⟨s,t⟩:=y7 (IT (f.trans u.symm) (IT m n)) f.length_eq;clear f m n p i k;go_wp2;go_ret;exact⟨_,rs,rfl,s.1,s.2.1,aN (by rw[t];exact s.2.2) (by have:=o.out;omega),G⟩
  intro x c kl yd yp m a0 A a1 hv s t a8 G a9 K;obtain⟨x',ex,rfl,a2⟩:=Maps.keyOf_int_inv underlying27 A;cases ex;have b1:=bounds_u64 a2;obtain⟨kk,rfl⟩:∃kk:Nat,x=(kk:Int):=⟨x.toNat,Z⟩;have L:=has_true_of_atKey s;rw[HD.2 kk Z,X kk]at L;have⟨n,M,a3⟩:=List.any_eq_true.1 L;simp at a3;subst a3;have⟨g,a4,lc⟩:=(a5 W (Fu _ _)).lcAt HI M;have e1:=s .nil;rw[HD.1 n.base Z,a4]at e1;obtain rfl:c=some g:=by
   cases c with
   |none=>simp[rt,ev]at hv;rw[<-hv.1]at e1;simp[sG]at e1
   |some b=>
    simp[rt,ev]at hv;rw[<-hv.1]at e1;simp[sG]at e1;have:b=g:=Z;rw[this]
  have R:D W m:=k.grown G k.size (λj e=>by cases e;have:=o.out;omega);have B2:=H R;have R2:Hid (m.ownsRow (r+1) 118 5 (.slice O P Q) q.length (dH q)):=(uM i G (λe=>by have:=(aF i e).1;omega));have⟨G2,LE,ST,LC,S2⟩:=Qg t (IT t.left_eq z.left_eq) (uI HI.nodup l M (λa a e=>HI.uniq M a e) a1) (λV(T:D W V)=>lc.below T) (show r+1<=m.heap.size by omega);unfold rt at K⊢;simp only[Hi]at K⊢;have bD:D m m.drew:=(Fu _ _).drew;have bE:D m m.drew.drew:=bD.drew;have N:D m (m.drew.drew.alloc (.cells (tC n).toArray 118)):=bE.alloc bE.size _;have⟨v',f,u,o9,g9⟩:=yB _ (r+1) (.slice O P Q) q n m.drew.drew.heap.size 1 (ax R2 N) (ao m.drew.drew _) Z (Fx S2 N.size);obtain⟨wa,wb,wc,rfl⟩:=aA o9;have BA:=H (R.trans (N.mono R.size));have j:∀p,(Value.slice O P Q).ownBlock=some p->r+1<=p:=λp w=>(aF (ax R2 N) w).1
  have BU:=H (BA.grown g9 BA.size (λp w=>by have:=j p w;have:=o.out;omega));have GU:=H ((G2.kept (hJ N) bH bH).kept g9 (λe=>by have:=j _ e.symm;have:=a7.out;have:=o.out;omega) (λe=>by have:=j _ e.symm;omega));have⟨O9,LU,LA,SU,LD,b3⟩:=Qh o9 (LC f BU) (LC _ BA) (show r+1<=f.heap.size from Fx (Fx S2 N.size) g9.size) (LC _ (R.trans (bD.mono R.size))) GU.left_eq;clear A a1 hv s t G a9 L e1 k z a4 lc R b1 a2 i l bD bE N j g9 o9;have s:=H (λV(T:Lc g n V)=>iE g n V T);unfold tC at u LA;go_upto_region 5 with fail
  refine rh (S:=Lc g n) ?_;generalize j:m.drew=l at LD LA u;have i:({heap:=m.heap,tape:=m.tape,drawn:=m.drawn+1,os:=m.os,output:=m.output}:QM)=l:=j;rw[i];clear j i K;have i:=LD.out;refine pk 0 (.slice O P Q) i ?_;refine pk 1 (.int .u64 (n.base:Nat)) i ?_;refine pk 2 (.pointer (some (Qz g 0))) i ?_;refine pk 3 (.pointer (some (Qz g 0))) i ?_;refine pk 4 (.pointer (some (Qz g 2))) i ?_;refine pz 5 (.int .i64 (n.first:Nat)) i ?_;refine pk 6 (.pointer (some (Qz g 0))) i ?_;refine pk 8 (.pointer (some (Qz g 0))) i ?_;refine pk 9 (.pointer (some (Qz g 0))) i ?_;refine pk 10 (.pointer (some (Qz g 0))) i ?_;refine pk 11 (.pointer (some (Qz g 0))) i ?_;refine pz 12 (.int .i64 n.st) i ?_;refine pk 13 (.pointer (some (Qz g 0))) i ?_;refine pk 14 (.pointer (some (Qz g 0))) i ?_;refine pk 15 (.pointer (some (Qz g 0))) i ?_;refine pk 16 (.pointer (some (Qz g 1))) i ?_;refine pz 17 (.int .i64 n.rq) i ?_;refine po 7 λK' j=>?_;go_simp;refine(s _ i).mono ?_;rintro e t⟨rfl,rfl⟩;have k:=i.below (Fu _ _).drew;refine j _ _ ⟨k,?_⟩;clear i;have i:=k;clear k;clear j K';refine pz 18 (.agg #[.int .u64 (n.base:Nat),.int .i64 (n.first:Nat),.int .i64 (n.ext:Nat),.int .i64 n.st,.int .i64 n.rq]) i ?_;refine po 19 λK' j=>?_
  go_simp;refine j _ _ ⟨LA,?_⟩;clear i;have i:=LA.out;clear j K';refine po 20 λK' j=>?_;refine aV 38 (.tmp 16) (.tmp 35) (v:=.slice O P Q) (v2:=.slice (some (Qz l.drew.heap.size 0)) 1 1) E E E E u ?_;refine j _ _ ⟨LU,?_⟩;clear i;have i:=LU.out;clear j K';refine pk 21 (.slice wa wb wc) i ?_;refine bY ?_;simp only[Act.put,List.getElem_toArray,List.getElem_cons_succ,List.getElem_cons_zero,Fw,FA,FB];go_wp2;go_roundw
  case rel=>exact⟨_,a0,q++[n],GU,O9,ST,BU,SU⟩
  case measure=>rw[b3,LE.2];exact a8
def AE:Prop:=∀(v:Value)(os:List Int)(W:World)(base:Nat),W.ownsRow base 3 1 v os.length (Ns .i64 os)->os.length<=4096 ->
 QA 168 #[v] W λe w'=>e=.returned (.tuple #[])/\w'.ownsRow base 3 1 v os.length (Ns .i64 (os.mergeSort λx y=>decide (x<=y)))/\W.grownBy w' v.ownBlock
def Et(c:Option Nat):Value:=.pointer (c.map λb=>⟨b,0,none⟩)
def Met(m:Nat->Option (Bool×List Int))(left:Lit->Bool)(os:List Int):Prop:=os.Nodup/\∀z,z∈os↔∃k:Nat,z=k/\k<4096/\isOpen (m k)=true/\left (.int .i64 k)=false
theorem Met.step{m left os}(h:Met m left os){k:Nat}(o:k<4096)(p:left (.int .i64 k)=true):
  (isOpen (m k)=true->Met m (λz=>left z && !z.sameKey (.int .i64 k)) (os++[(k:Int)]))/\(isOpen (m k)=false->Met m (λz=>left z && !z.sameKey (.int .i64 k)) os):=by
 have l:∀j:Nat,(Lit.int .i64 (j:Int)).sameKey (.int .i64 (k:Int))=decide (j=k):=λj=>by
  by_cases e:j=k;·subst e;simp[Lit.sameKey]
  have:¬((j:Int)=(k:Int)):=Z;simp[Lit.sameKey,e,this]
 have g:(k:Int)∉os:=λq=>by
  have⟨j,e,_,_,a⟩:=(h.2 _).1 q;obtain rfl:k=j:=Z;rw[p]at a;cases a
 constructor
 ·intro i;refine⟨List.nodup_append.2 ⟨h.1,bH,λa ha b n=>by simp at n;subst n;exact λe=>g (e▸ha)⟩,λz=>?_⟩;rw[F8,h.2 z];simp only[List.mem_singleton,l];constructor
  ·rintro(⟨j,rfl,d,c,f⟩|rfl);·exact⟨j,rfl,d,c,by rw[f];rfl⟩
   exact⟨k,rfl,o,i,bH⟩
  rintro⟨j,rfl,d,c,f⟩;by_cases e:j=k;·right;rw[e]
  left;refine⟨j,rfl,d,c,?_⟩;simpa[e]using f
 intro i;refine⟨h.1,λz=>?_⟩;rw[h.2 z];simp only[l];constructor;·rintro⟨j,rfl,d,c,f⟩;exact⟨j,rfl,d,c,by rw[f];rfl⟩
 rintro⟨j,rfl,d,c,f⟩;have e:j≠k:=λe=>by subst e;rw[i]at c;cases c
 refine⟨j,rfl,d,c,?_⟩;simpa[e]using f
theorem Fr.grownS{S M f w W}{b:QM}(h:Fr S M f f w W)(a:W.grownBy b (some S)):Fr S M f f w b:=
 ⟨a.os.trans h.os,a.tape.trans h.tape,a.output.trans h.output,Fx h.size a.size,λj c d e g=>by
  rw[a.block j (FG c h.size) (by simpa using d)]
  exact h.block j c d e g,h.made⟩
end Go.Proofs.YtdhegekcmmlohaaGreatDoor
namespace Go.Proofs
shelf_lay Lays.n189 Nm 189 at Tryz as Tryz.lays189
end Go.Proofs
namespace Go.Proofs.YtdhegekcmmlohaaGreatDoor
open Go.Proofs.Tryz Go.RowKit Go.Maps Go.Shelf Go.ChangeShapes Go.WideShapes Go.ChangeAt
variable {S:TypeId->Prop}{cf:Cf}{h:Hs}{vw:Value}{V V' V0 W:World}{G N X Y c i j:Nat}{A:Array Value}
theorem Dh:AE:=by
 intro v a W f h i;rcases h.2 with⟨rfl,j⟩|⟨g,b,c,rfl,k,d,l,m,o,p⟩;·have e0:a=[]:=Ik (by simpa using j);subst e0;refine(Any.slices_Sort_int_none Tryz.lays189 none 0 W).mono ?_;rintro e q⟨rfl,rfl⟩;exact⟨rfl,by simpa[Ns]using h,⟨rfl,rfl,rfl,Fv _,λ_ _ _=>rfl⟩⟩
 have r:c.toList.take a.length=a.map (Value.int .i64):=by simpa[Ns]using p
 refine(Any.slices_Sort_int Tryz.lays189 g 0 b a W (holds_of_blockI d r) (ag d) Z).mono ?_;rintro e q⟨rfl,n,s,rfl⟩;exact⟨rfl,ownsRow_sortedI (List.length_mergeSort a) k d l m o,grownBy_sortedI _⟩
theorem xi(a:AE)(S M)(nn:Nat)(bud f m w)(h:Im S M 0 nn bud f w)(b:Pg f m w):
  QA 107 #[J S 0] w λe w'=>∃v o,e=QJ (.tuple #[I (bm f 0 4096:Nat),v])/\w'.ownsRow w.heap.size 3 1 v o.length (Ns .i64 (o.mergeSort λx y=>decide (x<=y)))/\Met m (λ_=>false) o/\D w w':=by
 have⟨i0,a0,a1,a2,a3⟩:=G0 Tryz.info3Op;have⟨HI,HP,a4⟩:=Qe h b a;clear h b a;go_enter_defers func107,ntmps107;go_wp2_with fail;refine(fX HI).mono ?_;rintro e V⟨rfl,l⟩;have IV:=H (l▸HI.st 1);have PV:=H (show Pg f m V by rw[l];exact HP.other (λk b Q=>GQ _ _ _ _ (HP.apart HI Q).1));have O:=H (show Fr S M f f w V by rw[l];exact(Fr.refl S M f w).grownS (au (al w S) 0 _));have⟨a,d,a5,s,i,g⟩:=IV.only;have HD:=H (IT s (IT i g));have cM:V.cell? (Qz S 4)=some (.map (some M)):=by simp[QC,IV.box]
 have a9:bm f 0 4096<=4096:=ep f 0 4096;have a6:=H l;clear l s i g;go_wp2_with (at_range;refine wpList_range_own _ rfl _ 247 rfl 3 285 g_ underlying247 ev M 4096 a rfl d ?_;intro w0 i l n)
 go_frame
 have MV:=H (show M<V.heap.size by obtain⟨p,g,Q,_⟩:=d;exact ag Q);have⟨B0,L,SZ⟩:=Qe ((Fu V.heap.size V).grown l (Fv _) bH) i (show V.heap.size+1<=w0.heap.size by omega);have M0:=H (show Met m (has a) []from⟨List.nodup_nil,λz=>by
  constructor;·intro g;cases g
  rintro⟨k,rfl,h1,h2,h3⟩;have⟨g,P⟩:=jR PV h2;rw[HD.2.1 k Z,P]at h3;cases h3⟩)
 have⟨r,p⟩:=Qb V.heap.size;rw[<-p]at L SZ⊢;have q:=H p;clear i l n d p;go_loopw [4] (λv wr=>∃(left:Lit->Bool)(F:Nat)(o:List Int),o.length+F<=bm f 0 4096/\Hid (wr.ranges prog 3 ev M r 4096 a left F)/\Hid (wr.ownsRow (r+1) 3 1 v o.length (Ns .i64 o))/\Hid (Met m left o)/\Hid (D V wr)) (λ_ wr=>wr.rangeLeft M r);case atStart=>exact⟨_,_,[],by simp[a5],L,H ⟨rfl,.inl ⟨rfl,rfl⟩⟩,M0,B0⟩
 case round=>
  have⟨left,F,o,b0,A,d,n,i⟩:=hrel;go_wp2_with (at_next;refine wpList_next_ranges _ rfl _ rfl 3 g_ ev (Value.int .i64) Et (λl kl hk=>by obtain⟨x,rfl,_⟩:=Maps.keyOf_int_inv underlying3 hk;exact⟨x,rfl⟩) (λv y hv=>by exact(hF hv).elim (λ⟨b,e,_⟩=>⟨some b,e⟩) (λ⟨e,_⟩=>⟨none,e⟩)) M r 4096 a left F rfl A ?_ ?_)
  ·intro K B;have X:=H (show Met m (λ_=>false) o from⟨n.1,λz=>by rw[n.2 z];simp[B]⟩);have G:=a4.out _ o wr (r+1) d Z;obtain⟨vp,vl,vc,rfl⟩:∃p l c,u4=.slice p l c:=by
    rcases d.2 with⟨rfl,_⟩|⟨g,Y,a7,rfl,_⟩;·exact⟨_,_,_,rfl⟩
    exact⟨_,_,_,rfl⟩
   have p:=cI d;have⟨T,W⟩:=y7 G p;clear G p K B A n;go_wp2_with fail;refine(T).mono ?_;rintro e R⟨rfl,G,K⟩;have B:=H (i.grown K i.size (λg e=>by have:=W.out g e;have:=q.out;omega));have⟨N,H5⟩:=y7 (IV.grown (W':=R) ⟨B.os,B.tape,B.output,B.size,λk h _=>B.block k h⟩) G;have c4:R.cell? (Qz S 4)=some (.map (some M)):=(by simp[QC,N.box]);clear G K i d;go_wp2_with (at_len;refine nj _ rfl _ rfl N rfl ?_);refine Iy (f:=167) (args:=#[J S 0]) bH (by simp[go_sem]) ?_;refine(Go.MuLone.unlock_deferred jw (Qz S 0) .returning _ (by simp[QC,N.box]) (by simp[QD,N.box])).mono ?_;rintro e u' a8⟨rfl,rfl,rfl⟩;have b4:S<r+1:=(by have:=q.out;have:=ag IV.box;omega);have G:=au (al R S) 0 (.int .i32 0);have T:=(N.st 0).box;refine⟨_,results_tmp2 (t:=2) (u:=3) dU _ _ _,_,o,rfl,dm (H5.kept G (.inr λe=>by have:=W.out _ e;omega)) ?_,X,⟨G.os.trans (B.os.trans O.os),G.tape.trans (B.tape.trans O.tape),G.output.trans (B.output.trans O.output),Fx (Fx O.size B.size) G.size,λk hk=>?_⟩⟩;·have:=q.out;have:=O.size;omega
   by_cases e:k=S;·subst e;rw[T,HI.box]
   have K:k<V.heap.size:=FG hk O.size;rw[G.block k (FG K B.size) (by simpa using e),B.block k K,a6,GQ _ _ _ _ e]
  intro x c kl yd yp w2 G K R hv s B T N W X;obtain⟨x',ex,rfl,_⟩:=Maps.keyOf_int_inv underlying3 K;cases ex;obtain⟨k,rfl,a7,Y⟩:=HD.2.2 _ (has_true_of_atKey s);have⟨g,P⟩:=Option.isSome_iff_exists.1 Y;have e1:=s .nil;rw[HD.1 k Z,P]at e1;obtain rfl:c=some g:=by
   cases c with
   |none=>simp[Et,ev]at hv;rw[<-hv.1]at e1;simp[sG]at e1
   |some b=>
    simp[Et,ev]at hv;rw[<-hv.1]at e1;simp[sG]at e1;have:b=g:=Z;rw[this]
  have⟨l,xs,hm,a8,Q⟩:=PV.cell P;have B2:=H (i.grown N i.size (λj e=>by cases e;have:=q.out;omega));have cl:w2.cell? (Qz g 1024)=some (.bool l):=NI B2 (PV.lockCell P hm).1;have R2:=H (d.kept N (.inr λe=>by have:=cI d _ e;omega));have⟨G2,ST,LE,S2⟩:=Qf B (n.step a7 R) (IT B.left_eq A.left_eq) W;have b4:=A.lt;unfold Et at X⊢;simp only[Hi]at X⊢;have ho:isOpen (m k) =!l:=by rw[hm];rfl
  clear K R hv s B N W Y P e1 Q a8 d n i A;cases l with
  |true=>
   go_wp2;go_roundw;(case rel=>exact⟨_,G,o,Z,G2,R2,ST.2 (by rw[ho];rfl),B2⟩);case measure=>rw[LE.1,LE.2];exact T
  |false=>
   have⟨A,B⟩:=y7 (R2.alloc (.cells #[I (k:Int)] 3)) (B2.alloc B2.size (.cells #[I (k:Int)] 3));go_wp2_with (at_builtin;refine Ib _ rfl _ _ 28 rfl (r+1) 3 i0 (I 0) 1 8 underlying28 a0 a1 a2 a3 rfl Z _ _ _ rfl A _ 1 1 [I (k:Int)] rfl rfl ?hc ?h1c ?b1 ?b2 ?b3 ?_);(case hc=>exact ek _ _ _ _ bH);(case h1c=>intro u K;simp at K;subst K;rfl);(case b1=>unfold maxLen;omega);(case b2=>omega);(case b3=>have:=S2.out;have:=q.out;simp;omega);intro R W i d _;have p:=cI A;have N:=H ((G2.alloc (.cells #[I (k:Int)] 3)).kept d (λe=>by have:=p _ e.symm;have:=MV.out;have:=q.out;omega) (λe=>by have:=p _ e.symm;omega));have Y:=H (B.grown d B.size (λj e=>by have:=p _ e;have:=q.out;omega));have O3:=H (show W.ownsRow (r+1) 3 1 R (o++[(k:Int)]).length (Ns .i64 (o++[(k:Int)])) by rw[FC];simpa[Ns]using i);have n:=H N.left_eq;clear i d p;go_wp2;go_roundw;(case rel=>exact⟨_,G,o++[(k:Int)],by rw[FC];simp;omega,N,O3,ST.1 (by rw[ho];rfl),Y⟩);case measure=>rw[n,LE.2];exact T
theorem pK(S M bud f m w)(h:Im S M 0 283 bud f w)(j:Pg f m w)(a:∀k,283<=k->m k=none):
  QA 107 #[J S 0] w λe b=>∃v,e=QJ (.tuple #[I (bm f 0 4096:Nat),v])/\b.ownsRow w.heap.size 3 1 v (NN m 283).length (Ns .i64 (NN m 283))/\D w b:=by
 refine(xi Dh S M 283 bud f m w h j).mono ?_;rintro e b⟨v,c,rfl,d,g,l⟩;have i:(c.mergeSort λx y=>decide (x<=y))=NN m 283:=rY m 283 c g.1 (λz=>by
  rw[g.2 z];constructor
  ·rintro⟨k,rfl,h1,h2,_⟩;refine⟨k,rfl,?_,h2⟩;by_cases n:k<283;·exact n
   rw[a k Z]at h2;simp[isOpen]at h2
  rintro⟨k,rfl,h1,h2⟩;exact⟨k,rfl,Z,h2,rfl⟩)
 have k:c.length=(NN m 283).length:=by rw[<-i,List.length_mergeSort]
 rw[i,k]at d;exact⟨v,rfl,d,l⟩
def E_(cf:Cf)(h:Hs)(c:Nat)(p:Nat×Nat):List Value:=[Vl p.1 (h.mx c).length (h.mx c).length,Vl p.2 (h.ff c).length (h.ff c).length,I cf.fifo]
def mw(cf:Cf)(h:Hs)(ws:List (Nat×Nat)):List Value:=ws.zipIdx.flatMap λx=>E_ cf h x.2 x.1
theorem rD(cf h)(a:List (Nat×Nat))(p:Nat×Nat):mw cf h (a++[p])=mw cf h a++E_ cf h a.length p:=by
 unfold mw;rw[List.zipIdx_append,Gu];simp
theorem An:(prog.info? 113).map (λi=>(i.zero,i.size,i.bytes))=some (some (.agg #[C,C,I 0]),3,56):=E
theorem tX(W:QM)(B:Nat)(v:QN)(n:Nat)(p:List QN)(a b c:QN)(g q:Nat)(d:W.ownsRow B 113 3 v n p)(s:W.heap[g]?=some (.cells #[a,b,c] 113))(t:a.oneCell'=true)(w:b.oneCell'=true)(x:c.oneCell'=true)(L:n<=1000)(y:B<=W.heap.size):
  ∃f e,QI 37 v (Vl g 1 q) W f e/\e.ownsRow B 113 3 f (n+1) (p++[a,b,c])/\W.grownBy e v.ownBlock:=by
 have⟨z,i,k,l,m⟩:=G0 An;have o:∀j u,[a,b,c][j]?=some u->W.cell? (((Qz g 0):Addr).add j)=some u:=λj u A=>by
  rw[Addr.add_mid,Oi,GT _ _ j _ _ _ s];simpa using A
 have F:∀u∈[a,b,c],u.oneCell'=true:=λu r=>by
  simp only[F4,Gp,or_false]at r;rcases r with rfl|rfl|rfl;·exact t
  ·exact w
  exact x
 have⟨f,e,e1,G,K,_⟩:=Ia (P:=prog) W B 37 37 113 z _ 3 56 underlying37 i k l m rfl Z v _ _ d (Qz g 0) 1 q [a,b,c] rfl o F (by unfold maxLen;omega) Z y;exact⟨f,e,e1,G,K⟩
def tH:Prop:=∀(X:Nat)(t:Option Addr)(i j:Nat)(l:List Nat)(W:World)(base:Nat),W.heap[X]?=some (.cells #[.slice t i j] 39)->W.ownsRow base 27 1 (.slice t i j) l.length (Us l)->l.length<=1000 ->
 QA 112 #[.func (.func 176) #[] #[J X 0]] W λe W'=>∃v u,e=.returned v/\W'.ownsRow W.heap.size 27 1 v l.length (Us u)/\D W W'
theorem uS(a:QP)(b c:Nat)(W:QM):QA 113 #[.slice a b c] W λe d=>e=QJ (.func (.func 176) #[] #[J W.heap.size 0])/\d=W.alloc (.cells #[.slice a b c] 39):=by
 go_enter func113,ntmps113;go_wp2;go_ret;exact QB
structure Wt9(cf:Cf)(h:Hs)(base:Nat)(vo:QN)(ws:List (Nat×Nat))(vw:QN)(W:QM):Prop where
 row:W.ownsRow base 113 3 vw ws.length (mw cf h ws)
 at_:∀c p,ws[c]?=some p->RowV W p.1 3 (Ns .i64 (h.mx c))/\RowV W p.2 3 (Ns .i64 (h.ff c))/\base<=p.1/\p.1<p.2
 ord:ws.Pairwise λp q=>p.2<q.1
 vo:∀g,vo.ownBlock=some g->∀p∈ws,g<p.1
theorem Wt9.ky{base vo ws W'}(w:Wt9 cf h base vo ws vw W)(k:Ky S W W')(d:¬S 113)(b:¬S 3):Wt9 cf h base vo ws vw W':=
 ⟨ai w.row k d,λc p a=>⟨cL (w.at_ c p a).1 k b,cL (w.at_ c p a).2.1 k b,(w.at_ c p a).2.2⟩,w.ord,w.vo⟩
theorem Wt9.below{cf h base vo ws vw W W'}(w:Wt9 cf h base vo ws vw W)(b:D W W'):Wt9 cf h base vo ws vw W':=w.ky (Ky.below b:Ky (λ_=>False) W W') (λe=>e) (λe=>e)
theorem Wt9.add{base vo ws U}(w:Wt9 cf h base vo ws vw V)(l:base<=V.heap.size)(o:∀g,vo.ownBlock=some g->g<V.heap.size)(b:D V U){g1 g2}(x:RowV U g1 3 (Ns .i64 (h.mx ws.length)))(y:RowV U g2 3 (Ns .i64 (h.ff ws.length)))(r:V.heap.size<=g1)(s:g1<g2)(A:ws.length<=12):
  ∃m d,QI 37 vw (Vl U.heap.size 1 1) (U.alloc (.cells #[Vl g1 (h.mx ws.length).length (h.mx ws.length).length,Vl g2 (h.ff ws.length).length (h.ff ws.length).length,I cf.fifo] 113)) m d/\Wt9 cf h base vo (ws++[(g1,g2)]) m d/\Ky (· =113) V d/\Below base V d:=by
 have f:D U (U.alloc (.cells #[Vl g1 (h.mx ws.length).length (h.mx ws.length).length,Vl g2 (h.ff ws.length).length (h.ff ws.length).length,I cf.fifo] 113)):=(Fu _ _).alloc (Fv _) _;have n:=(w.below b).below f;have i:base<=(U.alloc (.cells #[Vl g1 (h.mx ws.length).length (h.mx ws.length).length,Vl g2 (h.ff ws.length).length (h.ff ws.length).length,I cf.fifo] 113)).heap.size:=Fx (Fx l b.size) f.size;have⟨m,d,e1,z,u⟩:=tX _ base vw ws.length (mw cf h ws) _ _ _ U.heap.size 1 n.row (ao U _) rfl rfl rfl Z i;have j:Ky (· =113) _ d:=Ky.grownO (λP t=>by obtain⟨_,c,k⟩:=aF n.row t;exact⟨c,113,_,k,rfl⟩) u;refine⟨m,d,e1,⟨?_,λc p a=>?_,?_,λg v p a=>?_⟩,((Ky.below b).trans (Ky.below f)).trans j,((b.mono l).trans (f.mono (Fx l b.size))).grown u i (λP t=>(aF n.row t).1)⟩;·rw[rD,FC];exact z
 ·by_cases k:c<ws.length;·rw[Ga k]at a;have:=n.at_ c p a;exact⟨cL this.1 j ar,cL this.2.1 j ar,this.2.2⟩
  have q:c=ws.length:=by have:=(Fz.1 a).1;simp at this;omega
  subst q;simp at a;subst a;exact⟨cL (cL x (Ky.below f:Ky (λ_=>False) _ _) (λe=>e)) j ar,cL (cL y (Ky.below f:Ky (λ_=>False) _ _) (λe=>e)) j ar,Fx l r,s⟩
 ·rw[Is];refine⟨w.ord,List.pairwise_singleton _ _,λp a q e=>?_⟩;have:=List.mem_singleton.1 e;subst this;have⟨c,k⟩:=He a;have:=(w.at_ c p k).2.1.lt;show p.2<g1;omega
 rcases F8.1 a with a|a;·exact w.vo g v p a
 have:=List.mem_singleton.1 a;subst this;have:=o g v;show g<g1;omega
def AI(_:Nat)(_:Ly)(_:Cf)(h:Hs)(_:World)(m:Array Value)(_:World):Prop:=(∀v∈m.toList,v.oneCell'=true)/\m[0]?=some (I (bz h.m 283:Nat))/\m[7]?=some (I h.used)
theorem EP{g t:Nat}{a b c d e f:QN}(h:V.heap[g]?=some (.cells #[a,b,c,d,e,f] t)):V.cell? (Qz g 0)=some a/\V.cell? (Qz g 1)=some b/\V.cell? (Qz g 2)=some c/\V.cell? (Qz g 3)=some d/\V.cell? (Qz g 4)=some e/\V.cell? (Qz g 5)=some f:=by
 refine⟨?_,?_,?_,?_,?_,?_⟩<;>(rw[GT _ _ _ _ _ _ h];rfl)
structure Me(W:QM)(X Y:Nat)(A:Array QN)(V:QM):Prop where
 bel:D W V
 xb:V.heap[X]?=some Qv
 yb:V.heap[Y]?=some (.cells A 41)
 bx:W.heap.size<=X
 by_:W.heap.size<=Y
 ne:X≠Y
theorem Me.below(m:Me W X Y A V)(b:D V V'):Me W X Y A V':=
 ⟨m.bel.trans (b.mono m.bel.size),ae m.xb b,ae m.yb b,m.bx,m.by_,m.ne⟩
theorem Me.ky(m:Me W X Y A V)(k:Ky S V V')(h:¬S 41)(b:Below W.heap.size V V'):Me W X Y A V':=
 ⟨m.bel.trans b,k.cells _ _ _ _ m.xb h,k.cells _ _ _ _ m.yb h,m.bx,m.by_,m.ne⟩
theorem Me.set(m:Me W X Y A V)(i:Nat)(v:QN):Me W X Y (A.setIfInBounds i v) (V.setCell (Qz Y i) v)/\Ky (· =41) V (V.setCell (Qz Y i) v):=by
 have g:=au (al V Y) i v;refine⟨⟨m.bel.grown g m.bel.size (λr a=>by simp at a;have:=m.by_;omega),?_,?_,m.bx,m.by_,m.ne⟩,Ky.grown m.yb rfl g⟩;·rw[GQ _ _ _ _ m.ne];exact m.xb
 simp[World.setCell,FD,m.yb]
def E9(cf:Cf)(p:Value×Value):List Value:=[p.1,p.2,I cf.fifo]
def lE(cf:Cf)(ws:List (Value×Value)):List Value:=ws.flatMap (E9 cf)
theorem rA(cf)(a:List (QN×QN))(p:QN×QN):lE cf (a++[p])=lE cf a++E9 cf p:=by simp[lE]
structure Wt8(cf:Cf)(h:Hs)(W:QM)(ws:List (QN×QN))(vw:QN)(V:QM):Prop where
 row:V.ownsRow W.heap.size 113 3 vw ws.length (lE cf ws)
 at_:∀c p,ws[c]?=some p->V.ownsRow W.heap.size 3 1 p.1 (h.mx c).length (Ns .i64 (h.mx c))/\V.ownsRow W.heap.size 3 1 p.2 (h.ff c).length (Ns .i64 (h.ff c))
theorem Wt8.ky{ws}(w:Wt8 cf h W ws vw V)(k:Ky S V V')(d:¬S 113)(a:¬S 3):Wt8 cf h W ws vw V':=
 ⟨ai w.row k d,λc p b=>⟨ai (w.at_ c p b).1 k a,ai (w.at_ c p b).2 k a⟩⟩
theorem xP:(prog.info? 3).map (λi=>(i.zero,i.size,i.bytes))=some (some (I 0),1,8):=E
theorem zB(W:QM)(a:QP)(c:Nat):(Builtin.append_ #[28,28] 28 #[C,.slice a 0 c]).run prog W=.ok (C) W:=by
 have⟨g,b,d,e,f⟩:=G0 xP;cases a<;>simp[Builtin.append_,run_underlying underlying28,sizeOf,typeInfo,b,Builtin.lenOf,Builtin.firstCells,loadCells,loadCellsFrom]
theorem tO(W v l)(h:Wq W v l)(y:l.length<=90000):
  ∃a n c d e f b,v=.slice a n c/\QI 28 C (.slice a n c) W (.slice d e f) b/\b.ownsRow W.heap.size 3 1 (.slice d e f) l.length (Ns .i64 l)/\D W b:=by
 obtain⟨a,c,rfl,_,t⟩:=h;rcases t with⟨rfl,rfl⟩|⟨g,rfl,i⟩;·exact⟨none,0,c,none,0,0,W,rfl,zB W none c,⟨rfl,.inl ⟨rfl,rfl⟩⟩,Fu _ _⟩
 have⟨w,k,m,o,p⟩:=G0 xP;have⟨z,b,e1,q,x,_⟩:=Ia (P:=prog) W W.heap.size 28 28 3 w _ 1 8 underlying28 k m o p rfl Z (C) 0 [] ⟨rfl,.inl ⟨rfl,rfl⟩⟩ (Qz g 0) l.length c (Ns .i64 l) (by simp[Ns]) (λj u s=>by
  have r:j<(Ns .i64 l).length:=(Fz.1 s).1;rw[Addr.add_mid,Oi,i.cell j r];exact s) (λu a=>by
  simp only[Ns,FQ]at a;obtain⟨n,_,rfl⟩:=a;rfl) (by unfold maxLen;omega) Z (Fv _)
 rw[Oi,FV]at q;obtain⟨d,e,f,rfl⟩:=aA q;exact⟨_,_,_,d,e,f,b,rfl,e1,q,(Fu _ W).grown x (Fv _) (λr i=>by simp[Value.ownBlock]at i)⟩
theorem Wt8.add{B x ws}(w:Wt8 cf h W ws vw V)(s:D W V)(N:∀V,D W V->Sh B x cf h V)(r:c<12)(X:ws.length=c)(Y:(h.mx c).length<=100/\(h.ff c).length<=100){O P:QP}{Q R:Nat}(G:x.mv c=.slice O (h.mx c).length Q)(K:x.fv c=.slice P (h.ff c).length R):
  ∃f g i m j k l b y z A a,QI 28 C (.slice O (h.mx c).length Q) V (.slice f g i) m/\QI 28 C (.slice P (h.ff c).length R) m (.slice j k l) b/\QI 37 vw (Vl b.heap.size 1 1) (b.alloc (.cells #[.slice f g i,.slice j k l,I cf.fifo] 113)) (.slice y z A) a/\D V m/\D V b/\D V (b.alloc (.cells #[.slice f g i,.slice j k l,I cf.fifo] 113))/\(b.alloc (.cells #[.slice f g i,.slice j k l,I cf.fifo] 113)).grownBy a vw.ownBlock/\Ky (· =113) (b.alloc (.cells #[.slice f g i,.slice j k l,I cf.fifo] 113)) a/\Wt8 cf h W (ws++[(.slice f g i,.slice j k l)]) (.slice y z A) a/\D W a:=by
 have⟨b1,b2,b3,f,g,i,m,S,e1,o1,l1⟩:=tO V (x.mv c) (h.mx c) ((N V s).wm c r).1 Z;rw[G]at S;cases S;have t:D W m:=s.trans (l1.mono s.size);have⟨b4,b5,b6,j,k,l,b,T,e2,o2,l2⟩:=tO m (x.fv c) (h.ff c) ((N m t).wm c r).2 Z;rw[K]at T;cases T;have n:D V b:=l1.trans (l2.mono l1.size);have L:D b (b.alloc (.cells #[.slice f g i,.slice j k l,I cf.fifo] 113)):=(Fu _ _).alloc (Fv _) _;have o:=n.trans (L.mono n.size);have F:=w.ky (Ky.below o:Ky (λ_=>False) _ _) (λe=>e) (λe=>e);have q:D W (b.alloc (.cells #[.slice f g i,.slice j k l,I cf.fifo] 113)):=s.trans (o.mono s.size);have⟨v',a,f1,f2,f3⟩:=tX _ W.heap.size vw ws.length (lE cf ws) _ _ _ b.heap.size 1 F.row (ao b _) rfl rfl rfl Z q.size;obtain⟨y,z,A,rfl⟩:=aA f2;have u:Ky (· =113) _ a:=Ky.grownO (λP e=>by obtain⟨_,c,r⟩:=aF F.row e;exact⟨c,113,_,r,rfl⟩) f3;refine⟨f,g,i,m,j,k,l,b,y,z,A,a,e1,e2,f1,l1,n,o,f3,u,⟨?_,λd p v=>?_⟩,q.grown f3 q.size (λr a=>(aF F.row a).1)⟩;·rw[rA,FC];exact f2
 by_cases hd:d<ws.length;·rw[Ga hd]at v;have:=F.at_ d p v;exact⟨ai this.1 u ar,ai this.2 u ar⟩
 have M:d=ws.length:=by have:=(Fz.1 v).1;simp at this;omega
 subst M;simp at v;subst v;rw[X];exact⟨ai (aN (ax (ax o1 l2) L) s.size) u ar,ai (aN (ax o2 L) t.size) u ar⟩
theorem qj(x:Nat)(W:QM):QA 227 #[.int .u64 (x:Nat)] W λe a=>e=QJ Qk/\a=W:=by
 go_enter func227,ntmps227;go_wp2;go_ret;exact QB
def aQ(x y:Nat):Bool:=decide (x<y)
structure Au(G N c:Nat)(V0:QM)(d:Array Nat)(V:QM):Prop where
 sz:d.size=N
 row:V.ownsRow G 27 1 (Vl G N c) N (Us d.toList)
 bel:Below G V0 V
variable {G N c:Nat}{V0 V:World}{d:Array Nat}
theorem Au.lt(h:Au G N c V0 d V):G<V.heap.size:=by
 rcases h.row.2 with⟨e,_⟩|⟨g,a,b,e,i,f,_⟩;·cases e
 cases e;exact ag f
theorem Au.cell(h:Au G N c V0 d V){i:Nat}(a:i<N):V.cell? (Qz G i)=some (U ((d[i]!:Nat):Int)):=by
 refine bC h.row i _ (ny ?_);have:i<d.size:=by rw[h.sz];exact a
 rw[Gg,Hw this,getElem!_pos d i this]
theorem Au.fz(h:Au G N c V0 d V)(i:Nat):V.frozen? (Qz G i)=false:=oG h.row i
theorem Au.set(h:Au G N c V0 d V)(a:i<N)(x:Nat):Au G N c V0 (d.setIfInBounds i x) (V.setCell (Qz G i) (U x)):=by
 refine⟨by rw[Array.size_setIfInBounds,h.sz],?_,h.bel.setCell (Fv _) _⟩;have:=dP h.row i (by rw[fK,Array.length_toList,h.sz];exact a) (U x);rw[sg]at this;rw[Array.toList_setIfInBounds];exact this
theorem Au.swap(h:Au G N c V0 d V)(a:i<N)(b:j<N):Au G N c V0 (Sort.swp d i j) ((V.setCell (Qz G i) (U ((d[j]!:Nat):Int))).setCell (Qz G j) (U ((d[i]!:Nat):Int))):=(h.set a _).set b _
theorem Au.below(h:Au G N c V0 d V)(b:D V V'):Au G N c V0 d V':=⟨h.sz,ax h.row b,h.bel.trans (b.mono (Nat.le_of_lt h.lt))⟩
theorem Au.drew(h:Au G N c V0 d V):Au G N c V0 d V.drew:=h.below (Fu _ _).drew
theorem Au.sw1(h:Au G N c V0 d V)(a:i<N)(b:j<N):∃u,(V.setCell (Qz G i) (U ((d[j]!:Nat):Int))).cell? (Qz G j)=some (U ((u:Nat):Int)):=⟨_,(h.set a _).cell b⟩
theorem pG(x y:Nat)(W:QM):QA 280 #[U x,U y] W λe d=>e=QJ (.bool (aQ x y))/\d=W:=by
 have b:=H qj;unfold aQ;by_cases c:x<y
 ·have a:(x:Int)<(y:Int):=Z;rw[G8 c];go_enter func280,ntmps280;go_wp2_with (refine(b _ _).mono ?_;rintro e f⟨rfl,rfl⟩);go_ret;exact QB
 have a:¬((x:Int)<(y:Int)):=Z;rw[GR c];go_enter func280,ntmps280;go_wp2_with (refine(b _ _).mono ?_;rintro e f⟨rfl,rfl⟩);go_ret;exact QB
theorem Au.drewN(h:Au G N c V0 d V)(n:Nat):Au G N c V0 d (V.drewN n):=by
 exact h.below ⟨rfl,rfl,rfl,Fv _,λ_ _=>rfl⟩
def AnyU(G N c:Nat)(V0 V:World):Prop:=∃d,Au G N c V0 d V
theorem AnyU.at(h:AnyU G N c V0 V)(a:i<N):∃x:Nat,V.cell? (Qz G i)=some (U x):=by
 have⟨d,h⟩:=h;exact⟨_,h.cell a⟩
theorem AnyU.below{G N c V0 V V'}(h:AnyU G N c V0 V)(b:D V V'):AnyU G N c V0 V':=by
 have⟨d,h⟩:=h;exact⟨d,h.below b⟩
theorem AnyU.dN(h:AnyU G N c V0 V)(n:Nat):AnyU G N c V0 (V.drewN n):=by
 have⟨d,h⟩:=h;exact⟨d,h.drewN n⟩
theorem AnyU.sw(h:AnyU G N c V0 V)(a:i<N)(b:j<N):∃x y u:Nat,QG V G i (U x)/\QG V G j (U y)/\V.frozen? (Qz G i)=false/\QG (V.setCell (Qz G i) (U y)) G j (U u)/\(V.setCell (Qz G i) (U y)).frozen? (Qz G j)=false/\Hid (AnyU G N c V0 ((V.setCell (Qz G i) (U y)).setCell (Qz G j) (U x)).drew):=by
 have⟨d,h⟩:=h;have⟨u,e⟩:=h.sw1 a b;exact⟨_,_,u,h.cell a,h.cell b,h.fz i,e,(h.set a _).fz j,H ⟨_,(h.swap a b).drew⟩⟩
theorem jN{x y}{b:Bool}(h:aQ x y=b)(W:QM):QA 280 #[U x,U y] W λe a=>e=QJ (.bool b)/\a=W:=h▸pG x y W
theorem Bj(G N c)(a b:Nat)(V0 V)(A:AnyU G N c V0 V)(O:b<=N)(P:N<=100000)(ha:a<=N):
  QA 274 #[.slice (some (Qz G 0)) N c,I a,I b] V λe V'=>e=QJ (.tuple #[])/\AnyU G N c V0 V':=by
 have d:=H A;clear A;go_enter func274,ntmps274;go_wp2_with fail;go_loopw [6] (λg wr=>∃i:Nat,a+1<=i/\i<=N+1/\g=I i/\Hid (AnyU G N c V0 wr)) (λg _=>N+1-(intOf g).toNat);case atStart=>exact⟨a+1,Fv _,Z,aY,d⟩
 case round=>
  clear d;obtain⟨i,q,r,rfl,d⟩:=hrel;by_cases s:i<b
  ·go_wp2_with fail;go_loopw [7] (λl wr=>∃j:Nat,a<=j/\j<=i/\l=I j/\Hid (AnyU G N c V0 wr)) (λl _=>(intOf l).toNat);(case atStart=>exact⟨i,Z,Fv _,rfl,d⟩);case round=>
    clear d;obtain⟨j,t,v,rfl,d⟩:=hrel;by_cases w:a<j
    ·obtain⟨k,f⟩:∃k,j=k+1:=⟨j-1,Z⟩;have⟨x,m⟩:=d.at (show j<N by omega);have⟨y,n⟩:=d.at (show k<N by omega);have o:(a:Int)<(j:Int):=Z;have z:(j:Int)-1=(k:Int):=Z;have B:(j:Int)<(N:Int):=Z;have F:(k:Int)<(N:Int):=Z;clear f;cases p:aQ x y
     all_goals
      go_upto_region 4 with fail
      go_quiet (first|(go_at_call 280;exact GW (jN p _)))
      have f:=H (d.dN nq)
      clear d m n p
      generalize wr.drewN nq=K at f⊢
     ·go_wp2;go_roundw;(case rel=>exact⟨i+1,Z,Z,aY,f⟩);case measure=>exact QE
     ·have⟨x,y,u,m,n,f1,L,f0,M⟩:=f.sw (show j<N by omega) (show k<N by omega);(go_upto_region 6 with fail);go_region;clear m n f1 L f0;go_wp2;go_roundw;(case rel=>exact⟨k,Z,Z,aY,M⟩);case measure=>exact QE
    ·have o:decide ((a:Int)<(j:Int))=false:=GR Z;(go_upto_region 4 with fail);go_quiet (fail);have f:=H (d.dN nq);clear d;generalize wr.drewN nq=K at f⊢;go_wp2;go_roundw;(case rel=>exact⟨i+1,Z,Z,aY,f⟩);case measure=>exact QE
  ·have f:¬((i:Int)<(b:Int)):=Z;go_wp2;go_end0;exact⟨rfl,d⟩
attribute [local go_sem] Oper.semAt_some
theorem zI(l X q m:Nat)(Y:1<=m)(r:QP)(s g:Nat)(b:List Nat)(a t:List Nat->QM->Prop)(W:QM)
  (u:∀c(x:Nat)d,a c d->c.length<b.length->YieldAt Fence.wide (m-1) prog l #[U x] d λe f=>
   (e=QJ Ql/\a (c++[x]) f/\Below q d f)\/(e=QJ Qk/\t (c++[x]) f))
  (A:QG W X 0 (.slice r b.length s)) (j:W.ownsRow g 27 1 (.slice r b.length s) b.length (Us b)) (d:∀g,(Value.slice r b.length s).ownBlock=some g->g<q) (Q:b.length<=1000) (k:a [] W):
  CallsIn Fence.wide m prog 176 #[.func (.yield l) #[] #[],J X 0] W λe f=>(∃v,e=QJ v) /\
   ((∃g,g=b/\a g f)\/(∃c,c <+:b/\t c f)):=by
 have⟨n,c⟩:=Qa b.length;rw[c]at A j d Q u;have⟨R,B,S,F,T⟩:=Qg u j d c k;refine callsIn_of_wp func176 rfl trivial ?_ rfl;simp only[ntmps176,FX,FN,F1,Nat.reduceAdd,Nat.reduceSub,FP,FO,FY,Iv,FV,F5];gi_wp2
 gi_loopw [7] (λi wr=>∃k:Nat,k<=n/\i=I k/\Hid (a (b.take k) wr)/\Hid (Below q W wr)) (λi _=>n-(intOf i).toNat)
 case atStart=>exact⟨0,FH _,rfl,T,H (Fu _ _)⟩
 case round=>
  obtain⟨k,hk,rfl,v,K⟩:=hrel;by_cases w:k<n
  ·obtain⟨G,rfl⟩:=cr B Z;obtain⟨x,c⟩:∃x,b[k]?=some x:=⟨_,Fy (by rw[F];exact w)⟩;have ck:wr.cell? (Qz G k)=some (U x):=(K.cell (p:=(Qz G k)) (S G rfl)).trans (bC B k _ (ny c));have⟨fn,L,o,M,N,d⟩:=R.out (b.take k) x wr v (by rw[Hm];omega);have O:=H (show b.take (k+1)=b.take k++[x] by rw[F_,c];rfl);have y:=H d;gi_wp2;refine y.mono ?_;rintro e P(⟨rfl,d,j⟩|⟨rfl,c⟩)
   ·have z:=H (show a (b.take (k+1)) P by rw[O];exact d);have V:=H (K.trans j);gi_wp2;go_roundw;(case rel=>exact⟨k+1,Z,aY,z,V⟩);case measure=>exact QE
   have z:=H (show t (b.take (k+1)) P by rw[O];exact c);gi_wp2;refine GX (Ir rfl _ _ _) rfl ?_;exact⟨⟨_,rfl⟩,.inr ⟨_,List.take_prefix _ _,z⟩⟩
  obtain rfl:n=k:=Z;have c:=H (show b.take n=b by rw[<-F.out,G9]);gi_wp2;go_end0;exact⟨⟨_,rfl⟩,.inl ⟨b,rfl,by rw[<-c.out];exact v⟩⟩
theorem kH(X:Nat)(q:Option Addr)(r i:Nat)(f:List Nat)(w:World)(b:w.heap[X]?=some (.cells #[.slice q f.length r] 39))(a:w.ownsRow i 27 1 (.slice q f.length r) f.length (Us f))(M:f.length<=1000):
  CallsIn Fence.wide 5 prog 228 #[C,.func (.func 176) #[] #[J X 0]] w λe F=>∃v,e=.returned v/\F.ownsRow w.heap.size 27 1 v f.length (Us f)/\D w F:=by
 have⟨O,P,s,t,u⟩:=G0 iY;have⟨G,Q⟩:=y7 b a;have R:=H (show∀g,(Value.slice q f.length r).ownBlock=some g->g<w.heap.size from λg d=>by obtain⟨_,c,y⟩:=aF a d;exact ag y);clear b a;refine callsIn_of_wp_marks func228 rfl trivial ?_ rfl;simp only[ntmps228,FX,FN,F1,Nat.reduceAdd,Nat.reduceSub,FP,FO,FY,Iv,FV,F5];gi_wp2;have T:=Boxed.new w 39 (C);have g:D w (w.alloc (.cells #[C] 39)):=(Fu _ w).alloc (Fv _) _;refine wpIn_rangeFunc_ownG rfl Z (gf:=176) (lb:=#[J X 0]) rfl trivial (enters_of func176 E rfl)
  (encs:=λx:Nat=>#[U x]) (Kp:=Below w.heap.size) (S:=λL=>L=f) (Sp:=λb=>b <+:f) (N:=f.length) (w0:=w.alloc (.cells #[C] 39))
  (λl a e W d j j j k=>zI l X w.heap.size 4 Z q r i f a e W j ((d.cell (p:=(Qz X 0)) (by have:=ag G;simp;omega)).trans (by rw[GT _ _ _ _ _ _ (ae G g)];rfl)) (ax (ax Q g) (d)) R M k)
  belowK_t (belowK_b bH) (Fu _ _) (λ_=>rfl)
  (λb W=>(∃v,Boxed W w.heap.size 39 v/\W.ownsRow w.heap.size 27 1 v b.length (Us b)/\True)/\D w W)
  (λ_ _ _=>False)
  (OwnFrom.and (Own.from (holdsRow_own w.heap.size w.heap.size 39 27 1 (λb:List Nat=>b.length) (λb=>Us b) (λb v=>True)) _) (ownFrom_below (Fv _) bH))
  (λ_ _ _ _ _ a _ _=>a)
  ⟨⟨_,T,World.ownsRow_nil _ _ _ _,trivial⟩,g⟩
  (λx=>{tmps:=#[C,.func (.func 176) #[] #[J X 0],J w.heap.size 0,undef,C,U x,.func (.func 176) #[] #[J X 0],U x,undef,undef,undef,undef,undef],defers:=[]}) ?assign ?body ?done ?stop
 case assign=>
  intro l x W K k;gi_wp2;exact k
 case body=>
  rintro l b x W⟨⟨v,hv,d,_⟩,m⟩V;have y:=hv.cell;have Y:=m.size
  gi_wp2_with (gi_at_builtin;refine wpListIn_append_own _ rfl _ _ 39 rfl w.heap.size 27 O (U 0) 1 8 underlying39 P s t u rfl ar _ _ _ rfl (d.alloc _) (Qz W.heap.size 0) 1 1 [U x] rfl rfl (cell_one_new _ _ _) mL (by unfold maxLen;omega) Z bG ?_;intro v' w1 a j _;obtain⟨g',K,rfl⟩:=ownsRow_succ a;obtain⟨n,z,A,B,o⟩:=hv.appended ar d m.size (Fv _) a j;have a0:=n.cell;have a1:=n.frozen)
  exact⟨B.from _,o,⟨_,z,by simpa[Us]using A,trivial⟩,m.trans o⟩
 case done=>
  rintro a L W j rfl⟨⟨v,hv,d,_⟩,m⟩k;have y:=hv.cell;gi_wp2;refine⟨bH,.inl ⟨_,_,rfl,run_takeDeferred k,?_⟩⟩;exact⟨_,results_tmp rfl _ _ _,v,rfl,ownsRow_putObj d _ k rfl,m.trans (belowK_b (w:=w) (Fv _) W a _ _ (by simp at j;omega) k rfl rfl)⟩
 case stop=>
  rintro a c b W _ _ h _;exact h.elim
end Go.Proofs.YtdhegekcmmlohaaGreatDoor
namespace Go.Proofs.YtdhegekcmmlohaaGreatDoor
open Go.Proofs.Tryz Go.RowKit Go.Maps Go.Shelf Go.ChangeShapes Go.WideShapes Go.ChangeAt
end Go.Proofs.YtdhegekcmmlohaaGreatDoor
