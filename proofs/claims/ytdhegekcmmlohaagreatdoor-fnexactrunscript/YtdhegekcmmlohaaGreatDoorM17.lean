import Derived.Shelf.SlSortCmp.NoneTotal
import Derived.Test.YtdhegekcmmlohaaGreatDoorM15
import Derived.Test.YtdhegekcmmlohaaGreatDoorM16
set_option linter.unusedVariables false
set_option linter.unusedSimpArgs false
set_option maxRecDepth 20000
set_option maxHeartbeats 8000000
namespace Go.Proofs.YtdhegekcmmlohaaGreatDoor
open Go.Proofs.Tryz Go.RowKit Go.Maps Go.Shelf Go.ChangeShapes Go.WideShapes Go.ChangeAt
theorem A1(w:QM):(binOp .eql 39 (C) (C)).run prog w=.ok Ql w:=E
theorem Cm(x:Addr)(n c:Nat)(w:QM):(binOp .eql 39 (.slice (some x) n c) (C)).run prog w=.ok Qk w:=E
theorem oS(W:QM):QA 111 #[C] W λe a=>e=QJ (C)/\a=W:=by
 have e1:=A1;go_enter func111,ntmps111;go_wp2;go_ret;exact QB
theorem p_(x:Addr)(c:Nat)(l)(W:QM)(f:∀j u,(Us l)[j]?=some u->W.cell? (x.add j)=some u)(o:l.length<=100000):
  QA 111 #[.slice (some x) l.length c] W λe g=>∃v,e=QJ v/\g.ownsRow W.heap.size 27 1 v l.length (Us l)/\D W g:=by
 have b:D W (W.alloc (.cells #[] 27)):=(Fu _ _).alloc (Fv _) _;have⟨p,a,d,i,k⟩:=jQ (W.alloc (.cells #[] 27)) W.heap.size (Vl W.heap.size 0 0) [] l x c ⟨rfl,.inr ⟨W.heap.size,0,#[],rfl,Fv _,ao W _,Fv _,FH _,rfl,rfl⟩⟩ (λj u a=>NI b (f j u a)) (by simpa using o) b.size;have m:=H (IT i (b.grown k b.size (λr a=>by simp[Value.ownBlock]at a;omega)));generalize b:l.length=n at*;have e1:=Cm x n c;go_enter func111,ntmps111;go_wp2_with (at_builtin;refine cY rfl _ _ rfl rfl rfl rfl d ?_);go_wp2;go_ret;exact⟨_,rfl,by simpa[b]using m.1,m.2⟩
theorem xt(B v l W)(h:Um B W v l)(i:l.length<=100000):
  QA 111 #[v] W λe b=>∃a,e=QJ a/\b.ownsRow W.heap.size 27 1 a l.length (Us l)/\D W b:=by
 rcases h with⟨rfl,rfl⟩|⟨g,o,d,c,rfl,n,k,p,q,m⟩;·refine(oS W).mono ?_;rintro e b⟨rfl,rfl⟩;exact⟨_,rfl,⟨rfl,.inl ⟨rfl,rfl⟩⟩,Fu _ _⟩
 refine p_ (Qz g o) d l W (λj u f=>?_) i;have a:j<l.length:=by have:=(Fz.1 f).1;simpa[fK]using this
 rw[Addr.add_mid,GT _ _ _ _ _ _ k,m.2.2 j a,<-f];simp[Us,a]
theorem vO{d t:Nat}{V:QM}{a b c:QN}(h:V.heap[d]?=some (.cells #[a,b,c] t)):V.cell? (Qz d 0)=some a/\V.cell? (Qz d 1)=some b/\V.cell? (Qz d 2)=some c:=by
 refine⟨?_,?_,?_⟩<;>(rw[GT _ _ _ _ _ _ h];rfl)
end Go.Proofs.YtdhegekcmmlohaaGreatDoor
namespace Go.Proofs
open Go.Shelf Go.RowKit Go.Lib Go.Sort
shelf_lay_g SlLaysF0.n6 Slsf 6 at Tryz 170 as Tryz.sortR
end Go.Proofs
namespace Go.Proofs.YtdhegekcmmlohaaGreatDoor
open Go.Proofs.Tryz Go.RowKit Go.Maps Go.Shelf Go.ChangeShapes Go.WideShapes Go.ChangeAt
section
open Go.Shelf Go.RowKit Go.Lib Go.Sort
instance:Inhabited Rg9:= ⟨⟨0,0,0,0,0⟩⟩
def tq(x y:Rg9):Int:=Lib.compareInt (x.base:Nat) (y.base:Nat)
theorem Oh(x y:Rg9):ltOf tq x y=decide (x.base<y.base):=by
 unfold ltOf tq Lib.compareInt;by_cases a:x.base<y.base;·simp[a]
 ·by_cases b:y.base<x.base<;>simp[a,b]
theorem Ev:SWO (ltOf tq) where
 irrefl x:=by rw[Oh];simp
 trans x y z h1 h2:=by rw[Oh]at*;simp at*;omega
 ntrans x y z h1 h2:=by rw[Oh]at*;simp at*;omega
set_option maxHeartbeats 1000000 in
set_option maxHeartbeats 1000000 in
theorem sU(x y:Nat)(W:QM):QA 172 #[.int .u64 (x:Nat),.int .u64 (y:Nat)] W λe a=>e=QJ (.int .i64 (Lib.compareInt (x:Nat) (y:Nat)))/\a=W:=by
 have b:=H qj;unfold Lib.compareInt;by_cases c:(x:Int)<(y:Int)
 ·rw[GP c];go_enter func172,ntmps172;go_wp2_with fail;refine(b _ _).mono ?_;rintro e a⟨rfl,rfl⟩;go_wp2_with fail;refine(b _ _).mono ?_;rintro e a⟨rfl,rfl⟩;go_wp2;go_ret;exact QB
 ·rw[GO c];have f:decide ((x:Int)<(y:Int))=false:=GR c;by_cases d:(y:Int)<(x:Int)
  ·rw[GP d];go_enter func172,ntmps172;go_wp2_with fail;refine(b _ _).mono ?_;rintro e a⟨rfl,rfl⟩;go_wp2_with fail;refine(b _ _).mono ?_;rintro e a⟨rfl,rfl⟩;go_wp2;go_ret;exact QB
  ·rw[GO d];have g:decide ((y:Int)<(x:Int))=false:=GR d;go_enter func172,ntmps172;go_wp2_with fail;refine(b _ _).mono ?_;rintro e a⟨rfl,rfl⟩;go_wp2_with fail;refine(b _ _).mono ?_;rintro e a⟨rfl,rfl⟩;go_wp2;go_ret;exact QB
set_option maxHeartbeats 1000000 in
theorem zW(x y)(W:QM):QA 171 #[.agg (tC x).toArray,.agg (tC y).toArray] W λe b=>e=QJ (.int .i64 (tq x y))/\∃q a,b=grow (W.drewN q) a:=by
 have a:=H (λV=>sU x.base y.base V);unfold tq;generalize Lib.compareInt (x.base:Nat) (y.base:Nat)=r at*;unfold tC;go_enter func171,ntmps171;go_wp2_with fail;refine(a _).mono ?_;rintro e c⟨rfl,rfl⟩;go_wp2;go_ret;exact⟨rfl,0,_,by rw[alloc_eq_grow,alloc_eq_grow,grow_grow];rfl⟩
theorem yF(b c a:Nat)(w:QM):CmpLays prog 171 #[] tC 5 tq b c a w:=
 λ_ _ _ _ x y=>zW x y _
theorem Cv{w:QM}{g:Nat}{a:Array QN}{rs:List Rg9}(c:w.heap[g]?=some (.cells a 118))(i:a.toList.take (rs.length*5)=dH rs):HoldsK tC 5 w g 0 rs.toArray:=by
 intro j k;have b:j<rs.length*5:=by simpa using k
 refine⟨?_,by simp[QD,c]⟩;have d:j/5<rs.length:=Z;have e:(dH rs)[j/5*5+j%5]?=(tC rs[j/5])[j%5]?:=eC tC 5 (λ_=>rfl) rs (j/5) _ (Fy d) (j%5) Z;rw[show j/5*5+j%5=j by omega,<-i,Hf b,Gg]at e;rw[Oi,GT _ _ _ _ _ _ c,e,id,get_flatK _ _ _ _ (by simpa using b)];have f:j%5<(tC rs[j/5]).length:=by show j%5<5;omega
 rw[Fy f];congr 1;rw[getElem!_pos rs.toArray (j/5) (by simpa using d)];simp[f]
theorem pP{w:QM}{g n:Nat}{f:Array Obj}{a:Array QN}{e:QO}{b:Nat×Nat}(d:Array Rg9)(c:w.heap[g]?=some (.cells a e b)):
  (sortWorldK tC 5 w g 0 n d f).heap[g]?=some (.cells (putCells id 0 (flatK tC 5 d) a) e b):=by
 have i:g<w.heap.size:=(Array.getElem?_eq_some_iff.1 c).1;unfold sortWorldK putRowK;rw[heap_grow_old _ _ (by simpa using i)];simp[putRow,mapBlock,Sort.ahead,FD,c,onCells]
theorem kN{w:QM}{g n:Nat}{b:Array Obj}(d:Array Rg9):w.grownBy (sortWorldK tC 5 w g 0 n d b) (some g):=by
 unfold sortWorldK putRowK;refine⟨rfl,rfl,rfl,bH,λk c a=>?_⟩;rw[heap_grow_old _ _ (by simpa using c)];have:g≠k:=λe=>a (by rw[e])
 simp[putRow,mapBlock,Sort.ahead,FD,this]
theorem jC:∀rs:List Rg9,(dH rs).length=rs.length*5
 |[]=>rfl
 |r::rs=>by
  have:=jC rs
  unfold dH at this⊢
  rw[If,FC,this]
  simp[tC]
  omega
theorem uA(a:Array QN)(rs:List Rg9)(h:rs.length*5<=a.size):(putCells id 0 (flatK tC 5 rs.toArray) a).toList.take (rs.length*5)=dH rs:=by
 have g:(dH rs).length=rs.length*5:=jC rs;apply Ho;intro j;by_cases b:j<rs.length*5
 ·rw[Hf b,Gg];have d:j/5<rs.length:=Z;have e:(dH rs)[j/5*5+j%5]?=(tC rs[j/5])[j%5]?:=eC tC 5 (λ_=>rfl) rs (j/5) _ (Fy d) (j%5) Z;rw[show j/5*5+j%5=j by omega]at e;rw[e];have f:j%5<(tC rs[j/5]).length:=by show j%5<5;omega
  rw[Fy f];have c:=get_flatK tC 5 rs.toArray j (by simpa using b);rw[getElem!_pos rs.toArray (j/5) (by simpa using d)]at c;simp only[List.getElem_toArray]at c;rw[getElem!_pos _ j (by simpa using b),getElem!_pos _ (j%5) f]at c;simp[putCells,b,show j<a.size by omega];exact c
 ·rw[List.getElem?_take_eq_none Z,FJ Z]
theorem sX{d b:Array Rg9}(h:PermIn 0 d.size d b):b.toList.Perm d.toList:=by
 have a:=h.2.2;rw[<-h.1]at a;simp only[Array.extract_size]at a;rw[h.1]at a;simpa using a
end
theorem OM(G N c)(v j f:Nat)(V0 V)(A:AnyU G N c V0 V)(hb:f+j<=N)(hN:N<=100000)(w:v<=N):
  QA 303 #[.slice (some (Qz G 0)) N c,I v,I j,I f] V λe S=>e=QJ (.tuple #[])/\AnyU G N c V0 S:=by
 have i:=H A;clear A;go_enter func303,ntmps303;go_wp2_with fail;go_loopw [8] (λz wr=>∃r:Nat,r<=N/\z=I r/\Hid (AnyU G N c V0 wr)) (λz _=>N+1-(intOf z).toNat);case atStart=>exact⟨v,w,rfl,i⟩
 case round=>
  clear i;obtain⟨r,hr,rfl,i⟩:=hrel;have⟨b,d⟩:=Qb (2*r+1);have K:(2:Int)*(r:Int)+1=(b:Int):=Z;have HR:=H d;by_cases l:b≥j
  ·have T:(j:Int)<=(b:Int):=Z;clear d l;go_wp2;go_end0;exact⟨rfl,i⟩
  ·have T:¬((j:Int)<=(b:Int)):=Z;have⟨p,L⟩:=Qb (f+b);have⟨q,M⟩:=Qb (p+1);have⟨s,O⟩:=Qb (f+r);have⟨a,g⟩:=Qb (b+1);have X:(f:Int)+(b:Int)=(p:Int):=Z;have Y:(p:Int)+1=(q:Int):=Z;have a0:(f:Int)+(r:Int)=(s:Int):=Z;have P:(b:Int)+1=(a:Int):=Z;have a1:(f:Int)+(a:Int)=(q:Int):=Z;have a2:(p:Int)<(N:Int):=Z;have a3:(s:Int)<(N:Int):=Z;have⟨o,HQ⟩:=y7 (λW(A:AnyU G N c V0 W)=>A.sw (show s<N by omega) (show p<N by omega)) (IT d g);by_cases a4:a<j
   case' pos=>
    have m:(a:Int)<(j:Int):=Z;have t:(q:Int)<(N:Int):=Z;have B:=H (λW(A:AnyU G N c V0 W)=>A.sw (show s<N by omega) (show q<N by omega));have⟨x,F⟩:=i.at (show p<N by omega);have⟨y,R⟩:=i.at (show q<N by omega);clear d L M O g;cases n:aQ x y
    case' true=>
     clear o;have o:=B
    all_goals
     go_upto_region 3 with fail
     go_quiet (first|(go_at_call 280;exact GW (jN n _)))
     have k:=H (i.dN nq)
     clear i F R n
     generalize wr.drewN nq=Q at k⊢
   case' neg=>
    have m:decide ((a:Int)<(j:Int))=false:=GR Z;clear d L M O g;(go_upto_region 3 with fail);go_quiet (fail);have k:=H (i.dN nq);clear i;generalize wr.drewN nq=Q at k⊢
   all_goals
    have⟨x,y,u,B,F,_⟩:=o.out _ k
    cases n:aQ x y
    all_goals
     go_upto_region 5 with fail
     go_quiet (first|(go_at_call 280;exact GW (jN n _)))
     have t:=H (k.dN nq)
     clear k B F n
     generalize Q.drewN nq=R at t⊢
    ·go_wp2
     first|go_end0|((try simp only[Exit.inBlock,Exit.then]);refine GX (Ir rfl _ _ _) rfl ?_)
     exact⟨rfl,t⟩
    ·have⟨x,y,u,B,F,f1,y0,f0,R⟩:=o.out _ t;(go_upto_region 6 with fail);go_region;clear B F f1 y0 f0;have a5:=HQ.out;go_wp2;go_roundw;(case rel=>first|exact⟨b,Z,aY,R⟩|exact⟨a,Z,aY,R⟩);case measure=>exact QE
theorem zX(G N c)(a b:Nat)(V0 V)(A:AnyU G N c V0 V)(s:a<b)(S:b<=N)(r:N<=100000):
  QA 275 #[Vl G N c,I a,I b] V λe t=>e=QJ (.tuple #[])/\AnyU G N c V0 t:=by
 have⟨f,v⟩:=Qa (b-a);have w:(b:Int)-(a:Int)=(f:Int):=Z;have⟨m,g⟩:=Qb ((f-1)/2);have d:=H A;have T:((f:Int)-1).tdiv 2=(m:Int):=by
  rw[Ig Z];omega
 have n:m+1<=N:=Z;clear A g;go_enter func275,ntmps275;go_wp2_with fail;go_loopw [9] (λo wr=>∃(k:Nat)(z:Int),k<=N/\z=(k:Int)-1/\o=I z/\Hid (AnyU G N c V0 wr)) (λo _=>(intOf o+1).toNat);case atStart=>exact⟨m+1,m,n,Z,rfl,d⟩
 case round=>
  clear d;obtain⟨k,z,A,i,rfl,d⟩:=hrel;cases k with
  |succ k=>
   obtain rfl:z=(k:Int):=Z;have B:(0:Int)<=(k:Int):=Z;clear i;go_wp2_with fail;refine(OM G N c k f a V0 _ d Z r Z).mono ?_;rintro e F⟨rfl,j⟩;have l:=H j;clear j d;go_wp2;go_roundw;(case rel=>exact⟨k,(k:Int)-1,Z,rfl,aY,l⟩);case measure=>exact QE
  | zero=>
   have q:¬((0:Int)<=z):=Z;clear i;go_wp2_with fail;go_loopw [10] (λg wr=>∃(k:Nat)(z:Int),k<=f/\z=(k:Int)-1/\g=I z/\Hid (AnyU G N c V0 wr)) (λg _=>(intOf g+1).toNat);(case atStart=>exact⟨f,(f:Int)-1,Z,rfl,aY,d⟩);case round=>
    clear d;obtain⟨k,z,A,i,rfl,d⟩:=hrel;cases k with
    |succ k=>
     obtain rfl:z=(k:Int):=Z;have B:(0:Int)<=(k:Int):=Z;have⟨p,K⟩:=Qb (a+k);have L:(a:Int)+(k:Int)=(p:Int):=Z;have M:(p:Int)<(N:Int):=Z;have O:(a:Int)<(N:Int):=Z;have⟨x,y,u,P,Q,f1,R,f0,l⟩:=d.sw (show a<N by omega) (show p<N by omega);clear i d K;(go_upto_region 10 with fail);go_region;clear P Q f1 R f0;go_wp2_with fail;refine(OM G N c 0 k a V0 _ l Z r Z).mono ?_;rintro e F⟨rfl,j⟩;have K:=H j;clear j l;go_wp2;go_roundw;(case rel=>exact⟨k,(k:Int)-1,Z,rfl,aY,K⟩);case measure=>exact QE
    |zero=>
     have q:¬((0:Int)<=z):=Z;clear i;go_wp2;go_end0;exact⟨rfl,d⟩
theorem Bg(G N c)(a b:Nat)(V0 V)(A:AnyU G N c V0 V)(k:a<b)(z:b<=N)(B:N<=100000):
  QA 278 #[Vl G N c,I a,I b] V λe l=>e=QJ (.tuple #[])/\AnyU G N c V0 l:=by
 have⟨f,m⟩:=Qa (b-1);have n:(b:Int)-1=(f:Int):=Z;have d:=H A;go_enter func278,ntmps278;go_wp2_with fail;go_loopw [6,7] (λg b wr=>∃i j:Nat,i<=N/\j<N/\g=I i/\b=I j/\Hid (AnyU G N c V0 wr)) (λg _ _=>N+1-(intOf g).toNat);case atStart=>exact⟨a,f,Z,Z,rfl,rfl,d⟩
 case round=>
  obtain⟨i,j,A,F,rfl,rfl,d⟩:=hrel;by_cases o:i<j
  ·have p:(i:Int)<(j:Int):=Z;have q:(i:Int)<(N:Int):=Z;have r:(j:Int)<(N:Int):=Z;have⟨x,y,u,s,t,f1,v,f0,w⟩:=d.sw (show i<N by omega) (show j<N by omega);(go_upto_region 3 with fail);go_region;go_wp2;go_roundw;(case rel=>exact⟨i+1,j-1,Z,Z,aY,by congr 1;omega,w⟩);case measure=>exact QE
  have p:¬((i:Int)<(j:Int)):=Z;go_wp2;go_end0;exact⟨rfl,d⟩
def AnyB(G N c:Nat)(e:World)(S k:Nat)(V:World):Prop:=AnyU G N c e V/\G<S/\∃s:Nat,s<=k/\V.heap[S]?=some (.cells #[I s] 3)
theorem AnyB.inc{G N c V0 S k V}(h:AnyB G N c V0 S k V):∃s:Nat,s<=k/\V.cell? (Qz S 0)=some (I s)/\V.frozen? (Qz S 0)=false/\Hid (AnyB G N c V0 S (k+1) (V.setCell (Qz S 0) (I ((s+1:Nat):Int)))):=by
 obtain⟨⟨d,b⟩,e,s,f,a⟩:=h;have g:=au (al V S) 0 (I ((s+1:Nat):Int));refine⟨s,f,by simp[QC,a],by simp[QD,a],H ⟨⟨d,b.sz,ai b.row (Ky.grown (S:=(· =3)) a rfl g) ar,b.bel.trans ((Fu _ _).setCell (Nat.le_of_lt e) _)⟩,e,s+1,Z,by simp[World.setCell,FD,a]⟩⟩
theorem AnyB.dN{G N c V0 S k V}(h:AnyB G N c V0 S k V)(n:Nat):AnyB G N c V0 S (k+1) (V.drewN n):=by
 have⟨a,b,s,e,d⟩:=h;exact⟨a.dN n,b,s,Z,d⟩
theorem jK(G N c a b S k i f:Nat)(l V:QM)(A:AnyB G N c l S k V)(ha:i<=a/\a<f)(d:i<=b/\b<f)(B:f<=N)(F:N<=100000)(K:k<=100):
  QA 310 #[.slice (some (Qz G 0)) N c,.int .i64 a,.int .i64 b,.pointer (some (Qz S 0))] V λe r=>∃x y:Nat,e=QJ (.tuple #[.int .i64 (x:Nat),.int .i64 (y:Nat)])/\(i<=x/\x<f)/\(i<=y/\y<f)/\AnyB G N c l S (k+1) r:=by
 have t:(a:Int)<(N:Int):=Z;have u:(b:Int)<(N:Int):=Z;have⟨x,n⟩:=A.1.at (show a<N by omega);have⟨y,o⟩:=A.1.at (show b<N by omega);have⟨g,j⟩:=y7 A (IT ha d);cases p:aQ y x
 ·go_enter func310,ntmps310;go_upto_region 1 with fail
  go_quiet (first|(go_at_call 280;exact GW (jN p _)));have d:=H (g.dN nq);generalize V.drewN nq=v at d⊢;go_wp2;refine GX (b_ rfl _ _) rfl ?_;exact⟨a,b,rfl,j.1,j.2,d⟩
 ·go_enter func310,ntmps310;go_upto_region 1 with fail
  go_quiet (first|(go_at_call 280;exact GW (jN p _)));have d:=H (show AnyB G N c l S k (V.drewN nq)from⟨g.1.dN nq,g.2⟩);generalize V.drewN nq=v at d⊢;have⟨s,w,A,f1,q⟩:=d.inc;have⟨m,e1⟩:=Qa (s+1);rw[e1]at q;have z:(s:Int)+1=(m:Int):=Z;go_wp2;refine GX (b_ rfl _ _) rfl ?_;exact⟨b,a,rfl,j.2,j.1,q⟩
theorem kc(G N f a b e S k d c:Nat)(g V:QM)(A:AnyB G N f g S k V)(ha:d<=a/\a<c)(s:d<=b/\b<c)(t:d<=e/\e<c)(i:c<=N)(j:N<=100000)(F:k<=90):
  QA 305 #[Vl G N f,I a,I b,I e,J S 0] V λr u=>∃x:Nat,r=QJ (I x)/\(d<=x/\x<c)/\AnyB G N f g S (k+3) u:=by
 have n:=H A;go_enter func305,ntmps305;go_wp2_with fail;refine(jK G N f a b S k d c g _ n ha s i j Z).mono ?_;rintro r K⟨v,w,rfl,l,m,o⟩;have p:=H o;go_wp2_with fail;refine(jK G N f w e S (k+1) d c g _ p m t i j Z).mono ?_;rintro r L⟨x,M,rfl,n,y,o⟩;have q:=H o;go_wp2_with fail;refine(jK G N f v x S (k+2) d c g _ q l n i j Z).mono ?_;rintro r O⟨P,z,rfl,A,o,p⟩;have B:=H p;go_wp2;go_ret;exact⟨z,rfl,o,B⟩
theorem jV(G N b a S k d c:Nat)(e V:QM)(A:AnyB G N b e S k V)(j:d+1<=a)(ha:a+1<c)(l:c<=N)(m:N<=100000)(n:k<=90):
  QA 304 #[Vl G N b,I a,J S 0] V λr o=>∃x:Nat,r=QJ (I x)/\(d<=x/\x<c)/\AnyB G N b e S (k+3) o:=by
 have f:=H (kc G N b (a-1) a (a+1) S k d c e V A Z Z Z l m n);have⟨p,g⟩:=Qa (a-1);have⟨q,i⟩:=Qa (a+1);rw[g,i]at f;have s:(a:Int)-1=(p:Int):=Z;have t:(a:Int)+1=(q:Int):=Z;have u:q<=100000:=Z;go_enter func304,ntmps304;go_wp2_with fail;refine(f).mono ?_;rintro r w⟨x,rfl,i,g⟩;have v:=H g;go_wp2;go_ret;exact⟨x,rfl,i,v⟩
theorem yj(G N cp)(a b:Nat)(V0 V)(A:AnyU G N cp V0 V)(t:a+12<b)(f:b<=N)(g:N<=100000):
  QA 277 #[Vl G N cp,I a,I b] V λr u=>∃x h:Nat,r=QJ (.tuple #[I x,I h])/\(a<=x/\x<b)/\h<=2/\AnyU G N cp V0 u:=by
 have⟨l,o⟩:=Qa (b-a);have⟨c,m⟩:=Qa (l/4);have⟨i,p⟩:=Qa (a+c*1);have⟨j,q⟩:=Qa (a+c*2);have⟨k,s⟩:=Qa (a+c*3);have v:(b:Int)-(a:Int)=(l:Int):=Z;have w:(l:Int).tdiv 4=(c:Int):=by rw[Ig Z];omega
 have y:(l:Int)/4=(c:Int):=Z;have z:(a:Int)+(c:Int)=(i:Int):=Z;have B:(a:Int)+(c:Int)*2=(j:Int):=Z;have F:(a:Int)+(c:Int)*3=(k:Int):=Z;have P:(8:Int)<=(l:Int):=Z;have n:D V (V.alloc (.cells #[I 0] 3)):=(Fu _ _).alloc (Fv _) _;have e:=H (show AnyB G N cp V0 V.heap.size 0 (V.alloc (.cells #[I 0] 3))from⟨A.below n,by obtain⟨d,h⟩:=A;exact h.lt,0,Fv _,ao V _⟩);have Q:(a+1<=i/\i+1<b)/\(a+1<=j/\j+1<b)/\(a+1<=k/\k+1<b):=Z;go_enter func277,ntmps277;by_cases A:l≥50
 case' pos=>
  have m:(50:Int)<=(l:Int):=Z;go_wp2_with fail;generalize V.alloc _=K at e⊢;generalize V.heap.size=S at e⊢;refine(jV G N cp i S 0 a b V0 _ e Z Z f g Z).mono ?_;rintro r R⟨L,rfl,n,d⟩;have p:=H d;go_wp2_with fail;refine(jV G N cp j S 3 a b V0 _ p Z Z f g Z).mono ?_;rintro r T⟨M,rfl,o,d⟩;have q:=H d;go_wp2_with fail;refine(jV G N cp k S 6 a b V0 _ q Z Z f g Z).mono ?_;rintro r W⟨O,rfl,p,d⟩;have s:=H d;go_wp2_with fail;refine(kc G N cp L M O S 9 a b V0 _ s n o p f g Z).mono ?_
 case' neg=>
  have m:¬((50:Int)<=(l:Int)):=Z;go_wp2_with fail;generalize V.alloc _=K at e⊢;generalize V.heap.size=S at e⊢;refine(kc G N cp i j k S 0 a b V0 _ e Z Z Z f g Z).mono ?_
 all_goals
  rintro r q⟨x,rfl,d,o,_,s,L,p⟩
  have n:=H o
  have M:q.cell? (Qz S 0)=some (I s):=bJ p
  clear o p
  rcases(show s=0\/(s≠0/\s=12)\/(s≠0/\s≠12) by omega)with rfl|⟨_,rfl⟩|⟨e0,e1⟩
  all_goals
   try have o:¬((s:Int)=0):=Z
   try have p:¬((s:Int)=12):=Z
   go_wp2
   refine GX (b_ rfl _ _) rfl ?_
   first|exact⟨x,1,rfl,d,Z,n⟩|exact⟨x,2,rfl,d,Z,n⟩|exact⟨x,0,rfl,d,Z,n⟩
theorem Ba(a X:Nat)(b:X<18446744073709551616)(w:QM)(c:QG w a 0 (U X))(d:w.frozen? (Qz a 0)=false):
 QA 296 #[J a 0] w λe f=>e=QJ (U (Sort.xorNextN X:Nat))/\f=(w.setCell (Qz a 0) (U (Sort.xorNextN X:Nat))).drewN 3:=AnyF.xorshift_Next {Tryz.sortR with} a 0 X b w c d
theorem zC(n:Nat)(a:n<4611686018427387904)(w:QM):
 QA 295 #[I n] w λe b=>e=QJ (U ((1 <<< Sort.bitsLen n:Nat):Int))/\b=w:=AnyF.nextPowerOfTwo {Tryz.sortR with} n a w
theorem yo(G N cp)(a b:Nat)(V0 V)(A:AnyU G N cp V0 V)(a4:a+12<b)(hb:b<=N)(hN:N<=100000):
  QA 276 #[Vl G N cp,I a,I b] V λr V'=>r=QJ (.tuple #[])/\AnyU G N cp V0 V':=by
 have⟨l,v⟩:=Qa (b-a);have⟨M,c⟩:=Qa (1 <<< Sort.bitsLen l);have⟨i,e⟩:=Qa (l/4);have⟨j,g⟩:=Qa (a+i*2-1);have a5:1<=M/\M<=2*l:=by
  rw[<-c,Nat.one_shiftLeft];exact⟨Nat.one_le_two_pow,Sort.two_pow_bitsLen_le Z⟩
 have O:=H (λw=>zC l Z w);rw[c]at O;have⟨k,o⟩:=Qa (M-1);have P:(M:Int)-1=(k:Int):=Z;have a6:(b:Int)-(a:Int)=(l:Int):=Z;have a7:(l:Int).tdiv 4=(i:Int):=by rw[Ig Z];omega
 have a8:(l:Int)/4=(i:Int):=Z;have⟨s,p⟩:=Qa (a+i*2);have⟨m,q⟩:=Qa (a+i*2+1);have Q:(a:Int)+(i:Int)*2=(s:Int):=Z;have R:(s:Int)-1=(j:Int):=Z;have T:(s:Int)+1=(m:Int):=Z;have h8:(8:Int)<=(l:Int):=Z;have t:D V (V.alloc (.cells #[U l] 378)):=(Fu _ _).alloc (Fv _) _;have⟨n,f⟩:=y7 (A.below t) (ao V (.cells #[U l] 378));have W:G<V.heap.size:=by obtain⟨d,h⟩:=A;exact h.lt
 have hr:j+2=m/\m<b/\m<N/\k<200000/\l<=N/\a<=j:=Z;have X:a+l<=N:=Z;clear A t v c e g p q o;go_enter func276,ntmps276;go_wp2_with fail;generalize V.alloc _=W1 at n f⊢;generalize V.heap.size=S at f W⊢;refine(O _).mono ?_;rintro r A⟨rfl,rfl⟩;go_wp2_with fail;go_loopw [9] (λB wr=>∃t c r:Nat,t<=3/\j+t=c/\r<18446744073709551616/\B=I c/\Hid (wr.heap[S]?=some (.cells #[U r] 378))/\Hid (AnyU G N cp V0 wr)) (λB _=>j+4-(intOf B).toNat);case atStart=>exact⟨0,j,l,Z,rfl,Z,rfl,f,n⟩
 case round=>
  clear f n;obtain⟨t,c,r,ht,a0,F,rfl,f,n⟩:=hrel;by_cases a9:t<3
  ·have K:(c:Int)<=(m:Int):=Z;have⟨Y,e⟩:=Qa (Sort.xorNextN r);have x:=H (λw b g=>Ba S r F w b g);have v:Y<18446744073709551616:=by
    have:=(Sort.xorNext (UInt64.ofNat r)).toNat_lt;rw[Sort.xorNext_toNat,UInt64.toNat_ofNat_of_lt' (show r<2 ^ 64 by omega),e]at this;exact this
   rw[e]at x;have⟨o,y⟩:=Qa (Y &&& k);have b0:bits .and .u64 (Y:Int) (k:Int)=(o:Int):=(by rw[bits_and_u64_nat _ _ v Z,y]);have b1:o<=k:=(by rw[<-y];exact Nat.and_le_right);have c1:wr.cell? (Qz S 0)=some (U r):=bJ f;have f1:wr.frozen? (Qz S 0)=false:=(by simp[QD,f.out]);have z:=H (show AnyU G N cp V0 ((wr.setCell (Qz S 0) (U Y)).drewN 3)from by
    have⟨d,h⟩:=n.out;have g:=au (al wr S) 0 (U Y);exact AnyU.dN ⟨d,h.sz,ai h.row (Ky.grown (S:=(· =378)) f rfl g) ar,h.bel.trans ((Fu _ _).setCell (Nat.le_of_lt W) _)⟩ 3)
   have L:=H (show((wr.setCell (Qz S 0) (U Y)).drewN 3).heap[S]?=some (.cells #[U Y] 378)from by show(wr.setCell (Qz S 0) (U Y)).heap[S]?=_;simp[World.setCell,FD,f.out]);have⟨q,g⟩:=Qa (if o≥l then o-l else o);have CX:=H (x wr c1 f1);have a1:(c:Int)<(N:Int):=Z;have a2:q<l/\o<=k:=(by rw[<-g];split<;>omega);have⟨p,hp⟩:=Qa (a+q);have b2:(a:Int)+(q:Int)=(p:Int):=Z;have b3:(p:Int)<(N:Int):=Z;clear e y n f;go_wp2_with fail;refine(CX).mono ?_;rintro e A⟨rfl,x⟩;rw[<-x]at z L;clear x c1 f1;have⟨x,y,u,y1,y9,f1,y0,f0,A2⟩:=z.sw (show c<N by omega) (show p<N by omega);have S2:=H (show(((A.setCell (Qz G c) (U y)).setCell (Qz G p) (U x)).drew).heap[S]?=some (.cells #[U Y] 378) by
    show((A.setCell (Qz G c) (U y)).setCell (Qz G p) (U x)).heap[S]?=_;rw[GQ _ _ _ _ (show S≠G by omega),GQ _ _ _ _ (show S≠G by omega)];exact L)
   clear z L;by_cases z:o≥l
   case' pos=>
    rw[GP z]at g;have L:(l:Int)<=(o:Int):=Z;have a3:(o:Int)-(l:Int)=(q:Int):=Z
   case' neg=>
    rw[GO z]at g;subst g;have L:¬((l:Int)<=(o:Int)):=Z
   all_goals
    go_upto_region 10 with fail
    go_region
    clear y1 y9 f1 y0 f0
    go_wp2
    go_roundw
    case rel=>exact⟨t+1,c+1,Y,Z,Z,v,aY,S2,A2⟩
    case measure=>exact QE
  have K:¬((c:Int)<=(m:Int)):=Z;go_wp2;go_end0;exact⟨rfl,n⟩
section
open Go.Shelf Go.RowKit Go.Lib Go.Sort
theorem BE:tz:=by
 intro v rs W p h q;rcases h.2 with⟨rfl,r⟩|⟨g,c,k,rfl,s,l,t,u,y,z⟩;·have e0:rs=[]:=Ik r;subst e0;have a:=AnyF.slices_SortFunc_none Tryz.sortR none 0 (.func (.func 171) #[] #[]) W;change QA 170 _ _ _ at a;refine a.mono ?_;rintro e A⟨rfl,rfl⟩;exact⟨rfl,[],List.Perm.refl _,List.Pairwise.nil,h,⟨rfl,rfl,rfl,Fv _,λ_ _ _=>rfl⟩⟩
 have B:∀b w,(callFunc 171 b).run prog w=.ok (.enter 171 b) w:=enters_of func171 E rfl;have a:=AnyQ.slices_SortFunc Tryz.sortR 5 Tryz.isAgg118 Tryz.sizeOf118 tC (λ_=>rfl) (λx v hv=>by simp[tC]at hv;rcases hv with rfl|rfl|rfl|rfl|rfl<;>rfl) tq Ev 171 #[] g 0 c rs.toArray W B (yF g 0 rs.toArray.size W) (Cv l z) (ag l) bG;change QA 170 _ _ _ at a;simp only[FX]at a;refine a.mono ?_;rintro e A⟨rfl,b,n,K,w,x,rfl⟩;have f:b.toList.Perm rs:=by have:=sX (d:=rs.toArray) (by simpa using w);simpa using this
 have m:b.toList.length=rs.length:=f.length_eq;refine⟨rfl,b.toList,f,?_,⟨by rw[jC,m],.inr ⟨g,c,_,rfl,s,pP b l,t,u,by simp[putCells,y],?_⟩⟩,kN b⟩;·rw[II];intro i j F G o;have:=x i j (FH _) o Z;rw[Oh,getElem!_pos b i (by simpa using F),getElem!_pos b j (by simpa using G)]at this;simp at this;simpa using this
 have:=uA k b.toList (by rw[m];omega);rw[m]at this;simpa using this
end
section
variable {B Y:Nat}{y:Ly}{d:Dy}{cf:Cf}{h:Hs}{V W:World}
def lR(cf:Cf)(y:Ly):List Value:=(List.range 36).map λi=>Eu cf y (i/3) (i%3)
theorem Hp.range36(a:Hp B y d cf h W):W.rangeAt y.P 79 (lR cf y):=by
 intro j v hv;have b:j<36:=by have:=(Fz.1 hv).1;simpa[lR]using this
 rw[a.cell (79+j) Z _ rfl];unfold boxF;rw[GO Z,GO Z,GP Z,show 79+j-79=j by omega];rw[<-hv];simp[lR,b]
theorem EF(cf y)(k:Nat)(a:k<12)(w:QM):(Instr.index 151 (.agg (lR cf y).toArray) (I k)).run prog w=.ok (.agg #[J (y.qm k) 0,J (y.qg k) 0,lY cf.mix (y.qm k) (y.qg k)]) w:=by
 rcases(show k=0\/k=1\/k=2\/k=3\/k=4\/k=5\/k=6\/k=7\/k=8\/k=9\/k=10\/k=11 by omega)with rfl|rfl|rfl|rfl|rfl|rfl|rfl|rfl|rfl|rfl|rfl|rfl<;>kernel_rfl
theorem bL{a b c d e f g i:QN}(h:V.heap[Y]?=some (.cells #[a,b,c,d,e,f,g,i] 41)):V.cell? (Qz Y 0)=some a/\V.cell? (Qz Y 1)=some b/\V.cell? (Qz Y 2)=some c/\V.cell? (Qz Y 3)=some d/\V.cell? (Qz Y 4)=some e/\V.cell? (Qz Y 5)=some f/\V.cell? (Qz Y 6)=some g/\V.cell? (Qz Y 7)=some i/\∀j,V.frozen? (Qz Y j)=false:=by
 refine⟨?_,?_,?_,?_,?_,?_,?_,?_,λj=>by simp[QD,h]⟩<;>(rw[GT _ _ _ _ _ _ h];rfl)
structure Mt9(B:Nat)(y:Ly)(d:Dy)(cf:Cf)(h:Hs)(W:QM)(X Y:Nat)(vo vs vw vr vl ve:QN)(ws:List (Nat×Nat))(rs:List Rg9)(V:QM):Prop where
 bel:D W V
 xb:V.heap[X]?=some Qv
 yb:V.heap[Y]?=some (.cells #[I (bz h.m 283),vo,vs,vw,vr,vl,ve,I h.used] 41)
 o:V.ownsRow W.heap.size 3 1 vo (NN h.m 283).length (Ns .i64 (NN h.m 283))
 s:V.ownsRow W.heap.size 111 5 vs (I1 h 12).length (fP h (I1 h 12))
 w:Wt9 cf h W.heap.size vo ws vw V
 r:V.ownsRow W.heap.size 118 5 vr rs.length (dH rs)
 rp:rs.Perm h.rg/\rs.Pairwise (λa b=>a.base<=b.base)
 bx:W.heap.size<=X
 by_:W.heap.size<=Y
 ne:X≠Y
theorem Mt9.below{B y d cf h W X Y vo vs vw vr vl ve ws rs V V'}(m:Mt9 B y d cf h W X Y vo vs vw vr vl ve ws rs V)(b:D V V'):Mt9 B y d cf h W X Y vo vs vw vr vl ve ws rs V':=
 ⟨m.bel.trans (b.mono m.bel.size),ae m.xb b,ae m.yb b,ax m.o b,ax m.s b,m.w.below b,ax m.r b,m.rp,m.bx,m.by_,m.ne⟩
theorem zZ{d:Nat}{a b c:QN}(h:V.heap[d]?=some (.cells #[a,b,c] 150)):V.cell? (Qz d 0)=some a/\V.cell? (Qz d 1)=some b/\V.cell? (Qz d 2)=some c:=by
 refine⟨?_,?_,?_⟩<;>(rw[GT _ _ _ _ _ _ h];rfl)
theorem C0(b:D W V)(o:Obj):∃Y,V.heap.size=Y/\D V (V.alloc o)/\(V.alloc o).heap[Y]?=some o/\W.heap.size<=Y:=⟨_,rfl,(Fu _ _).alloc (Fv _) _,ao V o,b.size⟩
theorem yO{c:Array QN}(h:V.heap[Y]?=some (.cells c 41))(a:Array QN):V.grownBy (V.setRow Y a) (some Y)/\Ky (· =41) V (V.setRow Y a)/\(V.setRow Y a).heap[Y]?=some (.cells a 41):=⟨aj V Y a,Ky.grown h rfl (aj V Y a),aw h a⟩
theorem Mt9.set{X vo vs vw vr vl ve ws rs}(m:Mt9 B y d cf h W X Y vo vs vw vr vl ve ws rs V)(i:Nat)(v a b:QN)(c:i=5/\a=v/\b=ve\/i=6/\a=vl/\b=v):Mt9 B y d cf h W X Y vo vs vw vr a b ws rs (V.setCell (Qz Y i) v)/\Ky (· =41) V (V.setCell (Qz Y i) v):=by
 have g:=au (al V Y) i v;have k:Ky (· =41) V (V.setCell (Qz Y i) v):=Ky.grown m.yb rfl g;refine⟨⟨m.bel.grown g m.bel.size (λr a=>by simp at a;have:=m.by_;omega),?_,?_,ai m.o k ar,ai m.s k ar,m.w.ky k ar ar,ai m.r k ar,m.rp,m.bx,m.by_,m.ne⟩,k⟩;·rw[GQ _ _ _ _ m.ne];exact m.xb
 rcases c with⟨rfl,rfl,rfl⟩|⟨rfl,rfl,rfl⟩<;>simp[World.setCell,FD,m.yb]
theorem Mt9.addW{X vo vs vw vr vl ve ws rs U}(m:Mt9 B y d cf h W X Y vo vs vw vr vl ve ws rs V)(b:D V U){g1 g2}(o:RowV U g1 3 (Ns .i64 (h.mx ws.length)))(p:RowV U g2 3 (Ns .i64 (h.ff ws.length)))(j:V.heap.size<=g1)(l:g1<g2)(q:ws.length<=12):
  ∃f a,QI 37 vw (Vl U.heap.size 1 1) (U.alloc (.cells #[Vl g1 (h.mx ws.length).length (h.mx ws.length).length,Vl g2 (h.ff ws.length).length (h.ff ws.length).length,I cf.fifo] 113)) f a/\f.oneCell'=true/\QG a Y 3 vw/\a.frozen? (Qz Y 3)=false/\Ky (· =113) V a/\Ky (λt=>t=113\/t=41) V (a.setCell (Qz Y 3) f)/\Mt9 B y d cf h W X Y vo vs f vr vl ve (ws++[(g1,g2)]) rs (a.setCell (Qz Y 3) f):=by
 have⟨f,a,e1,n,i,r⟩:=m.w.add m.bel.size (λg e=>by obtain⟨_,c,k⟩:=aF m.o e;exact ag k) b o p j l q;have c:=i.cells _ _ _ _ m.yb ar;have s:=i.cells _ _ _ _ m.xb ar;have g:=au (al a Y) 3 f;have k:Ky (· =41) a (a.setCell (Qz Y 3) f):=Ky.grown c rfl g;obtain⟨u,v,w,rfl⟩:=aA n.row;refine⟨_,a,e1,rfl,(bL c).2.2.2.1,(bL c).2.2.2.2.2.2.2.2 3,i,(i.more (λt e=>.inl e)).trans (k.more (λt e=>.inr e)),⟨(m.bel.trans r).grown g (Fx m.bel.size i.size) (λr a=>by simp at a;have:=m.by_;omega),?_,?_,ai (ai m.o i ar) k ar,ai (ai m.s i ar) k ar,n.ky k ar ar,ai (ai m.r i ar) k ar,m.rp,m.bx,m.by_,m.ne⟩⟩;·rw[GQ _ _ _ _ m.ne];exact s
 simp[World.setCell,FD,c]
theorem zj(e:tz)(m:tH):AH AI:=by
 intro B y d cf h k an W K i a;have⟨o,a2⟩:=y7 (λV(hV:D W V)=>K.below hV) a;have a7:h.rg.length<=400/\h.rel.length<=400/\h.row.length<=400:=by
  have b:=a.few.rg;have c:=a.few.rel;have f:=a.few.row;have g:=a.kk;omega
 have A:D W (W.alloc Qv):=(Fu _ _).alloc (Fv _) _;have⟨f,g⟩:=y7 (ao W Qv) (pK y.S y.M (cf.bud:Nat) d.f h.m _ (K.below A).sp (K.below A).pg a.inv.out);have c6:=(K.below A).cell 6 Z (J y.S 0) rfl;have b:=H (show(bm d.f 0 4096:Nat)=bz h.m 283 by
  rw[ke (λk=>K.pg.none_iff k) 4096];exact mn (n:=283) a.inv.out 3813)
 have⟨TS,TR,a8,c⟩:=Qf (λV(hV:D W V)=>pD B y d cf h V (K.below hV)) (λV(hV:D W V)=>nk e B y d cf h V (K.below hV) a.inv a7.1) m A;clear K i a A e m;go_enter func63,ntmps63;go_wp2_with fail;generalize W.alloc _=V0 at*;have⟨X,a⟩:=Qb W.heap.size;rw[<-a]at f⊢;have HX:=H (show W.heap.size<=X by omega);clear a;refine(g).mono ?_;rintro e L⟨vo,rfl,ho,b1⟩;obtain⟨oa,on,oc,rfl⟩:=aA ho;have⟨X1,O1,B1⟩:=Qe (ae f b1) (aN ho c.size) (c.trans (b1.mono c.size));rw[b];have a9:Hid (X<L.heap.size):=ag X1;clear ho b1 c6;go_upto_region 2 with fail
 have M:L.drew.cell? (Qz y.P 118)=some (I h.used):=(o _ B1.drew).cell 118 Z _ rfl;have⟨a3,a4,a5⟩:=Qe (show D W L.drew from B1.drew) (ae X1 (Fu _ L).drew) (ax O1 (Fu _ L).drew);go_cut [5] (λa b=>∃(Y:Nat)(vs vr:QN)(rs:List Rg9),a=J Y 0/\Hid (Mt9 B y d cf h W X Y (.slice oa on oc) vs (C) vr (C) (C) [] rs b));case first=>
  refine rh (S:=λW9=>QG W9 y.P 118 (I h.used)) ?_;generalize N:L.drew=V2 at M a3 a4 a5;have s:({heap:=L.heap,tape:=L.tape,drawn:=L.drawn+1,os:=L.os,output:=L.output}:QM)=V2:=N;rw[s];clear N s;have g:=a3;have i:=a4;have t:=a5;have j:=M;iterate 3 (refine py j ?_;simp only[f0,f1,Nat.reduceAdd,lz,l0,ls])
  refine pk 4 (J y.P 0) j ?_;refine pk 6 (J y.P 0) j ?_;refine pk 7 (J y.P 0) j ?_;refine pk 8 (J y.P 118) j ?_;refine pz 9 (I h.used) j ?_;refine lZ [3,11] λO l=>?_;rcases(by simpa using l:O=3\/O=11)with l|l
  case' inl=>
   subst l;refine cw λK' f=>?_;go_simp;refine(TS _ g).mono ?_;rintro e G⟨vs,rfl,hs,b⟩;obtain⟨sa,sn,sc,rfl⟩:=aA hs;have a:=NI b j;refine f _ _ ⟨a,?_⟩;clear j;have j:=a;have i:=H (ae i b);have t:=H (ax t b)
   try have m:=H (ax m b)
   try have q:=H (ax q b)
   (try have p:=H (ae p b));have⟨m,g⟩:=y7 (aN hs g.size) (g.trans (b.mono g.size));clear a hs b;clear f K';refine lZ [5,11] λO l=>?_;rcases(by simpa using l:O=5\/O=11)with l|l
   case' inl.inl=>
    subst l;refine cw λK' f=>?_;go_simp;refine(TR _ g).mono ?_;rintro e U2⟨vr,rs,rfl,u,w,F,b⟩;obtain⟨P,Q,R,rfl⟩:=aA F;have a:=NI b j;refine f _ _ ⟨a,?_⟩;clear j;have j:=a;have i:=H (ae i b);have t:=H (ax t b)
    try have m:=H (ax m b)
    try have q:=H (ax q b)
    (try have p:=H (ae p b));have⟨q,g,RP⟩:=Qe (aN F g.size) (g.trans (b.mono g.size)) (IT u w);clear a u w F b;clear f K';refine pz 10 (.agg #[I (bz h.m 283),.slice oa on oc,.slice sa sn sc,C,.slice P Q R,C,C,I h.used]) j ?_;refine po 11 λK' f=>?_;go_simp;have⟨Y,hY,b,x,z⟩:=C0 g Qv;rw[hY];have a0:=H (show X≠Y by have:=ag i;omega);have HY:=H z;have a:=NI b j;refine f _ _ ⟨a,?_⟩;clear j;have j:=a;have i:=H (ae i b);have t:=H (ax t b)
    try have m:=H (ax m b)
    try have q:=H (ax q b)
    (try have p:=H (ae p b));have⟨p,g⟩:=y7 x (g.trans (b.mono g.size));clear a b x z hY;clear f K'
   case' inl.inr=>
    subst l;refine cw λK' f=>?_;go_simp;have⟨Y,hY,b,x,z⟩:=C0 g Qv;rw[hY];have a0:=H (show X≠Y by have:=ag i;omega);have HY:=H z;have a:=NI b j;refine f _ _ ⟨a,?_⟩;clear j;have j:=a;have i:=H (ae i b);have t:=H (ax t b)
    try have m:=H (ax m b)
    try have q:=H (ax q b)
    (try have p:=H (ae p b));have⟨p,g⟩:=y7 x (g.trans (b.mono g.size));clear a b x z hY;clear f K';refine po 5 λK' f=>?_;go_simp;refine(TR _ g).mono ?_;rintro e U2⟨vr,rs,rfl,u,w,F,b⟩;obtain⟨P,Q,R,rfl⟩:=aA F;have a:=NI b j;refine f _ _ ⟨a,?_⟩;clear j;have j:=a;have i:=H (ae i b);have t:=H (ax t b)
    try have m:=H (ax m b)
    try have q:=H (ax q b)
    (try have p:=H (ae p b));have⟨q,g,RP⟩:=Qe (aN F g.size) (g.trans (b.mono g.size)) (IT u w);clear a u w F b;clear f K';refine pz 10 (.agg #[I (bz h.m 283),.slice oa on oc,.slice sa sn sc,C,.slice P Q R,C,C,I h.used]) j ?_
  case' inr=>
   subst l;refine cw λK' f=>?_;go_simp;have⟨Y,hY,b,x,z⟩:=C0 g Qv;rw[hY];have a0:=H (show X≠Y by have:=ag i;omega);have HY:=H z;have a:=NI b j;refine f _ _ ⟨a,?_⟩;clear j;have j:=a;have i:=H (ae i b);have t:=H (ax t b)
   try have m:=H (ax m b)
   try have q:=H (ax q b)
   (try have p:=H (ae p b));have⟨p,g⟩:=y7 x (g.trans (b.mono g.size));clear a b x z hY;clear f K';refine po 3 λK' f=>?_;go_simp;refine(TS _ g).mono ?_;rintro e G⟨vs,rfl,hs,b⟩;obtain⟨sa,sn,sc,rfl⟩:=aA hs;have a:=NI b j;refine f _ _ ⟨a,?_⟩;clear j;have j:=a;have i:=H (ae i b);have t:=H (ax t b)
   try have m:=H (ax m b)
   try have q:=H (ax q b)
   (try have p:=H (ae p b));have⟨m,g⟩:=y7 (aN hs g.size) (g.trans (b.mono g.size));clear a hs b;clear f K';refine po 5 λK' f=>?_;go_simp;refine(TR _ g).mono ?_;rintro e U2⟨vr,rs,rfl,u,w,F,b⟩;obtain⟨P,Q,R,rfl⟩:=aA F;have a:=NI b j;refine f _ _ ⟨a,?_⟩;clear j;have j:=a;have i:=H (ae i b);have t:=H (ax t b)
   try have m:=H (ax m b)
   try have q:=H (ax q b)
   (try have p:=H (ae p b));have⟨q,g,RP⟩:=Qe (aN F g.size) (g.trans (b.mono g.size)) (IT u w);clear a u w F b;clear f K';refine pz 10 (.agg #[I (bz h.m 283),.slice oa on oc,.slice sa sn sc,C,.slice P Q R,C,C,I h.used]) j ?_
  all_goals
   refine po 12 λK' f=>?_
   refine Ih 41 (.tmp 5) (.tmp 26) E Y #[I (bz h.m 283),.slice oa on oc,.slice sa sn sc,C,.slice P Q R,C,C,I h.used] E E 41 _ p E rfl mL ?_
   have⟨g9,T,y9⟩:=yO p #[I (bz h.m 283),.slice oa on oc,.slice sa sn sc,C,.slice P Q R,C,C,I h.used]
   have M0:=H (Mt9.mk (B:=B) (y:=y) (d:=d) (cf:=cf) (h:=h) (W:=W) (X:=X) (Y:=Y) (vo:=.slice oa on oc) (vs:=.slice sa sn sc) (vw:=C) (vr:=.slice P Q R) (vl:=C) (ve:=C) (ws:=[]) (rs:=rs) (g.grown g9 g.size (λr F=>by simp at F;have:=HY.out;omega)) (by rw[g9.block X (ag i) (by simpa using a0.out)];exact i) y9 (ai t T ar) (ai m T ar) ⟨⟨rfl,.inl ⟨rfl,rfl⟩⟩,(λc p K=>by simp at K),List.Pairwise.nil,(λg g p K=>by cases K)⟩ (ai q T ar) RP HX HY a0)
   have a:=(o _ M0.bel).cell 118 Z (I h.used) rfl
   refine f _ _ ⟨a,?_⟩
   clear j a g9 T y9 f K'
   refine bY ?_
   go_wp2_with fail
   go_meet
   case rel=>exact⟨Y,_,_,rs,rfl,M0⟩
 case rest=>
  obtain⟨Y,vs,vr,rs,rfl,M0⟩:=hcut;clear M;have g:=H (o _ M0.bel).range36;have a6:=H (λk a w=>EF cf y k a w);go_wp2_with (refine wpList_load_mid rfl 151 _ rfl _ _ rfl _ _ g underlying151 rfl E ?_);generalize a:(lR cf y).toArray=b5 at*;clear a;go_loopw [31] (λi wr=>∃(c:Nat)(vw:QN)(ws:List (Nat×Nat)),c<=12/\i=I c/\Hid (ws.length=c)/\Hid (Mt9 B y d cf h W X Y (.slice oa on oc) vs vw vr (C) (C) ws rs wr)) (λi _=>12-(intOf i).toNat);case atStart=>exact⟨0,_,[],Z,rfl,H rfl,M0⟩
  case round=>
   clear M0;obtain⟨c,vw,ws,hc,rfl,p,HM⟩:=hrel;by_cases a0:c<12
   ·have b2:(c:Int)<12:=Z;obtain⟨wa,wn,wc,rfl⟩:=aA HM.w.row;have g:=λw=>a6.out c a0 w
    obtain⟨tt,pp,a⟩:∃(tt:Nat)(pp:Nat),lY cf.mix (y.qm c) (y.qg c)=.iface tt (J pp 0):=by unfold lY;split<;>exact⟨_,_,rfl⟩
    rw[a]at g;have QT:=H (λV(hV:D W V)=>xd (y.qm c) (y.qr c) (y.qg c) (y.qq c) cf.fifo _ tt (Qz pp 0) (h.mx c) (h.ff c) V rfl ((o V hV).wt c a0) (by rw[a2.inv.mxl c a0];have:=a2.dok.mix;omega) (by have:=a2.dok.fifo;omega));have A:D wr (wr.alloc (.cells #[J (y.qm c) 0,J (y.qg c) 0,.iface tt (J pp 0)] 150)):=(Fu _ _).alloc (Fv _) _;have⟨M1,q⟩:=y7 (HM.below A) (ao wr (.cells #[J (y.qm c) 0,J (y.qg c) 0,.iface tt (J pp 0)] 150));clear HM A a;(go_upto_region 6 with fail);generalize wr.alloc _=V at M1 q⊢;have⟨a,t⟩:=Qa wr.heap.size;rw[t]at q⊢;clear t g;have⟨MD,z⟩:=y7 (M1.below (Fu _ V).drew) (ae q (Fu _ V).drew);have cA:=(bL MD.yb).2.2.2.1;refine rh (S:=λW9=>QG W9 a 0 (J (y.qm c) 0)/\QG W9 a 1 (J (y.qg c) 0)/\QG W9 a 2 (.iface tt (J pp 0))) ?_;generalize N:V.drew=V2 at MD z cA;have s:({heap:=V.heap,tape:=V.tape,drawn:=V.drawn+1,os:=V.os,output:=V.output}:QM)=V2:=N;rw[s];clear N s;have j:=zZ z;refine py j ?_;simp only[f0,f1,Nat.reduceAdd,lz,l0,ls];refine pz 2 (.agg #[J (y.qm c) 0,J (y.qg c) 0,.iface tt (J pp 0)]) j ?_;refine lZ [1,3] λO l=>?_;rcases(by simpa using l:O=1\/O=3)with l|l
    ·subst l;refine cw λK' f=>?_;go_simp;refine f _ _ ⟨j,?_⟩;clear f K';refine po 3 λK' f=>?_
     go_simp;refine(QT _ MD.bel).mono ?_;rintro e G⟨g1,g2,rfl,r1,r2,q,t,b⟩;unfold wv;have⟨v9,U2,g,u,b0,f39,T,x,m9⟩:=MD.addW b (by rw[p];exact r1) (by rw[p];exact r2) q t (by rw[p];omega);rw[p]at g;obtain⟨xa,xn,xc,rfl⟩:=aA m9.w.row;have cB:=NI b cA;have A:D G (G.alloc (.cells #[Vl g1 (h.mx c).length (h.mx c).length,Vl g2 (h.ff c).length (h.ff c).length,I cf.fifo] 113)):=(Fu _ _).alloc (Fv _) _;have cC:=NI A cB;have⟨ZU,ZA,Z9,a1,M9⟩:=Qg (zZ (ae z b)) (zZ (ae (ae z b) A)) (zZ (T.cells _ _ _ _ z ar)) (zZ (x.cells _ _ _ _ z ar)) m9;refine f _ _ ⟨ZU,?_⟩;clear j r1 r2 q t b A u T x m9;have j:=ZU.out;clear f K';refine po 4 λK' f=>?_;go_simp;refine f _ _ ⟨ZA,?_⟩;clear j;have j:=ZA.out;clear f K';refine po 5 λK' f=>?_
     refine aV 37 (.tmp 35) (.tmp 38) (v:=.slice wa wn wc) (v2:=Vl G.heap.size 1 1) E E E E g ?_;refine f _ _ ⟨Z9,?_⟩;clear j;have j:=Z9.out;clear f K';refine pk 6 (J Y 3) j ?_;refine po 7 λK' f=>?_;go_simp;refine f _ _ ⟨a1,?_⟩;clear j;clear f K';refine bY ?_;go_wp2;go_roundw
     (case rel=>exact⟨c+1,_,ws++[(g1,g2)],Z,aY,H (by rw[FC,p];rfl),M9⟩);case measure=>exact QE
    subst l;refine cw λK' f=>?_;go_simp;refine(QT _ MD.bel).mono ?_;rintro e G⟨g1,g2,rfl,r1,r2,q,t,b⟩;unfold wv;have⟨v9,U2,g,u,b0,f39,T,x,m9⟩:=MD.addW b (by rw[p];exact r1) (by rw[p];exact r2) q t (by rw[p];omega);rw[p]at g;obtain⟨xa,xn,xc,rfl⟩:=aA m9.w.row;have cB:=NI b cA;have A:D G (G.alloc (.cells #[Vl g1 (h.mx c).length (h.mx c).length,Vl g2 (h.ff c).length (h.ff c).length,I cf.fifo] 113)):=(Fu _ _).alloc (Fv _) _;have cC:=NI A cB;have⟨ZU,ZA,Z9,a1,M9⟩:=Qg (zZ (ae z b)) (zZ (ae (ae z b) A)) (zZ (T.cells _ _ _ _ z ar)) (zZ (x.cells _ _ _ _ z ar)) m9;refine f _ _ ⟨ZU,?_⟩;clear j r1 r2 q t b A u T x m9;have j:=ZU.out;clear f K';refine lZ [1,4] λO l=>?_
    rcases(by simpa using l:O=1\/O=4)with l|l
    ·subst l;refine cw λK' f=>?_;go_simp;refine f _ _ ⟨j,?_⟩;clear f K';refine po 4 λK' f=>?_
     go_simp;refine f _ _ ⟨ZA,?_⟩;clear j;have j:=ZA.out;clear f K';refine po 5 λK' f=>?_;refine aV 37 (.tmp 35) (.tmp 38) (v:=.slice wa wn wc) (v2:=Vl G.heap.size 1 1) E E E E g ?_;refine f _ _ ⟨Z9,?_⟩;clear j;have j:=Z9.out;clear f K';refine pk 6 (J Y 3) j ?_;refine po 7 λK' f=>?_
     go_simp;refine f _ _ ⟨a1,?_⟩;clear j;clear f K';refine bY ?_;go_wp2;go_roundw;(case rel=>exact⟨c+1,_,ws++[(g1,g2)],Z,aY,H (by rw[FC,p];rfl),M9⟩);case measure=>exact QE
    subst l;refine cw λK' f=>?_;go_simp;refine f _ _ ⟨ZA,?_⟩;clear j;have j:=ZA.out;clear f K';refine po 1 λK' f=>?_
    go_simp;refine f _ _ ⟨j,?_⟩;clear f K';refine po 5 λK' f=>?_;refine aV 37 (.tmp 35) (.tmp 38) (v:=.slice wa wn wc) (v2:=Vl G.heap.size 1 1) E E E E g ?_;refine f _ _ ⟨Z9,?_⟩;clear j;have j:=Z9.out;clear f K';refine pk 6 (J Y 3) j ?_;refine po 7 λK' f=>?_
    go_simp;refine f _ _ ⟨a1,?_⟩;clear j;clear f K';refine bY ?_;go_wp2;go_roundw;(case rel=>exact⟨c+1,_,ws++[(g1,g2)],Z,aY,H (by rw[FC,p];rfl),M9⟩);case measure=>exact QE
   obtain rfl:c=12:=Z;have⟨qa,qc,a⟩:=oz (o wr HM.bel).ro;have⟨ea,en,ec,g⟩:=aA (o wr HM.bel).rl;have u:wr.cell? (Qz y.P 116)=some (.slice qa h.row.length qc):=(by rw[<-a];exact(o wr HM.bel).cell 116 Z _ rfl);have CL:=H (xt B d.ro h.row wr (o wr HM.bel).ro Z);rw[a]at CL;have⟨b6,x⟩:=y7 a g;clear a g a0 hc;go_wp2_with fail;refine(CL).mono ?_;rintro e G⟨vl,rfl,hl,b1⟩;obtain⟨g,q,t,rfl⟩:=aA hl;have M1:=H (HM.below b1);have c5:=(bL M1.yb).2.2.2.2.2.1;have f5:=(bL M1.yb).2.2.2.2.2.2.2.2 5;have⟨a,k2⟩:=M1.set 5 (.slice g q t) (.slice g q t) (C) (.inl ⟨rfl,rfl,rfl⟩);have M2:=H a;have z:(G.setCell (Qz Y 5) (.slice g q t)).cell? (Qz y.P 117)=some (.slice ea en ec):=(by rw[<-x.out];exact(o _ a.bel).cell 117 Z _ rfl);clear hl b1 a k2 HM u;go_wp2_with fail;generalize G.setCell (Qz Y 5) (.slice g q t)=U2 at*;refine(uS ea en ec U2).mono ?_;rintro e U3⟨rfl,a⟩;have u:D U2 U3:=(by rw[a];exact(Fu _ _).alloc (Fv _) _);have z3:U3.heap[U2.heap.size]?=some (.cells #[.slice ea en ec] 39):=(by rw[a];exact ao _ _);have M3:=H (M2.below u);have SV:=H (a8 U2.heap.size ea en ec h.rel U3 B z3 (by rw[<-x.out];exact(o U3 M3.bel).rl) Z);clear a u z3 z c5 f5;go_wp2_with fail;refine(SV).mono ?_;rintro e U4⟨ve,es,rfl,u,b4⟩;obtain⟨xa,xn,xc,rfl⟩:=aA u;have M4:=H (M3.below b4);have c6:=(bL M4.yb).2.2.2.2.2.2.1;have f6:=(bL M4.yb).2.2.2.2.2.2.2.2 6;have⟨a,k5⟩:=M4.set 6 (.slice xa xn xc) (.slice g q t) (.slice xa xn xc) (.inr ⟨rfl,rfl,rfl⟩);have z:=H a;have⟨u0,u1,u2,u3,u4,u5,u6,u7,_⟩:=bL a.yb;have⟨wa,wn,a0,a1⟩:=aA a.w.row;have⟨sa,sn,sc,b0⟩:=aA a.s;have⟨P,Q,R,b2⟩:=aA a.r;subst a1 b0 b2;clear u b4 a k5;go_wp2_with (refine eG z.xb ?_);refine fM (aw z.xb _) underlying41 ?_;have ho:∀w∈[Value.int .i64 (bz h.m 283),.slice oa on oc,.slice sa sn sc,.slice wa wn a0,.slice P Q R,.slice g q t,.slice xa xn xc,I h.used],w.oneCell'=true:=mL;exact⟨_,_,_,_,_,_,_,_,rfl,ho,⟨ho,rfl,rfl⟩,z.bel.grown (aj _ _ _) z.bel.size (λr F=>by simp at F;have:=z.bx;omega)⟩
end
end Go.Proofs.YtdhegekcmmlohaaGreatDoor
