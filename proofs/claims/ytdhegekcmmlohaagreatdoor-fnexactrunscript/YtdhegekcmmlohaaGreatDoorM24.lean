import Derived.Lib.AppendIntMem
import Derived.Shelf.Lay
import Derived.Shelf.Strconv.Itoa3
import Derived.Shelf.Strings.BuilderK
import Derived.Shelf.Strings.FieldsFuncAny
import Derived.Shelf.Strings.IndexAnyAll
import Derived.Shelf.Strings.Split
import Derived.Stop.Asserts
import Derived.Test.YtdhegekcmmlohaaGreatDoorM05
set_option linter.unusedVariables false
set_option linter.unusedSimpArgs false
set_option maxRecDepth 20000
set_option maxHeartbeats 8000000
namespace Go.Proofs.YtdhegekcmmlohaaGreatDoor
open Go.Proofs.Tryz Go.RowKit Go.Maps Go.Shelf Go.ChangeShapes Go.WideShapes Go.ChangeAt
section
variable {B B1 base bb k most n:Nat}{T e:TypeId}{v z:Value}{W w:World}{xs:List Value}
def pQ(b:Nat):Nat:=if 48<=b/\b<=57 then b-48 else if 97<=b/\b<=102 then b-87 else if 65<=b/\b<=70 then b-55 else 16
def qF(base:Nat):List UInt8->Nat->Option Nat
 |[],n=>some n
 |c::r,n=>if pQ c.toNat<base/\n*base+pQ c.toNat<18446744073709551616 then qF base r (n*base+pQ c.toNat)else none
def dL(base most:Nat)(l:List UInt8):Option Nat:=if 1<=l.length/\l.length<=most then qF base l 0 else none
def C5(l:List UInt8):Nat:=match l with |[]=>0|c::_=>c.toNat
def tJ(l:List UInt8):Option Int:=if C5 l=45 then(dL 10 9 l.tail).map (λn:Nat=> -(n:Int))else(dL 10 9 l).map (λn:Nat=>(n:Int))
def yt(b:UInt8):Bool:=b.toNat==43 || b.toNat==45
def OY(l:List UInt8):Nat:=l.findIdx yt
def yZ(n:Nat):Nat:=(18446744073709551616-n)%18446744073709551616
def wj(l:List UInt8):Option (Nat×Nat):=
 (dL 10 3 (l.take (OY l))).bind λk=>if k=0 then none else if OY l=l.length then some (k,0)else(dL 10 9 (l.drop (OY l+1))).map (λn:Nat=>(k,if C5 (l.drop (OY l))=45 then yZ n else n))
def d_(l:List UInt8):Option (Nat×Nat):=if C5 l=36 then wj l.tail else(dL 10 20 l).map (λn:Nat=>(0,n))
def oK(l:List UInt8):Bool:=l.all λb=>pQ b.toNat<16
def iN(l:List UInt8):List Nat:=l.map λb=>pQ b.toNat
def mN:List Nat->List Nat
 |a::b::r=>(a*16+b)::mN r
 |_=>[]
def yf(l:List UInt8):Option Nat:=dL 16 16 l
def qG(l:List UInt8):Option (List Nat):=if l.length%2=0/\oK l/\0<l.length then some (mN (iN l))else none
theorem Mm(b):pQ b<=16:=by unfold pQ;split<;>(try split)<;>(try split)<;>omega
theorem JA(b):pQ b<10↔48<=b/\b<=57:=by unfold pQ;split<;>(try split)<;>(try split)<;>omega
theorem LH{b:Nat}(h:48<=b/\b<=57):pQ b=b-48:=by unfold pQ;rw[GP h]
theorem JI{base}: ∀(l:List UInt8)(n m:Nat),n<18446744073709551616->qF base l n=some m->m<18446744073709551616
 |[],n,m,a,h=>by simp[qF]at h;omega
 |c::r,n,m,a,h=>by
  unfold qF at h
  split at h
  ·rename_i b;exact JI r _ m b.2 h
  cases h
theorem tR{l}{m:Nat}(h:dL base most l=some m):m<18446744073709551616:=by
 unfold dL at h;split at h;·exact JI l 0 m Z h
 cases h
def rN(o:Option Nat):Value:=.tuple #[U ((o.getD 0:Nat):Int),.bool o.isSome]
theorem pL(s:ByteArray)(k:Nat)(h:k<s.size):s.data.toList.drop k=s[k]::s.data.toList.drop (k+1):=by
 rw[List.drop_eq_getElem_cons (by simpa using h)];rfl
theorem EO(s:ByteArray)(k:Nat)(h:k<s.size):s[k].toNat<256:=UInt8.toNat_lt _
theorem qI{c:UInt8}{r:List UInt8}(h:¬(pQ c.toNat<base/\n*base+pQ c.toNat<18446744073709551616)):qF base (c::r) n=none:=by
 rw[qF,GO h]
theorem sL{c:UInt8}{r:List UInt8}(h:pQ c.toNat<base/\n*base+pQ c.toNat<18446744073709551616):qF base (c::r) n=qF base r (n*base+pQ c.toNat):=by
 rw[qF,GP h]
theorem qN(s:ByteArray)(most:Nat)(w:QM)(u:s.size<=1048576)(v:most<=20):
  QA 37 #[.string s,I most] w λe q=>e=QJ (rN (dL 10 most s.data.toList))/\q=w:=by
 have⟨R,a⟩:=Qb (rN (dL 10 most s.data.toList));rw[<-a];have c:=H a;clear a;have r:s.data.toList.length=s.size:=bH;by_cases x:s.size<1
 ·go_enter func37,ntmps37;go_wp2
  go_ret2
  refine⟨?_,rfl⟩;rw[c,dL,GO Z];rfl
 by_cases y:most<s.size
 ·go_enter func37,ntmps37;go_wp2
  go_ret2
  refine⟨?_,rfl⟩;rw[c,dL,GO Z];rfl
 have a:=H (show dL 10 most s.data.toList=qF 10 s.data.toList 0 by rw[dL,GP Z]);go_enter func37,ntmps37;go_wp2;go_loopw [6,7] (λn i wr=>∃(k m:Nat),k<=s.size/\n=U m/\i=I k/\m<18446744073709551616/\Hid (qF 10 s.data.toList 0=qF 10 (s.data.toList.drop k) m)/\wr=w) (λ_ i _=>s.size-(intOf i).toNat);case atStart=>exact⟨0,0,Z,rfl,rfl,Z,H bH,rfl⟩
 case round=>
  obtain⟨k,m,z,rfl,rfl,t,hv,rfl⟩:=hrel;by_cases d:k<s.size
  ·have g:=H (pL s k d);have A:=EO s k d;by_cases B:s[k].toNat<48
   ·have f:((s[k].toNat:Nat):Int)<48:=Z;go_wp2
    go_ret2
    refine⟨?_,rfl⟩;rw[c,a,hv,g,qI (by rw[JA];omega)];rfl
   by_cases F:57<s[k].toNat
   ·have f:¬((s[k].toNat:Nat):Int)<48:=Z;have l:(57:Int)<((s[k].toNat:Nat):Int):=Z;go_wp2
    go_ret2
    refine⟨?_,rfl⟩;rw[c,a,hv,g,qI (by rw[JA];omega)];rfl
   have f:¬((s[k].toNat:Nat):Int)<48:=Z;have l:¬(57:Int)<((s[k].toNat:Nat):Int):=Z;have j:=LH (b:=s[k].toNat) Z;by_cases G:m*10+(s[k].toNat-48)<18446744073709551616
   ·have o:¬((18446744073709551615-(((s[k].toNat:Nat):Int)-48))/10<(m:Int)):=Z;have p:=H (hv.trans ((congrArg (qF 10 · m) g).trans (sL (by rw[j];omega))));rw[j]at p;clear j;go_wp2;go_roundw;(case rel=>exact⟨k+1,m*10+(s[k].toNat-48),Z,aY,aY,Z,p,trivial⟩);case measure=>exact QE
   have o:(18446744073709551615-(((s[k].toNat:Nat):Int)-48))/10<(m:Int):=Z;go_wp2
   go_ret2
   refine⟨?_,rfl⟩;rw[c,a,hv,g,qI (by rw[j];omega)];rfl
  go_wp2
  go_ret2
  refine⟨?_,rfl⟩;have g:k=s.size:=Z;have f:=hv.out;rw[g,<-r,List.drop_length]at f;rw[c,a,f];rfl
theorem ext_list(s:ByteArray)(a b:Nat):(s.extract a b).data.toList=(s.data.toList.drop a).take (b-a):=by
 simp[ByteArray.data_extract,Array.toList_extract,List.extract]
theorem ext_size(s:ByteArray)(a b:Nat):(s.extract a b).size=min b s.size-a:=bH
theorem sD(s:ByteArray):(s.extract 1 s.size).data.toList=s.data.toList.tail:=by
 rw[ext_list,<-List.drop_one];exact Ge bH
theorem vY(s:ByteArray)(h:0<s.size):C5 s.data.toList=s[0].toNat:=by
 have:=pL s 0 h;rw[IE]at this;rw[this];rfl
theorem xm(s:ByteArray)(h:¬0<s.size):s.data.toList=[]:=Ik (by rw[show s.data.toList.length=s.size by simp];omega)
theorem EI:∀(l:List UInt8)(n m:Nat),qF 10 l n=some m->m<(n+1)*10 ^ l.length
 |[],n,m,h=>by simp[qF]at h;subst h;simp
 | c::r,n,m,h=>by
  unfold qF at h
  split at h
  ·rename_i a
   have:=EI r _ m h
   refine FG this ?_
   rw[FN,Nat.pow_succ',<-Nat.mul_assoc]
   exact Gm _ Z
  cases h
theorem sO{l}{m:Nat}(h:dL 10 most l=some m):m<10 ^ most:=by
 unfold dL at h;split at h
 ·rename_i a;have:=EI l 0 m h;rw[Oi,GF]at this;exact FG this (Nat.pow_le_pow_right Z a.2)
 cases h
theorem xF(l):(dL 10 most l).getD 0<10 ^ most:=by
 cases h:dL 10 most l with
 |none=>simp;exact Nat.pow_pos Z
 |some m=>exact sO h
def rI(o:Option Int):Value:=.tuple #[I (o.getD 0),.bool o.isSome]
theorem MS(o:Option Nat):rI (o.map (λn:Nat=>(n:Int)))=.tuple #[I ((o.getD 0:Nat):Int),.bool o.isSome]:=by cases o<;>rfl
theorem MI(o:Option Nat):rI (o.map (λn:Nat=> -(n:Int)))=.tuple #[I (-((o.getD 0:Nat):Int)),.bool o.isSome]:=by cases o<;>rfl
theorem Kx(s:ByteArray)(w:QM)(m:s.size<=1048576):
  QA 40 #[.string s] w λe i=>e=QJ (rI (tJ s.data.toList))/\i=w:=by
 have⟨R,a⟩:=Qb (rI (tJ s.data.toList));rw[<-a];have j:=H a;by_cases f:C5 s.data.toList=45
 ·have g:0<s.size:=by
   by_cases g:0<s.size;·exact g
   rw[xm s g]at f;cases f
  have b:=H (show R=.tuple #[I (-(((dL 10 9 s.data.toList.tail).getD 0:Nat):Int)),.bool (dL 10 9 s.data.toList.tail).isSome] by rw[j,tJ,GP f,MI]);rw[vY s g]at f;have k:((s[0].toNat:Nat):Int)=45:=Z;have a:=qN (s.extract 1 s.size) 9 w (by rw[ext_size];omega) Z;rw[sD]at a;have c:=xF (most:=9) s.data.toList.tail;unfold rN at a;generalize (dL 10 9 s.data.toList.tail).getD 0=d at a c b;have l:d<1000000000:=c;generalize (dL 10 9 s.data.toList.tail).isSome=o at a b;go_enter func40,ntmps40;go_wp2_with (go_at_call 37;refine a.mono ?_;rintro e i⟨rfl,rfl⟩)
  go_ret2
  exact⟨by rw[b];rfl,rfl⟩
 have b:=H (show R=.tuple #[I (((dL 10 9 s.data.toList).getD 0:Nat):Int),.bool (dL 10 9 s.data.toList).isSome] by rw[j,tJ,GO f,MS]);have a:=qN s 9 w m Z;have c:=xF (most:=9) s.data.toList;unfold rN at a;generalize (dL 10 9 s.data.toList).getD 0=d at a c b;have l:d<1000000000:=c;generalize (dL 10 9 s.data.toList).isSome=o at a b;by_cases g:0<s.size
 ·rw[vY s g]at f;have k:¬((s[0].toNat:Nat):Int)=45:=Z;go_enter func40,ntmps40;go_wp2_with (go_at_call 37;refine a.mono ?_;rintro e i⟨rfl,rfl⟩)
  go_ret2
  exact⟨by rw[b];rfl,rfl⟩
 go_enter func40,ntmps40;go_wp2_with (go_at_call 37;refine a.mono ?_;rintro e i⟨rfl,rfl⟩)
 go_ret2
 exact⟨by rw[b];rfl,rfl⟩
def Nq(o:Option (Nat×Nat))(v:Value):Prop:=∃r p:Nat,r<1000/\p<18446744073709551616/\v=.tuple #[I r,U p,.bool o.isSome]/\∀x,o=some x->x=(r,p)
theorem AX{l:List UInt8}{j:Nat}{c:UInt8}(h:l.drop j=c::l.drop (j+1)):j+(l.drop j).findIdx yt=if yt c then j else j+1+(l.drop (j+1)).findIdx yt:=by
 rw[h,List.findIdx_cons];cases yt c<;>simp
 omega
theorem Lh(l):OY l<=l.length:=List.findIdx_le_length
theorem Dp(l):(dL base most l).getD 0<18446744073709551616:=by
 cases h:dL base most l with
 |none=>simp
 |some m=>exact tR h
theorem EG{d:Nat}(h:d<18446744073709551616):IntKind.u64.wrap (-(d:Int))=((yZ d:Nat):Int):=by
 simp[IntKind.wrap,IntKind.bits,IntKind.signed,yZ];omega
theorem IW(s:ByteArray)(w:QM)(k:s.size<=1048576)(j:¬C5 s.data.toList=36):
  QA 38 #[.string s] w λe f=>∃v,e=QJ v/\Nq (d_ s.data.toList) v/\f=w:=by
 have c:=qN s 20 w k Z;have d:=H (show d_ s.data.toList=(dL 10 20 s.data.toList).map (λn:Nat=>(0,n)) by rw[d_,GO j]);have g:=Dp (base:=10) (most:=20) s.data.toList;have⟨o,a⟩:=Qb (dL 10 20 s.data.toList);rw[<-a]at c d g;have b:∀v,v=rN o->∃r p:Nat,r<1000/\p<18446744073709551616/\(Value.tuple #[I 0,U ((o.getD 0:Nat):Int),.bool o.isSome])=.tuple #[I r,U p,.bool (d_ s.data.toList).isSome]/\∀x,d_ s.data.toList=some x->x=(r,p):=by
  intro v hv;refine⟨0,o.getD 0,Z,g,by rw[d];cases o<;>rfl,λx a=>?_⟩;rw[d]at a;cases o with
  |none=>cases a
  |some n=>simpa using a.symm
 have a:=H (b _ rfl);unfold rN at c;generalize o.getD 0=d at c g a;generalize o.isSome=b at c a;by_cases l:0<s.size
 ·rw[vY s l]at j;have m:¬((s[0].toNat:Nat):Int)=36:=Z;have i:((s.size:Int)==0)=false:=by rw[QF];omega
  go_enter func38,ntmps38;go_wp2_with (go_at_call 37;refine c.mono ?_;rintro e f⟨rfl,rfl⟩)
  go_ret3
  exact⟨_,rfl,a,rfl⟩
 have i:s.size=0:=Z;go_enter func38,ntmps38;go_wp2_with (go_at_call 37;refine c.mono ?_;rintro e f⟨rfl,rfl⟩)
 go_ret3
 exact⟨_,rfl,a,rfl⟩
theorem D8(s:ByteArray)(w:QM)(W:s.size<=1048576)(a:C5 s.data.toList=36):
  QA 38 #[.string s] w λe r=>∃v,e=QJ v/\Nq (d_ s.data.toList) v/\r=w:=by
 have L:0<s.size:=by
  by_cases L:0<s.size;·exact L
  rw[xm s L]at a;cases a
 have⟨t,c⟩:=Qb (s.extract 1 s.size);have P:t.size<=1048576:=by rw[c,ext_size];omega
 have⟨l,d⟩:=Qb t.data.toList;have b:s.data.toList.tail=l:=by rw[d,c,sD]
 have m:l.length=t.size:=by rw[d];simp
 have f:d_ s.data.toList=wj l:=by rw[d_,GP a,b]
 rw[f];clear f;rw[vY s L]at a;have Q:((s[0].toNat:Nat):Int)=36:=Z;have R:((s.size:Int)==0)=false:=by rw[QF];omega
 have⟨M,A⟩:=y7 c d;clear c d b a;go_enter func38,ntmps38;go_wp2;rw[<-M.out];go_loopw [7,8] (λc i wr=>∃(j k:Nat),j<=t.size/\i=I ((j:Int)-1)/\c=I (k:Int)/\Hid (k=j+(l.drop j).findIdx yt)/\wr=w) (λ_ i _=>(intOf i+1).toNat);case atStart=>exact⟨t.size,t.size,Fv _,by rw[M,ext_size];go_num,by rw[M,ext_size];go_num,H (by rw[<-m,List.drop_length];rfl),rfl⟩
 case round=>
  obtain⟨j,k,X,rfl,rfl,N,rfl⟩:=hrel;rcases j with _|j
  ·have a:k=OY l:=(by rw[N];simp[OY]);have S:k<=t.size:=(by rw[a,<-m];exact Lh l);have b:=H (show wj l=(dL 10 3 (l.take k)).bind λq=>if q=0 then none else if k=l.length then some (q,0)else(dL 10 9 (l.drop (k+1))).map (λn:Nat=>(q,if C5 (l.drop k)=45 then yZ n else n)) by rw[a];rfl);clear N a;have T:(((0:Nat):Int)-1) = -1:=Z;rw[T];have c:=qN (t.extract 0 k) 3 wr (by rw[ext_size];omega) Z;rw[ext_list,IE,Nat.sub_zero,<-A.out]at c;have y:=xF (most:=3) (l.take k);have⟨o,u⟩:=Qb (dL 10 3 (l.take k));rw[<-u]at c b y;clear u;have a:o.getD 0<1000:=y;clear y;rcases o with _|q
   ·have f:Hid (wj l=none):=b;clear a;unfold rN at c;go_wp2_with (go_at_call 37;refine c.mono ?_;rintro e r⟨rfl,rfl⟩)
    go_ret3
    exact⟨_,rfl,⟨0,0,Z,Z,by rw[f];rfl,λx g=>by rw[f]at g;cases g⟩,rfl⟩
   have z:q<1000:=a;clear a;have c:QA 37 #[.string (t.extract 0 k),I 3] wr λe r=>e=QJ (.tuple #[U (q:Int),.bool true])/\r=wr:=c
   by_cases B:q=0
   ·subst B;have f:=H (show wj l=none by rw[b,Option.bind_some,GP rfl]);clear z;go_wp2_with (go_at_call 37;refine c.mono ?_;rintro e r⟨rfl,rfl⟩)
    go_ret3
    exact⟨_,rfl,⟨0,0,Z,Z,by rw[f];rfl,λx g=>by rw[f]at g;cases g⟩,rfl⟩
   have V:((q:Int)==0)=false:=(by rw[QF];omega);by_cases d:k=t.size
   ·have f:=H (show wj l=some (q,0) by rw[b,Option.bind_some,GO B,GP (by rw[d,m])]);have F:((k:Int)==(t.size:Int))=true:=(by rw[beq_iff_eq];omega);clear B d;go_wp2_with (go_at_call 37;refine c.mono ?_;rintro e r⟨rfl,rfl⟩)
    go_ret3
    exact⟨_,rfl,⟨q,0,z,Z,by rw[f];rfl,λx g=>by rw[f]at g;simpa using g.symm⟩,rfl⟩
   have G:k<t.size:=Z;have F:((k:Int)==(t.size:Int))=false:=(by rw[QF];omega);have a:=qN (t.extract (k+1) t.size) 9 wr (by rw[ext_size];omega) Z;have p:C5 (l.drop k)=t[k].toNat:=(by rw[A,pL t k G];rfl);rw[ext_list,Ge (by rw[List.length_drop,<-A.out,m];omega),<-A.out]at a;have y:=Dp (base:=10) (most:=9) (l.drop (k+1));have⟨o,u⟩:=Qb (dL 10 9 (l.drop (k+1)));have f:=H (show wj l=o.map (λn:Nat=>(q,if t[k].toNat=45 then yZ n else n)) by rw[b,Option.bind_some,GO B,GO (by rw[m];exact d),u,p]);rw[<-u]at a y;clear u B d p;unfold rN at a;have b:∀p:Nat,p=(if t[k].toNat=45 then yZ (o.getD 0)else o.getD 0)->Nq (wj l) (.tuple #[I (q:Int),U (p:Int),.bool o.isSome]):=by
    intro p u;have d:p<18446744073709551616:=(by rw[u];split<;>(try unfold yZ)<;>omega);refine⟨q,p,z,d,by rw[f];simp,λx g=>?_⟩;rw[f]at g;cases o with
    |none=>cases g
    |some n=>rw[u];simpa using g.symm
   have u:=H b;clear b;generalize o.getD 0=d at a y u;generalize o.isSome=b at a u;by_cases B:t[k].toNat=45
   ·have K:(((t[k].toNat:Nat):Int)==45)=true:=(by rw[beq_iff_eq];omega);go_wp2_with fail;refine c.mono ?_;rintro e r⟨rfl,rfl⟩;clear c;go_wp2_with fail;refine a.mono ?_;rintro e r⟨rfl,rfl⟩;clear a;go_wp2
    go_ret3
    refine⟨_,rfl,?_,rfl⟩;have O:=u.out (yZ d) (by rw[GP B]);rw[<-EG y]at O;exact O
   have K:(((t[k].toNat:Nat):Int)==45)=false:=(by rw[QF];omega);go_wp2_with fail;refine c.mono ?_;rintro e r⟨rfl,rfl⟩;clear c;go_wp2_with fail;refine a.mono ?_;rintro e r⟨rfl,rfl⟩;clear a;go_wp2
   go_ret3
   exact⟨_,rfl,u d (by rw[GO B]),rfl⟩
  have c:(((j+1:Nat):Int)-1)=(j:Int):=Z;rw[c];have f:=H (pL t j Z);rw[<-A.out]at f;have a:=H (AX f);have y:=EO t j Z;by_cases g:t[j].toNat=43
  ·have b:((t[j].toNat:Nat):Int)=43:=Z;go_wp2;go_roundw;(case rel=>exact⟨j,j,Z,aY,rfl,H (by rw[a,GP (by simp[yt,g])]),trivial⟩);case measure=>simp[intOf];try omega
  by_cases o:t[j].toNat=45
  ·have b:(((t[j].toNat:Nat):Int)==43)=false:=(by rw[QF];omega);have d:((t[j].toNat:Nat):Int)=45:=Z;go_wp2;go_roundw;(case rel=>exact⟨j,j,Z,aY,rfl,H (by rw[a,GP (by simp[yt,o])]),trivial⟩);case measure=>simp[intOf];try omega
  have b:(((t[j].toNat:Nat):Int)==43)=false:=by rw[QF];omega
  have d:(((t[j].toNat:Nat):Int)==45)=false:=by rw[QF];omega
  go_wp2;go_roundw;case rel=>exact⟨j,k,Z,aY,rfl,H (by rw[a,GO (by simp[yt,g,o])];exact N),trivial⟩
  case measure=>simp[intOf];try omega
theorem I7(s:ByteArray)(w:QM)(a:s.size<=1048576):
  QA 38 #[.string s] w λe c=>∃v,e=QJ v/\Nq (d_ s.data.toList) v/\c=w:=by
 by_cases b:C5 s.data.toList=36;·exact D8 s w a b
 exact IW s w a b
structure Kt(T e:QO)(z:QN)(sz bb:Nat):Prop where
 und:prog.underlying T=some (.slice e)
 info:(prog.info? e).map (λi=>(i.zero,i.size,i.bytes))=some (some z,sz,bb)
 cells:z.cells.size=sz
 pos:0<sz
 small:bb<=100
theorem ql:Kt 22 5 (.int .u8 0) 1 1:=⟨underlying22,E,rfl,Z,Z⟩
theorem tE:Kt 28 3 (I 0) 1 8:=⟨underlying28,E,rfl,Z,Z⟩
theorem Nu:Kt 64 22 (C) 1 24:=⟨underlying64,E,rfl,Z,Z⟩
theorem LZ:Kt 58 9 (.string ByteArray.empty) 1 16:=⟨underlying58,E,rfl,Z,Z⟩
theorem Nj:Kt 31 48 (.agg #[I 0,I 0,U 0,U 0,U 0,C]) 6 64:=⟨underlying31,E,rfl,Z,Z⟩
theorem KZ{sz}(S:Kt T e z sz bb)(a:W.ownsRow B e sz v n xs)(l:B<=W.heap.size)(x:Addr)(m c:Nat)(b:List QN)(o:b.length=m*sz)(p:∀j u,b[j]?=some u->W.cell? (x.add j)=some u)(q:∀u∈b,u.oneCell'=true)(r:n+m<=2000000000):
  ∃f d,(Builtin.append_ #[T,T] T #[v,.slice (some x) m c]).run prog W=.ok f d/\d.ownsRow B e sz f (n+m) (xs++b)/\W.grownBy d v.ownBlock:=by
 have⟨s,g,i,j,k⟩:=G0 S.info;have t:(n+m)*bb<=2000000000*100:=Nat.mul_le_mul r S.small;have⟨f,d,e1,w,y,_⟩:=Ia (P:=prog) W B T T e s _ sz bb S.und g i j k S.cells S.pos v n _ a x m c b o p q (by unfold maxLen;omega) Z l;exact⟨f,d,e1,w,y⟩
theorem Jo{sz}(S:Kt T e z sz bb){f:QM}(i:W.ownsRow f.heap.size e sz v n xs)(j:D f W)(c:Array QN)(m:c.size=sz)(o:∀u∈c.toList,u.oneCell'=true)(q:n<=2000000):
  ∃k g,(Builtin.append_ #[T,T] T #[v,Vl W.heap.size 1 1]).run prog (W.alloc (QL c e))=.ok k g/\g.ownsRow f.heap.size e sz k (n+1) (xs++c.toList)/\D f g/\(W.alloc (QL c e)).grownBy g v.ownBlock:=by
 have b:D f (W.alloc (QL c e)):=j.alloc j.size _;have a:(W.alloc (QL c e)).ownsRow f.heap.size e sz v n xs:=i.alloc _;have⟨k,g,e1,p,l⟩:=KZ S a b.size (Qz W.heap.size 0) 1 1 c.toList (by simp[m]) (λj u f=>by
  have d:(W.alloc (QL c e)).heap[W.heap.size]?=some (QL c e):=ao _ _;rw[Addr.add_mid,Oi,GT _ _ j _ _ _ d];simpa using f) o Z
 exact⟨k,g,e1,p,b.grown l b.size (λr h=>(a.lt r h).1),l⟩
theorem sP(l:List UInt8)(k:Nat)(c:UInt8)(h:l.drop k=c::l.drop (k+1)):iN (l.take (k+1))=iN (l.take k)++[pQ c.toNat]/\oK (l.take (k+1))=(oK (l.take k)&&decide (pQ c.toNat<16)):=by
 have a:l[k]?=some c:=by rw[<-List.head?_drop,h];rfl
 rw[F_,a];simp[iN,oK]
def hv(l:List UInt8):List Value:=(iN l).map (λn:Nat=>Value.int .u8 (n:Int))
theorem Cu(l:List UInt8)(k:Nat)(c:UInt8)(h:l.drop k=c::l.drop (k+1)):hv (l.take (k+1))=hv (l.take k)++[.int .u8 ((pQ c.toNat:Nat):Int)]:=by
 rw[hv,(sP l k c h).1,Hr];rfl
theorem LW{l:List UInt8}{c:UInt8}(h:l.drop k=c::l.drop (k+1))(a:¬pQ c.toNat<16):oK l=false:=by
 have:c∈l:=List.mem_of_mem_drop (i:=k) (by rw[h];simp);rw[oK,Bool.eq_false_iff];intro ha;exact a (by simpa using List.all_eq_true.1 ha c this)
theorem uc(w:QM)(e:QO)(sz:Nat):w.ownsRow w.heap.size e sz (C) 0 []:=⟨bH,.inl ⟨rfl,rfl⟩⟩
theorem Lf(s:ByteArray)(w:QM)(R:s.size<=1048576):
  QA 39 #[.string s] w λe A=>∃v,e=QJ (.tuple #[v,.bool (oK s.data.toList&&decide (0<s.size))])/\(oK s.data.toList=false->v=C)/\(oK s.data.toList=true->A.ownsRow w.heap.size 5 1 v s.size (hv s.data.toList))/\D w A:=by
 have⟨l,a⟩:=Qb s.data.toList;have G:l.length=s.size:=by rw[a];simp
 have K:=H a;rw[<-a];clear a;have⟨b,a⟩:=Qb (oK l);rw[<-a];have B:=H a;clear a;go_enter func39,ntmps39;go_wp2;go_loopw [4,5] (λv i wr=>∃(k:Nat),k<=s.size/\i=I (k:Int)/\Hid (oK (l.take k)=true)/\Hid (wr.ownsRow w.heap.size 5 1 v k (hv (l.take k)))/\Hid (D w wr)) (λ_ i _=>s.size-(intOf i).toNat);case atStart=>exact⟨0,FH _,rfl,H rfl,H (uc w 5 1),H (Fu _ w)⟩
 case round=>
  obtain⟨k,S,rfl,ha,g,c⟩:=hrel;by_cases o:k<s.size
  ·have j:=H (pL s k o);rw[<-K.out]at j;have L:=EO s k o;by_cases u:48<=s[k].toNat/\s[k].toNat<=57
   ·have x:decide ((48:Int)<=((s[k].toNat:Nat):Int))=true:=bG;have f48:decide (((s[k].toNat:Nat):Int)<=57)=true:=bG;have f:pQ s[k].toNat=s[k].toNat-48:=(by unfold pQ;rw[GP u]);have d:((pQ s[k].toNat:Nat):Int)=((s[k].toNat:Nat):Int)-48:=(by rw[f];omega);have⟨p,q,e1,m,n,r⟩:=Jo ql g c #[.int .u8 (((s[k].toNat:Nat):Int)-48)] rfl mL Z;have t:=H (show q.ownsRow w.heap.size 5 1 p (k+1) (hv (l.take (k+1))) by rw[Cu l k _ j,d];exact m);have a:=H (show oK (l.take (k+1))=true by rw[(sP l k _ j).2,ha];simp;omega);have B1:=H n;clear m n r f d g c ha;go_wp2_with (at_builtin;refine cY rfl (.tmp 23) (.tmp 26) (by with_reducible rfl) rfl rfl rfl e1 ?_);go_roundw;(case rel=>exact⟨k+1,Z,aY,a,t,B1⟩);case measure=>exact QE
   have M:(decide ((48:Int)<=((s[k].toNat:Nat):Int))&&decide (((s[k].toNat:Nat):Int)<=57))=false:=bG;by_cases x:97<=s[k].toNat/\s[k].toNat<=102
   ·have y:decide ((48:Int)<=((s[k].toNat:Nat):Int))=true:=bG;have z:decide (((s[k].toNat:Nat):Int)<=57)=false:=bG;have F:decide ((97:Int)<=((s[k].toNat:Nat):Int))=true:=bG;have f97:decide (((s[k].toNat:Nat):Int)<=102)=true:=bG;have f:pQ s[k].toNat=s[k].toNat-87:=(by unfold pQ;rw[GO u,GP x]);have d:((pQ s[k].toNat:Nat):Int)=((s[k].toNat:Nat):Int)-97+10:=(by rw[f];omega);have⟨p,q,e1,m,n,r⟩:=Jo ql g c #[.int .u8 (((s[k].toNat:Nat):Int)-97+10)] rfl mL Z;have t:=H (show q.ownsRow w.heap.size 5 1 p (k+1) (hv (l.take (k+1))) by rw[Cu l k _ j,d];exact m);have a:=H (show oK (l.take (k+1))=true by rw[(sP l k _ j).2,ha];simp;omega);have B1:=H n;clear m n r f d g c ha;go_wp2_with (at_builtin;refine cY rfl (.tmp 35) (.tmp 39) (by with_reducible rfl) rfl rfl rfl e1 ?_);go_roundw;(case rel=>exact⟨k+1,Z,aY,a,t,B1⟩);case measure=>exact QE
   by_cases F:65<=s[k].toNat/\s[k].toNat<=70
   ·have y:decide ((48:Int)<=((s[k].toNat:Nat):Int))=true:=bG;have z:decide (((s[k].toNat:Nat):Int)<=57)=false:=bG;have N:decide ((97:Int)<=((s[k].toNat:Nat):Int))=false:=bG;have O:decide ((65:Int)<=((s[k].toNat:Nat):Int))=true:=bG;have f65:decide (((s[k].toNat:Nat):Int)<=70)=true:=bG;have f:pQ s[k].toNat=s[k].toNat-55:=(by unfold pQ;rw[GO u,GO x,GP F]);have d:((pQ s[k].toNat:Nat):Int)=((s[k].toNat:Nat):Int)-65+10:=(by rw[f];omega);have⟨p,q,e1,m,n,r⟩:=Jo ql g c #[.int .u8 (((s[k].toNat:Nat):Int)-65+10)] rfl mL Z;have t:=H (show q.ownsRow w.heap.size 5 1 p (k+1) (hv (l.take (k+1))) by rw[Cu l k _ j,d];exact m);have a:=H (show oK (l.take (k+1))=true by rw[(sP l k _ j).2,ha];simp;omega);have B1:=H n;clear m n r f d g c ha;go_wp2_with (at_builtin;refine cY rfl (.tmp 48) (.tmp 52) (by with_reducible rfl) rfl rfl rfl e1 ?_);go_roundw;(case rel=>exact⟨k+1,Z,aY,a,t,B1⟩);case measure=>exact QE
   have f:pQ s[k].toNat=16:=(by unfold pQ;rw[GO u,GO x,GO F]);have N:Hid (b=false):=(B.trans (LW j (by rw[f];omega)));have O:¬((48:Int)<=((s[k].toNat:Nat):Int)/\((s[k].toNat:Nat):Int)<=57):=Z;have P:¬((97:Int)<=((s[k].toNat:Nat):Int)/\((s[k].toNat:Nat):Int)<=102):=Z;have Q:¬((65:Int)<=((s[k].toNat:Nat):Int)/\((s[k].toNat:Nat):Int)<=70):=Z;clear f;go_wp2
   all_goals first|(exfalso;omega)|skip
   all_goals(try go_ret2)
   all_goals(rw[N])
   all_goals exact⟨_,rfl,(λ_=>rfl),(λh=>by cases h),c⟩
  have a:k=s.size:=Z;have d:l.take k=l:=Ge Z;rw[d]at ha g;have⟨f,j⟩:=y7 (show b=true from B.trans ha) a;clear d a;go_wp2
  go_ret2
  rw[f];exact⟨_,by simp;try omega,(λh=>by cases h),λ_=>j.out▸g.out,c⟩
def kn:List UInt8->List UInt8->List (List UInt8)
 |[],_=>[]
 |c::r,e=>if c.toNat=10 then e::kn r []else if r=[]then[e++[c]]else kn r (e++[c])
def bv(l:List UInt8):List Value:=l.map (λb:UInt8=>Value.int .u8 ((b.toNat:Nat):Int))
theorem rb(l):(bv l).length=l.length:=by simp[bv]
theorem L5(l:List UInt8)(c:UInt8):bv (l++[c])=bv l++[.int .u8 ((c.toNat:Nat):Int)]:=by simp[bv]
theorem uE(l:List UInt8)(i:Nat)(h:i<l.length):(bv l)[i]?=some (.int .u8 ((l[i].toNat:Nat):Int)):=by simp[bv,h]
def LnS(B1:Nat)(W:World)(u:Value)(l:List UInt8):Prop:=(u=C/\l=[])\/∃g c,u=Vl g l.length c/\(g<B1/\l.length<=c)/\RowV W g 5 (bv l)
theorem LnS.mono{a:Nat}{u l}(h:LnS B1 W u l)(f:B1<=a):LnS a W u l:=by
 rcases h with h|⟨g,c,b,d,e⟩;·exact .inl h
 exact .inr ⟨g,c,b,⟨Z,d.2⟩,e⟩
theorem LnS.keep{a:QM}{u l}(h:LnS B1 W u l)(e:∀g,g<B1->∀x,W.heap[g]?=some (QL x 5)->a.heap[g]?=W.heap[g]?):LnS B1 a u l:=by
 rcases h with h|⟨g,c,f,b,⟨x,d,i⟩⟩;·exact .inl h
 exact .inr ⟨g,c,f,b,x,by rw[e g b.1 x d];exact d,i⟩
theorem ts{sz:Nat}(h:W.ownsRow B e sz v n xs){r:Nat}(a:v.ownBlock=some r):∃x,W.heap[r]?=some (QL x e):=by
 rcases h.2 with⟨rfl,f⟩|⟨g,b,c,rfl,i,d,j,k,l,m⟩;·cases a
 simp[Value.ownBlock]at a;subst a;exact⟨_,d⟩
theorem OH{g:Nat}{e1 a:QO}{i j:Nat}{b f:QN}{k l:Nat}{m n:List QN}(o:W.ownsRow B1 e1 i b k m)(p:W.ownsRow g a j f l n)(c:e1≠a):b.ownBlock=none\/b.ownBlock≠f.ownBlock:=by
 cases e:b.ownBlock with
 |none=>exact .inl rfl
 |some r=>
  refine .inr λa=>?_;have⟨x,q⟩:=ts o e;have⟨y,d⟩:=ts p a.symm;rw[q]at d;simp at d;exact c d.2
theorem ch{sz:Nat}(h:W.ownsRow B e sz v n xs):∃a m c,v=.slice a m c/\m=n:=by
 rcases h.2 with⟨rfl,a⟩|⟨g,b,c,rfl,_⟩;·exact⟨none,0,0,rfl,a.symm⟩
 exact⟨_,_,_,rfl,rfl⟩
theorem Mt{l:List UInt8}(h:W.ownsRow B 5 1 v l.length (bv l)):LnS W.heap.size W v l:=by
 rcases h.2 with⟨rfl,b⟩|⟨g,a,c,rfl,e,d,f,i,j,k⟩;·exact .inl ⟨rfl,Ik b⟩
 exact .inr ⟨g,a,rfl,⟨G_ d,Z⟩,RowV.ofOwns h⟩
theorem DL{sz}(S:Kt T e z sz bb)(d:W.ownsRow B e sz v n xs)(q:B<=W.heap.size)(c:Array QN)(j:c.size=sz)(m:∀u∈c.toList,u.oneCell'=true)(r:n<=2000000):
  ∃i f,(Builtin.append_ #[T,T] T #[v,Vl W.heap.size 1 1]).run prog (W.alloc (QL c e))=.ok i f/\f.ownsRow B e sz i (n+1) (xs++c.toList)/\W.grownBy f v.ownBlock:=by
 have a:(W.alloc (QL c e)).ownsRow B e sz v n xs:=d.alloc _;have l:W.heap.size<=(W.alloc (QL c e)).heap.size:=((Fu W.heap.size W).alloc (Fv _) _).size;have⟨i,f,e1,o,g⟩:=KZ S a Z (Qz W.heap.size 0) 1 1 c.toList (by simp[j]) (λj u a=>by
  have b:(W.alloc (QL c e)).heap[W.heap.size]?=some (QL c e):=ao _ _;rw[Addr.add_mid,Oi,GT _ _ j _ _ _ b];simpa using a) m Z
 refine⟨i,f,e1,o,⟨g.os,g.tape,g.output,Fx l g.size,λk p b=>?_⟩⟩;rw[g.block k Z b,eg _ _ _ p]
theorem OW{c:UInt8}{r a:List UInt8}:kn (c::r) a=if c.toNat=10 then a::kn r []else if r=[]then[a++[c]]else kn r (a++[c]):=rfl
structure LnI(w W:QM)(l:List UInt8)(k:Nat)(v lv:QN)(ps:List (QN×List UInt8))(cur:List UInt8)(B1:Nat):Prop where
 eq:kn l []=ps.map (·.2)++kn (l.drop k) cur
 ou:W.ownsRow w.heap.size 22 1 v ps.length (ps.map (·.1))
 line:W.ownsRow B1 5 1 lv cur.length (bv cur)
 b1:w.heap.size<=B1
 b2:B1<=W.heap.size
 done:∀p∈ps,LnS B1 W p.1 p.2
 bel:D w W
 n1:ps.length<=k
 n2:cur.length<=k
theorem LnI.start(w l):LnI w w l 0 (C) (C) [] [] w.heap.size:=
 ⟨bH,uc w 22 1,uc w 5 1,Fv _,Fv _,bH,Fu _ w,bH,bH⟩
theorem LnI.byte{l lv ps cur}(h:LnI w W l k v lv ps cur B1)(c:UInt8)(o:l.drop k=c::l.drop (k+1))(j:¬c.toNat=10)(q:k<=1048576):
  ∃a b,(Builtin.append_ #[22,22] 22 #[lv,Vl W.heap.size 1 1]).run prog (W.alloc (QL #[.int .u8 ((c.toNat:Nat):Int)] 5))=.ok a b/\b.ownsRow w.heap.size 22 1 v ps.length (ps.map (·.1))/\b.ownsRow B1 5 1 a (cur++[c]).length (bv (cur++[c]))/\B1<=b.heap.size/\(∀p∈ps,LnS B1 b p.1 p.2)/\D w b:=by
 have⟨a,b,e1,m,d⟩:=DL ql h.line h.b2 #[.int .u8 ((c.toNat:Nat):Int)] rfl mL (by have:=h.n2;omega);have f:∀g,g<B1->some g≠lv.ownBlock:=λg i e=>by have:=(h.line.lt g e.symm).1;omega
 refine⟨a,b,e1,?_,?_,Fx h.b2 d.size,λp n=>?_,?_⟩;·exact h.ou.kept d (OH h.ou h.line ar)
 ·rw[L5,FC];exact m
 ·exact(h.done p n).keep λg i x r=>d.block g (by have:=h.b2;omega) (f g i)
 exact h.bel.grown d h.bel.size (λr e=>by have:=(h.line.lt r e).1;have:=h.b1;omega)
theorem JF{d:QN}{ps:List (QN×List UInt8)}{a:List UInt8}(i:W.ownsRow w.heap.size 22 1 v ps.length (ps.map (·.1)))(s:W.ownsRow B1 5 1 d a.length (bv a))(t:B1<=W.heap.size)(u:∀p∈ps,LnS B1 W p.1 p.2)(j:D w W)(B:ps.length<=1048577):
  ∃f b,QI 64 v (Vl W.heap.size 1 1) (W.alloc (QL #[d] 22)) f b/\b.ownsRow w.heap.size 22 1 f (ps++[(d,a)]).length ((ps++[(d,a)]).map (·.1))/\(∀p∈ps++[(d,a)],LnS b.heap.size b p.1 p.2)/\D w b:=by
 have k:d.oneCell'=true:=by
  rcases s.2 with⟨rfl,m⟩|⟨g,l,c,rfl,_⟩<;>rfl
 have⟨f,b,e1,z,l⟩:=DL Nu i j.size #[d] rfl (by simpa using k) Z;have m:∀g x,W.heap[g]?=some (QL x 5)->some g≠v.ownBlock:=λg x n e=>by
  have⟨y,c⟩:=ts i e.symm;rw[n]at c;simp at c
 refine⟨f,b,e1,by simpa using z,λp c=>?_,j.grown l j.size (λr e=>(i.lt r e).1)⟩;have r:∀o,o<=W.heap.size->∀q:QN×List UInt8,LnS o W q.1 q.2->LnS b.heap.size b q.1 q.2:=λo y q A=>(A.keep λg b x n=>l.block g Z (m g x n)).mono (by have:=l.size;omega)
 rcases F8.1 c with c|c;·exact r B1 t p (u p c)
 simp at c;subst c;exact r W.heap.size (Fv _) (d,a) (Mt s)
theorem LnI.fresh{l:List UInt8}{ps:List (QN×List UInt8)}(b:kn l []=ps.map (·.2)++kn (l.drop k) [])(c:W.ownsRow w.heap.size 22 1 v ps.length (ps.map (·.1)))(d:∀p∈ps,LnS W.heap.size W p.1 p.2)(a:D w W)(e:ps.length<=k):
 LnI w W l k v (C) ps [] W.heap.size:=⟨b,c,uc W 5 1,a.size,Fv _,d,a,e,bH⟩
def Lns(B:Nat)(W:World)(v:Value)(ls:List (List UInt8)):Prop:=∃ps:List (Value×List UInt8),ps.map (·.2)=ls/\W.ownsRow B 22 1 v ps.length (ps.map (·.1))/\∀p∈ps,LnS W.heap.size W p.1 p.2
theorem Le(g)(n:Nat)(c)(l:List UInt8)(w)(X:l.length=n)(Y:n<=1048576)(F:RowV w g 5 (bv l)):
  QA 20 #[Vl g n c] w λe G=>∃v,e=QJ v/\Lns w.heap.size G v (kn l [])/\D w G:=by
 go_enter func20,ntmps20;go_wp2;go_loopw [3,4,9] (λv a i wr=>∃(k:Nat)(ps:List (QN×List UInt8))(o:List UInt8)(B1:Nat),k<=n/\i=I (k:Int)/\Hid (LnI w wr l k v a ps o B1)) (λ_ _ i _=>n-(intOf i).toNat);case atStart=>exact⟨0,[],[],w.heap.size,FH _,rfl,H (LnI.start w l)⟩
 case round=>
  obtain⟨k,ps,o,B1,hk,rfl,a⟩:=hrel;by_cases P:k<n
  ·have x:Hid (l.drop k=l[k]' Z::l.drop (k+1)):=List.drop_eq_getElem_cons Z;have p:wr.cell? (Qz g k)=some (.int .u8 (((l[k]' Z).toNat:Nat):Int)):=by
    have Q:=(F.below a.bel F.lt).cell k (by rw[rb];omega);rw[Q,uE l k Z]
   generalize l[k]' Z=b at x p;by_cases f:b.toNat=10
   ·have y:(((b.toNat:Nat):Int)==10)=true:=(by rw[beq_iff_eq];omega);have z:(((b.toNat:Nat):Int) !=10)=false:=bG;have⟨K,L,e1,q,r,s⟩:=JF a.ou a.line a.b2 a.done a.bel (by have:=a.n1;omega);have A:=H (LnI.fresh (k:=k+1) (by rw[a.eq,x,OW,GP f];simp) q r s (by have:=a.n1;simp;omega));obtain⟨R,S,T,rfl,u⟩:=ch a.line;clear q r s a f u;go_wp2_with (at_builtin;refine cY rfl (.tmp 29) (.tmp 31) (by with_reducible rfl) rfl rfl rfl e1 ?_);go_roundw;(case rel=>exact⟨k+1,_,_,_,Z,aY,A⟩);case measure=>exact QE
   have y:(((b.toNat:Nat):Int)==10)=false:=(by rw[QF];omega);have z:(((b.toNat:Nat):Int) !=10)=true:=bG;have⟨K,L,e1,q,l1,B,r,s⟩:=a.byte b x f Z;by_cases j:k+1=n
   ·have m:((k:Int)==(n:Int)-1)=true:=(by rw[beq_iff_eq];omega);have⟨v2,w2,V,M,N,O⟩:=JF q l1 B r s (by have:=a.n1;omega);have d:l.drop (k+1)=[]:=List.drop_eq_nil_of_le Z;have A:=H (LnI.fresh (k:=k+1) (by rw[a.eq,x,OW,GO f,GP d,d];simp[kn]) M N O (by have:=a.n1;simp;omega));obtain⟨R,S,T,rfl,u⟩:=ch l1;have W:=H j;clear q r s M N O a f u l1 B d j;go_wp2_with (at_builtin;first|(refine cY (t:=22) rfl (.tmp 16) (.tmp 18) (by with_reducible rfl) rfl rfl rfl e1 ?_;clear e1)|refine cY (t:=64) rfl (.tmp 29) (.tmp 31) (by with_reducible rfl) rfl rfl rfl V ?_);go_roundw;(case rel=>exact⟨k+1,_,_,_,Z,aY,A⟩);case measure=>exact QE
   have m:((k:Int)==(n:Int)-1)=false:=(by rw[QF];omega);have d:¬l.drop (k+1)=[]:=(by intro M;have:=congrArg List.length M;simp at this;omega);have A:Hid (LnI w L l (k+1) u3 K ps (o++[b]) B1):=H ⟨by rw[a.eq,x,OW,GO f,GO d],q,l1,a.b1,B,r,s,by have:=a.n1;omega,by have:=a.n2;simp;omega⟩;clear q r s a f l1 B d;go_wp2_with (at_builtin;refine cY rfl (.tmp 16) (.tmp 18) (by with_reducible rfl) rfl rfl rfl e1 ?_);go_roundw;(case rel=>exact⟨k+1,_,_,_,Z,aY,A⟩);case measure=>exact QE
  have d:l.drop k=[]:=List.drop_eq_nil_of_le Z;have b:=H (show Lns w.heap.size wr u3 (kn l [])from⟨ps,by rw[a.eq,d];simp[kn],a.ou,λp f=>(a.done p f).mono a.b2⟩);have f:=H a.bel;clear a d;go_wp2;go_ret;exact⟨_,rfl,b,f⟩
def cE:List UInt8->List UInt8->List (List UInt8)
 |[],cur=>if cur=[]then[]else[cur]
 |c::r,cur=>if c.toNat=32 then(if cur=[]then cE r []else cur::cE r [])else cE r (cur++[c])
def bs(l:List UInt8):ByteArray:=⟨l.toArray⟩
theorem kO(l):(bs l).data.toList=l:=rfl
theorem gz(l):(bs l).size=l.length:=rfl
theorem DJ(s:ByteArray):bs s.data.toList=s:=rfl
def wg(l:List UInt8):Value:=.string (bs l)
def Ws(B:Nat)(W:World)(v:Value)(ws:List (List UInt8)):Prop:=W.ownsRow B 9 1 v ws.length (ws.map wg)
theorem JS(r:ByteArray)(b:UInt8):(r.push b).data.toList=r.data.toList++[b]:=by simp[ByteArray.push]
theorem LY(l:List UInt8):∀r:ByteArray,(l.map (λb:UInt8=>((b.toNat:Nat):Int))).foldl (λr n=>r.push (UInt8.ofNat n.toNat)) r=bs (r.data.toList++l):=by
 induction l with
 |nil=>intro r;simp[DJ]
 |cons c l a=>
  intro r;rw[It,List.foldl_cons,a,JS];simp
theorem LX(l):bv l=(l.map (λb:UInt8=>((b.toNat:Nat):Int))).map (Value.int .u8):=by simp[bv]
theorem I5{g l}(h:RowV w g 5 (bv l))(a m c:Nat)(i:a+m<=l.length):
  (convert 22 9 (.slice (some (Qz g a)) m c)).run prog w=.ok (.string (bs ((l.drop a).take m))) w:=by
 rw[run_convert_bytes_string w 22 9 5 _ m c underlying22 underlying5 underlying9];have d:((l.drop a).take m).length=m:=bG;have e:=run_bytesToString (P:=prog) w (Qz g a) m c (((l.drop a).take m).map (λb:UInt8=>((b.toNat:Nat):Int))) (by
  have:=run_loadCells_list (P:=prog) w (Qz g a) (bv ((l.drop a).take m)) (λj v f=>by
   have b:=(Fz.1 f).1;rw[rb,d]at b;rw[Addr.add_mid,h.cell (a+j) (by rw[rb];omega),uE l _ Z,<-f,uE _ _ Z];simp)
  rw[rb,d]at this;rw[<-LX];exact this)
 rw[LY]at e;exact e
theorem CH(g)(n c:Nat)(l:List UInt8)(w)(T:l.length=n)(V:n<=1048576)(O:n<=c)(u:RowV w g 5 (bv l)):
  QA 21 #[Vl g n c] w λe N=>∃v,e=QJ v/\Ws w.heap.size N v (cE l [])/\D w N:=by
 go_enter func21,ntmps21;go_wp2;go_loopw [3,4,5] (λv b i wr=>∃(k a:Nat)(f:List (List UInt8)),k<=n+1/\a<=k/\i=I (k:Int)/\b=I (a:Int)/\Hid (if k=n+1 then cE l []=f else cE l []=f++cE (l.drop k) ((l.drop a).take (k-a)))/\Hid (Ws w.heap.size wr v f)/\Hid (D w wr)/\f.length<=k) (λ_ _ i _=>n+1-(intOf i).toNat);case atStart=>exact⟨0,0,[],Z,Z,rfl,rfl,H bH,H (uc w 9 1),H (Fu _ w),bH⟩
 case round=>
  obtain⟨k,a,f,W,ha,rfl,rfl,j,r,o,P⟩:=hrel;by_cases Q:k<=n
  ·have j:=H (show cE l []=f++cE (l.drop k) ((l.drop a).take (k-a)) by have:=j.out;rw[GO Z]at this;exact this);by_cases R:k<n
   ·have s:Hid (l.drop k=l[k]' Z::l.drop (k+1)):=List.drop_eq_getElem_cons Z;have t:wr.cell? (Qz g k)=some (.int .u8 (((l[k]' Z).toNat:Nat):Int)):=by
     have S:=(u.below o u.lt).cell k (by rw[rb];omega);rw[S,uE l k Z]
    have x:=H (show(l.drop a).take (k+1-a)=(l.drop a).take (k-a)++[l[k]' Z] by
     rw[show k+1-a=(k-a)+1 by omega,F_];simp[show a+(k-a)=k by omega,show k<l.length by omega])
    generalize l[k]' Z=b at s t x;by_cases m:b.toNat=32
    ·have y:(((b.toNat:Nat):Int) !=32)=false:=bG;by_cases B:a<k
     ·have d:¬(l.drop a).take (k-a)=[]:=(by intro F;have:=congrArg List.length F;simp at this;omega);have e0:=I5 (u.below o u.lt) a (k-a) (c-a) Z;have:=Jo LZ r o #[wg ((l.drop a).take (k-a))] rfl (by simp[wg,Value.oneCell']) Z;have⟨G,K,e1,z,A,L⟩:=this;have p:=H (show cE l []=(f++[(l.drop a).take (k-a)])++cE (l.drop (k+1)) ((l.drop (k+1)).take (k+1-(k+1))) by rw[j,s];simp[cE,m,d]);have M:=H (show Ws w.heap.size K G (f++[(l.drop a).take (k-a)]) by unfold Ws;simpa using z);have B1:=H A;clear z A L r o d m;go_wp2_with (at_builtin;refine cY rfl (.tmp 26) (.tmp 32) (by with_reducible rfl) rfl rfl rfl e1 ?_);go_roundw;(case rel=>exact⟨k+1,k+1,_,Z,Z,aY,aY,H (by rw[GO Z];exact p),M,B1,bG⟩);case measure=>exact QE
     have q:a=k:=Z;subst q;have p:=H (show cE l []=f++cE (l.drop (a+1)) ((l.drop (a+1)).take (a+1-(a+1))) by rw[j,s];simp[cE,m]);clear m;go_wp2;go_roundw;(case rel=>exact⟨a+1,a+1,_,Z,Z,aY,aY,H (by rw[GO Z];exact p),r,o,Z⟩);case measure=>exact QE
    have y:(((b.toNat:Nat):Int) !=32)=true:=bG;have p:=H (show cE l []=f++cE (l.drop (k+1)) ((l.drop a).take (k+1-a)) by rw[j,s,x];simp[cE,m]);clear m;go_wp2;go_roundw;(case rel=>exact⟨k+1,a,_,Z,Z,aY,rfl,H (by rw[GO Z];exact p),r,o,Z⟩);case measure=>exact QE
   have b:k=n:=Z;have m:l.drop k=[]:=List.drop_eq_nil_of_le Z;by_cases B:a<k
   ·have d:¬(l.drop a).take (k-a)=[]:=(by intro F;have:=congrArg List.length F;simp at this;omega);have e0:=I5 (u.below o u.lt) a (k-a) (c-a) Z;have:=Jo LZ r o #[wg ((l.drop a).take (k-a))] rfl (by simp[wg,Value.oneCell']) Z;have⟨G,K,e1,z,A,L⟩:=this;have p:=H (show cE l []=f++[(l.drop a).take (k-a)] by rw[j,m];simp[cE,d]);have M:=H (show Ws w.heap.size K G (f++[(l.drop a).take (k-a)]) by unfold Ws;simpa using z);have⟨B1,s⟩:=y7 A b;clear z A L r o d m b;go_wp2_with (at_builtin;refine cY rfl (.tmp 26) (.tmp 32) (by with_reducible rfl) rfl rfl rfl e1 ?_);go_roundw;(case rel=>exact⟨k+1,k+1,_,Z,Z,aY,aY,H (by rw[GP (by have:=s.out;omega)];exact p),M,B1,bG⟩);case measure=>exact QE
   have q:a=k:=Z;subst q;have p:=H (show cE l []=f by rw[j,m];simp[cE]);have s:=H b;clear m b;go_wp2;go_roundw;(case rel=>exact⟨a+1,a+1,_,Z,Z,aY,aY,H (by rw[GP (by have:=s.out;omega)];exact p),r,o,Z⟩);case measure=>exact QE
  have p:=H (show cE l []=f by have:=j.out;rw[GP Z]at this;exact this);go_wp2;go_ret;exact⟨_,rfl,p.out▸r.out,o⟩
theorem DU(w:QM):
  QA 21 #[C] w λe a=>∃v,e=QJ v/\Ws w.heap.size a v []/\D w a:=by
 go_enter func21,ntmps21;go_wp2;go_loopw [3,4,5] (λv a i wr=>∃(k:Nat),k<=1/\i=I (k:Int)/\a=I (k:Int)/\v=C/\wr=w) (λ_ _ i _=>1-(intOf i).toNat);case atStart=>exact⟨0,Z,rfl,rfl,rfl,rfl⟩
 case round=>
  obtain⟨k,c,rfl,rfl,rfl,rfl⟩:=hrel;by_cases b:k=0
  ·subst b;go_wp2;go_roundw;(case rel=>exact⟨1,Z,aY,aY,rfl,trivial⟩);case measure=>simp[intOf]
  obtain rfl:k=1:=Z;go_wp2;go_ret;exact⟨_,rfl,uc wr 9 1,Fu _ _⟩
theorem KV(u l)(w:QM)(b:LnS w.heap.size w u l)(d:l.length<=1048576):
  QA 21 #[u] w λe a=>∃v,e=QJ v/\Ws w.heap.size a v (cE l [])/\D w a:=by
 rcases b with⟨rfl,rfl⟩|⟨g,c,rfl,f,i⟩;·exact DU w
 exact CH g l.length c l w rfl d f.2 i
section
open Go.RowKit Go.Extern.Stop Go.Stop Go.Extern
theorem E8(v:QN)(w:QM):(Extern.ReflectliteType.typeOf #[.iface 392 v]).run prog w=.ok (.iface 129 (.agg #[J 9 392])) w:=E
def MR:Array Value→Sem Value:=Extern.ReflectliteType.method fun t=>do Go.Extern.Rtype.noPackHeld "Comparable" t;pure (.bool (← typeInfo t).comparable)
theorem wB(w:QM):(MR #[.agg #[J 9 392]]).run prog w=.ok Ql w:=E
theorem qP(v:QN)(w:QM): (Go.method 524 129 v "Comparable").run prog w=.ok (331,v) w:=E
theorem KN:(prog.info? 392).map (·.comparable)=some true:=E
theorem Kg:(prog.info? 414).map (·.size)=some 1:=E
theorem Ng(v:QN)(a:QO)(w:QM):(Instr.typeAssert (.iface 392 v) a 131 true).run prog w=.ok (.tuple #[.nilIface,.bool false]) w:=run_typeAssert_lacksB underlying131 E E v a w
theorem JM(v:QN)(a:QO)(w:QM):(Instr.typeAssert (.iface 392 v) a 134 true).run prog w=.ok (.tuple #[.nilIface,.bool false]) w:=run_typeAssert_lacksB underlying134 E E v a w
theorem Jc(v:QN)(a:QO)(w:QM):(Instr.typeAssert (.iface 392 v) a 136 true).run prog w=.ok (.tuple #[.nilIface,.bool false]) w:=run_typeAssert_lacksB underlying136 E E v a w
theorem M8(v:QN)(a:QO)(w:QM):(Instr.typeAssert (.iface 194 v) a 131 true).run prog w=.ok (.tuple #[.nilIface,.bool false]) w:=run_typeAssert_lacksB underlying131 E E v a w
theorem Jb(v:QN)(a:QO)(w:QM):(Instr.typeAssert (.iface 194 v) a 134 true).run prog w=.ok (.tuple #[.iface 194 v,.bool true]) w:=run_typeAssert_hasB underlying134 E v a w
theorem D1(x y:QN)(w:QM): (Go.method 524 194 (.agg #[x,y]) "Unwrap").run prog w=.ok (344,.agg #[x,y]) w:=E
theorem Jt(a:Addr)(w:QM):
  QA 14 #[.iface 392 (.pointer (some a)),.iface 392 (.pointer (some a))] w λe f=>e=QJ Ql/\f=w:=by
 have⟨i,g,d⟩:=Option.map_eq_some_iff.1 KN;have⟨j,k,l⟩:=Option.map_eq_some_iff.1 Kg;have o:=@run_callFunc_extern prog 31 _ Extern.ReflectliteType.typeOf func31 E E E E;have m:=@run_callFunc_extern prog 331 _ MR func331 E E E E;have b:=E8;have p:=wB;have c:=qP;have n:=run_eql_iface_ptr_same (P:=prog) w a underlying51 underlying392 g d k;go_enter func14,ntmps14;go_wp2;refine Hc 1 ?_;rw[Hu];go_wp2;go_ret;exact QB
theorem Ko(b:Addr)(w:QM):
  QA 14 #[.nilIface,.iface 392 (.pointer (some b))] w λe a=>e=QJ Qk/\a=w:=by
 have c:=run_eql_iface_nil_left (P:=prog) w 392 (.pointer (some b)) underlying51;go_enter func14,ntmps14;go_wp2;go_ret;exact QB
theorem L4(s:ByteArray)(b:Addr)(w:QM):
  QA 14 #[.iface 194 (.agg #[.string s,.iface 392 (.pointer (some b))]),.iface 392 (.pointer (some b))] w λe o=>e=QJ Ql/\D w o:=by
 have⟨i,p,n⟩:=Option.map_eq_some_iff.1 KN;have⟨j,q,r⟩:=Option.map_eq_some_iff.1 Kg;have x:=@run_callFunc_extern prog 31 _ Extern.ReflectliteType.typeOf func31 E E E E;have t:=@run_callFunc_extern prog 331 _ MR func331 E E E E;have a:=E8;have y:=wB;have c:=qP;have d:=Ng;have f:=JM;have g:=Jc;have k:=M8;have l:=Jb;have m:=D1;have u:=λw=>run_eql_iface_ptr_same (P:=prog) w b underlying51 underlying392 p n q
 have v:=λw=>run_eql_iface_types (P:=prog) 194 392 (.agg #[.string s,.iface 392 (.pointer (some b))]) (.pointer (some b)) underlying51 ar w
 go_enter func14,ntmps14;go_wp2;refine Hc 2 ?_;rw[Hu];go_wp2;rw[Hu];go_wp2;go_ret;exact⟨rfl,(Fu _ _).alloc (Fv _) _⟩
end
theorem Kn(r:Nat)(l:r<=2147483647)(w:QM):QA 134 #[.int .i32 (r:Int)] w λe j=>e=QJ (U ((pQ r:Nat):Int))/\j=w:=by
 have⟨a,b⟩:=Qb (pQ r);rw[<-b];have c:=H b;clear b;by_cases d:48<=r/\r<=57
 ·have e1:decide ((48:Int)<=(r:Int))=true:=bG;have g:decide ((r:Int)<=57)=true:=bG;have b:=H (show a=r-48 by rw[c,pQ,GP d]);go_enter func134,ntmps134;go_wp2;go_ret;exact⟨cX (by have:=b.out;omega),rfl⟩
 by_cases f:97<=r/\r<=102
 ·have e1:decide ((48:Int)<=(r:Int))=true:=bG;have g:decide ((r:Int)<=57)=false:=bG;have k:decide ((97:Int)<=(r:Int))=true:=bG;have i:decide ((r:Int)<=102)=true:=bG;have b:=H (show a=r-87 by rw[c,pQ,GO d,GP f]);go_enter func134,ntmps134;go_wp2;go_ret;exact⟨cX (by have:=b.out;omega),rfl⟩
 by_cases i:65<=r/\r<=70
 ·have e1:decide ((48:Int)<=(r:Int))=true:=bG;have g:decide ((r:Int)<=57)=false:=bG;have k:decide ((97:Int)<=(r:Int))=false:=bG;have m:decide ((65:Int)<=(r:Int))=true:=bG;have e6:decide ((r:Int)<=70)=true:=bG;have b:=H (show a=r-55 by rw[c,pQ,GO d,GO f,GP i]);go_enter func134,ntmps134;go_wp2;go_ret;exact⟨cX (by have:=b.out;omega),rfl⟩
 have b:=H (show a=16 by rw[c,pQ,GO d,GO f,GO i]);have m:¬((48:Int)<=(r:Int)/\(r:Int)<=57):=Z;have n:¬((97:Int)<=(r:Int)/\(r:Int)<=102):=Z;have o:¬((65:Int)<=(r:Int)/\(r:Int)<=70):=Z;go_enter func134,ntmps134;go_wp2
 all_goals first|(exfalso;omega)|skip
 all_goals go_ret
 all_goals exact⟨cX (by rw[b];rfl),rfl⟩
theorem vL(s:ByteArray)(a:Nat)(h:a<s.size)(ha:¬(s[a]'(h)).toNat<128):128<=(Utf8.decode s a).1:=by
 have e:s.get! (a+0)=s[a]'(h):=by
  show s.get! a=_;simp[ByteArray.get!,getElem!_pos,h];rfl
 have b:∀k,(s.get! (a+k)).toNat<256:=λk=>(s.get! (a+k)).toNat_lt
 have d:=b 1;have f:=b 2;have g:=b 3;have c:=b 0;rw[e]at c;simp only[Utf8.decode,e,ha,IL]
 repeat' split
 all_goals simp_all [Utf8.runeError]
 all_goals omega
theorem D6{r:Nat}(h:128<=r):pQ r=16:=by unfold pQ;rw[GO Z,GO Z,GO Z]
def wE(s:ByteArray)(e:Addr):Value:=.iface 194 (.agg #[.string s,.iface 392 (.pointer (some e))])
theorem OE(s:ByteArray)(a:Addr)(w:QM)(c:QG w 1 0 (.iface 392 (.pointer (some a)))):
  QA 56 #[.string s] w λe b=>e=QJ (wE s a)/\b=w:=by
 go_enter func56,ntmps56;go_wp2;go_ret;exact QB
def Nk(o:Option Nat)(s:ByteArray)(e:Addr):Value:=match o with
 |some n=>.tuple #[U (n:Int),.nilIface]
 |none=>.tuple #[U 0,wE s e]
theorem Cp(s:ByteArray)(base most:Nat)(p:Addr)(w:QM)(hs:s.size<=1048576)(V:1<=base)(hb:base<=16)(hm:most<=20)(N:w.cell? (Qz 1 0)=some (.iface 392 (.pointer (some p)))):
  QA 82 #[.string s,U (base:Int),I (most:Int)] w λe g=>e=.returned (Nk (dL base most s.data.toList) s p)/\D w g:=by
 have⟨R,a⟩:=Qb (Nk (dL base most s.data.toList) s p);rw[<-a];have t:=H a;clear a;have hL:s.data.toList.length=s.size:=bH;by_cases W:s.size=0
 ·have B:((s.size:Int)==0)=true:=by rw[beq_iff_eq];omega
  have l:=OE s p w N;have j:=H (show dL base most s.data.toList=none by rw[dL,GO Z]);clear W;go_enter func82,ntmps82;go_wp2_with (go_at_call 56;refine l.mono ?_;rintro e g⟨rfl,rfl⟩)
  go_ret2
  exact⟨by rw[t,j];rfl,Fu _ _⟩
 have B:((s.size:Int)==0)=false:=by rw[QF];omega
 by_cases c1:most<s.size
 ·have F:decide ((most:Int)<(s.size:Int))=true:=bG;have l:=OE s p w N;have j:=H (show dL base most s.data.toList=none by rw[dL,GO Z]);go_enter func82,ntmps82;go_wp2_with (go_at_call 56;refine l.mono ?_;rintro e g⟨rfl,rfl⟩)
  go_ret2
  exact⟨by rw[t,j];rfl,Fu _ _⟩
 have F:decide ((most:Int)<(s.size:Int))=false:=bG;have m:=H (show dL base most s.data.toList=qF base s.data.toList 0 by rw[dL,GP Z]);have z:∀d,D w (w.iter s d):=λd=>(Fu _ w).alloc (Fv _) _
 have a:∀d,(w.iter s d).cell? (Qz 1 0)=some (.iface 392 (.pointer (some p))):=λd=>NI (z d) N
 go_enter func82,ntmps82;go_wp2_with fail
 try simp only[B,F]
 go_loopw [8] (λv wr=>∃(d n:Nat),d<=s.size/\v=U (n:Int)/\n<18446744073709551616/\Hid (qF base s.data.toList 0=qF base (s.data.toList.drop d) n)/\wr=w.iter s d) (λ_ wr=>s.size-wr.iterPos w.heap.size);case atStart=>exact⟨0,0,Z,rfl,Z,H bH,rfl⟩
 case round=>
  obtain⟨d,n,hp,rfl,S,A,rfl⟩:=hrel;by_cases f:d<s.size
  ·have u:=λb=>run_next_any (P:=prog) w s d b f
   have G:=H (pL s d f);have q:pQ (Utf8.decode s d).1=pQ (s[d]'(f)).toNat:=by
    by_cases ha:(s[d]'(f)).toNat<128;·rw[decode_ascii s d f ha]
    rw[D6 (vL s d f ha),D6 Z]
   have x:pQ (s[d]'(f)).toNat<16->(Utf8.decode s d).2=1:=λX=>by
    by_cases ha:(s[d]'(f)).toNat<128;·rw[decode_ascii s d f ha]
    rw[D6 Z]at X;omega
   have K:=decode_le s d;generalize (Utf8.decode s d).1=r at u q K;have⟨sz,c⟩:=Qb ((Utf8.decode s d).2);rw[<-c]at u x;clear c;have o:=Kn r K (w.iter s (d+sz));have⟨c,k⟩:=Qb (pQ r);rw[<-k]at o q;have T:c<=16:=(by rw[k];exact Mm r);have⟨i,Y⟩:=y7 q x;clear k q x;by_cases L:n*base<18446744073709551616
   ·have k:=product.im_Product_yes n base S Z L (w.iter s (d+sz));by_cases d1:base<=c
    ·have x:decide ((base:Int)<=(c:Int))=true:=bG;have j:=H (show dL base most s.data.toList=none by rw[m,A,G,qI (by rw[<-i.out];omega)]);have l:=OE s p (w.iter s (d+sz)) (a (d+sz));go_wp2_with (first|(go_at_call 134;refine o.mono ?_;rintro e g⟨rfl,rfl⟩;clear o)|(go_at_call 135;refine k.mono ?_;rintro e g⟨rfl,rfl⟩;clear k)|(go_at_call 56;refine l.mono ?_;rintro e g⟨rfl,rfl⟩))
     go_ret2
     exact⟨by rw[t,j];rfl,z _⟩
    have x:decide ((base:Int)<=(c:Int))=false:=bG;by_cases O:n*base+c<18446744073709551616
    ·have y:=H (A.trans ((congrArg (qF base · n) G).trans (sL (by rw[<-i.out];omega))));rw[<-i.out]at y;have M:sz=1:=Y.out (by rw[<-i.out];omega);subst M;generalize q:n*base=nb at L k O y;clear q;have Q:decide (((nb:Int)+(c:Int))<(nb:Int))=false:=bG;go_wp2_with (first|(go_at_call 134;refine o.mono ?_;rintro e g⟨rfl,rfl⟩;clear o)|(go_at_call 135;refine k.mono ?_;rintro e g⟨rfl,rfl⟩;clear k));go_roundw;(case rel=>exact⟨d+1,nb+c,Z,aY,O,y,rfl⟩);case measure=>simp;omega
    generalize q:n*base=nb at L k O;have M:nb+c<36893488147419103232:=Z;have hw:IntKind.u64.wrap ((nb:Int)+(c:Int))=(nb:Int)+(c:Int)-18446744073709551616:=by
     simp[IntKind.wrap,IntKind.bits,IntKind.signed];omega
    have Q:decide (((nb:Int)+(c:Int)-18446744073709551616)<(nb:Int))=true:=bG;have y:=H q;clear q;have j:=H (show dL base most s.data.toList=none by rw[m,A,G,qI (by rw[<-i.out];rw[y];omega)]);have l:=OE s p (w.iter s (d+sz)) (a (d+sz));go_wp2_with (first|(go_at_call 134;refine o.mono ?_;rintro e g⟨rfl,rfl⟩;clear o)|(go_at_call 135;refine k.mono ?_;rintro e g⟨rfl,rfl⟩;clear k)|(go_at_call 56;refine l.mono ?_;rintro e g⟨rfl,rfl⟩))
    go_ret2
    exact⟨by rw[t,j];rfl,z _⟩
   have k:=product.im_Product_no n base S Z Z (w.iter s (d+sz));have q:=H L;clear L;by_cases d1:base<=c
   ·have x:decide ((base:Int)<=(c:Int))=true:=bG;have j:=H (show dL base most s.data.toList=none by rw[m,A,G,qI (by rw[<-i.out];omega)]);have l:=OE s p (w.iter s (d+sz)) (a (d+sz));go_wp2_with (first|(go_at_call 134;refine o.mono ?_;rintro e g⟨rfl,rfl⟩;clear o)|(go_at_call 135;refine k.mono ?_;rintro e g⟨rfl,rfl⟩;clear k)|(go_at_call 56;refine l.mono ?_;rintro e g⟨rfl,rfl⟩))
    go_ret2
    exact⟨by rw[t,j];rfl,z _⟩
   have x:decide ((base:Int)<=(c:Int))=false:=bG;have j:=H (show dL base most s.data.toList=none by rw[m,A,G,qI (by rw[<-i.out];have:=q.out;omega)]);have l:=OE s p (w.iter s (d+sz)) (a (d+sz));go_wp2_with (first|(go_at_call 134;refine o.mono ?_;rintro e g⟨rfl,rfl⟩;clear o)|(go_at_call 135;refine k.mono ?_;rintro e g⟨rfl,rfl⟩;clear k)|(go_at_call 56;refine l.mono ?_;rintro e g⟨rfl,rfl⟩))
   go_ret2
   exact⟨by rw[t,j];rfl,z _⟩
  have u:=λb=>run_next_end (P:=prog) w s d b f
  have j:=H (show dL base most s.data.toList=some n by rw[m,A,List.drop_eq_nil_of_le Z];rfl);go_wp2_with fail
  go_ret2
  exact⟨by rw[t,j];rfl,z _⟩
end
end Go.Proofs.YtdhegekcmmlohaaGreatDoor
namespace Go.Proofs
shelf_lay Lays.n146 Nm 146 at Tryz as Tryz.lays146
shelf_lay Lays.n229 Nm 229 at Tryz as Tryz.lays229
shelf_lay Lays.n153 Nm 153 at Tryz as Tryz.lays153
end Go.Proofs
namespace Go.Proofs
shelf_lay LaysM.n171 Nm 171 at Tryz as Tryz.laysM171
shelf_lay Lays.n283 Nm 283 at Tryz as Tryz.lays283
shelf_lay LaysM.n284 Nm 284 at Tryz as Tryz.laysM284
shelf_lay Lays.n285 Nm 285 at Tryz as Tryz.lays285
shelf_lay Lays.n169 Nm 169 at Tryz as Tryz.lays169
end Go.Proofs
namespace Go.Proofs.YtdhegekcmmlohaaGreatDoor
open Go.Proofs.Tryz Go.RowKit Go.Maps Go.Shelf Go.ChangeShapes Go.WideShapes Go.ChangeAt
section
variable {B B1 base bb k most n:Nat}{T e:TypeId}{v z:Value}{W w:World}{xs:List Value}
def dec(n:Nat):List UInt8:=Lib.decDigits n
def PtW(w:World):Prop:=Lib.TabIs prog w "internal/strconv.uint64pow10" .u64 Lib.pow10Tab
theorem PtW.below{w'}(h:PtW w)(d:D w w'):PtW w':=by
 unfold PtW Lib.TabIs World.var? at*
 cases c:prog.globalNamed "internal/strconv.uint64pow10" with
 |none=>simp[c]at h
 | some g=>
  simp only[c,Option.bind_some]at h⊢
  have a:g<w.heap.size:=by
   rcases Nat.lt_or_ge g w.heap.size with b|b
   ·exact b
   rw[Hd b]at h;simp at h
  rw[d.block g a]
  exact h
theorem wT(n:Nat)(c:n<=9223372036854775807)(w)(h:PtW w):
  QA 33 #[I (n:Int)] w λe a=>e=QJ (.string (bs (dec n)))/\D w a:=by
 refine(Any.strconv_Itoa Tryz.laysM171 (n:Int) Z Z w h).mono ?_;rintro e a⟨rfl,k,b,rfl⟩;exact⟨by rw[Lib.itoa_nonneg];rfl,Lib.below_grow _ w (Fv _) k b⟩
theorem holds0(w:QM)(T:QO)(a:Nat)(d:a<=24):Sort.Holds (λ(b:UInt8)=>Value.int .u8 (b.toNat:Int)) (w.alloc (QL Lib.zeros24 T)) w.heap.size 0 (Array.replicate a (0:UInt8)):=λj b=>by
 have c:j<a:=by simpa using b
 refine⟨?_,World.frozen?_alloc_new _ _ _ _⟩
 rw[World.cell?_alloc_new,Lib.zeros24_at _ Z,getElem!_pos _ j b]
 simp
theorem Lr(u:Nat)(m:u<18446744073709551616)(w)(h:PtW w):
  QA 65 #[U (u:Int),I 10] w λe f=>e=QJ (.string (bs (dec u)))/\D w f:=by
 have hI:QA 114 #[U (u:Int),I 10] w λe f=>e=QJ (.string (bs (dec u)))/\D w f:=by
  by_cases c:u<100
  ·have a:=Any.internal_strconv_small Tryz.lays283 u c w;have q:(u:Int)<100:=Z;have b:IntKind.i64.wrap (u:Int)=(u:Int):=(by rw[Hh];omega);go_enter func114,ntmps114;go_wp2_with fail;refine a.mono ?_;rintro e f⟨rfl,rfl⟩;go_wp2_with fail;go_ret;exact⟨rfl,Fu _ _⟩
  have i:1<=u:=Z;have n:Lib.nDigits u<=20:=by have:=Lib.numDigits_eq u i m;split at this<;>omega
  have b:prog.arrayLen 243=24:=by simp[Program.arrayLen,underlying243]
  have r:∀W,(Instr.sliceAt 243 (J w.heap.size 0) none (some (I (Lib.nDigits u:Int))) none).run prog W=.ok (Vl w.heap.size (Lib.nDigits u) 24) W:=λW=>by
   rw[run_sliceAt_array_h W 243 (Qz w.heap.size 0) (by simp[Program.arrayLen,Program.elem,underlying243]) .i64 (Lib.nDigits u:Int) Z (by rw[b];omega)];go_simp
  have a:=holds0 w 243 (Lib.nDigits u) Z;have d:=Any.internal_strconv_formatBase10 Tryz.lays285 w.heap.size 0 24 u (Array.replicate (Lib.nDigits u) 0) (w.alloc (QL Lib.zeros24 243)) a (by rw[Array.size_replicate];exact Lib.lt_pow_nDigits u) m (by rw[Array.size_replicate];omega);rw[Array.size_replicate]at d;have l:=Any.internal_strconv_numDigits Tryz.laysM284 u i m (w.alloc (QL Lib.zeros24 243)) (Lib.tabIs_alloc h _);have o:=Lib.hid a;have q:¬(u:Int)<100:=Z;go_enter func114,ntmps114;go_wp2_with fail;refine l.mono ?_;rintro e f⟨rfl,rfl⟩;go_wp2_with fail;refine d.mono ?_;rintro e f⟨rfl,k,s,g,rfl,a⟩;have p:(convert 22 9 (Vl w.heap.size (Lib.nDigits u) 24)).run prog ((Sort.putRow (λ(b:UInt8)=>Value.int .u8 (b.toNat:Int)) (w.alloc (QL Lib.zeros24 243)) w.heap.size 0 g).drewN k)=.ok (.string (bs (dec u))) ((Sort.putRow (λ(b:UInt8)=>Value.int .u8 (b.toNat:Int)) (w.alloc (QL Lib.zeros24 243)) w.heap.size 0 g).drewN k):=by
   have h:=run_convert_bytes_back (P:=prog) ((Sort.putRow (λ(b:UInt8)=>Value.int .u8 (b.toNat:Int)) (w.alloc (QL Lib.zeros24 243)) w.heap.size 0 g).drewN k) 22 9 5 (Qz w.heap.size 0) 24 (Lib.decDigits u) underlying22 underlying5 underlying9 (λj c=>by
    rw[Lib.row_is_numeral a j c,Lib.add_plain,World.cell?_drewN];exact Sort.cell?_putRow (λ(b:UInt8)=>Value.int .u8 (b.toNat:Int)) _ w.heap.size 0 _ g o (by rw[a.size,Array.size_replicate]) j (by rw[a.size];rw[Lib.decDigits_length]at c;exact c))
   rw[Lib.decDigits_length]at h;exact h
  have c:=Lib.hid (show D w ((Sort.putRow (λ(b:UInt8)=>Value.int .u8 (b.toNat:Int)) (w.alloc (QL Lib.zeros24 243)) w.heap.size 0 g).drewN k) by
   rw[Sort.alloc_eq_grow];have⟨j,_,e⟩:=Sort.putRow_grow_new (λ(b:UInt8)=>Value.int .u8 (b.toNat:Int)) w #[.cells Lib.zeros24 243] w.heap.size 0 g (Fv _);rw[e];exact Lib.below_grow _ w (Fv _) k j)
  generalize (Sort.putRow (λ(b:UInt8)=>Value.int .u8 (b.toNat:Int)) (w.alloc (QL Lib.zeros24 243)) w.heap.size 0 g).drewN k=V at p c⊢;go_wp2;go_ret;exact⟨rfl,c⟩
 go_enter func65,ntmps65;go_wp2_with fail;refine hI.mono ?_;rintro e f⟨rfl,a⟩;go_wp2_with fail;go_ret;exact⟨rfl,a⟩
end
end Go.Proofs.YtdhegekcmmlohaaGreatDoor
