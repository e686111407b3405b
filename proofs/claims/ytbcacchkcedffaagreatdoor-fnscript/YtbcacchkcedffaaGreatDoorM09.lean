import Derived.Lib.AppendIntMem
import Derived.Shelf.Lay
import Derived.Shelf.Strconv.Itoa3
import Derived.Shelf.Strings.BuilderK
import Derived.Shelf.Strings.FieldsFuncAny
import Derived.Shelf.Strings.IndexAnyAll
import Derived.Shelf.Strings.Split
import Derived.Stop.Asserts
import Derived.Test.YtbcacchkcedffaaGreatDoorM02
set_option linter.all false
set_option maxRecDepth 20000
set_option maxHeartbeats 0
namespace Go.Proofs
shelf_lay Lays.n146 Nm 146 at Tryz as Tryz.lays146
shelf_lay Lays.n229 Nm 229 at Tryz as Tryz.lays229
shelf_lay Lays.n153 Nm 153 at Tryz as Tryz.lays153
shelf_lay LaysM.n171 Nm 171 at Tryz as Tryz.laysM171
shelf_lay Lays.n283 Nm 283 at Tryz as Tryz.lays283
shelf_lay LaysM.n284 Nm 284 at Tryz as Tryz.laysM284
shelf_lay Lays.n285 Nm 285 at Tryz as Tryz.lays285
shelf_lay Lays.n169 Nm 169 at Tryz as Tryz.lays169
namespace YtbcacchkcedffaaGreatDoor
open Go.Proofs.Tryz Go.RowKit Go.Maps Go.Shelf Go.ChangeShapes Go.WideShapes Go.ChangeAt
section
variable {B B1 R base bb cap k len most n p p':Nat}{T e:TypeId}{v z:Value}{W W' b0 w w0:World}{xs:List Value}{zs:List Int}{a:Option Addr}
def pQ(b:Nat):Nat:=if 48<=b/\b<=57 then b-48 else if 97<=b/\b<=102 then b-87 else if 65<=b/\b<=70 then b-55 else 16
def qF(base:Nat):List UInt8->Nat->Option Nat
 |[],n=>some n
 |c::r,n=>if pQ c.toNat<base/\n*base+pQ c.toNat<18446744073709551616 then qF base r (n*base+pQ c.toNat)else none
def dL(base most:Nat)(l:List UInt8):Option Nat:=if 1<=l.length/\l.length<=most then qF base l 0 else none
def C5(l:List UInt8):Nat:=match l with |[]=>0|c::_=>c.toNat
def tJ(l:List UInt8):Option Int:=if C5 l=45 then(dL 10 9 l.tail).map (λn:Nat=> -(n:Int))else(dL 10 9 l).map (λn:Nat=>(n:Int))
def yt(b:UInt8):Bool:=b.toNat==43 || b.toNat==45
def OY(l:List UInt8):Nat:=l.findIdx yt
def yZ(n:Nat):Nat:=(18446744073709551616-n)%18446744073709551616
def wj(l:List UInt8):Option (Nat×Nat):=
 (dL 10 3 (l.take (OY l))).bind λk=>if k=0 then none else if OY l=l.length then some (k,0)else(dL 10 9 (l.drop (OY l+1))).map (λn:Nat=>(k,if C5 (l.drop (OY l))=45 then yZ n else n))
def d_(l:List UInt8):Option (Nat×Nat):=if C5 l=36 then wj l.tail else(dL 10 20 l).map (λn:Nat=>(0,n))
def oK(l:List UInt8):Bool:=l.all λb=>pQ b.toNat<16
def iN(l:List UInt8):List Nat:=l.map λb=>pQ b.toNat
def mN:List Nat->List Nat
 |a::b::r=>(a*16+b)::mN r
 |_=>[]
def yf(l:List UInt8):Option Nat:=dL 16 16 l
def qG(l:List UInt8):Option (List Nat):=if l.length%2=0/\oK l/\0<l.length then some (mN (iN l))else none
def Mm(b):pQ b<=16:=by unfold pQ;split<;>(try split)<;>(try split)<;>omega
def JA(b):pQ b<10↔48<=b/\b<=57:=by unfold pQ;split<;>(try split)<;>(try split)<;>omega
def LH{b:Nat}(h:48<=b/\b<=57):pQ b=b-48:=by unfold pQ;rw[GP h]
def JI{base}: ∀(l:List UInt8)(n m:Nat),n<18446744073709551616->qF base l n=some m->m<18446744073709551616
 |[],n,m,a,h=>by simp[qF]at h;omega
 |c::r,n,m,a,h=>by
  unfold qF at h
  split at h
  .rename_i b;exact JI r _ m b.2 h
  cases h
def tR{l}{m:Nat}(h:dL base most l=some m):m<18446744073709551616:=by
 unfold dL at h;split at h;.exact JI l 0 m Z h
 cases h
def rN(o:Option Nat):Value:=.tuple #[U ((o.getD 0:Nat):Int),.bool o.isSome]
def pL(s:ByteArray)(k:Nat)(h:k<s.size):s.data.toList.drop k=s[k]::s.data.toList.drop (k+1):=by rw[List.drop_eq_getElem_cons (by simpa using h)];rfl
def EO(s:ByteArray)(k:Nat)(h:k<s.size):s[k].toNat<256:=UInt8.toNat_lt _
def qI{c:UInt8}{r:List UInt8}(h:¬(pQ c.toNat<base/\n*base+pQ c.toNat<18446744073709551616)):qF base (c::r) n=none:=by rw[qF,GO h]
def sL{c:UInt8}{r:List UInt8}(h:pQ c.toNat<base/\n*base+pQ c.toNat<18446744073709551616):qF base (c::r) n=qF base r (n*base+pQ c.toNat):=by rw[qF,GP h]
def qN(s:ByteArray)(most:Nat)(w:QM)(u:s.size<=1048576)(v:most<=20):
  QA 41 #[.string s,I most] w λe q=>e=QJ (rN (dL 10 most s.data.toList))/\q=w:=by
 let⟨R,a⟩:=Qb (rN (dL 10 most s.data.toList));rw[<-a];have c:=H a;clear a;let r:s.data.toList.length=s.size:=bH;by_cases x:s.size<1
 .go_enter func41,ntmps41;go_wp2
  go_ret2
  refine⟨?_,rfl⟩;rw[c,dL,GO Z];rfl
 by_cases y:most<s.size
 .go_enter func41,ntmps41;go_wp2
  go_ret2
  refine⟨?_,rfl⟩;rw[c,dL,GO Z];rfl
 let a:=H (show dL 10 most s.data.toList=qF 10 s.data.toList 0 by rw[dL,GP Z]);go_enter func41,ntmps41;go_wp2;go_loopw [6,7] (λn i wr=>∃(k m:Nat),k<=s.size/\n=U m/\i=I k/\m<18446744073709551616/\Hid (qF 10 s.data.toList 0=qF 10 (s.data.toList.drop k) m)/\wr=w) (λ_ i _=>s.size-(intOf i).toNat);case atStart=>exact⟨0,0,Z,rfl,rfl,Z,H bH,rfl⟩
 case round=>
  obtain⟨k,m,z,rfl,rfl,t,hv,rfl⟩:=hrel;by_cases d:k<s.size
  .let g:=H (pL s k d);let A:=EO s k d;refine(let_mvar%?A:=s[k].toNat;?_);by_cases B:?A<48
   .let f:((?A:Nat):Int)<48:=Z;go_wp2
    go_ret2
    refine⟨?_,rfl⟩;rw[c,a,hv,g,qI (by rw[JA];omega)];rfl
   by_cases F:57<?A
   .let f:¬((?A:Nat):Int)<48:=Z;let l:=Z;go_wp2
    go_ret2
    refine⟨?_,rfl⟩;rw[c,a,hv,g,qI (by rw[JA];omega)];rfl
   let f:=Z;let l:=Z;let j:=LH (b:=?A) Z;by_cases G:m*10+(?A-48)<18446744073709551616
   .let o:¬((18446744073709551615-(((?A:Nat):Int)-48))/10<(m:Int)):=Z;let p:=H (hv.trans ((congrArg (qF 10 · m) g).trans (sL (by rw[j];omega))));rw[j]at p;clear j;go_wp2;go_roundw;(exact⟨k+1,m*10+(?A-48),Z,aY,aY,Z,p,trivial⟩);exact QE
   let o:=Z;go_wp2
   go_ret2
   refine⟨?_,rfl⟩;rw[c,a,hv,g,qI (by rw[j];omega)];rfl
  go_wp2
  go_ret2
  refine⟨?_,rfl⟩;let g:k=s.size:=Z;let f:=hv.out;rw[g,<-r,List.drop_length]at f;rw[c,a,f];rfl
def ext_list(s:ByteArray)(a b:Nat):(s.extract a b).data.toList=(s.data.toList.drop a).take (b-a):=by simp[ByteArray.data_extract,Array.toList_extract,List.extract]
def ext_size(s:ByteArray)(a b:Nat):(s.extract a b).size=min b s.size-a:=bH
def sD(s:ByteArray):(s.extract 1 s.size).data.toList=s.data.toList.tail:=by rw[ext_list,<-List.drop_one];exact Ge bH
def vY(s:ByteArray)(h:0<s.size):C5 s.data.toList=s[0].toNat:=by have:=pL s 0 h;rw[IE]at this;rw[this];rfl
def xm(s:ByteArray)(h:¬0<s.size):s.data.toList=[]:=Ik (by rw[show s.data.toList.length=s.size by simp];omega)
def EI:∀(l:List UInt8)(n m:Nat),qF 10 l n=some m->m<(n+1)*10 ^ l.length
 |[],n,m,h=>by simp[qF]at h;subst h;simp
 | c::r,n,m,h=>by
  unfold qF at h
  split at h
  .rename_i a
   have:=EI r _ m h
   apply FG this
   rw[FN,Nat.pow_succ',<-Nat.mul_assoc]
   exact Gm _ Z
  cases h
def sO{l}{m:Nat}(h:dL 10 most l=some m):m<10 ^ most:=by
 unfold dL at h;split at h
 .rename_i a;have:=EI l 0 m h;rw[Oi,GF]at this;exact FG this (Nat.pow_le_pow_right Z a.2)
 cases h
def xF(l):(dL 10 most l).getD 0<10 ^ most:=by
 cases h:dL 10 most l with
 |none=>simp;exact Nat.pow_pos Z
 |some m=>exact sO h
def rI(o:Option Int):Value:=.tuple #[I (o.getD 0),.bool o.isSome]
def MS(o:Option Nat):rI (o.map (λn:Nat=>(n:Int)))=.tuple #[I ((o.getD 0:Nat):Int),.bool o.isSome]:=by cases o<;>rfl
def MI(o:Option Nat):rI (o.map (λn:Nat=> -(n:Int)))=.tuple #[I (-((o.getD 0:Nat):Int)),.bool o.isSome]:=by cases o<;>rfl
def Kx(s:ByteArray)(w:QM)(m:s.size<=1048576):
  QA 44 #[.string s] w λe i=>e=QJ (rI (tJ s.data.toList))/\i=w:=by
 let⟨R,a⟩:=Qb (rI (tJ s.data.toList));rw[<-a];let j:=H a;by_cases f:C5 s.data.toList=45
 .let g:0<s.size:=by
   by_cases g:0<s.size;.exact g
   rw[xm s g]at f;cases f
  refine(let_mvar%?A:=dL 10 9 s.data.toList.tail;?_);have b:=H (show R=.tuple #[I (-(((?A).getD 0:Nat):Int)),.bool (?A).isSome] by rw[j,tJ,GP f,MI]);rw[vY s g]at f;let k:=Z;let a:=qN (s.extract 1 s.size) 9 w (by rw[ext_size];omega) Z;rw[sD]at a;have c:=xF (most:=9) s.data.toList.tail;unfold rN at a;generalize (?A).getD 0=d at a c b;let l:=c;generalize (?A).isSome=o at a b;go_enter func44,ntmps44;go_wp2_with (go_at_call 41;apply a.mono;rintro e i⟨rfl,rfl⟩)
  go_ret2
  exact⟨by rw[b];rfl,rfl⟩
 refine(let_mvar%?B:=dL 10 9 s.data.toList;?_);have b:=H (show R=.tuple #[I (((?B).getD 0:Nat):Int),.bool (?B).isSome] by rw[j,tJ,GO f,MS]);have a:=qN s 9 w m Z;have c:=xF (most:=9) s.data.toList;unfold rN at a;generalize (?B).getD 0=d at a c b;let l:=c;generalize (?B).isSome=o at a b;by_cases g:0<s.size
 .rw[vY s g]at f;let k:=Z;go_enter func44,ntmps44;go_wp2_with (go_at_call 41;apply a.mono;rintro e i⟨rfl,rfl⟩)
  go_ret2
  exact⟨by rw[b];rfl,rfl⟩
 go_enter func44,ntmps44;go_wp2_with (go_at_call 41;apply a.mono;rintro e i⟨rfl,rfl⟩)
 go_ret2
 exact⟨by rw[b];rfl,rfl⟩
def Nq(o:Option (Nat×Nat))(v:Value):Prop:=∃r p:Nat,r<1000/\p<18446744073709551616/\v=.tuple #[I r,U p,.bool o.isSome]/\∀x,o=some x->x=(r,p)
def AX{l:List UInt8}{j:Nat}{c:UInt8}(h:l.drop j=c::l.drop (j+1)):j+(l.drop j).findIdx yt=if yt c then j else j+1+(l.drop (j+1)).findIdx yt:=by
 rw[h,List.findIdx_cons];cases yt c<;>simp
 omega
def Lh(l):OY l<=l.length:=List.findIdx_le_length
def Dp(l):(dL base most l).getD 0<18446744073709551616:=by
 cases h:dL base most l with
 |none=>simp
 |some m=>exact tR h
def EG{d:Nat}(h:d<18446744073709551616):IntKind.u64.wrap (-(d:Int))=((yZ d:Nat):Int):=by simp[IntKind.wrap,IntKind.bits,IntKind.signed,yZ];omega
def IW(s:ByteArray)(w:QM)(k:s.size<=1048576)(j:¬C5 s.data.toList=36):
  QA 42 #[.string s] w λe g=>∃v,e=QJ v/\Nq (d_ s.data.toList) v/\g=w:=by
 have c:=qN s 20 w k Z;let f:=H (show d_ s.data.toList=(dL 10 20 s.data.toList).map (λn:Nat=>(0,n)) by rw[d_,GO j]);have i:=Dp (base:=10) (most:=20) s.data.toList;let⟨o,a⟩:=Qb (dL 10 20 s.data.toList);rw[<-a]at c f i;have b:∀v,v=rN o->∃r p:Nat,r<1000/\p<18446744073709551616/\(Value.tuple #[I 0,U ((o.getD 0:Nat):Int),.bool o.isSome])=.tuple #[I r,U p,.bool (d_ s.data.toList).isSome]/\∀x,d_ s.data.toList=some x->x=(r,p):=by
  intro v hv;refine⟨0,o.getD 0,Z,i,by rw[f];cases o<;>rfl,λx a=>?_⟩;rw[f]at a;cases o with
  |none=>cases a
  |some n=>simpa using a.symm
 have a:=H (b _ rfl);unfold rN at c;generalize o.getD 0=d at c i a;generalize o.isSome=b at c a;by_cases l:0<s.size
 .rw[vY s l]at j;let m:=Z;let f:((s.size:Int)==0)=false:=by rw[QF];omega
  go_enter func42,ntmps42;go_wp2_with (go_at_call 41;apply c.mono;rintro e g⟨rfl,rfl⟩)
  go_ret3
  exact⟨_,rfl,a,rfl⟩
 let f:s.size=0:=Z;go_enter func42,ntmps42;go_wp2_with (go_at_call 41;apply c.mono;rintro e g⟨rfl,rfl⟩)
 go_ret3
 exact⟨_,rfl,a,rfl⟩
def D8(s:ByteArray)(w:QM)(W:s.size<=1048576)(a:C5 s.data.toList=36):
  Calls prog 42 #[.string s] w λe r=>∃v,e=QJ v/\Nq (d_ s.data.toList) v/\r=w:=by
 have M:0<s.size:=by
  by_cases M:0<s.size;·exact M
  rw[xm s M]at a;cases a
 have⟨t,c⟩:=Qb (s.extract 1 s.size);have P:t.size<=1048576:=by rw[c,ext_size];omega
 have⟨l,f⟩:=Qb t.data.toList;have b:s.data.toList.tail=l:=by rw[f,c,sD]
 have m:l.length=t.size:=by rw[f];simp
 have g:d_ s.data.toList=wj l:=by rw[d_,GP a,b]
 rw[g];clear g;rw[vY s M]at a;have Q:((s[0].toNat:Nat):Int)=36:=Z;have R:((s.size:Int)==0)=false:=by rw[QF];omega
 have⟨N,F⟩:=y7 c f;clear c f b a;go_wp2;rw[<-N.out];go_loopw [7,8] (λc i wr=>∃(j k:Nat),j<=t.size/\i=I ((j:Int)-1)/\c=I (k:Int)/\Hid (k=j+(l.drop j).findIdx yt)/\wr=w) (λ_ i _=>(intOf i+1).toNat);case atStart=>exact⟨t.size,t.size,gi,by rw[N,ext_size];go_num,by rw[N,ext_size];go_num,H (by rw[<-m,List.drop_length];rfl),rfl⟩
 case round=>
  obtain⟨j,k,X,rfl,rfl,O,rfl⟩:=hrel;rcases j with _|j
  ·have a:k=OY l:=(by rw[O];simp[OY]);have S:k<=t.size:=(by rw[a,<-m];exact Lh l);have b:=H (show wj l=(dL 10 3 (l.take k)).bind λq=>if q=0 then none else if k=l.length then some (q,0)else(dL 10 9 (l.drop (k+1))).map (λn:Nat=>(q,if C5 (l.drop k)=45 then yZ n else n)) by rw[a];rfl);clear O a;have T:(((0:Nat):Int)-1) = -1:=Z;rw[T];have c:=qN (t.extract 0 k) 3 wr (by rw[ext_size];omega) Z;rw[ext_list,IE,Nat.sub_zero,<-F.out]at c;have y:=xF (most:=3) (l.take k);have⟨o,B⟩:=Qb (dL 10 3 (l.take k));rw[<-B]at c b y;clear B;have a:o.getD 0<1000:=y;clear y;rcases o with _|q
   ·have f:Hid (wj l=none):=b;clear a;unfold rN at c;go_wp2_with (go_at_call 41;refine c.mono ?_;rintro e r⟨rfl,rfl⟩)
    go_ret3
    exact⟨_,rfl,⟨0,0,Z,Z,by rw[f];rfl,λx g=>by rw[f]at g;cases g⟩,rfl⟩
   have A:q<1000:=a;clear a;have c:QA 41 #[.string (t.extract 0 k),I 3] wr λe r=>e=QJ (.tuple #[U (q:Int),.bool true])/\r=wr:=c
   by_cases G:q=0
   ·subst G;have f:=H (show wj l=none by rw[b,Option.bind_some,GP rfl]);clear A;go_wp2_with (go_at_call 41;refine c.mono ?_;rintro e r⟨rfl,rfl⟩)
    go_ret3
    exact⟨_,rfl,⟨0,0,Z,Z,by rw[f];rfl,λx g=>by rw[f]at g;cases g⟩,rfl⟩
   have V:((q:Int)==0)=false:=(by rw[QF];omega);by_cases u:k=t.size
   ·have f:=H (show wj l=some (q,0) by rw[b,Option.bind_some,GO G,GP (by rw[u,m])]);have K:((k:Int)==(t.size:Int))=true:=(by rw[beq_iff_eq];omega);clear G u;go_wp2_with (go_at_call 41;refine c.mono ?_;rintro e r⟨rfl,rfl⟩)
    go_ret3
    exact⟨_,rfl,⟨q,0,A,Z,by rw[f];rfl,λx g=>by rw[f]at g;simpa using g.symm⟩,rfl⟩
   have L:k<t.size:=Z;have K:((k:Int)==(t.size:Int))=false:=(by rw[QF];omega);have a:=qN (t.extract (k+1) t.size) 9 wr (by rw[ext_size];omega) Z;refine(let_mvar%?B:=t[k].toNat;?_);have z:C5 (l.drop k)=?B:=(by rw[F,pL t k L];rfl);rw[ext_list,Ge (by rw[List.length_drop,<-F.out,m];omega),<-F.out]at a;have y:=Dp (base:=10) (most:=9) (l.drop (k+1));have⟨o,B⟩:=Qb (dL 10 9 (l.drop (k+1)));have f:=H (show wj l=o.map (λn:Nat=>(q,if ?B=45 then yZ n else n)) by rw[b,Option.bind_some,GO G,GO (by rw[m];exact u),B,z]);rw[<-B]at a y;clear B G u z;unfold rN at a;have b:∀p:Nat,p=(if ?B=45 then yZ (o.getD 0)else o.getD 0)->Nq (wj l) (.tuple #[I (q:Int),U (p:Int),.bool o.isSome]):=by
    intro p z;have u:p<18446744073709551616:=(by rw[z];split<;>(try unfold yZ)<;>omega);refine⟨q,p,A,u,by rw[f];simp,λx g=>?_⟩;rw[f]at g;cases o with
    |none=>cases g
    |some n=>rw[z];simpa using g.symm
   have u:=H b;clear b;generalize o.getD 0=d at a y u;generalize o.isSome=b at a u;by_cases z:?B=45
   ·have B:(((?B:Nat):Int)==45)=true:=(by rw[beq_iff_eq];omega);go_wp2_with fail;refine c.mono ?_;rintro e r⟨rfl,rfl⟩;go_wp2_with fail;refine a.mono ?_;rintro e r⟨rfl,rfl⟩;go_wp2
    go_ret3
    refine⟨_,rfl,?_,rfl⟩;have G:=u.out (yZ d) (by rw[GP z]);rw[<-EG y]at G;exact G
   have B:(((?B:Nat):Int)==45)=false:=(by rw[QF];omega);go_wp2_with fail;refine c.mono ?_;rintro e r⟨rfl,rfl⟩;go_wp2_with fail;refine a.mono ?_;rintro e r⟨rfl,rfl⟩;go_wp2
   go_ret3
   exact⟨_,rfl,u d (by rw[GO z]),rfl⟩
  have c:(((j+1:Nat):Int)-1)=(j:Int):=Z;rw[c];have g:=H (pL t j Z);rw[<-F.out]at g;have a:=H (AX g);have y:=EO t j Z;refine(let_mvar%?A:=t[j].toNat;?_);by_cases q:?A=43
  ·have b:((?A:Nat):Int)=43:=Z;go_wp2;go_roundw;(exact⟨j,j,Z,aY,rfl,H (by rw[a,GP (by simp[yt,q])]),trivial⟩);case measure=>simp[intOf];try omega
  by_cases u:?A=45
  ·have b:(((?A:Nat):Int)==43)=false:=(by rw[QF];omega);have f:((?A:Nat):Int)=45:=Z;go_wp2;go_roundw;(exact⟨j,j,Z,aY,rfl,H (by rw[a,GP (by simp[yt,u])]),trivial⟩);case measure=>simp[intOf];try omega
  have b:(((?A:Nat):Int)==43)=false:=by rw[QF];omega
  have f:(((?A:Nat):Int)==45)=false:=by rw[QF];omega
  go_wp2;go_roundw;exact⟨j,k,Z,aY,rfl,H (by rw[a,GO (by simp[yt,q,u])];exact O),trivial⟩
  case measure=>simp[intOf];try omega
def I7(s:ByteArray)(w:QM)(a:s.size<=1048576):
  QA 42 #[.string s] w λe c=>∃v,e=QJ v/\Nq (d_ s.data.toList) v/\c=w:=by
 by_cases b:C5 s.data.toList=36;.exact D8 s w a b
 exact IW s w a b
structure Kt(T e:QO)(z:QN)(sz bb:Nat):Prop where
 und:prog.underlying T=some (.slice e)
 info:(prog.info? e).map (λi=>(i.zero,i.size,i.bytes))=some (some z,sz,bb)
 cells:z.cells.size=sz
 pos:0<sz
 small:bb<=100
def ql:Kt 22 5 (.int .u8 0) 1 1:=⟨underlying22,E,rfl,Z,Z⟩
def tE:Kt 25 3 (I 0) 1 8:=⟨underlying25,E,rfl,Z,Z⟩
def Nu:Kt 58 22 (C) 1 24:=⟨underlying58,E,rfl,Z,Z⟩
def LZ:Kt 60 9 (.string ByteArray.empty) 1 16:=⟨underlying60,E,rfl,Z,Z⟩
def Nj:Kt 28 63 (.agg #[I 0,I 0,U 0,U 0,U 0,C]) 6 64:=⟨underlying28,E,rfl,Z,Z⟩
def KZ{sz}(S:Kt T e z sz bb)(a:W.ownsRow B e sz v n xs)(l:B<=W.heap.size)(x:Addr)(m c:Nat)(b:List QN)(o:b.length=m*sz)(p:∀j u,b[j]?=some u->W.cell? (x.add j)=some u)(q:∀u∈b,u.oneCell'=true)(r:n+m<=2000000000):
  ∃f d,(Builtin.append_ #[T,T] T #[v,.slice (some x) m c]).run prog W=.ok f d/\d.ownsRow B e sz f (n+m) (xs++b)/\W.grownBy d v.ownBlock:=by
 let⟨s,g,i,j,k⟩:=G0 S.info;let t:=Nat.mul_le_mul r S.small;let⟨f,d,w,y,A,_⟩:=Ia (P:=prog) W B T T e s _ sz bb S.und g i j k S.cells S.pos v n _ a x m c b o p q (by unfold maxLen;omega) Z l;exact⟨f,d,w,y,A⟩
def Jo{sz}(S:Kt T e z sz bb){f:QM}(i:W.ownsRow f.heap.size e sz v n xs)(j:D f W)(c:Array QN)(m:c.size=sz)(o:∀u∈c.toList,u.oneCell'=true)(r:n<=2000000):
  ∃k g,(Builtin.append_ #[T,T] T #[v,Vl W.heap.size 1 1]).run prog (W.alloc (QL c e))=.ok k g/\g.ownsRow f.heap.size e sz k (n+1) (xs++c.toList)/\D f g/\(W.alloc (QL c e)).grownBy g v.ownBlock:=by
 let b:D f (W.alloc (QL c e)):=j.alloc j.size _;let a:(W.alloc (QL c e)).ownsRow f.heap.size e sz v n xs:=i.alloc _;let⟨k,g,p,q,l⟩:=KZ S a b.size (Qz W.heap.size 0) 1 1 c.toList (by simp[m]) (λj u f=>by let d:(W.alloc (QL c e)).heap[W.heap.size]?=some (QL c e):=XD;rw[Addr.add_mid,Oi,GT _ _ j _ _ _ d];simpa using f) o Z
 exact⟨k,g,p,q,b.grown l b.size (λr h=>(a.lt r h).1),l⟩
def sP(l:List UInt8)(k:Nat)(c:UInt8)(h:l.drop k=c::l.drop (k+1)):iN (l.take (k+1))=iN (l.take k)++[pQ c.toNat]/\oK (l.take (k+1))=(oK (l.take k)&&decide (pQ c.toNat<16)):=by
 let a:l[k]?=some c:=by rw[<-List.head?_drop,h];rfl
 rw[F_,a];simp[iN,oK]
def hv(l:List UInt8):List Value:=(iN l).map (λn:Nat=>Value.int .u8 (n:Int))
def Cu(l:List UInt8)(k:Nat){c:UInt8}(h:l.drop k=c::l.drop (k+1)):hv (l.take (k+1))=hv (l.take k)++[.int .u8 ((pQ c.toNat:Nat):Int)]:=by rw[hv,(sP l k c h).1,Hr];rfl
def LW{l:List UInt8}{c:UInt8}(h:l.drop k=c::l.drop (k+1))(a:¬pQ c.toNat<16):oK l=false:=by have:c∈l:=List.mem_of_mem_drop (i:=k) (by rw[h];simp);rw[oK,Bool.eq_false_iff];intro ha;exact a (by simpa using List.all_eq_true.1 ha c this)
def uc(w:QM)(e:QO)(sz:Nat):w.ownsRow w.heap.size e sz (C) 0 []:=⟨bH,.inl ⟨rfl,rfl⟩⟩
def Lf(s:ByteArray)(w:QM)(S:s.size<=1048576):
  Calls prog 43 #[.string s] w λe B=>∃v,e=QJ (.tuple #[v,.bool (oK s.data.toList&&decide (0<s.size))])/\(oK s.data.toList=false->v=C)/\(oK s.data.toList=true->B.ownsRow w.heap.size 5 1 v s.size (hv s.data.toList))/\D w B:=by
 let⟨l,a⟩:=Qb s.data.toList;have K:l.length=s.size:=by rw[a];simp
 have L:=H a;rw[<-a];clear a;let⟨b,a⟩:=Qb (oK l);rw[<-a];have F:=H a;clear a;go_wp2;go_loopw [4,5] (λv i wr=>∃(k:Nat),k<=s.size/\i=I (k:Int)/\Hid (oK (l.take k)=true)/\Hid (wr.ownsRow w.heap.size 5 1 v k (hv (l.take k)))/\Hid (D w wr)) (λ_ i _=>s.size-(intOf i).toNat);case atStart=>exact⟨0,aa,rfl,H rfl,H (uc w 5 1),H (Fu _ w)⟩
 case round=>
  obtain⟨k,T,rfl,ha,g,c⟩:=hrel;by_cases o:k<s.size
  .have j:=H (pL s k o);rw[<-L.out]at j;refine(let_mvar%?A:=s[k].toNat;?_);by_cases x:48<=?A/\?A<=57
   ·have y:decide ((48:Int)<=((?A:Nat):Int))=true:=bG;have f:pQ s[k].toNat=?A-48:=(by unfold pQ;rw[GP x]);have d:((pQ s[k].toNat:Nat):Int)=((?A:Nat):Int)-48:=(by rw[f];omega);have⟨p,q,r,m,n,t⟩:=Jo ql g c #[.int .u8 (((?A:Nat):Int)-48)] rfl mL Z;have u:=H (show q.ownsRow w.heap.size 5 1 p (k+1) (hv (l.take (k+1))) by rw[Cu l k j,d];exact m);have a:=H (show oK (l.take (k+1))=true by rw[(sP l k _ j).2,ha];simp;omega);have B1:=H n;clear m n t f d g c ha;go_wp2_with (at_builtin;refine up r ?_);go_roundw;(exact⟨k+1,Z,aY,a,u,B1⟩);exact QE
   by_cases y:97<=?A/\?A<=102
   .let z:decide ((48:Int)<=((?A:Nat):Int))=true:=bG;let A:decide (((?A:Nat):Int)<=57)=false:=bG;let G:decide ((97:Int)<=((?A:Nat):Int))=true:=bG;have f:pQ s[k].toNat=?A-87:=(by unfold pQ;rw[GO x,GP y]);have d:((pQ s[k].toNat:Nat):Int)=((?A:Nat):Int)-97+10:=(by rw[f];omega);have⟨p,q,r,m,n,t⟩:=Jo ql g c #[.int .u8 (((?A:Nat):Int)-97+10)] rfl mL Z;have u:=H (show q.ownsRow w.heap.size 5 1 p (k+1) (hv (l.take (k+1))) by rw[Cu l k j,d];exact m);have a:=H (show oK (l.take (k+1))=true by rw[(sP l k _ j).2,ha];simp;omega);have B1:=H n;clear m n t f d g c ha;go_wp2_with (at_builtin;refine up r ?_);go_roundw;(exact⟨k+1,Z,aY,a,u,B1⟩);exact QE
   by_cases G:65<=?A/\?A<=70
   .let z:decide ((48:Int)<=((?A:Nat):Int))=true:=bG;have A:decide (((?A:Nat):Int)<=57)=false:=bG;have O:decide ((97:Int)<=((?A:Nat):Int))=false:=bG;have P:decide ((65:Int)<=((?A:Nat):Int))=true:=bG;have f:pQ s[k].toNat=?A-55:=(by unfold pQ;rw[GO x,GO y,GP G]);have d:((pQ s[k].toNat:Nat):Int)=((?A:Nat):Int)-65+10:=(by rw[f];omega);have⟨p,q,r,m,n,t⟩:=Jo ql g c #[.int .u8 (((?A:Nat):Int)-65+10)] rfl mL Z;have u:=H (show q.ownsRow w.heap.size 5 1 p (k+1) (hv (l.take (k+1))) by rw[Cu l k j,d];exact m);have a:=H (show oK (l.take (k+1))=true by rw[(sP l k _ j).2,ha];simp;omega);have B1:=H n;clear m n t f d g c ha;go_wp2_with (at_builtin;refine up r ?_);go_roundw;(exact⟨k+1,Z,aY,a,u,B1⟩);exact QE
   have f:pQ s[k].toNat=16:=(by unfold pQ;rw[GO x,GO y,GO G]);have O:Hid (b=false):=(F.trans (LW j (by rw[f];omega)));have P:=Z;clear f;go_wp2
   all_goals first|(exfalso;omega)|skip
   all_goals(try go_ret2)
   all_goals(rw[O])
   all_goals exact⟨_,rfl,(λ_=>rfl),(λh=>by cases h),c⟩
  let a:k=s.size:=Z;let d:l.take k=l:=Ge Z;rw[d]at ha g;let⟨f,j⟩:=y7 (F.trans ha) a;clear d a;go_wp2
  go_ret2
  rw[f];exact⟨_,by simp;try omega,(λh=>by cases h),λ_=>j.out▸g.out,c⟩
def kn:List UInt8->List UInt8->List (List UInt8)
 |[],_=>[]
 |c::r,e=>if c.toNat=10 then e::kn r []else if r=[]then[e++[c]]else kn r (e++[c])
def bv(l:List UInt8):List Value:=l.map (λb:UInt8=>Value.int .u8 ((b.toNat:Nat):Int))
def rb(l):(bv l).length=l.length:=by simp[bv]
def L5(l:List UInt8)(c:UInt8):bv (l++[c])=bv l++[.int .u8 ((c.toNat:Nat):Int)]:=by simp[bv]
def uE(l:List UInt8)(i:Nat)(h:i<l.length):(bv l)[i]?=some (.int .u8 ((l[i].toNat:Nat):Int)):=by simp[bv,h]
def LnS(B1:Nat)(W:World)(u:Value)(l:List UInt8):Prop:=(u=C/\l=[])\/∃g c,u=Vl g l.length c/\(g<B1/\l.length<=c)/\RowV W g 5 (bv l)
def LnS.mono{a:Nat}{u l}(h:LnS B1 W u l)(f:B1<=a):LnS a W u l:=by
 rcases h with h|⟨g,c,b,d,e⟩;.exact .inl h
 exact .inr ⟨g,c,b,⟨Z,d.2⟩,e⟩
def LnS.keep{u l}(h:LnS B1 W u l)(d:∀g,g<B1->∀x,W.heap[g]?=some (QL x 5)->W'.heap[g]?=W.heap[g]?):LnS B1 W' u l:=by
 rcases h with h|⟨g,c,e,a,⟨x,b,f⟩⟩;.exact .inl h
 exact .inr ⟨g,c,e,a,x,by rwa[d g a.1 x b],f⟩
def ts{sz:Nat}(h:W.ownsRow B e sz v n xs){r:Nat}(a:v.ownBlock=some r):∃x,W.heap[r]?=some (QL x e):=by
 rcases h.2 with⟨rfl,d⟩|⟨g,cap,b,rfl,f,c,i,j,k,l⟩;.cases a
 simp[Value.ownBlock]at a;subst a;exact⟨_,c⟩
def OH{i:Nat}{f a:QO}{j k:Nat}{b g:QN}{l m:Nat}{n o:List QN}(p:W.ownsRow B1 f j b l n)(q:W.ownsRow i a k g m o)(c:f≠a):b.ownBlock=none\/b.ownBlock≠g.ownBlock:=by
 cases e:b.ownBlock with
 |none=>exact .inl rfl
 |some r=>refine .inr λa=>?_;let⟨x,s⟩:=ts p e;let⟨y,d⟩:=ts q a.symm;rw[s]at d;simp at d;exact c d.2
def Re{sz:Nat}(h:W.ownsRow B e sz v n xs):∃a m c,v=.slice a m c/\m=n:=by
 rcases h.2 with⟨rfl,b⟩|⟨g,cap,c,rfl,_⟩;.exact⟨none,0,0,rfl,b.symm⟩
 exact⟨_,_,_,rfl,rfl⟩
def Mt{l:List UInt8}(h:W.ownsRow B 5 1 v l.length (bv l)):LnS W.heap.size W v l:=by
 rcases h.2 with⟨rfl,a⟩|⟨g,cap,b,rfl,d,c,e,f,i,j⟩;.exact .inl ⟨rfl,Ik a⟩
 exact .inr ⟨g,cap,rfl,⟨G_ c,Z⟩,RowV.ofOwns h⟩
def DL{sz}(S:Kt T e z sz bb)(d:W.ownsRow B e sz v n xs)(r:B<=W.heap.size)(c:Array QN)(j:c.size=sz)(m:∀u∈c.toList,u.oneCell'=true)(s:n<=2000000):
  ∃i f,(Builtin.append_ #[T,T] T #[v,Vl W.heap.size 1 1]).run prog (W.alloc (QL c e))=.ok i f/\f.ownsRow B e sz i (n+1) (xs++c.toList)/\W.grownBy f v.ownBlock:=by
 let a:(W.alloc (QL c e)).ownsRow B e sz v n xs:=d.alloc _;let l:W.heap.size<=(W.alloc (QL c e)).heap.size:=((Fu W.heap.size W).alloc gi _).size;let⟨i,f,o,p,g⟩:=KZ S a Z (Qz W.heap.size 0) 1 1 c.toList (by simp[j]) (λj u a=>by let b:(W.alloc (QL c e)).heap[W.heap.size]?=some (QL c e):=XD;rw[Addr.add_mid,Oi,GT _ _ j _ _ _ b];simpa using a) m Z
 refine⟨i,f,o,p,⟨g.os,g.tape,g.output,Fx l g.size,λk q b=>?_⟩⟩;rw[g.block k Z b,eg _ _ _ q]
def OW{c:UInt8}{r a:List UInt8}:kn (c::r) a=if c.toNat=10 then a::kn r []else if r=[]then[a++[c]]else kn r (a++[c]):=rfl
structure LnI(w W:QM)(l:List UInt8)(k:Nat)(v lv:QN)(ps:List (QN×List UInt8))(cur:List UInt8)(B1:Nat):Prop where
 eq:kn l []=ps.map (·.2)++kn (l.drop k) cur
 ou:W.ownsRow w.heap.size 22 1 v ps.length (ps.map (·.1))
 line:W.ownsRow B1 5 1 lv cur.length (bv cur)
 b1:w.heap.size<=B1
 b2:B1<=W.heap.size
 done:∀p∈ps,LnS B1 W p.1 p.2
 bel:D w W
 n1:ps.length<=k
 n2:cur.length<=k
def LnI.start(w l):LnI w w l 0 (C) (C) [] [] w.heap.size:=
 ⟨bH,uc w 22 1,uc w 5 1,gi,gi,bH,Fu _ w,bH,bH⟩
def LnI.byte{l lv ps cur}(h:LnI w W l k v lv ps cur B1)(c:UInt8)(o:l.drop k=c::l.drop (k+1))(i:¬c.toNat=10)(q:k<=1048576):
  ∃a W',(Builtin.append_ #[22,22] 22 #[lv,Vl W.heap.size 1 1]).run prog (W.alloc (QL #[.int .u8 ((c.toNat:Nat):Int)] 5))=.ok a W'/\W'.ownsRow w.heap.size 22 1 v ps.length (ps.map (·.1))/\W'.ownsRow B1 5 1 a (cur++[c]).length (bv (cur++[c]))/\B1<=W'.heap.size/\(∀p∈ps,LnS B1 W' p.1 p.2)/\D w W':=by
 let⟨a,W',j,m,b⟩:=DL ql h.line h.b2 #[.int .u8 ((c.toNat:Nat):Int)] rfl mL (by have:=h.n2;omega);let d:∀g,g<B1->some g≠lv.ownBlock:=λg f e=>by have:=(h.line.lt g e.symm).1;omega
 refine⟨a,W',j,?_,?_,Fx h.b2 b.size,λp n=>?_,?_⟩;.exact h.ou.kept b (OH h.ou h.line ar)
 .rwa[L5,FC]
 .exact(h.done p n).keep λg f x r=>b.block g (by have:=h.b2;omega) (d g f)
 exact h.bel.grown b h.bel.size (λr e=>by have:=(h.line.lt r e).1;have:=h.b1;omega)
def JF{b:QN}{ps:List (QN×List UInt8)}{a:List UInt8}(f:W.ownsRow w.heap.size 22 1 v ps.length (ps.map (·.1)))(o:W.ownsRow B1 5 1 b a.length (bv a))(s:B1<=W.heap.size)(t:∀p∈ps,LnS B1 W p.1 p.2)(i:D w W)(B:ps.length<=1048577):
  ∃d W',QI 58 v (Vl W.heap.size 1 1) (W.alloc (QL #[b] 22)) d W'/\W'.ownsRow w.heap.size 22 1 d (ps++[(b,a)]).length ((ps++[(b,a)]).map (·.1))/\(∀p∈ps++[(b,a)],LnS W'.heap.size W' p.1 p.2)/\D w W':=by
 let j:b.oneCell'=true:=by rcases o.2 with⟨rfl,k⟩|⟨g,cap,c,rfl,_⟩<;>rfl
 let⟨d,W',u,z,k⟩:=DL Nu f i.size #[b] rfl (by simpa using j) Z;let l:∀g x,W.heap[g]?=some (QL x 5)->some g≠v.ownBlock:=λg x m e=>by let⟨y,c⟩:=ts f e.symm;rw[m]at c;simp at c
 refine⟨d,W',u,by simpa using z,λp c=>?_,i.grown k i.size (λr e=>(f.lt r e).1)⟩;let r:∀n,n<=W.heap.size->∀q:QN×List UInt8,LnS n W q.1 q.2->LnS W'.heap.size W' q.1 q.2:=λn y q A=>(A.keep λg d x m=>k.block g Z (l g x m)).mono (by have:=k.size;omega)
 rcases F8.1 c with c|c;.exact r B1 s p (t p c)
 simp at c;subst c;exact r W.heap.size gi (b,a) (Mt o)
def LnI.fresh{l:List UInt8}{ps:List (QN×List UInt8)}(b:kn l []=ps.map (·.2)++kn (l.drop k) [])(c:W.ownsRow w.heap.size 22 1 v ps.length (ps.map (·.1)))(d:∀p∈ps,LnS W.heap.size W p.1 p.2)(a:D w W)(e:ps.length<=k):
 LnI w W l k v (C) ps [] W.heap.size:=⟨b,c,uc W 5 1,a.size,gi,d,a,e,bH⟩
def Lns(B:Nat)(W:World)(v:Value)(ls:List (List UInt8)):Prop:=∃ps:List (Value×List UInt8),ps.map (·.2)=ls/\W.ownsRow B 22 1 v ps.length (ps.map (·.1))/\∀p∈ps,LnS W.heap.size W p.1 p.2
def Le(g)(n:Nat)(c)(l:List UInt8)(w)(hl:l.length=n)(hn:n<=1048576)(L:RowV w g 5 (bv l)):
  Calls prog 17 #[Vl g n c] w λe M=>∃v,e=QJ v/\Lns w.heap.size M v (kn l [])/\D w M:=by
 go_wp2;go_loopw [3,4,9] (λv a i wr=>∃(k:Nat)(ps:List (QN×List UInt8))(o:List UInt8)(B1:Nat),k<=n/\i=I (k:Int)/\Hid (LnI w wr l k v a ps o B1)) (λ_ _ i _=>n-(intOf i).toNat);case atStart=>exact⟨0,[],[],w.heap.size,aa,rfl,H (LnI.start w l)⟩
 case round=>
  obtain⟨k,ps,o,B1,hk,rfl,a⟩:=hrel;by_cases S:k<n
  .have y:Hid (l.drop k=l[k]' Z::l.drop (k+1)):=List.drop_eq_getElem_cons Z;have q:wr.cell? (Qz g k)=some (.int .u8 (((l[k]' Z).toNat:Nat):Int)):=by have T:=(L.below a.bel L.lt).cell k (by rw[rb];omega);rw[T,uE l k Z]
   generalize l[k]' Z=b at y q;by_cases f:b.toNat=10
   ·have z:(((b.toNat:Nat):Int)==10)=true:=(by rw[beq_iff_eq];omega);have A:(((b.toNat:Nat):Int) !=10)=false:=bG;have⟨N,O,B,r,s,u⟩:=JF a.ou a.line a.b2 a.done a.bel (by have:=a.n1;omega);have F:=H (LnI.fresh (k:=k+1) (by rw[a.eq,y,OW,GP f];simp) r s u (by have:=a.n1;simp;omega));obtain⟨V,W,X,rfl,x⟩:=Re a.line;clear r s u a f x;go_wp2_with (at_builtin;refine up B ?_);go_roundw;(exact⟨k+1,_,_,_,Z,aY,F⟩);exact QE
   have z:(((b.toNat:Nat):Int)==10)=false:=(by rw[QF];omega);have A:(((b.toNat:Nat):Int) !=10)=true:=bG;have⟨N,O,B,r,G,K,s,u⟩:=a.byte b y f Z;by_cases j:k+1=n
   ·have m:((k:Int)==(n:Int)-1)=true:=(by rw[beq_iff_eq];omega);have⟨v2,w2,Y,P,Q,R⟩:=JF r G K s u (by have:=a.n1;omega);have d:l.drop (k+1)=[]:=List.drop_eq_nil_of_le Z;have F:=H (LnI.fresh (k:=k+1) (by rw[a.eq,y,OW,GO f,GP d,d];simp[kn]) P Q R (by have:=a.n1;simp;omega));obtain⟨V,W,X,rfl,x⟩:=Re G;have a0:=H j;clear r s u P Q R a f x G K d j;go_wp2_with (at_builtin;first|(refine up B ?_;clear B)|refine up Y ?_);go_roundw;(exact⟨k+1,_,_,_,Z,aY,F⟩);exact QE
   let m:((k:Int)==(n:Int)-1)=false:=(by rw[QF];omega);have d:¬l.drop (k+1)=[]:=(by intro P;have:=congrArg List.length P;simp at this;omega);let F:Hid (LnI w O l (k+1) u3 N ps (o++[b]) B1):=H ⟨by rw[a.eq,y,OW,GO f,GO d],r,G,a.b1,K,s,u,by have:=a.n1;omega,by have:=a.n2;simp;omega⟩;go_wp2_with (at_builtin;refine up B ?_);go_roundw;(exact⟨k+1,_,_,_,Z,aY,F⟩);exact QE
  have d:l.drop k=[]:=List.drop_eq_nil_of_le Z;have b:=H (show Lns w.heap.size wr u3 (kn l [])from⟨ps,by rw[a.eq,d];simp[kn],a.ou,λp f=>(a.done p f).mono a.b2⟩);have f:=H a.bel;clear a d;go_wp2;go_ret;exact⟨_,rfl,b,f⟩
def cE:List UInt8->List UInt8->List (List UInt8)
 |[],cur=>if cur=[]then[]else[cur]
 |c::r,cur=>if c.toNat=32 then(if cur=[]then cE r []else cur::cE r [])else cE r (cur++[c])
def bs(l:List UInt8):ByteArray:=⟨l.toArray⟩
def kO(l):(bs l).data.toList=l:=rfl
def gz(l):(bs l).size=l.length:=rfl
def DJ(s:ByteArray):bs s.data.toList=s:=rfl
def wg(l:List UInt8):Value:=.string (bs l)
def Ws(B:Nat)(W:World)(v:Value)(ws:List (List UInt8)):Prop:=W.ownsRow B 9 1 v ws.length (ws.map wg)
def JS(r:ByteArray)(b:UInt8):(r.push b).data.toList=r.data.toList++[b]:=by simp[ByteArray.push]
def LY(l:List UInt8):∀r:ByteArray,(l.map (λb:UInt8=>((b.toNat:Nat):Int))).foldl (λr n=>r.push (UInt8.ofNat n.toNat)) r=bs (r.data.toList++l):=by
 induction l with
 |nil=>intro r;simp[DJ]
 |cons c l a=>intro r;rw[It,List.foldl_cons,a,JS];simp
def LX(l):bv l=(l.map (λb:UInt8=>((b.toNat:Nat):Int))).map (Value.int .u8):=by simp[bv]
def I5{g l}(h:RowV w g 5 (bv l))(a m c:Nat)(i:a+m<=l.length):
  (convert 22 9 (.slice (some (Qz g a)) m c)).run prog w=.ok (.string (bs ((l.drop a).take m))) w:=by
 rw[run_convert_bytes_string w 22 9 5 _ m c underlying22 underlying5 underlying9];let d:((l.drop a).take m).length=m:=bG;let e:=run_bytesToString (P:=prog) w (Qz g a) m c (((l.drop a).take m).map (λb:UInt8=>((b.toNat:Nat):Int))) (by
  have:=run_loadCells_list (P:=prog) w (Qz g a) (bv ((l.drop a).take m)) (λj v f=>by let b:=(Fz.1 f).1;rw[rb,d]at b;rw[Addr.add_mid,h.cell (a+j) (by rw[rb];omega),uE l _ Z,<-f,uE _ _ Z];simp)
  rw[rb,d]at this;rw[<-LX];exact this)
 rw[LY]at e;exact e
def CH(g)(n c:Nat)(l:List UInt8)(w)(W:l.length=n)(X:n<=1048576)(P:n<=c)(u:RowV w g 5 (bv l)):
  Calls prog 18 #[Vl g n c] w λe O=>∃v,e=QJ v/\Ws w.heap.size O v (cE l [])/\D w O:=by
 go_wp2;go_loopw [3,4,5] (λv b i wr=>∃(k a:Nat)(f:List (List UInt8)),k<=n+1/\a<=k/\i=I (k:Int)/\b=I (a:Int)/\Hid (if k=n+1 then cE l []=f else cE l []=f++cE (l.drop k) ((l.drop a).take (k-a)))/\Hid (Ws w.heap.size wr v f)/\Hid (D w wr)/\f.length<=k) (λ_ _ i _=>n+1-(intOf i).toNat);case atStart=>exact⟨0,0,[],Z,Z,rfl,rfl,H bH,H (uc w 9 1),H (Fu _ w),bH⟩
 case round=>
  obtain⟨k,a,f,Y,ha,rfl,rfl,j,r,o,Q⟩:=hrel;by_cases R:k<=n
  .let j:=H (show cE l []=f++cE (l.drop k) ((l.drop a).take (k-a)) by have:=j.out;rw[GO Z]at this;exact this);by_cases S:k<n
   .have s:Hid (l.drop k=l[k]' Z::l.drop (k+1)):=List.drop_eq_getElem_cons Z;have t:wr.cell? (Qz g k)=some (.int .u8 (((l[k]' Z).toNat:Nat):Int)):=by rw[(u.below o u.lt).cell k (by rw[rb];omega),uE l k Z]
    have x:=H (show(l.drop a).take (k+1-a)=(l.drop a).take (k-a)++[l[k]' Z] by rw[show k+1-a=(k-a)+1 by omega,F_];simp[show a+(k-a)=k by omega,show k<l.length by omega])
    generalize l[k]' Z=b at s t x;by_cases m:b.toNat=32
    ·have y:(((b.toNat:Nat):Int) !=32)=false:=bG;by_cases B:a<k
     ·have d:¬(l.drop a).take (k-a)=[]:=(by intro F;have:=congrArg List.length F;simp at this;omega);have V:=I5 (u.below o u.lt) a (k-a) (c-a) Z;have:=Jo LZ r o #[wg ((l.drop a).take (k-a))] rfl (by simp[wg,Value.oneCell']) Z;have⟨G,K,L,z,A,M⟩:=this;have p:=H (show cE l []=(f++[(l.drop a).take (k-a)])++cE (l.drop (k+1)) ((l.drop (k+1)).take (k+1-(k+1))) by rw[j,s];simp[cE,m,d]);have N:=H (show Ws w.heap.size K G (f++[(l.drop a).take (k-a)]) by unfold Ws;simpa using z);have B1:=H A;clear z A M r o d m;go_wp2_with (at_builtin;refine up L ?_);go_roundw;(exact⟨k+1,k+1,_,Z,Z,aY,aY,H (by rw[GO Z];exact p),N,B1,bG⟩);exact QE
     have q:a=k:=Z;subst q;have p:=H (show cE l []=f++cE (l.drop (a+1)) ((l.drop (a+1)).take (a+1-(a+1))) by rw[j,s];simp[cE,m]);clear m;go_wp2;go_roundw;(exact⟨a+1,a+1,_,Z,Z,aY,aY,H (by rwa[GO Z]),r,o,Z⟩);exact QE
    have y:(((b.toNat:Nat):Int) !=32)=true:=bG;have p:=H (show cE l []=f++cE (l.drop (k+1)) ((l.drop a).take (k+1-a)) by rw[j,s,x];simp[cE,m]);clear m;go_wp2;go_roundw;(exact⟨k+1,a,_,Z,Z,aY,rfl,H (by rwa[GO Z]),r,o,Z⟩);exact QE
   have b:=Z;have m:l.drop k=[]:=List.drop_eq_nil_of_le Z;by_cases B:a<k
   .have d:¬(l.drop a).take (k-a)=[]:=(by intro F;have:=congrArg List.length F;simp at this;omega);have V:=I5 (u.below o u.lt) a (k-a) (c-a) Z;have:=Jo LZ r o #[wg ((l.drop a).take (k-a))] rfl (by simp[wg,Value.oneCell']) Z;have⟨G,K,L,z,A,M⟩:=this;have p:=H (show cE l []=f++[(l.drop a).take (k-a)] by rw[j,m];simp[cE,d]);have N:=H (show Ws w.heap.size K G (f++[(l.drop a).take (k-a)]) by unfold Ws;simpa using z);have⟨B1,s⟩:=y7 A b;clear z A M r o d m b;go_wp2_with (at_builtin;refine up L ?_);go_roundw;(exact⟨k+1,k+1,_,Z,Z,aY,aY,H (by rwa[GP (by have:=s.out;omega)]),N,B1,bG⟩);exact QE
   have q:a=k:=Z;subst q;have p:=H (show cE l []=f by rw[j,m];simp[cE]);have s:=H b;clear m b;go_wp2;go_roundw;(exact⟨a+1,a+1,_,Z,Z,aY,aY,H (by rwa[GP (by have:=s.out;omega)]),r,o,Z⟩);exact QE
  let p:=H (show cE l []=f by have:=j.out;rw[GP Z]at this;exact this);go_wp2;go_ret;exact⟨_,rfl,p.out▸r.out,o⟩
def DU(w:QM):
  Calls prog 18 #[C] w λe a=>∃v,e=QJ v/\Ws w.heap.size a v []/\D w a:=by
 go_wp2;go_loopw [3,4,5] (λv a i wr=>∃(k:Nat),k<=1/\i=I (k:Int)/\a=I (k:Int)/\v=C/\wr=w) (λ_ _ i _=>1-(intOf i).toNat);case atStart=>exact⟨0,Z,rfl,rfl,rfl,rfl⟩
 case round=>
  obtain⟨k,c,rfl,rfl,rfl,rfl⟩:=hrel;by_cases b:k=0
  .subst b;go_wp2;go_roundw;(exact⟨1,Z,aY,aY,rfl,trivial⟩);case measure=>simp[intOf]
  obtain rfl:k=1:=Z;go_wp2;go_ret;exact⟨_,rfl,uc wr 9 1,th⟩
def KV{u}(l)(w:QM)(b:LnS w.heap.size w u l)(d:l.length<=1048576):
  QA 18 #[u] w λe a=>∃v,e=QJ v/\Ws w.heap.size a v (cE l [])/\D w a:=by
 rcases b with⟨rfl,rfl⟩|⟨g,c,rfl,f,i⟩;.exact DU w
 exact CH g l.length c l w rfl d f.2 i
section
open Go.RowKit Go.Extern.Stop Go.Stop Go.Extern
def E8(v:QN)(w:QM):(Extern.ReflectliteType.typeOf #[.iface 399 v]).run prog w=.ok (.iface 164 (.agg #[J 9 399])) w:=E
def MR:Array Value→Sem Value:=Extern.ReflectliteType.method fun t=>do Go.Extern.Rtype.noPackHeld "Comparable" t;pure (.bool (← typeInfo t).comparable)
def wB(w:QM):(MR #[.agg #[J 9 399]]).run prog w=.ok Ql w:=E
def qP(v:QN)(w:QM): (Go.method 531 164 v "Comparable").run prog w=.ok (343,v) w:=E
def KN:(prog.info? 399).map (·.comparable)=some true:=E
def Kg:(prog.info? 421).map (·.size)=some 1:=E
def Ng(v:QN)(a:QO)(w:QM):(Instr.typeAssert (.iface 399 v) a 166 true).run prog w=.ok (.tuple #[.nilIface,.bool false]) w:=run_typeAssert_lacksB underlying166 E E v a w
def JM(v:QN)(a:QO)(w:QM):(Instr.typeAssert (.iface 399 v) a 169 true).run prog w=.ok (.tuple #[.nilIface,.bool false]) w:=run_typeAssert_lacksB underlying169 E E v a w
def Jc(v:QN)(a:QO)(w:QM):(Instr.typeAssert (.iface 399 v) a 171 true).run prog w=.ok (.tuple #[.nilIface,.bool false]) w:=run_typeAssert_lacksB underlying171 E E v a w
def M8(v:QN)(a:QO)(w:QM):(Instr.typeAssert (.iface 259 v) a 166 true).run prog w=.ok (.tuple #[.nilIface,.bool false]) w:=run_typeAssert_lacksB underlying166 E E v a w
def Jb(v:QN)(a:QO)(w:QM):(Instr.typeAssert (.iface 259 v) a 169 true).run prog w=.ok (.tuple #[.iface 259 v,.bool true]) w:=run_typeAssert_hasB underlying169 E v a w
def D1(x y:QN)(w:QM): (Go.method 531 259 (.agg #[x,y]) "Unwrap").run prog w=.ok (355,.agg #[x,y]) w:=E
def Jt(a:Addr)(w:QM):
  Calls prog 16 #[.iface 399 (.pointer (some a)),.iface 399 (.pointer (some a))] w λe f=>e=QJ Ql/\f=w:=by
 let⟨i,g,d⟩:=Option.map_eq_some_iff.1 KN;let⟨j,k,l⟩:=Option.map_eq_some_iff.1 Kg;let o:=@run_callFunc_extern prog 39 _ Extern.ReflectliteType.typeOf func39 E E E E;let m:=@run_callFunc_extern prog 343 _ MR func343 E E E E;let b:=E8;let p:=wB;let c:=qP;let n:=run_eql_iface_ptr_same (P:=prog) w a underlying52 underlying399 g d k;go_wp2;apply Hc 1;rw[Hu];go_wp2;go_ret;exact QB
def Ko(b:Addr)(w:QM):
  Calls prog 16 #[.nilIface,.iface 399 (.pointer (some b))] w λe a=>e=QJ Qk/\a=w:=by
 let c:=run_eql_iface_nil_left (P:=prog) w 399 (.pointer (some b)) underlying52;go_wp2;go_ret;exact QB
def L4(s:ByteArray)(b:Addr)(w:QM):
  Calls prog 16 #[.iface 259 (.agg #[.string s,.iface 399 (.pointer (some b))]),.iface 399 (.pointer (some b))] w λe o=>e=QJ Ql/\D w o:=by
 let⟨i,p,n⟩:=Option.map_eq_some_iff.1 KN;let⟨j,q,r⟩:=Option.map_eq_some_iff.1 Kg;let x:=@run_callFunc_extern prog 39 _ Extern.ReflectliteType.typeOf func39 E E E E;let t:=@run_callFunc_extern prog 343 _ MR func343 E E E E;let a:=E8;let y:=wB;let c:=qP;let d:=Ng;let f:=JM;let g:=Jc;let k:=M8;let l:=Jb;let m:=D1;let u:=λw=>run_eql_iface_ptr_same (P:=prog) w b underlying52 underlying399 p n q
 let v:=λw=>run_eql_iface_types (P:=prog) 259 399 (.agg #[.string s,.iface 399 (.pointer (some b))]) (.pointer (some b)) underlying52 ar w
 go_wp2;apply Hc 2;rw[Hu];go_wp2;rw[Hu];go_wp2;go_ret;exact⟨rfl,ph⟩
end
def Kn(r:Nat)(m:r<=2147483647)(w:QM):QA 191 #[.int .i32 (r:Int)] w λe k=>e=QJ (U ((pQ r:Nat):Int))/\k=w:=by
 let⟨a,b⟩:=Qb (pQ r);rw[<-b];have c:=H b;clear b;by_cases d:48<=r/\r<=57
 .let g:decide ((48:Int)<=(r:Int))=true:=bG;let i:decide ((r:Int)<=57)=true:=bG;let b:=H (show a=r-48 by rw[c,pQ,GP d]);go_enter func191,ntmps191;go_wp2;go_ret;exact⟨cX (by have:=b.out;omega),rfl⟩
 by_cases f:97<=r/\r<=102
 .let g:decide ((48:Int)<=(r:Int))=true:=bG;let i:decide ((r:Int)<=57)=false:=bG;let l:decide ((97:Int)<=(r:Int))=true:=bG;let j:decide ((r:Int)<=102)=true:=bG;let b:=H (show a=r-87 by rw[c,pQ,GO d,GP f]);go_enter func191,ntmps191;go_wp2;go_ret;exact⟨cX (by have:=b.out;omega),rfl⟩
 by_cases j:65<=r/\r<=70
 .let g:decide ((48:Int)<=(r:Int))=true:=bG;let i:decide ((r:Int)<=57)=false:=bG;let l:decide ((97:Int)<=(r:Int))=false:=bG;let n:decide ((65:Int)<=(r:Int))=true:=bG;let o:decide ((r:Int)<=70)=true:=bG;let b:=H (show a=r-55 by rw[c,pQ,GO d,GO f,GP j]);go_enter func191,ntmps191;go_wp2;go_ret;exact⟨cX (by have:=b.out;omega),rfl⟩
 let b:=H (show a=16 by rw[c,pQ,GO d,GO f,GO j]);let n:=Z;let o:=Z;go_enter func191,ntmps191;go_wp2
 all_goals first|(exfalso;omega)|skip
 all_goals go_ret
 all_goals exact⟨cX (by rw[b];rfl),rfl⟩
def vL(s:ByteArray)(a:Nat)(h:a<s.size)(ha:¬(s[a]'(h)).toNat<128):128<=(Utf8.decode s a).1:=by
 let e:s.get! (a+0)=s[a]'(h):=by simp[ByteArray.get!,getElem!_pos,h];rfl
 let c:=(λk=>(s.get! (a+k)).toNat_lt) 0;rw[e]at c;simp only[Utf8.decode,e,ha,IL]
 repeat' split
 all_goals simp_all [Utf8.runeError]
 all_goals omega
def D6{r:Nat}(h:128<=r):pQ r=16:=by unfold pQ;rw[GO Z,GO Z,GO Z]
def wE(s:ByteArray)(e:Addr):Value:=.iface 259 (.agg #[.string s,.iface 399 (.pointer (some e))])
def OE(s:ByteArray)(a:Addr)(w:QM)(c:QG w 1 0 (.iface 399 (.pointer (some a)))):
  Calls prog 93 #[.string s] w λe b=>e=QJ (wE s a)/\b=w:=by
 go_wp2;go_ret;exact QB
def Nk(o:Option Nat)(s:ByteArray)(e:Addr):Value:=match o with
 |some n=>.tuple #[U (n:Int),.nilIface]
 |none=>.tuple #[U 0,wE s e]
def Cp(s:ByteArray)(base most:Nat)(p:Addr)(w:QM)(hs:s.size<=1048576)(V:1<=base)(hb:base<=16)(hm:most<=20)(N:w.cell? (Qz 1 0)=some (.iface 399 (.pointer (some p)))):
  QA 137 #[.string s,U (base:Int),I (most:Int)] w λe g=>e=.returned (Nk (dL base most s.data.toList) s p)/\D w g:=by
 refine(let_mvar%?A:=dL base most s.data.toList;?_);let⟨R,a⟩:=Qb (Nk (?A) s p);rw[<-a];have t:=H a;clear a;let hL:s.data.toList.length=s.size:=bH;by_cases W:s.size=0
 ·have B:((s.size:Int)==0)=true:=by rw[beq_iff_eq];omega
  have l:=OE s p w N;have j:=H (show ?A=none by rw[dL,GO Z]);clear W;go_enter func137,ntmps137;go_wp2_with (go_at_call 93;apply l.mono;rintro e g⟨rfl,rfl⟩)
  go_ret2
  exact⟨by rw[t,j];rfl,th⟩
 let B:((s.size:Int)==0)=false:=by rw[QF];omega
 by_cases c1:most<s.size
 .let F:decide ((most:Int)<(s.size:Int))=true:=bG;let l:=OE s p w N;let j:=H (show ?A=none by rw[dL,GO Z]);go_enter func137,ntmps137;go_wp2_with (go_at_call 93;apply l.mono;rintro e g⟨rfl,rfl⟩)
  go_ret2
  exact⟨by rw[t,j];rfl,th⟩
 let F:decide ((most:Int)<(s.size:Int))=false:=bG;let m:=H (show ?A=qF base s.data.toList 0 by rw[dL,GP Z]);let z:∀d,D w (w.iter s d):=λd=>(Fu _ w).alloc gi _
 let a:∀d,(w.iter s d).cell? (Qz 1 0)=some (.iface 399 (.pointer (some p))):=λd=>NI (z d) N
 go_enter func137,ntmps137;go_wp2
 try simp[B,F]
 go_loopw [8] (λv wr=>∃(d n:Nat),d<=s.size/\v=U (n:Int)/\n<18446744073709551616/\Hid (qF base s.data.toList 0=qF base (s.data.toList.drop d) n)/\wr=w.iter s d) (λ_ wr=>s.size-wr.iterPos w.heap.size);case atStart=>exact⟨0,0,Z,rfl,Z,H bH,rfl⟩
 case round=>
  obtain⟨d,n,hp,rfl,S,A,rfl⟩:=hrel;by_cases f:d<s.size
  .have u:=λb=>run_next_any (P:=prog) w s d b f
   let G:=H (pL s d f);refine(let_mvar%?C:=Utf8.decode s d;?_);have q:pQ (?C).1=pQ (s[d]'(f)).toNat:=by
    by_cases ha:(s[d]'(f)).toNat<128;.rw[decode_ascii s d f ha]
    rw[D6 (vL s d f ha),D6 Z]
   let x:pQ (s[d]'(f)).toNat<16->(?C).2=1:=λX=>by
    by_cases ha:(s[d]'(f)).toNat<128;.rw[decode_ascii s d f ha]
    rw[D6 Z]at X;omega
   have K:=decode_le s d;generalize (?C).1=r at u q K;let⟨sz,c⟩:=Qb ((?C).2);rw[<-c]at u x;clear c;refine(let_mvar%?B:=w.iter s (d+sz);?_);let o:=Kn r K ?B;let⟨c,k⟩:=Qb (pQ r);rw[<-k]at o q;let⟨i,Y⟩:=y7 q x;clear k q x;by_cases L:n*base<18446744073709551616
   .have k:=product.im_Product_yes n base S Z L ?B;by_cases d1:base<=c
    .let x:decide ((base:Int)<=(c:Int))=true:=bG;let j:=H (show ?A=none by rw[m,A,G,qI (by rw[<-i.out];omega)]);have l:=OE s p ?B (a (d+sz));go_wp2_with (first|(go_at_call 191;apply o.mono;rintro e g⟨rfl,rfl⟩;clear o)|(go_at_call 106;apply k.mono;rintro e g⟨rfl,rfl⟩;clear k)|(go_at_call 93;apply l.mono;rintro e g⟨rfl,rfl⟩))
     go_ret2
     exact⟨by rw[t,j];rfl,z _⟩
    have x:decide ((base:Int)<=(c:Int))=false:=bG;by_cases O:n*base+c<18446744073709551616
    ·have y:=H (A.trans ((congrArg (qF base · n) G).trans (sL (by rw[<-i.out];omega))));rw[<-i.out]at y;have M:sz=1:=Y.out (by rw[<-i.out];omega);subst M;generalize q:n*base=nb at L k O y;clear q;have Q:decide (((nb:Int)+(c:Int))<(nb:Int))=false:=bG;go_wp2_with (first|(go_at_call 191;apply o.mono;rintro e g⟨rfl,rfl⟩;clear o)|(go_at_call 106;apply k.mono;rintro e g⟨rfl,rfl⟩;clear k));go_roundw;(exact⟨d+1,nb+c,Z,aY,O,y,rfl⟩);case measure=>simp;omega
    generalize q:n*base=nb at L k O;have M:nb+c<36893488147419103232:=Z;have hw:IntKind.u64.wrap ((nb:Int)+(c:Int))=(nb:Int)+(c:Int)-18446744073709551616:=by simp[IntKind.wrap,IntKind.bits,IntKind.signed];omega
    have Q:decide (((nb:Int)+(c:Int)-18446744073709551616)<(nb:Int))=true:=bG;have y:=H q;clear q;let j:=H (show ?A=none by rw[m,A,G,qI (by rw[<-i.out];rw[y];omega)]);let l:=OE s p ?B (a (d+sz));go_wp2_with (first|(go_at_call 191;apply o.mono;rintro e g⟨rfl,rfl⟩;clear o)|(go_at_call 106;apply k.mono;rintro e g⟨rfl,rfl⟩;clear k)|(go_at_call 93;apply l.mono;rintro e g⟨rfl,rfl⟩))
    go_ret2
    exact⟨by rw[t,j];rfl,z _⟩
   have k:=product.im_Product_no n base S Z Z ?B;have q:=H L;clear L;by_cases d1:base<=c
   .let x:decide ((base:Int)<=(c:Int))=true:=bG;let j:=H (show ?A=none by rw[m,A,G,qI (by rw[<-i.out];omega)]);let l:=OE s p ?B (a (d+sz));go_wp2_with (first|(go_at_call 191;apply o.mono;rintro e g⟨rfl,rfl⟩;clear o)|(go_at_call 106;apply k.mono;rintro e g⟨rfl,rfl⟩;clear k)|(go_at_call 93;apply l.mono;rintro e g⟨rfl,rfl⟩))
    go_ret2
    exact⟨by rw[t,j];rfl,z _⟩
   let x:decide ((base:Int)<=(c:Int))=false:=bG;let j:=H (show ?A=none by rw[m,A,G,qI (by rw[<-i.out];have:=q.out;omega)]);let l:=OE s p ?B (a (d+sz));go_wp2_with (first|(go_at_call 191;apply o.mono;rintro e g⟨rfl,rfl⟩;clear o)|(go_at_call 106;apply k.mono;rintro e g⟨rfl,rfl⟩;clear k)|(go_at_call 93;apply l.mono;rintro e g⟨rfl,rfl⟩))
   go_ret2
   exact⟨by rw[t,j];rfl,z _⟩
  let u:=λb=>run_next_end (P:=prog) w s d b f
  let j:=H (show ?A=some n by rw[m,A,List.drop_eq_nil_of_le Z];rfl);go_wp2
  go_ret2
  exact⟨by rw[t,j];rfl,z _⟩
def dec(n:Nat):List UInt8:=Lib.decDigits n
def PtW(w:World):Prop:=Lib.TabIs prog w "internal/strconv.uint64pow10" .u64 Lib.pow10Tab
def PtW.below{w'}(h:PtW w)(d:D w w'):PtW w':=by
 unfold PtW Lib.TabIs World.var? at*
 cases c:prog.globalNamed "internal/strconv.uint64pow10" with
 |none=>simp[c]at h
 | some g=>
  simp[c,Option.bind_some]at h⊢
  let a:g<w.heap.size:=by
   rcases Nat.lt_or_ge g w.heap.size with b|b
   .exact b
   rw[Hd b]at h;simp at h
  rw[d.block g a]
  exact h
def wT(n:Nat)(c:n<=9223372036854775807)(w)(h:PtW w):
  QA 45 #[I (n:Int)] w λe a=>e=QJ (.string (bs (dec n)))/\D w a:=by
 apply(Any.strconv_Itoa Tryz.laysM171 (n:Int) Z Z w h).mono;rintro e a⟨rfl,k,b,rfl⟩;exact⟨by rw[Lib.itoa_nonneg];rfl,Lib.below_grow _ w gi k b⟩
def holds0(w:QM)(T:QO)(a:Nat)(d:a<=24):Sort.Holds (λ(b:UInt8)=>Value.int .u8 (b.toNat:Int)) (w.alloc (QL Lib.zeros24 T)) w.heap.size 0 (Array.replicate a (0:UInt8)):=λj b=>by
 let c:j<a:=by simpa using b
 refine⟨?_,World.frozen?_alloc_new _ _ _ _⟩
 rw[World.cell?_alloc_new,Lib.zeros24_at _ Z,getElem!_pos _ j b]
 simp
def Lr(u:Nat)(m:u<18446744073709551616)(w)(h:PtW w):
  QA 98 #[U (u:Int),I 10] w λe f=>e=QJ (.string (bs (dec u)))/\D w f:=by
 let hI:QA 146 #[U (u:Int),I 10] w λe f=>e=QJ (.string (bs (dec u)))/\D w f:=by
  by_cases c:u<100
  .let a:=Any.internal_strconv_small Tryz.lays283 u c w;let q:=Z;let b:IntKind.i64.wrap (u:Int)=(u:Int):=(by rw[Hh];omega);go_enter func146,ntmps146;go_wp2_with fail;apply a.mono;rintro e f⟨rfl,rfl⟩;go_wp2_with fail;go_ret;exact⟨rfl,th⟩
  let i:1<=u:=Z;refine(let_mvar%?C:=Lib.nDigits u;?_);let n:?C<=20:=by have:=Lib.numDigits_eq u i m;split at this<;>omega
  let b:prog.arrayLen 317=24:=by simp[Program.arrayLen,underlying317]
  let r:∀W,(Instr.sliceAt 317 (J w.heap.size 0) none (some (I (?C:Int))) none).run prog W=.ok (Vl w.heap.size (?C) 24) W:=λW=>by rw[run_sliceAt_array_h W 317 (Qz w.heap.size 0) (by simp[Program.arrayLen,Program.elem,underlying317]) .i64 (?C:Int) Z (by rw[b];omega)];go_simp
  let a:=holds0 w 317 (?C) Z;refine(let_mvar%?A:=w.alloc (QL Lib.zeros24 317);?_);let d:=Any.internal_strconv_formatBase10 Tryz.lays285 w.heap.size 0 24 u (Array.replicate (?C) 0) ?A a (by rw[Array.size_replicate];exact Lib.lt_pow_nDigits u) m (by rw[Array.size_replicate];omega);rw[Array.size_replicate]at d;let o:=Lib.hid a;let q:=Z;go_enter func146,ntmps146;go_wp2_with fail;apply (Any.internal_strconv_numDigits Tryz.laysM284 u i m ?A (Lib.tabIs_alloc h _)).mono;rintro e f⟨rfl,rfl⟩;go_wp2_with fail;apply d.mono;rintro e f⟨rfl,k,s,g,rfl,a⟩;refine(let_mvar%?B:=Value.int .u8;?_);have p:(convert 22 9 (Vl w.heap.size (?C) 24)).run prog ((Sort.putRow (λ(b:UInt8)=>?B (b.toNat:Int)) ?A w.heap.size 0 g).drewN k)=.ok (.string (bs (dec u))) ((Sort.putRow (λ(b:UInt8)=>?B (b.toNat:Int)) ?A w.heap.size 0 g).drewN k):=by
   let h:=run_convert_bytes_back (P:=prog) ((Sort.putRow (λ(b:UInt8)=>?B (b.toNat:Int)) ?A w.heap.size 0 g).drewN k) 22 9 5 (Qz w.heap.size 0) 24 (Lib.decDigits u) underlying22 underlying5 underlying9 (λj c=>by rw[Lib.row_is_numeral a j c,Lib.add_plain,World.cell?_drewN];exact Sort.cell?_putRow (λ(b:UInt8)=>?B (b.toNat:Int)) _ w.heap.size 0 _ g o (by rw[a.size,Array.size_replicate]) j (by rw[a.size];rw[Lib.decDigits_length]at c;exact c))
   rw[Lib.decDigits_length]at h;exact h
  have c:=Lib.hid (show D w ((Sort.putRow (λ(b:UInt8)=>?B (b.toNat:Int)) ?A w.heap.size 0 g).drewN k) by rw[Sort.alloc_eq_grow];let⟨j,_,e⟩:=Sort.putRow_grow_new (λ(b:UInt8)=>?B (b.toNat:Int)) w #[.cells Lib.zeros24 317] w.heap.size 0 g gi;rw[e];exact Lib.below_grow _ w gi k j)
  generalize (Sort.putRow (λ(b:UInt8)=>?B (b.toNat:Int)) ?A w.heap.size 0 g).drewN k=V at p c⊢;go_wp2;go_ret;exact⟨rfl,c⟩
 go_enter func98,ntmps98;go_wp2_with fail;apply hI.mono;rintro e f⟨rfl,a⟩;go_wp2_with fail;go_ret;exact⟨rfl,a⟩
def mg(zs:List Int)(p:Nat):Nat:=(zs[p]?.getD 0).toNat%256
def Sw(zs:List Int)(p:Nat):Nat:=if p<zs.length then p+1 else p
def gx(zs p):mg zs p<=255:=by unfold mg;omega
def PK(h:p<zs.length):Sw zs p=p+1:=GP h
def Pw(h:¬p<zs.length):Sw zs p=p:=GO h
def PC(h:¬p<zs.length):mg zs p=0:=by unfold mg;rw[FJ Z];rfl
def Cb(zs:List Int)(w0:World)(a:Option Addr)(len cap:Nat):Prop:=∃ys,IsRow .u8 w0 a len cap ys/\zs=ys.take len/\len<=1048576
def Cb.len9(h:Cb zs w a len cap):zs.length=len/\len<=1048576:=by
 obtain⟨c,h,rfl,b⟩:=h;rw[Hm];rcases h with⟨_,rfl,_,rfl⟩|⟨x,d,e,f,g,i,j⟩;.exact⟨rfl,b⟩
 exact⟨Z,b⟩
def Cb.at9(h:Cb zs w a len cap)(i:Nat)(c:i<len):∃x,a=some x/\w.cell? (x.add i)=some (.int .u8 (mg zs i:Nat)):=by
 obtain⟨d,h,rfl,j⟩:=h;rcases h with⟨_,rfl,_,rfl⟩|⟨x,e,k,l,m,f,g⟩;.omega
 let b:i<d.length:=Z;let n:=bounds_u8 (g _ (Iw b));refine⟨x,e,?_⟩;rw[f i b];unfold mg;rw[Hf c,List.getD_eq_getElem?_getD,Fy b];simp[Ht];congr 2;omega
def Cb.below{w'}(h:Cb zs w a len cap)(b:D w w'):Cb zs w' a len cap:=by
 let⟨c,h,e,d⟩:=h;refine⟨c,?_,e,d⟩;rcases h with h|⟨x,f,g,j,k,l,m⟩;.exact .inl h
 exact .inr ⟨x,f,g,j,k,λi n=>NI b (l i n),m⟩
structure Rp(p:Nat)(w0:QM)(a:QP)(len cap:Nat)(R:Nat)(b0 W:QM):Prop where
 box:W.heap[R]?=some (QL #[.slice a len cap,I p] 47)
 pl:p<=len
 bel:D w0 W
 new:w0.heap.size<=R
 g:b0.grownBy W (some R)
def Rp.below(h:Rp p w0 a len cap R b0 W)(b:D W W'):Rp p w0 a len cap R b0 W':=
 ⟨by rw[b.block R (ag h.box)];exact h.box,h.pl,az h.bel b,h.new,JK h.g (grown_of b R)⟩
def Rp.drew{p w0 b0 a len cap R W}(h:Rp p w0 a len cap R b0 W):Rp p w0 a len cap R b0 W.drew:=h.below ld
def Rp.at(h:Rp p w0 a len cap R b0 W):Rp p w0 a len cap R W W:=⟨h.box,h.pl,h.bel,h.new,Q6 W R⟩
def Rp.of(h:Rp p w0 a len cap R b0 W)(k:Rp p' w0 a len cap R W W'):Rp p' w0 a len cap R b0 W':=⟨k.box,k.pl,k.bel,k.new,JK h.g k.g⟩
def Rp.app{f:QM}(h:Rp p w0 a len cap R b0 W){c:Option Nat}(b:W.grownBy f c)(d:∀r,c=some r->b0.heap.size<=r/\R<r):Rp p w0 a len cap R b0 f:=by
 refine⟨?_,h.pl,h.bel.grown b h.bel.size (λr e=>?_),h.new,⟨b.os.trans h.g.os,b.tape.trans h.g.tape,b.output.trans h.g.output,Fx h.g.size b.size,λk g i=>(b.block k (FG g h.g.size) (λe=>?_)).trans (h.g.block k g i)⟩⟩;.rw[b.block R (ag h.box) (λe=>by have:=(d R e.symm).2;omega)];exact h.box
 .have:=(d r e).2;have:=h.new;omega
 have:=(d k e.symm).1;omega
def Rp.lt(h:Rp p w0 a len cap R b0 W):R<W.heap.size:=ag h.box
def Gt(zs:List Int)(f:FuncId)(p:Nat)(v:Value)(p':Nat):Prop:=∀(w0:World)(a:Option Addr)(len cap:Nat),Cb zs w0 a len cap->∀(R:Nat)(b0 W:World),Rp p w0 a len cap R b0 W ->
 QA f #[J R 0] W λe W'=>e=.returned v/\Rp p' w0 a len cap R b0 W'
def Su(zs p):Gt zs 13 p (I (mg zs p:Nat)) (Sw zs p):=by
 intro w0 a len cap g R b0 W c;let⟨e,j⟩:=g.len9;let b:=c.box;let q:=c.pl;let r:W.cell? (Qz R 0)=some (.slice a len cap):=by simp[QC,b]
 let s:W.cell? (Qz R 1)=some (I p):=by simp[QC,b]
 let f1:W.frozen? (Qz R 1)=false:=by simp[QD,b]
 let⟨d,n⟩:=y7 c b;by_cases i:p<len
 .obtain⟨x,rfl,f⟩:=g.at9 p i;let b:p<zs.length:=Z;let k:=NI d.bel f;rw[PK b];have o:=gx zs p;generalize mg zs p=c at*;let l:=H (show Rp (p+1) w0 (some x) len cap R b0 (W.setCell (Qz R 1) (I (p+1:Nat)))from⟨by simp[World.setCell,FD,n.out],Z,d.bel.setCell d.new _,d.new,JK d.g (au (Q6 W R) 1 _)⟩);let m:((p+1:Nat):Int)=(p:Int)+1:=Z;rw[m]at l;go_enter func13,ntmps13;go_wp2;go_region;go_wp2;go_region;go_wp2;go_ret;exact⟨rfl,l.drew.drew⟩
 let b:¬p<zs.length:=Z;rw[Pw b,PC b];go_enter func13,ntmps13;go_wp2;go_region;go_wp2;go_ret;exact⟨rfl,d.drew⟩
def Mj(zs:List Int)(p:Nat):Nat->Int×Nat
 |0=>(0,p)
 |k+1=>(((IntKind.u64.wrap ((Mj zs p k).1*256)).toNat|||mg zs (Mj zs p k).2:Nat),Sw zs (Mj zs p k).2)
def Py(zs p):∀k,0<=(Mj zs p k).1/\(Mj zs p k).1<=18446744073709551615
 |0=>by simp[Mj]
 |k+1=>by
  let a:=gx zs (Mj zs p k).2
  let b:(IntKind.u64.wrap ((Mj zs p k).1*256)).toNat|||mg zs (Mj zs p k).2<2 ^ 64:=Nat.or_lt_two_pow (by rw[IntKind.wrap_u64];omega) Z
  show 0<=(((IntKind.u64.wrap ((Mj zs p k).1*256)).toNat|||mg zs (Mj zs p k).2:Nat):Int)/\(((IntKind.u64.wrap ((Mj zs p k).1*256)).toNat|||mg zs (Mj zs p k).2:Nat):Int)<=18446744073709551615
  omega
def Oo(zs p):∃(c:Int)(p':Nat),Gt zs 75 p (U c) p'/\0<=c/\c<=18446744073709551615:=by
 refine⟨(Mj zs p 8).1,(Mj zs p 8).2,?_,Py zs p 8⟩;intro w0 a len cap b R b0 W f;have⟨N,n⟩:=y7 (λp W h=>Su zs p w0 a len cap b R b0 W h) f;clear f b;go_enter func75,ntmps75;go_wp2;go_loopw [3,4] (λx i wr=>∃(k:Nat)(c:Int)(q:Nat),k<=8/\i=I k/\x=U c/\Hid (Mj zs p k=(c,q))/\Hid (Rp q w0 a len cap R b0 wr)) (λ_ i _=>8-(intOf i).toNat);case atStart=>exact⟨0,0,p,Z,rfl,rfl,H rfl,n⟩
 case round=>
  obtain⟨k,c,q,t,rfl,rfl,g,b⟩:=hrel;by_cases o:k<8
  ·have l:0<=IntKind.u64.wrap (c*256)/\IntKind.u64.wrap (c*256)<=18446744073709551615:=(by rw[IntKind.wrap_u64];omega);have j:=H (show Mj zs p (k+1)=((((IntKind.u64.wrap (c*256)).toNat|||mg zs q:Nat):Int),Sw zs q)from by show((((IntKind.u64.wrap ((Mj zs p k).1*256)).toNat|||mg zs (Mj zs p k).2:Nat):Int),Sw zs (Mj zs p k).2)=_;rw[g])
   have u:=gx zs q;go_wp2_with fail;refine(N _ _ b).mono ?_;rintro e v⟨rfl,f⟩;have r:=H f;clear f;generalize IntKind.u64.wrap (c*256)=m at l j⊢;obtain⟨m,rfl⟩:=Ha l.1;generalize mg zs q=d at*;have s:bits BinOp.or IntKind.u64 (m:Int) (d:Int)=((m|||d:Nat):Int):=bits_or_u64_nat m d Z Z;have f:Hid (Mj zs p (k+1)=(((m|||d:Nat):Int),Sw zs q)):=j;generalize m|||d=y at s f
   clear j;go_wp2;go_roundw;(exact⟨k+1,(y:Int),Sw zs q,Z,aY,rfl,f,r⟩);exact QE
  obtain rfl:k=8:=Z;go_wp2;go_ret;exact⟨by rw[g];rfl,by rw[g];exact b⟩
def Pv{f c}(g:Gt zs f p (U c) p')(b0:0<=c)(a:c<=18446744073709551615):∃(c:Int)(p':Nat),Gt zs f p (U c) p'/\0<=c/\c<=18446744073709551615:=⟨c,p',g,b0,a⟩
def Ds(zs p):∃(c:Int)(p':Nat),Gt zs 74 p (U c) p'/\0<=c/\c<=18446744073709551615:=by
 have g:=Su zs p;have t:=gx zs p;generalize mg zs p=k at t g;generalize Sw zs p=v at g;have⟨b,L,c,x,y⟩:=Oo zs v;have⟨d,z,f⟩:=Qe g c gD;clear g c;by_cases A:250<=k
 ·have:k=250\/k=251\/k=252\/k=253\/k=254\/k=255:=Z;clear A t;rcases this with rfl|rfl|rfl|rfl|rfl|rfl
  all_goals
   apply Pv
   ·intro w0 a len cap c R b0 W g;have⟨i,N,V⟩:=Qe g (d w0 a len cap c R b0) (z w0 a len cap c R b0);clear c g;go_enter func74,ntmps74;go_wp2_with fail;refine(N _ i).mono ?_;rintro e m⟨rfl,j⟩;have l:=H j;clear j;go_wp2_with fail;refine(V _ l).mono ?_;rintro e B⟨rfl,o⟩;have n:=H o;clear o;go_wp2;go_ret;exact⟨rfl,n⟩
   all_goals omega
 by_cases M:k<200/\k%3=0
 ·have o:((k:Int)%3==0)=true:=bG;have s:=ui ((k:Int)/3%12);have q:=H (λw=>f.out ((k:Int)/3%12) w);generalize us ((k:Int)/3%12)=u at s q;apply Pv;·intro w0 a len cap c R b0 W g;have⟨i,N⟩:=y7 g (d w0 a len cap c R b0);clear c g;go_enter func74,ntmps74;go_wp2_with fail;refine(N _ i).mono ?_;rintro e m⟨rfl,j⟩;have l:=H j;clear j;go_wp2_with fail;refine(q _).mono ?_;rintro e B⟨rfl,r⟩;have n:=H (l.below r);clear r;go_wp2;go_ret;exact⟨rfl,n⟩
  all_goals omega
 have o:200<=k\/((k:Int)%3==0)=false:=bG;by_cases O:k<200/\k%3=1
 ·have q:((k:Int)%3==1)=true:=bG;have r:((k:Int)%3==0)=false:=bG;apply Pv;·intro w0 a len cap c R b0 W g;have⟨i,N⟩:=y7 g (d w0 a len cap c R b0);clear c g;go_enter func74,ntmps74;go_wp2_with fail;refine(N _ i).mono ?_;rintro e m⟨rfl,j⟩;have l:=H j;clear j;go_wp2;go_ret;exact⟨rfl,l⟩
  all_goals omega
 have F:225<=k\/(200<=k/\k<225)\/(k<200/\k%3=2):=Z;rcases F with s|s|s
 ·apply Pv;·intro w0 a len cap c R b0 W g;have⟨i,N⟩:=y7 g (d w0 a len cap c R b0);clear c g;go_enter func74,ntmps74;go_wp2_with fail;refine(N _ i).mono ?_;rintro e m⟨rfl,j⟩;have l:=H j;clear j;go_wp2;go_ret;exact⟨rfl,l⟩
  all_goals omega
 ·have G:¬225<=k:=Z;have K:=s.1;apply Pv;·intro w0 a len cap c R b0 W g;have⟨i,N⟩:=y7 g (d w0 a len cap c R b0);clear c g;go_enter func74,ntmps74;go_wp2_with fail;refine(N _ i).mono ?_;rintro e m⟨rfl,j⟩;have l:=H j;clear j;go_wp2;go_ret;exact⟨rfl,l⟩
  all_goals omega
 have q:((k:Int)%3==1)=false:=bG;have r:((k:Int)%3==0)=false:=bG;have G:¬225<=k:=Z;have K:¬200<=k:=Z;apply Pv;·intro w0 a len cap c R b0 W g;have⟨i,N⟩:=y7 g (d w0 a len cap c R b0);clear c g;go_enter func74,ntmps74;go_wp2_with fail;refine(N _ i).mono ?_;rintro e m⟨rfl,j⟩;have l:=H j;clear j;go_wp2;go_ret;exact⟨rfl,l⟩
 all_goals omega
def Nr(zs p):∃(c:Int)(p':Nat),Gt zs 34 p (U c) p'/\0<=c/\c<=18446744073709551615:=by
 have l:=Su zs p;generalize Sw zs p=M at l;have o:=Su zs M;generalize Sw zs M=N at o;have q:=Su zs N;generalize Sw zs N=O at q;have b:=Su zs O;generalize Sw zs O=G at b;have r:=Su zs G;have⟨f,pw,g,P,Q⟩:=Oo zs G;have hk:=gx zs p;have hc:=gx zs M;have hs:=gx zs N;have hn:=gx zs O;have hd:=gx zs G;generalize mg zs p=k at*;generalize mg zs M=c at*;generalize mg zs N=s at*;generalize mg zs O=n at*;generalize mg zs G=d at*;generalize Sw zs G=p5 at*;have⟨G1,G2,G3,G4,S,G6,HS,i⟩:=Qj l o q b r g (λj=>PD f j P Q) gl;have⟨j,m⟩:=y7 gn u64_in;clear l o q b r g;have t:(0:Int)<=(c:Int)%12/\(c:Int)%12<12:=Z;have T:(0:Int)<=(s:Int)%6/\(s:Int)%6<6:=Z;have b:=kh t;have hz:=eJ t;have hp:=fy t;have V:4<=sl ((c:Int)%12)/\sl ((c:Int)%12)<=64:=⟨b.1,b.2.1⟩;have⟨v,K,x,y⟩:=Qf (λw=>jO ((c:Int)%12) ((s:Int)%6) Z Z w) (λw=>em ((c:Int)%12) w) (λw=>dx ((c:Int)%12) w) (λw=>gM ((c:Int)%12) w);clear b;have g:∃A,A=(c:Int)%12:=⟨_,rfl⟩;have⟨A,g⟩:=g;have⟨b,o⟩:=Qb ((s:Int)%6);rw[<-g]at t V hz hp v K x y;rw[<-o]at T v;generalize rs A+b*(pg A+1)=L at*;generalize pg A=pp at*;generalize sz A=z at*;generalize sl A=l at*;have X:(k:Int)%8=0\/(k:Int)%8=1\/(k:Int)%8=2\/(k:Int)%8=3\/(k:Int)%8=4\/(k:Int)%8=5\/(k:Int)%8=6\/(k:Int)%8=7:=Z;have HE:=H (IT g o);clear g o;rcases X with B|B|B|B|B|B|B|B
 all_goals apply Pv
 all_goals try
  intro w0 a len cap g R b0 W o
  have q:=H o
  have u:=H g
  clear g o
  go_enter func34,ntmps34
  go_wp2_with fail
  refine(G1 w0 a len cap u R b0 _ q).mono ?_
  rintro e r⟨rfl,g⟩
  have o:=H g
  clear g q
  go_wp2_with fail
  refine(G2 w0 a len cap u R b0 _ o).mono ?_
  rintro e F⟨rfl,g⟩
  have q:=H g
  clear g o
  go_wp2_with fail
  refine(G3 w0 a len cap u R b0 _ q).mono ?_
  rintro e Y⟨rfl,g⟩
  have o:=H g
  clear g q
  go_wp2_with fail
  rw[<-HE.1,<-HE.2]
  refine(v _).mono ?_
  rintro e w4⟨rfl,g⟩
  have q:=H (o.below g)
  clear g o
  go_wp2_with fail
  refine(G4 w0 a len cap u R b0 _ q).mono ?_
  rintro e w5⟨rfl,o⟩
  have g:=H o
  clear o q
 ·go_wp2;go_ret;exact⟨rfl,g⟩
 ·exact(m _).1
 ·exact(m _).2
 ·go_wp2_with fail;refine(K _).mono ?_;rintro e F⟨rfl,o⟩;have q:=H (g.below o);clear o;go_wp2;go_ret;exact⟨rfl,q⟩
 ·exact(m _).1
 ·exact(m _).2
 ·go_wp2_with fail;refine(y _).mono ?_;rintro e F⟨rfl,o⟩;have q:=H (g.below o);clear o;go_wp2_with fail;refine(x _).mono ?_;rintro e w7⟨rfl,o⟩;have Y:=H (q.below o);clear o;go_wp2;go_ret;exact⟨rfl,Y⟩
 ·exact(m _).1
 ·exact(m _).2
 ·go_wp2_with fail;refine(i _).mono ?_;rintro e F⟨rfl,o⟩;have q:=H (g.below o);clear o;go_wp2_with fail;refine(S w0 a len cap u R b0 _ q).mono ?_;rintro e w7⟨rfl,r⟩;have Y:=H r;clear r;go_wp2;go_ret;exact⟨rfl,Y⟩
 ·exact(m _).1
 ·exact(m _).2
 ·go_wp2_with fail;refine(j _).mono ?_;rintro e F⟨rfl,o⟩;have q:=H (g.below o);clear o;go_wp2;go_ret;exact⟨rfl,q⟩
 ·exact(m _).1
 ·exact(m _).2
 ·go_wp2_with fail;refine(G6 w0 a len cap u R b0 _ g).mono ?_;rintro e F⟨rfl,r⟩;have q:=H r;clear r;go_wp2;go_ret;exact⟨rfl,q⟩
 ·exact(HS _).1
 ·exact(HS _).2
 ·go_wp2_with fail;refine(S w0 a len cap u R b0 _ g).mono ?_;rintro e F⟨rfl,r⟩;have q:=H r;clear r;go_wp2;go_ret;exact⟨rfl,q⟩
 ·exact(m _).1
 ·exact(m _).2
 ·go_wp2
  go_region_with (first
   |(go_at_call 13;refine(S w0 a len cap u R b0 _ ?_).mono ?_;exact g.drew;rintro e F⟨rfl,r⟩)
   |(go_at_call 80;refine(y _).mono ?_;rintro e w7⟨rfl,b7⟩)
   |(go_at_call 81;refine(x _).mono ?_;rintro e w8⟨rfl,b8⟩))
  all_goals
   have R8:=H ((r.below b7).below b8)
   clear r b7 b8 g
   go_wp2
   go_ret
   exact⟨rfl,R8⟩
 ·exact(m _).1
 exact(m _).2
def NH(zs:List Int)(p:Nat):Nat->List Int×Nat
 |0=>([],p)
 |k+1=>((NH zs p k).1++[(mg zs (NH zs p k).2:Int)],Sw zs (NH zs p k).2)
def Ol(zs p):∀k,(NH zs p k).1.length=k/\∀y∈(NH zs p k).1,0<=y/\y<=255
 |0=>⟨rfl,λy a=>by cases a⟩
 | k+1=>by
  let⟨b,c⟩:=Ol zs p k
  let d:=gx zs (NH zs p k).2
  refine⟨?_,λy a=>?_⟩
  .show((NH zs p k).1++[(mg zs (NH zs p k).2:Int)]).length=k+1
   rw[FC,b];rfl
  rcases F8.1 (show y∈(NH zs p k).1++[(mg zs (NH zs p k).2:Int)]from a)with a|a
  .exact c y a
  obtain rfl:=List.mem_singleton.1 a;omega
def Pm(zs p)(n:Nat)(Y:n<=10000):∃(g:List Int)(p':Nat),g.length=n/\(∀y∈g,0<=y/\y<=255)/\∀(w0:QM)(a:QP)(len cap:Nat),Cb zs w0 a len cap->∀(R:Nat)(b0 W:QM),Rp p w0 a len cap R b0 W ->
  QA 76 #[J R 0,I n] W λe W'=>∃v,e=QJ v/\W'.ownsRow W.heap.size 5 1 v n (Ns .u8 g)/\Rp p' w0 a len cap R b0 W':=by
 refine⟨(NH zs p n).1,(NH zs p n).2,(Ol zs p n).1,(Ol zs p n).2,?_⟩;intro w0 a len cap c R b0 W b;have⟨O,r,s,t,u⟩:=G0 Tryz.info5By;have⟨P,F,y,G⟩:=Qf (λp V(w:Rp p w0 a len cap R V V)=>Su zs p w0 a len cap c R V V w) b.at (λp V(w:Rp p w0 a len cap R W V)=>b.of w) b.lt;clear c b;go_enter func76,ntmps76;go_wp2;go_loopw [5,6] (λv i wr=>∃(k:Nat)(g:List Int)(q:Nat),k<=n/\i=I k/\Hid (NH zs p k=(g,q))/\Hid (wr.ownsRow W.heap.size 5 1 v k (Ns .u8 g))/\Hid (Rp q w0 a len cap R W wr)) (λ_ i _=>n-(intOf i).toNat);case atStart=>exact⟨0,[],p,aa,rfl,H rfl,H ⟨rfl,.inl ⟨rfl,rfl⟩⟩,F⟩
 case round=>
  obtain⟨k,g,q,hk,rfl,z,l,o⟩:=hrel;obtain⟨va,vb,vc,rfl⟩:∃a b c,u5=.slice a b c:=Nv l;by_cases Q:k<n
  ·have S:=H (show NH zs p (k+1)=(g++[(mg zs q:Int)],Sw zs q)from by show((NH zs p k).1++[(mg zs (NH zs p k).2:Int)],Sw zs (NH zs p k).2)=_;rw[z])
   have hc:=gx zs q;have A:=H (P q);generalize mg zs q=c at*;go_wp2_with fail;refine(A _ o.at).mono ?_;rintro e w1⟨rfl,f⟩;have m:=f.g;have d:∀{v:QN}{xs:List QN}{j:Nat},wr.ownsRow W.heap.size 5 1 v j xs->v.ownBlock≠some R:=λT e=>by have:=(T.lt R e).1;have:=G.out;omega
   have⟨K,b⟩:=y7 (l.kept m (.inr (d l))) (o.of f);clear f m d l o;have B:=H (K.alloc (QL #[.int .u8 (c:Int)] 5));go_wp2_with (at_builtin;refine Ib _ rfl _ _ 22 rfl W.heap.size 5 O (.int .u8 0) 1 1 underlying22 r s t u rfl Z _ _ _ rfl B _ 1 1 [.int .u8 (c:Int)] rfl rfl ?hc ?h1c ?b1 ?b2 ?b3 ?_);(case hc=>exact ek _ _ _ _ bH);(case h1c=>intro x L;simp at L;subst L;rfl);(case b1=>unfold maxLen;omega);(case b2=>omega);(case b3=>have:=b.g.size;simp;omega);intro X M j m _;have N:=cI B;have d:=H (show Rp (Sw zs q) w0 a len cap R W M from by have f:=b.below (th.alloc gi (QL #[.int .u8 (c:Int)] 5));exact f.app m λr f=>by have:=N _ f;have:=G.out;omega)
   have f:=H (show M.ownsRow W.heap.size 5 1 X (k+1) (Ns .u8 (g++[(c:Int)])) by simpa[Ns]using j);clear j m N;go_wp2;go_roundw;(exact⟨k+1,g++[(c:Int)],Sw zs q,Z,aY,S,f,d⟩);exact QE
  have:k=n:=Z;subst this;go_wp2;go_ret;exact⟨_,rfl,by rw[z];exact l,by rw[z];exact y _ _ o⟩
structure Oq6(p:Nat)(w0:QM)(a:QP)(len cap R:Nat)(b0:QM)(X Y:Nat)(o:fL)(d:QP)(dc:Nat)(W:QM):Prop where
 rd:Rp p w0 a len cap R b0 W
 rn:R<b0.heap.size
 x:W.heap[X]?=some (QL (fH ⟨o,d,dc⟩).toArray 63)
 xn:b0.heap.size<=X
 y:W.heap[Y]?=some (QL #[I 0,I 0,U 0,U 0,U 0,C] 63)
 yn:b0.heap.size<=Y
 xy:X≠Y
 od:Od6 b0.heap.size ⟨o,d,dc⟩ W
section
variable {p:Nat}{w0:World}{a:Option Addr}{len cap R:Nat}{b0 W:World}{X Y:Nat}{o:fL}{d:Option Addr}{dc:Nat}
def Oq6.upd(h:Oq6 p w0 a len cap R b0 X Y o d dc W)(i:Nat)(v:QN)(c:fL)(f:QP)(b:Nat)(k:fH ⟨c,f,b⟩=(fH ⟨o,d,dc⟩).set i v)(j:Od6 b0.heap.size ⟨c,f,b⟩ W):Oq6 p w0 a len cap R b0 X Y c f b (W.setCell (Qz X i) v):=by
 let l:=h.rn;let g:=au (Q6 W X) i v;let m:=h.xn;refine⟨h.rd.app g (λr e=>by cases e;omega),l,?_,h.xn,?_,h.yn,h.xy,j.kept g (Ou j.d h.x ar)⟩;.rw[k];simp[World.setCell,FD,h.x]
 rw[g.block Y (ag h.y) (λe=>by cases e;exact h.xy rfl)];exact h.y
def Oq6.next(h:Oq6 p w0 a len cap R b0 X Y o d dc W)(b:Rp p' w0 a len cap R W W'):Oq6 p' w0 a len cap R b0 X Y o d dc W':=by
 let c:=h.rn;let f:=h.xn;let g:=h.yn;refine⟨h.rd.of b,c,?_,h.xn,?_,h.yn,h.xy,h.od.kept b.g (λe=>by have:=(h.od.d.lt R e).1;omega)⟩;.rw[b.g.block X (ag h.x) (λe=>by cases e;omega)];exact h.x
 rw[b.g.block Y (ag h.y) (λe=>by cases e;omega)];exact h.y
def Oq6.below(h:Oq6 p w0 a len cap R b0 X Y o d dc W){W'}(b:D W W'):Oq6 p w0 a len cap R b0 X Y o d dc W':=h.next (h.rd.at.below b)
def Oq6.drew(h:Oq6 p w0 a len cap R b0 X Y o d dc W):Oq6 p w0 a len cap R b0 X Y o d dc W.drew:=h.below ld
def Oq6.cells(h:Oq6 p w0 a len cap R b0 X Y o d dc W):W.cell? (Qz X 0)=some (I o.kd)/\W.cell? (Qz X 1)=some (I o.ref)/\W.cell? (Qz X 2)=some (U o.p)/\W.cell? (Qz X 3)=some (U o.a)/\W.cell? (Qz X 4)=some (U o.b)/\W.cell? (Qz X 5)=some (.slice d o.ys.length dc):=by have:=h.x;simp[QC,this,fH]
def Oq6.fr(h:Oq6 p w0 a len cap R b0 X Y o d dc W)(i:Nat):W.frozen? (Qz X i)=false:=by simp[QD,h.x]
def Oq6.setKd(h:Oq6 p w0 a len cap R b0 X Y o d dc W)(x:Int)(b:0<=x:=by(decide)):Oq6 p w0 a len cap R b0 X Y {o with kd:=x} d dc (W.setCell (Qz X 0) (I x)):=h.upd 0 _ _ _ _ rfl ⟨h.od.p,h.od.a,h.od.b,h.od.d,⟨b,h.od.r.2⟩,h.od.y⟩
def Oq6.setRef(h:Oq6 p w0 a len cap R b0 X Y o d dc W)(x:Int):Oq6 p w0 a len cap R b0 X Y {o with ref:=x} d dc (W.setCell (Qz X 1) (I x)):=h.upd 1 _ _ _ _ rfl ⟨h.od.p,h.od.a,h.od.b,h.od.d,h.od.r,h.od.y⟩
def Oq6.setP(h:Oq6 p w0 a len cap R b0 X Y o d dc W)(x:Int)(b:0<=x)(c:x<=18446744073709551615):Oq6 p w0 a len cap R b0 X Y {o with p:=x.toNat} d dc (W.setCell (Qz X 2) (U x)):=by obtain⟨n,rfl⟩:=Ha b;exact h.upd 2 _ _ _ _ rfl ⟨by show n<_;omega,h.od.a,h.od.b,h.od.d,h.od.r,h.od.y⟩
def Oq6.setA(h:Oq6 p w0 a len cap R b0 X Y o d dc W)(x:Int)(b:0<=x)(c:x<=18446744073709551615):Oq6 p w0 a len cap R b0 X Y {o with a:=x.toNat} d dc (W.setCell (Qz X 3) (U x)):=by obtain⟨n,rfl⟩:=Ha b;exact h.upd 3 _ _ _ _ rfl ⟨h.od.p,by show n<_;omega,h.od.b,h.od.d,h.od.r,h.od.y⟩
def Oq6.setB(h:Oq6 p w0 a len cap R b0 X Y o d dc W)(x:Int)(c:0<=x)(e:x<=18446744073709551615):Oq6 p w0 a len cap R b0 X Y {o with b:=x.toNat} d dc (W.setCell (Qz X 4) (U x)):=by obtain⟨n,rfl⟩:=Ha c;exact h.upd 4 _ _ _ _ rfl ⟨h.od.p,h.od.a,by show n<_;omega,h.od.d,h.od.r,h.od.y⟩
def Oq6.setD(h:Oq6 p w0 a len cap R b0 X Y o d dc W)(e:QP)(b:Nat)(c:List Int)(f:W.ownsRow b0.heap.size 5 1 (.slice e c.length b) c.length (Ns .u8 c))(g:∀y∈c,0<=y/\y<=255)(i:c.length<=100):Oq6 p w0 a len cap R b0 X Y {o with ys:=c} e b (W.setCell (Qz X 5) (.slice e c.length b)):=h.upd 5 _ _ _ _ rfl ⟨h.od.p,h.od.a,h.od.b,f,⟨h.od.r.1,i⟩,g⟩
def Oq6.row(h:Oq6 p w0 a len cap R b0 X Y o d dc W)(b x y:Int)(f:0<=x)(l:x<=18446744073709551615)(g:0<=y)(q:y<=18446744073709551615)(i:0<=b:=by(decide)):Oq6 p w0 a len cap R b0 X Y ⟨b,0,0,x.toNat,y.toNat,[]⟩ none 0 (W.setRow X #[I b,I 0,U 0,U x,U y,C]):=by
 obtain⟨n,rfl⟩:=Ha f;obtain⟨m,rfl⟩:=Ha g;let j:=h.rn;let r:=h.xn;let c:W.grownBy (W.setRow X #[I b,I 0,U 0,U (n:Int),U (m:Int),C]) (some X):=aj W X _;refine⟨h.rd.app c (λr e=>by cases e;omega),j,?_,h.xn,?_,h.yn,h.xy,⟨by show 0<_;omega,by show n<_;omega,by show m<_;omega,⟨rfl,.inl ⟨rfl,rfl⟩⟩,⟨i,aa⟩,λy k=>by cases k⟩⟩;.exact aw h.x _
 rw[c.block Y (ag h.y) (λe=>by cases e;exact h.xy rfl)];exact h.y
end
def B9(p:Nat)(o:fL)(p':Nat)(o':fL)(w0:World)(a:Option Addr)(len cap R:Nat)(j:Nat)(W:World)(X Y k:Nat)(m:Int):Prop:=∀(K:Act->World->Prop)(Q:Exit->Act->World->Prop)(d0:Option Addr)(e:Nat)(w:World)(Ļ ļ Ľ ľ Ŀ ŀ Ł ł Ń ń Ņ ņ Ň ň Ŋ ŋ Ō ō À Á Â Ã Ä Å Æ Ç È É Ê Ë Ì Í Î Ï Ð Ñ Ò Ó Ô Õ Ö Ø Ù Ú Û Ü Ý Þ ß à á â ã ä å æ ç è é ê ë ì í î ï ð ñ ò ó ô õ ö ø ù ú û ü ý þ ÿ Ā ā Ă ă Ą ą Ć ć Ĉ ĉ Ċ ċ Č č Ď ď Đ đ Ē ē Ĕ ĕ Ė ė Ę ę Ě ě Ĝ ĝ Ğ ğ Ġ ġ Ģ ģ Ĥ ĥ Ħ ħ Ĩ ĩ Ī ī Ĭ ĭ Į į İ ı Ĳ ĳ Ĵ ĵ Ķ ķ Ĺ ĺ:Value),Hid (Oq6 p w0 a len cap R W X Y o d0 e w) ->
 (∀(Ļ ļ Ľ ľ Ŀ ŀ Ł ł Ń ń Ņ ņ Ň ň Ŋ ŋ Ō ō À Á Â Ã Ä Å Æ Ç È É Ê Ë Ì Í Î Ï Ð Ñ Ò Ó Ô Õ Ö Ø Ù Ú Û Ü Ý Þ ß à á â ã ä å æ ç è é ê ë ì í î ï ð ñ ò ó ô õ ö ø ù ú û ü ý þ ÿ Ā ā Ă ă Ą ą Ć ć Ĉ ĉ Ċ ċ Č č Ď ď Đ đ Ē ē Ĕ ĕ Ė ė Ę ę Ě ě Ĝ ĝ Ğ ğ Ġ ġ Ģ ģ Ĥ ĥ Ħ ħ Ĩ ĩ Ī ī Ĭ ĭ Į į İ ı Ĳ ĳ Ĵ ĵ Ķ ķ Ĺ ĺ:Value)(d1:Option Addr)(i:Nat)(w':World),Hid (Oq6 p' w0 a len cap R W X Y o' d1 i w')->K ⟨#[J R 0,I j,.bool false,undef,undef,undef,J Y 0,I k,J X 0,Ļ,ļ,Ľ,ľ,Ŀ,ŀ,Ł,ł,Ń,ń,Ņ,ņ,Ň,ň,Ŋ,ŋ,Ō,ō,À,Á,Â,I k,I m,Ã,Ä,Å,Æ,Ç,È,É,Ê,Ë,Ì,Í,Î,Ï,Ð,Ñ,Ò,Ó,Ô,Õ,Ö,Ø,Ù,Ú,Û,Ü,Ý,Þ,ß,à,á,â,ã,ä,å,æ,ç,è,é,ê,ë,ì,í,î,ï,ð,ñ,ò,ó,ô,õ,ö,ø,ù,ú,û,ü,ý,þ,ÿ,Ā,ā,Ă,ă,Ą,ą,Ć,ć,Ĉ,ĉ,Ċ,ċ,Č,č,Ď,ď,Đ,đ,Ē,ē,Ĕ,ĕ,Ė,ė,Ę,ę,Ě,ě,Ĝ,ĝ,Ğ,ğ,Ġ,ġ,Ģ,ģ,Ĥ,ĥ,Ħ,ħ,Ĩ,ĩ,Ī,ī,Ĭ,ĭ,Į,į,İ,ı,Ĳ,ĳ,Ĵ,ĵ,Ķ,ķ,Ĺ,ĺ],[]⟩ w')->Code.wp prog ((Tryz.f33.body.bind (Dm 0)).getD .skip) (Exit.then K Q) ⟨#[J R 0,I j,.bool false,undef,undef,undef,J Y 0,I k,J X 0,Ļ,ļ,Ľ,ľ,Ŀ,ŀ,Ł,ł,Ń,ń,Ņ,ņ,Ň,ň,Ŋ,ŋ,Ō,ō,À,Á,Â,I k,I m,Ã,Ä,Å,Æ,Ç,È,É,Ê,Ë,Ì,Í,Î,Ï,Ð,Ñ,Ò,Ó,Ô,Õ,Ö,Ø,Ù,Ú,Û,Ü,Ý,Þ,ß,à,á,â,ã,ä,å,æ,ç,è,é,ê,ë,ì,í,î,ï,ð,ñ,ò,ó,ô,õ,ö,ø,ù,ú,û,ü,ý,þ,ÿ,Ā,ā,Ă,ă,Ą,ą,Ć,ć,Ĉ,ĉ,Ċ,ċ,Č,č,Ď,ď,Đ,đ,Ē,ē,Ĕ,ĕ,Ė,ė,Ę,ę,Ě,ě,Ĝ,ĝ,Ğ,ğ,Ġ,ġ,Ģ,ģ,Ĥ,ĥ,Ħ,ħ,Ĩ,ĩ,Ī,ī,Ĭ,ĭ,Į,į,İ,ı,Ĳ,ĳ,Ĵ,ĵ,Ķ,ķ,Ĺ,ĺ],[]⟩ w
def Pp{o m b}(g:∀(w0:QM)(a:QP)(len cap:Nat),Cb zs w0 a len cap->∀(R c:Nat)(W:QM)(X Y:Nat),B9 p o p' b w0 a len cap R c W X Y k m):∃(p':Nat)(b:fL),∀(w0:QM)(a:QP)(len cap:Nat),Cb zs w0 a len cap->∀(R c:Nat)(W:QM)(X Y:Nat),B9 p o p' b w0 a len cap R c W X Y k m:=⟨p',b,g⟩
def Q0(zs p o k)(m:Int)(q:m=0\/m=1\/m=2\/m=3):∃(p':Nat)(s:fL),∀(w0:QM)(a:QP)(len cap:Nat),Cb zs w0 a len cap->∀(R l:Nat)(W:QM)(X Y:Nat),B9 p o p' s w0 a len cap R l W X Y k m:=by
 have⟨c,A,b,t,u⟩:=Ds zs p;have v:=H b;clear b;rcases q with rfl|rfl|rfl|rfl
 all_goals
  apply Pp
  intro w0 a len cap n R l W X Y K Q B x w
  intros
  rename_i i g
  have y:=H n
  clear n
  have z:=H g
  clear g
  conv=>arg 2;whnf
  go_wp2_with fail
  refine(v w0 a len cap y R _ _ i.rd.at).mono ?_
  rintro e j⟨rfl,r⟩
  have f:=H (i.next r)
  clear r i
  go_wp2_with (refine eG f.x ?_;have d:=H (f.row 0 c 0 t u Z Z);generalize j.setRow X _=F at d⊢;clear f)
  apply z
  exact H (d)
def PQ(zs p o k)(m:Int)(O:m=4):∃(p':Nat)(P:fL),∀(w0:QM)(a:QP)(len cap:Nat),Cb zs w0 a len cap->∀(R v:Nat)(W:QM)(X Y:Nat),B9 p o p' P w0 a len cap R v W X Y k m:=by
 have⟨c,u,b,A,B⟩:=Ds zs p;have⟨F,N⟩:=y7 b (Su zs u);have S:=gx zs u;generalize mg zs u=G at S N;generalize Sw zs u=T at N;have⟨c2,p3,d,V,a0⟩:=Oo zs T;have⟨WD,L⟩:=y7 d u64_in;clear b d;obtain rfl:=O;by_cases M:240<=k
 ·apply Pp;intro w0 a len cap t R v W X Y K Q d0 x w;intros;rename_i l j;have s:=H t;clear t;have y:=H j;clear j
  conv=>arg 2;whnf
  go_wp2_with fail;refine(F w0 a len cap s R _ _ l.rd.at).mono ?_;rintro e z⟨rfl,r⟩;have g:=H (l.next r);clear r l;go_wp2_with fail;refine(N w0 a len cap s R _ _ g.rd.at).mono ?_;rintro e n⟨rfl,r⟩;have i:=H (g.next r);clear r;go_wp2_with (refine eG i.x ?_;have f:=H (i.row 1 c ((G:Int)%4) A B Z Z);generalize n.setRow X _=Vx at f⊢;clear i);refine(WD w0 a len cap s R _ _ f.rd.at).mono ?_;rintro e a1⟨rfl,r⟩;have q:=H (f.next r);clear r;have⟨z0,z1,z2,z3,z4,z5⟩:=q.cells;have zf:=q.fr 4;go_wp2;apply y;exact H (q.setB _ (by first|omega|exact(L _).1|(simp;done)) (by first|omega|exact(L _).2|(simp;done)))
 apply Pp;intro w0 a len cap t R v W X Y K Q d0 x w;intros;rename_i l j;have s:=H t;clear t;have y:=H j;clear j
 conv=>arg 2;whnf
 go_wp2_with fail;refine(F w0 a len cap s R _ _ l.rd.at).mono ?_;rintro e z⟨rfl,r⟩;have g:=H (l.next r);clear r l;go_wp2_with fail;refine(N w0 a len cap s R _ _ g.rd.at).mono ?_;rintro e n⟨rfl,r⟩;have i:=H (g.next r);clear r;go_wp2_with (refine eG i.x ?_;have f:=H (i.row 1 c ((G:Int)%4) A B Z Z);generalize n.setRow X _=Vx at f⊢;clear i);apply y;exact H (f)
def QV(zs p o k)(m:Int)(f:m=7\/m=8\/m=9\/m=10\/m=11):∃(p':Nat)(g:fL),∀(w0:QM)(a:QP)(len cap:Nat),Cb zs w0 a len cap->∀(R d:Nat)(W:QM)(X Y:Nat),B9 p o p' g w0 a len cap R d W X Y k m:=by
 rcases f with rfl|rfl|rfl|rfl|rfl
 all_goals
  apply Pp
  intro w0 a len cap e R d W X Y K Q l i w
  intros
  rename_i c b
  let n:=H e
  conv=>arg 2;whnf
  let⟨q,r,s,t,u,v⟩:=c.cells
  let x:=c.fr 0
  go_wp2
  apply (H b)
  exact H (c.setKd _)
def QW(zs p o k)(m:Int)(z:m=5\/m=6):∃(p':Nat)(A:fL),∀(w0:QM)(a:QP)(len cap:Nat),Cb zs w0 a len cap->∀(R j:Nat)(W:QM)(X Y:Nat),B9 p o p' A w0 a len cap R j W X Y k m:=by
 have⟨c,N,b,O,P⟩:=Ds zs p;have⟨B,l⟩:=y7 b u64_in;clear b;rcases z with rfl|rfl
 all_goals
  apply Pp
  intro w0 a len cap n R j W X Y K Q S F w
  intros
  rename_i i g
  have G:=H n
  clear n
  have L:=H g
  clear g
  conv=>arg 2;whnf
  have⟨q,s,t,u,v,x⟩:=i.cells
  have y:=i.fr 0
  go_wp2_with fail
  have d:=H (i.setKd 2)
  clear i q s t u v x y
  refine(B w0 a len cap G R _ _ d.rd.at).mono ?_
  rintro e M⟨rfl,r⟩
  have f:=H (d.next r)
  clear r d
  have⟨q,s,t,u,v,x⟩:=f.cells
  have y:=f.fr 3
  go_wp2
  apply L
  exact H (f.setA _ (by first|omega|exact(l _).1|(simp;done)) (by first|omega|exact(l _).2|(simp;done)))
def PR(zs p o k)(m:Int)(G:m=12):∃(p':Nat)(L:fL),∀(w0:QM)(a:QP)(len cap:Nat),Cb zs w0 a len cap->∀(R z:Nat)(W:QM)(X Y:Nat),B9 p o p' L w0 a len cap R z W X Y k m:=by
 have N:=H (Su zs p);have O:=gx zs p;generalize mg zs p=c at O N;generalize Sw zs p=j at N;have M:=H (Su zs j);have y:=gx zs j;generalize mg zs j=c1 at y M;generalize Sw zs j=p2 at M;have A:=H u64_in;obtain rfl:=G;apply Pp;intro w0 a len cap B R z W X Y K Q d0 P w;intros;rename_i l i;have F:=H B;clear B;have S:=H i;clear i
 conv=>arg 2;whnf
 have⟨n,q,s,t,u,v⟩:=l.cells;have x:=l.fr 0;go_wp2_with fail;have d:=H (l.setKd 5);clear l n q s t u v x;refine(N w0 a len cap F R _ _ d.rd.at).mono ?_;rintro e T⟨rfl,r⟩;have b:=H (d.next r);clear r;have⟨n,q,s,t,u,v⟩:=b.cells;have x:=b.fr 3;go_wp2_with fail;have f:=H (b.setA (c:Int) Z Z);clear n q s t u v x;refine(M w0 a len cap F R _ _ f.rd.at).mono ?_;rintro e V⟨rfl,r⟩;have g:=H (f.next r);clear r;have⟨n,q,s,t,u,v⟩:=g.cells;have x:=g.fr 2;go_wp2;apply S;exact H (g.setP _ (by first|omega|exact(A _).1|(simp;done)) (by first|omega|exact(A _).2|(simp;done)))
def P7(zs p o k)(m:Int)(hm:m=13\/m=14\/m=15):∃(p':Nat)(o':fL),∀(w0:QM)(a:QP)(len cap:Nat),Cb zs w0 a len cap->∀(R gv:Nat)(W:QM)(X Y:Nat),B9 p o p' o' w0 a len cap R gv W X Y k m:=by
 have N:=H (Su zs p);have hc:=gx zs p;generalize mg zs p=c at hc N;generalize Sw zs p=p1 at N;obtain⟨n,hn,en⟩:∃n:Nat,n<=24/\(c:Int)%24+1=(n:Int):=⟨c%24+1,Z,Z⟩;have⟨ys,p2,a1,a2,d⟩:=Pm zs p1 n Z;have⟨BY,a3,M⟩:=Qe d a2 (Su zs p2);have a6:=gx zs p2;generalize mg zs p2=c1 at a6 M;generalize Sw zs p2=p3 at M;have M2:=H (Su zs p3);have a7:=gx zs p3;generalize mg zs p3=c2 at a7 M2;generalize Sw zs p3=p4 at M2;have M3:=H (Su zs p4);have a8:=gx zs p4;generalize mg zs p4=c3 at a8 M3;generalize Sw zs p4=p5 at M3;have hu:=ui ((c2:Int)%12);have US:=H (λw=>gD ((c2:Int)%12) w);generalize us ((c2:Int)%12)=u at hu US;have⟨HU,a4,t⟩:=Qe u64_in en a1;clear d a2 en a1;by_cases b4:200<=k
 ·rcases hm with rfl|rfl|rfl
  all_goals
   apply Pp
   intro w0 a len cap h0 R gv W X Y K Q d0 a9 w
   intros
   rename_i O x
   have P:=H h0
   clear h0
   have HK:=H x
   clear x
   conv=>arg 2;whnf
   have⟨y,z,A,B,F,G⟩:=O.cells
   have L:=O.fr 0
   go_wp2_with fail
   have l:=H (O.setKd 6)
   clear O y z A B F G L
   refine(N w0 a len cap P R _ _ l.rd.at).mono ?_
   rintro e b1⟨rfl,r⟩
   have g:=H (l.next r)
   clear r l
   have en:=a4.out
   go_wp2_with fail
   clear en
   refine(BY w0 a len cap P R _ _ g.rd.at).mono ?_
   rintro e b2⟨v,rfl,S,r⟩
   obtain⟨va,vb,vc,rfl⟩:=Nv S
   have T:=(CQ S).symm
   subst T
   have q:=MC g.rd.g.size S
   rw[<-t.out]at q
   have i:=H (g.next r)
   have HB:=H q
   clear r S q g
   have⟨y,z,A,B,F,G⟩:=i.cells
   have L:=i.fr 5
   go_wp2_with fail
   have j:=H (i.setD va vc ys HB a3 (by rw[t];omega))
   rw[t]at j
   clear i y z A B F G L
   refine(M w0 a len cap P R _ _ j.rd.at).mono ?_
   rintro e b3⟨rfl,r⟩
   have s:=H (j.next r)
   clear r j
   have⟨y,z,A,B,F,G⟩:=s.cells
   have L:=s.fr 2
   have f:=H (s.setP ((c1:Int)%20) Z Z)
   go_wp2_with fail
   clear y z A B F G L
   refine(M2 w0 a len cap P R _ _ f.rd.at).mono ?_
   rintro e b5⟨rfl,r⟩
   have a5:=H (f.next r)
   clear r f
   go_wp2_with fail
   refine(US _).mono ?_
   rintro e b6⟨rfl,b⟩
   have V:=H (a5.below b)
   clear b a5
   go_wp2_with fail
   refine(M3 w0 a len cap P R _ _ V.rd.at).mono ?_
   rintro e b7⟨rfl,r⟩
   have a0:=H (V.next r)
   clear r V
   have⟨y,z,A,B,F,G⟩:=a0.cells
   have L:=a0.fr 2
   go_wp2
   apply HK
   exact H (a0.setP _ (by first|omega|exact(HU _).1|(simp;done)) (by first|omega|exact(HU _).2|(simp;done)))
 rcases hm with rfl|rfl|rfl
 all_goals
  apply Pp
  intro w0 a len cap h0 R gv W X Y K Q d0 a9 w
  intros
  rename_i O x
  have P:=H h0
  clear h0
  have HK:=H x
  clear x
  conv=>arg 2;whnf
  have⟨y,z,A,B,F,G⟩:=O.cells
  have L:=O.fr 0
  go_wp2_with fail
  have l:=H (O.setKd 6)
  clear O y z A B F G L
  refine(N w0 a len cap P R _ _ l.rd.at).mono ?_
  rintro e b1⟨rfl,r⟩
  have g:=H (l.next r)
  clear r l
  have en:=a4.out
  go_wp2_with fail
  clear en
  refine(BY w0 a len cap P R _ _ g.rd.at).mono ?_
  rintro e b2⟨v,rfl,S,r⟩
  obtain⟨va,vb,vc,rfl⟩:=Nv S
  have T:=(CQ S).symm
  subst T
  have q:=MC g.rd.g.size S
  rw[<-t.out]at q
  have i:=H (g.next r)
  have HB:=H q
  clear r S q g
  have⟨y,z,A,B,F,G⟩:=i.cells
  have L:=i.fr 5
  go_wp2_with fail
  have j:=H (i.setD va vc ys HB a3 (by rw[t];omega))
  rw[t]at j
  clear i y z A B F G L
  refine(M w0 a len cap P R _ _ j.rd.at).mono ?_
  rintro e b3⟨rfl,r⟩
  have s:=H (j.next r)
  clear r j
  have⟨y,z,A,B,F,G⟩:=s.cells
  have L:=s.fr 2
  have f:=H (s.setP ((c1:Int)%20) Z Z)
  go_wp2
  apply HK
  exact H (f)
def B8(p:Nat)(o:fL)(p':Nat)(f:fL)(w0:World)(a:Option Addr)(len cap R:Nat)(d:Nat)(W:World)(X Y k:Nat):Prop:=∀(K:Act->World->Prop)(b:Ending->World->Prop)(e:Option Addr)(c:Nat)(w:World)(Ľ ľ Ŀ ŀ Ł ł Ń ń Ņ ņ Ň ň Ŋ ŋ Ō ō Ŏ ŏ À Á Â Ã Ä Å Æ Ç È É Ê Ë Ì Í Î Ï Ð Ñ Ò Ó Ô Õ Ö Ø Ù Ú Û Ü Ý Þ ß à á â ã ä å æ ç è é ê ë ì í î ï ð ñ ò ó ô õ ö ø ù ú û ü ý þ ÿ Ā ā Ă ă Ą ą Ć ć Ĉ ĉ Ċ ċ Č č Ď ď Đ đ Ē ē Ĕ ĕ Ė ė Ę ę ě Ĝ ĝ Ğ ğ Ġ ġ Ģ ģ Ĥ ĥ Ħ ħ Ĩ ĩ Ī ī Ĭ ĭ Į į İ ı Ĳ ĳ Ĵ ĵ Ķ ķ Ĺ ĺ Ļ ļ:Value),Hid (Oq6 p w0 a len cap R W X Y o e c w) ->
 (∀(Ľ ľ Ŀ ŀ Ł ł Ń ń Ņ ņ Ň ň Ŋ ŋ Ō ō Ŏ ŏ À Á Â Ã Ä Å Æ Ç È É Ê Ë Ì Í Î Ï Ð Ñ Ò Ó Ô Õ Ö Ø Ù Ú Û Ü Ý Þ ß à á â ã ä å æ ç è é ê ë ì í î ï ð ñ ò ó ô õ ö ø ù ú û ü ý þ ÿ Ā ā Ă ă Ą ą Ć ć Ĉ ĉ Ċ ċ Č č Ď ď Đ đ Ē ē Ĕ ĕ Ė ė Ę ę Ě ě Ĝ ĝ Ğ ğ Ġ ġ Ģ ģ Ĥ ĥ Ħ ħ Ĩ ĩ Ī ī Ĭ ĭ Į į İ ı Ĳ ĳ Ĵ ĵ Ķ ķ Ĺ ĺ Ļ ļ:Value)(g:Option Addr)(c:Nat)(e:World),Hid (Oq6 p' w0 a len cap R W X Y f g c e)->K ⟨#[J R 0,I d,.bool false,undef,undef,undef,J Y 0,I k,J X 0,Ľ,ľ,Ŀ,ŀ,Ł,ł,Ń,ń,Ņ,ņ,Ň,ň,Ŋ,ŋ,Ō,ō,Ŏ,ŏ,À,Á,Â,Ã,Ä,Å,Æ,Ç,È,É,Ê,Ë,Ì,Í,Î,Ï,Ð,Ñ,Ò,Ó,Ô,Õ,Ö,Ø,Ù,Ú,Û,Ü,Ý,Þ,ß,à,á,â,ã,ä,å,æ,ç,è,é,ê,ë,ì,í,î,ï,ð,ñ,ò,ó,ô,õ,ö,ø,ù,ú,û,ü,ý,þ,ÿ,Ā,ā,Ă,ă,Ą,ą,Ć,ć,Ĉ,ĉ,Ċ,ċ,Č,č,Ď,ď,Đ,đ,Ē,ē,Ĕ,ĕ,Ė,ė,Ę,ę,Ě,ě,Ĝ,ĝ,Ğ,ğ,Ġ,ġ,Ģ,ģ,Ĥ,ĥ,Ħ,ħ,Ĩ,ĩ,Ī,ī,Ĭ,ĭ,Į,į,İ,ı,Ĳ,ĳ,Ĵ,ĵ,Ķ,ķ,Ĺ,ĺ,Ļ,ļ],[]⟩ e)->Code.wp prog ((Tryz.f33.body.bind (Dm 1)).getD .skip) (Exit.then K (bodyPost prog Tryz.f33 b)) ⟨#[J R 0,I d,.bool false,undef,undef,undef,J Y 0,I k,J X 0,Ľ,ľ,Ŀ,ŀ,Ł,ł,Ń,ń,Ņ,ņ,Ň,ň,Ŋ,ŋ,Ō,ō,Ŏ,ŏ,À,Á,Â,Ã,Ä,Å,Æ,Ç,È,É,Ê,Ë,Ì,Í,Î,Ï,Ð,Ñ,Ò,Ó,Ô,Õ,Ö,Ø,Ù,Ú,Û,Ü,Ý,Þ,ß,à,á,â,ã,ä,å,æ,ç,è,é,ê,ë,ì,í,î,ï,ð,ñ,ò,ó,ô,õ,ö,ø,ù,ú,û,ü,ý,þ,ÿ,Ā,ā,Ă,ă,Ą,ą,Ć,ć,Ĉ,ĉ,Ċ,ċ,Č,č,Ď,ď,Đ,đ,Ē,ē,Ĕ,ĕ,Ė,ė,Ę,ę,I k,ě,Ĝ,ĝ,Ğ,ğ,Ġ,ġ,Ģ,ģ,Ĥ,ĥ,Ħ,ħ,Ĩ,ĩ,Ī,ī,Ĭ,ĭ,Į,į,İ,ı,Ĳ,ĳ,Ĵ,ĵ,Ķ,ķ,Ĺ,ĺ,Ļ,ļ],[]⟩ w
def PF{o gv b}(g:∀(w0:QM)(a:QP)(len cap:Nat),Cb zs w0 a len cap->∀(R:Nat)(W:QM)(X Y:Nat),B8 p o p' b w0 a len cap R gv W X Y k):∃(p':Nat)(b:fL),∀(w0:QM)(a:QP)(len cap:Nat),Cb zs w0 a len cap->∀(R:Nat)(W:QM)(X Y:Nat),B8 p o p' b w0 a len cap R gv W X Y k:=⟨p',b,g⟩
def PE(zs p o)(k O:Nat)(hk:k<=255)(P:O<=400):∃(p':Nat)(S:fL),∀(w0:QM)(a:QP)(len cap:Nat),Cb zs w0 a len cap->∀(R:Nat)(W:QM)(X Y:Nat),B8 p o p' S w0 a len cap R O W X Y k:=by
 have N:=H (Su zs p);have T:=gx zs p;generalize mg zs p=c at T N;generalize Sw zs p=p1 at N;have⟨b,d,f,V,a0⟩:=Nr zs p;have⟨g,v⟩:=y7 f u64_in;clear f;have hm:k=255\/k=254\/k=253\/k=252\/k=251\/k<251:=Z;rcases hm with rfl|rfl|rfl|rfl|rfl|a1
 ·apply PF
  focus
   intro w0 a len cap q R W X Y K Q L s w
   intros
   rename_i i n
   have u:=H q
   clear q
   have t:=H n
   clear n
   conv=>arg 2;whnf
   have⟨x,y,z,A,B,F⟩:=i.cells
   have G:=i.fr 2
   go_wp2_with fail
   go_region_with (first|(go_at_call 13;refine(N w0 a len cap u R _ _ i.drew.rd.at).mono ?_;rintro e Vq⟨rfl,r⟩;have Oq:=H (i.drew.next r);obtain⟨y0,y1,y2,y3,y4,y5⟩:=Oq.cells;have j:=Oq.fr 2;clear r))
   all_goals(go_wp2;apply t;exact H (Oq.setP _ (by first|omega|exact(v _).1|(simp;done)) (by first|omega|exact(v _).2|(simp;done))))
 ·apply PF;intro w0 a len cap q R W X Y K Q L s w;intros;rename_i i n;have u:=H q;clear q;have t:=H n;clear n
  conv=>arg 2;whnf
  have⟨x,y,z,A,B,F⟩:=i.cells;have G:=i.fr 1;go_wp2_with fail;have l:=H (i.setRef 0);clear i x y z A B F G;refine(g w0 a len cap u R _ _ l.rd.at).mono ?_;rintro e V6⟨rfl,r⟩;have M:=H (l.next r);clear r;have⟨x,y,z,A,B,F⟩:=M.cells;have G:=M.fr 2;go_wp2;apply t;exact H (M.setP _ (by first|omega|exact(v _).1|(simp;done)) (by first|omega|exact(v _).2|(simp;done)))
 ·apply PF;intro w0 a len cap q R W X Y K Q L s w;intros;rename_i i n;have u:=H q;clear q;have t:=H n;clear n
  conv=>arg 2;whnf
  have⟨x,y,z,A,B,F⟩:=i.cells;have G:=i.fr 0;go_wp2;apply t;exact H (i.setKd 7)
 ·apply PF;intro w0 a len cap q R W X Y K Q L s w;intros;rename_i i n;have u:=H q;clear q;have t:=H n;clear n
  conv=>arg 2;whnf
  have⟨x,y,z,A,B,F⟩:=i.cells;have G:=i.fr 1;go_wp2;apply t;exact H (i.setRef _)
 ·apply PF;intro w0 a len cap q R W X Y K Q L s w;intros;rename_i i n;have u:=H q;clear q;have t:=H n;clear n
  conv=>arg 2;whnf
  go_wp2_with fail;refine(N w0 a len cap u R _ _ i.rd.at).mono ?_;rintro e V7⟨rfl,r⟩;have m:=H (i.next r);clear r i;have⟨x,y,z,A,B,F⟩:=m.cells;have G:=m.fr 3;go_wp2;apply t;exact H (m.setA _ (by first|omega|exact(v _).1|(simp;done)) (by first|omega|exact(v _).2|(simp;done)))
 apply PF;intro w0 a len cap q R W X Y K Q L s w;intros;rename_i i n;have u:=H q;clear q;have t:=H n;clear n
 conv=>arg 2;whnf
 have g1:((k:Int)==255)=false:=bG;have g2:((k:Int)==254)=false:=bG;have g3:((k:Int)==253)=false:=bG;have g4:((k:Int)==252)=false:=bG;have g5:((k:Int)==251)=false:=bG;go_wp2;apply t;exact i
def Px(zs p o k)(m:Int)(c:0<=m/\m<16):∃(p':Nat)(b:fL),∀(w0:QM)(a:QP)(len cap:Nat),Cb zs w0 a len cap->∀(R c:Nat)(W:QM)(X Y:Nat),B9 p o p' b w0 a len cap R c W X Y k m:=by
 let b:(m=0\/m=1\/m=2\/m=3)\/(m=4)\/(m=5\/m=6)\/(m=7\/m=8\/m=9\/m=10\/m=11)\/(m=12)\/(m=13\/m=14\/m=15):=Z;rcases b with b|b|b|b|b|b;.exact Q0 zs p o k m b
 .exact PQ zs p o k m b
 .exact QW zs p o k m b
 .exact QV zs p o k m b
 .exact PR zs p o k m b
 exact P7 zs p o k m b
def PT(zs p)(l:Nat)(F:l<=400):∃(o:fL)(p':Nat),∀(w0:QM)(a:QP)(len cap:Nat),Cb zs w0 a len cap->∀(R:Nat)(W:QM),Rp p w0 a len cap R W W ->
  QA 33 #[J R 0,I l,.bool false] W λe W'=>∃d dc,e=QJ (.agg (fH ⟨o,d,dc⟩).toArray)/\Od6 W.heap.size ⟨o,d,dc⟩ W'/\Rp p' w0 a len cap R W W':=by
 have N:=H (Su zs p);have hk:=gx zs p;generalize mg zs p=k at hk N;generalize Sw zs p=s at N;have z:=H (Su zs s);have G:=gx zs s;generalize mg zs s=c3 at G z;generalize Sw zs s=w at z;have K:=H (Su zs w);have L:=gx zs w;generalize mg zs w=c4 at L K;generalize Sw zs w=p3 at K;obtain⟨t,u,HA⟩:∃(t:fL)(u:Nat),Hid ((l=0/\t=⟨0,0,0,0,0,[]⟩/\u=s)\/(0<l/\((k:Int)%3==0)=false/\t=⟨0,wrap64 ((l:Int)-(c3:Int)%(l:Int)),0,0,0,[]⟩/\u=w)\/(0<l/\((k:Int)%3==0)=true/\t=⟨0,wrap64 ((c4:Int)%(l:Int)+1),0,0,0,[]⟩/\u=p3)):=by
  by_cases h1:l=0;·exact⟨_,_,H (.inl ⟨h1,rfl,rfl⟩)⟩
  cases h2:((k:Int)%3==0);·exact⟨_,_,H (.inr (.inl ⟨Z,rfl,rfl,rfl⟩))⟩
  exact⟨_,_,H (.inr (.inr ⟨Z,rfl,rfl,rfl⟩))⟩
 have⟨q2,o2,B1⟩:=Px zs u t k ((k:Int)%16) Z;have⟨q3,o3,B2⟩:=PE zs q2 o2 k l hk F;have⟨M,O⟩:=y7 B1 B2;clear B1 B2;refine⟨o3,q3,?_⟩;intro w0 a len cap h0 R W P;have⟨v,RN,A,B⟩:=Qf h0 P.lt (P.below (th.alloc gi (QL #[I 0,I 0,U 0,U 0,U 0,C] 63))) (ao W (QL #[I 0,I 0,U 0,U 0,U 0,C] 63));clear h0 P;go_enter func33,ntmps33;go_wp2_with fail;generalize W.alloc (QL #[I 0,I 0,U 0,U 0,U 0,C] 63)=V1 at A B⊢;refine(N w0 a len cap v R _ _ A.at).mono ?_;rintro e q⟨rfl,Q⟩;have S:=H (A.of Q);have T:=H ((Q.g.block _ (ag B) (λe=>by cases e;have:=RN.out;omega)).trans B);clear Q;have m:=H (show Oq6 s w0 a len cap R W q.heap.size W.heap.size ⟨0,0,0,0,0,[]⟩ none 0 (q.alloc (QL #[I 0,I 0,U 0,U 0,U 0,C] 63))from by have b:=(Fu q.heap.size q).alloc gi (QL #[I 0,I 0,U 0,U 0,U 0,C] 63);have hl:=ag T;exact⟨S.below b,RN,ao q _,S.g.size,by rw[b.block _ hl];exact T,gi,Z,⟨ar,ar,ar,⟨rfl,.inl ⟨rfl,rfl⟩⟩,ar,λy hy=>by cases hy⟩⟩)
 clear S T;go_upto_if 13 with fail
 generalize (q.alloc (QL #[I 0,I 0,U 0,U 0,U 0,C] 63))=V3 at m⊢;generalize q.heap.size=X at m⊢;generalize a1:W.heap.size=Y at m⊢;go_cut [13] (λ_ w'=>Hid (Oq6 u w0 a len cap R W X Y t none 0 w'));case first=>
  rcases HA with⟨V,rfl,rfl⟩|⟨V,h3,rfl,rfl⟩|⟨V,h3,rfl,rfl⟩
  ·subst V;go_wp2;go_meet;exact m
  ·have a0:((l:Int)==0)=false:=bG;go_wp2_with fail;refine(z w0 a len cap v R _ _ m.rd.at).mono ?_;rintro e V3⟨rfl,r⟩;have n:=H (m.next r);clear r;have⟨z0,z1,z2,z3,z4,z5⟩:=n.cells;have zf:=n.fr 1;go_wp2;go_meet;exact H (n.setRef _)
  have a0:((l:Int)==0)=false:=bG;go_wp2_with fail;refine(z w0 a len cap v R _ _ m.rd.at).mono ?_;rintro e V3⟨rfl,r⟩;have n:=H (m.next r);clear r;have c:=H (n.setRef (wrap64 ((l:Int)-(c3:Int)%(l:Int))));have⟨z0,z1,z2,z3,z4,z5⟩:=n.cells;have zf:=n.fr 1;go_wp2_with fail;clear z0 z1 z2 z3 z4 z5 zf;refine(K w0 a len cap v R _ _ c.rd.at).mono ?_;rintro e V4⟨rfl,r⟩;have f:=H (c.next r);clear r;have⟨z0,z1,z2,z3,z4,z5⟩:=f.cells;have zf:=f.fr 1;go_wp2;go_meet;exact H (f.setRef _)
 case rest=>
  have n:=hcut;go_upto_block 0 with fail
  apply M w0 a len cap v R l W X Y;·exact n
  clear n;intros;rename_i d2 a2 w2 i;go_upto_block 1 with fail
  apply O w0 a len cap v R W X Y;·exact i
  clear i;intros;rename_i d3 x w3 j;go_wp2_with (first|(refine Rl rfl 63 _ rfl _ rfl _ _ _ _ j.x underlying63 rfl E ?_)|(refine Gf rfl 63 _ _ rfl _ _ rfl rfl 63 _ j.y E rfl (by simp[fH,Value.oneCell']) ?_));refine fM (aw j.y _) underlying63 ?_;have g:=aj w3 Y (fH ⟨o3,d3,x⟩).toArray;have hy:=j.yn;have hr:=j.rn;have od:=j.od.kept g (Ou j.od.d j.y ar);exact⟨d3,x,rfl,od,j.rd.app g (λr e=>by cases e;omega)⟩
