import Derived.Deep.RegionHeld
import Derived.Lib.SmallJoins
import Derived.Test.YtdhegekcmmlohaaGreatDoorM01
set_option linter.unusedVariables false
set_option linter.unusedSimpArgs false
set_option maxRecDepth 20000
set_option maxHeartbeats 8000000
namespace Go.Proofs.YtdhegekcmmlohaaGreatDoor
open Go.Proofs.Tryz Go.RowKit Go.Maps Go.Shelf Go.ChangeShapes Go.WideShapes Go.ChangeAt
section
variable {S:TypeId->Prop}{B G M Q c g k n:Nat}{bud:Int}{m:Nat->Option (Bool×List Int)}{W W' w w':World}{xs:List Value}{a:Option Addr}{fifo mix zs:List Int}{e:TypeId}
def fC(m:Nat->Option (Bool×List Int))(p:Nat)(b:Bool):Nat->Bool
 |0=>true
 |k+1=>fC m p b k&&((m (p+k)).isSome==b)
instance (nn:Nat) (p c:Int):Decidable (AB nn p c):=by unfold AB;infer_instance
def kx(n:Nat)(bud:Int)(m:Nat->Option (Bool×List Int))(kd:Int)(p c:Nat):(Nat->Option (Bool×List Int))×Int:=
 if kd=0 then
  if fC m p false c=false then(m,6)else if bud<(bz m n:Int)+c then(m,1)else(aT m p c,0)
 else if fC m p true c=false then(m,6)
 else if kd=1 then(bQ m p c,0)
 else if kd=2 then(gU m p true c,0)else(gU m p false c,0)
def bZ(n:Nat)(bud:Int)(m:Nat->Option (Bool×List Int))(kd p c:Int)(a:Nat)(len:Int)(ys:List Int):(Nat->Option (Bool×List Int))×Int×List Int:=
 if kd=4 then(m,ci m a len,if ci m a len=0 then aH m a len.toNat else[])
 else if kd=5 then(if ci m a (ys.length:Int)=0 then ay m a ys ys.length else m,ci m a (ys.length:Int),[])
 else if kd<0\/5<kd then(m,6,[])
 else if AB n p c then((kx n bud m kd p.toNat c.toNat).1,(kx n bud m kd p.toNat c.toNat).2,[])
 else(m,6,[])
theorem run_store(S M nn bud f m m' code p c)(a:Nat)(n)(d:QP)(g i:Nat)(w)(h:Im S M 0 nn bud f w)(b:Pg f m w)(l:∀V,Im S M 1 nn bud f V->Pg f m V->Fr S M f f w V->QA 247 #[J S 0,U a,.slice d g i] V λe w'=>e=QJ (I code)/\∃j,Im S M 1 nn bud j w'/\Pg j m' w'/\Fr S M f j V w'):
  QA 221 #[J S 0,kf 5 p c a n d g i] w λe w'=>e=QJ (.agg #[I code,C])/\tg S M nn bud f m' w w':=by
 have⟨k,o,q⟩:=Qe h b l;clear h b l;unfold kf;go_enter_defers func221,ntmps221;go_wp2_with fail;refine(fX ((k.alloc _).alloc _)).mono ?_;rintro e V⟨rfl,r⟩;have b:=H (Dl.first k o #[I 5,I p,I c,U a,I n,.slice d g i]);rw[<-r]at b;clear r;generalize t:w.heap.size+1=y at b⊢;generalize w.heap.size=O at b⊢;have u:V.cell? (Qz O 0)=some (I 5):=by simp[QC,b.o]
 have v:V.cell? (Qz O 3)=some (U a):=by simp[QC,b.o]
 have x:V.cell? (Qz O 5)=some (.slice d g i):=by simp[QC,b.o]
 go_wp2_with fail;refine(q V b.im b.pg b.fr).mono ?_;rintro e z⟨rfl,j,k,o,r⟩;have s:=H (b.move k o r);clear k o r u v x;go_wp2_with (refine eG s.r ?_);have b:=s.done #[I code,C];refine Iy (f:=167) (args:=#[J S 0]) bH (by simp[go_sem]) ?_;refine(Go.MuLone.unlock_deferred jw (Qz S 0) .returning _ b.1 b.2.1).mono ?_;rintro e o k⟨rfl,rfl,rfl⟩;exact⟨_,AV b.2.2.1 underlying172,rfl,b.2.2.2⟩
theorem Dl.own{S O Rb n f f' V op}(h:Dl w op S M n bud f f' m O Rb V){v:QN}(b:V.ownsRow B 5 1 v k xs)(d:w.heap.size<=B)(c:Array QN):((V.setRow Rb c).setCell (Qz S 0) (.int .i32 0)).ownsRow w.heap.size 5 1 v k xs:=by
 have⟨g,i,l⟩:=h.im.apartT h.pg h.r ar ar;have o:=h.im.setRow g i c;refine dm ?_ d;refine(b.kept (aj V Rb c) (.inr λe=>?_)).kept (au (al _ S) 0 _) (.inr λe=>?_);·have⟨j,a⟩:=mM b e;rw[h.r]at a;simp at a
 have⟨j,a⟩:=mM b e;rw[h.im.box]at a;simp at a
theorem run_load(S M nn bud f m code)(xs:List Int)(p c)(a:Nat)(n d dl dc w)(h:Im S M 0 nn bud f w)(b:Pg f m w)(i:∀V,Im S M 1 nn bud f V->Pg f m V->QA 246 #[J S 0,U a,I n] V λe w'=>∃v,e=QJ (.agg #[I code,v])/\w'.ownsRow V.heap.size 5 1 v xs.length (Ns .u8 xs)/\Im S M 1 nn bud f w'/\Pg f m w'/\Fr S M f f V w'):
  QA 221 #[J S 0,kf 4 p c a n d dl dc] w λe w'=>∃v,e=QJ (.agg #[I code,v])/\w'.ownsRow w.heap.size 5 1 v xs.length (Ns .u8 xs)/\tg S M nn bud f m w w':=by
 have⟨g,j,k⟩:=Qe h b i;clear h b i;unfold kf;go_enter_defers func221,ntmps221;go_wp2_with fail;refine(fX ((g.alloc _).alloc _)).mono ?_;rintro e V⟨rfl,l⟩;have b:=H (Dl.first g j #[I 4,I p,I c,U a,I n,.slice d dl dc]);rw[<-l]at b;clear l;generalize s:w.heap.size+1=A at b⊢;generalize t:w.heap.size=O at b⊢;have u:V.cell? (Qz O 0)=some (I 4):=by simp[QC,b.o]
 have x:V.cell? (Qz O 3)=some (U a):=by simp[QC,b.o]
 have y:V.cell? (Qz O 4)=some (I n):=by simp[QC,b.o]
 have z:=H b.fr.size;go_wp2_with fail;refine(k V b.im b.pg).mono ?_;rintro e B⟨v,rfl,j,l,o,q⟩;have⟨g,r⟩:=y7 (b.move l o q) j;clear l o q u x y j;go_wp2_with (refine Gf rfl 172 _ _ rfl _ _ rfl rfl 172 _ g.r E rfl (zp r _) ?_);have b:=g.done #[I code,v];have j:=g.own r z #[I code,v];refine Iy (f:=167) (args:=#[J S 0]) bH (by simp[go_sem]) ?_;refine(Go.MuLone.unlock_deferred jw (Qz S 0) .returning _ b.1 b.2.1).mono ?_;rintro e l k⟨rfl,rfl,rfl⟩;exact⟨_,AV b.2.2.1 underlying172,v,rfl,j,b.2.2.2⟩
theorem iz(S M st nn bud f m)(a:Nat)(n w)(g:Im S M st nn bud f w)(i:Pg f m w)(ha:a<18446744073709551616):
  QA 285 #[J S 0,U a,I n] w λe w'=>e=QJ (I (ci m a n))/\w'=w:=by
 unfold ci;by_cases b:n<0\/4096<n;·rw[GP b];exact pC S a n w b
 rw[GO b];by_cases d:n=0;·subst d;rw[GP rfl];exact rQ S a w
 rw[GO d];by_cases c:4611686018427387904<=(a:Int)+(n-1);·rw[GP c];exact sV S a n w Z Z Z Z c
 rw[GO c];obtain⟨k,rfl⟩:=Ha (show 0<=n by omega);rw[F0,<-sF m a k Z];exact qK S M st nn bud f m a k _ _ w g i Z Z Z rfl rfl
theorem yX(S M)(g:Nat)(bud f m)(b:Int)(p c a n d dl dc ys w)(h:Im S M 0 g bud f w)(j:Pg f m w)(i:b<0\/5<b):
  QA 221 #[J S 0,kf b p c a n d dl dc] w λe w'=>e=QJ (.agg #[I (bZ g bud m b p c a n ys).2.1,C])/\tg S M g bud f (bZ g bud m b p c a n ys).1 w w':=by
 unfold bZ;rw[GO (show¬b=4 by omega),GO (show¬b=5 by omega),GP i];exact wH S M g bud f m b p c a n d dl dc w h j i
theorem Rt.lt{v}(h:Rt w g v):g<v.heap.size:=by
 by_cases b:g<v.heap.size;·exact b
 have:v.heap[g]?=none:=Hd Z;have a:=h.blk;rw[this]at a;cases a
def cy(c:Nat):Nat:=[16,32,48,64,96,128,192,256,384,512,768,1024].getD c 0
def dI(c:Nat):Nat:=[1,1,1,1,1,1,1,1,2,2,3,4].getD c 0
def aM(c:Nat):Nat:=[64,32,21,16,10,8,5,4,5,4,4,4].getD c 0
def eV(c:Nat):Nat:=cy c-8
def yJ:Nat->Nat
 |0=>1
 |c+1=>yJ c+6*(dI c+1)
def aD(c s:Nat):Nat:=yJ c+s*(dI c+1)
def bh(c s j:Nat):Nat:=aD c s*1024+j*cy c
def fD(a:Nat):Nat:=((List.range 12).find? λc=>a+8<=cy c).getD 12
def dF:List (Nat×Nat×Nat):=(List.range 12).flatMap λc=>(List.range 6).flatMap λs=>(List.range (aM c)).map λj=>(c,s,j)
structure Cf where
 mix:Nat
 fifo:Nat
 large:Nat
 bud:Nat
 key:Int
 ds:List Int
structure Rg9 where
 first:Nat
 guards:Nat
 pages:Nat
 st:Int
 rq:Int
def Rg9.base(r:Rg9):Nat:=(r.first+r.guards)*1024
def Rg9.ext(r:Rg9):Nat:=r.guards+r.pages+1
structure Hs where
 m:Nat->Option (Bool×List Int)
 st:Nat->Nat->Nat->Int
 rq:Nat->Nat->Nat->Int
 mx:Nat->List Int
 ff:Nat->List Int
 rg:List Rg9
 row:List Nat
 rel:List Nat
 used:Nat
def aP(cf:Cf):Hs:=⟨λ_=>none,λ_ _ _=>0,λ_ _ _=>0,λ_=>List.replicate cf.mix (-1),λ_=>[],[],[],[],0⟩
def aE(f:Nat->Nat->Nat->Int)(c s j:Nat)(v:Int):Nat->Nat->Nat->Int:=λc' i e=>if c'=c/\i=s/\e=j then v else f c' i e
def dB(f:Nat->List Int)(c:Nat)(v:List Int):Nat->List Int:=λc'=>if c'=c then v else f c'
def dr(cf:Cf)(h:Hs)(n:Nat):Nat:=((cf.ds[h.used]?.getD 0)%(n:Int)).toNat
def be(x:Int):Bool:=x==0 || x==3
def freeS(h:Hs)(c s:Nat):List Nat:=(List.range (aM c)).filter λj=>be (h.st c s j)
def dA(h:Hs)(c s:Nat):Bool:=(h.m (aD c s)).isSome
def NW(h:Hs)(c:Nat):Option Nat:=(List.range 6).find? λs=>dA h c s && !(freeS h c s).isEmpty
def qS(h:Hs)(c:Nat):Option Nat:=(List.range 6).find? λs=>!dA h c s
def cJ(cf:Cf)(h:Hs)(c:Nat):Option (Nat×Hs):=
 match NW h c with
 |some s=>some (s,h)
 |none=>match qS h c with
  |none=>none
  |some s=>if cf.bud<bz h.m 283+dI c then none else some (s,{h with m:=aT h.m (aD c s) (dI c)})
def clean(m:Nat->Option (Bool×List Int))(a n:Nat):Bool:=(aH m a n).all (· ==0)
def bN(cf:Cf)(c:Nat):Nat->Hs->Option (Nat×Nat)×Hs
 |0,h=>(none,h)
 | f+1,h=>match cJ cf h c with
  |none=>(none,h)
  |some (s,e)=>
   let j:=(freeS e c s)[dr cf e (freeS e c s).length]?.getD 0
   if clean e.m (bh c s j) (cy c)then(some (s,j),{e with used:=e.used+1})
   else bN cf c f {e with used:=e.used+1,st:=aE e.st c s j 4}
def can(cf:Cf)(a:Nat):List Int:=gI (cx cf.key (a:Int))
def aR(a:Nat):Nat:=a/1024+(if a%1024 > 0 then 1 else 0)
def dV(h:Hs)(n:Nat):Option Nat:=((List.range 97).find? λi=>decide (i+n<=96)&&h.rg.all λr=>decide (187+i+n<=r.first) || decide (r.first+r.ext<=187+i)).map (187 + ·)
def av(cf:Cf)(h:Hs)(a:Nat):Option Nat×Hs:=
 if a<=1016 then
  match bN cf (fD a) 2000 h with
  |(none,e)=>(none,e)
  |(some (s,j),e)=>(some (bh (fD a) s j),{e with st:=aE e.st (fD a) s j 1,rq:=aE e.rq (fD a) s j a,m:=ay e.m (bh (fD a) s j+eV (fD a)) (can cf (bh (fD a) s j)) 8})
 else
  let g:=1+dr cf h 3
  let e:={h with used:=h.used+1}
  let p:=aR a
  if 96<p then(none,e)else
  match dV e (g+p+1)with
  |none=>(none,e)
  |some s=>if cf.bud<bz e.m 283+p then(none,e)
   else(some ((s+g)*1024),{e with m:=aT e.m (s+g) p,rg:=e.rg++[⟨s,g,p,1,a⟩],rel:=e.rel.filter λb=>b/1024<s || s+(g+p+1)<=b/1024})
inductive Fd where
 |slot (c s j:Nat)
 |range (r:Rg9)
 |no (code:Int)
def ce(p:Nat):Option (Nat×Nat×Nat):=dF.find? λt=>bh t.1 t.2.1 t.2.2==p
def aB(h:Hs)(p:Nat):Fd:=
 match ce p with
 |some (c,s,j)=>if h.st c s j=1 then .slot c s j else if h.st c s j=0 then .no 3 else .no 4
 |none=>match h.rg.find? λr=>r.base==p with
  |some r=>if r.st=1 then .range r else .no 4
  |none=>if h.rel.contains p then .no 4 else .no 3
def sound(cf:Cf)(h:Hs)(c s j:Nat):Bool:=aH h.m (bh c s j+eV c) 8==can cf (bh c s j)
def bK(h:Hs)(c s j:Nat):Hs:=
 let e:={h with st:=aE h.st c s j 3}
 if(freeS e c s).length=aM c then {e with m:=bQ e.m (aD c s) (dI c)}else e
def aL(cf:Cf)(h:Hs)(c s j:Nat):Hs:=
 let i:={h with m:=ay h.m (bh c s j) (List.replicate (cy c) 0) (cy c),st:=aE h.st c s j 2,rq:=aE h.rq c s j 0}
 let d:Nat:=if cf.mix=0 then 0 else dr cf i cf.mix
 let e:=if cf.mix=0 then i else {i with used:=i.used+1}
 let r:=ed cf.fifo (e.mx c) (e.ff c) ((s*aM c+j:Nat):Int) (d:Int)
 let t:={e with mx:=dB e.mx c r.1,ff:=dB e.ff c r.2.1}
 if r.2.2 = -1 then t else bK t c (r.2.2.toNat/aM c) (r.2.2.toNat%aM c)
def aJ(cf:Cf)(h:Hs)(r:Rg9):Hs:=
 let e:={h with m:=bQ h.m (r.first+r.guards) r.pages,rg:=h.rg.map λx=>if x.base=r.base then {x with st:=2,rq:=0}else x,row:=h.row++[r.base]}
 if cf.large<e.row.length then {e with rg:=e.rg.filter λx=>x.base≠e.row[0]?.getD 0,rel:=e.rel++[e.row[0]?.getD 0],row:=e.row.tail}else e
structure An4 where
 code:Int
 addr:Nat
 size:Nat
 data:List Int
def An4.no(c:Int):An4:=⟨c,0,0,[]⟩
def db(cf:Cf)(h:Hs):Fd->Hs
 | .slot c s j=>aL cf h c s j
 | .range r=>aJ cf h r
 | .no _=>h
def aZ(m:Nat->Option (Bool×List Int))(p q n:Nat):Nat->Option (Bool×List Int):=ay m q (aH m p n) n
def a_(cf:Cf)(h:Hs)(p a:Nat):An4×Hs:=
 let i (old:Nat):An4×Hs:=
  match av cf h a with
  |(none,e)=>(.no 1,e)
  |(some q,e)=>let t:={e with m:=aZ e.m p q (min old a)}
   (⟨0,q,0,[]⟩,db cf t (aB t p))
 if p=0 then
  match av cf h a with
  |(none,e)=>(.no 1,e)
  |(some q,e)=>(⟨0,q,0,[]⟩,e)
 else match aB h p with
  | .no code=>(.no code,h)
  | .slot c s j=>if sound cf h c s j=false then(.no 5,h)
   else if a<=1016/\fD a=c then(⟨0,p,0,[]⟩,{h with rq:=aE h.rq c s j a})
   else i (h.rq c s j).toNat
  | .range r=>if 1016<a/\aR a=r.pages then(⟨0,p,0,[]⟩,{h with rg:=h.rg.map λx=>if x.base=r.base then {x with rq:=a}else x})
   else i r.rq.toNat
structure fL where
 kd:Int
 ref:Int
 p:Nat
 a:Nat
 b:Nat
 ys:List Int
abbrev Qm(c:Cf)(a:Option Addr)(n:Nat):Obj:=.cells #[I c.mix,I c.fifo,I c.large,I c.bud,U c.key,.slice a c.ds.length n] 30
abbrev Qp(r:Rg9):Obj:=.cells #[U r.base,I r.first,I r.ext,I r.pages,I r.st,I r.rq] 115
abbrev Qo(k:Int)(o:fL)(d:Option Addr)(n:Nat):Obj:=.cells #[I k,I o.ref,U o.p,U o.a,U o.b,.slice d o.ys.length n] 48
def NQ(cf:Cf)(h:Hs)(o:fL)(p:Nat):An4×Hs:=
 let e (n:Nat):An4×Hs:=match av cf h n with
  |(none,i)=>(.no 1,i)
  |(some q,i)=>(⟨0,q,0,[]⟩,i)
 if o.kd=0 then e o.a
 else if o.kd=1 then(if 18446744073709551616<=o.a*o.b then(.no 1,h)else e (o.a*o.b))
 else if o.kd=2 then a_ cf h p o.a
 else if o.kd=3 then
  match aB h p with
  | .no code=>(.no code,h)
  | .slot c s j=>if sound cf h c s j=false then(.no 5,h)else(.no 0,aL cf h c s j)
  | .range r=>(.no 0,aJ cf h r)
 else if o.kd=4 then
  match aB h p with
  | .no code=>(.no code,h)
  | .slot c s j=>(⟨0,0,eV c,[]⟩,h)
  | .range r=>(⟨0,0,r.pages*1024,[]⟩,h)
 else if o.kd=5 then(if 4096<o.a then(.no 6,h)else(⟨ci h.m p (o.a:Int),0,0,if ci h.m p (o.a:Int)=0 then aH h.m p o.a else[]⟩,h))
 else if o.kd=6 then(.no (ci h.m p (o.ys.length:Int)),{h with m:=if ci h.m p (o.ys.length:Int)=0 then ay h.m p o.ys o.ys.length else h.m})
 else(.no 6,h)
def bU(cf:Cf)(h:Hs)(an:List An4)(o:fL):An4×Hs:=
 if o.ref=0 then NQ cf h o o.p
 else if o.ref<0\/(an.length:Int)<o.ref then(.no 6,h)
 else NQ cf h o ((o.p+((an[o.ref.toNat-1]?.map An4.addr).getD 0))%18446744073709551616)
def NJ(cf:Cf):List fL->Hs->List An4->Hs×List An4
 |[],h,an=>(h,an)
 |o::r,h,an=>NJ cf r (bU cf h an o).2 (an++[(bU cf h an o).1])
theorem C8(h:c<12):c=0\/c=1\/c=2\/c=3\/c=4\/c=5\/c=6\/c=7\/c=8\/c=9\/c=10\/c=11:=Z
theorem uT(h:c<12):sz (c:Int)=(cy c:Nat):=by
 rcases C8 h with rfl|rfl|rfl|rfl|rfl|rfl|rfl|rfl|rfl|rfl|rfl|rfl<;>decide
theorem pU(h:c<12):pg (c:Int)=(dI c:Nat):=by
 rcases C8 h with rfl|rfl|rfl|rfl|rfl|rfl|rfl|rfl|rfl|rfl|rfl|rfl<;>decide
theorem vA(h:c<12):sl (c:Int)=(aM c:Nat):=by
 rcases C8 h with rfl|rfl|rfl|rfl|rfl|rfl|rfl|rfl|rfl|rfl|rfl|rfl<;>decide
theorem D3(h:c<12):us (c:Int)=(eV c:Nat):=by
 rcases C8 h with rfl|rfl|rfl|rfl|rfl|rfl|rfl|rfl|rfl|rfl|rfl|rfl<;>decide
theorem OT(h:c<12):rs (c:Int)=(yJ c:Nat):=by
 rcases C8 h with rfl|rfl|rfl|rfl|rfl|rfl|rfl|rfl|rfl|rfl|rfl|rfl<;>decide
theorem aX(h:c<12):16<=cy c/\cy c<=1024/\1<=dI c/\dI c<=4/\4<=aM c/\aM c<=64/\aM c*cy c<=dI c*1024/\eV c+8=cy c/\yJ c+6*(dI c+1)<=187/\1<=yJ c:=by
 rcases C8 h with rfl|rfl|rfl|rfl|rfl|rfl|rfl|rfl|rfl|rfl|rfl|rfl<;>decide
theorem cD{s:Nat}(h:c<12)(a:s<6):1<=aD c s/\aD c s+dI c<187:=by
 have:=aX h;unfold aD;have:s*(dI c+1)<=5*(dI c+1):=Gm _ Z;omega
theorem ca{s j:Nat}(h:c<12)(a:s<6)(b:j<aM c):1024<=bh c s j/\bh c s j+cy c<=(aD c s+dI c)*1024/\bh c s j+cy c<191488:=by
 have d:=aX h;have e:=cD h a;have f:j*cy c+cy c<=aM c*cy c:=by
  have:(j+1)*cy c<=aM c*cy c:=Gm _ b;rw[Gy,GF]at this;exact this
 unfold bh;omega
theorem zO{a:Nat}(h:a<=1016):co (a:Int)=(fD a:Nat)/\fD a<12/\a+8<=cy (fD a):=by
 have b:∀a:Fin 1017,co ((a.val:Nat):Int)=(fD a.val:Nat)/\fD a.val<12/\a.val+8<=cy (fD a.val):=by decide +kernel
 exact b ⟨a,Z⟩
def Mx(w:World)(M r G:Nat)(mix:List Int):Prop:=w.heap[M]?=some (.cells #[Vl r mix.length mix.length,I (0:Nat),I mix.length,.iface 146 (J G 0)] 263)/\RowV w r 3 (Ns .i64 mix)
theorem Mx.but{S w w' M r G mix}(h:Mx w M r G mix)(a:But S w w')(b:¬S M)(c:¬S r):Mx w' M r G mix:=
 ⟨a.at h.1 b,h.2.but a c⟩
structure Qr(w:QM)(M rm G rq n:Nat)(mix fifo:List Int):Prop where
 mx:Mx w M rm G mix
 qu:Qu w G rq n fifo
 ne:rm≠rq
theorem Qr.sep{rm rq}(h:Qr w M rm G rq n mix fifo):M≠G/\M≠rq/\M≠rm/\G≠rm/\G≠rq:=by
 obtain⟨⟨a,b⟩,⟨ps,o,f,c,d,_⟩,e⟩:=h;refine⟨?_,d.ne a ar,b.ne a ar,b.ne c ar,d.ne c ar⟩;rintro rfl;rw[a]at c;simp at c
theorem Qr.but{S w w' M rm G rq n mix fifo}(h:Qr w M rm G rq n mix fifo)(a:But S w w')(b:¬S M)(c:¬S rm)(d:¬S G)(e:¬S rq):Qr w' M rm G rq n mix fifo:=
 ⟨h.mx.but a b c,h.qu.but a d e,h.ne⟩
def Qs(e G rq:Nat):Nat->Prop:=λk=>k=e\/k=G\/k=rq
theorem Dg(M rm G rq n mix fifo x d w)(h:Qr w M rm G rq n mix fifo)(j:mix≠[])(f:mix.length<=1024)(l:n<=1024):
  QA 340 #[J M 0,I x,I d] w λe w'=>∃z,e=QJ (I z)/\z=(ed n mix fifo x d).2.2/\Qr w' M rm G rq n (ed n mix fifo x d).1 (ed n mix fifo x d).2.1/\But (Qs rm G rq) w w':=by
 have q:0<mix.length:=List.length_pos_iff.2 j;have⟨s,t,r,m,A⟩:=h.sep;have a:(mix.set (md d mix.length) x).length=mix.length:=bH;by_cases i:mix[md d mix.length]?.getD 0 = -1;·refine(qk M G rm mix.length _ mix x d w h.mx.1 h.mx.2 rfl q f rfl i).mono ?_;rintro e w'⟨rfl,o,b⟩;unfold ed;rw[GO j,GP i];have c:But (Qs rm G rq) w w':=.ofGrown b (.inl rfl);refine⟨_,rfl,rfl,⟨⟨?_,o⟩,h.qu.but (But.ofGrown (S:=λk=>k=rm) b rfl) m (λe=>h.ne e.symm),h.ne⟩,c⟩;rw[a];exact eK b h.mx.1 r
 refine(ww M G rm mix.length _ mix x d w h.mx.1 h.mx.2 rfl q f rfl _ rfl i (λv w'=>v=I (ed n mix fifo x d).2.2/\Qr w' M rm G rq n (ed n mix fifo x d).1 (ed n mix fifo x d).2.1/\But (Qs rm G rq) w w') (λu o b=>?_)).mono ?_
 ·have v:=h.qu.but (But.ofGrown (S:=λk=>k=rm) b rfl) m (λe=>h.ne e.symm);refine(AF G rq n fifo _ d u v l).mono ?_;rintro e w'⟨rfl,y,p⟩;refine⟨_,rfl,?_,?_,?_⟩;·unfold ed;rw[GO j,GO i]
  ·unfold ed;rw[GO j,GO i];refine⟨⟨?_,o.but p (λc=>c.elim (λe=>m e.symm) (λe=>h.ne e))⟩,y,h.ne⟩;rw[a];exact p.at (eK b h.mx.1 r) (λc=>c.elim (λe=>s e) (λe=>t e))
  exact(But.ofGrown b (.inl rfl)).trans (p.mono (λg c=>c.elim (λe=>.inr (.inl e)) (λe=>.inr (.inr e))))
 rintro e w'⟨z,rfl,p,c,v⟩;simp at p;exact⟨z,rfl,p,c,v⟩
def qv(M G:Nat)(mix:List Int):Value:=.agg #[J M 0,J G 0,if mix.length=0 then .iface 146 (J G 0)else .iface 145 (J M 0)]
theorem lF(w:QM)(A B:Obj):(((w.alloc A).alloc B).heap[w.heap.size]?=some A)/\(((w.alloc A).alloc B).heap[w.heap.size+1]?=some B)/\D w ((w.alloc A).alloc B):=by
 have b:=dD w A;have a:=dD (w.alloc A) B;rw[cS]at a;exact⟨lw b B,a,((Fu _ w).alloc (Fv _) A).alloc (by rw[cS];omega) B⟩
theorem ae{o:Obj}(h:w.heap[g]?=some o)(a:D w w'):w'.heap[g]?=some o:=by
 rw[a.block g (dO h)];exact h
theorem xB{A B:Obj}(c:W.heap[g]?=some A)(b:W.heap[k]?=some B)(a:A≠B):g≠k:=by
 rintro rfl;rw[c]at b;cases b;exact a rfl
theorem zq(am lm cm af lf cf)(n:Nat)(mix fifo w)(h:Wt w am lm af lf mix fifo)(hm:lm<=16)(hn:1<=n/\n<=32)(B:lf<=n):
  QA 93 #[wv am lm cm af lf cf (n:Nat)] w λe w'=>∃M a G c,e=QJ (qv M G mix)/\Qr w' M a G c n mix fifo/\(w.heap.size<=M/\w.heap.size<=a/\w.heap.size<=G/\w.heap.size<=c)/\D w w':=by
 unfold wv;have b:=H (lF w (.cells #[.slice am lm cm,.slice af lf cf,I n] 113) (.cells #[.pointer none,.pointer none,.nilIface] 150));have⟨i,x,r,F⟩:=Qf (lQ n lf cf af fifo _ h.fl B Z (h.f.below b.2.2)) (λW(d:D w W)=>lQ lm lm cm am mix W h.ml (Fv _) Z (h.m.below d)) h.ml h.fl;clear h;go_enter func93,ntmps93;go_wp2_with fail;refine(i).mono ?_;rintro e j⟨c,rfl,f,l,d⟩;have⟨m,s,y,q⟩:=Qf (az b.2.2 d) (ae b.1 d) (ae b.2.1 d) f;have K:=H (show w.heap.size<=c/\c<j.heap.size from⟨by have:=b.2.2.size;omega,f.lt⟩);clear d f l;have d:=H ((Fu _ j).alloc (Fv _) (.cells #[Vl c n n,I 0,I lf] 261));have L:(j.alloc (.cells #[Vl c n n,I 0,I lf] 261)).cell? (Qz w.heap.size 0)=some (.slice am lm cm):=by rw[GT _ _ _ _ _ _ (ae s d)];rfl
 go_wp2_with fail;refine(x _ (az m d)).mono ?_;rintro e b⟨a,rfl,z,t,l⟩;clear L;have L1:=m.size;have⟨N,f,u,O,P⟩:=Qg (ae (dD j (.cells #[Vl c n n,I 0,I lf] 261)) l) ((q.below d q.lt).below l (FG q.lt d.size)) (az (az m d) l) (ae (ae s d) l) (ae (ae y d) l);have o:=H (show a≠c by have:=K.2;rw[cS]at t;omega);have p:=H (show w.heap.size<=a by rw[cS]at t;omega);have v:=H z;have Q:=H (show w.heap.size<=j.heap.size by have:=m.size;omega);generalize j.heap.size=G at*;have i:=H ((Fu _ b).alloc (Fv _) (.cells #[Vl a lm lm,I 0,I lm,.iface 146 (J G 0)] 263));clear l z t;have⟨R,d,m,q,s,t,x,S⟩:=Qj (ae O i) (ae P i) (dD b (.cells #[Vl a lm lm,I 0,I lm,.iface 146 (J G 0)] 263)) (ae N i) (f.below i f.lt) (v.below i v.lt) (az u i) u.size;have L:(b.alloc (.cells #[Vl a lm lm,I 0,I lm,.iface 146 (J G 0)] 263)).cell? (Qz w.heap.size 0)=some (.slice am lm cm):=bJ R;have d0:(b.alloc (.cells #[Vl a lm lm,I 0,I lm,.iface 146 (J G 0)] 263)).cell? ⟨w.heap.size+1,0,none⟩=some (.pointer none):=bJ d;have d1:(b.alloc (.cells #[Vl a lm lm,I 0,I lm,.iface 146 (J G 0)] 263)).cell? ⟨w.heap.size+1,1,none⟩=some (.pointer none):=bJ d;have d2:(b.alloc (.cells #[Vl a lm lm,I 0,I lm,.iface 146 (J G 0)] 263)).cell? ⟨w.heap.size+1,2,none⟩=some .nilIface:=bJ d;have f0:(b.alloc (.cells #[Vl a lm lm,I 0,I lm,.iface 146 (J G 0)] 263)).frozen? ⟨w.heap.size+1,0,none⟩=false:=GY _ _ _ _ _ d;have f1:(b.alloc (.cells #[Vl a lm lm,I 0,I lm,.iface 146 (J G 0)] 263)).frozen? ⟨w.heap.size+1,1,none⟩=false:=GY _ _ _ _ _ d;have f2:(b.alloc (.cells #[Vl a lm lm,I 0,I lm,.iface 146 (J G 0)] 263)).frozen? ⟨w.heap.size+1,2,none⟩=false:=GY _ _ _ _ _ d;have FIN:Hid (∀y z A:QN,∀W',W'=(((b.alloc (.cells #[Vl a lm lm,I 0,I lm,.iface 146 (J G 0)] 263)).setCell ⟨w.heap.size+1,0,none⟩ y).setCell ⟨w.heap.size+1,1,none⟩ z).setCell ⟨w.heap.size+1,2,none⟩ A->Qr W' b.heap.size a G c n mix fifo/\(w.heap.size<=b.heap.size/\w.heap.size<=a/\w.heap.size<=G/\w.heap.size<=c)/\D w W'):=?FIN;case FIN=>
  rintro y z A W' rfl;have T:But (λk=>k=w.heap.size+1) (b.alloc (.cells #[Vl a lm lm,I 0,I lm,.iface 146 (J G 0)] 263)) ((((b.alloc (.cells #[Vl a lm lm,I 0,I lm,.iface 146 (J G 0)] 263)).setCell ⟨w.heap.size+1,0,none⟩ y).setCell ⟨w.heap.size+1,1,none⟩ z).setCell ⟨w.heap.size+1,2,none⟩ A):=(((But.refl (λk=>k=w.heap.size+1) (b.alloc (.cells #[Vl a lm lm,I 0,I lm,.iface 146 (J G 0)] 263))).set _ _ _ rfl).set _ _ _ rfl).set _ _ _ rfl;have V:Qr (b.alloc (.cells #[Vl a lm lm,I 0,I lm,.iface 146 (J G 0)] 263)) b.heap.size a G c n mix fifo:=by
   refine⟨⟨by rw[r];exact m,?_⟩,⟨_,0,lf,q,s,?_,?_,B,λ_=>rfl,?_⟩,o⟩
   ·have:=t.out;rwa [Nat.sub_self,List.replicate_zero,Gl]at this
   ·rw[FC,Gc,F];omega
   ·omega
   rw[IE,List.take_zero,Gl,<-F.out,Iz (Fv _),G9]
  have l:=d.out;have X:=xB m l bH;have Y:a≠w.heap.size+1:=(t.ne l ar).symm;have n3:=xB q l bH;have n4:c≠w.heap.size+1:=(s.ne l ar).symm;exact⟨V.but T X Y n3 n4,⟨S,p,Q,K.1⟩,x.trans (T.below x.size (λg e=>Z))⟩
 clear R m q s t x S N f p Q v i u O P o;by_cases f:lm=0
 ·have i:qv b.heap.size G mix=.agg #[J b.heap.size 0,J G 0,.iface 146 (J G 0)]:=by unfold qv;rw[r,GP f]
  have l:=H i;have m:((lm:Int)==0)=true:=by simp[f]
  clear i f;go_wp2;refine GX (Gq dU _ _ (w.heap.size+1) 150 _ (0,0) _ dU (set3 d _ _ _) underlying150 rfl E) dU ?_;exact⟨b.heap.size,a,G,c,by rw[l],FIN _ _ _ _ rfl⟩
 have i:qv b.heap.size G mix=.agg #[J b.heap.size 0,J G 0,.iface 145 (J b.heap.size 0)]:=by unfold qv;rw[r,GO f]
 have l:=H i;have m:((lm:Int)==0)=false:=bG;clear i f;go_wp2;refine GX (Gq dU _ _ (w.heap.size+1) 150 _ (0,0) _ dU (set3 d _ _ _) underlying150 rfl E) dU ?_;exact⟨b.heap.size,a,G,c,by rw[l],FIN _ _ _ _ rfl⟩
theorem ic{P:Program}{f:Func}{p q:Tmp}{b:TypeId}(h:f.results=#[.cell p b,.tmp q])(a:Array Value)(w:World)(g)(t:TypeId)(c:Array Value)(i:Nat×Nat)(d:TypeDesc)(j:a.getD p undef=J g 0)(k:w.heap[g]?=some (.cells c t i))(l:P.underlying b=some d)(m:(match d with | .struct _ | .array _ _=>true|_=>false)=true)(n:(P.info? b).map (·.size)=some c.size):
  (results f a).run P w=.ok (.tuple #[.agg c,a.getD q undef]) w:=by
 have e:a[p]?.getD undef=J g 0:=by simpa using j
 simp[results,h,e,asAddr,run_loadVar_row w g t b c i d k l m n]
theorem Qr.below{rm rq}(h:Qr w M rm G rq n mix fifo)(a:D w w'):Qr w' M rm G rq n mix fifo:=
 h.but (But.ofBelow (S:=λ_=>False) a) id id id id
theorem DZ(M rm G rq n fifo x d w)(h:Qr w M rm G rq n [] fifo)(b:n<=1024):
  QA 342 #[J G 0,I x,I d] w λe w'=>∃z,e=QJ (I z)/\z=(ed n [] fifo x d).2.2/\Qr w' M rm G rq n (ed n [] fifo x d).1 (ed n [] fifo x d).2.1/\But (Qs rm G rq) w w':=by
 have⟨f,i,l,j,m⟩:=h.sep;refine(AF G rq n fifo x d w h.qu b).mono ?_;rintro e w'⟨rfl,k,c⟩;have e1:ed n [] fifo x d=([],(cu n fifo x).1,(cu n fifo x).2):=by unfold ed;rw[GP rfl]
 rw[e1];exact⟨_,rfl,rfl,⟨h.mx.but c (λa=>a.elim (λe=>f e) (λe=>i e)) (λa=>a.elim (λe=>j e.symm) (λe=>h.ne e)),k,h.ne⟩,c.mono (λg a=>a.elim (λe=>.inr (.inl e)) (λe=>.inr (.inr e)))⟩
theorem ti(h:eN mix fifo (n:Nat)=true):mix.length<=16/\1<=n/\n<=32/\fifo.length<=n:=by
 unfold eN at h;simp only[Gi,Hj]at h;omega
theorem OU(M rm G rq n mix fifo x d w)(h:Qr w M rm G rq n mix fifo)(a:n<=1024)(b:mix.length=0):
  QA 342 #[J G 0,I x,I d] w λe w'=>∃z,e=QJ (I z)/\z=(ed n mix fifo x d).2.2/\Qr w' M rm G rq n (ed n mix fifo x d).1 (ed n mix fifo x d).2.1/\But (Qs rm G rq) w w':=by
 obtain rfl:=List.length_eq_zero_iff.1 b;exact DZ M rm G rq n fifo x d w h a
def Ow(w:World)(base:Nat)(a:Option Addr)(c:Nat)(zs:List Int):Prop:=w.ownsRow base 3 1 (.slice a zs.length c) zs.length (Ns .i64 zs)
theorem Ow.nil(w base):Ow w base none 0 []:=⟨rfl,.inl ⟨rfl,rfl⟩⟩
theorem Ow.but{S base}(h:Ow w base a c zs)(i:But S w w')(j:∀g,a=some (Qz g 0)->¬S g):Ow w' base a c zs:=by
 refine⟨h.1,?_⟩;rcases h.2 with k|⟨g,b,d,e,l,f,m⟩;·exact .inl k
 right;have n:a=some (Qz g 0):=by simp at e;exact e.1
 exact⟨g,b,d,e,l,by rw[i.block g (dO f) (j g n)];exact f,m⟩
theorem Ow.below{base}(h:Ow w base a c zs)(b:D w w'):Ow w' base a c zs:=h.but (But.ofBelow (S:=λ_=>False) b) (λ_ _=>id)
theorem Ow.base{base}(h:Ow w base a c zs):∀g,a=some (Qz g 0)->base<=g/\g<w.heap.size:=by
 rintro g rfl;rcases h.2 with⟨e,_⟩|⟨j,b,d,e,f,i,k⟩;·simp at e
 simp at e;obtain⟨rfl,_⟩:=e;exact⟨f,dO i⟩
theorem Ow.sl{base}(h:Ow w base a c zs):Sl w a zs:=by
 have b:=h;rcases h.2 with⟨e,d⟩|⟨g,f,i,e,k,l,m⟩;·simp at e;exact .inl ⟨e.1,List.length_eq_zero_iff.1 d⟩
 have j:a=some (Qz g 0):=by simp at e;exact e.1
 subst j;exact .inr ⟨g,rfl,RowV.ofOwns b⟩
theorem Ow.cap0{base}(h:Ow w base a c zs):a=none->c=0:=by
 rintro rfl;rcases h.2 with⟨e,f⟩|⟨g,b,d,e,i,j,k⟩;·simp at e;exact e.2
 simp at e
theorem Ow.capge{base}(h:Ow w base a c zs):zs.length<=c:=by
 rcases h.2 with⟨e,f⟩|⟨g,b,d,e,i,j,k,_⟩;·omega
 simp at e;omega
theorem kV(w base a c zs)(o:QP)(m q:Nat)(f:List Int)(b:Ow w base a c zs)(z:f.length=m)(K:o=none->q=0)(l:(o=none/\f=[])\/∃p,o=some p/\∀j u,(Ns .i64 f)[j]?=some u->w.cell? (p.add j)=some u)(S:zs.length+m<=1048576)(i:base<=w.heap.size):
  ∃j d w',QI 28 (.slice a zs.length c) (.slice o m q) w (.slice j (zs.length+m) d) w'/\Ow w' base j d (zs++f)/\But (λk=>base<=k) w w':=by
 have⟨A,B,r,s,t⟩:=G0 Tryz.info3In;rcases l with⟨rfl,rfl⟩|⟨p,rfl,L⟩
 ·obtain rfl:m=0:=by simpa using z.symm
  obtain rfl:=K rfl;refine⟨a,c,w,?_,by rw[Gl];exact b,But.refl _ _⟩;rw[GK];exact run_append_owned_none (P:=prog) (w:=w) base 28 28 3 A 1 underlying28 B _ _ _ b
 have⟨M,w',N,F,n,_⟩:=Ia (P:=prog) w base 28 28 3 A (I 0) 1 8 underlying28 B r s t rfl Z (.slice a zs.length c) zs.length (Ns .i64 zs) b p m q (Ns .i64 f) (by rw[NM];omega) L (jU _ _) (by unfold maxLen;omega) Z i;have hv:∃j d,M=.slice j (zs.length+m) d:=by
  rcases F.2 with⟨e,e0⟩|⟨g,v,y,e,_⟩;·exact⟨none,0,by rw[e0];exact e⟩
  exact⟨_,_,e⟩
 obtain⟨j,d,rfl⟩:=hv;refine⟨j,d,w',N,?_,⟨n.os,n.tape,n.output,n.size,λk O Q=>n.block k O λG=>Q ?_⟩⟩
 ·have e1:(zs++f).length=zs.length+m:=by simp[z]
  unfold Ow;rw[e1];have x:Ns .i64 (zs++f)=Ns .i64 zs++Ns .i64 f:=by simp[Ns]
  rw[x];exact F
 cases a with
 |none=>simp[Value.ownBlock]at G
 |some x=>
  rcases b.2 with⟨e,_⟩|⟨g,v,y,e,R,_⟩;·simp at e
  simp at e;obtain⟨rfl,_⟩:=e;simp[Value.ownBlock]at G;omega
structure Ky(S:QO->Prop)(W W':QM):Prop where
 os:W'.os=W.os
 tape:W'.tape=W.tape
 output:W'.output=W.output
 size:W.heap.size<=W'.heap.size
 cells:∀(g:Nat)(c:Array QN)(t:QO)(f:Nat×Nat),W.heap[g]?=some (.cells c t f)->¬S t->W'.heap[g]?=some (.cells c t f)
theorem Ky.below(h:D W W'):Ky S W W':=⟨h.os,h.tape,h.output,h.size,λg c t f a _=>by rw[h.block g (ag a)];exact a⟩
theorem Ky.refl(S W):Ky S W W:=Ky.below (Fu _ _)
theorem Ky.trans{S a b c}(h:Ky S a b)(k:Ky S b c):Ky S a c:=⟨k.os.trans h.os,k.tape.trans h.tape,k.output.trans h.output,Fx h.size k.size,λg d t f i e=>k.cells g d t f (h.cells g d t f i e) e⟩
theorem Ky.more{a:QO->Prop}(h:Ky S W W')(b:∀t,S t->a t):Ky a W W':=⟨h.os,h.tape,h.output,h.size,λg c t f d i=>h.cells g c t f d (λe=>i (b t e))⟩
theorem Ky.grown{P:Nat}{c:Array QN}{t:QO}{f:Nat×Nat}(d:W.heap[P]?=some (.cells c t f))(i:S t)(b:W.grownBy W' (some P)):Ky S W W':=by
 refine⟨b.os,b.tape,b.output,b.size,λg k l m a j=>?_⟩;rw[b.block g (ag a) (λe=>?_)];·exact a
 simp at e;subst e;rw[d]at a;simp at a;exact j (a.2.1▸i)
theorem Sx.ky{T}(h:Sx T Q n bud m W)(k:Ky S W W')(e:¬S 177)(f:¬S 179)(j:¬S 5):Sx T Q n bud m W':=by
 have⟨c,e1,o,p,a⟩:=h.row;refine⟨k.cells _ _ _ _ h.box e,⟨c,k.cells _ _ _ _ e1 f,o,λi r=>?_,a⟩,h.out⟩;have b:=p i r;cases d:m i with
 |none=>rw[d]at b;exact b
 |some q=>
  have⟨l,xs⟩:=q;rw[d]at b;have⟨s,t,u,g,v,w⟩:=b;exact⟨s,t,u,g,v,k.cells _ _ _ _ w j⟩
theorem ai{sz:Nat}{v:QN}(h:W.ownsRow B e sz v n xs)(k:Ky S W W')(d:¬S e):W'.ownsRow B e sz v n xs:=by
 refine⟨h.1,?_⟩;rcases h.2 with a|⟨g,b,c,f,a,i,j⟩;·exact .inl a
 exact .inr ⟨g,b,c,f,a,k.cells _ _ _ _ i d,j⟩
theorem cL(h:RowV W g e xs)(k:Ky S W W')(a:¬S e):RowV W' g e xs:=by
 have⟨c,b,d⟩:=h;exact⟨c,k.cells _ _ _ _ b a,d⟩
theorem Sl.ky(h:Sl W a zs)(k:Ky S W W')(b:¬S 3):Sl W' a zs:=by
 rcases h with h|⟨g,e,c⟩;·exact .inl h
 exact .inr ⟨g,e,cL c k b⟩
def Wq(W:World)(v:Value)(zs:List Int):Prop:=∃(a:Option Addr)(cap:Nat),v=.slice a zs.length cap/\(a=none->cap=0)/\Sl W a zs
theorem Wq.ky{S W W' v zs}(h:Wq W v zs)(k:Ky S W W')(c:¬S 3):Wq W' v zs:=by
 have⟨a,b,d,e,f⟩:=h;exact⟨a,b,d,e,f.ky k c⟩
structure Sm where
 P:Nat
 T:Nat
 Q:Nat
 G:Nat
 gc:Nat
 da:QP
 dc:Nat
 wv:QN
 rv:QN
 ov:QN
 lv:QN
 mv:Nat->QN
 fv:Nat->QN
def Us(zs:List Nat):List Value:=zs.map λ(n:Nat)=>Value.int .u64 (n:Int)
def ji(h:Hs):List Value:=dF.flatMap λt=>[I t.1,I t.2.1,I t.2.2,U (bh t.1 t.2.1 t.2.2:Nat),I (h.st t.1 t.2.1 t.2.2),I (h.rq t.1 t.2.1 t.2.2)]
def nO(cf:Cf)(x:Sm):List Value:=(List.range 12).flatMap λc=>[x.mv c,x.fv c,I cf.fifo]
def eM(rg:List Rg9):List Value:=rg.flatMap λr=>[U r.base,I r.first,I r.ext,I r.pages,I r.st,I r.rq]
def fN(cf:Cf)(x:Sm)(used:Nat):Array Value:=#[I cf.mix,I cf.fifo,I cf.large,I cf.bud,U cf.key,.slice x.da cf.ds.length x.dc,J x.T 0,Vl x.G 1062 x.gc,x.wv,x.rv,x.ov,x.lv,I used]
structure Sh(B:Nat)(x:Sm)(cf:Cf)(h:Hs)(W:QM):Prop where
 box:W.heap[x.P]?=some (.cells (fN cf x h.used) 106)
 bp:B<=x.P
 bq:B<=x.Q
 bg:∀g,e_ x.Q W g->B<=g
 ds:Sl W x.da cf.ds
 sp:Sx x.T x.Q 283 (cf.bud:Nat) h.m W
 sl:W.ownsRow B 109 6 (Vl x.G 1062 x.gc) 1062 (ji h)
 wt:W.ownsRow B 113 3 x.wv 12 (nO cf x)
 wm:∀c,c<12->Wq W (x.mv c) (h.mx c)/\Wq W (x.fv c) (h.ff c)
 rg:W.ownsRow B 115 6 x.rv h.rg.length (eM h.rg)
 ro:W.ownsRow B 27 1 x.ov h.row.length (Us h.row)
 rl:W.ownsRow B 27 1 x.lv h.rel.length (Us h.rel)
theorem cV(h:W'.heap[Q]?=W.heap[Q]?)(b:e_ Q W' g):e_ Q W g:=by
 have⟨k,a⟩:=b;refine⟨k,?_⟩;unfold World.cell? at a⊢;rw[h]at a;exact a
theorem Sx.qEq{T}(h:Sx T Q n bud m W)(k:Ky S W W')(a:¬S 179):W'.heap[Q]?=W.heap[Q]?:=by
 have⟨c,e1,_⟩:=h.row;rw[k.cells _ _ _ _ e1 a,e1]
theorem Sh.boxed{x cf h}(a:Sh B x cf h W)(k:Ky (· =106) W W')(u)(d:W'.heap[x.P]?=some (.cells (fN cf x u) 106)):Sh B x cf {h with used:=u} W':=
 ⟨d,a.bp,a.bq,λg e=>a.bg g (cV (a.sp.qEq k ar) e),a.ds.ky k ar,a.sp.ky k ar ar ar,ai a.sl k ar,ai a.wt k ar,λc b=>⟨(a.wm c b).1.ky k ar,(a.wm c b).2.ky k ar⟩,ai a.rg k ar,ai a.ro k ar,ai a.rl k ar⟩
theorem Sh.below{B x cf h W W'}(a:Sh B x cf h W)(b:D W W'):Sh B x cf h W':=by
 have k:Ky (λ_=>False) W W':=Ky.below b;exact⟨k.cells _ _ _ _ a.box (λe=>e),a.bp,a.bq,λg f=>a.bg g (cV (a.sp.qEq k (λe=>e)) f),a.ds.ky k (λe=>e),a.sp.below b,ai a.sl k (λe=>e),ai a.wt k (λe=>e),λc d=>⟨(a.wm c d).1.ky k (λe=>e),(a.wm c d).2.ky k (λe=>e)⟩,ai a.rg k (λe=>e),ai a.ro k (λe=>e),ai a.rl k (λe=>e)⟩
theorem Sh.cell{B x cf h W}(a:Sh B x cf h W)(i:Nat)(v:QN)(hv:(fN cf x h.used)[i]?=some v):W.cell? (Qz x.P i)=some v:=by
 simp[QC,a.box,hv]
theorem eC{α:Type}(f:α->List QN)(n:Nat)(b:∀a,(f a).length=n):∀(l:List α)(i:Nat)(a:α),l[i]?=some a->∀r,r<n->(l.flatMap f)[i*n+r]?=(f a)[r]?
 |[],i,a,h=>by simp at h
 |x::l,0,a,h=>λr c=>by
  simp at h
  subst h
  rw[If,Nat.zero_mul,Oi,Ga (by rw[b];exact c)]
 |x::l,i+1,a,h=>λr c=>by
  simp at h
  have d:(i+1)*n=i*n+n:=by rw[Gy,GF]
  rw[If,Gn (by rw[b];omega),b,show(i+1)*n+r-n=i*n+r by omega]
  exact eC f n b l i a h r c
theorem bC{sz:Nat}{cap}(h:W.ownsRow B e sz (Vl G n cap) n xs)(i:Nat)(v:QN)(hv:xs[i]?=some v):W.cell? (Qz G i)=some v:=by
 rcases h.2 with⟨e,_⟩|⟨g,a,b,e,j,c,k,l,m,d⟩;·simp at e
 simp at e;obtain⟨rfl,rfl⟩:=e;have f:=(Fz.1 hv).1;rw[<-d,Hf (by rw[<-h.1];exact f),Gg]at hv;simp[QC,c,hv]
theorem fG:dF.length=1062:=by decide +kernel
def sA(k:Nat):Nat×Nat×Nat:=(dF[k]?).getD (0,0,0)
theorem Oz(h:k<1062):dF[k]?=some (sA k):=by
 unfold sA;rw[Fy (by rw[fG];exact h)];rfl
def dC(h:Hs)(k:Nat):Int:=h.st (sA k).1 (sA k).2.1 (sA k).2.2
def fJ(h:Hs)(k:Nat):Int:=h.rq (sA k).1 (sA k).2.1 (sA k).2.2
def gt(k:Nat):Nat:=bh (sA k).1 (sA k).2.1 (sA k).2.2
abbrev Qx(k:Nat)(h:Hs):Obj:=.cells #[I ((sA k).1:Nat),I ((sA k).2.1:Nat),I ((sA k).2.2:Nat),U (gt k:Nat),I (dC h k),I (fJ h k)] 109
theorem Sh.slot{x cf h}(b:Sh B x cf h W)(c:k<1062):QG W x.G (k*6) (I ((sA k).1:Nat))/\QG W x.G (k*6+1) (I ((sA k).2.1:Nat))/\QG W x.G (k*6+2) (I ((sA k).2.2:Nat))/\QG W x.G (k*6+3) (U (gt k:Nat))/\QG W x.G (k*6+4) (I (dC h k))/\W.cell? (Qz x.G (k*6+5))=some (I (fJ h k)):=by
 have a:=eC (λt:Nat×Nat×Nat=>[I t.1,I t.2.1,I t.2.2,U (bh t.1 t.2.1 t.2.2:Nat),I (h.st t.1 t.2.1 t.2.2),I (h.rq t.1 t.2.1 t.2.2)]) 6 (λ_=>rfl) dF k (sA k) (Oz c);have g:=λr v(d:r<6)hv=>bC b.sl (k*6+r) v ((a r d).trans hv)
 exact⟨g 0 _ Z rfl,g 1 _ Z rfl,g 2 _ Z rfl,g 3 _ Z rfl,g 4 _ Z rfl,g 5 _ Z rfl⟩
def jc(h:Hs)(c s:Nat)(e:List Int)(n:Nat):List Nat:=(List.range n).filter λk=>(sA k).1==c&&((sA k).2.1==s&&e.contains (dC h k))
theorem xH(h c s sts)(n:Nat):jc h c s sts (n+1)=jc h c s sts n++(if((sA n).1==c&&((sA n).2.1==s&&sts.contains (dC h n)))=true then[n]else[]):=by
 unfold jc;rw[Gs,Hl];congr 1;simp only[List.filter_cons,List.filter_nil]
theorem zJ(h c s sts n):(jc h c s sts n).length<=n:=by
 unfold jc;have:=Hb (λk=>(sA k).1==c&&((sA k).2.1==s&&sts.contains (dC h k))) (List.range n);simpa using this
end
end Go.Proofs.YtdhegekcmmlohaaGreatDoor
namespace Go.Proofs.YtdhegekcmmlohaaGreatDoor.product
open Go.Proofs.Tryz Go.RowKit Go.Maps Go.Shelf Go.ChangeShapes Go.WideShapes Go.ChangeAt
theorem sp_Product_no(x y:Nat)(c:x<18446744073709551616)(d:y<18446744073709551616)(h:18446744073709551616<=x*y)(w:QM):
  QA 73 #[U x,U y] w λe w'=>e=QJ (.tuple #[U 0,.bool false])/\w'=w:=by
 have a:0<x:=by
  rcases Nat.eq_zero_or_pos x with b|b;·subst b;simp at h
  exact b
 have b:(18446744073709551615:Int)/(x:Int)<(y:Int):=by
  have:18446744073709551615/x<y:=by
   rw[Nat.div_lt_iff_lt_mul a,GL];omega
  show((18446744073709551615:Nat):Int)/(x:Int)<(y:Int);rw[<-Int.natCast_ediv];exact Int.ofNat_lt.2 this
 have f:((x:Int) !=0)=true:=bG;go_enter func73,ntmps73;go_wp2
 go_ret2
 exact QB
theorem sp_Product_zero(y:Nat)(a:y<18446744073709551616)(w:QM):
  QA 73 #[U 0,U y] w λe w'=>e=QJ (.tuple #[U 0,.bool true])/\w'=w:=by
 go_enter func73,ntmps73;go_wp2
 go_ret2
 exact QB
theorem sp_Product_yes(x y:Nat)(a:0<x)(d:x<18446744073709551616)(f:y<18446744073709551616)(h:x*y<18446744073709551616)(w:QM):
  QA 73 #[U x,U y] w λe w'=>e=QJ (.tuple #[U ((x*y:Nat):Int),.bool true])/\w'=w:=by
 have g:(y:Int)<=(18446744073709551615:Int)/(x:Int):=by
  have:y<=18446744073709551615/x:=by
   rw[Nat.le_div_iff_mul_le a,GL];omega
  show(y:Int)<=((18446744073709551615:Nat):Int)/(x:Int);rw[<-Int.natCast_ediv];exact Int.ofNat_le.2 this
 have i:((x:Int) !=0)=true:=bG;have b:IntKind.u64.wrap ((x:Int)*(y:Int))=((x*y:Nat):Int):=by
  rw[Mul64.mulN,Hv _ h]
 have c:=Bm b;clear h b;go_enter func73,ntmps73;go_wp2
 go_ret2
 exact⟨by rw[<-c.out];rfl,rfl⟩
end Go.Proofs.YtdhegekcmmlohaaGreatDoor.product
namespace Go.Proofs.YtdhegekcmmlohaaGreatDoor
open Go.Proofs.Tryz Go.RowKit Go.Maps Go.Shelf Go.ChangeShapes Go.WideShapes Go.ChangeAt
section
variable {S:TypeId->Prop}{B G M Q c g k n:Nat}{bud:Int}{m:Nat->Option (Bool×List Int)}{W W' w w':World}{xs:List Value}{a:Option Addr}{fifo mix zs:List Int}{e:TypeId}
def NY(tk:Nat->Bool):Nat->Nat
 |0=>0
 |k+1=>if tk k then 0 else NY tk k+1
theorem pe(tk):∀k,NY tk k<=k
 |0=>Fv _
 |k+1=>by have:=pe tk k;unfold NY;split<;>omega
theorem jo(tk):∀k n,n<=NY tk k↔n<=k/\∀q,k-n<=q->q<k->tk q=false
 |0,n=>by
  simp only[NY]
  exact⟨λh=>⟨h,λq _ a=>Z⟩,λh=>h.1⟩
 | k+1,n=>by
  have c:=jo tk k
  simp only[NY]
  cases d:tk k with
  | true=>
   simp only[IM]
   constructor
   ·intro h
    exact⟨Z,λq b a=>Z⟩
   intro⟨b,a⟩
   by_cases f:n=0
   ·omega
   have:=a k Z Z
   rw[d]at this;cases this
  | false=>
   simp only[Bool.false_eq_true,IL]
   constructor
   ·intro h
    refine⟨by have:=pe tk k;omega,λq b a=>?_⟩
    by_cases e:q=k
    ·subst e;exact d
    exact((c (n-1)).1 Z).2 q Z Z
   intro⟨b,a⟩
   by_cases f:n=0
   ·omega
   have:=(c (n-1)).2 ⟨Z,λq g i=>a q Z Z⟩
   omega
theorem find_range{N:Nat}{p:Nat->Bool}(a:k<N)(b:p k=true)(c:∀i,i<k->p i=false):(List.range N).find? p=some k:=by
 rw[Iu];exact⟨b,Gh.2 a,λj d=>by rw[c j d];rfl⟩
def gY(rg:List Rg9)(q:Nat):Bool:=rg.any λr=>decide (r.first<=187+q)&&decide (187+q<r.first+r.ext)
theorem pu(c:List Rg9)(l:∀r∈c,187<=r.first/\1<=r.ext){i:Nat}(o:1<=n):(c.all λr=>decide (187+i+n<=r.first) || decide (r.first+r.ext<=187+i))=true↔∀q,i<=q->q<i+n->gY c q=false:=by
 rw[List.all_eq_true];constructor
 ·intro h q j k;unfold gY;cases e:c.any _ with
  |false=>rfl
  |true=>
   exfalso;have⟨r,f,b⟩:=List.any_eq_true.1 e;have:=h r f;simp at this b;omega
 intro h r f;have p:=l r f;simp;by_cases j:187+i+n<=r.first
 ·exact .inl j
 by_cases k:r.first+r.ext<=187+i
 ·exact .inr k
 exfalso;have d:∀q,i<=q->q<i+n->¬(r.first<=187+q/\187+q<r.first+r.ext):=λq a b m=>by
  have:=h q a b;unfold gY at this;have g:(c.any λr=>decide (r.first<=187+q)&&decide (187+q<r.first+r.ext))=true:=List.any_eq_true.2 ⟨r,f,by simp;exact m⟩;rw[g]at this;cases this
 by_cases g:r.first<=187+i
 ·exact d i (Fv _) Z ⟨g,Z⟩
 exact d (r.first-187) Z Z ⟨Z,Z⟩
theorem Pd{h:Hs}(c:∀r∈h.rg,187<=r.first/\1<=r.ext)(d:1<=n)(l:k<96)(m:NY (gY h.rg) (k+1)=n)(f:∀j,j<=k->NY (gY h.rg) j<n):dV h n=some (187+(k+1-n)):=by
 have g:=pe (gY h.rg) (k+1);unfold dV;rw[find_range (k:=k+1-n) Z ?_ ?_];·rfl
 ·simp only[Gi,Hj];refine⟨Z,(pu h.rg c d).2 (λq a b=>?_)⟩;exact((jo (gY h.rg) (k+1) n).1 Z).2 q a Z
 intro i o;cases e:(decide (i+n<=96)&&h.rg.all λr=>decide (187+i+n<=r.first) || decide (r.first+r.ext<=187+i))with
 |false=>rfl
 |true=>
  exfalso;simp only[Gi,Hj]at e;have j:=(pu h.rg c d).1 e.2;have:=(jo (gY h.rg) (i+n) n).2 ⟨Z,λq a b=>j q Z b⟩;have:=f (i+n) Z;omega
theorem sI{h:Hs}(c:∀r∈h.rg,187<=r.first/\1<=r.ext)(d:1<=n)(f:∀j,j<=96->NY (gY h.rg) j<n):dV h n=none:=by
 unfold dV;rw[List.find?_eq_none.2];·rfl
 intro i j e;simp only[Gi,Hj]at e;have g:=(pu h.rg c d).1 e.2;have:=(jo (gY h.rg) (i+n) n).2 ⟨Z,λq a b=>g q Z b⟩;have:=f (i+n) Z;omega
end
section
variable {m:Nat->Option (Bool×List Int)}{B M S a c cap k n:Nat}{f:Nat->Option Nat}{W W' w:World}{bud nn st:Int}{x:Sm}{e:TypeId}{xs:List Value}{h:Hs}{cf:Cf}
theorem fu{f:Nat->Option Nat}{m:Nat->Option (Bool×List Int)}(h:∀k,(f k).isSome=(m k).isSome)(p):∀c,bm f p c=c↔fC m p true c=true
 |0=>by simp[bm,fC]
 |k+1=>by
  have a:=fu h p k
  have b:=ep f p k
  simp only[bm,fC,Gi,beq_iff_eq,<-h (p+k),<-a]
  cases(f (p+k)).isSome<;>simp<;>omega
theorem pM{f:Nat->Option Nat}{m:Nat->Option (Bool×List Int)}(h:∀k,(f k).isSome=(m k).isSome)(p):∀c,bm f p c=0↔fC m p false c=true
 |0=>by simp[bm,fC]
 |k+1=>by
  have a:=pM h p k
  simp only[bm,fC,Gi,beq_iff_eq,<-h (p+k),<-a]
  cases(f (p+k)).isSome<;>simp
theorem nS(nn:Nat)(p c):bI nn p c=true↔AB nn p c:=by
 unfold bI AB;rw[Hj];omega
theorem Af(S M)(nn:Nat)(bud f m)(s p:Int)(c a n d dl dc ys w)(h:Im S M 0 nn bud f w)(u:Pg f m w)(A:∀k,nn<=k->m k=none)(G:nn<=4096)(v:p<=9223372036854775807)(F:s=0\/s=1\/s=2\/s=3):
  QA 221 #[J S 0,kf s p c a n d dl dc] w λe r=>e=QJ (.agg #[I (bZ nn bud m s p c a n ys).2.1,C])/\tg S M nn bud f (bZ nn bud m s p c a n ys).1 w r:=by
 have g:(0:Int)<=nn:=Z;have j:(nn:Int)<=4096:=Z;have K:¬s=4:=Z;have L:¬s=5:=Z;have e6:¬(s<0\/5<s):=Z;have l:=u.none_iff;have x:bm f 0 4096=bz m nn:=by
  rw[ke l 4096,show 4096=nn+(4096-nn) by omega,mn A]
 unfold bZ;rw[GO K,GO L,GO e6];by_cases t:AB nn p c
 ·rw[GP t];have b:=(nS nn p c).2 t;have⟨P,N,Q,R⟩:=t;obtain⟨p,rfl⟩:=Ha N;obtain⟨c,rfl⟩:=Ha (show 0<=c by omega);simp only[F0];have O:=ep f p c;rcases F with rfl|rfl|rfl|rfl
  ·refine lL S M nn bud f m _ _ p c a n d dl dc w h u (λV i q=>?_);simp only[kx,IM];cases o:fC m p false c with
   | false=>
    simp only[IM];refine(qh S M 1 nn bud f p c _ V i g j b rfl (by
     have:=(pM l p c);rw[o]at this;have y:bm f p c≠0:=λe=>by simpa using this.1 e
     omega)).mono ?_
    rintro e r⟨rfl,rfl⟩;exact⟨rfl,f,i,q,Fr.refl _ _ _ _⟩
   |true=>
    have B:=(pM l p c).2 o;by_cases z:bud<(bz m nn:Int)+c;·simp only[GP z,IS,IL];refine(qL S M 1 nn bud f p c _ V i g j b B x z).mono ?_;rintro e r⟨rfl,rfl⟩;exact⟨rfl,f,i.drew,q.drew,(Fr.refl _ _ _ _).drew⟩
    simp only[GO z,IS,IL];exact sj S M 1 nn bud f m p c _ V i q g j b B x Z
  ·refine jz S M nn bud f m _ _ p c a n d dl dc w h u (λV i q=>?_);simp only[kx,show¬((1:Int)=0) by omega,IL,IM];cases o:fC m p true c with
   | false=>
    simp only[IM];refine(ni S M 1 nn bud f p c _ V i g j b rfl (by
     have:=(fu l p c);rw[o]at this;have y:bm f p c≠c:=λe=>by simpa using this.1 e
     omega)).mono ?_
    rintro e r⟨rfl,rfl⟩;exact⟨rfl,f,i,q,Fr.refl _ _ _ _⟩
   |true=>
    simp only[IS,IL];exact oB S M 1 nn bud f m p c V i q g j b ((fu l p c).2 o)
  ·refine ri S M nn bud f m _ _ p c a n d dl dc w h u (λV i q=>?_);simp only[kx,show¬((2:Int)=0) by omega,show¬((2:Int)=1) by omega,IL,IM];cases o:fC m p true c with
   | false=>
    simp only[IM];refine(jl S M 1 nn bud f p c _ true V i g j b rfl (by
     have:=(fu l p c);rw[o]at this;have y:bm f p c≠c:=λe=>by simpa using this.1 e
     omega)).mono ?_
    rintro e r⟨rfl,rfl⟩;exact⟨rfl,f,i,q,Fr.refl _ _ _ _⟩
   |true=>
    simp only[IS,IL];refine(ki S M 1 nn bud f m p c true V i q g j b ((fu l p c).2 o)).mono ?_;rintro e r⟨rfl,z,y,B⟩;exact⟨rfl,f,z,y,B⟩
  refine my S M nn bud f m _ _ p c a n d dl dc w h u (λV i q=>?_);simp only[kx,show¬((3:Int)=0) by omega,show¬((3:Int)=1) by omega,show¬((3:Int)=2) by omega,IL];cases o:fC m p true c with
  | false=>
   simp only[IM];refine(jl S M 1 nn bud f p c _ false V i g j b rfl (by
    have:=(fu l p c);rw[o]at this;have y:bm f p c≠c:=λe=>by simpa using this.1 e
    omega)).mono ?_
   rintro e r⟨rfl,rfl⟩;exact⟨rfl,f,i,q,Fr.refl _ _ _ _⟩
  |true=>
   simp only[IS,IL];refine(ki S M 1 nn bud f m p c false V i q g j b ((fu l p c).2 o)).mono ?_;rintro e r⟨rfl,z,y,B⟩;exact⟨rfl,f,z,y,B⟩
 rw[GO t];have b:bI nn p c=false:=by
  cases o:bI nn p c with
  |false=>rfl
  |true=>exact absurd ((nS nn p c).1 o) t
 rcases F with rfl|rfl|rfl|rfl;·refine lL S M nn bud f m _ _ p c a n d dl dc w h u (λV i q=>(uV S M 1 nn bud f p c V i g j v b).mono ?_);rintro e r⟨rfl,rfl⟩;exact⟨rfl,f,i,q,Fr.refl _ _ _ _⟩
 ·refine jz S M nn bud f m _ _ p c a n d dl dc w h u (λV i q=>(rL S M 1 nn bud f p c V i g j v b).mono ?_);rintro e r⟨rfl,rfl⟩;exact⟨rfl,f,i,q,Fr.refl _ _ _ _⟩
 ·refine ri S M nn bud f m _ _ p c a n d dl dc w h u (λV i q=>(lX S M 1 nn bud f p c true V i g j v b).mono ?_);rintro e r⟨rfl,rfl⟩;exact⟨rfl,f,i,q,Fr.refl _ _ _ _⟩
 refine my S M nn bud f m _ _ p c a n d dl dc w h u (λV i q=>(lX S M 1 nn bud f p c false V i g j v b).mono ?_);rintro e r⟨rfl,rfl⟩;exact⟨rfl,f,i,q,Fr.refl _ _ _ _⟩
theorem rS{n}(h:ci m a n=0):∃k:Nat,n=k/\k<=4096/\(k=0\/a+k<=4611686018427387904)/\∀d,d<k->isOpen (m ((a+d)/1024))=true:=by
 unfold ci at h;by_cases b:n<0\/4096<n;·rw[GP b]at h;cases h
 rw[GO b]at h;obtain⟨k,rfl⟩:=Ha (show 0<=n by omega);refine⟨k,rfl,Z,?_⟩;by_cases f:(k:Int)=0;·exact⟨.inl Z,λd c=>Z⟩
 rw[GO f]at h;by_cases c:4611686018427387904<=(a:Int)+((k:Int)-1);·rw[GP c]at h;cases h
 rw[GO c]at h;refine⟨.inr Z,?_⟩;cases e:dE m a k with
 |false=>simp[e,jk]at h
 |true=>exact gL e
theorem jR(c:Pg f m W)(h:isOpen (m k)=true):∃g,f k=some g:=by
 rcases c.at' k with⟨a,d⟩|⟨b,l,xs,a,_⟩;·rw[d]at h;cases h
 exact⟨b,a⟩
theorem xw(S a n)(c:Int)(w:QM)(f:(c !=0)=true)(h:QA 285 #[J S 0,U a,I n] (w.alloc Qw) λe b=>e=QJ (I c)/\b=w.alloc Qw):
  QA 246 #[J S 0,U a,I n] w λe b=>e=QJ (.agg #[I c,C])/\b=w.alloc (.cells #[I c,C] 172):=by
 have d:=H h;go_enter func246,ntmps246;go_wp2_with fail;refine(d).mono ?_;rintro _ _⟨rfl,rfl⟩;go_wp2_with fail;refine GX (v:=.agg #[I c,C]) (by simp[results,Tryz.results246,go_sem]) rfl ⟨rfl,rfl⟩
theorem uQ(S a)(c:Int)(n cap:Nat)(p:QP)(w:QM)(f:(c !=0)=true)(h:QA 285 #[J S 0,U a,I n] (w.alloc (.cells #[.slice p n cap] 22)) λe b=>e=QJ (I c)/\b=w.alloc (.cells #[.slice p n cap] 22)):
  QA 247 #[J S 0,U a,.slice p n cap] w λe b=>e=QJ (I c)/\b=w.alloc (.cells #[.slice p n cap] 22):=by
 have d:=H h;go_enter func247,ntmps247;go_wp2_with fail;refine(d).mono ?_;rintro _ _⟨rfl,rfl⟩;go_wp2_with fail;go_ret;exact QB
theorem y_(S M)(nn:Nat)(bud f m p c)(a:Nat)(n d dl dc ys w)(h:Im S M 0 nn bud f w)(j:Pg f m w)(ha:a<18446744073709551616):
  QA 221 #[J S 0,kf 4 p c a n d dl dc] w λe g=>∃v,e=QJ (.agg #[I (bZ nn bud m 4 p c a n ys).2.1,v])/\g.ownsRow w.heap.size 5 1 v (bZ nn bud m 4 p c a n ys).2.2.length (Ns .u8 (bZ nn bud m 4 p c a n ys).2.2)/\tg S M nn bud f (bZ nn bud m 4 p c a n ys).1 w g:=by
 have l:bZ nn bud m 4 p c a n ys=(m,ci m a n,if ci m a n=0 then aH m a n.toNat else[]):=by unfold bZ;rw[GP rfl]
 rw[l];refine run_load S M nn bud f m _ _ p c a n d dl dc w h j (λV i q=>?_);by_cases b:ci m a n=0
 ·rw[b,GP rfl];obtain⟨k,rfl,o,s,t⟩:=rS b;have u:=zu S M 1 nn bud f m a k V i q o s (λd j=>jR q (t d j)) (λW d j=>by
   have:=iz S M 1 nn bud f m a (k:Nat) W d j ha;rwa [b]at this)
  refine((callsIn_wide (n:=5)).1 u).mono ?_;rintro e g⟨v,rfl,x,r⟩;refine⟨v,rfl,?_,r⟩;simp only[F0];have y:(aH m a k).length=k:=by simp[aH]
  rw[y];exact x
 rw[GO b];refine(xw S a n _ V (by simpa using b) (iz S M 1 nn bud f m a n _ (i.alloc _) (q.alloc _) ha)).mono ?_;rintro e g⟨rfl,rfl⟩;exact⟨_,rfl,⟨rfl,.inl ⟨rfl,rfl⟩⟩,i.alloc _,q.alloc _,Fr.ofGrown (GZ _ _ none)⟩
theorem tp(m k u v):dT (dT m k u) k v=dT m k v:=by
 funext j;unfold dT;split<;>rfl
theorem vF(m:Nat->Option (Bool×List Int))(k:Nat)(v:Option (Bool×List Int))(h:m k=v):dT m k v=m:=by
 funext j;unfold dT;split;·rename_i e;rw[e,h]
 rfl
theorem qt(xs b:List Int)(a:Nat)(z:Int)(h:a+b.length<xs.length):(splice xs a b).set (a+b.length) z=splice xs a (b++[z]):=by
 have c:(xs.take a).length=a:=bG;have d:xs.drop (a+b.length)=xs[a+b.length]::xs.drop (a+b.length+1):=List.drop_eq_getElem_cons h;unfold splice;rw[d,List.set_append_right _ _ Z,c,Nat.add_sub_cancel_left,List.set_append_right _ _ (Fv _),Nat.sub_self,FA];simp[H_]
theorem jd(m a ys)(d:Nat)(lk:Bool)(xs:List Int)(c:xs.length=1024)(f:ay m a ys d ((a+d)/1024)=some (lk,xs)):
  ∀l,(a+d)%1024+l<=1024->d+l<=ys.length->ay m a ys (d+l)=dT (ay m a ys d) ((a+d)/1024) (some (lk,splice xs ((a+d)%1024) ((ys.drop d).take l)))
 |0,_,_=>by
  have e:splice xs ((a+d)%1024) ((ys.drop d).take 0)=xs:=by simp[splice]
  rw[e,GK,vF _ _ _ f]
 | l+1,k,n=>by
  have g:=jd m a ys d lk xs c f l Z Z
  have e0:ay m a ys (d+(l+1))=dZ (ay m a ys (d+l)) (a+(d+l)) (ys[d+l]?.getD 0):=rfl
  have e1:(a+(d+l))/1024=(a+d)/1024:=Z
  have i:(a+(d+l))%1024=(a+d)%1024+l:=Z
  rw[e0,g]
  unfold dZ
  rw[e1,i,bV,tp]
  simp only[Hi]
  have b:((ys.drop d).take l).length=l:=bG
  have j:(ys.drop d).take (l+1)=(ys.drop d).take l++[ys[d+l]?.getD 0]:=by
   rw[F_,IR,Fy Z];rfl
  rw[j,<-qt _ _ _ _ (by rw[b,c];omega),b]
theorem N_(l)(xs b:List Int)(a:Nat)(e:xs.length=1024)(h:a+b.length<=1024):(splice (eh l xs).toList a (Ns .u8 b)).toArray=eh l (splice xs a b):=by
 unfold eh splice;have c:a<=(Ns .u8 xs).length:=by simp[Ns];omega
 have d:a+b.length<=(Ns .u8 xs).length:=by simp[Ns];omega
 dsimp only;rw[Iz c,NM,List.drop_append_of_le_length d];simp[Ns]
attribute [local go_sem] Oper.semAt_some
def pt(m:Nat->Option (Bool×List Int))(p:Nat)(bs:List Int):Nat->Option (Bool×List Int):=dT m (p/1024) ((m (p/1024)).map λq=>(q.1,splice q.2 (p%1024) bs))
def stF(m:Nat->Option (Bool×List Int))(a n:Nat)(ys:List Int)(e:List {d:Nat // d<n}):Nat×(Nat->Option (Bool×List Int)):=
 e.foldl (λs x=>(s.1+min (ct a n x.1) (n-s.1),pt s.2 (a+x.1) ((ys.drop s.1).take (min (ct a n x.1) (n-s.1))))) (0,m)
theorem pZ(m a)(n:Nat)(ys)(b:List {d:Nat // d<n})(x: {d:Nat // d<n}):
  stF m a n ys (b++[x])=((stF m a n ys b).1+min (ct a n x.1) (n-(stF m a n ys b).1),pt (stF m a n ys b).2 (a+x.1) ((ys.drop (stF m a n ys b).1).take (min (ct a n x.1) (n-(stF m a n ys b).1)))):=by
 simp[stF]
theorem tZ(a n:Nat)(c:List Int):∀(b:List {d:Nat // d<n})(s:Nat×(Nat->Option (Bool×List Int))),s.1<=n->(b.foldl (λs x=>(s.1+min (ct a n x.1) (n-s.1),pt s.2 (a+x.1) ((c.drop s.1).take (min (ct a n x.1) (n-s.1))))) s).1<=n
 |[],s,h=>h
 |x::b,s,h=>by
  rw[List.foldl_cons]
  exact tZ a n c b _ iM
theorem Cc(m a)(n:Nat)(ys)(b:List {d:Nat // d<n}):(stF m a n ys b).1<=n:=tZ a n ys b _ (FH _)
theorem ox(a n d:Nat):(a+d)%1024+ct a n d<=1024:=by unfold ct;omega
def Full(m:Nat->Option (Bool×List Int)):Prop:=∀k q,m k=some q->q.2.length=1024
theorem lJ(xs b:List Int)(a:Nat)(h:a+b.length<=xs.length):(splice xs a b).length=xs.length:=length_splice _ _ _ h
theorem Full.lay(h:Full m)(p:Nat)(bs:List Int)(c:p%1024+bs.length<=1024):Full (pt m p bs):=by
 intro k q e;unfold pt at e;by_cases b:k=p/1024
 ·subst b;rw[bV]at e;cases a:m (p/1024)with
  |none=>rw[a]at e;cases e
  |some r=>
   rw[a]at e;simp only[Hi,Hk]at e;subst e;dsimp only;rw[lJ _ _ _ (by rw[h _ _ a];exact c)];exact h _ _ a
 rw[aW _ _ _ _ b]at e;exact h k q e
theorem Full.store{m}(h:Full m)(a ys):∀k,Full (ay m a ys k)
 |0=>h
 | k+1=>by
  intro j q e
  have d:=Full.store h a ys k
  have b:dZ (ay m a ys k) (a+k) (ys[k]?.getD 0) j=some q:=e
  unfold dZ at b
  by_cases f:j=(a+k)/1024
  ·subst f
   rw[bV]at b
   cases c:ay m a ys k ((a+k)/1024)with
   |none=>rw[c]at b;cases b
   |some r=>
    rw[c]at b
    simp only[Hi,Hk]at b
    subst b
    simp
    exact d _ _ c
  rw[aW _ _ _ _ f]at b
  exact d j q b
theorem Got.stF{b:List Int}{c:List {d:Nat // d<n}}{d:Nat}(r:b.length=n)(o:Full m)(p:∀d,d<n->(m ((a+d)/1024)).isSome=true)(h:Got a n c d):stF m a n b c=(d,ay m a b d):=by
 induction h with
 |zero=>rfl
 | @next c d h l g=>
  rw[pZ,g];have s:=pF (a:=a) l;have e1:min (ct a n d) (n-d)=ct a n d:=Z;dsimp only;rw[e1];congr 1;have f:(ay m a b d ((a+d)/1024)).isSome=true:=by
   have:∀k j,(ay m a b k j).isSome=(m j).isSome:=by
    intro k;induction k with
    |zero=>intro j;rfl
    |succ k g=>
     intro j;show(dZ (ay m a b k) (a+k) (b[k]?.getD 0) j).isSome=_;unfold dZ;by_cases e:j=(a+k)/1024;·subst e;rw[bV,Option.isSome_map];exact g _
     rw[aW _ _ _ _ e];exact g j
   rw[this];exact p d l
  have⟨q,i⟩:=Option.isSome_iff_exists.1 f;have⟨lk,xs⟩:=q;have j:=(o.store a b d) _ _ i;rw[jd m a b d lk xs j i (ct a n d) (ox a n d) Z];unfold pt;rw[i];rfl
attribute [local go_sem] Oper.semAt_some
theorem Sd.keep{mm DB p}{k:Option Nat}(h:Sd S M st nn bud f mm w DB p n cap c W)(d:W.grownBy W' k)(o:∀r,k=some r->w.heap.size<=r/\∀i t z,W.heap[r]?≠some (.cells i t z)):Sd S M st nn bud f mm w DB p n cap c W':=by
 have q:∀(b:Nat)(i:Array QN)(t:QO)(z:Nat×Nat),W.heap[b]?=some (Obj.cells i t z)->W'.heap[b]?=some (Obj.cells i t z):=by
  intro b i t z m;rw[d.block b (G_ m) (λe=>(o b e.symm).2 i t z m)];exact m
 have u:W'.heap[M]?=W.heap[M]?:=d.block M (FG h.mlt h.fr.size) (λe=>by have:=(o M e.symm).1;have:=h.mlt;omega);refine⟨⟨q _ _ _ _ h.im.box,?_⟩,⟨?_,h.pg.inj⟩,?_,?_,h.mlt,h.dge⟩;·obtain⟨a,⟨j,g,m,l⟩,r⟩:=h.im.map;exact⟨a,⟨j,g,u.trans m,l⟩,r⟩
 ·intro j;rcases h.pg.at' j with a|⟨b,l,xs,a,g,s,v⟩;·exact .inl a
  exact .inr ⟨b,l,xs,a,g,s,q _ _ _ _ v⟩
 ·exact⟨d.os.trans h.fr.os,d.tape.trans h.fr.tape,d.output.trans h.fr.output,Fx h.fr.size d.size,λj l a g s=>by
   rw[d.block j (FG l h.fr.size) (λe=>by have:=(o j e.symm).1;omega)];exact h.fr.block j l a g s,h.fr.made⟩
 have⟨l,a,g⟩:=h.box;exact⟨l,q _ _ _ _ a,g⟩
theorem Sd.piece{mm DB p ys b}{x:Nat}{g:Nat}(h:Sd S M st nn bud f mm w DB p n cap c W)(hc:c<=n)(a7:n<=cap)(T:Da S M f w p n ys)(O:f ((a+x)/1024)=some g)(hx:x<n)(V:Cl S b a n W):
  ∃y,W.heap[DB]?=some (.cells #[.slice y (n-c) (cap-c)] 22)/\∃s r,(Builtin.copy_ #[22,22] 3 #[.slice (some ⟨g,(a+x)%1024,none⟩) (ct a n x) (1024-(a+x)%1024),.slice y (n-c) (cap-c)]).run prog W.drew=.ok (I (min (ct a n x) (n-c):Nat)) s /\
   (∀w:QM,(Instr.slice 22 (.slice y (n-c) (cap-c)) (some (I (min (ct a n x) (n-c):Nat))) none none).run prog w=.ok (.slice r (n-(c+min (ct a n x) (n-c))) (cap-(c+min (ct a n x) (n-c)))) w) /\
   s.cell? (Qz DB 0)=some (.slice y (n-c) (cap-c))/\s.frozen? (Qz DB 0)=false /\
   Sd S M st nn bud f (pt mm (a+x) ((ys.drop c).take (min (ct a n x) (n-c)))) w DB p n cap (c+min (ct a n x) (n-c)) (s.setCell (Qz DB 0) (.slice r (n-(c+min (ct a n x) (n-c))) (cap-(c+min (ct a n x) (n-c))))) /\
   Kp S M b W (s.setCell (Qz DB 0) (.slice r (n-(c+min (ct a n x) (n-c))) (cap-(c+min (ct a n x) (n-c)))))/\KeepsOthers W (s.setCell (Qz DB 0) (.slice r (n-(c+min (ct a n x) (n-c))) (cap-(c+min (ct a n x) (n-c))))):=by
 have⟨y,i,G⟩:=h.box;have⟨k,hk⟩:=Qb (min (ct a n x) (n-c));rw[<-hk];have a8:=ox a n x;have a9:=me (a:=a) hx;have⟨l,xs,hm,A,P⟩:=h.pg.cell O;have m:((ys.drop c).take k).length=k:=by rw[Hm,List.length_drop,T.1];omega
 have⟨s,hr,K,u⟩:=sM W.drew (some ⟨g,(a+x)%1024,none⟩) y (ct a n x) (1024-(a+x)%1024) (n-c) (cap-c) g ((a+x)%1024) (eh l xs).toList 288 (by rw[show W.drew.heap=W.heap from rfl];simpa using P) (Ns .u8 ((ys.drop c).take k)) (by rw[NM,m,hk];exact Nat.min_comm _ _) (λo=>by
  rw[NM,m]at o;have⟨Q,e1,X⟩:=G Z;refine⟨rfl,_,X,λj v hv=>?_⟩;have d:j<k:=by
   by_cases d:j<k;·exact d
   rw[FJ (by rw[NM,m];omega)]at hv;cases hv
  have⟨q,B,Y⟩:=T.cell h.fr (c+j) Z;rw[e1]at B;cases B;rw[Addr.add_add];have:W.drew.cell? (Q.add (c+j))=W.cell? (Q.add (c+j)):=rfl;rw[this,Y,<-hv];simp[Ns,d];have:c+j<ys.length:=by rw[T.1];omega
  simp[this]) (by rw[NM,m];simp[eh,Ns,A];omega) (λv hv=>by
   simp only[Ns,FQ]at hv;obtain⟨z,_,rfl⟩:=hv;rfl)
 rw[NM,m]at hr;rw[N_ _ _ _ _ A (by rw[m];omega)]at K;have⟨r,a0,L⟩:=xD y k (n-c) (cap-c) Z Z;have⟨a1,a2⟩:=h.pg.apart h.im O;have a3:g≠DB:=λe=>by subst e;rw[P]at i;simp at i
 have d:W.grownBy s (some g):=⟨u.os,u.tape,u.output,u.size,u.block⟩;have o:s.heap[DB]?=some (.cells #[.slice y (n-c) (cap-c)] 22):=by rw[d.block DB (G_ i) (by simpa using a3.symm)];exact i
 have F:s.grownBy (s.setCell (Qz DB 0) (.slice r (n-(c+k)) (cap-(c+k)))) (some DB):=au (al s DB) 0 _;have a4:DB≠S:=λe=>by rw[e,h.im.box]at i;simp at i
 have N:DB≠M:=by have:=h.mlt;have:=h.dge;omega
 have e1:n-c-k=n-(c+k):=Z;have X:cap-c-k=cap-(c+k):=Z;refine⟨y,i,s,r,hr,λW=>by rw[a0 W,e1,X],by simp[QC,o],by simp[QD,o],⟨?_,?_,?_,?_,h.mlt,h.dge⟩,⟨?_,?_⟩,?_⟩;·exact(h.im.grownAt d a1 a2).grownAt F a4 N
 ·have q:=h.pg.lay O (l:=l) (xs:=splice xs ((a+x)%1024) ((ys.drop c).take k)) (by rw[lJ _ _ _ (by rw[m,A];omega),A]) K d;have B:pt mm (a+x) ((ys.drop c).take k)=dT mm ((a+x)/1024) (some (l,splice xs ((a+x)%1024) ((ys.drop c).take k))):=by
   unfold pt;rw[hm];rfl
  rw[B];refine⟨?_,q.inj⟩;intro j;rcases q.at' j with t|⟨b2,l2,v,t,h2,h3,R⟩;·exact .inl t
  refine .inr ⟨b2,l2,v,t,h2,h3,?_⟩;rw[F.block b2 (G_ R) (λe=>by cases e;rw[R]at o;simp at o)];exact R
 ·exact(h.fr.grownAt d (.inl ⟨_,O⟩)).grownAt F (.inr h.dge)
 ·refine⟨r,by rw[bj o];rfl,λv=>?_⟩;have⟨Q,B,Y⟩:=G Z;refine⟨Q,B,?_⟩;rw[L Z,Y];simp[Addr.add_add]
 ·exact Fx d.size F.size
 ·have q:∀(b:Nat)(cs:Array QN)(t:QO)(z:Nat×Nat),W.heap[b]?=some (Obj.cells cs t z)->t≠288->t≠22->(s.setCell (Qz DB 0) (.slice r (n-(c+k)) (cap-(c+k)))).heap[b]?=W.heap[b]?:=by
   intro R cs t z b a5 a6;have n1:R≠g:=λe=>by subst e;rw[P]at b;cases b;exact a5 rfl
   have n2:R≠DB:=λe=>by subst e;rw[i]at b;cases b;exact a6 rfl
   rw[F.block R (FG (G_ b) d.size) (by simpa using n2),d.block R (G_ b) (by simpa using n1)]
  rintro g'(rfl|rfl|rfl|rfl|rfl);·exact q _ _ _ _ h.im.box ar ar
  ·have v:=FG h.mlt h.fr.size;rw[F.block _ (FG v d.size) (by simpa using N.symm),d.block _ v (by simpa using a2.symm)]
  ·exact q _ _ _ _ V.s ar ar
  ·exact q _ _ _ _ V.a ar ar
  exact q _ _ _ _ V.n ar ar
 exact(KeepsOthers.of_grownBy d (λj o e b=>by cases e;rw[P]at b;cases b;rfl)).trans (KeepsOthers.setCell _ _ _)
attribute [local go_sem] Oper.semAt_some
theorem Sd.init(g:Im S M st nn bud f w)(i:Pg f m w)(p:QP)(n cap:Nat)(c:0<n->∃x,p=some x):Sd S M st nn bud f m w w.heap.size p n cap 0 (w.alloc (.cells #[.slice p n cap] 22)):=by
 have d:=GZ w (.cells #[.slice p n cap] 22) none;refine⟨g.grown d,i.grown d,Fr.ofGrown d,⟨p,(Hq w _).1,λh=>?_⟩,?_,Fv _⟩;·have⟨x,e⟩:=c h;exact⟨x,e,by rw[e];simp[Addr.add]⟩
 have⟨a,b,_⟩:=g.map;exact b.lt
theorem yu(S M st nn bud f m)(a n cap:Nat)(p y w)(s:Im S M st nn bud f w)(o:Pg f m w)(hn:n<=4096)(V:n<=cap)(ha:n=0\/a+n<=4611686018427387904)(r:Da S M f w p n y)(i:∀d,d<n->∃g,f ((a+d)/1024)=some g)(h:∀w,Im S M st nn bud f w->Pg f m w->QA 285 #[J S 0,U a,I n] w λe X=>e=QJ (I 0)/\X=w):
  CallsIn Fence.wide 5 prog 247 #[J S 0,U a,.slice p n cap] w λe X=>e=QJ (I 0)/\Im S M st nn bud f X/\Pg f (ay m a y n) X/\Fr S M f f w X:=by
 have⟨H1,HI,HP,HD⟩:=Qf h (IT s o) i r;have FU:Hid (Full m):=(λk q e=>by
  rcases o.at' k with⟨_,Q⟩|⟨b,l,xs,_,Q,h3,_⟩;·rw[Q]at e;cases e
  rw[Q]at e;cases e;exact h3)
 have SO:Hid (∀d,d<n->(m ((a+d)/1024)).isSome=true):=(λd r=>by
  have⟨g,G⟩:=i d r;rw[<-o.none_iff,G];rfl)
 have q:0<n->∃x,p=some x:=λh0=>by obtain⟨x,e,_⟩:=r.2 0 h0;exact⟨x,e⟩
 have j:=H (Sd.init s o p n cap q);clear h s o i r q;refine callsIn_of_wp_marks func247 rfl trivial ?_ rfl;simp only[ntmps247,FX,FN,F1,Nat.reduceAdd,Nat.reduceSub,FP,FO,FY,Iv,FV,F5]
 gi_wp2_with fail
 refine⟨trivial,?_⟩;refine((callsIn_wide (n:=4)).2 (H1 _ (HI.1.alloc _) (HI.2.alloc _))).mono ?_;rintro _ _⟨rfl,rfl⟩
 gi_wp2_with fail
 refine⟨trivial,?_⟩;have⟨u,i⟩:=Qa (w.alloc (.cells #[.slice p n cap] 22));have⟨R,L⟩:=Qa w.heap.size;have q:u.heap.size=R+1:=by rw[<-i,<-L];simp
 have HZ:=H q;clear q;rw[i,L]at j;rw[i,L];clear i;refine((callsIn_wide (n:=4)).2 (oj _ _ _ _)).mono ?_;rintro e w4⟨rfl,rfl⟩;gi_wp2;have Y:=H (Cl.made S a n u);have o:=ej (GZ u (.cells #[J S 0] 141) none) (ej (GZ _ (.cells #[U a] 27) none) (GZ _ (.cells #[I n] 3) none));have S4:=H (j.keep o (λr e=>by cases e));have h4:u.heap.size+1+1+1=(((u.alloc (.cells #[J S 0] 141)).alloc (.cells #[U a] 27)).alloc (.cells #[I n] 3)).heap.size:=bH;have hS:=FG (G_ HI.1.box) j.fr.size;have hM:=FG j.mlt j.fr.size;have⟨T,i⟩:=Qa (((u.alloc (.cells #[J S 0] 141)).alloc (.cells #[U a] 27)).alloc (.cells #[I n] 3));rw[i]at Y S4 h4;rw[i];clear o i;have q:=HZ.out;refine wpIn_rangeFunc_ownF rfl Z (gf:=307) (lb:=#[J (u.heap.size+1+1) 0,J (u.heap.size+1) 0,J u.heap.size 0]) rfl trivial (enters_of func307 E rfl)
  (encs:=λx: {d:Nat // d<n}=>vt f a n x.1) (Kp:=Kp S M u.heap.size) (S:=λy=>Got a n y n) (Sp:=λj=>∃d,Got a n j d) (N:=n) (w0:=T)
  (λl d o W i s t t h0=>nW S M st nn bud f a n l u.heap.size 4 Z hn ha HP d o W s t (Y.kp (Kp.below (M:=M) (N:=T.heap.size) i Z Z Z)) (S4.im.kp (Kp.below (N:=T.heap.size) (b:=u.heap.size) i Z Z Z)) h0)
  Kp.trans (λW l o d F h _ _=>wO (S:=S) (M:=M) (b:=u.heap.size) (N:=T.heap.size) Z Z Z W l o d F h) (Fu _ _) (λ_=>rfl)
  (λj W=>Sd S M st nn bud f (stF m a n y j).2 w R p n cap (stF m a n y j).1 W/\Cl S u.heap.size a n W)
  (λc j W=>False)
  ?own (λc s A B a0 d G hr=>d) ⟨S4,Y⟩
  (λx=>{tmps:=#[J S 0,U a,.slice p n cap,undef,undef,J R 0,I 0,I 0,.slice (some ⟨(f ((a+x.1)/1024)).getD 0,(a+x.1)%1024,none⟩) (ct a n x.1) (1024-(a+x.1)%1024),J S 0,U a,.slice p n cap,I n,I 0,I 0,.bool false,undef,J S 0,U a,.slice p n cap,I n,.func (.func 307) #[] #[J (u.heap.size+1+1) 0,J (u.heap.size+1) 0,J u.heap.size 0],.slice (some ⟨(f ((a+x.1)/1024)).getD 0,(a+x.1)%1024,none⟩) (ct a n x.1) (1024-(a+x.1)%1024),undef,undef,undef,undef,undef],defers:=[]}) ?assign ?body ?done ?stop
 case own=>
  rintro s A B a0⟨F,v⟩G hr;have P:∀r,a0=some r->w.heap.size<=r/\∀O t z,A.heap[r]?≠some (.cells O t z):=by
   intro r e;have⟨i,o,Q,h3⟩:=hr r e;refine⟨Z,λO t z h5=>?_⟩;rw[h5]at Q;cases Q;cases h3
  have K:∀(b:Nat)(O:Array QN)(t:QO)(z:Nat×Nat),A.heap[b]?=some (Obj.cells O t z)->B.heap[b]?=A.heap[b]?:=λb O t z i=>G.block b (G_ i) (λe=>(P b e.symm).2 O t z i)
  exact⟨F.keep G P,(K _ _ _ _ v.s).trans v.s,(K _ _ _ _ v.a).trans v.a,(K _ _ _ _ v.n).trans v.n⟩
 case assign=>
  intro l x W K hK;clear q;unfold vt;gi_wp2;exact hK
 case stop=>
  intro i c j W _ _ h;exact h.elim
 case body=>
  rintro l j x W⟨F,v⟩a3;have⟨g,G⟩:=HP.out x.1 x.2;have⟨pd,K,W1,a4,a5,a6,a7,a8,a1,P,a2⟩:=F.piece (Cc m a n y j) V HD G x.2 v;have HR:=H (IT a1 (IT P (IT a2 (v.kp P))));have c0:W.cell? (Qz R 0)=some (.slice pd (n-(stF m a n y j).1) (cap-(stF m a n y j).1)):=by simp[QC,K]
  rw[G];simp only[Ht];have ES:=H (pZ m a n y j x);clear F v K a1 P a2 q h4;gi_wp2
  gi_region
  all_goals
   gi_wp2
   refine⟨HR.2.2.1,HR.2.1,?_,HR.2.2.2⟩
   rw[ES]
   exact HR.1
 case done=>
  rintro i xs W hD K⟨F,v⟩hK;rw[Got.stF HD.1 FU SO K]at F;have g3:=grownBy_putObj' W i (.deferred none);have P:=F.keep g3 (λr e=>by cases e;exact⟨Z,λO t z h5=>by rw[hK]at h5;cases h5⟩);have HF:=H P;clear F v P g3 q h4;gi_wp2;refine⟨bH,.inl ⟨_,_,rfl,run_takeDeferred hK,?_⟩⟩;refine⟨I 0,?_,rfl,HF.im,HF.pg,HF.fr⟩;simp[results,Tryz.f247,go_sem]
theorem kJ(c s t)(h:Slot c s t)(w:QM):
  QA 71 #[I c,I s,I t] w λe g=>e=QJ (.tuple #[U ((rs c+s*(pg c+1))*1024+t*sz c),.bool true])/\D w g:=by
 have a:0<=c/\c<12:=⟨h.c0,h.c1⟩;have i:=h.s0;have j:=h.s1;have k:=h.t0;have n:=h.t1;have d:=hidR (dx c);have o:=hidR (gM c);have q:=hidR (jO c s Z Z);have B:=eJ a;have u:(sz c==0)=false:=bG;have F:=fy a;have b:=kh a;have v:4<=sl c/\sl c<=64:=⟨b.1,b.2.1⟩;have G:1<=rs c/\rs c<=361:=by have:=we c;rw[kB a]at this⊢;have:=iU c.toNat;omega
 have K:0<=s*(pg c+1)/\s*(pg c+1)<=25:=by
  have:pg c=1\/pg c=2\/pg c=3\/pg c=4:=Z;rcases this with e|e|e|e<;>rw[e]<;>omega
 have f:=Od a h.t0 h.t1;have x:0<=t*sz c/\t*sz c<=4096:=⟨f.1,by have:=(kh a).2.2.2;omega⟩;generalize rs c=r at*;generalize L:pg c=p at*;generalize sz c=z at*;generalize sl c=l at*;generalize s*(p+1)=m at*;go_enter func71,ntmps71;go_wp2_with fail;refine(d _).mono ?_;rintro e M⟨rfl,b⟩;go_wp2_with fail;refine(o _).mono ?_;rintro e N⟨rfl,f⟩;go_wp2_with fail;refine(q _).mono ?_;rintro e O⟨rfl,y⟩;go_wp2_with fail;refine(d _).mono ?_;rintro e P⟨rfl,A⟩;go_wp2
 go_ret2
 exact⟨rfl,cv b (cv f (cv y A))⟩
theorem iZ{P:Nat->Bool}: ∀{n k:Nat},k<n->(∀j,j<k->P j=false)->P k=true->(List.range n).find? P=some k:=by
 intro n k a b c;rw[Iu];exact⟨c,by simpa using a,λj d=>by simp[b j d]⟩
theorem jM{P:Nat->Bool}(a:∀j,j<n->P j=false):(List.range n).find? P=none:=by
 rw[List.find?_range_eq_none];intro j b;simp[a j b]
def rC(r:Rg9):List Value:=[U r.base,I r.first,I r.ext,I r.pages,I r.st,I r.rq]
theorem aK{b:Nat}{d:Nat}{v:QN}(h:W.ownsRow b e d v n xs):∃a c,v=.slice a n c:=by
 rcases h.2 with⟨rfl,f⟩|⟨g,cap,i,rfl,_⟩;·subst f;exact⟨_,_,rfl⟩
 exact⟨_,_,rfl⟩
theorem cr{sz:Nat}{a:QP}(h:W.ownsRow B e sz (.slice a n cap) n xs)(d:0<n):∃G,a=some (Qz G 0):=by
 rcases h.2 with⟨_,f⟩|⟨g,b,c,e,_⟩;·omega
 simp at e;exact⟨g,e.1⟩
theorem Sh.range{B x cf h W}(d:Sh B x cf h W){G cap}(hv:x.rv=Vl G h.rg.length cap){k:Nat}{r:Rg9}(e:h.rg[k]?=some r):QG W G (k*6) (U r.base)/\QG W G (k*6+1) (I r.first)/\QG W G (k*6+2) (I r.ext)/\QG W G (k*6+3) (I r.pages)/\QG W G (k*6+4) (I r.st)/\W.cell? (Qz G (k*6+5))=some (I r.rq):=by
 have a:=eC rC 6 (λ_=>rfl) h.rg k r e;have c:=d.rg;rw[hv]at c;have g:=λi v(f:i<6)b=>bC c (k*6+i) v ((a i f).trans b)
 exact⟨g 0 _ Z rfl,g 1 _ Z rfl,g 2 _ Z rfl,g 3 _ Z rfl,g 4 _ Z rfl,g 5 _ Z rfl⟩
def fS(p:Nat):Option Nat:=(List.range 1062).find? λk=>gt k==p
def uo(h:Hs)(i:Nat):Rg9:=(h.rg[i]?).getD ⟨0,0,0,0,0⟩
def fR(h:Hs)(p:Nat):Option Nat:=(List.range h.rg.length).find? λi=>(uo h i).base==p
def fE(h:Hs)(p:Nat):Int×Int×Int:=
 match fS p with
 |some k=>if dC h k=1 then((k:Int),-1,0)else if dC h k=0 then(-1,-1,3)else(-1,-1,4)
 |none=>match fR h p with
  |some i=>if(uo h i).st=1 then(-1,(i:Int),0)else(-1,-1,4)
  |none=>if h.rel.contains p then(-1,-1,4)else(-1,-1,3)
theorem cZ{P:Program}{b:Func}{p q r:Tmp}(h:b.results=#[.tmp p,.tmp q,.tmp r])(a:Array QN)(w:QM):(results b a).run P w=.ok (.tuple #[a.getD p undef,a.getD q undef,a.getD r undef]) w:=by
 simp[results,h]
def C4(t:Int×Int×Int):Value:=.tuple #[I t.1,I t.2.1,I t.2.2]
theorem kZ(B x cf h)(p:Nat)(W)(a:Sh B x cf h W)(hn:h.rg.length<=1000)(hl:h.rel.length<=100000):
  QA 75 #[J x.P 0,U p] W λe W'=>e=QJ (C4 (fE h p))/\D W W':=by
 have c7:W.cell? (Qz x.P 7)=some (Vl x.G 1062 x.gc):=a.cell 7 _ rfl;have g:=H a;clear a;go_enter func75,ntmps75;go_wp2;go_loopw [18] (λi wr=>∃k:Nat,k<=1062/\i=I k/\Hid (∀j,j<k->(gt j==p)=false)/\Hid (D W wr)) (λi _=>1062-(intOf i).toNat);case atStart=>exact⟨0,FH _,rfl,H (λj y=>Z),H (Fu _ _)⟩
 case round=>
  obtain⟨k,hk,rfl,N,u⟩:=hrel;by_cases A:k<1062
  ·have⟨T,d1,d2,O,d4,d5⟩:=(g.below u).slot A;have d:=H (u.alloc u.size (.cells #[I ((sA k).1:Nat),I ((sA k).2.1:Nat),I ((sA k).2.2:Nat),U (gt k:Nat),I (dC h k),I (fJ h k)] 109));by_cases ha:gt k=p
   ·have q:=H (show fE h p=if dC h k=1 then((k:Int),-1,0)else if dC h k=0 then(-1,-1,3)else(-1,-1,4) by
     unfold fE fS;rw[iZ A N (by simp[ha])])
    generalize dC h k=z at*;generalize fJ h k=V at*;generalize (sA k).2.2=l at*;generalize (sA k).1=e1 at*;generalize (sA k).2.1=m at*;rw[ha]at O d;by_cases f:z=1;·have a:=H (q.trans (GP f));subst f;go_wp2;refine GX (cZ dU _ _) dU ?_;rw[a];exact⟨rfl,d⟩
    have P:(z==1)=false:=(by simpa using f);by_cases b:z=0;·have a:=H (q.trans ((GO f).trans (GP b)));subst b;go_wp2;refine GX (cZ dU _ _) dU ?_;rw[a];exact⟨rfl,d⟩
    have c:(z==0)=false:=(by simpa using b);have a:=H (q.trans ((GO f).trans (GO b)));go_wp2;refine GX (cZ dU _ _) dU ?_;rw[a];exact⟨rfl,d⟩
   have Q:Hid (∀j,j<k+1->(gt j==p)=false):=(λj y=>by
    by_cases e:j=k;·subst e;simpa using ha
    exact N j Z)
   have s:(((gt k:Nat):Int) != (p:Int))=true:=bG;generalize gt k=b at O s d;go_wp2;go_roundw;(case rel=>exact⟨k+1,Z,aY,Q,d⟩);case measure=>exact QE
  obtain rfl:k=1062:=Z;have q:Hid (fS p=none):=jM N;have⟨ra,rc,b⟩:=aK g.rg;have L:W.cell? (Qz x.P 9)=some (.slice ra h.rg.length rc):=by rw[<-b];exact g.cell 9 _ rfl
  replace L:=NI u L;have⟨v,c⟩:=Qa h.rg.length;rw[c]at L hn;have l:=H c;have F:=H b;clear c b c7;go_wp2;go_loopw [40] (λi R=>∃k:Nat,k<=v/\i=I k/\Hid (∀j,j<k->((uo h j).base==p)=false)/\Hid (D W R)) (λi _=>v-(intOf i).toNat);case atStart=>exact⟨0,FH _,rfl,H (λj y=>Z),u⟩
  case round=>
   obtain⟨k,a0,rfl,S,c⟩:=hrel;clear u L;by_cases o:k<v
   ·obtain⟨r,n⟩:∃r,h.rg[k]?=some r:=⟨_,Fy (by rw[l];exact o)⟩;have b:uo h k=r:=(by unfold uo;rw[n];rfl);obtain⟨G,rfl⟩:=cr (F.out▸g.rg) (by rw[l];omega);have⟨T,d1,d2,O,d4,d5⟩:=(g.below c).range F n;have d:=H (c.alloc c.size (.cells #[U r.base,I r.first,I r.ext,I r.pages,I r.st,I r.rq] 115));by_cases ha:r.base=p
    ·have m:=H (show fE h p=if r.st=1 then(-1,(k:Int),0)else(-1,-1,4) by
      unfold fE;rw[q];dsimp only;unfold fR;rw[iZ (by rw[l];exact o) S (by rw[b];simp[ha])];dsimp only;rw[b])
     generalize r.st=z at*;generalize r.rq=V at*;generalize r.ext=t at*;generalize r.base=w at*;subst ha;by_cases f:z=1;·have a:=H (m.trans (GP f));subst f;go_wp2;refine GX (cZ dU _ _) dU ?_;rw[a];exact⟨rfl,d⟩
     have a:=H (m.trans (GO f));have P:(z==1)=false:=(by simpa using f);go_wp2;refine GX (cZ dU _ _) dU ?_;rw[a];exact⟨rfl,d⟩
    have Q:Hid (∀j,j<k+1->((uo h j).base==p)=false):=(λj y=>by
     by_cases e:j=k;·subst e;rw[b];simpa using ha
     exact S j Z)
    have s:(((r.base:Nat):Int)==(p:Int))=false:=bG;generalize r.st=z at*;generalize r.rq=V at*;generalize r.ext=t at*;generalize r.base=w at*;go_wp2;go_roundw;(case rel=>exact⟨k+1,Z,aY,Q,d⟩);case measure=>exact QE
   obtain rfl:k=v:=Z;have G:=H (show fR h p=none by unfold fR;rw[l];exact jM S);have⟨la,lc,b⟩:=aK g.rl;have m:W.cell? (Qz x.P 11)=some (.slice la h.rel.length lc):=(by rw[<-b];exact g.cell 11 _ rfl);replace m:=NI c m;have X:=H b;clear b;have⟨w,b⟩:=Qa h.rel.length;rw[b]at m hl;have r:=H b;clear b;go_wp2;go_loopw [65] (λi R=>∃k:Nat,k<=w/\i=I k/\Hid (∀j,j<k->h.rel[j]?≠some p)/\Hid (D W R)) (λi _=>w-(intOf i).toNat);(case atStart=>exact⟨0,FH _,rfl,H (λj y=>Z),c⟩);case round=>
    obtain⟨k,a1,rfl,Y,n⟩:=hrel;clear c m;by_cases K:k<w
    ·obtain⟨b,M⟩:∃b,h.rel[k]?=some b:=⟨_,Fy (by rw[r];exact K)⟩;obtain⟨G2,rfl⟩:=cr (X.out▸g.rl) (by rw[r];omega);have T:=NI n (bC (X.out▸g.rl) k (U b) (by simp[Us,M]));by_cases ha:b=p
     ·have t:=H (show fE h p=(-1,-1,4) by
       unfold fE;rw[q];dsimp only;rw[G];dsimp only;rw[GP (by rw[List.contains_eq_mem,Hj];exact ha▸FM M)])
      subst ha;go_wp2;refine GX (cZ dU _ _) dU ?_;rw[t];exact⟨rfl,n⟩
     have s:(((b:Nat):Int)==(p:Int))=false:=bG;have F3:Hid (∀j,j<k+1->h.rel[j]?≠some p):=(λj y=>by
      by_cases e:j=k;·subst e;rw[M];simpa using ha
      exact Y j Z)
     clear M;go_wp2;go_roundw;(case rel=>exact⟨k+1,Z,aY,F3,n⟩);case measure=>exact QE
    obtain rfl:k=w:=Z;have t:=H (show fE h p=(-1,-1,3) by
     unfold fE;rw[q];dsimp only;rw[G];dsimp only;rw[GO (by
      rw[List.contains_eq_mem,Hj];intro M;have⟨i,b⟩:=He M;exact Y i (by rw[<-r.out];exact(Fz.1 b).1) b)])
    go_wp2;refine GX (cZ dU _ _) dU ?_;rw[t];exact⟨rfl,n⟩
def DD:List (Nat×Nat×Nat)->Bool
 |a::b::r=>decide (bh a.1 a.2.1 a.2.2<bh b.1 b.2.1 b.2.2)&&DD (b::r)
 |_=>true
theorem zA:DD dF=true:=by decide +kernel
theorem qZ:∀(l:List (Nat×Nat×Nat))(k:Nat)(a b:Nat×Nat×Nat),DD l=true->l[k]?=some a->l[k+1]?=some b->bh a.1 a.2.1 a.2.2<bh b.1 b.2.1 b.2.2
 |[],k,a,b,_,h,_=>by simp at h
 |[y],k,a,b,_,_,h=>by simp at h
 |y::z::r,0,a,b,c,d,e=>by
  simp[DD]at c d e
  subst d e
  exact c.1
 |y::z::r,k+1,a,b,c,d,e=>by
  simp only[DD,Gi]at c
  exact qZ (z::r) k a b c.2 (by simpa using d) (by simpa using e)
theorem wu(h:k+1<1062):gt k<gt (k+1):=qZ dF k (sA k) (sA (k+1)) zA (Oz Z) (Oz h)
theorem mS{i:Nat}: ∀{k:Nat},i<k->k<1062->gt i<gt k
 |0,h,_=>by omega
 |k+1,h,a=>by
  have b:=wu a
  by_cases e:i=k
  ·subst e;exact b
  have:=mS (i:=i) (k:=k) Z Z
  omega
theorem v_{i:Nat}(b:i<1062)(c:k<1062)(h:sA i=sA k):i=k:=by
 have e:gt i=gt k:=by unfold gt;rw[h]
 rcases Ie i k with a|a|a;·have:=mS a c;omega
 ·exact a
 have:=mS a b;omega
theorem Oa{s j:Nat}(d:c<12)(e:s<6)(f:j<aM c):∃k,k<1062/\sA k=(c,s,j):=by
 have g:(c,s,j)∈dF:=by
  unfold dF;simp only[List.mem_flatMap,Gh,FQ];exact⟨c,d,s,e,j,f,rfl⟩
 have⟨k,a⟩:=He g;have b:=(Fz.1 a).1;rw[fG]at b;refine⟨k,b,?_⟩;unfold sA;rw[a];rfl
theorem mj(b:k<1062):(sA k).1<12/\(sA k).2.1<6/\(sA k).2.2<aM (sA k).1:=by
 have a:sA k∈dF:=FM (Oz b);unfold dF at a;simp only[List.mem_flatMap,Gh,FQ]at a;have⟨c,d,s,f,j,g,e⟩:=a;rw[<-e];exact⟨d,f,g⟩
theorem rK{i:Nat}{v:Int}(a:k<1062)(b:i<1062):aE h.st (sA k).1 (sA k).2.1 (sA k).2.2 v (sA i).1 (sA i).2.1 (sA i).2.2=if i=k then v else dC h i:=by
 unfold aE dC;by_cases e:i=k;·subst e;simp
 rw[GO e,GO];rintro⟨h1,h2,h3⟩;exact e (v_ b a (by rw[Prod.ext_iff,Prod.ext_iff];exact⟨h1,h2,h3⟩))
def sC(h:Hs)(t:Nat×Nat×Nat):List Value:=[I t.1,I t.2.1,I t.2.2,U (bh t.1 t.2.1 t.2.2:Nat),I (h.st t.1 t.2.1 t.2.2),I (h.rq t.1 t.2.1 t.2.2)]
theorem ey(h):(ji h).length=6372:=by
 have b:∀l:List (Nat×Nat×Nat),(l.flatMap (sC h)).length=l.length*6:=λl=>by
  induction l with
  |nil=>rfl
  |cons a r c=>rw[If,FC,c,FN];show 6+_=_;omega
 have:=b dF;rw[fG]at this;exact this
theorem kg(h){q r:Nat}(a:q<1062)(b:r<6):(ji h)[q*6+r]?=(sC h (sA q))[r]?:=eC (sC h) 6 (λ_=>rfl) dF q (sA q) (Oz a) r b
theorem nL(b:xs.length=6372)(a:∀q r,q<1062->r<6->xs[q*6+r]?=(sC h (sA q))[r]?):ji h=xs:=by
 apply Ho;intro i;by_cases c:i<6372
 ·have e:i=i/6*6+i%6:=Z;rw[e,kg h Z Z,a _ _ Z Z]
 rw[FJ (by rw[ey];omega),FJ Z]
theorem wI(h:Hs)(c:k<1062)(v:Int):ji {h with st:=aE h.st (sA k).1 (sA k).2.1 (sA k).2.2 v}=(ji h).set (k*6+4) (I v):=by
 refine nL (by rw[Gj,ey]) (λq r b d=>?_);rw[Gr,kg h b d,ey];have a:=rK (h:=h) (v:=v) c b;by_cases e:k*6+4=q*6+r
 ·have e1:q=k:=Z;have f:r=4:=Z;subst e1 f;rw[GP rfl,GP Z];rw[GP rfl]at a;simp only[sC];rw[a];rfl
 rw[GO e];by_cases f:r=4;·subst f;rw[GO (show q≠k by omega)]at a;simp only[sC];rw[a];rfl
 have:r=0\/r=1\/r=2\/r=3\/r=5:=Z;rcases this with rfl|rfl|rfl|rfl|rfl<;>rfl
theorem wW(h:Hs)(c:k<1062)(v:Int):ji {h with rq:=aE h.rq (sA k).1 (sA k).2.1 (sA k).2.2 v}=(ji h).set (k*6+5) (I v):=by
 refine nL (by rw[Gj,ey]) (λq r b d=>?_);rw[Gr,kg h b d,ey];have a:=rK (h:={h with st:=h.rq}) (v:=v) c b;dsimp only at a;by_cases e:k*6+5=q*6+r
 ·have e1:q=k:=Z;have f:r=5:=Z;subst e1 f;rw[GP rfl,GP Z];rw[GP rfl]at a;simp only[sC];rw[a];rfl
 rw[GO e];by_cases f:r=5;·subst f;rw[GO (show q≠k by omega)]at a;simp only[sC];rw[a];rfl
 have:r=0\/r=1\/r=2\/r=3\/r=4:=Z;rcases this with rfl|rfl|rfl|rfl|rfl<;>rfl
theorem dP{sz:Nat}{G}(h:W.ownsRow B e sz (Vl G n cap) n xs)(i:Nat)(m:i<xs.length)(v:QN):(W.setCell (Qz G i) v).ownsRow B e sz (Vl G n cap) n (xs.set i v):=by
 refine⟨by rw[Gj];exact h.1,?_⟩;rcases h.2 with⟨e,_⟩|⟨g,b,a,e,c,d,f,j,k,l⟩;·simp at e
 simp at e;obtain⟨rfl,rfl⟩:=e;refine .inr ⟨G,cap,a.setIfInBounds i v,rfl,c,?_,f,j,by simpa using k,?_⟩;·simp[World.setCell,FD,d]
 rw[<-l,Array.toList_setIfInBounds,List.take_set]
theorem di{sz:Nat}{G}(h:W.ownsRow B e sz (Vl G n cap) n xs):∃c,W.heap[G]?=some (.cells c e):=by
 rcases h.2 with⟨e,_⟩|⟨g,b,a,e,f,d,_⟩;·simp at e
 simp at e;obtain⟨rfl,rfl⟩:=e;exact⟨a,d⟩
theorem Sh.slots{h'}(a:Sh B x cf h W)(k:Ky (· =109) W W')(b:W'.ownsRow B 109 6 (Vl x.G 1062 x.gc) 1062 (ji h'))(e1:h'.m=h.m)(e:h'.mx=h.mx)(f:h'.ff=h.ff)(i:h'.rg=h.rg)(j:h'.row=h.row)(e6:h'.rel=h.rel)(l:h'.used=h.used):Sh B x cf h' W':=by
 refine⟨?_,a.bp,a.bq,λg m=>a.bg g (cV (a.sp.qEq k ar) m),a.ds.ky k ar,?_,b,ai a.wt k ar,λc d=>?_,?_,?_,?_⟩;·rw[l];exact k.cells _ _ _ _ a.box ar
 ·rw[e1];exact a.sp.ky k ar ar ar
 ·rw[e,f];exact⟨(a.wm c d).1.ky k ar,(a.wm c d).2.ky k ar⟩
 ·rw[i];exact ai a.rg k ar
 ·rw[j];exact ai a.ro k ar
 rw[e6];exact ai a.rl k ar
theorem Sh.setSt(a:Sh B x cf h W)(b:k<1062)(v:Int):Sh B x cf {h with st:=aE h.st (sA k).1 (sA k).2.1 (sA k).2.2 v} (W.setCell (Qz x.G (k*6+4)) (I v)):=by
 have⟨c,d⟩:=di a.sl;refine a.slots (Ky.grown d rfl (au (al W x.G) _ _)) ?_ rfl rfl rfl rfl rfl rfl rfl;rw[wI h b];exact dP a.sl _ (by rw[ey];omega) _
theorem Sh.setRq(a:Sh B x cf h W)(b:k<1062)(v:Int):Sh B x cf {h with rq:=aE h.rq (sA k).1 (sA k).2.1 (sA k).2.2 v} (W.setCell (Qz x.G (k*6+5)) (I v)):=by
 have⟨c,d⟩:=di a.sl;refine a.slots (Ky.grown d rfl (au (al W x.G) _ _)) ?_ rfl rfl rfl rfl rfl rfl rfl;rw[wW h b];exact dP a.sl _ (by rw[ey];omega) _
theorem Sh.slotF(a:Sh B x cf h W)(i:Nat):W.frozen? (Qz x.G i)=false:=by
 have⟨c,b⟩:=di a.sl;simp[QD,b]
theorem Sf.ky{T Q}(a:Sf Q W W')(d:Sx T Q n bud m W):Ky (λt=>t=179\/t=5) W W':=by
 refine⟨a.os,a.tape,a.output,a.size,λg c t f b e=>?_⟩;rw[a.block g (ag b) ?_ (λi=>?_)];·exact b
 ·rintro rfl;have⟨j,e1,_⟩:=d.row;rw[b]at e1;simp at e1;exact e (.inl e1.2.1)
 have⟨j,e1⟩:=d.pgT i;rw[b]at e1;simp at e1;exact e (.inr e1.2.1)
theorem Sh.space(a:Sh B x cf h W)(j:B<=W.heap.size)(m')(f:Sx x.T x.Q 283 (cf.bud:Nat) m' W')(b:Sf x.Q W W'):Sh B x cf {h with m:=m'} W':=by
 have k:=b.ky a.sp;refine⟨k.cells _ _ _ _ a.box ar,a.bp,a.bq,λg i=>?_,a.ds.ky k ar,f,ai a.sl k ar,ai a.wt k ar,λc d=>⟨(a.wm c d).1.ky k ar,(a.wm c d).2.ky k ar⟩,ai a.rg k ar,ai a.ro k ar,ai a.rl k ar⟩;rcases b.pg g i with e|e;·exact a.bg g e
 omega
end
end Go.Proofs.YtdhegekcmmlohaaGreatDoor
