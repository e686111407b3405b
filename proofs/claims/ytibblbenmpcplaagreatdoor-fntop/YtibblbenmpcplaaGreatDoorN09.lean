import Derived.Deep.RegionHeld
import Derived.Lib.SmallJoins
import Derived.Test.YtibblbenmpcplaaGreatDoorN07
import Derived.Test.YtibblbenmpcplaaGreatDoorN08
set_option linter.unusedVariables false
set_option linter.unusedSimpArgs false
set_option maxRecDepth 20000
set_option maxHeartbeats 8000000
namespace Go.Proofs.YtibblbenmpcplaaGreatDoor
open Go.Proofs.Tryz
variable {S:TypeId->Prop} {B G M Q c g k n:Nat} {bud:Int} {m:Nat->Option (Bool×List Int)} {W W' w w':World} {xs:List Value} {a:Option Addr} {fifo mix zs:List Int} {e:TypeId}
section
open Go.RowKit Go.Shelf
def fC (m:Nat->Option (Bool×List Int)) (p:Nat) (b:Bool):Nat->Bool
 | 0=>true
 | k+1=>fC m p b k&&((m (p+k)).isSome==b)
instance (nn:Nat) (p c:Int):Decidable (AB nn p c):=by unfold AB;infer_instance
def kx (n:Nat) (bud:Int) (m:Nat->Option (Bool×List Int)) (kd:Int) (p c:Nat):(Nat->Option (Bool×List Int))×Int :=
 if kd=0 then
  if fC m p false c=false then (m,6) else if bud<(bz m n:Int)+c then (m,1) else (aT m p c,0)
 else if fC m p true c=false then (m,6)
 else if kd=1 then (bQ m p c,0)
 else if kd=2 then (gU m p true c,0) else (gU m p false c,0)
def bZ (n:Nat) (bud:Int) (m:Nat->Option (Bool×List Int)) (kd p c:Int) (a:Nat) (len:Int) (ys:List Int):(Nat->Option (Bool×List Int))×Int×List Int :=
 if kd=4 then (m,ci m a len,if ci m a len=0 then aH m a len.toNat else [])
 else if kd=5 then (if ci m a (ys.length:Int)=0 then ay m a ys ys.length else m,ci m a (ys.length:Int),[])
 else if kd<0\/5<kd then (m,6,[])
 else if AB n p c then ((kx n bud m kd p.toNat c.toNat).1,(kx n bud m kd p.toNat c.toNat).2,[])
 else (m,6,[])
theorem run_store (S M nn bud f m m' code p c) (a:Nat) (n) (d:Option Addr) (g i:Nat) (w) (h:Im S M 0 nn bud f w) (b:Pg f m w) (l:∀ V,Im S M 1 nn bud f V->Pg f m V->Fr S M f f w V->Calls prog 168 #[J S 0,U a,.slice d g i] V λe w'=>e=.returned (I code)/\∃ j,Im S M 1 nn bud j w'/\Pg j m' w'/\Fr S M f j V w') :
  Calls prog 132 #[J S 0,kf 5 p c a n d g i] w λe w'=>e=.returned (.agg #[I code,C])/\tg S M nn bud f m' w w':=by
 have k:=H h;have o:=H b;have q:=H l;clear h b l;unfold kf;go_enter_defers func132,ntmps132;go_wp2_with fail;refine (fX ((k.alloc _).alloc _)).mono ?_;rintro e V ⟨rfl,r⟩;have b:=H (Dl.first k o #[I 5,I p,I c,U a,I n,.slice d g i]);rw [<-r] at b;clear r k o;generalize t:w.heap.size+1=y at b ⊢;generalize w.heap.size=O at b ⊢;have u:V.cell? ⟨O,0,none⟩=some (I 5):=by simp [World.cell?,b.o]
 have v:V.cell? ⟨O,3,none⟩=some (U a):=by simp [World.cell?,b.o]
 have x:V.cell? ⟨O,5,none⟩=some (.slice d g i):=by simp [World.cell?,b.o]
 go_wp2_with fail;refine (q V b.im b.pg b.fr).mono ?_;rintro e z ⟨rfl,j,k,o,r⟩;have s:=H (b.move k o r);clear k o r b q u v x;go_wp2_with (refine eG s.r ?_);have b:=s.done #[I code,C];refine Iy (f:=86) (args:=#[J S 0]) bH (by simp [go_sem]) ?_;refine (Go.MuLone.unlock_deferred jw ⟨S,0,none⟩ .returning _ b.1 b.2.1).mono ?_;rintro e o k ⟨rfl,rfl,rfl⟩;exact⟨_,AV b.2.2.1 underlying197,rfl,b.2.2.2⟩
theorem Dl.own {S O Rb n f f' V op} (h:Dl w op S M n bud f f' m O Rb V) {v:Value} (b:V.ownsRow B 5 1 v k xs) (d:w.heap.size<=B) (c:Array Value):((V.setRow Rb c).setCell ⟨S,0,none⟩ (.int .i32 0)).ownsRow w.heap.size 5 1 v k xs:=by
 obtain⟨g,i,l⟩:=h.im.apartT h.pg h.r ar ar;have o:=h.im.setRow g i c;refine dm ?_ d;refine (b.kept (aj V Rb c) (.inr λe=>?_)).kept (au (al _ S) 0 _) (.inr λe=>?_);·obtain⟨j,a⟩:=mM b e;rw [h.r] at a;simp at a
 obtain⟨j,a⟩:=mM b e;rw [h.im.box] at a;simp at a
theorem run_load (S M nn bud f m code) (xs:List Int) (p c) (a:Nat) (n d dl dc w) (h:Im S M 0 nn bud f w) (b:Pg f m w) (i:∀ V,Im S M 1 nn bud f V->Pg f m V->Calls prog 167 #[J S 0,U a,I n] V λe w'=>∃ v,e=.returned (.agg #[I code,v])/\w'.ownsRow V.heap.size 5 1 v xs.length (Ns .u8 xs)/\Im S M 1 nn bud f w'/\Pg f m w'/\Fr S M f f V w') :
  Calls prog 132 #[J S 0,kf 4 p c a n d dl dc] w λe w'=>∃ v,e=.returned (.agg #[I code,v])/\w'.ownsRow w.heap.size 5 1 v xs.length (Ns .u8 xs)/\tg S M nn bud f m w w':=by
 have g:=H h;have j:=H b;have k:=H i;clear h b i;unfold kf;go_enter_defers func132,ntmps132;go_wp2_with fail;refine (fX ((g.alloc _).alloc _)).mono ?_;rintro e V ⟨rfl,l⟩;have b:=H (Dl.first g j #[I 4,I p,I c,U a,I n,.slice d dl dc]);rw [<-l] at b;clear l g j;generalize s:w.heap.size+1=A at b ⊢;generalize t:w.heap.size=O at b ⊢;have u:V.cell? ⟨O,0,none⟩=some (I 4):=by simp [World.cell?,b.o]
 have x:V.cell? ⟨O,3,none⟩=some (U a):=by simp [World.cell?,b.o]
 have y:V.cell? ⟨O,4,none⟩=some (I n):=by simp [World.cell?,b.o]
 have z:=H b.fr.size;go_wp2_with fail;refine (k V b.im b.pg).mono ?_;rintro e B ⟨v,rfl,j,l,o,q⟩;have g:=H (b.move l o q);have r:=H j;clear l o q b k u x y j;go_wp2_with (refine Gf rfl 197 _ _ rfl _ _ rfl rfl 197 _ g.r E rfl (zp r _) ?_);have b:=g.done #[I code,v];have j:=g.own r z #[I code,v];refine Iy (f:=86) (args:=#[J S 0]) bH (by simp [go_sem]) ?_;refine (Go.MuLone.unlock_deferred jw ⟨S,0,none⟩ .returning _ b.1 b.2.1).mono ?_;rintro e l k ⟨rfl,rfl,rfl⟩;exact⟨_,AV b.2.2.1 underlying197,v,rfl,j,b.2.2.2⟩
theorem iz (S M st nn bud f m) (a:Nat) (n w) (g:Im S M st nn bud f w) (i:Pg f m w) (ha:a<18446744073709551616) :
  Calls prog 214 #[J S 0,U a,I n] w λe w'=>e=.returned (I (ci m a n))/\w'=w:=by
 unfold ci;by_cases b:n<0\/4096<n;·rw [GP b];exact pC S a n w b
 rw [GO b];by_cases d:n=0;·subst d;rw [GP rfl];exact rQ S a w
 rw [GO d];by_cases c:4611686018427387904<=(a:Int)+(n-1);·rw [GP c];exact sV S a n w Z Z Z Z c
 rw [GO c];obtain⟨k,rfl⟩:=Ha (show 0<=n by omega);rw [F0,<-sF m a k Z];exact qK S M st nn bud f m a k _ _ w g i Z Z Z rfl rfl
theorem yX (S M) (g:Nat) (bud f m) (b:Int) (p c a n d dl dc ys w) (h:Im S M 0 g bud f w) (j:Pg f m w) (i:b<0\/5<b) :
  Calls prog 132 #[J S 0,kf b p c a n d dl dc] w λe w'=>e=.returned (.agg #[I (bZ g bud m b p c a n ys).2.1,C])/\tg S M g bud f (bZ g bud m b p c a n ys).1 w w':=by
 unfold bZ;rw [GO (show ¬b=4 by omega),GO (show ¬b=5 by omega),GP i];exact wH S M g bud f m b p c a n d dl dc w h j i
end
section
open Go.ChangeShapes Go.WideShapes Go.ChangeAt Go.RowKit
theorem Rt.lt {v} (h:Rt w g v):g<v.heap.size:=by
 by_cases b:g<v.heap.size;·exact b
 have:v.heap[g]?=none:=Hd Z;have a:=h.blk;rw [this] at a;cases a
end
section
open Go.RowKit
def cy (c:Nat):Nat:=[16,32,48,64,96,128,192,256,384,512,768,1024].getD c 0
def dI (c:Nat):Nat:=[1,1,1,1,1,1,1,1,2,2,3,4].getD c 0
def aM (c:Nat):Nat:=[64,32,21,16,10,8,5,4,5,4,4,4].getD c 0
def eV (c:Nat):Nat:=cy c-8
def yJ:Nat->Nat
 | 0=>1
 | c+1=>yJ c+6*(dI c+1)
def aD (c s:Nat):Nat:=yJ c+s*(dI c+1)
def bh (c s j:Nat):Nat:=aD c s*1024+j*cy c
def fD (a:Nat):Nat:=((List.range 12).find? λc=>a+8<=cy c).getD 12
def dF:List (Nat×Nat×Nat):=(List.range 12).flatMap λc=>(List.range 6).flatMap λs=>(List.range (aM c)).map λj=>(c,s,j)
structure Cf where
 mix:Nat
 fifo:Nat
 large:Nat
 bud:Nat
 key:Int
 ds:List Int
structure Rg9 where
 first:Nat
 guards:Nat
 pages:Nat
 st:Int
 rq:Int
def Rg9.base (r:Rg9):Nat:=(r.first+r.guards)*1024
def Rg9.ext (r:Rg9):Nat:=r.guards+r.pages+1
structure Hs where
 m:Nat->Option (Bool×List Int)
 st:Nat->Nat->Nat->Int
 rq:Nat->Nat->Nat->Int
 mx:Nat->List Int
 ff:Nat->List Int
 rg:List Rg9
 row:List Nat
 rel:List Nat
 used:Nat
def aP (cf:Cf):Hs:=⟨λ_=>none,λ_ _ _=>0,λ_ _ _=>0,λ_=>List.replicate cf.mix (-1),λ_=>[],[],[],[],0⟩
def aE (f:Nat->Nat->Nat->Int) (c s j:Nat) (v:Int):Nat->Nat->Nat->Int:=λt i e=>if t=c/\i=s/\e=j then v else f t i e
def dB (f:Nat->List Int) (c:Nat) (v:List Int):Nat->List Int:=λe=>if e=c then v else f e
def dr (cf:Cf) (h:Hs) (n:Nat):Nat:=((cf.ds[h.used]?.getD 0)%(n:Int)).toNat
def be (x:Int):Bool:=x==0 || x==3
def freeS (h:Hs) (c s:Nat):List Nat:=(List.range (aM c)).filter λj=>be (h.st c s j)
def dA (h:Hs) (c s:Nat):Bool:=(h.m (aD c s)).isSome
def ks (h:Hs) (c:Nat):Option Nat:=(List.range 6).find? λs=>dA h c s && !(freeS h c s).isEmpty
def qS (h:Hs) (c:Nat):Option Nat:=(List.range 6).find? λs => !dA h c s
def cJ (cf:Cf) (h:Hs) (c:Nat):Option (Nat×Hs) :=
 match ks h c with
 | some s=>some (s,h)
 | none=>match qS h c with
  | none=>none
  | some s=>if cf.bud<bz h.m 283+dI c then none else some (s,{ h with m:=aT h.m (aD c s) (dI c) })
def clean (m:Nat->Option (Bool×List Int)) (a n:Nat):Bool:=(aH m a n).all (· == 0)
def bN (cf:Cf) (c:Nat):Nat->Hs->Option (Nat×Nat)×Hs
 | 0,h=>(none,h)
 | f+1,h=>match cJ cf h c with
  | none=>(none,h)
  | some (s,e) =>
   let j:=(freeS e c s)[dr cf e (freeS e c s).length]?.getD 0
   if clean e.m (bh c s j) (cy c) then (some (s,j),{ e with used:=e.used+1 })
   else bN cf c f { e with used:=e.used+1,st:=aE e.st c s j 4 }
def can (cf:Cf) (a:Nat):List Int:=gI (cx cf.key (a:Int))
def aR (a:Nat):Nat:=a/1024+(if a%1024 > 0 then 1 else 0)
def dV (h:Hs) (n:Nat):Option Nat:=((List.range 97).find? λi=>decide (i+n<=96)&&h.rg.all λr=>decide (187+i+n<=r.first) || decide (r.first+r.ext<=187+i)).map (187 + ·)
def av (cf:Cf) (h:Hs) (a:Nat):Option Nat×Hs :=
 if a<=1016 then
  match bN cf (fD a) 2000 h with
  | (none,e)=>(none,e)
  | (some (s,j),e)=>(some (bh (fD a) s j),{ e with st:=aE e.st (fD a) s j 1,rq:=aE e.rq (fD a) s j a,m:=ay e.m (bh (fD a) s j+eV (fD a)) (can cf (bh (fD a) s j)) 8 })
 else
  let g:=1+dr cf h 3
  let e:={ h with used:=h.used+1 }
  let p:=aR a
  if 96<p then (none,e) else
  match dV e (g+p+1) with
  | none=>(none,e)
  | some s=>if cf.bud<bz e.m 283+p then (none,e)
   else (some ((s+g)*1024),{ e with m:=aT e.m (s+g) p,rg:=e.rg++[⟨s,g,p,1,a⟩],rel:=e.rel.filter λb=>b/1024<s || s+(g+p+1)<=b/1024 })
inductive Fd where
 | slot (c s j:Nat)
 | range (r:Rg9)
 | no (code:Int)
def ce (p:Nat):Option (Nat×Nat×Nat):=dF.find? λt=>bh t.1 t.2.1 t.2.2==p
def aB (h:Hs) (p:Nat):Fd :=
 match ce p with
 | some (c,s,j)=>if h.st c s j=1 then .slot c s j else if h.st c s j=0 then .no 3 else .no 4
 | none=>match h.rg.find? λr=>r.base==p with
  | some r=>if r.st=1 then .range r else .no 4
  | none=>if h.rel.contains p then .no 4 else .no 3
def sound (cf:Cf) (h:Hs) (c s j:Nat):Bool:=aH h.m (bh c s j+eV c) 8==can cf (bh c s j)
def bK (h:Hs) (c s j:Nat):Hs :=
 let e:={ h with st:=aE h.st c s j 3 }
 if (freeS e c s).length=aM c then { e with m:=bQ e.m (aD c s) (dI c) } else e
def aL (cf:Cf) (h:Hs) (c s j:Nat):Hs :=
 let i:={ h with m:=ay h.m (bh c s j) (List.replicate (cy c) 0) (cy c),st:=aE h.st c s j 2,rq:=aE h.rq c s j 0 }
 let d:Nat:=if cf.mix=0 then 0 else dr cf i cf.mix
 let e:=if cf.mix=0 then i else { i with used:=i.used+1 }
 let r:=ed cf.fifo (e.mx c) (e.ff c) ((s*aM c+j:Nat):Int) (d:Int)
 let t:={ e with mx:=dB e.mx c r.1,ff:=dB e.ff c r.2.1 }
 if r.2.2 = -1 then t else bK t c (r.2.2.toNat/aM c) (r.2.2.toNat%aM c)
def aJ (cf:Cf) (h:Hs) (r:Rg9):Hs :=
 let e:={ h with m:=bQ h.m (r.first+r.guards) r.pages,rg:=h.rg.map λx=>if x.base=r.base then { x with st:=2,rq:=0 } else x,row:=h.row++[r.base] }
 if cf.large<e.row.length then { e with rg:=e.rg.filter λx=>x.base≠e.row[0]?.getD 0,rel:=e.rel++[e.row[0]?.getD 0],row:=e.row.tail } else e
structure An4 where
 code:Int
 addr:Nat
 size:Nat
 data:List Int
def An4.no (c:Int):An4:=⟨c,0,0,[]⟩
def db (cf:Cf) (h:Hs):Fd->Hs
 | .slot c s j=>aL cf h c s j
 | .range r=>aJ cf h r
 | .no _=>h
def aZ (m:Nat->Option (Bool×List Int)) (p q n:Nat):Nat->Option (Bool×List Int):=ay m q (aH m p n) n
def a_ (cf:Cf) (h:Hs) (p a:Nat):An4×Hs :=
 let i (old:Nat):An4×Hs :=
  match av cf h a with
  | (none,e)=>(.no 1,e)
  | (some q,e)=>let t:={ e with m:=aZ e.m p q (min old a) }
   (⟨0,q,0,[]⟩,db cf t (aB t p))
 if p=0 then
  match av cf h a with
  | (none,e)=>(.no 1,e)
  | (some q,e)=>(⟨0,q,0,[]⟩,e)
 else match aB h p with
  | .no code=>(.no code,h)
  | .slot c s j=>if sound cf h c s j=false then (.no 5,h)
   else if a<=1016/\fD a=c then (⟨0,p,0,[]⟩,{ h with rq:=aE h.rq c s j a })
   else i (h.rq c s j).toNat
  | .range r=>if 1016<a/\aR a=r.pages then (⟨0,p,0,[]⟩,{ h with rg:=h.rg.map λx=>if x.base=r.base then { x with rq:=a } else x })
   else i r.rq.toNat
structure fL where
 kd:Int
 ref:Int
 p:Nat
 a:Nat
 b:Nat
 ys:List Int
def dv (cf:Cf) (h:Hs) (o:fL) (p:Nat):An4×Hs :=
 let mal (n:Nat):An4×Hs:=match av cf h n with
  | (none,e)=>(.no 1,e)
  | (some q,e)=>(⟨0,q,0,[]⟩,e)
 if o.kd=0 then mal o.a
 else if o.kd=1 then (if 18446744073709551616<=o.a*o.b then (.no 1,h) else mal (o.a*o.b))
 else if o.kd=2 then a_ cf h p o.a
 else if o.kd=3 then
  match aB h p with
  | .no code=>(.no code,h)
  | .slot c s j=>if sound cf h c s j=false then (.no 5,h) else (.no 0,aL cf h c s j)
  | .range r=>(.no 0,aJ cf h r)
 else if o.kd=4 then
  match aB h p with
  | .no code=>(.no code,h)
  | .slot c s j=>(⟨0,0,eV c,[]⟩,h)
  | .range r=>(⟨0,0,r.pages*1024,[]⟩,h)
 else if o.kd=5 then (if 4096<o.a then (.no 6,h) else (⟨ci h.m p (o.a:Int),0,0,if ci h.m p (o.a:Int)=0 then aH h.m p o.a else []⟩,h))
 else if o.kd=6 then (.no (ci h.m p (o.ys.length:Int)),{ h with m:=if ci h.m p (o.ys.length:Int)=0 then ay h.m p o.ys o.ys.length else h.m })
 else (.no 6,h)
def bU (cf:Cf) (h:Hs) (an:List An4) (o:fL):An4×Hs :=
 if o.ref=0 then dv cf h o o.p
 else if o.ref<0\/(an.length:Int)<o.ref then (.no 6,h)
 else dv cf h o ((o.p+((an[o.ref.toNat-1]?.map An4.addr).getD 0))%18446744073709551616)
def bd (cf:Cf):List fL->Hs->List An4->Hs×List An4
 | [],h,an=>(h,an)
 | o::r,h,an=>bd cf r (bU cf h an o).2 (an++[(bU cf h an o).1])
theorem C8 (h:c<12):c=0\/c=1\/c=2\/c=3\/c=4\/c=5\/c=6\/c=7\/c=8\/c=9\/c=10\/c=11:=Z
theorem uT (h:c<12):sz (c:Int)=(cy c:Nat):=by
 rcases C8 h with rfl|rfl|rfl|rfl|rfl|rfl|rfl|rfl|rfl|rfl|rfl|rfl <;> decide
theorem pU (h:c<12):pg (c:Int)=(dI c:Nat):=by
 rcases C8 h with rfl|rfl|rfl|rfl|rfl|rfl|rfl|rfl|rfl|rfl|rfl|rfl <;> decide
theorem vA (h:c<12):sl (c:Int)=(aM c:Nat):=by
 rcases C8 h with rfl|rfl|rfl|rfl|rfl|rfl|rfl|rfl|rfl|rfl|rfl|rfl <;> decide
theorem D3 (h:c<12):us (c:Int)=(eV c:Nat):=by
 rcases C8 h with rfl|rfl|rfl|rfl|rfl|rfl|rfl|rfl|rfl|rfl|rfl|rfl <;> decide
theorem v3 (h:c<12):rs (c:Int)=(yJ c:Nat):=by
 rcases C8 h with rfl|rfl|rfl|rfl|rfl|rfl|rfl|rfl|rfl|rfl|rfl|rfl <;> decide
theorem aX (h:c<12):16<=cy c/\cy c<=1024/\1<=dI c/\dI c<=4/\4<=aM c/\aM c<=64/\aM c*cy c<=dI c*1024/\eV c+8=cy c/\yJ c+6*(dI c+1)<=187/\1<=yJ c:=by
 rcases C8 h with rfl|rfl|rfl|rfl|rfl|rfl|rfl|rfl|rfl|rfl|rfl|rfl <;> decide
theorem cD {s:Nat} (h:c<12) (a:s<6):1<=aD c s/\aD c s+dI c<187:=by
 have:=aX h;unfold aD;have:s*(dI c+1)<=5*(dI c+1):=Gm _ Z;omega
theorem ca {s j:Nat} (h:c<12) (a:s<6) (b:j<aM c):1024<=bh c s j/\bh c s j+cy c<=(aD c s+dI c)*1024/\bh c s j+cy c<191488:=by
 have d:=aX h;have e:=cD h a;have f:j*cy c+cy c<=aM c*cy c:=by
  have:(j+1)*cy c<=aM c*cy c:=Gm _ b;rw [Gy,GF] at this;exact this
 unfold bh;omega
theorem zO {a:Nat} (h:a<=1016):co (a:Int)=(fD a:Nat)/\fD a<12/\a+8<=cy (fD a):=by
 have b:∀ a:Fin 1017,co ((a.val:Nat):Int)=(fD a.val:Nat)/\fD a.val<12/\a.val+8<=cy (fD a.val):=by decide +kernel
 exact b ⟨a,Z⟩
end
section
open Go.ChangeShapes Go.WideShapes Go.ChangeAt Go.RowKit
def Mx (w:World) (M r G:Nat) (mix:List Int):Prop:=w.heap[M]?=some (.cells #[Vl r mix.length mix.length,I (0:Nat),I mix.length,.iface 63 (J G 0)] 153)/\RowV w r 3 (Ns .i64 mix)
theorem Mx.but {S w w' M r G mix} (h:Mx w M r G mix) (a:But S w w') (b:¬S M) (c:¬S r):Mx w' M r G mix :=
 ⟨a.at h.1 b,h.2.but a c⟩
structure Qr (w:World) (M rm G rq n:Nat) (mix fifo:List Int):Prop where
 mx:Mx w M rm G mix
 qu:Qu w G rq n fifo
 ne:rm≠rq
theorem Qr.sep {rm rq} (h:Qr w M rm G rq n mix fifo):M≠G/\M≠rq/\M≠rm/\G≠rm/\G≠rq:=by
 obtain⟨⟨a,b⟩,⟨ps,o,f,c,d,_⟩,e⟩:=h;refine⟨?_,d.ne a ar,b.ne a ar,b.ne c ar,d.ne c ar⟩;rintro rfl;rw [a] at c;simp at c
theorem Qr.but {S w w' M rm G rq n mix fifo} (h:Qr w M rm G rq n mix fifo) (a:But S w w') (b:¬S M) (c:¬S rm) (d:¬S G) (e:¬S rq):Qr w' M rm G rq n mix fifo :=
 ⟨h.mx.but a b c,h.qu.but a d e,h.ne⟩
def Qs (e G rq:Nat):Nat->Prop:=λk=>k=e\/k=G\/k=rq
theorem Dg (M rm G rq n mix fifo x d w) (h:Qr w M rm G rq n mix fifo) (j:mix≠[]) (f:mix.length<=1024) (l:n<=1024) :
  Calls prog 255 #[J M 0,I x,I d] w λe w'=>∃ z,e=.returned (I z)/\z=(ed n mix fifo x d).2.2/\Qr w' M rm G rq n (ed n mix fifo x d).1 (ed n mix fifo x d).2.1/\But (Qs rm G rq) w w':=by
 have q:0<mix.length:=List.length_pos_iff.2 j;obtain⟨s,t,r,m,A⟩:=h.sep;have a:(mix.set (md d mix.length) x).length=mix.length:=bH;by_cases i:mix[md d mix.length]?.getD 0 = -1;·refine (qk M G rm mix.length _ mix x d w h.mx.1 h.mx.2 rfl q f rfl i).mono ?_;rintro e w' ⟨rfl,o,b⟩;unfold ed;rw [GO j,GP i];have c:But (Qs rm G rq) w w':=.ofGrown b (.inl rfl);refine⟨_,rfl,rfl,⟨⟨?_,o⟩,h.qu.but (But.ofGrown (S:=λk=>k=rm) b rfl) m (λe=>h.ne e.symm),h.ne⟩,c⟩;rw [a];exact eK b h.mx.1 r
 refine (ww M G rm mix.length _ mix x d w h.mx.1 h.mx.2 rfl q f rfl _ rfl i (λv w'=>v=I (ed n mix fifo x d).2.2/\Qr w' M rm G rq n (ed n mix fifo x d).1 (ed n mix fifo x d).2.1/\But (Qs rm G rq) w w') (λu o b=>?_)).mono ?_
 ·have v:=h.qu.but (But.ofGrown (S:=λk=>k=rm) b rfl) m (λe=>h.ne e.symm);refine (AF G rq n fifo _ d u v l).mono ?_;rintro e w' ⟨rfl,y,p⟩;refine⟨_,rfl,?_,?_,?_⟩;·unfold ed;rw [GO j,GO i]
  ·unfold ed;rw [GO j,GO i];refine⟨⟨?_,o.but p (λc=>c.elim (λe=>m e.symm) (λe=>h.ne e))⟩,y,h.ne⟩;rw [a];exact p.at (eK b h.mx.1 r) (λc=>c.elim (λe=>s e) (λe=>t e))
  exact (But.ofGrown b (.inl rfl)).trans (p.mono (λg c=>c.elim (λe=>.inr (.inl e)) (λe=>.inr (.inr e))))
 rintro e w' ⟨z,rfl,p,c,v⟩;simp at p;exact⟨z,rfl,p,c,v⟩
def qv (M G:Nat) (mix:List Int):Value:=.agg #[J M 0,J G 0,if mix.length=0 then .iface 63 (J G 0) else .iface 62 (J M 0)]
theorem lF (w:World) (A B:Obj):(((w.alloc A).alloc B).heap[w.heap.size]?=some A)/\(((w.alloc A).alloc B).heap[w.heap.size+1]?=some B)/\D w ((w.alloc A).alloc B):=by
 have b:=dD w A;have a:=dD (w.alloc A) B;rw [cS] at a;exact⟨lw b B,a,((Fu _ w).alloc (Fv _) A).alloc (by rw [cS];omega) B⟩
theorem ae {o:Obj} (h:w.heap[g]?=some o) (a:D w w'):w'.heap[g]?=some o:=by
 rw [a.block g (dO h)];exact h
theorem xB {A B:Obj} (c:W.heap[g]?=some A) (b:W.heap[k]?=some B) (a:A≠B):g≠k:=by
 rintro rfl;rw [c] at b;cases b;exact a rfl
theorem zq (am lm cm af lf cf) (n:Nat) (mix fifo w) (h:Wt w am lm af lf mix fifo) (hm:lm<=16) (hn:1<=n/\n<=32) (B:lf<=n) :
  Calls prog 34 #[wv am lm cm af lf cf (n:Nat)] w λe w'=>∃ M a G c,e=.returned (qv M G mix)/\Qr w' M a G c n mix fifo/\(w.heap.size<=M/\w.heap.size<=a/\w.heap.size<=G/\w.heap.size<=c)/\D w w':=by
 unfold wv;have b:=H (lF w (.cells #[.slice am lm cm,.slice af lf cf,I n] 94) (.cells #[.pointer none,.pointer none,.nilIface] 67));have i:=H (lQ n lf cf af fifo _ h.fl B Z (h.f.below b.2.2));have x:=H (λW (d:D w W)=>lQ lm lm cm am mix W h.ml (Fv _) Z (h.m.below d));have r:=H h.ml;have F:=H h.fl;clear h;go_enter func34,ntmps34;go_wp2_with fail;refine (i).mono ?_;rintro e j ⟨c,rfl,f,l,d⟩;have m:=H (az b.2.2 d);have s:=H (ae b.1 d);have y:=H (ae b.2.1 d);have q:=H f;have K:=H (show w.heap.size<=c/\c<j.heap.size from ⟨by have:=b.2.2.size;omega,f.lt⟩);clear d f l i b;have d:=H ((Fu _ j).alloc (Fv _) (.cells #[Vl c n n,I 0,I lf] 151));have L:(j.alloc (.cells #[Vl c n n,I 0,I lf] 151)).cell? ⟨w.heap.size,0,none⟩=some (.slice am lm cm):=by rw [GT _ _ _ _ _ _ (ae s.out d.out)];rfl
 go_wp2_with fail;refine (x _ (az m d)).mono ?_;rintro e b ⟨a,rfl,z,t,l⟩;clear L;have L1:=m.size;have N:=H (ae (dD j (.cells #[Vl c n n,I 0,I lf] 151)) l);have f:=H ((q.below d q.lt).below l (FG q.lt d.size));have u:=H (az (az m d) l);have O:=H (ae (ae s d) l);have P:=H (ae (ae y d) l);have o:=H (show a≠c by have:=K.2;rw [cS] at t;omega);have p:=H (show w.heap.size<=a by rw [cS] at t;omega);have v:=H z;have Q:=H (show w.heap.size<=j.heap.size by have:=m.size;omega);generalize j.heap.size=G at *;have i:=H ((Fu _ b).alloc (Fv _) (.cells #[Vl a lm lm,I 0,I lm,.iface 63 (J G 0)] 153));clear s y l z t m d q x;have R:=H (ae O i);have d:=H (ae P i);have m:=H (dD b (.cells #[Vl a lm lm,I 0,I lm,.iface 63 (J G 0)] 153));have q:=H (ae N i);have s:=H (f.below i f.lt);have t:=H (v.below i v.lt);have x:=H (az u i);have S:=H u.size;have L:(b.alloc (.cells #[Vl a lm lm,I 0,I lm,.iface 63 (J G 0)] 153)).cell? ⟨w.heap.size,0,none⟩=some (.slice am lm cm):=bJ R.out;have d0:(b.alloc (.cells #[Vl a lm lm,I 0,I lm,.iface 63 (J G 0)] 153)).cell? ⟨w.heap.size+1,0,none⟩=some (.pointer none):=bJ d.out;have d1:(b.alloc (.cells #[Vl a lm lm,I 0,I lm,.iface 63 (J G 0)] 153)).cell? ⟨w.heap.size+1,1,none⟩=some (.pointer none):=bJ d.out;have d2:(b.alloc (.cells #[Vl a lm lm,I 0,I lm,.iface 63 (J G 0)] 153)).cell? ⟨w.heap.size+1,2,none⟩=some .nilIface:=bJ d.out;have f0:(b.alloc (.cells #[Vl a lm lm,I 0,I lm,.iface 63 (J G 0)] 153)).frozen? ⟨w.heap.size+1,0,none⟩=false:=GY _ _ _ _ _ d.out;have f1:(b.alloc (.cells #[Vl a lm lm,I 0,I lm,.iface 63 (J G 0)] 153)).frozen? ⟨w.heap.size+1,1,none⟩=false:=GY _ _ _ _ _ d.out;have f2:(b.alloc (.cells #[Vl a lm lm,I 0,I lm,.iface 63 (J G 0)] 153)).frozen? ⟨w.heap.size+1,2,none⟩=false:=GY _ _ _ _ _ d.out;have FIN:=H (show ∀ y z A:Value,∀ W',W'=(((b.alloc (.cells #[Vl a lm lm,I 0,I lm,.iface 63 (J G 0)] 153)).setCell ⟨w.heap.size+1,0,none⟩ y).setCell ⟨w.heap.size+1,1,none⟩ z).setCell ⟨w.heap.size+1,2,none⟩ A->Qr W' b.heap.size a G c n mix fifo/\(w.heap.size<=b.heap.size/\w.heap.size<=a/\w.heap.size<=G/\w.heap.size<=c)/\D w W' from ?FIN);case FIN =>
  rintro y z A W' rfl;have T:But (λk=>k=w.heap.size+1) (b.alloc (.cells #[Vl a lm lm,I 0,I lm,.iface 63 (J G 0)] 153)) ((((b.alloc (.cells #[Vl a lm lm,I 0,I lm,.iface 63 (J G 0)] 153)).setCell ⟨w.heap.size+1,0,none⟩ y).setCell ⟨w.heap.size+1,1,none⟩ z).setCell ⟨w.heap.size+1,2,none⟩ A):=(((But.refl (λk=>k=w.heap.size+1) (b.alloc (.cells #[Vl a lm lm,I 0,I lm,.iface 63 (J G 0)] 153))).set _ _ _ rfl).set _ _ _ rfl).set _ _ _ rfl;have V:Qr (b.alloc (.cells #[Vl a lm lm,I 0,I lm,.iface 63 (J G 0)] 153)) b.heap.size a G c n mix fifo:=by
   refine⟨⟨by rw [r.out];exact m,?_⟩,⟨_,0,lf,q,s,?_,?_,B,λ_=>rfl,?_⟩,o⟩
   ·have:=t.out;rwa [Nat.sub_self,List.replicate_zero,Gl] at this
   ·rw [FC,Gc,F.out];omega
   ·omega
   rw [IE,List.take_zero,Gl,<-F.out,Iz (Fv _),G9]
  have l:=d.out;have X:=xB m l bH;have Y:a≠w.heap.size+1:=(t.ne l ar).symm;have n3:=xB q l bH;have n4:c≠w.heap.size+1:=(s.ne l ar).symm;exact⟨V.but T X Y n3 n4,⟨S,p,Q,K.1⟩,x.trans (T.below x.size (λg e=>Z))⟩
 clear R m q s t x S N f p Q v i u O P o;by_cases f:lm=0
 ·have i:qv b.heap.size G mix=.agg #[J b.heap.size 0,J G 0,.iface 63 (J G 0)]:=by unfold qv;rw [r.out,GP f]
  have l:=H i;have m:((lm:Int)==0)=true:=by simp [f]
  clear i f;go_wp2;refine GX (Gq dU _ _ (w.heap.size+1) 67 _ (0,0) _ dU (set3 d _ _ _) underlying67 rfl E) dU ?_;exact⟨b.heap.size,a,G,c,by rw [l.out],FIN _ _ _ _ rfl⟩
 have i:qv b.heap.size G mix=.agg #[J b.heap.size 0,J G 0,.iface 62 (J b.heap.size 0)]:=by unfold qv;rw [r.out,GO f]
 have l:=H i;have m:((lm:Int)==0)=false:=bG;clear i f;go_wp2;refine GX (Gq dU _ _ (w.heap.size+1) 67 _ (0,0) _ dU (set3 d _ _ _) underlying67 rfl E) dU ?_;exact⟨b.heap.size,a,G,c,by rw [l.out],FIN _ _ _ _ rfl⟩
theorem ic {P:Program} {f:Func} {p q:Tmp} {b:TypeId} (h:f.results=#[.cell p b,.tmp q]) (a:Array Value) (w:World) (g) (t:TypeId) (c:Array Value) (i:Nat×Nat) (d:TypeDesc) (j:a.getD p undef=J g 0) (k:w.heap[g]?=some (.cells c t i)) (l:P.underlying b=some d) (m:(match d with | .struct _ | .array _ _=>true|_=>false)=true) (n:(P.info? b).map (·.size)=some c.size) :
  (results f a).run P w=.ok (.tuple #[.agg c,a.getD q undef]) w:=by
 have e:a[p]?.getD undef=J g 0:=by simpa using j
 simp [results,h,e,asAddr,run_loadVar_row w g t b c i d k l m n]
theorem Qr.below {rm rq} (h:Qr w M rm G rq n mix fifo) (a:D w w'):Qr w' M rm G rq n mix fifo :=
 h.but (But.ofBelow (S:=λ_=>False) a) id id id id
theorem DZ (M rm G rq n fifo x d w) (h:Qr w M rm G rq n [] fifo) (b:n<=1024) :
  Calls prog 257 #[J G 0,I x,I d] w λe w'=>∃ z,e=.returned (I z)/\z=(ed n [] fifo x d).2.2/\Qr w' M rm G rq n (ed n [] fifo x d).1 (ed n [] fifo x d).2.1/\But (Qs rm G rq) w w':=by
 obtain⟨f,i,m,j,o⟩:=h.sep;refine (AF G rq n fifo x d w h.qu b).mono ?_;rintro e w' ⟨rfl,k,c⟩;have l:ed n [] fifo x d=([],(cu n fifo x).1,(cu n fifo x).2):=by unfold ed;rw [GP rfl]
 rw [l];exact⟨_,rfl,rfl,⟨h.mx.but c (λa=>a.elim (λe=>f e) (λe=>i e)) (λa=>a.elim (λe=>j e.symm) (λe=>h.ne e)),k,h.ne⟩,c.mono (λg a=>a.elim (λe=>.inr (.inl e)) (λe=>.inr (.inr e)))⟩
theorem ti (h:eN mix fifo (n:Nat)=true):mix.length<=16/\1<=n/\n<=32/\fifo.length<=n:=by
 unfold eN at h;simp only [Gi,Hj] at h;omega
theorem BN (M rm G rq n mix fifo x d w) (h:Qr w M rm G rq n mix fifo) (a:n<=1024) (b:mix.length=0) :
  Calls prog 257 #[J G 0,I x,I d] w λe w'=>∃ z,e=.returned (I z)/\z=(ed n mix fifo x d).2.2/\Qr w' M rm G rq n (ed n mix fifo x d).1 (ed n mix fifo x d).2.1/\But (Qs rm G rq) w w':=by
 obtain rfl:=List.length_eq_zero_iff.1 b;exact DZ M rm G rq n fifo x d w h a
def Ow (w:World) (base:Nat) (a:Option Addr) (c:Nat) (zs:List Int):Prop:=w.ownsRow base 3 1 (.slice a zs.length c) zs.length (Ns .i64 zs)
theorem Ow.nil (w base):Ow w base none 0 []:=⟨rfl,.inl ⟨rfl,rfl⟩⟩
theorem Ow.but {S base} (h:Ow w base a c zs) (i:But S w w') (j:∀ g,a=some ⟨g,0,none⟩->¬S g):Ow w' base a c zs:=by
 refine⟨h.1,?_⟩;rcases h.2 with k|⟨g,b,d,e,l,f,m⟩;·exact .inl k
 right;have n:a=some ⟨g,0,none⟩:=by simp at e;exact e.1
 exact⟨g,b,d,e,l,by rw [i.block g (dO f) (j g n)];exact f,m⟩
theorem Ow.below {base} (h:Ow w base a c zs) (b:D w w'):Ow w' base a c zs:=h.but (But.ofBelow (S:=λ_=>False) b) (λ_ _=>id)
theorem Ow.base {base} (h:Ow w base a c zs):∀ g,a=some ⟨g,0,none⟩->base<=g/\g<w.heap.size:=by
 rintro g rfl;rcases h.2 with ⟨e,_⟩|⟨j,b,d,e,f,i,k⟩;·simp at e
 simp at e;obtain⟨rfl,_⟩:=e;exact⟨f,dO i⟩
theorem Ow.sl {base} (h:Ow w base a c zs):Sl w a zs:=by
 have b:=h;rcases h.2 with ⟨e,d⟩|⟨g,f,i,e,k,l,m⟩;·simp at e;exact .inl ⟨e.1,List.length_eq_zero_iff.1 d⟩
 have j:a=some ⟨g,0,none⟩:=by simp at e;exact e.1
 subst j;exact .inr ⟨g,rfl,RowV.ofOwns b⟩
theorem Ow.cap0 {base} (h:Ow w base a c zs):a=none->c=0:=by
 rintro rfl;rcases h.2 with ⟨e,f⟩|⟨g,b,d,e,i,j,k⟩;·simp at e;exact e.2
 simp at e
theorem Ow.capge {base} (h:Ow w base a c zs):zs.length<=c:=by
 rcases h.2 with ⟨e,f⟩|⟨g,b,d,e,i,j,k,_⟩;·omega
 simp at e;omega
theorem kV (w base a c zs) (o:Option Addr) (m q:Nat) (f:List Int) (b:Ow w base a c zs) (z:f.length=m) (K:o=none->q=0) (l:(o=none/\f=[])\/∃ p,o=some p/\∀ j u,(Ns .i64 f)[j]?=some u->w.cell? (p.add j)=some u) (T:zs.length+m<=1048576) (i:base<=w.heap.size) :
  ∃ j d w',(Builtin.append_ #[24,24] 24 #[.slice a zs.length c,.slice o m q]).run prog w=.ok (.slice j (zs.length+m) d) w'/\Ow w' base j d (zs++f)/\But (λk=>base<=k) w w':=by
 obtain⟨A,B,r,s,t⟩:=G0 Tryz.info3In;rcases l with ⟨rfl,rfl⟩|⟨p,rfl,L⟩
 ·obtain rfl:m=0:=by simpa using z.symm
  obtain rfl:=K rfl;refine⟨a,c,w,?_,by rw [Gl];exact b,But.refl _ _⟩;rw [GK];exact run_append_owned_none (P:=prog) (w:=w) base 24 24 3 A 1 underlying24 B _ _ _ b
 obtain⟨M,w',N,F,n,_⟩:=Ia (P:=prog) w base 24 24 3 A (I 0) 1 8 underlying24 B r s t rfl Z (.slice a zs.length c) zs.length (Ns .i64 zs) b p m q (Ns .i64 f) (by rw [bv];omega) L (jU _ _) (by unfold maxLen;omega) Z i;have O:∃ j d,M=.slice j (zs.length+m) d:=by
  rcases F.2 with ⟨e,x⟩|⟨g,v,y,e,_⟩;·exact⟨none,0,by rw [x];exact e⟩
  exact⟨_,_,e⟩
 obtain⟨j,d,rfl⟩:=O;refine⟨j,d,w',N,?_,⟨n.os,n.tape,n.output,n.size,λk Q R=>n.block k Q λG=>R ?_⟩⟩
 ·have x:(zs++f).length=zs.length+m:=by simp [z]
  unfold Ow;rw [x];have S:Ns .i64 (zs++f)=Ns .i64 zs++Ns .i64 f:=by simp [Ns]
  rw [S];exact F
 cases a with
 | none=>simp [Value.ownBlock] at G
 | some x =>
  rcases b.2 with ⟨e,_⟩|⟨g,v,y,e,S,_⟩;·simp at e
  simp at e;obtain⟨rfl,_⟩:=e;simp [Value.ownBlock] at G;omega
end
section
open Go.RowKit
structure Ky (S:TypeId->Prop) (W W':World):Prop where
 os:W'.os=W.os
 tape:W'.tape=W.tape
 output:W'.output=W.output
 size:W.heap.size<=W'.heap.size
 cells:∀ (g:Nat) (c:Array Value) (t:TypeId) (f:Nat×Nat),W.heap[g]?=some (.cells c t f)->¬S t->W'.heap[g]?=some (.cells c t f)
theorem Ky.below (h:D W W'):Ky S W W':=⟨h.os,h.tape,h.output,h.size,λg c t f a _=>by rw [h.block g (ag a)];exact a⟩
theorem Ky.refl (S W):Ky S W W:=Ky.below (Fu _ _)
theorem Ky.trans {S a b c} (h:Ky S a b) (k:Ky S b c):Ky S a c:=⟨k.os.trans h.os,k.tape.trans h.tape,k.output.trans h.output,Fx h.size k.size,λg d t f i e=>k.cells g d t f (h.cells g d t f i e) e⟩
theorem Ky.more {a:TypeId->Prop} (h:Ky S W W') (b:∀ t,S t->a t):Ky a W W':=⟨h.os,h.tape,h.output,h.size,λg c t f d i=>h.cells g c t f d (λe=>i (b t e))⟩
theorem Ky.grown {P:Nat} {c:Array Value} {t:TypeId} {f:Nat×Nat} (d:W.heap[P]?=some (.cells c t f)) (i:S t) (b:W.grownBy W' (some P)):Ky S W W':=by
 refine⟨b.os,b.tape,b.output,b.size,λg k l m a j=>?_⟩;rw [b.block g (ag a) (λe=>?_)];·exact a
 simp at e;subst e;rw [d] at a;simp at a;exact j (a.2.1▸i)
theorem Sx.ky {T} (h:Sx T Q n bud m W) (k:Ky S W W') (e:¬S 202) (f:¬S 204) (j:¬S 5):Sx T Q n bud m W':=by
 obtain⟨c,o,p,r,a⟩:=h.row;refine⟨k.cells _ _ _ _ h.box e,⟨c,k.cells _ _ _ _ o f,p,λi s=>?_,a⟩,h.out⟩;have b:=r i s;cases d:m i with
 | none=>rw [d] at b;exact b
 | some q =>
  obtain⟨l,xs⟩:=q;rw [d] at b;obtain⟨t,u,v,g,w,x⟩:=b;exact⟨t,u,v,g,w,k.cells _ _ _ _ x j⟩
theorem ai {sz:Nat} {v:Value} (h:W.ownsRow B e sz v n xs) (k:Ky S W W') (d:¬S e):W'.ownsRow B e sz v n xs:=by
 refine⟨h.1,?_⟩;rcases h.2 with a|⟨g,b,c,f,a,i,j⟩;·exact .inl a
 exact .inr ⟨g,b,c,f,a,k.cells _ _ _ _ i d,j⟩
theorem cL (h:RowV W g e xs) (k:Ky S W W') (a:¬S e):RowV W' g e xs:=by
 obtain⟨c,b,d⟩:=h;exact⟨c,k.cells _ _ _ _ b a,d⟩
theorem Sl.ky (h:Sl W a zs) (k:Ky S W W') (b:¬S 3):Sl W' a zs:=by
 rcases h with h|⟨g,e,c⟩;·exact .inl h
 exact .inr ⟨g,e,cL c k b⟩
def Wq (W:World) (v:Value) (zs:List Int):Prop:=∃ (a:Option Addr) (cap:Nat),v=.slice a zs.length cap/\(a=none->cap=0)/\Sl W a zs
theorem Wq.ky {S W W' v zs} (h:Wq W v zs) (k:Ky S W W') (c:¬S 3):Wq W' v zs:=by
 obtain⟨a,b,d,e,f⟩:=h;exact⟨a,b,d,e,f.ky k c⟩
structure Sm where
 P:Nat
 T:Nat
 Q:Nat
 G:Nat
 gc:Nat
 da:Option Addr
 dc:Nat
 wv:Value
 rv:Value
 ov:Value
 lv:Value
 mv:Nat->Value
 fv:Nat->Value
def Us (zs:List Nat):List Value:=zs.map λ(n:Nat)=>Value.int .u64 (n:Int)
def ji (h:Hs):List Value:=dF.flatMap λt=>[I t.1,I t.2.1,I t.2.2,U (bh t.1 t.2.1 t.2.2:Nat),I (h.st t.1 t.2.1 t.2.2),I (h.rq t.1 t.2.1 t.2.2)]
def nO (cf:Cf) (x:Sm):List Value:=(List.range 12).flatMap λc=>[x.mv c,x.fv c,I cf.fifo]
def eM (rg:List Rg9):List Value:=rg.flatMap λr=>[U r.base,I r.first,I r.ext,I r.pages,I r.st,I r.rq]
def fN (cf:Cf) (x:Sm) (used:Nat):Array Value:=#[I cf.mix,I cf.fifo,I cf.large,I cf.bud,U cf.key,.slice x.da cf.ds.length x.dc,J x.T 0,Vl x.G 1062 x.gc,x.wv,x.rv,x.ov,x.lv,I used]
structure Sh (B:Nat) (x:Sm) (cf:Cf) (h:Hs) (W:World):Prop where
 box:W.heap[x.P]?=some (.cells (fN cf x h.used) 123)
 bp:B<=x.P
 bq:B<=x.Q
 bg:∀ g,e_ x.Q W g->B<=g
 ds:Sl W x.da cf.ds
 sp:Sx x.T x.Q 283 (cf.bud:Nat) h.m W
 sl:W.ownsRow B 126 6 (Vl x.G 1062 x.gc) 1062 (ji h)
 wt:W.ownsRow B 94 3 x.wv 12 (nO cf x)
 wm:∀ c,c<12->Wq W (x.mv c) (h.mx c)/\Wq W (x.fv c) (h.ff c)
 rg:W.ownsRow B 130 6 x.rv h.rg.length (eM h.rg)
 ro:W.ownsRow B 23 1 x.ov h.row.length (Us h.row)
 rl:W.ownsRow B 23 1 x.lv h.rel.length (Us h.rel)
theorem cV (h:W'.heap[Q]?=W.heap[Q]?) (b:e_ Q W' g):e_ Q W g:=by
 obtain⟨k,a⟩:=b;refine⟨k,?_⟩;unfold World.cell? at a ⊢;rw [h] at a;exact a
theorem Sx.qEq {T} (h:Sx T Q n bud m W) (k:Ky S W W') (b:¬S 204):W'.heap[Q]?=W.heap[Q]?:=by
 obtain⟨c,a,_⟩:=h.row;rw [k.cells _ _ _ _ a b,a]
theorem Sh.boxed {x cf h} (a:Sh B x cf h W) (k:Ky (· = 123) W W') (u) (d:W'.heap[x.P]?=some (.cells (fN cf x u) 123)):Sh B x cf { h with used:=u } W' :=
 ⟨d,a.bp,a.bq,λg e=>a.bg g (cV (a.sp.qEq k ar) e),a.ds.ky k ar,a.sp.ky k ar ar ar,ai a.sl k ar,ai a.wt k ar,λc b=>⟨(a.wm c b).1.ky k ar,(a.wm c b).2.ky k ar⟩,ai a.rg k ar,ai a.ro k ar,ai a.rl k ar⟩
theorem Sh.below {B x cf h W W'} (a:Sh B x cf h W) (b:D W W'):Sh B x cf h W':=by
 have k:Ky (λ_=>False) W W':=Ky.below b;exact⟨k.cells _ _ _ _ a.box (λe=>e),a.bp,a.bq,λg f=>a.bg g (cV (a.sp.qEq k (λe=>e)) f),a.ds.ky k (λe=>e),a.sp.below b,ai a.sl k (λe=>e),ai a.wt k (λe=>e),λc d=>⟨(a.wm c d).1.ky k (λe=>e),(a.wm c d).2.ky k (λe=>e)⟩,ai a.rg k (λe=>e),ai a.ro k (λe=>e),ai a.rl k (λe=>e)⟩
theorem Sh.cell {B x cf h W} (a:Sh B x cf h W) (i:Nat) (v:Value) (b:(fN cf x h.used)[i]?=some v):W.cell? ⟨x.P,i,none⟩=some v:=by
 simp [World.cell?,a.box,b]
theorem eC {α:Type} (f:α->List Value) (n:Nat) (b:∀ a,(f a).length=n):∀ (l:List α) (i:Nat) (a:α),l[i]?=some a->∀ r,r<n->(l.flatMap f)[i*n+r]?=(f a)[r]?
 | [],i,a,h=>by simp at h
 | x::l,0,a,h=>λr c=>by
  simp at h
  subst h
  rw [If,Nat.zero_mul,Gb,Ga (by rw [b];exact c)]
 | x::l,i+1,a,h=>λr c=>by
  simp at h
  have d:(i+1)*n=i*n+n:=by rw [Gy,GF]
  rw [If,Gn (by rw [b];omega),b,show (i+1)*n+r-n=i*n+r by omega]
  exact eC f n b l i a h r c
theorem bC {sz:Nat} {cap} (h:W.ownsRow B e sz (Vl G n cap) n xs) (i:Nat) (v:Value) (a:xs[i]?=some v):W.cell? ⟨G,i,none⟩=some v:=by
 rcases h.2 with ⟨e,_⟩|⟨g,b,c,e,k,d,l,m,o,f⟩;·simp at e
 simp at e;obtain⟨rfl,rfl⟩:=e;have j:=(Fz.1 a).1;rw [<-f,Hf (by rw [<-h.1];exact j),Gg] at a;simp [World.cell?,d,a]
theorem fG:dF.length=1062:=by decide +kernel
def sA (k:Nat):Nat×Nat×Nat:=(dF[k]?).getD (0,0,0)
theorem gR (h:k<1062):dF[k]?=some (sA k):=by
 unfold sA;rw [Fy (by rw [fG];exact h)];rfl
def dC (h:Hs) (k:Nat):Int:=h.st (sA k).1 (sA k).2.1 (sA k).2.2
def fJ (h:Hs) (k:Nat):Int:=h.rq (sA k).1 (sA k).2.1 (sA k).2.2
def gt (k:Nat):Nat:=bh (sA k).1 (sA k).2.1 (sA k).2.2
theorem Sh.slot {x cf h} (b:Sh B x cf h W) (c:k<1062):W.cell? ⟨x.G,k*6,none⟩=some (I ((sA k).1:Nat))/\W.cell? ⟨x.G,k*6+1,none⟩=some (I ((sA k).2.1:Nat))/\W.cell? ⟨x.G,k*6+2,none⟩=some (I ((sA k).2.2:Nat))/\W.cell? ⟨x.G,k*6+3,none⟩=some (U (gt k:Nat))/\W.cell? ⟨x.G,k*6+4,none⟩=some (I (dC h k))/\W.cell? ⟨x.G,k*6+5,none⟩=some (I (fJ h k)):=by
 have a:=eC (λt:Nat×Nat×Nat=>[I t.1,I t.2.1,I t.2.2,U (bh t.1 t.2.1 t.2.2:Nat),I (h.st t.1 t.2.1 t.2.2),I (h.rq t.1 t.2.1 t.2.2)]) 6 (λ_=>rfl) dF k (sA k) (gR c);have g:=λr v (d:r<6) e=>bC b.sl (k*6+r) v ((a r d).trans e)
 exact⟨g 0 _ Z rfl,g 1 _ Z rfl,g 2 _ Z rfl,g 3 _ Z rfl,g 4 _ Z rfl,g 5 _ Z rfl⟩
def jc (h:Hs) (c s:Nat) (e:List Int) (n:Nat):List Nat:=(List.range n).filter λk=>(sA k).1==c&&((sA k).2.1==s&&e.contains (dC h k))
theorem xH (h c s sts) (n:Nat):jc h c s sts (n+1)=jc h c s sts n++(if ((sA n).1==c&&((sA n).2.1==s&&sts.contains (dC h n)))=true then [n] else []):=by
 unfold jc;rw [Gs,Hl];congr 1;simp only [List.filter_cons,List.filter_nil]
theorem zJ (h c s sts n):(jc h c s sts n).length<=n:=by
 unfold jc;have:=Hb (λk=>(sA k).1==c&&((sA k).2.1==s&&sts.contains (dC h k))) (List.range n);simpa using this
end
end Go.Proofs.YtibblbenmpcplaaGreatDoor
namespace Go.Proofs.YtibblbenmpcplaaGreatDoor.product
open Go.Proofs.Tryz
set_option linter.unusedVariables false
set_option linter.unusedSimpArgs false
set_option maxRecDepth 20000
set_option maxHeartbeats 8000000
open Go.ChangeShapes Go.WideShapes Go.ChangeAt Go.RowKit
theorem sp_Product_no (x y:Nat) (c:x<18446744073709551616) (d:y<18446744073709551616) (h:18446744073709551616<=x*y) (w:World) :
  Calls prog 20 #[U x,U y] w λe w'=>e=.returned (.tuple #[U 0,.bool false])/\w'=w:=by
 have a:0<x:=by
  rcases Nat.eq_zero_or_pos x with b|b;·subst b;simp at h
  exact b
 have b:(18446744073709551615:Int)/(x:Int)<(y:Int):=by
  have:18446744073709551615/x<y:=by
   rw [Nat.div_lt_iff_lt_mul a,GL];omega
  show ((18446744073709551615:Nat):Int)/(x:Int)<(y:Int);rw [<-Int.natCast_ediv];exact Int.ofNat_lt.2 this
 have f:((x:Int) != 0)=true:=bG;clear h;go_enter func20,ntmps20;go_wp2
 go_ret2
 exact⟨rfl,rfl⟩
theorem sp_Product_zero (y:Nat) (a:y<18446744073709551616) (w:World) :
  Calls prog 20 #[U 0,U y] w λe w'=>e=.returned (.tuple #[U 0,.bool true])/\w'=w:=by
 go_enter func20,ntmps20;go_wp2
 go_ret2
 exact⟨rfl,rfl⟩
theorem sp_Product_yes (x y:Nat) (a:0<x) (d:x<18446744073709551616) (f:y<18446744073709551616) (h:x*y<18446744073709551616) (w:World) :
  Calls prog 20 #[U x,U y] w λe w'=>e=.returned (.tuple #[U ((x*y:Nat):Int),.bool true])/\w'=w:=by
 have g:(y:Int)<=(18446744073709551615:Int)/(x:Int):=by
  have:y<=18446744073709551615/x:=by
   rw [Nat.le_div_iff_mul_le a,GL];omega
  show (y:Int)<=((18446744073709551615:Nat):Int)/(x:Int);rw [<-Int.natCast_ediv];exact Int.ofNat_le.2 this
 have i:((x:Int) != 0)=true:=bG;have b:IntKind.u64.wrap ((x:Int)*(y:Int))=((x*y:Nat):Int):=by
  rw [Mul64.mulN,Hv _ h]
 have c:=Bm b;clear h b;go_enter func20,ntmps20;go_wp2
 go_ret2
 exact⟨by rw [<-c.out];rfl,rfl⟩
end Go.Proofs.YtibblbenmpcplaaGreatDoor.product
namespace Go.Proofs.YtibblbenmpcplaaGreatDoor
open Go.Proofs.Tryz
variable {S:TypeId->Prop} {B G M Q c g k n:Nat} {bud:Int} {m:Nat->Option (Bool×List Int)} {W W' w w':World} {xs:List Value} {a:Option Addr} {fifo mix zs:List Int} {e:TypeId}
section
open Go.RowKit
def nl (tk:Nat->Bool):Nat->Nat
 | 0=>0
 | k+1=>if tk k then 0 else nl tk k+1
theorem pe (tk):∀ k,nl tk k<=k
 | 0=>Fv _
 | k+1=>by have:=pe tk k;unfold nl;split <;> omega
theorem jo (tk):∀ k n,n<=nl tk k↔n<=k/\∀ q,k-n<=q->q<k->tk q=false
 | 0,n=>by
  simp only [nl]
  exact⟨λh=>⟨h,λq _ a=>Z⟩,λh=>h.1⟩
 | k+1,n=>by
  have c:=jo tk k
  simp only [nl]
  cases d:tk k with
  | true =>
   simp only [IM]
   constructor
   ·intro h
    exact⟨Z,λq b a=>Z⟩
   intro ⟨b,a⟩
   by_cases f:n=0
   ·omega
   have:=a k Z Z
   rw [d] at this;cases this
  | false =>
   simp only [Bool.false_eq_true,IL]
   constructor
   ·intro h
    refine⟨by have:=pe tk k;omega,λq b a=>?_⟩
    by_cases e:q=k
    ·subst e;exact d
    exact ((c (n-1)).1 Z).2 q Z Z
   intro ⟨b,a⟩
   by_cases f:n=0
   ·omega
   have:=(c (n-1)).2 ⟨Z,λq g i=>a q Z Z⟩
   omega
theorem find_range {N:Nat} {p:Nat->Bool} (a:k<N) (b:p k=true) (c:∀ i,i<k->p i=false):(List.range N).find? p=some k:=by
 rw [Iu];exact⟨b,Gh.2 a,λj d=>by rw [c j d];rfl⟩
def gY (rg:List Rg9) (q:Nat):Bool:=rg.any λr=>decide (r.first<=187+q)&&decide (187+q<r.first+r.ext)
theorem pu (c:List Rg9) (l:∀ r∈c,187<=r.first/\1<=r.ext) {i:Nat} (o:1<=n):(c.all λr=>decide (187+i+n<=r.first) || decide (r.first+r.ext<=187+i))=true↔∀ q,i<=q->q<i+n->gY c q=false:=by
 rw [List.all_eq_true];constructor
 ·intro h q j k;unfold gY;cases e:c.any _ with
  | false=>rfl
  | true =>
   exfalso;obtain⟨r,f,b⟩:=List.any_eq_true.1 e;have:=h r f;simp at this b;omega
 intro h r f;have p:=l r f;simp;by_cases j:187+i+n<=r.first
 ·exact .inl j
 by_cases k:r.first+r.ext<=187+i
 ·exact .inr k
 exfalso;have d:∀ q,i<=q->q<i+n->¬(r.first<=187+q/\187+q<r.first+r.ext):=λq a b m=>by
  have:=h q a b;unfold gY at this;have g:(c.any λr=>decide (r.first<=187+q)&&decide (187+q<r.first+r.ext))=true:=List.any_eq_true.2 ⟨r,f,by simp;exact m⟩;rw [g] at this;cases this
 by_cases g:r.first<=187+i
 ·exact d i (Fv _) Z ⟨g,Z⟩
 exact d (r.first-187) Z Z ⟨Z,Z⟩
theorem sq {h:Hs} (c:∀ r∈h.rg,187<=r.first/\1<=r.ext) (d:1<=n) (l:k<96) (m:nl (gY h.rg) (k+1)=n) (f:∀ j,j<=k->nl (gY h.rg) j<n):dV h n=some (187+(k+1-n)):=by
 have g:=pe (gY h.rg) (k+1);unfold dV;rw [find_range (k:=k+1-n) Z ?_ ?_];·rfl
 ·simp only [Gi,Hj];refine⟨Z,(pu h.rg c d).2 (λq a b=>?_)⟩;exact ((jo (gY h.rg) (k+1) n).1 Z).2 q a Z
 intro i o;cases e:(decide (i+n<=96)&&h.rg.all λr=>decide (187+i+n<=r.first) || decide (r.first+r.ext<=187+i)) with
 | false=>rfl
 | true =>
  exfalso;simp only [Gi,Hj] at e;have j:=(pu h.rg c d).1 e.2;have:=(jo (gY h.rg) (i+n) n).2 ⟨Z,λq a b=>j q Z b⟩;have:=f (i+n) Z;omega
theorem sI {h:Hs} (c:∀ r∈h.rg,187<=r.first/\1<=r.ext) (d:1<=n) (f:∀ j,j<=96->nl (gY h.rg) j<n):dV h n=none:=by
 unfold dV;rw [List.find?_eq_none.2];·rfl
 intro i j e;simp only [Gi,Hj] at e;have g:=(pu h.rg c d).1 e.2;have:=(jo (gY h.rg) (i+n) n).2 ⟨Z,λq a b=>g q Z b⟩;have:=f (i+n) Z;omega
end
end Go.Proofs.YtibblbenmpcplaaGreatDoor
