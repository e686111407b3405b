import Derived.Deep.CutBlock
import Derived.Deep.DeepCutAuto
import Derived.Test.YtdfodlhkdmkfdaaGreatDoorN06
set_option linter.unusedVariables false
set_option linter.unusedSimpArgs false
set_option maxRecDepth 20000
set_option maxHeartbeats 8000000
namespace Go.Proofs.YtdfodlhkdmkfdaaGreatDoor
open Go.Proofs.Tryz
variable {W W' w:World} {B G Q g k n sz:Nat} {fifo mix:List Int} {S:TypeId->Prop} {e:TypeId} {xs:List Value}
section
open Go.RowKit
def cR (c:Nat):Nat:=[16,32,48,64,96,128,192,256,384,512,768,1024].getD c 0
def dQ (c:Nat):Nat:=[1,1,1,1,1,1,1,1,2,2,3,4].getD c 0
def aU (c:Nat):Nat:=[64,32,21,16,10,8,5,4,5,4,4,4].getD c 0
def fy (c:Nat):Nat:=cR c-8
def AC:Nat->Nat
 | 0=>1
 | c+1=>AC c+6*(dQ c+1)
def aF (c s:Nat):Nat:=AC c+s*(dQ c+1)
def bF (c s j:Nat):Nat:=aF c s*1024+j*cR c
def gN (a:Nat):Nat:=((List.range 12).find? λc=>a+8<=cR c).getD 12
def dM:List (Nat×Nat×Nat):=(List.range 12).flatMap λc=>(List.range 6).flatMap λs=>(List.range (aU c)).map λj=>(c,s,j)
structure Cf where
 mix:Nat
 fifo:Nat
 large:Nat
 bud:Nat
 key:Int
 ds:List Int
structure Rg9 where
 first:Nat
 guards:Nat
 pages:Nat
 st:Int
 rq:Int
def Rg9.base (r:Rg9):Nat:=(r.first+r.guards)*1024
def Rg9.ext (r:Rg9):Nat:=r.guards+r.pages+1
structure Hs where
 m:Nat->Option (Bool×List Int)
 st:Nat->Nat->Nat->Int
 rq:Nat->Nat->Nat->Int
 mx:Nat->List Int
 ff:Nat->List Int
 rg:List Rg9
 row:List Nat
 rel:List Nat
 used:Nat
def bC (cf:Cf):Hs:=⟨λ_=>none,λ_ _ _=>0,λ_ _ _=>0,λ_=>List.replicate cf.mix (-1),λ_=>[],[],[],[],0⟩
def aJ (f:Nat->Nat->Nat->Int) (c s j:Nat) (v:Int):Nat->Nat->Nat->Int:=λu i t=>if u=c/\i=s/\t=j then v else f u i t
def er (f:Nat->List Int) (c:Nat) (v:List Int):Nat->List Int:=λi=>if i=c then v else f i
def dr (cf:Cf) (h:Hs) (n:Nat):Nat:=((cf.ds[h.used]?.getD 0)%(n:Int)).toNat
def bv (x:Int):Bool:=x==0 || x==3
def freeS (h:Hs) (c s:Nat):List Nat:=(List.range (aU c)).filter λj=>bv (h.st c s j)
def dJ (h:Hs) (c s:Nat):Bool:=(h.m (aF c s)).isSome
def kZ (h:Hs) (c:Nat):Option Nat:=(List.range 6).find? λs=>dJ h c s && !(freeS h c s).isEmpty
def rU (h:Hs) (c:Nat):Option Nat:=(List.range 6).find? λs => !dJ h c s
def dw (cf:Cf) (h:Hs) (c:Nat):Option (Nat×Hs) :=
 match kZ h c with
 | some s=>some (s,h)
 | none=>match rU h c with
  | none=>none
  | some s=>if cf.bud<bG h.m 283+dQ c then none else some (s,{ h with m:=aT h.m (aF c s) (dQ c) })
def clean (m:Nat->Option (Bool×List Int)) (a n:Nat):Bool:=(aI m a n).all (· == 0)
def cy (cf:Cf) (c:Nat):Nat->Hs->Option (Nat×Nat)×Hs
 | 0,h=>(none,h)
 | f+1,h=>match dw cf h c with
  | none=>(none,h)
  | some (s,i) =>
   let j:=(freeS i c s)[dr cf i (freeS i c s).length]?.getD 0
   if clean i.m (bF c s j) (cR c) then (some (s,j),{ i with used:=i.used+1 })
   else cy cf c f { i with used:=i.used+1,st:=aJ i.st c s j 4 }
def can (cf:Cf) (a:Nat):List Int:=gO (cx cf.key (a:Int))
def aS (a:Nat):Nat:=a/1024+(if a%1024 > 0 then 1 else 0)
def eh (h:Hs) (n:Nat):Option Nat:=((List.range 97).find? λi=>decide (i+n<=96)&&h.rg.all λr=>decide (187+i+n<=r.first) || decide (r.first+r.ext<=187+i)).map (187 + ·)
def az (cf:Cf) (h:Hs) (a:Nat):Option Nat×Hs :=
 if a<=1016 then
  match cy cf (gN a) 2000 h with
  | (none,i)=>(none,i)
  | (some (s,j),i)=>(some (bF (gN a) s j),{ i with st:=aJ i.st (gN a) s j 1,rq:=aJ i.rq (gN a) s j a,m:=ax i.m (bF (gN a) s j+fy (gN a)) (can cf (bF (gN a) s j)) 8 })
 else
  let g:=1+dr cf h 3
  let i:={ h with used:=h.used+1 }
  let p:=aS a
  if 96<p then (none,i) else
  match eh i (g+p+1) with
  | none=>(none,i)
  | some s=>if cf.bud<bG i.m 283+p then (none,i)
   else (some ((s+g)*1024),{ i with m:=aT i.m (s+g) p,rg:=i.rg++[⟨s,g,p,1,a⟩],rel:=i.rel.filter λb=>b/1024<s || s+(g+p+1)<=b/1024 })
inductive Fd where
 | slot (c s j:Nat)
 | range (r:Rg9)
 | no (code:Int)
def bj (p:Nat):Option (Nat×Nat×Nat):=dM.find? λt=>bF t.1 t.2.1 t.2.2==p
def aP (h:Hs) (p:Nat):Fd :=
 match bj p with
 | some (c,s,j)=>if h.st c s j=1 then .slot c s j else if h.st c s j=0 then .no 3 else .no 4
 | none=>match h.rg.find? λr=>r.base==p with
  | some r=>if r.st=1 then .range r else .no 4
  | none=>if h.rel.contains p then .no 4 else .no 3
def sound (cf:Cf) (h:Hs) (c s j:Nat):Bool:=aI h.m (bF c s j+fy c) 8==can cf (bF c s j)
def cV (h:Hs) (c s j:Nat):Hs :=
 let i:={ h with st:=aJ h.st c s j 3 }
 if (freeS i c s).length=aU c then { i with m:=bQ i.m (aF c s) (dQ c) } else i
def bH (cf:Cf) (h:Hs) (c s j:Nat):Hs :=
 let t:={ h with m:=ax h.m (bF c s j) (List.replicate (cR c) 0) (cR c),st:=aJ h.st c s j 2,rq:=aJ h.rq c s j 0 }
 let d:Nat:=if cf.mix=0 then 0 else dr cf t cf.mix
 let i:=if cf.mix=0 then t else { t with used:=t.used+1 }
 let r:=eH cf.fifo (i.mx c) (i.ff c) ((s*aU c+j:Nat):Int) (d:Int)
 let u:={ i with mx:=er i.mx c r.1,ff:=er i.ff c r.2.1 }
 if r.2.2 = -1 then u else cV u c (r.2.2.toNat/aU c) (r.2.2.toNat%aU c)
def aZ (cf:Cf) (h:Hs) (r:Rg9):Hs :=
 let i:={ h with m:=bQ h.m (r.first+r.guards) r.pages,rg:=h.rg.map λx=>if x.base=r.base then { x with st:=2,rq:=0 } else x,row:=h.row++[r.base] }
 if cf.large<i.row.length then { i with rg:=i.rg.filter λx=>x.base≠i.row[0]?.getD 0,rel:=i.rel++[i.row[0]?.getD 0],row:=i.row.tail } else i
structure An4 where
 code:Int
 addr:Nat
 size:Nat
 data:List Int
def An4.no (c:Int):An4:=⟨c,0,0,[]⟩
def eM (cf:Cf) (h:Hs):Fd->Hs
 | .slot c s j=>bH cf h c s j
 | .range r=>aZ cf h r
 | .no _=>h
def cN (m:Nat->Option (Bool×List Int)) (p q n:Nat):Nat->Option (Bool×List Int):=ax m q (aI m p n) n
def cF (cf:Cf) (h:Hs) (p a:Nat):An4×Hs :=
 let t (old:Nat):An4×Hs :=
  match az cf h a with
  | (none,i)=>(.no 1,i)
  | (some q,i)=>let u:={ i with m:=cN i.m p q (min old a) }
   (⟨0,q,0,[]⟩,eM cf u (aP u p))
 if p=0 then
  match az cf h a with
  | (none,i)=>(.no 1,i)
  | (some q,i)=>(⟨0,q,0,[]⟩,i)
 else match aP h p with
  | .no code=>(.no code,h)
  | .slot c s j=>if sound cf h c s j=false then (.no 5,h)
   else if a<=1016/\gN a=c then (⟨0,p,0,[]⟩,{ h with rq:=aJ h.rq c s j a })
   else t (h.rq c s j).toNat
  | .range r=>if 1016<a/\aS a=r.pages then (⟨0,p,0,[]⟩,{ h with rg:=h.rg.map λx=>if x.base=r.base then { x with rq:=a } else x })
   else t r.rq.toNat
structure eL where
 kd:Int
 ref:Int
 p:Nat
 a:Nat
 b:Nat
 ys:List Int
def dP (cf:Cf) (h:Hs) (o:eL) (p:Nat):An4×Hs :=
 let i (n:Nat):An4×Hs:=match az cf h n with
  | (none,t)=>(.no 1,t)
  | (some q,t)=>(⟨0,q,0,[]⟩,t)
 if o.kd=0 then i o.a
 else if o.kd=1 then (if 18446744073709551616<=o.a*o.b then (.no 1,h) else i (o.a*o.b))
 else if o.kd=2 then cF cf h p o.a
 else if o.kd=3 then
  match aP h p with
  | .no code=>(.no code,h)
  | .slot c s j=>if sound cf h c s j=false then (.no 5,h) else (.no 0,bH cf h c s j)
  | .range r=>(.no 0,aZ cf h r)
 else if o.kd=4 then
  match aP h p with
  | .no code=>(.no code,h)
  | .slot c s j=>(⟨0,0,fy c,[]⟩,h)
  | .range r=>(⟨0,0,r.pages*1024,[]⟩,h)
 else if o.kd=5 then (if 4096<o.a then (.no 6,h) else (⟨cr h.m p (o.a:Int),0,0,if cr h.m p (o.a:Int)=0 then aI h.m p o.a else []⟩,h))
 else if o.kd=6 then (.no (cr h.m p (o.ys.length:Int)),{ h with m:=if cr h.m p (o.ys.length:Int)=0 then ax h.m p o.ys o.ys.length else h.m })
 else (.no 6,h)
def cW (cf:Cf) (h:Hs) (an:List An4) (o:eL):An4×Hs :=
 if o.ref=0 then dP cf h o o.p
 else if o.ref<0\/(an.length:Int)<o.ref then (.no 6,h)
 else dP cf h o ((o.p+((an[o.ref.toNat-1]?.map An4.addr).getD 0))%18446744073709551616)
def ch (cf:Cf):List eL->Hs->List An4->Hs×List An4
 | [],h,an=>(h,an)
 | o::r,h,an=>ch cf r (cW cf h an o).2 (an++[(cW cf h an o).1])
end
section
open Go.ChangeShapes Go.WideShapes Go.ChangeAt Go.RowKit
def Mx (w:World) (M r G:Nat) (mix:List Int):Prop:=w.heap[M]?=some (.cells #[Vl r mix.length mix.length,I (0:Nat),I mix.length,.iface 71 (J G 0)] 181)/\RowV w r 3 (Ns .i64 mix)
theorem Mx.but {S w w' M r G mix} (h:Mx w M r G mix) (a:But S w w') (b:¬S M) (c:¬S r):Mx w' M r G mix :=
 ⟨a.at h.1 b,h.2.but a c⟩
structure Qr (w:World) (M rm G rq n:Nat) (mix fifo:List Int):Prop where
 mx:Mx w M rm G mix
 qu:Qu w G rq n fifo
 ne:rm≠rq
theorem Qr.sep {M rm rq} (h:Qr w M rm G rq n mix fifo):M≠G/\M≠rq/\M≠rm/\G≠rm/\G≠rq:=by
 obtain⟨⟨a,b⟩,⟨ps,o,f,c,d,_⟩,e⟩:=h;refine⟨?_,d.ne a al,b.ne a al,b.ne c al,d.ne c al⟩;rintro rfl;rw [a] at c;simp at c
theorem Qr.but {S w w' M rm G rq n mix fifo} (h:Qr w M rm G rq n mix fifo) (a:But S w w') (b:¬S M) (c:¬S rm) (d:¬S G) (e:¬S rq):Qr w' M rm G rq n mix fifo :=
 ⟨h.mx.but a b c,h.qu.but a d e,h.ne⟩
def Qs (i G rq:Nat):Nat->Prop:=λk=>k=i\/k=G\/k=rq
theorem G8 (M rm G rq n mix fifo x d w) (h:Qr w M rm G rq n mix fifo) (l:mix≠[]) (i:mix.length<=1024) (m:n<=1024) :
  Calls prog 283 #[J M 0,I x,I d] w λe a=>∃ z,e=.returned (I z)/\z=(eH n mix fifo x d).2.2/\Qr a M rm G rq n (eH n mix fifo x d).1 (eH n mix fifo x d).2.1/\But (Qs rm G rq) w a:=by
 have r:0<mix.length:=List.length_pos_iff.2 l;obtain⟨t,u,s,o,B⟩:=h.sep;have b:(mix.set (md d mix.length) x).length=mix.length:=bh;by_cases j:mix[md d mix.length]?.getD 0 = -1;·refine (sS M G rm mix.length _ mix x d w h.mx.1 h.mx.2 rfl r i rfl j).mono ?_;rintro e a ⟨rfl,p,c⟩;unfold eH;rw [tg l,tm j];have f:But (Qs rm G rq) w a:=.ofGrown c (.inl rfl);refine⟨_,rfl,rfl,⟨⟨?_,p⟩,h.qu.but (But.ofGrown (S:=λk=>k=rm) c rfl) o (λe=>h.ne e.symm),h.ne⟩,f⟩;rw [b];exact fa c h.mx.1 s
 refine (zO M G rm mix.length _ mix x d w h.mx.1 h.mx.2 rfl r i rfl _ rfl j (λv a=>v=I (eH n mix fifo x d).2.2/\Qr a M rm G rq n (eH n mix fifo x d).1 (eH n mix fifo x d).2.1/\But (Qs rm G rq) w a) (λv p c=>?_)).mono ?_
 ·have y:=h.qu.but (But.ofGrown (S:=λk=>k=rm) c rfl) o (λe=>h.ne e.symm);refine (Do G rq n fifo _ d v y m).mono ?_;rintro e a ⟨rfl,A,q⟩;refine⟨_,rfl,?_,?_,?_⟩;·unfold eH;rw [tg l,tg j]
  ·unfold eH;rw [tg l,tg j];refine⟨⟨?_,p.but q (λf=>f.elim (λe=>o e.symm) (λe=>h.ne e))⟩,A,h.ne⟩;rw [b];exact q.at (fa c h.mx.1 s) (λf=>f.elim (λe=>t e) (λe=>u e))
  exact (But.ofGrown c (.inl rfl)).trans (q.mono (λg f=>f.elim (λe=>.inr (.inl e)) (λe=>.inr (.inr e))))
 rintro e a ⟨z,rfl,q,f,y⟩;simp at q;exact⟨z,rfl,q,f,y⟩
def qv (M G:Nat) (mix:List Int):Value:=.agg #[J M 0,J G 0,if mix.length=0 then .iface 71 (J G 0) else .iface 70 (J M 0)]
theorem mQ (w:World) (A B:Obj):(((w.alloc A).alloc B).heap[w.heap.size]?=some A)/\(((w.alloc A).alloc B).heap[w.heap.size+1]?=some B)/\D w ((w.alloc A).alloc B):=by
 have b:=dI w A;have a:=dI (w.alloc A) B;rw [df] at a;exact⟨lZ b B,a,((Jn _ w).alloc (Jo _) A).alloc (by rw [df];omega) B⟩
theorem ae {w'} {o:Obj} (h:w.heap[g]?=some o) (a:D w w'):w'.heap[g]?=some o:=by
 rw [a.block g (dO h)];exact h
theorem yR {A B:Obj} (c:W.heap[g]?=some A) (b:W.heap[k]?=some B) (a:A≠B):g≠k:=by
 rintro rfl;rw [c] at b;cases b;exact a rfl
theorem A4 (am lm cm af lf cf) (n:Nat) (mix fifo w) (h:Wt w am lm af lf mix fifo) (hm:lm<=16) (hn:1<=n/\n<=32) (B:lf<=n) :
  Calls prog 48 #[wv am lm cm af lf cf (n:Nat)] w λe F=>∃ M a G c,e=.returned (qv M G mix)/\Qr F M a G c n mix fifo/\(w.heap.size<=M/\w.heap.size<=a/\w.heap.size<=G/\w.heap.size<=c)/\D w F:=by
 unfold wv;have b:=H (mQ w (.cells #[.slice am lm cm,.slice af lf cf,I n] 104) (.cells #[.pointer none,.pointer none,.nilIface] 75));have i:=H (mz n lf cf af fifo _ h.fl B Z (h.f.below b.2.2));have x:=H (λW (d:D w W)=>mz lm lm cm am mix W h.ml (Jo _) Z (h.m.below d));have r:=H h.ml;have K:=H h.fl;clear h;go_enter func48,ntmps48;go_wp2_with fail;refine (i).mono ?_;rintro e j ⟨c,rfl,f,l,d⟩;have m:=H (aB b.2.2 d);have s:=H (ae b.1 d);have y:=H (ae b.2.1 d);have q:=H f;have L:=H (show w.heap.size<=c/\c<j.heap.size from ⟨by have:=b.2.2.size;omega,f.lt⟩);clear d f l i b;have d:=H ((Jn _ j).alloc (Jo _) (.cells #[Vl c n n,I 0,I lf] 179));have M:(j.alloc (.cells #[Vl c n n,I 0,I lf] 179)).cell? ⟨w.heap.size,0,none⟩=some (.slice am lm cm):=by rw [t6 _ _ _ _ _ _ (ae s.out d.out)];rfl
 go_wp2_with fail;refine (x _ (aB m d)).mono ?_;rintro e b ⟨a,rfl,z,t,l⟩;clear M;have L1:=m.size;have N:=H (ae (dI j (.cells #[Vl c n n,I 0,I lf] 179)) l);have f:=H ((q.below d q.lt).below l (Ju q.lt d.size));have u:=H (aB (aB m d) l);have O:=H (ae (ae s d) l);have P:=H (ae (ae y d) l);have o:=H (show a≠c by have:=L.2;rw [df] at t;omega);have p:=H (show w.heap.size<=a by rw [df] at t;omega);have v:=H z;have Q:=H (show w.heap.size<=j.heap.size by have:=m.size;omega);generalize j.heap.size=G at *;have i:=H ((Jn _ b).alloc (Jo _) (.cells #[Vl a lm lm,I 0,I lm,.iface 71 (J G 0)] 181));clear s y l z t m d q x;have R:=H (ae O i);have d:=H (ae P i);have m:=H (dI b (.cells #[Vl a lm lm,I 0,I lm,.iface 71 (J G 0)] 181));have q:=H (ae N i);have s:=H (f.below i f.lt);have t:=H (v.below i v.lt);have x:=H (aB u i);have S:=H u.size;have M:(b.alloc (.cells #[Vl a lm lm,I 0,I lm,.iface 71 (J G 0)] 181)).cell? ⟨w.heap.size,0,none⟩=some (.slice am lm cm):=aM R.out;have d0:(b.alloc (.cells #[Vl a lm lm,I 0,I lm,.iface 71 (J G 0)] 181)).cell? ⟨w.heap.size+1,0,none⟩=some (.pointer none):=aM d.out;have d1:(b.alloc (.cells #[Vl a lm lm,I 0,I lm,.iface 71 (J G 0)] 181)).cell? ⟨w.heap.size+1,1,none⟩=some (.pointer none):=aM d.out;have d2:(b.alloc (.cells #[Vl a lm lm,I 0,I lm,.iface 71 (J G 0)] 181)).cell? ⟨w.heap.size+1,2,none⟩=some .nilIface:=aM d.out;have f0:(b.alloc (.cells #[Vl a lm lm,I 0,I lm,.iface 71 (J G 0)] 181)).frozen? ⟨w.heap.size+1,0,none⟩=false:=xg _ _ _ _ _ d.out;have f1:(b.alloc (.cells #[Vl a lm lm,I 0,I lm,.iface 71 (J G 0)] 181)).frozen? ⟨w.heap.size+1,1,none⟩=false:=xg _ _ _ _ _ d.out;have f2:(b.alloc (.cells #[Vl a lm lm,I 0,I lm,.iface 71 (J G 0)] 181)).frozen? ⟨w.heap.size+1,2,none⟩=false:=xg _ _ _ _ _ d.out;have FIN:=H (show ∀ y z A:Value,∀ W',W'=(((b.alloc (.cells #[Vl a lm lm,I 0,I lm,.iface 71 (J G 0)] 181)).setCell ⟨w.heap.size+1,0,none⟩ y).setCell ⟨w.heap.size+1,1,none⟩ z).setCell ⟨w.heap.size+1,2,none⟩ A->Qr W' b.heap.size a G c n mix fifo/\(w.heap.size<=b.heap.size/\w.heap.size<=a/\w.heap.size<=G/\w.heap.size<=c)/\D w W' from ?FIN);case FIN =>
  rintro y z A W' rfl;have T:But (λk=>k=w.heap.size+1) (b.alloc (.cells #[Vl a lm lm,I 0,I lm,.iface 71 (J G 0)] 181)) ((((b.alloc (.cells #[Vl a lm lm,I 0,I lm,.iface 71 (J G 0)] 181)).setCell ⟨w.heap.size+1,0,none⟩ y).setCell ⟨w.heap.size+1,1,none⟩ z).setCell ⟨w.heap.size+1,2,none⟩ A):=(((But.refl (λk=>k=w.heap.size+1) (b.alloc (.cells #[Vl a lm lm,I 0,I lm,.iface 71 (J G 0)] 181))).set _ _ _ rfl).set _ _ _ rfl).set _ _ _ rfl;have V:Qr (b.alloc (.cells #[Vl a lm lm,I 0,I lm,.iface 71 (J G 0)] 181)) b.heap.size a G c n mix fifo:=by
   refine⟨⟨by rw [r.out];exact m,?_⟩,⟨_,0,lf,q,s,?_,?_,B,λ_=>rfl,?_⟩,o⟩
   ·have:=t.out;rwa [Nat.sub_self,List.replicate_zero,J3] at this
   ·rw [Jv,JS,K.out];omega
   ·omega
   rw [Lk,List.take_zero,J3,<-K.out,Le (Jo _),zM]
  have l:=d.out;have X:=yR m l bh;have Y:a≠w.heap.size+1:=(t.ne l al).symm;have n3:=yR q l bh;have n4:c≠w.heap.size+1:=(s.ne l al).symm;exact⟨V.but T X Y n3 n4,⟨S,p,Q,L.1⟩,x.trans (T.below x.size (λg e=>Z))⟩
 clear R m q s t x S N f p Q v i u O P o;by_cases f:lm=0
 ·have i:qv b.heap.size G mix=.agg #[J b.heap.size 0,J G 0,.iface 71 (J G 0)]:=by unfold qv;rw [r.out,tm f]
  have l:=H i;have m:((lm:Int)==0)=true:=by simp [f]
  clear i f;go_wp2;refine wA (p7 dC _ _ (w.heap.size+1) 75 _ (0,0) _ dC (set3 d _ _ _) underlying75 rfl E) dC ?_;exact⟨b.heap.size,a,G,c,by rw [l.out],FIN _ _ _ _ rfl⟩
 have i:qv b.heap.size G mix=.agg #[J b.heap.size 0,J G 0,.iface 70 (J b.heap.size 0)]:=by unfold qv;rw [r.out,tg f]
 have l:=H i;have m:((lm:Int)==0)=false:=cd;clear i f;go_wp2;refine wA (p7 dC _ _ (w.heap.size+1) 75 _ (0,0) _ dC (set3 d _ _ _) underlying75 rfl E) dC ?_;exact⟨b.heap.size,a,G,c,by rw [l.out],FIN _ _ _ _ rfl⟩
theorem iA {P:Program} {f:Func} {p q:Tmp} {b:TypeId} (h:f.results=#[.cell p b,.tmp q]) (a:Array Value) (w:World) (g) (t:TypeId) (c:Array Value) (i:Nat×Nat) (d:TypeDesc) (j:a.getD p undef=J g 0) (k:w.heap[g]?=some (.cells c t i)) (l:P.underlying b=some d) (m:(match d with | .struct _ | .array _ _=>true|_=>false)=true) (n:(P.info? b).map (·.size)=some c.size) :
  (results f a).run P w=.ok (.tuple #[.agg c,a.getD q undef]) w:=by
 have e:a[p]?.getD undef=J g 0:=by simpa using j
 simp [results,h,e,asAddr,run_loadVar_row w g t b c i d k l m n]
theorem Qr.below {w' M rm rq} (h:Qr w M rm G rq n mix fifo) (a:D w w'):Qr w' M rm G rq n mix fifo :=
 h.but (But.ofBelow (S:=λ_=>False) a) id id id id
theorem Gs (M rm G rq n fifo x d w) (h:Qr w M rm G rq n [] fifo) (b:n<=1024) :
  Calls prog 285 #[J G 0,I x,I d] w λe c=>∃ z,e=.returned (I z)/\z=(eH n [] fifo x d).2.2/\Qr c M rm G rq n (eH n [] fifo x d).1 (eH n [] fifo x d).2.1/\But (Qs rm G rq) w c:=by
 obtain⟨i,j,o,k,p⟩:=h.sep;refine (Do G rq n fifo x d w h.qu b).mono ?_;rintro e c ⟨rfl,l,f⟩;have m:eH n [] fifo x d=([],(dx n fifo x).1,(dx n fifo x).2):=by unfold eH;rw [tm rfl]
 rw [m];exact⟨_,rfl,rfl,⟨h.mx.but f (λa=>a.elim (λe=>i e) (λe=>j e)) (λa=>a.elim (λe=>k e.symm) (λe=>h.ne e)),l,h.ne⟩,f.mono (λg a=>a.elim (λe=>.inr (.inl e)) (λe=>.inr (.inr e)))⟩
theorem uZ (h:fg mix fifo (n:Nat)=true):mix.length<=16/\1<=n/\n<=32/\fifo.length<=n:=by
 unfold fg at h;simp only [JY,EN] at h;omega
theorem Eg (M rm G rq n mix fifo x d w) (h:Qr w M rm G rq n mix fifo) (a:n<=1024) (c:mix.length=0) :
  Calls prog 285 #[J G 0,I x,I d] w λe b=>∃ z,e=.returned (I z)/\z=(eH n mix fifo x d).2.2/\Qr b M rm G rq n (eH n mix fifo x d).1 (eH n mix fifo x d).2.1/\But (Qs rm G rq) w b:=by
 obtain rfl:=List.length_eq_zero_iff.1 c;exact Gs M rm G rq n fifo x d w h a
end
section
open Go.RowKit
structure Ky (S:TypeId->Prop) (W W':World):Prop where
 os:W'.os=W.os
 tape:W'.tape=W.tape
 output:W'.output=W.output
 size:W.heap.size<=W'.heap.size
 cells:∀ (g:Nat) (c:Array Value) (t:TypeId) (f:Nat×Nat),W.heap[g]?=some (.cells c t f)->¬S t->W'.heap[g]?=some (.cells c t f)
theorem Ky.below (h:D W W'):Ky S W W':=⟨h.os,h.tape,h.output,h.size,λg c t f a _=>by rw [h.block g (ah a)];exact a⟩
theorem Ky.refl (S W):Ky S W W:=Ky.below (Jn _ _)
theorem Ky.trans {S a b c} (h:Ky S a b) (k:Ky S b c):Ky S a c:=⟨k.os.trans h.os,k.tape.trans h.tape,k.output.trans h.output,Jp h.size k.size,λg d t f i e=>k.cells g d t f (h.cells g d t f i e) e⟩
theorem Ky.more {a:TypeId->Prop} (h:Ky S W W') (b:∀ t,S t->a t):Ky a W W':=⟨h.os,h.tape,h.output,h.size,λg c t f d i=>h.cells g c t f d (λe=>i (b t e))⟩
theorem Ky.grown {P:Nat} {c:Array Value} {t:TypeId} {f:Nat×Nat} (d:W.heap[P]?=some (.cells c t f)) (i:S t) (b:W.grownBy W' (some P)):Ky S W W':=by
 refine⟨b.os,b.tape,b.output,b.size,λg k l m a j=>?_⟩;rw [b.block g (ah a) (λe=>?_)];·exact a
 simp at e;subst e;rw [d] at a;simp at a;exact j (a.2.1▸i)
theorem Sx.ky {T bud m} (h:Sx T Q n bud m W) (k:Ky S W W') (e:¬S 162) (f:¬S 164) (j:¬S 5):Sx T Q n bud m W':=by
 obtain⟨c,o,p,r,a⟩:=h.row;refine⟨k.cells _ _ _ _ h.box e,⟨c,k.cells _ _ _ _ o f,p,λi s=>?_,a⟩,h.out⟩;have b:=r i s;cases d:m i with
 | none=>rw [d] at b;exact b
 | some q =>
  obtain⟨l,xs⟩:=q;rw [d] at b;obtain⟨t,u,v,g,w,x⟩:=b;exact⟨t,u,v,g,w,k.cells _ _ _ _ x j⟩
theorem ai {v:Value} (h:W.ownsRow B e sz v n xs) (k:Ky S W W') (d:¬S e):W'.ownsRow B e sz v n xs:=by
 refine⟨h.1,?_⟩;rcases h.2 with a|⟨g,b,c,f,a,i,j⟩;·exact .inl a
 exact .inr ⟨g,b,c,f,a,k.cells _ _ _ _ i d,j⟩
theorem cZ (h:RowV W g e xs) (k:Ky S W W') (a:¬S e):RowV W' g e xs:=by
 obtain⟨c,b,d⟩:=h;exact⟨c,k.cells _ _ _ _ b a,d⟩
theorem Sl.ky {a zs} (h:Sl W a zs) (k:Ky S W W') (b:¬S 3):Sl W' a zs:=by
 rcases h with h|⟨g,e,c⟩;·exact .inl h
 exact .inr ⟨g,e,cZ c k b⟩
def Wq (W:World) (v:Value) (i:List Int):Prop:=∃ (a:Option Addr) (cap:Nat),v=.slice a i.length cap/\(a=none->cap=0)/\Sl W a i
theorem Wq.ky {S W W' v zs} (h:Wq W v zs) (k:Ky S W W') (c:¬S 3):Wq W' v zs:=by
 obtain⟨a,b,d,e,f⟩:=h;exact⟨a,b,d,e,f.ky k c⟩
structure Sm where
 P:Nat
 T:Nat
 Q:Nat
 G:Nat
 gc:Nat
 da:Option Addr
 dc:Nat
 wv:Value
 rv:Value
 ov:Value
 lv:Value
 mv:Nat->Value
 fv:Nat->Value
def Us (i:List Nat):List Value:=i.map λ(n:Nat)=>Value.int .u64 (n:Int)
def jK (h:Hs):List Value:=dM.flatMap λt=>[I t.1,I t.2.1,I t.2.2,U (bF t.1 t.2.1 t.2.2:Nat),I (h.st t.1 t.2.1 t.2.2),I (h.rq t.1 t.2.1 t.2.2)]
def pb (cf:Cf) (x:Sm):List Value:=(List.range 12).flatMap λc=>[x.mv c,x.fv c,I cf.fifo]
def ft (rg:List Rg9):List Value:=rg.flatMap λr=>[U r.base,I r.first,I r.ext,I r.pages,I r.st,I r.rq]
def gx (cf:Cf) (x:Sm) (used:Nat):Array Value:=#[I cf.mix,I cf.fifo,I cf.large,I cf.bud,U cf.key,.slice x.da cf.ds.length x.dc,J x.T 0,Vl x.G 1062 x.gc,x.wv,x.rv,x.ov,x.lv,I used]
structure Sh (B:Nat) (x:Sm) (cf:Cf) (h:Hs) (W:World):Prop where
 box:W.heap[x.P]?=some (.cells (gx cf x h.used) 97)
 bp:B<=x.P
 bq:B<=x.Q
 bg:∀ g,fm x.Q W g->B<=g
 ds:Sl W x.da cf.ds
 sp:Sx x.T x.Q 283 (cf.bud:Nat) h.m W
 sl:W.ownsRow B 100 6 (Vl x.G 1062 x.gc) 1062 (jK h)
 wt:W.ownsRow B 104 3 x.wv 12 (pb cf x)
 wm:∀ c,c<12->Wq W (x.mv c) (h.mx c)/\Wq W (x.fv c) (h.ff c)
 rg:W.ownsRow B 106 6 x.rv h.rg.length (ft h.rg)
 ro:W.ownsRow B 22 1 x.ov h.row.length (Us h.row)
 rl:W.ownsRow B 22 1 x.lv h.rel.length (Us h.rel)
theorem di (h:W'.heap[Q]?=W.heap[Q]?) (b:fm Q W' g):fm Q W g:=by
 obtain⟨k,a⟩:=b;refine⟨k,?_⟩;unfold World.cell? at a ⊢;rw [h] at a;exact a
theorem Sx.qEq {T bud m} (h:Sx T Q n bud m W) (k:Ky S W W') (b:¬S 164):W'.heap[Q]?=W.heap[Q]?:=by
 obtain⟨c,a,_⟩:=h.row;rw [k.cells _ _ _ _ a b,a]
theorem Sh.boxed {x cf h} (a:Sh B x cf h W) (k:Ky (· = 97) W W') (u) (d:W'.heap[x.P]?=some (.cells (gx cf x u) 97)):Sh B x cf { h with used:=u } W' :=
 ⟨d,a.bp,a.bq,λg e=>a.bg g (di (a.sp.qEq k al) e),a.ds.ky k al,a.sp.ky k al al al,ai a.sl k al,ai a.wt k al,λc b=>⟨(a.wm c b).1.ky k al,(a.wm c b).2.ky k al⟩,ai a.rg k al,ai a.ro k al,ai a.rl k al⟩
theorem Sh.below {B x cf h W W'} (a:Sh B x cf h W) (b:D W W'):Sh B x cf h W':=by
 have k:Ky (λ_=>False) W W':=Ky.below b;exact⟨k.cells _ _ _ _ a.box (λe=>e),a.bp,a.bq,λg f=>a.bg g (di (a.sp.qEq k (λe=>e)) f),a.ds.ky k (λe=>e),a.sp.below b,ai a.sl k (λe=>e),ai a.wt k (λe=>e),λc d=>⟨(a.wm c d).1.ky k (λe=>e),(a.wm c d).2.ky k (λe=>e)⟩,ai a.rg k (λe=>e),ai a.ro k (λe=>e),ai a.rl k (λe=>e)⟩
theorem Sh.cell {B x cf h W} (a:Sh B x cf h W) (i:Nat) (v:Value) (b:(gx cf x h.used)[i]?=some v):W.cell? ⟨x.P,i,none⟩=some v:=by
 simp [World.cell?,a.box,b]
theorem eY {α:Type} (f:α->List Value) (n:Nat) (b:∀ a,(f a).length=n):∀ (l:List α) (i:Nat) (a:α),l[i]?=some a->∀ r,r<n->(l.flatMap f)[i*n+r]?=(f a)[r]?
 | [],i,a,h=>by simp at h
 | x::l,0,a,h=>λr c=>by
  simp at h
  subst h
  rw [Kw,Nat.zero_mul,JQ,Kh (by rw [b];exact c)]
 | x::l,i+1,a,h=>λr c=>by
  simp at h
  have d:(i+1)*n=i*n+n:=by rw [J4,Ki]
  rw [Kw,List.getElem?_append_right (by rw [b];omega),b,show (i+1)*n+r-n=i*n+r by omega]
  exact eY f n b l i a h r c
theorem be {cap} (h:W.ownsRow B e sz (Vl G n cap) n xs) (i:Nat) (v:Value) (a:xs[i]?=some v):W.cell? ⟨G,i,none⟩=some v:=by
 rcases h.2 with ⟨e,_⟩|⟨g,b,c,e,k,d,l,m,o,f⟩;·simp at e
 simp at e;obtain⟨rfl,rfl⟩:=e;have j:=(Jr.1 a).1;rw [<-f,Ce (by rw [<-h.1];exact j),J_] at a;simp [World.cell?,d,a]
theorem gn:dM.length=1062:=by decide +kernel
def sA (k:Nat):Nat×Nat×Nat:=(dM[k]?).getD (0,0,0)
theorem hH (h:k<1062):dM[k]?=some (sA k):=by
 unfold sA;rw [Jq (by rw [gn];exact h)];rfl
def dH (h:Hs) (k:Nat):Int:=h.st (sA k).1 (sA k).2.1 (sA k).2.2
def f_ (h:Hs) (k:Nat):Int:=h.rq (sA k).1 (sA k).2.1 (sA k).2.2
def gJ (k:Nat):Nat:=bF (sA k).1 (sA k).2.1 (sA k).2.2
theorem Sh.slot {x cf h} (b:Sh B x cf h W) (c:k<1062):W.cell? ⟨x.G,k*6,none⟩=some (I ((sA k).1:Nat))/\W.cell? ⟨x.G,k*6+1,none⟩=some (I ((sA k).2.1:Nat))/\W.cell? ⟨x.G,k*6+2,none⟩=some (I ((sA k).2.2:Nat))/\W.cell? ⟨x.G,k*6+3,none⟩=some (U (gJ k:Nat))/\W.cell? ⟨x.G,k*6+4,none⟩=some (I (dH h k))/\W.cell? ⟨x.G,k*6+5,none⟩=some (I (f_ h k)):=by
 have a:=eY (λt:Nat×Nat×Nat=>[I t.1,I t.2.1,I t.2.2,U (bF t.1 t.2.1 t.2.2:Nat),I (h.st t.1 t.2.1 t.2.2),I (h.rq t.1 t.2.1 t.2.2)]) 6 (λ_=>rfl) dM k (sA k) (hH c);have g:=λr v (d:r<6) e=>be b.sl (k*6+r) v ((a r d).trans e)
 exact⟨g 0 _ Z rfl,g 1 _ Z rfl,g 2 _ Z rfl,g 3 _ Z rfl,g 4 _ Z rfl,g 5 _ Z rfl⟩
def jE (h:Hs) (c s:Nat) (i:List Int) (n:Nat):List Nat:=(List.range n).filter λk=>(sA k).1==c&&((sA k).2.1==s&&i.contains (dH h k))
theorem yg (h c s sts) (n:Nat):jE h c s sts (n+1)=jE h c s sts n++(if ((sA n).1==c&&((sA n).2.1==s&&sts.contains (dH h n)))=true then [n] else []):=by
 unfold jE;rw [J7,FV];congr 1;simp only [List.filter_cons,List.filter_nil]
theorem Ci (h c s sts n):(jE h c s sts n).length<=n:=by
 unfold jE;have:=A1 (λk=>(sA k).1==c&&((sA k).2.1==s&&sts.contains (dH h k))) (List.range n);simpa using this
theorem js {P:Nat->Bool} : ∀ {n k:Nat},k<n->(∀ j,j<k->P j=false)->P k=true->(List.range n).find? P=some k:=by
 intro n k a b c;rw [KX];exact⟨c,by simpa using a,λj d=>by simp [b j d]⟩
theorem kK {P:Nat->Bool} (a:∀ j,j<n->P j=false):(List.range n).find? P=none:=by
 rw [List.find?_range_eq_none];intro j b;simp [a j b]
def rC (r:Rg9):List Value:=[U r.base,I r.first,I r.ext,I r.pages,I r.st,I r.rq]
theorem aG {a:Nat} {b:Nat} {v:Value} (h:W.ownsRow a e b v n xs):∃ a c,v=.slice a n c:=by
 rcases h.2 with ⟨rfl,c⟩|⟨g,d,f,rfl,_⟩;·subst c;exact⟨_,_,rfl⟩
 exact⟨_,_,rfl⟩
theorem cw {a:Option Addr} {b:Nat} (h:W.ownsRow B e sz (.slice a n b) n xs) (f:0<n):∃ G,a=some ⟨G,0,none⟩:=by
 rcases h.2 with ⟨_,i⟩|⟨g,c,d,e,_⟩;·omega
 simp at e;exact⟨g,e.1⟩
theorem Sh.range {B x cf h W} (d:Sh B x cf h W) {G cap} (e:x.rv=Vl G h.rg.length cap) {k:Nat} {r:Rg9} (f:h.rg[k]?=some r):W.cell? ⟨G,k*6,none⟩=some (U r.base)/\W.cell? ⟨G,k*6+1,none⟩=some (I r.first)/\W.cell? ⟨G,k*6+2,none⟩=some (I r.ext)/\W.cell? ⟨G,k*6+3,none⟩=some (I r.pages)/\W.cell? ⟨G,k*6+4,none⟩=some (I r.st)/\W.cell? ⟨G,k*6+5,none⟩=some (I r.rq):=by
 have a:=eY rC 6 (λ_=>rfl) h.rg k r f;have c:=d.rg;rw [e] at c;have g:=λi v (j:i<6) b=>be c (k*6+i) v ((a i j).trans b)
 exact⟨g 0 _ Z rfl,g 1 _ Z rfl,g 2 _ Z rfl,g 3 _ Z rfl,g 4 _ Z rfl,g 5 _ Z rfl⟩
def fS (p:Nat):Option Nat:=(List.range 1062).find? λk=>gJ k==p
def vI (h:Hs) (i:Nat):Rg9:=(h.rg[i]?).getD ⟨0,0,0,0,0⟩
def fR (h:Hs) (p:Nat):Option Nat:=(List.range h.rg.length).find? λi=>(vI h i).base==p
def ga (h:Hs) (p:Nat):Int×Int×Int :=
 match fS p with
 | some k=>if dH h k=1 then ((k:Int),-1,0) else if dH h k=0 then (-1,-1,3) else (-1,-1,4)
 | none=>match fR h p with
  | some i=>if (vI h i).st=1 then (-1,(i:Int),0) else (-1,-1,4)
  | none=>if h.rel.contains p then (-1,-1,4) else (-1,-1,3)
theorem dv {P:Program} {b:Func} {p q r:Tmp} (h:b.results=#[.tmp p,.tmp q,.tmp r]) (a:Array Value) (w:World):(results b a).run P w=.ok (.tuple #[a.getD p undef,a.getD q undef,a.getD r undef]) w:=by
 simp [results,h]
def FN (t:Int×Int×Int):Value:=.tuple #[I t.1,I t.2.1,I t.2.2]
theorem mf (B x cf h) (p:Nat) (W) (a:Sh B x cf h W) (hn:h.rg.length<=1000) (hl:h.rel.length<=100000) :
  Calls prog 93 #[J x.P 0,U p] W λe W'=>e=.returned (FN (ga h p))/\D W W':=by
 have c7:W.cell? ⟨x.P,7,none⟩=some (Vl x.G 1062 x.gc):=a.cell 7 _ rfl;have g:=H a;clear a;go_enter func93,ntmps93;go_wp2;go_loopw [18] (λi wr=>∃ k:Nat,k<=1062/\i=I k/\Hid (∀ j,j<k->(gJ j==p)=false)/\Hid (D W wr)) (λi _=>1062-(intOf i).toNat);case atStart=>exact ⟨0,Jt _,rfl,H (λj y=>Z),H (Jn _ _)⟩
 case round =>
  obtain⟨k,hk,rfl,O,u⟩:=hrel;by_cases A:k<1062
  ·obtain⟨V,d1,d2,P,d4,d5⟩:=(g.below u).slot A;have d:=H (u.alloc u.size (.cells #[I ((sA k).1:Nat),I ((sA k).2.1:Nat),I ((sA k).2.2:Nat),U (gJ k:Nat),I (dH h k),I (f_ h k)] 100));by_cases ha:gJ k=p
   ·have q:=H (show ga h p=if dH h k=1 then ((k:Int),-1,0) else if dH h k=0 then (-1,-1,3) else (-1,-1,4) by
     unfold ga fS;rw [js A O.out (by simp [ha])])
    generalize dH h k=z at *;generalize f_ h k=X at *;generalize (sA k).2.2=l at *;generalize (sA k).1=m at *;generalize (sA k).2.1=n at *;rw [ha] at P d;by_cases f:z=1;·have a:=H (q.trans (tm f));subst f;go_wp2;refine wA (dv dC _ _) dC ?_;rw [a.out];exact⟨rfl,d⟩
    have Q:(z==1)=false:=(by simpa using f);by_cases b:z=0;·have a:=H (q.trans ((tg f).trans (tm b)));subst b;go_wp2;refine wA (dv dC _ _) dC ?_;rw [a.out];exact⟨rfl,d⟩
    have c:(z==0)=false:=(by simpa using b);have a:=H (q.trans ((tg f).trans (tg b)));go_wp2;refine wA (dv dC _ _) dC ?_;rw [a.out];exact⟨rfl,d⟩
   have R:=H (show ∀ j,j<k+1->(gJ j==p)=false from λj y=>by
    by_cases e:j=k;·subst e;simpa using ha
    exact O j Z)
   have s:(((gJ k:Nat):Int) != (p:Int))=true:=cd;generalize gJ k=b at P s d;go_wp2;go_roundw;(case rel=>exact ⟨k+1,Z,aR,R,d⟩);case measure=>simp [intOf];omega
  obtain rfl:k=1062:=Z;have q:=H (show fS p=none from kK O);obtain⟨ra,rc,b⟩:=aG g.rg;have M:W.cell? ⟨x.P,9,none⟩=some (.slice ra h.rg.length rc):=by rw [<-b];exact g.cell 9 _ rfl
  replace M:=ol u M;obtain⟨v,c⟩:∃ v,h.rg.length=v:=⟨_,rfl⟩;rw [c] at M hn;have l:=H c;have F:=H b;clear c b c7;go_wp2;go_loopw [40] (λi S=>∃ k:Nat,k<=v/\i=I k/\Hid (∀ j,j<k->((vI h j).base==p)=false)/\Hid (D W S)) (λi _=>v-(intOf i).toNat);case atStart=>exact ⟨0,Jt _,rfl,H (λj y=>Z),u⟩
  case round =>
   obtain⟨k,a0,rfl,T,c⟩:=hrel;clear u M;by_cases o:k<v
   ·obtain⟨r,n⟩:∃ r,h.rg[k]?=some r:=⟨_,Jq (by rw [l.out];exact o)⟩;have b:vI h k=r:=(by unfold vI;rw [n];rfl);obtain⟨G,rfl⟩:=cw (F.out▸g.rg) (by rw [l.out];omega);obtain⟨V,d1,d2,P,d4,d5⟩:=(g.below c).range F n;have d:=H (c.alloc c.size (.cells #[U r.base,I r.first,I r.ext,I r.pages,I r.st,I r.rq] 106));by_cases ha:r.base=p
    ·have m:=H (show ga h p=if r.st=1 then (-1,(k:Int),0) else (-1,-1,4) by
      unfold ga;rw [q.out];dsimp only;unfold fR;rw [js (by rw [l.out];exact o) T.out (by rw [b];simp [ha])];dsimp only;rw [b])
     generalize r.st=z at *;generalize r.rq=X at *;generalize r.ext=t at *;generalize r.base=w at *;subst ha;by_cases f:z=1;·have a:=H (m.trans (tm f));subst f;go_wp2;refine wA (dv dC _ _) dC ?_;rw [a.out];exact⟨rfl,d⟩
     have a:=H (m.trans (tg f));have Q:(z==1)=false:=(by simpa using f);go_wp2;refine wA (dv dC _ _) dC ?_;rw [a.out];exact⟨rfl,d⟩
    have R:=H (show ∀ j,j<k+1->((vI h j).base==p)=false from λj y=>by
     by_cases e:j=k;·subst e;rw [b];simpa using ha
     exact T j Z)
    have s:(((r.base:Nat):Int)==(p:Int))=false:=cd;generalize r.st=z at *;generalize r.rq=X at *;generalize r.ext=t at *;generalize r.base=w at *;go_wp2;go_roundw;(case rel=>exact ⟨k+1,Z,aR,R,d⟩);case measure=>simp [intOf];omega
   obtain rfl:k=v:=Z;have K:=H (show fR h p=none by unfold fR;rw [l.out];exact kK T);obtain⟨la,lc,b⟩:=aG g.rl;have m:W.cell? ⟨x.P,11,none⟩=some (.slice la h.rel.length lc):=(by rw [<-b];exact g.cell 11 _ rfl);replace m:=ol c m;have Y:=H b;clear b;obtain⟨w,b⟩:∃ w,h.rel.length=w:=⟨_,rfl⟩;rw [b] at m hl;have r:=H b;clear b;go_wp2;go_loopw [65] (λi S=>∃ k:Nat,k<=w/\i=I k/\Hid (∀ j,j<k->h.rel[j]?≠some p)/\Hid (D W S)) (λi _=>w-(intOf i).toNat);(case atStart=>exact ⟨0,Jt _,rfl,H (λj y=>Z),c⟩);case round =>
    obtain⟨k,a1,rfl,HN,n⟩:=hrel;clear c m;by_cases L:k<w
    ·obtain⟨b,N⟩:∃ b,h.rel[k]?=some b:=⟨_,Jq (by rw [r.out];exact L)⟩;obtain⟨G2,rfl⟩:=cw (Y.out▸g.rl) (by rw [r.out];omega);have V:=ol n (be (Y.out▸g.rl) k (U b) (by simp [Us,N]));by_cases ha:b=p
     ·have t:=H (show ga h p=(-1,-1,4) by
       unfold ga;rw [q.out];dsimp only;rw [K.out];dsimp only;rw [tm (by rw [List.contains_eq_mem,EN];exact ha▸JA N)])
      subst ha;go_wp2;refine wA (dv dC _ _) dC ?_;rw [t.out];exact⟨rfl,n⟩
     have s:(((b:Nat):Int)==(p:Int))=false:=cd;have F3:=H (show ∀ j,j<k+1->h.rel[j]?≠some p from λj y=>by
      by_cases e:j=k;·subst e;rw [N];simpa using ha
      exact HN j Z)
     clear N;go_wp2;go_roundw;(case rel=>exact ⟨k+1,Z,aR,F3,n⟩);case measure=>simp [intOf];omega
    obtain rfl:k=w:=Z;have t:=H (show ga h p=(-1,-1,3) by
     unfold ga;rw [q.out];dsimp only;rw [K.out];dsimp only;rw [tg (by
      rw [List.contains_eq_mem,EN];intro N;obtain⟨i,b⟩:=BR N;exact HN.out i (by rw [<-r.out];exact (Jr.1 b).1) b)])
    go_wp2;refine wA (dv dC _ _) dC ?_;rw [t.out];exact⟨rfl,n⟩
end
end Go.Proofs.YtdfodlhkdmkfdaaGreatDoor
