import Derived.Deep.RegionHeld
import Derived.Lib.SmallJoins
import Derived.Test.YtdngbppdomoenaaGreatDoorN06
import Derived.Test.YtdngbppdomoenaaGreatDoorN07
import Derived.Test.YtdngbppdomoenaaGreatDoorN08
set_option linter.unusedVariables false
set_option linter.unusedSimpArgs false
set_option maxRecDepth 20000
set_option maxHeartbeats 8000000
namespace Go.Proofs.YtdngbppdomoenaaGreatDoor
open Go.Proofs.Tryz
variable {S:TypeId->Prop} {B G Q R T X Y b c cap i k len n s:Nat} {bud:Int} {m:Nat->Option (Bool×List Int)} {W W' b0 w w0:World} {v:Value} {xs:List Value} {a:Option Addr} {e:TypeId}
section
open Go.RowKit Go.Shelf
theorem run_store (S M nn bud f m m' code p c) (a:Nat) (n) (d:Option Addr) (i j:Nat) (w) (h:Im S M 0 nn bud f w) (b:Pg f m w) (o:∀ V,Im S M 1 nn bud f V->Pg f m V->Fr S M f f w V->Calls prog 182 #[J S 0,U a,.slice d i j] V λe g=>e=.returned (I code)/\∃ k,Im S M 1 nn bud k g/\Pg k m' g/\Fr S M f k V g) :
  Calls prog 149 #[J S 0,j_ 5 p c a n d i j] w λe g=>e=.returned (.agg #[I code,C])/\IF S M nn bud f m' w g:=by
 have l:=H h;have q:=H b;have r:=H o;clear h b o;unfold j_;go_enter_defers func149,ntmps149;go_wp2_with fail;refine (gh ((l.alloc _).alloc _)).mono ?_;rintro e V ⟨rfl,s⟩;have b:=H (Dl.first l q #[I 5,I p,I c,U a,I n,.slice d i j]);rw [<-s] at b;clear s l q;generalize u:w.heap.size+1=z at b ⊢;generalize w.heap.size=O at b ⊢;have v:V.cell? ⟨O,0,none⟩=some (I 5):=by simp [World.cell?,b.o]
 have x:V.cell? ⟨O,3,none⟩=some (U a):=by simp [World.cell?,b.o]
 have y:V.cell? ⟨O,5,none⟩=some (.slice d i j):=by simp [World.cell?,b.o]
 go_wp2_with fail;refine (r V b.im b.pg b.fr).mono ?_;rintro e A ⟨rfl,k,l,q,s⟩;have t:=H (b.move l q s);clear l q s b r v x y;go_wp2_with (refine eF t.r ?_);have b:=t.done #[I code,C];refine Ig (f:=111) (args:=#[J S 0]) bF (by simp [go_sem]) ?_;refine (Go.MuLone.unlock_deferred jt ⟨S,0,none⟩ .returning _ b.1 b.2.1).mono ?_;rintro e q l ⟨rfl,rfl,rfl⟩;exact⟨_,AM b.2.2.1 underlying210,rfl,b.2.2.2⟩
theorem Dl.own {S M O Rb n f f' V op} (h:Dl w op S M n bud f f' m O Rb V) (b:V.ownsRow B 5 1 v k xs) (d:w.heap.size<=B) (c:Array Value):((V.setRow Rb c).setCell ⟨S,0,none⟩ (.int .i32 0)).ownsRow w.heap.size 5 1 v k xs:=by
 obtain⟨g,i,l⟩:=h.im.apartT h.pg h.r av av;have o:=h.im.setRow g i c;refine dx ?_ d;refine (b.kept (al V Rb c) (.inr λe=>?_)).kept (au (ar _ S) 0 _) (.inr λe=>?_);·obtain⟨j,a⟩:=mK b e;rw [h.r] at a;simp at a
 obtain⟨j,a⟩:=mK b e;rw [h.im.box] at a;simp at a
theorem run_load (S M nn bud f m code) (xs:List Int) (p c) (a:Nat) (n d dl dc w) (h:Im S M 0 nn bud f w) (b:Pg f m w) (j:∀ V,Im S M 1 nn bud f V->Pg f m V->Calls prog 181 #[J S 0,U a,I n] V λe g=>∃ v,e=.returned (.agg #[I code,v])/\g.ownsRow V.heap.size 5 1 v xs.length (Ns .u8 xs)/\Im S M 1 nn bud f g/\Pg f m g/\Fr S M f f V g) :
  Calls prog 149 #[J S 0,j_ 4 p c a n d dl dc] w λe g=>∃ v,e=.returned (.agg #[I code,v])/\g.ownsRow w.heap.size 5 1 v xs.length (Ns .u8 xs)/\IF S M nn bud f m w g:=by
 have i:=H h;have k:=H b;have l:=H j;clear h b j;unfold j_;go_enter_defers func149,ntmps149;go_wp2_with fail;refine (gh ((i.alloc _).alloc _)).mono ?_;rintro e V ⟨rfl,o⟩;have b:=H (Dl.first i k #[I 4,I p,I c,U a,I n,.slice d dl dc]);rw [<-o] at b;clear o i k;generalize t:w.heap.size+1=B at b ⊢;generalize u:w.heap.size=O at b ⊢;have x:V.cell? ⟨O,0,none⟩=some (I 4):=by simp [World.cell?,b.o]
 have y:V.cell? ⟨O,3,none⟩=some (U a):=by simp [World.cell?,b.o]
 have z:V.cell? ⟨O,4,none⟩=some (I n):=by simp [World.cell?,b.o]
 have A:=H b.fr.size;go_wp2_with fail;refine (l V b.im b.pg).mono ?_;rintro e F ⟨v,rfl,k,o,q,r⟩;have i:=H (b.move o q r);have s:=H k;clear o q r b l x y z k;go_wp2_with (refine FK rfl 210 _ _ rfl _ _ rfl rfl 210 _ i.r E rfl (zi s _) ?_);have b:=i.done #[I code,v];have k:=i.own s A #[I code,v];refine Ig (f:=111) (args:=#[J S 0]) bF (by simp [go_sem]) ?_;refine (Go.MuLone.unlock_deferred jt ⟨S,0,none⟩ .returning _ b.1 b.2.1).mono ?_;rintro e o l ⟨rfl,rfl,rfl⟩;exact⟨_,AM b.2.2.1 underlying210,v,rfl,k,b.2.2.2⟩
end
section
open Go.RowKit
def bX (c:Nat):Nat:=[16,32,48,64,96,128,192,256,384,512,768,1024].getD c 0
def dH (c:Nat):Nat:=[1,1,1,1,1,1,1,1,2,2,3,4].getD c 0
def aM (c:Nat):Nat:=[64,32,21,16,10,8,5,4,5,4,4,4].getD c 0
def fo (c:Nat):Nat:=bX c-8
def yI:Nat->Nat
 | 0=>1
 | c+1=>yI c+6*(dH c+1)
def aB (c s:Nat):Nat:=yI c+s*(dH c+1)
def aX (c s j:Nat):Nat:=aB c s*1024+j*bX c
def gx (a:Nat):Nat:=((List.range 12).find? λc=>a+8<=bX c).getD 12
def dG:List (Nat×Nat×Nat):=(List.range 12).flatMap λc=>(List.range 6).flatMap λs=>(List.range (aM c)).map λj=>(c,s,j)
structure Cf where
 mix:Nat
 fifo:Nat
 large:Nat
 bud:Nat
 key:Int
 ds:List Int
structure Rg9 where
 first:Nat
 guards:Nat
 pages:Nat
 st:Int
 rq:Int
def Rg9.base (r:Rg9):Nat:=(r.first+r.guards)*1024
def Rg9.ext (r:Rg9):Nat:=r.guards+r.pages+1
structure Hs where
 m:Nat->Option (Bool×List Int)
 st:Nat->Nat->Nat->Int
 rq:Nat->Nat->Nat->Int
 mx:Nat->List Int
 ff:Nat->List Int
 rg:List Rg9
 row:List Nat
 rel:List Nat
 used:Nat
def aS (cf:Cf):Hs:=⟨λ_=>none,λ_ _ _=>0,λ_ _ _=>0,λ_=>List.replicate cf.mix (-1),λ_=>[],[],[],[],0⟩
def aE (f:Nat->Nat->Nat->Int) (c s j:Nat) (v:Int):Nat->Nat->Nat->Int:=λl i e=>if l=c/\i=s/\e=j then v else f l i e
def ep (f:Nat->List Int) (c:Nat) (v:List Int):Nat->List Int:=λe=>if e=c then v else f e
def dr (cf:Cf) (h:Hs) (n:Nat):Nat:=((cf.ds[h.used]?.getD 0)%(n:Int)).toNat
def aZ (x:Int):Bool:=x==0 || x==3
def freeS (h:Hs) (c s:Nat):List Nat:=(List.range (aM c)).filter λj=>aZ (h.st c s j)
def dy (h:Hs) (c s:Nat):Bool:=(h.m (aB c s)).isSome
def kj (h:Hs) (c:Nat):Option Nat:=(List.range 6).find? λs=>dy h c s && !(freeS h c s).isEmpty
def qO (h:Hs) (c:Nat):Option Nat:=(List.range 6).find? λs => !dy h c s
def dm (cf:Cf) (h:Hs) (c:Nat):Option (Nat×Hs) :=
 match kj h c with
 | some s=>some (s,h)
 | none=>match qO h c with
  | none=>none
  | some s=>if cf.bud<bz h.m 283+dH c then none else some (s,{ h with m:=aU h.m (aB c s) (dH c) })
def clean (m:Nat->Option (Bool×List Int)) (a n:Nat):Bool:=(aI m a n).all (· == 0)
def cr (cf:Cf) (c:Nat):Nat->Hs->Option (Nat×Nat)×Hs
 | 0,h=>(none,h)
 | f+1,h=>match dm cf h c with
  | none=>(none,h)
  | some (s,e) =>
   let j:=(freeS e c s)[dr cf e (freeS e c s).length]?.getD 0
   if clean e.m (aX c s j) (bX c) then (some (s,j),{ e with used:=e.used+1 })
   else cr cf c f { e with used:=e.used+1,st:=aE e.st c s j 4 }
def can (cf:Cf) (a:Nat):List Int:=gH (cx cf.key (a:Int))
def aR (a:Nat):Nat:=a/1024+(if a%1024 > 0 then 1 else 0)
def eg (h:Hs) (n:Nat):Option Nat:=((List.range 97).find? λi=>decide (i+n<=96)&&h.rg.all λr=>decide (187+i+n<=r.first) || decide (r.first+r.ext<=187+i)).map (187 + ·)
def aA (cf:Cf) (h:Hs) (a:Nat):Option Nat×Hs :=
 if a<=1016 then
  match cr cf (gx a) 2000 h with
  | (none,e)=>(none,e)
  | (some (s,j),e)=>(some (aX (gx a) s j),{ e with st:=aE e.st (gx a) s j 1,rq:=aE e.rq (gx a) s j a,m:=ax e.m (aX (gx a) s j+fo (gx a)) (can cf (aX (gx a) s j)) 8 })
 else
  let g:=1+dr cf h 3
  let e:={ h with used:=h.used+1 }
  let p:=aR a
  if 96<p then (none,e) else
  match eg e (g+p+1) with
  | none=>(none,e)
  | some s=>if cf.bud<bz e.m 283+p then (none,e)
   else (some ((s+g)*1024),{ e with m:=aU e.m (s+g) p,rg:=e.rg++[⟨s,g,p,1,a⟩],rel:=e.rel.filter λb=>b/1024<s || s+(g+p+1)<=b/1024 })
inductive Fd where
 | slot (c s j:Nat)
 | range (r:Rg9)
 | no (code:Int)
def cH (p:Nat):Option (Nat×Nat×Nat):=dG.find? λt=>aX t.1 t.2.1 t.2.2==p
def aP (h:Hs) (p:Nat):Fd :=
 match cH p with
 | some (c,s,j)=>if h.st c s j=1 then .slot c s j else if h.st c s j=0 then .no 3 else .no 4
 | none=>match h.rg.find? λr=>r.base==p with
  | some r=>if r.st=1 then .range r else .no 4
  | none=>if h.rel.contains p then .no 4 else .no 3
def sound (cf:Cf) (h:Hs) (c s j:Nat):Bool:=aI h.m (aX c s j+fo c) 8==can cf (aX c s j)
def bO (h:Hs) (c s j:Nat):Hs :=
 let e:={ h with st:=aE h.st c s j 3 }
 if (freeS e c s).length=aM c then { e with m:=bI e.m (aB c s) (dH c) } else e
def aL (cf:Cf) (h:Hs) (c s j:Nat):Hs :=
 let i:={ h with m:=ax h.m (aX c s j) (List.replicate (bX c) 0) (bX c),st:=aE h.st c s j 2,rq:=aE h.rq c s j 0 }
 let d:Nat:=if cf.mix=0 then 0 else dr cf i cf.mix
 let e:=if cf.mix=0 then i else { i with used:=i.used+1 }
 let r:=er cf.fifo (e.mx c) (e.ff c) ((s*aM c+j:Nat):Int) (d:Int)
 let l:={ e with mx:=ep e.mx c r.1,ff:=ep e.ff c r.2.1 }
 if r.2.2 = -1 then l else bO l c (r.2.2.toNat/aM c) (r.2.2.toNat%aM c)
def aW (cf:Cf) (h:Hs) (r:Rg9):Hs :=
 let e:={ h with m:=bI h.m (r.first+r.guards) r.pages,rg:=h.rg.map λx=>if x.base=r.base then { x with st:=2,rq:=0 } else x,row:=h.row++[r.base] }
 if cf.large<e.row.length then { e with rg:=e.rg.filter λx=>x.base≠e.row[0]?.getD 0,rel:=e.rel++[e.row[0]?.getD 0],row:=e.row.tail } else e
structure An4 where
 code:Int
 addr:Nat
 size:Nat
 data:List Int
def An4.no (c:Int):An4:=⟨c,0,0,[]⟩
def eK (cf:Cf) (h:Hs):Fd->Hs
 | .slot c s j=>aL cf h c s j
 | .range r=>aW cf h r
 | .no _=>h
def cF (m:Nat->Option (Bool×List Int)) (p q n:Nat):Nat->Option (Bool×List Int):=ax m q (aI m p n) n
def cw (cf:Cf) (h:Hs) (p a:Nat):An4×Hs :=
 let i (old:Nat):An4×Hs :=
  match aA cf h a with
  | (none,e)=>(.no 1,e)
  | (some q,e)=>let l:={ e with m:=cF e.m p q (min old a) }
   (⟨0,q,0,[]⟩,eK cf l (aP l p))
 if p=0 then
  match aA cf h a with
  | (none,e)=>(.no 1,e)
  | (some q,e)=>(⟨0,q,0,[]⟩,e)
 else match aP h p with
  | .no code=>(.no code,h)
  | .slot c s j=>if sound cf h c s j=false then (.no 5,h)
   else if a<=1016/\gx a=c then (⟨0,p,0,[]⟩,{ h with rq:=aE h.rq c s j a })
   else i (h.rq c s j).toNat
  | .range r=>if 1016<a/\aR a=r.pages then (⟨0,p,0,[]⟩,{ h with rg:=h.rg.map λx=>if x.base=r.base then { x with rq:=a } else x })
   else i r.rq.toNat
structure iG where
 kd:Int
 ref:Int
 p:Nat
 a:Nat
 b:Nat
 ys:List Int
def dF (cf:Cf) (h:Hs) (o:iG) (p:Nat):An4×Hs :=
 let e (n:Nat):An4×Hs:=match aA cf h n with
  | (none,i)=>(.no 1,i)
  | (some q,i)=>(⟨0,q,0,[]⟩,i)
 if o.kd=0 then e o.a
 else if o.kd=1 then (if 18446744073709551616<=o.a*o.b then (.no 1,h) else e (o.a*o.b))
 else if o.kd=2 then cw cf h p o.a
 else if o.kd=3 then
  match aP h p with
  | .no code=>(.no code,h)
  | .slot c s j=>if sound cf h c s j=false then (.no 5,h) else (.no 0,aL cf h c s j)
  | .range r=>(.no 0,aW cf h r)
 else if o.kd=4 then
  match aP h p with
  | .no code=>(.no code,h)
  | .slot c s j=>(⟨0,0,fo c,[]⟩,h)
  | .range r=>(⟨0,0,r.pages*1024,[]⟩,h)
 else if o.kd=5 then (if 4096<o.a then (.no 6,h) else (⟨b_ h.m p (o.a:Int),0,0,if b_ h.m p (o.a:Int)=0 then aI h.m p o.a else []⟩,h))
 else if o.kd=6 then (.no (b_ h.m p (o.ys.length:Int)),{ h with m:=if b_ h.m p (o.ys.length:Int)=0 then ax h.m p o.ys o.ys.length else h.m })
 else (.no 6,h)
def ce (cf:Cf) (h:Hs) (an:List An4) (o:iG):An4×Hs :=
 if o.ref=0 then dF cf h o o.p
 else if o.ref<0\/(an.length:Int)<o.ref then (.no 6,h)
 else dF cf h o ((o.p+((an[o.ref.toNat-1]?.map An4.addr).getD 0))%18446744073709551616)
def bh (cf:Cf):List iG->Hs->List An4->Hs×List An4
 | [],h,an=>(h,an)
 | o::r,h,an=>bh cf r (ce cf h an o).2 (an++[(ce cf h an o).1])
theorem CH (h:c<12):c=0\/c=1\/c=2\/c=3\/c=4\/c=5\/c=6\/c=7\/c=8\/c=9\/c=10\/c=11:=Z
theorem se (h:c<12):sz (c:Int)=(bX c:Nat):=by
 rcases CH h with rfl|rfl|rfl|rfl|rfl|rfl|rfl|rfl|rfl|rfl|rfl|rfl <;> decide
theorem pU (h:c<12):pg (c:Int)=(dH c:Nat):=by
 rcases CH h with rfl|rfl|rfl|rfl|rfl|rfl|rfl|rfl|rfl|rfl|rfl|rfl <;> decide
theorem vt (h:c<12):sl (c:Int)=(aM c:Nat):=by
 rcases CH h with rfl|rfl|rfl|rfl|rfl|rfl|rfl|rfl|rfl|rfl|rfl|rfl <;> decide
theorem DI (h:c<12):us (c:Int)=(fo c:Nat):=by
 rcases CH h with rfl|rfl|rfl|rfl|rfl|rfl|rfl|rfl|rfl|rfl|rfl|rfl <;> decide
theorem vY (h:c<12):rs (c:Int)=(yI c:Nat):=by
 rcases CH h with rfl|rfl|rfl|rfl|rfl|rfl|rfl|rfl|rfl|rfl|rfl|rfl <;> decide
theorem bd (h:c<12):16<=bX c/\bX c<=1024/\1<=dH c/\dH c<=4/\4<=aM c/\aM c<=64/\aM c*bX c<=dH c*1024/\fo c+8=bX c/\yI c+6*(dH c+1)<=187/\1<=yI c:=by
 rcases CH h with rfl|rfl|rfl|rfl|rfl|rfl|rfl|rfl|rfl|rfl|rfl|rfl <;> decide
theorem cy (h:c<12) (a:s<6):1<=aB c s/\aB c s+dH c<187:=by
 have:=bd h;unfold aB;have:s*(dH c+1)<=5*(dH c+1):=F5 _ Z;omega
theorem cI {j:Nat} (h:c<12) (a:s<6) (b:j<aM c):1024<=aX c s j/\aX c s j+bX c<=(aB c s+dH c)*1024/\aX c s j+bX c<191488:=by
 have d:=bd h;have e:=cy h a;have f:j*bX c+bX c<=aM c*bX c:=by
  have:(j+1)*bX c<=aM c*bX c:=F5 _ b;rw [Gj,Gl] at this;exact this
 unfold aX;omega
theorem zJ {a:Nat} (h:a<=1016):co (a:Int)=(gx a:Nat)/\gx a<12/\a+8<=bX (gx a):=by
 have b:∀ a:Fin 1017,co ((a.val:Nat):Int)=(gx a.val:Nat)/\gx a.val<12/\a.val+8<=bX (gx a.val):=by decide +kernel
 exact b ⟨a,Z⟩
structure Ky (S:TypeId->Prop) (W W':World):Prop where
 os:W'.os=W.os
 tape:W'.tape=W.tape
 output:W'.output=W.output
 size:W.heap.size<=W'.heap.size
 cells:∀ (g:Nat) (c:Array Value) (t:TypeId) (f:Nat×Nat),W.heap[g]?=some (.cells c t f)->¬S t->W'.heap[g]?=some (.cells c t f)
theorem Ky.below (h:D W W'):Ky S W W':=⟨h.os,h.tape,h.output,h.size,λg c t f a _=>by rw [h.block g (ai a)];exact a⟩
theorem Ky.refl (S W):Ky S W W:=Ky.below (Fc _ _)
theorem Ky.trans {S a b c} (h:Ky S a b) (k:Ky S b c):Ky S a c:=⟨k.os.trans h.os,k.tape.trans h.tape,k.output.trans h.output,Fg h.size k.size,λg d t f i e=>k.cells g d t f (h.cells g d t f i e) e⟩
theorem Ky.more {a:TypeId->Prop} (h:Ky S W W') (b:∀ t,S t->a t):Ky a W W':=⟨h.os,h.tape,h.output,h.size,λg c t f d i=>h.cells g c t f d (λe=>i (b t e))⟩
theorem Ky.grown {P:Nat} {c:Array Value} {t:TypeId} {f:Nat×Nat} (d:W.heap[P]?=some (.cells c t f)) (i:S t) (b:W.grownBy W' (some P)):Ky S W W':=by
 refine⟨b.os,b.tape,b.output,b.size,λg k l m a j=>?_⟩;rw [b.block g (ai a) (λe=>?_)];·exact a
 simp at e;subst e;rw [d] at a;simp at a;exact j (a.2.1▸i)
theorem Sx.ky (h:Sx T Q n bud m W) (k:Ky S W W') (e:¬S 215) (f:¬S 217) (j:¬S 5):Sx T Q n bud m W':=by
 obtain⟨c,o,p,r,a⟩:=h.row;refine⟨k.cells _ _ _ _ h.box e,⟨c,k.cells _ _ _ _ o f,p,λi s=>?_,a⟩,h.out⟩;have b:=r i s;cases d:m i with
 | none=>rw [d] at b;exact b
 | some q =>
  obtain⟨l,xs⟩:=q;rw [d] at b;obtain⟨t,u,v,g,w,x⟩:=b;exact⟨t,u,v,g,w,k.cells _ _ _ _ x j⟩
theorem aj {sz:Nat} (h:W.ownsRow B e sz v n xs) (k:Ky S W W') (c:¬S e):W'.ownsRow B e sz v n xs:=by
 refine⟨h.1,?_⟩;rcases h.2 with a|⟨g,cap,b,d,a,f,i⟩;·exact .inl a
 exact .inr ⟨g,cap,b,d,a,k.cells _ _ _ _ f c,i⟩
theorem cS {g} (h:RowV W g e xs) (k:Ky S W W') (a:¬S e):RowV W' g e xs:=by
 obtain⟨c,b,d⟩:=h;exact⟨c,k.cells _ _ _ _ b a,d⟩
theorem Sl.ky {zs} (h:Sl W a zs) (k:Ky S W W') (b:¬S 3):Sl W' a zs:=by
 rcases h with h|⟨g,e,c⟩;·exact .inl h
 exact .inr ⟨g,e,cS c k b⟩
def Wq (W:World) (v:Value) (e:List Int):Prop:=∃ (a:Option Addr) (cap:Nat),v=.slice a e.length cap/\(a=none->cap=0)/\Sl W a e
theorem Wq.ky {S W W' v zs} (h:Wq W v zs) (k:Ky S W W') (b:¬S 3):Wq W' v zs:=by
 obtain⟨a,cap,c,d,e⟩:=h;exact⟨a,cap,c,d,e.ky k b⟩
structure Sm where
 P:Nat
 T:Nat
 Q:Nat
 G:Nat
 gc:Nat
 da:Option Addr
 dc:Nat
 wv:Value
 rv:Value
 ov:Value
 lv:Value
 mv:Nat->Value
 fv:Nat->Value
def Us (e:List Nat):List Value:=e.map λ(n:Nat)=>Value.int .u64 (n:Int)
def jd (h:Hs):List Value:=dG.flatMap λt=>[I t.1,I t.2.1,I t.2.2,U (aX t.1 t.2.1 t.2.2:Nat),I (h.st t.1 t.2.1 t.2.2),I (h.rq t.1 t.2.1 t.2.2)]
def nO (cf:Cf) (x:Sm):List Value:=(List.range 12).flatMap λc=>[x.mv c,x.fv c,I cf.fifo]
def fg (rg:List Rg9):List Value:=rg.flatMap λr=>[U r.base,I r.first,I r.ext,I r.pages,I r.st,I r.rq]
def fZ (cf:Cf) (x:Sm) (used:Nat):Array Value:=#[I cf.mix,I cf.fifo,I cf.large,I cf.bud,U cf.key,.slice x.da cf.ds.length x.dc,J x.T 0,Vl x.G 1062 x.gc,x.wv,x.rv,x.ov,x.lv,I used]
structure Sh (B:Nat) (x:Sm) (cf:Cf) (h:Hs) (W:World):Prop where
 box:W.heap[x.P]?=some (.cells (fZ cf x h.used) 143)
 bp:B<=x.P
 bq:B<=x.Q
 bg:∀ g,ft x.Q W g->B<=g
 ds:Sl W x.da cf.ds
 sp:Sx x.T x.Q 283 (cf.bud:Nat) h.m W
 sl:W.ownsRow B 146 6 (Vl x.G 1062 x.gc) 1062 (jd h)
 wt:W.ownsRow B 68 3 x.wv 12 (nO cf x)
 wm:∀ c,c<12->Wq W (x.mv c) (h.mx c)/\Wq W (x.fv c) (h.ff c)
 rg:W.ownsRow B 148 6 x.rv h.rg.length (fg h.rg)
 ro:W.ownsRow B 23 1 x.ov h.row.length (Us h.row)
 rl:W.ownsRow B 23 1 x.lv h.rel.length (Us h.rel)
theorem de (h:W'.heap[Q]?=W.heap[Q]?) {g} (b:ft Q W' g):ft Q W g:=by
 obtain⟨k,a⟩:=b;refine⟨k,?_⟩;unfold World.cell? at a ⊢;rw [h] at a;exact a
theorem Sx.qEq (h:Sx T Q n bud m W) (k:Ky S W W') (b:¬S 217):W'.heap[Q]?=W.heap[Q]?:=by
 obtain⟨c,a,_⟩:=h.row;rw [k.cells _ _ _ _ a b,a]
theorem Sh.boxed {x cf h} (a:Sh B x cf h W) (k:Ky (· = 143) W W') (u) (d:W'.heap[x.P]?=some (.cells (fZ cf x u) 143)):Sh B x cf { h with used:=u } W' :=
 ⟨d,a.bp,a.bq,λg e=>a.bg g (de (a.sp.qEq k av) e),a.ds.ky k av,a.sp.ky k av av av,aj a.sl k av,aj a.wt k av,λc b=>⟨(a.wm c b).1.ky k av,(a.wm c b).2.ky k av⟩,aj a.rg k av,aj a.ro k av,aj a.rl k av⟩
theorem Sh.below {B x cf h W W'} (a:Sh B x cf h W) (b:D W W'):Sh B x cf h W':=by
 have k:Ky (λ_=>False) W W':=Ky.below b;exact⟨k.cells _ _ _ _ a.box (λe=>e),a.bp,a.bq,λg f=>a.bg g (de (a.sp.qEq k (λe=>e)) f),a.ds.ky k (λe=>e),a.sp.below b,aj a.sl k (λe=>e),aj a.wt k (λe=>e),λc d=>⟨(a.wm c d).1.ky k (λe=>e),(a.wm c d).2.ky k (λe=>e)⟩,aj a.rg k (λe=>e),aj a.ro k (λe=>e),aj a.rl k (λe=>e)⟩
theorem Sh.cell {B x cf h W} (a:Sh B x cf h W) (i:Nat) (v:Value) (b:(fZ cf x h.used)[i]?=some v):W.cell? ⟨x.P,i,none⟩=some v:=by
 simp [World.cell?,a.box,b]
theorem eX {α:Type} (f:α->List Value) (n:Nat) (b:∀ a,(f a).length=n):∀ (l:List α) (i:Nat) (a:α),l[i]?=some a->∀ r,r<n->(l.flatMap f)[i*n+r]?=(f a)[r]?
 | [],i,a,h=>by simp at h
 | x::l,0,a,h=>λr c=>by
  simp at h
  subst h
  rw [Ho,Nat.zero_mul,FP,Gh (by rw [b];exact c)]
 | x::l,i+1,a,h=>λr c=>by
  simp at h
  have d:(i+1)*n=i*n+n:=by rw [Gj,Gl]
  rw [Ho,Gn (by rw [b];omega),b,show (i+1)*n+r-n=i*n+r by omega]
  exact eX f n b l i a h r c
theorem bC {sz:Nat} (h:W.ownsRow B e sz (Vl G n cap) n xs) (i:Nat) (v:Value) (a:xs[i]?=some v):W.cell? ⟨G,i,none⟩=some v:=by
 rcases h.2 with ⟨e,_⟩|⟨g,b,c,e,k,d,l,m,o,f⟩;·simp at e
 simp at e;obtain⟨rfl,rfl⟩:=e;have j:=(Fl.1 a).1;rw [<-f,GR (by rw [<-h.1];exact j),FY] at a;simp [World.cell?,d,a]
theorem fW:dG.length=1062:=by decide +kernel
def sA (k:Nat):Nat×Nat×Nat:=(dG[k]?).getD (0,0,0)
theorem gN (h:k<1062):dG[k]?=some (sA k):=by
 unfold sA;rw [Fj (by rw [fW];exact h)];rfl
def dB (h:Hs) (k:Nat):Int:=h.st (sA k).1 (sA k).2.1 (sA k).2.2
def fX (h:Hs) (k:Nat):Int:=h.rq (sA k).1 (sA k).2.1 (sA k).2.2
def gu (k:Nat):Nat:=aX (sA k).1 (sA k).2.1 (sA k).2.2
theorem Sh.slot {x cf h} (b:Sh B x cf h W) (c:k<1062):W.cell? ⟨x.G,k*6,none⟩=some (I ((sA k).1:Nat))/\W.cell? ⟨x.G,k*6+1,none⟩=some (I ((sA k).2.1:Nat))/\W.cell? ⟨x.G,k*6+2,none⟩=some (I ((sA k).2.2:Nat))/\W.cell? ⟨x.G,k*6+3,none⟩=some (U (gu k:Nat))/\W.cell? ⟨x.G,k*6+4,none⟩=some (I (dB h k))/\W.cell? ⟨x.G,k*6+5,none⟩=some (I (fX h k)):=by
 have a:=eX (λt:Nat×Nat×Nat=>[I t.1,I t.2.1,I t.2.2,U (aX t.1 t.2.1 t.2.2:Nat),I (h.st t.1 t.2.1 t.2.2),I (h.rq t.1 t.2.1 t.2.2)]) 6 (λ_=>rfl) dG k (sA k) (gN c);have g:=λr v (d:r<6) e=>bC b.sl (k*6+r) v ((a r d).trans e)
 exact⟨g 0 _ Z rfl,g 1 _ Z rfl,g 2 _ Z rfl,g 3 _ Z rfl,g 4 _ Z rfl,g 5 _ Z rfl⟩
def iZ (h:Hs) (c s:Nat) (e:List Int) (n:Nat):List Nat:=(List.range n).filter λk=>(sA k).1==c&&((sA k).2.1==s&&e.contains (dB h k))
theorem xG (h c s sts) (n:Nat):iZ h c s sts (n+1)=iZ h c s sts n++(if ((sA n).1==c&&((sA n).2.1==s&&sts.contains (dB h n)))=true then [n] else []):=by
 unfold iZ;rw [Gg,GZ];congr 1;simp only [List.filter_cons,List.filter_nil]
theorem zD (h c s sts n):(iZ h c s sts n).length<=n:=by
 unfold iZ;have:=GN (λk=>(sA k).1==c&&((sA k).2.1==s&&sts.contains (dB h k))) (List.range n);simpa using this
def Dn:List (Nat×Nat×Nat)->Bool
 | a::b::r=>decide (aX a.1 a.2.1 a.2.2<aX b.1 b.2.1 b.2.2)&&Dn (b::r)
 | _=>true
theorem zu:Dn dG=true:=by decide +kernel
theorem qV:∀ (l:List (Nat×Nat×Nat)) (k:Nat) (a b:Nat×Nat×Nat),Dn l=true->l[k]?=some a->l[k+1]?=some b->aX a.1 a.2.1 a.2.2<aX b.1 b.2.1 b.2.2
 | [],k,a,b,_,h,_=>by simp at h
 | [y],k,a,b,_,_,h=>by simp at h
 | y::z::r,0,a,b,c,d,e=>by
  simp [Dn] at c d e
  subst d e
  exact c.1
 | y::z::r,k+1,a,b,c,d,e=>by
  simp only [Dn,FV] at c
  exact qV (z::r) k a b c.2 (by simpa using d) (by simpa using e)
theorem wi (h:k+1<1062):gu k<gu (k+1):=qV dG k (sA k) (sA (k+1)) zu (gN Z) (gN h)
theorem mQ {i:Nat} : ∀ {k:Nat},i<k->k<1062->gu i<gu k
 | 0,h,_=>by omega
 | k+1,h,a=>by
  have b:=wi a
  by_cases e:i=k
  ·subst e;exact b
  have:=mQ (i:=i) (k:=k) Z Z
  omega
theorem vZ (b:i<1062) (c:k<1062) (h:sA i=sA k):i=k:=by
 have e:gu i=gu k:=by unfold gu;rw [h]
 rcases Hn i k with a|a|a;·have:=mQ a c;omega
 ·exact a
 have:=mQ a b;omega
theorem pw {j:Nat} (d:c<12) (e:s<6) (f:j<aM c):∃ k,k<1062/\sA k=(c,s,j):=by
 have g:(c,s,j)∈dG:=by
  unfold dG;simp only [List.mem_flatMap,F0,FC];exact⟨c,d,s,e,j,f,rfl⟩
 obtain⟨k,a⟩:=GQ g;have b:=(Fl.1 a).1;rw [fW] at b;refine⟨k,b,?_⟩;unfold sA;rw [a];rfl
theorem mg (b:k<1062):(sA k).1<12/\(sA k).2.1<6/\(sA k).2.2<aM (sA k).1:=by
 have a:sA k∈dG:=Fz (gN b);unfold dG at a;simp only [List.mem_flatMap,F0,FC] at a;obtain⟨c,d,s,f,j,g,e⟩:=a;rw [<-e];exact⟨d,f,g⟩
theorem rF {h:Hs} {v:Int} (a:k<1062) (b:i<1062):aE h.st (sA k).1 (sA k).2.1 (sA k).2.2 v (sA i).1 (sA i).2.1 (sA i).2.2=if i=k then v else dB h i:=by
 unfold aE dB;by_cases e:i=k;·subst e;simp
 rw [Gu e,Gu];rintro⟨h1,h2,h3⟩;exact e (vZ b a (by rw [Prod.ext_iff,Prod.ext_iff];exact⟨h1,h2,h3⟩))
def sC (h:Hs) (t:Nat×Nat×Nat):List Value:=[I t.1,I t.2.1,I t.2.2,U (aX t.1 t.2.1 t.2.2:Nat),I (h.st t.1 t.2.1 t.2.2),I (h.rq t.1 t.2.1 t.2.2)]
theorem eN (h):(jd h).length=6372:=by
 have b:∀ l:List (Nat×Nat×Nat),(l.flatMap (sC h)).length=l.length*6:=λl=>by
  induction l with
  | nil=>rfl
  | cons a r c=>rw [Ho,Fo,c,Fx];show 6+_=_;omega
 have:=b dG;rw [fW] at this;exact this
theorem ka (h) {q r:Nat} (a:q<1062) (b:r<6):(jd h)[q*6+r]?=(sC h (sA q))[r]?:=eX (sC h) 6 (λ_=>rfl) dG q (sA q) (gN a) r b
theorem nM {h} (b:xs.length=6372) (a:∀ q r,q<1062->r<6->xs[q*6+r]?=(sC h (sA q))[r]?):jd h=xs:=by
 apply G9;intro i;by_cases c:i<6372
 ·have e:i=i/6*6+i%6:=Z;rw [e,ka h Z Z,a _ _ Z Z]
 rw [Ft (by rw [eN];omega),Ft Z]
theorem wH (h:Hs) (c:k<1062) (v:Int):jd { h with st:=aE h.st (sA k).1 (sA k).2.1 (sA k).2.2 v }=(jd h).set (k*6+4) (I v):=by
 refine nM (by rw [FX,eN]) (λq r b d=>?_);rw [Gc,ka h b d,eN];have a:=rF (h:=h) (v:=v) c b;by_cases e:k*6+4=q*6+r
 ·have f:q=k:=Z;have g:r=4:=Z;subst f g;rw [Gv rfl,Gv Z];rw [Gv rfl] at a;simp only [sC];rw [a];rfl
 rw [Gu e];by_cases f:r=4;·subst f;rw [Gu (show q≠k by omega)] at a;simp only [sC];rw [a];rfl
 have:r=0\/r=1\/r=2\/r=3\/r=5:=Z;rcases this with rfl|rfl|rfl|rfl|rfl <;> rfl
theorem wU (h:Hs) (c:k<1062) (v:Int):jd { h with rq:=aE h.rq (sA k).1 (sA k).2.1 (sA k).2.2 v }=(jd h).set (k*6+5) (I v):=by
 refine nM (by rw [FX,eN]) (λq r b d=>?_);rw [Gc,ka h b d,eN];have a:=rF (h:={ h with st:=h.rq }) (v:=v) c b;dsimp only at a;by_cases e:k*6+5=q*6+r
 ·have f:q=k:=Z;have g:r=5:=Z;subst f g;rw [Gv rfl,Gv Z];rw [Gv rfl] at a;simp only [sC];rw [a];rfl
 rw [Gu e];by_cases f:r=5;·subst f;rw [Gu (show q≠k by omega)] at a;simp only [sC];rw [a];rfl
 have:r=0\/r=1\/r=2\/r=3\/r=4:=Z;rcases this with rfl|rfl|rfl|rfl|rfl <;> rfl
theorem dT {sz:Nat} (h:W.ownsRow B e sz (Vl G n cap) n xs) (i:Nat) (m:i<xs.length) (v:Value):(W.setCell ⟨G,i,none⟩ v).ownsRow B e sz (Vl G n cap) n (xs.set i v):=by
 refine⟨by rw [FX];exact h.1,?_⟩;rcases h.2 with ⟨e,_⟩|⟨g,b,a,e,c,d,f,j,k,l⟩;·simp at e
 simp at e;obtain⟨rfl,rfl⟩:=e;refine .inr ⟨G,cap,a.setIfInBounds i v,rfl,c,?_,f,j,by simpa using k,?_⟩;·simp [World.setCell,Fp,d]
 rw [<-l,Array.toList_setIfInBounds,List.take_set]
theorem dv {sz:Nat} (h:W.ownsRow B e sz (Vl G n cap) n xs):∃ c,W.heap[G]?=some (.cells c e):=by
 rcases h.2 with ⟨e,_⟩|⟨g,b,a,e,f,d,_⟩;·simp at e
 simp at e;obtain⟨rfl,rfl⟩:=e;exact⟨a,d⟩
theorem Sh.slots {x cf h h'} (a:Sh B x cf h W) (k:Ky (· = 146) W W') (b:W'.ownsRow B 146 6 (Vl x.G 1062 x.gc) 1062 (jd h')) (e:h'.m=h.m) (f:h'.mx=h.mx) (i:h'.ff=h.ff) (j:h'.rg=h.rg) (l:h'.row=h.row) (m:h'.rel=h.rel) (n:h'.used=h.used):Sh B x cf h' W':=by
 refine⟨?_,a.bp,a.bq,λg o=>a.bg g (de (a.sp.qEq k av) o),a.ds.ky k av,?_,b,aj a.wt k av,λc d=>?_,?_,?_,?_⟩;·rw [n];exact k.cells _ _ _ _ a.box av
 ·rw [e];exact a.sp.ky k av av av
 ·rw [f,i];exact⟨(a.wm c d).1.ky k av,(a.wm c d).2.ky k av⟩
 ·rw [j];exact aj a.rg k av
 ·rw [l];exact aj a.ro k av
 rw [m];exact aj a.rl k av
theorem Sh.setSt {x cf h} (a:Sh B x cf h W) (b:k<1062) (v:Int):Sh B x cf { h with st:=aE h.st (sA k).1 (sA k).2.1 (sA k).2.2 v } (W.setCell ⟨x.G,k*6+4,none⟩ (I v)):=by
 obtain⟨c,d⟩:=dv a.sl;refine a.slots (Ky.grown d rfl (au (ar W x.G) _ _)) ?_ rfl rfl rfl rfl rfl rfl rfl;rw [wH h b];exact dT a.sl _ (by rw [eN];omega) _
theorem Sh.setRq {x cf h} (a:Sh B x cf h W) (b:k<1062) (v:Int):Sh B x cf { h with rq:=aE h.rq (sA k).1 (sA k).2.1 (sA k).2.2 v } (W.setCell ⟨x.G,k*6+5,none⟩ (I v)):=by
 obtain⟨c,d⟩:=dv a.sl;refine a.slots (Ky.grown d rfl (au (ar W x.G) _ _)) ?_ rfl rfl rfl rfl rfl rfl rfl;rw [wU h b];exact dT a.sl _ (by rw [eN];omega) _
theorem Sh.slotF {x cf h} (a:Sh B x cf h W) (i:Nat):W.frozen? ⟨x.G,i,none⟩=false:=by
 obtain⟨c,b⟩:=dv a.sl;simp [World.frozen?,b]
theorem Sf.ky (b:Sf Q W W') (e:Sx T Q n bud m W):Ky (λt=>t=217\/t=5) W W':=by
 refine⟨b.os,b.tape,b.output,b.size,λg c t f d i=>?_⟩;rw [b.block g (ai d) ?_ (λj=>?_)];·exact d
 ·rintro rfl;obtain⟨k,a,_⟩:=e.row;rw [d] at a;simp at a;exact i (.inl a.2.1)
 obtain⟨k,a⟩:=e.pgT j;rw [d] at a;simp at a;exact i (.inr a.2.1)
theorem Sh.space {x cf h} (a:Sh B x cf h W) (j:B<=W.heap.size) (m') (f:Sx x.T x.Q 283 (cf.bud:Nat) m' W') (b:Sf x.Q W W'):Sh B x cf { h with m:=m' } W':=by
 have k:=b.ky a.sp;refine⟨k.cells _ _ _ _ a.box av,a.bp,a.bq,λg i=>?_,a.ds.ky k av,f,aj a.sl k av,aj a.wt k av,λc d=>⟨(a.wm c d).1.ky k av,(a.wm c d).2.ky k av⟩,aj a.rg k av,aj a.ro k av,aj a.rl k av⟩;rcases b.pg g i with e|e;·exact a.bg g e
 omega
end
end Go.Proofs.YtdngbppdomoenaaGreatDoor
namespace Go.Proofs.YtdngbppdomoenaaGreatDoor.product
open Go.Proofs.Tryz
set_option linter.unusedVariables false
set_option linter.unusedSimpArgs false
set_option maxRecDepth 20000
set_option maxHeartbeats 8000000
open Go.ChangeShapes Go.WideShapes Go.ChangeAt Go.RowKit
theorem sp_Product_no (x y:Nat) (d:x<18446744073709551616) (f:y<18446744073709551616) (h:18446744073709551616<=x*y) (w:World) :
  Calls prog 38 #[U x,U y] w λe c=>e=.returned (.tuple #[U 0,.bool false])/\c=w:=by
 have a:0<x:=by
  rcases Nat.eq_zero_or_pos x with b|b;·subst b;simp at h
  exact b
 have b:(18446744073709551615:Int)/(x:Int)<(y:Int):=by
  have:18446744073709551615/x<y:=by
   rw [Nat.div_lt_iff_lt_mul a,Gq];omega
  show ((18446744073709551615:Nat):Int)/(x:Int)<(y:Int);rw [<-Int.natCast_ediv];exact Int.ofNat_lt.2 this
 have g:((x:Int) != 0)=true:=bK;clear h;go_enter func38,ntmps38;go_wp2
 go_ret2
 exact⟨rfl,rfl⟩
theorem sp_Product_zero (y:Nat) (b:y<18446744073709551616) (w:World) :
  Calls prog 38 #[U 0,U y] w λe a=>e=.returned (.tuple #[U 0,.bool true])/\a=w:=by
 go_enter func38,ntmps38;go_wp2
 go_ret2
 exact⟨rfl,rfl⟩
theorem sp_Product_yes (x y:Nat) (a:0<x) (f:x<18446744073709551616) (g:y<18446744073709551616) (h:x*y<18446744073709551616) (w:World) :
  Calls prog 38 #[U x,U y] w λe c=>e=.returned (.tuple #[U ((x*y:Nat):Int),.bool true])/\c=w:=by
 have i:(y:Int)<=(18446744073709551615:Int)/(x:Int):=by
  have:y<=18446744073709551615/x:=by
   rw [Nat.le_div_iff_mul_le a,Gq];omega
  show (y:Int)<=((18446744073709551615:Nat):Int)/(x:Int);rw [<-Int.natCast_ediv];exact Int.ofNat_le.2 this
 have j:((x:Int) != 0)=true:=bK;have b:IntKind.u64.wrap ((x:Int)*(y:Int))=((x*y:Nat):Int):=by
  rw [Mul64.mulN,Hd _ h]
 have d:=Bb b;clear h b;go_enter func38,ntmps38;go_wp2
 go_ret2
 exact⟨by rw [<-d.out];rfl,rfl⟩
end Go.Proofs.YtdngbppdomoenaaGreatDoor.product
namespace Go.Proofs.YtdngbppdomoenaaGreatDoor
open Go.Proofs.Tryz
variable {S:TypeId->Prop} {B G Q R T X Y b c cap i k len n s:Nat} {bud:Int} {m:Nat->Option (Bool×List Int)} {W W' b0 w w0:World} {v:Value} {xs:List Value} {a:Option Addr} {e:TypeId}
section
open Go.RowKit
structure dh where
 o:iG
 d:Option Addr
 dc:Nat
def ee (q:dh):List Value:=[I q.o.kd,I q.o.ref,U q.o.p,U q.o.a,U q.o.b,.slice q.d q.o.ys.length q.dc]
structure Ois (w:World) (A:Option Addr) (ops:List dh):Prop where
 at_:∀ k q,ops[k]?=some q->∃ G,A=some ⟨G,0,none⟩/\G<w.heap.size/\∀ j u,(ee q)[j]?=some u->w.cell? ⟨G,k*6+j,none⟩=some u
 wf:∀ q∈ops,q.o.p<18446744073709551616/\q.o.a<18446744073709551616/\q.o.b<18446744073709551616
 dat:∀ q∈ops,∀ i,i<q.o.ys.length->∃ x,q.d=some x/\w.cell? (x.add i)=some (.int .u8 (q.o.ys[i]?.getD 0))/\(x.add i).block<w.heap.size
theorem c_ (b:D w W) {x:Addr} {u:Value} (h:w.cell? x=some u):W.cell? x=some u:=ad b h
theorem Ois.dt {A ops} (h:Ois w A ops) (b:D w W) (k:w.heap.size<=Q) (a:∀ g,ft Q W g->w.heap.size<=g) {q:dh} (c:q∈ops):Dt Q W q.d q.o.ys.length q.o.ys:=by
 refine⟨rfl,λi d=>?_⟩;obtain⟨x,f,g,j⟩:=h.dat q c i d;exact⟨x,f,c_ b g,Fq j b.size,Z,λe=>by have:=a _ e;omega⟩
def nm (tk:Nat->Bool):Nat->Nat
 | 0=>0
 | k+1=>if tk k then 0 else nm tk k+1
theorem pi (tk):∀ k,nm tk k<=k
 | 0=>Fe _
 | k+1=>by have:=pi tk k;unfold nm;split <;> omega
theorem jk (tk):∀ k n,n<=nm tk k↔n<=k/\∀ q,k-n<=q->q<k->tk q=false
 | 0,n=>by
  simp only [nm]
  exact⟨λh=>⟨h,λq _ a=>Z⟩,λh=>h.1⟩
 | k+1,n=>by
  have c:=jk tk k
  simp only [nm]
  cases d:tk k with
  | true =>
   simp only [Iv]
   constructor
   ·intro h
    exact⟨Z,λq b a=>Z⟩
   intro ⟨b,a⟩
   by_cases f:n=0
   ·omega
   have:=a k Z Z
   rw [d] at this;cases this
  | false =>
   simp only [Bool.false_eq_true,Iu]
   constructor
   ·intro h
    refine⟨by have:=pi tk k;omega,λq b a=>?_⟩
    by_cases e:q=k
    ·subst e;exact d
    exact ((c (n-1)).1 Z).2 q Z Z
   intro ⟨b,a⟩
   by_cases f:n=0
   ·omega
   have:=(c (n-1)).2 ⟨Z,λq g i=>a q Z Z⟩
   omega
theorem find_range {N:Nat} {p:Nat->Bool} (a:k<N) (b:p k=true) (c:∀ i,i<k->p i=false):(List.range N).find? p=some k:=by
 rw [Ib];exact⟨b,F0.2 a,λj d=>by rw [c j d];rfl⟩
def gU (rg:List Rg9) (q:Nat):Bool:=rg.any λr=>decide (r.first<=187+q)&&decide (187+q<r.first+r.ext)
theorem pu (c:List Rg9) (l:∀ r∈c,187<=r.first/\1<=r.ext) (o:1<=n):(c.all λr=>decide (187+i+n<=r.first) || decide (r.first+r.ext<=187+i))=true↔∀ q,i<=q->q<i+n->gU c q=false:=by
 rw [List.all_eq_true];constructor
 ·intro h q j k;unfold gU;cases e:c.any _ with
  | false=>rfl
  | true =>
   exfalso;obtain⟨r,f,d⟩:=List.any_eq_true.1 e;have:=h r f;simp at this d;omega
 intro h r f;have p:=l r f;simp;by_cases j:187+i+n<=r.first
 ·exact .inl j
 by_cases k:r.first+r.ext<=187+i
 ·exact .inr k
 exfalso;have d:∀ q,i<=q->q<i+n->¬(r.first<=187+q/\187+q<r.first+r.ext):=λq a b m=>by
  have:=h q a b;unfold gU at this;have g:(c.any λr=>decide (r.first<=187+q)&&decide (187+q<r.first+r.ext))=true:=List.any_eq_true.2 ⟨r,f,by simp;exact m⟩;rw [g] at this;cases this
 by_cases g:r.first<=187+i
 ·exact d i (Fe _) Z ⟨g,Z⟩
 exact d (r.first-187) Z Z ⟨Z,Z⟩
theorem sg {h:Hs} (c:∀ r∈h.rg,187<=r.first/\1<=r.ext) (d:1<=n) (l:k<96) (m:nm (gU h.rg) (k+1)=n) (f:∀ j,j<=k->nm (gU h.rg) j<n):eg h n=some (187+(k+1-n)):=by
 have g:=pi (gU h.rg) (k+1);unfold eg;rw [find_range (k:=k+1-n) Z ?_ ?_];·rfl
 ·simp only [FV,GX];refine⟨Z,(pu h.rg c d).2 (λq a b=>?_)⟩;exact ((jk (gU h.rg) (k+1) n).1 Z).2 q a Z
 intro i o;cases e:(decide (i+n<=96)&&h.rg.all λr=>decide (187+i+n<=r.first) || decide (r.first+r.ext<=187+i)) with
 | false=>rfl
 | true =>
  exfalso;simp only [FV,GX] at e;have j:=(pu h.rg c d).1 e.2;have:=(jk (gU h.rg) (i+n) n).2 ⟨Z,λq a b=>j q Z b⟩;have:=f (i+n) Z;omega
theorem sE {h:Hs} (c:∀ r∈h.rg,187<=r.first/\1<=r.ext) (d:1<=n) (f:∀ j,j<=96->nm (gU h.rg) j<n):eg h n=none:=by
 unfold eg;rw [List.find?_eq_none.2];·rfl
 intro i j e;simp only [FV,GX] at e;have g:=(pu h.rg c d).1 e.2;have:=(jk (gU h.rg) (i+n) n).2 ⟨Z,λq a b=>g q Z b⟩;have:=f (i+n) Z;omega
end
section
open Go.RowKit Go.Shelf Go.Maps
structure Od6 (B : Nat) (q : dh) (W : World) : Prop where
  p : q.o.p<18446744073709551616
  a : q.o.a<18446744073709551616
  b : q.o.b<18446744073709551616
  d : W.ownsRow B 5 1 (.slice q.d q.o.ys.length q.dc) q.o.ys.length (Ns .u8 q.o.ys)
  r : -9223372036854775808<=q.o.ref
  y : ∀ y ∈ q.o.ys, 0<=y/\y<=255
structure Ob6 (w0 : World) (a : Option Addr) (len cap R : Nat) (b0 : World) (X Y : Nat) (q : dh) (W : World) : Prop where
  rd : Rd w0 a len cap R b0 W
  rn : R<b0.heap.size
  x : W.heap[X]? = some (.cells (ee q).toArray 42)
  xn : b0.heap.size<=X
  y : W.heap[Y]? = some (.cells #[.int .i64 0, .int .i64 0, .int .u64 0, .int .u64 0, .int .u64 0, .slice none 0 0] 42)
  yn : b0.heap.size<=Y
  xy : X ≠ Y
  od : Od6 b0.heap.size q W
theorem dZ {t:TypeId} {sz:Nat} (h:W.ownsRow b e sz v n xs) {j:Array Value} {f:Nat×Nat} (k:W.heap[X]?=some (.cells j t f)) (c:e≠t):v.ownBlock≠some X:=λa=>by
 rcases h.2 with ⟨d,_⟩|⟨g,cap,l,d,m,i,_⟩
 ·rw [d] at a;cases a
 ·rw [d] at a
  have:g=X:=by simpa [Value.ownBlock] using a
  subst this
  rw [k] at i
  simp at i
  exact c i.2.1.symm
theorem Od6.kept {B q W} {W':World} (h:Od6 B q W) {r:Nat} (g:W.grownBy W' (some r)) (a:(Value.slice q.d q.o.ys.length q.dc).ownBlock≠some r):Od6 B q W':=⟨h.p,h.a,h.b,h.d.kept g (.inr a),h.r,h.y⟩
theorem Ob6.upd {q} (h:Ob6 w0 a len cap R b0 X Y q W) (i:Nat) (v:Value) (q') (d:ee q'=(ee q).set i v) (c:Od6 b0.heap.size q' W):Ob6 w0 a len cap R b0 X Y q' (W.setCell ⟨X,i,none⟩ v):=by
 have f:=h.rn;have b:W.grownBy (W.setCell ⟨X,i,none⟩ v) (some X):=au (ar W X) i v;have g:=h.xn;refine⟨h.rd.app b (λr e=>by cases e;omega),f,?_,h.xn,?_,h.yn,h.xy,c.kept b (dZ c.d h.x av)⟩
 ·rw [d];simp [World.setCell,Fp,h.x]
 ·rw [b.block Y (ai h.y) (λe=>by cases e;exact h.xy rfl)];exact h.y
theorem Ob6.next {q} (h:Ob6 w0 a len cap R b0 X Y q W) (b:Rd w0 a len cap R W W'):Ob6 w0 a len cap R b0 X Y q W':=by
 have c:=h.rn;have d:=h.xn;have f:=h.yn;refine⟨h.rd.of b,c,?_,h.xn,?_,h.yn,h.xy,h.od.kept b.g (λe=>by have:=(h.od.d.lt R e).1;omega)⟩;·rw [b.g.block X (ai h.x) (λe=>by cases e;omega)];exact h.x
 ·rw [b.g.block Y (ai h.y) (λe=>by cases e;omega)];exact h.y
theorem Ob6.below {w0 a len cap R b0 W W' X Y q} (h:Ob6 w0 a len cap R b0 X Y q W) (b:D W W'):Ob6 w0 a len cap R b0 X Y q W':=h.next (h.rd.at.below b)
theorem Ob6.drew {w0 a len cap R b0 W X Y q} (h:Ob6 w0 a len cap R b0 X Y q W):Ob6 w0 a len cap R b0 X Y q W.drew:=h.below (Fc _ _).drew
theorem Ob6.cells {q} (h:Ob6 w0 a len cap R b0 X Y q W):W.cell? ⟨X,0,none⟩=some (.int .i64 q.o.kd)/\W.cell? ⟨X,1,none⟩=some (.int .i64 q.o.ref)/\W.cell? ⟨X,2,none⟩=some (.int .u64 (q.o.p:Nat))/\W.cell? ⟨X,3,none⟩=some (.int .u64 (q.o.a:Nat))/\W.cell? ⟨X,4,none⟩=some (.int .u64 (q.o.b:Nat))/\W.cell? ⟨X,5,none⟩=some (.slice q.d q.o.ys.length q.dc):=by
 have:=h.x;simp [World.cell?,this,ee]
theorem Ob6.fr {q} (h:Ob6 w0 a len cap R b0 X Y q W) (i:Nat):W.frozen? ⟨X,i,none⟩=false:=by simp [World.frozen?,h.x]
theorem Ob6.setKd {q} (h:Ob6 w0 a len cap R b0 X Y q W) (x:Int):Ob6 w0 a len cap R b0 X Y { q with o:={ q.o with kd:=x } } (W.setCell ⟨X,0,none⟩ (.int .i64 x)):=h.upd 0 _ _ rfl ⟨h.od.p,h.od.a,h.od.b,h.od.d,h.od.r,h.od.y⟩
theorem Ob6.setRef {q} (h:Ob6 w0 a len cap R b0 X Y q W) (x:Int) (b : -9223372036854775808<=x):Ob6 w0 a len cap R b0 X Y { q with o:={ q.o with ref:=x } } (W.setCell ⟨X,1,none⟩ (.int .i64 x)):=h.upd 1 _ _ rfl ⟨h.od.p,h.od.a,h.od.b,h.od.d,b,h.od.y⟩
theorem Ob6.setP {q} (h:Ob6 w0 a len cap R b0 X Y q W) (x:Int) (b:0<=x) (c:x<=18446744073709551615):Ob6 w0 a len cap R b0 X Y { q with o:={ q.o with p:=x.toNat } } (W.setCell ⟨X,2,none⟩ (.int .u64 x)):=by
 obtain⟨n,rfl⟩:=GM b;exact h.upd 2 _ _ rfl ⟨by show n<_;omega,h.od.a,h.od.b,h.od.d,h.od.r,h.od.y⟩
theorem Ob6.setA {q} (h:Ob6 w0 a len cap R b0 X Y q W) (x:Int) (b:0<=x) (c:x<=18446744073709551615):Ob6 w0 a len cap R b0 X Y { q with o:={ q.o with a:=x.toNat } } (W.setCell ⟨X,3,none⟩ (.int .u64 x)):=by
 obtain⟨n,rfl⟩:=GM b;exact h.upd 3 _ _ rfl ⟨h.od.p,by show n<_;omega,h.od.b,h.od.d,h.od.r,h.od.y⟩
theorem Ob6.setB {q} (h:Ob6 w0 a len cap R b0 X Y q W) (x:Int) (c:0<=x) (d:x<=18446744073709551615):Ob6 w0 a len cap R b0 X Y { q with o:={ q.o with b:=x.toNat } } (W.setCell ⟨X,4,none⟩ (.int .u64 x)):=by
 obtain⟨n,rfl⟩:=GM c;exact h.upd 4 _ _ rfl ⟨h.od.p,h.od.a,by show n<_;omega,h.od.d,h.od.r,h.od.y⟩
theorem Ob6.setD {q} (h:Ob6 w0 a len cap R b0 X Y q W) (d:Option Addr) (c:Nat) (b:List Int) (e:W.ownsRow b0.heap.size 5 1 (.slice d b.length c) b.length (Ns .u8 b)) (f:∀ y∈b,0<=y/\y<=255):Ob6 w0 a len cap R b0 X Y ⟨{ q.o with ys:=b },d,c⟩ (W.setCell ⟨X,5,none⟩ (.slice d b.length c)):=h.upd 5 _ _ rfl ⟨h.od.p,h.od.a,h.od.b,e,h.od.r,f⟩
theorem Ob6.row {q} (h:Ob6 w0 a len cap R b0 X Y q W) (b x y:Int) (d:0<=x) (j:x<=18446744073709551615) (f:0<=y) (k:y<=18446744073709551615):Ob6 w0 a len cap R b0 X Y ⟨⟨b,0,0,x.toNat,y.toNat,[]⟩,none,0⟩ (W.setRow X #[.int .i64 b,.int .i64 0,.int .u64 0,.int .u64 x,.int .u64 y,.slice none 0 0]):=by
 obtain⟨n,rfl⟩:=GM d;obtain⟨m,rfl⟩:=GM f;have g:=h.rn;have l:=h.xn;have c:W.grownBy (W.setRow X #[.int .i64 b,.int .i64 0,.int .u64 0,.int .u64 (n:Int),.int .u64 (m:Int),.slice none 0 0]) (some X):=al W X _;refine⟨h.rd.app c (λr e=>by cases e;omega),g,?_,h.xn,?_,h.yn,h.xy,⟨by show 0<_;omega,by show n<_;omega,by show m<_;omega,⟨rfl,.inl ⟨rfl,rfl⟩⟩,by show (-9223372036854775808:Int)<=0;omega,λy i=>by cases i⟩⟩;·exact aw h.x _
 ·rw [c.block Y (ai h.y) (λe=>by cases e;exact h.xy rfl)];exact h.y
def kq (n : Nat) : Code->Option Code
 | .block k c => if k=n then some (.block k c) else kq n c
 | .seq a b => match kq n a with
  | some c => some c
  | none => kq n b
 | .scope c => kq n c
 | .loop c => kq n c
 | .cond _ a b => match kq n a with
  | some c => some c
  | none => kq n b
 | _ => none
theorem fP {sz:Nat} {d:Option Addr} {l:Nat} (h:W.ownsRow b e sz (.slice d l c) n xs):l=n:=by
 rcases h.2 with ⟨a,j⟩|⟨g,cap,f,i,_⟩;·simp at a;omega
 ·simp at i;omega
theorem dV {d:Nat} {sz:Nat} (f:d<=b) (h:W.ownsRow b e sz v n xs):W.ownsRow d e sz v n xs:=by
 refine⟨h.1,?_⟩;rcases h.2 with a|⟨g,cap,c,i,a,j⟩;·exact .inl a
 ·exact .inr ⟨g,cap,c,i,Fg f a,j⟩
def B0 (w0 : World) (a : Option Addr) (len cap R : Nat) (gv : Nat) (tt : Bool) (W : World) (X Y k : Nat) (Pm : Int->Prop) : Prop := ∀ (m : Int) (K : Act->World->Prop) (Q : Exit->Act->World->Prop) (q : dh) (w : World) (u9 u10 u11 u12 u13 u14 u15 u16 u17 u18 u19 u20 u21 u22 u23 u24 u25 u26 u27 u28 u29 u32 u33 u34 u35 u36 u37 u38 u39 u40 u41 u42 u43 u44 u45 u46 u47 u48 u49 u50 u51 u52 u53 u54 u55 u56 u57 u58 u59 u60 u61 u62 u63 u64 u65 u66 u67 u68 u69 u70 u71 u72 u73 u74 u75 u76 u77 u78 u79 u80 u81 u82 u83 u84 u85 u86 u87 u88 u89 u90 u91 u92 u93 u94 u95 u96 u97 u98 u99 u100 u101 u102 u103 u104 u105 u106 u107 u108 u109 u110 u111 u112 u113 u114 u115 u116 u117 u118 u119 u120 u121 u122 u123 u124 u125 u126 u127 u128 u129 u130 u131 u132 u133 u134 u135 u136 u137 u138 u139 u140 u141 u142 u143 u144 u145 u146 u147 u148 : Value), Pm m->Hid (Ob6 w0 a len cap R W X Y q w) ->
 (∀ (v9 j1 g1 l8 e6 k5 e9 f7 i6 n3 h9 h1 e7 m9 n7 f6 m4 l3 h5 m7 i1 e5 n2 h0 g0 n5 n1 l2 g6 g4 g5 m1 h8 j2 g2 f2 m0 k2 k9 j0 l5 i9 i2 f3 j7 l4 j6 h6 m8 h3 n4 i7 j5 j8 e8 f5 f9 k7 j9 m6 j3 m3 n6 h7 i8 n8 i0 f4 j4 l9 i5 i4 g9 m5 f8 h2 i3 k6 l7 l6 k8 m2 h4 g7 n0 k4 g8 k3 g3 d4 i A t d7 a8 b1 a0 a2 e3 d9 b6 N c9 B a1 b3 O V l L d8 j b4 b7 e2 a4 e0 e e4 c6 a5 a6 b8 d5 F u d6 v b2 z a3 c8 c7 a7 b5 e1 a9 b9 : Value) (q' : dh) (w' : World), Hid (Ob6 w0 a len cap R W X Y q' w')->K ⟨#[.pointer (some ⟨R, 0, none⟩), .int .i64 (gv : Nat), .bool tt, undef, undef, undef, .pointer (some ⟨Y, 0, none⟩), .int .i64 (k : Nat), .pointer (some ⟨X, 0, none⟩), v9, j1, g1, l8, e6, k5, e9, f7, i6, n3, h9, h1, e7, m9, n7, f6, m4, l3, h5, m7, i1, .int .i64 (k : Nat), .int .i64 m, e5, n2, h0, g0, n5, n1, l2, g6, g4, g5, m1, h8, j2, g2, f2, m0, k2, k9, j0, l5, i9, i2, f3, j7, l4, j6, h6, m8, h3, n4, i7, j5, j8, e8, f5, f9, k7, j9, m6, j3, m3, n6, h7, i8, n8, i0, f4, j4, l9, i5, i4, g9, m5, f8, h2, i3, k6, l7, l6, k8, m2, h4, g7, n0, k4, g8, k3, g3, d4, i, A, t, d7, a8, b1, a0, a2, e3, d9, b6, N, c9, B, a1, b3, O, V, l, L, d8, j, b4, b7, e2, a4, e0, e, e4, c6, a5, a6, b8, d5, F, u, d6, v, b2, z, a3, c8, c7, a7, b5, e1, a9, b9], []⟩ w')->Code.wp prog ((Tryz.f29.body.bind (kq 0)).getD .skip) (Exit.then K Q) ⟨#[.pointer (some ⟨R, 0, none⟩), .int .i64 (gv : Nat), .bool tt, undef, undef, undef, .pointer (some ⟨Y, 0, none⟩), .int .i64 (k : Nat), .pointer (some ⟨X, 0, none⟩), u9, u10, u11, u12, u13, u14, u15, u16, u17, u18, u19, u20, u21, u22, u23, u24, u25, u26, u27, u28, u29, .int .i64 (k : Nat), .int .i64 m, u32, u33, u34, u35, u36, u37, u38, u39, u40, u41, u42, u43, u44, u45, u46, u47, u48, u49, u50, u51, u52, u53, u54, u55, u56, u57, u58, u59, u60, u61, u62, u63, u64, u65, u66, u67, u68, u69, u70, u71, u72, u73, u74, u75, u76, u77, u78, u79, u80, u81, u82, u83, u84, u85, u86, u87, u88, u89, u90, u91, u92, u93, u94, u95, u96, u97, u98, u99, u100, u101, u102, u103, u104, u105, u106, u107, u108, u109, u110, u111, u112, u113, u114, u115, u116, u117, u118, u119, u120, u121, u122, u123, u124, u125, u126, u127, u128, u129, u130, u131, u132, u133, u134, u135, u136, u137, u138, u139, u140, u141, u142, u143, u144, u145, u146, u147, u148], []⟩ w
structure Cd where
  mi : Int
  fi : Int
  la : Int
  bu : Int
  ky : Int
  ds : List Int
  da : Option Addr
  dc : Nat
def pP (c : Cd) : List Value := [.int .i64 c.mi, .int .i64 c.fi, .int .i64 c.la, .int .i64 c.bu, .int .u64 c.ky, .slice c.da c.ds.length c.dc]
structure Ok4 (B : Nat) (c : Cd) (W : World) : Prop where
  k0 : 0<=c.ky
  k1 : c.ky<=18446744073709551615
  dw : ∀ x ∈ c.ds, -40<=x/\x<=215
  d : W.ownsRow B 3 1 (.slice c.da c.ds.length c.dc) c.ds.length (Ns .i64 c.ds)
structure Ch (w0 : World) (a : Option Addr) (len cap R : Nat) (b0 : World) (X Y : Nat) (c : Cd) (W : World) : Prop where
  rd : Rd w0 a len cap R b0 W
  rn : R<b0.heap.size
  x : W.heap[X]? = some (.cells (pP c).toArray 26)
  xn : b0.heap.size<=X
  y : W.heap[Y]? = some (.cells #[.int .i64 0, .int .i64 0, .int .i64 0, .int .i64 0, .int .u64 0, .slice none 0 0] 26)
  yn : b0.heap.size<=Y
  xy : X ≠ Y
  od : Ok4 b0.heap.size c W
theorem Ok4.kept {B c W} {W':World} (h:Ok4 B c W) {r:Nat} (g:W.grownBy W' (some r)) (a:(Value.slice c.da c.ds.length c.dc).ownBlock≠some r):Ok4 B c W':=⟨h.k0,h.k1,h.dw,h.d.kept g (.inr a)⟩
theorem Ch.upd {c} (h:Ch w0 a len cap R b0 X Y c W) (i:Nat) (v:Value) (c') (f:pP c'=(pP c).set i v) (d:Ok4 b0.heap.size c' W):Ch w0 a len cap R b0 X Y c' (W.setCell ⟨X,i,none⟩ v):=by
 have g:=h.rn;have b:W.grownBy (W.setCell ⟨X,i,none⟩ v) (some X):=au (ar W X) i v;have j:=h.xn;refine⟨h.rd.app b (λr e=>by cases e;omega),g,?_,h.xn,?_,h.yn,h.xy,d.kept b (dZ d.d h.x av)⟩
 ·rw [f];simp [World.setCell,Fp,h.x]
 ·rw [b.block Y (ai h.y) (λe=>by cases e;exact h.xy rfl)];exact h.y
theorem Ch.next {c} (h:Ch w0 a len cap R b0 X Y c W) (b:Rd w0 a len cap R W W'):Ch w0 a len cap R b0 X Y c W':=by
 have d:=h.rn;have f:=h.xn;have g:=h.yn;refine⟨h.rd.of b,d,?_,h.xn,?_,h.yn,h.xy,h.od.kept b.g (λe=>by have:=(h.od.d.lt R e).1;omega)⟩;·rw [b.g.block X (ai h.x) (λe=>by cases e;omega)];exact h.x
 ·rw [b.g.block Y (ai h.y) (λe=>by cases e;omega)];exact h.y
theorem Ch.below {w0 a len cap R b0 W X Y c} (h:Ch w0 a len cap R b0 X Y c W) {W'} (b:D W W'):Ch w0 a len cap R b0 X Y c W':=h.next (h.rd.at.below b)
theorem Ch.drew {w0 a len cap R b0 W X Y c} (h:Ch w0 a len cap R b0 X Y c W):Ch w0 a len cap R b0 X Y c W.drew:=h.below (Fc _ _).drew
theorem Ch.cells {c} (h:Ch w0 a len cap R b0 X Y c W):W.cell? ⟨X,0,none⟩=some (.int .i64 c.mi)/\W.cell? ⟨X,1,none⟩=some (.int .i64 c.fi)/\W.cell? ⟨X,2,none⟩=some (.int .i64 c.la)/\W.cell? ⟨X,3,none⟩=some (.int .i64 c.bu)/\W.cell? ⟨X,4,none⟩=some (.int .u64 c.ky)/\W.cell? ⟨X,5,none⟩=some (.slice c.da c.ds.length c.dc):=by
 have:=h.x;simp [World.cell?,this,pP]
theorem Ch.fr {c} (h:Ch w0 a len cap R b0 X Y c W) (i:Nat):W.frozen? ⟨X,i,none⟩=false:=by simp [World.frozen?,h.x]
theorem Ch.setMi {c} (h:Ch w0 a len cap R b0 X Y c W) (x:Int):Ch w0 a len cap R b0 X Y { c with mi:=x } (W.setCell ⟨X,0,none⟩ (.int .i64 x)):=h.upd 0 _ _ rfl ⟨h.od.k0,h.od.k1,h.od.dw,h.od.d⟩
theorem Ch.setFi {c} (h:Ch w0 a len cap R b0 X Y c W) (x:Int):Ch w0 a len cap R b0 X Y { c with fi:=x } (W.setCell ⟨X,1,none⟩ (.int .i64 x)):=h.upd 1 _ _ rfl ⟨h.od.k0,h.od.k1,h.od.dw,h.od.d⟩
theorem Ch.setLa {c} (h:Ch w0 a len cap R b0 X Y c W) (x:Int):Ch w0 a len cap R b0 X Y { c with la:=x } (W.setCell ⟨X,2,none⟩ (.int .i64 x)):=h.upd 2 _ _ rfl ⟨h.od.k0,h.od.k1,h.od.dw,h.od.d⟩
theorem Ch.setBu {c} (h:Ch w0 a len cap R b0 X Y c W) (x:Int):Ch w0 a len cap R b0 X Y { c with bu:=x } (W.setCell ⟨X,3,none⟩ (.int .i64 x)):=h.upd 3 _ _ rfl ⟨h.od.k0,h.od.k1,h.od.dw,h.od.d⟩
theorem IJ (x:Int) (a : -9223372036854775808<=x) (b:x<=9223372036854775807):IntKind.i64.wrap x=x:=by
 show (if (true&&decide ((9223372036854775808:Int)<=x%18446744073709551616))=true then x%18446744073709551616-18446744073709551616 else x%18446744073709551616)=x;by_cases h:(9223372036854775808:Int)<=x%18446744073709551616;·rw [Gv (by simp [h])];omega
 ·rw [Gu (by simp [h])];omega
theorem kJ {P:Program} {b:Array Oper} {Q:Exit->Act->World->Prop} {c:Nat} {a:Act} (d:P.follows .mixedOrders=true)
  (h:wpAny P .any b Q b.size (Array.replicate b.size false) a w.drew):(Code.region c b true).wp P Q a w:=wp_region_any d h
theorem BP:(prog.info? 3).map (λi=>(i.zero,i.size,i.bytes))=some (some (.int .i64 0),1,8):=E
theorem mJ (t:TypeId) {o:Oper} {a:Act} {K:Act->World->Prop} {Q:Exit->Act->World->Prop} (s x:Operand) {c d:Value} (b:o.op=.call { callee:=.builtin .append,args:=#[s,x],argTypes:=#[t,t] }) (e:o.type=t) (f:a.eval s=v) (g:a.eval x=c)
  (i:(Builtin.append_ #[t,t] t #[v,c]).run prog W=.ok d W') (j:K (a.put o.dst d) W'):Oper.wp prog o a W K Q:=by
 unfold Oper.wp;simp [execOp,b,e,resolve,invoke,builtin,f,g,i,Result.andThen];exact j
theorem xf {sz:Nat} {d:Option Addr} {l:Nat} (h:W.ownsRow b e sz (.slice d l c) n xs):l=n:=by
 rcases h.2 with ⟨a,j⟩|⟨g,cap,f,i,_⟩;·simp at a;omega
 ·simp at i;omega
theorem Ch.app {w0 a len cap R b0 W X Y c} (h:Ch w0 a len cap R b0 X Y c W) (O:c.ds.length<=1000) (d:Int) (z : -40<=d/\d<=215):∃ b f g,
  (Builtin.append_ #[24,24] 24 #[.slice c.da c.ds.length c.dc,.slice (some ⟨W.heap.size,0,none⟩) 1 1]).run prog (W.alloc (.cells #[.int .i64 d] 3))=.ok (.slice b (c.ds.length+1) f) g /\
  g.frozen? ⟨X,5,none⟩=false/\g.cell? ⟨X,5,none⟩=some (.slice c.da c.ds.length c.dc)/\Ch w0 a len cap R b0 X Y { c with ds:=c.ds++[d],da:=b,dc:=f } (g.setCell ⟨X,5,none⟩ (.slice b (c.ds.length+1) f)):=by
 obtain⟨A,l,m,n,o⟩:=GI BP;have B:=(Fc W.heap.size W).alloc (Fe _) (.cells #[.int .i64 d] 3);have j:=h.below B;have F:=j.rd.g.size;obtain⟨Q,g,G,p,q,_⟩:=run_append_own_at (P:=prog) (w:=W.alloc (.cells #[.int .i64 d] 3)) b0.heap.size 24 24 3 A _ 1 8 underlying24 l m n o rfl Z _ _ _ j.od.d ⟨W.heap.size,0,none⟩ 1 1 [.int .i64 d] rfl (eG _ _ _ _ rfl) (by intro u i;simp at i;subst i;rfl) (by unfold maxLen;omega) Z F;obtain⟨b,S,f,rfl⟩:=eW p;obtain rfl:=xf p;have K:=h.rn;have T:=h.xn;have L:∀ r,(Value.slice c.da c.ds.length c.dc).ownBlock=some r->b0.heap.size<=r/\R<r:=λr e=>by have:=(h.od.d.lt r e).1;omega
 have M:(Value.slice c.da c.ds.length c.dc).ownBlock≠some X:=dZ h.od.d h.x av;have N:(Value.slice c.da c.ds.length c.dc).ownBlock≠some Y:=dZ h.od.d h.y av;have k:g.heap[X]?=some (.cells (pP c).toArray 26):=by rw [q.block X (ai j.x) (λe=>M e.symm)];exact j.x
 have v:g.heap[Y]?=some (.cells #[.int .i64 0,.int .i64 0,.int .i64 0,.int .i64 0,.int .u64 0,.slice none 0 0] 26):=by rw [q.block Y (ai j.y) (λe=>N e.symm)];exact j.y
 have s:=j.rd.app q L;have t:g.grownBy (g.setCell ⟨X,5,none⟩ (.slice b (c.ds.length+1) f)) (some X):=au (ar g X) 5 _;have y:g.ownsRow b0.heap.size 3 1 (.slice b (c.ds.length+1) f) (c.ds++[d]).length (Ns .i64 (c.ds++[d])):=by simpa [Ns] using p
 refine⟨b,f,g,G,by simp [World.frozen?,k],by simp [World.cell?,k,pP],⟨s.app t (λr e=>by cases e;omega),K,?_,h.xn,?_,h.yn,h.xy,⟨h.od.k0,h.od.k1,?_,?_⟩⟩⟩;·simp [World.setCell,Fp,k,pP]
 ·rw [t.block Y (ai v) (λe=>by cases e;exact h.xy rfl)];exact v
 ·intro x i;rcases FM.1 i with i|i;·exact h.od.dw x i
  ·obtain rfl:=List.mem_singleton.1 i;exact z
 ·have:(Value.slice b (c.ds++[d]).length f)=.slice b (c.ds.length+1) f:=bF;show World.ownsRow _ _ _ _ (Value.slice b (c.ds++[d]).length f) _ _;rw [this];exact y.kept t (.inr (dZ y k av))
end
end Go.Proofs.YtdngbppdomoenaaGreatDoor
