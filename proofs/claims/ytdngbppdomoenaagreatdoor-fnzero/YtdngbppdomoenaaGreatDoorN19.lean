import Derived.Deep.AppendSrc
import Derived.Maps.RangeWalk
import Derived.Test.YtdngbppdomoenaaGreatDoorN11
set_option linter.unusedVariables false
set_option linter.unusedSimpArgs false
set_option maxRecDepth 20000
set_option maxHeartbeats 8000000
namespace Go.Proofs.YtdngbppdomoenaaGreatDoor
open Go.Proofs.Tryz
variable {B P n:Nat} {F:Nat->Value} {W W':World} {S:TypeId->Prop}
section
open Go.RowKit Go.Maps
structure Ly where
 P:Nat
 S:Nat
 M:Nat
 R:Nat
 sb:Nat->Nat->Nat
 sr:Nat->Nat->Nat
 sc:Nat->Nat->Nat
 sm:Nat->Nat->Nat->Nat
 qm:Nat->Nat
 qr:Nat->Nat
 qg:Nat->Nat
 qq:Nat->Nat
 da:Option Addr
 dc:Nat
structure Dy where
 f:Nat->Option Nat
 on:Nat->Nat->Bool
 lg:Nat->Option Nat
 ro:Value
 rl:Value
 an:Value
 un:Value
def Cw (c s:Nat) (on:Bool) (r n cap:Nat):Array Value:=#[I c,I s,.bool on,Vl r n cap]
def tX (st rq:Int) (b j:Nat):Array Value:=#[I st,I rq,J b 0,I j]
def oX (r:Rg9):Array Value:=#[I r.st,I r.rq,I r.first,I r.guards,I r.pages]
def Ei (cf:Cf) (y:Ly) (c k:Nat):Value:=if k=0 then J (y.qm c) 0 else if k=1 then J (y.qg c) 0 else if cf.mix=0 then .iface 82 (J (y.qg c) 0) else .iface 81 (J (y.qm c) 0)
def boxF (cf:Cf) (y:Ly) (d:Dy) (used:Nat) (i:Nat):Value :=
 if i<7 then ([I cf.mix,I cf.fifo,I cf.large,I cf.bud,U cf.key,.slice y.da cf.ds.length y.dc,J y.S 0]:List Value)[i]?.getD undef
 else if i<79 then J (y.sb ((i-7)/6) ((i-7)%6)) 0
 else if i<115 then Ei cf y ((i-79)/3) ((i-79)%3)
 else ([.map (some y.R),d.ro,d.rl,I used,d.an,d.un]:List Value)[i-115]?.getD undef
def Bxh (P:Nat) (F:Nat->Value) (W:World):Prop:=∃ c,W.heap[P]?=some (.cells c 90)/\c.size=121/\∀ i,i<121->c[i]?=some (F i)
theorem Bxh.cell {P F W} (h:Bxh P F W) (i:Nat) (a:i<121):W.cell? ⟨P,i,none⟩=some (F i):=by
 obtain⟨c,b,e,d⟩:=h;rw [Gz _ _ _ _ _ _ b];exact d i a
theorem Bxh.free (h:Bxh P F W) (i:Nat):W.frozen? ⟨P,i,none⟩=false:=by
 obtain⟨c,a,b,d⟩:=h;simp [World.frozen?,a]
theorem Bxh.lt (h:Bxh P F W):P<W.heap.size:=by
 obtain⟨c,a,_⟩:=h;exact ai a
theorem Bxh.ky (h:Bxh P F W) (k:Ky S W W') (a:¬S 90):Bxh P F W':=by
 obtain⟨c,b,d⟩:=h;exact⟨c,k.cells _ _ _ _ b a,d⟩
def kF (F:Nat->Value) (i:Nat) (v:Value):Nat->Value:=λj=>if j=i then v else F j
theorem Bxh.set (h:Bxh P F W) (i:Nat) (b:i<121) (v):Bxh P (kF F i v) (W.setCell ⟨P,i,none⟩ v):=by
 obtain⟨c,d,a,f⟩:=h;refine⟨c.setIfInBounds i v,by simp [World.setCell,Fp,d],by simpa using a,λj g=>?_⟩;rw [Fu];unfold kF;by_cases e:i=j;·subst e;simp [a,b]
 rw [Gu e,Gu (λa=>e a.symm)];exact f j g
theorem Bxh.kyS (h:Bxh P F W) (i:Nat) (v:Value):Ky (· = 90) W (W.setCell ⟨P,i,none⟩ v):=by
 obtain⟨c,a,_⟩:=h;exact Ky.grown a rfl (au (ar W P) i v)
theorem uF (cf y d u) (c:Nat):kF (boxF cf y d u) 118 (I c)=boxF cf y d c:=by
 funext i;unfold kF boxF;by_cases e:i=118;·subst e;rfl
 rw [Gu e];by_cases a:i<7;·simp [a]
 by_cases b:i<79;·simp [a,b]
 by_cases f:i<115;·simp [a,b,f]
 simp only [a,b,f,Iu];rcases (show i=115\/i=116\/i=117\/i=119\/i=120\/121<=i by omega) with rfl|rfl|rfl|rfl|rfl|g;·rfl
 ·rfl
 ·rfl
 ·rfl
 ·rfl
 rw [Ft bK,Ft bK]
theorem pj (cf y) (d:Dy) (u) (i:Nat) (v:Value) (a:Dy) (b:(i=116/\a={ d with ro:=v })\/(i=117/\a={ d with rl:=v })\/(i=119/\a={ d with an:=v })\/(i=120/\a={ d with un:=v })):kF (boxF cf y d u) i v=boxF cf y a u:=by
 funext j;unfold kF boxF;by_cases c:j<7
 ·have:j≠i:=by rcases b with ⟨h,_⟩|⟨h,_⟩|⟨h,_⟩|⟨h,_⟩ <;> omega
  rw [Gu this];simp [c]
 by_cases e:j<79
 ·have:j≠i:=by rcases b with ⟨h,_⟩|⟨h,_⟩|⟨h,_⟩|⟨h,_⟩ <;> omega
  rw [Gu this];simp [c,e]
 by_cases f:j<115
 ·have:j≠i:=by rcases b with ⟨h,_⟩|⟨h,_⟩|⟨h,_⟩|⟨h,_⟩ <;> omega
  rw [Gu this];simp [c,e,f]
 simp only [c,e,f,Iu];by_cases g:121<=j;·rw [Gu (by rcases b with ⟨h,_⟩|⟨h,_⟩|⟨h,_⟩|⟨h,_⟩ <;> omega),Ft bK,Ft bK]
 rcases b with ⟨rfl,rfl⟩|⟨rfl,rfl⟩|⟨rfl,rfl⟩|⟨rfl,rfl⟩ <;> rcases (show j=115\/j=116\/j=117\/j=118\/j=119\/j=120 by omega) with rfl|rfl|rfl|rfl|rfl|rfl <;> rfl
structure Mr (R n:Nat) (lo:Nat->Option Nat) (W:World):Prop where
 map:∃ D:DataW Unit,W.ownsMap prog 23 eM R 4096 D/\Maps.size D<=n/\(∀ k:Nat,k<18446744073709551616->D.atKey (.int .u64 k) .nil=sD (lo k))/\∀ k:Nat,k<18446744073709551616->has D (.int .u64 k)=(lo k).isSome
theorem Mr.same {R lo} (h:Mr R n lo W) (b:W'.heap[R]?=W.heap[R]?):Mr R n lo W':=by
 obtain⟨a,⟨d,c,e,f⟩,g⟩:=h.map;exact⟨a,⟨d,c,b.trans e,f⟩,g⟩
theorem Mr.typ {R lo} (h:Mr R n lo W):∃ b c,W.heap[R]?=some (.map b c):=by
 obtain⟨a,⟨b,c,d,e⟩,f⟩:=h.map;exact⟨b,c,d⟩
def Um (B:Nat) (W:World) (v:Value) (l:List Nat):Prop:=(v=C/\l=[])\/∃ (g o cap:Nat) (c:Array Value),v=.slice (some ⟨g,o,none⟩) l.length cap/\B<=g/\W.heap[g]?=some (.cells c 23)/\o+cap=c.size/\l.length<=cap/\cap<=maxLen/\(∀ u∈c.toList,u.oneCell'=true)/\∀ i,i<l.length->c[o+i]?=some (U ((l[i]?.getD 0:Nat):Int))
theorem Um.ky {v l} (h:Um B W v l) (k:Ky S W W') (b:¬S 23):Um B W' v l:=by
 rcases h with h|⟨g,o,a,c,d,e,f,i⟩;·exact .inl h
 exact .inr ⟨g,o,a,c,d,e,k.cells _ _ _ _ f b,i⟩
def eu:Value->Option Nat
 | .slice (some a) _ _=>some a.block
 | _=>none
structure E8 (B:Nat) (y:Ly):Prop where
 b0:0<B
 bP:B<=y.P
 bS:B<=y.S
 bM:B<=y.M
 bR:B<=y.R
 mr:y.M≠y.R
 bsb:∀ c s,c<12->s<6->B<=y.sb c s
 bsr:∀ c s,c<12->s<6->B<=y.sr c s
 bsm:∀ c s j,c<12->s<6->j<aM c->B<=y.sm c s j
 bq:∀ c,c<12->B<=y.qm c/\B<=y.qr c/\B<=y.qg c/\B<=y.qq c
 isb:∀ c s c' s',c<12->s<6->c'<12->s'<6->y.sb c s=y.sb c' s'->c=c'/\s=s'
 ism:∀ c s j c' s' j',c<12->s<6->j<aM c->c'<12->s'<6->j'<aM c'->y.sm c s j=y.sm c' s' j'->c=c'/\s=s'/\j=j'
 iq:∀ c c',c<12->c'<12->c≠c'->y.qr c≠y.qr c'/\y.qr c≠y.qq c'/\y.qq c≠y.qq c'/\y.qg c≠y.qg c'
 da:∀ a,y.da=some a->a.block<B
structure Hp (B:Nat) (y:Ly) (d:Dy) (cf:Cf) (h:Hs) (W:World):Prop where
 ap:E8 B y
 bW:B<=W.heap.size
 box:Bxh y.P (boxF cf y d h.used) W
 ds:Sl W y.da cf.ds
 sp:Im y.S y.M 0 283 (cf.bud:Nat) d.f W
 pg:Pg d.f h.m W
 bf:∀ k g,d.f k=some g->B<=g
 sl:∀ c s,c<12->s<6->W.heap[y.sb c s]?=some (.cells (Cw c s (d.on c s) (y.sr c s) (aM c) (y.sc c s)) 173)
 rw:∀ c s,c<12->s<6->RowV W (y.sr c s) 174 ((List.range (aM c)).map λj=>J (y.sm c s j) 0)
 sm:∀ c s j,c<12->s<6->j<aM c->W.heap[y.sm c s j]?=some (.cells (tX (h.st c s j) (h.rq c s j) (y.sb c s) j) 178)
 wt:∀ c,c<12->Qr W (y.qm c) (y.qr c) (y.qg c) (y.qq c) cf.fifo (h.mx c) (h.ff c)
 mp:Mr y.R h.rg.length d.lg W
 lo:∀ k,(d.lg k).isSome=h.rg.any λr=>r.base==k
 lb:∀ r∈h.rg,∃ g,d.lg r.base=some g/\B<=g/\W.heap[g]?=some (.cells (oX r) 197)
 li:∀ k k' g,d.lg k=some g->d.lg k'=some g->k=k'
 ro:Um B W d.ro h.row
 rl:W.ownsRow B 23 1 d.rl h.rel.length (Us h.rel)
 rr:∀ g,eu d.ro=some g->d.rl.ownBlock≠some g
 tb:Tb W
def EB (d:Dy) (h:Hs):Prop:=∀ c s,c<12->s<6->d.on c s=dy h c s
structure EZ (S:TypeId->Prop) (y:Ly) (W W':World):Prop where
 ky:Ky S W W'
 m:W'.heap[y.M]?=W.heap[y.M]?
 r:W'.heap[y.R]?=W.heap[y.R]?
theorem Im.ky {A M st n bud f} (h:Im A M st n bud f W) (k:Ky S W W') (b:¬S 162) (d:W'.heap[M]?=W.heap[M]?):Im A M st n bud f W':=by
 obtain⟨a,⟨e,c,g,i⟩,j⟩:=h.map;exact⟨k.cells _ _ _ _ h.box b,a,⟨e,c,d.trans g,i⟩,j⟩
theorem Pg.ky {f m} (h:Pg f m W) (k:Ky S W W') (d:¬S 194):Pg f m W':=by
 refine h.other (λj b c=>?_);rcases h.at' j with ⟨a,_⟩|⟨e,l,g,a,_,_,b⟩;·rw [c] at a;cases a
 rw [c] at a;cases a;rw [k.cells _ _ _ _ b d,b]
theorem Qr.ky {M rm G rq mix fifo} (h:Qr W M rm G rq n mix fifo) (k:Ky S W W') (f:¬S 169) (i:¬S 167) (d:¬S 3):Qr W' M rm G rq n mix fifo:=by
 obtain⟨⟨a,b⟩,⟨ps,o,j,c,e,g⟩,l⟩:=h;exact⟨⟨k.cells _ _ _ _ a f,cS b k d⟩,⟨ps,o,j,k.cells _ _ _ _ c i,cS e k d,g⟩,l⟩
theorem Tb.belowB (h:Tb W) (a:Below B W W') (b:0<B):Tb W':=by
 obtain⟨t,c,h⟩:=h.row;exact⟨t,c,by rw [a.block 0 b];exact h⟩
theorem Sl.belowB {a zs} (h:Sl W a zs) (b:Below B W W') (ha:∀ x,a=some x->x.block<B):Sl W' a zs:=by
 rcases h with h|⟨g,e,c,d,f⟩;·exact .inl h
 exact .inr ⟨g,e,c,by rw [b.block g (ha _ e)];exact d,f⟩
theorem Hp.keep {y d cf h} (a:Hp B y d cf h W) (k:EZ (λt=>t≠90/\t≠162/\t≠194/\t≠173/\t≠174/\t≠178/\t≠169/\t≠167/\t≠3/\t≠197/\t≠23) y W W') (b:Below B W W'):Hp B y d cf h W' :=
 ⟨a.ap,Fg a.bW b.size,a.box.ky k.ky av,a.ds.belowB b a.ap.da,a.sp.ky k.ky av k.m,a.pg.ky k.ky av,a.bf,
 λc s e f=>k.ky.cells _ _ _ _ (a.sl c s e f) av,λc s e f=>cS (a.rw c s e f) k.ky av,λc s j e f i=>k.ky.cells _ _ _ _ (a.sm c s j e f i) av,
 λc e=>(a.wt c e).ky k.ky av av av,a.mp.same k.r,a.lo,λr l=>by obtain ⟨g,m,n,o⟩:=a.lb r l;exact⟨g,m,n,k.ky.cells _ _ _ _ o av⟩,a.li,a.ro.ky k.ky av,aj a.rl k.ky av,a.rr,a.tb.belowB b a.ap.b0⟩
theorem Hp.below {B y d cf h W W'} (a:Hp B y d cf h W) (b:D W W'):Hp B y d cf h W':=by
 obtain⟨f,c,e⟩:=a.mp.typ;exact a.keep ⟨Ky.below b,b.block _ a.sp.lt.2,b.block _ (ai e)⟩ (b.mono a.bW)
theorem Hp.cell {B y d cf h W} (a:Hp B y d cf h W) (i:Nat) (b:i<121) (v:Value) (c:boxF cf y d h.used i=v):W.cell? ⟨y.P,i,none⟩=some v:=by rw [a.box.cell i b,c]
def jc (mi fi la bu:Int) (dn:Nat):Prop:=0<=mi/\mi<=16/\1<=fi/\fi<=32/\1<=la/\la<=16/\0<=bu/\bu<=283/\dn<=20000
instance (mi fi la bu:Int) (dn:Nat):Decidable (jc mi fi la bu dn):=by unfold jc;infer_instance
structure Cg (X:Nat) (mi fi la bu ky:Int) (da:Option Addr) (dn dc:Nat) (W V:World):Prop where
 c0:V.cell? ⟨X,0,none⟩=some (I mi)
 c1:V.cell? ⟨X,1,none⟩=some (I fi)
 c2:V.cell? ⟨X,2,none⟩=some (I la)
 c3:V.cell? ⟨X,3,none⟩=some (I bu)
 c5:V.cell? ⟨X,5,none⟩=some (.slice da dn dc)
 tb:Tb V
 bel:D W V
theorem Cg.below {X mi fi la bu ky da dn dc V V'} (h:Cg X mi fi la bu ky da dn dc W V) (b:D V V'):Cg X mi fi la bu ky da dn dc W V' :=
 ⟨ad b h.c0,ad b h.c1,ad b h.c2,ad b h.c3,ad b h.c5,h.tb.ofBelow b,h.bel.trans (b.mono h.bel.size)⟩
theorem Cg.of {mi fi la bu ky da dn dc} (a:Tb W):Cg W.heap.size mi fi la bu ky da dn dc W (W.alloc (.cells #[I mi,I fi,I la,I bu,U ky,.slice da dn dc] 26)):=by
 have h:=ao W (.cells #[I mi,I fi,I la,I bu,U ky,.slice da dn dc] 26);have b:D W (W.alloc (.cells #[I mi,I fi,I la,I bu,U ky,.slice da dn dc] 26)):=(Fc _ _).alloc (Fe _) _;refine⟨?_,?_,?_,?_,?_,a.ofBelow b,b⟩ <;> (rw [Gz _ _ _ _ _ _ h];rfl)
theorem tZ (mi fi la bu ky) (i:Option Addr) (f j:Nat) (W) (b:Tb W) :
  Calls prog 30 #[.agg #[I mi,I fi,I la,I bu,U ky,.slice i f j]] W λe W'=>e=.returned (.bool (decide (jc mi fi la bu f)))/\D W W':=by
 obtain⟨m,a⟩:∃ m,decide (jc mi fi la bu f)=m:=⟨_,rfl⟩;rw [a];have c:=H a;have d:=H (Cg.of (mi:=mi) (fi:=fi) (la:=la) (bu:=bu) (ky:=ky) (da:=i) (dn:=f) (dc:=j) b);clear b a;go_enter func30,ntmps30;go_upto_region 1 with fail
 have k:=H (d.below (Fc _ _).drew);clear d;generalize W.alloc _=g at k ⊢;obtain⟨X,a⟩:∃ X,X=W.heap.size:=⟨_,rfl⟩;rw [<-a] at k ⊢;clear a;refine rh (S:=Cg X mi fi la bu ky i f j W) ?_;generalize b:g.drew=o at k;have a:({ heap:=g.heap,tape:=g.tape,drawn:=g.drawn+1,os:=g.os,output:=g.output } : World)=o:=b;rw [a];clear b a;have b:=k.out;refine pk 0 (J X 0) b ?_;refine pz 1 (I mi) b ?_;cases d:decide (0<=mi);·refine pz 2 (.bool false) b ?_;refine pk 3 (.bool false) b ?_;refine ps 4 b ?_;refine ps 5 b ?_;refine ps 6 b ?_;refine pz 7 (.bool false) b ?_;refine pk 8 (.bool false) b ?_;refine ps 9 b ?_;refine ps 10 b ?_;refine ps 11 b ?_;refine pz 12 (.bool false) b ?_;refine pk 13 (.bool false) b ?_;refine ps 14 b ?_;refine ps 15 b ?_;refine ps 16 b ?_;refine pz 17 (.bool false) b ?_;refine pk 18 (.bool false) b ?_;refine ps 19 b ?_;refine ps 20 b ?_;refine ps 21 b ?_;refine pz 22 (.bool false) b ?_;refine pk 23 (.bool false) b ?_;refine ps 24 b ?_;refine ps 25 b ?_;refine ps 26 b ?_;refine pz 27 (.bool false) b ?_;refine pk 28 (.bool false) b ?_;refine ps 29 b ?_;refine ps 30 b ?_;refine ps 31 b ?_;refine pz 32 (.bool false) b ?_;refine pk 33 (.bool false) b ?_;refine ps 34 b ?_;refine ps 35 b ?_;refine ps 36 b ?_;refine ps 37 b ?_;refine pz 38 (.bool false) b ?_;refine pk 39 (.bool false) b ?_;refine ps 40 b ?_;refine ps 41 b ?_;refine ps 42 b ?_;refine ps 43 b ?_;refine pz 44 (.bool false) b ?_;refine pk 45 (.bool false) b ?_;refine bN ?_;go_wp2;go_ret;exact⟨by rw [<-c.out,Gy (by unfold jc;simp at d;omega)];rfl,b.bel⟩
 refine pz 2 (.bool true) b ?_;refine pk 3 (.bool true) b ?_;refine pk 4 (J X 0) b ?_;refine pz 5 (I mi) b ?_;cases d:decide (mi<=16);·refine pz 6 (.bool false) b ?_;refine pz 7 (.bool false) b ?_;refine pk 8 (.bool false) b ?_;refine ps 9 b ?_;refine ps 10 b ?_;refine ps 11 b ?_;refine pz 12 (.bool false) b ?_;refine pk 13 (.bool false) b ?_;refine ps 14 b ?_;refine ps 15 b ?_;refine ps 16 b ?_;refine pz 17 (.bool false) b ?_;refine pk 18 (.bool false) b ?_;refine ps 19 b ?_;refine ps 20 b ?_;refine ps 21 b ?_;refine pz 22 (.bool false) b ?_;refine pk 23 (.bool false) b ?_;refine ps 24 b ?_;refine ps 25 b ?_;refine ps 26 b ?_;refine pz 27 (.bool false) b ?_;refine pk 28 (.bool false) b ?_;refine ps 29 b ?_;refine ps 30 b ?_;refine ps 31 b ?_;refine pz 32 (.bool false) b ?_;refine pk 33 (.bool false) b ?_;refine ps 34 b ?_;refine ps 35 b ?_;refine ps 36 b ?_;refine ps 37 b ?_;refine pz 38 (.bool false) b ?_;refine pk 39 (.bool false) b ?_;refine ps 40 b ?_;refine ps 41 b ?_;refine ps 42 b ?_;refine ps 43 b ?_;refine pz 44 (.bool false) b ?_;refine pk 45 (.bool false) b ?_;refine bN ?_;go_wp2;go_ret;exact⟨by rw [<-c.out,Gy (by unfold jc;simp at d;omega)];rfl,b.bel⟩
 refine pz 6 (.bool true) b ?_;refine pz 7 (.bool true) b ?_;refine pk 8 (.bool true) b ?_;refine pk 9 (J X 1) b ?_;refine pz 10 (I fi) b ?_;cases d:decide (1<=fi);·refine pz 11 (.bool false) b ?_;refine pz 12 (.bool false) b ?_;refine pk 13 (.bool false) b ?_;refine ps 14 b ?_;refine ps 15 b ?_;refine ps 16 b ?_;refine pz 17 (.bool false) b ?_;refine pk 18 (.bool false) b ?_;refine ps 19 b ?_;refine ps 20 b ?_;refine ps 21 b ?_;refine pz 22 (.bool false) b ?_;refine pk 23 (.bool false) b ?_;refine ps 24 b ?_;refine ps 25 b ?_;refine ps 26 b ?_;refine pz 27 (.bool false) b ?_;refine pk 28 (.bool false) b ?_;refine ps 29 b ?_;refine ps 30 b ?_;refine ps 31 b ?_;refine pz 32 (.bool false) b ?_;refine pk 33 (.bool false) b ?_;refine ps 34 b ?_;refine ps 35 b ?_;refine ps 36 b ?_;refine ps 37 b ?_;refine pz 38 (.bool false) b ?_;refine pk 39 (.bool false) b ?_;refine ps 40 b ?_;refine ps 41 b ?_;refine ps 42 b ?_;refine ps 43 b ?_;refine pz 44 (.bool false) b ?_;refine pk 45 (.bool false) b ?_;refine bN ?_;go_wp2;go_ret;exact⟨by rw [<-c.out,Gy (by unfold jc;simp at d;omega)];rfl,b.bel⟩
 refine pz 11 (.bool true) b ?_;refine pz 12 (.bool true) b ?_;refine pk 13 (.bool true) b ?_;refine pk 14 (J X 1) b ?_;refine pz 15 (I fi) b ?_;cases d:decide (fi<=32);·refine pz 16 (.bool false) b ?_;refine pz 17 (.bool false) b ?_;refine pk 18 (.bool false) b ?_;refine ps 19 b ?_;refine ps 20 b ?_;refine ps 21 b ?_;refine pz 22 (.bool false) b ?_;refine pk 23 (.bool false) b ?_;refine ps 24 b ?_;refine ps 25 b ?_;refine ps 26 b ?_;refine pz 27 (.bool false) b ?_;refine pk 28 (.bool false) b ?_;refine ps 29 b ?_;refine ps 30 b ?_;refine ps 31 b ?_;refine pz 32 (.bool false) b ?_;refine pk 33 (.bool false) b ?_;refine ps 34 b ?_;refine ps 35 b ?_;refine ps 36 b ?_;refine ps 37 b ?_;refine pz 38 (.bool false) b ?_;refine pk 39 (.bool false) b ?_;refine ps 40 b ?_;refine ps 41 b ?_;refine ps 42 b ?_;refine ps 43 b ?_;refine pz 44 (.bool false) b ?_;refine pk 45 (.bool false) b ?_;refine bN ?_;go_wp2;go_ret;exact⟨by rw [<-c.out,Gy (by unfold jc;simp at d;omega)];rfl,b.bel⟩
 refine pz 16 (.bool true) b ?_;refine pz 17 (.bool true) b ?_;refine pk 18 (.bool true) b ?_;refine pk 19 (J X 2) b ?_;refine pz 20 (I la) b ?_;cases d:decide (1<=la);·refine pz 21 (.bool false) b ?_;refine pz 22 (.bool false) b ?_;refine pk 23 (.bool false) b ?_;refine ps 24 b ?_;refine ps 25 b ?_;refine ps 26 b ?_;refine pz 27 (.bool false) b ?_;refine pk 28 (.bool false) b ?_;refine ps 29 b ?_;refine ps 30 b ?_;refine ps 31 b ?_;refine pz 32 (.bool false) b ?_;refine pk 33 (.bool false) b ?_;refine ps 34 b ?_;refine ps 35 b ?_;refine ps 36 b ?_;refine ps 37 b ?_;refine pz 38 (.bool false) b ?_;refine pk 39 (.bool false) b ?_;refine ps 40 b ?_;refine ps 41 b ?_;refine ps 42 b ?_;refine ps 43 b ?_;refine pz 44 (.bool false) b ?_;refine pk 45 (.bool false) b ?_;refine bN ?_;go_wp2;go_ret;exact⟨by rw [<-c.out,Gy (by unfold jc;simp at d;omega)];rfl,b.bel⟩
 refine pz 21 (.bool true) b ?_;refine pz 22 (.bool true) b ?_;refine pk 23 (.bool true) b ?_;refine pk 24 (J X 2) b ?_;refine pz 25 (I la) b ?_;cases d:decide (la<=16);·refine pz 26 (.bool false) b ?_;refine pz 27 (.bool false) b ?_;refine pk 28 (.bool false) b ?_;refine ps 29 b ?_;refine ps 30 b ?_;refine ps 31 b ?_;refine pz 32 (.bool false) b ?_;refine pk 33 (.bool false) b ?_;refine ps 34 b ?_;refine ps 35 b ?_;refine ps 36 b ?_;refine ps 37 b ?_;refine pz 38 (.bool false) b ?_;refine pk 39 (.bool false) b ?_;refine ps 40 b ?_;refine ps 41 b ?_;refine ps 42 b ?_;refine ps 43 b ?_;refine pz 44 (.bool false) b ?_;refine pk 45 (.bool false) b ?_;refine bN ?_;go_wp2;go_ret;exact⟨by rw [<-c.out,Gy (by unfold jc;simp at d;omega)];rfl,b.bel⟩
 refine pz 26 (.bool true) b ?_;refine pz 27 (.bool true) b ?_;refine pk 28 (.bool true) b ?_;refine pk 29 (J X 3) b ?_;refine pz 30 (I bu) b ?_;cases d:decide (0<=bu);·refine pz 31 (.bool false) b ?_;refine pz 32 (.bool false) b ?_;refine pk 33 (.bool false) b ?_;refine ps 34 b ?_;refine ps 35 b ?_;refine ps 36 b ?_;refine ps 37 b ?_;refine pz 38 (.bool false) b ?_;refine pk 39 (.bool false) b ?_;refine ps 40 b ?_;refine ps 41 b ?_;refine ps 42 b ?_;refine ps 43 b ?_;refine pz 44 (.bool false) b ?_;refine pk 45 (.bool false) b ?_;refine bN ?_;go_wp2;go_ret;exact⟨by rw [<-c.out,Gy (by unfold jc;simp at d;omega)];rfl,b.bel⟩
 refine pz 31 (.bool true) b ?_;refine pz 32 (.bool true) b ?_;refine pk 33 (.bool true) b ?_;refine pk 34 (J X 3) b ?_;refine pz 35 (I bu) b ?_;refine po 36 λK' p=>?_;go_simp;refine (eZ _ b.tb).mono ?_;rintro e a ⟨rfl,n⟩;have l:=b.below n;refine p _ _ ⟨l,?_⟩;clear b n;have b:=l;clear l
 cases d:decide (bu<=283);·refine pz 37 (.bool false) b ?_;refine pz 38 (.bool false) b ?_;refine pk 39 (.bool false) b ?_;refine ps 40 b ?_;refine ps 41 b ?_;refine ps 42 b ?_;refine ps 43 b ?_;refine pz 44 (.bool false) b ?_;refine pk 45 (.bool false) b ?_;refine bN ?_;go_wp2;go_ret;exact⟨by rw [<-c.out,Gy (by unfold jc;simp at d;omega)];rfl,b.bel⟩
 refine pz 37 (.bool true) b ?_;refine pz 38 (.bool true) b ?_;refine pk 39 (.bool true) b ?_;refine pk 40 (J X 5) b ?_;refine pz 41 (.slice i f j) b ?_;refine pz 42 (I f) b ?_;cases d:decide ((f:Int)<=20000);·refine pz 43 (.bool false) b ?_;refine pz 44 (.bool false) b ?_;refine pk 45 (.bool false) b ?_;refine bN ?_;go_wp2;go_ret;exact⟨by rw [<-c.out,Gy (by unfold jc;simp at d;omega)];rfl,b.bel⟩
 refine pz 43 (.bool true) b ?_;refine pz 44 (.bool true) b ?_;refine pk 45 (.bool true) b ?_;refine bN ?_;go_wp2;go_ret;exact⟨by rw [<-c.out,GJ (by unfold jc;simp only [GX] at *;omega)];rfl,b.bel⟩
end
end Go.Proofs.YtdngbppdomoenaaGreatDoor
