import Derived.Deep.AppendSrc
import Derived.Maps.RangeWalk
import Derived.Test.YtdfodlhkdmkfdaaGreatDoorN11
set_option linter.unusedVariables false
set_option linter.unusedSimpArgs false
set_option maxRecDepth 20000
set_option maxHeartbeats 8000000
namespace Go.Proofs.YtdfodlhkdmkfdaaGreatDoor
open Go.Proofs.Tryz
variable {B P c n:Nat} {V W W':World} {F:Nat->Value} {S:TypeId->Prop} {cf:Cf} {h:Hs}
section
open Go.RowKit
theorem Eo {s j:Nat} (a:c<12):(rs (c:Int)+(s:Int)*(pg (c:Int)+1))*1024+(j:Int)*sz (c:Int)=((bF c s j:Nat):Int):=by
 rw [zt a,sY a,xH a];unfold bF aF;simp
theorem Tb.ofBelow (h:Tb W) (a:D W W'):Tb W':=by
 obtain⟨t,b,h⟩:=h.row;exact⟨t,b,by rw [a.block 0 (ah h)];exact h⟩
theorem gp (a:Addr) (W:World):Calls prog 287 #[.pointer (some a)] W λe W'=>e=.returned (.pointer (some a))/\W'=W:=by
 go_enter func287,ntmps287;go_wp2;go_ret;exact⟨rfl,rfl⟩
structure Sc (g b c s j:Nat) (W:World):Prop where
 c2:W.cell? ⟨g,2,none⟩=some (J b 0)
 c3:W.cell? ⟨g,3,none⟩=some (I j)
 d0:W.cell? ⟨b,0,none⟩=some (I c)
 d1:W.cell? ⟨b,1,none⟩=some (I s)
 tb:Tb W
 hc:c<12
 hs:s<6
 hj:j<aU c
theorem Sc.below {g b s j} (h:Sc g b c s j W) (k:D W W'):Sc g b c s j W':=⟨ol k h.c2,ol k h.c3,ol k h.d0,ol k h.d1,h.tb.ofBelow k,h.hc,h.hs,h.hj⟩
theorem fp (g b c s j W) (h:Sc g b c s j W) :
  Calls prog 113 #[J g 0] W λe W'=>e=.returned (U (bF c s j:Nat))/\D W W':=by
 obtain⟨i,m,n,o,p,f,q,r⟩:=h;have a:=H (lG (c:Nat) (s:Nat) (j:Nat) ⟨Z,Z,Z,Z,Z,by rw [wO f];omega⟩ W.drew ⟨p.row⟩);rw [Eo f] at a;have l:=H (show ∀ d,D W d->d.cell? ⟨g,2,none⟩=some (J b 0)/\d.cell? ⟨g,3,none⟩=some (I j)/\d.cell? ⟨b,0,none⟩=some (I c)/\d.cell? ⟨b,1,none⟩=some (I s) from λd k=>⟨ol k i,ol k m,ol k n,ol k o⟩);clear p f q r i m n o;go_enter func113,ntmps113;go_upto_region 1 with fail
 refine rh (S:=λd=>d.cell? ⟨g,2,none⟩=some (J b 0)/\d.cell? ⟨g,3,none⟩=some (I j)/\d.cell? ⟨b,0,none⟩=some (I c)/\d.cell? ⟨b,1,none⟩=some (I s)) ?_;have i:=l.out _ (Jn _ _).drew;iterate 18 (refine py i ?_;simp only [f0,f1,Nat.reduceAdd,lz,l0,ls])
 refine po 18 λK' n=>?_;go_simp;refine (a).mono ?_;rintro e o ⟨rfl,f⟩;have k:D W o:=⟨f.os,f.tape,f.output,f.size,f.block⟩;have m:=l.out _ k;refine n _ _ ⟨m,?_⟩;clear i;have i:=m;clear n K'
 iterate 5 (refine py i ?_;simp only [f0,f1,Nat.reduceAdd,lz,l0,ls])
 refine bY ?_;have n:=H k;clear k f i m a l;go_wp2;go_ret;exact⟨rfl,n⟩
theorem mS (g b c s j W) (h:Sc g b c s j W) :
  Calls prog 170 #[J g 0] W λe W'=>e=.returned (I (fy c:Nat))/\W'=W:=by
 obtain⟨n,i,o,k,d,f,l,m⟩:=h;have a:=H (xm (c:Nat) W d);rw [Gc f] at a;clear d f i k l m;go_enter func170,ntmps170;go_wp2_with fail;refine (a).mono ?_;rintro e d ⟨rfl,rfl⟩;go_wp2;go_ret;exact⟨rfl,rfl⟩
theorem lh (g b c s j W) (h:Sc g b c s j W) :
  Calls prog 110 #[J g 0] W λe W'=>e=.returned (U (bF c s j+fy c:Nat))/\D W W':=by
 have a:=H (fp g b c s j W h);have d:=H (λW' (f:D W W')=>mS g b c s j W' (h.below f));have ha:=cY h.hc h.hs h.hj;have f:=bI h.hc;have k:fy c<=1016:=Z;have l:=H (show ((bF c s j+fy c:Nat):Int)=(bF c s j:Int)+(fy c:Int) by omega);have m:bF c s j<=200000:=Z;generalize bF c s j=A at *;generalize fy c=u at *;clear h ha f;go_enter func110,ntmps110;go_wp2_with fail;refine (a).mono ?_;rintro e n ⟨rfl,f⟩;have i:=H f;clear f a;go_wp2_with fail;refine (d _ i).mono ?_;rintro e a ⟨rfl,rfl⟩;clear d;go_wp2;go_ret;refine⟨?_,i⟩;rw [l.out];rfl
theorem lr (a:Nat) (W:World) (ha:a<18446744073709551616) :
  Calls prog 160 #[U a] W λe W'=>e=.returned (I (aS a:Nat))/\W'=W:=by
 unfold aS;by_cases c:a%1024 > 0;·rw [tm c];have b:=H (show (((a/1024+1:Nat):Nat):Int)=(a:Int)/1024+1 by omega);go_enter func160,ntmps160;go_wp2;go_ret;rw [b.out];exact⟨rfl,rfl⟩
 rw [tg c];have b:=H (show (((a/1024+0:Nat):Nat):Int)=(a:Int)/1024 by omega);go_enter func160,ntmps160;go_wp2;go_ret;rw [b.out];exact⟨rfl,rfl⟩
structure Lc (g:Nat) (r:Rg9) (W:World):Prop where
 c0:W.cell? ⟨g,0,none⟩=some (I r.st)
 c1:W.cell? ⟨g,1,none⟩=some (I r.rq)
 c2:W.cell? ⟨g,2,none⟩=some (I r.first)
 c3:W.cell? ⟨g,3,none⟩=some (I r.guards)
 c4:W.cell? ⟨g,4,none⟩=some (I r.pages)
 hf:r.first<=300
 hu:r.guards<=3
 hp:r.pages<=18014398509481984
theorem Lc.below {g r} (h:Lc g r W) (k:D W W'):Lc g r W':=⟨ol k h.c0,ol k h.c1,ol k h.c2,ol k h.c3,ol k h.c4,h.hf,h.hu,h.hp⟩
theorem iK (g r W) (h:Lc g r W) :
  Calls prog 162 #[J g 0] W λe W'=>e=.returned (U r.base)/\W'=W.drew:=by
 obtain⟨_,_,b,c,_,d,i,_⟩:=h;have a:=H (show ((r.base:Nat):Int)=((r.first:Int)+(r.guards:Int))*1024 by unfold Rg9.base;omega);generalize r.first=f at *
 generalize r.guards=u at *;go_enter func162,ntmps162;go_wp2;go_region;go_wp2;go_ret;rw [a.out];exact⟨rfl,rfl⟩
theorem ue (g r W) (h:Lc g r W) (a:r.pages<=300) :
  Calls prog 288 #[J g 0] W λe W'=>e=.returned (I (r.pages*1024:Nat))/\W'=W:=by
 obtain⟨_,_,_,_,c,_,_,_⟩:=h;have b:=H (show ((r.pages*1024:Nat):Int)=(r.pages:Int)*1024 by omega);generalize r.pages=p at *;go_enter func288,ntmps288;go_wp2;go_ret;rw [b.out];exact⟨rfl,rfl⟩
theorem ja (g r W) (h:Lc g r W) :
  Calls prog 120 #[J g 0] W λe W'=>e=.returned (I r.ext)/\W'=W.drew:=by
 obtain⟨_,_,_,b,c,_,d,f⟩:=h;have a:=H (show ((r.ext:Nat):Int)=(r.guards:Int)+(r.pages:Int)+1 by unfold Rg9.ext;omega);generalize r.guards=u at *;generalize r.pages=p at *;go_enter func120,ntmps120;go_wp2;go_region;go_wp2;go_ret;rw [a.out];exact⟨rfl,rfl⟩
theorem ei (x:Int) (a:0<=x) (b:x<18446744073709551616):IntKind.u64.wrap x=x:=by
 rw [eW];omega
theorem zh (c:Nat) (W:World) (a:c<12):Calls prog 96 #[I c] W λe W'=>e=.returned (I (fy c:Nat))/\D W W':=by
 refine (pT (c:Int) W).mono ?_;rintro e W' ⟨rfl,b⟩;exact⟨ct (Gc a),b⟩
theorem y8 (c:Nat) (W:World) (a:c<12):Calls prog 133 #[I c] W λe W'=>e=.returned (I (cR c:Nat))/\D W W':=by
 refine (dV (c:Int) W).mono ?_;rintro e W' ⟨rfl,b⟩;exact⟨ct (xH a),b⟩
theorem pU (c a:Nat) (v1 v2 v4 v5) (W:World) (n:c<12) (ha:a<=1000000) :
  Calls prog 138 #[.agg #[I c,I v1,I v2,U a,I v4,I v5]] W λe W'=>e=.returned (U (a+fy c:Nat))/\Below W.heap.size W W':=by
 have X:=av W (.cells #[I c,I v1,I v2,U a,I v4,I v5] 100);have g:=H (show Below W.heap.size W (W.alloc (.cells #[I c,I v1,I v2,U a,I v4,I v5] 100)) from (Jn _ _).alloc (Jo _) _);have i:(W.alloc (.cells #[I c,I v1,I v2,U a,I v4,I v5] 100)).cell? ⟨W.heap.size,0,none⟩=some (I c):=by simp only [World.cell?,X];rfl
 have j:(W.alloc (.cells #[I c,I v1,I v2,U a,I v4,I v5] 100)).cell? ⟨W.heap.size,3,none⟩=some (U a):=by simp only [World.cell?,X];rfl
 have b:=H (λV=>zh c V n);have d:=bI n;have p:fy c<=1016:=Z;have q:=H (show ((a+fy c:Nat):Int)=(a:Int)+(fy c:Int) by omega);generalize fy c=u at *;clear X d;go_enter func138,ntmps138;go_wp2;generalize W.alloc _=V at g i j ⊢;generalize k:W.heap.size=X at *
 go_region_with (first|(go_at_call 96;refine (b _).mono ?_;rintro e o ⟨rfl,d⟩;have f:Below V.heap.size V o:=⟨d.os,d.tape,d.output,d.size,d.block⟩;have l:=ol f j;have m:=ol f i))
 all_goals (
  have r:=H (show Below X W o from g.trans (f.mono (by have:=g.size;omega)))
  clear f d l m i j
  go_wp2
  go_ret
  refine⟨?_,k▸r.out⟩
  show Ending.returned (U (IntKind.u64.wrap ((a:Int)+IntKind.u64.wrap (u:Int))))=_
  rw [ei (u:Int) Z Z,ei _ Z Z,q.out])
end
section
open Go.RowKit Go.Maps
structure Ly where
 P:Nat
 S:Nat
 M:Nat
 R:Nat
 sb:Nat->Nat->Nat
 sr:Nat->Nat->Nat
 sc:Nat->Nat->Nat
 sm:Nat->Nat->Nat->Nat
 qm:Nat->Nat
 qr:Nat->Nat
 qg:Nat->Nat
 qq:Nat->Nat
 da:Option Addr
 dc:Nat
structure Dy where
 f:Nat->Option Nat
 on:Nat->Nat->Bool
 lg:Nat->Option Nat
 ro:Value
 rl:Value
 an:Value
 un:Value
def FO (c s:Nat) (on:Bool) (r n cap:Nat):Array Value:=#[I c,I s,.bool on,Vl r n cap]
def wu (st rq:Int) (b j:Nat):Array Value:=#[I st,I rq,J b 0,I j]
def qk (r:Rg9):Array Value:=#[I r.st,I r.rq,I r.first,I r.guards,I r.pages]
def Ij (cf:Cf) (y:Ly) (c k:Nat):Value:=if k=0 then J (y.qm c) 0 else if k=1 then J (y.qg c) 0 else if cf.mix=0 then .iface 71 (J (y.qg c) 0) else .iface 70 (J (y.qm c) 0)
def boxF (cf:Cf) (y:Ly) (d:Dy) (used:Nat) (i:Nat):Value :=
 if i<7 then ([I cf.mix,I cf.fifo,I cf.large,I cf.bud,U cf.key,.slice y.da cf.ds.length y.dc,J y.S 0]:List Value)[i]?.getD undef
 else if i<79 then J (y.sb ((i-7)/6) ((i-7)%6)) 0
 else if i<115 then Ij cf y ((i-79)/3) ((i-79)%3)
 else ([.map (some y.R),d.ro,d.rl,I used,d.an,d.un]:List Value)[i-115]?.getD undef
def Bxh (P:Nat) (F:Nat->Value) (W:World):Prop:=∃ c,W.heap[P]?=some (.cells c 79)/\c.size=121/\∀ i,i<121->c[i]?=some (F i)
theorem Bxh.cell {P F W} (h:Bxh P F W) (i:Nat) (a:i<121):W.cell? ⟨P,i,none⟩=some (F i):=by
 obtain⟨c,b,e,d⟩:=h;rw [t6 _ _ _ _ _ _ b];exact d i a
theorem Bxh.free (h:Bxh P F W) (i:Nat):W.frozen? ⟨P,i,none⟩=false:=by
 obtain⟨c,a,b,d⟩:=h;simp [World.frozen?,a]
theorem Bxh.lt (h:Bxh P F W):P<W.heap.size:=by
 obtain⟨c,a,_⟩:=h;exact ah a
theorem Bxh.ky (h:Bxh P F W) (k:Ky S W W') (a:¬S 79):Bxh P F W':=by
 obtain⟨c,b,d⟩:=h;exact⟨c,k.cells _ _ _ _ b a,d⟩
def lP (F:Nat->Value) (i:Nat) (v:Value):Nat->Value:=λj=>if j=i then v else F j
theorem Bxh.set (h:Bxh P F W) (i:Nat) (b:i<121) (v):Bxh P (lP F i v) (W.setCell ⟨P,i,none⟩ v):=by
 obtain⟨c,d,a,f⟩:=h;refine⟨c.setIfInBounds i v,by simp [World.setCell,Jw,d],by simpa using a,λj g=>?_⟩;rw [JC];unfold lP;by_cases e:i=j;·subst e;simp [a,b]
 rw [tg e,tg (λa=>e a.symm)];exact f j g
theorem Bxh.kyS (h:Bxh P F W) (i:Nat) (v:Value):Ky (· = 79) W (W.setCell ⟨P,i,none⟩ v):=by
 obtain⟨c,a,_⟩:=h;exact Ky.grown a rfl (au (ao W P) i v)
theorem xk (cf y d u) (c:Nat):lP (boxF cf y d u) 118 (I c)=boxF cf y d c:=by
 funext i;unfold lP boxF;by_cases e:i=118;·subst e;rfl
 rw [tg e];by_cases a:i<7;·simp [a]
 by_cases b:i<79;·simp [a,b]
 by_cases f:i<115;·simp [a,b,f]
 simp only [a,b,f,Lt];rcases (show i=115\/i=116\/i=117\/i=119\/i=120\/121<=i by omega) with rfl|rfl|rfl|rfl|rfl|g;·rfl
 ·rfl
 ·rfl
 ·rfl
 ·rfl
 rw [JB cd,JB cd]
theorem qi (cf y) (d:Dy) (u) (i:Nat) (v:Value) (a:Dy) (b:(i=116/\a={ d with ro:=v })\/(i=117/\a={ d with rl:=v })\/(i=119/\a={ d with an:=v })\/(i=120/\a={ d with un:=v })):lP (boxF cf y d u) i v=boxF cf y a u:=by
 funext j;unfold lP boxF;by_cases c:j<7
 ·have:j≠i:=by rcases b with ⟨h,_⟩|⟨h,_⟩|⟨h,_⟩|⟨h,_⟩ <;> omega
  rw [tg this];simp [c]
 by_cases e:j<79
 ·have:j≠i:=by rcases b with ⟨h,_⟩|⟨h,_⟩|⟨h,_⟩|⟨h,_⟩ <;> omega
  rw [tg this];simp [c,e]
 by_cases f:j<115
 ·have:j≠i:=by rcases b with ⟨h,_⟩|⟨h,_⟩|⟨h,_⟩|⟨h,_⟩ <;> omega
  rw [tg this];simp [c,e,f]
 simp only [c,e,f,Lt];by_cases g:121<=j;·rw [tg (by rcases b with ⟨h,_⟩|⟨h,_⟩|⟨h,_⟩|⟨h,_⟩ <;> omega),JB cd,JB cd]
 rcases b with ⟨rfl,rfl⟩|⟨rfl,rfl⟩|⟨rfl,rfl⟩|⟨rfl,rfl⟩ <;> rcases (show j=115\/j=116\/j=117\/j=118\/j=119\/j=120 by omega) with rfl|rfl|rfl|rfl|rfl|rfl <;> rfl
structure Mr (R n:Nat) (lo:Nat->Option Nat) (W:World):Prop where
 map:∃ D:DataW Unit,W.ownsMap prog 22 eN R 4096 D/\Maps.size D<=n/\(∀ k:Nat,k<18446744073709551616->D.atKey (.int .u64 k) .nil=tz (lo k))/\∀ k:Nat,k<18446744073709551616->has D (.int .u64 k)=(lo k).isSome
theorem Mr.same {R lo} (h:Mr R n lo W) (b:W'.heap[R]?=W.heap[R]?):Mr R n lo W':=by
 obtain⟨a,⟨d,c,e,f⟩,g⟩:=h.map;exact⟨a,⟨d,c,b.trans e,f⟩,g⟩
theorem Mr.typ {R lo} (h:Mr R n lo W):∃ b c,W.heap[R]?=some (.map b c):=by
 obtain⟨a,⟨b,c,d,e⟩,f⟩:=h.map;exact⟨b,c,d⟩
def Um (B:Nat) (W:World) (v:Value) (l:List Nat):Prop:=(v=C/\l=[])\/∃ (g o cap:Nat) (c:Array Value),v=.slice (some ⟨g,o,none⟩) l.length cap/\B<=g/\W.heap[g]?=some (.cells c 22)/\o+cap=c.size/\l.length<=cap/\cap<=maxLen/\(∀ u∈c.toList,u.oneCell'=true)/\∀ i,i<l.length->c[o+i]?=some (U ((l[i]?.getD 0:Nat):Int))
theorem Um.ky {v l} (h:Um B W v l) (k:Ky S W W') (b:¬S 22):Um B W' v l:=by
 rcases h with h|⟨g,o,a,c,d,e,f,i⟩;·exact .inl h
 exact .inr ⟨g,o,a,c,d,e,k.cells _ _ _ _ f b,i⟩
def ew:Value->Option Nat
 | .slice (some a) _ _=>some a.block
 | _=>none
structure Jh (B:Nat) (y:Ly):Prop where
 b0:0<B
 bP:B<=y.P
 bS:B<=y.S
 bM:B<=y.M
 bR:B<=y.R
 mr:y.M≠y.R
 bsb:∀ c s,c<12->s<6->B<=y.sb c s
 bsr:∀ c s,c<12->s<6->B<=y.sr c s
 bsm:∀ c s j,c<12->s<6->j<aU c->B<=y.sm c s j
 bq:∀ c,c<12->B<=y.qm c/\B<=y.qr c/\B<=y.qg c/\B<=y.qq c
 isb:∀ c s c' s',c<12->s<6->c'<12->s'<6->y.sb c s=y.sb c' s'->c=c'/\s=s'
 ism:∀ c s j c' s' j',c<12->s<6->j<aU c->c'<12->s'<6->j'<aU c'->y.sm c s j=y.sm c' s' j'->c=c'/\s=s'/\j=j'
 iq:∀ c c',c<12->c'<12->c≠c'->y.qr c≠y.qr c'/\y.qr c≠y.qq c'/\y.qq c≠y.qq c'/\y.qg c≠y.qg c'
 da:∀ a,y.da=some a->a.block<B
structure Hp (B:Nat) (y:Ly) (d:Dy) (cf:Cf) (h:Hs) (W:World):Prop where
 ap:Jh B y
 bW:B<=W.heap.size
 box:Bxh y.P (boxF cf y d h.used) W
 ds:Sl W y.da cf.ds
 sp:Im y.S y.M 0 283 (cf.bud:Nat) d.f W
 pg:Pg d.f h.m W
 bf:∀ k g,d.f k=some g->B<=g
 sl:∀ c s,c<12->s<6->W.heap[y.sb c s]?=some (.cells (FO c s (d.on c s) (y.sr c s) (aU c) (y.sc c s)) 185)
 rw:∀ c s,c<12->s<6->RowV W (y.sr c s) 186 ((List.range (aU c)).map λj=>J (y.sm c s j) 0)
 sm:∀ c s j,c<12->s<6->j<aU c->W.heap[y.sm c s j]?=some (.cells (wu (h.st c s j) (h.rq c s j) (y.sb c s) j) 190)
 wt:∀ c,c<12->Qr W (y.qm c) (y.qr c) (y.qg c) (y.qq c) cf.fifo (h.mx c) (h.ff c)
 mp:Mr y.R h.rg.length d.lg W
 lo:∀ k,(d.lg k).isSome=h.rg.any λr=>r.base==k
 lb:∀ r∈h.rg,∃ g,d.lg r.base=some g/\B<=g/\W.heap[g]?=some (.cells (qk r) 209)
 li:∀ k k' g,d.lg k=some g->d.lg k'=some g->k=k'
 ro:Um B W d.ro h.row
 rl:W.ownsRow B 22 1 d.rl h.rel.length (Us h.rel)
 rr:∀ g,ew d.ro=some g->d.rl.ownBlock≠some g
 tb:Tb W
def Ip (d:Dy) (h:Hs):Prop:=∀ c s,c<12->s<6->d.on c s=dJ h c s
structure Jb (S:TypeId->Prop) (y:Ly) (W W':World):Prop where
 ky:Ky S W W'
 m:W'.heap[y.M]?=W.heap[y.M]?
 r:W'.heap[y.R]?=W.heap[y.R]?
theorem Im.ky {A M st n bud f} (h:Im A M st n bud f W) (k:Ky S W W') (b:¬S 174) (d:W'.heap[M]?=W.heap[M]?):Im A M st n bud f W':=by
 obtain⟨a,⟨e,c,g,i⟩,j⟩:=h.map;exact⟨k.cells _ _ _ _ h.box b,a,⟨e,c,d.trans g,i⟩,j⟩
theorem Pg.ky {f m} (h:Pg f m W) (k:Ky S W W') (d:¬S 206):Pg f m W':=by
 refine h.other (λj b c=>?_);rcases h.at' j with ⟨a,_⟩|⟨e,l,g,a,_,_,b⟩;·rw [c] at a;cases a
 rw [c] at a;cases a;rw [k.cells _ _ _ _ b d,b]
theorem Qr.ky {M rm G rq mix fifo} (h:Qr W M rm G rq n mix fifo) (k:Ky S W W') (f:¬S 181) (i:¬S 179) (d:¬S 3):Qr W' M rm G rq n mix fifo:=by
 obtain⟨⟨a,b⟩,⟨ps,o,j,c,e,g⟩,l⟩:=h;exact⟨⟨k.cells _ _ _ _ a f,cZ b k d⟩,⟨ps,o,j,k.cells _ _ _ _ c i,cZ e k d,g⟩,l⟩
theorem Tb.belowB (h:Tb W) (a:Below B W W') (b:0<B):Tb W':=by
 obtain⟨t,c,h⟩:=h.row;exact⟨t,c,by rw [a.block 0 b];exact h⟩
theorem Sl.belowB {a zs} (h:Sl W a zs) (b:Below B W W') (ha:∀ x,a=some x->x.block<B):Sl W' a zs:=by
 rcases h with h|⟨g,e,c,d,f⟩;·exact .inl h
 exact .inr ⟨g,e,c,by rw [b.block g (ha _ e)];exact d,f⟩
theorem Hp.keep {y d} (a:Hp B y d cf h W) (k:Jb (λt=>t≠79/\t≠174/\t≠206/\t≠185/\t≠186/\t≠190/\t≠181/\t≠179/\t≠3/\t≠209/\t≠22) y W W') (b:Below B W W'):Hp B y d cf h W' :=
 ⟨a.ap,Jp a.bW b.size,a.box.ky k.ky al,a.ds.belowB b a.ap.da,a.sp.ky k.ky al k.m,a.pg.ky k.ky al,a.bf,
 λc s e f=>k.ky.cells _ _ _ _ (a.sl c s e f) al,λc s e f=>cZ (a.rw c s e f) k.ky al,λc s j e f i=>k.ky.cells _ _ _ _ (a.sm c s j e f i) al,
 λc e=>(a.wt c e).ky k.ky al al al,a.mp.same k.r,a.lo,λr l=>by obtain ⟨g,m,n,o⟩:=a.lb r l;exact⟨g,m,n,k.ky.cells _ _ _ _ o al⟩,a.li,a.ro.ky k.ky al,ai a.rl k.ky al,a.rr,a.tb.belowB b a.ap.b0⟩
theorem Hp.below {B y d cf h W W'} (a:Hp B y d cf h W) (b:D W W'):Hp B y d cf h W':=by
 obtain⟨f,c,e⟩:=a.mp.typ;exact a.keep ⟨Ky.below b,b.block _ a.sp.lt.2,b.block _ (ah e)⟩ (b.mono a.bW)
theorem Hp.cell {B y d cf h W} (a:Hp B y d cf h W) (i:Nat) (b:i<121) (v:Value) (c:boxF cf y d h.used i=v):W.cell? ⟨y.P,i,none⟩=some v:=by rw [a.box.cell i b,c]
end
section
open Go.RowKit
theorem v_ (T Q bud m) (a:Nat) (v:Int) (w) (h:Sx T Q 283 bud m w) (ha:a<1000000) (i:isOpen (m (a/1024))=true) :
  Calls prog 144 #[J T 0,U a,.int .u8 v] w λe b=>e=.returned (.tuple #[])/\Sx T Q 283 bud (eu m a v) b/\Sf Q w b:=by
 cases d:m (a/1024) with
 | none=>rw [d] at i;cases i
 | some q =>
  obtain⟨l,j⟩:=q;refine (vT T Q 283 bud m a v w h Z Z d).mono ?_;rintro e b ⟨rfl,k,g,c,n,o,f⟩;refine⟨rfl,?_,Sf.ofPut h n o f⟩;have:eu m a v=dY m (a/1024) (some (l,j.set (a%1024) v)):=by unfold eu;rw [d];rfl
  rw [this];exact k
theorem x_ (c:Nat) (W:World) (a:c<12):Calls prog 88 #[I c] W λe W'=>e=.returned (I (aU c:Nat))/\D W W':=by
 refine (jW (c:Int) W).mono ?_;rintro e W' ⟨rfl,b⟩;exact⟨ct (wO a),b⟩
def wC (cf:Cf) (x:Sm) (c:Nat):List Value:=[x.mv c,x.fv c,I cf.fifo]
theorem fV (cf x):(pb cf x).length=36:=by simp [pb,List.range,List.range.loop]
theorem gU (cf x) {q r:Nat} (a:q<12) (b:r<3):(pb cf x)[q*3+r]?=(wC cf x q)[r]?:=eY (wC cf x) 3 (λ_=>rfl) (List.range 12) q q (by simp [a]) r b
def kH (f:Nat->Value) (c:Nat) (v:Value):Nat->Value:=λd=>if d=c then v else f d
theorem wT (cf) (x:Sm) (f:c<12) (vm vf):pb cf { x with mv:=kH x.mv c vm,fv:=kH x.fv c vf }=(((pb cf x).set (c*3) vm).set (c*3+1) vf).set (c*3+2) (I cf.fifo):=by
 apply GR;intro i;by_cases g:i<36
 ·have e:i=i/3*3+i%3:=Z;obtain⟨q,r,a,b,rfl⟩:∃ q r,q<12/\r<3/\i=q*3+r:=⟨i/3,i%3,Z,Z,e⟩;rw [gU _ _ a b];simp only [J5,JU,fV];rw [gU _ _ a b];by_cases d:q=c
  ·subst d;have:r=0\/r=1\/r=2:=Z;rcases this with rfl|rfl|rfl;·rw [tg Z,tg Z,tm Z,tm Z];simp [wC,kH]
   ·rw [tg Z,tm rfl,tm Z];simp [wC,kH]
   rw [tm rfl,tm Z];simp [wC]
  rw [tg Z,tg Z,tg Z];simp [wC,kH,d]
 rw [JB (by rw [fV];omega),JB (by simp [fV];omega)]
theorem Sh.setWt {x} (a:Sh B x cf h V) {wb wc} (j:x.wv=Vl wb 12 wc) (m:c<12) (vm vf mx' ff') (n:Wq V vm mx') (o:Wq V vf ff') :
  Sh B { x with mv:=kH x.mv c vm,fv:=kH x.fv c vf } cf { h with mx:=er h.mx c mx',ff:=er h.ff c ff' } (((V.setCell ⟨wb,c*3,none⟩ vm).setCell ⟨wb,c*3+1,none⟩ vf).setCell ⟨wb,c*3+2,none⟩ (I cf.fifo))/\Ky (· = 104) V (((V.setCell ⟨wb,c*3,none⟩ vm).setCell ⟨wb,c*3+1,none⟩ vf).setCell ⟨wb,c*3+2,none⟩ (I cf.fifo))/\V.grownBy (((V.setCell ⟨wb,c*3,none⟩ vm).setCell ⟨wb,c*3+1,none⟩ vf).setCell ⟨wb,c*3+2,none⟩ (I cf.fifo)) (some wb):=by
 have f:=a.wt;rw [j] at f;obtain⟨q,i⟩:=dz f;have b:V.grownBy (((V.setCell ⟨wb,c*3,none⟩ vm).setCell ⟨wb,c*3+1,none⟩ vf).setCell ⟨wb,c*3+2,none⟩ (I cf.fifo)) (some wb):=au (au (au (ao V wb) _ _) _ _) _ _;have k:Ky (· = 104) V _:=Ky.grown i rfl b;have p:=dZ (dZ (dZ f (c*3) (by rw [fV];omega) vm) (c*3+1) (by rw [JU,fV];omega) vf) (c*3+2) (by rw [JU,JU,fV];omega) (I cf.fifo);refine⟨⟨k.cells _ _ _ _ a.box al,a.bp,a.bq,λg b=>a.bg g (di (a.sp.qEq k al) b),a.ds.ky k al,a.sp.ky k al al al,ai a.sl k al,?_,λd l=>?_,ai a.rg k al,ai a.ro k al,ai a.rl k al⟩,k,b⟩;·show World.ownsRow _ B 104 3 x.wv 12 _;rw [wT cf x m,j];exact p
 by_cases e:d=c;·subst e;simp only [kH,er,Lu];exact⟨n.ky k al,o.ky k al⟩
 simp only [kH,er,tg e];exact⟨(a.wm d l).1.ky k al,(a.wm d l).2.ky k al⟩
theorem Sh.wtCells {x} (e:Sh B x cf h V) {wb wc} (f:x.wv=Vl wb 12 wc) (b:c<12):V.cell? ⟨wb,c*3,none⟩=some (x.mv c)/\V.cell? ⟨wb,c*3+1,none⟩=some (x.fv c)/\V.cell? ⟨wb,c*3+2,none⟩=some (I cf.fifo)/\∀ i,V.frozen? ⟨wb,i,none⟩=false:=by
 have a:=e.wt;rw [f] at a;obtain⟨g,d⟩:=dz a;exact⟨be a (c*3+0) _ (gU cf x b Z),be a (c*3+1) _ (gU cf x b Z),be a (c*3+2) _ (gU cf x b Z),λi=>by simp [World.frozen?,d]⟩
structure cH where
 o:eL
 d:Option Addr
 dc:Nat
def gF (q:cH):List Value:=[I q.o.kd,I q.o.ref,U q.o.p,U q.o.a,U q.o.b,.slice q.d q.o.ys.length q.dc]
structure Ois (w:World) (A:Option Addr) (ops:List cH):Prop where
 at_:∀ k q,ops[k]?=some q->∃ G,A=some ⟨G,0,none⟩/\G<w.heap.size/\∀ j u,(gF q)[j]?=some u->w.cell? ⟨G,k*6+j,none⟩=some u
 wf:∀ q∈ops,q.o.p<18446744073709551616/\q.o.a<18446744073709551616/\q.o.b<18446744073709551616
 dat:∀ q∈ops,∀ i,i<q.o.ys.length->∃ x,q.d=some x/\w.cell? (x.add i)=some (.int .u8 (q.o.ys[i]?.getD 0))/\(x.add i).block<w.heap.size
theorem de {w} (b:D w W) {x:Addr} {u:Value} (h:w.cell? x=some u):W.cell? x=some u:=ol b h
theorem Ois.dt {w A ops} (h:Ois w A ops) {Q:Nat} (b:D w W) (k:w.heap.size<=Q) (a:∀ g,fm Q W g->w.heap.size<=g) {q:cH} (c:q∈ops):Dt Q W q.d q.o.ys.length q.o.ys:=by
 refine⟨rfl,λi d=>?_⟩;obtain⟨x,f,g,j⟩:=h.dat q c i d;exact⟨x,f,de b g,Ju j b.size,Z,λe=>by have:=a _ e;omega⟩
end
section
open Go.RowKit Go.Maps
theorem mF {d:Option Addr} {b f:Nat} {l:List Nat} (h:W.ownsRow B 22 1 (.slice d b f) l.length (Us l)):b=l.length/\∀ i,i<l.length->∃ g,d=some ⟨g,0,none⟩/\W.cell? ⟨g,i,none⟩=some (U ((l[i]?.getD 0:Nat):Int)):=by
 have j:b=l.length:=by
  obtain⟨a,c,e⟩:=aG h;injection e with _ k _
 subst j;refine⟨rfl,λi a=>?_⟩;obtain⟨g,e⟩:=cw h Z;subst e;refine⟨g,rfl,be h i _ ?_⟩;simp [Us,a]
theorem zR (B:Nat) (o:Option Addr) (r s p:Nat) (l:List Nat) (W:World) (h:W.ownsRow B 22 1 (.slice o r s) l.length (Us l)) (v:l.length<=100000) :
  Calls prog 172 #[.slice o r s,U p] W λe W'=>(∃ i:Int,e=.returned (I i)/\(decide (0<=i)=l.contains p))/\W'=W:=by
 obtain⟨rfl,c⟩:=mF h;have w:=H c;clear c h;obtain⟨n,a⟩:∃ n,l.length=n:=⟨_,rfl⟩;rw [a] at v ⊢;have d:=H a;clear a;go_enter func172,ntmps172;go_wp2;go_loopw [8] (λi wr=>∃ k:Nat,k<=n/\i=I k/\wr=W/\Hid (∀ j,j<k->l[j]?.getD 0≠p)) (λi _=>n-(intOf i).toNat);case atStart=>exact ⟨0,Jt _,rfl,rfl,H (λj a=>Z)⟩
 case round =>
  obtain⟨k,A,rfl,rfl,t⟩:=hrel;by_cases b:k<n
  ·obtain⟨g,rfl,f⟩:=w.out k (by rw [d.out];exact b);have x:=H (show l[k]?.getD 0∈l by rw [Jq (by rw [d.out];exact b)];exact K6 _);generalize m:l[k]?.getD 0=q at *;have y:=H m;clear m;by_cases u:p=q;·subst u;go_wp2;go_ret;refine⟨⟨_,rfl,?_⟩,rfl⟩;rw [List.contains_iff_mem.2 x.out];simp
   have z:((p:Int)==(q:Int))=false:=cd;go_wp2;go_roundw
   case rel=>exact ⟨k+1,Z,aR,trivial,H (λj a=>by
    rcases Nat.lt_succ_iff_lt_or_eq.1 a with m|m;·exact t j m
    subst m;rw [y.out];exact λe=>u e.symm)⟩
   case measure=>simp [intOf];omega
  obtain rfl:k=n:=Z;go_wp2;go_ret;refine⟨⟨-1,rfl,?_⟩,rfl⟩;have:l.contains p=false:=by
   cases c:l.contains p with
   | false=>rfl
   | true =>
    exfalso;have g:=List.contains_iff_mem.1 c;obtain⟨j,a⟩:=BR g;have f:=(Jr.1 a).1;exact t j (by rw [<-d.out];exact f) (by rw [a];rfl)
  rw [this];rfl
theorem rW (B:Nat) (b:Option Addr) (c d p:Nat) (l:List Nat) (W:World) (h:W.ownsRow B 22 1 (.slice b c d) l.length (Us l)) (g:l.length<=100000) :
  Calls prog 114 #[.slice b c d,U p] W λe W'=>e=.returned (.bool (l.contains p))/\W'=W:=by
 have a:=H (zR B b c d p l W h g);clear h;go_enter func114,ntmps114;go_wp2_with fail;refine (a).mono ?_;rintro e k ⟨⟨i,rfl,f⟩,rfl⟩;have j:=H f;clear f a;go_wp2;go_ret;rw [<-j.out];exact⟨rfl,rfl⟩
def ir (mi fi la bu:Int) (dn:Nat):Prop:=0<=mi/\mi<=16/\1<=fi/\fi<=32/\1<=la/\la<=16/\0<=bu/\bu<=283/\dn<=20000
instance (mi fi la bu:Int) (dn:Nat):Decidable (ir mi fi la bu dn):=by unfold ir;infer_instance
structure Cg (X:Nat) (mi fi la bu ky:Int) (da:Option Addr) (dn dc:Nat) (W V:World):Prop where
 c0:V.cell? ⟨X,0,none⟩=some (I mi)
 c1:V.cell? ⟨X,1,none⟩=some (I fi)
 c2:V.cell? ⟨X,2,none⟩=some (I la)
 c3:V.cell? ⟨X,3,none⟩=some (I bu)
 c5:V.cell? ⟨X,5,none⟩=some (.slice da dn dc)
 tb:Tb V
 bel:D W V
theorem Cg.below {X mi fi la bu ky da dn dc V'} (h:Cg X mi fi la bu ky da dn dc W V) (b:D V V'):Cg X mi fi la bu ky da dn dc W V' :=
 ⟨ol b h.c0,ol b h.c1,ol b h.c2,ol b h.c3,ol b h.c5,h.tb.ofBelow b,h.bel.trans (b.mono h.bel.size)⟩
theorem Cg.of {mi fi la bu ky da dn dc} (a:Tb W):Cg W.heap.size mi fi la bu ky da dn dc W (W.alloc (.cells #[I mi,I fi,I la,I bu,U ky,.slice da dn dc] 39)):=by
 have h:=av W (.cells #[I mi,I fi,I la,I bu,U ky,.slice da dn dc] 39);have b:D W (W.alloc (.cells #[I mi,I fi,I la,I bu,U ky,.slice da dn dc] 39)):=(Jn _ _).alloc (Jo _) _;refine⟨?_,?_,?_,?_,?_,a.ofBelow b,b⟩ <;> (rw [t6 _ _ _ _ _ _ h];rfl)
theorem vD (mi fi la bu ky) (i:Option Addr) (f j:Nat) (W) (b:Tb W) :
  Calls prog 24 #[.agg #[I mi,I fi,I la,I bu,U ky,.slice i f j]] W λe W'=>e=.returned (.bool (decide (ir mi fi la bu f)))/\D W W':=by
 obtain⟨m,a⟩:∃ m,decide (ir mi fi la bu f)=m:=⟨_,rfl⟩;rw [a];have c:=H a;have d:=H (Cg.of (mi:=mi) (fi:=fi) (la:=la) (bu:=bu) (ky:=ky) (da:=i) (dn:=f) (dc:=j) b);clear b a;go_enter func24,ntmps24;go_upto_region 1 with fail
 have k:=H (d.below (Jn _ _).drew);clear d;generalize W.alloc _=g at k ⊢;obtain⟨X,a⟩:∃ X,X=W.heap.size:=⟨_,rfl⟩;rw [<-a] at k ⊢;clear a;refine rh (S:=Cg X mi fi la bu ky i f j W) ?_;generalize b:g.drew=o at k;have a:({ heap:=g.heap,tape:=g.tape,drawn:=g.drawn+1,os:=g.os,output:=g.output } : World)=o:=b;rw [a];clear b a;have b:=k.out;refine pk 0 (J X 0) b ?_;refine pz 1 (I mi) b ?_;cases d:decide (0<=mi);·refine pz 2 (.bool false) b ?_;refine pk 3 (.bool false) b ?_;refine ps 4 b ?_;refine ps 5 b ?_;refine ps 6 b ?_;refine pz 7 (.bool false) b ?_;refine pk 8 (.bool false) b ?_;refine ps 9 b ?_;refine ps 10 b ?_;refine ps 11 b ?_;refine pz 12 (.bool false) b ?_;refine pk 13 (.bool false) b ?_;refine ps 14 b ?_;refine ps 15 b ?_;refine ps 16 b ?_;refine pz 17 (.bool false) b ?_;refine pk 18 (.bool false) b ?_;refine ps 19 b ?_;refine ps 20 b ?_;refine ps 21 b ?_;refine pz 22 (.bool false) b ?_;refine pk 23 (.bool false) b ?_;refine ps 24 b ?_;refine ps 25 b ?_;refine ps 26 b ?_;refine pz 27 (.bool false) b ?_;refine pk 28 (.bool false) b ?_;refine ps 29 b ?_;refine ps 30 b ?_;refine ps 31 b ?_;refine pz 32 (.bool false) b ?_;refine pk 33 (.bool false) b ?_;refine ps 34 b ?_;refine ps 35 b ?_;refine ps 36 b ?_;refine ps 37 b ?_;refine pz 38 (.bool false) b ?_;refine pk 39 (.bool false) b ?_;refine ps 40 b ?_;refine ps 41 b ?_;refine ps 42 b ?_;refine ps 43 b ?_;refine pz 44 (.bool false) b ?_;refine pk 45 (.bool false) b ?_;refine bY ?_;go_wp2;go_ret;exact⟨by rw [<-c.out,t5 (by unfold ir;simp at d;omega)];rfl,b.bel⟩
 refine pz 2 (.bool true) b ?_;refine pk 3 (.bool true) b ?_;refine pk 4 (J X 0) b ?_;refine pz 5 (I mi) b ?_;cases d:decide (mi<=16);·refine pz 6 (.bool false) b ?_;refine pz 7 (.bool false) b ?_;refine pk 8 (.bool false) b ?_;refine ps 9 b ?_;refine ps 10 b ?_;refine ps 11 b ?_;refine pz 12 (.bool false) b ?_;refine pk 13 (.bool false) b ?_;refine ps 14 b ?_;refine ps 15 b ?_;refine ps 16 b ?_;refine pz 17 (.bool false) b ?_;refine pk 18 (.bool false) b ?_;refine ps 19 b ?_;refine ps 20 b ?_;refine ps 21 b ?_;refine pz 22 (.bool false) b ?_;refine pk 23 (.bool false) b ?_;refine ps 24 b ?_;refine ps 25 b ?_;refine ps 26 b ?_;refine pz 27 (.bool false) b ?_;refine pk 28 (.bool false) b ?_;refine ps 29 b ?_;refine ps 30 b ?_;refine ps 31 b ?_;refine pz 32 (.bool false) b ?_;refine pk 33 (.bool false) b ?_;refine ps 34 b ?_;refine ps 35 b ?_;refine ps 36 b ?_;refine ps 37 b ?_;refine pz 38 (.bool false) b ?_;refine pk 39 (.bool false) b ?_;refine ps 40 b ?_;refine ps 41 b ?_;refine ps 42 b ?_;refine ps 43 b ?_;refine pz 44 (.bool false) b ?_;refine pk 45 (.bool false) b ?_;refine bY ?_;go_wp2;go_ret;exact⟨by rw [<-c.out,t5 (by unfold ir;simp at d;omega)];rfl,b.bel⟩
 refine pz 6 (.bool true) b ?_;refine pz 7 (.bool true) b ?_;refine pk 8 (.bool true) b ?_;refine pk 9 (J X 1) b ?_;refine pz 10 (I fi) b ?_;cases d:decide (1<=fi);·refine pz 11 (.bool false) b ?_;refine pz 12 (.bool false) b ?_;refine pk 13 (.bool false) b ?_;refine ps 14 b ?_;refine ps 15 b ?_;refine ps 16 b ?_;refine pz 17 (.bool false) b ?_;refine pk 18 (.bool false) b ?_;refine ps 19 b ?_;refine ps 20 b ?_;refine ps 21 b ?_;refine pz 22 (.bool false) b ?_;refine pk 23 (.bool false) b ?_;refine ps 24 b ?_;refine ps 25 b ?_;refine ps 26 b ?_;refine pz 27 (.bool false) b ?_;refine pk 28 (.bool false) b ?_;refine ps 29 b ?_;refine ps 30 b ?_;refine ps 31 b ?_;refine pz 32 (.bool false) b ?_;refine pk 33 (.bool false) b ?_;refine ps 34 b ?_;refine ps 35 b ?_;refine ps 36 b ?_;refine ps 37 b ?_;refine pz 38 (.bool false) b ?_;refine pk 39 (.bool false) b ?_;refine ps 40 b ?_;refine ps 41 b ?_;refine ps 42 b ?_;refine ps 43 b ?_;refine pz 44 (.bool false) b ?_;refine pk 45 (.bool false) b ?_;refine bY ?_;go_wp2;go_ret;exact⟨by rw [<-c.out,t5 (by unfold ir;simp at d;omega)];rfl,b.bel⟩
 refine pz 11 (.bool true) b ?_;refine pz 12 (.bool true) b ?_;refine pk 13 (.bool true) b ?_;refine pk 14 (J X 1) b ?_;refine pz 15 (I fi) b ?_;cases d:decide (fi<=32);·refine pz 16 (.bool false) b ?_;refine pz 17 (.bool false) b ?_;refine pk 18 (.bool false) b ?_;refine ps 19 b ?_;refine ps 20 b ?_;refine ps 21 b ?_;refine pz 22 (.bool false) b ?_;refine pk 23 (.bool false) b ?_;refine ps 24 b ?_;refine ps 25 b ?_;refine ps 26 b ?_;refine pz 27 (.bool false) b ?_;refine pk 28 (.bool false) b ?_;refine ps 29 b ?_;refine ps 30 b ?_;refine ps 31 b ?_;refine pz 32 (.bool false) b ?_;refine pk 33 (.bool false) b ?_;refine ps 34 b ?_;refine ps 35 b ?_;refine ps 36 b ?_;refine ps 37 b ?_;refine pz 38 (.bool false) b ?_;refine pk 39 (.bool false) b ?_;refine ps 40 b ?_;refine ps 41 b ?_;refine ps 42 b ?_;refine ps 43 b ?_;refine pz 44 (.bool false) b ?_;refine pk 45 (.bool false) b ?_;refine bY ?_;go_wp2;go_ret;exact⟨by rw [<-c.out,t5 (by unfold ir;simp at d;omega)];rfl,b.bel⟩
 refine pz 16 (.bool true) b ?_;refine pz 17 (.bool true) b ?_;refine pk 18 (.bool true) b ?_;refine pk 19 (J X 2) b ?_;refine pz 20 (I la) b ?_;cases d:decide (1<=la);·refine pz 21 (.bool false) b ?_;refine pz 22 (.bool false) b ?_;refine pk 23 (.bool false) b ?_;refine ps 24 b ?_;refine ps 25 b ?_;refine ps 26 b ?_;refine pz 27 (.bool false) b ?_;refine pk 28 (.bool false) b ?_;refine ps 29 b ?_;refine ps 30 b ?_;refine ps 31 b ?_;refine pz 32 (.bool false) b ?_;refine pk 33 (.bool false) b ?_;refine ps 34 b ?_;refine ps 35 b ?_;refine ps 36 b ?_;refine ps 37 b ?_;refine pz 38 (.bool false) b ?_;refine pk 39 (.bool false) b ?_;refine ps 40 b ?_;refine ps 41 b ?_;refine ps 42 b ?_;refine ps 43 b ?_;refine pz 44 (.bool false) b ?_;refine pk 45 (.bool false) b ?_;refine bY ?_;go_wp2;go_ret;exact⟨by rw [<-c.out,t5 (by unfold ir;simp at d;omega)];rfl,b.bel⟩
 refine pz 21 (.bool true) b ?_;refine pz 22 (.bool true) b ?_;refine pk 23 (.bool true) b ?_;refine pk 24 (J X 2) b ?_;refine pz 25 (I la) b ?_;cases d:decide (la<=16);·refine pz 26 (.bool false) b ?_;refine pz 27 (.bool false) b ?_;refine pk 28 (.bool false) b ?_;refine ps 29 b ?_;refine ps 30 b ?_;refine ps 31 b ?_;refine pz 32 (.bool false) b ?_;refine pk 33 (.bool false) b ?_;refine ps 34 b ?_;refine ps 35 b ?_;refine ps 36 b ?_;refine ps 37 b ?_;refine pz 38 (.bool false) b ?_;refine pk 39 (.bool false) b ?_;refine ps 40 b ?_;refine ps 41 b ?_;refine ps 42 b ?_;refine ps 43 b ?_;refine pz 44 (.bool false) b ?_;refine pk 45 (.bool false) b ?_;refine bY ?_;go_wp2;go_ret;exact⟨by rw [<-c.out,t5 (by unfold ir;simp at d;omega)];rfl,b.bel⟩
 refine pz 26 (.bool true) b ?_;refine pz 27 (.bool true) b ?_;refine pk 28 (.bool true) b ?_;refine pk 29 (J X 3) b ?_;refine pz 30 (I bu) b ?_;cases d:decide (0<=bu);·refine pz 31 (.bool false) b ?_;refine pz 32 (.bool false) b ?_;refine pk 33 (.bool false) b ?_;refine ps 34 b ?_;refine ps 35 b ?_;refine ps 36 b ?_;refine ps 37 b ?_;refine pz 38 (.bool false) b ?_;refine pk 39 (.bool false) b ?_;refine ps 40 b ?_;refine ps 41 b ?_;refine ps 42 b ?_;refine ps 43 b ?_;refine pz 44 (.bool false) b ?_;refine pk 45 (.bool false) b ?_;refine bY ?_;go_wp2;go_ret;exact⟨by rw [<-c.out,t5 (by unfold ir;simp at d;omega)];rfl,b.bel⟩
 refine pz 31 (.bool true) b ?_;refine pz 32 (.bool true) b ?_;refine pk 33 (.bool true) b ?_;refine pk 34 (J X 3) b ?_;refine pz 35 (I bu) b ?_;refine po 36 λK' p=>?_;go_simp;refine (eZ _ b.tb).mono ?_;rintro e a ⟨rfl,n⟩;have l:=b.below n;refine p _ _ ⟨l,?_⟩;clear b n;have b:=l;clear l
 cases d:decide (bu<=283);·refine pz 37 (.bool false) b ?_;refine pz 38 (.bool false) b ?_;refine pk 39 (.bool false) b ?_;refine ps 40 b ?_;refine ps 41 b ?_;refine ps 42 b ?_;refine ps 43 b ?_;refine pz 44 (.bool false) b ?_;refine pk 45 (.bool false) b ?_;refine bY ?_;go_wp2;go_ret;exact⟨by rw [<-c.out,t5 (by unfold ir;simp at d;omega)];rfl,b.bel⟩
 refine pz 37 (.bool true) b ?_;refine pz 38 (.bool true) b ?_;refine pk 39 (.bool true) b ?_;refine pk 40 (J X 5) b ?_;refine pz 41 (.slice i f j) b ?_;refine pz 42 (I f) b ?_;cases d:decide ((f:Int)<=20000);·refine pz 43 (.bool false) b ?_;refine pz 44 (.bool false) b ?_;refine pk 45 (.bool false) b ?_;refine bY ?_;go_wp2;go_ret;exact⟨by rw [<-c.out,t5 (by unfold ir;simp at d;omega)];rfl,b.bel⟩
 refine pz 43 (.bool true) b ?_;refine pz 44 (.bool true) b ?_;refine pk 45 (.bool true) b ?_;refine bY ?_;go_wp2;go_ret;exact⟨by rw [<-c.out,zB (by unfold ir;simp only [EN] at *;omega)];rfl,b.bel⟩
end
end Go.Proofs.YtdfodlhkdmkfdaaGreatDoor
