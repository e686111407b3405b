import Derived.Test.YtibblbenmpcplaaGreatDoorN41
import Derived.Test.YtibblbenmpcplaaGreatDoorN43
import Derived.Test.YtibblbenmpcplaaGreatDoorN45
set_option linter.unusedVariables false
set_option linter.unusedSimpArgs false
set_option maxRecDepth 20000
set_option maxHeartbeats 8000000
namespace Go.Proofs.YtibblbenmpcplaaGreatDoor
open Go.Proofs.Tryz
variable {B Y:Nat} {y:Ly} {d:Dy} {cf:Cf} {h:Hs} {V W:World}
section
open Go.RowKit Go.Maps
def lR (cf:Cf) (y:Ly):List Value:=(List.range 36).map λi=>Eu cf y (i/3) (i%3)
theorem Hp.range36 (b:Hp B y d cf h W):W.rangeAt y.P 79 (lR cf y):=by
 intro j v a;have c:j<36:=by have:=(Fz.1 a).1;simpa [lR] using this
 rw [b.cell (79+j) Z _ rfl];unfold boxF;rw [GO Z,GO Z,GP Z,show 79+j-79=j by omega];rw [<-a];simp [lR,c]
theorem EF (cf y) (k:Nat) (a:k<12) (w:World):(Instr.index 68 (.agg (lR cf y).toArray) (I k)).run prog w=.ok (.agg #[J (y.qm k) 0,J (y.qg k) 0,lY cf.mix (y.qm k) (y.qg k)]) w:=by
 rcases (show k=0\/k=1\/k=2\/k=3\/k=4\/k=5\/k=6\/k=7\/k=8\/k=9\/k=10\/k=11 by omega) with rfl|rfl|rfl|rfl|rfl|rfl|rfl|rfl|rfl|rfl|rfl|rfl <;> kernel_rfl
theorem bL {a b c d e f g i:Value} (h:V.heap[Y]?=some (.cells #[a,b,c,d,e,f,g,i] 36)):V.cell? ⟨Y,0,none⟩=some a/\V.cell? ⟨Y,1,none⟩=some b/\V.cell? ⟨Y,2,none⟩=some c/\V.cell? ⟨Y,3,none⟩=some d/\V.cell? ⟨Y,4,none⟩=some e/\V.cell? ⟨Y,5,none⟩=some f/\V.cell? ⟨Y,6,none⟩=some g/\V.cell? ⟨Y,7,none⟩=some i/\∀ j,V.frozen? ⟨Y,j,none⟩=false:=by
 refine⟨?_,?_,?_,?_,?_,?_,?_,?_,λj=>by simp [World.frozen?,h]⟩ <;> (rw [GT _ _ _ _ _ _ h];rfl)
structure Mt9 (B:Nat) (y:Ly) (d:Dy) (cf:Cf) (h:Hs) (W:World) (X Y:Nat) (vo vs vw vr vl ve:Value) (ws:List (Nat×Nat)) (rs:List Rg9) (V:World):Prop where
 bel:D W V
 xb:V.heap[X]?=some (.cells #[I 0,C,C,C,C,C,C,I 0] 36)
 yb:V.heap[Y]?=some (.cells #[I (bz h.m 283),vo,vs,vw,vr,vl,ve,I h.used] 36)
 o:V.ownsRow W.heap.size 3 1 vo (bw h.m 283).length (Ns .i64 (bw h.m 283))
 s:V.ownsRow W.heap.size 128 5 vs (I1 h 12).length (fP h (I1 h 12))
 w:Wt9 cf h W.heap.size vo ws vw V
 r:V.ownsRow W.heap.size 132 5 vr rs.length (dH rs)
 rp:rs.Perm h.rg/\rs.Pairwise (λa b=>a.base<=b.base)
 bx:W.heap.size<=X
 by_:W.heap.size<=Y
 ne:X≠Y
theorem Mt9.below {B y d cf h W X Y vo vs vw vr vl ve ws rs V V'} (m:Mt9 B y d cf h W X Y vo vs vw vr vl ve ws rs V) (b:D V V'):Mt9 B y d cf h W X Y vo vs vw vr vl ve ws rs V' :=
 ⟨m.bel.trans (b.mono m.bel.size),ae m.xb b,ae m.yb b,ax m.o b,ax m.s b,m.w.below b,ax m.r b,m.rp,m.bx,m.by_,m.ne⟩
theorem zZ {d:Nat} {a b c:Value} (h:V.heap[d]?=some (.cells #[a,b,c] 67)):V.cell? ⟨d,0,none⟩=some a/\V.cell? ⟨d,1,none⟩=some b/\V.cell? ⟨d,2,none⟩=some c:=by
 refine⟨?_,?_,?_⟩ <;> (rw [GT _ _ _ _ _ _ h];rfl)
theorem C0 (b:D W V) (o:Obj):∃ Y,V.heap.size=Y/\D V (V.alloc o)/\(V.alloc o).heap[Y]?=some o/\W.heap.size<=Y:=⟨_,rfl,(Fu _ _).alloc (Fv _) _,ao V o,b.size⟩
theorem yO {c:Array Value} (h:V.heap[Y]?=some (.cells c 36)) (a:Array Value):V.grownBy (V.setRow Y a) (some Y)/\Ky (· = 36) V (V.setRow Y a)/\(V.setRow Y a).heap[Y]?=some (.cells a 36):=⟨aj V Y a,Ky.grown h rfl (aj V Y a),aw h a⟩
theorem Mt9.set {X vo vs vw vr vl ve ws rs} (m:Mt9 B y d cf h W X Y vo vs vw vr vl ve ws rs V) (i:Nat) (v a b:Value) (c:i=5/\a=v/\b=ve\/i=6/\a=vl/\b=v):Mt9 B y d cf h W X Y vo vs vw vr a b ws rs (V.setCell ⟨Y,i,none⟩ v)/\Ky (· = 36) V (V.setCell ⟨Y,i,none⟩ v):=by
 have g:=au (al V Y) i v;have k:Ky (· = 36) V (V.setCell ⟨Y,i,none⟩ v):=Ky.grown m.yb rfl g;refine⟨⟨m.bel.grown g m.bel.size (λr a=>by simp at a;have:=m.by_;omega),?_,?_,ai m.o k ar,ai m.s k ar,m.w.ky k ar ar,ai m.r k ar,m.rp,m.bx,m.by_,m.ne⟩,k⟩;·rw [GQ _ _ _ _ m.ne];exact m.xb
 rcases c with ⟨rfl,rfl,rfl⟩|⟨rfl,rfl,rfl⟩ <;> simp [World.setCell,FD,m.yb]
theorem Mt9.addW {X vo vs vw vr vl ve ws rs U} (m:Mt9 B y d cf h W X Y vo vs vw vr vl ve ws rs V) (b:D V U) {g1 g2} (o:RowV U g1 3 (Ns .i64 (h.mx ws.length))) (p:RowV U g2 3 (Ns .i64 (h.ff ws.length))) (j:V.heap.size<=g1) (l:g1<g2) (q:ws.length<=12) :
  ∃ f a,(Builtin.append_ #[32,32] 32 #[vw,Vl U.heap.size 1 1]).run prog (U.alloc (.cells #[Vl g1 (h.mx ws.length).length (h.mx ws.length).length,Vl g2 (h.ff ws.length).length (h.ff ws.length).length,I cf.fifo] 94))=.ok f a/\f.oneCell'=true/\a.cell? ⟨Y,3,none⟩=some vw/\a.frozen? ⟨Y,3,none⟩=false/\Ky (· = 94) V a/\Ky (λt=>t=94\/t=36) V (a.setCell ⟨Y,3,none⟩ f)/\Mt9 B y d cf h W X Y vo vs f vr vl ve (ws++[(g1,g2)]) rs (a.setCell ⟨Y,3,none⟩ f):=by
 obtain⟨f,a,r,n,i,s⟩:=m.w.add m.bel.size (λg e=>by obtain ⟨_,c,k⟩:=aF m.o e;exact ag k) b o p j l q;have c:=i.cells _ _ _ _ m.yb ar;have u:=i.cells _ _ _ _ m.xb ar;have g:=au (al a Y) 3 f;have k:Ky (· = 36) a (a.setCell ⟨Y,3,none⟩ f):=Ky.grown c rfl g;obtain⟨v,w,x,rfl⟩:=aA n.row;refine⟨_,a,r,rfl,(bL c).2.2.2.1,(bL c).2.2.2.2.2.2.2.2 3,i,(i.more (λt e=>.inl e)).trans (k.more (λt e=>.inr e)),⟨(m.bel.trans s).grown g (Fx m.bel.size i.size) (λr a=>by simp at a;have:=m.by_;omega),?_,?_,ai (ai m.o i ar) k ar,ai (ai m.s i ar) k ar,n.ky k ar ar,ai (ai m.r i ar) k ar,m.rp,m.bx,m.by_,m.ne⟩⟩;·rw [GQ _ _ _ _ m.ne];exact u
 simp [World.setCell,FD,c]
theorem zj (e:tz) (s:tH):AH AI:=by
 intro B y d cf h k an W u i a;have m:=H (λV (hV:D W V)=>u.below hV);have a2:=H a;have a7:h.rg.length<=400/\h.rel.length<=400/\h.row.length<=400:=by
  have b:=a.few.rg;have c:=a.few.rel;have f:=a.few.row;have g:=a.kk;omega
 have N:D W (W.alloc (.cells #[I 0,C,C,C,C,C,C,I 0] 36)):=(Fu _ _).alloc (Fv _) _;have f:=H (ao W (.cells #[I 0,C,C,C,C,C,C,I 0] 36));have g:=H (pK y.S y.M (cf.bud:Nat) d.f h.m _ (u.below N).sp (u.below N).pg a.inv.out);have c6:=(u.below N).cell 6 Z (J y.S 0) rfl;have b:=H (show (bm d.f 0 4096:Nat)=bz h.m 283 by
  rw [ke (λk=>u.pg.none_iff k) 4096];exact mn (n:=283) a.inv.out 3813)
 have TS:=H (λV (hV:D W V)=>pD B y d cf h V (u.below hV));have TR:=H (λV (hV:D W V)=>nk e B y d cf h V (u.below hV) a.inv a7.1);have a8:=H s;have c:=H N;clear u i a N e s;go_enter func15,ntmps15;go_wp2_with fail;generalize W.alloc _=V0 at *;obtain⟨X,a⟩:∃ X,X=W.heap.size:=⟨_,rfl⟩;rw [<-a] at f ⊢;have HX:=H (show W.heap.size<=X by omega);clear a;refine (g).mono ?_;rintro e V1 ⟨vo,rfl,ho,b1⟩;obtain⟨R,T,oc,rfl⟩:=aA ho;have X1:=H (ae f b1);have O1:=H (aN ho c.size);have B1:=H (c.trans (b1.mono c.size));rw [b.out];have a9:=H (show X<V1.heap.size from ag X1);clear ho b1 g c6 f c b;go_upto_region 2 with fail
 have a0:V1.drew.cell? ⟨y.P,118,none⟩=some (I h.used):=(m _ B1.drew).cell 118 Z _ rfl;have a3:=H (show D W V1.drew from B1.drew);have a4:=H (ae X1 (Fu _ V1).drew);have a5:=H (ax O1 (Fu _ V1).drew);go_cut [5] (λa b=>∃ (Y:Nat) (vs vr:Value) (rs:List Rg9),a=J Y 0/\Hid (Mt9 B y d cf h W X Y (.slice R T oc) vs (C) vr (C) (C) [] rs b));case first =>
  refine rh (S:=λW9=>W9.cell? ⟨y.P,118,none⟩=some (I h.used)) ?_;generalize a1:V1.drew=V2 at a0 a3 a4 a5;have A:({ heap:=V1.heap,tape:=V1.tape,drawn:=V1.drawn+1,os:=V1.os,output:=V1.output } : World)=V2:=a1;rw [A];clear a1 A X1 O1 B1;have i:=a3;have o:=a4;have w:=a5;have j:=a0;iterate 3 (refine py j ?_;simp only [f0,f1,Nat.reduceAdd,lz,l0,ls])
  refine pk 4 (J y.P 0) j ?_;refine pk 6 (J y.P 0) j ?_;refine pk 7 (J y.P 0) j ?_;refine pk 8 (J y.P 118) j ?_;refine pz 9 (I h.used) j ?_;refine lZ [3,11] λi9 l=>?_;rcases (by simpa using l:i9=3\/i9=11) with l|l
  ·subst l;refine cw λK' f=>?_;go_simp;refine (TS _ i).mono ?_;rintro e U1 ⟨vs,rfl,hs,b⟩;obtain⟨sa,sn,sc,rfl⟩:=aA hs;have a:=ad b j;refine f _ _ ⟨a,?_⟩;clear j;have j:=a;have o:=H (ae o b);have w:=H (ax w b)
   try have s:=H (ax s b)
   try have t:=H (ax t b)
   (try have q:=H (ae q b));have s:=H (aN hs i.size);have i:=H (i.trans (b.mono i.size));clear a hs b;clear f K';refine lZ [5,11] λi9 l=>?_;rcases (by simpa using l:i9=5\/i9=11) with l|l
   ·subst l;refine cw λK' f=>?_;go_simp;refine (TR _ i).mono ?_;rintro e U2 ⟨vr,rs,rfl,F,G,z,b⟩;obtain⟨O,P,Q,rfl⟩:=aA z;have a:=ad b j;refine f _ _ ⟨a,?_⟩;clear j;have j:=a;have o:=H (ae o b);have w:=H (ax w b)
    try have s:=H (ax s b)
    try have t:=H (ax t b)
    (try have q:=H (ae q b));have t:=H (aN z i.size);have i:=H (i.trans (b.mono i.size));have RP:=H (IT F G);clear a F G z b;clear f K';refine pz 10 (.agg #[I (bz h.m 283),.slice R T oc,.slice sa sn sc,C,.slice O P Q,C,C,I h.used]) j ?_;refine po 11 λK' f=>?_;go_simp;obtain⟨Y,hY,b,K,L⟩:=C0 i (.cells #[I 0,C,C,C,C,C,C,I 0] 36);rw [hY];have M:=H (show X≠Y by have:=ag o.out;omega);have HY:=H L;have a:=ad b j;refine f _ _ ⟨a,?_⟩;clear j;have j:=a;have o:=H (ae o b);have w:=H (ax w b)
    try have s:=H (ax s b)
    try have t:=H (ax t b)
    (try have q:=H (ae q b));have q:=H K;have i:=H (i.trans (b.mono i.size));clear a b K L hY;clear f K';refine po 12 λK' f=>?_;refine Ih 36 (.tmp 5) (.tmp 26) E Y #[I (bz h.m 283),.slice R T oc,.slice sa sn sc,C,.slice O P Q,C,C,I h.used] E E 36 _ q E rfl mL ?_;obtain⟨g9,x,y9⟩:=yO q #[I (bz h.m 283),.slice R T oc,.slice sa sn sc,C,.slice O P Q,C,C,I h.used];have M0:=H (Mt9.mk (B:=B) (y:=y) (d:=d) (cf:=cf) (h:=h) (W:=W) (X:=X) (Y:=Y) (vo:=.slice R T oc) (vs:=.slice sa sn sc) (vw:=C) (vr:=.slice O P Q) (vl:=C) (ve:=C) (ws:=[]) (rs:=rs) (i.grown g9 i.size (λr z=>by simp at z;have:=HY.out;omega)) (by rw [g9.block X (ag o.out) (by simpa using M.out)];exact o) y9 (ai w x ar) (ai s x ar) ⟨⟨rfl,.inl ⟨rfl,rfl⟩⟩,(λc p u=>by simp at u),List.Pairwise.nil,(λg hg p u=>by cases u)⟩ (ai t x ar) RP HX HY M);have a:=(m _ M0.bel).cell 118 Z (I h.used) rfl;refine f _ _ ⟨a,?_⟩;clear j a g9 x y9 f K';refine bY ?_;go_wp2_with fail
    go_meet;case rel=>exact ⟨Y,_,_,rs,rfl,M0⟩
   subst l;refine cw λK' f=>?_;go_simp;obtain⟨Y,hY,b,K,L⟩:=C0 i (.cells #[I 0,C,C,C,C,C,C,I 0] 36);rw [hY];have M:=H (show X≠Y by have:=ag o.out;omega);have HY:=H L;have a:=ad b j;refine f _ _ ⟨a,?_⟩;clear j;have j:=a;have o:=H (ae o b);have w:=H (ax w b)
   try have s:=H (ax s b)
   try have t:=H (ax t b)
   (try have q:=H (ae q b));have q:=H K;have i:=H (i.trans (b.mono i.size));clear a b K L hY;clear f K';refine po 5 λK' f=>?_;go_simp;refine (TR _ i).mono ?_;rintro e U2 ⟨vr,rs,rfl,F,G,z,b⟩;obtain⟨O,P,Q,rfl⟩:=aA z;have a:=ad b j;refine f _ _ ⟨a,?_⟩;clear j;have j:=a;have o:=H (ae o b);have w:=H (ax w b)
   try have s:=H (ax s b)
   try have t:=H (ax t b)
   (try have q:=H (ae q b));have t:=H (aN z i.size);have i:=H (i.trans (b.mono i.size));have RP:=H (IT F G);clear a F G z b;clear f K';refine pz 10 (.agg #[I (bz h.m 283),.slice R T oc,.slice sa sn sc,C,.slice O P Q,C,C,I h.used]) j ?_;refine po 12 λK' f=>?_;refine Ih 36 (.tmp 5) (.tmp 26) E Y #[I (bz h.m 283),.slice R T oc,.slice sa sn sc,C,.slice O P Q,C,C,I h.used] E E 36 _ q E rfl mL ?_;obtain⟨g9,x,y9⟩:=yO q #[I (bz h.m 283),.slice R T oc,.slice sa sn sc,C,.slice O P Q,C,C,I h.used];have M0:=H (Mt9.mk (B:=B) (y:=y) (d:=d) (cf:=cf) (h:=h) (W:=W) (X:=X) (Y:=Y) (vo:=.slice R T oc) (vs:=.slice sa sn sc) (vw:=C) (vr:=.slice O P Q) (vl:=C) (ve:=C) (ws:=[]) (rs:=rs) (i.grown g9 i.size (λr z=>by simp at z;have:=HY.out;omega)) (by rw [g9.block X (ag o.out) (by simpa using M.out)];exact o) y9 (ai w x ar) (ai s x ar) ⟨⟨rfl,.inl ⟨rfl,rfl⟩⟩,(λc p u=>by simp at u),List.Pairwise.nil,(λg hg p u=>by cases u)⟩ (ai t x ar) RP HX HY M);have a:=(m _ M0.bel).cell 118 Z (I h.used) rfl;refine f _ _ ⟨a,?_⟩;clear j a g9 x y9 f K';refine bY ?_;go_wp2_with fail
   go_meet;case rel=>exact ⟨Y,_,_,rs,rfl,M0⟩
  subst l;refine cw λK' f=>?_;go_simp;obtain⟨Y,hY,b,K,L⟩:=C0 i (.cells #[I 0,C,C,C,C,C,C,I 0] 36);rw [hY];have M:=H (show X≠Y by have:=ag o.out;omega);have HY:=H L;have a:=ad b j;refine f _ _ ⟨a,?_⟩;clear j;have j:=a;have o:=H (ae o b);have w:=H (ax w b)
  try have s:=H (ax s b)
  try have t:=H (ax t b)
  try have q:=H (ae q b)
  have q:=H K;have i:=H (i.trans (b.mono i.size));clear a b K L hY;clear f K';refine po 3 λK' f=>?_;go_simp;refine (TS _ i).mono ?_;rintro e U1 ⟨vs,rfl,hs,b⟩;obtain⟨sa,sn,sc,rfl⟩:=aA hs;have a:=ad b j;refine f _ _ ⟨a,?_⟩;clear j;have j:=a;have o:=H (ae o b);have w:=H (ax w b)
  try have s:=H (ax s b)
  try have t:=H (ax t b)
  try have q:=H (ae q b)
  have s:=H (aN hs i.size);have i:=H (i.trans (b.mono i.size));clear a hs b;clear f K';refine po 5 λK' f=>?_;go_simp;refine (TR _ i).mono ?_;rintro e U2 ⟨vr,rs,rfl,F,G,z,b⟩;obtain⟨O,P,Q,rfl⟩:=aA z;have a:=ad b j;refine f _ _ ⟨a,?_⟩;clear j;have j:=a;have o:=H (ae o b);have w:=H (ax w b)
  try have s:=H (ax s b)
  try have t:=H (ax t b)
  try have q:=H (ae q b)
  have t:=H (aN z i.size);have i:=H (i.trans (b.mono i.size));have RP:=H (IT F G);clear a F G z b;clear f K';refine pz 10 (.agg #[I (bz h.m 283),.slice R T oc,.slice sa sn sc,C,.slice O P Q,C,C,I h.used]) j ?_;refine po 12 λK' f=>?_;refine Ih 36 (.tmp 5) (.tmp 26) E Y #[I (bz h.m 283),.slice R T oc,.slice sa sn sc,C,.slice O P Q,C,C,I h.used] E E 36 _ q E rfl mL ?_;obtain⟨g9,x,y9⟩:=yO q #[I (bz h.m 283),.slice R T oc,.slice sa sn sc,C,.slice O P Q,C,C,I h.used];have M0:=H (Mt9.mk (B:=B) (y:=y) (d:=d) (cf:=cf) (h:=h) (W:=W) (X:=X) (Y:=Y) (vo:=.slice R T oc) (vs:=.slice sa sn sc) (vw:=C) (vr:=.slice O P Q) (vl:=C) (ve:=C) (ws:=[]) (rs:=rs) (i.grown g9 i.size (λr z=>by simp at z;have:=HY.out;omega)) (by rw [g9.block X (ag o.out) (by simpa using M.out)];exact o) y9 (ai w x ar) (ai s x ar) ⟨⟨rfl,.inl ⟨rfl,rfl⟩⟩,(λc p u=>by simp at u),List.Pairwise.nil,(λg hg p u=>by cases u)⟩ (ai t x ar) RP HX HY M);have a:=(m _ M0.bel).cell 118 Z (I h.used) rfl;refine f _ _ ⟨a,?_⟩;clear j a g9 x y9 f K';refine bY ?_;go_wp2_with fail
  go_meet;case rel=>exact ⟨Y,_,_,rs,rfl,M0⟩
 case rest =>
  obtain⟨Y,vs,vr,rs,rfl,M0⟩:=hcut;clear a3 a4 a5 a0 TS TR HX X1 O1 B1 a9;have g:=H (m _ M0.bel).range36;have a6:=H (λk a w=>EF cf y k a w);go_wp2_with (refine wpList_load_mid rfl 68 _ rfl _ _ rfl _ _ g underlying68 rfl E ?_);generalize a:(lR cf y).toArray=b7 at *;clear a g;go_loopw [31] (λi wr=>∃ (c:Nat) (vw:Value) (ws:List (Nat×Nat)),c<=12/\i=I c/\Hid (ws.length=c)/\Hid (Mt9 B y d cf h W X Y (.slice R T oc) vs vw vr (C) (C) ws rs wr)) (λi _=>12-(intOf i).toNat);case atStart=>exact ⟨0,_,[],Z,rfl,H rfl,M0⟩
  case round =>
   clear M0;obtain⟨c,vw,ws,hc,rfl,o,K⟩:=hrel;by_cases L:c<12
   ·have b2:(c:Int)<12:=Z;obtain⟨wa,wn,wc,rfl⟩:=aA K.w.row;have g:=λw=>a6.out c L w
    obtain⟨tt,pp,a⟩:∃ (tt:Nat) (pp:Nat),lY cf.mix (y.qm c) (y.qg c)=.iface tt (J pp 0):=by unfold lY;split <;> exact ⟨_,_,rfl⟩
    rw [a] at g;have QT:=H (λV (hV:D W V)=>xd (y.qm c) (y.qr c) (y.qg c) (y.qq c) cf.fifo _ tt ⟨pp,0,none⟩ (h.mx c) (h.ff c) V rfl ((m V hV).wt c L) (by rw [a2.inv.mxl c L];have:=a2.dok.mix;omega) (by have:=a2.dok.fifo;omega));have N:D wr (wr.alloc (.cells #[J (y.qm c) 0,J (y.qg c) 0,.iface tt (J pp 0)] 67)):=(Fu _ _).alloc (Fv _) _;have M1:=H (K.below N);have p:=H (ao wr (.cells #[J (y.qm c) 0,J (y.qg c) 0,.iface tt (J pp 0)] 67));clear K N a;(go_upto_region 6 with fail);generalize wr.alloc _=V at M1 p ⊢;obtain⟨a,q⟩:∃ a,wr.heap.size=a:=⟨_,rfl⟩;rw [q] at p ⊢;clear q g;have MD:=H (M1.below (Fu _ V).drew);have G:=H (ae p (Fu _ V).drew);have cA:=(bL MD.yb).2.2.2.1;refine rh (S:=λW9=>W9.cell? ⟨a,0,none⟩=some (J (y.qm c) 0)/\W9.cell? ⟨a,1,none⟩=some (J (y.qg c) 0)/\W9.cell? ⟨a,2,none⟩=some (.iface tt (J pp 0))) ?_;generalize a1:V.drew=V2 at MD G cA;have A:({ heap:=V.heap,tape:=V.tape,drawn:=V.drawn+1,os:=V.os,output:=V.output } : World)=V2:=a1;rw [A];clear a1 A M1 p;have j:=zZ G.out;refine py j ?_;simp only [f0,f1,Nat.reduceAdd,lz,l0,ls];refine pz 2 (.agg #[J (y.qm c) 0,J (y.qg c) 0,.iface tt (J pp 0)]) j ?_;refine lZ [1,3] λi9 l=>?_;rcases (by simpa using l:i9=1\/i9=3) with l|l
    ·subst l;refine cw λK' f=>?_;go_simp;refine f _ _ ⟨j,?_⟩;clear f K';refine po 3 λK' f=>?_
     go_simp;refine (QT _ MD.bel).mono ?_;rintro e U1 ⟨g1,g2,rfl,r1,r2,p,q,b⟩;unfold wv;obtain⟨v9,U2,g,t,b0,f39,x,F,m9⟩:=MD.addW b (by rw [o.out];exact r1) (by rw [o.out];exact r2) p q (by rw [o.out];omega);rw [o.out] at g;obtain⟨xa,xn,xc,rfl⟩:=aA m9.w.row;have cB:=ad b cA;have N:D U1 (U1.alloc (.cells #[Vl g1 (h.mx c).length (h.mx c).length,Vl g2 (h.ff c).length (h.ff c).length,I cf.fifo] 94)):=(Fu _ _).alloc (Fv _) _;have cC:=ad N cB;have ZU:=H (zZ (ae G b));have ZA:=H (zZ (ae (ae G b) N));have Z9:=H (zZ (x.cells _ _ _ _ G ar));have M:=H (zZ (F.cells _ _ _ _ G ar));have M9:=H m9;refine f _ _ ⟨ZU,?_⟩;clear j r1 r2 p q b N t x F m9;have j:=ZU.out;clear f K';refine po 4 λK' f=>?_;go_simp;refine f _ _ ⟨ZA,?_⟩;clear j;have j:=ZA.out;clear f K';refine po 5 λK' f=>?_
     refine aV 32 (.tmp 35) (.tmp 38) (v:=.slice wa wn wc) (v2:=Vl U1.heap.size 1 1) E E E E g ?_;refine f _ _ ⟨Z9,?_⟩;clear j;have j:=Z9.out;clear f K';refine pk 6 (J Y 3) j ?_;refine po 7 λK' f=>?_;go_simp;refine f _ _ ⟨M,?_⟩;clear j;clear f K';refine bY ?_;go_wp2;go_roundw
     (case rel=>exact ⟨c+1,_,ws++[(g1,g2)],Z,aY,H (by rw [FC,o.out];rfl),M9⟩);case measure=>simp [intOf];omega
    subst l;refine cw λK' f=>?_;go_simp;refine (QT _ MD.bel).mono ?_;rintro e U1 ⟨g1,g2,rfl,r1,r2,p,q,b⟩;unfold wv;obtain⟨v9,U2,g,t,b0,f39,x,F,m9⟩:=MD.addW b (by rw [o.out];exact r1) (by rw [o.out];exact r2) p q (by rw [o.out];omega);rw [o.out] at g;obtain⟨xa,xn,xc,rfl⟩:=aA m9.w.row;have cB:=ad b cA;have N:D U1 (U1.alloc (.cells #[Vl g1 (h.mx c).length (h.mx c).length,Vl g2 (h.ff c).length (h.ff c).length,I cf.fifo] 94)):=(Fu _ _).alloc (Fv _) _;have cC:=ad N cB;have ZU:=H (zZ (ae G b));have ZA:=H (zZ (ae (ae G b) N));have Z9:=H (zZ (x.cells _ _ _ _ G ar));have M:=H (zZ (F.cells _ _ _ _ G ar));have M9:=H m9;refine f _ _ ⟨ZU,?_⟩;clear j r1 r2 p q b N t x F m9;have j:=ZU.out;clear f K';refine lZ [1,4] λi9 l=>?_
    rcases (by simpa using l:i9=1\/i9=4) with l|l
    ·subst l;refine cw λK' f=>?_;go_simp;refine f _ _ ⟨j,?_⟩;clear f K';refine po 4 λK' f=>?_
     go_simp;refine f _ _ ⟨ZA,?_⟩;clear j;have j:=ZA.out;clear f K';refine po 5 λK' f=>?_;refine aV 32 (.tmp 35) (.tmp 38) (v:=.slice wa wn wc) (v2:=Vl U1.heap.size 1 1) E E E E g ?_;refine f _ _ ⟨Z9,?_⟩;clear j;have j:=Z9.out;clear f K';refine pk 6 (J Y 3) j ?_;refine po 7 λK' f=>?_
     go_simp;refine f _ _ ⟨M,?_⟩;clear j;clear f K';refine bY ?_;go_wp2;go_roundw;(case rel=>exact ⟨c+1,_,ws++[(g1,g2)],Z,aY,H (by rw [FC,o.out];rfl),M9⟩);case measure=>simp [intOf];omega
    subst l;refine cw λK' f=>?_;go_simp;refine f _ _ ⟨ZA,?_⟩;clear j;have j:=ZA.out;clear f K';refine po 1 λK' f=>?_
    go_simp;refine f _ _ ⟨j,?_⟩;clear f K';refine po 5 λK' f=>?_;refine aV 32 (.tmp 35) (.tmp 38) (v:=.slice wa wn wc) (v2:=Vl U1.heap.size 1 1) E E E E g ?_;refine f _ _ ⟨Z9,?_⟩;clear j;have j:=Z9.out;clear f K';refine pk 6 (J Y 3) j ?_;refine po 7 λK' f=>?_
    go_simp;refine f _ _ ⟨M,?_⟩;clear j;clear f K';refine bY ?_;go_wp2;go_roundw;(case rel=>exact ⟨c+1,_,ws++[(g1,g2)],Z,aY,H (by rw [FC,o.out];rfl),M9⟩);case measure=>simp [intOf];omega
   obtain rfl:c=12:=Z;obtain⟨qa,qc,a⟩:=oz (m wr K.bel).ro;obtain⟨M,en,ec,g⟩:=aA (m wr K.bel).rl;have t:wr.cell? ⟨y.P,116,none⟩=some (.slice qa h.row.length qc):=(by rw [<-a];exact (m wr K.bel).cell 116 Z _ rfl);have CL:=H (xt B d.ro h.row wr (m wr K.bel).ro Z);rw [a] at CL;have b8:=H a;have F:=H g;clear a g L hc a6;go_wp2_with fail;refine (CL).mono ?_;rintro e U1 ⟨vl,rfl,L,b1⟩;obtain⟨g,p,q,rfl⟩:=aA L;have M1:=H (K.below b1);have c5:=(bL M1.yb).2.2.2.2.2.1;have f5:=(bL M1.yb).2.2.2.2.2.2.2.2 5;obtain⟨a,k2⟩:=M1.set 5 (.slice g p q) (.slice g p q) (C) (.inl ⟨rfl,rfl,rfl⟩);have M2:=H a;have G:(U1.setCell ⟨Y,5,none⟩ (.slice g p q)).cell? ⟨y.P,117,none⟩=some (.slice M en ec):=(by rw [<-F.out];exact (m _ a.bel).cell 117 Z _ rfl);clear L b1 a k2 K M1 CL t;go_wp2_with fail;generalize U1.setCell ⟨Y,5,none⟩ (.slice g p q)=U2 at *;refine (uS M en ec U2).mono ?_;rintro e K ⟨rfl,a⟩;have t:D U2 K:=(by rw [a];exact (Fu _ _).alloc (Fv _) _);have L:K.heap[U2.heap.size]?=some (.cells #[.slice M en ec] 34):=(by rw [a];exact ao _ _);have M3:=H (M2.below t);have SV:=H (a8 U2.heap.size M en ec h.rel K B L (by rw [<-F.out];exact (m K M3.bel).rl) Z);clear a t L M2 G c5 f5;go_wp2_with fail;refine (SV).mono ?_;rintro e U4 ⟨ve,es,rfl,t,b4⟩;obtain⟨xa,xn,xc,rfl⟩:=aA t;have L:=H (M3.below b4);have c6:=(bL L.yb).2.2.2.2.2.2.1;have f6:=(bL L.yb).2.2.2.2.2.2.2.2 6;obtain⟨a,k5⟩:=L.set 6 (.slice xa xn xc) (.slice g p q) (.slice xa xn xc) (.inr ⟨rfl,rfl,rfl⟩);have G:=H a;obtain⟨u0,u1,u2,u3,u4,u5,u6,u7,_⟩:=bL a.yb;obtain⟨wa,wn,b0,b2⟩:=aA a.w.row;obtain⟨sa,sn,sc,b5⟩:=aA a.s;obtain⟨O,P,Q,b6⟩:=aA a.r;subst b2 b5 b6;clear t b4 a k5 M3 L SV;go_wp2_with (refine eG G.xb ?_);refine fM (aw G.xb _) underlying36 ?_;have ho:∀ w∈[Value.int .i64 (bz h.m 283),.slice R T oc,.slice sa sn sc,.slice wa wn b0,.slice O P Q,.slice g p q,.slice xa xn xc,I h.used],w.oneCell'=true:=mL;exact⟨_,_,_,_,_,_,_,_,rfl,ho,ho,G.bel.grown (aj _ _ _) G.bel.size (λr z=>by simp at z;have:=G.bx;omega)⟩
end
end Go.Proofs.YtibblbenmpcplaaGreatDoor
