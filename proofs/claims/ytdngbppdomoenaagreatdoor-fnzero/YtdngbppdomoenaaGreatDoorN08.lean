import Derived.Test.YtdngbppdomoenaaGreatDoorN05
set_option linter.unusedVariables false
set_option linter.unusedSimpArgs false
set_option maxRecDepth 20000
set_option maxHeartbeats 8000000
namespace Go.Proofs.YtdngbppdomoenaaGreatDoor
open Go.Proofs.Tryz
variable {f:Nat->Option Nat} {W W' v w:World} {g:Nat} {c p s t:Int}
section
open Go.RowKit Go.Shelf
attribute [local go_sem] Oper.semAt_some
def Da (S M:Nat) (f:Nat->Option Nat) (w:World) (p:Option Addr) (n:Nat) (ys:List Int):Prop :=
 ys.length=n/\∀ i,i<n->∃ x,p=some x/\w.cell? (x.add i)=some (.int .u8 (ys[i]?.getD 0))/\(x.add i).block<w.heap.size/\(x.add i).block≠S/\(x.add i).block≠M/\∀ k,f k≠some (x.add i).block
theorem Da.cell {S M f f' w W p n ys} (h:Da S M f w p n ys) (a:Fr S M f f' w W):∀ i,i<n->∃ x,p=some x/\W.cell? (x.add i)=some (.int .u8 (ys[i]?.getD 0)):=by
 intro i b;obtain⟨x,e,c,l,d,g,j⟩:=h.2 i b;refine⟨x,e,?_⟩;unfold World.cell? at c ⊢;rw [a.block _ l d g j];exact c
structure Sd (S M:Nat) (st nn bud:Int) (f:Nat->Option Nat) (mm:Nat->Option (Bool×List Int)) (w:World) (DB:Nat) (p:Option Addr) (n cap c:Nat) (W:World):Prop where
 im:Im S M st nn bud f W
 pg:Pg f mm W
 fr:Fr S M f f w W
 box:∃ pd,W.heap[DB]?=some (.cells #[.slice pd (n-c) (cap-c)] 22)/\(c<n->∃ x,p=some x/\pd=some (x.add c))
 mlt:M<w.heap.size
 dge:w.heap.size<=DB
theorem sH (w:World) (n o:Option Addr) (a c b d g f:Nat) (i:List Value) (t:TypeId) (p:w.heap[g]?=some (.cells i.toArray t)) (e:List Value) (q:e.length=Nat.min b a)
  (k:0<e.length->n=some ⟨g,f,none⟩/\∃ m,o=some m/\∀ j v,e[j]?=some v->w.cell? (m.add j)=some v)
  (j:f+e.length<=i.length) (r:∀ v∈e,v.oneCell'=true) :
  ∃ l,(Builtin.copy_ #[22,22] 3 #[.slice n a c,.slice o b d]).run prog w=.ok (I e.length) l/\l.heap[g]?=some (.cells (splice i f e).toArray t)/\w.grownBy l (some g):=by
 by_cases s:e.length=0;·obtain rfl:e=[]:=Hv s;refine⟨w,run_copy_none (P:=prog) w 22 22 3 5 n o a c b d underlying22 E (by simpa using q.symm),by simpa [splice] using p,ar w g⟩
 obtain⟨rfl,m,rfl,l⟩:=k Z;refine⟨_,run_copy_row (P:=prog) w 22 22 3 5 g f a c m b d i.toArray t e underlying22 E p q l (by simpa using j) r,?_,al w g _⟩;simpa [splice] using setRow_heap w g _ _ t _ p
theorem xC (c:Option Addr) (l a b:Nat) (f:l<=a) (g:a<=b):∃ d,(∀ w:World,(Instr.slice 22 (.slice c a b) (some (I l)) none none).run prog w=.ok (.slice d (a-l) (b-l)) w)/\(l<a->d=c.map λx=>x.add l):=by
 have d:prog.elem 22=5:=E;have h:=λw=>run_slice_l (P:=prog) w 22 c a b (by rw [d];exact underlying22) .i64 (l:Int) Z Z
 have e:∀ w:World,(sizeOf (prog.elem 22)).run prog w=.ok 1 w:=λw=>E
 refine⟨if b=l then c else c.map λx=>x.add l,λw=>?_,λh=>?_⟩;·rw [h w,e];simp [sliced,Result.andThen]
 rw [Gu Z]
theorem Pg.lay {mm} (h:Pg f mm W) {k:Nat} (c:f k=some g) {l} {xs:List Int} (m:xs.length=1024) (n:W'.heap[g]?=some (.cells (ew l xs) 194)) (o:W.grownBy W' (some g)):Pg f (eb mm k (some (l,xs))) W':=by
 refine⟨?_,h.inj⟩;intro j;by_cases e:j=k;·subst e;exact .inr ⟨g,l,xs,c,bL _ _ _,m,n⟩
 rw [aV mm k j _ e];rcases h.at' j with a|⟨d,p,b,a,q,r,i⟩;·exact .inl a
 refine .inr ⟨d,p,b,a,q,r,?_⟩;rw [o.block d (GL i) (λb=>by cases b;exact e (h.inj j k _ a c))];exact i
theorem Im.grownAt {S M st n bud} (h:Im S M st n bud f W) (e:W.grownBy W' (some g)) (i:g≠S) (j:g≠M):Im S M st n bud f W':=by
 obtain⟨a,⟨k,b,c,l⟩,r⟩:=h.map;refine⟨by rw [e.block S (GL h.box) (by simpa using i.symm)];exact h.box,a,⟨k,b,?_,l⟩,r⟩;have d:M<W.heap.size:=by
  by_cases m:M<W.heap.size;·exact m
  rw [GP Z] at c;cases c
 rw [e.block M d (by simpa using j.symm)];exact c
theorem Fr.grownAt {S M} (h:Fr S M f f w W) (a:W.grownBy W' (some g)) (b:(∃ k,f k=some g)\/w.heap.size<=g):Fr S M f f w W' :=
 ⟨a.os.trans h.os,a.tape.trans h.tape,a.output.trans h.output,Fg h.size a.size,λj c i l d=>by
  rw [a.block j (Fq c h.size) (λe=>by
   cases e
   rcases b with ⟨k,b⟩|b
   ·exact d k b
   omega)]
  exact h.block j c i l d,h.made⟩
end
section
open Go.ChangeShapes Go.WideShapes Go.ChangeAt Go.RowKit
theorem so (G r n o k:Nat) (ps:List Int) (x d:Int) (w:World) (a:w.heap[G]?=some (.cells #[Vl r n n,I o,I n] 167)) (c:RowV w r 3 (Ns .i64 ps)) (j:ps.length=n) (m:o<n) (p:n<=1024) (l:(o+1)%n=k) :
  Calls prog 272 #[J G 0,I x,I d] w λe f=>e=.returned (I (ps[o]?.getD 0))/\f.heap[G]?=some (.cells #[Vl r n n,I k,I n] 167)/\RowV f r 3 (Ns .i64 (ps.set o x))/\But (λk=>k=G\/k=r) w f:=by
 have b:G≠r:=c.ne a av;have g:w.cell? ⟨G,0,none⟩=some (Vl r n n):=bY a;have i:w.cell? ⟨G,1,none⟩=some (I o):=bY a;have q:w.cell? ⟨G,2,none⟩=some (I n):=bY a;have s:=H (lh G r n n o 0 o ps x w.drew (by rw [Gt,Hi m]) j Z Z Z Z g i c);have t:=H a;have z:((n:Int)==0)=false:=bK;have u:((o:Int)+1)%(n:Int)=(k:Int):=by rw [<-l];simp
 clear a c j l;go_enter func272,ntmps272;go_wp2;go_region;go_wp2_with fail;refine (s).mono ?_;rintro e c ⟨rfl,l,j⟩;have a:=H (fa (k:=G) j t b);have v:=H l;have y:=H j;clear l j g i q;have g:c.cell? ⟨G,0,none⟩=some (Vl r n n):=bY a.out;have i:c.cell? ⟨G,1,none⟩=some (I o):=bY a.out;have f1:c.frozen? ⟨G,1,none⟩=false:=GG _ _ _ _ _ a.out;go_wp2;go_region;rw [u];go_wp2;go_ret;refine⟨rfl,?_,?_,?_⟩;·show (c.setCell ⟨G,1,none⟩ _).heap[G]?=_;rw [Hm _ _ _ _ _ _ a.out];rfl
 ·exact (v.other (by simpa using b.symm) _).drew
 exact (((But.refl _ w).drew.trans (.ofGrown y (.inr rfl))).set _ _ _ (.inl rfl)).drew
theorem pW (ps:List Int) (o:Nat) (x:Int) (h:o<ps.length):(ps.set o x).drop (o+1)=ps.drop (o+1):=by
 rw [List.drop_set_of_lt Z]
theorem gn (ps:List Int) (o:Nat) (x:Int) (h:o<ps.length):(ps.set o x).take (o+1)=ps.take o++[x]:=by
 rw [FN,List.take_set_of_le (Fe _)];simp [h]
theorem Av (G r n xs x d w) (h:Qu w G r n xs) (a:n<=1024) :
  Calls prog 272 #[J G 0,I x,I d] w λe j=>e=.returned (I (cQ n xs x).2)/\Qu j G r n (cQ n xs x).1/\But (λk=>k=G\/k=r) w j:=by
 obtain⟨ps,o,h,s,t,k,u,A,v,rfl⟩:=h;by_cases g:h<n
 ·obtain rfl:=v g;refine (te G r n h ps x d w s t k g a).mono ?_;rintro e j ⟨rfl,b,c,f⟩;have m:(ps.drop 0++ps.take 0).take h=ps.take h:=bF;have p:cQ n (ps.take h) x=(ps.take h++[x],-1):=by
   unfold cQ;rw [Gv bK]
  rw [m,p];refine⟨rfl,⟨ps.set h x,0,h+1,b,c,by simpa using k,u,Z,λ_=>rfl,?_⟩,f⟩;simp only [Io,List.take_zero,F4];rw [gn _ _ _ Z]
 have q:h=n:=Z;subst q;refine (so G r h o _ ps x d w s t k u a rfl).mono ?_;rintro e j ⟨rfl,b,c,f⟩;have y:ps.drop o=(ps[o]?.getD 0)::ps.drop (o+1):=by
  rw [List.drop_eq_getElem_cons Z];congr 1;rw [Fj Z];rfl
 have m:(ps.drop o++ps.take o).take h=ps.drop o++ps.take o:=FQ bK;have p:cQ h (ps.drop o++ps.take o) x=(ps.drop (o+1)++ps.take o++[x],ps[o]?.getD 0):=by
  unfold cQ;rw [Gu bK,y];rfl
 rw [m,p];refine⟨rfl,⟨ps.set o x,_,h,b,c,by simpa using k,Nat.mod_lt _ Z,Z,λh=>Z,?_⟩,f⟩;by_cases z:o+1<h;·rw [Hi z,pW _ _ _ Z,gn _ _ _ Z,FQ (l:=ps.drop (o+1)++(ps.take o++[x])) bK,Gs]
 have i:o+1=h:=Z;rw [i,Nat.mod_self];simp only [Io,List.take_zero,F4];rw [List.drop_of_length_le Z,Fy,<-i,gn _ _ _ Z]
def er (n:Nat) (mix fifo:List Int) (slot e:Int):List Int×List Int×Int :=
 if mix=[] then ([],(cQ n fifo slot).1,(cQ n fifo slot).2)
 else if mix[md e mix.length]?.getD 0 = -1 then (mix.set (md e mix.length) slot,fifo,-1)
 else (mix.set (md e mix.length) slot,(cQ n fifo (mix[md e mix.length]?.getD 0)).1,(cQ n fifo (mix[md e mix.length]?.getD 0)).2)
def pl (k c s t p o:Int):Value:=.agg #[I k,I c,I s,I t,I p,I o]
def z6:Array Value:=#[I 0,I 0,I 0,I 0,I 0,I 0]
structure Rt (w:World) (g:Nat) (v:World):Prop where
 blk:v.heap[g]?=some (.cells z6 58)
 bel:D w v
 new:w.heap.size<=g
theorem Rt.first (w):Rt w w.heap.size (w.alloc (.cells z6 58)):=⟨hE _ _,(Fc _ _).alloc (Fe _) _,Fe _⟩
theorem Rt.below {v'} (h:Rt w g v) (b:D v v'):Rt w g v':=by
 have a:g<v.heap.size:=by
  by_cases a:g<v.heap.size;·exact a
  have:v.heap[g]?=none:=GP Z;have c:=h.blk;rw [this] at c;cases c
 exact⟨by rw [b.block g a];exact h.blk,cu h.bel b,h.new⟩
theorem Rt.drew {w v g} (h:Rt w g v):Rt w g v.drew:=h.below (Fc _ _).drew
theorem Tb.drew {w} (h:Tb w):Tb w.drew:=⟨h.row⟩
theorem Rt.row (h:Rt w g v) (a:Array Value):(v.setRow g a).heap[g]?=some (.cells a 58):=by
 simp [World.setRow,Fp,h.blk]
theorem Rt.done (h:Rt w g v) (a:Array Value):D w (v.setRow g a):=Below.setRow h.bel h.new a
theorem Rt.six (h:Rt w g v) (a b c d e f:Value) :
  ((((((v.setCell ⟨g,0,none⟩ a).setCell ⟨g,1,none⟩ b).setCell ⟨g,2,none⟩ c).setCell ⟨g,3,none⟩ d).setCell ⟨g,4,none⟩ e).setCell ⟨g,5,none⟩ f).drew.heap[g]?=some (.cells #[a,b,c,d,e,f] 58) /\
  D w ((((((v.setCell ⟨g,0,none⟩ a).setCell ⟨g,1,none⟩ b).setCell ⟨g,2,none⟩ c).setCell ⟨g,3,none⟩ d).setCell ⟨g,4,none⟩ e).setCell ⟨g,5,none⟩ f).drew:=by
 refine⟨?_,((((((h.bel.setCell h.new _).setCell h.new _).setCell h.new _).setCell h.new _).setCell h.new _).setCell h.new _).drew⟩;simp [World.drew,World.setCell,Fp,h.blk,z6]
def xo (c s o:Int):Value :=
 if pg c*1024<=o then pl 1 c s 0 0 0
 else if sl c*sz c<=o then pl 2 c s 0 0 (o-sl c*sz c)
 else pl 3 c s (o/sz c) 0 (o%sz c)
theorem jF (c b:Int) (w) (j:Tb w) (h:0<=c/\c<12) (B:0<=b) (k:b<6*((pg c+1)*1024)) :
  Calls prog 50 #[I c,I b] w λe a=>e=.returned (xo c (b/((pg c+1)*1024)) (b%((pg c+1)*1024)))/\D w a:=by
 have f:=hidR (Rt.first w);have i:=hidR (j.below f.bel);have r:=hidR (gt c);have t:=hidR (fy c);have u:=hidR (dM c);have x:=hidR (gI c);have F:=eJ h;have G:=fx h;have d:=ja h;have K:0<=b/((pg c+1)*1024)/\b/((pg c+1)*1024)<=6:=by
  have:pg c=1\/pg c=2\/pg c=3\/pg c=4:=Z;rcases this with e|e|e|e <;> rw [e] at k ⊢<;> omega
 have m:0<=b%((pg c+1)*1024)/\b%((pg c+1)*1024)<(pg c+1)*1024:=by
  have:pg c=1\/pg c=2\/pg c=3\/pg c=4:=Z;rcases this with e|e|e|e <;> rw [e] <;> omega
 have L:b<30720:=Z;unfold xo;clear j;have M:0<=sl c*sz c/\sl c*sz c<=pg c*1024:=⟨Int.mul_nonneg Z Z,d.2.2.2⟩;have y:4<=sl c/\sl c<=64:=⟨d.1,d.2.1⟩;clear d k;generalize sz c=s at *;generalize sl c=l at *;generalize pg c=p at *;unfold z6 at *;go_enter func50,ntmps50;go_wp2_with fail;generalize w.alloc (Obj.cells #[Value.int IntKind.i64 0,Value.int IntKind.i64 0,Value.int IntKind.i64 0,Value.int IntKind.i64 0,Value.int IntKind.i64 0,Value.int IntKind.i64 0] 58)=v at f i ⊢;generalize w.heap.size=g at f ⊢;refine (r _ i).mono ?_;rintro e a ⟨rfl,rfl⟩;go_wp2_with fail;go_region;have d:=hidR f.drew;have j:=hidR i.drew;clear f i;generalize a.drew=N at d j ⊢;go_wp2_with fail;refine (t _ j).mono ?_;rintro e a ⟨rfl,rfl⟩;have n:=hidR d.done;have o:=hidR d.row;have k:=hidR d.blk;have q:=hidR d.six;clear d;by_cases O:p*1024<=b%((p+1)*1024);·go_wp2_with (refine FK rfl 58 _ _ rfl g _ rfl rfl 58 z6 k E rfl jv ?_);refine fp (o _) underlying58 ?_;exact⟨rfl,n _⟩
 have z:b%((p+1)*1024)<p*1024:=Z;go_wp2_with fail;refine (u _ j).mono ?_;rintro e a ⟨rfl,rfl⟩;go_wp2_with fail;refine (x _ j).mono ?_;rintro e a ⟨rfl,rfl⟩;by_cases P:l*s<=b%((p+1)*1024);·go_wp2_with (refine FK rfl 58 _ _ rfl g _ rfl rfl 58 z6 k E rfl jv ?_);refine fp (o _) underlying58 ?_;exact⟨rfl,n _⟩
 have A:b%((p+1)*1024)<l*s:=Z;have Q:0<=b%((p+1)*1024)/s/\b%((p+1)*1024)/s<=4096:=⟨Int.ediv_nonneg m.1 Z,Int.le_trans (Int.ediv_le_self _ m.1) Z⟩;have R:0<=b%((p+1)*1024)%s/\b%((p+1)*1024)%s<s:=⟨Ix _ Z,Ij _ Z⟩;have d:∀ i,i<6->a.cell? ⟨g,i,none⟩=some (I 0):=λi S=>by
  have:i=0\/i=1\/i=2\/i=3\/i=4\/i=5:=Z;rcases this with rfl|rfl|rfl|rfl|rfl|rfl <;> simp [World.cell?,k.out,z6]
 have f:∀ i,a.frozen? ⟨g,i,none⟩=false:=λi=>by simp [World.frozen?,k.out]
 have T:=d 0 Z;have V:=d 1 Z;have W:=d 2 Z;have X:=d 3 Z;have Y:=d 4 Z;have c5:=d 5 Z;have f0:=f 0;have f1:=f 1;have f2:=f 2;have f3:=f 3;have f4:=f 4;have f5:=f 5;clear d f;go_wp2;go_region;go_wp2;refine GF (Ga ef _ _ g 58 _ (0,0) _ ef (q _ _ _ _ _ _).1 underlying58 rfl E) ef ?_;exact⟨rfl,(q _ _ _ _ _ _).2⟩
structure Hit (p c s:Int):Prop where
 c0:0<=c
 c1:c<12
 s0:0<=s
 s1:s<6
 lo:rs c+s*(pg c+1)<=p
 hi:p<=rs c+s*(pg c+1)+pg c
theorem mD (k:Nat) (h:k<12):eV (k+1)=eV k+6*(pg k+1):=by
 simp only [eV];rw [CT ⟨Z,Z⟩]
theorem pR (a:Nat):∀ d,eV a<=eV (a+d)
 | 0=>Int.le_refl _
 | d+1=>by
  have b:=pR a d
  have c:=tJ ((a+d:Nat):Int)
  have e:eV (a+(d+1))=eV (a+d)+rp ((a+d:Nat):Int):=rfl
  omega
theorem Hit.c_le {c' s'} (h:Hit p c s) (d:Hit p c' s'):c<=c':=by
 apply Int.not_lt.1;intro f;obtain⟨a,rfl⟩:=GM h.c0;obtain⟨b,rfl⟩:=GM d.c0;have g:rs (a:Int)=eV a:=by rw [jx ⟨h.c0,h.c1⟩];rfl
 have i:rs (b:Int)=eV b:=by rw [jx ⟨d.c0,d.c1⟩];rfl
 have j:=pR (b+1) (a-(b+1));have k:b+1+(a-(b+1))=a:=Z;rw [k,mD b (by have:=d.c1;omega)] at j;have l:=h.lo;have m:=d.hi;rw [g] at l;rw [i] at m;have q:=fx (c:=(b:Int)) ⟨d.c0,d.c1⟩;have n:=fx (c:=(a:Int)) ⟨h.c0,h.c1⟩;have o:=d.s1;have e:=h.s0;generalize pg (b:Int)=x at *;generalize pg (a:Int)=y at *;have r:0<=s*(y+1):=Int.mul_nonneg e Z;have t:s'*(x+1)<=5*(x+1):=Int.mul_le_mul_of_nonneg_right Z Z;omega
theorem Hit.one {c' s'} (h:Hit p c s) (a:Hit p c' s'):c=c'/\s=s':=by
 have e:c=c':=Int.le_antisymm (h.c_le a) (a.c_le h);subst e;refine⟨rfl,?_⟩;have i:=fx (c:=c) ⟨h.c0,h.c1⟩;have b:=h.lo;have d:=h.hi;have f:=a.lo;have g:=a.hi;have:pg c=1\/pg c=2\/pg c=3\/pg c=4:=Z;rcases this with e|e|e|e <;> rw [e] at b d f g <;> omega
inductive Dec:Int->Value->Prop
 | out (a:Int) (h:289792<=a):Dec a (pl 0 0 0 0 0 0)
 | large (a:Int) (h0:191488<=a) (h1:a<289792):Dec a (pl 4 0 0 0 (a/1024-187) (a%1024))
 | zero (a:Int) (h0:0<=a) (h1:a<1024):Dec a (pl 1 0 0 0 0 0)
 | slab (a c s:Int) (h0:1024<=a) (h1:a<191488) (h:Hit (a/1024) c s):Dec a (xo c s (a-(rs c+s*(pg c+1))*1024))
theorem Dec.one {a:Int} {v b:Value} (h:Dec a v) (d:Dec a b):v=b:=by
 cases h <;> cases d <;> first|rfl|omega|skip
 rename_i c s g i e j k l m f;obtain⟨rfl,rfl⟩:=e.one f;rfl
theorem tQ {a:Array Value} {t:TypeId} (h:v.heap[g]?=some (.cells a t)) (b:Array Value):(v.setRow g b).heap[g]?=some (.cells b t):=by
 simp [World.setRow,Fp,h]
theorem zd (c s o):∃ a:Array Value,xo c s o=.agg a/\a.size=6/\a.all (·.oneCell')=true:=by
 unfold xo;split;·exact⟨_,rfl,rfl,jv⟩
 split;·exact⟨_,rfl,rfl,jv⟩
 exact⟨_,rfl,rfl,jv⟩
theorem nR (a:Int) (x:0<=a) (T:a<=18446744073709551615) (w) (b:Tb w) :
  Calls prog 19 #[U a] w λe V=>(∃ v,Dec a v/\e=.returned v)/\D w V:=by
 have d:=hidR (Rt.first w);have f:=hidR (b.below d.bel);have M:=hidR eZ;have N:=hidR fq;have O:=hidR jF;clear b;unfold z6 at *;go_enter func19,ntmps19;go_wp2_with fail;generalize w.alloc (Obj.cells #[Value.int IntKind.i64 0,Value.int IntKind.i64 0,Value.int IntKind.i64 0,Value.int IntKind.i64 0,Value.int IntKind.i64 0,Value.int IntKind.i64 0] 58)=v at d f ⊢;generalize w.heap.size=g at d ⊢;refine (M _ f).mono ?_;rintro e w2 ⟨rfl,i⟩;have b:=hidR (d.below i);have j:=hidR (f.below i);clear i d f;by_cases W:289792<=a;·have y:=hidR b.done;have z:=hidR b.row;have B:=hidR b.blk;clear b;go_wp2_with (refine FK rfl 58 _ _ rfl g _ rfl rfl 58 z6 B E rfl jv ?_);refine fp (z _) underlying58 ?_;exact⟨⟨_,.out a W,rfl⟩,y _⟩
 by_cases X:a<1024
 ·have y:=hidR b.done;have z:=hidR b.row;have B:=hidR b.blk;clear b;have Y:a/1024<1:=Z;go_wp2_with (refine FK rfl 58 _ _ rfl g _ rfl rfl 58 z6 B E rfl jv ?_);refine fp (z _) underlying58 ?_;exact⟨⟨_,.zero a x X,rfl⟩,y _⟩
 have Y:1<=a/1024:=Z;go_wp2_with fail;refine (N _ j).mono ?_;rintro e m ⟨rfl,d⟩;have n:=hidR (b.below d);have o:=hidR (j.below d);clear d b j;have j:D m ((m.alloc (.cells nI 108)).setRow m.heap.size (stA 12)):=Below.setRow ((Fc _ _).alloc (Fe _) _) (Fe _) _;have d:=hidR (n.below j);have p:=hidR (o.below j);have l:=hidR (hE m (.cells nI 108));have f:Hid (∀ k:Nat,k<13->((m.alloc (.cells nI 108)).setRow m.heap.size (stA 12)).cell? ⟨m.heap.size,k,none⟩=some (I (eV k))):=hidR (λk F=>by
  have h:=lr 12 k F;rw [Gv Z] at h;have e:=tQ l (stA 12);simp only [World.cell?,e];exact h)
 have b:=hidR (show (stA 12).all (·.oneCell')=true by kernel_rfl);have i:=hidR (show nI.size=(stA 12).size by rw [pT];rfl);clear j n o;generalize stA 12=A at f d p b i ⊢;unfold nI at *;by_cases h3:191488<=a
 ·have t3:187<=a/1024:=Z;go_wp2_with (first|(refine FK rfl 108 _ _ rfl _ _ rfl rfl 108 _ l E i b ?_;generalize World.setRow _ _ _=P at f d p ⊢;have j:=f.out 12 Z;rw [mW] at j)|(refine FK rfl 58 _ _ rfl g _ rfl rfl 58 z6 d.blk E rfl jv ?_));refine fp (d.row _) underlying58 ?_;exact⟨⟨_,.large a h3 Z,rfl⟩,d.done _⟩
 have t3:a/1024<187:=Z;go_wp2_with (first|(refine FK rfl 108 _ _ rfl _ _ rfl rfl 108 _ l E i b ?_;generalize World.setRow _ _ _=P at f d p ⊢;have j:=f.out 12 Z;rw [mW] at j)|(refine FK rfl 58 _ _ rfl g _ rfl rfl 58 z6 d.blk E rfl jv ?_));have n:decide (289792<=a)=false:=Gy Z;have o:decide (a/1024<1)=false:=Gy Z;have q:decide (187<=a/1024)=false:=Gy Z;simp only [n,o,q];clear n o q b i l;go_loop [6] (λc=>∃ k:Nat,k<12/\c=I k/\eV k<=a/1024) (λc=>12-(intOf c).toNat);case atStart=>exact ⟨0,Z,rfl,by simp only [eV];omega⟩
 case round =>
  obtain⟨k,F,rfl,a0⟩:=hrel;have t:=f.out (k+1) Z;have q:=f.out k Z;have a1:=gX k;have b:=mD k F;have a2:=fx (c:=(k:Int)) ⟨Z,Z⟩;by_cases i:eV (k+1)<=a/1024
  ·have l:k+1<12:=by
    apply Nat.lt_of_le_of_ne Z;intro e;rw [e,mW] at i;omega
   have n:=hidR i;generalize eV (k+1)=Q at t i b;clear b;go_wp2
   go_round
   (case rel=>exact ⟨k+1,l,aY,n⟩);case measure=>simp [intOf];omega
  have G:0<=(a/1024-eV k)*1024+a%1024:=Z;have r:(a/1024-eV k)*1024+a%1024<6*((pg (k:Int)+1)*1024):=Z;have n:=hidR (O (k:Int) _ P p ⟨Z,Z⟩ G r);have R:Hid (Dec a (xo (k:Int) (((a/1024-eV k)*1024+a%1024)/((pg (k:Int)+1)*1024)) (((a/1024-eV k)*1024+a%1024)%((pg (k:Int)+1)*1024)))):=hidR (by
   have l:rs (k:Int)=eV k:=(by rw [jx ⟨Z,Z⟩];rfl);have o:Hit (a/1024) (k:Int) (((a/1024-eV k)*1024+a%1024)/((pg (k:Int)+1)*1024))/\((a/1024-eV k)*1024+a%1024)%((pg (k:Int)+1)*1024)=a-(rs (k:Int)+(((a/1024-eV k)*1024+a%1024)/((pg (k:Int)+1)*1024))*(pg (k:Int)+1))*1024:=by
    rw [l];have:pg (k:Int)=1\/pg (k:Int)=2\/pg (k:Int)=3\/pg (k:Int)=4:=Z;generalize eV (k+1)=Q at *;clear n O M N f d p t q;rcases this with e|e|e|e <;> rw [e] at b r ⊢<;> refine ⟨⟨Z,Z,Z,Z,by rw [l,e];omega,by rw [l,e];omega⟩,Z⟩
   rw [o.2];exact .slab a _ _ Z Z o.1)
  obtain⟨u,K,o,l⟩:=zd (k:Int) (((a/1024-eV k)*1024+a%1024)/((pg (k:Int)+1)*1024)) (((a/1024-eV k)*1024+a%1024)%((pg (k:Int)+1)*1024));rw [K] at n R;have s:a/1024<eV (k+1):=Z;generalize eV (k+1)=Q at t s b;generalize eV k=r0 at *;clear b i;go_wp2_with fail;refine (n).mono ?_;rintro e w5 ⟨rfl,S⟩;have i:=hidR (d.below S);have L:=hidR (show z6.size=u.size by rw [o];rfl);have b:=hidR (show (prog.info? 58).map (·.size)=some u.size by rw [o];kernel_rfl);have HO:=hidR l;clear S d p f t q j o l;go_wp2_with (refine FK rfl 58 _ _ rfl g u rfl rfl 58 z6 i.blk b L HO ?_);refine GF (Ga ef _ _ g 58 u (0,0) _ ef (i.row _) underlying58 rfl b) ef ?_;exact⟨⟨_,R,rfl⟩,i.done _⟩
structure Two (w:World) (g G:Nat) (cs:Array Value) (W:World):Prop where
 rt:Rt w g W
 row:W.heap[G]?=some (.cells cs 58)
 ne:g<G
theorem Rt.lt (h:Rt w g v):g<v.heap.size:=by
 by_cases b:g<v.heap.size;·exact b
 have:v.heap[g]?=none:=GP Z;have a:=h.blk;rw [this] at a;cases a
theorem Two.first (h:Rt w g v) (cs):Two w g v.heap.size cs ((v.alloc (.cells z6 58)).setRow v.heap.size cs) :=
 ⟨h.below (Below.setRow ((Fc _ _).alloc (Fe _) _) (Fe _) _),tQ (hE _ _) _,h.lt⟩
theorem Two.below {w v v' g G cs} (h:Two w g G cs v) (b:D v v'):Two w g G cs v':=by
 have a:G<v.heap.size:=by
  by_cases a:G<v.heap.size;·exact a
  have:v.heap[G]?=none:=GP Z;have c:=h.row;rw [this] at c;cases c
 exact⟨h.rt.below b,by rw [b.block G a];exact h.row,h.ne⟩
theorem Two.set {G cs} (h:Two w g G cs v) (i:Nat) (x:Value):Two w g G (cs.setIfInBounds i x) (v.setCell ⟨G,i,none⟩ x):=by
 have a:G≠g:=by have:=h.ne;omega
 refine⟨⟨?_,h.rt.bel.setCell (p:=⟨G,i,none⟩) (by have:=h.rt.new;have:=h.ne;show _<=G;omega) _,h.rt.new⟩,?_,h.ne⟩;·have:=h.rt.blk;rw [Gx _ _ _ _ (by exact H2 a)];exact this
 simp [World.setCell,Fp,h.row]
theorem Two.cell {w v g G cs} (h:Two w g G cs v) (i:Nat):v.cell? ⟨G,i,none⟩=cs[i]?:=by
 simp [World.cell?,h.row]
theorem Two.free {G cs} (h:Two w g G cs v) (i:Nat):v.frozen? ⟨G,i,none⟩=false:=by
 simp [World.frozen?,h.row]
structure Slot (c s t:Int):Prop where
 c0:0<=c
 c1:c<12
 s0:0<=s
 s1:s<6
 t0:0<=t
 t1:t<sl c
theorem Hit.off {a:Int} (h:Hit (a/1024) c s):0<=a-(rs c+s*(pg c+1))*1024/\a-(rs c+s*(pg c+1))*1024<(pg c+1)*1024:=by
 have b:=h.lo;have d:=h.hi;generalize s*(pg c+1)=m at *;omega
theorem Dec.slot {a o:Int} (h:Dec a (pl 3 c s t p o)):Slot c s t/\p=0/\0<=o/\o<sz c/\a=(rs c+s*(pg c+1))*1024+t*sz c+o:=by
 generalize b:pl 3 c s t p o=v at h;cases h with
 | out h=>simp [pl] at b
 | large k l=>simp [pl] at b
 | zero k l=>simp [pl] at b
 | slab r x k l h =>
  have d:=h.off;have y:=eJ (c:=r) ⟨h.c0,h.c1⟩;unfold xo at b;split at b;·simp [pl] at b
  split at b;·simp [pl] at b
  rename_i z u;simp only [pl,Value.agg.injEq,Array.mk.injEq,List.cons.injEq,Hf,true_and,and_true] at b;obtain⟨rfl,rfl,g,w,m⟩:=b;have n:=Int.emod_add_mul_ediv (a-(rs c+s*(pg c+1))*1024) (sz c);have e:=Ix (a-(rs c+s*(pg c+1))*1024) (show sz c≠0 by omega);have f:=Ij (a-(rs c+s*(pg c+1))*1024) (show 0<sz c by omega);rw [<-g,<-m] at n;rw [<-m] at e f;have i:0<=t:=by rw [g];exact Int.ediv_nonneg d.1 Z
  have j:t<sl c:=by
   apply Int.not_le.1;intro q;rw [g] at q;exact u ((Int.le_ediv_iff_mul_le Z).1 q)
  refine⟨⟨h.c0,h.c1,h.s0,h.s1,i,j⟩,w,e,f,?_⟩;rw [Int.mul_comm] at n;omega
theorem sk (h:0<=c/\c<12) (a:0<=t) (b:t<sl c):0<=t*sz c/\t*sz c+sz c<=sl c*sz c:=by
 have d:=eJ h;refine⟨Int.mul_nonneg a Z,?_⟩;have:=Int.mul_le_mul_of_nonneg_right (show t+1<=sl c by omega) (show 0<=sz c by omega);rw [Int.add_mul] at this;omega
theorem Slot.dec (h:Slot c s t) {o:Int} (b:0<=o) (d:o<sz c):Dec ((rs c+s*(pg c+1))*1024+t*sz c+o) (pl 3 c s t 0 o) /\
  1024<=(rs c+s*(pg c+1))*1024+t*sz c/\(rs c+s*(pg c+1))*1024+t*sz c+o<191488:=by
 have f:0<=c/\c<12:=⟨h.c0,h.c1⟩;have p:=eJ f;have q:=ja f;have r:=fx f;have u:=sk f h.t0 h.t1;have k:=h.s0;have l:=h.s1;have v:1<=rs c/\rs c+6*(pg c+1)<=187:=by
  rcases fH f with rfl|rfl|rfl|rfl|rfl|rfl|rfl|rfl|rfl|rfl|rfl|rfl <;> decide
 have w:0<=s*(pg c+1)/\s*(pg c+1)+(pg c+1)<=6*(pg c+1):=by
  have:pg c=1\/pg c=2\/pg c=3\/pg c=4:=Z;rcases this with e|e|e|e <;> rw [e] <;> omega
 have j:1024<=(rs c+s*(pg c+1))*1024+t*sz c:=Z;have g:(rs c+s*(pg c+1))*1024+t*sz c+o<191488:=Z;refine⟨?_,j,g⟩;have i:Hit (((rs c+s*(pg c+1))*1024+t*sz c+o)/1024) c s:=⟨h.c0,h.c1,h.s0,h.s1,Z,Z⟩;have a:=Dec.slab _ c s Z g i;have e:(rs c+s*(pg c+1))*1024+t*sz c+o-(rs c+s*(pg c+1))*1024=t*sz c+o:=Z;rw [e] at a;unfold xo at a;rw [Gu Z,Gu Z] at a;have m:(t*sz c+o)/sz c=t:=by
  rw [Int.add_comm,Int.add_mul_ediv_right _ _ Z,Int.ediv_eq_zero_of_lt b d];omega
 have n:(t*sz c+o)%sz c=o:=by
  rw [Int.add_comm,Int.add_mul_emod_self_right,Int.emod_eq_of_lt b d]
 rw [m,n] at a;exact a
theorem wrap64_in {x:Int} (a : -9223372036854775808<=x) (b:x<=9223372036854775807):wrap64 x=x:=by
 simp only [wrap64];omega
theorem kB (c s t) (h:Slot c s t) (w) (d:Tb w) :
  Calls prog 147 #[I c,I s,I t] w λe u=>e=.returned (.tuple #[U ((rs c+s*(pg c+1))*1024+t*sz c),.bool true])/\D w u:=by
 have a:0<=c/\c<12:=⟨h.c0,h.c1⟩;have j:=hidR (mM c);have k:=hidR (gt c);have l:=hidR (dM c);have G:=eJ a;have K:=fx a;have f:=h.dec (o:=0) Z Z;have x:=h.s0;have y:=h.s1;have L:1<=rs c/\rs c<=361:=by have:=v_ c;rw [jx a] at this ⊢;have:=gX c.toNat;omega
 have M:0<=s*(pg c+1)/\s*(pg c+1)<=25:=by
  have:pg c=1\/pg c=2\/pg c=3\/pg c=4:=Z;rcases this with e|e|e|e <;> rw [e] <;> omega
 have m:=sk a h.t0 h.t1;have b:t*sz c<=4096:=by have:=(ja a).2.2.2;omega
 have g:=hidR f.1;have i:=f.2;have n:=hidR (λW a=>nR ((rs c+s*(pg c+1))*1024+t*sz c) Z Z W a);rw [Int.add_zero] at g i;have A:0<=t*sz c/\t*sz c<=4096:=⟨m.1,b⟩;clear m b f h;generalize rs c=r at *;generalize pg c=p at *;generalize sz c=z at *;go_enter func147,ntmps147;go_wp2_with fail;refine (j _ d).mono ?_;rintro e N ⟨rfl,f⟩;have b:=hidR (d.below f);go_wp2_with fail;refine (k _ b).mono ?_;rintro e O ⟨rfl,rfl⟩;go_wp2_with fail;refine (l _ b).mono ?_;rintro e P ⟨rfl,rfl⟩;go_wp2_with fail;refine (n _ b).mono ?_;rintro e Q ⟨⟨v,m,rfl⟩,q⟩;have B:=g.one m;subst B;have F:=hidR (cu f q);clear m f q b j k l n d g;unfold pl;go_wp2
 go_ret2
 exact⟨rfl,F⟩
end
section
open Go.ChangeShapes Go.WideShapes Go.ChangeAt Go.RowKit Go.Shelf Go.Maps
theorem bZ (j:World) (a:Option Addr) (d f:Nat) (l:List Int) (i:IsRow .u8 j a d f l) (g:d<=1048576) (R b0 W) (k:Rd j a d f R b0 W) :
  Calls prog 58 #[.pointer (some ⟨R,0,none⟩)] W λe W'=>(∃ c:Int,0<=c/\c<=18446744073709551615/\e=.returned (.int .u64 c))/\Rd j a d f R b0 W':=by
 have N:=H (λW h=>ca j a d f l i g R b0 W h);have V:=H (λW h=>cO j a d f l i g R b0 W h);have b:=H cd;have m:=H k;clear k i;go_enter func58,ntmps58;go_wp2_with fail;refine (N _ m).mono ?_;rintro e t ⟨⟨k,p,rfl⟩,n⟩;have i:=H n;clear n m;by_cases q:250<=k
 ·have:k=250\/k=251\/k=252\/k=253\/k=254\/k=255:=Z;clear q p;rcases this with rfl|rfl|rfl|rfl|rfl|rfl
  all_goals
   go_wp2_with fail
   refine (V _ i).mono ?_
   rintro e r ⟨⟨c,o,s,rfl⟩,n⟩
   have m:=H n
   clear n
   go_wp2
   go_ret
   exact⟨⟨_,Z,Z,rfl⟩,m⟩
 ·by_cases v:225<=k
  ·go_wp2;go_ret;exact⟨⟨_,Z,Z,rfl⟩,i⟩
  ·by_cases w:200<=k
   ·go_wp2;go_ret;exact⟨⟨_,Z,Z,rfl⟩,i⟩
   ·by_cases x:k%3=0
    ·have n:((k:Int)%3==0)=true:=bK;have s:=ot ((k:Int)/3%12);go_wp2_with fail;refine (b _ _).mono ?_;rintro e r ⟨rfl,o⟩;have m:=H (i.below o);clear o;generalize us ((k:Int)/3%12)=u at s;go_wp2;go_ret;exact⟨⟨_,Z,Z,rfl⟩,m⟩
    ·have n:((k:Int)%3==0)=false:=bK;by_cases s:k%3=1
     ·have o:((k:Int)%3==1)=true:=bK;go_wp2;go_ret;exact⟨⟨_,Z,Z,rfl⟩,i⟩
     ·have o:((k:Int)%3==1)=false:=bK;go_wp2;go_ret;exact⟨⟨_,Z,Z,rfl⟩,i⟩
theorem Cc (c:Int) (j:Nat) (a:0<=c) (b:c<=18446744073709551615):0<=c/2 ^ j/\c/2 ^ j<=18446744073709551615 :=
 ⟨Int.ediv_nonneg a (Int.pow_nonneg Z),Int.le_trans (Int.ediv_le_self _ a) b⟩
theorem u64_in (z:Int):0<=IntKind.u64.wrap z/\IntKind.u64.wrap z<=18446744073709551615:=by rw [IntKind.wrap_u64];omega
theorem pV (v:World) (a:Option Addr) (g j:Nat) (B:List Int) (b:IsRow .u8 v a g j B) (o:g<=1048576) (R b0 W) (d:Rd v a g j R b0 W) :
  Calls prog 44 #[.pointer (some ⟨R,0,none⟩)] W λe W'=>(∃ c:Int,0<=c/\c<=18446744073709551615/\e=.returned (.int .u64 c))/\Rd v a g j R b0 W':=by
 have N:=H (λW h=>ca v a g j B b o R b0 W h);have V:=H (λW h=>cO v a g j B b o R b0 W h);have i:=H iw;have l:=H dW;have m:=H cJ;have n:=H fC;have S:=H ek;have T:=H eo;have f:=H u64_in;have q:=H d;clear d b;go_enter func44,ntmps44;go_wp2_with fail;refine (N _ q).mono ?_;rintro e w1 ⟨⟨k,hk,rfl⟩,b⟩;have d:=H b;clear b q;go_wp2_with fail;refine (N _ d).mono ?_;rintro e w2 ⟨⟨c,hc,rfl⟩,b⟩;have q:=H b;clear b d;go_wp2_with fail;refine (N _ q).mono ?_;rintro e w3 ⟨⟨s,hs,rfl⟩,b⟩;have t:=H b;clear b q;have r:(0:Int)<=(c:Int)%12/\(c:Int)%12<12:=Z;have X:(0:Int)<=(s:Int)%6/\(s:Int)%6<6:=Z;have b:=ja r;have hz:=eJ r;have hp:=fx r;have Y:4<=sl ((c:Int)%12)/\sl ((c:Int)%12)<=64:=⟨b.1,b.2.1⟩;have d:=H (i ((c:Int)%12) ((s:Int)%6) Z Z);have F:=H (l ((c:Int)%12));have w:=H (m ((c:Int)%12));have x:=H (n ((c:Int)%12));clear b i l m n;go_wp2_with fail;generalize (c:Int)%12=y at *;generalize (s:Int)%6=ss at *;refine (d _).mono ?_;rintro e w4 ⟨rfl,b⟩;have i:=H (t.below b);clear b t;generalize rs y+ss*(pg y+1)=L at *;generalize pg y=p at *;generalize sz y=z at *;generalize sl y=l at *;go_wp2_with fail;refine (N _ i).mono ?_;rintro e w5 ⟨⟨n,hn,rfl⟩,m⟩;have b:=H m;clear m i d;have G:(k:Int)%8=0\/(k:Int)%8=1\/(k:Int)%8=2\/(k:Int)%8=3\/(k:Int)%8=4\/(k:Int)%8=5\/(k:Int)%8=6\/(k:Int)%8=7:=Z;rcases G with t|t|t|t|t|t|t|t
 ·go_wp2;go_ret;exact⟨⟨_,(f _).1,(f _).2,rfl⟩,b⟩
 ·go_wp2_with fail;refine (F _).mono ?_;rintro e u ⟨rfl,m⟩;have i:=H (b.below m);clear m b;go_wp2;go_ret;exact⟨⟨_,(f _).1,(f _).2,rfl⟩,i⟩
 ·go_wp2_with fail;refine (x _).mono ?_;rintro e u ⟨rfl,m⟩;have i:=H (b.below m);clear m b;go_wp2_with fail;refine (w _).mono ?_;rintro e O ⟨rfl,A⟩;have R7:=H (i.below A);clear A i;go_wp2;go_ret;exact⟨⟨_,(f _).1,(f _).2,rfl⟩,R7⟩
 ·go_wp2_with fail;refine (S _).mono ?_;rintro e u ⟨rfl,m⟩;have i:=H (b.below m);clear m b;go_wp2_with fail;refine (N _ i).mono ?_;rintro e O ⟨⟨d,P,rfl⟩,q⟩;have R7:=H q;clear q i;go_wp2;go_ret;exact⟨⟨_,(f _).1,(f _).2,rfl⟩,R7⟩
 ·go_wp2_with fail;refine (T _).mono ?_;rintro e u ⟨rfl,m⟩;have i:=H (b.below m);clear m b;go_wp2;go_ret;exact⟨⟨_,(f _).1,(f _).2,rfl⟩,i⟩
 ·go_wp2_with fail;refine (V _ b).mono ?_;rintro e u ⟨⟨d,K,M,rfl⟩,q⟩;have i:=H q;have Q:=H (λj=>Cc d j K M);clear q b;go_wp2;go_ret;exact⟨⟨_,(Q _).1,(Q _).2,rfl⟩,i⟩
 ·go_wp2_with fail;refine (N _ b).mono ?_;rintro e u ⟨⟨d,P,rfl⟩,q⟩;have i:=H q;clear q b;go_wp2;go_ret;exact⟨⟨_,(f _).1,(f _).2,rfl⟩,i⟩
 ·go_wp2
  go_region_with (first
   | (go_at_call 28;refine (N _ ?_).mono ?_;exact b.drew;rintro e u ⟨⟨d,P,rfl⟩,q⟩)
   | (go_at_call 45;refine (x _).mono ?_;rintro e O ⟨rfl,A⟩)
   | (go_at_call 21;refine (w _).mono ?_;rintro e M ⟨rfl,K⟩))
  all_goals
   have M:=H ((q.below A).below K)
   clear q A K b
   go_wp2
   go_ret
   exact⟨⟨_,(f _).1,(f _).2,rfl⟩,M⟩
end
end Go.Proofs.YtdngbppdomoenaaGreatDoor
