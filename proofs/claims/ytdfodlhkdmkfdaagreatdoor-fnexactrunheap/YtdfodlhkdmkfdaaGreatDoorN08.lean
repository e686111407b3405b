import Derived.Deep.CutBlock
import Derived.Deep.DeepCutAuto
import Derived.Test.YtdfodlhkdmkfdaaGreatDoorN05
set_option linter.unusedVariables false
set_option linter.unusedSimpArgs false
set_option maxRecDepth 20000
set_option maxHeartbeats 8000000
namespace Go.Proofs.YtdfodlhkdmkfdaaGreatDoor
open Go.Proofs.Tryz
variable {c p s t:Int}
section
open Go.ChangeShapes Go.WideShapes Go.ChangeAt Go.RowKit
structure Hit (p c s:Int):Prop where
 c0:0<=c
 c1:c<12
 s0:0<=s
 s1:s<6
 lo:rs c+s*(pg c+1)<=p
 hi:p<=rs c+s*(pg c+1)+pg c
theorem rL (k:Nat) (h:k<12):fW (k+1)=fW k+6*(pg k+1):=by
 simp only [fW];rw [vK ⟨Z,Z⟩]
theorem rZ (a:Nat):∀ d,fW a<=fW (a+d)
 | 0=>Int.le_refl _
 | d+1=>by
  have b:=rZ a d
  have c:=vP ((a+d:Nat):Int)
  have e:fW (a+(d+1))=fW (a+d)+rp ((a+d:Nat):Int):=rfl
  omega
theorem Hit.c_le {c' s'} (h:Hit p c s) (d:Hit p c' s'):c<=c':=by
 apply Int.not_lt.1;intro f;obtain⟨a,rfl⟩:=AP h.c0;obtain⟨b,rfl⟩:=AP d.c0;have g:rs (a:Int)=fW a:=by rw [lu ⟨h.c0,h.c1⟩];rfl
 have i:rs (b:Int)=fW b:=by rw [lu ⟨d.c0,d.c1⟩];rfl
 have j:=rZ (b+1) (a-(b+1));have k:b+1+(a-(b+1))=a:=Z;rw [k,rL b (by have:=d.c1;omega)] at j;have l:=h.lo;have m:=d.hi;rw [g] at l;rw [i] at m;have q:=gz (c:=(b:Int)) ⟨d.c0,d.c1⟩;have n:=gz (c:=(a:Int)) ⟨h.c0,h.c1⟩;have o:=d.s1;have e:=h.s0;generalize pg (b:Int)=x at *;generalize pg (a:Int)=y at *;have r:0<=s*(y+1):=Int.mul_nonneg e Z;have t:s'*(x+1)<=5*(x+1):=Int.mul_le_mul_of_nonneg_right Z Z;omega
theorem Hit.one {c' s'} (h:Hit p c s) (a:Hit p c' s'):c=c'/\s=s':=by
 have e:c=c':=Int.le_antisymm (h.c_le a) (a.c_le h);subst e;refine⟨rfl,?_⟩;have i:=gz (c:=c) ⟨h.c0,h.c1⟩;have b:=h.lo;have d:=h.hi;have f:=a.lo;have g:=a.hi;have:pg c=1\/pg c=2\/pg c=3\/pg c=4:=Z;rcases this with e|e|e|e <;> rw [e] at b d f g <;> omega
inductive Dec:Int->Value->Prop
 | out (a:Int) (h:289792<=a):Dec a (pl 0 0 0 0 0 0)
 | large (a:Int) (h0:191488<=a) (h1:a<289792):Dec a (pl 4 0 0 0 (a/1024-187) (a%1024))
 | zero (a:Int) (h0:0<=a) (h1:a<1024):Dec a (pl 1 0 0 0 0 0)
 | slab (a c s:Int) (h0:1024<=a) (h1:a<191488) (h:Hit (a/1024) c s):Dec a (AD c s (a-(rs c+s*(pg c+1))*1024))
theorem Dec.one {a:Int} {v b:Value} (h:Dec a v) (d:Dec a b):v=b:=by
 cases h <;> cases d <;> first|rfl|omega|skip
 rename_i c s g i e j k l m f;obtain⟨rfl,rfl⟩:=e.one f;rfl
theorem vH {v:World} {g:Nat} {a:Array Value} {t:TypeId} (h:v.heap[g]?=some (.cells a t)) (b:Array Value):(v.setRow g b).heap[g]?=some (.cells b t):=by
 simp [World.setRow,Jw,h]
theorem BZ (c s o):∃ a:Array Value,AD c s o=.agg a/\a.size=6/\a.all (·.oneCell')=true:=by
 unfold AD;split;·exact⟨_,rfl,rfl,nm⟩
 split;·exact⟨_,rfl,rfl,nm⟩
 exact⟨_,rfl,rfl,nm⟩
theorem oX (a:Int) (x:0<=a) (T:a<=18446744073709551615) (w) (b:Tb w) :
  Calls prog 173 #[U a] w λe V=>(∃ v,Dec a v/\e=.returned v)/\D w V:=by
 have d:=hidR (Rt.first w);have f:=hidR (b.below d.bel);have M:=hidR eZ;have N:=hidR fC;have O:=hidR kT;clear b;unfold z6 at *;go_enter func173,ntmps173;go_wp2_with fail;generalize w.alloc (Obj.cells #[Value.int IntKind.i64 0,Value.int IntKind.i64 0,Value.int IntKind.i64 0,Value.int IntKind.i64 0,Value.int IntKind.i64 0,Value.int IntKind.i64 0] 243)=v at d f ⊢;generalize w.heap.size=g at d ⊢;refine (M _ f).mono ?_;rintro e w2 ⟨rfl,i⟩;have b:=hidR (d.below i);have j:=hidR (f.below i);clear i d f;by_cases W:289792<=a;·have y:=hidR b.done;have z:=hidR b.row;have B:=hidR b.blk;clear b;go_wp2_with (refine JX rfl 243 _ _ rfl g _ rfl rfl 243 z6 B E rfl nm ?_);refine gH (z _) underlying243 ?_;exact⟨⟨_,.out a W,rfl⟩,y _⟩
 by_cases X:a<1024
 ·have y:=hidR b.done;have z:=hidR b.row;have B:=hidR b.blk;clear b;have Y:a/1024<1:=Z;go_wp2_with (refine JX rfl 243 _ _ rfl g _ rfl rfl 243 z6 B E rfl nm ?_);refine gH (z _) underlying243 ?_;exact⟨⟨_,.zero a x X,rfl⟩,y _⟩
 have Y:1<=a/1024:=Z;go_wp2_with fail;refine (N _ j).mono ?_;rintro e m ⟨rfl,d⟩;have n:=hidR (b.below d);have o:=hidR (j.below d);clear d b j;have j:D m ((m.alloc (.cells pi 228)).setRow m.heap.size (stA 12)):=Below.setRow ((Jn _ _).alloc (Jo _) _) (Jo _) _;have d:=hidR (n.below j);have p:=hidR (o.below j);have l:=hidR (iO m (.cells pi 228));have f:Hid (∀ k:Nat,k<13->((m.alloc (.cells pi 228)).setRow m.heap.size (stA 12)).cell? ⟨m.heap.size,k,none⟩=some (I (fW k))):=hidR (λk F=>by
  have h:=me 12 k F;rw [tm Z] at h;have e:=vH l (stA 12);simp only [World.cell?,e];exact h)
 have b:=hidR (show (stA 12).all (·.oneCell')=true by kernel_rfl);have i:=hidR (show pi.size=(stA 12).size by rw [rF];rfl);clear j n o;generalize stA 12=A at f d p b i ⊢;unfold pi at *;by_cases h3:191488<=a
 ·have t3:187<=a/1024:=Z;go_wp2_with (first|(refine JX rfl 228 _ _ rfl _ _ rfl rfl 228 _ l E i b ?_;generalize World.setRow _ _ _=P at f d p ⊢;have j:=f.out 12 Z;rw [qP] at j)|(refine JX rfl 243 _ _ rfl g _ rfl rfl 243 z6 d.blk E rfl nm ?_));refine gH (d.row _) underlying243 ?_;exact⟨⟨_,.large a h3 Z,rfl⟩,d.done _⟩
 have t3:a/1024<187:=Z;go_wp2_with (first|(refine JX rfl 228 _ _ rfl _ _ rfl rfl 228 _ l E i b ?_;generalize World.setRow _ _ _=P at f d p ⊢;have j:=f.out 12 Z;rw [qP] at j)|(refine JX rfl 243 _ _ rfl g _ rfl rfl 243 z6 d.blk E rfl nm ?_));have n:decide (289792<=a)=false:=t5 Z;have o:decide (a/1024<1)=false:=t5 Z;have q:decide (187<=a/1024)=false:=t5 Z;simp only [n,o,q];clear n o q b i l;go_loop [6] (λc=>∃ k:Nat,k<12/\c=I k/\fW k<=a/1024) (λc=>12-(intOf c).toNat);case atStart=>exact ⟨0,Z,rfl,by simp only [fW];omega⟩
 case round =>
  obtain⟨k,F,rfl,a0⟩:=hrel;have t:=f.out (k+1) Z;have q:=f.out k Z;have a1:=jx k;have b:=rL k F;have a2:=gz (c:=(k:Int)) ⟨Z,Z⟩;by_cases i:fW (k+1)<=a/1024
  ·have l:k+1<12:=by
    apply Nat.lt_of_le_of_ne Z;intro e;rw [e,qP] at i;omega
   have n:=hidR i;generalize fW (k+1)=Q at t i b;clear b;go_wp2
   go_round
   (case rel=>exact ⟨k+1,l,aR,n⟩);case measure=>simp [intOf];omega
  have G:0<=(a/1024-fW k)*1024+a%1024:=Z;have r:(a/1024-fW k)*1024+a%1024<6*((pg (k:Int)+1)*1024):=Z;have n:=hidR (O (k:Int) _ P p ⟨Z,Z⟩ G r);have R:Hid (Dec a (AD (k:Int) (((a/1024-fW k)*1024+a%1024)/((pg (k:Int)+1)*1024)) (((a/1024-fW k)*1024+a%1024)%((pg (k:Int)+1)*1024)))):=hidR (by
   have l:rs (k:Int)=fW k:=(by rw [lu ⟨Z,Z⟩];rfl);have o:Hit (a/1024) (k:Int) (((a/1024-fW k)*1024+a%1024)/((pg (k:Int)+1)*1024))/\((a/1024-fW k)*1024+a%1024)%((pg (k:Int)+1)*1024)=a-(rs (k:Int)+(((a/1024-fW k)*1024+a%1024)/((pg (k:Int)+1)*1024))*(pg (k:Int)+1))*1024:=by
    rw [l];have:pg (k:Int)=1\/pg (k:Int)=2\/pg (k:Int)=3\/pg (k:Int)=4:=Z;generalize fW (k+1)=Q at *;clear n O M N f d p t q;rcases this with e|e|e|e <;> rw [e] at b r ⊢<;> refine ⟨⟨Z,Z,Z,Z,by rw [l,e];omega,by rw [l,e];omega⟩,Z⟩
   rw [o.2];exact .slab a _ _ Z Z o.1)
  obtain⟨u,K,o,l⟩:=BZ (k:Int) (((a/1024-fW k)*1024+a%1024)/((pg (k:Int)+1)*1024)) (((a/1024-fW k)*1024+a%1024)%((pg (k:Int)+1)*1024));rw [K] at n R;have s:a/1024<fW (k+1):=Z;generalize fW (k+1)=Q at t s b;generalize fW k=r0 at *;clear b i;go_wp2_with fail;refine (n).mono ?_;rintro e w5 ⟨rfl,S⟩;have i:=hidR (d.below S);have L:=hidR (show z6.size=u.size by rw [o];rfl);have b:=hidR (show (prog.info? 243).map (·.size)=some u.size by rw [o];kernel_rfl);have HO:=hidR l;clear S d p f t q j o l;go_wp2_with (refine JX rfl 243 _ _ rfl g u rfl rfl 243 z6 i.blk b L HO ?_);refine wA (p7 dC _ _ g 243 u (0,0) _ dC (i.row _) underlying243 rfl b) dC ?_;exact⟨⟨_,R,rfl⟩,i.done _⟩
structure Slot (c s t:Int):Prop where
 c0:0<=c
 c1:c<12
 s0:0<=s
 s1:s<6
 t0:0<=t
 t1:t<sl c
theorem Hit.off {a:Int} (h:Hit (a/1024) c s):0<=a-(rs c+s*(pg c+1))*1024/\a-(rs c+s*(pg c+1))*1024<(pg c+1)*1024:=by
 have b:=h.lo;have d:=h.hi;generalize s*(pg c+1)=m at *;omega
theorem Dec.slot {a o:Int} (h:Dec a (pl 3 c s t p o)):Slot c s t/\p=0/\0<=o/\o<sz c/\a=(rs c+s*(pg c+1))*1024+t*sz c+o:=by
 generalize b:pl 3 c s t p o=v at h;cases h with
 | out h=>simp [pl] at b
 | large k l=>simp [pl] at b
 | zero k l=>simp [pl] at b
 | slab r x k l h =>
  have d:=h.off;have y:=fE (c:=r) ⟨h.c0,h.c1⟩;unfold AD at b;split at b;·simp [pl] at b
  split at b;·simp [pl] at b
  rename_i z u;simp only [pl,Value.agg.injEq,Array.mk.injEq,List.cons.injEq,I5,true_and,and_true] at b;obtain⟨rfl,rfl,g,w,m⟩:=b;have n:=Int.emod_add_mul_ediv (a-(rs c+s*(pg c+1))*1024) (sz c);have e:=Lw (a-(rs c+s*(pg c+1))*1024) (show sz c≠0 by omega);have f:=Lg (a-(rs c+s*(pg c+1))*1024) (show 0<sz c by omega);rw [<-g,<-m] at n;rw [<-m] at e f;have i:0<=t:=by rw [g];exact Int.ediv_nonneg d.1 Z
  have j:t<sl c:=by
   apply Int.not_le.1;intro q;rw [g] at q;exact u ((Int.le_ediv_iff_mul_le Z).1 q)
  refine⟨⟨h.c0,h.c1,h.s0,h.s1,i,j⟩,w,e,f,?_⟩;rw [Int.mul_comm] at n;omega
theorem ce (h:0<=c/\c<12) (a:0<=t) (b:t<sl c):0<=t*sz c/\t*sz c+sz c<=sl c*sz c:=by
 have d:=fE h;refine⟨Int.mul_nonneg a Z,?_⟩;have:=Int.mul_le_mul_of_nonneg_right (show t+1<=sl c by omega) (show 0<=sz c by omega);rw [Int.add_mul] at this;omega
theorem Slot.dec (h:Slot c s t) {o:Int} (b:0<=o) (d:o<sz c):Dec ((rs c+s*(pg c+1))*1024+t*sz c+o) (pl 3 c s t 0 o) /\
  1024<=(rs c+s*(pg c+1))*1024+t*sz c/\(rs c+s*(pg c+1))*1024+t*sz c+o<191488:=by
 have f:0<=c/\c<12:=⟨h.c0,h.c1⟩;have p:=fE f;have q:=mo f;have r:=gz f;have u:=ce f h.t0 h.t1;have k:=h.s0;have l:=h.s1;have v:1<=rs c/\rs c+6*(pg c+1)<=187:=by
  rcases fN f with rfl|rfl|rfl|rfl|rfl|rfl|rfl|rfl|rfl|rfl|rfl|rfl <;> decide
 have w:0<=s*(pg c+1)/\s*(pg c+1)+(pg c+1)<=6*(pg c+1):=by
  have:pg c=1\/pg c=2\/pg c=3\/pg c=4:=Z;rcases this with e|e|e|e <;> rw [e] <;> omega
 have j:1024<=(rs c+s*(pg c+1))*1024+t*sz c:=Z;have g:(rs c+s*(pg c+1))*1024+t*sz c+o<191488:=Z;refine⟨?_,j,g⟩;have i:Hit (((rs c+s*(pg c+1))*1024+t*sz c+o)/1024) c s:=⟨h.c0,h.c1,h.s0,h.s1,Z,Z⟩;have a:=Dec.slab _ c s Z g i;have e:(rs c+s*(pg c+1))*1024+t*sz c+o-(rs c+s*(pg c+1))*1024=t*sz c+o:=Z;rw [e] at a;unfold AD at a;rw [tg Z,tg Z] at a;have m:(t*sz c+o)/sz c=t:=by
  rw [Int.add_comm,Int.add_mul_ediv_right _ _ Z,Int.ediv_eq_zero_of_lt b d];omega
 have n:(t*sz c+o)%sz c=o:=by
  rw [Int.add_comm,Int.add_mul_emod_self_right,Int.emod_eq_of_lt b d]
 rw [m,n] at a;exact a
theorem wrap64_in {x:Int} (a : -9223372036854775808<=x) (b:x<=9223372036854775807):wrap64 x=x:=by
 simp only [wrap64];omega
theorem lG (c s t) (h:Slot c s t) (w) (d:Tb w) :
  Calls prog 171 #[I c,I s,I t] w λe q=>e=.returned (.tuple #[U ((rs c+s*(pg c+1))*1024+t*sz c),.bool true])/\D w q:=by
 have a:0<=c/\c<12:=⟨h.c0,h.c1⟩;have j:=hidR (nu c);have IX:=hidR (gL c);have k:=hidR (dW c);have F:=fE a;have G:=gz a;have f:=h.dec (o:=0) Z Z;have u:=h.s0;have x:=h.s1;have K:1<=rs c/\rs c<=361:=by have:=za c;rw [lu a] at this ⊢;have:=jx c.toNat;omega
 have L:0<=s*(pg c+1)/\s*(pg c+1)<=25:=by
  have:pg c=1\/pg c=2\/pg c=3\/pg c=4:=Z;rcases this with e|e|e|e <;> rw [e] <;> omega
 have l:=ce a h.t0 h.t1;have b:t*sz c<=4096:=by have:=(mo a).2.2.2;omega
 have g:=hidR f.1;have i:=f.2;have m:=hidR (λW a=>oX ((rs c+s*(pg c+1))*1024+t*sz c) Z Z W a);rw [Int.add_zero] at g i;have y:0<=t*sz c/\t*sz c<=4096:=⟨l.1,b⟩;clear l b f h;generalize rs c=r at *;generalize pg c=p at *;generalize sz c=z at *;go_enter func171,ntmps171;go_wp2_with fail;refine (j _ d).mono ?_;rintro e M ⟨rfl,f⟩;have b:=hidR (d.below f);go_wp2_with fail;refine (IX _ b).mono ?_;rintro e N ⟨rfl,rfl⟩;go_wp2_with fail;refine (k _ b).mono ?_;rintro e O ⟨rfl,rfl⟩;go_wp2_with fail;refine (m _ b).mono ?_;rintro e P ⟨⟨v,l,rfl⟩,n⟩;have A:=g.one l;subst A;have B:=hidR (cI f n);clear l f n b j IX k m d g;unfold pl;go_wp2
 go_ret2
 exact⟨rfl,B⟩
theorem jc (g l a b:Nat) (d:l<=a) (f:a<=b):∃ c,(∀ w:World,(Instr.slice 23 (Vl g a b) (some (I l)) none none).run prog w=.ok (.slice c (a-l) (b-l)) w)/\(l<a->c=some ⟨g,l,none⟩):=by
 have h:=λw=>run_slice_l (P:=prog) w 23 (some ⟨g,0,none⟩) a b underlying23 .i64 (l:Int) Z Z
 have c:∀ w:World,(sizeOf (prog.elem 23)).run prog w=.ok 1 w:=λw=>E
 refine⟨if b=l then some ⟨g,0,none⟩ else some ⟨g,l,none⟩,λw=>?_,λh=>?_⟩
 ·rw [h w,c];have e:(⟨g,0,none⟩:Addr).add l=⟨g,l,none⟩:=by cases l <;> simp [Addr.add]
  simp [sliced,Result.andThen,e]
 rw [tg Z]
theorem nI {w r} {ps:List Int} (c:RowV w r 3 (Ns .i64 ps)) (o k:Nat) (d:o+k<=ps.length):∀ j v,(Ns .i64 ((ps.drop o).take k))[j]?=some v->w.cell? ((⟨r,o,none⟩:Addr).add j)=some v:=by
 intro j v a;have b:j<k:=by
  by_cases b:j<k;·exact b
  rw [JB (by simp [Ns];omega)] at a;cases a
 have e:(⟨r,o,none⟩:Addr).add j=⟨r,o+j,none⟩:=by cases j <;> simp [Addr.add]
 rw [e,c.cell _ (by rw [aX];omega)];rw [<-a];simp [Ns,b]
theorem AS {α:Type} (a A B:List α) (m:Nat) (b:A.length=m) (d:a.length=m+B.length):splice (splice a 0 A) m B=A++B:=by
 subst b;have c:splice a 0 A=A++a.drop A.length:=by simp [splice]
 rw [c];unfold splice;rw [Le (Jo _),zM,List.drop_of_length_le cd];simp
theorem yH (ps:List Int) (n o h m:Nat) (f:ps.length=n) (g:o<=n) (i:h<=n) (d:m<=n-o/\m<=h/\(m=n-o\/m=h)):(ps.drop o).take m++(ps.drop 0).take (h-m)=(ps.drop o++ps.take o).take h:=by
 rw [List.take_append,Lk];have e:(ps.drop o).length=n-o:=cd;rw [e];rcases d with ⟨a,b,c|c⟩;·subst c;rw [JN Z,JN (l:=ps.drop o) Z,List.take_take,I7 Z]
 subst c;rw [Nat.sub_self,show m-(n-o)=0 by omega];simp
theorem row_in (G r n o h m g:Nat) (ps:List Int) (w:World) (f:g=w.heap.size) (y:m=Nat.min (n-o) h) (z:w.cell? ⟨G,0,none⟩=some (Vl r n n)) (A:w.cell? ⟨G,1,none⟩=some (I o)) (c2:w.cell? ⟨G,2,none⟩=some (I h))
  (j:RowV w r 3 (Ns .i64 ps)) (T:ps.length=n) (N:o<=n) (V:h<=n) (X:n<=1024) :
  Calls prog 124 #[J G 0] w λe O=>e=.returned (Vl g h h)/\RowV O g 3 (Ns .i64 ((ps.drop o++ps.take o).take h))/\D w O:=by
 have k:m<=n-o/\m<=h/\(m=n-o\/m=h):=by
  rw [y];refine⟨Nat.min_le_left _ _,Nat.min_le_right _ _,?_⟩;show min (n-o) h=_\/min (n-o) h=_;omega
 obtain⟨Y,a0,B⟩:=jc r o n n N (Jo _);obtain⟨dq,a1,F⟩:=jc g m h h k.2.1 (Jo _);have a2:=λW=>Fi h Z W
 have l:D w (w.alloc (.cells (madeCells #[I 0] h) 3)).drew:=((Jn _ w).alloc (Jo _) _).drew;have P:(w.alloc (.cells (madeCells #[I 0] h) 3)).drew.heap[g]?=some (.cells (Ns .i64 (List.replicate h 0)).toArray 3):=by
  rw [<-tI,f];exact dI _ _
 have K:(w.alloc (.cells (madeCells #[I 0] h) 3)).drew.cell? ⟨G,0,none⟩=some (Vl r n n)/\(w.alloc (.cells (madeCells #[I 0] h) 3)).drew.cell? ⟨G,1,none⟩=some (I o):=⟨ol l z,ol l A⟩;have p:=j.below l j.lt;have rl:=j.lt;obtain⟨q,L,s,t⟩:=iz (w.alloc (.cells (madeCells #[I 0] h) 3)).drew (some ⟨g,0,none⟩) Y h h (n-o) (n-o) g 0 (Ns .i64 (List.replicate h 0)) P (Ns .i64 ((ps.drop o).take m)) (by rw [aX];simp;rw [<-y];omega) (λu=>⟨rfl,_,B (by rw [aX] at u;simp at u;omega),nI p o m Z⟩) (by rw [aX,aX];simp;omega) (kB _ _);rw [show (Ns .i64 ((ps.drop o).take m)).length=m by rw [aX];simp;omega] at L;have a:=below_grown l t Z;have v:q.drew.cell? ⟨G,0,none⟩=some (Vl r n n)/\q.drew.cell? ⟨G,1,none⟩=some (I o):=⟨ol a.drew z,ol a.drew A⟩;have c:q.cell? ⟨G,0,none⟩=some (Vl r n n)/\q.cell? ⟨G,1,none⟩=some (I o):=v;have x:=j.below a.drew j.lt;obtain⟨Q,a3,i,d⟩:=iz q.drew dq (some ⟨r,0,none⟩) (h-m) (h-m) n n g m _ s (Ns .i64 ((ps.drop 0).take (h-m))) (by rw [aX];simp;show min _ _=min _ _;omega) (λu=>⟨F (by rw [aX] at u;simp at u;omega),_,rfl,nI x 0 (h-m) Z⟩) (by rw [length_splice _ _ _ (by rw [aX,aX];simp;omega),aX,aX];simp;omega) (kB _ _);have b:=below_grown a.drew d Z;have M:Q.cell? ⟨G,0,none⟩=some (Vl r n n)/\Q.cell? ⟨G,1,none⟩=some (I o):=⟨ol b z,ol b A⟩;have R:splice (splice (Ns .i64 (List.replicate h 0)) 0 (Ns .i64 ((ps.drop o).take m))) m (Ns .i64 ((ps.drop 0).take (h-m)))=Ns .i64 ((ps.drop o++ps.take o).take h):=by
  rw [AS _ _ _ m (by rw [aX];simp;omega) (by rw [aX,aX];simp;omega),<-yH ps n o h m T N V k];simp [Ns]
 rw [R] at i;have HR:=H (rowOf i);have HB:=H b;have HW:=H f;clear f y;clear p x s i t d l a b P R j;go_enter func124,ntmps124;go_wp2;rw [<-HW.out];generalize w.alloc (.cells (madeCells #[I 0] h) 3)=W0 at *;refine rh (S:=λW=>W.cell? ⟨G,0,none⟩=some (Vl r n n)/\W.cell? ⟨G,1,none⟩=some (I o)) ?_;have a:=K;iterate 10 (refine py a ?_;simp only [f0,f1,Nat.reduceAdd,lz,l0,ls])
 refine cE (r:=10) E ?_;refine dS rfl E (λK' b=>?_);go_simp;refine b _ _ ⟨c,?_⟩;clear a;have a:=c;clear b K';refine pk 11 (I m) a ?_;refine bY ?_;go_wp2;refine rh (S:=λW=>W.cell? ⟨G,0,none⟩=some (Vl r n n)/\W.cell? ⟨G,1,none⟩=some (I o)) ?_;have a:=v;iterate 7 (refine py a ?_;simp only [f0,f1,Nat.reduceAdd,lz,l0,ls])
 refine cE (r:=7) E ?_;refine dS rfl E (λK' b=>?_);go_simp;refine b _ _ ⟨M,?_⟩;clear b K';refine bY ?_;go_wp2;go_ret;exact⟨rfl,HR,HB⟩
theorem vj (x y:Nat) (j:x<18446744073709551616) (k:y<18446744073709551616) (w:World) :
  Calls prog 168 #[U x,U y] w λe m=>e=.returned (.tuple #[U ((x*y/18446744073709551616:Nat):Int),U ((x*y%18446744073709551616:Nat):Int)])/\m=w:=by
 obtain⟨n,l,o,c⟩:=Lib.mul64_hi x y j k;have q:=Lv (a:=x/4294967296) (b:=y/4294967296) Z Z;have r:=Lv (a:=x/4294967296) (b:=y%4294967296) Z Z;have s:=Lv (a:=x%4294967296) (b:=y/4294967296) Z Z;have d:x/4294967296*(y/4294967296)<18446744073709551616:=Z;have f:x/4294967296*(y%4294967296)<18446744073709551616:=Z;have g:x%4294967296*(y/4294967296)<18446744073709551616:=Z;have i:x/4294967296*(y/4294967296)+(x/4294967296*(y%4294967296)+x%4294967296*(y%4294967296)/4294967296)/4294967296<18446744073709551616:=Z;have p:x/4294967296*(y/4294967296)+(x/4294967296*(y%4294967296)+x%4294967296*(y%4294967296)/4294967296)/4294967296+((x/4294967296*(y%4294967296)+x%4294967296*(y%4294967296)/4294967296)%4294967296+x%4294967296*(y/4294967296))/4294967296<18446744073709551616:=Z;go_enter func168,ntmps168;go_wp2;simp only [Mul64.maskN x j,Mul64.maskN y k,Mul64.divN,Mul64.mulN,Mul64.addN,IP _ n,IP _ f,IP _ l,Mul64.maskN _ l,IP _ g,IP _ o,IP _ d,IP _ i,IP _ p,Mul64.wrapM (x*y)];rw [c]
 go_ret2
 exact⟨rfl,rfl⟩
theorem FC (m:Nat) (c:m<=16) (w:World) :
  Calls prog 151 #[U 1,U m] w λe b=>e=.returned (.tuple #[U 0,U m])/\b=w:=by
 have a:=H (vj 1 m Z Z w);rw [Ki,Nat.div_eq_of_lt Z,Jx Z] at a;go_enter func151,ntmps151;go_wp2_with fail;refine (a).mono ?_;rintro e b ⟨rfl,rfl⟩;go_wp2
 go_ret2
 exact⟨rfl,rfl⟩
theorem xU (g l b a:Nat) (d:l<=a):∀ w:World,(Instr.slice 23 (Vl g b a) none (some (I l)) none).run prog w=.ok (Vl g l a) w:=by
 intro w;have h:=run_slice_h (P:=prog) w 23 (some ⟨g,0,none⟩) b a underlying23 .i64 (l:Int) Z Z;have c:∀ w:World,(sizeOf (prog.elem 23)).run prog w=.ok 1 w:=λw=>E
 rw [h,c];simp [sliced,Result.andThen,Addr.add]
theorem mT (m k a:Nat) (b:List Int) (c:b.length=m) (e:k+a<=m) (d:b.take k=List.replicate k (-1)):∃ c:List Int,splice (Ns .i64 b) k (Ns .i64 (List.replicate a (-1)))=Ns .i64 c/\c.length=m/\c.take (k+a)=List.replicate (k+a) (-1):=by
 refine⟨b.take k++(List.replicate a (-1)++b.drop (k+a)),?_,?_,?_⟩;·simp [splice,Ns]
 ·simp;omega
 rw [d,<-Kr,List.replicate_append_replicate,Le bh,JN bh]
theorem xO (q) (m:Nat) (w) (T:m<=16) (n:RowV w q 3 (Ns .i64 [-1])) :
  Calls prog 101 #[Vl q 1 1,I m] w λe y=>∃ g,e=.returned (Vl g m m)/\RowV y g 3 (Ns .i64 (List.replicate m (-1)))/\w.heap.size<=g/\D w y:=by
 have V:=H (FC m T w);have X:=λW=>Fi m Z W
 obtain⟨g,k⟩:∃ g,g=w.heap.size:=⟨_,rfl⟩;have p:D w (w.alloc (.cells (madeCells #[I 0] m) 3)):=(Jn _ w).alloc (Jo _) _;have t:(w.alloc (.cells (madeCells #[I 0] m) 3)).heap[g]?=some (.cells (Ns .i64 (List.replicate m 0)).toArray 3):=by rw [<-tI,k];exact dI _ _
 obtain⟨c,s⟩:∃ c,c=Nat.min 1 m:=⟨_,rfl⟩;have b:c=min 1 m:=s;obtain⟨O,o,a,i⟩:=iz (w.alloc (.cells (madeCells #[I 0] m) 3)) (some ⟨g,0,none⟩) (some ⟨q,0,none⟩) m m 1 1 g 0 (Ns .i64 (List.replicate m 0)) t (Ns .i64 (List.replicate c (-1))) (by rw [aX,JS];exact s) (λP=>⟨rfl,_,rfl,λj v B=>by
  have d:c=1:=by rw [aX,JS] at P;omega
  rw [d] at B;have:=nI (n.below p n.lt) 0 1 bh j v (by simpa using B);exact this⟩) (by rw [aX,aX];simp;omega) (kB _ _)
 rw [show (Ns .i64 (List.replicate c (-1))).length=c by rw [aX,JS]] at o;obtain⟨F,f,l,d⟩:=mT m 0 c (List.replicate m 0) bh Z bh;rw [f] at a;rw [JQ] at d;have G:=H (show D w O/\O.heap[g]?=some (.cells (Ns .i64 F).toArray 3)/\F.length=m/\F.take c=List.replicate c (-1) from ⟨below_grown p i Z,a,l,d⟩);have K:=H k;have t1:¬((m:Int)<0):=Z;have t2:¬((9223372036854775807:Int)<(m:Int)):=Z;have Q:=H b;clear p t i a f l d n s b;go_enter func101,ntmps101;go_wp2_with fail;refine (V).mono ?_;rintro e y ⟨rfl,rfl⟩;rw [k] at o;clear k;go_wp2;rw [<-K.out];go_loopw [8] (λi wr=>∃ (k:Nat) (s:List Int),k<=m/\(0<m->0<k)/\i=I k/\Hid (D y wr/\wr.heap[g]?=some (.cells (Ns .i64 s).toArray 3)/\s.length=m/\s.take k=List.replicate k (-1))) (λi _=>m-(intOf i).toNat);case atStart=>exact ⟨c,F,by have:=Q.out;omega,by have:=Q.out;omega,rfl,G⟩
 case round =>
  obtain⟨k,s,hk,Y,rfl,b⟩:=hrel;by_cases L:k<m
  ·obtain⟨a,n⟩:∃ a,a=Nat.min k (m-k):=⟨_,rfl⟩;have u:a=min k (m-k):=n;obtain⟨dp,a0,z⟩:=jc g k m m Z (Jo _);have A:=z L;subst A;have a1:=xU g k m m Z;obtain⟨R,M,x,t⟩:=iz wr.drew (some ⟨g,k,none⟩) (some ⟨g,0,none⟩) (m-k) (m-k) k m g k (Ns .i64 s) b.2.1 (Ns .i64 (List.replicate a (-1))) (by rw [aX,JS];exact n) (λP=>⟨rfl,_,rfl,λj v B=>by
    have p:RowV wr.drew g 3 (Ns .i64 s):=rowOf b.2.1;refine nI p 0 a (by rw [b.2.2.1];omega) j v ?_;rw [Lk];have:s.take a=List.replicate a (-1):=by
     have e:=congrArg (List.take a) b.2.2.2;rw [List.take_take,List.take_replicate,I7 Z] at e;exact e
    rw [this];exact B⟩) (by rw [aX,aX,JS,b.2.2.1];omega) (kB _ _)
   rw [show (Ns .i64 (List.replicate a (-1))).length=a by rw [aX,JS]] at M;obtain⟨p,f,l,d⟩:=mT m k a s b.2.2.1 Z b.2.2.2;rw [f] at x;have HN:=H (show D y R/\R.heap[g]?=some (.cells (Ns .i64 p).toArray 3)/\p.length=m/\p.take (k+a)=List.replicate (k+a) (-1) from ⟨below_grown b.1.drew t (by have:=K.out;omega),x,l,d⟩);have N:0<a/\k+a<=m:=(by have:=Y Z;omega);have hw:IntKind.i64.wrap ((k:Int)+(a:Int))=(k:Int)+(a:Int):=(by rw [C6];omega);clear b t x f l d n u z G o;go_wp2;refine rh (S:=λ_=>True) ?_;have n:=trivial;(iterate 7 (refine py n ?_;simp only [f0,f1,Nat.reduceAdd,lz,l0,ls]));refine cE (r:=7) E ?_;refine dS rfl E (λK' t=>?_);go_simp;refine t _ _ ⟨trivial,?_⟩;clear t K';refine pz 8 (I ((k:Int)+(a:Int))) n ?_;refine pk 9 (I ((k:Int)+(a:Int))) n ?_;refine bY ?_;go_wp2;go_roundw;(case rel=>exact ⟨k+a,p,N.2,Z,aR,HN⟩);case measure=>simp [intOf];omega
  obtain rfl:m=k:=Z;have a:=H (show RowV wr g 3 (Ns .i64 (List.replicate m (-1))) by
   have:=rowOf b.2.1;rwa [<-b.2.2.2,<-b.2.2.1,zM] )
  have n:=H b.1;clear b G o;go_wp2;go_ret;exact⟨g,rfl,a,by have:=K.out;omega,n⟩
end
end Go.Proofs.YtdfodlhkdmkfdaaGreatDoor
