import Derived.Conc.MuLone
import Derived.Deep.AppendLies
import Derived.Deep.OwnRows
import Derived.Laws.CopyOwn
import Derived.LoopIn
import Derived.LoopNIn
import Derived.OrdersHeld
import Derived.OwnWalkIn
import Derived.RangeFuncBound
import Derived.RangeFuncNested
import Derived.Shelf.RegionOpen
import Derived.Test.YtdfodlhkdmkfdaaGreatDoorN00
set_option linter.unusedVariables false
set_option linter.unusedSimpArgs false
set_option maxRecDepth 20000
set_option maxHeartbeats 8000000
namespace Go.Proofs.YtdfodlhkdmkfdaaGreatDoor
open Go.Proofs.Tryz
variable {zs:List Int} {c:Int}
section
open Go.ChangeShapes Go.WideShapes Go.ChangeAt Go.RowKit
theorem Tryz.info3In:(prog.info? 3).map (λi=>(i.zero,i.size,i.bytes))=some (some (I 0),1,8):=E
def eo (i len:Nat):List Int:=(List.range len).map λj=>((i+j:Nat):Int)
theorem ey (k0 len):(eo k0 len).length=len:=by simp [eo]
theorem mP (b a j:Nat) (h:j<a):(eo b a)[j]?=some (((b+j:Nat):Int)):=by simp [eo,h]
theorem Ik (a b:Option Addr) (c p cb:Nat) (zs:List Int) (w:World) (l:c<=1048576)
  (ha:∀ i,i<c->∃ g,a=some ⟨g,0,none⟩/\w.cell? ⟨g,i,none⟩=some (I (zs[i]?.getD 0)))
  (m:∀ i,i<c->∃ g,b=some ⟨g,0,none⟩/\w.cell? ⟨g,i,none⟩=some (I (zs[i]?.getD 0))) :
  Calls prog 30 #[.slice a c p,.slice b c cb] w λe q=>e=.returned (.bool true)/\D w q:=by
 go_enter func30,ntmps30;go_wp2;go_loopw [5] (λi wr=>∃ (k:Nat),k<=c/\i=I k/\D w wr) (λi _=>c-(intOf i).toNat);case atStart=>exact ⟨0,Jt _,rfl,Jn _ _⟩
 case round =>
  obtain⟨k,s,rfl,d⟩:=hrel;by_cases f:k<c
  ·obtain⟨t,rfl,g⟩:=ha k f;obtain⟨u,rfl,j⟩:=m k f;have n:=ol d g;have o:=ol d j;have r:=H d;clear ha m g j d;go_wp2;go_region
   all_goals go_wp2
   go_roundw;(case rel=>exact ⟨k+1,Z,aR,r.drew⟩);case measure=>simp [intOf];omega
  go_wp2;go_ret;exact⟨rfl,d⟩
theorem u_ (a:Nat) (w:World) (c:a<=1000000000000) :
  Calls prog 32 #[C,I a] w λe b=>e=.returned (I a)/\b=w:=by
 go_enter func32,ntmps32;go_wp2;refine A9 1 ?_;rw [IA];go_wp2;go_ret;exact⟨rfl,rfl⟩
theorem tK (a:Nat) (w:World) (c:a<=1000000000000) :
  Calls prog 80 #[C,I a] w λe b=>e=.returned (I a)/\b=w:=by
 go_enter func80,ntmps80;go_wp2;refine A9 1 ?_;rw [IA];go_wp2;go_ret;exact⟨rfl,rfl⟩
theorem tN (g) (a:Nat) (cap) (zs:List Int) (c:Nat) (w) (b:zs.length=a) (q:a<=1048576) (x:c<=1000000000000) (d:RowV w g 3 (Ns .i64 zs)) :
  Calls prog 32 #[Vl g a cap,I c] w λe r=>e=.returned (I (c+a:Nat))/\RowV r g 3 (Ns .i64 (eo c a))/\w.grownBy r (some g):=by
 have t:=H d;have u:=H b;clear d b;go_enter func32,ntmps32;go_wp2;go_loopw [1,5] (λv i wr=>∃ (j:Nat) (k:List Int),j<=a/\i=I j/\v=I (c+j:Nat)/\Hid (Agree k (eo c a) j)/\Hid (RowV wr g 3 (Ns .i64 k))/\Hid (w.grownBy wr (some g))) (λ_ i _=>a-(intOf i).toNat);case atStart=>exact ⟨0,zs,Jt _,rfl,rfl,Agree.zero (by rw [u.out,ey]),t,ao w g⟩
 case round =>
  obtain⟨j,k,z,rfl,rfl,d,b,l⟩:=hrel;by_cases m:j<a
  ·have n:k.length=a:=(by rw [d.1,ey]);have o:=dR b j Z;have v:=b.free j;have p:=b.set j (by rw [aX];omega) (I (((c+j:Nat):Int)));rw [iL] at p;have s:=d.succ (by rw [ey];exact m) _ (mP c a j m);have f:=H (LG p (LG s (au l j (I (((c+j:Nat):Int))))));clear n p s;generalize k[j]?.getD 0=y at o;go_wp2;go_roundw;(case rel=>exact ⟨j+1,_,Z,aR,aR,f.2.1,by first|exact f.1|(have:=f.1;simpa using this),by first|exact f.2.2|(have:=f.2.2;simpa using this)⟩);case measure=>simp [intOf];omega
  have n:j=a:=Z;subst n;have f:=H (LG (d.all (by rw [ey];exact Jo _)▸b.out) l);go_wp2;go_ret;exact⟨rfl,f⟩
theorem tY (g) (a:Nat) (cap) (b:Nat) (w) (f:a<=1048576) (m:b<=1000000000000) (c:RowV w g 3 (Ns .i64 (eo b a))) :
  Calls prog 80 #[Vl g a cap,I b] w λe k=>e=.returned (I (b+a:Nat))/\k=w:=by
 have l:=H c;clear c;go_enter func80,ntmps80;go_wp2;go_loop [1,5] (λv i=>∃ (j:Nat),j<=a/\i=I j/\v=I (b+j:Nat)) (λ_ i=>a-(intOf i).toNat);case atStart=>exact ⟨0,Jt _,rfl,rfl⟩
 case round =>
  obtain⟨j,n,rfl,rfl⟩:=hrel;by_cases c:j<a
  ·have d:=dR l j (by rw [ey];exact c);rw [mP b a j c] at d;simp only [H4] at d;go_wp2
   go_round
   (case rel=>exact ⟨j+1,Z,aR,aR⟩);case measure=>simp [intOf];omega
  have d:j=a:=Z;subst d;go_wp2;go_ret;exact⟨rfl,rfl⟩
theorem wK (x:Addr) (a j:Nat) (zs:List Int) (w:World) (F:zs.length=a) (v:a<=1048576)
  (l:∀ i,i<a->w.cell? (x.add i)=some (I (zs[i]?.getD 0))) :
  Calls prog 22 #[.slice (some x) a j] w λe A=>e=.returned (Vl w.heap.size a a)/\RowV A w.heap.size 3 (Ns .i64 zs)/\D w A:=by
 obtain⟨G,K,m,n,o⟩:=zr Tryz.info3In;go_enter func22,ntmps22;go_wp2_with (at_make;refine wpList_make_full _ rfl _ _ 23 rfl w.heap.size 3 G (I 0) 1 underlying23 K m n .i64 .i64 _ _ a rfl rfl rfl rfl ?c1 ?c2 ?c3 ?_);case c1=>rw [o];omega
 case c2=>unfold maxLen;omega
 case c3=>exact Jo _
 intro B c b;have q:RowV B w.heap.size 3 (Ns .i64 (List.replicate a 0)):=by
  have:=RowV.ofOwns c;simpa [Ns,KA,Value.cells] using this
 have r:D w B:=(Jn _ w).grown b (Jo _) bh;clear c b;go_wp2;go_loopw [4] (λi wr=>∃ (k:Nat) (g:List Int),k<=a/\i=I k/\Agree g zs k/\RowV wr w.heap.size 3 (Ns .i64 g)/\D w wr) (λi _=>a-(intOf i).toNat);case atStart=>exact ⟨0,_,Jt _,rfl,Agree.zero (by simp [F]),q,r⟩
 case round =>
  obtain⟨k,g,N,rfl,d,b,c⟩:=hrel;by_cases s:k<a
  ·have L:wr.cell? (x.add k)=some (I (zs[k]?.getD 0)):=ol c (l k s);have t:=dR b k (by rw [d.1];omega);have M:=b.free k;have u:=b.set k (by rw [aX,d.1];omega) (I (zs[k]?.getD 0));rw [iL] at u;have y:=d.succ Z _ (getD_some zs k Z);have z:=c.setCell (p:=⟨w.heap.size,k,none⟩) (Jo _) (I (zs[k]?.getD 0));have f:=H (LG u (LG y z));clear u y z b c d q r l;generalize zs[k]?.getD 0=z at *;generalize g[k]?.getD 0=y at t;go_wp2;go_roundw;(case rel=>exact ⟨k+1,_,Z,aR,f.2.1,f.1,f.2.2⟩);case measure=>simp [intOf];omega
  have f:=H (LG (d.all Z▸b) c);clear b c d q r l;go_wp2;go_ret;exact⟨rfl,f⟩
theorem wV (w:World) :
  Calls prog 22 #[C] w λe f=>e=.returned (Vl w.heap.size 0 0)/\RowV f w.heap.size 3 (Ns .i64 [])/\D w f:=by
 obtain⟨i,j,c,d,k⟩:=zr Tryz.info3In;go_enter func22,ntmps22;go_wp2_with (at_make;refine wpList_make_full _ rfl _ _ 23 rfl w.heap.size 3 i (I 0) 1 underlying23 j c d .i64 .i64 _ _ 0 rfl rfl rfl rfl ?c1 ?c2 ?c3 ?_);case c1=>omega
 case c2=>unfold maxLen;omega
 case c3=>exact Jo _
 intro g b a;have l:RowV g w.heap.size 3 (Ns .i64 []):=by
  have:=RowV.ofOwns b;simpa [Ns,KA,Value.cells] using this
 have m:D w g:=(Jn _ w).grown a (Jo _) bh;clear b a;go_wp2;refine A9 1 ?_;rw [IA];go_wp2;go_ret;exact⟨rfl,l,m⟩
theorem Tryz.info5By:(prog.info? 5).map (λi=>(i.zero,i.size,i.bytes))=some (some (.int .u8 0),1,1):=E
def ii (i len:Nat):List Int:=(List.range len).map λj=>((i+j:Nat):Int)%256
theorem eX (k0 len):(ii k0 len).length=len:=by simp [ii]
theorem nN (b a j:Nat) (h:j<a):(ii b a)[j]?=some (((b+j:Nat):Int)%256):=by simp [ii,h]
theorem wX (x:Addr) (a j:Nat) (zs:List Int) (w:World) (F:zs.length=a) (v:a<=1048576)
  (l:∀ i,i<a->w.cell? (x.add i)=some (.int .u8 (zs[i]?.getD 0))) :
  Calls prog 45 #[.slice (some x) a j] w λe A=>e=.returned (Vl w.heap.size a a)/\RowV A w.heap.size 5 (Ns .u8 zs)/\D w A:=by
 obtain⟨G,K,m,n,o⟩:=zr Tryz.info5By;go_enter func45,ntmps45;go_wp2_with (at_make;refine wpList_make_full _ rfl _ _ 52 rfl w.heap.size 5 G (.int .u8 0) 1 underlying52 K m n .i64 .i64 _ _ a rfl rfl rfl rfl ?c1 ?c2 ?c3 ?_);case c1=>rw [o];omega
 case c2=>unfold maxLen;omega
 case c3=>exact Jo _
 intro B c b;have q:RowV B w.heap.size 5 (Ns .u8 (List.replicate a 0)):=by
  have:=RowV.ofOwns c;simpa [Ns,KA,Value.cells] using this
 have r:D w B:=(Jn _ w).grown b (Jo _) bh;clear c b;go_wp2;go_loopw [4] (λi wr=>∃ (k:Nat) (g:List Int),k<=a/\i=I k/\Agree g zs k/\RowV wr w.heap.size 5 (Ns .u8 g)/\D w wr) (λi _=>a-(intOf i).toNat);case atStart=>exact ⟨0,_,Jt _,rfl,Agree.zero (by simp [F]),q,r⟩
 case round =>
  obtain⟨k,g,N,rfl,d,b,c⟩:=hrel;by_cases s:k<a
  ·have L:wr.cell? (x.add k)=some (.int .u8 (zs[k]?.getD 0)):=ol c (l k s);have t:=dR b k (by rw [d.1];omega);have M:=b.free k;have u:=b.set k (by rw [aX,d.1];omega) (.int .u8 (zs[k]?.getD 0));rw [iL] at u;have y:=d.succ Z _ (getD_some zs k Z);have z:=c.setCell (p:=⟨w.heap.size,k,none⟩) (Jo _) (.int .u8 (zs[k]?.getD 0));have f:=H (LG u (LG y z));clear u y z b c d q r l;generalize zs[k]?.getD 0=z at *;generalize g[k]?.getD 0=y at t;go_wp2;go_roundw;(case rel=>exact ⟨k+1,_,Z,aR,f.2.1,f.1,f.2.2⟩);case measure=>simp [intOf];omega
  have f:=H (LG (d.all Z▸b) c);clear b c d q r l;go_wp2;go_ret;exact⟨rfl,f⟩
theorem xF (w:World) :
  Calls prog 45 #[C] w λe f=>e=.returned (Vl w.heap.size 0 0)/\RowV f w.heap.size 5 (Ns .u8 [])/\D w f:=by
 obtain⟨i,j,c,d,k⟩:=zr Tryz.info5By;go_enter func45,ntmps45;go_wp2_with (at_make;refine wpList_make_full _ rfl _ _ 52 rfl w.heap.size 5 i (.int .u8 0) 1 underlying52 j c d .i64 .i64 _ _ 0 rfl rfl rfl rfl ?c1 ?c2 ?c3 ?_);case c1=>omega
 case c2=>unfold maxLen;omega
 case c3=>exact Jo _
 intro g b a;have l:RowV g w.heap.size 5 (Ns .u8 []):=by
  have:=RowV.ofOwns b;simpa [Ns,KA,Value.cells] using this
 have m:D w g:=(Jn _ w).grown a (Jo _) bh;clear b a;go_wp2;refine A9 1 ?_;rw [IA];go_wp2;go_ret;exact⟨rfl,l,m⟩
theorem Is (a:Option Addr) (b c:Nat) (zs:List Int) (w:World) (h:IsRow .u8 w a b c zs) (d:b<=1048576) :
  Calls prog 45 #[.slice a b c] w λe f=>e=.returned (Vl w.heap.size b b)/\RowV f w.heap.size 5 (Ns .u8 (zs.take b))/\D w f:=by
 have g:=h.len;rcases h with ⟨rfl,rfl,rfl,rfl⟩|⟨x,rfl,l,m,n,j,o⟩;·exact xF w
 refine wX x b c (zs.take b) w g d λi k=>?_;rw [j i Z];simp [k,List.getD_eq_getElem?_getD]
theorem Ih (a b:Option Addr) (c p cb:Nat) (zs:List Int) (w:World) (l:c<=1048576)
  (ha:∀ i,i<c->∃ g,a=some ⟨g,0,none⟩/\w.cell? ⟨g,i,none⟩=some (.int .u8 (zs[i]?.getD 0)))
  (m:∀ i,i<c->∃ g,b=some ⟨g,0,none⟩/\w.cell? ⟨g,i,none⟩=some (.int .u8 (zs[i]?.getD 0))) :
  Calls prog 74 #[.slice a c p,.slice b c cb] w λe q=>e=.returned (.bool true)/\D w q:=by
 go_enter func74,ntmps74;go_wp2;go_loopw [5] (λi wr=>∃ (k:Nat),k<=c/\i=I k/\D w wr) (λi _=>c-(intOf i).toNat);case atStart=>exact ⟨0,Jt _,rfl,Jn _ _⟩
 case round =>
  obtain⟨k,s,rfl,d⟩:=hrel;by_cases f:k<c
  ·obtain⟨t,rfl,g⟩:=ha k f;obtain⟨u,rfl,j⟩:=m k f;have n:=ol d g;have o:=ol d j;have r:=H d;clear ha m g j d;go_wp2;go_region
   all_goals go_wp2
   go_roundw;(case rel=>exact ⟨k+1,Z,aR,r.drew⟩);case measure=>simp [intOf];omega
  go_wp2;go_ret;exact⟨rfl,d⟩
theorem tV (a:Nat) (w:World) (c:a<=1000000000000) :
  Calls prog 33 #[C,I a] w λe b=>e=.returned (I a)/\b=w:=by
 go_enter func33,ntmps33;go_wp2;refine A9 1 ?_;rw [IA];go_wp2;go_ret;exact⟨rfl,rfl⟩
theorem uk (a:Nat) (w:World) (c:a<=1000000000000) :
  Calls prog 79 #[C,I a] w λe b=>e=.returned (I a)/\b=w:=by
 go_enter func79,ntmps79;go_wp2;refine A9 1 ?_;rw [IA];go_wp2;go_ret;exact⟨rfl,rfl⟩
theorem Fs (g) (a:Nat) (cap) (zs:List Int) (c:Nat) (w) (b:zs.length=a) (q:a<=1048576) (z:c<=1000000000000) (d:RowV w g 5 (Ns .u8 zs)) :
  Calls prog 33 #[Vl g a cap,I c] w λe r=>e=.returned (I (c+a:Nat))/\RowV r g 5 (Ns .u8 (ii c a))/\w.grownBy r (some g):=by
 have t:=H d;have u:=H b;clear d b;go_enter func33,ntmps33;go_wp2;go_loopw [1,5] (λv i wr=>∃ (j:Nat) (k:List Int),j<=a/\i=I j/\v=I (c+j:Nat)/\Hid (Agree k (ii c a) j)/\Hid (RowV wr g 5 (Ns .u8 k))/\Hid (w.grownBy wr (some g))) (λ_ i _=>a-(intOf i).toNat);case atStart=>exact ⟨0,zs,Jt _,rfl,rfl,Agree.zero (by rw [u.out,eX]),t,ao w g⟩
 case round =>
  obtain⟨j,k,A,rfl,rfl,d,b,l⟩:=hrel;by_cases m:j<a
  ·have n:k.length=a:=(by rw [d.1,eX]);have o:=dR b j Z;have v:=b.free j;have p:=b.set j (by rw [aX];omega) (.int .u8 (((c+j:Nat):Int)%256));rw [iL] at p;have s:=d.succ (by rw [eX];exact m) _ (nN c a j m);have f:=H (LG p (LG s (au l j (.int .u8 (((c+j:Nat):Int)%256)))));have x:IntKind.u8.wrap ((c:Int)+(j:Int))=((c+j:Nat):Int)%256:=(by rw [IntKind.wrap_u8'];simp);clear n p s;generalize k[j]?.getD 0=y at o;go_wp2;go_roundw;(case rel=>exact ⟨j+1,_,Z,aR,aR,f.2.1,by first|exact f.1|(have:=f.1;simpa using this),by first|exact f.2.2|(have:=f.2.2;simpa using this)⟩);case measure=>simp [intOf];omega
  have n:j=a:=Z;subst n;have f:=H (LG (d.all (by rw [eX];exact Jo _)▸b.out) l);go_wp2;go_ret;exact⟨rfl,f⟩
theorem EF (g) (a:Nat) (cap) (b:Nat) (w) (f:a<=1048576) (n:b<=1000000000000) (c:RowV w g 5 (Ns .u8 (ii b a))) :
  Calls prog 79 #[Vl g a cap,I b] w λe k=>e=.returned (I (b+a:Nat))/\k=w:=by
 have l:=H c;clear c;go_enter func79,ntmps79;go_wp2;go_loop [1,5] (λv i=>∃ (j:Nat),j<=a/\i=I j/\v=I (b+j:Nat)) (λ_ i=>a-(intOf i).toNat);case atStart=>exact ⟨0,Jt _,rfl,rfl⟩
 case round =>
  obtain⟨j,o,rfl,rfl⟩:=hrel;by_cases c:j<a
  ·have d:=dR l j (by rw [eX];exact c);rw [nN b a j c] at d;simp only [H4] at d;have m:IntKind.u8.wrap ((b:Int)+(j:Int))=((b+j:Nat):Int)%256:=(by rw [IntKind.wrap_u8'];simp);go_wp2
   go_round
   (case rel=>exact ⟨j+1,Z,aR,aR⟩);case measure=>simp [intOf];omega
  have d:j=a:=Z;subst d;go_wp2;go_ret;exact⟨rfl,rfl⟩
def Sl (w:World) (a:Option Addr) (zs:List Int):Prop:=(a=none/\zs=[])\/∃ g,a=some ⟨g,0,none⟩/\RowV w g 3 (Ns .i64 zs)
theorem Sl.cells {w a} (h:Sl w a zs):∀ i,i<zs.length->∃ g,a=some ⟨g,0,none⟩/\w.cell? ⟨g,i,none⟩=some (I (zs[i]?.getD 0)):=by
 intro i b;rcases h with ⟨_,rfl⟩|⟨g,rfl,c⟩;·simp at b
 exact⟨g,rfl,dR c i b⟩
theorem Sl.below {w w' a zs} (h:Sl w a zs) (c:D w w'):Sl w' a zs:=by
 rcases h with h|⟨g,e,b⟩;·exact .inl h
 exact .inr ⟨g,e,b.below c b.lt⟩
def nb (l:Int) (zs:List Int):Bool:=zs.all λx=>decide (l<=x)
def md (d:Int) (m:Nat):Nat:=(d%(m:Int)).toNat
theorem ru (d) (m:Nat) (h:0<m):md d m<m:=by
 unfold md;have a:=Lw d (b:=(m:Int)) Z;have c:=Lg d (b:=(m:Int)) Z;omega
theorem qp (d) (m:Nat) (h:0<m):(md d m:Int)=if d.tmod m<0 then d.tmod m+m else d.tmod m:=by
 unfold md;have g:=Lw d (b:=(m:Int)) Z;rw [Ls g];have c:=Int.tmod_eq_emod (a:=d) (b:=(m:Int));have i:=Lg d (b:=(m:Int)) Z;have e:((Int.natAbs (m:Int):Nat):Int)=m:=Z;by_cases f:0<=d\/(m:Int)∣d;·rw [tm f] at c;rw [tg Z];omega
 rw [tg f] at c;rw [c,e];rw [tm Z];omega
theorem ly (d:Int) (m:Nat) (h:0<m) : -(m:Int)<=d.tmod m/\d.tmod m<m:=by
 have a:=qp d m h;have b:=ru d m h;split at a <;> rename_i c
 ·omega
 omega
theorem IU (x:Int) (h : -1048576<=x/\x<=2097152):wrap64 x=x:=by
 unfold wrap64;omega
theorem uf (x m:Int) (a:0<=x) (h:x<m):x.tmod m=x:=by
 rw [Ko a,Int.emod_eq_of_lt a h]
theorem w_ (x m:Int) (a:0<=x) (h:x<m):(x+m).tmod m=x:=by
 rw [Ko Z,Int.add_emod_right,Int.emod_eq_of_lt a h]
theorem iW (d) (m:Nat) (w:World) (b:0<m) (l:m<=1048576) :
  Calls prog 193 #[I d,I m] w λe g=>e=.returned (I (md d m:Nat))/\g=w:=by
 have n:((m:Int)==0)=false:=cd;have i:=ly d m b;have j:=IU (d.tmod m+m) Z;have c:=qp d m b;have k:=ru d m b;have a:Hid ((d.tmod m+m).tmod m=(md d m:Nat)):=by
  show (d.tmod m+m).tmod m=(md d m:Nat);by_cases f:d.tmod m<0;·rw [tm f] at c;rw [uf _ _ Z Z];omega
  rw [tg f] at c;rw [w_ _ _ Z Z];omega
 clear c k i;go_enter func193,ntmps193;go_wp2;go_ret;refine⟨ct ?_,rfl⟩
 first|exact a.out|(rw [j];exact a)
theorem oe (d) (m:Nat) (w:World) (c:0<m) (j:m<=1048576) :
  Calls prog 186 #[I d,I m] w λe g=>e=.returned (I (md d m:Nat))/\g=w:=by
 have k:((m:Int)==0)=false:=cd;have b:=qp d m c;have l:=ly d m c;by_cases f:d.tmod m<0
 ·rw [tm f] at b;have a:=H b;have i:=IU (d.tmod m+m) Z;clear b;go_enter func186,ntmps186;go_wp2;go_ret;refine⟨ct ?_,rfl⟩
  first|exact a.symm|(rw [i];exact a.symm)
 rw [tg f] at b;have a:=H b;clear b;go_enter func186,ntmps186;go_wp2;go_ret;exact⟨ct a.symm,rfl⟩
theorem lV (G r n b o i k:Nat) (ps:List Int) (x:Int) (w:World) (g:(o+i)%n=k) (l:ps.length=n) (c:0<n) (m:n<=1048576) (s:o<=1048576) (t:i<=1048576)
  (u:w.cell? ⟨G,0,none⟩=some (Vl r n b)) (v:w.cell? ⟨G,1,none⟩=some (I o)) (a:RowV w r 3 (Ns .i64 ps)) :
  Calls prog 284 #[J G 0,I i,I x] w λe j=>e=.returned (I (ps[k]?.getD 0))/\RowV j r 3 (Ns .i64 (ps.set k x))/\w.grownBy j (some r):=by
 have y:((n:Int)==0)=false:=cd;have d:(o+i)%n<n:=Nat.mod_lt _ c;have f:((o:Int)+(i:Int))%(n:Int)=(((o+i)%n:Nat):Int):=bh;rw [g] at d f;have z:=dR a k Z;have A:=a.free k;have p:=H (a.set k (by rw [aX];omega) (I x)).drew;have q:=H (tQ (au (ao w r) k (I x)));clear a l g;go_enter func284,ntmps284;go_wp2;go_region;rw [f];clear f;go_wp2;go_ret;exact⟨rfl,by rw [<-iL];exact p,q⟩
def cx (a b:Int):Int:=IntKind.u64.wrap (bits BinOp.xor IntKind.u64 a b*11400714819323198485)
theorem pe (a b):0<=cx a b/\cx a b<18446744073709551616:=by
 unfold cx;simp only [IntKind.wrap,IntKind.signed,IntKind.bits];constructor <;> simp <;> omega
def cb (x:Int) (k:Nat):Int:=if x/2 ^ (8*k)%256<1 then 1 else x/2 ^ (8*k)%256
def gO (x:Int):List Int:=(List.range 8).map λj=>if j=0 then 0 else cb x j
theorem dT (x):(gO x).length=8:=by simp [gO]
theorem sB (x) (k:Nat) (a:1<=k) (h:k<8):(gO x)[k]?=some (cb x k):=by
 simp [gO,h,show k≠0 by omega]
theorem xi (x):(gO x)[0]?=some 0:=by simp [gO]
theorem xv (x) (k:Nat) (a:1<=k) (h:k<8):(gO x).take (k+1)=(gO x).take k++[cb x k]:=by
 rw [JK,sB x k a h];rfl
theorem Hl (x k):1<=cb x k/\cb x k<256:=by
 unfold cb;generalize x/2 ^ (8*k)=y;split <;> omega
theorem rQ (a b:Int) (w:World) (O:0<=a) (P:a<18446744073709551616) (Q:0<=b) (R:b<18446744073709551616) :
  Calls prog 112 #[U a,U b] w λe A=>e=.returned (Vl w.heap.size 8 8)/\RowV A w.heap.size 5 (Ns .u8 (gO (cx a b)))/\D w A:=by
 obtain⟨K,L,m,n,o⟩:=zr Tryz.info5By;obtain⟨q,r⟩:=pe a b;unfold cx at q r ⊢;go_enter func112,ntmps112;go_wp2_with (at_make;refine wpList_make_full _ rfl _ _ 52 rfl w.heap.size 5 K (.int .u8 0) 1 underlying52 L m n .i64 .i64 _ _ 8 rfl rfl rfl rfl ?c1 ?c2 ?c3 ?_);case c1=>rw [o];omega
 case c2=>unfold maxLen;omega
 case c3=>exact Jo _
 intro B d c;have s:RowV B w.heap.size 5 (Ns .u8 (List.replicate 8 0)):=by
  have:=RowV.ofOwns d;simpa [Ns,KA,Value.cells] using this
 have t:D w B:=(Jn _ w).grown c (Jo _) bh;clear d c;go_wp2;generalize c:IntKind.u64.wrap (bits BinOp.xor IntKind.u64 a b*11400714819323198485)=x at *;have M:=H c;clear c;go_loopw [7] (λi wr=>∃ (k:Nat) (l:List Int),1<=k/\k<=8/\i=I k/\Agree l (gO x) k/\RowV wr w.heap.size 5 (Ns .u8 l)/\D w wr) (λi _=>8-(intOf i).toNat);case atStart=>exact ⟨1,_,Z,Z,rfl,⟨by simp [dT],λj c=>by rw [show j=0 by omega,xi];rfl⟩,s,t⟩
 case round =>
  obtain⟨k,l,u,S,rfl,f,c,d⟩:=hrel;have g:l.length=8:=by rw [f.1,dT]
  by_cases v:k<8
  ·have z:=dR c k Z;have N:=c.free k;have y:=c.set k (by rw [aX,g];omega) (.int .u8 (cb x k));rw [iL] at y;have F:=f.succ (by rw [dT];omega) _ (sB x k u v);have G:=d.setCell (p:=⟨w.heap.size,k,none⟩) (Jo _) (.int .u8 (cb x k));have j:=H (LG y (LG F G));clear y F G c d f s t g;generalize l[k]?.getD 0=y at z;unfold cb at j;go_wp2;go_roundw;(case rel=>exact ⟨k+1,_,Z,Z,aR,j.2.1,j.1,j.2.2⟩);case measure=>simp [intOf];omega
  have j:=H (LG (f.all (by rw [dT];omega)▸c) d);clear c d f s t g;go_wp2;go_ret;rw [M.out];exact⟨rfl,j⟩
theorem bX (W:World) (x:Value) (t:TypeId) (b:Nat) (a:W.heap.size=b):∀ j u,[x][j]?=some u->(W.alloc (.cells #[x] t)).cell? ((⟨b,0,none⟩:Addr).add j)=some u:=by
 subst a;intro j u h;cases j with
 | zero =>
  simp at h;subst h;rw [show (⟨W.heap.size,0,none⟩:Addr).add 0=⟨W.heap.size,0,none⟩ from rfl,World.cell?_alloc_at _ _ _ _ rfl];rfl
 | succ j=>simp at h
theorem pE {A:World} {a:Nat} {e:TypeId} {v:Value} {n:Nat} {b:List Value} (h:A.ownsRow a e 1 v n b):∀ r,v.ownBlock=some r->a<=r:=by
 intro r e;rcases h.2 with ⟨rfl,_⟩|⟨g,c,d,rfl,f,i,_⟩;·cases e
 cases e;exact f
theorem yF (w:World) (t:TypeId) (x:Value):(w.alloc (.cells #[x] t)).ownsRow w.heap.size t 1 (Vl w.heap.size 1 1) 1 [x]:=by
 refine⟨rfl,.inr ⟨w.heap.size,1,#[x],rfl,Jo _,?_,?_⟩⟩;·show (w.heap.push (.cells #[x] t))[w.heap.size]?=_;simp
 refine⟨Jo _,by unfold maxLen;omega,rfl,rfl⟩
theorem rH (a b:Int) (w:World) (Q:0<=a) (R:a<18446744073709551616) (S:0<=b) (T:b<18446744073709551616) :
  Calls prog 139 #[U a,U b] w λe B=>∃ v,e=.returned v/\B.ownsRow w.heap.size 5 1 v 8 (Ns .u8 (gO (cx a b)))/\D w B:=by
 obtain⟨F,G,n,o,p⟩:=zr Tryz.info5By;obtain⟨t,y⟩:=pe a b;unfold cx at t y ⊢;have q:=H (yF w 5 (.int .u8 0));have K:=H ((Jn w.heap.size w).alloc (Jo _) (.cells #[.int .u8 0] 5));go_enter func139,ntmps139;go_wp2;generalize c:IntKind.u64.wrap (bits BinOp.xor IntKind.u64 a b*11400714819323198485)=x at *;have L:=H c;clear c;go_loopw [6,7,8] (λv i _ wr=>∃ k:Nat,1<=k/\k<=8/\i=I k/\Hid (wr.ownsRow w.heap.size 5 1 v k (Ns .u8 ((gO x).take k)))/\Hid (D w wr)) (λ_ i _ _=>8-(intOf i).toNat);case atStart=>exact ⟨1,Z,Z,rfl,q,K⟩
 case round =>
  obtain⟨k,z,V,rfl,f,c⟩:=hrel;clear q K;by_cases A:k<8
  ·have q:=H (xv x k z A);have m:=H (show cb x k=if x/2 ^ (8*k)%256<1 then 1 else x/2 ^ (8*k)%256 from rfl);by_cases W:x/2 ^ (8*k)%256=0
   ·have m:=H (show cb x k=1 by rw [m.out,tm Z]);have g:=H (f.alloc (.cells #[.int .u8 1] 5));have d:=H (c.alloc c.size (.cells #[.int .u8 1] 5));go_wp2_with (at_builtin;refine Kt _ rfl _ _ 52 rfl w.heap.size 5 F (.int .u8 0) 1 1 underlying52 G n o p rfl Z _ _ _ rfl g _ 1 1 [.int .u8 1] rfl rfl ?hc ?h1c ?b1 ?b2 ?b3 ?_);(case hc=>exact bX _ _ _ _ bh);(case h1c=>intro u r;simp at r;subst r;rfl);(case b1=>unfold maxLen;omega);(case b2=>omega);(case b3=>exact d.size);intro M N j l _;have s:=H (LG j (d.grown l d.size (pE g)));clear j l;go_wp2;go_roundw;(case rel=>exact ⟨k+1,Z,Z,aR,H (by rw [q.out,m.out];simpa [Ns] using s.1),H s.2⟩);case measure=>simp [intOf];omega
   have O:0<=x/2 ^ (8*k)%256:=Z;have P:x/2 ^ (8*k)%256<256:=Z;have m:=H (show cb x k=x/2 ^ (8*k)%256 by rw [m.out,tg Z]);have g:=H (f.alloc (.cells #[.int .u8 (x/2 ^ (8*k)%256)] 5));have d:=H (c.alloc c.size (.cells #[.int .u8 (x/2 ^ (8*k)%256)] 5));go_wp2_with (at_builtin;refine Kt _ rfl _ _ 52 rfl w.heap.size 5 F (.int .u8 0) 1 1 underlying52 G n o p rfl Z _ _ _ rfl g _ 1 1 [.int .u8 (x/2 ^ (8*k)%256)] rfl rfl ?hc ?h1c ?b1 ?b2 ?b3 ?_);(case hc=>exact bX _ _ _ _ bh);(case h1c=>intro u r;simp at r;subst r;rfl);(case b1=>unfold maxLen;omega);(case b2=>omega);(case b3=>exact d.size);intro M N j l _;have s:=H (LG j (d.grown l d.size (pE g)));clear j l;go_wp2;go_roundw;(case rel=>exact ⟨k+1,Z,Z,aR,H (by rw [q.out,m.out];simpa [Ns] using s.1),H s.2⟩);case measure=>simp [intOf];omega
  have d:k=8:=Z;subst d;have g:=H (show wr.ownsRow w.heap.size 5 1 u6 8 (Ns .u8 (gO x)) by
   have:=f.out;rwa [JN (by rw [dT];exact Jo _)] at this)
  clear f;go_wp2;go_ret;rw [L.out];exact⟨_,rfl,g,c⟩
theorem gz (h:0<=c/\c<12):1<=pg c/\pg c<=4:=by
 rcases fN h with rfl|rfl|rfl|rfl|rfl|rfl|rfl|rfl|rfl|rfl|rfl|rfl <;> decide
theorem yu (h:¬(0<=c/\c<12)):pg c=0:=by simp only [pg,g_ h];decide
theorem Di (c):0<=pg c/\pg c<=4:=by
 by_cases h:0<=c/\c<12;·have:=gz h;omega
 rw [yu h];omega
theorem mo (h:0<=c/\c<12):4<=sl c/\sl c<=64/\sl c=pg c*1024/sz c/\sl c*sz c<=pg c*1024:=by
 rcases fN h with rfl|rfl|rfl|rfl|rfl|rfl|rfl|rfl|rfl|rfl|rfl|rfl <;> decide
theorem Aa (h:¬(0<=c/\c<12)):sl c=0:=by simp only [sl,tg h]
theorem vE (h:0<=c/\c<12):us c=sz c-8:=by simp only [us,tm h]
theorem uE (h:¬(0<=c/\c<12)):us c=0:=by simp only [us,tg h]
theorem fI (c w) (a:Tb w) :
  Calls prog 153 #[I c] w λe b=>e=.returned (I (pg c))/\b=w:=by
 have d:=hidR (dW c w a);have f:=Gh c;unfold pg;generalize sz c=s at d f ⊢;clear a;go_enter func153,ntmps153;go_wp2_with fail;refine (d).mono ?_;rintro e b ⟨rfl,rfl⟩;go_wp2;go_ret;exact⟨rfl,rfl⟩
theorem h_ (c w) (b:Tb w) :
  Calls prog 102 #[I c] w λe a=>e=.returned (I (sl c))/\a=w:=by
 have f:=hidR (dW c w b);have g:=hidR (fI c w b);by_cases h:0<=c/\c<12;·have i:=fE h;have j:=gz h;rw [(mo h).2.2.1];have d:=hidR (dU _ w h);generalize sz c=s at f i ⊢;generalize pg c=p at g j ⊢;clear b h;go_enter func102,ntmps102;go_wp2_with fail;refine (d).mono ?_;rintro e a ⟨rfl,rfl⟩;go_wp2_with fail;refine (g).mono ?_;rintro e a ⟨rfl,rfl⟩;go_wp2_with fail;refine (f).mono ?_;rintro e a ⟨rfl,rfl⟩;go_wp2;go_ret;exact⟨rfl,rfl⟩
 rw [Aa h];have d:=hidR (ev _ w h);clear b h;go_enter func102,ntmps102;go_wp2_with fail;refine (d).mono ?_;rintro e a ⟨rfl,rfl⟩;go_wp2;go_ret;exact⟨rfl,rfl⟩
def fg (mix fifo:List Int) (i:Int):Bool:=decide (mix.length<=16)&&(decide (1<=i)&&(decide (i<=32)&&(decide ((fifo.length:Int)<=i)&&(nb (-1) mix&&nb 0 fifo))))
def wv (x:Option Addr) (t v:Nat) (u:Option Addr) (j cf:Nat) (i:Int):Value:=.agg #[.slice x t v,.slice u j cf,I i]
structure Wt (w:World) (am:Option Addr) (lm:Nat) (af:Option Addr) (lf:Nat) (mix fifo:List Int):Prop where
 m:Sl w am mix
 ml:mix.length=lm
 f:Sl w af fifo
 fl:fifo.length=lf
theorem Wt.below {w w' am lm af lf mix fifo} (h:Wt w am lm af lf mix fifo) (a:D w w'):Wt w' am lm af lf mix fifo :=
 ⟨h.m.below a,h.ml,h.f.below a,h.fl⟩
theorem vW {l} {k:Nat} (h:nb l (zs.take k)=true) (b:k<zs.length) (a:l<=zs[k]?.getD 0):nb l (zs.take (k+1))=true:=by
 unfold nb at *;rw [JK,List.all_append,h];simp [b] at a ⊢;exact a
theorem ye {l:Int} {k:Nat} (b:k<zs.length) (a:¬l<=zs[k]?.getD 0):nb l zs=false:=by
 unfold nb;rw [List.all_eq_false];simp [b] at a;exact⟨zs[k],bh,by simpa using a⟩
theorem wL (am lm cm af lf cf lim mix fifo w) (h:Wt w am lm af lf mix fifo) :
  Calls prog 187 #[wv am lm cm af lf cf lim] w λe y=>e=.returned (.bool (fg mix fifo lim))/\D w y:=by
 unfold wv;have j:=H ((Jn _ w).alloc (Jo _) (.cells #[.slice am lm cm,.slice af lf cf,I lim] 104));by_cases r:lm<=16;case neg =>
  have d:=H (show fg mix fifo lim=false by unfold fg;rw [h.ml,t5 r];rfl);have z:(16<(lm:Int)):=Z;clear h;go_enter func187,ntmps187;go_wp2;go_ret;exact⟨dj d.symm,j⟩
 have z:¬(16<(lm:Int)):=Z;by_cases s:1<=lim;case neg =>
  have d:=H (show fg mix fifo lim=false by unfold fg;rw [t5 s];simp);have A:lim<1:=Z;clear h;go_enter func187,ntmps187;go_wp2;go_ret;exact⟨dj d.symm,j⟩
 have A:¬(lim<1):=Z;by_cases t:lim<=32;case neg =>
  have d:=H (show fg mix fifo lim=false by unfold fg;rw [t5 t];simp);have B:32<lim:=Z;clear h;go_enter func187,ntmps187;go_wp2;go_ret;exact⟨dj d.symm,j⟩
 have B:¬(32<lim):=Z;by_cases u:(lf:Int)<=lim;case neg =>
  have d:=H (show fg mix fifo lim=false by unfold fg;rw [h.fl,t5 u];simp);have F:lim<(lf:Int):=Z;clear h;go_enter func187,ntmps187;go_wp2;go_ret;exact⟨dj d.symm,j⟩
 have F:¬(lim<(lf:Int)):=Z;have d:=H (show fg mix fifo lim=(nb (-1) mix&&nb 0 fifo) by
  unfold fg;rw [h.ml,h.fl,zB r,zB s,zB t,zB u];simp)
 have v:=H (h.m.below j).cells;have G:=H (h.f.below j).cells;have o:=H h.ml;have p:=H h.fl;clear h;go_enter func187,ntmps187;go_wp2;go_loopw [32] (λi wr=>∃ k:Nat,k<=lm/\i=I k/\wr=w.alloc (.cells #[.slice am lm cm,.slice af lf cf,I lim] 104)/\Hid (nb (-1) (mix.take k)=true)) (λi _=>lm-(intOf i).toNat);case atStart=>exact ⟨0,Jt _,rfl,rfl,by show nb _ _=_;rfl⟩
 case round =>
  obtain⟨k,K,rfl,rfl,b⟩:=hrel;by_cases c:k<lm
  ·obtain⟨g,rfl,L⟩:=v.out k (by rw [o.out];exact c);have a:k<mix.length:=(by rw [o.out];exact c);by_cases l : -1<=mix[k]?.getD 0
   ·have m:=H (vW b a l);have n:¬(mix[k]?.getD 0 < -1):=Z;clear l a;generalize mix[k]?.getD 0=x at *;go_wp2;go_roundw;(case rel=>exact ⟨k+1,Z,aR,trivial,m⟩);case measure=>simp [intOf];omega
   have m:=H (ye a l);have n:mix[k]?.getD 0 < -1:=Z;clear l a;generalize mix[k]?.getD 0=x at *;go_wp2;go_ret;exact⟨dj (by rw [d.out,m.out];rfl),j⟩
  have M:=H (show nb (-1) mix=true by
   have:=b.out;rwa [show k=lm by omega,<-o.out,zM] at this)
  have q:¬((k:Int)<(lm:Int)):=Z;clear b v;go_wp2;go_loopw [42] (λi wr=>∃ k:Nat,k<=lf/\i=I k/\wr=w.alloc (.cells #[.slice am lm cm,.slice af lf cf,I lim] 104)/\Hid (nb 0 (fifo.take k)=true)) (λi _=>lf-(intOf i).toNat);case atStart=>exact ⟨0,Jt _,rfl,rfl,by show nb _ _=_;rfl⟩
  case round =>
   clear c q;obtain⟨f,K,rfl,rfl,b⟩:=hrel;by_cases c:f<lf
   ·obtain⟨g,rfl,L⟩:=G.out f (by rw [p.out];exact c);have a:f<fifo.length:=(by rw [p.out];exact c);by_cases l:0<=fifo[f]?.getD 0
    ·have m:=H (vW b a l);have n:¬(fifo[f]?.getD 0<0):=Z;clear l a;generalize fifo[f]?.getD 0=x at *;go_wp2;go_roundw;(case rel=>exact ⟨f+1,Z,aR,trivial,m⟩);case measure=>simp [intOf];omega
    have m:=H (ye a l);have n:fifo[f]?.getD 0<0:=Z;clear l a;generalize fifo[f]?.getD 0=x at *;go_wp2;go_ret;exact⟨dj (by rw [d.out,m.out];simp),j⟩
   have N:=H (show nb 0 fifo=true by
    have:=b.out;rwa [show f=lf by omega,<-p.out,zM] at this)
   clear b;go_wp2;go_ret;exact⟨dj (by rw [d.out,M.out,N.out];rfl),j⟩
end
end Go.Proofs.YtdfodlhkdmkfdaaGreatDoor
