import Derived.Deep.AppendSrc
import Derived.Maps.RangeWalk
import Derived.Test.YtibblbenmpcplaaGreatDoorN11
import Derived.Test.YtibblbenmpcplaaGreatDoorN24
set_option linter.unusedVariables false
set_option linter.unusedSimpArgs false
set_option maxRecDepth 20000
set_option maxHeartbeats 8000000
namespace Go.Proofs.YtibblbenmpcplaaGreatDoor
open Go.Proofs.Tryz
variable {zs:List Int} {R cap g len p p':Nat} {W W' b0 w w0:World} {a:Option Addr}
section
open Go.ChangeShapes Go.WideShapes Go.ChangeAt Go.RowKit Go.Shelf Go.Maps
def gH (zs:List Int) (p:Nat):Nat:=(zs[p]?.getD 0).toNat%256
def gS (zs:List Int) (p:Nat):Nat:=if p<zs.length then p+1 else p
theorem dL (zs p):gH zs p<=255:=by unfold gH;omega
theorem DL (h:p<zs.length):gS zs p=p+1:=GP h
theorem AX (h:¬p<zs.length):gS zs p=p:=GO h
theorem Ch (h:¬p<zs.length):gH zs p=0:=by unfold gH;rw [FJ Z];rfl
def Cbq9 (zs:List Int) (w0:World) (a:Option Addr) (len cap:Nat):Prop:=∃ ys,IsRow .u8 w0 a len cap ys/\zs=ys.take len/\len<=1048576
theorem Cbq9.len9 (h:Cbq9 zs w a len cap):zs.length=len/\len<=1048576:=by
 obtain⟨c,h,rfl,b⟩:=h;rw [Hm];rcases h with ⟨_,rfl,_,rfl⟩|⟨x,d,e,f,g,i,j⟩;·exact⟨rfl,b⟩
 exact⟨Z,b⟩
theorem Cbq9.at9 (h:Cbq9 zs w a len cap) (i:Nat) (c:i<len):∃ x,a=some x/\w.cell? (x.add i)=some (.int .u8 (gH zs i:Nat)):=by
 obtain⟨d,h,rfl,j⟩:=h;rcases h with ⟨_,rfl,_,rfl⟩|⟨x,e,k,l,m,f,g⟩;·omega
 have b:i<d.length:=Z;have n:=bounds_u8 (g _ (Iw b));refine⟨x,e,?_⟩;rw [f i b];unfold gH;rw [Hf c,List.getD_eq_getElem?_getD,Fy b];simp only [Ht];congr 2;omega
theorem Cbq9.below {w'} (h:Cbq9 zs w a len cap) (b:D w w'):Cbq9 zs w' a len cap:=by
 obtain⟨c,h,e,d⟩:=h;refine⟨c,?_,e,d⟩;rcases h with h|⟨x,f,g,j,k,l,m⟩;·exact .inl h
 exact .inr ⟨x,f,g,j,k,λi n=>ad b (l i n),m⟩
structure Rp (p:Nat) (w0:World) (a:Option Addr) (len cap:Nat) (R:Nat) (b0 W:World):Prop where
 box:W.heap[R]?=some (.cells #[.slice a len cap,I p] 51)
 pl:p<=len
 bel:D w0 W
 new:w0.heap.size<=R
 g:b0.grownBy W (some R)
theorem Rp.below (h:Rp p w0 a len cap R b0 W) (b:D W W'):Rp p w0 a len cap R b0 W' :=
 ⟨by rw [b.block R (ag h.box)];exact h.box,h.pl,az h.bel b,h.new,mu h.g (grown_of b R)⟩
theorem Rp.drew {p w0 b0 a len cap R W} (h:Rp p w0 a len cap R b0 W):Rp p w0 a len cap R b0 W.drew:=h.below (Fu _ _).drew
theorem Rp.at (h:Rp p w0 a len cap R b0 W):Rp p w0 a len cap R W W:=⟨h.box,h.pl,h.bel,h.new,al W R⟩
theorem Rp.of (h:Rp p w0 a len cap R b0 W) (k:Rp p' w0 a len cap R W W'):Rp p' w0 a len cap R b0 W':=⟨k.box,k.pl,k.bel,k.new,mu h.g k.g⟩
theorem Rp.app {f:World} (h:Rp p w0 a len cap R b0 W) {c:Option Nat} (b:W.grownBy f c) (d:∀ r,c=some r->b0.heap.size<=r/\R<r):Rp p w0 a len cap R b0 f:=by
 refine⟨?_,h.pl,h.bel.grown b h.bel.size (λr e=>?_),h.new,⟨b.os.trans h.g.os,b.tape.trans h.g.tape,b.output.trans h.g.output,Fx h.g.size b.size,λk g i=>(b.block k (FG g h.g.size) (λe=>?_)).trans (h.g.block k g i)⟩⟩;·rw [b.block R (ag h.box) (λe=>by have:=(d R e.symm).2;omega)];exact h.box
 ·have:=(d r e).2;have:=h.new;omega
 have:=(d k e.symm).1;omega
theorem Rp.lt (h:Rp p w0 a len cap R b0 W):R<W.heap.size:=ag h.box
def tQ (zs:List Int) (f:FuncId) (p:Nat) (v:Value) (p':Nat):Prop:=∀ (w0:World) (a:Option Addr) (len cap:Nat),Cbq9 zs w0 a len cap->∀ (R:Nat) (b0 W:World),Rp p w0 a len cap R b0 W ->
 Calls prog f #[J R 0] W λe W'=>e=.returned v/\Rp p' w0 a len cap R b0 W'
theorem cE (zs p):tQ zs 10 p (I (gH zs p:Nat)) (gS zs p):=by
 intro w0 a len cap g R b0 W f;obtain⟨e,j⟩:=g.len9;have b:=f.box;have q:=f.pl;have r:W.cell? ⟨R,0,none⟩=some (.slice a len cap):=by simp [World.cell?,b]
 have s:W.cell? ⟨R,1,none⟩=some (I p):=by simp [World.cell?,b]
 have f1:W.frozen? ⟨R,1,none⟩=false:=by simp [World.frozen?,b]
 have d:=H f;have n:=H b;clear b f;by_cases i:p<len
 ·obtain⟨x,rfl,f⟩:=g.at9 p i;have b:p<zs.length:=Z;have k:=ad d.bel f;rw [DL b];have o:=dL zs p;generalize gH zs p=c at *;have l:=H (show Rp (p+1) w0 (some x) len cap R b0 (W.setCell ⟨R,1,none⟩ (I (p+1:Nat))) from ⟨by simp [World.setCell,FD,n.out],Z,d.bel.setCell d.new _,d.new,mu d.g (au (al W R) 1 _)⟩);have m:((p+1:Nat):Int)=(p:Int)+1:=Z;rw [m] at l;clear f g m b e;go_enter func10,ntmps10;go_wp2;go_region;go_wp2;go_region;go_wp2;go_ret;exact⟨rfl,l.drew.drew⟩
 have b:¬p<zs.length:=Z;rw [AX b,Ch b];clear g b e;go_enter func10,ntmps10;go_wp2;go_region;go_wp2;go_ret;exact⟨rfl,d.drew⟩
def qF (zs:List Int) (p:Nat):Nat->Int×Nat
 | 0=>(0,p)
 | k+1=>(((IntKind.u64.wrap ((qF zs p k).1*256)).toNat|||gH zs (qF zs p k).2:Nat),gS zs (qF zs p k).2)
theorem Bz (zs p):∀ k,0<=(qF zs p k).1/\(qF zs p k).1<=18446744073709551615
 | 0=>by simp [qF]
 | k+1=>by
  have a:=dL zs (qF zs p k).2
  have b:(IntKind.u64.wrap ((qF zs p k).1*256)).toNat|||gH zs (qF zs p k).2<2 ^ 64:=Nat.or_lt_two_pow (by rw [IntKind.wrap_u64];omega) Z
  show 0<=(((IntKind.u64.wrap ((qF zs p k).1*256)).toNat|||gH zs (qF zs p k).2:Nat):Int)/\(((IntKind.u64.wrap ((qF zs p k).1*256)).toNat|||gH zs (qF zs p k).2:Nat):Int)<=18446744073709551615
  omega
theorem qP (zs p):∃ (c:Int) (p':Nat),tQ zs 26 p (U c) p'/\0<=c/\c<=18446744073709551615:=by
 refine⟨(qF zs p 8).1,(qF zs p 8).2,?_,Bz zs p 8⟩;intro w0 a len cap b R b0 W e;have N:=H (λp W h=>cE zs p w0 a len cap b R b0 W h);have n:=H e;clear e b;go_enter func26,ntmps26;go_wp2;go_loopw [3,4] (λx i wr=>∃ (k:Nat) (c:Int) (q:Nat),k<=8/\i=I k/\x=U c/\Hid (qF zs p k=(c,q))/\Hid (Rp q w0 a len cap R b0 wr)) (λ_ i _=>8-(intOf i).toNat);case atStart=>exact ⟨0,0,p,Z,rfl,rfl,H rfl,n⟩
 case round =>
  obtain⟨k,c,q,t,rfl,rfl,g,b⟩:=hrel;by_cases o:k<8
  ·have l:0<=IntKind.u64.wrap (c*256)/\IntKind.u64.wrap (c*256)<=18446744073709551615:=(by rw [IntKind.wrap_u64];omega);have j:=H (show qF zs p (k+1)=((((IntKind.u64.wrap (c*256)).toNat|||gH zs q:Nat):Int),gS zs q) from by
    show ((((IntKind.u64.wrap ((qF zs p k).1*256)).toNat|||gH zs (qF zs p k).2:Nat):Int),gS zs (qF zs p k).2)=_;rw [g.out])
   have u:=dL zs q;go_wp2_with fail;refine (N _ _ b).mono ?_;rintro e v ⟨rfl,f⟩;have r:=H f;clear f;generalize IntKind.u64.wrap (c*256)=m at l j ⊢;obtain⟨m,rfl⟩:=Ha l.1;generalize gH zs q=d at *;have s:bits BinOp.or IntKind.u64 (m:Int) (d:Int)=((m|||d:Nat):Int):=bits_or_u64_nat m d Z Z;have f:=H (show qF zs p (k+1)=(((m|||d:Nat):Int),gS zs q) from j);generalize m|||d=y at s f
   clear j;go_wp2;go_roundw;(case rel=>exact ⟨k+1,(y:Int),gS zs q,Z,aY,rfl,f,r⟩);case measure=>simp [intOf];omega
  obtain rfl:k=8:=Z;go_wp2;go_ret;exact⟨by rw [g.out];rfl,by rw [g.out];exact b⟩
theorem AJ {f c} (g:tQ zs f p (U c) p') (b0:0<=c) (a:c<=18446744073709551615):∃ (c:Int) (p':Nat),tQ zs f p (U c) p'/\0<=c/\c<=18446744073709551615:=⟨c,p',g,b0,a⟩
theorem o6 (zs p):∃ (c:Int) (p':Nat),tQ zs 28 p (U c) p'/\0<=c/\c<=18446744073709551615:=by
 have e:=cE zs p;have t:=dL zs p;generalize gH zs p=k at t e;generalize gS zs p=x at e;obtain⟨v,M,d,y,z⟩:=qP zs x;have l:=H e;have A:=H d;have b:=H gD;clear e d;by_cases B:250<=k
 ·have:k=250\/k=251\/k=252\/k=253\/k=254\/k=255:=Z;clear B t;rcases this with rfl|rfl|rfl|rfl|rfl|rfl
  all_goals
   apply AJ
   ·intro w0 a len cap d R b0 W f;have g:=H f;have N:=H (l w0 a len cap d R b0);have V:=H (A w0 a len cap d R b0);clear d f;go_enter func28,ntmps28;go_wp2_with fail;refine (N _ g).mono ?_;rintro e m ⟨rfl,i⟩;have j:=H i;clear i g;go_wp2_with fail;refine (V _ j).mono ?_;rintro e F ⟨rfl,o⟩;have n:=H o;clear o;go_wp2;go_ret;exact⟨rfl,n⟩
   all_goals omega
 by_cases O:k<200/\k%3=0
 ·have o:((k:Int)%3==0)=true:=bG;have s:=ui ((k:Int)/3%12);have q:=H (λw=>b.out ((k:Int)/3%12) w);generalize us ((k:Int)/3%12)=u at s q;apply AJ;·intro w0 a len cap d R b0 W f;have g:=H f;have N:=H (l w0 a len cap d R b0);clear d f;go_enter func28,ntmps28;go_wp2_with fail;refine (N _ g).mono ?_;rintro e m ⟨rfl,i⟩;have j:=H i;clear i g;go_wp2_with fail;refine (q _).mono ?_;rintro e F ⟨rfl,r⟩;have n:=H (j.below r);clear r;go_wp2;go_ret;exact⟨rfl,n⟩
  all_goals omega
 have o:200<=k\/((k:Int)%3==0)=false:=bG;by_cases P:k<200/\k%3=1
 ·have q:((k:Int)%3==1)=true:=bG;have r:((k:Int)%3==0)=false:=bG;apply AJ;·intro w0 a len cap d R b0 W f;have g:=H f;have N:=H (l w0 a len cap d R b0);clear d f;go_enter func28,ntmps28;go_wp2_with fail;refine (N _ g).mono ?_;rintro e m ⟨rfl,i⟩;have j:=H i;clear i g;go_wp2;go_ret;exact⟨rfl,j⟩
  all_goals omega
 have G:225<=k\/(200<=k/\k<225)\/(k<200/\k%3=2):=Z;rcases G with s|s|s
 ·apply AJ;·intro w0 a len cap d R b0 W f;have g:=H f;have N:=H (l w0 a len cap d R b0);clear d f;go_enter func28,ntmps28;go_wp2_with fail;refine (N _ g).mono ?_;rintro e m ⟨rfl,i⟩;have j:=H i;clear i g;go_wp2;go_ret;exact⟨rfl,j⟩
  all_goals omega
 ·have K:¬225<=k:=Z;have L:=s.1;apply AJ;·intro w0 a len cap d R b0 W f;have g:=H f;have N:=H (l w0 a len cap d R b0);clear d f;go_enter func28,ntmps28;go_wp2_with fail;refine (N _ g).mono ?_;rintro e m ⟨rfl,i⟩;have j:=H i;clear i g;go_wp2;go_ret;exact⟨rfl,j⟩
  all_goals omega
 have q:((k:Int)%3==1)=false:=bG;have r:((k:Int)%3==0)=false:=bG;have K:¬225<=k:=Z;have L:¬200<=k:=Z;apply AJ;·intro w0 a len cap d R b0 W f;have g:=H f;have N:=H (l w0 a len cap d R b0);clear d f;go_enter func28,ntmps28;go_wp2_with fail;refine (N _ g).mono ?_;rintro e m ⟨rfl,i⟩;have j:=H i;clear i g;go_wp2;go_ret;exact⟨rfl,j⟩
 all_goals omega
theorem tE (zs p):∃ (c:Int) (p':Nat),tQ zs 31 p (U c) p'/\0<=c/\c<=18446744073709551615:=by
 have e:=cE zs p;generalize gS zs p=M at e;have g:=cE zs M;generalize gS zs M=N at g;have i:=cE zs N;generalize gS zs N=O at i;have l:=cE zs O;generalize gS zs O=A at l;have m:=cE zs A;obtain⟨B,a0,b,P,Q⟩:=qP zs A;have hk:=dL zs p;have hc:=dL zs M;have hs:=dL zs N;have hn:=dL zs O;have hd:=dL zs A;generalize gH zs p=k at *;generalize gH zs M=c at *;generalize gH zs N=s at *;generalize gH zs O=n at *;generalize gH zs A=d at *;generalize gS zs A=p5 at *;have G1:=H e;have G2:=H g;have G3:=H i;have G4:=H l;have S:=H m;have G6:=H b;have HS:=H (λj=>Cs B j P Q);have F:=H gl;have G:=H gn;have f:=H u64_in;clear e g i l m b;have o:(0:Int)<=(c:Int)%12/\(c:Int)%12<12:=Z;have T:(0:Int)<=(s:Int)%6/\(s:Int)%6<6:=Z;have b:=kh o;have hz:=eJ o;have hp:=fy o;have V:4<=sl ((c:Int)%12)/\sl ((c:Int)%12)<=64:=⟨b.1,b.2.1⟩;have r:=H (λw=>jO ((c:Int)%12) ((s:Int)%6) Z Z w);have K:=H (λw=>em ((c:Int)%12) w);have t:=H (λw=>dx ((c:Int)%12) w);have u:=H (λw=>gM ((c:Int)%12) w);clear b;have b:∃ v,v=(c:Int)%12:=⟨_,rfl⟩;obtain⟨v,b⟩:=b;obtain⟨j,e⟩:∃ j,j=(s:Int)%6:=⟨_,rfl⟩;rw [<-b] at o V hz hp r K t u;rw [<-e] at T r;generalize rs v+j*(pg v+1)=L at *;generalize pg v=pp at *;generalize sz v=z at *;generalize sl v=l at *;have X:(k:Int)%8=0\/(k:Int)%8=1\/(k:Int)%8=2\/(k:Int)%8=3\/(k:Int)%8=4\/(k:Int)%8=5\/(k:Int)%8=6\/(k:Int)%8=7:=Z;have HE:=H (IT b e);clear b e;rcases X with x|x|x|x|x|x|x|x
 all_goals apply AJ
 all_goals try
  intro w0 a len cap b R b0 W e
  have g:=H e
  have q:=H b
  clear b e
  go_enter func31,ntmps31
  go_wp2_with fail
  refine (G1 w0 a len cap q R b0 _ g).mono ?_
  rintro e m ⟨rfl,b⟩
  have i:=H b
  clear b g
  go_wp2_with fail
  refine (G2 w0 a len cap q R b0 _ i).mono ?_
  rintro e y ⟨rfl,b⟩
  have g:=H b
  clear b i
  go_wp2_with fail
  refine (G3 w0 a len cap q R b0 _ g).mono ?_
  rintro e Y ⟨rfl,b⟩
  have i:=H b
  clear b g
  go_wp2_with fail
  rw [<-HE.1,<-HE.2]
  refine (r _).mono ?_
  rintro e w4 ⟨rfl,b⟩
  have g:=H (i.below b)
  clear b i
  go_wp2_with fail
  refine (G4 w0 a len cap q R b0 _ g).mono ?_
  rintro e w5 ⟨rfl,i⟩
  have b:=H i
  clear i g
 ·go_wp2;go_ret;exact⟨rfl,b⟩
 ·exact (f _).1
 ·exact (f _).2
 ·go_wp2_with fail;refine (K _).mono ?_;rintro e y ⟨rfl,g⟩;have i:=H (b.below g);clear g b;go_wp2;go_ret;exact⟨rfl,i⟩
 ·exact (f _).1
 ·exact (f _).2
 ·go_wp2_with fail;refine (u _).mono ?_;rintro e y ⟨rfl,g⟩;have i:=H (b.below g);clear g b;go_wp2_with fail;refine (t _).mono ?_;rintro e w7 ⟨rfl,g⟩;have Y:=H (i.below g);clear g i;go_wp2;go_ret;exact⟨rfl,Y⟩
 ·exact (f _).1
 ·exact (f _).2
 ·go_wp2_with fail;refine (F _).mono ?_;rintro e y ⟨rfl,g⟩;have i:=H (b.below g);clear g b;go_wp2_with fail;refine (S w0 a len cap q R b0 _ i).mono ?_;rintro e w7 ⟨rfl,m⟩;have Y:=H m;clear m i;go_wp2;go_ret;exact⟨rfl,Y⟩
 ·exact (f _).1
 ·exact (f _).2
 ·go_wp2_with fail;refine (G _).mono ?_;rintro e y ⟨rfl,g⟩;have i:=H (b.below g);clear g b;go_wp2;go_ret;exact⟨rfl,i⟩
 ·exact (f _).1
 ·exact (f _).2
 ·go_wp2_with fail;refine (G6 w0 a len cap q R b0 _ b).mono ?_;rintro e y ⟨rfl,m⟩;have i:=H m;clear m b;go_wp2;go_ret;exact⟨rfl,i⟩
 ·exact (HS _).1
 ·exact (HS _).2
 ·go_wp2_with fail;refine (S w0 a len cap q R b0 _ b).mono ?_;rintro e y ⟨rfl,m⟩;have i:=H m;clear m b;go_wp2;go_ret;exact⟨rfl,i⟩
 ·exact (f _).1
 ·exact (f _).2
 ·go_wp2
  go_region_with (first
   | (go_at_call 10;refine (S w0 a len cap q R b0 _ ?_).mono ?_;exact b.drew;rintro e y ⟨rfl,m⟩)
   | (go_at_call 66;refine (u _).mono ?_;rintro e w7 ⟨rfl,b7⟩)
   | (go_at_call 63;refine (t _).mono ?_;rintro e w8 ⟨rfl,b8⟩))
  all_goals
   have R8:=H ((m.below b7).below b8)
   clear m b7 b8 b
   go_wp2
   go_ret
   exact⟨rfl,R8⟩
 ·exact (f _).1
 exact (f _).2
end
section
open Go.RowKit Go.Shelf Go.Maps
def r7 (zs:List Int) (p:Nat):Nat->List Int×Nat
 | 0=>([],p)
 | k+1=>((r7 zs p k).1++[(gH zs (r7 zs p k).2:Int)],gS zs (r7 zs p k).2)
theorem sf (zs p):∀ k,(r7 zs p k).1.length=k/\∀ y∈(r7 zs p k).1,0<=y/\y<=255
 | 0=>⟨rfl,λy a=>by cases a⟩
 | k+1=>by
  obtain⟨b,c⟩:=sf zs p k
  have d:=dL zs (r7 zs p k).2
  refine⟨?_,λy a=>?_⟩
  ·show ((r7 zs p k).1++[(gH zs (r7 zs p k).2:Int)]).length=k+1
   rw [FC,b];rfl
  rcases F8.1 (show y∈(r7 zs p k).1++[(gH zs (r7 zs p k).2:Int)] from a) with a|a
  ·exact c y a
  obtain rfl:=List.mem_singleton.1 a;omega
theorem yt (zs p) (n:Nat) (X:n<=10000):∃ (d:List Int) (p':Nat),d.length=n/\(∀ y∈d,0<=y/\y<=255)/\∀ (w0:World) (a:Option Addr) (len cap:Nat),Cbq9 zs w0 a len cap->∀ (R:Nat) (b0 W:World),Rp p w0 a len cap R b0 W ->
  Calls prog 29 #[J R 0,I n] W λe W'=>∃ v,e=.returned v/\W'.ownsRow W.heap.size 5 1 v n (Ns .u8 d)/\Rp p' w0 a len cap R b0 W':=by
 refine⟨(r7 zs p n).1,(r7 zs p n).2,(sf zs p n).1,(sf zs p n).2,?_⟩;intro w0 a len cap f R b0 W b;obtain⟨M,m,o,r,s⟩:=G0 Tryz.info5By;have N:=H (λp V (t:Rp p w0 a len cap R V V)=>cE zs p w0 a len cap f R V V t);have A:=H b.at;have u:=H (λp V (t:Rp p w0 a len cap R W V)=>b.of t);have B:=H b.lt;clear f b;go_enter func29,ntmps29;go_wp2;go_loopw [5,6] (λv i wr=>∃ (k:Nat) (d:List Int) (q:Nat),k<=n/\i=I k/\Hid (r7 zs p k=(d,q))/\Hid (wr.ownsRow W.heap.size 5 1 v k (Ns .u8 d))/\Hid (Rp q w0 a len cap R W wr)) (λ_ i _=>n-(intOf i).toNat);case atStart=>exact ⟨0,[],p,FH _,rfl,H rfl,H ⟨rfl,.inl ⟨rfl,rfl⟩⟩,A⟩
 case round =>
  obtain⟨k,d,q,Y,rfl,w,f,l⟩:=hrel;clear A;obtain⟨va,vb,vc,rfl⟩:∃ a b c,u5=.slice a b c:=fW f.out;by_cases O:k<n
  ·have P:=H (show r7 zs p (k+1)=(d++[(gH zs q:Int)],gS zs q) from by
    show ((r7 zs p k).1++[(gH zs (r7 zs p k).2:Int)],gS zs (r7 zs p k).2)=_;rw [w.out])
   have hc:=dL zs q;have y:=H (N q);generalize gH zs q=c at *;go_wp2_with fail;refine (y _ l.at).mono ?_;rintro e w1 ⟨rfl,x⟩;have z:=x.g;have g:∀ {v:Value} {b:List Value} {j:Nat},wr.ownsRow W.heap.size 5 1 v j b->v.ownBlock≠some R:=λQ e=>by have:=(Q.lt R e).1;have:=B.out;omega
   have F:=H (f.kept z (.inr (g f)));have b:=H (l.of x);clear x z g f l;have z:=H (F.alloc (.cells #[.int .u8 (c:Int)] 5));go_wp2_with (at_builtin;refine Ib _ rfl _ _ 22 rfl W.heap.size 5 M (.int .u8 0) 1 1 underlying22 m o r s rfl Z _ _ _ rfl z _ 1 1 [.int .u8 (c:Int)] rfl rfl ?hc ?h1c ?b1 ?b2 ?b3 ?_);(case hc=>exact ek _ _ _ _ bH);(case h1c=>intro x G;simp at G;subst G;rfl);(case b1=>unfold maxLen;omega);(case b2=>omega);(case b3=>have:=b.g.size;simp;omega);intro S K g j _;have L:=cI z.out;have D9q9:=H (show Rp (gS zs q) w0 a len cap R W K from by
    have T:=b.below ((Fu _ _).alloc (Fv _) (.cells #[.int .u8 (c:Int)] 5));exact T.app j λr e=>by have:=L _ e;have:=B.out;omega)
   have T:=H (show K.ownsRow W.heap.size 5 1 S (k+1) (Ns .u8 (d++[(c:Int)])) by simpa [Ns] using g);clear g j L z F b;go_wp2;go_roundw;(case rel=>exact ⟨k+1,d++[(c:Int)],gS zs q,Z,aY,P,T,D9q9⟩);case measure=>simp [intOf];omega
  have:k=n:=Z;subst this;go_wp2;go_ret;exact⟨_,rfl,by rw [w.out];exact f,by rw [w.out];exact u _ _ l⟩
structure Oq6 (p:Nat) (w0:World) (a:Option Addr) (len cap R:Nat) (b0:World) (X Y:Nat) (o:fL) (d:Option Addr) (dc:Nat) (W:World):Prop where
 rd:Rp p w0 a len cap R b0 W
 rn:R<b0.heap.size
 x:W.heap[X]?=some (.cells (fH ⟨o,d,dc⟩).toArray 42)
 xn:b0.heap.size<=X
 y:W.heap[Y]?=some (.cells #[I 0,I 0,U 0,U 0,U 0,C] 42)
 yn:b0.heap.size<=Y
 xy:X≠Y
 od:Od6 b0.heap.size ⟨o,d,dc⟩ W
section
variable {p:Nat} {w0:World} {a:Option Addr} {len cap R:Nat} {b0 W:World} {X Y:Nat} {o:fL} {d:Option Addr} {dc:Nat}
theorem Oq6.upd (h:Oq6 p w0 a len cap R b0 X Y o d dc W) (i:Nat) (v:Value) (c:fL) (f:Option Addr) (b:Nat) (k:fH ⟨c,f,b⟩=(fH ⟨o,d,dc⟩).set i v) (j:Od6 b0.heap.size ⟨c,f,b⟩ W):Oq6 p w0 a len cap R b0 X Y c f b (W.setCell ⟨X,i,none⟩ v):=by
 have l:=h.rn;have g:W.grownBy (W.setCell ⟨X,i,none⟩ v) (some X):=au (al W X) i v;have m:=h.xn;refine⟨h.rd.app g (λr e=>by cases e;omega),l,?_,h.xn,?_,h.yn,h.xy,j.kept g (eD j.d h.x ar)⟩;·rw [k];simp [World.setCell,FD,h.x]
 rw [g.block Y (ag h.y) (λe=>by cases e;exact h.xy rfl)];exact h.y
theorem Oq6.next (h:Oq6 p w0 a len cap R b0 X Y o d dc W) (b:Rp p' w0 a len cap R W W'):Oq6 p' w0 a len cap R b0 X Y o d dc W':=by
 have c:=h.rn;have f:=h.xn;have g:=h.yn;refine⟨h.rd.of b,c,?_,h.xn,?_,h.yn,h.xy,h.od.kept b.g (λe=>by have:=(h.od.d.lt R e).1;omega)⟩;·rw [b.g.block X (ag h.x) (λe=>by cases e;omega)];exact h.x
 rw [b.g.block Y (ag h.y) (λe=>by cases e;omega)];exact h.y
theorem Oq6.below (h:Oq6 p w0 a len cap R b0 X Y o d dc W) {W'} (b:D W W'):Oq6 p w0 a len cap R b0 X Y o d dc W':=h.next (h.rd.at.below b)
theorem Oq6.drew (h:Oq6 p w0 a len cap R b0 X Y o d dc W):Oq6 p w0 a len cap R b0 X Y o d dc W.drew:=h.below (Fu _ _).drew
theorem Oq6.cells (h:Oq6 p w0 a len cap R b0 X Y o d dc W):W.cell? ⟨X,0,none⟩=some (I o.kd)/\W.cell? ⟨X,1,none⟩=some (I o.ref)/\W.cell? ⟨X,2,none⟩=some (U o.p)/\W.cell? ⟨X,3,none⟩=some (U o.a)/\W.cell? ⟨X,4,none⟩=some (U o.b)/\W.cell? ⟨X,5,none⟩=some (.slice d o.ys.length dc):=by
 have:=h.x;simp [World.cell?,this,fH]
theorem Oq6.fr (h:Oq6 p w0 a len cap R b0 X Y o d dc W) (i:Nat):W.frozen? ⟨X,i,none⟩=false:=by simp [World.frozen?,h.x]
theorem Oq6.setKd (h:Oq6 p w0 a len cap R b0 X Y o d dc W) (x:Int):Oq6 p w0 a len cap R b0 X Y { o with kd:=x } d dc (W.setCell ⟨X,0,none⟩ (I x)):=h.upd 0 _ _ _ _ rfl ⟨h.od.p,h.od.a,h.od.b,h.od.d,h.od.r,h.od.y⟩
theorem Oq6.setRef (h:Oq6 p w0 a len cap R b0 X Y o d dc W) (x:Int) (b : -9223372036854775808<=x):Oq6 p w0 a len cap R b0 X Y { o with ref:=x } d dc (W.setCell ⟨X,1,none⟩ (I x)):=h.upd 1 _ _ _ _ rfl ⟨h.od.p,h.od.a,h.od.b,h.od.d,b,h.od.y⟩
theorem Oq6.setP (h:Oq6 p w0 a len cap R b0 X Y o d dc W) (x:Int) (b:0<=x) (c:x<=18446744073709551615):Oq6 p w0 a len cap R b0 X Y { o with p:=x.toNat } d dc (W.setCell ⟨X,2,none⟩ (U x)):=by
 obtain⟨n,rfl⟩:=Ha b;exact h.upd 2 _ _ _ _ rfl ⟨by show n<_;omega,h.od.a,h.od.b,h.od.d,h.od.r,h.od.y⟩
theorem Oq6.setA (h:Oq6 p w0 a len cap R b0 X Y o d dc W) (x:Int) (b:0<=x) (c:x<=18446744073709551615):Oq6 p w0 a len cap R b0 X Y { o with a:=x.toNat } d dc (W.setCell ⟨X,3,none⟩ (U x)):=by
 obtain⟨n,rfl⟩:=Ha b;exact h.upd 3 _ _ _ _ rfl ⟨h.od.p,by show n<_;omega,h.od.b,h.od.d,h.od.r,h.od.y⟩
theorem Oq6.setB (h:Oq6 p w0 a len cap R b0 X Y o d dc W) (x:Int) (c:0<=x) (e:x<=18446744073709551615):Oq6 p w0 a len cap R b0 X Y { o with b:=x.toNat } d dc (W.setCell ⟨X,4,none⟩ (U x)):=by
 obtain⟨n,rfl⟩:=Ha c;exact h.upd 4 _ _ _ _ rfl ⟨h.od.p,h.od.a,by show n<_;omega,h.od.d,h.od.r,h.od.y⟩
theorem Oq6.setD (h:Oq6 p w0 a len cap R b0 X Y o d dc W) (e:Option Addr) (b:Nat) (c:List Int) (f:W.ownsRow b0.heap.size 5 1 (.slice e c.length b) c.length (Ns .u8 c)) (g:∀ y∈c,0<=y/\y<=255):Oq6 p w0 a len cap R b0 X Y { o with ys:=c } e b (W.setCell ⟨X,5,none⟩ (.slice e c.length b)):=h.upd 5 _ _ _ _ rfl ⟨h.od.p,h.od.a,h.od.b,f,h.od.r,g⟩
theorem Oq6.row (h:Oq6 p w0 a len cap R b0 X Y o d dc W) (b x y:Int) (f:0<=x) (k:x<=18446744073709551615) (g:0<=y) (l:y<=18446744073709551615):Oq6 p w0 a len cap R b0 X Y ⟨b,0,0,x.toNat,y.toNat,[]⟩ none 0 (W.setRow X #[I b,I 0,U 0,U x,U y,C]):=by
 obtain⟨n,rfl⟩:=Ha f;obtain⟨m,rfl⟩:=Ha g;have i:=h.rn;have q:=h.xn;have c:W.grownBy (W.setRow X #[I b,I 0,U 0,U (n:Int),U (m:Int),C]) (some X):=aj W X _;refine⟨h.rd.app c (λr e=>by cases e;omega),i,?_,h.xn,?_,h.yn,h.xy,⟨by show 0<_;omega,by show n<_;omega,by show m<_;omega,⟨rfl,.inl ⟨rfl,rfl⟩⟩,by show (-9223372036854775808:Int)<=0;omega,λy j=>by cases j⟩⟩;·exact aw h.x _
 rw [c.block Y (ag h.y) (λe=>by cases e;exact h.xy rfl)];exact h.y
end
def B9 (p:Nat) (o:fL) (p':Nat) (o':fL) (w0:World) (a:Option Addr) (len cap R:Nat) (gv:Nat) (tt:Bool) (W:World) (X Y k:Nat) (m:Int):Prop:=∀ (K:Act->World->Prop) (Q:Exit->Act->World->Prop) (d0:Option Addr) (e9:Nat) (w:World) (u9 u10 u11 u12 u13 u14 u15 u16 u17 u18 u19 u20 u21 u22 u23 u24 u25 u26 u27 u28 u29 u32 u33 u34 u35 u36 u37 u38 u39 u40 u41 u42 u43 u44 u45 u46 u47 u48 u49 u50 u51 u52 u53 u54 u55 u56 u57 u58 u59 u60 u61 u62 u63 u64 u65 u66 u67 u68 u69 u70 u71 u72 u73 u74 u75 u76 u77 u78 u79 u80 u81 u82 u83 u84 u85 u86 u87 u88 u89 u90 u91 u92 u93 u94 u95 u96 u97 u98 u99 u100 u101 u102 u103 u104 u105 u106 u107 u108 u109 u110 u111 u112 u113 u114 u115 u116 u117 u118 u119 u120 u121 u122 u123 u124 u125 u126 u127 u128 u129 u130 u131 u132 u133 u134 u135 u136 u137 u138 u139 u140 u141 u142 u143 u144 u145 u146 u147 u148:Value),Hid (Oq6 p w0 a len cap R W X Y o d0 e9 w) ->
 (∀ (v9 j4 g3 m1 e7 k8 f3 f9 i9 n6 i2 h4 e8 n2 o0 f8 m7 l6 h8 n0 i4 e6 n5 h3 g2 n8 n4 l5 g8 g6 g7 m4 i1 j5 g4 f4 m3 k5 l4 j3 l8 j2 i5 f5 k2 l7 j9 h9 n1 h6 n7 j0 j8 k3 f2 f7 g1 l2 k4 m9 j6 m6 n9 i0 j1 o1 i3 f6 j7 m2 i8 i7 h2 m8 g0 h5 i6 k9 m0 l9 l3 m5 h7 g9 n3 k7 h0 k6 g5 d5 i B u d8 a9 b2 a1 a3 e4 e0 b7 O d4 F a2 b4 V a0 t N d9 j b5 b8 e3 a5 e1 e e5 c7 a6 a7 b9 d6 L v d7 z b3 A a4 c9 c8 a8 b6 e2 b1 c6:Value) (d1:Option Addr) (h1:Nat) (w':World),Hid (Oq6 p' w0 a len cap R W X Y o' d1 h1 w')->K ⟨#[J R 0,I gv,.bool tt,undef,undef,undef,J Y 0,I k,J X 0,v9,j4,g3,m1,e7,k8,f3,f9,i9,n6,i2,h4,e8,n2,o0,f8,m7,l6,h8,n0,i4,I k,I m,e6,n5,h3,g2,n8,n4,l5,g8,g6,g7,m4,i1,j5,g4,f4,m3,k5,l4,j3,l8,j2,i5,f5,k2,l7,j9,h9,n1,h6,n7,j0,j8,k3,f2,f7,g1,l2,k4,m9,j6,m6,n9,i0,j1,o1,i3,f6,j7,m2,i8,i7,h2,m8,g0,h5,i6,k9,m0,l9,l3,m5,h7,g9,n3,k7,h0,k6,g5,d5,i,B,u,d8,a9,b2,a1,a3,e4,e0,b7,O,d4,F,a2,b4,V,a0,t,N,d9,j,b5,b8,e3,a5,e1,e,e5,c7,a6,a7,b9,d6,L,v,d7,z,b3,A,a4,c9,c8,a8,b6,e2,b1,c6],[]⟩ w')->Code.wp prog ((Tryz.f11.body.bind (iN 0)).getD .skip) (Exit.then K Q) ⟨#[J R 0,I gv,.bool tt,undef,undef,undef,J Y 0,I k,J X 0,u9,u10,u11,u12,u13,u14,u15,u16,u17,u18,u19,u20,u21,u22,u23,u24,u25,u26,u27,u28,u29,I k,I m,u32,u33,u34,u35,u36,u37,u38,u39,u40,u41,u42,u43,u44,u45,u46,u47,u48,u49,u50,u51,u52,u53,u54,u55,u56,u57,u58,u59,u60,u61,u62,u63,u64,u65,u66,u67,u68,u69,u70,u71,u72,u73,u74,u75,u76,u77,u78,u79,u80,u81,u82,u83,u84,u85,u86,u87,u88,u89,u90,u91,u92,u93,u94,u95,u96,u97,u98,u99,u100,u101,u102,u103,u104,u105,u106,u107,u108,u109,u110,u111,u112,u113,u114,u115,u116,u117,u118,u119,u120,u121,u122,u123,u124,u125,u126,u127,u128,u129,u130,u131,u132,u133,u134,u135,u136,u137,u138,u139,u140,u141,u142,u143,u144,u145,u146,u147,u148],[]⟩ w
theorem xU {o tt k m b} (g:∀ (w0:World) (a:Option Addr) (len cap:Nat),Cbq9 zs w0 a len cap->∀ (R c:Nat) (W:World) (X Y:Nat),B9 p o p' b w0 a len cap R c tt W X Y k m):∃ (p':Nat) (b:fL),∀ (w0:World) (a:Option Addr) (len cap:Nat),Cbq9 zs w0 a len cap->∀ (R c:Nat) (W:World) (X Y:Nat),B9 p o p' b w0 a len cap R c tt W X Y k m:=⟨p',b,g⟩
theorem EO (zs p o tt k) (m:Int) (x:m=0\/m=1\/m=2\/m=3):∃ (p':Nat) (F:fL),∀ (w0:World) (a:Option Addr) (len cap:Nat),Cbq9 zs w0 a len cap->∀ (R n:Nat) (W:World) (X Y:Nat),B9 p o p' F w0 a len cap R n tt W X Y k m:=by
 obtain⟨c,M,d,y,z⟩:=o6 zs p;have A:=H d;have B:=H u64_in;clear d;cases tt
 ·rcases x with rfl|rfl|rfl|rfl
  all_goals
   apply xU
   intro w0 a len cap l R n W X Y K Q G q w
   intros
   rename_i f b
   have s:=H l
   clear l
   have t:=H b
   clear b
   conv=>arg 2;whnf
   go_wp2_with fail
   refine (A w0 a len cap s R _ _ f.rd.at).mono ?_
   rintro e u ⟨rfl,r⟩
   have g:=H (f.next r)
   clear r f
   go_wp2_with (refine eG g.x ?_;have i:=H (g.row 0 c 0 y z Z Z);generalize u.setRow X _=L at i ⊢;clear g)
   apply t.out
   exact H (i)
 rcases x with rfl|rfl|rfl|rfl
 all_goals
  apply xU
  intro w0 a len cap l R n W X Y K Q G q w
  intros
  rename_i f b
  have s:=H l
  clear l
  have t:=H b
  clear b
  conv=>arg 2;whnf
  go_wp2_with fail
  refine (A w0 a len cap s R _ _ f.rd.at).mono ?_
  rintro e v ⟨rfl,r⟩
  have j:=H (f.next r)
  clear r f
  go_wp2_with (refine eG j.x ?_;have i:=H (j.row 0 c 0 y z Z Z);generalize v.setRow X _=L at i ⊢;clear j;obtain ⟨N,O,P,S,T,V⟩:=i.cells;have zf:=i.fr 3)
  apply t.out
  exact H (i.setA _ (by first|omega|exact (B _).1|(simp;done)) (by first|omega|exact (B _).2|(simp;done)))
theorem Ex (zs p o tt k) (m:Int) (O:m=4):∃ (p':Nat) (P:fL),∀ (w0:World) (a:Option Addr) (len cap:Nat),Cbq9 zs w0 a len cap->∀ (R v:Nat) (W:World) (X Y:Nat),B9 p o p' P w0 a len cap R v tt W X Y k m:=by
 obtain⟨c,u,g,A,B⟩:=o6 zs p;have F:=H g;have N:=H (cE zs u);have S:=dL zs u;generalize gH zs u=G at S N;generalize gS zs u=T at N;obtain⟨c2,p3,i,V,a0⟩:=qP zs T;have WD:=H i;have L:=H u64_in;clear g i;obtain rfl:=O;by_cases M:240<=k
 ·apply xU;intro w0 a len cap t R v W X Y K Q d0 x w;intros;rename_i j f;have s:=H t;clear t;have y:=H f;clear f
  conv=>arg 2;whnf
  go_wp2_with fail;refine (F w0 a len cap s R _ _ j.rd.at).mono ?_;rintro e z ⟨rfl,r⟩;have b:=H (j.next r);clear r j;go_wp2_with fail;refine (N w0 a len cap s R _ _ b.rd.at).mono ?_;rintro e l ⟨rfl,r⟩;have d:=H (b.next r);clear r b;go_wp2_with (refine eG d.x ?_;have n:=H (d.row 1 c ((G:Int)%4) A B Z Z);generalize l.setRow X _=Vx at n ⊢;clear d);refine (WD w0 a len cap s R _ _ n.rd.at).mono ?_;rintro e a1 ⟨rfl,r⟩;have q:=H (n.next r);clear r n;obtain⟨z0,z1,z2,z3,z4,z5⟩:=q.cells;have zf:=q.fr 4;go_wp2;apply y.out;exact H (q.setB _ (by first|omega|exact (L _).1|(simp;done)) (by first|omega|exact (L _).2|(simp;done)))
 apply xU;intro w0 a len cap t R v W X Y K Q d0 x w;intros;rename_i j f;have s:=H t;clear t;have y:=H f;clear f
 conv=>arg 2;whnf
 go_wp2_with fail;refine (F w0 a len cap s R _ _ j.rd.at).mono ?_;rintro e z ⟨rfl,r⟩;have b:=H (j.next r);clear r j;go_wp2_with fail;refine (N w0 a len cap s R _ _ b.rd.at).mono ?_;rintro e l ⟨rfl,r⟩;have d:=H (b.next r);clear r b;go_wp2_with (refine eG d.x ?_;have n:=H (d.row 1 c ((G:Int)%4) A B Z Z);generalize l.setRow X _=Vx at n ⊢;clear d);apply y.out;exact H (n)
theorem EJ (zs p o tt k) (m:Int) (f:m=7\/m=8\/m=9\/m=10\/m=11):∃ (p':Nat) (g:fL),∀ (w0:World) (a:Option Addr) (len cap:Nat),Cbq9 zs w0 a len cap->∀ (R d:Nat) (W:World) (X Y:Nat),B9 p o p' g w0 a len cap R d tt W X Y k m:=by
 rcases f with rfl|rfl|rfl|rfl|rfl
 all_goals
  apply xU
  intro w0 a len cap e R d W X Y K Q l i w
  intros
  rename_i c b
  have n:=H e
  clear e
  have j:=H b
  clear b
  conv=>arg 2;whnf
  obtain⟨q,r,s,t,u,v⟩:=c.cells
  have x:=c.fr 0
  go_wp2
  apply j.out
  exact H (c.setKd _)
theorem EM (zs p o tt k) (m:Int) (z:m=5\/m=6):∃ (p':Nat) (A:fL),∀ (w0:World) (a:Option Addr) (len cap:Nat),Cbq9 zs w0 a len cap->∀ (R j:Nat) (W:World) (X Y:Nat),B9 p o p' A w0 a len cap R j tt W X Y k m:=by
 obtain⟨c,N,b,O,P⟩:=o6 zs p;have B:=H b;have l:=H u64_in;clear b;rcases z with rfl|rfl
 all_goals
  apply xU
  intro w0 a len cap n R j W X Y K Q S F w
  intros
  rename_i i g
  have G:=H n
  clear n
  have L:=H g
  clear g
  conv=>arg 2;whnf
  obtain⟨q,s,t,u,v,x⟩:=i.cells
  have y:=i.fr 0
  go_wp2_with fail
  have d:=H (i.setKd 2)
  clear i q s t u v x y
  refine (B w0 a len cap G R _ _ d.rd.at).mono ?_
  rintro e M ⟨rfl,r⟩
  have f:=H (d.next r)
  clear r d
  obtain⟨q,s,t,u,v,x⟩:=f.cells
  have y:=f.fr 3
  go_wp2
  apply L.out
  exact H (f.setA _ (by first|omega|exact (l _).1|(simp;done)) (by first|omega|exact (l _).2|(simp;done)))
theorem EG (zs p o tt k) (m:Int) (G:m=12):∃ (p':Nat) (L:fL),∀ (w0:World) (a:Option Addr) (len cap:Nat),Cbq9 zs w0 a len cap->∀ (R z:Nat) (W:World) (X Y:Nat),B9 p o p' L w0 a len cap R z tt W X Y k m:=by
 have N:=H (cE zs p);have O:=dL zs p;generalize gH zs p=c at O N;generalize gS zs p=j at N;have M:=H (cE zs j);have y:=dL zs j;generalize gH zs j=c1 at y M;generalize gS zs j=p2 at M;have A:=H u64_in;obtain rfl:=G;apply xU;intro w0 a len cap B R z W X Y K Q d0 P w;intros;rename_i l i;have F:=H B;clear B;have S:=H i;clear i
 conv=>arg 2;whnf
 obtain⟨n,q,s,t,u,v⟩:=l.cells;have x:=l.fr 0;go_wp2_with fail;have d:=H (l.setKd 5);clear l n q s t u v x;refine (N w0 a len cap F R _ _ d.rd.at).mono ?_;rintro e T ⟨rfl,r⟩;have b:=H (d.next r);clear r d;obtain⟨n,q,s,t,u,v⟩:=b.cells;have x:=b.fr 3;go_wp2_with fail;have f:=H (b.setA (c:Int) Z Z);clear b n q s t u v x;refine (M w0 a len cap F R _ _ f.rd.at).mono ?_;rintro e V ⟨rfl,r⟩;have g:=H (f.next r);clear r f;obtain⟨n,q,s,t,u,v⟩:=g.cells;have x:=g.fr 2;go_wp2;apply S.out;exact H (g.setP _ (by first|omega|exact (A _).1|(simp;done)) (by first|omega|exact (A _).2|(simp;done)))
theorem EI (zs p o tt k) (m:Int) (hm:m=13\/m=14\/m=15):∃ (p':Nat) (o':fL),∀ (w0:World) (a:Option Addr) (len cap:Nat),Cbq9 zs w0 a len cap->∀ (R gv:Nat) (W:World) (X Y:Nat),B9 p o p' o' w0 a len cap R gv tt W X Y k m:=by
 have N:=H (cE zs p);have hc:=dL zs p;generalize gH zs p=c at hc N;generalize gS zs p=p1 at N;obtain⟨n,hn,en⟩:∃ n:Nat,n<=24/\(c:Int)%24+1=(n:Int):=⟨c%24+1,Z,Z⟩;obtain⟨ys,p2,a0,a1,P⟩:=yt zs p1 n Z;have BY:=H P;have a2:=H a1;have M:=H (cE zs p2);have a5:=dL zs p2;generalize gH zs p2=c1 at a5 M;generalize gS zs p2=p3 at M;have M2:=H (cE zs p3);have a6:=dL zs p3;generalize gH zs p3=c2 at a6 M2;generalize gS zs p3=p4 at M2;have M3:=H (cE zs p4);have a7:=dL zs p4;generalize gH zs p4=c3 at a7 M3;generalize gS zs p4=p5 at M3;have hu:=ui ((c2:Int)%12);have US:=H (λw=>gD ((c2:Int)%12) w);generalize us ((c2:Int)%12)=u at hu US;have HU:=H u64_in;have a3:=H en;have F:=H a0;clear P a1 en a0;by_cases b3:200<=k
 ·rcases hm with rfl|rfl|rfl
  all_goals
   apply xU
   intro w0 a len cap h0 R gv W X Y K Q d0 a8 w
   intros
   rename_i G q
   have L:=H h0
   clear h0
   have HK:=H q
   clear q
   conv=>arg 2;whnf
   obtain⟨s,t,x,y,z,A⟩:=G.cells
   have B:=G.fr 0
   go_wp2_with fail
   have i:=H (G.setKd 6)
   clear G s t x y z A B
   refine (N w0 a len cap L R _ _ i.rd.at).mono ?_
   rintro e a9 ⟨rfl,r⟩
   have d:=H (i.next r)
   clear r i
   have en:=a3.out
   go_wp2_with fail
   clear en
   refine (BY w0 a len cap L R _ _ d.rd.at).mono ?_
   rintro e b1 ⟨v,rfl,O,r⟩
   obtain⟨va,vb,vc,rfl⟩:=fW O
   have S:=(ik O).symm
   subst S
   have j:=gz d.rd.g.size O
   rw [<-F.out] at j
   have f:=H (d.next r)
   have HB:=H j
   clear r O j d
   obtain⟨s,t,x,y,z,A⟩:=f.cells
   have B:=f.fr 5
   go_wp2_with fail
   have g:=H (f.setD va vc ys HB a2)
   rw [F.out] at g
   clear f s t x y z A B
   refine (M w0 a len cap L R _ _ g.rd.at).mono ?_
   rintro e b2 ⟨rfl,r⟩
   have l:=H (g.next r)
   clear r g
   obtain⟨s,t,x,y,z,A⟩:=l.cells
   have B:=l.fr 2
   have Ox:=H (l.setP ((c1:Int)%20) Z Z)
   go_wp2_with fail
   clear s t x y z A B
   refine (M2 w0 a len cap L R _ _ Ox.rd.at).mono ?_
   rintro e b4 ⟨rfl,r⟩
   have a4:=H (Ox.next r)
   clear r Ox
   go_wp2_with fail
   refine (US _).mono ?_
   rintro e b5 ⟨rfl,b⟩
   have T:=H (a4.below b)
   clear b a4
   go_wp2_with fail
   refine (M3 w0 a len cap L R _ _ T.rd.at).mono ?_
   rintro e b6 ⟨rfl,r⟩
   have V:=H (T.next r)
   clear r T
   obtain⟨s,t,x,y,z,A⟩:=V.cells
   have B:=V.fr 2
   go_wp2
   apply HK.out
   exact H (V.setP _ (by first|omega|exact (HU _).1|(simp;done)) (by first|omega|exact (HU _).2|(simp;done)))
 rcases hm with rfl|rfl|rfl
 all_goals
  apply xU
  intro w0 a len cap h0 R gv W X Y K Q d0 a8 w
  intros
  rename_i G q
  have L:=H h0
  clear h0
  have HK:=H q
  clear q
  conv=>arg 2;whnf
  obtain⟨s,t,x,y,z,A⟩:=G.cells
  have B:=G.fr 0
  go_wp2_with fail
  have i:=H (G.setKd 6)
  clear G s t x y z A B
  refine (N w0 a len cap L R _ _ i.rd.at).mono ?_
  rintro e a9 ⟨rfl,r⟩
  have d:=H (i.next r)
  clear r i
  have en:=a3.out
  go_wp2_with fail
  clear en
  refine (BY w0 a len cap L R _ _ d.rd.at).mono ?_
  rintro e b1 ⟨v,rfl,O,r⟩
  obtain⟨va,vb,vc,rfl⟩:=fW O
  have S:=(ik O).symm
  subst S
  have j:=gz d.rd.g.size O
  rw [<-F.out] at j
  have f:=H (d.next r)
  have HB:=H j
  clear r O j d
  obtain⟨s,t,x,y,z,A⟩:=f.cells
  have B:=f.fr 5
  go_wp2_with fail
  have g:=H (f.setD va vc ys HB a2)
  rw [F.out] at g
  clear f s t x y z A B
  refine (M w0 a len cap L R _ _ g.rd.at).mono ?_
  rintro e b2 ⟨rfl,r⟩
  have l:=H (g.next r)
  clear r g
  obtain⟨s,t,x,y,z,A⟩:=l.cells
  have B:=l.fr 2
  have Ox:=H (l.setP ((c1:Int)%20) Z Z)
  go_wp2
  apply HK.out
  exact H (Ox)
def B8 (p:Nat) (o:fL) (p':Nat) (o':fL) (w0:World) (a:Option Addr) (len cap R:Nat) (gv:Nat) (tt:Bool) (W:World) (X Y k:Nat):Prop:=∀ (K:Act->World->Prop) (a2:Ending->World->Prop) (d0:Option Addr) (f2:Nat) (w:World) (u9 u10 u11 u12 u13 u14 u15 u16 u17 u18 u19 u20 u21 u22 u23 u24 u25 u26 u27 u28 u29 u30 u31 u32 u33 u34 u35 u36 u37 u38 u39 u40 u41 u42 u43 u44 u45 u46 u47 u48 u49 u50 u51 u52 u53 u54 u55 u56 u57 u58 u59 u60 u61 u62 u63 u64 u65 u66 u67 u68 u69 u70 u71 u72 u73 u74 u75 u76 u77 u78 u79 u80 u81 u82 u83 u84 u85 u86 u87 u88 u89 u90 u91 u92 u93 u94 u95 u96 u97 u98 u99 u100 u101 u102 u103 u104 u105 u106 u107 u108 u109 u110 u111 u112 u113 u114 u116 u117 u118 u119 u120 u121 u122 u123 u124 u125 u126 u127 u128 u129 u130 u131 u132 u133 u134 u135 u136 u137 u138 u139 u140 u141 u142 u143 u144 u145 u146 u147 u148:Value),Hid (Oq6 p w0 a len cap R W X Y o d0 f2 w) ->
 (∀ (v9 j6 g4 m4 e8 l3 f4 g0 j1 n9 i4 h6 e9 n5 o3 f9 n0 l9 i0 n3 i6 h0 j9 e7 n8 h5 g3 o1 n7 l8 g9 g7 g8 m7 i3 j7 g5 f5 m6 k8 l7 j5 m1 j4 i7 f6 k5 m0 k4 i1 n4 h8 o0 j2 k3 k6 f3 f8 g2 l5 k7 n2 j8 m9 o2 i2 j3 o4 i5 f7 k2 m5 j0 i9 h4 n1 g1 h7 i8 l4 m3 m2 l6 m8 h9 h1 n6 l2 h2 k9 g6 d6 i B u d9 b1 b3 a1 a4 e5 e1 b8 O d5 F a3 b5 V a0 t N e0 j b6 b9 e4 a6 e2 e e6 c8 a7 a8 c6 d7 L v d8 z b4 A a5 d4 c9 a9 b7 e3 b2 c7:Value) (d1:Option Addr) (h3:Nat) (w':World),Hid (Oq6 p' w0 a len cap R W X Y o' d1 h3 w')->K ⟨#[J R 0,I gv,.bool tt,undef,undef,undef,J Y 0,I k,J X 0,v9,j6,g4,m4,e8,l3,f4,g0,j1,n9,i4,h6,e9,n5,o3,f9,n0,l9,i0,n3,i6,h0,j9,e7,n8,h5,g3,o1,n7,l8,g9,g7,g8,m7,i3,j7,g5,f5,m6,k8,l7,j5,m1,j4,i7,f6,k5,m0,k4,i1,n4,h8,o0,j2,k3,k6,f3,f8,g2,l5,k7,n2,j8,m9,o2,i2,j3,o4,i5,f7,k2,m5,j0,i9,h4,n1,g1,h7,i8,l4,m3,m2,l6,m8,h9,h1,n6,l2,h2,k9,g6,d6,i,B,u,d9,b1,b3,a1,a4,e5,e1,b8,O,d5,F,a3,b5,V,a0,t,N,e0,j,b6,b9,e4,a6,e2,e,e6,c8,a7,a8,c6,d7,L,v,d8,z,b4,A,a5,d4,c9,a9,b7,e3,b2,c7],[]⟩ w')->Code.wp prog ((Tryz.f11.body.bind (iN 1)).getD .skip) (Exit.then K (bodyPost prog Tryz.f11 a2)) ⟨#[J R 0,I gv,.bool tt,undef,undef,undef,J Y 0,I k,J X 0,u9,u10,u11,u12,u13,u14,u15,u16,u17,u18,u19,u20,u21,u22,u23,u24,u25,u26,u27,u28,u29,u30,u31,u32,u33,u34,u35,u36,u37,u38,u39,u40,u41,u42,u43,u44,u45,u46,u47,u48,u49,u50,u51,u52,u53,u54,u55,u56,u57,u58,u59,u60,u61,u62,u63,u64,u65,u66,u67,u68,u69,u70,u71,u72,u73,u74,u75,u76,u77,u78,u79,u80,u81,u82,u83,u84,u85,u86,u87,u88,u89,u90,u91,u92,u93,u94,u95,u96,u97,u98,u99,u100,u101,u102,u103,u104,u105,u106,u107,u108,u109,u110,u111,u112,u113,u114,I k,u116,u117,u118,u119,u120,u121,u122,u123,u124,u125,u126,u127,u128,u129,u130,u131,u132,u133,u134,u135,u136,u137,u138,u139,u140,u141,u142,u143,u144,u145,u146,u147,u148],[]⟩ w
theorem Dd {o tt k gv b} (g:∀ (w0:World) (a:Option Addr) (len cap:Nat),Cbq9 zs w0 a len cap->∀ (R:Nat) (W:World) (X Y:Nat),B8 p o p' b w0 a len cap R gv tt W X Y k):∃ (p':Nat) (b:fL),∀ (w0:World) (a:Option Addr) (len cap:Nat),Cbq9 zs w0 a len cap->∀ (R:Nat) (W:World) (X Y:Nat),B8 p o p' b w0 a len cap R gv tt W X Y k:=⟨p',b,g⟩
theorem CI (zs p o tt) (k F:Nat) (hk:k<=255) (O:F<=400):∃ (p':Nat) (P:fL),∀ (w0:World) (a:Option Addr) (len cap:Nat),Cbq9 zs w0 a len cap->∀ (R:Nat) (W:World) (X Y:Nat),B8 p o p' P w0 a len cap R F tt W X Y k:=by
 have N:=H (cE zs p);have S:=dL zs p;generalize gH zs p=c at S N;generalize gS zs p=p1 at N;obtain⟨G,L,M,T,V⟩:=tE zs p;have AD:=H M;have l:=H u64_in;clear M;have hm:k=255\/k=254\/k=253\/k=252\/k=251\/k<251:=Z;rcases hm with rfl|rfl|rfl|rfl|rfl|a0
 ·apply Dd
  focus
   intro w0 a len cap f R W X Y K Q x g w
   intros
   rename_i d b
   have j:=H f
   clear f
   have i:=H b
   clear b
   conv=>arg 2;whnf
   obtain⟨m,n,q,s,t,u⟩:=d.cells
   have v:=d.fr 2
   go_wp2_with fail
   go_region_with (first|(go_at_call 10;refine (N w0 a len cap j R _ _ d.drew.rd.at).mono ?_;rintro e Vq ⟨rfl,r⟩;have y:=H (d.drew.next r);obtain ⟨y0,y1,y2,y3,y4,y5⟩:=y.cells;have yf:=y.fr 2;clear r))
   all_goals (go_wp2;apply i.out;exact H (y.setP _ (by first|omega|exact (l _).1|(simp;done)) (by first|omega|exact (l _).2|(simp;done))))
 ·apply Dd;intro w0 a len cap f R W X Y K Q x g w;intros;rename_i d b;have j:=H f;clear f;have i:=H b;clear b
  conv=>arg 2;whnf
  obtain⟨m,n,q,s,t,u⟩:=d.cells;have v:=d.fr 1;go_wp2_with fail;have z:=H (d.setRef 0 ar);clear d m n q s t u v;refine (AD w0 a len cap j R _ _ z.rd.at).mono ?_;rintro e V6 ⟨rfl,r⟩;have A:=H (z.next r);clear r z;obtain⟨m,n,q,s,t,u⟩:=A.cells;have v:=A.fr 2;go_wp2;apply i.out;exact H (A.setP _ (by first|omega|exact (l _).1|(simp;done)) (by first|omega|exact (l _).2|(simp;done)))
 ·apply Dd;intro w0 a len cap f R W X Y K Q x g w;intros;rename_i d b;have j:=H f;clear f;have i:=H b;clear b
  conv=>arg 2;whnf
  obtain⟨m,n,q,s,t,u⟩:=d.cells;have v:=d.fr 0;go_wp2;apply i.out;exact H (d.setKd 7)
 ·apply Dd;intro w0 a len cap f R W X Y K Q x g w;intros;rename_i d b;have j:=H f;clear f;have i:=H b;clear b
  conv=>arg 2;whnf
  obtain⟨m,n,q,s,t,u⟩:=d.cells;have v:=d.fr 1;go_wp2;apply i.out;exact H (d.setRef _ (by first|omega|exact sD _|(rw [Hh];omega)|(simp;done)))
 ·apply Dd;intro w0 a len cap f R W X Y K Q x g w;intros;rename_i d b;have j:=H f;clear f;have i:=H b;clear b
  conv=>arg 2;whnf
  go_wp2_with fail;refine (N w0 a len cap j R _ _ d.rd.at).mono ?_;rintro e V7 ⟨rfl,r⟩;have B:=H (d.next r);clear r d;obtain⟨m,n,q,s,t,u⟩:=B.cells;have v:=B.fr 3;go_wp2;apply i.out;exact H (B.setA _ (by first|omega|exact (l _).1|(simp;done)) (by first|omega|exact (l _).2|(simp;done)))
 apply Dd;intro w0 a len cap f R W X Y K Q x g w;intros;rename_i d b;have j:=H f;clear f;have i:=H b;clear b
 conv=>arg 2;whnf
 have g1:((k:Int)==255)=false:=bG;have g2:((k:Int)==254)=false:=bG;have g3:((k:Int)==253)=false:=bG;have g4:((k:Int)==252)=false:=bG;have g5:((k:Int)==251)=false:=bG;go_wp2;apply i.out;exact d
theorem Bh (zs p o tt k) (m:Int) (c:0<=m/\m<16):∃ (p':Nat) (b:fL),∀ (w0:World) (a:Option Addr) (len cap:Nat),Cbq9 zs w0 a len cap->∀ (R c:Nat) (W:World) (X Y:Nat),B9 p o p' b w0 a len cap R c tt W X Y k m:=by
 have b:(m=0\/m=1\/m=2\/m=3)\/(m=4)\/(m=5\/m=6)\/(m=7\/m=8\/m=9\/m=10\/m=11)\/(m=12)\/(m=13\/m=14\/m=15):=Z;rcases b with b|b|b|b|b|b;·exact EO zs p o tt k m b
 ·exact Ex zs p o tt k m b
 ·exact EM zs p o tt k m b
 ·exact EJ zs p o tt k m b
 ·exact EG zs p o tt k m b
 exact EI zs p o tt k m b
theorem EH (zs p) (c:Nat) (z:c<=400) (A:Bool):∃ (o:fL) (p':Nat),∀ (w0:World) (a:Option Addr) (len cap:Nat),Cbq9 zs w0 a len cap->∀ (R:Nat) (W:World),Rp p w0 a len cap R W W ->
  Calls prog 11 #[J R 0,I c,.bool A] W λe W'=>∃ d dc,e=.returned (.agg (fH ⟨o,d,dc⟩).toArray)/\Od6 W.heap.size ⟨o,d,dc⟩ W'/\Rp p' w0 a len cap R W W':=by
 have N:=H (cE zs p);have hk:=dL zs p;generalize gH zs p=k at hk N;generalize gS zs p=m at N;have v:=H (cE zs m);have B:=dL zs m;generalize gH zs m=c3 at B v;generalize gS zs m=t at v;have F:=H (cE zs t);have G:=dL zs t;generalize gH zs t=c4 at G F;generalize gS zs t=p3 at F;obtain⟨n,q,HA⟩:∃ (n:fL) (q:Nat),Hid ((c=0/\n=⟨0,0,0,0,0,[]⟩/\q=m)\/(0<c/\((k:Int)%3==0)=false/\n=⟨0,wrap64 ((c:Int)-(c3:Int)%(c:Int)),0,0,0,[]⟩/\q=t)\/(0<c/\((k:Int)%3==0)=true/\n=⟨0,wrap64 ((c4:Int)%(c:Int)+1),0,0,0,[]⟩/\q=p3)):=by
  by_cases h1:c=0;·exact⟨_,_,H (.inl ⟨h1,rfl,rfl⟩)⟩
  cases h2:((k:Int)%3==0);·exact⟨_,_,H (.inr (.inl ⟨Z,rfl,rfl,rfl⟩))⟩
  exact⟨_,_,H (.inr (.inr ⟨Z,rfl,rfl,rfl⟩))⟩
 obtain⟨q2,o2,B1⟩:=Bh zs q n A k ((k:Int)%16) Z;obtain⟨q3,o3,B2⟩:=CI zs q2 o2 A k c hk z;have K:=H B1;have L:=H B2;clear B1 B2;refine⟨o3,q3,?_⟩;intro w0 a len cap h0 R W M;have s:=H h0;have RN:=H M.lt;have w:=H (M.below ((Fu _ _).alloc (Fv _) (.cells #[I 0,I 0,U 0,U 0,U 0,C] 42)));have x:=H (ao W (.cells #[I 0,I 0,U 0,U 0,U 0,C] 42));clear h0 M;go_enter func11,ntmps11;go_wp2_with fail;generalize W.alloc (.cells #[I 0,I 0,U 0,U 0,U 0,C] 42)=V1 at w x ⊢;refine (N w0 a len cap s R _ _ w.at).mono ?_;rintro e l ⟨rfl,O⟩;have P:=H (w.of O);have Q:=H ((O.g.block _ (ag x) (λe=>by cases e;have:=RN.out;omega)).trans x);clear O w x;have f:=H (show Oq6 m w0 a len cap R W l.heap.size W.heap.size ⟨0,0,0,0,0,[]⟩ none 0 (l.alloc (.cells #[I 0,I 0,U 0,U 0,U 0,C] 42)) from by
  have b:=(Fu l.heap.size l).alloc (Fv _) (.cells #[I 0,I 0,U 0,U 0,U 0,C] 42);have hl:=ag Q.out;exact⟨P.below b,RN,ao l _,P.g.size,by rw [b.block _ hl];exact Q,Fv _,Z,⟨ar,ar,ar,⟨rfl,.inl ⟨rfl,rfl⟩⟩,ar,λy hy=>by cases hy⟩⟩)
 clear P Q;go_upto_if 13 with fail
 generalize (l.alloc (.cells #[I 0,I 0,U 0,U 0,U 0,C] 42))=V3 at f ⊢;generalize l.heap.size=X at f ⊢;generalize a0:W.heap.size=Y at f ⊢;go_cut [13] (λ_ w'=>Hid (Oq6 q w0 a len cap R W X Y n none 0 w'));case first =>
  rcases HA.out with ⟨S,rfl,rfl⟩|⟨S,h3,rfl,rfl⟩|⟨S,h3,rfl,rfl⟩
  ·subst S;go_wp2;go_meet;case rel=>exact f
  ·have T:((c:Int)==0)=false:=bG;go_wp2_with fail;refine (v w0 a len cap s R _ _ f.rd.at).mono ?_;rintro e V3 ⟨rfl,r⟩;have i:=H (f.next r);clear r f;obtain⟨V,z1,z2,z3,z4,z5⟩:=i.cells;have zf:=i.fr 1;go_wp2;go_meet;case rel=>exact H (i.setRef _ (sD _))
  have T:((c:Int)==0)=false:=bG;go_wp2_with fail;refine (v w0 a len cap s R _ _ f.rd.at).mono ?_;rintro e V3 ⟨rfl,r⟩;have i:=H (f.next r);clear r f;have Ox:=H (i.setRef (wrap64 ((c:Int)-(c3:Int)%(c:Int))) (sD _));obtain⟨V,z1,z2,z3,z4,z5⟩:=i.cells;have zf:=i.fr 1;go_wp2_with fail;clear V z1 z2 z3 z4 z5 zf;refine (F w0 a len cap s R _ _ Ox.rd.at).mono ?_;rintro e V4 ⟨rfl,r⟩;have O4:=H (Ox.next r);clear r Ox;obtain⟨V,z1,z2,z3,z4,z5⟩:=O4.cells;have zf:=O4.fr 1;go_wp2;go_meet;case rel=>exact H (O4.setRef _ (by first|exact sD _|(rw [Hh];omega)|omega))
 case rest =>
  have i:=hcut;clear f;go_upto_block 0 with fail
  apply K w0 a len cap s R c W X Y;·exact i
  clear i;intros;rename_i d2 a1 w2 Oz;go_upto_block 1 with fail
  apply L w0 a len cap s R W X Y;·exact Oz
  clear Oz;intros;rename_i d3 u w3 j;go_wp2_with (first|(refine Gt rfl 42 _ rfl _ rfl _ _ _ _ j.x underlying42 rfl E ?_)|(refine Gf rfl 42 _ _ rfl _ _ rfl rfl 42 _ j.y E rfl (by simp [fH,Value.oneCell']) ?_));refine fM (aw j.y _) underlying42 ?_;have g:=aj w3 Y (fH ⟨o3,d3,u⟩).toArray;have hy:=j.yn;have hr:=j.rn;have od:=j.od.kept g (eD j.od.d j.y ar);exact⟨d3,u,rfl,od,j.rd.app g (λr e=>by cases e;omega)⟩
structure D9q9 (p:Nat) (w:World) (a:Option Addr) (len cap R Cx Y:Nat) (c:Cd) (v:Value) (ops:List df) (W:World):Prop where
 rd:Rp p w a len cap R w W
 c1:R<Cx
 y1:w.heap.size<=Y
 yr:Y<R
 cb:W.heap[Cx]?=some (.cells (pQ c).toArray 26)
 yb:W.heap[Y]?=some (.cells #[I 0,I 0,I 0,I 0,U 0,C] 26)
 ok:Ok4 (R+1) c W
 row:W.ownsRow (R+1) 42 6 v ops.length (iT ops)
 dat:∀ q∈ops,Od6 (R+1) q W
section
variable {p:Nat} {w:World} {a:Option Addr} {len cap R Cx Y:Nat} {c:Cd} {v:Value} {ops:List df} {W:World}
theorem D9q9.next (h:D9q9 p w a len cap R Cx Y c v ops W) (b:Rp p' w a len cap R W W'):D9q9 p' w a len cap R Cx Y c v ops W':=by
 have f:=h.c1;have g:=h.yr;refine⟨h.rd.of b,f,h.y1,g,?_,?_,h.ok.kept b.g (λe=>by have:=(h.ok.d.lt R e).1;omega),h.row.kept b.g (.inr λe=>by have:=(h.row.lt R e).1;omega),λq d=>(h.dat q d).kept b.g (λe=>by have:=((h.dat q d).d.lt R e).1;omega)⟩;·rw [b.g.block Cx (ag h.cb) (λe=>by cases e;omega)];exact h.cb
 rw [b.g.block Y (ag h.yb) (λe=>by cases e;omega)];exact h.yb
theorem D9q9.below (h:D9q9 p w a len cap R Cx Y c v ops W) {W'} (b:D W W'):D9q9 p w a len cap R Cx Y c v ops W':=h.next (h.rd.at.below b)
theorem D9q9.app (h:D9q9 p w a len cap R Cx Y c v ops W) (K:ops.length<=1000) (q) (f:Od6 (R+1) q W):∃ k g,
  (Builtin.append_ #[27,27] 27 #[v,Vl W.heap.size 1 1]).run prog (W.alloc (.cells (fH q).toArray 42))=.ok k g/\D9q9 p w a len cap R Cx Y c k (ops++[q]) g:=by
 obtain⟨t,l,m,n,o⟩:=G0 yK;have y:=(Fu W.heap.size W).alloc (Fv _) (.cells (fH q).toArray 42);have b:=h.below y;have z:R+1<=(W.alloc (.cells (fH q).toArray 42)).heap.size:=by have:=b.rd.lt;omega
 obtain⟨k,g,A,B,i,_⟩:=run_append_own_at (P:=prog) (w:=W.alloc (.cells (fH q).toArray 42)) (R+1) 27 27 42 t _ 6 64 underlying27 l m n o rfl Z _ _ _ b.row ⟨W.heap.size,0,none⟩ 1 1 (fH q) rfl (vZ _ _ _) (by intro u d;simp [fH] at d;rcases d with rfl|rfl|rfl|rfl|rfl|rfl <;> rfl) (by unfold maxLen;omega) Z z;have L:=h.c1;have F:=h.yr;have G:∀ r,v.ownBlock=some r->w.heap.size<=r/\R<r:=λr e=>by have:=(h.row.lt r e).1;have:=h.y1;omega
 have s:Od6 (R+1) q (W.alloc (.cells (fH q).toArray 42)):=⟨f.p,f.a,f.b,f.d.alloc _,f.r,f.y⟩;refine⟨k,g,A,⟨b.rd.app i G,h.c1,h.y1,h.yr,?_,?_,⟨h.ok.k0,h.ok.k1,h.ok.dw,b.ok.d.kept i (t8 b.ok.d b.row ar)⟩,by rw [FC,qT];exact B,λx d=>?_⟩⟩;·rw [i.block Cx (ag b.cb) (λe=>eD b.row b.cb ar e.symm)];exact b.cb
 ·rw [i.block Y (ag b.yb) (λe=>eD b.row b.yb ar e.symm)];exact b.yb
 have j:∀ x,Od6 (R+1) x (W.alloc (.cells (fH q).toArray 42))->Od6 (R+1) x g:=λx d=>⟨d.p,d.a,d.b,d.d.kept i (t8 d.d b.row ar),d.r,d.y⟩
 rcases F8.1 d with d|d;·exact j x (b.dat x d)
 obtain rfl:=List.mem_singleton.1 d;exact j _ s
end
theorem uY:(prog.info? 5).map (λi=>(i.zero,i.size,i.bytes))=some (some (.int .u8 0),1,1):=E
theorem wT:(prog.info? 4).map (λi=>(i.zero,i.size,i.bytes))=some (some (.bool false),1,1):=E
structure E4 (w2:World) (b n gb gk F:Nat) (W:World):Prop where
 bel:D w2 W
 rbq9:RowV W gb 5 (List.replicate n (.int .u8 0))
 rkq9:RowV W gk 4 (List.replicate n (.bool false))
 bx:W.heap[F]?=some (.cells #[U b,Vl gb n n,Vl gk n n] 85)
 nb:w2.heap.size<=gb
 nkq9:w2.heap.size<=gk
 nxq9:w2.heap.size<=F
theorem nr {z:Value} {n:Nat} {e:TypeId} (a:W.heap[g]?=some (.cells (madeCells #[z] n) e)):RowV W g e (List.replicate n z):=by
 have h:(madeCells #[z] n).toList=List.replicate n z:=by simp [Ii]
 refine⟨_,a,?_,λi b=>?_⟩;·rw [Gc,<-Array.length_toList,h,Gc];exact Fv _
 rw [<-Gg,h]
theorem D1 (W:World) (x y z:Array Value) (s t u:TypeId) (V:World) (b:(((W.alloc (.cells x s)).alloc (.cells y t)).alloc (.cells z u)).drew=V):D W V/\V.heap[W.heap.size]?=some (.cells x s)/\V.heap[W.heap.size+1]?=some (.cells y t)/\V.heap[W.heap.size+1+1]?=some (.cells z u):=by
 subst b;have e:=ao ((W.alloc (.cells x s)).alloc (.cells y t)) (.cells z u);have a:=ao (W.alloc (.cells x s)) (.cells y t);have c:=ao W (.cells x s);rw [aO] at a;rw [aO,aO] at e;exact⟨((((Fu _ _).alloc (Fv _) _).alloc (by rw [aO];omega) _).alloc (by rw [aO,aO];omega) _).drew,(eg _ _ _ (by rw [aO,aO];omega)).trans ((eg _ _ _ (by rw [aO];omega)).trans c),(eg _ _ _ (by rw [aO,aO];omega)).trans a,e⟩
theorem RowV.at9 {e l} (h:RowV W g e l) {i:Nat} (a:i<l.length):∃ v,W.cell? ⟨g,i,none⟩=some v/\W.frozen? ⟨g,i,none⟩=false:=⟨_,(h.cell i a).trans (Fy a),h.free i⟩
theorem Bt (W:World) (a b:Array Value) (s t:TypeId) {V:World} (c:(W.alloc (.cells a s)).alloc (.cells b t)=V):D W V/\V.heap[W.heap.size]?=some (.cells a s)/\V.heap[W.heap.size+1]?=some (.cells b t):=by
 subst c;have e:=ao (W.alloc (.cells a s)) (.cells b t);rw [aO] at e;exact⟨((Fu _ _).alloc (Fv _) _).alloc (by rw [aO];omega) _,(eg _ _ _ (by rw [aO];omega)).trans (ao W _),e⟩
theorem pL {V:World} {a:Array Value} {t:TypeId} {f:Nat×Nat} (h:V.heap[g]?=some (.cells a t f)) (i:Nat) {u:Value} (b:a.toList[i]?=some u):V.cell? ⟨g,i,none⟩=some u:=by
 rw [GT _ _ _ _ _ _ h,<-Gg];exact b
end
end Go.Proofs.YtibblbenmpcplaaGreatDoor
