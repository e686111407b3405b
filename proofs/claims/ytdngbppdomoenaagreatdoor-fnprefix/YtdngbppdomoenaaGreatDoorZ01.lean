import Derived.Deep.AppendSrc
import Derived.Maps.RangeWalk
import Derived.Test.YtdngbppdomoenaaGreatDoorZ00
import Derived.Test.YtdngbppdomoenaaGreatDoorN15
import Derived.Test.YtdngbppdomoenaaGreatDoorN24
set_option linter.unusedVariables false
set_option linter.unusedSimpArgs false
set_option maxRecDepth 20000
set_option maxHeartbeats 8000000
namespace Go.Proofs.YtdngbppdomoenaaGreatDoor
open Go.Proofs.Tryz
variable {zs:List Int} {p':Nat}
section
open Go.RowKit Go.Shelf Go.Maps
def Rd1 (k:IntKind) (w:World) (u:Value) (zs:List Int):Prop:=∃ a c,u=.slice a zs.length c/\∀ i,i<zs.length->∃ g,a=some ⟨g,0,none⟩/\w.cell? ⟨g,i,none⟩=some (.int k (zs[i]?.getD 0))
theorem Rd1.below {k w W u} (h:Rd1 k w u zs) (b:D w W):Rd1 k W u zs:=by
 obtain⟨a,c,e,h⟩:=h;exact⟨a,c,e,λi d=>by obtain ⟨g,f,j⟩:=h i d;exact⟨g,f,ad b j⟩⟩
theorem Rd1.sl {k w u} (h:Rd1 k w u zs):∃ a b c,u=.slice a b c:=by obtain ⟨a,c,e,_⟩:=h;exact⟨_,_,_,e⟩
theorem p8 (u1 u2:Value) (zs:List Int) (w:World) (f:Rd1 .i64 w u1 zs) (g:Rd1 .i64 w u2 zs) (k:zs.length<=1048576):Calls prog 22 #[u1,u2] w λe l=>e=.returned (.bool true)/\∃ m,l=w.drewN m:=by
 obtain⟨q,r,rfl,b⟩:=f;obtain⟨s,t,rfl,c⟩:=g;have o:=H b;have p:=H c;obtain⟨n,a⟩:∃ n,zs.length=n:=⟨_,rfl⟩;rw [a] at k ⊢;have d:=H a;clear b c a;go_enter func22,ntmps22;go_wp2_with fail;go_loopw [13] (λi wr=>∃ j m:Nat,j<=n/\i=I j/\Hid (wr=w.drewN m)) (λi _=>n-(intOf i).toNat);case atStart=>exact ⟨0,0,FH _,rfl,H (World.drewN_zero w).symm⟩
 case round =>
  obtain⟨j,m,u,rfl,a⟩:=hrel;obtain rfl:=a.out;clear a;by_cases a:j<n
  ·obtain⟨v,rfl,b⟩:=o.out j (by rw [d.out];exact a);obtain⟨x,rfl,c⟩:=p.out j (by rw [d.out];exact a);generalize zs[j]?.getD 0=z at b c;(go_upto_region 6 with fail);go_quiet (fail);go_wp2;go_roundw;(case rel=>exact ⟨j+1,m+nq,Z,aY,H rfl⟩);case measure=>simp [intOf];omega
  go_wp2;go_ret;exact⟨rfl,m,rfl⟩
theorem tx (u1 u2:Value) (zs:List Int) (w:World) (f:Rd1 .u64 w u1 zs) (g:Rd1 .u64 w u2 zs) (k:zs.length<=1048576):Calls prog 47 #[u1,u2] w λe l=>e=.returned (.bool true)/\∃ m,l=w.drewN m:=by
 obtain⟨q,r,rfl,b⟩:=f;obtain⟨s,t,rfl,c⟩:=g;have o:=H b;have p:=H c;obtain⟨n,a⟩:∃ n,zs.length=n:=⟨_,rfl⟩;rw [a] at k ⊢;have d:=H a;clear b c a;go_enter func47,ntmps47;go_wp2_with fail;go_loopw [13] (λi wr=>∃ j m:Nat,j<=n/\i=I j/\Hid (wr=w.drewN m)) (λi _=>n-(intOf i).toNat);case atStart=>exact ⟨0,0,FH _,rfl,H (World.drewN_zero w).symm⟩
 case round =>
  obtain⟨j,m,u,rfl,a⟩:=hrel;obtain rfl:=a.out;clear a;by_cases a:j<n
  ·obtain⟨v,rfl,b⟩:=o.out j (by rw [d.out];exact a);obtain⟨x,rfl,c⟩:=p.out j (by rw [d.out];exact a);generalize zs[j]?.getD 0=z at b c;(go_upto_region 6 with fail);go_quiet (fail);go_wp2;go_roundw;(case rel=>exact ⟨j+1,m+nq,Z,aY,H rfl⟩);case measure=>simp [intOf];omega
  go_wp2;go_ret;exact⟨rfl,m,rfl⟩
end
section
open Go.ChangeShapes Go.WideShapes Go.ChangeAt Go.RowKit Go.Shelf Go.Maps
theorem sH (zs p):∃ (c:Int) (p':Nat),sT zs 44 p (U c) p'/\0<=c/\c<=18446744073709551615:=by
 have e:=de zs p;generalize gJ zs p=p1 at e;have f:=de zs p1;generalize gJ zs p1=p2 at f;have g:=de zs p2;generalize gJ zs p2=p3 at g;have i:=de zs p3;generalize gJ zs p3=p4 at i;have l:=de zs p4;obtain⟨a0,a9,b,a4,a5⟩:=pq zs p4;have hk:=d_ zs p;have hc:=d_ zs p1;have hs:=d_ zs p2;have hn:=d_ zs p3;have hd:=d_ zs p4;generalize gH zs p=k at *;generalize gH zs p1=c at *;generalize gH zs p2=s at *;generalize gH zs p3=n at *;generalize gH zs p4=d at *;generalize gJ zs p4=p5 at *;have P:=H e;have Q:=H f;have S:=H g;have T:=H i;have G5:=H l;have G6:=H b;have HS:=H (λj=>Cs a0 j a4 a5);have a1:=H gl;have a2:=H gn;have F:=H u64_in;clear e f g i l b;have O:(0:Int)<=(c:Int)%12/\(c:Int)%12<12:=Z;have a6:(0:Int)<=(s:Int)%6/\(s:Int)%6<6:=Z;have b:=kh O;have hz:=eJ O;have hp:=fy O;have a7:4<=sl ((c:Int)%12)/\sl ((c:Int)%12)<=64:=⟨b.1,b.2.1⟩;have A:=H (λw=>jO ((c:Int)%12) ((s:Int)%6) Z Z w);have a3:=H (λw=>em ((c:Int)%12) w);have V:=H (λw=>dx ((c:Int)%12) w);have X:=H (λw=>gM ((c:Int)%12) w);clear b;have b:∃ Y,Y=(c:Int)%12:=⟨_,rfl⟩;obtain⟨Y,b⟩:=b;obtain⟨M,e⟩:∃ M,M=(s:Int)%6:=⟨_,rfl⟩;rw [<-b] at O a7 hz hp A a3 V X;rw [<-e] at a6 A;generalize rs Y+M*(pg Y+1)=L at *;generalize pg Y=pp at *;generalize sz Y=z at *;generalize sl Y=l at *;have a8:(k:Int)%8=0\/(k:Int)%8=1\/(k:Int)%8=2\/(k:Int)%8=3\/(k:Int)%8=4\/(k:Int)%8=5\/(k:Int)%8=6\/(k:Int)%8=7:=Z;have B:=H (IT b e);clear b e;rcases a8 with e0|e0|e0|e0|e0|e0|e0|e0
 ·apply qG;·intro w0 a len cap f R b0 W g;have i:=H g;have b:=H f;clear f g;go_enter func44,ntmps44;go_wp2_with fail;refine (P w0 a len cap b R b0 _ i).mono ?_;rintro e w1 ⟨rfl,j⟩;have m:=H j;clear j i;go_wp2_with fail;refine (Q w0 a len cap b R b0 _ m).mono ?_;rintro e w2 ⟨rfl,o⟩;have q:=H o;clear o m;go_wp2_with fail;refine (S w0 a len cap b R b0 _ q).mono ?_;rintro e w3 ⟨rfl,r⟩;have t:=H r;clear r q;go_wp2_with fail;rw [<-B.1,<-B.2];refine (A _).mono ?_;rintro e w4 ⟨rfl,u⟩;have v:=H (t.below u);clear u t;go_wp2_with fail;refine (T w0 a len cap b R b0 _ v).mono ?_;rintro e w5 ⟨rfl,x⟩;have y:=H x;clear x v;go_wp2;go_ret;exact⟨rfl,y⟩
  ·exact (F _).1
  exact (F _).2
 ·apply qG;·intro w0 a len cap f R b0 W g;have i:=H g;have b:=H f;clear f g;go_enter func44,ntmps44;go_wp2_with fail;refine (P w0 a len cap b R b0 _ i).mono ?_;rintro e w1 ⟨rfl,j⟩;have m:=H j;clear j i;go_wp2_with fail;refine (Q w0 a len cap b R b0 _ m).mono ?_;rintro e w2 ⟨rfl,o⟩;have q:=H o;clear o m;go_wp2_with fail;refine (S w0 a len cap b R b0 _ q).mono ?_;rintro e w3 ⟨rfl,r⟩;have t:=H r;clear r q;go_wp2_with fail;rw [<-B.1,<-B.2];refine (A _).mono ?_;rintro e w4 ⟨rfl,u⟩;have v:=H (t.below u);clear u t;go_wp2_with fail;refine (T w0 a len cap b R b0 _ v).mono ?_;rintro e w5 ⟨rfl,x⟩;have y:=H x;clear x v;go_wp2_with fail;refine (a3 _).mono ?_;rintro e w6 ⟨rfl,G⟩;have K:=H (y.below G);clear G y;go_wp2;go_ret;exact⟨rfl,K⟩
  ·exact (F _).1
  exact (F _).2
 ·apply qG;·intro w0 a len cap f R b0 W g;have i:=H g;have b:=H f;clear f g;go_enter func44,ntmps44;go_wp2_with fail;refine (P w0 a len cap b R b0 _ i).mono ?_;rintro e w1 ⟨rfl,j⟩;have m:=H j;clear j i;go_wp2_with fail;refine (Q w0 a len cap b R b0 _ m).mono ?_;rintro e w2 ⟨rfl,o⟩;have q:=H o;clear o m;go_wp2_with fail;refine (S w0 a len cap b R b0 _ q).mono ?_;rintro e w3 ⟨rfl,r⟩;have t:=H r;clear r q;go_wp2_with fail;rw [<-B.1,<-B.2];refine (A _).mono ?_;rintro e w4 ⟨rfl,u⟩;have v:=H (t.below u);clear u t;go_wp2_with fail;refine (T w0 a len cap b R b0 _ v).mono ?_;rintro e w5 ⟨rfl,x⟩;have y:=H x;clear x v;go_wp2_with fail;refine (X _).mono ?_;rintro e w6 ⟨rfl,G⟩;have K:=H (y.below G);clear G y;go_wp2_with fail;refine (V _).mono ?_;rintro e w7 ⟨rfl,G⟩;have R7:=H (K.below G);clear G K;go_wp2;go_ret;exact⟨rfl,R7⟩
  ·exact (F _).1
  exact (F _).2
 ·apply qG;·intro w0 a len cap f R b0 W g;have i:=H g;have b:=H f;clear f g;go_enter func44,ntmps44;go_wp2_with fail;refine (P w0 a len cap b R b0 _ i).mono ?_;rintro e w1 ⟨rfl,j⟩;have m:=H j;clear j i;go_wp2_with fail;refine (Q w0 a len cap b R b0 _ m).mono ?_;rintro e w2 ⟨rfl,o⟩;have q:=H o;clear o m;go_wp2_with fail;refine (S w0 a len cap b R b0 _ q).mono ?_;rintro e w3 ⟨rfl,r⟩;have t:=H r;clear r q;go_wp2_with fail;rw [<-B.1,<-B.2];refine (A _).mono ?_;rintro e w4 ⟨rfl,u⟩;have v:=H (t.below u);clear u t;go_wp2_with fail;refine (T w0 a len cap b R b0 _ v).mono ?_;rintro e w5 ⟨rfl,x⟩;have y:=H x;clear x v;go_wp2_with fail;refine (a1 _).mono ?_;rintro e w6 ⟨rfl,G⟩;have K:=H (y.below G);clear G y;go_wp2_with fail;refine (G5 w0 a len cap b R b0 _ K).mono ?_;rintro e w7 ⟨rfl,N⟩;have R7:=H N;clear N K;go_wp2;go_ret;exact⟨rfl,R7⟩
  ·exact (F _).1
  exact (F _).2
 ·apply qG;·intro w0 a len cap f R b0 W g;have i:=H g;have b:=H f;clear f g;go_enter func44,ntmps44;go_wp2_with fail;refine (P w0 a len cap b R b0 _ i).mono ?_;rintro e w1 ⟨rfl,j⟩;have m:=H j;clear j i;go_wp2_with fail;refine (Q w0 a len cap b R b0 _ m).mono ?_;rintro e w2 ⟨rfl,o⟩;have q:=H o;clear o m;go_wp2_with fail;refine (S w0 a len cap b R b0 _ q).mono ?_;rintro e w3 ⟨rfl,r⟩;have t:=H r;clear r q;go_wp2_with fail;rw [<-B.1,<-B.2];refine (A _).mono ?_;rintro e w4 ⟨rfl,u⟩;have v:=H (t.below u);clear u t;go_wp2_with fail;refine (T w0 a len cap b R b0 _ v).mono ?_;rintro e w5 ⟨rfl,x⟩;have y:=H x;clear x v;go_wp2_with fail;refine (a2 _).mono ?_;rintro e w6 ⟨rfl,G⟩;have K:=H (y.below G);clear G y;go_wp2;go_ret;exact⟨rfl,K⟩
  ·exact (F _).1
  exact (F _).2
 ·apply qG;·intro w0 a len cap f R b0 W g;have i:=H g;have b:=H f;clear f g;go_enter func44,ntmps44;go_wp2_with fail;refine (P w0 a len cap b R b0 _ i).mono ?_;rintro e w1 ⟨rfl,j⟩;have m:=H j;clear j i;go_wp2_with fail;refine (Q w0 a len cap b R b0 _ m).mono ?_;rintro e w2 ⟨rfl,o⟩;have q:=H o;clear o m;go_wp2_with fail;refine (S w0 a len cap b R b0 _ q).mono ?_;rintro e w3 ⟨rfl,r⟩;have t:=H r;clear r q;go_wp2_with fail;rw [<-B.1,<-B.2];refine (A _).mono ?_;rintro e w4 ⟨rfl,u⟩;have v:=H (t.below u);clear u t;go_wp2_with fail;refine (T w0 a len cap b R b0 _ v).mono ?_;rintro e w5 ⟨rfl,x⟩;have y:=H x;clear x v;go_wp2_with fail;refine (G6 w0 a len cap b R b0 _ y).mono ?_;rintro e w6 ⟨rfl,N⟩;have K:=H N;clear N y;go_wp2;go_ret;exact⟨rfl,K⟩
  ·exact (HS _).1
  exact (HS _).2
 ·apply qG;·intro w0 a len cap f R b0 W g;have i:=H g;have b:=H f;clear f g;go_enter func44,ntmps44;go_wp2_with fail;refine (P w0 a len cap b R b0 _ i).mono ?_;rintro e w1 ⟨rfl,j⟩;have m:=H j;clear j i;go_wp2_with fail;refine (Q w0 a len cap b R b0 _ m).mono ?_;rintro e w2 ⟨rfl,o⟩;have q:=H o;clear o m;go_wp2_with fail;refine (S w0 a len cap b R b0 _ q).mono ?_;rintro e w3 ⟨rfl,r⟩;have t:=H r;clear r q;go_wp2_with fail;rw [<-B.1,<-B.2];refine (A _).mono ?_;rintro e w4 ⟨rfl,u⟩;have v:=H (t.below u);clear u t;go_wp2_with fail;refine (T w0 a len cap b R b0 _ v).mono ?_;rintro e w5 ⟨rfl,x⟩;have y:=H x;clear x v;go_wp2_with fail;refine (G5 w0 a len cap b R b0 _ y).mono ?_;rintro e w6 ⟨rfl,N⟩;have K:=H N;clear N y;go_wp2;go_ret;exact⟨rfl,K⟩
  ·exact (F _).1
  exact (F _).2
 apply qG
 ·intro w0 a len cap f R b0 W g;have i:=H g;have b:=H f;clear f g;go_enter func44,ntmps44;go_wp2_with fail;refine (P w0 a len cap b R b0 _ i).mono ?_;rintro e w1 ⟨rfl,j⟩;have m:=H j;clear j i;go_wp2_with fail;refine (Q w0 a len cap b R b0 _ m).mono ?_;rintro e w2 ⟨rfl,o⟩;have q:=H o;clear o m;go_wp2_with fail;refine (S w0 a len cap b R b0 _ q).mono ?_;rintro e w3 ⟨rfl,r⟩;have t:=H r;clear r q;go_wp2_with fail;rw [<-B.1,<-B.2];refine (A _).mono ?_;rintro e w4 ⟨rfl,u⟩;have v:=H (t.below u);clear u t;go_wp2_with fail;refine (T w0 a len cap b R b0 _ v).mono ?_;rintro e w5 ⟨rfl,x⟩;have y:=H x;clear x v;go_wp2
  go_region_with (first
   | (go_at_call 28;refine (G5 w0 a len cap b R b0 _ ?_).mono ?_;exact y.drew;rintro e w6 ⟨rfl,N⟩)
   | (go_at_call 45;refine (X _).mono ?_;rintro e w7 ⟨rfl,b7⟩)
   | (go_at_call 21;refine (V _).mono ?_;rintro e w8 ⟨rfl,b8⟩))
  all_goals
   have R8:=H ((N.below b7).below b8)
   clear N b7 b8 y
   go_wp2
   go_ret
   exact⟨rfl,R8⟩
 ·exact (F _).1
 exact (F _).2
end
section
open Go.RowKit Go.Shelf Go.Maps
def p7 (zs:List Int) (p:Nat):Nat->List Int×Nat
 | 0=>([],p)
 | k+1=>((p7 zs p k).1++[(gH zs (p7 zs p k).2:Int)],gJ zs (p7 zs p k).2)
theorem p9 (zs p):∀ k,(p7 zs p k).1.length=k/\∀ y∈(p7 zs p k).1,0<=y/\y<=255
 | 0=>⟨rfl,λy a=>by cases a⟩
 | k+1=>by
  obtain⟨b,c⟩:=p9 zs p k
  have d:=d_ zs (p7 zs p k).2
  refine⟨?_,λy a=>?_⟩
  ·show ((p7 zs p k).1++[(gH zs (p7 zs p k).2:Int)]).length=k+1
   rw [FC,b];rfl
  rcases F8.1 (show y∈(p7 zs p k).1++[(gH zs (p7 zs p k).2:Int)] from a) with a|a
  ·exact c y a
  obtain rfl:=List.mem_singleton.1 a;omega
theorem vL (zs p) (n:Nat) (Y:n<=10000):∃ (d:List Int) (p':Nat),d.length=n/\(∀ y∈d,0<=y/\y<=255)/\∀ (w0:World) (a:Option Addr) (len cap:Nat),Cbq9 zs w0 a len cap->∀ (R:Nat) (b0 W:World),Rp p w0 a len cap R b0 W ->
  Calls prog 59 #[J R 0,I n] W λe A=>∃ v,e=.returned v/\A.ownsRow W.heap.size 5 1 v n (Ns .u8 d)/\Rp p' w0 a len cap R b0 A:=by
 refine⟨(p7 zs p n).1,(p7 zs p n).2,(p9 zs p n).1,(p9 zs p n).2,?_⟩;intro w0 a len cap f R b0 W b;obtain⟨N,m,o,r,s⟩:=G0 Tryz.info5By;have O:=H (λp V (t:Rp p w0 a len cap R V V)=>de zs p w0 a len cap f R V V t);have B:=H b.at;have u:=H (λp V (t:Rp p w0 a len cap R W V)=>b.of t);have F:=H b.lt;clear f b;go_enter func59,ntmps59;go_wp2;go_loopw [5,6] (λv i wr=>∃ (k:Nat) (d:List Int) (q:Nat),k<=n/\i=I k/\Hid (p7 zs p k=(d,q))/\Hid (wr.ownsRow W.heap.size 5 1 v k (Ns .u8 d))/\Hid (Rp q w0 a len cap R W wr)) (λ_ i _=>n-(intOf i).toNat);case atStart=>exact ⟨0,[],p,FH _,rfl,H rfl,H ⟨rfl,.inl ⟨rfl,rfl⟩⟩,B⟩
 case round =>
  obtain⟨k,d,q,hk,rfl,w,f,l⟩:=hrel;clear B;obtain⟨va,vb,vc,rfl⟩:∃ a b c,u5=.slice a b c:=fW f.out;by_cases P:k<n
  ·have Q:=H (show p7 zs p (k+1)=(d++[(gH zs q:Int)],gJ zs q) from by
    show ((p7 zs p k).1++[(gH zs (p7 zs p k).2:Int)],gJ zs (p7 zs p k).2)=_;rw [w.out])
   have hc:=d_ zs q;have y:=H (O q);generalize gH zs q=c at *;go_wp2_with fail;refine (y _ l.at).mono ?_;rintro e w1 ⟨rfl,x⟩;have z:=x.g;have g:∀ {v:Value} {b:List Value} {j:Nat},wr.ownsRow W.heap.size 5 1 v j b->v.ownBlock≠some R:=λS e=>by have:=(S.lt R e).1;have:=F.out;omega
   have G:=H (f.kept z (.inr (g f)));have b:=H (l.of x);clear x z g f l;have z:=H (G.alloc (.cells #[.int .u8 (c:Int)] 5));go_wp2_with (at_builtin;refine Ib _ rfl _ _ 22 rfl W.heap.size 5 N (.int .u8 0) 1 1 underlying22 m o r s rfl Z _ _ _ rfl z _ 1 1 [.int .u8 (c:Int)] rfl rfl ?hc ?h1c ?b1 ?b2 ?b3 ?_);(case hc=>exact ek _ _ _ _ bH);(case h1c=>intro x K;simp at K;subst K;rfl);(case b1=>unfold maxLen;omega);(case b2=>omega);(case b3=>have:=b.g.size;simp;omega);intro T L g j _;have M:=cI z.out;have D9q9:=H (show Rp (gJ zs q) w0 a len cap R W L from by
    have X:=b.below ((Fu _ _).alloc (Fv _) (.cells #[.int .u8 (c:Int)] 5));exact X.app j λr e=>by have:=M _ e;have:=F.out;omega)
   have X:=H (show L.ownsRow W.heap.size 5 1 T (k+1) (Ns .u8 (d++[(c:Int)])) by simpa [Ns] using g);clear g j M z G b;go_wp2;go_roundw;(case rel=>exact ⟨k+1,d++[(c:Int)],gJ zs q,Z,aY,Q,X,D9q9⟩);case measure=>simp [intOf];omega
  have:k=n:=Z;subst this;go_wp2;go_ret;exact⟨_,rfl,by rw [w.out];exact f,by rw [w.out];exact u _ _ l⟩
structure Oq6 (p:Nat) (w0:World) (a:Option Addr) (len cap R:Nat) (b0:World) (X Y:Nat) (o:fL) (d:Option Addr) (dc:Nat) (W:World):Prop where
 rd:Rp p w0 a len cap R b0 W
 rn:R<b0.heap.size
 x:W.heap[X]?=some (.cells (fH ⟨o,d,dc⟩).toArray 42)
 xn:b0.heap.size<=X
 y:W.heap[Y]?=some (.cells #[I 0,I 0,U 0,U 0,U 0,C] 42)
 yn:b0.heap.size<=Y
 xy:X≠Y
 od:Od6 b0.heap.size ⟨o,d,dc⟩ W
section
variable {p:Nat} {w0:World} {a:Option Addr} {len cap R:Nat} {b0 W:World} {X Y:Nat} {o:fL} {d:Option Addr} {dc:Nat}
theorem Oq6.upd (h:Oq6 p w0 a len cap R b0 X Y o d dc W) (i:Nat) (v:Value) (c:fL) (f:Option Addr) (b:Nat) (k:fH ⟨c,f,b⟩=(fH ⟨o,d,dc⟩).set i v) (j:Od6 b0.heap.size ⟨c,f,b⟩ W):Oq6 p w0 a len cap R b0 X Y c f b (W.setCell ⟨X,i,none⟩ v):=by
 have l:=h.rn;have g:W.grownBy (W.setCell ⟨X,i,none⟩ v) (some X):=au (al W X) i v;have m:=h.xn;refine⟨h.rd.app g (λr e=>by cases e;omega),l,?_,h.xn,?_,h.yn,h.xy,j.kept g (eD j.d h.x ar)⟩;·rw [k];simp [World.setCell,FD,h.x]
 rw [g.block Y (ag h.y) (λe=>by cases e;exact h.xy rfl)];exact h.y
theorem Oq6.next (h:Oq6 p w0 a len cap R b0 X Y o d dc W) {W'} (b:Rp p' w0 a len cap R W W'):Oq6 p' w0 a len cap R b0 X Y o d dc W':=by
 have c:=h.rn;have f:=h.xn;have g:=h.yn;refine⟨h.rd.of b,c,?_,h.xn,?_,h.yn,h.xy,h.od.kept b.g (λe=>by have:=(h.od.d.lt R e).1;omega)⟩;·rw [b.g.block X (ag h.x) (λe=>by cases e;omega)];exact h.x
 rw [b.g.block Y (ag h.y) (λe=>by cases e;omega)];exact h.y
theorem Oq6.below (h:Oq6 p w0 a len cap R b0 X Y o d dc W) {W'} (b:D W W'):Oq6 p w0 a len cap R b0 X Y o d dc W':=h.next (h.rd.at.below b)
theorem Oq6.drew (h:Oq6 p w0 a len cap R b0 X Y o d dc W):Oq6 p w0 a len cap R b0 X Y o d dc W.drew:=h.below (Fu _ _).drew
theorem Oq6.cells (h:Oq6 p w0 a len cap R b0 X Y o d dc W):W.cell? ⟨X,0,none⟩=some (I o.kd)/\W.cell? ⟨X,1,none⟩=some (I o.ref)/\W.cell? ⟨X,2,none⟩=some (U o.p)/\W.cell? ⟨X,3,none⟩=some (U o.a)/\W.cell? ⟨X,4,none⟩=some (U o.b)/\W.cell? ⟨X,5,none⟩=some (.slice d o.ys.length dc):=by
 have:=h.x;simp [World.cell?,this,fH]
theorem Oq6.fr (h:Oq6 p w0 a len cap R b0 X Y o d dc W) (i:Nat):W.frozen? ⟨X,i,none⟩=false:=by simp [World.frozen?,h.x]
theorem Oq6.setKd (h:Oq6 p w0 a len cap R b0 X Y o d dc W) (x:Int):Oq6 p w0 a len cap R b0 X Y { o with kd:=x } d dc (W.setCell ⟨X,0,none⟩ (I x)):=h.upd 0 _ _ _ _ rfl ⟨h.od.p,h.od.a,h.od.b,h.od.d,h.od.r,h.od.y⟩
theorem Oq6.setRef (h:Oq6 p w0 a len cap R b0 X Y o d dc W) (x:Int) (b : -9223372036854775808<=x):Oq6 p w0 a len cap R b0 X Y { o with ref:=x } d dc (W.setCell ⟨X,1,none⟩ (I x)):=h.upd 1 _ _ _ _ rfl ⟨h.od.p,h.od.a,h.od.b,h.od.d,b,h.od.y⟩
theorem Oq6.setP (h:Oq6 p w0 a len cap R b0 X Y o d dc W) (x:Int) (b:0<=x) (c:x<=18446744073709551615):Oq6 p w0 a len cap R b0 X Y { o with p:=x.toNat } d dc (W.setCell ⟨X,2,none⟩ (U x)):=by
 obtain⟨n,rfl⟩:=Ha b;exact h.upd 2 _ _ _ _ rfl ⟨by show n<_;omega,h.od.a,h.od.b,h.od.d,h.od.r,h.od.y⟩
theorem Oq6.setA (h:Oq6 p w0 a len cap R b0 X Y o d dc W) (x:Int) (b:0<=x) (c:x<=18446744073709551615):Oq6 p w0 a len cap R b0 X Y { o with a:=x.toNat } d dc (W.setCell ⟨X,3,none⟩ (U x)):=by
 obtain⟨n,rfl⟩:=Ha b;exact h.upd 3 _ _ _ _ rfl ⟨h.od.p,by show n<_;omega,h.od.b,h.od.d,h.od.r,h.od.y⟩
theorem Oq6.setB (h:Oq6 p w0 a len cap R b0 X Y o d dc W) (x:Int) (c:0<=x) (e:x<=18446744073709551615):Oq6 p w0 a len cap R b0 X Y { o with b:=x.toNat } d dc (W.setCell ⟨X,4,none⟩ (U x)):=by
 obtain⟨n,rfl⟩:=Ha c;exact h.upd 4 _ _ _ _ rfl ⟨h.od.p,h.od.a,by show n<_;omega,h.od.d,h.od.r,h.od.y⟩
theorem Oq6.setD (h:Oq6 p w0 a len cap R b0 X Y o d dc W) (e:Option Addr) (b:Nat) (c:List Int) (f:W.ownsRow b0.heap.size 5 1 (.slice e c.length b) c.length (Ns .u8 c)) (g:∀ y∈c,0<=y/\y<=255):Oq6 p w0 a len cap R b0 X Y { o with ys:=c } e b (W.setCell ⟨X,5,none⟩ (.slice e c.length b)):=h.upd 5 _ _ _ _ rfl ⟨h.od.p,h.od.a,h.od.b,f,h.od.r,g⟩
theorem Oq6.row (h:Oq6 p w0 a len cap R b0 X Y o d dc W) (b x y:Int) (f:0<=x) (k:x<=18446744073709551615) (g:0<=y) (l:y<=18446744073709551615):Oq6 p w0 a len cap R b0 X Y ⟨b,0,0,x.toNat,y.toNat,[]⟩ none 0 (W.setRow X #[I b,I 0,U 0,U x,U y,C]):=by
 obtain⟨n,rfl⟩:=Ha f;obtain⟨m,rfl⟩:=Ha g;have i:=h.rn;have q:=h.xn;have c:W.grownBy (W.setRow X #[I b,I 0,U 0,U (n:Int),U (m:Int),C]) (some X):=aj W X _;refine⟨h.rd.app c (λr e=>by cases e;omega),i,?_,h.xn,?_,h.yn,h.xy,⟨by show 0<_;omega,by show n<_;omega,by show m<_;omega,⟨rfl,.inl ⟨rfl,rfl⟩⟩,by show (-9223372036854775808:Int)<=0;omega,λy j=>by cases j⟩⟩;·exact aw h.x _
 rw [c.block Y (ag h.y) (λe=>by cases e;exact h.xy rfl)];exact h.y
end
def B9 (p:Nat) (o:fL) (p':Nat) (o':fL) (w0:World) (a:Option Addr) (len cap R:Nat) (gv:Nat) (tt:Bool) (W:World) (X Y k:Nat) (m:Int):Prop:=∀ (K:Act->World->Prop) (Q:Exit->Act->World->Prop) (d0:Option Addr) (e8:Nat) (w:World) (u9 u10 u11 u12 u13 u14 u15 u16 u17 u18 u19 u20 u21 u22 u23 u24 u25 u26 u27 u28 u29 u32 u33 u34 u35 u36 u37 u38 u39 u40 u41 u42 u43 u44 u45 u46 u47 u48 u49 u50 u51 u52 u53 u54 u55 u56 u57 u58 u59 u60 u61 u62 u63 u64 u65 u66 u67 u68 u69 u70 u71 u72 u73 u74 u75 u76 u77 u78 u79 u80 u81 u82 u83 u84 u85 u86 u87 u88 u89 u90 u91 u92 u93 u94 u95 u96 u97 u98 u99 u100 u101 u102 u103 u104 u105 u106 u107 u108 u109 u110 u111 u112 u113 u114 u115 u116 u117 u118 u119 u120 u121 u122 u123 u124 u125 u126 u127 u128 u129 u130 u131 u132 u133 u134 u135 u136 u137 u138 u139 u140 u141 u142 u143 u144 u145 u146 u147 u148:Value),Hid (Oq6 p w0 a len cap R W X Y o d0 e8 w) ->
 (∀ (v9 j3 g2 m0 e6 k7 f2 f8 i8 n5 i1 h3 e7 n1 n9 f7 m6 l5 h7 m9 i3 e5 n4 h2 g1 n7 n3 l4 g7 g5 g6 m3 i0 j4 g3 f3 m2 k4 l3 j2 l7 j1 i4 f4 j9 l6 j8 h8 n0 h5 n6 i9 j7 k2 e9 f6 g0 k9 k3 m8 j5 m5 n8 h9 j0 o0 i2 f5 j6 m1 i7 i6 h1 m7 f9 h4 i5 k8 l9 l8 l2 m4 h6 g8 n2 k6 g9 k5 g4 d4 i A t d7 a8 b1 a0 a2 e3 d9 b6 N c9 B a1 b3 O V l L d8 j b4 b7 e2 a4 e0 e e4 c6 a5 a6 b8 d5 F u d6 v b2 z a3 c8 c7 a7 b5 e1 a9 b9:Value) (d1:Option Addr) (h0:Nat) (w':World),Hid (Oq6 p' w0 a len cap R W X Y o' d1 h0 w')->K ⟨#[J R 0,I gv,.bool tt,undef,undef,undef,J Y 0,I k,J X 0,v9,j3,g2,m0,e6,k7,f2,f8,i8,n5,i1,h3,e7,n1,n9,f7,m6,l5,h7,m9,i3,I k,I m,e5,n4,h2,g1,n7,n3,l4,g7,g5,g6,m3,i0,j4,g3,f3,m2,k4,l3,j2,l7,j1,i4,f4,j9,l6,j8,h8,n0,h5,n6,i9,j7,k2,e9,f6,g0,k9,k3,m8,j5,m5,n8,h9,j0,o0,i2,f5,j6,m1,i7,i6,h1,m7,f9,h4,i5,k8,l9,l8,l2,m4,h6,g8,n2,k6,g9,k5,g4,d4,i,A,t,d7,a8,b1,a0,a2,e3,d9,b6,N,c9,B,a1,b3,O,V,l,L,d8,j,b4,b7,e2,a4,e0,e,e4,c6,a5,a6,b8,d5,F,u,d6,v,b2,z,a3,c8,c7,a7,b5,e1,a9,b9],[]⟩ w')->Code.wp prog ((Tryz.f29.body.bind (iN 0)).getD .skip) (Exit.then K Q) ⟨#[J R 0,I gv,.bool tt,undef,undef,undef,J Y 0,I k,J X 0,u9,u10,u11,u12,u13,u14,u15,u16,u17,u18,u19,u20,u21,u22,u23,u24,u25,u26,u27,u28,u29,I k,I m,u32,u33,u34,u35,u36,u37,u38,u39,u40,u41,u42,u43,u44,u45,u46,u47,u48,u49,u50,u51,u52,u53,u54,u55,u56,u57,u58,u59,u60,u61,u62,u63,u64,u65,u66,u67,u68,u69,u70,u71,u72,u73,u74,u75,u76,u77,u78,u79,u80,u81,u82,u83,u84,u85,u86,u87,u88,u89,u90,u91,u92,u93,u94,u95,u96,u97,u98,u99,u100,u101,u102,u103,u104,u105,u106,u107,u108,u109,u110,u111,u112,u113,u114,u115,u116,u117,u118,u119,u120,u121,u122,u123,u124,u125,u126,u127,u128,u129,u130,u131,u132,u133,u134,u135,u136,u137,u138,u139,u140,u141,u142,u143,u144,u145,u146,u147,u148],[]⟩ w
theorem nF {p o tt k m b} (g:∀ (w0:World) (a:Option Addr) (len cap:Nat),Cbq9 zs w0 a len cap->∀ (R c:Nat) (W:World) (X Y:Nat),B9 p o p' b w0 a len cap R c tt W X Y k m):∃ (p':Nat) (b:fL),∀ (w0:World) (a:Option Addr) (len cap:Nat),Cbq9 zs w0 a len cap->∀ (R c:Nat) (W:World) (X Y:Nat),B9 p o p' b w0 a len cap R c tt W X Y k m:=⟨p',b,g⟩
theorem ED (zs p o tt k) (m:Int) (T:m=0\/m=1\/m=2\/m=3):∃ (p':Nat) (V:fL),∀ (w0:World) (a:Option Addr) (len cap:Nat),Cbq9 zs w0 a len cap->∀ (R u:Nat) (W:World) (X Y:Nat),B9 p o p' V w0 a len cap R u tt W X Y k m:=by
 obtain⟨c,p1,v,x,y⟩:=kI zs p;have z:=H v;have A:=H u64_in;clear v;rcases T with rfl|rfl|rfl|rfl <;> cases tt
 ·apply nF;intro w0 a len cap j R u W X Y K Q B l w;intros;rename_i d b;have n:=H j;clear j;have q:=H b;clear b
  conv=>arg 2;whnf
  go_wp2_with fail;refine (z w0 a len cap n R _ _ d.rd.at).mono ?_;rintro e s ⟨rfl,r⟩;have f:=H (d.next r);clear r d;go_wp2_with (refine eG f.x ?_;have g:=H (f.row 0 c 0 x y Z Z);generalize s.setRow X _=F at g ⊢;clear f);apply q.out;exact H (g)
 ·apply nF;intro w0 a len cap j R u W X Y K Q B l w;intros;rename_i d b;have n:=H j;clear j;have q:=H b;clear b
  conv=>arg 2;whnf
  go_wp2_with fail;refine (z w0 a len cap n R _ _ d.rd.at).mono ?_;rintro e t ⟨rfl,r⟩;have i:=H (d.next r);clear r d;go_wp2_with (refine eG i.x ?_;have g:=H (i.row 0 c 0 x y Z Z);generalize t.setRow X _=F at g ⊢;clear i;obtain ⟨G,L,M,N,O,P⟩:=g.cells;have S:=g.fr 3);apply q.out;exact H (g.setA _ (by first|omega|exact (A _).1|(simp;done)) (by first|omega|exact (A _).2|(simp;done)))
 ·apply nF;intro w0 a len cap j R u W X Y K Q B l w;intros;rename_i d b;have n:=H j;clear j;have q:=H b;clear b
  conv=>arg 2;whnf
  go_wp2_with fail;refine (z w0 a len cap n R _ _ d.rd.at).mono ?_;rintro e s ⟨rfl,r⟩;have f:=H (d.next r);clear r d;go_wp2_with (refine eG f.x ?_;have g:=H (f.row 0 c 0 x y Z Z);generalize s.setRow X _=F at g ⊢;clear f);apply q.out;exact H (g)
 ·apply nF;intro w0 a len cap j R u W X Y K Q B l w;intros;rename_i d b;have n:=H j;clear j;have q:=H b;clear b
  conv=>arg 2;whnf
  go_wp2_with fail;refine (z w0 a len cap n R _ _ d.rd.at).mono ?_;rintro e t ⟨rfl,r⟩;have i:=H (d.next r);clear r d;go_wp2_with (refine eG i.x ?_;have g:=H (i.row 0 c 0 x y Z Z);generalize t.setRow X _=F at g ⊢;clear i;obtain ⟨G,L,M,N,O,P⟩:=g.cells;have S:=g.fr 3);apply q.out;exact H (g.setA _ (by first|omega|exact (A _).1|(simp;done)) (by first|omega|exact (A _).2|(simp;done)))
 ·apply nF;intro w0 a len cap j R u W X Y K Q B l w;intros;rename_i d b;have n:=H j;clear j;have q:=H b;clear b
  conv=>arg 2;whnf
  go_wp2_with fail;refine (z w0 a len cap n R _ _ d.rd.at).mono ?_;rintro e s ⟨rfl,r⟩;have f:=H (d.next r);clear r d;go_wp2_with (refine eG f.x ?_;have g:=H (f.row 0 c 0 x y Z Z);generalize s.setRow X _=F at g ⊢;clear f);apply q.out;exact H (g)
 ·apply nF;intro w0 a len cap j R u W X Y K Q B l w;intros;rename_i d b;have n:=H j;clear j;have q:=H b;clear b
  conv=>arg 2;whnf
  go_wp2_with fail;refine (z w0 a len cap n R _ _ d.rd.at).mono ?_;rintro e t ⟨rfl,r⟩;have i:=H (d.next r);clear r d;go_wp2_with (refine eG i.x ?_;have g:=H (i.row 0 c 0 x y Z Z);generalize t.setRow X _=F at g ⊢;clear i;obtain ⟨G,L,M,N,O,P⟩:=g.cells;have S:=g.fr 3);apply q.out;exact H (g.setA _ (by first|omega|exact (A _).1|(simp;done)) (by first|omega|exact (A _).2|(simp;done)))
 ·apply nF;intro w0 a len cap j R u W X Y K Q B l w;intros;rename_i d b;have n:=H j;clear j;have q:=H b;clear b
  conv=>arg 2;whnf
  go_wp2_with fail;refine (z w0 a len cap n R _ _ d.rd.at).mono ?_;rintro e s ⟨rfl,r⟩;have f:=H (d.next r);clear r d;go_wp2_with (refine eG f.x ?_;have g:=H (f.row 0 c 0 x y Z Z);generalize s.setRow X _=F at g ⊢;clear f);apply q.out;exact H (g)
 apply nF;intro w0 a len cap j R u W X Y K Q B l w;intros;rename_i d b;have n:=H j;clear j;have q:=H b;clear b
 conv=>arg 2;whnf
 go_wp2_with fail;refine (z w0 a len cap n R _ _ d.rd.at).mono ?_;rintro e t ⟨rfl,r⟩;have i:=H (d.next r);clear r d;go_wp2_with (refine eG i.x ?_;have g:=H (i.row 0 c 0 x y Z Z);generalize t.setRow X _=F at g ⊢;clear i;obtain ⟨G,L,M,N,O,P⟩:=g.cells;have S:=g.fr 3);apply q.out;exact H (g.setA _ (by first|omega|exact (A _).1|(simp;done)) (by first|omega|exact (A _).2|(simp;done)))
theorem D1 (zs p o tt k) (m:Int) (O:m=4):∃ (p':Nat) (P:fL),∀ (w0:World) (a:Option Addr) (len cap:Nat),Cbq9 zs w0 a len cap->∀ (R v:Nat) (W:World) (X Y:Nat),B9 p o p' P w0 a len cap R v tt W X Y k m:=by
 obtain⟨c,u,g,A,B⟩:=kI zs p;have F:=H g;have N:=H (de zs u);have S:=d_ zs u;generalize gH zs u=G at S N;generalize gJ zs u=T at N;obtain⟨c2,p3,i,V,a0⟩:=pq zs T;have WD:=H i;have L:=H u64_in;clear g i;obtain rfl:=O;by_cases M:240<=k
 ·apply nF;intro w0 a len cap t R v W X Y K Q d0 x w;intros;rename_i j f;have s:=H t;clear t;have y:=H f;clear f
  conv=>arg 2;whnf
  go_wp2_with fail;refine (F w0 a len cap s R _ _ j.rd.at).mono ?_;rintro e z ⟨rfl,r⟩;have b:=H (j.next r);clear r j;go_wp2_with fail;refine (N w0 a len cap s R _ _ b.rd.at).mono ?_;rintro e l ⟨rfl,r⟩;have d:=H (b.next r);clear r b;go_wp2_with (refine eG d.x ?_;have n:=H (d.row 1 c ((G:Int)%4) A B Z Z);generalize l.setRow X _=Vx at n ⊢;clear d);refine (WD w0 a len cap s R _ _ n.rd.at).mono ?_;rintro e a1 ⟨rfl,r⟩;have q:=H (n.next r);clear r n;obtain⟨z0,z1,z2,z3,z4,z5⟩:=q.cells;have zf:=q.fr 4;go_wp2;apply y.out;exact H (q.setB _ (by first|omega|exact (L _).1|(simp;done)) (by first|omega|exact (L _).2|(simp;done)))
 apply nF;intro w0 a len cap t R v W X Y K Q d0 x w;intros;rename_i j f;have s:=H t;clear t;have y:=H f;clear f
 conv=>arg 2;whnf
 go_wp2_with fail;refine (F w0 a len cap s R _ _ j.rd.at).mono ?_;rintro e z ⟨rfl,r⟩;have b:=H (j.next r);clear r j;go_wp2_with fail;refine (N w0 a len cap s R _ _ b.rd.at).mono ?_;rintro e l ⟨rfl,r⟩;have d:=H (b.next r);clear r b;go_wp2_with (refine eG d.x ?_;have n:=H (d.row 1 c ((G:Int)%4) A B Z Z);generalize l.setRow X _=Vx at n ⊢;clear d);apply y.out;exact H (n)
theorem Ef (zs p o tt k) (m:Int) (v:m=7\/m=8\/m=9\/m=10\/m=11):∃ (p':Nat) (x:fL),∀ (w0:World) (a:Option Addr) (len cap:Nat),Cbq9 zs w0 a len cap->∀ (R g:Nat) (W:World) (X Y:Nat),B9 p o p' x w0 a len cap R g tt W X Y k m:=by
 rcases v with rfl|rfl|rfl|rfl|rfl
 ·apply nF;intro w0 a len cap d R g W X Y K Q i e w;intros;rename_i c b;have j:=H d;clear d;have f:=H b;clear b
  conv=>arg 2;whnf
  obtain⟨l,n,q,r,s,t⟩:=c.cells;have u:=c.fr 0;go_wp2;apply f.out;exact H (c.setKd 3)
 ·apply nF;intro w0 a len cap d R g W X Y K Q i e w;intros;rename_i c b;have j:=H d;clear d;have f:=H b;clear b
  conv=>arg 2;whnf
  obtain⟨l,n,q,r,s,t⟩:=c.cells;have u:=c.fr 0;go_wp2;apply f.out;exact H (c.setKd 3)
 ·apply nF;intro w0 a len cap d R g W X Y K Q i e w;intros;rename_i c b;have j:=H d;clear d;have f:=H b;clear b
  conv=>arg 2;whnf
  obtain⟨l,n,q,r,s,t⟩:=c.cells;have u:=c.fr 0;go_wp2;apply f.out;exact H (c.setKd 3)
 ·apply nF;intro w0 a len cap d R g W X Y K Q i e w;intros;rename_i c b;have j:=H d;clear d;have f:=H b;clear b
  conv=>arg 2;whnf
  obtain⟨l,n,q,r,s,t⟩:=c.cells;have u:=c.fr 0;go_wp2;apply f.out;exact H (c.setKd 3)
 apply nF;intro w0 a len cap d R g W X Y K Q i e w;intros;rename_i c b;have j:=H d;clear d;have f:=H b;clear b
 conv=>arg 2;whnf
 obtain⟨l,n,q,r,s,t⟩:=c.cells;have u:=c.fr 0;go_wp2;apply f.out;exact H (c.setKd 4)
theorem Ex (zs p o tt k) (m:Int) (L:m=5\/m=6):∃ (p':Nat) (M:fL),∀ (w0:World) (a:Option Addr) (len cap:Nat),Cbq9 zs w0 a len cap->∀ (R y:Nat) (W:World) (X Y:Nat),B9 p o p' M w0 a len cap R y tt W X Y k m:=by
 obtain⟨c,O,i,P,S⟩:=kI zs p;have G:=H i;have x:=H u64_in;clear i;rcases L with rfl|rfl
 ·apply nF;intro w0 a len cap j R y W X Y K Q N z w;intros;rename_i g f;have A:=H j;clear j;have B:=H f;clear f
  conv=>arg 2;whnf
  obtain⟨l,n,q,s,t,u⟩:=g.cells;have v:=g.fr 0;go_wp2_with fail;have b:=H (g.setKd 2);clear g l n q s t u v;refine (G w0 a len cap A R _ _ b.rd.at).mono ?_;rintro e F ⟨rfl,r⟩;have d:=H (b.next r);clear r b;obtain⟨l,n,q,s,t,u⟩:=d.cells;have v:=d.fr 3;go_wp2;apply B.out;exact H (d.setA _ (by first|omega|exact (x _).1|(simp;done)) (by first|omega|exact (x _).2|(simp;done)))
 apply nF;intro w0 a len cap j R y W X Y K Q N z w;intros;rename_i g f;have A:=H j;clear j;have B:=H f;clear f
 conv=>arg 2;whnf
 obtain⟨l,n,q,s,t,u⟩:=g.cells;have v:=g.fr 0;go_wp2_with fail;have b:=H (g.setKd 2);clear g l n q s t u v;refine (G w0 a len cap A R _ _ b.rd.at).mono ?_;rintro e F ⟨rfl,r⟩;have d:=H (b.next r);clear r b;obtain⟨l,n,q,s,t,u⟩:=d.cells;have v:=d.fr 3;go_wp2;apply B.out;exact H (d.setA _ (by first|omega|exact (x _).1|(simp;done)) (by first|omega|exact (x _).2|(simp;done)))
theorem D6 (zs p o tt k) (m:Int) (G:m=12):∃ (p':Nat) (L:fL),∀ (w0:World) (a:Option Addr) (len cap:Nat),Cbq9 zs w0 a len cap->∀ (R z:Nat) (W:World) (X Y:Nat),B9 p o p' L w0 a len cap R z tt W X Y k m:=by
 have N:=H (de zs p);have O:=d_ zs p;generalize gH zs p=c at O N;generalize gJ zs p=j at N;have M:=H (de zs j);have y:=d_ zs j;generalize gH zs j=c1 at y M;generalize gJ zs j=p2 at M;have A:=H u64_in;obtain rfl:=G;apply nF;intro w0 a len cap B R z W X Y K Q d0 P w;intros;rename_i l i;have F:=H B;clear B;have S:=H i;clear i
 conv=>arg 2;whnf
 obtain⟨n,q,s,t,u,v⟩:=l.cells;have x:=l.fr 0;go_wp2_with fail;have d:=H (l.setKd 5);clear l n q s t u v x;refine (N w0 a len cap F R _ _ d.rd.at).mono ?_;rintro e T ⟨rfl,r⟩;have b:=H (d.next r);clear r d;obtain⟨n,q,s,t,u,v⟩:=b.cells;have x:=b.fr 3;go_wp2_with fail;have f:=H (b.setA (c:Int) Z Z);clear b n q s t u v x;refine (M w0 a len cap F R _ _ f.rd.at).mono ?_;rintro e V ⟨rfl,r⟩;have g:=H (f.next r);clear r f;obtain⟨n,q,s,t,u,v⟩:=g.cells;have x:=g.fr 2;go_wp2;apply S.out;exact H (g.setP _ (by first|omega|exact (A _).1|(simp;done)) (by first|omega|exact (A _).2|(simp;done)))
theorem Eb (zs p o tt k) (m:Int) (hm:m=13\/m=14\/m=15):∃ (p':Nat) (o':fL),∀ (w0:World) (a:Option Addr) (len cap:Nat),Cbq9 zs w0 a len cap->∀ (R gv:Nat) (W:World) (X Y:Nat),B9 p o p' o' w0 a len cap R gv tt W X Y k m:=by
 have N:=H (de zs p);have hc:=d_ zs p;generalize gH zs p=c at hc N;generalize gJ zs p=p1 at N;obtain⟨n,hn,en⟩:∃ n:Nat,n<=24/\(c:Int)%24+1=(n:Int):=⟨c%24+1,Z,Z⟩;obtain⟨ys,p2,a8,a9,a7⟩:=vL zs p1 n Z;have BY:=H a7;have a1:=H a9;have M:=H (de zs p2);have b4:=d_ zs p2;generalize gH zs p2=c1 at b4 M;generalize gJ zs p2=p3 at M;have M2:=H (de zs p3);have b5:=d_ zs p3;generalize gH zs p3=c2 at b5 M2;generalize gJ zs p3=p4 at M2;have M3:=H (de zs p4);have b6:=d_ zs p4;generalize gH zs p4=c3 at b6 M3;generalize gJ zs p4=p5 at M3;have hu:=ui ((c2:Int)%12);have US:=H (λw=>gD ((c2:Int)%12) w);generalize us ((c2:Int)%12)=u at hu US;have HU:=H u64_in;have a2:=H en;have O:=H a8;clear a7 a9 en a8;by_cases b7:200<=k <;> rcases hm with rfl|rfl|rfl
 ·apply nF;intro w0 a len cap V R gv W X Y K Q d0 a3 w;intros;rename_i F q;have G:=H V;clear V;have HK:=H q;clear q
  conv=>arg 2;whnf
  obtain⟨s,t,x,y,z,A⟩:=F.cells;have B:=F.fr 0;go_wp2_with fail;have i:=H (F.setKd 6);clear F s t x y z A B;refine (N w0 a len cap G R _ _ i.rd.at).mono ?_;rintro e a4 ⟨rfl,r⟩;have d:=H (i.next r);clear r i;have en:=a2.out;go_wp2_with fail;clear en;refine (BY w0 a len cap G R _ _ d.rd.at).mono ?_;rintro e a5 ⟨v,rfl,L,r⟩;obtain⟨va,vb,vc,rfl⟩:=fW L;have P:=(ik L).symm;subst P;have j:=gz d.rd.g.size L;rw [<-O.out] at j;have f:=H (d.next r);have HB:=H j;clear r L j d;obtain⟨s,t,x,y,z,A⟩:=f.cells;have B:=f.fr 5;go_wp2_with fail;have g:=H (f.setD va vc ys HB a1);rw [O.out] at g;clear f s t x y z A B;refine (M w0 a len cap G R _ _ g.rd.at).mono ?_;rintro e a6 ⟨rfl,r⟩;have l:=H (g.next r);clear r g;obtain⟨s,t,x,y,z,A⟩:=l.cells;have B:=l.fr 2;have Ox:=H (l.setP ((c1:Int)%20) Z Z);go_wp2_with fail;clear s t x y z A B;refine (M2 w0 a len cap G R _ _ Ox.rd.at).mono ?_;rintro e b1 ⟨rfl,r⟩;have a0:=H (Ox.next r);clear r Ox;go_wp2_with fail;refine (US _).mono ?_;rintro e b2 ⟨rfl,b⟩;have S:=H (a0.below b);clear b a0;go_wp2_with fail;refine (M3 w0 a len cap G R _ _ S.rd.at).mono ?_;rintro e b3 ⟨rfl,r⟩;have T:=H (S.next r);clear r S;obtain⟨s,t,x,y,z,A⟩:=T.cells;have B:=T.fr 2;go_wp2;apply HK.out;exact H (T.setP _ (by first|omega|exact (HU _).1|(simp;done)) (by first|omega|exact (HU _).2|(simp;done)))
 ·apply nF;intro w0 a len cap V R gv W X Y K Q d0 a3 w;intros;rename_i F q;have G:=H V;clear V;have HK:=H q;clear q
  conv=>arg 2;whnf
  obtain⟨s,t,x,y,z,A⟩:=F.cells;have B:=F.fr 0;go_wp2_with fail;have i:=H (F.setKd 6);clear F s t x y z A B;refine (N w0 a len cap G R _ _ i.rd.at).mono ?_;rintro e a4 ⟨rfl,r⟩;have d:=H (i.next r);clear r i;have en:=a2.out;go_wp2_with fail;clear en;refine (BY w0 a len cap G R _ _ d.rd.at).mono ?_;rintro e a5 ⟨v,rfl,L,r⟩;obtain⟨va,vb,vc,rfl⟩:=fW L;have P:=(ik L).symm;subst P;have j:=gz d.rd.g.size L;rw [<-O.out] at j;have f:=H (d.next r);have HB:=H j;clear r L j d;obtain⟨s,t,x,y,z,A⟩:=f.cells;have B:=f.fr 5;go_wp2_with fail;have g:=H (f.setD va vc ys HB a1);rw [O.out] at g;clear f s t x y z A B;refine (M w0 a len cap G R _ _ g.rd.at).mono ?_;rintro e a6 ⟨rfl,r⟩;have l:=H (g.next r);clear r g;obtain⟨s,t,x,y,z,A⟩:=l.cells;have B:=l.fr 2;have Ox:=H (l.setP ((c1:Int)%20) Z Z);go_wp2_with fail;clear s t x y z A B;refine (M2 w0 a len cap G R _ _ Ox.rd.at).mono ?_;rintro e b1 ⟨rfl,r⟩;have a0:=H (Ox.next r);clear r Ox;go_wp2_with fail;refine (US _).mono ?_;rintro e b2 ⟨rfl,b⟩;have S:=H (a0.below b);clear b a0;go_wp2_with fail;refine (M3 w0 a len cap G R _ _ S.rd.at).mono ?_;rintro e b3 ⟨rfl,r⟩;have T:=H (S.next r);clear r S;obtain⟨s,t,x,y,z,A⟩:=T.cells;have B:=T.fr 2;go_wp2;apply HK.out;exact H (T.setP _ (by first|omega|exact (HU _).1|(simp;done)) (by first|omega|exact (HU _).2|(simp;done)))
 ·apply nF;intro w0 a len cap V R gv W X Y K Q d0 a3 w;intros;rename_i F q;have G:=H V;clear V;have HK:=H q;clear q
  conv=>arg 2;whnf
  obtain⟨s,t,x,y,z,A⟩:=F.cells;have B:=F.fr 0;go_wp2_with fail;have i:=H (F.setKd 6);clear F s t x y z A B;refine (N w0 a len cap G R _ _ i.rd.at).mono ?_;rintro e a4 ⟨rfl,r⟩;have d:=H (i.next r);clear r i;have en:=a2.out;go_wp2_with fail;clear en;refine (BY w0 a len cap G R _ _ d.rd.at).mono ?_;rintro e a5 ⟨v,rfl,L,r⟩;obtain⟨va,vb,vc,rfl⟩:=fW L;have P:=(ik L).symm;subst P;have j:=gz d.rd.g.size L;rw [<-O.out] at j;have f:=H (d.next r);have HB:=H j;clear r L j d;obtain⟨s,t,x,y,z,A⟩:=f.cells;have B:=f.fr 5;go_wp2_with fail;have g:=H (f.setD va vc ys HB a1);rw [O.out] at g;clear f s t x y z A B;refine (M w0 a len cap G R _ _ g.rd.at).mono ?_;rintro e a6 ⟨rfl,r⟩;have l:=H (g.next r);clear r g;obtain⟨s,t,x,y,z,A⟩:=l.cells;have B:=l.fr 2;have Ox:=H (l.setP ((c1:Int)%20) Z Z);go_wp2_with fail;clear s t x y z A B;refine (M2 w0 a len cap G R _ _ Ox.rd.at).mono ?_;rintro e b1 ⟨rfl,r⟩;have a0:=H (Ox.next r);clear r Ox;go_wp2_with fail;refine (US _).mono ?_;rintro e b2 ⟨rfl,b⟩;have S:=H (a0.below b);clear b a0;go_wp2_with fail;refine (M3 w0 a len cap G R _ _ S.rd.at).mono ?_;rintro e b3 ⟨rfl,r⟩;have T:=H (S.next r);clear r S;obtain⟨s,t,x,y,z,A⟩:=T.cells;have B:=T.fr 2;go_wp2;apply HK.out;exact H (T.setP _ (by first|omega|exact (HU _).1|(simp;done)) (by first|omega|exact (HU _).2|(simp;done)))
 ·apply nF;intro w0 a len cap V R gv W X Y K Q d0 a3 w;intros;rename_i F q;have G:=H V;clear V;have HK:=H q;clear q
  conv=>arg 2;whnf
  obtain⟨s,t,x,y,z,A⟩:=F.cells;have B:=F.fr 0;go_wp2_with fail;have i:=H (F.setKd 6);clear F s t x y z A B;refine (N w0 a len cap G R _ _ i.rd.at).mono ?_;rintro e a4 ⟨rfl,r⟩;have d:=H (i.next r);clear r i;have en:=a2.out;go_wp2_with fail;clear en;refine (BY w0 a len cap G R _ _ d.rd.at).mono ?_;rintro e a5 ⟨v,rfl,L,r⟩;obtain⟨va,vb,vc,rfl⟩:=fW L;have P:=(ik L).symm;subst P;have j:=gz d.rd.g.size L;rw [<-O.out] at j;have f:=H (d.next r);have HB:=H j;clear r L j d;obtain⟨s,t,x,y,z,A⟩:=f.cells;have B:=f.fr 5;go_wp2_with fail;have g:=H (f.setD va vc ys HB a1);rw [O.out] at g;clear f s t x y z A B;refine (M w0 a len cap G R _ _ g.rd.at).mono ?_;rintro e a6 ⟨rfl,r⟩;have l:=H (g.next r);clear r g;obtain⟨s,t,x,y,z,A⟩:=l.cells;have B:=l.fr 2;have Ox:=H (l.setP ((c1:Int)%20) Z Z);go_wp2;apply HK.out;exact H (Ox)
 ·apply nF;intro w0 a len cap V R gv W X Y K Q d0 a3 w;intros;rename_i F q;have G:=H V;clear V;have HK:=H q;clear q
  conv=>arg 2;whnf
  obtain⟨s,t,x,y,z,A⟩:=F.cells;have B:=F.fr 0;go_wp2_with fail;have i:=H (F.setKd 6);clear F s t x y z A B;refine (N w0 a len cap G R _ _ i.rd.at).mono ?_;rintro e a4 ⟨rfl,r⟩;have d:=H (i.next r);clear r i;have en:=a2.out;go_wp2_with fail;clear en;refine (BY w0 a len cap G R _ _ d.rd.at).mono ?_;rintro e a5 ⟨v,rfl,L,r⟩;obtain⟨va,vb,vc,rfl⟩:=fW L;have P:=(ik L).symm;subst P;have j:=gz d.rd.g.size L;rw [<-O.out] at j;have f:=H (d.next r);have HB:=H j;clear r L j d;obtain⟨s,t,x,y,z,A⟩:=f.cells;have B:=f.fr 5;go_wp2_with fail;have g:=H (f.setD va vc ys HB a1);rw [O.out] at g;clear f s t x y z A B;refine (M w0 a len cap G R _ _ g.rd.at).mono ?_;rintro e a6 ⟨rfl,r⟩;have l:=H (g.next r);clear r g;obtain⟨s,t,x,y,z,A⟩:=l.cells;have B:=l.fr 2;have Ox:=H (l.setP ((c1:Int)%20) Z Z);go_wp2;apply HK.out;exact H (Ox)
 apply nF;intro w0 a len cap V R gv W X Y K Q d0 a3 w;intros;rename_i F q;have G:=H V;clear V;have HK:=H q;clear q
 conv=>arg 2;whnf
 obtain⟨s,t,x,y,z,A⟩:=F.cells;have B:=F.fr 0;go_wp2_with fail;have i:=H (F.setKd 6);clear F s t x y z A B;refine (N w0 a len cap G R _ _ i.rd.at).mono ?_;rintro e a4 ⟨rfl,r⟩;have d:=H (i.next r);clear r i;have en:=a2.out;go_wp2_with fail;clear en;refine (BY w0 a len cap G R _ _ d.rd.at).mono ?_;rintro e a5 ⟨v,rfl,L,r⟩;obtain⟨va,vb,vc,rfl⟩:=fW L;have P:=(ik L).symm;subst P;have j:=gz d.rd.g.size L;rw [<-O.out] at j;have f:=H (d.next r);have HB:=H j;clear r L j d;obtain⟨s,t,x,y,z,A⟩:=f.cells;have B:=f.fr 5;go_wp2_with fail;have g:=H (f.setD va vc ys HB a1);rw [O.out] at g;clear f s t x y z A B;refine (M w0 a len cap G R _ _ g.rd.at).mono ?_;rintro e a6 ⟨rfl,r⟩;have l:=H (g.next r);clear r g;obtain⟨s,t,x,y,z,A⟩:=l.cells;have B:=l.fr 2;have Ox:=H (l.setP ((c1:Int)%20) Z Z);go_wp2;apply HK.out;exact H (Ox)
def B8 (p:Nat) (o:fL) (p':Nat) (o':fL) (w0:World) (a:Option Addr) (len cap R:Nat) (gv:Nat) (tt:Bool) (W:World) (X Y k:Nat):Prop:=∀ (K:Act->World->Prop) (a1:Ending->World->Prop) (d0:Option Addr) (e9:Nat) (w:World) (u9 u10 u11 u12 u13 u14 u15 u16 u17 u18 u19 u20 u21 u22 u23 u24 u25 u26 u27 u28 u29 u30 u31 u32 u33 u34 u35 u36 u37 u38 u39 u40 u41 u42 u43 u44 u45 u46 u47 u48 u49 u50 u51 u52 u53 u54 u55 u56 u57 u58 u59 u60 u61 u62 u63 u64 u65 u66 u67 u68 u69 u70 u71 u72 u73 u74 u75 u76 u77 u78 u79 u80 u81 u82 u83 u84 u85 u86 u87 u88 u89 u90 u91 u92 u93 u94 u95 u96 u97 u98 u99 u100 u101 u102 u103 u104 u105 u106 u107 u108 u109 u110 u111 u112 u113 u114 u116 u117 u118 u119 u120 u121 u122 u123 u124 u125 u126 u127 u128 u129 u130 u131 u132 u133 u134 u135 u136 u137 u138 u139 u140 u141 u142 u143 u144 u145 u146 u147 u148:Value),Hid (Oq6 p w0 a len cap R W X Y o d0 e9 w) ->
 (∀ (v9 j5 g3 m3 e7 l2 f3 f9 j0 n8 i3 h5 e8 n4 o2 f8 m9 l8 h9 n2 i5 g9 j8 e6 n7 h4 g2 o0 n6 l7 g8 g6 g7 m6 i2 j6 g4 f4 m5 k7 l6 j4 m0 j3 i6 f5 k4 l9 k3 i0 n3 h7 n9 j1 k2 k5 f2 f7 g1 l4 k6 n1 j7 m8 o1 i1 j2 o3 i4 f6 j9 m4 i9 i8 h3 n0 g0 h6 i7 l3 m2 m1 l5 m7 h8 h0 n5 k9 h1 k8 g5 d5 i A t d8 a9 b2 a0 a3 e4 e0 b7 N d4 B a2 b4 O V l L d9 j b5 b8 e3 a5 e1 e e5 c7 a6 a7 b9 d6 F u d7 v b3 z a4 c9 c8 a8 b6 e2 b1 c6:Value) (d1:Option Addr) (h2:Nat) (w':World),Hid (Oq6 p' w0 a len cap R W X Y o' d1 h2 w')->K ⟨#[J R 0,I gv,.bool tt,undef,undef,undef,J Y 0,I k,J X 0,v9,j5,g3,m3,e7,l2,f3,f9,j0,n8,i3,h5,e8,n4,o2,f8,m9,l8,h9,n2,i5,g9,j8,e6,n7,h4,g2,o0,n6,l7,g8,g6,g7,m6,i2,j6,g4,f4,m5,k7,l6,j4,m0,j3,i6,f5,k4,l9,k3,i0,n3,h7,n9,j1,k2,k5,f2,f7,g1,l4,k6,n1,j7,m8,o1,i1,j2,o3,i4,f6,j9,m4,i9,i8,h3,n0,g0,h6,i7,l3,m2,m1,l5,m7,h8,h0,n5,k9,h1,k8,g5,d5,i,A,t,d8,a9,b2,a0,a3,e4,e0,b7,N,d4,B,a2,b4,O,V,l,L,d9,j,b5,b8,e3,a5,e1,e,e5,c7,a6,a7,b9,d6,F,u,d7,v,b3,z,a4,c9,c8,a8,b6,e2,b1,c6],[]⟩ w')->Code.wp prog ((Tryz.f29.body.bind (iN 1)).getD .skip) (Exit.then K (bodyPost prog Tryz.f29 a1)) ⟨#[J R 0,I gv,.bool tt,undef,undef,undef,J Y 0,I k,J X 0,u9,u10,u11,u12,u13,u14,u15,u16,u17,u18,u19,u20,u21,u22,u23,u24,u25,u26,u27,u28,u29,u30,u31,u32,u33,u34,u35,u36,u37,u38,u39,u40,u41,u42,u43,u44,u45,u46,u47,u48,u49,u50,u51,u52,u53,u54,u55,u56,u57,u58,u59,u60,u61,u62,u63,u64,u65,u66,u67,u68,u69,u70,u71,u72,u73,u74,u75,u76,u77,u78,u79,u80,u81,u82,u83,u84,u85,u86,u87,u88,u89,u90,u91,u92,u93,u94,u95,u96,u97,u98,u99,u100,u101,u102,u103,u104,u105,u106,u107,u108,u109,u110,u111,u112,u113,u114,I k,u116,u117,u118,u119,u120,u121,u122,u123,u124,u125,u126,u127,u128,u129,u130,u131,u132,u133,u134,u135,u136,u137,u138,u139,u140,u141,u142,u143,u144,u145,u146,u147,u148],[]⟩ w
theorem BK {p o tt k gv b} (g:∀ (w0:World) (a:Option Addr) (len cap:Nat),Cbq9 zs w0 a len cap->∀ (R:Nat) (W:World) (X Y:Nat),B8 p o p' b w0 a len cap R gv tt W X Y k):∃ (p':Nat) (b:fL),∀ (w0:World) (a:Option Addr) (len cap:Nat),Cbq9 zs w0 a len cap->∀ (R:Nat) (W:World) (X Y:Nat),B8 p o p' b w0 a len cap R gv tt W X Y k:=⟨p',b,g⟩
theorem Bh (zs p o tt) (k F:Nat) (hk:k<=255) (O:F<=400):∃ (p':Nat) (P:fL),∀ (w0:World) (a:Option Addr) (len cap:Nat),Cbq9 zs w0 a len cap->∀ (R:Nat) (W:World) (X Y:Nat),B8 p o p' P w0 a len cap R F tt W X Y k:=by
 have N:=H (de zs p);have S:=d_ zs p;generalize gH zs p=c at S N;generalize gJ zs p=p1 at N;obtain⟨G,L,M,T,V⟩:=sH zs p;have AD:=H M;have l:=H u64_in;clear M;have hm:k=255\/k=254\/k=253\/k=252\/k=251\/k<251:=Z;rcases hm with rfl|rfl|rfl|rfl|rfl|a0
 ·apply BK
  focus
   intro w0 a len cap f R W X Y K Q x g w
   intros
   rename_i d b
   have j:=H f
   clear f
   have i:=H b
   clear b
   conv=>arg 2;whnf
   obtain⟨m,n,q,s,t,u⟩:=d.cells
   have v:=d.fr 2
   go_wp2_with fail
   go_region_with (first|(go_at_call 28;refine (N w0 a len cap j R _ _ d.drew.rd.at).mono ?_;rintro e Vq ⟨rfl,r⟩;have y:=H (d.drew.next r);obtain ⟨y0,y1,y2,y3,y4,y5⟩:=y.cells;have yf:=y.fr 2;clear r))
   all_goals (go_wp2;apply i.out;exact H (y.setP _ (by first|omega|exact (l _).1|(simp;done)) (by first|omega|exact (l _).2|(simp;done))))
 ·apply BK;intro w0 a len cap f R W X Y K Q x g w;intros;rename_i d b;have j:=H f;clear f;have i:=H b;clear b
  conv=>arg 2;whnf
  obtain⟨m,n,q,s,t,u⟩:=d.cells;have v:=d.fr 1;go_wp2_with fail;have z:=H (d.setRef 0 ar);clear d m n q s t u v;refine (AD w0 a len cap j R _ _ z.rd.at).mono ?_;rintro e V6 ⟨rfl,r⟩;have A:=H (z.next r);clear r z;obtain⟨m,n,q,s,t,u⟩:=A.cells;have v:=A.fr 2;go_wp2;apply i.out;exact H (A.setP _ (by first|omega|exact (l _).1|(simp;done)) (by first|omega|exact (l _).2|(simp;done)))
 ·apply BK;intro w0 a len cap f R W X Y K Q x g w;intros;rename_i d b;have j:=H f;clear f;have i:=H b;clear b
  conv=>arg 2;whnf
  obtain⟨m,n,q,s,t,u⟩:=d.cells;have v:=d.fr 0;go_wp2;apply i.out;exact H (d.setKd 7)
 ·apply BK;intro w0 a len cap f R W X Y K Q x g w;intros;rename_i d b;have j:=H f;clear f;have i:=H b;clear b
  conv=>arg 2;whnf
  obtain⟨m,n,q,s,t,u⟩:=d.cells;have v:=d.fr 1;go_wp2;apply i.out;exact H (d.setRef _ (by first|omega|exact sD _|(rw [Hh];omega)|(simp;done)))
 ·apply BK;intro w0 a len cap f R W X Y K Q x g w;intros;rename_i d b;have j:=H f;clear f;have i:=H b;clear b
  conv=>arg 2;whnf
  go_wp2_with fail;refine (N w0 a len cap j R _ _ d.rd.at).mono ?_;rintro e V7 ⟨rfl,r⟩;have B:=H (d.next r);clear r d;obtain⟨m,n,q,s,t,u⟩:=B.cells;have v:=B.fr 3;go_wp2;apply i.out;exact H (B.setA _ (by first|omega|exact (l _).1|(simp;done)) (by first|omega|exact (l _).2|(simp;done)))
 apply BK;intro w0 a len cap f R W X Y K Q x g w;intros;rename_i d b;have j:=H f;clear f;have i:=H b;clear b
 conv=>arg 2;whnf
 have g1:((k:Int)==255)=false:=bG;have g2:((k:Int)==254)=false:=bG;have g3:((k:Int)==253)=false:=bG;have g4:((k:Int)==252)=false:=bG;have g5:((k:Int)==251)=false:=bG;go_wp2;apply i.out;exact d
theorem Az (zs p o tt k) (m:Int) (c:0<=m/\m<16):∃ (p':Nat) (b:fL),∀ (w0:World) (a:Option Addr) (len cap:Nat),Cbq9 zs w0 a len cap->∀ (R c:Nat) (W:World) (X Y:Nat),B9 p o p' b w0 a len cap R c tt W X Y k m:=by
 have b:(m=0\/m=1\/m=2\/m=3)\/(m=4)\/(m=5\/m=6)\/(m=7\/m=8\/m=9\/m=10\/m=11)\/(m=12)\/(m=13\/m=14\/m=15):=Z;rcases b with b|b|b|b|b|b;·exact ED zs p o tt k m b
 ·exact D1 zs p o tt k m b
 ·exact Ex zs p o tt k m b
 ·exact Ef zs p o tt k m b
 ·exact D6 zs p o tt k m b
 exact Eb zs p o tt k m b
theorem D8 (zs p) (c:Nat) (z:c<=400) (A:Bool):∃ (o:fL) (p':Nat),∀ (w0:World) (a:Option Addr) (len cap:Nat),Cbq9 zs w0 a len cap->∀ (R:Nat) (W:World),Rp p w0 a len cap R W W ->
  Calls prog 29 #[J R 0,I c,.bool A] W λe W'=>∃ d dc,e=.returned (.agg (fH ⟨o,d,dc⟩).toArray)/\Od6 W.heap.size ⟨o,d,dc⟩ W'/\Rp p' w0 a len cap R W W':=by
 have N:=H (de zs p);have hk:=d_ zs p;generalize gH zs p=k at hk N;generalize gJ zs p=m at N;have v:=H (de zs m);have B:=d_ zs m;generalize gH zs m=c3 at B v;generalize gJ zs m=t at v;have F:=H (de zs t);have G:=d_ zs t;generalize gH zs t=c4 at G F;generalize gJ zs t=p3 at F;obtain⟨n,q,HA⟩:∃ (n:fL) (q:Nat),Hid ((c=0/\n=⟨0,0,0,0,0,[]⟩/\q=m)\/(0<c/\((k:Int)%3==0)=false/\n=⟨0,wrap64 ((c:Int)-(c3:Int)%(c:Int)),0,0,0,[]⟩/\q=t)\/(0<c/\((k:Int)%3==0)=true/\n=⟨0,wrap64 ((c4:Int)%(c:Int)+1),0,0,0,[]⟩/\q=p3)):=by
  by_cases h1:c=0;·exact⟨_,_,H (.inl ⟨h1,rfl,rfl⟩)⟩
  cases h2:((k:Int)%3==0);·exact⟨_,_,H (.inr (.inl ⟨Z,rfl,rfl,rfl⟩))⟩
  exact⟨_,_,H (.inr (.inr ⟨Z,rfl,rfl,rfl⟩))⟩
 obtain⟨q2,o2,B1⟩:=Az zs q n A k ((k:Int)%16) Z;obtain⟨q3,o3,B2⟩:=Bh zs q2 o2 A k c hk z;have K:=H B1;have L:=H B2;clear B1 B2;refine⟨o3,q3,?_⟩;intro w0 a len cap h0 R W M;have s:=H h0;have RN:=H M.lt;have w:=H (M.below ((Fu _ _).alloc (Fv _) (.cells #[I 0,I 0,U 0,U 0,U 0,C] 42)));have x:=H (ao W (.cells #[I 0,I 0,U 0,U 0,U 0,C] 42));clear h0 M;go_enter func29,ntmps29;go_wp2_with fail;generalize W.alloc (.cells #[I 0,I 0,U 0,U 0,U 0,C] 42)=V1 at w x ⊢;refine (N w0 a len cap s R _ _ w.at).mono ?_;rintro e l ⟨rfl,O⟩;have P:=H (w.of O);have Q:=H ((O.g.block _ (ag x) (λe=>by cases e;have:=RN.out;omega)).trans x);clear O w x;have f:=H (show Oq6 m w0 a len cap R W l.heap.size W.heap.size ⟨0,0,0,0,0,[]⟩ none 0 (l.alloc (.cells #[I 0,I 0,U 0,U 0,U 0,C] 42)) from by
  have b:=(Fu l.heap.size l).alloc (Fv _) (.cells #[I 0,I 0,U 0,U 0,U 0,C] 42);have hl:=ag Q.out;exact⟨P.below b,RN,ao l _,P.g.size,by rw [b.block _ hl];exact Q,Fv _,Z,⟨ar,ar,ar,⟨rfl,.inl ⟨rfl,rfl⟩⟩,ar,λy hy=>by cases hy⟩⟩)
 clear P Q;go_upto_if 13 with fail
 generalize (l.alloc (.cells #[I 0,I 0,U 0,U 0,U 0,C] 42))=V3 at f ⊢;generalize l.heap.size=X at f ⊢;generalize a0:W.heap.size=Y at f ⊢;go_cut [13] (λ_ w'=>Hid (Oq6 q w0 a len cap R W X Y n none 0 w'));case first =>
  rcases HA.out with ⟨S,rfl,rfl⟩|⟨S,h3,rfl,rfl⟩|⟨S,h3,rfl,rfl⟩
  ·subst S;go_wp2;go_meet;case rel=>exact f
  ·have T:((c:Int)==0)=false:=bG;go_wp2_with fail;refine (v w0 a len cap s R _ _ f.rd.at).mono ?_;rintro e V3 ⟨rfl,r⟩;have i:=H (f.next r);clear r f;obtain⟨V,z1,z2,z3,z4,z5⟩:=i.cells;have zf:=i.fr 1;go_wp2;go_meet;case rel=>exact H (i.setRef _ (sD _))
  have T:((c:Int)==0)=false:=bG;go_wp2_with fail;refine (v w0 a len cap s R _ _ f.rd.at).mono ?_;rintro e V3 ⟨rfl,r⟩;have i:=H (f.next r);clear r f;have Ox:=H (i.setRef (wrap64 ((c:Int)-(c3:Int)%(c:Int))) (sD _));obtain⟨V,z1,z2,z3,z4,z5⟩:=i.cells;have zf:=i.fr 1;go_wp2_with fail;clear V z1 z2 z3 z4 z5 zf;refine (F w0 a len cap s R _ _ Ox.rd.at).mono ?_;rintro e V4 ⟨rfl,r⟩;have O4:=H (Ox.next r);clear r Ox;obtain⟨V,z1,z2,z3,z4,z5⟩:=O4.cells;have zf:=O4.fr 1;go_wp2;go_meet;case rel=>exact H (O4.setRef _ (by first|exact sD _|(rw [Hh];omega)|omega))
 case rest =>
  have i:=hcut;clear f;go_upto_block 0 with fail
  apply K w0 a len cap s R c W X Y;·exact i
  clear i;intros;rename_i d2 a1 w2 Oz;go_upto_block 1 with fail
  apply L w0 a len cap s R W X Y;·exact Oz
  clear Oz;intros;rename_i d3 u w3 j;go_wp2_with (first|(refine Gt rfl 42 _ rfl _ rfl _ _ _ _ j.x underlying42 rfl E ?_)|(refine Gf rfl 42 _ _ rfl _ _ rfl rfl 42 _ j.y E rfl (by simp [fH,Value.oneCell']) ?_));refine fM (aw j.y _) underlying42 ?_;have g:=aj w3 Y (fH ⟨o3,d3,u⟩).toArray;have hy:=j.yn;have hr:=j.rn;have od:=j.od.kept g (eD j.od.d j.y ar);exact⟨d3,u,rfl,od,j.rd.app g (λr e=>by cases e;omega)⟩
structure D9q9 (p:Nat) (w:World) (a:Option Addr) (len cap R Cx Y:Nat) (c:Cd) (v:Value) (ops:List df) (W:World):Prop where
 rd:Rp p w a len cap R w W
 c1:R<Cx
 y1:w.heap.size<=Y
 yr:Y<R
 cb:W.heap[Cx]?=some (.cells (pQ c).toArray 26)
 yb:W.heap[Y]?=some (.cells #[I 0,I 0,I 0,I 0,U 0,C] 26)
 ok:Ok4 (R+1) c W
 row:W.ownsRow (R+1) 42 6 v ops.length (iT ops)
 dat:∀ q∈ops,Od6 (R+1) q W
section
variable {p:Nat} {w:World} {a:Option Addr} {len cap R Cx Y:Nat} {c:Cd} {v:Value} {ops:List df} {W:World}
theorem D9q9.next (h:D9q9 p w a len cap R Cx Y c v ops W) {W'} (b:Rp p' w a len cap R W W'):D9q9 p' w a len cap R Cx Y c v ops W':=by
 have f:=h.c1;have g:=h.yr;refine⟨h.rd.of b,f,h.y1,g,?_,?_,h.ok.kept b.g (λe=>by have:=(h.ok.d.lt R e).1;omega),h.row.kept b.g (.inr λe=>by have:=(h.row.lt R e).1;omega),λq d=>(h.dat q d).kept b.g (λe=>by have:=((h.dat q d).d.lt R e).1;omega)⟩;·rw [b.g.block Cx (ag h.cb) (λe=>by cases e;omega)];exact h.cb
 rw [b.g.block Y (ag h.yb) (λe=>by cases e;omega)];exact h.yb
theorem D9q9.below (h:D9q9 p w a len cap R Cx Y c v ops W) {W'} (b:D W W'):D9q9 p w a len cap R Cx Y c v ops W':=h.next (h.rd.at.below b)
theorem D9q9.app (h:D9q9 p w a len cap R Cx Y c v ops W) (K:ops.length<=1000) (q) (f:Od6 (R+1) q W):∃ k g,
  (Builtin.append_ #[27,27] 27 #[v,Vl W.heap.size 1 1]).run prog (W.alloc (.cells (fH q).toArray 42))=.ok k g/\D9q9 p w a len cap R Cx Y c k (ops++[q]) g:=by
 obtain⟨t,l,m,n,o⟩:=G0 yK;have y:=(Fu W.heap.size W).alloc (Fv _) (.cells (fH q).toArray 42);have b:=h.below y;have z:R+1<=(W.alloc (.cells (fH q).toArray 42)).heap.size:=by have:=b.rd.lt;omega
 obtain⟨k,g,A,B,i,_⟩:=run_append_own_at (P:=prog) (w:=W.alloc (.cells (fH q).toArray 42)) (R+1) 27 27 42 t _ 6 64 underlying27 l m n o rfl Z _ _ _ b.row ⟨W.heap.size,0,none⟩ 1 1 (fH q) rfl (vZ _ _ _) (by intro u d;simp [fH] at d;rcases d with rfl|rfl|rfl|rfl|rfl|rfl <;> rfl) (by unfold maxLen;omega) Z z;have L:=h.c1;have F:=h.yr;have G:∀ r,v.ownBlock=some r->w.heap.size<=r/\R<r:=λr e=>by have:=(h.row.lt r e).1;have:=h.y1;omega
 have s:Od6 (R+1) q (W.alloc (.cells (fH q).toArray 42)):=⟨f.p,f.a,f.b,f.d.alloc _,f.r,f.y⟩;refine⟨k,g,A,⟨b.rd.app i G,h.c1,h.y1,h.yr,?_,?_,⟨h.ok.k0,h.ok.k1,h.ok.dw,b.ok.d.kept i (t8 b.ok.d b.row ar)⟩,by rw [FC,qT];exact B,λx d=>?_⟩⟩;·rw [i.block Cx (ag b.cb) (λe=>eD b.row b.cb ar e.symm)];exact b.cb
 ·rw [i.block Y (ag b.yb) (λe=>eD b.row b.yb ar e.symm)];exact b.yb
 have j:∀ x,Od6 (R+1) x (W.alloc (.cells (fH q).toArray 42))->Od6 (R+1) x g:=λx d=>⟨d.p,d.a,d.b,d.d.kept i (t8 d.d b.row ar),d.r,d.y⟩
 rcases F8.1 d with d|d;·exact j x (b.dat x d)
 obtain rfl:=List.mem_singleton.1 d;exact j _ s
end
end
end Go.Proofs.YtdngbppdomoenaaGreatDoor
