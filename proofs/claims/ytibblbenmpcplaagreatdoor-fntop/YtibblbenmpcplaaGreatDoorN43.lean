import Derived.Test.YtibblbenmpcplaaGreatDoorN33
set_option linter.unusedVariables false
set_option linter.unusedSimpArgs false
set_option maxRecDepth 20000
set_option maxHeartbeats 8000000
namespace Go.Proofs.YtibblbenmpcplaaGreatDoor
open Go.Proofs.Tryz
variable {B P Q T c dc j n s:Nat} {cf:Cf} {V W:World} {da:Option Addr} {l:List (Nat×Nat×Nat)} {ws:List (Option Addr×Nat×Nat)} {sv:Value}
section
open Go.RowKit Go.Maps
def I3 (h:Hs) (c s j:Nat):List (Nat×Nat×Nat):=((List.range j).filter λk=>decide (h.st c s k≠0)).map λk=>(c,s,k)
def I2 (h:Hs) (c s:Nat):List (Nat×Nat×Nat):=(List.range s).flatMap λe=>I3 h c e (aM c)
def I1 (h:Hs) (c:Nat):List (Nat×Nat×Nat):=(List.range c).flatMap λe=>I2 h e 6
def yx (h:Hs) (x:Nat×Nat×Nat):List Value:=[I x.1,I x.2.1,I x.2.2,I (h.st x.1 x.2.1 x.2.2),I (h.rq x.1 x.2.1 x.2.2)]
def fP (h:Hs) (l:List (Nat×Nat×Nat)):List Value:=l.flatMap (yx h)
theorem so (h) (l:List (Nat×Nat×Nat)) (x:Nat×Nat×Nat):fP h (l++[x])=fP h l++yx h x:=by simp [fP]
theorem BH (h:Hs) (c s j:Nat) (a:h.st c s j≠0):I3 h c s (j+1)=I3 h c s j++[(c,s,j)]:=by
 unfold I3;rw [Gs,Hl,Hr];simp [a]
theorem DV (h:Hs) (c s j:Nat) (a:h.st c s j=0):I3 h c s (j+1)=I3 h c s j:=by
 unfold I3;rw [Gs,Hl,Hr];simp [a]
theorem yL (h c s):I3 h c s 0=[]:=rfl
theorem xz (h c s j):(I3 h c s j).length<=j:=by
 unfold I3;rw [Gz];have:=Hb (λk=>decide (h.st c s k≠0)) (List.range j);simpa using this
theorem t6 (h c) (s:Nat):I2 h c (s+1)=I2 h c s++I3 h c s (aM c):=by
 unfold I2;rw [Gs,Gu];simp
theorem ua (h) (c:Nat):I1 h (c+1)=I1 h c++I2 h c 6:=by
 unfold I1;rw [Gs,Gu];simp
theorem x_ (h) (c:Nat) (s) (a:c<12):(I2 h c s).length<=s*64:=by
 induction s with
 | zero=>simp [I2]
 | succ s b =>
  rw [t6,FC];have d:=xz h c s (aM c);have e:=aX a;omega
theorem Cr (h) (c:Nat) (b:c<=12):(I1 h c).length<=c*384:=by
 induction c with
 | zero=>simp [I1]
 | succ c a =>
  rw [ua,FC];have d:=x_ h c 6 Z;have e:=a Z;omega
theorem zy:(prog.info? 128).map (λi=>(i.zero,i.size,i.bytes))=some (some (.agg #[I 0,I 0,I 0,I 0,I 0]),5,40):=E
theorem xE (W:World) (B:Nat) (v:Value) (h) (l:List (Nat×Nat×Nat)) (x) (g:Nat) (c) (a:W.ownsRow B 128 5 v l.length (fP h l)) (o:W.heap[g]?=some (.cells (yx h x).toArray 128)) (z:l.length<=100000) (p:B<=W.heap.size) :
  ∃ d b,(Builtin.append_ #[31,31] 31 #[v,Vl g 1 c]).run prog W=.ok d b/\b.ownsRow B 128 5 d (l++[x]).length (fP h (l++[x]))/\W.grownBy b v.ownBlock:=by
 obtain⟨q,e,f,i,k⟩:=G0 zy;have m:∀ j u,(yx h x)[j]?=some u->W.cell? ((⟨g,0,none⟩:Addr).add j)=some u:=λj u r=>by
  rw [Addr.add_mid,Gb,GT _ _ j _ _ _ o];simpa using r
 have s:∀ u∈yx h x,u.oneCell'=true:=λu n=>by
  simp only [yx,F4,Gp,or_false] at n;rcases n with rfl|rfl|rfl|rfl|rfl <;> rfl
 obtain⟨d,b,t,w,y,_⟩:=Ia (P:=prog) W B 31 31 128 q _ 5 40 underlying31 e f i k rfl Z v _ _ a ⟨g,0,none⟩ 1 c (yx h x) rfl m s (by unfold maxLen;omega) Z p;exact⟨d,b,t,by rw [so,FC];exact w,y⟩
def lN (y:Ly):List Value:=(List.range 72).map λi=>J (y.sb (i/6) (i%6)) 0
theorem Hp.range72 {y d h} (b:Hp B y d cf h W):W.rangeAt y.P 7 (lN y):=by
 intro j v a;have c:j<72:=by have:=(Fz.1 a).1;simpa [lN] using this
 rw [b.cell (7+j) Z _ rfl];unfold boxF;rw [GO Z,GP Z,show 7+j-7=j by omega];rw [<-a];simp [lN,c]
theorem EL (y) (k:Nat) (a:k<12) (w:World):(Instr.index 61 (.agg (lN y).toArray) (I k)).run prog w=.ok (.agg (kv y k).toArray) w:=by
 rcases (show k=0\/k=1\/k=2\/k=3\/k=4\/k=5\/k=6\/k=7\/k=8\/k=9\/k=10\/k=11 by omega) with rfl|rfl|rfl|rfl|rfl|rfl|rfl|rfl|rfl|rfl|rfl|rfl <;> kernel_rfl
theorem EW (y c) (k:Nat) (a:k<6) (w:World):(Instr.index 60 (.agg (kv y c).toArray) (I k)).run prog w=.ok (J (y.sb c k) 0) w:=by
 rcases (show k=0\/k=1\/k=2\/k=3\/k=4\/k=5 by omega) with rfl|rfl|rfl|rfl|rfl|rfl <;> kernel_rfl
structure Sv (b g:Nat) (s j:Nat) (st rq:Int) (V:World):Prop where
 c0:V.cell? ⟨b,1,none⟩=some (I s)
 c1:V.cell? ⟨g,3,none⟩=some (I j)
 c2:V.cell? ⟨g,0,none⟩=some (I st)
 c3:V.cell? ⟨g,1,none⟩=some (I rq)
theorem Sv.at {b g:Nat} {st rq on r cap} (d:V.heap[b]?=some (.cells (CZ c s on r n cap) 157)) (a:V.heap[g]?=some (.cells (t5 st rq b j) 162)):Sv b g s j st rq V :=
 ⟨bJ d,bJ a,bJ a,bJ a⟩
theorem Sv.below {b g st rq V'} (h:Sv b g s j st rq V) (k:D V V'):Sv b g s j st rq V':=⟨ad k h.c0,ad k h.c1,ad k h.c2,ad k h.c3⟩
theorem pD (B y d cf h W) (u:Hp B y d cf h W) :
  Calls prog 49 #[J y.P 0] W λe W'=>∃ v,e=.returned v/\W'.ownsRow W.heap.size 128 5 v (I1 h 12).length (fP h (I1 h 12))/\D W W':=by
 have b:=H u.range72;have x:=H (λk T w=>EL y k T w);have z:=H (λc k T w=>EW y c k T w);unfold kv at x z;have o:=H (λV (A:D W V)=>u.below A);have SN:=H (λc (hc:c<12)=>(aX hc));clear u;go_enter func49,ntmps49;go_wp2_with (refine wpList_load_mid rfl 61 _ rfl _ _ rfl _ _ b underlying61 rfl E ?_);generalize a:(lN y).toArray=a5 at *;clear a b;go_loopw [3,14] (λv i wr=>∃ c:Nat,c<=12/\i=I c/\Hid (wr.ownsRow W.heap.size 128 5 v (I1 h c).length (fP h (I1 h c)))/\Hid (D W wr)) (λ_ i _=>12-(intOf i).toNat);case atStart=>exact ⟨0,Z,rfl,H ⟨rfl,.inl ⟨rfl,rfl⟩⟩,H (Fu _ _)⟩
 case round =>
  obtain⟨c,hc,rfl,f,b⟩:=hrel;obtain⟨N,O,P,rfl⟩:=aA f.out;by_cases g:c<12
  ·have a6:(c:Int)<12:=Z;have X:=λw=>x.out c g w
   have q:D wr (wr.alloc (.cells #[J (y.sb c 0) 0,J (y.sb c 1) 0,J (y.sb c 2) 0,J (y.sb c 3) 0,J (y.sb c 4) 0,J (y.sb c 5) 0] 60)):=(Fu _ _).alloc (Fv _) _;have Y:=H (ax f q);have B1:=H (b.trans (q.mono b.size));have a0:=SN.out c g;have a7:=Cr h c Z;clear f b q;go_wp2_with fail;generalize wr.alloc _=V1 at Y B1 ⊢;go_loopw [3,19] (λv i wr=>∃ s:Nat,s<=6/\i=I s/\Hid (wr.ownsRow W.heap.size 128 5 v (I1 h c++I2 h c s).length (fP h (I1 h c++I2 h c s)))/\Hid (D W wr)) (λ_ i _=>6-(intOf i).toNat);(case atStart=>exact ⟨0,Z,rfl,H (by rw [show I2 h c 0=[] from rfl,Gl];exact Y),B1⟩);case round =>
    clear Y B1;obtain⟨s,hs,rfl,f,b⟩:=hrel;obtain⟨N,O,P,rfl⟩:=aA f.out;by_cases l:s<6
    ·have a8:(s:Int)<6:=Z;have a1:=λw=>z.out c s l w
     have d3:=(o wr b).bc c s g l |>.d3
     have a9:=x_ h c s g;have HR:=H (λV (A:D W V) j (t:j<aM c)=>IT ((o V A).rowAt c s j g l t) (Sv.at ((o V A).sl c s g l) ((o V A).sm c s j g l t)));have HY:=H (λj (t:h.st c s j≠0)=>BH h c s j t);have HN:=H (λj (t:h.st c s j=0)=>DV h c s j t);have HL:=H (λj=>xz h c s j);obtain⟨n,hn⟩:∃ n,aM c=n:=⟨_,rfl⟩;have a2:=H hn;rw [hn] at d3 HR a0;generalize y.sr c s=r at *;generalize y.sc c s=a3 at *;go_wp2_with fail;go_loopw [3,27] (λv i wr=>∃ j:Nat,j<=n/\i=I j/\Hid (wr.ownsRow W.heap.size 128 5 v (I1 h c++I2 h c s++I3 h c s j).length (fP h (I1 h c++I2 h c s++I3 h c s j)))/\Hid (D W wr)) (λ_ i _=>n-(intOf i).toNat);(case atStart=>exact ⟨0,Z,rfl,H (by rw [yL,Gl];exact f),b⟩);case round =>
      clear f b d3;obtain⟨j,t,rfl,f,b⟩:=hrel;obtain⟨N,O,P,rfl⟩:=aA f.out;by_cases F:j<n
      ·obtain⟨r0,sv⟩:=HR.out wr b j F;have G:=sv.c2;have K:(I1 h c++I2 h c s++I3 h c s j).length<=100000:=by
        rw [FC,FC];have:=HL.out j;omega
       by_cases L:h.st c s j=0
       ·have a:=H (HN j L);rw [L] at G;clear sv;go_wp2;go_roundw;(case rel=>exact ⟨j+1,Z,aY,H (by rw [a.out];exact f),b⟩);case measure=>simp [intOf];omega
       have EY:=H (HY j L);have b0:(h.st c s j==0)=false:=(by simpa using L);have a4:(h.st c s j != 0)=true:=(by simpa using L);have SD:=H (sv.below (Fu _ wr).drew);have M:D wr wr.drew:=(Fu _ _).drew;have q:Below wr.drew.heap.size wr.drew (wr.drew.alloc (.cells (yx h (c,s,j)).toArray 128)):=(Fu _ _).alloc (Fv _) _;have Q:=H ((b.trans (M.mono b.size)).trans (q.mono (Fx b.size M.size)));obtain⟨v',a,m,o9,g9⟩:=xE _ W.heap.size (.slice N O P) h (I1 h c++I2 h c s++I3 h c s j) (c,s,j) wr.drew.heap.size 1 (ax (ax f M) q) (ao wr.drew _) K Q.size;obtain⟨wa,wb,wc,rfl⟩:=aA o9;have BU:=H (Q.grown g9 Q.size (λp u=>(aF (ax (ax f M) q) u).1));have R:=H (SD.below q);have SU:=H (show Sv (y.sb c s) (y.sm c s j) s j (h.st c s j) (h.rq c s j) a from (HR a BU j F).2);have O9:=H o9;clear o9 g9 q M sv f b Q;unfold yx at m R;(go_upto_region 12 with fail);refine rh (S:=Sv (y.sb c s) (y.sm c s j) s j (h.st c s j) (h.rq c s j)) ?_;generalize M:wr.drew=V1 at SD R m;have p:({ heap:=wr.heap,tape:=wr.tape,drawn:=wr.drawn+1,os:=wr.os,output:=wr.output } : World)=V1:=M;rw [p];clear M p r0 G a1 X;have p:=SD.out;(iterate 21 (refine py p ?_;simp only [f0,f1,Nat.reduceAdd,lz,l0,ls]));refine po 21 λK' G=>?_;go_simp;refine G _ _ ⟨R,?_⟩;clear p;have p:=R.out;clear G K';refine po 22 λK' G=>?_
       refine aV 31 (.tmp 37) (.tmp 58) (v:=.slice N O P) (v2:=Vl V1.heap.size 1 1) E E E E m ?_;refine G _ _ ⟨SU,?_⟩;clear p;have p:=SU.out;clear G K';refine py p ?_;simp only [f0,f1,Nat.reduceAdd,lz,l0,ls];refine bY ?_;go_wp2;go_roundw;(case rel=>exact ⟨j+1,Z,aY,H (by rw [EY.out,<-GJ];exact O9),BU⟩);case measure=>simp [intOf];omega
      obtain rfl:j=n:=Z;go_wp2;go_roundw;(case rel=>exact ⟨s+1,Z,aY,H (by rw [t6,a2.out,<-GJ];exact f),b⟩);case measure=>simp [intOf];omega
    obtain rfl:s=6:=Z;go_wp2;go_roundw;(case rel=>exact ⟨c+1,Z,aY,H (by rw [ua];exact f),b⟩);case measure=>simp [intOf];omega
  obtain rfl:c=12:=Z;go_wp2;go_ret;exact⟨_,rfl,f,b⟩
end
section
open Go.RowKit
def C7 (cf:Cf) (da:Option Addr) (dc T:Nat) (sv wv:Value):Array Value:=#[I cf.mix,I cf.fifo,I cf.large,I cf.bud,U cf.key,.slice da cf.ds.length dc,J T 0,sv,wv,C,C,C,I 0]
structure Nw (B:Nat) (cf:Cf) (da:Option Addr) (dc P T Q:Nat) (l:List (Nat×Nat×Nat)) (ws:List (Option Addr×Nat×Nat)) (sv wv:Value) (W:World):Prop where
 box:W.heap[P]?=some (.cells (C7 cf da dc T sv wv) 123)
 bp:B<=P
 bq:B<=Q
 ds:Sl W da cf.ds
 sp:Sx T Q 283 (cf.bud:Nat) (λ_=>none) W
 sl:W.ownsRow B 126 6 sv l.length (l.flatMap yI)
 wt:W.ownsRow B 94 3 wv ws.length (ws.flatMap (rU cf.fifo))
 wm:∀ p∈ws,Wq W (.slice p.1 p.2.1 p.2.2) (List.replicate cf.mix (-1))
theorem Nw.below {B cf da dc P T Q l ws sv wv W W'} (h:Nw B cf da dc P T Q l ws sv wv W) (a:D W W'):Nw B cf da dc P T Q l ws sv wv W':=by
 have k:Ky (λ_=>False) W W':=Ky.below a;exact⟨k.cells _ _ _ _ h.box (λe=>e),h.bp,h.bq,h.ds.ky k (λe=>e),h.sp.below a,ai h.sl k (λe=>e),ai h.wt k (λe=>e),λp b=>(h.wm p b).ky k (λe=>e)⟩
theorem Nw.cell {B cf da dc P T Q l ws sv wv W} (h:Nw B cf da dc P T Q l ws sv wv W) (i:Nat) (v:Value) (a:(C7 cf da dc T sv wv)[i]?=some v):W.cell? ⟨P,i,none⟩=some v:=by
 simp [World.cell?,h.box,a]
theorem Nw.addS {wv} (h:Nw B cf da dc P T Q l ws sv wv V) (k:B<=V.heap.size) (t) (o:l.length<=2000) :
  ∃ b a,(Builtin.append_ #[120,120] 120 #[sv,Vl V.heap.size 1 1]).run prog (V.alloc (.cells (yI t).toArray 126))=.ok b a/\a.cell? ⟨P,7,none⟩=some sv/\a.frozen? ⟨P,7,none⟩=false/\Nw B cf da dc P T Q (l++[t]) ws b wv (a.setCell ⟨P,7,none⟩ b)/\Below B V (a.setCell ⟨P,7,none⟩ b):=by
 have i:D V (V.alloc (.cells (yI t).toArray 126)):=(Fu _ _).alloc (Fv _) _;have d:=h.below i;have m:=Fx k i.size;obtain⟨b,a,q,r,n⟩:=BL _ B sv l t V.heap.size 1 d.sl (ao V _) o m;have e:Ky (· = 126) _ a:=Ky.grownO (λP j=>by obtain ⟨_,c,f⟩:=aF d.sl j;exact⟨c,126,_,f,rfl⟩) n;have g:=e.cells _ _ _ _ d.box ar;have f:Ky (· = 123) a (a.setCell ⟨P,7,none⟩ b):=Ky.grown g rfl (au (al a P) 7 b);refine⟨b,a,q,by simp [World.cell?,g,C7],by simp [World.frozen?,g],⟨?_,h.bp,h.bq,(d.ds.ky e ar).ky f ar,(d.sp.ky e ar ar ar).ky f ar ar ar,ai r f ar,ai (ai d.wt e ar) f ar,λp s=>((d.wm p s).ky e ar).ky f ar⟩,?_⟩;·simp [World.setCell,FD,g,C7]
 exact ((i.mono k).trans ((Fu B _).grown n m (λP j=>(aF d.sl j).1))).setCell h.bp _
theorem Nw.addW {wv} (h:Nw B cf da dc P T Q l ws sv wv V) (m:B<=V.heap.size) (t:Option Addr×Nat×Nat) (r:Wq V (.slice t.1 t.2.1 t.2.2) (List.replicate cf.mix (-1))) (s:ws.length<=2000) :
  ∃ b a,(Builtin.append_ #[32,32] 32 #[wv,Vl V.heap.size 1 1]).run prog (V.alloc (.cells (rU cf.fifo t).toArray 94))=.ok b a/\a.cell? ⟨P,8,none⟩=some wv/\a.frozen? ⟨P,8,none⟩=false/\Nw B cf da dc P T Q l (ws++[t]) sv b (a.setCell ⟨P,8,none⟩ b)/\Below B V (a.setCell ⟨P,8,none⟩ b)/\Below B V a:=by
 have i:D V (V.alloc (.cells (rU cf.fifo t).toArray 94)):=(Fu _ _).alloc (Fv _) _;have u:Ky (λ_=>False) V (V.alloc (.cells (rU cf.fifo t).toArray 94)):=Ky.below i;have d:=h.below i;have n:=Fx m i.size;obtain⟨b,a,v,w,o⟩:=By _ B wv cf.fifo ws t V.heap.size 1 d.wt (ao V _) s n;have f:Ky (· = 94) _ a:=Ky.grownO (λP k=>by obtain ⟨_,c,e⟩:=aF d.wt k;exact⟨c,94,_,e,rfl⟩) o;have j:=f.cells _ _ _ _ d.box ar;have q:=(i.mono m).trans ((Fu B _).grown o n (λP k=>(aF d.wt k).1));have g:Ky (· = 123) a (a.setCell ⟨P,8,none⟩ b):=Ky.grown j rfl (au (al a P) 8 b);refine⟨b,a,v,by simp [World.cell?,j,C7],by simp [World.frozen?,j],⟨?_,h.bp,h.bq,(d.ds.ky f ar).ky g ar,(d.sp.ky f ar ar ar).ky g ar ar ar,ai (ai d.sl f ar) g ar,ai w g ar,λp e=>?_⟩,q.setCell h.bp _,q⟩;·simp [World.setCell,FD,j,C7]
 rcases F8.1 e with e|e;·exact ((d.wm p e).ky f ar).ky g ar
 simp at e;subst e;exact ((r.ky u (λe=>e)).ky f ar).ky g ar
theorem Nw.made {wv} (h:Nw B cf da dc P T Q dF ws sv wv W) (m:ws.length=12) (k:∀ g,¬e_ Q W g):∃ x:Sm,x.P=P/\l_ x/\Sh B x cf (aP cf) W:=by
 have d:dF.length=1062:=by decide +kernel
 obtain⟨q,n,rfl⟩:=aK h.sl;obtain⟨G,rfl⟩:=cr h.sl Z;have f:=h.sl;have j:=h.box;rw [d] at f j
 let a:Nat->Option Addr×Nat×Nat:=λc=>(ws[c]?).getD (none,0,0)
 refine⟨⟨P,T,Q,G,n,da,dc,wv,C,C,C,λc=>.slice (a c).1 (a c).2.1 (a c).2.2,λ_=>C⟩,rfl,λg l=>by simp [Value.ownBlock] at l,⟨j,h.bp,h.bq,λg l=>absurd l (k g),h.ds,h.sp,f,?_,λc r=>⟨?_,⟨none,0,rfl,λ_=>rfl,?_⟩⟩,⟨rfl,.inl ⟨rfl,rfl⟩⟩,⟨rfl,.inl ⟨rfl,rfl⟩⟩,⟨rfl,.inl ⟨rfl,rfl⟩⟩⟩⟩
 ·have b:=h.wt;rw [m] at b;have e:ws=(List.range 12).map a:=by
   apply Ho;intro i;by_cases o:i<12
   ·rw [Gv,List.getElem?_range o];have:i<ws.length:=Z;simp [a,Fy this]
   rw [FJ Z,FJ bG]
  have p:ws.flatMap (rU cf.fifo)=(List.range 12).flatMap λc=>[.slice (a c).1 (a c).2.1 (a c).2.2,C,I cf.fifo]:=by
   conv=>lhs;rw [e]
   rw [List.flatMap_map];rfl
  rw [p] at b;exact b
 ·have b:a c∈ws:=by
   have:c<ws.length:=Z;simp only [a,Fy this,Ht];exact Iw this
  exact h.wm _ b
 exact .inl ⟨rfl,rfl⟩
theorem Ow.wq {a zs} (h:Ow W B a c zs):Wq W (.slice a zs.length c) zs:=by
 refine⟨a,c,rfl,?_,?_⟩
 ·rcases h.2 with ⟨e,j⟩|⟨g,d,b,e,_⟩;·simp at e;intro _;exact e.2.2
  simp at e;intro f;rw [f] at e;simp at e
 rcases h.2 with ⟨e,j⟩|⟨g,d,b,e,m,l,n,o,p,f⟩;·simp at e;exact .inl ⟨e.1,List.length_eq_zero_iff.1 j⟩
 simp at e;refine .inr ⟨g,e.1,b,l,?_,λi k=>?_⟩;·rw [<-f];simp;omega
 rw [<-f,Hf (by rw [<-f] at k;simp at k;omega),Gg]
theorem ly {b:Nat} {e:TypeId} {d:Nat} {v:Value} {f:List Value} (h:W.ownsRow b e d v n f):∃ a n c,v=.slice a n c:=by
 obtain⟨a,c,h⟩:=aK h;exact⟨a,n,c,h⟩
theorem D5 (a:c<12):(rs (c:Int)+(s:Int)*(pg (c:Int)+1))*1024+(j:Int)*sz (c:Int)=((bh c s j:Nat):Int):=by
 rw [v3 a,pU a,uT a];unfold bh aD;simp
theorem Nw.mono {a:Nat} {wv} (h:Nw B cf da dc P T Q l ws sv wv W) (b:a<=B):Nw a cf da dc P T Q l ws sv wv W :=
 ⟨h.box,Fx b h.bp,Fx b h.bq,h.ds,h.sp,dm h.sl b,dm h.wt b,h.wm⟩
theorem Sx.noPg {bud} (h:Sx T Q n bud (λ_=>none) W) (g):¬e_ Q W g:=by
 rintro⟨k,hk⟩;obtain⟨c,b,e,d,_⟩:=h.row;simp only [World.cell?,b] at hk;by_cases a:k<n;·have:=(d k a).2.2;simp at hk;rw [this] at hk;simp at hk
 simp at hk;have:=(Array.getElem?_eq_some_iff.1 hk).1;omega
theorem zP:DG:=by
 intro cf da dc W e b;unfold gZ;have d:Below W.heap.size W (W.alloc (.cells #[.int .i64 (cf.mix:Nat),.int .i64 (cf.fifo:Nat),.int .i64 (cf.large:Nat),.int .i64 (cf.bud:Nat),.int .u64 cf.key,.slice da cf.ds.length dc] 26)):=(Fu _ _).alloc (Fv _) _;have a:=ao W (.cells #[.int .i64 (cf.mix:Nat),.int .i64 (cf.fifo:Nat),.int .i64 (cf.large:Nat),.int .i64 (cf.bud:Nat),.int .u64 cf.key,.slice da cf.ds.length dc] 26);have t:=H mA;have v:=H (λV=>Ce 283 (cf.bud:Nat) V Z);have HD:=H e;have i:=H b;clear e b;go_enter func55,ntmps55;go_wp2_with fail;generalize W.alloc _=V at d a ⊢;have BW:=H d;have M:=H d.size;clear d;obtain⟨Y,b⟩:∃ Y,W.heap.size=Y:=⟨_,rfl⟩;rw [b] at a ⊢;have HY:=H b;have f:=H (show ∀ d,Below V.heap.size V d->d.cell? ⟨Y,0,none⟩=some (.int .i64 (cf.mix:Nat))/\d.cell? ⟨Y,1,none⟩=some (.int .i64 (cf.fifo:Nat))/\d.cell? ⟨Y,2,none⟩=some (.int .i64 (cf.large:Nat))/\d.cell? ⟨Y,3,none⟩=some (.int .i64 (cf.bud:Nat))/\d.cell? ⟨Y,4,none⟩=some (.int .u64 cf.key)/\d.cell? ⟨Y,5,none⟩=some (.slice da cf.ds.length dc) from λd h =>
  ⟨ad h (by simp only [World.cell?,a];rfl),ad h (by simp only [World.cell?,a];rfl),ad h (by simp only [World.cell?,a];rfl),ad h (by simp only [World.cell?,a];rfl),ad h (by simp only [World.cell?,a];rfl),ad h (by simp only [World.cell?,a];rfl)⟩)
 clear a b;refine wp_region_held (S:=λd=>d.cell? ⟨Y,0,none⟩=some (.int .i64 (cf.mix:Nat))/\d.cell? ⟨Y,1,none⟩=some (.int .i64 (cf.fifo:Nat))/\d.cell? ⟨Y,2,none⟩=some (.int .i64 (cf.large:Nat))/\d.cell? ⟨Y,3,none⟩=some (.int .i64 (cf.bud:Nat))/\d.cell? ⟨Y,4,none⟩=some (.int .u64 cf.key)/\d.cell? ⟨Y,5,none⟩=some (.slice da cf.ds.length dc)) E ?_;simp only [FX,FN,F1,Nat.reduceAdd,FP,FO,FY,FV,F5];have a:=f.out _ (Fu _ _).drew;refine pf 0 (.agg #[.int .i64 (cf.mix:Nat),.int .i64 (cf.fifo:Nat),.int .i64 (cf.large:Nat),.int .i64 (cf.bud:Nat),.int .u64 cf.key,.slice da cf.ds.length dc]) rfl a (λW a=>by obtain ⟨y0,y1,y2,y3,y4,y5⟩:=a;first|(go_simp;done)|(go_simp;omega)) ?_;refine pf 2 (.pointer (some ⟨Y,3,none⟩)) rfl a (λ_ _=>E) ?_;refine pf 3 (.int .i64 (cf.bud:Nat)) rfl a (λW a=>by obtain ⟨y0,y1,y2,y3,y4,y5⟩:=a;first|(go_simp;done)|(go_simp;omega)) ?_;refine gu 1 ?_;refine cw λK' b=>?_;go_simp
 refine (t _).mono ?_;rintro e k ⟨rfl,g⟩;have u:Below V.heap.size V k:=⟨g.os,g.tape,g.output,g.size,g.block⟩;have y:=f.out _ u;refine b _ _ ⟨y,?_⟩;clear a;have a:=y;clear b K';refine gu 4 ?_;refine cw λK' b=>?_;go_simp
 refine (v _).mono ?_;rintro e z ⟨T,Q,rfl,w,n,hT,x⟩;have l:=az u n;have o:=f.out _ l;refine b _ _ ⟨o,?_⟩;clear a;have a:=o;clear b K';refine pf 5 (.agg #[.int .i64 (cf.mix:Nat),.int .i64 (cf.fifo:Nat),.int .i64 (cf.large:Nat),.int .i64 (cf.bud:Nat),.int .u64 cf.key,.slice da cf.ds.length dc,.pointer (some ⟨T,0,none⟩),.slice none 0 0,.slice none 0 0,.slice none 0 0,.slice none 0 0,.slice none 0 0,.int .i64 0]) rfl a (λ_ _=>E) ?_;refine gu 6 ?_;refine cw λK' b=>?_;go_simp
 have m:Below z.heap.size z (z.alloc (.cells #[.int .i64 (cf.mix:Nat),.int .i64 (cf.fifo:Nat),.int .i64 (cf.large:Nat),.int .i64 (cf.bud:Nat),.int .u64 cf.key,.slice da cf.ds.length dc,.pointer (some ⟨T,0,none⟩),.slice none 0 0,.slice none 0 0,.slice none 0 0,.slice none 0 0,.slice none 0 0,.int .i64 0] 123)):=(Fu _ _).alloc (Fv _) _;have q:=f.out _ (az l m);refine b _ _ ⟨q,?_⟩;clear a;have a:=q;clear b K';refine pf 7 (.pointer (some ⟨z.heap.size,0,none⟩)) rfl a (λ_ _=>E) ?_;refine bY ?_;have K3:=H (az l m);obtain⟨P,A⟩:∃ P,z.heap.size=P:=⟨_,rfl⟩;have N0:=H (show Nw V.heap.size cf da dc z.heap.size T Q (dF.take (fQ 0)) [] (.slice none 0 0) (.slice none 0 0) (z.alloc (.cells #[.int .i64 (cf.mix:Nat),.int .i64 (cf.fifo:Nat),.int .i64 (cf.large:Nat),.int .i64 (cf.bud:Nat),.int .u64 cf.key,.slice da cf.ds.length dc,.pointer (some ⟨T,0,none⟩),.slice none 0 0,.slice none 0 0,.slice none 0 0,.slice none 0 0,.slice none 0 0,.int .i64 0] 123)) from
  ⟨ao z _,(az u n).size,Fx u.size x,i.ky (Ky.below (BW.trans (K3.mono M)):Ky (λ_=>False) _ _) (λe=>e),w.below m,⟨rfl,.inl ⟨rfl,rfl⟩⟩,⟨rfl,.inl ⟨rfl,rfl⟩⟩,λp p=>by cases p⟩)
 rw [A] at N0 ⊢;have r:=H (show ∀ d,Below V.heap.size V d->d.cell? ⟨Y,0,none⟩=some (.int .i64 (cf.mix:Nat))/\d.cell? ⟨Y,1,none⟩=some (.int .i64 (cf.fifo:Nat)) from λd h=>⟨(f d h).1,(f d h).2.1⟩);have LN:=H (λV9=>xY cf.mix cf.fifo V9 HD.mix);unfold wv at LN;clear a y o q u l w n hT x A f t v g i;generalize z.alloc _=V3 at N0 K3 ⊢;clear m;go_wp2;go_loopw [4] (λi G=>∃ c:Nat,c<=12/\i=.int .i64 c/\∃ (ws:List (Option Addr×Nat×Nat)) (sv wv:Value),Hid (ws.length=c)/\Hid (Nw V.heap.size cf da dc P T Q (dF.take (fQ c)) ws sv wv G)/\Hid (Below V.heap.size V G)) (λi _=>12-(intOf i).toNat);case atStart=>exact ⟨0,FH _,rfl,[],_,_,H rfl,N0,K3⟩
 case round =>
  clear N0 K3;obtain⟨c,hc,rfl,ws,sv,wv,l,N,O⟩:=hrel;by_cases m:c<12
  ·obtain⟨wa,wc,b8⟩:=aK N.wt;subst b8;have c8:wr.cell? ⟨P,8,none⟩=some (.slice wa ws.length wc):=N.cell 8 _ rfl;(go_upto_if 37 with fail);go_cut [4] (λn f=>n=.int .i64 (c:Nat)/\∃ (ws:List (Option Addr×Nat×Nat)) (wv:Value),Hid (ws.length=c+1)/\Hid (Nw V.heap.size cf da dc P T Q (dF.take (fQ c)) ws sv wv f)/\Hid (Below V.heap.size V f));case first =>
    refine wp_region_held (S:=λd=>d.cell? ⟨Y,0,none⟩=some (.int .i64 (cf.mix:Nat))/\d.cell? ⟨Y,1,none⟩=some (.int .i64 (cf.fifo:Nat))) E ?_;simp only [FX,FN,F1,Nat.reduceAdd,FP,FO,FY,FV,F5];have a:=r.out _ O.drew;refine pf 0 (.pointer (some ⟨P,0,none⟩)) rfl a (λ_ _=>E) ?_;refine pf 1 (.pointer (some ⟨P,0,none⟩)) rfl a (λ_ _=>E) ?_;refine pf 2 (.pointer (some ⟨P,0,none⟩)) rfl a (λ_ _=>E) ?_;refine pf 3 (.pointer (some ⟨P,8,none⟩)) rfl a (λ_ _=>E) ?_;refine pf 5 (.pointer (some ⟨Y,0,none⟩)) rfl a (λ_ _=>E) ?_;refine pf 6 (.int .i64 (cf.mix:Nat)) rfl a (λW a=>by obtain ⟨y0,y1⟩:=a;first|(go_simp;done)|(go_simp;omega)) ?_;refine pf 7 (.pointer (some ⟨Y,1,none⟩)) rfl a (λ_ _=>E) ?_;refine pf 8 (.int .i64 (cf.fifo:Nat)) rfl a (λW a=>by obtain ⟨y0,y1⟩:=a;first|(go_simp;done)|(go_simp;omega)) ?_;refine lZ [4,9] λi9 f=>?_;rcases (by simpa using f:i9=4\/i9=9) with f|f
    ·subst f;refine cw λK' b=>?_;go_simp
     refine b _ _ ⟨a,?_⟩;clear b K';refine gu 9 ?_;refine cw λK' b=>?_;go_simp
     refine (LN _).mono ?_;rintro e k ⟨n,o,rfl,R,g⟩;have u:Below wr.heap.size wr k:=⟨g.os,g.tape,g.output,g.size,g.block⟩;have w:=H (N.below u);have t:=H (O.trans (u.mono O.size));have p:=H (show V.heap.size<=k.heap.size from t.size);obtain⟨v4,w4,e4,c4,f4,X,x,v⟩:=w.addW p (n,cf.mix,o) (by have:=Ow.wq R;rw [Gc] at this;exact this) (by rw [l.out];omega);obtain⟨b9,c0,c1,a0⟩:=ly X.wt;subst a0;have A:=H X;have B4:=H (t.trans x);have B:=H (t.trans v);have c2:k.cell? ⟨P,8,none⟩=some (.slice wa ws.length wc):=w.cell 8 _ rfl;have c3:(k.alloc (.cells #[.slice n cf.mix o,.slice none 0 0,.int .i64 (cf.fifo:Nat)] 94)).cell? ⟨P,8,none⟩=some (.slice wa ws.length wc):=(w.below ((Fu _ _).alloc (Fv _) (.cells (rU cf.fifo (n,cf.mix,o)).toArray 94))).cell 8 _ rfl;clear X x v;unfold rU at e4;have y:=r.out _ t.out;refine b _ _ ⟨y,?_⟩;clear a;have a:=y;clear b K';refine gu 10 ?_;refine cw λK' b=>?_;go_simp
     have K:=r.out _ (t.trans (((Fu k.heap.size k).alloc (Fv _) (.cells #[.slice n cf.mix o,.slice none 0 0,.int .i64 (cf.fifo:Nat)] 94)).mono p));refine b _ _ ⟨K,?_⟩;clear a;have a:=K;clear b K';refine gu 11 ?_;have L:=r.out _ B.out;refine fq rfl rfl _ _ rfl rfl rfl rfl e4 ⟨L,?_⟩;clear a;have a:=L;refine pf 12 (.pointer (some ⟨P,0,none⟩)) rfl a (λ_ _=>E) ?_;refine pf 13 (.pointer (some ⟨P,8,none⟩)) rfl a (λ_ _=>E) ?_;refine gu 14 ?_;refine cw λK' b=>?_;go_simp
     have h5:=r.out _ B4.out;refine b _ _ ⟨h5,?_⟩;clear a;clear b K';refine bY ?_;go_wp2_with fail;go_meet;case rel=>exact ⟨rfl,ws++[(n,cf.mix,o)],_,H (by rw [FC,l.out];rfl),A,B4⟩
    ·subst f;refine cw λK' b=>?_;go_simp
     refine (LN _).mono ?_;rintro e k ⟨n,o,rfl,R,g⟩;have u:Below wr.heap.size wr k:=⟨g.os,g.tape,g.output,g.size,g.block⟩;have w:=H (N.below u);have t:=H (O.trans (u.mono O.size));have p:=H (show V.heap.size<=k.heap.size from t.size);obtain⟨v4,w4,e4,c4,f4,X,x,v⟩:=w.addW p (n,cf.mix,o) (by have:=Ow.wq R;rw [Gc] at this;exact this) (by rw [l.out];omega);obtain⟨b9,c0,c1,a0⟩:=ly X.wt;subst a0;have A:=H X;have B4:=H (t.trans x);have B:=H (t.trans v);have c2:k.cell? ⟨P,8,none⟩=some (.slice wa ws.length wc):=w.cell 8 _ rfl;have c3:(k.alloc (.cells #[.slice n cf.mix o,.slice none 0 0,.int .i64 (cf.fifo:Nat)] 94)).cell? ⟨P,8,none⟩=some (.slice wa ws.length wc):=(w.below ((Fu _ _).alloc (Fv _) (.cells (rU cf.fifo (n,cf.mix,o)).toArray 94))).cell 8 _ rfl;clear X x v;unfold rU at e4;have y:=r.out _ t.out;refine b _ _ ⟨y,?_⟩;clear a;have a:=y;clear b K';refine lZ [4,10] λi9 f=>?_;rcases (by simpa using f:i9=4\/i9=10) with f|f
     ·subst f;refine cw λK' b=>?_;go_simp
      refine b _ _ ⟨a,?_⟩;clear b K';refine gu 10 ?_;refine cw λK' b=>?_;go_simp
      have K:=r.out _ (t.trans (((Fu k.heap.size k).alloc (Fv _) (.cells #[.slice n cf.mix o,.slice none 0 0,.int .i64 (cf.fifo:Nat)] 94)).mono p));refine b _ _ ⟨K,?_⟩;clear a;have a:=K;clear b K';refine gu 11 ?_;have L:=r.out _ B.out;refine fq rfl rfl _ _ rfl rfl rfl rfl e4 ⟨L,?_⟩;clear a;have a:=L;refine pf 12 (.pointer (some ⟨P,0,none⟩)) rfl a (λ_ _=>E) ?_;refine pf 13 (.pointer (some ⟨P,8,none⟩)) rfl a (λ_ _=>E) ?_;refine gu 14 ?_;refine cw λK' b=>?_;go_simp
      have h5:=r.out _ B4.out;refine b _ _ ⟨h5,?_⟩;clear a;clear b K';refine bY ?_;go_wp2_with fail;go_meet;case rel=>exact ⟨rfl,ws++[(n,cf.mix,o)],_,H (by rw [FC,l.out];rfl),A,B4⟩
     ·subst f;refine cw λK' b=>?_;go_simp
      have K:=r.out _ (t.trans (((Fu k.heap.size k).alloc (Fv _) (.cells #[.slice n cf.mix o,.slice none 0 0,.int .i64 (cf.fifo:Nat)] 94)).mono p));refine b _ _ ⟨K,?_⟩;clear a;have a:=K;clear b K';refine gu 4 ?_;refine cw λK' b=>?_;go_simp
      refine b _ _ ⟨a,?_⟩;clear b K';refine gu 11 ?_;have L:=r.out _ B.out;refine fq rfl rfl _ _ rfl rfl rfl rfl e4 ⟨L,?_⟩;clear a;have a:=L;refine pf 12 (.pointer (some ⟨P,0,none⟩)) rfl a (λ_ _=>E) ?_;refine pf 13 (.pointer (some ⟨P,8,none⟩)) rfl a (λ_ _=>E) ?_;refine gu 14 ?_;refine cw λK' b=>?_;go_simp
      have h5:=r.out _ B4.out;refine b _ _ ⟨h5,?_⟩;clear a;clear b K';refine bY ?_;go_wp2_with fail;go_meet;case rel=>exact ⟨rfl,ws++[(n,cf.mix,o)],_,H (by rw [FC,l.out];rfl),A,B4⟩
   case rest =>
    obtain⟨rfl,a1,a2,a6,w,a7⟩:=hcut;clear N O l c8;go_wp2;go_loopw [5] (λi G=>∃ s:Nat,s<=6/\i=.int .i64 s/\∃ sv:Value,Hid (Nw V.heap.size cf da dc P T Q (dF.take (fQ c+s*aM c)) a1 sv a2 G)/\Hid (Below V.heap.size V G)) (λi _=>6-(intOf i).toNat);(case atStart=>exact ⟨0,FH _,rfl,sv,H (by rw [Nat.zero_mul];exact w),a7⟩);case round =>
     clear w a7;obtain⟨s,hs,rfl,a8,N2,a3⟩:=hrel;by_cases c5:s<6
     ·have d0:=H (λV9=>xM c V9 m);go_wp2;simp only [show decide ((s:Int)<6)=true from G8 Z];go_loopw [6] (λi G=>∃ j:Nat,j<=aM c/\i=.int .i64 j/\∃ sv:Value,Hid (Nw V.heap.size cf da dc P T Q (dF.take (fQ c+s*aM c+j)) a1 sv a2 G)/\Hid (Below V.heap.size V G)) (λi _=>aM c-(intOf i).toNat);(case atStart=>exact ⟨0,FH _,rfl,a8,N2,a3⟩);case round =>
       clear N2 a3;obtain⟨j,hj,rfl,d1,N3,b0⟩:=hrel;have a4:aM c<=64:=by
        have:∀ c∈List.range 12,aM c<=64:=ar;exact this c (Gh.2 m)
       obtain⟨sn,q⟩:∃ sn,aM c=sn:=⟨_,rfl⟩;have F:=H q;go_wp2_with fail;refine (d0 _).mono ?_;rintro e V4 ⟨rfl,x⟩;have A:=H (N3.below x);have a5:=H (az b0 x);clear x;rw [q] at hj a4 ⊢;by_cases d2:j<sn
       ·have d6:(j:Int)<(sn:Int):=Z;have TN:=H (uU (c:=c) (s:=s) (j:=j) m c5 (by rw [q];exact d2));have SA:=H (λV9=>kJ (c:Int) (s:Int) (j:Int) ⟨Z,Z,Z,Z,Z,by rw [vA m,q];omega⟩ V9);rw [D5 m] at SA;clear q;go_wp2_with fail;refine (SA _).mono ?_;rintro e V5 ⟨rfl,b5⟩;have N5:=H (A.below b5);have b3:=H (az a5 b5);clear b5 SA A a5 N3 b0;obtain⟨sa,b7,sc,d3⟩:=ly N5.sl;subst d3;have c7:V5.cell? ⟨P,7,none⟩=some (.slice sa b7 sc):=N5.cell 7 _ rfl;obtain⟨v6,w6,e6,c6,f6,n6,b6⟩:=N5.addS b3.size (c,s,j) (by rw [Hm,fG];omega);obtain⟨d7,d8,d9,d4⟩:=ly n6.sl;subst d4;have N6:=H n6;have d5:=H (b3.trans b6);clear n6 b6;unfold yI at e6;have e0:(V5.alloc (.cells #[.int .i64 (c:Nat),.int .i64 (s:Nat),.int .i64 (j:Nat),.int .u64 (bh c s j:Nat),.int .i64 0,.int .i64 0] 126)).cell? ⟨P,7,none⟩=some (.slice sa b7 sc):=(N5.below ((Fu _ _).alloc (Fv _) (.cells #[.int .i64 (c:Nat),.int .i64 (s:Nat),.int .i64 (j:Nat),.int .u64 (bh c s j:Nat),.int .i64 0,.int .i64 0] 126))).cell 7 _ rfl;go_wp2_with (at_builtin;refine cY rfl (.tmp 55) (.tmp 61) (by with_reducible rfl) rfl rfl rfl e6 ?_);go_roundw;(case rel=>exact ⟨j+1,by rw [F.out];omega,aY,_,H (by rw [<-H_,TN.out];exact N6),d5⟩);case measure=>(have:=F.out;simp [intOf];omega)
       ·obtain rfl:j=sn:=Z;clear q;go_wp2;go_roundw;(case rel=>exact ⟨s+1,Z,aY,d1,H (by rw [Gy,GF,<-H_,F.out];rw [F.out] at A;exact A),a5⟩);case measure=>(simp [intOf];try omega)
     ·obtain rfl:s=6:=Z;go_wp2;go_roundw;(case rel=>exact ⟨c+1,Z,aY,a1,a8,a2,a6,H (by rw [<-sN c m];exact N2),a3⟩);case measure=>(simp [intOf];try omega)
  ·obtain rfl:c=12:=Z;go_wp2;go_ret;obtain⟨x,f,n,o⟩:=Nw.made (N.mono M) l (λg=>N.sp.noPg g);exact⟨x,by rw [f];rfl,n,o,BW.trans (O.mono M)⟩
end
end Go.Proofs.YtibblbenmpcplaaGreatDoor
