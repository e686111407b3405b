import Derived.Test.YtdngbppdomoenaaGreatDoorN10
set_option linter.unusedVariables false
set_option linter.unusedSimpArgs false
set_option maxRecDepth 20000
set_option maxHeartbeats 8000000
namespace Go.Proofs.YtdngbppdomoenaaGreatDoor
open Go.Proofs.Tryz
variable {h:Hs} {c j s:Nat}
section
open Go.RowKit Go.Shelf
theorem Sf.ofRow {Q:Nat} {W a:World} (b:Below 0 W a) (d:∀ g,g≠Q->a.heap[g]?=W.heap[g]?) (e:∀ j g,a.cell? ⟨Q,j*3+2,none⟩=some (Vl g 1024 1024)->W.cell? ⟨Q,j*3+2,none⟩=some (Vl g 1024 1024)):Sf Q W a :=
 ⟨b.os,b.tape,b.output,b.size,λg _ c _=>d g c,λg ⟨j,f⟩=>.inl ⟨j,e j g f⟩⟩
theorem Sx.drop1 {T Q n bud m W} (h:Sx T Q n bud m W) (k:Nat) (f:k<n) :
  Sx T Q n bud (eb m k none) (((W.setCell ⟨Q,k*3,none⟩ (.bool false)).setCell ⟨Q,k*3+1,none⟩ (.bool false)).setCell ⟨Q,k*3+2,none⟩ (C)) /\
  Sf Q W (((W.setCell ⟨Q,k*3,none⟩ (.bool false)).setCell ⟨Q,k*3+1,none⟩ (.bool false)).setCell ⟨Q,k*3+2,none⟩ (C)):=by
 refine⟨h.set3 k f none _ _ _ (λg j _ _ _=>bF) (λc a a b d _=>⟨a,b,d⟩),?_⟩;refine Sf.ofRow ((((Fc 0 W).setCell (Fs _) _).setCell (Fs _) _).setCell (Fs _) _) (λg b=>?_) (λj g a=>?_);·rw [Gx _ _ _ _ b,Gx _ _ _ _ b,Gx _ _ _ _ b]
 obtain⟨c,d,_⟩:=h.row;have l:=bj (bj (bj d (i:=k*3) (.bool false)) (i:=k*3+1) (.bool false)) (i:=k*3+2) (C);simp only [World.cell?,l] at a;simp only [World.cell?,d];by_cases e:j=k;·subst e;rw [Fu] at a;simp at a
 have q:(((c.setIfInBounds (k*3) (.bool false)).setIfInBounds (k*3+1) (.bool false)).setIfInBounds (k*3+2) (C))[j*3+2]?=c[j*3+2]?:=by
  rw [Fu,Gu Z,Fu,Gu Z,Fu,Gu Z]
 rw [q] at a;exact a
theorem qF (T Q n bud m) (first a:Nat) (w) (h:Sx T Q n bud m w) (u:n<=4096) (v:first+a<=n) :
  Calls prog 170 #[J T 0,I first,I a] w λe j=>e=.returned (.tuple #[])/\Sx T Q n bud (bI m first a) j/\Sf Q w j:=by
 obtain⟨o,q⟩:=h.c;have r:=H h;clear h;go_enter func170,ntmps170;go_wp2;go_loopw [6] (λi wr=>∃ k:Nat,k<=a/\i=I ((first:Int)+(k:Int))/\Sx T Q n bud (bI m first k) wr/\Sf Q w wr) (λi _=>first+a-(intOf i).toNat);case atStart=>exact ⟨0,Fs _,aY,r.out,Sf.refl Q w⟩
 case round =>
  obtain⟨k,x,rfl,b,f⟩:=hrel;by_cases s:k<a
  ·obtain⟨o,q⟩:=b.c;obtain⟨y,p,l,c,z,A,B,_⟩:=b.three (first+k) Z;obtain⟨F,g,t,_⟩:=b.row;have f1:∀ i,wr.frozen? ⟨Q,i,none⟩=false:=λi=>by simp [World.frozen?,g]
   have f2:=f1 ((first+k)*3);have f3:=f1 ((first+k)*3+1);have f4:=f1 ((first+k)*3+2);have d:=H (IB (b.drop1 (first+k) Z) f);clear b f f1 g t;go_wp2;go_roundw;(case rel=>exact ⟨k+1,Z,aY,d.1.1,d.2.trans d.1.2⟩);case measure=>simp [intOf];omega
  have g:k=a:=Z;subst g;have d:=H (IB b f);clear b f;go_wp2;go_end0;exact⟨rfl,d.out⟩
end
section
open Go.RowKit
theorem qE (a:Nat) (w:World) (ha:a<18446744073709551616) :
  Calls prog 163 #[U a] w λe c=>e=.returned (U (aR a:Nat))/\c=w:=by
 by_cases h:0<a%1024
 ·have b:=H (show aR a=a/1024+1 by unfold aR;rw [Gv h]);have d:(0:Int)<(a:Int)%1024:=Z;go_enter func163,ntmps163;go_wp2;go_ret;refine⟨?_,rfl⟩;rw [b.out];exact cP Z
 have b:=H (show aR a=a/1024 by unfold aR;rw [Gu h];rfl);have d:¬((0:Int)<(a:Int)%1024):=Z;go_enter func163,ntmps163;go_wp2;go_ret;refine⟨?_,rfl⟩;rw [b.out];exact cP Z
theorem uv (W:World):Calls prog 221 #[] W λe a=>∃ g,e=.returned (Vl g 2 2)/\RowV a g 3 (Ns .i64 [0,3])/\D W a:=by
 have X:=ao W (.cells #[I 0,I 3] 3);have b:D W (W.alloc (.cells #[I 0,I 3] 3)):=(Fc _ _).alloc (Fe _) _;have r:RowV (W.alloc (.cells #[I 0,I 3] 3)) W.heap.size 3 (Ns .i64 [0,3]):=⟨_,X,by simp [Ns],λi c=>by simp [Ns]⟩;go_enter func221,ntmps221;go_wp2;go_ret;exact⟨_,rfl,r,b⟩
theorem nZ {α:Type} : ∀ (n:Nat) (f:Nat->List α),(∀ i,i<n->f i=[])->(List.range n).flatMap f=[]
 | 0,f,_=>rfl
 | n+1,f,a=>by
  rw [Gg,Gb,nZ n f (λi b=>a i Z)]
  simp [a n Z]
theorem mo {α:Type} : ∀ (n c:Nat) (f:Nat->List α),c<n->(∀ i,i<n->i≠c->f i=[])->(List.range n).flatMap f=f c
 | 0,c,f,h,_=>by omega
 | n+1,c,f,h,a=>by
  rw [Gg,Gb]
  by_cases e:n=c
  ·subst e
   rw [nZ n f (λi b=>a i Z Z)]
   simp
  rw [mo n c f Z (λi b b=>a i Z b)]
  simp [a n Z e]
theorem qR:(List.range 1062).map sA=dG:=by
 apply G9;intro i;by_cases a:i<1062;·rw [gN a];simp [a]
 rw [Ft bK,Ft (by rw [fW];omega)]
theorem Aj (h) (c s:Nat) (sts) (d:c<12) (e:s<6):(iZ h c s sts 1062).map sA=((List.range (aM c)).filter λj=>sts.contains (h.st c s j)).map λj=>(c,s,j):=by
 have f:(iZ h c s sts 1062).map sA=dG.filter λt=>t.1==c&&(t.2.1==s&&sts.contains (h.st t.1 t.2.1 t.2.2)):=by
  rw [<-qR,List.filter_map];rfl
 rw [f];unfold dG;rw [List.filter_flatMap,mo 12 c _ d (λi g a=>?_),List.filter_flatMap,mo 6 s _ e (λi g a=>?_),List.filter_map];·congr 1;apply List.filter_congr;intro j _;simp
 ·rw [Ik];intro t b;simp only [FC] at b;obtain⟨j,_,rfl⟩:=b;simp [a]
 rw [Ik];intro t b;simp only [List.mem_flatMap,FC] at b;obtain⟨_,_,j,_,rfl⟩:=b;simp [a]
theorem IL (h) (c s:Nat) (a:c<12) (b:s<6):(iZ h c s [0,3] 1062).map sA=(freeS h c s).map λj=>(c,s,j):=by
 rw [Aj h c s _ a b];congr 1;unfold freeS;apply List.filter_congr;intro j _;unfold aZ;simp only [List.contains_eq_mem,FG,F1,or_false,Bool.decide_or];rfl
theorem kz (h) (c s:Nat) (a:c<12) (b:s<6):(iZ h c s [0,3] 1062).length=(freeS h c s).length:=by
 have:=congrArg List.length (IL h c s a b);simpa using this
theorem tm {r K:Nat} (g:c<12) (i:s<6) (d:(iZ h c s [0,3] 1062)[r]?=some K):K<1062/\∃ j,(freeS h c s)[r]?=some j/\j<aM c/\sA K=(c,s,j):=by
 have f:=Fz d;unfold iZ at f;have k:=(F_.1 f).1;refine⟨by simpa using k,?_⟩;have e:=congrArg (λl=>l[r]?) (IL h c s g i);simp only [Gi,d,GW] at e;cases b:(freeS h c s)[r]? with
 | none=>rw [b] at e;cases e
 | some j =>
  rw [b] at e;have a:=Fz b;unfold freeS at a;have l:=(F_.1 a).1;exact⟨j,rfl,by simpa using l,by simpa using e⟩
theorem vG (p):cH p=(fS p).map sA:=by
 unfold cH fS;rw [<-qR,List.find?_map];rfl
theorem AN (h:Hs):(List.range h.rg.length).map (uh h)=h.rg:=by
 apply G9;intro i;by_cases a:i<h.rg.length;·simp [a,uh]
 rw [Ft bK,Ft Z]
theorem Ad (h:Hs) (p:Nat):(h.rg.find? λr=>r.base==p)=(fR h p).map (uh h):=by
 have e:(h.rg.find? λr=>r.base==p)=(((List.range h.rg.length).map (uh h)).find? λr=>r.base==p):=by rw [AN]
 rw [e,List.find?_map];rfl
theorem DZ {p k:Nat} (h:fS p=some k):k<1062/\gu k=p:=by
 unfold fS at h;rw [Ib] at h;exact⟨by simpa using h.2.1,by simpa using h.1⟩
theorem DJ {p i:Nat} (a:fR h p=some i):h.rg[i]?=some (uh h i)/\(uh h i).base=p:=by
 unfold fR at a;rw [Ib] at a;have b:i<h.rg.length:=by simpa using a.2.1
 exact⟨by simp [uh,b],by simpa using a.1⟩
inductive CI (h:Hs) (p:Nat):Fd->Int×Int×Int->Prop
 | slot (c s j K:Nat):K<1062->sA K=(c,s,j)->aX c s j=p->h.st c s j=1->CI h p (.slot c s j) ((K:Int),-1,0)
 | range (r:Rg9) (i:Nat):h.rg[i]?=some r->r.base=p->r.st=1->CI h p (.range r) (-1,(i:Int),0)
 | no (code:Int):(code=3\/code=4)->CI h p (.no code) (-1,-1,code)
theorem jp (h p):CI h p (aP h p) (fV h p):=by
 unfold aP fV;rw [vG];cases e:fS p with
 | some k =>
  obtain⟨f,ha⟩:=DZ e;obtain⟨⟨c,s,j⟩,b⟩:∃ t,sA k=t:=⟨_,rfl⟩;have g:dB h k=h.st c s j:=by unfold dB;rw [b]
  have i:aX c s j=p:=by rw [<-ha];unfold gu;rw [b]
  simp only [GW,b,g];by_cases a:h.st c s j=1;·rw [Gv a,Gv a];exact .slot c s j k f b i a
  rw [Gu a,Gu a];by_cases d:h.st c s j=0;·rw [Gv d,Gv d];exact .no 3 (.inl rfl)
  rw [Gu d,Gu d];exact .no 4 (.inr rfl)
 | none =>
  simp only [Option.map_none];rw [Ad];cases b:fR h p with
  | some i =>
   obtain⟨d,f⟩:=DJ b;simp only [GW];by_cases a:(uh h i).st=1;·rw [Gv a,Gv a];exact .range _ i d f a
   rw [Gu a,Gu a];exact .no 4 (.inr rfl)
  | none =>
   simp only [Option.map_none];by_cases x:h.rel.contains p=true;·rw [Gv x,Gv x];exact .no 4 (.inr rfl)
   rw [Gu x,Gu x];exact .no 3 (.inl rfl)
theorem ud (T Q bud m) (a:Nat) (v:Int) (w) (h:Sx T Q 283 bud m w) (ha:a<1000000) (i:isOpen (m (a/1024))=true) :
  Calls prog 166 #[J T 0,U a,.int .u8 v] w λe b=>e=.returned (.tuple #[])/\Sx T Q 283 bud (dX m a v) b/\Sf Q w b:=by
 cases d:m (a/1024) with
 | none=>rw [d] at i;cases i
 | some q =>
  obtain⟨l,j⟩:=q;refine (t_ T Q 283 bud m a v w h Z Z d).mono ?_;rintro e b ⟨rfl,k,g,c,n,o,f⟩;refine⟨rfl,?_,Sf.ofPut h n o f⟩;have:dX m a v=eb m (a/1024) (some (l,j.set (a%1024) v)):=by unfold dX;rw [d];rfl
  rw [this];exact k
theorem xL (c:Nat) (W:World) (d:c<12):Calls prog 45 #[I c] W λe a=>e=.returned (I (aM c:Nat))/\D W a:=by
 refine (fC (c:Int) W).mono ?_;rintro e a ⟨rfl,b⟩;exact⟨cP (vt d),b⟩
def wC (cf:Cf) (x:Sm) (c:Nat):List Value:=[x.mv c,x.fv c,I cf.fifo]
theorem fI (cf x):(nO cf x).length=36:=by simp [nO,List.range,List.range.loop]
theorem gD (cf x) {q r:Nat} (a:q<12) (b:r<3):(nO cf x)[q*3+r]?=(wC cf x q)[r]?:=eX (wC cf x) 3 (λ_=>rfl) (List.range 12) q q (by simp [a]) r b
def jS (f:Nat->Value) (c:Nat) (v:Value):Nat->Value:=λd=>if d=c then v else f d
theorem vy (cf) (x:Sm) (f:c<12) (vm vf):nO cf { x with mv:=jS x.mv c vm,fv:=jS x.fv c vf }=(((nO cf x).set (c*3) vm).set (c*3+1) vf).set (c*3+2) (I cf.fifo):=by
 apply G9;intro i;by_cases g:i<36
 ·have e:i=i/3*3+i%3:=Z;obtain⟨q,r,a,b,rfl⟩:∃ q r,q<12/\r<3/\i=q*3+r:=⟨i/3,i%3,Z,Z,e⟩;rw [gD _ _ a b];simp only [Gc,FX,fI];rw [gD _ _ a b];by_cases d:q=c
  ·subst d;have:r=0\/r=1\/r=2:=Z;rcases this with rfl|rfl|rfl;·rw [Gu Z,Gu Z,Gv Z,Gv Z];simp [wC,jS]
   ·rw [Gu Z,Gv rfl,Gv Z];simp [wC,jS]
   rw [Gv rfl,Gv Z];simp [wC]
  rw [Gu Z,Gu Z,Gu Z];simp [wC,jS,d]
 rw [Ft (by rw [fI];omega),Ft (by simp [fI];omega)]
theorem Sh.setWt {B x cf V} (a:Sh B x cf h V) {wb wc} (j:x.wv=Vl wb 12 wc) (m:c<12) (vm vf mx' ff') (n:Wq V vm mx') (o:Wq V vf ff') :
  Sh B { x with mv:=jS x.mv c vm,fv:=jS x.fv c vf } cf { h with mx:=ep h.mx c mx',ff:=ep h.ff c ff' } (((V.setCell ⟨wb,c*3,none⟩ vm).setCell ⟨wb,c*3+1,none⟩ vf).setCell ⟨wb,c*3+2,none⟩ (I cf.fifo))/\Ky (· = 68) V (((V.setCell ⟨wb,c*3,none⟩ vm).setCell ⟨wb,c*3+1,none⟩ vf).setCell ⟨wb,c*3+2,none⟩ (I cf.fifo))/\V.grownBy (((V.setCell ⟨wb,c*3,none⟩ vm).setCell ⟨wb,c*3+1,none⟩ vf).setCell ⟨wb,c*3+2,none⟩ (I cf.fifo)) (some wb):=by
 have f:=a.wt;rw [j] at f;obtain⟨q,i⟩:=dv f;have b:V.grownBy (((V.setCell ⟨wb,c*3,none⟩ vm).setCell ⟨wb,c*3+1,none⟩ vf).setCell ⟨wb,c*3+2,none⟩ (I cf.fifo)) (some wb):=au (au (au (ar V wb) _ _) _ _) _ _;have k:Ky (· = 68) V _:=Ky.grown i rfl b;have p:=dT (dT (dT f (c*3) (by rw [fI];omega) vm) (c*3+1) (by rw [FX,fI];omega) vf) (c*3+2) (by rw [FX,FX,fI];omega) (I cf.fifo);refine⟨⟨k.cells _ _ _ _ a.box av,a.bp,a.bq,λg b=>a.bg g (de (a.sp.qEq k av) b),a.ds.ky k av,a.sp.ky k av av av,aj a.sl k av,?_,λd l=>?_,aj a.rg k av,aj a.ro k av,aj a.rl k av⟩,k,b⟩;·show World.ownsRow _ B 68 3 x.wv 12 _;rw [vy cf x m,j];exact p
 by_cases e:d=c;·subst e;simp only [jS,ep,Iv];exact⟨n.ky k av,o.ky k av⟩
 simp only [jS,ep,Gu e];exact⟨(a.wm d l).1.ky k av,(a.wm d l).2.ky k av⟩
theorem Sh.wtCells {B x cf V} (e:Sh B x cf h V) {wb wc} (f:x.wv=Vl wb 12 wc) (b:c<12):V.cell? ⟨wb,c*3,none⟩=some (x.mv c)/\V.cell? ⟨wb,c*3+1,none⟩=some (x.fv c)/\V.cell? ⟨wb,c*3+2,none⟩=some (I cf.fifo)/\∀ i,V.frozen? ⟨wb,i,none⟩=false:=by
 have a:=e.wt;rw [f] at a;obtain⟨g,d⟩:=dv a;exact⟨bC a (c*3+0) _ (gD cf x b Z),bC a (c*3+1) _ (gD cf x b Z),bC a (c*3+2) _ (gD cf x b Z),λi=>by simp [World.frozen?,d]⟩
def ge (c:Nat):Nat:=[0,384,576,702,798,858,906,936,960,990,1014,1038,1062].getD c 0
def Dk (t:Nat×Nat×Nat):Nat:=ge t.1+t.2.1*aM t.1+t.2.2
theorem yC:(dG.zipIdx.all λp=>p.2==Dk p.1)=true:=by decide +kernel
theorem sI (c:Nat) (a:c<12):ge c+6*aM c=ge (c+1):=by
 have:∀ c∈List.range 12,ge c+6*aM c=ge (c+1):=av;exact this c (F0.2 a)
theorem xi (a:c<12) (b:s<6) (d:j<aM c):(c,s,j)∈dG:=by
 unfold dG;exact List.mem_flatMap.2 ⟨c,F0.2 a,List.mem_flatMap.2 ⟨s,F0.2 b,FC.2 ⟨j,F0.2 d,rfl⟩⟩⟩
theorem Ak (b:c<12) (d:s<6) (e:j<aM c):dG[ge c+s*aM c+j]?=some (c,s,j):=by
 obtain⟨k,a⟩:=List.mem_iff_getElem?.1 (xi b d e);have h:=List.all_eq_true.1 yC ((c,s,j),k) (List.mem_iff_getElem?.2 ⟨k,by rw [List.getElem?_zipIdx,a];simp⟩);have h:k=ge c+s*aM c+j:=by simpa [Dk] using h
 rw [<-h];exact a
theorem uO (a:c<12) (b:s<6) (d:j<aM c):dG.take (ge c+s*aM c+j+1)=dG.take (ge c+s*aM c+j)++[(c,s,j)]:=by
 rw [FN,Ak a b d];rfl
def yH (t:Nat×Nat×Nat):List Value:=[I t.1,I t.2.1,I t.2.2,U (aX t.1 t.2.1 t.2.2:Nat),I 0,I 0]
theorem Ai:(prog.info? 146).map (λi=>(i.zero,i.size,i.bytes))=some (some (.agg #[I 0,I 0,I 0,U 0,I 0,I 0]),6,48):=E
theorem BB (W:World) (B:Nat) (v:Value) (l:List (Nat×Nat×Nat)) (r) (g:Nat) (c) (a:W.ownsRow B 146 6 v l.length (l.flatMap yH)) (o:W.heap[g]?=some (.cells (yH r).toArray 146)) (z:l.length<=2000) (p:B<=W.heap.size) :
  ∃ d b,(Builtin.append_ #[140,140] 140 #[v,Vl g 1 c]).run prog W=.ok d b/\b.ownsRow B 146 6 d (l++[r]).length ((l++[r]).flatMap yH)/\W.grownBy b v.ownBlock:=by
 obtain⟨q,e,f,i,k⟩:=GI Ai;have m:∀ j u,(yH r)[j]?=some u->W.cell? ((⟨g,0,none⟩:Addr).add j)=some u:=λj u s=>by
  rw [Addr.add_mid,FP,Gz _ _ j _ _ _ o];simpa using s
 have t:∀ u∈yH r,u.oneCell'=true:=λu n=>by
  simp only [yH,FG,F1,or_false] at n;rcases n with rfl|rfl|rfl|rfl|rfl|rfl <;> rfl
 obtain⟨d,b,w,x,y,_⟩:=Hk (P:=prog) W B 140 140 146 q _ 6 48 underlying140 e f i k rfl Z v _ _ a ⟨g,0,none⟩ 1 c (yH r) rfl m t (by unfold maxLen;omega) Z p;exact⟨d,b,w,by rw [Gb,Fo];simpa using x,y⟩
theorem xK:(prog.info? 68).map (λi=>(i.zero,i.size,i.bytes))=some (some (.agg #[C,C,I 0]),3,56):=E
def rQ (fi:Nat) (p:Option Addr×Nat×Nat):List Value:=[.slice p.1 p.2.1 p.2.2,C,I fi]
theorem Bl (W:World) (B:Nat) (v:Value) (fi) (l:List (Option Addr×Nat×Nat)) (r) (g:Nat) (c) (a:W.ownsRow B 68 3 v l.length (l.flatMap (rQ fi))) (o:W.heap[g]?=some (.cells (rQ fi r).toArray 68)) (z:l.length<=2000) (p:B<=W.heap.size) :
  ∃ d b,(Builtin.append_ #[32,32] 32 #[v,Vl g 1 c]).run prog W=.ok d b/\b.ownsRow B 68 3 d (l++[r]).length ((l++[r]).flatMap (rQ fi))/\W.grownBy b v.ownBlock:=by
 obtain⟨q,e,f,i,k⟩:=GI xK;have m:∀ j u,(rQ fi r)[j]?=some u->W.cell? ((⟨g,0,none⟩:Addr).add j)=some u:=λj u s=>by
  rw [Addr.add_mid,FP,Gz _ _ j _ _ _ o];simpa using s
 have t:∀ u∈rQ fi r,u.oneCell'=true:=λu n=>by
  simp only [rQ,FG,F1,or_false] at n;rcases n with rfl|rfl|rfl <;> rfl
 obtain⟨d,b,w,x,y,_⟩:=Hk (P:=prog) W B 32 32 68 q _ 3 56 underlying32 e f i k rfl Z v _ _ a ⟨g,0,none⟩ 1 c (rQ fi r) rfl m t (by unfold maxLen;omega) Z p;exact⟨d,b,w,by rw [Gb,Fo];simpa using x,y⟩
end
section
open Go.RowKit Go.Shelf Go.Maps
theorem DC (g:World) (a:Option Addr) (c d:Nat) (A:List Int) (b:IsRow .u8 g a c d A) (f:c<=1048576) (R gv tt W X Y k):B0 g a c d R gv tt W X Y k (λm=>m=15):=by
 intro m K Q q w u9 u10 u11 u12 u13 u14 u15 u16 u17 u18 u19 u20 u21 u22 u23 u24 u25 u26 u27 u28 u29 u32 u33 u34 u35 u36 u37 u38 u39 u40 u41 u42 u43 u44 u45 u46 u47 u48 u49 u50 u51 u52 u53 u54 u55 u56 u57 u58 u59 u60 u61 u62 u63 u64 u65 u66 u67 u68 u69 u70 u71 u72 u73 u74 u75 u76 u77 u78 u79 u80 u81 u82 u83 u84 u85 u86 u87 u88 u89 u90 u91 u92 u93 u94 u95 u96 u97 u98 u99 u100 u101 u102 u103 u104 u105 u106 u107 u108 u109 u110 u111 u112 u113 u114 u115 u116 u117 u118 u119 u120 u121 u122 u123 u124 u125 u126 u127 u128 u129 u130 u131 u132 u133 u134 u135 u136 u137 u138 u139 u140 u141 u142 u143 u144 u145 u146 u147 u148 hm l e;have N:=H (λV (j:Rd g a c d R V V)=>ca g a c d A b f R V V j);have WD:=H (λV (j:Rd g a c d R V V)=>cO g a c d A b f R V V j);have RQ:=H (λV (j:Rd g a c d R V V)=>bZ g a c d A b f R V V j);have BY:=H (λn (T:n<=10000) V (j:Rd g a c d R V V)=>cW g a c d A b f R n T V V j);have US:=H cd;have HU:=H u64_in;clear b;have HK:=H e;clear e
 conv=>arg 2;whnf
 obtain rfl:=hm;obtain⟨o,p,s,t,x,y⟩:=l.cells;have z:=l.fr 0;go_wp2_with fail;have i:=H (l.setKd 6);clear l o p s t x y z;refine (N _ i.rd.at).mono ?_;rintro e a4 ⟨⟨B,a0,rfl⟩,r⟩;have b:=H (i.next r);clear r i;obtain⟨n,T,L⟩:∃ n:Nat,n<=24/\(B:Int)%24+1=(n:Int):=⟨B%24+1,Z,Z⟩;go_wp2_with fail;refine (BY n Z _ b.rd.at).mono ?_;rintro e a5 ⟨v,ys,rfl,M,l,G,r⟩;obtain⟨va,vb,vc,rfl⟩:=eW G;have O:=fP G;subst M;obtain rfl:=O;have F:=dV b.rd.g.size G;have i:=H (b.next r);have HB:=H F;have P:=H l;clear l;clear r G F L b;obtain⟨o,p,s,t,x,y⟩:=i.cells;have z:=i.fr 5;go_wp2_with fail;have b:=H (i.setD va vc ys HB P);clear i o p s t x y z;refine (N _ b.rd.at).mono ?_;rintro e a6 ⟨⟨S,a1,rfl⟩,r⟩;have i:=H (b.next r);clear r b;obtain⟨o,p,s,t,x,y⟩:=i.cells;have z:=i.fr 2;have L:=H (i.setP ((S:Int)%20) Z Z);by_cases a2:200<=k
 ·go_wp2_with fail;clear o p s t x y z;refine (N _ L.rd.at).mono ?_;rintro e a7 ⟨⟨F,a3,rfl⟩,r⟩;have G:=H (L.next r);clear r L;have hu:=ot ((F:Int)%12);go_wp2_with fail;refine (US _ _).mono ?_;rintro e a8 ⟨rfl,b⟩;have l:=H (G.below b);clear b G;generalize us ((F:Int)%12)=u at hu ⊢;go_wp2_with fail;refine (N _ l.rd.at).mono ?_;rintro e a9 ⟨⟨b0,G,rfl⟩,r⟩;have b:=H (l.next r);clear r l;obtain⟨o,p,s,t,x,y⟩:=b.cells;have z:=b.fr 2;go_wp2;apply HK.out;exact H (b.setP _ (by first|omega|exact (HU _).1|(simp;done)) (by first|omega|exact (HU _).2|(simp;done)))
 ·go_wp2;apply HK.out;exact L
def pQ (o : iG) (an : List An4) : Nat := if 0<o.ref/\o.ref<=an.length then (o.p+((an[o.ref.toNat-1]?.map An4.addr).getD 0))%18446744073709551616 else o.p
theorem wz (q:dh) (G i x:Nat) (d:List An4) (W:World) (o:d.length=i) (F:i<=400) (K:q.o.p<18446744073709551616)
  (c:∀ j a,d[j]?=some a->W.cell? ⟨G,j*4+1,none⟩=some (.int .u64 (a.addr:Nat))) :
  Calls prog 14 #[.agg (ee q).toArray,.slice (some ⟨G,0,none⟩) i x] W λe p=>e=.returned (.int .u64 (pQ q.o d:Nat))/\Below W.heap.size W p:=by
 unfold ee;have b:=(Fc W.heap.size W).alloc (Fe _) (.cells #[.int .i64 q.o.kd,.int .i64 q.o.ref,.int .u64 (q.o.p:Nat),.int .u64 (q.o.a:Nat),.int .u64 (q.o.b:Nat),.slice q.d q.o.ys.length q.dc] 42);have X:=ao W (.cells #[.int .i64 q.o.kd,.int .i64 q.o.ref,.int .u64 (q.o.p:Nat),.int .u64 (q.o.a:Nat),.int .u64 (q.o.b:Nat),.slice q.d q.o.ys.length q.dc] 42);have f:=H b;have k:(W.alloc (.cells #[.int .i64 q.o.kd,.int .i64 q.o.ref,.int .u64 (q.o.p:Nat),.int .u64 (q.o.a:Nat),.int .u64 (q.o.b:Nat),.slice q.d q.o.ys.length q.dc] 42)).cell? ⟨W.heap.size,1,none⟩=some (.int .i64 q.o.ref):=bY X;have l:(W.alloc (.cells #[.int .i64 q.o.kd,.int .i64 q.o.ref,.int .u64 (q.o.p:Nat),.int .u64 (q.o.a:Nat),.int .u64 (q.o.b:Nat),.slice q.d q.o.ys.length q.dc] 42)).cell? ⟨W.heap.size,2,none⟩=some (.int .u64 (q.o.p:Nat)):=bY X;have t:=H (λj a (ha:d[j]?=some a)=>ad b (c j a ha));clear X b c;by_cases g:0<q.o.ref
 ·by_cases m:q.o.ref<=i
  ·obtain⟨r,c⟩:∃ r:Nat,q.o.ref=((r+1:Nat):Int):=⟨q.o.ref.toNat-1,Z⟩;have y:r<i:=Z;obtain⟨z,b⟩:∃ z,d[r]?=some z:=⟨_,Fj Z⟩;have w:=t.out r z b;have s:=H (show pQ q.o d=(q.o.p+z.addr)%18446744073709551616 by
    unfold pQ;rw [Gv ⟨g,by rw [o];exact m⟩,c,show (((r+1:Nat):Int)).toNat-1=r by omega,b];rfl)
   have n:decide (q.o.ref > 0)=true:=GJ g;have u:decide (q.o.ref<=(i:Int))=true:=GJ m;have A:IntKind.i64.wrap (q.o.ref-1)=(r:Int):=(by rw [GT];omega);have L:IntKind.u64.wrap ((q.o.p:Int)+(z.addr:Int))=(((q.o.p+z.addr)%18446744073709551616:Nat):Int):=(by rw [IntKind.wrap_u64];omega);clear t b g m o c;generalize q.o.ref=v at k l w f n u A ⊢;go_enter func14,ntmps14;go_wp2_with fail;clear n u;generalize W.alloc _=V at f k l w ⊢;generalize B:W.heap.size=b at f k l ⊢;refine wp_region_held (S:=λp=>p.cell? ⟨b,1,none⟩=some (.int .i64 v)/\p.cell? ⟨b,2,none⟩=some (.int .u64 (q.o.p:Nat))/\p.cell? ⟨G,r*4+1,none⟩=some (.int .u64 (z.addr:Nat))) E ?_;simp only [FA,Fx,FH,Nat.reduceAdd,Fw,Fv,FB,Fy,FJ];have c:=(show _/\_/\_ from ⟨k,l,w⟩);refine pk 0 (.pointer (some ⟨b,2,none⟩)) c ?_;simp only [lz,l0,ls];refine pz 1 (.int .u64 (q.o.p:Nat)) c ?_;simp only [lz,l0,ls];refine pk 2 (.slice (some ⟨G,0,none⟩) i x) c ?_;simp only [lz,l0,ls];refine pk 3 (.pointer (some ⟨b,1,none⟩)) c ?_;simp only [lz,l0,ls];refine pz 4 (.int .i64 v) c ?_;simp only [lz,l0,ls];refine pz 5 (.int .i64 (r:Nat)) c ?_;simp only [lz,l0,ls];refine pz 6 (.pointer (some ⟨G,r*4,none⟩)) c ?_;simp only [lz,l0,ls];refine pk 7 (.pointer (some ⟨G,r*4+1,none⟩)) c ?_;simp only [lz,l0,ls];refine pz 8 (.int .u64 (z.addr:Nat)) c ?_;simp only [lz,l0,ls];refine pz 9 (.int .u64 ((q.o.p+z.addr)%18446744073709551616:Nat)) c ?_;simp only [lz,l0,ls];refine pk 10 (.int .u64 ((q.o.p+z.addr)%18446744073709551616:Nat)) c ?_;simp only [lz,l0,ls];refine bN ?_;go_wp2;go_ret;rw [s.out];exact⟨rfl,by rw [B];exact f.drew⟩
  ·have s:=H (show pQ q.o d=q.o.p by unfold pQ;rw [Gu (λh=>m (by rw [o] at h;exact h.2))]);have n:decide (q.o.ref > 0)=true:=GJ g;have u:decide (q.o.ref<=(i:Int))=false:=Gy m;clear t g m o;generalize q.o.ref=v at n u k l f ⊢;go_enter func14,ntmps14;go_wp2;go_ret;rw [s.out];exact⟨rfl,f⟩
 ·have s:=H (show pQ q.o d=q.o.p by unfold pQ;rw [Gu (λh=>g h.1)]);have n:decide (q.o.ref > 0)=false:=Gy g;clear t g o;generalize q.o.ref=v at n k l f ⊢;go_enter func14,ntmps14;go_wp2;go_ret;rw [s.out];exact⟨rfl,f⟩
end
end Go.Proofs.YtdngbppdomoenaaGreatDoor
