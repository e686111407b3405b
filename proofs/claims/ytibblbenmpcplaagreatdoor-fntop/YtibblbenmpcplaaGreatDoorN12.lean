import Derived.Test.YtibblbenmpcplaaGreatDoorN10
set_option linter.unusedVariables false
set_option linter.unusedSimpArgs false
set_option maxRecDepth 20000
set_option maxHeartbeats 8000000
namespace Go.Proofs.YtibblbenmpcplaaGreatDoor
open Go.Proofs.Tryz
variable {c j s:Nat}
section
open Go.ChangeShapes Go.WideShapes Go.ChangeAt Go.RowKit
theorem EU (M rm G rq n mix fifo W) (h:Qr W M rm G rq n mix fifo) (a:mix.length<=1024) :
  Calls prog 92 #[J M 0] W λe c=>e=.returned (Vl W.heap.size mix.length mix.length)/\RowV c W.heap.size 3 (Ns .i64 mix)/\D W c:=by
 have b:=h.mx.1;have d:=h.mx.2;have:=row_in M rm mix.length 0 mix.length _ W.heap.size mix W rfl rfl (bJ b) (bJ b) (bJ b) d rfl (FH _) (Fv _) a;rwa [IE,List.take_zero,Gl,G9] at this
theorem EZ (M rm G rq n mix fifo W) (h:Qr W M rm G rq n mix fifo) (a:n<=1024) :
  Calls prog 92 #[J G 0] W λe c=>e=.returned (Vl W.heap.size fifo.length fifo.length)/\RowV c W.heap.size 3 (Ns .i64 fifo)/\D W c:=by
 obtain⟨ps,o,k,b,d,f,j,g,l,e⟩:=h.qu;have:=row_in G rq n o k _ W.heap.size ps W rfl rfl (bJ b) (bJ b) (bJ b) d f Z g a;rw [<-e] at this;have i:fifo.length=k:=by rw [e];simp;omega
 rw [i];exact this
theorem jY (W:World) (g:Nat) (a b c:Value) (x:Addr) (h:x.block≠g):(((W.setCell ⟨g,0,none⟩ a).setCell ⟨g,1,none⟩ b).setCell ⟨g,2,none⟩ c).cell? x=W.cell? x:=by
 unfold World.cell?;rw [heap_setCell_other _ _ _ _ (by simpa using h),heap_setCell_other _ _ _ _ (by simpa using h),heap_setCell_other _ _ _ _ (by simpa using h)]
theorem xd (M rm G rq n) (s:Nat) (t:TypeId) (a:Addr) (mix fifo) (w:World) (g:s=w.heap.size) (h:Qr w M rm G rq n mix fifo) (x:mix.length<=1024) (y:n<=1024) :
  Calls prog 51 #[.agg #[.pointer (some ⟨M,0,none⟩),.pointer (some ⟨G,0,none⟩),.iface t (.pointer (some a))]] w λe z=>∃ b c,e=.returned (wv (some ⟨b,0,none⟩) mix.length mix.length (some ⟨c,0,none⟩) fifo.length fifo.length (n:Nat))/\RowV z b 3 (Ns .i64 mix)/\RowV z c 3 (Ns .i64 fifo)/\w.heap.size<=b/\b<c/\D w z:=by
 have b:=lF w (.cells #[.pointer (some ⟨M,0,none⟩),.pointer (some ⟨G,0,none⟩),.iface t (.pointer (some a))] 67) (.cells #[.slice none 0 0,.slice none 0 0,.int .i64 0] 94);obtain⟨ps,o,k,c,f⟩:=h.qu;clear f;have T:=H (λW (A:Qr W M rm G rq n mix fifo)=>EU M rm G rq n mix fifo W A x);have V:=H (λW (A:Qr W M rm G rq n mix fifo)=>EZ M rm G rq n mix fifo W A y);have X:=dO c;have B:G≠s+1:=Z;have Y:G≠s:=Z;have j:=ad b.2.2 (show w.cell? ⟨G,0,none⟩=some (.slice (some ⟨rq,0,none⟩) n n) from bJ c);have l:=h.but (But.ofBelow (S:=λ_=>False) b.2.2) id id id id;have q:=H (show w.heap.size+2<=((w.alloc (.cells #[.pointer (some ⟨M,0,none⟩),.pointer (some ⟨G,0,none⟩),.iface t (.pointer (some a))] 67)).alloc (.cells #[.slice none 0 0,.slice none 0 0,.int .i64 0] 94)).heap.size by rw [cS,cS];omega);clear h c;go_enter func51,ntmps51;go_wp2;rw [<-g];have c:=b.2.2;rw [<-g] at b;generalize (w.alloc (.cells #[.pointer (some ⟨M,0,none⟩),.pointer (some ⟨G,0,none⟩),.iface t (.pointer (some a))] 67)).alloc (.cells #[.slice none 0 0,.slice none 0 0,.int .i64 0] 94)=f at *;have F:f.drew.cell? ⟨s,0,none⟩=some (.pointer (some ⟨M,0,none⟩))/\f.drew.cell? ⟨s,1,none⟩=some (.pointer (some ⟨G,0,none⟩))/\f.drew.cell? ⟨G,0,none⟩=some (.slice (some ⟨rq,0,none⟩) n n):=⟨(GT f _ _ _ _ _ b.1).trans rfl,(GT f _ _ _ _ _ b.1).trans rfl,j⟩;have Q:Hid (Qr f.drew M rm G rq n mix fifo):=l.but (S:=λ_=>False) (But.refl _ _).drew id id id id;have HZ:Hid (f.drew.heap[s+1]?=some (.cells #[.slice none 0 0,.slice none 0 0,.int .i64 0] 94)):=b.2.1;have R:=H c.drew;clear c;have K:=H g;clear b g l j;refine wp_region_held (S:=λW=>W.cell? ⟨s,0,none⟩=some (.pointer (some ⟨M,0,none⟩))/\W.cell? ⟨s,1,none⟩=some (.pointer (some ⟨G,0,none⟩))/\W.cell? ⟨G,0,none⟩=some (.slice (some ⟨rq,0,none⟩) n n)) E ?_;simp only [FX,FN,F1,Nat.reduceAdd,FP,FO,FY,FV,F5];have b:=F;refine bo (i:=0) (d:=3) (v:=.pointer (some ⟨s,0,none⟩)) rfl E E E E (λ_ _ _ h=>h) (Or.inl ⟨E,λ_ _=>E⟩) b ?_;simp only [Fw,FA,FB];refine bo (i:=1) (d:=4) (v:=.pointer (some ⟨M,0,none⟩)) rfl E E E E (λ_ _ _ h=>h) (Or.inl ⟨E,λW b=>by obtain ⟨g,L,N⟩:=b;go_simp⟩) b ?_;simp only [Fw,FA,FB];refine bo (i:=2) (d:=5) (v:=.pointer (some ⟨M,0,none⟩)) rfl E E E E (λ_ _ _ h=>h) (Or.inl ⟨E,λ_ _=>E⟩) b ?_;simp only [Fw,FA,FB];refine bo (i:=3) (d:=6) (v:=.pointer (some ⟨M,0,none⟩)) rfl E E E E (λ_ _ _ h=>h) (Or.inl ⟨E,λ_ _=>E⟩) b ?_;simp only [Fw,FA,FB];refine bo (i:=5) (d:=8) (v:=.pointer (some ⟨s,1,none⟩)) rfl E E E E (λ_ _ _ h=>h) (Or.inl ⟨E,λ_ _=>E⟩) b ?_;simp only [Fw,FA,FB];refine bo (i:=6) (d:=9) (v:=.pointer (some ⟨G,0,none⟩)) rfl E E E E (λ_ _ _ h=>h) (Or.inl ⟨E,λW b=>by obtain ⟨g,L,N⟩:=b;go_simp⟩) b ?_;simp only [Fw,FA,FB];refine bo (i:=7) (d:=10) (v:=.pointer (some ⟨G,0,none⟩)) rfl E E E E (λ_ _ _ h=>h) (Or.inl ⟨E,λ_ _=>E⟩) b ?_;simp only [Fw,FA,FB];refine bo (i:=8) (d:=11) (v:=.pointer (some ⟨G,0,none⟩)) rfl E E E E (λ_ _ _ h=>h) (Or.inl ⟨E,λ_ _=>E⟩) b ?_;simp only [Fw,FA,FB];refine bo (i:=10) (d:=13) (v:=.pointer (some ⟨s,1,none⟩)) rfl E E E E (λ_ _ _ h=>h) (Or.inl ⟨E,λ_ _=>E⟩) b ?_;simp only [Fw,FA,FB];refine bo (i:=11) (d:=14) (v:=.pointer (some ⟨G,0,none⟩)) rfl E E E E (λ_ _ _ h=>h) (Or.inl ⟨E,λW b=>by obtain ⟨g,L,N⟩:=b;go_simp⟩) b ?_;simp only [Fw,FA,FB];refine bo (i:=12) (d:=15) (v:=.pointer (some ⟨G,0,none⟩)) rfl E E E E (λ_ _ _ h=>h) (Or.inl ⟨E,λ_ _=>E⟩) b ?_;simp only [Fw,FA,FB];refine bo (i:=13) (d:=16) (v:=.pointer (some ⟨G,0,none⟩)) rfl E E E E (λ_ _ _ h=>h) (Or.inl ⟨E,λ_ _=>E⟩) b ?_;simp only [Fw,FA,FB];refine bo (i:=14) (d:=17) (v:=.pointer (some ⟨G,0,none⟩)) rfl E E E E (λ_ _ _ h=>h) (Or.inl ⟨E,λ_ _=>E⟩) b ?_;simp only [Fw,FA,FB];refine bo (i:=15) (d:=18) (v:=.slice (some ⟨rq,0,none⟩) n n) rfl E E E E (λ_ _ _ h=>h) (Or.inl ⟨E,λW b=>by obtain ⟨g,L,N⟩:=b;go_simp⟩) b ?_;simp only [Fw,FA,FB];refine bo (i:=16) (d:=19) (v:=.int .i64 (n:Nat)) rfl E E E E (λ_ _ _ h=>h) (Or.inl ⟨E,λW _=>by first|(go_simp;done)|(go_simp;omega)⟩) b ?_;simp only [Fw,FA,FB];refine cn (r:=4) E ?_;refine dM rfl E (λK' j=>?_);go_simp;refine (T _ Q).mono ?_;rintro e O ⟨rfl,m,l⟩;have B1:=H (az R l);have Q1:=H (Q.but (But.ofBelow (S:=λ_=>False) l) id id id id);have Z1:=H (ae HZ l);have u:=H m;have c:=(show _/\_/\_ from ⟨ad l b.1,ad l b.2.1,ad l b.2.2⟩);refine j _ _ ⟨c,?_⟩;clear b m l;have b:=c;clear c;clear j K';refine cn (r:=9) E ?_;refine dM rfl E (λK' j=>?_);go_simp;refine (V _ Q1).mono ?_;rintro e p ⟨rfl,P,l⟩;have B2:=H (az B1 l);have m:=H (ae Z1 l);have R2:=H P;have X1:=H (u.below l u.lt);have c:=(show _/\_/\_ from ⟨ad l b.1,ad l b.2.1,ad l b.2.2⟩);refine j _ _ ⟨c,?_⟩;have L1:=H (u.lt);clear b P l;have b:=c;clear c;clear j K';refine bo (i:=17) (d:=20) (v:=.agg #[.slice (some ⟨f.drew.heap.size,0,none⟩) mix.length mix.length,.slice (some ⟨O.heap.size,0,none⟩) fifo.length fifo.length,.int .i64 (n:Nat)]) rfl E E E E (λ_ _ _ h=>h) (Or.inl ⟨E,λ_ _=>E⟩) b ?_;simp only [Fw,FA,FB];have d0:p.cell? ⟨s+1,0,none⟩=some (.slice none 0 0):=bJ m.out;have d1:p.cell? ⟨s+1,1,none⟩=some (.slice none 0 0):=bJ m.out;have d2:p.cell? ⟨s+1,2,none⟩=some (.int .i64 0):=bJ m.out;have f0:p.frozen? ⟨s+1,0,none⟩=false:=GY _ _ _ _ _ m.out;have f1:p.frozen? ⟨s+1,1,none⟩=false:=GY _ _ _ _ _ m.out;have f2:p.frozen? ⟨s+1,2,none⟩=false:=GY _ _ _ _ _ m.out;refine cn (r:=18) E ?_;refine dM rfl E (λK' j=>?_);go_simp;refine j _ _ ⟨⟨?_,?_,?_⟩,?_⟩;·have:=b.1;rw [jY _ _ _ _ _ _ iM];exact this
 ·have:=b.2.1;rw [jY _ _ _ _ _ _ iM];exact this
 ·have:=b.2.2;rw [jY _ _ _ _ _ _ (by dsimp only;exact B)];exact this
 refine bY ?_;go_wp2;refine GX (Gq dU _ _ (s+1) 94 _ (0,0) _ dU (set3 m _ _ _) underlying94 rfl E) dU ?_;have c:=R.size;have l:=u.lt;have P:s+1≠f.drew.heap.size:=by have:=q.out;have:=K.out;show s+1≠f.heap.size;omega
 have g:s+1≠O.heap.size:=by have:=q.out;have:=K.out;have e:f.drew.heap.size=f.heap.size:=rfl;omega
 refine⟨f.drew.heap.size,O.heap.size,rfl,?_,?_,c,l,?_⟩;·exact ((X1.other (Iq P) _).other (Iq P) _).other (Iq P) _
 ·exact ((R2.other (Iq g) _).other (Iq g) _).other (Iq g) _
 ·have:=K.out;exact ((B2.setCell iM _).setCell iM _).setCell iM _
end
section
open Go.RowKit
theorem qH (a:Nat) (w:World) (ha:a<18446744073709551616) :
  Calls prog 146 #[U a] w λe c=>e=.returned (U (aR a:Nat))/\c=w:=by
 by_cases h:0<a%1024
 ·have b:=H (show aR a=a/1024+1 by unfold aR;rw [GP h]);have d:(0:Int)<(a:Int)%1024:=Z;go_enter func146,ntmps146;go_wp2;go_ret;refine⟨?_,rfl⟩;rw [b.out];exact cX Z
 have b:=H (show aR a=a/1024 by unfold aR;rw [GO h];rfl);have d:¬((0:Int)<(a:Int)%1024):=Z;go_enter func146,ntmps146;go_wp2;go_ret;refine⟨?_,rfl⟩;rw [b.out];exact cX Z
theorem mc (c s:Nat) (W:World) (a:c<12) (f:s<6) :
  Calls prog 64 #[I c,I s] W λe d=>e=.returned (I (aD c s:Nat))/\D W d:=by
 refine (jO (c:Int) (s:Int) Z Z W).mono ?_;rintro e d ⟨rfl,b⟩;refine⟨cX ?_,b⟩;rw [v3 a,pU a];unfold aD;simp
theorem Dc (B x cf h) (c s:Nat) (W) (b:Sh B x cf h W) (i:c<12) (d:s<6) :
  Calls prog 205 #[J x.P 0,I c,I s] W λe g=>e=.returned (.bool (dA h c s))/\D W g:=by
 have j:W.cell? ⟨x.P,6,none⟩=some (J x.T 0):=b.cell 6 _ rfl;have k:=cD i d;obtain⟨l,v,w,m,n,o,f,_⟩:=b.sp.page (aD c s) Z;obtain⟨q,r⟩:=b.sp.c;have t:=H (show dA h c s=l from f.symm);have a:=H (λg=>mc c s g i d);generalize aD c s=p at *;have u:p<283:=Z;clear b n o r f k;go_enter func205,ntmps205;go_wp2
 go_region_with (first|(go_at_call 64;refine (a _).mono ?_;rintro e k ⟨rfl,f⟩;have b:D W k:=⟨f.os,f.tape,f.output,f.size,f.block⟩;have n:=ad b j;have o:=ad b q;have r:=ad b m))
 all_goals (go_wp2;go_ret;rw [t.out];exact⟨rfl,b⟩)
theorem uh (T Q bud m) (a:Nat) (v:Int) (w) (h:Sx T Q 283 bud m w) (ha:a<1000000) (i:isOpen (m (a/1024))=true) :
  Calls prog 149 #[J T 0,U a,.int .u8 v] w λe b=>e=.returned (.tuple #[])/\Sx T Q 283 bud (dZ m a v) b/\Sf Q w b:=by
 cases d:m (a/1024) with
 | none=>rw [d] at i;cases i
 | some q =>
  obtain⟨l,j⟩:=q;refine (ud T Q 283 bud m a v w h Z Z d).mono ?_;rintro e b ⟨rfl,k,g,c,n,o,f⟩;refine⟨rfl,?_,Sf.ofPut h n o f⟩;have:dZ m a v=dT m (a/1024) (some (l,j.set (a%1024) v)):=by unfold dZ;rw [d];rfl
  rw [this];exact k
theorem xM (c:Nat) (W:World) (d:c<12):Calls prog 66 #[I c] W λe a=>e=.returned (I (aM c:Nat))/\D W a:=by
 refine (gM (c:Int) W).mono ?_;rintro e a ⟨rfl,b⟩;exact⟨cX (vA d),b⟩
def wC (cf:Cf) (x:Sm) (c:Nat):List Value:=[x.mv c,x.fv c,I cf.fifo]
theorem fm (cf x):(nO cf x).length=36:=by simp [nO,List.range,List.range.loop]
theorem gC (cf x) {q r:Nat} (a:q<12) (b:r<3):(nO cf x)[q*3+r]?=(wC cf x q)[r]?:=eC (wC cf x) 3 (λ_=>rfl) (List.range 12) q q (by simp [a]) r b
def jW (f:Nat->Value) (c:Nat) (v:Value):Nat->Value:=λd=>if d=c then v else f d
theorem vC (cf) (x:Sm) (f:c<12) (vm vf):nO cf { x with mv:=jW x.mv c vm,fv:=jW x.fv c vf }=(((nO cf x).set (c*3) vm).set (c*3+1) vf).set (c*3+2) (I cf.fifo):=by
 apply Ho;intro i;by_cases g:i<36
 ·have e:i=i/3*3+i%3:=Z;obtain⟨q,r,a,b,rfl⟩:∃ q r,q<12/\r<3/\i=q*3+r:=⟨i/3,i%3,Z,Z,e⟩;rw [gC _ _ a b];simp only [Gr,Gj,fm];rw [gC _ _ a b];by_cases d:q=c
  ·subst d;have:r=0\/r=1\/r=2:=Z;rcases this with rfl|rfl|rfl;·rw [GO Z,GO Z,GP Z,GP Z];simp [wC,jW]
   ·rw [GO Z,GP rfl,GP Z];simp [wC,jW]
   rw [GP rfl,GP Z];simp [wC]
  rw [GO Z,GO Z,GO Z];simp [wC,jW,d]
 rw [FJ (by rw [fm];omega),FJ (by simp [fm];omega)]
theorem Sh.setWt {B x cf h V} (a:Sh B x cf h V) {wb wc} (j:x.wv=Vl wb 12 wc) (m:c<12) (vm vf mx' ff') (n:Wq V vm mx') (o:Wq V vf ff') :
  Sh B { x with mv:=jW x.mv c vm,fv:=jW x.fv c vf } cf { h with mx:=dB h.mx c mx',ff:=dB h.ff c ff' } (((V.setCell ⟨wb,c*3,none⟩ vm).setCell ⟨wb,c*3+1,none⟩ vf).setCell ⟨wb,c*3+2,none⟩ (I cf.fifo))/\Ky (· = 94) V (((V.setCell ⟨wb,c*3,none⟩ vm).setCell ⟨wb,c*3+1,none⟩ vf).setCell ⟨wb,c*3+2,none⟩ (I cf.fifo))/\V.grownBy (((V.setCell ⟨wb,c*3,none⟩ vm).setCell ⟨wb,c*3+1,none⟩ vf).setCell ⟨wb,c*3+2,none⟩ (I cf.fifo)) (some wb):=by
 have f:=a.wt;rw [j] at f;obtain⟨q,i⟩:=di f;have b:V.grownBy (((V.setCell ⟨wb,c*3,none⟩ vm).setCell ⟨wb,c*3+1,none⟩ vf).setCell ⟨wb,c*3+2,none⟩ (I cf.fifo)) (some wb):=au (au (au (al V wb) _ _) _ _) _ _;have k:Ky (· = 94) V _:=Ky.grown i rfl b;have p:=dP (dP (dP f (c*3) (by rw [fm];omega) vm) (c*3+1) (by rw [Gj,fm];omega) vf) (c*3+2) (by rw [Gj,Gj,fm];omega) (I cf.fifo);refine⟨⟨k.cells _ _ _ _ a.box ar,a.bp,a.bq,λg b=>a.bg g (cV (a.sp.qEq k ar) b),a.ds.ky k ar,a.sp.ky k ar ar ar,ai a.sl k ar,?_,λd l=>?_,ai a.rg k ar,ai a.ro k ar,ai a.rl k ar⟩,k,b⟩;·show World.ownsRow _ B 94 3 x.wv 12 _;rw [vC cf x m,j];exact p
 by_cases e:d=c;·subst e;simp only [jW,dB,IM];exact⟨n.ky k ar,o.ky k ar⟩
 simp only [jW,dB,GO e];exact⟨(a.wm d l).1.ky k ar,(a.wm d l).2.ky k ar⟩
theorem Sh.wtCells {B x cf h V} (e:Sh B x cf h V) {wb wc} (f:x.wv=Vl wb 12 wc) (b:c<12):V.cell? ⟨wb,c*3,none⟩=some (x.mv c)/\V.cell? ⟨wb,c*3+1,none⟩=some (x.fv c)/\V.cell? ⟨wb,c*3+2,none⟩=some (I cf.fifo)/\∀ i,V.frozen? ⟨wb,i,none⟩=false:=by
 have a:=e.wt;rw [f] at a;obtain⟨g,d⟩:=di a;exact⟨bC a (c*3+0) _ (gC cf x b Z),bC a (c*3+1) _ (gC cf x b Z),bC a (c*3+2) _ (gC cf x b Z),λi=>by simp [World.frozen?,d]⟩
def fQ (c:Nat):Nat:=[0,384,576,702,798,858,906,936,960,990,1014,1038,1062].getD c 0
def Dz (t:Nat×Nat×Nat):Nat:=fQ t.1+t.2.1*aM t.1+t.2.2
theorem yD:(dF.zipIdx.all λp=>p.2==Dz p.1)=true:=by decide +kernel
theorem sN (c:Nat) (a:c<12):fQ c+6*aM c=fQ (c+1):=by
 have:∀ c∈List.range 12,fQ c+6*aM c=fQ (c+1):=ar;exact this c (Gh.2 a)
theorem xk (a:c<12) (b:s<6) (d:j<aM c):(c,s,j)∈dF:=by
 unfold dF;exact List.mem_flatMap.2 ⟨c,Gh.2 a,List.mem_flatMap.2 ⟨s,Gh.2 b,FQ.2 ⟨j,Gh.2 d,rfl⟩⟩⟩
theorem Aq (b:c<12) (d:s<6) (e:j<aM c):dF[fQ c+s*aM c+j]?=some (c,s,j):=by
 obtain⟨k,a⟩:=List.mem_iff_getElem?.1 (xk b d e);have h:=List.all_eq_true.1 yD ((c,s,j),k) (List.mem_iff_getElem?.2 ⟨k,by rw [List.getElem?_zipIdx,a];simp⟩);have h:k=fQ c+s*aM c+j:=by simpa [Dz] using h
 rw [<-h];exact a
theorem uU (a:c<12) (b:s<6) (d:j<aM c):dF.take (fQ c+s*aM c+j+1)=dF.take (fQ c+s*aM c+j)++[(c,s,j)]:=by
 rw [F_,Aq a b d];rfl
def yI (t:Nat×Nat×Nat):List Value:=[I t.1,I t.2.1,I t.2.2,U (bh t.1 t.2.1 t.2.2:Nat),I 0,I 0]
theorem Ao:(prog.info? 126).map (λi=>(i.zero,i.size,i.bytes))=some (some (.agg #[I 0,I 0,I 0,U 0,I 0,I 0]),6,48):=E
theorem BL (W:World) (B:Nat) (v:Value) (l:List (Nat×Nat×Nat)) (r) (g:Nat) (c) (a:W.ownsRow B 126 6 v l.length (l.flatMap yI)) (o:W.heap[g]?=some (.cells (yI r).toArray 126)) (z:l.length<=2000) (p:B<=W.heap.size) :
  ∃ d b,(Builtin.append_ #[120,120] 120 #[v,Vl g 1 c]).run prog W=.ok d b/\b.ownsRow B 126 6 d (l++[r]).length ((l++[r]).flatMap yI)/\W.grownBy b v.ownBlock:=by
 obtain⟨q,e,f,i,k⟩:=G0 Ao;have m:∀ j u,(yI r)[j]?=some u->W.cell? ((⟨g,0,none⟩:Addr).add j)=some u:=λj u s=>by
  rw [Addr.add_mid,Gb,GT _ _ j _ _ _ o];simpa using s
 have t:∀ u∈yI r,u.oneCell'=true:=λu n=>by
  simp only [yI,F4,Gp,or_false] at n;rcases n with rfl|rfl|rfl|rfl|rfl|rfl <;> rfl
 obtain⟨d,b,w,x,y,_⟩:=Ia (P:=prog) W B 120 120 126 q _ 6 48 underlying120 e f i k rfl Z v _ _ a ⟨g,0,none⟩ 1 c (yI r) rfl m t (by unfold maxLen;omega) Z p;exact⟨d,b,w,by rw [Gu,FC];simpa using x,y⟩
theorem xL:(prog.info? 94).map (λi=>(i.zero,i.size,i.bytes))=some (some (.agg #[C,C,I 0]),3,56):=E
def rU (fi:Nat) (p:Option Addr×Nat×Nat):List Value:=[.slice p.1 p.2.1 p.2.2,C,I fi]
theorem By (W:World) (B:Nat) (v:Value) (fi) (l:List (Option Addr×Nat×Nat)) (r) (g:Nat) (c) (a:W.ownsRow B 94 3 v l.length (l.flatMap (rU fi))) (o:W.heap[g]?=some (.cells (rU fi r).toArray 94)) (z:l.length<=2000) (p:B<=W.heap.size) :
  ∃ d b,(Builtin.append_ #[32,32] 32 #[v,Vl g 1 c]).run prog W=.ok d b/\b.ownsRow B 94 3 d (l++[r]).length ((l++[r]).flatMap (rU fi))/\W.grownBy b v.ownBlock:=by
 obtain⟨q,e,f,i,k⟩:=G0 xL;have m:∀ j u,(rU fi r)[j]?=some u->W.cell? ((⟨g,0,none⟩:Addr).add j)=some u:=λj u s=>by
  rw [Addr.add_mid,Gb,GT _ _ j _ _ _ o];simpa using s
 have t:∀ u∈rU fi r,u.oneCell'=true:=λu n=>by
  simp only [rU,F4,Gp,or_false] at n;rcases n with rfl|rfl|rfl <;> rfl
 obtain⟨d,b,w,x,y,_⟩:=Ia (P:=prog) W B 32 32 94 q _ 3 56 underlying32 e f i k rfl Z v _ _ a ⟨g,0,none⟩ 1 c (rU fi r) rfl m t (by unfold maxLen;omega) Z p;exact⟨d,b,w,by rw [Gu,FC];simpa using x,y⟩
end
end Go.Proofs.YtibblbenmpcplaaGreatDoor
