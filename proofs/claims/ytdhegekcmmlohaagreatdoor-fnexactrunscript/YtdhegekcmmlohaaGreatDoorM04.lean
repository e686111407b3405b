import Derived.Test.YtdhegekcmmlohaaGreatDoorM02
set_option linter.unusedVariables false
set_option linter.unusedSimpArgs false
set_option maxRecDepth 20000
set_option maxHeartbeats 8000000
namespace Go.Proofs.YtdhegekcmmlohaaGreatDoor
open Go.Proofs.Tryz Go.RowKit Go.Maps Go.Shelf Go.ChangeShapes Go.WideShapes Go.ChangeAt
section
variable {W W':World}
theorem Cn{c s j:Nat}(a:c<12):(rs (c:Int)+(s:Int)*(pg (c:Int)+1))*1024+(j:Int)*sz (c:Int)=((bh c s j:Nat):Int):=by
 rw[OT a,pU a,uT a];unfold bh aD;simp
theorem Tb.ofBelow(h:Tb W)(a:D W W'):Tb W':=by
 have⟨t,b,h⟩:=h.row;exact⟨t,b,by rw[a.block 6 (ag h)];exact h⟩
theorem fx(a:Addr)(W:QM):QA 345 #[.pointer (some a)] W λe W'=>e=QJ (.pointer (some a))/\W'=W:=by
 go_enter func345,ntmps345;go_wp2;go_ret;exact QB
structure Sc(g b c s j:Nat)(W:QM):Prop where
 c2:W.cell? (Qz g 2)=some (J b 0)
 c3:W.cell? (Qz g 3)=some (I j)
 d0:W.cell? (Qz b 0)=some (I c)
 d1:W.cell? (Qz b 1)=some (I s)
 tb:Tb W
 hc:c<12
 hs:s<6
 hj:j<aM c
theorem Sc.below{g b c s j}(h:Sc g b c s j W)(k:D W W'):Sc g b c s j W':=⟨NI k h.c2,NI k h.c3,NI k h.d0,NI k h.d1,h.tb.ofBelow k,h.hc,h.hs,h.hj⟩
theorem eI(g b c s j W)(h:Sc g b c s j W):
  QA 162 #[J g 0] W λe W'=>e=QJ (U (bh c s j:Nat))/\D W W':=by
 have⟨i,m,n,o,p,f,q,r⟩:=h;have a:=H (kG (c:Nat) (s:Nat) (j:Nat) ⟨Z,Z,Z,Z,Z,by rw[vA f];omega⟩ W.drew ⟨p.row⟩);rw[Cn f]at a;have l:Hid (∀d,D W d->QG d g 2 (J b 0)/\QG d g 3 (I j)/\QG d b 0 (I c)/\QG d b 1 (I s)):=λd k=>⟨NI k i,NI k m,NI k n,NI k o⟩;go_enter func162,ntmps162;go_upto_region 1 with fail
 refine rh (S:=λd=>QG d g 2 (J b 0)/\QG d g 3 (I j)/\QG d b 0 (I c)/\QG d b 1 (I s)) ?_;have i:=l.out _ (Fu _ _).drew;iterate 18 (refine py i ?_;simp only[f0,f1,Nat.reduceAdd,lz,l0,ls])
 refine po 18 λK' n=>?_;go_simp;refine(a).mono ?_;rintro e o⟨rfl,f⟩;have k:D W o:=⟨f.os,f.tape,f.output,f.size,f.block⟩;have m:=l.out _ k;refine n _ _ ⟨m,?_⟩;have i:=m
 iterate 5 (refine py i ?_;simp only[f0,f1,Nat.reduceAdd,lz,l0,ls])
 refine bY ?_;have K2:=H k;go_wp2;go_ret;exact⟨rfl,K2⟩
theorem mh(g b c s j W)(h:Sc g b c s j W):
  QA 217 #[J g 0] W λe W'=>e=QJ (I (eV c:Nat))/\W'=W:=by
 have⟨n,i,o,k,d,f,l,m⟩:=h;have a:=H (vG (c:Nat) W d);rw[D3 f]at a;go_enter func217,ntmps217;go_wp2_with fail;refine(a).mono ?_;rintro e d⟨rfl,rfl⟩;go_wp2;go_ret;exact QB
theorem kC(g b c s j W)(h:Sc g b c s j W):
  QA 159 #[J g 0] W λe W'=>e=QJ (U (bh c s j+eV c:Nat))/\D W W':=by
 have⟨a,d⟩:=y7 (eI g b c s j W h) (λW'(f:D W W')=>mh g b c s j W' (h.below f));have ha:=ca h.hc h.hs h.hj;have f:=aX h.hc;have k:eV c<=1016:=Z;have l:=H (show((bh c s j+eV c:Nat):Int)=(bh c s j:Int)+(eV c:Int) by omega);have m:bh c s j<=200000:=Z;generalize bh c s j=A at*;generalize eV c=u at*;go_enter func159,ntmps159;go_wp2_with fail;refine(a).mono ?_;rintro e n⟨rfl,f⟩;have i:=H f;go_wp2_with fail;refine(d _ i).mono ?_;rintro e a⟨rfl,rfl⟩;go_wp2;go_ret;refine⟨?_,i⟩;rw[l];rfl
theorem km(a:Nat)(W:QM)(ha:a<18446744073709551616):
  QA 208 #[U a] W λe W'=>e=QJ (I (aR a:Nat))/\W'=W:=by
 unfold aR;by_cases c:a%1024 > 0;·rw[GP c];have b:=H (show(((a/1024+1:Nat):Nat):Int)=(a:Int)/1024+1 by omega);go_enter func208,ntmps208;go_wp2;go_ret;rw[b];exact QB
 rw[GO c];have b:=H (show(((a/1024+0:Nat):Nat):Int)=(a:Int)/1024 by omega);go_enter func208,ntmps208;go_wp2;go_ret;rw[b];exact QB
structure Lc(g:Nat)(r:Rg9)(W:QM):Prop where
 c0:W.cell? (Qz g 0)=some (I r.st)
 c1:W.cell? (Qz g 1)=some (I r.rq)
 c2:W.cell? (Qz g 2)=some (I r.first)
 c3:W.cell? (Qz g 3)=some (I r.guards)
 c4:W.cell? (Qz g 4)=some (I r.pages)
 hf:r.first<=300
 hu:r.guards<=3
 hp:r.pages<=18014398509481984
theorem Lc.below{g r}(h:Lc g r W)(k:D W W'):Lc g r W':=⟨NI k h.c0,NI k h.c1,NI k h.c2,NI k h.c3,NI k h.c4,h.hf,h.hu,h.hp⟩
theorem ie(g r W)(h:Lc g r W):
  QA 210 #[J g 0] W λe W'=>e=QJ (U r.base)/\W'=W.drew:=by
 have⟨_,_,b,c,_,d,i,_⟩:=h;have a:=H (show((r.base:Nat):Int)=((r.first:Int)+(r.guards:Int))*1024 by unfold Rg9.base;omega);generalize r.first=f at*
 generalize r.guards=u at*;go_enter func210,ntmps210;go_wp2;go_region;go_wp2;go_ret;rw[a];exact QB
theorem sY(g r W)(h:Lc g r W)(a:r.pages<=300):
  QA 346 #[J g 0] W λe W'=>e=QJ (I (r.pages*1024:Nat))/\W'=W:=by
 have⟨_,_,_,_,c,_,_,_⟩:=h;have b:=H (show((r.pages*1024:Nat):Int)=(r.pages:Int)*1024 by omega);generalize r.pages=p at*;go_enter func346,ntmps346;go_wp2;go_ret;rw[b];exact QB
theorem iE(g r W)(h:Lc g r W):
  QA 169 #[J g 0] W λe W'=>e=QJ (I r.ext)/\W'=W.drew:=by
 have⟨_,_,_,b,c,_,d,f⟩:=h;have a:=H (show((r.ext:Nat):Int)=(r.guards:Int)+(r.pages:Int)+1 by unfold Rg9.ext;omega);generalize r.guards=u at*;generalize r.pages=p at*;go_enter func169,ntmps169;go_wp2;go_region;go_wp2;go_ret;rw[a];exact QB
theorem Sh.usedP{B x cf h}(a:Sh B x cf h W):Sh B x cf {h with used:=h.used+1} (W.setCell ⟨x.P,12,none⟩ (I (h.used+1:Nat))):=by
 refine a.boxed (Ky.grown a.box rfl (au (al W x.P) 12 _)) (h.used+1) ?_;simp[World.setCell,FD,a.box,fN]
theorem oQ(B x cf h)(n:Nat)(W)(b:Sh B x cf h W)(p:1<=n)(s:n<=1000000)(l:h.used<=1000000)(v:cf.ds.length<=20000)(q:∀d∈cf.ds,(Lit.int .i64 d).wf=true):
  QA 124 #[J x.P 0,I n] W λe W'=>e=QJ (I (dr cf h n:Nat))/\Sh B x cf {h with used:=h.used+1} W'/\W.grownBy W' (some x.P):=by
 have f:W.cell? (Qz x.P 12)=some (I h.used):=b.cell 12 _ rfl;have t:W.cell? (Qz x.P 5)=some (.slice x.da cf.ds.length x.dc):=b.cell 5 _ rfl;have f12:W.frozen? (Qz x.P 12)=false:=by simp[QD,b.box]
 have c:((h.used+1:Nat):Int)=(h.used:Int)+1:=Z;have⟨i,a⟩:=y7 b.usedP (au (al W x.P) 12 (I (h.used+1:Nat)));rw[c]at i a;by_cases c:h.used<cf.ds.length
 ·have⟨g,j,r⟩:=b.ds.cells h.used c;rw[j]at t;have k:Hid (dr cf h n=md (cf.ds[h.used]?.getD 0) n):=rfl;generalize cf.ds[h.used]?.getD 0=d at k r;have⟨M,w⟩:=y7 (λW'=>lU d n W' p Z) l;generalize cf.ds.length=m at*;generalize o:h.used=us at f r c i a l;have j:(us:Int)<(m:Int):=Z;go_enter func124,ntmps124;go_wp2;go_region;go_wp2;go_region;go_wp2_with fail;refine(M _).mono ?_;rintro e u⟨rfl,rfl⟩;go_wp2;go_ret;refine⟨?_,i.below (Fu _ _).drew.drew,⟨a.os,a.tape,a.output,a.size,a.block⟩⟩;rw[k];rfl
 have k:=H (show dr cf h n=md 0 n by unfold dr md;rw[FJ Z];rfl);have M:=H (λW'=>lU 0 n W' p Z);generalize cf.ds.length=m at*;generalize o:h.used=us at f c i a l;have j:¬((us:Int)<(m:Int)):=Z;go_enter func124,ntmps124;go_wp2;go_region;go_wp2_with fail;refine(M _).mono ?_;rintro e u⟨rfl,rfl⟩;go_wp2;go_ret;refine⟨?_,i.below (Fu _ _).drew,⟨a.os,a.tape,a.output,a.size,a.block⟩⟩;rw[k];rfl
structure df where
 o:fL
 d:QP
 dc:Nat
abbrev Qn(q:df):Obj:=.cells #[I q.o.kd,I q.o.ref,U q.o.p,U q.o.a,U q.o.b,.slice q.d q.o.ys.length q.dc] 48
def fH(q:df):List Value:=[I q.o.kd,I q.o.ref,U q.o.p,U q.o.a,U q.o.b,.slice q.d q.o.ys.length q.dc]
structure Ois(w:QM)(A:QP)(ops:List df):Prop where
 at_:∀k q,ops[k]?=some q->∃G,A=some (Qz G 0)/\G<w.heap.size/\∀j u,(fH q)[j]?=some u->w.cell? (Qz G (k*6+j))=some u
 wf:∀q∈ops,q.o.p<18446744073709551616/\q.o.a<18446744073709551616/\q.o.b<18446744073709551616
 dat:∀q∈ops,∀i,i<q.o.ys.length->∃x,q.d=some x/\w.cell? (x.add i)=some (.int .u8 (q.o.ys[i]?.getD 0))/\(x.add i).block<w.heap.size
theorem cR{w}(b:D w W){x:Addr}{u:QN}(h:w.cell? x=some u):W.cell? x=some u:=NI b h
theorem Ois.dt{w A ops}(h:Ois w A ops){Q:Nat}(b:D w W)(k:w.heap.size<=Q)(a:∀g,e_ Q W g->w.heap.size<=g){q:df}(c:q∈ops):Dt Q W q.d q.o.ys.length q.o.ys:=by
 refine⟨rfl,λi d=>?_⟩;have⟨x,f,g,j⟩:=h.dat q c i d;exact⟨x,f,cR b g,FG j b.size,Z,λe=>by have:=a _ e;omega⟩
end
section
variable {c j s:Nat}
theorem EU(M rm G rq n mix fifo W)(h:Qr W M rm G rq n mix fifo)(a:mix.length<=1024):
  QA 173 #[J M 0] W λe c=>e=QJ (Vl W.heap.size mix.length mix.length)/\RowV c W.heap.size 3 (Ns .i64 mix)/\D W c:=by
 have b:=h.mx.1;have d:=h.mx.2;have:=row_in M rm mix.length 0 mix.length _ W.heap.size mix W rfl rfl (bJ b) (bJ b) (bJ b) d rfl (FH _) (Fv _) a;rwa [IE,List.take_zero,Gl,G9]at this
theorem EZ(M rm G rq n mix fifo W)(h:Qr W M rm G rq n mix fifo)(a:n<=1024):
  QA 173 #[J G 0] W λe c=>e=QJ (Vl W.heap.size fifo.length fifo.length)/\RowV c W.heap.size 3 (Ns .i64 fifo)/\D W c:=by
 have⟨ps,o,k,b,d,f,j,g,l,e⟩:=h.qu;have:=row_in G rq n o k _ W.heap.size ps W rfl rfl (bJ b) (bJ b) (bJ b) d f Z g a;rw[<-e]at this;have i:fifo.length=k:=by rw[e];simp;omega
 rw[i];exact this
theorem jY(W:QM)(g:Nat)(a b c:QN)(x:Addr)(h:x.block≠g):(((W.setCell (Qz g 0) a).setCell (Qz g 1) b).setCell (Qz g 2) c).cell? x=W.cell? x:=by
 unfold World.cell?;rw[heap_setCell_other _ _ _ _ (by simpa using h),heap_setCell_other _ _ _ _ (by simpa using h),heap_setCell_other _ _ _ _ (by simpa using h)]
theorem xd(M rm G rq n)(s:Nat)(t:QO)(a:Addr)(mix fifo)(w:QM)(g:s=w.heap.size)(h:Qr w M rm G rq n mix fifo)(x:mix.length<=1024)(y:n<=1024):
  QA 110 #[.agg #[J M 0,J G 0,.iface t (.pointer (some a))]] w λe z=>∃b c,e=QJ (wv (some (Qz b 0)) mix.length mix.length (some (Qz c 0)) fifo.length fifo.length (n:Nat))/\RowV z b 3 (Ns .i64 mix)/\RowV z c 3 (Ns .i64 fifo)/\w.heap.size<=b/\b<c/\D w z:=by
 have b:=lF w (.cells #[J M 0,J G 0,.iface t (.pointer (some a))] 150) (.cells #[C,C,I 0] 113);have⟨ps,o,k,c,f⟩:=h.qu;clear f;have⟨T,V⟩:=y7 (λW(A:Qr W M rm G rq n mix fifo)=>EU M rm G rq n mix fifo W A x) (λW(A:Qr W M rm G rq n mix fifo)=>EZ M rm G rq n mix fifo W A y);have X:=dO c;have B:G≠s+1:=Z;have Y:G≠s:=Z;have j:=NI b.2.2 (show w.cell? (Qz G 0)=some (.slice (some (Qz rq 0)) n n)from bJ c);have l:=h.but (But.ofBelow (S:=λ_=>False) b.2.2) id id id id;have q:=H (show w.heap.size+2<=((w.alloc (.cells #[J M 0,J G 0,.iface t (.pointer (some a))] 150)).alloc (.cells #[C,C,I 0] 113)).heap.size by rw[cS,cS];omega);clear h c;go_enter func110,ntmps110;go_wp2;rw[<-g];have c:=b.2.2;rw[<-g]at b;generalize (w.alloc (.cells #[J M 0,J G 0,.iface t (.pointer (some a))] 150)).alloc (.cells #[C,C,I 0] 113)=f at*;have F:f.drew.cell? (Qz s 0)=some (J M 0)/\f.drew.cell? (Qz s 1)=some (J G 0)/\f.drew.cell? (Qz G 0)=some (.slice (some (Qz rq 0)) n n):=⟨(GT f _ _ _ _ _ b.1).trans rfl,(GT f _ _ _ _ _ b.1).trans rfl,j⟩;have Q:Hid (Qr f.drew M rm G rq n mix fifo):=l.but (S:=λ_=>False) (But.refl _ _).drew id id id id;have HZ:Hid (f.drew.heap[s+1]?=some (.cells #[C,C,I 0] 113)):=b.2.1;have R:=H c.drew;clear c;have K:=H g;clear b g l j;refine wp_region_held (S:=λW=>W.cell? (Qz s 0)=some (J M 0)/\W.cell? (Qz s 1)=some (J G 0)/\W.cell? (Qz G 0)=some (.slice (some (Qz rq 0)) n n)) E ?_;simp only[FX,FN,F1,Nat.reduceAdd,FP,FO,FY,FV,F5];have b:=F;refine bo (i:=0) (d:=3) (v:=J s 0) rfl E E E E (λ_ _ _ h=>h) (Or.inl ⟨E,λ_ _=>E⟩) b ?_;simp only[Fw,FA,FB];refine bo (i:=1) (d:=4) (v:=J M 0) rfl E E E E (λ_ _ _ h=>h) (Or.inl ⟨E,λW b=>by obtain⟨g,L,N⟩:=b;go_simp⟩) b ?_;simp only[Fw,FA,FB];refine bo (i:=2) (d:=5) (v:=J M 0) rfl E E E E (λ_ _ _ h=>h) (Or.inl ⟨E,λ_ _=>E⟩) b ?_;simp only[Fw,FA,FB];refine bo (i:=3) (d:=6) (v:=J M 0) rfl E E E E (λ_ _ _ h=>h) (Or.inl ⟨E,λ_ _=>E⟩) b ?_;simp only[Fw,FA,FB];refine bo (i:=5) (d:=8) (v:=J s 1) rfl E E E E (λ_ _ _ h=>h) (Or.inl ⟨E,λ_ _=>E⟩) b ?_;simp only[Fw,FA,FB];refine bo (i:=6) (d:=9) (v:=J G 0) rfl E E E E (λ_ _ _ h=>h) (Or.inl ⟨E,λW b=>by obtain⟨g,L,N⟩:=b;go_simp⟩) b ?_;simp only[Fw,FA,FB];refine bo (i:=7) (d:=10) (v:=J G 0) rfl E E E E (λ_ _ _ h=>h) (Or.inl ⟨E,λ_ _=>E⟩) b ?_;simp only[Fw,FA,FB];refine bo (i:=8) (d:=11) (v:=J G 0) rfl E E E E (λ_ _ _ h=>h) (Or.inl ⟨E,λ_ _=>E⟩) b ?_;simp only[Fw,FA,FB];refine bo (i:=10) (d:=13) (v:=J s 1) rfl E E E E (λ_ _ _ h=>h) (Or.inl ⟨E,λ_ _=>E⟩) b ?_;simp only[Fw,FA,FB];refine bo (i:=11) (d:=14) (v:=J G 0) rfl E E E E (λ_ _ _ h=>h) (Or.inl ⟨E,λW b=>by obtain⟨g,L,N⟩:=b;go_simp⟩) b ?_;simp only[Fw,FA,FB];refine bo (i:=12) (d:=15) (v:=J G 0) rfl E E E E (λ_ _ _ h=>h) (Or.inl ⟨E,λ_ _=>E⟩) b ?_;simp only[Fw,FA,FB];refine bo (i:=13) (d:=16) (v:=J G 0) rfl E E E E (λ_ _ _ h=>h) (Or.inl ⟨E,λ_ _=>E⟩) b ?_;simp only[Fw,FA,FB];refine bo (i:=14) (d:=17) (v:=J G 0) rfl E E E E (λ_ _ _ h=>h) (Or.inl ⟨E,λ_ _=>E⟩) b ?_;simp only[Fw,FA,FB];refine bo (i:=15) (d:=18) (v:=.slice (some (Qz rq 0)) n n) rfl E E E E (λ_ _ _ h=>h) (Or.inl ⟨E,λW b=>by obtain⟨g,L,N⟩:=b;go_simp⟩) b ?_;simp only[Fw,FA,FB];refine bo (i:=16) (d:=19) (v:=I n) rfl E E E E (λ_ _ _ h=>h) (Or.inl ⟨E,λW _=>by first|(go_simp;done)|(go_simp;omega)⟩) b ?_;simp only[Fw,FA,FB];refine cn (r:=4) E ?_;refine dM rfl E (λK' j=>?_);go_simp;refine(T _ Q).mono ?_;rintro e O⟨rfl,m,l⟩;have⟨B1,Q1,Z1,u⟩:=Qf (az R l) (Q.but (But.ofBelow (S:=λ_=>False) l) id id id id) (ae HZ l) m;have c:=(show _/\_/\_ from⟨NI l b.1,NI l b.2.1,NI l b.2.2⟩);refine j _ _ ⟨c,?_⟩;clear b m l;have b:=c;clear c;clear j K';refine cn (r:=9) E ?_;refine dM rfl E (λK' j=>?_);go_simp;refine(V _ Q1).mono ?_;rintro e p⟨rfl,P,l⟩;have⟨B2,m,R2,X1⟩:=Qf (az B1 l) (ae Z1 l) P (u.below l u.lt);have c:=(show _/\_/\_ from⟨NI l b.1,NI l b.2.1,NI l b.2.2⟩);refine j _ _ ⟨c,?_⟩;have L1:=H (u.lt);clear b P l;have b:=c;clear c;clear j K';refine bo (i:=17) (d:=20) (v:=.agg #[.slice (some (Qz f.drew.heap.size 0)) mix.length mix.length,.slice (some (Qz O.heap.size 0)) fifo.length fifo.length,I n]) rfl E E E E (λ_ _ _ h=>h) (Or.inl ⟨E,λ_ _=>E⟩) b ?_;simp only[Fw,FA,FB];have d0:p.cell? ⟨s+1,0,none⟩=some C:=bJ m;have d1:p.cell? ⟨s+1,1,none⟩=some C:=bJ m;have d2:p.cell? ⟨s+1,2,none⟩=some (I 0):=bJ m;have f0:p.frozen? ⟨s+1,0,none⟩=false:=GY _ _ _ _ _ m;have f1:p.frozen? ⟨s+1,1,none⟩=false:=GY _ _ _ _ _ m;have f2:p.frozen? ⟨s+1,2,none⟩=false:=GY _ _ _ _ _ m;refine cn (r:=18) E ?_;refine dM rfl E (λK' j=>?_);go_simp;refine j _ _ ⟨⟨?_,?_,?_⟩,?_⟩;·have:=b.1;rw[jY _ _ _ _ _ _ iM];exact this
 ·have:=b.2.1;rw[jY _ _ _ _ _ _ iM];exact this
 ·have:=b.2.2;rw[jY _ _ _ _ _ _ (by dsimp only;exact B)];exact this
 refine bY ?_;go_wp2;refine GX (Gq dU _ _ (s+1) 113 _ (0,0) _ dU (set3 m _ _ _) underlying113 rfl E) dU ?_;have c:=R.size;have l:=u.lt;have P:s+1≠f.drew.heap.size:=by have:=q.out;have:=K.out;show s+1≠f.heap.size;omega
 have g:s+1≠O.heap.size:=by have:=q.out;have:=K.out;have e:f.drew.heap.size=f.heap.size:=rfl;omega
 refine⟨f.drew.heap.size,O.heap.size,rfl,?_,?_,c,l,?_⟩;·exact((X1.other (Iq P) _).other (Iq P) _).other (Iq P) _
 ·exact((R2.other (Iq g) _).other (Iq g) _).other (Iq g) _
 ·have:=K.out;exact((B2.setCell iM _).setCell iM _).setCell iM _
theorem qH(a:Nat)(w:QM)(ha:a<18446744073709551616):
  QA 125 #[U a] w λe c=>e=QJ (U (aR a:Nat))/\c=w:=by
 by_cases h:0<a%1024
 ·have b:=H (show aR a=a/1024+1 by unfold aR;rw[GP h]);have d:(0:Int)<(a:Int)%1024:=Z;go_enter func125,ntmps125;go_wp2;go_ret;refine⟨?_,rfl⟩;rw[b];exact cX Z
 have b:=H (show aR a=a/1024 by unfold aR;rw[GO h];rfl);have d:¬((0:Int)<(a:Int)%1024):=Z;go_enter func125,ntmps125;go_wp2;go_ret;refine⟨?_,rfl⟩;rw[b];exact cX Z
theorem mc(c s:Nat)(W:QM)(a:c<12)(f:s<6):
  QA 119 #[I c,I s] W λe d=>e=QJ (I (aD c s:Nat))/\D W d:=by
 refine(jO (c:Int) (s:Int) Z Z W).mono ?_;rintro e d⟨rfl,b⟩;refine⟨cX ?_,b⟩;rw[OT a,pU a];unfold aD;simp
theorem Dc(B x cf h)(c s:Nat)(W)(b:Sh B x cf h W)(i:c<12)(d:s<6):
  QA 177 #[J x.P 0,I c,I s] W λe g=>e=QJ (.bool (dA h c s))/\D W g:=by
 have j:W.cell? (Qz x.P 6)=some (J x.T 0):=b.cell 6 _ rfl;have f:=cD i d;have⟨k,v,w,l,m,n,e1,_⟩:=b.sp.page (aD c s) Z;have⟨o,q⟩:=b.sp.c;have⟨r,a⟩:=y7 (show dA h c s=k from e1.symm) (λg=>mc c s g i d);generalize aD c s=p at*;have t:p<283:=Z;clear b m n q e1 f;go_enter func177,ntmps177;go_wp2
 go_region_with (first|(go_at_call 119;refine(a _).mono ?_;rintro e m⟨rfl,f⟩;have b:D W m:=⟨f.os,f.tape,f.output,f.size,f.block⟩;have n:=NI b j;have q:=NI b o;have u:=NI b l))
 all_goals(go_wp2;go_ret;rw[r];exact⟨rfl,b⟩)
theorem uh(T Q bud m)(a:Nat)(v:Int)(w)(h:Sx T Q 283 bud m w)(ha:a<1000000)(i:isOpen (m (a/1024))=true):
  QA 128 #[J T 0,U a,.int .u8 v] w λe b=>e=QJ (.tuple #[])/\Sx T Q 283 bud (dZ m a v) b/\Sf Q w b:=by
 cases d:m (a/1024)with
 |none=>rw[d]at i;cases i
 |some q=>
  have⟨l,j⟩:=q;refine(ud T Q 283 bud m a v w h Z Z d).mono ?_;rintro e b⟨rfl,k,g,c,n,o,f⟩;refine⟨rfl,?_,Sf.ofPut h n o f⟩;have:dZ m a v=dT m (a/1024) (some (l,j.set (a%1024) v)):=by unfold dZ;rw[d];rfl
  rw[this];exact k
theorem xM(c:Nat)(W:QM)(d:c<12):QA 70 #[I c] W λe a=>e=QJ (I (aM c:Nat))/\D W a:=by
 refine(gM (c:Int) W).mono ?_;rintro e a⟨rfl,b⟩;exact⟨cX (vA d),b⟩
def wC(cf:Cf)(x:Sm)(c:Nat):List Value:=[x.mv c,x.fv c,I cf.fifo]
theorem NS(cf x):(nO cf x).length=36:=by simp[nO,List.range,List.range.loop]
theorem gC(cf x){q r:Nat}(a:q<12)(b:r<3):(nO cf x)[q*3+r]?=(wC cf x q)[r]?:=eC (wC cf x) 3 (λ_=>rfl) (List.range 12) q q (by simp[a]) r b
def jW(f:Nat->Value)(c:Nat)(v:Value):Nat->Value:=λd=>if d=c then v else f d
theorem vC(cf)(x:Sm)(f:c<12)(vm vf):nO cf {x with mv:=jW x.mv c vm,fv:=jW x.fv c vf}=(((nO cf x).set (c*3) vm).set (c*3+1) vf).set (c*3+2) (I cf.fifo):=by
 apply Ho;intro i;by_cases g:i<36
 ·have e:i=i/3*3+i%3:=Z;obtain⟨q,r,a,b,rfl⟩:∃q r,q<12/\r<3/\i=q*3+r:=⟨i/3,i%3,Z,Z,e⟩;rw[gC _ _ a b];simp only[Gr,Gj,NS];rw[gC _ _ a b];by_cases d:q=c
  ·subst d;have:r=0\/r=1\/r=2:=Z;rcases this with rfl|rfl|rfl;·rw[GO Z,GO Z,GP Z,GP Z];simp[wC,jW]
   ·rw[GO Z,GP rfl,GP Z];simp[wC,jW]
   rw[GP rfl,GP Z];simp[wC]
  rw[GO Z,GO Z,GO Z];simp[wC,jW,d]
 rw[FJ (by rw[NS];omega),FJ (by simp[NS];omega)]
theorem Sh.setWt{B x cf h V}(a:Sh B x cf h V){wb wc}(j:x.wv=Vl wb 12 wc)(m:c<12)(vm vf mx' ff')(n:Wq V vm mx')(o:Wq V vf ff'):
  Sh B {x with mv:=jW x.mv c vm,fv:=jW x.fv c vf} cf {h with mx:=dB h.mx c mx',ff:=dB h.ff c ff'} (((V.setCell (Qz wb (c*3)) vm).setCell (Qz wb (c*3+1)) vf).setCell (Qz wb (c*3+2)) (I cf.fifo))/\Ky (· =113) V (((V.setCell (Qz wb (c*3)) vm).setCell (Qz wb (c*3+1)) vf).setCell (Qz wb (c*3+2)) (I cf.fifo))/\V.grownBy (((V.setCell (Qz wb (c*3)) vm).setCell (Qz wb (c*3+1)) vf).setCell (Qz wb (c*3+2)) (I cf.fifo)) (some wb):=by
 have f:=a.wt;rw[j]at f;have⟨q,i⟩:=di f;have b:V.grownBy (((V.setCell (Qz wb (c*3)) vm).setCell (Qz wb (c*3+1)) vf).setCell (Qz wb (c*3+2)) (I cf.fifo)) (some wb):=au (au (au (al V wb) _ _) _ _) _ _;have k:Ky (· =113) V _:=Ky.grown i rfl b;have p:=dP (dP (dP f (c*3) (by rw[NS];omega) vm) (c*3+1) (by rw[Gj,NS];omega) vf) (c*3+2) (by rw[Gj,Gj,NS];omega) (I cf.fifo);refine⟨⟨k.cells _ _ _ _ a.box ar,a.bp,a.bq,λg b=>a.bg g (cV (a.sp.qEq k ar) b),a.ds.ky k ar,a.sp.ky k ar ar ar,ai a.sl k ar,?_,λd l=>?_,ai a.rg k ar,ai a.ro k ar,ai a.rl k ar⟩,k,b⟩;·show World.ownsRow _ B 113 3 x.wv 12 _;rw[vC cf x m,j];exact p
 by_cases e:d=c;·subst e;simp only[jW,dB,IM];exact⟨n.ky k ar,o.ky k ar⟩
 simp only[jW,dB,GO e];exact⟨(a.wm d l).1.ky k ar,(a.wm d l).2.ky k ar⟩
theorem Sh.wtCells{B x cf h V}(e:Sh B x cf h V){wb wc}(f:x.wv=Vl wb 12 wc)(b:c<12):QG V wb (c*3) (x.mv c)/\QG V wb (c*3+1) (x.fv c)/\QG V wb (c*3+2) (I cf.fifo)/\∀i,V.frozen? (Qz wb i)=false:=by
 have a:=e.wt;rw[f]at a;have⟨g,d⟩:=di a;exact⟨bC a (c*3+0) _ (gC cf x b Z),bC a (c*3+1) _ (gC cf x b Z),bC a (c*3+2) _ (gC cf x b Z),λi=>by simp[QD,d]⟩
def fQ(c:Nat):Nat:=[0,384,576,702,798,858,906,936,960,990,1014,1038,1062].getD c 0
def Dz(t:Nat×Nat×Nat):Nat:=fQ t.1+t.2.1*aM t.1+t.2.2
theorem yD:(dF.zipIdx.all λp=>p.2==Dz p.1)=true:=by decide +kernel
theorem sN(c:Nat)(a:c<12):fQ c+6*aM c=fQ (c+1):=by
 have:∀c∈List.range 12,fQ c+6*aM c=fQ (c+1):=ar;exact this c (Gh.2 a)
theorem xk(a:c<12)(b:s<6)(d:j<aM c):(c,s,j)∈dF:=by
 unfold dF;exact List.mem_flatMap.2 ⟨c,Gh.2 a,List.mem_flatMap.2 ⟨s,Gh.2 b,FQ.2 ⟨j,Gh.2 d,rfl⟩⟩⟩
theorem Aq(b:c<12)(d:s<6)(e:j<aM c):dF[fQ c+s*aM c+j]?=some (c,s,j):=by
 have⟨k,a⟩:=List.mem_iff_getElem?.1 (xk b d e);have h:=List.all_eq_true.1 yD ((c,s,j),k) (List.mem_iff_getElem?.2 ⟨k,by rw[List.getElem?_zipIdx,a];simp⟩);have h:k=fQ c+s*aM c+j:=by simpa[Dz]using h
 rw[<-h];exact a
theorem uU(a:c<12)(b:s<6)(d:j<aM c):dF.take (fQ c+s*aM c+j+1)=dF.take (fQ c+s*aM c+j)++[(c,s,j)]:=by
 rw[F_,Aq a b d];rfl
def yI(t:Nat×Nat×Nat):List Value:=[I t.1,I t.2.1,I t.2.2,U (bh t.1 t.2.1 t.2.2:Nat),I 0,I 0]
theorem Ao:(prog.info? 109).map (λi=>(i.zero,i.size,i.bytes))=some (some (.agg #[I 0,I 0,I 0,U 0,I 0,I 0]),6,48):=E
theorem BL(W:QM)(B:Nat)(v:QN)(l:List (Nat×Nat×Nat))(r)(g:Nat)(c)(a:W.ownsRow B 109 6 v l.length (l.flatMap yI))(o:W.heap[g]?=some (.cells (yI r).toArray 109))(y:l.length<=2000)(p:B<=W.heap.size):
  ∃d b,QI 103 v (Vl g 1 c) W d b/\b.ownsRow B 109 6 d (l++[r]).length ((l++[r]).flatMap yI)/\W.grownBy b v.ownBlock:=by
 have⟨q,e,f,i,k⟩:=G0 Ao;have m:∀j u,(yI r)[j]?=some u->W.cell? (((Qz g 0):Addr).add j)=some u:=λj u s=>by
  rw[Addr.add_mid,Oi,GT _ _ j _ _ _ o];simpa using s
 have t:∀u∈yI r,u.oneCell'=true:=λu n=>by
  simp only[yI,F4,Gp,or_false]at n;rcases n with rfl|rfl|rfl|rfl|rfl|rfl<;>rfl
 have⟨d,b,e1,w,x,_⟩:=Ia (P:=prog) W B 103 103 109 q _ 6 48 underlying103 e f i k rfl Z v _ _ a (Qz g 0) 1 c (yI r) rfl m t (by unfold maxLen;omega) Z p;exact⟨d,b,e1,by rw[Gu,FC];simpa using w,x⟩
theorem xL:(prog.info? 113).map (λi=>(i.zero,i.size,i.bytes))=some (some (.agg #[C,C,I 0]),3,56):=E
def rU(fi:Nat)(p:Option Addr×Nat×Nat):List Value:=[.slice p.1 p.2.1 p.2.2,C,I fi]
theorem By(W:QM)(B:Nat)(v:QN)(fi)(l:List (Option Addr×Nat×Nat))(r)(g:Nat)(c)(a:W.ownsRow B 113 3 v l.length (l.flatMap (rU fi)))(o:W.heap[g]?=some (.cells (rU fi r).toArray 113))(y:l.length<=2000)(p:B<=W.heap.size):
  ∃d b,QI 37 v (Vl g 1 c) W d b/\b.ownsRow B 113 3 d (l++[r]).length ((l++[r]).flatMap (rU fi))/\W.grownBy b v.ownBlock:=by
 have⟨q,e,f,i,k⟩:=G0 xL;have m:∀j u,(rU fi r)[j]?=some u->W.cell? (((Qz g 0):Addr).add j)=some u:=λj u s=>by
  rw[Addr.add_mid,Oi,GT _ _ j _ _ _ o];simpa using s
 have t:∀u∈rU fi r,u.oneCell'=true:=λu n=>by
  simp only[rU,F4,Gp,or_false]at n;rcases n with rfl|rfl|rfl<;>rfl
 have⟨d,b,e1,w,x,_⟩:=Ia (P:=prog) W B 37 37 113 q _ 3 56 underlying37 e f i k rfl Z v _ _ a (Qz g 0) 1 c (rU fi r) rfl m t (by unfold maxLen;omega) Z p;exact⟨d,b,e1,by rw[Gu,FC];simpa using w,x⟩
end
section
variable {B P Q k n r:Nat}{h:Hs}{bud:Int}{m:Nat->Option (Bool×List Int)}{W W' W0:World}{x:Sm}{cf:Cf}{F:Nat->Value}{S:TypeId->Prop}
def Zn(e:List Nat):List Value:=e.map λ(n:Nat)=>Value.int .i64 (n:Int)
theorem yV(a:List Nat)(n:Nat):Zn (a++[n])=Zn a++[I (n:Int)]:=by simp[Zn]
def jr(e:List Int)(z:Int)(k r:Nat):List Nat:=if(e.take r).contains z then[k]else[]
theorem yE{a:List Int}{z:Int}(d:a.Nodup)(h:a[r]?=some z):jr a z k r=[]/\jr a z k (r+1)=[k]:=by
 have f:=(Fz.1 h).1;have b:(a.take r).contains z=false:=by
  rw[List.contains_eq_mem,decide_eq_false_iff_not];intro g;have⟨i,c⟩:=He g;have e:=(Fz.1 c).1;rw[Hm]at e;rw[Hf Z]at c;have j:=II.1 d i r Z f Z;rw[Fy Z]at c h;simp at c h;exact j (c.trans h.symm)
 refine⟨by unfold jr;rw[b];rfl,?_⟩;unfold jr;rw[F_,h];simp
theorem z8{a:List Int}{z y:Int}(b:z≠y)(h:a[r]?=some y):jr a z k (r+1)=jr a z k r:=by
 unfold jr;rw[F_,h];simp[b]
theorem Ci:(prog.info? 3).map (λi=>(i.zero,i.size,i.bytes))=some (some (I 0),1,8):=E
theorem yC(B x cf h)(c s:Nat)(a)(b Q:Nat)(sts W)(f:Sh B x cf h W)(d:Sl W a sts)(g:sts.length=b)(R:sts.Nodup)(a5:b<=3):
  QA 178 #[J x.P 0,I c,I s,.slice a b Q] W λe W'=>∃v,e=QJ v/\W'.ownsRow W.heap.size 3 1 v (jc h c s sts 1062).length (Zn (jc h c s sts 1062))/\D W W':=by
 have⟨i0,S,T,Y,a0⟩:=G0 Ci;have c7:W.cell? (Qz x.P 7)=some (Vl x.G 1062 x.gc):=f.cell 7 _ rfl;have⟨HS,HT,HL⟩:=Qe f d.cells g;clear f d g;go_enter func178,ntmps178;go_wp2;go_loopw [9,19] (λv i wr=>∃k:Nat,k<=1062/\i=I k/\Hid (wr.ownsRow W.heap.size 3 1 v (jc h c s sts k).length (Zn (jc h c s sts k)))/\Hid (D W wr)) (λ_ i _=>1062-(intOf i).toNat);case atStart=>exact⟨0,FH _,rfl,H ⟨rfl,.inl ⟨rfl,rfl⟩⟩,H (Fu _ _)⟩
 case round=>
  obtain⟨k,hk,rfl,HO,L⟩:=hrel;by_cases a3:k<1062
  ·have⟨d0,d1,d2,d3,d4,d5⟩:=(HS.below L).slot a3;have HN:=H (xH h c s sts k);have a6:=zJ h c s sts k;obtain⟨va,vb,vc,rfl⟩:∃p l M,u9=.slice p l M:=by rcases HO.2 with⟨rfl,_⟩|⟨g,cp,a4,rfl,_⟩<;>exact⟨_,_,_,rfl⟩
   have⟨n,o,N⟩:=Qe (HO.alloc (.cells #[I ((sA k).1:Nat),I ((sA k).2.1:Nat),I ((sA k).2.2:Nat),U (gt k:Nat),I (dC h k),I (fJ h k)] 109)) (L.alloc L.size (.cells #[I ((sA k).1:Nat),I ((sA k).2.1:Nat),I ((sA k).2.2:Nat),U (gt k:Nat),I (dC h k),I (fJ h k)] 109)) (ao wr (.cells #[I ((sA k).1:Nat),I ((sA k).2.1:Nat),I ((sA k).2.2:Nat),U (gt k:Nat),I (dC h k),I (fJ h k)] 109));by_cases hc:(sA k).1=c
   ·by_cases d:(sA k).2.1=s
    ·have HF:=H (show jc h c s sts (k+1)=jc h c s sts k++jr sts (dC h k) k sts.length by
      rw[HN];unfold jr;rw[Ge (Fv _)];simp[hc,d])
     have a7:(jc h c s sts k).length<=1062:=Z;generalize f:jc h c s sts k=q at*;clear f;generalize dC h k=z at*;generalize fJ h k=z2 at*;generalize gt k=z3 at*;generalize (sA k).2.2=e3 at*;generalize (sA k).1=e1 at*;generalize (sA k).2.1=O at*;subst hc;subst d;have t:(wr.alloc (.cells #[I e1,I O,I e3,U z3,I z,I z2] 109)).heap[wr.heap.size]?=some (.cells #[I e1,I O,I e3,U z3,I z,I z2] 109):=N.out;go_wp2;generalize wr.alloc _=V at n o N t⊢;have f:Hid (wr.heap.size<=wr.heap.size):=Fv _;generalize wr.heap.size=X at N t⊢;clear d0 d1 d2 d3 d4 d5;have f:decide ((k:Int)<1062)=true:=bG;simp only[f];clear f;have⟨O0,X0⟩:=y7 (show V.ownsRow W.heap.size 3 1 (.slice va vb vc) (q++jr sts z k 0).length (Zn (q++jr sts z k 0)) by simpa[jr]using n.out) t;clear t;go_loopw [9,36] (λv i f=>∃r:Nat,r<=b/\i=I r/\Hid (f.ownsRow W.heap.size 3 1 v (q++jr sts z k r).length (Zn (q++jr sts z k r)))/\Hid (D W f)/\Hid (f.heap[X]?=some (.cells #[I e1,I O,I e3,U z3,I z,I z2] 109))) (λ_ i _=>b-(intOf i).toNat);(case atStart=>exact⟨0,FH _,rfl,O0,o,X0⟩);case round=>
      obtain⟨r,hr,rfl,w,A,P⟩:=hrel;by_cases F:r<b
      ·obtain⟨g,rfl,f⟩:=HT.out r (by rw[HL];exact F);have j:=NI A f;have t:wr.cell? (Qz X 4)=some (I z):=(by simp[QC,P.out]);obtain⟨y,G⟩:∃y,sts[r]?=some y:=⟨_,Fy (by rw[HL];exact F)⟩;rw[G]at j;simp only[Ht]at j;obtain⟨a8,a9,b0,rfl⟩:∃p l M,u9=.slice p l M:=by rcases w.2 with⟨rfl,_⟩|⟨g,cp,a4,rfl,_⟩<;>exact⟨_,_,_,rfl⟩
       clear f;by_cases f:z=y
       ·subst f;have⟨l,m⟩:=yE (k:=k) R G;rw[l,Gl]at w;have⟨O8,B8,X8,A2⟩:=Qf (w.alloc (.cells #[I k] 3)) (A.alloc A.size (.cells #[I k] 3)) ((eg wr (.cells #[I k] 3) X (ag P)).trans P) m;clear G l m;go_wp2_with (at_builtin;refine Ib _ rfl _ _ 28 rfl W.heap.size 3 i0 (I 0) 1 8 underlying28 S T Y a0 rfl Z _ _ _ rfl O8 _ 1 1 [I k] rfl rfl ?hc ?h1c ?b1 ?b2 ?b3 ?_);(case hc=>exact ek _ _ _ _ bH);(case h1c=>intro u hu;simp at hu;subst hu;rfl);(case b1=>unfold maxLen;omega);(case b2=>omega);(case b3=>exact B8.size);intro v1 w9 p l _;have m:=H (IT p (IT (B8.grown l B8.size (cI O8)) (show w9.heap[X]?=_ from(l.block X (ag X8) (λe=>by
         have⟨M,K⟩:=mM O8 e.symm;rw[X8]at K;simp at K)).trans X8)))
        clear p l;go_wp2;go_roundw;(case rel=>exact⟨r+1,Z,aY,H (by rw[A2,FC,yV];exact m.1),H m.2.1,H m.2.2⟩);case measure=>exact QE
       have A2:=H (z8 (k:=k) f G);have l:(z==y)=false:=(by simpa using f);clear G f;go_wp2;go_roundw;(case rel=>exact⟨r+1,Z,aY,H (by rw[A2];exact w),A,P⟩);case measure=>exact QE
      obtain rfl:r=b:=Z;go_wp2;go_roundw;(case rel=>exact⟨k+1,Z,aY,H (by rw[HF,HL];exact w),A⟩);case measure=>exact QE
    have f:=H (show jc h c s sts (k+1)=jc h c s sts k by
     rw[HN,GO (by simp[d])];simp)
    have j:(((sA k).1:Nat):Int)=(c:Int):=Z;have l:((((sA k).2.1:Nat):Int) != (s:Int))=true:=bG;generalize (sA k).1=e1 at*;generalize (sA k).2.1=O at*;subst hc;clear j d;go_wp2;go_roundw;(case rel=>exact⟨k+1,Z,aY,H (by rw[f];exact n),o⟩);case measure=>exact QE
   have f:=H (show jc h c s sts (k+1)=jc h c s sts k by
    rw[HN,GO (by simp[hc])];simp)
   have j:((((sA k).1:Nat):Int) != (c:Int))=true:=bG;generalize (sA k).1=e1 at*;clear hc;go_wp2;go_roundw;(case rel=>exact⟨k+1,Z,aY,H (by rw[f];exact n),o⟩);case measure=>exact QE
  have:k=1062:=Z;subst this;go_wp2;go_ret;exact⟨_,rfl,HO,L⟩
theorem dX(x:Int)(a:0<=x)(b:x<18446744073709551616):IntKind.u64.wrap x=x:=by
 rw[eu];omega
theorem xq(c:Nat)(W:QM)(a:c<12):QA 78 #[I c] W λe W'=>e=QJ (I (eV c:Nat))/\D W W':=by
 refine(gD (c:Int) W).mono ?_;rintro e W'⟨rfl,b⟩;exact⟨cX (D3 a),b⟩
theorem wN(c:Nat)(W:QM)(a:c<12):QA 117 #[I c] W λe W'=>e=QJ (I (cy c:Nat))/\D W W':=by
 refine(dx (c:Int) W).mono ?_;rintro e W'⟨rfl,b⟩;exact⟨cX (uT a),b⟩
theorem nP(c a:Nat)(v1 v2 v4 v5)(W:QM)(n:c<12)(ha:a<=1000000):
  QA 122 #[.agg #[I c,I v1,I v2,U a,I v4,I v5]] W λe W'=>e=QJ (U (a+eV c:Nat))/\Below W.heap.size W W':=by
 have X:=ao W (.cells #[I c,I v1,I v2,U a,I v4,I v5] 109);have g:Hid (Below W.heap.size W (W.alloc (.cells #[I c,I v1,I v2,U a,I v4,I v5] 109))):=(Fu _ _).alloc (Fv _) _;have i:(W.alloc (.cells #[I c,I v1,I v2,U a,I v4,I v5] 109)).cell? (Qz W.heap.size 0)=some (I c):=by simp only[QC,X];rfl
 have j:(W.alloc (.cells #[I c,I v1,I v2,U a,I v4,I v5] 109)).cell? (Qz W.heap.size 3)=some (U a):=by simp only[QC,X];rfl
 have b:=H (λV=>xq c V n);have d:=aX n;have p:eV c<=1016:=Z;have q:=H (show((a+eV c:Nat):Int)=(a:Int)+(eV c:Int) by omega);generalize eV c=u at*;clear X d;go_enter func122,ntmps122;go_wp2;generalize W.alloc _=V at g i j⊢;generalize k:W.heap.size=X at*
 go_region_with (first|(go_at_call 78;refine(b _).mono ?_;rintro e o⟨rfl,d⟩;have f:Below V.heap.size V o:=⟨d.os,d.tape,d.output,d.size,d.block⟩;have l:=NI f j;have m:=NI f i))
 all_goals(
  have r:Hid (Below X W o):=(g.trans (f.mono (by have:=g.size;omega)))
  clear f d l m i j
  go_wp2
  go_ret
  refine⟨?_,k▸r.out⟩
  show Ending.returned (U (IntKind.u64.wrap ((a:Int)+IntKind.u64.wrap (u:Int))))=_
  rw[dX (u:Int) Z Z,dX _ Z Z,q])
theorem uC(W:QM):QA 179 #[] W λe W'=>∃g,e=QJ (Vl g 2 2)/\RowV W' g 3 (Ns .i64 [0,3])/\D W W':=by
 have X:=ao W (.cells #[I 0,I 3] 3);have b:D W (W.alloc (.cells #[I 0,I 3] 3)):=(Fu _ _).alloc (Fv _) _;have r:RowV (W.alloc (.cells #[I 0,I 3] 3)) W.heap.size 3 (Ns .i64 [0,3]):=⟨_,X,by simp[Ns],λi a=>by simp[Ns]⟩;go_enter func179,ntmps179;go_wp2;go_ret;exact⟨_,rfl,r,b⟩
theorem nY{α:Type}: ∀(n:Nat)(f:Nat->List α),(∀i,i<n->f i=[])->(List.range n).flatMap f=[]
 |0,f,_=>rfl
 |n+1,f,a=>by
  rw[Gs,Gu,nY n f (λi b=>a i Z)]
  simp[a n Z]
theorem mq{α:Type}: ∀(n c:Nat)(f:Nat->List α),c<n->(∀i,i<n->i≠c->f i=[])->(List.range n).flatMap f=f c
 |0,c,f,h,_=>by omega
 | n+1,c,f,h,a=>by
  rw[Gs,Gu]
  by_cases e:n=c
  ·subst e
   rw[nY n f (λi b=>a i Z Z)]
   simp
  rw[mq n c f Z (λi b b=>a i Z b)]
  simp[a n Z e]
theorem qV:(List.range 1062).map sA=dF:=by
 apply Ho;intro i;by_cases a:i<1062;·rw[Oz a];simp[a]
 rw[FJ bG,FJ (by rw[fG];omega)]
theorem Ap(h)(c s:Nat)(sts)(d:c<12)(e:s<6):(jc h c s sts 1062).map sA=((List.range (aM c)).filter λj=>sts.contains (h.st c s j)).map λj=>(c,s,j):=by
 have e1:(jc h c s sts 1062).map sA=dF.filter λt=>t.1==c&&(t.2.1==s&&sts.contains (h.st t.1 t.2.1 t.2.2)):=by
  rw[<-qV,List.filter_map];rfl
 rw[e1];unfold dF;rw[List.filter_flatMap,mq 12 c _ d (λi f a=>?_),List.filter_flatMap,mq 6 s _ e (λi f a=>?_),List.filter_map];·congr 1;apply List.filter_congr;intro j _;simp
 ·rw[IC];intro t b;simp only[FQ]at b;obtain⟨j,_,rfl⟩:=b;simp[a]
 rw[IC];intro t b;simp only[List.mem_flatMap,FQ]at b;obtain⟨_,_,j,_,rfl⟩:=b;simp[a]
theorem t_(h)(c s:Nat)(a:c<12)(b:s<6):(jc h c s [0,3] 1062).map sA=(freeS h c s).map λj=>(c,s,j):=by
 rw[Ap h c s _ a b];congr 1;unfold freeS;apply List.filter_congr;intro j _;unfold be;simp only[List.contains_eq_mem,F4,Gp,or_false,Bool.decide_or];rfl
theorem kE(h)(c s:Nat)(a:c<12)(b:s<6):(jc h c s [0,3] 1062).length=(freeS h c s).length:=by
 have:=congrArg List.length (t_ h c s a b);simpa using this
theorem tw{c s K:Nat}(g:c<12)(i:s<6)(d:(jc h c s [0,3] 1062)[r]?=some K):K<1062/\∃j,(freeS h c s)[r]?=some j/\j<aM c/\sA K=(c,s,j):=by
 have f:=FM d;unfold jc at f;have k:=(Gk.1 f).1;refine⟨by simpa using k,?_⟩;have e:=congrArg (λl=>l[r]?) (t_ h c s g i);simp only[Gv,d,Hi]at e;cases b:(freeS h c s)[r]? with
 |none=>rw[b]at e;cases e
 |some j=>
  rw[b]at e;have a:=FM b;unfold freeS at a;have l:=(Gk.1 a).1;exact⟨j,rfl,by simpa using l,by simpa using e⟩
theorem vK(p):ce p=(fS p).map sA:=by
 unfold ce fS;rw[<-qV,List.find?_map];rfl
theorem AW(h:Hs):(List.range h.rg.length).map (uo h)=h.rg:=by
 apply Ho;intro i;by_cases a:i<h.rg.length;·simp[a,uo]
 rw[FJ bG,FJ Z]
theorem Aj(h:Hs)(p:Nat):(h.rg.find? λr=>r.base==p)=(fR h p).map (uo h):=by
 have e:(h.rg.find? λr=>r.base==p)=(((List.range h.rg.length).map (uo h)).find? λr=>r.base==p):=by rw[AW]
 rw[e,List.find?_map];rfl
theorem Ee{p}(h:fS p=some k):k<1062/\gt k=p:=by
 unfold fS at h;rw[Iu]at h;exact⟨by simpa using h.2.1,by simpa using h.1⟩
theorem D4{p i:Nat}(a:fR h p=some i):h.rg[i]?=some (uo h i)/\(uo h i).base=p:=by
 unfold fR at a;rw[Iu]at a;have b:i<h.rg.length:=by simpa using a.2.1
 exact⟨by simp[uo,b],by simpa using a.1⟩
inductive C9(h:Hs)(p:Nat):Fd->Int×Int×Int->Prop
 |slot (c s j K:Nat):K<1062->sA K=(c,s,j)->bh c s j=p->h.st c s j=1->C9 h p (.slot c s j) ((K:Int),-1,0)
 |range (r:Rg9) (i:Nat):h.rg[i]?=some r->r.base=p->r.st=1->C9 h p (.range r) (-1,(i:Int),0)
 |no (code:Int):(code=3\/code=4)->C9 h p (.no code) (-1,-1,code)
theorem jt(h p):C9 h p (aB h p) (fE h p):=by
 unfold aB fE;rw[vK];cases e:fS p with
 |some k=>
  have⟨f,ha⟩:=Ee e;obtain⟨⟨c,s,j⟩,b⟩:∃t,sA k=t:=⟨_,rfl⟩;have g:dC h k=h.st c s j:=by unfold dC;rw[b]
  have i:bh c s j=p:=by rw[<-ha];unfold gt;rw[b]
  simp only[Hi,b,g];by_cases a:h.st c s j=1;·rw[GP a,GP a];exact .slot c s j k f b i a
  rw[GO a,GO a];by_cases d:h.st c s j=0;·rw[GP d,GP d];exact .no 3 (.inl rfl)
  rw[GO d,GO d];exact .no 4 (.inr rfl)
 | none=>
  simp only[Option.map_none];rw[Aj];cases b:fR h p with
  |some i=>
   have⟨c,d⟩:=D4 b;simp only[Hi];by_cases a:(uo h i).st=1;·rw[GP a,GP a];exact .range _ i c d a
   rw[GO a,GO a];exact .no 4 (.inr rfl)
  |none=>
   simp only[Option.map_none];by_cases x:h.rel.contains p=true;·rw[GP x,GP x];exact .no 4 (.inr rfl)
   rw[GO x,GO x];exact .no 3 (.inl rfl)
theorem cY{P:Program}{t:QO}{c:Array Oper}{b:List Oper}{o:Oper}{a:Act}{w:QM}{Q:Exit->Act->QM->Prop}(d:o.guard=none)(s x:Operand)
  (i:o.op=.call {callee:=.builtin .append,args:=#[s,x],argTypes:=#[t,t]}) (j:o.type=t) {v e f:QN} {g:QM} (k:a.eval s=v) (l:a.eval x=e)
  (m:(Builtin.append_ #[t,t] t #[v,e]).run P w=.ok f g) (h:wpList P c Q b (a.put o.dst f) g):wpList P c Q (o::b) a w:=by
 refine IA d λK n=>?_;unfold Oper.wp;simp[execOp,i,j,resolve,invoke,builtin,k,l,m,Result.andThen];exact n _ _ h
theorem zD:(prog.info? 115).map (λi=>(i.zero,i.size,i.bytes))=some (some (.agg #[U 0,I 0,I 0,I 0,I 0,I 0]),6,48):=E
theorem iY:(prog.info? 27).map (λi=>(i.zero,i.size,i.bytes))=some (some (U 0),1,8):=E
theorem td(l:List Rg9)(r:Rg9):eM (l++[r])=eM l++rC r:=by simp[eM,rC]
theorem dS(l):(eM l).length=l.length*6:=by
 induction l with
 |nil=>rfl
 |cons r l a=>simp only[eM,If,FC,FN]at a⊢;rw[a];simp;omega
theorem k_(l:List Nat)(n:Nat):Us (l++[n])=Us l++[U (n:Int)]:=by simp[Us]
theorem fK(l):(Us l).length=l.length:=by simp[Us]
theorem wL(W:QM)(B:Nat)(v:QN)(l:List Rg9)(r)(g:Nat)(c)(a:W.ownsRow B 115 6 v l.length (eM l))(o:W.heap[g]?=some (.cells (rC r).toArray 115))(y:l.length<=1000)(p:B<=W.heap.size):
  ∃d b,QI 104 v (Vl g 1 c) W d b/\b.ownsRow B 115 6 d (l++[r]).length (eM (l++[r]))/\W.grownBy b v.ownBlock:=by
 have⟨q,e,f,i,k⟩:=G0 zD;have m:∀j u,(rC r)[j]?=some u->W.cell? (((Qz g 0):Addr).add j)=some u:=λj u s=>by
  rw[Addr.add_mid,Oi,GT _ _ j _ _ _ o];simpa using s
 have t:∀u∈rC r,u.oneCell'=true:=λu n=>by
  simp only[rC,F4,Gp,or_false]at n;rcases n with rfl|rfl|rfl|rfl|rfl|rfl<;>rfl
 have⟨d,b,e1,w,x,_⟩:=Ia (P:=prog) W B 104 104 115 q _ 6 48 underlying104 e f i k rfl Z v _ _ a (Qz g 0) 1 c (rC r) rfl m t (by unfold maxLen;omega) Z p;exact⟨d,b,e1,by rw[td,FC];exact w,x⟩
theorem jQ(W:QM)(B:Nat)(v:QN)(l m:List Nat)(x:Addr)(c:Nat)(a:W.ownsRow B 27 1 v l.length (Us l))(k:∀j u,(Us m)[j]?=some u->W.cell? (x.add j)=some u)(t:l.length+m.length<=100000)(o:B<=W.heap.size):
  ∃d b,QI 39 v (.slice (some x) m.length c) W d b/\b.ownsRow B 27 1 d (l++m).length (Us (l++m))/\W.grownBy b v.ownBlock:=by
 have⟨p,e,f,g,i⟩:=G0 iY;have q:∀u∈Us m,u.oneCell'=true:=λu j=>by
  simp only[Us,FQ]at j;obtain⟨n,_,rfl⟩:=j;rfl
 have⟨d,b,e1,r,s,_⟩:=Ia (P:=prog) W B 39 39 27 p _ 1 8 underlying39 e f g i rfl Z v _ _ a x m.length c (Us m) (by rw[fK,Nat.mul_one]) k q (by unfold maxLen;omega) Z o;exact⟨d,b,e1,by rw[FC];simpa[Us]using r,s⟩
theorem Dt.own{T V V1}(a:Sx T Q n bud m V)(j:D V V1){g cp}{b:List Int}(l:b.length=k)(d:V1.ownsRow V.heap.size 5 1 (Vl g k cp) k (Ns .u8 b)):Dt Q V1 (some (Qz g 0)) k b:=by
 subst l;have⟨c,o⟩:=di d;have p:V.heap.size<=g:=by
  rcases d.2 with⟨e,_⟩|⟨q,f,i,e,r,_⟩;·simp at e
  simp at e;omega
 refine⟨rfl,λi q=>⟨(Qz g 0),rfl,?_,?_,?_,λf=>?_⟩⟩;·rw[Addr.add_mid,Oi];exact bC d i _ (by simp[Ns,q])
 ·rw[Addr.add_mid];exact ag o
 ·rw[Addr.add_mid];have:=a.ltQ;show g≠Q;omega
 rw[Addr.add_mid]at f;have r:V1.heap[Q]?=V.heap[Q]?:=j.block Q a.ltQ;have⟨s,e⟩:=a.pgT (cV r f);have:=ag e;exact absurd this (by show¬g<_;omega)
def hT(t:TypeId):Prop:=t=106\/t=109\/t=113\/t=115\/t=27\/t=179\/t=5
structure Bk(B Q:Nat)(W W':QM):Prop where
 bel:Below B W W'
 ky:Ky hT W W'
 by5:∀(g:Nat)(c:Array QN)(f:Nat×Nat),W.heap[g]?=some (.cells c 5 f)->¬e_ Q W g->W'.heap[g]?=some (.cells c 5 f)
 pg:∀g,e_ Q W' g->e_ Q W g\/W.heap.size<=g
theorem Bk.refl(B Q W):Bk B Q W W:=⟨Fu _ _,Ky.refl _ _,λ_ _ _ h _=>h,λ_ h=>.inl h⟩
theorem Bk.trans{B Q a b c}(h:Bk B Q a b)(k:Bk B Q b c):Bk B Q a c:=by
 refine⟨h.bel.trans k.bel,h.ky.trans k.ky,λg j f l e=>k.by5 g j f (h.by5 g j f l e) (λi=>?_),λg e=>?_⟩
 ·rcases h.pg g i with d|d;·exact e d
  have:=ag l;omega
 rcases k.pg g e with d|d;·exact h.pg g d
 right;have:=h.bel.size;omega
theorem Bk.ofBelow(b:D W W')(d:Q<W.heap.size)(e:B<=W.heap.size):Bk B Q W W':=
 ⟨b.mono e,Ky.below b,λg c f a _=>by rw[b.block g (ag a)];exact a,λg a=>.inl (cV (b.block Q d) a)⟩
theorem Bk.add{V V'}(h:Bk B Q W V)(b:D V V')(a:Q<V.heap.size)(c:B<=V.heap.size):Bk B Q W V':=h.trans (Bk.ofBelow b a c)
theorem Bk.ofGrown{c l:Array QN}{t:QO}{f m:Nat×Nat}(j:W.heap[P]?=some (.cells c t f))(d:W.heap[Q]?=some (.cells l 179 m))(n:hT t)(o:t≠5)(b:t≠179)(q:B<=P)(k:B<=W.heap.size)(i:W.grownBy W' (some P)):Bk B Q W W':=by
 have p:Q≠P:=λe=>by
  subst e;rw[j]at d;simp at d;exact b d.2.1
 refine⟨(Fu B W).grown i k (λr a=>by simp at a;omega),Ky.grown j n i,λg s u a _=>?_,λg a=>.inl (cV (i.block Q (ag d) bG) a)⟩;rw[i.block g (ag a) (λe=>?_)];·exact a
 simp at e;subst e;rw[j]at a;simp at a;exact o a.2.1
theorem Bk.ofSf{T}(i:Sx T Q n bud m W)(a:Sf Q W W')(j:B<=W.heap.size)(k:B<=Q)(b:∀g,e_ Q W g->B<=g):Bk B Q W W':=by
 refine⟨a.below j k b,(a.ky i).more (λt c=>by unfold hT;rcases c with h|h<;>simp[h]),λg c f d b=>?_,a.pg⟩;rw[a.block g (ag d) (λe=>?_) b];·exact d
 subst e;have⟨l,e1,_⟩:=i.row;rw[d]at e1;simp at e1
theorem Sh.qrow(a:Sh B x cf h W):∃b,W.heap[x.Q]?=some (.cells b 179):=by
 have⟨b,e1,_⟩:=a.sp.row;exact⟨b,e1⟩
theorem Sh.ltQ{B x cf h W}(a:Sh B x cf h W):x.Q<W.heap.size:=a.sp.ltQ
theorem Sh.bkB(a:Sh B x cf h W)(k:Bk B x.Q W0 W)(c:B<=W0.heap.size)(b:D W W'):Bk B x.Q W0 W':=k.add b a.ltQ (Fx c k.bel.size)
theorem Sh.bkP(a:Sh B x cf h W)(k:Bk B x.Q W0 W)(b:B<=W0.heap.size)(g:W.grownBy W' (some x.P)):Bk B x.Q W0 W':=by
 have⟨d,c⟩:=a.qrow;exact k.trans (Bk.ofGrown a.box c (.inl rfl) ar ar a.bp (Fx b k.bel.size) g)
theorem Sh.bkG(a:Sh B x cf h W)(k:Bk B x.Q W0 W)(d:B<=W0.heap.size)(i:Nat)(v:QN):Bk B x.Q W0 (W.setCell (Qz x.G i) v):=by
 have⟨n,f⟩:=a.qrow;have⟨c,j⟩:=di a.sl;have l:B<=x.G:=by
  rcases a.sl.2 with⟨e,_⟩|⟨g,b,m,e,o,_⟩;·simp at e
  simp at e;omega
 exact k.trans (Bk.ofGrown j f (.inr (.inl rfl)) ar ar l (Fx d k.bel.size) (au (al W x.G) i v))
theorem Sh.bkS(a:Sh B x cf h W)(k:Bk B x.Q W0 W)(b:B<=W0.heap.size)(f:Sf x.Q W W'):Bk B x.Q W0 W':=k.trans (Bk.ofSf a.sp f (Fx b k.bel.size) a.bq a.bg)
structure Ly where
 P:Nat
 S:Nat
 M:Nat
 R:Nat
 sb:Nat->Nat->Nat
 sr:Nat->Nat->Nat
 sc:Nat->Nat->Nat
 sm:Nat->Nat->Nat->Nat
 qm:Nat->Nat
 qr:Nat->Nat
 qg:Nat->Nat
 qq:Nat->Nat
 da:QP
 dc:Nat
structure Dy where
 f:Nat->Option Nat
 on:Nat->Nat->Bool
 lg:Nat->Option Nat
 ro:QN
 rl:QN
 an:QN
 un:QN
def CZ(c s:Nat)(on:Bool)(r n cap:Nat):Array Value:=#[I c,I s,.bool on,Vl r n cap]
def Oe(st rq:Int)(b j:Nat):Array Value:=#[I st,I rq,J b 0,I j]
def oV(r:Rg9):Array Value:=#[I r.st,I r.rq,I r.first,I r.guards,I r.pages]
def Eu(cf:Cf)(y:Ly)(c k:Nat):Value:=if k=0 then J (y.qm c) 0 else if k=1 then J (y.qg c) 0 else if cf.mix=0 then .iface 146 (J (y.qg c) 0)else .iface 145 (J (y.qm c) 0)
def boxF(cf:Cf)(y:Ly)(d:Dy)(used:Nat)(i:Nat):Value:=
 if i<7 then([I cf.mix,I cf.fifo,I cf.large,I cf.bud,U cf.key,.slice y.da cf.ds.length y.dc,J y.S 0]:List Value)[i]?.getD undef
 else if i<79 then J (y.sb ((i-7)/6) ((i-7)%6)) 0
 else if i<115 then Eu cf y ((i-79)/3) ((i-79)%3)
 else([.map (some y.R),d.ro,d.rl,I used,d.an,d.un]:List Value)[i-115]?.getD undef
def Bxh(P:Nat)(F:Nat->Value)(W:World):Prop:=∃c,W.heap[P]?=some (.cells c 154)/\c.size=121/\∀i,i<121->c[i]?=some (F i)
theorem Bxh.cell{P F W}(h:Bxh P F W)(i:Nat)(a:i<121):W.cell? (Qz P i)=some (F i):=by
 have⟨c,b,e,d⟩:=h;rw[GT _ _ _ _ _ _ b];exact d i a
theorem Bxh.free(h:Bxh P F W)(i:Nat):W.frozen? (Qz P i)=false:=by
 have⟨c,a,b,d⟩:=h;simp[QD,a]
theorem Bxh.lt(h:Bxh P F W):P<W.heap.size:=by
 have⟨c,a,_⟩:=h;exact ag a
theorem Bxh.ky(h:Bxh P F W)(k:Ky S W W')(a:¬S 154):Bxh P F W':=by
 have⟨c,b,d⟩:=h;exact⟨c,k.cells _ _ _ _ b a,d⟩
def kK(F:Nat->Value)(i:Nat)(v:Value):Nat->Value:=λj=>if j=i then v else F j
theorem Bxh.set(h:Bxh P F W)(i:Nat)(b:i<121)(v):Bxh P (kK F i v) (W.setCell (Qz P i) v):=by
 have⟨c,d,a,f⟩:=h;refine⟨c.setIfInBounds i v,by simp[World.setCell,FD,d],by simpa using a,λj g=>?_⟩;rw[FK];unfold kK;by_cases e:i=j;·subst e;simp[a,b]
 rw[GO e,GO (λa=>e a.symm)];exact f j g
theorem Bxh.kyS(h:Bxh P F W)(i:Nat)(v:QN):Ky (· =154) W (W.setCell (Qz P i) v):=by
 have⟨c,a,_⟩:=h;exact Ky.grown a rfl (au (al W P) i v)
theorem uL(cf y d u)(c:Nat):kK (boxF cf y d u) 118 (I c)=boxF cf y d c:=by
 funext i;unfold kK boxF;by_cases e:i=118;·subst e;rfl
 rw[GO e];by_cases a:i<7;·simp[a]
 by_cases b:i<79;·simp[a,b]
 by_cases f:i<115;·simp[a,b,f]
 simp only[a,b,f,IL];rcases(show i=115\/i=116\/i=117\/i=119\/i=120\/121<=i by omega)with rfl|rfl|rfl|rfl|rfl|g;·rfl
 ·rfl
 ·rfl
 ·rfl
 ·rfl
 rw[FJ bG,FJ bG]
theorem pi(cf y)(d:Dy)(u)(i:Nat)(v:QN)(a:Dy)(b:(i=116/\a={d with ro:=v})\/(i=117/\a={d with rl:=v})\/(i=119/\a={d with an:=v})\/(i=120/\a={d with un:=v})):kK (boxF cf y d u) i v=boxF cf y a u:=by
 funext j;unfold kK boxF;by_cases c:j<7
 ·have:j≠i:=by rcases b with⟨h,_⟩|⟨h,_⟩|⟨h,_⟩|⟨h,_⟩<;>omega
  rw[GO this];simp[c]
 by_cases e:j<79
 ·have:j≠i:=by rcases b with⟨h,_⟩|⟨h,_⟩|⟨h,_⟩|⟨h,_⟩<;>omega
  rw[GO this];simp[c,e]
 by_cases f:j<115
 ·have:j≠i:=by rcases b with⟨h,_⟩|⟨h,_⟩|⟨h,_⟩|⟨h,_⟩<;>omega
  rw[GO this];simp[c,e,f]
 simp only[c,e,f,IL];by_cases g:121<=j;·rw[GO (by rcases b with⟨h,_⟩|⟨h,_⟩|⟨h,_⟩|⟨h,_⟩<;>omega),FJ bG,FJ bG]
 rcases b with⟨rfl,rfl⟩|⟨rfl,rfl⟩|⟨rfl,rfl⟩|⟨rfl,rfl⟩<;>rcases(show j=115\/j=116\/j=117\/j=118\/j=119\/j=120 by omega)with rfl|rfl|rfl|rfl|rfl|rfl<;>rfl
structure Mr(R n:Nat)(lo:Nat->Option Nat)(W:QM):Prop where
 map:∃D:DataW Unit,W.ownsMap prog 27 ev R 4096 D/\Maps.size D<=n/\(∀k:Nat,k<18446744073709551616->D.atKey (.int .u64 k) .nil=sG (lo k))/\∀k:Nat,k<18446744073709551616->has D (.int .u64 k)=(lo k).isSome
theorem Mr.same{R lo}(h:Mr R n lo W)(b:W'.heap[R]?=W.heap[R]?):Mr R n lo W':=by
 obtain⟨a,⟨d,c,e,f⟩,g⟩:=h.map;exact⟨a,⟨d,c,b.trans e,f⟩,g⟩
theorem Mr.typ{R lo}(h:Mr R n lo W):∃b c,W.heap[R]?=some (.map b c):=by
 obtain⟨a,⟨b,c,d,e⟩,f⟩:=h.map;exact⟨b,c,d⟩
def Um(B:Nat)(W:World)(v:Value)(l:List Nat):Prop:=(v=C/\l=[])\/∃(g o cap:Nat)(c:Array Value),v=.slice (some ⟨g,o,none⟩) l.length cap/\B<=g/\W.heap[g]?=some (.cells c 27)/\o+cap=c.size/\l.length<=cap/\cap<=maxLen/\(∀u∈c.toList,u.oneCell'=true)/\∀i,i<l.length->c[o+i]?=some (U ((l[i]?.getD 0:Nat):Int))
theorem Um.ky{v l}(h:Um B W v l)(k:Ky S W W')(b:¬S 27):Um B W' v l:=by
 rcases h with h|⟨g,o,a,c,d,e,f,i⟩;·exact .inl h
 exact .inr ⟨g,o,a,c,d,e,k.cells _ _ _ _ f b,i⟩
def ee:Value->Option Nat
 | .slice (some a) _ _=>some a.block
 |_=>none
structure Fo(B:Nat)(y:Ly):Prop where
 b0:6<B
 bP:B<=y.P
 bS:B<=y.S
 bM:B<=y.M
 bR:B<=y.R
 mr:y.M≠y.R
 bsb:∀c s,c<12->s<6->B<=y.sb c s
 bsr:∀c s,c<12->s<6->B<=y.sr c s
 bsm:∀c s j,c<12->s<6->j<aM c->B<=y.sm c s j
 bq:∀c,c<12->B<=y.qm c/\B<=y.qr c/\B<=y.qg c/\B<=y.qq c
 isb:∀c s c' s',c<12->s<6->c'<12->s'<6->y.sb c s=y.sb c' s'->c=c'/\s=s'
 ism:∀c s j c' s' j',c<12->s<6->j<aM c->c'<12->s'<6->j'<aM c'->y.sm c s j=y.sm c' s' j'->c=c'/\s=s'/\j=j'
 iq:∀c c',c<12->c'<12->c≠c'->y.qr c≠y.qr c'/\y.qr c≠y.qq c'/\y.qq c≠y.qq c'/\y.qg c≠y.qg c'
 da:∀a,y.da=some a->a.block<B
structure Hp(B:Nat)(y:Ly)(d:Dy)(cf:Cf)(h:Hs)(W:QM):Prop where
 ap:Fo B y
 bW:B<=W.heap.size
 box:Bxh y.P (boxF cf y d h.used) W
 ds:Sl W y.da cf.ds
 sp:Im y.S y.M 0 283 (cf.bud:Nat) d.f W
 pg:Pg d.f h.m W
 bf:∀k g,d.f k=some g->B<=g
 sl:∀c s,c<12->s<6->W.heap[y.sb c s]?=some (.cells (CZ c s (d.on c s) (y.sr c s) (aM c) (y.sc c s)) 267)
 rw:∀c s,c<12->s<6->RowV W (y.sr c s) 268 ((List.range (aM c)).map λj=>J (y.sm c s j) 0)
 sm:∀c s j,c<12->s<6->j<aM c->W.heap[y.sm c s j]?=some (.cells (Oe (h.st c s j) (h.rq c s j) (y.sb c s) j) 272)
 wt:∀c,c<12->Qr W (y.qm c) (y.qr c) (y.qg c) (y.qq c) cf.fifo (h.mx c) (h.ff c)
 mp:Mr y.R h.rg.length d.lg W
 lo:∀k,(d.lg k).isSome=h.rg.any λr=>r.base==k
 lb:∀r∈h.rg,∃g,d.lg r.base=some g/\B<=g/\W.heap[g]?=some (.cells (oV r) 291)
 li:∀k k' g,d.lg k=some g->d.lg k'=some g->k=k'
 ro:Um B W d.ro h.row
 rl:W.ownsRow B 27 1 d.rl h.rel.length (Us h.rel)
 rr:∀g,ee d.ro=some g->d.rl.ownBlock≠some g
 tb:Tb W
def EN(d:Dy)(h:Hs):Prop:=∀c s,c<12->s<6->d.on c s=dA h c s
structure Fi(S:QO->Prop)(y:Ly)(W W':QM):Prop where
 ky:Ky S W W'
 m:W'.heap[y.M]?=W.heap[y.M]?
 r:W'.heap[y.R]?=W.heap[y.R]?
theorem Im.ky{A M st n f}(h:Im A M st n bud f W)(k:Ky S W W')(b:¬S 256)(d:W'.heap[M]?=W.heap[M]?):Im A M st n bud f W':=by
 obtain⟨a,⟨e,c,g,i⟩,j⟩:=h.map;exact⟨k.cells _ _ _ _ h.box b,a,⟨e,c,d.trans g,i⟩,j⟩
theorem Pg.ky{f}(h:Pg f m W)(k:Ky S W W')(c:¬S 288):Pg f m W':=by
 refine h.other (λj b a=>?_);rcases h.at' j with⟨e1,_⟩|⟨d,l,e,e1,_,_,b⟩;·rw[a]at e1;cases e1
 rw[a]at e1;cases e1;rw[k.cells _ _ _ _ b c,b]
theorem Qr.ky{M rm G rq mix fifo}(h:Qr W M rm G rq n mix fifo)(k:Ky S W W')(f:¬S 263)(i:¬S 261)(d:¬S 3):Qr W' M rm G rq n mix fifo:=by
 obtain⟨⟨a,b⟩,⟨ps,o,j,c,e,g⟩,l⟩:=h;exact⟨⟨k.cells _ _ _ _ a f,cL b k d⟩,⟨ps,o,j,k.cells _ _ _ _ c i,cL e k d,g⟩,l⟩
theorem Tb.belowB(h:Tb W)(a:Below B W W')(b:6<B):Tb W':=by
 have⟨t,c,h⟩:=h.row;exact⟨t,c,by rw[a.block 6 b];exact h⟩
theorem Sl.belowB{a zs}(h:Sl W a zs)(b:Below B W W')(ha:∀x,a=some x->x.block<B):Sl W' a zs:=by
 rcases h with h|⟨g,e,c,d,f⟩;·exact .inl h
 exact .inr ⟨g,e,c,by rw[b.block g (ha _ e)];exact d,f⟩
theorem Hp.keep{y d}(a:Hp B y d cf h W)(k:Fi (λt=>t≠154/\t≠256/\t≠288/\t≠267/\t≠268/\t≠272/\t≠263/\t≠261/\t≠3/\t≠291/\t≠27) y W W')(b:Below B W W'):Hp B y d cf h W':=
 ⟨a.ap,Fx a.bW b.size,a.box.ky k.ky ar,a.ds.belowB b a.ap.da,a.sp.ky k.ky ar k.m,a.pg.ky k.ky ar,a.bf,
 λc s e f=>k.ky.cells _ _ _ _ (a.sl c s e f) ar,λc s e f=>cL (a.rw c s e f) k.ky ar,λc s j e f i=>k.ky.cells _ _ _ _ (a.sm c s j e f i) ar,
 λc e=>(a.wt c e).ky k.ky ar ar ar,a.mp.same k.r,a.lo,λr l=>by obtain⟨g,m,n,o⟩:=a.lb r l;exact⟨g,m,n,k.ky.cells _ _ _ _ o ar⟩,a.li,a.ro.ky k.ky ar,ai a.rl k.ky ar,a.rr,a.tb.belowB b a.ap.b0⟩
theorem Hp.below{B y d cf h W W'}(a:Hp B y d cf h W)(b:D W W'):Hp B y d cf h W':=by
 have⟨f,c,e⟩:=a.mp.typ;exact a.keep ⟨Ky.below b,b.block _ a.sp.lt.2,b.block _ (ag e)⟩ (b.mono a.bW)
theorem Hp.cell{B y d cf h W}(a:Hp B y d cf h W)(i:Nat)(b:i<121)(v:QN)(hv:boxF cf y d h.used i=v):W.cell? (Qz y.P i)=some v:=by rw[a.box.cell i b,hv]
end
theorem Sf.ofRow{Q:Nat}{W a:QM}(b:Below 0 W a)(d:∀g,g≠Q->a.heap[g]?=W.heap[g]?)(e:∀j g,a.cell? (Qz Q (j*3+2))=some (Vl g 1024 1024)->W.cell? (Qz Q (j*3+2))=some (Vl g 1024 1024)):Sf Q W a:=
 ⟨b.os,b.tape,b.output,b.size,λg _ c _=>d g c,λg⟨j,f⟩=>.inl ⟨j,e j g f⟩⟩
theorem Sx.drop1{T Q n bud m W}(h:Sx T Q n bud m W)(k:Nat)(f:k<n):
  Sx T Q n bud (dT m k none) (((W.setCell (Qz Q (k*3)) (.bool false)).setCell (Qz Q (k*3+1)) (.bool false)).setCell (Qz Q (k*3+2)) (C)) /\
  Sf Q W (((W.setCell (Qz Q (k*3)) (.bool false)).setCell (Qz Q (k*3+1)) (.bool false)).setCell (Qz Q (k*3+2)) (C)):=by
 refine⟨h.set3 k f none _ _ _ (λg j _ _ _=>bH) (λc a a b d _=>⟨a,b,d⟩),?_⟩;refine Sf.ofRow ((((Fu 0 W).setCell (FH _) _).setCell (FH _) _).setCell (FH _) _) (λg b=>?_) (λj g a=>?_);·rw[GQ _ _ _ _ b,GQ _ _ _ _ b,GQ _ _ _ _ b]
 have⟨c,d,_⟩:=h.row;have l:=bj (bj (bj d (i:=k*3) (.bool false)) (i:=k*3+1) (.bool false)) (i:=k*3+2) (C);simp only[QC,l]at a;simp only[QC,d];by_cases e:j=k;·subst e;rw[FK]at a;simp at a
 have q:(((c.setIfInBounds (k*3) (.bool false)).setIfInBounds (k*3+1) (.bool false)).setIfInBounds (k*3+2) (C))[j*3+2]?=c[j*3+2]?:=by
  rw[FK,GO Z,FK,GO Z,FK,GO Z]
 rw[q]at a;exact a
theorem qJ(T Q n bud m)(first a:Nat)(w)(h:Sx T Q n bud m w)(u:n<=4096)(v:first+a<=n):
  QA 132 #[J T 0,I first,I a] w λe g=>e=QJ (.tuple #[])/\Sx T Q n bud (bQ m first a) g/\Sf Q w g:=by
 have⟨o,q⟩:=h.c;have r:=H h;go_enter func132,ntmps132;go_wp2;go_loopw [6] (λi wr=>∃k:Nat,k<=a/\i=I ((first:Int)+(k:Int))/\Sx T Q n bud (bQ m first k) wr/\Sf Q w wr) (λi _=>first+a-(intOf i).toNat);case atStart=>exact⟨0,FH _,aY,r,Sf.refl Q w⟩
 case round=>
  obtain⟨k,x,rfl,b,f⟩:=hrel;by_cases s:k<a
  ·have⟨o,q⟩:=b.c;have⟨y,p,l,c,z,A,B,_⟩:=b.three (first+k) Z;have⟨F,j,t,_⟩:=b.row;have f1:∀i,wr.frozen? (Qz Q i)=false:=λi=>by simp[QD,j]
   have f2:=f1 ((first+k)*3);have f3:=f1 ((first+k)*3+1);have f4:=f1 ((first+k)*3+2);have d:=H (IT (b.drop1 (first+k) Z) f);go_wp2;go_roundw;(case rel=>exact⟨k+1,Z,aY,d.1.1,d.2.trans d.1.2⟩);case measure=>exact QE
  have c:k=a:=Z;subst c;have d:=H (IT b f);go_wp2;go_end0;exact⟨rfl,d⟩
theorem Ax(g:Nat)(w:QM): (method 524 268 (.pointer (some ⟨g,0,none⟩)) "loop.example/s01868/impl.kept").run prog w=.ok (345,.pointer (some ⟨g,0,none⟩)) w:=E
theorem AM(g:Nat)(w:QM): (method 524 278 (.pointer (some ⟨g,0,none⟩)) "loop.example/s01868/impl.kept").run prog w=.ok (345,.pointer (some ⟨g,0,none⟩)) w:=E
theorem nX(g:Nat)(w:QM): (method 524 268 (.pointer (some ⟨g,0,none⟩)) "loop.example/s01868/impl.base").run prog w=.ok (162,.pointer (some ⟨g,0,none⟩)) w:=E
theorem oy(g:Nat)(w:QM): (method 524 278 (.pointer (some ⟨g,0,none⟩)) "loop.example/s01868/impl.base").run prog w=.ok (210,.pointer (some ⟨g,0,none⟩)) w:=E
theorem DW(g:Nat)(w:QM): (method 524 268 (.pointer (some ⟨g,0,none⟩)) "loop.example/s01868/impl.usable").run prog w=.ok (217,.pointer (some ⟨g,0,none⟩)) w:=E
theorem DN(g:Nat)(w:QM): (method 524 278 (.pointer (some ⟨g,0,none⟩)) "loop.example/s01868/impl.usable").run prog w=.ok (346,.pointer (some ⟨g,0,none⟩)) w:=E
theorem BB(P a:Nat)(W:QM)(b:Ending->QM->Prop)
  (c:QA 99 #[J P 0,U a] W λe V=>(∃v,e=.panicked v/\b (.panicked v) V)\/∃v,e=QJ v/\b (QJ v) V):
  QA 101 #[J P 0,U (0:Nat),U a] W b:=by
 have f:=H c;go_enter func101,ntmps101;go_wp2_with fail;refine(f).mono ?_;rintro e V(⟨v,rfl,d⟩|⟨v,rfl,d⟩);·exact⟨rfl,d⟩
 have g:=H d;go_wp2;exact g
theorem ye(P)(p a:Nat)(code)(W:QM)(iF:p≠0)(R:QM->Prop)(b:QA 103 #[J P 0,U p] W λe V=>e=.panicked [{v:=.iface 203 (.agg #[I code]),recovered:=false}]/\R V):
  QA 101 #[J P 0,U p,U a] W λe V=>e=.panicked [{v:=.iface 203 (.agg #[I code]),recovered:=false}]/\R V:=by
 have c:((p:Int)==0)=false:=bG;have d:=H b;go_enter func101,ntmps101;go_wp2_with fail;refine(d).mono ?_;rintro e V⟨rfl,f⟩;exact⟨rfl,rfl,f⟩
theorem ot(P)(p a t:Nat)(g)(W:QM)(iF:p≠0)(r:t=268\/t=278)(Q:QM->Prop)(c:Ending->QM->Prop)(f:QA 103 #[J P 0,U p] W λe V=>e=QJ (.iface t (J g 0))/\Q V)(i:∀V,Q V->QA 155 #[.iface t (J g 0),U a] V λe b=>e=QJ Ql/\Q b)(b:∀V,Q V->∃o,QG V g 1 (I o)/\V.frozen? (Qz g 1)=false)(z:IntKind.i64.wrap (a:Int)=(a:Int))(yO:∀V,Q V->c (QJ (.iface t (J g 0))) (V.setCell (Qz g 1) (I a))):
  QA 101 #[J P 0,U p,U a] W c:=by
 have s:((p:Int)==0)=false:=bG;have k:=H f;clear f;have l:=H i;clear i;have m:=H yO;clear yO;have n:=H b;clear iF b;rcases r with rfl|rfl
 ·have u:=λw=>Ax g w
  go_enter func101,ntmps101;go_wp2_with fail;refine(k).mono ?_;rintro e V⟨rfl,b⟩;have j:=H b;clear b;go_wp2_with fail;refine(l _ j).mono ?_;rintro e v⟨rfl,b⟩;have d:=H b;clear b;have⟨o,x,f1⟩:=n.out _ d;have q:=H (m _ d);go_wp2_with fail;refine(fx (Qz g 0) _).mono ?_;rintro e y⟨rfl,rfl⟩;go_wp2;exact q
 have u:=λw=>AM g w
 go_enter func101,ntmps101;go_wp2_with fail;refine(k).mono ?_;rintro e V⟨rfl,b⟩;have j:=H b;clear b;go_wp2_with fail;refine(l _ j).mono ?_;rintro e v⟨rfl,b⟩;have d:=H b;clear b;have⟨o,x,f1⟩:=n.out _ d;have q:=H (m _ d);go_wp2_with fail;refine(fx (Qz g 0) _).mono ?_;rintro e y⟨rfl,rfl⟩;go_wp2;exact q
theorem lK(P)(p a t:Nat)(g)(F q f:Nat)(W:QM)(iF:p≠0)(ht:t=268/\F=162\/t=278/\F=210)(O:f<9223372036854775808)(ha:a<18446744073709551616)(Q:QM->Prop)(l:Nat->Nat->Nat->QM->Prop)(R:Nat->Nat->QM->Prop)(k:Ending->QM->Prop)(r:QA 103 #[J P 0,U p] W λe V=>e=QJ (.iface t (J g 0))/\Q V)(s:∀V,Q V->QA 155 #[.iface t (J g 0),U a] V λe i=>e=QJ Qk/\Q i)(u:∀V,Q V->QA 99 #[J P 0,U a] V λe i=>(∃v,e=.panicked v/\k (.panicked v) i)\/∃d c b,e=QJ (.iface d (J c 0))/\(d=268/\b=162\/d=278/\b=210)/\l d c b i)(j:∀d c b V i,l d c b V->D V i->l d c b i)(x:∀d c b V,l d c b V->QA F #[J g 0] V λe i=>e=QJ (U p)/\D V i)(y:∀d c b V,l d c b V->QA b #[J c 0] V λe i=>e=QJ (U q)/\D V i)(n:∀d c b V,l d c b V->QG V g 1 (I f))(z:∀d c b V,l d c b V->QA 156 #[J P 0,U p,U q,U (min f a:Nat)] V λe i=>e=QJ (.tuple #[])/\R d c i)(A:∀d c V,R d c V->QA 102 #[J P 0,.iface t (J g 0)] V λe i=>e=QJ (.tuple #[])/\k (QJ (.iface d (J c 0))) i):
  QA 101 #[J P 0,U p,U a] W k:=by
 have a0:((p:Int)==0)=false:=bG;have⟨S,T,X,m,Y,BN,CE,G⟩:=Qj r s u j x y n z;have RE:=H A;obtain⟨n,j⟩:∃n:Nat,min f a=n:=⟨_,rfl⟩;rw[j]at G;have HN:=H j;have a1:IntKind.u64.wrap (f:Int)=(f:Int):=dX _ Z Z;have a2:=λg w=>Ax g w
 have a3:=λg w=>nX g w
 have a4:=λg w=>AM g w
 have a5:=λg w=>oy g w
 rcases ht with⟨rfl,rfl⟩|⟨rfl,rfl⟩
 all_goals
  go_enter func101,ntmps101
  go_wp2_with fail
  refine(S).mono ?_
  rintro e V⟨rfl,j⟩
  have o:=H j
  clear j S
  go_wp2_with fail
  refine(T _ o).mono ?_
  rintro e V1⟨rfl,j⟩
  have B:=H j
  clear j T o
  go_wp2_with fail
  refine(X _ B).mono ?_
  rintro e V2(⟨v,rfl,hv⟩|⟨d,c,b,rfl,K,j⟩)
  ·exact⟨rfl,hv⟩
  have L:=H j
  clear j X B
  rcases K with⟨rfl,rfl⟩|⟨rfl,rfl⟩
  all_goals
   go_wp2_with fail
   refine(Y _ c _ _ L).mono ?_
   rintro e V3⟨rfl,B⟩
   have o:=H (m _ _ _ _ _ L B)
   clear B L
   go_wp2_with fail
   refine(BN _ c _ _ o).mono ?_
   rintro e V4⟨rfl,B⟩
   have M:=H (m _ _ _ _ _ o B)
   clear B o
   go_wp2_with fail
   refine(fx (Qz g 0) _).mono ?_
   rintro e V5⟨rfl,rfl⟩
   have c1:=CE.out _ _ _ _ M
   have B:=H (G _ _ _ _ M)
   clear G CE Y BN m M
   have M:=HN.out
   have N:n=f/\(n:Int)<=(a:Int)\/n=a/\¬((f:Int)<=(n:Int)):=Z
   clear M
   rcases N with⟨rfl,M⟩|⟨rfl,M⟩
   all_goals
    go_wp2_with fail
    refine(B).mono ?_
    rintro e V6⟨rfl,j⟩
    have o:=H j
    clear j B c1
    go_wp2_with fail
    refine(RE _ _ _ o).mono ?_
    rintro e V9⟨rfl,j⟩
    have HF:=H j
    clear j RE o
    go_wp2
    exact HF
end Go.Proofs.YtdhegekcmmlohaaGreatDoor
