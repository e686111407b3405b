import Derived.Test.YtdngbppdomoenaaGreatDoorN10
set_option linter.unusedVariables false
set_option linter.unusedSimpArgs false
set_option maxRecDepth 20000
set_option maxHeartbeats 8000000
namespace Go.Proofs.YtdngbppdomoenaaGreatDoor
open Go.Proofs.Tryz
variable {W W':World}
section
open Go.RowKit
theorem B_ {c s j:Nat} (a:c<12):(rs (c:Int)+(s:Int)*(pg (c:Int)+1))*1024+(j:Int)*sz (c:Int)=((aX c s j:Nat):Int):=by
 rw [vY a,pU a,se a];unfold aX aB;simp
theorem Tb.ofBelow (h:Tb W) (a:D W W'):Tb W':=by
 obtain⟨t,b,h⟩:=h.row;exact⟨t,b,by rw [a.block 0 (ai h)];exact h⟩
theorem fO (a:Addr) (W:World):Calls prog 273 #[.pointer (some a)] W λe W'=>e=.returned (.pointer (some a))/\W'=W:=by
 go_enter func273,ntmps273;go_wp2;go_ret;exact⟨rfl,rfl⟩
structure Sc (g b c s j:Nat) (W:World):Prop where
 c2:W.cell? ⟨g,2,none⟩=some (J b 0)
 c3:W.cell? ⟨g,3,none⟩=some (I j)
 d0:W.cell? ⟨b,0,none⟩=some (I c)
 d1:W.cell? ⟨b,1,none⟩=some (I s)
 tb:Tb W
 hc:c<12
 hs:s<6
 hj:j<aM c
theorem Sc.below {g b c s j} (h:Sc g b c s j W) (k:D W W'):Sc g b c s j W':=⟨ad k h.c2,ad k h.c3,ad k h.d0,ad k h.d1,h.tb.ofBelow k,h.hc,h.hs,h.hj⟩
theorem e_ (g b c s j W) (h:Sc g b c s j W) :
  Calls prog 106 #[J g 0] W λe W'=>e=.returned (U (aX c s j:Nat))/\D W W':=by
 obtain⟨i,m,n,o,p,f,q,r⟩:=h;have a:=H (kB (c:Nat) (s:Nat) (j:Nat) ⟨Z,Z,Z,Z,Z,by rw [vt f];omega⟩ W.drew ⟨p.row⟩);rw [B_ f] at a;have l:=H (show ∀ d,D W d->d.cell? ⟨g,2,none⟩=some (J b 0)/\d.cell? ⟨g,3,none⟩=some (I j)/\d.cell? ⟨b,0,none⟩=some (I c)/\d.cell? ⟨b,1,none⟩=some (I s) from λd k=>⟨ad k i,ad k m,ad k n,ad k o⟩);clear p f q r i m n o;go_enter func106,ntmps106;go_upto_region 1 with fail
 refine rh (S:=λd=>d.cell? ⟨g,2,none⟩=some (J b 0)/\d.cell? ⟨g,3,none⟩=some (I j)/\d.cell? ⟨b,0,none⟩=some (I c)/\d.cell? ⟨b,1,none⟩=some (I s)) ?_;have i:=l.out _ (Fc _ _).drew;iterate 18 (refine py i ?_;simp only [f0,f1,Nat.reduceAdd,lz,l0,ls])
 refine po 18 λK' n=>?_;go_simp;refine (a).mono ?_;rintro e o ⟨rfl,f⟩;have k:D W o:=⟨f.os,f.tape,f.output,f.size,f.block⟩;have m:=l.out _ k;refine n _ _ ⟨m,?_⟩;clear i;have i:=m;clear n K'
 iterate 5 (refine py i ?_;simp only [f0,f1,Nat.reduceAdd,lz,l0,ls])
 refine bN ?_;have n:=H k;clear k f i m a l;go_wp2;go_ret;exact⟨rfl,n⟩
theorem mf (g b c s j W) (h:Sc g b c s j W) :
  Calls prog 146 #[J g 0] W λe W'=>e=.returned (I (fo c:Nat))/\W'=W:=by
 obtain⟨n,i,o,k,d,f,l,m⟩:=h;have a:=H (vC (c:Nat) W d);rw [DI f] at a;clear d f i k l m;go_enter func146,ntmps146;go_wp2_with fail;refine (a).mono ?_;rintro e d ⟨rfl,rfl⟩;go_wp2;go_ret;exact⟨rfl,rfl⟩
theorem kx (g b c s j W) (h:Sc g b c s j W) :
  Calls prog 103 #[J g 0] W λe W'=>e=.returned (U (aX c s j+fo c:Nat))/\D W W':=by
 have a:=H (e_ g b c s j W h);have d:=H (λW' (f:D W W')=>mf g b c s j W' (h.below f));have ha:=cI h.hc h.hs h.hj;have f:=bd h.hc;have k:fo c<=1016:=Z;have l:=H (show ((aX c s j+fo c:Nat):Int)=(aX c s j:Int)+(fo c:Int) by omega);have m:aX c s j<=200000:=Z;generalize aX c s j=A at *;generalize fo c=u at *;clear h ha f;go_enter func103,ntmps103;go_wp2_with fail;refine (a).mono ?_;rintro e n ⟨rfl,f⟩;have i:=H f;clear f a;go_wp2_with fail;refine (d _ i).mono ?_;rintro e a ⟨rfl,rfl⟩;clear d;go_wp2;go_ret;refine⟨?_,i⟩;rw [l.out];rfl
theorem ke (a:Nat) (W:World) (ha:a<18446744073709551616) :
  Calls prog 136 #[U a] W λe W'=>e=.returned (I (aR a:Nat))/\W'=W:=by
 unfold aR;by_cases c:a%1024 > 0;·rw [Gv c];have b:=H (show (((a/1024+1:Nat):Nat):Int)=(a:Int)/1024+1 by omega);go_enter func136,ntmps136;go_wp2;go_ret;rw [b.out];exact⟨rfl,rfl⟩
 rw [Gu c];have b:=H (show (((a/1024+0:Nat):Nat):Int)=(a:Int)/1024 by omega);go_enter func136,ntmps136;go_wp2;go_ret;rw [b.out];exact⟨rfl,rfl⟩
structure Lc (g:Nat) (r:Rg9) (W:World):Prop where
 c0:W.cell? ⟨g,0,none⟩=some (I r.st)
 c1:W.cell? ⟨g,1,none⟩=some (I r.rq)
 c2:W.cell? ⟨g,2,none⟩=some (I r.first)
 c3:W.cell? ⟨g,3,none⟩=some (I r.guards)
 c4:W.cell? ⟨g,4,none⟩=some (I r.pages)
 hf:r.first<=300
 hu:r.guards<=3
 hp:r.pages<=18014398509481984
theorem Lc.below {g r} (h:Lc g r W) (k:D W W'):Lc g r W':=⟨ad k h.c0,ad k h.c1,ad k h.c2,ad k h.c3,ad k h.c4,h.hf,h.hu,h.hp⟩
theorem ib (g r W) (h:Lc g r W) :
  Calls prog 138 #[J g 0] W λe W'=>e=.returned (U r.base)/\W'=W.drew:=by
 obtain⟨_,_,b,c,_,d,i,_⟩:=h;have a:=H (show ((r.base:Nat):Int)=((r.first:Int)+(r.guards:Int))*1024 by unfold Rg9.base;omega);generalize r.first=f at *
 generalize r.guards=u at *;go_enter func138,ntmps138;go_wp2;go_region;go_wp2;go_ret;rw [a.out];exact⟨rfl,rfl⟩
theorem sT (g r W) (h:Lc g r W) (a:r.pages<=300) :
  Calls prog 274 #[J g 0] W λe W'=>e=.returned (I (r.pages*1024:Nat))/\W'=W:=by
 obtain⟨_,_,_,_,c,_,_,_⟩:=h;have b:=H (show ((r.pages*1024:Nat):Int)=(r.pages:Int)*1024 by omega);generalize r.pages=p at *;go_enter func274,ntmps274;go_wp2;go_ret;rw [b.out];exact⟨rfl,rfl⟩
theorem iB (g r W) (h:Lc g r W) :
  Calls prog 113 #[J g 0] W λe W'=>e=.returned (I r.ext)/\W'=W.drew:=by
 obtain⟨_,_,_,b,c,_,d,f⟩:=h;have a:=H (show ((r.ext:Nat):Int)=(r.guards:Int)+(r.pages:Int)+1 by unfold Rg9.ext;omega);generalize r.guards=u at *;generalize r.pages=p at *;go_enter func113,ntmps113;go_wp2;go_region;go_wp2;go_ret;rw [a.out];exact⟨rfl,rfl⟩
end
section
open Go.ChangeShapes Go.WideShapes Go.ChangeAt Go.RowKit
theorem EF (M rm G rq n mix fifo W) (h:Qr W M rm G rq n mix fifo) (a:mix.length<=1024) :
  Calls prog 117 #[J M 0] W λe c=>e=.returned (Vl W.heap.size mix.length mix.length)/\RowV c W.heap.size 3 (Ns .i64 mix)/\D W c:=by
 have b:=h.mx.1;have d:=h.mx.2;have:=row_in M rm mix.length 0 mix.length _ W.heap.size mix W rfl rfl (bY b) (bY b) (bY b) d rfl (Fs _) (Fe _) a;rwa [Io,List.take_zero,F4,GK] at this
theorem EJ (M rm G rq n mix fifo W) (h:Qr W M rm G rq n mix fifo) (a:n<=1024) :
  Calls prog 117 #[J G 0] W λe c=>e=.returned (Vl W.heap.size fifo.length fifo.length)/\RowV c W.heap.size 3 (Ns .i64 fifo)/\D W c:=by
 obtain⟨ps,o,k,b,d,f,j,g,l,e⟩:=h.qu;have:=row_in G rq n o k _ W.heap.size ps W rfl rfl (bY b) (bY b) (bY b) d f Z g a;rw [<-e] at this;have i:fifo.length=k:=by rw [e];simp;omega
 rw [i];exact this
theorem jU (W:World) (g:Nat) (a b c:Value) (x:Addr) (h:x.block≠g):(((W.setCell ⟨g,0,none⟩ a).setCell ⟨g,1,none⟩ b).setCell ⟨g,2,none⟩ c).cell? x=W.cell? x:=by
 unfold World.cell?;rw [heap_setCell_other _ _ _ _ (by simpa using h),heap_setCell_other _ _ _ _ (by simpa using h),heap_setCell_other _ _ _ _ (by simpa using h)]
theorem wZ (M rm G rq n) (s:Nat) (t:TypeId) (a:Addr) (mix fifo) (w:World) (g:s=w.heap.size) (h:Qr w M rm G rq n mix fifo) (x:mix.length<=1024) (y:n<=1024) :
  Calls prog 79 #[.agg #[.pointer (some ⟨M,0,none⟩),.pointer (some ⟨G,0,none⟩),.iface t (.pointer (some a))]] w λe z=>∃ b c,e=.returned (wv (some ⟨b,0,none⟩) mix.length mix.length (some ⟨c,0,none⟩) fifo.length fifo.length (n:Nat))/\RowV z b 3 (Ns .i64 mix)/\RowV z c 3 (Ns .i64 fifo)/\w.heap.size<=b/\b<c/\D w z:=by
 have b:=lC w (.cells #[.pointer (some ⟨M,0,none⟩),.pointer (some ⟨G,0,none⟩),.iface t (.pointer (some a))] 86) (.cells #[.slice none 0 0,.slice none 0 0,.int .i64 0] 68);obtain⟨ps,o,k,c,f⟩:=h.qu;clear f;have T:=H (λW (A:Qr W M rm G rq n mix fifo)=>EF M rm G rq n mix fifo W A x);have V:=H (λW (A:Qr W M rm G rq n mix fifo)=>EJ M rm G rq n mix fifo W A y);have X:=dI c;have B:G≠s+1:=Z;have Y:G≠s:=Z;have j:=ad b.2.2 (show w.cell? ⟨G,0,none⟩=some (.slice (some ⟨rq,0,none⟩) n n) from bY c);have l:=h.but (But.ofBelow (S:=λ_=>False) b.2.2) id id id id;have q:=H (show w.heap.size+2<=((w.alloc (.cells #[.pointer (some ⟨M,0,none⟩),.pointer (some ⟨G,0,none⟩),.iface t (.pointer (some a))] 86)).alloc (.cells #[.slice none 0 0,.slice none 0 0,.int .i64 0] 68)).heap.size by rw [db,db];omega);clear h c;go_enter func79,ntmps79;go_wp2;rw [<-g];have c:=b.2.2;rw [<-g] at b;generalize (w.alloc (.cells #[.pointer (some ⟨M,0,none⟩),.pointer (some ⟨G,0,none⟩),.iface t (.pointer (some a))] 86)).alloc (.cells #[.slice none 0 0,.slice none 0 0,.int .i64 0] 68)=f at *;have F:f.drew.cell? ⟨s,0,none⟩=some (.pointer (some ⟨M,0,none⟩))/\f.drew.cell? ⟨s,1,none⟩=some (.pointer (some ⟨G,0,none⟩))/\f.drew.cell? ⟨G,0,none⟩=some (.slice (some ⟨rq,0,none⟩) n n):=⟨(Gz f _ _ _ _ _ b.1).trans rfl,(Gz f _ _ _ _ _ b.1).trans rfl,j⟩;have Q:Hid (Qr f.drew M rm G rq n mix fifo):=l.but (S:=λ_=>False) (But.refl _ _).drew id id id id;have HZ:Hid (f.drew.heap[s+1]?=some (.cells #[.slice none 0 0,.slice none 0 0,.int .i64 0] 68)):=b.2.1;have R:=H c.drew;clear c;have K:=H g;clear b g l j;refine wp_region_held (S:=λW=>W.cell? ⟨s,0,none⟩=some (.pointer (some ⟨M,0,none⟩))/\W.cell? ⟨s,1,none⟩=some (.pointer (some ⟨G,0,none⟩))/\W.cell? ⟨G,0,none⟩=some (.slice (some ⟨rq,0,none⟩) n n)) E ?_;simp only [FA,Fx,FH,Nat.reduceAdd,Fw,Fv,FB,Fy,FJ];have b:=F;refine bv (i:=0) (d:=3) (v:=.pointer (some ⟨s,0,none⟩)) rfl E E E E (λ_ _ _ h=>h) (Or.inl ⟨E,λ_ _=>E⟩) b ?_;simp only [Ff,Fh,Fi];refine bv (i:=1) (d:=4) (v:=.pointer (some ⟨M,0,none⟩)) rfl E E E E (λ_ _ _ h=>h) (Or.inl ⟨E,λW b=>by obtain ⟨g,L,N⟩:=b;go_simp⟩) b ?_;simp only [Ff,Fh,Fi];refine bv (i:=2) (d:=5) (v:=.pointer (some ⟨M,0,none⟩)) rfl E E E E (λ_ _ _ h=>h) (Or.inl ⟨E,λ_ _=>E⟩) b ?_;simp only [Ff,Fh,Fi];refine bv (i:=3) (d:=6) (v:=.pointer (some ⟨M,0,none⟩)) rfl E E E E (λ_ _ _ h=>h) (Or.inl ⟨E,λ_ _=>E⟩) b ?_;simp only [Ff,Fh,Fi];refine bv (i:=5) (d:=8) (v:=.pointer (some ⟨s,1,none⟩)) rfl E E E E (λ_ _ _ h=>h) (Or.inl ⟨E,λ_ _=>E⟩) b ?_;simp only [Ff,Fh,Fi];refine bv (i:=6) (d:=9) (v:=.pointer (some ⟨G,0,none⟩)) rfl E E E E (λ_ _ _ h=>h) (Or.inl ⟨E,λW b=>by obtain ⟨g,L,N⟩:=b;go_simp⟩) b ?_;simp only [Ff,Fh,Fi];refine bv (i:=7) (d:=10) (v:=.pointer (some ⟨G,0,none⟩)) rfl E E E E (λ_ _ _ h=>h) (Or.inl ⟨E,λ_ _=>E⟩) b ?_;simp only [Ff,Fh,Fi];refine bv (i:=8) (d:=11) (v:=.pointer (some ⟨G,0,none⟩)) rfl E E E E (λ_ _ _ h=>h) (Or.inl ⟨E,λ_ _=>E⟩) b ?_;simp only [Ff,Fh,Fi];refine bv (i:=10) (d:=13) (v:=.pointer (some ⟨s,1,none⟩)) rfl E E E E (λ_ _ _ h=>h) (Or.inl ⟨E,λ_ _=>E⟩) b ?_;simp only [Ff,Fh,Fi];refine bv (i:=11) (d:=14) (v:=.pointer (some ⟨G,0,none⟩)) rfl E E E E (λ_ _ _ h=>h) (Or.inl ⟨E,λW b=>by obtain ⟨g,L,N⟩:=b;go_simp⟩) b ?_;simp only [Ff,Fh,Fi];refine bv (i:=12) (d:=15) (v:=.pointer (some ⟨G,0,none⟩)) rfl E E E E (λ_ _ _ h=>h) (Or.inl ⟨E,λ_ _=>E⟩) b ?_;simp only [Ff,Fh,Fi];refine bv (i:=13) (d:=16) (v:=.pointer (some ⟨G,0,none⟩)) rfl E E E E (λ_ _ _ h=>h) (Or.inl ⟨E,λ_ _=>E⟩) b ?_;simp only [Ff,Fh,Fi];refine bv (i:=14) (d:=17) (v:=.pointer (some ⟨G,0,none⟩)) rfl E E E E (λ_ _ _ h=>h) (Or.inl ⟨E,λ_ _=>E⟩) b ?_;simp only [Ff,Fh,Fi];refine bv (i:=15) (d:=18) (v:=.slice (some ⟨rq,0,none⟩) n n) rfl E E E E (λ_ _ _ h=>h) (Or.inl ⟨E,λW b=>by obtain ⟨g,L,N⟩:=b;go_simp⟩) b ?_;simp only [Ff,Fh,Fi];refine bv (i:=16) (d:=19) (v:=.int .i64 (n:Nat)) rfl E E E E (λ_ _ _ h=>h) (Or.inl ⟨E,λW _=>by first|(go_simp;done)|(go_simp;omega)⟩) b ?_;simp only [Ff,Fh,Fi];refine ci (r:=4) E ?_;refine dO rfl E (λK' j=>?_);go_simp;refine (T _ Q).mono ?_;rintro e O ⟨rfl,m,l⟩;have B1:=H (az R l);have Q1:=H (Q.but (But.ofBelow (S:=λ_=>False) l) id id id id);have Z1:=H (ae HZ l);have u:=H m;have c:=(show _/\_/\_ from ⟨ad l b.1,ad l b.2.1,ad l b.2.2⟩);refine j _ _ ⟨c,?_⟩;clear b m l;have b:=c;clear c;clear j K';refine ci (r:=9) E ?_;refine dO rfl E (λK' j=>?_);go_simp;refine (V _ Q1).mono ?_;rintro e p ⟨rfl,P,l⟩;have B2:=H (az B1 l);have m:=H (ae Z1 l);have R2:=H P;have X1:=H (u.below l u.lt);have c:=(show _/\_/\_ from ⟨ad l b.1,ad l b.2.1,ad l b.2.2⟩);refine j _ _ ⟨c,?_⟩;have L1:=H (u.lt);clear b P l;have b:=c;clear c;clear j K';refine bv (i:=17) (d:=20) (v:=.agg #[.slice (some ⟨f.drew.heap.size,0,none⟩) mix.length mix.length,.slice (some ⟨O.heap.size,0,none⟩) fifo.length fifo.length,.int .i64 (n:Nat)]) rfl E E E E (λ_ _ _ h=>h) (Or.inl ⟨E,λ_ _=>E⟩) b ?_;simp only [Ff,Fh,Fi];have d0:p.cell? ⟨s+1,0,none⟩=some (.slice none 0 0):=bY m.out;have d1:p.cell? ⟨s+1,1,none⟩=some (.slice none 0 0):=bY m.out;have d2:p.cell? ⟨s+1,2,none⟩=some (.int .i64 0):=bY m.out;have f0:p.frozen? ⟨s+1,0,none⟩=false:=GG _ _ _ _ _ m.out;have f1:p.frozen? ⟨s+1,1,none⟩=false:=GG _ _ _ _ _ m.out;have f2:p.frozen? ⟨s+1,2,none⟩=false:=GG _ _ _ _ _ m.out;refine ci (r:=18) E ?_;refine dO rfl E (λK' j=>?_);go_simp;refine j _ _ ⟨⟨?_,?_,?_⟩,?_⟩;·have:=b.1;rw [jU _ _ _ _ _ _ iK];exact this
 ·have:=b.2.1;rw [jU _ _ _ _ _ _ iK];exact this
 ·have:=b.2.2;rw [jU _ _ _ _ _ _ (by dsimp only;exact B)];exact this
 refine bN ?_;go_wp2;refine GF (Ga ef _ _ (s+1) 68 _ (0,0) _ ef (set3 m _ _ _) underlying68 rfl E) ef ?_;have c:=R.size;have l:=u.lt;have P:s+1≠f.drew.heap.size:=by have:=q.out;have:=K.out;show s+1≠f.heap.size;omega
 have g:s+1≠O.heap.size:=by have:=q.out;have:=K.out;have e:f.drew.heap.size=f.heap.size:=rfl;omega
 refine⟨f.drew.heap.size,O.heap.size,rfl,?_,?_,c,l,?_⟩;·exact ((X1.other (H2 P) _).other (H2 P) _).other (H2 P) _
 ·exact ((R2.other (H2 g) _).other (H2 g) _).other (H2 g) _
 ·have:=K.out;exact ((B2.setCell iK _).setCell iK _).setCell iK _
end
section
open Go.RowKit Go.Shelf Go.Maps
theorem Eo (f:World) (a:Option Addr) (b c:Nat) (o:List Int) (e:IsRow .u8 f a b c o) (d:b<=1048576) (R gv tt W X Y k):B0 f a b c R gv tt W X Y k (λm=>m=1):=by
 intro m K Q q w u9 u10 u11 u12 u13 u14 u15 u16 u17 u18 u19 u20 u21 u22 u23 u24 u25 u26 u27 u28 u29 u32 u33 u34 u35 u36 u37 u38 u39 u40 u41 u42 u43 u44 u45 u46 u47 u48 u49 u50 u51 u52 u53 u54 u55 u56 u57 u58 u59 u60 u61 u62 u63 u64 u65 u66 u67 u68 u69 u70 u71 u72 u73 u74 u75 u76 u77 u78 u79 u80 u81 u82 u83 u84 u85 u86 u87 u88 u89 u90 u91 u92 u93 u94 u95 u96 u97 u98 u99 u100 u101 u102 u103 u104 u105 u106 u107 u108 u109 u110 u111 u112 u113 u114 u115 u116 u117 u118 u119 u120 u121 u122 u123 u124 u125 u126 u127 u128 u129 u130 u131 u132 u133 u134 u135 u136 u137 u138 u139 u140 u141 u142 u143 u144 u145 u146 u147 u148 y l i;have N:=H (λV (g:Rd f a b c R V V)=>ca f a b c o e d R V V g);have A:=H (λV (g:Rd f a b c R V V)=>cO f a b c o e d R V V g);have u:=H (λV (g:Rd f a b c R V V)=>bZ f a b c o e d R V V g);have B:=H (λn (j:n<=10000) V (g:Rd f a b c R V V)=>cW f a b c o e d R n j V V g);have F:=H cd;have v:=H u64_in;clear e;have x:=H i;clear i
 conv=>arg 2;whnf
 obtain rfl:=y;cases tt
 ·go_wp2_with fail;refine (u _ l.rd.at).mono ?_;rintro e s ⟨⟨t,n,p,rfl⟩,r⟩;have i:=H (l.next r);clear r l;go_wp2_with (refine eF i.x ?_;have j:=H (i.row 0 t 0 n p Z Z);generalize s.setRow X _=z at j ⊢;clear i);apply x.out;exact j
 ·go_wp2_with fail;refine (u _ l.rd.at).mono ?_;rintro e s ⟨⟨t,n,p,rfl⟩,r⟩;have i:=H (l.next r);clear r l;go_wp2_with (refine eF i.x ?_;have j:=H (i.row 0 t 0 n p Z Z);generalize s.setRow X _=z at j ⊢;clear i;obtain ⟨i,G,L,M,O,P⟩:=j.cells;have S:=j.fr 3);apply x.out;exact H (j.setA _ (by first|omega|exact (v _).1|(simp;done)) (by first|omega|exact (v _).2|(simp;done)))
theorem Ex (f:World) (a:Option Addr) (b c:Nat) (o:List Int) (e:IsRow .u8 f a b c o) (d:b<=1048576) (R gv tt W X Y k):B0 f a b c R gv tt W X Y k (λm=>m=5\/m=6):=by
 intro m K Q q w u9 u10 u11 u12 u13 u14 u15 u16 u17 u18 u19 u20 u21 u22 u23 u24 u25 u26 u27 u28 u29 u32 u33 u34 u35 u36 u37 u38 u39 u40 u41 u42 u43 u44 u45 u46 u47 u48 u49 u50 u51 u52 u53 u54 u55 u56 u57 u58 u59 u60 u61 u62 u63 u64 u65 u66 u67 u68 u69 u70 u71 u72 u73 u74 u75 u76 u77 u78 u79 u80 u81 u82 u83 u84 u85 u86 u87 u88 u89 u90 u91 u92 u93 u94 u95 u96 u97 u98 u99 u100 u101 u102 u103 u104 u105 u106 u107 u108 u109 u110 u111 u112 u113 u114 u115 u116 u117 u118 u119 u120 u121 u122 u123 u124 u125 u126 u127 u128 u129 u130 u131 u132 u133 u134 u135 u136 u137 u138 u139 u140 u141 u142 u143 u144 u145 u146 u147 u148 G g j;have N:=H (λV (i:Rd f a b c R V V)=>ca f a b c o e d R V V i);have O:=H (λV (i:Rd f a b c R V V)=>cO f a b c o e d R V V i);have z:=H (λV (i:Rd f a b c R V V)=>bZ f a b c o e d R V V i);have P:=H (λn (l:n<=10000) V (i:Rd f a b c R V V)=>cW f a b c o e d R n l V V i);have S:=H cd;have y:=H u64_in;clear e;have A:=H j;clear j
 conv=>arg 2;whnf
 rcases G with rfl|rfl
 ·skip
  obtain⟨n,p,s,t,u,v⟩:=g.cells;have x:=g.fr 0;go_wp2_with fail;have j:=H (g.setKd 2);clear g n p s t u v x;refine (z _ j.rd.at).mono ?_;rintro e L ⟨⟨M,B,F,rfl⟩,r⟩;have l:=H (j.next r);clear r j;obtain⟨n,p,s,t,u,v⟩:=l.cells;have x:=l.fr 3;go_wp2;apply A.out;exact H (l.setA _ (by first|omega|exact (y _).1|(simp;done)) (by first|omega|exact (y _).2|(simp;done)))
 ·skip
  obtain⟨n,p,s,t,u,v⟩:=g.cells;have x:=g.fr 0;go_wp2_with fail;have j:=H (g.setKd 2);clear g n p s t u v x;refine (z _ j.rd.at).mono ?_;rintro e L ⟨⟨M,B,F,rfl⟩,r⟩;have l:=H (j.next r);clear r j;obtain⟨n,p,s,t,u,v⟩:=l.cells;have x:=l.fr 3;go_wp2;apply A.out;exact H (l.setA _ (by first|omega|exact (y _).1|(simp;done)) (by first|omega|exact (y _).2|(simp;done)))
theorem Ew (f:World) (a:Option Addr) (b c:Nat) (l:List Int) (e:IsRow .u8 f a b c l) (d:b<=1048576) (R gv tt W X Y k):B0 f a b c R gv tt W X Y k (λm=>m=12):=by
 intro m K Q q w u9 u10 u11 u12 u13 u14 u15 u16 u17 u18 u19 u20 u21 u22 u23 u24 u25 u26 u27 u28 u29 u32 u33 u34 u35 u36 u37 u38 u39 u40 u41 u42 u43 u44 u45 u46 u47 u48 u49 u50 u51 u52 u53 u54 u55 u56 u57 u58 u59 u60 u61 u62 u63 u64 u65 u66 u67 u68 u69 u70 u71 u72 u73 u74 u75 u76 u77 u78 u79 u80 u81 u82 u83 u84 u85 u86 u87 u88 u89 u90 u91 u92 u93 u94 u95 u96 u97 u98 u99 u100 u101 u102 u103 u104 u105 u106 u107 u108 u109 u110 u111 u112 u113 u114 u115 u116 u117 u118 u119 u120 u121 u122 u123 u124 u125 u126 u127 u128 u129 u130 u131 u132 u133 u134 u135 u136 u137 u138 u139 u140 u141 u142 u143 u144 u145 u146 u147 u148 B o g;have N:=H (λV (i:Rd f a b c R V V)=>ca f a b c l e d R V V i);have O:=H (λV (i:Rd f a b c R V V)=>cO f a b c l e d R V V i);have P:=H (λV (i:Rd f a b c R V V)=>bZ f a b c l e d R V V i);have S:=H (λn (j:n<=10000) V (i:Rd f a b c R V V)=>cW f a b c l e d R n j V V i);have T:=H cd;have y:=H u64_in;clear e;have F:=H g;clear g
 conv=>arg 2;whnf
 obtain rfl:=B;obtain⟨n,p,s,t,u,v⟩:=o.cells;have x:=o.fr 0;go_wp2_with fail;have j:=H (o.setKd 5);clear o n p s t u v x;refine (N _ j.rd.at).mono ?_;rintro e G ⟨⟨o,z,rfl⟩,r⟩;have g:=H (j.next r);clear r j;obtain⟨n,p,s,t,u,v⟩:=g.cells;have x:=g.fr 3;go_wp2_with fail;have j:=H (g.setA (o:Int) Z Z);clear g n p s t u v x;refine (N _ j.rd.at).mono ?_;rintro e L ⟨⟨M,A,rfl⟩,r⟩;have g:=H (j.next r);clear r j;obtain⟨n,p,s,t,u,v⟩:=g.cells;have x:=g.fr 2;go_wp2;apply F.out;exact H (g.setP _ (by first|omega|exact (y _).1|(simp;done)) (by first|omega|exact (y _).2|(simp;done)))
theorem El (f:World) (a:Option Addr) (b c:Nat) (o:List Int) (e:IsRow .u8 f a b c o) (d:b<=1048576) (R gv tt W X Y k):B0 f a b c R gv tt W X Y k (λm=>m=3):=by
 intro m K Q q w u9 u10 u11 u12 u13 u14 u15 u16 u17 u18 u19 u20 u21 u22 u23 u24 u25 u26 u27 u28 u29 u32 u33 u34 u35 u36 u37 u38 u39 u40 u41 u42 u43 u44 u45 u46 u47 u48 u49 u50 u51 u52 u53 u54 u55 u56 u57 u58 u59 u60 u61 u62 u63 u64 u65 u66 u67 u68 u69 u70 u71 u72 u73 u74 u75 u76 u77 u78 u79 u80 u81 u82 u83 u84 u85 u86 u87 u88 u89 u90 u91 u92 u93 u94 u95 u96 u97 u98 u99 u100 u101 u102 u103 u104 u105 u106 u107 u108 u109 u110 u111 u112 u113 u114 u115 u116 u117 u118 u119 u120 u121 u122 u123 u124 u125 u126 u127 u128 u129 u130 u131 u132 u133 u134 u135 u136 u137 u138 u139 u140 u141 u142 u143 u144 u145 u146 u147 u148 y l i;have N:=H (λV (g:Rd f a b c R V V)=>ca f a b c o e d R V V g);have A:=H (λV (g:Rd f a b c R V V)=>cO f a b c o e d R V V g);have u:=H (λV (g:Rd f a b c R V V)=>bZ f a b c o e d R V V g);have B:=H (λn (j:n<=10000) V (g:Rd f a b c R V V)=>cW f a b c o e d R n j V V g);have F:=H cd;have v:=H u64_in;clear e;have x:=H i;clear i
 conv=>arg 2;whnf
 obtain rfl:=y;cases tt
 ·go_wp2_with fail;refine (u _ l.rd.at).mono ?_;rintro e s ⟨⟨t,n,p,rfl⟩,r⟩;have i:=H (l.next r);clear r l;go_wp2_with (refine eF i.x ?_;have j:=H (i.row 0 t 0 n p Z Z);generalize s.setRow X _=z at j ⊢;clear i);apply x.out;exact j
 ·go_wp2_with fail;refine (u _ l.rd.at).mono ?_;rintro e s ⟨⟨t,n,p,rfl⟩,r⟩;have i:=H (l.next r);clear r l;go_wp2_with (refine eF i.x ?_;have j:=H (i.row 0 t 0 n p Z Z);generalize s.setRow X _=z at j ⊢;clear i;obtain ⟨i,G,L,M,O,P⟩:=j.cells;have S:=j.fr 3);apply x.out;exact H (j.setA _ (by first|omega|exact (v _).1|(simp;done)) (by first|omega|exact (v _).2|(simp;done)))
theorem EG (g:World) (a:Option Addr) (c d:Nat) (A:List Int) (b:IsRow .u8 g a c d A) (f:c<=1048576) (R gv tt W X Y k):B0 g a c d R gv tt W X Y k (λm=>m=14):=by
 intro m K Q q w u9 u10 u11 u12 u13 u14 u15 u16 u17 u18 u19 u20 u21 u22 u23 u24 u25 u26 u27 u28 u29 u32 u33 u34 u35 u36 u37 u38 u39 u40 u41 u42 u43 u44 u45 u46 u47 u48 u49 u50 u51 u52 u53 u54 u55 u56 u57 u58 u59 u60 u61 u62 u63 u64 u65 u66 u67 u68 u69 u70 u71 u72 u73 u74 u75 u76 u77 u78 u79 u80 u81 u82 u83 u84 u85 u86 u87 u88 u89 u90 u91 u92 u93 u94 u95 u96 u97 u98 u99 u100 u101 u102 u103 u104 u105 u106 u107 u108 u109 u110 u111 u112 u113 u114 u115 u116 u117 u118 u119 u120 u121 u122 u123 u124 u125 u126 u127 u128 u129 u130 u131 u132 u133 u134 u135 u136 u137 u138 u139 u140 u141 u142 u143 u144 u145 u146 u147 u148 hm l e;have N:=H (λV (j:Rd g a c d R V V)=>ca g a c d A b f R V V j);have WD:=H (λV (j:Rd g a c d R V V)=>cO g a c d A b f R V V j);have RQ:=H (λV (j:Rd g a c d R V V)=>bZ g a c d A b f R V V j);have BY:=H (λn (T:n<=10000) V (j:Rd g a c d R V V)=>cW g a c d A b f R n T V V j);have US:=H cd;have HU:=H u64_in;clear b;have HK:=H e;clear e
 conv=>arg 2;whnf
 obtain rfl:=hm;obtain⟨o,p,s,t,x,y⟩:=l.cells;have z:=l.fr 0;go_wp2_with fail;have i:=H (l.setKd 6);clear l o p s t x y z;refine (N _ i.rd.at).mono ?_;rintro e a4 ⟨⟨B,a0,rfl⟩,r⟩;have b:=H (i.next r);clear r i;obtain⟨n,T,L⟩:∃ n:Nat,n<=24/\(B:Int)%24+1=(n:Int):=⟨B%24+1,Z,Z⟩;go_wp2_with fail;refine (BY n Z _ b.rd.at).mono ?_;rintro e a5 ⟨v,ys,rfl,M,l,G,r⟩;obtain⟨va,vb,vc,rfl⟩:=eW G;have O:=fP G;subst M;obtain rfl:=O;have F:=dV b.rd.g.size G;have i:=H (b.next r);have HB:=H F;have P:=H l;clear l;clear r G F L b;obtain⟨o,p,s,t,x,y⟩:=i.cells;have z:=i.fr 5;go_wp2_with fail;have b:=H (i.setD va vc ys HB P);clear i o p s t x y z;refine (N _ b.rd.at).mono ?_;rintro e a6 ⟨⟨S,a1,rfl⟩,r⟩;have i:=H (b.next r);clear r b;obtain⟨o,p,s,t,x,y⟩:=i.cells;have z:=i.fr 2;have L:=H (i.setP ((S:Int)%20) Z Z);by_cases a2:200<=k
 ·go_wp2_with fail;clear o p s t x y z;refine (N _ L.rd.at).mono ?_;rintro e a7 ⟨⟨F,a3,rfl⟩,r⟩;have G:=H (L.next r);clear r L;have hu:=ot ((F:Int)%12);go_wp2_with fail;refine (US _ _).mono ?_;rintro e a8 ⟨rfl,b⟩;have l:=H (G.below b);clear b G;generalize us ((F:Int)%12)=u at hu ⊢;go_wp2_with fail;refine (N _ l.rd.at).mono ?_;rintro e a9 ⟨⟨b0,G,rfl⟩,r⟩;have b:=H (l.next r);clear r l;obtain⟨o,p,s,t,x,y⟩:=b.cells;have z:=b.fr 2;go_wp2;apply HK.out;exact H (b.setP _ (by first|omega|exact (HU _).1|(simp;done)) (by first|omega|exact (HU _).2|(simp;done)))
 ·go_wp2;apply HK.out;exact L
end
end Go.Proofs.YtdngbppdomoenaaGreatDoor
