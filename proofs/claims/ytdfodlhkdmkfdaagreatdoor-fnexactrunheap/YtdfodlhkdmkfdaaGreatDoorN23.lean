import Derived.Test.YtdfodlhkdmkfdaaGreatDoorN19
set_option linter.unusedVariables false
set_option linter.unusedSimpArgs false
set_option maxRecDepth 20000
set_option maxHeartbeats 8000000
namespace Go.Proofs.YtdfodlhkdmkfdaaGreatDoor
open Go.Proofs.Tryz
variable {r:Rg9} {B i:Nat} {cf:Cf} {h:Hs} {W:World}
section
open Go.ChangeShapes Go.WideShapes Go.ChangeAt Go.RowKit
theorem Dec.form {a:Int} {v:Value} (h:Dec a v):∃ k c s t p o:Int,v=pl k c s t p o:=by
 cases h;·exact⟨_,_,_,_,_,_,rfl⟩
 ·exact⟨_,_,_,_,_,_,rfl⟩
 ·exact⟨_,_,_,_,_,_,rfl⟩
 unfold AD;split;·exact⟨_,_,_,_,_,_,rfl⟩
 split;·exact⟨_,_,_,_,_,_,rfl⟩
 exact⟨_,_,_,_,_,_,rfl⟩
end
section
open Go.RowKit
theorem fO (l:List Rg9) {q t:Nat} (a:l[q]?=some r) (b:t<6):(ft l)[q*6+t]?=(rC r)[t]?:=eY rC 6 (λ_=>rfl) l q r a t b
theorem pK (l:List Rg9) (m:l[i]?=some r) (c d:Int):ft (l.set i { r with st:=c,rq:=d })=((ft l).set (i*6+4) (I c)).set (i*6+5) (I d):=by
 have f:=(Jr.1 m).1;apply GR;intro k;by_cases o:k<l.length*6
 ·obtain⟨q,t,n,b,rfl⟩:∃ q t,q<l.length/\t<6/\k=q*6+t:=⟨k/6,k%6,Z,Z,Z⟩;simp only [J5,JU,d_];by_cases e:q=i
  ·subst e;rw [fO _ (List.getElem?_set_self f) b,fO l m b];have:t=0\/t=1\/t=2\/t=3\/t=4\/t=5:=Z;rcases this with rfl|rfl|rfl|rfl|rfl|rfl;·rw [tg Z,tg Z];rfl
   ·rw [tg Z,tg Z];rfl
   ·rw [tg Z,tg Z];rfl
   ·rw [tg Z,tg Z];rfl
   ·rw [tg Z,tm rfl,tm Z];rfl
   rw [tm rfl,tm Z];rfl
  obtain⟨g,a⟩:∃ g,l[q]?=some g:=⟨_,Jq n⟩;have j:(l.set i { r with st:=c,rq:=d })[q]?=some g:=by rw [List.getElem?_set_ne Z];exact a
  rw [fO _ j b,fO l a b,tg Z,tg Z]
 rw [JB (by rw [d_];simp;omega),JB (by simp [d_];omega)]
theorem Inv.mapSet (a:Inv cf h) (g:h.rg[i]?=some r) (f:Rg9->Rg9):(h.rg.map λx=>if x.base=r.base then f x else x)=h.rg.set i (f r):=by
 have j:=(Jr.1 g).1;apply GR;intro k;rw [J6];by_cases e:k=i;·subst e;rw [g,List.getElem?_set_self j];simp
 rw [List.getElem?_set_ne Z];cases o:h.rg[k]? with
 | none=>rfl
 | some q =>
  have l:q.base≠r.base:=λt=>by
   have m:=JA o;have:=a.one m (JA g) t;subst this;obtain⟨p,b⟩:=Jr.1 o;obtain⟨s,c⟩:=Jr.1 g;rcases Kv k i with d|d|d;·have:=Lq.1 a.apart k i p s d;rw [b,c] at this;have n:=a.rgs q m;unfold Rg9.ext at this n;omega
   ·exact e d
   have:=Lq.1 a.apart i k s p d;rw [b,c] at this;have n:=a.rgs q m;unfold Rg9.ext at this n;omega
  simp [l]
theorem Sh.setRange {x V} (a:Sh B x cf h V) {G cap} (l:x.rv=Vl G h.rg.length cap) (m:h.rg[i]?=some r) (b d:Int) :
  Sh B x cf { h with rg:=h.rg.set i { r with st:=b,rq:=d } } ((V.setCell ⟨G,i*6+4,none⟩ (I b)).setCell ⟨G,i*6+5,none⟩ (I d))/\Ky (· = 106) V ((V.setCell ⟨G,i*6+4,none⟩ (I b)).setCell ⟨G,i*6+5,none⟩ (I d))/\V.grownBy ((V.setCell ⟨G,i*6+4,none⟩ (I b)).setCell ⟨G,i*6+5,none⟩ (I d)) (some G):=by
 have f:=a.rg;rw [l] at f;have o:=(Jr.1 m).1;obtain⟨q,j⟩:=dz f;have e:V.grownBy ((V.setCell ⟨G,i*6+4,none⟩ (I b)).setCell ⟨G,i*6+5,none⟩ (I d)) (some G):=au (au (ao V G) _ _) _ _;have k:Ky (· = 106) V _:=Ky.grown j rfl e;have p:=dZ (dZ f (i*6+4) (by rw [d_];omega) (I b)) (i*6+5) (by rw [JU,d_];omega) (I d);refine⟨⟨k.cells _ _ _ _ a.box al,a.bp,a.bq,λg e=>a.bg g (di (a.sp.qEq k al) e),a.ds.ky k al,a.sp.ky k al al al,ai a.sl k al,ai a.wt k al,λc n=>⟨(a.wm c n).1.ky k al,(a.wm c n).2.ky k al⟩,?_,ai a.ro k al,ai a.rl k al⟩,k,e⟩;show World.ownsRow _ B 106 6 x.rv _ _;rw [l,pK h.rg m,JU];exact p
theorem GF {x W0} {a:World} (b:Sh B x cf h W) {G cap n} (d:x.rv=Vl G n cap) (k:Bk B x.Q W0 W) (e:B<=W0.heap.size) (g:W.grownBy a (some G)):Bk B x.Q W0 a:=by
 obtain⟨m,f⟩:=b.qrow;have i:x.rv.ownBlock=some G:=by rw [d];rfl
 obtain⟨j,c,l⟩:=aD b.rg i;exact k.trans (Bk.ofGrown l f (.inr (.inr (.inr (.inl rfl)))) al al j (Jp e k.bel.size) g)
theorem pu (W:World) (B:Nat) (v:Value) (l m:List Nat) (x:Addr) (c:Nat) (a:W.ownsRow B 22 1 v l.length (Us l)) (t:∀ j u,(Us m)[j]?=some u->W.cell? (x.add j)=some u) (F:0<m.length) (L:l.length+m.length<=100000) {w:Value} {G:World}
  (e:(Builtin.append_ #[33,33] 33 #[v,.slice (some x) m.length c]).run prog W=.ok w G):w.ownBlock=v.ownBlock\/w.ownBlock=some W.heap.size:=by
 obtain⟨s,d,o,f,p⟩:=zr jB;have b:(Us m).length=m.length*s.size:=by rw [f,gt,Nat.mul_one]
 rcases a.2 with ⟨rfl,M⟩|⟨g,i,y,rfl,N,K,O,Q,R,S⟩
 ·right;have q:=run_append_nil (P:=prog) W 33 33 22 s _ underlying33 d o x m.length c (Us m) b t F Z (by rw [p];omega);rw [q] at e;injection e with r _;rw [<-r];rfl
 by_cases k:l.length+m.length<=i
 ·left;have z:∀ u∈Us m,u.oneCell'=true:=λu A=>by
   simp only [Us,JE] at A;obtain⟨n,_,rfl⟩:=A;rfl
  have q:=run_append_room (P:=prog) W 33 33 22 s underlying33 d g l.length i y K x m.length c (Us m) b t z k (by rw [f,gt];omega);rw [q] at e;injection e with r _;rw [<-r];rfl
 right;have n:∀ j u,(Us l)[j]?=some u->W.cell? ((⟨g,0,none⟩:Addr).add j)=some u:=a.cells (g:=g) rfl;have q:=run_append_grow (P:=prog) W 33 33 22 s _ underlying33 d o ⟨g,0,none⟩ l.length i (Us l) (by rw [f];exact a.1) n x m.length c (Us m) b t Z Z (growslice_fits Z (by rw [p];omega));rw [q] at e;injection e with r _;rw [<-r];rfl
theorem wM (B x cf h) (i:Nat) (r:Rg9) (W) (hs:Sh B x cf h W) (c:nl x) (k:B<=W.heap.size) (f:Inv cf h) (t:kz cf) (n2:1<=cf.large) (hr:h.rg[i]?=some r) (g8:r.st=1) (l1:h.rg.length<=900) (i4:h.rel.length<=900) (l2:h.row.length<=900) :
  Calls prog 95 #[.pointer (some ⟨x.P,0,none⟩),.int .i64 (-1),.int .i64 (i:Nat)] W λe W'=>e=.returned (.tuple #[])/\∃ a:Sm,a.P=x.P/\a.Q=x.Q/\nl a/\Sh B a cf (aZ cf h r) W'/\Bk B x.Q W W':=by
 have n3:=(Jr.1 hr).1;have n:=f.rgs r (JA hr);have o:r.base=(r.first+r.guards)*1024:=rfl;have p:r.ext=r.guards+r.pages+1:=rfl;obtain⟨ra,rc,a⟩:=aG hs.rg;obtain⟨G,rfl⟩:=cw (a▸hs.rg) Z;obtain⟨d0,d1,d2,d3,d4,d5⟩:=hs.range a hr;rw [g8] at d4;have w:W.cell? ⟨x.P,9,none⟩=some (.slice (some ⟨G,0,none⟩) h.rg.length rc):=by rw [<-a];exact hs.cell 9 _ rfl
 have i5:=H (ij cf h r);have l3:=H (f.mapSet hr (λx=>{ x with st:=2,rq:=0 }));obtain⟨a4,b⟩:∃ a4,aZ cf h r=a4:=⟨_,rfl⟩;rw [b];have g1:=H b;have a5:=H hr;have R:=H k;have HD:=H t;have HI:=H f;have g2:=H c;have l4:=H a;have q:D W (W.alloc (.cells #[.int .u64 (r.base:Nat),.int .i64 (r.first:Nat),.int .i64 (r.ext:Nat),.int .i64 (r.pages:Nat),.int .i64 1,.int .i64 r.rq] 106)):=(Jn _ _).alloc (Jo _) _;have d:=H (hs.below q);have l:=H (hs.bkB (Bk.refl _ _ _) k q);have j:=H (av W (.cells #[.int .u64 (r.base:Nat),.int .i64 (r.first:Nat),.int .i64 (r.ext:Nat),.int .i64 (r.pages:Nat),.int .i64 1,.int .i64 r.rq] 106));have i6:=H (show W.heap.size≠G by
  obtain⟨_,cg,a6⟩:=aD (g:=G) hs.rg (by rw [a];rfl);have:=ah a6;omega)
 have s:r.base/1024=r.first+r.guards:=Z
 have n4:(i:Int)<(h.rg.length:Int):=Z;have DP:=H (show ∀ V,Sx x.T x.Q 283 (cf.bud:Nat) h.m V->Calls prog 148 #[.pointer (some ⟨x.T,0,none⟩),.int .i64 ((r.base:Int)/1024),.int .i64 (r.pages:Nat)] V λe w'=>e=.returned (.tuple #[])/\Sx x.T x.Q 283 (cf.bud:Nat) (bQ h.m (r.first+r.guards) r.pages) w'/\Sf x.Q V w' from λV hV=>by
  rw [show (r.base:Int)/1024=((r.first+r.guards:Nat):Int) by omega];exact sd x.T x.Q 283 (cf.bud:Nat) h.m (r.first+r.guards) r.pages V hV Z Z)
 have n5:r.base<1000000:=Z;have n6:IntKind.u64.wrap ((r.base:Int)/1024)=(r.base:Int)/1024:=ei _ Z Z;have n7:IntKind.i64.wrap ((r.base:Int)/1024)=(r.base:Int)/1024:=by rw [C6];omega
 have SS:=H (show ∀ (V:World) {v:Hs},Sh B x cf v V->V.heap[W.heap.size]?=some (.cells #[.int .u64 (r.base:Nat),.int .i64 (r.first:Nat),.int .i64 (r.ext:Nat),.int .i64 (r.pages:Nat),.int .i64 1,.int .i64 r.rq] 106)->V.cell? ⟨x.P,6,none⟩=some (.pointer (some ⟨x.T,0,none⟩))/\V.cell? ⟨W.heap.size,0,none⟩=some (.int .u64 (r.base:Nat))/\V.cell? ⟨W.heap.size,3,none⟩=some (.int .i64 (r.pages:Nat)) from λV v hV v=>⟨hV.cell 6 _ rfl,by simp [World.cell?,v],by simp [World.cell?,v]⟩);clear hs c k f t b hr q n o p a s;go_enter func95,ntmps95;go_wp2;generalize W.alloc _=V at d l j ⊢;generalize W.heap.size=Y at j i6 SS ⊢;refine rh (S:=λW'=>W'.cell? ⟨x.P,6,none⟩=some (.pointer (some ⟨x.T,0,none⟩))/\W'.cell? ⟨Y,0,none⟩=some (.int .u64 (r.base:Nat))/\W'.cell? ⟨Y,3,none⟩=some (.int .i64 (r.pages:Nat))) ?_;have f:=SS.out _ (d.below (Jn _ _).drew) j.out;refine pk 0 (.pointer (some ⟨x.P,0,none⟩)) f ?_;refine pk 1 (.pointer (some ⟨x.P,0,none⟩)) f ?_;refine pk 2 (.pointer (some ⟨x.P,6,none⟩)) f ?_;refine pz 3 (.pointer (some ⟨x.T,0,none⟩)) f ?_;refine pk 4 (.pointer (some ⟨Y,0,none⟩)) f ?_;refine pz 5 (.int .u64 (r.base:Nat)) f ?_;refine pz 6 (.int .u64 ((r.base:Int)/1024)) f ?_;refine pz 7 (.int .i64 ((r.base:Int)/1024)) f ?_;refine pk 8 (.pointer (some ⟨Y,3,none⟩)) f ?_;refine pz 9 (.int .i64 (r.pages:Nat)) f ?_;refine po 10 λK' T=>?_;go_simp;refine (DP.out _ ((d.below (Jn _ _).drew).sp)).mono ?_;rintro e V1 ⟨rfl,t,f1⟩;have S1:=H ((d.below (Jn _ _).drew).space (Jp R.out l.bel.size) _ t f1);have B1:=H ((d.below (Jn _ _).drew).bkS (d.bkB l.out R.out (Jn _ _).drew) R.out f1);have n:=H ((f1.ky (d.below (Jn _ _).drew).sp).cells _ _ _ _ j.out al);refine T.out _ _ ⟨SS.out _ S1.out n.out,?_⟩;clear f;clear T K';refine bY ?_;obtain⟨h1,c⟩:∃ h1:Hs,h1={ h with m:=bQ h.m (r.first+r.guards) r.pages }:=⟨_,rfl⟩;rw [<-c] at S1;have b:h1.rg=h.rg:=by rw [c]
 have e1:=H c;have a:x.rv=.slice (some ⟨G,0,none⟩) h1.rg.length rc:=by rw [b];exact l4.out
 obtain⟨S2,y,o⟩:=S1.setRange a (by rw [b];exact a5.out) 2 0;have B2:=H (GF S1.out a B1.out R.out o);have K:=H (show _=some (.cells #[.int .u64 (r.base:Nat),.int .i64 (r.first:Nat),.int .i64 (r.ext:Nat),.int .i64 (r.pages:Nat),.int .i64 1,.int .i64 r.rq] 106) from (o.block Y (ah n.out) (by simp;exact i6.out)).trans n.out);have S2:=H S2;have z:V1.cell? ⟨x.P,9,none⟩=some (.slice (some ⟨G,0,none⟩) h.rg.length rc):=by rw [<-b,<-a];exact S1.cell 9 _ rfl
 have A:=(S1.range a (by rw [b];exact a5.out)).2.2.2.2.1;have F:=(S1.range a (by rw [b];exact a5.out)).2.2.2.2.2;have v:∀ k,V1.frozen? ⟨G,k,none⟩=false:=λk=>by
  obtain⟨_,cg,a6⟩:=aD (g:=G) S1.rg (by rw [a];rfl);simp [World.frozen?,a6]
 have f4:=v (i*6+4);obtain⟨p,L⟩:∃ p:Ky (· = 106) V1 (V1.setCell ⟨G,i*6+4,none⟩ (.int .i64 2)),True:=⟨by
  obtain⟨_,cg,a6⟩:=aD (g:=G) S1.rg (by rw [a];rfl);exact Ky.grown a6 rfl (au (ao V1 G) _ _),trivial⟩
 have q:(V1.setCell ⟨G,i*6+4,none⟩ (.int .i64 2)).cell? ⟨x.P,9,none⟩=some (.slice (some ⟨G,0,none⟩) h.rg.length rc):=by
  have:=p.cells _ _ _ _ S1.box al;rw [<-b,<-a];simp [World.cell?,this,gx]
 have s:(V1.setCell ⟨G,i*6+4,none⟩ (.int .i64 2)).cell? ⟨G,i*6+5,none⟩=some (.int .i64 r.rq):=by
  have ho:=S1.rg;rw [a] at ho;exact be (dZ ho (i*6+4) (by rw [d_,b];omega) (.int .i64 2)) (i*6+5) _ (by rw [List.getElem?_set_ne Z,fO h1.rg (by rw [b];exact a5.out) Z];rfl)
 have f54:(V1.setCell ⟨G,i*6+4,none⟩ (.int .i64 2)).frozen? ⟨G,i*6+5,none⟩=false:=by
  have ho:=S1.rg;rw [a] at ho;obtain⟨cg,a6⟩:=dz (dZ ho (i*6+4) (by rw [d_,b];omega) (.int .i64 2));simp [World.frozen?,a6]
 clear c b a y o v p L S1 B1 n t f1 d l j w d0 d1 d2 d3 d4 d5 F;obtain⟨b,a⟩:∃ b:Hs,b={ h1 with rg:=h1.rg.set i { r with st:=2,rq:=0 } }:=⟨_,rfl⟩;rw [<-a] at S2;have l5:=H (show zd h r={ b with row:=b.row++[r.base] } by
  rw [a,e1.out];unfold zd;rw [l3.out])
 have d:b.row=h.row:=by rw [a,e1.out]
 have j:b.rel=h.rel:=by rw [a,e1.out]
 have n8:b.row.length<=900:=by rw [d];exact l2
 have n0:b.rel.length<=900:=by rw [j];exact i4
 have c2:=H d;have l6:=H j;have l:b.rg.length<=900:=by rw [a,JU,e1.out];exact l1
 have n9:=H (show r.base∉h.rel from λc=>by
  have n:=HI.rel r.base c;have c:=JA a5.out;have b:=n.2.2.2 r c;have h3:=wy HI.out c;have h4:=HI.rgs r c;omega)
 go_upto_region 19 with fail
 generalize (V1.setCell ⟨G,i*6+4,none⟩ (.int .i64 2)).setCell ⟨G,i*6+5,none⟩ (.int .i64 0)=V2 at S2 B2 K ⊢;clear z A f4 q s f54 a d j;obtain⟨oa,oc,d⟩:=aG S2.ro;have w:V2.cell? ⟨x.P,10,none⟩=some (.slice oa b.row.length oc):=by rw [<-d];exact S2.cell 10 _ rfl
 have O:V2.cell? ⟨Y,0,none⟩=some (.int .u64 (r.base:Nat)):=by simp [World.cell?,K.out]
 have q:D V2 (V2.alloc (.cells #[.int .u64 (r.base:Nat)] 22)).drew:=((Jn _ _).alloc (Jo _) _).drew;have S3:=H (S2.below q);have L:=H (S2.bkB B2.out R.out q);have Y3:=H (ae K.out q);have z:(V2.alloc (.cells #[.int .u64 (r.base:Nat)] 22)).drew.cell? ⟨Y,0,none⟩=some (.int .u64 (r.base:Nat)):=ol q O;have A:(V2.alloc (.cells #[.int .u64 (r.base:Nat)] 22)).drew.cell? ⟨x.P,10,none⟩=some (.slice oa b.row.length oc):=ol q w;have y:∀ j u,(Us [r.base])[j]?=some u->(V2.alloc (.cells #[.int .u64 (r.base:Nat)] 22)).drew.cell? ((⟨V2.heap.size,0,none⟩:Addr).add j)=some u:=fK V2 (.int .u64 (r.base:Nat)) 22 V2.heap.size rfl;obtain⟨v4,w4,o,M,N⟩:=kg _ B x.ov b.row [r.base] _ 1 S3.ro y cd (Jp R.out L.bel.size);have a7:=pu _ B x.ov b.row [r.base] _ 1 S3.ro y bh cd o;rw [d] at o;have o:(Builtin.append_ #[33,33] 33 #[.slice oa b.row.length oc,.slice (some ⟨V2.heap.size,0,none⟩) 1 1]).run prog (V2.alloc (.cells #[.int .u64 (r.base:Nat)] 22)).drew=.ok v4 w4:=o;obtain⟨p,n,l7⟩:=aG M;subst l7;have a2:(b.row++[r.base]).length=b.row.length+1:=bh;have o0:=H a2;rw [a2] at o M a7;have a:Ky (· = 22) _ w4:=Ky.grownO (λP hP=>by obtain ⟨_,c,hc⟩:=aD S3.ro hP;exact⟨c,22,_,hc,rfl⟩) N;have s:w4.heap[x.P]?=some (.cells (gx cf x b.used) 97):=a.cells _ _ _ _ S3.box al;have Q:=a.cells _ _ _ _ Y3.out al;have F:w4.cell? ⟨Y,0,none⟩=some (.int .u64 (r.base:Nat)):=by simp [World.cell?,Q]
 obtain⟨cq,a8⟩:=S3.qrow;have X:=H (L.trans (Bk.ofGrownO (λP hP=>by obtain ⟨h1,c,hc⟩:=aD S3.ro hP;exact⟨h1,c,22,_,hc,.inr (.inr (.inr (.inr (.inl rfl)))),al,al⟩) a8 (Jp R.out L.bel.size) N));have q4:w4.cell? ⟨x.P,10,none⟩=some (.slice oa b.row.length oc):=by rw [<-d];simp [World.cell?,s,gx]
 have f4:w4.frozen? ⟨x.P,10,none⟩=false:=by simp [World.frozen?,s]
 have v:Ky (· = 97) w4 (w4.setCell ⟨x.P,10,none⟩ (.slice p (b.row.length+1) n)):=Ky.grown s rfl (au (ao w4 x.P) 10 (.slice p (b.row.length+1) n));have P5:(w4.setCell ⟨x.P,10,none⟩ (.slice p (b.row.length+1) n)).heap[x.P]?=some (.cells (gx cf { x with rv:=x.rv,ov:=.slice p (b.row.length+1) n,lv:=x.lv } b.used) 97):=by
  simp [World.setCell,Jw,s,gx]
 have S5:=H (show Sh B { x with rv:=x.rv,ov:=.slice p (b.row.length+1) n,lv:=x.lv } cf { b with rg:=b.rg,row:=b.row++[r.base],rel:=b.rel } (w4.setCell ⟨x.P,10,none⟩ (.slice p (b.row.length+1) n)) from
  S3.books ((a.more (λt ht=>.inr (.inr ht))).trans (v.more (λt ht=>.inl ht))) x.rv (.slice p (b.row.length+1) n) x.lv _ _ _ P5 (ai (ai S3.rg a al) v al) (by rw [a2];exact ai M v al) (ai (mH S3.rl N (λg hg a0=>g2.out g a0 hg)) v al))
 have Y5:=H (v.cells _ _ _ _ Q al);have y5:(w4.setCell ⟨x.P,10,none⟩ (.slice p (b.row.length+1) n)).cell? ⟨Y,0,none⟩=some (.int .u64 (r.base:Nat)):=by simp [World.cell?,Y5.out]
 have B5:=H (show Bk B x.Q W (w4.setCell ⟨x.P,10,none⟩ (.slice p (b.row.length+1) n)) from X.trans (Bk.ofGrown s (a.cells _ _ _ _ a8 al) (.inl rfl) al al S3.bp (Jp R.out X.bel.size) (au (ao w4 x.P) 10 (.slice p (b.row.length+1) n))));have i7:=H (show nl { x with rv:=x.rv,ov:=.slice p (b.row.length+1) n,lv:=x.lv } from λg hg a0=>by
  have c3:(Value.slice p (b.row.length+1) n).ownBlock=some g:=hg;rcases a7 with hw|hw;·exact g2.out g (hw.symm.trans c3) a0
  rw [c3] at hw;obtain⟨_,c,hc⟩:=aD S2.rl a0;have:=ah hc;simp at hw;omega)
 clear M N a s Q v P5 a8 a7 a2 X S3 L Y3 q;go_cut [10] (λa w'=>a=.pointer (some ⟨Y,0,none⟩)/\w'=w4.setCell ⟨x.P,10,none⟩ (.slice p (b.row.length+1) n));case first =>
  refine rh (S:=λW'=>W'.cell? ⟨Y,0,none⟩=some (.int .u64 (r.base:Nat))) ?_;have f:=(show _ from O);refine pk 0 (.pointer (some ⟨x.P,0,none⟩)) f ?_;refine pk 1 (.pointer (some ⟨x.P,0,none⟩)) f ?_;refine pk 2 (.pointer (some ⟨x.P,0,none⟩)) f ?_;refine pk 3 (.pointer (some ⟨x.P,10,none⟩)) f ?_;refine pk 5 (.pointer (some ⟨Y,0,none⟩)) f ?_;refine pz 6 (.int .u64 (r.base:Nat)) f ?_;refine ns [4,7] λq a=>?_;rcases (by simpa using a:q=4\/q=7) with a|a
  ·subst a;refine cS λK' T=>?_;go_simp;refine T.out _ _ ⟨f,?_⟩;clear T K';refine po 7 λK' T=>?_
   go_simp;refine T.out _ _ ⟨z,?_⟩;clear f;have f:=z;clear T K';refine gu 8 ?_;refine ge rfl rfl _ _ rfl rfl rfl rfl o ⟨F,?_⟩;clear f;have f:=F;refine pk 9 (.pointer (some ⟨x.P,0,none⟩)) f ?_;refine pk 10 (.pointer (some ⟨x.P,10,none⟩)) f ?_;refine po 11 λK' T=>?_;go_simp;refine T.out _ _ ⟨y5,?_⟩;clear f;clear T K';refine bY ?_;go_wp2_with fail
   go_meet;case rel=>exact ⟨rfl,rfl⟩
  subst a;refine cS λK' T=>?_;go_simp;refine T.out _ _ ⟨z,?_⟩;clear f;have f:=z;clear T K';refine po 4 λK' T=>?_
  go_simp;refine T.out _ _ ⟨f,?_⟩;clear T K';refine gu 8 ?_;refine ge rfl rfl _ _ rfl rfl rfl rfl o ⟨F,?_⟩;clear f;have f:=F;refine pk 9 (.pointer (some ⟨x.P,0,none⟩)) f ?_;refine pk 10 (.pointer (some ⟨x.P,10,none⟩)) f ?_;refine po 11 λK' T=>?_;go_simp;refine T.out _ _ ⟨y5,?_⟩;clear f;clear T K';refine bY ?_;go_wp2_with fail
  go_meet;case rel=>exact ⟨rfl,rfl⟩
 case rest =>
 obtain⟨rfl,rfl⟩:=hcut;clear w A O z F q4 f4 o y d S2 B2 K y5;obtain⟨s,d⟩:∃ s:Sm,s={ x with rv:=x.rv,ov:=.slice p (b.row.length+1) n,lv:=x.lv }:=⟨_,rfl⟩;obtain⟨L,a⟩:∃ L:Hs,L={ b with rg:=b.rg,row:=b.row++[r.base],rel:=b.rel }:=⟨_,rfl⟩;rw [<-d] at S5 i7;rw [<-a] at S5;have M:=H (show s.P=x.P by rw [d]);have c4:=H (show s.Q=x.Q by rw [d]);have h0:=H (show s.ov=.slice p (b.row.length+1) n by rw [d]);have e2:=H (show zd h r=L by rw [l5.out,a]);have c5:=H (show L.row=h.row++[r.base] by rw [a,c2.out]);have g3:=H (show L.rel=h.rel by rw [a,l6.out]);have i8:L.rg.length<=900:=by rw [a];exact l
 generalize w4.setCell ⟨x.P,10,none⟩ (.slice p (b.row.length+1) n)=V5 at S5 B5 Y5 ⊢;have b3:V5.cell? ⟨x.P,10,none⟩=some (.slice p (b.row.length+1) n):=by rw [<-h0.out,<-M.out];exact S5.cell 10 _ rfl
 have e3:V5.cell? ⟨x.P,2,none⟩=some (.int .i64 (cf.large:Nat)):=by rw [<-M.out];exact S5.cell 2 _ rfl
 clear d a l;by_cases b9:cf.large<(h.row++[r.base]).length
 ·have HE:=H (show a4={ zd h r with rg:=(zd h r).rg.filter λx=>x.base≠(h.row++[r.base])[0]?.getD 0,rel:=h.rel++[(h.row++[r.base])[0]?.getD 0],row:=(h.row++[r.base]).tail } by
   rw [<-g1.out,i5.out,tm b9])
  have b4:(cf.large:Int)<(b.row.length:Int)+1:=by
   rw [c2.out];simp at b9;omega
  have j0:decide ((cf.large:Int)<(b.row.length:Int)+1)=true:=zB b4;obtain⟨A,t,d⟩:∃ A t,h.row++[r.base]=A::t:=by
   cases h.row with
   | nil=>exact ⟨_,_,rfl⟩
   | cons a l=>exact ⟨a,l++[r.base],rfl⟩
  have h6:t.length=b.row.length:=by
   have:=congrArg List.length d;rw [c2.out];simp at this;omega
  have o1:1<=t.length:=by rw [h6,c2.out];simp at b9;omega
  have l8:=H d;have v:=H (show a4={ L with rg:=L.rg.filter λx=>x.base≠A,rel:=L.rel++[A],row:=t } by
   rw [HE.out,e2.out,g3.out,d];rfl)
  have l9:=H (show ∀ o∈L.rg,o.base=A->o.st=2 from λo ho hb=>by
   have i1:=HI.fA (JA a5.out) g8 { cf with large:=h.row.length+1 } rfl rfl (Jo _);rw [e2.out] at i1;obtain⟨r0,h7,s0,e0⟩:=(i1.row A).1 (by rw [c5.out,d];simp);have:=i1.one ho h7 (hb.trans e0.symm);rw [this];exact s0)
  have o2:=H (show A<1000000 from by
   have i1:=HI.fA (JA a5.out) g8 { cf with large:=h.row.length+1 } rfl rfl (Jo _);rw [e2.out] at i1;obtain⟨r0,h7,s0,e0⟩:=(i1.row A).1 (by rw [c5.out,d];simp);have h3:=i1.rgs r0 h7;have h4:r0.base=(r0.first+r0.guards)*1024:=rfl;unfold Rg9.ext at h3;omega)
  clear b9 b4 d HE;have a:=S5.ro;rw [h0.out,c5.out,l8.out] at a;have m0:(A::t).length=b.row.length+1:=cd;rw [m0] at a;obtain⟨og,m1⟩:=cw a Z;subst m1;have n1:b.row.length+1<=n:=by
   rcases a.2 with ⟨e,_⟩|⟨q,d,l,e,_,_,h3,_⟩;·simp at e
   simp at e;omega
  have d:=H a;go_wp2;refine rh (S:=λW'=>W'.cell? ⟨x.P,10,none⟩=some (.slice (some ⟨og,0,none⟩) (b.row.length+1) n)/\W'.cell? ⟨x.P,2,none⟩=some (.int .i64 (cf.large:Nat))) ?_;have f:=(show _/\_ from ⟨b3,e3⟩);refine pk 0 (.pointer (some ⟨x.P,0,none⟩)) f ?_;refine pk 1 (.pointer (some ⟨x.P,0,none⟩)) f ?_;refine pk 2 (.pointer (some ⟨x.P,10,none⟩)) f ?_;refine pz 3 (.slice (some ⟨og,0,none⟩) (b.row.length+1) n) f ?_;refine pz 4 (.int .i64 ((b.row.length:Int)+1)) f ?_;refine pk 5 (.pointer (some ⟨x.P,0,none⟩)) f ?_;refine pk 6 (.pointer (some ⟨x.P,0,none⟩)) f ?_;refine pk 7 (.pointer (some ⟨x.P,0,none⟩)) f ?_;refine pk 8 (.pointer (some ⟨x.P,2,none⟩)) f ?_;refine pz 9 (.int .i64 (cf.large:Nat)) f ?_;refine pz 10 (.bool true) f ?_;refine bY ?_;have S6:=H (S5.below (Jn _ _).drew);have B6:=H (show Bk B s.Q W V5.drew from S5.bkB (c4.out▸B5.out) R.out (Jn _ _).drew);have K:=H (ai d.out (Ky.below (Jn _ V5).drew:Ky (λ_=>False) _ _) (λe=>e));clear f b3 e3 S5 B5 Y5 d a;have q:V5.drew.cell? ⟨x.P,10,none⟩=some (.slice (some ⟨og,0,none⟩) (b.row.length+1) n):=by rw [<-h0.out,<-M.out];exact S6.cell 10 _ rfl
  have f106:V5.drew.frozen? ⟨x.P,10,none⟩=false:=by rw [<-M.out];exact S6.boxF 10
  have d0:V5.drew.cell? ⟨og,0,none⟩=some (.int .u64 (A:Nat)):=be K.out 0 _ rfl;have O:∀ w:World,(Instr.slice 33 (.slice (some ⟨og,0,none⟩) (b.row.length+1) n) (some (.int .i64 1)) none none).run prog w=.ok (.slice (some ⟨og,1,none⟩) b.row.length (n-1)) w:=λw=>by
   have h:=run_slice_l (P:=prog) w 33 (some ⟨og,0,none⟩) (b.row.length+1) n underlying33 .i64 (1:Int) Z Z;have hs:(sizeOf (prog.elem 33)).run prog w=.ok 1 w:=E;have e:(⟨og,0,none⟩:Addr).add 1=⟨og,1,none⟩:=(by simp [Addr.add]);have a:¬(n=1):=Z;rw [h,hs];simp [sliced,Result.andThen,e,a]
  have y:∀ j u,(Us t)[j]?=some u->V5.drew.cell? ((⟨og,1,none⟩:Addr).add j)=some u:=λj u hj=>by
   rw [Addr.add_mid];exact be K.out (1+j) u (by rw [Nat.add_comm];exact hj)
  obtain⟨v7,w7,Q,d,N⟩:=kg V5.drew V5.drew.heap.size (.slice none 0 0) [] t _ (n-1) ⟨rfl,.inl ⟨rfl,rfl⟩⟩ y cd (Jo _);rw [JF] at d;obtain⟨ta,tc,m2⟩:=aG d;subst m2;rw [h6] at Q d;have z:Below V5.drew.heap.size V5.drew w7:=(Jn _ _).grown N (Jo _) (λr hr=>by simp [Value.ownBlock] at hr);have a:=H (S6.below z);have X:=H (S6.bkB B6.out R.out z);have F:=ol z q;have f107:w7.frozen? ⟨x.P,10,none⟩=false:=by rw [<-M.out];exact a.boxF 10
  have l:Ky (· = 97) w7 (w7.setCell ⟨s.P,10,none⟩ (.slice ta b.row.length tc)):=Ky.grown a.box rfl (au (ao w7 s.P) 10 _);have P8:(w7.setCell ⟨s.P,10,none⟩ (.slice ta b.row.length tc)).heap[s.P]?=some (.cells (gx cf { s with rv:=s.rv,ov:=.slice ta b.row.length tc,lv:=s.lv } L.used) 97):=by rw [a.boxSet];rfl
  have S8:=H (show Sh B { s with rv:=s.rv,ov:=.slice ta b.row.length tc,lv:=s.lv } cf { L with rg:=L.rg,row:=t,rel:=L.rel } (w7.setCell ⟨s.P,10,none⟩ (.slice ta b.row.length tc)) from
   a.books (l.more (λt ht=>.inl ht)) s.rv (.slice ta b.row.length tc) s.lv _ _ _ P8 (ai a.rg l al) (by rw [h6];exact cv (ai d l al) (Jp R.out B6.bel.size)) (ai a.rl l al))
  have B8:=H (a.bkP X.out R.out (au (ao w7 s.P) 10 (.slice ta b.row.length tc)));have e5:=H (show ∀ g,(Value.slice ta b.row.length tc).ownBlock=some g->V5.drew.heap.size<=g/\g<(w7.setCell ⟨s.P,10,none⟩ (.slice ta b.row.length tc)).heap.size from λg hg=>by
   obtain⟨h1,c,hc⟩:=aD d hg;have:=ah hc;have e:(w7.setCell ⟨s.P,10,none⟩ (.slice ta b.row.length tc)).heap.size=w7.heap.size:=(by simp [World.setCell]);omega)
  have j1:=H (show ∀ g,s.lv.ownBlock=some g->g<V5.drew.heap.size from λg hg=>by
   obtain⟨_,c,hc⟩:=aD S6.rl hg;exact ah hc)
  rw [M.out] at B8 e5;have eP:w7.setCell ⟨s.P,10,none⟩ (.slice ta b.row.length tc)=w7.setCell ⟨x.P,10,none⟩ (.slice ta b.row.length tc):=by rw [M.out]
  rw [eP] at S8;clear l P8 eP d N z a X y S6 B6 K;obtain⟨qa,qc,a⟩:=aG S8.rg;obtain⟨N,d⟩:∃ N,L.rg.length=N:=⟨_,rfl⟩;have j2:(w7.setCell ⟨x.P,10,none⟩ (.slice ta b.row.length tc)).cell? ⟨x.P,9,none⟩=some (.slice qa N qc):=by
   have e0:(w7.setCell ⟨x.P,10,none⟩ (.slice ta b.row.length tc)).cell? ⟨s.P,9,none⟩=some s.rv:=S8.cell 9 _ rfl;rw [M.out] at e0;rw [e0,<-d];exact congrArg some a
  have o3:N<=900:=by rw [<-d];exact i8
  have m3:=H a;have HN:=H d;clear a d;go_wp2_with (at_builtin;refine dh rfl (.const (.slice none 0 0)) (.tmp 178) (by with_reducible rfl) rfl rfl rfl Q ?_);obtain⟨z,a⟩:∃ z:Sm,z={ s with rv:=s.rv,ov:=.slice ta b.row.length tc,lv:=s.lv }:=⟨_,rfl⟩;obtain⟨l,d⟩:∃ l:Hs,l={ L with rg:=L.rg,row:=t,rel:=L.rel }:=⟨_,rfl⟩;rw [<-a,<-d] at S8;have b5:=H (show z.P=x.P by rw [a];exact M.out);have g5:=H (show z.Q=s.Q by rw [a]);have j3:=H (show z.ov=.slice ta b.row.length tc by rw [a]);have j4:=H (show z.lv=s.lv by rw [a]);have c6:=H (show z.rv=.slice qa l.rg.length qc by rw [a,d];exact m3.out);have b6:=H (show l.rg=L.rg by rw [d]);have j5:=H (show a4={ l with rg:=l.rg.filter λx=>x.base≠A,row:=l.row,rel:=l.rel++[A] } by rw [v.out,d]);have j6:l.rel.length<=900:=by rw [d];show L.rel.length<=900;rw [g3.out];exact i4
  generalize w7.setCell ⟨x.P,10,none⟩ (.slice ta b.row.length tc)=V8 at S8 B8 e5 j2 ⊢;clear a d q f106 d0 O Q F f107 v;obtain⟨pr,a⟩:∃ pr:Rg9->Bool,pr=λx=>decide (x.base≠A):=⟨_,rfl⟩
  have m5:=H a;rw [<-a] at j5;clear a;go_loopw [12,187] (λv i a=>∃ k:Nat,k<=N/\i=.int .i64 k/\Hid (a.ownsRow V8.heap.size 106 6 v ((l.rg.take k).filter pr).length (ft ((l.rg.take k).filter pr)))/\Hid (D V8 a)) (λ_ i _=>N-(intOf i).toNat);case atStart=>exact ⟨0,Jt _,rfl,H ⟨rfl,.inl ⟨rfl,rfl⟩⟩,H (Jn _ _)⟩
  case round =>
   clear j2;obtain⟨k,hk,rfl,OQ,BQ⟩:=hrel;obtain⟨O,Q,m6⟩:=aG OQ.out;subst m6;by_cases j7:k<N
   ·obtain⟨o,ho⟩:∃ o,l.rg[k]?=some o:=⟨_,Jq (by rw [b6.out,HN.out];exact j7)⟩;obtain⟨gq,rfl⟩:=cw (c6.out▸S8.rg) (by rw [b6.out,HN.out];omega);obtain⟨d0,d1,d2,d3,d4,d5⟩:=(S8.below BQ.out).range c6.out ho;have v:=H (show (l.rg.take (k+1)).filter pr=(l.rg.take k).filter pr++(if pr o then [o] else []) by
     rw [JK,ho,FV];simp only [Lx,List.filter_cons,List.filter_nil])
    have c7:((l.rg.take k).filter pr).length<=900:=by
     have:=A1 pr (l.rg.take k);have b:=List.length_take_le k l.rg;omega
    have a:=l9.out o (by rw [<-b6.out];exact JA ho);generalize (l.rg.take k).filter pr=q at *;have d:pr o=decide (o.base≠A):=(by rw [m5.out]);have X:D wr (wr.alloc (.cells #[.int .u64 (o.base:Nat),.int .i64 (o.first:Nat),.int .i64 (o.ext:Nat),.int .i64 (o.pages:Nat),.int .i64 o.st,.int .i64 o.rq] 106)):=(Jn _ _).alloc (Jo _) _;have K:=H (OQ.alloc (.cells #[.int .u64 (o.base:Nat),.int .i64 (o.first:Nat),.int .i64 (o.ext:Nat),.int .i64 (o.pages:Nat),.int .i64 o.st,.int .i64 o.rq] 106));have B1:=H (aB BQ.out X);by_cases hb:o.base=A
    ·have F:=a hb;have A2:=H (show (if pr o then [o] else [])=[] by rw [d,hb];simp);rw [F] at d4 K B1;rw [hb] at d0 K B1;clear a d ho X;generalize o.first=z1 at *
     generalize o.ext=z2 at *;generalize o.pages=z3 at *;generalize o.rq=z5 at *;clear hb F;go_wp2;go_roundw;(case rel=>exact ⟨k+1,Z,aR,H (by rw [v.out,A2.out,J3];exact K.out),B1⟩);case measure=>(simp [intOf];try omega)
    have A2:=H (show (if pr o then [o] else [])=[o] by rw [d,zB hb];rfl);have a1:(((o.base:Nat):Int) != ((A:Nat):Int))=true:=cd;have b2:Below (wr.alloc (.cells #[.int .u64 (o.base:Nat),.int .i64 (o.first:Nat),.int .i64 (o.ext:Nat),.int .i64 (o.pages:Nat),.int .i64 o.st,.int .i64 o.rq] 106)).heap.size (wr.alloc (.cells #[.int .u64 (o.base:Nat),.int .i64 (o.first:Nat),.int .i64 (o.ext:Nat),.int .i64 (o.pages:Nat),.int .i64 o.st,.int .i64 o.rq] 106)) ((wr.alloc (.cells #[.int .u64 (o.base:Nat),.int .i64 (o.first:Nat),.int .i64 (o.ext:Nat),.int .i64 (o.pages:Nat),.int .i64 o.st,.int .i64 o.rq] 106)).alloc (.cells #[.int .u64 (o.base:Nat),.int .i64 (o.first:Nat),.int .i64 (o.ext:Nat),.int .i64 (o.pages:Nat),.int .i64 o.st,.int .i64 o.rq] 106)):=(Jn _ _).alloc (Jo _) _;have O2:=H (K.alloc (.cells #[.int .u64 (o.base:Nat),.int .i64 (o.first:Nat),.int .i64 (o.ext:Nat),.int .i64 (o.pages:Nat),.int .i64 o.st,.int .i64 o.rq] 106));have B2:=H (aB B1.out b2);obtain⟨v9,w9,e9,o9,g9⟩:=yk _ V8.heap.size (.slice O q.length Q) q o _ 1 O2.out (av (wr.alloc (.cells #[.int .u64 (o.base:Nat),.int .i64 (o.first:Nat),.int .i64 (o.ext:Nat),.int .i64 (o.pages:Nat),.int .i64 o.st,.int .i64 o.rq] 106)) (.cells #[.int .u64 (o.base:Nat),.int .i64 (o.first:Nat),.int .i64 (o.ext:Nat),.int .i64 (o.pages:Nat),.int .i64 o.st,.int .i64 o.rq] 106)) Z B2.size;rw [aA] at e9;have N9:=H (LG o9 (B2.grown g9 B2.size (λr hr=>(aD O2.out hr).1)));have F:=av wr (.cells #[.int .u64 (o.base:Nat),.int .i64 (o.first:Nat),.int .i64 (o.ext:Nat),.int .i64 (o.pages:Nat),.int .i64 o.st,.int .i64 o.rq] 106);have u0:(wr.alloc (.cells #[.int .u64 (o.base:Nat),.int .i64 (o.first:Nat),.int .i64 (o.ext:Nat),.int .i64 (o.pages:Nat),.int .i64 o.st,.int .i64 o.rq] 106)).cell? ⟨wr.heap.size,0,none⟩=some (.int .u64 (o.base:Nat)):=(by simp only [World.cell?,F];rfl);clear a d ho X b2 o9 g9 F;go_wp2_with (at_builtin;refine dh rfl (.tmp 200) (.tmp 202) (by with_reducible rfl) rfl rfl rfl e9 ?_);go_roundw;(case rel=>exact ⟨k+1,Z,aR,H (by rw [v.out,A2.out];exact N9.1),H N9.2⟩);case measure=>(simp [intOf];try omega)
   obtain rfl:k=N:=Z;have m7:=H (show l.rg.take k=l.rg from JN (by rw [b6.out,HN.out];exact Jo _));rw [m7.out] at OQ ⊢;obtain⟨K,c7⟩:∃ K,(l.rg.filter pr).length=K:=⟨_,rfl⟩;rw [c7] at OQ ⊢;have o5:=H c7;have a1:=H (S8.below BQ.out);have j8:=H (show Bk B z.Q W wr from S8.bkB (g5.out▸B8.out) R.out BQ.out);have q9:wr.cell? ⟨x.P,9,none⟩=some z.rv:=(by rw [<-b5.out];exact a1.cell 9 _ rfl);rw [c6.out] at q9;have f9:wr.frozen? ⟨x.P,9,none⟩=false:=(by rw [<-b5.out];exact a1.boxF 9);have c8:Ky (· = 97) wr (wr.setCell ⟨z.P,9,none⟩ (.slice O K Q)):=Ky.grown a1.box rfl (au (ao wr z.P) 9 (.slice O K Q));have j9:(wr.setCell ⟨z.P,9,none⟩ (.slice O K Q)).heap[z.P]?=some (.cells (gx cf { z with rv:=.slice O K Q,ov:=z.ov,lv:=z.lv } l.used) 97):=(by rw [a1.boxSet];rfl);have a9:=H (show Sh B { z with rv:=.slice O K Q,ov:=z.ov,lv:=z.lv } cf { l with rg:=l.rg.filter pr,row:=l.row,rel:=l.rel } (wr.setCell ⟨z.P,9,none⟩ (.slice O K Q)) from
    a1.books (c8.more (λt ht=>.inl ht)) (.slice O K Q) z.ov z.lv _ _ _ j9 (by rw [c7];exact cv (ai OQ.out c8 al) (Jp R.out B8.bel.size)) (ai a1.ro c8 al) (ai a1.rl c8 al))
   have h9:=H (a1.bkP j8.out R.out (au (ao wr z.P) 9 (.slice O K Q)));have eP:wr.setCell ⟨z.P,9,none⟩ (.slice O K Q)=wr.setCell ⟨x.P,9,none⟩ (.slice O K Q):=(by rw [b5.out]);rw [eP] at a9 h9;have m8:(wr.setCell ⟨x.P,9,none⟩ (.slice O K Q)).heap.size=wr.heap.size:=(by simp [World.setCell]);obtain⟨a,X⟩:∃ a:Sm,a={ z with rv:=.slice O K Q,ov:=z.ov,lv:=z.lv }:=⟨_,rfl⟩;obtain⟨d,b8⟩:∃ d:Hs,d={ l with rg:=l.rg.filter pr,row:=l.row,rel:=l.rel }:=⟨_,rfl⟩;rw [<-X,<-b8] at a9;have v:=H (show a.P=x.P by rw [X];exact b5.out);have d6:=H (show a.Q=z.Q by rw [X]);have d7:a.ov=.slice ta b.row.length tc:=(by rw [X];exact j3.out);have d8:a.lv=s.lv:=(by rw [X];exact j4.out);have k0:=H (show a4={ d with rg:=d.rg,row:=d.row,rel:=d.rel++[A] } by rw [j5.out,b8]);have m9:d.rel.length<=900:=(by rw [b8];exact j6);obtain⟨la,lc,i0⟩:=aG a9.rl;have o6:(wr.setCell ⟨x.P,9,none⟩ (.slice O K Q)).cell? ⟨x.P,11,none⟩=some (.slice la d.rel.length lc):=by
    have e0:(wr.setCell ⟨x.P,9,none⟩ (.slice O K Q)).cell? ⟨a.P,11,none⟩=some a.lv:=a9.cell 11 _ rfl;rw [v.out,i0] at e0;exact e0
   have i2:Below (wr.setCell ⟨x.P,9,none⟩ (.slice O K Q)).heap.size (wr.setCell ⟨x.P,9,none⟩ (.slice O K Q)) ((wr.setCell ⟨x.P,9,none⟩ (.slice O K Q)).alloc (.cells #[.int .u64 (A:Nat)] 22)):=(Jn _ _).alloc (Jo _) _;have F:=H (a9.below i2);have e6:=H (show Bk B a.Q W _ from a9.bkB (d6.out▸h9.out) R.out i2);have y:∀ j u,(Us [A])[j]?=some u->((wr.setCell ⟨x.P,9,none⟩ (.slice O K Q)).alloc (.cells #[.int .u64 (A:Nat)] 22)).cell? ((⟨(wr.setCell ⟨x.P,9,none⟩ (.slice O K Q)).heap.size,0,none⟩:Addr).add j)=some u:=fK _ (.int .u64 (A:Nat)) 22 _ rfl;obtain⟨o8,q,c0,e8,g0⟩:=kg _ B a.lv d.rel [A] _ 1 F.rl y cd (Jp R.out e6.bel.size);have a7:=pu _ B a.lv d.rel [A] _ 1 F.rl y bh cd c0;rw [i0] at c0;obtain⟨na,nc,k1⟩:=aG e8;subst k1;have a2:(d.rel++[A]).length=d.rel.length+1:=bh;rw [a2] at c0 e8 a7;have c0:(Builtin.append_ #[33,33] 33 #[.slice la d.rel.length lc,.slice (some ⟨wr.heap.size,0,none⟩) 1 1]).run prog ((wr.setCell ⟨x.P,9,none⟩ (.slice O K Q)).alloc (.cells #[.int .u64 (A:Nat)] 22))=.ok (.slice na (d.rel.length+1) nc) q:=(by rw [<-m8];exact c0);have a3:Ky (· = 22) _ q:=Ky.grownO (λP hP=>by obtain ⟨_,c,hc⟩:=aD F.rl hP;exact⟨c,22,_,hc,rfl⟩) g0;have c1:q.heap[a.P]?=some (.cells (gx cf a d.used) 97):=a3.cells _ _ _ _ F.box al;obtain⟨cq,a8⟩:=F.qrow;have i3:=H (e6.trans (Bk.ofGrownO (λP hP=>by obtain ⟨h1,c,hc⟩:=aD F.rl hP;exact⟨h1,c,22,_,hc,.inr (.inr (.inr (.inr (.inl rfl)))),al,al⟩) a8 (Jp R.out e6.bel.size) g0));have p0:q.cell? ⟨x.P,11,none⟩=some (.slice la d.rel.length lc):=(by rw [<-i0,<-v.out];simp [World.cell?,c1,gx]);have f13:q.frozen? ⟨x.P,11,none⟩=false:=(by rw [<-v.out];simp [World.frozen?,c1]);have d9:Ky (· = 97) q (q.setCell ⟨a.P,11,none⟩ (.slice na (d.rel.length+1) nc)):=Ky.grown c1 rfl (au (ao q a.P) 11 _);have k2:(q.setCell ⟨a.P,11,none⟩ (.slice na (d.rel.length+1) nc)).heap[a.P]?=some (.cells (gx cf { a with rv:=a.rv,ov:=a.ov,lv:=.slice na (d.rel.length+1) nc } d.used) 97):=by
    simp [World.setCell,Jw,c1,gx]
   have k6:=H (show Sh B { a with rv:=a.rv,ov:=a.ov,lv:=.slice na (d.rel.length+1) nc } cf { d with rg:=d.rg,row:=d.row,rel:=d.rel++[A] } (q.setCell ⟨a.P,11,none⟩ (.slice na (d.rel.length+1) nc)) from
    F.books ((a3.more (λt ht=>.inr (.inr ht))).trans (d9.more (λt ht=>.inl ht))) a.rv a.ov (.slice na (d.rel.length+1) nc) _ _ _ k2 (ai (ai F.rg a3 al) d9 al) (ai (mH F.ro g0 (λg hg a0=>by
     rw [d7] at hg;rw [d8] at a0;have h1:=(e5.out g hg).1;have b:=j1.out g a0;omega)) d9 al) (by rw [a2];exact ai e8 d9 al))
   have k7:=H (i3.trans (Bk.ofGrown c1 (a3.cells _ _ _ _ a8 al) (.inl rfl) al al F.bp (Jp R.out i3.bel.size) (au (ao q a.P) 11 (.slice na (d.rel.length+1) nc))));have k9:=H (show nl { a with rv:=a.rv,ov:=a.ov,lv:=.slice na (d.rel.length+1) nc } from λg hg a0=>by
    have c3:a.ov.ownBlock=some g:=hg;have g6:(Value.slice na (d.rel.length+1) nc).ownBlock=some g:=a0;rw [d7] at c3;have h1:=e5.out g c3;rcases a7 with hw|hw;·rw [g6,d8] at hw;have b:=j1.out g hw.symm;omega
    rw [g6] at hw;simp at hw;have:=BQ.size;omega)
   have eQ:q.setCell ⟨a.P,11,none⟩ (.slice na (d.rel.length+1) nc)=q.setCell ⟨x.P,11,none⟩ (.slice na (d.rel.length+1) nc):=(by rw [v.out]);rw [eQ] at k6 k7;have g6:=H (show a.Q=x.Q by rw [d6.out,g5.out];exact c4.out);clear c8 j9 c7 e8 g0 a3 c1 a8 d9 k2 a7 a2 i2 y F e6 i3 a9 h9 a1 j8 S8 B8 eP eQ X b8;go_wp2_with (at_builtin;refine dh rfl (.tmp 213) (.tmp 215) (by with_reducible rfl) rfl rfl rfl c0 ?_);go_end0;rw [k0.out];exact⟨rfl,{ a with rv:=a.rv,ov:=a.ov,lv:=.slice na (d.rel.length+1) nc },v.out,g6.out,k9.out,k6.out,g6.out▸k7.out⟩
 have HE:=H (show a4=L by rw [<-g1.out,i5.out,tg b9,e2.out]);have b4:¬((cf.large:Int)<(b.row.length:Int)+1):=by
  rw [c2.out];simp at b9;omega
 have j0:decide ((cf.large:Int)<(b.row.length:Int)+1)=false:=t5 b4;go_wp2;refine rh (S:=λW'=>W'.cell? ⟨x.P,10,none⟩=some (.slice p (b.row.length+1) n)/\W'.cell? ⟨x.P,2,none⟩=some (.int .i64 (cf.large:Nat))) ?_;have f:=(show _/\_ from ⟨b3,e3⟩);refine pk 0 (.pointer (some ⟨x.P,0,none⟩)) f ?_;refine pk 1 (.pointer (some ⟨x.P,0,none⟩)) f ?_;refine pk 2 (.pointer (some ⟨x.P,10,none⟩)) f ?_;refine pz 3 (.slice p (b.row.length+1) n) f ?_;refine pz 4 (.int .i64 ((b.row.length:Int)+1)) f ?_;refine pk 5 (.pointer (some ⟨x.P,0,none⟩)) f ?_;refine pk 6 (.pointer (some ⟨x.P,0,none⟩)) f ?_;refine pk 7 (.pointer (some ⟨x.P,0,none⟩)) f ?_;refine pk 8 (.pointer (some ⟨x.P,2,none⟩)) f ?_;refine pz 9 (.int .i64 (cf.large:Nat)) f ?_;refine pz 10 (.bool false) f ?_;refine bY ?_;have S6:=H (S5.below (Jn _ _).drew);have B6:=H (show Bk B x.Q W _ from c4.out▸S5.bkB (c4.out▸B5.out) R.out (Jn _ _).drew);clear f b3 e3;go_wp2;go_end0;rw [HE.out];exact⟨rfl,s,M.out,c4.out,i7.out,S6.out,B6.out⟩
end
section
open Go.RowKit Go.Maps
theorem Ie (n:Nat) (h:n<=1048576) (w:World):(Instr.makeSlice 52 (I (n:Int)) (I (n:Int))).run prog w=.ok (Vl w.heap.size n n) (w.alloc (.cells (madeCells #[Value.int .u8 0] n) 5)) :=
 run_make_row' 52 5 (.int .u8 0) 1 underlying52 E rfl .i64 .i64 n Z Z w
theorem Aq (n:Nat) (w:World):RowV (w.alloc (.cells (madeCells #[Value.int .u8 0] n) 5)) w.heap.size 5 (Ns .u8 (List.replicate n 0)):=by
 rw [nW];exact⟨_,av w _,bh,λi a=>bh⟩
theorem Hp.setQ {y d W'} (i:Hp B y d cf h W) {c:Nat} (v:c<12) {mix fifo} (q:Qr W' (y.qm c) (y.qr c) (y.qg c) (y.qq c) cf.fifo mix fifo) (b:But (Qs (y.qr c) (y.qg c) (y.qq c)) W W') :
  Hp B y d cf { h with mx:=er h.mx c mix,ff:=er h.ff c fifo } W'/\Bi B W W':=by
 have O:=i.wt c v;have bq:=i.ap.bq c v;have z:∃ x,W.heap[y.qr c]?=some (.cells x 3):=by obtain ⟨x,u,_⟩:=O.mx.2;exact⟨x,u⟩
 have m:∃ x,W.heap[y.qq c]?=some (.cells x 3):=by obtain ⟨ps,o,S,_,⟨x,u,_⟩,_⟩:=O.qu;exact⟨x,u⟩
 have j:∃ x,W.heap[y.qg c]?=some (.cells x 179):=by obtain ⟨ps,o,S,u,_⟩:=O.qu;exact⟨_,u⟩
 obtain⟨x1,z⟩:=z;obtain⟨x2,m⟩:=m;obtain⟨x3,j⟩:=j;have T:∀ g F t f,W.heap[g]?=some (.cells F t f)->¬(t=3\/t=179)->¬Qs (y.qr c) (y.qg c) (y.qq c) g:=λg F t f l A n=>by
  rcases n with e|e|e;·rw [e,z] at l;cases l;exact A (.inl rfl)
  ·rw [e,j] at l;cases l;exact A (.inr rfl)
  rw [e,m] at l;cases l;exact A (.inl rfl)
 have V:∀ g G K,W.heap[g]?=some (.map G K)->¬Qs (y.qr c) (y.qg c) (y.qq c) g:=λg G K l n=>by
  rcases n with e|e|e;·rw [e,z] at l;cases l
  ·rw [e,j] at l;cases l
  rw [e,m] at l;cases l
 have k:Ky (λt=>t=3\/t=179) W W':=⟨b.os,b.tape,b.output,b.size,λg F t f l A=>by rw [b.block g (ah l) (T g F t f l A)];exact l⟩;have L:Below B W W':=⟨b.os,b.tape,b.output,b.size,λg l=>b.block g (Ju l i.bW) (λn=>by rcases n with e|e|e <;> omega)⟩;have Y:W'.heap[y.M]?=W.heap[y.M]?:=by
  obtain⟨a,⟨G,K,w,_⟩,_⟩:=i.sp.map;exact b.block _ (ah w) (V _ _ _ w)
 have hR:W'.heap[y.R]?=W.heap[y.R]?:=by
  obtain⟨G,K,w⟩:=i.mp.typ;exact b.block _ (ah w) (V _ _ _ w)
 refine⟨⟨i.ap,Jp i.bW L.size,i.box.ky k al,i.ds.belowB L i.ap.da,i.sp.ky k al Y,i.pg.ky k al,i.bf,
 λc s v P=>k.cells _ _ _ _ (i.sl c s v P) al,λc s v P=>cZ (i.rw c s v P) k al,λa s' j' p Q R=>k.cells _ _ _ _ (i.sm a s' j' p Q R) al,
 λa p=>?_,i.mp.same hR,i.lo,λr hr=>by obtain ⟨g,u,w,h3⟩:=i.lb r hr;exact⟨g,u,w,k.cells _ _ _ _ h3 al⟩,i.li,i.ro.ky k al,ai i.rl k al,i.rr,i.tb.belowB L i.ap.b0⟩,L,k.more (λt e=>by rcases e with rfl|rfl <;> (unfold hI;decide))⟩
 by_cases e:a=c;·subst e;show Qr W' _ _ _ _ _ (er h.mx a mix a) (er h.ff a fifo a);rw [eB,eB];exact q
 show Qr W' _ _ _ _ _ (er h.mx c mix a) (er h.ff c fifo a);rw [gB _ _ e,gB _ _ e];have M:=i.wt a p;obtain⟨i1,i2,i3,i4⟩:=i.ap.iq c a v p (λf=>e f.symm);obtain⟨j1,j2,j3,j4⟩:=i.ap.iq a c p v e;obtain⟨ps,o,S,N,⟨x,X,_⟩,_⟩:=M.qu;refine M.but b (T _ _ _ _ M.mx.1 al) ?_ ?_ ?_
 ·intro n;rcases n with e|e|e;·exact i1 e.symm
  ·obtain⟨xx,u,_⟩:=M.mx.2;rw [e,j] at u;cases u
  exact j2 e
 ·intro n;rcases n with e|e|e;·rw [e,z] at N;cases N
  ·exact i4 e.symm
  rw [e,m] at N;cases N
 intro n;rcases n with e|e|e;·exact i2 e.symm
 ·rw [e,j] at X;cases X
 exact i3 e.symm
theorem GA (cf y d u) (c k:Nat) (e:c<12) (f:k<3):boxF cf y d u (79+c*3+k)=Ij cf y c k:=by
 unfold boxF;rw [tg Z,tg Z,tm Z];have a:(79+c*3+k-79)/3=c:=Z;have b:(79+c*3+k-79)%3=k:=Z;rw [a,b]
theorem Hp.qAt {y d} (a:Hp B y d cf h W) (c:Nat) (b:c<12):W.cell? ⟨y.P,79+c*3+2,none⟩=some (if cf.mix=0 then .iface 71 (J (y.qg c) 0) else .iface 70 (J (y.qm c) 0)):=by
 refine a.cell _ Z _ ?_;rw [GA cf y d h.used c 2 b Z];rfl
def Ii (B:Nat) (y:Ly) (d:Dy) (cf:Cf) (h:Hs) (c:Nat) (x i:Int) (W:World) (e:Ending) (W':World):Prop:=e=.returned (I (eH cf.fifo (h.mx c) (h.ff c) x i).2.2)/\Hp B y d cf { h with mx:=er h.mx c (eH cf.fifo (h.mx c) (h.ff c) x i).1,ff:=er h.ff c (eH cf.fifo (h.mx c) (h.ff c) x i).2.1 } W'/\Bi B W W'
theorem yX (B y d cf h) (c:Nat) (x dd W) (f:Hp B y d cf h W) (a:(h.mx c).length=cf.mix) (i:kz cf) (g:c<12) (j:cf.mix=0) :
  Calls prog 285 #[J (y.qg c) 0,I x,I dd] W (Ii B y d cf h c x dd W):=by
 refine (Eg _ _ _ _ _ _ _ x dd W (f.wt c g) (by have:=i.fifo;omega) (by rw [a];exact j)).mono ?_;rintro e k ⟨z,rfl,rfl,q,b⟩;exact⟨rfl,f.setQ g q b⟩
theorem Aj (B y d cf h) (c:Nat) (x dd W) (f:Hp B y d cf h W) (a:(h.mx c).length=cf.mix) (g:kz cf) (i:c<12) (j:cf.mix≠0) :
  Calls prog 283 #[J (y.qm c) 0,I x,I dd] W (Ii B y d cf h c x dd W):=by
 refine (G8 _ _ _ _ _ _ _ x dd W (f.wt c i) (λe=>j (by rw [<-a,e];rfl)) (by rw [a];have:=g.mix;omega) (by have:=g.fifo;omega)).mono ?_;rintro e k ⟨z,rfl,rfl,q,b⟩;exact⟨rfl,f.setQ i q b⟩
end
end Go.Proofs.YtdfodlhkdmkfdaaGreatDoor
