import Derived.Test.YtdfodlhkdmkfdaaGreatDoorN26
import Derived.Test.YtdfodlhkdmkfdaaGreatDoorN27
set_option linter.unusedVariables false
set_option linter.unusedSimpArgs false
set_option maxRecDepth 20000
set_option maxHeartbeats 8000000
namespace Go.Proofs.YtdfodlhkdmkfdaaGreatDoor
open Go.Proofs.Tryz
variable {B M P R S c cap dc g k r s w:Nat} {sm:Nat->Nat} {v:Value} {V W W':World} {da:Option Addr} {cf:Cf}
section
open Go.ChangeShapes Go.WideShapes Go.ChangeAt Go.RowKit
theorem lR (c s t) (h:Slot c s t) (w:World) :
  Calls prog 89 #[I c,I s,I t] w λe g=>e=.returned (.tuple #[U ((rs c+s*(pg c+1))*1024+t*sz c),.bool true])/\D w g:=by
 have a:0<=c/\c<12:=⟨h.c0,h.c1⟩;have i:=h.s0;have j:=h.s1;have k:=h.t0;have n:=h.t1;have d:=hidR (dV c);have o:=hidR (jW c);have q:=hidR (pG c s Z Z);have B:=fE a;have u:(sz c==0)=false:=cd;have F:=gz a;have b:=mo a;have v:4<=sl c/\sl c<=64:=⟨b.1,b.2.1⟩;have G:1<=rs c/\rs c<=361:=by have:=za c;rw [lu a] at this ⊢;have:=jx c.toNat;omega
 have K:0<=s*(pg c+1)/\s*(pg c+1)<=25:=by
  have:pg c=1\/pg c=2\/pg c=3\/pg c=4:=Z;rcases this with e|e|e|e <;> rw [e] <;> omega
 have f:=ce a h.t0 h.t1;have x:0<=t*sz c/\t*sz c<=4096:=⟨f.1,by have:=(mo a).2.2.2;omega⟩;clear f b h;generalize rs c=r at *;generalize L:pg c=p at *;generalize sz c=z at *;generalize sl c=l at *;generalize s*(p+1)=m at *;go_enter func89,ntmps89;go_wp2_with fail;refine (d _).mono ?_;rintro e M ⟨rfl,b⟩;go_wp2_with fail;refine (o _).mono ?_;rintro e N ⟨rfl,f⟩;go_wp2_with fail;refine (q _).mono ?_;rintro e O ⟨rfl,y⟩;go_wp2_with fail;refine (d _).mono ?_;rintro e P ⟨rfl,A⟩;go_wp2
 go_ret2
 exact⟨rfl,cI b (cI f (cI y A))⟩
end
section
open Go.RowKit Go.Maps
theorem CZ (g) (w:World):(Instr.typeAssert (.iface 196 (J g 0)) 119 196 true).run prog w=.ok (.tuple #[J g 0,.bool true]) w:=E
theorem Es {a:Nat} (e:c<12):(co (a:Int)==(c:Int))=decide (a<=1016/\gN a=c):=by
 by_cases h:a<=1016
 ·obtain⟨d,_⟩:=CQ h;rw [d];by_cases b:gN a=c;·simp [h,b]
  have:((gN a:Int)==(c:Int))=false:=cd;rw [this];simp [b]
 rw [show co (a:Int) = -1 from jv _ Z 12 0];have:((-1:Int)==(c:Int))=false:=bh;rw [this];simp [h]
theorem oY (g b c s j) (a:Nat) (W) (h:Sc g b c s j W) :
  Calls prog 106 #[.iface 186 (J g 0),U a] W λe W'=>e=.returned (.bool (decide (a<=1016/\gN a=c)))/\D W W':=by
 have f:=H (λV (d:D W V)=>mL (a:Nat) Z V (h.below d).tb);have i:=H (Es (a:=a) h.hc);have n:=λw=>EW g w
 obtain⟨k,_,l,_,_,_,_,_⟩:=h;generalize d:decide (a<=1016/\gN a=c)=bb at *;clear d;generalize co (a:Int)=x at *;go_enter func106,ntmps106;go_upto_region 4 with fail
 refine rh (S:=λd=>d.cell? ⟨g,2,none⟩=some (J b 0)/\d.cell? ⟨b,0,none⟩=some (I c)) ?_;have d:=(⟨k,l⟩:W.drew.cell? ⟨g,2,none⟩=some (J b 0)/\W.drew.cell? ⟨b,0,none⟩=some (I c));refine py d ?_;simp only [f0,f1,Nat.reduceAdd,lz,l0,ls];refine pk 2 (J g 0) d ?_;refine pk 3 (J g 0) d ?_;refine pk 4 (J g 2) d ?_;refine pz 5 (J b 0) d ?_;refine pk 6 (J b 0) d ?_;refine pk 7 (J b 0) d ?_;refine pz 8 (I c) d ?_;refine po 1 λK' m=>?_;go_simp;refine (f _ (Jn _ _).drew).mono ?_;rintro e o ⟨rfl,rfl⟩;refine m _ _ ⟨d,?_⟩;clear m K'
 iterate 2 (refine py d ?_;simp only [f0,f1,Nat.reduceAdd,lz,l0,ls])
 refine bY ?_;rw [i.out];clear d k l f i;go_wp2;go_ret;exact⟨rfl,(Jn _ _).drew⟩
theorem oQ (g) (a:Nat) (r W) (h:Lc g r W) (ha:a<18446744073709551616) :
  Calls prog 106 #[.iface 196 (J g 0),U a] W λe W'=>e=.returned (.bool (decide (1016<a/\aS a=r.pages)))/\D W W':=by
 have f:=H (λV=>lr a V ha);have o:=λw=>Fq g w
 have n:=λw=>CZ g w
 have d:=h.c4;clear h;by_cases l:1016<a
 ·have c:=H (show decide (1016<a/\aS a=r.pages)=(((aS a:Nat):Int)==((r.pages:Nat):Int)) by
   by_cases e:aS a=r.pages;·simp [l,e]
   have:(((aS a:Nat):Int)==((r.pages:Nat):Int))=false:=cd;rw [this];simp [e])
  have i:decide ((1016:Int)<(a:Int))=true:=cd;generalize decide (1016<a/\aS a=r.pages)=p at *;generalize aS a=j at *;generalize r.pages=rp at *;go_enter func106,ntmps106;go_upto_region 7 with fail
  refine rh (S:=λk=>k.cell? ⟨g,4,none⟩=some (I rp)) ?_;have b:=(d:W.drew.cell? ⟨g,4,none⟩=some (I rp));refine pk 0 (U a) b ?_;refine pz 1 (.bool true) b ?_;refine pk 2 (.bool true) b ?_;refine pk 3 (U a) b ?_;refine pk 5 (J g 0) b ?_;refine pk 6 (J g 0) b ?_;refine pk 7 (J g 4) b ?_;refine pz 8 (I rp) b ?_;refine po 4 λK' m=>?_;go_simp;refine (f _).mono ?_;rintro e q ⟨rfl,rfl⟩;refine m _ _ ⟨b,?_⟩;clear m K';refine pk 9 (.bool ((j:Int)==(rp:Int))) b ?_;refine pk 10 (.bool ((j:Int)==(rp:Int))) b ?_;refine pk 11 (.bool ((j:Int)==(rp:Int))) b ?_;refine bY ?_;rw [<-c.out];clear b d f c;go_wp2;go_ret;exact⟨rfl,(Jn _ _).drew⟩
 have c:=H (show decide (1016<a/\aS a=r.pages)=false by simp [l]);rw [c.out];have i:decide ((1016:Int)<(a:Int))=false:=cd;clear c;generalize r.pages=rp at *;go_enter func106,ntmps106;go_upto_region 7 with fail
 refine rh (S:=λk=>k.cell? ⟨g,4,none⟩=some (I rp)) ?_;have b:=(d:W.drew.cell? ⟨g,4,none⟩=some (I rp));refine pk 0 (U a) b ?_;refine pz 1 (.bool false) b ?_;refine pk 2 (.bool false) b ?_;refine ps 3 b ?_;refine ps 4 b ?_;refine ps 5 b ?_;refine ps 6 b ?_;refine ps 7 b ?_;refine ps 8 b ?_;refine ps 9 b ?_;refine pk 10 (.bool false) b ?_;refine pk 11 (.bool false) b ?_;refine bY ?_;clear b d f;go_wp2;go_ret;exact⟨rfl,(Jn _ _).drew⟩
theorem BK (w:World):(binOp .eql 20 .nilIface .nilIface).run prog w=.ok (.bool true) w:=E
theorem AH (c) (w:World):(binOp .eql 20 (.iface 116 (.agg #[I c])) .nilIface).run prog w=.ok (.bool false) w:=E
theorem DZ (c) (w:World):(Instr.typeAssert (.iface 116 (.agg #[I c])) 20 116 true).run prog w=.ok (.tuple #[.agg #[I c],.bool true]) w:=E
theorem Bf (X2 X4) (W:World) :
  CallsD prog 51 #[J X2 0,J X4 0] .returning W λe a W'=>e=.returned (.tuple #[])/\a=.returning/\W'=W:=by
 have d:=BK;refine callsD_of_wpS func51 rfl λb f c=>?_;apply wpS_seq;apply wpS_region;simp [wpOpsS,go_sem,recoverD,c,ntmps51,Exit.thenS];refine wpS_of_wp ?_;go_wp2
 cases b
 simp_all [bodyPostS,results,Tryz.results51]
def Jk (B:Nat) (y:Ly) (cf:Cf) (h:Hs) (an:Value) (j:Nat) (code:Int) (W:World) (e:Ending) (t:FrameMode) (W':World):Prop:=e=.returned (.tuple #[])/\t=.panicking [{ v:=.iface 116 (.agg #[I code]),recovered:=true }]/\∃ V i,D W V/\Hg B y cf h an i/\Bi B V i/\W'=i.setRow j #[I code,U 0,I 0,C]
theorem zp (B) (y:Ly) (cf h an) (f b:Nat) (code) (W:World) (e:W.cell? ⟨f,0,none⟩=some (J y.P 0)) (g:W.heap[b]?=some (.cells #[I 0,U 0,I 0,C] 81)) (i:Tk B y cf h an W) :
  CallsD prog 51 #[J f 0,J b 0] (.panicking (iG code)) W (Jk B y cf h an b code W):=by
 have o:=AH code;have p:=DZ code;have a:D W (W.alloc (.cells #[I code] 116)):=(Jn _ _).alloc (Jo _) _;have c:=ol a e;have j:=H (i _ a);have d:=H (ae g a);have m:=H a;have k:=av W (.cells #[I code] 116);clear i e g a;refine callsD_of_wpS func51 rfl λq r g=>?_;unfold iG at g;apply wpS_seq;apply wpS_region;simp [wpOpsS,go_sem,recoverD,g,ntmps51,Exit.thenS];simp only [JI,JH,JM,JF,JP,KZ,Js,Jy,Jz];refine wpS_of_wp ?_;go_wp2_with fail;refine (j).mono ?_;rintro e V ⟨rfl,i,a⟩;have n:=H (a.ky.cells _ _ _ _ d (by unfold hI;decide));have s:=cX (a.ky.cells _ _ _ _ k (by unfold hI;decide));have l:=H (LG i a);clear i a j c k;go_wp2_with (refine fG n ?_);refine⟨rfl,_,rfl,.tuple #[],by simp [results,Tryz.results51],rfl,rfl,_,V,m,l.1,l.2,rfl⟩
def GL (sm:Nat->Nat) (n:Nat):List Value:=(List.range n).map λj=>J (sm j) 0
theorem AB (sm:Nat->Nat) (n x:Nat):GL (λk=>if k=n then x else sm k) (n+1)=GL sm n++[J x 0]:=by
 unfold GL;rw [J7,H2];congr 1
 ·refine List.map_congr_left λk a=>?_;have:=JW.1 a;have e:¬k=n:=Z
  simp [e]
 simp
structure Sl9 (B g c s n:Nat) (sm:Nat->Nat) (v:Value) (W:World):Prop where
 box:W.heap[g]?=some (.cells #[I c,I s,.bool false,v] 185)
 row:W.ownsRow B 186 1 v n (GL sm n)
 sms:∀ j,j<n->W.heap[sm j]?=some (.cells (wu 0 0 g j) 190)/\B<=sm j
 inj:∀ i j,i<n->j<n->sm i=sm j->i=j
 bg:B<=g
theorem Sl9.ky {S n} (h:Sl9 B g c s n sm v W) (k:Ky S W W') (b:¬S 185) (d:¬S 186) (e:¬S 190):Sl9 B g c s n sm v W' :=
 ⟨k.cells _ _ _ _ h.box b,ai h.row k d,λj a=>⟨k.cells _ _ _ _ (h.sms j a).1 e,(h.sms j a).2⟩,h.inj,h.bg⟩
theorem Sl9.below {B g c s n sm v W W'} (h:Sl9 B g c s n sm v W) (b:D W W'):Sl9 B g c s n sm v W' :=
 h.ky (Ky.below b:Ky (λ_=>False) W W') (λe=>e) (λe=>e) (λe=>e)
theorem Sl9.add {n} (h:Sl9 B g c s n sm v V) (t:B<=V.heap.size) (hn:n<=100) :
  ∃ f a,(Builtin.append_ #[183,183] 183 #[v,Vl (V.heap.size+1) 1 1]).run prog ((V.alloc (.cells (wu 0 0 g n) 190)).alloc (.cells #[J V.heap.size 0] 186))=.ok f a/\a.cell? ⟨g,3,none⟩=some v/\a.frozen? ⟨g,3,none⟩=false/\Sl9 B g c s (n+1) (λk=>if k=n then V.heap.size else sm k) f (a.setCell ⟨g,3,none⟩ f)/\Below B V (a.setCell ⟨g,3,none⟩ f):=by
 obtain⟨Q,z,A,F,G⟩:=zr vC;obtain⟨m,b⟩:∃ m,m=V.alloc (.cells (wu 0 0 g n) 190):=⟨_,rfl⟩;obtain⟨l,o⟩:∃ l,l=m.alloc (.cells #[J V.heap.size 0] 186):=⟨_,rfl⟩;have R:m.heap.size=V.heap.size+1:=by rw [b];exact aA _ _
 have w:D V m:=by rw [b];exact (Jn _ _).alloc (Jo _) _
 have x:D m l:=by rw [o];exact (Jn _ _).alloc (Jo _) _
 have S:m.heap[V.heap.size]?=some (.cells (wu 0 0 g n) 190):=by rw [b];exact av _ _
 have T:l.heap[V.heap.size]?=some (.cells (wu 0 0 g n) 190):=ae S x;have W:l.heap[V.heap.size+1]?=some (.cells #[J V.heap.size 0] 186):=by rw [o,<-R];exact av _ _
 have p:=(h.below w).below x;have q:B<=l.heap.size:=Jp (Jp t w.size) x.size;rw [<-b,<-o];obtain⟨f,a,X,Y,O,_⟩:=Kg (P:=prog) l B 183 183 186 Q (.pointer none) 1 8 underlying183 z A F G rfl Z v n (GL sm n) p.row ⟨V.heap.size+1,0,none⟩ 1 1 [J V.heap.size 0] rfl (λj u r=>by
  cases j with
  | zero=>simp at r;subst r;rw [Addr.add_mid];exact cX W
  | succ j=>simp at r) (λu b=>by simp at b;subst b;rfl) (by unfold maxLen;omega) Z q
 have K:Ky (· = 186) l a:=Ky.grownO (λP L=>by obtain ⟨_,c,d⟩:=aD p.row L;exact⟨c,186,_,d,rfl⟩) O;have d:=K.cells _ _ _ _ p.box al;have M:Ky (· = 185) a (a.setCell ⟨g,3,none⟩ f):=Ky.grown d rfl (au (ao a g) 3 f);refine⟨f,a,X,by simp [World.cell?,d],by simp [World.frozen?,d],⟨by simp [World.setCell,Jw,d],?_,λj r=>?_,λi j hi r e=>?_,h.bg⟩,?_⟩;·rw [AB];exact ai Y M al
 ·by_cases e:j=n;·rw [tm e,e];exact⟨M.cells _ _ _ _ (K.cells _ _ _ _ T al) al,t⟩
  rw [tg e];have:=p.sms j Z;exact⟨M.cells _ _ _ _ (K.cells _ _ _ _ this.1 al) al,this.2⟩
 ·by_cases N:i=n
  ·by_cases y:j=n;·omega
   rw [tm N,tg y] at e;have:=ah (h.sms j Z).1;omega
  by_cases y:j=n;·rw [tg N,tm y] at e;have:=ah (h.sms i Z).1;omega
  rw [tg N,tg y] at e;exact h.inj i j Z Z e
 exact (((w.mono t).trans (x.mono (Jp t w.size))).grown O q (λP L=>(aD p.row L).1)).setCell h.bg _
structure Slb (B:Nat) (W:World) (c s g r cap:Nat) (sm:Nat->Nat):Prop where
 box:W.heap[g]?=some (.cells (FO c s false r (aU c) cap) 185)
 row:RowV W r 186 ((List.range (aU c)).map λj=>J (sm j) 0)
 sms:∀ j,j<aU c->W.heap[sm j]?=some (.cells (wu 0 0 g j) 190)/\B<=sm j
 inj:∀ i j,i<aU c->j<aU c->sm i=sm j->i=j
 bg:B<=g
 br:B<=r
theorem Sl9.done (h:Sl9 B g c s (aU c) sm v W) (a:c<12):∃ r cap,Slb B W c s g r cap sm:=by
 have e:=bI a;rcases h.row.2 with ⟨_,f⟩|⟨r,cap,b,rfl,d,i,j,k,l,m⟩;·omega
 exact⟨r,cap,h.box,RowV.ofOwns h.row,h.sms,h.inj,h.bg,d⟩
theorem uA (c s:Nat) (d:c<12) (W) (a:Tb W) :
  Calls prog 50 #[I c,I s] W λe W'=>∃ g r cap sm,e=.returned (J g 0)/\Slb W.heap.size W' c s g r cap sm/\D W W':=by
 have m:=bI d;have b:=H (λV (f:D W V)=>h_ (c:Nat) V (a.ofBelow f));rw [wO d] at b;have q:=H (λB g sm v V (h:Sl9 B g c s (aU c) sm v V)=>h.done d);have l:=H (show Sl9 W.heap.size W.heap.size c s 0 (λ_=>0) (C) (W.alloc (.cells #[I c,I s,.bool false,C] 185)) from ⟨av W _,⟨rfl,.inl ⟨rfl,rfl⟩⟩,λj d=>Z,λi j d=>Z,Jo _⟩);have j:D W (W.alloc (.cells #[I c,I s,.bool false,C] 185)):=(Jn _ _).alloc (Jo _) _;have f:=H j;clear j a;have t:aU c<=64:=Z;generalize aU c=n at *;clear m;go_enter func50,ntmps50;go_wp2_with fail;refine (b _ f).mono ?_;rintro e V ⟨rfl,a⟩;rw [a];clear a V b;generalize W.alloc (.cells #[I c,I s,.bool false,C] 185)=u at *;obtain⟨g,a⟩:∃ g,g=W.heap.size:=⟨_,rfl⟩;rw [<-a];have m:=H (show Sl9 W.heap.size g c s 0 (λ_=>0) (C) u by rw [a];exact l);clear l a;go_wp2;go_loopw [13] (λi wr=>∃ (k:Nat) (sm:Nat->Nat) (v:Value),k<=n/\i=I k/\Hid (Sl9 W.heap.size g c s k sm v wr)/\Hid (D W wr)) (λi _=>n-(intOf i).toNat);case atStart=>exact ⟨0,_,_,Jt _,rfl,m,f⟩
 case round =>
  clear m f;obtain⟨k,sm,v,F,rfl,b,j⟩:=hrel;by_cases w:k<n
  ·obtain⟨x,y,z,rfl⟩:=aE b.row;obtain⟨G,K,a,L,f3,l,o⟩:=b.add j.size Z;obtain⟨M,N,wc,rfl⟩:=aE l.row;have p:=H (LG l (j.trans o));have A:wr.cell? ⟨g,3,none⟩=some (.slice x y z):=(by simp [World.cell?,b.box]);clear l o;unfold wu at a;go_wp2_with (at_builtin;refine dh rfl _ _ rfl rfl rfl rfl a ?_);go_wp2;go_roundw;(case rel=>exact ⟨k+1,_,_,Z,aR,H p.1,H p.2⟩);case measure=>simp [intOf];omega
  obtain rfl:k=n:=Z;go_wp2;go_ret;obtain⟨r,cap,a⟩:=q.out _ _ _ _ _ b.out;exact⟨g,r,cap,sm,rfl,a,j⟩
structure xN where
 g:Nat
 r:Nat
 cap:Nat
 sm:Nat->Nat
structure xz where
 m:Nat
 r:Nat
 g:Nat
 q:Nat
def Hu (mix:Nat) (q:xz) (k:Nat):Value:=if k=0 then J q.m 0 else if k=1 then J q.g 0 else if mix=0 then .iface 71 (J q.g 0) else .iface 70 (J q.m 0)
def oJ (cf:Cf) (da:Option Addr) (dc S R:Nat) (fl:Nat->xN) (j:Nat->xz) (k w:Nat) (i:Nat):Value :=
 if i<7 then ([I cf.mix,I cf.fifo,I cf.large,I cf.bud,U cf.key,.slice da cf.ds.length dc,J S 0]:List Value)[i]?.getD undef
 else if i<79 then (if i-7<k then J ((fl (i-7)).g) 0 else .pointer none)
 else if i<115 then (if (i-79)/3<w then Hu cf.mix (j ((i-79)/3)) ((i-79)%3) else if (i-79)%3=2 then .nilIface else .pointer none)
 else ([.map (some R),C,C,I 0,C,.nilFunc]:List Value)[i-115]?.getD undef
structure Nh (B P S M R:Nat) (da:Option Addr) (dc:Nat) (cf:Cf) (fl:Nat->xN) (qs:Nat->xz) (k w:Nat) (W:World):Prop where
 box:Bxh P (oJ cf da dc S R fl qs k w) W
 bW:B<=W.heap.size
 ds:Sl W da cf.ds
 dab:∀ a,da=some a->a.block<B
 sp:Im S M 0 283 (cf.bud:Nat) (λ_=>none) W
 mp:Mr R 0 (λ_=>none) W
 bP:B<=P
 bS:B<=S
 bM:B<=M
 bR:B<=R
 mr:M≠R
 sl:∀ i,i<k->Slb B W (i/6) (i%6) (fl i).g (fl i).r (fl i).cap (fl i).sm
 is:∀ i j,i<k->j<k->i≠j->(fl i).g≠(fl j).g/\∀ a b,a<aU (i/6)->b<aU (j/6)->(fl i).sm a≠(fl j).sm b
 wt:∀ c,c<w->Qr W (qs c).m (qs c).r (qs c).g (qs c).q cf.fifo (List.replicate cf.mix (-1)) []/\B<=(qs c).m/\B<=(qs c).r/\B<=(qs c).g/\B<=(qs c).q
 iq:∀ c c',c<w->c'<w->c≠c'->(qs c).r≠(qs c').r/\(qs c).r≠(qs c').q/\(qs c).q≠(qs c').q/\(qs c).g≠(qs c').g
 tb:Tb W
 b0:0<B
theorem Slb.ky {S} (h:Slb B W c s g r cap sm) (k:Ky S W W') (b:¬S 185) (d:¬S 186) (e:¬S 190):Slb B W' c s g r cap sm :=
 ⟨k.cells _ _ _ _ h.box b,cZ h.row k d,λj a=>⟨k.cells _ _ _ _ (h.sms j a).1 e,(h.sms j a).2⟩,h.inj,h.bg,h.br⟩
theorem Slb.mono {b:Nat} (h:Slb B W c s g r cap sm) (a:b<=B):Slb b W c s g r cap sm :=
 ⟨h.box,h.row,λj d=>⟨(h.sms j d).1,Jp a (h.sms j d).2⟩,h.inj,Jp a h.bg,Jp a h.br⟩
theorem Nh.below {B P S M R da dc cf fl qs k w W W'} (h:Nh B P S M R da dc cf fl qs k w W) (b:D W W'):Nh B P S M R da dc cf fl qs k w W':=by
 have a:Ky (λ_=>False) W W':=Ky.below b;obtain⟨j,c,f⟩:=h.mp.typ;exact⟨h.box.ky a (λe=>e),Jp h.bW b.size,h.ds.below b,h.dab,h.sp.ky a (λe=>e) (b.block _ h.sp.lt.2),h.mp.same (b.block _ (ah f)),h.bP,h.bS,h.bM,h.bR,h.mr,λi g=>(h.sl i g).ky a (λe=>e) (λe=>e) (λe=>e),h.is,λc d=>⟨(h.wt c d).1.ky a (λe=>e) (λe=>e) (λe=>e),(h.wt c d).2⟩,h.iq,h.tb.ofBelow b,h.b0⟩
theorem Nh.setP {fl qs} (h:Nh B P S M R da dc cf fl qs k w W) (j:Nat) (v:Value):Ky (· = 79) W (W.setCell ⟨P,j,none⟩ v)/\Below B W (W.setCell ⟨P,j,none⟩ v)/\(W.setCell ⟨P,j,none⟩ v).heap[M]?=W.heap[M]?/\(W.setCell ⟨P,j,none⟩ v).heap[R]?=W.heap[R]?:=by
 have f:M≠P:=λe=>by
  obtain⟨c,d,_⟩:=h.box;obtain⟨a,⟨g,i,b,_⟩,_⟩:=h.sp.map;rw [e,d] at b;cases b
 have a:R≠P:=λe=>by
  obtain⟨c,d,_⟩:=h.box;obtain⟨g,i,b⟩:=h.mp.typ;rw [e,d] at b;cases b
 exact⟨h.box.kyS j v,(Jn B W).setCell h.bP _,t4 _ _ _ _ f,t4 _ _ _ _ a⟩
theorem Nh.addS {fl qs} (h:Nh B P S M R da dc cf fl qs k w V) (b:D V W) (f:Slb V.heap.size W (k/6) (k%6) g r cap sm) (K:k<72) :
  Nh B P S M R da dc cf (λi=>if i=k then ⟨g,r,cap,sm⟩ else fl i) qs (k+1) w (W.setCell ⟨P,7+k,none⟩ (J g 0)):=by
 have d:=h.below b;obtain⟨n,q,x,y⟩:=d.setP (7+k) (J g 0);have z:=h.bW;have u:=d.box.set (7+k) Z (J g 0);have A:lP (oJ cf da dc S R fl qs k w) (7+k) (J g 0)=oJ cf da dc S R (λi=>if i=k then ⟨g,r,cap,sm⟩ else fl i) qs (k+1) w:=by
  funext i;unfold lP oJ;by_cases e:i=7+k;·subst e;rw [tm rfl,tg Z,tm Z,tm Z];simp
  rw [tg e];by_cases l:i<7;·rw [tm l,tm l]
  rw [tg l,tg l];by_cases a:i<79
  ·rw [tm a,tm a];by_cases j:i-7<k;·rw [tm j,tm Z];simp [show ¬(i-7=k) by omega]
   rw [tg j,tg Z]
  rw [tg a,tg a]
 rw [A] at u;refine⟨u,Jp d.bW q.size,d.ds.belowB q h.dab,h.dab,d.sp.ky n al x,d.mp.same y,h.bP,h.bS,h.bM,h.bR,h.mr,λi o=>?_,λi j o L s=>?_,λc v=>⟨(d.wt c v).1.ky n al al al,(d.wt c v).2⟩,h.iq,d.tb.belowB q h.b0,h.b0⟩
 ·by_cases e:i=k;·subst e;simp only [tm];exact (f.mono z).ky n al al al
  simp only [tg e];exact (d.sl i Z).ky n al al al
 have l:∀ i,i<k->(fl i).g<V.heap.size/\∀ a,a<aU (i/6)->(fl i).sm a<V.heap.size:=λi o=>⟨ah (h.sl i o).box,λa ha=>ah ((h.sl i o).sms a ha).1⟩
 by_cases p:i=k
 ·have m:¬j=k:=Z;have:=l j Z;simp only [tm p,tg m];refine⟨by have:=f.bg;omega,λa b ha t=>?_⟩;have F:=(f.sms a (by rw [<-p];exact ha)).2;have G:=this.2 b t;omega
 by_cases m:j=k;·have:=l i Z;simp only [tg p,tm m];refine⟨by have:=f.bg;omega,λa b ha t=>?_⟩;have F:=(f.sms b (by rw [<-m];exact t)).2;have G:=this.2 a ha;omega
 simp only [tg p,tg m];exact h.is i j Z Z s
theorem Nh.addW {fl qs} (h:Nh B P S M R da dc cf fl qs k w V) (b:D V W) {m q} (K:Qr W m r g q cf.fifo (List.replicate cf.mix (-1)) []) (hb:V.heap.size<=m/\V.heap.size<=r/\V.heap.size<=g/\V.heap.size<=q) (hw:w<12) (x:W'=((W.setCell ⟨P,79+w*3,none⟩ (J m 0)).setCell ⟨P,79+w*3+1,none⟩ (J g 0)).setCell ⟨P,79+w*3+2,none⟩ (if cf.mix=0 then .iface 71 (J g 0) else .iface 70 (J m 0))) :
  Nh B P S M R da dc cf fl (λi=>if i=w then ⟨m,r,g,q⟩ else qs i) k (w+1) W':=by
 have d:=h.below b;obtain⟨c,j,L,N⟩:=d.box;obtain⟨s,p⟩:∃ s,s=(if cf.mix=0 then .iface 71 (J g 0) else .iface 70 (J m 0):Value):=⟨_,rfl⟩;rw [<-p] at x;have y:=((d.box.set (79+w*3) Z (J m 0)).set (79+w*3+1) Z (J g 0)).set (79+w*3+2) Z s;rw [<-x] at y;have t:W.grownBy W' (some P):=by rw [x];exact au (au (au (ao W P) _ _) _ _) _ _
 have u:Ky (· = 79) W W':=Ky.grown j rfl t;have z:Below B W W':=(Jn B W).grown t d.bW (λr a=>by simp at a;have:=h.bP;omega);have O:M≠P:=λe=>by
  obtain⟨a,⟨A,F,d,_⟩,_⟩:=d.sp.map;rw [e,j] at d;cases d
 have Q:R≠P:=λe=>by
  obtain⟨A,F,d⟩:=d.mp.typ;rw [e,j] at d;cases d
 have T:W'.heap[M]?=W.heap[M]?:=t.block _ d.sp.lt.2 (by simpa using O);have X:W'.heap[R]?=W.heap[R]?:=by
  obtain⟨A,F,a⟩:=d.mp.typ;exact t.block _ (ah a) (by simpa using Q)
 have Y:lP (lP (lP (oJ cf da dc S R fl qs k w) (79+w*3) (J m 0)) (79+w*3+1) (J g 0)) (79+w*3+2) s=oJ cf da dc S R fl (λi=>if i=w then ⟨m,r,g,q⟩ else qs i) k (w+1):=by
  funext i;unfold lP oJ;by_cases l:i=79+w*3+2;·rw [tm l,tg Z,tg Z,tm Z,tm Z,show (i-79)/3=w by omega,show (i-79)%3=2 by omega,p];simp [Hu]
  rw [tg l];by_cases n:i=79+w*3+1;·rw [tm n,tg Z,tg Z,tm Z,tm Z,show (i-79)/3=w by omega,show (i-79)%3=1 by omega];simp [Hu]
  rw [tg n];by_cases G:i=79+w*3;·rw [tm G,tg Z,tg Z,tm Z,tm Z,show (i-79)/3=w by omega,show (i-79)%3=0 by omega];simp [Hu]
  rw [tg G];by_cases v:i<7;·rw [tm v,tm v]
  rw [tg v,tg v];by_cases f:i<79;·rw [tm f,tm f]
  rw [tg f,tg f];by_cases a:i<115
  ·rw [tm a,tm a];by_cases o:(i-79)/3<w;·rw [tm o,tm Z];simp [show ¬((i-79)/3=w) by omega]
   rw [tg o,tg (show ¬(i-79)/3<w+1 by omega)]
  rw [tg a,tg a]
 rw [Y] at y;have a:∀ c,c<w->(qs c).r<V.heap.size/\(qs c).g<V.heap.size/\(qs c).q<V.heap.size:=λc j=>by
  obtain⟨⟨q1,f⟩,⟨ps,o,hh,v,G,_⟩,_⟩:=(h.wt c j).1;exact⟨f.lt,ah v,G.lt⟩
 have hB:=h.bW;refine⟨y,Jp d.bW z.size,d.ds.belowB z h.dab,h.dab,d.sp.ky u al T,d.mp.same X,h.bP,h.bS,h.bM,h.bR,h.mr,λi v=>(d.sl i v).ky u al al al,h.is,λc j=>?_,λc f j G o=>?_,d.tb.belowB z h.b0,h.b0⟩
 ·by_cases e:c=w;·subst e;simp only [tm];exact⟨K.ky u al al al,Z,Z,Z,Z⟩
  simp only [tg e];exact⟨(d.wt c Z).1.ky u al al al,(d.wt c Z).2⟩
 by_cases n:c=w
 ·have l:¬f=w:=Z;have:=a f Z;simp only [tm n,tg l];exact⟨Z,Z,Z,Z⟩
 by_cases l:f=w;·have:=a c Z;simp only [tg n,tm l];exact⟨Z,Z,Z,Z⟩
 simp only [tg n,tg l];exact h.iq c f Z Z o
def IZ (P S M R:Nat) (da:Option Addr) (dc:Nat) (fl:Nat->xN) (i:Nat->xz):Ly where
 P:=P
 S:=S
 M:=M
 R:=R
 sb:=λc s=>(fl (c*6+s)).g
 sr:=λc s=>(fl (c*6+s)).r
 sc:=λc s=>(fl (c*6+s)).cap
 sm:=λc s j=>(fl (c*6+s)).sm j
 qm:=λc=>(i c).m
 qr:=λc=>(i c).r
 qg:=λc=>(i c).g
 qq:=λc=>(i c).q
 da:=da
 dc:=dc
def El:Dy where
 f:=λ_=>none
 on:=λ_ _=>false
 lg:=λ_=>none
 ro:=C
 rl:=C
 an:=C
 un:=.nilFunc
theorem Nh.made {fl qs} (h:Nh B P S M R da dc cf fl qs 72 12 W):Hp B (IZ P S M R da dc fl qs) El cf (bC cf) W/\Gd El (bC cf) (C):=by
 have n:∀ c s:Nat,c<12->s<6->c*6+s<72/\(c*6+s)/6=c/\(c*6+s)%6=s:=λc s a d=>Z
 refine⟨⟨⟨h.b0,h.bP,h.bS,h.bM,h.bR,h.mr,λc s a d=>?_,λc s a d=>?_,λc s j a d u=>?_,λc a=>(h.wt c a).2,λc s p v a d m q e=>?_,λc s j p v A a d u m q w e=>?_,λc p a m y=>h.iq c p a m y,h.dab⟩,h.bW,?_,h.ds,h.sp,?_,(λk g e=>by cases e),λc s a d=>?_,λc s a d=>?_,λc s j a d u=>?_,λc a=>?_,h.mp,(λk=>rfl),(λr b=>by cases b),(λk F g e=>by cases e),?_,?_,?_,h.tb⟩,?_⟩;·obtain⟨f,l,t⟩:=n c s a d;exact (h.sl _ f).bg
 ·obtain⟨f,l,t⟩:=n c s a d;exact (h.sl _ f).br
 ·obtain⟨f,l,t⟩:=n c s a d;exact ((h.sl _ f).sms j (by rw [l];exact u)).2
 ·by_cases z:c*6+s=p*6+v;·exact⟨Z,Z⟩
  exact absurd e (h.is _ _ (n c s a d).1 (n p v m q).1 z).1
 ·obtain⟨f,l,t⟩:=n c s a d;obtain⟨b,i,o⟩:=n p v m q;by_cases z:c*6+s=p*6+v;·obtain⟨rfl,rfl⟩:c=p/\s=v:=⟨Z,Z⟩;exact⟨rfl,rfl,(h.sl _ f).inj j A (by rw [l];exact u) (by rw [l];exact w) e⟩
  exact absurd e ((h.is _ _ f b z).2 j A (by rw [l];exact u) (by rw [i];exact w))
 ·obtain⟨c,G,K,L⟩:=h.box;refine⟨c,G,K,λi N=>?_⟩;rw [L i N];unfold oJ boxF;congr 1;by_cases x:i<7;·rw [tm x,tm x];rfl
  rw [tg x,tg x];by_cases o:i<79;·rw [tm o,tm o,tm Z];show _=Value.pointer (some ⟨(fl ((i-7)/6*6+(i-7)%6)).g,0,none⟩);rw [show (i-7)/6*6+(i-7)%6=i-7 by omega]
  rw [tg o,tg o];by_cases b:i<115;·rw [tm b,tm b,tm Z];rfl
  rw [tg b,tg b];rfl
 ·exact⟨λk=>.inl ⟨rfl,rfl⟩,λk F b e=>by cases e⟩
 ·obtain⟨f,l,t⟩:=n c s a d;have:=(h.sl _ f).box;rw [l,t] at this;exact this
 ·obtain⟨f,l,t⟩:=n c s a d;have:=(h.sl _ f).row;rw [l] at this;exact this
 ·obtain⟨f,l,t⟩:=n c s a d;exact ((h.sl _ f).sms j (by rw [l];exact u)).1
 ·exact (h.wt c a).1
 ·exact .inl ⟨rfl,rfl⟩
 ·exact⟨rfl,.inl ⟨rfl,rfl⟩⟩
 ·intro g e;cases e
 exact⟨λc s a d=>rfl,rfl,rfl⟩
end
end Go.Proofs.YtdfodlhkdmkfdaaGreatDoor
