import Derived.Test.YtdhegekcmmlohaaGreatDoorM11
set_option linter.unusedVariables false
set_option linter.unusedSimpArgs false
set_option maxRecDepth 20000
set_option maxHeartbeats 8000000
namespace Go.Proofs.YtdhegekcmmlohaaGreatDoor
open Go.Proofs.Tryz Go.RowKit Go.Maps Go.Shelf Go.ChangeShapes Go.WideShapes Go.ChangeAt
def eZ(o:fL)(d:Option Addr)(dc:Nat):Value:=.agg #[I o.kd,I o.ref,U o.p,U o.a,U o.b,.slice d o.ys.length dc]
def vS(B:Nat)(x:Sm)(cf:Cf)(W:World)(r:An4×Hs)(e:Ending)(W':World):Prop:=∃(i:Sm)(v:Value),e=.returned (jP r.1 v)/\W'.ownsRow W.heap.size 5 1 v r.1.data.length (Ns .u8 r.1.data)/\(∀g,v.ownBlock=some g->¬e_ x.Q W' g)/\i.P=x.P/\i.Q=x.Q/\l_ i/\Sh B i cf r.2 W'/\Bk B x.Q W W'
structure vT(B:Nat)(x:Sm)(cf:Cf)(h:Hs)(k:Nat)(o:fL)(p:Nat)(d:QP)(W:QM):Prop where
 sh:Sh B x cf h W
 sep:l_ x
 b:B<=W.heap.size
 inv:Inv cf h
 few:Few k h
 hk:k<=300
 dok:mE cf
 large:1<=cf.large
 hp:p<18446744073709551616
 ha:o.a<18446744073709551616
 hb:o.b<18446744073709551616
 dt:Dt x.Q W d o.ys.length o.ys
theorem eL(W:QM)(B:Nat):W.ownsRow B 5 1 (C) ([]:List Int).length (Ns .u8 []):=⟨rfl,.inl ⟨rfl,rfl⟩⟩
theorem cH{B}{x c:Sm}{cf W W'}{a:An4}{h'}(d:a.data=[])(e:c.P=x.P)(f:c.Q=x.Q)(i:l_ c)(s:Sh B c cf h' W')(b:Bk B x.Q W W'):vS B x cf W (a,h') (QJ (jP a (C))) W':=
 ⟨c,C,rfl,by rw[d];exact eL W' _,λg j=>by simp[Value.ownBlock]at j,e,f,i,s,b⟩
theorem mV(cf h p a old):(iQ cf h p a old).1.data=[]:=by
 unfold iQ;cases av cf h a with
 |mk u b=>cases u<;>rfl
theorem pI(cf h p a):(a_ cf h p a).1.data=[]:=by
 rw[hH];split;·unfold oW;cases(av cf h a).1<;>rfl
 cases aB h p with
 |no b=>rfl
 |slot c s j=>
  dsimp only;split;·rfl
  split;·rfl
  exact mV _ _ _ _ _
 |range r=>
  dsimp only;split;·rfl
  exact mV _ _ _ _ _
theorem fB{P:Program}{e:Array Oper}{Q:Exit->Act->QM->Prop}{i:Nat}{o:Oper}{K:Act->QM->Prop}{a:Act}{w:QM}(l:e[i]?=some o)(j:o.guard=none)(k:QO)(x y:Operand)(m:o.op=.store k x y)(g)(b:Array QN)(n:a.eval x=J g 0)(p:a.eval y=.agg b)(t:QO)(c:Array QN)(q:w.heap[g]?=some (.cells c t))(d:(P.info? k).map (·.size)=some b.size)(f:c.size=b.size)(r:b.all (·.oneCell')=true)(h:K (a.put o.dst undef) (w.setRow g b)):wpOp P e Q i K a w:=
 fO l (by simp[Region.wanted,j]) (λK' a=>Ih k x y m g b n p t c q d f r (a _ _ h))
theorem vM{w:QM}{g r:Nat}{c:Array QN}{t:QO}{f:Nat×Nat}(a:w.heap[g]?=some (.cells c t f))(b:Array QN)(d:g≠r):(w.setRow r b).heap[g]?=some (.cells c t f):=by
 rw[(aj w r b).block g (ag a) bG];exact a
theorem iH{B x cf h k o p d W}{V:QM}(b:vT B x cf h k o p d W)(kd)(a:Nat)(g:(W.alloc (Qo kd o d a)).alloc Qt=V):
  Hid (Sh B x cf h V)/\Hid (Bk B x.Q W V)/\Hid (V.heap[W.heap.size+1]?=some Qt)/\Hid (Dt x.Q V d o.ys.length o.ys)/\V.cell? (Qz W.heap.size 0)=some (I kd)/\V.cell? (Qz W.heap.size 3)=some (U o.a)/\V.cell? (Qz W.heap.size 4)=some (U o.b)/\V.cell? (Qz W.heap.size 5)=some (.slice d o.ys.length a)/\V.heap[W.heap.size]?=some (Qo kd o d a):=by
 subst g;have c:D W ((W.alloc (Qo kd o d a)).alloc Qt):=((Fu _ _).alloc (Fv _) _).alloc (by rw[aO];omega) _;have e:=ao (W.alloc (Qo kd o d a)) Qt;have f:=(eg (W.alloc (Qo kd o d a)) Qt W.heap.size (by rw[aO];omega)).trans (ao W _);rw[aO]at e;refine⟨H (b.sh.below c),H (b.sh.bkB (Bk.refl _ _ _) b.b c),H e,H (b.dt.keep (Sf.ofBelow c b.sh.ltQ)),?_,?_,?_,?_,f⟩<;>(simp only[QC,f];rfl)
theorem AU{p X Y a:Prop}(x:X)(y:Y)(z:a)(f:X->Y->a->p:=by(
 intro x y z
 go_wp2_with (refine eG x ?_)
 refine fM (aw x _) underlying46 ?_
 rw[y]
 exact z _)):p:=f x y z
theorem Dn(B x cf h k o p d dc W)(hA:vT B x cf h k o p d W):
  QA 43 #[.pointer (some (Qz x.P 0)),eZ o d dc,.int .u64 p] W λe W'=>vS B x cf W (NQ cf h o p) e W':=by
 obtain⟨f,i⟩:=Qa (NQ cf h o p);rw[i];have N:=H i;obtain⟨t,BA,XA,DT,o0,P,o4,o5,OA⟩:=iH hA o.kd dc rfl;obtain⟨A,g,hB,s,hf,hk,y,a9,hp,ha,hb,z⟩:=hA;have HB:=H hB;have HD:=H y;have HI:=H s;have w:=H g;have c2:=H hf;have hQ:=A.ltQ;have c3:=hf.rg;have hrel:=hf.rel;unfold eZ;by_cases j:(o.kd<0\/6<o.kd)\/o.kd=5/\4096<o.a
 ·have l:=H (show f=(.no 6,h) by
   rw[<-i];unfold NQ;dsimp only;rcases j with j|j<;>(repeat(first|rw[GP Z]|rw[GO Z])))
  have n:=H A;have a:(o.kd==5)=false\/(o.kd==5)=true/\(4096:Int)<(o.a:Int):=by
   rcases j with j|j;·exact .inl bG
   exact .inr ⟨bG,Z⟩
  have e0:(o.kd==0)=false:=bG;have e1:(o.kd==1)=false:=bG;have K:(o.kd==2)=false:=bG;have L:(o.kd==3)=false:=bG;have M:(o.kd==4)=false:=bG;have e6:(o.kd==6)=false:=bG;clear A s y g OA z i j;go_enter func43,ntmps43;rcases a with a|⟨a,O⟩
  all_goals
   go_wp2
   have q:∀F G,D W ((W.alloc F).alloc G):=λF G=>((Fu _ _).alloc (Fv _) _).alloc (by rw[aO];omega) _
   refine GX (v:=.agg #[.int .i64 6,.int .u64 0,.int .i64 0,.slice none 0 0]) (by simp[results,Tryz.results43,go_sem]) rfl ?_
   rw[l]
   exact cH rfl rfl rfl w (n.below (q _ _)) (n.bkB (Bk.refl _ _ _) HB (q _ _))
 have FI:=H (λV(Q:Sh B x cf h V)=>kZ B x cf h p V Q Z Z);have T:=jt h p;obtain⟨fd,n⟩:=Qa (aB h p);obtain⟨⟨t1,t2,t3⟩,q⟩:∃a,fE h p=a:=⟨_,rfl⟩;rw[n,q]at T;rw[q]at FI;have b0:=H n;have FE:=H (λV(Q:Sh B x cf h V)(a:B<=V.heap.size)(h3:Hid (t3=0))=>uq B x cf h k p fd t1 t2 t3 V Q g a s hf Z y a9 T h3);have b4:=H T;have MA:=H (λa V(Q:Sh B x cf h V)(ha:a<18446744073709551616)=>jT B x cf h k a V Q g (Fx Q.bp (Nat.le_of_lt (ag Q.box))) s hf hk y ha);have hq:o.kd=0\/o.kd=1/\18446744073709551616<=o.a*o.b\/o.kd=1/\o.a*o.b<18446744073709551616\/o.kd=2\/o.kd=3\/o.kd=4\/o.kd=5/\¬(4096:Int)<(o.a:Int)\/o.kd=6:=Z;have OA:=H OA;have RE:=H (λV(Q:Sh B x cf h V)=>tv B x cf h k p o.a V Q g (Fx Q.bp (Nat.le_of_lt (ag Q.box))) s hf hk y a9 hp ha);obtain⟨kd,a⟩:=Qa o.kd;rw[a]at hq t BA XA DT o0 P o4 o5 OA⊢;have HK:=H a;clear A s y g z i j T n q a;go_enter func43,ntmps43;rcases hq with rfl|⟨rfl,a4⟩|⟨rfl,a4⟩|rfl|rfl|rfl|⟨rfl,c4⟩|rfl
 all_goals
  go_wp2_with fail
  generalize Q:(W.alloc _).alloc _=V at t BA XA DT OA o0 P o4 o5⊢
  obtain⟨O,a⟩:=Qb W.heap.size
  rw[<-a]at o0 P o4 o5 XA OA⊢
  have g:=H a
  have HQ:=H hQ
  clear a hQ Q
  obtain⟨R,a⟩:=Qb (O+1)
  rw[<-a]at XA⊢
  have HR:=H (show W.heap.size<=R by rw[a,g];omega)
  have b6:=H (show O≠R by omega)
  clear a
  have LC:=H (λ(a:Sm)(y:QM)(r:An4×Hs)(z:y.heap[R]?=some (.cells #[.int .i64 0,.int .u64 0,.int .i64 0,.slice none 0 0] 46))(s:Sh B a cf r.2 y)(b:Bk B x.Q W y)(e:r.1.data=[]/\a.P=x.P/\a.Q=x.Q/\l_ a)cs=>show vS B x cf W r (QJ (jP r.1 (.slice none 0 0))) (y.setRow R cs)from cH e.1 e.2.1 e.2.2.1 e.2.2.2 (s.off81 z cs) (b.loc (aj _ R cs) HR HQ HB))
 ·have l:=H (show f=oW cf h o.a by
   rw[<-N.out];have:=HK.out;unfold NQ oW;dsimp only;rw[GP this];cases av cf h o.a with
   |mk u h1=>cases u<;>rfl)
  refine(MA _ _ t ha).mono ?_;rintro e y⟨x1,rfl,X,Y,a0,s1,q⟩;have z:=H (q.at XA (eB ar));have LC:=H (LC _ _ (oW cf h o.a) z s1 (BA.trans q) ⟨by unfold oW;cases(av cf h o.a).1<;>rfl,X,Y,a0⟩);clear s1 q X Y a0 o0 P o4 o5;exact AU z l LC
 ·have l:=H (show f=(.no 1,h) by
   rw[<-N.out];have:=HK.out;unfold NQ;dsimp only;(repeat(first|rw[GP Z]|rw[GO Z])))
  refine(product.sp_Product_no o.a o.b ha hb a4 _).mono ?_;rintro e y⟨rfl,rfl⟩;clear o0 P o4 o5;exact AU XA l (LC _ _ (.no 1,h) XA t BA ⟨rfl,rfl,rfl,w⟩)
 ·have l:=H (show f=oW cf h (o.a*o.b) by
   rw[<-N.out];have:=HK.out;unfold NQ oW;dsimp only;rw[GO Z,GP this,GO Z];cases av cf h (o.a*o.b)with
   |mk u h1=>cases u<;>rfl)
  have g:QA 73 #[.int .u64 (o.a:Nat),.int .u64 (o.b:Nat)] V λe w'=>e=QJ (.tuple #[.int .u64 ((o.a*o.b:Nat):Int),.bool true])/\w'=V:=by
   rcases Nat.eq_zero_or_pos o.a with a|a;·have:=product.sp_Product_zero o.b hb V;rw[a];simpa using this
   exact product.sp_Product_yes o.a o.b a ha hb a4 V
  generalize o.a*o.b=a at*;refine g.mono ?_;rintro e i⟨rfl,rfl⟩;go_wp2_with fail;refine(MA _ _ t a4).mono ?_;rintro e y⟨x1,rfl,X,Y,a0,s1,q⟩;have z:=H (q.at XA (eB ar));have LC:=H (LC _ _ (oW cf h a) z s1 (BA.trans q) ⟨by unfold oW;cases(av cf h a).1<;>rfl,X,Y,a0⟩);clear s1 q X Y a0 o0 P o4 o5 g;exact AU z l LC
 ·have l:=H (show f=a_ cf h p o.a by
   rw[<-N.out];have:=HK.out;unfold NQ;dsimp only;(repeat(first|rw[GP Z]|rw[GO Z])))
  refine(RE _ t).mono ?_;rintro e y⟨x1,rfl,X,Y,a0,s1,q⟩;have z:=H (q.at XA (eB ar));have LC:=H (LC _ _ (a_ cf h p o.a) z s1 (BA.trans q) ⟨pI cf h p o.a,X,Y,a0⟩);clear s1 q X Y a0 o0 P o4 o5;exact AU z l LC
 ·have l:=H (show f=(match aB h p with
   | .no code=>(.no code,h)
   | .slot c s j=>if sound cf h c s j=false then(.no 5,h)else(.no 0,aL cf h c s j)
   | .range r=>(.no 0,aJ cf h r)) by
   rw[<-N.out];have:=HK.out;unfold NQ;dsimp only;(repeat(first|rw[GP Z]|rw[GO Z]));cases aB h p<;>rfl)
  rw[b0]at l;refine(FI _ t).mono ?_;rintro e y⟨rfl,q⟩;have L:=H (t.below q);have B1:=H (t.bkB BA HB q);have z:=H (ae XA q);clear q t BA XA o0 P o4 o5;unfold C4;have T:=b4.out;cases T with
  |no code hc=>
   have b7:(t3==0)=false:=(by rcases hc with rfl|rfl<;>rfl);have A:Hid (f=(.no t3,h)):=l;clear hc l;exact AU z A (LC _ _ (.no t3,h) z L B1 ⟨rfl,rfl,rfl,w⟩)
  | slot cq sq jq K M a1 a6 hl=>
   have a2:=mj M;rw[a1]at a2;dsimp only at a2;obtain⟨hc,a7,hj⟩:=a2;have F:=aX hc;have g:=HI.on1 hc a7 hj (by rw[hl];rfl);have n:=H (q_ B x cf h K cq sq jq y L M a1 HD.key0 HD.key1 (λi a=>by
    have:=HI.openS (k:=eV cq+i) hc a7 hj g Z;rw[H_];exact this))
   have b8:(0:Int)<=(K:Int):=Z;have a:Hid (f=if sound cf h cq sq jq=false then(.no 5,h)else(.no 0,aL cf h cq sq jq)):=l;clear l F g a1 a6 hl;go_wp2_with fail;refine n.mono ?_;rintro e V2⟨rfl,b2⟩;have S2:=H (L.below b2);have B2:=H (L.bkB B1 HB b2);have X2:=H (ae z b2);clear b2 n L B1 z;cases g:sound cf h cq sq jq;·have A:=H (a.trans (GP g));clear g a;exact AU X2 A (LC _ _ (.no 5,h) X2 S2 B2 ⟨rfl,rfl,rfl,w⟩)
   have A:=H (a.trans (GO (by rw[g];decide)));clear g a;go_wp2_with fail;refine(FE _ S2 (Fx HB B2.bel.size) (H (by trivial))).mono ?_;rintro e V3⟨rfl,x3,g,n,F,s3,G⟩;have X3:=H (G.at X2 (eB ar));have S3:=H s3;have B3:=H (B2.trans G);have a:=H (IT g (IT n F));clear s3 G g n F;exact AU X3 A (LC _ _ (.no 0,aL cf h cq sq jq) X3 S3 B3 ⟨rfl,a.1,a.2.1,a.2.2⟩)
  |range r i hr hb b5=>
   have A:Hid (f=(.no 0,aJ cf h r)):=l;clear l;go_wp2_with fail;refine(FE _ L (Fx HB B1.bel.size) (H (by trivial))).mono ?_;rintro e V3⟨rfl,x3,g,n,F,s3,G⟩;have X3:=H (G.at z (eB ar));have S3:=H s3;have B3:=H (B1.trans G);have a:=H (IT g (IT n F));clear s3 G g n F;exact AU X3 A (LC _ _ (.no 0,aJ cf h r) X3 S3 B3 ⟨rfl,a.1,a.2.1,a.2.2⟩)
 ·have l:=H (show f=(match aB h p with
   | .no code=>(.no code,h)
   | .slot c s j=>(⟨0,0,eV c,[]⟩,h)
   | .range r=>(⟨0,0,r.pages*1024,[]⟩,h)) by
   rw[<-N.out];have:=HK.out;unfold NQ;dsimp only;(repeat(first|rw[GP Z]|rw[GO Z]));cases aB h p<;>rfl)
  rw[b0]at l;refine(FI _ t).mono ?_;rintro e y⟨rfl,q⟩;have L:=H (t.below q);have B1:=H (t.bkB BA HB q);have z:=H (ae XA q);clear q t BA XA o0 P o4 o5;unfold C4;have T:=b4.out;cases T with
  |no code hc=>
   have b7:(t3 !=0)=true:=(by rcases hc with rfl|rfl<;>rfl);have A:Hid (f=(.no t3,h)):=l;clear hc l;exact AU z A (LC _ _ (.no t3,h) z L B1 ⟨rfl,rfl,rfl,w⟩)
  |slot cq sq jq K M a1 a6 hl=>
   have a2:=mj M;rw[a1]at a2;dsimp only at a2;obtain⟨hc,a7,hj⟩:=a2;have b8:(0:Int)<=(K:Int):=Z;have A:Hid (f=(⟨0,0,eV cq,[]⟩,h)):=l;have n:y.cell? (Qz x.P 7)=some (.slice (some (Qz x.G 0)) 1062 x.gc):=L.cell 7 _ rfl;obtain⟨a,_,_,_,_,_⟩:=L.slot M;rw[a1]at a;have a:y.cell? (Qz x.G (K*6))=some (.int .i64 (cq:Nat)):=a;have g:=H (λV=>xq cq V hc);clear l a1 a6 hl;go_wp2_with fail;refine(g _).mono ?_;rintro e V2⟨rfl,b2⟩;have S2:=H (L.below b2);have B2:=H (L.bkB B1 HB b2);have X2:=H (ae z b2);clear b2 L B1 z n a g;exact AU X2 A (LC _ _ (⟨0,0,eV cq,[]⟩,h) X2 S2 B2 ⟨rfl,rfl,rfl,w⟩)
  |range r i hr n b5=>
   have F:=(Fz.1 hr).1;have g:=HI.rgs r (FM hr);have a3:r.pages<=96:=(by unfold Rg9.ext at g;omega);obtain⟨ra,rc,a⟩:=aK L.rg;obtain⟨G,rfl⟩:=cr (a▸L.rg) Z;obtain⟨_,_,_,d3,_,_⟩:=L.range a hr;have c9:y.cell? (Qz x.P 9)=some (.slice (some (Qz G 0)) h.rg.length rc):=(by rw[<-a];exact L.cell 9 _ rfl);have A:Hid (f=(⟨0,0,r.pages*1024,[]⟩,h)):=l;have a5:(i:Int)<(h.rg.length:Int):=Z;have HM:=H (show((r.pages*1024:Nat):Int)=((r.pages:Nat):Int)*1024 by simp);generalize r.pages=rp at*;clear l g a hr n b5;go_wp2_with (refine eG z ?_);refine fM (aw z _) underlying46 ?_;rw[A];refine⟨x,.slice none 0 0,?_,eL _ _,λg hg=>by simp[Value.ownBlock]at hg,rfl,rfl,w,L.off81 z _,B1.loc (aj _ R _) HR HQ HB⟩;unfold jP;dsimp only;rw[HM];rfl
 ·have l:=H (show f=(⟨ci h.m p (o.a:Int),0,0,if ci h.m p (o.a:Int)=0 then aH h.m p o.a else[]⟩,h) by
   rw[<-N.out];have:=HK.out;unfold NQ;dsimp only;rw[GO Z,GO Z,GO Z,GO Z,GO Z,GP this,GO Z])
  obtain⟨F,a3⟩:=Qa (ci h.m p (o.a:Int));rw[a3]at l;obtain⟨G,a⟩:=Qa (if F=0 then aH h.m p o.a else[]);rw[a]at l;obtain⟨vn,n⟩:=Qa G.length;have LD:Hid (∀V,Sx x.T x.Q 283 (cf.bud:Nat) h.m V->QA 79 #[.pointer (some (Qz x.T 0)),.int .u64 (p:Nat),.int .i64 (o.a:Nat)] V λe w'=>∃v,e=QJ (.agg #[.int .i64 F,v])/\w'.ownsRow V.heap.size 5 1 v vn (Ns .u8 G)/\D V w'):=(λV Q=>by
   have:=yY x.T x.Q 283 (cf.bud:Nat) h.m p (o.a:Int) V Q Z hp F a3;rw[F0,a]at this;have e:(if F=0 then o.a else 0)=vn:=by
    rw[<-n,<-a];split<;>simp[aH]
   rw[e]at this;exact this)
  have c0:=H n;have c5:IntKind.i64.wrap (o.a:Int)=(o.a:Int):=by rw[Hh];omega
  clear a3 a n;have c6:V.cell? (Qz x.P 6)=some (.pointer (some (Qz x.T 0))):=t.cell 6 _ rfl;go_upto_region 28 with fail
  go_cut [15] (λi w'=>∃(a:Nat)(va:QP)(vc:Nat),i=.pointer (some (Qz a 0))/\Hid (D V w')/\Hid (w'.heap[a]?=some (.cells #[.int .i64 F,.slice va vn vc] 172))/\Hid (w'.ownsRow V.heap.size 5 1 (.slice va vn vc) vn (Ns .u8 G)));case first=>
   refine rh (S:=λW'=>W'.cell? (Qz x.P 6)=some (.pointer (some (Qz x.T 0)))/\W'.cell? (Qz O 3)=some (.int .u64 (o.a:Nat))) ?_;have n:=(show _/\_ from⟨c6,P⟩);refine pk 0 (.pointer (some (Qz x.P 0))) n ?_;refine pk 1 (.pointer (some (Qz x.P 0))) n ?_;refine pk 2 (.pointer (some (Qz x.P 6))) n ?_;refine pz 3 (.pointer (some (Qz x.T 0))) n ?_;refine pk 4 (.int .u64 (p:Nat)) n ?_;refine pk 5 (.pointer (some (Qz O 3))) n ?_;refine pz 6 (.int .u64 (o.a:Nat)) n ?_;refine pz 7 (.int .i64 (o.a:Nat)) n ?_;refine lZ [8,9] λi9 a5=>?_;rcases(by simpa using a5:i9=8\/i9=9)with a5|a5
   ·subst a5;refine cw λK' M=>?_;go_simp;refine(LD _ (t.below (Fu _ _).drew).sp).mono ?_;rintro e y⟨v,rfl,w1,q⟩;have k1:D V y:=⟨q.os,q.tape,q.output,q.size,q.block⟩;have h1:_/\_:=⟨NI k1 c6,NI k1 P⟩;obtain⟨va,vc,a8⟩:=aK w1;subst a8;refine M _ _ ⟨h1,?_⟩;clear n;have n:=h1;clear M K';refine po 9 λK' M=>?_
    go_simp;have kA:D y (y.alloc (.cells #[.int .i64 0,.slice none 0 0] 172)):=(Fu _ _).alloc (Fv _) _;have h2:_/\_:=⟨NI kA h1.1,NI kA h1.2⟩;refine M _ _ ⟨h2,?_⟩;clear n;have n:=h2;clear M K';refine gu 10 ?_;have HZ:=ao y (.cells #[.int .i64 0,.slice none 0 0] 172);have k2:D y ((y.alloc (.cells #[.int .i64 0,.slice none 0 0] 172)).setRow y.heap.size #[.int .i64 F,.slice va vn vc]):=Below.setRow kA (Fv _) _;have kF:=az k1 k2;have zF:=aw HZ #[.int .i64 F,.slice va vn vc];have oF:=ai w1 (Ky.below k2:Ky (λ_=>False) _ _) (λe=>e);refine fB rfl rfl 172 _ _ rfl y.heap.size #[.int .i64 F,.slice va vn vc] rfl rfl 172 _ HZ E rfl mL ⟨⟨NI kF c6,NI kF P⟩,?_⟩;clear n;refine bY ?_;go_wp2_with fail;go_meet;case rel=>exact⟨_,va,vc,rfl,H kF,H zF,H oF⟩
   subst a5;refine cw λK' M=>?_;go_simp;have kA:D V (V.alloc (.cells #[.int .i64 0,.slice none 0 0] 172)).drew:=((Fu _ _).alloc (Fv _) _).drew;have h1:_/\_:=⟨NI kA c6,NI kA P⟩;refine M _ _ ⟨h1,?_⟩;clear n;have n:=h1;clear M K';refine po 8 λK' M=>?_
   go_simp;refine(LD _ (t.below kA).sp).mono ?_;rintro e y⟨v,rfl,w1,q⟩;have k1:=az kA q;have h2:_/\_:=⟨NI k1 c6,NI k1 P⟩;obtain⟨va,vc,a8⟩:=aK w1;subst a8;refine M _ _ ⟨h2,?_⟩;clear n;have n:=h2;clear M K';refine gu 10 ?_;have c1:(V.alloc (.cells #[.int .i64 0,.slice none 0 0] 172)).drew.heap[V.heap.size]?=some (.cells #[.int .i64 0,.slice none 0 0] 172):=ao V (.cells #[.int .i64 0,.slice none 0 0] 172);have HZ:=ae c1 q;have kF:D V (y.setRow V.heap.size #[.int .i64 F,.slice va vn vc]):=Below.setRow k1 (Fv _) _;have zF:=aw HZ #[.int .i64 F,.slice va vn vc];have oF:=dm (ai w1 (Ky.grown HZ rfl (aj y V.heap.size #[.int .i64 F,.slice va vn vc]):Ky (· =172) _ _) ar) kA.size;refine fB rfl rfl 172 _ _ rfl V.heap.size #[.int .i64 F,.slice va vn vc] rfl rfl 172 _ HZ E rfl mL ⟨⟨NI kF c6,NI kF P⟩,?_⟩;clear n;refine bY ?_;go_wp2_with fail;go_meet;case rel=>exact⟨_,va,vc,rfl,H kF,H zF,H oF⟩
  case rest=>
  obtain⟨a,va,vc,rfl,KF,ZF,OF⟩:=hcut;have k3:=KF.out;have S3:=H (t.below k3);have B3:=H (t.bkB BA HB k3);have X3:=H (ae XA k3);have Z3:=ZF.out;have O3:=OF;have a8:Hid (∀g,e_ x.Q wc g->g<V.heap.size):=(λg hg=>by
   obtain⟨c9,a5⟩:=t.sp.pgT (cV (k3.block x.Q t.ltQ) hg);exact ag a5)
  have z0:wc.cell? (Qz a 0)=some (.int .i64 F):=by simp[QC,Z3]
  have z1:wc.cell? (Qz a 1)=some (.slice va vn vc):=by simp[QC,Z3]
  have c1:Hid (W.heap.size<=V.heap.size):=BA.bel.size;clear k3 Z3 KF ZF LD c6 o0 P o4 o5;go_wp2_with (refine eG X3 ?_);refine fM (aw X3 _) underlying46 ?_;rw[l];have gR:=aj wc R #[.int .i64 F,.int .u64 0,.int .i64 0,.slice va vn vc];refine⟨x,.slice va vn vc,rfl,?_,λg hg hp=>?_,rfl,rfl,w,S3.off81 X3 _,B3.loc gR HR HQ HB⟩;·show World.ownsRow _ _ 5 1 _ G.length (Ns .u8 G);rw[c0];exact dm (ai O3 (Ky.grown X3 rfl gR:Ky (· =46) _ _) ar) c1
  have h1:V.heap.size<=g:=(aF O3 hg).1;obtain⟨cq,a5⟩:=S3.qrow;have h2:=a8.out g (cV (((Ky.grown X3 rfl gR:Ky (· =46) _ _).cells _ _ _ _ a5 ar).trans a5.symm) hp);omega
 have l:=H (show f=(.no (ci h.m p (o.ys.length:Int)),{h with m:=if ci h.m p (o.ys.length:Int)=0 then ay h.m p o.ys o.ys.length else h.m}) by
  rw[<-N.out];have:=HK.out;unfold NQ;dsimp only;rw[GO Z,GO Z,GO Z,GO Z,GO Z,GO Z,GP this])
 obtain⟨F,a3⟩:=Qa (ci h.m p (o.ys.length:Int));rw[a3]at l;have G:=H (λV(Q:Sx x.T x.Q 283 (cf.bud:Nat) h.m V)(hD:Dt x.Q V d o.ys.length o.ys)=>qR x.T x.Q 283 (cf.bud:Nat) h.m p o.ys.length dc d o.ys V Q hD Z hp F a3);clear a3;have c6:V.cell? (Qz x.P 6)=some (.pointer (some (Qz x.T 0))):=t.cell 6 _ rfl;refine rh (S:=λW'=>W'.cell? (Qz x.P 6)=some (.pointer (some (Qz x.T 0)))/\W'.cell? (Qz O 5)=some (.slice d o.ys.length dc)) ?_;have n:=(show _/\_ from⟨c6,o5⟩);refine pk 0 (.pointer (some (Qz x.P 0))) n ?_;refine pk 1 (.pointer (some (Qz x.P 0))) n ?_;refine pk 2 (.pointer (some (Qz x.P 6))) n ?_;refine pz 3 (.pointer (some (Qz x.T 0))) n ?_;refine pk 4 (.int .u64 (p:Nat)) n ?_;refine pk 5 (.pointer (some (Qz O 5))) n ?_;refine pz 6 (.slice d o.ys.length dc) n ?_;refine po 7 λK' M=>?_;go_simp;refine(G _ (t.below (Fu _ _).drew).sp (DT.keep (Sf.ofBelow (Fu _ _).drew t.ltQ))).mono ?_;rintro e y⟨rfl,x1,f1⟩;have L:=H ((t.below (Fu _ _).drew).space (Fx HB BA.bel.size) _ x1 f1);have B1:=H ((t.below (Fu _ _).drew).bkS (t.bkB BA HB (Fu _ _).drew) HB f1);have z:=H ((f1.ky (t.below (Fu _ _).drew).sp).cells _ _ _ _ XA ar);have a:=(f1.ky (t.below (Fu _ _).drew).sp).cells _ _ _ _ OA ar;have h1:_/\_:=⟨L.cell 6 _ rfl,(show y.cell? (Qz O 5)=some (.slice d o.ys.length dc) by simp only[QC,a];rfl)⟩;refine M _ _ ⟨h1,?_⟩;clear n;have n:=h1;clear M K';refine pk 8 (.int .i64 F) n ?_;refine pz 9 (.agg #[.int .i64 F,.int .u64 0,.int .i64 0,.slice none 0 0]) n ?_;refine gu 10 ?_;refine fB rfl rfl 46 _ _ rfl R #[.int .i64 F,.int .u64 0,.int .i64 0,.slice none 0 0] rfl rfl 46 _ z E rfl mL ⟨⟨(L.off81 z _).cell 6 _ rfl,(show(y.setRow R _).cell? (Qz O 5)=some (.slice d o.ys.length dc) by simp only[QC,vM a _ b6.out];rfl)⟩,?_⟩;clear n;refine bY ?_;clear x1 f1 c6 o0 P o4 o5 h1;go_wp2;refine fM (aw z _) underlying46 ?_;rw[l];exact cH rfl rfl rfl w (L.off81 z _) (B1.loc (aj _ R _) HR HQ HB)
def gZ(cf:Cf)(da:Option Addr)(dc:Nat):Value:=.agg #[I cf.mix,I cf.fifo,I cf.large,I cf.bud,U cf.key,.slice da cf.ds.length dc]
def DG:Prop:=∀(cf:Cf)(da:Option Addr)(dc:Nat)(W:World),mE cf->Sl W da cf.ds ->
 QA 42 #[gZ cf da dc] W λe W'=>∃x:Sm,e=.returned (J x.P 0)/\l_ x/\Sh W.heap.size x cf (aP cf) W'/\Below W.heap.size W W'
theorem b_{P:Program}{b:Func}{p q:Tmp}(h:b.results=#[.tmp p,.tmp q])(a:Array QN)(w:QM):(results b a).run P w=.ok (.tuple #[a.getD p undef,a.getD q undef]) w:=by
 simp[results,h]
theorem Few.new(cf):Few 0 (aP cf):=⟨Fv _,Fv _,Fv _,Fv _⟩
theorem CW(b:DG)(cf da dc A)(b8:Nat)(ops w)(f:mE cf)(b9:1<=cf.large)(d:Sl w da cf.ds)(g:Ois w A ops)(hN:ops.length<=300):
  QA 25 #[gZ cf da dc,.slice A ops.length b8] w λe W'=>∃(x:Sm)(l:List Aw)(v:QN)(B:Nat),e=QJ (.tuple #[J x.P 0,v])/\w.heap.size<=B/\l_ x/\Sh B x cf (NJ cf (ops.map df.o) (aP cf) []).1 W'/\l.map (·.1)=(NJ cf (ops.map df.o) (aP cf) []).2/\Rs B x.Q W' l v/\Below w.heap.size w W':=by
 have⟨N,a⟩:=Qa ops.length;rw[a];rw[a]at hN;have⟨HN,HO,HD⟩:=Qe a g f;have j:Below w.heap.size w (w.alloc (Qm cf da dc)):=(Fu _ _).alloc (Fv _) _;have c:=ao w (Qm cf da dc);have i:=H (λW(k:Below w.heap.size w W)=>b cf da dc W f (d.ky (Ky.below k:Ky (λ_=>False) _ _) (λe=>e)));unfold gZ at i⊢;have k:(w.alloc (Qm cf da dc)).cell? (Qz w.heap.size 0)=some (I cf.mix):=by simp only[QC,c];rfl
 have m:(w.alloc (Qm cf da dc)).cell? (Qz w.heap.size 1)=some (I cf.fifo):=by simp only[QC,c];rfl
 have n:(w.alloc (Qm cf da dc)).cell? (Qz w.heap.size 2)=some (I cf.large):=by simp only[QC,c];rfl
 have o:(w.alloc (Qm cf da dc)).cell? (Qz w.heap.size 3)=some (I cf.bud):=by simp only[QC,c];rfl
 have p:(w.alloc (Qm cf da dc)).cell? (Qz w.heap.size 4)=some (U cf.key):=by simp only[QC,c];rfl
 have q:(w.alloc (Qm cf da dc)).cell? (Qz w.heap.size 5)=some (.slice da cf.ds.length dc):=by simp only[QC,c];rfl
 have BW:=H j;clear c d g f a b j;go_enter func25,ntmps25;go_wp2_with fail;refine(i _ BW).mono ?_;rintro e W2⟨x0,rfl,a,f,g⟩;clear k m n o p q;generalize w.alloc _=X at BW f g;have⟨B,b⟩:=Qa X.heap.size;rw[b]at f g;have j:=H (show B<=X.heap.size by omega);have T:=H (show w.heap.size<=B by rw[<-b];exact BW.size);have⟨a6,S0,B0⟩:=Qe a f g;have⟨P0,c⟩:=Qa x0.P;have⟨S,d⟩:=Qa x0.Q;rw[c];have⟨a7,a8,a2⟩:=Qe c d (show∀V,Below B X V->Below w.heap.size w V from λV hV=>BW.trans (hV.mono T));clear a f g b c d;go_wp2;go_loopw [7,15] (λv i a=>∃k:Nat,k<=N/\i=I k/\∃(x:Sm)(l:List Aw),Hid (x.P=P0)/\Hid (x.Q=S)/\Hid (l_ x)/\Hid (Sh B x cf (NJ cf ((ops.take k).map df.o) (aP cf) []).1 a)/\Hid (l.map (·.1)=(NJ cf ((ops.take k).map df.o) (aP cf) []).2)/\Hid (Rs B S a l v)/\Hid (Below B X a)) (λ_ i _=>N-(intOf i).toNat);case atStart=>exact⟨0,FH _,rfl,x0,[],a7,a8,a6,S0,H rfl,H ⟨⟨rfl,.inl ⟨rfl,rfl⟩⟩,λy hy=>(by cases hy),List.Pairwise.nil⟩,B0⟩
 case round=>
  clear S0 B0 a6 a7 a8;obtain⟨k,hk,rfl,x,l,O,b,W,HS,f,HR,HB⟩:=hrel;have⟨va,vc,c0⟩:=aK HR.row;subst c0;by_cases c1:k<N
  ·obtain⟨q,F⟩:∃q,ops[k]?=some q:=⟨_,Fy (by rw[HN];exact c1)⟩;have a0:=FM F;obtain⟨G,rfl,hG,c⟩:=HO.at_ k q F;have a3:=HO.wf q a0;have c2:=H (λV(hV:Below B X V)(hp:∀g,e_ S V g->B<=g)(a:B<=S)=>HO.dt (a2 V hV) (Fx T a) (λg s=>Fx T (hp g s)) a0);have p:=a2.out _ HB;have u0:wr.cell? (Qz G (k*6))=some (I q.o.kd):=cR p (c 0 _ rfl);have u1:=cR p (c 1 _ rfl);have u2:=cR p (c 2 _ rfl);have u3:=cR p (c 3 _ rfl);have u4:=cR p (c 4 _ rfl);have u5:=cR p (c 5 _ rfl);obtain⟨⟨a,t⟩,n⟩:∃r,NJ cf ((ops.take k).map df.o) (aP cf) []=r:=⟨_,rfl⟩;have o:t.length=k:=by
    have:=ft cf ((ops.take k).map df.o) (aP cf) [];rw[n]at this;simp at this;rw[this,HN];omega
   have⟨iv,r⟩:=jp cf HD.fifo1 ((ops.take k).map df.o) (aP cf) [] 0 (Inv.new cf) (Few.new cf);rw[n]at iv r HS f;dsimp only at iv r HS f;have r:Few k a:=r.mono bG;have z:l.length=k:=(by have:=congrArg List.length f;simp at this;omega);have a9:=H z;have c6:l.length<=300:=Z;have d:NJ cf ((ops.take (k+1)).map df.o) (aP cf) []=((bU cf a t q.o).2,t++[(bU cf a t q.o).1]):=by
    rw[F_,F];simp only[IQ,Hr,It,List.map_nil];rw[gF,n]
   have NX:=H (show(NJ cf ((ops.take (k+1)).map df.o) (aP cf) []).1=(bU cf a t q.o).2 by rw[d]);have m:=H (show(NJ cf ((ops.take (k+1)).map df.o) (aP cf) []).2=t++[(bU cf a t q.o).1] by rw[d]);have⟨IV,FW,a1⟩:=Qe iv r o;have K:Below wr.heap.size wr (wr.alloc (Qn q)):=(Fu _ _).alloc (Fv _) _;have⟨Y1,S1,R1,B1⟩:=Qf (ao wr (Qn q)) (HS.below K) (HR.bk (Bk.ofBelow K (b.out▸HS.ltQ) (Fv _))) (show Below B X (wr.alloc (Qn q))from HB.trans (K.mono (Fx j HB.size)));have z1:(wr.alloc (Qn q)).cell? (Qz wr.heap.size 1)=some (I q.o.ref):=(by simp only[QC,Y1.out];rfl);clear c F n d iv r K p o HS HR HB z;have n:Hid (bU cf a t q.o=if q.o.ref=0 then NQ cf a q.o q.o.p else if q.o.ref<0\/(t.length:Int)<q.o.ref then(.no 6,a)else NQ cf a q.o ((q.o.p+((t[q.o.ref.toNat-1]?.map An4.addr).getD 0))%18446744073709551616)):=rfl;by_cases c:q.o.ref<0\/(k:Int)<q.o.ref
   ·have d:bU cf a t q.o=(.no 6,a):=(by rw[n,GO Z,GP (by rw[a1];exact c)]);rw[d]at NX m;clear d;have d:=S1;have p:=R1;have K:Below (wr.alloc (Qn q)).heap.size (wr.alloc (Qn q)) ((wr.alloc (Qn q)).alloc (.cells #[I 6,U 0,I 0,C] 46)):=(Fu _ _).alloc (Fv _) _;have⟨SA,P,LB,BA⟩:=Qf (S1.below K) (R1.bk (Bk.ofBelow (B:=0) K (b.out▸S1.ltQ) (FH _))) (show B<=((wr.alloc (Qn q)).alloc (.cells #[I 6,U 0,I 0,C] 46)).heap.size from Fx (Fx j B1.size) K.size) (show Below B X ((wr.alloc (Qn q)).alloc (.cells #[I 6,U 0,I 0,C] 46))from B1.trans (K.mono (Fx j B1.size)));have⟨v4,w4,e4,o4,g4⟩:=pA _ B (.slice va l.length vc) l ((An4.no 6,C):Aw) _ 1 P.row (ao (wr.alloc (Qn q)) (.cells #[I 6,U 0,I 0,C] 46)) rfl Z LB;have⟨cq,o⟩:=SA.qrow;rw[b]at o;have⟨k4,L,Q⟩:=Bk.ofAns P.row o g4;have⟨S4,B4⟩:=y7 (SA.kyO k4 (.inl rfl)) (BA.trans (Q B (Fv _) LB));have R4:=H (show Rs B S w4 (l++[((An4.no 6,C):Aw)]) v4 from⟨o4,λz hz=>by
     rcases F8.1 hz with M|M;·exact⟨ai (P.dat z M).1 k4 ar,λg s hp=>(P.dat z M).2 g s (L g hp)⟩
     simp at M;subst M;exact⟨eL _ _,λg s=>by simp[Value.ownBlock]at s⟩,by
     rw[Is];exact⟨P.dis,bH,λz hz u hu g s a4=>by
      simp at hu;subst hu;simp[Value.ownBlock]at a4⟩⟩)
    rw[aO]at e4;clear o4 k4 L Q o g4 K;by_cases R:q.o.ref<0
    ·clear c;go_wp2_with (at_builtin;refine cY rfl (.tmp 29) (.tmp 31) (by with_reducible rfl) rfl rfl rfl e4 ?_);go_roundw;(case rel=>exact⟨k+1,Z,aY,x,l++[((An4.no 6,C):Aw)],O,b,W,by rw[NX];exact S4,H (by rw[m,Hr,f];rfl),R4,B4⟩);case measure=>exact QE
    have a5:(l.length:Int)<q.o.ref:=(by have:=a9.out;omega);clear c;go_wp2_with (at_builtin;refine cY rfl (.tmp 29) (.tmp 31) (by with_reducible rfl) rfl rfl rfl e4 ?_);go_roundw;(case rel=>exact⟨k+1,Z,aY,x,l++[((An4.no 6,C):Aw)],O,b,W,by rw[NX];exact S4,H (by rw[m,Hr,f];rfl),R4,B4⟩);case measure=>exact QE
   skip
   have R:¬(q.o.ref<0):=Z;have a5:¬((l.length:Int)<q.o.ref):=(by have:=a9.out;omega);have z0:(wr.alloc (Qn q)).cell? (Qz wr.heap.size 0)=some (I q.o.kd):=(by simp only[QC,Y1.out];rfl);have z2:(wr.alloc (Qn q)).cell? (Qz wr.heap.size 2)=some (U q.o.p):=(by simp only[QC,Y1.out];rfl);have z3:(wr.alloc (Qn q)).cell? (Qz wr.heap.size 3)=some (U q.o.a):=(by simp only[QC,Y1.out];rfl);have z4:(wr.alloc (Qn q)).cell? (Qz wr.heap.size 4)=some (U q.o.b):=(by simp only[QC,Y1.out];rfl);have z5:(wr.alloc (Qn q)).cell? (Qz wr.heap.size 5)=some (.slice q.d q.o.ys.length q.dc):=(by simp only[QC,Y1.out];rfl);(go_upto_if 37 with fail);generalize wr.alloc _=V at Y1 S1 R1 B1 z0 z1 z2 z3 z4 z5⊢;generalize wr.heap.size=Y at Y1 z0 z1 z2 z3 z4 z5⊢;clear u0 u1 u2 u3 u4 u5;go_cut [10] (λd i=>∃pp:Nat,d=U pp/\pp<18446744073709551616/\Hid (bU cf a t q.o=NQ cf a q.o pp)/\i=V);case first=>
    by_cases p:q.o.ref=0
    ·have r:¬((0:Int)<q.o.ref):=Z;have HE:=H (n.trans (GP p));clear p c;go_wp2;go_meet;case rel=>exact⟨q.o.p,rfl,a3.1,HE,rfl⟩
    have r:(0:Int)<q.o.ref:=Z;obtain⟨d,F⟩:∃d:Nat,q.o.ref=(d:Int)+1:=⟨(q.o.ref-1).toNat,Z⟩;have b3:d<l.length:=Z;obtain⟨y,hy⟩:∃y,l[d]?=some y:=⟨_,Fy b3⟩;have⟨gA,b4⟩:=cr R1.row Z;subst b4;have cA:V.cell? (Qz gA (d*4+1))=some (U y.1.addr):=bC R1.row (d*4+1) _ (eC aC 4 (λ_=>rfl) l d y hy 1 Z);have HE:=H (show bU cf a t q.o=NQ cf a q.o ((q.o.p+y.1.addr)%18446744073709551616) by
     rw[n,GO p,GO (by rw[a1];exact c)];have e1:q.o.ref.toNat-1=d:=Z;have e2:t[d]?=some y.1:=(by rw[<-f.out,Gv,hy];rfl);rw[e1,e2];rfl)
    have b5:((d:Int)+1-1)=(d:Int):=Z;have c3:IntKind.i64.wrap ((d:Int)+1-1)=(d:Int):=(by rw[b5];rw[Hh];omega);have b7:(d:Int)<(l.length:Int):=Z;have b6:=H (show IntKind.u64.wrap ((q.o.p:Int)+(y.1.addr:Int))=(((q.o.p+y.1.addr)%18446744073709551616:Nat):Int) by rw[eu];simp);rw[F]at z1 r R a5⊢;clear p c hy F;generalize y.1.addr=p at*;go_wp2;go_meet;case rel=>exact⟨(q.o.p+p)%18446744073709551616,by rw[<-b6.out],Nat.mod_lt _ Z,HE,rfl⟩
   case rest=>
    obtain⟨pp,rfl,c3,HE,c4⟩:=hcut;subst c4;rw[HE]at NX m;have DO:=H (Dn B x cf a k q.o pp q.d q.dc wc ⟨S1,W,Fx j B1.size,IV,FW,Z,HD,b9,c3,a3.2.1,a3.2.2,b.out▸c2.out wc B1 (λg s=>S1.bg g (b.out▸s)) (b.out▸S1.bq)⟩);unfold eZ at DO;rw[O]at DO;have⟨r9,d⟩:=Qa (NQ cf a q.o pp);rw[d]at DO NX m;clear HE c R a5 d;go_wp2_with fail;refine DO.mono ?_;rintro e V2⟨x2,vd,rfl,od,np,b3,b4,b5,s2,b2⟩;have⟨p,r,c5⟩:=aK od;subst c5;rw[b]at np b2;have S2:=H s2;have F:=H (show x2.Q=S by rw[b4];exact b);have b6:=H (show x2.P=P0 by rw[b3];exact O);have⟨b7,R2,B2,LV⟩:=Qf b5 (R1.bk b2) (B1.trans b2.bel) (show B<=wc.heap.size from Fx j B1.size);have⟨d,r2⟩:=r9;clear s2 b2 b3 b4 b5;unfold jP;dsimp only at od NX m⊢;have K:Below V2.heap.size V2 (V2.alloc (.cells #[I d.code,U d.addr,I d.size,.slice p d.data.length r] 46)):=(Fu _ _).alloc (Fv _) _;have⟨SA,P,LB,BA⟩:=Qf (S2.below K) (R2.bk (Bk.ofBelow (B:=0) K (F.out▸S2.ltQ) (FH _))) (show B<=(V2.alloc (.cells #[I d.code,U d.addr,I d.size,.slice p d.data.length r] 46)).heap.size from Fx (Fx j B2.size) K.size) (show Below B X (V2.alloc (.cells #[I d.code,U d.addr,I d.size,.slice p d.data.length r] 46))from B2.trans (K.mono (Fx j B2.size)));have⟨v4,w4,e4,o4,g4⟩:=pA _ B (.slice va l.length vc) l ((d,.slice p d.data.length r):Aw) _ 1 P.row (ao V2 (.cells #[I d.code,U d.addr,I d.size,.slice p d.data.length r] 46)) rfl Z LB;have⟨cq,o⟩:=SA.qrow;rw[F]at o;have⟨k4,L,Q⟩:=Bk.ofAns P.row o g4;have⟨S4,B4⟩:=y7 (SA.kyO k4 (.inl rfl)) (BA.trans (Q B (Fv _) LB));have R4:=H (show Rs B S w4 (l++[((d,.slice p d.data.length r):Aw)]) v4 from⟨o4,λz hz=>by
     rcases F8.1 hz with M|M;·exact⟨ai (P.dat z M).1 k4 ar,λg s hp=>(P.dat z M).2 g s (L g hp)⟩
     simp at M;subst M;exact⟨dm (ai (ai od (Ky.below K:Ky (λ_=>False) _ _) (λe=>e)) k4 ar) LV,λg s hp=>np g s (cV (K.block S (F.out▸S2.ltQ)) (L g hp))⟩,by
     rw[Is];exact⟨P.dis,bH,λz hz u hu g s a4=>by
      simp at hu;subst hu;have M:=(aF od a4).1;have⟨_,c9,b3⟩:=aF (R1.dat z hz).1 s;have h2:=ag b3;omega⟩⟩)
    clear o4 k4 L Q o g4 K od np z0 z2 z3 z4 z5;go_wp2_with (at_builtin;refine cY rfl (.tmp 47) (.tmp 52) (by with_reducible rfl) rfl rfl rfl e4 ?_);go_roundw;(case rel=>exact⟨k+1,Z,aY,x2,l++[((d,.slice p d.data.length r):Aw)],b6,F,b7,by rw[NX];exact S4,H (by rw[m,Hr,f];rfl),R4,B4⟩);case measure=>exact QE
  obtain rfl:k=N:=Z;have a:Hid (ops.take k=ops):=(Ge (by rw[HN];exact Fv _));rw[a]at HS f;go_wp2;refine GX (b_ dU _ _) dU ?_;exact⟨x,l,_,B,by rw[O];rfl,T,W,HS,f,b.out▸HR.out,a2 _ HB⟩
section
variable {B M P R S c cap dc g k r s w:Nat}{sm:Nat->Nat}{v:Value}{V W W':World}{da:Option Addr}{cf:Cf}
theorem yy(m:Nat)(lim)(w:QM)(b:m<=16):
  QA 94 #[I m,I lim] w λe i=>∃g,e=QJ (.agg #[Vl g m m,C,I lim])/\RowV i g 3 (Ns .i64 (List.replicate m (-1)))/\w.heap.size<=g/\D w i:=by
 have j:=H (λW q(hr:RowV W q 3 (Ns .i64 [-1]))=>vB q m W b hr);have a:=lF w (.cells #[C,C,I 0] 113) (.cells #[I (-1)] 3);have⟨c,k,l⟩:=Qe (show RowV ((w.alloc (.cells #[C,C,I 0] 113)).alloc (.cells #[I (-1)] 3)) (w.heap.size+1) 3 (Ns .i64 [-1])from rowOf a.2.1) a.1 a.2.2;go_enter func94,ntmps94;go_wp2_with fail;refine(j _ _ c).mono ?_;rintro e b⟨g,rfl,n,d,f⟩;have a:=ae k f;have q:=H n;have o:=H (show w.heap.size+1<g by have:=c.lt;omega);have r:=H (az l f);have d:b.cell? (Qz w.heap.size 0)=some (C):=bJ a;have f:b.cell? (Qz w.heap.size 1)=some (C):=bJ a;have j:b.cell? (Qz w.heap.size 2)=some (I 0):=bJ a;have f0:b.frozen? (Qz w.heap.size 0)=false:=GY _ _ _ _ _ a;have f1:b.frozen? (Qz w.heap.size 1)=false:=GY _ _ _ _ _ a;have f2:b.frozen? (Qz w.heap.size 2)=false:=GY _ _ _ _ _ a;have c:=H a;go_wp2;refine GX (Gq dU _ _ w.heap.size 113 _ (0,0) _ dU (set3 c _ _ _) underlying113 rfl E) dU ?_;refine⟨g,rfl,((q.other (p:=(Qz _ _)) ?_ _).other (p:=(Qz _ _)) ?_ _).other (p:=(Qz _ _)) ?_ _,by have:=o.out;omega,((r.setCell (p:=(Qz _ _)) (Fv _) _).setCell (p:=(Qz _ _)) (Fv _) _).setCell (p:=(Qz _ _)) (Fv _) _⟩
 all_goals(have:=o.out;dsimp only;omega)
theorem AL(g)(w:QM):(Instr.typeAssert (.iface 278 (J g 0)) 206 278 true).run prog w=.ok (.tuple #[J g 0,.bool true]) w:=E
theorem Cw{a:Nat}(e:c<12):(co (a:Int)==(c:Int))=decide (a<=1016/\fD a=c):=by
 by_cases h:a<=1016
 ·have⟨d,_⟩:=zO h;rw[d];by_cases b:fD a=c;·simp[h,b]
  have:((fD a:Int)==(c:Int))=false:=bG;rw[this];simp[b]
 rw[show co (a:Int) = -1 from iX _ Z 12 0];have:((-1:Int)==(c:Int))=false:=bH;rw[this];simp[h]
theorem om(g b c s j)(a:Nat)(W)(h:Sc g b c s j W):
  QA 155 #[.iface 268 (J g 0),U a] W λe W'=>e=QJ (.bool (decide (a<=1016/\fD a=c)))/\D W W':=by
 have⟨f,i⟩:=y7 (λV(d:D W V)=>lB (a:Nat) Z V (h.below d).tb) (Cw (a:=a) h.hc);have n:=λw=>BJ g w
 have⟨k,_,l,_,_,_,_,_⟩:=h;generalize d:decide (a<=1016/\fD a=c)=bb at*;clear d;generalize co (a:Int)=x at*;go_enter func155,ntmps155;go_upto_region 4 with fail
 refine rh (S:=λd=>QG d g 2 (J b 0)/\QG d b 0 (I c)) ?_;have d:=(⟨k,l⟩:QG W.drew g 2 (J b 0)/\QG W.drew b 0 (I c));refine py d ?_;simp only[f0,f1,Nat.reduceAdd,lz,l0,ls];refine pk 2 (J g 0) d ?_;refine pk 3 (J g 0) d ?_;refine pk 4 (J g 2) d ?_;refine pz 5 (J b 0) d ?_;refine pk 6 (J b 0) d ?_;refine pk 7 (J b 0) d ?_;refine pz 8 (I c) d ?_;refine po 1 λK' m=>?_;go_simp;refine(f _ (Fu _ _).drew).mono ?_;rintro e o⟨rfl,rfl⟩;refine m _ _ ⟨d,?_⟩;clear m K'
 iterate 2 (refine py d ?_;simp only[f0,f1,Nat.reduceAdd,lz,l0,ls])
 refine bY ?_;rw[i];clear d k l;go_wp2;go_ret;exact⟨rfl,(Fu _ _).drew⟩
theorem nU(g)(a:Nat)(r W)(h:Lc g r W)(ha:a<18446744073709551616):
  QA 155 #[.iface 278 (J g 0),U a] W λe W'=>e=QJ (.bool (decide (1016<a/\aR a=r.pages)))/\D W W':=by
 have f:=H (λV=>km a V ha);have o:=λw=>CY g w
 have n:=λw=>AL g w
 have d:=h.c4;clear h;by_cases l:1016<a
 ·have c:=H (show decide (1016<a/\aR a=r.pages)=(((aR a:Nat):Int)==((r.pages:Nat):Int)) by
   by_cases e:aR a=r.pages;·simp[l,e]
   have:(((aR a:Nat):Int)==((r.pages:Nat):Int))=false:=bG;rw[this];simp[e])
  have i:decide ((1016:Int)<(a:Int))=true:=bG;generalize decide (1016<a/\aR a=r.pages)=p at*;generalize aR a=j at*;generalize r.pages=rp at*;go_enter func155,ntmps155;go_upto_region 7 with fail
  refine rh (S:=λk=>QG k g 4 (I rp)) ?_;have b:=(d:QG W.drew g 4 (I rp));refine pk 0 (U a) b ?_;refine pz 1 Ql b ?_;refine pk 2 Ql b ?_;refine pk 3 (U a) b ?_;refine pk 5 (J g 0) b ?_;refine pk 6 (J g 0) b ?_;refine pk 7 (J g 4) b ?_;refine pz 8 (I rp) b ?_;refine po 4 λK' m=>?_;go_simp;refine(f _).mono ?_;rintro e q⟨rfl,rfl⟩;refine m _ _ ⟨b,?_⟩;clear m K';refine pk 9 (.bool ((j:Int)==(rp:Int))) b ?_;refine pk 10 (.bool ((j:Int)==(rp:Int))) b ?_;refine pk 11 (.bool ((j:Int)==(rp:Int))) b ?_;refine bY ?_;rw[<-c.out];clear b d;go_wp2;go_ret;exact⟨rfl,(Fu _ _).drew⟩
 have c:=H (show decide (1016<a/\aR a=r.pages)=false by simp[l]);rw[c];have i:decide ((1016:Int)<(a:Int))=false:=bG;generalize r.pages=rp at*;go_enter func155,ntmps155;go_upto_region 7 with fail
 refine rh (S:=λk=>QG k g 4 (I rp)) ?_;have b:=(d:QG W.drew g 4 (I rp));refine pk 0 (U a) b ?_;refine pz 1 Qk b ?_;refine pk 2 Qk b ?_;refine ps 3 b ?_;refine ps 4 b ?_;refine ps 5 b ?_;refine ps 6 b ?_;refine ps 7 b ?_;refine ps 8 b ?_;refine ps 9 b ?_;refine pk 10 Qk b ?_;refine pk 11 Qk b ?_;refine bY ?_;clear b d;go_wp2;go_ret;exact⟨rfl,(Fu _ _).drew⟩
theorem zi(w:QM):(binOp .eql 20 .nilIface .nilIface).run prog w=.ok Ql w:=E
theorem As(c)(w:QM):(binOp .eql 20 (.iface 203 (.agg #[I c])) .nilIface).run prog w=.ok Qk w:=E
theorem Bq(c)(w:QM):(Instr.typeAssert (.iface 203 (.agg #[I c])) 20 203 true).run prog w=.ok (.tuple #[.agg #[I c],.bool true]) w:=E
theorem Ar(X2 X4)(W:QM):
  CallsD prog 96 #[J X2 0,J X4 0] .returning W λe a W'=>e=QJ (.tuple #[])/\a=.returning/\W'=W:=by
 have e1:=zi;refine callsD_of_wpS func96 rfl λb d c=>?_;apply wpS_seq;apply wpS_region;simp[wpOpsS,go_sem,recoverD,c,ntmps96,Exit.thenS];refine wpS_of_wp ?_;go_wp2
 cases b
 simp_all [bodyPostS,results,Tryz.results96]
def Fp(B:Nat)(y:Ly)(cf:Cf)(h:Hs)(an:Value)(j:Nat)(code:Int)(W:World)(e:Ending)(t:FrameMode)(W':World):Prop:=e=.returned (.tuple #[])/\t=.panicking [{v:=.iface 203 (.agg #[I code]),recovered:=true}]/\∃V i,D W V/\Hg B y cf h an i/\Bi B V i/\W'=i.setRow j #[I code,U 0,I 0,C]
theorem xT(B)(y:Ly)(cf h an)(f b:Nat)(code)(W:QM)(e:QG W f 0 (J y.P 0))(g:W.heap[b]?=some Qt)(i:Tk B y cf h an W):
  CallsD prog 96 #[J f 0,J b 0] (.panicking (ip code)) W (Fp B y cf h an b code W):=by
 have e1:=As code;have o:=Bq code;have a:D W (W.alloc (.cells #[I code] 203)):=(Fu _ _).alloc (Fv _) _;have c:=NI a e;have⟨j,d,m⟩:=Qe (i _ a) (ae g a) a;have k:=ao W (.cells #[I code] 203);refine callsD_of_wpS func96 rfl λp q g=>?_;unfold ip at g;apply wpS_seq;apply wpS_region;simp[wpOpsS,go_sem,recoverD,g,ntmps96,Exit.thenS];simp only[FP,FO,FY,FV,F5,Iv,Fw,FA,FB];refine wpS_of_wp ?_;go_wp2_with fail;refine(j).mono ?_;rintro e V⟨rfl,i,a⟩;have n:=H (a.ky.cells _ _ _ _ d (by unfold hI;decide));have r:=cN (a.ky.cells _ _ _ _ k (by unfold hI;decide));have l:=H (IT i a);go_wp2_with (refine eG n ?_);refine⟨rfl,_,rfl,.tuple #[],by simp[results,Tryz.results96],rfl,rfl,_,V,m,l.1,l.2,rfl⟩
def Dw(sm:Nat->Nat)(n:Nat):List Value:=(List.range n).map λj=>J (sm j) 0
theorem w_(sm:Nat->Nat)(n x:Nat):Dw (λk=>if k=n then x else sm k) (n+1)=Dw sm n++[J x 0]:=by
 unfold Dw;rw[Gs,Hr];congr 1
 ·refine List.map_congr_left λk a=>?_;have:=Gh.1 a;have e:¬k=n:=Z
  simp[e]
 simp
structure Sl9(B g c s n:Nat)(sm:Nat->Nat)(v:QN)(W:QM):Prop where
 box:W.heap[g]?=some (.cells #[I c,I s,.bool false,v] 267)
 row:W.ownsRow B 268 1 v n (Dw sm n)
 sms:∀j,j<n->W.heap[sm j]?=some (.cells (Oe 0 0 g j) 272)/\B<=sm j
 inj:∀i j,i<n->j<n->sm i=sm j->i=j
 bg:B<=g
theorem Sl9.ky{S n}(h:Sl9 B g c s n sm v W)(k:Ky S W W')(b:¬S 267)(d:¬S 268)(e:¬S 272):Sl9 B g c s n sm v W':=
 ⟨k.cells _ _ _ _ h.box b,ai h.row k d,λj a=>⟨k.cells _ _ _ _ (h.sms j a).1 e,(h.sms j a).2⟩,h.inj,h.bg⟩
theorem Sl9.below{B g c s n sm v W W'}(h:Sl9 B g c s n sm v W)(b:D W W'):Sl9 B g c s n sm v W':=
 h.ky (Ky.below b:Ky (λ_=>False) W W') (λe=>e) (λe=>e) (λe=>e)
theorem Sl9.add{n}(h:Sl9 B g c s n sm v V)(t:B<=V.heap.size)(T:n<=100):
  ∃f a,QI 265 v (Vl (V.heap.size+1) 1 1) ((V.alloc (.cells (Oe 0 0 g n) 272)).alloc (.cells #[J V.heap.size 0] 268)) f a/\a.cell? (Qz g 3)=some v/\a.frozen? (Qz g 3)=false/\Sl9 B g c s (n+1) (λk=>if k=n then V.heap.size else sm k) f (a.setCell (Qz g 3) f)/\Below B V (a.setCell (Qz g 3) f):=by
 have⟨O,z,A,F,G⟩:=G0 ul;have⟨m,b⟩:=Qb (V.alloc (.cells (Oe 0 0 g n) 272));have⟨l,o⟩:=Qb (m.alloc (.cells #[J V.heap.size 0] 268));have Q:m.heap.size=V.heap.size+1:=by rw[b];exact aO _ _
 have w:D V m:=by rw[b];exact(Fu _ _).alloc (Fv _) _
 have x:D m l:=by rw[o];exact(Fu _ _).alloc (Fv _) _
 have l1:m.heap[V.heap.size]?=some (.cells (Oe 0 0 g n) 272):=by rw[b];exact ao _ _
 have l2:l.heap[V.heap.size]?=some (.cells (Oe 0 0 g n) 272):=ae l1 x;have l3:l.heap[V.heap.size+1]?=some (.cells #[J V.heap.size 0] 268):=by rw[o,<-Q];exact ao _ _
 have p:=(h.below w).below x;have q:B<=l.heap.size:=Fx (Fx t w.size) x.size;rw[<-b,<-o];have⟨f,a,R,S,N,_⟩:=Ia (P:=prog) l B 265 265 268 O (.pointer none) 1 8 underlying265 z A F G rfl Z v n (Dw sm n) p.row ⟨V.heap.size+1,0,none⟩ 1 1 [J V.heap.size 0] rfl (λj u r=>by
  cases j with
  |zero=>simp at r;subst r;rw[Addr.add_mid];exact cN l3
  |succ j=>simp at r) (λu b=>by simp at b;subst b;rfl) (by unfold maxLen;omega) Z q
 have K:Ky (· =268) l a:=Ky.grownO (λP L=>by obtain⟨_,c,d⟩:=aF p.row L;exact⟨c,268,_,d,rfl⟩) N;have d:=K.cells _ _ _ _ p.box ar;have M:Ky (· =267) a (a.setCell (Qz g 3) f):=Ky.grown d rfl (au (al a g) 3 f);refine⟨f,a,R,by simp[QC,d],by simp[QD,d],⟨by simp[World.setCell,FD,d],?_,λj r=>?_,λi j W r e=>?_,h.bg⟩,?_⟩;·rw[w_];exact ai S M ar
 ·by_cases e:j=n;·rw[GP e,e];exact⟨M.cells _ _ _ _ (K.cells _ _ _ _ l2 ar) ar,t⟩
  rw[GO e];have:=p.sms j Z;exact⟨M.cells _ _ _ _ (K.cells _ _ _ _ this.1 ar) ar,this.2⟩
 ·by_cases e1:i=n
  ·by_cases y:j=n;·omega
   rw[GP e1,GO y]at e;have:=ag (h.sms j Z).1;omega
  by_cases y:j=n;·rw[GO e1,GP y]at e;have:=ag (h.sms i Z).1;omega
  rw[GO e1,GO y]at e;exact h.inj i j Z Z e
 exact(((w.mono t).trans (x.mono (Fx t w.size))).grown N q (λP L=>(aF p.row L).1)).setCell h.bg _
structure Slb(B:Nat)(W:QM)(c s g r cap:Nat)(sm:Nat->Nat):Prop where
 box:W.heap[g]?=some (.cells (CZ c s false r (aM c) cap) 267)
 row:RowV W r 268 ((List.range (aM c)).map λj=>J (sm j) 0)
 sms:∀j,j<aM c->W.heap[sm j]?=some (.cells (Oe 0 0 g j) 272)/\B<=sm j
 inj:∀i j,i<aM c->j<aM c->sm i=sm j->i=j
 bg:B<=g
 br:B<=r
theorem Sl9.done(h:Sl9 B g c s (aM c) sm v W)(a:c<12):∃r cap,Slb B W c s g r cap sm:=by
 have e:=aX a;rcases h.row.2 with⟨_,f⟩|⟨r,cap,b,rfl,d,i,j,k,l,m⟩;·omega
 exact⟨r,cap,h.box,RowV.ofOwns h.row,h.sms,h.inj,h.bg,d⟩
theorem tf(c s:Nat)(d:c<12)(W)(a:Tb W):
  QA 95 #[I c,I s] W λe W'=>∃g r cap sm,e=QJ (J g 0)/\Slb W.heap.size W' c s g r cap sm/\D W W':=by
 have m:=aX d;have b:=H (λV(f:D W V)=>gK (c:Nat) V (a.ofBelow f));rw[vA d]at b;have q:=H (λB g sm v V(h:Sl9 B g c s (aM c) sm v V)=>h.done d);have l:=H (show Sl9 W.heap.size W.heap.size c s 0 (λ_=>0) (C) (W.alloc (.cells #[I c,I s,.bool false,C] 267))from⟨ao W _,⟨rfl,.inl ⟨rfl,rfl⟩⟩,λj d=>Z,λi j d=>Z,Fv _⟩);have j:D W (W.alloc (.cells #[I c,I s,.bool false,C] 267)):=(Fu _ _).alloc (Fv _) _;have f:=H j;clear j a;have t:aM c<=64:=Z;generalize aM c=n at*;clear m;go_enter func95,ntmps95;go_wp2_with fail;refine(b _ f).mono ?_;rintro e V⟨rfl,a⟩;rw[a];clear a V b;generalize W.alloc (.cells #[I c,I s,.bool false,C] 267)=u at*;have⟨g,a⟩:=Qb W.heap.size;rw[<-a];have m:=H (show Sl9 W.heap.size g c s 0 (λ_=>0) (C) u by rw[a];exact l);clear l a;go_wp2;go_loopw [13] (λi wr=>∃(k:Nat)(sm:Nat->Nat)(v:QN),k<=n/\i=I k/\Hid (Sl9 W.heap.size g c s k sm v wr)/\Hid (D W wr)) (λi _=>n-(intOf i).toNat);case atStart=>exact⟨0,_,_,FH _,rfl,m,f⟩
 case round=>
  clear m f;obtain⟨k,sm,v,F,rfl,b,j⟩:=hrel;by_cases w:k<n
  ·obtain⟨x,y,z,rfl⟩:=aA b.row;have⟨G,K,a,L,f3,l,o⟩:=b.add j.size Z;obtain⟨M,N,wc,rfl⟩:=aA l.row;have p:=H (IT l (j.trans o));have A:wr.cell? (Qz g 3)=some (.slice x y z):=(by simp[QC,b.box]);clear l o;unfold Oe at a;go_wp2_with (at_builtin;refine cY rfl _ _ rfl rfl rfl rfl a ?_);go_wp2;go_roundw;(case rel=>exact⟨k+1,_,_,Z,aY,H p.1,H p.2⟩);case measure=>exact QE
  obtain rfl:k=n:=Z;go_wp2;go_ret;have⟨r,cap,a⟩:=q.out _ _ _ _ _ b;exact⟨g,r,cap,sm,rfl,a,j⟩
structure D2 where
 g:Nat
 r:Nat
 cap:Nat
 sm:Nat->Nat
structure Do where
 m:Nat
 r:Nat
 g:Nat
 q:Nat
def Eo(mix:Nat)(q:Do)(k:Nat):Value:=if k=0 then J q.m 0 else if k=1 then J q.g 0 else if mix=0 then .iface 146 (J q.g 0)else .iface 145 (J q.m 0)
def nw(cf:Cf)(da:Option Addr)(dc S R:Nat)(fl:Nat->D2)(e:Nat->Do)(k w:Nat)(i:Nat):Value:=
 if i<7 then([I cf.mix,I cf.fifo,I cf.large,I cf.bud,U cf.key,.slice da cf.ds.length dc,J S 0]:List Value)[i]?.getD undef
 else if i<79 then(if i-7<k then J ((fl (i-7)).g) 0 else .pointer none)
 else if i<115 then(if(i-79)/3<w then Eo cf.mix (e ((i-79)/3)) ((i-79)%3)else if(i-79)%3=2 then .nilIface else .pointer none)
 else([.map (some R),C,C,I 0,C,.nilFunc]:List Value)[i-115]?.getD undef
structure Nh(B P S M R:Nat)(da:QP)(dc:Nat)(cf:Cf)(fl:Nat->D2)(qs:Nat->Do)(k w:Nat)(W:QM):Prop where
 box:Bxh P (nw cf da dc S R fl qs k w) W
 bW:B<=W.heap.size
 ds:Sl W da cf.ds
 dab:∀a,da=some a->a.block<B
 sp:Im S M 0 283 (cf.bud:Nat) (λ_=>none) W
 mp:Mr R 0 (λ_=>none) W
 bP:B<=P
 bS:B<=S
 bM:B<=M
 bR:B<=R
 mr:M≠R
 sl:∀i,i<k->Slb B W (i/6) (i%6) (fl i).g (fl i).r (fl i).cap (fl i).sm
 is:∀i j,i<k->j<k->i≠j->(fl i).g≠(fl j).g/\∀a b,a<aM (i/6)->b<aM (j/6)->(fl i).sm a≠(fl j).sm b
 wt:∀c,c<w->Qr W (qs c).m (qs c).r (qs c).g (qs c).q cf.fifo (List.replicate cf.mix (-1)) []/\B<=(qs c).m/\B<=(qs c).r/\B<=(qs c).g/\B<=(qs c).q
 iq:∀c c',c<w->c'<w->c≠c'->(qs c).r≠(qs c').r/\(qs c).r≠(qs c').q/\(qs c).q≠(qs c').q/\(qs c).g≠(qs c').g
 tb:Tb W
 b0:6<B
theorem Slb.ky{S}(h:Slb B W c s g r cap sm)(k:Ky S W W')(b:¬S 267)(d:¬S 268)(e:¬S 272):Slb B W' c s g r cap sm:=
 ⟨k.cells _ _ _ _ h.box b,cL h.row k d,λj a=>⟨k.cells _ _ _ _ (h.sms j a).1 e,(h.sms j a).2⟩,h.inj,h.bg,h.br⟩
theorem Slb.mono{b:Nat}(h:Slb B W c s g r cap sm)(a:b<=B):Slb b W c s g r cap sm:=
 ⟨h.box,h.row,λj d=>⟨(h.sms j d).1,Fx a (h.sms j d).2⟩,h.inj,Fx a h.bg,Fx a h.br⟩
theorem Nh.below{B P S M R da dc cf fl qs k w W W'}(h:Nh B P S M R da dc cf fl qs k w W)(b:D W W'):Nh B P S M R da dc cf fl qs k w W':=by
 have a:Ky (λ_=>False) W W':=Ky.below b;have⟨j,c,f⟩:=h.mp.typ;exact⟨h.box.ky a (λe=>e),Fx h.bW b.size,h.ds.below b,h.dab,h.sp.ky a (λe=>e) (b.block _ h.sp.lt.2),h.mp.same (b.block _ (ag f)),h.bP,h.bS,h.bM,h.bR,h.mr,λi g=>(h.sl i g).ky a (λe=>e) (λe=>e) (λe=>e),h.is,λc d=>⟨(h.wt c d).1.ky a (λe=>e) (λe=>e) (λe=>e),(h.wt c d).2⟩,h.iq,h.tb.ofBelow b,h.b0⟩
theorem Nh.setP{fl qs}(h:Nh B P S M R da dc cf fl qs k w W)(j:Nat)(v:QN):Ky (· =154) W (W.setCell (Qz P j) v)/\Below B W (W.setCell (Qz P j) v)/\(W.setCell (Qz P j) v).heap[M]?=W.heap[M]?/\(W.setCell (Qz P j) v).heap[R]?=W.heap[R]?:=by
 have f:M≠P:=λe=>by
  have⟨c,d,_⟩:=h.box;obtain⟨a,⟨g,i,b,_⟩,_⟩:=h.sp.map;rw[e,d]at b;cases b
 have a:R≠P:=λe=>by
  have⟨c,d,_⟩:=h.box;have⟨g,i,b⟩:=h.mp.typ;rw[e,d]at b;cases b
 exact⟨h.box.kyS j v,(Fu B W).setCell h.bP _,GQ _ _ _ _ f,GQ _ _ _ _ a⟩
theorem Nh.addS{fl qs}(h:Nh B P S M R da dc cf fl qs k w V)(b:D V W)(f:Slb V.heap.size W (k/6) (k%6) g r cap sm)(G:k<72):
  Nh B P S M R da dc cf (λi=>if i=k then⟨g,r,cap,sm⟩else fl i) qs (k+1) w (W.setCell (Qz P (7+k)) (J g 0)):=by
 have d:=h.below b;have⟨n,p,v,x⟩:=d.setP (7+k) (J g 0);have y:=h.bW;have t:=d.box.set (7+k) Z (J g 0);have z:kK (nw cf da dc S R fl qs k w) (7+k) (J g 0)=nw cf da dc S R (λi=>if i=k then⟨g,r,cap,sm⟩else fl i) qs (k+1) w:=by
  funext i;unfold kK nw;by_cases e:i=7+k;·subst e;rw[GP rfl,GO Z,GP Z,GP Z];simp
  rw[GO e];by_cases l:i<7;·rw[GP l,GP l]
  rw[GO l,GO l];by_cases a:i<79
  ·rw[GP a,GP a];by_cases j:i-7<k;·rw[GP j,GP Z];simp[show¬(i-7=k) by omega]
   rw[GO j,GO Z]
  rw[GO a,GO a]
 rw[z]at t;refine⟨t,Fx d.bW p.size,d.ds.belowB p h.dab,h.dab,d.sp.ky n ar v,d.mp.same x,h.bP,h.bS,h.bM,h.bR,h.mr,λi o=>?_,λi j o K q=>?_,λc u=>⟨(d.wt c u).1.ky n ar ar ar,(d.wt c u).2⟩,h.iq,d.tb.belowB p h.b0,h.b0⟩
 ·by_cases e:i=k;·subst e;simp only[GP];exact(f.mono y).ky n ar ar ar
  simp only[GO e];exact(d.sl i Z).ky n ar ar ar
 have l:∀i,i<k->(fl i).g<V.heap.size/\∀a,a<aM (i/6)->(fl i).sm a<V.heap.size:=λi o=>⟨ag (h.sl i o).box,λa ha=>ag ((h.sl i o).sms a ha).1⟩
 by_cases e1:i=k
 ·have m:¬j=k:=Z;have:=l j Z;simp only[GP e1,GO m];refine⟨by have:=f.bg;omega,λa b ha s=>?_⟩;have A:=(f.sms a (by rw[<-e1];exact ha)).2;have F:=this.2 b s;omega
 by_cases m:j=k;·have:=l i Z;simp only[GO e1,GP m];refine⟨by have:=f.bg;omega,λa b ha s=>?_⟩;have A:=(f.sms b (by rw[<-m];exact s)).2;have F:=this.2 a ha;omega
 simp only[GO e1,GO m];exact h.is i j Z Z q
theorem Nh.addW{fl qs}(h:Nh B P S M R da dc cf fl qs k w V)(b:D V W){m q}(F:Qr W m r g q cf.fifo (List.replicate cf.mix (-1)) [])(Y:V.heap.size<=m/\V.heap.size<=r/\V.heap.size<=g/\V.heap.size<=q)(hw:w<12)(v:W'=((W.setCell (Qz P (79+w*3)) (J m 0)).setCell (Qz P (79+w*3+1)) (J g 0)).setCell (Qz P (79+w*3+2)) (if cf.mix=0 then .iface 146 (J g 0)else .iface 145 (J m 0))):
  Nh B P S M R da dc cf fl (λi=>if i=w then⟨m,r,g,q⟩else qs i) k (w+1) W':=by
 have d:=h.below b;have⟨c,j,G,K⟩:=d.box;have⟨p,n⟩:=Qb (if cf.mix=0 then .iface 146 (J g 0)else .iface 145 (J m 0):QN);rw[<-n]at v;have x:=((d.box.set (79+w*3) Z (J m 0)).set (79+w*3+1) Z (J g 0)).set (79+w*3+2) Z p;rw[<-v]at x;have s:W.grownBy W' (some P):=by rw[v];exact au (au (au (al W P) _ _) _ _) _ _
 have t:Ky (· =154) W W':=Ky.grown j rfl s;have y:Below B W W':=(Fu B W).grown s d.bW (λr a=>by simp at a;have:=h.bP;omega);have L:M≠P:=λe=>by
  obtain⟨a,⟨z,A,d,_⟩,_⟩:=d.sp.map;rw[e,j]at d;cases d
 have N:R≠P:=λe=>by
  have⟨z,A,d⟩:=d.mp.typ;rw[e,j]at d;cases d
 have O:W'.heap[M]?=W.heap[M]?:=s.block _ d.sp.lt.2 (by simpa using L);have Q:W'.heap[R]?=W.heap[R]?:=by
  have⟨z,A,a⟩:=d.mp.typ;exact s.block _ (ag a) (by simpa using N)
 have T:kK (kK (kK (nw cf da dc S R fl qs k w) (79+w*3) (J m 0)) (79+w*3+1) (J g 0)) (79+w*3+2) p=nw cf da dc S R fl (λi=>if i=w then⟨m,r,g,q⟩else qs i) k (w+1):=by
  funext i;unfold kK nw;by_cases l:i=79+w*3+2;·rw[GP l,GO Z,GO Z,GP Z,GP Z,show(i-79)/3=w by omega,show(i-79)%3=2 by omega,n];simp[Eo]
  rw[GO l];by_cases e1:i=79+w*3+1;·rw[GP e1,GO Z,GO Z,GP Z,GP Z,show(i-79)/3=w by omega,show(i-79)%3=1 by omega];simp[Eo]
  rw[GO e1];by_cases e0:i=79+w*3;·rw[GP e0,GO Z,GO Z,GP Z,GP Z,show(i-79)/3=w by omega,show(i-79)%3=0 by omega];simp[Eo]
  rw[GO e0];by_cases u:i<7;·rw[GP u,GP u]
  rw[GO u,GO u];by_cases f:i<79;·rw[GP f,GP f]
  rw[GO f,GO f];by_cases a:i<115
  ·rw[GP a,GP a];by_cases o:(i-79)/3<w;·rw[GP o,GP Z];simp[show¬((i-79)/3=w) by omega]
   rw[GO o,GO (show¬(i-79)/3<w+1 by omega)]
  rw[GO a,GO a]
 rw[T]at x;have a:∀c,c<w->(qs c).r<V.heap.size/\(qs c).g<V.heap.size/\(qs c).q<V.heap.size:=λc j=>by
  obtain⟨⟨q1,f⟩,⟨ps,o,hh,u,X,_⟩,_⟩:=(h.wt c j).1;exact⟨f.lt,ag u,X.lt⟩
 have hB:=h.bW;refine⟨x,Fx d.bW y.size,d.ds.belowB y h.dab,h.dab,d.sp.ky t ar O,d.mp.same Q,h.bP,h.bS,h.bM,h.bR,h.mr,λi u=>(d.sl i u).ky t ar ar ar,h.is,λc j=>?_,λc f j X o=>?_,d.tb.belowB y h.b0,h.b0⟩
 ·by_cases e:c=w;·subst e;simp only[GP];exact⟨F.ky t ar ar ar,Z,Z,Z,Z⟩
  simp only[GO e];exact⟨(d.wt c Z).1.ky t ar ar ar,(d.wt c Z).2⟩
 by_cases e1:c=w
 ·have l:¬f=w:=Z;have:=a f Z;simp only[GP e1,GO l];exact⟨Z,Z,Z,Z⟩
 by_cases l:f=w;·have:=a c Z;simp only[GO e1,GP l];exact⟨Z,Z,Z,Z⟩
 simp only[GO e1,GO l];exact h.iq c f Z Z o
def Fa(P S M R:Nat)(da:Option Addr)(dc:Nat)(fl:Nat->D2)(e:Nat->Do):Ly where
 P:=P
 S:=S
 M:=M
 R:=R
 sb:=λc s=>(fl (c*6+s)).g
 sr:=λc s=>(fl (c*6+s)).r
 sc:=λc s=>(fl (c*6+s)).cap
 sm:=λc s j=>(fl (c*6+s)).sm j
 qm:=λc=>(e c).m
 qr:=λc=>(e c).r
 qg:=λc=>(e c).g
 qq:=λc=>(e c).q
 da:=da
 dc:=dc
def BP:Dy where
 f:=λ_=>none
 on:=λ_ _=>false
 lg:=λ_=>none
 ro:=C
 rl:=C
 an:=C
 un:=.nilFunc
theorem Nh.made{fl qs}(h:Nh B P S M R da dc cf fl qs 72 12 W):Hp B (Fa P S M R da dc fl qs) BP cf (aP cf) W/\Gd BP (aP cf) (C):=by
 have n:∀c s:Nat,c<12->s<6->c*6+s<72/\(c*6+s)/6=c/\(c*6+s)%6=s:=λc s a d=>Z
 refine⟨⟨⟨h.b0,h.bP,h.bS,h.bM,h.bR,h.mr,λc s a d=>?_,λc s a d=>?_,λc s j a d u=>?_,λc a=>(h.wt c a).2,λc s p v a d m q e=>?_,λc s j p v A a d u m q w e=>?_,λc p a m y=>h.iq c p a m y,h.dab⟩,h.bW,?_,h.ds,h.sp,?_,(λk g e=>by cases e),λc s a d=>?_,λc s a d=>?_,λc s j a d u=>?_,λc a=>?_,h.mp,(λk=>rfl),(λr b=>by cases b),(λk F g e=>by cases e),?_,?_,?_,h.tb⟩,?_⟩;·have⟨f,l,t⟩:=n c s a d;exact(h.sl _ f).bg
 ·have⟨f,l,t⟩:=n c s a d;exact(h.sl _ f).br
 ·have⟨f,l,t⟩:=n c s a d;exact((h.sl _ f).sms j (by rw[l];exact u)).2
 ·by_cases z:c*6+s=p*6+v;·exact⟨Z,Z⟩
  exact absurd e (h.is _ _ (n c s a d).1 (n p v m q).1 z).1
 ·have⟨f,l,t⟩:=n c s a d;have⟨b,i,o⟩:=n p v m q;by_cases z:c*6+s=p*6+v;·obtain⟨rfl,rfl⟩:c=p/\s=v:=⟨Z,Z⟩;exact⟨rfl,rfl,(h.sl _ f).inj j A (by rw[l];exact u) (by rw[l];exact w) e⟩
  exact absurd e ((h.is _ _ f b z).2 j A (by rw[l];exact u) (by rw[i];exact w))
 ·have⟨c,G,K,L⟩:=h.box;refine⟨c,G,K,λi N=>?_⟩;rw[L i N];unfold nw boxF;congr 1;by_cases x:i<7;·rw[GP x,GP x];rfl
  rw[GO x,GO x];by_cases o:i<79;·rw[GP o,GP o,GP Z];show _=Value.pointer (some ⟨(fl ((i-7)/6*6+(i-7)%6)).g,0,none⟩);rw[show(i-7)/6*6+(i-7)%6=i-7 by omega]
  rw[GO o,GO o];by_cases b:i<115;·rw[GP b,GP b,GP Z];rfl
  rw[GO b,GO b];rfl
 ·exact⟨λk=>.inl ⟨rfl,rfl⟩,λk F b e=>by cases e⟩
 ·have⟨f,l,t⟩:=n c s a d;have:=(h.sl _ f).box;rw[l,t]at this;exact this
 ·have⟨f,l,t⟩:=n c s a d;have:=(h.sl _ f).row;rw[l]at this;exact this
 ·have⟨f,l,t⟩:=n c s a d;exact((h.sl _ f).sms j (by rw[l];exact u)).1
 ·exact(h.wt c a).1
 ·exact .inl ⟨rfl,rfl⟩
 ·exact⟨rfl,.inl ⟨rfl,rfl⟩⟩
 ·intro g e;cases e
 exact⟨λc s a d=>rfl,rfl,rfl⟩
end
end Go.Proofs.YtdhegekcmmlohaaGreatDoor
