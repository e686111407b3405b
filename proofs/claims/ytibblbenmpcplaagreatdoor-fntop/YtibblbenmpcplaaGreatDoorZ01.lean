import Derived.Test.YtibblbenmpcplaaGreatDoorZ00
import Derived.Test.YtibblbenmpcplaaGreatDoorN39
set_option linter.unusedVariables false
set_option linter.unusedSimpArgs false
set_option maxRecDepth 20000
set_option maxHeartbeats 8000000
namespace Go.Proofs.YtibblbenmpcplaaGreatDoor
open Go.Proofs.Tryz
variable {m:Nat->Option (Bool × List Int)} {a c j k n off p s:Nat} {o:Option Nat} {cf:Cf} {h h1:Hs} {W' w:World}
section
open Go.RowKit Go.Maps
theorem x6 (x) {q:Bool×List Int} (h:m (p/1024)=some q) (a:q.2.length=1024):bO (dZ m p x) p=x:=by
 unfold bO dZ;rw [bV,h];simp only [Hi,Ht];rw [List.getElem?_set_self Z];rfl
theorem pH {m} (h:Fine m) (a ys):∀ k,Fine (ay m a ys k)
 | 0=>h
 | k+1=>(pH h a ys k).put _ _
theorem vL {o:Option (Bool×List Int)} (h:isOpen o=true):∃ q,o=some q:=by
 cases o with
 | none=>simp [isOpen] at h
 | some q=>exact ⟨q,rfl⟩
theorem pq {m} (h:Fine m) (a:Nat) (ys):∀ k i,i<k->isOpen (m ((a+i)/1024))=true->bO (ay m a ys k) (a+i)=ys[i]?.getD 0
 | 0,i,d,_=>by omega
 | k+1,i,d,b=>by
  simp only [ay]
  by_cases e:i=k
  ·subst e
   have h1:=eO m a ys i ((a+i)/1024)
   rw [b] at h1
   obtain⟨q,c⟩:=vL h1
   exact x6 _ c ((pH h a ys i) _ _ c).2
  ·rw [vz _ _ _ _ Z]
   exact pq h a ys k i Z b
theorem Inv.num9 (i:Inv cf h) (a:c<12) {v:Int} (b:v∈nM h c):0<=v/\v.toNat/aM c<6/\v.toNat%aM c<aM c/\((v.toNat/aM c*aM c+v.toNat%aM c:Nat):Int)=v/\h.st c (v.toNat/aM c) (v.toNat%aM c)=2:=by
 have k:=aX a;have g:0<=v:=by
  rw [oO] at b;unfold nq at b;obtain⟨h1,e⟩:=Gk.1 b;simp at e;rcases F8.1 h1 with d|d;·have:=i.mxn c a v d;omega
  ·exact i.ffn c a v d
 have j:=i.wlt c a v b;have d:v.toNat/aM c<6:=Nat.div_lt_of_lt_mul (by rw [GL];omega);have e:v.toNat%aM c<aM c:=Nat.mod_lt _ Z;have f:((v.toNat/aM c*aM c+v.toNat%aM c:Nat):Int)=v:=by
  rw [Nat.div_add_mod'];omega
 refine⟨g,d,e,f,?_⟩;rw [i.wait c _ _ a d e,f];exact b
theorem sT (i:Inv cf h) (o:1<=cf.fifo) (g:c<12) (z:s<6) (r:j<aM c) (B:h.st c s j=1) :
  ∃ a b v,a<6/\b<aM c/\aE h.st c s j 2 c a b=2/\(v=2\/v=3)/\(aL cf h c s j).st=aE (aE h.st c s j 2) c a b v/\(aL cf h c s j).rg=h.rg /\
   ((aL cf h c s j).m=ay h.m (bh c s j) (List.replicate (cy c) 0) (cy c)\/((aL cf h c s j).m=bQ (ay h.m (bh c s j) (List.replicate (cy c) 0) (cy c)) (aD c a) (dI c)/\∀ k,k<aM c->be ((aL cf h c s j).st c a k)=true)):=by
 have L:=aX g;obtain⟨M,N,O,P,F⟩:=rG (d:=((if cf.mix=0 then 0 else dr cf h cf.mix:Nat):Int)) (x:=((s*aM c+j:Nat):Int)) o (i.ffl c g) Z (i.ffn c g) (i.mxn c g);rw [cW];rcases i.freed o g z r B with ⟨e,_⟩|⟨a,b,e,l,m,t,u,_,_⟩
 ·rw [GP e];refine⟨s,j,2,z,r,aS _ _ _ _ _,.inl rfl,?_,rfl,.inl rfl⟩;rw [gy (aE h.st c s j 2) (aS _ _ _ _ _)];rfl
 ·rw [GO Z,l,m];have w:er cf h c s j∈((s*aM c+j:Nat):Int)::nM h c:=by
   rcases F with ⟨G,_⟩|⟨_,K⟩;·exact absurd G (by unfold er at e;omega)
   ·rw [oO];exact K.mem_iff.2 (List.mem_cons_self ..)
  have p:aE h.st c s j 2 c a b=2:=by
   rcases F4.1 w with q|q
   ·rw [q] at l m;have:=pb (n:=aM c) (s:=s) r;rw [F0] at l m;rw [this.1] at l;rw [this.2] at m;rw [<-l,<-m,aS]
   ·obtain⟨_,_,_,_,A⟩:=i.num9 g q;rw [l,m] at A;by_cases y:c=c/\a=s/\b=j;·rw [y.2.1,y.2.2,aS]
    ·rw [aU _ _ y];exact A
  refine⟨a,b,3,t,u,p,.inr rfl,?_,?_,?_⟩
  ·unfold bK;dsimp only;split <;> rfl
  ·unfold bK;dsimp only;split <;> rfl
  ·unfold bK;dsimp only;split
   ·rename_i f;exact .inr ⟨rfl,ka.1 f⟩
   ·exact .inl rfl
theorem rb (cf):∀ (l r:List fL) (h:Hs) (a:List An4),bd cf (l++r) h a=bd cf r (bd cf l h a).1 (bd cf l h a).2
 | [],r,h,a=>rfl
 | o::l,r,h,a=>rb cf l r _ _
theorem nD (cf):∀ (r:List fL) (h:Hs) (a:List An4),(bd cf r h a).2.take a.length=a
 | [],h,a=>G9
 | o::r,h,a=>by
  show (bd cf r _ _).2.take a.length=a
  have:=nD cf r (bU cf h a o).2 (a++[(bU cf h a o).1])
  have b:=congrArg (List.take a.length) this
  rw [List.take_take,FC,Hz Z,Iz (Fv _),G9] at b
  exact b
theorem rP (cf) (a:List fL) (i:Nat) (b:i<=a.length):(bd cf a (aP cf) []).2.take i=(bd cf (a.take i) (aP cf) []).2:=by
 have e:=rb cf (a.take i) (a.drop i) (aP cf) [];rw [List.take_append_drop] at e;have:=nD cf (a.drop i) (bd cf (a.take i) (aP cf) []).1 (bd cf (a.take i) (aP cf) []).2;rw [<-e,ft,Hm,Hz b] at this;simpa using this
end
section
open Go.RowKit Go.Shelf Go.Maps
theorem IU {w'} (h:D w w') {g:Nat} {o:Obj} (a:w.heap[g]?=some o):w'.heap[g]?=some o:=by rw [h.block g (ag a)];exact a
theorem Od6.bel {B q W} (h:Od6 B q W) (b:D W W'):Od6 B q W':=⟨h.p,h.a,h.b,by
 rcases h.d.2 with a|⟨g,e,c,h1,a,d,f⟩
 ·exact⟨h.d.1,.inl a⟩
 ·exact⟨h.d.1,.inr ⟨g,e,c,h1,a,by rw [b.block g (ag d)];exact d,f⟩⟩,h.r,h.y⟩
theorem zR {o:Oper} {a:Act} (b:TypeId) (x:Operand) (d:o.op=.load b x) (g:Nat) (e:a.eval x=.pointer (some ⟨g,0,none⟩)) {c:Array Value} (f:(loadVar b ⟨g,0,none⟩).run prog w=.ok (.agg c) w):(execOp a.eval o).run prog w=.ok (.value (.agg c)) w:=by
 unfold execOp;simp only [d,e,Instr.loadAt,Instr.sureAddr,Sem.run_bind,Sem.run_pure,Result.andThen_ok,f]
theorem Ois.low {V A ops} (h:Ois w A ops) (b:D w V):Ois V A ops :=
 ⟨λk q a=>by obtain ⟨G,h1,c,d⟩:=h.at_ k q a;exact⟨G,h1,FG c b.size,λj u e=>ad b (d j u e)⟩,h.wf,λq a i f=>by obtain ⟨x,h1,c,d⟩:=h.dat q a i f;exact⟨x,h1,ad b c,FG d b.size⟩⟩
theorem ER (V) (k:Nat):D V (V.drewN k):=⟨rfl,rfl,rfl,Fv _,λ_ _=>rfl⟩
theorem uw {b c d e f g i j k:Value} (a:∀ v∈[b,c,d,e,f,g,i,j,k],v.oneCell'=true):(#[.bool true,b,c,d,e,f,g,i,j,k]:Array Value).all (·.oneCell')=true:=by
 have h:=a;simp only [F4,Gp,or_false,forall_eq_or_imp,forall_eq] at h;obtain⟨l,m,h1,n,o,p,q,r,s⟩:=h;rw [<-Array.all_toList];simp only [List.all_cons,List.all_nil,Bool.and_true,Gi];exact⟨rfl,l,m,h1,n,o,p,q,r,s⟩
structure Cy9 (p:Nat) (w0:World) (a:Option Addr) (len cap R:Nat) (b0:World) (X Y:Nat) (c:Cd) (W:World):Prop where
 rd:Rp p w0 a len cap R b0 W
 rn:R<b0.heap.size
 x:W.heap[X]?=some (.cells (pQ c).toArray 26)
 xn:b0.heap.size<=X
 y:W.heap[Y]?=some (.cells #[I 0,I 0,I 0,I 0,U 0,C] 26)
 yn:b0.heap.size<=Y
 xy:X≠Y
 od:Ok4 b0.heap.size c W
section
variable {p:Nat} {w0:World} {a:Option Addr} {len cap R:Nat} {b0 W:World} {X Y:Nat} {c:Cd}
theorem Cy9.upd (h:Cy9 p w0 a len cap R b0 X Y c W) (i:Nat) (v:Value) (c') (f:pQ c'=(pQ c).set i v) (d:Ok4 b0.heap.size c' W):Cy9 p w0 a len cap R b0 X Y c' (W.setCell ⟨X,i,none⟩ v):=by
 have g:=h.rn;have b:W.grownBy (W.setCell ⟨X,i,none⟩ v) (some X):=au (al W X) i v;have j:=h.xn;refine⟨h.rd.app b (λr e=>by cases e;omega),g,?_,h.xn,?_,h.yn,h.xy,d.kept b (eD d.d h.x ar)⟩;·rw [f];simp [World.setCell,FD,h.x]
 rw [b.block Y (ag h.y) (λe=>by cases e;exact h.xy rfl)];exact h.y
theorem Cy9.next (h:Cy9 p w0 a len cap R b0 X Y c W) {p'} (b:Rp p' w0 a len cap R W W'):Cy9 p' w0 a len cap R b0 X Y c W':=by
 have d:=h.rn;have f:=h.xn;have g:=h.yn;refine⟨h.rd.of b,d,?_,h.xn,?_,h.yn,h.xy,h.od.kept b.g (λe=>by have:=(h.od.d.lt R e).1;omega)⟩;·rw [b.g.block X (ag h.x) (λe=>by cases e;omega)];exact h.x
 rw [b.g.block Y (ag h.y) (λe=>by cases e;omega)];exact h.y
theorem Cy9.below (h:Cy9 p w0 a len cap R b0 X Y c W) {W'} (b:D W W'):Cy9 p w0 a len cap R b0 X Y c W':=h.next (h.rd.at.below b)
theorem Cy9.drew (h:Cy9 p w0 a len cap R b0 X Y c W):Cy9 p w0 a len cap R b0 X Y c W.drew:=h.below (Fu _ _).drew
theorem Cy9.cells (h:Cy9 p w0 a len cap R b0 X Y c W):W.cell? ⟨X,0,none⟩=some (I c.mi)/\W.cell? ⟨X,1,none⟩=some (I c.fi)/\W.cell? ⟨X,2,none⟩=some (I c.la)/\W.cell? ⟨X,3,none⟩=some (I c.bu)/\W.cell? ⟨X,4,none⟩=some (U c.ky)/\W.cell? ⟨X,5,none⟩=some (.slice c.da c.ds.length c.dc):=by
 have:=h.x;simp [World.cell?,this,pQ]
theorem Cy9.fr (h:Cy9 p w0 a len cap R b0 X Y c W) (i:Nat):W.frozen? ⟨X,i,none⟩=false:=by simp [World.frozen?,h.x]
theorem Cy9.setMi (h:Cy9 p w0 a len cap R b0 X Y c W) (x:Int):Cy9 p w0 a len cap R b0 X Y { c with mi:=x } (W.setCell ⟨X,0,none⟩ (I x)):=h.upd 0 _ _ rfl ⟨h.od.k0,h.od.k1,h.od.dw,h.od.d⟩
theorem Cy9.setFi (h:Cy9 p w0 a len cap R b0 X Y c W) (x:Int):Cy9 p w0 a len cap R b0 X Y { c with fi:=x } (W.setCell ⟨X,1,none⟩ (I x)):=h.upd 1 _ _ rfl ⟨h.od.k0,h.od.k1,h.od.dw,h.od.d⟩
theorem Cy9.setLa (h:Cy9 p w0 a len cap R b0 X Y c W) (x:Int):Cy9 p w0 a len cap R b0 X Y { c with la:=x } (W.setCell ⟨X,2,none⟩ (I x)):=h.upd 2 _ _ rfl ⟨h.od.k0,h.od.k1,h.od.dw,h.od.d⟩
theorem Cy9.setBu (h:Cy9 p w0 a len cap R b0 X Y c W) (x:Int):Cy9 p w0 a len cap R b0 X Y { c with bu:=x } (W.setCell ⟨X,3,none⟩ (I x)):=h.upd 3 _ _ rfl ⟨h.od.k0,h.od.k1,h.od.dw,h.od.d⟩
theorem Cy9.app (h:Cy9 p w0 a len cap R b0 X Y c W) (O:c.ds.length<=1000) (d:Int) (z : -40<=d/\d<=215):∃ b f g,
  (Builtin.append_ #[24,24] 24 #[.slice c.da c.ds.length c.dc,Vl W.heap.size 1 1]).run prog (W.alloc (.cells #[I d] 3))=.ok (.slice b (c.ds.length+1) f) g /\
  g.frozen? ⟨X,5,none⟩=false/\g.cell? ⟨X,5,none⟩=some (.slice c.da c.ds.length c.dc)/\Cy9 p w0 a len cap R b0 X Y { c with ds:=c.ds++[d],da:=b,dc:=f } (g.setCell ⟨X,5,none⟩ (.slice b (c.ds.length+1) f)):=by
 obtain⟨A,k,l,m,n⟩:=G0 Cj;have B:=(Fu W.heap.size W).alloc (Fv _) (.cells #[I d] 3);have h1:=h.below B;have F:=h1.rd.g.size;obtain⟨Q,g,G,o,q,_⟩:=run_append_own_at (P:=prog) (w:=W.alloc (.cells #[I d] 3)) b0.heap.size 24 24 3 A _ 1 8 underlying24 k l m n rfl Z _ _ _ h1.od.d ⟨W.heap.size,0,none⟩ 1 1 [I d] rfl (ek _ _ _ _ rfl) (by intro u e;simp at e;subst e;rfl) (by unfold maxLen;omega) Z F;obtain⟨b,S,f,rfl⟩:=fW o;obtain rfl:=xh o;have K:=h.rn;have T:=h.xn;have L:∀ r,(Value.slice c.da c.ds.length c.dc).ownBlock=some r->b0.heap.size<=r/\R<r:=λr e=>by have:=(h.od.d.lt r e).1;omega
 have M:(Value.slice c.da c.ds.length c.dc).ownBlock≠some X:=eD h.od.d h.x ar;have N:(Value.slice c.da c.ds.length c.dc).ownBlock≠some Y:=eD h.od.d h.y ar;have j:g.heap[X]?=some (.cells (pQ c).toArray 26):=by rw [q.block X (ag h1.x) (λe=>M e.symm)];exact h1.x
 have v:g.heap[Y]?=some (.cells #[I 0,I 0,I 0,I 0,U 0,C] 26):=by rw [q.block Y (ag h1.y) (λe=>N e.symm)];exact h1.y
 have s:=h1.rd.app q L;have t:g.grownBy (g.setCell ⟨X,5,none⟩ (.slice b (c.ds.length+1) f)) (some X):=au (al g X) 5 _;have y:g.ownsRow b0.heap.size 3 1 (.slice b (c.ds.length+1) f) (c.ds++[d]).length (Ns .i64 (c.ds++[d])):=by simpa [Ns] using o
 refine⟨b,f,g,G,by simp [World.frozen?,j],by simp [World.cell?,j,pQ],⟨s.app t (λr e=>by cases e;omega),K,?_,h.xn,?_,h.yn,h.xy,⟨h.od.k0,h.od.k1,?_,?_⟩⟩⟩;·simp [World.setCell,FD,j,pQ]
 ·rw [t.block Y (ag v) (λe=>by cases e;exact h.xy rfl)];exact v
 ·intro x i;rcases F8.1 i with i|i;·exact h.od.dw x i
  obtain rfl:=List.mem_singleton.1 i;exact z
 have:(Value.slice b (c.ds++[d]).length f)=.slice b (c.ds.length+1) f:=bH;show World.ownsRow _ _ _ _ (Value.slice b (c.ds++[d]).length f) _ _;rw [this];exact y.kept t (.inr (eD y j ar))
end
def tx (zs:List Int) (p:Nat):Nat->List Int×Nat
 | 0=>([],p)
 | k+1=>((tx zs p k).1++[(gH zs (tx zs p k).2:Int)-40],gS zs (tx zs p k).2)
theorem qX (zs p):∀ k,(tx zs p k).1.length=k
 | 0=>rfl
 | k+1=>by
  show ((tx zs p k).1++[(gH zs (tx zs p k).2:Int)-40]).length=k+1
  rw [FC,qX zs p k];rfl
theorem A3 (zs p):∃ (c:Cd) (b:Nat),c.ds.length<=60/\∀ (w0:World) (a:Option Addr) (len cap:Nat),Cbq9 zs w0 a len cap->∀ (R:Nat) (W:World),Rp p w0 a len cap R W W ->
  Calls prog 9 #[J R 0] W λe W'=>∃ V dc,e=.returned (.agg (pQ { c with da:=V,dc:=dc }).toArray)/\Ok4 W.heap.size { c with da:=V,dc:=dc } W'/\Rp b w0 a len cap R W W':=by
 have N1:=H (cE zs p);have hk:=dL zs p;generalize gH zs p=k at hk N1;generalize gS zs p=p1 at N1;have N2:=H (cE zs p1);have a1:=dL zs p1;generalize gH zs p1=Q at a1 N2;generalize gS zs p1=p2 at N2;obtain⟨u,p3,b,a2,a3⟩:=qP zs p2;have WD:=H b;clear b;have N3:=H (cE zs p3);have a4:=dL zs p3;generalize gH zs p3=c9 at a4 N3;generalize gS zs p3=p4 at N3;obtain⟨o,s,b,HA⟩:∃ (o:Cd) (s:Nat),(o.ds=[]/\o.da=none/\o.dc=0)/\Hid ((((k:Int)==255)=true/\o=⟨16+(c9:Int)%2,(k:Int)/4%5+1,(k:Int)/20%3+1,(Q:Nat),u,[],none,0⟩/\s=p4)\/(((k:Int)==255)=false/\((k:Int)==254)=true/\o=⟨(k:Int)%4,32+(c9:Int)%2,(k:Int)/20%3+1,(Q:Nat),u,[],none,0⟩/\s=p4)\/(((k:Int)==255)=false/\((k:Int)==254)=false/\((k:Int)==253)=true/\o=⟨(k:Int)%4,(k:Int)/4%5+1,(c9:Int)%2*17,(Q:Nat),u,[],none,0⟩/\s=p4)\/(((k:Int)==255)=false/\((k:Int)==254)=false/\((k:Int)==253)=false/\((k:Int)==252)=true/\o=⟨(k:Int)%4,(k:Int)/4%5+1,(k:Int)/20%3+1,283+(c9:Int)%2,u,[],none,0⟩/\s=p4)\/(((k:Int)==255)=false/\((k:Int)==254)=false/\((k:Int)==253)=false/\((k:Int)==252)=false/\o=⟨(k:Int)%4,(k:Int)/4%5+1,(k:Int)/20%3+1,(Q:Nat),u,[],none,0⟩/\s=p3)):=by
  cases g0:((k:Int)==255);case true=>exact ⟨_,_,⟨rfl,rfl,rfl⟩,H (.inl ⟨rfl,rfl,rfl⟩)⟩
  cases g1:((k:Int)==254);case true=>exact ⟨_,_,⟨rfl,rfl,rfl⟩,H (.inr (.inl ⟨rfl,rfl,rfl,rfl⟩))⟩
  cases g2:((k:Int)==253);case true=>exact ⟨_,_,⟨rfl,rfl,rfl⟩,H (.inr (.inr (.inl ⟨rfl,rfl,rfl,rfl,rfl⟩)))⟩
  cases g3:((k:Int)==252);case true=>exact ⟨_,_,⟨rfl,rfl,rfl⟩,H (.inr (.inr (.inr (.inl ⟨rfl,rfl,rfl,rfl,rfl,rfl⟩))))⟩
  exact⟨_,_,⟨rfl,rfl,rfl⟩,H (.inr (.inr (.inr (.inr ⟨rfl,rfl,rfl,rfl,rfl,rfl⟩))))⟩
 obtain⟨t,f,HB⟩:∃ t:Cd,(t.ds=[]/\t.da=none/\t.dc=0)/\Hid ((((k:Int)%3==0)=true/\t={ o with bu:=wrap64 (3+Int.tmod o.bu 12) })\/(((k:Int)%3==0)=false/\t=o)):=by
  cases g9:((k:Int)%3==0);·exact⟨o,b,H (.inr ⟨rfl,rfl⟩)⟩
  exact⟨{ o with bu:=wrap64 (3+Int.tmod o.bu 12) },b,H (.inl ⟨rfl,rfl⟩)⟩
 have N4:=H (cE zs s);have a5:=dL zs s;generalize gH zs s=c6 at a5 N4;generalize gS zs s=w at N4;obtain⟨n,hn,g⟩:∃ n:Nat,n<60/\(c6:Int)%60=(n:Int):=⟨c6%60,Z,Z⟩;have a6:=H g;have a7:=H f;clear g b f;refine⟨{ t with ds:=(tx zs w n).1 },(tx zs w n).2,by rw [qX];omega,?_⟩;intro w0 a len cap b R W l;have S:=H b;have NN:=H (λp=>cE zs p w0 a len cap b R);have AP:=H gn;have RN:=H l.lt;have f:=H (l.below ((Fu _ _).alloc (Fv _) (.cells #[I 0,I 0,I 0,I 0,U 0,C] 26)));have g:=H (ao W (.cells #[I 0,I 0,I 0,I 0,U 0,C] 26));clear b l;go_enter func9,ntmps9;go_wp2_with fail;generalize W.alloc (.cells #[I 0,I 0,I 0,I 0,U 0,C] 26)=V1 at f g ⊢;refine (N1 w0 a len cap S R _ _ f.at).mono ?_;rintro e V2 ⟨rfl,b⟩;have l:=H (f.of b);have m:=H ((b.g.block _ (ag g) (λe=>by cases e;have:=RN.out;omega)).trans g);clear b f g;go_wp2_with fail;refine (N2 w0 a len cap S R _ _ l.at).mono ?_;rintro e V3 ⟨rfl,b⟩;have f:=H (l.of b);have g:=H ((b.g.block _ (ag m) (λe=>by cases e;have:=RN.out;omega)).trans m);clear b l m;go_wp2_with fail;refine (WD w0 a len cap S R _ _ f.at).mono ?_;rintro e V4 ⟨rfl,b⟩;have l:=H (f.of b);have q:=H ((b.g.block _ (ag g) (λe=>by cases e;have:=RN.out;omega)).trans g);clear b f g;have m:=H (show Cy9 p3 w0 a len cap R W V4.heap.size W.heap.size ⟨(k:Int)%4,(k:Int)/4%5+1,(k:Int)/20%3+1,(Q:Nat),u,[],none,0⟩ (V4.alloc (.cells #[I ((k:Int)%4),I ((k:Int)/4%5+1),I ((k:Int)/20%3+1),I Q,U u,C] 26)) from by
  have b:=(Fu V4.heap.size V4).alloc (Fv _) (.cells #[I ((k:Int)%4),I ((k:Int)/4%5+1),I ((k:Int)/20%3+1),I Q,U u,C] 26);have f:=ag q.out;exact⟨l.below b,RN,ao V4 _,l.g.size,by rw [b.block _ f];exact q,Fv _,Z,⟨a2,a3,λx f=>(by cases f),⟨rfl,.inl ⟨rfl,rfl⟩⟩⟩⟩)
 clear l q;go_upto_block 0 with fail
 generalize V4.alloc (.cells #[I ((k:Int)%4),I ((k:Int)/4%5+1),I ((k:Int)/20%3+1),I Q,U u,C] 26)=V5 at m ⊢;generalize V4.heap.size=X at m ⊢;generalize a9:W.heap.size=Y at m ⊢;go_cut [25] (λ_ w'=>Hid (Cy9 s w0 a len cap R W X Y o w'));case first =>
  rcases HA.out with ⟨g0,rfl,rfl⟩|⟨g0,g1,rfl,rfl⟩|⟨g0,g1,g2,rfl,rfl⟩|⟨g0,g1,g2,g3,rfl,rfl⟩|⟨g0,g1,g2,g3,rfl,rfl⟩
  ·go_wp2_with fail;refine (N3 w0 a len cap S R _ _ m.rd.at).mono ?_;rintro e g ⟨rfl,r⟩;have f:=H (m.next r);clear r m;obtain⟨x,y,z,A,B,F⟩:=f.cells;have zf:=f.fr 0;go_wp2;go_meet;case rel=>exact H (f.setMi _)
  ·go_wp2_with fail;refine (N3 w0 a len cap S R _ _ m.rd.at).mono ?_;rintro e g ⟨rfl,r⟩;have f:=H (m.next r);clear r m;obtain⟨x,y,z,A,B,F⟩:=f.cells;have zf:=f.fr 1;go_wp2;go_meet;case rel=>exact H (f.setFi _)
  ·go_wp2_with fail;refine (N3 w0 a len cap S R _ _ m.rd.at).mono ?_;rintro e g ⟨rfl,r⟩;have f:=H (m.next r);clear r m;obtain⟨x,y,z,A,B,F⟩:=f.cells;have zf:=f.fr 2;go_wp2;go_meet;case rel=>exact H (f.setLa _)
  ·go_wp2_with fail;refine (AP _).mono ?_;rintro e q ⟨rfl,b⟩;have l:=H (m.below b);clear b m;have m:=l;clear l;go_wp2_with fail;refine (N3 w0 a len cap S R _ _ m.rd.at).mono ?_;rintro e g ⟨rfl,r⟩;have f:=H (m.next r);clear r m;obtain⟨x,y,z,A,B,F⟩:=f.cells;have zf:=f.fr 3;go_wp2;go_meet;case rel=>exact H (f.setBu _)
  go_wp2;go_meet;case rel=>exact m
 case rest =>
  have O1:=hcut;clear m;go_upto_if 56 with fail
  go_cut [56] (λ_ w'=>Hid (Cy9 s w0 a len cap R W X Y t w'));case first =>
   rcases HB.out with ⟨g9,rfl⟩|⟨g9,rfl⟩
   ·obtain⟨x,y,z,A,B,F⟩:=O1.cells;have zf:=O1.fr 3;go_wp2;go_meet;case rel=>exact H (O1.setBu _)
   go_wp2;go_meet;case rel=>exact O1
  case rest =>
   have f:=hcut;clear O1;go_wp2_with fail;refine (N4 w0 a len cap S R _ _ f.rd.at).mono ?_;rintro e V6 ⟨rfl,r⟩;have O6:=H (f.next r);clear r f;go_wp2;rw [a6.out];go_loopw [6] (λi wr=>∃ (j:Nat) (G:List Int) (q:Nat) (V:Option Addr) (dc:Nat),j<=n/\i=I j/\Hid (tx zs w j=(G,q))/\Hid (Cy9 q w0 a len cap R W X Y { t with ds:=G,da:=V,dc:=dc } wr)) (λi _=>n-(intOf i).toNat);(case atStart=>exact ⟨0,[],w,none,0,FH _,rfl,H rfl,H (by have h:=a7.out;have f:=O6.out;obtain ⟨g,l,K,L,x5,M,N,O⟩:=t;dsimp only at h;obtain ⟨rfl,rfl,rfl⟩:=h;exact f)⟩);case round =>
    obtain⟨j,G,q,V,dc,hj,rfl,a0,l⟩:=hrel;clear O6;have HL:=H (show G.length=j from by have h:=qX zs w j;rw [a0.out] at h;exact h);have NQ:=H (NN q);have a8:=dL zs q;have L:=H (show tx zs w (j+1)=(G++[(gH zs q:Int)-40],gS zs q) from by
     show ((tx zs w j).1++[(gH zs (tx zs w j).2:Int)-40],gS zs (tx zs w j).2)=_;rw [a0.out])
    generalize gH zs q=T at NQ a8 L;by_cases b1:j<n
    ·go_wp2;obtain⟨x,y,z,A,B,F⟩:=l.drew.cells;dsimp only at x y z A B F;have M:=H l.drew;refine kO E ?_;generalize wr.drew=V0 at M x y z A B F ⊢;simp only [FX,FN,F1,Nat.reduceAdd,FP,FO,FY,FV,F5];refine cd (i:=0) (d:=70) (v:=J X 5) rfl E E E E (λ_ _ _ h=>h) (Or.inl ⟨E,λ_=>E⟩) ?_;simp only [lz,l0,ls];refine cd (i:=2) (d:=72) (v:=J R 0) rfl E E E E (λ_ _ _ h=>h) (Or.inl ⟨E,λ_=>E⟩) ?_;simp only [lz,l0,ls];refine wpAny_ready (rs:=[1,3]) E bH ?_;refine AllReady.cons rfl (λK f=>?_) (AllReady.cons rfl (λK f=>?_) AllReady.nil)
     ·go_simp;refine f _ _ ?_;clear f K;simp only [lz,l0,ls];refine bF (r:=3) E ?_;refine cw λK f=>?_;go_simp;refine (NQ _ _ M.rd.at).mono ?_;rintro e V6 ⟨rfl,r⟩;have Oq:=H (M.next r);obtain⟨y0,y1,y2,y3,y4,y5⟩:=Oq.cells;dsimp only at y0 y1 y2 y3 y4 y5;obtain⟨N,O,w',g,f5,x5,ch⟩:=Oq.app (by have:=HL.out;dsimp only;omega) ((T:Int)-40) Z;dsimp only at g f5 x5 ch;have P:=H ch;clear r ch M x y z A B F;refine f _ _ ?_;clear f K;simp only [lz,l0,ls];refine cd (i:=4) (d:=74) (v:=I ((T:Int)-40)) rfl E E E E (λ_ _ _ h=>h) (Or.inl ⟨E,λ_=>by first|(go_simp;done)|(go_simp;exact t9 _ Z Z)⟩) ?_;simp only [lz,l0,ls];refine bF (r:=5) E ?_;refine cw λK f=>?_;go_simp;refine f _ _ ?_;clear f K;simp only [lz,l0,ls];refine bF (r:=6) E ?_;refine cw λK f=>?_;refine mK 24 (.tmp 71) (.tmp 75) E E E E g ?_;refine f _ _ ?_;clear f K;simp only [lz,l0,ls];refine cd (i:=7) (d:=77) (v:=J X 5) rfl E E E E (λ_ _ _ h=>h) (Or.inl ⟨E,λ_=>E⟩) ?_;simp only [lz,l0,ls];refine bF (r:=8) E ?_;refine cw λK f=>?_;go_simp;refine f _ _ ?_;clear f K;simp only [lz,l0,ls];refine wpAny_done E ?_ _;go_wp2;go_roundw
      (case rel=>exact ⟨j+1,G++[(T:Int)-40],gS zs q,N,O,Z,aY,L,P⟩);case measure=>simp [intOf];omega
     skip
     go_simp;refine (NQ _ _ M.rd.at).mono ?_;rintro e V6 ⟨rfl,r⟩;have Oq:=H (M.next r);obtain⟨y0,y1,y2,y3,y4,y5⟩:=Oq.cells;dsimp only at y0 y1 y2 y3 y4 y5;obtain⟨N,O,w',g,f5,x5,ch⟩:=Oq.app (by have:=HL.out;dsimp only;omega) ((T:Int)-40) Z;dsimp only at g f5 x5 ch;have P:=H ch;clear r ch M x y z A B F;refine f _ _ ?_;clear f K;simp only [lz,l0,ls];refine cd (i:=4) (d:=74) (v:=I ((T:Int)-40)) rfl E E E E (λ_ _ _ h=>h) (Or.inl ⟨E,λ_=>by first|(go_simp;done)|(go_simp;exact t9 _ Z Z)⟩) ?_;simp only [lz,l0,ls];refine wpAny_ready (rs:=[1,5]) E bH ?_;refine AllReady.cons rfl (λK f=>?_) (AllReady.cons rfl (λK f=>?_) AllReady.nil)
     ·go_simp;refine f _ _ ?_;clear f K;simp only [lz,l0,ls];refine bF (r:=5) E ?_;refine cw λK f=>?_;go_simp;refine f _ _ ?_;clear f K;simp only [lz,l0,ls];refine bF (r:=6) E ?_;refine cw λK f=>?_;refine mK 24 (.tmp 71) (.tmp 75) E E E E g ?_;refine f _ _ ?_;clear f K;simp only [lz,l0,ls];refine cd (i:=7) (d:=77) (v:=J X 5) rfl E E E E (λ_ _ _ h=>h) (Or.inl ⟨E,λ_=>E⟩) ?_;simp only [lz,l0,ls];refine bF (r:=8) E ?_;refine cw λK f=>?_;go_simp;refine f _ _ ?_;clear f K;simp only [lz,l0,ls];refine wpAny_done E ?_ _;go_wp2;go_roundw
      (case rel=>exact ⟨j+1,G++[(T:Int)-40],gS zs q,N,O,Z,aY,L,P⟩);case measure=>simp [intOf];omega
     go_simp;have M:=ad ((Fu V6.heap.size V6).alloc (Fv _) (.cells #[I ((T:Int)-40)] 3)) y5;refine f _ _ ?_;clear f K;simp only [lz,l0,ls];refine bF (r:=1) E ?_;refine cw λK f=>?_;go_simp;refine f _ _ ?_;clear f K;simp only [lz,l0,ls];refine bF (r:=6) E ?_;refine cw λK f=>?_;refine mK 24 (.tmp 71) (.tmp 75) E E E E g ?_;refine f _ _ ?_;clear f K;simp only [lz,l0,ls];refine cd (i:=7) (d:=77) (v:=J X 5) rfl E E E E (λ_ _ _ h=>h) (Or.inl ⟨E,λ_=>E⟩) ?_;simp only [lz,l0,ls];refine bF (r:=8) E ?_;refine cw λK f=>?_;go_simp;refine f _ _ ?_;clear f K;simp only [lz,l0,ls];refine wpAny_done E ?_ _;go_wp2;go_roundw
     (case rel=>exact ⟨j+1,G++[(T:Int)-40],gS zs q,N,O,Z,aY,L,P⟩);case measure=>simp [intOf];omega
    have:j=n:=Z;subst this;go_wp2_with (first|(refine Gt rfl 26 _ rfl _ rfl _ _ _ _ l.x underlying26 rfl E ?_)|(refine Gf rfl 26 _ _ rfl _ _ rfl rfl 26 _ l.y E rfl (by simp [pQ,Value.oneCell']) ?_));refine fM (aw l.y _) underlying26 ?_;have g:=aj wr Y (pQ { t with ds:=G,da:=V,dc:=dc }).toArray;have K:=l.yn;have M:=l.rn;have f:=l.od.kept g (eD l.od.d l.y ar);rw [a0.out];exact⟨V,dc,rfl,f,l.rd.app g (λr e=>by cases e;omega)⟩
def EV (zs:List Int) (j:Bool) (p i:Nat) (r:fL×Nat):Prop:=∀ (w0:World) (a:Option Addr) (len cap:Nat),Cbq9 zs w0 a len cap->∀ (R:Nat) (W:World),Rp p w0 a len cap R W W ->
 Calls prog 11 #[J R 0,I i,.bool j] W λe W'=>∃ d dc,e=.returned (.agg (fH ⟨r.1,d,dc⟩).toArray)/\Od6 W.heap.size ⟨r.1,d,dc⟩ W'/\Rp r.2 w0 a len cap R W W'
theorem Az (zs tt):∃ F:Nat->Nat->fL×Nat,∀ q j,j<=400->EV zs tt q j (F q j):=by
 have h:∀ q j,∃ r,j<=400->EV zs tt q j r:=λq j=>by
  by_cases a:j<=400;·obtain⟨o,b,h⟩:=EH zs q j a tt;exact⟨(o,b),λ_=>h⟩
  exact⟨(⟨0,0,0,1,0,[]⟩,0),λh=>absurd h a⟩
 exact⟨λq j=>(h q j).choose,λq j=>(h q j).choose_spec⟩
def tu (F:Nat->Nat->fL×Nat) (p:Nat):Nat->List fL×Nat
 | 0=>([],p)
 | k+1=>((tu F p k).1++[(F (tu F p k).2 k).1],(F (tu F p k).2 k).2)
theorem p6 (F p):∀ k,(tu F p k).1.length=k
 | 0=>rfl
 | k+1=>by
  show ((tu F p k).1++[(F (tu F p k).2 k).1]).length=k+1
  rw [FC,p6 F p k];rfl
def BK (c:Cd) (os:List fL) (w:World) (e:Ending) (j:World):Prop :=
 ∃ (da:Option Addr) (dc:Nat) (i:List df) (A:Option Addr) (n B:Nat),i.map df.o=os/\e=.returned (.tuple #[.agg (pQ { c with da:=da,dc:=dc }).toArray,.slice A i.length n])/\w.heap.size<=B/\Ok4 B { c with da:=da,dc:=dc } j/\j.ownsRow B 42 6 (.slice A i.length n) i.length (iT i)/\(∀ q∈i,Od6 B q j)/\D w j
theorem Dp (n:Nat) (x:fL) (l:List fL):l++List.replicate n x++[x]=l++List.replicate (n+1) x:=by rw [GJ,List.replicate_succ']
theorem C5 (zs):∃ (c:Cd) (s:List fL),c.ds.length<=60/\s.length<=301/\∀ (w:World) (a:Option Addr) (len cap:Nat),Cbq9 zs w a len cap->Calls prog 4 #[.slice a len cap] w λe L=>BK c s w e L:=by
 obtain⟨c,M,X,b⟩:=A3 zs 0;have HP:=H b;clear b;have N1:=H (cE zs M);have hk:=dL zs M;generalize gH zs M=k at hk N1;generalize gS zs M=S at N1;have N2:=H (cE zs S);have a0:=dL zs S;generalize gH zs S=n0 at a0 N2;generalize gS zs S=t at N2;obtain⟨n,hn,b⟩:∃ n:Nat,n<60/\(n0:Int)%60=(n:Int):=⟨n0%60,Z,Z⟩;have a1:=H b;clear b;obtain⟨F,b⟩:=Az zs ((k:Int)%5==4);have HF:=H b;clear b;obtain⟨s,a2,HA⟩:∃ s:List fL,s.length<=301/\Hid ((((k:Int)==255)=false/\s=(tu F t n).1)\/(((k:Int)==255)=true/\s=(tu F t n).1++List.replicate (300+n%2-n) ⟨0,0,0,1,0,[]⟩)):=by
  cases g:((k:Int)==255);·exact⟨_,by rw [p6];omega,H (.inl ⟨rfl,rfl⟩)⟩
  exact⟨_,by rw [FC,p6,Gc];omega,H (.inr ⟨rfl,rfl⟩)⟩
 refine⟨c,s,X,a2,?_⟩;intro w a len cap l;have T:=H l;have i:=(Fu w.heap.size w).alloc (Fv _) (.cells #[I 0,I 0,I 0,I 0,U 0,C] 26);have b:=i.alloc i.size (.cells #[.slice a len cap,I 0] 51);have d:=H (show Rp 0 w a len cap (w.heap.size+1) w ((w.alloc (.cells #[I 0,I 0,I 0,I 0,U 0,C] 26)).alloc (.cells #[.slice a len cap,I 0] 51)) from ⟨by rw [<-aO w (.cells #[I 0,I 0,I 0,I 0,U 0,C] 26)];exact ao _ _,FH _,b,Z,⟨b.os,b.tape,b.output,b.size,λg h1 _=>b.block g h1⟩⟩);have f:=H ((eg (w.alloc (.cells #[I 0,I 0,I 0,I 0,U 0,C] 26)) (.cells #[.slice a len cap,I 0] 51) w.heap.size (by rw [aO];omega)).trans (ao w (.cells #[I 0,I 0,I 0,I 0,U 0,C] 26)));clear i b l;go_enter func4,ntmps4;go_wp2_with fail;generalize (w.alloc (.cells #[I 0,I 0,I 0,I 0,U 0,C] 26)).alloc (.cells #[.slice a len cap,I 0] 51)=V1 at d f ⊢;obtain⟨R,V⟩:∃ R,R=w.heap.size+1:=⟨_,rfl⟩;obtain⟨Y,b⟩:∃ Y,Y=w.heap.size:=⟨_,rfl⟩;rw [<-V] at d ⊢;rw [<-b] at f ⊢;have N:=H (IT V b);clear V b;refine (HP w a len cap T R _ d.at).mono ?_;rintro e A ⟨u,x,rfl,b,r⟩;unfold pQ;dsimp only;have i:=H (show D9q9 M w a len cap R A.heap.size Y { c with da:=u,dc:=x } (C) [] (A.alloc (.cells #[I c.mi,I c.fi,I c.la,I c.bu,U c.ky,.slice u c.ds.length x] 26)) from by
  have l:=(Fu A.heap.size A).alloc (Fv _) (.cells #[I c.mi,I c.fi,I c.la,I c.bu,U c.ky,.slice u c.ds.length x] 26);have h1:=d.lt;have o:=N.out;have yb:A.heap[Y]?=_:=(r.g.block Y (ag f) (λe=>by cases e;omega)).trans f.out;exact⟨(d.of r).below l,r.lt,Z,Z,ao A _,by rw [l.block _ (ag yb)];exact yb,⟨b.k0,b.k1,b.dw,(gz h1 b.d).alloc _⟩,⟨rfl,.inl ⟨rfl,rfl⟩⟩,λq W=>(by cases W)⟩)
 clear b r d f;go_wp2_with fail;generalize A.alloc (.cells #[I c.mi,I c.fi,I c.la,I c.bu,U c.ky,.slice u c.ds.length x] 26)=V3 at i ⊢;generalize A.heap.size=Cx at i ⊢;refine (N1 w a len cap T R _ _ i.rd.at).mono ?_;rintro e V4 ⟨rfl,r⟩;have b:=H (i.next r);clear r i;go_wp2_with fail;refine (N2 w a len cap T R _ _ b.rd.at).mono ?_;rintro e V5 ⟨rfl,r⟩;have B:=H (b.next r);clear r b;go_wp2;rw [a1.out];go_loopw [7,9] (λv i wr=>∃ (j:Nat) (b:List df) (q:Nat),j<=n/\i=I j/\Hid (tu F t j=(b.map df.o,q))/\Hid (D9q9 q w a len cap R Cx Y { c with da:=u,dc:=x } v b wr)) (λ_ i _=>n-(intOf i).toNat);case atStart=>exact ⟨0,[],t,FH _,rfl,H rfl,B⟩
 case round =>
  obtain⟨j,b,q,hj,rfl,z,f⟩:=hrel;clear B;obtain⟨va,vb,vc,rfl⟩:=fW f.row;obtain rfl:=ik f.row;have O:=H (show b.length=j from by have h:=p6 F t j;rw [z.out,Gz] at h;exact h);by_cases a3:j<n
  ·have OP:=H (HF q b.length (by have:=O.out;omega));have y:=H (show tu F t (j+1)=(b.map df.o++[(F q b.length).1],(F q b.length).2) from by
    show ((tu F t j).1++[(F (tu F t j).2 j).1],(F (tu F t j).2 j).2)=_;rw [z.out,O.out])
   generalize F q b.length=fr at OP y;obtain⟨d,K⟩:=fr;go_wp2_with fail;refine (OP w a len cap T R _ f.rd.at).mono ?_;rintro e V6 ⟨d9,P,rfl,p,r⟩;have Q:=H (f.next r);obtain⟨v',L,l,G⟩:=Q.app (by have:=O.out;omega) ⟨d,d9,P⟩ ⟨p.p,p.a,p.b,gz f.rd.lt p.d,p.r,p.y⟩;have o:=H G;clear G p r f;unfold fH at l ⊢;dsimp only at l ⊢;go_wp2_with (at_builtin;refine ga 27 rfl (.tmp 25) (.tmp 33) (by with_reducible rfl) rfl rfl rfl l ?_);go_roundw;(case rel=>exact ⟨j+1,b++[⟨d,d9,P⟩],K,Z,aY,H (by rw [y.out,Hr];rfl),o⟩);case measure=>simp [intOf];omega
  have:j=n:=Z;subst this;go_upto_if 36 with fail
  go_cut [7,36] (λv _ L=>∃ (b:List df) (q:Nat),Hid (b.map df.o=s)/\Hid (D9q9 q w a len cap R Cx Y { c with da:=u,dc:=x } v b L));case first =>
   rcases HA.out with ⟨g,p⟩|⟨g,p⟩
   ·go_wp2;go_meet;case rel=>exact ⟨b,q,H (by rw [p,z.out]),f⟩
   simp only [g];go_wp2_with fail;go_loopw [7] (λv wr=>∃ (d:List df) (m:Nat),j+m<=300+j%2/\d.length=j+m/\Hid (d.map df.o=b.map df.o++List.replicate m ⟨0,0,0,1,0,[]⟩)/\Hid (D9q9 q w a len cap R Cx Y { c with da:=u,dc:=x } v d wr)) (λv _=>400-vX v);(case atStart=>exact ⟨b,0,Z,by have:=O.out;omega,H bH,f⟩);case round =>
    clear f;obtain⟨d,m,hm,y,HM,f⟩:=hrel;have K:=H y;have a4:d.length<=301:=Z;clear y;obtain⟨xa,xb,xc,rfl⟩:=fW f.row;obtain rfl:=ik f.row;by_cases a3:d.length<300+j%2
    ·have P:(d.length:Int)<300+(j:Int)%2:=Z;obtain⟨v',L,l,G⟩:=f.app Z ⟨⟨0,0,0,1,0,[]⟩,none,0⟩ ⟨ar,ar,ar,⟨rfl,.inl ⟨rfl,rfl⟩⟩,ar,λy hy=>by cases hy⟩;have o:=H G;obtain⟨ya,yb,yc,rfl⟩:=fW G.row;have Q:=ik G.row;rw [FC] at Q;obtain rfl:=Q;clear G;go_wp2_with (at_builtin;refine ga 27 rfl (.tmp 43) (.tmp 45) (by with_reducible rfl) rfl rfl rfl l ?_);go_roundw;(case rel=>exact ⟨d++[⟨⟨0,0,0,1,0,[]⟩,none,0⟩],m+1,by have:=K.out;omega,by have:=K.out;simp;omega,H (by rw [Hr,HM.out,<-Dp];rfl),o⟩);case measure=>simp [vX];omega
    have P:¬(d.length:Int)<300+(j:Int)%2:=Z;go_wp2;go_meet;case rel=>exact ⟨d,q,H (by rw [HM.out,p,z.out,show 300+j%2-j=m by have:=K.out;omega]),f⟩
  case rest =>
   clear f O;obtain⟨d,K,p,f⟩:=hcut;obtain⟨xa,xb,xc,rfl⟩:=fW f.row;obtain rfl:=ik f.row;go_wp2_with (first|(refine Gt rfl 26 _ rfl _ rfl _ _ _ _ f.cb underlying26 rfl E ?_)|(refine Gf rfl 26 _ _ rfl _ _ rfl rfl 26 _ f.yb E rfl (by simp [pQ,Value.oneCell']) ?_));refine GX (results_cell_tmp dU _ _ Y _ dU (run_loadVar_row _ Y 26 26 _ (0,0) _ (aw f.yb _) underlying26 rfl E)) dU ?_;have g:=aj wc Y (pQ { c with da:=u,dc:=x }).toArray;have hy:=f.yr;have y:=f.y1;have V:=N.out;exact⟨u,x,d,xa,xc,R+1,p,rfl,Z,f.ok.kept g (λe=>by have:=(f.ok.d.lt Y e).1;omega),f.row.kept g (.inr λe=>by have:=(f.row.lt Y e).1;omega),λq W=>(f.dat q W).kept g (λe=>by have:=((f.dat q W).d.lt Y e).1;omega),f.rd.bel.grown g f.rd.bel.size (λr e=>by cases e;omega)⟩
end
section
open Go.RowKit Go.Maps
abbrev Lv (h : Hs) (p : Nat) : Prop := Area h p 0
theorem Lv.of_eq {h'} (a:Lv h' p) (h1:h'.st=h.st) (e:h'.rg=h.rg):Lv h p:=by
 cases a with
 | slot c s j f b g i k d=>exact .slot c s j f b g i (h1▸k) d
 | range r f g b d=>exact .range r (e▸f) g b d
theorem Lv.in (i:Inv cf h) (a:Lv h p):p%16=0/\p<289792:=by
 cases a with
 | slot c s j b d e f l g =>
  have h1:=ca b d e;have k:cy c%16=0:=by
   have:∀ c:Fin 12,cy c.val%16=0:=ar;exact this ⟨c,b⟩
  rw [<-f];refine⟨?_,Z⟩;unfold bh;rw [Nat.add_mod,Nat.mul_mod j,k];omega
 | range r b e d g =>
  have h1:=i.rgs r b;unfold Rg9.ext at h1;unfold Rg9.base at e;omega
theorem pY (cf c):∀ (f:Nat) (h:Hs) (b s j:Nat),(bN cf c f h).2.st b s j=h.st b s j\/(bN cf c f h).2.st b s j=4
 | 0,h,b,s,j=>.inl rfl
 | f+1,h,b,s,j=>by
  rw [f_]
  cases a:cJ cf h c with
  | none=>exact .inl rfl
  | some q =>
   obtain⟨d,h1⟩:=q
   have g:h1.st=h.st:=by
    unfold cJ at a
    split at a
    ·injection a with a;injection a with _ a;rw [<-a]
    ·split at a
     ·cases a
     ·split at a
      ·cases a
      ·injection a with a;injection a with _ a;rw [<-a]
   dsimp only
   split
   ·exact .inl (by rw [<-g])
   ·rcases pY cf c f { h1 with used:=h1.used+1,st:=aE h1.st c d (du cf h1 c d) 4 } b s j with e|e
    ·rw [e]
     show aE h1.st c d (du cf h1 c d) 4 b s j=_\/_
     by_cases i:b=c/\s=d/\j=du cf h1 c d
     ·right
      show aE h1.st c d (du cf h1 c d) 4 b s j=4
      unfold aE;rw [GP i]
     ·left;rw [aU _ _ i,g]
    ·exact .inr e
theorem Lv.malloc (i:Inv cf h) (b:av cf h a=(o,h1)) {x} (l:Lv h1 x):Lv h x\/o=some x:=by
 unfold av at b;by_cases ha:a<=1016
 ·rw [GP ha] at b;obtain⟨F,G⟩:=jf ha;generalize fD a=c at *;have g:=(Inv.small F 2000 i).1;have d:=pY cf c 2000 h;cases e:bN cf c 2000 h with
  | mk K L =>
   rw [e] at g b d;dsimp only at d;cases K with
   | none =>
    simp at b;obtain⟨rfl,rfl⟩:=b;cases l with
    | slot q s j k m y v f n =>
     rcases d q s j with u|u;·exact .inl (.slot q s j k m y v (u▸f) n)
     ·rw [u] at f;cases f
    | range r p w m n=>exact .inl (.range r (g.stay.rg▸p) w m n)
   | some t =>
    obtain⟨z,A⟩:=t;simp at b;obtain⟨rfl,rfl⟩:=b;cases l with
    | slot q s j k m y v f n =>
     by_cases B:q=c/\s=z/\j=A
     ·obtain⟨rfl,rfl,rfl⟩:=B;exact .inr (by rw [v])
     ·have f:aE L.st c z A 1 q s j=1:=f;rw [aU _ _ B] at f;rcases d q s j with u|u;·exact .inl (.slot q s j k m y v (u▸f) n)
      ·rw [u] at f;cases f
    | range r p w m n=>exact .inl (.range r (g.stay.rg▸p) w m n)
 ·rw [GO ha] at b;dsimp only at b;split at b
  ·simp at b;obtain⟨rfl,rfl⟩:=b;exact .inl (l.of_eq rfl rfl)
  ·split at b
   ·simp at b;obtain⟨rfl,rfl⟩:=b;exact .inl (l.of_eq rfl rfl)
   ·split at b
    ·simp at b;obtain⟨rfl,rfl⟩:=b;exact .inl (l.of_eq rfl rfl)
    ·simp at b;obtain⟨rfl,rfl⟩:=b;cases l with
     | slot q s j k m y v f n=>exact .inl (.slot q s j k m y v f n)
     | range r p w m n =>
      rcases F8.1 p with p|p;·exact .inl (.range r p w m n)
      ·rw [List.mem_singleton] at p;subst p;exact .inr (by rw [<-w];rfl)
theorem kn (h c s j):(bK h c s j).st=aE h.st c s j 3/\(bK h c s j).rg=h.rg:=by
 unfold bK;dsimp only;split <;> exact ⟨rfl,rfl⟩
theorem Lv.free (i:Inv cf h) {x:Fd} (P:Seen h p x) (Q:∀ o,x≠.no o) {y} (l:Lv (db cf h x) y):Lv h y/\y≠p:=by
 cases P with
 | no o _=>exact absurd rfl (Q o)
 | slot c s j G K O T V =>
  have v:∀ g k m,(aL cf h c s j).st g k m=1->h.st g k m=1/\¬(g=c/\k=s/\m=j):=by
   intro g k m h1;have q:(bX cf h c s j).st g k m=1->h.st g k m=1/\¬(g=c/\k=s/\m=j):=λb=>by
    have b:aE h.st c s j 2 g k m=1:=b;by_cases e:g=c/\k=s/\m=j;·unfold aE at b;rw [GP e] at b;cases b
    ·rw [aU _ _ e] at b;exact⟨b,e⟩
   rw [cW] at h1;split at h1;·exact q h1
   ·rw [(kn _ _ _ _).1] at h1;unfold aE at h1;split at h1;·cases h1
    ·exact q h1
  have L:(aL cf h c s j).rg=h.rg:=by
   rw [cW];split;·rfl
   ·exact (kn _ _ _ _).2
  cases (show Lv (aL cf h c s j) y from l) with
  | slot g k m n a t w u f =>
   obtain⟨h1,b⟩:=v g k m u;refine⟨.slot g k m n a t w h1 f,λe=>?_⟩;have:=gN n a t G K O b;have W:=aX G;have X:=aX n;omega
  | range r A B a f =>
   rw [L] at A;refine⟨.range r A B a f,λe=>?_⟩;have h1:=ca G K O;have b:=i.rgs r A;unfold Rg9.base at B;omega
 | range r A B K =>
  have R:∀ d,d∈(aJ cf h r).rg->d.st=1->d∈h.rg/\d.base≠r.base:=by
   have q:∀ d,d∈(tV h r).rg->d.st=1->d∈h.rg/\d.base≠r.base:=by
    intro d h1 b;have h1:d∈h.rg.map λx=>if x.base=r.base then { x with st:=2,rq:=0 } else x:=h1
    obtain⟨z,S,e⟩:=FQ.1 h1;split at e;·rw [<-e] at b;cases b
    ·rename_i M;rw [<-e];exact⟨S,M⟩
   intro d h1 b;rw [cG] at h1;split at h1;·exact q d (Gk.1 h1).1 b
   ·exact q d h1 b
  have v:(aJ cf h r).st=h.st:=by
   rw [cG];split <;> rfl
  cases (show Lv (aJ cf h r) y from l) with
  | slot g k m n a t w u f =>
   rw [v] at u;refine⟨.slot g k m n a t w u f,λe=>?_⟩;have h1:=ca n a t;have b:=i.rgs r A;unfold Rg9.base at B;omega
  | range d N F a f =>
   obtain⟨h1,b⟩:=R d N a;exact⟨.range d h1 F a f,λe=>b (by rw [F,B,e])⟩
theorem Lv.kept (i:Inv cf h) (G:1<=cf.fifo) {x:Fd} (R:Seen h p x) {y} (l:Lv h y) (n:y≠p):Lv (db cf h x) y:=by
 cases R with
 | no b _=>exact l
 | slot c s j u O B K L =>
  show Lv (aL cf h c s j) y;obtain⟨M,N,v,Q,S,e,_,T,V,_⟩:=sT i G u O B L;cases l with
  | slot w z A o f q k m g =>
   refine .slot w z A o f q k ?_ g;have r:¬(w=c/\z=s/\A=j):=λ⟨a,b,d⟩=>n (by rw [<-k,<-K,a,b,d])
   have F:¬(w=c/\z=M/\A=N):=λ⟨a,b,d⟩=>by
    rw [<-a,<-b,<-d] at e;have t:aE h.st c s j 2 w z A=2:=(by rw [<-a];exact e);rw [aU _ _ r,m] at t;cases t
   rw [T,aU _ _ F,aU _ _ r];exact m
  | range r P F f g=>exact .range r (by rw [V];exact P) F f g
 | range r P F O =>
  show Lv (aJ cf h r) y;have K:(aJ cf h r).st=h.st:=by
   rw [cG];split <;> rfl
  cases l with
  | slot w z A o f q k m g=>exact .slot w z A o f q k (by rw [K];exact m) g
  | range v B u f g =>
   have Q:v∈(tV h r).rg:=by
    show v∈h.rg.map λx=>if x.base=r.base then { x with st:=2,rq:=0 } else x
    exact FQ.2 ⟨v,B,by rw [GO (λe=>n (by rw [<-u,<-F,e]))]⟩
   refine .range v ?_ u f g;rw [cG];split
   ·show v∈(tV h r).rg.filter _;refine Gk.2 ⟨Q,G8 λe=>?_⟩;cases d:h.row with
    | nil=>rw [d] at e;exact n (by rw [<-u,<-F];exact e)
    | cons b t =>
     rw [d] at e;have e:v.base=b:=e;obtain⟨S,L,M,N⟩:=(i.row b).1 (by rw [d];exact List.mem_cons_self ..);have:=i.one B L (by rw [e,N]);rw [this,M] at f;cases f
   ·exact Q
def Sz (h:Hs) (p n:Nat):Prop:=(∃ c s j,c<12/\s<6/\j<aM c/\bh c s j=p/\h.st c s j=1/\h.rq c s j=n)\/∃ r∈h.rg,r.base=p/\r.st=1/\r.rq=(n:Int)
theorem Sz.area (i:Inv cf h) (z:Sz h p n):Area h p n:=by
 rcases z with ⟨c,s,j,d,a,e,k,f,b⟩|⟨r,b,l,a,o⟩;·have h1:=(i.req c s j d a e).1 f;exact .slot c s j d a e k f (by unfold eV at h1;omega)
 have h1:=i.rgs r b;have m:=gE r.rq.toNat;refine .range r b l a ?_;rcases h1.2.2.2.2.2 with ⟨_,_,g⟩|⟨g,_⟩;·rw [g] at m;omega
 omega
theorem Sz.lv (z:Sz h p n):Lv h p:=by
 rcases z with ⟨c,s,j,d,a,e,f,g,b⟩|⟨r,b,i,a,k⟩;·exact .slot c s j d a e f g (FH _)
 exact .range r b i a (FH _)
theorem Lv.sz (i:Inv cf h) (l:Lv h p):∃ n,Sz h p n:=by
 cases l with
 | slot c s j b a d f e g =>
  have h1:=(i.req c s j b a d).1 e;exact⟨(h.rq c s j).toNat,.inl ⟨c,s,j,b,a,d,f,e,Z⟩⟩
 | range r b d a g =>
  have h1:=i.rgs r b;exact⟨r.rq.toNat,.inr ⟨r,b,d,a,Z⟩⟩
theorem fY (i:Inv cf h) (a:c<12) (b:s<6) (d:j<aM c) {r:Rg9} (e:r∈h.rg):bh c s j≠r.base:=by
 have h1:=ca a b d;have f:=i.rgs r e;unfold Rg9.base;omega
theorem kI {a d e:Nat} (i:c<12) (k:s<6) (l:j<aM c) (b:a<12) (f:d<6) (g:e<aM a) (h:bh c s j=bh a d e):c=a/\s=d/\j=e:=by
 apply Classical.byContradiction;intro m;have h1:∀ c,c<12->0<cy c:=ar;have n:=h1 c i;have o:=h1 a b;have:=gN i k l b f g m;omega
theorem Sz.one {cf h} (i:Inv cf h) {p n n'} (z:Sz h p n) (u:Sz h p n'):n=n':=by
 rcases z with ⟨c,s,j,m,k,o,q,x,l⟩|⟨r,l,t,k,y⟩ <;> rcases u with ⟨A,B,F,d,a,e,f,v,b⟩|⟨G,b,g,a,w⟩
 ·obtain⟨rfl,rfl,rfl⟩:=kI m k o d a e (q.trans f.symm);omega
 ·exact absurd (q.trans g.symm) (fY i m k o b)
 ·exact absurd (f.trans t.symm) (fY i d a e l)
 obtain rfl:=i.one l b (t.trans g.symm);omega
theorem oK {a:Nat->Option (Bool×List Int)} (h:a (p/1024)=m (p/1024)):bO a p=bO m p:=by unfold bO;rw [h]
theorem uz (h:clean m a n=true) (b:k<n):bO m (a+k)=0:=by
 unfold clean at h;rw [List.all_eq_true] at h;have:=h (bO m (a+k)) (by unfold aH;exact FQ.2 ⟨k,Gh.2 b,rfl⟩);simpa using this
theorem ia (h:isOpen (m k)=true):(m k).isSome=true:=by
 cases e:m k with
 | none=>rw [e] at h;cases h
 | some q=>rfl
theorem sP (i:Inv cf h) (y:av cf h a=(o,h1)) :
  (∀ p n,Sz h1 p n↔(o=some p/\n=a)\/Sz h p n)/\(∀ p n,Sz h p n->∀ k,k<n->bO h1.m (p+k)=bO h.m (p+k))/\∀ q,o=some q->(∀ n,¬Sz h q n)/\∀ k,k<a->bO h1.m (q+k)=0:=by
 by_cases ha:a<=1016
 ·rw [iP cf h ha] at y;obtain⟨N,a2⟩:=jf ha;have g:=(Inv.small (cf:=cf) N 2000 i).1;have V:=pY cf (fD a) 2000 h;generalize bN cf (fD a) 2000 h=R at y g V;obtain⟨o9,X⟩:=R;dsimp only at g V;have G:∀ p n,(∃ r∈X.rg,r.base=p/\r.st=1/\r.rq=(n:Int))↔∃ r∈h.rg,r.base=p/\r.st=1/\r.rq=(n:Int):=λp n=>by rw [g.stay.rg]
  have v:∀ c s j,X.st c s j=1↔h.st c s j=1:=λc s j=>by
   constructor
   ·intro e;rcases V c s j with w|w;·rw [<-w];exact e
    rw [e] at w;cases w
   intro e;rw [g.stay.live c s j (by rw [e];rfl)];exact e
  have T:∀ p n,Sz h p n->∀ k,k<n->bO X.m (p+k)=bO h.m (p+k):=λp n z k W=>oK (g.stay.mem _ (ia (i.openA (z.area i) W)))
  unfold A4 at y;cases o9 with
  | none =>
   injection y with B w;subst B w;refine⟨λp n=>?_,T,λq K=>by cases K⟩;unfold Sz;rw [G p n];constructor
   ·rintro (⟨c,s,j,N,O,P,hp,b,Y⟩|z);·exact .inr (.inl ⟨c,s,j,N,O,P,hp,(v c s j).1 b,by rw [g.stay.rq] at Y;exact Y⟩)
    exact .inr (.inr z)
   rintro (⟨Q,_⟩|⟨c,s,j,N,O,P,hp,b,Y⟩|z);·cases Q
   ·exact .inl ⟨c,s,j,N,O,P,hp,(v c s j).2 b,by rw [g.stay.rq];exact Y⟩
   exact .inr z
  | some a0 =>
   obtain⟨s,j⟩:=a0;obtain⟨O,P,a3,a4,hf,a1⟩:=g.some s j rfl;injection y with B w;subst B w;have nq:∀ n,¬Sz h (bh (fD a) s j) n:=λn z=>by
    rcases z with ⟨F,L,M,l,d,m,x,f,b⟩|⟨S,b,t,d,A⟩;·obtain⟨rfl,rfl,rfl⟩:=kI l d m N O P x;rw [f] at hf;cases hf
    exact fY i N O P b t.symm
   refine⟨λp n=>?_,λp n z k W=>?_,λq K=>?_⟩
   ·unfold Sz;dsimp only;rw [G p n];constructor
    ·rintro (⟨F,L,M,l,d,m,x,f,b⟩|z)
     ·unfold aE at f b;by_cases e:F=fD a/\L=s/\M=j;·rw [GP e] at b;obtain⟨rfl,rfl,rfl⟩:=e;exact .inl ⟨by rw [x],Z⟩
      rw [GO e] at f b;exact .inr (.inl ⟨F,L,M,l,d,m,x,(v F L M).1 f,by rw [g.stay.rq] at b;exact b⟩)
     exact .inr (.inr z)
    rintro (⟨Q,rfl⟩|⟨F,L,M,l,d,m,x,f,b⟩|z)
    ·injection Q with Q;exact .inl ⟨fD n,s,j,N,O,P,Q,by unfold aE;rw [GP ⟨rfl,rfl,rfl⟩],by unfold aE;rw [GP ⟨rfl,rfl,rfl⟩]⟩
    ·have e:¬(F=fD a/\L=s/\M=j):=λe=>by
      obtain⟨rfl,rfl,rfl⟩:=e;rw [f] at hf;cases hf
     exact .inl ⟨F,L,M,l,d,m,x,by unfold aE;rw [GO e];exact (v F L M).2 f,by unfold aE;rw [GO e,g.stay.rq];exact b⟩
    exact .inr z
   ·show bO (ay X.m (bh (fD a) s j+eV (fD a)) (can cf (bh (fD a) s j)) 8) (p+k)=_;rw [h_ _ _ _ _ 8 ?_];·exact T p n z k W
    have hu:eV (fD a)+8=cy (fD a):=(by unfold eV;omega);rcases z with ⟨F,L,M,l,d,m,x,f,b⟩|⟨S,b,t,d,A⟩
    ·have h2:=(i.req F L M l d m).1 f;have h3:eV F<=cy F:=(by unfold eV;omega);have:=gN l d m N O P (λe=>by
      obtain⟨rfl,rfl,rfl⟩:=e;rw [f] at hf;cases hf)
     omega
    have h2:=ca N O P;have h3:=i.rgs S b;unfold Rg9.base at t;omega
   injection K with K;subst K;refine⟨nq,λk W=>?_⟩;show bO (ay X.m (bh (fD a) s j+eV (fD a)) (can cf (bh (fD a) s j)) 8) (bh (fD a) s j+k)=0;rw [h_ _ _ _ _ 8 (by unfold eV;omega)];exact uz a1 Z
 rw [iJ cf h Z] at y;have G:∀ {u:Nat},o=none->h1={ h with used:=u }->(∀ p n,Sz h1 p n↔(o=some p/\n=a)\/Sz h p n)/\(∀ p n,Sz h p n->∀ k,k<n->bO h1.m (p+k)=bO h.m (p+k))/\∀ q,o=some q->(∀ n,¬Sz h q n)/\∀ k,k<a->bO h1.m (q+k)=0:=λB w=>by
  subst B w;exact⟨λp n=>⟨λz=>.inr z,λz=>z.elim (λz=>by cases z.1) id⟩,λ_ _ _ _ _=>rfl,λq K=>by cases K⟩
 split at y
 ·injection y with B w;exact G B.symm w.symm
 unfold Dr at y;have a0:dV { h with used:=h.used+1 } (1+dr cf h 3+aR a+1)=dV h (1+dr cf h 3+aR a+1):=rfl;cases v:dV { h with used:=h.used+1 } (1+dr cf h 3+aR a+1) with
 | none =>
  rw [v] at y;injection y with B w;exact G B.symm w.symm
 | some s =>
  rw [v] at y;dsimp only at y;split at y
  ·injection y with B w;exact G B.symm w.symm
  injection y with B w;subst B w;obtain⟨r1,r2,N⟩:=gO v;dsimp only at N;generalize 1+dr cf h 3=g at *;have hp:=mF (show 1016<a by omega);have a1:=gE a;have O:∀ k,s+g<=k->k<s+g+aR a->(h.m k).isSome=false:=λk P T=>by
   cases e:(h.m k).isSome with
   | false=>rfl
   | true =>
    obtain⟨r,Y,_,V,q2⟩:=(i.big k Z).1 e;have:=N r Y;unfold Rg9.ext at this;omega
  refine⟨λp n=>?_,λp n z k W=>?_,λq K=>?_⟩
  ·unfold Sz;dsimp only;constructor
   ·rintro (z|⟨S,b,t,d,A⟩);·exact .inr (.inl z)
    rcases F8.1 b with b|b;·exact .inr (.inr ⟨S,b,t,d,A⟩)
    obtain rfl:=List.mem_singleton.1 b;refine .inl ⟨?_,?_⟩;·rw [<-t];rfl
    have X:((a:Nat):Int)=(n:Int):=A;omega
   rintro (⟨Q,rfl⟩|z|⟨S,b,t,d,A⟩)
   ·injection Q with Q;exact .inr ⟨_,List.mem_append_right _ (List.mem_singleton.2 rfl),Q,rfl,rfl⟩
   ·exact .inl z
   exact .inr ⟨S,IF _ b,t,d,A⟩
  ·have V:=ia (i.openA (z.area i) W);refine oK ?_;show aT h.m (s+g) (aR a) ((p+k)/1024)=_;rw [cO,GO];rintro⟨P,T⟩;rw [O _ P T] at V;cases V
  injection K with K;subst K;refine⟨λn z=>?_,λk W=>?_⟩
  ·rcases z with ⟨F,L,M,l,d,m,x,f,b⟩|⟨S,b,t,d,A⟩;·have:=ca l d m;omega
   have h2:=N S b;have h3:=i.rgs S b;unfold Rg9.base at t;unfold Rg9.ext at h2;omega
  have V:bO (aT h.m (s+g) (aR a)) ((s+g)*1024+k)=0:=by
   unfold bO;rw [cO,GP Z];simp only [Hi,Ht];rw [List.getElem?_replicate];split <;> rfl
  exact V
theorem rJ (h c s j):(bK h c s j).rq=h.rq/\((bK h c s j).m=h.m\/(bK h c s j).m=bQ h.m (aD c s) (dI c)):=by
 unfold bK;dsimp only;split;·exact⟨rfl,.inr rfl⟩
 exact⟨rfl,.inl rfl⟩
theorem kX (cf h c s j):(aL cf h c s j).rq=aE h.rq c s j 0/\∃ a k,(aL cf h c s j).m=ay h.m (bh c s j) (List.replicate (cy c) 0) (cy c)\/(aL cf h c s j).m=bQ (ay h.m (bh c s j) (List.replicate (cy c) 0) (cy c)) a k:=by
 rw [cW];split;·exact⟨rfl,0,0,.inl rfl⟩
 have q:=rJ (bX cf h c s j) c ((er cf h c s j).toNat/aM c) ((er cf h c s j).toNat%aM c);exact⟨q.1,_,_,q.2⟩
theorem ij (cf h r):(aJ cf h r).m=bQ h.m (r.first+r.guards) r.pages/\∀ x∈(aJ cf h r).rg,x.st=1->x∈h.rg:=by
 have a:∀ x∈(tV h r).rg,x.st=1->x∈h.rg:=λx b h1=>by
  obtain⟨y,d,e⟩:=FQ.1 b;by_cases c:y.base=r.base
  ·rw [GP c] at e;subst e;cases h1
  rw [GO c] at e;subst e;exact d
 rw [cG];split;·exact⟨rfl,λx b h1=>a x (Gk.1 b).1 h1⟩
 exact⟨rfl,a⟩
theorem r8 (i:Inv cf h) (a1:1<=cf.fifo) {x:Fd} (hx:Seen h p x) (hn:∀ g,x≠.no g) :
  (∀ y n,Sz (db cf h x) y n↔y≠p/\Sz h y n)/\∀ y n,y≠p->Sz h y n->∀ k,k<n->bO (db cf h x).m (y+k)=bO h.m (y+k):=by
 have i':=(i.fAny a1 hx).1;have sz:∀ y n,Sz (db cf h x) y n↔y≠p/\Sz h y n:=λy n=>by
  constructor
  ·intro z;obtain⟨l,w⟩:=Lv.free i hx hn z.lv;refine⟨w,?_⟩;cases hx with
   | no g _=>exact absurd rfl (hn g)
   | slot c s j hc O hj hp hl =>
    rcases z with ⟨G,F,K,u,d,v,o,L,t⟩|z
    ·have e:¬(G=c/\F=s/\K=j):=λe=>by obtain ⟨rfl,rfl,rfl⟩:=e;exact w (o.symm.trans hp)
     have f:(aL cf h c s j).rq G F K=(n:Int):=t;rw [(kX cf h c s j).1] at f;unfold aE at f;rw [GO e] at f;obtain⟨m,z9⟩:=Lv.sz i l;rcases z9 with ⟨c9,s9,j9,P,Q,R,S,A,B⟩|⟨r9,B,V,_⟩;·obtain⟨rfl,rfl,rfl⟩:=kI P Q R u d v (S.trans o.symm);exact .inl ⟨c9,s9,j9,P,Q,R,S,A,f⟩
     exact absurd (o.trans V.symm) (fY i u d v B)
    obtain⟨r,hr,hb,W,hq⟩:=z;have M:r∈(aL cf h c s j).rg:=hr;rw [qB] at M;exact .inr ⟨r,M,hb,W,hq⟩
   | range r hr hb O =>
    rcases z with ⟨G,F,K,u,d,v,o,L,t⟩|⟨r',t,X,d,Y⟩
    ·have q:(aJ cf h r).st=h.st/\(aJ cf h r).rq=h.rq:=by
      rw [cG];split <;> exact ⟨rfl,rfl⟩
     have A:(aJ cf h r).st G F K=1:=L;have f:(aJ cf h r).rq G F K=(n:Int):=t;rw [q.1] at A;rw [q.2] at f;exact .inl ⟨G,F,K,u,d,v,o,A,f⟩
    exact .inr ⟨r',(ij cf h r).2 r' t d,X,d,Y⟩
  rintro⟨w,z⟩;obtain⟨m,z9⟩:=Lv.sz i' (Lv.kept i a1 hx z.lv w);have e:m=n:=by
   cases hx with
   | no g _=>exact absurd rfl (hn g)
   | slot c s j hc O hj hp hl =>
    rcases z9 with ⟨G,F,K,u,d,v,o,L,t⟩|⟨r,hr,hb,W,hq⟩
    ·have e:¬(G=c/\F=s/\K=j):=λe=>by obtain ⟨rfl,rfl,rfl⟩:=e;exact w (o.symm.trans hp)
     have f:(aL cf h c s j).rq G F K=(m:Int):=t;rw [(kX cf h c s j).1] at f;unfold aE at f;rw [GO e] at f;rcases z with ⟨c9,s9,j9,P,Q,R,S,A,B⟩|⟨r9,B,V,_⟩;·obtain⟨rfl,rfl,rfl⟩:=kI P Q R u d v (S.trans o.symm);omega
     exact absurd (o.trans V.symm) (fY i u d v B)
    have M:r∈(aL cf h c s j).rg:=hr;rw [qB] at M;exact Sz.one i (.inr ⟨r,M,hb,W,hq⟩) z
   | range r hr hb O =>
    rcases z9 with ⟨G,F,K,u,d,v,o,L,t⟩|⟨r',t,X,d,Y⟩
    ·have q:(aJ cf h r).st=h.st/\(aJ cf h r).rq=h.rq:=by
      rw [cG];split <;> exact ⟨rfl,rfl⟩
     have A:(aJ cf h r).st G F K=1:=L;have f:(aJ cf h r).rq G F K=(m:Int):=t;rw [q.1] at A;rw [q.2] at f;exact Sz.one i (.inl ⟨G,F,K,u,d,v,o,A,f⟩) z
    exact Sz.one i (.inr ⟨r',(ij cf h r).2 r' t d,X,d,Y⟩) z
  exact e▸z9
 refine⟨sz,λy n w z k hk=>?_⟩;have ho:=ia (i'.openA (((sz y n).2 ⟨w,z⟩).area i') hk);have T:∀ {m:Nat->Option (Bool×List Int)} {a b:Nat},(bQ m a b ((y+k)/1024)).isSome=true->bO (bQ m a b) (y+k)=bO m (y+k):=λ{m a b} O=>by
  refine oK ?_;rw [eb] at O ⊢;split at O;·cases O
  rename_i q;rw [GO q]
 cases hx with
 | no g _=>exact absurd rfl (hn g)
 | slot c s j hc O hj hp hl =>
  have a2:bO (ay h.m (bh c s j) (List.replicate (cy c) 0) (cy c)) (y+k)=bO h.m (y+k):=by
   refine h_ _ _ _ _ _ ?_;have a0:Area h (bh c s j) (cy c):=.slot c s j hc O hj rfl hl (Fv _);have:=i.apartA (z.area i) a0 (by rw [hp];exact w);omega
  obtain⟨_,F,b,e⟩:=kX cf h c s j;show bO (aL cf h c s j).m (y+k)=_;have N:((aL cf h c s j).m ((y+k)/1024)).isSome=true:=ho;rcases e with e|e;·rw [e];exact a2
  rw [e] at N ⊢;rw [T N];exact a2
 | range r hr hb O =>
  show bO (aJ cf h r).m (y+k)=_;have N:((aJ cf h r).m ((y+k)/1024)).isSome=true:=ho;rw [(ij cf h r).1] at N ⊢;exact T N
structure it where
 base:Nat
 bytes:List Int
 known:List Bool
structure JQ (h:Hs) (q:List it):Prop where
 sz:∀ o∈q,Sz h o.base o.bytes.length/\o.known.length=o.bytes.length
 all:∀ p n,Sz h p n->∃ o∈q,o.base=p
 ndq9:(q.map it.base).Nodup
 bt:∀ o∈q,∀ k,o.known[k]?=some true->bO h.m (o.base+k)=o.bytes[k]?.getD 0
def tR (q:List it) (b n:Nat):Prop:=b%16=0/\b≠0/\∀ o∈q,b≠o.base/\(b+n<=o.base\/o.base+o.bytes.length<=b)
theorem p7 (i:Inv cf h) (a:Area h p n):p%16=0/\p≠0/\n<=98304/\p+n<=289792:=by
 have l:Lv h p:=by
  cases a with
  | slot c s j d b e m o f=>exact .slot c s j d b e m o (FH _)
  | range r g k b f=>exact .range r g k b (FH _)
 have h1:=Lv.in i l;cases a with
 | slot c s j d b e m o f =>
  have q:=ca d b e;have t:∀ c,c<12->cy c<=1024:=ar;have v:=t c d;have u:∀ c,c<12->1<=yJ c:=ar;have w:=u c d;have x:1024<=bh c s j:=by unfold bh aD;omega
  omega
 | range r g k b f =>
  have q:=i.rgs r g;unfold Rg9.ext at q;unfold Rg9.base at k;omega
theorem JQ.known {q} (j:JQ h q) {o:it} (a:o∈q) (b:o.known[k]?=some true):k<o.bytes.length:=by
 have:=(Fz.1 b).1;have:=(j.sz o a).2;omega
theorem JQ.clr {q} (c:Inv cf h1) (j:JQ h q) {b} (i:Sz h1 b n) (k:∀ o∈q,Sz h1 o.base o.bytes.length) (f:∀ o∈q,o.base≠b):tR q b n:=by
 have a:=i.area c;have g:=p7 c a;refine⟨g.1,g.2.1,λo d=>⟨λe=>f o d e.symm,?_⟩⟩;have:=c.apartA a ((k o d).area c) (λe=>f o d e.symm);omega
theorem qI {l:List Nat} {x:Nat} (h:l.Nodup) (d:x∉l):(l++[x]).Nodup:=by
 rw [List.nodup_append];exact⟨h,bH,λa ha b c=>by simp at c;rw [c];exact λe=>d (e▸ha)⟩
theorem JQ.mal {q} (i:Inv cf h) (j:JQ h q) (v:av cf h a=(o,h1)) (r:Inv cf h1) :
  (o=none->JQ h1 q)/\∀ b,o=some b->a<=98304/\tR q b a/\∀ z:Bool,JQ h1 (q++[⟨b,List.replicate a 0,List.replicate a z⟩]):=by
 obtain⟨m,w,t⟩:=sP i v;have sz:∀ x∈q,Sz h1 x.base x.bytes.length:=λx c=>(m _ _).2 (.inr (j.sz x c).1)
 have u:∀ x∈q,∀ k,x.known[k]?=some true->bO h1.m (x.base+k)=x.bytes[k]?.getD 0:=λx c k g=>by
  rw [w _ _ (j.sz x c).1 k (j.known c g)];exact j.bt x c k g
 refine⟨λe=>⟨λx c=>⟨sz x c,(j.sz x c).2⟩,λp n z=>?_,j.ndq9,u⟩,λb e=>?_⟩
 ·rcases (m p n).1 z with ⟨f,_⟩|z;·rw [e] at f;cases f
  exact j.all p n z
 have d:Sz h1 b a:=(m _ _).2 (.inl ⟨e,rfl⟩);have nb:∀ x∈q,x.base≠b:=λx c f=>(t b e).1 _ (f▸(j.sz x c).1)
 refine⟨(p7 r (d.area r)).2.2.1,j.clr r d sz nb,λz=>⟨λx c=>?_,λp n y=>?_,?_,λx c k g=>?_⟩⟩
 ·rcases F8.1 c with c|c;·exact⟨sz x c,(j.sz x c).2⟩
  obtain rfl:=List.mem_singleton.1 c;exact⟨by show Sz h1 b (List.replicate a (0:Int)).length;rw [Gc];exact d,bH⟩
 ·rcases (m p n).1 y with ⟨f,_⟩|y
  ·rw [e] at f;injection f with f;exact⟨_,List.mem_append_right _ (List.mem_singleton.2 rfl),f⟩
  obtain⟨x,c,s⟩:=j.all p n y;exact⟨x,IF _ c,s⟩
 ·rw [Hr];refine qI j.ndq9 λl=>?_;obtain⟨x,c,s⟩:=FQ.1 l;exact nb x c s
 rcases F8.1 c with c|c;·exact u x c k g
 obtain rfl:=List.mem_singleton.1 c;have l:=(Fz.1 g).1;rw [Gc] at l;show bO h1.m (b+k)=(List.replicate a (0:Int))[k]?.getD 0;rw [(t b e).2 k l,List.getElem?_replicate];split <;> rfl
theorem JQ.same {q} (j:JQ h q) (b:∀ p n,Sz h1 p n↔Sz h p n) (d:∀ p n,Sz h p n->∀ k,k<n->bO h1.m (p+k)=bO h.m (p+k)):JQ h1 q :=
 ⟨λx a=>⟨(b _ _).2 (j.sz x a).1,(j.sz x a).2⟩,λp n z=>j.all p n ((b p n).1 z),j.ndq9,λx a k c=>by rw [d _ _ (j.sz x a).1 k (j.known a c)];exact j.bt x a k c⟩
theorem ql {q:List it} (c:(q.map it.base).Nodup) {i:Nat} {x y:it} (j:q[i]?=some x) (l:q[k]?=some y) (e:x.base=y.base):i=k:=by
 obtain⟨h1,m⟩:=Fz.1 j;obtain⟨n,o⟩:=Fz.1 l;have d:i<(q.map it.base).length:=by rw [Gz];exact h1
 have f:k<(q.map it.base).length:=by rw [Gz];exact n
 have g:(q.map it.base)[i]=(q.map it.base)[k]:=by rw [List.getElem_map,List.getElem_map,m,o,e]
 apply Classical.byContradiction;intro b;rcases Nat.lt_or_gt_of_ne b with a|a;·exact II.1 c i k d f a g
 exact II.1 c k i f d a g.symm
theorem ts {q:List it} (n:(q.map it.base).Nodup) {i:Nat} {x:it} (f:q[i]?=some x) {y:it} : y∈q.take i++q.drop (i+1)↔y∈q/\y.base≠x.base:=by
 have o:=(Fz.1 f).1;constructor
 ·intro g;obtain⟨k,a⟩:=List.mem_iff_getElem?.1 g;have j:∃ l,l≠i/\q[l]?=some y:=by
   rw [List.getElem?_append] at a;split at a
   ·rename_i b;rw [Hm] at b;rw [Gx] at a;split at a;·exact⟨k,Z,a⟩
    cases a
   rename_i b;rw [Hm] at b a;rw [IR] at a;exact⟨_,Z,a⟩
  obtain⟨l,c,d⟩:=j;exact⟨FM d,λe=>c (ql n d f e)⟩
 rintro⟨g,c⟩;obtain⟨k,a⟩:=List.mem_iff_getElem?.1 g;have m:k≠i:=λe=>by rw [e,f] at a;injection a with a;exact c (by rw [a])
 rcases Nat.lt_or_gt_of_ne m with b|b;·exact IF _ (List.mem_iff_getElem?.2 ⟨k,by rw [Hf b];exact a⟩)
 exact List.mem_append_right _ (List.mem_iff_getElem?.2 ⟨k-(i+1),by rw [IR];rw [show i+1+(k-(i+1))=k by omega];exact a⟩)
theorem uE {q:List it} (a:(q.map it.base).Nodup) (i:Nat):((q.take i++q.drop (i+1)).map it.base).Nodup:=by
 have h1:(q.take i++q.drop (i+1)).Sublist q:=by
  have:=List.Sublist.append (List.Sublist.refl (q.take i)) (List.drop_sublist_drop_left q (Nat.le_succ i));rw [List.take_append_drop] at this;exact this
 exact a.sublist (h1.map _)
theorem JQ.free {q} (i:Inv cf h) (f:1<=cf.fifo) (j:JQ h q) {x:Fd} (m:Seen h p x) (r:∀ a,x≠.no a) {o:it} (s:q[k]?=some o) (t:o.base=p):JQ (db cf h x) (q.take k++q.drop (k+1)):=by
 obtain⟨g,u⟩:=r8 i f m r;have a:∀ {y},y∈q.take k++q.drop (k+1)↔y∈q/\y.base≠p:=λ{y}=>by rw [ts j.ndq9 s,t]
 refine⟨λy b=>?_,λv n z=>?_,uE j.ndq9 k,λy b l c=>?_⟩;·obtain⟨h1,d⟩:=a.1 b;exact⟨(g _ _).2 ⟨d,(j.sz y h1).1⟩,(j.sz y h1).2⟩
 ·obtain⟨h1,d⟩:=(g _ _).1 z;obtain⟨y,b,e⟩:=j.all v n d;exact⟨y,a.2 ⟨b,by rw [e];exact h1⟩,e⟩
 obtain⟨h1,d⟩:=a.1 b;rw [u _ _ d (j.sz y h1).1 l (j.known h1 c)];exact j.bt y h1 l c
theorem Sz.find {cf h} (i:Inv cf h) {p n} (z:Sz h p n):∀ a,aB h p≠.no a:=by
 intro a;unfold aB;rcases z with ⟨c,s,j,f,d,g,rfl,k,b⟩|⟨r,b,rfl,d,o⟩;·rw [fI f d g];dsimp only;rw [GP k];intro e;cases e
 have h1:=i.rgs r b;rw [lG (show 191488<=r.base by unfold Rg9.base;omega)];dsimp only;cases e:h.rg.find? λx=>x.base==r.base with
 | none =>
  have:=List.find?_eq_none.1 e r b;simp at this
 | some x =>
  have l:=List.find?_some e;have m:=Ip e;obtain rfl:=i.one m b (by simpa using l);dsimp only;rw [GP d];intro e;cases e
theorem JQ.no {q} (i:Inv cf h) (j:JQ h q) {a:Int} (b:aB h p=.no a):∀ o∈q,o.base≠p:=λo c e=>(j.sz o c).1.find i a (e▸b)
theorem JQ.has {q} (i:Inv cf h) (j:JQ h q) {x:Fd} (d:Seen h p x) (f:∀ a,x≠.no a):∃ (k:Nat) (o:it),q[k]?=some o/\o.base=p:=by
 have l:Lv h p:=by
  cases d with
  | slot c s j e b g m r=>exact .slot c s j e b g m r (FH _)
  | range r e g b=>exact .range r e g b (FH _)
  | no a _=>exact absurd rfl (f a)
 obtain⟨n,z⟩:=Lv.sz i l;obtain⟨o,b,e⟩:=j.all p n z;obtain⟨k,g⟩:=List.mem_iff_getElem?.1 b;exact⟨k,o,g,e⟩
def gJ (o:it) (b n:Nat):it:=⟨b,o.bytes.take n++List.replicate (n-o.bytes.length) 0,o.known.take n++List.replicate (n-o.bytes.length) false⟩
theorem JQ.resize {h' q} (s:Inv cf h') (j:JQ h q) {o:it} (A:q[k]?=some o) {b:Nat} (v:∀ y m,Sz h' y m↔(y=b/\m=n)\/(y≠o.base/\Sz h y m)) (r:b=o.base\/∀ m,¬Sz h b m) (G:∀ y m,y≠o.base->Sz h y m->∀ t,t<m->bO h'.m (y+t)=bO h.m (y+t)) (K:∀ t,t<n->t<o.bytes.length->bO h'.m (b+t)=bO h.m (o.base+t)) :
  tR (q.take k++q.drop (k+1)) b n/\JQ h' (q.take k++q.drop (k+1)++[gJ o b n]):=by
 have i:=FM A;have f:∀ {y},y∈q.take k++q.drop (k+1)↔y∈q/\y.base≠o.base:=λ{y}=>ts j.ndq9 A
 have g:Sz h' b n:=(v _ _).2 (.inl ⟨rfl,rfl⟩);have B:=(j.sz o i).2;have nb:∀ y∈q.take k++q.drop (k+1),y.base≠b:=λy c e=>by
  obtain⟨h1,l⟩:=f.1 c;rcases r with r|r;·exact l (e.trans r)
  exact r _ (e▸(j.sz y h1).1)
 have sz:∀ y∈q.take k++q.drop (k+1),Sz h' y.base y.bytes.length:=λy c=>by
  obtain⟨h1,l⟩:=f.1 c;exact (v _ _).2 (.inr ⟨l,(j.sz y h1).1⟩)
 have a:=g.area s;have F:=p7 s a;refine⟨⟨F.1,F.2.1,λy c=>⟨λe=>nb y c e.symm,?_⟩⟩,⟨λy c=>?_,λp m z=>?_,?_,λy c t w=>?_⟩⟩;·have:=s.apartA a ((sz y c).area s) (λe=>nb y c e.symm);omega
 ·rcases F8.1 c with c|c;·exact⟨sz y c,(j.sz y (f.1 c).1).2⟩
  obtain rfl:=List.mem_singleton.1 c;have L:(gJ o b n).bytes.length=n:=by unfold gJ;simp only [FC,Hm,Gc];omega
  have M:(gJ o b n).known.length=n:=by unfold gJ;simp only [FC,Hm,Gc];omega
  rw [L,M];exact⟨g,rfl⟩
 ·rcases (v p m).1 z with ⟨rfl,rfl⟩|⟨h1,l⟩;·exact⟨_,List.mem_append_right _ (List.mem_singleton.2 rfl),rfl⟩
  obtain⟨y,c,e⟩:=j.all p m l;exact⟨y,IF _ (f.2 ⟨c,by rw [e];exact h1⟩),e⟩
 ·rw [Hr];refine qI (uE j.ndq9 k) λx=>?_;obtain⟨y,c,e⟩:=FQ.1 x;exact nb y c e
 rcases F8.1 c with c|c;·obtain⟨h1,l⟩:=f.1 c;rw [G _ _ l (j.sz y h1).1 t (j.known h1 w)];exact j.bt y h1 t w
 obtain rfl:=List.mem_singleton.1 c;have d:(o.known.take n++List.replicate (n-o.bytes.length) false)[t]?=some true:=w;have u:t<n/\o.known[t]?=some true:=by
  rw [List.getElem?_append] at d;split at d
  ·rw [Gx] at d;split at d;·rename_i N;exact⟨N,d⟩
   cases d
  rw [List.getElem?_replicate] at d;split at d <;> cases d
 have O:=j.known i u.2;show bO h'.m (b+t)=(o.bytes.take n++List.replicate (n-o.bytes.length) 0)[t]?.getD 0;rw [K t u.1 O,j.bt o i t u.2,Ga (by rw [Hm];omega),Hf u.1]
theorem JQ.realloc {cf h q} (i:Inv cf h) (a7:1<=cf.fifo) {kk} (a2:Few kk h) (j:JQ h q) {p:Nat} {a} (hp:p≠0) {G:An4} {h':Hs} (K:a_ cf h p a=(G,h')) :
  (G.code≠0/\JQ h' q/\((∀ o∈q,o.base≠p)\/G.code=1\/G.code=5))\/(G.code=0/\a<=98304/\∃ (k:Nat) (o:it),q[k]?=some o/\o.base=p/\(G.addr=p\/tR q G.addr a)/\tR (q.take k++q.drop (k+1)) G.addr a/\JQ h' (q.take k++q.drop (k+1)++[gJ o G.addr a])):=by
 have i':Inv cf h':=by have:=(i.realloc a7 a2 p a).1;rw [K] at this;exact this
 have sn:=bT h p;have a3:∀ {f:Nat},(∀ d,aB h p≠.no d)->(∀ (k:Nat) (o:it),q[k]?=some o->o.base=p->o.bytes.length=f)->(match av cf h a with|(none,h1)=>(An4.no 1,h1)|(some q',h1)=>(⟨0,q',0,[]⟩,db cf { h1 with m:=aZ h1.m p q' (min f a) } (aB { h1 with m:=aZ h1.m p q' (min f a) } p)):An4×Hs)=(G,h')->(G.code≠0/\JQ h' q/\((∀ o∈q,o.base≠p)\/G.code=1\/G.code=5))\/(G.code=0/\a<=98304/\∃ (k:Nat) (o:it),q[k]?=some o/\o.base=p/\(G.addr=p\/tR q G.addr a)/\tR (q.take k++q.drop (k+1)) G.addr a/\JQ h' (q.take k++q.drop (k+1)++[gJ o G.addr a])):=by
  intro f L a8 e;obtain⟨k,o,N,v⟩:=j.has i sn L;have b9:=a8 k o N v;have X:=(i.malloc a2 a).1;cases S:av cf h a with
  | mk a9 h1 =>
   rw [S] at e X;obtain⟨m1,m2⟩:=j.mal i S X;obtain⟨t1,t2,t3⟩:=sP i S;cases a9 with
   | none =>
    injection e with T V;subst T V;exact .inl ⟨ar,m1 rfl,.inr (.inl rfl)⟩
   | some b =>
    obtain⟨ha,cl,_⟩:=m2 b rfl;dsimp only at e;injection e with T V;subst T;have i2:Inv cf { h1 with m:=aZ h1.m p b (min f a) }:=X.bytes _ _ _;have O:=(j.sz o (FM N)).1;rw [v] at O;have z2:∀ y m,Sz { h1 with m:=aZ h1.m p b (min f a) } y m↔Sz h1 y m:=λy m=>Iff.rfl
    have b1:Sz { h1 with m:=aZ h1.m p b (min f a) } p o.bytes.length:=(z2 _ _).2 ((t1 _ _).2 (.inr O));have b5:=bT { h1 with m:=aZ h1.m p b (min f a) } p;obtain⟨f1,f2⟩:=r8 i2 a7 b5 (b1.find i2);rw [V] at f1 f2;have b2:b≠p:=λW=>(t3 b rfl).1 _ (W▸O)
    have g:Sz h1 b a:=(t1 _ _).2 (.inl ⟨rfl,rfl⟩);have r:=j.resize i' N (b:=b) (n:=a) (λy m=>by
     rw [v,f1 y m,z2 y m,t1 y m];constructor
     ·rintro⟨h1,⟨Y,h3⟩|Y⟩;·injection Y with Y;exact .inl ⟨Y.symm,h3⟩
      exact .inr ⟨h1,Y⟩
     ·rintro (⟨rfl,rfl⟩|⟨h1,Y⟩);·exact⟨b2,.inl ⟨rfl,rfl⟩⟩
      exact⟨h1,.inr Y⟩) (.inr (t3 b rfl).1) (λy m hy z t ht=>by
     rw [v] at hy;have a4:Sz h1 y m:=(t1 _ _).2 (.inr z);rw [f2 y m hy a4 t ht];show bO (ay h1.m b (aH h1.m p (min f a)) (min f a)) (y+t)=_;rw [h_ _ _ _ _ _ (by have:=X.apartA (a4.area X) (g.area X) (λW=>(t3 b rfl).1 _ (W▸z));omega)];exact t2 y m z t ht) (λt b3 b6=>by
     rw [f2 b a b2 g t b3];show bO (ay h1.m b (aH h1.m p (min f a)) (min f a)) (b+t)=_;rw [pq X.fine _ _ _ _ Z (X.openA (g.area X) b3),fg _ _ _ _ Z,v];exact t2 p _ O t b6)
    exact .inr ⟨rfl,ha,k,o,N,v,.inr cl,r.1,r.2⟩
 unfold a_ at K;rw [GO hp] at K;dsimp only at K;cases w:aB h p with
 | no d =>
  rw [w] at K sn;injection K with T V;subst T V;refine .inl ⟨?_,j,.inl (j.no i w)⟩;cases sn with
  | no _ hc=>show d≠0;omega
 | slot c s jj =>
  rw [w] at K sn;dsimp only at K;cases sn with
  | slot _ _ _ hc hs hj P hl =>
   have a5:∀ (k:Nat) (o:it),q[k]?=some o->o.base=p->o.bytes.length=(h.rq c s jj).toNat:=λk o N v=>by
    have h1:=(i.req c s jj hc hs hj).1 hl;exact Sz.one i (v▸(j.sz o (FM N)).1) (.inl ⟨c,s,jj,hc,hs,hj,P,hl,Z⟩)
   have L:∀ d,aB h p≠.no d:=λd e=>by rw [w] at e;cases e
   split at K
   ·injection K with T V;subst T V;exact .inl ⟨ar,j,.inr (.inr rfl)⟩
   split at K
   ·rename_i b4;injection K with T V;subst T V;obtain⟨k,o,N,v⟩:=j.has i (bT h p) L;have r:=j.resize i' N (b:=p) (n:=a) (λy m=>by
     rw [v];unfold Sz;dsimp only;constructor
     ·rintro (⟨c',s',j',A,B,F,l,M,u⟩|z)
      ·unfold aE at u;by_cases e:c'=c/\s'=s/\j'=jj;·rw [GP e] at u;obtain⟨rfl,rfl,rfl⟩:=e;exact .inl ⟨l.symm.trans P,Z⟩
       rw [GO e] at u;exact .inr ⟨λW=>e (kI A B F hc hs hj (l.trans (W.trans P.symm))),.inl ⟨c',s',j',A,B,F,l,M,u⟩⟩
      refine .inr ⟨λW=>?_,.inr z⟩;obtain⟨r,hr,b7,_⟩:=z;exact fY i hc hs hj hr (P.trans (W.symm.trans b7.symm))
     rintro (⟨rfl,rfl⟩|⟨h1,⟨c',s',j',A,B,F,l,M,u⟩|z⟩);·exact .inl ⟨c,s,jj,hc,hs,hj,P,hl,by unfold aE;rw [GP ⟨rfl,rfl,rfl⟩]⟩
     ·exact .inl ⟨c',s',j',A,B,F,l,M,by unfold aE;rw [GO (λe=>by obtain ⟨rfl,rfl,rfl⟩:=e;exact h1 (l.symm.trans P))];exact u⟩
     exact .inr z) (.inl v.symm) (λ_ _ _ _ _ _=>rfl) (λt _ _=>by rw [v])
    have g:a<=98304:=Z;exact .inr ⟨rfl,g,k,o,N,v,.inl rfl,r.1,r.2⟩
   exact a3 L a5 K
 | range r =>
  rw [w] at K sn;dsimp only at K;cases sn with
  | range _ hr v hs =>
   have a5:∀ (k:Nat) (o:it),q[k]?=some o->o.base=p->o.bytes.length=r.rq.toNat:=λk o N Q=>by
    have h1:=i.rgs r hr;exact Sz.one i (Q▸(j.sz o (FM N)).1) (.inr ⟨r,hr,v,hs,Z⟩)
   have L:∀ d,aB h p≠.no d:=λd e=>by rw [w] at e;cases e
   split at K
   ·rename_i b4;injection K with T V;subst T V;obtain⟨k,o,N,Q⟩:=j.has i (bT h p) L;have rr:=j.resize i' N (b:=p) (n:=a) (λy m=>by
     rw [Q];unfold Sz;dsimp only;constructor
     ·rintro (⟨c',s',j',A,B,F,l,M,u⟩|⟨x,hx,R,a6,a0⟩);·exact .inr ⟨λW=>fY i A B F hr (l.trans (W.trans v.symm)),.inl ⟨c',s',j',A,B,F,l,M,u⟩⟩
      obtain⟨y',b8,e⟩:=FQ.1 hx;by_cases a1:y'.base=r.base;·rw [GP a1] at e;subst e;exact .inl ⟨R.symm.trans (a1.trans v),by have h9:((a:Nat):Int)=(m:Int):=a0;omega⟩
      rw [GO a1] at e;subst e;exact .inr ⟨λW=>a1 (R.trans (W.trans v.symm)),.inr ⟨y',b8,R,a6,a0⟩⟩
     rintro (⟨rfl,rfl⟩|⟨h1,⟨c',s',j',A,B,F,l,M,u⟩|⟨x,hx,R,a6,a0⟩⟩);·exact .inr ⟨_,FQ.2 ⟨r,hr,GP rfl⟩,v,hs,rfl⟩
     ·exact .inl ⟨c',s',j',A,B,F,l,M,u⟩
     exact .inr ⟨x,FQ.2 ⟨x,hx,GO (λe=>h1 (R.symm.trans (e.trans v)))⟩,R,a6,a0⟩) (.inl Q.symm) (λ_ _ _ _ _ _=>rfl) (λt _ _=>by rw [Q])
    have g:a<=98304:=by
     have h1:=i.rgs r hr;have Y:=gE a;unfold Rg9.ext at h1;rw [b4.2] at Y;omega
    exact .inr ⟨rfl,g,k,o,N,Q,.inl rfl,rr.1,rr.2⟩
   exact a3 L a5 K
def oC {α:Type} (l:List α) (off i:Nat) (f:Nat->α):List α:=l.mapIdx λt x=>if off<=t/\t<off+i then f (t-off) else x
theorem d_ {α:Type} (l:List α) (off i) (f:Nat->α):(oC l off i f).length=l.length:=by simp [oC]
theorem jA {α:Type} (l:List α) (off) (f:Nat->α):oC l off 0 f=l:=by
 apply Ho;intro t;unfold oC;rw [List.getElem?_mapIdx];cases l[t]? with
 | none=>rfl
 | some x=>simp only [Hi];rw [GO Z]
theorem mX {α:Type} (l:List α) (off i) (f:Nat->α):(oC l off i f).set (off+i) (f i)=oC l off (i+1) f:=by
 apply Ho;intro t;rw [Gr];unfold oC;rw [List.getElem?_mapIdx,List.getElem?_mapIdx,List.length_mapIdx];by_cases e:off+i=t
 ·subst e;rw [GP rfl];by_cases a:off+i<l.length;·rw [GP a,Fy a];simp only [Hi];rw [GP Z,show off+i-off=i by omega]
  rw [GO a,FJ Z];rfl
 rw [GO e];cases l[t]? with
 | none=>rfl
 | some x =>
  simp only [Hi];by_cases h1:off<=t/\t<off+i;·rw [GP h1,GP Z]
  rw [GO h1,GO Z]
theorem r_ {α:Type} (l:List α) (off i) (f:Nat->α) (t:Nat):(oC l off i f)[t]?=(l[t]?).map λx=>if off<=t/\t<off+i then f (t-off) else x:=by unfold oC;rw [List.getElem?_mapIdx]
theorem JQ.cov {q} (i:Inv cf h) (j:JQ h q) {o:it} (a:o∈q) (b:off+n<=o.bytes.length) (h1:1<=n) (c:n<=4096):ci h.m (o.base+off) (n:Int)=0:=i.openN9 ((j.sz o a).1.area i) b h1 c
theorem JQ.read {q} (j:JQ h q) {o:it} (a:o∈q) {t:Nat} (b:t<n) (c:o.known[off+t]?=some true):(aH h.m (o.base+off) n)[t]?.getD 0=o.bytes[off+t]?.getD 0:=by
 rw [fg _ _ _ _ b,H_];exact j.bt o a _ c
theorem JQ.put {q} (i:Inv cf h) (j:JQ h q) {o:it} (s:q[k]?=some o) {b:List Int} (F:off+b.length<=o.bytes.length) :
  JQ { h with m:=ay h.m (o.base+off) b b.length } (q.set k ⟨o.base,oC o.bytes off b.length (λt=>b[t]?.getD 0),oC o.known off b.length (λ_=>true)⟩):=by
 have c:=FM s;have d:=(j.sz o c).1;have w:=(Fz.1 s).1;have v:∀ p n,Sz { h with m:=ay h.m (o.base+off) b b.length } p n↔Sz h p n:=λp n=>Iff.rfl
 have f:∀ y,y∈q.set k ⟨o.base,oC o.bytes off b.length (λt=>b[t]?.getD 0),oC o.known off b.length (λ_=>true)⟩->y=⟨o.base,oC o.bytes off b.length (λt=>b[t]?.getD 0),oC o.known off b.length (λ_=>true)⟩\/(y∈q/\y.base≠o.base):=λy g=>by
  obtain⟨t,a⟩:=List.mem_iff_getElem?.1 g;rw [Gr] at a;split at a
  ·injection a with a;exact .inl a.symm
  rename_i e;exact .inr ⟨FM a,λl=>e (ql j.ndq9 s a l.symm)⟩
 refine⟨λy g=>?_,λp n z=>?_,?_,λy g t a=>?_⟩
 ·rcases f y g with rfl|⟨h1,_⟩;·rw [v];dsimp only;rw [d_,d_];exact j.sz o c
  exact⟨(v _ _).2 (j.sz y h1).1,(j.sz y h1).2⟩
 ·obtain⟨y,g,e⟩:=j.all p n ((v p n).1 z);obtain⟨t,a⟩:=List.mem_iff_getElem?.1 g;by_cases l:t=k
  ·subst l;rw [s] at a;injection a with a;subst a;exact⟨⟨o.base,oC o.bytes off b.length (λt=>b[t]?.getD 0),oC o.known off b.length (λ_=>true)⟩,List.mem_iff_getElem?.2 ⟨t,by rw [Gr,GP rfl,GP w]⟩,e⟩
  exact⟨y,List.mem_iff_getElem?.2 ⟨t,by rw [Gr,GO (λx=>l x.symm)];exact a⟩,e⟩
 ·have e:(q.set k ⟨o.base,oC o.bytes off b.length (λt=>b[t]?.getD 0),oC o.known off b.length (λ_=>true)⟩).map it.base=q.map it.base:=by
   apply Ho;intro t;rw [Gv,Gv,Gr];split;·rename_i e;subst e;rw [s];rfl
   rfl
  rw [e];exact j.ndq9
 rcases f y g with rfl|⟨h1,A⟩
 ·dsimp only at a ⊢;rw [r_] at a ⊢;have u:t<o.known.length:=by
   apply Classical.byContradiction;intro G;rw [FJ Z] at a;cases a
  have r:t<o.bytes.length:=by have:=(j.sz o c).2;omega
  rw [Fy u] at a;rw [Fy r];simp only [Hi,Ht] at a ⊢;by_cases e:off<=t/\t<off+b.length
  ·rw [GP e];have l:o.base+t=o.base+off+(t-off):=Z;rw [l,pq i.fine _ _ _ _ Z (by rw [<-l];exact i.openA (d.area i) r)]
  rw [GO e] at a ⊢;rw [h_ _ _ _ _ _ Z,j.bt o c t (by rw [Fy u];exact a),Fy r];rfl
 have:=i.apartA ((j.sz y h1).1.area i) (d.area i) A;have B:=j.known h1 a;show bO (ay h.m (o.base+off) b b.length) (y.base+t)=_;rw [h_ _ _ _ _ _ Z];exact j.bt y h1 t a
theorem JQ.new (cf):JQ (aP cf) []:=by
 refine⟨λo a=>(by cases a),λp n z=>?_,List.nodup_nil,λo a=>(by cases a)⟩;rcases z with ⟨c,s,j,_,_,_,_,b,_⟩|⟨r,d,_⟩;·exact absurd (show (0:Int)=1 from b) ar
 cases d
end
section
open Go.RowKit Go.Shelf Go.Maps
structure Oc where
 o:it
 gb:Nat
 gk:Nat
def pV (x:Oc):List Value:=[U x.o.base,Vl x.gb x.o.bytes.length x.o.bytes.length,Vl x.gk x.o.known.length x.o.known.length]
def RwO (W:World) (A:Option Addr) (xs:List Oc):Prop:=∀ (k:Nat) x,xs[k]?=some x->∃ g,A=some ⟨g,0,none⟩/\W.rangeAt g (k*3) (pV x)
theorem RwO.low {W A xs} (h:RwO W A xs) (b:D W W'):RwO W' A xs:=λk x a=>by
 obtain⟨g,e,r⟩:=h k x a
 exact⟨g,e,λi u c=>ad b (r i u c)⟩
theorem A5 (W A) (cap:Nat) (xs) (p:Nat) (r:RwO W A xs) (G:xs.length<=1000) :
  Calls prog 19 #[.slice A xs.length cap,U p] W λe W'=>((∃ (k:Nat) (x:Oc),xs[k]?=some x/\x.o.base=p/\e=.returned (I k))\/((∀ x∈xs,x.o.base≠p)/\e=.returned (I (-1))))/\D W W':=by
 obtain⟨n,a⟩:∃ n,xs.length=n:=⟨_,rfl⟩;rw [a] at G ⊢;have y:=H a;have K:=H r;clear a r;go_enter func19,ntmps19;go_wp2_with fail;go_loopw [9] (λi wr=>∃ k:Nat,k<=n/\i=I k/\Hid (∀ t x,t<k->xs[t]?=some x->x.o.base≠p)/\Hid (D W wr)) (λi _=>n-(intOf i).toNat);case atStart=>exact ⟨0,FH _,rfl,H (λt x j=>absurd j (Nat.not_lt_zero _)),H (Fu _ _)⟩
 case round =>
  obtain⟨k,L,rfl,z,m⟩:=hrel;by_cases q:k<n
  ·obtain⟨x,a⟩:∃ x,xs[k]?=some x:=⟨_,Fy (by rw [y.out];exact q)⟩;obtain⟨g,rfl,f⟩:=K.out k x a;have r:=H a;unfold pV at f;obtain⟨⟨b,s,l⟩,o,gk⟩:=x;dsimp only at f r;generalize M:s.length=c at f;generalize N:l.length=d at f;have B:=H (show wr.rangeAt g (k*3) [U b,Vl o c c,Vl gk d d] from λi u g=>ad m (f i u g));have F:=(Fu wr.heap.size wr).alloc (Fv _) (.cells #[U b,Vl o c c,Vl gk d d] 85);have v:=H (ao wr (.cells #[U b,Vl o c c,Vl gk d d] 85));have w:=H (az m F);clear f F m a;go_upto_region 4 with (refine wpList_load_mid rfl 85 _ rfl _ _ rfl _ _ B underlying85 rfl E ?_)
   generalize wr.alloc (.cells #[U b,Vl o c c,Vl gk d d] 85)=Y at v w ⊢;generalize wr.heap.size=F at v ⊢;have P:Y.cell? ⟨F,0,none⟩=some (U b):=bJ v.out;clear B;by_cases e:b=p
   ·have B:(((b:Nat):Int)==((p:Nat):Int))=true:=bG;go_wp2;go_ret;exact⟨.inl ⟨k,_,r,e,rfl⟩,w⟩
   have B:(((b:Nat):Int)==((p:Nat):Int))=false:=bG;have f:=H (show ∀ t x,t<k+1->xs[t]?=some x->x.o.base≠p from λt x j a=>by
    by_cases O:t=k
    ·subst O;rw [r.out] at a;injection a with a;subst a;exact e
    exact z t x Z a)
   clear e;go_wp2;go_roundw;(case rel=>exact ⟨k+1,Z,aY,f,w⟩);case measure=>simp [intOf];omega
  obtain rfl:k=n:=Z;clear L;go_wp2;go_ret;exact⟨.inr ⟨λx a=>by
   obtain⟨t,j⟩:=List.mem_iff_getElem?.1 a;exact z t x (by have:=(Fz.1 j).1;rw [y.out] at this;exact this) j,rfl⟩,m⟩
theorem tj (W A) (cap:Nat) (xs) (q d:Nat) (r:RwO W A xs) (G:xs.length<=1000) (R:q<=300000) (K:d<=1000000) (c:tR (xs.map Oc.o) q d) (b:∀ x∈xs,x.o.base<=300000/\x.o.bytes.length<=300000) :
  Calls prog 21 #[.slice A xs.length cap,U q,I d] W λe W'=>e=.returned (.bool true)/\D W W':=by
 obtain⟨n,a⟩:∃ n,xs.length=n:=⟨_,rfl⟩;rw [a] at G ⊢;have L:=H a;have M:=H r;have N:=H (show ∀ x∈xs,(x.o.base<=300000/\x.o.bytes.length<=300000)/\q≠x.o.base/\(q+d<=x.o.base\/x.o.base+x.o.bytes.length<=q) from λx j=>⟨b x j,c.2.2 x.o (FQ.2 ⟨x,j,rfl⟩)⟩);have f0:Int.tmod ((q:Nat):Int) 16=0:=by rw [GH Z];have:=c.1;omega
 have f2:(((q:Nat):Int)==0)=false:=by have:=c.2.1;simp;omega
 have f3:=c.2.1;have S:IntKind.u64.wrap ((d:Nat):Int)=((d:Nat):Int):=by rw [IntKind.wrap_u64];omega
 have T:IntKind.u64.wrap (((q:Nat):Int)+((d:Nat):Int))=((q:Nat):Int)+((d:Nat):Int):=by rw [IntKind.wrap_u64];omega
 clear a r c b;go_enter func21,ntmps21;go_wp2_with fail;go_loopw [18] (λi wr=>∃ k:Nat,k<=n/\i=I k/\Hid (D W wr)) (λi _=>n-(intOf i).toNat);case atStart=>exact ⟨0,FH _,rfl,H (Fu _ _)⟩
 case round =>
  obtain⟨k,O,rfl,t⟩:=hrel;by_cases v:k<n
  ·obtain⟨x,j⟩:∃ x,xs[k]?=some x:=⟨_,Fy (by rw [L.out];exact v)⟩;obtain⟨g,rfl,m⟩:=M.out k x j;have P:=H j;unfold pV at m;obtain⟨⟨b,w,o⟩,p,gk⟩:=x;have l:=N.out _ (FM j);dsimp only at m P l;generalize r:w.length=a at m l;generalize y:o.length=f at m;have B:=H (show wr.rangeAt g (k*3) [U b,Vl p a a,Vl gk f f] from λi u e=>ad t (m i u e));have F:=(Fu wr.heap.size wr).alloc (Fv _) (.cells #[U b,Vl p a a,Vl gk f f] 85);have s:=H (ao wr (.cells #[U b,Vl p a a,Vl gk f f] 85));have z:=H (az t F);have Q:=H r;clear m F t j r y;go_upto_region 6 with (refine wpList_load_mid rfl 85 _ rfl _ _ rfl _ _ B underlying85 rfl E ?_)
   generalize wr.alloc (.cells #[U b,Vl p a a,Vl gk f f] 85)=Y at s z ⊢;generalize wr.heap.size=r at s ⊢;have F:Y.cell? ⟨r,0,none⟩=some (U b):=bJ s.out;have V:Y.cell? ⟨r,1,none⟩=some (Vl p a a):=bJ s.out;clear B s;obtain⟨⟨B,X⟩,fn,m⟩:=l;have w3:IntKind.u64.wrap ((a:Nat):Int)=((a:Nat):Int):=(by rw [IntKind.wrap_u64];omega);have w4:IntKind.u64.wrap (((b:Nat):Int)+((a:Nat):Int))=((b:Nat):Int)+((a:Nat):Int):=(by rw [IntKind.wrap_u64];omega);have e0:(((q:Nat):Int)==((b:Nat):Int))=false:=bG;rcases m with m|m
   ·have s:decide (((q:Nat):Int)<=((b:Nat):Int))=true:=G8 Z;have d2:decide (((q:Nat):Int)+((d:Nat):Int) > ((b:Nat):Int))=false:=GR Z;have y:decide (((b:Nat):Int)<=((q:Nat):Int))=false:=GR Z;go_wp2;go_roundw;(case rel=>exact ⟨k+1,Z,aY,z⟩);case measure=>simp [intOf];omega
   have s:decide (((q:Nat):Int)<=((b:Nat):Int))=false:=GR Z;have y:decide (((b:Nat):Int)<=((q:Nat):Int))=true:=G8 Z;have d4:decide (((b:Nat):Int)+((a:Nat):Int) > ((q:Nat):Int))=false:=GR Z;go_wp2;go_roundw;(case rel=>exact ⟨k+1,Z,aY,z⟩);case measure=>simp [intOf];omega
  obtain rfl:k=n:=Z;clear O;go_wp2;go_ret;exact⟨rfl,t⟩
def tW (o:it) (p n:Nat):Prop:=o.base<=p/\(p-o.base)+n<=o.bytes.length
theorem y6 (W A) (cap:Nat) (xs) (q c:Nat) (r:RwO W A xs) (O:xs.length<=1000) (hq:q<18446744073709551616) (P:c<=4096) (b:∀ x∈xs,x.o.base<=300000/\x.o.bytes.length<=300000) :
  Calls prog 60 #[.slice A xs.length cap,U q,I c] W λe W'=>((∃ (k:Nat) (x:Oc),xs[k]?=some x/\tW x.o q c/\e=.returned (I k))\/((∀ x∈xs,¬tW x.o q c)/\e=.returned (I (-1))))/\D W W':=by
 obtain⟨n,a⟩:∃ n,xs.length=n:=⟨_,rfl⟩;rw [a] at O ⊢;have K:=H a;have Q:=H r;have R:=H b;have w1:IntKind.u64.wrap ((c:Nat):Int)=((c:Nat):Int):=by rw [IntKind.wrap_u64];omega
 clear a r b;go_enter func60,ntmps60;go_wp2_with fail;go_loopw [11] (λi wr=>∃ k:Nat,k<=n/\i=I k/\Hid (∀ t x,t<k->xs[t]?=some x->¬tW x.o q c)/\Hid (D W wr)) (λi _=>n-(intOf i).toNat);case atStart=>exact ⟨0,FH _,rfl,H (λt x o=>absurd o (Nat.not_lt_zero _)),H (Fu _ _)⟩
 case round =>
  obtain⟨k,S,rfl,L,y⟩:=hrel;by_cases z:k<n
  ·obtain⟨x,d⟩:∃ x,xs[k]?=some x:=⟨_,Fy (by rw [K.out];exact z)⟩;obtain⟨g,rfl,f⟩:=Q.out k x d;have B:=H d;unfold pV at f;obtain⟨⟨b,F,p⟩,r,gk⟩:=x;have l:=R.out _ (FM d);dsimp only at f B l;generalize m:F.length=a at f l;generalize G:p.length=j at f;have M:=H (show wr.rangeAt g (k*3) [U b,Vl r a a,Vl gk j j] from λi u g=>ad y (f i u g));have N:=(Fu wr.heap.size wr).alloc (Fv _) (.cells #[U b,Vl r a a,Vl gk j j] 85);have s:=H (ao wr (.cells #[U b,Vl r a a,Vl gk j j] 85));have v:=H (az y N);have w:=H m;clear f N y d m G;go_upto_region 4 with (refine wpList_load_mid rfl 85 _ rfl _ _ rfl _ _ M underlying85 rfl E ?_)
   generalize wr.alloc (.cells #[U b,Vl r a a,Vl gk j j] 85)=Y at s v ⊢;generalize wr.heap.size=G at s ⊢;have z0:Y.cell? ⟨G,0,none⟩=some (U b):=bJ s.out;have z1:Y.cell? ⟨G,1,none⟩=some (Vl r a a):=bJ s.out;clear M s;obtain⟨fb,fl⟩:=l;have w3:IntKind.u64.wrap ((a:Nat):Int)=((a:Nat):Int):=(by rw [IntKind.wrap_u64];omega);have m:=H (show ¬(b<=q/\(q-b)+c<=a)->∀ t x,t<k+1->xs[t]?=some x->¬tW x.o q c from λe t x o d=>by
    by_cases f:t=k
    ·subst f;rw [B.out] at d;injection d with d;subst d;unfold tW;dsimp only;rw [w.out];exact e
    exact L t x Z d)
   by_cases s:b<=q
   ·have N:decide (((q:Nat):Int)≥((b:Nat):Int))=true:=G8 Z;have w4:IntKind.u64.wrap (((q:Nat):Int)-((b:Nat):Int))=((q:Nat):Int)-((b:Nat):Int):=(by rw [IntKind.wrap_u64];omega);by_cases T:q-b<=a
    ·have V:decide (((q:Nat):Int)-((b:Nat):Int)<=((a:Nat):Int))=true:=G8 Z;have w5:IntKind.u64.wrap (((a:Nat):Int)-(((q:Nat):Int)-((b:Nat):Int)))=((a:Nat):Int)-(((q:Nat):Int)-((b:Nat):Int)):=(by rw [IntKind.wrap_u64];omega);by_cases M:(q-b)+c<=a;·have X:decide (((c:Nat):Int)<=((a:Nat):Int)-(((q:Nat):Int)-((b:Nat):Int)))=true:=G8 Z;have HE:=H (IT s M);go_wp2;go_ret;exact⟨.inl ⟨k,_,B,by unfold tW;dsimp only;rw [w.out];exact HE,rfl⟩,v⟩
     have X:decide (((c:Nat):Int)<=((a:Nat):Int)-(((q:Nat):Int)-((b:Nat):Int)))=false:=GR Z;have f:=H (m (λh=>M h.2));go_wp2;go_roundw;(case rel=>exact ⟨k+1,Z,aY,f,v⟩);case measure=>simp [intOf];omega
    have V:decide (((q:Nat):Int)-((b:Nat):Int)<=((a:Nat):Int))=false:=GR Z;have f:=H (m (λh=>T Z));go_wp2;go_roundw;(case rel=>exact ⟨k+1,Z,aY,f,v⟩);case measure=>simp [intOf];omega
   have N:decide (((q:Nat):Int)≥((b:Nat):Int))=false:=GR Z;have f:=H (m (λh=>s h.1));go_wp2;go_roundw;(case rel=>exact ⟨k+1,Z,aY,f,v⟩);case measure=>simp [intOf];omega
  obtain rfl:k=n:=Z;clear S;go_wp2;go_ret;exact⟨.inr ⟨λx d=>by
   obtain⟨t,o⟩:=List.mem_iff_getElem?.1 d;exact L t x (by have:=(Fz.1 o).1;rw [K.out] at this;exact this) o,rfl⟩,y⟩
end
end Go.Proofs.YtibblbenmpcplaaGreatDoor
