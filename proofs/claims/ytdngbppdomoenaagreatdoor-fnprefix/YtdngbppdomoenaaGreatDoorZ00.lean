import Derived.Test.YtdngbppdomoenaaGreatDoorN11
set_option linter.unusedVariables false
set_option linter.unusedSimpArgs false
set_option maxRecDepth 20000
set_option maxHeartbeats 8000000
namespace Go.Proofs.YtdngbppdomoenaaGreatDoor
open Go.Proofs.Tryz
variable {zs:List Int} {R cap len p p':Nat} {W W' b0 w w0:World} {a:Option Addr}
section
open Go.ChangeShapes Go.WideShapes Go.ChangeAt Go.RowKit Go.Shelf Go.Maps
def gH (zs:List Int) (p:Nat):Nat:=(zs[p]?.getD 0).toNat%256
def gJ (zs:List Int) (p:Nat):Nat:=if p<zs.length then p+1 else p
theorem d_ (zs p):gH zs p<=255:=by unfold gH;omega
theorem CI (h:p<zs.length):gJ zs p=p+1:=GP h
theorem xm (h:¬p<zs.length):gJ zs p=p:=GO h
theorem A5 (h:¬p<zs.length):gH zs p=0:=by unfold gH;rw [FJ Z];rfl
def Cbq9 (zs:List Int) (w0:World) (a:Option Addr) (len cap:Nat):Prop:=∃ ys,IsRow .u8 w0 a len cap ys/\zs=ys.take len/\len<=1048576
theorem Cbq9.len9 (h:Cbq9 zs w a len cap):zs.length=len/\len<=1048576:=by
 obtain⟨c,h,rfl,b⟩:=h;rw [Hm];rcases h with ⟨_,rfl,_,rfl⟩|⟨x,d,e,f,g,i,j⟩;·exact⟨rfl,b⟩
 exact⟨Z,b⟩
theorem Cbq9.at9 (h:Cbq9 zs w a len cap) (i:Nat) (c:i<len):∃ x,a=some x/\w.cell? (x.add i)=some (.int .u8 (gH zs i:Nat)):=by
 obtain⟨d,h,rfl,j⟩:=h;rcases h with ⟨_,rfl,_,rfl⟩|⟨x,e,k,l,m,f,g⟩;·omega
 have b:i<d.length:=Z;have n:=bounds_u8 (g _ (Iw b));refine⟨x,e,?_⟩;rw [f i b];unfold gH;rw [Hf c,List.getD_eq_getElem?_getD,Fy b];simp only [Ht];congr 2;omega
theorem Cbq9.below {w'} (h:Cbq9 zs w a len cap) (b:D w w'):Cbq9 zs w' a len cap:=by
 obtain⟨c,h,e,d⟩:=h;refine⟨c,?_,e,d⟩;rcases h with h|⟨x,f,g,j,k,l,m⟩;·exact .inl h
 exact .inr ⟨x,f,g,j,k,λi n=>ad b (l i n),m⟩
structure Rp (p:Nat) (w0:World) (a:Option Addr) (len cap:Nat) (R:Nat) (b0 W:World):Prop where
 box:W.heap[R]?=some (.cells #[.slice a len cap,I p] 71)
 pl:p<=len
 bel:D w0 W
 new:w0.heap.size<=R
 g:b0.grownBy W (some R)
theorem Rp.below (h:Rp p w0 a len cap R b0 W) (b:D W W'):Rp p w0 a len cap R b0 W' :=
 ⟨by rw [b.block R (ag h.box)];exact h.box,h.pl,az h.bel b,h.new,mu h.g (grown_of b R)⟩
theorem Rp.drew {p w0 b0 a len cap R W} (h:Rp p w0 a len cap R b0 W):Rp p w0 a len cap R b0 W.drew:=h.below (Fu _ _).drew
theorem Rp.at (h:Rp p w0 a len cap R b0 W):Rp p w0 a len cap R W W:=⟨h.box,h.pl,h.bel,h.new,al W R⟩
theorem Rp.of (h:Rp p w0 a len cap R b0 W) (k:Rp p' w0 a len cap R W W'):Rp p' w0 a len cap R b0 W':=⟨k.box,k.pl,k.bel,k.new,mu h.g k.g⟩
theorem Rp.app {f:World} (h:Rp p w0 a len cap R b0 W) {c:Option Nat} (b:W.grownBy f c) (d:∀ r,c=some r->b0.heap.size<=r/\R<r):Rp p w0 a len cap R b0 f:=by
 refine⟨?_,h.pl,h.bel.grown b h.bel.size (λr e=>?_),h.new,⟨b.os.trans h.g.os,b.tape.trans h.g.tape,b.output.trans h.g.output,Fx h.g.size b.size,λk g i=>(b.block k (FG g h.g.size) (λe=>?_)).trans (h.g.block k g i)⟩⟩;·rw [b.block R (ag h.box) (λe=>by have:=(d R e.symm).2;omega)];exact h.box
 ·have:=(d r e).2;have:=h.new;omega
 have:=(d k e.symm).1;omega
theorem Rp.lt (h:Rp p w0 a len cap R b0 W):R<W.heap.size:=ag h.box
def sT (zs:List Int) (f:FuncId) (p:Nat) (v:Value) (p':Nat):Prop:=∀ (w0:World) (a:Option Addr) (len cap:Nat),Cbq9 zs w0 a len cap->∀ (R:Nat) (b0 W:World),Rp p w0 a len cap R b0 W ->
 Calls prog f #[J R 0] W λe W'=>e=.returned v/\Rp p' w0 a len cap R b0 W'
theorem de (zs p):sT zs 28 p (I (gH zs p:Nat)) (gJ zs p):=by
 intro w0 a len cap g R b0 W f;obtain⟨e,j⟩:=g.len9;have b:=f.box;have q:=f.pl;have r:W.cell? ⟨R,0,none⟩=some (.slice a len cap):=by simp [World.cell?,b]
 have s:W.cell? ⟨R,1,none⟩=some (I p):=by simp [World.cell?,b]
 have f1:W.frozen? ⟨R,1,none⟩=false:=by simp [World.frozen?,b]
 have d:=H f;have n:=H b;clear b f;by_cases i:p<len
 ·obtain⟨x,rfl,f⟩:=g.at9 p i;have b:p<zs.length:=Z;have k:=ad d.bel f;rw [CI b];have o:=d_ zs p;generalize gH zs p=c at *;have l:=H (show Rp (p+1) w0 (some x) len cap R b0 (W.setCell ⟨R,1,none⟩ (I (p+1:Nat))) from ⟨by simp [World.setCell,FD,n.out],Z,d.bel.setCell d.new _,d.new,mu d.g (au (al W R) 1 _)⟩);have m:((p+1:Nat):Int)=(p:Int)+1:=Z;rw [m] at l;clear f g m b e;go_enter func28,ntmps28;go_wp2;go_region;go_wp2;go_region;go_wp2;go_ret;exact⟨rfl,l.drew.drew⟩
 have b:¬p<zs.length:=Z;rw [xm b,A5 b];clear g b e;go_enter func28,ntmps28;go_wp2;go_region;go_wp2;go_ret;exact⟨rfl,d.drew⟩
def oK (zs:List Int) (p:Nat):Nat->Int×Nat
 | 0=>(0,p)
 | k+1=>(((IntKind.u64.wrap ((oK zs p k).1*256)).toNat|||gH zs (oK zs p k).2:Nat),gJ zs (oK zs p k).2)
theorem AC (zs p):∀ k,0<=(oK zs p k).1/\(oK zs p k).1<=18446744073709551615
 | 0=>by simp [oK]
 | k+1=>by
  have a:=d_ zs (oK zs p k).2
  have b:(IntKind.u64.wrap ((oK zs p k).1*256)).toNat|||gH zs (oK zs p k).2<2 ^ 64:=Nat.or_lt_two_pow (by rw [IntKind.wrap_u64];omega) Z
  show 0<=(((IntKind.u64.wrap ((oK zs p k).1*256)).toNat|||gH zs (oK zs p k).2:Nat):Int)/\(((IntKind.u64.wrap ((oK zs p k).1*256)).toNat|||gH zs (oK zs p k).2:Nat):Int)<=18446744073709551615
  omega
theorem pq (zs p):∃ (c:Int) (p':Nat),sT zs 57 p (U c) p'/\0<=c/\c<=18446744073709551615:=by
 refine⟨(oK zs p 8).1,(oK zs p 8).2,?_,AC zs p 8⟩;intro w0 a len cap b R b0 W d;have N:=H (λp W h=>de zs p w0 a len cap b R b0 W h);have n:=H d;clear d b;go_enter func57,ntmps57;go_wp2;go_loopw [3,4] (λx i wr=>∃ (k:Nat) (c:Int) (q:Nat),k<=8/\i=I k/\x=U c/\Hid (oK zs p k=(c,q))/\Hid (Rp q w0 a len cap R b0 wr)) (λ_ i _=>8-(intOf i).toNat);case atStart=>exact ⟨0,0,p,Z,rfl,rfl,H rfl,n⟩
 case round =>
  obtain⟨k,c,q,t,rfl,rfl,g,b⟩:=hrel;by_cases o:k<8
  ·have l:0<=IntKind.u64.wrap (c*256)/\IntKind.u64.wrap (c*256)<=18446744073709551615:=(by rw [IntKind.wrap_u64];omega);have j:=H (show oK zs p (k+1)=((((IntKind.u64.wrap (c*256)).toNat|||gH zs q:Nat):Int),gJ zs q) from by
    show ((((IntKind.u64.wrap ((oK zs p k).1*256)).toNat|||gH zs (oK zs p k).2:Nat):Int),gJ zs (oK zs p k).2)=_;rw [g.out])
   have u:=d_ zs q;go_wp2_with fail;refine (N _ _ b).mono ?_;rintro e v ⟨rfl,d⟩;have r:=H d;clear d;generalize IntKind.u64.wrap (c*256)=m at l j ⊢;obtain⟨m,rfl⟩:=Ha l.1;generalize gH zs q=d at *;have s:bits BinOp.or IntKind.u64 (m:Int) (d:Int)=((m|||d:Nat):Int):=bits_or_u64_nat m d Z Z;have f:=H (show oK zs p (k+1)=(((m|||d:Nat):Int),gJ zs q) from j);generalize m|||d=y at s f
   clear j;go_wp2;go_roundw;(case rel=>exact ⟨k+1,(y:Int),gJ zs q,Z,aY,rfl,f,r⟩);case measure=>simp [intOf];omega
  obtain rfl:k=8:=Z;go_wp2;go_ret;exact⟨by rw [g.out];rfl,by rw [g.out];exact b⟩
theorem qG {f c} (g:sT zs f p (U c) p') (b0:0<=c) (a:c<=18446744073709551615):∃ (c:Int) (p':Nat),sT zs f p (U c) p'/\0<=c/\c<=18446744073709551615:=⟨c,p',g,b0,a⟩
theorem kI (zs p):∃ (c:Int) (p':Nat),sT zs 58 p (U c) p'/\0<=c/\c<=18446744073709551615:=by
 have e:=de zs p;have t:=d_ zs p;generalize gH zs p=k at t e;generalize gJ zs p=x at e;obtain⟨v,M,d,y,z⟩:=pq zs x;have l:=H e;have A:=H d;have b:=H gD;clear e d;by_cases B:250<=k
 ·have:k=250\/k=251\/k=252\/k=253\/k=254\/k=255:=Z;clear B t;rcases this with rfl|rfl|rfl|rfl|rfl|rfl
  all_goals
   apply qG
   ·intro w0 a len cap d R b0 W f;have g:=H f;have N:=H (l w0 a len cap d R b0);have V:=H (A w0 a len cap d R b0);clear d f;go_enter func58,ntmps58;go_wp2_with fail;refine (N _ g).mono ?_;rintro e m ⟨rfl,i⟩;have j:=H i;clear i g;go_wp2_with fail;refine (V _ j).mono ?_;rintro e F ⟨rfl,o⟩;have n:=H o;clear o;go_wp2;go_ret;exact⟨rfl,n⟩
   all_goals omega
 by_cases O:k<200/\k%3=0
 ·have o:((k:Int)%3==0)=true:=bG;have s:=ui ((k:Int)/3%12);have q:=H (λw=>b.out ((k:Int)/3%12) w);generalize us ((k:Int)/3%12)=u at s q;apply qG;·intro w0 a len cap d R b0 W f;have g:=H f;have N:=H (l w0 a len cap d R b0);clear d f;go_enter func58,ntmps58;go_wp2_with fail;refine (N _ g).mono ?_;rintro e m ⟨rfl,i⟩;have j:=H i;clear i g;go_wp2_with fail;refine (q _).mono ?_;rintro e F ⟨rfl,r⟩;have n:=H (j.below r);clear r;go_wp2;go_ret;exact⟨rfl,n⟩
  all_goals omega
 have o:200<=k\/((k:Int)%3==0)=false:=bG;by_cases P:k<200/\k%3=1
 ·have q:((k:Int)%3==1)=true:=bG;have r:((k:Int)%3==0)=false:=bG;apply qG;·intro w0 a len cap d R b0 W f;have g:=H f;have N:=H (l w0 a len cap d R b0);clear d f;go_enter func58,ntmps58;go_wp2_with fail;refine (N _ g).mono ?_;rintro e m ⟨rfl,i⟩;have j:=H i;clear i g;go_wp2;go_ret;exact⟨rfl,j⟩
  all_goals omega
 have G:225<=k\/(200<=k/\k<225)\/(k<200/\k%3=2):=Z;rcases G with s|s|s
 ·apply qG;·intro w0 a len cap d R b0 W f;have g:=H f;have N:=H (l w0 a len cap d R b0);clear d f;go_enter func58,ntmps58;go_wp2_with fail;refine (N _ g).mono ?_;rintro e m ⟨rfl,i⟩;have j:=H i;clear i g;go_wp2;go_ret;exact⟨rfl,j⟩
  all_goals omega
 ·have K:¬225<=k:=Z;have L:=s.1;apply qG;·intro w0 a len cap d R b0 W f;have g:=H f;have N:=H (l w0 a len cap d R b0);clear d f;go_enter func58,ntmps58;go_wp2_with fail;refine (N _ g).mono ?_;rintro e m ⟨rfl,i⟩;have j:=H i;clear i g;go_wp2;go_ret;exact⟨rfl,j⟩
  all_goals omega
 have q:((k:Int)%3==1)=false:=bG;have r:((k:Int)%3==0)=false:=bG;have K:¬225<=k:=Z;have L:¬200<=k:=Z;apply qG;·intro w0 a len cap d R b0 W f;have g:=H f;have N:=H (l w0 a len cap d R b0);clear d f;go_enter func58,ntmps58;go_wp2_with fail;refine (N _ g).mono ?_;rintro e m ⟨rfl,i⟩;have j:=H i;clear i g;go_wp2;go_ret;exact⟨rfl,j⟩
 all_goals omega
end
section
open Go.RowKit Go.Shelf Go.Maps
structure Cy9 (p:Nat) (w0:World) (a:Option Addr) (len cap R:Nat) (b0:World) (X Y:Nat) (c:Cd) (W:World):Prop where
 rd:Rp p w0 a len cap R b0 W
 rn:R<b0.heap.size
 x:W.heap[X]?=some (.cells (pQ c).toArray 26)
 xn:b0.heap.size<=X
 y:W.heap[Y]?=some (.cells #[I 0,I 0,I 0,I 0,U 0,C] 26)
 yn:b0.heap.size<=Y
 xy:X≠Y
 od:Ok4 b0.heap.size c W
section
variable {p:Nat} {w0:World} {a:Option Addr} {len cap R:Nat} {b0 W:World} {X Y:Nat} {c:Cd}
theorem Cy9.upd (h:Cy9 p w0 a len cap R b0 X Y c W) (i:Nat) (v:Value) (c') (f:pQ c'=(pQ c).set i v) (d:Ok4 b0.heap.size c' W):Cy9 p w0 a len cap R b0 X Y c' (W.setCell ⟨X,i,none⟩ v):=by
 have g:=h.rn;have b:W.grownBy (W.setCell ⟨X,i,none⟩ v) (some X):=au (al W X) i v;have j:=h.xn;refine⟨h.rd.app b (λr e=>by cases e;omega),g,?_,h.xn,?_,h.yn,h.xy,d.kept b (eD d.d h.x ar)⟩;·rw [f];simp [World.setCell,FD,h.x]
 rw [b.block Y (ag h.y) (λe=>by cases e;exact h.xy rfl)];exact h.y
theorem Cy9.next (h:Cy9 p w0 a len cap R b0 X Y c W) (b:Rp p' w0 a len cap R W W'):Cy9 p' w0 a len cap R b0 X Y c W':=by
 have d:=h.rn;have f:=h.xn;have g:=h.yn;refine⟨h.rd.of b,d,?_,h.xn,?_,h.yn,h.xy,h.od.kept b.g (λe=>by have:=(h.od.d.lt R e).1;omega)⟩;·rw [b.g.block X (ag h.x) (λe=>by cases e;omega)];exact h.x
 rw [b.g.block Y (ag h.y) (λe=>by cases e;omega)];exact h.y
theorem Cy9.below (h:Cy9 p w0 a len cap R b0 X Y c W) {W'} (b:D W W'):Cy9 p w0 a len cap R b0 X Y c W':=h.next (h.rd.at.below b)
theorem Cy9.drew (h:Cy9 p w0 a len cap R b0 X Y c W):Cy9 p w0 a len cap R b0 X Y c W.drew:=h.below (Fu _ _).drew
theorem Cy9.cells (h:Cy9 p w0 a len cap R b0 X Y c W):W.cell? ⟨X,0,none⟩=some (I c.mi)/\W.cell? ⟨X,1,none⟩=some (I c.fi)/\W.cell? ⟨X,2,none⟩=some (I c.la)/\W.cell? ⟨X,3,none⟩=some (I c.bu)/\W.cell? ⟨X,4,none⟩=some (U c.ky)/\W.cell? ⟨X,5,none⟩=some (.slice c.da c.ds.length c.dc):=by
 have:=h.x;simp [World.cell?,this,pQ]
theorem Cy9.fr (h:Cy9 p w0 a len cap R b0 X Y c W) (i:Nat):W.frozen? ⟨X,i,none⟩=false:=by simp [World.frozen?,h.x]
theorem Cy9.setMi (h:Cy9 p w0 a len cap R b0 X Y c W) (x:Int):Cy9 p w0 a len cap R b0 X Y { c with mi:=x } (W.setCell ⟨X,0,none⟩ (I x)):=h.upd 0 _ _ rfl ⟨h.od.k0,h.od.k1,h.od.dw,h.od.d⟩
theorem Cy9.setFi (h:Cy9 p w0 a len cap R b0 X Y c W) (x:Int):Cy9 p w0 a len cap R b0 X Y { c with fi:=x } (W.setCell ⟨X,1,none⟩ (I x)):=h.upd 1 _ _ rfl ⟨h.od.k0,h.od.k1,h.od.dw,h.od.d⟩
theorem Cy9.setLa (h:Cy9 p w0 a len cap R b0 X Y c W) (x:Int):Cy9 p w0 a len cap R b0 X Y { c with la:=x } (W.setCell ⟨X,2,none⟩ (I x)):=h.upd 2 _ _ rfl ⟨h.od.k0,h.od.k1,h.od.dw,h.od.d⟩
theorem Cy9.setBu (h:Cy9 p w0 a len cap R b0 X Y c W) (x:Int):Cy9 p w0 a len cap R b0 X Y { c with bu:=x } (W.setCell ⟨X,3,none⟩ (I x)):=h.upd 3 _ _ rfl ⟨h.od.k0,h.od.k1,h.od.dw,h.od.d⟩
theorem Cy9.app (h:Cy9 p w0 a len cap R b0 X Y c W) (Q:c.ds.length<=1000) (d:Int) (A : -40<=d/\d<=215):∃ b f g,
  (Builtin.append_ #[24,24] 24 #[.slice c.da c.ds.length c.dc,Vl W.heap.size 1 1]).run prog (W.alloc (.cells #[I d] 3))=.ok (.slice b (c.ds.length+1) f) g /\
  g.frozen? ⟨X,5,none⟩=false/\g.cell? ⟨X,5,none⟩=some (.slice c.da c.ds.length c.dc)/\Cy9 p w0 a len cap R b0 X Y { c with ds:=c.ds++[d],da:=b,dc:=f } (g.setCell ⟨X,5,none⟩ (.slice b (c.ds.length+1) f)):=by
 obtain⟨B,l,m,n,o⟩:=G0 Cj;have F:=(Fu W.heap.size W).alloc (Fv _) (.cells #[I d] 3);have j:=h.below F;have G:=j.rd.g.size;obtain⟨S,g,K,q,s,_⟩:=run_append_own_at (P:=prog) (w:=W.alloc (.cells #[I d] 3)) b0.heap.size 24 24 3 B _ 1 8 underlying24 l m n o rfl Z _ _ _ j.od.d ⟨W.heap.size,0,none⟩ 1 1 [I d] rfl (ek _ _ _ _ rfl) (by intro u e;simp at e;subst e;rfl) (by unfold maxLen;omega) Z G;obtain⟨b,T,f,rfl⟩:=fW q;obtain rfl:=xh q;have L:=h.rn;have V:=h.xn;have M:∀ r,(Value.slice c.da c.ds.length c.dc).ownBlock=some r->b0.heap.size<=r/\R<r:=λr e=>by have:=(h.od.d.lt r e).1;omega
 have N:(Value.slice c.da c.ds.length c.dc).ownBlock≠some X:=eD h.od.d h.x ar;have O:(Value.slice c.da c.ds.length c.dc).ownBlock≠some Y:=eD h.od.d h.y ar;have k:g.heap[X]?=some (.cells (pQ c).toArray 26):=by rw [s.block X (ag j.x) (λe=>N e.symm)];exact j.x
 have y:g.heap[Y]?=some (.cells #[I 0,I 0,I 0,I 0,U 0,C] 26):=by rw [s.block Y (ag j.y) (λe=>O e.symm)];exact j.y
 have t:=j.rd.app s M;have v:g.grownBy (g.setCell ⟨X,5,none⟩ (.slice b (c.ds.length+1) f)) (some X):=au (al g X) 5 _;have z:g.ownsRow b0.heap.size 3 1 (.slice b (c.ds.length+1) f) (c.ds++[d]).length (Ns .i64 (c.ds++[d])):=by simpa [Ns] using q
 refine⟨b,f,g,K,by simp [World.frozen?,k],by simp [World.cell?,k,pQ],⟨t.app v (λr e=>by cases e;omega),L,?_,h.xn,?_,h.yn,h.xy,⟨h.od.k0,h.od.k1,?_,?_⟩⟩⟩;·simp [World.setCell,FD,k,pQ]
 ·rw [v.block Y (ag y) (λe=>by cases e;exact h.xy rfl)];exact y
 ·intro x i;rcases F8.1 i with i|i;·exact h.od.dw x i
  obtain rfl:=List.mem_singleton.1 i;exact A
 have:(Value.slice b (c.ds++[d]).length f)=.slice b (c.ds.length+1) f:=bH;show World.ownsRow _ _ _ _ (Value.slice b (c.ds++[d]).length f) _ _;rw [this];exact z.kept v (.inr (eD z k ar))
end
def r8 (zs:List Int) (p:Nat):Nat->List Int×Nat
 | 0=>([],p)
 | k+1=>((r8 zs p k).1++[(gH zs (r8 zs p k).2:Int)-40],gJ zs (r8 zs p k).2)
theorem pV (zs p):∀ k,(r8 zs p k).1.length=k
 | 0=>rfl
 | k+1=>by
  show ((r8 zs p k).1++[(gH zs (r8 zs p k).2:Int)-40]).length=k+1
  rw [FC,pV zs p k];rfl
theorem yT (zs p):∃ (c:Cd) (p':Nat),c.ds.length<=60/\∀ (w0:World) (a:Option Addr) (len cap:Nat),Cbq9 zs w0 a len cap->∀ (R:Nat) (W:World),Rp p w0 a len cap R W W ->
  Calls prog 27 #[J R 0] W λe W'=>∃ V dc,e=.returned (.agg (pQ { c with da:=V,dc:=dc }).toArray)/\Ok4 W.heap.size { c with da:=V,dc:=dc } W'/\Rp p' w0 a len cap R W W':=by
 have N1:=H (de zs p);have hk:=d_ zs p;generalize gH zs p=k at hk N1;generalize gJ zs p=p1 at N1;have N2:=H (de zs p1);have a1:=d_ zs p1;generalize gH zs p1=Q at a1 N2;generalize gJ zs p1=p2 at N2;obtain⟨u,p3,b,a2,a3⟩:=pq zs p2;have WD:=H b;clear b;have N3:=H (de zs p3);have a4:=d_ zs p3;generalize gH zs p3=c9 at a4 N3;generalize gJ zs p3=p4 at N3;obtain⟨o,s,b,HA⟩:∃ (o:Cd) (s:Nat),(o.ds=[]/\o.da=none/\o.dc=0)/\Hid ((((k:Int)==255)=true/\o=⟨16+(c9:Int)%2,(k:Int)/4%5+1,(k:Int)/20%3+1,(Q:Nat),u,[],none,0⟩/\s=p4)\/(((k:Int)==255)=false/\((k:Int)==254)=true/\o=⟨(k:Int)%4,32+(c9:Int)%2,(k:Int)/20%3+1,(Q:Nat),u,[],none,0⟩/\s=p4)\/(((k:Int)==255)=false/\((k:Int)==254)=false/\((k:Int)==253)=true/\o=⟨(k:Int)%4,(k:Int)/4%5+1,(c9:Int)%2*17,(Q:Nat),u,[],none,0⟩/\s=p4)\/(((k:Int)==255)=false/\((k:Int)==254)=false/\((k:Int)==253)=false/\((k:Int)==252)=true/\o=⟨(k:Int)%4,(k:Int)/4%5+1,(k:Int)/20%3+1,283+(c9:Int)%2,u,[],none,0⟩/\s=p4)\/(((k:Int)==255)=false/\((k:Int)==254)=false/\((k:Int)==253)=false/\((k:Int)==252)=false/\o=⟨(k:Int)%4,(k:Int)/4%5+1,(k:Int)/20%3+1,(Q:Nat),u,[],none,0⟩/\s=p3)):=by
  cases g0:((k:Int)==255);case true=>exact ⟨_,_,⟨rfl,rfl,rfl⟩,H (.inl ⟨rfl,rfl,rfl⟩)⟩
  cases g1:((k:Int)==254);case true=>exact ⟨_,_,⟨rfl,rfl,rfl⟩,H (.inr (.inl ⟨rfl,rfl,rfl,rfl⟩))⟩
  cases g2:((k:Int)==253);case true=>exact ⟨_,_,⟨rfl,rfl,rfl⟩,H (.inr (.inr (.inl ⟨rfl,rfl,rfl,rfl,rfl⟩)))⟩
  cases g3:((k:Int)==252);case true=>exact ⟨_,_,⟨rfl,rfl,rfl⟩,H (.inr (.inr (.inr (.inl ⟨rfl,rfl,rfl,rfl,rfl,rfl⟩))))⟩
  exact⟨_,_,⟨rfl,rfl,rfl⟩,H (.inr (.inr (.inr (.inr ⟨rfl,rfl,rfl,rfl,rfl,rfl⟩))))⟩
 obtain⟨t,f,HB⟩:∃ t:Cd,(t.ds=[]/\t.da=none/\t.dc=0)/\Hid ((((k:Int)%3==0)=true/\t={ o with bu:=wrap64 (3+Int.tmod o.bu 12) })\/(((k:Int)%3==0)=false/\t=o)):=by
  cases g9:((k:Int)%3==0);·exact⟨o,b,H (.inr ⟨rfl,rfl⟩)⟩
  exact⟨{ o with bu:=wrap64 (3+Int.tmod o.bu 12) },b,H (.inl ⟨rfl,rfl⟩)⟩
 have N4:=H (de zs s);have a5:=d_ zs s;generalize gH zs s=c6 at a5 N4;generalize gJ zs s=w at N4;obtain⟨n,hn,g⟩:∃ n:Nat,n<60/\(c6:Int)%60=(n:Int):=⟨c6%60,Z,Z⟩;have a6:=H g;have a7:=H f;clear g b f;refine⟨{ t with ds:=(r8 zs w n).1 },(r8 zs w n).2,by rw [pV];omega,?_⟩;intro w0 a len cap b R W j;have S:=H b;have NN:=H (λp=>de zs p w0 a len cap b R);have AP:=H gn;have RN:=H j.lt;have f:=H (j.below ((Fu _ _).alloc (Fv _) (.cells #[I 0,I 0,I 0,I 0,U 0,C] 26)));have g:=H (ao W (.cells #[I 0,I 0,I 0,I 0,U 0,C] 26));clear b j;go_enter func27,ntmps27;go_wp2_with fail;generalize W.alloc (.cells #[I 0,I 0,I 0,I 0,U 0,C] 26)=V1 at f g ⊢;refine (N1 w0 a len cap S R _ _ f.at).mono ?_;rintro e V2 ⟨rfl,b⟩;have j:=H (f.of b);have l:=H ((b.g.block _ (ag g) (λe=>by cases e;have:=RN.out;omega)).trans g);clear b f g;go_wp2_with fail;refine (N2 w0 a len cap S R _ _ j.at).mono ?_;rintro e V3 ⟨rfl,b⟩;have f:=H (j.of b);have g:=H ((b.g.block _ (ag l) (λe=>by cases e;have:=RN.out;omega)).trans l);clear b j l;go_wp2_with fail;refine (WD w0 a len cap S R _ _ f.at).mono ?_;rintro e V4 ⟨rfl,b⟩;have j:=H (f.of b);have l:=H ((b.g.block _ (ag g) (λe=>by cases e;have:=RN.out;omega)).trans g);clear b f g;have m:=H (show Cy9 p3 w0 a len cap R W V4.heap.size W.heap.size ⟨(k:Int)%4,(k:Int)/4%5+1,(k:Int)/20%3+1,(Q:Nat),u,[],none,0⟩ (V4.alloc (.cells #[I ((k:Int)%4),I ((k:Int)/4%5+1),I ((k:Int)/20%3+1),I Q,U u,C] 26)) from by
  have b:=(Fu V4.heap.size V4).alloc (Fv _) (.cells #[I ((k:Int)%4),I ((k:Int)/4%5+1),I ((k:Int)/20%3+1),I Q,U u,C] 26);have f:=ag l.out;exact⟨j.below b,RN,ao V4 _,j.g.size,by rw [b.block _ f];exact l,Fv _,Z,⟨a2,a3,λx f=>(by cases f),⟨rfl,.inl ⟨rfl,rfl⟩⟩⟩⟩)
 clear j l;go_upto_block 0 with fail
 generalize V4.alloc (.cells #[I ((k:Int)%4),I ((k:Int)/4%5+1),I ((k:Int)/20%3+1),I Q,U u,C] 26)=V5 at m ⊢;generalize V4.heap.size=X at m ⊢;generalize a9:W.heap.size=Y at m ⊢;go_cut [25] (λ_ w'=>Hid (Cy9 s w0 a len cap R W X Y o w'));case first =>
  rcases HA.out with ⟨g0,rfl,rfl⟩|⟨g0,g1,rfl,rfl⟩|⟨g0,g1,g2,rfl,rfl⟩|⟨g0,g1,g2,g3,rfl,rfl⟩|⟨g0,g1,g2,g3,rfl,rfl⟩
  ·go_wp2_with fail;refine (N3 w0 a len cap S R _ _ m.rd.at).mono ?_;rintro e g ⟨rfl,r⟩;have f:=H (m.next r);clear r m;obtain⟨x,y,z,A,B,F⟩:=f.cells;have zf:=f.fr 0;go_wp2;go_meet;case rel=>exact H (f.setMi _)
  ·go_wp2_with fail;refine (N3 w0 a len cap S R _ _ m.rd.at).mono ?_;rintro e g ⟨rfl,r⟩;have f:=H (m.next r);clear r m;obtain⟨x,y,z,A,B,F⟩:=f.cells;have zf:=f.fr 1;go_wp2;go_meet;case rel=>exact H (f.setFi _)
  ·go_wp2_with fail;refine (N3 w0 a len cap S R _ _ m.rd.at).mono ?_;rintro e g ⟨rfl,r⟩;have f:=H (m.next r);clear r m;obtain⟨x,y,z,A,B,F⟩:=f.cells;have zf:=f.fr 2;go_wp2;go_meet;case rel=>exact H (f.setLa _)
  ·go_wp2_with fail;refine (AP _).mono ?_;rintro e l ⟨rfl,b⟩;have j:=H (m.below b);clear b m;have m:=j;clear j;go_wp2_with fail;refine (N3 w0 a len cap S R _ _ m.rd.at).mono ?_;rintro e g ⟨rfl,r⟩;have f:=H (m.next r);clear r m;obtain⟨x,y,z,A,B,F⟩:=f.cells;have zf:=f.fr 3;go_wp2;go_meet;case rel=>exact H (f.setBu _)
  go_wp2;go_meet;case rel=>exact m
 case rest =>
  have O1:=hcut;clear m;go_upto_if 56 with fail
  go_cut [56] (λ_ w'=>Hid (Cy9 s w0 a len cap R W X Y t w'));case first =>
   rcases HB.out with ⟨g9,rfl⟩|⟨g9,rfl⟩
   ·obtain⟨x,y,z,A,B,F⟩:=O1.cells;have zf:=O1.fr 3;go_wp2;go_meet;case rel=>exact H (O1.setBu _)
   go_wp2;go_meet;case rel=>exact O1
  case rest =>
   have f:=hcut;clear O1;go_wp2_with fail;refine (N4 w0 a len cap S R _ _ f.rd.at).mono ?_;rintro e V6 ⟨rfl,r⟩;have O6:=H (f.next r);clear r f;go_wp2;rw [a6.out];go_loopw [6] (λi wr=>∃ (j:Nat) (G:List Int) (q:Nat) (V:Option Addr) (dc:Nat),j<=n/\i=I j/\Hid (r8 zs w j=(G,q))/\Hid (Cy9 q w0 a len cap R W X Y { t with ds:=G,da:=V,dc:=dc } wr)) (λi _=>n-(intOf i).toNat);(case atStart=>exact ⟨0,[],w,none,0,FH _,rfl,H rfl,H (by have h:=a7.out;have f:=O6.out;obtain ⟨g,l,K,L,x5,M,N,O⟩:=t;dsimp only at h;obtain ⟨rfl,rfl,rfl⟩:=h;exact f)⟩);case round =>
    obtain⟨j,G,q,V,dc,hj,rfl,a0,l⟩:=hrel;clear O6;have HL:=H (show G.length=j from by have h:=pV zs w j;rw [a0.out] at h;exact h);have NQ:=H (NN q);have a8:=d_ zs q;have L:=H (show r8 zs w (j+1)=(G++[(gH zs q:Int)-40],gJ zs q) from by
     show ((r8 zs w j).1++[(gH zs (r8 zs w j).2:Int)-40],gJ zs (r8 zs w j).2)=_;rw [a0.out])
    generalize gH zs q=T at NQ a8 L;by_cases b1:j<n
    ·go_wp2;obtain⟨x,y,z,A,B,F⟩:=l.drew.cells;dsimp only at x y z A B F;have M:=H l.drew;refine kO E ?_;generalize wr.drew=V0 at M x y z A B F ⊢;simp only [FX,FN,F1,Nat.reduceAdd,FP,FO,FY,FV,F5];refine cd (i:=0) (d:=70) (v:=J X 5) rfl E E E E (λ_ _ _ h=>h) (Or.inl ⟨E,λ_=>E⟩) ?_;simp only [lz,l0,ls];refine cd (i:=2) (d:=72) (v:=J R 0) rfl E E E E (λ_ _ _ h=>h) (Or.inl ⟨E,λ_=>E⟩) ?_;simp only [lz,l0,ls];refine wpAny_ready (rs:=[1,3]) E bH ?_;refine AllReady.cons rfl (λK f=>?_) (AllReady.cons rfl (λK f=>?_) AllReady.nil)
     ·go_simp;refine f _ _ ?_;clear f K;simp only [lz,l0,ls];refine bF (r:=3) E ?_;refine cw λK f=>?_;go_simp;refine (NQ _ _ M.rd.at).mono ?_;rintro e V6 ⟨rfl,r⟩;have Oq:=H (M.next r);obtain⟨y0,y1,y2,y3,y4,y5⟩:=Oq.cells;dsimp only at y0 y1 y2 y3 y4 y5;obtain⟨N,O,w',g,f5,x5,ch⟩:=Oq.app (by have:=HL.out;dsimp only;omega) ((T:Int)-40) Z;dsimp only at g f5 x5 ch;have P:=H ch;clear r ch M x y z A B F;refine f _ _ ?_;clear f K;simp only [lz,l0,ls];refine cd (i:=4) (d:=74) (v:=I ((T:Int)-40)) rfl E E E E (λ_ _ _ h=>h) (Or.inl ⟨E,λ_=>by first|(go_simp;done)|(go_simp;exact t9 _ Z Z)⟩) ?_;simp only [lz,l0,ls];refine bF (r:=5) E ?_;refine cw λK f=>?_;go_simp;refine f _ _ ?_;clear f K;simp only [lz,l0,ls];refine bF (r:=6) E ?_;refine cw λK f=>?_;refine mK 24 (.tmp 71) (.tmp 75) E E E E g ?_;refine f _ _ ?_;clear f K;simp only [lz,l0,ls];refine cd (i:=7) (d:=77) (v:=J X 5) rfl E E E E (λ_ _ _ h=>h) (Or.inl ⟨E,λ_=>E⟩) ?_;simp only [lz,l0,ls];refine bF (r:=8) E ?_;refine cw λK f=>?_;go_simp;refine f _ _ ?_;clear f K;simp only [lz,l0,ls];refine wpAny_done E ?_ _;go_wp2;go_roundw
      (case rel=>exact ⟨j+1,G++[(T:Int)-40],gJ zs q,N,O,Z,aY,L,P⟩);case measure=>simp [intOf];omega
     skip
     go_simp;refine (NQ _ _ M.rd.at).mono ?_;rintro e V6 ⟨rfl,r⟩;have Oq:=H (M.next r);obtain⟨y0,y1,y2,y3,y4,y5⟩:=Oq.cells;dsimp only at y0 y1 y2 y3 y4 y5;obtain⟨N,O,w',g,f5,x5,ch⟩:=Oq.app (by have:=HL.out;dsimp only;omega) ((T:Int)-40) Z;dsimp only at g f5 x5 ch;have P:=H ch;clear r ch M x y z A B F;refine f _ _ ?_;clear f K;simp only [lz,l0,ls];refine cd (i:=4) (d:=74) (v:=I ((T:Int)-40)) rfl E E E E (λ_ _ _ h=>h) (Or.inl ⟨E,λ_=>by first|(go_simp;done)|(go_simp;exact t9 _ Z Z)⟩) ?_;simp only [lz,l0,ls];refine wpAny_ready (rs:=[1,5]) E bH ?_;refine AllReady.cons rfl (λK f=>?_) (AllReady.cons rfl (λK f=>?_) AllReady.nil)
     ·go_simp;refine f _ _ ?_;clear f K;simp only [lz,l0,ls];refine bF (r:=5) E ?_;refine cw λK f=>?_;go_simp;refine f _ _ ?_;clear f K;simp only [lz,l0,ls];refine bF (r:=6) E ?_;refine cw λK f=>?_;refine mK 24 (.tmp 71) (.tmp 75) E E E E g ?_;refine f _ _ ?_;clear f K;simp only [lz,l0,ls];refine cd (i:=7) (d:=77) (v:=J X 5) rfl E E E E (λ_ _ _ h=>h) (Or.inl ⟨E,λ_=>E⟩) ?_;simp only [lz,l0,ls];refine bF (r:=8) E ?_;refine cw λK f=>?_;go_simp;refine f _ _ ?_;clear f K;simp only [lz,l0,ls];refine wpAny_done E ?_ _;go_wp2;go_roundw
      (case rel=>exact ⟨j+1,G++[(T:Int)-40],gJ zs q,N,O,Z,aY,L,P⟩);case measure=>simp [intOf];omega
     go_simp;have M:=ad ((Fu V6.heap.size V6).alloc (Fv _) (.cells #[I ((T:Int)-40)] 3)) y5;refine f _ _ ?_;clear f K;simp only [lz,l0,ls];refine bF (r:=1) E ?_;refine cw λK f=>?_;go_simp;refine f _ _ ?_;clear f K;simp only [lz,l0,ls];refine bF (r:=6) E ?_;refine cw λK f=>?_;refine mK 24 (.tmp 71) (.tmp 75) E E E E g ?_;refine f _ _ ?_;clear f K;simp only [lz,l0,ls];refine cd (i:=7) (d:=77) (v:=J X 5) rfl E E E E (λ_ _ _ h=>h) (Or.inl ⟨E,λ_=>E⟩) ?_;simp only [lz,l0,ls];refine bF (r:=8) E ?_;refine cw λK f=>?_;go_simp;refine f _ _ ?_;clear f K;simp only [lz,l0,ls];refine wpAny_done E ?_ _;go_wp2;go_roundw
     (case rel=>exact ⟨j+1,G++[(T:Int)-40],gJ zs q,N,O,Z,aY,L,P⟩);case measure=>simp [intOf];omega
    have:j=n:=Z;subst this;go_wp2_with (first|(refine Gt rfl 26 _ rfl _ rfl _ _ _ _ l.x underlying26 rfl E ?_)|(refine Gf rfl 26 _ _ rfl _ _ rfl rfl 26 _ l.y E rfl (by simp [pQ,Value.oneCell']) ?_));refine fM (aw l.y _) underlying26 ?_;have g:=aj wr Y (pQ { t with ds:=G,da:=V,dc:=dc }).toArray;have K:=l.yn;have M:=l.rn;have f:=l.od.kept g (eD l.od.d l.y ar);rw [a0.out];exact⟨V,dc,rfl,f,l.rd.app g (λr e=>by cases e;omega)⟩
end
end Go.Proofs.YtdngbppdomoenaaGreatDoor
