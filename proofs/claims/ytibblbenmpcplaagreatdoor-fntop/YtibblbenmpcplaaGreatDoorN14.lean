import Derived.Test.YtibblbenmpcplaaGreatDoorN13
set_option linter.unusedVariables false
set_option linter.unusedSimpArgs false
set_option maxRecDepth 20000
set_option maxHeartbeats 8000000
namespace Go.Proofs.YtibblbenmpcplaaGreatDoor
open Go.Proofs.Tryz
section
open Go.RowKit
theorem vk (cf h c s j):sound cf h c s j=true↔∀ i,i<8->bO h.m (bh c s j+eV c+i)=((can cf (bh c s j))[i]?).getD 0:=by
 unfold sound;rw [beq_iff_eq];have d:(can cf (bh c s j)).length=8:=dK _;constructor;·intro e i a;rw [<-e];simp [aH,a]
 intro b;apply Ho;intro i;by_cases a:i<8;·have:=b i a;simp [aH,a];rw [this,Fy Z];rfl
 rw [FJ (by simp [aH];omega),FJ Z]
theorem yW {W:World} {B:Nat} {v:Value} {c:List Value} (h:W.ownsRow B 5 1 v 8 c):∃ g a,v=Vl g 8 a/\RowV W g 5 c:=by
 rcases h.2 with ⟨_,l⟩|⟨g,a,b,rfl,d,e,f,i,j,k⟩;·omega
 exact⟨g,a,rfl,RowV.ofOwns (n:=8) (cap:=a) (base:=B) ⟨h.1,.inr ⟨g,a,b,rfl,d,e,f,i,j,k⟩⟩⟩
theorem q_ (B x cf h) (K c s j:Nat) (W) (k:Sh B x cf h W) (hK:K<1062) (r:sA K=(c,s,j)) (S:0<=cf.key) (T:cf.key<18446744073709551616) (b:∀ i,i<8->isOpen (h.m ((bh c s j+eV c+i)/1024))=true) :
  Calls prog 102 #[J x.P 0,I K] W λe W'=>e=.returned (.bool (sound cf h c s j))/\Below W.heap.size W W':=by
 have t:=mj hK;rw [r] at t;dsimp only at t;obtain⟨hc,a0,hj⟩:=t;have d:=ca hc a0 hj;have f:=aX hc;have v:W.cell? ⟨x.P,7,none⟩=some (Vl x.G 1062 x.gc):=k.cell 7 _ rfl;obtain⟨m,n,o,l,A,F⟩:=k.slot hK;have p:gt K=bh c s j:=by unfold gt;rw [r]
 rw [p] at l;rw [r] at m n o;have HS:=H k;have G:=H (vk cf h c s j);have CS:=H (λV=>rO cf.key ((bh c s j:Nat):Int) V S T Z Z);have w:=H (show can cf (bh c s j)=gI (cx cf.key ((bh c s j:Nat):Int)) from rfl);have y:=H (λV a g q r=>nP c (bh c s j) a g q r V hc Z);generalize dC h K=z at *;generalize fJ h K=L at *;obtain⟨a,ha⟩:∃ a,bh c s j=a:=⟨_,rfl⟩;obtain⟨u,q⟩:∃ u,eV c=u:=⟨_,rfl⟩;rw [ha] at l G CS w y d b;rw [q] at G y f b;have a1:=H b;have a4:a+u+8<=191488:=Z;have g:Below W.heap.size W (W.alloc (.cells #[I c,I s,I j,U a,I z,I L] 126)):=(Fu _ _).alloc (Fv _) _;have X:=ao W (.cells #[I c,I s,I j,U a,I z,I L] 126);clear k f d p ha q b;go_enter func102,ntmps102;go_wp2;generalize W.alloc _=V at g X ⊢;generalize f:W.heap.size=Y at g X ⊢;have SV:=H (HS.below (f▸g));have x3:V.cell? ⟨Y,3,none⟩=some (U a):=by simp only [World.cell?,X];rfl
 have p4:V.cell? ⟨x.P,4,none⟩=some (U cf.key):=SV.cell 4 _ rfl;have XH:=H X;have BA:=H g;clear X g m n o l A F v;go_cut [22,23,24] (λb d g M=>d=I 8/\g=I 0/\∃ g N,b=Vl g 8 N/\Hid (RowV M g 5 (Ns .u8 (can cf a)))/\Hid (Below V.heap.size V M));case first =>
  go_region_with (first|(go_at_call 144;refine (CS _).mono ?_;rintro e m ⟨v,rfl,n,d⟩;obtain ⟨g,N,rfl,O⟩:=yW n;have l:Below V.heap.size V m:=⟨d.os,d.tape,d.output,d.size,d.block⟩;have b:=ad l x3;have k:=ad l p4))
  all_goals (
   have o:=H l
   clear l d n b k
   go_wp2
   go_meet
   case rel=>exact ⟨rfl,rfl,g,N,rfl,H (by rw [w.out];exact O),o⟩)
 case rest =>
  obtain⟨rfl,rfl,g,N,rfl,O,X⟩:=hcut;have HL:=H (show (can cf a).length=8 from by rw [w.out];exact dK _);have BW:=H (show Below Y W wc from BA.trans (X.mono (f▸BA.size)));clear x3 p4;go_wp2_with fail;go_loopw [24] (λi wr=>∃ k:Nat,k<=8/\i=I k/\Hid (∀ j,j<k->bO h.m (a+u+j)=((can cf a)[j]?).getD 0)/\Hid (Below wc.heap.size wc wr)) (λi _=>8-(intOf i).toNat);case atStart=>exact ⟨0,FH _,rfl,H (λj hj=>Z),H (Fu _ _)⟩
  case round =>
   obtain⟨k,hk,rfl,P,A⟩:=hrel;have Q:=H (show Below Y W wr from BW.trans (A.mono (f▸BW.size)));by_cases n:k<8
   ·have RB:=H (O.below A O.lt);obtain⟨e,o⟩:∃ e,(can cf a)[k]?=some e:=⟨_,Fy (by rw [HL.out];exact n)⟩;have r1:wr.cell? ⟨g,k,none⟩=some (.int .u8 e):=by
     rw [RB.cell k (by simp [Ns,HL.out,n])];simp [Ns,o]
    have SR:=H (HS.below (f▸Q.out));have b:wr.heap[Y]?=some (.cells #[I c,I s,I j,U a,I z,I L] 126):=by
     have p:Y<V.heap.size:=(Array.getElem?_eq_some_iff.mp XH).1;rw [A.block Y (FG p X.size),X.block Y p];exact XH.out
    have q0:wr.cell? ⟨Y,0,none⟩=some (I c):=(by simp only [World.cell?,b];rfl);have q1:wr.cell? ⟨Y,1,none⟩=some (I s):=(by simp only [World.cell?,b];rfl);have q2:wr.cell? ⟨Y,2,none⟩=some (I j):=(by simp only [World.cell?,b];rfl);have q3:wr.cell? ⟨Y,3,none⟩=some (U a):=(by simp only [World.cell?,b];rfl);have q4:wr.cell? ⟨Y,4,none⟩=some (I z):=(by simp only [World.cell?,b];rfl);have q5:wr.cell? ⟨Y,5,none⟩=some (I L):=(by simp only [World.cell?,b];rfl);have R:wr.cell? ⟨x.P,6,none⟩=some (J x.T 0):=SR.cell 6 _ rfl;have HE:=H o;clear b o;have F:=H (show ∀ m,Below wr.heap.size wr m->Calls prog 150 #[J x.T 0,U (IntKind.u64.wrap (((a+u:Nat):Int)+IntKind.u64.wrap (k:Int)))] m λe M=>e=.returned (.int .u8 (bO h.m (a+u+k)))/\M=m from λm b=>by
     rw [dX (k:Int) Z Z,dX _ Z Z];exact kT x.T x.Q 283 (cf.bud:Nat) h.m (a+u+k) m (SR.below b).sp Z Z (a1 k n))
    have o:=H (show (bO h.m (a+u+k)=e)↔bO h.m (a+u+k)=((can cf a)[k]?).getD 0 by rw [HE.out];exact Iff.rfl);obtain⟨b,q⟩:∃ b,bO h.m (a+u+k)=b:=⟨_,rfl⟩;have p:=H q;rw [q] at F;clear q;by_cases q:b=e
    ·subst q;have F2:=H (show ∀ j,j<k+1->bO h.m (a+u+j)=((can cf a)[j]?).getD 0 from λj hj=>by
      by_cases v:j=k;·subst v;exact o.mp p.out
      exact P j Z)
     clear o p HE P RB;go_wp2_with fail
     go_region_with (first|(go_at_call 143;refine (y _ _ _ _ _).mono ?_;rintro e1 m ⟨rfl,d⟩;have l:Below wr.heap.size wr m:=⟨d.os,d.tape,d.output,d.size,d.block⟩;have v:=ad l R)|(go_at_call 150;refine (F _ l).mono ?_;rintro e2 V2 ⟨rfl,rfl⟩))
     all_goals (
      have B2:=H (show Below wc.heap.size wc V2 from A.trans (l.mono A.size))
      clear l d v R q0 q1 q2 q3 q4 q5 r1 F y
      go_wp2
      go_roundw
      case rel=>exact ⟨k+1,Z,aY,F2,B2⟩
      case measure=>simp [intOf];omega)
    have a3:(b==e)=false:=(by simpa using q);have a5:(b != e)=true:=(by simpa using q);have SF:=H (show sound cf h c s j=false by
     rw [Bool.eq_false_iff];intro a2;exact q (by rw [<-p.out];exact o.mpr (G.mp a2 k n)))
    clear o p HE P RB;go_wp2_with fail
    go_region_with (first|(go_at_call 143;refine (y _ _ _ _ _).mono ?_;rintro e1 m ⟨rfl,d⟩;have l:Below wr.heap.size wr m:=⟨d.os,d.tape,d.output,d.size,d.block⟩;have v:=ad l R)|(go_at_call 150;refine (F _ l).mono ?_;rintro e2 V2 ⟨rfl,rfl⟩))
    all_goals (
     have B2:=H (show Below Y W V2 from Q.trans (l.mono (f▸Q.size)))
     clear l d v R q0 q1 q2 q3 q4 q5 r1 F y
     go_wp2
     go_ret
     rw [SF.out]
     exact⟨rfl,f▸B2.out⟩)
   obtain rfl:k=8:=Z;go_wp2_with fail;go_ret;rw [G.mpr P.out];exact⟨rfl,f▸Q.out⟩
end
end Go.Proofs.YtibblbenmpcplaaGreatDoor
