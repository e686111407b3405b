import Derived.Sort.KeysCollected
import Derived.Test.YtgandbaejlfppaaGreatDoorN37
namespace Go.Proofs.YtgandbaejlfppaaGreatDoor
set_option linter.unusedVariables false
set_option linter.unusedSimpArgs false
set_option maxRecDepth 20000
set_option maxHeartbeats 8000000
open Go.ChangeShapes Go.WideShapes Go.ChangeAt Go.RowKit Go.Maps Go.Shelf
theorem sub_all:∀ (L1 L2:List Int),L1.Nodup→(∀ x,x∈L1→x∈L2)→L2.length≤L1.length→∀ y,y∈L2→y∈L1
 | [],L2,_,_,hl,y,hy=>by
  have:L2=[]:=List.length_eq_zero_iff.1 (by simpa using hl)
  rw [this] at hy;cases hy
 | a::t,L2,hn,hs,hl,y,hy=>by
  have ha:=hs a (by simp)
  rw [List.nodup_cons] at hn
  by_cases e:y=a
  ·subst e;simp
  have h1:∀ x,x∈t→x∈L2.erase a:=fun x hx=>(List.mem_erase_of_ne (fun e:x=a=>hn.1 (e▸hx))).2 (hs x (by simp [hx]))
  have h2:(L2.erase a).length≤t.length:=by rw [List.length_erase_of_mem ha];simp at hl;omega
  have h3:=sub_all t (L2.erase a) hn.2 h1 h2 y ((List.mem_erase_of_ne e).2 hy)
  simp [h3]
def litZ:Lit→Int
 | .int _ x=>x
 | _=>0
def heldL (f:Nat→Option Nat) (N:Nat):List Int:=((List.range N).filter fun k=>(f k).isSome).map fun k=>((k:Nat):Int)
theorem heldL_len (f:Nat→Option Nat):∀ N,(heldL f N).length=heldN f 0 N
 | 0=>rfl
 | N+1=>by
  have ih:=heldL_len f N
  unfold heldL at ih ⊢
  rw [List.range_succ,List.filter_append,List.map_append,List.length_append,ih]
  simp only [heldN,Nat.zero_add]
  congr 1
  cases hfN:(f N).isSome <;> simp [List.filter,hfN]
theorem heldL_nodup (f:Nat→Option Nat) (N:Nat):(heldL f N).Nodup:=by
 unfold heldL;refine List.pairwise_map.2 ((List.nodup_range.filter _).imp ?_);intro a b h e;exact h (by omega)
theorem heldL_mem (f:Nat→Option Nat) (N:Nat) (z:Int):z∈heldL f N↔∃ k:Nat,z=k∧k < N∧(f k).isSome=true:=by
 unfold heldL;simp only [List.mem_map,List.mem_filter,List.mem_range];constructor
 ·rintro⟨k,⟨h1,h2⟩,rfl⟩;exact⟨k,rfl,h1,h2⟩
 rintro⟨k,rfl,h1,h2⟩;exact⟨k,⟨h1,h2⟩,rfl⟩
theorem Im.only {S M:Nat} {st n bud:Int} {f:Nat→Option Nat} {W:World} (h:Im S M st n bud f W):∃ D:DataW Unit,W.ownsMap Tryz.prog 3 ptrE M 4096 D∧Maps.size D=heldN f 0 4096∧(∀ k:Nat,k < 4611686018427387904→D.atKey (.int .i64 k) .nil=asD (f k))∧(∀ k:Nat,k < 4611686018427387904→has D (.int .i64 k)=(f k).isSome)∧∀ z:Int,has D (.int .i64 z)=true→∃ k:Nat,z=k∧k < 4096∧(f k).isSome=true:=by
 obtain⟨D,hown,hsz,hat,hhas⟩:=h.map;refine⟨D,hown,hsz,hat,hhas,?_⟩;obtain⟨es,hD,hpw,_⟩:=hown.entries keyed3;have hint:∀ p∈es,∃ x:Int,p.1=.int .i64 x:=by
  obtain⟨es',hD',hko⟩:=hown.keysOf;obtain rfl:es=es':=by rw [hD] at hD';simpa using hD'
  intro p hp;obtain⟨v,hv⟩:=hko p hp;obtain⟨x,_,hx,_⟩:=Maps.keyOf_int_inv Tryz.underlying3 hv;exact⟨x,hx⟩
 subst hD;have hm:∀ z:Int,z∈es.map (fun p=>litZ p.1)↔has (.map es) (.int .i64 z)=true:=by
  intro z;rw [has_eq,List.any_eq_true,List.mem_map];constructor
  ·rintro⟨p,hp,rfl⟩;obtain⟨x,hx⟩:=hint p hp;exact⟨p,hp,by rw [hx];simp [Lit.sameKey,litZ]⟩
  rintro⟨p,hp,hs⟩;obtain⟨x,hx⟩:=hint p hp;refine⟨p,hp,?_⟩;rw [hx] at hs ⊢;simpa [Lit.sameKey,litZ] using hs
 intro z hz;have:=sub_all (heldL f 4096) (es.map fun p=>litZ p.1) (heldL_nodup f 4096) (fun x hx=>by
  obtain⟨k,rfl,h1,h2⟩:=(heldL_mem f 4096 x).1 hx;rw [hm,hhas k (by omega)];exact h2) (by rw [List.length_map,heldL_len,←hsz];exact Nat.le_refl _) z ((hm z).2 hz)
 exact (heldL_mem f 4096 z).1 this
theorem opensM_mem (m:Nat→Option (Bool×List Int)):∀ (n:Nat) (z:Int),z∈opensM m n↔∃ k:Nat,z=k∧k < n∧isOpen (m k)=true
 | 0,z=>by simp [opensM]
 | n+1,z=>by
  have ih:=opensM_mem m n z
  simp only [opensM]
  split
  ·rename_i ho
   rw [List.mem_append,ih]
   simp only [List.mem_singleton]
   constructor
   ·rintro (⟨k,rfl,h1,h2⟩|rfl)
    ·exact⟨k,rfl,by omega,h2⟩
    exact⟨n,rfl,by omega,ho⟩
   rintro⟨k,rfl,h1,h2⟩
   by_cases e:k=n
   ·right;rw [e]
   left;exact⟨k,rfl,by omega,h2⟩
  rename_i ho
  rw [ih]
  constructor
  ·rintro⟨k,rfl,h1,h2⟩;exact⟨k,rfl,by omega,h2⟩
  rintro⟨k,rfl,h1,h2⟩
  refine⟨k,rfl,?_,h2⟩
  by_cases e:k=n
  ·subst e;exact absurd h2 ho
  omega
theorem opensM_sorted (m:Nat→Option (Bool×List Int)):∀ n:Nat,(opensM m n).Pairwise (fun x y=>x < y)
 | 0=>List.Pairwise.nil
 | n+1=>by
  simp only [opensM]
  split
  ·rw [List.pairwise_append]
   refine⟨opensM_sorted m n,by simp,fun x hx y hy=>?_⟩
   obtain⟨k,rfl,h1,_⟩:=(opensM_mem m n x).1 hx
   simp at hy
   omega
  exact opensM_sorted m n
theorem sort_opens (m:Nat→Option (Bool×List Int)) (n:Nat) (os:List Int) (hn:os.Nodup) (h:∀ z,z∈os↔∃ k:Nat,z=k∧k < n∧isOpen (m k)=true):(os.mergeSort fun x y=>decide (x≤y))=opensM m n:=by
 have hp:os.Perm (opensM m n):=(List.perm_ext_iff_of_nodup hn ((opensM_sorted m n).imp fun h=>by omega)).2 fun z=>by rw [h z,opensM_mem]
 have tr:∀ a b c:Int,decide (a≤b)=true→decide (b≤c)=true→decide (a≤c)=true:=fun a b c h1 h2=>by simp at *;omega
 have tq:∀ a b:Int,(decide (a≤b) || decide (b≤a))=true:=fun a b=>by simp;omega
 refine List.Perm.eq_of_pairwise (le:=fun a b=>decide (a≤b)=true) (fun a b _ _ h1 h2=>by simp at h1 h2;omega) (List.pairwise_mergeSort tr tq os) ((opensM_sorted m n).imp fun h=>by simp;omega) ((List.mergeSort_perm os _).trans hp)
end Go.Proofs.YtgandbaejlfppaaGreatDoor
namespace Go.Proofs.YtgandbaejlfppaaGreatDoor
set_option linter.unusedVariables false
set_option linter.unusedSimpArgs false
set_option maxRecDepth 20000
set_option maxHeartbeats 8000000
open Go.RowKit Go.Maps Go.ChangeShapes Go.WideShapes Go.ChangeAt
def tC (r:Rg9):List Value:=[Vu (r.base:Nat),Vi (r.first:Nat),Vi (r.ext:Nat),Vi r.st,Vi r.rq]
def flatT (l:List Rg9):List Value:=l.flatMap tC
theorem flatT_snoc (l:List Rg9) (r:Rg9):flatT (l++[r])=flatT l++tC r:=by simp [flatT]
theorem info109:(Tryz.prog.info? 160).map (fun i=>(i.zero,i.size,i.bytes))=some (some (.agg #[Vu 0,Vi 0,Vi 0,Vi 0,Vi 0]),5,40):=by kernel_rfl
theorem app_rt (W:World) (B:Nat) (v:Value) (l:List Rg9) (r:Rg9) (g c:Nat) (hown:W.ownsRow B 160 5 v l.length (flatT l)) (hg:W.heap[g]?=some (.cells (tC r).toArray 160 (0,0))) (hl:l.length≤100000) (hB:B≤W.heap.size) :
  ∃ v' w',(Builtin.append_ #[34,34] 34 #[v,Vl g 1 c]).run Tryz.prog W=.ok v' w'∧w'.ownsRow B 160 5 v' (l++[r]).length (flatT (l++[r]))∧W.grownBy w' v.ownBlock:=by
 obtain⟨i0,hi0,hz0,hz1,hz2⟩:=info_parts info109;have hnw:∀ j u,(tC r)[j]?=some u→W.cell? ((⟨g,0,none⟩:Addr).add j)=some u:=fun j u hj=>by
  rw [Addr.add_mid,Nat.zero_add,cell_of_row _ _ j _ _ _ hg];simpa using hj
 have h1:∀ u∈tC r,u.oneCell'=true:=fun u hu=>by
  simp only [tC,List.mem_cons,List.not_mem_nil,or_false] at hu
  rcases hu with rfl|rfl|rfl|rfl|rfl <;> rfl
 obtain⟨v',w',e1,e2,e3,_⟩:=run_append_own (P:=Tryz.prog) W B 34 34 160 i0 _ 5 40 Tryz.underlying34 hi0 hz0 hz1 hz2 rfl (by omega) v _ _ hown ⟨g,0,none⟩ 1 c (tC r) rfl hnw h1 (by unfold maxLen;omega) (by omega) hB;exact⟨v',w',e1,by rw [flatT_snoc,List.length_append];exact e2,e3⟩
def SortsR:Prop:=∀ (v:Value) (rs:List Rg9) (W:World) (base:Nat),W.ownsRow base 160 5 v rs.length (flatT rs)→rs.length≤1000 →
 Calls Tryz.prog 80 #[v,.func (.func 81) #[] #[]] W fun e w'=>e=.returned (.tuple #[])∧∃ rs',rs'.Perm rs∧rs'.Pairwise (fun a b=>a.base≤b.base)∧w'.ownsRow base 160 5 v rs.length (flatT rs')∧W.grownBy w' v.ownBlock
theorem own_keep9 {W W':World} {B:Nat} {e:TypeId} {sz:Nat} {v:Value} {n:Nat} {xs:List Value} {r:Nat} (h:W.ownsRow B e sz v n xs) (g:W.grownBy W' (some r)) (hne:v.ownBlock=some r→False):W'.ownsRow B e sz v n xs:=by
 refine⟨h.1,?_⟩
 rcases h.2 with h2|⟨b,cap,cur,rfl,h1,h2,h3⟩
 ·exact .inl h2
 refine .inr ⟨b,cap,cur,rfl,h1,?_,h3⟩;rw [g.block b (lt_blk h2) (fun e9=>hne (by simp at e9;subst e9;rfl))];exact h2
theorem Inv.nodup {cf:Cf} {h:Hs} (i:Inv cf h):h.rg.Nodup:=by
 refine List.Pairwise.imp_of_mem ?_ i.apart;intro a b ha hb hab e;subst e;have h1:=i.rgs a ha;have:a.ext=a.guards+a.pages+1:=rfl;omega
theorem metR_perm {rg:List Rg9} (hn:rg.Nodup) {left:Lit→Bool} {os:List Rg9} (hp:(metR rg left).Perm os) {r:Rg9} (hr:r∈rg) (hu:∀ r'∈rg,r'.base=r.base→r'=r) (hl:left (.int .u64 (r.base:Nat))=true):(metR rg (fun z=>left z && !z.sameKey (.int .u64 (r.base:Nat)))).Perm (os++[r]):=by
 have hn1:(metR rg left).Nodup:=hn.filter _;have hno:os.Nodup:=hp.nodup_iff.1 hn1;have hnr:r∉os:=fun hx=>by
  have:=hp.mem_iff.2 hx;unfold metR at this;rw [List.mem_filter,hl] at this;simp at this
 have hno2:(os++[r]).Nodup:=by
  rw [List.nodup_append];exact⟨hno,by simp,fun a ha b hb e=>by simp at hb;subst hb;subst e;exact hnr ha⟩
 refine (List.perm_ext_iff_of_nodup (show (metR rg _).Nodup from hn.filter _) hno2).2 fun x=>?_
 rw [List.mem_append,←hp.mem_iff];unfold metR;rw [List.mem_filter,List.mem_filter]
 by_cases e:x.base=r.base
 ·constructor
  ·rintro⟨h1,_⟩;exact .inr (by simpa using hu x h1 e)
  rintro (⟨h1,h2⟩|h1)
  ·exact⟨h1,by simp [e,Lit.sameKey]⟩
  have:=List.mem_singleton.1 h1;subst this;exact⟨hr,by simp [Lit.sameKey]⟩
 have hs:(Lit.int .u64 (x.base:Nat)).sameKey (.int .u64 (r.base:Nat))=false:=by
  simp [Lit.sameKey];omega
 dsimp only;rw [hs];constructor
 ·rintro⟨h1,h2⟩;exact .inl ⟨h1,by simpa using h2⟩
 rintro (⟨h1,h2⟩|h1)
 ·exact⟨h1,by simpa using h2⟩
 have:=List.mem_singleton.1 h1;subst this;exact absurd rfl e
theorem metR_nil {rg:List Rg9} {left:Lit→Bool} (h:∀ r∈rg,left (.int .u64 (r.base:Nat))=true):metR rg left=[]:=by
 unfold metR;rw [List.filter_eq_nil_iff];intro r hr;rw [h r hr];simp
theorem im_toldRanges (SO:SortsR) (B:Nat) (y:Ly) (d:Dy) (cf:Cf) (h:Hs) (W:World) (hp:Hp B y d cf h W) (i:Inv cf h) (hl9:h.rg.length≤400) :
  Calls Tryz.prog 43 #[.pointer (some ⟨y.P,0,none⟩)] W fun e W'=>∃ v rs,e=.returned v∧rs.Perm h.rg∧rs.Pairwise (fun a b=>a.base≤b.base)∧W'.ownsRow W.heap.size 160 5 v rs.length (flatT rs)∧Below W.heap.size W W':=by
 have HPB:=hid (fun V (hV:Below W.heap.size W V)=>hp.below hV);have HI:=hid i;have HSO:=hid SO;obtain⟨D,hown,hsz,hat,hhas⟩:=hp.mp.map;have c115:=hp.cell 115 (by omega) (.map (some y.R)) rfl;have HRW:=hid (show y.R < W.heap.size by obtain ⟨es,c,hR⟩:=hp.mp.typ;exact lt_blk hR);have HD:=hid (And.intro hat hhas);have HLO:=hid hp.lo;clear hp i hat hhas SO;go_enter Tryz.func43,Tryz.ntmps43;go_wp2_with (at_range;refine wpList_range_own _ rfl _ 71 rfl 23 145 keyed22 Tryz.underlying71 ptrE y.R 4096 D rfl hown ?_;intro w0 hrg0 hg0 hs0)
 go_frame
 obtain⟨r,hr⟩:∃ r,r=W.heap.size:=⟨_,rfl⟩;have b0:Below W.heap.size W w0:=(Below.refl W.heap.size W).grown hg0 (Nat.le_refl _) (by simp);have B0:=hid b0;have SZ:=hid (show r+1≤w0.heap.size by omega);have HRr:=hid hr;rw [←hr] at hrg0 ⊢;have RG0:=hid hrg0;have M0:=hid (show (metR h.rg (has D)).Perm [] by
  rw [metR_nil (fun r hr=>by
   have h1:=HI.out.baseP hr;rw [HD.out.2 r.base (by omega),HLO.out r.base];exact List.any_eq_true.2 ⟨r,hr,by simp⟩)])
 clear hrg0 hg0 hs0 hown b0 hr c115;go_loopw [3] (fun v wr=>∃ (left:Lit→Bool) (cnt:Nat) (os:List Rg9),Hid (wr.ranges Tryz.prog 23 ptrE y.R r 4096 D left cnt)∧Hid (wr.ownsRow (r+1) 160 5 v os.length (flatT os))∧Hid ((metR h.rg left).Perm os)∧Hid (Below W.heap.size W wr)∧r+1≤wr.heap.size) (fun _ wr=>wr.rangeLeft y.R r)
 case atStart=>exact ⟨_,_,[],RG0,hid ⟨rfl,.inl ⟨rfl,rfl⟩⟩,M0,B0,SZ.out⟩
 case round =>
  obtain⟨left,cnt,os,hrg,hrow,hmet,hbel,hsz9⟩:=hrel;clear RG0 M0 B0 SZ;have hos:os.length≤400:=by
   have h1:=hmet.out.length_eq;have h2:=List.length_filter_le (fun r:Rg9 => !left (.int .u64 (r.base:Nat))) h.rg;unfold metR at h1;omega
  obtain⟨va,vb,vc,rfl⟩:=own_sl4 hrow.out;go_wp2_with (at_next;refine wpList_next_ranges _ rfl _ rfl 23 keyed22 ptrE (Value.int .u64) mkP9 (fun key kl hk=>by obtain ⟨x,rfl,_⟩:=Maps.keyOf_int_inv Tryz.underlying23 hk;exact⟨x,rfl⟩) (fun v y hv=>by exact (ptrE_inv hv).elim (fun ⟨b,e,_⟩=>⟨some b,e⟩) (fun ⟨e,_⟩=>⟨none,e⟩)) y.R r 4096 D left cnt rfl hrg.out ?_ ?_)
  ·intro hc0 hl0;have HM:=hid (show h.rg.Perm os by have:=hmet.out;rw [metR_all hl0] at this;exact this);have HSV:=hid (HSO.out _ os wr (r+1) hrow.out (by omega));have OB:=hid (fun g (e:(Value.slice va vb vc).ownBlock=some g)=>(own_lt hrow.out e).1);clear hrg hc0 hl0 hmet HD;go_wp2_with fail;refine (HSV.out).mono ?_;rintro e w5 ⟨rfl,rs,hp5,hs5,ho5,hg5⟩;have B5:=hid (hbel.out.grown hg5 hbel.out.size (fun g e=>by have:=OB.out g e;have:=HRr.out;omega));have HF:=hid (And.intro (hp5.trans HM.out.symm) (And.intro hs5 ho5));have HLE:=hid hp5.length_eq;clear hp5 hs5 ho5 hg5 HSV HM hrow hbel OB;go_wp2;go_ret;exact⟨_,rs,rfl,HF.out.1,HF.out.2.1,own_mono9 (by rw [HLE.out];exact HF.out.2.2) (by have:=HRr.out;omega),B5.out⟩
  intro x c kl yd yp w2 cnt2 hkey hlk hv hatk hrg2 hlt hg2 hs2 hen;obtain⟨x',ex,rfl,hwf⟩:=Maps.keyOf_int_inv Tryz.underlying23 hkey
  cases ex
  have hbx:=bounds_u64 hwf;obtain⟨kk,rfl⟩:∃ kk:Nat,x=(kk:Int):=⟨x.toNat,by omega⟩;have hhk:=has_true_of_atKey hatk;rw [HD.out.2 kk (by omega),HLO.out kk] at hhk;obtain⟨rr,hrm,hrb⟩:=List.any_eq_true.1 hhk;simp at hrb;subst hrb;obtain⟨g,hlg,lc⟩:=(HPB.out W (Below.refl _ _)).lcAt HI.out hrm;have e1:=hatk .nil;rw [HD.out.1 rr.base (by omega),hlg] at e1;obtain rfl:c=some g:=by
   cases c with
   | none=>simp [mkP9,ptrE] at hv;rw [←hv.1] at e1;simp [asD] at e1
   | some b =>
    simp [mkP9,ptrE] at hv;rw [←hv.1] at e1;simp [asD] at e1;have:b=g:=by omega
    rw [this]
  have b2:Below W.heap.size W w2:=hbel.out.grown hg2 hbel.out.size (fun j e=>by cases e;have:=HRr.out;omega);have B2:=hid b2;have R2:=hid (show w2.ownsRow (r+1) 160 5 (.slice va vb vc) os.length (flatT os) from own_keep9 hrow.out hg2 (fun e=>by have:=(own_lt hrow.out e).1;omega));have G2:=hid hrg2;have LE:=hid (And.intro hrg2.left_eq hrg.out.left_eq);have ST:=hid (metR_perm HI.out.nodup hmet.out hrm (fun r' h' e=>HI.out.uniq hrm h' e) hlk);have LC:=hid (fun V (hV:Below W.heap.size W V)=>lc.below hV);have S2:=hid (show r+1≤w2.heap.size by omega);unfold mkP9 at hen ⊢;simp only [Option.map_some] at hen ⊢;have bD:Below w2.heap.size w2 w2.drew:=(Below.refl _ _).drew;have bE:Below w2.heap.size w2 w2.drew.drew:=bD.drew;have bA:Below w2.heap.size w2 (w2.drew.drew.alloc (.cells (tC rr).toArray 160)):=bE.alloc bE.size _;obtain⟨v',U,happ,o9,g9⟩:=app_rt _ (r+1) (.slice va vb vc) os rr w2.drew.drew.heap.size 1 (own_bel R2.out bA) (al_last w2.drew.drew _) (by omega) (Nat.le_trans S2.out bA.size);obtain⟨wa,wb,wc,rfl⟩:=own_sl4 o9;have BA:=hid (b2.trans (bA.mono b2.size));have hob9:∀ p,(Value.slice va vb vc).ownBlock=some p→r+1≤p:=fun p hp=>(own_lt (own_bel R2.out bA) hp).1
  have BU:=hid (BA.out.grown g9 BA.out.size (fun p hp=>by have:=hob9 p hp;have:=HRr.out;omega));have GU:=hid ((G2.out.kept (below_none9 bA) (by simp) (by simp)).kept g9 (fun e=>by have:=hob9 _ e.symm;have:=HRW.out;have:=HRr.out;omega) (fun e=>by have:=hob9 _ e.symm;omega));have O9:=hid o9;have LU:=hid (LC.out U BU.out);have LA:=hid (LC.out _ BA.out);have SU:=hid (show r+1≤U.heap.size from Nat.le_trans (Nat.le_trans S2.out bA.size) g9.size);have LD:=hid (LC.out _ (b2.trans (bD.mono b2.size)));have LEU:=hid GU.out.left_eq;clear hkey hlk hv hatk hrg2 hg2 hs2 hhk e1 hbel hrg hlg lc b2 hbx hwf hrow hmet bD bE bA hob9 g9 o9;have EX:=hid (fun V (hV:Lc g rr V)=>im_extent g rr V hV);unfold tC at happ LA;go_upto_region 5 with fail
  refine wp_region_held (S:=Lc g rr) (by kernel_rfl) ?_;simp only [List.size_toArray,List.length_cons,List.length_nil,Nat.reduceAdd,Array.replicate_succ,Array.replicate_zero,List.push_toArray,List.nil_append,List.cons_append];generalize hV1:w2.drew=V1 at LD LA happ;have hV1':({ heap:=w2.heap,tape:=w2.tape,drawn:=w2.drawn+1,os:=w2.os,output:=w2.output } : World)=V1:=hV1;rw [hV1'];clear hV1 hV1' hen;have hS:=LD.out;refine pk 0 16 (.slice va vb vc) hS ?_;simp only [lz,l0,ls];refine pk 1 17 (.int .u64 (rr.base:Nat)) hS ?_;simp only [lz,l0,ls];refine pk 2 18 (.pointer (some ⟨g,0,none⟩)) hS ?_;simp only [lz,l0,ls];refine pk 3 19 (.pointer (some ⟨g,0,none⟩)) hS ?_;simp only [lz,l0,ls];refine pk 4 20 (.pointer (some ⟨g,2,none⟩)) hS ?_;simp only [lz,l0,ls];refine pz 5 21 (.int .i64 (rr.first:Nat)) hS ?_;simp only [lz,l0,ls];refine pk 6 22 (.pointer (some ⟨g,0,none⟩)) hS ?_;simp only [lz,l0,ls];refine pk 8 24 (.pointer (some ⟨g,0,none⟩)) hS ?_;simp only [lz,l0,ls];refine pk 9 25 (.pointer (some ⟨g,0,none⟩)) hS ?_;simp only [lz,l0,ls];refine pk 10 26 (.pointer (some ⟨g,0,none⟩)) hS ?_;simp only [lz,l0,ls];refine pk 11 27 (.pointer (some ⟨g,0,none⟩)) hS ?_;simp only [lz,l0,ls];refine pz 12 28 (.int .i64 rr.st) hS ?_;simp only [lz,l0,ls];refine pk 13 29 (.pointer (some ⟨g,0,none⟩)) hS ?_;simp only [lz,l0,ls];refine pk 14 30 (.pointer (some ⟨g,0,none⟩)) hS ?_;simp only [lz,l0,ls];refine pk 15 31 (.pointer (some ⟨g,0,none⟩)) hS ?_;simp only [lz,l0,ls];refine pk 16 32 (.pointer (some ⟨g,1,none⟩)) hS ?_;simp only [lz,l0,ls];refine pz 17 33 (.int .i64 rr.rq) hS ?_;simp only [lz,l0,ls];refine po 7 fun K' hK=>?_
  go_simp;refine (EX.out _ hS).mono ?_;rintro e U1 ⟨rfl,rfl⟩;have hS1:=hS.below (Below.refl _ _).drew;refine hK.out _ _ ⟨hS1,?_⟩;clear hS;have hS:=hS1;clear hS1;clear hK K';refine pz 18 34 (.agg #[.int .u64 (rr.base:Nat),.int .i64 (rr.first:Nat),.int .i64 (rr.ext:Nat),.int .i64 rr.st,.int .i64 rr.rq]) hS ?_;simp only [lz,l0,ls];refine po 19 fun K' hK=>?_
  go_simp;refine hK.out _ _ ⟨LA.out,?_⟩;clear hS;have hS:=LA.out;clear hK K';refine po 20 fun K' hK=>?_
  refine wpo_append 34 (.tmp 16) (.tmp 35) (v:=.slice va vb vc) (v2:=.slice (some ⟨V1.drew.heap.size,0,none⟩) 1 1) (by kernel_rfl) (by kernel_rfl) (by kernel_rfl) (by kernel_rfl) happ ?_;refine hK.out _ _ ⟨LU.out,?_⟩;clear hS;have hS:=LU.out;clear hK K';refine pk 21 3 (.slice wa wb wc) hS ?_;simp only [lz,l0,ls];refine wpAnyH_done (by kernel_rfl) ?_ _;simp only [Act.put,List.getElem_toArray,List.getElem_cons_succ,List.getElem_cons_zero,List.setIfInBounds_toArray,List.set_cons_zero,List.set_cons_succ];go_wp2;go_roundw
  case rel=>exact ⟨_,cnt2,os++[rr],GU,O9,ST,BU,SU.out⟩
  case measure=>rw [LEU.out,LE.out.2];exact hlt
end Go.Proofs.YtgandbaejlfppaaGreatDoor
namespace Go.Proofs.YtgandbaejlfppaaGreatDoor
set_option linter.unusedVariables false
set_option linter.unusedSimpArgs false
set_option maxRecDepth 20000
set_option maxHeartbeats 8000000
open Go.ChangeShapes Go.WideShapes Go.ChangeAt Go.RowKit Go.Maps Go.Shelf
def Sorts:Prop:=∀ (v:Value) (os:List Int) (W:World) (base:Nat),W.ownsRow base 3 1 v os.length (Ns .i64 os)→os.length≤4096 →
 Calls Tryz.prog 78 #[v] W fun e w'=>e=.returned (.tuple #[])∧w'.ownsRow base 3 1 v os.length (Ns .i64 (os.mergeSort fun x y=>decide (x≤y)))∧W.grownBy w' v.ownBlock
def mkP (c:Option Nat):Value:=.pointer (c.map fun b=>⟨b,0,none⟩)
def Met (m:Nat→Option (Bool×List Int)) (left:Lit→Bool) (os:List Int):Prop:=os.Nodup∧∀ z,z∈os↔∃ k:Nat,z=k∧k < 4096∧isOpen (m k)=true∧left (.int .i64 k)=false
theorem Met.step {m:Nat→Option (Bool×List Int)} {left:Lit→Bool} {os:List Int} (h:Met m left os) {k:Nat} (hk:k < 4096) (hl:left (.int .i64 k)=true) :
  (isOpen (m k)=true→Met m (fun z=>left z && !z.sameKey (.int .i64 k)) (os++[(k:Int)]))∧(isOpen (m k)=false→Met m (fun z=>left z && !z.sameKey (.int .i64 k)) os):=by
 have hs:∀ j:Nat,(Lit.int .i64 (j:Int)).sameKey (.int .i64 (k:Int))=decide (j=k):=fun j=>by
  by_cases e:j=k
  ·subst e;simp [Lit.sameKey]
  have:¬((j:Int)=(k:Int)):=by omega
  simp [Lit.sameKey,e,this]
 have hnot:(k:Int)∉os:=fun hx=>by
  obtain⟨j,e,_,_,h4⟩:=(h.2 _).1 hx;obtain rfl:k=j:=by omega
  rw [hl] at h4;cases h4
 constructor
 ·intro ho;refine⟨List.nodup_append.2 ⟨h.1,by simp,fun a ha b hb=>by simp at hb;subst hb;exact fun e=>hnot (e▸ha)⟩,fun z=>?_⟩;rw [List.mem_append,h.2 z];simp only [List.mem_singleton,hs];constructor
  ·rintro (⟨j,rfl,h1,h2,h3⟩|rfl)
   ·exact⟨j,rfl,h1,h2,by rw [h3];rfl⟩
   exact⟨k,rfl,hk,ho,by simp⟩
  rintro⟨j,rfl,h1,h2,h3⟩
  by_cases e:j=k
  ·right;rw [e]
  left;refine⟨j,rfl,h1,h2,?_⟩;simpa [e] using h3
 intro ho;refine⟨h.1,fun z=>?_⟩;rw [h.2 z];simp only [hs];constructor
 ·rintro⟨j,rfl,h1,h2,h3⟩;exact⟨j,rfl,h1,h2,by rw [h3];rfl⟩
 rintro⟨j,rfl,h1,h2,h3⟩;have e:j≠k:=fun e=>by subst e;rw [ho] at h2;cases h2
 refine⟨j,rfl,h1,h2,?_⟩;simpa [e] using h3
theorem Fr.grownS {S M:Nat} {f:Nat→Option Nat} {w W W':World} (h:Fr S M f f w W) (hg:W.grownBy W' (some S)):Fr S M f f w W' :=
 ⟨hg.os.trans h.os,hg.tape.trans h.tape,hg.output.trans h.output,Nat.le_trans h.size hg.size,fun j h0 h1 h2 h3=>by
  rw [hg.block j (Nat.lt_of_lt_of_le h0 h.size) (by simpa using h1)]
  exact h.block j h0 h1 h2 h3,h.made⟩
end Go.Proofs.YtgandbaejlfppaaGreatDoor
