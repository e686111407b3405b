import Derived.Below
import Derived.BigGuardIn
import Derived.BigQuiet
import Derived.BigRegionIn
import Derived.Conc.MuLone
import Derived.Deep.AppendLies
import Derived.Deep.AppendSrc
import Derived.Deep.CutBlock
import Derived.Deep.DeepCutAuto
import Derived.Deep.LoopGhost
import Derived.Deep.MidRow
import Derived.Deep.OwnRows
import Derived.Deep.QuietTactic
import Derived.Deep.RegionHeld
import Derived.Deep.RegionLaw
import Derived.Deep.RegionWith
import Derived.Defers
import Derived.KernelRfl
import Derived.Laws.BytesString
import Derived.Laws.CopyOwn
import Derived.Laws.OwnMore
import Derived.Laws.Rows
import Derived.Laws.Tables
import Derived.Lib.SliceRun
import Derived.Lib.SmallJoins
import Derived.LoopIn
import Derived.LoopNIn
import Derived.Maps.AppendAt
import Derived.Maps.OwnOps
import Derived.Maps.OwnSet
import Derived.Maps.RangeWalk
import Derived.OpenShut
import Derived.OrdersHeld
import Derived.OwnWalkIn
import Derived.ProofKit
import Derived.RangeFuncBound
import Derived.RangeFuncCalls
import Derived.RangeFuncLeaves
import Derived.RangeFuncNested
import Derived.Recover
import Derived.Shelf.Abstract
import Derived.Shelf.Bits.Mul64
import Derived.Shelf.Lay
import Derived.Shelf.RegionOpen
import Derived.Shelf.Slices.In.SortNone
import Derived.Shelf.Sort.Plain
import Derived.Sort.KeysCollected
import Derived.Sort.OwnSortedInts
import Derived.TacticsInMore
import Derived.Test.YtacccpkmgkojiaaGreatDoorRRProg
import Derived.WalkKit
import Derived.WalkLawsBesides
import Derived.Test.YtacccpkmgkojiaaGreatDoorRRM00
import Derived.Test.YtacccpkmgkojiaaGreatDoorRRM01
import Derived.Test.YtacccpkmgkojiaaGreatDoorRRM02
import Derived.Test.YtacccpkmgkojiaaGreatDoorRRM06
import Derived.Test.YtacccpkmgkojiaaGreatDoorRRM08
import Derived.Test.YtacccpkmgkojiaaGreatDoorRRM09
import Derived.Test.YtacccpkmgkojiaaGreatDoorRRM10
import Derived.Test.YtacccpkmgkojiaaGreatDoorRRM12
import Derived.Test.YtacccpkmgkojiaaGreatDoorRRM14
import Derived.Test.YtacccpkmgkojiaaGreatDoorRRM15
import Derived.Test.YtacccpkmgkojiaaGreatDoorRRM17
import Derived.Test.YtacccpkmgkojiaaGreatDoorRRM18
import Derived.Test.YtacccpkmgkojiaaGreatDoorRRM19
import Derived.Test.YtacccpkmgkojiaaGreatDoorRRM22
import Derived.Test.YtacccpkmgkojiaaGreatDoorRRM24
import Derived.Test.YtacccpkmgkojiaaGreatDoorRRM26
import Derived.Test.YtacccpkmgkojiaaGreatDoorRRM27
import Derived.Test.YtacccpkmgkojiaaGreatDoorRRM29
import Derived.Test.YtacccpkmgkojiaaGreatDoorRRM31
import Derived.Test.YtacccpkmgkojiaaGreatDoorRRM33
import Derived.Test.YtacccpkmgkojiaaGreatDoorRRM34
import Derived.Test.YtacccpkmgkojiaaGreatDoorRRM35
import Derived.Test.YtacccpkmgkojiaaGreatDoorRRM36
import Derived.Test.YtacccpkmgkojiaaGreatDoorRRM38
import Derived.Test.YtacccpkmgkojiaaGreatDoorRRM39
import Derived.BigRegion
import Derived.Ground.SlsfProg
import Derived.Shelf.SlGeneric
import Derived.Shelf.SlSortCmp.NoneTotal
import Derived.Shelf.SlSortCmp.WholeK
import Derived.Sort.AssemblyPlain
import Derived.Sort.LotD4
import Derived.Sort.Walk13a
import Derived.Test.YtacccpkmgkojiaaGreatDoorRRM16
import Derived.Test.YtacccpkmgkojiaaGreatDoorRRM41
namespace Go.Proofs.YtacccpkmgkojiaaGreatDoorRR
set_option linter.unusedVariables false
set_option linter.unusedSimpArgs false
set_option maxRecDepth 20000
set_option maxHeartbeats 8000000
open Go.RowKit Go.Maps Go.ChangeShapes Go.WideShapes Go.ChangeAt
def tC (r:Rg9):List Value:=[Vu (r.base:Nat),Vi (r.first:Nat),Vi (r.ext:Nat),Vi r.st,Vi r.rq]
def flatT (l:List Rg9):List Value:=l.flatMap tC
theorem flatT_snoc (l:List Rg9) (r:Rg9):flatT (l++[r])=flatT l++tC r:=by simp [flatT]
theorem info109:(Tryz.prog.info? 67).map (fun i=>(i.zero,i.size,i.bytes))=some (some (.agg #[Vu 0,Vi 0,Vi 0,Vi 0,Vi 0]),5,40):=by kernel_rfl
theorem app_rt (W:World) (B:Nat) (v:Value) (l:List Rg9) (r:Rg9) (g c:Nat) (hown:W.ownsRow B 67 5 v l.length (flatT l)) (hg:W.heap[g]?=some (.cells (tC r).toArray 67 (0,0))) (hl:l.length≤100000) (hB:B≤W.heap.size) :
  ∃ v' w',(Builtin.append_ #[34,34] 34 #[v,Vl g 1 c]).run Tryz.prog W=.ok v' w'∧w'.ownsRow B 67 5 v' (l++[r]).length (flatT (l++[r]))∧W.grownBy w' v.ownBlock:=by
 obtain⟨i0,hi0,hz0,hz1,hz2⟩:=info_parts info109;have hnw:∀ j u,(tC r)[j]?=some u→W.cell? ((⟨g,0,none⟩:Addr).add j)=some u:=fun j u hj=>by
  rw [Addr.add_mid,Nat.zero_add,cell_of_row _ _ j _ _ _ hg];simpa using hj
 have h1:∀ u∈tC r,u.oneCell'=true:=fun u hu=>by
  simp only [tC,List.mem_cons,List.not_mem_nil,or_false] at hu
  rcases hu with rfl|rfl|rfl|rfl|rfl <;> rfl
 obtain⟨v',w',e1,e2,e3,_⟩:=run_append_own (P:=Tryz.prog) W B 34 34 67 i0 _ 5 40 Tryz.underlying34 hi0 hz0 hz1 hz2 rfl (by omega) v _ _ hown ⟨g,0,none⟩ 1 c (tC r) rfl hnw h1 (by unfold maxLen;omega) (by omega) hB;exact⟨v',w',e1,by rw [flatT_snoc,List.length_append];exact e2,e3⟩
def SortsR:Prop:=∀ (v:Value) (rs:List Rg9) (W:World) (base:Nat),W.ownsRow base 67 5 v rs.length (flatT rs)→rs.length≤1000 →
 Calls Tryz.prog 108 #[v,.func (.func 109) #[] #[]] W fun e w'=>e=.returned (.tuple #[])∧∃ rs',rs'.Perm rs∧rs'.Pairwise (fun a b=>a.base≤b.base)∧w'.ownsRow base 67 5 v rs.length (flatT rs')∧W.grownBy w' v.ownBlock
theorem own_keep9 {W W':World} {B:Nat} {e:TypeId} {sz:Nat} {v:Value} {n:Nat} {xs:List Value} {r:Nat} (h:W.ownsRow B e sz v n xs) (g:W.grownBy W' (some r)) (hne:v.ownBlock=some r→False):W'.ownsRow B e sz v n xs:=by
 refine⟨h.1,?_⟩
 rcases h.2 with h2|⟨b,cap,cur,rfl,h1,h2,h3⟩
 ·exact .inl h2
 refine .inr ⟨b,cap,cur,rfl,h1,?_,h3⟩;rw [g.block b (lt_blk h2) (fun e9=>hne (by simp at e9;subst e9;rfl))];exact h2
theorem Inv.nodup {cf:Cf} {h:Hs} (i:Inv cf h):h.rg.Nodup:=by
 refine List.Pairwise.imp_of_mem ?_ i.apart;intro a b ha hb hab e;subst e;have h1:=i.rgs a ha;have:a.ext=a.guards+a.pages+1:=rfl;omega
theorem metR_perm {rg:List Rg9} (hn:rg.Nodup) {left:Lit→Bool} {os:List Rg9} (hp:(metR rg left).Perm os) {r:Rg9} (hr:r∈rg) (hu:∀ r'∈rg,r'.base=r.base→r'=r) (hl:left (.int .u64 (r.base:Nat))=true):(metR rg (fun z=>left z && !z.sameKey (.int .u64 (r.base:Nat)))).Perm (os++[r]):=by
 have hn1:(metR rg left).Nodup:=hn.filter _;have hno:os.Nodup:=hp.nodup_iff.1 hn1;have hnr:r∉os:=fun hx=>by
  have:=hp.mem_iff.2 hx;unfold metR at this;rw [List.mem_filter,hl] at this;simp at this
 have hno2:(os++[r]).Nodup:=by
  rw [List.nodup_append];exact⟨hno,by simp,fun a ha b hb e=>by simp at hb;subst hb;subst e;exact hnr ha⟩
 refine (List.perm_ext_iff_of_nodup (show (metR rg _).Nodup from hn.filter _) hno2).2 fun x=>?_
 rw [List.mem_append,←hp.mem_iff];unfold metR;rw [List.mem_filter,List.mem_filter]
 by_cases e:x.base=r.base
 ·constructor
  ·rintro⟨h1,_⟩;exact .inr (by simpa using hu x h1 e)
  rintro (⟨h1,h2⟩|h1)
  ·exact⟨h1,by simp [e,Lit.sameKey]⟩
  have:=List.mem_singleton.1 h1;subst this;exact⟨hr,by simp [Lit.sameKey]⟩
 have hs:(Lit.int .u64 (x.base:Nat)).sameKey (.int .u64 (r.base:Nat))=false:=by
  simp [Lit.sameKey];omega
 dsimp only;rw [hs];constructor
 ·rintro⟨h1,h2⟩;exact .inl ⟨h1,by simpa using h2⟩
 rintro (⟨h1,h2⟩|h1)
 ·exact⟨h1,by simpa using h2⟩
 have:=List.mem_singleton.1 h1;subst this;exact absurd rfl e
theorem metR_nil {rg:List Rg9} {left:Lit→Bool} (h:∀ r∈rg,left (.int .u64 (r.base:Nat))=true):metR rg left=[]:=by
 unfold metR;rw [List.filter_eq_nil_iff];intro r hr;rw [h r hr];simp
theorem im_toldRanges (SO:SortsR) (B:Nat) (y:Ly) (d:Dy) (cf:Cf) (h:Hs) (W:World) (hp:Hp B y d cf h W) (i:Inv cf h) (hl9:h.rg.length≤400) :
  Calls Tryz.prog 74 #[.pointer (some ⟨y.P,0,none⟩)] W fun e W'=>∃ v rs,e=.returned v∧rs.Perm h.rg∧rs.Pairwise (fun a b=>a.base≤b.base)∧W'.ownsRow W.heap.size 67 5 v rs.length (flatT rs)∧Below W.heap.size W W':=by
 have HPB:=hid (fun V (hV:Below W.heap.size W V)=>hp.below hV);have HI:=hid i;have HSO:=hid SO;obtain⟨D,hown,hsz,hat,hhas⟩:=hp.mp.map;have c115:=hp.cell 115 (by omega) (.map (some y.R)) rfl;have HRW:=hid (show y.R < W.heap.size by obtain ⟨es,c,hR⟩:=hp.mp.typ;exact lt_blk hR);have HD:=hid (And.intro hat hhas);have HLO:=hid hp.lo;clear hp i hat hhas SO;go_enter Tryz.func74,Tryz.ntmps74;go_wp2_with (at_range;refine wpList_range_own _ rfl _ 90 rfl 23 175 keyed22 Tryz.underlying90 ptrE y.R 4096 D rfl hown ?_;intro w0 hrg0 hg0 hs0)
 go_frame
 obtain⟨r,hr⟩:∃ r,r=W.heap.size:=⟨_,rfl⟩;have b0:Below W.heap.size W w0:=(Below.refl W.heap.size W).grown hg0 (Nat.le_refl _) (by simp);have B0:=hid b0;have SZ:=hid (show r+1≤w0.heap.size by omega);have HRr:=hid hr;rw [←hr] at hrg0 ⊢;have RG0:=hid hrg0;have M0:=hid (show (metR h.rg (has D)).Perm [] by
  rw [metR_nil (fun r hr=>by
   have h1:=HI.out.baseP hr;rw [HD.out.2 r.base (by omega),HLO.out r.base];exact List.any_eq_true.2 ⟨r,hr,by simp⟩)])
 clear hrg0 hg0 hs0 hown b0 hr c115;go_loopw [3] (fun v wr=>∃ (left:Lit→Bool) (cnt:Nat) (os:List Rg9),Hid (wr.ranges Tryz.prog 23 ptrE y.R r 4096 D left cnt)∧Hid (wr.ownsRow (r+1) 67 5 v os.length (flatT os))∧Hid ((metR h.rg left).Perm os)∧Hid (Below W.heap.size W wr)∧r+1≤wr.heap.size) (fun _ wr=>wr.rangeLeft y.R r)
 case atStart=>exact ⟨_,_,[],RG0,hid ⟨rfl,.inl ⟨rfl,rfl⟩⟩,M0,B0,SZ.out⟩
 case round =>
  obtain⟨left,cnt,os,hrg,hrow,hmet,hbel,hsz9⟩:=hrel;clear RG0 M0 B0 SZ;have hos:os.length≤400:=by
   have h1:=hmet.out.length_eq;have h2:=List.length_filter_le (fun r:Rg9 => !left (.int .u64 (r.base:Nat))) h.rg;unfold metR at h1;omega
  obtain⟨va,vb,vc,rfl⟩:=own_sl4 hrow.out;go_wp2_with (at_next;refine wpList_next_ranges _ rfl _ rfl 23 keyed22 ptrE (Value.int .u64) mkP9 (fun key kl hk=>by obtain ⟨x,rfl,_⟩:=Maps.keyOf_int_inv Tryz.underlying23 hk;exact⟨x,rfl⟩) (fun v y hv=>by exact (ptrE_inv hv).elim (fun ⟨b,e,_⟩=>⟨some b,e⟩) (fun ⟨e,_⟩=>⟨none,e⟩)) y.R r 4096 D left cnt rfl hrg.out ?_ ?_)
  ·intro hc0 hl0;have HM:=hid (show h.rg.Perm os by have:=hmet.out;rw [metR_all hl0] at this;exact this);have HSV:=hid (HSO.out _ os wr (r+1) hrow.out (by omega));have OB:=hid (fun g (e:(Value.slice va vb vc).ownBlock=some g)=>(own_lt hrow.out e).1);clear hrg hc0 hl0 hmet HD;go_wp2_with fail;refine (HSV.out).mono ?_;rintro e w5 ⟨rfl,rs,hp5,hs5,ho5,hg5⟩;have B5:=hid (hbel.out.grown hg5 hbel.out.size (fun g e=>by have:=OB.out g e;have:=HRr.out;omega));have HF:=hid (And.intro (hp5.trans HM.out.symm) (And.intro hs5 ho5));have HLE:=hid hp5.length_eq;clear hp5 hs5 ho5 hg5 HSV HM hrow hbel OB;go_wp2;go_ret;exact⟨_,rs,rfl,HF.out.1,HF.out.2.1,own_mono9 (by rw [HLE.out];exact HF.out.2.2) (by have:=HRr.out;omega),B5.out⟩
  intro x c kl yd yp w2 cnt2 hkey hlk hv hatk hrg2 hlt hg2 hs2 hen;obtain⟨x',ex,rfl,hwf⟩:=Maps.keyOf_int_inv Tryz.underlying23 hkey
  cases ex
  have hbx:=bounds_u64 hwf;obtain⟨kk,rfl⟩:∃ kk:Nat,x=(kk:Int):=⟨x.toNat,by omega⟩;have hhk:=has_true_of_atKey hatk;rw [HD.out.2 kk (by omega),HLO.out kk] at hhk;obtain⟨rr,hrm,hrb⟩:=List.any_eq_true.1 hhk;simp at hrb;subst hrb;obtain⟨g,hlg,lc⟩:=(HPB.out W (Below.refl _ _)).lcAt HI.out hrm;have e1:=hatk .nil;rw [HD.out.1 rr.base (by omega),hlg] at e1;obtain rfl:c=some g:=by
   cases c with
   | none=>simp [mkP9,ptrE] at hv;rw [←hv.1] at e1;simp [asD] at e1
   | some b =>
    simp [mkP9,ptrE] at hv;rw [←hv.1] at e1;simp [asD] at e1;have:b=g:=by omega
    rw [this]
  have b2:Below W.heap.size W w2:=hbel.out.grown hg2 hbel.out.size (fun j e=>by cases e;have:=HRr.out;omega);have B2:=hid b2;have R2:=hid (show w2.ownsRow (r+1) 67 5 (.slice va vb vc) os.length (flatT os) from own_keep9 hrow.out hg2 (fun e=>by have:=(own_lt hrow.out e).1;omega));have G2:=hid hrg2;have LE:=hid (And.intro hrg2.left_eq hrg.out.left_eq);have ST:=hid (metR_perm HI.out.nodup hmet.out hrm (fun r' h' e=>HI.out.uniq hrm h' e) hlk);have LC:=hid (fun V (hV:Below W.heap.size W V)=>lc.below hV);have S2:=hid (show r+1≤w2.heap.size by omega);unfold mkP9 at hen ⊢;simp only [Option.map_some] at hen ⊢;have bD:Below w2.heap.size w2 w2.drew:=(Below.refl _ _).drew;have bE:Below w2.heap.size w2 w2.drew.drew:=bD.drew;have bA:Below w2.heap.size w2 (w2.drew.drew.alloc (.cells (tC rr).toArray 67)):=bE.alloc bE.size _;obtain⟨v',U,happ,o9,g9⟩:=app_rt _ (r+1) (.slice va vb vc) os rr w2.drew.drew.heap.size 1 (own_bel R2.out bA) (al_last w2.drew.drew _) (by omega) (Nat.le_trans S2.out bA.size);obtain⟨wa,wb,wc,rfl⟩:=own_sl4 o9;have BA:=hid (b2.trans (bA.mono b2.size));have hob9:∀ p,(Value.slice va vb vc).ownBlock=some p→r+1≤p:=fun p hp=>(own_lt (own_bel R2.out bA) hp).1
  have BU:=hid (BA.out.grown g9 BA.out.size (fun p hp=>by have:=hob9 p hp;have:=HRr.out;omega));have GU:=hid ((G2.out.kept (below_none9 bA) (by simp) (by simp)).kept g9 (fun e=>by have:=hob9 _ e.symm;have:=HRW.out;have:=HRr.out;omega) (fun e=>by have:=hob9 _ e.symm;omega));have O9:=hid o9;have LU:=hid (LC.out U BU.out);have LA:=hid (LC.out _ BA.out);have SU:=hid (show r+1≤U.heap.size from Nat.le_trans (Nat.le_trans S2.out bA.size) g9.size);have LD:=hid (LC.out _ (b2.trans (bD.mono b2.size)));have LEU:=hid GU.out.left_eq;clear hkey hlk hv hatk hrg2 hg2 hs2 hhk e1 hbel hrg hlg lc b2 hbx hwf hrow hmet bD bE bA hob9 g9 o9;have EX:=hid (fun V (hV:Lc g rr V)=>im_extent g rr V hV);unfold tC at happ LA;go_upto_region 5 with fail
  refine wp_region_held (S:=Lc g rr) (by kernel_rfl) ?_;simp only [List.size_toArray,List.length_cons,List.length_nil,Nat.reduceAdd,Array.replicate_succ,Array.replicate_zero,List.push_toArray,List.nil_append,List.cons_append];generalize hV1:w2.drew=V1 at LD LA happ;have hV1':({ heap:=w2.heap,tape:=w2.tape,drawn:=w2.drawn+1,os:=w2.os,output:=w2.output } : World)=V1:=hV1;rw [hV1'];clear hV1 hV1' hen;have hS:=LD.out;refine pk 0 16 (.slice va vb vc) hS ?_;simp only [lz,l0,ls];refine pk 1 17 (.int .u64 (rr.base:Nat)) hS ?_;simp only [lz,l0,ls];refine pk 2 18 (.pointer (some ⟨g,0,none⟩)) hS ?_;simp only [lz,l0,ls];refine pk 3 19 (.pointer (some ⟨g,0,none⟩)) hS ?_;simp only [lz,l0,ls];refine pk 4 20 (.pointer (some ⟨g,2,none⟩)) hS ?_;simp only [lz,l0,ls];refine pz 5 21 (.int .i64 (rr.first:Nat)) hS ?_;simp only [lz,l0,ls];refine pk 6 22 (.pointer (some ⟨g,0,none⟩)) hS ?_;simp only [lz,l0,ls];refine pk 8 24 (.pointer (some ⟨g,0,none⟩)) hS ?_;simp only [lz,l0,ls];refine pk 9 25 (.pointer (some ⟨g,0,none⟩)) hS ?_;simp only [lz,l0,ls];refine pk 10 26 (.pointer (some ⟨g,0,none⟩)) hS ?_;simp only [lz,l0,ls];refine pk 11 27 (.pointer (some ⟨g,0,none⟩)) hS ?_;simp only [lz,l0,ls];refine pz 12 28 (.int .i64 rr.st) hS ?_;simp only [lz,l0,ls];refine pk 13 29 (.pointer (some ⟨g,0,none⟩)) hS ?_;simp only [lz,l0,ls];refine pk 14 30 (.pointer (some ⟨g,0,none⟩)) hS ?_;simp only [lz,l0,ls];refine pk 15 31 (.pointer (some ⟨g,0,none⟩)) hS ?_;simp only [lz,l0,ls];refine pk 16 32 (.pointer (some ⟨g,1,none⟩)) hS ?_;simp only [lz,l0,ls];refine pz 17 33 (.int .i64 rr.rq) hS ?_;simp only [lz,l0,ls];refine po 7 fun K' hK=>?_
  go_simp;refine (EX.out _ hS).mono ?_;rintro e U1 ⟨rfl,rfl⟩;have hS1:=hS.below (Below.refl _ _).drew;refine hK.out _ _ ⟨hS1,?_⟩;clear hS;have hS:=hS1;clear hS1;clear hK K';refine pz 18 34 (.agg #[.int .u64 (rr.base:Nat),.int .i64 (rr.first:Nat),.int .i64 (rr.ext:Nat),.int .i64 rr.st,.int .i64 rr.rq]) hS ?_;simp only [lz,l0,ls];refine po 19 fun K' hK=>?_
  go_simp;refine hK.out _ _ ⟨LA.out,?_⟩;clear hS;have hS:=LA.out;clear hK K';refine po 20 fun K' hK=>?_
  refine wpo_append 34 (.tmp 16) (.tmp 35) (v:=.slice va vb vc) (v2:=.slice (some ⟨V1.drew.heap.size,0,none⟩) 1 1) (by kernel_rfl) (by kernel_rfl) (by kernel_rfl) (by kernel_rfl) happ ?_;refine hK.out _ _ ⟨LU.out,?_⟩;clear hS;have hS:=LU.out;clear hK K';refine pk 21 3 (.slice wa wb wc) hS ?_;simp only [lz,l0,ls];refine wpAnyH_done (by kernel_rfl) ?_ _;simp only [Act.put,List.getElem_toArray,List.getElem_cons_succ,List.getElem_cons_zero,List.setIfInBounds_toArray,List.set_cons_zero,List.set_cons_succ];go_wp2;go_roundw
  case rel=>exact ⟨_,cnt2,os++[rr],GU,O9,ST,BU,SU.out⟩
  case measure=>rw [LEU.out,LE.out.2];exact hlt
end Go.Proofs.YtacccpkmgkojiaaGreatDoorRR
namespace Go.Proofs.YtacccpkmgkojiaaGreatDoorRR
set_option linter.unusedVariables false
set_option linter.unusedSimpArgs false
set_option maxRecDepth 20000
set_option maxHeartbeats 8000000
open Go.RowKit Go.Maps
def wC9 (cf:Cf) (h:Hs) (c:Nat) (p:Nat×Nat):List Value:=[Vl p.1 (h.mx c).length (h.mx c).length,Vl p.2 (h.ff c).length (h.ff c).length,Vi (cf.fifo:Nat)]
def flatW9 (cf:Cf) (h:Hs) (ws:List (Nat×Nat)):List Value:=ws.zipIdx.flatMap fun x=>wC9 cf h x.2 x.1
theorem flatW9_snoc (cf:Cf) (h:Hs) (ws:List (Nat×Nat)) (p:Nat×Nat):flatW9 cf h (ws++[p])=flatW9 cf h ws++wC9 cf h ws.length p:=by
 unfold flatW9;rw [List.zipIdx_append,List.flatMap_append];simp
theorem info104:(Tryz.prog.info? 69).map (fun i=>(i.zero,i.size,i.bytes))=some (some (.agg #[Vn,Vn,Vi 0]),3,56):=by kernel_rfl
theorem app_104 (W:World) (B:Nat) (v:Value) (n:Nat) (xs:List Value) (a b c:Value) (g cp:Nat) (hown:W.ownsRow B 69 3 v n xs) (hg:W.heap[g]?=some (.cells #[a,b,c] 69 (0,0))) (h1:a.oneCell'=true) (h2:b.oneCell'=true) (h3:c.oneCell'=true) (hl:n≤1000) (hB:B≤W.heap.size) :
  ∃ v' w',(Builtin.append_ #[33,33] 33 #[v,Vl g 1 cp]).run Tryz.prog W=.ok v' w'∧w'.ownsRow B 69 3 v' (n+1) (xs++[a,b,c])∧W.grownBy w' v.ownBlock:=by
 obtain⟨i0,hi0,hz0,hz1,hz2⟩:=info_parts info104;have hnw:∀ j u,[a,b,c][j]?=some u→W.cell? ((⟨g,0,none⟩:Addr).add j)=some u:=fun j u hj=>by
  rw [Addr.add_mid,Nat.zero_add,cell_of_row _ _ j _ _ _ hg];simpa using hj
 have ho:∀ u∈[a,b,c],u.oneCell'=true:=fun u hu=>by
  simp only [List.mem_cons,List.not_mem_nil,or_false] at hu
  rcases hu with rfl|rfl|rfl
  ·exact h1
  ·exact h2
  exact h3
 obtain⟨v',w',e1,e2,e3,_⟩:=run_append_own (P:=Tryz.prog) W B 33 33 69 i0 _ 3 56 Tryz.underlying33 hi0 hz0 hz1 hz2 rfl (by omega) v _ _ hown ⟨g,0,none⟩ 1 cp [a,b,c] rfl hnw ho (by unfold maxLen;omega) (by omega) hB;exact⟨v',w',e1,e2,e3⟩
def SortedC:Prop:=∀ (X:Nat) (va:Option Addr) (vn vc:Nat) (l:List Nat) (W:World) (base:Nat),W.heap[X]?=some (.cells #[.slice va vn vc] 35 (0,0))→W.ownsRow base 23 1 (.slice va vn vc) l.length (Us l)→l.length≤1000 →
 Calls Tryz.prog 77 #[.func (.func 114) #[] #[Vp X 0]] W fun e W'=>∃ v l',e=.returned v∧l'.Perm l∧l'.Pairwise (fun a b=>a≤b)∧W'.ownsRow W.heap.size 23 1 v l.length (Us l')∧Below W.heap.size W W'
theorem im_values (va:Option Addr) (vn vc:Nat) (W:World):Calls Tryz.prog 78 #[.slice va vn vc] W fun e W'=>e=.returned (.func (.func 114) #[] #[Vp W.heap.size 0])∧W'=W.alloc (.cells #[.slice va vn vc] 35):=by
 go_enter Tryz.func78,Tryz.ntmps78;go_wp2;go_ret;exact⟨rfl,rfl⟩
structure Wt9 (cf:Cf) (h:Hs) (base:Nat) (vo:Value) (ws:List (Nat×Nat)) (vw:Value) (W:World):Prop where
 row:W.ownsRow base 69 3 vw ws.length (flatW9 cf h ws)
 at_:∀ c p,ws[c]?=some p→RowV W p.1 3 (Ns .i64 (h.mx c))∧RowV W p.2 3 (Ns .i64 (h.ff c))∧base≤p.1∧p.1 < p.2
 ord:ws.Pairwise fun p q=>p.2 < q.1
 vo:∀ g,vo.ownBlock=some g→∀ p∈ws,g < p.1
theorem Wt9.ky {S:TypeId→Prop} {cf:Cf} {h:Hs} {base:Nat} {vo:Value} {ws:List (Nat×Nat)} {vw:Value} {W W':World} (w:Wt9 cf h base vo ws vw W) (k:Ky S W W') (h1:¬S 69) (h2:¬S 3):Wt9 cf h base vo ws vw W' :=
 ⟨own_ky w.row k h1,fun c p hp=>⟨row_ky (w.at_ c p hp).1 k h2,row_ky (w.at_ c p hp).2.1 k h2,(w.at_ c p hp).2.2⟩,w.ord,w.vo⟩
theorem Wt9.below {cf:Cf} {h:Hs} {base:Nat} {vo:Value} {ws:List (Nat×Nat)} {vw:Value} {W W':World} (w:Wt9 cf h base vo ws vw W) (b:Below W.heap.size W W'):Wt9 cf h base vo ws vw W':=w.ky (Ky.below b:Ky (fun _=>False) W W') (fun e=>e) (fun e=>e)
theorem Wt9.add {cf:Cf} {h:Hs} {base:Nat} {vo:Value} {ws:List (Nat×Nat)} {vw:Value} {V U:World} (w:Wt9 cf h base vo ws vw V) (hB:base≤V.heap.size) (hvo:∀ g,vo.ownBlock=some g→g < V.heap.size) (b:Below V.heap.size V U) {g1 g2:Nat} (r1:RowV U g1 3 (Ns .i64 (h.mx ws.length))) (r2:RowV U g2 3 (Ns .i64 (h.ff ws.length))) (hg1:V.heap.size≤g1) (hg2:g1 < g2) (hl:ws.length≤12) :
  ∃ v' U',(Builtin.append_ #[33,33] 33 #[vw,Vl U.heap.size 1 1]).run Tryz.prog (U.alloc (.cells #[Vl g1 (h.mx ws.length).length (h.mx ws.length).length,Vl g2 (h.ff ws.length).length (h.ff ws.length).length,Vi (cf.fifo:Nat)] 69))=.ok v' U'∧Wt9 cf h base vo (ws++[(g1,g2)]) v' U'∧Ky (· = 69) V U'∧Below base V U':=by
 have bA:Below U.heap.size U (U.alloc (.cells #[Vl g1 (h.mx ws.length).length (h.mx ws.length).length,Vl g2 (h.ff ws.length).length (h.ff ws.length).length,Vi (cf.fifo:Nat)] 69)):=(Below.refl _ _).alloc (Nat.le_refl _) _;have wA:=(w.below b).below bA;have hBA:base≤(U.alloc (.cells #[Vl g1 (h.mx ws.length).length (h.mx ws.length).length,Vl g2 (h.ff ws.length).length (h.ff ws.length).length,Vi (cf.fifo:Nat)] 69)).heap.size:=Nat.le_trans (Nat.le_trans hB b.size) bA.size;obtain⟨v',U',e1,e2,e3⟩:=app_104 _ base vw ws.length (flatW9 cf h ws) _ _ _ U.heap.size 1 wA.row (al_last U _) rfl rfl rfl (by omega) hBA;have kU:Ky (· = 69) _ U':=Ky.grownO (fun P hP=>by obtain ⟨_,c,hc⟩:=own_lt wA.row hP;exact⟨c,69,_,hc,rfl⟩) e3;refine⟨v',U',e1,⟨?_,fun c p hp=>?_,?_,fun g hg p hp=>?_⟩,((Ky.below b).trans (Ky.below bA)).trans kU,((b.mono hB).trans (bA.mono (Nat.le_trans hB b.size))).grown e3 hBA (fun P hP=>(own_lt wA.row hP).1)⟩
 ·rw [flatW9_snoc,List.length_append];exact e2
 ·by_cases hc:c < ws.length
  ·rw [List.getElem?_append_left hc] at hp;have:=wA.at_ c p hp;exact⟨row_ky this.1 kU (by decide),row_ky this.2.1 kU (by decide),this.2.2⟩
  have hc2:c=ws.length:=by have:=(List.getElem?_eq_some_iff.1 hp).1;simp at this;omega
  subst hc2;simp at hp;subst hp;exact⟨row_ky (row_ky r1 (Ky.below bA:Ky (fun _=>False) _ _) (fun e=>e)) kU (by decide),row_ky (row_ky r2 (Ky.below bA:Ky (fun _=>False) _ _) (fun e=>e)) kU (by decide),Nat.le_trans hB hg1,hg2⟩
 ·rw [List.pairwise_append];refine⟨w.ord,List.pairwise_singleton _ _,fun p hp q hq=>?_⟩;have:=List.mem_singleton.1 hq;subst this;obtain⟨c,hc⟩:=List.getElem?_of_mem hp;have:=(w.at_ c p hc).2.1.lt;show p.2 < g1;omega
 rcases List.mem_append.1 hp with hp|hp
 ·exact w.vo g hg p hp
 have:=List.mem_singleton.1 hp;subst this;have:=hvo g hg;show g < g1;omega
def Told9 (B:Nat) (y:Ly) (cf:Cf) (h:Hs) (V:World) (m:Array Value) (V':World):Prop:=∃ vo vs vw vr vl ve ws rs es,m=#[Vi (cntM h.m 283),vo,vs,vw,vr,vl,ve,Vi (h.used:Nat)] ∧
 V'.ownsRow V.heap.size 3 1 vo (opensM h.m 283).length (Ns .i64 (opensM h.m 283))∧V'.ownsRow V.heap.size 44 5 vs (I1 h 12).length (flatI h (I1 h 12))∧(ws.length=12∧Wt9 cf h V.heap.size vo ws vw V') ∧
 (rs.Perm h.rg∧rs.Pairwise (fun a b=>a.base≤b.base)∧V'.ownsRow V.heap.size 67 5 vr rs.length (flatT rs))∧V'.ownsRow V.heap.size 23 1 vl h.row.length (Us h.row) ∧
 (es.Perm h.rel∧es.Pairwise (fun a b=>a≤b)∧V'.ownsRow V.heap.size 23 1 ve h.rel.length (Us es))∧∀ g,vl.ownBlock=some g→ve.ownBlock≠some g
end Go.Proofs.YtacccpkmgkojiaaGreatDoorRR
namespace Go.Proofs.YtacccpkmgkojiaaGreatDoorRR
set_option linter.unusedVariables false
set_option linter.unusedSimpArgs false
set_option maxRecDepth 20000
set_option maxHeartbeats 8000000
open Go.RowKit Go.Maps
def wait36 (cf:Cf) (y:Ly):List Value:=(List.range 36).map fun i=>qcV cf y (i/3) (i % 3)
theorem Hp.range36 {B:Nat} {y:Ly} {d:Dy} {cf:Cf} {h:Hs} {W:World} (hp:Hp B y d cf h W):W.rangeAt y.P 79 (wait36 cf y):=by
 intro j v hv;have hj:j < 36:=by have:=(List.getElem?_eq_some_iff.1 hv).1;simpa [wait36] using this
 rw [hp.cell (79+j) (by omega) _ rfl];unfold boxF;rw [if_neg (by omega),if_neg (by omega),if_pos (by omega),show 79+j - 79=j by omega];rw [←hv];simp [wait36,hj]
theorem ix76 (cf:Cf) (y:Ly) (k:Nat) (hk:k < 12) (w:World):(Instr.index 89 (.agg (wait36 cf y).toArray) (Vi (k:Nat))).run Tryz.prog w=.ok (.agg #[Vp (y.qm k) 0,Vp (y.qg k) 0,v3of cf.mix (y.qm k) (y.qg k)]) w:=by
 rcases (show k=0∨k=1∨k=2∨k=3∨k=4∨k=5∨k=6∨k=7∨k=8∨k=9∨k=10∨k=11 by omega) with rfl|rfl|rfl|rfl|rfl|rfl|rfl|rfl|rfl|rfl|rfl|rfl <;> kernel_rfl
theorem mB_cells {Y:Nat} {V:World} {a0 a1 a2 a3 a4 a5 a6 a7:Value} (h:V.heap[Y]?=some (.cells #[a0,a1,a2,a3,a4,a5,a6,a7] 37 (0,0))):V.cell? ⟨Y,0,none⟩=some a0∧V.cell? ⟨Y,1,none⟩=some a1∧V.cell? ⟨Y,2,none⟩=some a2∧V.cell? ⟨Y,3,none⟩=some a3∧V.cell? ⟨Y,4,none⟩=some a4∧V.cell? ⟨Y,5,none⟩=some a5∧V.cell? ⟨Y,6,none⟩=some a6∧V.cell? ⟨Y,7,none⟩=some a7∧∀ j,V.frozen? ⟨Y,j,none⟩=false:=by
 refine⟨?_,?_,?_,?_,?_,?_,?_,?_,fun j=>by simp [World.frozen?,h]⟩ <;> (rw [cell_of_row _ _ _ _ _ _ h];rfl)
structure Mt9 (B:Nat) (y:Ly) (d:Dy) (cf:Cf) (h:Hs) (W:World) (X Y:Nat) (vo vs vw vr vl ve:Value) (ws:List (Nat×Nat)) (rs:List Rg9) (V:World):Prop where
 bel:Below W.heap.size W V
 xb:V.heap[X]?=some (.cells #[Vi 0,Vn,Vn,Vn,Vn,Vn,Vn,Vi 0] 37 (0,0))
 yb:V.heap[Y]?=some (.cells #[Vi (cntM h.m 283),vo,vs,vw,vr,vl,ve,Vi (h.used:Nat)] 37 (0,0))
 o:V.ownsRow W.heap.size 3 1 vo (opensM h.m 283).length (Ns .i64 (opensM h.m 283))
 s:V.ownsRow W.heap.size 44 5 vs (I1 h 12).length (flatI h (I1 h 12))
 w:Wt9 cf h W.heap.size vo ws vw V
 r:V.ownsRow W.heap.size 67 5 vr rs.length (flatT rs)
 rp:rs.Perm h.rg∧rs.Pairwise (fun a b=>a.base≤b.base)
 bx:W.heap.size≤X
 by_:W.heap.size≤Y
 ne:X≠Y
theorem Mt9.below {B:Nat} {y:Ly} {d:Dy} {cf:Cf} {h:Hs} {W:World} {X Y:Nat} {vo vs vw vr vl ve:Value} {ws:List (Nat×Nat)} {rs:List Rg9} {V V':World} (m:Mt9 B y d cf h W X Y vo vs vw vr vl ve ws rs V) (b:Below V.heap.size V V'):Mt9 B y d cf h W X Y vo vs vw vr vl ve ws rs V' :=
 ⟨m.bel.trans (b.mono m.bel.size),below_at m.xb b,below_at m.yb b,own_bel m.o b,own_bel m.s b,m.w.below b,own_bel m.r b,m.rp,m.bx,m.by_,m.ne⟩
theorem zc3 {Z:Nat} {V:World} {a b c:Value} (h:V.heap[Z]?=some (.cells #[a,b,c] 88 (0,0))):V.cell? ⟨Z,0,none⟩=some a∧V.cell? ⟨Z,1,none⟩=some b∧V.cell? ⟨Z,2,none⟩=some c:=by
 refine⟨?_,?_,?_⟩ <;> (rw [cell_of_row _ _ _ _ _ _ h];rfl)
theorem al9 {W V:World} (b:Below W.heap.size W V) (o:Obj):∃ Y,V.heap.size=Y∧Below V.heap.size V (V.alloc o)∧(V.alloc o).heap[Y]?=some o∧W.heap.size≤Y:=⟨_,rfl,(Below.refl _ _).alloc (Nat.le_refl _) _,al_last V o,b.size⟩
theorem st9 {V:World} {Y:Nat} {c:Array Value} (h:V.heap[Y]?=some (.cells c 37 (0,0))) (cs:Array Value):V.grownBy (V.setRow Y cs) (some Y)∧Ky (· = 37) V (V.setRow Y cs)∧(V.setRow Y cs).heap[Y]?=some (.cells cs 37 (0,0)):=⟨grown_setRow V Y cs,Ky.grown h rfl (grown_setRow V Y cs),setRow_at h cs⟩
theorem Mt9.set {B:Nat} {y:Ly} {d:Dy} {cf:Cf} {h:Hs} {W:World} {X Y:Nat} {vo vs vw vr vl ve:Value} {ws:List (Nat×Nat)} {rs:List Rg9} {V:World} (m:Mt9 B y d cf h W X Y vo vs vw vr vl ve ws rs V) (i:Nat) (v vl' ve':Value) (hi:i=5∧vl'=v∧ve'=ve∨i=6∧vl'=vl∧ve'=v):Mt9 B y d cf h W X Y vo vs vw vr vl' ve' ws rs (V.setCell ⟨Y,i,none⟩ v)∧Ky (· = 37) V (V.setCell ⟨Y,i,none⟩ v):=by
 have g:=grown_set (grown_refl V Y) i v;have k:Ky (· = 37) V (V.setCell ⟨Y,i,none⟩ v):=Ky.grown m.yb rfl g;refine⟨⟨m.bel.grown g m.bel.size (fun r hr=>by simp at hr;have:=m.by_;omega),?_,?_,own_ky m.o k (by decide),own_ky m.s k (by decide),m.w.ky k (by decide) (by decide),own_ky m.r k (by decide),m.rp,m.bx,m.by_,m.ne⟩,k⟩
 ·rw [Below.heap_setCell _ _ _ _ m.ne];exact m.xb
 rcases hi with ⟨rfl,rfl,rfl⟩|⟨rfl,rfl,rfl⟩ <;> simp [World.setCell,Array.getElem?_modify,m.yb]
theorem Mt9.addW {B:Nat} {y:Ly} {d:Dy} {cf:Cf} {h:Hs} {W:World} {X Y:Nat} {vo vs vw vr vl ve:Value} {ws:List (Nat×Nat)} {rs:List Rg9} {V U:World} (m:Mt9 B y d cf h W X Y vo vs vw vr vl ve ws rs V) (b:Below V.heap.size V U) {g1 g2:Nat} (r1:RowV U g1 3 (Ns .i64 (h.mx ws.length))) (r2:RowV U g2 3 (Ns .i64 (h.ff ws.length))) (hg1:V.heap.size≤g1) (hg2:g1 < g2) (hl:ws.length≤12) :
  ∃ v' U',(Builtin.append_ #[33,33] 33 #[vw,Vl U.heap.size 1 1]).run Tryz.prog (U.alloc (.cells #[Vl g1 (h.mx ws.length).length (h.mx ws.length).length,Vl g2 (h.ff ws.length).length (h.ff ws.length).length,Vi (cf.fifo:Nat)] 69))=.ok v' U'∧v'.oneCell'=true∧U'.cell? ⟨Y,3,none⟩=some vw∧U'.frozen? ⟨Y,3,none⟩=false∧Ky (· = 69) V U'∧Ky (fun t=>t=69∨t=37) V (U'.setCell ⟨Y,3,none⟩ v')∧Mt9 B y d cf h W X Y vo vs v' vr vl ve (ws++[(g1,g2)]) rs (U'.setCell ⟨Y,3,none⟩ v'):=by
 obtain⟨v',U',e1,w2,k2,b2⟩:=m.w.add m.bel.size (fun g hg=>by obtain ⟨_,c,hc⟩:=own_lt m.o hg;exact lt_blk hc) b r1 r2 hg1 hg2 hl;have y2:=k2.cells _ _ _ _ m.yb (by decide);have x2:=k2.cells _ _ _ _ m.xb (by decide);have g:=grown_set (grown_refl U' Y) 3 v';have k:Ky (· = 37) U' (U'.setCell ⟨Y,3,none⟩ v'):=Ky.grown y2 rfl g;obtain⟨va,vn,vc,rfl⟩:=own_sl4 w2.row;refine⟨_,U',e1,rfl,(mB_cells y2).2.2.2.1,(mB_cells y2).2.2.2.2.2.2.2.2 3,k2,(k2.more (fun t e=>.inl e)).trans (k.more (fun t e=>.inr e)),⟨(m.bel.trans b2).grown g (Nat.le_trans m.bel.size k2.size) (fun r hr=>by simp at hr;have:=m.by_;omega),?_,?_,own_ky (own_ky m.o k2 (by decide)) k (by decide),own_ky (own_ky m.s k2 (by decide)) k (by decide),w2.ky k (by decide) (by decide),own_ky (own_ky m.r k2 (by decide)) k (by decide),m.rp,m.bx,m.by_,m.ne⟩⟩
 ·rw [Below.heap_setCell _ _ _ _ m.ne];exact x2
 simp [World.setCell,Array.getElem?_modify,y2]
theorem im_told (SO:SortsR) (SC:SortedC):ToldC Told9:=by
 intro B y d cf h k an W hp gd ok;have HPB:=hid (fun V (hV:Below W.heap.size W V)=>hp.below hV);have HOK:=hid ok;have hrl:h.rg.length≤400∧h.rel.length≤400∧h.row.length≤400:=by
  have h1:=ok.few.rg;have h2:=ok.few.rel;have h3:=ok.few.row;have h4:=ok.kk;omega
 have bA:Below W.heap.size W (W.alloc (.cells #[Vi 0,Vn,Vn,Vn,Vn,Vn,Vn,Vi 0] 37)):=(Below.refl _ _).alloc (Nat.le_refl _) _;have XA:=hid (al_last W (.cells #[Vi 0,Vn,Vn,Vn,Vn,Vn,Vn,Vi 0] 37));have ST:=hid (im_spaceTold y.S y.M (cf.bud:Nat) d.f h.m _ (hp.below bA).sp (hp.below bA).pg ok.inv.out);have c6:=(hp.below bA).cell 6 (by omega) (Vp y.S 0) rfl;have HCN:=hid (show (heldN d.f 0 4096:Nat)=cntM h.m 283 by
  rw [cntM_held (fun k=>hp.pg.none_iff k) 4096];exact cntM_out (n:=283) ok.inv.out 3813)
 have TS:=hid (fun V (hV:Below W.heap.size W V)=>im_toldSlots B y d cf h V (hp.below hV));have TR:=hid (fun V (hV:Below W.heap.size W V)=>im_toldRanges SO B y d cf h V (hp.below hV) ok.inv hrl.1);have HSC:=hid SC;have BA:=hid bA;clear hp gd ok bA SO SC;go_enter Tryz.func39,Tryz.ntmps39;go_wp2_with fail;generalize W.alloc _=V0 at *;obtain⟨X,hX⟩:∃ X,X=W.heap.size:=⟨_,rfl⟩;rw [←hX] at XA ⊢;have HX:=hid (show W.heap.size≤X by omega);clear hX;refine (ST.out).mono ?_;rintro e V1 ⟨vo,rfl,ho,b1⟩;obtain⟨oa,on,oc,rfl⟩:=own_sl4 ho;have X1:=hid (below_at XA.out b1);have O1:=hid (own_mono9 ho BA.out.size);have B1:=hid (BA.out.trans (b1.mono BA.out.size));rw [HCN.out];have HXV:=hid (show X < V1.heap.size from lt_blk X1.out);clear ho b1 ST c6 XA BA HCN;go_upto_region 2 with fail
 have c118:V1.drew.cell? ⟨y.P,118,none⟩=some (Vi (h.used:Nat)):=(HPB.out _ B1.out.drew).cell 118 (by omega) _ rfl;have B1D:=hid (show Below W.heap.size W V1.drew from B1.out.drew);have X1D:=hid (below_at X1.out (Below.refl _ V1).drew);have O1D:=hid (own_bel O1.out (Below.refl _ V1).drew)
 go_cut [5] (fun s5 w'=>∃ (Y:Nat) (vs vr:Value) (rs:List Rg9),s5=Vp Y 0∧Hid (Mt9 B y d cf h W X Y (.slice oa on oc) vs (Vn) vr (Vn) (Vn) [] rs w'))
 case first =>
  refine wp_region_held (S:=fun W9=>W9.cell? ⟨y.P,118,none⟩=some (Vi (h.used:Nat))) (by kernel_rfl) ?_;simp only [List.size_toArray,List.length_cons,List.length_nil,Nat.reduceAdd,Array.replicate_succ,Array.replicate_zero,List.push_toArray,List.nil_append,List.cons_append];generalize hV1:V1.drew=V2 at c118 B1D X1D O1D;have hV1':({ heap:=V1.heap,tape:=V1.tape,drawn:=V1.drawn+1,os:=V1.os,output:=V1.output } : World)=V2:=hV1;rw [hV1'];clear hV1 hV1' X1 O1 B1;have BC:=B1D;have XC:=X1D;have OC:=O1D;have hS:=c118
  iterate 3 (refine py hS ?_;simp only [f0,f1,Nat.reduceAdd,lz,l0,ls])
  refine pk 4 20 (Vp y.P 0) hS ?_;simp only [lz,l0,ls];refine pk 6 22 (Vp y.P 0) hS ?_;simp only [lz,l0,ls];refine pk 7 23 (Vp y.P 0) hS ?_;simp only [lz,l0,ls];refine pk 8 24 (Vp y.P 118) hS ?_;simp only [lz,l0,ls];refine pz 9 25 (Vi (h.used:Nat)) hS ?_;simp only [lz,l0,ls];refine wpAnyH_all (rs:=[3,11]) (by kernel_rfl) (by simp) (fun i9 hi9=>?_)
  rcases (by simpa using hi9:i9=3∨i9=11) with hi9|hi9
  ·subst hi9;refine wpOp_do rfl (by kernel_rfl) (fun K' hK=>?_);go_simp;refine (TS.out _ BC.out).mono ?_;rintro e U1 ⟨vs,rfl,hs,bU⟩;obtain⟨sa,sn,sc,rfl⟩:=own_sl4 hs;have hS1:=below_cell bU hS;refine hK.out _ _ ⟨hS1,?_⟩;clear hS;have hS:=hS1;have XC:=hid (below_at XC.out bU);have OC:=hid (own_bel OC.out bU)
   try have SC:=hid (own_bel SC.out bU)
   try have RC:=hid (own_bel RC.out bU)
   try have YC:=hid (below_at YC.out bU)
   have SC:=hid (own_mono9 hs BC.out.size);have BC:=hid (BC.out.trans (bU.mono BC.out.size));clear hS1 hs bU;clear hK K';refine wpAnyH_all (rs:=[5,11]) (by kernel_rfl) (by simp) (fun i9 hi9=>?_)
   rcases (by simpa using hi9:i9=5∨i9=11) with hi9|hi9
   ·subst hi9;refine wpOp_do rfl (by kernel_rfl) (fun K' hK=>?_);go_simp;refine (TR.out _ BC.out).mono ?_;rintro e U2 ⟨vr,rs,rfl,hp5,hs5,hr,bU⟩;obtain⟨ra,rn,rc,rfl⟩:=own_sl4 hr;have hS1:=below_cell bU hS;refine hK.out _ _ ⟨hS1,?_⟩;clear hS;have hS:=hS1;have XC:=hid (below_at XC.out bU);have OC:=hid (own_bel OC.out bU)
    try have SC:=hid (own_bel SC.out bU)
    try have RC:=hid (own_bel RC.out bU)
    try have YC:=hid (below_at YC.out bU)
    have RC:=hid (own_mono9 hr BC.out.size);have BC:=hid (BC.out.trans (bU.mono BC.out.size));have RP:=hid (And.intro hp5 hs5);clear hS1 hp5 hs5 hr bU;clear hK K';refine pz 10 26 (.agg #[Vi (cntM h.m 283),.slice oa on oc,.slice sa sn sc,Vn,.slice ra rn rc,Vn,Vn,Vi (h.used:Nat)]) hS ?_;simp only [lz,l0,ls];refine po 11 fun K' hK=>?_
    go_simp;obtain⟨Y,hY,bU,hy9,hyb⟩:=al9 BC.out (.cells #[Vi 0,Vn,Vn,Vn,Vn,Vn,Vn,Vi 0] 37);rw [hY];have HNE:=hid (show X≠Y by have:=lt_blk XC.out;omega);have HY:=hid hyb;have hS1:=below_cell bU hS;refine hK.out _ _ ⟨hS1,?_⟩;clear hS;have hS:=hS1;have XC:=hid (below_at XC.out bU);have OC:=hid (own_bel OC.out bU)
    try have SC:=hid (own_bel SC.out bU)
    try have RC:=hid (own_bel RC.out bU)
    try have YC:=hid (below_at YC.out bU)
    have YC:=hid hy9;have BC:=hid (BC.out.trans (bU.mono BC.out.size));clear hS1 bU hy9 hyb hY;clear hK K';refine po 12 fun K' hK=>?_
    refine wp_store_row 37 (.tmp 5) (.tmp 26) (by kernel_rfl) Y #[Vi (cntM h.m 283),.slice oa on oc,.slice sa sn sc,Vn,.slice ra rn rc,Vn,Vn,Vi (h.used:Nat)] (by kernel_rfl) (by kernel_rfl) 37 _ YC.out (by kernel_rfl) rfl (by simp [Value.oneCell']) ?_;obtain⟨g9,k9,y9⟩:=st9 YC.out #[Vi (cntM h.m 283),.slice oa on oc,.slice sa sn sc,Vn,.slice ra rn rc,Vn,Vn,Vi (h.used:Nat)];have M0:=hid (Mt9.mk (B:=B) (y:=y) (d:=d) (cf:=cf) (h:=h) (W:=W) (X:=X) (Y:=Y) (vo:=.slice oa on oc) (vs:=.slice sa sn sc) (vw:=Vn) (vr:=.slice ra rn rc) (vl:=Vn) (ve:=Vn) (ws:=[]) (rs:=rs) (BC.out.grown g9 BC.out.size (fun r hr=>by simp at hr;have:=HY.out;omega)) (by rw [g9.block X (lt_blk XC.out) (by simpa using HNE.out)];exact XC.out) y9 (own_ky OC.out k9 (by decide)) (own_ky SC.out k9 (by decide)) ⟨⟨rfl,.inl ⟨rfl,rfl⟩⟩,(fun c p hp=>by simp at hp),List.Pairwise.nil,(fun g hg p hp=>by cases hp)⟩ (own_ky RC.out k9 (by decide)) RP.out HX.out HY.out HNE.out);have hS1:=(HPB.out _ M0.out.bel).cell 118 (by omega) (Vi (h.used:Nat)) rfl;refine hK.out _ _ ⟨hS1,?_⟩;clear hS hS1 g9 k9 y9 hK K';refine wpAnyH_done (by kernel_rfl) ?_ _;go_wp2_with fail
    go_meet
    case rel=>exact ⟨Y,_,_,rs,rfl,M0⟩
   subst hi9;refine wpOp_do rfl (by kernel_rfl) (fun K' hK=>?_);go_simp;obtain⟨Y,hY,bU,hy9,hyb⟩:=al9 BC.out (.cells #[Vi 0,Vn,Vn,Vn,Vn,Vn,Vn,Vi 0] 37);rw [hY];have HNE:=hid (show X≠Y by have:=lt_blk XC.out;omega);have HY:=hid hyb;have hS1:=below_cell bU hS;refine hK.out _ _ ⟨hS1,?_⟩;clear hS;have hS:=hS1;have XC:=hid (below_at XC.out bU);have OC:=hid (own_bel OC.out bU)
   try have SC:=hid (own_bel SC.out bU)
   try have RC:=hid (own_bel RC.out bU)
   try have YC:=hid (below_at YC.out bU)
   have YC:=hid hy9;have BC:=hid (BC.out.trans (bU.mono BC.out.size));clear hS1 bU hy9 hyb hY;clear hK K';refine po 5 fun K' hK=>?_
   go_simp;refine (TR.out _ BC.out).mono ?_;rintro e U2 ⟨vr,rs,rfl,hp5,hs5,hr,bU⟩;obtain⟨ra,rn,rc,rfl⟩:=own_sl4 hr;have hS1:=below_cell bU hS;refine hK.out _ _ ⟨hS1,?_⟩;clear hS;have hS:=hS1;have XC:=hid (below_at XC.out bU);have OC:=hid (own_bel OC.out bU)
   try have SC:=hid (own_bel SC.out bU)
   try have RC:=hid (own_bel RC.out bU)
   try have YC:=hid (below_at YC.out bU)
   have RC:=hid (own_mono9 hr BC.out.size);have BC:=hid (BC.out.trans (bU.mono BC.out.size));have RP:=hid (And.intro hp5 hs5);clear hS1 hp5 hs5 hr bU;clear hK K';refine pz 10 26 (.agg #[Vi (cntM h.m 283),.slice oa on oc,.slice sa sn sc,Vn,.slice ra rn rc,Vn,Vn,Vi (h.used:Nat)]) hS ?_;simp only [lz,l0,ls];refine po 12 fun K' hK=>?_
   refine wp_store_row 37 (.tmp 5) (.tmp 26) (by kernel_rfl) Y #[Vi (cntM h.m 283),.slice oa on oc,.slice sa sn sc,Vn,.slice ra rn rc,Vn,Vn,Vi (h.used:Nat)] (by kernel_rfl) (by kernel_rfl) 37 _ YC.out (by kernel_rfl) rfl (by simp [Value.oneCell']) ?_;obtain⟨g9,k9,y9⟩:=st9 YC.out #[Vi (cntM h.m 283),.slice oa on oc,.slice sa sn sc,Vn,.slice ra rn rc,Vn,Vn,Vi (h.used:Nat)];have M0:=hid (Mt9.mk (B:=B) (y:=y) (d:=d) (cf:=cf) (h:=h) (W:=W) (X:=X) (Y:=Y) (vo:=.slice oa on oc) (vs:=.slice sa sn sc) (vw:=Vn) (vr:=.slice ra rn rc) (vl:=Vn) (ve:=Vn) (ws:=[]) (rs:=rs) (BC.out.grown g9 BC.out.size (fun r hr=>by simp at hr;have:=HY.out;omega)) (by rw [g9.block X (lt_blk XC.out) (by simpa using HNE.out)];exact XC.out) y9 (own_ky OC.out k9 (by decide)) (own_ky SC.out k9 (by decide)) ⟨⟨rfl,.inl ⟨rfl,rfl⟩⟩,(fun c p hp=>by simp at hp),List.Pairwise.nil,(fun g hg p hp=>by cases hp)⟩ (own_ky RC.out k9 (by decide)) RP.out HX.out HY.out HNE.out);have hS1:=(HPB.out _ M0.out.bel).cell 118 (by omega) (Vi (h.used:Nat)) rfl;refine hK.out _ _ ⟨hS1,?_⟩;clear hS hS1 g9 k9 y9 hK K';refine wpAnyH_done (by kernel_rfl) ?_ _;go_wp2_with fail
   go_meet
   case rel=>exact ⟨Y,_,_,rs,rfl,M0⟩
  subst hi9;refine wpOp_do rfl (by kernel_rfl) (fun K' hK=>?_);go_simp;obtain⟨Y,hY,bU,hy9,hyb⟩:=al9 BC.out (.cells #[Vi 0,Vn,Vn,Vn,Vn,Vn,Vn,Vi 0] 37);rw [hY];have HNE:=hid (show X≠Y by have:=lt_blk XC.out;omega);have HY:=hid hyb;have hS1:=below_cell bU hS;refine hK.out _ _ ⟨hS1,?_⟩;clear hS;have hS:=hS1;have XC:=hid (below_at XC.out bU);have OC:=hid (own_bel OC.out bU)
  try have SC:=hid (own_bel SC.out bU)
  try have RC:=hid (own_bel RC.out bU)
  try have YC:=hid (below_at YC.out bU)
  have YC:=hid hy9;have BC:=hid (BC.out.trans (bU.mono BC.out.size));clear hS1 bU hy9 hyb hY;clear hK K';refine po 3 fun K' hK=>?_
  go_simp;refine (TS.out _ BC.out).mono ?_;rintro e U1 ⟨vs,rfl,hs,bU⟩;obtain⟨sa,sn,sc,rfl⟩:=own_sl4 hs;have hS1:=below_cell bU hS;refine hK.out _ _ ⟨hS1,?_⟩;clear hS;have hS:=hS1;have XC:=hid (below_at XC.out bU);have OC:=hid (own_bel OC.out bU)
  try have SC:=hid (own_bel SC.out bU)
  try have RC:=hid (own_bel RC.out bU)
  try have YC:=hid (below_at YC.out bU)
  have SC:=hid (own_mono9 hs BC.out.size);have BC:=hid (BC.out.trans (bU.mono BC.out.size));clear hS1 hs bU;clear hK K';refine po 5 fun K' hK=>?_
  go_simp;refine (TR.out _ BC.out).mono ?_;rintro e U2 ⟨vr,rs,rfl,hp5,hs5,hr,bU⟩;obtain⟨ra,rn,rc,rfl⟩:=own_sl4 hr;have hS1:=below_cell bU hS;refine hK.out _ _ ⟨hS1,?_⟩;clear hS;have hS:=hS1;have XC:=hid (below_at XC.out bU);have OC:=hid (own_bel OC.out bU)
  try have SC:=hid (own_bel SC.out bU)
  try have RC:=hid (own_bel RC.out bU)
  try have YC:=hid (below_at YC.out bU)
  have RC:=hid (own_mono9 hr BC.out.size);have BC:=hid (BC.out.trans (bU.mono BC.out.size));have RP:=hid (And.intro hp5 hs5);clear hS1 hp5 hs5 hr bU;clear hK K';refine pz 10 26 (.agg #[Vi (cntM h.m 283),.slice oa on oc,.slice sa sn sc,Vn,.slice ra rn rc,Vn,Vn,Vi (h.used:Nat)]) hS ?_;simp only [lz,l0,ls];refine po 12 fun K' hK=>?_
  refine wp_store_row 37 (.tmp 5) (.tmp 26) (by kernel_rfl) Y #[Vi (cntM h.m 283),.slice oa on oc,.slice sa sn sc,Vn,.slice ra rn rc,Vn,Vn,Vi (h.used:Nat)] (by kernel_rfl) (by kernel_rfl) 37 _ YC.out (by kernel_rfl) rfl (by simp [Value.oneCell']) ?_;obtain⟨g9,k9,y9⟩:=st9 YC.out #[Vi (cntM h.m 283),.slice oa on oc,.slice sa sn sc,Vn,.slice ra rn rc,Vn,Vn,Vi (h.used:Nat)];have M0:=hid (Mt9.mk (B:=B) (y:=y) (d:=d) (cf:=cf) (h:=h) (W:=W) (X:=X) (Y:=Y) (vo:=.slice oa on oc) (vs:=.slice sa sn sc) (vw:=Vn) (vr:=.slice ra rn rc) (vl:=Vn) (ve:=Vn) (ws:=[]) (rs:=rs) (BC.out.grown g9 BC.out.size (fun r hr=>by simp at hr;have:=HY.out;omega)) (by rw [g9.block X (lt_blk XC.out) (by simpa using HNE.out)];exact XC.out) y9 (own_ky OC.out k9 (by decide)) (own_ky SC.out k9 (by decide)) ⟨⟨rfl,.inl ⟨rfl,rfl⟩⟩,(fun c p hp=>by simp at hp),List.Pairwise.nil,(fun g hg p hp=>by cases hp)⟩ (own_ky RC.out k9 (by decide)) RP.out HX.out HY.out HNE.out);have hS1:=(HPB.out _ M0.out.bel).cell 118 (by omega) (Vi (h.used:Nat)) rfl;refine hK.out _ _ ⟨hS1,?_⟩;clear hS hS1 g9 k9 y9 hK K';refine wpAnyH_done (by kernel_rfl) ?_ _;go_wp2_with fail
  go_meet
  case rel=>exact ⟨Y,_,_,rs,rfl,M0⟩
 case rest =>
  obtain⟨Y,vs,vr,rs,rfl,M0⟩:=hcut;clear B1D X1D O1D c118 TS TR HX X1 O1 B1 HXV;have RG:=hid (HPB.out _ M0.out.bel).range36;have I76:=hid (fun k hk w=>ix76 cf y k hk w);go_wp2_with (refine wpList_load_mid rfl 89 _ rfl _ _ rfl _ _ RG.out Tryz.underlying89 rfl (by kernel_rfl) ?_);generalize hA36:(wait36 cf y).toArray=A36 at *;clear hA36 RG;go_loopw [31] (fun i wr=>∃ (c:Nat) (vw:Value) (ws:List (Nat×Nat)),c≤12∧i=Vi c∧Hid (ws.length=c)∧Hid (Mt9 B y d cf h W X Y (.slice oa on oc) vs vw vr (Vn) (Vn) ws rs wr)) (fun i _=>12 - (intOf i).toNat)
  case atStart=>exact ⟨0,_,[],by omega,rfl,hid rfl,M0⟩
  case round =>
   clear M0;obtain⟨c,vw,ws,hc,rfl,HL,HM⟩:=hrel
   by_cases hlt:c < 12
   ·have hcl:(c:Int) < 12:=by omega
    obtain⟨wa,wn,wc,rfl⟩:=own_sl4 HM.out.w.row;have i76:=fun w=>I76.out c hlt w
    obtain⟨tt,pp,hv3⟩:∃ (tt:Nat) (pp:Nat),v3of cf.mix (y.qm c) (y.qg c)=.iface tt (Vp pp 0):=by unfold v3of;split <;> exact ⟨_,_,rfl⟩
    rw [hv3] at i76;have QT:=hid (fun V (hV:Below W.heap.size W V)=>told_any (y.qm c) (y.qr c) (y.qg c) (y.qq c) cf.fifo _ tt ⟨pp,0,none⟩ (h.mx c) (h.ff c) V rfl ((HPB.out V hV).wt c hlt) (by rw [HOK.out.inv.mxl c hlt];have:=HOK.out.dok.mix;omega) (by have:=HOK.out.dok.fifo;omega));have bA:Below wr.heap.size wr (wr.alloc (.cells #[Vp (y.qm c) 0,Vp (y.qg c) 0,.iface tt (Vp pp 0)] 88)):=(Below.refl _ _).alloc (Nat.le_refl _) _;have M1:=hid (HM.out.below bA);have Z1:=hid (al_last wr (.cells #[Vp (y.qm c) 0,Vp (y.qg c) 0,.iface tt (Vp pp 0)] 88));clear HM bA hv3;go_upto_region 6 with fail
    generalize wr.alloc _=V at M1 Z1 ⊢;obtain⟨Z,hZ⟩:∃ Z,wr.heap.size=Z:=⟨_,rfl⟩;rw [hZ] at Z1 ⊢;clear hZ i76;have MD:=hid (M1.out.below (Below.refl _ V).drew);have ZD:=hid (below_at Z1.out (Below.refl _ V).drew);have cA:=(mB_cells MD.out.yb).2.2.2.1;refine wp_region_held (S:=fun W9=>W9.cell? ⟨Z,0,none⟩=some (Vp (y.qm c) 0)∧W9.cell? ⟨Z,1,none⟩=some (Vp (y.qg c) 0)∧W9.cell? ⟨Z,2,none⟩=some (.iface tt (Vp pp 0))) (by kernel_rfl) ?_;simp only [List.size_toArray,List.length_cons,List.length_nil,Nat.reduceAdd,Array.replicate_succ,Array.replicate_zero,List.push_toArray,List.nil_append,List.cons_append];generalize hV1:V.drew=V2 at MD ZD cA;have hV1':({ heap:=V.heap,tape:=V.tape,drawn:=V.drawn+1,os:=V.os,output:=V.output } : World)=V2:=hV1;rw [hV1'];clear hV1 hV1' M1 Z1;have hS:=zc3 ZD.out;refine py hS ?_;simp only [f0,f1,Nat.reduceAdd,lz,l0,ls];refine pz 2 36 (.agg #[Vp (y.qm c) 0,Vp (y.qg c) 0,.iface tt (Vp pp 0)]) hS ?_;simp only [lz,l0,ls];refine wpAnyH_all (rs:=[1,3]) (by kernel_rfl) (by simp) (fun i9 hi9=>?_)
    rcases (by simpa using hi9:i9=1∨i9=3) with hi9|hi9
    ·subst hi9;refine wpOp_do rfl (by kernel_rfl) (fun K' hK=>?_);go_simp;refine hK.out _ _ ⟨hS,?_⟩;clear hK K';refine po 3 fun K' hK=>?_
     go_simp;refine (QT.out _ MD.out.bel).mono ?_;rintro e U1 ⟨g1,g2,rfl,r1,r2,hg1,hg2,bU⟩;unfold wv;obtain⟨v9,U2,happ,hone,c39,f39,k9,k99,m9⟩:=MD.out.addW bU (by rw [HL.out];exact r1) (by rw [HL.out];exact r2) hg1 hg2 (by rw [HL.out];omega);rw [HL.out] at happ;obtain⟨xa,xn,xc,rfl⟩:=own_sl4 m9.w.row;have cB:=below_cell bU cA;have bA:Below U1.heap.size U1 (U1.alloc (.cells #[Vl g1 (h.mx c).length (h.mx c).length,Vl g2 (h.ff c).length (h.ff c).length,Vi (cf.fifo:Nat)] 69)):=(Below.refl _ _).alloc (Nat.le_refl _) _;have cC:=below_cell bA cB;have ZU:=hid (zc3 (below_at ZD.out bU));have ZA:=hid (zc3 (below_at (below_at ZD.out bU) bA));have Z9:=hid (zc3 (k9.cells _ _ _ _ ZD.out (by decide)));have Z99:=hid (zc3 (k99.cells _ _ _ _ ZD.out (by decide)));have M9:=hid m9;refine hK.out _ _ ⟨ZU.out,?_⟩;clear hS r1 r2 hg1 hg2 bU bA hone k9 k99 m9;have hS:=ZU.out;clear hK K';refine po 4 fun K' hK=>?_
     go_simp;refine hK.out _ _ ⟨ZA.out,?_⟩;clear hS;have hS:=ZA.out;clear hK K';refine po 5 fun K' hK=>?_
     refine wpo_append 33 (.tmp 35) (.tmp 38) (v:=.slice wa wn wc) (v2:=Vl U1.heap.size 1 1) (by kernel_rfl) (by kernel_rfl) (by kernel_rfl) (by kernel_rfl) happ ?_;refine hK.out _ _ ⟨Z9.out,?_⟩;clear hS;have hS:=Z9.out;clear hK K';refine pk 6 40 (Vp Y 3) hS ?_;simp only [lz,l0,ls];refine po 7 fun K' hK=>?_
     go_simp;refine hK.out _ _ ⟨Z99.out,?_⟩;clear hS;clear hK K';refine wpAnyH_done (by kernel_rfl) ?_ _;go_wp2;go_roundw
     case rel=>exact ⟨c+1,_,ws++[(g1,g2)],by omega,by go_num,hid (by rw [List.length_append,HL.out];rfl),M9⟩
     case measure=>simp [intOf];omega
    subst hi9;refine wpOp_do rfl (by kernel_rfl) (fun K' hK=>?_);go_simp;refine (QT.out _ MD.out.bel).mono ?_;rintro e U1 ⟨g1,g2,rfl,r1,r2,hg1,hg2,bU⟩;unfold wv;obtain⟨v9,U2,happ,hone,c39,f39,k9,k99,m9⟩:=MD.out.addW bU (by rw [HL.out];exact r1) (by rw [HL.out];exact r2) hg1 hg2 (by rw [HL.out];omega);rw [HL.out] at happ;obtain⟨xa,xn,xc,rfl⟩:=own_sl4 m9.w.row;have cB:=below_cell bU cA;have bA:Below U1.heap.size U1 (U1.alloc (.cells #[Vl g1 (h.mx c).length (h.mx c).length,Vl g2 (h.ff c).length (h.ff c).length,Vi (cf.fifo:Nat)] 69)):=(Below.refl _ _).alloc (Nat.le_refl _) _;have cC:=below_cell bA cB;have ZU:=hid (zc3 (below_at ZD.out bU));have ZA:=hid (zc3 (below_at (below_at ZD.out bU) bA));have Z9:=hid (zc3 (k9.cells _ _ _ _ ZD.out (by decide)));have Z99:=hid (zc3 (k99.cells _ _ _ _ ZD.out (by decide)));have M9:=hid m9;refine hK.out _ _ ⟨ZU.out,?_⟩;clear hS r1 r2 hg1 hg2 bU bA hone k9 k99 m9;have hS:=ZU.out;clear hK K';refine wpAnyH_all (rs:=[1,4]) (by kernel_rfl) (by simp) (fun i9 hi9=>?_)
    rcases (by simpa using hi9:i9=1∨i9=4) with hi9|hi9
    ·subst hi9;refine wpOp_do rfl (by kernel_rfl) (fun K' hK=>?_);go_simp;refine hK.out _ _ ⟨hS,?_⟩;clear hK K';refine po 4 fun K' hK=>?_
     go_simp;refine hK.out _ _ ⟨ZA.out,?_⟩;clear hS;have hS:=ZA.out;clear hK K';refine po 5 fun K' hK=>?_
     refine wpo_append 33 (.tmp 35) (.tmp 38) (v:=.slice wa wn wc) (v2:=Vl U1.heap.size 1 1) (by kernel_rfl) (by kernel_rfl) (by kernel_rfl) (by kernel_rfl) happ ?_;refine hK.out _ _ ⟨Z9.out,?_⟩;clear hS;have hS:=Z9.out;clear hK K';refine pk 6 40 (Vp Y 3) hS ?_;simp only [lz,l0,ls];refine po 7 fun K' hK=>?_
     go_simp;refine hK.out _ _ ⟨Z99.out,?_⟩;clear hS;clear hK K';refine wpAnyH_done (by kernel_rfl) ?_ _;go_wp2;go_roundw
     case rel=>exact ⟨c+1,_,ws++[(g1,g2)],by omega,by go_num,hid (by rw [List.length_append,HL.out];rfl),M9⟩
     case measure=>simp [intOf];omega
    subst hi9;refine wpOp_do rfl (by kernel_rfl) (fun K' hK=>?_);go_simp;refine hK.out _ _ ⟨ZA.out,?_⟩;clear hS;have hS:=ZA.out;clear hK K';refine po 1 fun K' hK=>?_
    go_simp;refine hK.out _ _ ⟨hS,?_⟩;clear hK K';refine po 5 fun K' hK=>?_
    refine wpo_append 33 (.tmp 35) (.tmp 38) (v:=.slice wa wn wc) (v2:=Vl U1.heap.size 1 1) (by kernel_rfl) (by kernel_rfl) (by kernel_rfl) (by kernel_rfl) happ ?_;refine hK.out _ _ ⟨Z9.out,?_⟩;clear hS;have hS:=Z9.out;clear hK K';refine pk 6 40 (Vp Y 3) hS ?_;simp only [lz,l0,ls];refine po 7 fun K' hK=>?_
    go_simp;refine hK.out _ _ ⟨Z99.out,?_⟩;clear hS;clear hK K';refine wpAnyH_done (by kernel_rfl) ?_ _;go_wp2;go_roundw
    case rel=>exact ⟨c+1,_,ws++[(g1,g2)],by omega,by go_num,hid (by rw [List.length_append,HL.out];rfl),M9⟩
    case measure=>simp [intOf];omega
   obtain rfl:c=12:=by omega
   obtain⟨qa,qc,hro⟩:=um_slice0 (HPB.out wr HM.out.bel).ro;obtain⟨ea,en,ec,hrl9⟩:=own_sl4 (HPB.out wr HM.out.bel).rl;have c116:wr.cell? ⟨y.P,116,none⟩=some (.slice qa h.row.length qc):=by rw [←hro];exact (HPB.out wr HM.out.bel).cell 116 (by omega) _ rfl
   have CL:=hid (im_clone B d.ro h.row wr (HPB.out wr HM.out.bel).ro (by omega));rw [hro] at CL;have HRO:=hid hro;have HRL:=hid hrl9;clear hro hrl9 hlt hc I76;go_wp2_with fail;refine (CL.out).mono ?_;rintro e U1 ⟨vl,rfl,hl,b1⟩;obtain⟨la,ln,lc,rfl⟩:=own_sl4 hl;have M1:=hid (HM.out.below b1);have L1:=hid (own_mono9 hl HM.out.bel.size);have c5:=(mB_cells M1.out.yb).2.2.2.2.2.1;have f5:=(mB_cells M1.out.yb).2.2.2.2.2.2.2.2 5;obtain⟨m2,k2⟩:=M1.out.set 5 (.slice la ln lc) (.slice la ln lc) (Vn) (.inl ⟨rfl,rfl,rfl⟩);have M2:=hid m2;have L2:=hid (own_ky L1.out k2 (by decide));have c117:(U1.setCell ⟨Y,5,none⟩ (.slice la ln lc)).cell? ⟨y.P,117,none⟩=some (.slice ea en ec):=by rw [←HRL.out];exact (HPB.out _ m2.bel).cell 117 (by omega) _ rfl
   clear hl b1 m2 k2 HM M1 L1 CL c116;go_wp2_with fail;generalize U1.setCell ⟨Y,5,none⟩ (.slice la ln lc)=U2 at *;refine (im_values ea en ec U2).mono ?_;rintro e U3 ⟨rfl,hU3⟩;have b3:Below U2.heap.size U2 U3:=by rw [hU3];exact (Below.refl _ _).alloc (Nat.le_refl _) _
   have z3:U3.heap[U2.heap.size]?=some (.cells #[.slice ea en ec] 35 (0,0)):=by rw [hU3];exact al_last _ _
   have M3:=hid (M2.out.below b3);have L3:=hid (own_bel L2.out b3);have SV:=hid (HSC.out U2.heap.size ea en ec h.rel U3 B z3 (by rw [←HRL.out];exact (HPB.out U3 M3.out.bel).rl) (by omega));clear hU3 b3 z3 M2 L2 c117 c5 f5;go_wp2_with fail;refine (SV.out).mono ?_;rintro e U4 ⟨ve,es,rfl,hp4,hs4,he4,b4⟩;obtain⟨xa,xn,xc,rfl⟩:=own_sl4 he4;have M4:=hid (M3.out.below b4);have L4:=hid (own_bel L3.out b4);have HNE:=hid (show ∀ g,(Value.slice la ln lc).ownBlock=some g→(Value.slice xa xn xc).ownBlock≠some g from fun g hg he=>by
    obtain⟨_,c9,hc9⟩:=own_lt L3.out hg;have h1:=lt_blk hc9;have h2:=(own_lt he4 he).1;omega)
   have E4:=hid (And.intro hp4 (And.intro hs4 (own_mono9 he4 M3.out.bel.size)));have c6:=(mB_cells M4.out.yb).2.2.2.2.2.2.1;have f6:=(mB_cells M4.out.yb).2.2.2.2.2.2.2.2 6;obtain⟨m5,k5⟩:=M4.out.set 6 (.slice xa xn xc) (.slice la ln lc) (.slice xa xn xc) (.inr ⟨rfl,rfl,rfl⟩);have M5:=hid m5;have L5:=hid (own_ky L4.out k5 (by decide));have E5:=hid (own_ky E4.out.2.2 k5 (by decide));obtain⟨u0,u1,u2,u3,u4,u5,u6,u7,_⟩:=mB_cells m5.yb;obtain⟨wa,wn,wc9,hvw⟩:=own_sl4 m5.w.row;obtain⟨sa,sn,sc,hvs⟩:=own_sl4 m5.s;obtain⟨ra,rn,rc,hvr⟩:=own_sl4 m5.r;subst hvw hvs hvr;clear hp4 hs4 he4 b4 m5 k5 M3 L3 M4 L4 SV;go_wp2_with (refine wpList_store_row rfl 37 _ _ rfl _ _ rfl rfl 37 _ M5.out.xb (by kernel_rfl) rfl (by simp [Value.oneCell']) ?_);refine bodyPost_ret (results_cell_row (by rfl) _ _ X 37 _ (0,0) _ (by rfl) (setRow_at M5.out.xb _) Tryz.underlying37 rfl (by kernel_rfl)) (by rfl) ?_;have kX:Ky (· = 37) _ _:=Ky.grown M5.out.xb rfl (grown_setRow (U4.setCell ⟨Y,6,none⟩ (.slice xa xn xc)) X #[Vi (cntM h.m 283),.slice oa on oc,.slice sa sn sc,.slice wa wn wc9,.slice ra rn rc,.slice la ln lc,.slice xa xn xc,Vi (h.used:Nat)]);refine⟨_,_,_,_,_,_,_,_,rfl,fun v hv=>?_,⟨_,_,_,_,_,_,ws,rs,es,rfl,own_ky M5.out.o kX (by decide),own_ky M5.out.s kX (by decide),⟨HL.out,M5.out.w.ky kX (by decide) (by decide)⟩,⟨M5.out.rp.1,M5.out.rp.2,own_ky M5.out.r kX (by decide)⟩,own_ky L5.out kX (by decide),⟨E4.out.1,E4.out.2.1,own_ky E5.out kX (by decide)⟩,HNE.out⟩,M5.out.bel.grown (grown_setRow _ _ _) M5.out.bel.size (fun r hr=>by simp at hr;have:=M5.out.bx;omega)⟩;simp only [List.mem_cons,List.not_mem_nil,or_false] at hv
   rcases hv with rfl|rfl|rfl|rfl|rfl|rfl|rfl|rfl <;> rfl
end Go.Proofs.YtacccpkmgkojiaaGreatDoorRR
namespace Go.Proofs
open Go.Shelf Go.RowKit Go.Lib Go.Sort
shelf_lay_g SlLaysF0.n6 Slsf 6 at Tryz 108 as Tryz.sortR
end Go.Proofs
namespace Go.Proofs.YtacccpkmgkojiaaGreatDoorRR
open Go.Shelf Go.RowKit Go.Lib Go.Sort
set_option linter.unusedVariables false
set_option linter.unusedSimpArgs false
set_option maxRecDepth 20000

instance : Inhabited Rg9 := ⟨⟨0, 0, 0, 0, 0⟩⟩
def cmpR (x y : Rg9) : Int := Lib.compareInt (x.base : Nat) (y.base : Nat)
theorem ltR (x y : Rg9) : ltOf cmpR x y = decide (x.base < y.base) := by
  unfold ltOf cmpR Lib.compareInt
  by_cases h1 : x.base < y.base
  · simp [h1]
  · by_cases h2 : y.base < x.base <;> simp [h1, h2]
theorem swoR : SWO (ltOf cmpR) where
  irrefl x := by rw [ltR]; simp
  trans x y z h1 h2 := by rw [ltR] at *; simp at *; omega
  ntrans x y z h1 h2 := by rw [ltR] at *; simp at *; omega
set_option maxHeartbeats 1000000 in
set_option maxHeartbeats 1000000 in
theorem im_compare (x y : Nat) (W : World) : Calls Tryz.prog 110 #[.int .u64 (x : Nat), .int .u64 (y : Nat)] W fun e W' => e = .returned (.int .i64 (Lib.compareInt (x : Nat) (y : Nat))) ∧ W' = W := by
  have HN := hid im_isNaN
  unfold Lib.compareInt
  by_cases h1 : (x : Int) < (y : Int)
  · rw [if_pos h1]
    go_enter Tryz.func110, Tryz.ntmps110
    go_wp2_with fail
    refine (HN.out _ _).mono ?_
    rintro e W' ⟨rfl, rfl⟩
    go_wp2_with fail
    refine (HN.out _ _).mono ?_
    rintro e W' ⟨rfl, rfl⟩
    go_wp2
    go_ret
    exact ⟨rfl, rfl⟩
  · rw [if_neg h1]
    have d1 : decide ((x : Int) < (y : Int)) = false := decide_eq_false h1
    by_cases h2 : (y : Int) < (x : Int)
    · rw [if_pos h2]
      go_enter Tryz.func110, Tryz.ntmps110
      go_wp2_with fail
      refine (HN.out _ _).mono ?_
      rintro e W' ⟨rfl, rfl⟩
      go_wp2_with fail
      refine (HN.out _ _).mono ?_
      rintro e W' ⟨rfl, rfl⟩
      go_wp2
      go_ret
      exact ⟨rfl, rfl⟩
    · rw [if_neg h2]
      have d2 : decide ((y : Int) < (x : Int)) = false := decide_eq_false h2
      go_enter Tryz.func110, Tryz.ntmps110
      go_wp2_with fail
      refine (HN.out _ _).mono ?_
      rintro e W' ⟨rfl, rfl⟩
      go_wp2_with fail
      refine (HN.out _ _).mono ?_
      rintro e W' ⟨rfl, rfl⟩
      go_wp2
      go_ret
      exact ⟨rfl, rfl⟩
set_option maxHeartbeats 1000000 in
theorem im_cmpR (x y : Rg9) (W : World) : Calls Tryz.prog 109 #[.agg (tC x).toArray, .agg (tC y).toArray] W fun e w' => e = .returned (.int .i64 (cmpR x y)) ∧ ∃ q os', w' = grow (W.drewN q) os' := by
  have CM := hid (fun V => im_compare x.base y.base V)
  unfold cmpR
  generalize Lib.compareInt (x.base : Nat) (y.base : Nat) = r at *
  unfold tC
  go_enter Tryz.func109, Tryz.ntmps109
  go_wp2_with fail
  refine (CM.out _).mono ?_
  rintro e W' ⟨rfl, rfl⟩
  go_wp2
  go_ret
  exact ⟨rfl, 0, _, by rw [alloc_eq_grow, alloc_eq_grow, grow_grow]; rfl⟩
theorem cmpLaysR (blk off size : Nat) (w : World) : CmpLays Tryz.prog 109 #[] tC 5 cmpR blk off size w :=
  fun _ _ _ _ x y => im_cmpR x y _
theorem holdsR {w : World} {g : Nat} {cur : Array Value} {rs : List Rg9} (hb : w.heap[g]? = some (.cells cur 67 (0, 0))) (ht : cur.toList.take (rs.length * 5) = flatT rs) : HoldsK tC 5 w g 0 rs.toArray := by
  intro j hj
  have hj' : j < rs.length * 5 := by simpa using hj
  refine ⟨?_, by simp [World.frozen?, hb]⟩
  have hq : j / 5 < rs.length := by omega
  have h1 : (flatT rs)[j / 5 * 5 + j % 5]? = (tC rs[j / 5])[j % 5]? := flat_at tC 5 (fun _ => rfl) rs (j / 5) _ (List.getElem?_eq_getElem hq) (j % 5) (by omega)
  rw [show j / 5 * 5 + j % 5 = j by omega, ← ht, List.getElem?_take_of_lt hj', Array.getElem?_toList] at h1
  rw [Nat.zero_add, cell_of_row _ _ _ _ _ _ hb, h1, id, get_flatK _ _ _ _ (by simpa using hj')]
  have h3 : j % 5 < (tC rs[j / 5]).length := by show j % 5 < 5; omega
  rw [List.getElem?_eq_getElem h3]
  congr 1
  rw [getElem!_pos rs.toArray (j / 5) (by simpa using hq)]
  simp [h3]
theorem heap_sortedR {w : World} {g n : Nat} {os : Array Obj} {cur : Array Value} {e : TypeId} {fr : Nat × Nat} (d : Array Rg9) (hb : w.heap[g]? = some (.cells cur e fr)) :
    (sortWorldK tC 5 w g 0 n d os).heap[g]? = some (.cells (putCells id 0 (flatK tC 5 d) cur) e fr) := by
  have hg : g < w.heap.size := (Array.getElem?_eq_some_iff.1 hb).1
  unfold sortWorldK putRowK
  rw [heap_grow_old _ _ (by simpa using hg)]
  simp [putRow, mapBlock, Sort.ahead, Array.getElem?_modify, hb, onCells]
theorem grownBy_sortedR {w : World} {g n : Nat} {os : Array Obj} (d : Array Rg9) : w.grownBy (sortWorldK tC 5 w g 0 n d os) (some g) := by
  unfold sortWorldK putRowK
  refine ⟨rfl, rfl, rfl, by simp, fun k hk hne => ?_⟩
  rw [heap_grow_old _ _ (by simpa using hk)]
  have : g ≠ k := fun e => hne (by rw [e])
  simp [putRow, mapBlock, Sort.ahead, Array.getElem?_modify, this]
theorem flatT_len : ∀ rs : List Rg9, (flatT rs).length = rs.length * 5
  | [] => rfl
  | r :: rs => by
    have := flatT_len rs
    unfold flatT at this ⊢
    rw [List.flatMap_cons, List.length_append, this]
    simp [tC]
    omega
theorem take_putR (cur : Array Value) (rs : List Rg9) (h : rs.length * 5 ≤ cur.size) : (putCells id 0 (flatK tC 5 rs.toArray) cur).toList.take (rs.length * 5) = flatT rs := by
  have hl : (flatT rs).length = rs.length * 5 := flatT_len rs
  apply List.ext_getElem?
  intro j
  by_cases hj : j < rs.length * 5
  · rw [List.getElem?_take_of_lt hj, Array.getElem?_toList]
    have hq : j / 5 < rs.length := by omega
    have h1 : (flatT rs)[j / 5 * 5 + j % 5]? = (tC rs[j / 5])[j % 5]? := flat_at tC 5 (fun _ => rfl) rs (j / 5) _ (List.getElem?_eq_getElem hq) (j % 5) (by omega)
    rw [show j / 5 * 5 + j % 5 = j by omega] at h1
    rw [h1]
    have h3 : j % 5 < (tC rs[j / 5]).length := by show j % 5 < 5; omega
    rw [List.getElem?_eq_getElem h3]
    have h4 := get_flatK tC 5 rs.toArray j (by simpa using hj)
    rw [getElem!_pos rs.toArray (j / 5) (by simpa using hq)] at h4
    simp only [List.getElem_toArray] at h4
    rw [getElem!_pos _ j (by simpa using hj), getElem!_pos _ (j % 5) h3] at h4
    simp [putCells, hj, show j < cur.size by omega]
    exact h4
  · rw [List.getElem?_take_eq_none (by omega), List.getElem?_eq_none (by omega)]
theorem perm_of_in {d d' : Array Rg9} (h : PermIn 0 d.size d d') : d'.toList.Perm d.toList := by
  have h1 := h.2.2
  rw [← h.1] at h1
  simp only [Array.extract_size] at h1
  rw [h.1] at h1
  simpa using h1
end Go.Proofs.YtacccpkmgkojiaaGreatDoorRR
namespace Go.Proofs.YtacccpkmgkojiaaGreatDoorRR
set_option linter.unusedVariables false
set_option linter.unusedSimpArgs false
set_option maxRecDepth 20000
set_option maxHeartbeats 8000000
open Go.Shelf Go.RowKit Go.Lib Go.Sort
theorem sortsR:SortsR:=by
 intro v rs W base h hle
 rcases h.2 with ⟨rfl,h0⟩|⟨g,cap,cur,rfl,hg,hb,h1,h2,h3,h4⟩
 ·have e0:rs=[]:=List.eq_nil_of_length_eq_zero h0;subst e0;have hcon:=AnyF.slices_SortFunc_none Tryz.sortR none 0 (.func (.func 109) #[] #[]) W;change Calls Tryz.prog 108 _ _ _ at hcon;refine hcon.mono ?_;rintro e w' ⟨rfl,rfl⟩;exact⟨rfl,[],List.Perm.refl _,List.Pairwise.nil,h,⟨rfl,rfl,rfl,Nat.le_refl _,fun _ _ _=>rfl⟩⟩
 have eg:∀ args w,(callFunc 109 args).run Tryz.prog w=.ok (.enter 109 args) w:=enters_of Tryz.func109 (by kernel_rfl) rfl;have hcon:=AnyQ.slices_SortFunc Tryz.sortR 5 Tryz.isAgg67 Tryz.sizeOf67 tC (fun _=>rfl) (fun x v hv=>by simp [tC] at hv;rcases hv with rfl|rfl|rfl|rfl|rfl <;> rfl) cmpR swoR 109 #[] g 0 cap rs.toArray W eg (cmpLaysR g 0 rs.toArray.size W) (holdsR hb h4) (lt_blk hb) (by simp;omega);change Calls Tryz.prog 108 _ _ _ at hcon;simp only [List.size_toArray] at hcon;refine hcon.mono ?_;rintro e w' ⟨rfl,d',n,os,hp,hs,rfl⟩;have hpm:d'.toList.Perm rs:=by have:=perm_of_in (d:=rs.toArray) (by simpa using hp);simpa using this
 have hl:d'.toList.length=rs.length:=hpm.length_eq;refine⟨rfl,d'.toList,hpm,?_,⟨by rw [flatT_len,hl],.inr ⟨g,cap,_,rfl,hg,heap_sortedR d' hb,h1,h2,by simp [putCells,h3],?_⟩⟩,grownBy_sortedR d'⟩
 ·rw [List.pairwise_iff_getElem];intro i j hi hj hij;have:=hs i j (Nat.zero_le _) hij (by omega);rw [ltR,getElem!_pos d' i (by simpa using hi),getElem!_pos d' j (by simpa using hj)] at this;simp at this;simpa using this
 have:=take_putR cur d'.toList (by rw [hl];omega);rw [hl] at this;simpa using this
end Go.Proofs.YtacccpkmgkojiaaGreatDoorRR
