import Derived.Test.YtgandbaejlfppaaGreatDoorN18
import Derived.Test.YtgandbaejlfppaaGreatDoorN16
namespace Go.Proofs.YtgandbaejlfppaaGreatDoor
set_option linter.unusedVariables false
set_option linter.unusedSimpArgs false
set_option maxRecDepth 20000
set_option maxHeartbeats 8000000
open Go.RowKit
theorem mt_ks (g : Nat) (w : World) : (method 660 133 (.pointer (some ⟨g, 0, none⟩)) "loop.example/s01868/impl.kept").run Tryz.prog w = .ok (213, .pointer (some ⟨g, 0, none⟩)) w := by kernel_rfl
theorem mt_kl (g : Nat) (w : World) : (method 660 145 (.pointer (some ⟨g, 0, none⟩)) "loop.example/s01868/impl.kept").run Tryz.prog w = .ok (213, .pointer (some ⟨g, 0, none⟩)) w := by kernel_rfl
theorem mt_bs (g : Nat) (w : World) : (method 660 133 (.pointer (some ⟨g, 0, none⟩)) "loop.example/s01868/impl.base").run Tryz.prog w = .ok (72, .pointer (some ⟨g, 0, none⟩)) w := by kernel_rfl
theorem mt_bl (g : Nat) (w : World) : (method 660 145 (.pointer (some ⟨g, 0, none⟩)) "loop.example/s01868/impl.base").run Tryz.prog w = .ok (99, .pointer (some ⟨g, 0, none⟩)) w := by kernel_rfl
theorem mt_us (g : Nat) (w : World) : (method 660 133 (.pointer (some ⟨g, 0, none⟩)) "loop.example/s01868/impl.usable").run Tryz.prog w = .ok (107, .pointer (some ⟨g, 0, none⟩)) w := by kernel_rfl
theorem mt_ul (g : Nat) (w : World) : (method 660 145 (.pointer (some ⟨g, 0, none⟩)) "loop.example/s01868/impl.usable").run Tryz.prog w = .ok (214, .pointer (some ⟨g, 0, none⟩)) w := by kernel_rfl
theorem im_rs0 (P a:Nat) (W:World) (post:Ending→World→Prop)
  (tk9:Calls Tryz.prog 33 #[Vp P 0,Vu (a:Nat)] W fun e V=>(∃ v,e=.panicked v∧post (.panicked v) V)∨∃ v,e=.returned v∧post (.returned v) V) :
  Calls Tryz.prog 35 #[Vp P 0,Vu (0:Nat),Vu (a:Nat)] W post:=by
 have TK:=hid tk9;clear tk9;go_enter Tryz.func35,Tryz.ntmps35;go_wp2_with fail;refine (TK.out).mono ?_;rintro e V (⟨v,rfl,hV⟩|⟨v,rfl,hV⟩)
 ·exact⟨rfl,hV⟩
 have HV:=hid hV;clear hV TK;go_wp2;exact HV.out
theorem im_rs_no (P p a:Nat) (code:Int) (W:World) (hp0:p≠0) (R:World→Prop)
  (in9:Calls Tryz.prog 37 #[Vp P 0,Vu (p:Nat)] W fun e V=>e=.panicked [{ v:=.iface 92 (.agg #[Vi code]),recovered:=false }]∧R V) :
  Calls Tryz.prog 35 #[Vp P 0,Vu (p:Nat),Vu (a:Nat)] W fun e V=>e=.panicked [{ v:=.iface 92 (.agg #[Vi code]),recovered:=false }]∧R V:=by
 have hpb:((p:Int)==0)=false:=by simp;omega
 have IN:=hid in9;clear in9;clear hp0;go_enter Tryz.func35,Tryz.ntmps35;go_wp2_with fail;refine (IN.out).mono ?_;rintro e V ⟨rfl,hV⟩;exact⟨rfl,rfl,hV⟩
theorem im_rs_fit (P p a t g:Nat) (W:World) (hp0:p≠0) (ht:t=133∨t=145) (Q:World→Prop) (post:Ending→World→Prop)
  (in9:Calls Tryz.prog 37 #[Vp P 0,Vu (p:Nat)] W fun e V=>e=.returned (.iface t (Vp g 0))∧Q V)
  (ft9:∀ V,Q V→Calls Tryz.prog 65 #[.iface t (Vp g 0),Vu (a:Nat)] V fun e V'=>e=.returned (.bool true)∧Q V')
  (ce:∀ V,Q V→∃ o,V.cell? ⟨g,1,none⟩=some (Vi o)∧V.frozen? ⟨g,1,none⟩=false)
  (hw:IntKind.i64.wrap (a:Int)=(a:Int))
  (st9:∀ V,Q V→post (.returned (.iface t (Vp g 0))) (V.setCell ⟨g,1,none⟩ (Vi (a:Nat)))) :
  Calls Tryz.prog 35 #[Vp P 0,Vu (p:Nat),Vu (a:Nat)] W post:=by
 have hpb:((p:Int)==0)=false:=by simp;omega
 have IN:=hid in9;clear in9;have FT:=hid ft9;clear ft9;have ST:=hid st9;clear st9;have CE:=hid ce;clear hp0 ce
 rcases ht with rfl|rfl
 ·have mk:=fun w=>mt_ks g w
  go_enter Tryz.func35,Tryz.ntmps35;go_wp2_with fail;refine (IN.out).mono ?_;rintro e V ⟨rfl,hV⟩;have HV:=hid hV;clear hV IN;go_wp2_with fail;refine (FT.out _ HV.out).mono ?_;rintro e V1 ⟨rfl,hV⟩;have H1:=hid hV;clear hV FT HV;obtain⟨o,c1,f1⟩:=CE.out _ H1.out;have HF:=hid (ST.out _ H1.out);clear ST H1 CE;go_wp2_with fail;refine (im_keptP ⟨g,0,none⟩ _).mono ?_;rintro e V2 ⟨rfl,rfl⟩;go_wp2;exact HF.out
 have mk:=fun w=>mt_kl g w
 go_enter Tryz.func35,Tryz.ntmps35;go_wp2_with fail;refine (IN.out).mono ?_;rintro e V ⟨rfl,hV⟩;have HV:=hid hV;clear hV IN;go_wp2_with fail;refine (FT.out _ HV.out).mono ?_;rintro e V1 ⟨rfl,hV⟩;have H1:=hid hV;clear hV FT HV;obtain⟨o,c1,f1⟩:=CE.out _ H1.out;have HF:=hid (ST.out _ H1.out);clear ST H1 CE;go_wp2_with fail;refine (im_keptP ⟨g,0,none⟩ _).mono ?_;rintro e V2 ⟨rfl,rfl⟩;go_wp2;exact HF.out
theorem im_rs_take (P p a t g fb q old:Nat) (W:World) (hp0:p≠0) (ht:t=133∧fb=72∨t=145∧fb=99) (hold:old < 9223372036854775808) (ha:a < 18446744073709551616) (Q:World→Prop) (Q2:Nat→Nat→Nat→World→Prop) (Q3:Nat→Nat→World→Prop) (post:Ending→World→Prop)
  (in9:Calls Tryz.prog 37 #[Vp P 0,Vu (p:Nat)] W fun e V=>e=.returned (.iface t (Vp g 0))∧Q V)
  (ft9:∀ V,Q V→Calls Tryz.prog 65 #[.iface t (Vp g 0),Vu (a:Nat)] V fun e V'=>e=.returned (.bool false)∧Q V')
  (tk9:∀ V,Q V→Calls Tryz.prog 33 #[Vp P 0,Vu (a:Nat)] V fun e V'=>(∃ v,e=.panicked v∧post (.panicked v) V')∨∃ t' g' fb',e=.returned (.iface t' (Vp g' 0))∧(t'=133∧fb'=72∨t'=145∧fb'=99)∧Q2 t' g' fb' V')
  (q2:∀ t' g' fb' V V',Q2 t' g' fb' V→Below V.heap.size V V'→Q2 t' g' fb' V')
  (bo9:∀ t' g' fb' V,Q2 t' g' fb' V→Calls Tryz.prog fb #[Vp g 0] V fun e V'=>e=.returned (Vu (p:Nat))∧Below V.heap.size V V')
  (bn9:∀ t' g' fb' V,Q2 t' g' fb' V→Calls Tryz.prog fb' #[Vp g' 0] V fun e V'=>e=.returned (Vu (q:Nat))∧Below V.heap.size V V')
  (ce:∀ t' g' fb' V,Q2 t' g' fb' V→V.cell? ⟨g,1,none⟩=some (Vi (old:Nat)))
  (cp9:∀ t' g' fb' V,Q2 t' g' fb' V→Calls Tryz.prog 66 #[Vp P 0,Vu (p:Nat),Vu (q:Nat),Vu (min old a:Nat)] V fun e V'=>e=.returned (.tuple #[])∧Q3 t' g' V')
  (re9:∀ t' g' V,Q3 t' g' V→Calls Tryz.prog 36 #[Vp P 0,.iface t (Vp g 0)] V fun e V'=>e=.returned (.tuple #[])∧post (.returned (.iface t' (Vp g' 0))) V') :
  Calls Tryz.prog 35 #[Vp P 0,Vu (p:Nat),Vu (a:Nat)] W post:=by
 have hpb:((p:Int)==0)=false:=by simp;omega
 have IN:=hid in9;clear in9;have FT:=hid ft9;clear ft9;have TK:=hid tk9;clear tk9;have Q2B:=hid q2;have BO:=hid bo9;clear bo9;have BN:=hid bn9;clear bn9;have CE:=hid ce;have CP:=hid cp9;clear cp9;have RE:=hid re9;clear re9;clear hp0 q2 ce;obtain⟨n,hn⟩:∃ n:Nat,min old a=n:=⟨_,rfl⟩;rw [hn] at CP;have HN:=hid hn;clear hn;have hwo:IntKind.u64.wrap (old:Int)=(old:Int):=wrapU9 _ (by omega) (by omega)
 rcases ht with ⟨rfl,rfl⟩|⟨rfl,rfl⟩
 ·have mk:=fun w=>mt_ks g w
  have mb:=fun w=>mt_bs g w
  go_enter Tryz.func35,Tryz.ntmps35;go_wp2_with fail;refine (IN.out).mono ?_;rintro e V ⟨rfl,hV⟩;have HV:=hid hV;clear hV IN;go_wp2_with fail;refine (FT.out _ HV.out).mono ?_;rintro e V1 ⟨rfl,hV⟩;have H1:=hid hV;clear hV FT HV;go_wp2_with fail;refine (TK.out _ H1.out).mono ?_;rintro e V2 (⟨v,rfl,hv⟩|⟨t',g',fb',rfl,ht',hV⟩)
  ·exact⟨rfl,hv⟩
  have H2:=hid hV;clear hV TK H1
  rcases ht' with ⟨rfl,rfl⟩|⟨rfl,rfl⟩
  ·have mb2:=fun w=>mt_bs g' w
   go_wp2_with fail;refine (BO.out _ g' _ _ H2.out).mono ?_;rintro e V3 ⟨rfl,b3⟩;have H3:=hid (Q2B.out _ _ _ _ _ H2.out b3);clear b3 H2;go_wp2_with fail;refine (BN.out _ g' _ _ H3.out).mono ?_;rintro e V4 ⟨rfl,b4⟩;have H4:=hid (Q2B.out _ _ _ _ _ H3.out b4);clear b4 H3;go_wp2_with fail;refine (im_keptP ⟨g,0,none⟩ _).mono ?_;rintro e V5 ⟨rfl,rfl⟩;have c1:=CE.out _ _ _ _ H4.out;have CPV:=hid (CP.out _ _ _ _ H4.out);clear CP CE BO BN Q2B H4
   by_cases hle:old≤a
   ·have hnn:n=old:=by have:=HN.out;omega
    subst hnn;have hlt:(n:Int)≤(a:Int):=by omega
    go_wp2_with fail;refine (CPV.out).mono ?_;rintro e V6 ⟨rfl,hV⟩;have H3:=hid hV;clear hV CPV c1;go_wp2_with fail;refine (RE.out _ _ _ H3.out).mono ?_;rintro e V9 ⟨rfl,hV⟩;have HF:=hid hV;clear hV RE H3;go_wp2;exact HF.out
   have hnn:n=a:=by have:=HN.out;omega
   subst hnn;have hlt:¬((old:Int)≤(n:Int)):=by omega
   go_wp2_with fail;refine (CPV.out).mono ?_;rintro e V6 ⟨rfl,hV⟩;have H3:=hid hV;clear hV CPV c1;go_wp2_with fail;refine (RE.out _ _ _ H3.out).mono ?_;rintro e V9 ⟨rfl,hV⟩;have HF:=hid hV;clear hV RE H3;go_wp2;exact HF.out
  have mb2:=fun w=>mt_bl g' w
  go_wp2_with fail;refine (BO.out _ g' _ _ H2.out).mono ?_;rintro e V3 ⟨rfl,b3⟩;have H3:=hid (Q2B.out _ _ _ _ _ H2.out b3);clear b3 H2;go_wp2_with fail;refine (BN.out _ g' _ _ H3.out).mono ?_;rintro e V4 ⟨rfl,b4⟩;have H4:=hid (Q2B.out _ _ _ _ _ H3.out b4);clear b4 H3;go_wp2_with fail;refine (im_keptP ⟨g,0,none⟩ _).mono ?_;rintro e V5 ⟨rfl,rfl⟩;have c1:=CE.out _ _ _ _ H4.out;have CPV:=hid (CP.out _ _ _ _ H4.out);clear CP CE BO BN Q2B H4
  by_cases hle:old≤a
  ·have hnn:n=old:=by have:=HN.out;omega
   subst hnn;have hlt:(n:Int)≤(a:Int):=by omega
   go_wp2_with fail;refine (CPV.out).mono ?_;rintro e V6 ⟨rfl,hV⟩;have H3:=hid hV;clear hV CPV c1;go_wp2_with fail;refine (RE.out _ _ _ H3.out).mono ?_;rintro e V9 ⟨rfl,hV⟩;have HF:=hid hV;clear hV RE H3;go_wp2;exact HF.out
  have hnn:n=a:=by have:=HN.out;omega
  subst hnn;have hlt:¬((old:Int)≤(n:Int)):=by omega
  go_wp2_with fail;refine (CPV.out).mono ?_;rintro e V6 ⟨rfl,hV⟩;have H3:=hid hV;clear hV CPV c1;go_wp2_with fail;refine (RE.out _ _ _ H3.out).mono ?_;rintro e V9 ⟨rfl,hV⟩;have HF:=hid hV;clear hV RE H3;go_wp2;exact HF.out
 have mk:=fun w=>mt_kl g w
 have mb:=fun w=>mt_bl g w
 go_enter Tryz.func35,Tryz.ntmps35;go_wp2_with fail;refine (IN.out).mono ?_;rintro e V ⟨rfl,hV⟩;have HV:=hid hV;clear hV IN;go_wp2_with fail;refine (FT.out _ HV.out).mono ?_;rintro e V1 ⟨rfl,hV⟩;have H1:=hid hV;clear hV FT HV;go_wp2_with fail;refine (TK.out _ H1.out).mono ?_;rintro e V2 (⟨v,rfl,hv⟩|⟨t',g',fb',rfl,ht',hV⟩)
 ·exact⟨rfl,hv⟩
 have H2:=hid hV;clear hV TK H1
 rcases ht' with ⟨rfl,rfl⟩|⟨rfl,rfl⟩
 ·have mb2:=fun w=>mt_bs g' w
  go_wp2_with fail;refine (BO.out _ g' _ _ H2.out).mono ?_;rintro e V3 ⟨rfl,b3⟩;have H3:=hid (Q2B.out _ _ _ _ _ H2.out b3);clear b3 H2;go_wp2_with fail;refine (BN.out _ g' _ _ H3.out).mono ?_;rintro e V4 ⟨rfl,b4⟩;have H4:=hid (Q2B.out _ _ _ _ _ H3.out b4);clear b4 H3;go_wp2_with fail;refine (im_keptP ⟨g,0,none⟩ _).mono ?_;rintro e V5 ⟨rfl,rfl⟩;have c1:=CE.out _ _ _ _ H4.out;have CPV:=hid (CP.out _ _ _ _ H4.out);clear CP CE BO BN Q2B H4
  by_cases hle:old≤a
  ·have hnn:n=old:=by have:=HN.out;omega
   subst hnn;have hlt:(n:Int)≤(a:Int):=by omega
   go_wp2_with fail;refine (CPV.out).mono ?_;rintro e V6 ⟨rfl,hV⟩;have H3:=hid hV;clear hV CPV c1;go_wp2_with fail;refine (RE.out _ _ _ H3.out).mono ?_;rintro e V9 ⟨rfl,hV⟩;have HF:=hid hV;clear hV RE H3;go_wp2;exact HF.out
  have hnn:n=a:=by have:=HN.out;omega
  subst hnn;have hlt:¬((old:Int)≤(n:Int)):=by omega
  go_wp2_with fail;refine (CPV.out).mono ?_;rintro e V6 ⟨rfl,hV⟩;have H3:=hid hV;clear hV CPV c1;go_wp2_with fail;refine (RE.out _ _ _ H3.out).mono ?_;rintro e V9 ⟨rfl,hV⟩;have HF:=hid hV;clear hV RE H3;go_wp2;exact HF.out
 have mb2:=fun w=>mt_bl g' w
 go_wp2_with fail;refine (BO.out _ g' _ _ H2.out).mono ?_;rintro e V3 ⟨rfl,b3⟩;have H3:=hid (Q2B.out _ _ _ _ _ H2.out b3);clear b3 H2;go_wp2_with fail;refine (BN.out _ g' _ _ H3.out).mono ?_;rintro e V4 ⟨rfl,b4⟩;have H4:=hid (Q2B.out _ _ _ _ _ H3.out b4);clear b4 H3;go_wp2_with fail;refine (im_keptP ⟨g,0,none⟩ _).mono ?_;rintro e V5 ⟨rfl,rfl⟩;have c1:=CE.out _ _ _ _ H4.out;have CPV:=hid (CP.out _ _ _ _ H4.out);clear CP CE BO BN Q2B H4
 by_cases hle:old≤a
 ·have hnn:n=old:=by have:=HN.out;omega
  subst hnn;have hlt:(n:Int)≤(a:Int):=by omega
  go_wp2_with fail;refine (CPV.out).mono ?_;rintro e V6 ⟨rfl,hV⟩;have H3:=hid hV;clear hV CPV c1;go_wp2_with fail;refine (RE.out _ _ _ H3.out).mono ?_;rintro e V9 ⟨rfl,hV⟩;have HF:=hid hV;clear hV RE H3;go_wp2;exact HF.out
 have hnn:n=a:=by have:=HN.out;omega
 subst hnn;have hlt:¬((old:Int)≤(n:Int)):=by omega
 go_wp2_with fail;refine (CPV.out).mono ?_;rintro e V6 ⟨rfl,hV⟩;have H3:=hid hV;clear hV CPV c1;go_wp2_with fail;refine (RE.out _ _ _ H3.out).mono ?_;rintro e V9 ⟨rfl,hV⟩;have HF:=hid hV;clear hV RE H3;go_wp2;exact HF.out
end Go.Proofs.YtgandbaejlfppaaGreatDoor
