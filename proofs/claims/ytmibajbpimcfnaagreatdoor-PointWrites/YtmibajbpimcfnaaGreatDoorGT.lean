/- Texts laid together. -/
import Derived.Test.YtmibajbpimcfnaaGreatDoorGG
import Derived.Test.YtmibajbpimcfnaaGreatDoorGE
set_option linter.unusedVariables false
set_option linter.unusedSimpArgs false
set_option maxRecDepth 4000
set_option maxHeartbeats 4000000
/- The reference's roots of pairs. -/
namespace Go.Proofs.YtmibajbpimcfnaaGreatDoor.fpn
open Go.RowKit Pl
theorem F2.fzz (z:F) (hz:z=0):z*z=0:=by subst hz;rfl
theorem F2.fnz (z:F) (hz:z=0):-z=0:=by grind
theorem fadd_comm (a b:F):a+b=b+a:=by grind
theorem fmul_comm (a b:F):a*b=b*a:=by grind
theorem ih (i:F) (h:2*i=1):i+i=1:=by grind
theorem dbl (i a:F) (h:i+i=1):a*i+a*i=a:=by
 have:a*i+a*i=a*(i+i):=by grind
 rw [this,h];grind
theorem subn (c n:F):c+(-n)=c-n:=by grind
theorem flat0 (r c s:F) (h:r=0) (hs:s*s=-c):r*r-s*s=c:=by subst h;grind
theorem flat1 (r c s:F) (h:r=0) (hc:c=0):r*s+s*r=c:=by subst h;grind
theorem z_sum (a b c:F) (h:a+b=c) (h0:a=0):b=c:=by grind
theorem z_sum' (a b c:F) (h:a+b=c) (h0:b=0):a=c:=by grind
theorem z_pr (a b c:F) (h:4*(a*b)=-(c*c)) (h0:a=0):c*c=0:=by subst h0;grind
theorem z_pr' (a b c i:F) (h:4*(a*b)=-(c*c)) (h0:c=0) (hi:i+i=1):a*b=0:=by
 have e:(i+i)*(i+i)*(a*b)=i*i*(4*(a*b)):=by grind
 rw [h,hi,h0] at e
 grind
theorem sq_zero {a:F} (h:a*a=0):a=0:=by rcases no_zero h with h | h<;>exact h
theorem nn (c:F):-(-c)=c:=by grind
theorem sqk1 {x:F2} (hq:isq x.norm=true) (h0:isq ((x.c0+root x.norm)*finv 2)=true) (hi:¬ root ((x.c0+root x.norm)*finv 2)=0):(⟨root ((x.c0+root x.norm)*finv 2),x.c1*finv 2*finv (root ((x.c0+root x.norm)*finv 2))⟩:F2)*(⟨root ((x.c0+root x.norm)*finv 2),x.c1*finv 2*finv (root ((x.c0+root x.norm)*finv 2))⟩:F2)=x:=by
 have hh:finv 2+finv 2=1:=ih _ (finv_mul two_ne)
 have hn:=root_sq hq
 have e0:((x.c0+root x.norm)*finv 2)+((x.c0+root x.norm)*finv 2)=x.c0+(root x.norm):=dbl _ _ hh
 have e1:((x.c0+(-(root x.norm)))*finv 2)+((x.c0+(-(root x.norm)))*finv 2)=x.c0-(root x.norm):=(dbl _ _ hh).trans (subn _ _)
 have hs:((x.c0+root x.norm)*finv 2)+((x.c0+(-(root x.norm)))*finv 2)=x.c0:=F2.halve (finv_mul two_ne) (F2.sum2 e0 e1)
 have h4:4*(((x.c0+root x.norm)*finv 2)*((x.c0+(-(root x.norm)))*finv 2))=-(x.c1*x.c1):=F2.prod4 e0 e1 hn
 have hs':((x.c0+(-(root x.norm)))*finv 2)+((x.c0+root x.norm)*finv 2)=x.c0:=(fadd_comm _ _).trans hs
 have h4':4*(((x.c0+(-(root x.norm)))*finv 2)*((x.c0+root x.norm)*finv 2))=-(x.c1*x.c1):=by rw [fmul_comm ((x.c0+(-(root x.norm)))*finv 2) ((x.c0+root x.norm)*finv 2)];exact h4
 exact F2.cross_root hh hs h4 (root_sq h0) (finv_mul hi)
theorem sqz {x:F2} (hq:isq x.norm=true) (h0:isq ((x.c0+root x.norm)*finv 2)=true) (hi:root ((x.c0+root x.norm)*finv 2)=0):x.c1=0∧((x.c0+(-(root x.norm)))*finv 2)=x.c0:=by
 have hh:finv 2+finv 2=1:=ih _ (finv_mul two_ne)
 have hn:=root_sq hq
 have e0:((x.c0+root x.norm)*finv 2)+((x.c0+root x.norm)*finv 2)=x.c0+(root x.norm):=dbl _ _ hh
 have e1:((x.c0+(-(root x.norm)))*finv 2)+((x.c0+(-(root x.norm)))*finv 2)=x.c0-(root x.norm):=(dbl _ _ hh).trans (subn _ _)
 have hs:((x.c0+root x.norm)*finv 2)+((x.c0+(-(root x.norm)))*finv 2)=x.c0:=F2.halve (finv_mul two_ne) (F2.sum2 e0 e1)
 have h4:4*(((x.c0+root x.norm)*finv 2)*((x.c0+(-(root x.norm)))*finv 2))=-(x.c1*x.c1):=F2.prod4 e0 e1 hn
 have hs':((x.c0+(-(root x.norm)))*finv 2)+((x.c0+root x.norm)*finv 2)=x.c0:=(fadd_comm _ _).trans hs
 have h4':4*(((x.c0+(-(root x.norm)))*finv 2)*((x.c0+root x.norm)*finv 2))=-(x.c1*x.c1):=by rw [fmul_comm ((x.c0+(-(root x.norm)))*finv 2) ((x.c0+root x.norm)*finv 2)];exact h4
 have z0:((x.c0+root x.norm)*finv 2)=0:=by rw [← root_sq h0,hi];exact F2.fzz 0 rfl
 exact ⟨sq_zero (z_pr _ _ _ h4 z0),z_sum _ _ _ hs z0⟩
theorem sqk2 {x:F2} (hq:isq x.norm=true) (h0:isq ((x.c0+root x.norm)*finv 2)=true) (hi:root ((x.c0+root x.norm)*finv 2)=0) (hm:isq (-x.c0)=true):(⟨root ((x.c0+root x.norm)*finv 2),root (-x.c0)⟩:F2)*(⟨root ((x.c0+root x.norm)*finv 2),root (-x.c0)⟩:F2)=x :=
 F2.ext' (flat0 _ _ _ hi (root_sq hm)) (flat1 _ _ _ hi (sqz hq h0 hi).1)
theorem sqk3 {x:F2} (hq:isq x.norm=true) (h0:isq ((x.c0+root x.norm)*finv 2)=true) (hi:root ((x.c0+root x.norm)*finv 2)=0) (hm:isq (-x.c0)=false):isq ((x.c0+(-(root x.norm)))*finv 2)=true:=by
 rw [(sqz hq h0 hi).2]
 have:=isq_neg hm;rw [nn] at this;exact this
theorem sqk4 {x:F2} (hq:isq x.norm=true) (h0:isq ((x.c0+root x.norm)*finv 2)=true) (hi:root ((x.c0+root x.norm)*finv 2)=0) (hm:isq (-x.c0)=false):¬ root ((x.c0+(-(root x.norm)))*finv 2)=0 :=
 root_ne (sqk3 hq h0 hi hm) (by rw [(sqz hq h0 hi).2];exact fun e=>isq_neq hm (by rw [e];exact F2.fnz 0 rfl))
theorem sqk5 {x:F2} (hq:isq x.norm=true) (h1:isq ((x.c0+(-(root x.norm)))*finv 2)=true) (hi:¬ root ((x.c0+(-(root x.norm)))*finv 2)=0):(⟨root ((x.c0+(-(root x.norm)))*finv 2),x.c1*finv 2*finv (root ((x.c0+(-(root x.norm)))*finv 2))⟩:F2)*(⟨root ((x.c0+(-(root x.norm)))*finv 2),x.c1*finv 2*finv (root ((x.c0+(-(root x.norm)))*finv 2))⟩:F2)=x:=by
 have hh:finv 2+finv 2=1:=ih _ (finv_mul two_ne)
 have hn:=root_sq hq
 have e0:((x.c0+root x.norm)*finv 2)+((x.c0+root x.norm)*finv 2)=x.c0+(root x.norm):=dbl _ _ hh
 have e1:((x.c0+(-(root x.norm)))*finv 2)+((x.c0+(-(root x.norm)))*finv 2)=x.c0-(root x.norm):=(dbl _ _ hh).trans (subn _ _)
 have hs:((x.c0+root x.norm)*finv 2)+((x.c0+(-(root x.norm)))*finv 2)=x.c0:=F2.halve (finv_mul two_ne) (F2.sum2 e0 e1)
 have h4:4*(((x.c0+root x.norm)*finv 2)*((x.c0+(-(root x.norm)))*finv 2))=-(x.c1*x.c1):=F2.prod4 e0 e1 hn
 have hs':((x.c0+(-(root x.norm)))*finv 2)+((x.c0+root x.norm)*finv 2)=x.c0:=(fadd_comm _ _).trans hs
 have h4':4*(((x.c0+(-(root x.norm)))*finv 2)*((x.c0+root x.norm)*finv 2))=-(x.c1*x.c1):=by rw [fmul_comm ((x.c0+(-(root x.norm)))*finv 2) ((x.c0+root x.norm)*finv 2)];exact h4
 exact F2.cross_root hh hs' h4' (root_sq h1) (finv_mul hi)
theorem sqo {x:F2} (hq:isq x.norm=true) (h0:isq ((x.c0+root x.norm)*finv 2)=false) (c1:x.c1=0):((x.c0+(-(root x.norm)))*finv 2)=0∧((x.c0+root x.norm)*finv 2)=x.c0:=by
 have hh:finv 2+finv 2=1:=ih _ (finv_mul two_ne)
 have hn:=root_sq hq
 have e0:((x.c0+root x.norm)*finv 2)+((x.c0+root x.norm)*finv 2)=x.c0+(root x.norm):=dbl _ _ hh
 have e1:((x.c0+(-(root x.norm)))*finv 2)+((x.c0+(-(root x.norm)))*finv 2)=x.c0-(root x.norm):=(dbl _ _ hh).trans (subn _ _)
 have hs:((x.c0+root x.norm)*finv 2)+((x.c0+(-(root x.norm)))*finv 2)=x.c0:=F2.halve (finv_mul two_ne) (F2.sum2 e0 e1)
 have h4:4*(((x.c0+root x.norm)*finv 2)*((x.c0+(-(root x.norm)))*finv 2))=-(x.c1*x.c1):=F2.prod4 e0 e1 hn
 have hs':((x.c0+(-(root x.norm)))*finv 2)+((x.c0+root x.norm)*finv 2)=x.c0:=(fadd_comm _ _).trans hs
 have h4':4*(((x.c0+(-(root x.norm)))*finv 2)*((x.c0+root x.norm)*finv 2))=-(x.c1*x.c1):=by rw [fmul_comm ((x.c0+(-(root x.norm)))*finv 2) ((x.c0+root x.norm)*finv 2)];exact h4
 have z1:((x.c0+(-(root x.norm)))*finv 2)=0:=by
  rcases no_zero (z_pr' _ _ _ _ h4 c1 hh) with h | h
  ·exact absurd h (isq_neq h0)
  ·exact h
 exact ⟨z1,z_sum' _ _ _ hs z1⟩
theorem sqn {x:F2} (hq:isq x.norm=true) (h0:isq ((x.c0+root x.norm)*finv 2)=false) (c1:x.c1≠0):isq ((x.c0+(-(root x.norm)))*finv 2)=true∧¬ root ((x.c0+(-(root x.norm)))*finv 2)=0:=by
 have hh:finv 2+finv 2=1:=ih _ (finv_mul two_ne)
 have hn:=root_sq hq
 have e0:((x.c0+root x.norm)*finv 2)+((x.c0+root x.norm)*finv 2)=x.c0+(root x.norm):=dbl _ _ hh
 have e1:((x.c0+(-(root x.norm)))*finv 2)+((x.c0+(-(root x.norm)))*finv 2)=x.c0-(root x.norm):=(dbl _ _ hh).trans (subn _ _)
 have hs:((x.c0+root x.norm)*finv 2)+((x.c0+(-(root x.norm)))*finv 2)=x.c0:=F2.halve (finv_mul two_ne) (F2.sum2 e0 e1)
 have h4:4*(((x.c0+root x.norm)*finv 2)*((x.c0+(-(root x.norm)))*finv 2))=-(x.c1*x.c1):=F2.prod4 e0 e1 hn
 have hs':((x.c0+(-(root x.norm)))*finv 2)+((x.c0+root x.norm)*finv 2)=x.c0:=(fadd_comm _ _).trans hs
 have h4':4*(((x.c0+(-(root x.norm)))*finv 2)*((x.c0+root x.norm)*finv 2))=-(x.c1*x.c1):=by rw [fmul_comm ((x.c0+(-(root x.norm)))*finv 2) ((x.c0+root x.norm)*finv 2)];exact h4
 obtain ⟨k0,k1,k2,k3,k4,k5⟩:=F2.cross c1 hn e0 e1
 exact ⟨k3 h0,root_ne (k3 h0) k1⟩
theorem sqk6 {x:F2} (hq:isq x.norm=true) (h0:isq ((x.c0+root x.norm)*finv 2)=false):isq ((x.c0+(-(root x.norm)))*finv 2)=true:=by
 by_cases c1:x.c1=0
 ·rw [(sqo hq h0 c1).1];exact isq_zero
 ·exact (sqn hq h0 c1).1
theorem sqk7 {x:F2} (hq:isq x.norm=true) (h0:isq ((x.c0+root x.norm)*finv 2)=false) (hi:root ((x.c0+(-(root x.norm)))*finv 2)=0):x.c1=0∧isq (-x.c0)=true:=by
 by_cases c1:x.c1=0
 ·exact ⟨c1,isq_neg (by rw [← (sqo hq h0 c1).2];exact h0)⟩
 ·exact absurd hi (sqn hq h0 c1).2
theorem sqk8 {x:F2} (hq:isq x.norm=true) (h0:isq ((x.c0+root x.norm)*finv 2)=false) (hi:root ((x.c0+(-(root x.norm)))*finv 2)=0) (hm:isq (-x.c0)=true):(⟨root ((x.c0+(-(root x.norm)))*finv 2),root (-x.c0)⟩:F2)*(⟨root ((x.c0+(-(root x.norm)))*finv 2),root (-x.c0)⟩:F2)=x :=
 F2.ext' (flat0 _ _ _ hi (root_sq hm)) (flat1 _ _ _ hi (sqk7 hq h0 hi).1)
theorem sq_t {x z:F2} (hz:z*z=x) (hG:z.great=true):Ending.returned (.tuple #[PV (-z),.bool true])=Ending.returned (.tuple #[PV x.sq2,.bool x.is2]):=by
 have h0:z≠0:=fun e=>by rw [e,F2.great_zero'] at hG;cases hG
 rw [F2.is2_of hz,F2.sq2_of (r:=-z) (by rw [F2.neg_mul_neg'];exact hz) (by rw [F2.great_neg' h0,hG];rfl)]
theorem sq_f {x z:F2} (hz:z*z=x) (hG:z.great=false):Ending.returned (.tuple #[PV z,.bool true])=Ending.returned (.tuple #[PV x.sq2,.bool x.is2]):=by
 rw [F2.is2_of hz,F2.sq2_of hz hG]
theorem sq_no {x:F2} (hq:isq x.norm=false):Ending.returned (.tuple #[PV 0,.bool false])=Ending.returned (.tuple #[PV x.sq2,.bool x.is2]):=by
 obtain ⟨e1,e2⟩:=F2.is2_no (a:=x) (fun r hr=>by rw [F2.norm_sq hr] at hq;cases hq)
 rw [e1,e2]
theorem not_dec {p:Prop} [Decidable p] (h:¬p):(!decide p)=true:=by rw [decide_eq_false h];rfl
theorem ref5Sqrt2 (R:RefK) (x:F2) (w:World):Calls Tryz.prog 41 #[PV x] w (Ret (.tuple #[PV x.sq2,.bool x.is2]) w):=by
 obtain ⟨n1,o1⟩:=nm (x.c0*x.c0:F)
 obtain ⟨n2,o2⟩:=nm (x.c1*x.c1:F)
 obtain ⟨n3,o3⟩:=nm (n1+n2:F)
 obtain ⟨n4,o4⟩:=nm (root n3:F)
 obtain ⟨n5,o5⟩:=nm (x.c0+n4:F)
 obtain ⟨n6,o6⟩:=nm (n5*(finv 2):F)
 obtain ⟨n7,o7⟩:=nm (root n6:F)
 obtain ⟨n8,o8⟩:=nm (-n4:F)
 obtain ⟨n9,o9⟩:=nm (-x.c0:F)
 obtain ⟨n10,o10⟩:=nm (root n9:F)
 obtain ⟨n11,o11⟩:=nm (x.c1*(finv 2):F)
 obtain ⟨n12,o12⟩:=nm (n11*(finv n7):F)
 obtain ⟨n13,o13⟩:=nm (⟨n7,n12⟩*⟨n7,n12⟩:F2)
 obtain ⟨n14,o14⟩:=nm (-⟨n7,n12⟩:F2)
 obtain ⟨n15,o15⟩:=nm (⟨n7,n10⟩*⟨n7,n10⟩:F2)
 obtain ⟨n16,o16⟩:=nm (-⟨n7,n10⟩:F2)
 obtain ⟨n17,o17⟩:=nm (x.c0+n8:F)
 obtain ⟨n18,o18⟩:=nm (n17*(finv 2):F)
 obtain ⟨n19,o19⟩:=nm (root n18:F)
 obtain ⟨n20,o20⟩:=nm (-n8:F)
 obtain ⟨n21,o21⟩:=nm (n11*(finv n19):F)
 obtain ⟨n22,o22⟩:=nm (⟨n19,n21⟩*⟨n19,n21⟩:F2)
 obtain ⟨n23,o23⟩:=nm (-⟨n19,n21⟩:F2)
 obtain ⟨n24,o24⟩:=nm (⟨n19,n10⟩*⟨n19,n10⟩:F2)
 obtain ⟨n25,o25⟩:=nm (-⟨n19,n10⟩:F2)
 have kn0:(isq n3)=true→(isq n6)=true→(!decide (n7=0))=true→(decide (n13=x))=true:=by subst_vars;intro h1q h2q h3q;exact decide_eq_true (sqk1 h1q h2q (of_not_t h3q))
 have kn1:(isq n3)=true→(isq n6)=true→(!decide (n7=0))=false→(isq n9)=true→(decide (n15=x))=true:=by subst_vars;intro h1q h2q h3q h4q;exact decide_eq_true (sqk2 h1q h2q (of_not_f h3q) h4q)
 have kn2:(isq n3)=true→(isq n6)=true→(!decide (n7=0))=false→(isq n9)=false→(isq n18)=true:=by subst_vars;intro h1q h2q h3q h4q;exact sqk3 h1q h2q (of_not_f h3q) h4q
 have kn3:(isq n3)=true→(isq n6)=true→(!decide (n7=0))=false→(isq n9)=false→(isq n18)=true→(!decide (n19=0))=true:=by subst_vars;intro h1q h2q h3q h4q h5q;exact not_dec (sqk4 h1q h2q (of_not_f h3q) h4q)
 have kn4:(isq n3)=true→(isq n6)=true→(!decide (n7=0))=false→(isq n9)=false→(isq n18)=true→(!decide (n19=0))=true→(decide (n22=x))=true:=by subst_vars;intro h1q h2q h3q h4q h5q h6q;exact decide_eq_true (sqk5 h1q h5q (of_not_t h6q))
 have kn5:(isq n3)=true→(isq n6)=false→(isq n18)=true:=by subst_vars;intro h1q h2q;exact sqk6 h1q h2q
 have kn6:(isq n3)=true→(isq n6)=false→(isq n18)=true→(!decide (n19=0))=true→(decide (n22=x))=true:=by subst_vars;intro h1q h2q h3q h4q;exact decide_eq_true (sqk5 h1q h3q (of_not_t h4q))
 have kn7:(isq n3)=true→(isq n6)=false→(isq n18)=true→(!decide (n19=0))=false→(isq n9)=true:=by subst_vars;intro h1q h2q h3q h4q;exact (sqk7 h1q h2q (of_not_f h4q)).2
 have kn8:(isq n3)=true→(isq n6)=false→(isq n18)=true→(!decide (n19=0))=false→(isq n9)=true→(decide (n24=x))=true:=by subst_vars;intro h1q h2q h3q h4q h5q;exact decide_eq_true (sqk8 h1q h2q (of_not_f h4q) h5q)
 have fin0:(isq n3)=true→(isq n6)=true→(!decide (n7=0))=true→(decide (n13=x))=true→((⟨n7,n12⟩:F2).great)=true→Ending.returned (.tuple #[PV n14,.bool true])=Ending.returned (.tuple #[PV x.sq2,.bool x.is2]):=by subst_vars;intro h1q h2q h3q h4q h5q;exact sq_t (of_decide_eq_true h4q) h5q
 have fin1:(isq n3)=true→(isq n6)=true→(!decide (n7=0))=true→(decide (n13=x))=true→((⟨n7,n12⟩:F2).great)=false→Ending.returned (.tuple #[PV ⟨n7,n12⟩,.bool true])=Ending.returned (.tuple #[PV x.sq2,.bool x.is2]):=by subst_vars;intro h1q h2q h3q h4q h5q;exact sq_f (of_decide_eq_true h4q) h5q
 have fin2:(isq n3)=true→(isq n6)=true→(!decide (n7=0))=false→(isq n9)=true→(decide (n15=x))=true→((⟨n7,n10⟩:F2).great)=true→Ending.returned (.tuple #[PV n16,.bool true])=Ending.returned (.tuple #[PV x.sq2,.bool x.is2]):=by subst_vars;intro h1q h2q h3q h4q h5q h6q;exact sq_t (of_decide_eq_true h5q) h6q
 have fin3:(isq n3)=true→(isq n6)=true→(!decide (n7=0))=false→(isq n9)=true→(decide (n15=x))=true→((⟨n7,n10⟩:F2).great)=false→Ending.returned (.tuple #[PV ⟨n7,n10⟩,.bool true])=Ending.returned (.tuple #[PV x.sq2,.bool x.is2]):=by subst_vars;intro h1q h2q h3q h4q h5q h6q;exact sq_f (of_decide_eq_true h5q) h6q
 have fin4:(isq n3)=true→(isq n6)=true→(!decide (n7=0))=false→(isq n9)=false→(isq n18)=true→(!decide (n19=0))=true→(decide (n22=x))=true→((⟨n19,n21⟩:F2).great)=true→Ending.returned (.tuple #[PV n23,.bool true])=Ending.returned (.tuple #[PV x.sq2,.bool x.is2]):=by subst_vars;intro h1q h2q h3q h4q h5q h6q h7q h8q;exact sq_t (of_decide_eq_true h7q) h8q
 have fin5:(isq n3)=true→(isq n6)=true→(!decide (n7=0))=false→(isq n9)=false→(isq n18)=true→(!decide (n19=0))=true→(decide (n22=x))=true→((⟨n19,n21⟩:F2).great)=false→Ending.returned (.tuple #[PV ⟨n19,n21⟩,.bool true])=Ending.returned (.tuple #[PV x.sq2,.bool x.is2]):=by subst_vars;intro h1q h2q h3q h4q h5q h6q h7q h8q;exact sq_f (of_decide_eq_true h7q) h8q
 have fin6:(isq n3)=true→(isq n6)=false→(isq n18)=true→(!decide (n19=0))=true→(decide (n22=x))=true→((⟨n19,n21⟩:F2).great)=true→Ending.returned (.tuple #[PV n23,.bool true])=Ending.returned (.tuple #[PV x.sq2,.bool x.is2]):=by subst_vars;intro h1q h2q h3q h4q h5q h6q;exact sq_t (of_decide_eq_true h5q) h6q
 have fin7:(isq n3)=true→(isq n6)=false→(isq n18)=true→(!decide (n19=0))=true→(decide (n22=x))=true→((⟨n19,n21⟩:F2).great)=false→Ending.returned (.tuple #[PV ⟨n19,n21⟩,.bool true])=Ending.returned (.tuple #[PV x.sq2,.bool x.is2]):=by subst_vars;intro h1q h2q h3q h4q h5q h6q;exact sq_f (of_decide_eq_true h5q) h6q
 have fin8:(isq n3)=true→(isq n6)=false→(isq n18)=true→(!decide (n19=0))=false→(isq n9)=true→(decide (n24=x))=true→((⟨n19,n10⟩:F2).great)=true→Ending.returned (.tuple #[PV n25,.bool true])=Ending.returned (.tuple #[PV x.sq2,.bool x.is2]):=by subst_vars;intro h1q h2q h3q h4q h5q h6q h7q;exact sq_t (of_decide_eq_true h6q) h7q
 have fin9:(isq n3)=true→(isq n6)=false→(isq n18)=true→(!decide (n19=0))=false→(isq n9)=true→(decide (n24=x))=true→((⟨n19,n10⟩:F2).great)=false→Ending.returned (.tuple #[PV ⟨n19,n10⟩,.bool true])=Ending.returned (.tuple #[PV x.sq2,.bool x.is2]):=by subst_vars;intro h1q h2q h3q h4q h5q h6q h7q;exact sq_f (of_decide_eq_true h6q) h7q
 have fin10:(isq n3)=false→Ending.returned (.tuple #[PV 0,.bool false])=Ending.returned (.tuple #[PV x.sq2,.bool x.is2]):=by subst_vars;intro h1q;exact sq_no h1q
 have hp0:=Heap.start w
 go_enter Tryz.func41,Tryz.ntmps41
 refine sgsD [.alloc (PC x),.alloc (PC 0),.det (.bool false)] [0,1,2] [0,0,0] (fun L d=>[d 0,L.p 0,L.p 1]++D d 3 92) (fun L=>[(L.b 0,PC x),(L.b 1,PC 0)]) hp0 ⟨
  oB,oZ rP,oA,
  trivial⟩ (fun L0 d0 w1 hp1=>?_)
 refine sgsD [.det (FV 2),.det (.tuple #[FV (finv 2),.int .i64 0]),.det (.tuple #[FV (finv 2),.int .i64 0]),.det (FV (finv 2)),.det (.int .i64 0),.alloc (FC 0),.store (.new 5) 0 (FC (finv 2)) (FC (finv 2)),.det (.int .i64 0)] (Pl.nn 8) [0,1,3,7,7,0,47,127] (fun L d=>[d 0,L0.p 0,L0.p 1,d 3,L.p 5]++D d 5 90) (fun L=>[(L0.b 0,PC x),(L0.b 1,PC 0),(L.b 5,FC (finv 2))]) hp1 ⟨
  oR R.of2,oH (v:=.tuple #[FV (finv 2),.int .i64 0]) (vs:=#[FV 2]) (fun w _ _=>R.inv 2 w trivial two_ne),oM,oX,oX,oZ rF,oT rF,oA,
  trivial⟩ (fun L1 d1 w2 hp2=>?_)
 refine sdrD [.det (L0.p 0),.det (FV x.c0),.det (L0.p 0),.det (FV x.c0),.det (FV n1),.det (pt (L0.b 0) 6),.det (FV x.c1),.det (pt (L0.b 0) 6),.det (FV x.c1),.det (FV n2),.det (FV n3),.det (.tuple #[FV n4,.bool (isq n3)]),.det (.tuple #[FV n4,.bool (isq n3)]),.det (FV n4),.det (.bool (isq n3)),.alloc (FC 0),.store (.new 15) 0 (FC n4) (FC n4),.det (.bool (isq n3))] (Pl.nn 18) [0,1,0,4,15,0,32,0,128,511,1023,2047,4095,8191,8191,0,49151,131071] (fun L d=>[d 0,L0.p 0,L0.p 1,d 3,L1.p 5,d 5,L.p 15,.bool (isq n3)]++D d 8 87) (fun L=>[(L0.b 0,PC x),(L0.b 1,PC 0),(L1.b 5,FC (finv 2)),(L.b 15,FC n4)]) hp2 ⟨
  oI aP,oL 0 0 rF,oI aP,oL 0 0 rF,oR (nFR o1 (fun w=>R.mul x.c0 x.c0 w trivial)),oI aP,oL 0 6 rF,oI aP,oL 0 6 rF,oR (nFR o2 (fun w=>R.mul x.c1 x.c1 w trivial)),
  oR (nFR o3 (fun w=>R.add n1 n2 w trivial)),oR (nTR o4 (fun w=>R.sqrt n3 w trivial)),oM,oX,oX,oZ rF,oT rF,oA,
  trivial⟩ (fun L2 d2 w3 hp3=>?_)
 refine wp_seq_k (fun K4 k4=>?_)
 refine sgsD [.det (.bool (isq n3)),.det (.bool (!isq n3))] [0,1] [0,1] (fun L d=>[d 0,L0.p 0,L0.p 1,d 3,L1.p 5,d 5,L2.p 15]++(D d 7 30++([.bool (!isq n3)]++D d 38 57))) (fun L=>[(L0.b 0,PC x),(L0.b 1,PC 0),(L1.b 5,FC (finv 2)),(L2.b 15,FC n4)]) hp3 ⟨
  oM,oN,
  trivial⟩ (fun L3 d3 w4 hp4=>?_)
 rcases Bool.eq_false_or_eq_true (isq n3) with h1q | h1q
 ·skip
  refine cond_f (nt_t h1q) ?_
  refine skips ?_
  refine k4 _ _ ?_
  refine wp_seq_k (fun K6 k6=>?_)
  refine sgsD [.det (.int .i64 0)] [0] [0] (fun L d=>[d 0,L0.p 0,L0.p 1,d 3,L1.p 5,d 5,L2.p 15,d 7,.int .i64 0]++D d 9 86) (fun L=>[(L0.b 0,PC x),(L0.b 1,PC 0),(L1.b 5,FC (finv 2)),(L2.b 15,FC n4)]) hp4 ⟨
   oA,
   trivial⟩ (fun L4 d4 w5 hp5=>?_)
  refine wp_block_k (fun K8 k8=>?_)
  refine wp_loop_rounds 9 ?_
  refine rounds_k (fun K9 k9=>?_)
  refine wp_seq_k (fun K10 k10=>?_)
  refine sgsD [.det (.int .i64 0),.det (.bool true)] [0,1] [0,1] (fun L d=>[d 0,L0.p 0,L0.p 1,d 3,L1.p 5,d 5,L2.p 15,d 7,.int .i64 0]++(D d 9 31++([.bool true]++D d 41 54))) (fun L=>[(L0.b 0,PC x),(L0.b 1,PC 0),(L1.b 5,FC (finv 2)),(L2.b 15,FC n4)]) hp5 ⟨
   oM,oJ .i64 .i64 0 2,
   trivial⟩ (fun L5 d5 w6 hp6=>?_)
  refine cT ?_
  refine skips ?_
  refine k10 _ _ ?_
  refine wp_seq_k (fun K12 k12=>?_)
  refine wp_block_k (fun K13 k13=>?_)
  refine sdrD [.det (L0.p 0),.det (FV x.c0),.det (FV n4),.det (FV n5),.det (FV (finv 2)),.det (FV n6),.det (.tuple #[FV n7,.bool (isq n6)]),.det (.tuple #[FV n7,.bool (isq n6)]),.det (FV n7),.det (.bool (isq n6)),.alloc (FC 0),.store (.new 10) 0 (FC n7) (FC n7),.det (.bool (isq n6))] (Pl.nn 13) [0,1,0,7,0,31,63,127,255,255,0,1535,4095] (fun L d=>[d 0,L0.p 0,L0.p 1,d 3,L1.p 5,d 5,L2.p 15,d 7,.int .i64 0,L.p 10,.bool (isq n6)]++D d 11 84) (fun L=>[(L0.b 0,PC x),(L0.b 1,PC 0),(L1.b 5,FC (finv 2)),(L2.b 15,FC n4),(L.b 10,FC n7)]) hp6 ⟨
   oI aP,oL 0 0 rF,oL 3 0 rF,oR (nFR o5 (fun w=>R.add x.c0 n4 w trivial)),oL 2 0 rF,oR (nFR o6 (fun w=>R.mul n5 (finv 2) w trivial)),oR (nTR o7 (fun w=>R.sqrt n6 w trivial)),
   oM,oX,oX,oZ rF,oT rF,oA,
   trivial⟩ (fun L6 d6 w7 hp7=>?_)
  refine sgsD [.det (FV n4),.det (FV n8),.store (.base 3) 0 (FC n8) (FC n8)] [0,1,2] [0,1,3] (fun L d=>[d 0,L0.p 0,L0.p 1,d 3,L1.p 5,d 5,L2.p 15,d 7,.int .i64 0,L6.p 10,.bool (isq n6)]++D d 11 84) (fun L=>[(L0.b 0,PC x),(L0.b 1,PC 0),(L1.b 5,FC (finv 2)),(L2.b 15,FC n8),(L6.b 10,FC n7)]) hp7 ⟨
   oL 3 0 rF,oR (nFR o8 (fun w=>R.neg n4 w trivial)),oT rF,
   trivial⟩ (fun L7 d7 w8 hp8=>?_)
  refine wp_seq_k (fun K16 k16=>?_)
  refine sgsD [.det (.bool (isq n6)),.det (.bool (!isq n6))] [0,1] [0,1] (fun L d=>[d 0,L0.p 0,L0.p 1,d 3,L1.p 5,d 5,L2.p 15,d 7,.int .i64 0,L6.p 10]++(D d 10 46++([.bool (!isq n6)]++D d 57 38))) (fun L=>[(L0.b 0,PC x),(L0.b 1,PC 0),(L1.b 5,FC (finv 2)),(L2.b 15,FC n8),(L6.b 10,FC n7)]) hp8 ⟨
   oM,oN,
   trivial⟩ (fun L8 d8 w9 hp9=>?_)
  rcases Bool.eq_false_or_eq_true (isq n6) with h2q | h2q
  ·skip
   refine cond_f (nt_t h2q) ?_
   refine skips ?_
   refine k16 _ _ ?_
   refine sgsD [.det (L0.p 0),.det (FV x.c0),.det (FV n9),.det (.tuple #[FV n10,.bool (isq n9)]),.det (.tuple #[FV n10,.bool (isq n9)]),.det (FV n10),.det (.bool (isq n9)),.alloc (FC 0),.store (.new 7) 0 (FC n10) (FC n10),.det (.bool (isq n9))] (Pl.nn 10) [0,1,3,7,15,31,31,0,191,511] (fun L d=>[d 0,L0.p 0,L0.p 1,d 3,L1.p 5,d 5,L2.p 15,d 7,.int .i64 0,L6.p 10,d 10,L.p 7,.bool (isq n9)]++D d 13 82) (fun L=>[(L0.b 0,PC x),(L0.b 1,PC 0),(L1.b 5,FC (finv 2)),(L2.b 15,FC n8),(L6.b 10,FC n7),(L.b 7,FC n10)]) hp9 ⟨
    oI aP,oL 0 0 rF,oR (nFR o9 (fun w=>R.neg x.c0 w trivial)),oR (nTR o10 (fun w=>R.sqrt n9 w trivial)),oM,oX,oX,oZ rF,oT rF,oA,
    trivial⟩ (fun L9 d9 w10 hp10=>?_)
   refine wp_seq_k (fun K19 k19=>?_)
   refine sgsD [.det (FV n7),.det (FV 0),.det (.bool (!decide (n7=0)))] [0,1,2] [0,0,3] (fun L d=>[d 0,L0.p 0,L0.p 1,d 3,L1.p 5,d 5,L2.p 15,d 7,.int .i64 0,L6.p 10,d 10,L9.p 7,.bool (isq n9)]++(D d 13 53++([.bool (!decide (n7=0))]++D d 67 28))) (fun L=>[(L0.b 0,PC x),(L0.b 1,PC 0),(L1.b 5,FC (finv 2)),(L2.b 15,FC n8),(L6.b 10,FC n7),(L9.b 7,FC n10)]) hp10 ⟨
    oL 4 0 rF,oD buildF0,oU (a:=n7) (b:=0) qF rfl,
    trivial⟩ (fun L10 d10 w11 hp11=>?_)
   rcases Bool.eq_false_or_eq_true (!decide (n7=0)) with h3q | h3q
   ·skip
    refine cond_t h3q ?_
    refine sgsD [.det (FV n7),.det (.tuple #[FV (finv n7),.int .i64 0]),.det (.tuple #[FV (finv n7),.int .i64 0]),.det (FV (finv n7)),.det (.int .i64 0),.alloc (FC 0),.store (.new 5) 0 (FC (finv n7)) (FC (finv n7)),.det (.int .i64 0)] (Pl.nn 8) [0,1,3,7,7,0,47,127] (fun L d=>[d 0,L0.p 0,L0.p 1,d 3,L1.p 5]++(D d 5 4++([L6.p 10,d 10,L9.p 7,d 12,L.p 5]++D d 14 81))) (fun L=>[(L0.b 0,PC x),(L0.b 1,PC 0),(L1.b 5,FC (finv 2)),(L2.b 15,FC n8),(L6.b 10,FC n7),(L9.b 7,FC n10),(L.b 5,FC (finv n7))]) hp11 ⟨
     oL 4 0 rF,oH (v:=.tuple #[FV (finv n7),.int .i64 0]) (vs:=#[FV n7]) (fun w _ _=>R.inv n7 w trivial (of_not_t h3q)),oM,oX,oX,oZ rF,oT rF,oA,
     trivial⟩ (fun L11 d11 w12 hp12=>?_)
    refine drD [.det (pt (L0.b 0) 6),.det (FV x.c1),.det (FV (finv 2)),.det (FV n11),.det (FV (finv n7)),.det (FV n12),.store (.base 5) 0 (FC n12) (FC n12),.det (.bool true)] (Pl.nn 8) [0,1,0,7,0,31,63,127] (fun L d=>[d 0,L0.p 0,L0.p 1]++(D d 3 6++([L6.p 10,d 10,L9.p 7,.bool true]++D d 13 82))) (fun L=>[(L0.b 0,PC x),(L0.b 1,PC 0),(L1.b 5,FC (finv 2)),(L2.b 15,FC n8),(L6.b 10,FC n7),(L9.b 7,FC n12),(L11.b 5,FC (finv n7))]) hp12 ⟨
     oI aP,oL 0 6 rF,oL 2 0 rF,oR (nFR o11 (fun w=>R.mul x.c1 (finv 2) w trivial)),oL 6 0 rF,oR (nFR o12 (fun w=>R.mul n11 (finv n7) w trivial)),oT rF,
     oA,
     trivial⟩ (fun L12 d12 w13 hp13=>?_)
    refine k19 _ _ ?_
    refine sgsD [.det (FV n7),.det (FV n12),.det (PV ⟨n7,n12⟩),.alloc (PC 0),.store (.new 3) 0 (PC ⟨n7,n12⟩) (PC ⟨n7,n12⟩)] (Pl.nn 5) [0,0,3,0,15] (fun L d=>[d 0,L0.p 0,L0.p 1]++(D d 3 9++([.bool true]++(D d 13 2++([L.p 3]++D d 16 79))))) (fun L=>[(L0.b 0,PC x),(L0.b 1,PC 0),(L1.b 5,FC (finv 2)),(L2.b 15,FC n8),(L6.b 10,FC n7),(L9.b 7,FC n12),(L11.b 5,FC (finv n7)),(L.b 3,PC ⟨n7,n12⟩)]) hp13 ⟨
     oL 4 0 rF,oL 5 0 rF,oD (buildP n7 n12),oZ rP,oT rP,
     trivial⟩ (fun L13 d13 w14 hp14=>?_)
    refine sdrD [.det (.bool true),.det (.bool true),.det (PV ⟨n7,n12⟩),.det (PV ⟨n7,n12⟩),.det (PV n13),.det (PV x),.det (.bool (decide (n13=x))),.det (.bool (decide (n13=x)))] (Pl.nn 8) [0,1,3,3,15,3,63,127] (fun L d=>D d 0 2++([L0.p 1]++(D d 3 12++([L13.p 3]++(D d 16 72++([.bool (decide (n13=x))]++D d 89 6)))))) (fun L=>[(L0.b 0,PC x),(L0.b 1,PC 0),(L1.b 5,FC (finv 2)),(L2.b 15,FC n8),(L6.b 10,FC n7),(L9.b 7,FC n12),(L11.b 5,FC (finv n7)),(L13.b 3,PC ⟨n7,n12⟩)]) hp14 ⟨
     oM,oM,oL 7 0 rP,oL 7 0 rP,oR (nPR o13 (ref5Mul2 R ⟨n7,n12⟩ ⟨n7,n12⟩)),oL 0 0 rP,oE (a:=n13) (b:=x) qP rfl,oP,
     trivial⟩ (fun L14 d14 w15 hp15=>?_)
    have h4q:=kn0 h1q h2q h3q
    refine cond_t h4q ?_
    refine wp_seq_k (fun K24 k24=>?_)
    refine sgsD [.det (PV ⟨n7,n12⟩),.det (.bool ((⟨n7,n12⟩:F2).great))] [0,1] [0,1] (fun L d=>D d 0 2++([L0.p 1]++(D d 3 12++([L13.p 3]++(D d 16 74++([.bool ((⟨n7,n12⟩:F2).great)]++D d 91 4)))))) (fun L=>[(L0.b 0,PC x),(L0.b 1,PC 0),(L1.b 5,FC (finv 2)),(L2.b 15,FC n8),(L6.b 10,FC n7),(L9.b 7,FC n12),(L11.b 5,FC (finv n7)),(L13.b 3,PC ⟨n7,n12⟩)]) hp15 ⟨
     oL 7 0 rP,oR (ref5Great2 R ⟨n7,n12⟩),
     trivial⟩ (fun L15 d15 w16 hp16=>?_)
    rcases Bool.eq_false_or_eq_true ((⟨n7,n12⟩:F2).great) with h5q | h5q
    ·skip
     refine cond_t h5q ?_
     refine gsD [.det (PV ⟨n7,n12⟩),.det (PV n14),.store (.base 7) 0 (PC n14) (PC n14)] [0,1,2] [0,1,3] (fun L d=>D d 0 2++([L0.p 1]++(D d 3 12++([L13.p 3]++D d 16 79)))) (fun L=>[(L0.b 0,PC x),(L0.b 1,PC 0),(L1.b 5,FC (finv 2)),(L2.b 15,FC n8),(L6.b 10,FC n7),(L9.b 7,FC n12),(L11.b 5,FC (finv n7)),(L13.b 3,PC n14)]) hp16 ⟨
      oL 7 0 rP,oR (nPR o14 (ref5Neg2 R ⟨n7,n12⟩)),oT rP,
      trivial⟩ (fun L16 d16 w17 hp17=>?_)
     refine k24 _ _ ?_
     refine sgsD [.det (PV n14),.store (.base 1) 0 (PC n14) (PC n14),.det (.bool true)] [0,1,2] [0,1,3] (fun L d=>D d 0 2++([L0.p 1,.bool true]++D d 4 91)) (fun L=>[(L0.b 0,PC x),(L0.b 1,PC n14),(L1.b 5,FC (finv 2)),(L2.b 15,FC n8),(L6.b 10,FC n7),(L9.b 7,FC n12),(L11.b 5,FC (finv n7)),(L13.b 3,PC n14)]) hp17 ⟨
      oL 7 0 rP,oT rP,oA,
      trivial⟩ (fun L17 d17 w18 hp18=>?_)
     refine wp_ret ?_
     refine k13 _ _ _ ?_
     refine k9 _ _ _ ?_
     refine k8 _ _ _ ?_
     refine bodyPost_ret (v:=.tuple #[PV n14,.bool true]) ?_ rfl ?_
     ·exact rct rP rfl (by kernel_rfl) (by kernel_rfl) (hp18.bound 1 rfl).2
     ·exact ⟨fin0 h1q h2q h3q h4q h5q,hp18.bel⟩
    ·skip
     refine cond_f h5q ?_
     refine skips ?_
     refine k24 _ _ ?_
     refine sgsD [.det (PV ⟨n7,n12⟩),.store (.base 1) 0 (PC ⟨n7,n12⟩) (PC ⟨n7,n12⟩),.det (.bool true)] [0,1,2] [0,1,3] (fun L d=>D d 0 2++([L0.p 1,.bool true]++D d 4 91)) (fun L=>[(L0.b 0,PC x),(L0.b 1,PC ⟨n7,n12⟩),(L1.b 5,FC (finv 2)),(L2.b 15,FC n8),(L6.b 10,FC n7),(L9.b 7,FC n12),(L11.b 5,FC (finv n7)),(L13.b 3,PC ⟨n7,n12⟩)]) hp16 ⟨
      oL 7 0 rP,oT rP,oA,
      trivial⟩ (fun L16 d16 w17 hp17=>?_)
     refine wp_ret ?_
     refine k13 _ _ _ ?_
     refine k9 _ _ _ ?_
     refine k8 _ _ _ ?_
     refine bodyPost_ret (v:=.tuple #[PV ⟨n7,n12⟩,.bool true]) ?_ rfl ?_
     ·exact rct rP rfl (by kernel_rfl) (by kernel_rfl) (hp17.bound 1 rfl).2
     ·exact ⟨fin1 h1q h2q h3q h4q h5q,hp17.bel⟩
   ·skip
    refine cond_f h3q ?_
    refine skips ?_
    refine k19 _ _ ?_
    refine sgsD [.det (FV n7),.det (FV n10),.det (PV ⟨n7,n10⟩),.alloc (PC 0),.store (.new 3) 0 (PC ⟨n7,n10⟩) (PC ⟨n7,n10⟩)] (Pl.nn 5) [0,0,3,0,15] (fun L d=>[d 0,L0.p 0,L0.p 1,d 3,L1.p 5,d 5,L2.p 15,d 7,.int .i64 0]++(D d 9 3++([.bool (isq n9)]++(D d 13 2++([L.p 3]++D d 16 79))))) (fun L=>[(L0.b 0,PC x),(L0.b 1,PC 0),(L1.b 5,FC (finv 2)),(L2.b 15,FC n8),(L6.b 10,FC n7),(L9.b 7,FC n10),(L.b 3,PC ⟨n7,n10⟩)]) hp11 ⟨
     oL 4 0 rF,oL 5 0 rF,oD (buildP n7 n10),oZ rP,oT rP,
     trivial⟩ (fun L11 d11 w12 hp12=>?_)
    refine wp_seq_k (fun K22 k22=>?_)
    rcases Bool.eq_false_or_eq_true (isq n9) with h4q | h4q
    ·skip
     refine drD [.det (.bool true),.det (.bool true),.det (PV ⟨n7,n10⟩),.det (PV ⟨n7,n10⟩),.det (PV n15),.det (PV x),.det (.bool (decide (n15=x))),.det (.bool (decide (n15=x)))] (Pl.nn 8) [0,1,3,3,15,3,63,127] (fun L d=>D d 0 2++([L0.p 1]++(D d 3 12++([L11.p 3]++(D d 16 72++([.bool (decide (n15=x))]++D d 89 6)))))) (fun L=>[(L0.b 0,PC x),(L0.b 1,PC 0),(L1.b 5,FC (finv 2)),(L2.b 15,FC n8),(L6.b 10,FC n7),(L9.b 7,FC n10),(L11.b 3,PC ⟨n7,n10⟩)]) hp12 ⟨
      oMB h4q,oM,oL 6 0 rP,oL 6 0 rP,oR (nPR o15 (ref5Mul2 R ⟨n7,n10⟩ ⟨n7,n10⟩)),oL 0 0 rP,oE (a:=n15) (b:=x) qP rfl,oP,
      trivial⟩ (fun L12 d12 w13 hp13=>?_)
     refine k22 _ _ ?_
     have h5q:=kn1 h1q h2q h3q h4q
     refine cond_t h5q ?_
     refine wp_seq_k (fun K23 k23=>?_)
     refine sgsD [.det (PV ⟨n7,n10⟩),.det (.bool ((⟨n7,n10⟩:F2).great))] [0,1] [0,1] (fun L d=>D d 0 2++([L0.p 1]++(D d 3 12++([L11.p 3]++(D d 16 74++([.bool ((⟨n7,n10⟩:F2).great)]++D d 91 4)))))) (fun L=>[(L0.b 0,PC x),(L0.b 1,PC 0),(L1.b 5,FC (finv 2)),(L2.b 15,FC n8),(L6.b 10,FC n7),(L9.b 7,FC n10),(L11.b 3,PC ⟨n7,n10⟩)]) hp13 ⟨
      oL 6 0 rP,oR (ref5Great2 R ⟨n7,n10⟩),
      trivial⟩ (fun L13 d13 w14 hp14=>?_)
     rcases Bool.eq_false_or_eq_true ((⟨n7,n10⟩:F2).great) with h6q | h6q
     ·skip
      refine cond_t h6q ?_
      refine gsD [.det (PV ⟨n7,n10⟩),.det (PV n16),.store (.base 6) 0 (PC n16) (PC n16)] [0,1,2] [0,1,3] (fun L d=>D d 0 2++([L0.p 1]++(D d 3 12++([L11.p 3]++D d 16 79)))) (fun L=>[(L0.b 0,PC x),(L0.b 1,PC 0),(L1.b 5,FC (finv 2)),(L2.b 15,FC n8),(L6.b 10,FC n7),(L9.b 7,FC n10),(L11.b 3,PC n16)]) hp14 ⟨
       oL 6 0 rP,oR (nPR o16 (ref5Neg2 R ⟨n7,n10⟩)),oT rP,
       trivial⟩ (fun L14 d14 w15 hp15=>?_)
      refine k23 _ _ ?_
      refine sgsD [.det (PV n16),.store (.base 1) 0 (PC n16) (PC n16),.det (.bool true)] [0,1,2] [0,1,3] (fun L d=>D d 0 2++([L0.p 1,.bool true]++D d 4 91)) (fun L=>[(L0.b 0,PC x),(L0.b 1,PC n16),(L1.b 5,FC (finv 2)),(L2.b 15,FC n8),(L6.b 10,FC n7),(L9.b 7,FC n10),(L11.b 3,PC n16)]) hp15 ⟨
       oL 6 0 rP,oT rP,oA,
       trivial⟩ (fun L15 d15 w16 hp16=>?_)
      refine wp_ret ?_
      refine k13 _ _ _ ?_
      refine k9 _ _ _ ?_
      refine k8 _ _ _ ?_
      refine bodyPost_ret (v:=.tuple #[PV n16,.bool true]) ?_ rfl ?_
      ·exact rct rP rfl (by kernel_rfl) (by kernel_rfl) (hp16.bound 1 rfl).2
      ·exact ⟨fin2 h1q h2q h3q h4q h5q h6q,hp16.bel⟩
     ·skip
      refine cond_f h6q ?_
      refine skips ?_
      refine k23 _ _ ?_
      refine sgsD [.det (PV ⟨n7,n10⟩),.store (.base 1) 0 (PC ⟨n7,n10⟩) (PC ⟨n7,n10⟩),.det (.bool true)] [0,1,2] [0,1,3] (fun L d=>D d 0 2++([L0.p 1,.bool true]++D d 4 91)) (fun L=>[(L0.b 0,PC x),(L0.b 1,PC ⟨n7,n10⟩),(L1.b 5,FC (finv 2)),(L2.b 15,FC n8),(L6.b 10,FC n7),(L9.b 7,FC n10),(L11.b 3,PC ⟨n7,n10⟩)]) hp14 ⟨
       oL 6 0 rP,oT rP,oA,
       trivial⟩ (fun L14 d14 w15 hp15=>?_)
      refine wp_ret ?_
      refine k13 _ _ _ ?_
      refine k9 _ _ _ ?_
      refine k8 _ _ _ ?_
      refine bodyPost_ret (v:=.tuple #[PV ⟨n7,n10⟩,.bool true]) ?_ rfl ?_
      ·exact rct rP rfl (by kernel_rfl) (by kernel_rfl) (hp15.bound 1 rfl).2
      ·exact ⟨fin3 h1q h2q h3q h4q h5q h6q,hp15.bel⟩
    ·skip
     refine drD [.det (.bool false),.det (.bool false),.det undef,.det undef,.det undef,.det undef,.det undef,.det (.bool false)] (Pl.nn 8) [0,1,3,3,15,3,63,127] (fun L d=>[d 0,L0.p 0,L0.p 1,d 3,L1.p 5,d 5,L2.p 15,d 7,.int .i64 0]++(D d 9 79++([.bool false]++D d 89 6))) (fun L=>[(L0.b 0,PC x),(L0.b 1,PC 0),(L1.b 5,FC (finv 2)),(L2.b 15,FC n8),(L6.b 10,FC n7),(L9.b 7,FC n10),(L11.b 3,PC ⟨n7,n10⟩)]) hp12 ⟨
      oMB h4q,oM,oS,oS,oS,oS,oS,oP,
      trivial⟩ (fun L12 d12 w13 hp13=>?_)
     refine k22 _ _ ?_
     refine cF ?_
     refine skips ?_
     refine k13 _ _ _ ?_
     refine block_normal ?_
     refine k12 _ _ ?_
     refine gsD [.det (.int .i64 0),.det (.int .i64 1),.det (.int .i64 1)] [0,1,2] [0,1,3] (fun L d=>[d 0,L0.p 0,L0.p 1,d 3,L1.p 5,d 5,L2.p 15,d 7,.int .i64 1]++D d 9 86) (fun L=>[(L0.b 0,PC x),(L0.b 1,PC 0),(L1.b 5,FC (finv 2)),(L2.b 15,FC n8),(L6.b 10,FC n7),(L9.b 7,FC n10),(L11.b 3,PC ⟨n7,n10⟩)]) hp13 ⟨
      oM,oJ .i64 .i64 0 1,oA,
      trivial⟩ (fun L13 d13 w14 hp14=>?_)
     refine k9 _ _ _ ?_
     refine then_normal ?_
     refine rounds_k (fun K23 k23=>?_)
     refine wp_seq_k (fun K24 k24=>?_)
     refine sgsD [.det (.int .i64 1),.det (.bool true)] [0,1] [0,1] (fun L d=>[d 0,L0.p 0,L0.p 1,d 3,L1.p 5,d 5,L2.p 15]++(D d 7 33++([.bool true]++D d 41 54))) (fun L=>[(L0.b 0,PC x),(L0.b 1,PC 0),(L1.b 5,FC (finv 2)),(L2.b 15,FC n8),(L6.b 10,FC n7),(L9.b 7,FC n10),(L11.b 3,PC ⟨n7,n10⟩)]) hp14 ⟨
      oM,oJ .i64 .i64 1 2,
      trivial⟩ (fun L14 d14 w15 hp15=>?_)
     refine cT ?_
     refine skips ?_
     refine k24 _ _ ?_
     refine wp_seq_k (fun K26 k26=>?_)
     refine wp_block_k (fun K27 k27=>?_)
     refine sdrD [.det (L0.p 0),.det (FV x.c0),.det (FV n8),.det (FV n17),.det (FV (finv 2)),.det (FV n18),.det (.tuple #[FV n19,.bool (isq n18)]),.det (.tuple #[FV n19,.bool (isq n18)]),.det (FV n19),.det (.bool (isq n18)),.alloc (FC 0),.store (.new 10) 0 (FC n19) (FC n19),.det (.bool (isq n18))] (Pl.nn 13) [0,1,0,7,0,31,63,127,255,255,0,1535,4095] (fun L d=>[d 0,L0.p 0,L0.p 1,d 3,L1.p 5,d 5,L2.p 15]++(D d 7 2++([L.p 10,.bool (isq n18)]++D d 11 84))) (fun L=>[(L0.b 0,PC x),(L0.b 1,PC 0),(L1.b 5,FC (finv 2)),(L2.b 15,FC n8),(L6.b 10,FC n7),(L9.b 7,FC n10),(L11.b 3,PC ⟨n7,n10⟩),(L.b 10,FC n19)]) hp15 ⟨
      oI aP,oL 0 0 rF,oL 3 0 rF,oR (nFR o17 (fun w=>R.add x.c0 n8 w trivial)),oL 2 0 rF,oR (nFR o18 (fun w=>R.mul n17 (finv 2) w trivial)),oR (nTR o19 (fun w=>R.sqrt n18 w trivial)),
      oM,oX,oX,oZ rF,oT rF,oA,
      trivial⟩ (fun L15 d15 w16 hp16=>?_)
     refine sgsD [.det (FV n8),.det (FV n20),.store (.base 3) 0 (FC n20) (FC n20)] [0,1,2] [0,1,3] (fun L d=>[d 0,L0.p 0,L0.p 1,d 3,L1.p 5]++(D d 5 4++([L15.p 10,.bool (isq n18)]++D d 11 84))) (fun L=>[(L0.b 0,PC x),(L0.b 1,PC 0),(L1.b 5,FC (finv 2)),(L2.b 15,FC n20),(L6.b 10,FC n7),(L9.b 7,FC n10),(L11.b 3,PC ⟨n7,n10⟩),(L15.b 10,FC n19)]) hp16 ⟨
      oL 3 0 rF,oR (nFR o20 (fun w=>R.neg n8 w trivial)),oT rF,
      trivial⟩ (fun L16 d16 w17 hp17=>?_)
     refine wp_seq_k (fun K30 k30=>?_)
     refine sgsD [.det (.bool (isq n18)),.det (.bool (!isq n18))] [0,1] [0,1] (fun L d=>[d 0,L0.p 0,L0.p 1,d 3,L1.p 5]++(D d 5 4++([L15.p 10]++(D d 10 46++([.bool (!isq n18)]++D d 57 38))))) (fun L=>[(L0.b 0,PC x),(L0.b 1,PC 0),(L1.b 5,FC (finv 2)),(L2.b 15,FC n20),(L6.b 10,FC n7),(L9.b 7,FC n10),(L11.b 3,PC ⟨n7,n10⟩),(L15.b 10,FC n19)]) hp17 ⟨
      oM,oN,
      trivial⟩ (fun L17 d17 w18 hp18=>?_)
     have h5q:=kn2 h1q h2q h3q h4q
     refine cond_f (nt_t h5q) ?_
     refine skips ?_
     refine k30 _ _ ?_
     refine sgsD [.det (L0.p 0),.det (FV x.c0),.det (FV n9),.det (.tuple #[FV n10,.bool (isq n9)]),.det (.tuple #[FV n10,.bool (isq n9)]),.det (FV n10),.det (.bool (isq n9)),.alloc (FC 0),.store (.new 7) 0 (FC n10) (FC n10),.det (.bool false)] (Pl.nn 10) [0,1,3,7,15,31,31,0,191,511] (fun L d=>[d 0,L0.p 0,L0.p 1,d 3,L1.p 5]++(D d 5 4++([L15.p 10,d 10,L.p 7]++D d 12 83))) (fun L=>[(L0.b 0,PC x),(L0.b 1,PC 0),(L1.b 5,FC (finv 2)),(L2.b 15,FC n20),(L6.b 10,FC n7),(L9.b 7,FC n10),(L11.b 3,PC ⟨n7,n10⟩),(L15.b 10,FC n19),(L.b 7,FC n10)]) hp18 ⟨
      oI aP,oL 0 0 rF,oR (nFR o9 (fun w=>R.neg x.c0 w trivial)),oR (nTR o10 (fun w=>R.sqrt n9 w trivial)),oM,oX,oX,oZ rF,oT rF,oAB h4q,
      trivial⟩ (fun L18 d18 w19 hp19=>?_)
     refine wp_seq_k (fun K33 k33=>?_)
     refine sgsD [.det (FV n19),.det (FV 0),.det (.bool (!decide (n19=0)))] [0,1,2] [0,0,3] (fun L d=>[d 0,L0.p 0,L0.p 1,d 3,L1.p 5]++(D d 5 4++([L15.p 10,d 10,L18.p 7]++(D d 12 54++([.bool (!decide (n19=0))]++D d 67 28))))) (fun L=>[(L0.b 0,PC x),(L0.b 1,PC 0),(L1.b 5,FC (finv 2)),(L2.b 15,FC n20),(L6.b 10,FC n7),(L9.b 7,FC n10),(L11.b 3,PC ⟨n7,n10⟩),(L15.b 10,FC n19),(L18.b 7,FC n10)]) hp19 ⟨
      oL 7 0 rF,oD buildF0,oU (a:=n19) (b:=0) qF rfl,
      trivial⟩ (fun L19 d19 w20 hp20=>?_)
     have h6q:=kn3 h1q h2q h3q h4q h5q
     refine cond_t h6q ?_
     refine sgsD [.det (FV n19),.det (.tuple #[FV (finv n19),.int .i64 0]),.det (.tuple #[FV (finv n19),.int .i64 0]),.det (FV (finv n19)),.det (.int .i64 0),.alloc (FC 0),.store (.new 5) 0 (FC (finv n19)) (FC (finv n19)),.det (.int .i64 0)] (Pl.nn 8) [0,1,3,7,7,0,47,127] (fun L d=>[d 0,L0.p 0,L0.p 1,d 3,L1.p 5]++(D d 5 4++([L15.p 10,d 10,L18.p 7,d 12,L.p 5]++D d 14 81))) (fun L=>[(L0.b 0,PC x),(L0.b 1,PC 0),(L1.b 5,FC (finv 2)),(L2.b 15,FC n20),(L6.b 10,FC n7),(L9.b 7,FC n10),(L11.b 3,PC ⟨n7,n10⟩),(L15.b 10,FC n19),(L18.b 7,FC n10),(L.b 5,FC (finv n19))]) hp20 ⟨
      oL 7 0 rF,oH (v:=.tuple #[FV (finv n19),.int .i64 0]) (vs:=#[FV n19]) (fun w _ _=>R.inv n19 w trivial (of_not_t h6q)),oM,oX,oX,oZ rF,oT rF,oA,
      trivial⟩ (fun L20 d20 w21 hp21=>?_)
     refine drD [.det (pt (L0.b 0) 6),.det (FV x.c1),.det (FV (finv 2)),.det (FV n11),.det (FV (finv n19)),.det (FV n21),.store (.base 8) 0 (FC n21) (FC n21),.det (.bool true)] (Pl.nn 8) [0,1,0,7,0,31,63,127] (fun L d=>[d 0,L0.p 0,L0.p 1]++(D d 3 6++([L15.p 10,d 10,L18.p 7,.bool true]++D d 13 82))) (fun L=>[(L0.b 0,PC x),(L0.b 1,PC 0),(L1.b 5,FC (finv 2)),(L2.b 15,FC n20),(L6.b 10,FC n7),(L9.b 7,FC n10),(L11.b 3,PC ⟨n7,n10⟩),(L15.b 10,FC n19),(L18.b 7,FC n21),(L20.b 5,FC (finv n19))]) hp21 ⟨
      oI aP,oL 0 6 rF,oL 2 0 rF,oR (nFR o11 (fun w=>R.mul x.c1 (finv 2) w trivial)),oL 9 0 rF,oR (nFR o21 (fun w=>R.mul n11 (finv n19) w trivial)),oT rF,
      oA,
      trivial⟩ (fun L21 d21 w22 hp22=>?_)
     refine k33 _ _ ?_
     refine sgsD [.det (FV n19),.det (FV n21),.det (PV ⟨n19,n21⟩),.alloc (PC 0),.store (.new 3) 0 (PC ⟨n19,n21⟩) (PC ⟨n19,n21⟩)] (Pl.nn 5) [0,0,3,0,15] (fun L d=>[d 0,L0.p 0,L0.p 1]++(D d 3 9++([.bool true]++(D d 13 2++([L.p 3]++D d 16 79))))) (fun L=>[(L0.b 0,PC x),(L0.b 1,PC 0),(L1.b 5,FC (finv 2)),(L2.b 15,FC n20),(L6.b 10,FC n7),(L9.b 7,FC n10),(L11.b 3,PC ⟨n7,n10⟩),(L15.b 10,FC n19),(L18.b 7,FC n21),(L20.b 5,FC (finv n19)),(L.b 3,PC ⟨n19,n21⟩)]) hp22 ⟨
      oL 7 0 rF,oL 8 0 rF,oD (buildP n19 n21),oZ rP,oT rP,
      trivial⟩ (fun L22 d22 w23 hp23=>?_)
     refine sdrD [.det (.bool true),.det (.bool true),.det (PV ⟨n19,n21⟩),.det (PV ⟨n19,n21⟩),.det (PV n22),.det (PV x),.det (.bool (decide (n22=x))),.det (.bool (decide (n22=x)))] (Pl.nn 8) [0,1,3,3,15,3,63,127] (fun L d=>D d 0 2++([L0.p 1]++(D d 3 12++([L22.p 3]++(D d 16 72++([.bool (decide (n22=x))]++D d 89 6)))))) (fun L=>[(L0.b 0,PC x),(L0.b 1,PC 0),(L1.b 5,FC (finv 2)),(L2.b 15,FC n20),(L6.b 10,FC n7),(L9.b 7,FC n10),(L11.b 3,PC ⟨n7,n10⟩),(L15.b 10,FC n19),(L18.b 7,FC n21),(L20.b 5,FC (finv n19)),(L22.b 3,PC ⟨n19,n21⟩)]) hp23 ⟨
      oM,oM,oL 10 0 rP,oL 10 0 rP,oR (nPR o22 (ref5Mul2 R ⟨n19,n21⟩ ⟨n19,n21⟩)),oL 0 0 rP,oE (a:=n22) (b:=x) qP rfl,oP,
      trivial⟩ (fun L23 d23 w24 hp24=>?_)
     have h7q:=kn4 h1q h2q h3q h4q h5q h6q
     refine cond_t h7q ?_
     refine wp_seq_k (fun K38 k38=>?_)
     refine sgsD [.det (PV ⟨n19,n21⟩),.det (.bool ((⟨n19,n21⟩:F2).great))] [0,1] [0,1] (fun L d=>D d 0 2++([L0.p 1]++(D d 3 12++([L22.p 3]++(D d 16 74++([.bool ((⟨n19,n21⟩:F2).great)]++D d 91 4)))))) (fun L=>[(L0.b 0,PC x),(L0.b 1,PC 0),(L1.b 5,FC (finv 2)),(L2.b 15,FC n20),(L6.b 10,FC n7),(L9.b 7,FC n10),(L11.b 3,PC ⟨n7,n10⟩),(L15.b 10,FC n19),(L18.b 7,FC n21),(L20.b 5,FC (finv n19)),(L22.b 3,PC ⟨n19,n21⟩)]) hp24 ⟨
      oL 10 0 rP,oR (ref5Great2 R ⟨n19,n21⟩),
      trivial⟩ (fun L24 d24 w25 hp25=>?_)
     rcases Bool.eq_false_or_eq_true ((⟨n19,n21⟩:F2).great) with h8q | h8q
     ·skip
      refine cond_t h8q ?_
      refine gsD [.det (PV ⟨n19,n21⟩),.det (PV n23),.store (.base 10) 0 (PC n23) (PC n23)] [0,1,2] [0,1,3] (fun L d=>D d 0 2++([L0.p 1]++(D d 3 12++([L22.p 3]++D d 16 79)))) (fun L=>[(L0.b 0,PC x),(L0.b 1,PC 0),(L1.b 5,FC (finv 2)),(L2.b 15,FC n20),(L6.b 10,FC n7),(L9.b 7,FC n10),(L11.b 3,PC ⟨n7,n10⟩),(L15.b 10,FC n19),(L18.b 7,FC n21),(L20.b 5,FC (finv n19)),(L22.b 3,PC n23)]) hp25 ⟨
       oL 10 0 rP,oR (nPR o23 (ref5Neg2 R ⟨n19,n21⟩)),oT rP,
       trivial⟩ (fun L25 d25 w26 hp26=>?_)
      refine k38 _ _ ?_
      refine sgsD [.det (PV n23),.store (.base 1) 0 (PC n23) (PC n23),.det (.bool true)] [0,1,2] [0,1,3] (fun L d=>D d 0 2++([L0.p 1,.bool true]++D d 4 91)) (fun L=>[(L0.b 0,PC x),(L0.b 1,PC n23),(L1.b 5,FC (finv 2)),(L2.b 15,FC n20),(L6.b 10,FC n7),(L9.b 7,FC n10),(L11.b 3,PC ⟨n7,n10⟩),(L15.b 10,FC n19),(L18.b 7,FC n21),(L20.b 5,FC (finv n19)),(L22.b 3,PC n23)]) hp26 ⟨
       oL 10 0 rP,oT rP,oA,
       trivial⟩ (fun L26 d26 w27 hp27=>?_)
      refine wp_ret ?_
      refine k27 _ _ _ ?_
      refine k23 _ _ _ ?_
      refine k8 _ _ _ ?_
      refine bodyPost_ret (v:=.tuple #[PV n23,.bool true]) ?_ rfl ?_
      ·exact rct rP rfl (by kernel_rfl) (by kernel_rfl) (hp27.bound 1 rfl).2
      ·exact ⟨fin4 h1q h2q h3q h4q h5q h6q h7q h8q,hp27.bel⟩
     ·skip
      refine cond_f h8q ?_
      refine skips ?_
      refine k38 _ _ ?_
      refine sgsD [.det (PV ⟨n19,n21⟩),.store (.base 1) 0 (PC ⟨n19,n21⟩) (PC ⟨n19,n21⟩),.det (.bool true)] [0,1,2] [0,1,3] (fun L d=>D d 0 2++([L0.p 1,.bool true]++D d 4 91)) (fun L=>[(L0.b 0,PC x),(L0.b 1,PC ⟨n19,n21⟩),(L1.b 5,FC (finv 2)),(L2.b 15,FC n20),(L6.b 10,FC n7),(L9.b 7,FC n10),(L11.b 3,PC ⟨n7,n10⟩),(L15.b 10,FC n19),(L18.b 7,FC n21),(L20.b 5,FC (finv n19)),(L22.b 3,PC ⟨n19,n21⟩)]) hp25 ⟨
       oL 10 0 rP,oT rP,oA,
       trivial⟩ (fun L25 d25 w26 hp26=>?_)
      refine wp_ret ?_
      refine k27 _ _ _ ?_
      refine k23 _ _ _ ?_
      refine k8 _ _ _ ?_
      refine bodyPost_ret (v:=.tuple #[PV ⟨n19,n21⟩,.bool true]) ?_ rfl ?_
      ·exact rct rP rfl (by kernel_rfl) (by kernel_rfl) (hp26.bound 1 rfl).2
      ·exact ⟨fin5 h1q h2q h3q h4q h5q h6q h7q h8q,hp26.bel⟩
  ·skip
   refine cond_t (nt_f h2q) ?_
   refine wp_exit ?_
   refine then_exit ?_
   refine k13 _ _ _ ?_
   refine exit_in ?_
   refine k12 _ _ ?_
   refine gsD [.det (.int .i64 0),.det (.int .i64 1),.det (.int .i64 1)] [0,1,2] [0,1,3] (fun L d=>[d 0,L0.p 0,L0.p 1,d 3,L1.p 5,d 5,L2.p 15,d 7,.int .i64 1]++D d 9 86) (fun L=>[(L0.b 0,PC x),(L0.b 1,PC 0),(L1.b 5,FC (finv 2)),(L2.b 15,FC n8),(L6.b 10,FC n7)]) hp9 ⟨
    oM,oJ .i64 .i64 0 1,oA,
    trivial⟩ (fun L9 d9 w10 hp10=>?_)
   refine k9 _ _ _ ?_
   refine then_normal ?_
   refine rounds_k (fun K18 k18=>?_)
   refine wp_seq_k (fun K19 k19=>?_)
   refine sgsD [.det (.int .i64 1),.det (.bool true)] [0,1] [0,1] (fun L d=>[d 0,L0.p 0,L0.p 1,d 3,L1.p 5,d 5,L2.p 15]++(D d 7 33++([.bool true]++D d 41 54))) (fun L=>[(L0.b 0,PC x),(L0.b 1,PC 0),(L1.b 5,FC (finv 2)),(L2.b 15,FC n8),(L6.b 10,FC n7)]) hp10 ⟨
    oM,oJ .i64 .i64 1 2,
    trivial⟩ (fun L10 d10 w11 hp11=>?_)
   refine cT ?_
   refine skips ?_
   refine k19 _ _ ?_
   refine wp_seq_k (fun K21 k21=>?_)
   refine wp_block_k (fun K22 k22=>?_)
   refine sdrD [.det (L0.p 0),.det (FV x.c0),.det (FV n8),.det (FV n17),.det (FV (finv 2)),.det (FV n18),.det (.tuple #[FV n19,.bool (isq n18)]),.det (.tuple #[FV n19,.bool (isq n18)]),.det (FV n19),.det (.bool (isq n18)),.alloc (FC 0),.store (.new 10) 0 (FC n19) (FC n19),.det (.bool (isq n18))] (Pl.nn 13) [0,1,0,7,0,31,63,127,255,255,0,1535,4095] (fun L d=>[d 0,L0.p 0,L0.p 1,d 3,L1.p 5,d 5,L2.p 15]++(D d 7 2++([L.p 10,.bool (isq n18)]++D d 11 84))) (fun L=>[(L0.b 0,PC x),(L0.b 1,PC 0),(L1.b 5,FC (finv 2)),(L2.b 15,FC n8),(L6.b 10,FC n7),(L.b 10,FC n19)]) hp11 ⟨
    oI aP,oL 0 0 rF,oL 3 0 rF,oR (nFR o17 (fun w=>R.add x.c0 n8 w trivial)),oL 2 0 rF,oR (nFR o18 (fun w=>R.mul n17 (finv 2) w trivial)),oR (nTR o19 (fun w=>R.sqrt n18 w trivial)),
    oM,oX,oX,oZ rF,oT rF,oA,
    trivial⟩ (fun L11 d11 w12 hp12=>?_)
   refine sgsD [.det (FV n8),.det (FV n20),.store (.base 3) 0 (FC n20) (FC n20)] [0,1,2] [0,1,3] (fun L d=>[d 0,L0.p 0,L0.p 1,d 3,L1.p 5]++(D d 5 4++([L11.p 10,.bool (isq n18)]++D d 11 84))) (fun L=>[(L0.b 0,PC x),(L0.b 1,PC 0),(L1.b 5,FC (finv 2)),(L2.b 15,FC n20),(L6.b 10,FC n7),(L11.b 10,FC n19)]) hp12 ⟨
    oL 3 0 rF,oR (nFR o20 (fun w=>R.neg n8 w trivial)),oT rF,
    trivial⟩ (fun L12 d12 w13 hp13=>?_)
   refine wp_seq_k (fun K25 k25=>?_)
   refine sgsD [.det (.bool (isq n18)),.det (.bool (!isq n18))] [0,1] [0,1] (fun L d=>[d 0,L0.p 0,L0.p 1,d 3,L1.p 5]++(D d 5 4++([L11.p 10]++(D d 10 46++([.bool (!isq n18)]++D d 57 38))))) (fun L=>[(L0.b 0,PC x),(L0.b 1,PC 0),(L1.b 5,FC (finv 2)),(L2.b 15,FC n20),(L6.b 10,FC n7),(L11.b 10,FC n19)]) hp13 ⟨
    oM,oN,
    trivial⟩ (fun L13 d13 w14 hp14=>?_)
   have h3q:=kn5 h1q h2q
   refine cond_f (nt_t h3q) ?_
   refine skips ?_
   refine k25 _ _ ?_
   refine sgsD [.det (L0.p 0),.det (FV x.c0),.det (FV n9),.det (.tuple #[FV n10,.bool (isq n9)]),.det (.tuple #[FV n10,.bool (isq n9)]),.det (FV n10),.det (.bool (isq n9)),.alloc (FC 0),.store (.new 7) 0 (FC n10) (FC n10),.det (.bool (isq n9))] (Pl.nn 10) [0,1,3,7,15,31,31,0,191,511] (fun L d=>[d 0,L0.p 0,L0.p 1,d 3,L1.p 5]++(D d 5 4++([L11.p 10,d 10,L.p 7,.bool (isq n9)]++D d 13 82))) (fun L=>[(L0.b 0,PC x),(L0.b 1,PC 0),(L1.b 5,FC (finv 2)),(L2.b 15,FC n20),(L6.b 10,FC n7),(L11.b 10,FC n19),(L.b 7,FC n10)]) hp14 ⟨
    oI aP,oL 0 0 rF,oR (nFR o9 (fun w=>R.neg x.c0 w trivial)),oR (nTR o10 (fun w=>R.sqrt n9 w trivial)),oM,oX,oX,oZ rF,oT rF,oA,
    trivial⟩ (fun L14 d14 w15 hp15=>?_)
   refine wp_seq_k (fun K28 k28=>?_)
   refine sgsD [.det (FV n19),.det (FV 0),.det (.bool (!decide (n19=0)))] [0,1,2] [0,0,3] (fun L d=>[d 0,L0.p 0,L0.p 1,d 3,L1.p 5]++(D d 5 4++([L11.p 10,d 10,L14.p 7,.bool (isq n9)]++(D d 13 53++([.bool (!decide (n19=0))]++D d 67 28))))) (fun L=>[(L0.b 0,PC x),(L0.b 1,PC 0),(L1.b 5,FC (finv 2)),(L2.b 15,FC n20),(L6.b 10,FC n7),(L11.b 10,FC n19),(L14.b 7,FC n10)]) hp15 ⟨
    oL 5 0 rF,oD buildF0,oU (a:=n19) (b:=0) qF rfl,
    trivial⟩ (fun L15 d15 w16 hp16=>?_)
   rcases Bool.eq_false_or_eq_true (!decide (n19=0)) with h4q | h4q
   ·skip
    refine cond_t h4q ?_
    refine sgsD [.det (FV n19),.det (.tuple #[FV (finv n19),.int .i64 0]),.det (.tuple #[FV (finv n19),.int .i64 0]),.det (FV (finv n19)),.det (.int .i64 0),.alloc (FC 0),.store (.new 5) 0 (FC (finv n19)) (FC (finv n19)),.det (.int .i64 0)] (Pl.nn 8) [0,1,3,7,7,0,47,127] (fun L d=>[d 0,L0.p 0,L0.p 1,d 3,L1.p 5]++(D d 5 4++([L11.p 10,d 10,L14.p 7,d 12,L.p 5]++D d 14 81))) (fun L=>[(L0.b 0,PC x),(L0.b 1,PC 0),(L1.b 5,FC (finv 2)),(L2.b 15,FC n20),(L6.b 10,FC n7),(L11.b 10,FC n19),(L14.b 7,FC n10),(L.b 5,FC (finv n19))]) hp16 ⟨
     oL 5 0 rF,oH (v:=.tuple #[FV (finv n19),.int .i64 0]) (vs:=#[FV n19]) (fun w _ _=>R.inv n19 w trivial (of_not_t h4q)),oM,oX,oX,oZ rF,oT rF,oA,
     trivial⟩ (fun L16 d16 w17 hp17=>?_)
    refine drD [.det (pt (L0.b 0) 6),.det (FV x.c1),.det (FV (finv 2)),.det (FV n11),.det (FV (finv n19)),.det (FV n21),.store (.base 6) 0 (FC n21) (FC n21),.det (.bool true)] (Pl.nn 8) [0,1,0,7,0,31,63,127] (fun L d=>[d 0,L0.p 0,L0.p 1]++(D d 3 6++([L11.p 10,d 10,L14.p 7,.bool true]++D d 13 82))) (fun L=>[(L0.b 0,PC x),(L0.b 1,PC 0),(L1.b 5,FC (finv 2)),(L2.b 15,FC n20),(L6.b 10,FC n7),(L11.b 10,FC n19),(L14.b 7,FC n21),(L16.b 5,FC (finv n19))]) hp17 ⟨
     oI aP,oL 0 6 rF,oL 2 0 rF,oR (nFR o11 (fun w=>R.mul x.c1 (finv 2) w trivial)),oL 7 0 rF,oR (nFR o21 (fun w=>R.mul n11 (finv n19) w trivial)),oT rF,
     oA,
     trivial⟩ (fun L17 d17 w18 hp18=>?_)
    refine k28 _ _ ?_
    refine sgsD [.det (FV n19),.det (FV n21),.det (PV ⟨n19,n21⟩),.alloc (PC 0),.store (.new 3) 0 (PC ⟨n19,n21⟩) (PC ⟨n19,n21⟩)] (Pl.nn 5) [0,0,3,0,15] (fun L d=>[d 0,L0.p 0,L0.p 1]++(D d 3 9++([.bool true]++(D d 13 2++([L.p 3]++D d 16 79))))) (fun L=>[(L0.b 0,PC x),(L0.b 1,PC 0),(L1.b 5,FC (finv 2)),(L2.b 15,FC n20),(L6.b 10,FC n7),(L11.b 10,FC n19),(L14.b 7,FC n21),(L16.b 5,FC (finv n19)),(L.b 3,PC ⟨n19,n21⟩)]) hp18 ⟨
     oL 5 0 rF,oL 6 0 rF,oD (buildP n19 n21),oZ rP,oT rP,
     trivial⟩ (fun L18 d18 w19 hp19=>?_)
    refine sdrD [.det (.bool true),.det (.bool true),.det (PV ⟨n19,n21⟩),.det (PV ⟨n19,n21⟩),.det (PV n22),.det (PV x),.det (.bool (decide (n22=x))),.det (.bool (decide (n22=x)))] (Pl.nn 8) [0,1,3,3,15,3,63,127] (fun L d=>D d 0 2++([L0.p 1]++(D d 3 12++([L18.p 3]++(D d 16 72++([.bool (decide (n22=x))]++D d 89 6)))))) (fun L=>[(L0.b 0,PC x),(L0.b 1,PC 0),(L1.b 5,FC (finv 2)),(L2.b 15,FC n20),(L6.b 10,FC n7),(L11.b 10,FC n19),(L14.b 7,FC n21),(L16.b 5,FC (finv n19)),(L18.b 3,PC ⟨n19,n21⟩)]) hp19 ⟨
     oM,oM,oL 8 0 rP,oL 8 0 rP,oR (nPR o22 (ref5Mul2 R ⟨n19,n21⟩ ⟨n19,n21⟩)),oL 0 0 rP,oE (a:=n22) (b:=x) qP rfl,oP,
     trivial⟩ (fun L19 d19 w20 hp20=>?_)
    have h5q:=kn6 h1q h2q h3q h4q
    refine cond_t h5q ?_
    refine wp_seq_k (fun K33 k33=>?_)
    refine sgsD [.det (PV ⟨n19,n21⟩),.det (.bool ((⟨n19,n21⟩:F2).great))] [0,1] [0,1] (fun L d=>D d 0 2++([L0.p 1]++(D d 3 12++([L18.p 3]++(D d 16 74++([.bool ((⟨n19,n21⟩:F2).great)]++D d 91 4)))))) (fun L=>[(L0.b 0,PC x),(L0.b 1,PC 0),(L1.b 5,FC (finv 2)),(L2.b 15,FC n20),(L6.b 10,FC n7),(L11.b 10,FC n19),(L14.b 7,FC n21),(L16.b 5,FC (finv n19)),(L18.b 3,PC ⟨n19,n21⟩)]) hp20 ⟨
     oL 8 0 rP,oR (ref5Great2 R ⟨n19,n21⟩),
     trivial⟩ (fun L20 d20 w21 hp21=>?_)
    rcases Bool.eq_false_or_eq_true ((⟨n19,n21⟩:F2).great) with h6q | h6q
    ·skip
     refine cond_t h6q ?_
     refine gsD [.det (PV ⟨n19,n21⟩),.det (PV n23),.store (.base 8) 0 (PC n23) (PC n23)] [0,1,2] [0,1,3] (fun L d=>D d 0 2++([L0.p 1]++(D d 3 12++([L18.p 3]++D d 16 79)))) (fun L=>[(L0.b 0,PC x),(L0.b 1,PC 0),(L1.b 5,FC (finv 2)),(L2.b 15,FC n20),(L6.b 10,FC n7),(L11.b 10,FC n19),(L14.b 7,FC n21),(L16.b 5,FC (finv n19)),(L18.b 3,PC n23)]) hp21 ⟨
      oL 8 0 rP,oR (nPR o23 (ref5Neg2 R ⟨n19,n21⟩)),oT rP,
      trivial⟩ (fun L21 d21 w22 hp22=>?_)
     refine k33 _ _ ?_
     refine sgsD [.det (PV n23),.store (.base 1) 0 (PC n23) (PC n23),.det (.bool true)] [0,1,2] [0,1,3] (fun L d=>D d 0 2++([L0.p 1,.bool true]++D d 4 91)) (fun L=>[(L0.b 0,PC x),(L0.b 1,PC n23),(L1.b 5,FC (finv 2)),(L2.b 15,FC n20),(L6.b 10,FC n7),(L11.b 10,FC n19),(L14.b 7,FC n21),(L16.b 5,FC (finv n19)),(L18.b 3,PC n23)]) hp22 ⟨
      oL 8 0 rP,oT rP,oA,
      trivial⟩ (fun L22 d22 w23 hp23=>?_)
     refine wp_ret ?_
     refine k22 _ _ _ ?_
     refine k18 _ _ _ ?_
     refine k8 _ _ _ ?_
     refine bodyPost_ret (v:=.tuple #[PV n23,.bool true]) ?_ rfl ?_
     ·exact rct rP rfl (by kernel_rfl) (by kernel_rfl) (hp23.bound 1 rfl).2
     ·exact ⟨fin6 h1q h2q h3q h4q h5q h6q,hp23.bel⟩
    ·skip
     refine cond_f h6q ?_
     refine skips ?_
     refine k33 _ _ ?_
     refine sgsD [.det (PV ⟨n19,n21⟩),.store (.base 1) 0 (PC ⟨n19,n21⟩) (PC ⟨n19,n21⟩),.det (.bool true)] [0,1,2] [0,1,3] (fun L d=>D d 0 2++([L0.p 1,.bool true]++D d 4 91)) (fun L=>[(L0.b 0,PC x),(L0.b 1,PC ⟨n19,n21⟩),(L1.b 5,FC (finv 2)),(L2.b 15,FC n20),(L6.b 10,FC n7),(L11.b 10,FC n19),(L14.b 7,FC n21),(L16.b 5,FC (finv n19)),(L18.b 3,PC ⟨n19,n21⟩)]) hp21 ⟨
      oL 8 0 rP,oT rP,oA,
      trivial⟩ (fun L21 d21 w22 hp22=>?_)
     refine wp_ret ?_
     refine k22 _ _ _ ?_
     refine k18 _ _ _ ?_
     refine k8 _ _ _ ?_
     refine bodyPost_ret (v:=.tuple #[PV ⟨n19,n21⟩,.bool true]) ?_ rfl ?_
     ·exact rct rP rfl (by kernel_rfl) (by kernel_rfl) (hp22.bound 1 rfl).2
     ·exact ⟨fin7 h1q h2q h3q h4q h5q h6q,hp22.bel⟩
   ·skip
    refine cond_f h4q ?_
    refine skips ?_
    refine k28 _ _ ?_
    refine sgsD [.det (FV n19),.det (FV n10),.det (PV ⟨n19,n10⟩),.alloc (PC 0),.store (.new 3) 0 (PC ⟨n19,n10⟩) (PC ⟨n19,n10⟩)] (Pl.nn 5) [0,0,3,0,15] (fun L d=>[d 0,L0.p 0,L0.p 1]++(D d 3 9++([.bool (isq n9)]++(D d 13 2++([L.p 3]++D d 16 79))))) (fun L=>[(L0.b 0,PC x),(L0.b 1,PC 0),(L1.b 5,FC (finv 2)),(L2.b 15,FC n20),(L6.b 10,FC n7),(L11.b 10,FC n19),(L14.b 7,FC n10),(L.b 3,PC ⟨n19,n10⟩)]) hp16 ⟨
     oL 5 0 rF,oL 6 0 rF,oD (buildP n19 n10),oZ rP,oT rP,
     trivial⟩ (fun L16 d16 w17 hp17=>?_)
    refine wp_seq_k (fun K31 k31=>?_)
    have h5q:=kn7 h1q h2q h3q h4q
    refine drD [.det (.bool true),.det (.bool true),.det (PV ⟨n19,n10⟩),.det (PV ⟨n19,n10⟩),.det (PV n24),.det (PV x),.det (.bool (decide (n24=x))),.det (.bool (decide (n24=x)))] (Pl.nn 8) [0,1,3,3,15,3,63,127] (fun L d=>D d 0 2++([L0.p 1]++(D d 3 12++([L16.p 3]++(D d 16 72++([.bool (decide (n24=x))]++D d 89 6)))))) (fun L=>[(L0.b 0,PC x),(L0.b 1,PC 0),(L1.b 5,FC (finv 2)),(L2.b 15,FC n20),(L6.b 10,FC n7),(L11.b 10,FC n19),(L14.b 7,FC n10),(L16.b 3,PC ⟨n19,n10⟩)]) hp17 ⟨
     oMB h5q,oM,oL 7 0 rP,oL 7 0 rP,oR (nPR o24 (ref5Mul2 R ⟨n19,n10⟩ ⟨n19,n10⟩)),oL 0 0 rP,oE (a:=n24) (b:=x) qP rfl,oP,
     trivial⟩ (fun L17 d17 w18 hp18=>?_)
    refine k31 _ _ ?_
    have h6q:=kn8 h1q h2q h3q h4q h5q
    refine cond_t h6q ?_
    refine wp_seq_k (fun K32 k32=>?_)
    refine sgsD [.det (PV ⟨n19,n10⟩),.det (.bool ((⟨n19,n10⟩:F2).great))] [0,1] [0,1] (fun L d=>D d 0 2++([L0.p 1]++(D d 3 12++([L16.p 3]++(D d 16 74++([.bool ((⟨n19,n10⟩:F2).great)]++D d 91 4)))))) (fun L=>[(L0.b 0,PC x),(L0.b 1,PC 0),(L1.b 5,FC (finv 2)),(L2.b 15,FC n20),(L6.b 10,FC n7),(L11.b 10,FC n19),(L14.b 7,FC n10),(L16.b 3,PC ⟨n19,n10⟩)]) hp18 ⟨
     oL 7 0 rP,oR (ref5Great2 R ⟨n19,n10⟩),
     trivial⟩ (fun L18 d18 w19 hp19=>?_)
    rcases Bool.eq_false_or_eq_true ((⟨n19,n10⟩:F2).great) with h7q | h7q
    ·skip
     refine cond_t h7q ?_
     refine gsD [.det (PV ⟨n19,n10⟩),.det (PV n25),.store (.base 7) 0 (PC n25) (PC n25)] [0,1,2] [0,1,3] (fun L d=>D d 0 2++([L0.p 1]++(D d 3 12++([L16.p 3]++D d 16 79)))) (fun L=>[(L0.b 0,PC x),(L0.b 1,PC 0),(L1.b 5,FC (finv 2)),(L2.b 15,FC n20),(L6.b 10,FC n7),(L11.b 10,FC n19),(L14.b 7,FC n10),(L16.b 3,PC n25)]) hp19 ⟨
      oL 7 0 rP,oR (nPR o25 (ref5Neg2 R ⟨n19,n10⟩)),oT rP,
      trivial⟩ (fun L19 d19 w20 hp20=>?_)
     refine k32 _ _ ?_
     refine sgsD [.det (PV n25),.store (.base 1) 0 (PC n25) (PC n25),.det (.bool true)] [0,1,2] [0,1,3] (fun L d=>D d 0 2++([L0.p 1,.bool true]++D d 4 91)) (fun L=>[(L0.b 0,PC x),(L0.b 1,PC n25),(L1.b 5,FC (finv 2)),(L2.b 15,FC n20),(L6.b 10,FC n7),(L11.b 10,FC n19),(L14.b 7,FC n10),(L16.b 3,PC n25)]) hp20 ⟨
      oL 7 0 rP,oT rP,oA,
      trivial⟩ (fun L20 d20 w21 hp21=>?_)
     refine wp_ret ?_
     refine k22 _ _ _ ?_
     refine k18 _ _ _ ?_
     refine k8 _ _ _ ?_
     refine bodyPost_ret (v:=.tuple #[PV n25,.bool true]) ?_ rfl ?_
     ·exact rct rP rfl (by kernel_rfl) (by kernel_rfl) (hp21.bound 1 rfl).2
     ·exact ⟨fin8 h1q h2q h3q h4q h5q h6q h7q,hp21.bel⟩
    ·skip
     refine cond_f h7q ?_
     refine skips ?_
     refine k32 _ _ ?_
     refine sgsD [.det (PV ⟨n19,n10⟩),.store (.base 1) 0 (PC ⟨n19,n10⟩) (PC ⟨n19,n10⟩),.det (.bool true)] [0,1,2] [0,1,3] (fun L d=>D d 0 2++([L0.p 1,.bool true]++D d 4 91)) (fun L=>[(L0.b 0,PC x),(L0.b 1,PC ⟨n19,n10⟩),(L1.b 5,FC (finv 2)),(L2.b 15,FC n20),(L6.b 10,FC n7),(L11.b 10,FC n19),(L14.b 7,FC n10),(L16.b 3,PC ⟨n19,n10⟩)]) hp19 ⟨
      oL 7 0 rP,oT rP,oA,
      trivial⟩ (fun L19 d19 w20 hp20=>?_)
     refine wp_ret ?_
     refine k22 _ _ _ ?_
     refine k18 _ _ _ ?_
     refine k8 _ _ _ ?_
     refine bodyPost_ret (v:=.tuple #[PV ⟨n19,n10⟩,.bool true]) ?_ rfl ?_
     ·exact rct rP rfl (by kernel_rfl) (by kernel_rfl) (hp20.bound 1 rfl).2
     ·exact ⟨fin9 h1q h2q h3q h4q h5q h6q h7q,hp20.bel⟩
 ·skip
  refine cond_t (nt_f h1q) ?_
  refine sgsD [.det (PV 0),.store (.base 1) 0 (PC 0) (PC 0),.det (.bool false)] [0,1,2] [0,1,3] (fun L d=>D d 0 2++([L0.p 1,.bool false]++D d 4 91)) (fun L=>[(L0.b 0,PC x),(L0.b 1,PC 0),(L1.b 5,FC (finv 2)),(L2.b 15,FC n4)]) hp4 ⟨
   oD buildP0,oT rP,oA,
   trivial⟩ (fun L4 d4 w5 hp5=>?_)
  refine wp_ret ?_
  refine bodyPost_ret (v:=.tuple #[PV 0,.bool false]) ?_ rfl ?_
  ·exact rct rP rfl (by kernel_rfl) (by kernel_rfl) (hp5.bound 1 rfl).2
  ·exact ⟨fin10 h1q,hp5.bel⟩
end Go.Proofs.YtmibajbpimcfnaaGreatDoor.fpn
