/- The moduli of the scalars and of the base field are primes. -/
import Derived.Test.YtgdmjngajjoliaaDoorNum
namespace Go.Proofs.YtgdmjngajjoliaaDoor

theorem pr_2 : Pr 2 := Pr.td (k := 0) (by decide +kernel) (by decide) (by decide)
theorem pr_254760293 : Pr 254760293 := Pr.td (k := 15960) (by decide +kernel) (by decide) (by decide)
theorem pr_52437899 : Pr 52437899 := Pr.td (k := 7240) (by decide +kernel) (by decide) (by decide)
theorem pr_906349 : Pr 906349 := Pr.td (k := 951) (by decide +kernel) (by decide) (by decide)
theorem pr_R : Pr 52435875175126190479447740508185965837690552500527637822603658699938581184513 := by
  refine Pr.of_F (F := 12007692098914813156957407318437874572875268096) (by decide +kernel) (by decide +kernel) fun q hq hqn => ?_
  have h0 := cert_dvd (n := 52435875175126190479447740508185965837690552500527637822603658699938581184513) (f := 255) (p := 2) (e := 32) (a := 5) (by decide +kernel) (by decide +kernel) (by decide +kernel) pr_2 hq hqn
  have h1 := cert_dvd (n := 52435875175126190479447740508185965837690552500527637822603658699938581184513) (f := 255) (p := 254760293) (e := 2) (a := 2) (by decide +kernel) (by decide +kernel) (by decide +kernel) pr_254760293 hq hqn
  have h2 := cert_dvd (n := 52435875175126190479447740508185965837690552500527637822603658699938581184513) (f := 255) (p := 52437899) (e := 1) (a := 2) (by decide +kernel) (by decide +kernel) (by decide +kernel) pr_52437899 hq hqn
  have h3 := cert_dvd (n := 52435875175126190479447740508185965837690552500527637822603658699938581184513) (f := 255) (p := 906349) (e := 2) (a := 2) (by decide +kernel) (by decide +kernel) (by decide +kernel) pr_906349 hq hqn
  have g1 := Nat.Coprime.mul_dvd_of_dvd_of_dvd (show Nat.Coprime _ _ by decide +kernel) h0 h1
  have g2 := Nat.Coprime.mul_dvd_of_dvd_of_dvd (show Nat.Coprime _ _ by decide +kernel) g1 h2
  have g3 := Nat.Coprime.mul_dvd_of_dvd_of_dvd (show Nat.Coprime _ _ by decide +kernel) g2 h3
  exact Nat.dvd_trans (Nat.dvd_of_mod_eq_zero (by decide +kernel)) g3
theorem pr_421987 : Pr 421987 := Pr.td (k := 648) (by decide +kernel) (by decide) (by decide)
theorem pr_755057 : Pr 755057 := Pr.td (k := 867) (by decide +kernel) (by decide) (by decide)
theorem pr_13090036741 : Pr 13090036741 := by
  refine Pr.of_F (F := 421987) (by decide +kernel) (by decide +kernel) fun q hq hqn => ?_
  have h0 := cert_dvd (n := 13090036741) (f := 34) (p := 421987) (e := 1) (a := 2) (by decide +kernel) (by decide +kernel) (by decide +kernel) pr_421987 hq hqn
  exact Nat.dvd_trans (Nat.dvd_of_mod_eq_zero (by decide +kernel)) h0
theorem pr_381966_72 : Pr 3819663927398918131021 := by
  refine Pr.of_F (F := 9883723871549237) (by decide +kernel) (by decide +kernel) fun q hq hqn => ?_
  have h0 := cert_dvd (n := 3819663927398918131021) (f := 72) (p := 13090036741) (e := 1) (a := 2) (by decide +kernel) (by decide +kernel) (by decide +kernel) pr_13090036741 hq hqn
  have h1 := cert_dvd (n := 3819663927398918131021) (f := 72) (p := 755057) (e := 1) (a := 2) (by decide +kernel) (by decide +kernel) (by decide +kernel) pr_755057 hq hqn
  have g1 := Nat.Coprime.mul_dvd_of_dvd_of_dvd (show Nat.Coprime _ _ by decide +kernel) h0 h1
  exact Nat.dvd_trans (Nat.dvd_of_mod_eq_zero (by decide +kernel)) g1
theorem pr_112526_120 : Pr 1125266252156850182658904441386709967 := by
  refine Pr.of_F (F := 3819663927398918131021) (by decide +kernel) (by decide +kernel) fun q hq hqn => ?_
  have h0 := cert_dvd (n := 1125266252156850182658904441386709967) (f := 120) (p := 3819663927398918131021) (e := 1) (a := 2) (by decide +kernel) (by decide +kernel) (by decide +kernel) pr_381966_72 hq hqn
  exact Nat.dvd_trans (Nat.dvd_of_mod_eq_zero (by decide +kernel)) h0
theorem pr_157784_234 : Pr 15778400344354997994418419698270088123916926905054652752758194827714659 := by
  refine Pr.of_F (F := 1125266252156850182658904441386709967) (by decide +kernel) (by decide +kernel) fun q hq hqn => ?_
  have h0 := cert_dvd (n := 15778400344354997994418419698270088123916926905054652752758194827714659) (f := 234) (p := 1125266252156850182658904441386709967) (e := 1) (a := 2) (by decide +kernel) (by decide +kernel) (by decide +kernel) pr_112526_120 hq hqn
  exact Nat.dvd_trans (Nat.dvd_of_mod_eq_zero (by decide +kernel)) h0
theorem pr_P : Pr 4002409555221667393417789825735904156556882819939007885332058136124031650490837864442687629129015664037894272559787 := by
  refine Pr.of_F (F := 15778400344354997994418419698270088123916926905054652752758194827714659) (by decide +kernel) (by decide +kernel) fun q hq hqn => ?_
  have h0 := cert_dvd (n := 4002409555221667393417789825735904156556882819939007885332058136124031650490837864442687629129015664037894272559787) (f := 381) (p := 15778400344354997994418419698270088123916926905054652752758194827714659) (e := 1) (a := 2) (by decide +kernel) (by decide +kernel) (by decide +kernel) pr_157784_234 hq hqn
  exact Nat.dvd_trans (Nat.dvd_of_mod_eq_zero (by decide +kernel)) h0

end Go.Proofs.YtgdmjngajjoliaaDoor
