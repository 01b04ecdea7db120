/- IF Fp2RootsWalk ZE ZD ZG ZF LF. -/
import Derived.Test.YtgoghcmnnhglhaaDoorB5
import Derived.Test.YtgoghcmnnhglhaaDoorB6
import Derived.Test.YtgoghcmnnhglhaaDoorB7
import Derived.Test.YtgoghcmnnhglhaaDoorB4
import Derived.Test.YtgoghcmnnhglhaaDoorB2
import Derived.Test.YtgoghcmnnhglhaaDoorB1
import Derived.Test.YtgoghcmnnhglhaaDoorB3
import Derived.Test.YtgoghcmnnhglhaaDoorRows
import Derived.ProofKit
import Derived.LaidMore
import Derived.OpenShut
import Derived.Stop.Joined
/- The reference's roots of pairs: which is told. -/
namespace Go.Proofs.YtgoghcmnnhglhaaDoor.fpn
open Go.RowKit Pl
set_option linter.unusedVariables false
set_option linter.unusedSimpArgs false
set_option maxRecDepth 4000

theorem F2.fzz (z : F) (hz : z = 0) : z * z = 0 := by subst hz; rfl
theorem F2.fnz (z : F) (hz : z = 0) : -z = 0 := by grind
theorem sq_fin {x z : F2} {w : World} (hz : z * z = x) (T : z.great = true → Calls Tryd.prog 25 #[PV x] w (Ret (.tuple #[PV (-z), .bool true]) w)) (N : z.great = false → Calls Tryd.prog 25 #[PV x] w (Ret (.tuple #[PV z, .bool true]) w)) : Calls Tryd.prog 25 #[PV x] w (Ret (.tuple #[PV x.sq2, .bool x.is2]) w) := by
  rw [F2.is2_of hz]
  cases hG : z.great with
  | true =>
    have h0 : z ≠ 0 := fun e => by rw [e, F2.great_zero'] at hG; cases hG
    rw [F2.sq2_of (r := -z) (by rw [F2.neg_mul_neg']; exact hz) (by rw [F2.great_neg' h0, hG]; rfl)]
    exact T hG
  | false =>
    rw [F2.sq2_of hz hG]
    exact N hG

theorem ih (i : F) (h : 2 * i = 1) : i + i = 1 := by grind
theorem dbl (i a : F) (h : i + i = 1) : a * i + a * i = a := by
  have : a * i + a * i = a * (i + i) := by grind
  rw [this, h]; grind
theorem subn (c n : F) : c + (-n) = c - n := by grind
theorem flat0 (r c s : F) (h : r = 0) (hs : s * s = -c) : r * r - s * s = c := by subst h; grind
theorem flat1 (r c s : F) (h : r = 0) (hc : c = 0) : r * s + s * r = c := by subst h; grind
theorem z_sum (a b c : F) (h : a + b = c) (h0 : a = 0) : b = c := by grind
theorem z_sum' (a b c : F) (h : a + b = c) (h0 : b = 0) : a = c := by grind
theorem z_pr (a b c : F) (h : 4 * (a * b) = -(c * c)) (h0 : a = 0) : c * c = 0 := by subst h0; grind
theorem z_pr' (a b c i : F) (h : 4 * (a * b) = -(c * c)) (h0 : c = 0) (hi : i + i = 1) : a * b = 0 := by
  have e : (i + i) * (i + i) * (a * b) = i * i * (4 * (a * b)) := by grind
  rw [h, hi, h0] at e
  grind
theorem sq_zero {a : F} (h : a * a = 0) : a = 0 := by rcases no_zero h with h | h <;> exact h
theorem nn (c : F) : -(-c) = c := by grind

theorem ref5Sqrt2 (R : RefK) (x : F2) (w : World) : Calls Tryd.prog 25 #[PV x] w (Ret (.tuple #[PV x.sq2, .bool x.is2]) w) := by
  by_cases hq : isq x.norm = true
  · have hh : finv 2 + finv 2 = 1 := ih _ (finv_mul two_ne)
    have hn := root_sq hq
    have e0 : ((x.c0 + (root x.norm)) * (finv 2)) + ((x.c0 + (root x.norm)) * (finv 2)) = x.c0 + (root x.norm) := dbl _ _ hh
    have e1 : ((x.c0 + (-(root x.norm))) * (finv 2)) + ((x.c0 + (-(root x.norm))) * (finv 2)) = x.c0 - (root x.norm) := (dbl _ _ hh).trans (subn _ _)
    have hs : ((x.c0 + (root x.norm)) * (finv 2)) + ((x.c0 + (-(root x.norm))) * (finv 2)) = x.c0 := F2.halve (finv_mul two_ne) (F2.sum2 e0 e1)
    have h4 : 4 * (((x.c0 + (root x.norm)) * (finv 2)) * ((x.c0 + (-(root x.norm))) * (finv 2))) = -(x.c1 * x.c1) := F2.prod4 e0 e1 hn
    have hs' : ((x.c0 + (-(root x.norm))) * (finv 2)) + ((x.c0 + (root x.norm)) * (finv 2)) = x.c0 := (fadd_comm _ _).trans hs
    have h4' : 4 * (((x.c0 + (-(root x.norm))) * (finv 2)) * ((x.c0 + (root x.norm)) * (finv 2))) = -(x.c1 * x.c1) := by rw [fmul_comm ((x.c0 + (-(root x.norm))) * (finv 2)) ((x.c0 + (root x.norm)) * (finv 2))]; exact h4
    by_cases h0 : isq ((x.c0 + (root x.norm)) * (finv 2)) = true
    · have r0 := root_sq h0
      by_cases hi : root ((x.c0 + (root x.norm)) * (finv 2)) = 0
      · have z0 : ((x.c0 + (root x.norm)) * (finv 2)) = 0 := by rw [← r0, hi]; exact F2.fzz 0 rfl
        have c1 : x.c1 = 0 := sq_zero (z_pr _ _ _ h4 z0)
        have e2 : ((x.c0 + (-(root x.norm))) * (finv 2)) = x.c0 := z_sum _ _ _ hs z0
        by_cases hm : isq (-x.c0) = true
        · have hz : (⟨(root ((x.c0 + (root x.norm)) * (finv 2))), (root (-x.c0))⟩ : F2) * ⟨(root ((x.c0 + (root x.norm)) * (finv 2))), (root (-x.c0))⟩ = x := F2.ext' (flat0 _ _ _ hi (root_sq hm)) (flat1 _ _ _ hi c1)
          exact sq_fin hz (sqBt R x w hq rfl rfl rfl hm h0 rfl hi hz) (sqBf R x w hq rfl rfl rfl hm h0 rfl hi hz)
        · have hm' : isq (-x.c0) = false := by simpa using hm
          have hc : isq x.c0 = true := by have := isq_neg hm'; rw [nn] at this; exact this
          have h1 : isq ((x.c0 + (-(root x.norm))) * (finv 2)) = true := by rw [e2]; exact hc
          have c0 : x.c0 ≠ 0 := fun e => isq_neq hm' (by rw [e]; exact F2.fnz 0 rfl)
          have i1 : root ((x.c0 + (-(root x.norm))) * (finv 2)) ≠ 0 := root_ne h1 (by rw [e2]; exact c0)
          have hz := F2.cross_root hh hs' h4' (root_sq h1) (finv_mul i1)
          exact sq_fin hz (sqCt R x w hq rfl rfl rfl hm' h0 rfl hi h1 rfl i1 rfl rfl hz) (sqCf R x w hq rfl rfl rfl hm' h0 rfl hi h1 rfl i1 rfl rfl hz)
      · have hz := F2.cross_root hh hs h4 r0 (finv_mul hi)
        exact sq_fin hz (sqAt R x w hq rfl rfl rfl rfl h0 rfl hi rfl rfl hz) (sqAf R x w hq rfl rfl rfl rfl h0 rfl hi rfl rfl hz)
    · have h0' : isq ((x.c0 + (root x.norm)) * (finv 2)) = false := by simpa using h0
      by_cases c1 : x.c1 = 0
      · have z1 : ((x.c0 + (-(root x.norm))) * (finv 2)) = 0 := by
          rcases no_zero (z_pr' _ _ _ _ h4 c1 hh) with h | h
          · exact absurd h (isq_neq h0')
          · exact h
        have e2 : ((x.c0 + (root x.norm)) * (finv 2)) = x.c0 := z_sum' _ _ _ hs z1
        have hm : isq (-x.c0) = true := isq_neg (by rw [← e2]; exact h0')
        have h1 : isq ((x.c0 + (-(root x.norm))) * (finv 2)) = true := by rw [z1]; exact isq_zero
        have hi : root ((x.c0 + (-(root x.norm))) * (finv 2)) = 0 := by rw [z1]; exact root_zero
        have hz : (⟨(root ((x.c0 + (-(root x.norm))) * (finv 2))), (root (-x.c0))⟩ : F2) * ⟨(root ((x.c0 + (-(root x.norm))) * (finv 2))), (root (-x.c0))⟩ = x := F2.ext' (flat0 _ _ _ hi (root_sq hm)) (flat1 _ _ _ hi c1)
        exact sq_fin hz (sqEt R x w hq rfl rfl rfl hm h0' rfl h1 rfl hi hz) (sqEf R x w hq rfl rfl rfl hm h0' rfl h1 rfl hi hz)
      · obtain ⟨k0, k1, k2, k3, k4, k5⟩ := F2.cross c1 hn e0 e1
        have h1 := k3 h0'
        have i1 : root ((x.c0 + (-(root x.norm))) * (finv 2)) ≠ 0 := root_ne h1 k1
        have hz := F2.cross_root hh hs' h4' (root_sq h1) (finv_mul i1)
        exact sq_fin hz (sqDt R x w hq rfl rfl rfl rfl h0' rfl h1 rfl i1 rfl rfl hz) (sqDf R x w hq rfl rfl rfl rfl h0' rfl h1 rfl i1 rfl rfl hz)
  · have hq' : isq x.norm = false := by simpa using hq
    obtain ⟨e1, e2⟩ := F2.is2_no (a := x) (fun r hr => hq (F2.norm_sq hr))
    rw [e1, e2]
    exact sq0 R x w hq' rfl
end Go.Proofs.YtgoghcmnnhglhaaDoor.fpn

/- Fp2Roots walked. -/
namespace Go.Proofs.YtgoghcmnnhglhaaDoor.fpn
open Go.RowKit Pl
set_option linter.unusedVariables false
set_option linter.unusedSimpArgs false
set_option maxRecDepth 4000

set_option maxHeartbeats 4000000 in
theorem roots0 {G : World → Prop} (K : FpK G) (R : RefK) (f g : Nat → Int) (p : Option Addr) (n c : Nat) (w : World) (hg : G w) (hB : ∀ w, G w → Calls Tryd.prog 7 #[] w (Ret (.bool true) w)) (hm : ∀ w, G w → Calls Tryd.prog 8 #[QV2 f g] w (Ret (.bool false) w)) : Calls Tryd.prog 4 #[QV2 f g, .slice p n c] w (Ret (.bool true) w) := by
  have hp0 := Heap.start w
  go_enter Tryd.func4, Tryd.ntmps4
  refine wp_seq_k (fun K1 k1 => ?_)
  refine goes (ks := [.alloc (QC2 f g), .det (.bool false)]) (T := [0, 0]) (nt := 46) (nh := 0) (H := []) (A := fun L => [QV2 f g, .slice p n c, .pointer (some ⟨L.b 0, 0, none⟩), undef, .bool false, undef, undef, undef, undef, undef, undef, undef, undef, undef, undef, undef, undef, undef, undef, undef, undef, undef, undef, undef, undef, undef, undef, undef, undef, undef, undef, undef, undef, undef, undef, undef, undef, undef, undef, undef, undef, undef, undef, undef, undef, undef]) (H' := fun L => [(L.b 0, QC2 f g)]) (by kernel_rfl) rfl rfl rfl (fun L => by kernel_rfl) (fun L => by kernel_rfl) hp0 ⟨
    ob_box (v := QV2 f g) (fun _ => rfl) rfl rfl (fun _ => by kernel_rfl) rfl,
    ob_assign (fun _ => rfl) rfl rfl (fun _ => by kernel_rfl),
    trivial⟩ (fun L0 w1 hp1 => ?_)
  refine k1 _ _ ?_
  refine wp_seq_k (fun K2 k2 => ?_)
  refine wp_seq_k (fun K3 k3 => ?_)
  refine goes (ks := [.det (.bool true), .det (.bool false)]) (T := [0, 1]) (nt := 46) (nh := 1) (H := [((L0.b 0), QC2 f g)]) (A := fun L => [QV2 f g, .slice p n c, .pointer (some ⟨(L0.b 0), 0, none⟩), undef, .bool false, undef, undef, undef, undef, .bool true, .bool false, undef, undef, undef, undef, undef, undef, undef, undef, undef, undef, undef, undef, undef, undef, undef, undef, undef, undef, undef, undef, undef, undef, undef, undef, undef, undef, undef, undef, undef, undef, undef, undef, undef, undef, undef]) (H' := fun L => [((L0.b 0), QC2 f g)]) (by kernel_rfl) rfl rfl rfl (fun L => by kernel_rfl) (fun L => by kernel_rfl) hp1 ⟨
    ob_call (vs := #[]) (by kernel_rfl) (by kernel_rfl) (fun _ => rfl) rfl rfl (fun _ => by kernel_rfl) (fun w hb _ => hB w (K.stay hg hb)),
    ob_not (b := true) (fun _ => rfl) rfl rfl (fun _ => by kernel_rfl),
    trivial⟩ (fun L1 w2 hp2 => ?_)
  refine k3 _ _ ?_
  refine wp_cond_false (by kernel_rfl) ?_
  refine skips ?_
  refine k2 _ _ ?_
  refine wp_seq_k (fun K4 k4 => ?_)
  refine wp_seq_k (fun K5 k5 => ?_)
  refine goes (ks := [.det (QV2 f g), .det (.bool false), .det (.bool true), .det (.bool true), .det undef, .det undef, .det undef, .det (.bool true)]) (T := [0, 1, 3, 7, 15, 31, 63, 127]) (nt := 46) (nh := 1) (H := [((L0.b 0), QC2 f g)]) (A := fun L => [QV2 f g, .slice p n c, .pointer (some ⟨(L0.b 0), 0, none⟩), undef, .bool false, undef, undef, undef, undef, .bool true, .bool false, QV2 f g, .bool false, .bool true, .bool true, undef, undef, undef, .bool true, undef, undef, undef, undef, undef, undef, undef, undef, undef, undef, undef, undef, undef, undef, undef, undef, undef, undef, undef, undef, undef, undef, undef, undef, undef, undef, undef]) (H' := fun L => [((L0.b 0), QC2 f g)]) (by kernel_rfl) rfl rfl rfl (fun L => by kernel_rfl) (fun L => by kernel_rfl) hp2 ⟨
    ob_load (b := (L0.b 0)) (off := 0) (cs := QC2 f g) (by kernel_rfl) (fun _ => rfl) rfl rfl (fun _ => by kernel_rfl) (fun _ _ hs => (seen_at (k := 0) hs rfl).cells) Tryd.underlying26 rfl (sizeQC2 _ _),
    ob_call (vs := #[QV2 f g]) (by kernel_rfl) (by kernel_rfl) (fun _ => rfl) rfl rfl (fun _ => by kernel_rfl) (fun w hb _ => hm w (K.stay hg hb)),
    ob_not (b := false) (fun _ => rfl) rfl rfl (fun _ => by kernel_rfl),
    ob_move (fun _ => rfl) rfl rfl (fun _ => by kernel_rfl),
    ob_skip (fun _ => by kernel_rfl) rfl,
    ob_skip (fun _ => by kernel_rfl) rfl,
    ob_skip (fun _ => by kernel_rfl) rfl,
    ob_pickT (fun _ => rfl) rfl rfl (fun _ => by kernel_rfl) (fun _ => by kernel_rfl),
    trivial⟩ (fun L2 w3 hp3 => ?_)
  refine k5 _ _ ?_
  refine wp_cond_true (by kernel_rfl) ?_
  refine wp_seq_k (fun K6 k6 => ?_)
  refine goes (ks := [.det (.bool true)]) (T := [0]) (nt := 46) (nh := 1) (H := [((L0.b 0), QC2 f g)]) (A := fun L => [QV2 f g, .slice p n c, .pointer (some ⟨(L0.b 0), 0, none⟩), undef, .bool true, undef, undef, undef, undef, .bool true, .bool false, QV2 f g, .bool false, .bool true, .bool true, undef, undef, undef, .bool true, undef, undef, undef, undef, undef, undef, undef, undef, undef, undef, undef, undef, undef, undef, undef, undef, undef, undef, undef, undef, undef, undef, undef, undef, undef, undef, undef]) (H' := fun L => [((L0.b 0), QC2 f g)]) (by kernel_rfl) rfl rfl rfl (fun L => by kernel_rfl) (fun L => by kernel_rfl) hp3 ⟨
    ob_assign (fun _ => rfl) rfl rfl (fun _ => by kernel_rfl),
    trivial⟩ (fun L3 w4 hp4 => ?_)
  refine k6 _ _ ?_
  refine wp_ret ?_
  exact bodyPost_ret (v := .bool true) (res_t rfl (by kernel_rfl) _) rfl ⟨rfl, hp4.bel⟩
set_option maxHeartbeats 4000000 in
theorem roots1 {G : World → Prop} (K : FpK G) (R : RefK) (f g : Nat → Int) (p : Option Addr) (n c : Nat) (w : World) (hg : G w) (hB : ∀ w, G w → Calls Tryd.prog 7 #[] w (Ret (.bool true) w)) (hm : ∀ w, G w → Calls Tryd.prog 8 #[QV2 f g] w (Ret (.bool true) w)) (hn : 7 < n) : Calls Tryd.prog 4 #[QV2 f g, .slice p n c] w (Ret (.bool true) w) := by
  have hp0 := Heap.start w
  go_enter Tryd.func4, Tryd.ntmps4
  refine wp_seq_k (fun K1 k1 => ?_)
  refine goes (ks := [.alloc (QC2 f g), .det (.bool false)]) (T := [0, 0]) (nt := 46) (nh := 0) (H := []) (A := fun L => [QV2 f g, .slice p n c, .pointer (some ⟨L.b 0, 0, none⟩), undef, .bool false, undef, undef, undef, undef, undef, undef, undef, undef, undef, undef, undef, undef, undef, undef, undef, undef, undef, undef, undef, undef, undef, undef, undef, undef, undef, undef, undef, undef, undef, undef, undef, undef, undef, undef, undef, undef, undef, undef, undef, undef, undef]) (H' := fun L => [(L.b 0, QC2 f g)]) (by kernel_rfl) rfl rfl rfl (fun L => by kernel_rfl) (fun L => by kernel_rfl) hp0 ⟨
    ob_box (v := QV2 f g) (fun _ => rfl) rfl rfl (fun _ => by kernel_rfl) rfl,
    ob_assign (fun _ => rfl) rfl rfl (fun _ => by kernel_rfl),
    trivial⟩ (fun L0 w1 hp1 => ?_)
  refine k1 _ _ ?_
  refine wp_seq_k (fun K2 k2 => ?_)
  refine wp_seq_k (fun K3 k3 => ?_)
  refine goes (ks := [.det (.bool true), .det (.bool false)]) (T := [0, 1]) (nt := 46) (nh := 1) (H := [((L0.b 0), QC2 f g)]) (A := fun L => [QV2 f g, .slice p n c, .pointer (some ⟨(L0.b 0), 0, none⟩), undef, .bool false, undef, undef, undef, undef, .bool true, .bool false, undef, undef, undef, undef, undef, undef, undef, undef, undef, undef, undef, undef, undef, undef, undef, undef, undef, undef, undef, undef, undef, undef, undef, undef, undef, undef, undef, undef, undef, undef, undef, undef, undef, undef, undef]) (H' := fun L => [((L0.b 0), QC2 f g)]) (by kernel_rfl) rfl rfl rfl (fun L => by kernel_rfl) (fun L => by kernel_rfl) hp1 ⟨
    ob_call (vs := #[]) (by kernel_rfl) (by kernel_rfl) (fun _ => rfl) rfl rfl (fun _ => by kernel_rfl) (fun w hb _ => hB w (K.stay hg hb)),
    ob_not (b := true) (fun _ => rfl) rfl rfl (fun _ => by kernel_rfl),
    trivial⟩ (fun L1 w2 hp2 => ?_)
  refine k3 _ _ ?_
  refine wp_cond_false (by kernel_rfl) ?_
  refine skips ?_
  refine k2 _ _ ?_
  refine wp_seq_k (fun K4 k4 => ?_)
  refine wp_seq_k (fun K5 k5 => ?_)
  refine goes (ks := [.det (QV2 f g), .det (.bool true), .det (.bool false), .det (.bool false), .det (.slice p n c), .det (.int .i64 n), .det (.bool true), .det (.bool true)]) (T := [0, 1, 3, 7, 15, 31, 63, 127]) (nt := 46) (nh := 1) (H := [((L0.b 0), QC2 f g)]) (A := fun L => [QV2 f g, .slice p n c, .pointer (some ⟨(L0.b 0), 0, none⟩), undef, .bool false, undef, undef, undef, undef, .bool true, .bool false, QV2 f g, .bool true, .bool false, .bool false, .slice p n c, .int .i64 n, .bool true, .bool true, undef, undef, undef, undef, undef, undef, undef, undef, undef, undef, undef, undef, undef, undef, undef, undef, undef, undef, undef, undef, undef, undef, undef, undef, undef, undef, undef]) (H' := fun L => [((L0.b 0), QC2 f g)]) (by kernel_rfl) rfl rfl rfl (fun L => by kernel_rfl) (fun L => by kernel_rfl) hp2 ⟨
    ob_load (b := (L0.b 0)) (off := 0) (cs := QC2 f g) (by kernel_rfl) (fun _ => rfl) rfl rfl (fun _ => by kernel_rfl) (fun _ _ hs => (seen_at (k := 0) hs rfl).cells) Tryd.underlying26 rfl (sizeQC2 _ _),
    ob_call (vs := #[QV2 f g]) (by kernel_rfl) (by kernel_rfl) (fun _ => rfl) rfl rfl (fun _ => by kernel_rfl) (fun w hb _ => hm w (K.stay hg hb)),
    ob_not (b := true) (fun _ => rfl) rfl rfl (fun _ => by kernel_rfl),
    ob_move (fun _ => rfl) rfl rfl (fun _ => by kernel_rfl),
    ob_move (fun _ => by kernel_rfl) rfl rfl (fun _ => by kernel_rfl),
    ob_len (p := p) (n := n) (c := c) (fun _ => by kernel_rfl) rfl rfl (fun _ => by kernel_rfl) Tryd.underlying35,
    ob_bin (u := .int .i64 n) (v := .int .i64 7) (fun _ => by kernel_rfl) rfl rfl (fun _ => by kernel_rfl) (fun _ => by kernel_rfl) (fun w => guardI _ _ _ _ _ _ _ _ w) (fun w => (gtrI _ _ _ w).trans (by rw [decide_eq_true (by omega)])),
    ob_pickF (fun _ => rfl) rfl rfl (fun _ => by kernel_rfl) (fun _ => by kernel_rfl),
    trivial⟩ (fun L2 w3 hp3 => ?_)
  refine k5 _ _ ?_
  refine wp_cond_true (by kernel_rfl) ?_
  refine wp_seq_k (fun K6 k6 => ?_)
  refine goes (ks := [.det (.bool true)]) (T := [0]) (nt := 46) (nh := 1) (H := [((L0.b 0), QC2 f g)]) (A := fun L => [QV2 f g, .slice p n c, .pointer (some ⟨(L0.b 0), 0, none⟩), undef, .bool true, undef, undef, undef, undef, .bool true, .bool false, QV2 f g, .bool true, .bool false, .bool false, .slice p n c, .int .i64 n, .bool true, .bool true, undef, undef, undef, undef, undef, undef, undef, undef, undef, undef, undef, undef, undef, undef, undef, undef, undef, undef, undef, undef, undef, undef, undef, undef, undef, undef, undef]) (H' := fun L => [((L0.b 0), QC2 f g)]) (by kernel_rfl) rfl rfl rfl (fun L => by kernel_rfl) (fun L => by kernel_rfl) hp3 ⟨
    ob_assign (fun _ => rfl) rfl rfl (fun _ => by kernel_rfl),
    trivial⟩ (fun L3 w4 hp4 => ?_)
  refine k6 _ _ ?_
  refine wp_ret ?_
  exact bodyPost_ret (v := .bool true) (res_t rfl (by kernel_rfl) _) rfl ⟨rfl, hp4.bel⟩
set_option maxHeartbeats 4000000 in
theorem roots2 {G : World → Prop} (K : FpK G) (R : RefK) (x : F2) (p : Option Addr) (n c : Nat) (e : Nat → Int) (E : Nat) (w : World) (hg : G w) (hH : ∀ w, G w → w.rangeAt 2 0 (FC hf)) (hB : ∀ w, G w → Calls Tryd.prog 7 #[] w (Ret (.bool true) w)) (hn : n ≤ 7) (he : At w p n e) (re : Rg e n) (hE : val e n = (E : Int)) : Calls Tryd.prog 4 #[PV x, .slice p n c] w (Ret (.bool true) w) := by
  have hp0 := Heap.start w
  go_enter Tryd.func4, Tryd.ntmps4
  refine wp_seq_k (fun K1 k1 => ?_)
  refine goes (ks := [.alloc (PC x), .det (.bool false)]) (T := [0, 0]) (nt := 46) (nh := 0) (H := []) (A := fun L => [PV x, .slice p n c, .pointer (some ⟨L.b 0, 0, none⟩), undef, .bool false, undef, undef, undef, undef, undef, undef, undef, undef, undef, undef, undef, undef, undef, undef, undef, undef, undef, undef, undef, undef, undef, undef, undef, undef, undef, undef, undef, undef, undef, undef, undef, undef, undef, undef, undef, undef, undef, undef, undef, undef, undef]) (H' := fun L => [(L.b 0, PC x)]) (by kernel_rfl) rfl rfl rfl (fun L => by kernel_rfl) (fun L => by kernel_rfl) hp0 ⟨
    ob_box (v := PV x) (fun _ => rfl) rfl rfl (fun _ => by kernel_rfl) rfl,
    ob_assign (fun _ => rfl) rfl rfl (fun _ => by kernel_rfl),
    trivial⟩ (fun L0 w1 hp1 => ?_)
  refine k1 _ _ ?_
  refine wp_seq_k (fun K2 k2 => ?_)
  refine wp_seq_k (fun K3 k3 => ?_)
  refine goes (ks := [.det (.bool true), .det (.bool false)]) (T := [0, 1]) (nt := 46) (nh := 1) (H := [((L0.b 0), PC x)]) (A := fun L => [PV x, .slice p n c, .pointer (some ⟨(L0.b 0), 0, none⟩), undef, .bool false, undef, undef, undef, undef, .bool true, .bool false, undef, undef, undef, undef, undef, undef, undef, undef, undef, undef, undef, undef, undef, undef, undef, undef, undef, undef, undef, undef, undef, undef, undef, undef, undef, undef, undef, undef, undef, undef, undef, undef, undef, undef, undef]) (H' := fun L => [((L0.b 0), PC x)]) (by kernel_rfl) rfl rfl rfl (fun L => by kernel_rfl) (fun L => by kernel_rfl) hp1 ⟨
    ob_call (vs := #[]) (by kernel_rfl) (by kernel_rfl) (fun _ => rfl) rfl rfl (fun _ => by kernel_rfl) (fun w hb _ => hB w (K.stay hg hb)),
    ob_not (b := true) (fun _ => rfl) rfl rfl (fun _ => by kernel_rfl),
    trivial⟩ (fun L1 w2 hp2 => ?_)
  refine k3 _ _ ?_
  refine wp_cond_false (by kernel_rfl) ?_
  refine skips ?_
  refine k2 _ _ ?_
  refine wp_seq_k (fun K4 k4 => ?_)
  refine wp_seq_k (fun K5 k5 => ?_)
  refine goes (ks := [.det (PV x), .det (.bool true), .det (.bool false), .det (.bool false), .det (.slice p n c), .det (.int .i64 n), .det (.bool false), .det (.bool false)]) (T := [0, 1, 3, 7, 15, 31, 63, 127]) (nt := 46) (nh := 1) (H := [((L0.b 0), PC x)]) (A := fun L => [PV x, .slice p n c, .pointer (some ⟨(L0.b 0), 0, none⟩), undef, .bool false, undef, undef, undef, undef, .bool true, .bool false, PV x, .bool true, .bool false, .bool false, .slice p n c, .int .i64 n, .bool false, .bool false, undef, undef, undef, undef, undef, undef, undef, undef, undef, undef, undef, undef, undef, undef, undef, undef, undef, undef, undef, undef, undef, undef, undef, undef, undef, undef, undef]) (H' := fun L => [((L0.b 0), PC x)]) (by kernel_rfl) rfl rfl rfl (fun L => by kernel_rfl) (fun L => by kernel_rfl) hp2 ⟨
    ob_load (b := (L0.b 0)) (off := 0) (cs := PC x) (by kernel_rfl) (fun _ => rfl) rfl rfl (fun _ => by kernel_rfl) (fun _ _ hs => (seen_at (k := 0) hs rfl).cells) Tryd.underlying26 rfl (sizePC _),
    ob_call (vs := #[PV x]) (by kernel_rfl) (by kernel_rfl) (fun _ => rfl) rfl rfl (fun _ => by kernel_rfl) (fun w _ _ => ref5MayP R _ w),
    ob_not (b := true) (fun _ => rfl) rfl rfl (fun _ => by kernel_rfl),
    ob_move (fun _ => rfl) rfl rfl (fun _ => by kernel_rfl),
    ob_move (fun _ => by kernel_rfl) rfl rfl (fun _ => by kernel_rfl),
    ob_len (p := p) (n := n) (c := c) (fun _ => by kernel_rfl) rfl rfl (fun _ => by kernel_rfl) Tryd.underlying35,
    ob_bin (u := .int .i64 n) (v := .int .i64 7) (fun _ => by kernel_rfl) rfl rfl (fun _ => by kernel_rfl) (fun _ => by kernel_rfl) (fun w => guardI _ _ _ _ _ _ _ _ w) (fun w => (gtrI _ _ _ w).trans (by rw [decide_eq_false (by omega)])),
    ob_pickF (fun _ => rfl) rfl rfl (fun _ => by kernel_rfl) (fun _ => by kernel_rfl),
    trivial⟩ (fun L2 w3 hp3 => ?_)
  refine k5 _ _ ?_
  refine wp_cond_false (by kernel_rfl) ?_
  refine skips ?_
  refine k4 _ _ ?_
  refine wp_seq_k (fun K6 k6 => ?_)
  refine goes (ks := [.det (PV x), .det (.tuple #[PV x.sq2, .bool x.is2]), .det (.tuple #[PV x.sq2, .bool x.is2]), .det (PV x.sq2), .det (.bool x.is2), .alloc (PC 0), .store (.new 5) 0 (PC x.sq2) (PC x.sq2), .det (.bool x.is2)]) (T := [0, 1, 3, 7, 7, 0, 47, 127]) (nt := 46) (nh := 1) (H := [((L0.b 0), PC x)]) (A := fun L => [PV x, .slice p n c, .pointer (some ⟨(L0.b 0), 0, none⟩), undef, .bool false, .pointer (some ⟨L.b 5, 0, none⟩), .bool x.is2, undef, undef, .bool true, .bool false, PV x, .bool true, .bool false, .bool false, .slice p n c, .int .i64 n, .bool false, .bool false, .tuple #[PV x.sq2, .bool x.is2], PV x, .tuple #[PV x.sq2, .bool x.is2], PV x.sq2, .bool x.is2, undef, undef, undef, undef, undef, undef, undef, undef, undef, undef, undef, undef, undef, undef, undef, undef, undef, undef, undef, undef, undef, undef]) (H' := fun L => [((L0.b 0), PC x), (L.b 5, PC x.sq2)]) (by kernel_rfl) rfl rfl rfl (fun L => by kernel_rfl) (fun L => by kernel_rfl) hp3 ⟨
    ob_load (b := (L0.b 0)) (off := 0) (cs := PC x) (by kernel_rfl) (fun _ => rfl) rfl rfl (fun _ => by kernel_rfl) (fun _ _ hs => (seen_at (k := 0) hs rfl).cells) Tryd.underlying26 rfl (sizePC _),
    ob_call (vs := #[PV x]) (by kernel_rfl) (by kernel_rfl) (fun _ => rfl) rfl rfl (fun _ => by kernel_rfl) (fun w hb _ => fp2Sqrt K x w (K.stay hg hb) hH),
    ob_move (fun _ => rfl) rfl rfl (fun _ => by kernel_rfl),
    ob_extract (vs := #[PV x.sq2, .bool x.is2]) (fun _ => rfl) rfl rfl (fun _ => by kernel_rfl) rfl,
    ob_extract (vs := #[PV x.sq2, .bool x.is2]) (fun _ => rfl) rfl rfl (fun _ => by kernel_rfl) rfl,
    ob_alloc (v := PV 0) (fun _ => rfl) rfl rfl zeroP rfl,
    ob_store (old := PC 0) (fun _ => rfl) rfl rfl (fun _ => by kernel_rfl) (fun _ => by kernel_rfl) rfl (sizePC _) (PC_one _) (le_len (PC_len _) (PC_len _) (by decide)) (splice_all ((PC_len _).trans (PC_len _).symm)).symm,
    ob_assign (fun _ => rfl) rfl rfl (fun _ => by kernel_rfl),
    trivial⟩ (fun L3 w4 hp4 => ?_)
  refine k6 _ _ ?_
  refine wp_seq_k (fun K7 k7 => ?_)
  refine goes (ks := [.det (PV x), .det (.tuple #[PV x.sq2, .bool x.is2]), .det (.tuple #[PV x.sq2, .bool x.is2]), .det (PV x.sq2), .det (.bool x.is2), .alloc (PC 0), .store (.new 5) 0 (PC x.sq2) (PC x.sq2), .det (.bool x.is2)]) (T := [0, 1, 3, 7, 7, 0, 47, 127]) (nt := 46) (nh := 2) (H := [((L0.b 0), PC x), ((L3.b 5), PC x.sq2)]) (A := fun L => [PV x, .slice p n c, .pointer (some ⟨(L0.b 0), 0, none⟩), undef, .bool false, .pointer (some ⟨(L3.b 5), 0, none⟩), .bool x.is2, .pointer (some ⟨L.b 5, 0, none⟩), .bool x.is2, .bool true, .bool false, PV x, .bool true, .bool false, .bool false, .slice p n c, .int .i64 n, .bool false, .bool false, .tuple #[PV x.sq2, .bool x.is2], PV x, .tuple #[PV x.sq2, .bool x.is2], PV x.sq2, .bool x.is2, .tuple #[PV x.sq2, .bool x.is2], PV x, .tuple #[PV x.sq2, .bool x.is2], PV x.sq2, .bool x.is2, undef, undef, undef, undef, undef, undef, undef, undef, undef, undef, undef, undef, undef, undef, undef, undef, undef]) (H' := fun L => [((L0.b 0), PC x), ((L3.b 5), PC x.sq2), (L.b 5, PC x.sq2)]) (by kernel_rfl) rfl rfl rfl (fun L => by kernel_rfl) (fun L => by kernel_rfl) hp4 ⟨
    ob_load (b := (L0.b 0)) (off := 0) (cs := PC x) (by kernel_rfl) (fun _ => rfl) rfl rfl (fun _ => by kernel_rfl) (fun _ _ hs => (seen_at (k := 0) hs rfl).cells) Tryd.underlying26 rfl (sizePC _),
    ob_call (vs := #[PV x]) (by kernel_rfl) (by kernel_rfl) (fun _ => rfl) rfl rfl (fun _ => by kernel_rfl) (fun w _ _ => ref5Sqrt2 R x w),
    ob_move (fun _ => rfl) rfl rfl (fun _ => by kernel_rfl),
    ob_extract (vs := #[PV x.sq2, .bool x.is2]) (fun _ => rfl) rfl rfl (fun _ => by kernel_rfl) rfl,
    ob_extract (vs := #[PV x.sq2, .bool x.is2]) (fun _ => rfl) rfl rfl (fun _ => by kernel_rfl) rfl,
    ob_alloc (v := PV 0) (fun _ => rfl) rfl rfl zeroP rfl,
    ob_store (old := PC 0) (fun _ => rfl) rfl rfl (fun _ => by kernel_rfl) (fun _ => by kernel_rfl) rfl (sizePC _) (PC_one _) (le_len (PC_len _) (PC_len _) (by decide)) (splice_all ((PC_len _).trans (PC_len _).symm)).symm,
    ob_assign (fun _ => rfl) rfl rfl (fun _ => by kernel_rfl),
    trivial⟩ (fun L4 w5 hp5 => ?_)
  refine k7 _ _ ?_
  refine wp_seq_k (fun K8 k8 => ?_)
  refine draws (by kernel_rfl) (ks := [.det (PV x.sq2), .det (PV x.sq2), .det (.bool true), .det (.bool true), .det (.bool x.is2), .det (.bool x.is2), .det (.bool true), .det (.bool true), .det (.bool true), .det (PV x), .det (.slice p n c), .det (PV (F2.pw2 x E)), .det (PV x), .det (.slice p n c), .det (PV (F2.pw2 x E)), .det (.bool true), .det (.bool true), .det (.bool true)]) (T := [0, 0, 3, 7, 15, 15, 63, 127, 255, 511, 511, 2047, 511, 511, 16383, 32767, 65535, 131071]) (nt := 46) (nh := 3) (H := [((L0.b 0), PC x), ((L3.b 5), PC x.sq2), ((L4.b 5), PC x.sq2)]) (A := fun L => [PV x, .slice p n c, .pointer (some ⟨(L0.b 0), 0, none⟩), undef, .bool true, .pointer (some ⟨(L3.b 5), 0, none⟩), .bool x.is2, .pointer (some ⟨(L4.b 5), 0, none⟩), .bool x.is2, .bool true, .bool false, PV x, .bool true, .bool false, .bool false, .slice p n c, .int .i64 n, .bool false, .bool false, .tuple #[PV x.sq2, .bool x.is2], PV x, .tuple #[PV x.sq2, .bool x.is2], PV x.sq2, .bool x.is2, .tuple #[PV x.sq2, .bool x.is2], PV x, .tuple #[PV x.sq2, .bool x.is2], PV x.sq2, .bool x.is2, PV x.sq2, PV x.sq2, .bool true, .bool true, .bool x.is2, .bool x.is2, .bool true, .bool true, .bool true, PV x, .slice p n c, PV (F2.pw2 x E), PV x, .slice p n c, PV (F2.pw2 x E), .bool true, .bool true]) (H' := fun L => [((L0.b 0), PC x), ((L3.b 5), PC x.sq2), ((L4.b 5), PC x.sq2)]) (by kernel_rfl) rfl rfl rfl (fun L => by kernel_rfl) (fun L => by kernel_rfl) hp5 ⟨
    ob_load (b := (L3.b 5)) (off := 0) (cs := PC x.sq2) (by kernel_rfl) (fun _ => rfl) rfl rfl (fun _ => by kernel_rfl) (fun _ _ hs => (seen_at (k := 1) hs rfl).cells) Tryd.underlying26 rfl (sizePC _),
    ob_load (b := (L4.b 5)) (off := 0) (cs := PC x.sq2) (by kernel_rfl) (fun _ => rfl) rfl rfl (fun _ => by kernel_rfl) (fun _ _ hs => (seen_at (k := 2) hs rfl).cells) Tryd.underlying26 rfl (sizePC _),
    ob_eq (u := PV x.sq2) (v := PV x.sq2) (fun _ => rfl) rfl rfl (fun _ => by kernel_rfl) (fun _ => by kernel_rfl) (fun w => guardP _ _ _ _ _ w) (fun w => (eqlP _ _ w).trans (by rw [decide_eq_true (rfl)]; try rfl)),
    ob_move (fun _ => rfl) rfl rfl (fun _ => by kernel_rfl),
    ob_move (fun _ => by kernel_rfl) rfl rfl (fun _ => by kernel_rfl),
    ob_move (fun _ => by kernel_rfl) rfl rfl (fun _ => by kernel_rfl),
    ob_eq (u := .bool x.is2) (v := .bool x.is2) (fun _ => by kernel_rfl) rfl rfl (fun _ => by kernel_rfl) (fun _ => by kernel_rfl) (fun w => guardB _ _ _ _ _ _ w) (fun w => (eqlB _ _ w).trans (by simp)),
    ob_pickT (fun _ => rfl) rfl rfl (fun _ => by kernel_rfl) (fun _ => by kernel_rfl),
    ob_move (fun _ => rfl) rfl rfl (fun _ => by kernel_rfl),
    ob_load (b := (L0.b 0)) (off := 0) (cs := PC x) (by kernel_rfl) (fun _ => by kernel_rfl) rfl rfl (fun _ => by kernel_rfl) (fun _ _ hs => (seen_at (k := 0) hs rfl).cells) Tryd.underlying26 rfl (sizePC _),
    ob_move (fun _ => by kernel_rfl) rfl rfl (fun _ => by kernel_rfl),
    ob_call (vs := #[PV x, .slice p n c]) (by kernel_rfl) (by kernel_rfl) (fun _ => by kernel_rfl) rfl rfl (fun _ => by kernel_rfl) (fun w hb _ => fp2Pow K x p n c e E w (K.stay hg hb) (by omega) (AtK.below he hb) re hE),
    ob_load (b := (L0.b 0)) (off := 0) (cs := PC x) (by kernel_rfl) (fun _ => by kernel_rfl) rfl rfl (fun _ => by kernel_rfl) (fun _ _ hs => (seen_at (k := 0) hs rfl).cells) Tryd.underlying26 rfl (sizePC _),
    ob_move (fun _ => by kernel_rfl) rfl rfl (fun _ => by kernel_rfl),
    ob_call (vs := #[PV x, .slice p n c]) (by kernel_rfl) (by kernel_rfl) (fun _ => by kernel_rfl) rfl rfl (fun _ => by kernel_rfl) (fun w hb _ => ref5Pow2 R x p n c e E w (by omega) (AtK.below he hb) re hE),
    ob_eq (u := PV (F2.pw2 x E)) (v := PV (F2.pw2 x E)) (fun _ => by kernel_rfl) rfl rfl (fun _ => by kernel_rfl) (fun _ => by kernel_rfl) (fun w => guardP _ _ _ _ _ w) (fun w => (eqlP _ _ w).trans (by rw [decide_eq_true (rfl)]; try rfl)),
    ob_pickT (fun _ => rfl) rfl rfl (fun _ => by kernel_rfl) (fun _ => by kernel_rfl),
    ob_assign (fun _ => rfl) rfl rfl (fun _ => by kernel_rfl),
    trivial⟩ (fun L5 w6 hp6 => ?_)
  refine k8 _ _ ?_
  refine wp_ret ?_
  exact bodyPost_ret (v := .bool true) (res_t rfl (by kernel_rfl) _) rfl ⟨rfl, hp6.bel⟩
/-- What Fp2Roots answers. -/
theorem fp2Roots_walk {G : World → Prop} (K : FpK G) (R : RefK) (hH : ∀ w, G w → w.rangeAt 2 0 (FC hf)) (f g : Nat → Int) (rf : Rg f 6) (rg : Rg g 6) (p : Option Addr) (n c : Nat) (e : Nat → Int) (re : Rg e n) (w : World) (he : At w p n e) (hg : G w) :
    Calls Tryd.prog 4 #[QV2 f g, .slice p n c] w (Ret (.bool true) w) := by
  have hB := fun w hg => begun5 K w hg hH
  by_cases lf : val f 6 < RI
  · by_cases lg : val g 6 < RI
    · by_cases hn : n ≤ 7
      · obtain ⟨a, ha, -⟩ := num_of rf lf
        obtain ⟨b, hb, -⟩ := num_of rg lg
        rw [QV2_of (x := ⟨a, b⟩) ha hb]
        exact roots2 K R _ p n c e (val e n).toNat w hg hH hB hn he re (Int.toNat_of_nonneg (val_bd re).1).symm
      · exact roots1 K R f g p n c w hg hB (fun w _ => ref5May2 R f g w rf rg lf lg) (by omega)
    · exact roots0 K R f g p n c w hg hB (fun w _ => ref5May21 R f g w rf rg lf lg)
  · exact roots0 K R f g p n c w hg hB (fun w _ => ref5May20 R f g w rf lf)
end Go.Proofs.YtgoghcmnnhglhaaDoor.fpn

/- Put, Take. -/
namespace Go.Proofs.YtgoghcmnnhglhaaDoor.fpn
open Go.RowKit
attribute [local go_sem ↓] Go.wp_at_zero Go.wp_at_succ
set_option linter.unusedVariables false

end Go.Proofs.YtgoghcmnnhglhaaDoor.fpn

/- Inv. -/
namespace Go.Proofs.YtgoghcmnnhglhaaDoor.fpn
open Go.RowKit
attribute [local go_sem ↓] Go.wp_at_zero Go.wp_at_succ
set_option linter.unusedVariables false

theorem frInv_zero (f : Nat → Int) (w : World) (rf : Rg f 6) (hz : val f 6 = 0) : Calls Tryd.prog 31 #[.agg #[.int .u64 (f 0), .int .u64 (f 1), .int .u64 (f 2), .int .u64 (f 3), .int .u64 (f 4), .int .u64 (f 5)]] w fun e w' => ∃ h : Nat → Int, e = .returned (.tuple #[.agg #[.int .u64 (h 0), .int .u64 (h 1), .int .u64 (h 2), .int .u64 (h 3), .int .u64 (h 4), .int .u64 (h 5)], .int .i64 7]) ∧ Rg h 6 ∧ val h 6 = 0 ∧ Below w.heap.size w w' := by
  have E : ∀ w, (Op.equalIn 10000 24 (.agg #[.int .u64 (f 0), .int .u64 (f 1), .int .u64 (f 2), .int .u64 (f 3), .int .u64 (f 4), .int .u64 (f 5)]) (.agg #[.int .u64 0, .int .u64 0, .int .u64 0, .int .u64 0, .int .u64 0, .int .u64 0])).run Tryd.prog w = .ok true w := fun w => by
    have := eqFr_run f Z rf (Z_rg 6) w
    rw [val_Z, decide_eq_true hz] at this
    exact this
  clear rf hz
  go_enter Tryd.func31, Tryd.ntmps31
  go_wp2
  refine bodyPost_ret (v := .tuple #[.agg #[.int .u64 0, .int .u64 0, .int .u64 0, .int .u64 0, .int .u64 0, .int .u64 0], .int .i64 7]) (by simp [results, Tryd.results31, go_sem]) rfl ⟨Z, rfl, Z_rg 6, val_Z 6, below_two _ _ _⟩

/-- The limbs of R - 2. -/
def iL : Nat → Int
  | 0 => 13402431016077863593
  | 1 => 2210141511517208575
  | 2 => 7435674573564081700
  | 3 => 7239337960414712511
  | 4 => 5412103778470702295
  | 5 => 1873798617647539866
  | _ => 0
theorem iL_rg : Rg iL 6 := fun i hi => by
  rcases (show i = 0 ∨ i = 1 ∨ i = 2 ∨ i = 3 ∨ i = 4 ∨ i = 5 by omega) with rfl | rfl | rfl | rfl | rfl | rfl <;> rw [B64_eq] <;> decide
theorem iL_val : val iL 6 = ((RN - 2 : Nat) : Int) := by decide +kernel

theorem frInv_any (f : Nat → Int) (w : World) (hg : Gl w) (rf : Rg f 6) (hz : val f 6 ≠ 0) : Calls Tryd.prog 31 #[.agg #[.int .u64 (f 0), .int .u64 (f 1), .int .u64 (f 2), .int .u64 (f 3), .int .u64 (f 4), .int .u64 (f 5)]] w fun e w' => ∃ h : Nat → Int, e = .returned (.tuple #[.agg #[.int .u64 (h 0), .int .u64 (h 1), .int .u64 (h 2), .int .u64 (h 3), .int .u64 (h 4), .int .u64 (h 5)], .int .i64 0]) ∧ Rg h 6 ∧ val h 6 = val f 6 ^ (RN - 2) % RI ∧ Below w.heap.size w w' := by
  have E : ∀ w, (Op.equalIn 10000 24 (.agg #[.int .u64 (f 0), .int .u64 (f 1), .int .u64 (f 2), .int .u64 (f 3), .int .u64 (f 4), .int .u64 (f 5)]) (.agg #[.int .u64 0, .int .u64 0, .int .u64 0, .int .u64 0, .int .u64 0, .int .u64 0])).run Tryd.prog w = .ok false w := fun w => by
    have := eqFr_run f Z rf (Z_rg 6) w
    rw [val_Z, decide_eq_false hz] at this
    exact this
  obtain ⟨B1, z1, hF, hR⟩ := pair_all w f 24
  unfold pair at B1 z1 hF hR
  have hgl := hg.stay B1
  have K : Hid _ := fun (W : World) (hW : Gl W) (b : Nat) (ha : At W (some ⟨b, 0, none⟩) 6 iL) => frPow_any f (some ⟨b, 0, none⟩) 6 6 iL (RN - 2) W hW rf (by omega) ha iL_rg iL_val
  clear rf hz hg
  go_enter Tryd.func31, Tryd.ntmps31
  go_wp2_with fail
  generalize (w.alloc (.cells #[.int .u64 (f 0), .int .u64 (f 1), .int .u64 (f 2), .int .u64 (f 3), .int .u64 (f 4), .int .u64 (f 5)] 24)).alloc (.cells #[.int .u64 0, .int .u64 0, .int .u64 0, .int .u64 0, .int .u64 0, .int .u64 0] 24) = W at *
  have a1 := below_one W (.cells #[.int .u64 (iL 0), .int .u64 (iL 1), .int .u64 (iL 2), .int .u64 (iL 3), .int .u64 (iL 4), .int .u64 (iL 5)] 22)
  have m1 := (mut_four W iL 22).at
  rw [z1] at m1
  refine Calls.mono (K.out _ (hgl.stay a1) _ m1) ?_
  rintro e w2 ⟨h2, rfl, r2, v2, b2⟩
  have b3 := Below.up a1 (Nat.le_refl _) b2
  obtain ⟨y0, y1, y2, y3, y4, y5⟩ := (hR.below b3 (by rw [z1]; omega)).cells6
  obtain ⟨x0, x1, x2, x3, x4, x5⟩ := (hR.below b3 (by rw [z1]; omega)).free6
  have HB : Hid _ := Below.up B1 (Nat.le_refl _) b3
  have R2 : Hid _ := r2
  have V2 : Hid _ := v2
  clear b2 b3 B1 hF hR r2 v2 a1 m1 hgl
  go_wp2
  refine bodyPost_ret (v := .tuple #[.agg #[.int .u64 (h2 0), .int .u64 (h2 1), .int .u64 (h2 2), .int .u64 (h2 3), .int .u64 (h2 4), .int .u64 (h2 5)], .int .i64 0]) (by simp [results, Tryd.results31, go_sem, y0, y1, y2, y3, y4, y5]) rfl ⟨h2, rfl, R2.out, V2.out, ?_⟩
  exact below_set6 HB.out (by omega) _ _ _ _ _ _

end Go.Proofs.YtgoghcmnnhglhaaDoor.fpn

/- Sqrt. -/
namespace Go.Proofs.YtgoghcmnnhglhaaDoor.fpn
open Go.RowKit
attribute [local go_sem ↓] Go.wp_at_zero Go.wp_at_succ
set_option linter.unusedVariables false

/-- The limbs of (P + 1) / 4. -/
def qL : Nat → Int
  | 0 => 17185665809301629611
  | 1 => 552535377879302143
  | 2 => 15693976698673184137
  | 3 => 15644892545385841839
  | 4 => 10576397981472451381
  | 5 => 468449654411884966
  | _ => 0
theorem qL_rg : Rg qL 6 := fun i hi => by
  rcases (show i = 0 ∨ i = 1 ∨ i = 2 ∨ i = 3 ∨ i = 4 ∨ i = 5 by omega) with rfl | rfl | rfl | rfl | rfl | rfl <;> rw [B64_eq] <;> decide
theorem qL_val : val qL 6 = (SE : Int) := by decide +kernel

set_option maxHeartbeats 4000000 in
theorem frSqrt_no (f : Nat → Int) (w : World) (hg : Gl w) (rf : Rg f 6) (lf : val f 6 < RI) (hn : sq (val f 6) * sq (val f 6) % RI ≠ val f 6) : Calls Tryd.prog 81 #[.agg #[.int .u64 (f 0), .int .u64 (f 1), .int .u64 (f 2), .int .u64 (f 3), .int .u64 (f 4), .int .u64 (f 5)]] w fun e w' => ∃ h : Nat → Int, e = .returned (.tuple #[.agg #[.int .u64 (h 0), .int .u64 (h 1), .int .u64 (h 2), .int .u64 (h 3), .int .u64 (h 4), .int .u64 (h 5)], .bool false]) ∧ Rg h 6 ∧ val h 6 = 0 ∧ Below w.heap.size w w' := by
  obtain ⟨B1, z1, hF, hR⟩ := pair_all w f 24
  unfold pair at B1 z1 hF hR
  have hgl := hg.stay B1
  have K : Hid _ := fun (W : World) (hW : Gl W) (b : Nat) (ha : At W (some ⟨b, 0, none⟩) 6 qL) => frPow_any f (some ⟨b, 0, none⟩) 6 6 qL SE W hW rf (by omega) ha qL_rg qL_val
  have RF : Hid _ := rf
  have HN : Hid _ := hn
  clear rf hn hg
  go_enter Tryd.func81, Tryd.ntmps81
  go_wp2_with fail
  generalize (w.alloc (.cells #[.int .u64 (f 0), .int .u64 (f 1), .int .u64 (f 2), .int .u64 (f 3), .int .u64 (f 4), .int .u64 (f 5)] 24)).alloc (.cells #[.int .u64 0, .int .u64 0, .int .u64 0, .int .u64 0, .int .u64 0, .int .u64 0] 24) = W at *
  have a1 := below_one W (.cells #[.int .u64 (qL 0), .int .u64 (qL 1), .int .u64 (qL 2), .int .u64 (qL 3), .int .u64 (qL 4), .int .u64 (qL 5)] 22)
  have m1 := (mut_four W qL 22).at
  rw [z1] at m1
  refine Calls.mono (K.out _ (hgl.stay a1) _ m1) ?_
  rintro e w2 ⟨h2, rfl, r2, v2, b2⟩
  have b3 := Below.up (Below.up a1 (Nat.le_refl _) b2) (Nat.le_refl _) (below_one w2 (.cells #[.int .u64 (h2 0), .int .u64 (h2 1), .int .u64 (h2 2), .int .u64 (h2 3), .int .u64 (h2 4), .int .u64 (h2 5)] 24))
  have mv := mut_four w2 h2 24
  have V2 : Hid (val h2 6 = sq (val f 6)) := v2
  have l2 : Hid (val h2 6 < RI) := by show _ < _; rw [v2]; exact modR_lt _
  have HM : Hid _ := fun (W : World) (hW : Gl W) => frMul_any h2 h2 W hW r2 r2
  have R2 : Hid _ := r2
  have hF2 := MutK.below hF b3 (by rw [z1]; omega)
  have hR2 := MutK.below hR b3 (by rw [z1]; omega)
  have hg2 := hgl.stay b3
  have B2 := Below.up B1 (Nat.le_refl _) b3
  clear hF hR hgl b3 b2 a1 m1 K r2 v2 B1 z1
  go_wp2_with fail
  generalize w2.alloc (.cells #[.int .u64 (h2 0), .int .u64 (h2 1), .int .u64 (h2 2), .int .u64 (h2 3), .int .u64 (h2 4), .int .u64 (h2 5)] 24) = V at *
  have HS : Hid (∀ x, Below V.heap.size V x → (x.cell? ⟨w2.heap.size, 0, none⟩ = some (.int .u64 (h2 0)) ∧ x.cell? ⟨w2.heap.size, 1, none⟩ = some (.int .u64 (h2 1)) ∧ x.cell? ⟨w2.heap.size, 2, none⟩ = some (.int .u64 (h2 2)) ∧ x.cell? ⟨w2.heap.size, 3, none⟩ = some (.int .u64 (h2 3)) ∧ x.cell? ⟨w2.heap.size, 4, none⟩ = some (.int .u64 (h2 4)) ∧ x.cell? ⟨w2.heap.size, 5, none⟩ = some (.int .u64 (h2 5))) ∧ (x.cell? ⟨w.heap.size, 0, none⟩ = some (.int .u64 (f 0)) ∧ x.cell? ⟨w.heap.size, 1, none⟩ = some (.int .u64 (f 1)) ∧ x.cell? ⟨w.heap.size, 2, none⟩ = some (.int .u64 (f 2)) ∧ x.cell? ⟨w.heap.size, 3, none⟩ = some (.int .u64 (f 3)) ∧ x.cell? ⟨w.heap.size, 4, none⟩ = some (.int .u64 (f 4)) ∧ x.cell? ⟨w.heap.size, 5, none⟩ = some (.int .u64 (f 5)))) := fun x hx => ⟨at6 (mv.at.below hx), at6 (hF2.at.below hx)⟩
  have HGL : Hid _ := hg2
  have HR : Hid _ := hR2
  have BV : Hid (Below V.heap.size V V.drew) := (Below.refl _ _).drew
  have B2' : Hid _ := B2
  have MV : Hid _ := mv
  have HF : Hid _ := hF2
  clear hF2 hR2 hg2 B2 mv
  obtain ⟨⟨a0, a1, a2, a3, a4, a5⟩, c0, c1, c2, c3, c4, c5⟩ := HS.out _ (Below.refl _ _)
  go_region_with (go_at_call 40; refine Calls.mono (HM.out _ (Gl.stay HGL.out BV.out)) ?_; rintro e x3 ⟨h3, rfl, r3, v3, b3⟩; have BX := Below.up BV.out (Nat.le_refl _) b3; have E3 : ∀ w, (Op.equalIn 10000 24 (.agg #[.int .u64 (h3 0), .int .u64 (h3 1), .int .u64 (h3 2), .int .u64 (h3 3), .int .u64 (h3 4), .int .u64 (h3 5)]) (.agg #[.int .u64 (f 0), .int .u64 (f 1), .int .u64 (f 2), .int .u64 (f 3), .int .u64 (f 4), .int .u64 (f 5)])).run Tryd.prog w = .ok false w := (fun w => by have e := eqFr_run h3 f r3 RF.out w; rw [v3, V2.out, decide_eq_false HN.out] at e; exact e); have E4 : ∀ w, (Op.equalIn 10000 24 (.agg #[.int .u64 (f 0), .int .u64 (f 1), .int .u64 (f 2), .int .u64 (f 3), .int .u64 (f 4), .int .u64 (f 5)]) (.agg #[.int .u64 (h3 0), .int .u64 (h3 1), .int .u64 (h3 2), .int .u64 (h3 3), .int .u64 (h3 4), .int .u64 (h3 5)])).run Tryd.prog w = .ok false w := (fun w => by have e := eqFr_run f h3 RF.out r3 w; rw [v3, V2.out, decide_eq_false (Ne.symm HN.out)] at e; exact e); obtain ⟨⟨d0, d1, d2, d3, d4, d5⟩, p0, p1, p2, p3, p4, p5⟩ := HS.out _ BX; obtain ⟨y0, y1, y2, y3, y4, y5⟩ := MutK.cells6 (MutK.below HR.out BX (cell_lt (MutK.cells6 HR.out).1)); obtain ⟨q0, q1, q2, q3, q4, q5⟩ := MutK.free6 (MutK.below HR.out BX (cell_lt (MutK.cells6 HR.out).1)); have BX3 : Hid _ := BX; clear b3 BX r3 v3 BV)
  all_goals
    clear a0 a1 a2 a3 a4 a5 c0 c1 c2 c3 c4 c5
    go_wp2
    refine bodyPost_ret (v := .tuple #[.agg #[.int .u64 0, .int .u64 0, .int .u64 0, .int .u64 0, .int .u64 0, .int .u64 0], .bool false]) (by simp [results, Tryd.results81, go_sem, y0, y1, y2, y3, y4, y5]) rfl ⟨Z, rfl, Z_rg 6, val_Z 6, ?_⟩
    exact below_set6 (Below.up B2'.out (Nat.le_refl _) BX3.out) (by omega) _ _ _ _ _ _

set_option maxHeartbeats 4000000 in
theorem frSqrt_great (f : Nat → Int) (w : World) (hg : Gl w) (rf : Rg f 6) (lf : val f 6 < RI) (hn : sq (val f 6) * sq (val f 6) % RI = val f 6) (hq : RI / 2 < sq (val f 6)) : Calls Tryd.prog 81 #[.agg #[.int .u64 (f 0), .int .u64 (f 1), .int .u64 (f 2), .int .u64 (f 3), .int .u64 (f 4), .int .u64 (f 5)]] w fun e w' => ∃ h : Nat → Int, e = .returned (.tuple #[.agg #[.int .u64 (h 0), .int .u64 (h 1), .int .u64 (h 2), .int .u64 (h 3), .int .u64 (h 4), .int .u64 (h 5)], .bool true]) ∧ Rg h 6 ∧ val h 6 = (0 - sq (val f 6)) % RI ∧ Below w.heap.size w w' := by
  obtain ⟨B1, z1, hF, hR⟩ := pair_all w f 24
  unfold pair at B1 z1 hF hR
  have hgl := hg.stay B1
  have K : Hid _ := fun (W : World) (hW : Gl W) (b : Nat) (ha : At W (some ⟨b, 0, none⟩) 6 qL) => frPow_any f (some ⟨b, 0, none⟩) 6 6 qL SE W hW rf (by omega) ha qL_rg qL_val
  have RF : Hid _ := rf
  have HN : Hid _ := hn
  have HQ : Hid _ := hq
  clear hq
  clear rf hn hg
  go_enter Tryd.func81, Tryd.ntmps81
  go_wp2_with fail
  generalize (w.alloc (.cells #[.int .u64 (f 0), .int .u64 (f 1), .int .u64 (f 2), .int .u64 (f 3), .int .u64 (f 4), .int .u64 (f 5)] 24)).alloc (.cells #[.int .u64 0, .int .u64 0, .int .u64 0, .int .u64 0, .int .u64 0, .int .u64 0] 24) = W at *
  have a1 := below_one W (.cells #[.int .u64 (qL 0), .int .u64 (qL 1), .int .u64 (qL 2), .int .u64 (qL 3), .int .u64 (qL 4), .int .u64 (qL 5)] 22)
  have m1 := (mut_four W qL 22).at
  rw [z1] at m1
  refine Calls.mono (K.out _ (hgl.stay a1) _ m1) ?_
  rintro e w2 ⟨h2, rfl, r2, v2, b2⟩
  have b3 := Below.up (Below.up a1 (Nat.le_refl _) b2) (Nat.le_refl _) (below_one w2 (.cells #[.int .u64 (h2 0), .int .u64 (h2 1), .int .u64 (h2 2), .int .u64 (h2 3), .int .u64 (h2 4), .int .u64 (h2 5)] 24))
  have mv := mut_four w2 h2 24
  have V2 : Hid (val h2 6 = sq (val f 6)) := v2
  have l2 : Hid (val h2 6 < RI) := by show _ < _; rw [v2]; exact modR_lt _
  have HM : Hid _ := fun (W : World) (hW : Gl W) => frMul_any h2 h2 W hW r2 r2
  have R2 : Hid _ := r2
  have hF2 := MutK.below hF b3 (by rw [z1]; omega)
  have hR2 := MutK.below hR b3 (by rw [z1]; omega)
  have hg2 := hgl.stay b3
  have B2 := Below.up B1 (Nat.le_refl _) b3
  clear hF hR hgl b3 b2 a1 m1 K r2 v2 B1 z1
  go_wp2_with fail
  generalize w2.alloc (.cells #[.int .u64 (h2 0), .int .u64 (h2 1), .int .u64 (h2 2), .int .u64 (h2 3), .int .u64 (h2 4), .int .u64 (h2 5)] 24) = V at *
  have HS : Hid (∀ x, Below V.heap.size V x → (x.cell? ⟨w2.heap.size, 0, none⟩ = some (.int .u64 (h2 0)) ∧ x.cell? ⟨w2.heap.size, 1, none⟩ = some (.int .u64 (h2 1)) ∧ x.cell? ⟨w2.heap.size, 2, none⟩ = some (.int .u64 (h2 2)) ∧ x.cell? ⟨w2.heap.size, 3, none⟩ = some (.int .u64 (h2 3)) ∧ x.cell? ⟨w2.heap.size, 4, none⟩ = some (.int .u64 (h2 4)) ∧ x.cell? ⟨w2.heap.size, 5, none⟩ = some (.int .u64 (h2 5))) ∧ (x.cell? ⟨w.heap.size, 0, none⟩ = some (.int .u64 (f 0)) ∧ x.cell? ⟨w.heap.size, 1, none⟩ = some (.int .u64 (f 1)) ∧ x.cell? ⟨w.heap.size, 2, none⟩ = some (.int .u64 (f 2)) ∧ x.cell? ⟨w.heap.size, 3, none⟩ = some (.int .u64 (f 3)) ∧ x.cell? ⟨w.heap.size, 4, none⟩ = some (.int .u64 (f 4)) ∧ x.cell? ⟨w.heap.size, 5, none⟩ = some (.int .u64 (f 5)))) := fun x hx => ⟨at6 (mv.at.below hx), at6 (hF2.at.below hx)⟩
  have HGL : Hid _ := hg2
  have HR : Hid _ := hR2
  have BV : Hid (Below V.heap.size V V.drew) := (Below.refl _ _).drew
  have B2' : Hid _ := B2
  have MV : Hid _ := mv
  have HF : Hid _ := hF2
  clear hF2 hR2 hg2 B2 mv
  obtain ⟨⟨a0, a1, a2, a3, a4, a5⟩, c0, c1, c2, c3, c4, c5⟩ := HS.out _ (Below.refl _ _)
  go_region_with (go_at_call 40; refine Calls.mono (HM.out _ (Gl.stay HGL.out BV.out)) ?_; rintro e x3 ⟨h3, rfl, r3, v3, b3⟩; have BX := Below.up BV.out (Nat.le_refl _) b3; have E3 : ∀ w, (Op.equalIn 10000 24 (.agg #[.int .u64 (h3 0), .int .u64 (h3 1), .int .u64 (h3 2), .int .u64 (h3 3), .int .u64 (h3 4), .int .u64 (h3 5)]) (.agg #[.int .u64 (f 0), .int .u64 (f 1), .int .u64 (f 2), .int .u64 (f 3), .int .u64 (f 4), .int .u64 (f 5)])).run Tryd.prog w = .ok true w := (fun w => by have e := eqFr_run h3 f r3 RF.out w; rw [v3, V2.out, decide_eq_true HN.out] at e; exact e); have E4 : ∀ w, (Op.equalIn 10000 24 (.agg #[.int .u64 (f 0), .int .u64 (f 1), .int .u64 (f 2), .int .u64 (f 3), .int .u64 (f 4), .int .u64 (f 5)]) (.agg #[.int .u64 (h3 0), .int .u64 (h3 1), .int .u64 (h3 2), .int .u64 (h3 3), .int .u64 (h3 4), .int .u64 (h3 5)])).run Tryd.prog w = .ok true w := (fun w => by have e := eqFr_run f h3 RF.out r3 w; rw [v3, V2.out, decide_eq_true HN.out.symm] at e; exact e); obtain ⟨⟨d0, d1, d2, d3, d4, d5⟩, p0, p1, p2, p3, p4, p5⟩ := HS.out _ BX; obtain ⟨y0, y1, y2, y3, y4, y5⟩ := MutK.cells6 (MutK.below HR.out BX (cell_lt (MutK.cells6 HR.out).1)); obtain ⟨q0, q1, q2, q3, q4, q5⟩ := MutK.free6 (MutK.below HR.out BX (cell_lt (MutK.cells6 HR.out).1)); have BX3 : Hid _ := BX; clear b3 BX r3 v3 BV)
  all_goals
    have KG : Hid _ := fun W hW => frGreat_any h2 W hW R2.out
    rw [V2.out, decide_eq_true HQ.out] at KG
    clear a0 a1 a2 a3 a4 a5 c0 c1 c2 c3 c4 c5 y0 y1 y2 y3 y4 y5 q0 q1 q2 q3 q4 q5
    go_wp2_with fail
    refine Calls.mono (KG.out x3 (Gl.stay HGL.out BX3.out)) ?_
    rintro e x4 ⟨rfl, b4⟩
    have BX4 := Below.up BX3.out (Nat.le_refl _) b4
    obtain ⟨⟨t0, t1, t2, t3, t4, t5⟩, s0, s1, s2, s3, s4, s5⟩ := HS.out _ BX4
    obtain ⟨y0, y1, y2, y3, y4, y5⟩ := MutK.cells6 (MutK.below HR.out BX4 (cell_lt (MutK.cells6 HR.out).1))
    obtain ⟨q0, q1, q2, q3, q4, q5⟩ := MutK.free6 (MutK.below HR.out BX4 (cell_lt (MutK.cells6 HR.out).1))
    have HX4 : Hid _ := BX4
    clear d0 d1 d2 d3 d4 d5 p0 p1 p2 p3 p4 p5 b4 BX4 E3 E4
    clear y0 y1 y2 y3 y4 y5 q0 q1 q2 q3 q4 q5
    go_wp2_with fail
    refine Calls.mono (frNeg_any h2 x4 R2.out l2.out) ?_
    rintro e x5 ⟨h5, rfl, r5, v5, b5⟩
    have BX5 := Below.up HX4.out (Nat.le_refl _) b5
    obtain ⟨y0, y1, y2, y3, y4, y5⟩ := MutK.cells6 (MutK.below HR.out BX5 (cell_lt (MutK.cells6 HR.out).1))
    obtain ⟨q0, q1, q2, q3, q4, q5⟩ := MutK.free6 (MutK.below HR.out BX5 (cell_lt (MutK.cells6 HR.out).1))
    have HX5 : Hid _ := BX5
    have R5 : Hid _ := r5
    rw [V2.out] at v5
    have V5 : Hid _ := v5
    clear t0 t1 t2 t3 t4 t5 s0 s1 s2 s3 s4 s5 b5 BX5 r5 v5
    go_wp2
    refine bodyPost_ret (v := .tuple #[.agg #[.int .u64 (h5 0), .int .u64 (h5 1), .int .u64 (h5 2), .int .u64 (h5 3), .int .u64 (h5 4), .int .u64 (h5 5)], .bool true]) (by simp [results, Tryd.results81, go_sem, y0, y1, y2, y3, y4, y5]) rfl ⟨h5, rfl, R5.out, V5.out, ?_⟩
    exact below_set6 (Below.up B2'.out (Nat.le_refl _) HX5.out) (by omega) _ _ _ _ _ _

set_option maxHeartbeats 4000000 in
theorem frSqrt_less (f : Nat → Int) (w : World) (hg : Gl w) (rf : Rg f 6) (lf : val f 6 < RI) (hn : sq (val f 6) * sq (val f 6) % RI = val f 6) (hq : ¬ RI / 2 < sq (val f 6)) : Calls Tryd.prog 81 #[.agg #[.int .u64 (f 0), .int .u64 (f 1), .int .u64 (f 2), .int .u64 (f 3), .int .u64 (f 4), .int .u64 (f 5)]] w fun e w' => ∃ h : Nat → Int, e = .returned (.tuple #[.agg #[.int .u64 (h 0), .int .u64 (h 1), .int .u64 (h 2), .int .u64 (h 3), .int .u64 (h 4), .int .u64 (h 5)], .bool true]) ∧ Rg h 6 ∧ val h 6 = sq (val f 6) ∧ Below w.heap.size w w' := by
  obtain ⟨B1, z1, hF, hR⟩ := pair_all w f 24
  unfold pair at B1 z1 hF hR
  have hgl := hg.stay B1
  have K : Hid _ := fun (W : World) (hW : Gl W) (b : Nat) (ha : At W (some ⟨b, 0, none⟩) 6 qL) => frPow_any f (some ⟨b, 0, none⟩) 6 6 qL SE W hW rf (by omega) ha qL_rg qL_val
  have RF : Hid _ := rf
  have HN : Hid _ := hn
  have HQ : Hid _ := hq
  clear hq
  clear rf hn hg
  go_enter Tryd.func81, Tryd.ntmps81
  go_wp2_with fail
  generalize (w.alloc (.cells #[.int .u64 (f 0), .int .u64 (f 1), .int .u64 (f 2), .int .u64 (f 3), .int .u64 (f 4), .int .u64 (f 5)] 24)).alloc (.cells #[.int .u64 0, .int .u64 0, .int .u64 0, .int .u64 0, .int .u64 0, .int .u64 0] 24) = W at *
  have a1 := below_one W (.cells #[.int .u64 (qL 0), .int .u64 (qL 1), .int .u64 (qL 2), .int .u64 (qL 3), .int .u64 (qL 4), .int .u64 (qL 5)] 22)
  have m1 := (mut_four W qL 22).at
  rw [z1] at m1
  refine Calls.mono (K.out _ (hgl.stay a1) _ m1) ?_
  rintro e w2 ⟨h2, rfl, r2, v2, b2⟩
  have b3 := Below.up (Below.up a1 (Nat.le_refl _) b2) (Nat.le_refl _) (below_one w2 (.cells #[.int .u64 (h2 0), .int .u64 (h2 1), .int .u64 (h2 2), .int .u64 (h2 3), .int .u64 (h2 4), .int .u64 (h2 5)] 24))
  have mv := mut_four w2 h2 24
  have V2 : Hid (val h2 6 = sq (val f 6)) := v2
  have l2 : Hid (val h2 6 < RI) := by show _ < _; rw [v2]; exact modR_lt _
  have HM : Hid _ := fun (W : World) (hW : Gl W) => frMul_any h2 h2 W hW r2 r2
  have R2 : Hid _ := r2
  have hF2 := MutK.below hF b3 (by rw [z1]; omega)
  have hR2 := MutK.below hR b3 (by rw [z1]; omega)
  have hg2 := hgl.stay b3
  have B2 := Below.up B1 (Nat.le_refl _) b3
  clear hF hR hgl b3 b2 a1 m1 K r2 v2 B1 z1
  go_wp2_with fail
  generalize w2.alloc (.cells #[.int .u64 (h2 0), .int .u64 (h2 1), .int .u64 (h2 2), .int .u64 (h2 3), .int .u64 (h2 4), .int .u64 (h2 5)] 24) = V at *
  have HS : Hid (∀ x, Below V.heap.size V x → (x.cell? ⟨w2.heap.size, 0, none⟩ = some (.int .u64 (h2 0)) ∧ x.cell? ⟨w2.heap.size, 1, none⟩ = some (.int .u64 (h2 1)) ∧ x.cell? ⟨w2.heap.size, 2, none⟩ = some (.int .u64 (h2 2)) ∧ x.cell? ⟨w2.heap.size, 3, none⟩ = some (.int .u64 (h2 3)) ∧ x.cell? ⟨w2.heap.size, 4, none⟩ = some (.int .u64 (h2 4)) ∧ x.cell? ⟨w2.heap.size, 5, none⟩ = some (.int .u64 (h2 5))) ∧ (x.cell? ⟨w.heap.size, 0, none⟩ = some (.int .u64 (f 0)) ∧ x.cell? ⟨w.heap.size, 1, none⟩ = some (.int .u64 (f 1)) ∧ x.cell? ⟨w.heap.size, 2, none⟩ = some (.int .u64 (f 2)) ∧ x.cell? ⟨w.heap.size, 3, none⟩ = some (.int .u64 (f 3)) ∧ x.cell? ⟨w.heap.size, 4, none⟩ = some (.int .u64 (f 4)) ∧ x.cell? ⟨w.heap.size, 5, none⟩ = some (.int .u64 (f 5)))) := fun x hx => ⟨at6 (mv.at.below hx), at6 (hF2.at.below hx)⟩
  have HGL : Hid _ := hg2
  have HR : Hid _ := hR2
  have BV : Hid (Below V.heap.size V V.drew) := (Below.refl _ _).drew
  have B2' : Hid _ := B2
  have MV : Hid _ := mv
  have HF : Hid _ := hF2
  clear hF2 hR2 hg2 B2 mv
  obtain ⟨⟨a0, a1, a2, a3, a4, a5⟩, c0, c1, c2, c3, c4, c5⟩ := HS.out _ (Below.refl _ _)
  go_region_with (go_at_call 40; refine Calls.mono (HM.out _ (Gl.stay HGL.out BV.out)) ?_; rintro e x3 ⟨h3, rfl, r3, v3, b3⟩; have BX := Below.up BV.out (Nat.le_refl _) b3; have E3 : ∀ w, (Op.equalIn 10000 24 (.agg #[.int .u64 (h3 0), .int .u64 (h3 1), .int .u64 (h3 2), .int .u64 (h3 3), .int .u64 (h3 4), .int .u64 (h3 5)]) (.agg #[.int .u64 (f 0), .int .u64 (f 1), .int .u64 (f 2), .int .u64 (f 3), .int .u64 (f 4), .int .u64 (f 5)])).run Tryd.prog w = .ok true w := (fun w => by have e := eqFr_run h3 f r3 RF.out w; rw [v3, V2.out, decide_eq_true HN.out] at e; exact e); have E4 : ∀ w, (Op.equalIn 10000 24 (.agg #[.int .u64 (f 0), .int .u64 (f 1), .int .u64 (f 2), .int .u64 (f 3), .int .u64 (f 4), .int .u64 (f 5)]) (.agg #[.int .u64 (h3 0), .int .u64 (h3 1), .int .u64 (h3 2), .int .u64 (h3 3), .int .u64 (h3 4), .int .u64 (h3 5)])).run Tryd.prog w = .ok true w := (fun w => by have e := eqFr_run f h3 RF.out r3 w; rw [v3, V2.out, decide_eq_true HN.out.symm] at e; exact e); obtain ⟨⟨d0, d1, d2, d3, d4, d5⟩, p0, p1, p2, p3, p4, p5⟩ := HS.out _ BX; obtain ⟨y0, y1, y2, y3, y4, y5⟩ := MutK.cells6 (MutK.below HR.out BX (cell_lt (MutK.cells6 HR.out).1)); obtain ⟨q0, q1, q2, q3, q4, q5⟩ := MutK.free6 (MutK.below HR.out BX (cell_lt (MutK.cells6 HR.out).1)); have BX3 : Hid _ := BX; clear b3 BX r3 v3 BV)
  all_goals
    have KG : Hid _ := fun W hW => frGreat_any h2 W hW R2.out
    rw [V2.out, decide_eq_false HQ.out] at KG
    clear a0 a1 a2 a3 a4 a5 c0 c1 c2 c3 c4 c5 y0 y1 y2 y3 y4 y5 q0 q1 q2 q3 q4 q5
    go_wp2_with fail
    refine Calls.mono (KG.out x3 (Gl.stay HGL.out BX3.out)) ?_
    rintro e x4 ⟨rfl, b4⟩
    have BX4 := Below.up BX3.out (Nat.le_refl _) b4
    obtain ⟨⟨t0, t1, t2, t3, t4, t5⟩, s0, s1, s2, s3, s4, s5⟩ := HS.out _ BX4
    obtain ⟨y0, y1, y2, y3, y4, y5⟩ := MutK.cells6 (MutK.below HR.out BX4 (cell_lt (MutK.cells6 HR.out).1))
    obtain ⟨q0, q1, q2, q3, q4, q5⟩ := MutK.free6 (MutK.below HR.out BX4 (cell_lt (MutK.cells6 HR.out).1))
    have HX4 : Hid _ := BX4
    clear d0 d1 d2 d3 d4 d5 p0 p1 p2 p3 p4 p5 b4 BX4 E3 E4
    go_wp2
    refine bodyPost_ret (v := .tuple #[.agg #[.int .u64 (h2 0), .int .u64 (h2 1), .int .u64 (h2 2), .int .u64 (h2 3), .int .u64 (h2 4), .int .u64 (h2 5)], .bool true]) (by simp [results, Tryd.results81, go_sem, y0, y1, y2, y3, y4, y5]) rfl ⟨h2, rfl, R2.out, V2.out, ?_⟩
    exact below_set6 (Below.up B2'.out (Nat.le_refl _) HX4.out) (by omega) _ _ _ _ _ _

theorem frSqrt_yes (f : Nat → Int) (w : World) (hg : Gl w) (rf : Rg f 6) (lf : val f 6 < RI) (hn : sq (val f 6) * sq (val f 6) % RI = val f 6) : Calls Tryd.prog 81 #[.agg #[.int .u64 (f 0), .int .u64 (f 1), .int .u64 (f 2), .int .u64 (f 3), .int .u64 (f 4), .int .u64 (f 5)]] w fun e w' => ∃ h : Nat → Int, e = .returned (.tuple #[.agg #[.int .u64 (h 0), .int .u64 (h 1), .int .u64 (h 2), .int .u64 (h 3), .int .u64 (h 4), .int .u64 (h 5)], .bool true]) ∧ Rg h 6 ∧ val h 6 = lesser (sq (val f 6)) ∧ Below w.heap.size w w' := by
  unfold lesser
  by_cases hq : RI / 2 < sq (val f 6)
  · rw [if_pos hq]; exact frSqrt_great f w hg rf lf hn hq
  · rw [if_neg hq]; exact frSqrt_less f w hg rf lf hn hq

end Go.Proofs.YtgoghcmnnhglhaaDoor.fpn

/- Package fp answers as the document asks. -/
namespace Go.Proofs.YtgoghcmnnhglhaaDoor.fpn
open Go.RowKit

theorem fpOk : FpOk Gl where
  stay := fun h b => h.stay b
  add := fun f g w _ rf rg lf lg => frAdd_any f g w rf rg lf lg
  sub := fun f g w _ rf rg lf lg => frSub_any f g w rf rg lf lg
  mul := fun f g w hg rf rg _ _ => frMul_any f g w hg rf rg
  neg := fun f w _ rf lf => frNeg_any f w rf lf
  of := fun x w _ hx => frOf_any x w hx
  inv0 := fun f w _ rf hz => frInv_zero f w rf hz
  inv := fun f w hg rf _ hz => frInv_any f w hg rf hz
  pow := fun f p n c g E w hg rf _ hn _ _ he rg hE => frPow_any f p n c g E w hg rf hn he rg hE
  may := fun f w _ rf => frMay_any f w rf
  great := fun f w hg rf _ => frGreat_any f w hg rf
  sqrtNo := fun f w hg rf lf hn => frSqrt_no f w hg rf lf hn
  sqrtYes := fun f w hg rf lf hn => frSqrt_yes f w hg rf lf hn
end Go.Proofs.YtgoghcmnnhglhaaDoor.fpn

/- What arrays of limbs and pairs of them that come in give the walks; what the listed package variables hold. -/
namespace Go.Proofs.YtgoghcmnnhglhaaDoor.fpn
open Go.ChangeShapes Go.WideShapes Go.ChangeAt Go.WideElems Go.RowKit
set_option linter.unusedVariables false

/-- Cells that are read as a number of the base field are six limbs. -/
theorem row6 {H : Type} {enc : TypeId × Value → H} {W : World} {base : Nat} {spare : Nat → Bool} {held : Bool} {fuel : Nat} {cs : List Value} {x : DataW H × List MemPlace}
    (h : DataW.trod enc Tryd.prog W base spare held fuel 24 cs = some x) : ∃ f : Nat → Int, cs = QC f ∧ Rg f 6 := by
  obtain ⟨xs, m, _, _, hlen, hn, hel⟩ := DataW.trod_array Tryd.underlying24 h
  rw [cellsFr] at hlen
  rw [cells64] at hel
  obtain ⟨c0, c1, c2, c3, c4, c5, rfl⟩ := list6 cs hlen
  match xs, hn with
  | [y0, y1, y2, y3, y4, y5], _ =>
    obtain ⟨x0, e0, rfl, w0⟩ := DataW.trod_int Tryd.underlying22 (show DataW.trod _ Tryd.prog W _ _ _ m 22 _ = some y0 from hel 0 (by decide))
    obtain ⟨x1, e1, rfl, w1⟩ := DataW.trod_int Tryd.underlying22 (show DataW.trod _ Tryd.prog W _ _ _ m 22 _ = some y1 from hel 1 (by decide))
    obtain ⟨x2, e2, rfl, w2⟩ := DataW.trod_int Tryd.underlying22 (show DataW.trod _ Tryd.prog W _ _ _ m 22 _ = some y2 from hel 2 (by decide))
    obtain ⟨x3, e3, rfl, w3⟩ := DataW.trod_int Tryd.underlying22 (show DataW.trod _ Tryd.prog W _ _ _ m 22 _ = some y3 from hel 3 (by decide))
    obtain ⟨x4, e4, rfl, w4⟩ := DataW.trod_int Tryd.underlying22 (show DataW.trod _ Tryd.prog W _ _ _ m 22 _ = some y4 from hel 4 (by decide))
    obtain ⟨x5, e5, rfl, w5⟩ := DataW.trod_int Tryd.underlying22 (show DataW.trod _ Tryd.prog W _ _ _ m 22 _ = some y5 from hel 5 (by decide))
    simp at e0 e1 e2 e3 e4 e5
    subst e0 e1 e2 e3 e4 e5
    refine ⟨hexa x0 x1 x2 x3 x4 x5, rfl, fun i hi => ?_⟩
    have b0 := bounds_u64 w0
    have b1 := bounds_u64 w1
    have b2 := bounds_u64 w2
    have b3 := bounds_u64 w3
    have b4 := bounds_u64 w4
    have b5 := bounds_u64 w5
    rw [B64_eq]
    rcases (show i = 0 ∨ i = 1 ∨ i = 2 ∨ i = 3 ∨ i = 4 ∨ i = 5 by omega) with rfl | rfl | rfl | rfl | rfl | rfl <;> simp only [hexa] <;> omega

theorem cut2 {α : Type} {cs : List α} {n : Nat} (h : cs.length = 2 * n) : cs = (cs.drop (0 * n)).take n ++ (cs.drop (1 * n)).take n := by
  rw [Nat.zero_mul, Nat.one_mul, List.drop_zero, List.take_of_length_le (l := cs.drop n) (by rw [List.length_drop]; omega), List.take_append_drop]

theorem cells2 : Tryd.prog.cellsOf 26 = 12 := by kernel_rfl
theorem under2 : Tryd.prog.underlying 26 = some (.array 2 24) := Tryd.underlying26

theorem row12 {H : Type} {enc : TypeId × Value → H} {W : World} {base : Nat} {spare : Nat → Bool} {held : Bool} {fuel : Nat} {cs : List Value} {x : DataW H × List MemPlace}
    (h : DataW.trod enc Tryd.prog W base spare held fuel 26 cs = some x) : ∃ f g : Nat → Int, cs = QC2 f g ∧ Rg f 6 ∧ Rg g 6 := by
  obtain ⟨xs, m, _, _, hlen, hn, hel⟩ := DataW.trod_array under2 h
  rw [cells2] at hlen
  rw [cellsFr] at hel
  match xs, hn with
  | [y0, y1], _ =>
    obtain ⟨f, hf, rf⟩ := row6 (show _ = some y0 from hel 0 (by decide))
    obtain ⟨g, hg, rg⟩ := row6 (show _ = some y1 from hel 1 (by decide))
    refine ⟨f, g, ?_, rf, rg⟩
    rw [cut2 (n := 6) hlen, hf, hg]; rfl

theorem open_fp2 {H : Type} {enc : TypeId × Value → H} {W : World} {base : Nat} {v : Value} {d : DataW H} {p : List MemPlace}
    (hv : Value.okWide Tryd.prog W .any base 26 v) (h0 : DataW.Trod enc Tryd.prog W 0 (fun _ => true) true 26 v d p) :
    ∃ f g : Nat → Int, v = QV2 f g ∧ Rg f 6 ∧ Rg g 6 := by
  obtain ⟨cs, rfl, hsz, _⟩ : ∃ cs, v = .agg cs ∧ cs.size = Tryd.prog.cellsOf 26 ∧ Row.okWide Tryd.prog W .any base 26 cs := by
    simpa [Value.okWide, Tryd.underlying26] using hv
  obtain ⟨l⟩ := cs
  obtain ⟨fuel, hf⟩ := h0
  obtain ⟨f, g, e, rf, rg⟩ := row12 hf
  exact ⟨f, g, congrArg (fun l : List Value => Value.agg l.toArray) e, rf, rg⟩

def laid2 : List (String × DataW Unit) := Rows.fp2AllRow.laid
def nHalf : String := ((laid2.map (·.1))[0]?).getD Rows.fp2AllRow.func
def nSquare : String := ((laid2.map (·.1))[1]?).getD Rows.fp2AllRow.func
def nHalf2 : String := ((laid2.map (·.1))[2]?).getD Rows.fp2AllRow.func
theorem gHalf : Tryd.prog.globalNamed nHalf = some 0 := by kernel_rfl
theorem gSquare : Tryd.prog.globalNamed nSquare = some 1 := by kernel_rfl
theorem gHalf2 : Tryd.prog.globalNamed nHalf2 = some 2 := by kernel_rfl
theorem tHalf : (Tryd.prog.globals[0]?).map (·.type) = some 24 := by kernel_rfl
theorem tSquare : (Tryd.prog.globals[1]?).map (·.type) = some 24 := by kernel_rfl
theorem tHalf2 : (Tryd.prog.globals[2]?).map (·.type) = some 24 := by kernel_rfl

theorem door_met (os : Os) (args : Array Value) : laidMetH Tryd.prog laid2 ((World.doorLaid Tryd.prog 400 os).forCall (fun _ _ => 0) ⟨#[], args, []⟩).memory :=
  laidMetH_of_parts3 (fuel := 8) (laidMet_of_run' 8 (by kernel_rfl) (by kernel_rfl)) (by kernel_rfl) (by kernel_rfl)

theorem arr6_at {W : World} {g : Nat} {n : String} {cs : Array Value} {fuel : Nat} {p : List MemPlace} (f : Nat → Int) (hg : Tryd.prog.globalNamed n = some g) (hv : World.var? Tryd.prog W n = some cs)
    (hd : DataW.trod (fun _ => ()) Tryd.prog W 0 (fun _ => true) false fuel 24 cs.toList = some (.agg [.lit (.int .u64 (f 0)), .lit (.int .u64 (f 1)), .lit (.int .u64 (f 2)), .lit (.int .u64 (f 3)), .lit (.int .u64 (f 4)), .lit (.int .u64 (f 5))], p)) : At W (some ⟨g, 0, none⟩) 6 f := by
  obtain ⟨xs, m, _, hx, hlen, hn, hel⟩ := DataW.trod_array Tryd.underlying24 hd
  rw [cellsFr] at hlen
  rw [cells64] at hel
  obtain ⟨l⟩ := cs
  obtain ⟨c0, c1, c2, c3, c4, c5, rfl⟩ := list6 l hlen
  match xs, hn with
  | [y0, y1, y2, y3, y4, y5], _ =>
    obtain ⟨x0, e0, rfl, w0⟩ := DataW.trod_int Tryd.underlying22 (show DataW.trod _ Tryd.prog W 0 _ _ m 22 _ = some y0 from hel 0 (by decide))
    obtain ⟨x1, e1, rfl, w1⟩ := DataW.trod_int Tryd.underlying22 (show DataW.trod _ Tryd.prog W 0 _ _ m 22 _ = some y1 from hel 1 (by decide))
    obtain ⟨x2, e2, rfl, w2⟩ := DataW.trod_int Tryd.underlying22 (show DataW.trod _ Tryd.prog W 0 _ _ m 22 _ = some y2 from hel 2 (by decide))
    obtain ⟨x3, e3, rfl, w3⟩ := DataW.trod_int Tryd.underlying22 (show DataW.trod _ Tryd.prog W 0 _ _ m 22 _ = some y3 from hel 3 (by decide))
    obtain ⟨x4, e4, rfl, w4⟩ := DataW.trod_int Tryd.underlying22 (show DataW.trod _ Tryd.prog W 0 _ _ m 22 _ = some y4 from hel 4 (by decide))
    obtain ⟨x5, e5, rfl, w5⟩ := DataW.trod_int Tryd.underlying22 (show DataW.trod _ Tryd.prog W 0 _ _ m 22 _ = some y5 from hel 5 (by decide))
    simp at e0 e1 e2 e3 e4 e5 hx
    obtain ⟨⟨rfl, rfl, rfl, rfl, rfl, rfl⟩, _⟩ := hx
    subst e0 e1 e2 e3 e4 e5
    refine fun _ => ⟨g, 0, rfl, fun j hj => ?_⟩
    have k := World.var?_cell hg hv j
    rw [Nat.zero_add, k]
    rcases (show j = 0 ∨ j = 1 ∨ j = 2 ∨ j = 3 ∨ j = 4 ∨ j = 5 by omega) with rfl | rfl | rfl | rfl | rfl | rfl <;> rfl

/-- (P + 1) / 2, its limbs. -/
def h2L : Nat → Int
  | 0 => 15924587544893707606
  | 1 => 1105070755758604287
  | 2 => 12941209323636816658
  | 3 => 12843041017062132063
  | 4 => 2706051889235351147
  | 5 => 936899308823769933
  | _ => 0
theorem h2L_lb : ∀ j, j < 6 → h2L j = lb hf.val j := by decide +kernel

/-- What the packages' variables hold. -/
def G2 (w : World) : Prop := Gl w ∧ At w (some ⟨2, 0, none⟩) 6 h2L
theorem G2.stay {w x : World} (h : G2 w) (b : Below w.heap.size w x) : G2 x := ⟨h.1.stay b, AtK.below h.2 b⟩
theorem G2.half (w : World) (h : G2 w) : w.rangeAt 2 0 (FC hf) := fun j v hv => by
  obtain ⟨b, off, e, hc⟩ := h.2 (by decide)
  obtain ⟨rfl, rfl⟩ : 2 = b ∧ 0 = off := by simpa using e
  have hj : j < 6 := by
    have := (List.getElem?_eq_some_iff.1 hv).1
    rw [FC_len] at this; exact this
  rw [hc j hj, h2L_lb j hj]
  rcases (show j = 0 ∨ j = 1 ∨ j = 2 ∨ j = 3 ∨ j = 4 ∨ j = 5 by omega) with rfl | rfl | rfl | rfl | rfl | rfl <;> exact hv

theorem FpOk.over {G G' : World → Prop} (K : FpOk G) (h : ∀ w, G' w → G w) (s : ∀ {w x : World}, G' w → Below w.heap.size w x → G' x) : FpOk G' where
  stay := s
  add := fun f g w k => K.add f g w (h w k)
  sub := fun f g w k => K.sub f g w (h w k)
  mul := fun f g w k => K.mul f g w (h w k)
  neg := fun f w k => K.neg f w (h w k)
  of := fun x w k => K.of x w (h w k)
  inv0 := fun f w k => K.inv0 f w (h w k)
  inv := fun f w k => K.inv f w (h w k)
  pow := fun f p n c g E w k => K.pow f p n c g E w (h w k)
  may := fun f w k => K.may f w (h w k)
  great := fun f w k => K.great f w (h w k)
  sqrtNo := fun f w k => K.sqrtNo f w (h w k)
  sqrtYes := fun f w k => K.sqrtYes f w (h w k)
theorem fpK2 : FpK G2 := fpK (fpOk.over (fun _ h => h.1) (fun h b => h.stay b))

theorem of_laid {W : World} (h : laidMetH Tryd.prog laid2 W) : G2 W := by
  rw [MakeChecks.laidMetH_plain _ _ _ (by kernel_rfl)] at h
  obtain ⟨ps, ⟨g0, t0, cs0, f0, p0, q0, hg0, ht0, hv0, hd0, ⟨g1, t1, cs1, f1, p1, q1, hg1, ht1, hv1, hd1, ⟨g2, t2, cs2, f2, p2, q2, hg2, ht2, hv2, hd2, _, _⟩, _⟩, _⟩, _, _⟩ := h
  obtain rfl := Option.some.inj (gHalf.symm.trans hg0)
  obtain rfl := Option.some.inj (gSquare.symm.trans hg1)
  obtain rfl := Option.some.inj (gHalf2.symm.trans hg2)
  obtain rfl := Option.some.inj (tHalf.symm.trans ht0)
  obtain rfl := Option.some.inj (tSquare.symm.trans ht1)
  obtain rfl := Option.some.inj (tHalf2.symm.trans ht2)
  exact ⟨⟨arr6_at hL hg0 hv0 hd0, arr6_at cL hg1 hv1 hd1⟩, arr6_at h2L hg2 hv2 hd2⟩
end Go.Proofs.YtgoghcmnnhglhaaDoor.fpn
