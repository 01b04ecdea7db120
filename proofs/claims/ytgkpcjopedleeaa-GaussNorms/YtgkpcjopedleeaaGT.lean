/- What the document's TwoC answers. -/
import Derived.Test.YtgkpcjopedleeaaMem
import Derived.Test.YtgkpcjopedleeaaChecked
import Derived.Deep.QuietTactic
import Derived.BigQuiet
import Derived.Laws.AppendOwnNone
import Derived.Deep.RegionWith
namespace Go.Proofs.Ytgkpcjopedleeaa
open Go.RowKit
set_option linter.unusedVariables false

/-- Some number from 2 on, whose square is no greater, divides p. -/
def Composed (p : Nat) : Prop := ∃ d, 2 ≤ d ∧ d * d ≤ p ∧ p % d = 0
/-- No a below m makes p with a square. -/
def NoTwo (p m : Nat) : Prop := ∀ a b, 0 < a → a < m → a * a + b * b ≠ p
/-- What TwoC answers of a p of 1 modulo 4, from 5 to 999,999. -/
def TwoIs (p : Nat) (e : Ending) : Prop :=
  (Composed p ∧ e = .returned (.tuple #[.int .i64 0, .int .i64 0, .int .i64 1])) ∨
  (¬ Composed p ∧ ∃ a b : Nat, 0 < a ∧ 2 * a * a ≤ p ∧ a * a + b * b = p ∧ NoTwo p a ∧ e = .returned (.tuple #[.int .i64 a, .int .i64 b, .int .i64 0])) ∨
  (¬ Composed p ∧ (∀ a b, 0 < a → 2 * a * a ≤ p → a * a + b * b ≠ p) ∧ e = .returned (.tuple #[.int .i64 0, .int .i64 0, .int .i64 1]))

theorem wrap_small {x : Int} (h0 : 0 ≤ x) (h1 : x < 100000000000) : IntKind.i64.wrap x = x := by rw [IntKind.wrap_i64]; omega

theorem sq_mono {a b : Nat} (h : a * a ≤ b * b) : a ≤ b := by
  rcases Nat.lt_or_ge b a with h1 | h1
  · have := Nat.mul_le_mul (show b + 1 ≤ a by omega) (show b + 1 ≤ a by omega)
    have e : (b + 1) * (b + 1) = b * b + 2 * b + 1 := by grind
    omega
  · exact h1

theorem tmod_nat (p d : Nat) : Int.tmod (p : Int) (d : Int) = ((p % d : Nat) : Int) := by rw [Int.tmod_eq_emod_of_nonneg (by omega)]; omega

set_option maxRecDepth 20000 in
set_option maxHeartbeats 1600000 in
theorem twoC_in (p : Nat) (w : World) (h1 : 5 ≤ p) (h2 : p < 1000000) (h3 : p % 4 = 1) : Calls Try.prog 8 #[.int .i64 p] w fun e w' => TwoIs p e ∧ w' = w := by
  have c1 : ¬ (p : Int) < 5 := by omega
  have c2 : ¬ (p : Int) ≥ 1000000 := by omega
  have c3 : Int.tmod (p : Int) 4 = 1 := by rw [Int.tmod_eq_emod_of_nonneg (by omega)]; omega
  go_enter Try.func8, Try.ntmps8
  go_wp2
  clear c3 h3
  try clear c1
  try clear c2
  go_loopw [5] (fun i wr => ∃ d : Nat, 2 ≤ d ∧ d ≤ 1001 ∧ i = .int .i64 d ∧ (∀ e, 2 ≤ e → e < d → p % e ≠ 0) ∧ wr = w) (fun i _ => 2000 - (intOf i).toNat)
  case atStart => exact ⟨2, by omega, by omega, rfl, fun e _ _ => by omega, rfl⟩
  case round =>
    obtain ⟨d, hd2, hd, rfl, hno, rfl⟩ := hrel
    have hs : d * d ≤ 1001 * 1001 := Nat.mul_le_mul hd hd
    have d1 : IntKind.i64.wrap ((d : Int) * (d : Int)) = ((d * d : Nat) : Int) := by rw [wrap_small (by rw [← Int.natCast_mul]; omega) (by rw [← Int.natCast_mul]; omega), Int.natCast_mul]
    have d2 : ¬ (d : Int) = 0 := by omega
    have d3 := tmod_nat p d
    have HN : Hid _ := hno
    have HS : Hid (∀ q, q = d * d → q ≤ 1001 * 1001) := fun q e => e ▸ hs
    obtain ⟨q, hq⟩ : ∃ q, q = d * d := ⟨_, rfl⟩
    have HQ : Hid _ := hq
    rw [← hq] at d1
    clear hno hs hq
    by_cases hle : q ≤ p
    · have l1 : (q : Int) ≤ (p : Int) := by omega
      by_cases hz : p % d = 0
      · have HC : Hid (Composed p) := ⟨d, hd2, by rw [← HQ.out]; exact hle, hz⟩
        rw [hz] at d3
        clear hz
        go_wp2
        refine bodyPost_ret (v := .tuple #[.int .i64 0, .int .i64 0, .int .i64 1]) (by simp [results, Try.results8, go_sem]) rfl ⟨.inl ⟨HC.out, rfl⟩, rfl⟩
      · have l2 : ¬ ((p % d : Nat) : Int) = 0 := by omega
        have HZ : Hid _ := hz
        generalize p % d = r at d3 l2
        clear hz
        have d4 : IntKind.i64.wrap ((d : Int) + 1) = (d : Int) + 1 := wrap_small (by omega) (by omega)
        have HD : Hid (d + 1 ≤ 1001) := by
          have := HQ.out
          have : d * d ≤ 1000 * 1000 := by omega
          have := sq_mono this
          show _ ≤ _
          omega
        have H2 : Hid _ := hd2
        clear h1 h2 HS hle hd hd2 HQ
        go_wp2
        go_roundw
        case rel => exact ⟨d + 1, by have := H2.out; omega, HD.out, by go_num, fun e e1 e2 => by rcases (show e < d ∨ e = d by omega) with h | h; exact HN.out e e1 h; rw [h]; exact HZ.out, trivial⟩
        case measure => simp [intOf]; have := HD.out; omega
    · have l1 : ¬ (q : Int) ≤ (p : Int) := by omega
      have HC : Hid (¬ Composed p) := by
        rintro ⟨e, e2, e3, e4⟩
        refine HN.out e e2 ?_ e4
        rcases Nat.lt_or_ge e d with h | h
        · exact h
        · have := Nat.mul_le_mul h h
          have := HQ.out
          omega
      have H1 : Hid _ := h1
      have H2 : Hid _ := h2
      clear HN HS HQ d2 d3 hd hd2 h1 h2 hle
      go_wp2
      clear d1 l1
      go_loopw [6] (fun i wr' => ∃ a : Nat, 1 ≤ a ∧ a ≤ 708 ∧ i = .int .i64 a ∧ NoTwo p a ∧ wr' = wr) (fun i _ => 2000 - (intOf i).toNat)
      case atStart => exact ⟨1, by omega, by omega, rfl, fun a b h h' => by omega, rfl⟩
      case round =>
        obtain ⟨a, ha1, ha, rfl, hno, rfl⟩ := hrel
        have hp := H2.out
        have hs : a * a ≤ 708 * 708 := Nat.mul_le_mul ha ha
        obtain ⟨t, ht⟩ : ∃ t, t = 2 * a := ⟨_, rfl⟩
        obtain ⟨s, hs'⟩ : ∃ s, s = a * a := ⟨_, rfl⟩
        obtain ⟨u, hu⟩ : ∃ u, u = 2 * s := ⟨_, rfl⟩
        have e1 : IntKind.i64.wrap (2 * (a : Int)) = (t : Int) := by rw [wrap_small (by omega) (by omega)]; omega
        have eu : (t : Int) * (a : Int) = (u : Int) := by rw [hu, hs', ht, ← Int.natCast_mul, Nat.mul_assoc]
        have e2 : IntKind.i64.wrap ((t : Int) * (a : Int)) = (u : Int) := by rw [eu, wrap_small (by omega) (by omega)]
        have es : (a : Int) * (a : Int) = (s : Int) := by rw [hs', Int.natCast_mul]
        have e3 : IntKind.i64.wrap ((a : Int) * (a : Int)) = (s : Int) := by rw [es, wrap_small (by omega) (by omega)]
        have HNO : Hid _ := hno
        have HSS : Hid _ := hs'
        have HU : Hid _ := hu
        have HA : Hid (1 ≤ a ∧ a ≤ 708) := ⟨ha1, ha⟩
        have ss : Hid (s ≤ 708 * 708) := by rw [hs']; exact hs
        clear hno hs hs' ht hu eu es hp ha ha1
        by_cases hle : u ≤ p
        · have l1 : (u : Int) ≤ (p : Int) := by omega
          obtain ⟨m, hm⟩ : ∃ m, m = p - s := ⟨_, rfl⟩
          have e4 : IntKind.i64.wrap ((p : Int) - (s : Int)) = (m : Int) := by
            have := HU.out; have := H2.out
            rw [wrap_small (by omega) (by omega)]; omega
          have HM : Hid (s + m = p) := by have := HU.out; show _ = _; omega
          have HMB : Hid (m < 1000000) := by have := HM.out; have := H2.out; show _ < _; omega
          clear hm hle
          go_wp2
          go_loopw [7] (fun i wr' => ∃ b : Nat, b ≤ 1000 ∧ i = .int .i64 b ∧ (∀ c, c < b → c * c < m) ∧ wr' = wr) (fun i _ => 2000 - (intOf i).toNat)
          case atStart => exact ⟨0, by omega, rfl, fun c h => by omega, rfl⟩
          case round =>
            obtain ⟨b, hb, rfl, hlow, rfl⟩ := hrel
            have hbb : b * b ≤ 1000 * 1000 := Nat.mul_le_mul hb hb
            obtain ⟨v, hv⟩ : ∃ v, v = b * b := ⟨_, rfl⟩
            have e5 : IntKind.i64.wrap ((b : Int) * (b : Int)) = (v : Int) := by
              rw [← Int.natCast_mul, ← hv, wrap_small (by omega) (by omega)]
            have HV : Hid _ := hv
            have HLO : Hid _ := hlow
            have HBB : Hid (b ≤ 1000) := hb
            clear hv hlow hb hbb
            by_cases hlt : v < m
            · have l2 : (v : Int) < (m : Int) := by omega
              have e6 : IntKind.i64.wrap ((b : Int) + 1) = (b : Int) + 1 := wrap_small (by omega) (by have := HBB.out; omega)
              have HLT : Hid _ := hlt
              clear hlt
              go_wp2
              go_roundw
              case rel =>
                refine ⟨b + 1, ?_, by go_num, fun c hc => ?_, trivial⟩
                · have h1 := HLT.out; have h2 := HMB.out; have h3 := HV.out
                  have : b * b ≤ 999 * 999 + 2 * 999 := by omega
                  rcases Nat.lt_or_ge b 1000 with h | h
                  · omega
                  · have := Nat.mul_le_mul h h; omega
                · rcases (show c < b ∨ c = b by omega) with h | h
                  · exact HLO.out c h
                  · rw [h, ← HV.out]; exact HLT.out
              case measure => simp [intOf]; have := HBB.out; omega
            · have l2 : ¬ (v : Int) < (m : Int) := by omega
              by_cases heq : v = m
              · have l3 : (v : Int) = (m : Int) := by omega
                have HT : Hid (TwoIs p (.returned (.tuple #[.int .i64 a, .int .i64 b, .int .i64 0]))) := .inr (.inl ⟨HC.out, a, b, HA.out.1, by rw [Nat.mul_assoc, ← HSS.out, ← HU.out]; omega, by rw [← HSS.out, ← HV.out, heq]; exact HM.out, HNO.out, rfl⟩)
                subst heq
                clear l3
                go_wp2
                refine bodyPost_ret (v := .tuple #[.int .i64 a, .int .i64 b, .int .i64 0]) (by simp [results, Try.results8, go_sem]) rfl ⟨HT.out, rfl⟩
              · have l3 : ¬ (v : Int) = (m : Int) := by omega
                have e6 : IntKind.i64.wrap ((a : Int) + 1) = (a : Int) + 1 := wrap_small (by omega) (by have := HA.out.2; omega)
                have HL1 : Hid (u ≤ p) := by show _ ≤ _; omega
                have HN2 : Hid (NoTwo p (a + 1)) := fun a' b' h0 h1 h2 => by
                  rcases (show a' < a ∨ a' = a by omega) with h | h
                  · exact HNO.out a' b' h0 h h2
                  · subst h
                    have k1 := HM.out; have k2 := HSS.out; have k3 := HV.out
                    have k4 : b' * b' = m := by omega
                    rcases Nat.lt_or_ge b' b with h | h
                    · have := HLO.out b' h; omega
                    · have k5 := Nat.mul_le_mul h h
                      omega
                clear heq hlt
                go_wp2
                go_roundw
                case rel =>
                  refine ⟨a + 1, by omega, ?_, by go_num, HN2.out, trivial⟩
                  have h1 := HL1.out; have h2 := HU.out; have h3 := HSS.out; have h4 := H2.out
                  rcases Nat.lt_or_ge a 708 with h | h
                  · omega
                  · have := Nat.mul_le_mul h h; omega
                case measure => simp [intOf]; have := HA.out; omega
        · have l1 : ¬ (u : Int) ≤ (p : Int) := by omega
          have HT : Hid (TwoIs p (.returned (.tuple #[.int .i64 0, .int .i64 0, .int .i64 1]))) := .inr (.inr ⟨HC.out, fun a' b' h0 h1 => by
            refine HNO.out a' b' h0 ?_
            rcases Nat.lt_or_ge a' a with h | h
            · exact h
            · have k := Nat.mul_le_mul h h
              have := HSS.out; have := HU.out
              rw [Nat.mul_assoc] at h1
              omega, rfl⟩)
          clear hle
          go_wp2
          refine bodyPost_ret (v := .tuple #[.int .i64 0, .int .i64 0, .int .i64 1]) (by simp [results, Try.results8, go_sem]) rfl ⟨HT.out, rfl⟩

set_option maxRecDepth 20000 in
theorem twoC_arg (p : Int) (w : World) (h : p < 5 ∨ 1000000 ≤ p ∨ Int.tmod p 4 ≠ 1) : Calls Try.prog 8 #[.int .i64 p] w fun e w' => e = .returned (.tuple #[.int .i64 0, .int .i64 0, .int .i64 1]) ∧ w' = w := by
  by_cases c1 : p < 5
  · clear h
    go_enter Try.func8, Try.ntmps8
    go_wp2
    refine bodyPost_ret (v := .tuple #[.int .i64 0, .int .i64 0, .int .i64 1]) (by simp [results, Try.results8, go_sem]) rfl ⟨rfl, rfl⟩
  · by_cases c2 : p ≥ 1000000
    · clear h
      go_enter Try.func8, Try.ntmps8
      go_wp2
      refine bodyPost_ret (v := .tuple #[.int .i64 0, .int .i64 0, .int .i64 1]) (by simp [results, Try.results8, go_sem]) rfl ⟨rfl, rfl⟩
    · have c3 : ¬ Int.tmod p 4 = 1 := by rcases h with h | h | h; omega; omega; exact h
      have c4 : ¬ p % 4 = 1 := by rw [Int.tmod_eq_emod_of_nonneg (by omega)] at c3; exact c3
      clear h
      go_enter Try.func8, Try.ntmps8
      go_wp2
      refine bodyPost_ret (v := .tuple #[.int .i64 0, .int .i64 0, .int .i64 1]) (by simp [results, Try.results8, go_sem]) rfl ⟨rfl, rfl⟩
end Go.Proofs.Ytgkpcjopedleeaa
