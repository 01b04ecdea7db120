/- What math/bits.Mul64 and limb.addTimes do, for every call. -/
import Derived.Test.YtnijhifingdmlabWB
namespace Go.Proofs.Ytnijhifingdmlab
open Go.RowKit

theorem mul64_top (x y : Int) (hx : 0 ≤ x ∧ x < B64) (hy : 0 ≤ y ∧ y < B64) :
    IntKind.u64.wrap (IntKind.u64.wrap (IntKind.u64.wrap (x / 4294967296 * (y / 4294967296)) +
      IntKind.u64.wrap (IntKind.u64.wrap (x / 4294967296 * bits BinOp.and IntKind.u64 y 4294967295) + IntKind.u64.wrap (bits BinOp.and IntKind.u64 x 4294967295 * bits BinOp.and IntKind.u64 y 4294967295) / 4294967296) / 4294967296) +
      IntKind.u64.wrap (bits BinOp.and IntKind.u64 (IntKind.u64.wrap (IntKind.u64.wrap (x / 4294967296 * bits BinOp.and IntKind.u64 y 4294967295) + IntKind.u64.wrap (bits BinOp.and IntKind.u64 x 4294967295 * bits BinOp.and IntKind.u64 y 4294967295) / 4294967296)) 4294967295 +
        IntKind.u64.wrap (bits BinOp.and IntKind.u64 x 4294967295 * (y / 4294967296))) / 4294967296) = x * y / B64 := by
  rw [B64_eq] at *
  simp only [IntKind.wrap_u64]
  rw [and_low32 x hx.1 hx.2, and_low32 y hy.1 hy.2, and_low32 _ (Int.emod_nonneg _ (by decide)) (Int.emod_lt_of_pos _ (by decide))]
  exact mul64_arith x y hx.1 hx.2 hy.1 hy.2

theorem mul64_any (x y : Int) (hx : 0 ≤ x ∧ x < B64) (hy : 0 ≤ y ∧ y < B64) (w : World) :
    Calls Try.prog 18 #[.int .u64 x, .int .u64 y] w fun e w' => e = .returned (.tuple #[.int .u64 (x * y / B64), .int .u64 (x * y % B64)]) ∧ w' = w := by
  rw [← mul64_top x y hx hy, show x * y % B64 = IntKind.u64.wrap (x * y) by rw [IntKind.wrap_u64, B64_eq]]
  clear hx hy
  go_enter Try.func18, Try.ntmps18
  go_wp2
  go_ret2
  exact ⟨rfl, rfl⟩

/-- What addTimes leaves: the limbs of s + k f, the last carry above them, the rest as it was. -/
def atR (s f : Nat → Int) (k : Int) (n : Nat) : Nat → Int := up (mix (tm s f k) s n) n (ct s f k n)

def addTimesJ (b off ns cs : Nat) (s : Nat → Int) (pa : Option Addr) (n ca : Nat) (f : Nat → Int) (k : Int) (w : World) : Act → World → Prop := fun a' w' => ∃ (i : Nat) (u8 u9 u10 u11 u12 u13 u14 u15 u16 u17 u18 u19 u20 u21 u22 u23 u24 u25 u26 u27 u28 u29 u30 u31 u32 u33 u34 u35 u36 u37 u38 u39 u40 u41 u42 u43 u44 u45 u46 u47 u48 u49 u50 u51 u52 u53 u54 : Value), a' = { tmps := #[.slice (some ⟨b, off, none⟩) ns cs, .slice pa n ca, .int .u64 k, undef, undef, undef, .int .u64 (ct s f k i), .int .i64 i, u8, u9, u10, u11, u12, u13, u14, u15, u16, u17, u18, u19, u20, u21, u22, u23, u24, u25, u26, u27, u28, u29, u30, u31, u32, u33, u34, u35, u36, u37, u38, u39, u40, u41, u42, u43, u44, u45, u46, u47, u48, u49, u50, u51, u52, u53, u54], defers := [] } ∧ i ≤ n ∧ Upd b off (off + (n + 1)) w w' ∧ Mut w' b off ns (mix (tm s f k) s i)

theorem addTimes_any (b off ns cs : Nat) (s : Nat → Int) (pa : Option Addr) (n ca : Nat) (f : Nat → Int) (k : Int) (w : World) (hns : ns ≤ 17592186044416) (hn : n < ns) (hm : Mut w b off ns s) (ha : At w pa n f)
    (hne : 0 < n → ∀ b' o', pa = some ⟨b', o', none⟩ → b' ≠ b) (rs : Rg s ns) (rf : Rg f n) (hk : 0 ≤ k ∧ k < B64) :
    Calls Try.prog 12 #[.slice (some ⟨b, off, none⟩) ns cs, .slice pa n ca, .int .u64 k] w fun e w' => e = .returned (.tuple #[]) ∧ Upd b off (off + (n + 1)) w w' ∧ Mut w' b off ns (atR s f k n) := by
  go_enter Try.func12, Try.ntmps12
  go_wp2
  refine wp_scope_goto 0 (addTimesJ b off ns cs s pa n ca f k w) (fun a' _ => n - slot 7 a') rfl ?_ ?_
  · rintro a' W ⟨i, u8, u9, u10, u11, u12, u13, u14, u15, u16, u17, u18, u19, u20, u21, u22, u23, u24, u25, u26, u27, u28, u29, u30, u31, u32, u33, u34, u35, u36, u37, u38, u39, u40, u41, u42, u43, u44, u45, u46, u47, u48, u49, u50, u51, u52, u53, u54, rfl, hi, hu, hM⟩
    by_cases hlt : i < n
    · obtain ⟨b2, off2, rfl, hcell⟩ := (ha.upd hu hne) (by omega)
      have hc1 := hcell i hlt
      obtain ⟨hc0, hz⟩ := hM i (by omega)
      rw [mix_hi (Nat.le_refl i)] at hc0
      have r1 := rf i hlt
      have r2 := rs i (by omega)
      have r3 := ct_bd (rs.mono (show i ≤ ns by omega)) (rf.mono hi) hk
      have M := show Hid _ from mul64_any (f i) k r1 hk
      have q1 : 0 ≤ f i * k % B64 := Int.emod_nonneg _ (by rw [B64_eq]; decide)
      have q2 : 0 ≤ (f i * k % B64 + s i + 0) % B64 := Int.emod_nonneg _ (by rw [B64_eq]; decide)
      have h1 := add64_call (f i * k % B64) (s i) 0 q1 r2.1 ⟨by decide, by decide⟩
      have h2 := add64_call ((f i * k % B64 + s i + 0) % B64) (ct s f k i) 0 q2 r3.1 ⟨by decide, by decide⟩
      obtain ⟨S1, S2, S3, S4, S5⟩ := mul_step r1 hk r2 r3
      simp only [Int.add_zero] at h1 h2
      have h2' : ∀ w, Sem.run Try.prog (callFunc 16 #[.int .u64 ((f i * k % B64 + s i) % B64), .int .u64 (ct s f k i), .int .u64 0]) w = .ok (.value (.tuple #[.int .u64 (tm s f k i), .int .u64 (((f i * k % B64 + s i) % B64 + ct s f k i) / B64)])) w := by
        rw [show tm s f k i = ((f i * k % B64 + s i) % B64 + ct s f k i) % B64 from S1.symm]; exact h2
      have HE : Hid (IntKind.u64.wrap (IntKind.u64.wrap (f i * k / B64 + (f i * k % B64 + s i) / B64) + ((f i * k % B64 + s i) % B64 + ct s f k i) / B64) = ct s f k (i + 1)) := by
        have e : ct s f k (i + 1) = (f i * k + s i + ct s f k i) / B64 := rfl
        show _ = _
        rw [e, ← S2]
        have w1 : IntKind.u64.wrap (f i * k / B64 + (f i * k % B64 + s i) / B64) = f i * k / B64 + (f i * k % B64 + s i) / B64 := by
          rw [IntKind.wrap_u64]; rw [B64_eq] at *; exact Int.emod_eq_of_lt S3 S4
        rw [w1, IntKind.wrap_u64]
        refine Int.emod_eq_of_lt ?_ ?_
        · rw [S2]; exact Int.ediv_nonneg (by have := Int.mul_nonneg r1.1 hk.1; omega) (Int.le_of_lt B64_pos)
        · rw [S2]; rw [B64_eq] at *; exact S5
      clear hcell h2 S1 S2 S3 S4 S5 q1 q2
      generalize f i * k / B64 = t1 at *
      generalize f i * k % B64 = t2 at *
      generalize (t2 + s i) / B64 = t3 at *
      generalize (t2 + s i) % B64 = t4 at *
      generalize (t4 + ct s f k i) / B64 = t5 at *
      have R1 := show Hid _ from r1
      have R2 := show Hid _ from r2
      have R3 := show Hid _ from r3
      have HK := show Hid _ from hk
      clear r1 r2 r3 hk
      go_wp2_with (go_at_call 18; refine Calls.mono (M.out _) ?_; rintro e w' ⟨rfl, rfl⟩)
      rw [HE.out]
      go_step3
      refine ⟨rfl, ⟨i + 1, _, _, _, _, _, _, _, _, _, _, _, _, _, _, _, _, _, _, _, _, _, _, _, _, _, _, _, _, _, _, _, _, _, _, _, _, _, _, _, _, _, _, _, _, _, _, _, rfl, by omega, hu.setCell (by omega) (by omega) _, hM.step (by omega)⟩, ?_⟩
      simp [slot, intOf]; omega
    · have e : i = n := by omega
      subst e
      obtain ⟨hc0, hz⟩ := hM i (by omega)
      have HM := show Hid _ from hM
      have HU := show Hid _ from hu
      clear hM hu
      go_wp2
      simp only [Exit.jump]
      go_end0
      exact ⟨rfl, Upd.setCell HU.out (by omega) (by omega) _, MutK.set HM.out (by omega) _⟩
  · intro hr
    go_wp2
    go_step3
    rename_i K hK
    exact hK _ _ (hr _ _ ⟨0, _, _, _, _, _, _, _, _, _, _, _, _, _, _, _, _, _, _, _, _, _, _, _, _, _, _, _, _, _, _, _, _, _, _, _, _, _, _, _, _, _, _, _, _, _, _, _, rfl, Nat.zero_le _, Upd.refl _ _ _ _, hm.congr (fun j _ => (mix_zero _ _ _).symm)⟩)
end Go.Proofs.Ytnijhifingdmlab
