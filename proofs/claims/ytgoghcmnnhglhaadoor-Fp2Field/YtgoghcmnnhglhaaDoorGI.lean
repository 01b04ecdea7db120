/- IG IH. -/
import Derived.Test.YtgoghcmnnhglhaaDoorGE
import Derived.Test.YtgoghcmnnhglhaaDoorGC
import Derived.Test.YtgoghcmnnhglhaaDoorGD
import Derived.Deep.LoopGhost
import Derived.Test.YtgoghcmnnhglhaaDoorGH
/- Whole numbers in a plan; a slice's length; the bit of an exponent. -/
namespace Go.Proofs.YtgoghcmnnhglhaaDoor.Pl
open Go Go.RowKit
set_option linter.unusedVariables false
set_option linter.unusedSimpArgs false
section
variable {P : Program} {ops : Array Oper} {ks : List Kind} {T : List Nat} {a0 : Act} {B : Nat} {w0 : World} {H : List (Nat × List Value)} {i : Nat} {o : Oper}
/-- A slice's length. -/
theorem ob_len {x : Operand} {t e : TypeId} {p : Option Addr} {n c : Nat} (hw : ∀ L, wantedR ks L o = true) (hk : kd ks i = .det (.int .i64 n)) (ho : o.op = .call { callee := .builtin .len, args := #[x], argTypes := #[t] })
    (hx : ∀ L, rd ops ks T a0 L i x = .slice p n c) (hu : P.underlying t = some (.slice e)) : Ob P ops ks T a0 B w0 H i o :=
  ob_pure hw hk fun L w => by
    unfold execOp
    simp [ho, resolve, hx L, invoke, builtin, Builtin.len_, Sem.run_bind, run_underlying hu w, goInt]
theorem sub1 (t : TypeId) (j : Nat) (h : j < 1000000) (w : World) : (binOp .sub t (.int .i64 ((j + 1 : Nat) : Int)) (.int .i64 1)).run P w = .ok (.int .i64 (j : Int)) w := by
  have e : IntKind.i64.wrap ((((j + 1 : Nat) : Int)) - 1) = (j : Int) := by unfold IntKind.wrap; simp [IntKind.bits, IntKind.signed]; omega
  simp only [binOp, Op.intArith, e]; simp [Sem.run_bind, e]
theorem mul64 (t : TypeId) (n : Nat) (h : n ≤ 1000) (w : World) : (binOp .mul t (.int .i64 64) (.int .i64 (n : Int))).run P w = .ok (.int .i64 ((64 * n : Nat) : Int)) w := by
  have e : IntKind.i64.wrap (64 * (n : Int)) = ((64 * n : Nat) : Int) := by unfold IntKind.wrap; simp [IntKind.bits, IntKind.signed]; omega
  simp only [binOp, Op.intArith, e]; simp [Sem.run_bind, e]
theorem gtrI (t : TypeId) (a b : Int) (w : World) : (binOp .gtr t (.int .i64 a) (.int .i64 b)).run P w = .ok (.bool (decide (a > b))) w := by
  simp [binOp, Sem.run_bind, Op.intCmp]
theorem rem4 (t : TypeId) (k m : Int) (h0 : 0 ≤ k) (h1 : k < 256) (hm : k % 4 = m) (w : World) : (binOp .rem t (.int .u8 k) (.int .u8 4)).run P w = .ok (.int .u8 m) w := by
  subst hm
  simp [binOp, Sem.run_bind, Op.intDiv, Int.tmod_eq_emod_of_nonneg h0]
end
end Go.Proofs.YtgoghcmnnhglhaaDoor.Pl
namespace Go.Proofs.YtgoghcmnnhglhaaDoor.fpn
open Go.RowKit
set_option linter.unusedVariables false

theorem bitAt2 (p : Option Addr) (n c : Nat) (g : Nat → Int) (j : Nat) (w : World) (hj : j < 64 * n) (hn : n ≤ 1000) (h : At w p n g) (rg : Rg g n) :
    Calls Tryd.prog 49 #[.slice p n c, .int .i64 j] w fun e w' => e = .returned (.int .u64 (g (j / 64) / 2 ^ (j % 64) % 2)) ∧ w' = w := by
  obtain ⟨b, off, rfl, hcell⟩ := h (by omega)
  have hm1 := hcell (j / 64) (by omega)
  have r := rg (j / 64) (by omega)
  have hbit : bits BinOp.and IntKind.u64 (g (j / 64) / 2 ^ (j % 64)) 1 = g (j / 64) / 2 ^ (j % 64) % 2 := and_one _ (Int.ediv_nonneg r.1 (Int.le_of_lt (Int.pow_pos (by decide)))) (by
    have := Int.ediv_le_self (2 ^ (j % 64)) r.1
    rw [B64_eq] at r
    omega)
  have HB : Hid _ := hbit
  have i1 : (j : Int) / 64 < (n : Int) := by omega
  clear hcell h hbit r rg
  go_enter Tryd.func49, Tryd.ntmps49
  go_wp2
  go_ret
  exact ⟨ret_int HB.out, rfl⟩

/-- The bit of an exponent. -/
theorem bitAtN (p : Option Addr) (n c : Nat) (g : Nat → Int) (E j : Nat) (w : World) (hj : j < 64 * n) (hn : n ≤ 1000) (h : At w p n g) (rg : Rg g n) (hE : val g n = (E : Int)) {r : Nat} (hr : E / 2 ^ j % 2 = r) :
    Calls Tryd.prog 49 #[.slice p n c, .int .i64 j] w (Ret (.int .u64 r) w) :=
  Calls.mono (bitAt2 p n c g j w hj hn h rg) fun e w' ⟨h1, h2⟩ => ⟨by rw [h1, nat_bit rg hE hj, hr], by rw [h2]; exact Below.refl _ _⟩

end Go.Proofs.YtgoghcmnnhglhaaDoor.fpn

/- Powers of pairs. -/
namespace Go.Proofs.YtgoghcmnnhglhaaDoor.fpn
open Go.RowKit Pl
set_option linter.unusedVariables false
set_option linter.unusedSimpArgs false
set_option maxRecDepth 4000

theorem pw_even {x y : F2} {E j : Nat} (hy : y = F2.pw2 x (E / 2 ^ (j + 1))) (hb : E / 2 ^ j % 2 = 0) : y * y = F2.pw2 x (E / 2 ^ j) := by
  rw [nat_half E j, hb, Nat.add_zero, F2.pw2_two, ← hy]
theorem pw_odd {x y : F2} {E j : Nat} (hy : y = F2.pw2 x (E / 2 ^ (j + 1))) (hb : E / 2 ^ j % 2 = 1) : y * y * x = F2.pw2 x (E / 2 ^ j) := by
  rw [nat_half E j, hb]
  show _ = F2.pw2 x (2 * (E / 2 ^ (j + 1))) * x
  rw [F2.pw2_two, ← hy]
theorem pw_less {E j : Nat} (hz : E / 2 ^ (j + 1) = 0) (hb : E / 2 ^ j % 2 = 0) : E / 2 ^ j = 0 := by
  rw [nat_half E j, hb, hz]
theorem pw_none {x y : F2} {E j : Nat} (hy : y = F2.pw2 x (E / 2 ^ (j + 1))) (hz : E / 2 ^ (j + 1) = 0) (hb : E / 2 ^ j % 2 = 0) : y = F2.pw2 x (E / 2 ^ j) := by
  rw [hy, hz, pw_less hz hb]

/-- What the two rounds of Pow keep. -/
def powJ2 (x : F2) (p : Option Addr) (n c E : Nat) (w : World) (b2 b4 : Nat) (T : Nat → Prop) : Act → World → Prop := fun a' w' => ∃ (L b5 : Nat) (y : F2) (u3 u7 u8 u9 u10 u11 u12 u13 u14 u15 u16 u17 u18 u19 u20 u21 u22 u23 u24 u25 u26 u27 u28 u29 u30 u31 u32 u33 u34 u35 u36 u37 : Value),
  a' = { tmps := #[PV x, .slice p n c, .pointer (some ⟨b2, 0, none⟩), u3, .pointer (some ⟨b4, 0, none⟩), .pointer (some ⟨b5, 0, none⟩), .int .i64 L, u7, u8, u9, u10, u11, u12, u13, u14, u15, u16, u17, u18, u19, u20, u21, u22, u23, u24, u25, u26, u27, u28, u29, u30, u31, u32, u33, u34, u35, u36, u37], defers := [] } ∧ T L ∧ L ≤ 64 * n ∧ y = F2.pw2 x (E / 2 ^ L) ∧ Heap w.heap.size w w' [(b2, PC x), (b4, PC 0), (b5, PC y)]

set_option maxHeartbeats 4000000 in
theorem fp2Pow {G : World → Prop} (K : FpK G) (x : F2) (p : Option Addr) (n c : Nat) (g : Nat → Int) (E : Nat) (w : World) (hg : G w) (hn : n ≤ 24) (he : At w p n g) (rg : Rg g n) (hE : val g n = (E : Int)) : Calls Tryd.prog 26 #[PV x, .slice p n c] w (Ret (PV (F2.pw2 x E)) w) := by
  have hp0 := Heap.start w
  go_enter Tryd.func26, Tryd.ntmps26
  refine wp_seq_k (fun K0 k0 => ?_)
  refine goes (ks := [.alloc (PC x), .alloc (PC 0)]) (T := [0, 0]) (nt := 38) (nh := 0) (H := []) (A := fun L => [PV x, .slice p n c, .pointer (some ⟨L.b 0, 0, none⟩), undef, .pointer (some ⟨L.b 1, 0, none⟩), undef, undef, undef, undef, undef, undef, undef, undef, undef, undef, undef, undef, undef, undef, undef, undef, undef, undef, undef, undef, undef, undef, undef, undef, undef, undef, undef, undef, undef, undef, undef, undef, undef]) (H' := fun L => [(L.b 0, PC x), (L.b 1, PC 0)]) (by kernel_rfl) rfl rfl rfl (fun L => by kernel_rfl) (fun L => by kernel_rfl) hp0 ⟨
    ob_box (v := PV x) (fun _ => rfl) rfl rfl (fun _ => by kernel_rfl) rfl,
    ob_alloc (v := PV 0) (fun _ => rfl) rfl rfl zeroP rfl,
    trivial⟩ (fun L0 w1 hp1 => ?_)
  refine k0 _ _ ?_
  refine wp_scope_two (powJ2 x p n c E w (L0.b 0) (L0.b 1) (fun L => E / 2 ^ L = 0)) (powJ2 x p n c E w (L0.b 0) (L0.b 1) (fun _ => True)) (fun a' _ => slot 6 a') (fun a' _ => slot 6 a') rfl rfl ?_ ?_ ?_
  · skip
    rintro a' W ⟨L, b5, y, u3, u7, u8, u9, u10, u11, u12, u13, u14, u15, u16, u17, u18, u19, u20, u21, u22, u23, u24, u25, u26, u27, u28, u29, u30, u31, u32, u33, u34, u35, u36, u37, rfl, -, hL, hy, hJ⟩
    by_cases hL0 : L = 0
    · skip
      subst hL0
      refine wp_seq_k (fun K1 k1 => ?_)
      refine wp_seq_k (fun K2 k2 => ?_)
      refine goes (ks := [.det (.int .i64 ((0 : Nat) : Int)), .det (.bool false)]) (T := [0, 1]) (nt := 38) (nh := 3) (H := [((L0.b 0), PC x), ((L0.b 1), PC 0), (b5, PC y)]) (A := fun L => [PV x, .slice p n c, .pointer (some ⟨(L0.b 0), 0, none⟩), u3, .pointer (some ⟨(L0.b 1), 0, none⟩), .pointer (some ⟨b5, 0, none⟩), .int .i64 ((0 : Nat) : Int), u7, u8, u9, u10, u11, u12, u13, u14, u15, u16, u17, u18, u19, u20, u21, u22, .int .i64 ((0 : Nat) : Int), .bool false, u25, u26, u27, u28, u29, u30, u31, u32, u33, u34, u35, u36, u37]) (H' := fun L => [((L0.b 0), PC x), ((L0.b 1), PC 0), (b5, PC y)]) (by kernel_rfl) rfl rfl rfl (fun L => by kernel_rfl) (fun L => by kernel_rfl) hJ ⟨
        ob_move (fun _ => rfl) rfl rfl (fun _ => by kernel_rfl),
        ob_bin (u := .int .i64 ((0 : Nat) : Int)) (v := .int .i64 0) (fun _ => rfl) rfl rfl (fun _ => by kernel_rfl) (fun _ => by kernel_rfl) (fun w => guardI _ _ _ _ _ _ _ _ w) (fun w => (gtrI _ _ _ w).trans (by rw [decide_eq_false (by omega)])),
        trivial⟩ (fun L1 w2 hp2 => ?_)
      refine k2 _ _ ?_
      refine wp_cond_false (by kernel_rfl) ?_
      refine skips ?_
      refine k1 _ _ ?_
      refine wp_seq_k (fun K3 k3 => ?_)
      refine goes (ks := [.det (PV y), .store (.base 1) 0 (PC y) (PC y)]) (T := [0, 1]) (nt := 38) (nh := 3) (H := [((L0.b 0), PC x), ((L0.b 1), PC 0), (b5, PC y)]) (A := fun L => [PV x, .slice p n c, .pointer (some ⟨(L0.b 0), 0, none⟩), u3, .pointer (some ⟨(L0.b 1), 0, none⟩), .pointer (some ⟨b5, 0, none⟩), .int .i64 ((0 : Nat) : Int), u7, u8, u9, u10, u11, u12, u13, u14, u15, u16, u17, u18, u19, u20, u21, u22, .int .i64 ((0 : Nat) : Int), .bool false, u25, u26, u27, u28, u29, u30, u31, u32, u33, u34, u35, u36, PV y]) (H' := fun L => [((L0.b 0), PC x), ((L0.b 1), PC y), (b5, PC y)]) (by kernel_rfl) rfl rfl rfl (fun L => by kernel_rfl) (fun L => by kernel_rfl) hp2 ⟨
        ob_load (b := b5) (off := 0) (cs := PC y) (by kernel_rfl) (fun _ => rfl) rfl rfl (fun _ => by kernel_rfl) (fun _ _ hs => (seen_at (k := 2) hs rfl).cells) Tryd.underlying26 rfl (sizePC _),
        ob_store (old := PC 0) (fun _ => rfl) rfl rfl (fun _ => by kernel_rfl) (fun _ => by kernel_rfl) rfl (sizePC _) (PC_one _) (le_len (PC_len _) (PC_len _) (by decide)) (splice_all ((PC_len _).trans (PC_len _).symm)).symm,
        trivial⟩ (fun L2 w3 hp3 => ?_)
      refine k3 _ _ ?_
      refine wp_ret ?_
      exact bodyPost_ret (v := PV y) (res_c rfl (by kernel_rfl) (hp3.bound 1 rfl).2 Tryd.underlying26 rfl (sizePC _)) rfl ⟨congrArg (fun z => Ending.returned (PV z)) (by rw [hy, Nat.pow_zero, Nat.div_one]), hp3.bel⟩
    · skip
      obtain ⟨j, rfl⟩ : ∃ j, L = j + 1 := ⟨L - 1, by omega⟩
      rcases (show E / 2 ^ j % 2 = 0 ∨ E / 2 ^ j % 2 = 1 by omega) with hb0 | hb1
      · skip
        refine wp_seq_k (fun K4 k4 => ?_)
        refine wp_seq_k (fun K5 k5 => ?_)
        refine goes (ks := [.det (.int .i64 ((j + 1 : Nat) : Int)), .det (.bool true)]) (T := [0, 1]) (nt := 38) (nh := 3) (H := [((L0.b 0), PC x), ((L0.b 1), PC 0), (b5, PC y)]) (A := fun L => [PV x, .slice p n c, .pointer (some ⟨(L0.b 0), 0, none⟩), u3, .pointer (some ⟨(L0.b 1), 0, none⟩), .pointer (some ⟨b5, 0, none⟩), .int .i64 ((j + 1 : Nat) : Int), u7, u8, u9, u10, u11, u12, u13, u14, u15, u16, u17, u18, u19, u20, u21, u22, .int .i64 ((j + 1 : Nat) : Int), .bool true, u25, u26, u27, u28, u29, u30, u31, u32, u33, u34, u35, u36, u37]) (H' := fun L => [((L0.b 0), PC x), ((L0.b 1), PC 0), (b5, PC y)]) (by kernel_rfl) rfl rfl rfl (fun L => by kernel_rfl) (fun L => by kernel_rfl) hJ ⟨
          ob_move (fun _ => rfl) rfl rfl (fun _ => by kernel_rfl),
          ob_bin (u := .int .i64 ((j + 1 : Nat) : Int)) (v := .int .i64 0) (fun _ => rfl) rfl rfl (fun _ => by kernel_rfl) (fun _ => by kernel_rfl) (fun w => guardI _ _ _ _ _ _ _ _ w) (fun w => (gtrI _ _ _ w).trans (by rw [decide_eq_true (by omega)])),
          trivial⟩ (fun L3 w4 hp4 => ?_)
        refine k5 _ _ ?_
        refine wp_cond_true (by kernel_rfl) ?_
        refine wp_seq_k (fun K6 k6 => ?_)
        refine goes (ks := [.det (.int .i64 ((j + 1 : Nat) : Int)), .det (.int .i64 (j : Int)), .det (.int .i64 (j : Int))]) (T := [0, 1, 3]) (nt := 38) (nh := 3) (H := [((L0.b 0), PC x), ((L0.b 1), PC 0), (b5, PC y)]) (A := fun L => [PV x, .slice p n c, .pointer (some ⟨(L0.b 0), 0, none⟩), u3, .pointer (some ⟨(L0.b 1), 0, none⟩), .pointer (some ⟨b5, 0, none⟩), .int .i64 (j : Int), u7, u8, u9, u10, u11, u12, u13, u14, u15, u16, u17, u18, u19, u20, u21, u22, .int .i64 ((j + 1 : Nat) : Int), .bool true, .int .i64 ((j + 1 : Nat) : Int), .int .i64 (j : Int), u27, u28, u29, u30, u31, u32, u33, u34, u35, u36, u37]) (H' := fun L => [((L0.b 0), PC x), ((L0.b 1), PC 0), (b5, PC y)]) (by kernel_rfl) rfl rfl rfl (fun L => by kernel_rfl) (fun L => by kernel_rfl) hp4 ⟨
          ob_move (fun _ => rfl) rfl rfl (fun _ => by kernel_rfl),
          ob_bin (u := .int .i64 ((j + 1 : Nat) : Int)) (v := .int .i64 1) (fun _ => rfl) rfl rfl (fun _ => by kernel_rfl) (fun _ => by kernel_rfl) (fun w => guardI _ _ _ _ _ _ _ _ w) (fun w => sub1 _ j (by omega) w),
          ob_assign (fun _ => rfl) rfl rfl (fun _ => by kernel_rfl),
          trivial⟩ (fun L4 w5 hp5 => ?_)
        refine k6 _ _ ?_
        refine wp_seq_k (fun K7 k7 => ?_)
        refine goes (ks := [.det (PV y), .det (PV y), .det (PV (y * y)), .store (.base 2) 0 (PC (y * y)) (PC (y * y))]) (T := [0, 0, 3, 7]) (nt := 38) (nh := 3) (H := [((L0.b 0), PC x), ((L0.b 1), PC 0), (b5, PC y)]) (A := fun L => [PV x, .slice p n c, .pointer (some ⟨(L0.b 0), 0, none⟩), u3, .pointer (some ⟨(L0.b 1), 0, none⟩), .pointer (some ⟨b5, 0, none⟩), .int .i64 (j : Int), u7, u8, u9, u10, u11, u12, u13, u14, u15, u16, u17, u18, u19, u20, u21, u22, .int .i64 ((j + 1 : Nat) : Int), .bool true, .int .i64 ((j + 1 : Nat) : Int), .int .i64 (j : Int), PV y, PV y, PV (y * y), u30, u31, u32, u33, u34, u35, u36, u37]) (H' := fun L => [((L0.b 0), PC x), ((L0.b 1), PC 0), (b5, PC (y * y))]) (by kernel_rfl) rfl rfl rfl (fun L => by kernel_rfl) (fun L => by kernel_rfl) hp5 ⟨
          ob_load (b := b5) (off := 0) (cs := PC y) (by kernel_rfl) (fun _ => rfl) rfl rfl (fun _ => by kernel_rfl) (fun _ _ hs => (seen_at (k := 2) hs rfl).cells) Tryd.underlying26 rfl (sizePC _),
          ob_load (b := b5) (off := 0) (cs := PC y) (by kernel_rfl) (fun _ => rfl) rfl rfl (fun _ => by kernel_rfl) (fun _ _ hs => (seen_at (k := 2) hs rfl).cells) Tryd.underlying26 rfl (sizePC _),
          ob_call (vs := #[PV y, PV y]) (by kernel_rfl) (by kernel_rfl) (fun _ => rfl) rfl rfl (fun _ => by kernel_rfl) (fun w hb _ => fp2Mul K _ _ w (K.stay hg hb)),
          ob_store (old := PC y) (fun _ => rfl) rfl rfl (fun _ => by kernel_rfl) (fun _ => by kernel_rfl) rfl (sizePC _) (PC_one _) (le_len (PC_len _) (PC_len _) (by decide)) (splice_all ((PC_len _).trans (PC_len _).symm)).symm,
          trivial⟩ (fun L5 w6 hp6 => ?_)
        refine k7 _ _ ?_
        refine wp_seq_k (fun K8 k8 => ?_)
        refine wp_seq_k (fun K9 k9 => ?_)
        refine goes (ks := [.det (.slice p n c), .det (.int .i64 (j : Int)), .det (.int .u64 0), .det (.bool false)]) (T := [0, 0, 3, 7]) (nt := 38) (nh := 3) (H := [((L0.b 0), PC x), ((L0.b 1), PC 0), (b5, PC (y * y))]) (A := fun L => [PV x, .slice p n c, .pointer (some ⟨(L0.b 0), 0, none⟩), u3, .pointer (some ⟨(L0.b 1), 0, none⟩), .pointer (some ⟨b5, 0, none⟩), .int .i64 (j : Int), u7, u8, u9, u10, u11, u12, u13, u14, u15, u16, u17, u18, u19, u20, u21, u22, .int .i64 ((j + 1 : Nat) : Int), .bool true, .int .i64 ((j + 1 : Nat) : Int), .int .i64 (j : Int), PV y, PV y, PV (y * y), .slice p n c, .int .i64 (j : Int), .int .u64 0, .bool false, u34, u35, u36, u37]) (H' := fun L => [((L0.b 0), PC x), ((L0.b 1), PC 0), (b5, PC (y * y))]) (by kernel_rfl) rfl rfl rfl (fun L => by kernel_rfl) (fun L => by kernel_rfl) hp6 ⟨
          ob_move (fun _ => rfl) rfl rfl (fun _ => by kernel_rfl),
          ob_move (fun _ => rfl) rfl rfl (fun _ => by kernel_rfl),
          ob_call (vs := #[.slice p n c, .int .i64 (j : Int)]) (by kernel_rfl) (by kernel_rfl) (fun _ => rfl) rfl rfl (fun _ => by kernel_rfl) (fun w hb _ => bitAtN p n c g E j w (by omega) (by omega) (AtK.below he hb) rg hE hb0),
          ob_eq (u := .int .u64 0) (v := .int .u64 1) (fun _ => rfl) rfl rfl (fun _ => by kernel_rfl) (fun _ => by kernel_rfl) (fun w => guardI _ _ _ _ _ _ _ _ w) (fun w => (eqlI _ _ _ _ w).trans rfl),
          trivial⟩ (fun L6 w7 hp7 => ?_)
        refine k9 _ _ ?_
        refine wp_cond_false (by kernel_rfl) ?_
        refine skips ?_
        refine k8 _ _ ?_
        refine wp_goto ?_
        exact Or.inr ⟨rfl, ⟨j, b5, (y * y), u3, u7, u8, u9, u10, u11, u12, u13, u14, u15, u16, u17, u18, u19, u20, u21, u22, .int .i64 ((j + 1 : Nat) : Int), .bool true, .int .i64 ((j + 1 : Nat) : Int), .int .i64 (j : Int), PV y, PV y, PV (y * y), .slice p n c, .int .i64 (j : Int), .int .u64 0, .bool false, u34, u35, u36, u37, rfl, trivial, by omega, pw_even hy hb0, hp7⟩, by simp [slot, intOf]⟩
      · skip
        refine wp_seq_k (fun K10 k10 => ?_)
        refine wp_seq_k (fun K11 k11 => ?_)
        refine goes (ks := [.det (.int .i64 ((j + 1 : Nat) : Int)), .det (.bool true)]) (T := [0, 1]) (nt := 38) (nh := 3) (H := [((L0.b 0), PC x), ((L0.b 1), PC 0), (b5, PC y)]) (A := fun L => [PV x, .slice p n c, .pointer (some ⟨(L0.b 0), 0, none⟩), u3, .pointer (some ⟨(L0.b 1), 0, none⟩), .pointer (some ⟨b5, 0, none⟩), .int .i64 ((j + 1 : Nat) : Int), u7, u8, u9, u10, u11, u12, u13, u14, u15, u16, u17, u18, u19, u20, u21, u22, .int .i64 ((j + 1 : Nat) : Int), .bool true, u25, u26, u27, u28, u29, u30, u31, u32, u33, u34, u35, u36, u37]) (H' := fun L => [((L0.b 0), PC x), ((L0.b 1), PC 0), (b5, PC y)]) (by kernel_rfl) rfl rfl rfl (fun L => by kernel_rfl) (fun L => by kernel_rfl) hJ ⟨
          ob_move (fun _ => rfl) rfl rfl (fun _ => by kernel_rfl),
          ob_bin (u := .int .i64 ((j + 1 : Nat) : Int)) (v := .int .i64 0) (fun _ => rfl) rfl rfl (fun _ => by kernel_rfl) (fun _ => by kernel_rfl) (fun w => guardI _ _ _ _ _ _ _ _ w) (fun w => (gtrI _ _ _ w).trans (by rw [decide_eq_true (by omega)])),
          trivial⟩ (fun L7 w8 hp8 => ?_)
        refine k11 _ _ ?_
        refine wp_cond_true (by kernel_rfl) ?_
        refine wp_seq_k (fun K12 k12 => ?_)
        refine goes (ks := [.det (.int .i64 ((j + 1 : Nat) : Int)), .det (.int .i64 (j : Int)), .det (.int .i64 (j : Int))]) (T := [0, 1, 3]) (nt := 38) (nh := 3) (H := [((L0.b 0), PC x), ((L0.b 1), PC 0), (b5, PC y)]) (A := fun L => [PV x, .slice p n c, .pointer (some ⟨(L0.b 0), 0, none⟩), u3, .pointer (some ⟨(L0.b 1), 0, none⟩), .pointer (some ⟨b5, 0, none⟩), .int .i64 (j : Int), u7, u8, u9, u10, u11, u12, u13, u14, u15, u16, u17, u18, u19, u20, u21, u22, .int .i64 ((j + 1 : Nat) : Int), .bool true, .int .i64 ((j + 1 : Nat) : Int), .int .i64 (j : Int), u27, u28, u29, u30, u31, u32, u33, u34, u35, u36, u37]) (H' := fun L => [((L0.b 0), PC x), ((L0.b 1), PC 0), (b5, PC y)]) (by kernel_rfl) rfl rfl rfl (fun L => by kernel_rfl) (fun L => by kernel_rfl) hp8 ⟨
          ob_move (fun _ => rfl) rfl rfl (fun _ => by kernel_rfl),
          ob_bin (u := .int .i64 ((j + 1 : Nat) : Int)) (v := .int .i64 1) (fun _ => rfl) rfl rfl (fun _ => by kernel_rfl) (fun _ => by kernel_rfl) (fun w => guardI _ _ _ _ _ _ _ _ w) (fun w => sub1 _ j (by omega) w),
          ob_assign (fun _ => rfl) rfl rfl (fun _ => by kernel_rfl),
          trivial⟩ (fun L8 w9 hp9 => ?_)
        refine k12 _ _ ?_
        refine wp_seq_k (fun K13 k13 => ?_)
        refine goes (ks := [.det (PV y), .det (PV y), .det (PV (y * y)), .store (.base 2) 0 (PC (y * y)) (PC (y * y))]) (T := [0, 0, 3, 7]) (nt := 38) (nh := 3) (H := [((L0.b 0), PC x), ((L0.b 1), PC 0), (b5, PC y)]) (A := fun L => [PV x, .slice p n c, .pointer (some ⟨(L0.b 0), 0, none⟩), u3, .pointer (some ⟨(L0.b 1), 0, none⟩), .pointer (some ⟨b5, 0, none⟩), .int .i64 (j : Int), u7, u8, u9, u10, u11, u12, u13, u14, u15, u16, u17, u18, u19, u20, u21, u22, .int .i64 ((j + 1 : Nat) : Int), .bool true, .int .i64 ((j + 1 : Nat) : Int), .int .i64 (j : Int), PV y, PV y, PV (y * y), u30, u31, u32, u33, u34, u35, u36, u37]) (H' := fun L => [((L0.b 0), PC x), ((L0.b 1), PC 0), (b5, PC (y * y))]) (by kernel_rfl) rfl rfl rfl (fun L => by kernel_rfl) (fun L => by kernel_rfl) hp9 ⟨
          ob_load (b := b5) (off := 0) (cs := PC y) (by kernel_rfl) (fun _ => rfl) rfl rfl (fun _ => by kernel_rfl) (fun _ _ hs => (seen_at (k := 2) hs rfl).cells) Tryd.underlying26 rfl (sizePC _),
          ob_load (b := b5) (off := 0) (cs := PC y) (by kernel_rfl) (fun _ => rfl) rfl rfl (fun _ => by kernel_rfl) (fun _ _ hs => (seen_at (k := 2) hs rfl).cells) Tryd.underlying26 rfl (sizePC _),
          ob_call (vs := #[PV y, PV y]) (by kernel_rfl) (by kernel_rfl) (fun _ => rfl) rfl rfl (fun _ => by kernel_rfl) (fun w hb _ => fp2Mul K _ _ w (K.stay hg hb)),
          ob_store (old := PC y) (fun _ => rfl) rfl rfl (fun _ => by kernel_rfl) (fun _ => by kernel_rfl) rfl (sizePC _) (PC_one _) (le_len (PC_len _) (PC_len _) (by decide)) (splice_all ((PC_len _).trans (PC_len _).symm)).symm,
          trivial⟩ (fun L9 w10 hp10 => ?_)
        refine k13 _ _ ?_
        refine wp_seq_k (fun K14 k14 => ?_)
        refine wp_seq_k (fun K15 k15 => ?_)
        refine goes (ks := [.det (.slice p n c), .det (.int .i64 (j : Int)), .det (.int .u64 1), .det (.bool true)]) (T := [0, 0, 3, 7]) (nt := 38) (nh := 3) (H := [((L0.b 0), PC x), ((L0.b 1), PC 0), (b5, PC (y * y))]) (A := fun L => [PV x, .slice p n c, .pointer (some ⟨(L0.b 0), 0, none⟩), u3, .pointer (some ⟨(L0.b 1), 0, none⟩), .pointer (some ⟨b5, 0, none⟩), .int .i64 (j : Int), u7, u8, u9, u10, u11, u12, u13, u14, u15, u16, u17, u18, u19, u20, u21, u22, .int .i64 ((j + 1 : Nat) : Int), .bool true, .int .i64 ((j + 1 : Nat) : Int), .int .i64 (j : Int), PV y, PV y, PV (y * y), .slice p n c, .int .i64 (j : Int), .int .u64 1, .bool true, u34, u35, u36, u37]) (H' := fun L => [((L0.b 0), PC x), ((L0.b 1), PC 0), (b5, PC (y * y))]) (by kernel_rfl) rfl rfl rfl (fun L => by kernel_rfl) (fun L => by kernel_rfl) hp10 ⟨
          ob_move (fun _ => rfl) rfl rfl (fun _ => by kernel_rfl),
          ob_move (fun _ => rfl) rfl rfl (fun _ => by kernel_rfl),
          ob_call (vs := #[.slice p n c, .int .i64 (j : Int)]) (by kernel_rfl) (by kernel_rfl) (fun _ => rfl) rfl rfl (fun _ => by kernel_rfl) (fun w hb _ => bitAtN p n c g E j w (by omega) (by omega) (AtK.below he hb) rg hE hb1),
          ob_eq (u := .int .u64 1) (v := .int .u64 1) (fun _ => rfl) rfl rfl (fun _ => by kernel_rfl) (fun _ => by kernel_rfl) (fun w => guardI _ _ _ _ _ _ _ _ w) (fun w => (eqlI _ _ _ _ w).trans rfl),
          trivial⟩ (fun L10 w11 hp11 => ?_)
        refine k15 _ _ ?_
        refine wp_cond_true (by kernel_rfl) ?_
        refine goes (ks := [.det (PV (y * y)), .det (PV x), .det (PV ((y * y) * x)), .store (.base 2) 0 (PC ((y * y) * x)) (PC ((y * y) * x))]) (T := [0, 0, 3, 7]) (nt := 38) (nh := 3) (H := [((L0.b 0), PC x), ((L0.b 1), PC 0), (b5, PC (y * y))]) (A := fun L => [PV x, .slice p n c, .pointer (some ⟨(L0.b 0), 0, none⟩), u3, .pointer (some ⟨(L0.b 1), 0, none⟩), .pointer (some ⟨b5, 0, none⟩), .int .i64 (j : Int), u7, u8, u9, u10, u11, u12, u13, u14, u15, u16, u17, u18, u19, u20, u21, u22, .int .i64 ((j + 1 : Nat) : Int), .bool true, .int .i64 ((j + 1 : Nat) : Int), .int .i64 (j : Int), PV y, PV y, PV (y * y), .slice p n c, .int .i64 (j : Int), .int .u64 1, .bool true, PV (y * y), PV x, PV ((y * y) * x), u37]) (H' := fun L => [((L0.b 0), PC x), ((L0.b 1), PC 0), (b5, PC ((y * y) * x))]) (by kernel_rfl) rfl rfl rfl (fun L => by kernel_rfl) (fun L => by kernel_rfl) hp11 ⟨
          ob_load (b := b5) (off := 0) (cs := PC (y * y)) (by kernel_rfl) (fun _ => rfl) rfl rfl (fun _ => by kernel_rfl) (fun _ _ hs => (seen_at (k := 2) hs rfl).cells) Tryd.underlying26 rfl (sizePC _),
          ob_load (b := (L0.b 0)) (off := 0) (cs := PC x) (by kernel_rfl) (fun _ => rfl) rfl rfl (fun _ => by kernel_rfl) (fun _ _ hs => (seen_at (k := 0) hs rfl).cells) Tryd.underlying26 rfl (sizePC _),
          ob_call (vs := #[PV (y * y), PV x]) (by kernel_rfl) (by kernel_rfl) (fun _ => rfl) rfl rfl (fun _ => by kernel_rfl) (fun w hb _ => fp2Mul K _ _ w (K.stay hg hb)),
          ob_store (old := PC (y * y)) (fun _ => rfl) rfl rfl (fun _ => by kernel_rfl) (fun _ => by kernel_rfl) rfl (sizePC _) (PC_one _) (le_len (PC_len _) (PC_len _) (by decide)) (splice_all ((PC_len _).trans (PC_len _).symm)).symm,
          trivial⟩ (fun L11 w12 hp12 => ?_)
        refine k14 _ _ ?_
        refine wp_goto ?_
        exact Or.inr ⟨rfl, ⟨j, b5, ((y * y) * x), u3, u7, u8, u9, u10, u11, u12, u13, u14, u15, u16, u17, u18, u19, u20, u21, u22, .int .i64 ((j + 1 : Nat) : Int), .bool true, .int .i64 ((j + 1 : Nat) : Int), .int .i64 (j : Int), PV y, PV y, PV (y * y), .slice p n c, .int .i64 (j : Int), .int .u64 1, .bool true, PV (y * y), PV x, PV ((y * y) * x), u37, rfl, trivial, by omega, pw_odd hy hb1, hp12⟩, by simp [slot, intOf]⟩
  · skip
    rintro hr a' W ⟨L, b5, y, u3, u7, u8, u9, u10, u11, u12, u13, u14, u15, u16, u17, u18, u19, u20, u21, u22, u23, u24, u25, u26, u27, u28, u29, u30, u31, u32, u33, u34, u35, u36, u37, rfl, hz, hL, hy, hJ⟩
    by_cases hL0 : L = 0
    · skip
      subst hL0
      refine wp_seq_k (fun K16 k16 => ?_)
      refine wp_seq_k (fun K17 k17 => ?_)
      refine goes (ks := [.det (.int .i64 ((0 : Nat) : Int)), .det (.bool false), .det (.bool false), .det undef, .det undef, .det undef, .det undef, .det undef, .det (.bool false)]) (T := [0, 1, 3, 7, 7, 23, 63, 127, 255]) (nt := 38) (nh := 3) (H := [((L0.b 0), PC x), ((L0.b 1), PC 0), (b5, PC y)]) (A := fun L => [PV x, .slice p n c, .pointer (some ⟨(L0.b 0), 0, none⟩), u3, .pointer (some ⟨(L0.b 1), 0, none⟩), .pointer (some ⟨b5, 0, none⟩), .int .i64 ((0 : Nat) : Int), u7, u8, u9, u10, u11, .int .i64 ((0 : Nat) : Int), .bool false, .bool false, undef, undef, undef, undef, undef, .bool false, u21, u22, u23, u24, u25, u26, u27, u28, u29, u30, u31, u32, u33, u34, u35, u36, u37]) (H' := fun L => [((L0.b 0), PC x), ((L0.b 1), PC 0), (b5, PC y)]) (by kernel_rfl) rfl rfl rfl (fun L => by kernel_rfl) (fun L => by kernel_rfl) hJ ⟨
        ob_move (fun _ => rfl) rfl rfl (fun _ => by kernel_rfl),
        ob_bin (u := .int .i64 ((0 : Nat) : Int)) (v := .int .i64 0) (fun _ => rfl) rfl rfl (fun _ => by kernel_rfl) (fun _ => by kernel_rfl) (fun w => guardI _ _ _ _ _ _ _ _ w) (fun w => (gtrI _ _ _ w).trans (by rw [decide_eq_false (by omega)])),
        ob_move (fun _ => rfl) rfl rfl (fun _ => by kernel_rfl),
        ob_skip (fun _ => by kernel_rfl) rfl,
        ob_skip (fun _ => by kernel_rfl) rfl,
        ob_skip (fun _ => by kernel_rfl) rfl,
        ob_skip (fun _ => by kernel_rfl) rfl,
        ob_skip (fun _ => by kernel_rfl) rfl,
        ob_pickF (fun _ => rfl) rfl rfl (fun _ => by kernel_rfl) (fun _ => by kernel_rfl),
        trivial⟩ (fun L12 w13 hp13 => ?_)
      refine k17 _ _ ?_
      refine wp_cond_false (by kernel_rfl) ?_
      refine skips ?_
      refine k16 _ _ ?_
      refine wp_seq_k (fun K18 k18 => ?_)
      refine wp_label ?_
      exact k18 _ _ (hr _ _ _ ⟨0, b5, y, u3, u7, u8, u9, u10, u11, .int .i64 ((0 : Nat) : Int), .bool false, .bool false, undef, undef, undef, undef, undef, .bool false, u21, u22, u23, u24, u25, u26, u27, u28, u29, u30, u31, u32, u33, u34, u35, u36, u37, rfl, trivial, hL, hy, hp13⟩)
    · skip
      obtain ⟨j, rfl⟩ : ∃ j, L = j + 1 := ⟨L - 1, by omega⟩
      rcases (show E / 2 ^ j % 2 = 0 ∨ E / 2 ^ j % 2 = 1 by omega) with hb0 | hb1
      · skip
        refine wp_seq_k (fun K19 k19 => ?_)
        refine wp_seq_k (fun K20 k20 => ?_)
        refine goes (ks := [.det (.int .i64 ((j + 1 : Nat) : Int)), .det (.bool true), .det (.bool true), .det (.slice p n c), .det (.int .i64 ((j + 1 : Nat) : Int)), .det (.int .i64 (j : Int)), .det (.int .u64 0), .det (.bool true), .det (.bool true)]) (T := [0, 1, 3, 7, 7, 23, 63, 127, 255]) (nt := 38) (nh := 3) (H := [((L0.b 0), PC x), ((L0.b 1), PC 0), (b5, PC y)]) (A := fun L => [PV x, .slice p n c, .pointer (some ⟨(L0.b 0), 0, none⟩), u3, .pointer (some ⟨(L0.b 1), 0, none⟩), .pointer (some ⟨b5, 0, none⟩), .int .i64 ((j + 1 : Nat) : Int), u7, u8, u9, u10, u11, .int .i64 ((j + 1 : Nat) : Int), .bool true, .bool true, .slice p n c, .int .i64 ((j + 1 : Nat) : Int), .int .i64 (j : Int), .int .u64 0, .bool true, .bool true, u21, u22, u23, u24, u25, u26, u27, u28, u29, u30, u31, u32, u33, u34, u35, u36, u37]) (H' := fun L => [((L0.b 0), PC x), ((L0.b 1), PC 0), (b5, PC y)]) (by kernel_rfl) rfl rfl rfl (fun L => by kernel_rfl) (fun L => by kernel_rfl) hJ ⟨
          ob_move (fun _ => rfl) rfl rfl (fun _ => by kernel_rfl),
          ob_bin (u := .int .i64 ((j + 1 : Nat) : Int)) (v := .int .i64 0) (fun _ => rfl) rfl rfl (fun _ => by kernel_rfl) (fun _ => by kernel_rfl) (fun w => guardI _ _ _ _ _ _ _ _ w) (fun w => (gtrI _ _ _ w).trans (by rw [decide_eq_true (by omega)])),
          ob_move (fun _ => rfl) rfl rfl (fun _ => by kernel_rfl),
          ob_move (fun _ => by kernel_rfl) rfl rfl (fun _ => by kernel_rfl),
          ob_move (fun _ => by kernel_rfl) rfl rfl (fun _ => by kernel_rfl),
          ob_bin (u := .int .i64 ((j + 1 : Nat) : Int)) (v := .int .i64 1) (fun _ => by kernel_rfl) rfl rfl (fun _ => by kernel_rfl) (fun _ => by kernel_rfl) (fun w => guardI _ _ _ _ _ _ _ _ w) (fun w => sub1 _ j (by omega) w),
          ob_call (vs := #[.slice p n c, .int .i64 (j : Int)]) (by kernel_rfl) (by kernel_rfl) (fun _ => by kernel_rfl) rfl rfl (fun _ => by kernel_rfl) (fun w hb _ => bitAtN p n c g E j w (by omega) (by omega) (AtK.below he hb) rg hE hb0),
          ob_eq (u := .int .u64 0) (v := .int .u64 0) (fun _ => by kernel_rfl) rfl rfl (fun _ => by kernel_rfl) (fun _ => by kernel_rfl) (fun w => guardI _ _ _ _ _ _ _ _ w) (fun w => (eqlI _ _ _ _ w).trans rfl),
          ob_pickT (fun _ => rfl) rfl rfl (fun _ => by kernel_rfl) (fun _ => by kernel_rfl),
          trivial⟩ (fun L13 w14 hp14 => ?_)
        refine k20 _ _ ?_
        refine wp_cond_true (by kernel_rfl) ?_
        refine wp_seq_k (fun K21 k21 => ?_)
        refine goes (ks := [.det (.int .i64 ((j + 1 : Nat) : Int)), .det (.int .i64 (j : Int)), .det (.int .i64 (j : Int))]) (T := [0, 1, 3]) (nt := 38) (nh := 3) (H := [((L0.b 0), PC x), ((L0.b 1), PC 0), (b5, PC y)]) (A := fun L => [PV x, .slice p n c, .pointer (some ⟨(L0.b 0), 0, none⟩), u3, .pointer (some ⟨(L0.b 1), 0, none⟩), .pointer (some ⟨b5, 0, none⟩), .int .i64 (j : Int), u7, u8, u9, u10, u11, .int .i64 ((j + 1 : Nat) : Int), .bool true, .bool true, .slice p n c, .int .i64 ((j + 1 : Nat) : Int), .int .i64 (j : Int), .int .u64 0, .bool true, .bool true, .int .i64 ((j + 1 : Nat) : Int), .int .i64 (j : Int), u23, u24, u25, u26, u27, u28, u29, u30, u31, u32, u33, u34, u35, u36, u37]) (H' := fun L => [((L0.b 0), PC x), ((L0.b 1), PC 0), (b5, PC y)]) (by kernel_rfl) rfl rfl rfl (fun L => by kernel_rfl) (fun L => by kernel_rfl) hp14 ⟨
          ob_move (fun _ => rfl) rfl rfl (fun _ => by kernel_rfl),
          ob_bin (u := .int .i64 ((j + 1 : Nat) : Int)) (v := .int .i64 1) (fun _ => rfl) rfl rfl (fun _ => by kernel_rfl) (fun _ => by kernel_rfl) (fun w => guardI _ _ _ _ _ _ _ _ w) (fun w => sub1 _ j (by omega) w),
          ob_assign (fun _ => rfl) rfl rfl (fun _ => by kernel_rfl),
          trivial⟩ (fun L14 w15 hp15 => ?_)
        refine k21 _ _ ?_
        refine wp_goto ?_
        exact Or.inl ⟨rfl, ⟨j, b5, y, u3, u7, u8, u9, u10, u11, .int .i64 ((j + 1 : Nat) : Int), .bool true, .bool true, .slice p n c, .int .i64 ((j + 1 : Nat) : Int), .int .i64 (j : Int), .int .u64 0, .bool true, .bool true, .int .i64 ((j + 1 : Nat) : Int), .int .i64 (j : Int), u23, u24, u25, u26, u27, u28, u29, u30, u31, u32, u33, u34, u35, u36, u37, rfl, pw_less hz hb0, by omega, pw_none hy hz hb0, hp15⟩, by simp [slot, intOf]⟩
      · skip
        refine wp_seq_k (fun K22 k22 => ?_)
        refine wp_seq_k (fun K23 k23 => ?_)
        refine goes (ks := [.det (.int .i64 ((j + 1 : Nat) : Int)), .det (.bool true), .det (.bool true), .det (.slice p n c), .det (.int .i64 ((j + 1 : Nat) : Int)), .det (.int .i64 (j : Int)), .det (.int .u64 1), .det (.bool false), .det (.bool false)]) (T := [0, 1, 3, 7, 7, 23, 63, 127, 255]) (nt := 38) (nh := 3) (H := [((L0.b 0), PC x), ((L0.b 1), PC 0), (b5, PC y)]) (A := fun L => [PV x, .slice p n c, .pointer (some ⟨(L0.b 0), 0, none⟩), u3, .pointer (some ⟨(L0.b 1), 0, none⟩), .pointer (some ⟨b5, 0, none⟩), .int .i64 ((j + 1 : Nat) : Int), u7, u8, u9, u10, u11, .int .i64 ((j + 1 : Nat) : Int), .bool true, .bool true, .slice p n c, .int .i64 ((j + 1 : Nat) : Int), .int .i64 (j : Int), .int .u64 1, .bool false, .bool false, u21, u22, u23, u24, u25, u26, u27, u28, u29, u30, u31, u32, u33, u34, u35, u36, u37]) (H' := fun L => [((L0.b 0), PC x), ((L0.b 1), PC 0), (b5, PC y)]) (by kernel_rfl) rfl rfl rfl (fun L => by kernel_rfl) (fun L => by kernel_rfl) hJ ⟨
          ob_move (fun _ => rfl) rfl rfl (fun _ => by kernel_rfl),
          ob_bin (u := .int .i64 ((j + 1 : Nat) : Int)) (v := .int .i64 0) (fun _ => rfl) rfl rfl (fun _ => by kernel_rfl) (fun _ => by kernel_rfl) (fun w => guardI _ _ _ _ _ _ _ _ w) (fun w => (gtrI _ _ _ w).trans (by rw [decide_eq_true (by omega)])),
          ob_move (fun _ => rfl) rfl rfl (fun _ => by kernel_rfl),
          ob_move (fun _ => by kernel_rfl) rfl rfl (fun _ => by kernel_rfl),
          ob_move (fun _ => by kernel_rfl) rfl rfl (fun _ => by kernel_rfl),
          ob_bin (u := .int .i64 ((j + 1 : Nat) : Int)) (v := .int .i64 1) (fun _ => by kernel_rfl) rfl rfl (fun _ => by kernel_rfl) (fun _ => by kernel_rfl) (fun w => guardI _ _ _ _ _ _ _ _ w) (fun w => sub1 _ j (by omega) w),
          ob_call (vs := #[.slice p n c, .int .i64 (j : Int)]) (by kernel_rfl) (by kernel_rfl) (fun _ => by kernel_rfl) rfl rfl (fun _ => by kernel_rfl) (fun w hb _ => bitAtN p n c g E j w (by omega) (by omega) (AtK.below he hb) rg hE hb1),
          ob_eq (u := .int .u64 1) (v := .int .u64 0) (fun _ => by kernel_rfl) rfl rfl (fun _ => by kernel_rfl) (fun _ => by kernel_rfl) (fun w => guardI _ _ _ _ _ _ _ _ w) (fun w => (eqlI _ _ _ _ w).trans rfl),
          ob_pickT (fun _ => rfl) rfl rfl (fun _ => by kernel_rfl) (fun _ => by kernel_rfl),
          trivial⟩ (fun L15 w16 hp16 => ?_)
        refine k23 _ _ ?_
        refine wp_cond_false (by kernel_rfl) ?_
        refine skips ?_
        refine k22 _ _ ?_
        refine wp_seq_k (fun K24 k24 => ?_)
        refine wp_label ?_
        exact k24 _ _ (hr _ _ _ ⟨(j + 1), b5, y, u3, u7, u8, u9, u10, u11, .int .i64 ((j + 1 : Nat) : Int), .bool true, .bool true, .slice p n c, .int .i64 ((j + 1 : Nat) : Int), .int .i64 (j : Int), .int .u64 1, .bool false, .bool false, u21, u22, u23, u24, u25, u26, u27, u28, u29, u30, u31, u32, u33, u34, u35, u36, u37, rfl, trivial, hL, hy, hp16⟩)
  · skip
    intro hr
    refine wp_seq_k (fun K25 k25 => ?_)
    refine goes (ks := [.det (FV 1), .det (PV ⟨1, 0⟩), .alloc (PC 0), .store (.new 2) 0 (PC ⟨1, 0⟩) (PC ⟨1, 0⟩)]) (T := [0, 1, 0, 7]) (nt := 38) (nh := 2) (H := [((L0.b 0), PC x), ((L0.b 1), PC 0)]) (A := fun L => [PV x, .slice p n c, .pointer (some ⟨(L0.b 0), 0, none⟩), undef, .pointer (some ⟨(L0.b 1), 0, none⟩), .pointer (some ⟨L.b 2, 0, none⟩), undef, FV 1, PV ⟨1, 0⟩, undef, undef, undef, undef, undef, undef, undef, undef, undef, undef, undef, undef, undef, undef, undef, undef, undef, undef, undef, undef, undef, undef, undef, undef, undef, undef, undef, undef, undef]) (H' := fun L => [((L0.b 0), PC x), ((L0.b 1), PC 0), (L.b 2, PC ⟨1, 0⟩)]) (by kernel_rfl) rfl rfl rfl (fun L => by kernel_rfl) (fun L => by kernel_rfl) hp1 ⟨
      ob_call (vs := #[.int .u64 1]) (by kernel_rfl) (by kernel_rfl) (fun _ => rfl) rfl rfl (fun _ => by kernel_rfl) (fun w hb _ => K.of1 w (K.stay hg hb)),
      ob_build (qs := #[(0, FV 1)]) (fun _ => rfl) rfl rfl (fun _ => by kernel_rfl) (buildPa _),
      ob_alloc (v := PV 0) (fun _ => rfl) rfl rfl zeroP rfl,
      ob_store (old := PC 0) (fun _ => rfl) rfl rfl (fun _ => by kernel_rfl) (fun _ => by kernel_rfl) rfl (sizePC _) (PC_one _) (le_len (PC_len _) (PC_len _) (by decide)) (splice_all ((PC_len _).trans (PC_len _).symm)).symm,
      trivial⟩ (fun L16 w17 hp17 => ?_)
    refine k25 _ _ ?_
    refine wp_seq_k (fun K26 k26 => ?_)
    refine goes (ks := [.det (.slice p n c), .det (.int .i64 n), .det (.int .i64 ((64 * n : Nat) : Int)), .det (.int .i64 ((64 * n : Nat) : Int))]) (T := [0, 1, 3, 7]) (nt := 38) (nh := 3) (H := [((L0.b 0), PC x), ((L0.b 1), PC 0), ((L16.b 2), PC ⟨1, 0⟩)]) (A := fun L => [PV x, .slice p n c, .pointer (some ⟨(L0.b 0), 0, none⟩), undef, .pointer (some ⟨(L0.b 1), 0, none⟩), .pointer (some ⟨(L16.b 2), 0, none⟩), .int .i64 ((64 * n : Nat) : Int), FV 1, PV ⟨1, 0⟩, .slice p n c, .int .i64 n, .int .i64 ((64 * n : Nat) : Int), undef, undef, undef, undef, undef, undef, undef, undef, undef, undef, undef, undef, undef, undef, undef, undef, undef, undef, undef, undef, undef, undef, undef, undef, undef, undef]) (H' := fun L => [((L0.b 0), PC x), ((L0.b 1), PC 0), ((L16.b 2), PC ⟨1, 0⟩)]) (by kernel_rfl) rfl rfl rfl (fun L => by kernel_rfl) (fun L => by kernel_rfl) hp17 ⟨
      ob_move (fun _ => rfl) rfl rfl (fun _ => by kernel_rfl),
      ob_len (p := p) (n := n) (c := c) (fun _ => rfl) rfl rfl (fun _ => by kernel_rfl) Tryd.underlying35,
      ob_bin (u := .int .i64 64) (v := .int .i64 n) (fun _ => rfl) rfl rfl (fun _ => by kernel_rfl) (fun _ => by kernel_rfl) (fun w => guardI _ _ _ _ _ _ _ _ w) (fun w => mul64 _ n (by omega) w),
      ob_assign (fun _ => rfl) rfl rfl (fun _ => by kernel_rfl),
      trivial⟩ (fun L17 w18 hp18 => ?_)
    refine k26 _ _ ?_
    refine wp_seq_k (fun K27 k27 => ?_)
    refine wp_label ?_
    exact k27 _ _ (hr _ _ ⟨64 * n, (L16.b 2), ⟨1, 0⟩, undef, FV 1, PV ⟨1, 0⟩, .slice p n c, .int .i64 n, .int .i64 ((64 * n : Nat) : Int), undef, undef, undef, undef, undef, undef, undef, undef, undef, undef, undef, undef, undef, undef, undef, undef, undef, undef, undef, undef, undef, undef, undef, undef, undef, undef, rfl, nat_top rg hE, Nat.le_refl _, by rw [nat_top rg hE]; rfl, hp18⟩)
end Go.Proofs.YtgoghcmnnhglhaaDoor.fpn
