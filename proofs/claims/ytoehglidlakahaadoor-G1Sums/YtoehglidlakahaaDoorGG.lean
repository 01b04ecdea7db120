/- IB IG. -/
import Derived.Test.YtoehglidlakahaaDoorGE
import Derived.Test.YtoehglidlakahaaDoorGC
import Derived.Test.YtoehglidlakahaaDoorGD
/- The reference's pairs. -/
namespace Go.Proofs.YtoehglidlakahaaDoor.fpn
open Go.RowKit Pl
set_option linter.unusedVariables false
set_option linter.unusedSimpArgs false
set_option maxRecDepth 4000

set_option maxHeartbeats 4000000 in
theorem ref5Add2 (R : RefK) (x y : F2) (w : World) : Calls Tryd.prog 66 #[PV x, PV y] w (Ret (PV (x + y)) w) := by
  have hp0 := Heap.start w
  go_enter Tryd.func66, Tryd.ntmps66
  refine wp_seq_k (fun K1 k1 => ?_)
  refine gs [.alloc (PC x), .alloc (PC y), .alloc (PC 0)] [0, 1, 2] [0, 0, 0] (fun L => [PV x, PV y, pt (L.b 0) 0, pt (L.b 1) 0, pt (L.b 2) 0] ++ U 11) (fun L => [(L.b 0, PC x), (L.b 1, PC y), (L.b 2, PC 0)]) hp0 ⟨
    oB, oB, oZ rP,
    trivial⟩ (fun L0 w1 hp1 => ?_)
  refine k1 _ _ ?_
  refine wp_seq_k (fun K2 k2 => ?_)
  refine dr [.det (pt (L0.b 0) 0), .det (FV x.c0), .det (pt (L0.b 1) 0), .det (FV y.c0), .det (FV (x.c0 + y.c0)), .det (pt (L0.b 0) 6), .det (FV x.c1), .det (pt (L0.b 1) 6), .det (FV y.c1), .det (FV (x.c1 + y.c1)), .det (PV ⟨(x.c0 + y.c0), (x.c1 + y.c1)⟩), .store (.base 2) 0 (PC ⟨(x.c0 + y.c0), (x.c1 + y.c1)⟩) (PC ⟨(x.c0 + y.c0), (x.c1 + y.c1)⟩)] [0, 1, 2, 3, 4, 5, 6, 7, 8, 9, 10, 11] [0, 1, 0, 4, 15, 0, 32, 0, 128, 511, 1023, 2047] (fun L => [PV x, PV y, pt (L0.b 0) 0, pt (L0.b 1) 0, pt (L0.b 2) 0, pt (L0.b 0) 0, FV x.c0, pt (L0.b 1) 0, FV y.c0, FV (x.c0 + y.c0), pt (L0.b 0) 6, FV x.c1, pt (L0.b 1) 6, FV y.c1, FV (x.c1 + y.c1), PV ⟨(x.c0 + y.c0), (x.c1 + y.c1)⟩]) (fun L => [((L0.b 0), PC x), ((L0.b 1), PC y), ((L0.b 2), PC ⟨(x.c0 + y.c0), (x.c1 + y.c1)⟩)]) hp1 ⟨
    oI aP, oL 0 0 rF, oI aP, oL 1 0 rF, oR (fun w => R.add x.c0 y.c0 w trivial), oI aP, oL 0 6 rF, oI aP, oL 1 6 rF, oR (fun w => R.add x.c1 y.c1 w trivial), oD (buildP (x.c0 + y.c0) (x.c1 + y.c1)),
    oT rP,
    trivial⟩ (fun L1 w2 hp2 => ?_)
  refine k2 _ _ ?_
  refine wp_ret ?_
  refine bodyPost_ret (v := PV ⟨(x.c0 + y.c0), (x.c1 + y.c1)⟩) ?_ rfl ?_
  · exact rc rP rfl (by kernel_rfl) (hp2.bound 2 rfl).2
  · exact ⟨rfl, hp2.bel⟩
set_option maxHeartbeats 4000000 in
theorem ref5Sub2 (R : RefK) (x y : F2) (w : World) : Calls Tryd.prog 65 #[PV x, PV y] w (Ret (PV (x - y)) w) := by
  have hp0 := Heap.start w
  go_enter Tryd.func65, Tryd.ntmps65
  refine wp_seq_k (fun K1 k1 => ?_)
  refine gs [.alloc (PC x), .alloc (PC y), .alloc (PC 0)] [0, 1, 2] [0, 0, 0] (fun L => [PV x, PV y, pt (L.b 0) 0, pt (L.b 1) 0, pt (L.b 2) 0] ++ U 11) (fun L => [(L.b 0, PC x), (L.b 1, PC y), (L.b 2, PC 0)]) hp0 ⟨
    oB, oB, oZ rP,
    trivial⟩ (fun L0 w1 hp1 => ?_)
  refine k1 _ _ ?_
  refine wp_seq_k (fun K2 k2 => ?_)
  refine dr [.det (pt (L0.b 0) 0), .det (FV x.c0), .det (pt (L0.b 1) 0), .det (FV y.c0), .det (FV (x.c0 - y.c0)), .det (pt (L0.b 0) 6), .det (FV x.c1), .det (pt (L0.b 1) 6), .det (FV y.c1), .det (FV (x.c1 - y.c1)), .det (PV ⟨(x.c0 - y.c0), (x.c1 - y.c1)⟩), .store (.base 2) 0 (PC ⟨(x.c0 - y.c0), (x.c1 - y.c1)⟩) (PC ⟨(x.c0 - y.c0), (x.c1 - y.c1)⟩)] [0, 1, 2, 3, 4, 5, 6, 7, 8, 9, 10, 11] [0, 1, 0, 4, 15, 0, 32, 0, 128, 511, 1023, 2047] (fun L => [PV x, PV y, pt (L0.b 0) 0, pt (L0.b 1) 0, pt (L0.b 2) 0, pt (L0.b 0) 0, FV x.c0, pt (L0.b 1) 0, FV y.c0, FV (x.c0 - y.c0), pt (L0.b 0) 6, FV x.c1, pt (L0.b 1) 6, FV y.c1, FV (x.c1 - y.c1), PV ⟨(x.c0 - y.c0), (x.c1 - y.c1)⟩]) (fun L => [((L0.b 0), PC x), ((L0.b 1), PC y), ((L0.b 2), PC ⟨(x.c0 - y.c0), (x.c1 - y.c1)⟩)]) hp1 ⟨
    oI aP, oL 0 0 rF, oI aP, oL 1 0 rF, oR (fun w => R.sub x.c0 y.c0 w trivial), oI aP, oL 0 6 rF, oI aP, oL 1 6 rF, oR (fun w => R.sub x.c1 y.c1 w trivial), oD (buildP (x.c0 - y.c0) (x.c1 - y.c1)),
    oT rP,
    trivial⟩ (fun L1 w2 hp2 => ?_)
  refine k2 _ _ ?_
  refine wp_ret ?_
  refine bodyPost_ret (v := PV ⟨(x.c0 - y.c0), (x.c1 - y.c1)⟩) ?_ rfl ?_
  · exact rc rP rfl (by kernel_rfl) (hp2.bound 2 rfl).2
  · exact ⟨rfl, hp2.bel⟩
set_option maxHeartbeats 4000000 in
theorem ref5one2 (R : RefK)  (w : World) : Calls Tryd.prog 69 #[] w (Ret (PV 1) w) := by
  have hp0 := Heap.start w
  go_enter Tryd.func69, Tryd.ntmps69
  refine wp_seq_k (fun K1 k1 => ?_)
  refine gs [.alloc (PC 0)] [0] [0] (fun L => [pt (L.b 0) 0, undef, undef]) (fun L => [(L.b 0, PC 0)]) hp0 ⟨
    oZ rP,
    trivial⟩ (fun L0 w1 hp1 => ?_)
  refine k1 _ _ ?_
  refine wp_seq_k (fun K2 k2 => ?_)
  refine gs [.det (FV 1), .det (PV ⟨1, 0⟩), .store (.base 0) 0 (PC ⟨1, 0⟩) (PC ⟨1, 0⟩)] [0, 1, 2] [0, 1, 3] (fun L => [pt (L0.b 0) 0, FV 1, PV ⟨1, 0⟩]) (fun L => [((L0.b 0), PC ⟨1, 0⟩)]) hp1 ⟨
    oR R.of1, oD (buildPa 1), oT rP,
    trivial⟩ (fun L1 w2 hp2 => ?_)
  refine k2 _ _ ?_
  refine wp_ret ?_
  refine bodyPost_ret (v := PV ⟨1, 0⟩) ?_ rfl ?_
  · exact rc rP rfl (by kernel_rfl) (hp2.bound 0 rfl).2
  · exact ⟨(by rw [one_mk]), hp2.bel⟩
end Go.Proofs.YtoehglidlakahaaDoor.fpn

/- Whole numbers in a plan; a slice's length; the bit of an exponent. -/
namespace Go.Proofs.YtoehglidlakahaaDoor.Pl
open Go Go.RowKit
set_option linter.unusedVariables false
set_option linter.unusedSimpArgs false
section
variable {P : Program} {ops : Array Oper} {ks : List Kind} {T : List Nat} {a0 : Act} {B : Nat} {w0 : World} {H : List (Nat × List Value)} {i : Nat} {o : Oper}
/-- A slice's length. -/
theorem ob_len {x : Operand} {t e : TypeId} {p : Option Addr} {n c : Nat} (hw : ∀ L, wantedR ks L o = true) (hk : kd ks i = .det (.int .i64 n)) (ho : o.op = .call { callee := .builtin .len, args := #[x], argTypes := #[t] })
    (hx : ∀ L, rd ops ks T a0 L i x = .slice p n c) (hu : P.underlying t = some (.slice e)) : Ob P ops ks T a0 B w0 H i o :=
  ob_pure hw hk fun L w => by
    unfold execOp
    simp [ho, resolve, hx L, invoke, builtin, Builtin.len_, Sem.run_bind, run_underlying hu w, goInt]
theorem sub1 (t : TypeId) (j : Nat) (h : j < 1000000) (w : World) : (binOp .sub t (.int .i64 ((j + 1 : Nat) : Int)) (.int .i64 1)).run P w = .ok (.int .i64 (j : Int)) w := by
  have e : IntKind.i64.wrap ((((j + 1 : Nat) : Int)) - 1) = (j : Int) := by unfold IntKind.wrap; simp [IntKind.bits, IntKind.signed]; omega
  simp only [binOp, Op.intArith, e]; simp [Sem.run_bind, e]
theorem sub3 (t : TypeId) (j : Nat) (h : j < 1000000) (w : World) : (binOp .sub t (.int .i64 (j : Int)) (.int .i64 1)).run P w = .ok (.int .i64 ((j : Int) - 1)) w := by
  have e : IntKind.i64.wrap ((j : Int) - 1) = (j : Int) - 1 := by unfold IntKind.wrap; simp [IntKind.bits, IntKind.signed]; omega
  simp only [binOp, Op.intArith, e]; simp [Sem.run_bind, e]
theorem mul64 (t : TypeId) (n : Nat) (h : n ≤ 1000) (w : World) : (binOp .mul t (.int .i64 64) (.int .i64 (n : Int))).run P w = .ok (.int .i64 ((64 * n : Nat) : Int)) w := by
  have e : IntKind.i64.wrap (64 * (n : Int)) = ((64 * n : Nat) : Int) := by unfold IntKind.wrap; simp [IntKind.bits, IntKind.signed]; omega
  simp only [binOp, Op.intArith, e]; simp [Sem.run_bind, e]
theorem gtrI (t : TypeId) (a b : Int) (w : World) : (binOp .gtr t (.int .i64 a) (.int .i64 b)).run P w = .ok (.bool (decide (a > b))) w := by
  simp [binOp, Sem.run_bind, Op.intCmp]
theorem geqI (t : TypeId) (a b : Int) (w : World) : (binOp .geq t (.int .i64 a) (.int .i64 b)).run P w = .ok (.bool (decide (a ≥ b))) w := by
  simp [binOp, Sem.run_bind, Op.intCmp]
end
end Go.Proofs.YtoehglidlakahaaDoor.Pl
namespace Go.Proofs.YtoehglidlakahaaDoor.fpn
open Go.RowKit
set_option linter.unusedVariables false

theorem bitR (p : Option Addr) (n c : Nat) (g : Nat → Int) (j : Nat) (w : World) (hj : j < 64 * n) (hn : n ≤ 1000) (h : At w p n g) (rg : Rg g n) :
    Calls Tryd.prog 71 #[.slice p n c, .int .i64 j] w fun e w' => e = .returned (.bool (decide (g (j / 64) / 2 ^ (j % 64) % 2 = 1))) ∧ w' = w := by
  obtain ⟨b, off, rfl, hcell⟩ := h (by omega)
  have hm1 := hcell (j / 64) (by omega)
  have r := rg (j / 64) (by omega)
  have hbit : bits BinOp.and IntKind.u64 (g (j / 64) / 2 ^ (j % 64)) 1 = g (j / 64) / 2 ^ (j % 64) % 2 := and_one _ (Int.ediv_nonneg r.1 (Int.le_of_lt (Int.pow_pos (by decide)))) (by
    have := Int.ediv_le_self (2 ^ (j % 64)) r.1
    rw [B64_eq] at r
    omega)
  have HB : Hid _ := hbit
  have i1 : (j : Int) / 64 < (n : Int) := by omega
  clear hcell h hbit r rg
  go_enter Tryd.func71, Tryd.ntmps71
  go_wp2
  go_ret
  refine ⟨?_, rfl⟩
  have hh := HB.out
  rw [hh]
  simp only [Ending.returned.injEq]
  first | rfl | exact Bool.beq_eq_decide_eq _ _

theorem bitRN (p : Option Addr) (n c : Nat) (g : Nat → Int) (E j : Nat) (w : World) (hj : j < 64 * n) (hn : n ≤ 1000) (h : At w p n g) (rg : Rg g n) (hE : val g n = (E : Int)) {r : Bool} (hr : decide (E / 2 ^ j % 2 = 1) = r) :
    Calls Tryd.prog 71 #[.slice p n c, .int .i64 j] w (Ret (.bool r) w) :=
  Calls.mono (bitR p n c g j w hj hn h rg) fun e w' ⟨h1, h2⟩ => ⟨by
    rw [h1, nat_bit rg hE hj, ← hr]
    congr 3
    rcases (show E / 2 ^ j % 2 = 0 ∨ E / 2 ^ j % 2 = 1 by omega) with h | h <;> simp [h], by rw [h2]; exact Below.refl _ _⟩
end Go.Proofs.YtoehglidlakahaaDoor.fpn
