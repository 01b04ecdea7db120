/- Law 12: known digests, as texts. -/
import Derived.Test.YtklddcicfeakfaaDO
namespace Go.Proofs.Ytklddcicfeakfaa.fpn
open Go.RowKit Pl
set_option linter.unusedVariables false
set_option linter.unusedSimpArgs false
set_option maxRecDepth 4000

theorem tail2 {P : Program} {ops : Array Oper} {Q : Exit → Act → World → Prop} {k : Nat} {a : Act} {w : World} (hr : List.range' k (ops.size - k) = [k, k + 1]) (h : wpOp P ops Q k (fun a' w' => wpOp P ops Q (k + 1) (fun a'' w'' => Q .normal a'' w'') a' w') a w) : wpOps P ops Q (List.range' k (ops.size - k)) a w := by
  rw [hr, wpOps_cons]
  refine (congrFun (congrFun (congrArg _ (funext fun a' => funext fun w' => ?_)) a) w).mpr h
  rw [wpOps_cons]
  rfl
/-- A digit. -/
def dgt (k : Nat) : Int := if k < 10 then ((48 + k : Nat) : Int) else ((87 + k : Nat) : Int)
def hb (h : Nat → BitVec 32) (i : Nat) : Nat := (h (i / 4) >>> (24 - 8 * (i % 4))).toNat % 256
theorem hb_lt (h : Nat → BitVec 32) (i : Nat) : hb h i < 256 := Nat.mod_lt _ (by decide)
theorem ob_hb (h : Nat → BitVec 32) (i : Nat) : ob h i = ((hb h i : Nat) : Int) := by unfold ob hb; norm_cast
theorem obCell {w x : World} {k m : Nat} {h : Nat → BitVec 32} (hx : Box w k (BC (ob h) 32)) (hb2 : Below w.heap.size w x) (hm : m < 32) : x.cell? ⟨k, 0 + m * 1, none⟩ = some (.int .u8 ((hb h m : Nat) : Int)) := by
  have := (hx.up hb2).cells m _ (BC_at hm)
  rw [ob_hb] at this
  rw [Nat.mul_one]
  exact this
@[irreducible] def hxf (h : Nat → BitVec 32) : Nat → Int := fun j => dgt (if j % 2 = 0 then hb h (j / 2) / 16 else hb h (j / 2) % 16)
theorem hxf_0 (h : Nat → BitVec 32) (m : Nat) : hxf h (2 * m) = dgt (hb h m / 16) := by
  unfold hxf; rw [if_pos (by omega), show 2 * m / 2 = m by omega]
theorem hxf_1 (h : Nat → BitVec 32) (m : Nat) : hxf h (2 * m + 1) = dgt (hb h m % 16) := by
  unfold hxf; rw [if_neg (by omega), show (2 * m + 1) / 2 = m by omega]
theorem quo16 (t : TypeId) (a : Nat) (h : a < 256) (w : World) : (binOp .quo t (.int .u8 (a : Int)) (.int .u8 16)).run Try.prog w = .ok (.int .u8 ((a / 16 : Nat) : Int)) w := by
  have e0 : (a : Int).tdiv 16 = ((a / 16 : Nat) : Int) := by rw [Int.tdiv_eq_ediv_of_nonneg (by omega)]; rfl
  have e : IntKind.u8.wrap ((a / 16 : Nat) : Int) = ((a / 16 : Nat) : Int) := by unfold IntKind.wrap; simp [IntKind.bits, IntKind.signed]; omega
  simp only [binOp, Op.intDiv, e0]; simp [Sem.run_bind]; exact_mod_cast e
theorem rem16 (t : TypeId) (a : Nat) (h : a < 256) (w : World) : (binOp .rem t (.int .u8 (a : Int)) (.int .u8 16)).run Try.prog w = .ok (.int .u8 ((a % 16 : Nat) : Int)) w := by
  have e0 : (a : Int).tmod 16 = ((a % 16 : Nat) : Int) := by rw [Int.tmod_eq_emod_of_nonneg (by omega)]; rfl
  have e : IntKind.u8.wrap ((a % 16 : Nat) : Int) = ((a % 16 : Nat) : Int) := by unfold IntKind.wrap; simp [IntKind.bits, IntKind.signed]; omega
  simp only [binOp, Op.intDiv, e0]; simp [Sem.run_bind, e]
theorem idxH (k : Nat) (hk : k < 16) (w : World) : (Instr.index 9 (.string ⟨#[48, 49, 50, 51, 52, 53, 54, 55, 56, 57, 97, 98, 99, 100, 101, 102]⟩) (.int .u8 (k : Int))).run Try.prog w = .ok (.int .u8 (dgt k)) w := by
  rcases (show k = 0 ∨ k = 1 ∨ k = 2 ∨ k = 3 ∨ k = 4 ∨ k = 5 ∨ k = 6 ∨ k = 7 ∨ k = 8 ∨ k = 9 ∨ k = 10 ∨ k = 11 ∨ k = 12 ∨ k = 13 ∨ k = 14 ∨ k = 15 by omega) with rfl | rfl | rfl | rfl | rfl | rfl | rfl | rfl | rfl | rfl | rfl | rfl | rfl | rfl | rfl | rfl <;> kernel_rfl
/-- A new slice of two bytes. -/
def isY2 (a b : Int) (v : Value) (w : World) : Prop := ∃ k : Nat, v = .slice (some ⟨k, 0, none⟩) 2 2 ∧ Box w k [.int .u8 a, .int .u8 b]
section
variable {ops : Array Oper} {ks : List Kind} {T : List Nat} {a0 : Act} {B : Nat} {w0 W0 : World} {H : List (Nat × List Value)} {i : Nat} {o : Oper}
theorem oIX {x ix : Operand} (k : Nat) (h16 : k < 16) (hw : ∀ L, wantedR ks L o = true := by intro _; kernel_rfl) (ho : o.op = .index 9 x ix := by exact rfl)
    (hx : ∀ L, rd ops ks T a0 L i x = .string ⟨#[48, 49, 50, 51, 52, 53, 54, 55, 56, 57, 97, 98, 99, 100, 101, 102]⟩ := by intro _; kernel_rfl) (hi : ∀ L, rd ops ks T a0 L i ix = .int .u8 (k : Int) := by intro _; kernel_rfl) (hk : kd ks i = .det (.int .u8 (dgt k))) : Obl Try.prog ops ks T a0 B w0 H i o := ⟨ob_pure hw hk fun L w => by
    unfold execOp
    simp only [ho, hx L, hi L, Sem.run_bind, idxH k h16 w]
    rfl⟩
theorem oY2 {x y : Operand} {a b : Int} (hw : ∀ L, wantedR ks L o = true := by intro _; kernel_rfl) (ho : o.op = .buildSlice 22 2 #[(0, x), (1, y)] := by exact rfl)
    (hx : ∀ L, rd ops ks T a0 L i x = .int .u8 a := by intro _; kernel_rfl) (hy : ∀ L, rd ops ks T a0 L i y = .int .u8 b := by intro _; kernel_rfl) (hk : kd ks i = .any (isY2 a b)) : Obl Try.prog ops ks T a0 B w0 H i o := ⟨fun L w hsn => by
  rw [if_pos (hw L), hk]
  refine ⟨fun v w x h hb => ?_, ?_⟩
  · obtain ⟨k, e, h⟩ := h
    exact ⟨k, e, h.up hb⟩
  obtain ⟨ie, hi, hz, h1, h2⟩ := infoY
  have hr : (Instr.buildSlice 22 2 #[(0, .int .u8 a), (1, .int .u8 b)]).run Try.prog w = .ok (.slice (some ⟨w.heap.size, 0, none⟩) 2 2) (w.alloc (.cells #[.int .u8 a, .int .u8 b] 5)) :=
    run_buildSlice w _ _ 2 _ _ ie _ Try.underlying22 hi hz (by rw [h1]; decide) (by rw [h1]; decide) (by rw [h1]; kernel_rfl)
  have this : (execOp (rd ops ks T a0 L i) o).run Try.prog w = .ok (.value (.slice (some ⟨w.heap.size, 0, none⟩) 2 2)) (w.alloc (.cells #[.int .u8 a, .int .u8 b] 5)) := by
    unfold execOp
    have h1 : (#[((0 : Nat), x), (1, y)].map fun p => (p.1, rd ops ks T a0 L i p.2)) = #[(0, .int .u8 a), (1, .int .u8 b)] := by simp [hx L, hy L]
    simp only [ho, h1, Sem.run_bind, hr]
    rfl
  rw [this]
  exact ⟨⟨w.heap.size, rfl, Box.new w [.int .u8 a, .int .u8 b] 5⟩, (Below.refl _ _).alloc (Nat.le_refl _) _⟩⟩
end
/-- Two bytes more. -/
theorem wp_appendY2 {Q : Exit → Act → World → Prop} {o : Oper} {a : Act} {w : World} {K : Act → World → Prop} (s x : Operand) (ho : o.op = .call { callee := .builtin .append, args := #[s, x], argTypes := #[22, 22] })
    {B : Nat} {v u : Value} {f : Nat → Int} {m : Nat} {y z : Int} (hs : a.eval s = v) (hown : OwnY w B v f m) (hx : a.eval x = u) (hu : isY2 y z u w) (hy : f m = y) (hz : f (m + 1) = z) (hl : m + 2 ≤ 1000) (hB : B ≤ w.heap.size)
    (h : ∀ v' w', OwnY w' B v' f (m + 2) → Below B w w' → K (a.put o.dst v') w') : o.wp Try.prog a w K Q := by
  obtain ⟨k, rfl, hc⟩ := hu
  refine wp_appendY (ad := ⟨k, 0, none⟩) (n := 2) (c := 2) (g := fun j => if j = 0 then y else z) s x ho hs hown hx (fun j hj => ?_) hl hB (fun v' w' ho' hb => h v' w' (ho'.congr fun j hj => ?_) hb)
  · rw [Addr.add_mid]
    rcases (show j = 0 ∨ j = 1 by omega) with rfl | rfl
    · exact hc.cells 0 _ rfl
    · exact hc.cells 1 _ rfl
  · unfold cat
    cases e : Nat.blt j m
    · have hh : ¬ j < m := fun hh => by rw [show Nat.blt j m = true from by simpa using hh] at e; cases e
      rcases (show j = m ∨ j = m + 1 by omega) with rfl | rfl
      · simp [hy]
      · simp [hz]
    · rfl
theorem atBox {w : World} {k n : Nat} {f : Nat → Int} (h : Box w k (BC f n)) : AtK .u8 w (some ⟨k, 0, none⟩) n f := fun _ => ⟨k, 0, rfl, fun j hj => by
  have := h.cells j _ (BC_at hj)
  exact this⟩
/-- What the rounds keep. -/
def hxI (W2 : World) (h : Nat → BitVec 32) (b0 : Nat) : Nat → Act → World → Prop := fun L a' w' => ∃ (m : Nat) (d : Nat → Value) (v : Value),
  a' = { tmps := ([d 0, .pointer (some ⟨b0, 0, none⟩), d 2, v, .int .i64 ((m : Nat) : Int)] ++ D d 5 19 : List Value).toArray, defers := [] } ∧ m + L = 32 ∧ OwnY w' W2.heap.size v (hxf h) (2 * m) ∧ Below W2.heap.size W2 w'

set_option maxHeartbeats 4000000 in
theorem lawHex (h : Nat → BitVec 32) (w : World) : Calls Try.prog 13 #[VB (ob h) 32] w (Ret (strN (hxf h) (2 * 32)) w) := by
  have hp0 := Heap.start w
  go_enter Try.func13, Try.ntmps13
  refine wp_seq_k (fun K1 k1 => ?_)
  refine gs [.alloc (BC (ob h) 32), .det (.string ⟨#[]⟩)] [0, 1] [0, 0] (fun L => [VB (ob h) 32, L.p 0, .string ⟨#[]⟩] ++ U 21) (fun L => [(L.b 0, BC (ob h) 32)]) hp0 ⟨
    oB, oA,
    trivial⟩ (fun L0 w1 hp1 => ?_)
  refine k1 _ _ ?_
  refine wp_seq_k (fun K2 k2 => ?_)
  refine gs [.det (.slice none 0 0)] [0] [0] (fun L => [VB (ob h) 32, L0.p 0, .string ⟨#[]⟩, .slice none 0 0] ++ U 20) (fun L => [(L0.b 0, BC (ob h) 32)]) hp1 ⟨
    oA,
    trivial⟩ (fun L1 w2 hp2 => ?_)
  refine k2 _ _ ?_
  refine wp_seq_k (fun K3 k3 => ?_)
  refine wp_seq_k (fun K4 k4 => ?_)
  refine gs [.det (.int .i64 0)] [0] [0] (fun L => [VB (ob h) 32, L0.p 0, .string ⟨#[]⟩, .slice none 0 0, .int .i64 0] ++ U 19) (fun L => [(L0.b 0, BC (ob h) 32)]) hp2 ⟨
    oA,
    trivial⟩ (fun L2 w3 hp3 => ?_)
  refine k4 _ _ ?_
  refine wp_block_k (fun K5 k5 => ?_)
  have hbox := (hp3.bound 0 rfl).2
  have hC := hp3.le
  have hlt := Heap.lts hp3
  refine wp_loop_ghost (hxI w3 h (L0.b 0)) 32 ⟨0, (fun zz => ([VB (ob h) 32, L0.p 0, .string ⟨#[]⟩, .slice none 0 0, .int .i64 0] ++ U 19 : List Value).getD zz undef), .slice none 0 0, by kernel_rfl, Nat.zero_add _, OwnY.nil, Below.refl _ _⟩ ?_
  rintro L a' W ⟨m, d, v, rfl, hL, hO, hB⟩
  have hs0 := Heap.start W
  by_cases hL0 : L = 0
  rotate_left
  · skip
    have hm : m < 32 := by omega
    have hbl := hb_lt h m
    refine wp_seq_k (fun K6 k6 => ?_)
    refine wp_seq_k (fun K7 k7 => ?_)
    refine gs [.det (.int .i64 ((m : Nat) : Int)), .det (.bool true)] [0, 1] [0, 1] (fun L => [d 0, L0.p 0, d 2, v, .int .i64 ((m : Nat) : Int), .int .i64 ((m : Nat) : Int), .bool true] ++ D d 7 17) (fun L => []) hs0 ⟨
      oM, oJ .i64 .i64 ((m : Nat) : Int) 32 (h := fun w => (lssI _ _ _ w).trans (by rw [decide_eq_true (by omega)])),
      trivial⟩ (fun L3 w4 hp4 => ?_)
    refine k7 _ _ ?_
    refine wp_cond_true (by kernel_rfl) ?_
    refine skips ?_
    refine k6 _ _ ?_
    refine wp_seq_k (fun K8 k8 => ?_)
    refine wp_block_k (fun K9 k9 => ?_)
    refine dT 12 [.det (v), .det (.int .i64 ((m : Nat) : Int)), .det (.pointer (some ⟨(L0.b 0), 0 + m * 1, none⟩)), .det (.int .u8 ((hb h m : Nat) : Int)), .det (.int .u8 ((hb h m / 16 : Nat) : Int)), .det (.int .u8 (dgt (hb h m / 16))), .det (.int .i64 ((m : Nat) : Int)), .det (.pointer (some ⟨(L0.b 0), 0 + m * 1, none⟩)), .det (.int .u8 ((hb h m : Nat) : Int)), .det (.int .u8 ((hb h m % 16 : Nat) : Int)), .det (.int .u8 (dgt (hb h m % 16))), .any (isY2 (dgt (hb h m / 16)) (dgt (hb h m % 16))), .det v, .det v] [0, 1, 2, 3, 4, 5, 6, 7, 8, 9, 10, 11] [0, 0, 2, 6, 14, 30, 0, 64, 192, 448, 960, 2046, 4095, 8191] (fun L => [d 0, L0.p 0, d 2, v, .int .i64 ((m : Nat) : Int), .int .i64 ((m : Nat) : Int), .bool true] ++ (D d 7 2 ++ ([v, .int .i64 ((m : Nat) : Int), .pointer (some ⟨(L0.b 0), 0 + m * 1, none⟩), .int .u8 ((hb h m : Nat) : Int), .int .u8 ((hb h m / 16 : Nat) : Int), .int .u8 (dgt (hb h m / 16)), .int .i64 ((m : Nat) : Int), .pointer (some ⟨(L0.b 0), 0 + m * 1, none⟩), .int .u8 ((hb h m : Nat) : Int), .int .u8 ((hb h m % 16 : Nat) : Int), .int .u8 (dgt (hb h m % 16)), L.v 11] ++ D d 21 3))) hp4 ⟨
      oM, oM, oIA (k := .i64) m aB32 hm, oLC oneY (fun L w hs => obCell hbox (hB.trans (hs.bel.mono hB.size)) hm), oJ .u8 .u8 ((hb h m : Nat) : Int) 16 (h := fun w => quo16 _ (hb h m) hbl w), oIX (hb h m / 16) (by omega), oM, oIA (k := .i64) m aB32 hm, oLC oneY (fun L w hs => obCell hbox (hB.trans (hs.bel.mono hB.size)) hm), oJ .u8 .u8 ((hb h m : Nat) : Int) 16 (h := fun w => rem16 _ (hb h m) hbl w), oIX (hb h m % 16) (by omega), oY2, trivial⟩ (fun L4 w5 hp5 ha5 => ?_)
    have hy := ha5 11 _ (by decide) rfl
    refine tail2 (by kernel_rfl) (wpOp_of rfl rfl (wp_appendY2 (.tmp 9) (.tmp 20) rfl (v := v) (u := L4.v 11) (f := hxf h) (m := 2 * m) (by kernel_rfl) (hO.below hp5.bel) (by kernel_rfl) hy (hxf_0 h m) (hxf_1 h m) (by omega) (hB.trans (hp5.bel.mono hB.size)).size (fun v5 x5 ho5 hb5 => ?_)))
    have hb5b := (hB.trans (hp5.bel.mono hB.size)).trans hb5
    refine wpOp_of rfl rfl (wp_assign rfl (v := v5) (by kernel_rfl) ?_)
    have hs5 := Heap.start x5
    refine k9 _ _ _ ?_
    refine block_normal ?_
    refine k8 _ _ ?_
    refine gs [.det (.int .i64 ((m : Nat) : Int)), .det (.int .i64 ((m + 1 : Nat) : Int)), .det (.int .i64 ((m + 1 : Nat) : Int))] [0, 1, 2] [0, 1, 3] (fun L => [d 0, L0.p 0, d 2, v5, .int .i64 ((m + 1 : Nat) : Int), .int .i64 ((m : Nat) : Int), .bool true, .int .i64 ((m : Nat) : Int), .int .i64 ((m + 1 : Nat) : Int), v, .int .i64 ((m : Nat) : Int), .pointer (some ⟨(L0.b 0), 0 + m * 1, none⟩), .int .u8 ((hb h m : Nat) : Int), .int .u8 ((hb h m / 16 : Nat) : Int), .int .u8 (dgt (hb h m / 16)), .int .i64 ((m : Nat) : Int), .pointer (some ⟨(L0.b 0), 0 + m * 1, none⟩), .int .u8 ((hb h m : Nat) : Int), .int .u8 ((hb h m % 16 : Nat) : Int), .int .u8 (dgt (hb h m % 16)), L4.v 11, v5] ++ D d 22 2) (fun L => []) hs5 ⟨
      oM, oJ .i64 .i64 ((m : Nat) : Int) 1 (h := fun w => add1N _ m (by omega) w), oA,
      trivial⟩ (fun L5 w6 hp6 => ?_)
    exact ⟨L - 1, by omega, m + 1, (fun zz => ([d 0, L0.p 0, d 2, v5, .int .i64 ((m + 1 : Nat) : Int), .int .i64 ((m : Nat) : Int), .bool true, .int .i64 ((m : Nat) : Int), .int .i64 ((m + 1 : Nat) : Int), v, .int .i64 ((m : Nat) : Int), .pointer (some ⟨(L0.b 0), 0 + m * 1, none⟩), .int .u8 ((hb h m : Nat) : Int), .int .u8 ((hb h m / 16 : Nat) : Int), .int .u8 (dgt (hb h m / 16)), .int .i64 ((m : Nat) : Int), .pointer (some ⟨(L0.b 0), 0 + m * 1, none⟩), .int .u8 ((hb h m : Nat) : Int), .int .u8 ((hb h m % 16 : Nat) : Int), .int .u8 (dgt (hb h m % 16)), L4.v 11, v5] ++ D d 22 2 : List Value).getD zz undef), v5, by kernel_rfl, by omega, (ho5.below hp6.bel), (hb5b.trans (hp6.bel.mono hb5b.size))⟩
  obtain rfl : m = 32 := by omega
  obtain ⟨k, cc, rfl, hc1, hc2, hk, hbx⟩ := hO.box (by omega)
  refine wp_seq_k (fun K10 k10 => ?_)
  refine wp_seq_k (fun K11 k11 => ?_)
  refine gs [.det (.int .i64 ((32 : Nat) : Int)), .det (.bool false)] [0, 1] [0, 1] (fun L => [d 0, L0.p 0, d 2, .slice (some ⟨k, 0, none⟩) (2 * 32) cc, .int .i64 ((32 : Nat) : Int), .int .i64 ((32 : Nat) : Int), .bool false] ++ D d 7 17) (fun L => []) hs0 ⟨
    oM, oJ .i64 .i64 ((32 : Nat) : Int) 32 (h := fun w => (lssI _ _ _ w).trans (by rw [decide_eq_false (by omega)])),
    trivial⟩ (fun L6 w7 hp7 => ?_)
  refine k11 _ _ ?_
  refine wp_cond_false (by kernel_rfl) ?_
  refine wp_exit ?_
  refine then_exit ?_
  refine then_exit ?_
  have hpF := Heap.add (Heap.under hp3 hC (hB.trans (hp7.bel.mono hB.size)) hlt) (Nat.le_trans hC hk) (fun b hb => Nat.lt_of_lt_of_le (hlt b hb) hk) (hbx.up hp7.bel)
  refine k5 _ _ _ ?_
  refine exit_in ?_
  refine k3 _ _ ?_
  refine wp_seq_k (fun K12 k12 => ?_)
  refine gs [.det (.slice (some ⟨k, 0, none⟩) (2 * 32) cc), .det (strN (hxf h) (2 * 32)), .det (strN (hxf h) (2 * 32))] [0, 1, 2] [0, 1, 3] (fun L => [d 0, L0.p 0, strN (hxf h) (2 * 32), .slice (some ⟨k, 0, none⟩) (2 * 32) cc, .int .i64 ((32 : Nat) : Int), .int .i64 ((32 : Nat) : Int), .bool false] ++ (D d 7 15 ++ [.slice (some ⟨k, 0, none⟩) (2 * 32) cc, strN (hxf h) (2 * 32)])) (fun L => [(L0.b 0, BC (ob h) 32), (k, BC (hxf h) (2 * 32))]) hpF ⟨
    oM, oCsA (c := cc) (fun L w hs => atBox (seen_at hs (k := 1) rfl)), oA,
    trivial⟩ (fun L7 w8 hp8 => ?_)
  refine k12 _ _ ?_
  refine wp_ret ?_
  refine bodyPost_ret (v := strN (hxf h) (2 * 32)) ?_ rfl ?_
  · exact res_t rfl (by kernel_rfl) _
  · exact ⟨rfl, hp8.bel⟩
end Go.Proofs.Ytklddcicfeakfaa.fpn
