/- Law 12: digests told by their blocks. -/
import Derived.Test.YtklddcicfeakfaaDN
namespace Go.Proofs.Ytklddcicfeakfaa.fpn
open Go.RowKit Pl
set_option linter.unusedVariables false
set_option linter.unusedSimpArgs false
set_option maxRecDepth 4000

/-- A length's last eight bytes. -/
def t8 (n q : Nat) : Int := if q = 6 then ((n * 8 / 256 % 256 : Nat) : Int) else if q = 7 then ((n * 8 % 256 : Nat) : Int) else 0
theorem pd_t8 (g : Nat → Int) {n q : Nat} (hn : n ≤ 400) (h : q < 8) : pd g n (padN n - 8 + q) = t8 n q := by
  rw [pd_l g h]
  unfold t8
  rcases (show q = 0 ∨ q = 1 ∨ q = 2 ∨ q = 3 ∨ q = 4 ∨ q = 5 ∨ q = 6 ∨ q = 7 by omega) with rfl | rfl | rfl | rfl | rfl | rfl | rfl | rfl <;> simp <;> omega
theorem cat_t8 (g : Nat → Int) {n l j : Nat} (hn : n ≤ 400) (hl : l = padN n - 8) (hj : j < l + 8) : cat (pd g n) l (t8 n) j = pd g n j := by
  unfold cat
  cases e : Nat.blt j l with
  | true => rfl
  | false =>
    have hh : ¬ j < l := fun hh => by rw [show Nat.blt j l = true from by simpa using hh] at e; cases e
    have := pd_t8 g hn (show j - l < 8 by omega)
    rw [← hl, show l + (j - l) = j by omega] at this
    exact this.symm
/-- A new slice of eight bytes. -/
def isY8 (a b : Int) (v : Value) (w : World) : Prop := ∃ k : Nat, v = .slice (some ⟨k, 0, none⟩) 8 8 ∧ Box w k [.int .u8 0, .int .u8 0, .int .u8 0, .int .u8 0, .int .u8 0, .int .u8 0, .int .u8 a, .int .u8 b]
section
variable {ops : Array Oper} {ks : List Kind} {T : List Nat} {a0 : Act} {B : Nat} {w0 W0 : World} {H : List (Nat × List Value)} {i : Nat} {o : Oper}
theorem oY8 {x y : Operand} {a b : Int} (hw : ∀ L, wantedR ks L o = true := by intro _; kernel_rfl)
    (ho : o.op = .buildSlice 22 8 #[(0, .const (.int .u8 0)), (1, .const (.int .u8 0)), (2, .const (.int .u8 0)), (3, .const (.int .u8 0)), (4, .const (.int .u8 0)), (5, .const (.int .u8 0)), (6, x), (7, y)] := by exact rfl)
    (hx : ∀ L, rd ops ks T a0 L i x = .int .u8 a := by intro _; kernel_rfl) (hy : ∀ L, rd ops ks T a0 L i y = .int .u8 b := by intro _; kernel_rfl) (hc : ∀ L, rd ops ks T a0 L i (.const (.int .u8 0)) = .int .u8 0 := by intro _; kernel_rfl) (hk : kd ks i = .any (isY8 a b)) : Obl Try.prog ops ks T a0 B w0 H i o := ⟨fun L w hsn => by
  rw [if_pos (hw L), hk]
  refine ⟨fun v w x h hb => ?_, ?_⟩
  · obtain ⟨k, e, h⟩ := h
    exact ⟨k, e, h.up hb⟩
  obtain ⟨ie, hi, hz, h1, h2⟩ := infoY
  have hr : (Instr.buildSlice 22 8 #[(0, .int .u8 0), (1, .int .u8 0), (2, .int .u8 0), (3, .int .u8 0), (4, .int .u8 0), (5, .int .u8 0), (6, .int .u8 a), (7, .int .u8 b)]).run Try.prog w = .ok (.slice (some ⟨w.heap.size, 0, none⟩) 8 8) (w.alloc (.cells #[.int .u8 0, .int .u8 0, .int .u8 0, .int .u8 0, .int .u8 0, .int .u8 0, .int .u8 a, .int .u8 b] 5)) :=
    run_buildSlice w _ _ 8 _ _ ie _ Try.underlying22 hi hz (by rw [h1]; decide) (by rw [h1]; decide) (by rw [h1]; kernel_rfl)
  have this : (execOp (rd ops ks T a0 L i) o).run Try.prog w = .ok (.value (.slice (some ⟨w.heap.size, 0, none⟩) 8 8)) (w.alloc (.cells #[.int .u8 0, .int .u8 0, .int .u8 0, .int .u8 0, .int .u8 0, .int .u8 0, .int .u8 a, .int .u8 b] 5)) := by
    unfold execOp
    have h1 : (#[((0 : Nat), Operand.const (.int .u8 0)), (1, .const (.int .u8 0)), (2, .const (.int .u8 0)), (3, .const (.int .u8 0)), (4, .const (.int .u8 0)), (5, .const (.int .u8 0)), (6, x), (7, y)].map fun p => (p.1, rd ops ks T a0 L i p.2)) = #[(0, .int .u8 0), (1, .int .u8 0), (2, .int .u8 0), (3, .int .u8 0), (4, .int .u8 0), (5, .int .u8 0), (6, .int .u8 a), (7, .int .u8 b)] := by simp [hx L, hy L, hc L]
    simp only [ho, h1, Sem.run_bind, hr]
    rfl
  rw [this]
  exact ⟨⟨w.heap.size, rfl, Box.new w [.int .u8 0, .int .u8 0, .int .u8 0, .int .u8 0, .int .u8 0, .int .u8 0, .int .u8 a, .int .u8 b] 5⟩, (Below.refl _ _).alloc (Nat.le_refl _) _⟩⟩
end
/-- Eight bytes more. -/
theorem wp_appendY8 {Q : Exit → Act → World → Prop} {o : Oper} {a : Act} {w : World} {K : Act → World → Prop} (s x : Operand) (ho : o.op = .call { callee := .builtin .append, args := #[s, x], argTypes := #[22, 22] })
    {B : Nat} {v u : Value} {g : Nat → Int} {n l : Nat} (hs : a.eval s = v) (hown : OwnY w B v (pd g n) l) (hx : a.eval x = u) (hu : isY8 ((n * 8 / 256 % 256 : Nat) : Int) ((n * 8 % 256 : Nat) : Int) u w) (hn : n ≤ 400) (hl : l = padN n - 8) (hB : B ≤ w.heap.size)
    (h : ∀ v' w', OwnY w' B v' (pd g n) (padN n) → Below B w w' → K (a.put o.dst v') w') : o.wp Try.prog a w K Q := by
  obtain ⟨k, rfl, hc⟩ := hu
  have hpg := padN_ge n
  refine wp_appendY (ad := ⟨k, 0, none⟩) (n := 8) (c := 8) (g := t8 n) s x ho hs hown hx (fun j hj => ?_) (by omega) hB (fun v' w' ho' hb => h v' w' (ho'.to (by omega) fun j hj => cat_t8 g hn hl (by omega)) hb)
  rw [Addr.add_mid]
  have := hc.cells j
  rcases (show j = 0 ∨ j = 1 ∨ j = 2 ∨ j = 3 ∨ j = 4 ∨ j = 5 ∨ j = 6 ∨ j = 7 by omega) with rfl | rfl | rfl | rfl | rfl | rfl | rfl | rfl <;> exact this _ rfl
theorem shrI8 (t : TypeId) (a : Nat) (w : World) : (binOp .shr t (.int .i64 (a : Int)) (.int .u64 8)).run Try.prog w = .ok (.int .i64 ((a / 256 : Nat) : Int)) w := by
  have e2 : (a : Int).fdiv 256 = ((a / 256 : Nat) : Int) := (Int.fdiv_eq_ediv_of_nonneg _ (by decide)).trans (by norm_cast)
  simp [binOp, Op.shift, Sem.run_bind, IntKind.bits, e2]
theorem convIB (a : Nat) (w : World) : (convert 3 5 (.int .i64 (a : Int))).run Try.prog w = .ok (.int .u8 ((a % 256 : Nat) : Int)) w := by
  have e : IntKind.u8.wrap (a : Int) = ((a % 256 : Nat) : Int) := by unfold IntKind.wrap; simp [IntKind.bits, IntKind.signed]
  simp [convert, run_underlying Try.underlying5, run_underlying Try.underlying3, Conv.intToInt, e, Sem.run_bind]
/-- What the rounds keep. -/
def paI1 (W2 : World) (g : Nat → Int) (p : Option Addr) (n c : Nat) : Nat → Act → World → Prop := fun L a' w' => ∃ (m : Nat) (d : Nat → Value) (v : Value),
  a' = { tmps := ([.slice p n c] ++ (D d 1 2 ++ ([v] ++ D d 4 71)) : List Value).toArray, defers := [] } ∧ m + L = padN n - 9 - n ∧ OwnY w' W2.heap.size v (pd g n) (n + 1 + m) ∧ Below W2.heap.size W2 w'

/-- What the rounds keep. -/
def paI2 (g : Nat → Int) (p : Option Addr) (n c N c6 : Nat) (w : World) (q0 q1 : Nat) : Nat → Act → World → Prop := fun L a' w' => ∃ (m : Nat) (d : Nat → Value),
  a' = { tmps := ([.slice p n c] ++ (D d 1 2 ++ ([.slice (some ⟨q0, 0, none⟩) N c6, d 4, .pointer (some ⟨q1, 0, none⟩), .int .i64 ((64 * (m) : Nat) : Int)] ++ D d 7 68)) : List Value).toArray, defers := [] } ∧ m + L = (N / 64) ∧ Heap w.heap.size w w' [(q0, BC (pd g n) N), (q1, AW (hsx g n m) 8)]

/-- What the rounds keep. -/
def paI3 (g : Nat → Int) (n N : Nat) (Z : Nat → BitVec 32) (w : World) (q0 q1 q2 : Nat) : Nat → Act → World → Prop := fun L a' w' => ∃ (m : Nat) (d : Nat → Value),
  a' = { tmps := (D d 0 5 ++ ([.pointer (some ⟨q1, 0, none⟩)] ++ (D d 6 2 ++ ([.pointer (some ⟨q2, 0, none⟩), .int .i64 ((m : Nat) : Int)] ++ D d 10 65))) : List Value).toArray, defers := [] } ∧ m + L = 32 ∧ Heap w.heap.size w w' [(q0, BC (pd g n) N), (q1, AW Z 8), (q2, BC (dig g n) 32)]
set_option maxHeartbeats 4000000 in
theorem shaPads0 (S : ShaK) (g : Nat → Int) (p : Option Addr) (n c : Nat) (w : World) (hn : ¬ n ≤ 400) : Calls Try.prog 5 #[.slice p n c] w (Ret (.bool true) w) := by
  have hp0 := Heap.start w
  go_enter Try.func5, Try.ntmps5
  refine wp_seq_k (fun K1 k1 => ?_)
  refine gsD [.det (.bool false)] [0] [0] (fun L d => [.slice p n c] ++ D d 1 74) (fun L => []) hp0 ⟨
    oA,
    trivial⟩ (fun L0 _ w1 hp1 => ?_)
  refine k1 _ _ ?_
  refine wp_seq_k (fun K2 k2 => ?_)
  refine wp_seq_k (fun K3 k3 => ?_)
  refine gsD [.det (.bool true), .det (.bool false)] [0, 1] [0, 1] (fun L d => [.slice p n c] ++ (D d 1 10 ++ ([.bool false] ++ D d 12 63))) (fun L => []) hp1 ⟨
    oR (begun12 S), oN,
    trivial⟩ (fun L1 _ w2 hp2 => ?_)
  refine k3 _ _ ?_
  refine wp_cond_false (by kernel_rfl) ?_
  refine skips ?_
  refine k2 _ _ ?_
  refine wp_seq_k (fun K4 k4 => ?_)
  refine wp_seq_k (fun K5 k5 => ?_)
  refine gsD [.det (.slice p n c), .det (.int .i64 n), .det (.bool true)] [0, 1, 2] [0, 1, 3] (fun L d => D d 0 14 ++ ([.bool true] ++ D d 15 60)) (fun L => []) hp2 ⟨
    oM, fun h => ⟨ob_len (p := p) (n := n) (c := c) (fun _ => rfl) h rfl (fun _ => by kernel_rfl) Try.underlying22⟩, oJ .i64 .i64 n 400 (h := fun w => (gtrI _ _ _ w).trans (by rw [decide_eq_true (by omega)])),
    trivial⟩ (fun L2 _ w3 hp3 => ?_)
  refine k5 _ _ ?_
  refine wp_cond_true (by kernel_rfl) ?_
  refine wp_seq_k (fun K6 k6 => ?_)
  refine gsD [.det (.bool true)] [0] [0] (fun L d => D d 0 2 ++ ([.bool true] ++ D d 3 72)) (fun L => []) hp3 ⟨
    oA,
    trivial⟩ (fun L3 _ w4 hp4 => ?_)
  refine k6 _ _ ?_
  refine wp_ret ?_
  refine bodyPost_ret (v := .bool true) ?_ rfl ?_
  · exact res_t rfl (by kernel_rfl) _
  · exact ⟨rfl, hp4.bel⟩

set_option maxHeartbeats 4000000 in
theorem shaPads1 (S : ShaK) (g : Nat → Int) (p : Option Addr) (n c : Nat) (w : World) (hn : n ≤ 400) (hpc : n ≤ c) (hp : AtK .u8 w p n g) (hg : ∀ j, j < n → 0 ≤ g j ∧ g j < 256) : Calls Try.prog 5 #[.slice p n c] w (Ret (.bool true) w) := by
  have hp0 := Heap.start w
  go_enter Try.func5, Try.ntmps5
  refine wp_seq_k (fun K1 k1 => ?_)
  refine gs [.det (.bool false)] [0] [0] (fun L => [.slice p n c, undef, .bool false] ++ U 72) (fun L => []) hp0 ⟨
    oA,
    trivial⟩ (fun L0 w1 hp1 => ?_)
  refine k1 _ _ ?_
  refine wp_seq_k (fun K2 k2 => ?_)
  refine wp_seq_k (fun K3 k3 => ?_)
  refine gs [.det (.bool true), .det (.bool false)] [0, 1] [0, 1] (fun L => [.slice p n c, undef, .bool false] ++ (U 7 ++ ([.bool true, .bool false] ++ U 63))) (fun L => []) hp1 ⟨
    oR (begun12 S), oN,
    trivial⟩ (fun L1 w2 hp2 => ?_)
  refine k3 _ _ ?_
  refine wp_cond_false (by kernel_rfl) ?_
  refine skips ?_
  refine k2 _ _ ?_
  refine wp_seq_k (fun K4 k4 => ?_)
  refine wp_seq_k (fun K5 k5 => ?_)
  refine gs [.det (.slice p n c), .det (.int .i64 n), .det (.bool false)] [0, 1, 2] [0, 1, 3] (fun L => [.slice p n c, undef, .bool false] ++ (U 7 ++ ([.bool true, .bool false, .slice p n c, .int .i64 n, .bool false] ++ U 60))) (fun L => []) hp2 ⟨
    oM, fun h => ⟨ob_len (p := p) (n := n) (c := c) (fun _ => rfl) h rfl (fun _ => by kernel_rfl) Try.underlying22⟩, oJ .i64 .i64 n 400 (h := fun w => (gtrI _ _ _ w).trans (by rw [decide_eq_false (by omega)])),
    trivial⟩ (fun L2 w3 hp3 => ?_)
  refine k5 _ _ ?_
  refine wp_cond_false (by kernel_rfl) ?_
  refine skips ?_
  refine k4 _ _ ?_
  refine wp_seq_k (fun K6 k6 => ?_)
  have hC : w.heap.size ≤ w3.heap.size := hp3.le
  have hlt := Heap.lts hp3
  refine wp_region_list ?_
  refine oneL rfl rfl (wp_emptyY (f := pd g n) rfl (fun x1 ho0 hb0 => ?_))
  have hs1 := Heap.start x1
  refine gsC 1 [.det (.slice p n c)] [0] [0] (fun L _ => [.slice p n c, undef, .bool false, undef, undef, undef, undef, undef, undef, undef, .bool true, .bool false, .slice p n c, .int .i64 n, .bool false, .slice (some ⟨w3.heap.size, 0, none⟩) 0 0, .slice p n c] ++ U 58) (fun L => []) hs1 ⟨
    oM,
    trivial⟩ (fun L3 _ w4 hp4 ha4 => ?_)
  refine oneL rfl rfl (wp_appendE (.tmp 15) (.tmp 16) rfl (v := .slice (some ⟨w3.heap.size, 0, none⟩) 0 0) (g := g) (p := p) (n := n) (c := c) (by kernel_rfl) (ho0.below hp4.bel) ⟨_, _, rfl⟩ (by kernel_rfl) (AtK.below hp (hp3.bel.trans ((hb0.trans (hp4.bel.mono hb0.size)).mono hC))) (by omega) (hb0.trans (hp4.bel.mono hb0.size)).size (fun j hj => pd_b g hj) (fun v2 x2 ho2a hb2a => ?_))
  have hb2b := (hb0.trans (hp4.bel.mono hb0.size)).trans hb2a
  have hs2 := Heap.start x2
  refine gsC 1 [.any (isY1 128)] [0] [0] (fun L _ => [.slice p n c, undef, .bool false, undef, undef, undef, undef, undef, undef, undef, .bool true, .bool false, .slice p n c, .int .i64 n, .bool false, .slice (some ⟨w3.heap.size, 0, none⟩) 0 0, .slice p n c, v2, L.v 0] ++ U 56) (fun L => []) hs2 ⟨
    oY1,
    trivial⟩ (fun L4 _ w5 hp5 ha5 => ?_)
  have hy := AnyF.at (ha5 (by kernel_rfl)) (j := 0) rfl rfl
  refine oneL rfl rfl (wp_appendY1 (.tmp 17) (.tmp 18) rfl (v := v2) (u := L4.v 0) (f := pd g n) (m := n) (y := 128) (by kernel_rfl) (ho2a.below hp5.bel) (by kernel_rfl) hy (pd_1 g n) (by omega) (hb2b.trans (hp5.bel.mono hb2b.size)).size (fun v3 x3 ho3a hb3a => ?_))
  have hb3b := (hb2b.trans (hp5.bel.mono hb2b.size)).trans hb3a
  have hs3 := Heap.start x3
  refine gsC 1 [.det (v3)] [0] [0] (fun L _ => [.slice p n c, undef, .bool false, v3, undef, undef, undef, undef, undef, undef, .bool true, .bool false, .slice p n c, .int .i64 n, .bool false, .slice (some ⟨w3.heap.size, 0, none⟩) 0 0, .slice p n c, v2, (L4.v 0), v3] ++ U 55) (fun L => []) hs3 ⟨
    oA,
    trivial⟩ (fun L5 _ w6 hp6 ha6 => ?_)
  refine wpList_nil ?_
  refine k6 _ _ ?_
  refine wp_seq_k (fun K7 k7 => ?_)
  refine wp_block_k (fun K8 k8 => ?_)
  refine wp_loop_ghost (paI1 w3 g p n c) (padN n - 9 - n) ⟨0, (fun zz => ([.slice p n c, undef, .bool false, v3] ++ (U 6 ++ ([.bool true, .bool false, .slice p n c, .int .i64 n, .bool false, .slice (some ⟨w3.heap.size, 0, none⟩) 0 0, .slice p n c, v2, (L4.v 0), v3] ++ U 55)) : List Value).getD zz undef), _, by kernel_rfl, Nat.zero_add _, by rw [show n + 1 + 0 = n + 1 by omega]; exact (ho3a.below hp6.bel), (hb3b.trans (hp6.bel.mono hb3b.size))⟩ ?_
  rintro L a' W ⟨m, d, v, rfl, hL, hO, hB⟩
  obtain ⟨l, el⟩ : ∃ x, x = n + 1 + m := ⟨_, rfl⟩
  rw [← el] at hO
  have hpg := padN_ge n
  have hpe := pad_end n
  obtain ⟨k, cc, rfl, hc1, hc2, hk, hbx⟩ := hO.box (by omega)
  have hs0 := Heap.start W
  by_cases hL0 : L = 0
  rotate_left
  · skip
    have hm : m < padN n - 9 - n := by omega
    have hne := pad_at (show n + 1 + m < padN n - 8 by omega)
    rw [← el] at hne
    refine wp_seq_k (fun K9 k9 => ?_)
    refine wp_seq_k (fun K10 k10 => ?_)
    refine gs [.det (.slice (some ⟨k, 0, none⟩) l cc), .det (.int .i64 l), .det (.int .i64 ((l % 64 : Nat) : Int)), .det (.bool true)] [0, 1, 2, 3] [0, 1, 3, 7] (fun L => [.slice p n c] ++ (D d 1 2 ++ ([.slice (some ⟨k, 0, none⟩) l cc] ++ (D d 4 16 ++ ([.slice (some ⟨k, 0, none⟩) l cc, .int .i64 l, .int .i64 ((l % 64 : Nat) : Int), .bool true] ++ D d 24 51))))) (fun L => []) hs0 ⟨
      oM, fun h => ⟨ob_len (p := (some ⟨k, 0, none⟩)) (n := l) (c := cc) (fun _ => rfl) h rfl (fun _ => by kernel_rfl) Try.underlying22⟩, oJ .i64 .i64 l 64 (h := fun w => remN _ l 64 (l % 64) (by decide) (by omega) rfl w),
      oJ .i64 .i64 ((l % 64 : Nat) : Int) 56 (h := fun w => (neqI _ _ _ _ w).trans (by rw [decide_eq_false (by omega)]; rfl)),
      trivial⟩ (fun L6 w7 hp7 => ?_)
    refine k10 _ _ ?_
    refine wp_cond_true (by kernel_rfl) ?_
    refine skips ?_
    refine k9 _ _ ?_
    refine wp_block_k (fun K11 k11 => ?_)
    refine wp_region_list ?_
    refine gsC 2 [.det (.slice (some ⟨k, 0, none⟩) l cc), .any (isY1 0)] [0, 1] [0, 1] (fun L _ => [.slice p n c, d 1, d 2, .slice (some ⟨k, 0, none⟩) l cc, d 4, d 5, d 6, d 7, d 8, d 9, d 10, d 11, d 12, d 13, d 14, d 15, d 16, d 17, d 18, d 19, .slice (some ⟨k, 0, none⟩) l cc, .int .i64 l, .int .i64 ((l % 64 : Nat) : Int), .bool true, .slice (some ⟨k, 0, none⟩) l cc, L.v 1, d 26, d 27, d 28, d 29, d 30, d 31, d 32, d 33, d 34, d 35, d 36, d 37, d 38, d 39, d 40, d 41, d 42, d 43, d 44, d 45, d 46, d 47, d 48, d 49, d 50, d 51, d 52, d 53, d 54, d 55, d 56, d 57, d 58, d 59, d 60, d 61, d 62, d 63, d 64, d 65, d 66, d 67, d 68, d 69, d 70, d 71, d 72, d 73, d 74]) (fun L => []) hp7 ⟨
      oM, oY1,
      trivial⟩ (fun L7 _ w8 hp8 ha8 => ?_)
    have hy := AnyF.at (ha8 (by kernel_rfl)) (j := 1) rfl rfl
    refine oneL rfl rfl (wp_appendY1 (.tmp 24) (.tmp 25) rfl (v := .slice (some ⟨k, 0, none⟩) l cc) (u := L7.v 1) (f := pd g n) (m := l) (y := 0) (by kernel_rfl) (hO.below hp8.bel) (by kernel_rfl) hy (by rw [el]; exact pd_0 g (by omega) (by omega)) (by omega) (hB.trans (hp8.bel.mono hB.size)).size (fun v5 x5 ho5 hb5 => ?_))
    have hb5b := (hB.trans (hp8.bel.mono hB.size)).trans hb5
    have hs5 := Heap.start x5
    refine gsC 1 [.det (v5)] [0] [0] (fun L _ => [.slice p n c, d 1, d 2, v5, d 4, d 5, d 6, d 7, d 8, d 9, d 10, d 11, d 12, d 13, d 14, d 15, d 16, d 17, d 18, d 19, .slice (some ⟨k, 0, none⟩) l cc, .int .i64 l, .int .i64 ((l % 64 : Nat) : Int), .bool true, .slice (some ⟨k, 0, none⟩) l cc, (L7.v 1), v5, d 27, d 28, d 29, d 30, d 31, d 32, d 33, d 34, d 35, d 36, d 37, d 38, d 39, d 40, d 41, d 42, d 43, d 44, d 45, d 46, d 47, d 48, d 49, d 50, d 51, d 52, d 53, d 54, d 55, d 56, d 57, d 58, d 59, d 60, d 61, d 62, d 63, d 64, d 65, d 66, d 67, d 68, d 69, d 70, d 71, d 72, d 73, d 74]) (fun L => []) hs5 ⟨
      oA,
      trivial⟩ (fun L8 _ w9 hp9 ha9 => ?_)
    refine wpList_nil ?_
    refine k11 _ _ _ ?_
    refine block_normal ?_
    exact ⟨L - 1, by omega, m + 1, (fun zz => ([.slice p n c] ++ (D d 1 2 ++ ([v5] ++ (D d 4 16 ++ ([.slice (some ⟨k, 0, none⟩) l cc, .int .i64 l, .int .i64 ((l % 64 : Nat) : Int), .bool true, .slice (some ⟨k, 0, none⟩) l cc, (L7.v 1), v5] ++ D d 27 48)))) : List Value).getD zz undef), v5, by kernel_rfl, by omega, by rw [show n + 1 + (m + 1) = l + 1 by omega]; exact (ho5.below hp9.bel), (hb5b.trans (hp9.bel.mono hb5b.size))⟩
  obtain rfl : m = padN n - 9 - n := by omega
  refine wp_seq_k (fun K12 k12 => ?_)
  refine wp_seq_k (fun K13 k13 => ?_)
  refine gs [.det (.slice (some ⟨k, 0, none⟩) l cc), .det (.int .i64 l), .det (.int .i64 ((l % 64 : Nat) : Int)), .det (.bool false)] [0, 1, 2, 3] [0, 1, 3, 7] (fun L => [.slice p n c] ++ (D d 1 2 ++ ([.slice (some ⟨k, 0, none⟩) l cc] ++ (D d 4 16 ++ ([.slice (some ⟨k, 0, none⟩) l cc, .int .i64 l, .int .i64 ((l % 64 : Nat) : Int), .bool false] ++ D d 24 51))))) (fun L => []) hs0 ⟨
    oM, fun h => ⟨ob_len (p := (some ⟨k, 0, none⟩)) (n := l) (c := cc) (fun _ => rfl) h rfl (fun _ => by kernel_rfl) Try.underlying22⟩, oJ .i64 .i64 l 64 (h := fun w => remN _ l 64 (l % 64) (by decide) (by omega) rfl w),
    oJ .i64 .i64 ((l % 64 : Nat) : Int) 56 (h := fun w => (neqI _ _ _ _ w).trans (by rw [decide_eq_true (by omega)]; rfl)),
    trivial⟩ (fun L9 w10 hp10 => ?_)
  refine k13 _ _ ?_
  refine wp_cond_false (by kernel_rfl) ?_
  refine wp_exit ?_
  refine then_exit ?_
  refine then_exit ?_
  refine k8 _ _ _ ?_
  refine exit_in ?_
  refine k7 _ _ ?_
  refine wp_seq_k (fun K14 k14 => ?_)
  refine gs [.det (.slice p n c), .det (.int .i64 n), .det (.int .i64 ((n * 8 : Nat) : Int)), .det (.int .i64 ((n * 8 : Nat) : Int))] [0, 1, 2, 3] [0, 1, 3, 7] (fun L => [.slice p n c] ++ (D d 1 2 ++ ([.slice (some ⟨k, 0, none⟩) l cc, .int .i64 ((n * 8 : Nat) : Int)] ++ (D d 5 15 ++ ([.slice (some ⟨k, 0, none⟩) l cc, .int .i64 l, .int .i64 ((l % 64 : Nat) : Int), .bool false] ++ (D d 24 3 ++ ([.slice p n c, .int .i64 n, .int .i64 ((n * 8 : Nat) : Int)] ++ D d 30 45))))))) (fun L => []) hp10 ⟨
    oM, fun h => ⟨ob_len (p := p) (n := n) (c := c) (fun _ => rfl) h rfl (fun _ => by kernel_rfl) Try.underlying22⟩, oJ .i64 .i64 n 8 (h := fun w => mulII _ n 8 (n * 8) rfl (by omega) w),
    oA,
    trivial⟩ (fun L10 w11 hp11 => ?_)
  refine k14 _ _ ?_
  refine wp_seq_k (fun K15 k15 => ?_)
  refine wp_region_list ?_
  refine gsC 7 [.det (.slice (some ⟨k, 0, none⟩) l cc), .det (.int .i64 ((n * 8 : Nat) : Int)), .det (.int .i64 ((n * 8 / 256 : Nat) : Int)), .det (.int .u8 ((n * 8 / 256 % 256 : Nat) : Int)), .det (.int .i64 ((n * 8 : Nat) : Int)), .det (.int .u8 ((n * 8 % 256 : Nat) : Int)), .any (isY8 ((n * 8 / 256 % 256 : Nat) : Int) ((n * 8 % 256 : Nat) : Int))] [0, 1, 2, 3, 4, 5, 6] [0, 1, 3, 7, 15, 31, 63] (fun L _ => [.slice p n c, d 1, d 2, .slice (some ⟨k, 0, none⟩) l cc, .int .i64 ((n * 8 : Nat) : Int), d 5, d 6, d 7, d 8, d 9, d 10, d 11, d 12, d 13, d 14, d 15, d 16, d 17, d 18, d 19, .slice (some ⟨k, 0, none⟩) l cc, .int .i64 l, .int .i64 ((l % 64 : Nat) : Int), .bool false, d 24, d 25, d 26, .slice p n c, .int .i64 n, .int .i64 ((n * 8 : Nat) : Int), .slice (some ⟨k, 0, none⟩) l cc, .int .i64 ((n * 8 : Nat) : Int), .int .i64 ((n * 8 / 256 : Nat) : Int), .int .u8 ((n * 8 / 256 % 256 : Nat) : Int), .int .i64 ((n * 8 : Nat) : Int), .int .u8 ((n * 8 % 256 : Nat) : Int), L.v 6, d 37, d 38, d 39, d 40, d 41, d 42, d 43, d 44, d 45, d 46, d 47, d 48, d 49, d 50, d 51, d 52, d 53, d 54, d 55, d 56, d 57, d 58, d 59, d 60, d 61, d 62, d 63, d 64, d 65, d 66, d 67, d 68, d 69, d 70, d 71, d 72, d 73, d 74]) (fun L => []) hp11 ⟨
    oM, oM, oJ .i64 .u64 ((n * 8 : Nat) : Int) 8 (h := fun w => shrI8 _ (n * 8) w), oCv (fun w => convIB (n * 8 / 256) w), oM, oCv (fun w => convIB (n * 8) w), oY8,
    trivial⟩ (fun L11 _ w12 hp12 ha12 => ?_)
  have hy := AnyF.at (ha12 (by kernel_rfl)) (j := 6) rfl rfl
  refine oneL rfl rfl (wp_appendY8 (.tmp 30) (.tmp 36) rfl (v := .slice (some ⟨k, 0, none⟩) l cc) (u := L11.v 6) (g := g) (n := n) (l := l) (by kernel_rfl) (hO.below hp12.bel) (by kernel_rfl) hy hn (by omega) (hB.trans (hp12.bel.mono hB.size)).size (fun v6 x6 ho6 hb6 => ?_))
  have hb6b := (hB.trans (hp12.bel.mono hB.size)).trans hb6
  obtain ⟨N, eN⟩ : ∃ x, x = padN n := ⟨_, rfl⟩
  have hNm := padN_mod n
  rw [← eN] at hNm hpg hpe ho6
  obtain ⟨k6, c6, rfl, hc1, hc2, hk6, hbx6⟩ := ho6.box (by omega)
  have hpF : Heap w.heap.size w x6 [(k6, BC (pd g n) N)] := Heap.add (Heap.under hp3 hC hb6b hlt) (Nat.le_trans hC hk6) (fun b hb => Nat.lt_of_lt_of_le (hlt b hb) hk6) hbx6
  refine gsC 1 [.det (.slice (some ⟨k6, 0, none⟩) N c6)] [0] [0] (fun L _ => [.slice p n c, d 1, d 2, .slice (some ⟨k6, 0, none⟩) N c6, .int .i64 ((n * 8 : Nat) : Int), d 5, d 6, d 7, d 8, d 9, d 10, d 11, d 12, d 13, d 14, d 15, d 16, d 17, d 18, d 19, .slice (some ⟨k, 0, none⟩) l cc, .int .i64 l, .int .i64 ((l % 64 : Nat) : Int), .bool false, d 24, d 25, d 26, .slice p n c, .int .i64 n, .int .i64 ((n * 8 : Nat) : Int), .slice (some ⟨k, 0, none⟩) l cc, .int .i64 ((n * 8 : Nat) : Int), .int .i64 ((n * 8 / 256 : Nat) : Int), .int .u8 ((n * 8 / 256 % 256 : Nat) : Int), .int .i64 ((n * 8 : Nat) : Int), .int .u8 ((n * 8 % 256 : Nat) : Int), (L11.v 6), .slice (some ⟨k6, 0, none⟩) N c6, d 38, d 39, d 40, d 41, d 42, d 43, d 44, d 45, d 46, d 47, d 48, d 49, d 50, d 51, d 52, d 53, d 54, d 55, d 56, d 57, d 58, d 59, d 60, d 61, d 62, d 63, d 64, d 65, d 66, d 67, d 68, d 69, d 70, d 71, d 72, d 73, d 74]) (fun L => [(k6, BC (pd g n) N)]) hpF ⟨
    oA,
    trivial⟩ (fun L12 _ w13 hp13 ha13 => ?_)
  refine wpList_nil ?_
  refine k15 _ _ ?_
  refine wp_seq_k (fun K16 k16 => ?_)
  refine gs [.det (VW (hz false 8) 8), .alloc (AW (fun _ => 0) 8), .store (.new 1) 0 (AW (hz false 8) 8) (AW (hz false 8) 8)] [0, 1, 2] [0, 0, 3] (fun L => [.slice p n c] ++ (D d 1 2 ++ ([.slice (some ⟨k6, 0, none⟩) N c6, .int .i64 ((n * 8 : Nat) : Int), L.p 1] ++ (D d 6 14 ++ ([.slice (some ⟨k, 0, none⟩) l cc, .int .i64 l, .int .i64 ((l % 64 : Nat) : Int), .bool false] ++ (D d 24 3 ++ ([.slice p n c, .int .i64 n, .int .i64 ((n * 8 : Nat) : Int), .slice (some ⟨k, 0, none⟩) l cc, .int .i64 ((n * 8 : Nat) : Int), .int .i64 ((n * 8 / 256 : Nat) : Int), .int .u8 ((n * 8 / 256 % 256 : Nat) : Int), .int .i64 ((n * 8 : Nat) : Int), .int .u8 ((n * 8 % 256 : Nat) : Int), (L11.v 6), .slice (some ⟨k6, 0, none⟩) N c6, VW (hz false 8) 8] ++ D d 39 36))))))) (fun L => [(k6, BC (pd g n) N), (L.b 1, AW (hz false 8) 8)]) hp13 ⟨
    oR refFirst, oZ rW8, oT rW8,
    trivial⟩ (fun L13 w14 hp14 => ?_)
  refine k16 _ _ ?_
  refine wp_seq_k (fun K17 k17 => ?_)
  refine wp_seq_k (fun K18 k18 => ?_)
  refine gs [.det (.int .i64 0)] [0] [0] (fun L => [.slice p n c] ++ (D d 1 2 ++ ([.slice (some ⟨k6, 0, none⟩) N c6, .int .i64 ((n * 8 : Nat) : Int), L13.p 1, .int .i64 0] ++ (D d 7 13 ++ ([.slice (some ⟨k, 0, none⟩) l cc, .int .i64 l, .int .i64 ((l % 64 : Nat) : Int), .bool false] ++ (D d 24 3 ++ ([.slice p n c, .int .i64 n, .int .i64 ((n * 8 : Nat) : Int), .slice (some ⟨k, 0, none⟩) l cc, .int .i64 ((n * 8 : Nat) : Int), .int .i64 ((n * 8 / 256 : Nat) : Int), .int .u8 ((n * 8 / 256 % 256 : Nat) : Int), .int .i64 ((n * 8 : Nat) : Int), .int .u8 ((n * 8 % 256 : Nat) : Int), (L11.v 6), .slice (some ⟨k6, 0, none⟩) N c6, VW (hz false 8) 8] ++ D d 39 36))))))) (fun L => [(k6, BC (pd g n) N), (L13.b 1, AW (hz false 8) 8)]) hp14 ⟨
    oA,
    trivial⟩ (fun L14 w15 hp15 => ?_)
  refine k18 _ _ ?_
  refine wp_block_k (fun K19 k19 => ?_)
  refine wp_loop_ghost (paI2 g p n c N c6 w k6 (L13.b 1)) (N / 64) ⟨0, (fun zz => ([.slice p n c] ++ (D d 1 2 ++ ([.slice (some ⟨k6, 0, none⟩) N c6, .int .i64 ((n * 8 : Nat) : Int), L13.p 1, .int .i64 0] ++ (D d 7 13 ++ ([.slice (some ⟨k, 0, none⟩) l cc, .int .i64 l, .int .i64 ((l % 64 : Nat) : Int), .bool false] ++ (D d 24 3 ++ ([.slice p n c, .int .i64 n, .int .i64 ((n * 8 : Nat) : Int), .slice (some ⟨k, 0, none⟩) l cc, .int .i64 ((n * 8 : Nat) : Int), .int .i64 ((n * 8 / 256 : Nat) : Int), .int .u8 ((n * 8 / 256 % 256 : Nat) : Int), .int .i64 ((n * 8 : Nat) : Int), .int .u8 ((n * 8 % 256 : Nat) : Int), (L11.v 6), .slice (some ⟨k6, 0, none⟩) N c6, VW (hz false 8) 8] ++ D d 39 36)))))) : List Value).getD zz undef), by kernel_rfl, Nat.zero_add _, by rw [hsx_0]; exact hp15⟩ ?_
  rintro L a' W ⟨m, d, rfl, hL, hJ⟩
  by_cases hL0 : L = 0
  rotate_left
  · skip
    have hm : m < (N / 64) := by omega
    refine wp_seq_k (fun K20 k20 => ?_)
    refine wp_seq_k (fun K21 k21 => ?_)
    refine gs [.det (.int .i64 ((64 * (m) : Nat) : Int)), .det (.slice (some ⟨k6, 0, none⟩) N c6), .det (.int .i64 N), .det (.bool true)] [0, 1, 2, 3] [0, 0, 2, 7] (fun L => [.slice p n c] ++ (D d 1 2 ++ ([.slice (some ⟨k6, 0, none⟩) N c6, d 4, L13.p 1, .int .i64 ((64 * (m) : Nat) : Int)] ++ (D d 7 32 ++ ([.int .i64 ((64 * (m) : Nat) : Int), .slice (some ⟨k6, 0, none⟩) N c6, .int .i64 N, .bool true] ++ D d 43 32))))) (fun L => [(k6, BC (pd g n) N), (L13.b 1, AW (hsx g n m) 8)]) hJ ⟨
      oM, oM, fun h => ⟨ob_len (p := (some ⟨k6, 0, none⟩)) (n := N) (c := c6) (fun _ => rfl) h rfl (fun _ => by kernel_rfl) Try.underlying22⟩, oJ .i64 .i64 ((64 * (m) : Nat) : Int) N (h := fun w => (lssI _ _ _ w).trans (by rw [decide_eq_true (by omega)])),
      trivial⟩ (fun L15 w16 hp16 => ?_)
    refine k21 _ _ ?_
    refine wp_cond_true (by kernel_rfl) ?_
    refine skips ?_
    refine k20 _ _ ?_
    refine wp_seq_k (fun K22 k22 => ?_)
    refine wp_block_k (fun K23 k23 => ?_)
    refine wp_seq_k (fun K24 k24 => ?_)
    refine gs [.alloc (BC (fun _ => 0) 64)] [0] [0] (fun L => [.slice p n c] ++ (D d 1 2 ++ ([.slice (some ⟨k6, 0, none⟩) N c6, d 4, L13.p 1, .int .i64 ((64 * (m) : Nat) : Int), L.p 0] ++ (D d 8 31 ++ ([.int .i64 ((64 * (m) : Nat) : Int), .slice (some ⟨k6, 0, none⟩) N c6, .int .i64 N, .bool true] ++ D d 43 32))))) (fun L => [(k6, BC (pd g n) N), (L13.b 1, AW (hsx g n m) 8), (L.b 0, BC (fun _ => 0) 64)]) hp16 ⟨
      oZ rB64,
      trivial⟩ (fun L16 w17 hp17 => ?_)
    refine k24 _ _ ?_
    refine wp_seq_k (fun K25 k25 => ?_)
    refine dT 6 [.det (.slice (some ⟨(L16.b 0), 0, none⟩) 64 64), .det (.slice (some ⟨k6, 0, none⟩) N c6), .det (.int .i64 ((64 * (m) : Nat) : Int)), .det (.int .i64 ((64 * (m) : Nat) : Int)), .det (.int .i64 ((64 * (m) + 64 : Nat) : Int)), .det (.slice (some ⟨k6, 64 * m, none⟩) (64 * m + 64 - 64 * m) (c6 - 64 * m)), .det (.int .i64 64)] [0, 1, 2, 3, 4, 5] [0, 0, 0, 0, 8, 30, 63] (fun L => [.slice p n c] ++ (D d 1 2 ++ ([.slice (some ⟨k6, 0, none⟩) N c6, d 4, L13.p 1, .int .i64 ((64 * (m) : Nat) : Int), L16.p 0] ++ (D d 8 31 ++ ([.int .i64 ((64 * (m) : Nat) : Int), .slice (some ⟨k6, 0, none⟩) N c6, .int .i64 N, .bool true] ++ (D d 43 2 ++ ([.slice (some ⟨(L16.b 0), 0, none⟩) 64 64, .slice (some ⟨k6, 0, none⟩) N c6, .int .i64 ((64 * (m) : Nat) : Int), .int .i64 ((64 * (m) : Nat) : Int), .int .i64 ((64 * (m) + 64 : Nat) : Int), .slice (some ⟨k6, 64 * m, none⟩) (64 * m + 64 - 64 * m) (c6 - 64 * m)] ++ D d 51 24))))))) hp17 ⟨
      oSA (sz := 1) Try.underlying25 sizeY (by decide), oM, oM, oM, oJ .i64 .i64 ((64 * (m) : Nat) : Int) 64 (h := fun w => addII _ (64 * (m)) 64 (64 * (m) + 64) rfl (by omega) w), oSB (b := k6) (len := N) (c := c6) (l := 64 * (m)) (h := 64 * (m) + 64) (by omega) (by omega) hc1 (by omega), trivial⟩ (fun L17 w18 hp18 ha18 => ?_)
    have hbk := (hp18.bound 0 rfl).2.cells
    refine tail1 (by kernel_rfl) (wpOp_of rfl rfl (wp_copy64 (.tmp 45) (.tmp 50) rfl (b := (L16.b 0)) (ad := ⟨k6, 64 * m, none⟩) (c1 := 64) (c2 := c6 - 64 * m) (f := fun _ => 0) (g := fun i => pd g n (64 * m + i)) (by kernel_rfl) (by refine Eq.trans (b := .slice (some ⟨k6, 64 * m, none⟩) (64 * m + 64 - 64 * m) (c6 - 64 * m)) (by kernel_rfl) ?_; rw [show 64 * m + 64 - 64 * m = 64 by omega]) (hp18.bound 2 rfl).2 (fun j hj => ?_) (fun x8 hw8 hx8 => ?_)))
    · have := hbk (64 * m + j) _ (BC_at (show 64 * m + j < N by omega)); rw [Addr.add_mid]; rwa [Nat.zero_add] at this
    have hp8 := Heap.turnL (H := [_, _]) hp18 hw8 hx8
    refine k25 _ _ ?_
    refine gs [.det (VW (hsx g n m) 8), .det (VB (fun i => pd g n (64 * m + i)) 64), .det (VW (blk (hsx g n m) (fun i => pd g n (64 * m + i)) (hz true 64)) 8), .store (.base 1) 0 (AW (blk (hsx g n m) (fun i => pd g n (64 * m + i)) (hz true 64)) 8) (AW (blk (hsx g n m) (fun i => pd g n (64 * m + i)) (hz true 64)) 8)] [0, 1, 2, 3] [0, 0, 3, 7] (fun L => [.slice p n c] ++ (D d 1 2 ++ ([.slice (some ⟨k6, 0, none⟩) N c6, d 4, L13.p 1, .int .i64 ((64 * (m) : Nat) : Int), L16.p 0] ++ (D d 8 31 ++ ([.int .i64 ((64 * (m) : Nat) : Int), .slice (some ⟨k6, 0, none⟩) N c6, .int .i64 N, .bool true] ++ (D d 43 2 ++ ([.slice (some ⟨(L16.b 0), 0, none⟩) 64 64, .slice (some ⟨k6, 0, none⟩) N c6, .int .i64 ((64 * (m) : Nat) : Int), .int .i64 ((64 * (m) : Nat) : Int), .int .i64 ((64 * (m) + 64 : Nat) : Int), .slice (some ⟨k6, 64 * m, none⟩) (64 * m + 64 - 64 * m) (c6 - 64 * m), .int .i64 64, VW (hsx g n m) 8, VB (fun i => pd g n (64 * m + i)) 64, VW (blk (hsx g n m) (fun i => pd g n (64 * m + i)) (hz true 64)) 8] ++ D d 55 20))))))) (fun L => [(k6, BC (pd g n) N), (L13.b 1, AW (blk (hsx g n m) (fun i => pd g n (64 * m + i)) (hz true 64)) 8), (L16.b 0, BC (fun i => pd g n (64 * m + i)) 64)]) hp8 ⟨
      oL 1 0 rW8, oL 2 0 rB64, oH (v := VW (blk (hsx g n m) (fun i => pd g n (64 * m + i)) (hz true 64)) 8) (vs := #[VW (hsx g n m) 8, VB (fun i => pd g n (64 * m + i)) 64]) (fun w _ _ => S.block (hsx g n m) (fun i => pd g n (64 * m + i)) w (fun i _ => pd_rg hg _)),
      oT rW8,
      trivial⟩ (fun L18 w19 hp19 => ?_)
    refine k23 _ _ _ ?_
    refine block_normal ?_
    refine k22 _ _ ?_
    refine gs [.det (.int .i64 ((64 * (m) : Nat) : Int)), .det (.int .i64 ((64 * (m) + 64 : Nat) : Int)), .det (.int .i64 ((64 * (m) + 64 : Nat) : Int))] [0, 1, 2] [0, 1, 3] (fun L => [.slice p n c] ++ (D d 1 2 ++ ([.slice (some ⟨k6, 0, none⟩) N c6, d 4, L13.p 1, .int .i64 ((64 * (m) + 64 : Nat) : Int), L16.p 0] ++ (D d 8 31 ++ ([.int .i64 ((64 * (m) : Nat) : Int), .slice (some ⟨k6, 0, none⟩) N c6, .int .i64 N, .bool true, .int .i64 ((64 * (m) : Nat) : Int), .int .i64 ((64 * (m) + 64 : Nat) : Int), .slice (some ⟨(L16.b 0), 0, none⟩) 64 64, .slice (some ⟨k6, 0, none⟩) N c6, .int .i64 ((64 * (m) : Nat) : Int), .int .i64 ((64 * (m) : Nat) : Int), .int .i64 ((64 * (m) + 64 : Nat) : Int), .slice (some ⟨k6, 64 * m, none⟩) (64 * m + 64 - 64 * m) (c6 - 64 * m), .int .i64 64, VW (hsx g n m) 8, VB (fun i => pd g n (64 * m + i)) 64, VW (blk (hsx g n m) (fun i => pd g n (64 * m + i)) (hz true 64)) 8] ++ D d 55 20))))) (fun L => [(k6, BC (pd g n) N), (L13.b 1, AW (blk (hsx g n m) (fun i => pd g n (64 * m + i)) (hz true 64)) 8), (L16.b 0, BC (fun i => pd g n (64 * m + i)) 64)]) hp19 ⟨
      oM, oJ .i64 .i64 ((64 * (m) : Nat) : Int) 64 (h := fun w => addII _ (64 * (m)) 64 (64 * (m) + 64) rfl (by omega) w), oA,
      trivial⟩ (fun L19 w20 hp20 => ?_)
    exact ⟨L - 1, by omega, m + 1, (fun zz => ([.slice p n c] ++ (D d 1 2 ++ ([.slice (some ⟨k6, 0, none⟩) N c6, d 4, L13.p 1, .int .i64 ((64 * (m) + 64 : Nat) : Int), L16.p 0] ++ (D d 8 31 ++ ([.int .i64 ((64 * (m) : Nat) : Int), .slice (some ⟨k6, 0, none⟩) N c6, .int .i64 N, .bool true, .int .i64 ((64 * (m) : Nat) : Int), .int .i64 ((64 * (m) + 64 : Nat) : Int), .slice (some ⟨(L16.b 0), 0, none⟩) 64 64, .slice (some ⟨k6, 0, none⟩) N c6, .int .i64 ((64 * (m) : Nat) : Int), .int .i64 ((64 * (m) : Nat) : Int), .int .i64 ((64 * (m) + 64 : Nat) : Int), .slice (some ⟨k6, 64 * m, none⟩) (64 * m + 64 - 64 * m) (c6 - 64 * m), .int .i64 64, VW (hsx g n m) 8, VB (fun i => pd g n (64 * m + i)) 64, VW (blk (hsx g n m) (fun i => pd g n (64 * m + i)) (hz true 64)) 8] ++ D d 55 20)))) : List Value).getD zz undef), by kernel_rfl, by omega, by rw [hsx_s]; exact Heap.sub hp20 (List.sublist_append_left [_, _] [_])⟩
  obtain rfl : m = (N / 64) := by omega
  obtain ⟨Z, eZ⟩ : ∃ x, x = hsx g n (N / 64) := ⟨_, rfl⟩
  rw [← eZ] at hJ
  refine wp_seq_k (fun K26 k26 => ?_)
  refine wp_seq_k (fun K27 k27 => ?_)
  refine gs [.det (.int .i64 ((64 * ((N / 64)) : Nat) : Int)), .det (.slice (some ⟨k6, 0, none⟩) N c6), .det (.int .i64 N), .det (.bool false)] [0, 1, 2, 3] [0, 0, 2, 7] (fun L => [.slice p n c] ++ (D d 1 2 ++ ([.slice (some ⟨k6, 0, none⟩) N c6, d 4, L13.p 1, .int .i64 ((64 * ((N / 64)) : Nat) : Int)] ++ (D d 7 32 ++ ([.int .i64 ((64 * ((N / 64)) : Nat) : Int), .slice (some ⟨k6, 0, none⟩) N c6, .int .i64 N, .bool false] ++ D d 43 32))))) (fun L => [(k6, BC (pd g n) N), (L13.b 1, AW Z 8)]) hJ ⟨
    oM, oM, fun h => ⟨ob_len (p := (some ⟨k6, 0, none⟩)) (n := N) (c := c6) (fun _ => rfl) h rfl (fun _ => by kernel_rfl) Try.underlying22⟩, oJ .i64 .i64 ((64 * ((N / 64)) : Nat) : Int) N (h := fun w => (lssI _ _ _ w).trans (by rw [decide_eq_false (by omega)])),
    trivial⟩ (fun L20 w21 hp21 => ?_)
  refine k27 _ _ ?_
  refine wp_cond_false (by kernel_rfl) ?_
  refine wp_exit ?_
  refine then_exit ?_
  refine then_exit ?_
  refine k19 _ _ _ ?_
  refine exit_in ?_
  refine k17 _ _ ?_
  refine wp_seq_k (fun K28 k28 => ?_)
  refine gs [.det (.slice p n c), .det (VB (dig g n) 32), .alloc (BC (fun _ => 0) 32), .store (.new 2) 0 (BC (dig g n) 32) (BC (dig g n) 32)] [0, 1, 2, 3] [0, 1, 0, 7] (fun L => [.slice p n c] ++ (D d 1 2 ++ ([.slice (some ⟨k6, 0, none⟩) N c6, d 4, L13.p 1, .int .i64 ((64 * ((N / 64)) : Nat) : Int), d 7, L.p 2] ++ (D d 9 30 ++ ([.int .i64 ((64 * ((N / 64)) : Nat) : Int), .slice (some ⟨k6, 0, none⟩) N c6, .int .i64 N, .bool false] ++ (D d 43 12 ++ ([.slice p n c, VB (dig g n) 32] ++ D d 57 18))))))) (fun L => [(k6, BC (pd g n) N), (L13.b 1, AW Z 8), (L.b 2, BC (dig g n) 32)]) hp21 ⟨
    oM, oH (v := VB (dig g n) 32) (vs := #[.slice p n c]) (fun w hb _ => S.sum g p n c w hn hpc (AtK.below hp hb) hg), oZ rB32, oT rB32,
    trivial⟩ (fun L21 w22 hp22 => ?_)
  refine k28 _ _ ?_
  refine wp_seq_k (fun K29 k29 => ?_)
  refine wp_seq_k (fun K30 k30 => ?_)
  refine gs [.det (.int .i64 0)] [0] [0] (fun L => [.slice p n c] ++ (D d 1 2 ++ ([.slice (some ⟨k6, 0, none⟩) N c6, d 4, L13.p 1, .int .i64 ((64 * ((N / 64)) : Nat) : Int), d 7, L21.p 2, .int .i64 0] ++ (D d 10 29 ++ ([.int .i64 ((64 * ((N / 64)) : Nat) : Int), .slice (some ⟨k6, 0, none⟩) N c6, .int .i64 N, .bool false] ++ (D d 43 12 ++ ([.slice p n c, VB (dig g n) 32] ++ D d 57 18))))))) (fun L => [(k6, BC (pd g n) N), (L13.b 1, AW Z 8), (L21.b 2, BC (dig g n) 32)]) hp22 ⟨
    oA,
    trivial⟩ (fun L22 w23 hp23 => ?_)
  refine k30 _ _ ?_
  refine wp_block_k (fun K31 k31 => ?_)
  refine wp_loop_ghost (paI3 g n N Z w k6 (L13.b 1) (L21.b 2)) 32 ⟨0, (fun zz => ([.slice p n c] ++ (D d 1 2 ++ ([.slice (some ⟨k6, 0, none⟩) N c6, d 4, L13.p 1, .int .i64 ((64 * ((N / 64)) : Nat) : Int), d 7, L21.p 2, .int .i64 0] ++ (D d 10 29 ++ ([.int .i64 ((64 * ((N / 64)) : Nat) : Int), .slice (some ⟨k6, 0, none⟩) N c6, .int .i64 N, .bool false] ++ (D d 43 12 ++ ([.slice p n c, VB (dig g n) 32] ++ D d 57 18)))))) : List Value).getD zz undef), by kernel_rfl, Nat.zero_add _, hp23⟩ ?_
  rintro L a' W ⟨m, d, rfl, hL, hJ⟩
  by_cases hL0 : L = 0
  rotate_left
  · skip
    have hm : m < 32 := by omega
    have hd : dig g n m = ((((Z (m / 4)) >>> (24 - 8 * (m % 4))).toNat : Int) % 256) := by rw [eZ, eN]; rfl
    refine wp_seq_k (fun K32 k32 => ?_)
    refine wp_seq_k (fun K33 k33 => ?_)
    refine gs [.det (.int .i64 ((m : Nat) : Int)), .det (.bool true)] [0, 1] [0, 1] (fun L => D d 0 5 ++ ([L13.p 1] ++ (D d 6 2 ++ ([L21.p 2, .int .i64 ((m : Nat) : Int)] ++ (D d 10 47 ++ ([.int .i64 ((m : Nat) : Int), .bool true] ++ D d 59 16)))))) (fun L => [(k6, BC (pd g n) N), (L13.b 1, AW Z 8), (L21.b 2, BC (dig g n) 32)]) hJ ⟨
      oM, oJ .i64 .i64 ((m : Nat) : Int) 32 (h := fun w => (lssI _ _ _ w).trans (by rw [decide_eq_true (by omega)])),
      trivial⟩ (fun L23 w24 hp24 => ?_)
    refine k33 _ _ ?_
    refine wp_cond_true (by kernel_rfl) ?_
    refine skips ?_
    refine k32 _ _ ?_
    refine wp_seq_k (fun K34 k34 => ?_)
    refine wp_block_k (fun K35 k35 => ?_)
    refine wp_seq_k (fun K36 k36 => ?_)
    refine dr [.det (.int .i64 ((m : Nat) : Int)), .det (.pointer (some ⟨(L21.b 2), 0 + m * 1, none⟩)), .det (.int .u8 ((dig g n) m)), .det (.int .i64 ((m : Nat) : Int)), .det (.int .i64 ((m / 4 : Nat) : Int)), .det (.pointer (some ⟨(L13.b 1), 0 + (m / 4) * 1, none⟩)), .det (W32 (Z (m / 4))), .det (.int .i64 ((m : Nat) : Int)), .det (.int .i64 ((m % 4 : Nat) : Int)), .det (.int .i64 ((8 * (m % 4) : Nat) : Int)), .det (.int .i64 ((24 - 8 * (m % 4) : Nat) : Int)), .det (W32 ((Z (m / 4)) >>> (24 - 8 * (m % 4)))), .det (.int .u8 ((((Z (m / 4)) >>> (24 - 8 * (m % 4))).toNat : Int) % 256)), .det (.bool false)] [0, 1, 2, 3, 4, 5, 6, 7, 8, 9, 10, 11, 12, 13] [0, 1, 3, 0, 8, 24, 56, 0, 128, 384, 896, 2040, 4088, 8191] (fun L => D d 0 5 ++ ([L13.p 1] ++ (D d 6 2 ++ ([L21.p 2, .int .i64 ((m : Nat) : Int)] ++ (D d 10 47 ++ ([.int .i64 ((m : Nat) : Int), .bool true] ++ (D d 59 2 ++ [.int .i64 ((m : Nat) : Int), .pointer (some ⟨(L21.b 2), 0 + m * 1, none⟩), .int .u8 ((dig g n) m), .int .i64 ((m : Nat) : Int), .int .i64 ((m / 4 : Nat) : Int), .pointer (some ⟨(L13.b 1), 0 + (m / 4) * 1, none⟩), W32 (Z (m / 4)), .int .i64 ((m : Nat) : Int), .int .i64 ((m % 4 : Nat) : Int), .int .i64 ((8 * (m % 4) : Nat) : Int), .int .i64 ((24 - 8 * (m % 4) : Nat) : Int), W32 ((Z (m / 4)) >>> (24 - 8 * (m % 4))), .int .u8 ((((Z (m / 4)) >>> (24 - 8 * (m % 4))).toNat : Int) % 256), .bool false]))))))) (fun L => [(k6, BC (pd g n) N), (L13.b 1, AW Z 8), (L21.b 2, BC (dig g n) 32)]) hp24 ⟨
      oM, oIA (k := .i64) m aB32 (by omega), oLY (n := 32) (j := m) 2 (by omega), oM, oJ .i64 .i64 ((m : Nat) : Int) 4 (h := fun w => quoN _ m 4 (m / 4) (by omega) (by decide) rfl w),
      oIA (k := .i64) (m / 4) aW8 (by omega), oLA (n := 8) (j := (m / 4)) 1 (by omega), oM, oJ .i64 .i64 ((m : Nat) : Int) 4 (h := fun w => remN _ m 4 (m % 4) (by decide) (by omega) rfl w),
      oJ .i64 .i64 8 ((m % 4 : Nat) : Int) (h := fun w => mulII _ 8 (m % 4) (8 * (m % 4)) rfl (by omega) w), oJ .i64 .i64 24 ((8 * (m % 4) : Nat) : Int) (h := fun w => subN _ 24 (8 * (m % 4)) (24 - 8 * (m % 4)) (by omega) (by omega) w),
      oJ .u32 .i64 ((Z (m / 4)).toNat : Int) ((24 - 8 * (m % 4) : Nat) : Int) (h := fun w => shrW _ (Z (m / 4)) .i64 (24 - 8 * (m % 4)) (by omega) w), oCv (fun w => convWB ((Z (m / 4)) >>> (24 - 8 * (m % 4))) w),
      oJ .u8 .u8 ((dig g n) m) ((((Z (m / 4)) >>> (24 - 8 * (m % 4))).toNat : Int) % 256) (h := fun w => (neqI _ _ _ _ w).trans (by rw [decide_eq_true hd]; rfl)),
      trivial⟩ (fun L24 w25 hp25 => ?_)
    refine k36 _ _ ?_
    refine wp_cond_false (by kernel_rfl) ?_
    refine skips ?_
    refine k35 _ _ _ ?_
    refine block_normal ?_
    refine k34 _ _ ?_
    refine gs [.det (.int .i64 ((m : Nat) : Int)), .det (.int .i64 ((m + 1 : Nat) : Int)), .det (.int .i64 ((m + 1 : Nat) : Int))] [0, 1, 2] [0, 1, 3] (fun L => D d 0 5 ++ ([L13.p 1] ++ (D d 6 2 ++ ([L21.p 2, .int .i64 ((m + 1 : Nat) : Int)] ++ (D d 10 47 ++ [.int .i64 ((m : Nat) : Int), .bool true, .int .i64 ((m : Nat) : Int), .int .i64 ((m + 1 : Nat) : Int), .int .i64 ((m : Nat) : Int), .pointer (some ⟨(L21.b 2), 0 + m * 1, none⟩), .int .u8 ((dig g n) m), .int .i64 ((m : Nat) : Int), .int .i64 ((m / 4 : Nat) : Int), .pointer (some ⟨(L13.b 1), 0 + (m / 4) * 1, none⟩), W32 (Z (m / 4)), .int .i64 ((m : Nat) : Int), .int .i64 ((m % 4 : Nat) : Int), .int .i64 ((8 * (m % 4) : Nat) : Int), .int .i64 ((24 - 8 * (m % 4) : Nat) : Int), W32 ((Z (m / 4)) >>> (24 - 8 * (m % 4))), .int .u8 ((((Z (m / 4)) >>> (24 - 8 * (m % 4))).toNat : Int) % 256), .bool false]))))) (fun L => [(k6, BC (pd g n) N), (L13.b 1, AW Z 8), (L21.b 2, BC (dig g n) 32)]) hp25 ⟨
      oM, oJ .i64 .i64 ((m : Nat) : Int) 1 (h := fun w => add1N _ (m) (by omega) w), oA,
      trivial⟩ (fun L25 w26 hp26 => ?_)
    exact ⟨L - 1, by omega, m + 1, (fun zz => (D d 0 5 ++ ([L13.p 1] ++ (D d 6 2 ++ ([L21.p 2, .int .i64 ((m + 1 : Nat) : Int)] ++ (D d 10 47 ++ [.int .i64 ((m : Nat) : Int), .bool true, .int .i64 ((m : Nat) : Int), .int .i64 ((m + 1 : Nat) : Int), .int .i64 ((m : Nat) : Int), .pointer (some ⟨(L21.b 2), 0 + m * 1, none⟩), .int .u8 ((dig g n) m), .int .i64 ((m : Nat) : Int), .int .i64 ((m / 4 : Nat) : Int), .pointer (some ⟨(L13.b 1), 0 + (m / 4) * 1, none⟩), W32 (Z (m / 4)), .int .i64 ((m : Nat) : Int), .int .i64 ((m % 4 : Nat) : Int), .int .i64 ((8 * (m % 4) : Nat) : Int), .int .i64 ((24 - 8 * (m % 4) : Nat) : Int), W32 ((Z (m / 4)) >>> (24 - 8 * (m % 4))), .int .u8 ((((Z (m / 4)) >>> (24 - 8 * (m % 4))).toNat : Int) % 256), .bool false])))) : List Value).getD zz undef), by kernel_rfl, by omega, hp26⟩
  obtain rfl : m = 32 := by omega
  refine wp_seq_k (fun K37 k37 => ?_)
  refine wp_seq_k (fun K38 k38 => ?_)
  refine gs [.det (.int .i64 ((32 : Nat) : Int)), .det (.bool false)] [0, 1] [0, 1] (fun L => D d 0 5 ++ ([L13.p 1] ++ (D d 6 2 ++ ([L21.p 2, .int .i64 ((32 : Nat) : Int)] ++ (D d 10 47 ++ ([.int .i64 ((32 : Nat) : Int), .bool false] ++ D d 59 16)))))) (fun L => [(k6, BC (pd g n) N), (L13.b 1, AW Z 8), (L21.b 2, BC (dig g n) 32)]) hJ ⟨
    oM, oJ .i64 .i64 ((32 : Nat) : Int) 32 (h := fun w => (lssI _ _ _ w).trans (by rw [decide_eq_false (by omega)])),
    trivial⟩ (fun L26 w27 hp27 => ?_)
  refine k38 _ _ ?_
  refine wp_cond_false (by kernel_rfl) ?_
  refine wp_exit ?_
  refine then_exit ?_
  refine then_exit ?_
  refine k31 _ _ _ ?_
  refine exit_in ?_
  refine k29 _ _ ?_
  refine wp_seq_k (fun K39 k39 => ?_)
  refine gs [.det (.bool true)] [0] [0] (fun L => D d 0 2 ++ ([.bool true] ++ (D d 3 2 ++ ([L13.p 1] ++ (D d 6 2 ++ ([L21.p 2, .int .i64 ((32 : Nat) : Int)] ++ (D d 10 47 ++ ([.int .i64 ((32 : Nat) : Int), .bool false] ++ D d 59 16)))))))) (fun L => [(k6, BC (pd g n) N), (L13.b 1, AW Z 8), (L21.b 2, BC (dig g n) 32)]) hp27 ⟨
    oA,
    trivial⟩ (fun L27 w28 hp28 => ?_)
  refine k39 _ _ ?_
  refine wp_ret ?_
  refine bodyPost_ret (v := .bool true) ?_ rfl ?_
  · exact res_t rfl (by kernel_rfl) _
  · exact ⟨rfl, hp28.bel⟩
theorem shaPads_walk (S : ShaK) (g : Nat → Int) (p : Option Addr) (n c : Nat) (w : World) (hpc : n ≤ c) (hp : AtK .u8 w p n g) (hg : ∀ j, j < n → 0 ≤ g j ∧ g j < 256) : Calls Try.prog 5 #[.slice p n c] w (Ret (.bool true) w) := by
  by_cases hn : n ≤ 400
  · exact shaPads1 S g p n c w hn hpc hp hg
  · exact shaPads0 S g p n c w hn
end Go.Proofs.Ytklddcicfeakfaa.fpn
