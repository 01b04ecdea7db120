/- ShaA ShaB. -/
import Derived.Test.YtccidmogamnihaaGF
import Derived.Test.YtccidmogamnihaaGD
/- Package sha: words turned, chosen; a block's words; a digest's bytes. -/
namespace Go.Proofs.Ytccidmogamnihaa.fpn
open Go.RowKit Pl
set_option linter.unusedVariables false
set_option linter.unusedSimpArgs false
set_option maxRecDepth 4000

theorem convIUc (a r : Int) (h : IntKind.u64.wrap a = r) (w : World) : (convert 3 75 (.int .i64 a)).run Try.prog w = .ok (.int .u64 r) w := by
  simp [convert, run_underlying Try.underlying3, run_underlying Try.underlying75, Conv.intToInt, h, Sem.run_bind]
theorem andUc (t : TypeId) (a b r : Int) (h : bits .and .u64 a b = r) (w : World) : (binOp .and t (.int .u64 a) (.int .u64 b)).run Try.prog w = .ok (.int .u64 r) w := by
  simp [binOp, Sem.run_bind, Op.intBits]
  exact h
section
variable {ops : Array Oper} {ks : List Kind} {T : List Nat} {a0 : Act} {B : Nat} {w0 W0 : World} {H : List (Nat × List Value)} {i : Nat} {o : Oper}
theorem oNG {x : Operand} {t : TypeId} {n r : Int} (h : ∀ w, (Op.unary .neg (.int .i64 n)).run Try.prog w = .ok (.int .i64 r) w := by intro _; rfl) (hw : ∀ L, wantedR ks L o = true := by intro _; kernel_rfl) (ho : o.op = .unOp .neg t x := by exact rfl) (hx : ∀ L, rd ops ks T a0 L i x = .int .i64 n := by intro _; kernel_rfl) (hk : kd ks i = .det (.int .i64 r)) : Obl Try.prog ops ks T a0 B w0 H i o := ⟨ob_pure hw hk fun L w => by
    unfold execOp
    simp only [ho, hx L, Sem.run_bind, h w]
    rfl⟩
theorem oVA {t : TypeId} {x ix : Operand} {n : Nat} {f : Nat → Int} (k : Nat) (hkn : k < n) (hu : Try.prog.underlying t = some (.array n 5)) (hw : ∀ L, wantedR ks L o = true := by intro _; kernel_rfl) (ho : o.op = .index t x ix := by exact rfl)
    (hx : ∀ L, rd ops ks T a0 L i x = VB f n := by intro _; kernel_rfl) (hi : ∀ L, rd ops ks T a0 L i ix = .int .i64 (k : Int) := by intro _; kernel_rfl) (hk : kd ks i = .det (.int .u8 (f k))) : Obl Try.prog ops ks T a0 B w0 H i o := ⟨ob_pure hw hk fun L w => by
    have hkn' : (0 : Int) ≤ (k : Int) ∧ (k : Int) < (n : Int) := ⟨by omega, by omega⟩
    have ha := oneY.agg w
    have hs : (sizeOf 5).run Try.prog w = .ok 1 w := size_of sizeY w
    have hc : (BC f n)[k]? = some (.int .u8 (f k)) := BC_at hkn
    have e : (Instr.index t (VB f n) (.int .i64 (k : Int))).run Try.prog w = .ok (.int .u8 (f k)) w := by
      unfold VB
      simp [Instr.index, asIntOf, Sem.run_bind, run_underlying hu, hkn', part, ha, hs, hkn, hc]
    unfold execOp
    simp only [ho, hx L, hi L, Sem.run_bind, e]
    rfl⟩
end
theorem wst_or (c : Nat → Int) (hc : ∀ i, i < 64 → 0 ≤ c i ∧ c i < 256) (m : Nat) (hm : m < 64) : wst c (m + 1) = wup (wst c m) (m / 4) (wst c m (m / 4) <<< 8 ||| zx (c m)) := by
  rw [wst_s, shl_or8 _ _ (zx_lt _ (hc m hm).1 (hc m hm).2)]
set_option maxHeartbeats 4000000 in
theorem shaRl2 (x : BitVec 32) (w : World) : Calls Try.prog 58 #[W32 x, .int .i64 (-2)] w (Ret (W32 (rot x 2)) w) := by
  have hp0 := Heap.start w
  go_enter Try.func58, Try.ntmps58
  refine wp_seq_k (fun K1 k1 => ?_)
  refine gsD [.det (.int .u32 0)] [0] [0] (fun L d => [W32 x, .int .i64 (-2)] ++ D d 2 15) (fun L => []) hp0 ⟨
    oA,
    trivial⟩ (fun L0 _ w1 hp1 => ?_)
  refine k1 _ _ ?_
  refine wp_seq_k (fun K2 k2 => ?_)
  refine gsD [.det (.int .i64 (-2)), .det (.int .u64 18446744073709551614), .det (.int .u64 30), .det (.int .u64 30)] [0, 1, 2, 3] [0, 1, 3, 7] (fun L d => [W32 x] ++ (D d 1 4 ++ ([.int .u64 30] ++ D d 6 11))) (fun L => []) hp1 ⟨
    oM, oCv (fun w => convIUc (-2) 18446744073709551614 (by decide) w), oJ .u64 .u64 18446744073709551614 31 (h := fun w => andUc _ 18446744073709551614 31 30 (by decide) w),
    oA,
    trivial⟩ (fun L1 _ w2 hp2 => ?_)
  refine k2 _ _ ?_
  refine wp_seq_k (fun K3 k3 => ?_)
  refine gsD [.det (W32 x), .det (.int .u64 30), .det (W32 (x <<< 30)), .det (W32 x), .det (.int .u64 30), .det (.int .u64 2), .det (W32 (x >>> 2)), .det (W32 ((x <<< 30) ||| (x >>> 2))), .det (W32 ((x <<< 30) ||| (x >>> 2)))] [0, 1, 2, 3, 4, 5, 6, 7, 8] [0, 0, 3, 0, 0, 16, 56, 127, 255] (fun L d => D d 0 4 ++ ([W32 ((x <<< 30) ||| (x >>> 2))] ++ D d 5 12)) (fun L => []) hp2 ⟨
    oM, oM, oJ .u32 .u64 (x.toNat : Int) 30 (h := fun w => shlW _ x .u64 30 (by decide) w), oM, oM, oJ .u64 .u64 32 30, oJ .u32 .u64 (x.toNat : Int) 2 (h := fun w => shrW _ x .u64 2 (by decide) w),
    oJ .u32 .u32 ((x <<< 30).toNat : Int) ((x >>> 2).toNat : Int) (h := fun w => orW _ (x <<< 30) (x >>> 2) w), oA,
    trivial⟩ (fun L2 _ w3 hp3 => ?_)
  refine k3 _ _ ?_
  refine wp_ret ?_
  refine bodyPost_ret (v := W32 ((x <<< 30) ||| (x >>> 2))) ?_ rfl ?_
  · exact res_t rfl (by kernel_rfl) _
  · exact ⟨congrArg (fun z => Ending.returned (W32 z)) (rot_left x 2), hp3.bel⟩
set_option maxHeartbeats 4000000 in
theorem shaRl6 (x : BitVec 32) (w : World) : Calls Try.prog 58 #[W32 x, .int .i64 (-6)] w (Ret (W32 (rot x 6)) w) := by
  have hp0 := Heap.start w
  go_enter Try.func58, Try.ntmps58
  refine wp_seq_k (fun K1 k1 => ?_)
  refine gsD [.det (.int .u32 0)] [0] [0] (fun L d => [W32 x, .int .i64 (-6)] ++ D d 2 15) (fun L => []) hp0 ⟨
    oA,
    trivial⟩ (fun L0 _ w1 hp1 => ?_)
  refine k1 _ _ ?_
  refine wp_seq_k (fun K2 k2 => ?_)
  refine gsD [.det (.int .i64 (-6)), .det (.int .u64 18446744073709551610), .det (.int .u64 26), .det (.int .u64 26)] [0, 1, 2, 3] [0, 1, 3, 7] (fun L d => [W32 x] ++ (D d 1 4 ++ ([.int .u64 26] ++ D d 6 11))) (fun L => []) hp1 ⟨
    oM, oCv (fun w => convIUc (-6) 18446744073709551610 (by decide) w), oJ .u64 .u64 18446744073709551610 31 (h := fun w => andUc _ 18446744073709551610 31 26 (by decide) w),
    oA,
    trivial⟩ (fun L1 _ w2 hp2 => ?_)
  refine k2 _ _ ?_
  refine wp_seq_k (fun K3 k3 => ?_)
  refine gsD [.det (W32 x), .det (.int .u64 26), .det (W32 (x <<< 26)), .det (W32 x), .det (.int .u64 26), .det (.int .u64 6), .det (W32 (x >>> 6)), .det (W32 ((x <<< 26) ||| (x >>> 6))), .det (W32 ((x <<< 26) ||| (x >>> 6)))] [0, 1, 2, 3, 4, 5, 6, 7, 8] [0, 0, 3, 0, 0, 16, 56, 127, 255] (fun L d => D d 0 4 ++ ([W32 ((x <<< 26) ||| (x >>> 6))] ++ D d 5 12)) (fun L => []) hp2 ⟨
    oM, oM, oJ .u32 .u64 (x.toNat : Int) 26 (h := fun w => shlW _ x .u64 26 (by decide) w), oM, oM, oJ .u64 .u64 32 26, oJ .u32 .u64 (x.toNat : Int) 6 (h := fun w => shrW _ x .u64 6 (by decide) w),
    oJ .u32 .u32 ((x <<< 26).toNat : Int) ((x >>> 6).toNat : Int) (h := fun w => orW _ (x <<< 26) (x >>> 6) w), oA,
    trivial⟩ (fun L2 _ w3 hp3 => ?_)
  refine k3 _ _ ?_
  refine wp_ret ?_
  refine bodyPost_ret (v := W32 ((x <<< 26) ||| (x >>> 6))) ?_ rfl ?_
  · exact res_t rfl (by kernel_rfl) _
  · exact ⟨congrArg (fun z => Ending.returned (W32 z)) (rot_left x 6), hp3.bel⟩
set_option maxHeartbeats 4000000 in
theorem shaRl7 (x : BitVec 32) (w : World) : Calls Try.prog 58 #[W32 x, .int .i64 (-7)] w (Ret (W32 (rot x 7)) w) := by
  have hp0 := Heap.start w
  go_enter Try.func58, Try.ntmps58
  refine wp_seq_k (fun K1 k1 => ?_)
  refine gsD [.det (.int .u32 0)] [0] [0] (fun L d => [W32 x, .int .i64 (-7)] ++ D d 2 15) (fun L => []) hp0 ⟨
    oA,
    trivial⟩ (fun L0 _ w1 hp1 => ?_)
  refine k1 _ _ ?_
  refine wp_seq_k (fun K2 k2 => ?_)
  refine gsD [.det (.int .i64 (-7)), .det (.int .u64 18446744073709551609), .det (.int .u64 25), .det (.int .u64 25)] [0, 1, 2, 3] [0, 1, 3, 7] (fun L d => [W32 x] ++ (D d 1 4 ++ ([.int .u64 25] ++ D d 6 11))) (fun L => []) hp1 ⟨
    oM, oCv (fun w => convIUc (-7) 18446744073709551609 (by decide) w), oJ .u64 .u64 18446744073709551609 31 (h := fun w => andUc _ 18446744073709551609 31 25 (by decide) w),
    oA,
    trivial⟩ (fun L1 _ w2 hp2 => ?_)
  refine k2 _ _ ?_
  refine wp_seq_k (fun K3 k3 => ?_)
  refine gsD [.det (W32 x), .det (.int .u64 25), .det (W32 (x <<< 25)), .det (W32 x), .det (.int .u64 25), .det (.int .u64 7), .det (W32 (x >>> 7)), .det (W32 ((x <<< 25) ||| (x >>> 7))), .det (W32 ((x <<< 25) ||| (x >>> 7)))] [0, 1, 2, 3, 4, 5, 6, 7, 8] [0, 0, 3, 0, 0, 16, 56, 127, 255] (fun L d => D d 0 4 ++ ([W32 ((x <<< 25) ||| (x >>> 7))] ++ D d 5 12)) (fun L => []) hp2 ⟨
    oM, oM, oJ .u32 .u64 (x.toNat : Int) 25 (h := fun w => shlW _ x .u64 25 (by decide) w), oM, oM, oJ .u64 .u64 32 25, oJ .u32 .u64 (x.toNat : Int) 7 (h := fun w => shrW _ x .u64 7 (by decide) w),
    oJ .u32 .u32 ((x <<< 25).toNat : Int) ((x >>> 7).toNat : Int) (h := fun w => orW _ (x <<< 25) (x >>> 7) w), oA,
    trivial⟩ (fun L2 _ w3 hp3 => ?_)
  refine k3 _ _ ?_
  refine wp_ret ?_
  refine bodyPost_ret (v := W32 ((x <<< 25) ||| (x >>> 7))) ?_ rfl ?_
  · exact res_t rfl (by kernel_rfl) _
  · exact ⟨congrArg (fun z => Ending.returned (W32 z)) (rot_left x 7), hp3.bel⟩
set_option maxHeartbeats 4000000 in
theorem shaRl11 (x : BitVec 32) (w : World) : Calls Try.prog 58 #[W32 x, .int .i64 (-11)] w (Ret (W32 (rot x 11)) w) := by
  have hp0 := Heap.start w
  go_enter Try.func58, Try.ntmps58
  refine wp_seq_k (fun K1 k1 => ?_)
  refine gsD [.det (.int .u32 0)] [0] [0] (fun L d => [W32 x, .int .i64 (-11)] ++ D d 2 15) (fun L => []) hp0 ⟨
    oA,
    trivial⟩ (fun L0 _ w1 hp1 => ?_)
  refine k1 _ _ ?_
  refine wp_seq_k (fun K2 k2 => ?_)
  refine gsD [.det (.int .i64 (-11)), .det (.int .u64 18446744073709551605), .det (.int .u64 21), .det (.int .u64 21)] [0, 1, 2, 3] [0, 1, 3, 7] (fun L d => [W32 x] ++ (D d 1 4 ++ ([.int .u64 21] ++ D d 6 11))) (fun L => []) hp1 ⟨
    oM, oCv (fun w => convIUc (-11) 18446744073709551605 (by decide) w), oJ .u64 .u64 18446744073709551605 31 (h := fun w => andUc _ 18446744073709551605 31 21 (by decide) w),
    oA,
    trivial⟩ (fun L1 _ w2 hp2 => ?_)
  refine k2 _ _ ?_
  refine wp_seq_k (fun K3 k3 => ?_)
  refine gsD [.det (W32 x), .det (.int .u64 21), .det (W32 (x <<< 21)), .det (W32 x), .det (.int .u64 21), .det (.int .u64 11), .det (W32 (x >>> 11)), .det (W32 ((x <<< 21) ||| (x >>> 11))), .det (W32 ((x <<< 21) ||| (x >>> 11)))] [0, 1, 2, 3, 4, 5, 6, 7, 8] [0, 0, 3, 0, 0, 16, 56, 127, 255] (fun L d => D d 0 4 ++ ([W32 ((x <<< 21) ||| (x >>> 11))] ++ D d 5 12)) (fun L => []) hp2 ⟨
    oM, oM, oJ .u32 .u64 (x.toNat : Int) 21 (h := fun w => shlW _ x .u64 21 (by decide) w), oM, oM, oJ .u64 .u64 32 21, oJ .u32 .u64 (x.toNat : Int) 11 (h := fun w => shrW _ x .u64 11 (by decide) w),
    oJ .u32 .u32 ((x <<< 21).toNat : Int) ((x >>> 11).toNat : Int) (h := fun w => orW _ (x <<< 21) (x >>> 11) w), oA,
    trivial⟩ (fun L2 _ w3 hp3 => ?_)
  refine k3 _ _ ?_
  refine wp_ret ?_
  refine bodyPost_ret (v := W32 ((x <<< 21) ||| (x >>> 11))) ?_ rfl ?_
  · exact res_t rfl (by kernel_rfl) _
  · exact ⟨congrArg (fun z => Ending.returned (W32 z)) (rot_left x 11), hp3.bel⟩
set_option maxHeartbeats 4000000 in
theorem shaRl13 (x : BitVec 32) (w : World) : Calls Try.prog 58 #[W32 x, .int .i64 (-13)] w (Ret (W32 (rot x 13)) w) := by
  have hp0 := Heap.start w
  go_enter Try.func58, Try.ntmps58
  refine wp_seq_k (fun K1 k1 => ?_)
  refine gsD [.det (.int .u32 0)] [0] [0] (fun L d => [W32 x, .int .i64 (-13)] ++ D d 2 15) (fun L => []) hp0 ⟨
    oA,
    trivial⟩ (fun L0 _ w1 hp1 => ?_)
  refine k1 _ _ ?_
  refine wp_seq_k (fun K2 k2 => ?_)
  refine gsD [.det (.int .i64 (-13)), .det (.int .u64 18446744073709551603), .det (.int .u64 19), .det (.int .u64 19)] [0, 1, 2, 3] [0, 1, 3, 7] (fun L d => [W32 x] ++ (D d 1 4 ++ ([.int .u64 19] ++ D d 6 11))) (fun L => []) hp1 ⟨
    oM, oCv (fun w => convIUc (-13) 18446744073709551603 (by decide) w), oJ .u64 .u64 18446744073709551603 31 (h := fun w => andUc _ 18446744073709551603 31 19 (by decide) w),
    oA,
    trivial⟩ (fun L1 _ w2 hp2 => ?_)
  refine k2 _ _ ?_
  refine wp_seq_k (fun K3 k3 => ?_)
  refine gsD [.det (W32 x), .det (.int .u64 19), .det (W32 (x <<< 19)), .det (W32 x), .det (.int .u64 19), .det (.int .u64 13), .det (W32 (x >>> 13)), .det (W32 ((x <<< 19) ||| (x >>> 13))), .det (W32 ((x <<< 19) ||| (x >>> 13)))] [0, 1, 2, 3, 4, 5, 6, 7, 8] [0, 0, 3, 0, 0, 16, 56, 127, 255] (fun L d => D d 0 4 ++ ([W32 ((x <<< 19) ||| (x >>> 13))] ++ D d 5 12)) (fun L => []) hp2 ⟨
    oM, oM, oJ .u32 .u64 (x.toNat : Int) 19 (h := fun w => shlW _ x .u64 19 (by decide) w), oM, oM, oJ .u64 .u64 32 19, oJ .u32 .u64 (x.toNat : Int) 13 (h := fun w => shrW _ x .u64 13 (by decide) w),
    oJ .u32 .u32 ((x <<< 19).toNat : Int) ((x >>> 13).toNat : Int) (h := fun w => orW _ (x <<< 19) (x >>> 13) w), oA,
    trivial⟩ (fun L2 _ w3 hp3 => ?_)
  refine k3 _ _ ?_
  refine wp_ret ?_
  refine bodyPost_ret (v := W32 ((x <<< 19) ||| (x >>> 13))) ?_ rfl ?_
  · exact res_t rfl (by kernel_rfl) _
  · exact ⟨congrArg (fun z => Ending.returned (W32 z)) (rot_left x 13), hp3.bel⟩
set_option maxHeartbeats 4000000 in
theorem shaRl17 (x : BitVec 32) (w : World) : Calls Try.prog 58 #[W32 x, .int .i64 (-17)] w (Ret (W32 (rot x 17)) w) := by
  have hp0 := Heap.start w
  go_enter Try.func58, Try.ntmps58
  refine wp_seq_k (fun K1 k1 => ?_)
  refine gsD [.det (.int .u32 0)] [0] [0] (fun L d => [W32 x, .int .i64 (-17)] ++ D d 2 15) (fun L => []) hp0 ⟨
    oA,
    trivial⟩ (fun L0 _ w1 hp1 => ?_)
  refine k1 _ _ ?_
  refine wp_seq_k (fun K2 k2 => ?_)
  refine gsD [.det (.int .i64 (-17)), .det (.int .u64 18446744073709551599), .det (.int .u64 15), .det (.int .u64 15)] [0, 1, 2, 3] [0, 1, 3, 7] (fun L d => [W32 x] ++ (D d 1 4 ++ ([.int .u64 15] ++ D d 6 11))) (fun L => []) hp1 ⟨
    oM, oCv (fun w => convIUc (-17) 18446744073709551599 (by decide) w), oJ .u64 .u64 18446744073709551599 31 (h := fun w => andUc _ 18446744073709551599 31 15 (by decide) w),
    oA,
    trivial⟩ (fun L1 _ w2 hp2 => ?_)
  refine k2 _ _ ?_
  refine wp_seq_k (fun K3 k3 => ?_)
  refine gsD [.det (W32 x), .det (.int .u64 15), .det (W32 (x <<< 15)), .det (W32 x), .det (.int .u64 15), .det (.int .u64 17), .det (W32 (x >>> 17)), .det (W32 ((x <<< 15) ||| (x >>> 17))), .det (W32 ((x <<< 15) ||| (x >>> 17)))] [0, 1, 2, 3, 4, 5, 6, 7, 8] [0, 0, 3, 0, 0, 16, 56, 127, 255] (fun L d => D d 0 4 ++ ([W32 ((x <<< 15) ||| (x >>> 17))] ++ D d 5 12)) (fun L => []) hp2 ⟨
    oM, oM, oJ .u32 .u64 (x.toNat : Int) 15 (h := fun w => shlW _ x .u64 15 (by decide) w), oM, oM, oJ .u64 .u64 32 15, oJ .u32 .u64 (x.toNat : Int) 17 (h := fun w => shrW _ x .u64 17 (by decide) w),
    oJ .u32 .u32 ((x <<< 15).toNat : Int) ((x >>> 17).toNat : Int) (h := fun w => orW _ (x <<< 15) (x >>> 17) w), oA,
    trivial⟩ (fun L2 _ w3 hp3 => ?_)
  refine k3 _ _ ?_
  refine wp_ret ?_
  refine bodyPost_ret (v := W32 ((x <<< 15) ||| (x >>> 17))) ?_ rfl ?_
  · exact res_t rfl (by kernel_rfl) _
  · exact ⟨congrArg (fun z => Ending.returned (W32 z)) (rot_left x 17), hp3.bel⟩
set_option maxHeartbeats 4000000 in
theorem shaRl18 (x : BitVec 32) (w : World) : Calls Try.prog 58 #[W32 x, .int .i64 (-18)] w (Ret (W32 (rot x 18)) w) := by
  have hp0 := Heap.start w
  go_enter Try.func58, Try.ntmps58
  refine wp_seq_k (fun K1 k1 => ?_)
  refine gsD [.det (.int .u32 0)] [0] [0] (fun L d => [W32 x, .int .i64 (-18)] ++ D d 2 15) (fun L => []) hp0 ⟨
    oA,
    trivial⟩ (fun L0 _ w1 hp1 => ?_)
  refine k1 _ _ ?_
  refine wp_seq_k (fun K2 k2 => ?_)
  refine gsD [.det (.int .i64 (-18)), .det (.int .u64 18446744073709551598), .det (.int .u64 14), .det (.int .u64 14)] [0, 1, 2, 3] [0, 1, 3, 7] (fun L d => [W32 x] ++ (D d 1 4 ++ ([.int .u64 14] ++ D d 6 11))) (fun L => []) hp1 ⟨
    oM, oCv (fun w => convIUc (-18) 18446744073709551598 (by decide) w), oJ .u64 .u64 18446744073709551598 31 (h := fun w => andUc _ 18446744073709551598 31 14 (by decide) w),
    oA,
    trivial⟩ (fun L1 _ w2 hp2 => ?_)
  refine k2 _ _ ?_
  refine wp_seq_k (fun K3 k3 => ?_)
  refine gsD [.det (W32 x), .det (.int .u64 14), .det (W32 (x <<< 14)), .det (W32 x), .det (.int .u64 14), .det (.int .u64 18), .det (W32 (x >>> 18)), .det (W32 ((x <<< 14) ||| (x >>> 18))), .det (W32 ((x <<< 14) ||| (x >>> 18)))] [0, 1, 2, 3, 4, 5, 6, 7, 8] [0, 0, 3, 0, 0, 16, 56, 127, 255] (fun L d => D d 0 4 ++ ([W32 ((x <<< 14) ||| (x >>> 18))] ++ D d 5 12)) (fun L => []) hp2 ⟨
    oM, oM, oJ .u32 .u64 (x.toNat : Int) 14 (h := fun w => shlW _ x .u64 14 (by decide) w), oM, oM, oJ .u64 .u64 32 14, oJ .u32 .u64 (x.toNat : Int) 18 (h := fun w => shrW _ x .u64 18 (by decide) w),
    oJ .u32 .u32 ((x <<< 14).toNat : Int) ((x >>> 18).toNat : Int) (h := fun w => orW _ (x <<< 14) (x >>> 18) w), oA,
    trivial⟩ (fun L2 _ w3 hp3 => ?_)
  refine k3 _ _ ?_
  refine wp_ret ?_
  refine bodyPost_ret (v := W32 ((x <<< 14) ||| (x >>> 18))) ?_ rfl ?_
  · exact res_t rfl (by kernel_rfl) _
  · exact ⟨congrArg (fun z => Ending.returned (W32 z)) (rot_left x 18), hp3.bel⟩
set_option maxHeartbeats 4000000 in
theorem shaRl19 (x : BitVec 32) (w : World) : Calls Try.prog 58 #[W32 x, .int .i64 (-19)] w (Ret (W32 (rot x 19)) w) := by
  have hp0 := Heap.start w
  go_enter Try.func58, Try.ntmps58
  refine wp_seq_k (fun K1 k1 => ?_)
  refine gsD [.det (.int .u32 0)] [0] [0] (fun L d => [W32 x, .int .i64 (-19)] ++ D d 2 15) (fun L => []) hp0 ⟨
    oA,
    trivial⟩ (fun L0 _ w1 hp1 => ?_)
  refine k1 _ _ ?_
  refine wp_seq_k (fun K2 k2 => ?_)
  refine gsD [.det (.int .i64 (-19)), .det (.int .u64 18446744073709551597), .det (.int .u64 13), .det (.int .u64 13)] [0, 1, 2, 3] [0, 1, 3, 7] (fun L d => [W32 x] ++ (D d 1 4 ++ ([.int .u64 13] ++ D d 6 11))) (fun L => []) hp1 ⟨
    oM, oCv (fun w => convIUc (-19) 18446744073709551597 (by decide) w), oJ .u64 .u64 18446744073709551597 31 (h := fun w => andUc _ 18446744073709551597 31 13 (by decide) w),
    oA,
    trivial⟩ (fun L1 _ w2 hp2 => ?_)
  refine k2 _ _ ?_
  refine wp_seq_k (fun K3 k3 => ?_)
  refine gsD [.det (W32 x), .det (.int .u64 13), .det (W32 (x <<< 13)), .det (W32 x), .det (.int .u64 13), .det (.int .u64 19), .det (W32 (x >>> 19)), .det (W32 ((x <<< 13) ||| (x >>> 19))), .det (W32 ((x <<< 13) ||| (x >>> 19)))] [0, 1, 2, 3, 4, 5, 6, 7, 8] [0, 0, 3, 0, 0, 16, 56, 127, 255] (fun L d => D d 0 4 ++ ([W32 ((x <<< 13) ||| (x >>> 19))] ++ D d 5 12)) (fun L => []) hp2 ⟨
    oM, oM, oJ .u32 .u64 (x.toNat : Int) 13 (h := fun w => shlW _ x .u64 13 (by decide) w), oM, oM, oJ .u64 .u64 32 13, oJ .u32 .u64 (x.toNat : Int) 19 (h := fun w => shrW _ x .u64 19 (by decide) w),
    oJ .u32 .u32 ((x <<< 13).toNat : Int) ((x >>> 19).toNat : Int) (h := fun w => orW _ (x <<< 13) (x >>> 19) w), oA,
    trivial⟩ (fun L2 _ w3 hp3 => ?_)
  refine k3 _ _ ?_
  refine wp_ret ?_
  refine bodyPost_ret (v := W32 ((x <<< 13) ||| (x >>> 19))) ?_ rfl ?_
  · exact res_t rfl (by kernel_rfl) _
  · exact ⟨congrArg (fun z => Ending.returned (W32 z)) (rot_left x 19), hp3.bel⟩
set_option maxHeartbeats 4000000 in
theorem shaRl22 (x : BitVec 32) (w : World) : Calls Try.prog 58 #[W32 x, .int .i64 (-22)] w (Ret (W32 (rot x 22)) w) := by
  have hp0 := Heap.start w
  go_enter Try.func58, Try.ntmps58
  refine wp_seq_k (fun K1 k1 => ?_)
  refine gsD [.det (.int .u32 0)] [0] [0] (fun L d => [W32 x, .int .i64 (-22)] ++ D d 2 15) (fun L => []) hp0 ⟨
    oA,
    trivial⟩ (fun L0 _ w1 hp1 => ?_)
  refine k1 _ _ ?_
  refine wp_seq_k (fun K2 k2 => ?_)
  refine gsD [.det (.int .i64 (-22)), .det (.int .u64 18446744073709551594), .det (.int .u64 10), .det (.int .u64 10)] [0, 1, 2, 3] [0, 1, 3, 7] (fun L d => [W32 x] ++ (D d 1 4 ++ ([.int .u64 10] ++ D d 6 11))) (fun L => []) hp1 ⟨
    oM, oCv (fun w => convIUc (-22) 18446744073709551594 (by decide) w), oJ .u64 .u64 18446744073709551594 31 (h := fun w => andUc _ 18446744073709551594 31 10 (by decide) w),
    oA,
    trivial⟩ (fun L1 _ w2 hp2 => ?_)
  refine k2 _ _ ?_
  refine wp_seq_k (fun K3 k3 => ?_)
  refine gsD [.det (W32 x), .det (.int .u64 10), .det (W32 (x <<< 10)), .det (W32 x), .det (.int .u64 10), .det (.int .u64 22), .det (W32 (x >>> 22)), .det (W32 ((x <<< 10) ||| (x >>> 22))), .det (W32 ((x <<< 10) ||| (x >>> 22)))] [0, 1, 2, 3, 4, 5, 6, 7, 8] [0, 0, 3, 0, 0, 16, 56, 127, 255] (fun L d => D d 0 4 ++ ([W32 ((x <<< 10) ||| (x >>> 22))] ++ D d 5 12)) (fun L => []) hp2 ⟨
    oM, oM, oJ .u32 .u64 (x.toNat : Int) 10 (h := fun w => shlW _ x .u64 10 (by decide) w), oM, oM, oJ .u64 .u64 32 10, oJ .u32 .u64 (x.toNat : Int) 22 (h := fun w => shrW _ x .u64 22 (by decide) w),
    oJ .u32 .u32 ((x <<< 10).toNat : Int) ((x >>> 22).toNat : Int) (h := fun w => orW _ (x <<< 10) (x >>> 22) w), oA,
    trivial⟩ (fun L2 _ w3 hp3 => ?_)
  refine k3 _ _ ?_
  refine wp_ret ?_
  refine bodyPost_ret (v := W32 ((x <<< 10) ||| (x >>> 22))) ?_ rfl ?_
  · exact res_t rfl (by kernel_rfl) _
  · exact ⟨congrArg (fun z => Ending.returned (W32 z)) (rot_left x 22), hp3.bel⟩
set_option maxHeartbeats 4000000 in
theorem shaRl25 (x : BitVec 32) (w : World) : Calls Try.prog 58 #[W32 x, .int .i64 (-25)] w (Ret (W32 (rot x 25)) w) := by
  have hp0 := Heap.start w
  go_enter Try.func58, Try.ntmps58
  refine wp_seq_k (fun K1 k1 => ?_)
  refine gsD [.det (.int .u32 0)] [0] [0] (fun L d => [W32 x, .int .i64 (-25)] ++ D d 2 15) (fun L => []) hp0 ⟨
    oA,
    trivial⟩ (fun L0 _ w1 hp1 => ?_)
  refine k1 _ _ ?_
  refine wp_seq_k (fun K2 k2 => ?_)
  refine gsD [.det (.int .i64 (-25)), .det (.int .u64 18446744073709551591), .det (.int .u64 7), .det (.int .u64 7)] [0, 1, 2, 3] [0, 1, 3, 7] (fun L d => [W32 x] ++ (D d 1 4 ++ ([.int .u64 7] ++ D d 6 11))) (fun L => []) hp1 ⟨
    oM, oCv (fun w => convIUc (-25) 18446744073709551591 (by decide) w), oJ .u64 .u64 18446744073709551591 31 (h := fun w => andUc _ 18446744073709551591 31 7 (by decide) w),
    oA,
    trivial⟩ (fun L1 _ w2 hp2 => ?_)
  refine k2 _ _ ?_
  refine wp_seq_k (fun K3 k3 => ?_)
  refine gsD [.det (W32 x), .det (.int .u64 7), .det (W32 (x <<< 7)), .det (W32 x), .det (.int .u64 7), .det (.int .u64 25), .det (W32 (x >>> 25)), .det (W32 ((x <<< 7) ||| (x >>> 25))), .det (W32 ((x <<< 7) ||| (x >>> 25)))] [0, 1, 2, 3, 4, 5, 6, 7, 8] [0, 0, 3, 0, 0, 16, 56, 127, 255] (fun L d => D d 0 4 ++ ([W32 ((x <<< 7) ||| (x >>> 25))] ++ D d 5 12)) (fun L => []) hp2 ⟨
    oM, oM, oJ .u32 .u64 (x.toNat : Int) 7 (h := fun w => shlW _ x .u64 7 (by decide) w), oM, oM, oJ .u64 .u64 32 7, oJ .u32 .u64 (x.toNat : Int) 25 (h := fun w => shrW _ x .u64 25 (by decide) w),
    oJ .u32 .u32 ((x <<< 7).toNat : Int) ((x >>> 25).toNat : Int) (h := fun w => orW _ (x <<< 7) (x >>> 25) w), oA,
    trivial⟩ (fun L2 _ w3 hp3 => ?_)
  refine k3 _ _ ?_
  refine wp_ret ?_
  refine bodyPost_ret (v := W32 ((x <<< 7) ||| (x >>> 25))) ?_ rfl ?_
  · exact res_t rfl (by kernel_rfl) _
  · exact ⟨congrArg (fun z => Ending.returned (W32 z)) (rot_left x 25), hp3.bel⟩
set_option maxHeartbeats 4000000 in
theorem shaTurned6 (x : BitVec 32) (w : World) : Calls Try.prog 47 #[W32 x, .int .i64 6, .int .i64 11, .int .i64 25] w (Ret (W32 (rot x 6 ^^^ rot x 11 ^^^ rot x 25)) w) := by
  have hp0 := Heap.start w
  go_enter Try.func47, Try.ntmps47
  refine wp_seq_k (fun K1 k1 => ?_)
  refine gsD [.det (.int .u32 0)] [0] [0] (fun L d => [W32 x, .int .i64 6, .int .i64 11, .int .i64 25] ++ D d 4 19) (fun L => []) hp0 ⟨
    oA,
    trivial⟩ (fun L0 _ w1 hp1 => ?_)
  refine k1 _ _ ?_
  refine wp_seq_k (fun K2 k2 => ?_)
  refine gsD [.det (W32 x), .det (.int .i64 6), .det (.int .i64 (-6)), .det (W32 (rot x 6)), .det (W32 x), .det (.int .i64 11), .det (.int .i64 (-11)), .det (W32 (rot x 11)), .det (W32 ((rot x 6) ^^^ (rot x 11))), .det (W32 x), .det (.int .i64 25), .det (.int .i64 (-25)), .det (W32 (rot x 25)), .det (W32 (((rot x 6) ^^^ (rot x 11)) ^^^ (rot x 25))), .det (W32 (((rot x 6) ^^^ (rot x 11)) ^^^ (rot x 25)))] [0, 1, 2, 3, 4, 5, 6, 7, 8, 9, 10, 11, 12, 13, 14] [0, 0, 2, 7, 0, 0, 32, 127, 255, 0, 0, 1024, 3839, 8191, 16383] (fun L d => D d 0 8 ++ ([W32 (((rot x 6) ^^^ (rot x 11)) ^^^ (rot x 25))] ++ D d 9 14)) (fun L => []) hp1 ⟨
    oM, oM, oNG (n := 6) (r := (-6)), oR (shaRl6 x), oM, oM, oNG (n := 11) (r := (-11)), oR (shaRl11 x), oJ .u32 .u32 ((rot x 6).toNat : Int) ((rot x 11).toNat : Int) (h := fun w => xorW _ (rot x 6) (rot x 11) w),
    oM, oM, oNG (n := 25) (r := (-25)), oR (shaRl25 x), oJ .u32 .u32 (((rot x 6) ^^^ (rot x 11)).toNat : Int) ((rot x 25).toNat : Int) (h := fun w => xorW _ ((rot x 6) ^^^ (rot x 11)) (rot x 25) w),
    oA,
    trivial⟩ (fun L1 _ w2 hp2 => ?_)
  refine k2 _ _ ?_
  refine wp_ret ?_
  refine bodyPost_ret (v := W32 (((rot x 6) ^^^ (rot x 11)) ^^^ (rot x 25))) ?_ rfl ?_
  · exact res_t rfl (by kernel_rfl) _
  · exact ⟨rfl, hp2.bel⟩
set_option maxHeartbeats 4000000 in
theorem shaTurned2 (x : BitVec 32) (w : World) : Calls Try.prog 47 #[W32 x, .int .i64 2, .int .i64 13, .int .i64 22] w (Ret (W32 (rot x 2 ^^^ rot x 13 ^^^ rot x 22)) w) := by
  have hp0 := Heap.start w
  go_enter Try.func47, Try.ntmps47
  refine wp_seq_k (fun K1 k1 => ?_)
  refine gsD [.det (.int .u32 0)] [0] [0] (fun L d => [W32 x, .int .i64 2, .int .i64 13, .int .i64 22] ++ D d 4 19) (fun L => []) hp0 ⟨
    oA,
    trivial⟩ (fun L0 _ w1 hp1 => ?_)
  refine k1 _ _ ?_
  refine wp_seq_k (fun K2 k2 => ?_)
  refine gsD [.det (W32 x), .det (.int .i64 2), .det (.int .i64 (-2)), .det (W32 (rot x 2)), .det (W32 x), .det (.int .i64 13), .det (.int .i64 (-13)), .det (W32 (rot x 13)), .det (W32 ((rot x 2) ^^^ (rot x 13))), .det (W32 x), .det (.int .i64 22), .det (.int .i64 (-22)), .det (W32 (rot x 22)), .det (W32 (((rot x 2) ^^^ (rot x 13)) ^^^ (rot x 22))), .det (W32 (((rot x 2) ^^^ (rot x 13)) ^^^ (rot x 22)))] [0, 1, 2, 3, 4, 5, 6, 7, 8, 9, 10, 11, 12, 13, 14] [0, 0, 2, 7, 0, 0, 32, 127, 255, 0, 0, 1024, 3839, 8191, 16383] (fun L d => D d 0 8 ++ ([W32 (((rot x 2) ^^^ (rot x 13)) ^^^ (rot x 22))] ++ D d 9 14)) (fun L => []) hp1 ⟨
    oM, oM, oNG (n := 2) (r := (-2)), oR (shaRl2 x), oM, oM, oNG (n := 13) (r := (-13)), oR (shaRl13 x), oJ .u32 .u32 ((rot x 2).toNat : Int) ((rot x 13).toNat : Int) (h := fun w => xorW _ (rot x 2) (rot x 13) w),
    oM, oM, oNG (n := 22) (r := (-22)), oR (shaRl22 x), oJ .u32 .u32 (((rot x 2) ^^^ (rot x 13)).toNat : Int) ((rot x 22).toNat : Int) (h := fun w => xorW _ ((rot x 2) ^^^ (rot x 13)) (rot x 22) w),
    oA,
    trivial⟩ (fun L1 _ w2 hp2 => ?_)
  refine k2 _ _ ?_
  refine wp_ret ?_
  refine bodyPost_ret (v := W32 (((rot x 2) ^^^ (rot x 13)) ^^^ (rot x 22))) ?_ rfl ?_
  · exact res_t rfl (by kernel_rfl) _
  · exact ⟨rfl, hp2.bel⟩
set_option maxHeartbeats 4000000 in
theorem shaShifted7 (x : BitVec 32) (w : World) : Calls Try.prog 50 #[W32 x, .int .i64 7, .int .i64 18, .int .i64 3] w (Ret (W32 (rot x 7 ^^^ rot x 18 ^^^ x >>> 3)) w) := by
  have hp0 := Heap.start w
  go_enter Try.func50, Try.ntmps50
  refine wp_seq_k (fun K1 k1 => ?_)
  refine gsD [.det (.int .u32 0)] [0] [0] (fun L d => [W32 x, .int .i64 7, .int .i64 18, .int .i64 3] ++ D d 4 18) (fun L => []) hp0 ⟨
    oA,
    trivial⟩ (fun L0 _ w1 hp1 => ?_)
  refine k1 _ _ ?_
  refine wp_seq_k (fun K2 k2 => ?_)
  refine drD [.det (W32 x), .det (.int .i64 7), .det (.int .i64 (-7)), .det (W32 (rot x 7)), .det (W32 x), .det (.int .i64 18), .det (.int .i64 (-18)), .det (W32 (rot x 18)), .det (W32 ((rot x 7) ^^^ (rot x 18))), .det (W32 x), .det (.int .i64 3), .det (W32 (x >>> 3)), .det (W32 (((rot x 7) ^^^ (rot x 18)) ^^^ (x >>> 3))), .det (W32 (((rot x 7) ^^^ (rot x 18)) ^^^ (x >>> 3)))] [0, 1, 2, 3, 4, 5, 6, 7, 8, 9, 10, 11, 12, 13] [0, 0, 2, 7, 0, 0, 32, 127, 255, 0, 0, 1536, 4095, 8191] (fun L d => D d 0 8 ++ ([W32 (((rot x 7) ^^^ (rot x 18)) ^^^ (x >>> 3))] ++ D d 9 13)) (fun L => []) hp1 ⟨
    oM, oM, oNG (n := 7) (r := (-7)), oR (shaRl7 x), oM, oM, oNG (n := 18) (r := (-18)), oR (shaRl18 x), oJ .u32 .u32 ((rot x 7).toNat : Int) ((rot x 18).toNat : Int) (h := fun w => xorW _ (rot x 7) (rot x 18) w),
    oM, oM, oJ .u32 .i64 (x.toNat : Int) 3 (h := fun w => shrW _ x .i64 3 (by decide) w), oJ .u32 .u32 (((rot x 7) ^^^ (rot x 18)).toNat : Int) ((x >>> 3).toNat : Int) (h := fun w => xorW _ ((rot x 7) ^^^ (rot x 18)) (x >>> 3) w),
    oA,
    trivial⟩ (fun L1 _ w2 hp2 => ?_)
  refine k2 _ _ ?_
  refine wp_ret ?_
  refine bodyPost_ret (v := W32 (((rot x 7) ^^^ (rot x 18)) ^^^ (x >>> 3))) ?_ rfl ?_
  · exact res_t rfl (by kernel_rfl) _
  · exact ⟨rfl, hp2.bel⟩
set_option maxHeartbeats 4000000 in
theorem shaShifted17 (x : BitVec 32) (w : World) : Calls Try.prog 50 #[W32 x, .int .i64 17, .int .i64 19, .int .i64 10] w (Ret (W32 (rot x 17 ^^^ rot x 19 ^^^ x >>> 10)) w) := by
  have hp0 := Heap.start w
  go_enter Try.func50, Try.ntmps50
  refine wp_seq_k (fun K1 k1 => ?_)
  refine gsD [.det (.int .u32 0)] [0] [0] (fun L d => [W32 x, .int .i64 17, .int .i64 19, .int .i64 10] ++ D d 4 18) (fun L => []) hp0 ⟨
    oA,
    trivial⟩ (fun L0 _ w1 hp1 => ?_)
  refine k1 _ _ ?_
  refine wp_seq_k (fun K2 k2 => ?_)
  refine drD [.det (W32 x), .det (.int .i64 17), .det (.int .i64 (-17)), .det (W32 (rot x 17)), .det (W32 x), .det (.int .i64 19), .det (.int .i64 (-19)), .det (W32 (rot x 19)), .det (W32 ((rot x 17) ^^^ (rot x 19))), .det (W32 x), .det (.int .i64 10), .det (W32 (x >>> 10)), .det (W32 (((rot x 17) ^^^ (rot x 19)) ^^^ (x >>> 10))), .det (W32 (((rot x 17) ^^^ (rot x 19)) ^^^ (x >>> 10)))] [0, 1, 2, 3, 4, 5, 6, 7, 8, 9, 10, 11, 12, 13] [0, 0, 2, 7, 0, 0, 32, 127, 255, 0, 0, 1536, 4095, 8191] (fun L d => D d 0 8 ++ ([W32 (((rot x 17) ^^^ (rot x 19)) ^^^ (x >>> 10))] ++ D d 9 13)) (fun L => []) hp1 ⟨
    oM, oM, oNG (n := 17) (r := (-17)), oR (shaRl17 x), oM, oM, oNG (n := 19) (r := (-19)), oR (shaRl19 x), oJ .u32 .u32 ((rot x 17).toNat : Int) ((rot x 19).toNat : Int) (h := fun w => xorW _ (rot x 17) (rot x 19) w),
    oM, oM, oJ .u32 .i64 (x.toNat : Int) 10 (h := fun w => shrW _ x .i64 10 (by decide) w), oJ .u32 .u32 (((rot x 17) ^^^ (rot x 19)).toNat : Int) ((x >>> 10).toNat : Int) (h := fun w => xorW _ ((rot x 17) ^^^ (rot x 19)) (x >>> 10) w),
    oA,
    trivial⟩ (fun L1 _ w2 hp2 => ?_)
  refine k2 _ _ ?_
  refine wp_ret ?_
  refine bodyPost_ret (v := W32 (((rot x 17) ^^^ (rot x 19)) ^^^ (x >>> 10))) ?_ rfl ?_
  · exact res_t rfl (by kernel_rfl) _
  · exact ⟨rfl, hp2.bel⟩
set_option maxHeartbeats 4000000 in
theorem shaChoose (x y z : BitVec 32) (w : World) : Calls Try.prog 48 #[W32 x, W32 y, W32 z] w (Ret (W32 (x &&& y ^^^ ~~~x &&& z)) w) := by
  have hp0 := Heap.start w
  go_enter Try.func48, Try.ntmps48
  refine wp_seq_k (fun K1 k1 => ?_)
  refine gsD [.det (.int .u32 0)] [0] [0] (fun L d => [W32 x, W32 y, W32 z] ++ D d 3 12) (fun L => []) hp0 ⟨
    oA,
    trivial⟩ (fun L0 _ w1 hp1 => ?_)
  refine k1 _ _ ?_
  refine wp_seq_k (fun K2 k2 => ?_)
  refine gsD [.det (W32 x), .det (W32 y), .det (W32 (x &&& y)), .det (W32 x), .det (W32 (~~~x)), .det (W32 z), .det (W32 ((~~~x) &&& z)), .det (W32 ((x &&& y) ^^^ ((~~~x) &&& z))), .det (W32 ((x &&& y) ^^^ ((~~~x) &&& z)))] [0, 1, 2, 3, 4, 5, 6, 7, 8] [0, 0, 3, 0, 8, 0, 56, 127, 255] (fun L d => D d 0 6 ++ ([W32 ((x &&& y) ^^^ ((~~~x) &&& z))] ++ D d 7 8)) (fun L => []) hp1 ⟨
    oM, oM, oJ .u32 .u32 (x.toNat : Int) (y.toNat : Int) (h := fun w => andW _ x y w), oM, oWN, oM, oJ .u32 .u32 ((~~~x).toNat : Int) (z.toNat : Int) (h := fun w => andW _ (~~~x) z w),
    oJ .u32 .u32 ((x &&& y).toNat : Int) (((~~~x) &&& z).toNat : Int) (h := fun w => xorW _ (x &&& y) ((~~~x) &&& z) w), oA,
    trivial⟩ (fun L1 _ w2 hp2 => ?_)
  refine k2 _ _ ?_
  refine wp_ret ?_
  refine bodyPost_ret (v := W32 ((x &&& y) ^^^ ((~~~x) &&& z))) ?_ rfl ?_
  · exact res_t rfl (by kernel_rfl) _
  · exact ⟨rfl, hp2.bel⟩
set_option maxHeartbeats 4000000 in
theorem shaMost (x y z : BitVec 32) (w : World) : Calls Try.prog 49 #[W32 x, W32 y, W32 z] w (Ret (W32 (x &&& y ^^^ x &&& z ^^^ y &&& z)) w) := by
  have hp0 := Heap.start w
  go_enter Try.func49, Try.ntmps49
  refine wp_seq_k (fun K1 k1 => ?_)
  refine gsD [.det (.int .u32 0)] [0] [0] (fun L d => [W32 x, W32 y, W32 z] ++ D d 3 15) (fun L => []) hp0 ⟨
    oA,
    trivial⟩ (fun L0 _ w1 hp1 => ?_)
  refine k1 _ _ ?_
  refine wp_seq_k (fun K2 k2 => ?_)
  refine gsD [.det (W32 x), .det (W32 y), .det (W32 (x &&& y)), .det (W32 x), .det (W32 z), .det (W32 (x &&& z)), .det (W32 ((x &&& y) ^^^ (x &&& z))), .det (W32 y), .det (W32 z), .det (W32 (y &&& z)), .det (W32 (((x &&& y) ^^^ (x &&& z)) ^^^ (y &&& z))), .det (W32 (((x &&& y) ^^^ (x &&& z)) ^^^ (y &&& z)))] [0, 1, 2, 3, 4, 5, 6, 7, 8, 9, 10, 11] [0, 0, 3, 0, 0, 24, 63, 0, 0, 384, 1023, 2047] (fun L d => D d 0 6 ++ ([W32 (((x &&& y) ^^^ (x &&& z)) ^^^ (y &&& z))] ++ D d 7 11)) (fun L => []) hp1 ⟨
    oM, oM, oJ .u32 .u32 (x.toNat : Int) (y.toNat : Int) (h := fun w => andW _ x y w), oM, oM, oJ .u32 .u32 (x.toNat : Int) (z.toNat : Int) (h := fun w => andW _ x z w),
    oJ .u32 .u32 ((x &&& y).toNat : Int) ((x &&& z).toNat : Int) (h := fun w => xorW _ (x &&& y) (x &&& z) w), oM, oM, oJ .u32 .u32 (y.toNat : Int) (z.toNat : Int) (h := fun w => andW _ y z w),
    oJ .u32 .u32 (((x &&& y) ^^^ (x &&& z)).toNat : Int) ((y &&& z).toNat : Int) (h := fun w => xorW _ ((x &&& y) ^^^ (x &&& z)) (y &&& z) w), oA,
    trivial⟩ (fun L1 _ w2 hp2 => ?_)
  refine k2 _ _ ?_
  refine wp_ret ?_
  refine bodyPost_ret (v := W32 (((x &&& y) ^^^ (x &&& z)) ^^^ (y &&& z))) ?_ rfl ?_
  · exact res_t rfl (by kernel_rfl) _
  · exact ⟨rfl, hp2.bel⟩
def spI1 (c : Nat → Int) (w : World) (q0 q1 : Nat) : Nat → Act → World → Prop := fun L a' w' => ∃ (m : Nat) (d : Nat → Value),
  a' = { tmps := ([d 0, .pointer (some ⟨q0, 0, none⟩), .pointer (some ⟨q1, 0, none⟩)] ++ (D d 3 3 ++ ([VB c 64, .int .i64 ((m : Nat) : Int)] ++ D d 8 43)) : List Value).toArray, defers := [] } ∧ m + L = 64 ∧ Heap w.heap.size w w' [(q0, BC c 64), (q1, AW (wst c m) 64)]

def spI2 (c : Nat → Int) (w1 : Nat → BitVec 32) (w : World) (q0 q1 : Nat) : Nat → Act → World → Prop := fun L a' w' => ∃ (m : Nat) (d : Nat → Value),
  a' = { tmps := ([d 0, .pointer (some ⟨q0, 0, none⟩), .pointer (some ⟨q1, 0, none⟩)] ++ (D d 3 2 ++ ([.int .i64 ((m + 16 : Nat) : Int)] ++ D d 6 45)) : List Value).toArray, defers := [] } ∧ m + L = 48 ∧ Heap w.heap.size w w' [(q0, BC c 64), (q1, AW (wex w1 m) 64)]

set_option maxHeartbeats 4000000 in
theorem shaSpread (c : Nat → Int) (hc : ∀ i, i < 64 → 0 ≤ c i ∧ c i < 256) (w : World) : Calls Try.prog 38 #[VB c 64] w (Ret (VW (wex (wst c 64) 48) 64) w) := by
  have hp0 := Heap.start w
  go_enter Try.func38, Try.ntmps38
  refine wp_seq_k (fun K1 k1 => ?_)
  refine gs [.alloc (BC c 64), .alloc (AW (fun _ => 0) 64)] [0, 1] [0, 0] (fun L => [VB c 64, L.p 0, L.p 1] ++ U 48) (fun L => [(L.b 0, BC c 64), (L.b 1, AW (fun _ => 0) 64)]) hp0 ⟨
    oB, oZ rW64,
    trivial⟩ (fun L0 w1 hp1 => ?_)
  refine k1 _ _ ?_
  refine wp_seq_k (fun K2 k2 => ?_)
  refine wp_seq_k (fun K3 k3 => ?_)
  refine gs [.det (VB c 64), .det (.int .i64 0)] [0, 1] [0, 0] (fun L => [VB c 64, L0.p 0, L0.p 1, undef, undef, undef, VB c 64, .int .i64 0] ++ U 43) (fun L => [(L0.b 0, BC c 64), (L0.b 1, AW (fun _ => 0) 64)]) hp1 ⟨
    oL 0 0 rB64, oM,
    trivial⟩ (fun L1 w2 hp2 => ?_)
  refine k3 _ _ ?_
  refine wp_block_k (fun K4 k4 => ?_)
  refine wp_loop_ghost (spI1 c w (L0.b 0) (L0.b 1)) 64 ⟨0, (fun zz => ([VB c 64, L0.p 0, L0.p 1, undef, undef, undef, VB c 64, .int .i64 0] ++ U 43 : List Value).getD zz undef), by kernel_rfl, Nat.zero_add _, by rw [wst_0]; exact hp2⟩ ?_
  rintro L a' W ⟨m, d, rfl, hL, hJ⟩
  by_cases hL0 : L = 0
  rotate_left
  · skip
    have hm : m < 64 := by omega
    refine wp_seq_k (fun K5 k5 => ?_)
    refine gs [.det (.bool true)] [0] [0] (fun L => [d 0, L0.p 0, L0.p 1] ++ (D d 3 3 ++ ([VB c 64, .int .i64 ((m : Nat) : Int), .bool true] ++ D d 9 42))) (fun L => [(L0.b 0, BC c 64), (L0.b 1, AW (wst c m) 64)]) hJ ⟨
      oJ .i64 .i64 ((m : Nat) : Int) 64 (h := fun w => (lssI _ _ _ w).trans (by rw [decide_eq_true (by omega)])),
      trivial⟩ (fun L2 w3 hp3 => ?_)
    refine k5 _ _ ?_
    refine wp_seq_k (fun K6 k6 => ?_)
    refine wp_cond_true (by kernel_rfl) ?_
    refine skips ?_
    refine k6 _ _ ?_
    refine wp_seq_k (fun K7 k7 => ?_)
    refine wp_block_k (fun K8 k8 => ?_)
    refine wp_seq_k (fun K9 k9 => ?_)
    refine gs [.det (.int .i64 ((m : Nat) : Int)), .det (.int .u8 (c m)), .det (.int .i64 ((m : Nat) : Int)), .det (.int .u8 (c m))] [0, 1, 2, 3] [0, 0, 3, 7] (fun L => [d 0, L0.p 0, L0.p 1, .int .i64 ((m : Nat) : Int), .int .u8 (c m), d 5, VB c 64, .int .i64 ((m : Nat) : Int), .bool true, .int .i64 ((m : Nat) : Int), .int .u8 (c m)] ++ D d 11 40) (fun L => [(L0.b 0, BC c 64), (L0.b 1, AW (wst c m) 64)]) hp3 ⟨
      oM, oVA (n := 64) (f := c) m (by omega) Try.underlying56, oA, oA,
      trivial⟩ (fun L3 w4 hp4 => ?_)
    refine k9 _ _ ?_
    refine gs [.det (.int .i64 ((m : Nat) : Int)), .det (.int .i64 ((m / 4 : Nat) : Int)), .det (.int .i64 ((m : Nat) : Int)), .det (.int .i64 ((m / 4 : Nat) : Int)), .det (.pointer (some ⟨(L0.b 1), 0 + (m / 4) * 1, none⟩)), .det (W32 ((wst c m) (m / 4))), .det (W32 (((wst c m) (m / 4)) <<< 8)), .det (.int .u8 (c m)), .det (W32 (zx (c m))), .det (W32 ((((wst c m) (m / 4)) <<< 8) ||| (zx (c m)))), .det (.pointer (some ⟨(L0.b 1), 0 + (m / 4) * 1, none⟩)), .store (.base 1) (0 + (m / 4) * 1) ([W32 ((((wst c m) (m / 4)) <<< 8) ||| (zx (c m)))]) (AW (wup (wst c m) (m / 4) ((((wst c m) (m / 4)) <<< 8) ||| (zx (c m)))) 64)] [0, 1, 2, 3, 4, 5, 6, 7, 8, 9, 10, 11] [0, 1, 0, 4, 12, 28, 60, 0, 128, 508, 1023, 2047] (fun L => [d 0, L0.p 0, L0.p 1, .int .i64 ((m : Nat) : Int), .int .u8 (c m), d 5, VB c 64, .int .i64 ((m : Nat) : Int), .bool true, .int .i64 ((m : Nat) : Int), .int .u8 (c m), .int .i64 ((m : Nat) : Int), .int .i64 ((m / 4 : Nat) : Int), .int .i64 ((m : Nat) : Int), .int .i64 ((m / 4 : Nat) : Int), .pointer (some ⟨(L0.b 1), 0 + (m / 4) * 1, none⟩), W32 ((wst c m) (m / 4)), W32 (((wst c m) (m / 4)) <<< 8), .int .u8 (c m), W32 (zx (c m)), W32 ((((wst c m) (m / 4)) <<< 8) ||| (zx (c m))), .pointer (some ⟨(L0.b 1), 0 + (m / 4) * 1, none⟩)] ++ D d 22 29) (fun L => [(L0.b 0, BC c 64), (L0.b 1, AW (wup (wst c m) (m / 4) ((((wst c m) (m / 4)) <<< 8) ||| (zx (c m)))) 64)]) hp4 ⟨
      oM, oJ .i64 .i64 ((m : Nat) : Int) 4 (h := fun w => quoN _ m 4 (m / 4) (by omega) (by decide) rfl w), oM, oJ .i64 .i64 ((m : Nat) : Int) 4 (h := fun w => quoN _ m 4 (m / 4) (by omega) (by decide) rfl w),
      oIA (k := .i64) (m / 4) aW64 (by omega), oLA (n := 64) (j := (m / 4)) 1 (by omega), oJ .u32 .u64 (((wst c m) (m / 4)).toNat : Int) 8 (h := fun w => shlW _ ((wst c m) (m / 4)) .u64 8 (by decide) w),
      oM, oCv (fun w => convZ (c m) (hc m (by omega)).1 (hc m (by omega)).2 w), oJ .u32 .u32 ((((wst c m) (m / 4)) <<< 8).toNat : Int) ((zx (c m)).toNat : Int) (h := fun w => orW _ (((wst c m) (m / 4)) <<< 8) (zx (c m)) w),
      oIA (k := .i64) (m / 4) aW64 (by omega), oTA (n := 64) (j := (m / 4)) (by omega),
      trivial⟩ (fun L4 w5 hp5 => ?_)
    refine k8 _ _ _ ?_
    refine block_normal ?_
    refine k7 _ _ ?_
    refine gs [.det (.int .i64 ((m + 1 : Nat) : Int)), .det (.int .i64 ((m + 1 : Nat) : Int))] [0, 1] [0, 1] (fun L => [d 0, L0.p 0, L0.p 1, .int .i64 ((m : Nat) : Int), .int .u8 (c m), d 5, VB c 64, .int .i64 ((m + 1 : Nat) : Int), .bool true, .int .i64 ((m : Nat) : Int), .int .u8 (c m), .int .i64 ((m : Nat) : Int), .int .i64 ((m / 4 : Nat) : Int), .int .i64 ((m : Nat) : Int), .int .i64 ((m / 4 : Nat) : Int), .pointer (some ⟨(L0.b 1), 0 + (m / 4) * 1, none⟩), W32 ((wst c m) (m / 4)), W32 (((wst c m) (m / 4)) <<< 8), .int .u8 (c m), W32 (zx (c m)), W32 ((((wst c m) (m / 4)) <<< 8) ||| (zx (c m))), .pointer (some ⟨(L0.b 1), 0 + (m / 4) * 1, none⟩), .int .i64 ((m + 1 : Nat) : Int)] ++ D d 23 28) (fun L => [(L0.b 0, BC c 64), (L0.b 1, AW (wup (wst c m) (m / 4) ((((wst c m) (m / 4)) <<< 8) ||| (zx (c m)))) 64)]) hp5 ⟨
      oJ .i64 .i64 ((m : Nat) : Int) 1 (h := fun w => add1N _ (m) (by omega) w), oM,
      trivial⟩ (fun L5 w6 hp6 => ?_)
    exact ⟨L - 1, by omega, m + 1, (fun zz => ([d 0, L0.p 0, L0.p 1, .int .i64 ((m : Nat) : Int), .int .u8 (c m), d 5, VB c 64, .int .i64 ((m + 1 : Nat) : Int), .bool true, .int .i64 ((m : Nat) : Int), .int .u8 (c m), .int .i64 ((m : Nat) : Int), .int .i64 ((m / 4 : Nat) : Int), .int .i64 ((m : Nat) : Int), .int .i64 ((m / 4 : Nat) : Int), .pointer (some ⟨(L0.b 1), 0 + (m / 4) * 1, none⟩), W32 ((wst c m) (m / 4)), W32 (((wst c m) (m / 4)) <<< 8), .int .u8 (c m), W32 (zx (c m)), W32 ((((wst c m) (m / 4)) <<< 8) ||| (zx (c m))), .pointer (some ⟨(L0.b 1), 0 + (m / 4) * 1, none⟩), .int .i64 ((m + 1 : Nat) : Int)] ++ D d 23 28 : List Value).getD zz undef), by kernel_rfl, by omega, by rw [wst_or c hc m hm]; exact hp6⟩
  obtain rfl : m = 64 := by omega
  obtain ⟨w1, ew1⟩ : ∃ x, x = wst c 64 := ⟨_, rfl⟩
  rw [← ew1] at hJ
  refine wp_seq_k (fun K10 k10 => ?_)
  refine gs [.det (.bool false)] [0] [0] (fun L => [d 0, L0.p 0, L0.p 1] ++ (D d 3 3 ++ ([VB c 64, .int .i64 ((64 : Nat) : Int), .bool false] ++ D d 9 42))) (fun L => [(L0.b 0, BC c 64), (L0.b 1, AW w1 64)]) hJ ⟨
    oJ .i64 .i64 ((64 : Nat) : Int) 64 (h := fun w => (lssI _ _ _ w).trans (by rw [decide_eq_false (by omega)])),
    trivial⟩ (fun L6 w7 hp7 => ?_)
  refine k10 _ _ ?_
  refine wp_seq_k (fun K11 k11 => ?_)
  refine wp_cond_false (by kernel_rfl) ?_
  refine wp_exit ?_
  refine then_exit ?_
  refine then_exit ?_
  refine k4 _ _ _ ?_
  refine exit_in ?_
  refine k2 _ _ ?_
  refine wp_seq_k (fun K12 k12 => ?_)
  refine wp_seq_k (fun K13 k13 => ?_)
  refine gs [.det (.int .i64 16)] [0] [0] (fun L => [d 0, L0.p 0, L0.p 1] ++ (D d 3 2 ++ ([.int .i64 16, VB c 64, .int .i64 ((64 : Nat) : Int), .bool false] ++ D d 9 42))) (fun L => [(L0.b 0, BC c 64), (L0.b 1, AW w1 64)]) hp7 ⟨
    oA,
    trivial⟩ (fun L7 w8 hp8 => ?_)
  refine k13 _ _ ?_
  refine wp_block_k (fun K14 k14 => ?_)
  refine wp_loop_ghost (spI2 c w1 w (L0.b 0) (L0.b 1)) 48 ⟨0, (fun zz => ([d 0, L0.p 0, L0.p 1] ++ (D d 3 2 ++ ([.int .i64 16, VB c 64, .int .i64 ((64 : Nat) : Int), .bool false] ++ D d 9 42)) : List Value).getD zz undef), by kernel_rfl, Nat.zero_add _, by rw [wex_0]; exact hp8⟩ ?_
  rintro L a' W ⟨m, d, rfl, hL, hJ⟩
  by_cases hL0 : L = 0
  rotate_left
  · skip
    have hm : m < 48 := by omega
    refine wp_seq_k (fun K15 k15 => ?_)
    refine wp_seq_k (fun K16 k16 => ?_)
    refine gs [.det (.int .i64 ((m + 16 : Nat) : Int)), .det (.bool true)] [0, 1] [0, 1] (fun L => [d 0, L0.p 0, L0.p 1] ++ (D d 3 2 ++ ([.int .i64 ((m + 16 : Nat) : Int)] ++ (D d 6 17 ++ ([.int .i64 ((m + 16 : Nat) : Int), .bool true] ++ D d 25 26))))) (fun L => [(L0.b 0, BC c 64), (L0.b 1, AW (wex w1 m) 64)]) hJ ⟨
      oM, oJ .i64 .i64 ((m + 16 : Nat) : Int) 64 (h := fun w => (lssI _ _ _ w).trans (by rw [decide_eq_true (by omega)])),
      trivial⟩ (fun L8 w9 hp9 => ?_)
    refine k16 _ _ ?_
    refine wp_cond_true (by kernel_rfl) ?_
    refine skips ?_
    refine k15 _ _ ?_
    refine wp_seq_k (fun K17 k17 => ?_)
    refine wp_block_k (fun K18 k18 => ?_)
    refine dr [.det (.int .i64 ((m + 16 : Nat) : Int)), .det (.int .i64 ((m + 16 : Nat) : Int)), .det (.int .i64 ((m : Nat) : Int)), .det (.pointer (some ⟨(L0.b 1), 0 + m * 1, none⟩)), .det (W32 ((wex w1 m) m)), .det (.int .i64 ((m + 16 : Nat) : Int)), .det (.int .i64 ((m + 1 : Nat) : Int)), .det (.pointer (some ⟨(L0.b 1), 0 + (m + 1) * 1, none⟩)), .det (W32 ((wex w1 m) (m + 1))), .det (W32 (rot ((wex w1 m) (m + 1)) 7 ^^^ rot ((wex w1 m) (m + 1)) 18 ^^^ ((wex w1 m) (m + 1)) >>> 3)), .det (W32 (((wex w1 m) m) + (rot ((wex w1 m) (m + 1)) 7 ^^^ rot ((wex w1 m) (m + 1)) 18 ^^^ ((wex w1 m) (m + 1)) >>> 3))), .det (.int .i64 ((m + 16 : Nat) : Int)), .det (.int .i64 ((m + 9 : Nat) : Int)), .det (.pointer (some ⟨(L0.b 1), 0 + (m + 9) * 1, none⟩)), .det (W32 ((wex w1 m) (m + 9))), .det (W32 ((((wex w1 m) m) + (rot ((wex w1 m) (m + 1)) 7 ^^^ rot ((wex w1 m) (m + 1)) 18 ^^^ ((wex w1 m) (m + 1)) >>> 3)) + ((wex w1 m) (m + 9)))), .det (.int .i64 ((m + 16 : Nat) : Int)), .det (.int .i64 ((m + 14 : Nat) : Int)), .det (.pointer (some ⟨(L0.b 1), 0 + (m + 14) * 1, none⟩)), .det (W32 ((wex w1 m) (m + 14))), .det (W32 (rot ((wex w1 m) (m + 14)) 17 ^^^ rot ((wex w1 m) (m + 14)) 19 ^^^ ((wex w1 m) (m + 14)) >>> 10)), .det (W32 (((((wex w1 m) m) + (rot ((wex w1 m) (m + 1)) 7 ^^^ rot ((wex w1 m) (m + 1)) 18 ^^^ ((wex w1 m) (m + 1)) >>> 3)) + ((wex w1 m) (m + 9))) + (rot ((wex w1 m) (m + 14)) 17 ^^^ rot ((wex w1 m) (m + 14)) 19 ^^^ ((wex w1 m) (m + 14)) >>> 10))), .det (.pointer (some ⟨(L0.b 1), 0 + (m + 16) * 1, none⟩)), .store (.base 1) (0 + (m + 16) * 1) ([W32 (((((wex w1 m) m) + (rot ((wex w1 m) (m + 1)) 7 ^^^ rot ((wex w1 m) (m + 1)) 18 ^^^ ((wex w1 m) (m + 1)) >>> 3)) + ((wex w1 m) (m + 9))) + (rot ((wex w1 m) (m + 14)) 17 ^^^ rot ((wex w1 m) (m + 14)) 19 ^^^ ((wex w1 m) (m + 14)) >>> 10))]) (AW (wup (wex w1 m) (m + 16) (((((wex w1 m) m) + (rot ((wex w1 m) (m + 1)) 7 ^^^ rot ((wex w1 m) (m + 1)) 18 ^^^ ((wex w1 m) (m + 1)) >>> 3)) + ((wex w1 m) (m + 9))) + (rot ((wex w1 m) (m + 14)) 17 ^^^ rot ((wex w1 m) (m + 14)) 19 ^^^ ((wex w1 m) (m + 14)) >>> 10))) 64)] [0, 1, 2, 3, 4, 5, 6, 7, 8, 9, 10, 11, 12, 13, 14, 15, 16, 17, 18, 19, 20, 21, 22, 23] [0, 0, 2, 6, 14, 0, 32, 96, 224, 480, 1022, 0, 2048, 6144, 14336, 32766, 0, 65536, 196608, 458752, 984032, 2097150, 4194303, 8388607] (fun L => [d 0, L0.p 0, L0.p 1] ++ (D d 3 2 ++ ([.int .i64 ((m + 16 : Nat) : Int)] ++ (D d 6 17 ++ ([.int .i64 ((m + 16 : Nat) : Int), .bool true] ++ (D d 25 2 ++ [.int .i64 ((m + 16 : Nat) : Int), .int .i64 ((m + 16 : Nat) : Int), .int .i64 ((m : Nat) : Int), .pointer (some ⟨(L0.b 1), 0 + m * 1, none⟩), W32 ((wex w1 m) m), .int .i64 ((m + 16 : Nat) : Int), .int .i64 ((m + 1 : Nat) : Int), .pointer (some ⟨(L0.b 1), 0 + (m + 1) * 1, none⟩), W32 ((wex w1 m) (m + 1)), W32 (rot ((wex w1 m) (m + 1)) 7 ^^^ rot ((wex w1 m) (m + 1)) 18 ^^^ ((wex w1 m) (m + 1)) >>> 3), W32 (((wex w1 m) m) + (rot ((wex w1 m) (m + 1)) 7 ^^^ rot ((wex w1 m) (m + 1)) 18 ^^^ ((wex w1 m) (m + 1)) >>> 3)), .int .i64 ((m + 16 : Nat) : Int), .int .i64 ((m + 9 : Nat) : Int), .pointer (some ⟨(L0.b 1), 0 + (m + 9) * 1, none⟩), W32 ((wex w1 m) (m + 9)), W32 ((((wex w1 m) m) + (rot ((wex w1 m) (m + 1)) 7 ^^^ rot ((wex w1 m) (m + 1)) 18 ^^^ ((wex w1 m) (m + 1)) >>> 3)) + ((wex w1 m) (m + 9))), .int .i64 ((m + 16 : Nat) : Int), .int .i64 ((m + 14 : Nat) : Int), .pointer (some ⟨(L0.b 1), 0 + (m + 14) * 1, none⟩), W32 ((wex w1 m) (m + 14)), W32 (rot ((wex w1 m) (m + 14)) 17 ^^^ rot ((wex w1 m) (m + 14)) 19 ^^^ ((wex w1 m) (m + 14)) >>> 10), W32 (((((wex w1 m) m) + (rot ((wex w1 m) (m + 1)) 7 ^^^ rot ((wex w1 m) (m + 1)) 18 ^^^ ((wex w1 m) (m + 1)) >>> 3)) + ((wex w1 m) (m + 9))) + (rot ((wex w1 m) (m + 14)) 17 ^^^ rot ((wex w1 m) (m + 14)) 19 ^^^ ((wex w1 m) (m + 14)) >>> 10)), .pointer (some ⟨(L0.b 1), 0 + (m + 16) * 1, none⟩), d 50])))))) (fun L => [(L0.b 0, BC c 64), (L0.b 1, AW (wup (wex w1 m) (m + 16) (((((wex w1 m) m) + (rot ((wex w1 m) (m + 1)) 7 ^^^ rot ((wex w1 m) (m + 1)) 18 ^^^ ((wex w1 m) (m + 1)) >>> 3)) + ((wex w1 m) (m + 9))) + (rot ((wex w1 m) (m + 14)) 17 ^^^ rot ((wex w1 m) (m + 14)) 19 ^^^ ((wex w1 m) (m + 14)) >>> 10))) 64)]) hp9 ⟨
      oM, oM, oJ .i64 .i64 ((m + 16 : Nat) : Int) 16 (h := fun w => subN _ (m + 16) 16 (m + 0) (by omega) (by omega) w), oIA (k := .i64) m aW64 (by omega), oLA (n := 64) (j := m) 1 (by omega),
      oM, oJ .i64 .i64 ((m + 16 : Nat) : Int) 15 (h := fun w => subN _ (m + 16) 15 (m + 1) (by omega) (by omega) w), oIA (k := .i64) (m + 1) aW64 (by omega), oLA (n := 64) (j := (m + 1)) 1 (by omega),
      oR (shaShifted7 ((wex w1 m) (m + 1))), oJ .u32 .u32 (((wex w1 m) m).toNat : Int) ((rot ((wex w1 m) (m + 1)) 7 ^^^ rot ((wex w1 m) (m + 1)) 18 ^^^ ((wex w1 m) (m + 1)) >>> 3).toNat : Int) (h := fun w => addW _ ((wex w1 m) m) (rot ((wex w1 m) (m + 1)) 7 ^^^ rot ((wex w1 m) (m + 1)) 18 ^^^ ((wex w1 m) (m + 1)) >>> 3) w),
      oM, oJ .i64 .i64 ((m + 16 : Nat) : Int) 7 (h := fun w => subN _ (m + 16) 7 (m + 9) (by omega) (by omega) w), oIA (k := .i64) (m + 9) aW64 (by omega), oLA (n := 64) (j := (m + 9)) 1 (by omega),
      oJ .u32 .u32 ((((wex w1 m) m) + (rot ((wex w1 m) (m + 1)) 7 ^^^ rot ((wex w1 m) (m + 1)) 18 ^^^ ((wex w1 m) (m + 1)) >>> 3)).toNat : Int) (((wex w1 m) (m + 9)).toNat : Int) (h := fun w => addW _ (((wex w1 m) m) + (rot ((wex w1 m) (m + 1)) 7 ^^^ rot ((wex w1 m) (m + 1)) 18 ^^^ ((wex w1 m) (m + 1)) >>> 3)) ((wex w1 m) (m + 9)) w),
      oM, oJ .i64 .i64 ((m + 16 : Nat) : Int) 2 (h := fun w => subN _ (m + 16) 2 (m + 14) (by omega) (by omega) w), oIA (k := .i64) (m + 14) aW64 (by omega), oLA (n := 64) (j := (m + 14)) 1 (by omega),
      oR (shaShifted17 ((wex w1 m) (m + 14))), oJ .u32 .u32 (((((wex w1 m) m) + (rot ((wex w1 m) (m + 1)) 7 ^^^ rot ((wex w1 m) (m + 1)) 18 ^^^ ((wex w1 m) (m + 1)) >>> 3)) + ((wex w1 m) (m + 9))).toNat : Int) ((rot ((wex w1 m) (m + 14)) 17 ^^^ rot ((wex w1 m) (m + 14)) 19 ^^^ ((wex w1 m) (m + 14)) >>> 10).toNat : Int) (h := fun w => addW _ ((((wex w1 m) m) + (rot ((wex w1 m) (m + 1)) 7 ^^^ rot ((wex w1 m) (m + 1)) 18 ^^^ ((wex w1 m) (m + 1)) >>> 3)) + ((wex w1 m) (m + 9))) (rot ((wex w1 m) (m + 14)) 17 ^^^ rot ((wex w1 m) (m + 14)) 19 ^^^ ((wex w1 m) (m + 14)) >>> 10) w),
      oIA (k := .i64) (m + 16) aW64 (by omega), oTA (n := 64) (j := (m + 16)) (by omega),
      trivial⟩ (fun L9 w10 hp10 => ?_)
    refine k18 _ _ _ ?_
    refine block_normal ?_
    refine k17 _ _ ?_
    refine gs [.det (.int .i64 ((m + 16 : Nat) : Int)), .det (.int .i64 ((m + 16 + 1 : Nat) : Int)), .det (.int .i64 ((m + 16 + 1 : Nat) : Int))] [0, 1, 2] [0, 1, 3] (fun L => [d 0, L0.p 0, L0.p 1] ++ (D d 3 2 ++ ([.int .i64 ((m + 16 + 1 : Nat) : Int)] ++ (D d 6 17 ++ [.int .i64 ((m + 16 : Nat) : Int), .bool true, .int .i64 ((m + 16 : Nat) : Int), .int .i64 ((m + 16 + 1 : Nat) : Int), .int .i64 ((m + 16 : Nat) : Int), .int .i64 ((m + 16 : Nat) : Int), .int .i64 ((m : Nat) : Int), .pointer (some ⟨(L0.b 1), 0 + m * 1, none⟩), W32 ((wex w1 m) m), .int .i64 ((m + 16 : Nat) : Int), .int .i64 ((m + 1 : Nat) : Int), .pointer (some ⟨(L0.b 1), 0 + (m + 1) * 1, none⟩), W32 ((wex w1 m) (m + 1)), W32 (rot ((wex w1 m) (m + 1)) 7 ^^^ rot ((wex w1 m) (m + 1)) 18 ^^^ ((wex w1 m) (m + 1)) >>> 3), W32 (((wex w1 m) m) + (rot ((wex w1 m) (m + 1)) 7 ^^^ rot ((wex w1 m) (m + 1)) 18 ^^^ ((wex w1 m) (m + 1)) >>> 3)), .int .i64 ((m + 16 : Nat) : Int), .int .i64 ((m + 9 : Nat) : Int), .pointer (some ⟨(L0.b 1), 0 + (m + 9) * 1, none⟩), W32 ((wex w1 m) (m + 9)), W32 ((((wex w1 m) m) + (rot ((wex w1 m) (m + 1)) 7 ^^^ rot ((wex w1 m) (m + 1)) 18 ^^^ ((wex w1 m) (m + 1)) >>> 3)) + ((wex w1 m) (m + 9))), .int .i64 ((m + 16 : Nat) : Int), .int .i64 ((m + 14 : Nat) : Int), .pointer (some ⟨(L0.b 1), 0 + (m + 14) * 1, none⟩), W32 ((wex w1 m) (m + 14)), W32 (rot ((wex w1 m) (m + 14)) 17 ^^^ rot ((wex w1 m) (m + 14)) 19 ^^^ ((wex w1 m) (m + 14)) >>> 10), W32 (((((wex w1 m) m) + (rot ((wex w1 m) (m + 1)) 7 ^^^ rot ((wex w1 m) (m + 1)) 18 ^^^ ((wex w1 m) (m + 1)) >>> 3)) + ((wex w1 m) (m + 9))) + (rot ((wex w1 m) (m + 14)) 17 ^^^ rot ((wex w1 m) (m + 14)) 19 ^^^ ((wex w1 m) (m + 14)) >>> 10)), .pointer (some ⟨(L0.b 1), 0 + (m + 16) * 1, none⟩), d 50])))) (fun L => [(L0.b 0, BC c 64), (L0.b 1, AW (wup (wex w1 m) (m + 16) (((((wex w1 m) m) + (rot ((wex w1 m) (m + 1)) 7 ^^^ rot ((wex w1 m) (m + 1)) 18 ^^^ ((wex w1 m) (m + 1)) >>> 3)) + ((wex w1 m) (m + 9))) + (rot ((wex w1 m) (m + 14)) 17 ^^^ rot ((wex w1 m) (m + 14)) 19 ^^^ ((wex w1 m) (m + 14)) >>> 10))) 64)]) hp10 ⟨
      oM, oJ .i64 .i64 ((m + 16 : Nat) : Int) 1 (h := fun w => add1N _ (m + 16) (by omega) w), oA,
      trivial⟩ (fun L10 w11 hp11 => ?_)
    exact ⟨L - 1, by omega, m + 1, (fun zz => ([d 0, L0.p 0, L0.p 1] ++ (D d 3 2 ++ ([.int .i64 ((m + 16 + 1 : Nat) : Int)] ++ (D d 6 17 ++ [.int .i64 ((m + 16 : Nat) : Int), .bool true, .int .i64 ((m + 16 : Nat) : Int), .int .i64 ((m + 16 + 1 : Nat) : Int), .int .i64 ((m + 16 : Nat) : Int), .int .i64 ((m + 16 : Nat) : Int), .int .i64 ((m : Nat) : Int), .pointer (some ⟨(L0.b 1), 0 + m * 1, none⟩), W32 ((wex w1 m) m), .int .i64 ((m + 16 : Nat) : Int), .int .i64 ((m + 1 : Nat) : Int), .pointer (some ⟨(L0.b 1), 0 + (m + 1) * 1, none⟩), W32 ((wex w1 m) (m + 1)), W32 (rot ((wex w1 m) (m + 1)) 7 ^^^ rot ((wex w1 m) (m + 1)) 18 ^^^ ((wex w1 m) (m + 1)) >>> 3), W32 (((wex w1 m) m) + (rot ((wex w1 m) (m + 1)) 7 ^^^ rot ((wex w1 m) (m + 1)) 18 ^^^ ((wex w1 m) (m + 1)) >>> 3)), .int .i64 ((m + 16 : Nat) : Int), .int .i64 ((m + 9 : Nat) : Int), .pointer (some ⟨(L0.b 1), 0 + (m + 9) * 1, none⟩), W32 ((wex w1 m) (m + 9)), W32 ((((wex w1 m) m) + (rot ((wex w1 m) (m + 1)) 7 ^^^ rot ((wex w1 m) (m + 1)) 18 ^^^ ((wex w1 m) (m + 1)) >>> 3)) + ((wex w1 m) (m + 9))), .int .i64 ((m + 16 : Nat) : Int), .int .i64 ((m + 14 : Nat) : Int), .pointer (some ⟨(L0.b 1), 0 + (m + 14) * 1, none⟩), W32 ((wex w1 m) (m + 14)), W32 (rot ((wex w1 m) (m + 14)) 17 ^^^ rot ((wex w1 m) (m + 14)) 19 ^^^ ((wex w1 m) (m + 14)) >>> 10), W32 (((((wex w1 m) m) + (rot ((wex w1 m) (m + 1)) 7 ^^^ rot ((wex w1 m) (m + 1)) 18 ^^^ ((wex w1 m) (m + 1)) >>> 3)) + ((wex w1 m) (m + 9))) + (rot ((wex w1 m) (m + 14)) 17 ^^^ rot ((wex w1 m) (m + 14)) 19 ^^^ ((wex w1 m) (m + 14)) >>> 10)), .pointer (some ⟨(L0.b 1), 0 + (m + 16) * 1, none⟩), d 50]))) : List Value).getD zz undef), by kernel_rfl, by omega, by rw [wex_s, wnx]; exact hp11⟩
  obtain rfl : m = 48 := by omega
  obtain ⟨w2, ew2⟩ : ∃ x, x = wex w1 48 := ⟨_, rfl⟩
  rw [← ew2] at hJ
  refine wp_seq_k (fun K19 k19 => ?_)
  refine wp_seq_k (fun K20 k20 => ?_)
  refine gs [.det (.int .i64 ((48 + 16 : Nat) : Int)), .det (.bool false)] [0, 1] [0, 1] (fun L => [d 0, L0.p 0, L0.p 1] ++ (D d 3 2 ++ ([.int .i64 ((48 + 16 : Nat) : Int)] ++ (D d 6 17 ++ ([.int .i64 ((48 + 16 : Nat) : Int), .bool false] ++ D d 25 26))))) (fun L => [(L0.b 0, BC c 64), (L0.b 1, AW w2 64)]) hJ ⟨
    oM, oJ .i64 .i64 ((48 + 16 : Nat) : Int) 64 (h := fun w => (lssI _ _ _ w).trans (by rw [decide_eq_false (by omega)])),
    trivial⟩ (fun L11 w12 hp12 => ?_)
  refine k20 _ _ ?_
  refine wp_cond_false (by kernel_rfl) ?_
  refine wp_exit ?_
  refine then_exit ?_
  refine then_exit ?_
  refine k14 _ _ _ ?_
  refine exit_in ?_
  refine k12 _ _ ?_
  refine wp_seq_k (fun K21 k21 => ?_)
  refine gs [.det (VW w2 64), .store (.base 1) 0 (AW w2 64) (AW w2 64)] [0, 1] [0, 1] (fun L => [d 0, L0.p 0, L0.p 1] ++ (D d 3 2 ++ ([.int .i64 ((48 + 16 : Nat) : Int)] ++ (D d 6 17 ++ ([.int .i64 ((48 + 16 : Nat) : Int), .bool false] ++ (D d 25 25 ++ [VW w2 64])))))) (fun L => [(L0.b 0, BC c 64), (L0.b 1, AW w2 64)]) hp12 ⟨
    oL 1 0 rW64, oT rW64,
    trivial⟩ (fun L12 w13 hp13 => ?_)
  refine k21 _ _ ?_
  refine wp_ret ?_
  refine bodyPost_ret (v := VW w2 64) ?_ rfl ?_
  · exact rc rW64 rfl (by kernel_rfl) (hp13.bound 1 rfl).2
  · exact ⟨by subst ew2 ew1; rfl, hp13.bel⟩
def dsI1 (h : Nat → BitVec 32) (w : World) (q0 q1 : Nat) : Nat → Act → World → Prop := fun L a' w' => ∃ (m : Nat) (d : Nat → Value),
  a' = { tmps := ([d 0, .pointer (some ⟨q0, 0, none⟩), .pointer (some ⟨q1, 0, none⟩), d 3, .int .i64 ((m : Nat) : Int)] ++ D d 5 16 : List Value).toArray, defers := [] } ∧ m + L = 32 ∧ Heap w.heap.size w w' [(q0, AW h 8), (q1, BC (obx h m) 32)]

set_option maxHeartbeats 4000000 in
theorem shaDigest (h : Nat → BitVec 32) (w : World) : Calls Try.prog 24 #[VW h 8] w (Ret (VB (ob h) 32) w) := by
  have hp0 := Heap.start w
  go_enter Try.func24, Try.ntmps24
  refine wp_seq_k (fun K1 k1 => ?_)
  refine gs [.alloc (AW h 8), .alloc (BC (fun _ => 0) 32)] [0, 1] [0, 0] (fun L => [VW h 8, L.p 0, L.p 1] ++ U 18) (fun L => [(L.b 0, AW h 8), (L.b 1, BC (fun _ => 0) 32)]) hp0 ⟨
    oB, oZ rB32,
    trivial⟩ (fun L0 w1 hp1 => ?_)
  refine k1 _ _ ?_
  refine wp_seq_k (fun K2 k2 => ?_)
  refine wp_seq_k (fun K3 k3 => ?_)
  refine gs [.det (.int .i64 0)] [0] [0] (fun L => [VW h 8, L0.p 0, L0.p 1, undef, .int .i64 0] ++ U 16) (fun L => [(L0.b 0, AW h 8), (L0.b 1, BC (fun _ => 0) 32)]) hp1 ⟨
    oM,
    trivial⟩ (fun L1 w2 hp2 => ?_)
  refine k3 _ _ ?_
  refine wp_block_k (fun K4 k4 => ?_)
  refine wp_loop_ghost (dsI1 h w (L0.b 0) (L0.b 1)) 32 ⟨0, (fun zz => ([VW h 8, L0.p 0, L0.p 1, undef, .int .i64 0] ++ U 16 : List Value).getD zz undef), by kernel_rfl, Nat.zero_add _, by rw [obx_0]; exact hp2⟩ ?_
  rintro L a' W ⟨m, d, rfl, hL, hJ⟩
  by_cases hL0 : L = 0
  rotate_left
  · skip
    have hm : m < 32 := by omega
    refine wp_seq_k (fun K5 k5 => ?_)
    refine gs [.det (.bool true)] [0] [0] (fun L => [d 0, L0.p 0, L0.p 1, d 3, .int .i64 ((m : Nat) : Int), .bool true] ++ D d 6 15) (fun L => [(L0.b 0, AW h 8), (L0.b 1, BC (obx h m) 32)]) hJ ⟨
      oJ .i64 .i64 ((m : Nat) : Int) 32 (h := fun w => (lssI _ _ _ w).trans (by rw [decide_eq_true (by omega)])),
      trivial⟩ (fun L2 w3 hp3 => ?_)
    refine k5 _ _ ?_
    refine wp_seq_k (fun K6 k6 => ?_)
    refine wp_cond_true (by kernel_rfl) ?_
    refine skips ?_
    refine k6 _ _ ?_
    refine wp_seq_k (fun K7 k7 => ?_)
    refine wp_block_k (fun K8 k8 => ?_)
    refine wp_seq_k (fun K9 k9 => ?_)
    refine gs [.det (.int .i64 ((m : Nat) : Int)), .det (.int .i64 ((m : Nat) : Int))] [0, 1] [0, 1] (fun L => [d 0, L0.p 0, L0.p 1, .int .i64 ((m : Nat) : Int), .int .i64 ((m : Nat) : Int), .bool true, .int .i64 ((m : Nat) : Int)] ++ D d 7 14) (fun L => [(L0.b 0, AW h 8), (L0.b 1, BC (obx h m) 32)]) hp3 ⟨
      oM, oA,
      trivial⟩ (fun L3 w4 hp4 => ?_)
    refine k9 _ _ ?_
    refine gs [.det (.int .i64 ((m : Nat) : Int)), .det (.int .i64 ((m : Nat) : Int)), .det (.int .i64 ((m / 4 : Nat) : Int)), .det (.pointer (some ⟨(L0.b 0), 0 + (m / 4) * 1, none⟩)), .det (W32 (h (m / 4))), .det (.int .i64 ((m : Nat) : Int)), .det (.int .i64 ((m % 4 : Nat) : Int)), .det (.int .i64 ((3 - m % 4 : Nat) : Int)), .det (.int .i64 ((24 - 8 * (m % 4) : Nat) : Int)), .det (W32 ((h (m / 4)) >>> (24 - 8 * (m % 4)))), .det (.int .u8 ((((h (m / 4)) >>> (24 - 8 * (m % 4))).toNat : Int) % 256)), .det (.pointer (some ⟨(L0.b 1), 0 + m * 1, none⟩)), .store (.base 1) (0 + m * 1) ([.int .u8 ((((h (m / 4)) >>> (24 - 8 * (m % 4))).toNat : Int) % 256)]) (BC (su (obx h m) m ((((h (m / 4)) >>> (24 - 8 * (m % 4))).toNat : Int) % 256)) 32)] [0, 1, 2, 3, 4, 5, 6, 7, 8, 9, 10, 11, 12] [0, 0, 2, 6, 14, 0, 32, 96, 224, 510, 1022, 2047, 4095] (fun L => [d 0, L0.p 0, L0.p 1, .int .i64 ((m : Nat) : Int), .int .i64 ((m : Nat) : Int), .bool true, .int .i64 ((m : Nat) : Int), .int .i64 ((m : Nat) : Int), .int .i64 ((m : Nat) : Int), .int .i64 ((m / 4 : Nat) : Int), .pointer (some ⟨(L0.b 0), 0 + (m / 4) * 1, none⟩), W32 (h (m / 4)), .int .i64 ((m : Nat) : Int), .int .i64 ((m % 4 : Nat) : Int), .int .i64 ((3 - m % 4 : Nat) : Int), .int .i64 ((24 - 8 * (m % 4) : Nat) : Int), W32 ((h (m / 4)) >>> (24 - 8 * (m % 4))), .int .u8 ((((h (m / 4)) >>> (24 - 8 * (m % 4))).toNat : Int) % 256), .pointer (some ⟨(L0.b 1), 0 + m * 1, none⟩)] ++ D d 19 2) (fun L => [(L0.b 0, AW h 8), (L0.b 1, BC (su (obx h m) m ((((h (m / 4)) >>> (24 - 8 * (m % 4))).toNat : Int) % 256)) 32)]) hp4 ⟨
      oM, oM, oJ .i64 .i64 ((m : Nat) : Int) 4 (h := fun w => quoN _ m 4 (m / 4) (by omega) (by decide) rfl w), oIA (k := .i64) (m / 4) aW8 (by omega), oLA (n := 8) (j := (m / 4)) 0 (by omega),
      oM, oJ .i64 .i64 ((m : Nat) : Int) 4 (h := fun w => remN _ m 4 (m % 4) (by decide) (by omega) rfl w), oJ .i64 .i64 3 ((m % 4 : Nat) : Int) (h := fun w => subN _ 3 (m % 4) (3 - m % 4) (by omega) (by omega) w),
      oJ .i64 .i64 8 ((3 - m % 4 : Nat) : Int) (h := fun w => mulII _ 8 (3 - m % 4) (24 - 8 * (m % 4)) (by omega) (by omega) w), oJ .u32 .i64 ((h (m / 4)).toNat : Int) ((24 - 8 * (m % 4) : Nat) : Int) (h := fun w => shrW _ (h (m / 4)) .i64 (24 - 8 * (m % 4)) (by omega) w),
      oCv (fun w => convWB ((h (m / 4)) >>> (24 - 8 * (m % 4))) w), oIA (k := .i64) m aB32 (by omega), oTY (n := 32) (j := m) (by omega),
      trivial⟩ (fun L4 w5 hp5 => ?_)
    refine k8 _ _ _ ?_
    refine block_normal ?_
    refine k7 _ _ ?_
    refine gs [.det (.int .i64 ((m + 1 : Nat) : Int)), .det (.int .i64 ((m + 1 : Nat) : Int))] [0, 1] [0, 1] (fun L => [d 0, L0.p 0, L0.p 1, .int .i64 ((m : Nat) : Int), .int .i64 ((m + 1 : Nat) : Int), .bool true, .int .i64 ((m : Nat) : Int), .int .i64 ((m : Nat) : Int), .int .i64 ((m : Nat) : Int), .int .i64 ((m / 4 : Nat) : Int), .pointer (some ⟨(L0.b 0), 0 + (m / 4) * 1, none⟩), W32 (h (m / 4)), .int .i64 ((m : Nat) : Int), .int .i64 ((m % 4 : Nat) : Int), .int .i64 ((3 - m % 4 : Nat) : Int), .int .i64 ((24 - 8 * (m % 4) : Nat) : Int), W32 ((h (m / 4)) >>> (24 - 8 * (m % 4))), .int .u8 ((((h (m / 4)) >>> (24 - 8 * (m % 4))).toNat : Int) % 256), .pointer (some ⟨(L0.b 1), 0 + m * 1, none⟩), .int .i64 ((m + 1 : Nat) : Int), d 20]) (fun L => [(L0.b 0, AW h 8), (L0.b 1, BC (su (obx h m) m ((((h (m / 4)) >>> (24 - 8 * (m % 4))).toNat : Int) % 256)) 32)]) hp5 ⟨
      oJ .i64 .i64 ((m : Nat) : Int) 1 (h := fun w => add1N _ (m) (by omega) w), oM,
      trivial⟩ (fun L5 w6 hp6 => ?_)
    exact ⟨L - 1, by omega, m + 1, (fun zz => ([d 0, L0.p 0, L0.p 1, .int .i64 ((m : Nat) : Int), .int .i64 ((m + 1 : Nat) : Int), .bool true, .int .i64 ((m : Nat) : Int), .int .i64 ((m : Nat) : Int), .int .i64 ((m : Nat) : Int), .int .i64 ((m / 4 : Nat) : Int), .pointer (some ⟨(L0.b 0), 0 + (m / 4) * 1, none⟩), W32 (h (m / 4)), .int .i64 ((m : Nat) : Int), .int .i64 ((m % 4 : Nat) : Int), .int .i64 ((3 - m % 4 : Nat) : Int), .int .i64 ((24 - 8 * (m % 4) : Nat) : Int), W32 ((h (m / 4)) >>> (24 - 8 * (m % 4))), .int .u8 ((((h (m / 4)) >>> (24 - 8 * (m % 4))).toNat : Int) % 256), .pointer (some ⟨(L0.b 1), 0 + m * 1, none⟩), .int .i64 ((m + 1 : Nat) : Int), d 20] : List Value).getD zz undef), by kernel_rfl, by omega, by rw [obx_s]; exact hp6⟩
  obtain rfl : m = 32 := by omega
  refine wp_seq_k (fun K10 k10 => ?_)
  refine gs [.det (.bool false)] [0] [0] (fun L => [d 0, L0.p 0, L0.p 1, d 3, .int .i64 ((32 : Nat) : Int), .bool false] ++ D d 6 15) (fun L => [(L0.b 0, AW h 8), (L0.b 1, BC (obx h 32) 32)]) hJ ⟨
    oJ .i64 .i64 ((32 : Nat) : Int) 32 (h := fun w => (lssI _ _ _ w).trans (by rw [decide_eq_false (by omega)])),
    trivial⟩ (fun L6 w7 hp7 => ?_)
  refine k10 _ _ ?_
  refine wp_seq_k (fun K11 k11 => ?_)
  refine wp_cond_false (by kernel_rfl) ?_
  refine wp_exit ?_
  refine then_exit ?_
  refine then_exit ?_
  refine k4 _ _ _ ?_
  refine exit_in ?_
  refine k2 _ _ ?_
  refine wp_seq_k (fun K12 k12 => ?_)
  refine gs [.det (VB (obx h 32) 32), .store (.base 1) 0 (BC (obx h 32) 32) (BC (obx h 32) 32)] [0, 1] [0, 1] (fun L => [d 0, L0.p 0, L0.p 1, d 3, .int .i64 ((32 : Nat) : Int), .bool false] ++ (D d 6 14 ++ [VB (obx h 32) 32])) (fun L => [(L0.b 0, AW h 8), (L0.b 1, BC (obx h 32) 32)]) hp7 ⟨
    oL 1 0 rB32, oT rB32,
    trivial⟩ (fun L7 w8 hp8 => ?_)
  refine k12 _ _ ?_
  refine wp_ret ?_
  refine bodyPost_ret (v := VB (obx h 32) 32) ?_ rfl ?_
  · exact rc rB32 rfl (by kernel_rfl) (hp8.bound 1 rfl).2
  · exact ⟨congrArg (fun z => Ending.returned (.agg (List.toArray z))) (BC_congr fun j hj => obx_at _ 32 j hj), hp8.bel⟩
end Go.Proofs.Ytccidmogamnihaa.fpn

/- Package sha: the rounds, a block. -/
namespace Go.Proofs.Ytccidmogamnihaa.fpn
open Go.RowKit Pl
set_option linter.unusedVariables false
set_option linter.unusedSimpArgs false
set_option maxRecDepth 8000

def rnA (s : Nat → BitVec 32) (k x : BitVec 32) : Nat → BitVec 32 := mk8 (rT s k x + (rot (s 0) 2 ^^^ rot (s 0) 13 ^^^ rot (s 0) 22) + (s 0 &&& s 1 ^^^ s 0 &&& s 2 ^^^ s 1 &&& s 2)) (s 0) (s 1) (s 2) (s 3 + rT s k x) (s 4) (s 5) (s 6)
theorem rnA_rnd (s : Nat → BitVec 32) (k x : BitVec 32) : rnA s k x = rnd s k x := by
  unfold rnA rnd
  rw [show rT s k x + rU s = rT s k x + (rot (s 0) 2 ^^^ rot (s 0) 13 ^^^ rot (s 0) 22) + (s 0 &&& s 1 ^^^ s 0 &&& s 2 ^^^ s 1 &&& s 2) by unfold rU; rw [BitVec.add_assoc]]
theorem VW_mk8 (f : Nat → BitVec 32) : VW (mk8 (f 0) (f 1) (f 2) (f 3) (f 4) (f 5) (f 6) (f 7)) 8 = VW f 8 := congrArg (fun z => Value.agg (List.toArray z)) (AW_congr fun j hj => by
  match j, hj with
  | 0, _ => rfl
  | 1, _ => rfl
  | 2, _ => rfl
  | 3, _ => rfl
  | 4, _ => rfl
  | 5, _ => rfl
  | 6, _ => rfl
  | 7, _ => rfl)
theorem fin8_at (s h : Nat → BitVec 32) : ∀ m i, fin8 s h m i = if i < m then s i + h i else s i
  | 0, i => by rw [fin8_0, if_neg (by omega)]
  | m + 1, i => by
    rw [fin8_s]
    by_cases e : i = m
    · subst e; rw [wup_at, fin8_at s h i i, if_neg (by omega), if_pos (by omega)]
    · rw [wup_ne e, fin8_at s h m i]
      by_cases h2 : i < m
      · rw [if_pos h2, if_pos (by omega)]
      · rw [if_neg h2, if_neg (by omega)]
theorem fin8_turn (s h : Nat → BitVec 32) : VW (fin8 h s 8) 8 = VW (fin8 s h 8) 8 := congrArg (fun z => Value.agg (List.toArray z)) (AW_congr fun j hj => by
  rw [fin8_at, fin8_at, if_pos hj, if_pos hj, BitVec.add_comm])
def kList : List (BitVec 32) := [1116352408, 1899447441, 3049323471, 3921009573, 961987163, 1508970993, 2453635748, 2870763221, 3624381080, 310598401, 607225278, 1426881987, 1925078388, 2162078206, 2614888103, 3248222580, 3835390401, 4022224774, 264347078, 604807628, 770255983, 1249150122, 1555081692, 1996064986, 2554220882, 2821834349, 2952996808, 3210313671, 3336571891, 3584528711, 113926993, 338241895, 666307205, 773529912, 1294757372, 1396182291, 1695183700, 1986661051, 2177026350, 2456956037, 2730485921, 2820302411, 3259730800, 3345764771, 3516065817, 3600352804, 4094571909, 275423344, 430227734, 506948616, 659060556, 883997877, 958139571, 1322822218, 1537002063, 1747873779, 1955562222, 2024104815, 2227730452, 2361852424, 2428436474, 2756734187, 3204031479, 3329325298]
def kTab : Nat → BitVec 32 := fun i => kList.getD i 0
theorem kTab_at : ∀ i, i < 64 → hz true 64 i = kTab i := fun i hi => (rounds_at hi).trans ((by decide +kernel : ∀ i, i < 64 → kT.getD i 0 = kTab i) i hi)
theorem buildK64 (w : World) : (Instr.build 60 #[(0, .int .u32 1116352408), (1, .int .u32 1899447441), (2, .int .u32 3049323471), (3, .int .u32 3921009573), (4, .int .u32 961987163), (5, .int .u32 1508970993), (6, .int .u32 2453635748), (7, .int .u32 2870763221), (8, .int .u32 3624381080), (9, .int .u32 310598401), (10, .int .u32 607225278), (11, .int .u32 1426881987), (12, .int .u32 1925078388), (13, .int .u32 2162078206), (14, .int .u32 2614888103), (15, .int .u32 3248222580), (16, .int .u32 3835390401), (17, .int .u32 4022224774), (18, .int .u32 264347078), (19, .int .u32 604807628), (20, .int .u32 770255983), (21, .int .u32 1249150122), (22, .int .u32 1555081692), (23, .int .u32 1996064986), (24, .int .u32 2554220882), (25, .int .u32 2821834349), (26, .int .u32 2952996808), (27, .int .u32 3210313671), (28, .int .u32 3336571891), (29, .int .u32 3584528711), (30, .int .u32 113926993), (31, .int .u32 338241895), (32, .int .u32 666307205), (33, .int .u32 773529912), (34, .int .u32 1294757372), (35, .int .u32 1396182291), (36, .int .u32 1695183700), (37, .int .u32 1986661051), (38, .int .u32 2177026350), (39, .int .u32 2456956037), (40, .int .u32 2730485921), (41, .int .u32 2820302411), (42, .int .u32 3259730800), (43, .int .u32 3345764771), (44, .int .u32 3516065817), (45, .int .u32 3600352804), (46, .int .u32 4094571909), (47, .int .u32 275423344), (48, .int .u32 430227734), (49, .int .u32 506948616), (50, .int .u32 659060556), (51, .int .u32 883997877), (52, .int .u32 958139571), (53, .int .u32 1322822218), (54, .int .u32 1537002063), (55, .int .u32 1747873779), (56, .int .u32 1955562222), (57, .int .u32 2024104815), (58, .int .u32 2227730452), (59, .int .u32 2361852424), (60, .int .u32 2428436474), (61, .int .u32 2756734187), (62, .int .u32 3204031479), (63, .int .u32 3329325298)]).run Try.prog w = .ok (VW kTab 64) w := run_build w _ _ _ (by kernel_rfl)
def mxI1 (h x : Nat → BitVec 32) (w : World) (q0 q1 q2 : Nat) : Act → World → Prop := fun a' w' => ∃ (m : Nat) (d : Nat → Value) (q3 : Nat),
  a' = { tmps := (D d 0 2 ++ ([.pointer (some ⟨q0, 0, none⟩), .pointer (some ⟨q1, 0, none⟩), .pointer (some ⟨q2, 0, none⟩), .pointer (some ⟨q3, 0, none⟩), W32 (rr h kTab x m 0), W32 (rr h kTab x m 1), W32 (rr h kTab x m 2), W32 (rr h kTab x m 3), W32 (rr h kTab x m 4), W32 (rr h kTab x m 5), W32 (rr h kTab x m 6), W32 (rr h kTab x m 7), .int .i64 ((m : Nat) : Int)] ++ D d 15 68) : List Value).toArray, defers := [] } ∧ m ≤ 64 ∧ Heap w.heap.size w w' [(q0, AW h 8), (q1, AW x 64), (q2, AW (fun _ => 0) 8), (q3, AW kTab 64)]

set_option maxHeartbeats 4000000 in
theorem shaMix (h x : Nat → BitVec 32) (w : World) : Calls Try.prog 37 #[VW h 8, VW x 64] w (Ret (VW (rr h kTab x 64) 8) w) := by
  have hp0 := Heap.start w
  go_enter Try.func37, Try.ntmps37
  refine wp_seq_k (fun K1 k1 => ?_)
  refine gs [.alloc (AW h 8), .alloc (AW x 64), .alloc (AW (fun _ => 0) 8)] [0, 1, 2] [0, 0, 0] (fun L => [VW h 8, VW x 64, L.p 0, L.p 1, L.p 2] ++ U 78) (fun L => [(L.b 0, AW h 8), (L.b 1, AW x 64), (L.b 2, AW (fun _ => 0) 8)]) hp0 ⟨
    oB, oB, oZ rW8,
    trivial⟩ (fun L0 w1 hp1 => ?_)
  refine k1 _ _ ?_
  refine wp_scope_goto 0 (mxI1 h x w (L0.b 0) (L0.b 1) (L0.b 2)) (fun a' _ => 64 - slot 14 a') rfl ?_ ?_
  · skip
    rintro a' W ⟨m, d, q3, rfl, hm, hJ⟩
    obtain ⟨S, eS⟩ : ∃ x1, x1 = rr h kTab x m := ⟨_, rfl⟩
    rw [← eS]
    rcases Nat.lt_or_ge m 64 with hm6 | hm6
    · skip
      refine wp_seq_k (fun K2 k2 => ?_)
      refine wp_seq_k (fun K3 k3 => ?_)
      refine gs [.det (.int .i64 ((m : Nat) : Int)), .det (.bool true)] [0, 1] [0, 1] (fun L => D d 0 2 ++ ([L0.p 0, L0.p 1, L0.p 2, pt q3 0, W32 (S 0), W32 (S 1), W32 (S 2), W32 (S 3), W32 (S 4), W32 (S 5), W32 (S 6), W32 (S 7), .int .i64 ((m : Nat) : Int)] ++ (D d 15 19 ++ ([.int .i64 ((m : Nat) : Int), .bool true] ++ D d 36 47)))) (fun L => [(L0.b 0, AW h 8), (L0.b 1, AW x 64), (L0.b 2, AW (fun _ => 0) 8), (q3, AW kTab 64)]) hJ ⟨
        oM, oJ .i64 .i64 ((m : Nat) : Int) 64 (h := fun w => (lssI _ _ _ w).trans (by rw [decide_eq_true (by omega)])),
        trivial⟩ (fun L1 w2 hp2 => ?_)
      refine k3 _ _ ?_
      refine wp_cond_true (by kernel_rfl) ?_
      refine wp_seq_k (fun K4 k4 => ?_)
      refine dr [.det (W32 (S 7)), .det (W32 (S 4)), .det (W32 (rot (S 4) 6 ^^^ rot (S 4) 11 ^^^ rot (S 4) 25)), .det (W32 ((S 7) + (rot (S 4) 6 ^^^ rot (S 4) 11 ^^^ rot (S 4) 25))), .det (W32 (S 4)), .det (W32 (S 5)), .det (W32 (S 6)), .det (W32 ((S 4) &&& (S 5) ^^^ ~~~(S 4) &&& (S 6))), .det (W32 (((S 7) + (rot (S 4) 6 ^^^ rot (S 4) 11 ^^^ rot (S 4) 25)) + ((S 4) &&& (S 5) ^^^ ~~~(S 4) &&& (S 6)))), .det (.int .i64 ((m : Nat) : Int)), .det (.pointer (some ⟨q3, 0 + m * 1, none⟩)), .det (W32 (kTab m)), .det (W32 ((((S 7) + (rot (S 4) 6 ^^^ rot (S 4) 11 ^^^ rot (S 4) 25)) + ((S 4) &&& (S 5) ^^^ ~~~(S 4) &&& (S 6))) + (kTab m))), .det (.int .i64 ((m : Nat) : Int)), .det (.pointer (some ⟨(L0.b 1), 0 + m * 1, none⟩)), .det (W32 (x m)), .det (W32 (((((S 7) + (rot (S 4) 6 ^^^ rot (S 4) 11 ^^^ rot (S 4) 25)) + ((S 4) &&& (S 5) ^^^ ~~~(S 4) &&& (S 6))) + (kTab m)) + (x m))), .det (W32 (((((S 7) + (rot (S 4) 6 ^^^ rot (S 4) 11 ^^^ rot (S 4) 25)) + ((S 4) &&& (S 5) ^^^ ~~~(S 4) &&& (S 6))) + (kTab m)) + (x m)))] [0, 1, 2, 3, 4, 5, 6, 7, 8, 9, 10, 11, 12, 13, 14, 15, 16, 17] [0, 0, 2, 7, 0, 0, 0, 118, 255, 0, 512, 1536, 4095, 0, 8192, 24576, 65535, 131071] (fun L => D d 0 2 ++ ([L0.p 0, L0.p 1, L0.p 2, pt q3 0, W32 (S 0), W32 (S 1), W32 (S 2), W32 (S 3), W32 (S 4), W32 (S 5), W32 (S 6), W32 (S 7), .int .i64 ((m : Nat) : Int), W32 (((((S 7) + (rot (S 4) 6 ^^^ rot (S 4) 11 ^^^ rot (S 4) 25)) + ((S 4) &&& (S 5) ^^^ ~~~(S 4) &&& (S 6))) + (kTab m)) + (x m))] ++ (D d 16 18 ++ ([.int .i64 ((m : Nat) : Int), .bool true, W32 (S 7), W32 (S 4), W32 (rot (S 4) 6 ^^^ rot (S 4) 11 ^^^ rot (S 4) 25), W32 ((S 7) + (rot (S 4) 6 ^^^ rot (S 4) 11 ^^^ rot (S 4) 25)), W32 (S 4), W32 (S 5), W32 (S 6), W32 ((S 4) &&& (S 5) ^^^ ~~~(S 4) &&& (S 6)), W32 (((S 7) + (rot (S 4) 6 ^^^ rot (S 4) 11 ^^^ rot (S 4) 25)) + ((S 4) &&& (S 5) ^^^ ~~~(S 4) &&& (S 6))), .int .i64 ((m : Nat) : Int), .pointer (some ⟨q3, 0 + m * 1, none⟩), W32 (kTab m), W32 ((((S 7) + (rot (S 4) 6 ^^^ rot (S 4) 11 ^^^ rot (S 4) 25)) + ((S 4) &&& (S 5) ^^^ ~~~(S 4) &&& (S 6))) + (kTab m)), .int .i64 ((m : Nat) : Int), .pointer (some ⟨(L0.b 1), 0 + m * 1, none⟩), W32 (x m), W32 (((((S 7) + (rot (S 4) 6 ^^^ rot (S 4) 11 ^^^ rot (S 4) 25)) + ((S 4) &&& (S 5) ^^^ ~~~(S 4) &&& (S 6))) + (kTab m)) + (x m))] ++ D d 53 30)))) (fun L => [(L0.b 0, AW h 8), (L0.b 1, AW x 64), (L0.b 2, AW (fun _ => 0) 8), (q3, AW kTab 64)]) hp2 ⟨
        oM, oM, oR (shaTurned6 (S 4)), oJ .u32 .u32 ((S 7).toNat : Int) ((rot (S 4) 6 ^^^ rot (S 4) 11 ^^^ rot (S 4) 25).toNat : Int) (h := fun w => addW _ (S 7) (rot (S 4) 6 ^^^ rot (S 4) 11 ^^^ rot (S 4) 25) w),
        oM, oM, oM, oR (shaChoose (S 4) (S 5) (S 6)), oJ .u32 .u32 (((S 7) + (rot (S 4) 6 ^^^ rot (S 4) 11 ^^^ rot (S 4) 25)).toNat : Int) (((S 4) &&& (S 5) ^^^ ~~~(S 4) &&& (S 6)).toNat : Int) (h := fun w => addW _ ((S 7) + (rot (S 4) 6 ^^^ rot (S 4) 11 ^^^ rot (S 4) 25)) ((S 4) &&& (S 5) ^^^ ~~~(S 4) &&& (S 6)) w),
        oM, oIA (k := .i64) m aW64 (by omega), oLA (n := 64) (j := m) 3 (by omega), oJ .u32 .u32 ((((S 7) + (rot (S 4) 6 ^^^ rot (S 4) 11 ^^^ rot (S 4) 25)) + ((S 4) &&& (S 5) ^^^ ~~~(S 4) &&& (S 6))).toNat : Int) ((kTab m).toNat : Int) (h := fun w => addW _ (((S 7) + (rot (S 4) 6 ^^^ rot (S 4) 11 ^^^ rot (S 4) 25)) + ((S 4) &&& (S 5) ^^^ ~~~(S 4) &&& (S 6))) (kTab m) w),
        oM, oIA (k := .i64) m aW64 (by omega), oLA (n := 64) (j := m) 1 (by omega), oJ .u32 .u32 (((((S 7) + (rot (S 4) 6 ^^^ rot (S 4) 11 ^^^ rot (S 4) 25)) + ((S 4) &&& (S 5) ^^^ ~~~(S 4) &&& (S 6))) + (kTab m)).toNat : Int) ((x m).toNat : Int) (h := fun w => addW _ ((((S 7) + (rot (S 4) 6 ^^^ rot (S 4) 11 ^^^ rot (S 4) 25)) + ((S 4) &&& (S 5) ^^^ ~~~(S 4) &&& (S 6))) + (kTab m)) (x m) w),
        oA,
        trivial⟩ (fun L2 w3 hp3 => ?_)
      refine k4 _ _ ?_
      refine wp_seq_k (fun K5 k5 => ?_)
      refine gs [.det (W32 (((((S 7) + (rot (S 4) 6 ^^^ rot (S 4) 11 ^^^ rot (S 4) 25)) + ((S 4) &&& (S 5) ^^^ ~~~(S 4) &&& (S 6))) + (kTab m)) + (x m))), .det (W32 (S 0)), .det (W32 (rot (S 0) 2 ^^^ rot (S 0) 13 ^^^ rot (S 0) 22)), .det (W32 ((((((S 7) + (rot (S 4) 6 ^^^ rot (S 4) 11 ^^^ rot (S 4) 25)) + ((S 4) &&& (S 5) ^^^ ~~~(S 4) &&& (S 6))) + (kTab m)) + (x m)) + (rot (S 0) 2 ^^^ rot (S 0) 13 ^^^ rot (S 0) 22))), .det (W32 (S 0)), .det (W32 (S 1)), .det (W32 (S 2)), .det (W32 ((S 0) &&& (S 1) ^^^ (S 0) &&& (S 2) ^^^ (S 1) &&& (S 2))), .det (W32 (((((((S 7) + (rot (S 4) 6 ^^^ rot (S 4) 11 ^^^ rot (S 4) 25)) + ((S 4) &&& (S 5) ^^^ ~~~(S 4) &&& (S 6))) + (kTab m)) + (x m)) + (rot (S 0) 2 ^^^ rot (S 0) 13 ^^^ rot (S 0) 22)) + ((S 0) &&& (S 1) ^^^ (S 0) &&& (S 2) ^^^ (S 1) &&& (S 2)))), .det (W32 (((((((S 7) + (rot (S 4) 6 ^^^ rot (S 4) 11 ^^^ rot (S 4) 25)) + ((S 4) &&& (S 5) ^^^ ~~~(S 4) &&& (S 6))) + (kTab m)) + (x m)) + (rot (S 0) 2 ^^^ rot (S 0) 13 ^^^ rot (S 0) 22)) + ((S 0) &&& (S 1) ^^^ (S 0) &&& (S 2) ^^^ (S 1) &&& (S 2))))] [0, 1, 2, 3, 4, 5, 6, 7, 8, 9] [0, 0, 2, 7, 0, 0, 0, 118, 255, 511] (fun L => D d 0 2 ++ ([L0.p 0, L0.p 1, L0.p 2, pt q3 0, W32 (S 0), W32 (S 1), W32 (S 2), W32 (S 3), W32 (S 4), W32 (S 5), W32 (S 6), W32 (S 7), .int .i64 ((m : Nat) : Int), W32 (((((S 7) + (rot (S 4) 6 ^^^ rot (S 4) 11 ^^^ rot (S 4) 25)) + ((S 4) &&& (S 5) ^^^ ~~~(S 4) &&& (S 6))) + (kTab m)) + (x m)), W32 (((((((S 7) + (rot (S 4) 6 ^^^ rot (S 4) 11 ^^^ rot (S 4) 25)) + ((S 4) &&& (S 5) ^^^ ~~~(S 4) &&& (S 6))) + (kTab m)) + (x m)) + (rot (S 0) 2 ^^^ rot (S 0) 13 ^^^ rot (S 0) 22)) + ((S 0) &&& (S 1) ^^^ (S 0) &&& (S 2) ^^^ (S 1) &&& (S 2)))] ++ (D d 17 17 ++ ([.int .i64 ((m : Nat) : Int), .bool true, W32 (S 7), W32 (S 4), W32 (rot (S 4) 6 ^^^ rot (S 4) 11 ^^^ rot (S 4) 25), W32 ((S 7) + (rot (S 4) 6 ^^^ rot (S 4) 11 ^^^ rot (S 4) 25)), W32 (S 4), W32 (S 5), W32 (S 6), W32 ((S 4) &&& (S 5) ^^^ ~~~(S 4) &&& (S 6)), W32 (((S 7) + (rot (S 4) 6 ^^^ rot (S 4) 11 ^^^ rot (S 4) 25)) + ((S 4) &&& (S 5) ^^^ ~~~(S 4) &&& (S 6))), .int .i64 ((m : Nat) : Int), .pointer (some ⟨q3, 0 + m * 1, none⟩), W32 (kTab m), W32 ((((S 7) + (rot (S 4) 6 ^^^ rot (S 4) 11 ^^^ rot (S 4) 25)) + ((S 4) &&& (S 5) ^^^ ~~~(S 4) &&& (S 6))) + (kTab m)), .int .i64 ((m : Nat) : Int), .pointer (some ⟨(L0.b 1), 0 + m * 1, none⟩), W32 (x m), W32 (((((S 7) + (rot (S 4) 6 ^^^ rot (S 4) 11 ^^^ rot (S 4) 25)) + ((S 4) &&& (S 5) ^^^ ~~~(S 4) &&& (S 6))) + (kTab m)) + (x m)), W32 (((((S 7) + (rot (S 4) 6 ^^^ rot (S 4) 11 ^^^ rot (S 4) 25)) + ((S 4) &&& (S 5) ^^^ ~~~(S 4) &&& (S 6))) + (kTab m)) + (x m)), W32 (S 0), W32 (rot (S 0) 2 ^^^ rot (S 0) 13 ^^^ rot (S 0) 22), W32 ((((((S 7) + (rot (S 4) 6 ^^^ rot (S 4) 11 ^^^ rot (S 4) 25)) + ((S 4) &&& (S 5) ^^^ ~~~(S 4) &&& (S 6))) + (kTab m)) + (x m)) + (rot (S 0) 2 ^^^ rot (S 0) 13 ^^^ rot (S 0) 22)), W32 (S 0), W32 (S 1), W32 (S 2), W32 ((S 0) &&& (S 1) ^^^ (S 0) &&& (S 2) ^^^ (S 1) &&& (S 2)), W32 (((((((S 7) + (rot (S 4) 6 ^^^ rot (S 4) 11 ^^^ rot (S 4) 25)) + ((S 4) &&& (S 5) ^^^ ~~~(S 4) &&& (S 6))) + (kTab m)) + (x m)) + (rot (S 0) 2 ^^^ rot (S 0) 13 ^^^ rot (S 0) 22)) + ((S 0) &&& (S 1) ^^^ (S 0) &&& (S 2) ^^^ (S 1) &&& (S 2)))] ++ D d 62 21)))) (fun L => [(L0.b 0, AW h 8), (L0.b 1, AW x 64), (L0.b 2, AW (fun _ => 0) 8), (q3, AW kTab 64)]) hp3 ⟨
        oM, oM, oR (shaTurned2 (S 0)), oJ .u32 .u32 ((((((S 7) + (rot (S 4) 6 ^^^ rot (S 4) 11 ^^^ rot (S 4) 25)) + ((S 4) &&& (S 5) ^^^ ~~~(S 4) &&& (S 6))) + (kTab m)) + (x m)).toNat : Int) ((rot (S 0) 2 ^^^ rot (S 0) 13 ^^^ rot (S 0) 22).toNat : Int) (h := fun w => addW _ (((((S 7) + (rot (S 4) 6 ^^^ rot (S 4) 11 ^^^ rot (S 4) 25)) + ((S 4) &&& (S 5) ^^^ ~~~(S 4) &&& (S 6))) + (kTab m)) + (x m)) (rot (S 0) 2 ^^^ rot (S 0) 13 ^^^ rot (S 0) 22) w),
        oM, oM, oM, oR (shaMost (S 0) (S 1) (S 2)), oJ .u32 .u32 (((((((S 7) + (rot (S 4) 6 ^^^ rot (S 4) 11 ^^^ rot (S 4) 25)) + ((S 4) &&& (S 5) ^^^ ~~~(S 4) &&& (S 6))) + (kTab m)) + (x m)) + (rot (S 0) 2 ^^^ rot (S 0) 13 ^^^ rot (S 0) 22)).toNat : Int) (((S 0) &&& (S 1) ^^^ (S 0) &&& (S 2) ^^^ (S 1) &&& (S 2)).toNat : Int) (h := fun w => addW _ ((((((S 7) + (rot (S 4) 6 ^^^ rot (S 4) 11 ^^^ rot (S 4) 25)) + ((S 4) &&& (S 5) ^^^ ~~~(S 4) &&& (S 6))) + (kTab m)) + (x m)) + (rot (S 0) 2 ^^^ rot (S 0) 13 ^^^ rot (S 0) 22)) ((S 0) &&& (S 1) ^^^ (S 0) &&& (S 2) ^^^ (S 1) &&& (S 2)) w),
        oA,
        trivial⟩ (fun L3 w4 hp4 => ?_)
      refine k5 _ _ ?_
      refine wp_seq_k (fun K6 k6 => ?_)
      refine gs [.det (W32 (S 6)), .det (W32 (S 5)), .det (W32 (S 4)), .det (W32 (S 3)), .det (W32 (((((S 7) + (rot (S 4) 6 ^^^ rot (S 4) 11 ^^^ rot (S 4) 25)) + ((S 4) &&& (S 5) ^^^ ~~~(S 4) &&& (S 6))) + (kTab m)) + (x m))), .det (W32 ((S 3) + (((((S 7) + (rot (S 4) 6 ^^^ rot (S 4) 11 ^^^ rot (S 4) 25)) + ((S 4) &&& (S 5) ^^^ ~~~(S 4) &&& (S 6))) + (kTab m)) + (x m)))), .det (W32 (S 6)), .det (W32 (S 5)), .det (W32 (S 4)), .det (W32 ((S 3) + (((((S 7) + (rot (S 4) 6 ^^^ rot (S 4) 11 ^^^ rot (S 4) 25)) + ((S 4) &&& (S 5) ^^^ ~~~(S 4) &&& (S 6))) + (kTab m)) + (x m))))] [0, 1, 2, 3, 4, 5, 6, 7, 8, 9] [0, 0, 0, 0, 0, 24, 1, 67, 199, 511] (fun L => D d 0 2 ++ ([L0.p 0, L0.p 1, L0.p 2, pt q3 0, W32 (S 0), W32 (S 1), W32 (S 2), W32 (S 3), W32 ((S 3) + (((((S 7) + (rot (S 4) 6 ^^^ rot (S 4) 11 ^^^ rot (S 4) 25)) + ((S 4) &&& (S 5) ^^^ ~~~(S 4) &&& (S 6))) + (kTab m)) + (x m))), W32 (S 4), W32 (S 5), W32 (S 6), .int .i64 ((m : Nat) : Int), W32 (((((S 7) + (rot (S 4) 6 ^^^ rot (S 4) 11 ^^^ rot (S 4) 25)) + ((S 4) &&& (S 5) ^^^ ~~~(S 4) &&& (S 6))) + (kTab m)) + (x m)), W32 (((((((S 7) + (rot (S 4) 6 ^^^ rot (S 4) 11 ^^^ rot (S 4) 25)) + ((S 4) &&& (S 5) ^^^ ~~~(S 4) &&& (S 6))) + (kTab m)) + (x m)) + (rot (S 0) 2 ^^^ rot (S 0) 13 ^^^ rot (S 0) 22)) + ((S 0) &&& (S 1) ^^^ (S 0) &&& (S 2) ^^^ (S 1) &&& (S 2)))] ++ (D d 17 17 ++ ([.int .i64 ((m : Nat) : Int), .bool true, W32 (S 7), W32 (S 4), W32 (rot (S 4) 6 ^^^ rot (S 4) 11 ^^^ rot (S 4) 25), W32 ((S 7) + (rot (S 4) 6 ^^^ rot (S 4) 11 ^^^ rot (S 4) 25)), W32 (S 4), W32 (S 5), W32 (S 6), W32 ((S 4) &&& (S 5) ^^^ ~~~(S 4) &&& (S 6)), W32 (((S 7) + (rot (S 4) 6 ^^^ rot (S 4) 11 ^^^ rot (S 4) 25)) + ((S 4) &&& (S 5) ^^^ ~~~(S 4) &&& (S 6))), .int .i64 ((m : Nat) : Int), .pointer (some ⟨q3, 0 + m * 1, none⟩), W32 (kTab m), W32 ((((S 7) + (rot (S 4) 6 ^^^ rot (S 4) 11 ^^^ rot (S 4) 25)) + ((S 4) &&& (S 5) ^^^ ~~~(S 4) &&& (S 6))) + (kTab m)), .int .i64 ((m : Nat) : Int), .pointer (some ⟨(L0.b 1), 0 + m * 1, none⟩), W32 (x m), W32 (((((S 7) + (rot (S 4) 6 ^^^ rot (S 4) 11 ^^^ rot (S 4) 25)) + ((S 4) &&& (S 5) ^^^ ~~~(S 4) &&& (S 6))) + (kTab m)) + (x m)), W32 (((((S 7) + (rot (S 4) 6 ^^^ rot (S 4) 11 ^^^ rot (S 4) 25)) + ((S 4) &&& (S 5) ^^^ ~~~(S 4) &&& (S 6))) + (kTab m)) + (x m)), W32 (S 0), W32 (rot (S 0) 2 ^^^ rot (S 0) 13 ^^^ rot (S 0) 22), W32 ((((((S 7) + (rot (S 4) 6 ^^^ rot (S 4) 11 ^^^ rot (S 4) 25)) + ((S 4) &&& (S 5) ^^^ ~~~(S 4) &&& (S 6))) + (kTab m)) + (x m)) + (rot (S 0) 2 ^^^ rot (S 0) 13 ^^^ rot (S 0) 22)), W32 (S 0), W32 (S 1), W32 (S 2), W32 ((S 0) &&& (S 1) ^^^ (S 0) &&& (S 2) ^^^ (S 1) &&& (S 2)), W32 (((((((S 7) + (rot (S 4) 6 ^^^ rot (S 4) 11 ^^^ rot (S 4) 25)) + ((S 4) &&& (S 5) ^^^ ~~~(S 4) &&& (S 6))) + (kTab m)) + (x m)) + (rot (S 0) 2 ^^^ rot (S 0) 13 ^^^ rot (S 0) 22)) + ((S 0) &&& (S 1) ^^^ (S 0) &&& (S 2) ^^^ (S 1) &&& (S 2))), W32 (S 6), W32 (S 5), W32 (S 4), W32 (S 3), W32 (((((S 7) + (rot (S 4) 6 ^^^ rot (S 4) 11 ^^^ rot (S 4) 25)) + ((S 4) &&& (S 5) ^^^ ~~~(S 4) &&& (S 6))) + (kTab m)) + (x m)), W32 ((S 3) + (((((S 7) + (rot (S 4) 6 ^^^ rot (S 4) 11 ^^^ rot (S 4) 25)) + ((S 4) &&& (S 5) ^^^ ~~~(S 4) &&& (S 6))) + (kTab m)) + (x m)))] ++ D d 68 15)))) (fun L => [(L0.b 0, AW h 8), (L0.b 1, AW x 64), (L0.b 2, AW (fun _ => 0) 8), (q3, AW kTab 64)]) hp4 ⟨
        oM, oM, oM, oM, oM, oJ .u32 .u32 ((S 3).toNat : Int) ((((((S 7) + (rot (S 4) 6 ^^^ rot (S 4) 11 ^^^ rot (S 4) 25)) + ((S 4) &&& (S 5) ^^^ ~~~(S 4) &&& (S 6))) + (kTab m)) + (x m)).toNat : Int) (h := fun w => addW _ (S 3) (((((S 7) + (rot (S 4) 6 ^^^ rot (S 4) 11 ^^^ rot (S 4) 25)) + ((S 4) &&& (S 5) ^^^ ~~~(S 4) &&& (S 6))) + (kTab m)) + (x m)) w),
        oA, oA, oA, oA,
        trivial⟩ (fun L4 w5 hp5 => ?_)
      refine k6 _ _ ?_
      refine wp_seq_k (fun K7 k7 => ?_)
      refine gs [.det (W32 (S 2)), .det (W32 (S 1)), .det (W32 (S 0)), .det (W32 (((((((S 7) + (rot (S 4) 6 ^^^ rot (S 4) 11 ^^^ rot (S 4) 25)) + ((S 4) &&& (S 5) ^^^ ~~~(S 4) &&& (S 6))) + (kTab m)) + (x m)) + (rot (S 0) 2 ^^^ rot (S 0) 13 ^^^ rot (S 0) 22)) + ((S 0) &&& (S 1) ^^^ (S 0) &&& (S 2) ^^^ (S 1) &&& (S 2)))), .det (W32 (S 2)), .det (W32 (S 1)), .det (W32 (S 0)), .det (W32 (((((((S 7) + (rot (S 4) 6 ^^^ rot (S 4) 11 ^^^ rot (S 4) 25)) + ((S 4) &&& (S 5) ^^^ ~~~(S 4) &&& (S 6))) + (kTab m)) + (x m)) + (rot (S 0) 2 ^^^ rot (S 0) 13 ^^^ rot (S 0) 22)) + ((S 0) &&& (S 1) ^^^ (S 0) &&& (S 2) ^^^ (S 1) &&& (S 2))))] [0, 1, 2, 3, 4, 5, 6, 7] [0, 0, 0, 0, 1, 19, 55, 127] (fun L => D d 0 2 ++ ([L0.p 0, L0.p 1, L0.p 2, pt q3 0, W32 (((((((S 7) + (rot (S 4) 6 ^^^ rot (S 4) 11 ^^^ rot (S 4) 25)) + ((S 4) &&& (S 5) ^^^ ~~~(S 4) &&& (S 6))) + (kTab m)) + (x m)) + (rot (S 0) 2 ^^^ rot (S 0) 13 ^^^ rot (S 0) 22)) + ((S 0) &&& (S 1) ^^^ (S 0) &&& (S 2) ^^^ (S 1) &&& (S 2))), W32 (S 0), W32 (S 1), W32 (S 2), W32 ((S 3) + (((((S 7) + (rot (S 4) 6 ^^^ rot (S 4) 11 ^^^ rot (S 4) 25)) + ((S 4) &&& (S 5) ^^^ ~~~(S 4) &&& (S 6))) + (kTab m)) + (x m))), W32 (S 4), W32 (S 5), W32 (S 6), .int .i64 ((m : Nat) : Int), W32 (((((S 7) + (rot (S 4) 6 ^^^ rot (S 4) 11 ^^^ rot (S 4) 25)) + ((S 4) &&& (S 5) ^^^ ~~~(S 4) &&& (S 6))) + (kTab m)) + (x m)), W32 (((((((S 7) + (rot (S 4) 6 ^^^ rot (S 4) 11 ^^^ rot (S 4) 25)) + ((S 4) &&& (S 5) ^^^ ~~~(S 4) &&& (S 6))) + (kTab m)) + (x m)) + (rot (S 0) 2 ^^^ rot (S 0) 13 ^^^ rot (S 0) 22)) + ((S 0) &&& (S 1) ^^^ (S 0) &&& (S 2) ^^^ (S 1) &&& (S 2)))] ++ (D d 17 17 ++ ([.int .i64 ((m : Nat) : Int), .bool true, W32 (S 7), W32 (S 4), W32 (rot (S 4) 6 ^^^ rot (S 4) 11 ^^^ rot (S 4) 25), W32 ((S 7) + (rot (S 4) 6 ^^^ rot (S 4) 11 ^^^ rot (S 4) 25)), W32 (S 4), W32 (S 5), W32 (S 6), W32 ((S 4) &&& (S 5) ^^^ ~~~(S 4) &&& (S 6)), W32 (((S 7) + (rot (S 4) 6 ^^^ rot (S 4) 11 ^^^ rot (S 4) 25)) + ((S 4) &&& (S 5) ^^^ ~~~(S 4) &&& (S 6))), .int .i64 ((m : Nat) : Int), .pointer (some ⟨q3, 0 + m * 1, none⟩), W32 (kTab m), W32 ((((S 7) + (rot (S 4) 6 ^^^ rot (S 4) 11 ^^^ rot (S 4) 25)) + ((S 4) &&& (S 5) ^^^ ~~~(S 4) &&& (S 6))) + (kTab m)), .int .i64 ((m : Nat) : Int), .pointer (some ⟨(L0.b 1), 0 + m * 1, none⟩), W32 (x m), W32 (((((S 7) + (rot (S 4) 6 ^^^ rot (S 4) 11 ^^^ rot (S 4) 25)) + ((S 4) &&& (S 5) ^^^ ~~~(S 4) &&& (S 6))) + (kTab m)) + (x m)), W32 (((((S 7) + (rot (S 4) 6 ^^^ rot (S 4) 11 ^^^ rot (S 4) 25)) + ((S 4) &&& (S 5) ^^^ ~~~(S 4) &&& (S 6))) + (kTab m)) + (x m)), W32 (S 0), W32 (rot (S 0) 2 ^^^ rot (S 0) 13 ^^^ rot (S 0) 22), W32 ((((((S 7) + (rot (S 4) 6 ^^^ rot (S 4) 11 ^^^ rot (S 4) 25)) + ((S 4) &&& (S 5) ^^^ ~~~(S 4) &&& (S 6))) + (kTab m)) + (x m)) + (rot (S 0) 2 ^^^ rot (S 0) 13 ^^^ rot (S 0) 22)), W32 (S 0), W32 (S 1), W32 (S 2), W32 ((S 0) &&& (S 1) ^^^ (S 0) &&& (S 2) ^^^ (S 1) &&& (S 2)), W32 (((((((S 7) + (rot (S 4) 6 ^^^ rot (S 4) 11 ^^^ rot (S 4) 25)) + ((S 4) &&& (S 5) ^^^ ~~~(S 4) &&& (S 6))) + (kTab m)) + (x m)) + (rot (S 0) 2 ^^^ rot (S 0) 13 ^^^ rot (S 0) 22)) + ((S 0) &&& (S 1) ^^^ (S 0) &&& (S 2) ^^^ (S 1) &&& (S 2))), W32 (S 6), W32 (S 5), W32 (S 4), W32 (S 3), W32 (((((S 7) + (rot (S 4) 6 ^^^ rot (S 4) 11 ^^^ rot (S 4) 25)) + ((S 4) &&& (S 5) ^^^ ~~~(S 4) &&& (S 6))) + (kTab m)) + (x m)), W32 ((S 3) + (((((S 7) + (rot (S 4) 6 ^^^ rot (S 4) 11 ^^^ rot (S 4) 25)) + ((S 4) &&& (S 5) ^^^ ~~~(S 4) &&& (S 6))) + (kTab m)) + (x m))), W32 (S 2), W32 (S 1), W32 (S 0), W32 (((((((S 7) + (rot (S 4) 6 ^^^ rot (S 4) 11 ^^^ rot (S 4) 25)) + ((S 4) &&& (S 5) ^^^ ~~~(S 4) &&& (S 6))) + (kTab m)) + (x m)) + (rot (S 0) 2 ^^^ rot (S 0) 13 ^^^ rot (S 0) 22)) + ((S 0) &&& (S 1) ^^^ (S 0) &&& (S 2) ^^^ (S 1) &&& (S 2)))] ++ D d 72 11)))) (fun L => [(L0.b 0, AW h 8), (L0.b 1, AW x 64), (L0.b 2, AW (fun _ => 0) 8), (q3, AW kTab 64)]) hp5 ⟨
        oM, oM, oM, oM, oA, oA, oA, oA,
        trivial⟩ (fun L5 w6 hp6 => ?_)
      refine k7 _ _ ?_
      refine wp_seq_k (fun K8 k8 => ?_)
      refine gs [.det (.int .i64 ((m : Nat) : Int)), .det (.int .i64 ((m + 1 : Nat) : Int)), .det (.int .i64 ((m + 1 : Nat) : Int))] [0, 1, 2] [0, 1, 3] (fun L => D d 0 2 ++ ([L0.p 0, L0.p 1, L0.p 2, pt q3 0, W32 (((((((S 7) + (rot (S 4) 6 ^^^ rot (S 4) 11 ^^^ rot (S 4) 25)) + ((S 4) &&& (S 5) ^^^ ~~~(S 4) &&& (S 6))) + (kTab m)) + (x m)) + (rot (S 0) 2 ^^^ rot (S 0) 13 ^^^ rot (S 0) 22)) + ((S 0) &&& (S 1) ^^^ (S 0) &&& (S 2) ^^^ (S 1) &&& (S 2))), W32 (S 0), W32 (S 1), W32 (S 2), W32 ((S 3) + (((((S 7) + (rot (S 4) 6 ^^^ rot (S 4) 11 ^^^ rot (S 4) 25)) + ((S 4) &&& (S 5) ^^^ ~~~(S 4) &&& (S 6))) + (kTab m)) + (x m))), W32 (S 4), W32 (S 5), W32 (S 6), .int .i64 ((m + 1 : Nat) : Int), W32 (((((S 7) + (rot (S 4) 6 ^^^ rot (S 4) 11 ^^^ rot (S 4) 25)) + ((S 4) &&& (S 5) ^^^ ~~~(S 4) &&& (S 6))) + (kTab m)) + (x m)), W32 (((((((S 7) + (rot (S 4) 6 ^^^ rot (S 4) 11 ^^^ rot (S 4) 25)) + ((S 4) &&& (S 5) ^^^ ~~~(S 4) &&& (S 6))) + (kTab m)) + (x m)) + (rot (S 0) 2 ^^^ rot (S 0) 13 ^^^ rot (S 0) 22)) + ((S 0) &&& (S 1) ^^^ (S 0) &&& (S 2) ^^^ (S 1) &&& (S 2)))] ++ (D d 17 17 ++ ([.int .i64 ((m : Nat) : Int), .bool true, W32 (S 7), W32 (S 4), W32 (rot (S 4) 6 ^^^ rot (S 4) 11 ^^^ rot (S 4) 25), W32 ((S 7) + (rot (S 4) 6 ^^^ rot (S 4) 11 ^^^ rot (S 4) 25)), W32 (S 4), W32 (S 5), W32 (S 6), W32 ((S 4) &&& (S 5) ^^^ ~~~(S 4) &&& (S 6)), W32 (((S 7) + (rot (S 4) 6 ^^^ rot (S 4) 11 ^^^ rot (S 4) 25)) + ((S 4) &&& (S 5) ^^^ ~~~(S 4) &&& (S 6))), .int .i64 ((m : Nat) : Int), .pointer (some ⟨q3, 0 + m * 1, none⟩), W32 (kTab m), W32 ((((S 7) + (rot (S 4) 6 ^^^ rot (S 4) 11 ^^^ rot (S 4) 25)) + ((S 4) &&& (S 5) ^^^ ~~~(S 4) &&& (S 6))) + (kTab m)), .int .i64 ((m : Nat) : Int), .pointer (some ⟨(L0.b 1), 0 + m * 1, none⟩), W32 (x m), W32 (((((S 7) + (rot (S 4) 6 ^^^ rot (S 4) 11 ^^^ rot (S 4) 25)) + ((S 4) &&& (S 5) ^^^ ~~~(S 4) &&& (S 6))) + (kTab m)) + (x m)), W32 (((((S 7) + (rot (S 4) 6 ^^^ rot (S 4) 11 ^^^ rot (S 4) 25)) + ((S 4) &&& (S 5) ^^^ ~~~(S 4) &&& (S 6))) + (kTab m)) + (x m)), W32 (S 0), W32 (rot (S 0) 2 ^^^ rot (S 0) 13 ^^^ rot (S 0) 22), W32 ((((((S 7) + (rot (S 4) 6 ^^^ rot (S 4) 11 ^^^ rot (S 4) 25)) + ((S 4) &&& (S 5) ^^^ ~~~(S 4) &&& (S 6))) + (kTab m)) + (x m)) + (rot (S 0) 2 ^^^ rot (S 0) 13 ^^^ rot (S 0) 22)), W32 (S 0), W32 (S 1), W32 (S 2), W32 ((S 0) &&& (S 1) ^^^ (S 0) &&& (S 2) ^^^ (S 1) &&& (S 2)), W32 (((((((S 7) + (rot (S 4) 6 ^^^ rot (S 4) 11 ^^^ rot (S 4) 25)) + ((S 4) &&& (S 5) ^^^ ~~~(S 4) &&& (S 6))) + (kTab m)) + (x m)) + (rot (S 0) 2 ^^^ rot (S 0) 13 ^^^ rot (S 0) 22)) + ((S 0) &&& (S 1) ^^^ (S 0) &&& (S 2) ^^^ (S 1) &&& (S 2))), W32 (S 6), W32 (S 5), W32 (S 4), W32 (S 3), W32 (((((S 7) + (rot (S 4) 6 ^^^ rot (S 4) 11 ^^^ rot (S 4) 25)) + ((S 4) &&& (S 5) ^^^ ~~~(S 4) &&& (S 6))) + (kTab m)) + (x m)), W32 ((S 3) + (((((S 7) + (rot (S 4) 6 ^^^ rot (S 4) 11 ^^^ rot (S 4) 25)) + ((S 4) &&& (S 5) ^^^ ~~~(S 4) &&& (S 6))) + (kTab m)) + (x m))), W32 (S 2), W32 (S 1), W32 (S 0), W32 (((((((S 7) + (rot (S 4) 6 ^^^ rot (S 4) 11 ^^^ rot (S 4) 25)) + ((S 4) &&& (S 5) ^^^ ~~~(S 4) &&& (S 6))) + (kTab m)) + (x m)) + (rot (S 0) 2 ^^^ rot (S 0) 13 ^^^ rot (S 0) 22)) + ((S 0) &&& (S 1) ^^^ (S 0) &&& (S 2) ^^^ (S 1) &&& (S 2))), .int .i64 ((m : Nat) : Int), .int .i64 ((m + 1 : Nat) : Int)] ++ D d 74 9)))) (fun L => [(L0.b 0, AW h 8), (L0.b 1, AW x 64), (L0.b 2, AW (fun _ => 0) 8), (q3, AW kTab 64)]) hp6 ⟨
        oM, oJ .i64 .i64 ((m : Nat) : Int) 1 (h := fun w => add1N _ m (by omega) w), oA,
        trivial⟩ (fun L6 w7 hp7 => ?_)
      refine k8 _ _ ?_
      refine wp_goto ?_
      exact ⟨rfl, ⟨m + 1, (fun zz => (D d 0 2 ++ ([L0.p 0, L0.p 1, L0.p 2, pt q3 0, W32 (((((((S 7) + (rot (S 4) 6 ^^^ rot (S 4) 11 ^^^ rot (S 4) 25)) + ((S 4) &&& (S 5) ^^^ ~~~(S 4) &&& (S 6))) + (kTab m)) + (x m)) + (rot (S 0) 2 ^^^ rot (S 0) 13 ^^^ rot (S 0) 22)) + ((S 0) &&& (S 1) ^^^ (S 0) &&& (S 2) ^^^ (S 1) &&& (S 2))), W32 (S 0), W32 (S 1), W32 (S 2), W32 ((S 3) + (((((S 7) + (rot (S 4) 6 ^^^ rot (S 4) 11 ^^^ rot (S 4) 25)) + ((S 4) &&& (S 5) ^^^ ~~~(S 4) &&& (S 6))) + (kTab m)) + (x m))), W32 (S 4), W32 (S 5), W32 (S 6), .int .i64 ((m + 1 : Nat) : Int), W32 (((((S 7) + (rot (S 4) 6 ^^^ rot (S 4) 11 ^^^ rot (S 4) 25)) + ((S 4) &&& (S 5) ^^^ ~~~(S 4) &&& (S 6))) + (kTab m)) + (x m)), W32 (((((((S 7) + (rot (S 4) 6 ^^^ rot (S 4) 11 ^^^ rot (S 4) 25)) + ((S 4) &&& (S 5) ^^^ ~~~(S 4) &&& (S 6))) + (kTab m)) + (x m)) + (rot (S 0) 2 ^^^ rot (S 0) 13 ^^^ rot (S 0) 22)) + ((S 0) &&& (S 1) ^^^ (S 0) &&& (S 2) ^^^ (S 1) &&& (S 2)))] ++ (D d 17 17 ++ ([.int .i64 ((m : Nat) : Int), .bool true, W32 (S 7), W32 (S 4), W32 (rot (S 4) 6 ^^^ rot (S 4) 11 ^^^ rot (S 4) 25), W32 ((S 7) + (rot (S 4) 6 ^^^ rot (S 4) 11 ^^^ rot (S 4) 25)), W32 (S 4), W32 (S 5), W32 (S 6), W32 ((S 4) &&& (S 5) ^^^ ~~~(S 4) &&& (S 6)), W32 (((S 7) + (rot (S 4) 6 ^^^ rot (S 4) 11 ^^^ rot (S 4) 25)) + ((S 4) &&& (S 5) ^^^ ~~~(S 4) &&& (S 6))), .int .i64 ((m : Nat) : Int), .pointer (some ⟨q3, 0 + m * 1, none⟩), W32 (kTab m), W32 ((((S 7) + (rot (S 4) 6 ^^^ rot (S 4) 11 ^^^ rot (S 4) 25)) + ((S 4) &&& (S 5) ^^^ ~~~(S 4) &&& (S 6))) + (kTab m)), .int .i64 ((m : Nat) : Int), .pointer (some ⟨(L0.b 1), 0 + m * 1, none⟩), W32 (x m), W32 (((((S 7) + (rot (S 4) 6 ^^^ rot (S 4) 11 ^^^ rot (S 4) 25)) + ((S 4) &&& (S 5) ^^^ ~~~(S 4) &&& (S 6))) + (kTab m)) + (x m)), W32 (((((S 7) + (rot (S 4) 6 ^^^ rot (S 4) 11 ^^^ rot (S 4) 25)) + ((S 4) &&& (S 5) ^^^ ~~~(S 4) &&& (S 6))) + (kTab m)) + (x m)), W32 (S 0), W32 (rot (S 0) 2 ^^^ rot (S 0) 13 ^^^ rot (S 0) 22), W32 ((((((S 7) + (rot (S 4) 6 ^^^ rot (S 4) 11 ^^^ rot (S 4) 25)) + ((S 4) &&& (S 5) ^^^ ~~~(S 4) &&& (S 6))) + (kTab m)) + (x m)) + (rot (S 0) 2 ^^^ rot (S 0) 13 ^^^ rot (S 0) 22)), W32 (S 0), W32 (S 1), W32 (S 2), W32 ((S 0) &&& (S 1) ^^^ (S 0) &&& (S 2) ^^^ (S 1) &&& (S 2)), W32 (((((((S 7) + (rot (S 4) 6 ^^^ rot (S 4) 11 ^^^ rot (S 4) 25)) + ((S 4) &&& (S 5) ^^^ ~~~(S 4) &&& (S 6))) + (kTab m)) + (x m)) + (rot (S 0) 2 ^^^ rot (S 0) 13 ^^^ rot (S 0) 22)) + ((S 0) &&& (S 1) ^^^ (S 0) &&& (S 2) ^^^ (S 1) &&& (S 2))), W32 (S 6), W32 (S 5), W32 (S 4), W32 (S 3), W32 (((((S 7) + (rot (S 4) 6 ^^^ rot (S 4) 11 ^^^ rot (S 4) 25)) + ((S 4) &&& (S 5) ^^^ ~~~(S 4) &&& (S 6))) + (kTab m)) + (x m)), W32 ((S 3) + (((((S 7) + (rot (S 4) 6 ^^^ rot (S 4) 11 ^^^ rot (S 4) 25)) + ((S 4) &&& (S 5) ^^^ ~~~(S 4) &&& (S 6))) + (kTab m)) + (x m))), W32 (S 2), W32 (S 1), W32 (S 0), W32 (((((((S 7) + (rot (S 4) 6 ^^^ rot (S 4) 11 ^^^ rot (S 4) 25)) + ((S 4) &&& (S 5) ^^^ ~~~(S 4) &&& (S 6))) + (kTab m)) + (x m)) + (rot (S 0) 2 ^^^ rot (S 0) 13 ^^^ rot (S 0) 22)) + ((S 0) &&& (S 1) ^^^ (S 0) &&& (S 2) ^^^ (S 1) &&& (S 2))), .int .i64 ((m : Nat) : Int), .int .i64 ((m + 1 : Nat) : Int)] ++ D d 74 9))) : List Value).getD zz undef), q3, by rw [rr_s, ← eS, ← rnA_rnd, rnA, rT]; kernel_rfl, by omega, hp7⟩, by show 64 - (m + 1) < 64 - m; omega⟩
    · skip
      obtain rfl : m = 64 := by omega
      refine wp_seq_k (fun K9 k9 => ?_)
      refine wp_seq_k (fun K10 k10 => ?_)
      refine gs [.det (.int .i64 ((64 : Nat) : Int)), .det (.bool false)] [0, 1] [0, 1] (fun L => D d 0 2 ++ ([L0.p 0, L0.p 1, L0.p 2, pt q3 0, W32 (S 0), W32 (S 1), W32 (S 2), W32 (S 3), W32 (S 4), W32 (S 5), W32 (S 6), W32 (S 7), .int .i64 ((64 : Nat) : Int)] ++ (D d 15 19 ++ ([.int .i64 ((64 : Nat) : Int), .bool false] ++ D d 36 47)))) (fun L => [(L0.b 0, AW h 8), (L0.b 1, AW x 64), (L0.b 2, AW (fun _ => 0) 8), (q3, AW kTab 64)]) hJ ⟨
        oM, oJ .i64 .i64 ((64 : Nat) : Int) 64 (h := fun w => (lssI _ _ _ w).trans (by rw [decide_eq_false (by omega)])),
        trivial⟩ (fun L7 w8 hp8 => ?_)
      refine k10 _ _ ?_
      refine wp_cond_false (by kernel_rfl) ?_
      refine skips ?_
      refine k9 _ _ ?_
      refine wp_seq_k (fun K11 k11 => ?_)
      refine gs [.det (W32 (S 0)), .det (W32 (S 1)), .det (W32 (S 2)), .det (W32 (S 3)), .det (W32 (S 4)), .det (W32 (S 5)), .det (W32 (S 6)), .det (W32 (S 7)), .det (VW (mk8 (S 0) (S 1) (S 2) (S 3) (S 4) (S 5) (S 6) (S 7)) 8), .store (.base 2) 0 (AW (mk8 (S 0) (S 1) (S 2) (S 3) (S 4) (S 5) (S 6) (S 7)) 8) (AW (mk8 (S 0) (S 1) (S 2) (S 3) (S 4) (S 5) (S 6) (S 7)) 8)] [0, 1, 2, 3, 4, 5, 6, 7, 8, 9] [0, 0, 0, 0, 0, 0, 0, 0, 255, 511] (fun L => D d 0 2 ++ ([L0.p 0, L0.p 1, L0.p 2, pt q3 0, W32 (S 0), W32 (S 1), W32 (S 2), W32 (S 3), W32 (S 4), W32 (S 5), W32 (S 6), W32 (S 7), .int .i64 ((64 : Nat) : Int)] ++ (D d 15 19 ++ ([.int .i64 ((64 : Nat) : Int), .bool false] ++ (D d 36 38 ++ [W32 (S 0), W32 (S 1), W32 (S 2), W32 (S 3), W32 (S 4), W32 (S 5), W32 (S 6), W32 (S 7), VW (mk8 (S 0) (S 1) (S 2) (S 3) (S 4) (S 5) (S 6) (S 7)) 8]))))) (fun L => [(L0.b 0, AW h 8), (L0.b 1, AW x 64), (L0.b 2, AW (mk8 (S 0) (S 1) (S 2) (S 3) (S 4) (S 5) (S 6) (S 7)) 8), (q3, AW kTab 64)]) hp8 ⟨
        oM, oM, oM, oM, oM, oM, oM, oM, oD (build8 (S 0) (S 1) (S 2) (S 3) (S 4) (S 5) (S 6) (S 7)), oT rW8,
        trivial⟩ (fun L8 w9 hp9 => ?_)
      refine k11 _ _ ?_
      refine wp_ret ?_
      refine bodyPost_ret (v := VW (mk8 (S 0) (S 1) (S 2) (S 3) (S 4) (S 5) (S 6) (S 7)) 8) ?_ rfl ?_
      · exact rc rW8 rfl (by kernel_rfl) (hp9.bound 2 rfl).2
      · exact ⟨by rw [VW_mk8, eS], hp9.bel⟩
  · skip
    intro hr
    refine wp_seq_k (fun K12 k12 => ?_)
    refine gs [.det (VW kTab 64), .alloc (AW (fun _ => 0) 64), .store (.new 1) 0 (AW kTab 64) (AW kTab 64)] [0, 1, 2] [0, 0, 3] (fun L => [VW h 8, VW x 64, L0.p 0, L0.p 1, L0.p 2, L.p 1] ++ (U 11 ++ ([VW kTab 64] ++ U 65))) (fun L => [(L0.b 0, AW h 8), (L0.b 1, AW x 64), (L0.b 2, AW (fun _ => 0) 8), (L.b 1, AW kTab 64)]) hp1 ⟨
      oD buildK64, oZ rW64, oT rW64,
      trivial⟩ (fun L9 w10 hp10 => ?_)
    refine k12 _ _ ?_
    refine wp_seq_k (fun K13 k13 => ?_)
    refine dr [.det (L0.p 0), .det (W32 (h 0)), .det (pt (L0.b 0) 1), .det (W32 (h 1)), .det (pt (L0.b 0) 2), .det (W32 (h 2)), .det (pt (L0.b 0) 3), .det (W32 (h 3)), .det (pt (L0.b 0) 4), .det (W32 (h 4)), .det (pt (L0.b 0) 5), .det (W32 (h 5)), .det (pt (L0.b 0) 6), .det (W32 (h 6)), .det (pt (L0.b 0) 7), .det (W32 (h 7)), .det (W32 (h 0)), .det (W32 (h 1)), .det (W32 (h 2)), .det (W32 (h 3)), .det (W32 (h 4)), .det (W32 (h 5)), .det (W32 (h 6)), .det (W32 (h 7))] [0, 1, 2, 3, 4, 5, 6, 7, 8, 9, 10, 11, 12, 13, 14, 15, 16, 17, 18, 19, 20, 21, 22, 23] [0, 1, 0, 4, 0, 16, 0, 64, 0, 256, 0, 1024, 0, 4096, 0, 16384, 3, 65551, 196671, 459007, 984063, 2035711, 4145151, 8388607] (fun L => [VW h 8, VW x 64, L0.p 0, L0.p 1, L0.p 2, L9.p 1, W32 (h 0), W32 (h 1), W32 (h 2), W32 (h 3), W32 (h 4), W32 (h 5), W32 (h 6), W32 (h 7), undef, undef, undef, VW kTab 64, L0.p 0, W32 (h 0), pt (L0.b 0) 1, W32 (h 1), pt (L0.b 0) 2, W32 (h 2), pt (L0.b 0) 3, W32 (h 3), pt (L0.b 0) 4, W32 (h 4), pt (L0.b 0) 5, W32 (h 5), pt (L0.b 0) 6, W32 (h 6), pt (L0.b 0) 7, W32 (h 7)] ++ U 49) (fun L => [(L0.b 0, AW h 8), (L0.b 1, AW x 64), (L0.b 2, AW (fun _ => 0) 8), (L9.b 1, AW kTab 64)]) hp10 ⟨
      oI aW8, oL1 0 0 oneW, oI aW8, oL1 0 1 oneW, oI aW8, oL1 0 2 oneW, oI aW8, oL1 0 3 oneW, oI aW8, oL1 0 4 oneW, oI aW8, oL1 0 5 oneW, oI aW8, oL1 0 6 oneW, oI aW8,
      oL1 0 7 oneW, oA, oA, oA, oA, oA, oA, oA, oA,
      trivial⟩ (fun L10 w11 hp11 => ?_)
    refine k13 _ _ ?_
    refine wp_seq_k (fun K14 k14 => ?_)
    refine gs [.det (.int .i64 0)] [0] [0] (fun L => [VW h 8, VW x 64, L0.p 0, L0.p 1, L0.p 2, L9.p 1, W32 (h 0), W32 (h 1), W32 (h 2), W32 (h 3), W32 (h 4), W32 (h 5), W32 (h 6), W32 (h 7), .int .i64 0, undef, undef, VW kTab 64, L0.p 0, W32 (h 0), pt (L0.b 0) 1, W32 (h 1), pt (L0.b 0) 2, W32 (h 2), pt (L0.b 0) 3, W32 (h 3), pt (L0.b 0) 4, W32 (h 4), pt (L0.b 0) 5, W32 (h 5), pt (L0.b 0) 6, W32 (h 6), pt (L0.b 0) 7, W32 (h 7)] ++ U 49) (fun L => [(L0.b 0, AW h 8), (L0.b 1, AW x 64), (L0.b 2, AW (fun _ => 0) 8), (L9.b 1, AW kTab 64)]) hp11 ⟨
      oA,
      trivial⟩ (fun L11 w12 hp12 => ?_)
    refine k14 _ _ ?_
    refine wp_seq_k (fun Kl kl => ?_)
    refine wp_label ?_
    exact kl _ _ (hr _ _ ⟨0, (fun zz => ([VW h 8, VW x 64, L0.p 0, L0.p 1, L0.p 2, L9.p 1, W32 (h 0), W32 (h 1), W32 (h 2), W32 (h 3), W32 (h 4), W32 (h 5), W32 (h 6), W32 (h 7), .int .i64 0, undef, undef, VW kTab 64, L0.p 0, W32 (h 0), pt (L0.b 0) 1, W32 (h 1), pt (L0.b 0) 2, W32 (h 2), pt (L0.b 0) 3, W32 (h 3), pt (L0.b 0) 4, W32 (h 4), pt (L0.b 0) 5, W32 (h 5), pt (L0.b 0) 6, W32 (h 6), pt (L0.b 0) 7, W32 (h 7)] ++ U 49 : List Value).getD zz undef), (L9.b 1), by rw [rr_0]; kernel_rfl, by omega, hp12⟩)
def bkI1 (h : Nat → BitVec 32) (c : Nat → Int) (Z : Nat → BitVec 32) (w : World) (q0 q1 q2 q3 : Nat) : Nat → Act → World → Prop := fun L a' w' => ∃ (m : Nat) (d : Nat → Value),
  a' = { tmps := (D d 0 2 ++ ([.pointer (some ⟨q0, 0, none⟩), .pointer (some ⟨q1, 0, none⟩), .pointer (some ⟨q2, 0, none⟩), .pointer (some ⟨q3, 0, none⟩)] ++ (D d 6 5 ++ ([.int .i64 ((m : Nat) : Int)] ++ D d 12 12))) : List Value).toArray, defers := [] } ∧ m + L = 8 ∧ Heap w.heap.size w w' [(q0, AW (fin8 h Z m) 8), (q1, BC c 64), (q2, AW (fun _ => 0) 8), (q3, AW Z 8)]

set_option maxHeartbeats 4000000 in
theorem shaBlock0 (h : Nat → BitVec 32) (c : Nat → Int) (hc : ∀ i, i < 64 → 0 ≤ c i ∧ c i < 256) (w : World) : Calls Try.prog 23 #[VW h 8, VB c 64] w (Ret (VW (blk h c kTab) 8) w) := by
  obtain ⟨Z, eZ⟩ : ∃ x1, x1 = rr h kTab (wex (wst c 64) 48) 64 := ⟨_, rfl⟩
  have hp0 := Heap.start w
  go_enter Try.func23, Try.ntmps23
  refine wp_seq_k (fun K1 k1 => ?_)
  refine gs [.alloc (AW h 8), .alloc (BC c 64), .alloc (AW (fun _ => 0) 8)] [0, 1, 2] [0, 0, 0] (fun L => [VW h 8, VB c 64, L.p 0, L.p 1, L.p 2] ++ U 19) (fun L => [(L.b 0, AW h 8), (L.b 1, BC c 64), (L.b 2, AW (fun _ => 0) 8)]) hp0 ⟨
    oB, oB, oZ rW8,
    trivial⟩ (fun L0 w1 hp1 => ?_)
  refine k1 _ _ ?_
  refine wp_seq_k (fun K2 k2 => ?_)
  refine dr [.det (VW h 8), .det (VB c 64), .det (VW (wex (wst c 64) 48) 64), .det (VW Z 8), .alloc (AW (fun _ => 0) 8), .store (.new 4) 0 (AW Z 8) (AW Z 8)] [0, 1, 2, 3, 4, 5] [0, 0, 2, 7, 0, 31] (fun L => [VW h 8, VB c 64, L0.p 0, L0.p 1, L0.p 2, L.p 4, undef, VW h 8, VB c 64, VW (wex (wst c 64) 48) 64, VW Z 8] ++ U 13) (fun L => [(L0.b 0, AW h 8), (L0.b 1, BC c 64), (L0.b 2, AW (fun _ => 0) 8), (L.b 4, AW Z 8)]) hp1 ⟨
    oL 0 0 rW8, oL 1 0 rB64, oR (shaSpread c hc), oR (by rw [eZ]; exact shaMix h (wex (wst c 64) 48)), oZ rW8, oT rW8,
    trivial⟩ (fun L1 w2 hp2 => ?_)
  refine k2 _ _ ?_
  refine wp_seq_k (fun K3 k3 => ?_)
  refine wp_seq_k (fun K4 k4 => ?_)
  refine gs [.det (.int .i64 0)] [0] [0] (fun L => [VW h 8, VB c 64, L0.p 0, L0.p 1, L0.p 2, L1.p 4, undef, VW h 8, VB c 64, VW (wex (wst c 64) 48) 64, VW Z 8, .int .i64 0] ++ U 12) (fun L => [(L0.b 0, AW h 8), (L0.b 1, BC c 64), (L0.b 2, AW (fun _ => 0) 8), (L1.b 4, AW Z 8)]) hp2 ⟨
    oM,
    trivial⟩ (fun L2 w3 hp3 => ?_)
  refine k4 _ _ ?_
  refine wp_block_k (fun K5 k5 => ?_)
  refine wp_loop_ghost (bkI1 h c Z w (L0.b 0) (L0.b 1) (L0.b 2) (L1.b 4)) 8 ⟨0, (fun zz => ([VW h 8, VB c 64, L0.p 0, L0.p 1, L0.p 2, L1.p 4, undef, VW h 8, VB c 64, VW (wex (wst c 64) 48) 64, VW Z 8, .int .i64 0] ++ U 12 : List Value).getD zz undef), by kernel_rfl, Nat.zero_add _, by rw [fin8_0]; exact hp3⟩ ?_
  rintro L a' W ⟨m, d, rfl, hL, hJ⟩
  by_cases hL0 : L = 0
  rotate_left
  · skip
    have hm : m < 8 := by omega
    refine wp_seq_k (fun K6 k6 => ?_)
    refine gs [.det (.bool true)] [0] [0] (fun L => D d 0 2 ++ ([L0.p 0, L0.p 1, L0.p 2, L1.p 4] ++ (D d 6 5 ++ ([.int .i64 ((m : Nat) : Int), .bool true] ++ D d 13 11)))) (fun L => [(L0.b 0, AW (fin8 h Z m) 8), (L0.b 1, BC c 64), (L0.b 2, AW (fun _ => 0) 8), (L1.b 4, AW Z 8)]) hJ ⟨
      oJ .i64 .i64 ((m : Nat) : Int) 8 (h := fun w => (lssI _ _ _ w).trans (by rw [decide_eq_true (by omega)])),
      trivial⟩ (fun L3 w4 hp4 => ?_)
    refine k6 _ _ ?_
    refine wp_seq_k (fun K7 k7 => ?_)
    refine wp_cond_true (by kernel_rfl) ?_
    refine skips ?_
    refine k7 _ _ ?_
    refine wp_seq_k (fun K8 k8 => ?_)
    refine wp_block_k (fun K9 k9 => ?_)
    refine wp_seq_k (fun K10 k10 => ?_)
    refine gs [.det (.int .i64 ((m : Nat) : Int)), .det (.int .i64 ((m : Nat) : Int))] [0, 1] [0, 1] (fun L => D d 0 2 ++ ([L0.p 0, L0.p 1, L0.p 2, L1.p 4, .int .i64 ((m : Nat) : Int)] ++ (D d 7 4 ++ ([.int .i64 ((m : Nat) : Int), .bool true, .int .i64 ((m : Nat) : Int)] ++ D d 14 10)))) (fun L => [(L0.b 0, AW (fin8 h Z m) 8), (L0.b 1, BC c 64), (L0.b 2, AW (fun _ => 0) 8), (L1.b 4, AW Z 8)]) hp4 ⟨
      oM, oA,
      trivial⟩ (fun L4 w5 hp5 => ?_)
    refine k10 _ _ ?_
    refine dr [.det (.int .i64 ((m : Nat) : Int)), .det (.pointer (some ⟨(L0.b 0), 0 + m * 1, none⟩)), .det (W32 ((fin8 h Z m) m)), .det (.int .i64 ((m : Nat) : Int)), .det (.pointer (some ⟨(L1.b 4), 0 + m * 1, none⟩)), .det (W32 (Z m)), .det (W32 (((fin8 h Z m) m) + (Z m))), .det (.pointer (some ⟨(L0.b 0), 0 + m * 1, none⟩)), .store (.base 0) (0 + m * 1) ([W32 (((fin8 h Z m) m) + (Z m))]) (AW (wup (fin8 h Z m) m (((fin8 h Z m) m) + (Z m))) 8)] [0, 1, 2, 3, 4, 5, 6, 7, 8] [0, 1, 3, 0, 8, 24, 63, 127, 255] (fun L => D d 0 2 ++ ([L0.p 0, L0.p 1, L0.p 2, L1.p 4, .int .i64 ((m : Nat) : Int)] ++ (D d 7 4 ++ ([.int .i64 ((m : Nat) : Int), .bool true, .int .i64 ((m : Nat) : Int), .int .i64 ((m : Nat) : Int), .pointer (some ⟨(L0.b 0), 0 + m * 1, none⟩), W32 ((fin8 h Z m) m), .int .i64 ((m : Nat) : Int), .pointer (some ⟨(L1.b 4), 0 + m * 1, none⟩), W32 (Z m), W32 (((fin8 h Z m) m) + (Z m)), .pointer (some ⟨(L0.b 0), 0 + m * 1, none⟩)] ++ D d 22 2)))) (fun L => [(L0.b 0, AW (wup (fin8 h Z m) m (((fin8 h Z m) m) + (Z m))) 8), (L0.b 1, BC c 64), (L0.b 2, AW (fun _ => 0) 8), (L1.b 4, AW Z 8)]) hp5 ⟨
      oM, oIA (k := .i64) m aW8 (by omega), oLA (n := 8) (j := m) 0 (by omega), oM, oIA (k := .i64) m aW8 (by omega), oLA (n := 8) (j := m) 3 (by omega), oJ .u32 .u32 (((fin8 h Z m) m).toNat : Int) ((Z m).toNat : Int) (h := fun w => addW _ ((fin8 h Z m) m) (Z m) w),
      oIA (k := .i64) m aW8 (by omega), oTA (n := 8) (j := m) (by omega),
      trivial⟩ (fun L5 w6 hp6 => ?_)
    refine k9 _ _ _ ?_
    refine block_normal ?_
    refine k8 _ _ ?_
    refine gs [.det (.int .i64 ((m + 1 : Nat) : Int)), .det (.int .i64 ((m + 1 : Nat) : Int))] [0, 1] [0, 1] (fun L => D d 0 2 ++ ([L0.p 0, L0.p 1, L0.p 2, L1.p 4, .int .i64 ((m : Nat) : Int)] ++ (D d 7 4 ++ [.int .i64 ((m + 1 : Nat) : Int), .bool true, .int .i64 ((m : Nat) : Int), .int .i64 ((m : Nat) : Int), .pointer (some ⟨(L0.b 0), 0 + m * 1, none⟩), W32 ((fin8 h Z m) m), .int .i64 ((m : Nat) : Int), .pointer (some ⟨(L1.b 4), 0 + m * 1, none⟩), W32 (Z m), W32 (((fin8 h Z m) m) + (Z m)), .pointer (some ⟨(L0.b 0), 0 + m * 1, none⟩), .int .i64 ((m + 1 : Nat) : Int), d 23]))) (fun L => [(L0.b 0, AW (wup (fin8 h Z m) m (((fin8 h Z m) m) + (Z m))) 8), (L0.b 1, BC c 64), (L0.b 2, AW (fun _ => 0) 8), (L1.b 4, AW Z 8)]) hp6 ⟨
      oJ .i64 .i64 ((m : Nat) : Int) 1 (h := fun w => add1N _ (m) (by omega) w), oM,
      trivial⟩ (fun L6 w7 hp7 => ?_)
    exact ⟨L - 1, by omega, m + 1, (fun zz => (D d 0 2 ++ ([L0.p 0, L0.p 1, L0.p 2, L1.p 4, .int .i64 ((m : Nat) : Int)] ++ (D d 7 4 ++ [.int .i64 ((m + 1 : Nat) : Int), .bool true, .int .i64 ((m : Nat) : Int), .int .i64 ((m : Nat) : Int), .pointer (some ⟨(L0.b 0), 0 + m * 1, none⟩), W32 ((fin8 h Z m) m), .int .i64 ((m : Nat) : Int), .pointer (some ⟨(L1.b 4), 0 + m * 1, none⟩), W32 (Z m), W32 (((fin8 h Z m) m) + (Z m)), .pointer (some ⟨(L0.b 0), 0 + m * 1, none⟩), .int .i64 ((m + 1 : Nat) : Int), d 23])) : List Value).getD zz undef), by kernel_rfl, by omega, by rw [fin8_s]; exact hp7⟩
  obtain rfl : m = 8 := by omega
  obtain ⟨z4, ez4⟩ : ∃ x, x = fin8 h Z 8 := ⟨_, rfl⟩
  rw [← ez4] at hJ
  refine wp_seq_k (fun K11 k11 => ?_)
  refine gs [.det (.bool false)] [0] [0] (fun L => D d 0 2 ++ ([L0.p 0, L0.p 1, L0.p 2, L1.p 4] ++ (D d 6 5 ++ ([.int .i64 ((8 : Nat) : Int), .bool false] ++ D d 13 11)))) (fun L => [(L0.b 0, AW z4 8), (L0.b 1, BC c 64), (L0.b 2, AW (fun _ => 0) 8), (L1.b 4, AW Z 8)]) hJ ⟨
    oJ .i64 .i64 ((8 : Nat) : Int) 8 (h := fun w => (lssI _ _ _ w).trans (by rw [decide_eq_false (by omega)])),
    trivial⟩ (fun L7 w8 hp8 => ?_)
  refine k11 _ _ ?_
  refine wp_seq_k (fun K12 k12 => ?_)
  refine wp_cond_false (by kernel_rfl) ?_
  refine wp_exit ?_
  refine then_exit ?_
  refine then_exit ?_
  refine k5 _ _ _ ?_
  refine exit_in ?_
  refine k3 _ _ ?_
  refine wp_seq_k (fun K13 k13 => ?_)
  refine gs [.det (VW z4 8), .store (.base 2) 0 (AW z4 8) (AW z4 8)] [0, 1] [0, 1] (fun L => D d 0 2 ++ ([L0.p 0, L0.p 1, L0.p 2, L1.p 4] ++ (D d 6 5 ++ ([.int .i64 ((8 : Nat) : Int), .bool false] ++ (D d 13 10 ++ [VW z4 8]))))) (fun L => [(L0.b 0, AW z4 8), (L0.b 1, BC c 64), (L0.b 2, AW z4 8), (L1.b 4, AW Z 8)]) hp8 ⟨
    oL 0 0 rW8, oT rW8,
    trivial⟩ (fun L8 w9 hp9 => ?_)
  refine k13 _ _ ?_
  refine wp_ret ?_
  refine bodyPost_ret (v := VW z4 8) ?_ rfl ?_
  · exact rc rW8 rfl (by kernel_rfl) (hp9.bound 2 rfl).2
  · exact ⟨by rw [ez4, fin8_turn, eZ]; rfl, hp9.bel⟩
theorem shaBlock (h : Nat → BitVec 32) (c : Nat → Int) (hc : ∀ i, i < 64 → 0 ≤ c i ∧ c i < 256) (w : World) : Calls Try.prog 23 #[VW h 8, VB c 64] w (Ret (VW (blk h c (hz true 64)) 8) w) := by
  rw [blk_congr kTab_at]
  exact shaBlock0 h c hc w
end Go.Proofs.Ytccidmogamnihaa.fpn
