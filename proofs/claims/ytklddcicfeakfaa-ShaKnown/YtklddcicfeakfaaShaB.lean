/- Package sha: the rounds, a block. -/
import Derived.Test.YtklddcicfeakfaaShaA
namespace Go.Proofs.Ytklddcicfeakfaa.fpn
open Go.RowKit Pl
set_option linter.unusedVariables false
set_option linter.unusedSimpArgs false
set_option maxRecDepth 8000

/-- A round as the program has it: what is added comes in one by one. -/
def rnA (s : Nat → BitVec 32) (k x : BitVec 32) : Nat → BitVec 32 := mk8 (rT s k x + (rot (s 0) 2 ^^^ rot (s 0) 13 ^^^ rot (s 0) 22) + (s 0 &&& s 1 ^^^ s 0 &&& s 2 ^^^ s 1 &&& s 2)) (s 0) (s 1) (s 2) (s 3 + rT s k x) (s 4) (s 5) (s 6)
theorem rnA_rnd (s : Nat → BitVec 32) (k x : BitVec 32) : rnA s k x = rnd s k x := by
  unfold rnA rnd
  rw [show rT s k x + rU s = rT s k x + (rot (s 0) 2 ^^^ rot (s 0) 13 ^^^ rot (s 0) 22) + (s 0 &&& s 1 ^^^ s 0 &&& s 2 ^^^ s 1 &&& s 2) by unfold rU; rw [BitVec.add_assoc]]
theorem VW_mk8 (f : Nat → BitVec 32) : VW (mk8 (f 0) (f 1) (f 2) (f 3) (f 4) (f 5) (f 6) (f 7)) 8 = VW f 8 := congrArg (fun z => Value.agg (List.toArray z)) (AW_congr fun j hj => by
  match j, hj with
  | 0, _ => rfl
  | 1, _ => rfl
  | 2, _ => rfl
  | 3, _ => rfl
  | 4, _ => rfl
  | 5, _ => rfl
  | 6, _ => rfl
  | 7, _ => rfl)
theorem fin8_at (s h : Nat → BitVec 32) : ∀ m i, fin8 s h m i = if i < m then s i + h i else s i
  | 0, i => by rw [fin8_0, if_neg (by omega)]
  | m + 1, i => by
    rw [fin8_s]
    by_cases e : i = m
    · subst e; rw [wup_at, fin8_at s h i i, if_neg (by omega), if_pos (by omega)]
    · rw [wup_ne e, fin8_at s h m i]
      by_cases h2 : i < m
      · rw [if_pos h2, if_pos (by omega)]
      · rw [if_neg h2, if_neg (by omega)]
theorem fin8_turn (s h : Nat → BitVec 32) : VW (fin8 h s 8) 8 = VW (fin8 s h 8) 8 := congrArg (fun z => Value.agg (List.toArray z)) (AW_congr fun j hj => by
  rw [fin8_at, fin8_at, if_pos hj, if_pos hj, BitVec.add_comm])
def kList : List (BitVec 32) := [1116352408, 1899447441, 3049323471, 3921009573, 961987163, 1508970993, 2453635748, 2870763221, 3624381080, 310598401, 607225278, 1426881987, 1925078388, 2162078206, 2614888103, 3248222580, 3835390401, 4022224774, 264347078, 604807628, 770255983, 1249150122, 1555081692, 1996064986, 2554220882, 2821834349, 2952996808, 3210313671, 3336571891, 3584528711, 113926993, 338241895, 666307205, 773529912, 1294757372, 1396182291, 1695183700, 1986661051, 2177026350, 2456956037, 2730485921, 2820302411, 3259730800, 3345764771, 3516065817, 3600352804, 4094571909, 275423344, 430227734, 506948616, 659060556, 883997877, 958139571, 1322822218, 1537002063, 1747873779, 1955562222, 2024104815, 2227730452, 2361852424, 2428436474, 2756734187, 3204031479, 3329325298]
def kTab : Nat → BitVec 32 := fun i => kList.getD i 0
theorem kTab_at : ∀ i, i < 64 → hz true 64 i = kTab i := fun i hi => (rounds_at hi).trans ((by decide +kernel : ∀ i, i < 64 → kT.getD i 0 = kTab i) i hi)
theorem buildK64 (w : World) : (Instr.build 40 #[(0, .int .u32 1116352408), (1, .int .u32 1899447441), (2, .int .u32 3049323471), (3, .int .u32 3921009573), (4, .int .u32 961987163), (5, .int .u32 1508970993), (6, .int .u32 2453635748), (7, .int .u32 2870763221), (8, .int .u32 3624381080), (9, .int .u32 310598401), (10, .int .u32 607225278), (11, .int .u32 1426881987), (12, .int .u32 1925078388), (13, .int .u32 2162078206), (14, .int .u32 2614888103), (15, .int .u32 3248222580), (16, .int .u32 3835390401), (17, .int .u32 4022224774), (18, .int .u32 264347078), (19, .int .u32 604807628), (20, .int .u32 770255983), (21, .int .u32 1249150122), (22, .int .u32 1555081692), (23, .int .u32 1996064986), (24, .int .u32 2554220882), (25, .int .u32 2821834349), (26, .int .u32 2952996808), (27, .int .u32 3210313671), (28, .int .u32 3336571891), (29, .int .u32 3584528711), (30, .int .u32 113926993), (31, .int .u32 338241895), (32, .int .u32 666307205), (33, .int .u32 773529912), (34, .int .u32 1294757372), (35, .int .u32 1396182291), (36, .int .u32 1695183700), (37, .int .u32 1986661051), (38, .int .u32 2177026350), (39, .int .u32 2456956037), (40, .int .u32 2730485921), (41, .int .u32 2820302411), (42, .int .u32 3259730800), (43, .int .u32 3345764771), (44, .int .u32 3516065817), (45, .int .u32 3600352804), (46, .int .u32 4094571909), (47, .int .u32 275423344), (48, .int .u32 430227734), (49, .int .u32 506948616), (50, .int .u32 659060556), (51, .int .u32 883997877), (52, .int .u32 958139571), (53, .int .u32 1322822218), (54, .int .u32 1537002063), (55, .int .u32 1747873779), (56, .int .u32 1955562222), (57, .int .u32 2024104815), (58, .int .u32 2227730452), (59, .int .u32 2361852424), (60, .int .u32 2428436474), (61, .int .u32 2756734187), (62, .int .u32 3204031479), (63, .int .u32 3329325298)]).run Try.prog w = .ok (VW kTab 64) w := run_build w _ _ _ (by kernel_rfl)
/-- What the rounds keep. -/
def mxI1 (h x : Nat → BitVec 32) (w : World) (q0 q1 q2 : Nat) : Act → World → Prop := fun a' w' => ∃ (m : Nat) (d : Nat → Value) (q3 : Nat),
  a' = { tmps := (D d 0 2 ++ ([.pointer (some ⟨q0, 0, none⟩), .pointer (some ⟨q1, 0, none⟩), .pointer (some ⟨q2, 0, none⟩), .pointer (some ⟨q3, 0, none⟩), W32 (rr h kTab x m 0), W32 (rr h kTab x m 1), W32 (rr h kTab x m 2), W32 (rr h kTab x m 3), W32 (rr h kTab x m 4), W32 (rr h kTab x m 5), W32 (rr h kTab x m 6), W32 (rr h kTab x m 7), .int .i64 ((m : Nat) : Int)] ++ D d 15 68) : List Value).toArray, defers := [] } ∧ m ≤ 64 ∧ Heap w.heap.size w w' [(q0, AW h 8), (q1, AW x 64), (q2, AW (fun _ => 0) 8), (q3, AW kTab 64)]

set_option maxHeartbeats 4000000 in
theorem shaMix (h x : Nat → BitVec 32) (w : World) : Calls Try.prog 19 #[VW h 8, VW x 64] w (Ret (VW (rr h kTab x 64) 8) w) := by
  have hp0 := Heap.start w
  go_enter Try.func19, Try.ntmps19
  refine wp_seq_k (fun K1 k1 => ?_)
  refine gs [.alloc (AW h 8), .alloc (AW x 64), .alloc (AW (fun _ => 0) 8)] [0, 1, 2] [0, 0, 0] (fun L => [VW h 8, VW x 64, L.p 0, L.p 1, L.p 2] ++ U 78) (fun L => [(L.b 0, AW h 8), (L.b 1, AW x 64), (L.b 2, AW (fun _ => 0) 8)]) hp0 ⟨
    oB, oB, oZ rW8,
    trivial⟩ (fun L0 w1 hp1 => ?_)
  refine k1 _ _ ?_
  refine wp_scope_goto 0 (mxI1 h x w (L0.b 0) (L0.b 1) (L0.b 2)) (fun a' _ => 64 - slot 14 a') rfl ?_ ?_
  · skip
    rintro a' W ⟨m, d, q3, rfl, hm, hJ⟩
    obtain ⟨S, eS⟩ : ∃ x1, x1 = rr h kTab x m := ⟨_, rfl⟩
    rw [← eS]
    rcases Nat.lt_or_ge m 64 with hm6 | hm6
    · skip
      refine wp_seq_k (fun K2 k2 => ?_)
      refine wp_seq_k (fun K3 k3 => ?_)
      refine gs [.det (.int .i64 ((m : Nat) : Int)), .det (.bool true)] [0, 1] [0, 1] (fun L => D d 0 2 ++ ([L0.p 0, L0.p 1, L0.p 2, pt q3 0, W32 (S 0), W32 (S 1), W32 (S 2), W32 (S 3), W32 (S 4), W32 (S 5), W32 (S 6), W32 (S 7), .int .i64 ((m : Nat) : Int)] ++ (D d 15 19 ++ ([.int .i64 ((m : Nat) : Int), .bool true] ++ D d 36 47)))) (fun L => [(L0.b 0, AW h 8), (L0.b 1, AW x 64), (L0.b 2, AW (fun _ => 0) 8), (q3, AW kTab 64)]) hJ ⟨
        oM, oJ .i64 .i64 ((m : Nat) : Int) 64 (h := fun w => (lssI _ _ _ w).trans (by rw [decide_eq_true (by omega)])),
        trivial⟩ (fun L1 w2 hp2 => ?_)
      refine k3 _ _ ?_
      refine wp_cond_true (by kernel_rfl) ?_
      refine wp_seq_k (fun K4 k4 => ?_)
      refine dr [.det (W32 (S 7)), .det (W32 (S 4)), .det (W32 (rot (S 4) 6 ^^^ rot (S 4) 11 ^^^ rot (S 4) 25)), .det (W32 ((S 7) + (rot (S 4) 6 ^^^ rot (S 4) 11 ^^^ rot (S 4) 25))), .det (W32 (S 4)), .det (W32 (S 5)), .det (W32 (S 6)), .det (W32 ((S 4) &&& (S 5) ^^^ ~~~(S 4) &&& (S 6))), .det (W32 (((S 7) + (rot (S 4) 6 ^^^ rot (S 4) 11 ^^^ rot (S 4) 25)) + ((S 4) &&& (S 5) ^^^ ~~~(S 4) &&& (S 6)))), .det (.int .i64 ((m : Nat) : Int)), .det (.pointer (some ⟨q3, 0 + m * 1, none⟩)), .det (W32 (kTab m)), .det (W32 ((((S 7) + (rot (S 4) 6 ^^^ rot (S 4) 11 ^^^ rot (S 4) 25)) + ((S 4) &&& (S 5) ^^^ ~~~(S 4) &&& (S 6))) + (kTab m))), .det (.int .i64 ((m : Nat) : Int)), .det (.pointer (some ⟨(L0.b 1), 0 + m * 1, none⟩)), .det (W32 (x m)), .det (W32 (((((S 7) + (rot (S 4) 6 ^^^ rot (S 4) 11 ^^^ rot (S 4) 25)) + ((S 4) &&& (S 5) ^^^ ~~~(S 4) &&& (S 6))) + (kTab m)) + (x m))), .det (W32 (((((S 7) + (rot (S 4) 6 ^^^ rot (S 4) 11 ^^^ rot (S 4) 25)) + ((S 4) &&& (S 5) ^^^ ~~~(S 4) &&& (S 6))) + (kTab m)) + (x m)))] [0, 1, 2, 3, 4, 5, 6, 7, 8, 9, 10, 11, 12, 13, 14, 15, 16, 17] [0, 0, 2, 7, 0, 0, 0, 118, 255, 0, 512, 1536, 4095, 0, 8192, 24576, 65535, 131071] (fun L => D d 0 2 ++ ([L0.p 0, L0.p 1, L0.p 2, pt q3 0, W32 (S 0), W32 (S 1), W32 (S 2), W32 (S 3), W32 (S 4), W32 (S 5), W32 (S 6), W32 (S 7), .int .i64 ((m : Nat) : Int), W32 (((((S 7) + (rot (S 4) 6 ^^^ rot (S 4) 11 ^^^ rot (S 4) 25)) + ((S 4) &&& (S 5) ^^^ ~~~(S 4) &&& (S 6))) + (kTab m)) + (x m))] ++ (D d 16 18 ++ ([.int .i64 ((m : Nat) : Int), .bool true, W32 (S 7), W32 (S 4), W32 (rot (S 4) 6 ^^^ rot (S 4) 11 ^^^ rot (S 4) 25), W32 ((S 7) + (rot (S 4) 6 ^^^ rot (S 4) 11 ^^^ rot (S 4) 25)), W32 (S 4), W32 (S 5), W32 (S 6), W32 ((S 4) &&& (S 5) ^^^ ~~~(S 4) &&& (S 6)), W32 (((S 7) + (rot (S 4) 6 ^^^ rot (S 4) 11 ^^^ rot (S 4) 25)) + ((S 4) &&& (S 5) ^^^ ~~~(S 4) &&& (S 6))), .int .i64 ((m : Nat) : Int), .pointer (some ⟨q3, 0 + m * 1, none⟩), W32 (kTab m), W32 ((((S 7) + (rot (S 4) 6 ^^^ rot (S 4) 11 ^^^ rot (S 4) 25)) + ((S 4) &&& (S 5) ^^^ ~~~(S 4) &&& (S 6))) + (kTab m)), .int .i64 ((m : Nat) : Int), .pointer (some ⟨(L0.b 1), 0 + m * 1, none⟩), W32 (x m), W32 (((((S 7) + (rot (S 4) 6 ^^^ rot (S 4) 11 ^^^ rot (S 4) 25)) + ((S 4) &&& (S 5) ^^^ ~~~(S 4) &&& (S 6))) + (kTab m)) + (x m))] ++ D d 53 30)))) (fun L => [(L0.b 0, AW h 8), (L0.b 1, AW x 64), (L0.b 2, AW (fun _ => 0) 8), (q3, AW kTab 64)]) hp2 ⟨
        oM, oM, oR (shaTurned6 (S 4)), oJ .u32 .u32 ((S 7).toNat : Int) ((rot (S 4) 6 ^^^ rot (S 4) 11 ^^^ rot (S 4) 25).toNat : Int) (h := fun w => addW _ (S 7) (rot (S 4) 6 ^^^ rot (S 4) 11 ^^^ rot (S 4) 25) w),
        oM, oM, oM, oR (shaChoose (S 4) (S 5) (S 6)), oJ .u32 .u32 (((S 7) + (rot (S 4) 6 ^^^ rot (S 4) 11 ^^^ rot (S 4) 25)).toNat : Int) (((S 4) &&& (S 5) ^^^ ~~~(S 4) &&& (S 6)).toNat : Int) (h := fun w => addW _ ((S 7) + (rot (S 4) 6 ^^^ rot (S 4) 11 ^^^ rot (S 4) 25)) ((S 4) &&& (S 5) ^^^ ~~~(S 4) &&& (S 6)) w),
        oM, oIA (k := .i64) m aW64 (by omega), oLA (n := 64) (j := m) 3 (by omega), oJ .u32 .u32 ((((S 7) + (rot (S 4) 6 ^^^ rot (S 4) 11 ^^^ rot (S 4) 25)) + ((S 4) &&& (S 5) ^^^ ~~~(S 4) &&& (S 6))).toNat : Int) ((kTab m).toNat : Int) (h := fun w => addW _ (((S 7) + (rot (S 4) 6 ^^^ rot (S 4) 11 ^^^ rot (S 4) 25)) + ((S 4) &&& (S 5) ^^^ ~~~(S 4) &&& (S 6))) (kTab m) w),
        oM, oIA (k := .i64) m aW64 (by omega), oLA (n := 64) (j := m) 1 (by omega), oJ .u32 .u32 (((((S 7) + (rot (S 4) 6 ^^^ rot (S 4) 11 ^^^ rot (S 4) 25)) + ((S 4) &&& (S 5) ^^^ ~~~(S 4) &&& (S 6))) + (kTab m)).toNat : Int) ((x m).toNat : Int) (h := fun w => addW _ ((((S 7) + (rot (S 4) 6 ^^^ rot (S 4) 11 ^^^ rot (S 4) 25)) + ((S 4) &&& (S 5) ^^^ ~~~(S 4) &&& (S 6))) + (kTab m)) (x m) w),
        oA,
        trivial⟩ (fun L2 w3 hp3 => ?_)
      refine k4 _ _ ?_
      refine wp_seq_k (fun K5 k5 => ?_)
      refine gs [.det (W32 (((((S 7) + (rot (S 4) 6 ^^^ rot (S 4) 11 ^^^ rot (S 4) 25)) + ((S 4) &&& (S 5) ^^^ ~~~(S 4) &&& (S 6))) + (kTab m)) + (x m))), .det (W32 (S 0)), .det (W32 (rot (S 0) 2 ^^^ rot (S 0) 13 ^^^ rot (S 0) 22)), .det (W32 ((((((S 7) + (rot (S 4) 6 ^^^ rot (S 4) 11 ^^^ rot (S 4) 25)) + ((S 4) &&& (S 5) ^^^ ~~~(S 4) &&& (S 6))) + (kTab m)) + (x m)) + (rot (S 0) 2 ^^^ rot (S 0) 13 ^^^ rot (S 0) 22))), .det (W32 (S 0)), .det (W32 (S 1)), .det (W32 (S 2)), .det (W32 ((S 0) &&& (S 1) ^^^ (S 0) &&& (S 2) ^^^ (S 1) &&& (S 2))), .det (W32 (((((((S 7) + (rot (S 4) 6 ^^^ rot (S 4) 11 ^^^ rot (S 4) 25)) + ((S 4) &&& (S 5) ^^^ ~~~(S 4) &&& (S 6))) + (kTab m)) + (x m)) + (rot (S 0) 2 ^^^ rot (S 0) 13 ^^^ rot (S 0) 22)) + ((S 0) &&& (S 1) ^^^ (S 0) &&& (S 2) ^^^ (S 1) &&& (S 2)))), .det (W32 (((((((S 7) + (rot (S 4) 6 ^^^ rot (S 4) 11 ^^^ rot (S 4) 25)) + ((S 4) &&& (S 5) ^^^ ~~~(S 4) &&& (S 6))) + (kTab m)) + (x m)) + (rot (S 0) 2 ^^^ rot (S 0) 13 ^^^ rot (S 0) 22)) + ((S 0) &&& (S 1) ^^^ (S 0) &&& (S 2) ^^^ (S 1) &&& (S 2))))] [0, 1, 2, 3, 4, 5, 6, 7, 8, 9] [0, 0, 2, 7, 0, 0, 0, 118, 255, 511] (fun L => D d 0 2 ++ ([L0.p 0, L0.p 1, L0.p 2, pt q3 0, W32 (S 0), W32 (S 1), W32 (S 2), W32 (S 3), W32 (S 4), W32 (S 5), W32 (S 6), W32 (S 7), .int .i64 ((m : Nat) : Int), W32 (((((S 7) + (rot (S 4) 6 ^^^ rot (S 4) 11 ^^^ rot (S 4) 25)) + ((S 4) &&& (S 5) ^^^ ~~~(S 4) &&& (S 6))) + (kTab m)) + (x m)), W32 (((((((S 7) + (rot (S 4) 6 ^^^ rot (S 4) 11 ^^^ rot (S 4) 25)) + ((S 4) &&& (S 5) ^^^ ~~~(S 4) &&& (S 6))) + (kTab m)) + (x m)) + (rot (S 0) 2 ^^^ rot (S 0) 13 ^^^ rot (S 0) 22)) + ((S 0) &&& (S 1) ^^^ (S 0) &&& (S 2) ^^^ (S 1) &&& (S 2)))] ++ (D d 17 17 ++ ([.int .i64 ((m : Nat) : Int), .bool true, W32 (S 7), W32 (S 4), W32 (rot (S 4) 6 ^^^ rot (S 4) 11 ^^^ rot (S 4) 25), W32 ((S 7) + (rot (S 4) 6 ^^^ rot (S 4) 11 ^^^ rot (S 4) 25)), W32 (S 4), W32 (S 5), W32 (S 6), W32 ((S 4) &&& (S 5) ^^^ ~~~(S 4) &&& (S 6)), W32 (((S 7) + (rot (S 4) 6 ^^^ rot (S 4) 11 ^^^ rot (S 4) 25)) + ((S 4) &&& (S 5) ^^^ ~~~(S 4) &&& (S 6))), .int .i64 ((m : Nat) : Int), .pointer (some ⟨q3, 0 + m * 1, none⟩), W32 (kTab m), W32 ((((S 7) + (rot (S 4) 6 ^^^ rot (S 4) 11 ^^^ rot (S 4) 25)) + ((S 4) &&& (S 5) ^^^ ~~~(S 4) &&& (S 6))) + (kTab m)), .int .i64 ((m : Nat) : Int), .pointer (some ⟨(L0.b 1), 0 + m * 1, none⟩), W32 (x m), W32 (((((S 7) + (rot (S 4) 6 ^^^ rot (S 4) 11 ^^^ rot (S 4) 25)) + ((S 4) &&& (S 5) ^^^ ~~~(S 4) &&& (S 6))) + (kTab m)) + (x m)), W32 (((((S 7) + (rot (S 4) 6 ^^^ rot (S 4) 11 ^^^ rot (S 4) 25)) + ((S 4) &&& (S 5) ^^^ ~~~(S 4) &&& (S 6))) + (kTab m)) + (x m)), W32 (S 0), W32 (rot (S 0) 2 ^^^ rot (S 0) 13 ^^^ rot (S 0) 22), W32 ((((((S 7) + (rot (S 4) 6 ^^^ rot (S 4) 11 ^^^ rot (S 4) 25)) + ((S 4) &&& (S 5) ^^^ ~~~(S 4) &&& (S 6))) + (kTab m)) + (x m)) + (rot (S 0) 2 ^^^ rot (S 0) 13 ^^^ rot (S 0) 22)), W32 (S 0), W32 (S 1), W32 (S 2), W32 ((S 0) &&& (S 1) ^^^ (S 0) &&& (S 2) ^^^ (S 1) &&& (S 2)), W32 (((((((S 7) + (rot (S 4) 6 ^^^ rot (S 4) 11 ^^^ rot (S 4) 25)) + ((S 4) &&& (S 5) ^^^ ~~~(S 4) &&& (S 6))) + (kTab m)) + (x m)) + (rot (S 0) 2 ^^^ rot (S 0) 13 ^^^ rot (S 0) 22)) + ((S 0) &&& (S 1) ^^^ (S 0) &&& (S 2) ^^^ (S 1) &&& (S 2)))] ++ D d 62 21)))) (fun L => [(L0.b 0, AW h 8), (L0.b 1, AW x 64), (L0.b 2, AW (fun _ => 0) 8), (q3, AW kTab 64)]) hp3 ⟨
        oM, oM, oR (shaTurned2 (S 0)), oJ .u32 .u32 ((((((S 7) + (rot (S 4) 6 ^^^ rot (S 4) 11 ^^^ rot (S 4) 25)) + ((S 4) &&& (S 5) ^^^ ~~~(S 4) &&& (S 6))) + (kTab m)) + (x m)).toNat : Int) ((rot (S 0) 2 ^^^ rot (S 0) 13 ^^^ rot (S 0) 22).toNat : Int) (h := fun w => addW _ (((((S 7) + (rot (S 4) 6 ^^^ rot (S 4) 11 ^^^ rot (S 4) 25)) + ((S 4) &&& (S 5) ^^^ ~~~(S 4) &&& (S 6))) + (kTab m)) + (x m)) (rot (S 0) 2 ^^^ rot (S 0) 13 ^^^ rot (S 0) 22) w),
        oM, oM, oM, oR (shaMost (S 0) (S 1) (S 2)), oJ .u32 .u32 (((((((S 7) + (rot (S 4) 6 ^^^ rot (S 4) 11 ^^^ rot (S 4) 25)) + ((S 4) &&& (S 5) ^^^ ~~~(S 4) &&& (S 6))) + (kTab m)) + (x m)) + (rot (S 0) 2 ^^^ rot (S 0) 13 ^^^ rot (S 0) 22)).toNat : Int) (((S 0) &&& (S 1) ^^^ (S 0) &&& (S 2) ^^^ (S 1) &&& (S 2)).toNat : Int) (h := fun w => addW _ ((((((S 7) + (rot (S 4) 6 ^^^ rot (S 4) 11 ^^^ rot (S 4) 25)) + ((S 4) &&& (S 5) ^^^ ~~~(S 4) &&& (S 6))) + (kTab m)) + (x m)) + (rot (S 0) 2 ^^^ rot (S 0) 13 ^^^ rot (S 0) 22)) ((S 0) &&& (S 1) ^^^ (S 0) &&& (S 2) ^^^ (S 1) &&& (S 2)) w),
        oA,
        trivial⟩ (fun L3 w4 hp4 => ?_)
      refine k5 _ _ ?_
      refine wp_seq_k (fun K6 k6 => ?_)
      refine gs [.det (W32 (S 6)), .det (W32 (S 5)), .det (W32 (S 4)), .det (W32 (S 3)), .det (W32 (((((S 7) + (rot (S 4) 6 ^^^ rot (S 4) 11 ^^^ rot (S 4) 25)) + ((S 4) &&& (S 5) ^^^ ~~~(S 4) &&& (S 6))) + (kTab m)) + (x m))), .det (W32 ((S 3) + (((((S 7) + (rot (S 4) 6 ^^^ rot (S 4) 11 ^^^ rot (S 4) 25)) + ((S 4) &&& (S 5) ^^^ ~~~(S 4) &&& (S 6))) + (kTab m)) + (x m)))), .det (W32 (S 6)), .det (W32 (S 5)), .det (W32 (S 4)), .det (W32 ((S 3) + (((((S 7) + (rot (S 4) 6 ^^^ rot (S 4) 11 ^^^ rot (S 4) 25)) + ((S 4) &&& (S 5) ^^^ ~~~(S 4) &&& (S 6))) + (kTab m)) + (x m))))] [0, 1, 2, 3, 4, 5, 6, 7, 8, 9] [0, 0, 0, 0, 0, 24, 1, 67, 199, 511] (fun L => D d 0 2 ++ ([L0.p 0, L0.p 1, L0.p 2, pt q3 0, W32 (S 0), W32 (S 1), W32 (S 2), W32 (S 3), W32 ((S 3) + (((((S 7) + (rot (S 4) 6 ^^^ rot (S 4) 11 ^^^ rot (S 4) 25)) + ((S 4) &&& (S 5) ^^^ ~~~(S 4) &&& (S 6))) + (kTab m)) + (x m))), W32 (S 4), W32 (S 5), W32 (S 6), .int .i64 ((m : Nat) : Int), W32 (((((S 7) + (rot (S 4) 6 ^^^ rot (S 4) 11 ^^^ rot (S 4) 25)) + ((S 4) &&& (S 5) ^^^ ~~~(S 4) &&& (S 6))) + (kTab m)) + (x m)), W32 (((((((S 7) + (rot (S 4) 6 ^^^ rot (S 4) 11 ^^^ rot (S 4) 25)) + ((S 4) &&& (S 5) ^^^ ~~~(S 4) &&& (S 6))) + (kTab m)) + (x m)) + (rot (S 0) 2 ^^^ rot (S 0) 13 ^^^ rot (S 0) 22)) + ((S 0) &&& (S 1) ^^^ (S 0) &&& (S 2) ^^^ (S 1) &&& (S 2)))] ++ (D d 17 17 ++ ([.int .i64 ((m : Nat) : Int), .bool true, W32 (S 7), W32 (S 4), W32 (rot (S 4) 6 ^^^ rot (S 4) 11 ^^^ rot (S 4) 25), W32 ((S 7) + (rot (S 4) 6 ^^^ rot (S 4) 11 ^^^ rot (S 4) 25)), W32 (S 4), W32 (S 5), W32 (S 6), W32 ((S 4) &&& (S 5) ^^^ ~~~(S 4) &&& (S 6)), W32 (((S 7) + (rot (S 4) 6 ^^^ rot (S 4) 11 ^^^ rot (S 4) 25)) + ((S 4) &&& (S 5) ^^^ ~~~(S 4) &&& (S 6))), .int .i64 ((m : Nat) : Int), .pointer (some ⟨q3, 0 + m * 1, none⟩), W32 (kTab m), W32 ((((S 7) + (rot (S 4) 6 ^^^ rot (S 4) 11 ^^^ rot (S 4) 25)) + ((S 4) &&& (S 5) ^^^ ~~~(S 4) &&& (S 6))) + (kTab m)), .int .i64 ((m : Nat) : Int), .pointer (some ⟨(L0.b 1), 0 + m * 1, none⟩), W32 (x m), W32 (((((S 7) + (rot (S 4) 6 ^^^ rot (S 4) 11 ^^^ rot (S 4) 25)) + ((S 4) &&& (S 5) ^^^ ~~~(S 4) &&& (S 6))) + (kTab m)) + (x m)), W32 (((((S 7) + (rot (S 4) 6 ^^^ rot (S 4) 11 ^^^ rot (S 4) 25)) + ((S 4) &&& (S 5) ^^^ ~~~(S 4) &&& (S 6))) + (kTab m)) + (x m)), W32 (S 0), W32 (rot (S 0) 2 ^^^ rot (S 0) 13 ^^^ rot (S 0) 22), W32 ((((((S 7) + (rot (S 4) 6 ^^^ rot (S 4) 11 ^^^ rot (S 4) 25)) + ((S 4) &&& (S 5) ^^^ ~~~(S 4) &&& (S 6))) + (kTab m)) + (x m)) + (rot (S 0) 2 ^^^ rot (S 0) 13 ^^^ rot (S 0) 22)), W32 (S 0), W32 (S 1), W32 (S 2), W32 ((S 0) &&& (S 1) ^^^ (S 0) &&& (S 2) ^^^ (S 1) &&& (S 2)), W32 (((((((S 7) + (rot (S 4) 6 ^^^ rot (S 4) 11 ^^^ rot (S 4) 25)) + ((S 4) &&& (S 5) ^^^ ~~~(S 4) &&& (S 6))) + (kTab m)) + (x m)) + (rot (S 0) 2 ^^^ rot (S 0) 13 ^^^ rot (S 0) 22)) + ((S 0) &&& (S 1) ^^^ (S 0) &&& (S 2) ^^^ (S 1) &&& (S 2))), W32 (S 6), W32 (S 5), W32 (S 4), W32 (S 3), W32 (((((S 7) + (rot (S 4) 6 ^^^ rot (S 4) 11 ^^^ rot (S 4) 25)) + ((S 4) &&& (S 5) ^^^ ~~~(S 4) &&& (S 6))) + (kTab m)) + (x m)), W32 ((S 3) + (((((S 7) + (rot (S 4) 6 ^^^ rot (S 4) 11 ^^^ rot (S 4) 25)) + ((S 4) &&& (S 5) ^^^ ~~~(S 4) &&& (S 6))) + (kTab m)) + (x m)))] ++ D d 68 15)))) (fun L => [(L0.b 0, AW h 8), (L0.b 1, AW x 64), (L0.b 2, AW (fun _ => 0) 8), (q3, AW kTab 64)]) hp4 ⟨
        oM, oM, oM, oM, oM, oJ .u32 .u32 ((S 3).toNat : Int) ((((((S 7) + (rot (S 4) 6 ^^^ rot (S 4) 11 ^^^ rot (S 4) 25)) + ((S 4) &&& (S 5) ^^^ ~~~(S 4) &&& (S 6))) + (kTab m)) + (x m)).toNat : Int) (h := fun w => addW _ (S 3) (((((S 7) + (rot (S 4) 6 ^^^ rot (S 4) 11 ^^^ rot (S 4) 25)) + ((S 4) &&& (S 5) ^^^ ~~~(S 4) &&& (S 6))) + (kTab m)) + (x m)) w),
        oA, oA, oA, oA,
        trivial⟩ (fun L4 w5 hp5 => ?_)
      refine k6 _ _ ?_
      refine wp_seq_k (fun K7 k7 => ?_)
      refine gs [.det (W32 (S 2)), .det (W32 (S 1)), .det (W32 (S 0)), .det (W32 (((((((S 7) + (rot (S 4) 6 ^^^ rot (S 4) 11 ^^^ rot (S 4) 25)) + ((S 4) &&& (S 5) ^^^ ~~~(S 4) &&& (S 6))) + (kTab m)) + (x m)) + (rot (S 0) 2 ^^^ rot (S 0) 13 ^^^ rot (S 0) 22)) + ((S 0) &&& (S 1) ^^^ (S 0) &&& (S 2) ^^^ (S 1) &&& (S 2)))), .det (W32 (S 2)), .det (W32 (S 1)), .det (W32 (S 0)), .det (W32 (((((((S 7) + (rot (S 4) 6 ^^^ rot (S 4) 11 ^^^ rot (S 4) 25)) + ((S 4) &&& (S 5) ^^^ ~~~(S 4) &&& (S 6))) + (kTab m)) + (x m)) + (rot (S 0) 2 ^^^ rot (S 0) 13 ^^^ rot (S 0) 22)) + ((S 0) &&& (S 1) ^^^ (S 0) &&& (S 2) ^^^ (S 1) &&& (S 2))))] [0, 1, 2, 3, 4, 5, 6, 7] [0, 0, 0, 0, 1, 19, 55, 127] (fun L => D d 0 2 ++ ([L0.p 0, L0.p 1, L0.p 2, pt q3 0, W32 (((((((S 7) + (rot (S 4) 6 ^^^ rot (S 4) 11 ^^^ rot (S 4) 25)) + ((S 4) &&& (S 5) ^^^ ~~~(S 4) &&& (S 6))) + (kTab m)) + (x m)) + (rot (S 0) 2 ^^^ rot (S 0) 13 ^^^ rot (S 0) 22)) + ((S 0) &&& (S 1) ^^^ (S 0) &&& (S 2) ^^^ (S 1) &&& (S 2))), W32 (S 0), W32 (S 1), W32 (S 2), W32 ((S 3) + (((((S 7) + (rot (S 4) 6 ^^^ rot (S 4) 11 ^^^ rot (S 4) 25)) + ((S 4) &&& (S 5) ^^^ ~~~(S 4) &&& (S 6))) + (kTab m)) + (x m))), W32 (S 4), W32 (S 5), W32 (S 6), .int .i64 ((m : Nat) : Int), W32 (((((S 7) + (rot (S 4) 6 ^^^ rot (S 4) 11 ^^^ rot (S 4) 25)) + ((S 4) &&& (S 5) ^^^ ~~~(S 4) &&& (S 6))) + (kTab m)) + (x m)), W32 (((((((S 7) + (rot (S 4) 6 ^^^ rot (S 4) 11 ^^^ rot (S 4) 25)) + ((S 4) &&& (S 5) ^^^ ~~~(S 4) &&& (S 6))) + (kTab m)) + (x m)) + (rot (S 0) 2 ^^^ rot (S 0) 13 ^^^ rot (S 0) 22)) + ((S 0) &&& (S 1) ^^^ (S 0) &&& (S 2) ^^^ (S 1) &&& (S 2)))] ++ (D d 17 17 ++ ([.int .i64 ((m : Nat) : Int), .bool true, W32 (S 7), W32 (S 4), W32 (rot (S 4) 6 ^^^ rot (S 4) 11 ^^^ rot (S 4) 25), W32 ((S 7) + (rot (S 4) 6 ^^^ rot (S 4) 11 ^^^ rot (S 4) 25)), W32 (S 4), W32 (S 5), W32 (S 6), W32 ((S 4) &&& (S 5) ^^^ ~~~(S 4) &&& (S 6)), W32 (((S 7) + (rot (S 4) 6 ^^^ rot (S 4) 11 ^^^ rot (S 4) 25)) + ((S 4) &&& (S 5) ^^^ ~~~(S 4) &&& (S 6))), .int .i64 ((m : Nat) : Int), .pointer (some ⟨q3, 0 + m * 1, none⟩), W32 (kTab m), W32 ((((S 7) + (rot (S 4) 6 ^^^ rot (S 4) 11 ^^^ rot (S 4) 25)) + ((S 4) &&& (S 5) ^^^ ~~~(S 4) &&& (S 6))) + (kTab m)), .int .i64 ((m : Nat) : Int), .pointer (some ⟨(L0.b 1), 0 + m * 1, none⟩), W32 (x m), W32 (((((S 7) + (rot (S 4) 6 ^^^ rot (S 4) 11 ^^^ rot (S 4) 25)) + ((S 4) &&& (S 5) ^^^ ~~~(S 4) &&& (S 6))) + (kTab m)) + (x m)), W32 (((((S 7) + (rot (S 4) 6 ^^^ rot (S 4) 11 ^^^ rot (S 4) 25)) + ((S 4) &&& (S 5) ^^^ ~~~(S 4) &&& (S 6))) + (kTab m)) + (x m)), W32 (S 0), W32 (rot (S 0) 2 ^^^ rot (S 0) 13 ^^^ rot (S 0) 22), W32 ((((((S 7) + (rot (S 4) 6 ^^^ rot (S 4) 11 ^^^ rot (S 4) 25)) + ((S 4) &&& (S 5) ^^^ ~~~(S 4) &&& (S 6))) + (kTab m)) + (x m)) + (rot (S 0) 2 ^^^ rot (S 0) 13 ^^^ rot (S 0) 22)), W32 (S 0), W32 (S 1), W32 (S 2), W32 ((S 0) &&& (S 1) ^^^ (S 0) &&& (S 2) ^^^ (S 1) &&& (S 2)), W32 (((((((S 7) + (rot (S 4) 6 ^^^ rot (S 4) 11 ^^^ rot (S 4) 25)) + ((S 4) &&& (S 5) ^^^ ~~~(S 4) &&& (S 6))) + (kTab m)) + (x m)) + (rot (S 0) 2 ^^^ rot (S 0) 13 ^^^ rot (S 0) 22)) + ((S 0) &&& (S 1) ^^^ (S 0) &&& (S 2) ^^^ (S 1) &&& (S 2))), W32 (S 6), W32 (S 5), W32 (S 4), W32 (S 3), W32 (((((S 7) + (rot (S 4) 6 ^^^ rot (S 4) 11 ^^^ rot (S 4) 25)) + ((S 4) &&& (S 5) ^^^ ~~~(S 4) &&& (S 6))) + (kTab m)) + (x m)), W32 ((S 3) + (((((S 7) + (rot (S 4) 6 ^^^ rot (S 4) 11 ^^^ rot (S 4) 25)) + ((S 4) &&& (S 5) ^^^ ~~~(S 4) &&& (S 6))) + (kTab m)) + (x m))), W32 (S 2), W32 (S 1), W32 (S 0), W32 (((((((S 7) + (rot (S 4) 6 ^^^ rot (S 4) 11 ^^^ rot (S 4) 25)) + ((S 4) &&& (S 5) ^^^ ~~~(S 4) &&& (S 6))) + (kTab m)) + (x m)) + (rot (S 0) 2 ^^^ rot (S 0) 13 ^^^ rot (S 0) 22)) + ((S 0) &&& (S 1) ^^^ (S 0) &&& (S 2) ^^^ (S 1) &&& (S 2)))] ++ D d 72 11)))) (fun L => [(L0.b 0, AW h 8), (L0.b 1, AW x 64), (L0.b 2, AW (fun _ => 0) 8), (q3, AW kTab 64)]) hp5 ⟨
        oM, oM, oM, oM, oA, oA, oA, oA,
        trivial⟩ (fun L5 w6 hp6 => ?_)
      refine k7 _ _ ?_
      refine wp_seq_k (fun K8 k8 => ?_)
      refine gs [.det (.int .i64 ((m : Nat) : Int)), .det (.int .i64 ((m + 1 : Nat) : Int)), .det (.int .i64 ((m + 1 : Nat) : Int))] [0, 1, 2] [0, 1, 3] (fun L => D d 0 2 ++ ([L0.p 0, L0.p 1, L0.p 2, pt q3 0, W32 (((((((S 7) + (rot (S 4) 6 ^^^ rot (S 4) 11 ^^^ rot (S 4) 25)) + ((S 4) &&& (S 5) ^^^ ~~~(S 4) &&& (S 6))) + (kTab m)) + (x m)) + (rot (S 0) 2 ^^^ rot (S 0) 13 ^^^ rot (S 0) 22)) + ((S 0) &&& (S 1) ^^^ (S 0) &&& (S 2) ^^^ (S 1) &&& (S 2))), W32 (S 0), W32 (S 1), W32 (S 2), W32 ((S 3) + (((((S 7) + (rot (S 4) 6 ^^^ rot (S 4) 11 ^^^ rot (S 4) 25)) + ((S 4) &&& (S 5) ^^^ ~~~(S 4) &&& (S 6))) + (kTab m)) + (x m))), W32 (S 4), W32 (S 5), W32 (S 6), .int .i64 ((m + 1 : Nat) : Int), W32 (((((S 7) + (rot (S 4) 6 ^^^ rot (S 4) 11 ^^^ rot (S 4) 25)) + ((S 4) &&& (S 5) ^^^ ~~~(S 4) &&& (S 6))) + (kTab m)) + (x m)), W32 (((((((S 7) + (rot (S 4) 6 ^^^ rot (S 4) 11 ^^^ rot (S 4) 25)) + ((S 4) &&& (S 5) ^^^ ~~~(S 4) &&& (S 6))) + (kTab m)) + (x m)) + (rot (S 0) 2 ^^^ rot (S 0) 13 ^^^ rot (S 0) 22)) + ((S 0) &&& (S 1) ^^^ (S 0) &&& (S 2) ^^^ (S 1) &&& (S 2)))] ++ (D d 17 17 ++ ([.int .i64 ((m : Nat) : Int), .bool true, W32 (S 7), W32 (S 4), W32 (rot (S 4) 6 ^^^ rot (S 4) 11 ^^^ rot (S 4) 25), W32 ((S 7) + (rot (S 4) 6 ^^^ rot (S 4) 11 ^^^ rot (S 4) 25)), W32 (S 4), W32 (S 5), W32 (S 6), W32 ((S 4) &&& (S 5) ^^^ ~~~(S 4) &&& (S 6)), W32 (((S 7) + (rot (S 4) 6 ^^^ rot (S 4) 11 ^^^ rot (S 4) 25)) + ((S 4) &&& (S 5) ^^^ ~~~(S 4) &&& (S 6))), .int .i64 ((m : Nat) : Int), .pointer (some ⟨q3, 0 + m * 1, none⟩), W32 (kTab m), W32 ((((S 7) + (rot (S 4) 6 ^^^ rot (S 4) 11 ^^^ rot (S 4) 25)) + ((S 4) &&& (S 5) ^^^ ~~~(S 4) &&& (S 6))) + (kTab m)), .int .i64 ((m : Nat) : Int), .pointer (some ⟨(L0.b 1), 0 + m * 1, none⟩), W32 (x m), W32 (((((S 7) + (rot (S 4) 6 ^^^ rot (S 4) 11 ^^^ rot (S 4) 25)) + ((S 4) &&& (S 5) ^^^ ~~~(S 4) &&& (S 6))) + (kTab m)) + (x m)), W32 (((((S 7) + (rot (S 4) 6 ^^^ rot (S 4) 11 ^^^ rot (S 4) 25)) + ((S 4) &&& (S 5) ^^^ ~~~(S 4) &&& (S 6))) + (kTab m)) + (x m)), W32 (S 0), W32 (rot (S 0) 2 ^^^ rot (S 0) 13 ^^^ rot (S 0) 22), W32 ((((((S 7) + (rot (S 4) 6 ^^^ rot (S 4) 11 ^^^ rot (S 4) 25)) + ((S 4) &&& (S 5) ^^^ ~~~(S 4) &&& (S 6))) + (kTab m)) + (x m)) + (rot (S 0) 2 ^^^ rot (S 0) 13 ^^^ rot (S 0) 22)), W32 (S 0), W32 (S 1), W32 (S 2), W32 ((S 0) &&& (S 1) ^^^ (S 0) &&& (S 2) ^^^ (S 1) &&& (S 2)), W32 (((((((S 7) + (rot (S 4) 6 ^^^ rot (S 4) 11 ^^^ rot (S 4) 25)) + ((S 4) &&& (S 5) ^^^ ~~~(S 4) &&& (S 6))) + (kTab m)) + (x m)) + (rot (S 0) 2 ^^^ rot (S 0) 13 ^^^ rot (S 0) 22)) + ((S 0) &&& (S 1) ^^^ (S 0) &&& (S 2) ^^^ (S 1) &&& (S 2))), W32 (S 6), W32 (S 5), W32 (S 4), W32 (S 3), W32 (((((S 7) + (rot (S 4) 6 ^^^ rot (S 4) 11 ^^^ rot (S 4) 25)) + ((S 4) &&& (S 5) ^^^ ~~~(S 4) &&& (S 6))) + (kTab m)) + (x m)), W32 ((S 3) + (((((S 7) + (rot (S 4) 6 ^^^ rot (S 4) 11 ^^^ rot (S 4) 25)) + ((S 4) &&& (S 5) ^^^ ~~~(S 4) &&& (S 6))) + (kTab m)) + (x m))), W32 (S 2), W32 (S 1), W32 (S 0), W32 (((((((S 7) + (rot (S 4) 6 ^^^ rot (S 4) 11 ^^^ rot (S 4) 25)) + ((S 4) &&& (S 5) ^^^ ~~~(S 4) &&& (S 6))) + (kTab m)) + (x m)) + (rot (S 0) 2 ^^^ rot (S 0) 13 ^^^ rot (S 0) 22)) + ((S 0) &&& (S 1) ^^^ (S 0) &&& (S 2) ^^^ (S 1) &&& (S 2))), .int .i64 ((m : Nat) : Int), .int .i64 ((m + 1 : Nat) : Int)] ++ D d 74 9)))) (fun L => [(L0.b 0, AW h 8), (L0.b 1, AW x 64), (L0.b 2, AW (fun _ => 0) 8), (q3, AW kTab 64)]) hp6 ⟨
        oM, oJ .i64 .i64 ((m : Nat) : Int) 1 (h := fun w => add1N _ m (by omega) w), oA,
        trivial⟩ (fun L6 w7 hp7 => ?_)
      refine k8 _ _ ?_
      refine wp_goto ?_
      exact ⟨rfl, ⟨m + 1, (fun zz => (D d 0 2 ++ ([L0.p 0, L0.p 1, L0.p 2, pt q3 0, W32 (((((((S 7) + (rot (S 4) 6 ^^^ rot (S 4) 11 ^^^ rot (S 4) 25)) + ((S 4) &&& (S 5) ^^^ ~~~(S 4) &&& (S 6))) + (kTab m)) + (x m)) + (rot (S 0) 2 ^^^ rot (S 0) 13 ^^^ rot (S 0) 22)) + ((S 0) &&& (S 1) ^^^ (S 0) &&& (S 2) ^^^ (S 1) &&& (S 2))), W32 (S 0), W32 (S 1), W32 (S 2), W32 ((S 3) + (((((S 7) + (rot (S 4) 6 ^^^ rot (S 4) 11 ^^^ rot (S 4) 25)) + ((S 4) &&& (S 5) ^^^ ~~~(S 4) &&& (S 6))) + (kTab m)) + (x m))), W32 (S 4), W32 (S 5), W32 (S 6), .int .i64 ((m + 1 : Nat) : Int), W32 (((((S 7) + (rot (S 4) 6 ^^^ rot (S 4) 11 ^^^ rot (S 4) 25)) + ((S 4) &&& (S 5) ^^^ ~~~(S 4) &&& (S 6))) + (kTab m)) + (x m)), W32 (((((((S 7) + (rot (S 4) 6 ^^^ rot (S 4) 11 ^^^ rot (S 4) 25)) + ((S 4) &&& (S 5) ^^^ ~~~(S 4) &&& (S 6))) + (kTab m)) + (x m)) + (rot (S 0) 2 ^^^ rot (S 0) 13 ^^^ rot (S 0) 22)) + ((S 0) &&& (S 1) ^^^ (S 0) &&& (S 2) ^^^ (S 1) &&& (S 2)))] ++ (D d 17 17 ++ ([.int .i64 ((m : Nat) : Int), .bool true, W32 (S 7), W32 (S 4), W32 (rot (S 4) 6 ^^^ rot (S 4) 11 ^^^ rot (S 4) 25), W32 ((S 7) + (rot (S 4) 6 ^^^ rot (S 4) 11 ^^^ rot (S 4) 25)), W32 (S 4), W32 (S 5), W32 (S 6), W32 ((S 4) &&& (S 5) ^^^ ~~~(S 4) &&& (S 6)), W32 (((S 7) + (rot (S 4) 6 ^^^ rot (S 4) 11 ^^^ rot (S 4) 25)) + ((S 4) &&& (S 5) ^^^ ~~~(S 4) &&& (S 6))), .int .i64 ((m : Nat) : Int), .pointer (some ⟨q3, 0 + m * 1, none⟩), W32 (kTab m), W32 ((((S 7) + (rot (S 4) 6 ^^^ rot (S 4) 11 ^^^ rot (S 4) 25)) + ((S 4) &&& (S 5) ^^^ ~~~(S 4) &&& (S 6))) + (kTab m)), .int .i64 ((m : Nat) : Int), .pointer (some ⟨(L0.b 1), 0 + m * 1, none⟩), W32 (x m), W32 (((((S 7) + (rot (S 4) 6 ^^^ rot (S 4) 11 ^^^ rot (S 4) 25)) + ((S 4) &&& (S 5) ^^^ ~~~(S 4) &&& (S 6))) + (kTab m)) + (x m)), W32 (((((S 7) + (rot (S 4) 6 ^^^ rot (S 4) 11 ^^^ rot (S 4) 25)) + ((S 4) &&& (S 5) ^^^ ~~~(S 4) &&& (S 6))) + (kTab m)) + (x m)), W32 (S 0), W32 (rot (S 0) 2 ^^^ rot (S 0) 13 ^^^ rot (S 0) 22), W32 ((((((S 7) + (rot (S 4) 6 ^^^ rot (S 4) 11 ^^^ rot (S 4) 25)) + ((S 4) &&& (S 5) ^^^ ~~~(S 4) &&& (S 6))) + (kTab m)) + (x m)) + (rot (S 0) 2 ^^^ rot (S 0) 13 ^^^ rot (S 0) 22)), W32 (S 0), W32 (S 1), W32 (S 2), W32 ((S 0) &&& (S 1) ^^^ (S 0) &&& (S 2) ^^^ (S 1) &&& (S 2)), W32 (((((((S 7) + (rot (S 4) 6 ^^^ rot (S 4) 11 ^^^ rot (S 4) 25)) + ((S 4) &&& (S 5) ^^^ ~~~(S 4) &&& (S 6))) + (kTab m)) + (x m)) + (rot (S 0) 2 ^^^ rot (S 0) 13 ^^^ rot (S 0) 22)) + ((S 0) &&& (S 1) ^^^ (S 0) &&& (S 2) ^^^ (S 1) &&& (S 2))), W32 (S 6), W32 (S 5), W32 (S 4), W32 (S 3), W32 (((((S 7) + (rot (S 4) 6 ^^^ rot (S 4) 11 ^^^ rot (S 4) 25)) + ((S 4) &&& (S 5) ^^^ ~~~(S 4) &&& (S 6))) + (kTab m)) + (x m)), W32 ((S 3) + (((((S 7) + (rot (S 4) 6 ^^^ rot (S 4) 11 ^^^ rot (S 4) 25)) + ((S 4) &&& (S 5) ^^^ ~~~(S 4) &&& (S 6))) + (kTab m)) + (x m))), W32 (S 2), W32 (S 1), W32 (S 0), W32 (((((((S 7) + (rot (S 4) 6 ^^^ rot (S 4) 11 ^^^ rot (S 4) 25)) + ((S 4) &&& (S 5) ^^^ ~~~(S 4) &&& (S 6))) + (kTab m)) + (x m)) + (rot (S 0) 2 ^^^ rot (S 0) 13 ^^^ rot (S 0) 22)) + ((S 0) &&& (S 1) ^^^ (S 0) &&& (S 2) ^^^ (S 1) &&& (S 2))), .int .i64 ((m : Nat) : Int), .int .i64 ((m + 1 : Nat) : Int)] ++ D d 74 9))) : List Value).getD zz undef), q3, by rw [rr_s, ← eS, ← rnA_rnd, rnA, rT]; kernel_rfl, by omega, hp7⟩, by show 64 - (m + 1) < 64 - m; omega⟩
    · skip
      obtain rfl : m = 64 := by omega
      refine wp_seq_k (fun K9 k9 => ?_)
      refine wp_seq_k (fun K10 k10 => ?_)
      refine gs [.det (.int .i64 ((64 : Nat) : Int)), .det (.bool false)] [0, 1] [0, 1] (fun L => D d 0 2 ++ ([L0.p 0, L0.p 1, L0.p 2, pt q3 0, W32 (S 0), W32 (S 1), W32 (S 2), W32 (S 3), W32 (S 4), W32 (S 5), W32 (S 6), W32 (S 7), .int .i64 ((64 : Nat) : Int)] ++ (D d 15 19 ++ ([.int .i64 ((64 : Nat) : Int), .bool false] ++ D d 36 47)))) (fun L => [(L0.b 0, AW h 8), (L0.b 1, AW x 64), (L0.b 2, AW (fun _ => 0) 8), (q3, AW kTab 64)]) hJ ⟨
        oM, oJ .i64 .i64 ((64 : Nat) : Int) 64 (h := fun w => (lssI _ _ _ w).trans (by rw [decide_eq_false (by omega)])),
        trivial⟩ (fun L7 w8 hp8 => ?_)
      refine k10 _ _ ?_
      refine wp_cond_false (by kernel_rfl) ?_
      refine skips ?_
      refine k9 _ _ ?_
      refine wp_seq_k (fun K11 k11 => ?_)
      refine gs [.det (W32 (S 0)), .det (W32 (S 1)), .det (W32 (S 2)), .det (W32 (S 3)), .det (W32 (S 4)), .det (W32 (S 5)), .det (W32 (S 6)), .det (W32 (S 7)), .det (VW (mk8 (S 0) (S 1) (S 2) (S 3) (S 4) (S 5) (S 6) (S 7)) 8), .store (.base 2) 0 (AW (mk8 (S 0) (S 1) (S 2) (S 3) (S 4) (S 5) (S 6) (S 7)) 8) (AW (mk8 (S 0) (S 1) (S 2) (S 3) (S 4) (S 5) (S 6) (S 7)) 8)] [0, 1, 2, 3, 4, 5, 6, 7, 8, 9] [0, 0, 0, 0, 0, 0, 0, 0, 255, 511] (fun L => D d 0 2 ++ ([L0.p 0, L0.p 1, L0.p 2, pt q3 0, W32 (S 0), W32 (S 1), W32 (S 2), W32 (S 3), W32 (S 4), W32 (S 5), W32 (S 6), W32 (S 7), .int .i64 ((64 : Nat) : Int)] ++ (D d 15 19 ++ ([.int .i64 ((64 : Nat) : Int), .bool false] ++ (D d 36 38 ++ [W32 (S 0), W32 (S 1), W32 (S 2), W32 (S 3), W32 (S 4), W32 (S 5), W32 (S 6), W32 (S 7), VW (mk8 (S 0) (S 1) (S 2) (S 3) (S 4) (S 5) (S 6) (S 7)) 8]))))) (fun L => [(L0.b 0, AW h 8), (L0.b 1, AW x 64), (L0.b 2, AW (mk8 (S 0) (S 1) (S 2) (S 3) (S 4) (S 5) (S 6) (S 7)) 8), (q3, AW kTab 64)]) hp8 ⟨
        oM, oM, oM, oM, oM, oM, oM, oM, oD (build8 (S 0) (S 1) (S 2) (S 3) (S 4) (S 5) (S 6) (S 7)), oT rW8,
        trivial⟩ (fun L8 w9 hp9 => ?_)
      refine k11 _ _ ?_
      refine wp_ret ?_
      refine bodyPost_ret (v := VW (mk8 (S 0) (S 1) (S 2) (S 3) (S 4) (S 5) (S 6) (S 7)) 8) ?_ rfl ?_
      · exact rc rW8 rfl (by kernel_rfl) (hp9.bound 2 rfl).2
      · exact ⟨by rw [VW_mk8, eS], hp9.bel⟩
  · skip
    intro hr
    refine wp_seq_k (fun K12 k12 => ?_)
    refine gs [.det (VW kTab 64), .alloc (AW (fun _ => 0) 64), .store (.new 1) 0 (AW kTab 64) (AW kTab 64)] [0, 1, 2] [0, 0, 3] (fun L => [VW h 8, VW x 64, L0.p 0, L0.p 1, L0.p 2, L.p 1] ++ (U 11 ++ ([VW kTab 64] ++ U 65))) (fun L => [(L0.b 0, AW h 8), (L0.b 1, AW x 64), (L0.b 2, AW (fun _ => 0) 8), (L.b 1, AW kTab 64)]) hp1 ⟨
      oD buildK64, oZ rW64, oT rW64,
      trivial⟩ (fun L9 w10 hp10 => ?_)
    refine k12 _ _ ?_
    refine wp_seq_k (fun K13 k13 => ?_)
    refine dr [.det (L0.p 0), .det (W32 (h 0)), .det (pt (L0.b 0) 1), .det (W32 (h 1)), .det (pt (L0.b 0) 2), .det (W32 (h 2)), .det (pt (L0.b 0) 3), .det (W32 (h 3)), .det (pt (L0.b 0) 4), .det (W32 (h 4)), .det (pt (L0.b 0) 5), .det (W32 (h 5)), .det (pt (L0.b 0) 6), .det (W32 (h 6)), .det (pt (L0.b 0) 7), .det (W32 (h 7)), .det (W32 (h 0)), .det (W32 (h 1)), .det (W32 (h 2)), .det (W32 (h 3)), .det (W32 (h 4)), .det (W32 (h 5)), .det (W32 (h 6)), .det (W32 (h 7))] [0, 1, 2, 3, 4, 5, 6, 7, 8, 9, 10, 11, 12, 13, 14, 15, 16, 17, 18, 19, 20, 21, 22, 23] [0, 1, 0, 4, 0, 16, 0, 64, 0, 256, 0, 1024, 0, 4096, 0, 16384, 3, 65551, 196671, 459007, 984063, 2035711, 4145151, 8388607] (fun L => [VW h 8, VW x 64, L0.p 0, L0.p 1, L0.p 2, L9.p 1, W32 (h 0), W32 (h 1), W32 (h 2), W32 (h 3), W32 (h 4), W32 (h 5), W32 (h 6), W32 (h 7), undef, undef, undef, VW kTab 64, L0.p 0, W32 (h 0), pt (L0.b 0) 1, W32 (h 1), pt (L0.b 0) 2, W32 (h 2), pt (L0.b 0) 3, W32 (h 3), pt (L0.b 0) 4, W32 (h 4), pt (L0.b 0) 5, W32 (h 5), pt (L0.b 0) 6, W32 (h 6), pt (L0.b 0) 7, W32 (h 7)] ++ U 49) (fun L => [(L0.b 0, AW h 8), (L0.b 1, AW x 64), (L0.b 2, AW (fun _ => 0) 8), (L9.b 1, AW kTab 64)]) hp10 ⟨
      oI aW8, oL1 0 0 oneW, oI aW8, oL1 0 1 oneW, oI aW8, oL1 0 2 oneW, oI aW8, oL1 0 3 oneW, oI aW8, oL1 0 4 oneW, oI aW8, oL1 0 5 oneW, oI aW8, oL1 0 6 oneW, oI aW8,
      oL1 0 7 oneW, oA, oA, oA, oA, oA, oA, oA, oA,
      trivial⟩ (fun L10 w11 hp11 => ?_)
    refine k13 _ _ ?_
    refine wp_seq_k (fun K14 k14 => ?_)
    refine gs [.det (.int .i64 0)] [0] [0] (fun L => [VW h 8, VW x 64, L0.p 0, L0.p 1, L0.p 2, L9.p 1, W32 (h 0), W32 (h 1), W32 (h 2), W32 (h 3), W32 (h 4), W32 (h 5), W32 (h 6), W32 (h 7), .int .i64 0, undef, undef, VW kTab 64, L0.p 0, W32 (h 0), pt (L0.b 0) 1, W32 (h 1), pt (L0.b 0) 2, W32 (h 2), pt (L0.b 0) 3, W32 (h 3), pt (L0.b 0) 4, W32 (h 4), pt (L0.b 0) 5, W32 (h 5), pt (L0.b 0) 6, W32 (h 6), pt (L0.b 0) 7, W32 (h 7)] ++ U 49) (fun L => [(L0.b 0, AW h 8), (L0.b 1, AW x 64), (L0.b 2, AW (fun _ => 0) 8), (L9.b 1, AW kTab 64)]) hp11 ⟨
      oA,
      trivial⟩ (fun L11 w12 hp12 => ?_)
    refine k14 _ _ ?_
    refine wp_seq_k (fun Kl kl => ?_)
    refine wp_label ?_
    exact kl _ _ (hr _ _ ⟨0, (fun zz => ([VW h 8, VW x 64, L0.p 0, L0.p 1, L0.p 2, L9.p 1, W32 (h 0), W32 (h 1), W32 (h 2), W32 (h 3), W32 (h 4), W32 (h 5), W32 (h 6), W32 (h 7), .int .i64 0, undef, undef, VW kTab 64, L0.p 0, W32 (h 0), pt (L0.b 0) 1, W32 (h 1), pt (L0.b 0) 2, W32 (h 2), pt (L0.b 0) 3, W32 (h 3), pt (L0.b 0) 4, W32 (h 4), pt (L0.b 0) 5, W32 (h 5), pt (L0.b 0) 6, W32 (h 6), pt (L0.b 0) 7, W32 (h 7)] ++ U 49 : List Value).getD zz undef), (L9.b 1), by rw [rr_0]; kernel_rfl, by omega, hp12⟩)
/-- What the rounds keep. -/
def bkI1 (h : Nat → BitVec 32) (c : Nat → Int) (Z : Nat → BitVec 32) (w : World) (q0 q1 q2 q3 : Nat) : Nat → Act → World → Prop := fun L a' w' => ∃ (m : Nat) (d : Nat → Value),
  a' = { tmps := (D d 0 2 ++ ([.pointer (some ⟨q0, 0, none⟩), .pointer (some ⟨q1, 0, none⟩), .pointer (some ⟨q2, 0, none⟩), .pointer (some ⟨q3, 0, none⟩)] ++ (D d 6 5 ++ ([.int .i64 ((m : Nat) : Int)] ++ D d 12 12))) : List Value).toArray, defers := [] } ∧ m + L = 8 ∧ Heap w.heap.size w w' [(q0, AW (fin8 h Z m) 8), (q1, BC c 64), (q2, AW (fun _ => 0) 8), (q3, AW Z 8)]

set_option maxHeartbeats 4000000 in
theorem shaBlock0 (h : Nat → BitVec 32) (c : Nat → Int) (hc : ∀ i, i < 64 → 0 ≤ c i ∧ c i < 256) (w : World) : Calls Try.prog 11 #[VW h 8, VB c 64] w (Ret (VW (blk h c kTab) 8) w) := by
  obtain ⟨Z, eZ⟩ : ∃ x1, x1 = rr h kTab (wex (wst c 64) 48) 64 := ⟨_, rfl⟩
  have hp0 := Heap.start w
  go_enter Try.func11, Try.ntmps11
  refine wp_seq_k (fun K1 k1 => ?_)
  refine gs [.alloc (AW h 8), .alloc (BC c 64), .alloc (AW (fun _ => 0) 8)] [0, 1, 2] [0, 0, 0] (fun L => [VW h 8, VB c 64, L.p 0, L.p 1, L.p 2] ++ U 19) (fun L => [(L.b 0, AW h 8), (L.b 1, BC c 64), (L.b 2, AW (fun _ => 0) 8)]) hp0 ⟨
    oB, oB, oZ rW8,
    trivial⟩ (fun L0 w1 hp1 => ?_)
  refine k1 _ _ ?_
  refine wp_seq_k (fun K2 k2 => ?_)
  refine dr [.det (VW h 8), .det (VB c 64), .det (VW (wex (wst c 64) 48) 64), .det (VW Z 8), .alloc (AW (fun _ => 0) 8), .store (.new 4) 0 (AW Z 8) (AW Z 8)] [0, 1, 2, 3, 4, 5] [0, 0, 2, 7, 0, 31] (fun L => [VW h 8, VB c 64, L0.p 0, L0.p 1, L0.p 2, L.p 4, undef, VW h 8, VB c 64, VW (wex (wst c 64) 48) 64, VW Z 8] ++ U 13) (fun L => [(L0.b 0, AW h 8), (L0.b 1, BC c 64), (L0.b 2, AW (fun _ => 0) 8), (L.b 4, AW Z 8)]) hp1 ⟨
    oL 0 0 rW8, oL 1 0 rB64, oR (shaSpread c hc), oR (by rw [eZ]; exact shaMix h (wex (wst c 64) 48)), oZ rW8, oT rW8,
    trivial⟩ (fun L1 w2 hp2 => ?_)
  refine k2 _ _ ?_
  refine wp_seq_k (fun K3 k3 => ?_)
  refine wp_seq_k (fun K4 k4 => ?_)
  refine gs [.det (.int .i64 0)] [0] [0] (fun L => [VW h 8, VB c 64, L0.p 0, L0.p 1, L0.p 2, L1.p 4, undef, VW h 8, VB c 64, VW (wex (wst c 64) 48) 64, VW Z 8, .int .i64 0] ++ U 12) (fun L => [(L0.b 0, AW h 8), (L0.b 1, BC c 64), (L0.b 2, AW (fun _ => 0) 8), (L1.b 4, AW Z 8)]) hp2 ⟨
    oM,
    trivial⟩ (fun L2 w3 hp3 => ?_)
  refine k4 _ _ ?_
  refine wp_block_k (fun K5 k5 => ?_)
  refine wp_loop_ghost (bkI1 h c Z w (L0.b 0) (L0.b 1) (L0.b 2) (L1.b 4)) 8 ⟨0, (fun zz => ([VW h 8, VB c 64, L0.p 0, L0.p 1, L0.p 2, L1.p 4, undef, VW h 8, VB c 64, VW (wex (wst c 64) 48) 64, VW Z 8, .int .i64 0] ++ U 12 : List Value).getD zz undef), by kernel_rfl, Nat.zero_add _, by rw [fin8_0]; exact hp3⟩ ?_
  rintro L a' W ⟨m, d, rfl, hL, hJ⟩
  by_cases hL0 : L = 0
  rotate_left
  · skip
    have hm : m < 8 := by omega
    refine wp_seq_k (fun K6 k6 => ?_)
    refine gs [.det (.bool true)] [0] [0] (fun L => D d 0 2 ++ ([L0.p 0, L0.p 1, L0.p 2, L1.p 4] ++ (D d 6 5 ++ ([.int .i64 ((m : Nat) : Int), .bool true] ++ D d 13 11)))) (fun L => [(L0.b 0, AW (fin8 h Z m) 8), (L0.b 1, BC c 64), (L0.b 2, AW (fun _ => 0) 8), (L1.b 4, AW Z 8)]) hJ ⟨
      oJ .i64 .i64 ((m : Nat) : Int) 8 (h := fun w => (lssI _ _ _ w).trans (by rw [decide_eq_true (by omega)])),
      trivial⟩ (fun L3 w4 hp4 => ?_)
    refine k6 _ _ ?_
    refine wp_seq_k (fun K7 k7 => ?_)
    refine wp_cond_true (by kernel_rfl) ?_
    refine skips ?_
    refine k7 _ _ ?_
    refine wp_seq_k (fun K8 k8 => ?_)
    refine wp_block_k (fun K9 k9 => ?_)
    refine wp_seq_k (fun K10 k10 => ?_)
    refine gs [.det (.int .i64 ((m : Nat) : Int)), .det (.int .i64 ((m : Nat) : Int))] [0, 1] [0, 1] (fun L => D d 0 2 ++ ([L0.p 0, L0.p 1, L0.p 2, L1.p 4, .int .i64 ((m : Nat) : Int)] ++ (D d 7 4 ++ ([.int .i64 ((m : Nat) : Int), .bool true, .int .i64 ((m : Nat) : Int)] ++ D d 14 10)))) (fun L => [(L0.b 0, AW (fin8 h Z m) 8), (L0.b 1, BC c 64), (L0.b 2, AW (fun _ => 0) 8), (L1.b 4, AW Z 8)]) hp4 ⟨
      oM, oA,
      trivial⟩ (fun L4 w5 hp5 => ?_)
    refine k10 _ _ ?_
    refine dr [.det (.int .i64 ((m : Nat) : Int)), .det (.pointer (some ⟨(L0.b 0), 0 + m * 1, none⟩)), .det (W32 ((fin8 h Z m) m)), .det (.int .i64 ((m : Nat) : Int)), .det (.pointer (some ⟨(L1.b 4), 0 + m * 1, none⟩)), .det (W32 (Z m)), .det (W32 (((fin8 h Z m) m) + (Z m))), .det (.pointer (some ⟨(L0.b 0), 0 + m * 1, none⟩)), .store (.base 0) (0 + m * 1) ([W32 (((fin8 h Z m) m) + (Z m))]) (AW (wup (fin8 h Z m) m (((fin8 h Z m) m) + (Z m))) 8)] [0, 1, 2, 3, 4, 5, 6, 7, 8] [0, 1, 3, 0, 8, 24, 63, 127, 255] (fun L => D d 0 2 ++ ([L0.p 0, L0.p 1, L0.p 2, L1.p 4, .int .i64 ((m : Nat) : Int)] ++ (D d 7 4 ++ ([.int .i64 ((m : Nat) : Int), .bool true, .int .i64 ((m : Nat) : Int), .int .i64 ((m : Nat) : Int), .pointer (some ⟨(L0.b 0), 0 + m * 1, none⟩), W32 ((fin8 h Z m) m), .int .i64 ((m : Nat) : Int), .pointer (some ⟨(L1.b 4), 0 + m * 1, none⟩), W32 (Z m), W32 (((fin8 h Z m) m) + (Z m)), .pointer (some ⟨(L0.b 0), 0 + m * 1, none⟩)] ++ D d 22 2)))) (fun L => [(L0.b 0, AW (wup (fin8 h Z m) m (((fin8 h Z m) m) + (Z m))) 8), (L0.b 1, BC c 64), (L0.b 2, AW (fun _ => 0) 8), (L1.b 4, AW Z 8)]) hp5 ⟨
      oM, oIA (k := .i64) m aW8 (by omega), oLA (n := 8) (j := m) 0 (by omega), oM, oIA (k := .i64) m aW8 (by omega), oLA (n := 8) (j := m) 3 (by omega), oJ .u32 .u32 (((fin8 h Z m) m).toNat : Int) ((Z m).toNat : Int) (h := fun w => addW _ ((fin8 h Z m) m) (Z m) w),
      oIA (k := .i64) m aW8 (by omega), oTA (n := 8) (j := m) (by omega),
      trivial⟩ (fun L5 w6 hp6 => ?_)
    refine k9 _ _ _ ?_
    refine block_normal ?_
    refine k8 _ _ ?_
    refine gs [.det (.int .i64 ((m + 1 : Nat) : Int)), .det (.int .i64 ((m + 1 : Nat) : Int))] [0, 1] [0, 1] (fun L => D d 0 2 ++ ([L0.p 0, L0.p 1, L0.p 2, L1.p 4, .int .i64 ((m : Nat) : Int)] ++ (D d 7 4 ++ [.int .i64 ((m + 1 : Nat) : Int), .bool true, .int .i64 ((m : Nat) : Int), .int .i64 ((m : Nat) : Int), .pointer (some ⟨(L0.b 0), 0 + m * 1, none⟩), W32 ((fin8 h Z m) m), .int .i64 ((m : Nat) : Int), .pointer (some ⟨(L1.b 4), 0 + m * 1, none⟩), W32 (Z m), W32 (((fin8 h Z m) m) + (Z m)), .pointer (some ⟨(L0.b 0), 0 + m * 1, none⟩), .int .i64 ((m + 1 : Nat) : Int), d 23]))) (fun L => [(L0.b 0, AW (wup (fin8 h Z m) m (((fin8 h Z m) m) + (Z m))) 8), (L0.b 1, BC c 64), (L0.b 2, AW (fun _ => 0) 8), (L1.b 4, AW Z 8)]) hp6 ⟨
      oJ .i64 .i64 ((m : Nat) : Int) 1 (h := fun w => add1N _ (m) (by omega) w), oM,
      trivial⟩ (fun L6 w7 hp7 => ?_)
    exact ⟨L - 1, by omega, m + 1, (fun zz => (D d 0 2 ++ ([L0.p 0, L0.p 1, L0.p 2, L1.p 4, .int .i64 ((m : Nat) : Int)] ++ (D d 7 4 ++ [.int .i64 ((m + 1 : Nat) : Int), .bool true, .int .i64 ((m : Nat) : Int), .int .i64 ((m : Nat) : Int), .pointer (some ⟨(L0.b 0), 0 + m * 1, none⟩), W32 ((fin8 h Z m) m), .int .i64 ((m : Nat) : Int), .pointer (some ⟨(L1.b 4), 0 + m * 1, none⟩), W32 (Z m), W32 (((fin8 h Z m) m) + (Z m)), .pointer (some ⟨(L0.b 0), 0 + m * 1, none⟩), .int .i64 ((m + 1 : Nat) : Int), d 23])) : List Value).getD zz undef), by kernel_rfl, by omega, by rw [fin8_s]; exact hp7⟩
  obtain rfl : m = 8 := by omega
  obtain ⟨z4, ez4⟩ : ∃ x, x = fin8 h Z 8 := ⟨_, rfl⟩
  rw [← ez4] at hJ
  refine wp_seq_k (fun K11 k11 => ?_)
  refine gs [.det (.bool false)] [0] [0] (fun L => D d 0 2 ++ ([L0.p 0, L0.p 1, L0.p 2, L1.p 4] ++ (D d 6 5 ++ ([.int .i64 ((8 : Nat) : Int), .bool false] ++ D d 13 11)))) (fun L => [(L0.b 0, AW z4 8), (L0.b 1, BC c 64), (L0.b 2, AW (fun _ => 0) 8), (L1.b 4, AW Z 8)]) hJ ⟨
    oJ .i64 .i64 ((8 : Nat) : Int) 8 (h := fun w => (lssI _ _ _ w).trans (by rw [decide_eq_false (by omega)])),
    trivial⟩ (fun L7 w8 hp8 => ?_)
  refine k11 _ _ ?_
  refine wp_seq_k (fun K12 k12 => ?_)
  refine wp_cond_false (by kernel_rfl) ?_
  refine wp_exit ?_
  refine then_exit ?_
  refine then_exit ?_
  refine k5 _ _ _ ?_
  refine exit_in ?_
  refine k3 _ _ ?_
  refine wp_seq_k (fun K13 k13 => ?_)
  refine gs [.det (VW z4 8), .store (.base 2) 0 (AW z4 8) (AW z4 8)] [0, 1] [0, 1] (fun L => D d 0 2 ++ ([L0.p 0, L0.p 1, L0.p 2, L1.p 4] ++ (D d 6 5 ++ ([.int .i64 ((8 : Nat) : Int), .bool false] ++ (D d 13 10 ++ [VW z4 8]))))) (fun L => [(L0.b 0, AW z4 8), (L0.b 1, BC c 64), (L0.b 2, AW z4 8), (L1.b 4, AW Z 8)]) hp8 ⟨
    oL 0 0 rW8, oT rW8,
    trivial⟩ (fun L8 w9 hp9 => ?_)
  refine k13 _ _ ?_
  refine wp_ret ?_
  refine bodyPost_ret (v := VW z4 8) ?_ rfl ?_
  · exact rc rW8 rfl (by kernel_rfl) (hp9.bound 2 rfl).2
  · exact ⟨by rw [ez4, fin8_turn, eZ]; rfl, hp9.bel⟩
theorem shaBlock (h : Nat → BitVec 32) (c : Nat → Int) (hc : ∀ i, i < 64 → 0 ≤ c i ∧ c i < 256) (w : World) : Calls Try.prog 11 #[VW h 8, VB c 64] w (Ret (VW (blk h c (hz true 64)) 8) w) := by
  rw [blk_congr kTab_at]
  exact shaBlock0 h c hc w
end Go.Proofs.Ytklddcicfeakfaa.fpn
