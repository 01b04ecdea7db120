/- Package sha: a digest. -/
import Derived.Test.YtklddcicfeakfaaShaC
namespace Go.Proofs.Ytklddcicfeakfaa.fpn
open Go.RowKit Pl
set_option linter.unusedVariables false
set_option linter.unusedSimpArgs false
set_option maxRecDepth 8000

section
variable {ops : Array Oper} {ks : List Kind} {T : List Nat} {a0 : Act} {B : Nat} {w0 W0 : World} {H : List (Nat × List Value)} {i : Nat} {o : Oper}
/-- The rest of a slice of bytes. -/
theorem oSR {x l : Operand} {b off len c n : Nat} {p : Option Addr} (hn : n ≤ len) (hlc : len ≤ c) (hp : p = if c = n then some ⟨b, off, none⟩ else some ⟨b, off + n, none⟩) (hw : ∀ L, wantedR ks L o = true := by intro _; kernel_rfl) (ho : o.op = .slice 22 x (some l) none none := by exact rfl)
    (hx : ∀ L, rd ops ks T a0 L i x = .slice (some ⟨b, off, none⟩) len c := by intro _; kernel_rfl) (hl : ∀ L, rd ops ks T a0 L i l = .int .i64 (n : Int) := by intro _; kernel_rfl) (hk : kd ks i = .det (.slice p (len - n) (c - n))) : Obl Try.prog ops ks T a0 B w0 H i o := ⟨ob_pure hw hk fun L w => by
    have hsz : (sizeOf 5).run Try.prog w = .ok 1 w := size_of sizeY w
    subst hp
    unfold execOp
    by_cases h2 : c = n
    · have h2' : c - n = 0 := by omega
      simp [ho, hx L, hl L, Instr.sliceAt, Instr.slice, Instr.sliceBounds, Instr.sliceBound, asIntOf, Sem.run_bind, run_underlying Try.underlying22, hsz, hn, hlc, h2, Addr.add_mid]
      try omega
    · simp [ho, hx L, hl L, Instr.sliceAt, Instr.slice, Instr.sliceBounds, Instr.sliceBound, asIntOf, Sem.run_bind, run_underlying Try.underlying22, hsz, hn, hlc, h2, Addr.add_mid]⟩
/-- A slice as an array's address. -/
theorem oAS {t e : TypeId} {x : Operand} {n len c : Nat} {a : Addr} (hn : n ≤ len) (hu : Try.prog.underlying t = some (.array n e)) (hw : ∀ L, wantedR ks L o = true := by intro _; kernel_rfl) (ho : o.op = .sliceToArrayPointer t x := by exact rfl)
    (hx : ∀ L, rd ops ks T a0 L i x = .slice (some a) len c := by intro _; kernel_rfl) (hk : kd ks i = .det (.pointer (some a))) : Obl Try.prog ops ks T a0 B w0 H i o := ⟨ob_pure hw hk fun L w => by
    have h : ¬ len < n := by omega
    unfold execOp
    simp [ho, hx L, Instr.arrayAt, Sem.run_bind, run_underlying hu, h]⟩
end
theorem range64 {w x : World} {b off r : Nat} {f : Nat → Int} (hc : ∀ j, j < r → w.cell? ⟨b, off + j, none⟩ = some (.int .u8 (f j))) (h : 64 ≤ r) (hb : Below w.heap.size w x) : x.rangeAt b off (BC f 64) := fun j v hv => by
  have hj : j < 64 := by have := (List.getElem?_eq_some_iff.1 hv).1; rwa [BC_len] at this
  rw [BC_at hj] at hv
  obtain rfl : Value.int .u8 (f j) = v := by simpa using hv
  have hh := hc j (by omega)
  exact (hb.cell (p := ⟨b, off + j, none⟩) (cell_lt hh)).trans hh
theorem rest64 {w : World} {b off r c m : Nat} {g : Nat → Int} {p : Option Addr} (hc : ∀ j, j < r → w.cell? ⟨b, off + j, none⟩ = some (.int .u8 (g (64 * m + j)))) (h : r ≤ c) (hp : p = if c = 64 then some ⟨b, off, none⟩ else some ⟨b, off + 64, none⟩) : AtK .u8 w p (r - 64) (fun i => g (64 * (m + 1) + i)) := fun h0 => by
  rw [if_neg (by omega)] at hp
  refine ⟨b, off + 64, hp, fun j hj => ?_⟩
  have := hc (64 + j) (by omega)
  rw [show off + 64 + j = off + (64 + j) by omega, this]
  show some (Value.int .u8 (g (64 * m + (64 + j)))) = some (Value.int .u8 (g (64 * (m + 1) + j)))
  rw [show 64 * m + (64 + j) = 64 * (m + 1) + j by omega]
theorem hs0 (g : Nat → Int) (n : Nat) : AW (mk8 (1779033703#32) (3144134277#32) (1013904242#32) (2773480762#32) (1359893119#32) (2600822924#32) (528734635#32) (1541459225#32)) 8 = AW (hsx g n 0) 8 := by
  rw [hsx_0]
  refine (List.map_congr_left fun j hj => congrArg W32 ?_).symm
  have h := List.mem_range.1 hj
  rw [first_at h]
  exact (by decide +kernel : ∀ i, i < 8 → hT.getD i 0 = (mk8 (1779033703#32) (3144134277#32) (1013904242#32) (2773480762#32) (1359893119#32) (2600822924#32) (528734635#32) (1541459225#32)) i) j h
/-- What the rounds keep. -/
def smI1 (g : Nat → Int) (p : Option Addr) (n c : Nat) (w : World) (q0 q1 : Nat) : Nat → Act → World → Prop := fun L a' w' => ∃ (m r : Nat) (q : Option Addr) (c1 : Nat) (d : Nat → Value),
  a' = { tmps := ([.slice p n c, d 1, .pointer (some ⟨q0, 0, none⟩), .pointer (some ⟨q1, 0, none⟩), .slice q r c1] ++ D d 5 19 : List Value).toArray, defers := [] } ∧ m + L = n / 64 ∧ 64 * m + r = n ∧ r ≤ c1 ∧ AtK .u8 w q r (fun i => g (64 * m + i)) ∧ Heap w.heap.size w w' [(q0, BC (fun _ => 0) 32), (q1, AW (hsx g n m) 8)]
theorem at0 {g : Nat → Int} {p : Option Addr} {n : Nat} {w : World} (h : AtK .u8 w p n g) : AtK .u8 w p n (fun i => g (64 * 0 + i)) := fun h0 => by
  obtain ⟨b, off, e, hc⟩ := h h0
  exact ⟨b, off, e, fun j hj => by rw [hc j hj]; show _ = some (Value.int .u8 (g (64 * 0 + j))); rw [Nat.mul_zero, Nat.zero_add]⟩

set_option maxHeartbeats 4000000 in
theorem shaSum (g : Nat → Int) (p : Option Addr) (n c : Nat) (w : World) (hn : n ≤ 400) (hpc : n ≤ c) (hp : AtK .u8 w p n g) (hg : ∀ j, j < n → 0 ≤ g j ∧ g j < 256) : Calls Try.prog 8 #[.slice p n c] w (Ret (VB (dig g n) 32) w) := by
  have hp0 := Heap.start w
  go_enter Try.func8, Try.ntmps8
  refine wp_seq_k (fun K1 k1 => ?_)
  refine gs [.alloc (BC (fun _ => 0) 32)] [0] [0] (fun L => [.slice p n c, undef, L.p 0] ++ U 21) (fun L => [(L.b 0, BC (fun _ => 0) 32)]) hp0 ⟨
    oZ rB32,
    trivial⟩ (fun L0 w1 hp1 => ?_)
  refine k1 _ _ ?_
  refine wp_seq_k (fun K2 k2 => ?_)
  refine gs [.det (VW (mk8 (1779033703#32) (3144134277#32) (1013904242#32) (2773480762#32) (1359893119#32) (2600822924#32) (528734635#32) (1541459225#32)) 8), .alloc (AW (fun _ => 0) 8), .store (.new 1) 0 (AW (mk8 (1779033703#32) (3144134277#32) (1013904242#32) (2773480762#32) (1359893119#32) (2600822924#32) (528734635#32) (1541459225#32)) 8) (AW (mk8 (1779033703#32) (3144134277#32) (1013904242#32) (2773480762#32) (1359893119#32) (2600822924#32) (528734635#32) (1541459225#32)) 8)] [0, 1, 2] [0, 0, 3] (fun L => [.slice p n c, undef, L0.p 0, L.p 1, undef, VW (mk8 (1779033703#32) (3144134277#32) (1013904242#32) (2773480762#32) (1359893119#32) (2600822924#32) (528734635#32) (1541459225#32)) 8] ++ U 18) (fun L => [(L0.b 0, BC (fun _ => 0) 32), (L.b 1, AW (mk8 (1779033703#32) (3144134277#32) (1013904242#32) (2773480762#32) (1359893119#32) (2600822924#32) (528734635#32) (1541459225#32)) 8)]) hp1 ⟨
    oD (build8 (1779033703#32) (3144134277#32) (1013904242#32) (2773480762#32) (1359893119#32) (2600822924#32) (528734635#32) (1541459225#32)), oZ rW8, oT rW8,
    trivial⟩ (fun L1 w2 hp2 => ?_)
  refine k2 _ _ ?_
  refine wp_seq_k (fun K3 k3 => ?_)
  refine gs [.det (.slice p n c), .det (.slice p n c)] [0, 1] [0, 1] (fun L => [.slice p n c, undef, L0.p 0, L1.p 1, .slice p n c, VW (mk8 (1779033703#32) (3144134277#32) (1013904242#32) (2773480762#32) (1359893119#32) (2600822924#32) (528734635#32) (1541459225#32)) 8, .slice p n c] ++ U 17) (fun L => [(L0.b 0, BC (fun _ => 0) 32), (L1.b 1, AW (mk8 (1779033703#32) (3144134277#32) (1013904242#32) (2773480762#32) (1359893119#32) (2600822924#32) (528734635#32) (1541459225#32)) 8)]) hp2 ⟨
    oM, oA,
    trivial⟩ (fun L2 w3 hp3 => ?_)
  refine k3 _ _ ?_
  refine wp_seq_k (fun K4 k4 => ?_)
  refine wp_block_k (fun K5 k5 => ?_)
  rw [hs0 g n] at hp3
  refine wp_loop_ghost (smI1 g p n c w (L0.b 0) (L1.b 1)) (n / 64) ⟨0, n, p, c, (fun zz => ([.slice p n c, undef, L0.p 0, L1.p 1, .slice p n c, VW (mk8 (1779033703#32) (3144134277#32) (1013904242#32) (2773480762#32) (1359893119#32) (2600822924#32) (528734635#32) (1541459225#32)) 8, .slice p n c] ++ U 17 : List Value).getD zz undef), by kernel_rfl, Nat.zero_add _, by omega, hpc, at0 hp, hp3⟩ ?_
  rintro L a' W ⟨m, r, q, c1, d, rfl, hL, hn64, hrc, hA, hJ⟩
  by_cases hL0 : L = 0
  rotate_left
  · skip
    have hr64 : 64 ≤ r := by omega
    obtain ⟨b1, off1, rfl, hcc⟩ := hA (by omega)
    have hby : ∀ i, i < 64 → 0 ≤ (fun i => g (64 * m + i)) i ∧ (fun i => g (64 * m + i)) i < 256 := fun i hi => hg _ (by omega)
    obtain ⟨p2, hp2⟩ : ∃ x1, x1 = if c1 = 64 then some (⟨b1, off1, none⟩ : Addr) else some ⟨b1, off1 + 64, none⟩ := ⟨_, rfl⟩
    refine wp_seq_k (fun K6 k6 => ?_)
    refine wp_seq_k (fun K7 k7 => ?_)
    refine gs [.det (.slice (some ⟨b1, off1, none⟩) r c1), .det (.int .i64 r), .det (.bool true)] [0, 1, 2] [0, 1, 3] (fun L => [.slice p n c, d 1, L0.p 0, L1.p 1, .slice (some ⟨b1, off1, none⟩) r c1] ++ (D d 5 2 ++ ([.slice (some ⟨b1, off1, none⟩) r c1, .int .i64 r, .bool true] ++ D d 10 14))) (fun L => [(L0.b 0, BC (fun _ => 0) 32), (L1.b 1, AW (hsx g n m) 8)]) hJ ⟨
      oM, fun h => ⟨ob_len (p := (some ⟨b1, off1, none⟩)) (n := r) (c := c1) (fun _ => rfl) h rfl (fun _ => by kernel_rfl) Try.underlying22⟩, oJ .i64 .i64 r 64 (h := fun w => (geqI _ _ _ w).trans (by rw [decide_eq_true (by omega)])),
      trivial⟩ (fun L3 w4 hp4 => ?_)
    refine k7 _ _ ?_
    refine wp_cond_true (by kernel_rfl) ?_
    refine skips ?_
    refine k6 _ _ ?_
    refine wp_block_k (fun K8 k8 => ?_)
    refine wp_seq_k (fun K9 k9 => ?_)
    refine dr [.det (VW (hsx g n m) 8), .det (.slice (some ⟨b1, off1, none⟩) r c1), .det (.pointer (some ⟨b1, off1, none⟩)), .det (VB (fun i => g (64 * m + i)) 64), .det (VW (blk (hsx g n m) (fun i => g (64 * m + i)) (hz true 64)) 8), .store (.base 1) 0 (AW (blk (hsx g n m) (fun i => g (64 * m + i)) (hz true 64)) 8) (AW (blk (hsx g n m) (fun i => g (64 * m + i)) (hz true 64)) 8)] [0, 1, 2, 3, 4, 5] [0, 0, 2, 6, 15, 31] (fun L => [.slice p n c, d 1, L0.p 0, L1.p 1, .slice (some ⟨b1, off1, none⟩) r c1] ++ (D d 5 2 ++ ([.slice (some ⟨b1, off1, none⟩) r c1, .int .i64 r, .bool true, VW (hsx g n m) 8, .slice (some ⟨b1, off1, none⟩) r c1, .pointer (some ⟨b1, off1, none⟩), VB (fun i => g (64 * m + i)) 64, VW (blk (hsx g n m) (fun i => g (64 * m + i)) (hz true 64)) 8] ++ D d 15 9))) (fun L => [(L0.b 0, BC (fun _ => 0) 32), (L1.b 1, AW (blk (hsx g n m) (fun i => g (64 * m + i)) (hz true 64)) 8)]) hp4 ⟨
      oL 1 0 rW8, oM, oAS (n := 64) (len := r) (c := c1) hr64 Try.underlying25, oLW rB64 (fun L w hs => ⟨b1, off1, by kernel_rfl, range64 hcc hr64 hs.bel⟩),
      oR (shaBlock (hsx g n m) (fun i => g (64 * m + i)) hby), oT rW8,
      trivial⟩ (fun L4 w5 hp5 => ?_)
    refine k9 _ _ ?_
    refine gs [.det (.slice (some ⟨b1, off1, none⟩) r c1), .det (.slice p2 (r - 64) (c1 - 64)), .det (.slice p2 (r - 64) (c1 - 64))] [0, 1, 2] [0, 1, 3] (fun L => [.slice p n c, d 1, L0.p 0, L1.p 1, .slice p2 (r - 64) (c1 - 64)] ++ (D d 5 2 ++ ([.slice (some ⟨b1, off1, none⟩) r c1, .int .i64 r, .bool true, VW (hsx g n m) 8, .slice (some ⟨b1, off1, none⟩) r c1, .pointer (some ⟨b1, off1, none⟩), VB (fun i => g (64 * m + i)) 64, VW (blk (hsx g n m) (fun i => g (64 * m + i)) (hz true 64)) 8, .slice (some ⟨b1, off1, none⟩) r c1, .slice p2 (r - 64) (c1 - 64)] ++ D d 17 7))) (fun L => [(L0.b 0, BC (fun _ => 0) 32), (L1.b 1, AW (blk (hsx g n m) (fun i => g (64 * m + i)) (hz true 64)) 8)]) hp5 ⟨
      oM, oSR (b := b1) (off := off1) (len := r) (c := c1) (n := 64) hr64 hrc hp2, oA,
      trivial⟩ (fun L5 w6 hp6 => ?_)
    refine k8 _ _ _ ?_
    refine block_normal ?_
    exact ⟨L - 1, by omega, m + 1, r - 64, p2, c1 - 64, (fun zz => ([.slice p n c, d 1, L0.p 0, L1.p 1, .slice p2 (r - 64) (c1 - 64)] ++ (D d 5 2 ++ ([.slice (some ⟨b1, off1, none⟩) r c1, .int .i64 r, .bool true, VW (hsx g n m) 8, .slice (some ⟨b1, off1, none⟩) r c1, .pointer (some ⟨b1, off1, none⟩), VB (fun i => g (64 * m + i)) 64, VW (blk (hsx g n m) (fun i => g (64 * m + i)) (hz true 64)) 8, .slice (some ⟨b1, off1, none⟩) r c1, .slice p2 (r - 64) (c1 - 64)] ++ D d 17 7)) : List Value).getD zz undef), by kernel_rfl, by omega, by omega, by omega, rest64 hcc hrc hp2, by rw [hsx_whole g (show m < n / 64 by omega)]; exact hp6⟩
  have hq : m = n / 64 := by omega
  have hrr : r = n % 64 := by omega
  have hr6 : r < 64 := by omega
  have hby : ∀ i, i < r → 0 ≤ (fun i => g (64 * m + i)) i ∧ (fun i => g (64 * m + i)) i < 256 := fun i hi => hg _ (by omega)
  refine wp_seq_k (fun K10 k10 => ?_)
  refine wp_seq_k (fun K11 k11 => ?_)
  refine gs [.det (.slice q r c1), .det (.int .i64 r), .det (.bool false)] [0, 1, 2] [0, 1, 3] (fun L => [.slice p n c, d 1, L0.p 0, L1.p 1, .slice q r c1] ++ (D d 5 2 ++ ([.slice q r c1, .int .i64 r, .bool false] ++ D d 10 14))) (fun L => [(L0.b 0, BC (fun _ => 0) 32), (L1.b 1, AW (hsx g n m) 8)]) hJ ⟨
    oM, fun h => ⟨ob_len (p := q) (n := r) (c := c1) (fun _ => rfl) h rfl (fun _ => by kernel_rfl) Try.underlying22⟩, oJ .i64 .i64 r 64 (h := fun w => (geqI _ _ _ w).trans (by rw [decide_eq_false (by omega)])),
    trivial⟩ (fun L6 w7 hp7 => ?_)
  refine k11 _ _ ?_
  refine wp_cond_false (by kernel_rfl) ?_
  refine wp_exit ?_
  refine then_exit ?_
  refine then_exit ?_
  refine k5 _ _ _ ?_
  refine exit_in ?_
  refine k4 _ _ ?_
  refine wp_seq_k (fun K12 k12 => ?_)
  refine gs [.det (VW (hsx g n m) 8), .det (.slice q r c1), .det (.slice p n c), .det (.int .i64 n), .det (.int .u64 ((n : Nat) : Int)), .det (VW (finS (hsx g n m) (fun i => g (64 * m + i)) r n) 8), .det (VB (ob (finS (hsx g n m) (fun i => g (64 * m + i)) r n)) 32), .store (.base 0) 0 (BC (ob (finS (hsx g n m) (fun i => g (64 * m + i)) r n)) 32) (BC (ob (finS (hsx g n m) (fun i => g (64 * m + i)) r n)) 32)] [0, 1, 2, 3, 4, 5, 6, 7] [0, 0, 0, 4, 12, 31, 63, 127] (fun L => [.slice p n c, d 1, L0.p 0, L1.p 1, .slice q r c1] ++ (D d 5 2 ++ ([.slice q r c1, .int .i64 r, .bool false] ++ (D d 10 7 ++ [VW (hsx g n m) 8, .slice q r c1, .slice p n c, .int .i64 n, .int .u64 ((n : Nat) : Int), VW (finS (hsx g n m) (fun i => g (64 * m + i)) r n) 8, VB (ob (finS (hsx g n m) (fun i => g (64 * m + i)) r n)) 32])))) (fun L => [(L0.b 0, BC (ob (finS (hsx g n m) (fun i => g (64 * m + i)) r n)) 32), (L1.b 1, AW (hsx g n m) 8)]) hp7 ⟨
    oL 1 0 rW8, oM, oM, fun h => ⟨ob_len (p := p) (n := n) (c := c) (fun _ => rfl) h rfl (fun _ => by kernel_rfl) Try.underlying22⟩, oCv (fun w => convIU n (by omega) w),
    oH (v := VW (finS (hsx g n m) (fun i => g (64 * m + i)) r n) 8) (vs := #[VW (hsx g n m) 8, .slice q r c1, .int .u64 ((n : Nat) : Int)]) (fun w hb _ => shaFinish (hsx g n m) (fun i => g (64 * m + i)) q r c1 n w hr6 hn (AtK.below hA hb) hby),
    oR (shaDigest (finS (hsx g n m) (fun i => g (64 * m + i)) r n)), oT rB32,
    trivial⟩ (fun L7 w8 hp8 => ?_)
  refine k12 _ _ ?_
  refine wp_ret ?_
  refine bodyPost_ret (v := VB (ob (finS (hsx g n m) (fun i => g (64 * m + i)) r n)) 32) ?_ rfl ?_
  · exact rc rB32 rfl (by kernel_rfl) (hp8.bound 0 rfl).2
  · exact ⟨by rw [dig_fin, ← hq, ← hrr], hp8.bel⟩
end Go.Proofs.Ytklddcicfeakfaa.fpn
namespace Go.Proofs.Ytklddcicfeakfaa
theorem shaK : fpn.ShaK := ⟨fpn.shaSum, fun h c w hc => fpn.shaBlock h c hc w⟩
end Go.Proofs.Ytklddcicfeakfaa
