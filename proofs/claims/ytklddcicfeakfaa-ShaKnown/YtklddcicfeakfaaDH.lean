/- The reference's first state, its rounds' numbers. -/
import Derived.Test.YtklddcicfeakfaaDG
namespace Go.Proofs.Ytklddcicfeakfaa.fpn
open Go.RowKit Pl
set_option linter.unusedVariables false
set_option linter.unusedSimpArgs false
set_option maxRecDepth 4000

/-- A new row of whole numbers, as a box. -/
def isP (B : Nat) (bs : List Nat) (l : List Nat) (v : Value) (w : World) : Prop := ∃ k c, v = .slice (some ⟨k, 0, none⟩) 64 c ∧ B ≤ k ∧ (∀ b ∈ bs, b < k) ∧ Box w k (rowu l)
theorem isP.stay {B : Nat} {bs : List Nat} {l : List Nat} {v : Value} {w x : World} (h : isP B bs l v w) (hb : Below w.heap.size w x) : isP B bs l v x := by
  obtain ⟨k, c, e, h1, h2, h3⟩ := h
  exact ⟨k, c, e, h1, h2, h3.up hb⟩
theorem OwnU.box {w : World} {B : Nat} {v : Value} {l : List Nat} (h : OwnU w B v l) (h0 : 0 < l.length) : ∃ k c, v = .slice (some ⟨k, 0, none⟩) l.length c ∧ B ≤ k ∧ Box w k (rowu l) := by
  rcases h.2 with ⟨-, hn⟩ | ⟨g, cap, cur, rfl, hB, hg, hn, hm, hs, ht⟩
  · omega
  · have hc : ∀ (j : Nat) (v : Value), (rowu l)[j]? = some v → w.cell? ⟨g, 0 + j, none⟩ = some v := fun j v e => by
      have hj : j < l.length := by
        have := (List.getElem?_eq_some_iff.1 e).1
        simpa [rowu] using this
      rw [← ht, List.getElem?_take_of_lt (by omega)] at e
      have e' : cur[j]? = some v := by simpa using e
      rw [Nat.zero_add, cell_of_row w g j cur _ _ hg]; exact e'
    refine ⟨g, cap, rfl, hB, (Array.getElem?_eq_some_iff.1 hg).1, hc, fun j hj => ?_⟩
    have hj' : j < (rowu l).length := hj
    exact ⟨by rw [hc j _ (List.getElem?_eq_getElem hj')]; rfl, by rw [Nat.zero_add]; exact frozen_of_row w g j cur _ hg⟩
section
variable {ops : Array Oper} {ks : List Kind} {T : List Nat} {a0 : Act} {B : Nat} {w0 W0 : World} {H : List (Nat × List Value)} {i : Nat} {o : Oper}
theorem newP {L : Lt} {w : World} {fn : FuncId} {vs : Array Value} (hs : Seen ks T B w0 H L i w) (bs : List Nat) (h : Calls Try.prog fn vs w (RetPr w)) (hb : bs = H.map (·.1) := by rfl) : Calls Try.prog fn vs w fun e w' => ∃ v, e = .returned v ∧ isP B bs p64 v w' ∧ Below w.heap.size w w' := by
  refine Calls.mono h fun e w' ⟨v, he, ho, hbl⟩ => ⟨v, he, ?_, hbl⟩
  obtain ⟨k, c, e, h1, h2⟩ := ho.box (by decide)
  refine ⟨k, c, e, Nat.le_trans hs.le h1, fun b hbm => ?_, h2⟩
  subst hb
  obtain ⟨p, hp, rfl⟩ := List.mem_map.1 hbm
  have := (hs.base p hp).lt
  omega
/-- A load out of a row of whole numbers of one's own. -/
theorem oLU {x : Operand} {b j n : Nat} {l : List Nat} (k : Nat) (hj : l[j]? = some n) (he : Pl.early T ks i = true := by kernel_rfl) (hw : ∀ L, wantedR ks L o = true := by intro _; kernel_rfl) (ho : o.op = .load 39 x := by exact rfl)
    (hb : H[k]? = some (b, rowu l) := by exact rfl) (hx : ∀ L, rd ops ks T a0 L i x = .pointer (some ⟨b, 0 + j * 1, none⟩) := by intro _; kernel_rfl) (hk : kd ks i = .det (.int .u64 (n : Int))) : Obl Try.prog ops ks T a0 B w0 H i o := ⟨ob_det hw hk fun L w hs => by
    have hc := (seen_at (hs he) hb).cells j (.int .u64 (n : Int)) (by unfold rowu; rw [List.getElem?_map, hj]; rfl)
    have : (execOp (rd ops ks T a0 L i) o).run Try.prog w = .ok (.value (.int .u64 (n : Int))) w := by
      unfold execOp
      simp only [ho, hx L, Sem.run_bind, Nat.mul_one, run_load1 oneU hc]
      rfl
    rw [this]
    exact ⟨rfl, Below.refl _ _⟩⟩
end
/-- The numbers of the primes' roots. -/
def kz (cube : Bool) (i : Nat) : BitVec 32 := zx ((pts (p64.getD i 0) cube 37 : Nat) : Int)
def hzR (cube : Bool) : Nat → Nat → BitVec 32
  | 0 => fun _ => 0
  | m + 1 => wup (hzR cube m) m (kz cube m)
@[irreducible] def hz (cube : Bool) (m : Nat) : Nat → BitVec 32 := hzR cube m
theorem hz_0 (cube : Bool) : hz cube 0 = fun _ => 0 := by unfold hz; rfl
theorem hz_s (cube : Bool) (m : Nat) : hz cube (m + 1) = wup (hz cube m) m (kz cube m) := by unfold hz; rfl
theorem hz_at (cube : Bool) : ∀ (m i : Nat), i < m → hz cube m i = kz cube i
  | 0, i, h => by omega
  | m + 1, i, h => by
    rw [hz_s]
    by_cases e : i = m
    · subst e; exact wup_at _ _ _
    · rw [wup_ne e]; exact hz_at cube m i (by omega)
theorem p64_at {i : Nat} (h : i < 64) : p64[i]? = some (p64.getD i 0) ∧ p64.getD i 0 < 65536 := by
  have hl : p64.length = 64 := rfl
  have e : p64.getD i 0 = p64[i] := by rw [List.getD_eq_getElem?_getD, List.getElem?_eq_getElem (show i < p64.length by omega)]; rfl
  refine ⟨by rw [e]; exact List.getElem?_eq_getElem _, ?_⟩
  have : ∀ n ∈ p64, n < 65536 := by decide
  rw [e]; exact this _ (List.getElem_mem _)
/-- What the rounds keep. -/
def refFirstI (cb2b0 : Nat) (w : World) (q0 q1 q2 : Nat) : Nat → Act → World → Prop := fun L a' w' => ∃ (m : Nat) (d : Nat → Value),
  a' = { tmps := ([.pointer (some ⟨q0, 0, none⟩), .pointer (some ⟨q1, 0, none⟩), .slice (some ⟨q2, 0, none⟩) 64 cb2b0, .int .i64 ((m : Nat) : Int)] ++ D d 4 13 : List Value).toArray, defers := [] } ∧ m + L = 8 ∧ Heap w.heap.size w w' [(q0, AW (fun _ => 0) 8), (q1, AW (hz false m) 8), (q2, rowu p64)]

set_option maxHeartbeats 4000000 in
theorem refFirst (w : World) : Calls Try.prog 14 #[] w (Ret (VW (hz false 8) 8) w) := by
  have hp0 := Heap.start w
  go_enter Try.func14, Try.ntmps14
  refine wp_seq_k (fun K1 k1 => ?_)
  refine gs [.alloc (AW (fun _ => 0) 8)] [0] [0] (fun L => [L.p 0] ++ U 16) (fun L => [(L.b 0, AW (fun _ => 0) 8)]) hp0 ⟨
    oZ rW8,
    trivial⟩ (fun L0 w1 hp1 => ?_)
  refine k1 _ _ ?_
  refine wp_seq_k (fun K2 k2 => ?_)
  refine gs [.alloc (AW (fun _ => 0) 8)] [0] [0] (fun L => [L0.p 0, L.p 0] ++ U 15) (fun L => [(L0.b 0, AW (fun _ => 0) 8), (L.b 0, AW (fun _ => 0) 8)]) hp1 ⟨
    oZ rW8,
    trivial⟩ (fun L1 w2 hp2 => ?_)
  refine k2 _ _ ?_
  refine wp_seq_k (fun K3 k3 => ?_)
  refine gsA [.any (isP w.heap.size [L0.b 0, L1.b 0] p64), .detV 0 (fun v => v)] [0, 1] [0, 1] (fun L => [L0.p 0, L1.p 0, L.v 0, undef, L.v 0] ++ U 12) (fun L => [(L0.b 0, AW (fun _ => 0) 8), (L1.b 0, AW (fun _ => 0) 8)]) hp2 ⟨
    oY (fun L => #[]) (fun _ _ _ h hb => h.stay hb) (fun L w hs => newP hs [L0.b 0, L1.b 0] (refPrimes w)), oAV,
    trivial⟩ (fun L2 w3 hp3 ha3 => ?_)
  obtain ⟨kb2b0, cb2b0, eb2b0, qb2b0, ub2b0, xb2b0⟩ := AnyF.at ha3 (j := 0) rfl rfl
  rw [eb2b0]
  have hp32b0 := Heap.add hp3 qb2b0 ub2b0 xb2b0
  refine k3 _ _ ?_
  refine wp_seq_k (fun K4 k4 => ?_)
  refine wp_seq_k (fun K5 k5 => ?_)
  refine gs [.det (.int .i64 0)] [0] [0] (fun L => [L0.p 0, L1.p 0, .slice (some ⟨kb2b0, 0, none⟩) 64 cb2b0, .int .i64 0, .slice (some ⟨kb2b0, 0, none⟩) 64 cb2b0] ++ U 12) (fun L => [(L0.b 0, AW (fun _ => 0) 8), (L1.b 0, AW (fun _ => 0) 8), (kb2b0, rowu p64)]) hp32b0 ⟨
    oA,
    trivial⟩ (fun L3 w4 hp4 => ?_)
  refine k5 _ _ ?_
  refine wp_block_k (fun K6 k6 => ?_)
  refine wp_loop_ghost (refFirstI cb2b0 w (L0.b 0) (L1.b 0) kb2b0) 8 ⟨0, (fun zz => ([L0.p 0, L1.p 0, .slice (some ⟨kb2b0, 0, none⟩) 64 cb2b0, .int .i64 0, .slice (some ⟨kb2b0, 0, none⟩) 64 cb2b0] ++ U 12 : List Value).getD zz undef), by kernel_rfl, Nat.zero_add _, by rw [hz_0]; exact hp4⟩ ?_
  rintro L a' W ⟨m, d, rfl, hL, hJ⟩
  by_cases hL0 : L = 0
  rotate_left
  · skip
    have hm : m < 8 := by omega
    obtain ⟨hpm, hpn⟩ := p64_at (show m < 64 by omega)
    refine wp_seq_k (fun K7 k7 => ?_)
    refine wp_seq_k (fun K8 k8 => ?_)
    refine gs [.det (.int .i64 ((m : Nat) : Int)), .det (.bool true)] [0, 1] [0, 1] (fun L => [L0.p 0, L1.p 0, .slice (some ⟨kb2b0, 0, none⟩) 64 cb2b0, .int .i64 ((m : Nat) : Int), d 4, .int .i64 ((m : Nat) : Int), .bool true] ++ D d 7 10) (fun L => [(L0.b 0, AW (fun _ => 0) 8), (L1.b 0, AW (hz false m) 8), (kb2b0, rowu p64)]) hJ ⟨
      oM, oJ .i64 .i64 ((m : Nat) : Int) 8 (h := fun w => (lssI _ _ _ w).trans (by rw [decide_eq_true (by omega)])),
      trivial⟩ (fun L4 w5 hp5 => ?_)
    refine k8 _ _ ?_
    refine wp_cond_true (by kernel_rfl) ?_
    refine skips ?_
    refine k7 _ _ ?_
    refine wp_seq_k (fun K9 k9 => ?_)
    refine wp_block_k (fun K10 k10 => ?_)
    refine gs [.det (.int .i64 ((m : Nat) : Int)), .det (.slice (some ⟨kb2b0, 0, none⟩) 64 cb2b0), .det (.int .i64 ((m : Nat) : Int)), .det (.pointer (some ⟨kb2b0, 0 + m * 1, none⟩)), .det (.int .u64 ((p64.getD m 0 : Nat) : Int)), .det (W32 (kz false m)), .det (.pointer (some ⟨(L1.b 0), 0 + m * 1, none⟩)), .store (.base 1) (0 + m * 1) ([W32 (kz false m)]) (AW (wup (hz false m) m (kz false m)) 8)] [0, 1, 2, 3, 4, 5, 6, 7] [0, 0, 0, 6, 14, 30, 63, 127] (fun L => [L0.p 0, L1.p 0, .slice (some ⟨kb2b0, 0, none⟩) 64 cb2b0, .int .i64 ((m : Nat) : Int), d 4, .int .i64 ((m : Nat) : Int), .bool true] ++ (D d 7 2 ++ [.int .i64 ((m : Nat) : Int), .slice (some ⟨kb2b0, 0, none⟩) 64 cb2b0, .int .i64 ((m : Nat) : Int), .pointer (some ⟨kb2b0, 0 + m * 1, none⟩), .int .u64 ((p64.getD m 0 : Nat) : Int), W32 (kz false m), .pointer (some ⟨(L1.b 0), 0 + m * 1, none⟩), d 16])) (fun L => [(L0.b 0, AW (fun _ => 0) 8), (L1.b 0, AW (wup (hz false m) m (kz false m)) 8), (kb2b0, rowu p64)]) hp5 ⟨
      oM, oM, oM, oIS (n := 64) (c := cb2b0) m Try.underlying45 oneU.size (show m < 64 by omega), oLU 2 hpm, oH (v := W32 (kz false m)) (vs := #[.int .u64 ((p64.getD m 0 : Nat) : Int), .bool false]) (fun w _ _ => refPart (p64.getD m 0) false w hpn),
      oIA (k := .i64) m aW8 (by omega), oTA (n := 8) (j := m) (by omega),
      trivial⟩ (fun L5 w6 hp6 => ?_)
    refine k10 _ _ _ ?_
    refine block_normal ?_
    refine k9 _ _ ?_
    refine gs [.det (.int .i64 ((m : Nat) : Int)), .det (.int .i64 ((m + 1 : Nat) : Int)), .det (.int .i64 ((m + 1 : Nat) : Int))] [0, 1, 2] [0, 1, 3] (fun L => [L0.p 0, L1.p 0, .slice (some ⟨kb2b0, 0, none⟩) 64 cb2b0, .int .i64 ((m + 1 : Nat) : Int), d 4, .int .i64 ((m : Nat) : Int), .bool true, .int .i64 ((m : Nat) : Int), .int .i64 ((m + 1 : Nat) : Int), .int .i64 ((m : Nat) : Int), .slice (some ⟨kb2b0, 0, none⟩) 64 cb2b0, .int .i64 ((m : Nat) : Int), .pointer (some ⟨kb2b0, 0 + m * 1, none⟩), .int .u64 ((p64.getD m 0 : Nat) : Int), W32 (kz false m), .pointer (some ⟨(L1.b 0), 0 + m * 1, none⟩), d 16]) (fun L => [(L0.b 0, AW (fun _ => 0) 8), (L1.b 0, AW (wup (hz false m) m (kz false m)) 8), (kb2b0, rowu p64)]) hp6 ⟨
      oM, oJ .i64 .i64 ((m : Nat) : Int) 1 (h := fun w => add1N _ (m) (by omega) w), oA,
      trivial⟩ (fun L6 w7 hp7 => ?_)
    exact ⟨L - 1, by omega, m + 1, (fun zz => ([L0.p 0, L1.p 0, .slice (some ⟨kb2b0, 0, none⟩) 64 cb2b0, .int .i64 ((m + 1 : Nat) : Int), d 4, .int .i64 ((m : Nat) : Int), .bool true, .int .i64 ((m : Nat) : Int), .int .i64 ((m + 1 : Nat) : Int), .int .i64 ((m : Nat) : Int), .slice (some ⟨kb2b0, 0, none⟩) 64 cb2b0, .int .i64 ((m : Nat) : Int), .pointer (some ⟨kb2b0, 0 + m * 1, none⟩), .int .u64 ((p64.getD m 0 : Nat) : Int), W32 (kz false m), .pointer (some ⟨(L1.b 0), 0 + m * 1, none⟩), d 16] : List Value).getD zz undef), by kernel_rfl, by omega, by rw [hz_s]; exact hp7⟩
  obtain rfl : m = 8 := by omega
  refine wp_seq_k (fun K11 k11 => ?_)
  refine wp_seq_k (fun K12 k12 => ?_)
  refine gs [.det (.int .i64 ((8 : Nat) : Int)), .det (.bool false)] [0, 1] [0, 1] (fun L => [L0.p 0, L1.p 0, .slice (some ⟨kb2b0, 0, none⟩) 64 cb2b0, .int .i64 ((8 : Nat) : Int), d 4, .int .i64 ((8 : Nat) : Int), .bool false] ++ D d 7 10) (fun L => [(L0.b 0, AW (fun _ => 0) 8), (L1.b 0, AW (hz false 8) 8), (kb2b0, rowu p64)]) hJ ⟨
    oM, oJ .i64 .i64 ((8 : Nat) : Int) 8 (h := fun w => (lssI _ _ _ w).trans (by rw [decide_eq_false (by omega)])),
    trivial⟩ (fun L7 w8 hp8 => ?_)
  refine k12 _ _ ?_
  refine wp_cond_false (by kernel_rfl) ?_
  refine wp_exit ?_
  refine then_exit ?_
  refine then_exit ?_
  refine k6 _ _ _ ?_
  refine exit_in ?_
  refine k4 _ _ ?_
  refine wp_seq_k (fun K13 k13 => ?_)
  refine gs [.det (VW (hz false 8) 8), .store (.base 0) 0 (AW (hz false 8) 8) (AW (hz false 8) 8)] [0, 1] [0, 1] (fun L => [L0.p 0, L1.p 0, .slice (some ⟨kb2b0, 0, none⟩) 64 cb2b0, .int .i64 ((8 : Nat) : Int), d 4, .int .i64 ((8 : Nat) : Int), .bool false] ++ (D d 7 9 ++ [VW (hz false 8) 8])) (fun L => [(L0.b 0, AW (hz false 8) 8), (L1.b 0, AW (hz false 8) 8), (kb2b0, rowu p64)]) hp8 ⟨
    oL 1 0 rW8, oT rW8,
    trivial⟩ (fun L8 w9 hp9 => ?_)
  refine k13 _ _ ?_
  refine wp_ret ?_
  refine bodyPost_ret (v := VW (hz false 8) 8) ?_ rfl ?_
  · exact rc rW8 rfl (by kernel_rfl) (hp9.bound 0 rfl).2
  · exact ⟨rfl, hp9.bel⟩
/-- What the rounds keep. -/
def refRoundsI (cb2b0 : Nat) (w : World) (q0 q1 q2 : Nat) : Nat → Act → World → Prop := fun L a' w' => ∃ (m : Nat) (d : Nat → Value),
  a' = { tmps := ([.pointer (some ⟨q0, 0, none⟩), .pointer (some ⟨q1, 0, none⟩), .slice (some ⟨q2, 0, none⟩) 64 cb2b0, .int .i64 ((m : Nat) : Int)] ++ D d 4 13 : List Value).toArray, defers := [] } ∧ m + L = 64 ∧ Heap w.heap.size w w' [(q0, AW (fun _ => 0) 64), (q1, AW (hz true m) 64), (q2, rowu p64)]

set_option maxHeartbeats 4000000 in
theorem refRounds (w : World) : Calls Try.prog 17 #[] w (Ret (VW (hz true 64) 64) w) := by
  have hp0 := Heap.start w
  go_enter Try.func17, Try.ntmps17
  refine wp_seq_k (fun K1 k1 => ?_)
  refine gs [.alloc (AW (fun _ => 0) 64)] [0] [0] (fun L => [L.p 0] ++ U 16) (fun L => [(L.b 0, AW (fun _ => 0) 64)]) hp0 ⟨
    oZ rW64,
    trivial⟩ (fun L0 w1 hp1 => ?_)
  refine k1 _ _ ?_
  refine wp_seq_k (fun K2 k2 => ?_)
  refine gs [.alloc (AW (fun _ => 0) 64)] [0] [0] (fun L => [L0.p 0, L.p 0] ++ U 15) (fun L => [(L0.b 0, AW (fun _ => 0) 64), (L.b 0, AW (fun _ => 0) 64)]) hp1 ⟨
    oZ rW64,
    trivial⟩ (fun L1 w2 hp2 => ?_)
  refine k2 _ _ ?_
  refine wp_seq_k (fun K3 k3 => ?_)
  refine gsA [.any (isP w.heap.size [L0.b 0, L1.b 0] p64), .detV 0 (fun v => v)] [0, 1] [0, 1] (fun L => [L0.p 0, L1.p 0, L.v 0, undef, L.v 0] ++ U 12) (fun L => [(L0.b 0, AW (fun _ => 0) 64), (L1.b 0, AW (fun _ => 0) 64)]) hp2 ⟨
    oY (fun L => #[]) (fun _ _ _ h hb => h.stay hb) (fun L w hs => newP hs [L0.b 0, L1.b 0] (refPrimes w)), oAV,
    trivial⟩ (fun L2 w3 hp3 ha3 => ?_)
  obtain ⟨kb2b0, cb2b0, eb2b0, qb2b0, ub2b0, xb2b0⟩ := AnyF.at ha3 (j := 0) rfl rfl
  rw [eb2b0]
  have hp32b0 := Heap.add hp3 qb2b0 ub2b0 xb2b0
  refine k3 _ _ ?_
  refine wp_seq_k (fun K4 k4 => ?_)
  refine wp_seq_k (fun K5 k5 => ?_)
  refine gs [.det (.int .i64 0)] [0] [0] (fun L => [L0.p 0, L1.p 0, .slice (some ⟨kb2b0, 0, none⟩) 64 cb2b0, .int .i64 0, .slice (some ⟨kb2b0, 0, none⟩) 64 cb2b0] ++ U 12) (fun L => [(L0.b 0, AW (fun _ => 0) 64), (L1.b 0, AW (fun _ => 0) 64), (kb2b0, rowu p64)]) hp32b0 ⟨
    oA,
    trivial⟩ (fun L3 w4 hp4 => ?_)
  refine k5 _ _ ?_
  refine wp_block_k (fun K6 k6 => ?_)
  refine wp_loop_ghost (refRoundsI cb2b0 w (L0.b 0) (L1.b 0) kb2b0) 64 ⟨0, (fun zz => ([L0.p 0, L1.p 0, .slice (some ⟨kb2b0, 0, none⟩) 64 cb2b0, .int .i64 0, .slice (some ⟨kb2b0, 0, none⟩) 64 cb2b0] ++ U 12 : List Value).getD zz undef), by kernel_rfl, Nat.zero_add _, by rw [hz_0]; exact hp4⟩ ?_
  rintro L a' W ⟨m, d, rfl, hL, hJ⟩
  by_cases hL0 : L = 0
  rotate_left
  · skip
    have hm : m < 64 := by omega
    obtain ⟨hpm, hpn⟩ := p64_at (show m < 64 by omega)
    refine wp_seq_k (fun K7 k7 => ?_)
    refine wp_seq_k (fun K8 k8 => ?_)
    refine gs [.det (.int .i64 ((m : Nat) : Int)), .det (.bool true)] [0, 1] [0, 1] (fun L => [L0.p 0, L1.p 0, .slice (some ⟨kb2b0, 0, none⟩) 64 cb2b0, .int .i64 ((m : Nat) : Int), d 4, .int .i64 ((m : Nat) : Int), .bool true] ++ D d 7 10) (fun L => [(L0.b 0, AW (fun _ => 0) 64), (L1.b 0, AW (hz true m) 64), (kb2b0, rowu p64)]) hJ ⟨
      oM, oJ .i64 .i64 ((m : Nat) : Int) 64 (h := fun w => (lssI _ _ _ w).trans (by rw [decide_eq_true (by omega)])),
      trivial⟩ (fun L4 w5 hp5 => ?_)
    refine k8 _ _ ?_
    refine wp_cond_true (by kernel_rfl) ?_
    refine skips ?_
    refine k7 _ _ ?_
    refine wp_seq_k (fun K9 k9 => ?_)
    refine wp_block_k (fun K10 k10 => ?_)
    refine gs [.det (.int .i64 ((m : Nat) : Int)), .det (.slice (some ⟨kb2b0, 0, none⟩) 64 cb2b0), .det (.int .i64 ((m : Nat) : Int)), .det (.pointer (some ⟨kb2b0, 0 + m * 1, none⟩)), .det (.int .u64 ((p64.getD m 0 : Nat) : Int)), .det (W32 (kz true m)), .det (.pointer (some ⟨(L1.b 0), 0 + m * 1, none⟩)), .store (.base 1) (0 + m * 1) ([W32 (kz true m)]) (AW (wup (hz true m) m (kz true m)) 64)] [0, 1, 2, 3, 4, 5, 6, 7] [0, 0, 0, 6, 14, 30, 63, 127] (fun L => [L0.p 0, L1.p 0, .slice (some ⟨kb2b0, 0, none⟩) 64 cb2b0, .int .i64 ((m : Nat) : Int), d 4, .int .i64 ((m : Nat) : Int), .bool true] ++ (D d 7 2 ++ [.int .i64 ((m : Nat) : Int), .slice (some ⟨kb2b0, 0, none⟩) 64 cb2b0, .int .i64 ((m : Nat) : Int), .pointer (some ⟨kb2b0, 0 + m * 1, none⟩), .int .u64 ((p64.getD m 0 : Nat) : Int), W32 (kz true m), .pointer (some ⟨(L1.b 0), 0 + m * 1, none⟩), d 16])) (fun L => [(L0.b 0, AW (fun _ => 0) 64), (L1.b 0, AW (wup (hz true m) m (kz true m)) 64), (kb2b0, rowu p64)]) hp5 ⟨
      oM, oM, oM, oIS (n := 64) (c := cb2b0) m Try.underlying45 oneU.size (show m < 64 by omega), oLU 2 hpm, oH (v := W32 (kz true m)) (vs := #[.int .u64 ((p64.getD m 0 : Nat) : Int), .bool true]) (fun w _ _ => refPart (p64.getD m 0) true w hpn),
      oIA (k := .i64) m aW64 (by omega), oTA (n := 64) (j := m) (by omega),
      trivial⟩ (fun L5 w6 hp6 => ?_)
    refine k10 _ _ _ ?_
    refine block_normal ?_
    refine k9 _ _ ?_
    refine gs [.det (.int .i64 ((m : Nat) : Int)), .det (.int .i64 ((m + 1 : Nat) : Int)), .det (.int .i64 ((m + 1 : Nat) : Int))] [0, 1, 2] [0, 1, 3] (fun L => [L0.p 0, L1.p 0, .slice (some ⟨kb2b0, 0, none⟩) 64 cb2b0, .int .i64 ((m + 1 : Nat) : Int), d 4, .int .i64 ((m : Nat) : Int), .bool true, .int .i64 ((m : Nat) : Int), .int .i64 ((m + 1 : Nat) : Int), .int .i64 ((m : Nat) : Int), .slice (some ⟨kb2b0, 0, none⟩) 64 cb2b0, .int .i64 ((m : Nat) : Int), .pointer (some ⟨kb2b0, 0 + m * 1, none⟩), .int .u64 ((p64.getD m 0 : Nat) : Int), W32 (kz true m), .pointer (some ⟨(L1.b 0), 0 + m * 1, none⟩), d 16]) (fun L => [(L0.b 0, AW (fun _ => 0) 64), (L1.b 0, AW (wup (hz true m) m (kz true m)) 64), (kb2b0, rowu p64)]) hp6 ⟨
      oM, oJ .i64 .i64 ((m : Nat) : Int) 1 (h := fun w => add1N _ (m) (by omega) w), oA,
      trivial⟩ (fun L6 w7 hp7 => ?_)
    exact ⟨L - 1, by omega, m + 1, (fun zz => ([L0.p 0, L1.p 0, .slice (some ⟨kb2b0, 0, none⟩) 64 cb2b0, .int .i64 ((m + 1 : Nat) : Int), d 4, .int .i64 ((m : Nat) : Int), .bool true, .int .i64 ((m : Nat) : Int), .int .i64 ((m + 1 : Nat) : Int), .int .i64 ((m : Nat) : Int), .slice (some ⟨kb2b0, 0, none⟩) 64 cb2b0, .int .i64 ((m : Nat) : Int), .pointer (some ⟨kb2b0, 0 + m * 1, none⟩), .int .u64 ((p64.getD m 0 : Nat) : Int), W32 (kz true m), .pointer (some ⟨(L1.b 0), 0 + m * 1, none⟩), d 16] : List Value).getD zz undef), by kernel_rfl, by omega, by rw [hz_s]; exact hp7⟩
  obtain rfl : m = 64 := by omega
  refine wp_seq_k (fun K11 k11 => ?_)
  refine wp_seq_k (fun K12 k12 => ?_)
  refine gs [.det (.int .i64 ((64 : Nat) : Int)), .det (.bool false)] [0, 1] [0, 1] (fun L => [L0.p 0, L1.p 0, .slice (some ⟨kb2b0, 0, none⟩) 64 cb2b0, .int .i64 ((64 : Nat) : Int), d 4, .int .i64 ((64 : Nat) : Int), .bool false] ++ D d 7 10) (fun L => [(L0.b 0, AW (fun _ => 0) 64), (L1.b 0, AW (hz true 64) 64), (kb2b0, rowu p64)]) hJ ⟨
    oM, oJ .i64 .i64 ((64 : Nat) : Int) 64 (h := fun w => (lssI _ _ _ w).trans (by rw [decide_eq_false (by omega)])),
    trivial⟩ (fun L7 w8 hp8 => ?_)
  refine k12 _ _ ?_
  refine wp_cond_false (by kernel_rfl) ?_
  refine wp_exit ?_
  refine then_exit ?_
  refine then_exit ?_
  refine k6 _ _ _ ?_
  refine exit_in ?_
  refine k4 _ _ ?_
  refine wp_seq_k (fun K13 k13 => ?_)
  refine gs [.det (VW (hz true 64) 64), .store (.base 0) 0 (AW (hz true 64) 64) (AW (hz true 64) 64)] [0, 1] [0, 1] (fun L => [L0.p 0, L1.p 0, .slice (some ⟨kb2b0, 0, none⟩) 64 cb2b0, .int .i64 ((64 : Nat) : Int), d 4, .int .i64 ((64 : Nat) : Int), .bool false] ++ (D d 7 9 ++ [VW (hz true 64) 64])) (fun L => [(L0.b 0, AW (hz true 64) 64), (L1.b 0, AW (hz true 64) 64), (kb2b0, rowu p64)]) hp8 ⟨
    oL 1 0 rW64, oT rW64,
    trivial⟩ (fun L8 w9 hp9 => ?_)
  refine k13 _ _ ?_
  refine wp_ret ?_
  refine bodyPost_ret (v := VW (hz true 64) 64) ?_ rfl ?_
  · exact rc rW64 rfl (by kernel_rfl) (hp9.bound 0 rfl).2
  · exact ⟨rfl, hp9.bel⟩
set_option maxHeartbeats 4000000 in
theorem refBlk (h : Nat → BitVec 32) (c : Nat → Int) (hc : ∀ i, i < 64 → 0 ≤ c i ∧ c i < 256) (w : World) : Calls Try.prog 12 #[VW h 8, VB c 64] w (Ret (VW (blk h c (hz true 64)) 8) w) := by
  have hp0 := Heap.start w
  go_enter Try.func12, Try.ntmps12
  refine wp_seq_k (fun K1 k1 => ?_)
  refine gs [.alloc (AW h 8), .alloc (BC c 64), .alloc (AW (fun _ => 0) 8)] [0, 1, 2] [0, 0, 0] (fun L => [VW h 8, VB c 64, L.p 0, L.p 1, L.p 2] ++ U 4) (fun L => [(L.b 0, AW h 8), (L.b 1, BC c 64), (L.b 2, AW (fun _ => 0) 8)]) hp0 ⟨
    oB, oB, oZ rW8,
    trivial⟩ (fun L0 w1 hp1 => ?_)
  refine k1 _ _ ?_
  refine wp_seq_k (fun K2 k2 => ?_)
  refine drD [.det (VW h 8), .det (VB c 64), .det (VW (hz true 64) 64), .det (VW (blk h c (hz true 64)) 8), .store (.base 2) 0 (AW (blk h c (hz true 64)) 8) (AW (blk h c (hz true 64)) 8)] [0, 1, 2, 3, 4] [0, 0, 0, 7, 15] (fun L d => D d 0 4 ++ ([L0.p 2] ++ D d 5 4)) (fun L => [(L0.b 0, AW h 8), (L0.b 1, BC c 64), (L0.b 2, AW (blk h c (hz true 64)) 8)]) hp1 ⟨
    oL 0 0 rW8, oL 1 0 rB64, oR refRounds, oR (refBlock h c (hz true 64) hc), oT rW8,
    trivial⟩ (fun L1 _ w2 hp2 => ?_)
  refine k2 _ _ ?_
  refine wp_ret ?_
  refine bodyPost_ret (v := VW (blk h c (hz true 64)) 8) ?_ rfl ?_
  · exact rc rW8 rfl (by kernel_rfl) (hp2.bound 2 rfl).2
  · exact ⟨rfl, hp2.bel⟩
end Go.Proofs.Ytklddcicfeakfaa.fpn
