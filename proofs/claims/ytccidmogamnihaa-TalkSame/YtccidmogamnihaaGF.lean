/- DH DI DJ DK DL DM DV. -/
import Derived.Test.YtccidmogamnihaaGE
import Derived.Test.YtccidmogamnihaaGC
import Derived.Deep.Upon
import Derived.Deep.LoopGhost
/- The reference's first state, its rounds' numbers. -/
namespace Go.Proofs.Ytccidmogamnihaa.fpn
open Go.RowKit Pl
set_option linter.unusedVariables false
set_option linter.unusedSimpArgs false
set_option maxRecDepth 4000

def isP (B : Nat) (bs : List Nat) (l : List Nat) (v : Value) (w : World) : Prop := ∃ k c, v = .slice (some ⟨k, 0, none⟩) 64 c ∧ B ≤ k ∧ (∀ b ∈ bs, b < k) ∧ Box w k (rowu l)
theorem isP.stay {B : Nat} {bs : List Nat} {l : List Nat} {v : Value} {w x : World} (h : isP B bs l v w) (hb : Below w.heap.size w x) : isP B bs l v x := by
  obtain ⟨k, c, e, h1, h2, h3⟩ := h
  exact ⟨k, c, e, h1, h2, h3.up hb⟩
theorem OwnU.box {w : World} {B : Nat} {v : Value} {l : List Nat} (h : OwnU w B v l) (h0 : 0 < l.length) : ∃ k c, v = .slice (some ⟨k, 0, none⟩) l.length c ∧ B ≤ k ∧ Box w k (rowu l) := by
  rcases h.2 with ⟨-, hn⟩ | ⟨g, cap, cur, rfl, hB, hg, hn, hm, hs, ht⟩
  · omega
  · have hc : ∀ (j : Nat) (v : Value), (rowu l)[j]? = some v → w.cell? ⟨g, 0 + j, none⟩ = some v := fun j v e => by
      have hj : j < l.length := by
        have := (List.getElem?_eq_some_iff.1 e).1
        simpa [rowu] using this
      rw [← ht, List.getElem?_take_of_lt (by omega)] at e
      have e' : cur[j]? = some v := by simpa using e
      rw [Nat.zero_add, cell_of_row w g j cur _ _ hg]; exact e'
    refine ⟨g, cap, rfl, hB, (Array.getElem?_eq_some_iff.1 hg).1, hc, fun j hj => ?_⟩
    have hj' : j < (rowu l).length := hj
    exact ⟨by rw [hc j _ (List.getElem?_eq_getElem hj')]; rfl, by rw [Nat.zero_add]; exact frozen_of_row w g j cur _ hg⟩
section
variable {ops : Array Oper} {ks : List Kind} {T : List Nat} {a0 : Act} {B : Nat} {w0 W0 : World} {H : List (Nat × List Value)} {i : Nat} {o : Oper}
theorem newP {L : Lt} {w : World} {fn : FuncId} {vs : Array Value} (hs : Seen ks T B w0 H L i w) (bs : List Nat) (h : Calls Try.prog fn vs w (RetPr w)) (hb : bs = H.map (·.1) := by rfl) : Calls Try.prog fn vs w fun e w' => ∃ v, e = .returned v ∧ isP B bs p64 v w' ∧ Below w.heap.size w w' := by
  refine Calls.mono h fun e w' ⟨v, he, ho, hbl⟩ => ⟨v, he, ?_, hbl⟩
  obtain ⟨k, c, e, h1, h2⟩ := ho.box (by decide)
  refine ⟨k, c, e, Nat.le_trans hs.le h1, fun b hbm => ?_, h2⟩
  subst hb
  obtain ⟨p, hp, rfl⟩ := List.mem_map.1 hbm
  have := (hs.base p hp).lt
  omega
theorem oLU {x : Operand} {b j n : Nat} {l : List Nat} (k : Nat) (hj : l[j]? = some n) (he : Pl.early T ks i = true := by kernel_rfl) (hw : ∀ L, wantedR ks L o = true := by intro _; kernel_rfl) (ho : o.op = .load 32 x := by exact rfl)
    (hb : H[k]? = some (b, rowu l) := by exact rfl) (hx : ∀ L, rd ops ks T a0 L i x = .pointer (some ⟨b, 0 + j * 1, none⟩) := by intro _; kernel_rfl) (hk : kd ks i = .det (.int .u64 (n : Int))) : Obl Try.prog ops ks T a0 B w0 H i o := ⟨ob_det hw hk fun L w hs => by
    have hc := (seen_at (hs he) hb).cells j (.int .u64 (n : Int)) (by unfold rowu; rw [List.getElem?_map, hj]; rfl)
    have : (execOp (rd ops ks T a0 L i) o).run Try.prog w = .ok (.value (.int .u64 (n : Int))) w := by
      unfold execOp
      simp only [ho, hx L, Sem.run_bind, Nat.mul_one, run_load1 oneU hc]
      rfl
    rw [this]
    exact ⟨rfl, Below.refl _ _⟩⟩
end
def kz (cube : Bool) (i : Nat) : BitVec 32 := zx ((pts (p64.getD i 0) cube 37 : Nat) : Int)
def hzR (cube : Bool) : Nat → Nat → BitVec 32
  | 0 => fun _ => 0
  | m + 1 => wup (hzR cube m) m (kz cube m)
@[irreducible] def hz (cube : Bool) (m : Nat) : Nat → BitVec 32 := hzR cube m
theorem hz_0 (cube : Bool) : hz cube 0 = fun _ => 0 := by unfold hz; rfl
theorem hz_s (cube : Bool) (m : Nat) : hz cube (m + 1) = wup (hz cube m) m (kz cube m) := by unfold hz; rfl
theorem hz_at (cube : Bool) : ∀ (m i : Nat), i < m → hz cube m i = kz cube i
  | 0, i, h => by omega
  | m + 1, i, h => by
    rw [hz_s]
    by_cases e : i = m
    · subst e; exact wup_at _ _ _
    · rw [wup_ne e]; exact hz_at cube m i (by omega)
theorem p64_at {i : Nat} (h : i < 64) : p64[i]? = some (p64.getD i 0) ∧ p64.getD i 0 < 65536 := by
  have hl : p64.length = 64 := rfl
  have e : p64.getD i 0 = p64[i] := by rw [List.getD_eq_getElem?_getD, List.getElem?_eq_getElem (show i < p64.length by omega)]; rfl
  refine ⟨by rw [e]; exact List.getElem?_eq_getElem _, ?_⟩
  have : ∀ n ∈ p64, n < 65536 := by decide
  rw [e]; exact this _ (List.getElem_mem _)
def refFirstI (cb2b0 : Nat) (w : World) (q0 q1 q2 : Nat) : Nat → Act → World → Prop := fun L a' w' => ∃ (m : Nat) (d : Nat → Value),
  a' = { tmps := ([.pointer (some ⟨q0, 0, none⟩), .pointer (some ⟨q1, 0, none⟩), .slice (some ⟨q2, 0, none⟩) 64 cb2b0, .int .i64 ((m : Nat) : Int)] ++ D d 4 13 : List Value).toArray, defers := [] } ∧ m + L = 8 ∧ Heap w.heap.size w w' [(q0, AW (fun _ => 0) 8), (q1, AW (hz false m) 8), (q2, rowu p64)]

set_option maxHeartbeats 4000000 in
theorem refFirst (w : World) : Calls Try.prog 26 #[] w (Ret (VW (hz false 8) 8) w) := by
  have hp0 := Heap.start w
  go_enter Try.func26, Try.ntmps26
  refine wp_seq_k (fun K1 k1 => ?_)
  refine gs [.alloc (AW (fun _ => 0) 8)] [0] [0] (fun L => [L.p 0] ++ U 16) (fun L => [(L.b 0, AW (fun _ => 0) 8)]) hp0 ⟨
    oZ rW8,
    trivial⟩ (fun L0 w1 hp1 => ?_)
  refine k1 _ _ ?_
  refine wp_seq_k (fun K2 k2 => ?_)
  refine gs [.alloc (AW (fun _ => 0) 8)] [0] [0] (fun L => [L0.p 0, L.p 0] ++ U 15) (fun L => [(L0.b 0, AW (fun _ => 0) 8), (L.b 0, AW (fun _ => 0) 8)]) hp1 ⟨
    oZ rW8,
    trivial⟩ (fun L1 w2 hp2 => ?_)
  refine k2 _ _ ?_
  refine wp_seq_k (fun K3 k3 => ?_)
  refine gsA [.any (isP w.heap.size [L0.b 0, L1.b 0] p64), .detV 0 (fun v => v)] [0, 1] [0, 1] (fun L => [L0.p 0, L1.p 0, L.v 0, undef, L.v 0] ++ U 12) (fun L => [(L0.b 0, AW (fun _ => 0) 8), (L1.b 0, AW (fun _ => 0) 8)]) hp2 ⟨
    oY (fun L => #[]) (fun _ _ _ h hb => h.stay hb) (fun L w hs => newP hs [L0.b 0, L1.b 0] (refPrimes w)), oAV,
    trivial⟩ (fun L2 w3 hp3 ha3 => ?_)
  obtain ⟨kb2b0, cb2b0, eb2b0, qb2b0, ub2b0, xb2b0⟩ := AnyF.at ha3 (j := 0) rfl rfl
  rw [eb2b0]
  have hp32b0 := Heap.add hp3 qb2b0 ub2b0 xb2b0
  refine k3 _ _ ?_
  refine wp_seq_k (fun K4 k4 => ?_)
  refine wp_seq_k (fun K5 k5 => ?_)
  refine gs [.det (.int .i64 0)] [0] [0] (fun L => [L0.p 0, L1.p 0, .slice (some ⟨kb2b0, 0, none⟩) 64 cb2b0, .int .i64 0, .slice (some ⟨kb2b0, 0, none⟩) 64 cb2b0] ++ U 12) (fun L => [(L0.b 0, AW (fun _ => 0) 8), (L1.b 0, AW (fun _ => 0) 8), (kb2b0, rowu p64)]) hp32b0 ⟨
    oA,
    trivial⟩ (fun L3 w4 hp4 => ?_)
  refine k5 _ _ ?_
  refine wp_block_k (fun K6 k6 => ?_)
  refine wp_loop_ghost (refFirstI cb2b0 w (L0.b 0) (L1.b 0) kb2b0) 8 ⟨0, (fun zz => ([L0.p 0, L1.p 0, .slice (some ⟨kb2b0, 0, none⟩) 64 cb2b0, .int .i64 0, .slice (some ⟨kb2b0, 0, none⟩) 64 cb2b0] ++ U 12 : List Value).getD zz undef), by kernel_rfl, Nat.zero_add _, by rw [hz_0]; exact hp4⟩ ?_
  rintro L a' W ⟨m, d, rfl, hL, hJ⟩
  by_cases hL0 : L = 0
  rotate_left
  · skip
    have hm : m < 8 := by omega
    obtain ⟨hpm, hpn⟩ := p64_at (show m < 64 by omega)
    refine wp_seq_k (fun K7 k7 => ?_)
    refine wp_seq_k (fun K8 k8 => ?_)
    refine gs [.det (.int .i64 ((m : Nat) : Int)), .det (.bool true)] [0, 1] [0, 1] (fun L => [L0.p 0, L1.p 0, .slice (some ⟨kb2b0, 0, none⟩) 64 cb2b0, .int .i64 ((m : Nat) : Int), d 4, .int .i64 ((m : Nat) : Int), .bool true] ++ D d 7 10) (fun L => [(L0.b 0, AW (fun _ => 0) 8), (L1.b 0, AW (hz false m) 8), (kb2b0, rowu p64)]) hJ ⟨
      oM, oJ .i64 .i64 ((m : Nat) : Int) 8 (h := fun w => (lssI _ _ _ w).trans (by rw [decide_eq_true (by omega)])),
      trivial⟩ (fun L4 w5 hp5 => ?_)
    refine k8 _ _ ?_
    refine wp_cond_true (by kernel_rfl) ?_
    refine skips ?_
    refine k7 _ _ ?_
    refine wp_seq_k (fun K9 k9 => ?_)
    refine wp_block_k (fun K10 k10 => ?_)
    refine gs [.det (.int .i64 ((m : Nat) : Int)), .det (.slice (some ⟨kb2b0, 0, none⟩) 64 cb2b0), .det (.int .i64 ((m : Nat) : Int)), .det (.pointer (some ⟨kb2b0, 0 + m * 1, none⟩)), .det (.int .u64 ((p64.getD m 0 : Nat) : Int)), .det (W32 (kz false m)), .det (.pointer (some ⟨(L1.b 0), 0 + m * 1, none⟩)), .store (.base 1) (0 + m * 1) ([W32 (kz false m)]) (AW (wup (hz false m) m (kz false m)) 8)] [0, 1, 2, 3, 4, 5, 6, 7] [0, 0, 0, 6, 14, 30, 63, 127] (fun L => [L0.p 0, L1.p 0, .slice (some ⟨kb2b0, 0, none⟩) 64 cb2b0, .int .i64 ((m : Nat) : Int), d 4, .int .i64 ((m : Nat) : Int), .bool true] ++ (D d 7 2 ++ [.int .i64 ((m : Nat) : Int), .slice (some ⟨kb2b0, 0, none⟩) 64 cb2b0, .int .i64 ((m : Nat) : Int), .pointer (some ⟨kb2b0, 0 + m * 1, none⟩), .int .u64 ((p64.getD m 0 : Nat) : Int), W32 (kz false m), .pointer (some ⟨(L1.b 0), 0 + m * 1, none⟩), d 16])) (fun L => [(L0.b 0, AW (fun _ => 0) 8), (L1.b 0, AW (wup (hz false m) m (kz false m)) 8), (kb2b0, rowu p64)]) hp5 ⟨
      oM, oM, oM, oIS (n := 64) (c := cb2b0) m Try.underlying51 oneU.size (show m < 64 by omega), oLU 2 hpm, oH (v := W32 (kz false m)) (vs := #[.int .u64 ((p64.getD m 0 : Nat) : Int), .bool false]) (fun w _ _ => refPart (p64.getD m 0) false w hpn),
      oIA (k := .i64) m aW8 (by omega), oTA (n := 8) (j := m) (by omega),
      trivial⟩ (fun L5 w6 hp6 => ?_)
    refine k10 _ _ _ ?_
    refine block_normal ?_
    refine k9 _ _ ?_
    refine gs [.det (.int .i64 ((m : Nat) : Int)), .det (.int .i64 ((m + 1 : Nat) : Int)), .det (.int .i64 ((m + 1 : Nat) : Int))] [0, 1, 2] [0, 1, 3] (fun L => [L0.p 0, L1.p 0, .slice (some ⟨kb2b0, 0, none⟩) 64 cb2b0, .int .i64 ((m + 1 : Nat) : Int), d 4, .int .i64 ((m : Nat) : Int), .bool true, .int .i64 ((m : Nat) : Int), .int .i64 ((m + 1 : Nat) : Int), .int .i64 ((m : Nat) : Int), .slice (some ⟨kb2b0, 0, none⟩) 64 cb2b0, .int .i64 ((m : Nat) : Int), .pointer (some ⟨kb2b0, 0 + m * 1, none⟩), .int .u64 ((p64.getD m 0 : Nat) : Int), W32 (kz false m), .pointer (some ⟨(L1.b 0), 0 + m * 1, none⟩), d 16]) (fun L => [(L0.b 0, AW (fun _ => 0) 8), (L1.b 0, AW (wup (hz false m) m (kz false m)) 8), (kb2b0, rowu p64)]) hp6 ⟨
      oM, oJ .i64 .i64 ((m : Nat) : Int) 1 (h := fun w => add1N _ (m) (by omega) w), oA,
      trivial⟩ (fun L6 w7 hp7 => ?_)
    exact ⟨L - 1, by omega, m + 1, (fun zz => ([L0.p 0, L1.p 0, .slice (some ⟨kb2b0, 0, none⟩) 64 cb2b0, .int .i64 ((m + 1 : Nat) : Int), d 4, .int .i64 ((m : Nat) : Int), .bool true, .int .i64 ((m : Nat) : Int), .int .i64 ((m + 1 : Nat) : Int), .int .i64 ((m : Nat) : Int), .slice (some ⟨kb2b0, 0, none⟩) 64 cb2b0, .int .i64 ((m : Nat) : Int), .pointer (some ⟨kb2b0, 0 + m * 1, none⟩), .int .u64 ((p64.getD m 0 : Nat) : Int), W32 (kz false m), .pointer (some ⟨(L1.b 0), 0 + m * 1, none⟩), d 16] : List Value).getD zz undef), by kernel_rfl, by omega, by rw [hz_s]; exact hp7⟩
  obtain rfl : m = 8 := by omega
  refine wp_seq_k (fun K11 k11 => ?_)
  refine wp_seq_k (fun K12 k12 => ?_)
  refine gs [.det (.int .i64 ((8 : Nat) : Int)), .det (.bool false)] [0, 1] [0, 1] (fun L => [L0.p 0, L1.p 0, .slice (some ⟨kb2b0, 0, none⟩) 64 cb2b0, .int .i64 ((8 : Nat) : Int), d 4, .int .i64 ((8 : Nat) : Int), .bool false] ++ D d 7 10) (fun L => [(L0.b 0, AW (fun _ => 0) 8), (L1.b 0, AW (hz false 8) 8), (kb2b0, rowu p64)]) hJ ⟨
    oM, oJ .i64 .i64 ((8 : Nat) : Int) 8 (h := fun w => (lssI _ _ _ w).trans (by rw [decide_eq_false (by omega)])),
    trivial⟩ (fun L7 w8 hp8 => ?_)
  refine k12 _ _ ?_
  refine wp_cond_false (by kernel_rfl) ?_
  refine wp_exit ?_
  refine then_exit ?_
  refine then_exit ?_
  refine k6 _ _ _ ?_
  refine exit_in ?_
  refine k4 _ _ ?_
  refine wp_seq_k (fun K13 k13 => ?_)
  refine gs [.det (VW (hz false 8) 8), .store (.base 0) 0 (AW (hz false 8) 8) (AW (hz false 8) 8)] [0, 1] [0, 1] (fun L => [L0.p 0, L1.p 0, .slice (some ⟨kb2b0, 0, none⟩) 64 cb2b0, .int .i64 ((8 : Nat) : Int), d 4, .int .i64 ((8 : Nat) : Int), .bool false] ++ (D d 7 9 ++ [VW (hz false 8) 8])) (fun L => [(L0.b 0, AW (hz false 8) 8), (L1.b 0, AW (hz false 8) 8), (kb2b0, rowu p64)]) hp8 ⟨
    oL 1 0 rW8, oT rW8,
    trivial⟩ (fun L8 w9 hp9 => ?_)
  refine k13 _ _ ?_
  refine wp_ret ?_
  refine bodyPost_ret (v := VW (hz false 8) 8) ?_ rfl ?_
  · exact rc rW8 rfl (by kernel_rfl) (hp9.bound 0 rfl).2
  · exact ⟨rfl, hp9.bel⟩
def refRoundsI (cb2b0 : Nat) (w : World) (q0 q1 q2 : Nat) : Nat → Act → World → Prop := fun L a' w' => ∃ (m : Nat) (d : Nat → Value),
  a' = { tmps := ([.pointer (some ⟨q0, 0, none⟩), .pointer (some ⟨q1, 0, none⟩), .slice (some ⟨q2, 0, none⟩) 64 cb2b0, .int .i64 ((m : Nat) : Int)] ++ D d 4 13 : List Value).toArray, defers := [] } ∧ m + L = 64 ∧ Heap w.heap.size w w' [(q0, AW (fun _ => 0) 64), (q1, AW (hz true m) 64), (q2, rowu p64)]

set_option maxHeartbeats 4000000 in
theorem refRounds (w : World) : Calls Try.prog 27 #[] w (Ret (VW (hz true 64) 64) w) := by
  have hp0 := Heap.start w
  go_enter Try.func27, Try.ntmps27
  refine wp_seq_k (fun K1 k1 => ?_)
  refine gs [.alloc (AW (fun _ => 0) 64)] [0] [0] (fun L => [L.p 0] ++ U 16) (fun L => [(L.b 0, AW (fun _ => 0) 64)]) hp0 ⟨
    oZ rW64,
    trivial⟩ (fun L0 w1 hp1 => ?_)
  refine k1 _ _ ?_
  refine wp_seq_k (fun K2 k2 => ?_)
  refine gs [.alloc (AW (fun _ => 0) 64)] [0] [0] (fun L => [L0.p 0, L.p 0] ++ U 15) (fun L => [(L0.b 0, AW (fun _ => 0) 64), (L.b 0, AW (fun _ => 0) 64)]) hp1 ⟨
    oZ rW64,
    trivial⟩ (fun L1 w2 hp2 => ?_)
  refine k2 _ _ ?_
  refine wp_seq_k (fun K3 k3 => ?_)
  refine gsA [.any (isP w.heap.size [L0.b 0, L1.b 0] p64), .detV 0 (fun v => v)] [0, 1] [0, 1] (fun L => [L0.p 0, L1.p 0, L.v 0, undef, L.v 0] ++ U 12) (fun L => [(L0.b 0, AW (fun _ => 0) 64), (L1.b 0, AW (fun _ => 0) 64)]) hp2 ⟨
    oY (fun L => #[]) (fun _ _ _ h hb => h.stay hb) (fun L w hs => newP hs [L0.b 0, L1.b 0] (refPrimes w)), oAV,
    trivial⟩ (fun L2 w3 hp3 ha3 => ?_)
  obtain ⟨kb2b0, cb2b0, eb2b0, qb2b0, ub2b0, xb2b0⟩ := AnyF.at ha3 (j := 0) rfl rfl
  rw [eb2b0]
  have hp32b0 := Heap.add hp3 qb2b0 ub2b0 xb2b0
  refine k3 _ _ ?_
  refine wp_seq_k (fun K4 k4 => ?_)
  refine wp_seq_k (fun K5 k5 => ?_)
  refine gs [.det (.int .i64 0)] [0] [0] (fun L => [L0.p 0, L1.p 0, .slice (some ⟨kb2b0, 0, none⟩) 64 cb2b0, .int .i64 0, .slice (some ⟨kb2b0, 0, none⟩) 64 cb2b0] ++ U 12) (fun L => [(L0.b 0, AW (fun _ => 0) 64), (L1.b 0, AW (fun _ => 0) 64), (kb2b0, rowu p64)]) hp32b0 ⟨
    oA,
    trivial⟩ (fun L3 w4 hp4 => ?_)
  refine k5 _ _ ?_
  refine wp_block_k (fun K6 k6 => ?_)
  refine wp_loop_ghost (refRoundsI cb2b0 w (L0.b 0) (L1.b 0) kb2b0) 64 ⟨0, (fun zz => ([L0.p 0, L1.p 0, .slice (some ⟨kb2b0, 0, none⟩) 64 cb2b0, .int .i64 0, .slice (some ⟨kb2b0, 0, none⟩) 64 cb2b0] ++ U 12 : List Value).getD zz undef), by kernel_rfl, Nat.zero_add _, by rw [hz_0]; exact hp4⟩ ?_
  rintro L a' W ⟨m, d, rfl, hL, hJ⟩
  by_cases hL0 : L = 0
  rotate_left
  · skip
    have hm : m < 64 := by omega
    obtain ⟨hpm, hpn⟩ := p64_at (show m < 64 by omega)
    refine wp_seq_k (fun K7 k7 => ?_)
    refine wp_seq_k (fun K8 k8 => ?_)
    refine gs [.det (.int .i64 ((m : Nat) : Int)), .det (.bool true)] [0, 1] [0, 1] (fun L => [L0.p 0, L1.p 0, .slice (some ⟨kb2b0, 0, none⟩) 64 cb2b0, .int .i64 ((m : Nat) : Int), d 4, .int .i64 ((m : Nat) : Int), .bool true] ++ D d 7 10) (fun L => [(L0.b 0, AW (fun _ => 0) 64), (L1.b 0, AW (hz true m) 64), (kb2b0, rowu p64)]) hJ ⟨
      oM, oJ .i64 .i64 ((m : Nat) : Int) 64 (h := fun w => (lssI _ _ _ w).trans (by rw [decide_eq_true (by omega)])),
      trivial⟩ (fun L4 w5 hp5 => ?_)
    refine k8 _ _ ?_
    refine wp_cond_true (by kernel_rfl) ?_
    refine skips ?_
    refine k7 _ _ ?_
    refine wp_seq_k (fun K9 k9 => ?_)
    refine wp_block_k (fun K10 k10 => ?_)
    refine gs [.det (.int .i64 ((m : Nat) : Int)), .det (.slice (some ⟨kb2b0, 0, none⟩) 64 cb2b0), .det (.int .i64 ((m : Nat) : Int)), .det (.pointer (some ⟨kb2b0, 0 + m * 1, none⟩)), .det (.int .u64 ((p64.getD m 0 : Nat) : Int)), .det (W32 (kz true m)), .det (.pointer (some ⟨(L1.b 0), 0 + m * 1, none⟩)), .store (.base 1) (0 + m * 1) ([W32 (kz true m)]) (AW (wup (hz true m) m (kz true m)) 64)] [0, 1, 2, 3, 4, 5, 6, 7] [0, 0, 0, 6, 14, 30, 63, 127] (fun L => [L0.p 0, L1.p 0, .slice (some ⟨kb2b0, 0, none⟩) 64 cb2b0, .int .i64 ((m : Nat) : Int), d 4, .int .i64 ((m : Nat) : Int), .bool true] ++ (D d 7 2 ++ [.int .i64 ((m : Nat) : Int), .slice (some ⟨kb2b0, 0, none⟩) 64 cb2b0, .int .i64 ((m : Nat) : Int), .pointer (some ⟨kb2b0, 0 + m * 1, none⟩), .int .u64 ((p64.getD m 0 : Nat) : Int), W32 (kz true m), .pointer (some ⟨(L1.b 0), 0 + m * 1, none⟩), d 16])) (fun L => [(L0.b 0, AW (fun _ => 0) 64), (L1.b 0, AW (wup (hz true m) m (kz true m)) 64), (kb2b0, rowu p64)]) hp5 ⟨
      oM, oM, oM, oIS (n := 64) (c := cb2b0) m Try.underlying51 oneU.size (show m < 64 by omega), oLU 2 hpm, oH (v := W32 (kz true m)) (vs := #[.int .u64 ((p64.getD m 0 : Nat) : Int), .bool true]) (fun w _ _ => refPart (p64.getD m 0) true w hpn),
      oIA (k := .i64) m aW64 (by omega), oTA (n := 64) (j := m) (by omega),
      trivial⟩ (fun L5 w6 hp6 => ?_)
    refine k10 _ _ _ ?_
    refine block_normal ?_
    refine k9 _ _ ?_
    refine gs [.det (.int .i64 ((m : Nat) : Int)), .det (.int .i64 ((m + 1 : Nat) : Int)), .det (.int .i64 ((m + 1 : Nat) : Int))] [0, 1, 2] [0, 1, 3] (fun L => [L0.p 0, L1.p 0, .slice (some ⟨kb2b0, 0, none⟩) 64 cb2b0, .int .i64 ((m + 1 : Nat) : Int), d 4, .int .i64 ((m : Nat) : Int), .bool true, .int .i64 ((m : Nat) : Int), .int .i64 ((m + 1 : Nat) : Int), .int .i64 ((m : Nat) : Int), .slice (some ⟨kb2b0, 0, none⟩) 64 cb2b0, .int .i64 ((m : Nat) : Int), .pointer (some ⟨kb2b0, 0 + m * 1, none⟩), .int .u64 ((p64.getD m 0 : Nat) : Int), W32 (kz true m), .pointer (some ⟨(L1.b 0), 0 + m * 1, none⟩), d 16]) (fun L => [(L0.b 0, AW (fun _ => 0) 64), (L1.b 0, AW (wup (hz true m) m (kz true m)) 64), (kb2b0, rowu p64)]) hp6 ⟨
      oM, oJ .i64 .i64 ((m : Nat) : Int) 1 (h := fun w => add1N _ (m) (by omega) w), oA,
      trivial⟩ (fun L6 w7 hp7 => ?_)
    exact ⟨L - 1, by omega, m + 1, (fun zz => ([L0.p 0, L1.p 0, .slice (some ⟨kb2b0, 0, none⟩) 64 cb2b0, .int .i64 ((m + 1 : Nat) : Int), d 4, .int .i64 ((m : Nat) : Int), .bool true, .int .i64 ((m : Nat) : Int), .int .i64 ((m + 1 : Nat) : Int), .int .i64 ((m : Nat) : Int), .slice (some ⟨kb2b0, 0, none⟩) 64 cb2b0, .int .i64 ((m : Nat) : Int), .pointer (some ⟨kb2b0, 0 + m * 1, none⟩), .int .u64 ((p64.getD m 0 : Nat) : Int), W32 (kz true m), .pointer (some ⟨(L1.b 0), 0 + m * 1, none⟩), d 16] : List Value).getD zz undef), by kernel_rfl, by omega, by rw [hz_s]; exact hp7⟩
  obtain rfl : m = 64 := by omega
  refine wp_seq_k (fun K11 k11 => ?_)
  refine wp_seq_k (fun K12 k12 => ?_)
  refine gs [.det (.int .i64 ((64 : Nat) : Int)), .det (.bool false)] [0, 1] [0, 1] (fun L => [L0.p 0, L1.p 0, .slice (some ⟨kb2b0, 0, none⟩) 64 cb2b0, .int .i64 ((64 : Nat) : Int), d 4, .int .i64 ((64 : Nat) : Int), .bool false] ++ D d 7 10) (fun L => [(L0.b 0, AW (fun _ => 0) 64), (L1.b 0, AW (hz true 64) 64), (kb2b0, rowu p64)]) hJ ⟨
    oM, oJ .i64 .i64 ((64 : Nat) : Int) 64 (h := fun w => (lssI _ _ _ w).trans (by rw [decide_eq_false (by omega)])),
    trivial⟩ (fun L7 w8 hp8 => ?_)
  refine k12 _ _ ?_
  refine wp_cond_false (by kernel_rfl) ?_
  refine wp_exit ?_
  refine then_exit ?_
  refine then_exit ?_
  refine k6 _ _ _ ?_
  refine exit_in ?_
  refine k4 _ _ ?_
  refine wp_seq_k (fun K13 k13 => ?_)
  refine gs [.det (VW (hz true 64) 64), .store (.base 0) 0 (AW (hz true 64) 64) (AW (hz true 64) 64)] [0, 1] [0, 1] (fun L => [L0.p 0, L1.p 0, .slice (some ⟨kb2b0, 0, none⟩) 64 cb2b0, .int .i64 ((64 : Nat) : Int), d 4, .int .i64 ((64 : Nat) : Int), .bool false] ++ (D d 7 9 ++ [VW (hz true 64) 64])) (fun L => [(L0.b 0, AW (hz true 64) 64), (L1.b 0, AW (hz true 64) 64), (kb2b0, rowu p64)]) hp8 ⟨
    oL 1 0 rW64, oT rW64,
    trivial⟩ (fun L8 w9 hp9 => ?_)
  refine k13 _ _ ?_
  refine wp_ret ?_
  refine bodyPost_ret (v := VW (hz true 64) 64) ?_ rfl ?_
  · exact rc rW64 rfl (by kernel_rfl) (hp9.bound 0 rfl).2
  · exact ⟨rfl, hp9.bel⟩
end Go.Proofs.Ytccidmogamnihaa.fpn

/- The numbers of the primes' roots, told. -/
namespace Go.Proofs.Ytccidmogamnihaa.fpn
open Go.RowKit Pl
set_option linter.unusedVariables false
set_option maxRecDepth 10000
def hT : List (BitVec 32) := [0x6a09e667#32, 0xbb67ae85#32, 0x3c6ef372#32, 0xa54ff53a#32, 0x510e527f#32, 0x9b05688c#32, 0x1f83d9ab#32, 0x5be0cd19#32]
def kT : List (BitVec 32) := [0x428a2f98#32, 0x71374491#32, 0xb5c0fbcf#32, 0xe9b5dba5#32, 0x3956c25b#32, 0x59f111f1#32, 0x923f82a4#32, 0xab1c5ed5#32, 0xd807aa98#32, 0x12835b01#32, 0x243185be#32, 0x550c7dc3#32, 0x72be5d74#32, 0x80deb1fe#32, 0x9bdc06a7#32, 0xc19bf174#32, 0xe49b69c1#32, 0xefbe4786#32, 0xfc19dc6#32, 0x240ca1cc#32, 0x2de92c6f#32, 0x4a7484aa#32, 0x5cb0a9dc#32, 0x76f988da#32, 0x983e5152#32, 0xa831c66d#32, 0xb00327c8#32, 0xbf597fc7#32, 0xc6e00bf3#32, 0xd5a79147#32, 0x6ca6351#32, 0x14292967#32, 0x27b70a85#32, 0x2e1b2138#32, 0x4d2c6dfc#32, 0x53380d13#32, 0x650a7354#32, 0x766a0abb#32, 0x81c2c92e#32, 0x92722c85#32, 0xa2bfe8a1#32, 0xa81a664b#32, 0xc24b8b70#32, 0xc76c51a3#32, 0xd192e819#32, 0xd6990624#32, 0xf40e3585#32, 0x106aa070#32, 0x19a4c116#32, 0x1e376c08#32, 0x2748774c#32, 0x34b0bcb5#32, 0x391c0cb3#32, 0x4ed8aa4a#32, 0x5b9cca4f#32, 0x682e6ff3#32, 0x748f82ee#32, 0x78a5636f#32, 0x84c87814#32, 0x8cc70208#32, 0x90befffa#32, 0xa4506ceb#32, 0xbef9a3f7#32, 0xc67178f2#32]
theorem kz_false : ∀ i, i < 8 → kz false i = hT.getD i 0 := by decide +kernel
theorem kz_true : ∀ i, i < 64 → kz true i = kT.getD i 0 := by decide +kernel
theorem first_at {i : Nat} (h : i < 8) : hz false 8 i = hT.getD i 0 := (hz_at false 8 i h).trans (kz_false i h)
theorem rounds_at {i : Nat} (h : i < 64) : hz true 64 i = kT.getD i 0 := (hz_at true 64 i h).trans (kz_true i h)
theorem rr_congr {h k k' w : Nat → BitVec 32} (e : ∀ i, i < 64 → k i = k' i) : ∀ m, m ≤ 64 → rr h k w m = rr h k' w m
  | 0, _ => by rw [rr_0, rr_0]
  | m + 1, hm => by rw [rr_s, rr_s, rr_congr e m (by omega), e m (by omega)]
theorem blk_congr {h k k' : Nat → BitVec 32} {c : Nat → Int} (e : ∀ i, i < 64 → k i = k' i) : blk h c k = blk h c k' := by
  unfold blk; rw [rr_congr e 64 (Nat.le_refl _)]
end Go.Proofs.Ytccidmogamnihaa.fpn

/- Digests: the bytes that are hashed, block by block; a byte more behind a row of one's own. -/
namespace Go.Proofs.Ytccidmogamnihaa.fpn
open Go.RowKit Pl
set_option linter.unusedVariables false
set_option linter.unusedSimpArgs false
set_option maxRecDepth 4000

def isY1 (x : Int) (v : Value) (w : World) : Prop := ∃ k : Nat, v = .slice (some ⟨k, 0, none⟩) 1 1 ∧ w.cell? ⟨k, 0, none⟩ = some (.int .u8 x)
section
variable {ops : Array Oper} {ks : List Kind} {T : List Nat} {a0 : Act} {B : Nat} {w0 W0 : World} {H : List (Nat × List Value)} {i : Nat} {o : Oper}
theorem oY1 {x : Operand} {n : Int} (hw : ∀ L, wantedR ks L o = true := by intro _; kernel_rfl) (ho : o.op = .buildSlice 29 1 #[(0, x)] := by exact rfl)
    (hx : ∀ L, rd ops ks T a0 L i x = .int .u8 n := by intro _; kernel_rfl) (hk : kd ks i = .any (isY1 n)) : Obl Try.prog ops ks T a0 B w0 H i o := ⟨fun L w hsn => by
  rw [if_pos (hw L), hk]
  refine ⟨fun v w x h hb => ?_, ?_⟩
  · obtain ⟨k, e, h⟩ := h
    exact ⟨k, e, (hb.cell (p := ⟨k, 0, none⟩) (cell_lt h)).trans h⟩
  obtain ⟨ie, hi, hz, h1, h2⟩ := infoY
  have hr : (Instr.buildSlice 29 1 #[(0, .int .u8 n)]).run Try.prog w = .ok (.slice (some ⟨w.heap.size, 0, none⟩) 1 1) (w.alloc (.cells #[.int .u8 n] 5)) :=
    run_buildSlice w _ _ 1 _ _ ie _ Try.underlying29 hi hz (by rw [h1]; decide) (by rw [h1]; decide) (by rw [h1]; kernel_rfl)
  have this : (execOp (rd ops ks T a0 L i) o).run Try.prog w = .ok (.value (.slice (some ⟨w.heap.size, 0, none⟩) 1 1)) (w.alloc (.cells #[.int .u8 n] 5)) := by
    unfold execOp
    have h1 : (#[((0 : Nat), x)].map fun p => (p.1, rd ops ks T a0 L i p.2)) = #[(0, .int .u8 n)] := by simp [hx L]
    simp only [ho, h1, Sem.run_bind, hr]
    rfl
  rw [this]
  exact ⟨⟨w.heap.size, rfl, (Box.new w [.int .u8 n] 5).cells 0 _ rfl⟩, (Below.refl _ _).alloc (Nat.le_refl _) _⟩⟩
end
def padN (n : Nat) : Nat := ((n + 8) / 64 + 1) * 64
theorem padN_mod (n : Nat) : padN n % 64 = 0 := by unfold padN; omega
theorem padN_ge (n : Nat) : n + 9 ≤ padN n ∧ padN n < n + 73 := by unfold padN; omega
theorem pad_at {n z : Nat} (h : n + 1 + z < padN n - 8) : (n + 1 + z) % 64 ≠ 56 := by unfold padN at h; omega
theorem pad_end (n : Nat) : (padN n - 8) % 64 = 56 := by unfold padN; omega
@[irreducible] def pd (g : Nat → Int) (n : Nat) : Nat → Int := fun j =>
  if j < n then g j else if j = n then 128 else if j < padN n - 8 then 0 else ((n * 8 / 2 ^ (8 * (padN n - 1 - j)) % 256 : Nat) : Int)
theorem pd_b (g : Nat → Int) {n j : Nat} (h : j < n) : pd g n j = g j := by unfold pd; rw [if_pos h]
theorem pd_1 (g : Nat → Int) (n : Nat) : pd g n n = 128 := by unfold pd; rw [if_neg (by omega), if_pos rfl]
theorem pd_0 (g : Nat → Int) {n j : Nat} (h : n < j) (h2 : j < padN n - 8) : pd g n j = 0 := by unfold pd; rw [if_neg (by omega), if_neg (by omega), if_pos h2]
theorem pd_l (g : Nat → Int) {n q : Nat} (h : q < 8) : pd g n (padN n - 8 + q) = ((n * 8 / 2 ^ (8 * (7 - q)) % 256 : Nat) : Int) := by
  have := padN_ge n
  unfold pd
  rw [if_neg (by omega), if_neg (by omega), if_neg (by omega), show padN n - 1 - (padN n - 8 + q) = 7 - q by omega]
theorem pd_rg {g : Nat → Int} {n : Nat} (hg : ∀ j, j < n → 0 ≤ g j ∧ g j < 256) (j : Nat) : 0 ≤ pd g n j ∧ pd g n j < 256 := by
  unfold pd
  split
  · exact hg j (by assumption)
  · split
    · omega
    · split <;> omega
def hsR (g : Nat → Int) (n : Nat) : Nat → Nat → BitVec 32
  | 0 => hz false 8
  | j + 1 => blk (hsR g n j) (fun i => pd g n (64 * j + i)) (hz true 64)
@[irreducible] def hsx (g : Nat → Int) (n j : Nat) : Nat → BitVec 32 := hsR g n j
theorem hsx_0 (g : Nat → Int) (n : Nat) : hsx g n 0 = hz false 8 := by unfold hsx; rfl
theorem hsx_s (g : Nat → Int) (n j : Nat) : hsx g n (j + 1) = blk (hsx g n j) (fun i => pd g n (64 * j + i)) (hz true 64) := by unfold hsx; rfl
def ob (h : Nat → BitVec 32) (i : Nat) : Int := ((h (i / 4) >>> (24 - 8 * (i % 4))).toNat : Int) % 256
def dig (g : Nat → Int) (n : Nat) : Nat → Int := ob (hsx g n (padN n / 64))
theorem OwnY.to {w : World} {B : Nat} {v : Value} {f g : Nat → Int} {m n : Nat} (h : OwnY w B v f m) (e : m = n) (c : ∀ j, j < n → f j = g j) : OwnY w B v g n := by subst e; exact h.congr c
theorem wp_appendY1 {Q : Exit → Act → World → Prop} {o : Oper} {a : Act} {w : World} {K : Act → World → Prop} (s x : Operand) (ho : o.op = .call { callee := .builtin .append, args := #[s, x], argTypes := #[29, 29] })
    {B : Nat} {v u : Value} {f : Nat → Int} {m : Nat} {y : Int} (hs : a.eval s = v) (hown : OwnY w B v f m) (hx : a.eval x = u) (hu : isY1 y u w) (hy : f m = y) (hl : m + 1 ≤ 1000) (hB : B ≤ w.heap.size)
    (h : ∀ v' w', OwnY w' B v' f (m + 1) → Below B w w' → K (a.put o.dst v') w') : o.wp Try.prog a w K Q := by
  obtain ⟨k, rfl, hc⟩ := hu
  refine wp_appendY (ad := ⟨k, 0, none⟩) (n := 1) (c := 1) (g := fun _ => y) s x ho hs hown hx (fun j hj => ?_) hl hB (fun v' w' ho' hb => h v' w' (ho'.congr fun j hj => ?_) hb)
  · obtain rfl : j = 0 := by omega
    rw [Addr.add_mid]; exact hc
  · unfold cat
    cases e : Nat.blt j m
    · have : j = m := by
        have : ¬ j < m := fun hh => by rw [show Nat.blt j m = true from by simpa using hh] at e; cases e
        omega
      subst this
      exact hy.symm
    · rfl
theorem wp_appendE {Q : Exit → Act → World → Prop} {o : Oper} {a : Act} {w : World} {K : Act → World → Prop} (s x : Operand) (ho : o.op = .call { callee := .builtin .append, args := #[s, x], argTypes := #[29, 29] })
    {B : Nat} {v : Value} {f g : Nat → Int} {n c : Nat} {p : Option Addr} (hs : a.eval s = v) (hown : OwnY w B v f 0) (hv : ∃ ad c, v = .slice (some ad) 0 c) (hx : a.eval x = .slice p n c) (hc : AtK .u8 w p n g) (hl : n ≤ 1000) (hB : B ≤ w.heap.size) (hf : ∀ j, j < n → f j = g j)
    (h : ∀ v' w', OwnY w' B v' f n → Below B w w' → K (a.put o.dst v') w') : o.wp Try.prog a w K Q := by
  by_cases h0 : 0 < n
  · obtain ⟨b, off, rfl, hcc⟩ := hc h0
    refine wp_appendY (ad := ⟨b, off, none⟩) (n := n) (c := c) (g := g) s x ho hs hown hx (fun j hj => ?_) (by omega) hB (fun v' w' ho' hb => h v' w' (ho'.to (Nat.zero_add n) fun j hj => ?_) hb)
    · rw [Addr.add_mid]; exact hcc j hj
    · unfold cat
      rw [show Nat.blt j 0 = false from rfl]
      exact (hf j hj).symm
  · obtain rfl : n = 0 := by omega
    obtain ⟨ad, c2, rfl⟩ := hv
    obtain ⟨i, hi, hz, h1, h2⟩ := infoY
    have hle : 0 ≤ c2 := Nat.zero_le _
    have hr := run_append_nothing (P := Try.prog) w 29 29 o.type 5 i Try.underlying29 hi (some ad) 0 c2 hle (.slice p 0 c) (by
      cases p with
      | none => exact Src.ofNil w Try.underlying29 c
      | some q => exact Src.ofSlice w Try.underlying29 q 0 c [] (by simp) (fun j u hj => by simp at hj) (fun u hu => by cases hu))
    unfold Oper.wp execOp
    simp only [ho, resolve, invoke, builtin, Sem.run_bind, Sem.run_pure, Result.andThen_ok, List.map_toArray, List.map_cons, List.map_nil, hs, hx, hr]
    exact h _ _ hown (Below.refl _ _)
end Go.Proofs.Ytccidmogamnihaa.fpn

/- The reference's digests. -/
namespace Go.Proofs.Ytccidmogamnihaa.fpn
open Go.RowKit Pl
set_option linter.unusedVariables false
set_option linter.unusedSimpArgs false
set_option maxRecDepth 4000

theorem tail1 {P : Program} {ops : Array Oper} {Q : Exit → Act → World → Prop} {k : Nat} {a : Act} {w : World} (hr : List.range' k (ops.size - k) = [k]) (h : wpOp P ops Q k (fun a' w' => Q .normal a' w') a w) : wpOps P ops Q (List.range' k (ops.size - k)) a w := by
  rw [hr, wpOps_cons]
  exact h
theorem wp_emptyY {Q : Exit → Act → World → Prop} {o : Oper} {a : Act} {w : World} {K : Act → World → Prop} {f : Nat → Int} (ho : o.op = .buildSlice 29 0 #[])
    (h : ∀ w', OwnY w' w.heap.size (.slice (some ⟨w.heap.size, 0, none⟩) 0 0) f 0 → Below w.heap.size w w' → K (a.put o.dst (.slice (some ⟨w.heap.size, 0, none⟩) 0 0)) w') : o.wp Try.prog a w K Q := by
  obtain ⟨i0, hi0, hz0, hz1, hz2⟩ := info_parts info8
  have this : (execOp a.eval o).run Try.prog w = .ok (.value (.slice (some ⟨w.heap.size, 0, none⟩) 0 0)) (w.alloc (.cells #[] 5)) := by
    unfold execOp
    simp [ho, Instr.buildSlice, Sem.run_bind, run_underlying Try.underlying29, sizeOf, typeInfo, hi0, hz1, Instr.fill, newRow]
    rw [show Array.map (fun _ : Nat => (default : Value)) (Array.range 0) = #[] from Array.eq_empty_of_size_eq_zero (by simp)]
  unfold Oper.wp
  rw [this]
  exact h _ ⟨rfl, Or.inr ⟨w.heap.size, 0, #[], rfl, Nat.le_refl _, heap_alloc_new w _, Nat.le_refl _, Nat.zero_le _, rfl, rfl⟩⟩ ((Below.refl _ _).alloc (Nat.le_refl _) _)
theorem wp_copy64 {Q : Exit → Act → World → Prop} {o : Oper} {a : Act} {w : World} {K : Act → World → Prop} (d s : Operand) (ho : o.op = .call { callee := .builtin .copy, args := #[d, s], argTypes := #[29, 29] }) {b c1 c2 : Nat} {f g : Nat → Int} {ad : Addr}
    (hd : a.eval d = .slice (some ⟨b, 0, none⟩) 64 c1) (hs : a.eval s = .slice (some ad) 64 c2) (hbx : Box w b (BC f 64)) (hc : ∀ j, j < 64 → w.cell? (ad.add j) = some (.int .u8 (g j)))
    (h : ∀ w', Wr b w w' → Box w' b (BC g 64) → K (a.put o.dst (.int .i64 64)) w') : o.wp Try.prog a w K Q := by
  have hl : (BC g 64).length = 64 := BC_len g 64
  have hrun := run_copy_cells (P := Try.prog) w 29 29 o.type 5 b 0 64 c1 ad 64 c2 (BC g 64) Try.underlying29 sizeY hl
    (fun j v hv => by
      have hj : j < 64 := by have := (List.getElem?_eq_some_iff.1 hv).1; rwa [hl] at this
      rw [BC_at hj] at hv
      obtain rfl : Value.int .u8 (g j) = v := by simpa using hv
      exact hc j hj)
    (fun j hj => (hbx.free j (by rw [BC_len]; rw [hl] at hj; exact hj)).1) (fun j hj => (hbx.free j (by rw [BC_len]; rw [hl] at hj; exact hj)).2) (BC_one g 64)
  unfold Oper.wp execOp
  simp only [ho, resolve, invoke, builtin, Sem.run_bind, Sem.run_pure, Result.andThen_ok, List.map_toArray, List.map_cons, List.map_nil, hd, hs, hrun]
  have e := Box.set hbx (off := 0) (cs := BC g 64) (by rw [BC_len, BC_len]; omega)
  have e2 : Pl.splice (BC f 64) 0 (BC g 64) = BC g 64 := by unfold Pl.splice; rw [List.take_zero, List.nil_append, List.drop_of_length_le (by rw [BC_len, BC_len]; omega), List.append_nil]
  rw [e2] at e
  exact h _ (Wr.set b (BC g 64) 0 w) e
theorem Heap.turnL {B b : Nat} {c d : List Value} {w0 w x : World} {H : List (Nat × List Value)} (h : Heap B w0 w (H ++ [(b, c)])) (hw : Wr b w x) (hx : Box x b d) : Heap B w0 x (H ++ [(b, d)]) := by
  have hb : B ≤ b := (h.box (b, c) (List.mem_append_right _ (List.mem_singleton.2 rfl))).1
  refine ⟨h.bel.trans (hw.below hb), fun p hp => ?_, by have := h.nd; rw [List.map_append] at this ⊢; exact this, by rw [hw.size]; exact h.le⟩
  rcases List.mem_append.1 hp with h1 | h1
  · have hm := h.box p (List.mem_append_left _ h1)
    refine ⟨hm.1, hm.2.wr hw fun e => ?_⟩
    have nd := h.nd
    rw [List.map_append, List.nodup_append] at nd
    exact nd.2.2 p.1 (List.mem_map.2 ⟨p, h1, rfl⟩) b (by simp) e
  · obtain rfl : p = (b, d) := by simpa using h1
    exact ⟨hb, hx⟩
section
variable {ops : Array Oper} {ks : List Kind} {T : List Nat} {a0 : Act} {B : Nat} {w0 W0 : World} {H : List (Nat × List Value)} {i : Nat} {o : Oper}
theorem oSB {x lo hi : Operand} {b len c l h : Nat} (hl : l ≤ h) (hh : h ≤ len) (hlc : len ≤ c) (hne : l < c) (hw : ∀ L, wantedR ks L o = true := by intro _; kernel_rfl) (ho : o.op = .slice 29 x (some lo) (some hi) none := by exact rfl)
    (hx : ∀ L, rd ops ks T a0 L i x = .slice (some ⟨b, 0, none⟩) len c := by intro _; kernel_rfl) (hlo : ∀ L, rd ops ks T a0 L i lo = .int .i64 (l : Int) := by intro _; kernel_rfl) (hhi : ∀ L, rd ops ks T a0 L i hi = .int .i64 (h : Int) := by intro _; kernel_rfl) (hk : kd ks i = .det (.slice (some ⟨b, l, none⟩) (h - l) (c - l))) : Obl Try.prog ops ks T a0 B w0 H i o := ⟨ob_pure hw hk fun L w => by
    have h1 : (0 : Int) ≤ (l : Int) ∧ (l : Int) ≤ (h : Int) := ⟨by omega, by omega⟩
    have h2 : ¬ c = l := by omega
    have h3 : (0 : Int) ≤ (h : Int) ∧ (h : Int) ≤ (c : Int) := ⟨by omega, by omega⟩
    have h4 : h ≤ c := by omega
    have hsz : (sizeOf 5).run Try.prog w = .ok 1 w := size_of sizeY w
    unfold execOp
    simp [ho, hx L, hlo L, hhi L, Instr.sliceAt, Instr.slice, Instr.sliceBounds, Instr.sliceBound, asIntOf, Sem.run_bind, run_underlying Try.underlying29, hsz, hl, h4, h2, Addr.add_mid]⟩
end
theorem convIU (a : Nat) (h : a < 1000000) (w : World) : (convert 3 32 (.int .i64 (a : Int))).run Try.prog w = .ok (.int .u64 (a : Int)) w := by
  have e : IntKind.u64.wrap (a : Int) = (a : Int) := by unfold IntKind.wrap; simp [IntKind.bits, IntKind.signed]; omega
  simp [convert, run_underlying Try.underlying3, run_underlying Try.underlying32, Conv.intToInt, e, Sem.run_bind]
theorem convUB (a : Nat) (w : World) : (convert 32 5 (.int .u64 (a : Int))).run Try.prog w = .ok (.int .u8 ((a % 256 : Nat) : Int)) w := by
  have e : IntKind.u8.wrap (a : Int) = ((a % 256 : Nat) : Int) := by unfold IntKind.wrap; simp [IntKind.bits, IntKind.signed]
  simp [convert, run_underlying Try.underlying5, run_underlying Try.underlying32, Conv.intToInt, e, Sem.run_bind]
theorem convWB (x : BitVec 32) (w : World) : (convert 53 5 (W32 x)).run Try.prog w = .ok (.int .u8 ((x.toNat : Int) % 256)) w := by
  have e : IntKind.u8.wrap (x.toNat : Int) = (x.toNat : Int) % 256 := by unfold IntKind.wrap; simp [IntKind.bits, IntKind.signed]
  unfold W32
  simp [convert, run_underlying Try.underlying5, run_underlying Try.underlying53, Conv.intToInt, e, Sem.run_bind]
theorem mulU (t : TypeId) (a b : Nat) (h : a * b < 18446744073709551616) (w : World) : (binOp .mul t (.int .u64 (a : Int)) (.int .u64 (b : Int))).run Try.prog w = .ok (.int .u64 ((a * b : Nat) : Int)) w := by
  have e2 : (a : Int) * (b : Int) = ((a * b : Nat) : Int) := by norm_cast
  have e : IntKind.u64.wrap ((a : Int) * (b : Int)) = ((a * b : Nat) : Int) := by
    rw [e2]; unfold IntKind.wrap; simp [IntKind.bits, IntKind.signed]; omega
  simp only [binOp, Op.intArith, e]; simp [Sem.run_bind, e]
theorem shrUN (t : TypeId) (a n : Nat) (hn : n < 64) (w : World) : (binOp .shr t (.int .u64 (a : Int)) (.int .i64 (n : Int))).run Try.prog w = .ok (.int .u64 ((a / 2 ^ n : Nat) : Int)) w := by
  have e : (a : Int) / 2 ^ n = ((a / 2 ^ n : Nat) : Int) := by norm_cast
  rw [← e]
  exact shrN t (a : Int) n (by omega) w
theorem mul8I (t : TypeId) (m : Nat) (h : m < 8) (w : World) : (binOp .mul t (.int .i64 8) (.int .i64 (7 - (m : Int)))).run Try.prog w = .ok (.int .i64 ((8 * (7 - m) : Nat) : Int)) w := by
  have e : IntKind.i64.wrap (8 * (7 - (m : Int))) = ((8 * (7 - m) : Nat) : Int) := by unfold IntKind.wrap; simp [IntKind.bits, IntKind.signed]; omega
  simp only [binOp, Op.intArith, e]; simp [Sem.run_bind, e]
theorem subI7 (t : TypeId) (m : Nat) (h : m < 1000) (w : World) : (binOp .sub t (.int .i64 (7 - (m : Int))) (.int .i64 1)).run Try.prog w = .ok (.int .i64 (7 - ((m + 1 : Nat) : Int))) w := by
  have e : IntKind.i64.wrap (7 - (m : Int) - 1) = 7 - ((m + 1 : Nat) : Int) := by unfold IntKind.wrap; simp [IntKind.bits, IntKind.signed]; omega
  simp only [binOp, Op.intArith, e]; simp [Sem.run_bind, e]
theorem addII (t : TypeId) (a b q : Nat) (hq : a + b = q) (h : q < 1000000) (w : World) : (binOp .add t (.int .i64 (a : Int)) (.int .i64 (b : Int))).run Try.prog w = .ok (.int .i64 (q : Int)) w := by
  have e : IntKind.i64.wrap ((a : Int) + (b : Int)) = (q : Int) := by unfold IntKind.wrap; simp [IntKind.bits, IntKind.signed]; omega
  simp only [binOp, Op.intArith, e]; simp [Sem.run_bind, e]
theorem mulII (t : TypeId) (a b q : Nat) (hq : a * b = q) (h : q < 1000000) (w : World) : (binOp .mul t (.int .i64 (a : Int)) (.int .i64 (b : Int))).run Try.prog w = .ok (.int .i64 (q : Int)) w := by
  have e2 : (a : Int) * (b : Int) = (q : Int) := by rw [← hq]; norm_cast
  have e : IntKind.i64.wrap ((a : Int) * (b : Int)) = (q : Int) := by rw [e2]; unfold IntKind.wrap; simp [IntKind.bits, IntKind.signed]; omega
  simp only [binOp, Op.intArith, e]; simp [Sem.run_bind, e]
def obxR (h : Nat → BitVec 32) : Nat → Nat → Int
  | 0 => fun _ => 0
  | m + 1 => su (obxR h m) m (ob h m)
@[irreducible] def obx (h : Nat → BitVec 32) (m : Nat) : Nat → Int := obxR h m
theorem obx_0 (h : Nat → BitVec 32) : obx h 0 = fun _ => 0 := by unfold obx; rfl
theorem obx_s (h : Nat → BitVec 32) (m : Nat) : obx h (m + 1) = su (obx h m) m (ob h m) := by unfold obx; rfl
theorem obx_at (h : Nat → BitVec 32) : ∀ (m i : Nat), i < m → obx h m i = ob h i
  | 0, i, hi => by omega
  | m + 1, i, hi => by
    rw [obx_s]
    by_cases e : i = m
    · subst e; exact su_at _ _ _
    · rw [su_ne e]; exact obx_at h m i (by omega)
def dgI1 (W2 : World) (g : Nat → Int) (n b0 : Nat) : Nat → Act → World → Prop := fun L a' w' => ∃ (m : Nat) (d : Nat → Value) (v : Value),
  a' = { tmps := ([v, d 1, .pointer (some ⟨b0, 0, none⟩), .int .u64 ((n * 8 : Nat) : Int)] ++ D d 4 71 : List Value).toArray, defers := [] } ∧ m + L = padN n - 9 - n ∧ OwnY w' W2.heap.size v (pd g n) (n + 1 + m) ∧ Below W2.heap.size W2 w'

def dgI2 (W2 : World) (g : Nat → Int) (n b0 : Nat) : Nat → Act → World → Prop := fun L a' w' => ∃ (m : Nat) (d : Nat → Value) (v : Value),
  a' = { tmps := ([v, d 1, .pointer (some ⟨b0, 0, none⟩), .int .u64 ((n * 8 : Nat) : Int), .int .i64 (7 - ((m : Nat) : Int))] ++ D d 5 70 : List Value).toArray, defers := [] } ∧ m + L = 8 ∧ OwnY w' W2.heap.size v (pd g n) ((padN n - 8) + m) ∧ Below W2.heap.size W2 w'

def dgI3 (g : Nat → Int) (n l cc : Nat) (w : World) (q0 q1 q2 q3 : Nat) : Nat → Act → World → Prop := fun L a' w' => ∃ (m : Nat) (d : Nat → Value),
  a' = { tmps := ([.slice (some ⟨q1, 0, none⟩) l cc, d 1, .pointer (some ⟨q0, 0, none⟩)] ++ (D d 3 2 ++ ([.pointer (some ⟨q2, 0, none⟩), .pointer (some ⟨q3, 0, none⟩), .int .i64 ((64 * (m) : Nat) : Int)] ++ D d 8 67)) : List Value).toArray, defers := [] } ∧ m + L = (l / 64) ∧ Heap w.heap.size w w' [(q0, BC (fun _ => 0) 32), (q1, BC (pd g n) l), (q2, AW (hsx g n m) 8), (q3, AW (hz true 64) 64)]

def dgI4 (g : Nat → Int) (n l cc : Nat) (S : Nat → BitVec 32) (w : World) (q0 q1 q2 q3 q4 : Nat) : Nat → Act → World → Prop := fun L a' w' => ∃ (m : Nat) (d : Nat → Value),
  a' = { tmps := (D d 0 2 ++ ([.pointer (some ⟨q0, 0, none⟩)] ++ (D d 3 2 ++ ([.pointer (some ⟨q2, 0, none⟩)] ++ (D d 6 3 ++ ([.pointer (some ⟨q4, 0, none⟩), .int .i64 ((m : Nat) : Int)] ++ D d 11 64))))) : List Value).toArray, defers := [] } ∧ m + L = 32 ∧ Heap w.heap.size w w' [(q0, BC (fun _ => 0) 32), (q1, BC (pd g n) l), (q2, AW S 8), (q3, AW (hz true 64) 64), (q4, BC (obx S m) 32)]

set_option maxHeartbeats 4000000 in
theorem refDigest (g : Nat → Int) (p : Option Addr) (n c : Nat) (w : World) (hn : n ≤ 400) (hp : AtK .u8 w p n g) (hg : ∀ j, j < n → 0 ≤ g j ∧ g j < 256) : Calls Try.prog 16 #[.slice p n c] w (Ret (VB (dig g n) 32) w) := by
  have hp0 := Heap.start w
  go_enter Try.func16, Try.ntmps16
  refine wp_seq_k (fun K1 k1 => ?_)
  refine gs [.alloc (BC (fun _ => 0) 32)] [0] [0] (fun L => [.slice p n c, undef, L.p 0] ++ U 72) (fun L => [(L.b 0, BC (fun _ => 0) 32)]) hp0 ⟨
    oZ rB32,
    trivial⟩ (fun L0 w1 hp1 => ?_)
  refine k1 _ _ ?_
  refine wp_seq_k (fun K2 k2 => ?_)
  refine gs [.det (.slice p n c), .det (.int .i64 n), .det (.int .u64 ((n : Nat) : Int)), .det (.int .u64 ((n * 8 : Nat) : Int)), .det (.int .u64 ((n * 8 : Nat) : Int))] [0, 1, 2, 3, 4] [0, 1, 3, 7, 15] (fun L => [.slice p n c, undef, L0.p 0, .int .u64 ((n * 8 : Nat) : Int)] ++ (U 7 ++ ([.slice p n c, .int .i64 n, .int .u64 ((n : Nat) : Int), .int .u64 ((n * 8 : Nat) : Int)] ++ U 60))) (fun L => [(L0.b 0, BC (fun _ => 0) 32)]) hp1 ⟨
    oM, fun h => ⟨ob_len (p := p) (n := n) (c := c) (fun _ => rfl) h rfl (fun _ => by kernel_rfl) Try.underlying29⟩, oCv (fun w => convIU n (by omega) w),
    oJ .u64 .u64 ((n : Nat) : Int) 8 (h := fun w => mulU _ n 8 (by omega) w), oA,
    trivial⟩ (fun L1 w2 hp2 => ?_)
  refine k2 _ _ ?_
  refine wp_seq_k (fun K3 k3 => ?_)
  have hC : w.heap.size ≤ w2.heap.size := hp2.le
  have hlt := Heap.lts hp2
  refine wp_region_list ?_
  refine oneL rfl rfl (wp_emptyY (f := pd g n) rfl (fun x1 ho0 hb0 => ?_))
  have hs1 := Heap.start x1
  refine gsC 1 [.det (.slice p n c)] [0] [0] (fun L _ => [.slice p n c, undef, L0.p 0, .int .u64 ((n * 8 : Nat) : Int), undef, undef, undef, undef, undef, undef, undef, .slice p n c, .int .i64 n, .int .u64 ((n : Nat) : Int), .int .u64 ((n * 8 : Nat) : Int), .slice (some ⟨w2.heap.size, 0, none⟩) 0 0, .slice p n c] ++ U 58) (fun L => []) hs1 ⟨
    oM,
    trivial⟩ (fun L2 _ w3 hp3 ha3 => ?_)
  refine oneL rfl rfl (wp_appendE (.tmp 15) (.tmp 16) rfl (v := .slice (some ⟨w2.heap.size, 0, none⟩) 0 0) (g := g) (p := p) (n := n) (c := c) (by kernel_rfl) (ho0.below hp3.bel) ⟨_, _, rfl⟩ (by kernel_rfl) (AtK.below hp (hp2.bel.trans ((hb0.trans (hp3.bel.mono hb0.size)).mono hC))) (by omega) (hb0.trans (hp3.bel.mono hb0.size)).size (fun j hj => pd_b g hj) (fun v2 x2 ho2a hb2a => ?_))
  have hb2b := (hb0.trans (hp3.bel.mono hb0.size)).trans hb2a
  have hs2 := Heap.start x2
  refine gsC 1 [.any (isY1 128)] [0] [0] (fun L _ => [.slice p n c, undef, L0.p 0, .int .u64 ((n * 8 : Nat) : Int), undef, undef, undef, undef, undef, undef, undef, .slice p n c, .int .i64 n, .int .u64 ((n : Nat) : Int), .int .u64 ((n * 8 : Nat) : Int), .slice (some ⟨w2.heap.size, 0, none⟩) 0 0, .slice p n c, v2, L.v 0] ++ U 56) (fun L => []) hs2 ⟨
    oY1,
    trivial⟩ (fun L3 _ w4 hp4 ha4 => ?_)
  have hy := AnyF.at (ha4 (by kernel_rfl)) (j := 0) rfl rfl
  refine oneL rfl rfl (wp_appendY1 (.tmp 17) (.tmp 18) rfl (v := v2) (u := L3.v 0) (f := pd g n) (m := n) (y := 128) (by kernel_rfl) (ho2a.below hp4.bel) (by kernel_rfl) hy (pd_1 g n) (by omega) (hb2b.trans (hp4.bel.mono hb2b.size)).size (fun v3 x3 ho3a hb3a => ?_))
  have hb3b := (hb2b.trans (hp4.bel.mono hb2b.size)).trans hb3a
  have hs3 := Heap.start x3
  refine gsC 1 [.det (v3)] [0] [0] (fun L _ => [v3, undef, L0.p 0, .int .u64 ((n * 8 : Nat) : Int), undef, undef, undef, undef, undef, undef, undef, .slice p n c, .int .i64 n, .int .u64 ((n : Nat) : Int), .int .u64 ((n * 8 : Nat) : Int), .slice (some ⟨w2.heap.size, 0, none⟩) 0 0, .slice p n c, v2, (L3.v 0), v3] ++ U 55) (fun L => []) hs3 ⟨
    oA,
    trivial⟩ (fun L4 _ w5 hp5 ha5 => ?_)
  refine wpList_nil ?_
  refine k3 _ _ ?_
  refine wp_seq_k (fun K4 k4 => ?_)
  refine wp_block_k (fun K5 k5 => ?_)
  refine wp_loop_ghost (dgI1 w2 g n ((L0.b 0))) (padN n - 9 - n) ⟨0, (fun zz => ([v3, undef, L0.p 0, .int .u64 ((n * 8 : Nat) : Int)] ++ (U 7 ++ ([.slice p n c, .int .i64 n, .int .u64 ((n : Nat) : Int), .int .u64 ((n * 8 : Nat) : Int), .slice (some ⟨w2.heap.size, 0, none⟩) 0 0, .slice p n c, v2, (L3.v 0), v3] ++ U 55)) : List Value).getD zz undef), _, by kernel_rfl, Nat.zero_add _, by rw [show n + 1 + 0 = n + 1 by omega]; exact (ho3a.below hp5.bel), (hb3b.trans (hp5.bel.mono hb3b.size))⟩ ?_
  rintro L a' W ⟨m, d, v, rfl, hL, hO, hB⟩
  obtain ⟨l, el⟩ : ∃ x, x = n + 1 + m := ⟨_, rfl⟩
  rw [← el] at hO
  have hpg := padN_ge n
  have hpe := pad_end n
  obtain ⟨k, cc, rfl, hc1, hc2, hk, hbx⟩ := hO.box (by omega)
  have hs0 := Heap.start W
  by_cases hL0 : L = 0
  rotate_left
  · skip
    have hm : m < padN n - 9 - n := by omega
    have hne := pad_at (show n + 1 + m < padN n - 8 by omega)
    rw [← el] at hne
    refine wp_seq_k (fun K6 k6 => ?_)
    refine wp_seq_k (fun K7 k7 => ?_)
    refine gs [.det (.slice (some ⟨k, 0, none⟩) l cc), .det (.int .i64 l), .det (.int .i64 ((l % 64 : Nat) : Int)), .det (.bool true)] [0, 1, 2, 3] [0, 1, 3, 7] (fun L => [.slice (some ⟨k, 0, none⟩) l cc, d 1, L0.p 0, .int .u64 ((n * 8 : Nat) : Int)] ++ (D d 4 16 ++ ([.slice (some ⟨k, 0, none⟩) l cc, .int .i64 l, .int .i64 ((l % 64 : Nat) : Int), .bool true] ++ D d 24 51))) (fun L => []) hs0 ⟨
      oM, fun h => ⟨ob_len (p := (some ⟨k, 0, none⟩)) (n := l) (c := cc) (fun _ => rfl) h rfl (fun _ => by kernel_rfl) Try.underlying29⟩, oJ .i64 .i64 l 64 (h := fun w => remN _ l 64 (l % 64) (by decide) (by omega) rfl w),
      oJ .i64 .i64 ((l % 64 : Nat) : Int) 56 (h := fun w => (neqI _ _ _ _ w).trans (by rw [decide_eq_false (by omega)]; rfl)),
      trivial⟩ (fun L5 w6 hp6 => ?_)
    refine k7 _ _ ?_
    refine wp_cond_true (by kernel_rfl) ?_
    refine skips ?_
    refine k6 _ _ ?_
    refine wp_block_k (fun K8 k8 => ?_)
    refine wp_region_list ?_
    refine gsC 2 [.det (.slice (some ⟨k, 0, none⟩) l cc), .any (isY1 0)] [0, 1] [0, 1] (fun L _ => [.slice (some ⟨k, 0, none⟩) l cc, d 1, L0.p 0, .int .u64 ((n * 8 : Nat) : Int), d 4, d 5, d 6, d 7, d 8, d 9, d 10, d 11, d 12, d 13, d 14, d 15, d 16, d 17, d 18, d 19, .slice (some ⟨k, 0, none⟩) l cc, .int .i64 l, .int .i64 ((l % 64 : Nat) : Int), .bool true, .slice (some ⟨k, 0, none⟩) l cc, L.v 1, d 26, d 27, d 28, d 29, d 30, d 31, d 32, d 33, d 34, d 35, d 36, d 37, d 38, d 39, d 40, d 41, d 42, d 43, d 44, d 45, d 46, d 47, d 48, d 49, d 50, d 51, d 52, d 53, d 54, d 55, d 56, d 57, d 58, d 59, d 60, d 61, d 62, d 63, d 64, d 65, d 66, d 67, d 68, d 69, d 70, d 71, d 72, d 73, d 74]) (fun L => []) hp6 ⟨
      oM, oY1,
      trivial⟩ (fun L6 _ w7 hp7 ha7 => ?_)
    have hy := AnyF.at (ha7 (by kernel_rfl)) (j := 1) rfl rfl
    refine oneL rfl rfl (wp_appendY1 (.tmp 24) (.tmp 25) rfl (v := .slice (some ⟨k, 0, none⟩) l cc) (u := L6.v 1) (f := pd g n) (m := l) (y := 0) (by kernel_rfl) (hO.below hp7.bel) (by kernel_rfl) hy (by rw [el]; exact pd_0 g (by omega) (by omega)) (by omega) (hB.trans (hp7.bel.mono hB.size)).size (fun v5 x5 ho5 hb5 => ?_))
    have hb5b := (hB.trans (hp7.bel.mono hB.size)).trans hb5
    have hs5 := Heap.start x5
    refine gsC 1 [.det (v5)] [0] [0] (fun L _ => [v5, d 1, L0.p 0, .int .u64 ((n * 8 : Nat) : Int), d 4, d 5, d 6, d 7, d 8, d 9, d 10, d 11, d 12, d 13, d 14, d 15, d 16, d 17, d 18, d 19, .slice (some ⟨k, 0, none⟩) l cc, .int .i64 l, .int .i64 ((l % 64 : Nat) : Int), .bool true, .slice (some ⟨k, 0, none⟩) l cc, (L6.v 1), v5, d 27, d 28, d 29, d 30, d 31, d 32, d 33, d 34, d 35, d 36, d 37, d 38, d 39, d 40, d 41, d 42, d 43, d 44, d 45, d 46, d 47, d 48, d 49, d 50, d 51, d 52, d 53, d 54, d 55, d 56, d 57, d 58, d 59, d 60, d 61, d 62, d 63, d 64, d 65, d 66, d 67, d 68, d 69, d 70, d 71, d 72, d 73, d 74]) (fun L => []) hs5 ⟨
      oA,
      trivial⟩ (fun L7 _ w8 hp8 ha8 => ?_)
    refine wpList_nil ?_
    refine k8 _ _ _ ?_
    refine block_normal ?_
    exact ⟨L - 1, by omega, m + 1, (fun zz => ([v5, d 1, L0.p 0, .int .u64 ((n * 8 : Nat) : Int)] ++ (D d 4 16 ++ ([.slice (some ⟨k, 0, none⟩) l cc, .int .i64 l, .int .i64 ((l % 64 : Nat) : Int), .bool true, .slice (some ⟨k, 0, none⟩) l cc, (L6.v 1), v5] ++ D d 27 48)) : List Value).getD zz undef), v5, by kernel_rfl, by omega, by rw [show n + 1 + (m + 1) = l + 1 by omega]; exact (ho5.below hp8.bel), (hb5b.trans (hp8.bel.mono hb5b.size))⟩
  obtain rfl : m = padN n - 9 - n := by omega
  refine wp_seq_k (fun K9 k9 => ?_)
  refine wp_seq_k (fun K10 k10 => ?_)
  refine gs [.det (.slice (some ⟨k, 0, none⟩) l cc), .det (.int .i64 l), .det (.int .i64 ((l % 64 : Nat) : Int)), .det (.bool false)] [0, 1, 2, 3] [0, 1, 3, 7] (fun L => [.slice (some ⟨k, 0, none⟩) l cc, d 1, L0.p 0, .int .u64 ((n * 8 : Nat) : Int)] ++ (D d 4 16 ++ ([.slice (some ⟨k, 0, none⟩) l cc, .int .i64 l, .int .i64 ((l % 64 : Nat) : Int), .bool false] ++ D d 24 51))) (fun L => []) hs0 ⟨
    oM, fun h => ⟨ob_len (p := (some ⟨k, 0, none⟩)) (n := l) (c := cc) (fun _ => rfl) h rfl (fun _ => by kernel_rfl) Try.underlying29⟩, oJ .i64 .i64 l 64 (h := fun w => remN _ l 64 (l % 64) (by decide) (by omega) rfl w),
    oJ .i64 .i64 ((l % 64 : Nat) : Int) 56 (h := fun w => (neqI _ _ _ _ w).trans (by rw [decide_eq_true (by omega)]; rfl)),
    trivial⟩ (fun L8 w9 hp9 => ?_)
  refine k10 _ _ ?_
  refine wp_cond_false (by kernel_rfl) ?_
  refine wp_exit ?_
  refine then_exit ?_
  refine then_exit ?_
  refine k5 _ _ _ ?_
  refine exit_in ?_
  refine k4 _ _ ?_
  refine wp_seq_k (fun K11 k11 => ?_)
  refine wp_seq_k (fun K12 k12 => ?_)
  refine gs [.det (.int .i64 7)] [0] [0] (fun L => [.slice (some ⟨k, 0, none⟩) l cc, d 1, L0.p 0, .int .u64 ((n * 8 : Nat) : Int), .int .i64 7] ++ (D d 5 15 ++ ([.slice (some ⟨k, 0, none⟩) l cc, .int .i64 l, .int .i64 ((l % 64 : Nat) : Int), .bool false] ++ D d 24 51))) (fun L => []) hp9 ⟨
    oA,
    trivial⟩ (fun L9 w10 hp10 => ?_)
  refine k12 _ _ ?_
  refine wp_block_k (fun K13 k13 => ?_)
  refine wp_loop_ghost (dgI2 w2 g n ((L0.b 0))) (8) ⟨0, (fun zz => ([.slice (some ⟨k, 0, none⟩) l cc, d 1, L0.p 0, .int .u64 ((n * 8 : Nat) : Int), .int .i64 7] ++ (D d 5 15 ++ ([.slice (some ⟨k, 0, none⟩) l cc, .int .i64 l, .int .i64 ((l % 64 : Nat) : Int), .bool false] ++ D d 24 51)) : List Value).getD zz undef), _, by kernel_rfl, Nat.zero_add _, by rw [show (padN n - 8) + 0 = l by omega]; exact (hO.below hp10.bel), (hB.trans (hp10.bel.mono hB.size))⟩ ?_
  rintro L a' W ⟨m, d, v, rfl, hL, hO, hB⟩
  obtain ⟨l, el⟩ : ∃ x, x = (padN n - 8) + m := ⟨_, rfl⟩
  rw [← el] at hO
  have hpg := padN_ge n
  have hpe := pad_end n
  obtain ⟨k, cc, rfl, hc1, hc2, hk, hbx⟩ := hO.box (by omega)
  have hs0 := Heap.start W
  by_cases hL0 : L = 0
  rotate_left
  · skip
    have hm : m < 8 := by omega
    refine wp_seq_k (fun K14 k14 => ?_)
    refine wp_seq_k (fun K15 k15 => ?_)
    refine gs [.det (.int .i64 (7 - ((m : Nat) : Int))), .det (.bool true)] [0, 1] [0, 1] (fun L => [.slice (some ⟨k, 0, none⟩) l cc, d 1, L0.p 0, .int .u64 ((n * 8 : Nat) : Int), .int .i64 (7 - ((m : Nat) : Int))] ++ (D d 5 22 ++ ([.int .i64 (7 - ((m : Nat) : Int)), .bool true] ++ D d 29 46))) (fun L => []) hs0 ⟨
      oM, oJ .i64 .i64 (7 - ((m : Nat) : Int)) 0 (h := fun w => (geqI _ _ _ w).trans (by rw [decide_eq_true (by omega)])),
      trivial⟩ (fun L10 w11 hp11 => ?_)
    refine k15 _ _ ?_
    refine wp_cond_true (by kernel_rfl) ?_
    refine skips ?_
    refine k14 _ _ ?_
    refine wp_seq_k (fun K16 k16 => ?_)
    refine wp_block_k (fun K17 k17 => ?_)
    refine wp_region_list ?_
    refine gsC 7 [.det (.slice (some ⟨k, 0, none⟩) l cc), .det (.int .u64 ((n * 8 : Nat) : Int)), .det (.int .i64 (7 - ((m : Nat) : Int))), .det (.int .i64 ((8 * (7 - m) : Nat) : Int)), .det (.int .u64 ((n * 8 / 2 ^ (8 * (7 - m)) : Nat) : Int)), .det (.int .u8 ((n * 8 / 2 ^ (8 * (7 - m)) % 256 : Nat) : Int)), .any (isY1 ((n * 8 / 2 ^ (8 * (7 - m)) % 256 : Nat) : Int))] [0, 1, 2, 3, 4, 5, 6] [0, 1, 3, 7, 15, 31, 63] (fun L _ => [.slice (some ⟨k, 0, none⟩) l cc, d 1, L0.p 0, .int .u64 ((n * 8 : Nat) : Int), .int .i64 (7 - ((m : Nat) : Int)), d 5, d 6, d 7, d 8, d 9, d 10, d 11, d 12, d 13, d 14, d 15, d 16, d 17, d 18, d 19, d 20, d 21, d 22, d 23, d 24, d 25, d 26, .int .i64 (7 - ((m : Nat) : Int)), .bool true, d 29, d 30, .slice (some ⟨k, 0, none⟩) l cc, .int .u64 ((n * 8 : Nat) : Int), .int .i64 (7 - ((m : Nat) : Int)), .int .i64 ((8 * (7 - m) : Nat) : Int), .int .u64 ((n * 8 / 2 ^ (8 * (7 - m)) : Nat) : Int), .int .u8 ((n * 8 / 2 ^ (8 * (7 - m)) % 256 : Nat) : Int), L.v 6, d 38, d 39, d 40, d 41, d 42, d 43, d 44, d 45, d 46, d 47, d 48, d 49, d 50, d 51, d 52, d 53, d 54, d 55, d 56, d 57, d 58, d 59, d 60, d 61, d 62, d 63, d 64, d 65, d 66, d 67, d 68, d 69, d 70, d 71, d 72, d 73, d 74]) (fun L => []) hp11 ⟨
      oM, oM, oM, oJ .i64 .i64 8 (7 - ((m : Nat) : Int)) (h := fun w => mul8I _ m hm w), oJ .u64 .i64 ((n * 8 : Nat) : Int) ((8 * (7 - m) : Nat) : Int) (h := fun w => shrUN _ (n * 8) (8 * (7 - m)) (by omega) w),
      oCv (fun w => convUB (n * 8 / 2 ^ (8 * (7 - m))) w), oY1,
      trivial⟩ (fun L11 _ w12 hp12 ha12 => ?_)
    have hy := AnyF.at (ha12 (by kernel_rfl)) (j := 6) rfl rfl
    refine oneL rfl rfl (wp_appendY1 (.tmp 31) (.tmp 37) rfl (v := .slice (some ⟨k, 0, none⟩) l cc) (u := L11.v 6) (f := pd g n) (m := l) (y := ((n * 8 / 2 ^ (8 * (7 - m)) % 256 : Nat) : Int)) (by kernel_rfl) (hO.below hp12.bel) (by kernel_rfl) hy (by rw [el]; exact pd_l g hm) (by omega) (hB.trans (hp12.bel.mono hB.size)).size (fun v5 x5 ho5 hb5 => ?_))
    have hb5b := (hB.trans (hp12.bel.mono hB.size)).trans hb5
    have hs5 := Heap.start x5
    refine gsC 1 [.det (v5)] [0] [0] (fun L _ => [v5, d 1, L0.p 0, .int .u64 ((n * 8 : Nat) : Int), .int .i64 (7 - ((m : Nat) : Int)), d 5, d 6, d 7, d 8, d 9, d 10, d 11, d 12, d 13, d 14, d 15, d 16, d 17, d 18, d 19, d 20, d 21, d 22, d 23, d 24, d 25, d 26, .int .i64 (7 - ((m : Nat) : Int)), .bool true, d 29, d 30, .slice (some ⟨k, 0, none⟩) l cc, .int .u64 ((n * 8 : Nat) : Int), .int .i64 (7 - ((m : Nat) : Int)), .int .i64 ((8 * (7 - m) : Nat) : Int), .int .u64 ((n * 8 / 2 ^ (8 * (7 - m)) : Nat) : Int), .int .u8 ((n * 8 / 2 ^ (8 * (7 - m)) % 256 : Nat) : Int), (L11.v 6), v5, d 39, d 40, d 41, d 42, d 43, d 44, d 45, d 46, d 47, d 48, d 49, d 50, d 51, d 52, d 53, d 54, d 55, d 56, d 57, d 58, d 59, d 60, d 61, d 62, d 63, d 64, d 65, d 66, d 67, d 68, d 69, d 70, d 71, d 72, d 73, d 74]) (fun L => []) hs5 ⟨
      oA,
      trivial⟩ (fun L12 _ w13 hp13 ha13 => ?_)
    refine wpList_nil ?_
    refine k17 _ _ _ ?_
    refine block_normal ?_
    refine k16 _ _ ?_
    refine gs [.det (.int .i64 (7 - ((m : Nat) : Int))), .det (.int .i64 (7 - ((m + 1 : Nat) : Int))), .det (.int .i64 (7 - ((m + 1 : Nat) : Int)))] [0, 1, 2] [0, 1, 3] (fun L => [v5, d 1, L0.p 0, .int .u64 ((n * 8 : Nat) : Int), .int .i64 (7 - ((m + 1 : Nat) : Int))] ++ (D d 5 22 ++ ([.int .i64 (7 - ((m : Nat) : Int)), .bool true, .int .i64 (7 - ((m : Nat) : Int)), .int .i64 (7 - ((m + 1 : Nat) : Int)), .slice (some ⟨k, 0, none⟩) l cc, .int .u64 ((n * 8 : Nat) : Int), .int .i64 (7 - ((m : Nat) : Int)), .int .i64 ((8 * (7 - m) : Nat) : Int), .int .u64 ((n * 8 / 2 ^ (8 * (7 - m)) : Nat) : Int), .int .u8 ((n * 8 / 2 ^ (8 * (7 - m)) % 256 : Nat) : Int), (L11.v 6), v5] ++ D d 39 36))) (fun L => []) hp13 ⟨
      oM, oJ .i64 .i64 (7 - ((m : Nat) : Int)) 1 (h := fun w => subI7 _ m (by omega) w), oA,
      trivial⟩ (fun L13 w14 hp14 => ?_)
    exact ⟨L - 1, by omega, m + 1, (fun zz => ([v5, d 1, L0.p 0, .int .u64 ((n * 8 : Nat) : Int), .int .i64 (7 - ((m + 1 : Nat) : Int))] ++ (D d 5 22 ++ ([.int .i64 (7 - ((m : Nat) : Int)), .bool true, .int .i64 (7 - ((m : Nat) : Int)), .int .i64 (7 - ((m + 1 : Nat) : Int)), .slice (some ⟨k, 0, none⟩) l cc, .int .u64 ((n * 8 : Nat) : Int), .int .i64 (7 - ((m : Nat) : Int)), .int .i64 ((8 * (7 - m) : Nat) : Int), .int .u64 ((n * 8 / 2 ^ (8 * (7 - m)) : Nat) : Int), .int .u8 ((n * 8 / 2 ^ (8 * (7 - m)) % 256 : Nat) : Int), (L11.v 6), v5] ++ D d 39 36)) : List Value).getD zz undef), v5, by kernel_rfl, by omega, by rw [show (padN n - 8) + (m + 1) = l + 1 by omega]; exact (ho5.below hp14.bel), (hb5b.trans (hp14.bel.mono hb5b.size))⟩
  obtain rfl : m = 8 := by omega
  refine wp_seq_k (fun K18 k18 => ?_)
  refine wp_seq_k (fun K19 k19 => ?_)
  refine gs [.det (.int .i64 (7 - ((8 : Nat) : Int))), .det (.bool false)] [0, 1] [0, 1] (fun L => [.slice (some ⟨k, 0, none⟩) l cc, d 1, L0.p 0, .int .u64 ((n * 8 : Nat) : Int), .int .i64 (7 - ((8 : Nat) : Int))] ++ (D d 5 22 ++ ([.int .i64 (7 - ((8 : Nat) : Int)), .bool false] ++ D d 29 46))) (fun L => []) hs0 ⟨
    oM, oJ .i64 .i64 (7 - ((8 : Nat) : Int)) 0 (h := fun w => (geqI _ _ _ w).trans (by rw [decide_eq_false (by omega)])),
    trivial⟩ (fun L14 w15 hp15 => ?_)
  refine k19 _ _ ?_
  refine wp_cond_false (by kernel_rfl) ?_
  refine wp_exit ?_
  refine then_exit ?_
  refine then_exit ?_
  obtain ⟨N, eN⟩ : ∃ x, x = padN n := ⟨_, rfl⟩
  have hN : l = N := by omega
  subst hN
  have hNm := padN_mod n
  rw [← eN] at hNm hpg
  have hpF := Heap.add (Heap.under hp2 hC (hB.trans (hp15.bel.mono hB.size)) hlt) (Nat.le_trans hC hk) (fun b hb => Nat.lt_of_lt_of_le (hlt b hb) hk) (hbx.up hp15.bel)
  refine k13 _ _ _ ?_
  refine exit_in ?_
  refine k11 _ _ ?_
  refine wp_seq_k (fun K20 k20 => ?_)
  refine gs [.det (VW (hz false 8) 8), .det (VW (hz true 64) 64), .alloc (AW (fun _ => 0) 8), .alloc (AW (fun _ => 0) 64), .store (.new 2) 0 (AW (hz false 8) 8) (AW (hz false 8) 8), .store (.new 3) 0 (AW (hz true 64) 64) (AW (hz true 64) 64)] [0, 1, 2, 3, 4, 5] [0, 1, 0, 0, 15, 31] (fun L => [.slice (some ⟨k, 0, none⟩) l cc, d 1, L0.p 0, .int .u64 ((n * 8 : Nat) : Int), .int .i64 (7 - ((8 : Nat) : Int)), L.p 2, L.p 3] ++ (D d 7 20 ++ ([.int .i64 (7 - ((8 : Nat) : Int)), .bool false] ++ (D d 29 10 ++ ([VW (hz false 8) 8, VW (hz true 64) 64] ++ D d 41 34))))) (fun L => [(L0.b 0, BC (fun _ => 0) 32), (k, BC (pd g n) l), (L.b 2, AW (hz false 8) 8), (L.b 3, AW (hz true 64) 64)]) hpF ⟨
    oR refFirst, oR refRounds, oZ rW8, oZ rW64, oT rW8, oT rW64,
    trivial⟩ (fun L15 w16 hp16 => ?_)
  refine k20 _ _ ?_
  refine wp_seq_k (fun K21 k21 => ?_)
  refine wp_seq_k (fun K22 k22 => ?_)
  refine gs [.det (.int .i64 0)] [0] [0] (fun L => [.slice (some ⟨k, 0, none⟩) l cc, d 1, L0.p 0, .int .u64 ((n * 8 : Nat) : Int), .int .i64 (7 - ((8 : Nat) : Int)), L15.p 2, L15.p 3, .int .i64 0] ++ (D d 8 19 ++ ([.int .i64 (7 - ((8 : Nat) : Int)), .bool false] ++ (D d 29 10 ++ ([VW (hz false 8) 8, VW (hz true 64) 64] ++ D d 41 34))))) (fun L => [(L0.b 0, BC (fun _ => 0) 32), (k, BC (pd g n) l), (L15.b 2, AW (hz false 8) 8), (L15.b 3, AW (hz true 64) 64)]) hp16 ⟨
    oA,
    trivial⟩ (fun L16 w17 hp17 => ?_)
  refine k22 _ _ ?_
  refine wp_block_k (fun K23 k23 => ?_)
  refine wp_loop_ghost (dgI3 g n l cc w (L0.b 0) k (L15.b 2) (L15.b 3)) (l / 64) ⟨0, (fun zz => ([.slice (some ⟨k, 0, none⟩) l cc, d 1, L0.p 0, .int .u64 ((n * 8 : Nat) : Int), .int .i64 (7 - ((8 : Nat) : Int)), L15.p 2, L15.p 3, .int .i64 0] ++ (D d 8 19 ++ ([.int .i64 (7 - ((8 : Nat) : Int)), .bool false] ++ (D d 29 10 ++ ([VW (hz false 8) 8, VW (hz true 64) 64] ++ D d 41 34)))) : List Value).getD zz undef), by kernel_rfl, Nat.zero_add _, by rw [hsx_0]; exact hp17⟩ ?_
  rintro L a' W ⟨m, d, rfl, hL, hJ⟩
  by_cases hL0 : L = 0
  rotate_left
  · skip
    have hm : m < (l / 64) := by omega
    refine wp_seq_k (fun K24 k24 => ?_)
    refine wp_seq_k (fun K25 k25 => ?_)
    refine gs [.det (.int .i64 ((64 * (m) : Nat) : Int)), .det (.slice (some ⟨k, 0, none⟩) l cc), .det (.int .i64 l), .det (.bool true)] [0, 1, 2, 3] [0, 0, 2, 7] (fun L => [.slice (some ⟨k, 0, none⟩) l cc, d 1, L0.p 0] ++ (D d 3 2 ++ ([L15.p 2, L15.p 3, .int .i64 ((64 * (m) : Nat) : Int)] ++ (D d 8 33 ++ ([.int .i64 ((64 * (m) : Nat) : Int), .slice (some ⟨k, 0, none⟩) l cc, .int .i64 l, .bool true] ++ D d 45 30))))) (fun L => [(L0.b 0, BC (fun _ => 0) 32), (k, BC (pd g n) l), (L15.b 2, AW (hsx g n m) 8), (L15.b 3, AW (hz true 64) 64)]) hJ ⟨
      oM, oM, fun h => ⟨ob_len (p := (some ⟨k, 0, none⟩)) (n := l) (c := cc) (fun _ => rfl) h rfl (fun _ => by kernel_rfl) Try.underlying29⟩, oJ .i64 .i64 ((64 * (m) : Nat) : Int) l (h := fun w => (lssI _ _ _ w).trans (by rw [decide_eq_true (by omega)])),
      trivial⟩ (fun L17 w18 hp18 => ?_)
    refine k25 _ _ ?_
    refine wp_cond_true (by kernel_rfl) ?_
    refine skips ?_
    refine k24 _ _ ?_
    refine wp_seq_k (fun K26 k26 => ?_)
    refine wp_block_k (fun K27 k27 => ?_)
    refine wp_seq_k (fun K28 k28 => ?_)
    refine gs [.alloc (BC (fun _ => 0) 64)] [0] [0] (fun L => [.slice (some ⟨k, 0, none⟩) l cc, d 1, L0.p 0] ++ (D d 3 2 ++ ([L15.p 2, L15.p 3, .int .i64 ((64 * (m) : Nat) : Int), L.p 0] ++ (D d 9 32 ++ ([.int .i64 ((64 * (m) : Nat) : Int), .slice (some ⟨k, 0, none⟩) l cc, .int .i64 l, .bool true] ++ D d 45 30))))) (fun L => [(L0.b 0, BC (fun _ => 0) 32), (k, BC (pd g n) l), (L15.b 2, AW (hsx g n m) 8), (L15.b 3, AW (hz true 64) 64), (L.b 0, BC (fun _ => 0) 64)]) hp18 ⟨
      oZ rB64,
      trivial⟩ (fun L18 w19 hp19 => ?_)
    refine k28 _ _ ?_
    refine wp_seq_k (fun K29 k29 => ?_)
    refine dT 6 [.det (.slice (some ⟨(L18.b 0), 0, none⟩) 64 64), .det (.slice (some ⟨k, 0, none⟩) l cc), .det (.int .i64 ((64 * (m) : Nat) : Int)), .det (.int .i64 ((64 * (m) : Nat) : Int)), .det (.int .i64 ((64 * (m) + 64 : Nat) : Int)), .det (.slice (some ⟨k, 64 * m, none⟩) (64 * m + 64 - 64 * m) (cc - 64 * m)), .det (.int .i64 64)] [0, 1, 2, 3, 4, 5] [0, 0, 0, 0, 8, 30, 63] (fun L => [.slice (some ⟨k, 0, none⟩) l cc, d 1, L0.p 0] ++ (D d 3 2 ++ ([L15.p 2, L15.p 3, .int .i64 ((64 * (m) : Nat) : Int), L18.p 0] ++ (D d 9 32 ++ ([.int .i64 ((64 * (m) : Nat) : Int), .slice (some ⟨k, 0, none⟩) l cc, .int .i64 l, .bool true] ++ (D d 45 2 ++ ([.slice (some ⟨(L18.b 0), 0, none⟩) 64 64, .slice (some ⟨k, 0, none⟩) l cc, .int .i64 ((64 * (m) : Nat) : Int), .int .i64 ((64 * (m) : Nat) : Int), .int .i64 ((64 * (m) + 64 : Nat) : Int), .slice (some ⟨k, 64 * m, none⟩) (64 * m + 64 - 64 * m) (cc - 64 * m)] ++ D d 53 22))))))) hp19 ⟨
      oSA (sz := 1) Try.underlying56 sizeY (by decide), oM, oM, oM, oJ .i64 .i64 ((64 * (m) : Nat) : Int) 64 (h := fun w => addII _ (64 * (m)) 64 (64 * (m) + 64) rfl (by omega) w), oSB (b := k) (len := l) (c := cc) (l := 64 * (m)) (h := 64 * (m) + 64) (by omega) (by omega) hc1 (by omega), trivial⟩ (fun L19 w20 hp20 ha20 => ?_)
    have hbk := (hp20.bound 1 rfl).2.cells
    refine tail1 (by kernel_rfl) (wpOp_of rfl rfl (wp_copy64 (.tmp 47) (.tmp 52) rfl (b := (L18.b 0)) (ad := ⟨k, 64 * m, none⟩) (c1 := 64) (c2 := cc - 64 * m) (f := fun _ => 0) (g := fun i => pd g n (64 * m + i)) (by kernel_rfl) (by refine Eq.trans (b := .slice (some ⟨k, 64 * m, none⟩) (64 * m + 64 - 64 * m) (cc - 64 * m)) (by kernel_rfl) ?_; rw [show 64 * m + 64 - 64 * m = 64 by omega]) (hp20.bound 4 rfl).2 (fun j hj => ?_) (fun x8 hw8 hx8 => ?_)))
    · have := hbk (64 * m + j) _ (BC_at (show 64 * m + j < l by omega)); rw [Addr.add_mid]; rwa [Nat.zero_add] at this
    have hp8 := Heap.turnL (H := [_, _, _, _]) hp20 hw8 hx8
    refine k29 _ _ ?_
    refine gs [.det (VW (hsx g n m) 8), .det (VB (fun i => pd g n (64 * m + i)) 64), .det (VW (hz true 64) 64), .det (VW (blk (hsx g n m) (fun i => pd g n (64 * m + i)) (hz true 64)) 8), .store (.base 2) 0 (AW (blk (hsx g n m) (fun i => pd g n (64 * m + i)) (hz true 64)) 8) (AW (blk (hsx g n m) (fun i => pd g n (64 * m + i)) (hz true 64)) 8)] [0, 1, 2, 3, 4] [0, 0, 0, 7, 15] (fun L => [.slice (some ⟨k, 0, none⟩) l cc, d 1, L0.p 0] ++ (D d 3 2 ++ ([L15.p 2, L15.p 3, .int .i64 ((64 * (m) : Nat) : Int), L18.p 0] ++ (D d 9 32 ++ ([.int .i64 ((64 * (m) : Nat) : Int), .slice (some ⟨k, 0, none⟩) l cc, .int .i64 l, .bool true] ++ (D d 45 2 ++ ([.slice (some ⟨(L18.b 0), 0, none⟩) 64 64, .slice (some ⟨k, 0, none⟩) l cc, .int .i64 ((64 * (m) : Nat) : Int), .int .i64 ((64 * (m) : Nat) : Int), .int .i64 ((64 * (m) + 64 : Nat) : Int), .slice (some ⟨k, 64 * m, none⟩) (64 * m + 64 - 64 * m) (cc - 64 * m), .int .i64 64, VW (hsx g n m) 8, VB (fun i => pd g n (64 * m + i)) 64, VW (hz true 64) 64, VW (blk (hsx g n m) (fun i => pd g n (64 * m + i)) (hz true 64)) 8] ++ D d 58 17))))))) (fun L => [(L0.b 0, BC (fun _ => 0) 32), (k, BC (pd g n) l), (L15.b 2, AW (blk (hsx g n m) (fun i => pd g n (64 * m + i)) (hz true 64)) 8), (L15.b 3, AW (hz true 64) 64), (L18.b 0, BC (fun i => pd g n (64 * m + i)) 64)]) hp8 ⟨
      oL 2 0 rW8, oL 4 0 rB64, oL 3 0 rW64, oH (v := VW (blk (hsx g n m) (fun i => pd g n (64 * m + i)) (hz true 64)) 8) (vs := #[VW (hsx g n m) 8, VB (fun i => pd g n (64 * m + i)) 64, VW (hz true 64) 64]) (fun w _ _ => refBlock (hsx g n m) (fun i => pd g n (64 * m + i)) (hz true 64) (fun i _ => pd_rg hg _) w),
      oT rW8,
      trivial⟩ (fun L20 w21 hp21 => ?_)
    refine k27 _ _ _ ?_
    refine block_normal ?_
    refine k26 _ _ ?_
    refine gs [.det (.int .i64 ((64 * (m) : Nat) : Int)), .det (.int .i64 ((64 * (m) + 64 : Nat) : Int)), .det (.int .i64 ((64 * (m) + 64 : Nat) : Int))] [0, 1, 2] [0, 1, 3] (fun L => [.slice (some ⟨k, 0, none⟩) l cc, d 1, L0.p 0] ++ (D d 3 2 ++ ([L15.p 2, L15.p 3, .int .i64 ((64 * (m) + 64 : Nat) : Int), L18.p 0] ++ (D d 9 32 ++ ([.int .i64 ((64 * (m) : Nat) : Int), .slice (some ⟨k, 0, none⟩) l cc, .int .i64 l, .bool true, .int .i64 ((64 * (m) : Nat) : Int), .int .i64 ((64 * (m) + 64 : Nat) : Int), .slice (some ⟨(L18.b 0), 0, none⟩) 64 64, .slice (some ⟨k, 0, none⟩) l cc, .int .i64 ((64 * (m) : Nat) : Int), .int .i64 ((64 * (m) : Nat) : Int), .int .i64 ((64 * (m) + 64 : Nat) : Int), .slice (some ⟨k, 64 * m, none⟩) (64 * m + 64 - 64 * m) (cc - 64 * m), .int .i64 64, VW (hsx g n m) 8, VB (fun i => pd g n (64 * m + i)) 64, VW (hz true 64) 64, VW (blk (hsx g n m) (fun i => pd g n (64 * m + i)) (hz true 64)) 8] ++ D d 58 17))))) (fun L => [(L0.b 0, BC (fun _ => 0) 32), (k, BC (pd g n) l), (L15.b 2, AW (blk (hsx g n m) (fun i => pd g n (64 * m + i)) (hz true 64)) 8), (L15.b 3, AW (hz true 64) 64), (L18.b 0, BC (fun i => pd g n (64 * m + i)) 64)]) hp21 ⟨
      oM, oJ .i64 .i64 ((64 * (m) : Nat) : Int) 64 (h := fun w => addII _ (64 * (m)) 64 (64 * (m) + 64) rfl (by omega) w), oA,
      trivial⟩ (fun L21 w22 hp22 => ?_)
    exact ⟨L - 1, by omega, m + 1, (fun zz => ([.slice (some ⟨k, 0, none⟩) l cc, d 1, L0.p 0] ++ (D d 3 2 ++ ([L15.p 2, L15.p 3, .int .i64 ((64 * (m) + 64 : Nat) : Int), L18.p 0] ++ (D d 9 32 ++ ([.int .i64 ((64 * (m) : Nat) : Int), .slice (some ⟨k, 0, none⟩) l cc, .int .i64 l, .bool true, .int .i64 ((64 * (m) : Nat) : Int), .int .i64 ((64 * (m) + 64 : Nat) : Int), .slice (some ⟨(L18.b 0), 0, none⟩) 64 64, .slice (some ⟨k, 0, none⟩) l cc, .int .i64 ((64 * (m) : Nat) : Int), .int .i64 ((64 * (m) : Nat) : Int), .int .i64 ((64 * (m) + 64 : Nat) : Int), .slice (some ⟨k, 64 * m, none⟩) (64 * m + 64 - 64 * m) (cc - 64 * m), .int .i64 64, VW (hsx g n m) 8, VB (fun i => pd g n (64 * m + i)) 64, VW (hz true 64) 64, VW (blk (hsx g n m) (fun i => pd g n (64 * m + i)) (hz true 64)) 8] ++ D d 58 17)))) : List Value).getD zz undef), by kernel_rfl, by omega, by rw [hsx_s]; exact Heap.sub hp22 (List.sublist_append_left [_, _, _, _] [_])⟩
  obtain rfl : m = (l / 64) := by omega
  obtain ⟨S, eS⟩ : ∃ x, x = hsx g n (l / 64) := ⟨_, rfl⟩
  rw [← eS] at hJ
  refine wp_seq_k (fun K30 k30 => ?_)
  refine wp_seq_k (fun K31 k31 => ?_)
  refine gs [.det (.int .i64 ((64 * ((l / 64)) : Nat) : Int)), .det (.slice (some ⟨k, 0, none⟩) l cc), .det (.int .i64 l), .det (.bool false)] [0, 1, 2, 3] [0, 0, 2, 7] (fun L => [.slice (some ⟨k, 0, none⟩) l cc, d 1, L0.p 0] ++ (D d 3 2 ++ ([L15.p 2, L15.p 3, .int .i64 ((64 * ((l / 64)) : Nat) : Int)] ++ (D d 8 33 ++ ([.int .i64 ((64 * ((l / 64)) : Nat) : Int), .slice (some ⟨k, 0, none⟩) l cc, .int .i64 l, .bool false] ++ D d 45 30))))) (fun L => [(L0.b 0, BC (fun _ => 0) 32), (k, BC (pd g n) l), (L15.b 2, AW S 8), (L15.b 3, AW (hz true 64) 64)]) hJ ⟨
    oM, oM, fun h => ⟨ob_len (p := (some ⟨k, 0, none⟩)) (n := l) (c := cc) (fun _ => rfl) h rfl (fun _ => by kernel_rfl) Try.underlying29⟩, oJ .i64 .i64 ((64 * ((l / 64)) : Nat) : Int) l (h := fun w => (lssI _ _ _ w).trans (by rw [decide_eq_false (by omega)])),
    trivial⟩ (fun L22 w23 hp23 => ?_)
  refine k31 _ _ ?_
  refine wp_cond_false (by kernel_rfl) ?_
  refine wp_exit ?_
  refine then_exit ?_
  refine then_exit ?_
  refine k23 _ _ _ ?_
  refine exit_in ?_
  refine k21 _ _ ?_
  refine wp_seq_k (fun K32 k32 => ?_)
  refine gs [.alloc (BC (fun _ => 0) 32)] [0] [0] (fun L => [.slice (some ⟨k, 0, none⟩) l cc, d 1, L0.p 0] ++ (D d 3 2 ++ ([L15.p 2, L15.p 3, .int .i64 ((64 * ((l / 64)) : Nat) : Int), d 8, L.p 0] ++ (D d 10 31 ++ ([.int .i64 ((64 * ((l / 64)) : Nat) : Int), .slice (some ⟨k, 0, none⟩) l cc, .int .i64 l, .bool false] ++ D d 45 30))))) (fun L => [(L0.b 0, BC (fun _ => 0) 32), (k, BC (pd g n) l), (L15.b 2, AW S 8), (L15.b 3, AW (hz true 64) 64), (L.b 0, BC (fun _ => 0) 32)]) hp23 ⟨
    oZ rB32,
    trivial⟩ (fun L23 w24 hp24 => ?_)
  refine k32 _ _ ?_
  refine wp_seq_k (fun K33 k33 => ?_)
  refine wp_seq_k (fun K34 k34 => ?_)
  refine gs [.det (.int .i64 0)] [0] [0] (fun L => [.slice (some ⟨k, 0, none⟩) l cc, d 1, L0.p 0] ++ (D d 3 2 ++ ([L15.p 2, L15.p 3, .int .i64 ((64 * ((l / 64)) : Nat) : Int), d 8, L23.p 0, .int .i64 0] ++ (D d 11 30 ++ ([.int .i64 ((64 * ((l / 64)) : Nat) : Int), .slice (some ⟨k, 0, none⟩) l cc, .int .i64 l, .bool false] ++ D d 45 30))))) (fun L => [(L0.b 0, BC (fun _ => 0) 32), (k, BC (pd g n) l), (L15.b 2, AW S 8), (L15.b 3, AW (hz true 64) 64), (L23.b 0, BC (fun _ => 0) 32)]) hp24 ⟨
    oA,
    trivial⟩ (fun L24 w25 hp25 => ?_)
  refine k34 _ _ ?_
  refine wp_block_k (fun K35 k35 => ?_)
  refine wp_loop_ghost (dgI4 g n l cc S w (L0.b 0) k (L15.b 2) (L15.b 3) (L23.b 0)) 32 ⟨0, (fun zz => ([.slice (some ⟨k, 0, none⟩) l cc, d 1, L0.p 0] ++ (D d 3 2 ++ ([L15.p 2, L15.p 3, .int .i64 ((64 * ((l / 64)) : Nat) : Int), d 8, L23.p 0, .int .i64 0] ++ (D d 11 30 ++ ([.int .i64 ((64 * ((l / 64)) : Nat) : Int), .slice (some ⟨k, 0, none⟩) l cc, .int .i64 l, .bool false] ++ D d 45 30)))) : List Value).getD zz undef), by kernel_rfl, Nat.zero_add _, by rw [obx_0]; exact hp25⟩ ?_
  rintro L a' W ⟨m, d, rfl, hL, hJ⟩
  by_cases hL0 : L = 0
  rotate_left
  · skip
    have hm : m < 32 := by omega
    refine wp_seq_k (fun K36 k36 => ?_)
    refine wp_seq_k (fun K37 k37 => ?_)
    refine gs [.det (.int .i64 ((m : Nat) : Int)), .det (.bool true)] [0, 1] [0, 1] (fun L => D d 0 2 ++ ([L0.p 0] ++ (D d 3 2 ++ ([L15.p 2] ++ (D d 6 3 ++ ([L23.p 0, .int .i64 ((m : Nat) : Int)] ++ (D d 11 47 ++ ([.int .i64 ((m : Nat) : Int), .bool true] ++ D d 60 15)))))))) (fun L => [(L0.b 0, BC (fun _ => 0) 32), (k, BC (pd g n) l), (L15.b 2, AW S 8), (L15.b 3, AW (hz true 64) 64), (L23.b 0, BC (obx S m) 32)]) hJ ⟨
      oM, oJ .i64 .i64 ((m : Nat) : Int) 32 (h := fun w => (lssI _ _ _ w).trans (by rw [decide_eq_true (by omega)])),
      trivial⟩ (fun L25 w26 hp26 => ?_)
    refine k37 _ _ ?_
    refine wp_cond_true (by kernel_rfl) ?_
    refine skips ?_
    refine k36 _ _ ?_
    refine wp_seq_k (fun K38 k38 => ?_)
    refine wp_block_k (fun K39 k39 => ?_)
    refine gs [.det (.int .i64 ((m : Nat) : Int)), .det (.int .i64 ((m : Nat) : Int)), .det (.int .i64 ((m / 4 : Nat) : Int)), .det (.pointer (some ⟨(L15.b 2), 0 + (m / 4) * 1, none⟩)), .det (W32 (S (m / 4))), .det (.int .i64 ((m : Nat) : Int)), .det (.int .i64 ((m % 4 : Nat) : Int)), .det (.int .i64 ((8 * (m % 4) : Nat) : Int)), .det (.int .i64 ((24 - 8 * (m % 4) : Nat) : Int)), .det (W32 ((S (m / 4)) >>> (24 - 8 * (m % 4)))), .det (.int .u8 ((((S (m / 4)) >>> (24 - 8 * (m % 4))).toNat : Int) % 256)), .det (.pointer (some ⟨(L23.b 0), 0 + m * 1, none⟩)), .store (.base 4) (0 + m * 1) ([.int .u8 ((((S (m / 4)) >>> (24 - 8 * (m % 4))).toNat : Int) % 256)]) (BC (su (obx S m) m ((((S (m / 4)) >>> (24 - 8 * (m % 4))).toNat : Int) % 256)) 32)] [0, 1, 2, 3, 4, 5, 6, 7, 8, 9, 10, 11, 12] [0, 0, 2, 6, 14, 0, 32, 96, 224, 510, 1022, 2047, 4095] (fun L => D d 0 2 ++ ([L0.p 0] ++ (D d 3 2 ++ ([L15.p 2] ++ (D d 6 3 ++ ([L23.p 0, .int .i64 ((m : Nat) : Int)] ++ (D d 11 47 ++ ([.int .i64 ((m : Nat) : Int), .bool true] ++ (D d 60 2 ++ [.int .i64 ((m : Nat) : Int), .int .i64 ((m : Nat) : Int), .int .i64 ((m / 4 : Nat) : Int), .pointer (some ⟨(L15.b 2), 0 + (m / 4) * 1, none⟩), W32 (S (m / 4)), .int .i64 ((m : Nat) : Int), .int .i64 ((m % 4 : Nat) : Int), .int .i64 ((8 * (m % 4) : Nat) : Int), .int .i64 ((24 - 8 * (m % 4) : Nat) : Int), W32 ((S (m / 4)) >>> (24 - 8 * (m % 4))), .int .u8 ((((S (m / 4)) >>> (24 - 8 * (m % 4))).toNat : Int) % 256), .pointer (some ⟨(L23.b 0), 0 + m * 1, none⟩), d 74]))))))))) (fun L => [(L0.b 0, BC (fun _ => 0) 32), (k, BC (pd g n) l), (L15.b 2, AW S 8), (L15.b 3, AW (hz true 64) 64), (L23.b 0, BC (su (obx S m) m ((((S (m / 4)) >>> (24 - 8 * (m % 4))).toNat : Int) % 256)) 32)]) hp26 ⟨
      oM, oM, oJ .i64 .i64 ((m : Nat) : Int) 4 (h := fun w => quoN _ m 4 (m / 4) (by omega) (by decide) rfl w), oIA (k := .i64) (m / 4) aW8 (by omega), oLA (n := 8) (j := (m / 4)) 2 (by omega),
      oM, oJ .i64 .i64 ((m : Nat) : Int) 4 (h := fun w => remN _ m 4 (m % 4) (by decide) (by omega) rfl w), oJ .i64 .i64 8 ((m % 4 : Nat) : Int) (h := fun w => mulII _ 8 (m % 4) (8 * (m % 4)) rfl (by omega) w),
      oJ .i64 .i64 24 ((8 * (m % 4) : Nat) : Int) (h := fun w => subN _ 24 (8 * (m % 4)) (24 - 8 * (m % 4)) (by omega) (by omega) w), oJ .u32 .i64 ((S (m / 4)).toNat : Int) ((24 - 8 * (m % 4) : Nat) : Int) (h := fun w => shrW _ (S (m / 4)) .i64 (24 - 8 * (m % 4)) (by omega) w),
      oCv (fun w => convWB ((S (m / 4)) >>> (24 - 8 * (m % 4))) w), oIA (k := .i64) m aB32 (by omega), oTY (n := 32) (j := m) (by omega),
      trivial⟩ (fun L26 w27 hp27 => ?_)
    refine k39 _ _ _ ?_
    refine block_normal ?_
    refine k38 _ _ ?_
    refine gs [.det (.int .i64 ((m : Nat) : Int)), .det (.int .i64 ((m + 1 : Nat) : Int)), .det (.int .i64 ((m + 1 : Nat) : Int))] [0, 1, 2] [0, 1, 3] (fun L => D d 0 2 ++ ([L0.p 0] ++ (D d 3 2 ++ ([L15.p 2] ++ (D d 6 3 ++ ([L23.p 0, .int .i64 ((m + 1 : Nat) : Int)] ++ (D d 11 47 ++ [.int .i64 ((m : Nat) : Int), .bool true, .int .i64 ((m : Nat) : Int), .int .i64 ((m + 1 : Nat) : Int), .int .i64 ((m : Nat) : Int), .int .i64 ((m : Nat) : Int), .int .i64 ((m / 4 : Nat) : Int), .pointer (some ⟨(L15.b 2), 0 + (m / 4) * 1, none⟩), W32 (S (m / 4)), .int .i64 ((m : Nat) : Int), .int .i64 ((m % 4 : Nat) : Int), .int .i64 ((8 * (m % 4) : Nat) : Int), .int .i64 ((24 - 8 * (m % 4) : Nat) : Int), W32 ((S (m / 4)) >>> (24 - 8 * (m % 4))), .int .u8 ((((S (m / 4)) >>> (24 - 8 * (m % 4))).toNat : Int) % 256), .pointer (some ⟨(L23.b 0), 0 + m * 1, none⟩), d 74]))))))) (fun L => [(L0.b 0, BC (fun _ => 0) 32), (k, BC (pd g n) l), (L15.b 2, AW S 8), (L15.b 3, AW (hz true 64) 64), (L23.b 0, BC (su (obx S m) m ((((S (m / 4)) >>> (24 - 8 * (m % 4))).toNat : Int) % 256)) 32)]) hp27 ⟨
      oM, oJ .i64 .i64 ((m : Nat) : Int) 1 (h := fun w => add1N _ (m) (by omega) w), oA,
      trivial⟩ (fun L27 w28 hp28 => ?_)
    exact ⟨L - 1, by omega, m + 1, (fun zz => (D d 0 2 ++ ([L0.p 0] ++ (D d 3 2 ++ ([L15.p 2] ++ (D d 6 3 ++ ([L23.p 0, .int .i64 ((m + 1 : Nat) : Int)] ++ (D d 11 47 ++ [.int .i64 ((m : Nat) : Int), .bool true, .int .i64 ((m : Nat) : Int), .int .i64 ((m + 1 : Nat) : Int), .int .i64 ((m : Nat) : Int), .int .i64 ((m : Nat) : Int), .int .i64 ((m / 4 : Nat) : Int), .pointer (some ⟨(L15.b 2), 0 + (m / 4) * 1, none⟩), W32 (S (m / 4)), .int .i64 ((m : Nat) : Int), .int .i64 ((m % 4 : Nat) : Int), .int .i64 ((8 * (m % 4) : Nat) : Int), .int .i64 ((24 - 8 * (m % 4) : Nat) : Int), W32 ((S (m / 4)) >>> (24 - 8 * (m % 4))), .int .u8 ((((S (m / 4)) >>> (24 - 8 * (m % 4))).toNat : Int) % 256), .pointer (some ⟨(L23.b 0), 0 + m * 1, none⟩), d 74])))))) : List Value).getD zz undef), by kernel_rfl, by omega, by rw [obx_s]; exact hp28⟩
  obtain rfl : m = 32 := by omega
  refine wp_seq_k (fun K40 k40 => ?_)
  refine wp_seq_k (fun K41 k41 => ?_)
  refine gs [.det (.int .i64 ((32 : Nat) : Int)), .det (.bool false)] [0, 1] [0, 1] (fun L => D d 0 2 ++ ([L0.p 0] ++ (D d 3 2 ++ ([L15.p 2] ++ (D d 6 3 ++ ([L23.p 0, .int .i64 ((32 : Nat) : Int)] ++ (D d 11 47 ++ ([.int .i64 ((32 : Nat) : Int), .bool false] ++ D d 60 15)))))))) (fun L => [(L0.b 0, BC (fun _ => 0) 32), (k, BC (pd g n) l), (L15.b 2, AW S 8), (L15.b 3, AW (hz true 64) 64), (L23.b 0, BC (obx S 32) 32)]) hJ ⟨
    oM, oJ .i64 .i64 ((32 : Nat) : Int) 32 (h := fun w => (lssI _ _ _ w).trans (by rw [decide_eq_false (by omega)])),
    trivial⟩ (fun L28 w29 hp29 => ?_)
  refine k41 _ _ ?_
  refine wp_cond_false (by kernel_rfl) ?_
  refine wp_exit ?_
  refine then_exit ?_
  refine then_exit ?_
  refine k35 _ _ _ ?_
  refine exit_in ?_
  refine k33 _ _ ?_
  refine wp_seq_k (fun K42 k42 => ?_)
  refine gs [.det (VB (obx S 32) 32), .store (.base 0) 0 (BC (obx S 32) 32) (BC (obx S 32) 32)] [0, 1] [0, 1] (fun L => D d 0 2 ++ ([L0.p 0] ++ (D d 3 2 ++ ([L15.p 2] ++ (D d 6 3 ++ ([L23.p 0, .int .i64 ((32 : Nat) : Int)] ++ (D d 11 47 ++ ([.int .i64 ((32 : Nat) : Int), .bool false] ++ (D d 60 14 ++ [VB (obx S 32) 32]))))))))) (fun L => [(L0.b 0, BC (obx S 32) 32), (k, BC (pd g n) l), (L15.b 2, AW S 8), (L15.b 3, AW (hz true 64) 64), (L23.b 0, BC (obx S 32) 32)]) hp29 ⟨
    oL 4 0 rB32, oT rB32,
    trivial⟩ (fun L29 w30 hp30 => ?_)
  refine k42 _ _ ?_
  refine wp_ret ?_
  refine bodyPost_ret (v := VB (obx S 32) 32) ?_ rfl ?_
  · exact rc rB32 rfl (by kernel_rfl) (hp30.bound 0 rfl).2
  · exact ⟨by rw [eS, eN]; exact congrArg (fun z => Ending.returned (.agg (List.toArray z))) (BC_congr fun j hj => obx_at _ 32 j hj), hp30.bel⟩
end Go.Proofs.Ytccidmogamnihaa.fpn

/- Twins of bytes; what is kept of them. -/
namespace Go.Proofs.Ytccidmogamnihaa.fpn
open Go.RowKit Pl
set_option linter.unusedVariables false
set_option linter.unusedSimpArgs false
set_option maxRecDepth 4000

section
variable {ops : Array Oper} {ks : List Kind} {T : List Nat} {a0 : Act} {B : Nat} {w0 W0 : World} {H : List (Nat × List Value)} {i : Nat} {o : Oper}
end
end Go.Proofs.Ytccidmogamnihaa.fpn

/- Arrays held against themselves; what is asked of package sha. -/
namespace Go.Proofs.Ytccidmogamnihaa.fpn
open Go.RowKit Pl
set_option linter.unusedVariables false
set_option linter.unusedSimpArgs false
set_option maxRecDepth 4000

theorem forIn_stay {β : Type} {init : β} {f : Nat → β → Sem (ForInStep β)} {w : World} : ∀ {l : List Nat}, (∀ i ∈ l, (f i init).run Try.prog w = .ok (.yield init) w) → (forIn l init f).run Try.prog w = .ok init w
  | [], _ => rfl
  | i :: l, h => by
    rw [List.forIn_cons, Sem.run_bind, h i (List.mem_cons_self)]
    exact forIn_stay fun j hj => h j (List.mem_cons_of_mem _ hj)
theorem eq_self {d : Nat} {t e : TypeId} {n : Nat} {cs : Array Value} {w : World} (hu : Try.prog.underlying t = some (.array n e)) (hs : (sizeOf e).run Try.prog w = .ok 1 w)
    (hp : ∀ i, i < n → ∃ v, (part e cs (i * 1)).run Try.prog w = .ok v w ∧ (Op.equalIn (d + 1) e v v).run Try.prog w = .ok true w) : (Op.equalIn (d + 2) t (.agg cs) (.agg cs)).run Try.prog w = .ok true w := by
  rw [show d + 2 = (d + 1) + 1 from rfl, Op.equalIn.eq_def]
  simp only [Sem.run_bind, run_underlying hu, Result.andThen_ok, hs]
  simp only [Std.Legacy.Range.forIn_eq_forIn_range', Std.Legacy.Range.size, Nat.sub_zero, Nat.add_sub_cancel, Nat.div_one]
  rw [forIn_stay]
  · rfl
  · intro i hi
    have hi : i < n := by simpa using hi
    obtain ⟨v, h1, h2⟩ := hp i hi
    rw [Nat.mul_one] at h1
    simp [Sem.run_bind, h1, h2]
theorem eqByte (d : Nat) (x : Int) (w : World) : (Op.equalIn (d + 1) 5 (.int .u8 x) (.int .u8 x)).run Try.prog w = .ok true w := by
  rw [Op.equalIn.eq_def]
  simp [Sem.run_bind, run_underlying Try.underlying5]
theorem guardA (op : BinOp) (x y : Operand) (a b : Array Value) (w : World) : (eqGuard op 38 x y (.agg a) (.agg b)).run Try.prog w = .ok () w := by
  have h : Try.prog.eqGuardType Try.prog.depth 38 = false := by kernel_rfl
  unfold eqGuard
  cases op <;> simp [Sem.run_bind, h]
theorem eqlA (f : Nat → Int) (w : World) : (binOp .eql 38 (VB f 32) (VB f 32)).run Try.prog w = .ok (.bool true) w := by
  have e := eq_self (d := 9998) (cs := (BC f 32).toArray) (w := w) Try.underlying38 (size_of sizeY w) (fun i hi => ⟨.int .u8 (f i), by
    rw [Nat.mul_one]
    simp [part, Sem.run_bind, Try.isAgg5, BC, hi], eqByte _ _ w⟩)
  unfold VB
  simp [binOp, Sem.run_bind, Op.equal, Op.maxDepth, e]
theorem pd_congr {g g' : Nat → Int} {n : Nat} (h : ∀ j, j < n → g j = g' j) : pd g n = pd g' n := by
  funext j
  unfold pd
  by_cases hj : j < n
  · rw [if_pos hj, if_pos hj, h j hj]
  · rw [if_neg hj, if_neg hj]
theorem dig_congr {g g' : Nat → Int} {n : Nat} (h : ∀ j, j < n → g j = g' j) : dig g n = dig g' n := by
  have e : ∀ j, hsx g n j = hsx g' n j := fun j => by
    induction j with
    | zero => rw [hsx_0, hsx_0]
    | succ j ih => rw [hsx_s, hsx_s, ih, pd_congr h]
  unfold dig; rw [e]
structure ShaK : Prop where
  sum : ∀ (g : Nat → Int) (p : Option Addr) (n c : Nat) (w : World), n ≤ 400 → n ≤ c → AtK .u8 w p n g → (∀ j, j < n → 0 ≤ g j ∧ g j < 256) → Calls Try.prog 15 #[.slice p n c] w (Ret (VB (dig g n) 32) w)
  block : ∀ (h : Nat → BitVec 32) (c : Nat → Int) (w : World), (∀ i, i < 64 → 0 ≤ c i ∧ c i < 256) → Calls Try.prog 23 #[VW h 8, VB c 64] w (Ret (VW (blk h c (hz true 64)) 8) w)
end Go.Proofs.Ytccidmogamnihaa.fpn

/- A digest by whole blocks and what is left: no program is named here. -/
namespace Go.Proofs.Ytccidmogamnihaa.fpn
open Go.RowKit Pl
set_option linter.unusedVariables false
set_option linter.unusedSimpArgs false

theorem wst_congr {c c' : Nat → Int} {n : Nat} (h : ∀ i, i < n → c i = c' i) : ∀ m, m ≤ n → wst c m = wst c' m
  | 0, _ => by rw [wst_0, wst_0]
  | m + 1, hm => by rw [wst_s, wst_s, wst_congr h m (by omega), h m (by omega)]
theorem blk_bytes {h k : Nat → BitVec 32} {c c' : Nat → Int} (e : ∀ i, i < 64 → c i = c' i) : blk h c k = blk h c' k := by
  unfold blk; rw [wst_congr e 64 (Nat.le_refl _)]
theorem padN_q (n : Nat) : padN n / 64 = if n % 64 < 56 then n / 64 + 1 else n / 64 + 2 := by
  unfold padN; split <;> omega
def lnb (n i : Nat) : Int := ((n * 8 / 2 ^ (8 * (63 - i)) % 256 : Nat) : Int)
theorem pd_whole (g : Nat → Int) {n j i : Nat} (h : j < n / 64) (hi : i < 64) : pd g n (64 * j + i) = g (64 * j + i) := pd_b g (by omega)
theorem pd_one (g : Nat → Int) {n i : Nat} (h : n % 64 < 56) (hi : i < 64) : pd g n (64 * (n / 64) + i) = if i < n % 64 then g (64 * (n / 64) + i) else if i = n % 64 then 128 else if i < 56 then 0 else lnb n i := by
  have hp : padN n = 64 * (n / 64) + 64 := by unfold padN; omega
  by_cases h1 : i < n % 64
  · rw [if_pos h1, pd_b g (by omega)]
  · rw [if_neg h1]
    by_cases h2 : i = n % 64
    · rw [if_pos h2, show 64 * (n / 64) + i = n by omega, pd_1]
    · rw [if_neg h2]
      by_cases h3 : i < 56
      · rw [if_pos h3, pd_0 g (by omega) (by omega)]
      · have := pd_l g (n := n) (q := i - 56) (by omega)
        rw [if_neg h3]
        unfold lnb
        rw [show padN n - 8 + (i - 56) = 64 * (n / 64) + i by omega, show 7 - (i - 56) = 63 - i by omega] at this
        exact this
theorem pd_two (g : Nat → Int) {n i : Nat} (h : 56 ≤ n % 64) (hi : i < 64) : pd g n (64 * (n / 64) + i) = if i < n % 64 then g (64 * (n / 64) + i) else if i = n % 64 then 128 else 0 := by
  have hp : padN n = 64 * (n / 64) + 128 := by unfold padN; omega
  by_cases h1 : i < n % 64
  · rw [if_pos h1, pd_b g (by omega)]
  · rw [if_neg h1]
    by_cases h2 : i = n % 64
    · rw [if_pos h2, show 64 * (n / 64) + i = n by omega, pd_1]
    · rw [if_neg h2, pd_0 g (by omega) (by omega)]
theorem pd_end2 (g : Nat → Int) {n i : Nat} (h : 56 ≤ n % 64) (hi : i < 64) : pd g n (64 * (n / 64 + 1) + i) = if i < 56 then 0 else lnb n i := by
  have hp : padN n = 64 * (n / 64) + 128 := by unfold padN; omega
  by_cases h3 : i < 56
  · rw [if_pos h3, pd_0 g (by omega) (by omega)]
  · have := pd_l g (n := n) (q := i - 56) (by omega)
    rw [if_neg h3]
    unfold lnb
    rw [show padN n - 8 + (i - 56) = 64 * (n / 64 + 1) + i by omega, show 7 - (i - 56) = 63 - i by omega] at this
    exact this
theorem hsx_whole (g : Nat → Int) {n j : Nat} (h : j < n / 64) : hsx g n (j + 1) = blk (hsx g n j) (fun i => g (64 * j + i)) (hz true 64) := by
  rw [hsx_s]; exact blk_bytes fun i hi => pd_whole g h hi
theorem dig_one (g : Nat → Int) {n : Nat} (h : n % 64 < 56) {c : Nat → Int} (hc : ∀ i, i < 64 → c i = if i < n % 64 then g (64 * (n / 64) + i) else if i = n % 64 then 128 else if i < 56 then 0 else lnb n i) : dig g n = ob (blk (hsx g n (n / 64)) c (hz true 64)) := by
  unfold dig
  rw [padN_q, if_pos h, hsx_s, blk_bytes fun i hi => (pd_one g h hi).trans (hc i hi).symm]
theorem dig_two (g : Nat → Int) {n : Nat} (h : 56 ≤ n % 64) {c d : Nat → Int} (hc : ∀ i, i < 64 → c i = if i < n % 64 then g (64 * (n / 64) + i) else if i = n % 64 then 128 else 0) (hd : ∀ i, i < 64 → d i = if i < 56 then 0 else lnb n i) : dig g n = ob (blk (blk (hsx g n (n / 64)) c (hz true 64)) d (hz true 64)) := by
  unfold dig
  rw [padN_q, if_neg (by omega), hsx_s, blk_bytes fun i hi => (pd_end2 g h hi).trans (hd i hi).symm, hsx_s, blk_bytes fun i hi => (pd_two g h hi).trans (hc i hi).symm]
end Go.Proofs.Ytccidmogamnihaa.fpn
