/- A region goes by its plan, in whatever order. No program is named here. -/
import Derived.Test.YtklddcicfeakfaaPL
namespace Go.Proofs.Ytklddcicfeakfaa.Pl
open Go Go.RowKit
set_option linter.unusedVariables false
set_option linter.unusedSimpArgs false

section
variable {P : Program} {ops : Array Oper} {ks : List Kind} {T : List Nat} {a0 : Act} {B : Nat} {w0 W0 : World} {H : List (Nat × List Value)} {Q : Exit → Act → World → Prop}

def slot (ops : Array Oper) (ks : List Kind) (a0 : Act) (L : Lt) (listed : Array Bool) (t : Nat) : Value :=
  match own ops t with
  | none => a0.tmps.getD t undef
  | some j => if listed.getD j false then val ks L j else a0.tmps.getD t undef

structure FrameI (ops : Array Oper) (ks : List Kind) (a0 : Act) (L : Lt) (listed : Array Bool) (a : Act) : Prop where
  df : a.defers = a0.defers
  ts : a.tmps.size = a0.tmps.size
  fr : ∀ t, a.tmps.getD t undef = slot ops ks a0 L listed t

structure MemI (ks : List Kind) (B : Nat) (w0 W0 : World) (H : List (Nat × List Value)) (L : Lt) (listed : Array Bool) (w : World) : Prop where
  bl : Below B w0 w
  le : W0.heap.size ≤ w.heap.size
  hb : ∀ k p, H[k]? = some p → Box w p.1 (cur ks listed (.base k) p.2)
  hn : ∀ j cs, kd ks j = .alloc cs → listed.getD j false = true → W0.heap.size ≤ L.b j ∧ Box w (L.b j) (cur ks listed (.new j) cs)
  ij : ∀ j k, isAlloc ks j = true → isAlloc ks k = true → listed.getD j false = true → listed.getD k false = true → L.b j = L.b k → j = k
  an : (∀ s, isStore ks s = true → listed.getD s false = false) → ∀ j C, kd ks j = .any C → listed.getD j false = true → C (L.v j) w
  sb : ∀ j C, kd ks j = .any C → listed.getD j false = true → ∀ v w x, C v w → Below w.heap.size w x → C v x

structure Inv (ops : Array Oper) (ks : List Kind) (T : List Nat) (a0 : Act) (B : Nat) (w0 W0 : World) (H : List (Nat × List Value)) (L : Lt) (listed : Array Bool) (a : Act) (w : World) : Prop where
  sz : listed.size = ops.size
  cl : ∀ i, listed.getD i false = true → ∀ j, bef T i j = true → listed.getD j false = true
  F : FrameI ops ks a0 L listed a
  M : MemI ks B w0 W0 H L listed w

theorem ls_get {listed : Array Bool} {i : Nat} (hi : i < listed.size) (j : Nat) : (listed.setIfInBounds i true).getD j false = if j = i then true else listed.getD j false := by
  by_cases h : j = i
  · subst h; rw [if_pos rfl]; simp [hi]
  · rw [if_neg h, getD_set_ne false (fun e => h e.symm)]

theorem own_spec {t j : Nat} (h : own ops t = some j) : j < ops.size ∧ (ops[j]?).bind (·.dst) = some t := by
  have h1 := List.find?_some h
  have h2 := List.mem_of_find?_eq_some h
  exact ⟨by simpa using h2, by simpa using h1⟩

theorem chk_at {nt nh : Nat} (h : chk ops ks T nt nh = true) {i : Nat} {o : Oper} (ho : ops[i]? = some o) : chkOp ops ks T nt nh i o = true := by
  unfold chk at h
  simp only [Bool.and_eq_true, decide_eq_true_eq, List.all_eq_true, List.mem_range] at h
  have := h.2 i (by have := (Array.getElem?_eq_some_iff.1 ho).1; exact this)
  rw [ho] at this
  exact this
theorem chk_len {nt nh : Nat} (h : chk ops ks T nt nh = true) : ks.length = ops.size := by
  unfold chk at h
  simp only [Bool.and_eq_true, decide_eq_true_eq] at h
  exact h.1.1

/-- The looks, one by one. -/
structure Stat (ops : Array Oper) (ks : List Kind) (T : List Nat) (nt nh i : Nat) (o : Oper) : Prop where
  dst : ∀ d, o.dst = some d → own ops d = some i ∧ d < nt
  looks : ∀ t ∈ o.looksAt ops, ∀ j, own ops t = some j → j = i ∨ bef T i j = true ∨ bef T j i = true
  sel : ∀ cs b, o.op ≠ .select cs b
  grd : ∀ g want, o.guard = some (g, want) → bef T i g = true ∧ ∃ d, (ops[g]?).bind (·.dst) = some d
  sto : ∀ l off cs new, kd ks i = .store l off cs new → o.guard = none ∧ o.dst = none ∧ st ks l = some i ∧ (∀ j, l = .new j → bef T i j = true ∧ isAlloc ks j = true) ∧ (∀ k, l = .base k → k < nh)
  dB : ∀ k v, kd ks i = .detB k v → bef T i k = true
  dV : ∀ k v, kd ks i = .detV k v → bef T i k = true
  any : ∀ C, kd ks i = .any C → ∃ d, o.dst = some d
  all : ∀ cs, kd ks i = .alloc cs → ∃ d, o.dst = some d
  back : ∀ j ∈ aft ops i, j < i
  tab : ∀ j, bef T i j = true → ∃ k ∈ aft ops i, k = j ∨ bef T k j = true

theorem stat {nt nh : Nat} (h : chk ops ks T nt nh = true) {i : Nat} {o : Oper} (ho : ops[i]? = some o) : Stat ops ks T nt nh i o := by
  have c := chk_at h ho
  unfold chkOp at c
  simp only [Bool.and_eq_true] at c
  obtain ⟨⟨⟨⟨⟨⟨⟨h1, h2⟩, h3⟩, h4⟩, h5⟩, h6⟩, h7⟩, h8⟩ := c
  refine ⟨fun d hd => ?_, fun t ht j hj => ?_, fun cs b hs => ?_, fun g want hg => ?_, fun l off cs new hk => ?_, fun k v hk => ?_, fun k v hk => ?_, fun C hk => ?_, fun cs hk => ?_, fun j hj => ?_, fun j hj => ?_⟩
  · simp only [hd, Bool.and_eq_true, beq_iff_eq, decide_eq_true_eq] at h1; exact h1
  · have := List.all_eq_true.1 h2 t ht
    rw [hj] at this
    simp only [Bool.or_eq_true, beq_iff_eq] at this
    rcases this with (a | a) | a
    · exact .inl a
    · exact .inr (.inl a)
    · exact .inr (.inr a)
  · simp [hs] at h3
  · simp only [hg, Bool.and_eq_true] at h4
    exact ⟨h4.1, Option.isSome_iff_exists.1 h4.2⟩
  · simp only [hk, Bool.and_eq_true, beq_iff_eq, Option.isNone_iff_eq_none] at h5
    obtain ⟨⟨⟨a, b⟩, c⟩, d⟩ := h5
    refine ⟨a, b, c, fun j e => ?_, fun k e => ?_⟩
    · subst e; simpa using d
    · subst e; simpa using d
  · simp only [hk, Bool.and_eq_true] at h5; exact h5.1.1
  · simp only [hk, Bool.and_eq_true] at h5; exact h5.1
  · simp only [hk] at h5; exact Option.isSome_iff_exists.1 h5
  · simp only [hk] at h5; exact Option.isSome_iff_exists.1 h5
  · have := List.all_eq_true.1 h6 j hj
    simpa using this
  · have hlt : j < i := by
      unfold bef at hj
      by_cases hge : j < i
      · exact hge
      · have h9 : T.getD i 0 < 2 ^ j := Nat.lt_of_lt_of_le (by simpa using h8) (Nat.pow_le_pow_right (by decide) (by omega))
        rw [Nat.testBit_lt_two_pow h9] at hj
        cases hj
    have := List.all_eq_true.1 h7 j (by simpa using hlt)
    simp only [hj, Bool.not_true, Bool.false_or, List.any_eq_true, Bool.or_eq_true, beq_iff_eq] at this
    exact this

theorem kd_lt {j : Nat} (h : kd ks j ≠ .det undef) : j < ks.length := by
  unfold kd at h
  by_cases hj : j < ks.length
  · exact hj
  · simp [List.getD, List.getElem?_eq_none (Nat.le_of_not_lt hj)] at h
theorem isStore_lt {j : Nat} (h : isStore ks j = true) : j < ks.length := kd_lt fun e => by simp [isStore, e] at h

theorem st_spec {l : Loc} {s : Nat} (h : st ks l = some s) : ∃ off cs new, kd ks s = .store l off cs new := by
  have h1 := List.find?_some h
  unfold storesTo at h1
  cases hk : kd ks s with
  | store l' off cs new => rw [hk] at h1; have := of_decide_eq_true h1; subst this; exact ⟨off, cs, new, rfl⟩
  | _ => rw [hk] at h1; simp at h1

/-- The slots behind one operation. -/
theorem FrameI.next {nt nh : Nat} {L L' : Lt} {listed : Array Bool} {a : Act} {i : Nat} {o : Oper} {v : Value} (F : FrameI ops ks a0 L listed a) (S : Stat ops ks T nt nh i o) (hnt : nt = a0.tmps.size) (ho : ops[i]? = some o)
    (hi : i < listed.size) (hv : ∀ d, o.dst = some d → v = val ks L' i) (hL : ∀ j, j ≠ i → listed.getD j false = true → val ks L' j = val ks L j) :
    FrameI ops ks a0 L' (listed.setIfInBounds i true) (a.put o.dst v) := by
  refine ⟨?_, ?_, fun t => ?_⟩
  · cases h : o.dst <;> simp [Act.put, F.df]
  · cases h : o.dst <;> simp [Act.put, F.ts]
  · have main : ∀ d, o.dst ≠ some d → (a.tmps.getD d undef = slot ops ks a0 L' (listed.setIfInBounds i true) d) := fun d hd => by
      rw [F.fr d]
      unfold slot
      cases hw : own ops d with
      | none => rfl
      | some j =>
        simp only
        have hj := (own_spec hw).2
        have hne : j ≠ i := fun e => by subst e; rw [ho] at hj; exact hd hj
        rw [ls_get hi, if_neg hne]
        by_cases hl : listed.getD j false = true
        · rw [if_pos hl, if_pos hl, hL j hne hl]
        · rw [if_neg hl, if_neg hl]
    cases h : o.dst with
    | none => exact main t (by rw [h]; simp)
    | some d =>
      obtain ⟨hw, hd⟩ := S.dst d h
      by_cases e : t = d
      · subst e
        unfold slot
        simp only [hw]
        rw [ls_get hi, if_pos rfl, if_pos rfl, ← hv t h]
        have : t < a.tmps.size := by rw [F.ts, ← hnt]; exact hd
        simp [Act.put, this]
      · have := main t (by rw [h]; simpa using fun e' => e e'.symm)
        rw [← this]
        simp [Act.put, Array.getElem?_setIfInBounds_ne (fun e' => e e'.symm)]

theorem cur_same {listed : Array Bool} {i : Nat} {l : Loc} {cs : List Value} (hi : i < listed.size) (h : st ks l ≠ some i) : cur ks (listed.setIfInBounds i true) l cs = cur ks listed l cs := by
  unfold cur
  cases hs : st ks l with
  | none => rfl
  | some s =>
    have hne : s ≠ i := fun e => h (by rw [hs, e])
    have e : (listed.setIfInBounds i true).getD s false = listed.getD s false := by rw [ls_get hi, if_neg hne]
    simp only [e]

theorem st_ne {i : Nat} (h : isStore ks i = false) (l : Loc) : st ks l ≠ some i := fun e => by
  obtain ⟨off, cs, new, hk⟩ := st_spec e
  simp [isStore, hk] at h

/-- Memory behind an operation that only makes new memory, its letters as they were. -/
theorem MemI.quiet {L : Lt} {listed : Array Bool} {w w' : World} {i : Nat} (M : MemI ks B w0 W0 H L listed w) (hi : i < listed.size) (hB : B ≤ W0.heap.size) (hb : Below w.heap.size w w')
    (hs : isStore ks i = false) (ha : isAlloc ks i = false) (hy : ∀ C, kd ks i ≠ .any C) : MemI ks B w0 W0 H L (listed.setIfInBounds i true) w' := by
  have hne : ∀ j cs, kd ks j = .alloc cs → j ≠ i := fun j cs h e => by subst e; simp [isAlloc, h] at ha
  have hne' : ∀ j C, kd ks j = .any C → j ≠ i := fun j C h e => by subst e; exact hy C h
  refine ⟨M.bl.trans (hb.mono (Nat.le_trans hB M.le)), Nat.le_trans M.le hb.size, fun k p hp => ?_, fun j cs hk hl => ?_, fun j k hj hk hlj hlk => ?_, fun hno j C hk hl => ?_, fun j C hk hl => ?_⟩
  · rw [cur_same hi (st_ne hs _)]; exact (M.hb k p hp).up hb
  · rw [ls_get hi, if_neg (hne j cs hk)] at hl
    rw [cur_same hi (st_ne hs _)]
    exact ⟨(M.hn j cs hk hl).1, (M.hn j cs hk hl).2.up hb⟩
  · have nj : j ≠ i := fun e => by subst e; rw [hj] at ha; cases ha
    have nk : k ≠ i := fun e => by subst e; rw [hk] at ha; cases ha
    rw [ls_get hi, if_neg nj] at hlj
    rw [ls_get hi, if_neg nk] at hlk
    exact M.ij j k hj hk hlj hlk
  · rw [ls_get hi, if_neg (hne' j C hk)] at hl
    refine M.sb j C hk hl _ w w' (M.an (fun s hs' => ?_) j C hk hl) hb
    have := hno s hs'
    rw [ls_get hi] at this
    split at this
    · cases this
    · exact this
  · rw [ls_get hi, if_neg (hne' j C hk)] at hl
    exact M.sb j C hk hl

/-- .. behind a call whose value is a letter. -/
theorem MemI.letter {L : Lt} {listed : Array Bool} {w w' : World} {i : Nat} {C : Value → World → Prop} {v : Value} (M : MemI ks B w0 W0 H L listed w) (hi : i < listed.size) (hun : listed.getD i false = false) (hB : B ≤ W0.heap.size) (hb : Below w.heap.size w w')
    (hk : kd ks i = .any C) (hC : C v w') (hS : ∀ v w x, C v w → Below w.heap.size w x → C v x) : MemI ks B w0 W0 H (L.setV i v) (listed.setIfInBounds i true) w' := by
  have hs : isStore ks i = false := by simp [isStore, hk]
  have ha : isAlloc ks i = false := by simp [isAlloc, hk]
  have hne : ∀ j cs, kd ks j = .alloc cs → j ≠ i := fun j cs h e => by subst e; simp [isAlloc, h] at ha
  refine ⟨M.bl.trans (hb.mono (Nat.le_trans hB M.le)), Nat.le_trans M.le hb.size, fun k p hp => ?_, fun j cs hk hl => ?_, fun j k hj hkk hlj hlk => ?_, fun hno j D hj hl => ?_, fun j D hj hl => ?_⟩
  · rw [cur_same hi (st_ne hs _)]; exact (M.hb k p hp).up hb
  · rw [ls_get hi, if_neg (hne j cs hk)] at hl
    rw [cur_same hi (st_ne hs _)]
    exact ⟨(M.hn j cs hk hl).1, (M.hn j cs hk hl).2.up hb⟩
  · have nj : j ≠ i := fun e => by subst e; rw [hj] at ha; cases ha
    have nk : k ≠ i := fun e => by subst e; rw [hkk] at ha; cases ha
    rw [ls_get hi, if_neg nj] at hlj
    rw [ls_get hi, if_neg nk] at hlk
    exact M.ij j k hj hkk hlj hlk
  · by_cases e : j = i
    · subst e
      rw [hk] at hj; cases hj
      show C (if j = j then v else L.v j) w'
      rw [if_pos rfl]; exact hC
    · rw [ls_get hi, if_neg e] at hl
      show D (if j = i then v else L.v j) w'
      rw [if_neg e]
      refine M.sb j D hj hl _ w w' (M.an (fun s hs' => ?_) j D hj hl) hb
      have := hno s hs'
      rw [ls_get hi] at this
      split at this
      · cases this
      · exact this
  · by_cases e : j = i
    · subst e
      rw [hk] at hj; cases hj
      exact hS
    · rw [ls_get hi, if_neg e] at hl
      exact M.sb j D hj hl

/-- .. behind an operation that makes a box. -/
theorem MemI.made {L : Lt} {listed : Array Bool} {w : World} {i : Nat} {cs : List Value} {ty : TypeId} (M : MemI ks B w0 W0 H L listed w) (hi : i < listed.size) (hun : listed.getD i false = false) (hB : B ≤ W0.heap.size)
    (hk : kd ks i = .alloc cs) (hsn : ∀ s, st ks (.new i) = some s → listed.getD s false = false) : MemI ks B w0 W0 H (L.setB i w.heap.size) (listed.setIfInBounds i true) (w.alloc (.cells cs.toArray ty)) := by
  have hs : isStore ks i = false := by simp [isStore, hk]
  have hy : ∀ j C, kd ks j = .any C → j ≠ i := fun j C h e => by subst e; rw [hk] at h; cases h
  have hb : Below w.heap.size w (w.alloc (.cells cs.toArray ty)) := (Below.refl _ _).alloc (Nat.le_refl _) _
  refine ⟨M.bl.trans (hb.mono (Nat.le_trans hB M.le)), Nat.le_trans M.le hb.size, fun k p hp => ?_, fun j ds hj hl => ?_, fun j k hj hkk hlj hlk => ?_, fun hno j D hj hl => ?_, fun j D hj hl => ?_⟩
  · rw [cur_same hi (st_ne hs _)]; exact (M.hb k p hp).up hb
  · by_cases e : j = i
    · subst e
      rw [hk] at hj; cases hj
      have hbb : (L.setB j w.heap.size).b j = w.heap.size := by unfold Lt.setB; simp
      rw [hbb, cur_same hi (st_ne hs _)]
      refine ⟨M.le, ?_⟩
      have : cur ks listed (.new j) cs = cs := by
        unfold cur
        cases h : st ks (.new j) with
        | none => rfl
        | some s => simp [hsn s h]
      rw [this]
      exact Box.new w cs ty
    · rw [ls_get hi, if_neg e] at hl
      have hbb : (L.setB i w.heap.size).b j = L.b j := by unfold Lt.setB; simp [e]
      rw [hbb, cur_same hi (st_ne hs _)]
      exact ⟨(M.hn j ds hj hl).1, (M.hn j ds hj hl).2.up hb⟩
  · have old : ∀ j, isAlloc ks j = true → listed.getD j false = true → L.b j < w.heap.size := fun j h hl => by
      unfold isAlloc at h
      split at h
      · rename_i ds hd; exact (M.hn j ds hd hl).2.lt
      · cases h
    by_cases e : j = i
    · by_cases e' : k = i
      · intro _; rw [e, e']
      · subst e
        rw [ls_get hi, if_neg e'] at hlk
        have h1 : (L.setB j w.heap.size).b j = w.heap.size := by unfold Lt.setB; simp
        have h2 : (L.setB j w.heap.size).b k = L.b k := by unfold Lt.setB; simp [e']
        rw [h1, h2]
        intro h; have := old k hkk hlk; omega
    · rw [ls_get hi, if_neg e] at hlj
      have h1 : (L.setB i w.heap.size).b j = L.b j := by unfold Lt.setB; simp [e]
      by_cases e' : k = i
      · subst e'
        have h2 : (L.setB k w.heap.size).b k = w.heap.size := by unfold Lt.setB; simp
        rw [h1, h2]
        intro h; have := old j hj hlj; omega
      · rw [ls_get hi, if_neg e'] at hlk
        have h2 : (L.setB i w.heap.size).b k = L.b k := by unfold Lt.setB; simp [e']
        rw [h1, h2]
        exact M.ij j k hj hkk hlj hlk
  · have e := hy j D hj
    rw [ls_get hi, if_neg e] at hl
    refine M.sb j D hj hl _ w _ (M.an (fun s hs' => ?_) j D hj hl) hb
    have := hno s hs'
    rw [ls_get hi] at this
    split at this
    · cases this
    · exact this
  · rw [ls_get hi, if_neg (hy j D hj)] at hl
    exact M.sb j D hj hl

theorem mem_nodup {H : List (Nat × List Value)} (hnd : (H.map (·.1)).Nodup) {j k : Nat} {p q : Nat × List Value} (hj : H[j]? = some p) (hk : H[k]? = some q) (hne : j ≠ k) : p.1 ≠ q.1 := fun e => by
  have h1 : (H.map (·.1))[j]? = some p.1 := by simp [hj]
  have h2 : (H.map (·.1))[k]? = some q.1 := by simp [hk]
  obtain ⟨hj', ej⟩ := List.getElem?_eq_some_iff.1 h1
  obtain ⟨hk', ek⟩ := List.getElem?_eq_some_iff.1 h2
  have pw := List.pairwise_iff_getElem.1 hnd
  rcases Nat.lt_or_gt_of_ne hne with h | h
  · exact pw j k hj' hk' h (by rw [ej, ek, e])
  · exact pw k j hk' hj' h (by rw [ej, ek, e])

/-- .. behind a store. -/
theorem MemI.stored {L : Lt} {listed : Array Bool} {w : World} {i off : Nat} {l : Loc} {cs new : List Value} (M : MemI ks B w0 W0 H L listed w) (hi : i < listed.size) (hun : listed.getD i false = false)
    (hk : kd ks i = .store l off cs new) (hst : st ks l = some i) (hnew : ∀ j, l = .new j → listed.getD j false = true ∧ isAlloc ks j = true) (hbase : ∀ k, l = .base k → k < H.length)
    (hB : B ≤ W0.heap.size) (hH : ∀ p ∈ H, B ≤ p.1 ∧ p.1 < W0.heap.size) (hnd : (H.map (·.1)).Nodup)
    (hlen : off + cs.length ≤ (oldOf ks H l).length) (hsp : new = splice (oldOf ks H l) off cs) :
    MemI ks B w0 W0 H L (listed.setIfInBounds i true) (w.setCells (addr H L l) off cs) := by
  have hwr := Wr.set (addr H L l) cs off w
  have ha : isAlloc ks i = false := by simp [isAlloc, hk]
  have hcur : ∀ x, cur ks listed l x = x := fun x => by unfold cur; simp [hst, hun]
  have hcur' : ∀ x, cur ks (listed.setIfInBounds i true) l x = new := fun x => by
    unfold cur newOf; simp only [hst]; rw [if_pos (by rw [ls_get hi, if_pos rfl])]; simp [hk]
  have hoth : ∀ l', l' ≠ l → st ks l' ≠ some i := fun l' hne e => by
    obtain ⟨o', c', n', hk'⟩ := st_spec e
    rw [hk] at hk'; cases hk'; exact hne rfl
  have hbox : Box w (addr H L l) (oldOf ks H l) ∧ B ≤ addr H L l := by
    cases l with
    | base k =>
      have hk' := hbase k rfl
      have hp : H[k]? = some (H.getD k (0, [])) := by simp [List.getD, List.getElem?_eq_getElem hk']
      have := M.hb k _ hp
      rw [hcur] at this
      exact ⟨this, (hH _ (List.mem_of_getElem? hp)).1⟩
    | new j =>
      obtain ⟨hl, hal⟩ := hnew j rfl
      unfold isAlloc at hal
      split at hal
      · rename_i ds hd
        have := M.hn j ds hd hl
        rw [hcur] at this
        refine ⟨?_, Nat.le_trans hB this.1⟩
        simp only [oldOf, hd, addr]
        exact this.2
      · cases hal
  have hnewbox : Box (w.setCells (addr H L l) off cs) (addr H L l) new := hsp ▸ Box.set hbox.1 hlen
  have hlt : ∀ j, listed.getD j false = true → j ≠ i := fun j h e => by subst e; rw [hun] at h; cases h
  have hlk : ∀ j cs', kd ks j = .alloc cs' → (listed.setIfInBounds i true).getD j false = true → listed.getD j false = true := fun j cs' hj h => by
    have : j ≠ i := fun e => by subst e; simp [isAlloc, hj] at ha
    rwa [ls_get hi, if_neg this] at h
  refine ⟨M.bl.trans (hwr.below hbox.2), by rw [hwr.size]; exact M.le, fun k p hp => ?_, fun j ds hj hl => ?_, fun j k hj hkk hlj hlkk => ?_, fun hno => ?_, fun j D hj hl => ?_⟩
  · by_cases e : l = .base k
    · subst e
      rw [hcur']
      have : addr H L (.base k) = p.1 := by simp [addr, List.getD, hp]
      rw [this] at hnewbox ⊢
      exact hnewbox
    · rw [cur_same hi (hoth _ (fun e' => e e'.symm))]
      refine (M.hb k p hp).wr hwr ?_
      cases l with
      | base k' =>
        have hk' := hbase k' rfl
        have hp' : H[k']? = some (H.getD k' (0, [])) := by simp [List.getD, List.getElem?_eq_getElem hk']
        exact mem_nodup hnd hp hp' (fun e' => e (by rw [e']))
      | new j =>
        obtain ⟨hl, hal⟩ := hnew j rfl
        unfold isAlloc at hal
        split at hal
        · rename_i ds hd
          have h1 := (M.hn j ds hd hl).1
          have h2 := (hH p (List.mem_of_getElem? hp)).2
          show p.1 ≠ L.b j
          omega
        · cases hal
  · have hl' := hlk j ds hj hl
    by_cases e : l = .new j
    · subst e
      rw [hcur']
      exact ⟨(M.hn j ds hj hl').1, hnewbox⟩
    · rw [cur_same hi (hoth _ (fun e' => e e'.symm))]
      refine ⟨(M.hn j ds hj hl').1, (M.hn j ds hj hl').2.wr hwr ?_⟩
      cases l with
      | base k' =>
        have hk' := hbase k' rfl
        have hp' : H[k']? = some (H.getD k' (0, [])) := by simp [List.getD, List.getElem?_eq_getElem hk']
        have h1 := (M.hn j ds hj hl').1
        have h2 := (hH _ (List.mem_of_getElem? hp')).2
        show L.b j ≠ (H.getD k' (0, [])).1
        omega
      | new j' =>
        obtain ⟨hll, hal⟩ := hnew j' rfl
        intro h
        have := M.ij j j' (by simp [isAlloc, hj]) hal hl' hll h
        exact e (by rw [this])
  · have nj : j ≠ i := fun e => by subst e; rw [hj] at ha; cases ha
    have nk : k ≠ i := fun e => by subst e; rw [hkk] at ha; cases ha
    rw [ls_get hi, if_neg nj] at hlj
    rw [ls_get hi, if_neg nk] at hlkk
    exact M.ij j k hj hkk hlj hlkk
  · have := hno i (by simp [isStore, hk])
    rw [ls_get hi, if_pos rfl] at this
    cases this
  · have : j ≠ i := fun e => by subst e; rw [hk] at hj; cases hj
    rw [ls_get hi, if_neg this] at hl
    exact M.sb j D hj hl

end
end Go.Proofs.Ytklddcicfeakfaa.Pl
