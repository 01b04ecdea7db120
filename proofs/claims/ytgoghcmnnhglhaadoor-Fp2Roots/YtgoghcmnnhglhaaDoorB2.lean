/- PM PN HV ZA ZT RF HW PO HX HY PQ ZX ZB ZV ZU. -/
import Derived.Test.YtgoghcmnnhglhaaDoorB1
import Derived.Deep.RegionHeld3
import Derived.WalkLawsBesides
import Derived.LoopN
import Derived.Deep.RegionWith
/- A region goes by its plan, in whatever order. No program is named here. -/
namespace Go.Proofs.YtgoghcmnnhglhaaDoor.Pl
open Go Go.RowKit
set_option linter.unusedVariables false
set_option linter.unusedSimpArgs false

section
variable {P : Program} {ops : Array Oper} {ks : List Kind} {T : List Nat} {a0 : Act} {B : Nat} {w0 W0 : World} {H : List (Nat × List Value)} {Q : Exit → Act → World → Prop}

def slot (ops : Array Oper) (ks : List Kind) (a0 : Act) (L : Lt) (listed : Array Bool) (t : Nat) : Value :=
  match own ops t with
  | none => a0.tmps.getD t undef
  | some j => if listed.getD j false then val ks L j else a0.tmps.getD t undef

structure FrameI (ops : Array Oper) (ks : List Kind) (a0 : Act) (L : Lt) (listed : Array Bool) (a : Act) : Prop where
  df : a.defers = a0.defers
  ts : a.tmps.size = a0.tmps.size
  fr : ∀ t, a.tmps.getD t undef = slot ops ks a0 L listed t

structure MemI (ks : List Kind) (B : Nat) (w0 W0 : World) (H : List (Nat × List Value)) (L : Lt) (listed : Array Bool) (w : World) : Prop where
  bl : Below B w0 w
  le : W0.heap.size ≤ w.heap.size
  hb : ∀ k p, H[k]? = some p → Box w p.1 (cur ks listed (.base k) p.2)
  hn : ∀ j cs, kd ks j = .alloc cs → listed.getD j false = true → W0.heap.size ≤ L.b j ∧ Box w (L.b j) (cur ks listed (.new j) cs)
  ij : ∀ j k, isAlloc ks j = true → isAlloc ks k = true → listed.getD j false = true → listed.getD k false = true → L.b j = L.b k → j = k
  an : (∀ s, isStore ks s = true → listed.getD s false = false) → ∀ j C, kd ks j = .any C → listed.getD j false = true → C (L.v j) w
  sb : ∀ j C, kd ks j = .any C → listed.getD j false = true → ∀ v w x, C v w → Below w.heap.size w x → C v x

structure Inv (ops : Array Oper) (ks : List Kind) (T : List Nat) (a0 : Act) (B : Nat) (w0 W0 : World) (H : List (Nat × List Value)) (L : Lt) (listed : Array Bool) (a : Act) (w : World) : Prop where
  sz : listed.size = ops.size
  cl : ∀ i, listed.getD i false = true → ∀ j, bef T i j = true → listed.getD j false = true
  F : FrameI ops ks a0 L listed a
  M : MemI ks B w0 W0 H L listed w

theorem ls_get {listed : Array Bool} {i : Nat} (hi : i < listed.size) (j : Nat) : (listed.setIfInBounds i true).getD j false = if j = i then true else listed.getD j false := by
  by_cases h : j = i
  · subst h; rw [if_pos rfl]; simp [hi]
  · rw [if_neg h, getD_set_ne false (fun e => h e.symm)]

theorem own_spec {t j : Nat} (h : own ops t = some j) : j < ops.size ∧ (ops[j]?).bind (·.dst) = some t := by
  have h1 := List.find?_some h
  have h2 := List.mem_of_find?_eq_some h
  exact ⟨by simpa using h2, by simpa using h1⟩

theorem chk_at {nt nh : Nat} (h : chk ops ks T nt nh = true) {i : Nat} {o : Oper} (ho : ops[i]? = some o) : chkOp ops ks T nt nh i o = true := by
  unfold chk at h
  simp only [Bool.and_eq_true, decide_eq_true_eq, List.all_eq_true, List.mem_range] at h
  have := h.2 i (by have := (Array.getElem?_eq_some_iff.1 ho).1; exact this)
  rw [ho] at this
  exact this
theorem chk_len {nt nh : Nat} (h : chk ops ks T nt nh = true) : ks.length = ops.size := by
  unfold chk at h
  simp only [Bool.and_eq_true, decide_eq_true_eq] at h
  exact h.1.1

/-- The looks, one by one. -/
structure Stat (ops : Array Oper) (ks : List Kind) (T : List Nat) (nt nh i : Nat) (o : Oper) : Prop where
  dst : ∀ d, o.dst = some d → own ops d = some i ∧ d < nt
  looks : ∀ t ∈ o.looksAt ops, ∀ j, own ops t = some j → j = i ∨ bef T i j = true ∨ bef T j i = true
  sel : ∀ cs b, o.op ≠ .select cs b
  grd : ∀ g want, o.guard = some (g, want) → bef T i g = true ∧ ∃ d, (ops[g]?).bind (·.dst) = some d
  sto : ∀ l off cs new, kd ks i = .store l off cs new → o.guard = none ∧ o.dst = none ∧ st ks l = some i ∧ (∀ j, l = .new j → bef T i j = true ∧ isAlloc ks j = true) ∧ (∀ k, l = .base k → k < nh)
  dB : ∀ k v, kd ks i = .detB k v → bef T i k = true
  dV : ∀ k v, kd ks i = .detV k v → bef T i k = true
  any : ∀ C, kd ks i = .any C → ∃ d, o.dst = some d
  all : ∀ cs, kd ks i = .alloc cs → ∃ d, o.dst = some d
  back : ∀ j ∈ aft ops i, j < i
  tab : ∀ j, bef T i j = true → ∃ k ∈ aft ops i, k = j ∨ bef T k j = true

theorem stat {nt nh : Nat} (h : chk ops ks T nt nh = true) {i : Nat} {o : Oper} (ho : ops[i]? = some o) : Stat ops ks T nt nh i o := by
  have c := chk_at h ho
  unfold chkOp at c
  simp only [Bool.and_eq_true] at c
  obtain ⟨⟨⟨⟨⟨⟨⟨h1, h2⟩, h3⟩, h4⟩, h5⟩, h6⟩, h7⟩, h8⟩ := c
  refine ⟨fun d hd => ?_, fun t ht j hj => ?_, fun cs b hs => ?_, fun g want hg => ?_, fun l off cs new hk => ?_, fun k v hk => ?_, fun k v hk => ?_, fun C hk => ?_, fun cs hk => ?_, fun j hj => ?_, fun j hj => ?_⟩
  · simp only [hd, Bool.and_eq_true, beq_iff_eq, decide_eq_true_eq] at h1; exact h1
  · have := List.all_eq_true.1 h2 t ht
    rw [hj] at this
    simp only [Bool.or_eq_true, beq_iff_eq] at this
    rcases this with (a | a) | a
    · exact .inl a
    · exact .inr (.inl a)
    · exact .inr (.inr a)
  · simp [hs] at h3
  · simp only [hg, Bool.and_eq_true] at h4
    exact ⟨h4.1, Option.isSome_iff_exists.1 h4.2⟩
  · simp only [hk, Bool.and_eq_true, beq_iff_eq, Option.isNone_iff_eq_none] at h5
    obtain ⟨⟨⟨a, b⟩, c⟩, d⟩ := h5
    refine ⟨a, b, c, fun j e => ?_, fun k e => ?_⟩
    · subst e; simpa using d
    · subst e; simpa using d
  · simp only [hk, Bool.and_eq_true] at h5; exact h5.1.1
  · simp only [hk, Bool.and_eq_true] at h5; exact h5.1
  · simp only [hk] at h5; exact Option.isSome_iff_exists.1 h5
  · simp only [hk] at h5; exact Option.isSome_iff_exists.1 h5
  · have := List.all_eq_true.1 h6 j hj
    simpa using this
  · have hlt : j < i := by
      unfold bef at hj
      by_cases hge : j < i
      · exact hge
      · have h9 : T.getD i 0 < 2 ^ j := Nat.lt_of_lt_of_le (by simpa using h8) (Nat.pow_le_pow_right (by decide) (by omega))
        rw [Nat.testBit_lt_two_pow h9] at hj
        cases hj
    have := List.all_eq_true.1 h7 j (by simpa using hlt)
    simp only [hj, Bool.not_true, Bool.false_or, List.any_eq_true, Bool.or_eq_true, beq_iff_eq] at this
    exact this

theorem kd_lt {j : Nat} (h : kd ks j ≠ .det undef) : j < ks.length := by
  unfold kd at h
  by_cases hj : j < ks.length
  · exact hj
  · simp [List.getD, List.getElem?_eq_none (Nat.le_of_not_lt hj)] at h
theorem isStore_lt {j : Nat} (h : isStore ks j = true) : j < ks.length := kd_lt fun e => by simp [isStore, e] at h

theorem st_spec {l : Loc} {s : Nat} (h : st ks l = some s) : ∃ off cs new, kd ks s = .store l off cs new := by
  have h1 := List.find?_some h
  unfold storesTo at h1
  cases hk : kd ks s with
  | store l' off cs new => rw [hk] at h1; have := of_decide_eq_true h1; subst this; exact ⟨off, cs, new, rfl⟩
  | _ => rw [hk] at h1; simp at h1

/-- The slots behind one operation. -/
theorem FrameI.next {nt nh : Nat} {L L' : Lt} {listed : Array Bool} {a : Act} {i : Nat} {o : Oper} {v : Value} (F : FrameI ops ks a0 L listed a) (S : Stat ops ks T nt nh i o) (hnt : nt = a0.tmps.size) (ho : ops[i]? = some o)
    (hi : i < listed.size) (hv : ∀ d, o.dst = some d → v = val ks L' i) (hL : ∀ j, j ≠ i → listed.getD j false = true → val ks L' j = val ks L j) :
    FrameI ops ks a0 L' (listed.setIfInBounds i true) (a.put o.dst v) := by
  refine ⟨?_, ?_, fun t => ?_⟩
  · cases h : o.dst <;> simp [Act.put, F.df]
  · cases h : o.dst <;> simp [Act.put, F.ts]
  · have main : ∀ d, o.dst ≠ some d → (a.tmps.getD d undef = slot ops ks a0 L' (listed.setIfInBounds i true) d) := fun d hd => by
      rw [F.fr d]
      unfold slot
      cases hw : own ops d with
      | none => rfl
      | some j =>
        simp only
        have hj := (own_spec hw).2
        have hne : j ≠ i := fun e => by subst e; rw [ho] at hj; exact hd hj
        rw [ls_get hi, if_neg hne]
        by_cases hl : listed.getD j false = true
        · rw [if_pos hl, if_pos hl, hL j hne hl]
        · rw [if_neg hl, if_neg hl]
    cases h : o.dst with
    | none => exact main t (by rw [h]; simp)
    | some d =>
      obtain ⟨hw, hd⟩ := S.dst d h
      by_cases e : t = d
      · subst e
        unfold slot
        simp only [hw]
        rw [ls_get hi, if_pos rfl, if_pos rfl, ← hv t h]
        have : t < a.tmps.size := by rw [F.ts, ← hnt]; exact hd
        simp [Act.put, this]
      · have := main t (by rw [h]; simpa using fun e' => e e'.symm)
        rw [← this]
        simp [Act.put, Array.getElem?_setIfInBounds_ne (fun e' => e e'.symm)]

theorem cur_same {listed : Array Bool} {i : Nat} {l : Loc} {cs : List Value} (hi : i < listed.size) (h : st ks l ≠ some i) : cur ks (listed.setIfInBounds i true) l cs = cur ks listed l cs := by
  unfold cur
  cases hs : st ks l with
  | none => rfl
  | some s =>
    have hne : s ≠ i := fun e => h (by rw [hs, e])
    have e : (listed.setIfInBounds i true).getD s false = listed.getD s false := by rw [ls_get hi, if_neg hne]
    simp only [e]

theorem st_ne {i : Nat} (h : isStore ks i = false) (l : Loc) : st ks l ≠ some i := fun e => by
  obtain ⟨off, cs, new, hk⟩ := st_spec e
  simp [isStore, hk] at h

/-- Memory behind an operation that only makes new memory, its letters as they were. -/
theorem MemI.quiet {L : Lt} {listed : Array Bool} {w w' : World} {i : Nat} (M : MemI ks B w0 W0 H L listed w) (hi : i < listed.size) (hB : B ≤ W0.heap.size) (hb : Below w.heap.size w w')
    (hs : isStore ks i = false) (ha : isAlloc ks i = false) (hy : ∀ C, kd ks i ≠ .any C) : MemI ks B w0 W0 H L (listed.setIfInBounds i true) w' := by
  have hne : ∀ j cs, kd ks j = .alloc cs → j ≠ i := fun j cs h e => by subst e; simp [isAlloc, h] at ha
  have hne' : ∀ j C, kd ks j = .any C → j ≠ i := fun j C h e => by subst e; exact hy C h
  refine ⟨M.bl.trans (hb.mono (Nat.le_trans hB M.le)), Nat.le_trans M.le hb.size, fun k p hp => ?_, fun j cs hk hl => ?_, fun j k hj hk hlj hlk => ?_, fun hno j C hk hl => ?_, fun j C hk hl => ?_⟩
  · rw [cur_same hi (st_ne hs _)]; exact (M.hb k p hp).up hb
  · rw [ls_get hi, if_neg (hne j cs hk)] at hl
    rw [cur_same hi (st_ne hs _)]
    exact ⟨(M.hn j cs hk hl).1, (M.hn j cs hk hl).2.up hb⟩
  · have nj : j ≠ i := fun e => by subst e; rw [hj] at ha; cases ha
    have nk : k ≠ i := fun e => by subst e; rw [hk] at ha; cases ha
    rw [ls_get hi, if_neg nj] at hlj
    rw [ls_get hi, if_neg nk] at hlk
    exact M.ij j k hj hk hlj hlk
  · rw [ls_get hi, if_neg (hne' j C hk)] at hl
    refine M.sb j C hk hl _ w w' (M.an (fun s hs' => ?_) j C hk hl) hb
    have := hno s hs'
    rw [ls_get hi] at this
    split at this
    · cases this
    · exact this
  · rw [ls_get hi, if_neg (hne' j C hk)] at hl
    exact M.sb j C hk hl

/-- .. behind a call whose value is a letter. -/
theorem MemI.letter {L : Lt} {listed : Array Bool} {w w' : World} {i : Nat} {C : Value → World → Prop} {v : Value} (M : MemI ks B w0 W0 H L listed w) (hi : i < listed.size) (hun : listed.getD i false = false) (hB : B ≤ W0.heap.size) (hb : Below w.heap.size w w')
    (hk : kd ks i = .any C) (hC : C v w') (hS : ∀ v w x, C v w → Below w.heap.size w x → C v x) : MemI ks B w0 W0 H (L.setV i v) (listed.setIfInBounds i true) w' := by
  have hs : isStore ks i = false := by simp [isStore, hk]
  have ha : isAlloc ks i = false := by simp [isAlloc, hk]
  have hne : ∀ j cs, kd ks j = .alloc cs → j ≠ i := fun j cs h e => by subst e; simp [isAlloc, h] at ha
  refine ⟨M.bl.trans (hb.mono (Nat.le_trans hB M.le)), Nat.le_trans M.le hb.size, fun k p hp => ?_, fun j cs hk hl => ?_, fun j k hj hkk hlj hlk => ?_, fun hno j D hj hl => ?_, fun j D hj hl => ?_⟩
  · rw [cur_same hi (st_ne hs _)]; exact (M.hb k p hp).up hb
  · rw [ls_get hi, if_neg (hne j cs hk)] at hl
    rw [cur_same hi (st_ne hs _)]
    exact ⟨(M.hn j cs hk hl).1, (M.hn j cs hk hl).2.up hb⟩
  · have nj : j ≠ i := fun e => by subst e; rw [hj] at ha; cases ha
    have nk : k ≠ i := fun e => by subst e; rw [hkk] at ha; cases ha
    rw [ls_get hi, if_neg nj] at hlj
    rw [ls_get hi, if_neg nk] at hlk
    exact M.ij j k hj hkk hlj hlk
  · by_cases e : j = i
    · subst e
      rw [hk] at hj; cases hj
      show C (if j = j then v else L.v j) w'
      rw [if_pos rfl]; exact hC
    · rw [ls_get hi, if_neg e] at hl
      show D (if j = i then v else L.v j) w'
      rw [if_neg e]
      refine M.sb j D hj hl _ w w' (M.an (fun s hs' => ?_) j D hj hl) hb
      have := hno s hs'
      rw [ls_get hi] at this
      split at this
      · cases this
      · exact this
  · by_cases e : j = i
    · subst e
      rw [hk] at hj; cases hj
      exact hS
    · rw [ls_get hi, if_neg e] at hl
      exact M.sb j D hj hl

/-- .. behind an operation that makes a box. -/
theorem MemI.made {L : Lt} {listed : Array Bool} {w : World} {i : Nat} {cs : List Value} {ty : TypeId} (M : MemI ks B w0 W0 H L listed w) (hi : i < listed.size) (hun : listed.getD i false = false) (hB : B ≤ W0.heap.size)
    (hk : kd ks i = .alloc cs) (hsn : ∀ s, st ks (.new i) = some s → listed.getD s false = false) : MemI ks B w0 W0 H (L.setB i w.heap.size) (listed.setIfInBounds i true) (w.alloc (.cells cs.toArray ty)) := by
  have hs : isStore ks i = false := by simp [isStore, hk]
  have hy : ∀ j C, kd ks j = .any C → j ≠ i := fun j C h e => by subst e; rw [hk] at h; cases h
  have hb : Below w.heap.size w (w.alloc (.cells cs.toArray ty)) := (Below.refl _ _).alloc (Nat.le_refl _) _
  refine ⟨M.bl.trans (hb.mono (Nat.le_trans hB M.le)), Nat.le_trans M.le hb.size, fun k p hp => ?_, fun j ds hj hl => ?_, fun j k hj hkk hlj hlk => ?_, fun hno j D hj hl => ?_, fun j D hj hl => ?_⟩
  · rw [cur_same hi (st_ne hs _)]; exact (M.hb k p hp).up hb
  · by_cases e : j = i
    · subst e
      rw [hk] at hj; cases hj
      have hbb : (L.setB j w.heap.size).b j = w.heap.size := by unfold Lt.setB; simp
      rw [hbb, cur_same hi (st_ne hs _)]
      refine ⟨M.le, ?_⟩
      have : cur ks listed (.new j) cs = cs := by
        unfold cur
        cases h : st ks (.new j) with
        | none => rfl
        | some s => simp [hsn s h]
      rw [this]
      exact Box.new w cs ty
    · rw [ls_get hi, if_neg e] at hl
      have hbb : (L.setB i w.heap.size).b j = L.b j := by unfold Lt.setB; simp [e]
      rw [hbb, cur_same hi (st_ne hs _)]
      exact ⟨(M.hn j ds hj hl).1, (M.hn j ds hj hl).2.up hb⟩
  · have old : ∀ j, isAlloc ks j = true → listed.getD j false = true → L.b j < w.heap.size := fun j h hl => by
      unfold isAlloc at h
      split at h
      · rename_i ds hd; exact (M.hn j ds hd hl).2.lt
      · cases h
    by_cases e : j = i
    · by_cases e' : k = i
      · intro _; rw [e, e']
      · subst e
        rw [ls_get hi, if_neg e'] at hlk
        have h1 : (L.setB j w.heap.size).b j = w.heap.size := by unfold Lt.setB; simp
        have h2 : (L.setB j w.heap.size).b k = L.b k := by unfold Lt.setB; simp [e']
        rw [h1, h2]
        intro h; have := old k hkk hlk; omega
    · rw [ls_get hi, if_neg e] at hlj
      have h1 : (L.setB i w.heap.size).b j = L.b j := by unfold Lt.setB; simp [e]
      by_cases e' : k = i
      · subst e'
        have h2 : (L.setB k w.heap.size).b k = w.heap.size := by unfold Lt.setB; simp
        rw [h1, h2]
        intro h; have := old j hj hlj; omega
      · rw [ls_get hi, if_neg e'] at hlk
        have h2 : (L.setB i w.heap.size).b k = L.b k := by unfold Lt.setB; simp [e']
        rw [h1, h2]
        exact M.ij j k hj hkk hlj hlk
  · have e := hy j D hj
    rw [ls_get hi, if_neg e] at hl
    refine M.sb j D hj hl _ w _ (M.an (fun s hs' => ?_) j D hj hl) hb
    have := hno s hs'
    rw [ls_get hi] at this
    split at this
    · cases this
    · exact this
  · rw [ls_get hi, if_neg (hy j D hj)] at hl
    exact M.sb j D hj hl

theorem mem_nodup {H : List (Nat × List Value)} (hnd : (H.map (·.1)).Nodup) {j k : Nat} {p q : Nat × List Value} (hj : H[j]? = some p) (hk : H[k]? = some q) (hne : j ≠ k) : p.1 ≠ q.1 := fun e => by
  have h1 : (H.map (·.1))[j]? = some p.1 := by simp [hj]
  have h2 : (H.map (·.1))[k]? = some q.1 := by simp [hk]
  obtain ⟨hj', ej⟩ := List.getElem?_eq_some_iff.1 h1
  obtain ⟨hk', ek⟩ := List.getElem?_eq_some_iff.1 h2
  have pw := List.pairwise_iff_getElem.1 hnd
  rcases Nat.lt_or_gt_of_ne hne with h | h
  · exact pw j k hj' hk' h (by rw [ej, ek, e])
  · exact pw k j hk' hj' h (by rw [ej, ek, e])

/-- .. behind a store. -/
theorem MemI.stored {L : Lt} {listed : Array Bool} {w : World} {i off : Nat} {l : Loc} {cs new : List Value} (M : MemI ks B w0 W0 H L listed w) (hi : i < listed.size) (hun : listed.getD i false = false)
    (hk : kd ks i = .store l off cs new) (hst : st ks l = some i) (hnew : ∀ j, l = .new j → listed.getD j false = true ∧ isAlloc ks j = true) (hbase : ∀ k, l = .base k → k < H.length)
    (hB : B ≤ W0.heap.size) (hH : ∀ p ∈ H, B ≤ p.1 ∧ p.1 < W0.heap.size) (hnd : (H.map (·.1)).Nodup)
    (hlen : off + cs.length ≤ (oldOf ks H l).length) (hsp : new = splice (oldOf ks H l) off cs) :
    MemI ks B w0 W0 H L (listed.setIfInBounds i true) (w.setCells (addr H L l) off cs) := by
  have hwr := Wr.set (addr H L l) cs off w
  have ha : isAlloc ks i = false := by simp [isAlloc, hk]
  have hcur : ∀ x, cur ks listed l x = x := fun x => by unfold cur; simp [hst, hun]
  have hcur' : ∀ x, cur ks (listed.setIfInBounds i true) l x = new := fun x => by
    unfold cur newOf; simp only [hst]; rw [if_pos (by rw [ls_get hi, if_pos rfl])]; simp [hk]
  have hoth : ∀ l', l' ≠ l → st ks l' ≠ some i := fun l' hne e => by
    obtain ⟨o', c', n', hk'⟩ := st_spec e
    rw [hk] at hk'; cases hk'; exact hne rfl
  have hbox : Box w (addr H L l) (oldOf ks H l) ∧ B ≤ addr H L l := by
    cases l with
    | base k =>
      have hk' := hbase k rfl
      have hp : H[k]? = some (H.getD k (0, [])) := by simp [List.getD, List.getElem?_eq_getElem hk']
      have := M.hb k _ hp
      rw [hcur] at this
      exact ⟨this, (hH _ (List.mem_of_getElem? hp)).1⟩
    | new j =>
      obtain ⟨hl, hal⟩ := hnew j rfl
      unfold isAlloc at hal
      split at hal
      · rename_i ds hd
        have := M.hn j ds hd hl
        rw [hcur] at this
        refine ⟨?_, Nat.le_trans hB this.1⟩
        simp only [oldOf, hd, addr]
        exact this.2
      · cases hal
  have hnewbox : Box (w.setCells (addr H L l) off cs) (addr H L l) new := hsp ▸ Box.set hbox.1 hlen
  have hlt : ∀ j, listed.getD j false = true → j ≠ i := fun j h e => by subst e; rw [hun] at h; cases h
  have hlk : ∀ j cs', kd ks j = .alloc cs' → (listed.setIfInBounds i true).getD j false = true → listed.getD j false = true := fun j cs' hj h => by
    have : j ≠ i := fun e => by subst e; simp [isAlloc, hj] at ha
    rwa [ls_get hi, if_neg this] at h
  refine ⟨M.bl.trans (hwr.below hbox.2), by rw [hwr.size]; exact M.le, fun k p hp => ?_, fun j ds hj hl => ?_, fun j k hj hkk hlj hlkk => ?_, fun hno => ?_, fun j D hj hl => ?_⟩
  · by_cases e : l = .base k
    · subst e
      rw [hcur']
      have : addr H L (.base k) = p.1 := by simp [addr, List.getD, hp]
      rw [this] at hnewbox ⊢
      exact hnewbox
    · rw [cur_same hi (hoth _ (fun e' => e e'.symm))]
      refine (M.hb k p hp).wr hwr ?_
      cases l with
      | base k' =>
        have hk' := hbase k' rfl
        have hp' : H[k']? = some (H.getD k' (0, [])) := by simp [List.getD, List.getElem?_eq_getElem hk']
        exact mem_nodup hnd hp hp' (fun e' => e (by rw [e']))
      | new j =>
        obtain ⟨hl, hal⟩ := hnew j rfl
        unfold isAlloc at hal
        split at hal
        · rename_i ds hd
          have h1 := (M.hn j ds hd hl).1
          have h2 := (hH p (List.mem_of_getElem? hp)).2
          show p.1 ≠ L.b j
          omega
        · cases hal
  · have hl' := hlk j ds hj hl
    by_cases e : l = .new j
    · subst e
      rw [hcur']
      exact ⟨(M.hn j ds hj hl').1, hnewbox⟩
    · rw [cur_same hi (hoth _ (fun e' => e e'.symm))]
      refine ⟨(M.hn j ds hj hl').1, (M.hn j ds hj hl').2.wr hwr ?_⟩
      cases l with
      | base k' =>
        have hk' := hbase k' rfl
        have hp' : H[k']? = some (H.getD k' (0, [])) := by simp [List.getD, List.getElem?_eq_getElem hk']
        have h1 := (M.hn j ds hj hl').1
        have h2 := (hH _ (List.mem_of_getElem? hp')).2
        show L.b j ≠ (H.getD k' (0, [])).1
        omega
      | new j' =>
        obtain ⟨hll, hal⟩ := hnew j' rfl
        intro h
        have := M.ij j j' (by simp [isAlloc, hj]) hal hl' hll h
        exact e (by rw [this])
  · have nj : j ≠ i := fun e => by subst e; rw [hj] at ha; cases ha
    have nk : k ≠ i := fun e => by subst e; rw [hkk] at ha; cases ha
    rw [ls_get hi, if_neg nj] at hlj
    rw [ls_get hi, if_neg nk] at hlkk
    exact M.ij j k hj hkk hlj hlkk
  · have := hno i (by simp [isStore, hk])
    rw [ls_get hi, if_pos rfl] at this
    cases this
  · have : j ≠ i := fun e => by subst e; rw [hk] at hj; cases hj
    rw [ls_get hi, if_neg this] at hl
    exact M.sb j D hj hl

end
end Go.Proofs.YtgoghcmnnhglhaaDoor.Pl

/- A region goes by its plan: the step, the end, the law. No program is named here. -/
namespace Go.Proofs.YtgoghcmnnhglhaaDoor.Pl
open Go Go.RowKit
set_option linter.unusedVariables false
set_option linter.unusedSimpArgs false

section
variable {P : Program} {ops : Array Oper} {ks : List Kind} {T : List Nat} {a0 : Act} {B : Nat} {w0 W0 : World} {H : List (Nat × List Value)} {Q : Exit → Act → World → Prop}

theorem listed_of_bef {nt nh : Nat} {L : Lt} {listed : Array Bool} {a : Act} {w : World} (I : Inv ops ks T a0 B w0 W0 H L listed a w) {i : Nat} {o : Oper} (S : Stat ops ks T nt nh i o) (hall : ∀ j ∈ aft ops i, listed.getD j false = true) :
    ∀ j, bef T i j = true → listed.getD j false = true := fun j hj => by
  obtain ⟨k, hk, h⟩ := S.tab j hj
  rcases h with rfl | h
  · exact hall _ hk
  · exact I.cl k (hall _ hk) j h

theorem eval_rd {nt nh : Nat} {L : Lt} {listed : Array Bool} {a : Act} {w : World} (I : Inv ops ks T a0 B w0 W0 H L listed a w) {i : Nat} {o : Oper} (S : Stat ops ks T nt nh i o) (hun : listed.getD i false = false)
    (hbef : ∀ j, bef T i j = true → listed.getD j false = true) : ∀ x ∈ o.op.operands, a.eval x = rd ops ks T a0 L i x := fun x hx => by
  cases x with
  | tmp t =>
    have ht : t ∈ o.looksAt ops := List.mem_append_left _ (List.mem_filterMap.2 ⟨.tmp t, by simpa using hx, rfl⟩)
    show a.tmps.getD t undef = _
    rw [I.F.fr t]
    unfold slot
    simp only [rd]
    cases hw : own ops t with
    | none => simp only
    | some j =>
      simp only
      by_cases hb : bef T i j = true
      · rw [if_pos (hbef j hb), if_pos hb]
      · rw [if_neg hb]
        rcases S.looks t ht j hw with e | e | e
        · subst e; rw [if_neg (by rw [hun]; simp)]
        · exact absurd e hb
        · rw [if_neg (fun h => by have := I.cl j h i e; rw [hun] at this; cases this)]
  | _ => rfl

theorem wanted_rd {nt nh : Nat} {L : Lt} {listed : Array Bool} {a : Act} {w : World} (hc : chk ops ks T nt nh = true) (hnt : nt = a0.tmps.size) (I : Inv ops ks T a0 B w0 W0 H L listed a w) {i : Nat} {o : Oper} (S : Stat ops ks T nt nh i o)
    (hbef : ∀ j, bef T i j = true → listed.getD j false = true) : Region.wanted o (yielded ops a.tmps) = wantedR ks L o := by
  unfold Region.wanted wantedR
  cases hg : o.guard with
  | none => rfl
  | some gw =>
    obtain ⟨g, want⟩ := gw
    obtain ⟨hb, d, hd⟩ := S.grd g want hg
    have hl := hbef g hb
    obtain ⟨og, hog, hdd⟩ : ∃ og, ops[g]? = some og ∧ og.dst = some d := by
      cases h : ops[g]? with
      | none => simp [h] at hd
      | some og => exact ⟨og, rfl, by simpa [h] using hd⟩
    obtain ⟨hw, hdl⟩ := (stat hc hog).dst d hdd
    have hv : a.tmps[d]? = some (val ks L g) := by
      have h1 := I.F.fr d
      unfold slot at h1
      rw [hw] at h1
      simp only [hl, if_true] at h1
      have hlt : d < a.tmps.size := by rw [I.F.ts, ← hnt]; exact hdl
      rw [← h1]
      simp [hlt]
    simp only [yielded, hd, Option.bind_some, hv]
    cases val ks L g <;> rfl

theorem no_stores {nt nh : Nat} {L : Lt} {listed : Array Bool} {a : Act} {w : World} (I : Inv ops ks T a0 B w0 W0 H L listed a w) {i : Nat} (hun : listed.getD i false = false) (he : early T ks i = true) :
    ∀ s, isStore ks s = true → listed.getD s false = false := fun s hs => by
  have h := List.all_eq_true.1 he s (by simpa using isStore_lt hs)
  simp only [hs, Bool.not_true, Bool.false_or] at h
  cases hl : listed.getD s false with
  | false => rfl
  | true => have := I.cl s hl i h; rw [hun] at this; cases this

theorem cur_none {listed : Array Bool} {l : Loc} {cs : List Value} (h : ∀ s, isStore ks s = true → listed.getD s false = false) : cur ks listed l cs = cs := by
  unfold cur
  cases hs : st ks l with
  | none => rfl
  | some s =>
    obtain ⟨off, ds, new, hk⟩ := st_spec hs
    simp [h s (by simp [isStore, hk])]

theorem seen {nt nh : Nat} {L : Lt} {listed : Array Bool} {a : Act} {w : World} (I : Inv ops ks T a0 B w0 W0 H L listed a w) {i : Nat} (hun : listed.getD i false = false) (hB : B ≤ W0.heap.size)
    (hbef : ∀ j, bef T i j = true → listed.getD j false = true) (he : early T ks i = true) : Seen ks T B w0 H L i w := by
  have hno := no_stores (nt := nt) (nh := nh) I hun he
  refine ⟨I.M.bl, Nat.le_trans hB I.M.le, fun p hp => ?_, fun j cs hk hb => ?_, fun j C hk hb => I.M.an hno j C hk (hbef j hb)⟩
  · obtain ⟨k, hk⟩ := List.getElem?_of_mem hp
    have := I.M.hb k p hk
    rwa [cur_none hno] at this
  · have := (I.M.hn j cs hk (hbef j hb)).2
    rwa [cur_none hno] at this

theorem cl_next {nt nh : Nat} {L : Lt} {listed : Array Bool} {a : Act} {w : World} (I : Inv ops ks T a0 B w0 W0 H L listed a w) {i : Nat} (hi : i < listed.size) (hbef : ∀ j, bef T i j = true → listed.getD j false = true) :
    ∀ k, (listed.setIfInBounds i true).getD k false = true → ∀ j, bef T k j = true → (listed.setIfInBounds i true).getD j false = true := fun k hk j hj => by
  rw [ls_get hi] at hk ⊢
  split
  · rfl
  · split at hk
    · rename_i e; subst e; exact hbef j hj
    · exact I.cl k hk j hj

theorem val_setB {nt nh : Nat} {L : Lt} {i x : Nat} {j : Nat} {o : Oper} (S : Stat ops ks T nt nh j o) (hji : j ≠ i) (hb : bef T j i = false) : val ks (L.setB i x) j = val ks L j := by
  unfold val
  cases hk : kd ks j with
  | detB k v =>
    have h1 := S.dB k v hk
    have : k ≠ i := fun e => by subst e; rw [hb] at h1; cases h1
    simp only [Lt.setB, if_neg this]
  | alloc cs => simp only [Lt.setB, if_neg hji]
  | _ => rfl
theorem val_setV {nt nh : Nat} {L : Lt} {i : Nat} {x : Value} {j : Nat} {o : Oper} (S : Stat ops ks T nt nh j o) (hji : j ≠ i) (hb : bef T j i = false) : val ks (L.setV i x) j = val ks L j := by
  unfold val
  cases hk : kd ks j with
  | detV k v =>
    have h1 := S.dV k v hk
    have : k ≠ i := fun e => by subst e; rw [hb] at h1; cases h1
    simp only [Lt.setV, if_neg this]
  | any C => simp only [Lt.setV, if_neg hji]
  | _ => rfl

theorem step {nt nh : Nat} (hc : chk ops ks T nt nh = true) (hnt : nt = a0.tmps.size) (hnh : nh = H.length) (hob : AllOb P ops ks T a0 B w0 H 0 ops.toList)
    (hB : B ≤ W0.heap.size) (hH : ∀ p ∈ H, B ≤ p.1 ∧ p.1 < W0.heap.size) (hnd : (H.map (·.1)).Nodup)
    {L : Lt} {listed : Array Bool} {a : Act} {w : World} {i : Nat} (I : Inv ops ks T a0 B w0 W0 H L listed a w) (hr : i ∈ Region.ready .any ops listed) :
    wpOp P ops Q i (fun a' w' => ∃ L', Inv ops ks T a0 B w0 W0 H L' (listed.setIfInBounds i true) a' w') a w := by
  obtain ⟨hut, o, ho, hall⟩ := mem_ready.1 hr
  have hio : i < ops.size := (Array.getElem?_eq_some_iff.1 ho).1
  have hi : i < listed.size := by rw [I.sz]; exact hio
  have hun : listed.getD i false = false := by simp [hi] at hut ⊢; exact hut
  have S := stat hc ho
  have hall' : ∀ j ∈ aft ops i, listed.getD j false = true := fun j hj => by
    unfold aft at hj
    rw [ho] at hj
    simp only [Option.map_some, Option.getD_some, List.mem_map, List.mem_filter] at hj
    obtain ⟨e, ⟨he, hb⟩, rfl⟩ := hj
    exact hall e (by simpa using he) hb
  have hbef := listed_of_bef I S hall'
  have hex : execOp a.eval o = execOp (rd ops ks T a0 L i) o := execOp_congr o S.sel (eval_rd I S hun hbef)
  have hw := wanted_rd hc hnt I S hbef
  have hsn := seen (nt := nt) (nh := nh) I hun hB hbef
  have ob : Ob P ops ks T a0 B w0 H i o := by
    have := AllOb.at ops.toList 0 i o hob (by simpa using ho)
    rwa [Nat.zero_add] at this
  have ob := ob L w hsn
  have sz' : (listed.setIfInBounds i true).size = ops.size := by simp [I.sz]
  have cl' := cl_next (nt := nt) (nh := nh) I hi hbef
  have hnb : ∀ j, j ≠ i → listed.getD j false = true → bef T j i = false := fun j _ hl => by
    cases h : bef T j i with
    | false => rfl
    | true => have := I.cl j hl i h; rw [hun] at this; cases this
  have hst : ∀ j, listed.getD j false = true → ∃ oj, ops[j]? = some oj := fun j hl => by
    have : j < ops.size := by
      rw [← I.sz]
      by_cases h : j < listed.size
      · exact h
      · simp [Array.getElem?_eq_none (Nat.le_of_not_lt h)] at hl
    exact ⟨ops[j], Array.getElem?_eq_getElem this⟩
  unfold wpOp
  simp only [ho, hw]
  by_cases hwt : wantedR ks L o = true
  · rw [if_pos hwt] at ob ⊢
    refine .inl ?_
    unfold Oper.wp
    rw [hex]
    cases hk : kd ks i with
    | det v =>
      rw [hk] at ob
      refine Runs.upon ob fun u w' ⟨hu, hb⟩ => ⟨L, sz', cl', ?_, ?_⟩
      · exact I.F.next S hnt ho hi (fun d _ => hu) (fun j _ _ => rfl)
      · exact I.M.quiet hi hB hb (by simp [isStore, hk]) (by simp [isAlloc, hk]) (fun C => by rw [hk]; simp)
    | detB k v =>
      rw [hk] at ob
      refine Runs.upon ob fun u w' ⟨hu, hb⟩ => ⟨L, sz', cl', ?_, ?_⟩
      · exact I.F.next S hnt ho hi (fun d _ => hu) (fun j _ _ => rfl)
      · exact I.M.quiet hi hB hb (by simp [isStore, hk]) (by simp [isAlloc, hk]) (fun C => by rw [hk]; simp)
    | detV k v =>
      rw [hk] at ob
      refine Runs.upon ob fun u w' ⟨hu, hb⟩ => ⟨L, sz', cl', ?_, ?_⟩
      · exact I.F.next S hnt ho hi (fun d _ => hu) (fun j _ _ => rfl)
      · exact I.M.quiet hi hB hb (by simp [isStore, hk]) (by simp [isAlloc, hk]) (fun C => by rw [hk]; simp)
    | any C =>
      rw [hk] at ob
      refine Runs.upon ob.2 fun u w' ⟨hu, hb⟩ => ⟨L.setV i u, sz', cl', ?_, ?_⟩
      · refine I.F.next S hnt ho hi (fun d _ => ?_) (fun j hj hl => ?_)
        · unfold val; rw [hk]; simp [Lt.setV]
        · obtain ⟨oj, hoj⟩ := hst j hl
          exact val_setV (stat hc hoj) hj (hnb j hj hl)
      · exact I.M.letter hi hun hB hb hk hu ob.1
    | alloc cs =>
      rw [hk] at ob
      obtain ⟨ty, hrun⟩ := ob
      rw [hrun]
      refine ⟨L.setB i w.heap.size, sz', cl', ?_, ?_⟩
      · refine I.F.next S hnt ho hi (fun d _ => ?_) (fun j hj hl => ?_)
        · unfold val; rw [hk]; simp [Lt.setB]
        · obtain ⟨oj, hoj⟩ := hst j hl
          exact val_setB (stat hc hoj) hj (hnb j hj hl)
      · refine I.M.made hi hun hB hk fun s hs => ?_
        obtain ⟨off, ds, new, hks⟩ := st_spec hs
        cases hl : listed.getD s false with
        | false => rfl
        | true =>
          obtain ⟨os, hos⟩ := hst s hl
          have := (stat hc hos).sto _ _ _ _ hks
          have := I.cl s hl i (this.2.2.2.1 i rfl).1
          rw [hun] at this; cases this
    | store l off cs new =>
      rw [hk] at ob
      obtain ⟨hlen, hsp, hrun⟩ := ob
      obtain ⟨hgd, hdn, hsl, hnw, hbs⟩ := S.sto _ _ _ _ hk
      have hnew : ∀ j, l = .new j → listed.getD j false = true ∧ isAlloc ks j = true := fun j e => ⟨hbef j (hnw j e).1, (hnw j e).2⟩
      have hM := I.M.stored hi hun hk hsl hnew (fun k e => by rw [← hnh]; exact hbs k e) hB hH hnd hlen hsp
      have hth : w.there (addr H L l) off cs.length := by
        have hcur : ∀ x, cur ks listed l x = x := fun x => by unfold cur; simp [hsl, hun]
        have hbox : Box w (addr H L l) (oldOf ks H l) := by
          cases l with
          | base k =>
            have hk' : k < H.length := by rw [← hnh]; exact hbs k rfl
            have hp : H[k]? = some (H.getD k (0, [])) := by simp [List.getD, List.getElem?_eq_getElem hk']
            have := I.M.hb k _ hp
            rw [hcur] at this
            exact this
          | new j =>
            obtain ⟨hl, hal⟩ := hnew j rfl
            unfold isAlloc at hal
            split at hal
            · rename_i ds hd
              have := I.M.hn j ds hd hl
              rw [hcur] at this
              simp only [oldOf, hd, addr]
              exact this.2
            · cases hal
        intro j hj
        have := hbox.free (off + j) (by omega)
        simpa using this
      rw [hrun hth]
      refine ⟨L, sz', cl', ?_, hM⟩
      exact I.F.next S hnt ho hi (fun d hd => by rw [hdn] at hd; cases hd) (fun j _ _ => rfl)
  · have hwf : wantedR ks L o = false := by simpa using hwt
    rw [if_neg hwt] at ob
    simp only [hwf, Bool.false_eq_true, if_false]
    refine ⟨L, sz', cl', ?_, ?_⟩
    · refine I.F.next S hnt ho hi (fun d _ => ?_) (fun j _ _ => rfl)
      unfold val; rw [ob]
    · exact I.M.quiet hi hB (Below.refl _ _) (by simp [isStore, ob]) (by simp [isAlloc, ob]) (fun C => by rw [ob]; simp)

/-- The slots when all has come. -/
def slotF (ops : Array Oper) (ks : List Kind) (a0 : Act) (L : Lt) (t : Nat) : Value :=
  match own ops t with
  | none => a0.tmps.getD t undef
  | some j => val ks L j
def curF (ks : List Kind) (l : Loc) (cs : List Value) : List Value :=
  match st ks l with
  | some s => newOf ks s cs
  | none => cs
def baseF (ks : List Kind) : Nat → List (Nat × List Value) → List (Nat × List Value)
  | _, [] => []
  | k, p :: r => (p.1, curF ks (.base k) p.2) :: baseF ks (k + 1) r
def newF (ks : List Kind) (L : Lt) : List Nat → List (Nat × List Value)
  | [] => []
  | j :: r => match kd ks j with
    | .alloc cs => (L.b j, curF ks (.new j) cs) :: newF ks L r
    | _ => newF ks L r
/-- The boxes when all has come. -/
def heapF (ks : List Kind) (H : List (Nat × List Value)) (L : Lt) : List (Nat × List Value) := baseF ks 0 H ++ newF ks L (List.range ks.length)
/-- The letters' conditions when all has come. -/
def AnyF (ks : List Kind) (L : Lt) (w : World) : List Nat → Prop
  | [] => True
  | j :: r => match kd ks j with
    | .any C => C (L.v j) w ∧ AnyF ks L w r
    | _ => AnyF ks L w r

theorem mem_baseF {ks : List Kind} : ∀ (H : List (Nat × List Value)) (k : Nat) (p : Nat × List Value), p ∈ baseF ks k H → ∃ j q, H[j]? = some q ∧ p = (q.1, curF ks (.base (k + j)) q.2)
  | [], k, p, h => by simp [baseF] at h
  | q :: r, k, p, h => by
    simp only [baseF, List.mem_cons] at h
    rcases h with h | h
    · exact ⟨0, q, rfl, h⟩
    · obtain ⟨j, q', h1, h2⟩ := mem_baseF r (k + 1) p h
      exact ⟨j + 1, q', by simpa using h1, by rw [h2, show k + 1 + j = k + (j + 1) by omega]⟩
theorem map_baseF {ks : List Kind} : ∀ (H : List (Nat × List Value)) (k : Nat), (baseF ks k H).map (·.1) = H.map (·.1)
  | [], k => rfl
  | q :: r, k => by simp [baseF, map_baseF r (k + 1)]
theorem mem_newF {ks : List Kind} {L : Lt} : ∀ (l : List Nat) (p : Nat × List Value), p ∈ newF ks L l → ∃ j cs, j ∈ l ∧ kd ks j = .alloc cs ∧ p = (L.b j, curF ks (.new j) cs)
  | [], p, h => by simp [newF] at h
  | j :: r, p, h => by
    unfold newF at h
    split at h
    · rename_i cs hk
      simp only [List.mem_cons] at h
      rcases h with h | h
      · exact ⟨j, cs, by simp, hk, h⟩
      · obtain ⟨j', cs', h1, h2, h3⟩ := mem_newF r p h
        exact ⟨j', cs', by simp [h1], h2, h3⟩
    · obtain ⟨j', cs', h1, h2, h3⟩ := mem_newF r p h
      exact ⟨j', cs', by simp [h1], h2, h3⟩
theorem nodup_newF {ks : List Kind} {L : Lt} (hij : ∀ j k, isAlloc ks j = true → isAlloc ks k = true → L.b j = L.b k → j = k) : ∀ (l : List Nat), l.Nodup → ((newF ks L l).map (·.1)).Nodup
  | [], _ => by simp [newF]
  | j :: r, h => by
    have hr := nodup_newF hij r (List.nodup_cons.1 h).2
    unfold newF
    split
    · rename_i cs hk
      simp only [List.map_cons, List.nodup_cons]
      refine ⟨fun hm => ?_, hr⟩
      obtain ⟨p, hp, he⟩ := List.mem_map.1 hm
      obtain ⟨j', cs', h1, h2, rfl⟩ := mem_newF r p hp
      have := hij j j' (by simp [isAlloc, hk]) (by simp [isAlloc, h2]) he.symm
      subst this
      exact (List.nodup_cons.1 h).1 h1
    · exact hr

/-- What there is when all has come. -/
theorem done {nt nh : Nat} {L : Lt} {listed : Array Bool} {a : Act} {w : World} (hc : chk ops ks T nt nh = true) (hB : B ≤ W0.heap.size) (hH : ∀ p ∈ H, B ≤ p.1 ∧ p.1 < W0.heap.size) (hnd : (H.map (·.1)).Nodup)
    (I : Inv ops ks T a0 B w0 W0 H L listed a w) (hall : ∀ i, i < ops.size → listed.getD i false = true) :
    a = { tmps := ((List.range a0.tmps.size).map (slotF ops ks a0 L)).toArray, defers := a0.defers } ∧ Heap B w0 w (heapF ks H L) ∧ ((List.range ks.length).all (fun s => !isStore ks s) = true → AnyF ks L w (List.range ks.length)) := by
  have hkl := chk_len hc
  have hsl : ∀ l s, st ks l = some s → listed.getD s false = true := fun l s hs => by
    obtain ⟨off, cs, new, hk⟩ := st_spec hs
    exact hall s (by rw [← hkl]; exact isStore_lt (by simp [isStore, hk]))
  have hcur : ∀ l cs, cur ks listed l cs = curF ks l cs := fun l cs => by
    unfold cur curF
    cases hs : st ks l with
    | none => rfl
    | some s => simp only [hsl l s hs, if_true]
  have hal : ∀ j cs, kd ks j = .alloc cs → listed.getD j false = true := fun j cs hk => hall j (by rw [← hkl]; exact kd_lt (fun e => by rw [hk] at e; cases e))
  have hal' : ∀ j, isAlloc ks j = true → listed.getD j false = true := fun j h => by
    unfold isAlloc at h
    split at h
    · rename_i cs hk; exact hal j cs hk
    · cases h
  refine ⟨?_, ⟨I.M.bl, fun p hp => ?_, ?_, Nat.le_trans hB I.M.le⟩, fun hno => ?_⟩
  · obtain ⟨tm, df⟩ := a
    have h1 : df = a0.defers := I.F.df
    have h2 : tm.size = a0.tmps.size := I.F.ts
    subst h1
    congr 1
    apply Array.ext
    · simp [h2]
    · intro t h3 h4
      have h5 := I.F.fr t
      have e1 : tm.getD t undef = tm[t] := by simp [h3]
      have e2 : slot ops ks a0 L listed t = slotF ops ks a0 L t := by
        unfold slot slotF
        cases hw : own ops t with
        | none => rfl
        | some j => simp only [hall j (own_spec hw).1, if_true]
      have h6 : tm[t] = slotF ops ks a0 L t := by rw [← e1, ← e2]; exact h5
      rw [h6]
      simp
  · rcases List.mem_append.1 hp with hp | hp
    · obtain ⟨j, q, hq, rfl⟩ := mem_baseF H 0 p hp
      have := I.M.hb j q hq
      rw [hcur] at this
      rw [Nat.zero_add]
      exact ⟨(hH q (List.mem_of_getElem? hq)).1, this⟩
    · obtain ⟨j, cs, _, hk, rfl⟩ := mem_newF _ p hp
      have := I.M.hn j cs hk (hal j cs hk)
      rw [hcur] at this
      exact ⟨Nat.le_trans hB this.1, this.2⟩
  · rw [heapF, List.map_append, map_baseF]
    refine List.nodup_append.2 ⟨hnd, nodup_newF (fun j k hj hk he => I.M.ij j k hj hk (hal' j hj) (hal' k hk) he) _ List.nodup_range, ?_⟩
    intro x hx y hy e
    subst e
    obtain ⟨p, hp, rfl⟩ := List.mem_map.1 hx
    obtain ⟨q, hq, he⟩ := List.mem_map.1 hy
    obtain ⟨j, cs, _, hk, rfl⟩ := mem_newF _ q hq
    have h1 := (hH p hp).2
    have h2 := (I.M.hn j cs hk (hal j cs hk)).1
    simp only at he
    omega
  · have hns : ∀ s, isStore ks s = true → listed.getD s false = false := fun s hs => by
      have := List.all_eq_true.1 hno s (by simpa using isStore_lt hs)
      rw [hs] at this; cases this
    have : ∀ l : List Nat, AnyF ks L w l := fun l => by
      induction l with
      | nil => trivial
      | cons j r ih =>
        unfold AnyF
        split
        · rename_i C hk
          exact ⟨I.M.an hns j C hk (hall j (by rw [← hkl]; exact kd_lt (fun e => by rw [hk] at e; cases e))), ih⟩
        · exact ih
    exact this _

theorem Inv.start (hHp : Heap B w0 W0 H) {w : World} (hw : Below W0.heap.size W0 w) (hf : w.heap = W0.heap) (L : Lt) :
    Inv ops ks T a0 B w0 W0 H L (Array.replicate ops.size false) a0 w := by
  have hno : ∀ j, (Array.replicate ops.size false).getD j false = false := fun j => by
    by_cases h : j < ops.size
    · simp [h]
    · simp [Array.getElem?_eq_none, h]
  refine ⟨by simp, fun i hi => (by rw [hno] at hi; cases hi), ⟨rfl, rfl, fun t => ?_⟩, ⟨hHp.bel.trans (hw.mono hHp.le), hw.size, fun k p hp => ?_, fun j cs _ hl => (by rw [hno] at hl; cases hl), fun j k _ _ hl => (by rw [hno] at hl; cases hl), fun _ j C _ hl => (by rw [hno] at hl; cases hl), fun j C _ hl => (by rw [hno] at hl; cases hl)⟩⟩
  · unfold slot
    cases own ops t with
    | none => rfl
    | some j => simp only [hno, Bool.false_eq_true, if_false]
  · rw [cur_none (fun s _ => hno s)]
    exact (hHp.box p (List.mem_of_getElem? hp)).2.up hw

theorem Heap.bounds (h : Heap B w0 W0 H) : ∀ p ∈ H, B ≤ p.1 ∧ p.1 < W0.heap.size := fun p hp => ⟨(h.box p hp).1, (h.box p hp).2.lt⟩

/-- A region that draws its order goes by its plan. -/
theorem drawn {id nt nh : Nat} (hm : P.follows .mixedOrders = true) (hc : chk ops ks T nt nh = true) (hnt : nt = a0.tmps.size) (hnh : nh = H.length) (hHp : Heap B w0 W0 H) (hob : AllOb P ops ks T a0 B w0 H 0 ops.toList)
    (hQ : ∀ L w, Heap B w0 w (heapF ks H L) → ((List.range ks.length).all (fun s => !isStore ks s) = true → AnyF ks L w (List.range ks.length)) → Q .normal { tmps := ((List.range a0.tmps.size).map (slotF ops ks a0 L)).toArray, defers := a0.defers } w) :
    (Code.region id ops true).wp P Q a0 W0 := by
  refine wp_region_any hm ?_
  have main : ∀ (fuel : Nat) (listed : Array Bool) (a : Act) (w : World) (L : Lt), Inv ops ks T a0 B w0 W0 H L listed a w → ((List.range ops.size).filter fun i => !listed.getD i false).length ≤ fuel → wpAny P .any ops Q fuel listed a w := by
    have fin : ∀ (listed : Array Bool) (a : Act) (w : World) (L : Lt), Inv ops ks T a0 B w0 W0 H L listed a w → Region.ready .any ops listed = [] → Q .normal a w := fun listed a w L I hr => by
      have hall : ∀ n, ∀ i, i ≤ n → i < ops.size → listed.getD i false = true := by
        intro n
        induction n with
        | zero =>
          intro i hi hlt
          obtain rfl : i = 0 := by omega
          cases hl : listed.getD 0 false with
          | true => rfl
          | false =>
            have : (0 : Nat) ∈ Region.ready .any ops listed := mem_ready.2 ⟨by simp [I.sz, hlt] at hl ⊢; exact hl, ops[0], Array.getElem?_eq_getElem hlt, fun e he hb => by
              have := (stat hc (Array.getElem?_eq_getElem hlt)).back e.on (by
                unfold aft; rw [Array.getElem?_eq_getElem hlt]
                simp only [Option.map_some, Option.getD_some, List.mem_map, List.mem_filter]
                exact ⟨e, ⟨by simpa using he, hb⟩, rfl⟩)
              omega⟩
            rw [hr] at this; cases this
        | succ n ih =>
          intro i hi hlt
          by_cases h : i ≤ n
          · exact ih i h hlt
          · obtain rfl : i = n + 1 := by omega
            cases hl : listed.getD (n + 1) false with
            | true => rfl
            | false =>
              have : (n + 1) ∈ Region.ready .any ops listed := mem_ready.2 ⟨by simp [I.sz, hlt] at hl ⊢; exact hl, ops[n + 1], Array.getElem?_eq_getElem hlt, fun e he hb => by
                have hb' := (stat hc (Array.getElem?_eq_getElem hlt)).back e.on (by
                  unfold aft; rw [Array.getElem?_eq_getElem hlt]
                  simp only [Option.map_some, Option.getD_some, List.mem_map, List.mem_filter]
                  exact ⟨e, ⟨by simpa using he, hb⟩, rfl⟩)
                exact ih e.on (by omega) (by omega)⟩
              rw [hr] at this; cases this
      obtain ⟨ha, hh, hy⟩ := done hc hHp.le (Heap.bounds hHp) hHp.nd I (fun i hi => hall i i (Nat.le_refl _) hi)
      rw [ha]
      exact hQ L w hh hy
    intro fuel
    induction fuel with
    | zero =>
      intro listed a w L I hf
      have hr : Region.ready .any ops listed = [] := by
        cases h : Region.ready .any ops listed with
        | nil => rfl
        | cons x xs =>
          have hx : x ∈ Region.ready .any ops listed := by rw [h]; simp
          obtain ⟨h0, o, ho, _⟩ := mem_ready.1 hx
          have hlt := (Array.getElem?_eq_some_iff.1 ho).1
          have hz := List.length_eq_zero_iff.1 (Nat.le_zero.1 hf)
          have : x ∈ (List.range ops.size).filter fun i => !listed.getD i false := List.mem_filter.2 ⟨by simpa using hlt, by simp [I.sz, hlt] at h0 ⊢; exact h0⟩
          rw [hz] at this; cases this
      exact ⟨hr, fin listed a w L I hr⟩
    | succ fuel ih =>
      intro listed a w L I hf
      refine ⟨fin listed a w L I, fun i hi => ?_⟩
      refine wpOp_mono (fun a' w' ⟨L', I'⟩ => ih _ a' w' L' I' ?_) (step hc hnt hnh hob hHp.le (Heap.bounds hHp) hHp.nd I hi)
      obtain ⟨h0, o, ho, _⟩ := mem_ready.1 hi
      have hlt := (Array.getElem?_eq_some_iff.1 ho).1
      have hil : i < listed.size := by rw [I.sz]; exact hlt
      have e : ((List.range ops.size).filter fun j => !(listed.setIfInBounds i true).getD j false) = ((List.range ops.size).filter fun j => !listed.getD j false).filter (fun j => j != i) := by
        rw [List.filter_filter]
        congr 1
        funext j
        rw [ls_get hil]
        by_cases h : j = i <;> simp [h]
      rw [e]
      have hm : i ∈ (List.range ops.size).filter fun j => !listed.getD j false := List.mem_filter.2 ⟨by simpa using hlt, by simp [hil] at h0 ⊢; exact h0⟩
      have : (((List.range ops.size).filter fun j => !listed.getD j false).filter (fun j => j != i)).length < ((List.range ops.size).filter fun j => !listed.getD j false).length := by
        refine List.length_filter_lt_length_iff_exists.2 ⟨i, hm, by simp⟩
      omega
  refine main _ _ _ _ ⟨fun _ => undef, fun _ => 0⟩ (Inv.start hHp (Below.refl _ _).drew rfl _) ?_
  exact Nat.le_trans (List.length_filter_le _ _) (by simp)

/-- A region that does not draw goes by its plan. -/
theorem plain {id nt nh : Nat} (hc : chk ops ks T nt nh = true) (hnt : nt = a0.tmps.size) (hnh : nh = H.length) (hHp : Heap B w0 W0 H) (hob : AllOb P ops ks T a0 B w0 H 0 ops.toList)
    (hQ : ∀ L w, Heap B w0 w (heapF ks H L) → ((List.range ks.length).all (fun s => !isStore ks s) = true → AnyF ks L w (List.range ks.length)) → Q .normal { tmps := ((List.range a0.tmps.size).map (slotF ops ks a0 L)).toArray, defers := a0.defers } w) :
    (Code.region id ops false).wp P Q a0 W0 := by
  refine wp_region ?_
  have main : ∀ (m k : Nat) (listed : Array Bool) (a : Act) (w : World) (L : Lt), k + m = ops.size → (∀ j, listed.getD j false = decide (j < k)) → Inv ops ks T a0 B w0 W0 H L listed a w → wpOps P ops Q (List.range' k m) a w := by
    intro m
    induction m with
    | zero =>
      intro k listed a w L hk hl I
      obtain ⟨ha, hh, hy⟩ := done hc hHp.le (Heap.bounds hHp) hHp.nd I (fun i hi => by rw [hl]; simp; omega)
      show Q .normal a w
      rw [ha]
      exact hQ L w hh hy
    | succ m ih =>
      intro k listed a w L hk hl I
      rw [List.range'_succ, wpOps_cons]
      have hlt : k < ops.size := by omega
      have hil : k < listed.size := by rw [I.sz]; exact hlt
      have hr : k ∈ Region.ready .any ops listed := mem_ready.2 ⟨by have := hl k; simp [hil] at this ⊢; exact this, ops[k], Array.getElem?_eq_getElem hlt, fun e he hb => by
        have hb' := (stat hc (Array.getElem?_eq_getElem hlt)).back e.on (by
          unfold aft; rw [Array.getElem?_eq_getElem hlt]
          simp only [Option.map_some, Option.getD_some, List.mem_map, List.mem_filter]
          exact ⟨e, ⟨by simpa using he, hb⟩, rfl⟩)
        rw [hl]; simpa using hb'⟩
      refine wpOp_mono (fun a' w' ⟨L', I'⟩ => ih (k + 1) _ a' w' L' (by omega) (fun j => ?_) I') (step hc hnt hnh hob hHp.le (Heap.bounds hHp) hHp.nd I hr)
      rw [ls_get hil]
      split
      · rename_i e; subst e; simp
      · rw [hl]; by_cases h : j < k <;> simp [h] <;> omega
  rw [List.range_eq_range']
  exact main ops.size 0 _ a0 W0 ⟨fun _ => undef, fun _ => 0⟩ (by omega) (fun j => by
    by_cases h : j < ops.size
    · simp [h]
    · simp [Array.getElem?_eq_none, h]) (Inv.start hHp (Below.refl _ _) rfl _)

end
end Go.Proofs.YtgoghcmnnhglhaaDoor.Pl

/- Numbers of the base field as one type, and the value that each has. -/
namespace Go.Proofs.YtgoghcmnnhglhaaDoor.fpn
open Go.RowKit
set_option linter.unusedVariables false

instance : NeZero RN := ⟨by decide⟩
/-- Numbers modulo P. -/
abbrev F := Fin RN

/-- A number's limbs. -/
def lb (n i : Nat) : Int := ((n / 2 ^ (64 * i) % 2 ^ 64 : Nat) : Int)

theorem pw_two (n : Nat) : pw n = ((2 ^ (64 * n) : Nat) : Int) := by
  induction n with
  | zero => rfl
  | succ n ih =>
    rw [pw, ih, show 64 * (n + 1) = 64 * n + 64 by omega, Nat.pow_add, Int.natCast_mul]
    rfl

theorem lb_rg (n k : Nat) : Rg (lb n) k := fun i _ => by
  unfold lb
  have : n / 2 ^ (64 * i) % 2 ^ 64 < 2 ^ 64 := Nat.mod_lt _ (by decide)
  rw [B64_eq]
  omega

theorem lb_val (n k : Nat) : val (lb n) k = ((n % 2 ^ (64 * k) : Nat) : Int) := by
  induction k with
  | zero => simp [val, Nat.mod_one]
  | succ k ih =>
    rw [val, ih, pw_two]
    unfold lb
    rw [← Int.natCast_mul, ← Int.natCast_add, show 64 * (k + 1) = 64 * k + 64 by omega, Nat.pow_add, Nat.mod_mul]
    rw [Nat.mul_comm (2 ^ (64 * k))]

theorem RN_lt : RN < 2 ^ (64 * 6) := by decide +kernel

theorem lbF (a : F) : val (lb a.val) 6 = (a.val : Int) := by
  rw [lb_val, Nat.mod_eq_of_lt (Nat.lt_trans a.isLt RN_lt)]

/-- Its cells. -/
def FC (a : F) : List Value := [.int .u64 (lb a.val 0), .int .u64 (lb a.val 1), .int .u64 (lb a.val 2), .int .u64 (lb a.val 3), .int .u64 (lb a.val 4), .int .u64 (lb a.val 5)]
/-- Its value. -/
def FV (a : F) : Value := .agg (FC a).toArray

theorem FV_agg (a : F) : FV a = .agg #[.int .u64 (lb a.val 0), .int .u64 (lb a.val 1), .int .u64 (lb a.val 2), .int .u64 (lb a.val 3), .int .u64 (lb a.val 4), .int .u64 (lb a.val 5)] := rfl
theorem FC_len (a : F) : (FC a).length = 6 := rfl
theorem FC_one (a : F) : ∀ v ∈ FC a, v.oneCell' = true := by
  intro v hv
  simp only [FC, List.mem_cons, List.not_mem_nil, or_false] at hv
  rcases hv with rfl | rfl | rfl | rfl | rfl | rfl <;> rfl
/-- Limbs that are worth a number are its own. -/
theorem agg_of {h : Nat → Int} (rh : Rg h 6) {c : F} (hc : val h 6 = (c.val : Int)) : Value.agg #[.int .u64 (h 0), .int .u64 (h 1), .int .u64 (h 2), .int .u64 (h 3), .int .u64 (h 4), .int .u64 (h 5)] = FV c := by
  have e := digits rh (lb_rg c.val 6) (by rw [hc, lbF])
  rw [FV_agg, e 0 (by decide), e 1 (by decide), e 2 (by decide), e 3 (by decide), e 4 (by decide), e 5 (by decide)]

theorem lt_RI (a : F) : val (lb a.val) 6 < RI := by rw [lbF, RI_RN]; have := a.isLt; omega

/-- Any limbs below P are a number's. -/
theorem num_of {f : Nat → Int} (rf : Rg f 6) (h : val f 6 < RI) : ∃ a : F, frv f = FV a ∧ val f 6 = (a.val : Int) := by
  have h0 := (val_bd rf).1
  obtain ⟨n, hn⟩ := Int.eq_ofNat_of_zero_le h0
  refine ⟨⟨n, by rw [RI_RN] at h; omega⟩, ?_, hn⟩
  exact agg_of rf hn

theorem val_add (a b : F) : (((a + b : F).val : Nat) : Int) = ((a.val : Int) + b.val) % RI := by
  rw [Fin.val_add, RI_RN, Int.natCast_emod, Int.natCast_add]
theorem val_mul (a b : F) : (((a * b : F).val : Nat) : Int) = ((a.val : Int) * b.val) % RI := by
  rw [Fin.val_mul, RI_RN, Int.natCast_emod, Int.natCast_mul]
theorem val_sub (a b : F) : (((a - b : F).val : Nat) : Int) = ((a.val : Int) - b.val) % RI := by
  have hb := b.isLt
  rw [Fin.val_sub, RI_RN, Int.natCast_emod, Int.natCast_add, Int.natCast_sub (Nat.le_of_lt hb), show (RN : Int) - b.val + a.val = (a.val - b.val : Int) + RN by omega, Int.add_emod_right]
theorem val_neg (a : F) : (((-a : F).val : Nat) : Int) = (0 - (a.val : Int)) % RI := by
  have := val_sub 0 a
  rw [show (0 : F) - a = -a by grind] at this
  rw [this]; rfl

/-- 1 / a. -/
noncomputable def finv (a : F) : F := Classical.choose (⟨Fin.ofNat RN (a.val ^ (RN - 2)), rfl⟩ : ∃ b : F, b = Fin.ofNat RN (a.val ^ (RN - 2)))
theorem finv_eq (a : F) : finv a = Fin.ofNat RN (a.val ^ (RN - 2)) := Classical.choose_spec (⟨Fin.ofNat RN (a.val ^ (RN - 2)), rfl⟩ : ∃ b : F, b = Fin.ofNat RN (a.val ^ (RN - 2)))
theorem val_finv (a : F) : ((finv a).val : Int) = (a.val : Int) ^ (RN - 2) % RI := by
  rw [finv_eq, RI_RN, ← cast_pow_mod]; rfl
/-- What is a root, if there is one. -/
noncomputable def rt (a : F) : F := Classical.choose (⟨Fin.ofNat RN (a.val ^ SE), rfl⟩ : ∃ b : F, b = Fin.ofNat RN (a.val ^ SE))
theorem rt_eq (a : F) : rt a = Fin.ofNat RN (a.val ^ SE) := Classical.choose_spec (⟨Fin.ofNat RN (a.val ^ SE), rfl⟩ : ∃ b : F, b = Fin.ofNat RN (a.val ^ SE))
theorem val_rt (a : F) : ((rt a).val : Int) = sq a.val := by
  unfold sq
  rw [rt_eq, RI_RN, ← cast_pow_mod]; rfl
def great (a : F) : Bool := decide (RN / 2 < a.val)
noncomputable def isq (a : F) : Bool := decide (rt a * rt a = a)
/-- The root that is told, 0 where there is none. -/
noncomputable def root (a : F) : F := if isq a = true then (if great (rt a) = true then -rt a else rt a) else 0

theorem ext_int {a b : F} (h : (a.val : Int) = b.val) : a = b := Fin.ext (by omega)

theorem finv_mul {a : F} (h : a ≠ 0) : a * finv a = 1 := by
  refine ext_int ?_
  have h0 : (a.val : Int) ≠ 0 := fun e => h (Fin.ext (by have : a.val = 0 := by omega
                                                         rw [this]; rfl))
  rw [val_mul, val_finv, invI (by omega) h0 (by rw [RI_RN]; have := a.isLt; omega)]
  rfl

theorem great_int (a : F) : decide (RI / 2 < (a.val : Int)) = great a := by
  unfold great
  rw [RI_RN]
  congr 1
  refine propext ⟨fun h => ?_, fun h => ?_⟩ <;> omega

theorem isq_int (a : F) : (sq a.val * sq a.val % RI = a.val) ↔ isq a = true := by
  unfold isq
  rw [decide_eq_true_eq, ← val_rt, ← val_mul]
  exact ⟨fun h => ext_int h, fun h => by rw [h]⟩

theorem lesser_int (a : F) (h : isq a = true) : ((root a).val : Int) = lesser (sq a.val) := by
  unfold root lesser
  rw [if_pos h]
  have g := great_int (rt a)
  rw [val_rt] at g
  by_cases hg : RI / 2 < sq a.val
  · rw [if_pos hg, if_pos (by rw [← g]; exact decide_eq_true hg), val_neg, val_rt]
  · rw [if_neg hg, if_neg (by rw [← g, decide_eq_false hg]; simp), val_rt]

/-- What a call answers, in new memory alone. -/
def Ret (v : Value) (w : World) : Ending → World → Prop := fun e w' => e = .returned v ∧ Below w.heap.size w w'

end Go.Proofs.YtgoghcmnnhglhaaDoor.fpn

/- What the inner functions mulAdd, lessR, plusR, bring of package fr answer, and Of, R, May, Add, Sub, Neg. -/
namespace Go.Proofs.YtgoghcmnnhglhaaDoor.fpn
open Go.RowKit
attribute [local go_sem ↓] Go.wp_at_zero Go.wp_at_succ
set_option linter.unusedVariables false

theorem below_three (w : World) (a b c : Obj) : Below w.heap.size w (((w.alloc a).alloc b).alloc c) := Below.up (below_two _ _ _) (Nat.le_refl _) (below_one _ _)
theorem muladd_arith {P p q : Int} (h0 : 0 ≤ P) (h1 : P ≤ (B64 - 1) * (B64 - 1)) (hp : 0 ≤ p ∧ p < B64) (hq : 0 ≤ q ∧ q < B64) :
    IntKind.u64.wrap (IntKind.u64.wrap (P / B64 + (P % B64 + p) / B64) + ((P % B64 + p) % B64 + q) / B64) = (P + p + q) / B64 ∧ ((P % B64 + p) % B64 + q) % B64 = (P + p + q) % B64 := by
  rw [IntKind.wrap_u64, IntKind.wrap_u64]
  rw [B64_eq] at *
  refine ⟨by omega, by omega⟩

theorem mulAdd_any (x y p q : Int) (w : World) (hx : 0 ≤ x ∧ x < B64) (hy : 0 ≤ y ∧ y < B64) (hp : 0 ≤ p ∧ p < B64) (hq : 0 ≤ q ∧ q < B64) :
    Calls Tryd.prog 79 #[.int .u64 x, .int .u64 y, .int .u64 p, .int .u64 q] w fun e w' => e = .returned (.tuple #[.int .u64 ((x * y + p + q) / B64), .int .u64 ((x * y + p + q) % B64)]) ∧ w' = w := by
  have p0 := Int.mul_nonneg hx.1 hy.1
  have p1 := Int.mul_le_mul (show x ≤ B64 - 1 by omega) (show y ≤ B64 - 1 by omega) hy.1 (by have := B64_pos; omega)
  have M : Hid _ := mul64_any x y hx hy
  have q1 : 0 ≤ x * y % B64 := Int.emod_nonneg _ (by rw [B64_eq]; decide)
  have q2 : 0 ≤ (x * y % B64 + p + 0) % B64 := Int.emod_nonneg _ (by rw [B64_eq]; decide)
  have h1 := add64_call (x * y % B64) p 0 q1 hp.1 ⟨by decide, by decide⟩
  have h2 := add64_call ((x * y % B64 + p + 0) % B64) q 0 q2 hq.1 ⟨by decide, by decide⟩
  simp only [Int.add_zero] at h1 h2
  obtain ⟨a1, a2⟩ := muladd_arith p0 p1 hp hq
  have A1 : Hid _ := a1
  rw [← a2]
  clear q1 q2 a1 a2 p0 p1 hx hy hp hq
  generalize (x * y + p + q) / B64 = H at *
  generalize x * y / B64 = t1 at *
  generalize x * y % B64 = t2 at *
  generalize (t2 + p) / B64 = t3 at *
  generalize (t2 + p) % B64 = t4 at *
  generalize (t4 + q) / B64 = t5 at *
  generalize (t4 + q) % B64 = t6 at *
  go_enter Tryd.func79, Tryd.ntmps79
  go_wp2_with (go_at_call 80; refine Calls.mono (M.out _) ?_; rintro e w' ⟨rfl, rfl⟩)
  refine bodyPost_ret (v := .tuple #[.int .u64 H, .int .u64 t6]) (by simp [results, Tryd.results79, go_sem, A1.out]) rfl ⟨rfl, rfl⟩

/-- a - P: the limbs and the borrow. -/
theorem lessR_val {f : Nat → Int} (rf : Rg f 6) : val (df f rL) 6 + RI = val f 6 + bw f rL 6 * pw 6 := by
  rw [← rL_val]; exact val_df rf rL_rg

theorem prime_any (w : World) : Calls Tryd.prog 54 #[] w fun e w' => e = .returned (.agg #[.int .u64 (rL 0), .int .u64 (rL 1), .int .u64 (rL 2), .int .u64 (rL 3), .int .u64 (rL 4), .int .u64 (rL 5)]) ∧ Below w.heap.size w w' := by
  go_enter Tryd.func54, Tryd.ntmps54
  go_wp2
  refine bodyPost_ret (v := .agg #[.int .u64 (rL 0), .int .u64 (rL 1), .int .u64 (rL 2), .int .u64 (rL 3), .int .u64 (rL 4), .int .u64 (rL 5)]) (by simp [results, Tryd.results54, go_sem, rL]) rfl ⟨rfl, below_one _ _⟩

theorem less_any (f g : Nat → Int) (w : World) (rf : Rg f 6) (rg : Rg g 6) :
    Calls Tryd.prog 53 #[.agg #[.int .u64 (f 0), .int .u64 (f 1), .int .u64 (f 2), .int .u64 (f 3), .int .u64 (f 4), .int .u64 (f 5)], .agg #[.int .u64 (g 0), .int .u64 (g 1), .int .u64 (g 2), .int .u64 (g 3), .int .u64 (g 4), .int .u64 (g 5)]] w fun e w' => e = .returned (.tuple #[.agg #[.int .u64 (df f g 0), .int .u64 (df f g 1), .int .u64 (df f g 2), .int .u64 (df f g 3), .int .u64 (df f g 4), .int .u64 (df f g 5)], .int .u64 (bw f g 6)]) ∧ Below w.heap.size w w' := by
  have s0 : ∀ w, (callFunc 71 #[.int .u64 (f 0), .int .u64 (g 0), .int .u64 0]).run Tryd.prog w = .ok (.value (.tuple #[.int .u64 (df f g 0), .int .u64 (bw f g 1)])) w := fun w => sub64_call (f 0) (g 0) (bw f g 0) (rf 0 (by omega)) (rg 0 (by omega)) (bw_bd _ _ _) w
  have s1 : ∀ w, (callFunc 71 #[.int .u64 (f 1), .int .u64 (g 1), .int .u64 (bw f g 1)]).run Tryd.prog w = .ok (.value (.tuple #[.int .u64 (df f g 1), .int .u64 (bw f g 2)])) w := fun w => sub64_call (f 1) (g 1) (bw f g 1) (rf 1 (by omega)) (rg 1 (by omega)) (bw_bd _ _ _) w
  have s2 : ∀ w, (callFunc 71 #[.int .u64 (f 2), .int .u64 (g 2), .int .u64 (bw f g 2)]).run Tryd.prog w = .ok (.value (.tuple #[.int .u64 (df f g 2), .int .u64 (bw f g 3)])) w := fun w => sub64_call (f 2) (g 2) (bw f g 2) (rf 2 (by omega)) (rg 2 (by omega)) (bw_bd _ _ _) w
  have s3 : ∀ w, (callFunc 71 #[.int .u64 (f 3), .int .u64 (g 3), .int .u64 (bw f g 3)]).run Tryd.prog w = .ok (.value (.tuple #[.int .u64 (df f g 3), .int .u64 (bw f g 4)])) w := fun w => sub64_call (f 3) (g 3) (bw f g 3) (rf 3 (by omega)) (rg 3 (by omega)) (bw_bd _ _ _) w
  have s4 : ∀ w, (callFunc 71 #[.int .u64 (f 4), .int .u64 (g 4), .int .u64 (bw f g 4)]).run Tryd.prog w = .ok (.value (.tuple #[.int .u64 (df f g 4), .int .u64 (bw f g 5)])) w := fun w => sub64_call (f 4) (g 4) (bw f g 4) (rf 4 (by omega)) (rg 4 (by omega)) (bw_bd _ _ _) w
  have s5 : ∀ w, (callFunc 71 #[.int .u64 (f 5), .int .u64 (g 5), .int .u64 (bw f g 5)]).run Tryd.prog w = .ok (.value (.tuple #[.int .u64 (df f g 5), .int .u64 (bw f g 6)])) w := fun w => sub64_call (f 5) (g 5) (bw f g 5) (rf 5 (by omega)) (rg 5 (by omega)) (bw_bd _ _ _) w
  clear rg rf
  go_enter Tryd.func53, Tryd.ntmps53
  go_wp2
  refine bodyPost_ret (v := .tuple #[.agg #[.int .u64 (df f g 0), .int .u64 (df f g 1), .int .u64 (df f g 2), .int .u64 (df f g 3), .int .u64 (df f g 4), .int .u64 (df f g 5)], .int .u64 (bw f g 6)]) (by simp [results, Tryd.results53, go_sem]) rfl ⟨rfl, below_three _ _ _ _⟩

theorem plus_any (f g : Nat → Int) (w : World) (rf : Rg f 6) (rg : Rg g 6) :
    Calls Tryd.prog 59 #[.agg #[.int .u64 (f 0), .int .u64 (f 1), .int .u64 (f 2), .int .u64 (f 3), .int .u64 (f 4), .int .u64 (f 5)], .agg #[.int .u64 (g 0), .int .u64 (g 1), .int .u64 (g 2), .int .u64 (g 3), .int .u64 (g 4), .int .u64 (g 5)]] w fun e w' => e = .returned (.agg #[.int .u64 (sm f g 0 0), .int .u64 (sm f g 0 1), .int .u64 (sm f g 0 2), .int .u64 (sm f g 0 3), .int .u64 (sm f g 0 4), .int .u64 (sm f g 0 5)]) ∧ Below w.heap.size w w' := by
  have s0 : ∀ w, (callFunc 77 #[.int .u64 (f 0), .int .u64 (g 0), .int .u64 0]).run Tryd.prog w = .ok (.value (.tuple #[.int .u64 (sm f g 0 0), .int .u64 (cy f g 0 1)])) w := fun w => add64_call (f 0) (g 0) (cy f g 0 0) (rf 0 (by omega)).1 (rg 0 (by omega)).1 (cy_bd (rf.mono (by omega)) (rg.mono (by omega)) ⟨by decide, by decide⟩) w
  have s1 : ∀ w, (callFunc 77 #[.int .u64 (f 1), .int .u64 (g 1), .int .u64 (cy f g 0 1)]).run Tryd.prog w = .ok (.value (.tuple #[.int .u64 (sm f g 0 1), .int .u64 (cy f g 0 2)])) w := fun w => add64_call (f 1) (g 1) (cy f g 0 1) (rf 1 (by omega)).1 (rg 1 (by omega)).1 (cy_bd (rf.mono (by omega)) (rg.mono (by omega)) ⟨by decide, by decide⟩) w
  have s2 : ∀ w, (callFunc 77 #[.int .u64 (f 2), .int .u64 (g 2), .int .u64 (cy f g 0 2)]).run Tryd.prog w = .ok (.value (.tuple #[.int .u64 (sm f g 0 2), .int .u64 (cy f g 0 3)])) w := fun w => add64_call (f 2) (g 2) (cy f g 0 2) (rf 2 (by omega)).1 (rg 2 (by omega)).1 (cy_bd (rf.mono (by omega)) (rg.mono (by omega)) ⟨by decide, by decide⟩) w
  have s3 : ∀ w, (callFunc 77 #[.int .u64 (f 3), .int .u64 (g 3), .int .u64 (cy f g 0 3)]).run Tryd.prog w = .ok (.value (.tuple #[.int .u64 (sm f g 0 3), .int .u64 (cy f g 0 4)])) w := fun w => add64_call (f 3) (g 3) (cy f g 0 3) (rf 3 (by omega)).1 (rg 3 (by omega)).1 (cy_bd (rf.mono (by omega)) (rg.mono (by omega)) ⟨by decide, by decide⟩) w
  have s4 : ∀ w, (callFunc 77 #[.int .u64 (f 4), .int .u64 (g 4), .int .u64 (cy f g 0 4)]).run Tryd.prog w = .ok (.value (.tuple #[.int .u64 (sm f g 0 4), .int .u64 (cy f g 0 5)])) w := fun w => add64_call (f 4) (g 4) (cy f g 0 4) (rf 4 (by omega)).1 (rg 4 (by omega)).1 (cy_bd (rf.mono (by omega)) (rg.mono (by omega)) ⟨by decide, by decide⟩) w
  have s5 : ∀ w, (callFunc 77 #[.int .u64 (f 5), .int .u64 (g 5), .int .u64 (cy f g 0 5)]).run Tryd.prog w = .ok (.value (.tuple #[.int .u64 (sm f g 0 5), .int .u64 (cy f g 0 6)])) w := fun w => add64_call (f 5) (g 5) (cy f g 0 5) (rf 5 (by omega)).1 (rg 5 (by omega)).1 (cy_bd (rf.mono (by omega)) (rg.mono (by omega)) ⟨by decide, by decide⟩) w
  clear rg rf
  go_enter Tryd.func59, Tryd.ntmps59
  go_wp2
  refine bodyPost_ret (v := .agg #[.int .u64 (sm f g 0 0), .int .u64 (sm f g 0 1), .int .u64 (sm f g 0 2), .int .u64 (sm f g 0 3), .int .u64 (sm f g 0 4), .int .u64 (sm f g 0 5)]) (by simp [results, Tryd.results59, go_sem]) rfl ⟨rfl, below_three _ _ _ _⟩

theorem at6 {w : World} {b : Nat} {f : Nat → Int} (h : At w (some ⟨b, 0, none⟩) 6 f) :
    w.cell? ⟨b, 0, none⟩ = some (.int .u64 (f 0)) ∧ w.cell? ⟨b, 1, none⟩ = some (.int .u64 (f 1)) ∧ w.cell? ⟨b, 2, none⟩ = some (.int .u64 (f 2)) ∧ w.cell? ⟨b, 3, none⟩ = some (.int .u64 (f 3)) ∧ w.cell? ⟨b, 4, none⟩ = some (.int .u64 (f 4)) ∧ w.cell? ⟨b, 5, none⟩ = some (.int .u64 (f 5)) := by
  obtain ⟨b', o, e, h⟩ := h (by omega)
  simp only [Option.some.injEq, Addr.mk.injEq] at e
  obtain ⟨rfl, rfl, -⟩ := e
  have k := fun j hj => h j hj
  simp only [Nat.zero_add] at k
  exact ⟨k 0 (by omega), k 1 (by omega), k 2 (by omega), k 3 (by omega), k 4 (by omega), k 5 (by omega)⟩

theorem boxA {t : TypeId} {W x : World} (h : Below (W.alloc (.cells #[.int .u64 0, .int .u64 0, .int .u64 0, .int .u64 0, .int .u64 0, .int .u64 0] t)).heap.size (W.alloc (.cells #[.int .u64 0, .int .u64 0, .int .u64 0, .int .u64 0, .int .u64 0, .int .u64 0] t)) x) : Below W.heap.size W x ∧ Mut x W.heap.size 0 6 Z :=
  ⟨Below.up (below_one _ _) (Nat.le_refl _) h, MutK.below (mut_noughts _ _) h (by simp)⟩
theorem boxB {t : TypeId} {W x : World} (h : Below (W.alloc (.cells #[.int .u64 0, .int .u64 0, .int .u64 0, .int .u64 0, .int .u64 0, .int .u64 0] t)).drew.heap.size (W.alloc (.cells #[.int .u64 0, .int .u64 0, .int .u64 0, .int .u64 0, .int .u64 0, .int .u64 0] t)).drew x) : Below W.heap.size W x ∧ Mut x W.heap.size 0 6 Z := boxA (below_drew h)

end Go.Proofs.YtgoghcmnnhglhaaDoor.fpn

/- bring, May, Add, Sub, Neg. -/
namespace Go.Proofs.YtgoghcmnnhglhaaDoor.fpn
open Go.RowKit
attribute [local go_sem ↓] Go.wp_at_zero Go.wp_at_succ
set_option linter.unusedVariables false

theorem finA {t : TypeId} {W x2 : World} (h : Nat → Int) (hb : Below W.heap.size W x2) : Below W.heap.size W (x2.alloc (.cells #[.int .u64 (h 0), .int .u64 (h 1), .int .u64 (h 2), .int .u64 (h 3), .int .u64 (h 4), .int .u64 (h 5)] t)) ∧ Mut (x2.alloc (.cells #[.int .u64 (h 0), .int .u64 (h 1), .int .u64 (h 2), .int .u64 (h 3), .int .u64 (h 4), .int .u64 (h 5)] t)) x2.heap.size 0 6 h :=
  ⟨Below.up hb (Nat.le_refl _) (below_one _ _), mut_four _ _ _⟩
theorem finB {b : Nat} {W x2 : World} (h : Nat → Int) (hb : Below W.heap.size W x2) (hm : Mut x2 b 0 6 Z) (hle : W.heap.size ≤ b) : Below W.heap.size W ((((((x2.setCell ⟨b, 0, none⟩ (.int .u64 (h 0))).setCell ⟨b, 1, none⟩ (.int .u64 (h 1))).setCell ⟨b, 2, none⟩ (.int .u64 (h 2))).setCell ⟨b, 3, none⟩ (.int .u64 (h 3))).setCell ⟨b, 4, none⟩ (.int .u64 (h 4))).setCell ⟨b, 5, none⟩ (.int .u64 (h 5))) ∧ Mut ((((((x2.setCell ⟨b, 0, none⟩ (.int .u64 (h 0))).setCell ⟨b, 1, none⟩ (.int .u64 (h 1))).setCell ⟨b, 2, none⟩ (.int .u64 (h 2))).setCell ⟨b, 3, none⟩ (.int .u64 (h 3))).setCell ⟨b, 4, none⟩ (.int .u64 (h 4))).setCell ⟨b, 5, none⟩ (.int .u64 (h 5))) b 0 6 h :=
  ⟨below_set6 hb hle _ _ _ _ _ _, mut_set6 hm h⟩

set_option maxHeartbeats 4000000 in
theorem bring_at (f h k : Nat → Int) (c : Int) (w : World) (K : ∀ w, Calls Tryd.prog 53 #[.agg #[.int .u64 (f 0), .int .u64 (f 1), .int .u64 (f 2), .int .u64 (f 3), .int .u64 (f 4), .int .u64 (f 5)], .agg #[.int .u64 (rL 0), .int .u64 (rL 1), .int .u64 (rL 2), .int .u64 (rL 3), .int .u64 (rL 4), .int .u64 (rL 5)]] w fun e w' => e = .returned (.tuple #[.agg #[.int .u64 (h 0), .int .u64 (h 1), .int .u64 (h 2), .int .u64 (h 3), .int .u64 (h 4), .int .u64 (h 5)], .int .u64 c]) ∧ Below w.heap.size w w') (hc : Hid ((c = 0 ∧ k = h) ∨ (c = 1 ∧ k = f))) :
    Calls Tryd.prog 58 #[.agg #[.int .u64 (f 0), .int .u64 (f 1), .int .u64 (f 2), .int .u64 (f 3), .int .u64 (f 4), .int .u64 (f 5)]] w fun e w' => e = .returned (.agg #[.int .u64 (k 0), .int .u64 (k 1), .int .u64 (k 2), .int .u64 (k 3), .int .u64 (k 4), .int .u64 (k 5)]) ∧ Below w.heap.size w w' := by
  have HK : Hid _ := K
  clear K
  obtain ⟨B1, z1, hF, hR⟩ := pair_all w f 24
  unfold pair at B1 z1 hF hR
  go_enter Tryd.func58, Tryd.ntmps58
  go_wp2_with fail
  generalize (w.alloc (.cells #[.int .u64 (f 0), .int .u64 (f 1), .int .u64 (f 2), .int .u64 (f 3), .int .u64 (f 4), .int .u64 (f 5)] 24)).alloc (.cells #[.int .u64 0, .int .u64 0, .int .u64 0, .int .u64 0, .int .u64 0, .int .u64 0] 24) = W at *
  have HS : Hid (∀ x, Below W.heap.size W x → (x.cell? ⟨w.heap.size, 0, none⟩ = some (.int .u64 (f 0)) ∧ x.cell? ⟨w.heap.size, 1, none⟩ = some (.int .u64 (f 1)) ∧ x.cell? ⟨w.heap.size, 2, none⟩ = some (.int .u64 (f 2)) ∧ x.cell? ⟨w.heap.size, 3, none⟩ = some (.int .u64 (f 3)) ∧ x.cell? ⟨w.heap.size, 4, none⟩ = some (.int .u64 (f 4)) ∧ x.cell? ⟨w.heap.size, 5, none⟩ = some (.int .u64 (f 5)))) := fun x hx => at6 (hF.at.below hx)
  have B1' : Hid _ := B1
  have HR : Hid _ := hR
  have HF : Hid _ := hF
  have Z1 : Hid _ := z1
  have lt1 : w.heap.size < W.heap.size := by rw [z1]; omega
  have lt0 : w.heap.size + 1 < W.heap.size := by rw [z1]; omega
  clear hF hR B1 z1
  obtain ⟨a0, a1, a2, a3, a4, a5⟩ := HS.out _ (Below.refl _ _)
  go_region_with (first
    | (go_at_call 54; refine Calls.mono (prime_any _) ?_; rintro e x1 ⟨rfl, b1⟩; first | (have BX : Below W.heap.size W x1 := below_drew b1; have lt2 : w.heap.size < x1.heap.size := Nat.lt_of_lt_of_le lt1 BX.size; have BW2 : Hid _ := BX; obtain ⟨e0, e1, e2, e3, e4, e5⟩ := HS.out _ BX; clear BX b1) | (have BX : Below W.heap.size W x1 := (boxB b1).1; have lt2 : w.heap.size < x1.heap.size := Nat.lt_of_lt_of_le lt1 BX.size; have MD : Hid (Mut x1 W.heap.size 0 6 Z) := (boxB b1).2; have BW2 : Hid _ := BX; obtain ⟨e0, e1, e2, e3, e4, e5⟩ := HS.out _ BX; clear BX b1))
    | (go_at_call 53; refine Calls.mono (HK.out _) ?_; rintro e x2 ⟨rfl, b2⟩; first | (have BX : Below W.heap.size W x2 := Below.up BW2.out (Nat.le_refl _) b2; have MD2 : Hid (Mut x2 W.heap.size 0 6 Z) := MutK.below MD.out b2 (cell_lt (MutK.cells6 MD.out).1); have BW3 : Hid _ := BX; obtain ⟨m0, m1, m2, m3, m4, m5⟩ := MutK.cells6 MD2.out; obtain ⟨n0, n1, n2, n3, n4, n5⟩ := MutK.free6 MD2.out; clear BX b2) | (have BX : Below W.heap.size W x2 := Below.up BW2.out (Nat.le_refl _) (boxA b2).1; have MD2 : Hid (Mut x2 x1.heap.size 0 6 Z) := (boxA b2).2; have BW3 : Hid _ := BX; obtain ⟨m0, m1, m2, m3, m4, m5⟩ := MutK.cells6 MD2.out; obtain ⟨n0, n1, n2, n3, n4, n5⟩ := MutK.free6 MD2.out; clear BX b2) | (have BX : Below W.heap.size W x2 := Below.up BW2.out (Nat.le_refl _) b2; have BW3 : Hid _ := BX; clear BX b2)))
  all_goals
    first
    | (have q := finB (b := W.heap.size) h BW3.out (by with_reducible exact MD2.out) (Nat.le_refl _); generalize (((((x2.setCell ⟨W.heap.size, 0, none⟩ (.int .u64 (h 0))).setCell ⟨W.heap.size, 1, none⟩ (.int .u64 (h 1))).setCell ⟨W.heap.size, 2, none⟩ (.int .u64 (h 2))).setCell ⟨W.heap.size, 3, none⟩ (.int .u64 (h 3))).setCell ⟨W.heap.size, 4, none⟩ (.int .u64 (h 4))).setCell ⟨W.heap.size, 5, none⟩ (.int .u64 (h 5)) = V at q ⊢; obtain ⟨bv, mv⟩ := q; obtain ⟨v0, v1, v2, v3, v4, v5⟩ := MutK.cells6 mv; clear mv)
    | (have q := finB (b := x1.heap.size) h BW3.out (by with_reducible exact MD2.out) (Below.size BW2.out); generalize (((((x2.setCell ⟨x1.heap.size, 0, none⟩ (.int .u64 (h 0))).setCell ⟨x1.heap.size, 1, none⟩ (.int .u64 (h 1))).setCell ⟨x1.heap.size, 2, none⟩ (.int .u64 (h 2))).setCell ⟨x1.heap.size, 3, none⟩ (.int .u64 (h 3))).setCell ⟨x1.heap.size, 4, none⟩ (.int .u64 (h 4))).setCell ⟨x1.heap.size, 5, none⟩ (.int .u64 (h 5)) = V at q ⊢; obtain ⟨bv, mv⟩ := q; obtain ⟨v0, v1, v2, v3, v4, v5⟩ := MutK.cells6 mv; clear mv)
    | (have q := finA (t := 24) h BW3.out; generalize x2.alloc (.cells #[.int .u64 (h 0), .int .u64 (h 1), .int .u64 (h 2), .int .u64 (h 3), .int .u64 (h 4), .int .u64 (h 5)] 24) = V at q ⊢; obtain ⟨bv, mv⟩ := q; obtain ⟨v0, v1, v2, v3, v4, v5⟩ := MutK.cells6 mv; clear mv)
    have HB : Hid _ := Below.up B1'.out (Nat.le_refl _) bv
    obtain ⟨r0, r1, r2, r3, r4, r5⟩ := MutK.cells6 (MutK.below HF.out bv lt1)
    obtain ⟨y0, y1, y2, y3, y4, y5⟩ := MutK.cells6 (MutK.below HR.out bv lt0)
    obtain ⟨z0, z1, z2, z3, z4, z5⟩ := MutK.free6 (MutK.below HR.out bv lt0)
    clear bv HS HR HF Z1 BW2 BW3 a0 a1 a2 a3 a4 a5 e0 e1 e2 e3 e4 e5 HK
    rcases hc.out with ⟨rfl, rfl⟩ | ⟨rfl, rfl⟩
    · go_wp2
      refine bodyPost_ret (v := .agg #[.int .u64 (k 0), .int .u64 (k 1), .int .u64 (k 2), .int .u64 (k 3), .int .u64 (k 4), .int .u64 (k 5)]) (by simp [results, Tryd.results58, go_sem, y0, y1, y2, y3, y4, y5]) rfl ⟨rfl, ?_⟩
      exact below_set6 HB.out (by omega) _ _ _ _ _ _
    · go_wp2
      refine bodyPost_ret (v := .agg #[.int .u64 (k 0), .int .u64 (k 1), .int .u64 (k 2), .int .u64 (k 3), .int .u64 (k 4), .int .u64 (k 5)]) (by simp [results, Tryd.results58, go_sem, y0, y1, y2, y3, y4, y5]) rfl ⟨rfl, ?_⟩
      exact below_set6 HB.out (by omega) _ _ _ _ _ _
end Go.Proofs.YtgoghcmnnhglhaaDoor.fpn

/- What the document's SqrtP answers. -/
namespace Go.Proofs.YtgoghcmnnhglhaaDoor.fpn
open Go.RowKit
attribute [local go_sem ↓] Go.wp_at_zero Go.wp_at_succ
set_option linter.unusedVariables false
set_option linter.unusedSimpArgs false

theorem SE_val : (RI + 1) / 2 / 2 = (SE : Int) := by decide +kernel
theorem nm_pos {f : Nat → Int} {n : Nat} (h : val f n = val rL 6 + val (one 1) 1) : 0 < n := by
  rcases Nat.eq_zero_or_pos n with rfl | h0
  · rw [rL_val, val_one] at h
    simp [val] at h
    have : 0 < RI := RI_pos
    omega
  · exact h0
/-- The literal's slice, and the box, in the worlds where they are laid: y, then o, behind them x. -/
theorem lit1 {t : TypeId} {y x : World} (h : Below (y.alloc (.cells #[.int .u64 1] t)).heap.size (y.alloc (.cells #[.int .u64 1] t)) x) : Below y.heap.size y x ∧ At x (some ⟨y.heap.size, 0, none⟩) 1 (one 1) :=
  ⟨Below.up (below_one _ _) (Nat.le_refl _) h, AtK.below (at_one _ _ _) h⟩
theorem box1 {s : TypeId} {y x : World} (h : Below (y.alloc (.cells #[.int .u64 0, .int .u64 0, .int .u64 0, .int .u64 0, .int .u64 0, .int .u64 0] s)).heap.size (y.alloc (.cells #[.int .u64 0, .int .u64 0, .int .u64 0, .int .u64 0, .int .u64 0, .int .u64 0] s)) x) : Below y.heap.size y x ∧ Mut x y.heap.size 0 6 Z :=
  ⟨Below.up (below_one _ _) (Nat.le_refl _) h, MutK.below (mut_noughts _ _) h (by simp)⟩
theorem litbox {t s : TypeId} {y x : World} (h : Below ((y.alloc (.cells #[.int .u64 1] t)).alloc (.cells #[.int .u64 0, .int .u64 0, .int .u64 0, .int .u64 0, .int .u64 0, .int .u64 0] s)).heap.size ((y.alloc (.cells #[.int .u64 1] t)).alloc (.cells #[.int .u64 0, .int .u64 0, .int .u64 0, .int .u64 0, .int .u64 0, .int .u64 0] s)) x) : Below y.heap.size y x ∧ At x (some ⟨y.heap.size, 0, none⟩) 1 (one 1) ∧ Mut x (y.heap.size + 1) 0 6 Z := by
  have h1 := box1 h
  have h2 := lit1 h1.1
  rw [World.size_alloc] at h1
  exact ⟨h2.1, h2.2, h1.2⟩
theorem boxlit {t s : TypeId} {y x : World} (h : Below ((y.alloc (.cells #[.int .u64 0, .int .u64 0, .int .u64 0, .int .u64 0, .int .u64 0, .int .u64 0] s)).alloc (.cells #[.int .u64 1] t)).heap.size ((y.alloc (.cells #[.int .u64 0, .int .u64 0, .int .u64 0, .int .u64 0, .int .u64 0, .int .u64 0] s)).alloc (.cells #[.int .u64 1] t)) x) : Below y.heap.size y x ∧ At x (some ⟨y.heap.size + 1, 0, none⟩) 1 (one 1) ∧ Mut x y.heap.size 0 6 Z := by
  have h1 := lit1 h
  have h2 := box1 h1.1
  rw [World.size_alloc] at h1
  exact ⟨h2.1, h1.2, h2.2⟩
theorem at_one2 {t s : TypeId} (y : World) : At ((y.alloc (.cells #[.int .u64 0, .int .u64 0, .int .u64 0, .int .u64 0, .int .u64 0, .int .u64 0] s)).alloc (.cells #[.int .u64 1] t)) (some ⟨y.heap.size + 1, 0, none⟩) 1 (one 1) := by
  have := at_one (y.alloc (.cells #[.int .u64 0, .int .u64 0, .int .u64 0, .int .u64 0, .int .u64 0, .int .u64 0] s)) 1 t
  rw [World.size_alloc] at this
  exact this
theorem refP_new (w : World) : Calls Tryd.prog 28 #[] w fun e w' => ∃ k : Nat, e = .returned (.slice (some ⟨k, 0, none⟩) 6 6) ∧ Below w.heap.size w w' ∧ At w' (some ⟨k, 0, none⟩) 6 rL := by
  refine Calls.mono (refR_any w) ?_
  rintro e w' ⟨rfl, b, -, m⟩
  exact ⟨_, rfl, b, m.at⟩
/-- What the first step leaves. -/
def sqPost (f : Nat → Int) (w W : World) : Exit → Act → World → Prop := fun e a' V => e = .normal ∧ ∃ (d : Nat) (h : Nat → Int) (u5 u6 u7 u8 u9 u10 u11 u12 u13 u14 u15 u16 u17 u18 u19 u20 u21 u22 : Value), a' = { tmps := #[.agg #[.int .u64 (f 0), .int .u64 (f 1), .int .u64 (f 2), .int .u64 (f 3), .int .u64 (f 4), .int .u64 (f 5)], .pointer (some ⟨w.heap.size, 0, none⟩), .pointer (some ⟨w.heap.size + 1, 0, none⟩), .bool false, .pointer (some ⟨d, 0, none⟩), u5, u6, u7, u8, u9, u10, u11, u12, u13, u14, u15, u16, u17, u18, u19, u20, u21, u22], defers := [] } ∧ Below W.heap.size W V ∧ Mut V d 0 6 h ∧ Rg h 6 ∧ val h 6 = sq (val f 6) ∧ W.heap.size ≤ d

/-- An operation is taken first, its slot told. -/
theorem takeW {P : Program} {ops : Array Oper} {Q : Exit → Act → World → Prop} {md : Region.Mode} {S : World → Prop} {i : Nat} {oi : Oper} {v : Value} {fuel : Nat} {listed : Array Bool} {a : Act} {w : World} (d : Tmp) (hi : ops[i]? = some oi)
    (hs : Region.noSelect ops = true) (hf : Region.free md ops listed i = true) (hr : (Region.ready md ops listed).contains i = true)
    (hQ : ∀ c a w, Q (.panic c) (a.put oi.dst v) w → Q (.panic c) a w) (hy : YieldsIf P ops S oi v a) (hS : S w) (hd : oi.dst = some d)
    (h : wpAnyH P md ops Q S fuel (listed.setIfInBounds i true) (a.put (some d) v) w) : wpAnyH P md ops Q S (fuel + 1) listed a w :=
  wpAnyH_take hi hs hf hr hQ hy hS (by rw [hd]; exact h)

set_option maxHeartbeats 16000000 in
theorem sqrtP_at (f : Nat → Int) (w : World) (rf : Rg f 6) (lf : val f 6 < RI) (b : Bool) (r : Int) (hyp : Hid ((sq (val f 6) * sq (val f 6) % RI = val f 6 ∧ b = true ∧ r = lesser (sq (val f 6))) ∨ (sq (val f 6) * sq (val f 6) % RI ≠ val f 6 ∧ b = false ∧ r = 0))) : Calls Tryd.prog 47 #[.agg #[.int .u64 (f 0), .int .u64 (f 1), .int .u64 (f 2), .int .u64 (f 3), .int .u64 (f 4), .int .u64 (f 5)]] w fun e w' => ∃ h : Nat → Int, e = .returned (.tuple #[.agg #[.int .u64 (h 0), .int .u64 (h 1), .int .u64 (h 2), .int .u64 (h 3), .int .u64 (h 4), .int .u64 (h 5)], .bool b]) ∧ Rg h 6 ∧ val h 6 = r ∧ Below w.heap.size w w' := by
  obtain ⟨B1, z1, hF, hR⟩ := pair_all w f 24
  unfold pair at B1 z1 hF hR
  have RF : Hid _ := rf
  have LF : Hid _ := lf
  clear rf lf
  go_enter Tryd.func47, Tryd.ntmps47
  go_wp2_with fail
  generalize (w.alloc (.cells #[.int .u64 (f 0), .int .u64 (f 1), .int .u64 (f 2), .int .u64 (f 3), .int .u64 (f 4), .int .u64 (f 5)] 24)).alloc (.cells #[.int .u64 0, .int .u64 0, .int .u64 0, .int .u64 0, .int .u64 0, .int .u64 0] 24) = W at *
  refine Code.wp_mono (Q := sqPost f w W) ?_ ?_
  · rintro e a' V ⟨rfl, d, h, u5, u6, u7, u8, u9, u10, u11, u12, u13, u14, u15, u16, u17, u18, u19, u20, u21, u22, rfl, bV, mV, rh, vh, ld⟩
    have dne1 : w.heap.size + 1 ≠ d := by rw [z1] at ld; omega
    have dne2 : d ≠ w.heap.size + 1 := fun e => dne1 e.symm
    have DLE : Hid (w.heap.size ≤ d) := by show _ ≤ _; rw [z1] at ld; omega
    have DNE : Hid _ := dne1
    clear ld
    have hFV := MutK.below hF bV (by rw [z1]; omega)
    have hRV := MutK.below hR bV (by rw [z1]; omega)
    have BV := Below.up B1 (Nat.le_refl _) bV
    have HS : Hid (∀ x, Below V.heap.size V x → (x.cell? ⟨d, 0, none⟩ = some (.int .u64 (h 0)) ∧ x.cell? ⟨d, 1, none⟩ = some (.int .u64 (h 1)) ∧ x.cell? ⟨d, 2, none⟩ = some (.int .u64 (h 2)) ∧ x.cell? ⟨d, 3, none⟩ = some (.int .u64 (h 3)) ∧ x.cell? ⟨d, 4, none⟩ = some (.int .u64 (h 4)) ∧ x.cell? ⟨d, 5, none⟩ = some (.int .u64 (h 5))) ∧ (x.cell? ⟨w.heap.size, 0, none⟩ = some (.int .u64 (f 0)) ∧ x.cell? ⟨w.heap.size, 1, none⟩ = some (.int .u64 (f 1)) ∧ x.cell? ⟨w.heap.size, 2, none⟩ = some (.int .u64 (f 2)) ∧ x.cell? ⟨w.heap.size, 3, none⟩ = some (.int .u64 (f 3)) ∧ x.cell? ⟨w.heap.size, 4, none⟩ = some (.int .u64 (f 4)) ∧ x.cell? ⟨w.heap.size, 5, none⟩ = some (.int .u64 (f 5)))) := fun x hx => ⟨at6 (mV.at.below hx), at6 (hFV.at.below hx)⟩
    have HR : Hid _ := hRV
    have MV : Hid _ := mV
    have B2 : Hid _ := BV
    have BW : Hid (Below V.heap.size V V.drew) := (Below.refl _ _).drew
    have RH : Hid _ := rh
    have VH : Hid _ := vh
    have LH : Hid (val h 6 < RI) := by show _ < _; rw [vh]; exact modR_lt _
    clear hF hR B1 z1 bV mV rh vh hFV hRV BV
    rcases hyp.out with ⟨hn, rfl, rfl⟩ | ⟨hn, rfl, rfl⟩
    · have HN : Hid _ := hn
      have KG : Hid _ := fun w => greatP_any h w RH.out
      rw [VH.out] at KG
      clear hn hyp
      by_cases hq : RI / 2 < sq (val f 6)
      · rw [decide_eq_true hq] at KG
        have HQ : Hid (lesser (sq (val f 6)) = (0 - sq (val f 6)) % RI) := if_pos hq
        clear hq
        go_wp2_with fail
        go_region_held3 (fun x => (x.cell? ⟨d, 0, none⟩ = some (.int .u64 (h 0)) ∧ x.cell? ⟨d, 1, none⟩ = some (.int .u64 (h 1)) ∧ x.cell? ⟨d, 2, none⟩ = some (.int .u64 (h 2)) ∧ x.cell? ⟨d, 3, none⟩ = some (.int .u64 (h 3)) ∧ x.cell? ⟨d, 4, none⟩ = some (.int .u64 (h 4)) ∧ x.cell? ⟨d, 5, none⟩ = some (.int .u64 (h 5))) ∧ (x.cell? ⟨w.heap.size, 0, none⟩ = some (.int .u64 (f 0)) ∧ x.cell? ⟨w.heap.size, 1, none⟩ = some (.int .u64 (f 1)) ∧ x.cell? ⟨w.heap.size, 2, none⟩ = some (.int .u64 (f 2)) ∧ x.cell? ⟨w.heap.size, 3, none⟩ = some (.int .u64 (f 3)) ∧ x.cell? ⟨w.heap.size, 4, none⟩ = some (.int .u64 (f 4)) ∧ x.cell? ⟨w.heap.size, 5, none⟩ = some (.int .u64 (f 5))))
          (exact HS.out _ BW.out)
          ((go_at_call 41; refine Calls.mono (mulR_agg h h _ RH.out RH.out LH.out) ?_; rintro e x3 ⟨h3, rfl, r3, v3, b3⟩; have BX := Below.up BW.out (Nat.le_refl _) b3; clear BW; have BW : Hid _ := BX; clear BX; have E3 : ∀ w, (Op.equalIn 10000 24 (.agg #[.int .u64 (h3 0), .int .u64 (h3 1), .int .u64 (h3 2), .int .u64 (h3 3), .int .u64 (h3 4), .int .u64 (h3 5)]) (.agg #[.int .u64 (f 0), .int .u64 (f 1), .int .u64 (f 2), .int .u64 (f 3), .int .u64 (f 4), .int .u64 (f 5)])).run Tryd.prog w = .ok true w := (fun w => by have e := eqFr_run h3 f r3 RF.out w; rw [v3, VH.out, decide_eq_true HN.out] at e; exact e); clear b3 r3 v3))
        obtain ⟨⟨t0, t1, t2, t3, t4, t5⟩, s0, s1, s2, s3, s4, s5⟩ := HS.out _ BW.out
        clear E3
        go_wp2_with fail
        refine Calls.mono (KG.out _) ?_
        rintro e x4 ⟨rfl, b4⟩
        have BX4 := Below.up BW.out (Nat.le_refl _) b4
        clear BW b4 t0 t1 t2 t3 t4 t5 s0 s1 s2 s3 s4 s5
        obtain ⟨⟨t0, t1, t2, t3, t4, t5⟩, s0, s1, s2, s3, s4, s5⟩ := HS.out _ BX4
        have m4 := MutK.below MV.out BX4 (cell_lt (MutK.cells6 MV.out).1)
        clear m4
        go_wp2_with fail
        have KN := negR_any h x4 RH.out LH.out
        unfold frv at KN
        refine Calls.mono KN ?_
        clear KN
        rintro e x5 ⟨v5, rfl, ⟨h5, rfl, r5, v5⟩, b5⟩
        rw [VH.out] at v5
        have BX5 := Below.up BX4 (Nat.le_refl _) b5
        have m5 := MutK.below MV.out BX5 (cell_lt (MutK.cells6 MV.out).1)
        have hR5 := MutK.below HR.out BX5 (cell_lt (MutK.cells6 HR.out).1)
        obtain ⟨V5, hV5⟩ : ∃ V5, (((((x5.setCell ⟨d, 0, none⟩ (.int .u64 (h5 0))).setCell ⟨d, 1, none⟩ (.int .u64 (h5 1))).setCell ⟨d, 2, none⟩ (.int .u64 (h5 2))).setCell ⟨d, 3, none⟩ (.int .u64 (h5 3))).setCell ⟨d, 4, none⟩ (.int .u64 (h5 4))).setCell ⟨d, 5, none⟩ (.int .u64 (h5 5)) = V5 := ⟨_, rfl⟩
        have mx : Mut V5 d 0 6 h5 := hV5 ▸ mut_set6 m5 h5
        have mr : Mut V5 (w.heap.size + 1) 0 6 Z := hV5 ▸ mut_not6 hR5 DNE.out _ _ _ _ _ _
        have HB : Hid (Below w.heap.size w V5) := hV5 ▸ below_set6 (Below.up B2.out (Nat.le_refl _) BX5) DLE.out _ _ _ _ _ _
        obtain ⟨p0, p1, p2, p3, p4, p5⟩ := MutK.cells6 m5
        obtain ⟨o0, o1, o2, o3, o4, o5⟩ := MutK.free6 m5
        obtain ⟨l0, l1, l2, l3, l4, l5⟩ := MutK.cells6 mx
        obtain ⟨y0, y1, y2, y3, y4, y5⟩ := MutK.cells6 mr
        obtain ⟨q0, q1, q2, q3, q4, q5⟩ := MutK.free6 mr
        have V5' : Hid _ := v5
        have R5 : Hid _ := r5
        clear t0 t1 t2 t3 t4 t5 s0 s1 s2 s3 s4 s5 m5 hR5 b5 BX4 BX5 v5 r5 mx mr dne1 dne2
        go_wp2
        refine bodyPost_ret (v := .tuple #[.agg #[.int .u64 (h5 0), .int .u64 (h5 1), .int .u64 (h5 2), .int .u64 (h5 3), .int .u64 (h5 4), .int .u64 (h5 5)], .bool true]) (by simp [results, Tryd.results47, go_sem, y0, y1, y2, y3, y4, y5]) rfl ⟨h5, rfl, R5.out, by rw [HQ.out]; exact V5'.out, ?_⟩
        exact below_set6 HB.out (by omega) _ _ _ _ _ _
      · rw [decide_eq_false hq] at KG
        have HQ : Hid (lesser (sq (val f 6)) = sq (val f 6)) := if_neg hq
        clear hq
        go_wp2_with fail
        go_region_held3 (fun x => (x.cell? ⟨d, 0, none⟩ = some (.int .u64 (h 0)) ∧ x.cell? ⟨d, 1, none⟩ = some (.int .u64 (h 1)) ∧ x.cell? ⟨d, 2, none⟩ = some (.int .u64 (h 2)) ∧ x.cell? ⟨d, 3, none⟩ = some (.int .u64 (h 3)) ∧ x.cell? ⟨d, 4, none⟩ = some (.int .u64 (h 4)) ∧ x.cell? ⟨d, 5, none⟩ = some (.int .u64 (h 5))) ∧ (x.cell? ⟨w.heap.size, 0, none⟩ = some (.int .u64 (f 0)) ∧ x.cell? ⟨w.heap.size, 1, none⟩ = some (.int .u64 (f 1)) ∧ x.cell? ⟨w.heap.size, 2, none⟩ = some (.int .u64 (f 2)) ∧ x.cell? ⟨w.heap.size, 3, none⟩ = some (.int .u64 (f 3)) ∧ x.cell? ⟨w.heap.size, 4, none⟩ = some (.int .u64 (f 4)) ∧ x.cell? ⟨w.heap.size, 5, none⟩ = some (.int .u64 (f 5))))
          (exact HS.out _ BW.out)
          ((go_at_call 41; refine Calls.mono (mulR_agg h h _ RH.out RH.out LH.out) ?_; rintro e x3 ⟨h3, rfl, r3, v3, b3⟩; have BX := Below.up BW.out (Nat.le_refl _) b3; clear BW; have BW : Hid _ := BX; clear BX; have E3 : ∀ w, (Op.equalIn 10000 24 (.agg #[.int .u64 (h3 0), .int .u64 (h3 1), .int .u64 (h3 2), .int .u64 (h3 3), .int .u64 (h3 4), .int .u64 (h3 5)]) (.agg #[.int .u64 (f 0), .int .u64 (f 1), .int .u64 (f 2), .int .u64 (f 3), .int .u64 (f 4), .int .u64 (f 5)])).run Tryd.prog w = .ok true w := (fun w => by have e := eqFr_run h3 f r3 RF.out w; rw [v3, VH.out, decide_eq_true HN.out] at e; exact e); clear b3 r3 v3))
        obtain ⟨⟨t0, t1, t2, t3, t4, t5⟩, s0, s1, s2, s3, s4, s5⟩ := HS.out _ BW.out
        clear E3
        go_wp2_with fail
        refine Calls.mono (KG.out _) ?_
        rintro e x4 ⟨rfl, b4⟩
        have BX4 := Below.up BW.out (Nat.le_refl _) b4
        clear BW b4 t0 t1 t2 t3 t4 t5 s0 s1 s2 s3 s4 s5
        obtain ⟨⟨t0, t1, t2, t3, t4, t5⟩, s0, s1, s2, s3, s4, s5⟩ := HS.out _ BX4
        obtain ⟨y0, y1, y2, y3, y4, y5⟩ := MutK.cells6 (MutK.below HR.out BX4 (cell_lt (MutK.cells6 HR.out).1))
        obtain ⟨q0, q1, q2, q3, q4, q5⟩ := MutK.free6 (MutK.below HR.out BX4 (cell_lt (MutK.cells6 HR.out).1))
        have HB : Hid _ := Below.up B2.out (Nat.le_refl _) BX4
        clear BX4 s0 s1 s2 s3 s4 s5
        go_wp2
        refine bodyPost_ret (v := .tuple #[.agg #[.int .u64 (h 0), .int .u64 (h 1), .int .u64 (h 2), .int .u64 (h 3), .int .u64 (h 4), .int .u64 (h 5)], .bool true]) (by simp [results, Tryd.results47, go_sem, y0, y1, y2, y3, y4, y5]) rfl ⟨h, rfl, RH.out, by rw [HQ.out]; exact VH.out, ?_⟩
        exact below_set6 HB.out (by omega) _ _ _ _ _ _
    · have HN : Hid _ := hn
      clear hn hyp
      go_wp2_with fail
      go_region_held3 (fun x => (x.cell? ⟨d, 0, none⟩ = some (.int .u64 (h 0)) ∧ x.cell? ⟨d, 1, none⟩ = some (.int .u64 (h 1)) ∧ x.cell? ⟨d, 2, none⟩ = some (.int .u64 (h 2)) ∧ x.cell? ⟨d, 3, none⟩ = some (.int .u64 (h 3)) ∧ x.cell? ⟨d, 4, none⟩ = some (.int .u64 (h 4)) ∧ x.cell? ⟨d, 5, none⟩ = some (.int .u64 (h 5))) ∧ (x.cell? ⟨w.heap.size, 0, none⟩ = some (.int .u64 (f 0)) ∧ x.cell? ⟨w.heap.size, 1, none⟩ = some (.int .u64 (f 1)) ∧ x.cell? ⟨w.heap.size, 2, none⟩ = some (.int .u64 (f 2)) ∧ x.cell? ⟨w.heap.size, 3, none⟩ = some (.int .u64 (f 3)) ∧ x.cell? ⟨w.heap.size, 4, none⟩ = some (.int .u64 (f 4)) ∧ x.cell? ⟨w.heap.size, 5, none⟩ = some (.int .u64 (f 5))))
          (exact HS.out _ BW.out)
          ((go_at_call 41; refine Calls.mono (mulR_agg h h _ RH.out RH.out LH.out) ?_; rintro e x3 ⟨h3, rfl, r3, v3, b3⟩; have BX := Below.up BW.out (Nat.le_refl _) b3; clear BW; have BW : Hid _ := BX; clear BX; have E3 : ∀ w, (Op.equalIn 10000 24 (.agg #[.int .u64 (h3 0), .int .u64 (h3 1), .int .u64 (h3 2), .int .u64 (h3 3), .int .u64 (h3 4), .int .u64 (h3 5)]) (.agg #[.int .u64 (f 0), .int .u64 (f 1), .int .u64 (f 2), .int .u64 (f 3), .int .u64 (f 4), .int .u64 (f 5)])).run Tryd.prog w = .ok false w := (fun w => by have e := eqFr_run h3 f r3 RF.out w; rw [v3, VH.out, decide_eq_false HN.out] at e; exact e); clear b3 r3 v3))
      obtain ⟨y0, y1, y2, y3, y4, y5⟩ := MutK.cells6 (MutK.below HR.out BW.out (cell_lt (MutK.cells6 HR.out).1))
      obtain ⟨q0, q1, q2, q3, q4, q5⟩ := MutK.free6 (MutK.below HR.out BW.out (cell_lt (MutK.cells6 HR.out).1))
      have HB : Hid _ := Below.up B2.out (Nat.le_refl _) BW.out
      clear BW
      go_wp2
      refine bodyPost_ret (v := .tuple #[.agg #[.int .u64 0, .int .u64 0, .int .u64 0, .int .u64 0, .int .u64 0, .int .u64 0], .bool false]) (by simp [results, Tryd.results47, go_sem, y0, y1, y2, y3, y4, y5]) rfl ⟨Z, rfl, Z_rg 6, val_Z 6, ?_⟩
      exact below_set6 HB.out (by omega) _ _ _ _ _ _
  · have HS : Hid (∀ x, Below W.heap.size W x → (x.cell? ⟨w.heap.size, 0, none⟩ = some (.int .u64 (f 0)) ∧ x.cell? ⟨w.heap.size, 1, none⟩ = some (.int .u64 (f 1)) ∧ x.cell? ⟨w.heap.size, 2, none⟩ = some (.int .u64 (f 2)) ∧ x.cell? ⟨w.heap.size, 3, none⟩ = some (.int .u64 (f 3)) ∧ x.cell? ⟨w.heap.size, 4, none⟩ = some (.int .u64 (f 4)) ∧ x.cell? ⟨w.heap.size, 5, none⟩ = some (.int .u64 (f 5)))) := fun x hx => at6 (hF.at.below hx)
    have BW : Hid (Below W.heap.size W W) := Below.refl _ _
    have LB : Hid (W.heap.size ≤ W.heap.size) := Nat.le_refl _
    have KP : Hid _ := powR_any f
    unfold frv at KP
    clear B1 hF hR z1
    refine wp_region_held_drew (S := (fun x => x.cell? ⟨w.heap.size, 0, none⟩ = some (.int .u64 (f 0)) ∧ x.cell? ⟨w.heap.size, 1, none⟩ = some (.int .u64 (f 1)) ∧ x.cell? ⟨w.heap.size, 2, none⟩ = some (.int .u64 (f 2)) ∧ x.cell? ⟨w.heap.size, 3, none⟩ = some (.int .u64 (f 3)) ∧ x.cell? ⟨w.heap.size, 4, none⟩ = some (.int .u64 (f 4)) ∧ x.cell? ⟨w.heap.size, 5, none⟩ = some (.int .u64 (f 5)))) (by kernel_rfl) (HS.out _ (Below.refl _ _).drew) (fun hHeld => ?_)
    refine takeW (i := 0) (v := .agg #[.int .u64 (f 0), .int .u64 (f 1), .int .u64 (f 2), .int .u64 (f 3), .int .u64 (f 4), .int .u64 (f 5)]) 5 rfl (by kernel_rfl) (by kernel_rfl) (by kernel_rfl) (by intro _ _ _ h; exact nomatch h.1) (Or.inl ⟨by rfl, fun wS hSw => by dsimp only at hSw; go_simp⟩) hHeld rfl ?_
    try simp only [Act.put, List.setIfInBounds_toArray, List.set_cons_zero, List.set_cons_succ]
    refine wpAnyH_ready (rs := [1, 2, 7]) (by kernel_rfl) (by simp) ?_
    refine AllReadyH.cons rfl (fun K hK => ?_) ?_
    · go_simp
      go_at_call 28; refine Calls.mono (refP_new _) ?_; rintro e w2 ⟨k2, rfl, b2, a2⟩; have bb' := (below_drew b2); have AP : Hid (At w2 (some ⟨k2, 0, none⟩) 6 rL) := a2; have BX : Below W.heap.size W w2 := Below.up BW.out (Nat.le_refl _) bb'; clear BW; have BW : Hid (Below W.heap.size W w2) := BX; clear LB; have LB : Hid (W.heap.size ≤ w2.heap.size) := BX.size; clear BX bb'; clear b2 a2
      refine hK.out _ _ (HS.out _ (BW.out)) (fun hHeld2 => ?_)
      clear hK K hHeld
      have hHeld := hHeld2
      clear hHeld2
      try simp only [Act.put, List.setIfInBounds_toArray, List.set_cons_zero, List.set_cons_succ]
      refine wpAnyH_ready (rs := [2, 7]) (by kernel_rfl) (by simp) ?_
      refine AllReadyH.cons rfl (fun K hK => ?_) ?_
      · go_simp
        refine hK.out _ _ (HS.out _ (Below.up BW.out (Nat.le_refl _) (below_one _ _))) (fun hHeld2 => ?_)
        clear hK K hHeld
        have hHeld := hHeld2
        clear hHeld2
        try simp only [Act.put, List.setIfInBounds_toArray, List.set_cons_zero, List.set_cons_succ]
        refine wpAnyH_ready (rs := [3, 7]) (by kernel_rfl) (by simp) ?_
        refine AllReadyH.cons rfl (fun K hK => ?_) ?_
        · go_simp
          go_at_call 70; refine Calls.mono (refSum_any _ _ 6 1 6 1 rL (one 1) _ (by omega) (by omega) (by omega) (by omega) (AtK.below AP.out (below_one _ _)) (at_one _ _ _) rL_rg (one_rg ⟨by decide, by rw [B64_eq]; decide⟩ 1) (by omega) (by omega)) ?_; rintro e w3 ⟨v3, rfl, b3, p3, n3, c3, h3, rfl, q1, q2, q3, a3, r3, nm3, v3⟩; have bb' := (lit1 b3).1; have A3 : Hid (At w3 p3 n3 h3) := a3; have R3 : Hid _ := r3; have V3 : Hid _ := v3; have P3 : 0 < n3 := nm_pos v3; have BX : Below W.heap.size W w3 := Below.up BW.out (Nat.le_refl _) bb'; clear BW; have BW : Hid (Below W.heap.size W w3) := BX; clear LB; have LB : Hid (W.heap.size ≤ w3.heap.size) := BX.size; clear BX bb'; clear b3 a3 r3 v3 nm3 AP
          refine hK.out _ _ (HS.out _ (BW.out)) (fun hHeld2 => ?_)
          clear hK K hHeld
          have hHeld := hHeld2
          clear hHeld2
          try simp only [Act.put, List.setIfInBounds_toArray, List.set_cons_zero, List.set_cons_succ]
          refine wpAnyH_ready (rs := [4, 7]) (by kernel_rfl) (by simp) ?_
          refine AllReadyH.cons rfl (fun K hK => ?_) ?_
          · go_simp
            go_at_call 67; refine Calls.mono (half_any p3 n3 c3 h3 _ P3 (by omega) q1 (A3.out) R3.out) ?_; rintro e w4 ⟨k4, rfl, b4, m4⟩; have bb' := b4; have M4 : Hid (At w4 (some ⟨k4, 0, none⟩) n3 (hv h3 n3)) := m4.at; have BX : Below W.heap.size W w4 := Below.up BW.out (Nat.le_refl _) bb'; clear BW; have BW : Hid (Below W.heap.size W w4) := BX; clear LB; have LB : Hid (W.heap.size ≤ w4.heap.size) := BX.size; clear BX bb'; clear b4 m4 A3
            refine hK.out _ _ (HS.out _ (BW.out)) (fun hHeld2 => ?_)
            clear hK K hHeld
            have hHeld := hHeld2
            clear hHeld2
            try simp only [Act.put, List.setIfInBounds_toArray, List.set_cons_zero, List.set_cons_succ]
            refine wpAnyH_ready (rs := [5, 7]) (by kernel_rfl) (by simp) ?_
            refine AllReadyH.cons rfl (fun K hK => ?_) ?_
            · go_simp
              go_at_call 67; refine Calls.mono (half_any (some ⟨k4, 0, none⟩) n3 n3 (hv h3 n3) _ P3 (by omega) (by omega) (M4.out) (hv_rg R3.out)) ?_; rintro e w5 ⟨k5, rfl, b5, m5⟩; have bb' := b5; have M5 : Hid (At w5 (some ⟨k5, 0, none⟩) n3 (hv (hv h3 n3) n3)) := m5.at; have BX : Below W.heap.size W w5 := Below.up BW.out (Nat.le_refl _) bb'; clear BW; have BW : Hid (Below W.heap.size W w5) := BX; clear LB; have LB : Hid (W.heap.size ≤ w5.heap.size) := BX.size; clear BX bb'; clear b5 m5 M4
              refine hK.out _ _ (HS.out _ (BW.out)) (fun hHeld2 => ?_)
              clear hK K hHeld
              have hHeld := hHeld2
              clear hHeld2
              try simp only [Act.put, List.setIfInBounds_toArray, List.set_cons_zero, List.set_cons_succ]
              refine wpAnyH_ready (rs := [6, 7]) (by kernel_rfl) (by simp) ?_
              refine AllReadyH.cons rfl (fun K hK => ?_) ?_
              · go_simp
                go_at_call 57; refine Calls.mono (KP.out (some ⟨k5, 0, none⟩) n3 n3 (hv (hv h3 n3) n3) SE _ RF.out LF.out (by omega) (M5.out) (hv_rg (hv_rg R3.out)) (by rw [hv_val P3, hv_val P3, V3.out, rL_val, val_one]; exact SE_val)) ?_; rintro e w6 ⟨v6, rfl, ⟨h6, rfl, r6, v6⟩, b6⟩; have bb' := b6; have R6 : Hid (Rg h6 6) := r6; have V6 : Hid (val h6 6 = sq (val f 6)) := v6; have BX : Below W.heap.size W w6 := Below.up BW.out (Nat.le_refl _) bb'; clear BW; have BW : Hid (Below W.heap.size W w6) := BX; clear LB; have LB : Hid (W.heap.size ≤ w6.heap.size) := BX.size; clear BX bb'; clear b6 r6 v6 M5 R3 V3 P3
                refine hK.out _ _ (HS.out _ (BW.out)) (fun hHeld2 => ?_)
                clear hK K hHeld
                have hHeld := hHeld2
                clear hHeld2
                try simp only [Act.put, List.setIfInBounds_toArray, List.set_cons_zero, List.set_cons_succ]
                refine wpAnyH_ready (rs := [7]) (by kernel_rfl) (by simp) ?_
                refine AllReadyH.cons rfl (fun K hK => ?_) AllReadyH.nil
                go_simp
                refine hK.out _ _ (HS.out _ (Below.up BW.out (Nat.le_refl _) (below_one _ _))) (fun hHeld2 => ?_)
                clear hK K hHeld
                have hHeld := hHeld2
                clear hHeld2
                try simp only [Act.put, List.setIfInBounds_toArray, List.set_cons_zero, List.set_cons_succ]
                refine wpAnyH_ready (rs := [8]) (by kernel_rfl) (by simp) ?_
                refine AllReadyH.cons rfl (fun K hK => ?_) AllReadyH.nil
                go_simp
                refine hK.out _ _ (HS.out _ ((finA h6 BW.out).1)) (fun hHeld2 => ?_)
                clear hK K hHeld hHeld2
                try simp only [Act.put, List.setIfInBounds_toArray, List.set_cons_zero, List.set_cons_succ]
                refine wpAnyH_done (by kernel_rfl) ?_ _
                exact ⟨rfl, _, h6, _, _, _, _, _, _, _, _, _, _, _, _, _, _, _, _, _, _, rfl, (finA h6 BW.out).1, (finA h6 BW.out).2, R6.out, V6.out, LB.out⟩
              refine AllReadyH.cons rfl (fun K hK => ?_) AllReadyH.nil
              go_simp
              refine hK.out _ _ (HS.out _ (Below.up BW.out (Nat.le_refl _) (below_one _ _))) (fun hHeld2 => ?_)
              clear hK K hHeld
              have hHeld := hHeld2
              clear hHeld2
              try simp only [Act.put, List.setIfInBounds_toArray, List.set_cons_zero, List.set_cons_succ]
              refine wpAnyH_ready (rs := [6]) (by kernel_rfl) (by simp) ?_
              refine AllReadyH.cons rfl (fun K hK => ?_) AllReadyH.nil
              go_simp
              go_at_call 57; refine Calls.mono (KP.out (some ⟨k5, 0, none⟩) n3 n3 (hv (hv h3 n3) n3) SE _ RF.out LF.out (by omega) (AtK.below M5.out (below_one _ _)) (hv_rg (hv_rg R3.out)) (by rw [hv_val P3, hv_val P3, V3.out, rL_val, val_one]; exact SE_val)) ?_; rintro e w6 ⟨v6, rfl, ⟨h6, rfl, r6, v6⟩, b6⟩; have bb' := (box1 b6).1; have MX : Hid _ := (box1 b6).2; have LX : Hid (W.heap.size ≤ w5.heap.size) := (by exact LB.out); have R6 : Hid (Rg h6 6) := r6; have V6 : Hid (val h6 6 = sq (val f 6)) := v6; obtain ⟨m0, m1, m2, m3, m4, m5⟩ := MutK.cells6 MX.out; obtain ⟨n0, n1, n2, n3, n4, n5⟩ := MutK.free6 MX.out; have BX : Below W.heap.size W w6 := Below.up BW.out (Nat.le_refl _) bb'; clear BW; have BW : Hid (Below W.heap.size W w6) := BX; clear LB; have LB : Hid (W.heap.size ≤ w6.heap.size) := BX.size; clear BX bb'; clear b6 r6 v6 M5 R3 V3 P3
              refine hK.out _ _ (HS.out _ (BW.out)) (fun hHeld2 => ?_)
              clear hK K hHeld
              have hHeld := hHeld2
              clear hHeld2
              try simp only [Act.put, List.setIfInBounds_toArray, List.set_cons_zero, List.set_cons_succ]
              refine wpAnyH_ready (rs := [8]) (by kernel_rfl) (by simp) ?_
              refine AllReadyH.cons rfl (fun K hK => ?_) AllReadyH.nil
              go_simp
              refine hK.out _ _ (HS.out _ (below_set6 BW.out LX.out _ _ _ _ _ _)) (fun hHeld2 => ?_)
              clear hK K hHeld hHeld2
              try simp only [Act.put, List.setIfInBounds_toArray, List.set_cons_zero, List.set_cons_succ]
              refine wpAnyH_done (by kernel_rfl) ?_ _
              exact ⟨rfl, _, h6, _, _, _, _, _, _, _, _, _, _, _, _, _, _, _, _, _, _, rfl, (finB h6 BW.out MX.out LX.out).1, (finB h6 BW.out MX.out LX.out).2, R6.out, V6.out, LX.out⟩
            refine AllReadyH.cons rfl (fun K hK => ?_) AllReadyH.nil
            go_simp
            refine hK.out _ _ (HS.out _ (Below.up BW.out (Nat.le_refl _) (below_one _ _))) (fun hHeld2 => ?_)
            clear hK K hHeld
            have hHeld := hHeld2
            clear hHeld2
            try simp only [Act.put, List.setIfInBounds_toArray, List.set_cons_zero, List.set_cons_succ]
            refine wpAnyH_ready (rs := [5]) (by kernel_rfl) (by simp) ?_
            refine AllReadyH.cons rfl (fun K hK => ?_) AllReadyH.nil
            go_simp
            go_at_call 67; refine Calls.mono (half_any (some ⟨k4, 0, none⟩) n3 n3 (hv h3 n3) _ P3 (by omega) (by omega) (AtK.below M4.out (below_one _ _)) (hv_rg R3.out)) ?_; rintro e w5 ⟨k5, rfl, b5, m5⟩; have bb' := (box1 b5).1; have MX : Hid _ := (box1 b5).2; have LX : Hid (W.heap.size ≤ w4.heap.size) := (by exact LB.out); have M5 : Hid (At w5 (some ⟨k5, 0, none⟩) n3 (hv (hv h3 n3) n3)) := m5.at; have BX : Below W.heap.size W w5 := Below.up BW.out (Nat.le_refl _) bb'; clear BW; have BW : Hid (Below W.heap.size W w5) := BX; clear LB; have LB : Hid (W.heap.size ≤ w5.heap.size) := BX.size; clear BX bb'; clear b5 m5 M4
            refine hK.out _ _ (HS.out _ (BW.out)) (fun hHeld2 => ?_)
            clear hK K hHeld
            have hHeld := hHeld2
            clear hHeld2
            try simp only [Act.put, List.setIfInBounds_toArray, List.set_cons_zero, List.set_cons_succ]
            refine wpAnyH_ready (rs := [6]) (by kernel_rfl) (by simp) ?_
            refine AllReadyH.cons rfl (fun K hK => ?_) AllReadyH.nil
            go_simp
            go_at_call 57; refine Calls.mono (KP.out (some ⟨k5, 0, none⟩) n3 n3 (hv (hv h3 n3) n3) SE _ RF.out LF.out (by omega) (M5.out) (hv_rg (hv_rg R3.out)) (by rw [hv_val P3, hv_val P3, V3.out, rL_val, val_one]; exact SE_val)) ?_; rintro e w6 ⟨v6, rfl, ⟨h6, rfl, r6, v6⟩, b6⟩; have bb' := b6; have MX3 : Hid _ := MutK.below MX.out bb' (cell_lt (MutK.cells6 MX.out).1); clear MX; have MX : Hid _ := MX3.out; clear MX3; have R6 : Hid (Rg h6 6) := r6; have V6 : Hid (val h6 6 = sq (val f 6)) := v6; obtain ⟨m0, m1, m2, m3, m4, m5⟩ := MutK.cells6 MX.out; obtain ⟨n0, n1, n2, n3, n4, n5⟩ := MutK.free6 MX.out; have BX : Below W.heap.size W w6 := Below.up BW.out (Nat.le_refl _) bb'; clear BW; have BW : Hid (Below W.heap.size W w6) := BX; clear LB; have LB : Hid (W.heap.size ≤ w6.heap.size) := BX.size; clear BX bb'; clear b6 r6 v6 M5 R3 V3 P3
            refine hK.out _ _ (HS.out _ (BW.out)) (fun hHeld2 => ?_)
            clear hK K hHeld
            have hHeld := hHeld2
            clear hHeld2
            try simp only [Act.put, List.setIfInBounds_toArray, List.set_cons_zero, List.set_cons_succ]
            refine wpAnyH_ready (rs := [8]) (by kernel_rfl) (by simp) ?_
            refine AllReadyH.cons rfl (fun K hK => ?_) AllReadyH.nil
            go_simp
            refine hK.out _ _ (HS.out _ (below_set6 BW.out LX.out _ _ _ _ _ _)) (fun hHeld2 => ?_)
            clear hK K hHeld hHeld2
            try simp only [Act.put, List.setIfInBounds_toArray, List.set_cons_zero, List.set_cons_succ]
            refine wpAnyH_done (by kernel_rfl) ?_ _
            exact ⟨rfl, _, h6, _, _, _, _, _, _, _, _, _, _, _, _, _, _, _, _, _, _, rfl, (finB h6 BW.out MX.out LX.out).1, (finB h6 BW.out MX.out LX.out).2, R6.out, V6.out, LX.out⟩
          refine AllReadyH.cons rfl (fun K hK => ?_) AllReadyH.nil
          go_simp
          refine hK.out _ _ (HS.out _ (Below.up BW.out (Nat.le_refl _) (below_one _ _))) (fun hHeld2 => ?_)
          clear hK K hHeld
          have hHeld := hHeld2
          clear hHeld2
          try simp only [Act.put, List.setIfInBounds_toArray, List.set_cons_zero, List.set_cons_succ]
          refine wpAnyH_ready (rs := [4]) (by kernel_rfl) (by simp) ?_
          refine AllReadyH.cons rfl (fun K hK => ?_) AllReadyH.nil
          go_simp
          go_at_call 67; refine Calls.mono (half_any p3 n3 c3 h3 _ P3 (by omega) q1 (AtK.below A3.out (below_one _ _)) R3.out) ?_; rintro e w4 ⟨k4, rfl, b4, m4⟩; have bb' := (box1 b4).1; have MX : Hid _ := (box1 b4).2; have LX : Hid (W.heap.size ≤ w3.heap.size) := (by exact LB.out); have M4 : Hid (At w4 (some ⟨k4, 0, none⟩) n3 (hv h3 n3)) := m4.at; have BX : Below W.heap.size W w4 := Below.up BW.out (Nat.le_refl _) bb'; clear BW; have BW : Hid (Below W.heap.size W w4) := BX; clear LB; have LB : Hid (W.heap.size ≤ w4.heap.size) := BX.size; clear BX bb'; clear b4 m4 A3
          refine hK.out _ _ (HS.out _ (BW.out)) (fun hHeld2 => ?_)
          clear hK K hHeld
          have hHeld := hHeld2
          clear hHeld2
          try simp only [Act.put, List.setIfInBounds_toArray, List.set_cons_zero, List.set_cons_succ]
          refine wpAnyH_ready (rs := [5]) (by kernel_rfl) (by simp) ?_
          refine AllReadyH.cons rfl (fun K hK => ?_) AllReadyH.nil
          go_simp
          go_at_call 67; refine Calls.mono (half_any (some ⟨k4, 0, none⟩) n3 n3 (hv h3 n3) _ P3 (by omega) (by omega) (M4.out) (hv_rg R3.out)) ?_; rintro e w5 ⟨k5, rfl, b5, m5⟩; have bb' := b5; have MX3 : Hid _ := MutK.below MX.out bb' (cell_lt (MutK.cells6 MX.out).1); clear MX; have MX : Hid _ := MX3.out; clear MX3; have M5 : Hid (At w5 (some ⟨k5, 0, none⟩) n3 (hv (hv h3 n3) n3)) := m5.at; have BX : Below W.heap.size W w5 := Below.up BW.out (Nat.le_refl _) bb'; clear BW; have BW : Hid (Below W.heap.size W w5) := BX; clear LB; have LB : Hid (W.heap.size ≤ w5.heap.size) := BX.size; clear BX bb'; clear b5 m5 M4
          refine hK.out _ _ (HS.out _ (BW.out)) (fun hHeld2 => ?_)
          clear hK K hHeld
          have hHeld := hHeld2
          clear hHeld2
          try simp only [Act.put, List.setIfInBounds_toArray, List.set_cons_zero, List.set_cons_succ]
          refine wpAnyH_ready (rs := [6]) (by kernel_rfl) (by simp) ?_
          refine AllReadyH.cons rfl (fun K hK => ?_) AllReadyH.nil
          go_simp
          go_at_call 57; refine Calls.mono (KP.out (some ⟨k5, 0, none⟩) n3 n3 (hv (hv h3 n3) n3) SE _ RF.out LF.out (by omega) (M5.out) (hv_rg (hv_rg R3.out)) (by rw [hv_val P3, hv_val P3, V3.out, rL_val, val_one]; exact SE_val)) ?_; rintro e w6 ⟨v6, rfl, ⟨h6, rfl, r6, v6⟩, b6⟩; have bb' := b6; have MX3 : Hid _ := MutK.below MX.out bb' (cell_lt (MutK.cells6 MX.out).1); clear MX; have MX : Hid _ := MX3.out; clear MX3; have R6 : Hid (Rg h6 6) := r6; have V6 : Hid (val h6 6 = sq (val f 6)) := v6; obtain ⟨m0, m1, m2, m3, m4, m5⟩ := MutK.cells6 MX.out; obtain ⟨n0, n1, n2, n3, n4, n5⟩ := MutK.free6 MX.out; have BX : Below W.heap.size W w6 := Below.up BW.out (Nat.le_refl _) bb'; clear BW; have BW : Hid (Below W.heap.size W w6) := BX; clear LB; have LB : Hid (W.heap.size ≤ w6.heap.size) := BX.size; clear BX bb'; clear b6 r6 v6 M5 R3 V3 P3
          refine hK.out _ _ (HS.out _ (BW.out)) (fun hHeld2 => ?_)
          clear hK K hHeld
          have hHeld := hHeld2
          clear hHeld2
          try simp only [Act.put, List.setIfInBounds_toArray, List.set_cons_zero, List.set_cons_succ]
          refine wpAnyH_ready (rs := [8]) (by kernel_rfl) (by simp) ?_
          refine AllReadyH.cons rfl (fun K hK => ?_) AllReadyH.nil
          go_simp
          refine hK.out _ _ (HS.out _ (below_set6 BW.out LX.out _ _ _ _ _ _)) (fun hHeld2 => ?_)
          clear hK K hHeld hHeld2
          try simp only [Act.put, List.setIfInBounds_toArray, List.set_cons_zero, List.set_cons_succ]
          refine wpAnyH_done (by kernel_rfl) ?_ _
          exact ⟨rfl, _, h6, _, _, _, _, _, _, _, _, _, _, _, _, _, _, _, _, _, _, rfl, (finB h6 BW.out MX.out LX.out).1, (finB h6 BW.out MX.out LX.out).2, R6.out, V6.out, LX.out⟩
        refine AllReadyH.cons rfl (fun K hK => ?_) AllReadyH.nil
        go_simp
        refine hK.out _ _ (HS.out _ (Below.up BW.out (Nat.le_refl _) (below_two _ _ _))) (fun hHeld2 => ?_)
        clear hK K hHeld
        have hHeld := hHeld2
        clear hHeld2
        try simp only [Act.put, List.setIfInBounds_toArray, List.set_cons_zero, List.set_cons_succ]
        refine wpAnyH_ready (rs := [3]) (by kernel_rfl) (by simp) ?_
        refine AllReadyH.cons rfl (fun K hK => ?_) AllReadyH.nil
        go_simp
        go_at_call 70; refine Calls.mono (refSum_any _ _ 6 1 6 1 rL (one 1) _ (by omega) (by omega) (by omega) (by omega) (AtK.below AP.out (below_two _ _ _)) (AtK.below (at_one _ _ _) (below_one _ _)) rL_rg (one_rg ⟨by decide, by rw [B64_eq]; decide⟩ 1) (by omega) (by omega)) ?_; rintro e w3 ⟨v3, rfl, b3, p3, n3, c3, h3, rfl, q1, q2, q3, a3, r3, nm3, v3⟩; have bb' := (litbox b3).1; have MX : Hid _ := (litbox b3).2.2; have LX : Hid (W.heap.size ≤ w2.heap.size + 1) := Nat.le_succ_of_le LB.out; have A3 : Hid (At w3 p3 n3 h3) := a3; have R3 : Hid _ := r3; have V3 : Hid _ := v3; have P3 : 0 < n3 := nm_pos v3; have BX : Below W.heap.size W w3 := Below.up BW.out (Nat.le_refl _) bb'; clear BW; have BW : Hid (Below W.heap.size W w3) := BX; clear LB; have LB : Hid (W.heap.size ≤ w3.heap.size) := BX.size; clear BX bb'; clear b3 a3 r3 v3 nm3 AP
        refine hK.out _ _ (HS.out _ (BW.out)) (fun hHeld2 => ?_)
        clear hK K hHeld
        have hHeld := hHeld2
        clear hHeld2
        try simp only [Act.put, List.setIfInBounds_toArray, List.set_cons_zero, List.set_cons_succ]
        refine wpAnyH_ready (rs := [4]) (by kernel_rfl) (by simp) ?_
        refine AllReadyH.cons rfl (fun K hK => ?_) AllReadyH.nil
        go_simp
        go_at_call 67; refine Calls.mono (half_any p3 n3 c3 h3 _ P3 (by omega) q1 (A3.out) R3.out) ?_; rintro e w4 ⟨k4, rfl, b4, m4⟩; have bb' := b4; have MX3 : Hid _ := MutK.below MX.out bb' (cell_lt (MutK.cells6 MX.out).1); clear MX; have MX : Hid _ := MX3.out; clear MX3; have M4 : Hid (At w4 (some ⟨k4, 0, none⟩) n3 (hv h3 n3)) := m4.at; have BX : Below W.heap.size W w4 := Below.up BW.out (Nat.le_refl _) bb'; clear BW; have BW : Hid (Below W.heap.size W w4) := BX; clear LB; have LB : Hid (W.heap.size ≤ w4.heap.size) := BX.size; clear BX bb'; clear b4 m4 A3
        refine hK.out _ _ (HS.out _ (BW.out)) (fun hHeld2 => ?_)
        clear hK K hHeld
        have hHeld := hHeld2
        clear hHeld2
        try simp only [Act.put, List.setIfInBounds_toArray, List.set_cons_zero, List.set_cons_succ]
        refine wpAnyH_ready (rs := [5]) (by kernel_rfl) (by simp) ?_
        refine AllReadyH.cons rfl (fun K hK => ?_) AllReadyH.nil
        go_simp
        go_at_call 67; refine Calls.mono (half_any (some ⟨k4, 0, none⟩) n3 n3 (hv h3 n3) _ P3 (by omega) (by omega) (M4.out) (hv_rg R3.out)) ?_; rintro e w5 ⟨k5, rfl, b5, m5⟩; have bb' := b5; have MX3 : Hid _ := MutK.below MX.out bb' (cell_lt (MutK.cells6 MX.out).1); clear MX; have MX : Hid _ := MX3.out; clear MX3; have M5 : Hid (At w5 (some ⟨k5, 0, none⟩) n3 (hv (hv h3 n3) n3)) := m5.at; have BX : Below W.heap.size W w5 := Below.up BW.out (Nat.le_refl _) bb'; clear BW; have BW : Hid (Below W.heap.size W w5) := BX; clear LB; have LB : Hid (W.heap.size ≤ w5.heap.size) := BX.size; clear BX bb'; clear b5 m5 M4
        refine hK.out _ _ (HS.out _ (BW.out)) (fun hHeld2 => ?_)
        clear hK K hHeld
        have hHeld := hHeld2
        clear hHeld2
        try simp only [Act.put, List.setIfInBounds_toArray, List.set_cons_zero, List.set_cons_succ]
        refine wpAnyH_ready (rs := [6]) (by kernel_rfl) (by simp) ?_
        refine AllReadyH.cons rfl (fun K hK => ?_) AllReadyH.nil
        go_simp
        go_at_call 57; refine Calls.mono (KP.out (some ⟨k5, 0, none⟩) n3 n3 (hv (hv h3 n3) n3) SE _ RF.out LF.out (by omega) (M5.out) (hv_rg (hv_rg R3.out)) (by rw [hv_val P3, hv_val P3, V3.out, rL_val, val_one]; exact SE_val)) ?_; rintro e w6 ⟨v6, rfl, ⟨h6, rfl, r6, v6⟩, b6⟩; have bb' := b6; have MX3 : Hid _ := MutK.below MX.out bb' (cell_lt (MutK.cells6 MX.out).1); clear MX; have MX : Hid _ := MX3.out; clear MX3; have R6 : Hid (Rg h6 6) := r6; have V6 : Hid (val h6 6 = sq (val f 6)) := v6; obtain ⟨m0, m1, m2, m3, m4, m5⟩ := MutK.cells6 MX.out; obtain ⟨n0, n1, n2, n3, n4, n5⟩ := MutK.free6 MX.out; have BX : Below W.heap.size W w6 := Below.up BW.out (Nat.le_refl _) bb'; clear BW; have BW : Hid (Below W.heap.size W w6) := BX; clear LB; have LB : Hid (W.heap.size ≤ w6.heap.size) := BX.size; clear BX bb'; clear b6 r6 v6 M5 R3 V3 P3
        refine hK.out _ _ (HS.out _ (BW.out)) (fun hHeld2 => ?_)
        clear hK K hHeld
        have hHeld := hHeld2
        clear hHeld2
        try simp only [Act.put, List.setIfInBounds_toArray, List.set_cons_zero, List.set_cons_succ]
        refine wpAnyH_ready (rs := [8]) (by kernel_rfl) (by simp) ?_
        refine AllReadyH.cons rfl (fun K hK => ?_) AllReadyH.nil
        go_simp
        refine hK.out _ _ (HS.out _ (below_set6 BW.out LX.out _ _ _ _ _ _)) (fun hHeld2 => ?_)
        clear hK K hHeld hHeld2
        try simp only [Act.put, List.setIfInBounds_toArray, List.set_cons_zero, List.set_cons_succ]
        refine wpAnyH_done (by kernel_rfl) ?_ _
        exact ⟨rfl, _, h6, _, _, _, _, _, _, _, _, _, _, _, _, _, _, _, _, _, _, rfl, (finB h6 BW.out MX.out LX.out).1, (finB h6 BW.out MX.out LX.out).2, R6.out, V6.out, LX.out⟩
      refine AllReadyH.cons rfl (fun K hK => ?_) AllReadyH.nil
      go_simp
      refine hK.out _ _ (HS.out _ (Below.up BW.out (Nat.le_refl _) (below_one _ _))) (fun hHeld2 => ?_)
      clear hK K hHeld
      have hHeld := hHeld2
      clear hHeld2
      try simp only [Act.put, List.setIfInBounds_toArray, List.set_cons_zero, List.set_cons_succ]
      refine wpAnyH_ready (rs := [2]) (by kernel_rfl) (by simp) ?_
      refine AllReadyH.cons rfl (fun K hK => ?_) AllReadyH.nil
      go_simp
      refine hK.out _ _ (HS.out _ (Below.up BW.out (Nat.le_refl _) (below_two _ _ _))) (fun hHeld2 => ?_)
      clear hK K hHeld
      have hHeld := hHeld2
      clear hHeld2
      try simp only [Act.put, List.setIfInBounds_toArray, List.set_cons_zero, List.set_cons_succ]
      refine wpAnyH_ready (rs := [3]) (by kernel_rfl) (by simp) ?_
      refine AllReadyH.cons rfl (fun K hK => ?_) AllReadyH.nil
      go_simp
      go_at_call 70; refine Calls.mono (refSum_any _ _ 6 1 6 1 rL (one 1) _ (by omega) (by omega) (by omega) (by omega) (AtK.below AP.out (below_two _ _ _)) (at_one2 _) rL_rg (one_rg ⟨by decide, by rw [B64_eq]; decide⟩ 1) (by omega) (by omega)) ?_; rintro e w3 ⟨v3, rfl, b3, p3, n3, c3, h3, rfl, q1, q2, q3, a3, r3, nm3, v3⟩; have bb' := (boxlit b3).1; have MX : Hid _ := (boxlit b3).2.2; have LX : Hid (W.heap.size ≤ w2.heap.size) := (by exact LB.out); have A3 : Hid (At w3 p3 n3 h3) := a3; have R3 : Hid _ := r3; have V3 : Hid _ := v3; have P3 : 0 < n3 := nm_pos v3; have BX : Below W.heap.size W w3 := Below.up BW.out (Nat.le_refl _) bb'; clear BW; have BW : Hid (Below W.heap.size W w3) := BX; clear LB; have LB : Hid (W.heap.size ≤ w3.heap.size) := BX.size; clear BX bb'; clear b3 a3 r3 v3 nm3 AP
      refine hK.out _ _ (HS.out _ (BW.out)) (fun hHeld2 => ?_)
      clear hK K hHeld
      have hHeld := hHeld2
      clear hHeld2
      try simp only [Act.put, List.setIfInBounds_toArray, List.set_cons_zero, List.set_cons_succ]
      refine wpAnyH_ready (rs := [4]) (by kernel_rfl) (by simp) ?_
      refine AllReadyH.cons rfl (fun K hK => ?_) AllReadyH.nil
      go_simp
      go_at_call 67; refine Calls.mono (half_any p3 n3 c3 h3 _ P3 (by omega) q1 (A3.out) R3.out) ?_; rintro e w4 ⟨k4, rfl, b4, m4⟩; have bb' := b4; have MX3 : Hid _ := MutK.below MX.out bb' (cell_lt (MutK.cells6 MX.out).1); clear MX; have MX : Hid _ := MX3.out; clear MX3; have M4 : Hid (At w4 (some ⟨k4, 0, none⟩) n3 (hv h3 n3)) := m4.at; have BX : Below W.heap.size W w4 := Below.up BW.out (Nat.le_refl _) bb'; clear BW; have BW : Hid (Below W.heap.size W w4) := BX; clear LB; have LB : Hid (W.heap.size ≤ w4.heap.size) := BX.size; clear BX bb'; clear b4 m4 A3
      refine hK.out _ _ (HS.out _ (BW.out)) (fun hHeld2 => ?_)
      clear hK K hHeld
      have hHeld := hHeld2
      clear hHeld2
      try simp only [Act.put, List.setIfInBounds_toArray, List.set_cons_zero, List.set_cons_succ]
      refine wpAnyH_ready (rs := [5]) (by kernel_rfl) (by simp) ?_
      refine AllReadyH.cons rfl (fun K hK => ?_) AllReadyH.nil
      go_simp
      go_at_call 67; refine Calls.mono (half_any (some ⟨k4, 0, none⟩) n3 n3 (hv h3 n3) _ P3 (by omega) (by omega) (M4.out) (hv_rg R3.out)) ?_; rintro e w5 ⟨k5, rfl, b5, m5⟩; have bb' := b5; have MX3 : Hid _ := MutK.below MX.out bb' (cell_lt (MutK.cells6 MX.out).1); clear MX; have MX : Hid _ := MX3.out; clear MX3; have M5 : Hid (At w5 (some ⟨k5, 0, none⟩) n3 (hv (hv h3 n3) n3)) := m5.at; have BX : Below W.heap.size W w5 := Below.up BW.out (Nat.le_refl _) bb'; clear BW; have BW : Hid (Below W.heap.size W w5) := BX; clear LB; have LB : Hid (W.heap.size ≤ w5.heap.size) := BX.size; clear BX bb'; clear b5 m5 M4
      refine hK.out _ _ (HS.out _ (BW.out)) (fun hHeld2 => ?_)
      clear hK K hHeld
      have hHeld := hHeld2
      clear hHeld2
      try simp only [Act.put, List.setIfInBounds_toArray, List.set_cons_zero, List.set_cons_succ]
      refine wpAnyH_ready (rs := [6]) (by kernel_rfl) (by simp) ?_
      refine AllReadyH.cons rfl (fun K hK => ?_) AllReadyH.nil
      go_simp
      go_at_call 57; refine Calls.mono (KP.out (some ⟨k5, 0, none⟩) n3 n3 (hv (hv h3 n3) n3) SE _ RF.out LF.out (by omega) (M5.out) (hv_rg (hv_rg R3.out)) (by rw [hv_val P3, hv_val P3, V3.out, rL_val, val_one]; exact SE_val)) ?_; rintro e w6 ⟨v6, rfl, ⟨h6, rfl, r6, v6⟩, b6⟩; have bb' := b6; have MX3 : Hid _ := MutK.below MX.out bb' (cell_lt (MutK.cells6 MX.out).1); clear MX; have MX : Hid _ := MX3.out; clear MX3; have R6 : Hid (Rg h6 6) := r6; have V6 : Hid (val h6 6 = sq (val f 6)) := v6; obtain ⟨m0, m1, m2, m3, m4, m5⟩ := MutK.cells6 MX.out; obtain ⟨n0, n1, n2, n3, n4, n5⟩ := MutK.free6 MX.out; have BX : Below W.heap.size W w6 := Below.up BW.out (Nat.le_refl _) bb'; clear BW; have BW : Hid (Below W.heap.size W w6) := BX; clear LB; have LB : Hid (W.heap.size ≤ w6.heap.size) := BX.size; clear BX bb'; clear b6 r6 v6 M5 R3 V3 P3
      refine hK.out _ _ (HS.out _ (BW.out)) (fun hHeld2 => ?_)
      clear hK K hHeld
      have hHeld := hHeld2
      clear hHeld2
      try simp only [Act.put, List.setIfInBounds_toArray, List.set_cons_zero, List.set_cons_succ]
      refine wpAnyH_ready (rs := [8]) (by kernel_rfl) (by simp) ?_
      refine AllReadyH.cons rfl (fun K hK => ?_) AllReadyH.nil
      go_simp
      refine hK.out _ _ (HS.out _ (below_set6 BW.out LX.out _ _ _ _ _ _)) (fun hHeld2 => ?_)
      clear hK K hHeld hHeld2
      try simp only [Act.put, List.setIfInBounds_toArray, List.set_cons_zero, List.set_cons_succ]
      refine wpAnyH_done (by kernel_rfl) ?_ _
      exact ⟨rfl, _, h6, _, _, _, _, _, _, _, _, _, _, _, _, _, _, _, _, _, _, rfl, (finB h6 BW.out MX.out LX.out).1, (finB h6 BW.out MX.out LX.out).2, R6.out, V6.out, LX.out⟩
    refine AllReadyH.cons rfl (fun K hK => ?_) ?_
    · go_simp
      refine hK.out _ _ (HS.out _ (Below.drew (below_one _ _))) (fun hHeld2 => ?_)
      clear hK K hHeld
      have hHeld := hHeld2
      clear hHeld2
      try simp only [Act.put, List.setIfInBounds_toArray, List.set_cons_zero, List.set_cons_succ]
      refine wpAnyH_ready (rs := [1, 7]) (by kernel_rfl) (by simp) ?_
      refine AllReadyH.cons rfl (fun K hK => ?_) ?_
      · go_simp
        go_at_call 28; refine Calls.mono (refP_new _) ?_; rintro e w2 ⟨k2, rfl, b2, a2⟩; have bb' := (lit1 (below_drew b2)).1; have ML : Hid _ := (lit1 (below_drew b2)).2; have AP : Hid (At w2 (some ⟨k2, 0, none⟩) 6 rL) := a2; have BX : Below W.heap.size W w2 := Below.up BW.out (Nat.le_refl _) bb'; clear BW; have BW : Hid (Below W.heap.size W w2) := BX; clear LB; have LB : Hid (W.heap.size ≤ w2.heap.size) := BX.size; clear BX bb'; clear b2 a2
        refine hK.out _ _ (HS.out _ (BW.out)) (fun hHeld2 => ?_)
        clear hK K hHeld
        have hHeld := hHeld2
        clear hHeld2
        try simp only [Act.put, List.setIfInBounds_toArray, List.set_cons_zero, List.set_cons_succ]
        refine wpAnyH_ready (rs := [3, 7]) (by kernel_rfl) (by simp) ?_
        refine AllReadyH.cons rfl (fun K hK => ?_) ?_
        · go_simp
          go_at_call 70; refine Calls.mono (refSum_any _ _ 6 1 6 1 rL (one 1) _ (by omega) (by omega) (by omega) (by omega) (AP.out) (ML.out) rL_rg (one_rg ⟨by decide, by rw [B64_eq]; decide⟩ 1) (by omega) (by omega)) ?_; rintro e w3 ⟨v3, rfl, b3, p3, n3, c3, h3, rfl, q1, q2, q3, a3, r3, nm3, v3⟩; have bb' := b3; clear ML; have A3 : Hid (At w3 p3 n3 h3) := a3; have R3 : Hid _ := r3; have V3 : Hid _ := v3; have P3 : 0 < n3 := nm_pos v3; have BX : Below W.heap.size W w3 := Below.up BW.out (Nat.le_refl _) bb'; clear BW; have BW : Hid (Below W.heap.size W w3) := BX; clear LB; have LB : Hid (W.heap.size ≤ w3.heap.size) := BX.size; clear BX bb'; clear b3 a3 r3 v3 nm3 AP
          refine hK.out _ _ (HS.out _ (BW.out)) (fun hHeld2 => ?_)
          clear hK K hHeld
          have hHeld := hHeld2
          clear hHeld2
          try simp only [Act.put, List.setIfInBounds_toArray, List.set_cons_zero, List.set_cons_succ]
          refine wpAnyH_ready (rs := [4, 7]) (by kernel_rfl) (by simp) ?_
          refine AllReadyH.cons rfl (fun K hK => ?_) ?_
          · go_simp
            go_at_call 67; refine Calls.mono (half_any p3 n3 c3 h3 _ P3 (by omega) q1 (A3.out) R3.out) ?_; rintro e w4 ⟨k4, rfl, b4, m4⟩; have bb' := b4; have M4 : Hid (At w4 (some ⟨k4, 0, none⟩) n3 (hv h3 n3)) := m4.at; have BX : Below W.heap.size W w4 := Below.up BW.out (Nat.le_refl _) bb'; clear BW; have BW : Hid (Below W.heap.size W w4) := BX; clear LB; have LB : Hid (W.heap.size ≤ w4.heap.size) := BX.size; clear BX bb'; clear b4 m4 A3
            refine hK.out _ _ (HS.out _ (BW.out)) (fun hHeld2 => ?_)
            clear hK K hHeld
            have hHeld := hHeld2
            clear hHeld2
            try simp only [Act.put, List.setIfInBounds_toArray, List.set_cons_zero, List.set_cons_succ]
            refine wpAnyH_ready (rs := [5, 7]) (by kernel_rfl) (by simp) ?_
            refine AllReadyH.cons rfl (fun K hK => ?_) ?_
            · go_simp
              go_at_call 67; refine Calls.mono (half_any (some ⟨k4, 0, none⟩) n3 n3 (hv h3 n3) _ P3 (by omega) (by omega) (M4.out) (hv_rg R3.out)) ?_; rintro e w5 ⟨k5, rfl, b5, m5⟩; have bb' := b5; have M5 : Hid (At w5 (some ⟨k5, 0, none⟩) n3 (hv (hv h3 n3) n3)) := m5.at; have BX : Below W.heap.size W w5 := Below.up BW.out (Nat.le_refl _) bb'; clear BW; have BW : Hid (Below W.heap.size W w5) := BX; clear LB; have LB : Hid (W.heap.size ≤ w5.heap.size) := BX.size; clear BX bb'; clear b5 m5 M4
              refine hK.out _ _ (HS.out _ (BW.out)) (fun hHeld2 => ?_)
              clear hK K hHeld
              have hHeld := hHeld2
              clear hHeld2
              try simp only [Act.put, List.setIfInBounds_toArray, List.set_cons_zero, List.set_cons_succ]
              refine wpAnyH_ready (rs := [6, 7]) (by kernel_rfl) (by simp) ?_
              refine AllReadyH.cons rfl (fun K hK => ?_) ?_
              · go_simp
                go_at_call 57; refine Calls.mono (KP.out (some ⟨k5, 0, none⟩) n3 n3 (hv (hv h3 n3) n3) SE _ RF.out LF.out (by omega) (M5.out) (hv_rg (hv_rg R3.out)) (by rw [hv_val P3, hv_val P3, V3.out, rL_val, val_one]; exact SE_val)) ?_; rintro e w6 ⟨v6, rfl, ⟨h6, rfl, r6, v6⟩, b6⟩; have bb' := b6; have R6 : Hid (Rg h6 6) := r6; have V6 : Hid (val h6 6 = sq (val f 6)) := v6; have BX : Below W.heap.size W w6 := Below.up BW.out (Nat.le_refl _) bb'; clear BW; have BW : Hid (Below W.heap.size W w6) := BX; clear LB; have LB : Hid (W.heap.size ≤ w6.heap.size) := BX.size; clear BX bb'; clear b6 r6 v6 M5 R3 V3 P3
                refine hK.out _ _ (HS.out _ (BW.out)) (fun hHeld2 => ?_)
                clear hK K hHeld
                have hHeld := hHeld2
                clear hHeld2
                try simp only [Act.put, List.setIfInBounds_toArray, List.set_cons_zero, List.set_cons_succ]
                refine wpAnyH_ready (rs := [7]) (by kernel_rfl) (by simp) ?_
                refine AllReadyH.cons rfl (fun K hK => ?_) AllReadyH.nil
                go_simp
                refine hK.out _ _ (HS.out _ (Below.up BW.out (Nat.le_refl _) (below_one _ _))) (fun hHeld2 => ?_)
                clear hK K hHeld
                have hHeld := hHeld2
                clear hHeld2
                try simp only [Act.put, List.setIfInBounds_toArray, List.set_cons_zero, List.set_cons_succ]
                refine wpAnyH_ready (rs := [8]) (by kernel_rfl) (by simp) ?_
                refine AllReadyH.cons rfl (fun K hK => ?_) AllReadyH.nil
                go_simp
                refine hK.out _ _ (HS.out _ ((finA h6 BW.out).1)) (fun hHeld2 => ?_)
                clear hK K hHeld hHeld2
                try simp only [Act.put, List.setIfInBounds_toArray, List.set_cons_zero, List.set_cons_succ]
                refine wpAnyH_done (by kernel_rfl) ?_ _
                exact ⟨rfl, _, h6, _, _, _, _, _, _, _, _, _, _, _, _, _, _, _, _, _, _, rfl, (finA h6 BW.out).1, (finA h6 BW.out).2, R6.out, V6.out, LB.out⟩
              refine AllReadyH.cons rfl (fun K hK => ?_) AllReadyH.nil
              go_simp
              refine hK.out _ _ (HS.out _ (Below.up BW.out (Nat.le_refl _) (below_one _ _))) (fun hHeld2 => ?_)
              clear hK K hHeld
              have hHeld := hHeld2
              clear hHeld2
              try simp only [Act.put, List.setIfInBounds_toArray, List.set_cons_zero, List.set_cons_succ]
              refine wpAnyH_ready (rs := [6]) (by kernel_rfl) (by simp) ?_
              refine AllReadyH.cons rfl (fun K hK => ?_) AllReadyH.nil
              go_simp
              go_at_call 57; refine Calls.mono (KP.out (some ⟨k5, 0, none⟩) n3 n3 (hv (hv h3 n3) n3) SE _ RF.out LF.out (by omega) (AtK.below M5.out (below_one _ _)) (hv_rg (hv_rg R3.out)) (by rw [hv_val P3, hv_val P3, V3.out, rL_val, val_one]; exact SE_val)) ?_; rintro e w6 ⟨v6, rfl, ⟨h6, rfl, r6, v6⟩, b6⟩; have bb' := (box1 b6).1; have MX : Hid _ := (box1 b6).2; have LX : Hid (W.heap.size ≤ w5.heap.size) := (by exact LB.out); have R6 : Hid (Rg h6 6) := r6; have V6 : Hid (val h6 6 = sq (val f 6)) := v6; obtain ⟨m0, m1, m2, m3, m4, m5⟩ := MutK.cells6 MX.out; obtain ⟨n0, n1, n2, n3, n4, n5⟩ := MutK.free6 MX.out; have BX : Below W.heap.size W w6 := Below.up BW.out (Nat.le_refl _) bb'; clear BW; have BW : Hid (Below W.heap.size W w6) := BX; clear LB; have LB : Hid (W.heap.size ≤ w6.heap.size) := BX.size; clear BX bb'; clear b6 r6 v6 M5 R3 V3 P3
              refine hK.out _ _ (HS.out _ (BW.out)) (fun hHeld2 => ?_)
              clear hK K hHeld
              have hHeld := hHeld2
              clear hHeld2
              try simp only [Act.put, List.setIfInBounds_toArray, List.set_cons_zero, List.set_cons_succ]
              refine wpAnyH_ready (rs := [8]) (by kernel_rfl) (by simp) ?_
              refine AllReadyH.cons rfl (fun K hK => ?_) AllReadyH.nil
              go_simp
              refine hK.out _ _ (HS.out _ (below_set6 BW.out LX.out _ _ _ _ _ _)) (fun hHeld2 => ?_)
              clear hK K hHeld hHeld2
              try simp only [Act.put, List.setIfInBounds_toArray, List.set_cons_zero, List.set_cons_succ]
              refine wpAnyH_done (by kernel_rfl) ?_ _
              exact ⟨rfl, _, h6, _, _, _, _, _, _, _, _, _, _, _, _, _, _, _, _, _, _, rfl, (finB h6 BW.out MX.out LX.out).1, (finB h6 BW.out MX.out LX.out).2, R6.out, V6.out, LX.out⟩
            refine AllReadyH.cons rfl (fun K hK => ?_) AllReadyH.nil
            go_simp
            refine hK.out _ _ (HS.out _ (Below.up BW.out (Nat.le_refl _) (below_one _ _))) (fun hHeld2 => ?_)
            clear hK K hHeld
            have hHeld := hHeld2
            clear hHeld2
            try simp only [Act.put, List.setIfInBounds_toArray, List.set_cons_zero, List.set_cons_succ]
            refine wpAnyH_ready (rs := [5]) (by kernel_rfl) (by simp) ?_
            refine AllReadyH.cons rfl (fun K hK => ?_) AllReadyH.nil
            go_simp
            go_at_call 67; refine Calls.mono (half_any (some ⟨k4, 0, none⟩) n3 n3 (hv h3 n3) _ P3 (by omega) (by omega) (AtK.below M4.out (below_one _ _)) (hv_rg R3.out)) ?_; rintro e w5 ⟨k5, rfl, b5, m5⟩; have bb' := (box1 b5).1; have MX : Hid _ := (box1 b5).2; have LX : Hid (W.heap.size ≤ w4.heap.size) := (by exact LB.out); have M5 : Hid (At w5 (some ⟨k5, 0, none⟩) n3 (hv (hv h3 n3) n3)) := m5.at; have BX : Below W.heap.size W w5 := Below.up BW.out (Nat.le_refl _) bb'; clear BW; have BW : Hid (Below W.heap.size W w5) := BX; clear LB; have LB : Hid (W.heap.size ≤ w5.heap.size) := BX.size; clear BX bb'; clear b5 m5 M4
            refine hK.out _ _ (HS.out _ (BW.out)) (fun hHeld2 => ?_)
            clear hK K hHeld
            have hHeld := hHeld2
            clear hHeld2
            try simp only [Act.put, List.setIfInBounds_toArray, List.set_cons_zero, List.set_cons_succ]
            refine wpAnyH_ready (rs := [6]) (by kernel_rfl) (by simp) ?_
            refine AllReadyH.cons rfl (fun K hK => ?_) AllReadyH.nil
            go_simp
            go_at_call 57; refine Calls.mono (KP.out (some ⟨k5, 0, none⟩) n3 n3 (hv (hv h3 n3) n3) SE _ RF.out LF.out (by omega) (M5.out) (hv_rg (hv_rg R3.out)) (by rw [hv_val P3, hv_val P3, V3.out, rL_val, val_one]; exact SE_val)) ?_; rintro e w6 ⟨v6, rfl, ⟨h6, rfl, r6, v6⟩, b6⟩; have bb' := b6; have MX3 : Hid _ := MutK.below MX.out bb' (cell_lt (MutK.cells6 MX.out).1); clear MX; have MX : Hid _ := MX3.out; clear MX3; have R6 : Hid (Rg h6 6) := r6; have V6 : Hid (val h6 6 = sq (val f 6)) := v6; obtain ⟨m0, m1, m2, m3, m4, m5⟩ := MutK.cells6 MX.out; obtain ⟨n0, n1, n2, n3, n4, n5⟩ := MutK.free6 MX.out; have BX : Below W.heap.size W w6 := Below.up BW.out (Nat.le_refl _) bb'; clear BW; have BW : Hid (Below W.heap.size W w6) := BX; clear LB; have LB : Hid (W.heap.size ≤ w6.heap.size) := BX.size; clear BX bb'; clear b6 r6 v6 M5 R3 V3 P3
            refine hK.out _ _ (HS.out _ (BW.out)) (fun hHeld2 => ?_)
            clear hK K hHeld
            have hHeld := hHeld2
            clear hHeld2
            try simp only [Act.put, List.setIfInBounds_toArray, List.set_cons_zero, List.set_cons_succ]
            refine wpAnyH_ready (rs := [8]) (by kernel_rfl) (by simp) ?_
            refine AllReadyH.cons rfl (fun K hK => ?_) AllReadyH.nil
            go_simp
            refine hK.out _ _ (HS.out _ (below_set6 BW.out LX.out _ _ _ _ _ _)) (fun hHeld2 => ?_)
            clear hK K hHeld hHeld2
            try simp only [Act.put, List.setIfInBounds_toArray, List.set_cons_zero, List.set_cons_succ]
            refine wpAnyH_done (by kernel_rfl) ?_ _
            exact ⟨rfl, _, h6, _, _, _, _, _, _, _, _, _, _, _, _, _, _, _, _, _, _, rfl, (finB h6 BW.out MX.out LX.out).1, (finB h6 BW.out MX.out LX.out).2, R6.out, V6.out, LX.out⟩
          refine AllReadyH.cons rfl (fun K hK => ?_) AllReadyH.nil
          go_simp
          refine hK.out _ _ (HS.out _ (Below.up BW.out (Nat.le_refl _) (below_one _ _))) (fun hHeld2 => ?_)
          clear hK K hHeld
          have hHeld := hHeld2
          clear hHeld2
          try simp only [Act.put, List.setIfInBounds_toArray, List.set_cons_zero, List.set_cons_succ]
          refine wpAnyH_ready (rs := [4]) (by kernel_rfl) (by simp) ?_
          refine AllReadyH.cons rfl (fun K hK => ?_) AllReadyH.nil
          go_simp
          go_at_call 67; refine Calls.mono (half_any p3 n3 c3 h3 _ P3 (by omega) q1 (AtK.below A3.out (below_one _ _)) R3.out) ?_; rintro e w4 ⟨k4, rfl, b4, m4⟩; have bb' := (box1 b4).1; have MX : Hid _ := (box1 b4).2; have LX : Hid (W.heap.size ≤ w3.heap.size) := (by exact LB.out); have M4 : Hid (At w4 (some ⟨k4, 0, none⟩) n3 (hv h3 n3)) := m4.at; have BX : Below W.heap.size W w4 := Below.up BW.out (Nat.le_refl _) bb'; clear BW; have BW : Hid (Below W.heap.size W w4) := BX; clear LB; have LB : Hid (W.heap.size ≤ w4.heap.size) := BX.size; clear BX bb'; clear b4 m4 A3
          refine hK.out _ _ (HS.out _ (BW.out)) (fun hHeld2 => ?_)
          clear hK K hHeld
          have hHeld := hHeld2
          clear hHeld2
          try simp only [Act.put, List.setIfInBounds_toArray, List.set_cons_zero, List.set_cons_succ]
          refine wpAnyH_ready (rs := [5]) (by kernel_rfl) (by simp) ?_
          refine AllReadyH.cons rfl (fun K hK => ?_) AllReadyH.nil
          go_simp
          go_at_call 67; refine Calls.mono (half_any (some ⟨k4, 0, none⟩) n3 n3 (hv h3 n3) _ P3 (by omega) (by omega) (M4.out) (hv_rg R3.out)) ?_; rintro e w5 ⟨k5, rfl, b5, m5⟩; have bb' := b5; have MX3 : Hid _ := MutK.below MX.out bb' (cell_lt (MutK.cells6 MX.out).1); clear MX; have MX : Hid _ := MX3.out; clear MX3; have M5 : Hid (At w5 (some ⟨k5, 0, none⟩) n3 (hv (hv h3 n3) n3)) := m5.at; have BX : Below W.heap.size W w5 := Below.up BW.out (Nat.le_refl _) bb'; clear BW; have BW : Hid (Below W.heap.size W w5) := BX; clear LB; have LB : Hid (W.heap.size ≤ w5.heap.size) := BX.size; clear BX bb'; clear b5 m5 M4
          refine hK.out _ _ (HS.out _ (BW.out)) (fun hHeld2 => ?_)
          clear hK K hHeld
          have hHeld := hHeld2
          clear hHeld2
          try simp only [Act.put, List.setIfInBounds_toArray, List.set_cons_zero, List.set_cons_succ]
          refine wpAnyH_ready (rs := [6]) (by kernel_rfl) (by simp) ?_
          refine AllReadyH.cons rfl (fun K hK => ?_) AllReadyH.nil
          go_simp
          go_at_call 57; refine Calls.mono (KP.out (some ⟨k5, 0, none⟩) n3 n3 (hv (hv h3 n3) n3) SE _ RF.out LF.out (by omega) (M5.out) (hv_rg (hv_rg R3.out)) (by rw [hv_val P3, hv_val P3, V3.out, rL_val, val_one]; exact SE_val)) ?_; rintro e w6 ⟨v6, rfl, ⟨h6, rfl, r6, v6⟩, b6⟩; have bb' := b6; have MX3 : Hid _ := MutK.below MX.out bb' (cell_lt (MutK.cells6 MX.out).1); clear MX; have MX : Hid _ := MX3.out; clear MX3; have R6 : Hid (Rg h6 6) := r6; have V6 : Hid (val h6 6 = sq (val f 6)) := v6; obtain ⟨m0, m1, m2, m3, m4, m5⟩ := MutK.cells6 MX.out; obtain ⟨n0, n1, n2, n3, n4, n5⟩ := MutK.free6 MX.out; have BX : Below W.heap.size W w6 := Below.up BW.out (Nat.le_refl _) bb'; clear BW; have BW : Hid (Below W.heap.size W w6) := BX; clear LB; have LB : Hid (W.heap.size ≤ w6.heap.size) := BX.size; clear BX bb'; clear b6 r6 v6 M5 R3 V3 P3
          refine hK.out _ _ (HS.out _ (BW.out)) (fun hHeld2 => ?_)
          clear hK K hHeld
          have hHeld := hHeld2
          clear hHeld2
          try simp only [Act.put, List.setIfInBounds_toArray, List.set_cons_zero, List.set_cons_succ]
          refine wpAnyH_ready (rs := [8]) (by kernel_rfl) (by simp) ?_
          refine AllReadyH.cons rfl (fun K hK => ?_) AllReadyH.nil
          go_simp
          refine hK.out _ _ (HS.out _ (below_set6 BW.out LX.out _ _ _ _ _ _)) (fun hHeld2 => ?_)
          clear hK K hHeld hHeld2
          try simp only [Act.put, List.setIfInBounds_toArray, List.set_cons_zero, List.set_cons_succ]
          refine wpAnyH_done (by kernel_rfl) ?_ _
          exact ⟨rfl, _, h6, _, _, _, _, _, _, _, _, _, _, _, _, _, _, _, _, _, _, rfl, (finB h6 BW.out MX.out LX.out).1, (finB h6 BW.out MX.out LX.out).2, R6.out, V6.out, LX.out⟩
        refine AllReadyH.cons rfl (fun K hK => ?_) AllReadyH.nil
        go_simp
        refine hK.out _ _ (HS.out _ (Below.up BW.out (Nat.le_refl _) (below_one _ _))) (fun hHeld2 => ?_)
        clear hK K hHeld
        have hHeld := hHeld2
        clear hHeld2
        try simp only [Act.put, List.setIfInBounds_toArray, List.set_cons_zero, List.set_cons_succ]
        refine wpAnyH_ready (rs := [3]) (by kernel_rfl) (by simp) ?_
        refine AllReadyH.cons rfl (fun K hK => ?_) AllReadyH.nil
        go_simp
        go_at_call 70; refine Calls.mono (refSum_any _ _ 6 1 6 1 rL (one 1) _ (by omega) (by omega) (by omega) (by omega) (AtK.below AP.out (below_one _ _)) (AtK.below ML.out (below_one _ _)) rL_rg (one_rg ⟨by decide, by rw [B64_eq]; decide⟩ 1) (by omega) (by omega)) ?_; rintro e w3 ⟨v3, rfl, b3, p3, n3, c3, h3, rfl, q1, q2, q3, a3, r3, nm3, v3⟩; have bb' := (box1 b3).1; have MX : Hid _ := (box1 b3).2; have LX : Hid (W.heap.size ≤ w2.heap.size) := (by exact LB.out); clear ML; have A3 : Hid (At w3 p3 n3 h3) := a3; have R3 : Hid _ := r3; have V3 : Hid _ := v3; have P3 : 0 < n3 := nm_pos v3; have BX : Below W.heap.size W w3 := Below.up BW.out (Nat.le_refl _) bb'; clear BW; have BW : Hid (Below W.heap.size W w3) := BX; clear LB; have LB : Hid (W.heap.size ≤ w3.heap.size) := BX.size; clear BX bb'; clear b3 a3 r3 v3 nm3 AP
        refine hK.out _ _ (HS.out _ (BW.out)) (fun hHeld2 => ?_)
        clear hK K hHeld
        have hHeld := hHeld2
        clear hHeld2
        try simp only [Act.put, List.setIfInBounds_toArray, List.set_cons_zero, List.set_cons_succ]
        refine wpAnyH_ready (rs := [4]) (by kernel_rfl) (by simp) ?_
        refine AllReadyH.cons rfl (fun K hK => ?_) AllReadyH.nil
        go_simp
        go_at_call 67; refine Calls.mono (half_any p3 n3 c3 h3 _ P3 (by omega) q1 (A3.out) R3.out) ?_; rintro e w4 ⟨k4, rfl, b4, m4⟩; have bb' := b4; have MX3 : Hid _ := MutK.below MX.out bb' (cell_lt (MutK.cells6 MX.out).1); clear MX; have MX : Hid _ := MX3.out; clear MX3; have M4 : Hid (At w4 (some ⟨k4, 0, none⟩) n3 (hv h3 n3)) := m4.at; have BX : Below W.heap.size W w4 := Below.up BW.out (Nat.le_refl _) bb'; clear BW; have BW : Hid (Below W.heap.size W w4) := BX; clear LB; have LB : Hid (W.heap.size ≤ w4.heap.size) := BX.size; clear BX bb'; clear b4 m4 A3
        refine hK.out _ _ (HS.out _ (BW.out)) (fun hHeld2 => ?_)
        clear hK K hHeld
        have hHeld := hHeld2
        clear hHeld2
        try simp only [Act.put, List.setIfInBounds_toArray, List.set_cons_zero, List.set_cons_succ]
        refine wpAnyH_ready (rs := [5]) (by kernel_rfl) (by simp) ?_
        refine AllReadyH.cons rfl (fun K hK => ?_) AllReadyH.nil
        go_simp
        go_at_call 67; refine Calls.mono (half_any (some ⟨k4, 0, none⟩) n3 n3 (hv h3 n3) _ P3 (by omega) (by omega) (M4.out) (hv_rg R3.out)) ?_; rintro e w5 ⟨k5, rfl, b5, m5⟩; have bb' := b5; have MX3 : Hid _ := MutK.below MX.out bb' (cell_lt (MutK.cells6 MX.out).1); clear MX; have MX : Hid _ := MX3.out; clear MX3; have M5 : Hid (At w5 (some ⟨k5, 0, none⟩) n3 (hv (hv h3 n3) n3)) := m5.at; have BX : Below W.heap.size W w5 := Below.up BW.out (Nat.le_refl _) bb'; clear BW; have BW : Hid (Below W.heap.size W w5) := BX; clear LB; have LB : Hid (W.heap.size ≤ w5.heap.size) := BX.size; clear BX bb'; clear b5 m5 M4
        refine hK.out _ _ (HS.out _ (BW.out)) (fun hHeld2 => ?_)
        clear hK K hHeld
        have hHeld := hHeld2
        clear hHeld2
        try simp only [Act.put, List.setIfInBounds_toArray, List.set_cons_zero, List.set_cons_succ]
        refine wpAnyH_ready (rs := [6]) (by kernel_rfl) (by simp) ?_
        refine AllReadyH.cons rfl (fun K hK => ?_) AllReadyH.nil
        go_simp
        go_at_call 57; refine Calls.mono (KP.out (some ⟨k5, 0, none⟩) n3 n3 (hv (hv h3 n3) n3) SE _ RF.out LF.out (by omega) (M5.out) (hv_rg (hv_rg R3.out)) (by rw [hv_val P3, hv_val P3, V3.out, rL_val, val_one]; exact SE_val)) ?_; rintro e w6 ⟨v6, rfl, ⟨h6, rfl, r6, v6⟩, b6⟩; have bb' := b6; have MX3 : Hid _ := MutK.below MX.out bb' (cell_lt (MutK.cells6 MX.out).1); clear MX; have MX : Hid _ := MX3.out; clear MX3; have R6 : Hid (Rg h6 6) := r6; have V6 : Hid (val h6 6 = sq (val f 6)) := v6; obtain ⟨m0, m1, m2, m3, m4, m5⟩ := MutK.cells6 MX.out; obtain ⟨n0, n1, n2, n3, n4, n5⟩ := MutK.free6 MX.out; have BX : Below W.heap.size W w6 := Below.up BW.out (Nat.le_refl _) bb'; clear BW; have BW : Hid (Below W.heap.size W w6) := BX; clear LB; have LB : Hid (W.heap.size ≤ w6.heap.size) := BX.size; clear BX bb'; clear b6 r6 v6 M5 R3 V3 P3
        refine hK.out _ _ (HS.out _ (BW.out)) (fun hHeld2 => ?_)
        clear hK K hHeld
        have hHeld := hHeld2
        clear hHeld2
        try simp only [Act.put, List.setIfInBounds_toArray, List.set_cons_zero, List.set_cons_succ]
        refine wpAnyH_ready (rs := [8]) (by kernel_rfl) (by simp) ?_
        refine AllReadyH.cons rfl (fun K hK => ?_) AllReadyH.nil
        go_simp
        refine hK.out _ _ (HS.out _ (below_set6 BW.out LX.out _ _ _ _ _ _)) (fun hHeld2 => ?_)
        clear hK K hHeld hHeld2
        try simp only [Act.put, List.setIfInBounds_toArray, List.set_cons_zero, List.set_cons_succ]
        refine wpAnyH_done (by kernel_rfl) ?_ _
        exact ⟨rfl, _, h6, _, _, _, _, _, _, _, _, _, _, _, _, _, _, _, _, _, _, rfl, (finB h6 BW.out MX.out LX.out).1, (finB h6 BW.out MX.out LX.out).2, R6.out, V6.out, LX.out⟩
      refine AllReadyH.cons rfl (fun K hK => ?_) AllReadyH.nil
      go_simp
      refine hK.out _ _ (HS.out _ (Below.drew (below_two _ _ _))) (fun hHeld2 => ?_)
      clear hK K hHeld
      have hHeld := hHeld2
      clear hHeld2
      try simp only [Act.put, List.setIfInBounds_toArray, List.set_cons_zero, List.set_cons_succ]
      refine wpAnyH_ready (rs := [1]) (by kernel_rfl) (by simp) ?_
      refine AllReadyH.cons rfl (fun K hK => ?_) AllReadyH.nil
      go_simp
      go_at_call 28; refine Calls.mono (refP_new _) ?_; rintro e w2 ⟨k2, rfl, b2, a2⟩; have bb' := (litbox (below_drew b2)).1; have ML : Hid _ := (litbox (below_drew b2)).2.1; have MX : Hid _ := (litbox (below_drew b2)).2.2; have LX : Hid (W.heap.size ≤ W.heap.size + 1) := Nat.le_succ_of_le LB.out; have AP : Hid (At w2 (some ⟨k2, 0, none⟩) 6 rL) := a2; have BX : Below W.heap.size W w2 := Below.up BW.out (Nat.le_refl _) bb'; clear BW; have BW : Hid (Below W.heap.size W w2) := BX; clear LB; have LB : Hid (W.heap.size ≤ w2.heap.size) := BX.size; clear BX bb'; clear b2 a2
      refine hK.out _ _ (HS.out _ (BW.out)) (fun hHeld2 => ?_)
      clear hK K hHeld
      have hHeld := hHeld2
      clear hHeld2
      try simp only [Act.put, List.setIfInBounds_toArray, List.set_cons_zero, List.set_cons_succ]
      refine wpAnyH_ready (rs := [3]) (by kernel_rfl) (by simp) ?_
      refine AllReadyH.cons rfl (fun K hK => ?_) AllReadyH.nil
      go_simp
      go_at_call 70; refine Calls.mono (refSum_any _ _ 6 1 6 1 rL (one 1) _ (by omega) (by omega) (by omega) (by omega) (AP.out) (ML.out) rL_rg (one_rg ⟨by decide, by rw [B64_eq]; decide⟩ 1) (by omega) (by omega)) ?_; rintro e w3 ⟨v3, rfl, b3, p3, n3, c3, h3, rfl, q1, q2, q3, a3, r3, nm3, v3⟩; have bb' := b3; have MX3 : Hid _ := MutK.below MX.out bb' (cell_lt (MutK.cells6 MX.out).1); clear MX; have MX : Hid _ := MX3.out; clear MX3; clear ML; have A3 : Hid (At w3 p3 n3 h3) := a3; have R3 : Hid _ := r3; have V3 : Hid _ := v3; have P3 : 0 < n3 := nm_pos v3; have BX : Below W.heap.size W w3 := Below.up BW.out (Nat.le_refl _) bb'; clear BW; have BW : Hid (Below W.heap.size W w3) := BX; clear LB; have LB : Hid (W.heap.size ≤ w3.heap.size) := BX.size; clear BX bb'; clear b3 a3 r3 v3 nm3 AP
      refine hK.out _ _ (HS.out _ (BW.out)) (fun hHeld2 => ?_)
      clear hK K hHeld
      have hHeld := hHeld2
      clear hHeld2
      try simp only [Act.put, List.setIfInBounds_toArray, List.set_cons_zero, List.set_cons_succ]
      refine wpAnyH_ready (rs := [4]) (by kernel_rfl) (by simp) ?_
      refine AllReadyH.cons rfl (fun K hK => ?_) AllReadyH.nil
      go_simp
      go_at_call 67; refine Calls.mono (half_any p3 n3 c3 h3 _ P3 (by omega) q1 (A3.out) R3.out) ?_; rintro e w4 ⟨k4, rfl, b4, m4⟩; have bb' := b4; have MX3 : Hid _ := MutK.below MX.out bb' (cell_lt (MutK.cells6 MX.out).1); clear MX; have MX : Hid _ := MX3.out; clear MX3; have M4 : Hid (At w4 (some ⟨k4, 0, none⟩) n3 (hv h3 n3)) := m4.at; have BX : Below W.heap.size W w4 := Below.up BW.out (Nat.le_refl _) bb'; clear BW; have BW : Hid (Below W.heap.size W w4) := BX; clear LB; have LB : Hid (W.heap.size ≤ w4.heap.size) := BX.size; clear BX bb'; clear b4 m4 A3
      refine hK.out _ _ (HS.out _ (BW.out)) (fun hHeld2 => ?_)
      clear hK K hHeld
      have hHeld := hHeld2
      clear hHeld2
      try simp only [Act.put, List.setIfInBounds_toArray, List.set_cons_zero, List.set_cons_succ]
      refine wpAnyH_ready (rs := [5]) (by kernel_rfl) (by simp) ?_
      refine AllReadyH.cons rfl (fun K hK => ?_) AllReadyH.nil
      go_simp
      go_at_call 67; refine Calls.mono (half_any (some ⟨k4, 0, none⟩) n3 n3 (hv h3 n3) _ P3 (by omega) (by omega) (M4.out) (hv_rg R3.out)) ?_; rintro e w5 ⟨k5, rfl, b5, m5⟩; have bb' := b5; have MX3 : Hid _ := MutK.below MX.out bb' (cell_lt (MutK.cells6 MX.out).1); clear MX; have MX : Hid _ := MX3.out; clear MX3; have M5 : Hid (At w5 (some ⟨k5, 0, none⟩) n3 (hv (hv h3 n3) n3)) := m5.at; have BX : Below W.heap.size W w5 := Below.up BW.out (Nat.le_refl _) bb'; clear BW; have BW : Hid (Below W.heap.size W w5) := BX; clear LB; have LB : Hid (W.heap.size ≤ w5.heap.size) := BX.size; clear BX bb'; clear b5 m5 M4
      refine hK.out _ _ (HS.out _ (BW.out)) (fun hHeld2 => ?_)
      clear hK K hHeld
      have hHeld := hHeld2
      clear hHeld2
      try simp only [Act.put, List.setIfInBounds_toArray, List.set_cons_zero, List.set_cons_succ]
      refine wpAnyH_ready (rs := [6]) (by kernel_rfl) (by simp) ?_
      refine AllReadyH.cons rfl (fun K hK => ?_) AllReadyH.nil
      go_simp
      go_at_call 57; refine Calls.mono (KP.out (some ⟨k5, 0, none⟩) n3 n3 (hv (hv h3 n3) n3) SE _ RF.out LF.out (by omega) (M5.out) (hv_rg (hv_rg R3.out)) (by rw [hv_val P3, hv_val P3, V3.out, rL_val, val_one]; exact SE_val)) ?_; rintro e w6 ⟨v6, rfl, ⟨h6, rfl, r6, v6⟩, b6⟩; have bb' := b6; have MX3 : Hid _ := MutK.below MX.out bb' (cell_lt (MutK.cells6 MX.out).1); clear MX; have MX : Hid _ := MX3.out; clear MX3; have R6 : Hid (Rg h6 6) := r6; have V6 : Hid (val h6 6 = sq (val f 6)) := v6; obtain ⟨m0, m1, m2, m3, m4, m5⟩ := MutK.cells6 MX.out; obtain ⟨n0, n1, n2, n3, n4, n5⟩ := MutK.free6 MX.out; have BX : Below W.heap.size W w6 := Below.up BW.out (Nat.le_refl _) bb'; clear BW; have BW : Hid (Below W.heap.size W w6) := BX; clear LB; have LB : Hid (W.heap.size ≤ w6.heap.size) := BX.size; clear BX bb'; clear b6 r6 v6 M5 R3 V3 P3
      refine hK.out _ _ (HS.out _ (BW.out)) (fun hHeld2 => ?_)
      clear hK K hHeld
      have hHeld := hHeld2
      clear hHeld2
      try simp only [Act.put, List.setIfInBounds_toArray, List.set_cons_zero, List.set_cons_succ]
      refine wpAnyH_ready (rs := [8]) (by kernel_rfl) (by simp) ?_
      refine AllReadyH.cons rfl (fun K hK => ?_) AllReadyH.nil
      go_simp
      refine hK.out _ _ (HS.out _ (below_set6 BW.out LX.out _ _ _ _ _ _)) (fun hHeld2 => ?_)
      clear hK K hHeld hHeld2
      try simp only [Act.put, List.setIfInBounds_toArray, List.set_cons_zero, List.set_cons_succ]
      refine wpAnyH_done (by kernel_rfl) ?_ _
      exact ⟨rfl, _, h6, _, _, _, _, _, _, _, _, _, _, _, _, _, _, _, _, _, _, rfl, (finB h6 BW.out MX.out LX.out).1, (finB h6 BW.out MX.out LX.out).2, R6.out, V6.out, LX.out⟩
    refine AllReadyH.cons rfl (fun K hK => ?_) AllReadyH.nil
    go_simp
    refine hK.out _ _ (HS.out _ (Below.drew (below_one _ _))) (fun hHeld2 => ?_)
    clear hK K hHeld
    have hHeld := hHeld2
    clear hHeld2
    try simp only [Act.put, List.setIfInBounds_toArray, List.set_cons_zero, List.set_cons_succ]
    refine wpAnyH_ready (rs := [1, 2]) (by kernel_rfl) (by simp) ?_
    refine AllReadyH.cons rfl (fun K hK => ?_) ?_
    · go_simp
      go_at_call 28; refine Calls.mono (refP_new _) ?_; rintro e w2 ⟨k2, rfl, b2, a2⟩; have bb' := (box1 (below_drew b2)).1; have MX : Hid _ := (box1 (below_drew b2)).2; have LX : Hid (W.heap.size ≤ W.heap.size) := (by exact LB.out); have AP : Hid (At w2 (some ⟨k2, 0, none⟩) 6 rL) := a2; have BX : Below W.heap.size W w2 := Below.up BW.out (Nat.le_refl _) bb'; clear BW; have BW : Hid (Below W.heap.size W w2) := BX; clear LB; have LB : Hid (W.heap.size ≤ w2.heap.size) := BX.size; clear BX bb'; clear b2 a2
      refine hK.out _ _ (HS.out _ (BW.out)) (fun hHeld2 => ?_)
      clear hK K hHeld
      have hHeld := hHeld2
      clear hHeld2
      try simp only [Act.put, List.setIfInBounds_toArray, List.set_cons_zero, List.set_cons_succ]
      refine wpAnyH_ready (rs := [2]) (by kernel_rfl) (by simp) ?_
      refine AllReadyH.cons rfl (fun K hK => ?_) AllReadyH.nil
      go_simp
      refine hK.out _ _ (HS.out _ (Below.up BW.out (Nat.le_refl _) (below_one _ _))) (fun hHeld2 => ?_)
      clear hK K hHeld
      have hHeld := hHeld2
      clear hHeld2
      try simp only [Act.put, List.setIfInBounds_toArray, List.set_cons_zero, List.set_cons_succ]
      refine wpAnyH_ready (rs := [3]) (by kernel_rfl) (by simp) ?_
      refine AllReadyH.cons rfl (fun K hK => ?_) AllReadyH.nil
      go_simp
      go_at_call 70; refine Calls.mono (refSum_any _ _ 6 1 6 1 rL (one 1) _ (by omega) (by omega) (by omega) (by omega) (AtK.below AP.out (below_one _ _)) (at_one _ _ _) rL_rg (one_rg ⟨by decide, by rw [B64_eq]; decide⟩ 1) (by omega) (by omega)) ?_; rintro e w3 ⟨v3, rfl, b3, p3, n3, c3, h3, rfl, q1, q2, q3, a3, r3, nm3, v3⟩; have bb' := (lit1 b3).1; have MX3 : Hid _ := MutK.below MX.out bb' (cell_lt (MutK.cells6 MX.out).1); clear MX; have MX : Hid _ := MX3.out; clear MX3; have A3 : Hid (At w3 p3 n3 h3) := a3; have R3 : Hid _ := r3; have V3 : Hid _ := v3; have P3 : 0 < n3 := nm_pos v3; have BX : Below W.heap.size W w3 := Below.up BW.out (Nat.le_refl _) bb'; clear BW; have BW : Hid (Below W.heap.size W w3) := BX; clear LB; have LB : Hid (W.heap.size ≤ w3.heap.size) := BX.size; clear BX bb'; clear b3 a3 r3 v3 nm3 AP
      refine hK.out _ _ (HS.out _ (BW.out)) (fun hHeld2 => ?_)
      clear hK K hHeld
      have hHeld := hHeld2
      clear hHeld2
      try simp only [Act.put, List.setIfInBounds_toArray, List.set_cons_zero, List.set_cons_succ]
      refine wpAnyH_ready (rs := [4]) (by kernel_rfl) (by simp) ?_
      refine AllReadyH.cons rfl (fun K hK => ?_) AllReadyH.nil
      go_simp
      go_at_call 67; refine Calls.mono (half_any p3 n3 c3 h3 _ P3 (by omega) q1 (A3.out) R3.out) ?_; rintro e w4 ⟨k4, rfl, b4, m4⟩; have bb' := b4; have MX3 : Hid _ := MutK.below MX.out bb' (cell_lt (MutK.cells6 MX.out).1); clear MX; have MX : Hid _ := MX3.out; clear MX3; have M4 : Hid (At w4 (some ⟨k4, 0, none⟩) n3 (hv h3 n3)) := m4.at; have BX : Below W.heap.size W w4 := Below.up BW.out (Nat.le_refl _) bb'; clear BW; have BW : Hid (Below W.heap.size W w4) := BX; clear LB; have LB : Hid (W.heap.size ≤ w4.heap.size) := BX.size; clear BX bb'; clear b4 m4 A3
      refine hK.out _ _ (HS.out _ (BW.out)) (fun hHeld2 => ?_)
      clear hK K hHeld
      have hHeld := hHeld2
      clear hHeld2
      try simp only [Act.put, List.setIfInBounds_toArray, List.set_cons_zero, List.set_cons_succ]
      refine wpAnyH_ready (rs := [5]) (by kernel_rfl) (by simp) ?_
      refine AllReadyH.cons rfl (fun K hK => ?_) AllReadyH.nil
      go_simp
      go_at_call 67; refine Calls.mono (half_any (some ⟨k4, 0, none⟩) n3 n3 (hv h3 n3) _ P3 (by omega) (by omega) (M4.out) (hv_rg R3.out)) ?_; rintro e w5 ⟨k5, rfl, b5, m5⟩; have bb' := b5; have MX3 : Hid _ := MutK.below MX.out bb' (cell_lt (MutK.cells6 MX.out).1); clear MX; have MX : Hid _ := MX3.out; clear MX3; have M5 : Hid (At w5 (some ⟨k5, 0, none⟩) n3 (hv (hv h3 n3) n3)) := m5.at; have BX : Below W.heap.size W w5 := Below.up BW.out (Nat.le_refl _) bb'; clear BW; have BW : Hid (Below W.heap.size W w5) := BX; clear LB; have LB : Hid (W.heap.size ≤ w5.heap.size) := BX.size; clear BX bb'; clear b5 m5 M4
      refine hK.out _ _ (HS.out _ (BW.out)) (fun hHeld2 => ?_)
      clear hK K hHeld
      have hHeld := hHeld2
      clear hHeld2
      try simp only [Act.put, List.setIfInBounds_toArray, List.set_cons_zero, List.set_cons_succ]
      refine wpAnyH_ready (rs := [6]) (by kernel_rfl) (by simp) ?_
      refine AllReadyH.cons rfl (fun K hK => ?_) AllReadyH.nil
      go_simp
      go_at_call 57; refine Calls.mono (KP.out (some ⟨k5, 0, none⟩) n3 n3 (hv (hv h3 n3) n3) SE _ RF.out LF.out (by omega) (M5.out) (hv_rg (hv_rg R3.out)) (by rw [hv_val P3, hv_val P3, V3.out, rL_val, val_one]; exact SE_val)) ?_; rintro e w6 ⟨v6, rfl, ⟨h6, rfl, r6, v6⟩, b6⟩; have bb' := b6; have MX3 : Hid _ := MutK.below MX.out bb' (cell_lt (MutK.cells6 MX.out).1); clear MX; have MX : Hid _ := MX3.out; clear MX3; have R6 : Hid (Rg h6 6) := r6; have V6 : Hid (val h6 6 = sq (val f 6)) := v6; obtain ⟨m0, m1, m2, m3, m4, m5⟩ := MutK.cells6 MX.out; obtain ⟨n0, n1, n2, n3, n4, n5⟩ := MutK.free6 MX.out; have BX : Below W.heap.size W w6 := Below.up BW.out (Nat.le_refl _) bb'; clear BW; have BW : Hid (Below W.heap.size W w6) := BX; clear LB; have LB : Hid (W.heap.size ≤ w6.heap.size) := BX.size; clear BX bb'; clear b6 r6 v6 M5 R3 V3 P3
      refine hK.out _ _ (HS.out _ (BW.out)) (fun hHeld2 => ?_)
      clear hK K hHeld
      have hHeld := hHeld2
      clear hHeld2
      try simp only [Act.put, List.setIfInBounds_toArray, List.set_cons_zero, List.set_cons_succ]
      refine wpAnyH_ready (rs := [8]) (by kernel_rfl) (by simp) ?_
      refine AllReadyH.cons rfl (fun K hK => ?_) AllReadyH.nil
      go_simp
      refine hK.out _ _ (HS.out _ (below_set6 BW.out LX.out _ _ _ _ _ _)) (fun hHeld2 => ?_)
      clear hK K hHeld hHeld2
      try simp only [Act.put, List.setIfInBounds_toArray, List.set_cons_zero, List.set_cons_succ]
      refine wpAnyH_done (by kernel_rfl) ?_ _
      exact ⟨rfl, _, h6, _, _, _, _, _, _, _, _, _, _, _, _, _, _, _, _, _, _, rfl, (finB h6 BW.out MX.out LX.out).1, (finB h6 BW.out MX.out LX.out).2, R6.out, V6.out, LX.out⟩
    refine AllReadyH.cons rfl (fun K hK => ?_) AllReadyH.nil
    go_simp
    refine hK.out _ _ (HS.out _ (Below.drew (below_two _ _ _))) (fun hHeld2 => ?_)
    clear hK K hHeld
    have hHeld := hHeld2
    clear hHeld2
    try simp only [Act.put, List.setIfInBounds_toArray, List.set_cons_zero, List.set_cons_succ]
    refine wpAnyH_ready (rs := [1]) (by kernel_rfl) (by simp) ?_
    refine AllReadyH.cons rfl (fun K hK => ?_) AllReadyH.nil
    go_simp
    go_at_call 28; refine Calls.mono (refP_new _) ?_; rintro e w2 ⟨k2, rfl, b2, a2⟩; have bb' := (boxlit (below_drew b2)).1; have ML : Hid _ := (boxlit (below_drew b2)).2.1; have MX : Hid _ := (boxlit (below_drew b2)).2.2; have LX : Hid (W.heap.size ≤ W.heap.size) := (by exact LB.out); have AP : Hid (At w2 (some ⟨k2, 0, none⟩) 6 rL) := a2; have BX : Below W.heap.size W w2 := Below.up BW.out (Nat.le_refl _) bb'; clear BW; have BW : Hid (Below W.heap.size W w2) := BX; clear LB; have LB : Hid (W.heap.size ≤ w2.heap.size) := BX.size; clear BX bb'; clear b2 a2
    refine hK.out _ _ (HS.out _ (BW.out)) (fun hHeld2 => ?_)
    clear hK K hHeld
    have hHeld := hHeld2
    clear hHeld2
    try simp only [Act.put, List.setIfInBounds_toArray, List.set_cons_zero, List.set_cons_succ]
    refine wpAnyH_ready (rs := [3]) (by kernel_rfl) (by simp) ?_
    refine AllReadyH.cons rfl (fun K hK => ?_) AllReadyH.nil
    go_simp
    go_at_call 70; refine Calls.mono (refSum_any _ _ 6 1 6 1 rL (one 1) _ (by omega) (by omega) (by omega) (by omega) (AP.out) (ML.out) rL_rg (one_rg ⟨by decide, by rw [B64_eq]; decide⟩ 1) (by omega) (by omega)) ?_; rintro e w3 ⟨v3, rfl, b3, p3, n3, c3, h3, rfl, q1, q2, q3, a3, r3, nm3, v3⟩; have bb' := b3; have MX3 : Hid _ := MutK.below MX.out bb' (cell_lt (MutK.cells6 MX.out).1); clear MX; have MX : Hid _ := MX3.out; clear MX3; clear ML; have A3 : Hid (At w3 p3 n3 h3) := a3; have R3 : Hid _ := r3; have V3 : Hid _ := v3; have P3 : 0 < n3 := nm_pos v3; have BX : Below W.heap.size W w3 := Below.up BW.out (Nat.le_refl _) bb'; clear BW; have BW : Hid (Below W.heap.size W w3) := BX; clear LB; have LB : Hid (W.heap.size ≤ w3.heap.size) := BX.size; clear BX bb'; clear b3 a3 r3 v3 nm3 AP
    refine hK.out _ _ (HS.out _ (BW.out)) (fun hHeld2 => ?_)
    clear hK K hHeld
    have hHeld := hHeld2
    clear hHeld2
    try simp only [Act.put, List.setIfInBounds_toArray, List.set_cons_zero, List.set_cons_succ]
    refine wpAnyH_ready (rs := [4]) (by kernel_rfl) (by simp) ?_
    refine AllReadyH.cons rfl (fun K hK => ?_) AllReadyH.nil
    go_simp
    go_at_call 67; refine Calls.mono (half_any p3 n3 c3 h3 _ P3 (by omega) q1 (A3.out) R3.out) ?_; rintro e w4 ⟨k4, rfl, b4, m4⟩; have bb' := b4; have MX3 : Hid _ := MutK.below MX.out bb' (cell_lt (MutK.cells6 MX.out).1); clear MX; have MX : Hid _ := MX3.out; clear MX3; have M4 : Hid (At w4 (some ⟨k4, 0, none⟩) n3 (hv h3 n3)) := m4.at; have BX : Below W.heap.size W w4 := Below.up BW.out (Nat.le_refl _) bb'; clear BW; have BW : Hid (Below W.heap.size W w4) := BX; clear LB; have LB : Hid (W.heap.size ≤ w4.heap.size) := BX.size; clear BX bb'; clear b4 m4 A3
    refine hK.out _ _ (HS.out _ (BW.out)) (fun hHeld2 => ?_)
    clear hK K hHeld
    have hHeld := hHeld2
    clear hHeld2
    try simp only [Act.put, List.setIfInBounds_toArray, List.set_cons_zero, List.set_cons_succ]
    refine wpAnyH_ready (rs := [5]) (by kernel_rfl) (by simp) ?_
    refine AllReadyH.cons rfl (fun K hK => ?_) AllReadyH.nil
    go_simp
    go_at_call 67; refine Calls.mono (half_any (some ⟨k4, 0, none⟩) n3 n3 (hv h3 n3) _ P3 (by omega) (by omega) (M4.out) (hv_rg R3.out)) ?_; rintro e w5 ⟨k5, rfl, b5, m5⟩; have bb' := b5; have MX3 : Hid _ := MutK.below MX.out bb' (cell_lt (MutK.cells6 MX.out).1); clear MX; have MX : Hid _ := MX3.out; clear MX3; have M5 : Hid (At w5 (some ⟨k5, 0, none⟩) n3 (hv (hv h3 n3) n3)) := m5.at; have BX : Below W.heap.size W w5 := Below.up BW.out (Nat.le_refl _) bb'; clear BW; have BW : Hid (Below W.heap.size W w5) := BX; clear LB; have LB : Hid (W.heap.size ≤ w5.heap.size) := BX.size; clear BX bb'; clear b5 m5 M4
    refine hK.out _ _ (HS.out _ (BW.out)) (fun hHeld2 => ?_)
    clear hK K hHeld
    have hHeld := hHeld2
    clear hHeld2
    try simp only [Act.put, List.setIfInBounds_toArray, List.set_cons_zero, List.set_cons_succ]
    refine wpAnyH_ready (rs := [6]) (by kernel_rfl) (by simp) ?_
    refine AllReadyH.cons rfl (fun K hK => ?_) AllReadyH.nil
    go_simp
    go_at_call 57; refine Calls.mono (KP.out (some ⟨k5, 0, none⟩) n3 n3 (hv (hv h3 n3) n3) SE _ RF.out LF.out (by omega) (M5.out) (hv_rg (hv_rg R3.out)) (by rw [hv_val P3, hv_val P3, V3.out, rL_val, val_one]; exact SE_val)) ?_; rintro e w6 ⟨v6, rfl, ⟨h6, rfl, r6, v6⟩, b6⟩; have bb' := b6; have MX3 : Hid _ := MutK.below MX.out bb' (cell_lt (MutK.cells6 MX.out).1); clear MX; have MX : Hid _ := MX3.out; clear MX3; have R6 : Hid (Rg h6 6) := r6; have V6 : Hid (val h6 6 = sq (val f 6)) := v6; obtain ⟨m0, m1, m2, m3, m4, m5⟩ := MutK.cells6 MX.out; obtain ⟨n0, n1, n2, n3, n4, n5⟩ := MutK.free6 MX.out; have BX : Below W.heap.size W w6 := Below.up BW.out (Nat.le_refl _) bb'; clear BW; have BW : Hid (Below W.heap.size W w6) := BX; clear LB; have LB : Hid (W.heap.size ≤ w6.heap.size) := BX.size; clear BX bb'; clear b6 r6 v6 M5 R3 V3 P3
    refine hK.out _ _ (HS.out _ (BW.out)) (fun hHeld2 => ?_)
    clear hK K hHeld
    have hHeld := hHeld2
    clear hHeld2
    try simp only [Act.put, List.setIfInBounds_toArray, List.set_cons_zero, List.set_cons_succ]
    refine wpAnyH_ready (rs := [8]) (by kernel_rfl) (by simp) ?_
    refine AllReadyH.cons rfl (fun K hK => ?_) AllReadyH.nil
    go_simp
    refine hK.out _ _ (HS.out _ (below_set6 BW.out LX.out _ _ _ _ _ _)) (fun hHeld2 => ?_)
    clear hK K hHeld hHeld2
    try simp only [Act.put, List.setIfInBounds_toArray, List.set_cons_zero, List.set_cons_succ]
    refine wpAnyH_done (by kernel_rfl) ?_ _
    exact ⟨rfl, _, h6, _, _, _, _, _, _, _, _, _, _, _, _, _, _, _, _, _, _, rfl, (finB h6 BW.out MX.out LX.out).1, (finB h6 BW.out MX.out LX.out).2, R6.out, V6.out, LX.out⟩
theorem sqrtP_yes (f : Nat → Int) (w : World) (rf : Rg f 6) (lf : val f 6 < RI) (hn : sq (val f 6) * sq (val f 6) % RI = val f 6) : Calls Tryd.prog 47 #[.agg #[.int .u64 (f 0), .int .u64 (f 1), .int .u64 (f 2), .int .u64 (f 3), .int .u64 (f 4), .int .u64 (f 5)]] w fun e w' => ∃ h : Nat → Int, e = .returned (.tuple #[.agg #[.int .u64 (h 0), .int .u64 (h 1), .int .u64 (h 2), .int .u64 (h 3), .int .u64 (h 4), .int .u64 (h 5)], .bool true]) ∧ Rg h 6 ∧ val h 6 = lesser (sq (val f 6)) ∧ Below w.heap.size w w' := sqrtP_at f w rf lf true _ (Or.inl ⟨hn, rfl, rfl⟩)
theorem sqrtP_no (f : Nat → Int) (w : World) (rf : Rg f 6) (lf : val f 6 < RI) (hn : sq (val f 6) * sq (val f 6) % RI ≠ val f 6) : Calls Tryd.prog 47 #[.agg #[.int .u64 (f 0), .int .u64 (f 1), .int .u64 (f 2), .int .u64 (f 3), .int .u64 (f 4), .int .u64 (f 5)]] w fun e w' => ∃ h : Nat → Int, e = .returned (.tuple #[.agg #[.int .u64 (h 0), .int .u64 (h 1), .int .u64 (h 2), .int .u64 (h 3), .int .u64 (h 4), .int .u64 (h 5)], .bool false]) ∧ Rg h 6 ∧ val h 6 = 0 ∧ Below w.heap.size w w' := sqrtP_at f w rf lf false _ (Or.inr ⟨hn, rfl, rfl⟩)
end Go.Proofs.YtgoghcmnnhglhaaDoor.fpn

/- What is asked of package fp, and what the reference's numbers answer, by values of numbers. -/
namespace Go.Proofs.YtgoghcmnnhglhaaDoor.fpn
open Go.RowKit
set_option linter.unusedVariables false

theorem ne_zero {a : F} (h : a ≠ 0) : (a.val : Int) ≠ 0 := fun e => h (Fin.ext (by
  have : a.val = 0 := by omega
  rw [this]; rfl))
theorem small {n : Nat} (h : n < 1000) : (n : Int) = ((Fin.ofNat RN n : F).val : Int) := by
  show (n : Int) = ((n % RN : Nat) : Int)
  rw [Nat.mod_eq_of_lt (Nat.lt_trans h (by decide))]

theorem ret1 {f : FuncId} {args : Array Value} {w : World} {X : Int} {c : F}
    (h : Calls Tryd.prog f args w fun e w' => ∃ h : Nat → Int, e = .returned (.agg #[.int .u64 (h 0), .int .u64 (h 1), .int .u64 (h 2), .int .u64 (h 3), .int .u64 (h 4), .int .u64 (h 5)]) ∧ Rg h 6 ∧ val h 6 = X ∧ Below w.heap.size w w')
    (hX : X = (c.val : Int)) : Calls Tryd.prog f args w (Ret (FV c) w) :=
  Calls.mono h fun e w' ⟨h, he, rh, vh, hb⟩ => ⟨he.trans (congrArg _ (agg_of rh (vh.trans hX))), hb⟩
theorem ret2 {f : FuncId} {args : Array Value} {w : World} {X : Int} {c : F} {v : Value}
    (h : Calls Tryd.prog f args w fun e w' => ∃ h : Nat → Int, e = .returned (.tuple #[.agg #[.int .u64 (h 0), .int .u64 (h 1), .int .u64 (h 2), .int .u64 (h 3), .int .u64 (h 4), .int .u64 (h 5)], v]) ∧ Rg h 6 ∧ val h 6 = X ∧ Below w.heap.size w w')
    (hX : X = (c.val : Int)) : Calls Tryd.prog f args w (Ret (.tuple #[FV c, v]) w) :=
  Calls.mono h fun e w' ⟨h, he, rh, vh, hb⟩ => ⟨by rw [he, agg_of rh (vh.trans hX)], hb⟩
theorem ret0 {f : FuncId} {args : Array Value} {w : World} {X : Int} {c : F}
    (h : Calls Tryd.prog f args w fun e w' => ∃ v, e = .returned v ∧ (∃ h : Nat → Int, v = frv h ∧ Rg h 6 ∧ val h 6 = X) ∧ Below w.heap.size w w')
    (hX : X = (c.val : Int)) : Calls Tryd.prog f args w (Ret (FV c) w) :=
  Calls.mono h fun e w' ⟨v, he, ⟨h, hv, rh, vh⟩, hb⟩ => ⟨by rw [he, hv]; exact congrArg _ (agg_of rh (vh.trans hX)), hb⟩
theorem ret3 {f : FuncId} {args : Array Value} {w : World} {X : Int} {c : F} {u : Value}
    (h : Calls Tryd.prog f args w fun e w' => ∃ v, e = .returned (.tuple #[v, u]) ∧ (∃ h : Nat → Int, v = frv h ∧ Rg h 6 ∧ val h 6 = X) ∧ Below w.heap.size w w')
    (hX : X = (c.val : Int)) : Calls Tryd.prog f args w (Ret (.tuple #[FV c, u]) w) :=
  Calls.mono h fun e w' ⟨v, he, ⟨h, hv, rh, vh⟩, hb⟩ => ⟨by rw [he, hv, show frv h = FV c from agg_of rh (vh.trans hX)], hb⟩

/-- What is asked of package fp. -/
structure FpK (G : World → Prop) : Prop where
  stay : ∀ {w x : World}, G w → Below w.heap.size w x → G x
  add : ∀ (a b : F) (w : World), G w → Calls Tryd.prog 35 #[FV a, FV b] w (Ret (FV (a + b)) w)
  sub : ∀ (a b : F) (w : World), G w → Calls Tryd.prog 37 #[FV a, FV b] w (Ret (FV (a - b)) w)
  mul : ∀ (a b : F) (w : World), G w → Calls Tryd.prog 40 #[FV a, FV b] w (Ret (FV (a * b)) w)
  neg : ∀ (a : F) (w : World), G w → Calls Tryd.prog 39 #[FV a] w (Ret (FV (-a)) w)
  of : ∀ (n : Nat) (w : World), n < 1000 → G w → Calls Tryd.prog 48 #[.int .u64 (n : Int)] w (Ret (FV (Fin.ofNat RN n)) w)
  inv : ∀ (a : F) (w : World), G w → a ≠ 0 → Calls Tryd.prog 31 #[FV a] w (Ret (.tuple #[FV (finv a), .int .i64 0]) w)
  inv0 : ∀ (w : World), G w → Calls Tryd.prog 31 #[FV 0] w (Ret (.tuple #[FV 0, .int .i64 7]) w)
  may : ∀ (f : Nat → Int) (w : World), G w → Rg f 6 → Calls Tryd.prog 30 #[frv f] w (Ret (.bool (decide (val f 6 < RI))) w)
  great : ∀ (a : F) (w : World), G w → Calls Tryd.prog 43 #[FV a] w (Ret (.bool (great a)) w)
  sqrt : ∀ (a : F) (w : World), G w → Calls Tryd.prog 81 #[FV a] w (Ret (.tuple #[FV (root a), .bool (isq a)]) w)
theorem fpK {G : World → Prop} (K : FpOk G) : FpK G where
  stay := K.stay
  add := fun a b w g => ret1 (K.add (lb a.val) (lb b.val) w g (lb_rg _ _) (lb_rg _ _) (lt_RI a) (lt_RI b)) (by rw [lbF, lbF, val_add])
  sub := fun a b w g => ret1 (K.sub (lb a.val) (lb b.val) w g (lb_rg _ _) (lb_rg _ _) (lt_RI a) (lt_RI b)) (by rw [lbF, lbF, val_sub])
  mul := fun a b w g => ret1 (K.mul (lb a.val) (lb b.val) w g (lb_rg _ _) (lb_rg _ _) (lt_RI a) (lt_RI b)) (by rw [lbF, lbF, val_mul])
  neg := fun a w g => ret1 (K.neg (lb a.val) w g (lb_rg _ _) (lt_RI a)) (by rw [lbF, val_neg])
  of := fun n w hn g => ret1 (K.of n w g ⟨by omega, by rw [B64_eq]; omega⟩) (small hn)
  inv := fun a w g h => ret2 (K.inv (lb a.val) w g (lb_rg _ _) (lt_RI a) (by rw [lbF]; exact ne_zero h)) (by rw [lbF, val_finv])
  inv0 := fun w g => ret2 (K.inv0 (lb (0 : F).val) w g (lb_rg _ _) (by rw [lbF]; rfl)) rfl
  may := fun f w g rf => K.may f w g rf
  great := fun a w g => by have h := K.great (lb a.val) w g (lb_rg _ _) (lt_RI a); rw [lbF, great_int] at h; exact h
  sqrt := fun a w g => by
    by_cases h : isq a = true
    · rw [h]
      refine ret2 (K.sqrtYes (lb a.val) w g (lb_rg _ _) (lt_RI a) (by rw [lbF]; exact (isq_int a).2 h)) ?_
      rw [lbF, lesser_int a h]
    · rw [show root a = 0 from if_neg h, show isq a = false by simpa using h]
      exact ret2 (K.sqrtNo (lb a.val) w g (lb_rg _ _) (lt_RI a) (by rw [lbF]; exact fun e => h ((isq_int a).1 e))) rfl
/-- What the reference's numbers answer. -/
structure RefK : Prop where
  add : ∀ (a b : F) (w : World), True → Calls Tryd.prog 36 #[FV a, FV b] w (Ret (FV (a + b)) w)
  sub : ∀ (a b : F) (w : World), True → Calls Tryd.prog 38 #[FV a, FV b] w (Ret (FV (a - b)) w)
  mul : ∀ (a b : F) (w : World), True → Calls Tryd.prog 41 #[FV a, FV b] w (Ret (FV (a * b)) w)
  neg : ∀ (a : F) (w : World), True → Calls Tryd.prog 42 #[FV a] w (Ret (FV (-a)) w)
  of : ∀ (n : Nat) (w : World), n < 1000 → True → Calls Tryd.prog 46 #[.int .u64 (n : Int)] w (Ret (FV (Fin.ofNat RN n)) w)
  inv : ∀ (a : F) (w : World), True → a ≠ 0 → Calls Tryd.prog 34 #[FV a] w (Ret (.tuple #[FV (finv a), .int .i64 0]) w)
  inv0 : ∀ (w : World), True → Calls Tryd.prog 34 #[FV 0] w (Ret (.tuple #[FV 0, .int .i64 7]) w)
  may : ∀ (f : Nat → Int) (w : World), True → Rg f 6 → Calls Tryd.prog 29 #[frv f] w (Ret (.bool (decide (val f 6 < RI))) w)
  great : ∀ (a : F) (w : World), True → Calls Tryd.prog 44 #[FV a] w (Ret (.bool (great a)) w)
  sqrt : ∀ (a : F) (w : World), True → Calls Tryd.prog 47 #[FV a] w (Ret (.tuple #[FV (root a), .bool (isq a)]) w)
theorem refK : RefK where
  add := fun a b w _ => ret0 (addR_any (lb a.val) (lb b.val) w (lb_rg _ _) (lb_rg _ _) (lt_RI a) (lt_RI b)) (by rw [lbF, lbF, val_add])
  sub := fun a b w _ => ret0 (subR_any (lb a.val) (lb b.val) w (lb_rg _ _) (lb_rg _ _) (lt_RI a) (lt_RI b)) (by rw [lbF, lbF, val_sub])
  mul := fun a b w _ => ret0 (mulR_any (lb a.val) (lb b.val) w (lb_rg _ _) (lb_rg _ _) (lt_RI b)) (by rw [lbF, lbF, val_mul])
  neg := fun a w _ => ret0 (negR_any (lb a.val) w (lb_rg _ _) (lt_RI a)) (by rw [lbF, val_neg])
  of := fun n w hn _ => Calls.mono (refOf_any n w) fun e w' ⟨he, hb⟩ => ⟨he.trans (congrArg _ (agg_of (h := one n) (one_rg ⟨by omega, by rw [B64_eq]; omega⟩ 6) (by rw [val_one4]; exact small hn))), hb⟩
  inv := fun a w _ h => ret3 (invR_any (lb a.val) w (lb_rg _ _) (lt_RI a) (by rw [lbF]; exact ne_zero h)) (by rw [lbF, val_finv])
  inv0 := fun w _ => invR_zero (lb (0 : F).val) w (lb_rg _ _) (by rw [lbF]; rfl)
  may := fun f w _ rf => mayR_any f w rf
  great := fun a w _ => by have h := greatP_any (lb a.val) w (lb_rg _ _); rw [lbF, great_int] at h; exact h
  sqrt := fun a w _ => by
    by_cases h : isq a = true
    · rw [h]
      refine ret2 (sqrtP_yes (lb a.val) w (lb_rg _ _) (lt_RI a) (by rw [lbF]; exact (isq_int a).2 h)) ?_
      rw [lbF, lesser_int a h]
    · rw [show root a = 0 from if_neg h, show isq a = false by simpa using h]
      exact ret2 (sqrtP_no (lb a.val) w (lb_rg _ _) (lt_RI a) (by rw [lbF]; exact fun e => h ((isq_int a).1 e))) rfl
end Go.Proofs.YtgoghcmnnhglhaaDoor.fpn

/- What is to be shown of one operation, kind by kind. No program is named here. -/
namespace Go.Proofs.YtgoghcmnnhglhaaDoor.Pl
open Go Go.RowKit
set_option linter.unusedVariables false
set_option linter.unusedSimpArgs false

section
variable {P : Program} {ops : Array Oper} {ks : List Kind} {T : List Nat} {a0 : Act} {B : Nat} {w0 : World} {H : List (Nat × List Value)} {i : Nat} {o : Oper}

theorem ob_det {v : Value} (hw : ∀ L, wantedR ks L o = true) (hk : kd ks i = .det v)
    (h : ∀ L w, (early T ks i = true → Seen ks T B w0 H L i w) → Runs P ((execOp (rd ops ks T a0 L i) o).run P w) (fun u w' => u = v ∧ Below w.heap.size w w')) : Ob P ops ks T a0 B w0 H i o := fun L w hs => by
  rw [if_pos (hw L), hk]
  have hv : val ks L i = v := by unfold val; rw [hk]
  simp only [hv]
  exact h L w hs

theorem ob_skip (hw : ∀ L, wantedR ks L o = false) (hk : kd ks i = .det undef) : Ob P ops ks T a0 B w0 H i o := fun L w hs => by
  rw [if_neg (by rw [hw L]; simp)]; exact hk

/-- An operation that yields a value in whatever world. -/
theorem ob_pure {v : Value} (hw : ∀ L, wantedR ks L o = true) (hk : kd ks i = .det v)
    (h : ∀ L w, (execOp (rd ops ks T a0 L i) o).run P w = .ok (.value v) w) : Ob P ops ks T a0 B w0 H i o :=
  ob_det hw hk fun L w _ => by rw [h L w]; exact ⟨rfl, Below.refl _ _⟩

theorem ob_move {v : Value} {x : Operand} (hw : ∀ L, wantedR ks L o = true) (hk : kd ks i = .det v) (ho : o.op = .move x) (hx : ∀ L, rd ops ks T a0 L i x = v) : Ob P ops ks T a0 B w0 H i o :=
  ob_pure hw hk fun L w => by unfold execOp; simp only [ho, hx L]; rfl
theorem ob_assign {v : Value} {x : Operand} (hw : ∀ L, wantedR ks L o = true) (hk : kd ks i = .det v) (ho : o.op = .assign x) (hx : ∀ L, rd ops ks T a0 L i x = v) : Ob P ops ks T a0 B w0 H i o :=
  ob_pure hw hk fun L w => by unfold execOp; simp only [ho, hx L]; rfl
theorem ob_extract {v : Value} {t : Operand} {n : Nat} {vs : Array Value} (hw : ∀ L, wantedR ks L o = true) (hk : kd ks i = .det v) (ho : o.op = .extract t n) (hx : ∀ L, rd ops ks T a0 L i t = .tuple vs) (hv : vs[n]? = some v) : Ob P ops ks T a0 B w0 H i o :=
  ob_pure hw hk fun L w => by unfold execOp; simp only [ho, hx L, Instr.extract, hv]; rfl
theorem ob_pickT {v : Value} {c x y : Operand} (hw : ∀ L, wantedR ks L o = true) (hk : kd ks i = .det v) (ho : o.op = .pick c x y) (hc : ∀ L, rd ops ks T a0 L i c = .bool true) (hx : ∀ L, rd ops ks T a0 L i x = v) : Ob P ops ks T a0 B w0 H i o :=
  ob_pure hw hk fun L w => by unfold execOp; simp only [ho, hc L, hx L]; rfl
theorem ob_pickF {v : Value} {c x y : Operand} (hw : ∀ L, wantedR ks L o = true) (hk : kd ks i = .det v) (ho : o.op = .pick c x y) (hc : ∀ L, rd ops ks T a0 L i c = .bool false) (hx : ∀ L, rd ops ks T a0 L i y = v) : Ob P ops ks T a0 B w0 H i o :=
  ob_pure hw hk fun L w => by unfold execOp; simp only [ho, hc L, hx L]; rfl
theorem ob_not {b : Bool} {t : TypeId} {x : Operand} (hw : ∀ L, wantedR ks L o = true) (hk : kd ks i = .det (.bool (!b))) (ho : o.op = .unOp .not t x) (hx : ∀ L, rd ops ks T a0 L i x = .bool b) : Ob P ops ks T a0 B w0 H i o :=
  ob_pure hw hk fun L w => by unfold execOp; simp only [ho, hx L]; rfl
theorem ob_build {v : Value} {t : TypeId} {ps : Array (Nat × Operand)} {qs : Array (Nat × Value)} (hw : ∀ L, wantedR ks L o = true) (hk : kd ks i = .det v) (ho : o.op = .build t ps) (hx : ∀ L, (ps.map fun p => (p.1, rd ops ks T a0 L i p.2)) = qs)
    (h : ∀ w, (Instr.build t qs).run P w = .ok v w) : Ob P ops ks T a0 B w0 H i o :=
  ob_pure hw hk fun L w => by
    have e : (ps.map fun (x : Nat × Operand) => match x with | (i_1, x) => (i_1, rd ops ks T a0 L i x)) = qs := hx L
    unfold execOp
    simp only [ho, e, Sem.run_bind, h w]
    rfl
/-- An address in an array. -/
theorem ob_index {t e : TypeId} {x ix : Operand} {n b off sz k : Nat} {m : Nat} (hw : ∀ L, wantedR ks L o = true) (hk : kd ks i = .det (.pointer (some ⟨b, m, none⟩))) (ho : o.op = .indexAddr t x ix)
    (hx : ∀ L, rd ops ks T a0 L i x = .pointer (some ⟨b, off, none⟩)) (hi : ∀ L, rd ops ks T a0 L i ix = .int .i64 (k : Int)) (hu : P.underlying t = some (.array n e)) (hs : (P.info? e).map (·.size) = some sz) (hkn : k < n) (hm : m = off + k * sz) : Ob P ops ks T a0 B w0 H i o :=
  ob_pure hw hk fun L w => by
    have hkn' : (0 : Int) ≤ (k : Int) ∧ (k : Int) < (n : Int) := ⟨by omega, by omega⟩
    obtain ⟨inf, hinf, hsz⟩ : ∃ inf, P.info? e = some inf ∧ inf.size = sz := by
      cases h : P.info? e with
      | none => simp [h] at hs
      | some inf => exact ⟨inf, rfl, by simpa [h] using hs⟩
    subst hm
    unfold execOp
    simp [ho, hx L, hi L, Instr.indexAt, asIntOf, Sem.run_bind, Go.underlying, hu, Instr.sureAddr, hkn', sizeOf, typeInfo, hinf, hsz, Addr.add_mid]
    intro hh; omega

/-- A load of a row, or of a part of it, out of a range that is there. -/
theorem ob_load {t : TypeId} {x : Operand} {b off : Nat} {cs : List Value} {d : TypeDesc} (he : early T ks i = true) (hw : ∀ L, wantedR ks L o = true) (hk : kd ks i = .det (.agg cs.toArray)) (ho : o.op = .load t x)
    (hx : ∀ L, rd ops ks T a0 L i x = .pointer (some ⟨b, off, none⟩)) (hr : ∀ L w, Seen ks T B w0 H L i w → w.rangeAt b off cs)
    (hu : P.underlying t = some d) (hd : d.isRow = true) (hi : (P.info? t).map (·.size) = some cs.length) : Ob P ops ks T a0 B w0 H i o :=
  ob_det hw hk fun L w hs => by
    have : (execOp (rd ops ks T a0 L i) o).run P w = .ok (.value (.agg cs.toArray)) w := by
      unfold execOp
      simp only [ho, hx L, Sem.run_bind, run_loadAt_mid w b off t cs d (hr L w (hs he)) hu hd hi]
      rfl
    rw [this]
    exact ⟨rfl, Below.refl _ _⟩

theorem box_part {w : World} {b off : Nat} {pre cs post : List Value} (h : Box w b (pre ++ (cs ++ post))) (ho : pre.length = off) : w.rangeAt b off cs := fun j v hv => by
  have hj : j < cs.length := (List.getElem?_eq_some_iff.1 hv).1
  have := h.cells (off + j) v (by rw [List.getElem?_append_right (by omega), List.getElem?_append_left (by omega)]; rw [show off + j - pre.length = j by omega]; exact hv)
  simpa using this
/-- The k-th box. -/
theorem seen_at {L : Lt} {w : World} {k b : Nat} {cs : List Value} (hs : Seen ks T B w0 H L i w) (hk : H[k]? = some (b, cs)) : Box w b cs := hs.base (b, cs) (List.mem_of_getElem? hk)

/-- A function that has a body. -/
def plainF (P : Program) (f : FuncId) : Bool := match P.funcs[f]? with | some fn => !(fn.name == "runtime.NumGoroutine") && fn.body.isSome | none => false

theorem run_enter {f : FuncId} (hf : plainF P f = true) (args : Array Value) (w : World) : (invoke (.fn (.func f) #[]) args).run P w = .ok (.enter f args) w := by
  unfold plainF at hf
  cases h : P.funcs[f]? with
  | none => simp [h] at hf
  | some fn =>
    simp only [h, Bool.and_eq_true, Bool.not_eq_true'] at hf
    obtain ⟨h1, h2⟩ := hf
    have h3 : fn.body.isNone = false := by cases hb : fn.body <;> simp_all
    have h4 : ¬ fn.name = "runtime.NumGoroutine" := by simpa using h1
    have h5 : ¬ fn.body = none := by intro e; rw [e] at h2; cases h2
    simp [invoke, callFunc, Sem.run_bind, h]
    rw [if_neg h4, if_neg h5]

/-- A call of a function, its answer told. -/
theorem ob_call {v : Value} {f : FuncId} {xs : Array Operand} {ts : Array TypeId} {vs : Array Value} (hf : plainF P f = true) (he : early T ks i = true) (hw : ∀ L, wantedR ks L o = true) (hk : kd ks i = .det v) (ho : o.op = .call { callee := .value (.func f), args := xs, argTypes := ts })
    (hx : ∀ L, xs.map (rd ops ks T a0 L i) = vs) (h : ∀ w, Below B w0 w → B ≤ w.heap.size → Calls P f vs w fun e w' => e = .returned v ∧ Below w.heap.size w w') : Ob P ops ks T a0 B w0 H i o :=
  ob_det hw hk fun L w hs => by
    have : (execOp (rd ops ks T a0 L i) o).run P w = .ok (.enter f vs) w := by
      unfold execOp
      simp only [ho, resolve, hx L, Deferred.ofValue, rd, Sem.run_bind, Sem.run_pure, Result.andThen_ok, Array.empty_append, run_enter hf]
    rw [this]
    exact Calls.mono (h w (hs he).bel (hs he).le) fun e w' ⟨h1, h2⟩ => ⟨v, h1, rfl, h2⟩

theorem info_zero {t : TypeId} {v : Value} (hz : (P.info? t).bind (·.zero) = some v) (w : World) : (zeroValue t).run P w = .ok v w := by
  cases h : P.info? t with
  | none => simp [h] at hz
  | some inf =>
    simp [h] at hz
    simp [zeroValue, typeInfo, Sem.run_bind, h, hz]

theorem run_newVar (w : World) (t : TypeId) (v : Value) : (newVar t v).run P w = .ok ⟨w.heap.size, 0, none⟩ (w.alloc (.cells v.cells t)) := rfl

/-- A new variable, all noughts. -/
theorem ob_alloc {t : TypeId} {cs : List Value} {v : Value} (hw : ∀ L, wantedR ks L o = true) (hk : kd ks i = .alloc cs) (ho : o.op = .alloc t) (hz : (P.info? t).bind (·.zero) = some v) (hc : v.cells = cs.toArray) : Ob P ops ks T a0 B w0 H i o := fun L w hs => by
  rw [if_pos (hw L), hk]
  refine ⟨t, ?_⟩
  unfold execOp
  simp [ho, Instr.alloc, Sem.run_bind, info_zero hz w, run_newVar, hc]

/-- A parameter that has an address. -/
theorem ob_box {t : TypeId} {cs : List Value} {v : Value} {x : Operand} (hw : ∀ L, wantedR ks L o = true) (hk : kd ks i = .alloc cs) (ho : o.op = .box t x) (hx : ∀ L, rd ops ks T a0 L i x = v) (hc : v.cells = cs.toArray) : Ob P ops ks T a0 B w0 H i o := fun L w hs => by
  rw [if_pos (hw L), hk]
  refine ⟨t, ?_⟩
  unfold execOp
  simp [ho, Instr.box, hx L, Sem.run_bind, run_newVar, hc]

theorem le_len {cs old : List Value} {off n m : Nat} (h1 : cs.length = n) (h2 : old.length = m) (h : off + n ≤ m) : off + cs.length ≤ old.length := by rw [h1, h2]; exact h
/-- A store of a row. -/
theorem ob_store {t : TypeId} {x y : Operand} {l : Loc} {off : Nat} {cs new old : List Value} (hw : ∀ L, wantedR ks L o = true) (hk : kd ks i = .store l off cs new) (ho : o.op = .store t x y)
    (hx : ∀ L, rd ops ks T a0 L i x = .pointer (some ⟨addr H L l, off, none⟩)) (hy : ∀ L, rd ops ks T a0 L i y = .agg cs.toArray) (hold : oldOf ks H l = old)
    (hi : (P.info? t).map (·.size) = some cs.length) (h1 : ∀ v ∈ cs, v.oneCell' = true) (hlen : off + cs.length ≤ old.length) (hsp : new = splice old off cs) : Ob P ops ks T a0 B w0 H i o := fun L w hs => by
  rw [if_pos (hw L), hk]
  subst hold
  refine ⟨hlen, hsp, fun ht => ?_⟩
  have hrun := run_storeAt_mid (P := P) w (addr H L l) off t cs.toArray (by simpa using ht) (by simpa using hi) (all_oneCell_toArray h1)
  unfold execOp
  simp [ho, hx L, hy L, Sem.run_bind, hrun]

/-- Two rows are held against each other. -/
theorem ob_eq {t t' : TypeId} {x y : Operand} {u v : Value} {b : Bool} (hw : ∀ L, wantedR ks L o = true) (hk : kd ks i = .det (.bool b)) (ho : o.op = .binOp .eql t x y t')
    (hx : ∀ L, rd ops ks T a0 L i x = u) (hy : ∀ L, rd ops ks T a0 L i y = v) (hg : ∀ w, (eqGuard .eql t x y u v).run P w = .ok () w) (h : ∀ w, (binOp .eql t u v).run P w = .ok (.bool b) w) : Ob P ops ks T a0 B w0 H i o :=
  ob_pure hw hk fun L w => by unfold execOp; simp [ho, hx L, hy L, Sem.run_bind, hg w, h w]
theorem ob_ne {t t' : TypeId} {x y : Operand} {u v : Value} {b : Bool} (hw : ∀ L, wantedR ks L o = true) (hk : kd ks i = .det (.bool b)) (ho : o.op = .binOp .neq t x y t')
    (hx : ∀ L, rd ops ks T a0 L i x = u) (hy : ∀ L, rd ops ks T a0 L i y = v) (hg : ∀ w, (eqGuard .neq t x y u v).run P w = .ok () w) (h : ∀ w, (binOp .neq t u v).run P w = .ok (.bool b) w) : Ob P ops ks T a0 B w0 H i o :=
  ob_pure hw hk fun L w => by unfold execOp; simp [ho, hx L, hy L, Sem.run_bind, hg w, h w]

theorem ob_bin {op : BinOp} {t t' : TypeId} {x y : Operand} {u v r : Value} (hw : ∀ L, wantedR ks L o = true) (hk : kd ks i = .det r) (ho : o.op = .binOp op t x y t')
    (hx : ∀ L, rd ops ks T a0 L i x = u) (hy : ∀ L, rd ops ks T a0 L i y = v) (hg : ∀ w, (eqGuard op t x y u v).run P w = .ok () w) (h : ∀ w, (binOp op t u v).run P w = .ok r w) : Ob P ops ks T a0 B w0 H i o :=
  ob_pure hw hk fun L w => by unfold execOp; simp [ho, hx L, hy L, Sem.run_bind, hg w, h w]

/-! ### A value that is built of parts -/
theorem foldl_set (cs : List Value) : ∀ (Z : Array Value) (off k : Nat), off + k + cs.length ≤ Z.size →
    (cs.zipIdx k).foldl (fun (zs : Array Value) (x : Value × Nat) => zs.setIfInBounds (off + x.2) x.1) Z = (splice Z.toList (off + k) cs).toArray := by
  induction cs with
  | nil => intro Z off k h; simp [splice]
  | cons c r ih =>
    intro Z off k h
    simp only [List.length_cons] at h
    rw [List.zipIdx_cons, List.foldl_cons, ih _ off (k + 1) (by simp; omega)]
    congr 1
    unfold splice
    apply List.ext_getElem?
    intro n
    simp only [List.length_cons, Array.toList_setIfInBounds, List.append_assoc, List.getElem?_append, List.getElem?_take, List.getElem?_drop, List.length_take, List.length_set, List.getElem?_set, Array.length_toList, List.cons_append, List.length_append, List.length_drop]
    grind

theorem fill_cons {place : Nat → Option (Nat × Nat)} {Z cs : List Value} {k off sz : Nat} {rest : List (Nat × Value)} (hp : place k = some (off, sz)) (hl : cs.length = sz) (hb : off + sz ≤ Z.length) :
    Instr.fill place Z.toArray ((k, .agg cs.toArray) :: rest) = Instr.fill place (splice Z off cs).toArray rest := by
  have h1 : (Value.agg cs.toArray).cells = cs.toArray := rfl
  rw [Instr.fill]
  simp only [hp, h1, List.size_toArray, hl, ne_eq, not_true_eq_false, decide_false, Bool.false_or, decide_eq_true_eq]
  rw [if_neg (by omega)]
  have := foldl_set cs Z.toArray off 0 (by simp; omega)
  rw [Nat.add_zero] at this
  rw [← this]
  simp

theorem run_build_array {t e : TypeId} {n sz : Nat} {Z : List Value} {ps : Array (Nat × Value)} {cs : List Value} (hu : P.underlying t = some (.array n e)) (hs : (P.info? e).map (·.size) = some sz) (hz : (P.info? t).bind (·.zero) = some (.agg Z.toArray))
    (hf : Instr.fill (fun i => some (i * sz, sz)) Z.toArray ps.toList = some cs.toArray) (w : World) : (Instr.build t ps).run P w = .ok (.agg cs.toArray) w := by
  obtain ⟨inf, hinf, hsz⟩ : ∃ inf, P.info? e = some inf ∧ inf.size = sz := by
    cases h : P.info? e with
    | none => simp [h] at hs
    | some inf => exact ⟨inf, rfl, by simpa [h] using hs⟩
  have hc : (Value.agg Z.toArray).cells = Z.toArray := rfl
  unfold Instr.build
  simp [Sem.run_bind, info_zero hz w, run_underlying hu w, sizeOf, typeInfo, hinf, hsz, hc, hf]

end
end Go.Proofs.YtgoghcmnnhglhaaDoor.Pl

/- Pairs as one type, the value that each has, and how values are held against each other and built. -/
namespace Go.Proofs.YtgoghcmnnhglhaaDoor.fpn
open Go.RowKit Pl
set_option linter.unusedVariables false
set_option linter.unusedSimpArgs false

/-- X0 + X1 u. -/
structure F2 where
  c0 : F
  c1 : F
  deriving DecidableEq

namespace F2
theorem ext' {x y : F2} (h0 : x.c0 = y.c0) (h1 : x.c1 = y.c1) : x = y := by cases x; cases y; simp_all
instance : Add F2 := ⟨fun x y => ⟨x.c0 + y.c0, x.c1 + y.c1⟩⟩
instance : Sub F2 := ⟨fun x y => ⟨x.c0 - y.c0, x.c1 - y.c1⟩⟩
instance : Neg F2 := ⟨fun x => ⟨-x.c0, -x.c1⟩⟩
instance : Mul F2 := ⟨fun x y => ⟨x.c0 * y.c0 - x.c1 * y.c1, x.c0 * y.c1 + x.c1 * y.c0⟩⟩
instance : OfNat F2 0 := ⟨⟨0, 0⟩⟩
instance : OfNat F2 1 := ⟨⟨1, 0⟩⟩
def conj (x : F2) : F2 := ⟨x.c0, -x.c1⟩
def norm (x : F2) : F := x.c0 * x.c0 + x.c1 * x.c1
noncomputable def inv (x : F2) : F2 := ⟨x.c0 * finv x.norm, -x.c1 * finv x.norm⟩
def great (x : F2) : Bool := if x.c1 = 0 then fpn.great x.c0 else fpn.great x.c1
@[simp] theorem add_c0 (x y : F2) : (x + y).c0 = x.c0 + y.c0 := rfl
@[simp] theorem add_c1 (x y : F2) : (x + y).c1 = x.c1 + y.c1 := rfl
@[simp] theorem sub_c0 (x y : F2) : (x - y).c0 = x.c0 - y.c0 := rfl
@[simp] theorem sub_c1 (x y : F2) : (x - y).c1 = x.c1 - y.c1 := rfl
@[simp] theorem neg_c0 (x : F2) : (-x).c0 = -x.c0 := rfl
@[simp] theorem neg_c1 (x : F2) : (-x).c1 = -x.c1 := rfl
@[simp] theorem mul_c0 (x y : F2) : (x * y).c0 = x.c0 * y.c0 - x.c1 * y.c1 := rfl
@[simp] theorem mul_c1 (x y : F2) : (x * y).c1 = x.c0 * y.c1 + x.c1 * y.c0 := rfl
@[simp] theorem zero_c0 : (0 : F2).c0 = 0 := rfl
@[simp] theorem zero_c1 : (0 : F2).c1 = 0 := rfl
@[simp] theorem one_c0 : (1 : F2).c0 = 1 := rfl
@[simp] theorem one_c1 : (1 : F2).c1 = 0 := rfl
@[simp] theorem conj_c0 (x : F2) : (conj x).c0 = x.c0 := rfl
@[simp] theorem conj_c1 (x : F2) : (conj x).c1 = -x.c1 := rfl
end F2

/-- A pair's cells. -/
def PC (x : F2) : List Value := FC x.c0 ++ FC x.c1
/-- A pair's value. -/
def PV (x : F2) : Value := .agg (PC x).toArray
theorem PC_len (x : F2) : (PC x).length = 12 := rfl
theorem PC_one (x : F2) : ∀ v ∈ PC x, v.oneCell' = true := fun v hv => by
  rcases List.mem_append.1 hv with h | h
  · exact FC_one _ v h
  · exact FC_one _ v h
theorem lb_eq {a b : F} (h : ∀ i, i < 6 → lb a.val i = lb b.val i) : a = b := ext_int (by rw [← lbF a, ← lbF b]; exact val_congr h)

/-- Numbers are held against each other. -/
theorem eqF (d : Nat) (a b : F) (w : World) : (Op.equalIn (d + 2) 24 (FV a) (FV b)).run Tryd.prog w = .ok (decide (a = b)) w := by
  have key : ∀ (a b c d' p q a' b' c' d'' p' q' : Int), (Op.equalIn (d + 2) 24 (.agg #[.int .u64 a, .int .u64 b, .int .u64 c, .int .u64 d', .int .u64 p, .int .u64 q]) (.agg #[.int .u64 a', .int .u64 b', .int .u64 c', .int .u64 d'', .int .u64 p', .int .u64 q'])).run Tryd.prog w = .ok (a == a' && (b == b' && (c == c' && (d' == d'' && (p == p' && q == q'))))) w := by
    intro a b c d' p q a' b' c' d'' p' q'
    have u3 := Tryd.underlying22
    have a3 := Tryd.isAgg22
    have z3 := Tryd.sizeOf22
    have hE : ∀ (x y : Int) (w : World), (Op.equalIn (d + 1) 22 (.int .u64 x) (.int .u64 y)).run Tryd.prog w = .ok (x == y) w := fun x y w => by
      rw [Op.equalIn.eq_def]
      simp [Sem.run_bind, run_underlying Tryd.underlying22]
    rw [show d + 2 = (d + 1) + 1 from rfl, Op.equalIn.eq_def]
    simp only [Sem.run_bind, run_underlying Tryd.underlying24, Result.andThen_ok]
    simp only [Std.Legacy.Range.forIn_eq_forIn_range', Std.Legacy.Range.size, Nat.sub_zero, Nat.add_sub_cancel, Nat.div_one, List.range'_succ, List.range'_zero, List.forIn_cons, List.forIn_nil]
    go_simp
    by_cases h1 : a = a'
    · by_cases h2 : b = b'
      · by_cases h3 : c = c'
        · by_cases h4 : d' = d''
          · by_cases h5 : p = p'
            · by_cases h6 : q = q' <;> simp [h1, h2, h3, h4, h5, h6]
            · simp [h1, h2, h3, h4, h5]
          · simp [h1, h2, h3, h4]
        · simp [h1, h2, h3]
      · simp [h1, h2]
    · simp [h1]
  rw [FV_agg, FV_agg, key]
  congr 1
  by_cases h : a = b
  · subst h; simp
  · rw [decide_eq_false h, Bool.eq_false_iff]
    intro hc
    simp only [Bool.and_eq_true, beq_iff_eq] at hc
    refine h (lb_eq fun i hi => ?_)
    rcases (show i = 0 ∨ i = 1 ∨ i = 2 ∨ i = 3 ∨ i = 4 ∨ i = 5 by omega) with rfl | rfl | rfl | rfl | rfl | rfl
    · exact hc.1
    · exact hc.2.1
    · exact hc.2.2.1
    · exact hc.2.2.2.1
    · exact hc.2.2.2.2.1
    · exact hc.2.2.2.2.2

end Go.Proofs.YtgoghcmnnhglhaaDoor.fpn

/- How numbers and pairs are held against each other and built, as operations. -/
namespace Go.Proofs.YtgoghcmnnhglhaaDoor.fpn
open Go.RowKit Pl
set_option linter.unusedVariables false
set_option linter.unusedSimpArgs false

theorem cut0 (x : F2) : List.take 6 (PC x) = FC x.c0 := rfl
theorem cut1 (x : F2) : List.take 6 (List.drop 6 (PC x)) = FC x.c1 := rfl

/-- Pairs are held against each other. -/
theorem eqP (d : Nat) (x y : F2) (w : World) : (Op.equalIn (d + 3) 26 (PV x) (PV y)).run Tryd.prog w = .ok (decide (x = y)) w := by
  have hE : ∀ (a b : F) (w : World), (Op.equalIn (d + 2) 24 (.agg (FC a).toArray) (.agg (FC b).toArray)).run Tryd.prog w = .ok (decide (a = b)) w := fun a b w => eqF d a b w
  have hp0 : ∀ (x : F2) (w : World), (part 24 (PC x).toArray 0).run Tryd.prog w = .ok (.agg (FC x.c0).toArray) w := fun x w => by
    simp [part, Sem.run_bind, Tryd.isAgg24, Tryd.sizeOf24, cut0]
  have hp1 : ∀ (x : F2) (w : World), (part 24 (PC x).toArray 6).run Tryd.prog w = .ok (.agg (FC x.c1).toArray) w := fun x w => by
    simp [part, Sem.run_bind, Tryd.isAgg24, Tryd.sizeOf24, cut1]
  unfold PV
  rw [show d + 3 = (d + 2) + 1 from rfl, Op.equalIn.eq_def]
  simp only [Sem.run_bind, run_underlying Tryd.underlying26, Result.andThen_ok]
  simp only [Std.Legacy.Range.forIn_eq_forIn_range', Std.Legacy.Range.size, Nat.sub_zero, Nat.add_sub_cancel, Nat.div_one, List.range'_succ, List.range'_zero, List.forIn_cons, List.forIn_nil]
  simp only [Sem.run_bind, Tryd.sizeOf24, Result.andThen_ok, Nat.zero_mul, Nat.reduceAdd, Nat.reduceMul, Nat.one_mul, hp0, hp1, hE]
  by_cases h0 : x.c0 = y.c0
  · by_cases h1 : x.c1 = y.c1
    · have : x = y := F2.ext' h0 h1
      simp [h0, h1, this, hp0, hp1, hE]
    · have : x ≠ y := fun e => h1 (by rw [e])
      simp [h0, h1, this, hp0, hp1, hE]
  · have : x ≠ y := fun e => h0 (by rw [e])
    simp [h0, this, hp0, hp1, hE]

theorem guardF (op : BinOp) (x y : Operand) (a b : F) (w : World) : (eqGuard op 24 x y (FV a) (FV b)).run Tryd.prog w = .ok () w := by
  have h : Tryd.prog.eqGuardType Tryd.prog.depth 24 = false := by kernel_rfl
  unfold eqGuard FV
  cases op <;> simp [Sem.run_bind, h]
theorem guardP (op : BinOp) (x y : Operand) (a b : F2) (w : World) : (eqGuard op 26 x y (PV a) (PV b)).run Tryd.prog w = .ok () w := by
  have h : Tryd.prog.eqGuardType Tryd.prog.depth 26 = false := by kernel_rfl
  unfold eqGuard PV
  cases op <;> simp [Sem.run_bind, h]
theorem guardI (op : BinOp) (t : TypeId) (x y : Operand) (k k' : IntKind) (m n : Int) (w : World) : (eqGuard op t x y (.int k m) (.int k' n)).run Tryd.prog w = .ok () w := by
  unfold eqGuard
  cases op <;> simp [Sem.run_bind]
theorem guardB (op : BinOp) (t : TypeId) (x y : Operand) (m n : Bool) (w : World) : (eqGuard op t x y (.bool m) (.bool n)).run Tryd.prog w = .ok () w := by
  unfold eqGuard
  cases op <;> simp [Sem.run_bind]

theorem eqlF (a b : F) (w : World) : (binOp .eql 24 (FV a) (FV b)).run Tryd.prog w = .ok (.bool (decide (a = b))) w := by
  have := eqF 9998 a b w
  unfold FV at *
  simp [binOp, Sem.run_bind, Op.equal, Op.maxDepth, this]
theorem neqF (a b : F) (w : World) : (binOp .neq 24 (FV a) (FV b)).run Tryd.prog w = .ok (.bool (!decide (a = b))) w := by
  have := eqF 9998 a b w
  unfold FV at *
  simp [binOp, Sem.run_bind, Op.equal, Op.maxDepth, this]
theorem eqlP (a b : F2) (w : World) : (binOp .eql 26 (PV a) (PV b)).run Tryd.prog w = .ok (.bool (decide (a = b))) w := by
  have := eqP 9997 a b w
  unfold PV at *
  simp [binOp, Sem.run_bind, Op.equal, Op.maxDepth, this]
theorem neqP (a b : F2) (w : World) : (binOp .neq 26 (PV a) (PV b)).run Tryd.prog w = .ok (.bool (!decide (a = b))) w := by
  have := eqP 9997 a b w
  unfold PV at *
  simp [binOp, Sem.run_bind, Op.equal, Op.maxDepth, this]
theorem equalB (a b : Bool) (w : World) : (Op.equal 4 (.bool a) (.bool b)).run Tryd.prog w = .ok (a == b) w := by
  unfold Op.equal
  rw [show Op.maxDepth = 9999 + 1 from rfl, Op.equalIn.eq_def]
  simp only [Sem.run_bind, run_underlying Tryd.underlying4, Result.andThen_ok, Sem.run_pure]
theorem eqlB (a b : Bool) (w : World) : (binOp .eql 4 (.bool a) (.bool b)).run Tryd.prog w = .ok (.bool (a == b)) w := by
  simp [binOp, Sem.run_bind, equalB]
theorem eqlI (t : TypeId) (k : IntKind) (a b : Int) (w : World) : (binOp .eql t (.int k a) (.int k b)).run Tryd.prog w = .ok (.bool (decide (a = b))) w := by
  by_cases h : a = b <;> simp [binOp, Sem.run_bind, Op.intCmp, h]
theorem neqI (t : TypeId) (k : IntKind) (a b : Int) (w : World) : (binOp .neq t (.int k a) (.int k b)).run Tryd.prog w = .ok (.bool (!decide (a = b))) w := by
  by_cases h : a = b <;> simp [binOp, Sem.run_bind, Op.intCmp, h]

theorem zeroF : (Tryd.prog.info? 24).bind (·.zero) = some (.agg (FC 0).toArray) := by kernel_rfl
theorem zeroP : (Tryd.prog.info? 26).bind (·.zero) = some (.agg (PC 0).toArray) := by kernel_rfl
theorem sizeF : (Tryd.prog.info? 24).map (·.size) = some 6 := by kernel_rfl
theorem sizeP : (Tryd.prog.info? 26).map (·.size) = some 12 := by kernel_rfl

theorem buildF0 (w : World) : (Instr.build 24 #[]).run Tryd.prog w = .ok (FV 0) w :=
  run_build_array (sz := 1) (cs := FC 0) Tryd.underlying24 (by kernel_rfl) zeroF rfl w
theorem buildF1 (w : World) : (Instr.build 24 #[(0, .int .u64 1)]).run Tryd.prog w = .ok (FV 1) w :=
  run_build_array (sz := 1) (cs := FC 1) Tryd.underlying24 (by kernel_rfl) zeroF (by kernel_rfl) w
/-- Limbs that may be anything. -/
def QC (f : Nat → Int) : List Value := [.int .u64 (f 0), .int .u64 (f 1), .int .u64 (f 2), .int .u64 (f 3), .int .u64 (f 4), .int .u64 (f 5)]
def QV (f : Nat → Int) : Value := .agg (QC f).toArray
def QC2 (f g : Nat → Int) : List Value := QC f ++ QC g
def QV2 (f g : Nat → Int) : Value := .agg (QC2 f g).toArray
theorem QV2_of {f g : Nat → Int} {x : F2} (h0 : frv f = FV x.c0) (h1 : frv g = FV x.c1) : QV2 f g = PV x := by
  have e0 : QC f = FC x.c0 := by
    have : (QC f).toArray = (FC x.c0).toArray := by injection h0
    simpa using this
  have e1 : QC g = FC x.c1 := by
    have : (QC g).toArray = (FC x.c1).toArray := by injection h1
    simpa using this
  unfold QV2 QC2 PV PC
  rw [e0, e1]
theorem spl0 (a : F) (x : F2) : Pl.splice (PC x) 0 (FC a) = PC ⟨a, x.c1⟩ := rfl
theorem spl1 (a : F) (x : F2) : Pl.splice (PC x) 6 (FC a) = PC ⟨x.c0, a⟩ := rfl
theorem buildP0 (w : World) : (Instr.build 26 #[]).run Tryd.prog w = .ok (PV 0) w :=
  run_build_array (cs := PC 0) Tryd.underlying26 sizeF zeroP rfl w
theorem buildPa (a : F) (w : World) : (Instr.build 26 #[(0, FV a)]).run Tryd.prog w = .ok (PV ⟨a, 0⟩) w :=
  run_build_array (cs := PC ⟨a, 0⟩) Tryd.underlying26 sizeF zeroP (by
    show Instr.fill _ (PC 0).toArray [(0, .agg (FC a).toArray)] = _
    rw [fill_cons (off := 0) (sz := 6) rfl (FC_len a) (by rw [PC_len]; omega), spl0]; rfl) w
theorem buildP (a b : F) (w : World) : (Instr.build 26 #[(0, FV a), (1, FV b)]).run Tryd.prog w = .ok (PV ⟨a, b⟩) w :=
  run_build_array (cs := PC ⟨a, b⟩) Tryd.underlying26 sizeF zeroP (by
    show Instr.fill _ (PC 0).toArray [(0, .agg (FC a).toArray), (1, .agg (FC b).toArray)] = _
    rw [fill_cons (off := 0) (sz := 6) rfl (FC_len a) (by rw [PC_len]; omega), spl0, fill_cons (off := 6) (sz := 6) rfl (FC_len b) (by rw [PC_len]; omega), spl1]; rfl) w
theorem sizeFC (a : F) : (Tryd.prog.info? 24).map (·.size) = some (FC a).length := by rw [FC_len]; exact sizeF
theorem sizePC (a : F2) : (Tryd.prog.info? 26).map (·.size) = some (PC a).length := by rw [PC_len]; exact sizeP
theorem QC_len (f : Nat → Int) : (QC f).length = 6 := rfl
theorem QC2_len (f g : Nat → Int) : (QC2 f g).length = 12 := rfl
theorem sizeQC (f : Nat → Int) : (Tryd.prog.info? 24).map (·.size) = some (QC f).length := by rw [QC_len]; exact sizeF
theorem sizeQC2 (f g : Nat → Int) : (Tryd.prog.info? 26).map (·.size) = some (QC2 f g).length := by rw [QC2_len]; exact sizeP
theorem one_mk : (⟨1, 0⟩ : F2) = 1 := rfl
theorem ofN1 : (Fin.ofNat RN 1 : F) = 1 := by kernel_rfl
theorem ofN2 : (Fin.ofNat RN 2 : F) = 2 := by kernel_rfl
theorem partF2_0 {w : World} {b : Nat} {x : F2} (h : Box w b (PC x)) : w.rangeAt b 0 (FC x.c0) := box_part (pre := []) (post := FC x.c1) h rfl
theorem partF2_1 {w : World} {b : Nat} {x : F2} (h : Box w b (PC x)) : w.rangeAt b 6 (FC x.c1) := box_part (pre := FC x.c0) (post := []) h rfl
theorem partQ2_0 {w : World} {b : Nat} {f g : Nat → Int} (h : Box w b (QC2 f g)) : w.rangeAt b 0 (QC f) := box_part (pre := []) (post := QC g) h rfl
theorem partQ2_1 {w : World} {b : Nat} {f g : Nat → Int} (h : Box w b (QC2 f g)) : w.rangeAt b 6 (QC g) := box_part (pre := QC f) (post := []) h rfl
theorem FpK.of1 {G : World → Prop} (K : FpK G) (w : World) (hg : G w) : Calls Tryd.prog 48 #[.int .u64 1] w (Ret (FV 1) w) := by
  have h := K.of 1 w (by decide) hg
  rw [ofN1] at h
  exact h
theorem RefK.of1 (R : RefK) (w : World) : Calls Tryd.prog 46 #[.int .u64 1] w (Ret (FV 1) w) := by
  have h := R.of 1 w (by decide) trivial
  rw [ofN1] at h
  exact h
theorem RefK.of2 (R : RefK) (w : World) : Calls Tryd.prog 46 #[.int .u64 2] w (Ret (FV 2) w) := by
  have h := R.of 2 w (by decide) trivial
  rw [ofN2] at h
  exact h
end Go.Proofs.YtgoghcmnnhglhaaDoor.fpn

/- A region goes by its plan, what is left written out; a function's results. No program is named here. -/
namespace Go.Proofs.YtgoghcmnnhglhaaDoor.Pl
open Go Go.RowKit
set_option linter.unusedVariables false
set_option linter.unusedSimpArgs false

section
variable {P : Program} {ops : Array Oper} {ks : List Kind} {T : List Nat} {a0 : Act} {B : Nat} {w0 W0 : World} {H : List (Nat × List Value)} {Q : Exit → Act → World → Prop}

theorem Heap.start (w : World) : Heap w.heap.size w w [] := ⟨Below.refl _ _, fun p hp => (by cases hp), List.nodup_nil, Nat.le_refl _⟩
theorem Heap.bound {b : Nat} {cs : List Value} (h : Heap B w0 W0 H) (k : Nat) (hk : H[k]? = some (b, cs)) : B ≤ b ∧ Box W0 b cs := h.box (b, cs) (List.mem_of_getElem? hk)

theorem draws {id nt nh : Nat} {A : Lt → List Value} {H' : Lt → List (Nat × List Value)} (hm : P.follows .mixedOrders = true) (hc : chk ops ks T nt nh = true) (hnt : nt = a0.tmps.size) (hnh : nh = H.length) (hdf : a0.defers = [])
    (hA : ∀ L, (List.range nt).map (slotF ops ks a0 L) = A L) (hF : ∀ L, heapF ks H L = H' L) (hHp : Heap B w0 W0 H) (hob : AllOb P ops ks T a0 B w0 H 0 ops.toList)
    (hQ : ∀ L w, Heap B w0 w (H' L) → Q .normal { tmps := (A L).toArray, defers := [] } w) :
    (Code.region id ops true).wp P Q a0 W0 :=
  drawn hm hc hnt hnh hHp hob fun L w h _ => by
    rw [← hnt, hA L, hdf]
    exact hQ L w (hF L ▸ h)

theorem goes {id nt nh : Nat} {A : Lt → List Value} {H' : Lt → List (Nat × List Value)} (hc : chk ops ks T nt nh = true) (hnt : nt = a0.tmps.size) (hnh : nh = H.length) (hdf : a0.defers = [])
    (hA : ∀ L, (List.range nt).map (slotF ops ks a0 L) = A L) (hF : ∀ L, heapF ks H L = H' L) (hHp : Heap B w0 W0 H) (hob : AllOb P ops ks T a0 B w0 H 0 ops.toList)
    (hQ : ∀ L w, Heap B w0 w (H' L) → Q .normal { tmps := (A L).toArray, defers := [] } w) :
    (Code.region id ops false).wp P Q a0 W0 :=
  plain hc hnt hnh hHp hob fun L w h _ => by
    rw [← hnt, hA L, hdf]
    exact hQ L w (hF L ▸ h)

theorem then_exit {K : Act → World → Prop} {id : Nat} {a : Act} {w : World} (h : Q (.exit id) a w) : Exit.then K Q (.exit id) a w := h
theorem then_normal {K : Act → World → Prop} {a : Act} {w : World} (h : K a w) : Exit.then K Q .normal a w := h
theorem block_normal {id : Nat} {a : Act} {w : World} (h : Q .normal a w) : Exit.inBlock id Q .normal a w := h
theorem exit_in {id : Nat} {a : Act} {w : World} (h : Q .normal a w) : Exit.inBlock id Q (.exit id) a w := by simp only [Exit.inBlock, if_true]; exact h
theorem rounds_k {c : Code} {n : Nat} {a : Act} {w : World} (h : ∀ K : Exit → Act → World → Prop, (∀ e a w, Exit.then (Code.rounds P c Q n) Q e a w → K e a w) → c.wp P K a w) : Code.rounds P c Q (n + 1) a w := h _ fun _ _ _ h => h
theorem wp_block_k {c : Code} {id : Nat} {a : Act} {w : World} (h : ∀ K : Exit → Act → World → Prop, (∀ e a w, Exit.inBlock id Q e a w → K e a w) → c.wp P K a w) : (Code.block id c).wp P Q a w := wp_block (h _ fun _ _ _ h => h)
theorem skips {a : Act} {w : World} (h : Q .normal a w) : Code.skip.wp P Q a w := wp_skip h
/-- A function's results. -/
theorem res_t {fn : Func} {t : Nat} {tmps : Array Value} {v : Value} (hr : fn.results = #[.tmp t]) (ht : tmps.getD t undef = v) (w : World) : (results fn tmps).run P w = .ok v w := by
  unfold results
  simp only [hr]
  simp [Sem.run_bind, ht]
  simpa using ht
theorem res_c {fn : Func} {t b : Nat} {ty : TypeId} {tmps : Array Value} {cs : List Value} {d : TypeDesc} {w : World} (hr : fn.results = #[.cell t ty]) (ht : tmps.getD t undef = .pointer (some ⟨b, 0, none⟩)) (hb : Box w b cs)
    (hu : P.underlying ty = some d) (hd : d.isRow = true) (hi : (P.info? ty).map (·.size) = some cs.length) : (results fn tmps).run P w = .ok (.agg cs.toArray) w := by
  have ht2 : tmps[t]?.getD undef = .pointer (some ⟨b, 0, none⟩) := by simpa using ht
  have hl := run_loadVar_mid w b 0 ty cs d hb.cells hu hd hi
  unfold results
  simp only [hr]
  simp [Sem.run_bind, ht2, asAddr, hl]
theorem res_ct {fn : Func} {t b t' : Nat} {ty : TypeId} {tmps : Array Value} {cs : List Value} {d : TypeDesc} {v : Value} {w : World} (hr : fn.results = #[.cell t ty, .tmp t']) (ht : tmps.getD t undef = .pointer (some ⟨b, 0, none⟩)) (ht' : tmps.getD t' undef = v) (hb : Box w b cs)
    (hu : P.underlying ty = some d) (hd : d.isRow = true) (hi : (P.info? ty).map (·.size) = some cs.length) : (results fn tmps).run P w = .ok (.tuple #[.agg cs.toArray, v]) w := by
  have ht2 : tmps[t]?.getD undef = .pointer (some ⟨b, 0, none⟩) := by simpa using ht
  have ht3 : tmps[t']?.getD undef = v := by simpa using ht'
  have hl := run_loadVar_mid w b 0 ty cs d hb.cells hu hd hi
  unfold results
  simp only [hr]
  simp [Sem.run_bind, ht2, ht3, asAddr, hl]
end
end Go.Proofs.YtgoghcmnnhglhaaDoor.Pl

/- Add, bring, Of, P. -/
namespace Go.Proofs.YtgoghcmnnhglhaaDoor.fpn
open Go.RowKit
attribute [local go_sem ↓] Go.wp_at_zero Go.wp_at_succ
set_option linter.unusedVariables false

theorem bring_any (f : Nat → Int) (w : World) (rf : Rg f 6) (h2 : val f 6 < 2 * RI) :
    Calls Tryd.prog 58 #[.agg #[.int .u64 (f 0), .int .u64 (f 1), .int .u64 (f 2), .int .u64 (f 3), .int .u64 (f 4), .int .u64 (f 5)]] w fun e w' => ∃ h : Nat → Int, e = .returned (.agg #[.int .u64 (h 0), .int .u64 (h 1), .int .u64 (h 2), .int .u64 (h 3), .int .u64 (h 4), .int .u64 (h 5)]) ∧ Rg h 6 ∧ val h 6 = val f 6 % RI ∧ Below w.heap.size w w' := by
  have v1 := lessR_val rf
  have d1 := val_bd (df_rg f rL 6)
  have d0 := val_bd rf
  have hb := bw_bd f rL 6
  have hp := RI_pos
  have K := fun k hc => bring_at f (df f rL) k (bw f rL 6) w (fun w => less_any f rL w rf rL_rg) hc
  rcases (show bw f rL 6 = 0 ∨ bw f rL 6 = 1 by omega) with e | e
  · rw [e] at v1
    refine Calls.mono (K (df f rL) (Or.inl ⟨e, rfl⟩)) ?_
    rintro e' w' ⟨rfl, b⟩
    refine ⟨_, rfl, df_rg f rL 6, ?_, b⟩
    rw [show val f 6 = val (df f rL) 6 + RI by omega, Int.add_emod_right]
    exact (Int.emod_eq_of_lt d1.1 (by omega)).symm
  · rw [e] at v1
    refine Calls.mono (K f (Or.inr ⟨e, rfl⟩)) ?_
    rintro e' w' ⟨rfl, b⟩
    exact ⟨_, rfl, rf, (Int.emod_eq_of_lt d0.1 (by omega)).symm, b⟩

set_option maxHeartbeats 4000000 in
theorem frAdd_any (f g : Nat → Int) (w : World) (rf : Rg f 6) (rg : Rg g 6) (lf : val f 6 < RI) (lg : val g 6 < RI) :
    Calls Tryd.prog 35 #[.agg #[.int .u64 (f 0), .int .u64 (f 1), .int .u64 (f 2), .int .u64 (f 3), .int .u64 (f 4), .int .u64 (f 5)], .agg #[.int .u64 (g 0), .int .u64 (g 1), .int .u64 (g 2), .int .u64 (g 3), .int .u64 (g 4), .int .u64 (g 5)]] w fun e w' => ∃ h : Nat → Int, e = .returned (.agg #[.int .u64 (h 0), .int .u64 (h 1), .int .u64 (h 2), .int .u64 (h 3), .int .u64 (h 4), .int .u64 (h 5)]) ∧ Rg h 6 ∧ val h 6 = (val f 6 + val g 6) % RI ∧ Below w.heap.size w w' := by
  have V : val (sm f g 0) 6 = val f 6 + val g 6 := by
    rw [val_sm_lt rf rg ⟨by decide, by decide⟩ (by have : 2 * RI < pw 6 := by decide +kernel
                                                   omega)]
    omega
  have K : Hid _ := fun w => bring_any (sm f g 0) w (sm_rg f g 0 6) (by omega)
  rw [V] at K
  have KP : Hid _ := fun w => plus_any f g w rf rg
  obtain ⟨B1, z1, hF, hG, hR⟩ := three_all w f g 24
  unfold three at B1 z1 hF hG hR
  generalize sm f g 0 = s at *
  clear V rf rg lf lg
  go_enter Tryd.func35, Tryd.ntmps35
  go_wp2_with fail
  generalize ((w.alloc (.cells #[.int .u64 (f 0), .int .u64 (f 1), .int .u64 (f 2), .int .u64 (f 3), .int .u64 (f 4), .int .u64 (f 5)] 24)).alloc (.cells #[.int .u64 (g 0), .int .u64 (g 1), .int .u64 (g 2), .int .u64 (g 3), .int .u64 (g 4), .int .u64 (g 5)] 24)).alloc (.cells #[.int .u64 0, .int .u64 0, .int .u64 0, .int .u64 0, .int .u64 0, .int .u64 0] 24) = W at *
  refine Calls.mono (KP.out _) ?_
  rintro e w1 ⟨rfl, b1⟩
  have hR1 := MutK.below hR b1 (by rw [z1]; omega)
  have B2 := Below.up B1 (Nat.le_refl _) b1
  clear hF hG hR b1
  go_wp2_with fail
  refine Calls.mono (K.out _) ?_
  rintro e w2 ⟨h, rfl, r2, v2, b2⟩
  have hR2 := MutK.below hR1 b2 (cell_lt (MutK.cells6 hR1).1)
  obtain ⟨y0, y1, y2, y3, y4, y5⟩ := MutK.cells6 hR2
  obtain ⟨q0, q1, q2, q3, q4, q5⟩ := MutK.free6 hR2
  have HB : Hid _ := Below.up B2 (Nat.le_refl _) b2
  have R2 : Hid _ := r2
  have V2 : Hid _ := v2
  clear b2 B1 B2 hR1 hR2 r2 v2 z1
  go_wp2
  refine bodyPost_ret (v := .agg #[.int .u64 (h 0), .int .u64 (h 1), .int .u64 (h 2), .int .u64 (h 3), .int .u64 (h 4), .int .u64 (h 5)]) (by simp [results, Tryd.results35, go_sem, y0, y1, y2, y3, y4, y5]) rfl ⟨h, rfl, R2.out, V2.out, ?_⟩
  exact below_set6 HB.out (by omega) _ _ _ _ _ _

theorem frOf_any (x : Int) (w : World) (hx : 0 ≤ x ∧ x < B64) : Calls Tryd.prog 48 #[.int .u64 x] w fun e w' => ∃ h : Nat → Int, e = .returned (.agg #[.int .u64 (h 0), .int .u64 (h 1), .int .u64 (h 2), .int .u64 (h 3), .int .u64 (h 4), .int .u64 (h 5)]) ∧ Rg h 6 ∧ val h 6 = x ∧ Below w.heap.size w w' := by
  have R1 := one_rg hx 6
  have V1 := val_one4 x
  clear hx
  go_enter Tryd.func48, Tryd.ntmps48
  go_wp2
  refine bodyPost_ret (v := .agg #[.int .u64 x, .int .u64 0, .int .u64 0, .int .u64 0, .int .u64 0, .int .u64 0]) (by simp [results, Tryd.results48, go_sem]) rfl ⟨one x, rfl, R1, V1, below_one _ _⟩

end Go.Proofs.YtgoghcmnnhglhaaDoor.fpn

/- What fr.times answers: Montgomery's product. -/
namespace Go.Proofs.YtgoghcmnnhglhaaDoor.fpn
open Go.RowKit
attribute [local go_sem ↓] Go.wp_at_zero Go.wp_at_succ
set_option linter.unusedVariables false

theorem idx6 (a b c d p q : Int) : (∀ w : World, (Instr.index 24 (.agg #[.int .u64 a, .int .u64 b, .int .u64 c, .int .u64 d, .int .u64 p, .int .u64 q]) (.int .i64 0)).run Tryd.prog w = .ok (.int .u64 a) w) ∧ (∀ w : World, (Instr.index 24 (.agg #[.int .u64 a, .int .u64 b, .int .u64 c, .int .u64 d, .int .u64 p, .int .u64 q]) (.int .i64 1)).run Tryd.prog w = .ok (.int .u64 b) w) ∧ (∀ w : World, (Instr.index 24 (.agg #[.int .u64 a, .int .u64 b, .int .u64 c, .int .u64 d, .int .u64 p, .int .u64 q]) (.int .i64 2)).run Tryd.prog w = .ok (.int .u64 c) w) ∧ (∀ w : World, (Instr.index 24 (.agg #[.int .u64 a, .int .u64 b, .int .u64 c, .int .u64 d, .int .u64 p, .int .u64 q]) (.int .i64 3)).run Tryd.prog w = .ok (.int .u64 d) w) ∧ (∀ w : World, (Instr.index 24 (.agg #[.int .u64 a, .int .u64 b, .int .u64 c, .int .u64 d, .int .u64 p, .int .u64 q]) (.int .i64 4)).run Tryd.prog w = .ok (.int .u64 p) w) ∧ (∀ w : World, (Instr.index 24 (.agg #[.int .u64 a, .int .u64 b, .int .u64 c, .int .u64 d, .int .u64 p, .int .u64 q]) (.int .i64 5)).run Tryd.prog w = .ok (.int .u64 q) w) := by
  have u := Tryd.underlying24
  have a3 := Tryd.isAgg22
  have z3 := Tryd.sizeOf22
  refine ⟨fun w => ?_, fun w => ?_, fun w => ?_, fun w => ?_, fun w => ?_, fun w => ?_⟩ <;> simp [Instr.index, run_underlying u, asIntOf, go_sem]

/-- The multiple of R that is added. -/
def fm (s : Nat → Int) : Int := s 0 * 9940570264628428797 % B64
theorem fm_bd (s : Nat → Int) : 0 ≤ fm s ∧ fm s < B64 := ⟨Int.emod_nonneg _ (by rw [B64_eq]; decide), Int.emod_lt_of_pos _ B64_pos⟩
theorem fm_zero (s : Nat → Int) : tm s rL (fm s) 0 = 0 := by
  unfold tm fm
  rw [show rL 0 = 13402431016077863595 from rfl, show ct s rL (s 0 * 9940570264628428797 % B64) 0 = 0 from rfl, Int.add_zero, Int.add_emod, mul_mod_r, ← Int.add_emod]
  rw [show (13402431016077863595 : Int) * (s 0 * 9940570264628428797) + s 0 = B64 * (s 0 * 7222293901829252101) by rw [B64_eq]; omega]
  exact Int.mul_emod_right _ _

/-- One round. -/
def nt (t g : Nat → Int) (k : Int) : Nat → Int
  | 0 => tm (tm t g k) rL (fm (tm t g k)) 1
  | 1 => tm (tm t g k) rL (fm (tm t g k)) 2
  | 2 => tm (tm t g k) rL (fm (tm t g k)) 3
  | 3 => tm (tm t g k) rL (fm (tm t g k)) 4
  | 4 => tm (tm t g k) rL (fm (tm t g k)) 5
  | _ => ct t g k 6 + ct (tm t g k) rL (fm (tm t g k)) 6

theorem nt_val (t g : Nat → Int) (k : Int) : val (nt t g k) 6 * B64 = val t 6 + val g 6 * k + RI * fm (tm t g k) := by
  have e1 := val_tm t g k 6
  have e2 := val_tm (tm t g k) rL (fm (tm t g k)) 6
  have z := fm_zero (tm t g k)
  rw [rL_val] at e2
  simp only [val, pw, nt, z] at e1 e2 ⊢
  generalize fm (tm t g k) = m at *
  generalize tm (tm t g k) rL m 1 = a1 at *
  generalize tm (tm t g k) rL m 2 = a2 at *
  generalize tm (tm t g k) rL m 3 = a3 at *
  generalize tm (tm t g k) rL m 4 = a4 at *
  generalize tm (tm t g k) rL m 5 = a5 at *
  generalize ct (tm t g k) rL m 6 = c2 at *
  generalize ct t g k 6 = c1 at *
  generalize tm t g k 0 = s0 at *
  generalize tm t g k 1 = s1 at *
  generalize tm t g k 2 = s2 at *
  generalize tm t g k 3 = s3 at *
  generalize tm t g k 4 = s4 at *
  generalize tm t g k 5 = s5 at *
  grind

theorem mulAdd_ct (t g : Nat → Int) (k : Int) (i : Nat) (w : World) (hk : 0 ≤ k ∧ k < B64) (rt : Rg t (i + 1)) (rg : Rg g (i + 1)) :
    Calls Tryd.prog 79 #[.int .u64 k, .int .u64 (g i), .int .u64 (t i), .int .u64 (ct t g k i)] w fun e w' => e = .returned (.tuple #[.int .u64 (ct t g k (i + 1)), .int .u64 (tm t g k i)]) ∧ w' = w := by
  have := mulAdd_any k (g i) (t i) (ct t g k i) w hk (rg i (by omega)) (rt i (by omega)) (ct_bd (rt.mono (by omega)) (rg.mono (by omega)) hk)
  rw [Int.mul_comm k] at this
  exact this

/-- What the rounds keep. -/
def TJ (f g t : Nat → Int) (j : Nat) : Prop := Rg t 6 ∧ ∃ Q : Int, val t 6 * pw j = val f j * val g 6 + Q * RI ∧ 0 ≤ Q ∧ Q < pw j

theorem TJ.lt {f g t : Nat → Int} {j : Nat} (h : TJ f g t j) (rf : Rg f j) (rg : Rg g 6) (lg : val g 6 < RI) : val t 6 < 2 * RI := by
  obtain ⟨-, Q, h1, h2, h3⟩ := h
  exact mont_lt h1 (val_bd rf) ⟨(val_bd rg).1, lg⟩ ⟨h2, h3⟩

theorem nt_top {t g : Nat → Int} {k : Int} (rt : Rg t 6) (rg : Rg g 6) (hk : 0 ≤ k ∧ k < B64) (h : val (nt t g k) 6 < 2 * RI) : 0 ≤ nt t g k 5 ∧ nt t g k 5 < B64 := by
  have c1 := (ct_bd rt rg hk).1
  have c2 := (ct_bd (tm_rg t g k 6) rL_rg (fm_bd (tm t g k))).1
  have a0 := (tm_rg (tm t g k) rL (fm (tm t g k)) 6 1 (by omega)).1
  have a1 := (tm_rg (tm t g k) rL (fm (tm t g k)) 6 2 (by omega)).1
  have a2 := (tm_rg (tm t g k) rL (fm (tm t g k)) 6 3 (by omega)).1
  have a3 := (tm_rg (tm t g k) rL (fm (tm t g k)) 6 4 (by omega)).1
  have a4 := (tm_rg (tm t g k) rL (fm (tm t g k)) 6 5 (by omega)).1
  simp only [val, pw] at h
  have e0 : nt t g k 0 = tm (tm t g k) rL (fm (tm t g k)) 1 := rfl
  have e1 : nt t g k 1 = tm (tm t g k) rL (fm (tm t g k)) 2 := rfl
  have e2 : nt t g k 2 = tm (tm t g k) rL (fm (tm t g k)) 3 := rfl
  have e3 : nt t g k 3 = tm (tm t g k) rL (fm (tm t g k)) 4 := rfl
  have e4 : nt t g k 4 = tm (tm t g k) rL (fm (tm t g k)) 5 := rfl
  have e5 : nt t g k 5 = ct t g k 6 + ct (tm t g k) rL (fm (tm t g k)) 6 := rfl
  rw [← e0] at a0
  rw [← e1] at a1
  rw [← e2] at a2
  rw [← e3] at a3
  rw [← e4] at a4
  generalize nt t g k 0 = x0 at *
  generalize nt t g k 1 = x1 at *
  generalize nt t g k 2 = x2 at *
  generalize nt t g k 3 = x3 at *
  generalize nt t g k 4 = x4 at *
  generalize nt t g k 5 = x5 at *
  unfold RI at h
  rw [B64_eq] at *
  refine ⟨by omega, by omega⟩

theorem TJ.next {f g t : Nat → Int} {j : Nat} (h : TJ f g t j) (rf : Rg f (j + 1)) (rg : Rg g 6) (lg : val g 6 < RI) : TJ f g (nt t g (f j)) (j + 1) := by
  obtain ⟨rt, Q, h1, h2, h3⟩ := h
  have hk := rf j (by omega)
  have e := rd_inv h1 (nt_val t g (f j))
  have q := rd_q h2 h3 (fm_bd (tm t g (f j))).1 (fm_bd (tm t g (f j))).2 (pw_pos j)
  have l : val (nt t g (f j)) 6 < 2 * RI := mont_lt (p := pw (j + 1)) e (val_bd rf) ⟨(val_bd rg).1, lg⟩ q
  refine ⟨fun i hi => ?_, _, e, q⟩
  rcases (show i = 0 ∨ i = 1 ∨ i = 2 ∨ i = 3 ∨ i = 4 ∨ i = 5 by omega) with rfl | rfl | rfl | rfl | rfl | rfl
  · exact tm_rg (tm t g (f j)) rL (fm (tm t g (f j))) 6 1 (by omega)
  · exact tm_rg (tm t g (f j)) rL (fm (tm t g (f j))) 6 2 (by omega)
  · exact tm_rg (tm t g (f j)) rL (fm (tm t g (f j))) 6 3 (by omega)
  · exact tm_rg (tm t g (f j)) rL (fm (tm t g (f j))) 6 4 (by omega)
  · exact tm_rg (tm t g (f j)) rL (fm (tm t g (f j))) 6 5 (by omega)
  · exact nt_top rt rg hk l

theorem TJ.zero (f g : Nat → Int) : TJ f g Z 0 := ⟨Z_rg 6, 0, by rw [val_Z]; simp [val], Int.le_refl _, by simp [pw]⟩

/-- The carries' sum does not wrap. -/
theorem nt_wrap {f g t : Nat → Int} {j : Nat} (h : TJ f g t j) (rf : Rg f (j + 1)) (rg : Rg g 6) (lg : val g 6 < RI) : IntKind.u64.wrap (ct t g (f j) 6 + ct (tm t g (f j)) rL (fm (tm t g (f j))) 6) = nt t g (f j) 5 := by
  have := (h.next rf rg lg).1 5 (by omega)
  rw [IntKind.wrap_u64]
  rw [B64_eq] at this
  exact Int.emod_eq_of_lt this.1 this.2

set_option maxRecDepth 8000 in
set_option maxHeartbeats 4000000 in
theorem times_any (f g : Nat → Int) (w : World) (rf : Rg f 6) (rg : Rg g 6) (lg : val g 6 < RI) :
    Calls Tryd.prog 63 #[.agg #[.int .u64 (f 0), .int .u64 (f 1), .int .u64 (f 2), .int .u64 (f 3), .int .u64 (f 4), .int .u64 (f 5)], .agg #[.int .u64 (g 0), .int .u64 (g 1), .int .u64 (g 2), .int .u64 (g 3), .int .u64 (g 4), .int .u64 (g 5)]] w fun e w' => ∃ h : Nat → Int, e = .returned (.agg #[.int .u64 (h 0), .int .u64 (h 1), .int .u64 (h 2), .int .u64 (h 3), .int .u64 (h 4), .int .u64 (h 5)]) ∧ Rg h 6 ∧ val h 6 < RI ∧ val h 6 * pw 6 % RI = val f 6 * val g 6 % RI ∧ Below w.heap.size w w' := by
  obtain ⟨B1, z1, hF, hG, hR⟩ := three_all w f g 24
  have hG4 := at6 hG
  unfold three at B1 z1 hF hG hR hG4
  go_enter Tryd.func63, Tryd.ntmps63
  go_wp2
  generalize ((w.alloc (.cells #[.int .u64 (f 0), .int .u64 (f 1), .int .u64 (f 2), .int .u64 (f 3), .int .u64 (f 4), .int .u64 (f 5)] 24)).alloc (.cells #[.int .u64 (g 0), .int .u64 (g 1), .int .u64 (g 2), .int .u64 (g 3), .int .u64 (g 4), .int .u64 (g 5)] 24)).alloc (.cells #[.int .u64 0, .int .u64 0, .int .u64 0, .int .u64 0, .int .u64 0, .int .u64 0] 24) = W at *
  have HB : Hid _ := B1
  have HR : Hid _ := hR
  have Z1 : Hid _ := z1
  have RF : Hid _ := rf
  have RG : Hid _ := rg
  have LG : Hid _ := lg
  obtain ⟨g0, g1, g2, g3, g4, g5⟩ := hG4
  clear hF hG hR B1 z1 rf rg lg
  go_loopw [5, 6, 7, 8, 9, 10, 24] (fun a b c d p q i wr => ∃ (j : Nat) (t : Nat → Int), j ≤ 6 ∧ a = .int .u64 (t 0) ∧ b = .int .u64 (t 1) ∧ c = .int .u64 (t 2) ∧ d = .int .u64 (t 3) ∧ p = .int .u64 (t 4) ∧ q = .int .u64 (t 5) ∧ i = .int .i64 j ∧ TJ f g t j ∧ wr = W) (fun _ _ _ _ _ _ i _ => 6 - (intOf i).toNat)
  case atStart => exact ⟨0, Z, by omega, rfl, rfl, rfl, rfl, rfl, rfl, rfl, TJ.zero f g, rfl⟩
  case round =>
    obtain ⟨j, t, hj, rfl, rfl, rfl, rfl, rfl, rfl, rfl, ht, rfl⟩ := hrel
    by_cases hlt : j < 6
    · have hk := RF.out j hlt
      have rt := ht.1
      have rgg := RG.out
      have M0 : ∀ w, Calls Tryd.prog 79 #[.int .u64 (f j), .int .u64 (g 0), .int .u64 (t 0), .int .u64 0] w fun e w' => e = .returned (.tuple #[.int .u64 (ct t g (f j) 1), .int .u64 (tm t g (f j) 0)]) ∧ w' = w := fun w => mulAdd_ct t g (f j) 0 w hk (Rg.mono rt (by omega)) (Rg.mono rgg (by omega))
      have M1 : ∀ w, Calls Tryd.prog 79 #[.int .u64 (f j), .int .u64 (g 1), .int .u64 (t 1), .int .u64 (ct t g (f j) 1)] w fun e w' => e = .returned (.tuple #[.int .u64 (ct t g (f j) 2), .int .u64 (tm t g (f j) 1)]) ∧ w' = w := fun w => mulAdd_ct t g (f j) 1 w hk (Rg.mono rt (by omega)) (Rg.mono rgg (by omega))
      have M2 : ∀ w, Calls Tryd.prog 79 #[.int .u64 (f j), .int .u64 (g 2), .int .u64 (t 2), .int .u64 (ct t g (f j) 2)] w fun e w' => e = .returned (.tuple #[.int .u64 (ct t g (f j) 3), .int .u64 (tm t g (f j) 2)]) ∧ w' = w := fun w => mulAdd_ct t g (f j) 2 w hk (Rg.mono rt (by omega)) (Rg.mono rgg (by omega))
      have M3 : ∀ w, Calls Tryd.prog 79 #[.int .u64 (f j), .int .u64 (g 3), .int .u64 (t 3), .int .u64 (ct t g (f j) 3)] w fun e w' => e = .returned (.tuple #[.int .u64 (ct t g (f j) 4), .int .u64 (tm t g (f j) 3)]) ∧ w' = w := fun w => mulAdd_ct t g (f j) 3 w hk (Rg.mono rt (by omega)) (Rg.mono rgg (by omega))
      have M4 : ∀ w, Calls Tryd.prog 79 #[.int .u64 (f j), .int .u64 (g 4), .int .u64 (t 4), .int .u64 (ct t g (f j) 4)] w fun e w' => e = .returned (.tuple #[.int .u64 (ct t g (f j) 5), .int .u64 (tm t g (f j) 4)]) ∧ w' = w := fun w => mulAdd_ct t g (f j) 4 w hk (Rg.mono rt (by omega)) (Rg.mono rgg (by omega))
      have M5 : ∀ w, Calls Tryd.prog 79 #[.int .u64 (f j), .int .u64 (g 5), .int .u64 (t 5), .int .u64 (ct t g (f j) 5)] w fun e w' => e = .returned (.tuple #[.int .u64 (ct t g (f j) 6), .int .u64 (tm t g (f j) 5)]) ∧ w' = w := fun w => mulAdd_ct t g (f j) 5 w hk (Rg.mono rt (by omega)) (Rg.mono rgg (by omega))
      have N0 : ∀ w, Calls Tryd.prog 79 #[.int .u64 (fm (tm t g (f j))), .int .u64 13402431016077863595, .int .u64 (tm t g (f j) 0), .int .u64 0] w fun e w' => e = .returned (.tuple #[.int .u64 (ct (tm t g (f j)) rL (fm (tm t g (f j))) 1), .int .u64 (tm (tm t g (f j)) rL (fm (tm t g (f j))) 0)]) ∧ w' = w := fun w => mulAdd_ct (tm t g (f j)) rL (fm (tm t g (f j))) 0 w (fm_bd _) (tm_rg _ _ _ _) (Rg.mono rL_rg (by omega))
      have N1 : ∀ w, Calls Tryd.prog 79 #[.int .u64 (fm (tm t g (f j))), .int .u64 2210141511517208575, .int .u64 (tm t g (f j) 1), .int .u64 (ct (tm t g (f j)) rL (fm (tm t g (f j))) 1)] w fun e w' => e = .returned (.tuple #[.int .u64 (ct (tm t g (f j)) rL (fm (tm t g (f j))) 2), .int .u64 (tm (tm t g (f j)) rL (fm (tm t g (f j))) 1)]) ∧ w' = w := fun w => mulAdd_ct (tm t g (f j)) rL (fm (tm t g (f j))) 1 w (fm_bd _) (tm_rg _ _ _ _) (Rg.mono rL_rg (by omega))
      have N2 : ∀ w, Calls Tryd.prog 79 #[.int .u64 (fm (tm t g (f j))), .int .u64 7435674573564081700, .int .u64 (tm t g (f j) 2), .int .u64 (ct (tm t g (f j)) rL (fm (tm t g (f j))) 2)] w fun e w' => e = .returned (.tuple #[.int .u64 (ct (tm t g (f j)) rL (fm (tm t g (f j))) 3), .int .u64 (tm (tm t g (f j)) rL (fm (tm t g (f j))) 2)]) ∧ w' = w := fun w => mulAdd_ct (tm t g (f j)) rL (fm (tm t g (f j))) 2 w (fm_bd _) (tm_rg _ _ _ _) (Rg.mono rL_rg (by omega))
      have N3 : ∀ w, Calls Tryd.prog 79 #[.int .u64 (fm (tm t g (f j))), .int .u64 7239337960414712511, .int .u64 (tm t g (f j) 3), .int .u64 (ct (tm t g (f j)) rL (fm (tm t g (f j))) 3)] w fun e w' => e = .returned (.tuple #[.int .u64 (ct (tm t g (f j)) rL (fm (tm t g (f j))) 4), .int .u64 (tm (tm t g (f j)) rL (fm (tm t g (f j))) 3)]) ∧ w' = w := fun w => mulAdd_ct (tm t g (f j)) rL (fm (tm t g (f j))) 3 w (fm_bd _) (tm_rg _ _ _ _) (Rg.mono rL_rg (by omega))
      have N4 : ∀ w, Calls Tryd.prog 79 #[.int .u64 (fm (tm t g (f j))), .int .u64 5412103778470702295, .int .u64 (tm t g (f j) 4), .int .u64 (ct (tm t g (f j)) rL (fm (tm t g (f j))) 4)] w fun e w' => e = .returned (.tuple #[.int .u64 (ct (tm t g (f j)) rL (fm (tm t g (f j))) 5), .int .u64 (tm (tm t g (f j)) rL (fm (tm t g (f j))) 4)]) ∧ w' = w := fun w => mulAdd_ct (tm t g (f j)) rL (fm (tm t g (f j))) 4 w (fm_bd _) (tm_rg _ _ _ _) (Rg.mono rL_rg (by omega))
      have N5 : ∀ w, Calls Tryd.prog 79 #[.int .u64 (fm (tm t g (f j))), .int .u64 1873798617647539866, .int .u64 (tm t g (f j) 5), .int .u64 (ct (tm t g (f j)) rL (fm (tm t g (f j))) 5)] w fun e w' => e = .returned (.tuple #[.int .u64 (ct (tm t g (f j)) rL (fm (tm t g (f j))) 6), .int .u64 (tm (tm t g (f j)) rL (fm (tm t g (f j))) 5)]) ∧ w' = w := fun w => mulAdd_ct (tm t g (f j)) rL (fm (tm t g (f j))) 5 w (fm_bd _) (tm_rg _ _ _ _) (Rg.mono rL_rg (by omega))
      have hn := ht.next (Rg.mono RF.out (show j + 1 ≤ 6 by omega)) rgg LG.out
      have nw := nt_wrap ht (Rg.mono RF.out (show j + 1 ≤ 6 by omega)) rgg LG.out
      have hm : IntKind.u64.wrap (tm t g (f j) 0 * 9940570264628428797) = fm (tm t g (f j)) := by rw [IntKind.wrap_u64]; unfold fm; rw [B64_eq]
      have n0 : tm (tm t g (f j)) rL (fm (tm t g (f j))) 1 = nt t g (f j) 0 := rfl
      have n1 : tm (tm t g (f j)) rL (fm (tm t g (f j))) 2 = nt t g (f j) 1 := rfl
      have n2 : tm (tm t g (f j)) rL (fm (tm t g (f j))) 3 = nt t g (f j) 2 := rfl
      have n3 : tm (tm t g (f j)) rL (fm (tm t g (f j))) 4 = nt t g (f j) 3 := rfl
      have n4 : tm (tm t g (f j)) rL (fm (tm t g (f j))) 5 = nt t g (f j) 4 := rfl
      generalize nt t g (f j) = T at *
      generalize ct t g (f j) = c at *
      generalize tm t g (f j) = s at *
      generalize fm s = m at *
      generalize ct s rL m = d at *
      generalize tm s rL m = u at *
      rw [n0] at N1
      rw [n1] at N2
      rw [n2] at N3
      rw [n3] at N4
      rw [n4] at N5
      have K0 : Hid _ := M0
      have K1 : Hid _ := M1
      have K2 : Hid _ := M2
      have K3 : Hid _ := M3
      have K4 : Hid _ := M4
      have K5 : Hid _ := M5
      have L0 : Hid _ := N0
      have L1 : Hid _ := N1
      have L2 : Hid _ := N2
      have L3 : Hid _ := N3
      have L4 : Hid _ := N4
      have L5 : Hid _ := N5
      have HM : Hid _ := hm
      have HW : Hid _ := nw
      have HT : Hid _ := hn
      clear M0 N0 M1 N1 M2 N2 M3 N3 M4 N4 M5 N5 hm nw hn n0 n1 n2 n3 n4 hk rt rgg ht
      obtain ⟨i0, i1, i2, i3, i4, i5⟩ := idx6 (f 0) (f 1) (f 2) (f 3) (f 4) (f 5)
      rcases (show j = 0 ∨ j = 1 ∨ j = 2 ∨ j = 3 ∨ j = 4 ∨ j = 5 by omega) with rfl | rfl | rfl | rfl | rfl | rfl
      all_goals
        clear hj hlt
        go_wp2_with (first
          | (rw [HM.out]; go_at_call_of 79 (Value.int .u64 (s 0)); refine Calls.mono (L0.out _) ?_; rintro e w' ⟨rfl, rfl⟩)
          | (go_at_call_of 79 (Value.int .u64 (t 0)); refine Calls.mono (K0.out _) ?_; rintro e w' ⟨rfl, rfl⟩)
          | (go_at_call_of 79 (Value.int .u64 (t 1)); refine Calls.mono (K1.out _) ?_; rintro e w' ⟨rfl, rfl⟩)
          | (go_at_call_of 79 (Value.int .u64 (t 2)); refine Calls.mono (K2.out _) ?_; rintro e w' ⟨rfl, rfl⟩)
          | (go_at_call_of 79 (Value.int .u64 (t 3)); refine Calls.mono (K3.out _) ?_; rintro e w' ⟨rfl, rfl⟩)
          | (go_at_call_of 79 (Value.int .u64 (t 4)); refine Calls.mono (K4.out _) ?_; rintro e w' ⟨rfl, rfl⟩)
          | (go_at_call_of 79 (Value.int .u64 (t 5)); refine Calls.mono (K5.out _) ?_; rintro e w' ⟨rfl, rfl⟩)
          | (go_at_call_of 79 (Value.int .u64 (s 1)); refine Calls.mono (L1.out _) ?_; rintro e w' ⟨rfl, rfl⟩)
          | (go_at_call_of 79 (Value.int .u64 (s 2)); refine Calls.mono (L2.out _) ?_; rintro e w' ⟨rfl, rfl⟩)
          | (go_at_call_of 79 (Value.int .u64 (s 3)); refine Calls.mono (L3.out _) ?_; rintro e w' ⟨rfl, rfl⟩)
          | (go_at_call_of 79 (Value.int .u64 (s 4)); refine Calls.mono (L4.out _) ?_; rintro e w' ⟨rfl, rfl⟩)
          | (go_at_call_of 79 (Value.int .u64 (s 5)); refine Calls.mono (L5.out _) ?_; rintro e w' ⟨rfl, rfl⟩))
        rw [HW.out]
        go_roundw
        case rel => exact ⟨_, T, Nat.succ_le_of_lt (by decide), rfl, rfl, rfl, rfl, rfl, rfl, by go_num, HT.out, by first | trivial | rfl⟩
        case measure => simp [intOf]
    · have e : j = 6 := by omega
      subst e
      have K : Hid _ := fun w => bring_any t w ht.1 (ht.lt RF.out RG.out LG.out)
      obtain ⟨rt, Q, q1, -, -⟩ := ht
      have V : Hid (∀ x, x = val t 6 % RI → x < RI ∧ x * pw 6 % RI = val f 6 * val g 6 % RI) := fun x hx => by
        subst hx
        exact ⟨modR_lt _, by rw [mul_mod_l]; exact mont_mod q1⟩
      clear q1 rt
      go_wp2_with fail
      refine Calls.mono (K.out _) ?_
      rintro e w2 ⟨h, rfl, r2, v2, b2⟩
      obtain ⟨y0, y1, y2, y3, y4, y5⟩ := (MutK.below HR.out b2 (by rw [Z1.out]; omega)).cells6
      obtain ⟨x0, x1, x2, x3, x4, x5⟩ := (MutK.below HR.out b2 (by rw [Z1.out]; omega)).free6
      have HB2 : Hid _ := Below.up HB.out (Nat.le_refl _) b2
      have R2 : Hid _ := r2
      have V2 : Hid _ := V.out _ v2
      clear b2 r2 v2
      go_wp2
      refine bodyPost_ret (v := .agg #[.int .u64 (h 0), .int .u64 (h 1), .int .u64 (h 2), .int .u64 (h 3), .int .u64 (h 4), .int .u64 (h 5)]) (by simp [results, Tryd.results63, go_sem, y0, y1, y2, y3, y4, y5]) rfl ⟨h, rfl, R2.out, (V2.out).1, (V2.out).2, ?_⟩
      exact below_set6 HB2.out (by omega) _ _ _ _ _ _
end Go.Proofs.YtgoghcmnnhglhaaDoor.fpn

/- Great. -/
namespace Go.Proofs.YtgoghcmnnhglhaaDoor.fpn
open Go.RowKit
attribute [local go_sem ↓] Go.wp_at_zero Go.wp_at_succ
set_option linter.unusedVariables false

/-- (P - 1) / 2, its limbs. -/
def hL : Nat → Int
  | 0 => 15924587544893707605
  | 1 => 1105070755758604287
  | 2 => 12941209323636816658
  | 3 => 12843041017062132063
  | 4 => 2706051889235351147
  | 5 => 936899308823769933
  | _ => 0
theorem hL_rg : Rg hL 6 := fun i hi => by
  rcases (show i = 0 ∨ i = 1 ∨ i = 2 ∨ i = 3 ∨ i = 4 ∨ i = 5 by omega) with rfl | rfl | rfl | rfl | rfl | rfl <;> rw [B64_eq] <;> decide
theorem hL_val : val hL 6 = RI / 2 := by decide +kernel

/-- What the package's variables hold. -/
def Gl (w : World) : Prop := At w (some ⟨0, 0, none⟩) 6 hL ∧ At w (some ⟨1, 0, none⟩) 6 cL
theorem Gl.stay {w x : World} (h : Gl w) (b : Below w.heap.size w x) : Gl x := ⟨AtK.below h.1 b, AtK.below h.2 b⟩

set_option maxHeartbeats 4000000 in
theorem great_at (f h : Nat → Int) (c : Int) (r : Bool) (w : World) (hg : Gl w) (K : ∀ w, Calls Tryd.prog 53 #[.agg #[.int .u64 (hL 0), .int .u64 (hL 1), .int .u64 (hL 2), .int .u64 (hL 3), .int .u64 (hL 4), .int .u64 (hL 5)], .agg #[.int .u64 (f 0), .int .u64 (f 1), .int .u64 (f 2), .int .u64 (f 3), .int .u64 (f 4), .int .u64 (f 5)]] w fun e w' => e = .returned (.tuple #[.agg #[.int .u64 (h 0), .int .u64 (h 1), .int .u64 (h 2), .int .u64 (h 3), .int .u64 (h 4), .int .u64 (h 5)], .int .u64 c]) ∧ Below w.heap.size w w') (hc : Hid ((c = 0 ∧ r = false) ∨ (c = 1 ∧ r = true))) :
    Calls Tryd.prog 43 #[.agg #[.int .u64 (f 0), .int .u64 (f 1), .int .u64 (f 2), .int .u64 (f 3), .int .u64 (f 4), .int .u64 (f 5)]] w fun e w' => e = .returned (.bool r) ∧ Below w.heap.size w w' := by
  have HK : Hid _ := K
  clear K
  have B1 : Hid _ := below_one w (.cells #[.int .u64 (f 0), .int .u64 (f 1), .int .u64 (f 2), .int .u64 (f 3), .int .u64 (f 4), .int .u64 (f 5)] 24)
  obtain ⟨a0, a1, a2, a3, a4, a5⟩ := at6 hg.1
  have lt0 : 0 < w.heap.size := cell_lt a0
  clear hg
  go_enter Tryd.func43, Tryd.ntmps43
  go_wp2_with fail
  refine Calls.mono (HK.out _) ?_
  rintro e w2 ⟨rfl, b2⟩
  have HB : Hid _ := Below.up (Below.up B1.out (Nat.le_refl _) b2) (Nat.le_refl _) (below_one w2 (.cells #[.int .u64 (h 0), .int .u64 (h 1), .int .u64 (h 2), .int .u64 (h 3), .int .u64 (h 4), .int .u64 (h 5)] 24))
  clear b2 a0 a1 a2 a3 a4 a5 HK lt0
  rcases hc.out with ⟨rfl, rfl⟩ | ⟨rfl, rfl⟩
  · go_wp2
    go_ret
    exact ⟨rfl, HB.out⟩
  · go_wp2
    go_ret
    exact ⟨rfl, HB.out⟩

theorem frGreat_any (f : Nat → Int) (w : World) (hg : Gl w) (rf : Rg f 6) : Calls Tryd.prog 43 #[.agg #[.int .u64 (f 0), .int .u64 (f 1), .int .u64 (f 2), .int .u64 (f 3), .int .u64 (f 4), .int .u64 (f 5)]] w fun e w' => e = .returned (.bool (decide (RI / 2 < val f 6))) ∧ Below w.heap.size w w' := by
  have v1 := val_df hL_rg rf
  have d1 := val_bd (df_rg hL f 6)
  have d0 := val_bd rf
  have d2 := val_bd hL_rg
  have hb := bw_bd hL f 6
  have hp : 0 < RI := RI_pos
  rw [hL_val] at v1 d2
  refine great_at f (df hL f) (bw hL f 6) _ w hg (fun w => less_any hL f w hL_rg rf) ?_
  show _ ∨ _
  rcases (show bw hL f 6 = 0 ∨ bw hL f 6 = 1 by omega) with e | e
  · left; rw [e] at v1; exact ⟨e, decide_eq_false (by omega)⟩
  · right; rw [e] at v1; exact ⟨e, decide_eq_true (by omega)⟩

end Go.Proofs.YtgoghcmnnhglhaaDoor.fpn

/- May. -/
namespace Go.Proofs.YtgoghcmnnhglhaaDoor.fpn
open Go.RowKit
attribute [local go_sem ↓] Go.wp_at_zero Go.wp_at_succ
set_option linter.unusedVariables false

set_option maxHeartbeats 4000000 in
theorem may_at (f h : Nat → Int) (c : Int) (r : Bool) (w : World) (K : ∀ w, Calls Tryd.prog 53 #[.agg #[.int .u64 (f 0), .int .u64 (f 1), .int .u64 (f 2), .int .u64 (f 3), .int .u64 (f 4), .int .u64 (f 5)], .agg #[.int .u64 (rL 0), .int .u64 (rL 1), .int .u64 (rL 2), .int .u64 (rL 3), .int .u64 (rL 4), .int .u64 (rL 5)]] w fun e w' => e = .returned (.tuple #[.agg #[.int .u64 (h 0), .int .u64 (h 1), .int .u64 (h 2), .int .u64 (h 3), .int .u64 (h 4), .int .u64 (h 5)], .int .u64 c]) ∧ Below w.heap.size w w') (hc : Hid ((c = 0 ∧ r = false) ∨ (c = 1 ∧ r = true))) :
    Calls Tryd.prog 30 #[.agg #[.int .u64 (f 0), .int .u64 (f 1), .int .u64 (f 2), .int .u64 (f 3), .int .u64 (f 4), .int .u64 (f 5)]] w fun e w' => e = .returned (.bool r) ∧ Below w.heap.size w w' := by
  have HK : Hid _ := K
  clear K
  have B1 := below_one w (.cells #[.int .u64 (f 0), .int .u64 (f 1), .int .u64 (f 2), .int .u64 (f 3), .int .u64 (f 4), .int .u64 (f 5)] 24)
  have hF := mut_four w f 24
  have z1 := World.size_alloc w (.cells #[.int .u64 (f 0), .int .u64 (f 1), .int .u64 (f 2), .int .u64 (f 3), .int .u64 (f 4), .int .u64 (f 5)] 24)
  go_enter Tryd.func30, Tryd.ntmps30
  go_wp2_with fail
  generalize w.alloc (.cells #[.int .u64 (f 0), .int .u64 (f 1), .int .u64 (f 2), .int .u64 (f 3), .int .u64 (f 4), .int .u64 (f 5)] 24) = W at *
  have HS : Hid (∀ x, Below W.heap.size W x → (x.cell? ⟨w.heap.size, 0, none⟩ = some (.int .u64 (f 0)) ∧ x.cell? ⟨w.heap.size, 1, none⟩ = some (.int .u64 (f 1)) ∧ x.cell? ⟨w.heap.size, 2, none⟩ = some (.int .u64 (f 2)) ∧ x.cell? ⟨w.heap.size, 3, none⟩ = some (.int .u64 (f 3)) ∧ x.cell? ⟨w.heap.size, 4, none⟩ = some (.int .u64 (f 4)) ∧ x.cell? ⟨w.heap.size, 5, none⟩ = some (.int .u64 (f 5)))) := fun x hx => at6 (hF.at.below hx)
  have B1' : Hid _ := B1
  have lt1 : w.heap.size < W.heap.size := by rw [z1]; omega
  clear hF B1 z1
  obtain ⟨a0, a1, a2, a3, a4, a5⟩ := HS.out _ (Below.refl _ _)
  go_region_with (first
    | (go_at_call 54; refine Calls.mono (prime_any _) ?_; rintro e x1 ⟨rfl, b1⟩; first | (have BX : Below W.heap.size W x1 := below_drew b1; have lt2 : w.heap.size < x1.heap.size := Nat.lt_of_lt_of_le lt1 BX.size; have BW2 : Hid _ := BX; obtain ⟨e0, e1, e2, e3, e4, e5⟩ := HS.out _ BX; clear BX b1) | (have BX : Below W.heap.size W x1 := (boxB b1).1; have lt2 : w.heap.size < x1.heap.size := Nat.lt_of_lt_of_le lt1 BX.size; have MD : Hid (Mut x1 W.heap.size 0 6 Z) := (boxB b1).2; have BW2 : Hid _ := BX; obtain ⟨e0, e1, e2, e3, e4, e5⟩ := HS.out _ BX; clear BX b1))
    | (go_at_call 53; refine Calls.mono (HK.out _) ?_; rintro e x2 ⟨rfl, b2⟩; first | (have BX : Below W.heap.size W x2 := Below.up BW2.out (Nat.le_refl _) b2; have MD2 : Hid (Mut x2 W.heap.size 0 6 Z) := MutK.below MD.out b2 (cell_lt (MutK.cells6 MD.out).1); have BW3 : Hid _ := BX; obtain ⟨m0, m1, m2, m3, m4, m5⟩ := MutK.cells6 MD2.out; obtain ⟨n0, n1, n2, n3, n4, n5⟩ := MutK.free6 MD2.out; clear BX b2) | (have BX : Below W.heap.size W x2 := Below.up BW2.out (Nat.le_refl _) (boxA b2).1; have MD2 : Hid (Mut x2 x1.heap.size 0 6 Z) := (boxA b2).2; have BW3 : Hid _ := BX; obtain ⟨m0, m1, m2, m3, m4, m5⟩ := MutK.cells6 MD2.out; obtain ⟨n0, n1, n2, n3, n4, n5⟩ := MutK.free6 MD2.out; clear BX b2) | (have BX : Below W.heap.size W x2 := Below.up BW2.out (Nat.le_refl _) b2; have BW3 : Hid _ := BX; clear BX b2)))
  all_goals
    first
    | (have q := finB (b := W.heap.size) h BW3.out (by with_reducible exact MD2.out) (Nat.le_refl _); generalize (((((x2.setCell ⟨W.heap.size, 0, none⟩ (.int .u64 (h 0))).setCell ⟨W.heap.size, 1, none⟩ (.int .u64 (h 1))).setCell ⟨W.heap.size, 2, none⟩ (.int .u64 (h 2))).setCell ⟨W.heap.size, 3, none⟩ (.int .u64 (h 3))).setCell ⟨W.heap.size, 4, none⟩ (.int .u64 (h 4))).setCell ⟨W.heap.size, 5, none⟩ (.int .u64 (h 5)) = V at q ⊢; obtain ⟨bv, mv⟩ := q; obtain ⟨v0, v1, v2, v3, v4, v5⟩ := MutK.cells6 mv; have HV : Hid (∀ x, Below V.heap.size V x → (x.cell? ⟨W.heap.size, 0, none⟩ = some (.int .u64 (h 0)) ∧ x.cell? ⟨W.heap.size, 1, none⟩ = some (.int .u64 (h 1)) ∧ x.cell? ⟨W.heap.size, 2, none⟩ = some (.int .u64 (h 2)) ∧ x.cell? ⟨W.heap.size, 3, none⟩ = some (.int .u64 (h 3)) ∧ x.cell? ⟨W.heap.size, 4, none⟩ = some (.int .u64 (h 4)) ∧ x.cell? ⟨W.heap.size, 5, none⟩ = some (.int .u64 (h 5)))) := fun x hx => at6 (mv.at.below hx); clear mv)
    | (have q := finB (b := x1.heap.size) h BW3.out (by with_reducible exact MD2.out) (Below.size BW2.out); generalize (((((x2.setCell ⟨x1.heap.size, 0, none⟩ (.int .u64 (h 0))).setCell ⟨x1.heap.size, 1, none⟩ (.int .u64 (h 1))).setCell ⟨x1.heap.size, 2, none⟩ (.int .u64 (h 2))).setCell ⟨x1.heap.size, 3, none⟩ (.int .u64 (h 3))).setCell ⟨x1.heap.size, 4, none⟩ (.int .u64 (h 4))).setCell ⟨x1.heap.size, 5, none⟩ (.int .u64 (h 5)) = V at q ⊢; obtain ⟨bv, mv⟩ := q; obtain ⟨v0, v1, v2, v3, v4, v5⟩ := MutK.cells6 mv; have HV : Hid (∀ x, Below V.heap.size V x → (x.cell? ⟨x1.heap.size, 0, none⟩ = some (.int .u64 (h 0)) ∧ x.cell? ⟨x1.heap.size, 1, none⟩ = some (.int .u64 (h 1)) ∧ x.cell? ⟨x1.heap.size, 2, none⟩ = some (.int .u64 (h 2)) ∧ x.cell? ⟨x1.heap.size, 3, none⟩ = some (.int .u64 (h 3)) ∧ x.cell? ⟨x1.heap.size, 4, none⟩ = some (.int .u64 (h 4)) ∧ x.cell? ⟨x1.heap.size, 5, none⟩ = some (.int .u64 (h 5)))) := fun x hx => at6 (mv.at.below hx); clear mv)
    | (have q := finA (t := 24) h BW3.out; generalize x2.alloc (.cells #[.int .u64 (h 0), .int .u64 (h 1), .int .u64 (h 2), .int .u64 (h 3), .int .u64 (h 4), .int .u64 (h 5)] 24) = V at q ⊢; obtain ⟨bv, mv⟩ := q; obtain ⟨v0, v1, v2, v3, v4, v5⟩ := MutK.cells6 mv; have HV : Hid (∀ x, Below V.heap.size V x → (x.cell? ⟨x2.heap.size, 0, none⟩ = some (.int .u64 (h 0)) ∧ x.cell? ⟨x2.heap.size, 1, none⟩ = some (.int .u64 (h 1)) ∧ x.cell? ⟨x2.heap.size, 2, none⟩ = some (.int .u64 (h 2)) ∧ x.cell? ⟨x2.heap.size, 3, none⟩ = some (.int .u64 (h 3)) ∧ x.cell? ⟨x2.heap.size, 4, none⟩ = some (.int .u64 (h 4)) ∧ x.cell? ⟨x2.heap.size, 5, none⟩ = some (.int .u64 (h 5)))) := fun x hx => at6 (mv.at.below hx); clear mv)
    have HB : Hid _ := Below.up B1'.out (Nat.le_refl _) bv
    clear bv HS BW2 BW3 a0 a1 a2 a3 a4 a5 e0 e1 e2 e3 e4 e5 HK HV
    rcases hc.out with ⟨rfl, rfl⟩ | ⟨rfl, rfl⟩
    · go_wp2
      go_ret
      exact ⟨rfl, HB.out⟩
    · go_wp2
      go_ret
      exact ⟨rfl, HB.out⟩

theorem frMay_any (f : Nat → Int) (w : World) (rf : Rg f 6) : Calls Tryd.prog 30 #[.agg #[.int .u64 (f 0), .int .u64 (f 1), .int .u64 (f 2), .int .u64 (f 3), .int .u64 (f 4), .int .u64 (f 5)]] w fun e w' => e = .returned (.bool (decide (val f 6 < RI))) ∧ Below w.heap.size w w' := by
  have v1 := lessR_val rf
  have d1 := val_bd (df_rg f rL 6)
  have d0 := val_bd rf
  have hb := bw_bd f rL 6
  refine may_at f (df f rL) (bw f rL 6) _ w (fun w => less_any f rL w rf rL_rg) ?_
  show _ ∨ _
  rcases (show bw f rL 6 = 0 ∨ bw f rL 6 = 1 by omega) with e | e
  · left; rw [e] at v1; exact ⟨e, decide_eq_false (by omega)⟩
  · right; rw [e] at v1; exact ⟨e, decide_eq_true (by omega)⟩

end Go.Proofs.YtgoghcmnnhglhaaDoor.fpn
