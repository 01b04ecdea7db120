/- A region goes by its plan: the step, the end, the law. No program is named here. -/
import Derived.Test.YtklddcicfeakfaaPM
namespace Go.Proofs.Ytklddcicfeakfaa.Pl
open Go Go.RowKit
set_option linter.unusedVariables false
set_option linter.unusedSimpArgs false

section
variable {P : Program} {ops : Array Oper} {ks : List Kind} {T : List Nat} {a0 : Act} {B : Nat} {w0 W0 : World} {H : List (Nat × List Value)} {Q : Exit → Act → World → Prop}

theorem listed_of_bef {nt nh : Nat} {L : Lt} {listed : Array Bool} {a : Act} {w : World} (I : Inv ops ks T a0 B w0 W0 H L listed a w) {i : Nat} {o : Oper} (S : Stat ops ks T nt nh i o) (hall : ∀ j ∈ aft ops i, listed.getD j false = true) :
    ∀ j, bef T i j = true → listed.getD j false = true := fun j hj => by
  obtain ⟨k, hk, h⟩ := S.tab j hj
  rcases h with rfl | h
  · exact hall _ hk
  · exact I.cl k (hall _ hk) j h

theorem eval_rd {nt nh : Nat} {L : Lt} {listed : Array Bool} {a : Act} {w : World} (I : Inv ops ks T a0 B w0 W0 H L listed a w) {i : Nat} {o : Oper} (S : Stat ops ks T nt nh i o) (hun : listed.getD i false = false)
    (hbef : ∀ j, bef T i j = true → listed.getD j false = true) : ∀ x ∈ o.op.operands, a.eval x = rd ops ks T a0 L i x := fun x hx => by
  cases x with
  | tmp t =>
    have ht : t ∈ o.looksAt ops := List.mem_append_left _ (List.mem_filterMap.2 ⟨.tmp t, by simpa using hx, rfl⟩)
    show a.tmps.getD t undef = _
    rw [I.F.fr t]
    unfold slot
    simp only [rd]
    cases hw : own ops t with
    | none => simp only
    | some j =>
      simp only
      by_cases hb : bef T i j = true
      · rw [if_pos (hbef j hb), if_pos hb]
      · rw [if_neg hb]
        rcases S.looks t ht j hw with e | e | e
        · subst e; rw [if_neg (by rw [hun]; simp)]
        · exact absurd e hb
        · rw [if_neg (fun h => by have := I.cl j h i e; rw [hun] at this; cases this)]
  | _ => rfl

theorem wanted_rd {nt nh : Nat} {L : Lt} {listed : Array Bool} {a : Act} {w : World} (hc : chk ops ks T nt nh = true) (hnt : nt = a0.tmps.size) (I : Inv ops ks T a0 B w0 W0 H L listed a w) {i : Nat} {o : Oper} (S : Stat ops ks T nt nh i o)
    (hbef : ∀ j, bef T i j = true → listed.getD j false = true) : Region.wanted o (yielded ops a.tmps) = wantedR ks L o := by
  unfold Region.wanted wantedR
  cases hg : o.guard with
  | none => rfl
  | some gw =>
    obtain ⟨g, want⟩ := gw
    obtain ⟨hb, d, hd⟩ := S.grd g want hg
    have hl := hbef g hb
    obtain ⟨og, hog, hdd⟩ : ∃ og, ops[g]? = some og ∧ og.dst = some d := by
      cases h : ops[g]? with
      | none => simp [h] at hd
      | some og => exact ⟨og, rfl, by simpa [h] using hd⟩
    obtain ⟨hw, hdl⟩ := (stat hc hog).dst d hdd
    have hv : a.tmps[d]? = some (val ks L g) := by
      have h1 := I.F.fr d
      unfold slot at h1
      rw [hw] at h1
      simp only [hl, if_true] at h1
      have hlt : d < a.tmps.size := by rw [I.F.ts, ← hnt]; exact hdl
      rw [← h1]
      simp [hlt]
    simp only [yielded, hd, Option.bind_some, hv]
    cases val ks L g <;> rfl

theorem no_stores {nt nh : Nat} {L : Lt} {listed : Array Bool} {a : Act} {w : World} (I : Inv ops ks T a0 B w0 W0 H L listed a w) {i : Nat} (hun : listed.getD i false = false) (he : early T ks i = true) :
    ∀ s, isStore ks s = true → (isNewS ks s && noAny ks) = false → listed.getD s false = false := fun s hs hn => by
  have h := List.all_eq_true.1 he s (by simpa using isStore_lt hs)
  simp only [hs, hn, Bool.not_true, Bool.false_or, Bool.or_false] at h
  cases hl : listed.getD s false with
  | false => rfl
  | true => have := I.cl s hl i h; rw [hun] at this; cases this
theorem noAny_no {j : Nat} {C : Value → World → Prop} (h : kd ks j = .any C) : noAny ks = false := by
  have hj : j < ks.length := kd_lt fun e => by rw [h] at e; cases e
  cases e : noAny ks with
  | false => rfl
  | true =>
    have hm : ks[j] = .any C := by
      unfold kd at h
      rwa [List.getD_eq_getElem?_getD, List.getElem?_eq_getElem hj, Option.getD_some] at h
    have := List.all_eq_true.1 e _ (List.getElem_mem hj)
    rw [hm] at this
    cases this

theorem cur_none {listed : Array Bool} {l : Loc} {cs : List Value} (h : ∀ s, isStore ks s = true → listed.getD s false = false) : cur ks listed l cs = cs := by
  unfold cur
  cases hs : st ks l with
  | none => rfl
  | some s =>
    obtain ⟨off, ds, new, hk⟩ := st_spec hs
    simp [h s (by simp [isStore, hk])]

theorem seen {nt nh : Nat} {L : Lt} {listed : Array Bool} {a : Act} {w : World} (I : Inv ops ks T a0 B w0 W0 H L listed a w) {i : Nat} (hun : listed.getD i false = false) (hB : B ≤ W0.heap.size)
    (hbef : ∀ j, bef T i j = true → listed.getD j false = true) (he : early T ks i = true) : Seen ks T B w0 H L i w := by
  have hno := no_stores (nt := nt) (nh := nh) I hun he
  refine ⟨I.M.bl, Nat.le_trans hB I.M.le, fun p hp => ?_, fun j C hk hb => I.M.an (fun s hs => hno s hs (by rw [noAny_no hk, Bool.and_false])) j C hk (hbef j hb)⟩
  obtain ⟨k, hk⟩ := List.getElem?_of_mem hp
  have := I.M.hb k p hk
  have hc : cur ks listed (.base k) p.2 = p.2 := by
    unfold cur
    cases hs : st ks (.base k) with
    | none => rfl
    | some s =>
      obtain ⟨off, ds, new, hkk⟩ := st_spec hs
      simp [hno s (by simp [isStore, hkk]) (by simp [isNewS, hkk])]
  rwa [hc] at this

theorem cl_next {nt nh : Nat} {L : Lt} {listed : Array Bool} {a : Act} {w : World} (I : Inv ops ks T a0 B w0 W0 H L listed a w) {i : Nat} (hi : i < listed.size) (hbef : ∀ j, bef T i j = true → listed.getD j false = true) :
    ∀ k, (listed.setIfInBounds i true).getD k false = true → ∀ j, bef T k j = true → (listed.setIfInBounds i true).getD j false = true := fun k hk j hj => by
  rw [ls_get hi] at hk ⊢
  split
  · rfl
  · split at hk
    · rename_i e; subst e; exact hbef j hj
    · exact I.cl k hk j hj

theorem val_setB {nt nh : Nat} {L : Lt} {i x : Nat} {j : Nat} {o : Oper} (S : Stat ops ks T nt nh j o) (hji : j ≠ i) (hb : bef T j i = false) : val ks (L.setB i x) j = val ks L j := by
  unfold val
  cases hk : kd ks j with
  | detB k v =>
    have h1 := S.dB k v hk
    have : k ≠ i := fun e => by subst e; rw [hb] at h1; cases h1
    simp only [Lt.setB, if_neg this]
  | alloc cs => simp only [Lt.setB, if_neg hji]
  | _ => rfl
theorem val_setV {nt nh : Nat} {L : Lt} {i : Nat} {x : Value} {j : Nat} {o : Oper} (S : Stat ops ks T nt nh j o) (hji : j ≠ i) (hb : bef T j i = false) : val ks (L.setV i x) j = val ks L j := by
  unfold val
  cases hk : kd ks j with
  | detV k v =>
    have h1 := S.dV k v hk
    have : k ≠ i := fun e => by subst e; rw [hb] at h1; cases h1
    simp only [Lt.setV, if_neg this]
  | any C => simp only [Lt.setV, if_neg hji]
  | _ => rfl

theorem step {nt nh : Nat} (hc : chk ops ks T nt nh = true) (hnt : nt = a0.tmps.size) (hnh : nh = H.length) (hob : AllOb P ops ks T a0 B w0 H 0 ops.toList)
    (hB : B ≤ W0.heap.size) (hH : ∀ p ∈ H, B ≤ p.1 ∧ p.1 < W0.heap.size) (hnd : (H.map (·.1)).Nodup)
    {L : Lt} {listed : Array Bool} {a : Act} {w : World} {i : Nat} (I : Inv ops ks T a0 B w0 W0 H L listed a w) (hr : i ∈ Region.ready .any ops listed) :
    wpOp P ops Q i (fun a' w' => ∃ L', Inv ops ks T a0 B w0 W0 H L' (listed.setIfInBounds i true) a' w') a w := by
  obtain ⟨hut, o, ho, hall⟩ := mem_ready.1 hr
  have hio : i < ops.size := (Array.getElem?_eq_some_iff.1 ho).1
  have hi : i < listed.size := by rw [I.sz]; exact hio
  have hun : listed.getD i false = false := by simp [hi] at hut ⊢; exact hut
  have S := stat hc ho
  have hall' : ∀ j ∈ aft ops i, listed.getD j false = true := fun j hj => by
    unfold aft at hj
    rw [ho] at hj
    simp only [Option.map_some, Option.getD_some, List.mem_map, List.mem_filter] at hj
    obtain ⟨e, ⟨he, hb⟩, rfl⟩ := hj
    exact hall e (by simpa using he) hb
  have hbef := listed_of_bef I S hall'
  have hex : execOp a.eval o = execOp (rd ops ks T a0 L i) o := execOp_congr o S.sel (eval_rd I S hun hbef)
  have hw := wanted_rd hc hnt I S hbef
  have hsn := seen (nt := nt) (nh := nh) I hun hB hbef
  have ob : Ob P ops ks T a0 B w0 H i o := by
    have := AllOb.at ops.toList 0 i o hob (by simpa using ho)
    rwa [Nat.zero_add] at this
  have ob := ob L w hsn
  have sz' : (listed.setIfInBounds i true).size = ops.size := by simp [I.sz]
  have cl' := cl_next (nt := nt) (nh := nh) I hi hbef
  have hnb : ∀ j, j ≠ i → listed.getD j false = true → bef T j i = false := fun j _ hl => by
    cases h : bef T j i with
    | false => rfl
    | true => have := I.cl j hl i h; rw [hun] at this; cases this
  have hst : ∀ j, listed.getD j false = true → ∃ oj, ops[j]? = some oj := fun j hl => by
    have : j < ops.size := by
      rw [← I.sz]
      by_cases h : j < listed.size
      · exact h
      · simp [Array.getElem?_eq_none (Nat.le_of_not_lt h)] at hl
    exact ⟨ops[j], Array.getElem?_eq_getElem this⟩
  unfold wpOp
  simp only [ho, hw]
  by_cases hwt : wantedR ks L o = true
  · rw [if_pos hwt] at ob ⊢
    refine .inl ?_
    unfold Oper.wp
    rw [hex]
    cases hk : kd ks i with
    | det v =>
      rw [hk] at ob
      refine Runs.upon ob fun u w' ⟨hu, hb⟩ => ⟨L, sz', cl', ?_, ?_⟩
      · exact I.F.next S hnt ho hi (fun d _ => hu) (fun j _ _ => rfl)
      · exact I.M.quiet hi hB hb (by simp [isStore, hk]) (by simp [isAlloc, hk]) (fun C => by rw [hk]; simp)
    | detB k v =>
      rw [hk] at ob
      refine Runs.upon ob fun u w' ⟨hu, hb⟩ => ⟨L, sz', cl', ?_, ?_⟩
      · exact I.F.next S hnt ho hi (fun d _ => hu) (fun j _ _ => rfl)
      · exact I.M.quiet hi hB hb (by simp [isStore, hk]) (by simp [isAlloc, hk]) (fun C => by rw [hk]; simp)
    | detV k v =>
      rw [hk] at ob
      refine Runs.upon ob fun u w' ⟨hu, hb⟩ => ⟨L, sz', cl', ?_, ?_⟩
      · exact I.F.next S hnt ho hi (fun d _ => hu) (fun j _ _ => rfl)
      · exact I.M.quiet hi hB hb (by simp [isStore, hk]) (by simp [isAlloc, hk]) (fun C => by rw [hk]; simp)
    | any C =>
      rw [hk] at ob
      refine Runs.upon ob.2 fun u w' ⟨hu, hb⟩ => ⟨L.setV i u, sz', cl', ?_, ?_⟩
      · refine I.F.next S hnt ho hi (fun d _ => ?_) (fun j hj hl => ?_)
        · unfold val; rw [hk]; simp [Lt.setV]
        · obtain ⟨oj, hoj⟩ := hst j hl
          exact val_setV (stat hc hoj) hj (hnb j hj hl)
      · exact I.M.letter hi hun hB hb hk hu ob.1
    | alloc cs =>
      rw [hk] at ob
      obtain ⟨ty, hrun⟩ := ob
      rw [hrun]
      refine ⟨L.setB i w.heap.size, sz', cl', ?_, ?_⟩
      · refine I.F.next S hnt ho hi (fun d _ => ?_) (fun j hj hl => ?_)
        · unfold val; rw [hk]; simp [Lt.setB]
        · obtain ⟨oj, hoj⟩ := hst j hl
          exact val_setB (stat hc hoj) hj (hnb j hj hl)
      · refine I.M.made hi hun hB hk fun s hs => ?_
        obtain ⟨off, ds, new, hks⟩ := st_spec hs
        cases hl : listed.getD s false with
        | false => rfl
        | true =>
          obtain ⟨os, hos⟩ := hst s hl
          have := (stat hc hos).sto _ _ _ _ hks
          have := I.cl s hl i (this.2.2.2.1 i rfl).1
          rw [hun] at this; cases this
    | store l off cs new =>
      rw [hk] at ob
      obtain ⟨hlen, hsp, hrun⟩ := ob
      obtain ⟨hgd, hdn, hsl, hnw, hbs⟩ := S.sto _ _ _ _ hk
      have hnew : ∀ j, l = .new j → listed.getD j false = true ∧ isAlloc ks j = true := fun j e => ⟨hbef j (hnw j e).1, (hnw j e).2⟩
      have hM := I.M.stored hi hun hk hsl hnew (fun k e => by rw [← hnh]; exact hbs k e) hB hH hnd hlen hsp
      have hth : w.there (addr H L l) off cs.length := by
        have hcur : ∀ x, cur ks listed l x = x := fun x => by unfold cur; simp [hsl, hun]
        have hbox : Box w (addr H L l) (oldOf ks H l) := by
          cases l with
          | base k =>
            have hk' : k < H.length := by rw [← hnh]; exact hbs k rfl
            have hp : H[k]? = some (H.getD k (0, [])) := by simp [List.getD, List.getElem?_eq_getElem hk']
            have := I.M.hb k _ hp
            rw [hcur] at this
            exact this
          | new j =>
            obtain ⟨hl, hal⟩ := hnew j rfl
            unfold isAlloc at hal
            split at hal
            · rename_i ds hd
              have := I.M.hn j ds hd hl
              rw [hcur] at this
              simp only [oldOf, hd, addr]
              exact this.2
            · cases hal
        intro j hj
        have := hbox.free (off + j) (by omega)
        simpa using this
      rw [hrun hth]
      refine ⟨L, sz', cl', ?_, hM⟩
      exact I.F.next S hnt ho hi (fun d hd => by rw [hdn] at hd; cases hd) (fun j _ _ => rfl)
  · have hwf : wantedR ks L o = false := by simpa using hwt
    rw [if_neg hwt] at ob
    simp only [hwf, Bool.false_eq_true, if_false]
    refine ⟨L, sz', cl', ?_, ?_⟩
    · refine I.F.next S hnt ho hi (fun d _ => ?_) (fun j _ _ => rfl)
      unfold val; rw [ob]
    · exact I.M.quiet hi hB (Below.refl _ _) (by simp [isStore, ob]) (by simp [isAlloc, ob]) (fun C => by rw [ob]; simp)

/-- The slots when all has come. -/
def slotF (ops : Array Oper) (ks : List Kind) (a0 : Act) (L : Lt) (t : Nat) : Value :=
  match own ops t with
  | none => a0.tmps.getD t undef
  | some j => val ks L j
def curF (ks : List Kind) (l : Loc) (cs : List Value) : List Value :=
  match st ks l with
  | some s => newOf ks s cs
  | none => cs
def baseF (ks : List Kind) : Nat → List (Nat × List Value) → List (Nat × List Value)
  | _, [] => []
  | k, p :: r => (p.1, curF ks (.base k) p.2) :: baseF ks (k + 1) r
def newF (ks : List Kind) (L : Lt) : List Nat → List (Nat × List Value)
  | [] => []
  | j :: r => match kd ks j with
    | .alloc cs => (L.b j, curF ks (.new j) cs) :: newF ks L r
    | _ => newF ks L r
/-- The boxes when all has come. -/
def heapF (ks : List Kind) (H : List (Nat × List Value)) (L : Lt) : List (Nat × List Value) := baseF ks 0 H ++ newF ks L (List.range ks.length)
/-- The letters' conditions when all has come. -/
def AnyF (ks : List Kind) (L : Lt) (w : World) : List Nat → Prop
  | [] => True
  | j :: r => match kd ks j with
    | .any C => C (L.v j) w ∧ AnyF ks L w r
    | _ => AnyF ks L w r

theorem mem_baseF {ks : List Kind} : ∀ (H : List (Nat × List Value)) (k : Nat) (p : Nat × List Value), p ∈ baseF ks k H → ∃ j q, H[j]? = some q ∧ p = (q.1, curF ks (.base (k + j)) q.2)
  | [], k, p, h => by simp [baseF] at h
  | q :: r, k, p, h => by
    simp only [baseF, List.mem_cons] at h
    rcases h with h | h
    · exact ⟨0, q, rfl, h⟩
    · obtain ⟨j, q', h1, h2⟩ := mem_baseF r (k + 1) p h
      exact ⟨j + 1, q', by simpa using h1, by rw [h2, show k + 1 + j = k + (j + 1) by omega]⟩
theorem map_baseF {ks : List Kind} : ∀ (H : List (Nat × List Value)) (k : Nat), (baseF ks k H).map (·.1) = H.map (·.1)
  | [], k => rfl
  | q :: r, k => by simp [baseF, map_baseF r (k + 1)]
theorem mem_newF {ks : List Kind} {L : Lt} : ∀ (l : List Nat) (p : Nat × List Value), p ∈ newF ks L l → ∃ j cs, j ∈ l ∧ kd ks j = .alloc cs ∧ p = (L.b j, curF ks (.new j) cs)
  | [], p, h => by simp [newF] at h
  | j :: r, p, h => by
    unfold newF at h
    split at h
    · rename_i cs hk
      simp only [List.mem_cons] at h
      rcases h with h | h
      · exact ⟨j, cs, by simp, hk, h⟩
      · obtain ⟨j', cs', h1, h2, h3⟩ := mem_newF r p h
        exact ⟨j', cs', by simp [h1], h2, h3⟩
    · obtain ⟨j', cs', h1, h2, h3⟩ := mem_newF r p h
      exact ⟨j', cs', by simp [h1], h2, h3⟩
theorem nodup_newF {ks : List Kind} {L : Lt} (hij : ∀ j k, isAlloc ks j = true → isAlloc ks k = true → L.b j = L.b k → j = k) : ∀ (l : List Nat), l.Nodup → ((newF ks L l).map (·.1)).Nodup
  | [], _ => by simp [newF]
  | j :: r, h => by
    have hr := nodup_newF hij r (List.nodup_cons.1 h).2
    unfold newF
    split
    · rename_i cs hk
      simp only [List.map_cons, List.nodup_cons]
      refine ⟨fun hm => ?_, hr⟩
      obtain ⟨p, hp, he⟩ := List.mem_map.1 hm
      obtain ⟨j', cs', h1, h2, rfl⟩ := mem_newF r p hp
      have := hij j j' (by simp [isAlloc, hk]) (by simp [isAlloc, h2]) he.symm
      subst this
      exact (List.nodup_cons.1 h).1 h1
    · exact hr

/-- What there is when all has come. -/
theorem done {nt nh : Nat} {L : Lt} {listed : Array Bool} {a : Act} {w : World} (hc : chk ops ks T nt nh = true) (hB : B ≤ W0.heap.size) (hH : ∀ p ∈ H, B ≤ p.1 ∧ p.1 < W0.heap.size) (hnd : (H.map (·.1)).Nodup)
    (I : Inv ops ks T a0 B w0 W0 H L listed a w) (hall : ∀ i, i < ops.size → listed.getD i false = true) :
    a = { tmps := ((List.range a0.tmps.size).map (slotF ops ks a0 L)).toArray, defers := a0.defers } ∧ Heap B w0 w (heapF ks H L) ∧ ((List.range ks.length).all (fun s => !isStore ks s) = true → AnyF ks L w (List.range ks.length)) := by
  have hkl := chk_len hc
  have hsl : ∀ l s, st ks l = some s → listed.getD s false = true := fun l s hs => by
    obtain ⟨off, cs, new, hk⟩ := st_spec hs
    exact hall s (by rw [← hkl]; exact isStore_lt (by simp [isStore, hk]))
  have hcur : ∀ l cs, cur ks listed l cs = curF ks l cs := fun l cs => by
    unfold cur curF
    cases hs : st ks l with
    | none => rfl
    | some s => simp only [hsl l s hs, if_true]
  have hal : ∀ j cs, kd ks j = .alloc cs → listed.getD j false = true := fun j cs hk => hall j (by rw [← hkl]; exact kd_lt (fun e => by rw [hk] at e; cases e))
  have hal' : ∀ j, isAlloc ks j = true → listed.getD j false = true := fun j h => by
    unfold isAlloc at h
    split at h
    · rename_i cs hk; exact hal j cs hk
    · cases h
  refine ⟨?_, ⟨I.M.bl, fun p hp => ?_, ?_, Nat.le_trans hB I.M.le⟩, fun hno => ?_⟩
  · obtain ⟨tm, df⟩ := a
    have h1 : df = a0.defers := I.F.df
    have h2 : tm.size = a0.tmps.size := I.F.ts
    subst h1
    congr 1
    apply Array.ext
    · simp [h2]
    · intro t h3 h4
      have h5 := I.F.fr t
      have e1 : tm.getD t undef = tm[t] := by simp [h3]
      have e2 : slot ops ks a0 L listed t = slotF ops ks a0 L t := by
        unfold slot slotF
        cases hw : own ops t with
        | none => rfl
        | some j => simp only [hall j (own_spec hw).1, if_true]
      have h6 : tm[t] = slotF ops ks a0 L t := by rw [← e1, ← e2]; exact h5
      rw [h6]
      simp
  · rcases List.mem_append.1 hp with hp | hp
    · obtain ⟨j, q, hq, rfl⟩ := mem_baseF H 0 p hp
      have := I.M.hb j q hq
      rw [hcur] at this
      rw [Nat.zero_add]
      exact ⟨(hH q (List.mem_of_getElem? hq)).1, this⟩
    · obtain ⟨j, cs, _, hk, rfl⟩ := mem_newF _ p hp
      have := I.M.hn j cs hk (hal j cs hk)
      rw [hcur] at this
      exact ⟨Nat.le_trans hB this.1, this.2⟩
  · rw [heapF, List.map_append, map_baseF]
    refine List.nodup_append.2 ⟨hnd, nodup_newF (fun j k hj hk he => I.M.ij j k hj hk (hal' j hj) (hal' k hk) he) _ List.nodup_range, ?_⟩
    intro x hx y hy e
    subst e
    obtain ⟨p, hp, rfl⟩ := List.mem_map.1 hx
    obtain ⟨q, hq, he⟩ := List.mem_map.1 hy
    obtain ⟨j, cs, _, hk, rfl⟩ := mem_newF _ q hq
    have h1 := (hH p hp).2
    have h2 := (I.M.hn j cs hk (hal j cs hk)).1
    simp only at he
    omega
  · have hns : ∀ s, isStore ks s = true → listed.getD s false = false := fun s hs => by
      have := List.all_eq_true.1 hno s (by simpa using isStore_lt hs)
      rw [hs] at this; cases this
    have : ∀ l : List Nat, AnyF ks L w l := fun l => by
      induction l with
      | nil => trivial
      | cons j r ih =>
        unfold AnyF
        split
        · rename_i C hk
          exact ⟨I.M.an hns j C hk (hall j (by rw [← hkl]; exact kd_lt (fun e => by rw [hk] at e; cases e))), ih⟩
        · exact ih
    exact this _

theorem Inv.start (hHp : Heap B w0 W0 H) {w : World} (hw : Below W0.heap.size W0 w) (hf : w.heap = W0.heap) (L : Lt) :
    Inv ops ks T a0 B w0 W0 H L (Array.replicate ops.size false) a0 w := by
  have hno : ∀ j, (Array.replicate ops.size false).getD j false = false := fun j => by
    by_cases h : j < ops.size
    · simp [h]
    · simp [Array.getElem?_eq_none, h]
  refine ⟨by simp, fun i hi => (by rw [hno] at hi; cases hi), ⟨rfl, rfl, fun t => ?_⟩, ⟨hHp.bel.trans (hw.mono hHp.le), hw.size, fun k p hp => ?_, fun j cs _ hl => (by rw [hno] at hl; cases hl), fun j k _ _ hl => (by rw [hno] at hl; cases hl), fun _ j C _ hl => (by rw [hno] at hl; cases hl), fun j C _ hl => (by rw [hno] at hl; cases hl)⟩⟩
  · unfold slot
    cases own ops t with
    | none => rfl
    | some j => simp only [hno, Bool.false_eq_true, if_false]
  · rw [cur_none (fun s _ => hno s)]
    exact (hHp.box p (List.mem_of_getElem? hp)).2.up hw

theorem Heap.bounds (h : Heap B w0 W0 H) : ∀ p ∈ H, B ≤ p.1 ∧ p.1 < W0.heap.size := fun p hp => ⟨(h.box p hp).1, (h.box p hp).2.lt⟩

/-- A region that draws its order goes by its plan. -/
theorem drawn {id nt nh : Nat} (hm : P.follows .mixedOrders = true) (hc : chk ops ks T nt nh = true) (hnt : nt = a0.tmps.size) (hnh : nh = H.length) (hHp : Heap B w0 W0 H) (hob : AllOb P ops ks T a0 B w0 H 0 ops.toList)
    (hQ : ∀ L w, Heap B w0 w (heapF ks H L) → ((List.range ks.length).all (fun s => !isStore ks s) = true → AnyF ks L w (List.range ks.length)) → Q .normal { tmps := ((List.range a0.tmps.size).map (slotF ops ks a0 L)).toArray, defers := a0.defers } w) :
    (Code.region id ops true).wp P Q a0 W0 := by
  refine wp_region_any hm ?_
  have main : ∀ (fuel : Nat) (listed : Array Bool) (a : Act) (w : World) (L : Lt), Inv ops ks T a0 B w0 W0 H L listed a w → ((List.range ops.size).filter fun i => !listed.getD i false).length ≤ fuel → wpAny P .any ops Q fuel listed a w := by
    have fin : ∀ (listed : Array Bool) (a : Act) (w : World) (L : Lt), Inv ops ks T a0 B w0 W0 H L listed a w → Region.ready .any ops listed = [] → Q .normal a w := fun listed a w L I hr => by
      have hall : ∀ n, ∀ i, i ≤ n → i < ops.size → listed.getD i false = true := by
        intro n
        induction n with
        | zero =>
          intro i hi hlt
          obtain rfl : i = 0 := by omega
          cases hl : listed.getD 0 false with
          | true => rfl
          | false =>
            have : (0 : Nat) ∈ Region.ready .any ops listed := mem_ready.2 ⟨by simp [I.sz, hlt] at hl ⊢; exact hl, ops[0], Array.getElem?_eq_getElem hlt, fun e he hb => by
              have := (stat hc (Array.getElem?_eq_getElem hlt)).back e.on (by
                unfold aft; rw [Array.getElem?_eq_getElem hlt]
                simp only [Option.map_some, Option.getD_some, List.mem_map, List.mem_filter]
                exact ⟨e, ⟨by simpa using he, hb⟩, rfl⟩)
              omega⟩
            rw [hr] at this; cases this
        | succ n ih =>
          intro i hi hlt
          by_cases h : i ≤ n
          · exact ih i h hlt
          · obtain rfl : i = n + 1 := by omega
            cases hl : listed.getD (n + 1) false with
            | true => rfl
            | false =>
              have : (n + 1) ∈ Region.ready .any ops listed := mem_ready.2 ⟨by simp [I.sz, hlt] at hl ⊢; exact hl, ops[n + 1], Array.getElem?_eq_getElem hlt, fun e he hb => by
                have hb' := (stat hc (Array.getElem?_eq_getElem hlt)).back e.on (by
                  unfold aft; rw [Array.getElem?_eq_getElem hlt]
                  simp only [Option.map_some, Option.getD_some, List.mem_map, List.mem_filter]
                  exact ⟨e, ⟨by simpa using he, hb⟩, rfl⟩)
                exact ih e.on (by omega) (by omega)⟩
              rw [hr] at this; cases this
      obtain ⟨ha, hh, hy⟩ := done hc hHp.le (Heap.bounds hHp) hHp.nd I (fun i hi => hall i i (Nat.le_refl _) hi)
      rw [ha]
      exact hQ L w hh hy
    intro fuel
    induction fuel with
    | zero =>
      intro listed a w L I hf
      have hr : Region.ready .any ops listed = [] := by
        cases h : Region.ready .any ops listed with
        | nil => rfl
        | cons x xs =>
          have hx : x ∈ Region.ready .any ops listed := by rw [h]; simp
          obtain ⟨h0, o, ho, _⟩ := mem_ready.1 hx
          have hlt := (Array.getElem?_eq_some_iff.1 ho).1
          have hz := List.length_eq_zero_iff.1 (Nat.le_zero.1 hf)
          have : x ∈ (List.range ops.size).filter fun i => !listed.getD i false := List.mem_filter.2 ⟨by simpa using hlt, by simp [I.sz, hlt] at h0 ⊢; exact h0⟩
          rw [hz] at this; cases this
      exact ⟨hr, fin listed a w L I hr⟩
    | succ fuel ih =>
      intro listed a w L I hf
      refine ⟨fin listed a w L I, fun i hi => ?_⟩
      refine wpOp_mono (fun a' w' ⟨L', I'⟩ => ih _ a' w' L' I' ?_) (step hc hnt hnh hob hHp.le (Heap.bounds hHp) hHp.nd I hi)
      obtain ⟨h0, o, ho, _⟩ := mem_ready.1 hi
      have hlt := (Array.getElem?_eq_some_iff.1 ho).1
      have hil : i < listed.size := by rw [I.sz]; exact hlt
      have e : ((List.range ops.size).filter fun j => !(listed.setIfInBounds i true).getD j false) = ((List.range ops.size).filter fun j => !listed.getD j false).filter (fun j => j != i) := by
        rw [List.filter_filter]
        congr 1
        funext j
        rw [ls_get hil]
        by_cases h : j = i <;> simp [h]
      rw [e]
      have hm : i ∈ (List.range ops.size).filter fun j => !listed.getD j false := List.mem_filter.2 ⟨by simpa using hlt, by simp [hil] at h0 ⊢; exact h0⟩
      have : (((List.range ops.size).filter fun j => !listed.getD j false).filter (fun j => j != i)).length < ((List.range ops.size).filter fun j => !listed.getD j false).length := by
        refine List.length_filter_lt_length_iff_exists.2 ⟨i, hm, by simp⟩
      omega
  refine main _ _ _ _ ⟨fun _ => undef, fun _ => 0⟩ (Inv.start hHp (Below.refl _ _).drew rfl _) ?_
  exact Nat.le_trans (List.length_filter_le _ _) (by simp)

/-- A region that does not draw goes by its plan. -/
theorem plain {id nt nh : Nat} (hc : chk ops ks T nt nh = true) (hnt : nt = a0.tmps.size) (hnh : nh = H.length) (hHp : Heap B w0 W0 H) (hob : AllOb P ops ks T a0 B w0 H 0 ops.toList)
    (hQ : ∀ L w, Heap B w0 w (heapF ks H L) → ((List.range ks.length).all (fun s => !isStore ks s) = true → AnyF ks L w (List.range ks.length)) → Q .normal { tmps := ((List.range a0.tmps.size).map (slotF ops ks a0 L)).toArray, defers := a0.defers } w) :
    (Code.region id ops false).wp P Q a0 W0 := by
  refine wp_region ?_
  have main : ∀ (m k : Nat) (listed : Array Bool) (a : Act) (w : World) (L : Lt), k + m = ops.size → (∀ j, listed.getD j false = decide (j < k)) → Inv ops ks T a0 B w0 W0 H L listed a w → wpOps P ops Q (List.range' k m) a w := by
    intro m
    induction m with
    | zero =>
      intro k listed a w L hk hl I
      obtain ⟨ha, hh, hy⟩ := done hc hHp.le (Heap.bounds hHp) hHp.nd I (fun i hi => by rw [hl]; simp; omega)
      show Q .normal a w
      rw [ha]
      exact hQ L w hh hy
    | succ m ih =>
      intro k listed a w L hk hl I
      rw [List.range'_succ, wpOps_cons]
      have hlt : k < ops.size := by omega
      have hil : k < listed.size := by rw [I.sz]; exact hlt
      have hr : k ∈ Region.ready .any ops listed := mem_ready.2 ⟨by have := hl k; simp [hil] at this ⊢; exact this, ops[k], Array.getElem?_eq_getElem hlt, fun e he hb => by
        have hb' := (stat hc (Array.getElem?_eq_getElem hlt)).back e.on (by
          unfold aft; rw [Array.getElem?_eq_getElem hlt]
          simp only [Option.map_some, Option.getD_some, List.mem_map, List.mem_filter]
          exact ⟨e, ⟨by simpa using he, hb⟩, rfl⟩)
        rw [hl]; simpa using hb'⟩
      refine wpOp_mono (fun a' w' ⟨L', I'⟩ => ih (k + 1) _ a' w' L' (by omega) (fun j => ?_) I') (step hc hnt hnh hob hHp.le (Heap.bounds hHp) hHp.nd I hr)
      rw [ls_get hil]
      split
      · rename_i e; subst e; simp
      · rw [hl]; by_cases h : j < k <;> simp [h] <;> omega
  rw [List.range_eq_range']
  exact main ops.size 0 _ a0 W0 ⟨fun _ => undef, fun _ => 0⟩ (by omega) (fun j => by
    by_cases h : j < ops.size
    · simp [h]
    · simp [Array.getElem?_eq_none, h]) (Inv.start hHp (Below.refl _ _) rfl _)

end
end Go.Proofs.Ytklddcicfeakfaa.Pl
