/- What it means that a real world stands for canonical memory; reading, writing and making blocks in both. -/
import Derived.Test.YtlffofemajfdjaaCxB
import Derived.Laws.NewFold
import Derived.Laws.Tables
set_option linter.unusedSimpArgs false
set_option linter.unusedVariables false
namespace Go.Proofs.Ytlffofemajfdjaa.Cx
open Go Go.RowKit

abbrev Cur := Nat → Option Blk

/-- The real world holds, of each block that may be read and that is mapped, its cells; no two of them lie in one real block. -/
structure HR (ρ : Env) (σ : Mp) (cur : Cur) (w : World) : Prop where
  cell : ∀ b k l, cur b = some k → k.live = true → σ b = some l → ∃ c t, w.heap[l.blk]? = some (.cells c t (0, 0)) ∧ c.size = l.size ∧ k.esz = l.esz ∧ l.base + k.cells.length ≤ l.size ∧ VRl ρ σ k.cells ((c.toList.drop l.base).take k.cells.length)
  inj : ∀ b b' k k' l l', cur b = some k → k.live = true → σ b = some l → cur b' = some k' → k'.live = true → σ b' = some l' → l.blk = l'.blk → b = b'

/-- But for the real blocks of W, and of numbers from base on, the world is as it was. -/
structure Keeps (σ : Mp) (base : Nat) (W : List Nat) (w w' : World) : Prop where
  os : w'.os = w.os
  tape : w'.tape = w.tape
  output : w'.output = w.output
  size : w.heap.size ≤ w'.heap.size
  block : ∀ k, k < w.heap.size → (∀ b, b ∈ W ∨ base ≤ b → ∀ l, σ b = some l → l.blk ≠ k) → w'.heap[k]? = w.heap[k]?

theorem Keeps.refl (σ : Mp) (base : Nat) (W : List Nat) (w : World) : Keeps σ base W w w := ⟨rfl, rfl, rfl, Nat.le_refl _, fun _ _ _ => rfl⟩
theorem Keeps.drew (σ : Mp) (base : Nat) (W : List Nat) (w : World) : Keeps σ base W w w.drew := ⟨rfl, rfl, rfl, Nat.le_refl _, fun _ _ _ => rfl⟩

/-- The new map: as the old one but on the new numbers. -/
def Ext (σ σ' : Mp) (n n' : Nat) : Prop := ∀ b, (b < n ∨ n' ≤ b) → σ' b = σ b

noncomputable def upd (cur : Cur) (n n' : Nat) (h : Tr Blk) (W : List Nat) : Cur := fun b => if b ∈ W ∨ (n ≤ b ∧ b < n') then h.get b else cur b

theorem upd_none (cur : Cur) (n : Nat) (h : Tr Blk) : upd cur n n h [] = cur := by
  funext b; unfold upd; rw [if_neg]; simp

/-- A new block lies in a new real block, or in one that was written. -/
def Fresh (σ σ' : Mp) (n n' base : Nat) (W : List Nat) (w : World) : Prop := ∀ b l, n ≤ b → b < n' → σ' b = some l → w.heap.size ≤ l.blk ∨ ∃ b0, (b0 ∈ W ∨ base ≤ b0) ∧ ∃ l0, σ b0 = some l0 ∧ l0.blk = l.blk

theorem Fresh.none (σ σ' : Mp) (n base : Nat) (W : List Nat) (w : World) : Fresh σ σ' n n base W w := fun b l h1 h2 => by omega

/-- What is left behind an operation, a call. -/
def Post (ρ : Env) (σ : Mp) (cur : Cur) (n : Nat) (w : World) (c : CV) (s' : St) (W : List Nat) (v : Value) (w' : World) : Prop :=
  ∃ σ', Ext σ σ' n s'.next ∧ VR ρ σ' c v ∧ HR ρ σ' (upd cur n s'.next s'.heap W) w' ∧ Keeps σ n W w w' ∧ Fresh σ σ' n s'.next n W w

theorem Ext.refl (σ : Mp) (n n' : Nat) : Ext σ σ n n' := fun _ _ => rfl
theorem Ext.le {σ σ' : Mp} {n n' : Nat} (h : Ext σ σ' n n') (hN : ∀ b, n ≤ b → b < n' → σ b = none) : σ.le σ' := fun b l hb => by
  by_cases h1 : b < n ∨ n' ≤ b
  · rw [h b h1]; exact hb
  · rw [hN b (by omega) (by omega)] at hb; cases hb

theorem post_pure {ρ : Env} {σ : Mp} {cur : Cur} {w : World} {c : CV} {s' : St} {v : Value} {n : Nat} (hn : s'.next = n) (hv : VR ρ σ c v) (hH : HR ρ σ cur w) : Post ρ σ cur n w c s' [] v w :=
  ⟨σ, Ext.refl _ _ _, hv, by rw [hn, upd_none]; exact hH, Keeps.refl _ _ _ _, by rw [hn]; exact Fresh.none _ _ _ _ _ _⟩

theorem HR.drew {ρ : Env} {σ : Mp} {cur : Cur} {w : World} (h : HR ρ σ cur w) : HR ρ σ cur w.drew := ⟨h.cell, h.inj⟩

theorem add_none (b o n : Nat) : (⟨b, o, none⟩ : Addr).add n = ⟨b, o + n, none⟩ := by
  unfold Addr.add; split
  · subst_vars; rfl
  · rfl

/-! ## Reading -/

theorem ld_parts {s : St} {b o n : Nat} {cs : List CV} (h : s.ld b o n = some cs) : ∃ k, s.heap.get b = some k ∧ k.live = true ∧ o + n ≤ k.cells.length ∧ cs = (k.cells.drop o).take n ∧ b < s.next := by
  unfold St.ld at h
  split at h
  · rename_i k hk
    refine ⟨k, hk, ?_⟩
    by_cases hc : (k.live && Nat.ble (o + n) k.cells.length && Nat.blt b s.next) = true
    · rw [hc, cond_true] at h
      simp only [Bool.and_eq_true] at hc
      exact ⟨hc.1.1, Nat.le_of_ble_eq_true hc.1.2, (Option.some.inj h).symm, Nat.lt_of_succ_le (Nat.le_of_ble_eq_true hc.2)⟩
    · rw [Bool.not_eq_true] at hc; rw [hc, cond_false] at h; cases h
  · cases h

theorem ld_run {P : Program} {ρ : Env} {σ : Mp} {cur : Cur} {w : World} {s : St} {b o n : Nat} {cs : List CV} {l : Loc} (hH : HR ρ σ cur w) (h : s.ld b o n = some cs) (hb : cur b = s.heap.get b) (hl : σ b = some l) :
    ∃ vs, (loadCells ⟨l.blk, l.base + o, none⟩ n).run P w = .ok vs.toArray w ∧ VRl ρ σ cs vs ∧ vs.length = n ∧ (loadCells ⟨l.blk, l.base + o, none⟩ n).run P w.drew = .ok vs.toArray w.drew := by
  obtain ⟨k, hk, hlive, hle, rfl, _⟩ := ld_parts h
  obtain ⟨c, t, hc, hsz, hesz, hfit, hr⟩ := hH.cell b k l (hb.trans hk) hlive hl
  have hlen := hr.length
  simp only [List.length_take, List.length_drop, Array.length_toList] at hlen
  have h1 := (hr.drop o).take n
  have h3 : ((((c.toList.drop l.base).take k.cells.length).drop o).take n).length = n := by rw [h1.length]; simp; omega
  have key : ∀ W : World, W.heap = w.heap → (loadCells ⟨l.blk, l.base + o, none⟩ n).run P W = .ok ((((c.toList.drop l.base).take k.cells.length).drop o).take n).toArray W := fun W hW => by
   have hc : W.heap[l.blk]? = some (Obj.cells c t) := by rw [hW]; exact hc
   have := run_loadCells_list (P := P) W ⟨l.blk, l.base + o, none⟩ ((((c.toList.drop l.base).take k.cells.length).drop o).take n) (fun j v hj => by
    rw [add_none]
    simp only [World.cell?, hc]
    have hj' : j < n := by rw [← h3]; exact (List.getElem?_eq_some_iff.1 hj).1
    rw [List.getElem?_take_of_lt hj', List.getElem?_drop, List.getElem?_take_of_lt (by omega), List.getElem?_drop, Array.getElem?_toList] at hj
    simpa [Nat.add_assoc] using hj)
   rw [h3] at this
   exact this
  exact ⟨_, key w rfl, h1, h3, key w.drew rfl⟩

theorem ld_run1 {P : Program} {ρ : Env} {σ : Mp} {cur : Cur} {w : World} {s : St} {b o : Nat} {c : CV} {l : Loc} (hH : HR ρ σ cur w) (h : s.ld b o 1 = some [c]) (hb : cur b = s.heap.get b) (hl : σ b = some l) :
    ∃ v, (load ⟨l.blk, l.base + o, none⟩).run P w = .ok v w ∧ VR ρ σ c v := by
  obtain ⟨vs, h1, h2, h3, _⟩ := ld_run (P := P) hH h hb hl
  obtain ⟨v, rfl⟩ : ∃ v, vs = [v] := by
    match vs, h3 with
    | [v], _ => exact ⟨v, rfl⟩
  cases h2 with
  | cons hv _ =>
    refine ⟨v, ?_, hv⟩
    have hh : (⟨l.blk, l.base + o, none⟩ : Addr).add 0 = ⟨l.blk, l.base + o, none⟩ := rfl
    simp only [loadCells, loadCellsFrom, Sem.run_bind, hh] at h1
    cases hr : (load ⟨l.blk, l.base + o, none⟩).run P w with
    | ok x w1 =>
      rw [hr] at h1
      simp only [Result.andThen, Sem.run_pure] at h1
      injection h1 with e1 e2
      subst e2
      have : x = v := by simpa using e1
      rw [this]
    | halt x w1 => rw [hr] at h1; cases h1

/-! ## A new block -/

theorem new_get (s : St) (l : List CV) (e b : Nat) : (s.new l e).heap.get b = if b = s.next then some ⟨l, e, true⟩ else s.heap.get b := Tr.get_set _ _ _ _

theorem alloc_get {w : World} {o : Obj} {k : Nat} (h : k < w.heap.size) : (w.alloc o).heap[k]? = w.heap[k]? := Below.heap_alloc _ _ _ h
theorem alloc_new (w : World) (o : Obj) : (w.alloc o).heap[w.heap.size]? = some o := by
  show (w.heap.push o)[w.heap.size]? = some o
  simp

theorem HR.lt {ρ : Env} {σ : Mp} {cur : Cur} {w : World} (h : HR ρ σ cur w) {b : Nat} {k : Blk} {l : Loc} (h1 : cur b = some k) (h2 : k.live = true) (h3 : σ b = some l) : l.blk < w.heap.size := by
  obtain ⟨c, t, hc, _⟩ := h.cell b k l h1 h2 h3
  exact (Array.getElem?_eq_some_iff.1 hc).1

/-- A block of which the cells up to a number are known, at a new real block; what of it was killed before is gone. -/
theorem post_new {ρ : Env} {σ : Mp} {cur : Cur} {w : World} {s s0 : St} {l : List CV} {vs : List Value} {t : TypeId} {e : Nat} {rest : List Value} {c : CV} {v : Value} {n : Nat} {K : List Nat}
    (hH : HR ρ σ cur w) (hv : VRl ρ σ l vs) (hn : s.next = n) (hσ : σ n = none)
    (hK : ∀ b ∈ K, b ≠ n ∧ ∀ k, s.heap.get b = some k → k.live = false)
    (hc : VR ρ (fun b => if b = n then some ⟨w.heap.size, 0, (vs ++ rest).length, e⟩ else σ b) c v) :
    Post ρ σ cur n w c (s.new l e) K v (w.alloc (.cells (vs ++ rest).toArray t)) := by
  have hnx : (s.new l e).next = n + 1 := by simp [St.new, hn]
  have hle : σ.le (fun b => if b = n then some ⟨w.heap.size, 0, (vs ++ rest).length, e⟩ else σ b) := fun b l' hb => by
    show (if b = n then _ else σ b) = _
    rw [if_neg (fun h => by rw [h, hσ] at hb; cases hb)]; exact hb
  have hup : ∀ b k, upd cur n (n + 1) (s.new l e).heap K b = some k → k.live = true → (b = n ∧ k = ⟨l, e, true⟩) ∨ (b ≠ n ∧ cur b = some k) := by
    intro b k hk hl
    unfold upd at hk
    split at hk
    · rename_i hb
      rw [new_get, hn] at hk
      by_cases hbn : b = n
      · rw [if_pos hbn] at hk; exact .inl ⟨hbn, (Option.some.inj hk).symm⟩
      · rw [if_neg hbn] at hk
        rcases hb with hb | hb
        · have := (hK b hb).2 k hk; rw [this] at hl; cases hl
        · omega
    · rename_i hb
      refine .inr ⟨fun h => hb (.inr (by omega)), hk⟩
  refine ⟨_, ?_, hc, ?_, ?_, ?_⟩
  · intro b hb
    show (if b = n then _ else σ b) = σ b
    rw [if_neg (by omega)]
  · rw [hnx]
    refine ⟨fun b k l' hk hl hl' => ?_, fun b b' k k' l1 l2 hk hl hl1 hk' hl' hl2 heq => ?_⟩
    · rcases hup b k hk hl with ⟨rfl, rfl⟩ | ⟨hne, hcb⟩
      · rw [if_pos rfl] at hl'
        obtain rfl := Option.some.inj hl'
        refine ⟨_, t, alloc_new _ _, by simp, rfl, by simp [hv.length], ?_⟩
        have hlen := hv.length
        have : ((((vs ++ rest).toArray).toList.drop 0).take l.length) = vs := by simp [← hlen]
        rw [this]
        exact hv.mono hle
      · simp only [if_neg hne] at hl'
        obtain ⟨c', t', h1, h2, h3, h5, h4⟩ := hH.cell b k l' hcb hl hl'
        exact ⟨c', t', by rw [alloc_get (Array.getElem?_eq_some_iff.1 h1).1]; exact h1, h2, h3, h5, h4.mono hle⟩
    · rcases hup b k hk hl with ⟨rfl, rfl⟩ | ⟨hne, hcb⟩ <;> rcases hup b' k' hk' hl' with ⟨rfl, rfl⟩ | ⟨hne', hcb'⟩
      · rfl
      · rw [if_pos rfl] at hl1
        obtain rfl := Option.some.inj hl1
        simp only [if_neg hne'] at hl2
        have := hH.lt hcb' hl' hl2
        simp only at heq; omega
      · rw [if_pos rfl] at hl2
        obtain rfl := Option.some.inj hl2
        simp only [if_neg hne] at hl1
        have := hH.lt hcb hl hl1
        simp only at heq; omega
      · simp only [if_neg hne] at hl1; simp only [if_neg hne'] at hl2
        exact hH.inj b b' k k' l1 l2 hcb hl hl1 hcb' hl' hl2 heq
  · exact ⟨rfl, rfl, rfl, by simp, fun k hk _ => alloc_get hk⟩
  · intro b l' h1 h2 h3
    rw [hnx] at h2
    obtain rfl : b = n := by omega
    simp only [if_true] at h3
    obtain rfl := Option.some.inj h3
    exact .inl (Nat.le_refl _)

/-! ## Writing -/

theorem setRow_get {w : World} {g k : Nat} {cs : Array Value} (h : k ≠ g) : (w.setRow g cs).heap[k]? = w.heap[k]? := by
  simp only [World.setRow, Array.getElem?_modify]
  rw [if_neg (by omega)]

theorem st_parts {s s' : St} {b o : Nat} {l : List CV} (h : s.st b o l = some s') : ∃ k, s.heap.get b = some k ∧ k.live = true ∧ o + l.length ≤ k.cells.length ∧ (∀ c ∈ l, c.flat = true) ∧ b < s.next ∧
    s' = { s with heap := s.heap.set b { k with cells := k.cells.take o ++ l ++ k.cells.drop (o + l.length) } } := by
  unfold St.st at h
  split at h
  · rename_i k hk
    refine ⟨k, hk, ?_⟩
    by_cases hc : (k.live && Nat.ble (o + l.length) k.cells.length && l.all CV.flat && Nat.blt b s.next) = true
    · rw [hc, cond_true] at h
      simp only [Bool.and_eq_true, List.all_eq_true] at hc
      exact ⟨hc.1.1.1, Nat.le_of_ble_eq_true hc.1.1.2, hc.1.2, Nat.lt_of_succ_le (Nat.le_of_ble_eq_true hc.2), (Option.some.inj h).symm⟩
    · rw [Bool.not_eq_true] at hc; rw [hc, cond_false] at h; cases h
  · cases h

theorem VRl.flat {ρ : Env} {σ : Mp} : ∀ {l : List CV} {vs : List Value}, VRl ρ σ l vs → (∀ c ∈ l, c.flat = true) → ∀ v ∈ vs, v.oneCell' = true
  | _, _, .nil, _, v, hv => by cases hv
  | _, _, .cons h t, hf, v, hv => by
    cases hv with
    | head => exact h.flat (hf _ (by simp))
    | tail _ hv => exact VRl.flat t (fun c hc => hf c (by simp [hc])) v hv

theorem st_run {P : Program} {ρ : Env} {σ : Mp} {cur : Cur} {w : World} {s s' : St} {b o : Nat} {l : List CV} {vs : List Value} {lc : Loc} (hH : HR ρ σ cur w) (h : s.st b o l = some s') (hb : cur b = s.heap.get b) (hl : σ b = some lc) (hv : VRl ρ σ l vs) :
    ∃ w', (storeCells ⟨lc.blk, lc.base + o, none⟩ vs).run P w = .ok () w' ∧ HR ρ σ (upd cur s.next s'.next s'.heap [b]) w' ∧ Keeps σ s.next [b] w w' := by
  obtain ⟨k, hk, hlive, hle, hflat, _, rfl⟩ := st_parts h
  obtain ⟨c, t, hc, hsz, hesz, hfit, hr⟩ := hH.cell b k lc (hb.trans hk) hlive hl
  have hlen := hr.length
  simp only [List.length_take, List.length_drop, Array.length_toList] at hlen
  have hvl := hv.length
  have hrun := run_storeCells_at P lc.blk (lc.base + o) t vs 0 c w hc (by omega) (hv.flat hflat)
  refine ⟨_, hrun, ?_, ?_⟩
  · have hup : ∀ b' k', upd cur s.next s.next (s.heap.set b { k with cells := k.cells.take o ++ l ++ k.cells.drop (o + l.length) }) [b] b' = some k' →
        (b' = b ∧ k' = { k with cells := k.cells.take o ++ l ++ k.cells.drop (o + l.length) }) ∨ (b' ≠ b ∧ cur b' = some k') := by
      intro b' k' h'
      unfold upd at h'
      by_cases e : b' = b
      · rw [if_pos (by simp [e]), Tr.get_set, if_pos e] at h'
        exact .inl ⟨e, (Option.some.inj h').symm⟩
      · rw [if_neg (by simp [e])] at h'
        exact .inr ⟨e, h'⟩
    refine ⟨fun b' k' l' hk' hlv' hl' => ?_, fun b1 b2 k1 k2 l1 l2 h1 h2 h3 h4 h5 h6 h7 => ?_⟩
    · rcases hup b' k' hk' with ⟨rfl, rfl⟩ | ⟨hne, hcb⟩
      · rw [hl] at hl'
        obtain rfl := Option.some.inj hl'
        refine ⟨_, t, setRow_heap w _ c _ t _ hc, ?_, hesz, ?_, ?_⟩
        · simp only [List.size_toArray, List.length_append, List.length_take, List.length_drop, Array.length_toList]; omega
        · simp only [List.length_append, List.length_take, List.length_drop]; omega
        · refine VRl.mk ?_ fun i x hx => ?_
          · simp only [List.length_append, List.length_take, List.length_drop, Array.length_toList]; omega
          · have hi : i < k.cells.length := by
              have := (List.getElem?_eq_some_iff.1 hx).1
              simp only [List.length_append, List.length_take, List.length_drop] at this; omega
            rw [List.getElem?_take_of_lt (by simp only [List.length_append, List.length_take, List.length_drop]; omega), List.getElem?_drop]
            simp only [Nat.add_zero]
            by_cases h1 : i < o
            · rw [List.append_assoc, List.getElem?_append_left (by simp; omega), List.getElem?_take_of_lt (by omega)] at hx ⊢
              obtain ⟨v, hv1, hv2⟩ := hr.get hx
              rw [List.getElem?_take_of_lt (by omega), List.getElem?_drop] at hv1
              exact ⟨v, hv1, hv2⟩
            · by_cases h2 : i < o + l.length
              · rw [List.getElem?_append_left (by simp; omega), List.getElem?_append_right (by simp; omega)] at hx ⊢
                simp only [List.length_take] at hx ⊢
                rw [show i - min o k.cells.length = i - o by omega] at hx
                obtain ⟨v, hv1, hv2⟩ := hv.get hx
                exact ⟨v, by rw [← hv1]; congr 1; simp only [Array.length_toList]; omega, hv2⟩
              · rw [List.getElem?_append_right (by simp; omega), List.getElem?_drop] at hx ⊢
                simp only [List.length_append, List.length_take] at hx ⊢
                have e1 : o + l.length + (i - (min o k.cells.length + l.length)) = i := by omega
                rw [e1] at hx
                obtain ⟨v, hv1, hv2⟩ := hr.get hx
                rw [List.getElem?_take_of_lt (by omega), List.getElem?_drop] at hv1
                refine ⟨v, ?_, hv2⟩
                rw [← hv1]; congr 1; simp only [Array.length_toList]; omega
      · obtain ⟨c', t', e1, e2, e3, e5, e4⟩ := hH.cell b' k' l' hcb hlv' hl'
        have hnb : l'.blk ≠ lc.blk := fun e => hne (hH.inj b' b k' k l' lc hcb hlv' hl' (hb.trans hk) hlive hl e)
        exact ⟨c', t', by rw [setRow_get hnb]; exact e1, e2, e3, e5, e4⟩
    · rcases hup b1 k1 h1 with ⟨rfl, rfl⟩ | ⟨hne, hcb⟩ <;> rcases hup b2 k2 h4 with ⟨rfl, rfl⟩ | ⟨hne', hcb'⟩
      · rfl
      · exact hH.inj _ _ k k2 l1 l2 (hb.trans hk) hlive h3 hcb' h5 h6 h7
      · exact hH.inj _ _ k1 k l1 l2 hcb h2 h3 (hb.trans hk) hlive h6 h7
      · exact hH.inj b1 b2 k1 k2 l1 l2 hcb h2 h3 hcb' h5 h6 h7
  · refine ⟨rfl, rfl, rfl, ?_, fun j hj hne => ?_⟩
    · simp [World.setRow]
    · exact setRow_get (fun e => hne b (.inl (by simp)) lc hl e.symm)

/-! ## An append in place -/

theorem kill_get {s : St} {b : Nat} {k : Blk} (h : s.heap.get b = some k) (x : Nat) : (s.kill b).heap.get x = if x = b then some { k with live := false } else s.heap.get x := by
  unfold St.kill; rw [h]; exact Tr.get_set _ _ _ _
theorem kill_next (s : St) (b : Nat) : (s.kill b).next = s.next := by unfold St.kill; split <;> rfl
theorem kill_pc (s : St) (b : Nat) : (s.kill b).pc = s.pc := by unfold St.kill; split <;> rfl

theorem place_run {P : Program} {ρ : Env} {σ : Mp} {cur : Cur} {w : World} {s : St} {b o m : Nat} {l : List CV} {vs : List Value} {lc : Loc} {k : Blk} (hH : HR ρ σ cur w) (hk : s.heap.get b = some k) (hlive : k.live = true) (hle : o + m ≤ k.cells.length) (hb : cur b = s.heap.get b) (hl : σ b = some lc) (hv : VRl ρ σ l vs) (hflat : ∀ c ∈ l, c.flat = true) (hfit2 : lc.base + o + m + vs.length ≤ lc.size) (hσ : σ s.next = none) :
    ∃ w', (storeCells ⟨lc.blk, lc.base + o + m, none⟩ vs).run P w = .ok () w' ∧ HR ρ (fun x => if x = s.next then some ⟨lc.blk, lc.base + o, lc.size, lc.esz⟩ else σ x) (upd cur s.next (s.next + 1) ((s.kill b).new ((k.cells.drop o).take m ++ l) k.esz).heap [b]) w' ∧ Keeps σ s.next [b] w w' := by
  obtain ⟨c, t, hc, hsz, hesz, hfit, hr⟩ := hH.cell b k lc (hb.trans hk) hlive hl
  have hlen := hr.length
  simp only [List.length_take, List.length_drop, Array.length_toList] at hlen
  have hvl := hv.length
  have hrun := run_storeCells_at P lc.blk (lc.base + o + m) t vs 0 c w hc (by omega) (hv.flat hflat)
  have hle' : σ.le (fun x => if x = s.next then some ⟨lc.blk, lc.base + o, lc.size, lc.esz⟩ else σ x) := fun x l' hx => by
    show (if x = s.next then _ else σ x) = _
    rw [if_neg (fun h => by rw [h, hσ] at hx; cases hx)]; exact hx
  have hup : ∀ x kx, upd cur s.next (s.next + 1) ((s.kill b).new ((k.cells.drop o).take m ++ l) k.esz).heap [b] x = some kx → kx.live = true → (x = s.next ∧ kx = ⟨(k.cells.drop o).take m ++ l, k.esz, true⟩) ∨ (x ≠ s.next ∧ x ≠ b ∧ cur x = some kx) := by
    intro x kx hx hlv
    unfold upd at hx
    split at hx
    · rename_i hxx
      rw [new_get, kill_next] at hx
      by_cases e : x = s.next
      · rw [if_pos e] at hx; exact .inl ⟨e, (Option.some.inj hx).symm⟩
      · rw [if_neg e, kill_get hk] at hx
        have e2 : x = b := by rcases hxx with h | h; · simpa using h
                              · omega
        rw [if_pos e2] at hx
        obtain rfl := Option.some.inj hx
        cases hlv
    · rename_i hxx
      exact .inr ⟨fun e => hxx (.inr (by omega)), fun e => hxx (.inl (by simp [e])), hx⟩
  refine ⟨_, hrun, ?_, ?_⟩
  · refine ⟨fun x kx lx hx hlv hlx => ?_, fun b1 b2 k1 k2 l1 l2 h1 h2 h3 h4 h5 h6 h7 => ?_⟩
    · rcases hup x kx hx hlv with ⟨rfl, rfl⟩ | ⟨hne, hnb, hcx⟩
      · rw [if_pos rfl] at hlx
        obtain rfl := Option.some.inj hlx
        refine ⟨_, t, setRow_heap w _ c _ t _ hc, ?_, hesz, ?_, ?_⟩
        · simp only [List.size_toArray, List.length_append, List.length_take, List.length_drop, Array.length_toList]; omega
        · simp only [List.length_append, List.length_take, List.length_drop]; omega
        · refine VRl.mono hle' (VRl.mk ?_ fun i y hy => ?_)
          · simp only [List.length_append, List.length_take, List.length_drop, Array.length_toList]; omega
          · have hi : i < m + l.length := by
              have := (List.getElem?_eq_some_iff.1 hy).1
              simp only [List.length_append, List.length_take, List.length_drop] at this; omega
            rw [List.getElem?_take_of_lt (by simp only [List.length_append, List.length_take, List.length_drop]; omega), List.getElem?_drop]
            simp only [Nat.add_zero]
            by_cases h1 : i < m
            · rw [List.getElem?_append_left (by simp; omega), List.getElem?_take_of_lt (by omega), List.getElem?_drop] at hy
              obtain ⟨v, hv1, hv2⟩ := hr.get hy
              rw [List.getElem?_take_of_lt (by omega), List.getElem?_drop] at hv1
              refine ⟨v, ?_, hv2⟩
              rw [List.append_assoc, List.getElem?_append_left (by simp; omega), List.getElem?_take_of_lt (by omega), ← hv1]
              congr 1; omega
            · rw [List.getElem?_append_right (by simp; omega)] at hy
              simp only [List.length_take, List.length_drop] at hy
              rw [show i - min m (k.cells.length - o) = i - m by omega] at hy
              obtain ⟨v, hv1, hv2⟩ := hv.get hy
              refine ⟨v, ?_, hv2⟩
              rw [List.getElem?_append_left (by simp; omega), List.getElem?_append_right (by simp; omega), ← hv1]
              congr 1; simp only [List.length_take, Array.length_toList]; omega
      · simp only [if_neg hne] at hlx
        obtain ⟨c', t', e1, e2, e3, e5, e4⟩ := hH.cell x kx lx hcx hlv hlx
        have hnb' : lx.blk ≠ lc.blk := fun e => hnb (hH.inj x b kx k lx lc hcx hlv hlx (hb.trans hk) hlive hl e)
        exact ⟨c', t', by rw [setRow_get hnb']; exact e1, e2, e3, e5, e4.mono hle'⟩
    · rcases hup b1 k1 h1 h2 with ⟨rfl, rfl⟩ | ⟨hne, hnb, hcb⟩ <;> rcases hup b2 k2 h4 h5 with ⟨rfl, rfl⟩ | ⟨hne', hnb', hcb'⟩
      · rfl
      · rw [if_pos rfl] at h3
        obtain rfl := Option.some.inj h3
        simp only [if_neg hne'] at h6
        exact absurd (hH.inj b b2 k k2 lc l2 (hb.trans hk) hlive hl hcb' h5 h6 h7).symm hnb'
      · rw [if_pos rfl] at h6
        obtain rfl := Option.some.inj h6
        simp only [if_neg hne] at h3
        exact absurd (hH.inj b1 b k1 k l1 lc hcb h2 h3 (hb.trans hk) hlive hl h7) hnb
      · simp only [if_neg hne] at h3; simp only [if_neg hne'] at h6
        exact hH.inj b1 b2 k1 k2 l1 l2 hcb h2 h3 hcb' h5 h6 h7
  · refine ⟨rfl, rfl, rfl, ?_, fun j hj hne => ?_⟩
    · simp [World.setRow]
    · exact setRow_get (fun e => hne b (.inl (by simp)) lc hl e.symm)

end Go.Proofs.Ytlffofemajfdjaa.Cx
