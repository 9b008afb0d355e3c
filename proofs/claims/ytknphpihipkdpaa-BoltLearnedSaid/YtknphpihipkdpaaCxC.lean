/- What it means that a real world stands for canonical memory; reading, writing and making blocks in both. -/
import Derived.Test.YtknphpihipkdpaaCxB
import Derived.Laws.NewFold
import Derived.Laws.Tables
import Derived.RangeFuncRecord
import Derived.RangeFuncIn
import Derived.RangeFuncLeaves
set_option linter.unusedSimpArgs false
set_option linter.unusedVariables false
namespace Go.Proofs.Ytknphpihipkdpaa.Cx
open Go Go.RowKit

/-! ## The regions' orders -/

/-- The order of a region's temporaries is what its edges say. -/
def apartOk1 (ops : Array Oper) (i : Nat) (o : Oper) : List Oper → List Nat → Bool
  | x :: l, p :: ps => (Nat.testBit p i || o.apart ops x) && apartOk1 ops i o l ps
  | _, _ => true
def apartOk (ops : Array Oper) : Nat → List Oper → List Nat → Bool
  | i, o :: l, _ :: ps => o.after.toList.all (fun e => !Region.binds .any e || Nat.blt e.on i) && apartOk1 ops i o l ps && apartOk ops (i + 1) l ps
  | _, _, _ => true
def regOk (ops : Array Oper) : Bool := apartOk ops 0 ops.toList (preds ops.toList [])

def regsOk : Code → Bool
  | .region _ ops draw => !draw || regOk ops
  | .seq a b => regsOk a && regsOk b
  | .cond _ a b => regsOk a && regsOk b
  | .block _ b => regsOk b
  | .loop b => regsOk b
  | .scope b => regsOk b
  | .rangeFunc _ _ a b => regsOk a && regsOk b
  | _ => true

abbrev Cur := Nat → Option Blk

/-- Entries of a map. -/
inductive MRl (ρ : Env) (σ : Mp) : List (CV × CV) → List MapEntry → Prop
  | nil : MRl ρ σ [] []
  | cons {k v : CV} {e : MapEntry} {l : List (CV × CV)} {m : List MapEntry} (hk : VR ρ σ k e.key) (hv : VR ρ σ v e.val) (t : MRl ρ σ l m) : MRl ρ σ ((k, v) :: l) (e :: m)

theorem MRl.mono {ρ : Env} {σ τ : Mp} (hl : σ.le τ) {l : List (CV × CV)} {m : List MapEntry} (h : MRl ρ σ l m) : MRl ρ τ l m := by
  induction h with
  | nil => exact .nil
  | cons hk hv _ ih => exact .cons (hk.mono hl) (hv.mono hl) ih

theorem MRl.length {ρ : Env} {σ : Mp} {l : List (CV × CV)} {m : List MapEntry} (h : MRl ρ σ l m) : m.length = l.length := by
  induction h with
  | nil => rfl
  | cons _ _ _ ih => simp [ih]

/-- A real block holds what is not cells. -/
inductive XR (ρ : Env) (σ : Mp) (w : World) (g : Nat) : BX → Prop
  | loop {r : LR} (q : Loop) (h : w.heap[g]? = some (.loop q)) (hs : q.state = r.st) (hp : q.pending = r.pend) (hps : q.params = r.ps) (ha : q.assign = r.assign) (hb : q.body = r.body) (hn : q.tmps.size = r.nt) (hT : ∀ t, VR ρ σ (match r.T.get t with | some c => c | none => .any) (q.tmps.getD t undef)) (ra : regsOk r.assign = true) (rb : regsOk r.body = true) : XR ρ σ w g (.loop r)
  | map {l : List (CV × CV)} (ents : Array MapEntry) (h : w.heap[g]? = some (.map ents ents.size)) (hb : ∀ (i : Nat) (e : MapEntry), ents[i]? = some e → e.born = i) (hm : MRl ρ σ l ents.toList) : XR ρ σ w g (.map l)

theorem XR.mono {ρ : Env} {σ τ : Mp} {w : World} {g : Nat} {x : BX} (hl : σ.le τ) (h : XR ρ σ w g x) : XR ρ τ w g x := by
  cases h with
  | loop q h hs hp hps ha hb hn hT ra rb => exact .loop q h hs hp hps ha hb hn (fun t => (hT t).mono hl) ra rb
  | map ents h hb hm => exact .map ents h hb (hm.mono hl)

theorem XR.heap {ρ : Env} {σ : Mp} {w w' : World} {g : Nat} {x : BX} (h : XR ρ σ w g x) (he : w'.heap[g]? = w.heap[g]?) : XR ρ σ w' g x := by
  cases h with
  | loop q h hs hp hps ha hb hn hT ra rb => exact .loop q (he.trans h) hs hp hps ha hb hn hT ra rb
  | map ents h hb hm => exact .map ents (he.trans h) hb hm

theorem XR.lt {ρ : Env} {σ : Mp} {w : World} {g : Nat} {x : BX} (h : XR ρ σ w g x) : g < w.heap.size := by
  cases h with
  | loop q h => exact (Array.getElem?_eq_some_iff.1 h).1
  | map ents h => exact (Array.getElem?_eq_some_iff.1 h).1

theorem XR.no_cells {ρ : Env} {σ : Mp} {w : World} {g : Nat} {x : BX} (h : XR ρ σ w g x) {c : Array Value} {t : TypeId} {p : Nat × Nat} (hc : w.heap[g]? = some (.cells c t p)) : False := by
  cases h with
  | loop q h => rw [hc] at h; cases h
  | map ents h => rw [hc] at h; cases h

/-- The real world holds, of each block that may be read and that is mapped, its cells; no two of them lie in one real block. So also of records of loops and of maps. -/
structure HR (ρ : Env) (σ : Mp) (cur : Cur) (w : World) : Prop where
  cell : ∀ b k l, cur b = some k → k.live = true → σ b = some l → ∃ c t p, w.heap[l.blk]? = some (.cells c t p) ∧ (k.ro = false → p = (0, 0)) ∧ c.size = l.size ∧ k.esz = l.esz ∧ l.base + k.cells.length ≤ l.size ∧ VRl ρ σ k.cells ((c.toList.drop l.base).take k.cells.length)
  inj : ∀ b b' k k' l l', cur b = some k → k.live = true → σ b = some l → cur b' = some k' → k'.live = true → σ b' = some l' → l.blk = l'.blk → (k.ro = false ∨ k'.ro = false) → b = b'
  spec : ∀ b k x l, cur b = some k → k.ext = some x → σ b = some l → XR ρ σ w l.blk x
  injX : ∀ b b' k k' x x' l l', cur b = some k → k.ext = some x → σ b = some l → cur b' = some k' → k'.ext = some x' → σ b' = some l' → l.blk = l'.blk → b = b'

/-- But for the real blocks of W, and of numbers from base on, the world is as it was. -/
structure Keeps (σ : Mp) (base : Nat) (W : List Nat) (w w' : World) : Prop where
  os : w'.os = w.os
  tape : w'.tape = w.tape
  output : w'.output = w.output
  size : w.heap.size ≤ w'.heap.size
  block : ∀ k, k < w.heap.size → (∀ b, b ∈ W ∨ base ≤ b → ∀ l, σ b = some l → l.blk ≠ k) → w'.heap[k]? = w.heap[k]?
  loops : ∀ (k : Nat) (r : Loop), w.heap[k]? = some (.loop r) → ∃ r', w'.heap[k]? = some (.loop r')
  defd : ∀ (k : Nat), w.heap[k]? = some (.deferred (some [])) → w'.heap[k]? = some (.deferred (some []))

theorem Keeps.refl (σ : Mp) (base : Nat) (W : List Nat) (w : World) : Keeps σ base W w w := ⟨rfl, rfl, rfl, Nat.le_refl _, fun _ _ _ => rfl, fun _ r h => ⟨r, h⟩, fun _ h => h⟩
theorem Keeps.drew (σ : Mp) (base : Nat) (W : List Nat) (w : World) : Keeps σ base W w w.drew := ⟨rfl, rfl, rfl, Nat.le_refl _, fun _ _ _ => rfl, fun _ r h => ⟨r, h⟩, fun _ h => h⟩

/-- Blocks below a number lie as they lay: whatever they hold. -/
theorem Keeps.of_same {σ : Mp} {base : Nat} {W : List Nat} {w w' : World} (h1 : w'.os = w.os) (h2 : w'.tape = w.tape) (h3 : w'.output = w.output) (h4 : w.heap.size ≤ w'.heap.size) (h : ∀ k, k < w.heap.size → w'.heap[k]? = w.heap[k]?) : Keeps σ base W w w' :=
  ⟨h1, h2, h3, h4, fun k hk _ => h k hk, fun k r hr => ⟨r, (h k (Array.getElem?_eq_some_iff.1 hr).1).trans hr⟩, fun k hr => (h k (Array.getElem?_eq_some_iff.1 hr).1).trans hr⟩

/-- The new map: as the old one but on the new numbers. -/
def Ext (σ σ' : Mp) (n n' : Nat) : Prop := ∀ b, (b < n ∨ n' ≤ b) → σ' b = σ b

noncomputable def upd (cur : Cur) (n n' : Nat) (h : Tr Blk) (W : List Nat) : Cur := fun b => if b ∈ W ∨ (n ≤ b ∧ b < n') then h.get b else cur b

theorem upd_none (cur : Cur) (n : Nat) (h : Tr Blk) : upd cur n n h [] = cur := by
  funext b; unfold upd; rw [if_neg]; simp

/-- A new block lies in a new real block, or in one that was written. -/
def Fresh (σ σ' : Mp) (n n' base : Nat) (W : List Nat) (w : World) : Prop := ∀ b l, n ≤ b → b < n' → σ' b = some l → w.heap.size ≤ l.blk ∨ ∃ b0, (b0 ∈ W ∨ base ≤ b0) ∧ ∃ l0, σ b0 = some l0 ∧ l0.blk = l.blk

theorem Fresh.none (σ σ' : Mp) (n base : Nat) (W : List Nat) (w : World) : Fresh σ σ' n n base W w := fun b l h1 h2 => by omega

/-- What is left behind an operation, a call. -/
def Post (ρ : Env) (σ : Mp) (cur : Cur) (n : Nat) (w : World) (c : CV) (s' : St) (W : List Nat) (v : Value) (w' : World) : Prop :=
  ∃ σ', Ext σ σ' n s'.next ∧ VR ρ σ' c v ∧ HR ρ σ' (upd cur n s'.next s'.heap W) w' ∧ Keeps σ n W w w' ∧ Fresh σ σ' n s'.next n W w

theorem Ext.refl (σ : Mp) (n n' : Nat) : Ext σ σ n n' := fun _ _ => rfl
theorem Ext.le {σ σ' : Mp} {n n' : Nat} (h : Ext σ σ' n n') (hN : ∀ b, n ≤ b → b < n' → σ b = none) : σ.le σ' := fun b l hb => by
  by_cases h1 : b < n ∨ n' ≤ b
  · rw [h b h1]; exact hb
  · rw [hN b (by omega) (by omega)] at hb; cases hb

theorem post_pure {ρ : Env} {σ : Mp} {cur : Cur} {w : World} {c : CV} {s' : St} {v : Value} {n : Nat} (hn : s'.next = n) (hv : VR ρ σ c v) (hH : HR ρ σ cur w) : Post ρ σ cur n w c s' [] v w :=
  ⟨σ, Ext.refl _ _ _, hv, by rw [hn, upd_none]; exact hH, Keeps.refl _ _ _ _, by rw [hn]; exact Fresh.none _ _ _ _ _ _⟩

theorem HR.drew {ρ : Env} {σ : Mp} {cur : Cur} {w : World} (h : HR ρ σ cur w) : HR ρ σ cur w.drew := ⟨h.cell, h.inj, fun b k x l h1 h2 h3 => (h.spec b k x l h1 h2 h3).heap rfl, h.injX⟩

theorem add_none (b o n : Nat) : (⟨b, o, none⟩ : Addr).add n = ⟨b, o + n, none⟩ := by
  unfold Addr.add; split
  · subst_vars; rfl
  · rfl

/-! ## Reading -/

theorem ld_parts {s : St} {b o n : Nat} {cs : List CV} (h : s.ld b o n = some cs) : ∃ k, s.heap.get b = some k ∧ k.live = true ∧ o + n ≤ k.cells.length ∧ cs = (k.cells.drop o).take n ∧ b < s.next := by
  unfold St.ld at h
  split at h
  · rename_i k hk
    refine ⟨k, hk, ?_⟩
    by_cases hc : (k.live && Nat.ble (o + n) k.cells.length && Nat.blt b s.next) = true
    · rw [hc, cond_true] at h
      simp only [Bool.and_eq_true] at hc
      exact ⟨hc.1.1, Nat.le_of_ble_eq_true hc.1.2, (Option.some.inj h).symm, Nat.lt_of_succ_le (Nat.le_of_ble_eq_true hc.2)⟩
    · rw [Bool.not_eq_true] at hc; rw [hc, cond_false] at h; cases h
  · cases h

theorem ld_run {P : Program} {ρ : Env} {σ : Mp} {cur : Cur} {w : World} {s : St} {b o n : Nat} {cs : List CV} {l : Loc} (hH : HR ρ σ cur w) (h : s.ld b o n = some cs) (hb : cur b = s.heap.get b) (hl : σ b = some l) :
    ∃ vs, (loadCells ⟨l.blk, l.base + o, none⟩ n).run P w = .ok vs.toArray w ∧ VRl ρ σ cs vs ∧ vs.length = n ∧ (loadCells ⟨l.blk, l.base + o, none⟩ n).run P w.drew = .ok vs.toArray w.drew := by
  obtain ⟨k, hk, hlive, hle, rfl, _⟩ := ld_parts h
  obtain ⟨c, t, pphc, hc, qqhc, hsz, hesz, hfit, hr⟩ := hH.cell b k l (hb.trans hk) hlive hl
  have hlen := hr.length
  simp only [List.length_take, List.length_drop, Array.length_toList] at hlen
  have h1 := (hr.drop o).take n
  have h3 : ((((c.toList.drop l.base).take k.cells.length).drop o).take n).length = n := by rw [h1.length]; simp; omega
  have key : ∀ W : World, W.heap = w.heap → (loadCells ⟨l.blk, l.base + o, none⟩ n).run P W = .ok ((((c.toList.drop l.base).take k.cells.length).drop o).take n).toArray W := fun W hW => by
   have hc : W.heap[l.blk]? = some (Obj.cells c t pphc) := by rw [hW]; exact hc
   have := run_loadCells_list (P := P) W ⟨l.blk, l.base + o, none⟩ ((((c.toList.drop l.base).take k.cells.length).drop o).take n) (fun j v hj => by
    rw [add_none]
    simp only [World.cell?, hc]
    have hj' : j < n := by rw [← h3]; exact (List.getElem?_eq_some_iff.1 hj).1
    rw [List.getElem?_take_of_lt hj', List.getElem?_drop, List.getElem?_take_of_lt (by omega), List.getElem?_drop, Array.getElem?_toList] at hj
    simpa [Nat.add_assoc] using hj)
   rw [h3] at this
   exact this
  exact ⟨_, key w rfl, h1, h3, key w.drew rfl⟩

theorem ld_run1 {P : Program} {ρ : Env} {σ : Mp} {cur : Cur} {w : World} {s : St} {b o : Nat} {c : CV} {l : Loc} (hH : HR ρ σ cur w) (h : s.ld b o 1 = some [c]) (hb : cur b = s.heap.get b) (hl : σ b = some l) :
    ∃ v, (load ⟨l.blk, l.base + o, none⟩).run P w = .ok v w ∧ VR ρ σ c v := by
  obtain ⟨vs, h1, h2, h3, _⟩ := ld_run (P := P) hH h hb hl
  obtain ⟨v, rfl⟩ : ∃ v, vs = [v] := by
    match vs, h3 with
    | [v], _ => exact ⟨v, rfl⟩
  cases h2 with
  | cons hv _ =>
    refine ⟨v, ?_, hv⟩
    have hh : (⟨l.blk, l.base + o, none⟩ : Addr).add 0 = ⟨l.blk, l.base + o, none⟩ := rfl
    simp only [loadCells, loadCellsFrom, Sem.run_bind, hh] at h1
    cases hr : (load ⟨l.blk, l.base + o, none⟩).run P w with
    | ok x w1 =>
      rw [hr] at h1
      simp only [Result.andThen, Sem.run_pure] at h1
      injection h1 with e1 e2
      subst e2
      have : x = v := by simpa using e1
      rw [this]
    | halt x w1 => rw [hr] at h1; cases h1

/-! ## A new block -/

theorem new_get (s : St) (l : List CV) (e b : Nat) : (s.new l e).heap.get b = if b = s.next then some ⟨.lit l, e, true, none⟩ else s.heap.get b := Tr.get_set _ _ _ _
theorem newB_get (s : St) (B : BC) (e b : Nat) : (s.newB B e).heap.get b = if b = s.next then some ⟨B, e, true, none⟩ else s.heap.get b := Tr.get_set _ _ _ _

theorem alloc_get {w : World} {o : Obj} {k : Nat} (h : k < w.heap.size) : (w.alloc o).heap[k]? = w.heap[k]? := Below.heap_alloc _ _ _ h
theorem alloc_new (w : World) (o : Obj) : (w.alloc o).heap[w.heap.size]? = some o := by
  show (w.heap.push o)[w.heap.size]? = some o
  simp

theorem HR.lt {ρ : Env} {σ : Mp} {cur : Cur} {w : World} (h : HR ρ σ cur w) {b : Nat} {k : Blk} {l : Loc} (h1 : cur b = some k) (h2 : k.live = true) (h3 : σ b = some l) : l.blk < w.heap.size := by
  obtain ⟨c, t, pphc, hc, qqhc, _⟩ := h.cell b k l h1 h2 h3
  exact (Array.getElem?_eq_some_iff.1 hc).1

/-- A block of which the cells up to a number are known, at a new real block; what of it was killed before is gone. -/
theorem post_newB {B : BC} {ρ : Env} {σ : Mp} {cur : Cur} {w : World} {s s0 : St} {vs : List Value} {t : TypeId} {e : Nat} {rest : List Value} {c : CV} {v : Value} {n : Nat} {K : List Nat}
    (hH : HR ρ σ cur w) (hv : VRl ρ σ B.list vs) (hn : s.next = n) (hσ : σ n = none)
    (hK : ∀ b ∈ K, b ≠ n ∧ ∀ k, s.heap.get b = some k → k.live = false ∧ k.ext = none)
    (hc : VR ρ (fun b => if b = n then some ⟨w.heap.size, 0, (vs ++ rest).length, e⟩ else σ b) c v) :
    Post ρ σ cur n w c (s.newB B e) K v (w.alloc (.cells (vs ++ rest).toArray t)) := by
  have hnx : (s.newB B e).next = n + 1 := by simp [St.newB, hn]
  have hle : σ.le (fun b => if b = n then some ⟨w.heap.size, 0, (vs ++ rest).length, e⟩ else σ b) := fun b l' hb => by
    show (if b = n then _ else σ b) = _
    rw [if_neg (fun h => by rw [h, hσ] at hb; cases hb)]; exact hb
  have hup : ∀ b k, upd cur n (n + 1) (s.newB B e).heap K b = some k → (k.live = true ∨ k.ext.isSome = true) → (b = n ∧ k = ⟨B, e, true, none⟩) ∨ (b ≠ n ∧ cur b = some k) := by
    intro b k hk hl
    unfold upd at hk
    split at hk
    · rename_i hb
      rw [newB_get, hn] at hk
      by_cases hbn : b = n
      · rw [if_pos hbn] at hk; exact .inl ⟨hbn, (Option.some.inj hk).symm⟩
      · rw [if_neg hbn] at hk
        rcases hb with hb | hb
        · have := (hK b hb).2 k hk; rw [this.1, this.2] at hl; simp at hl
        · omega
    · rename_i hb
      refine .inr ⟨fun h => hb (.inr (by omega)), hk⟩
  refine ⟨_, ?_, hc, ?_, ?_, ?_⟩
  · intro b hb
    show (if b = n then _ else σ b) = σ b
    rw [if_neg (by omega)]
  · rw [hnx]
    refine ⟨fun b k l' hk hl hl' => ?_, fun b b' k k' l1 l2 hk hl hl1 hk' hl' hl2 heq hro => ?_, fun b k x l' hk hx hl' => ?_, fun b b' k k' x x' l1 l2 hk hx hl1 hk' hx' hl2 heq => ?_⟩
    rotate_left 2
    · rcases hup b k hk (.inr (by rw [hx]; rfl)) with ⟨rfl, rfl⟩ | ⟨hne, hcb⟩
      · cases hx
      · simp only [if_neg hne] at hl'
        have := hH.spec b k x l' hcb hx hl'
        exact (this.heap (alloc_get this.lt)).mono hle
    · rcases hup b k hk (.inr (by rw [hx]; rfl)) with ⟨rfl, rfl⟩ | ⟨hne, hcb⟩
      · cases hx
      · rcases hup b' k' hk' (.inr (by rw [hx']; rfl)) with ⟨rfl, rfl⟩ | ⟨hne', hcb'⟩
        · cases hx'
        · simp only [if_neg hne] at hl1; simp only [if_neg hne'] at hl2
          exact hH.injX b b' k k' x x' l1 l2 hcb hx hl1 hcb' hx' hl2 heq
    · rcases hup b k hk (.inl hl) with ⟨rfl, rfl⟩ | ⟨hne, hcb⟩
      · rw [if_pos rfl] at hl'
        obtain rfl := Option.some.inj hl'
        have hcl : Blk.cells ⟨B, e, true, none⟩ = B.list := rfl
        rw [hcl]
        refine ⟨_, t, _, alloc_new _ _, fun _ => rfl, by simp, rfl, by simp [hv.length], ?_⟩
        have hlen := hv.length
        have : ((((vs ++ rest).toArray).toList.drop 0).take B.list.length) = vs := by simp [← hlen]
        rw [this]
        exact hv.mono hle
      · simp only [if_neg hne] at hl'
        obtain ⟨c', t', pph1, h1, qqh1, h2, h3, h5, h4⟩ := hH.cell b k l' hcb hl hl'
        exact ⟨c', t', pph1, by rw [alloc_get (Array.getElem?_eq_some_iff.1 h1).1]; exact h1, qqh1, h2, h3, h5, h4.mono hle⟩
    · rcases hup b k hk (.inl hl) with ⟨rfl, rfl⟩ | ⟨hne, hcb⟩ <;> rcases hup b' k' hk' (.inl hl') with ⟨rfl, rfl⟩ | ⟨hne', hcb'⟩
      · rfl
      · rw [if_pos rfl] at hl1
        obtain rfl := Option.some.inj hl1
        simp only [if_neg hne'] at hl2
        have := hH.lt hcb' hl' hl2
        simp only at heq; omega
      · rw [if_pos rfl] at hl2
        obtain rfl := Option.some.inj hl2
        simp only [if_neg hne] at hl1
        have := hH.lt hcb hl hl1
        simp only at heq; omega
      · simp only [if_neg hne] at hl1; simp only [if_neg hne'] at hl2
        exact hH.inj b b' k k' l1 l2 hcb hl hl1 hcb' hl' hl2 heq hro
  · exact .of_same rfl rfl rfl (by simp) fun k hk => alloc_get hk
  · intro b l' h1 h2 h3
    rw [hnx] at h2
    obtain rfl : b = n := by omega
    simp only [if_true] at h3
    obtain rfl := Option.some.inj h3
    exact .inl (Nat.le_refl _)

theorem post_new {ρ : Env} {σ : Mp} {cur : Cur} {w : World} {s s0 : St} {l : List CV} {vs : List Value} {t : TypeId} {e : Nat} {rest : List Value} {c : CV} {v : Value} {n : Nat} {K : List Nat}
    (hH : HR ρ σ cur w) (hv : VRl ρ σ l vs) (hn : s.next = n) (hσ : σ n = none)
    (hK : ∀ b ∈ K, b ≠ n ∧ ∀ k, s.heap.get b = some k → k.live = false ∧ k.ext = none)
    (hc : VR ρ (fun b => if b = n then some ⟨w.heap.size, 0, (vs ++ rest).length, e⟩ else σ b) c v) :
    Post ρ σ cur n w c (s.new l e) K v (w.alloc (.cells (vs ++ rest).toArray t)) := post_newB (B := .lit l) (s0 := s0) hH hv hn hσ hK hc

/-! ## Writing -/

theorem setRow_get {w : World} {g k : Nat} {cs : Array Value} (h : k ≠ g) : (w.setRow g cs).heap[k]? = w.heap[k]? := by
  simp only [World.setRow, Array.getElem?_modify]
  rw [if_neg (by omega)]

theorem keeps_setRow {σ : Mp} {base : Nat} {W : List Nat} {w : World} {g : Nat} {c cs : Array Value} {t : TypeId} {p : Nat × Nat} (hc : w.heap[g]? = some (.cells c t p)) (h : ∀ j, (∀ b, b ∈ W ∨ base ≤ b → ∀ l, σ b = some l → l.blk ≠ j) → g ≠ j) : Keeps σ base W w (w.setRow g cs) := by
  have ne : ∀ (k : Nat) (o : Obj), w.heap[k]? = some o → (∀ c t p, o ≠ .cells c t p) → k ≠ g := fun k o hk ho e => by subst e; rw [hc] at hk; cases hk; exact ho _ _ _ rfl
  refine ⟨rfl, rfl, rfl, by simp [World.setRow], fun j hj hne => setRow_get (fun e => h j hne e.symm), fun k r hk => ⟨r, ?_⟩, fun k hk => ?_⟩
  · rw [setRow_get (ne k _ hk (fun _ _ _ h => by cases h))]; exact hk
  · rw [setRow_get (ne k _ hk (fun _ _ _ h => by cases h))]; exact hk

theorem st_parts {s s' : St} {b o : Nat} {l : List CV} (h : s.st b o l = some s') : ∃ k, s.heap.get b = some k ∧ k.live = true ∧ o + l.length ≤ k.cells.length ∧ (∀ c ∈ l, c.flat = true) ∧ b < s.next ∧ k.ro = false ∧
    s' = { s with heap := s.heap.set b { k with body := .lit (k.cells.take o ++ l ++ k.cells.drop (o + l.length)) } } := by
  unfold St.st at h
  split at h
  · rename_i k hk
    refine ⟨k, hk, ?_⟩
    by_cases hc : (k.live && Nat.ble (o + l.length) k.cells.length && l.all CV.flat && Nat.blt b s.next && !k.ro) = true
    · rw [hc, cond_true] at h
      simp only [Bool.and_eq_true, List.all_eq_true, Bool.not_eq_true'] at hc
      exact ⟨hc.1.1.1.1, Nat.le_of_ble_eq_true hc.1.1.1.2, hc.1.1.2, Nat.lt_of_succ_le (Nat.le_of_ble_eq_true hc.1.2), hc.2, (Option.some.inj h).symm⟩
    · rw [Bool.not_eq_true] at hc; rw [hc, cond_false] at h; cases h
  · cases h

theorem VRl.flat {ρ : Env} {σ : Mp} : ∀ {l : List CV} {vs : List Value}, VRl ρ σ l vs → (∀ c ∈ l, c.flat = true) → ∀ v ∈ vs, v.oneCell' = true
  | _, _, .nil, _, v, hv => by cases hv
  | _, _, .cons h t, hf, v, hv => by
    cases hv with
    | head => exact h.flat (hf _ (by simp))
    | tail _ hv => exact VRl.flat t (fun c hc => hf c (by simp [hc])) v hv

theorem seg_part {α : Type} (C vs : List α) (B o L : Nat) (h1 : o + vs.length ≤ L) (h2 : B + L ≤ C.length) : ((C.take (B + o) ++ vs ++ C.drop (B + o + vs.length)).drop B).take L = ((C.drop B).take L).take o ++ vs ++ ((C.drop B).take L).drop (o + vs.length) := by
  apply List.ext_getElem?
  intro i
  by_cases hL : i < L
  · rw [List.getElem?_take_of_lt hL, List.getElem?_drop]
    by_cases a : i < o
    · rw [List.append_assoc, List.getElem?_append_left (by simp; omega), List.getElem?_take_of_lt (by omega), List.append_assoc, List.getElem?_append_left (by simp; omega), List.getElem?_take_of_lt a, List.getElem?_take_of_lt hL, List.getElem?_drop]
    · by_cases b : i < o + vs.length
      · rw [List.getElem?_append_left (by simp; omega), List.getElem?_append_right (by simp; omega), List.getElem?_append_left (by simp; omega), List.getElem?_append_right (by simp; omega)]
        congr 1; simp; omega
      · rw [List.getElem?_append_right (by simp; omega), List.getElem?_append_right (by simp; omega), List.getElem?_drop, List.getElem?_drop, List.getElem?_take_of_lt (by simp; omega), List.getElem?_drop]
        congr 1; simp; omega
  · rw [List.getElem?_eq_none (by simp; omega), List.getElem?_eq_none (by simp; omega)]

theorem st_runB {P : Program} {ρ : Env} {σ : Mp} {cur : Cur} {w : World} {s s' : St} {b o : Nat} {l : List CV} {vs : List Value} {lc : Loc} {k : Blk} {B : BC} (hH : HR ρ σ cur w) (hk : s.heap.get b = some k) (hro : k.ro = false) (hlive : k.live = true) (hle : o + l.length ≤ k.cells.length) (hflat : ∀ c ∈ l, c.flat = true)
    (hB : ∀ us, VRl ρ σ k.cells us → VRl ρ σ B.list (us.take o ++ vs ++ us.drop (o + vs.length))) (hsn : s'.next = s.next) (hsh : s'.heap = s.heap.set b { k with body := B }) (hb : cur b = s.heap.get b) (hl : σ b = some lc) (hv : VRl ρ σ l vs) :
    ∃ w', (storeCells ⟨lc.blk, lc.base + o, none⟩ vs).run P w = .ok () w' ∧ HR ρ σ (upd cur s.next s'.next s'.heap [b]) w' ∧ Keeps σ s.next [b] w w' := by
  rw [hsn, hsh]
  obtain ⟨c, t, pphc, hc, qqhc, hsz, hesz, hfit, hr⟩ := hH.cell b k lc (hb.trans hk) hlive hl
  obtain rfl := qqhc hro
  have hlen := hr.length
  simp only [List.length_take, List.length_drop, Array.length_toList] at hlen
  have hvl := hv.length
  have hrun := run_storeCells_at P lc.blk (lc.base + o) t vs 0 c w hc (by omega) (hv.flat hflat)
  refine ⟨_, hrun, ?_, ?_⟩
  · have hup : ∀ b' k', upd cur s.next s.next (s.heap.set b { k with body := B }) [b] b' = some k' →
        (b' = b ∧ k' = { k with body := B }) ∨ (b' ≠ b ∧ cur b' = some k') := by
      intro b' k' h'
      unfold upd at h'
      by_cases e : b' = b
      · rw [if_pos (by simp [e]), Tr.get_set, if_pos e] at h'
        exact .inl ⟨e, (Option.some.inj h').symm⟩
      · rw [if_neg (by simp [e])] at h'
        exact .inr ⟨e, h'⟩
    refine ⟨fun b' k' l' hk' hlv' hl' => ?_, fun b1 b2 k1 k2 l1 l2 h1 h2 h3 h4 h5 h6 h7 h8 => ?_, fun b' k' x l' hk' hx hl' => ?_, fun b1 b2 k1 k2 x1 x2 l1 l2 h1 h2 h3 h4 h5 h6 h7 => ?_⟩
    rotate_left 2
    · rcases hup b' k' hk' with ⟨rfl, rfl⟩ | ⟨hne, hcb⟩
      · rw [hl] at hl'
        obtain rfl := Option.some.inj hl'
        exact ((hH.spec _ k x lc (hb.trans hk) hx hl).no_cells hc).elim
      · have := hH.spec b' k' x l' hcb hx hl'
        exact this.heap (setRow_get (fun e => (e ▸ this).no_cells hc))
    · rcases hup b1 k1 h1 with ⟨rfl, rfl⟩ | ⟨hne, hcb⟩
      · exact ((hH.spec _ k x1 lc (hb.trans hk) h2 hl).no_cells hc).elim
      · rcases hup b2 k2 h4 with ⟨rfl, rfl⟩ | ⟨hne', hcb'⟩
        · exact ((hH.spec _ k x2 lc (hb.trans hk) h5 hl).no_cells hc).elim
        · exact hH.injX b1 b2 k1 k2 x1 x2 l1 l2 hcb h2 h3 hcb' h5 h6 h7
    · rcases hup b' k' hk' with ⟨rfl, rfl⟩ | ⟨hne, hcb⟩
      · rw [hl] at hl'
        obtain rfl := Option.some.inj hl'
        have hcl : Blk.cells { k with body := B } = B.list := rfl
        have hnew := hB _ hr
        have hnl := hnew.length
        simp only [List.length_append, List.length_take, List.length_drop, Array.length_toList] at hnl
        rw [hcl]
        refine ⟨_, t, _, setRow_heap w _ c _ t _ hc, fun _ => rfl, ?_, hesz, ?_, ?_⟩
        · simp only [List.size_toArray, List.length_append, List.length_take, List.length_drop, Array.length_toList]; omega
        · omega
        · have e := seg_part c.toList vs lc.base o k.cells.length (by omega) (by simp only [Array.length_toList]; omega)
          rw [← hnl, show min o (min k.cells.length (c.size - lc.base)) + vs.length + (min k.cells.length (c.size - lc.base) - (o + vs.length)) = k.cells.length by omega]
          simp only [Nat.add_zero]
          rw [e]; exact hnew
      · obtain ⟨c', t', ppe1, e1, qqe1, e2, e3, e5, e4⟩ := hH.cell b' k' l' hcb hlv' hl'
        have hnb : l'.blk ≠ lc.blk := fun e => hne (hH.inj b' b k' k l' lc hcb hlv' hl' (hb.trans hk) hlive hl e (.inr hro))
        exact ⟨c', t', ppe1, by rw [setRow_get hnb]; exact e1, qqe1, e2, e3, e5, e4⟩
    · rcases hup b1 k1 h1 with ⟨rfl, rfl⟩ | ⟨hne, hcb⟩ <;> rcases hup b2 k2 h4 with ⟨rfl, rfl⟩ | ⟨hne', hcb'⟩
      · rfl
      · exact hH.inj _ _ k k2 l1 l2 (hb.trans hk) hlive h3 hcb' h5 h6 h7 (.inl hro)
      · exact hH.inj _ _ k1 k l1 l2 hcb h2 h3 (hb.trans hk) hlive h6 h7 (.inr hro)
      · exact hH.inj b1 b2 k1 k2 l1 l2 hcb h2 h3 hcb' h5 h6 h7 h8
  · exact keeps_setRow hc fun j hne => hne b (.inl (by simp)) lc hl

theorem st_run {P : Program} {ρ : Env} {σ : Mp} {cur : Cur} {w : World} {s s' : St} {b o : Nat} {l : List CV} {vs : List Value} {lc : Loc} (hH : HR ρ σ cur w) (h : s.st b o l = some s') (hb : cur b = s.heap.get b) (hl : σ b = some lc) (hv : VRl ρ σ l vs) :
    ∃ w', (storeCells ⟨lc.blk, lc.base + o, none⟩ vs).run P w = .ok () w' ∧ HR ρ σ (upd cur s.next s'.next s'.heap [b]) w' ∧ Keeps σ s.next [b] w w' := by
  obtain ⟨k, hk, hlive, hle, hflat, _, hro, rfl⟩ := st_parts h
  refine st_runB hH hk hro hlive hle hflat (B := .lit _) (fun us hus => ?_) rfl rfl hb hl hv
  rw [hv.length]
  exact ((hus.take o).append hv).append (hus.drop _)

/-! ## An append in place -/

theorem kill_get {s : St} {b : Nat} {k : Blk} (h : s.heap.get b = some k) (x : Nat) : (s.kill b).heap.get x = if x = b then some { k with live := false, ext := none } else s.heap.get x := by
  unfold St.kill; rw [h]; exact Tr.get_set _ _ _ _
theorem kill_next (s : St) (b : Nat) : (s.kill b).next = s.next := by unfold St.kill; split <;> rfl
theorem kill_pc (s : St) (b : Nat) : (s.kill b).pc = s.pc := by unfold St.kill; split <;> rfl

theorem place_runB {B : BC} {P : Program} {ρ : Env} {σ : Mp} {cur : Cur} {w : World} {s : St} {b o m : Nat} {l : List CV} {vs : List Value} {lc : Loc} {k : Blk} (hB : ∀ us, VRl ρ σ k.cells us → VRl ρ σ B.list ((us.drop o).take m ++ vs)) (hH : HR ρ σ cur w) (hk : s.heap.get b = some k) (hro : k.ro = false) (hlive : k.live = true) (hle : o + m ≤ k.cells.length) (hb : cur b = s.heap.get b) (hl : σ b = some lc) (hv : VRl ρ σ l vs) (hflat : ∀ c ∈ l, c.flat = true) (hfit2 : lc.base + o + m + vs.length ≤ lc.size) (hσ : σ s.next = none) :
    ∃ w', (storeCells ⟨lc.blk, lc.base + o + m, none⟩ vs).run P w = .ok () w' ∧ HR ρ (fun x => if x = s.next then some ⟨lc.blk, lc.base + o, lc.size, lc.esz⟩ else σ x) (upd cur s.next (s.next + 1) ((s.kill b).newB B k.esz).heap [b]) w' ∧ Keeps σ s.next [b] w w' := by
  obtain ⟨c, t, pphc, hc, qqhc, hsz, hesz, hfit, hr⟩ := hH.cell b k lc (hb.trans hk) hlive hl
  obtain rfl := qqhc hro
  have hlen := hr.length
  simp only [List.length_take, List.length_drop, Array.length_toList] at hlen
  have hvl := hv.length
  have hrun := run_storeCells_at P lc.blk (lc.base + o + m) t vs 0 c w hc (by omega) (hv.flat hflat)
  have hle' : σ.le (fun x => if x = s.next then some ⟨lc.blk, lc.base + o, lc.size, lc.esz⟩ else σ x) := fun x l' hx => by
    show (if x = s.next then _ else σ x) = _
    rw [if_neg (fun h => by rw [h, hσ] at hx; cases hx)]; exact hx
  have hup : ∀ x kx, upd cur s.next (s.next + 1) ((s.kill b).newB B k.esz).heap [b] x = some kx → (kx.live = true ∨ kx.ext.isSome = true) → (x = s.next ∧ kx = ⟨B, k.esz, true, none⟩) ∨ (x ≠ s.next ∧ x ≠ b ∧ cur x = some kx) := by
    intro x kx hx hlv
    unfold upd at hx
    split at hx
    · rename_i hxx
      rw [newB_get, kill_next] at hx
      by_cases e : x = s.next
      · rw [if_pos e] at hx; exact .inl ⟨e, (Option.some.inj hx).symm⟩
      · rw [if_neg e, kill_get hk] at hx
        have e2 : x = b := by rcases hxx with h | h; · simpa using h
                              · omega
        rw [if_pos e2] at hx
        obtain rfl := Option.some.inj hx
        simp at hlv
    · rename_i hxx
      exact .inr ⟨fun e => hxx (.inr (by omega)), fun e => hxx (.inl (by simp [e])), hx⟩
  refine ⟨_, hrun, ?_, ?_⟩
  · refine ⟨fun x kx lx hx hlv hlx => ?_, fun b1 b2 k1 k2 l1 l2 h1 h2 h3 h4 h5 h6 h7 h8 => ?_, fun x kx y lx hx hy hlx => ?_, fun b1 b2 k1 k2 x1 x2 l1 l2 h1 h2 h3 h4 h5 h6 h7 => ?_⟩
    rotate_left 2
    · rcases hup x kx hx (.inr (by rw [hy]; rfl)) with ⟨rfl, rfl⟩ | ⟨hne, hnb, hcx⟩
      · cases hy
      · simp only [if_neg hne] at hlx
        have := hH.spec x kx y lx hcx hy hlx
        exact (this.heap (setRow_get (fun e => (e ▸ this).no_cells hc))).mono hle'
    · rcases hup b1 k1 h1 (.inr (by rw [h2]; rfl)) with ⟨rfl, rfl⟩ | ⟨hne, hnb, hcb⟩
      · cases h2
      · rcases hup b2 k2 h4 (.inr (by rw [h5]; rfl)) with ⟨rfl, rfl⟩ | ⟨hne', hnb', hcb'⟩
        · cases h5
        · simp only [if_neg hne] at h3; simp only [if_neg hne'] at h6
          exact hH.injX b1 b2 k1 k2 x1 x2 l1 l2 hcb h2 h3 hcb' h5 h6 h7
    · rcases hup x kx hx (.inl hlv) with ⟨rfl, rfl⟩ | ⟨hne, hnb, hcx⟩
      · rw [if_pos rfl] at hlx
        obtain rfl := Option.some.inj hlx
        have hcl : Blk.cells ⟨B, k.esz, true, none⟩ = B.list := rfl
        have hnew := hB _ hr
        have hnl := hnew.length
        simp only [List.length_append, List.length_take, List.length_drop, Array.length_toList] at hnl
        rw [hcl]
        refine ⟨_, t, _, setRow_heap w _ c _ t _ hc, fun _ => rfl, ?_, hesz, ?_, ?_⟩
        · simp only [List.size_toArray, List.length_append, List.length_take, List.length_drop, Array.length_toList]; omega
        · show lc.base + o + B.list.length ≤ lc.size
          omega
        · refine VRl.mono hle' ?_
          have hbl : B.list.length = m + vs.length := by omega
          rw [hbl]
          simp only [Nat.add_zero]
          have e : ((c.toList.take (lc.base + o + m) ++ vs ++ c.toList.drop (lc.base + o + m + vs.length)).drop (lc.base + o)).take (m + vs.length) = (((c.toList.drop lc.base).take k.cells.length).drop o).take m ++ vs := by
            apply List.ext_getElem?
            intro i
            by_cases hL : i < m + vs.length
            · rw [List.getElem?_take_of_lt hL, List.getElem?_drop]
              by_cases a1 : i < m
              · rw [List.append_assoc, List.getElem?_append_left (by simp; omega), List.getElem?_take_of_lt (by omega), List.getElem?_append_left (by simp; omega), List.getElem?_take_of_lt a1, List.getElem?_drop, List.getElem?_take_of_lt (by omega), List.getElem?_drop]
                congr 1; omega
              · rw [List.getElem?_append_left (by simp; omega), List.getElem?_append_right (by simp; omega), List.getElem?_append_right (by simp; omega)]
                congr 1; simp; omega
            · rw [List.getElem?_eq_none (by simp; omega), List.getElem?_eq_none (by simp; omega)]
          show VRl ρ σ B.list ((((c.toList.take (lc.base + o + m) ++ vs ++ c.toList.drop (lc.base + o + m + vs.length)).toArray).toList.drop (lc.base + o)).take (m + vs.length))
          rw [show ((c.toList.take (lc.base + o + m) ++ vs ++ c.toList.drop (lc.base + o + m + vs.length)).toArray).toList = (c.toList.take (lc.base + o + m) ++ vs ++ c.toList.drop (lc.base + o + m + vs.length)) from rfl, e]
          exact hnew
      · simp only [if_neg hne] at hlx
        obtain ⟨c', t', ppe1, e1, qqe1, e2, e3, e5, e4⟩ := hH.cell x kx lx hcx hlv hlx
        have hnb' : lx.blk ≠ lc.blk := fun e => hnb (hH.inj x b kx k lx lc hcx hlv hlx (hb.trans hk) hlive hl e (.inr hro))
        exact ⟨c', t', ppe1, by rw [setRow_get hnb']; exact e1, qqe1, e2, e3, e5, e4.mono hle'⟩
    · rcases hup b1 k1 h1 (.inl h2) with ⟨rfl, rfl⟩ | ⟨hne, hnb, hcb⟩ <;> rcases hup b2 k2 h4 (.inl h5) with ⟨rfl, rfl⟩ | ⟨hne', hnb', hcb'⟩
      · rfl
      · rw [if_pos rfl] at h3
        obtain rfl := Option.some.inj h3
        simp only [if_neg hne'] at h6
        exact absurd (hH.inj b b2 k k2 lc l2 (hb.trans hk) hlive hl hcb' h5 h6 h7 (.inl hro)).symm hnb'
      · rw [if_pos rfl] at h6
        obtain rfl := Option.some.inj h6
        simp only [if_neg hne] at h3
        exact absurd (hH.inj b1 b k1 k l1 lc hcb h2 h3 (hb.trans hk) hlive hl h7 (.inr hro)) hnb
      · simp only [if_neg hne] at h3; simp only [if_neg hne'] at h6
        exact hH.inj b1 b2 k1 k2 l1 l2 hcb h2 h3 hcb' h5 h6 h7 h8
  · exact keeps_setRow hc fun j hne => hne b (.inl (by simp)) lc hl

theorem place_run {P : Program} {ρ : Env} {σ : Mp} {cur : Cur} {w : World} {s : St} {b o m : Nat} {l : List CV} {vs : List Value} {lc : Loc} {k : Blk} (hH : HR ρ σ cur w) (hk : s.heap.get b = some k) (hro : k.ro = false) (hlive : k.live = true) (hle : o + m ≤ k.cells.length) (hb : cur b = s.heap.get b) (hl : σ b = some lc) (hv : VRl ρ σ l vs) (hflat : ∀ c ∈ l, c.flat = true) (hfit2 : lc.base + o + m + vs.length ≤ lc.size) (hσ : σ s.next = none) :
    ∃ w', (storeCells ⟨lc.blk, lc.base + o + m, none⟩ vs).run P w = .ok () w' ∧ HR ρ (fun x => if x = s.next then some ⟨lc.blk, lc.base + o, lc.size, lc.esz⟩ else σ x) (upd cur s.next (s.next + 1) ((s.kill b).new ((k.cells.drop o).take m ++ l) k.esz).heap [b]) w' ∧ Keeps σ s.next [b] w w' :=
  place_runB (B := .lit _) (fun us hus => ((hus.drop o).take m).append hv) hH hk hro hlive hle hb hl hv hflat hfit2 hσ

/-! ## Blocks that hold no cells -/

theorem getX_parts {s : St} {b : Nat} {x : BX} (h : s.getX b = some x) : ∃ k, s.heap.get b = some k ∧ k.ext = some x ∧ b < s.next := by
  unfold St.getX at h
  split at h
  · rename_i k hk
    cases hb : Nat.blt b s.next with
    | false => rw [hb, cond_false] at h; cases h
    | true => rw [hb, cond_true] at h; exact ⟨k, hk, h, Nat.lt_of_succ_le (Nat.le_of_ble_eq_true hb)⟩
  · cases h

theorem setX_get (s : St) (b : Nat) (x : BX) (c : Nat) : (s.setX b x).heap.get c = if c = b then some ⟨.lit [], 0, false, some x⟩ else s.heap.get c := Tr.get_set _ _ _ _
theorem newX_get (s : St) (x : BX) (c : Nat) : (s.newX x).heap.get c = if c = s.next then some ⟨.lit [], 0, false, some x⟩ else s.heap.get c := Tr.get_set _ _ _ _

/-- An object that is not cells becomes another one of its kind. -/
theorem setX_run {ρ : Env} {σ : Mp} {cur : Cur} {w : World} {s s0 : St} {b : Nat} {x y : BX} {l : Loc} {o : Obj} (hH : HR ρ σ cur w) (hx : s0.getX b = some x) (hb : cur b = s0.heap.get b) (hl : σ b = some l)
    (hy : XR ρ σ (w.putObj l.blk o) l.blk y) (hlp : ∀ r, w.heap[l.blk]? = some (.loop r) → ∃ r', o = .loop r') : HR ρ σ (upd cur s.next s.next (s.setX b y).heap [b]) (w.putObj l.blk o) ∧ Keeps σ s.next [b] w (w.putObj l.blk o) := by
  obtain ⟨k, hk, hkx, _⟩ := getX_parts hx
  have hX := hH.spec b k x l (hb.trans hk) hkx hl
  have hlt := hX.lt
  have hup : ∀ c kc, upd cur s.next s.next (s.setX b y).heap [b] c = some kc → (c = b ∧ kc = ⟨.lit [], 0, false, some y⟩) ∨ (c ≠ b ∧ cur c = some kc) := by
    intro c kc h
    unfold upd at h
    by_cases e : c = b
    · rw [if_pos (by simp [e]), setX_get, if_pos e] at h
      exact .inl ⟨e, (Option.some.inj h).symm⟩
    · rw [if_neg (by simp [e])] at h
      exact .inr ⟨e, h⟩
  have other : ∀ k', k' ≠ l.blk → (w.putObj l.blk o).heap[k']? = w.heap[k']? := fun k' h => World.putObj_heap_other h
  refine ⟨⟨fun c kc lc h1 h2 h3 => ?_, fun b1 b2 k1 k2 l1 l2 h1 h2 h3 h4 h5 h6 h7 h8 => ?_, fun c kc z lc h1 h2 h3 => ?_, fun b1 b2 k1 k2 x1 x2 l1 l2 h1 h2 h3 h4 h5 h6 h7 => ?_⟩, rfl, rfl, rfl, by simp, fun j hj hne => other j (fun e => hne b (.inl (by simp)) l hl e.symm), fun j r hj => ?_, fun j hj => ?_⟩
  · rcases hup c kc h1 with ⟨rfl, rfl⟩ | ⟨hne, hc⟩
    · cases h2
    · obtain ⟨cs, t, ppe1, e1, qqe1, e2⟩ := hH.cell c kc lc hc h2 h3
      exact ⟨cs, t, ppe1, by rw [other _ (fun e => hX.no_cells (e ▸ e1))]; exact e1, qqe1, e2⟩
  · rcases hup b1 k1 h1 with ⟨rfl, rfl⟩ | ⟨hne, hc⟩
    · cases h2
    · rcases hup b2 k2 h4 with ⟨rfl, rfl⟩ | ⟨hne', hc'⟩
      · cases h5
      · exact hH.inj b1 b2 k1 k2 l1 l2 hc h2 h3 hc' h5 h6 h7 h8
  · rcases hup c kc h1 with ⟨rfl, rfl⟩ | ⟨hne, hc⟩
    · cases h2
      rw [hl] at h3
      obtain rfl := Option.some.inj h3
      exact hy
    · have := hH.spec c kc z lc hc h2 h3
      exact this.heap (other _ (fun e => hne (hH.injX c b kc k z x lc l hc h2 h3 (hb.trans hk) hkx hl e)))
  · have inj : ∀ c kc z lc, cur c = some kc → kc.ext = some z → σ c = some lc → lc.blk = l.blk → c = b := fun c kc z lc q1 q2 q3 q4 => hH.injX c b kc k z x lc l q1 q2 q3 (hb.trans hk) hkx hl q4
    rcases hup b1 k1 h1 with ⟨rfl, rfl⟩ | ⟨hne, hc⟩ <;> rcases hup b2 k2 h4 with ⟨rfl, rfl⟩ | ⟨hne', hc'⟩
    · rfl
    · rw [hl] at h3
      obtain rfl := Option.some.inj h3
      exact (inj b2 k2 x2 l2 hc' h5 h6 h7.symm).symm
    · rw [hl] at h6
      obtain rfl := Option.some.inj h6
      exact inj b1 k1 x1 l1 hc h2 h3 h7
    · exact hH.injX b1 b2 k1 k2 x1 x2 l1 l2 hc h2 h3 hc' h5 h6 h7
  · by_cases e : j = l.blk
    · subst e
      obtain ⟨r', rfl⟩ := hlp r hj
      exact ⟨r', World.putObj_heap_same hlt⟩
    · exact ⟨r, by rw [other j e]; exact hj⟩
  · by_cases e : j = l.blk
    · subst e
      cases hX with
      | loop q h => rw [hj] at h; cases h
      | map es h => rw [hj] at h; cases h
    · rw [other j e]; exact hj

/-- A new object that is not cells. -/
theorem newX_run {ρ : Env} {σ : Mp} {cur : Cur} {w : World} {s : St} {x : BX} {o : Obj} (hH : HR ρ σ cur w) (hσ : σ s.next = none) (hx : XR ρ (fun b => if b = s.next then some ⟨w.heap.size, 0, 0, 0⟩ else σ b) (w.alloc o) w.heap.size x) :
    HR ρ (fun b => if b = s.next then some ⟨w.heap.size, 0, 0, 0⟩ else σ b) (upd cur s.next (s.next + 1) (s.newX x).heap []) (w.alloc o) ∧ Ext σ (fun b => if b = s.next then some ⟨w.heap.size, 0, 0, 0⟩ else σ b) s.next (s.next + 1) ∧
      Keeps σ s.next [] w (w.alloc o) ∧ Fresh σ (fun b => if b = s.next then some ⟨w.heap.size, 0, 0, 0⟩ else σ b) s.next (s.next + 1) s.next [] w := by
  have hle : σ.le (fun b => if b = s.next then some ⟨w.heap.size, 0, 0, 0⟩ else σ b) := fun b l' hb => by
    show (if b = s.next then _ else σ b) = _
    rw [if_neg (fun h => by rw [h, hσ] at hb; cases hb)]; exact hb
  have hup : ∀ b k, upd cur s.next (s.next + 1) (s.newX x).heap [] b = some k → (b = s.next ∧ k = ⟨.lit [], 0, false, some x⟩) ∨ (b ≠ s.next ∧ cur b = some k) := by
    intro b k h
    unfold upd at h
    by_cases e : b = s.next
    · rw [if_pos (.inr (by omega)), newX_get, if_pos e] at h
      exact .inl ⟨e, (Option.some.inj h).symm⟩
    · rw [if_neg (by simp; omega)] at h
      exact .inr ⟨e, h⟩
  refine ⟨⟨fun c kc lc h1 h2 h3 => ?_, fun b1 b2 k1 k2 l1 l2 h1 h2 h3 h4 h5 h6 h7 h8 => ?_, fun c kc z lc h1 h2 h3 => ?_, fun b1 b2 k1 k2 x1 x2 l1 l2 h1 h2 h3 h4 h5 h6 h7 => ?_⟩, fun b hb => ?_, .of_same rfl rfl rfl (by simp) fun k hk => alloc_get hk, fun b l h1 h2 h3 => ?_⟩
  · rcases hup c kc h1 with ⟨rfl, rfl⟩ | ⟨hne, hc⟩
    · cases h2
    · simp only [if_neg hne] at h3
      obtain ⟨cs, t, ppe1, e1, qqe1, e2, e3, e4, e5⟩ := hH.cell c kc lc hc h2 h3
      exact ⟨cs, t, ppe1, by rw [alloc_get (Array.getElem?_eq_some_iff.1 e1).1]; exact e1, qqe1, e2, e3, e4, e5.mono hle⟩
  · rcases hup b1 k1 h1 with ⟨rfl, rfl⟩ | ⟨hne, hc⟩
    · cases h2
    · rcases hup b2 k2 h4 with ⟨rfl, rfl⟩ | ⟨hne', hc'⟩
      · cases h5
      · simp only [if_neg hne] at h3; simp only [if_neg hne'] at h6
        exact hH.inj b1 b2 k1 k2 l1 l2 hc h2 h3 hc' h5 h6 h7 h8
  · rcases hup c kc h1 with ⟨rfl, rfl⟩ | ⟨hne, hc⟩
    · cases h2
      rw [if_pos rfl] at h3
      obtain rfl := Option.some.inj h3
      exact hx
    · simp only [if_neg hne] at h3
      have := hH.spec c kc z lc hc h2 h3
      exact (this.heap (alloc_get this.lt)).mono hle
  · rcases hup b1 k1 h1 with ⟨rfl, rfl⟩ | ⟨hne, hc⟩ <;> rcases hup b2 k2 h4 with ⟨rfl, rfl⟩ | ⟨hne', hc'⟩
    · rfl
    · rw [if_pos rfl] at h3
      obtain rfl := Option.some.inj h3
      simp only [if_neg hne'] at h6
      have := (hH.spec b2 k2 x2 l2 hc' h5 h6).lt
      simp only at h7; omega
    · rw [if_pos rfl] at h6
      obtain rfl := Option.some.inj h6
      simp only [if_neg hne] at h3
      have := (hH.spec b1 k1 x1 l1 hc h2 h3).lt
      simp only at h7; omega
    · simp only [if_neg hne] at h3; simp only [if_neg hne'] at h6
      exact hH.injX b1 b2 k1 k2 x1 x2 l1 l2 hc h2 h3 hc' h5 h6 h7
  · show (if b = s.next then _ else σ b) = σ b
    rw [if_neg (by omega)]
  · obtain rfl : b = s.next := by omega
    simp only [if_true] at h3
    obtain rfl := Option.some.inj h3
    exact .inl (Nat.le_refl _)

/-- An object that is neither cells nor named becomes another one. -/
theorem HR.put {ρ : Env} {σ : Mp} {cur : Cur} {w : World} {g : Nat} {o o' : Obj} (h : HR ρ σ cur w) (ho : w.heap[g]? = some o) (h1 : ∀ c t p, o ≠ .cells c t p) (h2 : ∀ r, o ≠ .loop r) (h3 : ∀ e c, o ≠ .map e c) : HR ρ σ cur (w.putObj g o') := by
  refine ⟨fun b k l a1 a2 a3 => ?_, h.inj, fun b k x l a1 a2 a3 => ?_, h.injX⟩
  · obtain ⟨c, t, ppe1, e1, qqe1, e2⟩ := h.cell b k l a1 a2 a3
    exact ⟨c, t, ppe1, by rw [World.putObj_heap_other (fun e => by subst e; rw [ho] at e1; cases e1; exact h1 _ _ _ rfl)]; exact e1, qqe1, e2⟩
  · have hs := h.spec b k x l a1 a2 a3
    refine hs.heap (World.putObj_heap_other (fun e => ?_))
    subst e
    cases hs with
    | loop q hq => rw [ho] at hq; cases hq; exact h2 _ rfl
    | map es hq => rw [ho] at hq; cases hq; exact h3 _ _ rfl

theorem HR.alloc {ρ : Env} {σ : Mp} {cur : Cur} {w : World} (h : HR ρ σ cur w) (o : Obj) : HR ρ σ cur (w.alloc o) := by
  refine ⟨fun b k l a1 a2 a3 => ?_, h.inj, fun b k x l a1 a2 a3 => ?_, h.injX⟩
  · obtain ⟨c, t, ppe1, e1, qqe1, e2⟩ := h.cell b k l a1 a2 a3
    exact ⟨c, t, ppe1, by rw [alloc_get (Array.getElem?_eq_some_iff.1 e1).1]; exact e1, qqe1, e2⟩
  · have hs := h.spec b k x l a1 a2 a3
    exact hs.heap (alloc_get hs.lt)

/-! ## Rows -/

theorem flatR_length {row : Nat → List CV} {z : Nat} (h : ∀ j, (row j).length = z) : ∀ n, (flatR row n).length = n * z
  | 0 => by simp [flatR]
  | n + 1 => by simp [flatR, flatR_length h n, h n, Nat.succ_mul]

theorem flatR_part {row : Nat → List CV} {z : Nat} (h : ∀ j, (row j).length = z) (o : Nat) : ∀ m M, o + m ≤ M → ((flatR row M).drop (o * z)).take (m * z) = flatR (fun i => row (o + i)) m
  | m, 0, hle => by
    obtain rfl : m = 0 := by omega
    simp [flatR]
  | m, M + 1, hle => by
    have hl := flatR_length h M
    by_cases hM : o + m ≤ M
    · have e : o * z + m * z ≤ M * z := by rw [← Nat.add_mul]; exact Nat.mul_le_mul_right _ hM
      rw [flatR, List.drop_append_of_le_length (by omega), List.take_append_of_le_length (by simp; omega)]
      exact flatR_part h o m M hM
    · cases m with
      | zero => simp [flatR]
      | succ m =>
        obtain rfl : M = o + m := by omega
        have e : o * z ≤ (o + m) * z := Nat.mul_le_mul_right _ (by omega)
        rw [flatR, List.drop_append_of_le_length (by omega), List.take_append, flatR, ← flatR_part h o m (o + m) (Nat.le_refl _)]
        have h1 : ((flatR row (o + m)).drop (o * z)).length = m * z := by simp [hl, Nat.add_mul]
        rw [h1, Nat.succ_mul, Nat.add_sub_cancel_left, List.take_of_length_le (by omega), List.take_of_length_le (l := List.drop _ _) (by omega), List.take_of_length_le (by rw [h]; omega)]

theorem flatR_row {row : Nat → List CV} {z : Nat} (h : ∀ j, (row j).length = z) {j m f n : Nat} (hj : j < m) (hf : f + n ≤ z) : ((flatR row m).drop (j * z + f)).take n = ((row j).drop f).take n := by
  have e := flatR_part h j 1 m (by omega)
  simp only [flatR, List.nil_append, Nat.one_mul, Nat.add_zero] at e
  rw [← e, ← List.drop_drop]
  apply List.ext_getElem?
  intro i
  by_cases hi : i < n
  · rw [List.getElem?_take_of_lt hi, List.getElem?_take_of_lt hi, List.getElem?_drop, List.getElem?_drop, List.getElem?_drop, List.getElem?_take_of_lt (by omega), List.getElem?_drop]
  · rw [List.getElem?_eq_none (by simp; omega), List.getElem?_eq_none (by simp; omega)]

theorem must_parts {ρ : Env} {s s1 : St} {b : Bool} (h : s.must (.x b) = some s1) : s1.next = s.next ∧ s1.heap = s.heap ∧ (∃ l, s1.pc = l ++ s.pc) ∧ ((∀ p ∈ s1.pc, p.holds ρ) → b = true) := by
  simp only [St.must] at h
  cases h
  exact ⟨rfl, rfl, ⟨[_], rfl⟩, fun hp => hp (.b (.x b) true) (by simp)⟩

theorem musts_parts {ρ : Env} : ∀ {l : List Bool} {s s1 : St}, s.musts l = some s1 → s1.next = s.next ∧ s1.heap = s.heap ∧ (∃ l, s1.pc = l ++ s.pc) ∧ ((∀ p ∈ s1.pc, p.holds ρ) → ∀ b ∈ l, b = true)
  | [], s, s1, h => by simp only [St.musts] at h; cases h; exact ⟨rfl, rfl, ⟨[], rfl⟩, fun _ b hb => by cases hb⟩
  | b :: l, s, s1, h => by
    simp only [St.musts] at h
    split at h
    · rename_i s2 h2
      obtain ⟨a1, a2, ⟨m, a3⟩, a4⟩ := must_parts (ρ := ρ) h2
      obtain ⟨c1, c2, ⟨m', c3⟩, c4⟩ := musts_parts (ρ := ρ) h
      refine ⟨c1.trans a1, c2.trans a2, ⟨m' ++ m, by rw [c3, a3, List.append_assoc]⟩, fun hp x hx => ?_⟩
      rcases List.mem_cons.1 hx with rfl | hx
      · exact a4 fun p hp' => hp p (by rw [c3]; simp [hp'])
      · exact c4 hp x hx
    · cases h

theorem ldx_parts {ρ : Env} {s s1 : St} {b z j f n : Nat} {cs : List CV} (h : s.ldx b z j f n = some (cs, s1)) : s1.next = s.next ∧ s1.heap = s.heap ∧ (∃ l, s1.pc = l ++ s.pc) ∧ b < s.next ∧ ((∀ p ∈ s1.pc, p.holds ρ) → s.ld b (j * z + f) n = some cs) := by
  unfold St.ldx at h
  split at h
  · rename_i m z' row hr e x hk
    cases hc : (Nat.beq z z' && Nat.ble (f + n) z && Nat.blt b s.next) with
    | false => rw [hc, cond_false] at h; cases h
    | true =>
      rw [hc, cond_true] at h
      simp only [Bool.and_eq_true] at hc
      obtain rfl := Nat.eq_of_beq_eq_true hc.1.1
      have hf := Nat.le_of_ble_eq_true hc.1.2
      have hb := Nat.lt_of_succ_le (Nat.le_of_ble_eq_true hc.2)
      split at h
      · rename_i s2 h2
        cases h
        obtain ⟨a1, a2, a3, a4⟩ := must_parts (ρ := ρ) h2
        refine ⟨a1, a2, a3, hb, fun hp => ?_⟩
        have hj : j < m := of_decide_eq_true (a4 hp)
        have hlen := flatR_length (fun j => (hr j).1) m
        have hle : j * z + f + n ≤ m * z := by
          have : (j + 1) * z ≤ m * z := Nat.mul_le_mul_right _ hj
          rw [Nat.succ_mul] at this; omega
        unfold St.ld
        rw [hk]
        have hcl : Blk.cells ⟨.rows m z row hr, e, true, x⟩ = flatR row m := rfl
        simp only [hcl, hlen]
        have e1 : Nat.ble (j * z + f + n) (m * z) = true := Nat.ble_eq_true_of_le hle
        rw [e1, hc.2, flatR_row (fun j => (hr j).1) hj hf]
        rfl
      · cases h
  · rename_i m z' row hr e x hk
    cases hc : (Nat.beq z z' && Nat.ble (f + n) z && Nat.blt b s.next) with
    | false => rw [hc, cond_false] at h; cases h
    | true =>
      rw [hc, cond_true] at h
      simp only [Bool.and_eq_true] at hc
      obtain rfl := Nat.eq_of_beq_eq_true hc.1.1
      have hf := Nat.le_of_ble_eq_true hc.1.2
      have hb := Nat.lt_of_succ_le (Nat.le_of_ble_eq_true hc.2)
      split at h
      · rename_i s2 h2
        cases h
        obtain ⟨a1, a2, a3, a4⟩ := must_parts (ρ := ρ) h2
        refine ⟨a1, a2, a3, hb, fun hp => ?_⟩
        have hj : j < m := of_decide_eq_true (a4 hp)
        have hlen := flatR_length (fun j => (hr j).1) m
        have hle : j * z + f + n ≤ m * z := by
          have : (j + 1) * z ≤ m * z := Nat.mul_le_mul_right _ hj
          rw [Nat.succ_mul] at this; omega
        unfold St.ld
        rw [hk]
        have hcl : Blk.cells ⟨.arg m z row hr, e, true, x⟩ = flatR row m := rfl
        simp only [hcl, hlen]
        have e1 : Nat.ble (j * z + f + n) (m * z) = true := Nat.ble_eq_true_of_le hle
        rw [e1, hc.2, flatR_row (fun j => (hr j).1) hj hf]
        rfl
      · cases h
  · cases h

end Go.Proofs.Ytknphpihipkdpaa.Cx
