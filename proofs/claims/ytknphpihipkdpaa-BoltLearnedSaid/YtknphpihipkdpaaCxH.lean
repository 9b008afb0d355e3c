/- One operation that calls no Go function: the builtins; then all operations together. -/
import Derived.Test.YtknphpihipkdpaaCxG
set_option linter.unusedSimpArgs false
set_option linter.unusedVariables false
namespace Go.Proofs.Ytknphpihipkdpaa.Cx
open Go Go.RowKit

section
variable {P : Program} {C : Ctx} {ρ : Env} {σ : Mp} {cur : Cur} {s : St} {T : Tr CV} {a : Act} {w : World} {o : Oper} {r : OR}

theorem post_drew {n : Nat} {c : CV} {s' : St} {W : List Nat} {v : Value} {w' : World} (h : Post ρ σ cur n w.drew c s' W v w') : Post ρ σ cur n w c s' W v w' := by
  obtain ⟨σ', h1, h2, h3, h4, h5⟩ := h
  exact ⟨σ', h1, h2, h3, ⟨h4.os, h4.tape, h4.output, h4.size, h4.block, h4.loops, h4.defd⟩, h5⟩

theorem nextcap_le (n c : Nat) (hc : c < n) (hn : n ≤ 20000) : Builtin.nextslicecap n c ≤ 200000 := by
  unfold Builtin.nextslicecap
  split
  · omega
  · split
    · omega
    · simp only [Builtin.growBy]
      repeat' split
      all_goals omega

/-- What an append appends, in the real world: the elements of a slice. -/
structure SrcS (P : Program) (w : World) (size yT : Nat) (y : Value) (n : Nat) (vs : List Value) : Prop where
  d : ∃ e, (underlying yT).run P w = .ok (.slice e) w
  len : (Builtin.lenOf y).run P w = .ok n w
  cells : (Builtin.firstCells size n y).run P w = .ok vs.toArray w

/-- What an append appends, in the real world: zeros of a make. -/
structure SrcZ (P : Program) (w : World) (elem size yT : Nat) (y : Value) (n : Nat) (vs : List Value) : Prop where
  d : ∃ k, (underlying yT).run P w = .ok (.int k) w
  y : ∃ k, y = .int k (n : Int)
  le : n ≤ 10000
  z : ∃ z, (zeroValue elem).run P w = .ok z w ∧ vs = (Builtin.zeroCells z.cells n).toList ∧ z.cells.size = size

section
variable {sT elem ty yT size n : Nat} {m c : Nat} {y : Value} {vs : List Value} {w' : World} {i : TypeInfo}

theorem append_place_S {b : Addr} (hu : (underlying sT).run P w = .ok (.slice elem) w) (hs : (sizeOf elem).run P w = .ok size w) (hS : SrcS P w size yT y n vs) (h : m + n ≤ c) (hst : (storeCells (b.add (m * size)) vs).run P w = .ok () w') :
    (Builtin.append_ #[sT, yT] ty #[.slice (some b) m c, y]).run P w = .ok (.slice (some b) (m + n) c) w' := by
  obtain ⟨e, hd⟩ := hS.d
  simp [Builtin.append_, hu, hs, hd, hS.len, hS.cells, h, hst]

theorem append_place_Z {b : Addr} (hu : (underlying sT).run P w = .ok (.slice elem) w) (hs : (sizeOf elem).run P w = .ok size w) (hi : (typeInfo elem).run P w = .ok i w) (hb : i.bytes ≤ 100000) (hsz : 1 ≤ size) (hn : 1 ≤ n) (hS : SrcZ P w elem size yT y n vs) (h : m + n ≤ c) (hst : (storeCells (b.add (m * size)) vs).run P w = .ok () w') :
    (Builtin.append_ #[sT, yT] ty #[.slice (some b) m c, y]).run P w = .ok (.slice (some b) (m + n) c) w' := by
  obtain ⟨k, hd⟩ := hS.d
  obtain ⟨k2, rfl⟩ := hS.y
  obtain ⟨z, hz, hvs, hzs⟩ := hS.z
  have hw := wrap_small (n : Int) (by omega) (by have := hS.le; omega)
  have c1 : ¬ ((n : Int) < 0) := by omega
  have c2 : ¬ ((2 : Int) ^ 48 < (n : Int) * (i.bytes : Int)) := by
    have : (n : Int) * (i.bytes : Int) ≤ 10000 * 100000 := Int.mul_le_mul (by have := hS.le; omega) (by omega) (by omega) (by omega)
    omega
  have h0 : ¬ (n * size = 0) := by
    intro h
    rcases Nat.mul_eq_zero.1 h with h | h <;> omega
  have hvs' : (Builtin.zeroCells z.cells n).toList = vs := hvs.symm
  simp only [Int.reducePow] at c2
  simp [Builtin.append_, hu, hs, hd, hi, asInt, asIntOf, hw, c1, c2, h, h0, hz, hvs', hst]

/-- Where an append finds no room: the new capacity. -/
def newCap (w : World) (elem need c : Nat) : Nat := Question.cut (.appendCap need c elem) (w.tape w.drawn (.appendCap need c elem))
theorem newCap_ge (w : World) (elem need c : Nat) : need ≤ newCap w elem need c := by simp [newCap, Question.cut]

theorem append_new_S {q : TyR} {b : Option Addr} {old : List Value} (hu : (underlying sT).run P w = .ok (.slice elem) w) (hq : TyOk P elem q) (hb : q.bytes ≤ 100000) {z : Value} (hz : (zeroValue elem).run P w.drew = .ok z w.drew) (hS : SrcS P w q.size yT y n vs) (hS2 : SrcS P w.drew q.size yT y n vs) (h : ¬ m + n ≤ c) (hn : m + n ≤ 20000)
    (hold : (Builtin.firstCells q.size m (.slice b m c)).run P w.drew = .ok old.toArray w.drew) :
    (Builtin.append_ #[sT, yT] ty #[.slice b m c, y]).run P w = .ok (.slice (some ⟨w.heap.size, 0, none⟩) (m + n) (newCap w elem (m + n) c)) (w.drew.alloc (.cells (old ++ vs ++ (Builtin.zeroCells z.cells (newCap w elem (m + n) c - (m + n))).toList).toArray elem)) := by
  obtain ⟨e, hd⟩ := hS.d
  obtain ⟨i, hi, hi2, hi3⟩ := hq.info w
  obtain ⟨i', hi', _⟩ := hq.info w.drew
  have hs := hq.sizeOf' w
  have c1 : ¬ ((9223372036854775807 : Int) < (m : Int) + (n : Int)) := by omega
  have c2 : ¬ (2 ^ 48 < Builtin.nextslicecap (m + n) c * i.bytes) := by
    have h1 := nextcap_le (m + n) c (by omega) (by omega)
    have : Builtin.nextslicecap (m + n) c * i.bytes ≤ 200000 * 100000 := Nat.mul_le_mul h1 (by omega)
    omega
  simp only [Nat.reducePow] at c2
  have c3 : ∀ k : Nat, (askRoom k).run P w.drew = .ok () w.drew := by intro k; unfold askRoom; split <;> rfl
  unfold newCap
  simp [Builtin.append_, hu, hs, hd, hS.len, h, c1, c2, hi, Question.forced, c3, hold, hS2.cells, hz, newRow, hi']
  apply congrArg
  apply congrArg (fun x => Obj.cells x elem)
  rw [← Array.toList_inj]
  simp

theorem append_new_Z {q : TyR} {b : Option Addr} {old : List Value} (hu : (underlying sT).run P w = .ok (.slice elem) w) (hq : TyOk P elem q) (hb : q.bytes ≤ 100000) (hsz : 1 ≤ q.size) (h1n : 1 ≤ n) (hS : SrcZ P w.drew elem q.size yT y n vs) (hd : ∃ k, (underlying yT).run P w = .ok (.int k) w) {z : Value} (hz : (zeroValue elem).run P w.drew = .ok z w.drew) (h : ¬ m + n ≤ c) (hn : m + n ≤ 20000)
    (hold : (Builtin.firstCells q.size m (.slice b m c)).run P w.drew = .ok old.toArray w.drew) :
    (Builtin.append_ #[sT, yT] ty #[.slice b m c, y]).run P w = .ok (.slice (some ⟨w.heap.size, 0, none⟩) (m + n) (newCap w elem (m + n) c)) (w.drew.alloc (.cells (old ++ vs ++ (Builtin.zeroCells z.cells (newCap w elem (m + n) c - (m + n))).toList).toArray elem)) := by
  obtain ⟨k, hd⟩ := hd
  obtain ⟨k2, rfl⟩ := hS.y
  obtain ⟨z', hz', hvs, hzs⟩ := hS.z
  have hzz : z' = z := by rw [hz] at hz'; injection hz' with e1; exact e1.symm
  subst hzz
  obtain ⟨i, hi, hi2, hi3⟩ := hq.info w
  obtain ⟨i', hi', _⟩ := hq.info w.drew
  have hs := hq.sizeOf' w
  have hw := wrap_small (n : Int) (by omega) (by have := hS.le; omega)
  have c0 : ¬ ((n : Int) < 0) := by omega
  have c4 : ¬ ((2 : Int) ^ 48 < (n : Int) * (i.bytes : Int)) := by
    have : (n : Int) * (i.bytes : Int) ≤ 10000 * 100000 := Int.mul_le_mul (by have := hS.le; omega) (by omega) (by omega) (by omega)
    omega
  have h0 : ¬ (n * q.size = 0) := by
    intro h
    rcases Nat.mul_eq_zero.1 h with h | h <;> omega
  have hvs' : Builtin.zeroCells z'.cells n = vs.toArray := by rw [hvs]
  simp only [Int.reducePow] at c4
  have c1 : ¬ ((9223372036854775807 : Int) < (m : Int) + (n : Int)) := by omega
  have c2 : ¬ (2 ^ 48 < Builtin.nextslicecap (m + n) c * i.bytes) := by
    have h1 := nextcap_le (m + n) c (by omega) (by omega)
    have : Builtin.nextslicecap (m + n) c * i.bytes ≤ 200000 * 100000 := Nat.mul_le_mul h1 (by omega)
    omega
  simp only [Nat.reducePow] at c2
  have c3 : ∀ k : Nat, (askRoom k).run P w.drew = .ok () w.drew := by intro k; unfold askRoom; split <;> rfl
  unfold newCap
  simp [Builtin.append_, hu, hs, hd, asInt, asIntOf, hw, c0, c4, h0, h, c1, c2, hi, Question.forced, c3, hold, hz, hvs', newRow, hi']
  apply congrArg
  apply congrArg (fun x => Obj.cells x elem)
  rw [← Array.toList_inj]
  simp

end

/-- What the evaluator says is appended is what is appended. -/
theorem src_inv {q r2 : TyR} {elem yT : Nat} {y : CV} {vy : Value} {l : List CV} {n : Nat} {R : List Nat} (hH : HR ρ σ cur w) (hq : TyOk P elem q) (h1 : 1 ≤ q.size) (hr2 : TyOk P yT r2) (h : srcE q s r2.desc y = some (l, n, R)) (hy : VR ρ σ y vy) (hA : ∀ b ∈ R, cur b = s.heap.get b) :
    ∃ vs, VRl ρ σ l vs ∧ vs.length = n * q.size ∧ n ≤ 10000 ∧ ((SrcS P w q.size yT vy n vs ∧ SrcS P w.drew q.size yT vy n vs) ∨ (SrcZ P w elem q.size yT vy n vs ∧ SrcZ P w.drew elem q.size yT vy n vs)) := by
  unfold srcE at h
  split at h
  · rename_i d k1 k2 m hd
    cases hb : (decide (0 ≤ m) && decide (m ≤ 10000)) with
    | false => rw [hb, cond_false] at h; cases h
    | true =>
      rw [hb, cond_true] at h
      cases h
      simp only [Bool.and_eq_true, decide_eq_true_eq] at hb
      have hv := hy.int_inv
      simp only [IE.den] at hv
      obtain ⟨z, hz, hz2⟩ := hq.zeroA
      have hzl : q.zero.length = q.size := hq.2.2.1
      have hzr := VRl.ofVals (ρ := ρ) (σ := σ) hz2
      have hzs := hzr.length
      simp only [Array.length_toList] at hzs
      have hrr := rep_rel hzr m.toNat (by omega)
      rw [hzl] at hrr
      have hlen := hrr.length
      rw [rep_length, hzl] at hlen
      have e : (Builtin.zeroCells z.cells m.toNat) = (Array.range (m.toNat * q.size)).map (z.cells[· % z.cells.size]!) := by
        unfold Builtin.zeroCells; rw [hzs, hzl]
      have hmm : ((m.toNat : Nat) : Int) = m := Int.toNat_of_nonneg hb.1
      refine ⟨(Builtin.zeroCells z.cells m.toNat).toList, by rw [e]; exact hrr, by rw [e]; exact hlen, by omega, .inr ⟨⟨⟨k1, by have := hr2.under w; rwa [hd] at this⟩, ⟨k2, by rw [hmm]; exact hv⟩, by omega, z, hz w, rfl, by omega⟩, ⟨⟨k1, by have := hr2.under w.drew; rwa [hd] at this⟩, ⟨k2, by rw [hmm]; exact hv⟩, by omega, z, hz w.drew, rfl, by omega⟩⟩⟩
  · rename_i e c1 c2 hd
    cases h
    generalize vy = u at hy
    cases hy
    refine ⟨[], .nil, by simp, by omega, .inl ⟨⟨⟨e, by have := hr2.under w; rwa [hd] at this⟩, by simp [Builtin.lenOf], by simp [Builtin.firstCells]⟩, ⟨⟨e, by have := hr2.under w.drew; rwa [hd] at this⟩, by simp [Builtin.lenOf], by simp [Builtin.firstCells]⟩⟩⟩
  · rename_i e hd
    cases h
    generalize vy = u at hy
    cases hy
    refine ⟨[], .nil, by simp, by omega, .inl ⟨⟨⟨e, by have := hr2.under w; rwa [hd] at this⟩, by simp [Builtin.lenOf], by simp [Builtin.firstCells, loadCells, loadCellsFrom]⟩, ⟨⟨e, by have := hr2.under w.drew; rwa [hd] at this⟩, by simp [Builtin.lenOf], by simp [Builtin.firstCells, loadCells, loadCellsFrom]⟩⟩⟩
  · rename_i e b off m c2 hd
    split at h
    · rename_i l' hl'
      cases hb : Nat.ble m 10000 with
      | false => rw [hb, cond_false] at h; cases h
      | true =>
        rw [hb, cond_true] at h
        cases h
        cases hy with
        | slc hl hc hsz =>
          rename_i c' lc
          obtain ⟨vs, e1, e2, e3, e4⟩ := ld_run (P := P) hH hl' (hA b (by simp)) hl
          exact ⟨vs, e2, e3, Nat.le_of_ble_eq_true hb, .inl ⟨⟨⟨e, by have := hr2.under w; rwa [hd] at this⟩, by simp [Builtin.lenOf], by simp [Builtin.firstCells, e1]⟩, ⟨⟨e, by have := hr2.under w.drew; rwa [hd] at this⟩, by simp [Builtin.lenOf], by simp [Builtin.firstCells, e4]⟩⟩⟩
    · cases h
  · rename_i e b z o m hd
    split at h
    · rename_i l' hl'
      cases hb : Nat.ble m 10000 with
      | false => rw [hb, cond_false] at h; cases h
      | true =>
        rw [hb, cond_true] at h
        cases h
        generalize vy = u at hy
        cases hy with
        | sla hl hc =>
          rename_i c' lc
          obtain ⟨vs, e1, e2, e3, e4⟩ := ld_run (P := P) hH hl' (hA b (by simp)) hl
          exact ⟨vs, e2, e3, Nat.le_of_ble_eq_true hb, .inl ⟨⟨⟨e, by have := hr2.under w; rwa [hd] at this⟩, by simp [Builtin.lenOf], by simp [Builtin.firstCells, e1]⟩, ⟨⟨e, by have := hr2.under w.drew; rwa [hd] at this⟩, by simp [Builtin.lenOf], by simp [Builtin.firstCells, e4]⟩⟩⟩
        | sla0 ad c' =>
          obtain ⟨k, _, _, _, rfl, _⟩ := ld_parts hl'
          refine ⟨[], by simpa using VRl.nil, by simp, by omega, .inl ⟨⟨⟨e, by have := hr2.under w; rwa [hd] at this⟩, by simp [Builtin.lenOf], ?_⟩, ⟨⟨e, by have := hr2.under w.drew; rwa [hd] at this⟩, by simp [Builtin.lenOf], ?_⟩⟩⟩
          · cases ad <;> simp [Builtin.firstCells, loadCells, loadCellsFrom]
          · cases ad <;> simp [Builtin.firstCells, loadCells, loadCellsFrom]
    · cases h
  · cases h

end
end Go.Proofs.Ytknphpihipkdpaa.Cx
