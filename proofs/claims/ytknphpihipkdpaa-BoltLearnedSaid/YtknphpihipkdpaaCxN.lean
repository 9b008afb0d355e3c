/- Statements and calls: the evaluator's word holds. -/
import Derived.Test.YtknphpihipkdpaaCxM
set_option linter.unusedSimpArgs false
set_option linter.unusedVariables false
namespace Go.Proofs.Ytknphpihipkdpaa.Cx
open Go Go.RowKit

section
variable {P : Program} {C : Ctx} {ρ : Env} {σ : Mp} {cur : Cur} {self : Task → St → Option Out} {ro : Option Nat} {n : Nat} {Q : Exit → Act → World → Prop} {ops : Array Oper} {nt base : Nat} {T T' : Tr CV} {s s' : St} {ms : List Mk} {a0 a : Act} {w0 : World}

theorem lt_of_allLt {m : Nat} {l : List Nat} (h : allLt m l = true) : ∀ b ∈ l, b < m := fun b hb => Nat.lt_of_succ_le (Nat.le_of_ble_eq_true (List.all_eq_true.1 h b hb))

theorem getD_set {listed : Array Bool} {k i : Nat} (hk : k < listed.size) : (listed.setIfInBounds k true).getD i false = true ↔ (listed.getD i false = true ∨ i = k) := by
  rw [Array.getD_eq_getD_getElem?, Array.getD_eq_getD_getElem?]
  by_cases e : i = k
  · subst e; rw [Array.getElem?_setIfInBounds_self_of_lt hk]; simp
  · rw [Array.getElem?_setIfInBounds_ne (fun h => e h.symm)]; simp [e]

theorem InvD.congr {ms : List Mk} {st : Nat → St} {tm : Nat → Tr CV} {or : Nat → OR} {pr : Nat → Nat → Prop} {S S' : Nat → Prop} {σ' : Mp} {cur' : Cur} {cT : Nat → CV} {w : World} (h : InvD ρ σ cur ops nt base s s' ms st tm or pr a0 w0 S σ' cur' cT a w) (hS : ∀ i, S i ↔ S' i) : InvD ρ σ cur ops nt base s s' ms st tm or pr a0 w0 S' σ' cur' cT a w := by
  have : S = S' := funext fun i => propext (hS i)
  exact this ▸ h

/-- A region that draws its order. -/
theorem region_draw (hC : CtxOk2 P C) (hS : SelfOk P C ρ self) (h : opsE C self ops nt ops.toList T s = some (T', s', ms)) (hr : regOk ops = true) (hd : (quietB s.next ms || drawOk 0 ms (preds ops.toList [])) = true) (hp : ∀ p ∈ s'.pc, p.holds ρ) (hH : HR ρ σ cur w0) (hb : base ≤ s.next)
    (hA : ∀ b, b ∈ sumR base ms ∨ b ∈ sumW base ms ∨ (base ≤ b ∧ b < s.next) → cur b = s.heap.get b) (hN : ∀ b, s.next ≤ b → b < s'.next → σ b = none) (hF : FRn ρ σ nt T a0 a)
    (hQ : ∀ a' w', PostR ρ σ cur base s w0 nt T' s' (sumW base ms) a0 a' w' → Q .normal a' w') : wpAnyIn (fc ro) n P .any ops Q ops.size (Array.replicate ops.size false) a w0 := by
  obtain ⟨st, tm, or, pr, L⟩ := lay_of (base := base) hS h hr hd
  have fin : ∀ σ1 cur1 cT a1 w1, InvD ρ σ cur ops nt base s s' ms st tm or pr a0 w0 (fun i => i < ops.size) σ1 cur1 cT a1 w1 → Q .normal a1 w1 := by
    intro σ1 cur1 cT a1 w1 I
    have hnx := (L.nextS (i := ops.size) (Nat.le_refl _)).1
    rw [L.stN] at hnx
    have hcur : cur1 = upd cur base s'.next s'.heap (sumW base ms) := by
      funext b
      show _ = (if b ∈ sumW base ms ∨ (base ≤ b ∧ b < s'.next) then _ else _)
      by_cases c : b ∈ sumW base ms ∨ (base ≤ b ∧ b < s'.next)
      · rw [if_pos c]
        have := I.right ops.size (Nat.le_refl _) b (c.elim (fun c => .inr (.inl c)) (fun c => .inr (.inr c.1))) (by rw [L.stN]; exact c.elim (fun c => by have := sumW_lt c; omega) (fun c => c.2)) (fun i hi hn => absurd hi hn) (fun i h1 h2 => by omega)
        rw [L.stN] at this
        exact this
      · rw [if_neg c]
        refine I.out b (fun i hi hm => c ?_)
        obtain ⟨_, _, _, _, g5, g6⟩ := L.one i _ (Array.getElem?_eq_getElem hi)
        have h1 := L.nextS (i := i) (by omega)
        have h2 := L.nextS (i := i + 1) (by omega)
        rcases hm with hm | hm
        · by_cases hlt : b < base
          · exact .inl (sumW_mem g6 b hm hlt)
          · have := g5 b hm; exact .inr ⟨by omega, by omega⟩
        · exact .inr ⟨by omega, by omega⟩
    refine hQ a1 w1 ⟨σ1, ⟨fun b hb' => I.ext b hb', ?_, I.K, I.F⟩, I.sz, fun t => ?_, I.df⟩
    · rw [← hcur]; exact I.H
    · have := I.T t
      rw [I.rightT ops.size (Nat.le_refl _) t (fun i o hi hn => absurd hi hn) (fun i o hi hs ho => by have := (Array.getElem?_eq_some_iff.1 ho).1; omega), L.tmN] at this
      exact this
  have mem : ∀ (listed : Array Bool) (i : Nat), i ∈ Region.ready .any ops listed → i < ops.size ∧ listed.getD i true = false ∧ ∀ o, ops[i]? = some o → ∀ e ∈ o.after.toList, Region.binds .any e = true → listed.getD e.on false = true := by
    intro listed i hi
    simp only [Region.ready, List.mem_filter, List.mem_range, Bool.and_eq_true, Bool.not_eq_true'] at hi
    obtain ⟨h1, h2, h3⟩ := hi
    refine ⟨h1, h2, fun o ho e he hbd => ?_⟩
    rw [ho] at h3
    simp only [Option.map_some, Option.getD_some] at h3
    rw [← Array.all_toList] at h3
    have := List.all_eq_true.1 h3 e he
    rw [hbd] at this
    simpa using this
  have getDf : ∀ (listed : Array Bool) (i : Nat), i < listed.size → (listed.getD i true = listed.getD i false) := by
    intro listed i hi
    rw [Array.getD_eq_getD_getElem?, Array.getD_eq_getD_getElem?, Array.getElem?_eq_getElem hi]; rfl
  -- nothing is ready only where all has come up
  have nil : ∀ (listed : Array Bool), listed.size = ops.size → Region.ready .any ops listed = [] → ∀ i, i < ops.size → listed.getD i false = true := by
    intro listed hsz hrd i
    induction i using Nat.strongRecOn with
    | _ i ih =>
      intro hi
      cases hl : listed.getD i false with
      | true => rfl
      | false =>
        exfalso
        have : i ∈ Region.ready .any ops listed := by
          simp only [Region.ready, List.mem_filter, List.mem_range, Bool.and_eq_true, Bool.not_eq_true']
          refine ⟨hi, by rw [getDf listed i (by omega)]; exact hl, ?_⟩
          rw [Array.getElem?_eq_getElem hi]
          simp only [Option.map_some, Option.getD_some]
          rw [← Array.all_toList, List.all_eq_true]
          intro e he
          cases hbd : Region.binds .any e with
          | false => rfl
          | true =>
            have hlt := L.edge i _ (Array.getElem?_eq_getElem hi) e he hbd
            simpa using ih e.on hlt (by omega)
        rw [hrd] at this; cases this
  have key : ∀ (m : Nat) (listed : Array Bool) σ1 cur1 cT a1 w1, listed.size = ops.size → ((List.range ops.size).filter fun i => !listed.getD i false).length = m →
      InvD ρ σ cur ops nt base s s' ms st tm or pr a0 w0 (fun i => i < ops.size ∧ listed.getD i false = true) σ1 cur1 cT a1 w1 → wpAnyIn (fc ro) n P .any ops Q m listed a1 w1 := by
    intro m
    induction m with
    | zero =>
      intro listed σ1 cur1 cT a1 w1 hsz hcnt I
      have hall : ∀ i, i < ops.size → listed.getD i false = true := by
        intro i hi
        have := List.eq_nil_of_length_eq_zero hcnt
        rw [List.filter_eq_nil_iff] at this
        simpa using this i (List.mem_range.2 hi)
      refine ⟨?_, fin _ _ _ _ _ (I.congr fun i => ⟨fun h => h.1, fun h => ⟨h, hall i h⟩⟩)⟩
      cases hrd : Region.ready .any ops listed with
      | nil => rfl
      | cons x l =>
        exfalso
        obtain ⟨h1, h2, _⟩ := mem listed x (by rw [hrd]; simp)
        rw [getDf listed x (by omega), hall x h1] at h2
        cases h2
    | succ m ih =>
      intro listed σ1 cur1 cT a1 w1 hsz hcnt I
      refine ⟨fun hrd => fin _ _ _ _ _ (I.congr fun i => ⟨fun h => h.1, fun h => ⟨h, nil listed hsz hrd i h⟩⟩), fun k hk => ?_⟩
      obtain ⟨h1, h2, h3⟩ := mem listed k hk
      rw [getDf listed k (by omega)] at h2
      have hkS : ¬ (k < ops.size ∧ listed.getD k false = true) := fun h => by rw [h2] at h; cases h.2
      have hok := Array.getElem?_eq_getElem h1
      have hpr : ∀ i, pr k i → (i < ops.size ∧ listed.getD i false = true) := by
        intro i hpi
        obtain ⟨o, ho, e, he, hbd, hor⟩ := L.pred k i hpi
        have hlt := L.edge k o ho e he hbd
        have hle := h3 o ho e he hbd
        rcases hor with rfl | hor
        · exact ⟨by omega, hle⟩
        · exact I.down e.on ⟨by omega, hle⟩ i hor
      unfold wpOpIn
      rw [hok]
      show OpGoal P ro n ops Q ops[k] _ a1 w1
      refine I.step L hC hS hp hb hN hok hkS hpr (fun σ2 cur2 cT2 a2 w2 I2 => ?_)
      refine ih _ σ2 cur2 cT2 a2 w2 (by simp [hsz]) ?_ (I2.congr fun i => ?_)
      · -- one fewer is left
        have hperm : ((List.range ops.size).filter fun i => !(listed.setIfInBounds k true).getD i false) = ((List.range ops.size).filter fun i => !listed.getD i false).filter (fun i => i != k) := by
          rw [List.filter_filter]
          apply List.filter_congr
          intro i hi
          rw [Bool.eq_iff_iff]
          have := getD_set (listed := listed) (k := k) (i := i) (by omega)
          cases hx : (listed.setIfInBounds k true).getD i false <;> cases hy : listed.getD i false <;> simp [hx, hy] at this ⊢
          all_goals omega
        rw [hperm]
        have hnd : ((List.range ops.size).filter fun i => !listed.getD i false).Nodup := List.Pairwise.filter _ List.nodup_range
        have hmem : k ∈ (List.range ops.size).filter fun i => !listed.getD i false := List.mem_filter.2 ⟨List.mem_range.2 h1, by rw [h2]; rfl⟩
        have := List.Nodup.erase_eq_filter hnd k
        rw [← this, List.length_erase_of_mem hmem, hcnt]; rfl
      · rw [getD_set (by omega)]
        constructor
        · rintro (h | h)
          · exact ⟨h.1, .inl h.2⟩
          · exact ⟨by omega, .inr h⟩
        · rintro ⟨h, h' | h'⟩
          · exact .inl ⟨h, h'⟩
          · exact .inr h'
  refine key ops.size _ σ cur (rd T) a w0 (by simp) ?_ ((InvD.start L hH hA hN hF hb).congr fun i => ⟨fun h => h.elim, fun h => ?_⟩)
  · have : ((List.range ops.size).filter fun i => !(Array.replicate ops.size false).getD i false) = List.range ops.size := by
      rw [List.filter_eq_self]
      intro i hi
      rw [Array.getD_eq_getD_getElem?, Array.getElem?_replicate]
      split <;> rfl
    rw [this]; simp
  · have := h.2
    rw [Array.getD_eq_getD_getElem?, Array.getElem?_replicate] at this
    split at this <;> cases this

end
end Go.Proofs.Ytknphpihipkdpaa.Cx
