/- Regions in the order of the text: what holds behind each operation. -/
import Derived.Test.YtknphpihipkdpaaCxK
set_option linter.unusedSimpArgs false
set_option linter.unusedVariables false
namespace Go.Proofs.Ytknphpihipkdpaa.Cx
open Go Go.RowKit

/-- A region's run, laid out: memory, temporaries and what each operation yielded. -/
theorem opsE_trace {P : Program} {C : Ctx} {ρ : Env} {self : Task → St → Option Out} {ops : Array Oper} {nt : Nat} (hS : SelfOk P C ρ self) : ∀ {l : List Oper} {T T' : Tr CV} {s s' : St} {ms : List Mk}, opsE C self ops nt l T s = some (T', s', ms) →
    ∃ (st : Nat → St) (tm : Nat → Tr CV) (or : Nat → OR), st 0 = s ∧ tm 0 = T ∧ st l.length = s' ∧ tm l.length = T' ∧ ms.length = l.length ∧
      ∀ i o, l[i]? = some o → oneE C self ops (tm i) (st i) o = some (or i) ∧ putT nt (tm i) o.dst (or i).val = some (tm (i + 1)) ∧ st (i + 1) = (or i).s ∧
        (∀ b ∈ (or i).R, b < (st i).next) ∧ (∀ b ∈ (or i).W, b < (st i).next) ∧ ms[i]? = some ⟨(or i).R, (or i).W, (st i).next, (st (i + 1)).next⟩
  | [], T, T', s, s', ms, h => by
    simp only [opsE] at h
    cases h
    exact ⟨fun _ => s, fun _ => T, fun _ => ⟨undefC, s, [], []⟩, rfl, rfl, rfl, rfl, rfl, fun i o h => by simp at h⟩
  | o :: l, T, T', s, s', ms, h => by
    simp only [opsE] at h
    split at h
    · cases h
    · rename_i r hr
      split at h
      · cases h
      · rename_i T1 hT1
        split at h
        · cases h
        · rename_i T2 s2 ms2 h2
          cases h
          obtain ⟨st, tm, or, e1, e2, e3, e4, e5, e6⟩ := opsE_trace hS h2
          refine ⟨fun | 0 => s | i + 1 => st i, fun | 0 => T | i + 1 => tm i, fun | 0 => r | i + 1 => or i, rfl, rfl, e3, e4, by simp [e5], ?_⟩
          intro i o' ho
          cases i with
          | zero =>
            simp only [List.getElem?_cons_zero] at ho
            obtain rfl := Option.some.inj ho
            have lt := oneE_lt hS hr
            refine ⟨hr, ?_, ?_, lt.1, lt.2, ?_⟩
            · show putT nt T o.dst r.val = some (tm 0); rw [e2]; exact hT1
            · exact e1
            · show some _ = some _; rw [← e1]
          | succ i =>
            simp only [List.getElem?_cons_succ] at ho
            exact e6 i o' ho

theorem sumR_mem {base : Nat} : ∀ {ms : List Mk} {i : Nat} {m : Mk}, ms[i]? = some m → ∀ b ∈ m.R, b < base → b ∈ sumR base ms
  | [], i, m, h, _, _, _ => by simp at h
  | x :: l, 0, m, h, b, hb, hlt => by simp at h; subst h; exact join_mem.2 (.inl ⟨hb, hlt⟩)
  | x :: l, i + 1, m, h, b, hb, hlt => join_mem.2 (.inr (sumR_mem (i := i) (by simpa using h) b hb hlt))
theorem sumW_mem {base : Nat} : ∀ {ms : List Mk} {i : Nat} {m : Mk}, ms[i]? = some m → ∀ b ∈ m.W, b < base → b ∈ sumW base ms
  | [], i, m, h, _, _, _ => by simp at h
  | x :: l, 0, m, h, b, hb, hlt => by simp at h; subst h; exact join_mem.2 (.inl ⟨hb, hlt⟩)
  | x :: l, i + 1, m, h, b, hb, hlt => join_mem.2 (.inr (sumW_mem (i := i) (by simpa using h) b hb hlt))
theorem sumW_lt {base : Nat} : ∀ {ms : List Mk} {b : Nat}, b ∈ sumW base ms → b < base
  | [], b, h => by simp [sumW] at h
  | x :: l, b, h => by
    rcases join_mem.1 h with h | h
    · exact h.2
    · exact sumW_lt h

section
variable {P : Program} {C : Ctx} {ρ : Env} {σ : Mp} {cur : Cur} {self : Task → St → Option Out} {ro : Option Nat} {n : Nat} {Q : Exit → Act → World → Prop} {ops : Array Oper} {nt base : Nat} {T T' : Tr CV} {s s' : St} {ms : List Mk} {a0 a : Act} {w0 : World}

theorem pc_le {st : Nat → St} {l : List Oper} {or : Nat → OR} {tm : Nat → Tr CV} {ops : Array Oper} (hS : SelfOk P C ρ self) (h : ∀ i o, l[i]? = some o → oneE C self ops (tm i) (st i) o = some (or i) ∧ st (i + 1) = (or i).s) : ∀ (k j : Nat), j + k ≤ l.length → (st j).next ≤ (st (j + k)).next ∧ ∃ L, (st (j + k)).pc = L ++ (st j).pc
  | 0, j, _ => ⟨Nat.le_refl _, [], rfl⟩
  | k + 1, j, hj => by
    obtain ⟨h1, L, h2⟩ := pc_le hS h k j (by omega)
    have hlt : j + k < l.length := by omega
    obtain ⟨h3, h4⟩ := h (j + k) _ (List.getElem?_eq_getElem hlt)
    have hf := oneE_frame hS h3
    rw [← h4] at hf
    obtain ⟨L2, h5⟩ := hf.pc
    exact ⟨Nat.le_trans h1 hf.next, L2 ++ L, by rw [show j + (k + 1) = j + k + 1 by omega, h5, h2, List.append_assoc]⟩

/-- A region that has its order from the text. -/
theorem region_text (hC : CtxOk2 P C) (hS : SelfOk P C ρ self) (h : opsE C self ops nt ops.toList T s = some (T', s', ms)) (hp : ∀ p ∈ s'.pc, p.holds ρ) (hH : HR ρ σ cur w0) (hb : base ≤ s.next)
    (hA : ∀ b, b ∈ sumR base ms ∨ b ∈ sumW base ms ∨ (base ≤ b ∧ b < s.next) → cur b = s.heap.get b) (hN : ∀ b, s.next ≤ b → b < s'.next → σ b = none) (hF : FRn ρ σ nt T a0 a)
    (hQ : ∀ a' w', PostR ρ σ cur base s w0 nt T' s' (sumW base ms) a0 a' w' → Q .normal a' w') : wpOpsIn (fc ro) n P ops Q (List.range ops.size) a w0 := by
  obtain ⟨st, tm, or, e1, e2, e3, e4, e5, e6⟩ := opsE_trace hS h
  have hpl := pc_le (l := ops.toList) hS (fun i o ho => ⟨(e6 i o ho).1, (e6 i o ho).2.2.1⟩)
  have key : ∀ (k j : Nat), j + k = ops.size → ∀ σ1 a1 w1, Inv ρ σ cur base (sumW base ms) s.next w0 (st j) σ1 w1 → FRn ρ σ1 nt (tm j) a0 a1 → wpOpsIn (fc ro) n P ops Q (List.range' j k) a1 w1 := by
    intro k
    induction k with
    | zero =>
      intro j hj σ1 a1 w1 hI hF1
      obtain rfl : j = ops.size := by omega
      rw [show ops.size = ops.toList.length by simp] at hI hF1
      rw [e3] at hI; rw [e4] at hF1
      exact hQ a1 w1 ⟨σ1, hI, hF1⟩
    | succ k ih =>
      intro j hj σ1 a1 w1 hI hF1
      have hlt : j < ops.toList.length := by simp; omega
      obtain ⟨ho⟩ : ∃ o, ops.toList[j]? = some o := ⟨_, List.getElem?_eq_getElem hlt⟩
      rename_i hoj
      obtain ⟨g1, g2, g3, g4, g5, g6⟩ := e6 j ho hoj
      have hl0 := hpl j 0 (by simp; omega)
      simp only [Nat.zero_add, e1] at hl0
      have hl1 := hpl (k) (j + 1) (by simp; omega)
      rw [show j + 1 + k = ops.toList.length by simp; omega, e3] at hl1
      have hfr := oneE_frame hS g1
      have hpj : ∀ p ∈ (or j).s.pc, p.holds ρ := fun p hp' => hp p (by obtain ⟨L, hL⟩ := hl1.2; rw [hL, g3]; simp [hp'])
      have hnj : (st j).next ≤ (or j).s.next := hfr.next
      have hnj1 : (or j).s.next ≤ s'.next := by rw [← g3]; exact hl1.1
      have hWj : ∀ b ∈ (or j).W, b ∈ sumW base ms ∨ (base ≤ b ∧ b < (st j).next) := by
        intro b hb'
        by_cases hlt' : b < base
        · exact .inl (sumW_mem g6 b hb' hlt')
        · exact .inr ⟨by omega, g5 b hb'⟩
      rw [List.range'_succ, wpOpsIn_cons]
      have hoj' : ops[j]? = some ho := by rw [← Array.getElem?_toList]; exact hoj
      unfold wpOpIn
      rw [hoj']
      show OpGoal P ro n ops Q ho _ a1 w1
      refine oneE_sound hC hS g1 hpj (fun t _ => hF1.2.1 t) hI.H (fun b hb' => ?_) (fun b h1 h2 => ?_) (fun v w' hpost => ?_)
      · show (if b ∈ sumW base ms ∨ (base ≤ b ∧ b < (st j).next) then _ else cur b) = _
        by_cases hc : b ∈ sumW base ms ∨ (base ≤ b ∧ b < (st j).next)
        · rw [if_pos hc]
        · rw [if_neg hc]
          rcases hb' with hb' | hb'
          · have hbn := g4 b hb'
            have hlt' : b < base := by
              rcases Nat.lt_or_ge b base with h | h
              · exact h
              · exact absurd (.inr ⟨h, hbn⟩) hc
            rw [hA b (.inl (sumR_mem g6 b hb' hlt'))]
            -- nothing has been written to it since
            have : ∀ (i : Nat), i ≤ j → (st i).heap.get b = s.heap.get b := by
              intro i
              induction i with
              | zero => intro _; rw [e1]
              | succ i ihi =>
                intro hi
                have hli : i < ops.toList.length := by simp; omega
                obtain ⟨q1, q2, q3, q4, q5, q6⟩ := e6 i _ (List.getElem?_eq_getElem hli)
                have hfi := oneE_frame hS q1
                have hl2 := hpl i 0 (by simp; omega)
                simp only [Nat.zero_add, e1] at hl2
                rw [q3, hfi.get b (fun hw => hc (.inl (sumW_mem q6 b hw hlt'))) (by omega)]
                exact ihi (by omega)
            exact (this j (Nat.le_refl _)).symm
          · exact absurd (hWj b hb') hc
      · have : σ b = none := hN b (by omega) (by omega)
        rw [hI.ext b (.inr h1)]; exact this
      · obtain ⟨σ2, p1, p2, p3, p4, p5⟩ := hpost
        have hI2 : Inv ρ σ cur base (sumW base ms) s.next w0 (or j).s σ2 w' :=
          hI.step hl0.1 (by omega) (Nat.le_refl _) hWj hfr.toB p1 p3 p4 p5
        have hle : σ1.le σ2 := p1.le (fun b h1 h2 => by rw [hI.ext b (.inr h1)]; exact hN b (by omega) (by omega))
        rw [← g3] at hI2
        exact ih (j + 1) (by omega) σ2 _ w' hI2 (hF1.put hle g2 p2)
  have h0 := key ops.size 0 (by omega) σ a w0 (by
    rw [e1]
    exact Inv.start hH (fun b hb' => hA b (.inr hb'))) (by rw [e2]; exact hF)
  rw [List.range_eq_range']
  exact h0

end
end Go.Proofs.Ytknphpihipkdpaa.Cx
