/- THE EVALUATOR's WORD HOLDS: of statements and of calls, by its fuel. -/
import Derived.Laws.StructEq
import Derived.Sort.LoopGhostIn
import Derived.Test.YtjdldcmcjaaibaaProg
import Derived.WalkKit
import Derived.Test.YtjdldcmcjaaibaaRows
import Derived.Test.YtjdldcmcjaaibaaChecked
import Derived.ProofKit
import Derived.OpenShut
import Derived.ChangeOld
import Derived.Below
import Derived.Deep.Fields
import Derived.Test.YtjdldcmcjaaibaaPkFShifts2

namespace Go.Proofs.Ytjdldcmcjaaibaa.Cx
set_option linter.unusedSimpArgs false
set_option linter.unusedVariables false
open Go Go.RowKit
/-- The functions' regions have the orders of temporaries that their edges say. -/
structure CtxOk3 (P : Program) (C : Ctx) : Prop extends CtxOk2 P C where
  regs : ∀ f fn c, C.fn f = some fn → fn.body = some c → regsOk c = true
/-- What the evaluator yields at a fuel is right. -/
structure EvOk (P : Program) (C : Ctx) (ρ : Env) (m : Nat) : Prop where
  call : ∀ base f args s c s' R W, eval C m base (.call f args) s = some ⟨.val c, s', R, W⟩ → CallOk P C ρ f args s c s' R W
  code : ∀ base c nt T s e T' s' R W, eval C m base (.code c nt T) s = some ⟨.code e T', s', R, W⟩ → base ≤ s.next → CodeOk P ρ m base c nt T s e T' s' R W
section
variable {P : Program} {C : Ctx} {ρ : Env} {m base nt : Nat} {T T' : Tr CV} {s s' : St} {R W : List Nat} {e : Ex}
/-- A statement that does nothing but leave in some way. -/
theorem leave_ok {c : Code} (hc : ∀ (ro : Option Nat) (n : Nat) (Q : Exit → Act → World → Prop) (a : Act) (w : World), Q e.conv a w → wpL m ro n P c Q a w) (hb : base ≤ s.next) : CodeOk P ρ m base c nt T s e T s [] [] :=
  ⟨FrmB.refl _ _ _, fun b h => by simp at h, fun _ Wt ro n Q σ cur w a0 a _ _ hp _ hH hA hN hF hQ => hc ro n Q a w (hQ a w (PostR.toC ⟨σ, Inv.start hH (fun b hb' => hA b (.inr hb')), hF⟩))⟩
theorem decide_heap {s1 : St} {x : BE} {t : Bool} (h : s.decide x = some (t, s1)) : s1.next = s.next ∧ s1.heap = s.heap := by
  obtain ⟨h1, h2, _⟩ := decide_parts (ρ := ⟨fun _ => 0, fun _ => false⟩) h
  exact ⟨h1, h2⟩
/-- A statement from a memory that only its facts tell from another one. -/
theorem CodeOk.from {c : Code} {s1 : St} (h : CodeOk P ρ m base c nt T s1 e T' s' R W) (h1 : s1.next = s.next) (h2 : s1.heap = s.heap) (h3 : ∃ l, s1.pc = l ++ s.pc) :
    FrmB base s s' W ∧ (regsOk c = true → ∀ (Wt : List Nat) (ro : Option Nat) (n : Nat) (Q : Exit → Act → World → Prop) (σ : Mp) (cur : Cur) (w : World) (a0 a : Act), (∀ b ∈ W, b ∈ Wt) → (∀ b ∈ Wt, b < base) → (∀ p ∈ s'.pc, p.holds ρ) → (∀ l, ro = some l → ∃ r, w.heap[l]? = some (.loop r)) → HR ρ σ cur w → (∀ b, b ∈ R ∨ b ∈ Wt ∨ (base ≤ b ∧ b < s.next) → cur b = s.heap.get b) →
    (∀ b, s.next ≤ b → b < s'.next → σ b = none) → FRn ρ σ nt T a0 a → (∀ a' w', PostC ρ σ cur base s w nt T' s' Wt a0 a' w' → Q e.conv a' w') → wpL m ro n P c Q a w) := by
  refine ⟨⟨by rw [← h1]; exact h.frm.next, fun b hb hn => by rw [h.frm.get b hb hn, h2], ?_⟩, ?_⟩
  · obtain ⟨l, hl⟩ := h3
    obtain ⟨l2, hl2⟩ := h.frm.pc
    exact ⟨l2 ++ l, by rw [hl2, hl, List.append_assoc]⟩
  · intro hr Wt ro n Q σ cur w a0 a hW hWl hp hro hH hA hN hF hQ
    refine h.run hr Wt ro n Q σ cur w a0 a hW hWl hp hro hH (fun b hb => by rw [h2]; rw [h1] at hb; exact hA b hb) (fun b hb => by rw [h1] at hb; exact hN b hb) hF ?_
    rintro a' w' ⟨σ', hI, hF'⟩
    rw [h1] at hI
    exact hQ a' w' ⟨σ', hI, hF'⟩
theorem seq_ok {c d : Code} {s1 : St} {T1 : Tr CV} {R1 W1 R2 W2 : List Nat} {wp2 : Option Nat → Nat → (Exit → Act → World → Prop) → Act → World → Prop} (hb : base ≤ s.next)
    (h1 : CodeOk P ρ m base c nt T s .normal T1 s1 R1 W1) (h2 : CodeOk P ρ m base d nt T1 s1 e T' s' R2 W2) :
    FrmB base s s' (join base W1 W2) ∧ (∀ b, b ∈ join base R1 R2 ∨ b ∈ join base W1 W2 → b < base) ∧
    (regsOk c = true → regsOk d = true → ∀ (Wt : List Nat) (ro : Option Nat) (n : Nat) (Q : Exit → Act → World → Prop) (σ : Mp) (cur : Cur) (w : World) (a0 a : Act), (∀ b ∈ join base W1 W2, b ∈ Wt) → (∀ b ∈ Wt, b < base) → (∀ p ∈ s'.pc, p.holds ρ) → (∀ l, ro = some l → ∃ r, w.heap[l]? = some (.loop r)) → HR ρ σ cur w → (∀ b, b ∈ join base R1 R2 ∨ b ∈ Wt ∨ (base ≤ b ∧ b < s.next) → cur b = s.heap.get b) →
    (∀ b, s.next ≤ b → b < s'.next → σ b = none) → FRn ρ σ nt T a0 a → (∀ a' w', PostC ρ σ cur base s w nt T' s' Wt a0 a' w' → Q e.conv a' w') →
    ∀ Q1 : Exit → Act → World → Prop, (∀ a1 w1, wpL m ro n P d Q a1 w1 → Q1 .normal a1 w1) → wpL m ro n P c Q1 a w) := by
  have f1 := h1.frm
  have f2 := h2.frm
  have hW1 : ∀ b ∈ W1, b ∈ join base W1 W2 := fun b hb' => join_mem.2 (.inl ⟨hb', h1.lt b (.inr hb')⟩)
  have hW2 : ∀ b ∈ W2, b ∈ join base W1 W2 := fun b hb' => join_mem.2 (.inr hb')
  refine ⟨f1.trans f2 hW1 hW2, fun b hb' => ?_, ?_⟩
  · rcases hb' with hb' | hb'
    · rcases join_mem.1 hb' with h | h
      · exact h.2
      · exact h2.lt b (.inl h)
    · rcases join_mem.1 hb' with h | h
      · exact h.2
      · exact h2.lt b (.inr h)
  · intro hrc hrd Wt ro n Q σ cur w a0 a hW hWl hp hro hH hA hN hF hQ Q1 hQ1
    have n1 := f1.next
    have n2 := f2.next
    have hp1 : ∀ p ∈ s1.pc, p.holds ρ := fun p hp' => hp p (by obtain ⟨l, hl⟩ := f2.pc; rw [hl]; simp [hp'])
    refine h1.run hrc Wt ro n Q1 σ cur w a0 a (fun b hb' => hW b (hW1 b hb')) hWl hp1 hro hH (fun b hb' => hA b ?_) (fun b hb1 hb2 => hN b hb1 (by omega)) hF ?_
    · rcases hb' with hb' | hb'
      · exact .inl (join_mem.2 (.inl ⟨hb', h1.lt b (.inl hb')⟩))
      · exact .inr hb'
    · rintro a1 w1 ⟨σ1, hI, hF1⟩
      refine hQ1 a1 w1 (h2.run hrd Wt ro n Q σ1 (upd cur base s1.next s1.heap Wt) w1 a1 a1 (fun b hb' => hW b (hW2 b hb')) hWl hp (fun l hl => (hro l hl).elim fun r hr => hI.K.loops l r hr) hI.H (fun b hb' => ?_) (fun b hb1 hb2 => ?_) hF1.self ?_)
      · show (if b ∈ Wt ∨ (base ≤ b ∧ b < s1.next) then _ else cur b) = _
        by_cases hc : b ∈ Wt ∨ (base ≤ b ∧ b < s1.next)
        · rw [if_pos hc]
        · rw [if_neg hc]
          rcases hb' with hb' | hb'
          · rw [hA b (.inl (join_mem.2 (.inr hb'))), f1.get b (fun h => hc (.inl (hW b (hW1 b h)))) (fun h => hc (.inr h))]
          · exact absurd hb' hc
      · rw [hI.ext b (.inr hb1)]; exact hN b (by omega) hb2
      · rintro a' w' ⟨σ2, hI2, hF2⟩
        refine hQ a' w' ⟨σ2, hI.step n1 (Nat.le_refl _) (by omega) (fun b hb' => .inl hb') (f2.more (fun b hb' => hW b (hW2 b hb'))) hI2.ext hI2.H hI2.K hI2.F, hF2.1, hF2.2.1, hF1.2.2.trans hI.K.size (fun k hk => hI2.K.defd k hk) hF2.2.2⟩
/-! ## A range over a function -/
theorem enter_inner {w : World} {l0 : Nat} {r0 : Loop} (h : w.heap[l0]? = some (.loop r0)) (fn : FuncId) (tmps : Array Value) (ps : Array Tmp) (assign body : Code) :
    (Instr.enterLoop fn tmps ps assign body (some l0)).run P w = .ok (w.heap.size, []) (w.alloc (.loop { state := .ready, pending := none, fn, tmps, params := ps, assign, body, defers := r0.defers })) := by
  unfold Instr.enterLoop
  simp only [Sem.run_bind, run_getLoop h, run_newObj_alloc, Result.andThen, Sem.run_pure]
theorem rangeE_parts {self : Nat → Task → St → Option Out} {f : Operand} {ps : Array Tmp} {assign body : Code} (h : rangeE base self f ps assign body nt T s = some ⟨.code e T', s', R, W⟩) : ∃ (g : Nat) (first captured : List CV) (c : CV) (s2 : St) (R1 W1 : List Nat) (r5 : LR),
    ev T f = some (.fn (.func g) first captured) ∧ self (s.next + 1) (.call g (first ++ [.yld s.next] ++ captured)) (s.newX (.loop ⟨T, nt, ps, assign, body, .ready, none⟩)) = some ⟨.val c, s2, R1, W1⟩ ∧
    s2.getX s.next = some (.loop r5) ∧ r5.st ≠ .busy ∧ Ex.of r5.pend = some e ∧ T' = T ∧ s' = s2.setX s.next (.loop { r5 with st := .exhausted }) ∧ R = join base R1 [] ∧ W = join base W1 [] := by
  unfold rangeE at h
  split at h
  · rename_i g first captured hf
    split at h
    · rename_i c s2 R1 W1 h1
      split at h
      · rename_i T5 nt5 ps5 as5 bd5 st5 pd5 hx
        cases he : Ex.of pd5 with
        | none => rw [he] at h; cases st5 <;> cases h
        | some e' =>
          rw [he] at h
          have hst : st5 ≠ .busy := fun e1 => by rw [e1] at h; cases h
          have h' : some (⟨.code e' T, s2.setX s.next (.loop ⟨T5, nt5, ps5, as5, bd5, .exhausted, pd5⟩), join base R1 [], join base W1 []⟩ : Out) = some ⟨.code e T', s', R, W⟩ := by
            cases st5
            · exact h
            · exact absurd rfl hst
            · exact h
            · exact h
          cases h'
          exact ⟨g, first, captured, c, s2, R1, W1, ⟨T5, nt5, ps5, as5, bd5, st5, pd5⟩, hf, h1, hx, hst, he, rfl, rfl, rfl, rfl⟩
      · cases h
    · cases h
  · cases h
theorem range_ok {f : Operand} {ps : Array Tmp} {assign body : Code} (hC : CtxOk2 P C) (ih : ∀ base f args s c s' R W, eval C m base (.call f args) s = some ⟨.val c, s', R, W⟩ → CallOk P C ρ f args s c s' R W) (hb : base ≤ s.next) (h : rangeE base (eval C m) f ps assign body nt T s = some ⟨.code e T', s', R, W⟩) :
    CodeOk P ρ (m + 1) base (.rangeFunc f ps assign body) nt T s e T' s' R W := by
  obtain ⟨g, first, captured, c, s2, R1, W1, r5, hf, h1, hx5, hst, hex, rfl, rfl, rfl, rfl⟩ := rangeE_parts h
  have K := ih _ _ _ _ _ _ _ _ h1
  generalize hs1 : s.newX (.loop ⟨T', nt, ps, assign, body, .ready, none⟩) = s1 at *
  have n1 : s1.next = s.next + 1 := by rw [← hs1]; rfl
  have n2 : s1.next ≤ s2.next := K.frm.next
  have f01 : Frm s s1 [] := by rw [← hs1]; exact .newX _ _ _
  have hW1 : ∀ b ∈ W1, b ∈ join base W1 [] ∨ (base ≤ b ∧ b < s1.next) := fun b hb' => by
    by_cases hlt : b < base
    · exact .inl (join_mem.2 (.inl ⟨hb', hlt⟩))
    · exact .inr ⟨by omega, K.lt.2 b hb'⟩
  have f12 : FrmB base s s2 (join base W1 []) := by
    obtain ⟨L1, p1⟩ := f01.pc
    obtain ⟨L2, p2⟩ := K.frm.pc
    refine ⟨by omega, fun b hb1 hb2 => ?_, L2 ++ L1, by rw [p2, p1, List.append_assoc]⟩
    rw [K.frm.get b (fun hw => (hW1 b hw).elim hb1 (fun h => hb2 ⟨h.1, by omega⟩)) (fun h => hb2 ⟨by omega, h.2⟩), f01.get b (by simp) (fun h => hb2 ⟨by omega, by omega⟩)]
  refine ⟨⟨f12.next, fun b hb1 hb2 => ?_, f12.pc⟩, fun b hb' => ?_, ?_⟩
  · have hb2' : ¬ (base ≤ b ∧ b < s2.next) := hb2
    rw [setX_get, if_neg (fun e => hb2' ⟨by omega, by omega⟩)]
    exact f12.get b hb1 hb2
  · rcases hb' with hb' | hb' <;> rcases join_mem.1 hb' with h | h
    · exact h.2
    · cases h
    · exact h.2
    · cases h
  · intro hr Wt ro n Q σ cur w a0 a hW hWl hp hro hH hA hN hF hQ
    have hrs : regsOk assign = true ∧ regsOk body = true := by simpa only [regsOk, Bool.and_eq_true] using hr
    have hp2 : ∀ p ∈ s2.pc, p.holds ρ := hp
    have hN2 : ∀ b, s.next ≤ b → b < s2.next → σ b = none := hN
    show (Code.rangeFunc f ps assign body).wpIn (fc ro) n P Q a w
    refine wpIn_rangeFunc (fun fn _ => ?_)
    -- the record is laid
    obtain ⟨wa, D, mark, hent, hIa, hmark⟩ : ∃ (wa : World) (D : Nat) (mark : List Deferred),
        (Instr.enterLoop fn a.tmps ps assign body ro).run P w = .ok (wa.heap.size, mark) (wa.alloc (.loop { state := .ready, pending := none, fn, tmps := a.tmps, params := ps, assign, body, defers := D })) ∧
        Inv ρ σ cur base Wt s.next w s σ wa ∧ Marks a0.defers w (mark ++ a.defers) wa := by
      have hI0 : Inv ρ σ cur base Wt s.next w s σ w := Inv.start hH (fun b hb' => hA b (.inr hb'))
      cases ro with
      | none =>
        refine ⟨w.alloc (.deferred (some [])), w.heap.size, [{ target := .collected w.heap.size, args := #[] }], ?_, ⟨hI0.ext, hI0.H.alloc _, .of_same rfl rfl rfl (by simp) fun k hk => alloc_get hk, hI0.F⟩, ?_⟩
        · rw [run_enterLoop_outer, World.size_alloc]
        · rw [hF.2.2]
          exact ⟨[w.heap.size], rfl, by simp, fun D hD => by obtain rfl := List.mem_singleton.1 hD; exact ⟨Nat.le_refl _, alloc_new _ _⟩⟩
      | some l0 =>
        obtain ⟨q0, hq0⟩ := hro l0 rfl
        refine ⟨w, q0.defers, [], enter_inner hq0 _ _ _ _ _, hI0, ?_⟩
        rw [hF.2.2]; exact .refl _ _ _
    have hσ : σ s.next = none := hN2 _ (Nat.le_refl _) (by omega)
    obtain ⟨x1, x2, x3, x4⟩ := newX_run (x := .loop ⟨T', nt, ps, assign, body, .ready, none⟩) (o := .loop { state := .ready, pending := none, fn, tmps := a.tmps, params := ps, assign, body, defers := D }) hIa.H hσ
      (.loop _ (alloc_new _ _) rfl rfl rfl rfl rfl hF.1 (fun t => (hF.2.1 t).mono (fun b l' hb => by
        show (if b = s.next then _ else σ b) = _
        rw [if_neg (fun h => by rw [h, hσ] at hb; cases hb)]; exact hb)) hrs.1 hrs.2)
    rw [hs1] at x1
    generalize hσ1 : (fun b => if b = s.next then some (⟨wa.heap.size, 0, 0, 0⟩ : Loc) else σ b) = σ1 at x1 x2 x3 x4
    have hσ1n : σ1 s.next = some ⟨wa.heap.size, 0, 0, 0⟩ := by rw [← hσ1]; exact if_pos rfl
    rw [← n1] at x1 x2 x4
    generalize hw1 : wa.alloc (.loop { state := .ready, pending := none, fn, tmps := a.tmps, params := ps, assign, body, defers := D }) = w1 at hent x1 x3 x4
    have hI1 : Inv ρ σ cur base Wt s.next w s1 σ1 w1 := hIa.step (Nat.le_refl _) hb (Nat.le_refl _) (fun b hb' => by cases hb') f01.toB x2 x1 x3 x4
    -- the call
    obtain ⟨x', y', hfv, hx, hy⟩ := (ev_run (σ := σ) (ρ := ρ) (a := a) (fun t _ => hF.2.1 t) hf).fn_inv
    obtain ⟨gfn, hgfn, hbody⟩ := K.fn
    have hle1 : σ.le σ1 := hI1.ext.le (fun b h1 h2 => hN2 b h1 (by omega))
    have hargs : VRl ρ σ1 (first ++ [.yld s.next] ++ captured) ((x' ++ #[Value.func (.yield wa.heap.size) #[] #[]]) ++ y').toList := by
      simp only [Array.toList_append]
      exact ((hx.mono hle1).append (.cons (.yld hσ1n) .nil)).append (hy.mono hle1)
    refine ⟨wa.heap.size, mark, w1, { target := .fn (.func g) y', args := x' ++ #[Value.func (.yield wa.heap.size) #[] #[]] }, w1, g, (x' ++ #[Value.func (.yield wa.heap.size) #[] #[]]) ++ y', w1, hent, ?_, (fun _ _ => trivial), ?_, (fun h => by cases h), callsIn_fc ((K.run (n - 1) σ1 _ w1 _ hp2 hargs hI1.H (fun b hb' => ?_) (fun b h1 h2 => ?_)).mono ?_)⟩
    · simp only [resolve, Deferred.ofValue, hfv, pure_bind, Sem.run_pure]
      simp [Act.eval]
    · simp only [invoke, callFunc_run hC hgfn hbody]
    · refine upd_get ⟨f01.next, fun b h1 h2 => f01.get b (by simp) (fun h => h2 ⟨by omega, h.2⟩), f01.pc⟩ (hb'.elim (K.lt.1 b) (K.lt.2 b)) (fun h3 h4 => ?_)
      rcases hb' with hb' | hb'
      · exact hA b (.inl (join_mem.2 (.inl ⟨hb', h3⟩)))
      · exact absurd (hW b (join_mem.2 (.inl ⟨hb', h3⟩))) h4
    · rw [hI1.ext b (.inr h1)]; exact hN2 b (by omega) h2
    · rintro e' w3 ⟨v, rfl, σ2, y1, y2, y3, y4, y5⟩
      have hI2 : Inv ρ σ cur base Wt s.next w s2 σ2 w3 := hI1.step (by omega) (by omega) (Nat.le_refl _) (fun b hb' => (hW1 b hb').imp (hW b) (fun h => h)) K.frm.toB y1 y3 y4 y5
      have hl2 : σ2 s.next = some ⟨wa.heap.size, 0, 0, 0⟩ := by rw [y1 _ (.inl (by omega))]; exact hσ1n
      obtain ⟨q, hq, hqs, hqp, hI5, hK5⟩ := loop_set (r1 := { r5 with st := .exhausted }) (f := fun q => { q with state := .exhausted }) hI2 (by omega) (by omega) hx5 (.inr ⟨hb, by omega⟩) hl2 (fun q h1' h2' h3' => by
        have hpd : q.pending = r5.pend := by
          cases h1' with
          | loop q' hq' _ hp' => rw [h2'] at hq'; cases hq'; exact hp'
        have := h1'.loop_state (st := .exhausted) (pd := r5.pend) h2'
        rw [← hpd] at this
        rw [← hpd]
        exact this)
      refine ⟨q.pending, _, run_endLoop hq (by rw [hqs]; exact hst), ?_⟩
      have hpost : PostC ρ σ cur base s w nt T' (s2.setX s.next (.loop { r5 with st := .exhausted })) Wt a0 { a with defers := mark ++ a.defers } (w3.putObj wa.heap.size (.loop { q with state := .exhausted })) := by
        refine ⟨σ2, hI5, hF.1, fun t => (hF.2.1 t).mono (hI2.ext.le hN2), ?_⟩
        obtain ⟨l, e1, e2, e3⟩ := hmark
        refine ⟨l, e1, e2, fun D hD => ⟨(e3 D hD).1, hK5.defd D (y4.defd D (x3.defd D (e3 D hD).2))⟩⟩
      have := hQ _ _ hpost
      rw [← hqp] at hex
      revert hex this
      generalize w3.putObj wa.heap.size (.loop { q with state := .exhausted }) = w4
      intro hex this
      revert hex
      cases hpd : q.pending with
      | none => intro hex; cases hex; exact this
      | some cd =>
        intro hex
        cases cd <;> simp only [Ex.of] at hex <;> cases hex
        · exact wpIn_exit this
        · exact wpIn_ret this
theorem regs_seq {a b : Code} (h : regsOk (.seq a b) = true) : regsOk a = true ∧ regsOk b = true := by
  simpa only [regsOk, Bool.and_eq_true] using h
theorem regs_cond {x : Operand} {a b : Code} (h : regsOk (.cond x a b) = true) : regsOk a = true ∧ regsOk b = true := by
  simpa only [regsOk, Bool.and_eq_true] using h
theorem step_code (hC : CtxOk3 P C) (ih : EvOk P C ρ m) : ∀ base c nt T s e T' s' R W, eval C (m + 1) base (.code c nt T) s = some ⟨.code e T', s', R, W⟩ → base ≤ s.next → CodeOk P ρ (m + 1) base c nt T s e T' s' R W := by
  intro base c nt T s e T' s' R W h hb
  have hS : SelfOk P C ρ (fun t s => eval C m s.next t s) := ⟨fun f args s c s' R W h => ih.call _ _ _ _ _ _ _ _ h, fun c nt T s e T' s' R W h => ⟨m, ih.code _ _ _ _ _ _ _ _ _ _ h (Nat.le_refl _)⟩⟩
  have h' : stepE C base (eval C m) (.code c nt T) s = some ⟨.code e T', s', R, W⟩ := h
  simp only [stepE, codeE] at h'
  split at h'
  · cases h'; exact leave_ok (fun ro n Q a w hq => wpIn_skip hq) hb
  · cases h'; exact leave_ok (fun ro n Q a w hq => wpIn_label hq) hb
  · cases h'; exact leave_ok (fun ro n Q a w hq => wpIn_ret hq) hb
  · cases h'; exact leave_ok (fun ro n Q a w hq => wpIn_exit hq) hb
  · -- seq
    simp only [seqE] at h'
    rename_i x y
    split at h'
    · rename_i T1 s1 R1 W1 h1
      have k1 := ih.code _ _ _ _ _ _ _ _ _ _ h1 hb
      split at h'
      · rename_i e2 T2 s2 R2 W2 h2
        cases h'
        have k2 := ih.code _ _ _ _ _ _ _ _ _ _ h2 (Nat.le_trans hb k1.frm.next)
        obtain ⟨q1, q2, q3⟩ := seq_ok (wp2 := fun _ _ _ _ _ => True) hb k1 k2
        refine ⟨q1, q2, fun hr Wt ro n Q σ cur w a0 a hW hWl hp hro hH hA hN hF hQ => ?_⟩
        show (Code.seq x y).wpIn (fc ro) n P Q a w
        refine wpIn_seq (wpL.wpIn (q3 (regs_seq hr).1 (regs_seq hr).2 Wt ro n Q σ cur w a0 a hW hWl hp hro hH hA hN hF hQ (Exit.then (y.wpIn (fc ro) n P Q) Q) (fun a1 w1 h => h.wpIn)))
      · cases h'
    · rename_i r hne h1
      cases h'
      have k1 := ih.code _ _ _ _ _ _ _ _ _ _ h1 hb
      refine ⟨k1.frm, k1.lt, fun hr Wt ro n Q σ cur w a0 a hW hWl hp hro hH hA hN hF hQ => ?_⟩
      show (Code.seq x y).wpIn (fc ro) n P Q a w
      refine wpIn_seq (wpL.wpIn (k1.run (regs_seq hr).1 Wt ro n _ σ cur w a0 a hW hWl hp hro hH hA hN hF (fun a' w' hpost => ?_)))
      have := hQ a' w' hpost
      cases e with
      | normal => exact absurd rfl (hne T' s' R W)
      | exit i => exact this
      | ret => exact this
    · cases h'
  · -- cond
    simp only [condE] at h'
    rename_i x y z
    split at h'
    · rename_i ex hx
      split at h'
      · rename_i t s1 hd
        obtain ⟨d1, d2⟩ := decide_heap hd
        have d3 := (decide_parts (ρ := ρ) hd).2.2
        have k1 := ih.code _ _ _ _ _ _ _ _ _ _ h' (by rw [d1]; exact hb)
        obtain ⟨q1, q2⟩ := k1.from d1 d2 d3.1
        refine ⟨q1, k1.lt, fun hr Wt ro n Q σ cur w a0 a hW hWl hp hro hH hA hN hF hQ => ?_⟩
        show (Code.cond x y z).wpIn (fc ro) n P Q a w
        have hp1 : ∀ p ∈ s1.pc, p.holds ρ := fun p hp' => hp p (by obtain ⟨l, hl⟩ := k1.frm.pc; rw [hl]; simp [hp'])
        have hxv := (ev_run (σ := σ) (ρ := ρ) (a := a) (fun t _ => hF.2.1 t) hx).bool_inv
        rw [d3.2 hp1] at hxv
        refine wpIn_cond hxv ?_
        have := (q2 (by cases t; exact (regs_cond hr).2; exact (regs_cond hr).1) Wt ro n Q σ cur w a0 a hW hWl hp hro hH hA hN hF hQ).wpIn
        cases t <;> exact this
      · cases h'
    · cases h'
  · -- block
    simp only [blockE] at h'
    rename_i i b
    split at h'
    · rename_i j T1 s1 R1 W1 h1
      cases h'
      have k1 := ih.code _ _ _ _ _ _ _ _ _ _ h1 hb
      refine ⟨k1.frm, k1.lt, fun hr Wt ro n Q σ cur w a0 a hW hWl hp hro hH hA hN hF hQ => ?_⟩
      show (Code.block i b).wpIn (fc ro) n P Q a w
      refine wpIn_block (wpL.wpIn (k1.run hr Wt ro n _ σ cur w a0 a hW hWl hp hro hH hA hN hF (fun a' w' hpost => ?_)))
      have := hQ a' w' hpost
      show (if j = i then Q .normal a' w' else Q (.exit j) a' w')
      by_cases hj : j = i
      · rw [if_pos hj]
        have e1 : Nat.beq j i = true := by rw [hj]; exact Nat.beq_refl i
        rw [e1] at this; exact this
      · rw [if_neg hj]
        have e1 : Nat.beq j i = false := by
          cases hbq : Nat.beq j i with
          | false => rfl
          | true => exact absurd (Nat.eq_of_beq_eq_true hbq) hj
        rw [e1] at this; exact this
    · rename_i hne
      have k1 := ih.code _ _ _ _ _ _ _ _ _ _ h' hb
      refine ⟨k1.frm, k1.lt, fun hr Wt ro n Q σ cur w a0 a hW hWl hp hro hH hA hN hF hQ => ?_⟩
      show (Code.block i b).wpIn (fc ro) n P Q a w
      refine wpIn_block (wpL.wpIn (k1.run hr Wt ro n _ σ cur w a0 a hW hWl hp hro hH hA hN hF (fun a' w' hpost => ?_)))
      have := hQ a' w' hpost
      cases e with
      | normal => exact this
      | exit j => exact absurd h' (hne j T' s' R W)
      | ret => exact this
  · -- scope
    rename_i b
    have k1 := ih.code _ _ _ _ _ _ _ _ _ _ h' hb
    refine ⟨k1.frm, k1.lt, fun hr Wt ro n Q σ cur w a0 a hW hWl hp hro hH hA hN hF hQ => ?_⟩
    show (Code.scope b).wpIn (fc ro) n P Q a w
    refine wpIn_scope (wpL.wpIn (k1.run hr Wt ro n _ σ cur w a0 a hW hWl hp hro hH hA hN hF (fun a' w' hpost => ?_)))
    have := hQ a' w' hpost
    cases e <;> exact this
  · -- loop
    simp only [loopE] at h'
    rename_i b
    split at h'
    · rename_i T1 s1 R1 W1 h1
      have k1 := ih.code _ _ _ _ _ _ _ _ _ _ h1 hb
      split at h'
      · rename_i e2 T2 s2 R2 W2 h2
        cases h'
        have k2 := ih.code _ _ _ _ _ _ _ _ _ _ h2 (Nat.le_trans hb k1.frm.next)
        obtain ⟨q1, q2, q3⟩ := seq_ok (wp2 := fun _ _ _ _ _ => True) hb k1 k2
        refine ⟨q1, q2, fun hr Wt ro n Q σ cur w a0 a hW hWl hp hro hH hA hN hF hQ => ?_⟩
        show Code.roundsIn (fc ro) n P b Q (m + 1) a w
        exact (q3 hr hr Wt ro n Q σ cur w a0 a hW hWl hp hro hH hA hN hF hQ (Exit.then (Code.roundsIn (fc ro) n P b Q m) Q) (fun a1 w1 h => h)).wpIn
      · cases h'
    · rename_i hne
      have k1 := ih.code _ _ _ _ _ _ _ _ _ _ h' hb
      refine ⟨k1.frm, k1.lt, fun hr Wt ro n Q σ cur w a0 a hW hWl hp hro hH hA hN hF hQ => ?_⟩
      show Code.roundsIn (fc ro) n P b Q (m + 1) a w
      refine wpL.wpIn (m := m) (k1.run hr Wt ro n (Exit.then (Code.roundsIn (fc ro) n P b Q m) Q) σ cur w a0 a hW hWl hp hro hH hA hN hF (fun a' w' hpost => ?_))
      have := hQ a' w' hpost
      cases e with
      | normal => exact absurd h' (hne T' s' R W)
      | exit j => exact this
      | ret => exact this
  · -- region
    simp only [regionE] at h'
    rename_i rid ops draw
    split at h'
    · cases h'
    · rename_i T1 s1 ms h1
      cases hd : (!draw || quietB s.next ms || drawOk 0 ms (preds ops.toList [])) with
      | false => rw [hd, cond_false] at h'; cases h'
      | true =>
        rw [hd, cond_true] at h'
        cases h'
        exact region_ok hC.toCtxOk2 hS hb h1 hd
  · -- a range over a function
    exact range_ok hC.toCtxOk2 (fun base f args s c s' R W h => ih.call _ _ _ _ _ _ _ _ h) hb h'
  · cases h'
mutual
theorem VR.plain {σ τ : Mp} {c : CV} {v : Value} : VR ρ σ c v → c.plain = true → VR ρ τ c v
  | .bool b, _ => .bool b
  | .int k e, _ => .int k e
  | .raw v, _ => .raw v
  | .ptr0, _ => .ptr0
  | .ptr _, h => by simp [CV.plain] at h
  | .slc0, _ => .slc0
  | .slc _ _ _, h => by simp [CV.plain] at h
  | .slx _, h => by simp [CV.plain] at h
  | .sla _ _, h => by simp [CV.plain] at h
  | .sla0 _ _, h => by simp [CV.plain] at h
  | .sln a c h, _ => .sln a c h
  | .slr _ _ _ _, h => by simp [CV.plain] at h
  | .ptx _, h => by simp [CV.plain] at h
  | .junk h, _ => .junk h
  | .any v, _ => .any v
  | .emp a c, _ => .emp a c
  | .fn f ha hb, h => by simp [CV.plain] at h
  | .agg hl, h => .agg (VRl.plain hl (by simpa [CV.plain] using h))
  | .tup hl, h => .tup (VRl.plain hl (by simpa [CV.plain] using h))
  | .yld _, h => by simp [CV.plain] at h
  | .map _, h => by simp [CV.plain] at h
theorem VRl.plain {σ τ : Mp} {l : List CV} {m : List Value} : VRl ρ σ l m → CV.plains l = true → VRl ρ τ l m
  | .nil, _ => .nil
  | .cons h t, hp => by
    simp only [CV.plains, Bool.and_eq_true] at hp
    exact .cons (VR.plain h hp.1) (VRl.plain t hp.2)
end
mutual
/-- What is related by a map, and by a greater one to another value, is so by the smaller one. -/
theorem VR.back {σ τ : Mp} (hl : σ.le τ) {c : CV} {v u : Value} : VR ρ σ c v → VR ρ τ c u → VR ρ σ c u
  | .bool _, h => by cases h; exact .bool _
  | .int _ _, h => by cases h; exact .int _ _
  | .raw _, h => by cases h; exact .raw _
  | .ptr0, h => by cases h; exact .ptr0
  | .ptr h1, h => by
    cases h with
    | ptr h2 => rw [hl _ _ h1] at h2; obtain rfl := Option.some.inj h2; exact .ptr h1
  | .slc0, h => by cases h; exact .slc0
  | .slc h1 _ _, h => by
    cases h with
    | slc h2 h3 h4 => rw [hl _ _ h1] at h2; obtain rfl := Option.some.inj h2; exact .slc h1 h3 h4
  | .slx h1, h => by
    cases h with
    | slx h2 => exact .slx (VR.back hl h1 h2)
  | .sla h1 hc, h => by
    cases h with
    | sla h2 hc' => rw [hl _ _ h1] at h2; obtain rfl := Option.some.inj h2; exact .sla h1 hc'
    | sla0 a c => exact .sla0 a c
  | .sla0 _ _, h => by
    cases h with
    | sla h2 hc' => exact .sla0 _ _
    | sla0 a c => exact .sla0 a c
  | .sln _ _ _, h => by cases h; exact .sln _ _ (by assumption)
  | .slr _ _ g1 g2, h => by
    cases h with
    | slr a2 c2 k1 k2 =>
      refine .slr _ _ k1 fun i h1 h2 => ?_
      obtain ⟨l, o, q1, q2, q3⟩ := k2 i h1 h2
      obtain ⟨l', o', _, _, r3⟩ := g2 i (by rw [g1] at k1; omega) h2
      have q4 := hl _ _ r3
      rw [q3] at q4
      obtain rfl := Option.some.inj q4
      exact ⟨l, o, q1, q2, r3⟩
  | .ptx h1, h => by
    cases h with
    | ptx h2 => exact .ptx (VR.back hl h1 h2)
  | .junk _, h => by
    cases h with
    | junk h => exact .junk h
  | .any _, _ => .any _
  | .emp _ _, h => by cases h; exact .emp _ _
  | .fn f ha hb, h => by
    cases h with
    | fn _ ha' hb' => exact .fn f (VRl.back hl ha ha') (VRl.back hl hb hb')
  | .agg h1, h => by
    cases h with
    | agg h2 => exact .agg (VRl.back hl h1 h2)
  | .tup h1, h => by
    cases h with
    | tup h2 => exact .tup (VRl.back hl h1 h2)
  | .yld h1, h => by
    cases h with
    | yld h2 => rw [hl _ _ h1] at h2; obtain rfl := Option.some.inj h2; exact .yld h1
  | .map h1, h => by
    cases h with
    | map h2 => rw [hl _ _ h1] at h2; obtain rfl := Option.some.inj h2; exact .map h1
theorem VRl.back {σ τ : Mp} (hl : σ.le τ) {l : List CV} {m n : List Value} : VRl ρ σ l m → VRl ρ τ l n → VRl ρ σ l n
  | .nil, h => by cases h; exact .nil
  | .cons h t, h' => by
    cases h' with
    | cons h2 t2 => exact .cons (VR.back hl h h2) (VRl.back hl t t2)
end
theorem MRl.back {σ τ : Mp} (hl : σ.le τ) {l : List (CV × CV)} {m n : List MapEntry} (h1 : MRl ρ σ l m) : MRl ρ τ l n → MRl ρ σ l n := by
  induction h1 generalizing n with
  | nil => intro h; cases h; exact .nil
  | cons hk hv _ ih => intro h; cases h with | cons hk' hv' ht => exact .cons (hk.back hl hk') (hv.back hl hv') (ih ht)
theorem XR.back {σ τ : Mp} {w w' : World} {g : Nat} {x : BX} (hl : σ.le τ) (h : XR ρ σ w g x) : XR ρ τ w' g x → XR ρ σ w' g x := by
  cases h with
  | loop q h hs hp hps ha hb hn hT ra rb =>
    intro h'
    cases h' with
    | loop q' h' hs' hp' hps' ha' hb' hn' hT' ra' rb' => exact .loop q' h' hs' hp' hps' ha' hb' hn' (fun t => (hT t).back hl (hT' t)) ra' rb'
  | map es h hb hm =>
    intro h'
    cases h' with
    | map es' h' hb' hm' => exact .map es' h' hb' (hm.back hl hm')
/-- A call that wrote nothing old and yields a plain value may forget what it made. -/
theorem CallOk.forget {f : Nat} {args : List CV} {c : CV} (K : CallOk P C ρ f args s c s' R []) (hc : c.plain = true) : CallOk P C ρ f args s c { s' with heap := s.heap } R [] := by
  refine ⟨K.fn, ⟨K.frm.next, fun b _ _ => rfl, K.frm.pc⟩, K.lt, ?_⟩
  intro n σ cur w args' hp hargs hH hA hN
  refine (K.run n σ cur w args' hp hargs hH hA hN).mono ?_
  rintro e w' ⟨v, rfl, σ', h1, h2, h3, h4, h5⟩
  have hle := h1.le hN
  have hold : ∀ b l, σ b = some l → ¬ (s.next ≤ b ∧ b < s'.next) := fun b l hl hr => by rw [hN b hr.1 hr.2] at hl; cases hl
  have hcur : ∀ b l (h : Tr Blk), σ b = some l → upd cur s.next s'.next h [] b = cur b := fun b l h hl => by
    unfold upd; rw [if_neg]; simp only [List.not_mem_nil, false_or]; exact hold b l hl
  refine ⟨v, rfl, σ, Ext.refl _ _ _, h2.plain hc, ⟨fun b k l hk hlv hl => ?_, fun b b' k k' l l' a1 a2 a3 a4 a5 a6 a7 a8 => ?_, fun b k x l hk hx hl => ?_, fun b b' k k' x x' l l' a1 a2 a3 a4 a5 a6 a7 => ?_, fun y hy => ⟨(h3.glob y hy).1, fun b k l a1 a2 ar a3 => ?_⟩⟩, h4, fun b l a1 a2 a3 => ?_⟩
  · rw [hcur b l _ hl] at hk
    obtain ⟨x, t, ppg1, g1, qqg1, g2, g3, g4, g5⟩ := h3.cell b k l (by rw [hcur b l _ hl]; exact hk) hlv (hle b l hl)
    obtain ⟨_, _, _, _, _, _, _, _, q5⟩ := hH.cell b k l hk hlv hl
    exact ⟨x, t, ppg1, g1, qqg1, g2, g3, g4, q5.back hle g5⟩
  · rw [hcur b l _ a3] at a1
    rw [hcur b' l' _ a6] at a4
    exact h3.inj b b' k k' l l' (by rw [hcur b l _ a3]; exact a1) a2 (hle _ _ a3) (by rw [hcur b' l' _ a6]; exact a4) a5 (hle _ _ a6) a7 a8
  · rw [hcur b l _ hl] at hk
    exact (hH.spec b k x l hk hx hl).back hle (h3.spec b k x l (by rw [hcur b l _ hl]; exact hk) hx (hle b l hl))
  · rw [hcur b l _ a3] at a1
    rw [hcur b' l' _ a6] at a4
    exact h3.injX b b' k k' x x' l l' (by rw [hcur b l _ a3]; exact a1) a2 (hle _ _ a3) (by rw [hcur b' l' _ a6]; exact a4) a5 (hle _ _ a6) a7
  · rw [hcur b l _ a3] at a1
    exact (h3.glob y hy).2 b k l (by rw [hcur b l _ a3]; exact a1) a2 ar (hle _ _ a3)
  · exact absurd ⟨a1, a2⟩ (hold b l a3)
/-- The marks of ranges over functions are taken up at a function's end. -/
theorem leaves_marks {n : Nat} {fn : Func} {tmps : Array Value} {RR : Ending → World → Prop} {J : World → Prop} {N0 : Nat} (hJ : ∀ w D, J w → N0 ≤ D → w.heap[D]? = some (.deferred (some [])) → J (w.putObj D (.deferred none)))
    (hfin : ∀ w, J w → ∃ v, (results fn tmps).run P w = .ok v w ∧ RR (.returned v) w) : ∀ (l : List Nat) (w : World), l.Nodup → (∀ D ∈ l, N0 ≤ D ∧ w.heap[D]? = some (.deferred (some []))) → J w → LeavesInM (fc none) n P fn tmps RR (l.map fun D => { target := .collected D, args := #[] }) .returning w
  | [], w, _, _, hw => hfin w hw
  | D :: l, w, hn, hD, hw => by
    have hd := List.nodup_cons.1 hn
    obtain ⟨h1, h2⟩ := hD D (by simp)
    refine ⟨(fun h => by cases h), .inl ⟨D, _, rfl, run_takeDeferred h2, leaves_marks hJ hfin l _ hd.2 (fun D' hD' => ⟨(hD D' (by simp [hD'])).1, ?_⟩) (hJ w D hw h1 h2)⟩⟩
    have hne : D' ≠ D := fun e => hd.1 (e ▸ hD')
    rw [World.putObj_heap_other hne]
    exact (hD D' (by simp [hD'])).2
theorem tup_rel {σ : Mp} : ∀ {vs : List CV} {ws : List Value}, VRl ρ σ vs ws → VR ρ σ (tupC vs) (if h : ws.length = 1 then ws[0] else .tuple ws.toArray)
  | [v], [u], .cons h .nil => h
  | [], [], .nil => .tup .nil
  | v1 :: v2 :: vs, u1 :: u2 :: us, h => .tup h
theorem step_call (hC : CtxOk3 P C) (hM : MemoOk P C ρ) (ih : EvOk P C ρ m) : ∀ base f args s c s' R W, eval C (m + 1) base (.call f args) s = some ⟨.val c, s', R, W⟩ → CallOk P C ρ f args s c s' R W := by
  intro base f args s c s' R W h
  have h' : stepE C base (eval C m) (.call f args) s = some ⟨.val c, s', R, W⟩ := h
  simp only [stepE, callE] at h'
  split at h'
  · rename_i c1 s1 R1 W1 hm
    cases h'
    exact hM _ _ _ _ _ _ _ hm
  rename_i hm0
  clear hm0
  simp only [bodyE] at h'
  split at h'
  · cases h'
  · rename_i fn hfn
    split at h'
    · cases h'
    · rename_i body hbody
      cases hlen : Nat.ble args.length fn.ntmps with
      | false => rw [hlen, cond_false] at h'; cases h'
      | true =>
        rw [hlen, cond_true] at h'
        have hlen' := Nat.le_of_ble_eq_true hlen
        split at h'
        · rename_i e T1 s1 R1 W1 h1
          have k1 := ih.code _ _ _ _ _ _ _ _ _ _ h1 (Nat.le_refl _)
          cases he : e.stays with
          | false => rw [he, cond_false] at h'; cases h'
          | true =>
            rw [he, cond_true] at h'
            split at h'
            · rename_i vs R' hres
              have K : CallOk P C ρ f args s (tupC vs) s1 (join s.next R' R1) W1 := by
                have hR'' := resE_lt hres
                refine ⟨⟨fn, hfn, by rw [hbody]; rfl⟩, ⟨k1.frm.next, k1.frm.get, k1.frm.pc⟩, ⟨fun b hb => (join_mem.1 hb).elim (fun h => h.2) (fun h => k1.lt b (.inl h)), fun b hb => k1.lt b (.inr hb)⟩, ?_⟩
                intro n σ cur w args1 hp hargs hH hA hN
                have hlen2 := hargs.length
                simp only [Array.length_toList] at hlen2
                have hfin : ∀ a' w', PostC ρ σ cur s.next s w fn.ntmps T1 s1 W1 ⟨args1 ++ Array.replicate (fn.ntmps - args1.size) Go.undef, []⟩ a' w' → LeavesInM (fc none) n P fn a'.tmps (Ret (Post ρ σ cur s.next w (tupC vs) s1 W1)) a'.defers .returning w' := by
                  rintro a' w'0 ⟨σ', hI0, hF⟩
                  obtain ⟨ml, hml, hmn, hmd⟩ := hF.2.2
                  rw [hml, List.append_nil]
                  refine leaves_marks (J := fun w' => Inv ρ σ cur s.next W1 s.next w s1 σ' w') (N0 := w.heap.size) (fun w2 D hI hD1 hD2 => ⟨hI.ext, hI.H.put hD2 (fun _ _ _ h => by cases h) (fun _ h => by cases h) (fun _ _ h => by cases h), ⟨hI.K.os, hI.K.tape, hI.K.output, by rw [World.putObj_size]; exact hI.K.size, fun k hk hne => by rw [World.putObj_heap_other (by omega)]; exact hI.K.block k hk hne, fun k r hk => ?_, fun k hk => ?_⟩, hI.F⟩) (fun w' hI => ?_) ml w'0 hmn hmd hI0
                  · have hlt := (Array.getElem?_eq_some_iff.1 hk).1
                    rw [World.putObj_heap_other (by omega)]; exact hI.K.loops k r hk
                  · have hlt := (Array.getElem?_eq_some_iff.1 hk).1
                    rw [World.putObj_heap_other (by omega)]; exact hI.K.defd k hk
                  have hcur : ∀ b ∈ R', upd cur s.next s1.next s1.heap W1 b = s1.heap.get b := by
                    intro b hb
                    show (if b ∈ W1 ∨ (s.next ≤ b ∧ b < s1.next) then _ else cur b) = _
                    by_cases hc : b ∈ W1 ∨ (s.next ≤ b ∧ b < s1.next)
                    · rw [if_pos hc]
                    · rw [if_neg hc, k1.frm.get b (fun h => hc (.inl h)) (fun h => hc (.inr h))]
                      have hlt : b < s.next := by
                        rcases Nat.lt_or_ge b s.next with h | h
                        · exact h
                        · exact absurd (.inr ⟨h, hR'' b hb⟩) hc
                      exact hA b (.inl (join_mem.2 (.inl ⟨hb, hlt⟩)))
                  obtain ⟨ws, hw1, hw2⟩ := res_run (P := P) (a := a') hC.toCtxOk hI.H hF.2.1 hres hcur
                  have hwl := hw2.length
                  have hrun : (results fn a'.tmps).run P w' = .ok (if h : ws.length = 1 then ws[0] else .tuple ws.toArray) w' := by
                    have hm : (fn.results.mapM (resF a')).run P w' = .ok ws.toArray w' := by
                      rw [Array.mapM_eq_mapM_toList]
                      simp only [Sem.run_map, hw1, Result.andThen]
                    show (Sem.run P (do
                      let vs ← fn.results.mapM (resF a')
                      pure (if h : vs.size = 1 then vs[0] else .tuple vs)) w') = _
                    simp only [Sem.run_bind, hm, Result.andThen, Sem.run_pure]
                    by_cases hh1 : ws.length = 1
                    · simp [hh1]
                    · simp [hh1]
                  refine ⟨_, hrun, _, rfl, σ', hI.ext, ?_, hI.H, hI.K, hI.F⟩
                  exact tup_rel hw2
                refine callsIn_of_wp_marks (hC.fn f fn hfn).1 hbody trivial ?_
                have hlt : ∀ b ∈ W1, b < s.next := fun b hb => k1.lt b (.inr hb)
                have hrun := (k1.run (hC.regs _ _ _ hfn hbody) W1 none n (bodyPostM (fc none) n P fn (Ret (Post ρ σ cur s.next w (tupC vs) s1 W1))) σ cur w ⟨args1 ++ Array.replicate (fn.ntmps - args1.size) Go.undef, []⟩ ⟨args1 ++ Array.replicate (fn.ntmps - args1.size) Go.undef, []⟩ (fun b hb => hb) hlt hp (fun l hl => by cases hl) hH (fun b hb => hA b ?_) hN (args0_rel hargs hlen' []) ?_).wpIn
                · exact hrun
                · rcases hb with hb | hb | hb
                  · exact .inl (join_mem.2 (.inr hb))
                  · exact .inr hb
                  · omega
                · intro a' w' hpost
                  have := hfin a' w' hpost
                  cases e with
                  | normal => exact this
                  | ret => exact this
                  | exit i => simp [Ex.stays] at he
              unfold endE at h'
              cases hg : (W1.isEmpty && (tupC vs).plain) with
              | false => rw [hg, cond_false] at h'; cases h'; exact K
              | true =>
                rw [hg, cond_true] at h'
                simp only [Bool.and_eq_true, List.isEmpty_iff] at hg
                obtain ⟨hg1, hg2⟩ := hg
                subst hg1
                cases h'
                exact K.forget hg2
            · cases h'
        · cases h'
/-- ALL OF IT. -/
theorem eval_ok (hC : CtxOk3 P C) (hM : MemoOk P C ρ) : ∀ m, EvOk P C ρ m
  | 0 => ⟨(fun _ _ _ _ _ _ _ _ h => by cases h), (fun _ _ _ _ _ _ _ _ _ _ h => by cases h)⟩
  | m + 1 => ⟨step_call hC hM (eval_ok hC hM m), step_code hC (eval_ok hC hM m)⟩
/-- A function without arguments, from nothing: whatever the evaluator says it returns, it returns, in every world. -/
theorem closed (hC : CtxOk3 P C) (hM : MemoOk P C ⟨fun _ => 0, fun _ => false⟩) {f m : Nat} {c : CV} {s' : St} {R W : List Nat} (h : eval C m 0 (.call f []) .empty = some ⟨.val c, s', R, W⟩) (hp : s'.pc = []) (hW : W = []) (w : World) (hL : Laid w) :
    Calls P f #[] w fun e w' => ∃ v σ', e = .returned v ∧ VR ⟨fun _ => 0, fun _ => false⟩ σ' c v ∧ Below w.heap.size w w' := by
  have k := (eval_ok (ρ := ⟨fun _ => 0, fun _ => false⟩) hC hM m).call _ _ _ _ _ _ _ _ h
  subst hW
  have := k.run 0 (fun _ => none) (fun _ => none) w #[] (by rw [hp]; intro p hp'; cases hp') .nil ⟨(fun b k l h => by cases h), (fun b b' k k' l l' h => by cases h), (fun b k x l h => by cases h), (fun b b' k k' x x' l l' h => by cases h), fun y hy => ⟨hL y hy, fun _ _ _ h => by cases h⟩⟩ (fun b _ => (Tr.get_nil b).symm) (fun b _ _ => rfl)
  refine ((this.calls (fun k d h => by cases h)).mono ?_)
  rintro e w' ⟨v, rfl, σ', h1, h2, h3, h4, h5⟩
  exact ⟨v, σ', rfl, h2, h4.os, h4.tape, h4.output, h4.size, fun k hk => h4.block k hk (fun b _ l hl => by cases hl)⟩
end
end Go.Proofs.Ytjdldcmcjaaibaa.Cx

/- == on structs and arrays, cell by cell; what a program's own tables say, as the evaluator's context. -/
namespace Go.Proofs.Ytjdldcmcjaaibaa.Cx
set_option linter.unusedSimpArgs false
set_option linter.unusedVariables false
open Go Go.RowKit
theorem ShapeV.split : ∀ {ks m : List (Option IntKind)} {l : List Value}, ShapeV (ks ++ m) l → ShapeV ks (l.take ks.length) ∧ ShapeV m (l.drop ks.length)
  | [], m, l, h => ⟨by simp [ShapeV], by simpa using h⟩
  | none :: ks, m, [], h => by simp [ShapeV] at h
  | some k :: ks, m, [], h => by simp [ShapeV] at h
  | none :: ks, m, v :: l, h => by
    cases v <;> simp only [List.cons_append, ShapeV] at h
    obtain ⟨h1, h2⟩ := ShapeV.split h
    exact ⟨by simpa [ShapeV] using h1, by simpa using h2⟩
  | some k :: ks, m, v :: l, h => by
    cases v <;> simp only [List.cons_append, ShapeV] at h
    obtain ⟨h1, h2⟩ := ShapeV.split h.2
    exact ⟨by simp only [List.length_cons, List.take_succ_cons, ShapeV]; exact ⟨h.1, h1⟩, by simpa using h2⟩
theorem ShapeV.length : ∀ {ks : List (Option IntKind)} {l : List Value}, ShapeV ks l → l.length = ks.length
  | [], [], _ => rfl
  | [], _ :: _, h => by simp [ShapeV] at h
  | none :: ks, [], h => by simp [ShapeV] at h
  | some k :: ks, [], h => by simp [ShapeV] at h
  | none :: ks, v :: l, h => by cases v <;> simp only [ShapeV] at h; simpa using ShapeV.length h
  | some k :: ks, v :: l, h => by cases v <;> simp only [ShapeV] at h; simpa using ShapeV.length h.2
theorem eqVals_split : ∀ {ks m : List (Option IntKind)} {l l' : List Value}, ShapeV (ks ++ m) l → ShapeV (ks ++ m) l' → eqVals l l' = (eqVals (l.take ks.length) (l'.take ks.length) && eqVals (l.drop ks.length) (l'.drop ks.length))
  | [], m, l, l', _, _ => by simp [eqVals]
  | none :: ks, m, v :: l, u :: l', h, h' => by
    cases v <;> cases u <;> simp only [List.cons_append, ShapeV] at h h'
    simp only [eqVals, List.length_cons, List.take_succ_cons, List.drop_succ_cons]
    rw [eqVals_split h h', Bool.and_assoc]
  | some k :: ks, m, v :: l, u :: l', h, h' => by
    cases v <;> cases u <;> simp only [List.cons_append, ShapeV] at h h'
    simp only [eqVals, List.length_cons, List.take_succ_cons, List.drop_succ_cons]
    rw [eqVals_split h.2 h'.2, Bool.and_assoc]
  | none :: ks, m, [], _, h, _ => by simp [ShapeV] at h
  | some k :: ks, m, [], _, h, _ => by simp [ShapeV] at h
  | none :: ks, m, _ :: _, [], _, h => by simp [ShapeV] at h
  | some k :: ks, m, _ :: _, [], _, h => by simp [ShapeV] at h
/-- A value of a type, by its cells. -/
def Whole (P : Program) (t : TypeId) (v : Value) (l : List Value) : Prop :=
  ∃ d, P.underlying t = some d ∧ ((aggD d = true ∧ v = .agg l.toArray) ∨ (aggD d = false ∧ l = [v]))
section
variable {P : Program}
theorem part_whole {t : TypeId} {i : TypeInfo} {d : TypeDesc} {ks : List (Option IntKind)} (w : World) (hu : P.underlying t = some d) (hi : P.info? t = some i) (hs : i.size = ks.length) (h1 : aggD d = false → ks.length = 1) (pre : List Value) (l m : List Value) (hl : l.length = ks.length) :
    ∃ v, (part t (pre ++ l ++ m).toArray pre.length).run P w = .ok v w ∧ Whole P t v l := by
  have hag : (isAgg t).run P w = .ok (aggD d) w := by
    have := run_underlying hu w
    cases d <;> simp [isAgg, this, aggD]
  cases hd : aggD d with
  | true =>
    rw [hd] at hag
    refine ⟨.agg l.toArray, ?_, d, hu, .inl ⟨hd, rfl⟩⟩
    have hz : (sizeOf t).run P w = .ok ks.length w := by simp [sizeOf, typeInfo, hi, hs]
    simp only [part, Sem.run_bind, hag, Result.andThen, if_true, Sem.run_map, hz, Sem.run_pure]
    have : (pre ++ l ++ m).toArray.extract pre.length (pre.length + ks.length) = l.toArray := by
      rw [← Array.toList_inj, Array.toList_extract, List.extract_eq_take_drop]
      simp only [Nat.add_sub_cancel_left]
      rw [List.append_assoc, List.drop_left, ← hl, List.take_left]
    rw [this]
  | false =>
    rw [hd] at hag
    have := h1 hd
    obtain ⟨v, rfl⟩ : ∃ v, l = [v] := by
      match l, (hl.trans this) with
      | [v], _ => exact ⟨v, rfl⟩
    refine ⟨v, ?_, d, hu, .inr ⟨hd, rfl⟩⟩
    simp [part, hag]
theorem eqTy_one {d : Nat} {t : TypeId} {ks : List (Option IntKind)} (h : eqTy P d t = some ks) : ∃ i ds, P.underlying t = some ds ∧ P.info? t = some i ∧ i.size = ks.length ∧ (aggD ds = false → ks.length = 1) := by
  cases d with
  | zero => simp [eqTy] at h
  | succ d =>
    unfold eqTy at h
    split at h
    · rename_i k i hu hi
      cases hb : Nat.beq i.size 1 with
      | false => rw [hb, cond_false] at h; cases h
      | true => rw [hb, cond_true] at h; cases h; exact ⟨i, _, hu, hi, Nat.eq_of_beq_eq_true hb, fun _ => rfl⟩
    · rename_i i hu hi
      cases hb : Nat.beq i.size 1 with
      | false => rw [hb, cond_false] at h; cases h
      | true => rw [hb, cond_true] at h; cases h; exact ⟨i, _, hu, hi, Nat.eq_of_beq_eq_true hb, fun _ => rfl⟩
    · rename_i fs i hu hi
      cases hst : P.stoodInHeld t with
      | true => rw [hst, cond_true] at h; cases h
      | false =>
        rw [hst, cond_false] at h
        split at h
        · rename_i ks' hk
          cases hb : Nat.beq i.size ks'.length with
          | false => rw [hb, cond_false] at h; cases h
          | true => rw [hb, cond_true] at h; cases h; exact ⟨i, _, hu, hi, Nat.eq_of_beq_eq_true hb, fun h => by simp [aggD] at h⟩
        · cases h
    · rename_i n e i hu hi
      split at h
      · rename_i ks' hk
        cases hb : Nat.beq i.size (n * ks'.length) with
        | false => rw [hb, cond_false] at h; cases h
        | true =>
          rw [hb, cond_true] at h; cases h
          exact ⟨i, _, hu, hi, by rw [Nat.eq_of_beq_eq_true hb, List.length_flatten, List.map_replicate, List.sum_replicate_nat], fun h => by simp [aggD] at h⟩
      · cases h
    · cases h
/-- The comparison of the fields. -/
theorem eqFs_run {d d' : Nat} (ih : ∀ t ks x y u v (w : World), eqTy P d t = some ks → ShapeV ks x → ShapeV ks y → Whole P t u x → Whole P t v y → (Op.equalIn (d' + d) t u v).run P w = .ok (eqVals x y) w) :
    ∀ {fs : List Field} {ks : List (Option IntKind)} {px py x y : List Value} (w : World), eqTy.eqFs P (eqTy P d) px.length fs = some ks → py.length = px.length → ShapeV ks x → ShapeV ks y →
      (Op.eqFields (d' + d) (px ++ x).toArray (py ++ y).toArray fs).run P w = .ok (eqVals x y) w
  | [], ks, px, py, x, y, w, h, _, hx, hy => by
    simp only [eqTy.eqFs] at h; cases h
    obtain rfl : x = [] := by cases x with | nil => rfl | cons v l => simp [ShapeV] at hx
    simp [Op.eqFields, eqVals]
  | f :: fs, ks, px, py, x, y, w, h, hpy, hx, hy => by
    simp only [eqTy.eqFs] at h
    split at h
    · rename_i k1 hk1
      cases hb : (Nat.beq f.offset px.length && f.name != "_") with
      | false => rw [hb, cond_false] at h; cases h
      | true =>
        rw [hb, cond_true] at h
        simp only [Bool.and_eq_true, bne_iff_ne, ne_eq] at hb
        split at h
        · rename_i k2 hk2
          cases h
          obtain ⟨i, ds, hu, hi, hs, h1⟩ := eqTy_one hk1
          have hlx := hx.length
          have hly := hy.length
          simp only [List.length_append] at hlx hly
          obtain ⟨x1, x2⟩ := hx.split
          obtain ⟨y1, y2⟩ := hy.split
          have ex : px ++ x = px ++ x.take k1.length ++ x.drop k1.length := by rw [List.append_assoc, List.take_append_drop]
          have ey : py ++ y = py ++ y.take k1.length ++ y.drop k1.length := by rw [List.append_assoc, List.take_append_drop]
          obtain ⟨u, hu1, hu2⟩ := part_whole (P := P) w hu hi hs h1 px (x.take k1.length) (x.drop k1.length) (by simp; omega)
          obtain ⟨v, hv1, hv2⟩ := part_whole (P := P) w hu hi hs h1 py (y.take k1.length) (y.drop k1.length) (by simp; omega)
          rw [← ex, ← Nat.eq_of_beq_eq_true hb.1] at hu1
          rw [← ey, hpy, ← Nat.eq_of_beq_eq_true hb.1] at hv1
          have hr := ih f.type k1 _ _ u v w hk1 x1 y1 hu2 hv2
          have hrest := eqFs_run ih (fs := fs) (px := px ++ x.take k1.length) (py := py ++ y.take k1.length) (x := x.drop k1.length) (y := y.drop k1.length) w (by
            have : (px ++ x.take k1.length).length = px.length + k1.length := by simp; omega
            rw [this]; exact hk2) (by simp; omega) x2 y2
          rw [← ex, ← ey] at hrest
          simp only [Op.eqFields]
          rw [if_pos hb.2]
          simp only [Sem.run_bind, hu1, hv1, hr, Result.andThen]
          rw [eqVals_split hx hy]
          cases hq : eqVals (x.take k1.length) (y.take k1.length) with
          | true => simp only [Bool.not_true, Bool.false_eq_true, if_false, Bool.true_and]; exact hrest
          | false => simp only [Bool.not_false, if_true, Bool.false_and, Sem.run_pure]
        · cases h
    · cases h
theorem whole_agg {t : TypeId} {v : Value} {l : List Value} {d : TypeDesc} (h : Whole P t v l) (hu : P.underlying t = some d) (hd : aggD d = true) : v = .agg l.toArray := by
  obtain ⟨d', h1, h2⟩ := h
  rw [hu] at h1
  obtain rfl := Option.some.inj h1
  rcases h2 with h2 | h2
  · exact h2.2
  · rw [hd] at h2; cases h2.1
theorem whole_one {t : TypeId} {v : Value} {l : List Value} {d : TypeDesc} (h : Whole P t v l) (hu : P.underlying t = some d) (hd : aggD d = false) : l = [v] := by
  obtain ⟨d', h1, h2⟩ := h
  rw [hu] at h1
  obtain rfl := Option.some.inj h1
  rcases h2 with h2 | h2
  · rw [hd] at h2; cases h2.1
  · exact h2.2
/-- The comparison of an array's elements. -/
theorem eqArr_run {d d' : Nat} {e : TypeId} {ks : List (Option IntKind)} {i : TypeInfo} {ds : TypeDesc} (hu : P.underlying e = some ds) (hi : P.info? e = some i) (hs : i.size = ks.length) (h1 : aggD ds = false → ks.length = 1)
    (ih : ∀ x y u v (w : World), ShapeV ks x → ShapeV ks y → Whole P e u x → Whole P e v y → (Op.equalIn (d' + d) e u v).run P w = .ok (eqVals x y) w) :
    ∀ (n j : Nat) (px py x y : List Value) (w : World), px.length = j * ks.length → py.length = px.length → ShapeV (List.replicate n ks).flatten x → ShapeV (List.replicate n ks).flatten y →
      ((forIn (m := Sem) (List.range' j n) ((none, ()) : Option Bool × PUnit) fun a _ => do
        if !(← Op.equalIn (d' + d) e (← part e (px ++ x).toArray (a * ks.length)) (← part e (py ++ y).toArray (a * ks.length))) then pure (ForInStep.done (some false, ())) else pure (ForInStep.yield (none, ())))).run P w = .ok (if eqVals x y then (none, ()) else (some false, ())) w
  | 0, j, px, py, x, y, w, _, _, hx, hy => by
    obtain rfl : x = [] := by cases x with | nil => rfl | cons v l => simp [ShapeV] at hx
    simp [eqVals]
  | n + 1, j, px, py, x, y, w, hpx, hpy, hx, hy => by
    simp only [List.replicate_succ, List.flatten_cons] at hx hy
    have hlx := hx.length
    have hly := hy.length
    simp only [List.length_append] at hlx hly
    obtain ⟨x1, x2⟩ := hx.split
    obtain ⟨y1, y2⟩ := hy.split
    have ex : px ++ x = px ++ x.take ks.length ++ x.drop ks.length := by rw [List.append_assoc, List.take_append_drop]
    have ey : py ++ y = py ++ y.take ks.length ++ y.drop ks.length := by rw [List.append_assoc, List.take_append_drop]
    obtain ⟨u, hu1, hu2⟩ := part_whole (P := P) w hu hi hs h1 px (x.take ks.length) (x.drop ks.length) (by simp; omega)
    obtain ⟨v, hv1, hv2⟩ := part_whole (P := P) w hu hi hs h1 py (y.take ks.length) (y.drop ks.length) (by simp; omega)
    rw [← ex, hpx] at hu1
    rw [← ey, hpy, hpx] at hv1
    have hr := ih _ _ u v w x1 y1 hu2 hv2
    have hrest := eqArr_run hu hi hs h1 ih n (j + 1) (px ++ x.take ks.length) (py ++ y.take ks.length) (x.drop ks.length) (y.drop ks.length) w (by
      simp only [List.length_append, List.length_take]; rw [Nat.succ_mul]; omega) (by simp; omega) x2 y2
    rw [← ex, ← ey] at hrest
    rw [List.range'_succ, List.forIn_cons]
    simp only [Sem.run_bind, hu1, hv1, hr, Result.andThen, Sem.run_ite, Sem.run_pure]
    rw [eqVals_split hx hy]
    cases hq : eqVals (x.take ks.length) (y.take ks.length) with
    | true => simp only [Bool.not_true, Bool.false_eq_true, if_false, Bool.true_and]; exact hrest
    | false => simp
theorem eqTy_run : ∀ (d d' : Nat) (t : TypeId) (ks : List (Option IntKind)) (x y : List Value) (u v : Value) (w : World), eqTy P d t = some ks → ShapeV ks x → ShapeV ks y → Whole P t u x → Whole P t v y → (Op.equalIn (d' + d) t u v).run P w = .ok (eqVals x y) w
  | 0, d', t, ks, x, y, u, v, w, h, _, _, _, _ => by simp [eqTy] at h
  | d + 1, d', t, ks, x, y, u, v, w, h, hx, hy, hu, hv => by
    have ih := eqTy_run d d'
    unfold eqTy at h
    split at h
    · rename_i k i hd hi
      obtain rfl := whole_one hu hd rfl
      obtain rfl := whole_one hv hd rfl
      cases hb : Nat.beq i.size 1 with
      | false => rw [hb, cond_false] at h; cases h
      | true =>
        rw [hb, cond_true] at h; cases h
        cases u <;> simp only [ShapeV] at hx
        cases v <;> simp only [ShapeV] at hy
        obtain ⟨rfl, _⟩ := hx
        obtain ⟨rfl, _⟩ := hy
        rw [← Nat.add_assoc, run_equalIn_int _ _ _ _ _ _ _ hd]
        simp [eqVals]
    · rename_i i hd hi
      obtain rfl := whole_one hu hd rfl
      obtain rfl := whole_one hv hd rfl
      cases hb : Nat.beq i.size 1 with
      | false => rw [hb, cond_false] at h; cases h
      | true =>
        rw [hb, cond_true] at h; cases h
        cases u <;> simp only [ShapeV] at hx
        cases v <;> simp only [ShapeV] at hy
        rw [← Nat.add_assoc, run_equalIn_bool' _ _ _ _ _ hd]
        simp [eqVals]
    · rename_i fs i hd hi
      obtain rfl := whole_agg hu hd rfl
      obtain rfl := whole_agg hv hd rfl
      cases hst : P.stoodInHeld t with
      | true => rw [hst, cond_true] at h; cases h
      | false =>
        rw [hst, cond_false] at h
        split at h
        · rename_i ks' hk
          cases hb : Nat.beq i.size ks'.length with
          | false => rw [hb, cond_false] at h; cases h
          | true =>
            rw [hb, cond_true] at h; cases h
            have hf : P.fieldsOf t = fs := by simp [Program.fieldsOf, hd]
            rw [← Nat.add_assoc, run_equalIn_struct w (d' + d) t _ _ (by rw [hf]; exact hd) hst, hf]
            have := eqFs_run (px := []) (py := []) (fun t ks x y u v w h1 h2 h3 h4 h5 => ih t ks x y u v w h1 h2 h3 h4 h5) w hk rfl hx hy
            simpa using this
        · cases h
    · rename_i n e i hd hi
      obtain rfl := whole_agg hu hd rfl
      obtain rfl := whole_agg hv hd rfl
      split at h
      · rename_i ks' hk
        cases hb : Nat.beq i.size (n * ks'.length) with
        | false => rw [hb, cond_false] at h; cases h
        | true =>
          rw [hb, cond_true] at h; cases h
          obtain ⟨i', ds, hu', hi', hs', h1'⟩ := eqTy_one hk
          have := eqArr_run (d := d) (d' := d') hu' hi' hs' h1' (fun x y u v w h2 h3 h4 h5 => ih e ks' x y u v w hk h2 h3 h4 h5) n 0 [] [] x y w (by simp) rfl hx hy
          have hz : (sizeOf e).run P w = .ok ks'.length w := by simp [sizeOf, typeInfo, hi', hs']
          rw [← Nat.add_assoc]
          simp only [Op.equalIn, Sem.run_bind, run_underlying hd, Result.andThen, hz]
          simp only [List.nil_append] at this
          rw [Std.Legacy.Range.forIn_eq_forIn_range']
          have er : List.range' (Std.Legacy.Range.start [:n]) (Std.Legacy.Range.size [:n]) (Std.Legacy.Range.step [:n]) = List.range' 0 n := by simp [Std.Legacy.Range.size]
          rw [er, this]
          cases eqVals x y <;> rfl
      · cases h
    · cases h
theorem eqOf_ok {t : TypeId} {ks : List (Option IntKind)} (h : eqOf P t = some ks) (hd : ∀ d, P.underlying t = some d → aggD d = true) : EqOk P t ks := by
  unfold eqOf at h
  cases hg : P.eqGuardType P.depth t with
  | true => rw [hg, cond_true] at h; cases h
  | false =>
    rw [hg, cond_false] at h
    obtain ⟨i, ds, hu, hi, hs, h1⟩ := eqTy_one h
    intro x y w hx hy
    refine ⟨fun op u v => run_eqGuard_agg w op t u v x y hg, ?_⟩
    have hw : ∀ z : Array Value, Whole P t (.agg z) z.toList := fun z => ⟨ds, hu, .inl ⟨hd ds hu, rfl⟩⟩
    have := eqTy_run 12 9988 t ks x.toList y.toList (.agg x) (.agg y) w h hx hy (hw x) (hw y)
    exact this
/-! ## Keys of maps -/
theorem keyFs_run {em : Bool} {d d' : Nat} (ih : ∀ t ks x u (w : World), eqTy P d t = some ks → ShapeV ks x → Whole P t u x → (Instr.checkKey em (d' + d) t u).run P w = .ok () w) :
    ∀ {fs : List Field} {ks : List (Option IntKind)} {px x : List Value} (w : World), eqTy.eqFs P (eqTy P d) px.length fs = some ks → ShapeV ks x →
      ((forIn (m := Sem) fs PUnit.unit fun f (_ : PUnit) => if f.name ≠ "_" then do
            let y ← part f.type (px ++ x).toArray f.offset
            Instr.checkKey em (d' + d) f.type y
            pure (ForInStep.yield PUnit.unit)
          else pure (ForInStep.yield PUnit.unit))).run P w = .ok PUnit.unit w
  | [], ks, px, x, w, h, hx => by simp
  | f :: fs, ks, px, x, w, h, hx => by
    simp only [eqTy.eqFs] at h
    split at h
    · rename_i k1 hk1
      cases hb : (Nat.beq f.offset px.length && f.name != "_") with
      | false => rw [hb, cond_false] at h; cases h
      | true =>
        rw [hb, cond_true] at h
        simp only [Bool.and_eq_true, bne_iff_ne, ne_eq] at hb
        split at h
        · rename_i k2 hk2
          cases h
          obtain ⟨i, ds, hu, hi, hs, h1⟩ := eqTy_one hk1
          have hlx := hx.length
          simp only [List.length_append] at hlx
          obtain ⟨x1, x2⟩ := hx.split
          have ex : px ++ x = px ++ x.take k1.length ++ x.drop k1.length := by rw [List.append_assoc, List.take_append_drop]
          obtain ⟨u, hu1, hu2⟩ := part_whole (P := P) w hu hi hs h1 px (x.take k1.length) (x.drop k1.length) (by simp; omega)
          rw [← ex, ← Nat.eq_of_beq_eq_true hb.1] at hu1
          have hr := ih f.type k1 _ u w hk1 x1 hu2
          have hrest := keyFs_run ih (fs := fs) (px := px ++ x.take k1.length) (x := x.drop k1.length) w (by
            have : (px ++ x.take k1.length).length = px.length + k1.length := by simp; omega
            rw [this]; exact hk2) x2
          rw [← ex] at hrest
          rw [List.forIn_cons, if_pos hb.2]
          simp only [Sem.run_bind, hu1, hr, Result.andThen, Sem.run_pure]
          exact hrest
        · cases h
    · cases h
theorem keyArr_run {em : Bool} {d d' : Nat} {e : TypeId} {ks : List (Option IntKind)} {i : TypeInfo} {ds : TypeDesc} (hu : P.underlying e = some ds) (hi : P.info? e = some i) (hs : i.size = ks.length) (h1 : aggD ds = false → ks.length = 1)
    (ih : ∀ x u (w : World), ShapeV ks x → Whole P e u x → (Instr.checkKey em (d' + d) e u).run P w = .ok () w) :
    ∀ (n j : Nat) (px x : List Value) (w : World), px.length = j * ks.length → ShapeV (List.replicate n ks).flatten x →
      ((forIn (m := Sem) (List.range' j n) PUnit.unit fun a (_ : PUnit) => do
            let z ← sizeOf e
            let y ← part e (px ++ x).toArray (a * z)
            Instr.checkKey em (d' + d) e y
            pure (ForInStep.yield PUnit.unit))).run P w = .ok PUnit.unit w
  | 0, j, px, x, w, _, hx => by simp
  | n + 1, j, px, x, w, hpx, hx => by
    simp only [List.replicate_succ, List.flatten_cons] at hx
    have hlx := hx.length
    simp only [List.length_append] at hlx
    obtain ⟨x1, x2⟩ := hx.split
    have ex : px ++ x = px ++ x.take ks.length ++ x.drop ks.length := by rw [List.append_assoc, List.take_append_drop]
    obtain ⟨u, hu1, hu2⟩ := part_whole (P := P) w hu hi hs h1 px (x.take ks.length) (x.drop ks.length) (by simp; omega)
    rw [← ex, hpx] at hu1
    have hr := ih _ u w x1 hu2
    have hz : (sizeOf e).run P w = .ok ks.length w := by simp [sizeOf, typeInfo, hi, hs]
    have hrest := keyArr_run hu hi hs h1 ih n (j + 1) (px ++ x.take ks.length) (x.drop ks.length) w (by
      simp only [List.length_append, List.length_take]; rw [Nat.succ_mul]; omega) x2
    rw [← ex] at hrest
    rw [List.range'_succ, List.forIn_cons]
    simp only [Sem.run_bind, hz, hu1, hr, Result.andThen, Sem.run_pure]
    exact hrest
theorem eqTy_key {em : Bool} : ∀ (d d' : Nat) (t : TypeId) (ks : List (Option IntKind)) (x : List Value) (u : Value) (w : World), eqTy P d t = some ks → ShapeV ks x → Whole P t u x → (Instr.checkKey em (d' + d) t u).run P w = .ok () w
  | 0, d', t, ks, x, u, w, h, _, _ => by simp [eqTy] at h
  | d + 1, d', t, ks, x, u, w, h, hx, hu => by
    have ih := eqTy_key (em := em) d d'
    unfold eqTy at h
    split at h
    · rename_i k i hd hi
      obtain rfl := whole_one hu hd rfl
      rw [← Nat.add_assoc]
      simp only [Instr.checkKey, Sem.run_bind, run_underlying hd, Result.andThen, Sem.run_pure]
    · rename_i i hd hi
      obtain rfl := whole_one hu hd rfl
      rw [← Nat.add_assoc]
      simp only [Instr.checkKey, Sem.run_bind, run_underlying hd, Result.andThen, Sem.run_pure]
    · rename_i fs i hd hi
      obtain rfl := whole_agg hu hd rfl
      cases hst : P.stoodInHeld t with
      | true => rw [hst, cond_true] at h; cases h
      | false =>
        rw [hst, cond_false] at h
        split at h
        · rename_i ks' hk
          cases hb : Nat.beq i.size ks'.length with
          | false => rw [hb, cond_false] at h; cases h
          | true =>
            rw [hb, cond_true] at h; cases h
            rw [← Nat.add_assoc]
            simp only [Instr.checkKey, Sem.run_bind, run_underlying hd]
            have := keyFs_run (em := em) (px := []) (fun t ks x u w h1 h2 h3 => ih t ks x u w h1 h2 h3) w hk hx
            simp only [List.nil_append] at this
            simp only [Result.andThen]
            rw [← Array.forIn_toList, Sem.run_bind, this]
            rfl
        · cases h
    · rename_i n e i hd hi
      obtain rfl := whole_agg hu hd rfl
      split at h
      · rename_i ks' hk
        cases hb : Nat.beq i.size (n * ks'.length) with
        | false => rw [hb, cond_false] at h; cases h
        | true =>
          rw [hb, cond_true] at h; cases h
          obtain ⟨i', ds, hu', hi', hs', h1'⟩ := eqTy_one hk
          have := keyArr_run (em := em) (d := d) (d' := d') hu' hi' hs' h1' (fun x u w h2 h3 => ih e ks' x u w hk h2 h3) n 0 [] x w (by simp) hx
          rw [← Nat.add_assoc]
          simp only [Instr.checkKey, Sem.run_bind, run_underlying hd, Result.andThen]
          simp only [List.nil_append] at this
          rw [Std.Legacy.Range.forIn_eq_forIn_range']
          have er : List.range' (Std.Legacy.Range.start [:n]) (Std.Legacy.Range.size [:n]) (Std.Legacy.Range.step [:n]) = List.range' 0 n := by simp [Std.Legacy.Range.size]
          rw [er, this]
          rfl
      · cases h
    · cases h
theorem eqOf_key {t : TypeId} {ks : List (Option IntKind)} (h : eqOf P t = some ks) (hd : ∀ d, P.underlying t = some d → aggD d = true) (x : Array Value) (em : Bool) (w : World) (hx : ShapeV ks x.toList) : (Instr.checkKey em 10000 t (.agg x)).run P w = .ok () w := by
  unfold eqOf at h
  cases hg : P.eqGuardType P.depth t with
  | true => rw [hg, cond_true] at h; cases h
  | false =>
    rw [hg, cond_false] at h
    obtain ⟨i, ds, hu, hi, hs, h1⟩ := eqTy_one h
    exact eqTy_key 12 9988 t ks x.toList (.agg x) w h hx ⟨ds, hu, .inl ⟨hd ds hu, rfl⟩⟩
/-- A type's zero value. -/
def zvOf (P : Program) (t : Nat) : Option CV := (P.info? t).bind fun i => i.zero.bind CV.ofVal
theorem zvOf_ok {t : Nat} {c : CV} (h : zvOf P t = some c) : ∃ z, (∀ w, (zeroValue t).run P w = .ok z w) ∧ ∀ ρ σ, VR ρ σ c z := by
  unfold zvOf at h
  cases hi : P.info? t with
  | none => rw [hi] at h; cases h
  | some i =>
    rw [hi] at h
    simp only [Option.bind_some] at h
    cases hz : i.zero with
    | none => rw [hz] at h; cases h
    | some z =>
      rw [hz] at h
      exact ⟨z, fun w => by simp [zeroValue, typeInfo, hi, hz], fun ρ σ => VR.ofVal h⟩
/-- The context of a program: its own tables. -/
noncomputable def ctxOf (P : Program) (memo : Memo) : Ctx where
  memo := memo
  ty := tyOf P
  fn f := P.funcs[f]?
  zv := zvOf P
  eq t := match P.underlying t with
    | some d => bif aggD d then eqOf P t else none
    | none => none
/-- What is asked of a program, all of it decided by computation. -/
def progOk (P : Program) : Bool := P.follows .mixedOrders && P.funcs.toList.all fun f => f.name != "runtime.NumGoroutine" && (match f.body with | some c => regsOk c | none => true)
theorem ctxOf_ok (h : progOk P = true) (memo : Memo) : CtxOk3 P (ctxOf P memo) := by
  simp only [progOk, Bool.and_eq_true, List.all_eq_true] at h
  obtain ⟨hm, hf⟩ := h
  have hmem : ∀ f fn, P.funcs[f]? = some fn → fn ∈ P.funcs.toList := fun f fn hfn => by
    rw [← Array.getElem?_toList] at hfn; exact List.mem_of_getElem? hfn
  refine ⟨⟨⟨fun t r hr => tyOf_ok hr, fun t ks hks => ?_, fun t c hc => zvOf_ok hc, fun t ks hks x em w hx => ?_⟩, fun f fn hfn => ⟨hfn, ?_⟩, hm⟩, fun f fn c hfn hc => ?_⟩
  · simp only [ctxOf] at hks
    split at hks
    · rename_i d hd
      cases ha : aggD d with
      | false => rw [ha, cond_false] at hks; cases hks
      | true =>
        rw [ha, cond_true] at hks
        exact eqOf_ok hks (fun d' hd' => by rw [hd] at hd'; cases hd'; exact ha)
    · cases hks
  · simp only [ctxOf] at hks
    split at hks
    · rename_i d hd
      cases ha : aggD d with
      | false => rw [ha, cond_false] at hks; cases hks
      | true =>
        rw [ha, cond_true] at hks
        exact eqOf_key hks (fun d' hd' => by rw [hd] at hd'; cases hd'; exact ha) x em w hx
    · cases hks
  · have := (hf fn (hmem f fn hfn)).1
    simpa using this
  · have := (hf fn (hmem f fn hfn)).2
    rw [hc] at this
    exact this
end
end Go.Proofs.Ytjdldcmcjaaibaa.Cx

/- THE EVALUATOR AT ARGUMENTS THAT ARE SYMBOLS: a tree of tests, each of its leaves a run; and calls that are known to return true. -/
namespace Go.Proofs.Ytjdldcmcjaaibaa.Cx
set_option linter.unusedSimpArgs false
set_option linter.unusedVariables false
open Go Go.RowKit
/-- What old blocks hold is the same. -/
theorem HR.below {ρ : Env} {σ : Mp} {cur : Cur} {w w' : World} (h : HR ρ σ cur w) (hb : Below w.heap.size w w') : HR ρ σ cur w' := by
  refine ⟨fun b k l a1 a2 a3 => ?_, h.inj, fun b k x l a1 a2 a3 => ?_, h.injX, fun y hy => ?_⟩
  · obtain ⟨c, t, ppq1, q1, qqq1, q2⟩ := h.cell b k l a1 a2 a3
    exact ⟨c, t, ppq1, by rw [hb.block _ (h.lt a1 a2 a3)]; exact q1, qqq1, q2⟩
  · have hs := h.spec b k x l a1 a2 a3
    exact hs.heap (hb.block _ hs.lt)
  · obtain ⟨⟨t0, h0⟩, hd⟩ := h.glob y hy
    exact ⟨⟨t0, (hb.block _ (Array.getElem?_eq_some_iff.1 h0).1).trans h0⟩, hd⟩
theorem Keeps.below {σ : Mp} {base : Nat} {W : List Nat} {w w' : World} (hb : Below w.heap.size w w') : Keeps σ base W w w' :=
  .of_same hb.os hb.tape hb.output hb.size fun k hk => hb.block k hk
/-! ## Calls that are known -/
/-- Functions without arguments that return true in every world. -/
structure KnownB (P : Program) (f : Nat) : Prop where
  fn : ∃ fn, P.funcs[f]? = some fn ∧ fn.body.isSome = true
  run : ∀ w, Laid w → Calls P f #[] w fun e w' => e = .returned (.bool true) ∧ Below w.heap.size w w'
def memo0 : Memo := fun _ _ _ => none
def memoB (l : List Nat) : Memo := fun f args s =>
  match args with
  | [] => bif l.any (Nat.beq f) then some (.bool (.c true), s, [], []) else none
  | _ => none
section
variable {P : Program} {ρ : Env}
theorem memo0_ok : MemoOk P (ctxOf P memo0) ρ := fun f args s c s' R W h => by cases h
theorem memoB_ok {l : List Nat} (h : ∀ f ∈ l, KnownB P f) : MemoOk P (ctxOf P (memoB l)) ρ := by
  intro f args s c s' R W hm
  have hm' : memoB l f args s = some (c, s', R, W) := hm
  unfold memoB at hm'
  split at hm'
  · cases hf : l.any (Nat.beq f) with
    | false => rw [hf, cond_false] at hm'; cases hm'
    | true =>
      rw [hf, cond_true] at hm'
      cases hm'
      obtain ⟨g, hg, hgf⟩ := List.any_eq_true.1 hf
      obtain rfl : f = g := Nat.eq_of_beq_eq_true hgf
      have k := h f hg
      refine ⟨k.fn, Frm.refl _ _, ⟨fun b hb => by simp at hb, fun b hb => by simp at hb⟩, ?_⟩
      intro n σ cur w args' hp hargs hH hA hN
      have e0 : args' = #[] := by
        have := hargs.length
        simp only [Array.length_toList, List.length_nil] at this
        exact Array.eq_empty_of_size_eq_zero this
      subst e0
      have := (callsIn_wide (n := n)).2 (k.run w hH.laid)
      refine CallsIn.mono (F := fc none) this ?_
      rintro e w' ⟨rfl, hB⟩
      refine ⟨_, rfl, σ, Ext.refl _ _ _, .bool (.c true), ?_, .below hB, Fresh.none _ _ _ _ _ _⟩
      rw [upd_none]
      exact hH.below hB
  · cases hm'
/-! ## A function without arguments that returns true -/
def isTrue (o : Option Out) : Bool :=
  match o with
  | some ⟨.val (.bool (.c true)), ⟨_, _, _, []⟩, _, []⟩ => true
  | _ => false
theorem known_of (hP : progOk P = true) {memo : Memo} (hM : MemoOk P (ctxOf P memo) ⟨fun _ => 0, fun _ => false⟩) {m f : Nat}
    (hf : (match P.funcs[f]? with | some fn => fn.body.isSome | none => false) = true) (h : isTrue (eval (ctxOf P memo) m 0 (.call f []) .empty) = true) : KnownB P f := by
  constructor
  · split at hf
    · rename_i fn hfn; exact ⟨fn, hfn, hf⟩
    · cases hf
  · intro w hL
    unfold isTrue at h
    split at h
    · rename_i h1 n1 o1 R1 he
      refine (closed (ctxOf_ok hP memo) hM he rfl rfl w hL).mono ?_
      rintro e w' ⟨v, σ', rfl, hv, hB⟩
      cases hv
      exact ⟨rfl, hB⟩
    · cases h
/-! ## Trees of tests -/
inductive DT where
  | leaf (e : BE)
  | ask (c : BE) (t f : DT)
  /-- a number that is taken at a value -/
  | conc (e : IE) (n : Nat) (t f : DT)
  | dead
/-- What is left to be shown of numbers. -/
def DT.good (ρ : Env) : DT → Prop
  | .leaf e => e.den ρ = true
  | .ask c t f => (c.den ρ = true → t.good ρ) ∧ (c.den ρ = false → f.good ρ)
  | .conc e n t f => ((BE.cmp .eql e (.c n)).den ρ = true → t.good ρ) ∧ ((BE.cmp .eql e (.c n)).den ρ = false → f.good ρ)
  | .dead => False
/-- Whether the runs go as the tree says. -/
def DT.ok (run : List Nat → Option (BE × List PC)) : DT → List Nat → List PC → Bool
  | .leaf e, o, p => match run o.reverse with | some (e', p') => decide (e' = e) && decide (p' = p) | none => false
  | .ask c t f, o, p => t.ok run (1 :: o) (.b c true :: p) && f.ok run (0 :: o) (.b c false :: p)
  | .conc e n t f, o, p => t.ok run (n :: o) (.b (.cmp .eql e (.c n)) true :: p) && f.ok run o p
  | .dead, _, _ => true
theorem DT.sound {run : List Nat → Option (BE × List PC)} : ∀ (t : DT) (o : List Nat) (p : List PC), t.ok run o p = true → t.good ρ → (∀ q ∈ p, q.holds ρ) → ∃ o e p', run o = some (e, p') ∧ e.den ρ = true ∧ ∀ q ∈ p', q.holds ρ
  | .leaf e, o, p, h, hg, hp => by
    simp only [DT.ok] at h
    split at h
    · rename_i e' p' hr
      simp only [Bool.and_eq_true, decide_eq_true_eq] at h
      obtain ⟨rfl, rfl⟩ := h
      exact ⟨_, _, _, hr, hg, hp⟩
    · cases h
  | .ask c t f, o, p, h, hg, hp => by
    simp only [DT.ok, Bool.and_eq_true] at h
    cases hc : c.den ρ with
    | true => exact DT.sound t _ _ h.1 (hg.1 hc) fun q hq => by rcases List.mem_cons.1 hq with rfl | hq; exact hc; exact hp q hq
    | false => exact DT.sound f _ _ h.2 (hg.2 hc) fun q hq => by rcases List.mem_cons.1 hq with rfl | hq; exact hc; exact hp q hq
  | .conc e n t f, o, p, h, hg, hp => by
    simp only [DT.ok, Bool.and_eq_true] at h
    cases hc : (BE.cmp .eql e (.c n)).den ρ with
    | true => exact DT.sound t _ _ h.1 (hg.1 hc) fun q hq => by rcases List.mem_cons.1 hq with rfl | hq; exact hc; exact hp q hq
    | false => exact DT.sound f _ _ h.2 (hg.2 hc) hp
  | .dead, o, p, h, hg, hp => hg.elim
def St.withO (o : List Nat) : St := ⟨.nil, 0, o, []⟩
noncomputable def runOf (C : Ctx) (m f : Nat) (args : List CV) (o : List Nat) : Option (BE × List PC) :=
  match eval C m 0 (.call f args) (.withO o) with
  | some ⟨.val (.bool e), s', _, []⟩ => some (e, s'.pc)
  | _ => none
/-- A law at symbols: where its tree holds, it returns true. -/
theorem law_of {C : Ctx} (hC : CtxOk3 P C) (hM : MemoOk P C ρ) {m f : Nat} {args : List CV} {args' : Array Value} {t : DT} (ht : t.ok (runOf C m f args) [] [] = true) (hg : t.good ρ)
    (ha : VRl ρ (fun _ => none) args args'.toList) (w : World) (hL : Laid w) : Calls P f args' w fun e w' => e = .returned (.bool true) ∧ Below w.heap.size w w' := by
  obtain ⟨o, e, p', hr, he, hp⟩ := DT.sound t [] [] ht hg (fun q hq => by cases hq)
  unfold runOf at hr
  split at hr
  · rename_i e1 s' R hev
    cases hr
    have k := (eval_ok (ρ := ρ) hC hM m).call _ _ _ _ _ _ _ _ hev
    have := k.run 0 (fun _ => none) (fun _ => none) w args' hp ha ⟨(fun b k l h => by cases h), (fun b b' k k' l l' h => by cases h), (fun b k x l h => by cases h), (fun b b' k k' x x' l l' h => by cases h), fun y hy => ⟨hL y hy, fun _ _ _ h => by cases h⟩⟩ (fun b _ => (Tr.get_nil b).symm) (fun b _ _ => rfl)
    refine ((this.calls (fun k d h => by cases h)).mono ?_)
    rintro e w' ⟨v, rfl, σ', h1, h2, h3, h4, h5⟩
    cases h2
    exact ⟨by rw [he], h4.os, h4.tape, h4.output, h4.size, fun k hk => h4.block k hk (fun b _ l hl => by cases hl)⟩
  · cases hr
end
end Go.Proofs.Ytjdldcmcjaaibaa.Cx

/- LOOPS AND CUTS: a small logic over canonical memory. What holds at a point is a frame's temporaries and canonical memory; between points the evaluator runs; at a point memory may be named anew, and what is not wanted is forgotten. -/
namespace Go.Proofs.Ytjdldcmcjaaibaa.Cx
set_option linter.unusedSimpArgs false
set_option linter.unusedVariables false
open Go Go.RowKit
/-- What is at a function's start. -/
structure Fx where
  σ : Mp
  cur : Cur
  base : Nat
  W : List Nat
  w : World
  nt : Nat
  a : Act
  ro : Option Nat
  n : Nat
structure FxOk (ρ : Env) (X : Fx) : Prop where
  H : HR ρ X.σ X.cur X.w
  N : ∀ b, X.base ≤ b → X.σ b = none
  lt : ∀ b ∈ X.W, b < X.base
  ro : ∀ l, X.ro = some l → ∃ r, X.w.heap[l]? = some (.loop r)
/-- A point: temporaries, memory, the next number. -/
structure Pt where
  T : Tr CV
  h : Tr Blk
  n : Nat
def Pt.st (p : Pt) (o : List Nat) : St := ⟨p.h, p.n, o, []⟩
/-- A real frame and world stand for a point. -/
structure SR (ρ : Env) (X : Fx) (p : Pt) (a : Act) (w : World) : Prop where
  le : X.base ≤ p.n
  old : ∀ b, b < X.base → b ∉ X.W → X.cur b = p.h.get b
  rel : ∃ σ, Inv ρ X.σ X.cur X.base X.W X.base X.w (p.st []) σ w ∧ FRc ρ σ X.nt p.T X.a a X.w w
/-- A statement from a point: however it is left, it is left at such a point. -/
def Sem (P : Program) (ρ : Env) (X : Fx) (c : Code) (p : Pt) (Φ : Ex → Pt → Prop) : Prop :=
  ∀ (Q : Exit → Act → World → Prop) (a : Act) (w : World), SR ρ X p a w → (∀ e p' a' w', Φ e p' → SR ρ X p' a' w' → Q e.conv a' w') → c.wpIn (fc X.ro) X.n P Q a w
section
variable {P : Program} {C : Ctx} {ρ : Env} {X : Fx} {c d : Code} {p : Pt} {Φ Ψ : Ex → Pt → Prop}
theorem Inv.same {σ σ' : Mp} {cur : Cur} {base n0 : Nat} {W : List Nat} {w0 w : World} {s s' : St} (h : Inv ρ σ cur base W n0 w0 s σ' w) (h1 : s'.next = s.next) (h2 : s'.heap = s.heap) : Inv ρ σ cur base W n0 w0 s' σ' w :=
  ⟨by rw [h1]; exact h.ext, by rw [h1, h2]; exact h.H, h.K, by rw [h1]; exact h.F⟩
/-- The evaluator runs. -/
theorem Sem.evalS {m : Nat} {s0 : St} {e : Ex} {T' : Tr CV} {s' : St} {R W : List Nat} (hC : CtxOk3 P C) (hM : MemoOk P C ρ) (hX : FxOk ρ X) (hr : regsOk c = true) (hs1 : s0.heap = p.h) (hs2 : s0.next = p.n) (he : Cx.eval C m X.base (.code c X.nt p.T) s0 = some ⟨.code e T', s', R, W⟩)
    (hp : ∀ q ∈ s'.pc, q.holds ρ) (hW : ∀ b ∈ W, b ∈ X.W) (hΦ : Φ e ⟨T', s'.heap, s'.next⟩) : Sem P ρ X c p Φ := by
  intro Q a w hS hQ
  obtain ⟨σ1, hI, hF⟩ := hS.rel
  have k1 := (eval_ok (ρ := ρ) hC hM m).code _ _ _ _ _ _ _ _ _ _ he (by rw [hs2]; exact hS.le)
  refine (k1.run hr X.W X.ro X.n Q σ1 (upd X.cur X.base p.n p.h X.W) w a a hW hX.lt hp (fun l hl => (hX.ro l hl).elim fun r h1 => hI.K.loops l r h1) hI.H (fun b hb => ?_) (fun b h1 h2 => ?_) hF.self ?_).wpIn
  · rw [hs2] at hb
    rw [hs1]
    show (if b ∈ X.W ∨ (X.base ≤ b ∧ b < p.n) then _ else X.cur b) = p.h.get b
    by_cases hc : b ∈ X.W ∨ (X.base ≤ b ∧ b < p.n)
    · rw [if_pos hc]
    · rw [if_neg hc]
      rcases hb with hb | hb
      · exact hS.old b (k1.lt b (.inl hb)) (fun h => hc (.inl h))
      · exact absurd hb hc
  · rw [hs2] at h1
    rw [hI.ext b (.inr h1)]; exact hX.N b (Nat.le_trans hS.le h1)
  · rintro a' w' ⟨σ2, hI2, hF2⟩
    have n1 : p.n ≤ s'.next := by rw [← hs2]; exact k1.frm.next
    have f2 : FrmB X.base (p.st []) s' X.W := ⟨n1, fun b hb hn => by show _ = p.h.get b; rw [← hs1]; exact k1.frm.get b (fun h => hb (hW b h)) hn, ⟨s'.pc, by simp [Pt.st]⟩⟩
    have hI2 : Inv ρ σ1 (upd X.cur X.base p.n p.h X.W) X.base X.W p.n w s' σ2 w' := by rw [← hs2]; rw [← hs2] at hI2; exact hI2
    have hI3 := hI.step hS.le (Nat.le_refl _) hS.le (fun b hb => .inl hb) f2 hI2.ext hI2.H hI2.K hI2.F
    refine hQ e ⟨T', s'.heap, s'.next⟩ a' w' hΦ ⟨Nat.le_trans hS.le n1, fun b hb hn => ?_, σ2, hI3.same rfl rfl, hF2.1, hF2.2.1, hF.2.2.trans hI.K.size (fun k hk => hI2.K.defd k hk) hF2.2.2⟩
    rw [hS.old b hb hn, ← hs1]
    exact (k1.frm.get b (fun h => hn (hW b h)) (fun h => by omega)).symm
theorem Sem.eval {m : Nat} {o : List Nat} {e : Ex} {T' : Tr CV} {s' : St} {R W : List Nat} (hC : CtxOk3 P C) (hM : MemoOk P C ρ) (hX : FxOk ρ X) (hr : regsOk c = true) (he : Cx.eval C m X.base (.code c X.nt p.T) (p.st o) = some ⟨.code e T', s', R, W⟩)
    (hp : ∀ q ∈ s'.pc, q.holds ρ) (hW : ∀ b ∈ W, b ∈ X.W) (hΦ : Φ e ⟨T', s'.heap, s'.next⟩) : Sem P ρ X c p Φ := .evalS hC hM hX hr rfl rfl he hp hW hΦ
theorem Sem.post (h : Sem P ρ X c p Ψ) (hq : ∀ e p', Ψ e p' → Φ e p') : Sem P ρ X c p Φ :=
  fun Q a w hS hQ => h Q a w hS fun e p' a' w' h1 h2 => hQ e p' a' w' (hq e p' h1) h2
theorem Sem.pre {p2 : Pt} (hs : ∀ a w, SR ρ X p a w → SR ρ X p2 a w) (h : Sem P ρ X c p2 Φ) : Sem P ρ X c p Φ :=
  fun Q a w hS hQ => h Q a w (hs a w hS) hQ
theorem Sem.skip (h : Φ .normal p) : Sem P ρ X .skip p Φ := fun Q a w hS hQ => wpIn_skip (hQ .normal p a w h hS)
/-- What follows in a sequence. -/
def Then (P : Program) (ρ : Env) (X : Fx) (d : Code) (Φ : Ex → Pt → Prop) : Ex → Pt → Prop
  | .normal, p => Sem P ρ X d p Φ
  | e, p => Φ e p
theorem Sem.seq (h : Sem P ρ X c p (Then P ρ X d Φ)) : Sem P ρ X (.seq c d) p Φ := by
  intro Q a w hS hQ
  refine wpIn_seq (h _ a w hS fun e p' a' w' h1 h2 => ?_)
  cases e with
  | normal => exact h1 Q a' w' h2 hQ
  | exit i => exact hQ _ _ _ _ h1 h2
  | ret => exact hQ _ _ _ _ h1 h2
def Inside (i : Nat) (Φ : Ex → Pt → Prop) : Ex → Pt → Prop
  | .exit j, p => bif Nat.beq j i then Φ .normal p else Φ (.exit j) p
  | e, p => Φ e p
theorem Sem.block {i : Nat} (h : Sem P ρ X c p (Inside i Φ)) : Sem P ρ X (.block i c) p Φ := by
  intro Q a w hS hQ
  refine wpIn_block (h _ a w hS fun e p' a' w' h1 h2 => ?_)
  cases e with
  | normal => exact hQ _ _ _ _ h1 h2
  | ret => exact hQ _ _ _ _ h1 h2
  | exit j =>
    show (if j = i then Q .normal a' w' else Q (.exit j) a' w')
    simp only [Inside] at h1
    by_cases hj : j = i
    · rw [if_pos hj]
      have e1 : Nat.beq j i = true := by rw [hj]; exact Nat.beq_refl i
      rw [e1] at h1
      exact hQ _ _ _ _ h1 h2
    · rw [if_neg hj]
      have e1 : Nat.beq j i = false := by
        cases hbq : Nat.beq j i with
        | false => rfl
        | true => exact absurd (Nat.eq_of_beq_eq_true hbq) hj
      rw [e1] at h1
      exact hQ _ _ _ _ h1 h2
theorem Sem.scope (h : Sem P ρ X c p Φ) : Sem P ρ X (.scope c) p Φ := by
  intro Q a w hS hQ
  refine wpIn_scope (h _ a w hS fun e p' a' w' h1 h2 => ?_)
  have := hQ e p' a' w' h1 h2
  cases e <;> exact this
/-- A loop's round: it goes on, at a point of the family with a smaller number, or it is left. -/
def Round (I : Nat → Pt → Prop) (k : Nat) (Φ : Ex → Pt → Prop) : Ex → Pt → Prop
  | .normal, p => ∃ k', k' < k ∧ I k' p
  | e, p => Φ e p
theorem Sem.loop (I : Nat → Pt → Prop) (hb : ∀ k p, I k p → Sem P ρ X c p (Round I k Φ)) (k : Nat) (h : I k p) : Sem P ρ X (.loop c) p Φ := by
  intro Q a w hS hQ
  refine wpIn_loop_ghost (fun k a w => ∃ p, I k p ∧ SR ρ X p a w) k ⟨p, h, hS⟩ ?_
  rintro k a w ⟨p, hI, hS⟩
  refine hb k p hI _ a w hS fun e p' a' w' h1 h2 => ?_
  cases e with
  | normal => obtain ⟨k', h3, h4⟩ := h1; exact ⟨k', h3, p', h4, h2⟩
  | exit i => exact hQ _ _ _ _ h1 h2
  | ret => exact hQ _ _ _ _ h1 h2
theorem Sem.cond {x : Operand} {e : BE} {v : Bool} (hx : ev p.T x = some (.bool e)) (hv : e.den ρ = v) (h : Sem P ρ X (if v then c else d) p Φ) : Sem P ρ X (.cond x c d) p Φ := by
  intro Q a w hS hQ
  obtain ⟨σ1, hI, hF⟩ := hS.rel
  have hxv := (ev_run (σ := σ1) (ρ := ρ) (a := a) (fun t _ => hF.2.1 t) hx).bool_inv
  rw [hv] at hxv
  exact wpIn_cond hxv (h Q a w hS hQ)
/-! ## Points named anew -/
/-- A value under other names. -/
def MC (ρ : Env) (ren : Nat → Nat) (n2 : Nat) (c0 c : CV) : Prop := ∀ (σ σ2 : Mp) (v : Value), (∀ b, b < n2 → σ2 b = σ (ren b)) → VR ρ σ c0 v → VR ρ σ2 c v
def MB (ρ : Env) (ren : Nat → Nat) (n2 : Nat) (k0 k : Blk) : Prop := k.live = k0.live ∧ k.esz = k0.esz ∧ k.ext = none ∧ (k.ro = false → k0.ro = false) ∧ ∀ (σ σ2 : Mp) (us : List Value), (∀ b, b < n2 → σ2 b = σ (ren b)) → VRl ρ σ k0.cells us → VRl ρ σ2 k.cells us
/-- The record of a range, under other names. -/
def MX (ρ : Env) (ren : Nat → Nat) (n2 : Nat) (k0 k : Blk) : Prop := k.live = false ∧ ∃ r0 r : LR, k0.ext = some (.loop r0) ∧ k.ext = some (.loop r) ∧ r.nt = r0.nt ∧ r.ps = r0.ps ∧ r.assign = r0.assign ∧ r.body = r0.body ∧ r.st = r0.st ∧ r.pend = r0.pend ∧ ∀ t, MC ρ ren n2 (rd r0.T t) (rd r.T t)
structure Mat (ρ : Env) (X : Fx) (ren : Nat → Nat) (p p2 : Pt) : Prop where
  le : X.base ≤ p2.n
  fix : ∀ b, b < X.base → ren b = b
  rng : ∀ b, X.base ≤ b → b < p2.n → X.base ≤ ren b ∧ ren b < p.n
  inj : ∀ b b', b < p2.n → b' < p2.n → ren b = ren b' → b = b'
  T : ∀ t, MC ρ ren p2.n (rd p.T t) (rd p2.T t)
  old : ∀ b, b < X.base → b ∉ X.W → p2.h.get b = p.h.get b
  blk : ∀ b k, (b ∈ X.W ∨ (X.base ≤ b ∧ b < p2.n)) → p2.h.get b = some k → ∃ k0, p.h.get (ren b) = some k0 ∧ (MB ρ ren p2.n k0 k ∨ MX ρ ren p2.n k0 k)
theorem Inv.mat {ren : Nat → Nat} {p2 : Pt} {w : World} {σ : Mp} (hX : FxOk ρ X) (hI : Inv ρ X.σ X.cur X.base X.W X.base X.w (p.st []) σ w) (hm : Mat ρ X ren p p2) : Inv ρ X.σ X.cur X.base X.W X.base X.w (p2.st []) (fun b => if b < p2.n then σ (ren b) else none) w := by
  have ltn : ∀ b, b < X.base → b < p2.n := fun b hb => Nat.lt_of_lt_of_le hb hm.le
  have low : ∀ b, b < X.base → (if b < p2.n then σ (ren b) else none) = X.σ b := fun b hb => by
    rw [if_pos (ltn b hb), hm.fix b hb]; exact hI.ext b (.inl hb)
  have hle0 : X.σ.le σ := hI.ext.le (fun b h1 h2 => hX.N b h1)
  have hle2 : X.σ.le (fun b => if b < p2.n then σ (ren b) else none) := fun b l hl => by
    show (if b < p2.n then σ (ren b) else none) = _
    by_cases hb : b < X.base
    · rw [low b hb]; exact hl
    · rw [hX.N b (by omega)] at hl; cases hl
  -- the blocks of either kind
  have cases2 : ∀ b k, upd X.cur X.base p2.n p2.h X.W b = some k → ∀ l, (if b < p2.n then σ (ren b) else none) = some l → b < p2.n ∧ σ (ren b) = some l ∧
      ((∃ k0, upd X.cur X.base p.n p.h X.W (ren b) = some k0 ∧ (MB ρ ren p2.n k0 k ∨ MX ρ ren p2.n k0 k)) ∨ (b < X.base ∧ ren b = b ∧ X.cur b = some k ∧ upd X.cur X.base p.n p.h X.W (ren b) = some k ∧ X.σ b = some l)) := by
    intro b k hk l hl
    have hb : b < p2.n := by
      by_cases h : b < p2.n
      · exact h
      · rw [if_neg h] at hl; cases hl
    rw [if_pos hb] at hl
    refine ⟨hb, hl, ?_⟩
    by_cases hc : b ∈ X.W ∨ (X.base ≤ b ∧ b < p2.n)
    · left
      have hk' : p2.h.get b = some k := by
        have : (if b ∈ X.W ∨ (X.base ≤ b ∧ b < p2.n) then p2.h.get b else X.cur b) = some k := hk
        rwa [if_pos hc] at this
      obtain ⟨k0, h1, h2⟩ := hm.blk b k hc hk'
      refine ⟨k0, ?_, h2⟩
      show (if ren b ∈ X.W ∨ (X.base ≤ ren b ∧ ren b < p.n) then p.h.get (ren b) else X.cur (ren b)) = some k0
      rw [if_pos]
      · exact h1
      · rcases hc with hc | hc
        · left; rw [hm.fix b (hX.lt b hc)]; exact hc
        · right; exact hm.rng b hc.1 hc.2
    · right
      have hb0 : b < X.base := by
        by_cases h : b < X.base
        · exact h
        · exact absurd (.inr ⟨by omega, hb⟩) hc
      have hk' : X.cur b = some k := by
        have : (if b ∈ X.W ∨ (X.base ≤ b ∧ b < p2.n) then p2.h.get b else X.cur b) = some k := hk
        rwa [if_neg hc] at this
      refine ⟨hb0, hm.fix b hb0, hk', ?_, ?_⟩
      · rw [hm.fix b hb0]
        show (if b ∈ X.W ∨ (X.base ≤ b ∧ b < p.n) then p.h.get b else X.cur b) = some k
        rw [if_neg (fun h => h.elim (fun h => hc (.inl h)) (fun h => by omega))]
        exact hk'
      · rw [← low b hb0, if_pos hb]; exact hl
  refine ⟨fun b hb => ?_, ⟨fun b k l hk hlive hl => ?_, fun b b' k k' l l' a1 a2 a3 a4 a5 a6 a7 a8 => ?_, fun b k x l hk hx hl => ?_, fun b b' k k' x x' l l' a1 a2 a3 a4 a5 a6 a7 => ?_, fun y hy => ⟨(hI.H.glob y hy).1, fun b k l a1 a2 ar a3 => ?_⟩⟩, hI.K, fun b l h1 h2 h3 => ?_⟩
  · show (if b < p2.n then σ (ren b) else none) = X.σ b
    rcases hb with hb | hb
    · exact low b hb
    · have hb' : ¬ b < p2.n := by have : p2.n ≤ b := hb; omega
      rw [if_neg hb', hX.N b (Nat.le_trans hm.le hb)]
  · obtain ⟨hb, hl', hc⟩ := cases2 b k hk l hl
    rcases hc with ⟨k0, h1, ⟨h2, h3, h4, hk0, h5⟩ | ⟨hx, _⟩⟩ | ⟨hb0, hren, hcur, hup, hσ0⟩
    · obtain ⟨cs, t, ppq1, q1, qqq1, q2, q3, q4, q5⟩ := hI.H.cell (ren b) k0 l h1 (h2 ▸ hlive) hl'
      have l1 := q5.length
      have q6 := h5 σ (fun b => if b < p2.n then σ (ren b) else none) _ (fun b hb => if_pos hb) q5
      have l2 := q6.length
      have hlen : k.cells.length = k0.cells.length := l2.symm.trans l1
      exact ⟨cs, t, ppq1, q1, fun h => qqq1 (hk0 h), q2, h3.trans q3, by rw [hlen]; exact q4, by rw [hlen]; exact q6⟩
    · rw [hx] at hlive; cases hlive
    · obtain ⟨cs, t, ppq1, q1, qqq1, q2, q3, q4, q5⟩ := hI.H.cell (ren b) k l hup hlive hl'
      obtain ⟨cs0, t0, ppr1, r1, qqr1, r2, r3, r4, r5⟩ := hX.H.cell b k l hcur hlive hσ0
      exact ⟨cs, t, ppq1, q1, qqq1, q2, q3, q4, (VRl.back hle0 r5 q5).mono hle2⟩
  · obtain ⟨hb, hl1, hc⟩ := cases2 b k a1 l a3
    obtain ⟨hb', hl2, hc'⟩ := cases2 b' k' a4 l' a6
    refine hm.inj b b' hb hb' ?_
    rcases hc with ⟨k0, h1, ⟨h2, _, _, r1, _⟩ | ⟨hx, _⟩⟩ | ⟨_, _, _, hup, _⟩
    · rcases hc' with ⟨k1, g1, ⟨g2, _, _, r2, _⟩ | ⟨hx', _⟩⟩ | ⟨_, _, _, hup', _⟩
      · exact hI.H.inj _ _ k0 k1 l l' h1 (h2 ▸ a2) hl1 g1 (g2 ▸ a5) hl2 a7 (a8.imp r1 r2)
      · rw [hx'] at a5; cases a5
      · exact hI.H.inj _ _ k0 k' l l' h1 (h2 ▸ a2) hl1 hup' a5 hl2 a7 (a8.imp r1 id)
    · rw [hx] at a2; cases a2
    · rcases hc' with ⟨k1, g1, ⟨g2, _, _, r2, _⟩ | ⟨hx', _⟩⟩ | ⟨_, _, _, hup', _⟩
      · exact hI.H.inj _ _ k k1 l l' hup a2 hl1 g1 (g2 ▸ a5) hl2 a7 (a8.imp id r2)
      · rw [hx'] at a5; cases a5
      · exact hI.H.inj _ _ k k' l l' hup a2 hl1 hup' a5 hl2 a7 a8
  · obtain ⟨hb, hl', hc⟩ := cases2 b k hk l hl
    rcases hc with ⟨k0, h1, ⟨h2, h3, h4, h5⟩ | ⟨_, r0, r, e0, e1, m1, m2, m3, m4, m5, m6, m7⟩⟩ | ⟨hb0, hren, hcur, hup, hσ0⟩
    · rw [h4] at hx; cases hx
    · rw [e1] at hx
      cases hx
      have s1 := hI.H.spec (ren b) k0 _ l h1 e0 hl'
      cases s1 with
      | loop q hq hs hp hps ha hb' hn hT ra rb =>
        refine .loop q hq (hs.trans m5.symm) (hp.trans m6.symm) (hps.trans m2.symm) (ha.trans m3.symm) (hb'.trans m4.symm) (hn.trans m1.symm) (fun t => m7 t σ _ _ (fun b hb => if_pos hb) (hT t)) (by rw [m3]; exact ra) (by rw [m4]; exact rb)
    · have s1 := hI.H.spec (ren b) k x l hup hx hl'
      exact ((hX.H.spec b k x l hcur hx hσ0).back hle0 s1).mono hle2
  · obtain ⟨hb, hl1, hc⟩ := cases2 b k a1 l a3
    obtain ⟨hb', hl2, hc'⟩ := cases2 b' k' a4 l' a6
    refine hm.inj b b' hb hb' ?_
    have ex : ∀ {c : Nat} {k : Blk} {x : BX} {l : Loc}, k.ext = some x → ((∃ k0, upd X.cur X.base p.n p.h X.W (ren c) = some k0 ∧ (MB ρ ren p2.n k0 k ∨ MX ρ ren p2.n k0 k)) ∨ (c < X.base ∧ ren c = c ∧ X.cur c = some k ∧ upd X.cur X.base p.n p.h X.W (ren c) = some k ∧ X.σ c = some l)) → ∃ k0 x0, upd X.cur X.base p.n p.h X.W (ren c) = some k0 ∧ k0.ext = some x0 := fun {c k x l} hx h => by
      rcases h with ⟨k0, h1, ⟨_, _, h4, _⟩ | ⟨_, r0, r, e0, _⟩⟩ | ⟨_, _, _, hup, _⟩
      · rw [h4] at hx; cases hx
      · exact ⟨k0, _, h1, e0⟩
      · exact ⟨k, x, hup, hx⟩
    obtain ⟨k0, x0, u1, u2⟩ := ex a2 hc
    obtain ⟨k1, x1, v1, v2⟩ := ex a5 hc'
    exact hI.H.injX _ _ k0 k1 x0 x1 l l' u1 u2 hl1 v1 v2 hl2 a7
  · obtain ⟨hb, hl1, hc⟩ := cases2 b k a1 l a3
    rcases hc with ⟨k0, h1, ⟨h2, _, _, r1, _⟩ | ⟨hx', _⟩⟩ | ⟨_, _, _, hup, _⟩
    · exact (hI.H.glob y hy).2 _ k0 l h1 (h2 ▸ a2) (r1 ar) hl1
    · rw [hx'] at a2; cases a2
    · exact (hI.H.glob y hy).2 _ k l hup a2 ar hl1
  · have h2' : b < p2.n := h2
    have h3' : (if b < p2.n then σ (ren b) else none) = some l := h3
    rw [if_pos h2'] at h3'
    obtain ⟨r1, r2⟩ := hm.rng b h1 h2'
    exact hI.F (ren b) l r1 r2 h3'
theorem SR.mat {ren : Nat → Nat} {p2 : Pt} {a : Act} {w : World} (hX : FxOk ρ X) (hS : SR ρ X p a w) (hm : Mat ρ X ren p p2) : SR ρ X p2 a w := by
  obtain ⟨σ, hI, hF⟩ := hS.rel
  exact ⟨hm.le, fun b h1 h2 => (hS.old b h1 h2).trans (hm.old b h1 h2).symm, fun b => if b < p2.n then σ (ren b) else none, hI.mat hX hm, hF.1, fun t => hm.T t σ _ _ (fun b hb => if_pos hb) (hF.2.1 t), hF.2.2⟩
theorem Sem.mat {ren : Nat → Nat} {p2 : Pt} (hX : FxOk ρ X) (hm : Mat ρ X ren p p2) (h : Sem P ρ X c p2 Φ) : Sem P ρ X c p Φ := .pre (fun a w hS => hS.mat hX hm) h
end
end Go.Proofs.Ytjdldcmcjaaibaa.Cx

/- Arithmetic for the trees: what the terms of a tree say, without their wraps. -/
namespace Go.Proofs.Ytjdldcmcjaaibaa.Cx
set_option linter.unusedSimpArgs false
set_option linter.unusedVariables false
open Go Go.RowKit
theorem wrap_id {x : Int} (h1 : -9223372036854775808 ≤ x) (h2 : x ≤ 9223372036854775807) : IntKind.i64.wrap x = x := by
  have e1 : (2 : Int) ^ 64 = 18446744073709551616 := rfl
  have e2 : (2 : Int) ^ (64 - 1) = 9223372036854775808 := rfl
  simp only [IntKind.wrap, IntKind.bits, IntKind.signed, Bool.true_and, e1, e2]
  split
  · rename_i h; have := of_decide_eq_true h; omega
  · rename_i h
    have : ¬ (x % 18446744073709551616 ≥ 9223372036854775808) := fun h' => h (decide_eq_true h')
    omega
theorem tdiv_pos {x n : Int} (h : 0 ≤ x) : x.tdiv n = x / n := Int.tdiv_eq_ediv_of_nonneg h
theorem tmod_pos {x n : Int} (h : 0 ≤ x) : x.tmod n = x % n := Int.tmod_eq_emod_of_nonneg h
theorem tmod_neg {x n : Int} (h : x ≤ 0) : x.tmod n = -((-x) % n) := by
  rw [← Int.tmod_eq_emod_of_nonneg (by omega : 0 ≤ -x), Int.neg_tmod, Int.neg_neg]
theorem tdiv_neg {x n : Int} (h : x ≤ 0) : x.tdiv n = -((-x) / n) := by
  rw [← Int.tdiv_eq_ediv_of_nonneg (by omega : 0 ≤ -x), Int.neg_tdiv, Int.neg_neg]
/-! The terms as they read. -/
def IE.Z (ρ : Env) : IE → Int
  | .c n => n
  | .v i => ρ.i i
  | .bin .add k a b => k.wrap (a.Z ρ + b.Z ρ)
  | .bin .sub k a b => k.wrap (a.Z ρ - b.Z ρ)
  | .bin .mul k a b => k.wrap (a.Z ρ * b.Z ρ)
  | .bin .quo k a b => k.wrap ((a.Z ρ).tdiv (b.Z ρ))
  | .bin .rem k a b => (a.Z ρ).tmod (b.Z ρ)
  | .bin .mn k a b => min (a.Z ρ) (b.Z ρ)
  | .bin .mx k a b => max (a.Z ρ) (b.Z ρ)
  | .bin o k a b => o.run k (a.Z ρ) (b.Z ρ)
  | .x n => n
theorem IE.Z_den (ρ : Env) : ∀ e : IE, e.den ρ = e.Z ρ
  | .c n => rfl
  | .v i => rfl
  | .bin o k a b => by
    have ha := IE.Z_den ρ a
    have hb := IE.Z_den ρ b
    cases o <;> simp only [IE.den, IE.Z, Ar.run, ha, hb]
    · split <;> omega
    · split <;> omega
  | .x n => rfl
def BE.P (ρ : Env) : BE → Prop
  | .c b => b = true
  | .v i => ρ.b i = true
  | .cmp .eql a b => a.Z ρ = b.Z ρ
  | .cmp .neq a b => a.Z ρ ≠ b.Z ρ
  | .cmp .lss a b => a.Z ρ < b.Z ρ
  | .cmp .leq a b => a.Z ρ ≤ b.Z ρ
  | .cmp .gtr a b => a.Z ρ > b.Z ρ
  | .cmp .geq a b => a.Z ρ ≥ b.Z ρ
  | .not b => ¬ b.P ρ
  | .x b => b = true
theorem BE.P_den (ρ : Env) : ∀ b : BE, b.den ρ = true ↔ b.P ρ
  | .c b => Iff.rfl
  | .v i => Iff.rfl
  | .cmp o a b => by cases o <;> simp [BE.den, BE.P, Cm.run, IE.Z_den]
  | .not b => by simp [BE.den, BE.P, ← BE.P_den ρ b]
  | .x b => Iff.rfl
theorem rem_bd {x y h : Int} (h0 : 0 ≤ x) (h1 : x ≤ h) (hy : 1 ≤ y) : 0 ≤ x % y ∧ x % y ≤ h ∧ x % y ≤ y - 1 := by
  have a := Int.emod_nonneg x (by omega : y ≠ 0)
  have b := Int.emod_lt_of_pos x (by omega : 0 < y)
  have c : x % y ≤ x := by
    have := Int.emod_add_mul_ediv x y
    have d := Int.mul_nonneg (by omega : 0 ≤ y) (Int.ediv_nonneg h0 (by omega : 0 ≤ y))
    omega
  omega
theorem quo_bd {x y h : Int} (h0 : 0 ≤ x) (h1 : x ≤ h) (hy : 0 ≤ y) : 0 ≤ x / y ∧ x / y ≤ h := by
  have a := Int.ediv_nonneg h0 hy
  have b := Int.ediv_le_self y h0
  omega
section
variable {ρ : Env} {A B : IE} {x y z : Int}
abbrev In64 (z : Int) : Prop := -9223372036854775808 ≤ z ∧ z ≤ 9223372036854775807
/-- A fact that omega is not to see. -/
structure Hd (p : Prop) : Prop where
  out : p
structure Is (ρ : Env) (A : IE) (x : Int) : Prop where
  out : A.Z ρ = x
theorem Zc (n : Int) : Is ρ (.c n) n := ⟨rfl⟩
theorem Zadd (ha : Is ρ A x) (hb : Is ρ B y) (h1 : In64 z) (h : x + y = z) : Is ρ (IE.bin .add .i64 A B) z := by
  refine ⟨?_⟩
  show IntKind.i64.wrap (A.Z ρ + B.Z ρ) = z
  rw [ha.out, hb.out, h]; exact wrap_id h1.1 h1.2
theorem Zsub (ha : Is ρ A x) (hb : Is ρ B y) (h1 : In64 z) (h : x - y = z) : Is ρ (IE.bin .sub .i64 A B) z := by
  refine ⟨?_⟩
  show IntKind.i64.wrap (A.Z ρ - B.Z ρ) = z
  rw [ha.out, hb.out, h]; exact wrap_id h1.1 h1.2
theorem Zmul (ha : Is ρ A x) (hb : Is ρ B y) (h1 : In64 z) (h : x * y = z) : Is ρ (IE.bin .mul .i64 A B) z := by
  refine ⟨?_⟩
  show IntKind.i64.wrap (A.Z ρ * B.Z ρ) = z
  rw [ha.out, hb.out, h]; exact wrap_id h1.1 h1.2
theorem Zconv (ha : Is ρ A x) (h1 : In64 x) : Is ρ (IE.bin .conv .i64 A B) x := by
  refine ⟨?_⟩
  show IntKind.i64.wrap (A.Z ρ) = x
  rw [ha.out]; exact wrap_id h1.1 h1.2
theorem Zmn {k : IntKind} (ha : Is ρ A x) (hb : Is ρ B y) (h : min x y = z) : Is ρ (IE.bin .mn k A B) z := by
  refine ⟨?_⟩
  show min (A.Z ρ) (B.Z ρ) = z
  rw [ha.out, hb.out, h]
theorem Zmx {k : IntKind} (ha : Is ρ A x) (hb : Is ρ B y) (h : max x y = z) : Is ρ (IE.bin .mx k A B) z := by
  refine ⟨?_⟩
  show max (A.Z ρ) (B.Z ρ) = z
  rw [ha.out, hb.out, h]
theorem Zquop (ha : Is ρ A x) (hb : Is ρ B y) (h0 : 0 ≤ x) (h1 : In64 z) (h : x / y = z) : Is ρ (IE.bin .quo .i64 A B) z := by
  refine ⟨?_⟩
  show IntKind.i64.wrap ((A.Z ρ).tdiv (B.Z ρ)) = z
  rw [ha.out, hb.out, tdiv_pos h0, h]; exact wrap_id h1.1 h1.2
theorem Zremp {k : IntKind} (ha : Is ρ A x) (hb : Is ρ B y) (h0 : 0 ≤ x) (h : x % y = z) : Is ρ (IE.bin .rem k A B) z := by
  refine ⟨?_⟩
  show (A.Z ρ).tmod (B.Z ρ) = z
  rw [ha.out, hb.out, tmod_pos h0, h]
theorem Zquon (ha : Is ρ A x) (hb : Is ρ B y) (h0 : x ≤ 0) (h1 : In64 z) (h : -((-x) / y) = z) : Is ρ (IE.bin .quo .i64 A B) z := by
  refine ⟨?_⟩
  show IntKind.i64.wrap ((A.Z ρ).tdiv (B.Z ρ)) = z
  rw [ha.out, hb.out, tdiv_neg h0, h]; exact wrap_id h1.1 h1.2
theorem Zremn {k : IntKind} (ha : Is ρ A x) (hb : Is ρ B y) (h0 : x ≤ 0) (h : -((-x) % y) = z) : Is ρ (IE.bin .rem k A B) z := by
  refine ⟨?_⟩
  show (A.Z ρ).tmod (B.Z ρ) = z
  rw [ha.out, hb.out, tmod_neg h0, h]
theorem Zgcd {k : IntKind} {g : Int} (ha : Is ρ A x) (hb : Is ρ B y) (h : (Int.gcd x y : Int) = g) : Is ρ (IE.bin .gcd k A B) g := by
  refine ⟨?_⟩
  show (Int.gcd (A.Z ρ) (B.Z ρ) : Int) = g
  rw [ha.out, hb.out, h]
theorem Zgq {g q : Int} (ha : Is ρ A x) (hb : Is ρ B g) (hq : q * g = x) (hg : 1 ≤ g) (h1 : In64 q) : Is ρ (IE.bin .quo .i64 A B) q := by
  refine ⟨?_⟩
  show IntKind.i64.wrap ((A.Z ρ).tdiv (B.Z ρ)) = q
  rw [ha.out, hb.out, ← hq, Int.mul_tdiv_cancel _ (by omega)]
  exact wrap_id h1.1 h1.2
theorem gcd_ex (x y : Int) (hy : 1 ≤ y) : ∃ g : Int, Hd ((Int.gcd x y : Int) = g) ∧ 1 ≤ g := by
  have := Int.gcd_pos_of_ne_zero_right x (by omega : y ≠ 0)
  exact ⟨_, ⟨rfl⟩, by omega⟩
theorem gq_ex {x y g X h : Int} (hge : Hd ((Int.gcd x y : Int) = g)) (hX : X = x ∨ X = y) (h0 : 0 ≤ X) (hh : X ≤ h) (hg : 1 ≤ g) : ∃ q : Int, Hd (q * g = X) ∧ 0 ≤ q ∧ q ≤ h ∧ (1 ≤ X → 1 ≤ q) := by
  have hd : g ∣ X := by
    rw [← hge.out]
    rcases hX with rfl | rfl
    · exact Int.gcd_dvd_left ..
    · exact Int.gcd_dvd_right ..
  obtain ⟨k, hk⟩ := hd
  rw [Int.mul_comm] at hk
  have k0 : 0 ≤ k := by
    rcases Int.lt_or_le k 0 with q | q
    · have := Int.mul_le_mul_of_nonneg_right (show k ≤ -1 by omega) (show 0 ≤ g by omega)
      omega
    · exact q
  have k1 : k * 1 ≤ k * g := Int.mul_le_mul_of_nonneg_left hg k0
  refine ⟨k, ⟨hk.symm⟩, k0, by omega, fun h1 => ?_⟩
  rcases Int.lt_or_le 0 k with q | q
  · omega
  · obtain rfl : k = 0 := by omega
    rw [Int.zero_mul] at hk; omega
theorem taper_eq {A1 B1 g1 A2 B2 g2 N1 N2 D : Int} (h1 : A1 * g1 = N1) (h2 : B1 * g1 = D) (h3 : A2 * g2 = N2) (h4 : B2 * g2 = D) : (A1 * B2 - A2 * B1) * D = (N1 - N2) * (B1 * B2) := by
  have e1 : A1 * B2 * D = N1 * (B1 * B2) := by rw [← h2, ← h1]; ac_rfl
  have e2 : A2 * B1 * D = N2 * (B1 * B2) := by rw [← h4, ← h3]; ac_rfl
  rw [Int.sub_mul, Int.sub_mul, e1, e2]
theorem taper_le {A2 B2 g2 A3 B3 g3 N2 N3 D : Int} (h1 : A2 * g2 = N2) (h2 : B2 * g2 = D) (h3 : A3 * g3 = N3) (h4 : B3 * g3 = D) (p2 : 1 ≤ g2) (p3 : 1 ≤ g3) (hN : N3 ≤ N2) (hD : 0 ≤ D) : A3 * B2 ≤ A2 * B3 := by
  rcases Int.lt_or_le (A2 * B3) (A3 * B2) with q | q
  · exfalso
    have hg : 0 < g2 * g3 := Int.mul_pos (by omega) (by omega)
    have := Int.mul_lt_mul_of_pos_right q hg
    have e1 : A2 * B3 * (g2 * g3) = N2 * D := by rw [← h1, ← h4]; ac_rfl
    have e2 : A3 * B2 * (g2 * g3) = N3 * D := by rw [← h3, ← h2]; ac_rfl
    have := Int.mul_le_mul_of_nonneg_right hN hD
    omega
  · exact q
theorem mul_bd {x y a b : Int} (h1 : -a ≤ x) (h2 : x ≤ a) (h3 : 0 ≤ y) (h4 : y ≤ b) (ha : 0 ≤ a) : -(a * b) ≤ x * y ∧ x * y ≤ a * b := by
  have q1 := Int.mul_le_mul_of_nonneg_right h2 h3
  have q2 := Int.mul_le_mul_of_nonneg_right h1 h3
  have q3 := Int.mul_le_mul_of_nonneg_left h4 ha
  rw [Int.neg_mul] at q2
  omega
theorem Zleqt (ha : Is ρ A x) (hb : Is ρ B y) (h : (BE.cmp .leq A B).P ρ) : x ≤ y := by
  have h : A.Z ρ ≤ B.Z ρ := h
  rwa [ha.out, hb.out] at h
theorem Zleqf (ha : Is ρ A x) (hb : Is ρ B y) (h : ¬ (BE.cmp .leq A B).P ρ) : ¬ x ≤ y := by
  have h : ¬ A.Z ρ ≤ B.Z ρ := h
  rwa [ha.out, hb.out] at h
theorem Zeqlt (ha : Is ρ A x) (hb : Is ρ B y) (h : (BE.cmp .eql A B).P ρ) : x = y := by
  have h : A.Z ρ = B.Z ρ := h
  rwa [ha.out, hb.out] at h
theorem Zeqlf (ha : Is ρ A x) (hb : Is ρ B y) (h : ¬ (BE.cmp .eql A B).P ρ) : ¬ x = y := by
  have h : ¬ A.Z ρ = B.Z ρ := h
  rwa [ha.out, hb.out] at h
end
def DT.goal (ρ : Env) : DT → Prop
  | .leaf e => e.P ρ
  | .ask c t f => (c.P ρ → t.goal ρ) ∧ (¬ c.P ρ → f.goal ρ)
  | .conc e n t f => ((BE.cmp .eql e (.c n)).P ρ → t.goal ρ) ∧ (¬ (BE.cmp .eql e (.c n)).P ρ → f.goal ρ)
  | .dead => False
theorem DT.good_of (ρ : Env) : ∀ t : DT, t.goal ρ → t.good ρ
  | .leaf e, h => (BE.P_den ρ e).2 h
  | .ask c t f, h => ⟨fun hc => DT.good_of ρ t (h.1 ((BE.P_den ρ c).1 hc)), fun hc => DT.good_of ρ f (h.2 fun hc' => by rw [(BE.P_den ρ c).2 hc'] at hc; cases hc)⟩
  | .conc e n t f, h => ⟨fun hc => DT.good_of ρ t (h.1 ((BE.P_den ρ _).1 hc)), fun hc => DT.good_of ρ f (h.2 fun hc' => by rw [(BE.P_den ρ _).2 hc'] at hc; cases hc)⟩
  | .dead, h => h
end Go.Proofs.Ytjdldcmcjaaibaa.Cx

/- The program keeps to what the evaluator asks of one. -/
namespace Go.Proofs.Ytjdldcmcjaaibaa.Cx
set_option maxRecDepth 100000
open Go Go.Proofs Go.RowKit
theorem try_ok : progOk Try.prog = true := by kernel_rfl
end Go.Proofs.Ytjdldcmcjaaibaa.Cx

/- Arguments opened, as flat cells: what every opener wants. -/
namespace Go.Proofs.Ytjdldcmcjaaibaa
open Go.ChangeShapes Go.WideShapes Go.RowKit Go.Deep
section
variable {H : Type} {enc : TypeId × Value → H} {P : Program} {w : World} {base : Nat} {spare : Nat → Bool} {held : Bool}
/-- A part of a struct. -/
theorem trodS {t : TypeId} {fs : Array Field} {fuel : Nat} {l : List Value} {x : DataW H × List MemPlace} (hs : P.underlying t = some (.struct fs)) (h : DataW.trod enc P w base spare held fuel t l = some x)
    (j : Nat) (f : Field) (hj : fs[j]? = some f) {o c : Nat} {ty : TypeId} (ho : f.offset = o) (hty : f.type = ty) (hc : P.cellsOf ty = c) : ∃ n y, DataW.trod enc P w base spare held n ty ((l.drop o).take c) = some y := by
  subst ho hty hc
  obtain ⟨xs, n, _, hx, hl, hlen, hg⟩ := DataW.trod_struct hs h
  have hjl : j < xs.length := by rw [hlen]; exact (Array.getElem?_eq_some_iff.1 hj).1
  exact ⟨n, xs[j], by rw [hg j f hj]; exact List.getElem?_eq_getElem hjl⟩
/-- An element of an array. -/
theorem trodE {t e : TypeId} {m fuel : Nat} {l : List Value} {x : DataW H × List MemPlace} (hs : P.underlying t = some (.array m e)) (h : DataW.trod enc P w base spare held fuel t l = some x)
    (j : Nat) (hj : j < m) {o c : Nat} (hc : P.cellsOf e = c) (ho : j * c = o) : ∃ n y, DataW.trod enc P w base spare held n e ((l.drop o).take c) = some y := by
  subst ho hc
  obtain ⟨xs, n, _, hx, hl, hlen, hg⟩ := DataW.trod_array hs h
  have hjl : j < xs.length := by omega
  exact ⟨n, xs[j], by rw [hg j hj]; exact List.getElem?_eq_getElem hjl⟩
theorem okWide_arr {r : Reach} {b0 : Nat} {v : Value} {n : Nat} {e : TypeId} {t : TypeId} (ht : P.underlying t = some (.array n e)) (h : Value.okWide P w r b0 t v) : ∃ cs, v = .agg cs ∧ cs.size = P.cellsOf t := by
  simp only [Value.okWide, ht] at h
  obtain ⟨cs, h1, h2, _⟩ := h
  exact ⟨cs, h1, h2⟩
theorem head_of {l : List Value} {i : Nat} {v : Value} (h : (l.drop i).take 1 = [v]) : l[i]? = some v := by
  have h9 := congrArg (fun m => m[0]?) h
  simpa [List.getElem?_take, List.getElem?_drop] using h9
theorem leafI {t : TypeId} {k : IntKind} {i n : Nat} {l : List Value} {y : DataW H × List MemPlace} (ht : P.underlying t = some (.int k)) (h : DataW.trod enc P w base spare held n t ((l.drop i).take 1) = some y) :
    ∃ z, l[i]? = some (.int k z) ∧ (Lit.int k z).wf = true := by
  obtain ⟨z, hz, _, hw⟩ := DataW.trod_int ht h
  exact ⟨z, head_of hz, hw⟩
/-- A slice that is only measured. -/
theorem leafL {t e : TypeId} {i n : Nat} {l : List Value} {y : DataW H × List MemPlace} (ht : P.underlying t = some (.slice e)) (h : DataW.trod enc P w base spare held n t ((l.drop i).take 1) = some y) :
    ∃ (a : Option Addr) (m c : Nat), l[i]? = some (.slice a m c) ∧ m ≤ 9223372036854775807 := by
  rcases DataW.trod_slice ht h with ⟨h0, _⟩ | ⟨a, len, cap, elems, rest, n, _, h0, _, _, hl, hm, hlen, hel, _, _⟩
  · exact ⟨none, 0, 0, head_of h0, Nat.zero_le _⟩
  · exact ⟨some a, len, cap, head_of h0, by unfold maxLen at hm; omega⟩
theorem leafB {t : TypeId} {i n : Nat} {l : List Value} {y : DataW H × List MemPlace} (ht : P.underlying t = some .bool) (h : DataW.trod enc P w base spare held n t ((l.drop i).take 1) = some y) :
    ∃ b, l[i]? = some (.bool b) := by
  obtain ⟨z, hz, _⟩ := DataW.trod_bool ht h
  exact ⟨z, head_of hz⟩
end
theorem sub_of {α : Type} {l : List α} {o c a b s : Nat} (hs : o + a = s) (h : a + b ≤ c) : (((l.drop o).take c).drop a).take b = (l.drop s).take b := by
  rw [List.drop_take, List.take_take, List.drop_drop, hs, Nat.min_eq_left (by omega)]
theorem rng_i8 {n : Int} (h : (Lit.int .i8 n).wf = true) : -128 ≤ n ∧ n ≤ 127 := by
  have : IntKind.i8.min ≤ n ∧ n ≤ IntKind.i8.max := by simpa [Lit.wf] using h
  exact this
theorem rng_u8 {n : Int} (h : (Lit.int .u8 n).wf = true) : 0 ≤ n ∧ n ≤ 255 := by
  have : IntKind.u8.min ≤ n ∧ n ≤ IntKind.u8.max := by simpa [Lit.wf] using h
  exact this
theorem rng_u16 {n : Int} (h : (Lit.int .u16 n).wf = true) : 0 ≤ n ∧ n ≤ 65535 := by
  have : IntKind.u16.min ≤ n ∧ n ≤ IntKind.u16.max := by simpa [Lit.wf] using h
  exact this
theorem rng_len {n : Nat} (h : n ≤ 9223372036854775807) : 0 ≤ (n : Int) ∧ (n : Int) ≤ 9223372036854775807 := ⟨by omega, by omega⟩
theorem rng_i16 {n : Int} (h : (Lit.int .i16 n).wf = true) : -32768 ≤ n ∧ n ≤ 32767 := by
  have : IntKind.i16.min ≤ n ∧ n ≤ IntKind.i16.max := by simpa [Lit.wf] using h
  exact this
theorem rng_i64 {n : Int} (h : (Lit.int .i64 n).wf = true) : -9223372036854775808 ≤ n ∧ n ≤ 9223372036854775807 := by
  have : IntKind.i64.min ≤ n ∧ n ≤ IntKind.i64.max := by simpa [Lit.wf] using h
  exact this
end Go.Proofs.Ytjdldcmcjaaibaa

/- ARGUMENTS THAT ARE SLICES, READ AT KNOWN PLACES: opened as lists, their rows as blocks of their own; a law at symbols whose arguments hold such slices. -/
namespace Go.Proofs.Ytjdldcmcjaaibaa.Cx
set_option linter.unusedSimpArgs false
set_option linter.unusedVariables false
open Go Go.RowKit Go.ChangeShapes Go.WideShapes Go.Deep Go.Proofs.Ytjdldcmcjaaibaa
/-! ## Rows of integers -/
/-- The cells of a row. -/
def enFrom : List IntKind → (Nat → Int) → Nat → List Value
  | [], _, _ => []
  | k :: ks, x, i => .int k (x i) :: enFrom ks x (i + 1)
abbrev enR (ks : List IntKind) (x : Nat → Int) : List Value := enFrom ks x 0
def okR (ks : List IntKind) (x : Nat → Int) : Prop := ∀ i k, ks[i]? = some k → (Lit.int k (x i)).wf = true
theorem enFrom_length : ∀ (ks : List IntKind) (x : Nat → Int) (i : Nat), (enFrom ks x i).length = ks.length
  | [], _, _ => rfl
  | _ :: ks, x, i => congrArg Nat.succ (enFrom_length ks x (i + 1))
theorem enFrom_get : ∀ (ks : List IntKind) (x : Nat → Int) (i j : Nat), (enFrom ks x i)[j]? = ks[j]?.map fun k => .int k (x (i + j))
  | [], _, _, _ => by simp [enFrom]
  | k :: ks, x, i, 0 => by simp [enFrom]
  | k :: ks, x, i, j + 1 => by
    simp only [enFrom, List.getElem?_cons_succ]
    rw [enFrom_get ks x (i + 1) j]
    congr 2; funext k; congr 2; omega
theorem sym_rel {ρ : Env} {σ : Mp} {x : Nat → Int} : ∀ (ks : List IntKind) (K i : Nat), (∀ f, f < ks.length → ρ.i (K + f) = x (i + f)) → VRl ρ σ (symCells ks K) (enFrom ks x i)
  | [], _, _, _ => .nil
  | k :: ks, K, i, h => by
    refine .cons ?_ (sym_rel ks (K + 1) (i + 1) fun f hf => ?_)
    · have h0 := h 0 (by simp)
      have : VR ρ σ (.int k (.v K)) (.int k (ρ.i K)) := .int k (.v K)
      rwa [show ρ.i K = x i by simpa using h0] at this
    · have := h (f + 1) (by simpa using hf)
      rw [show K + 1 + f = K + (f + 1) by omega, show i + 1 + f = i + (f + 1) by omega]
      exact this
/-! ## Slices of rows -/
/-- A slice of rows of z cells in the world, read as a list. -/
def SlR {α : Type} (en : α → List Value) (z : Nat) (w : World) (v : Value) (xs : List α) : Prop :=
  ∃ a cap, v = .slice a xs.length cap ∧ xs.length ≤ cap ∧ xs.length ≤ 9223372036854775807 ∧
    (xs = [] ∨ ∃ b off c t p, a = some ⟨b, off, none⟩ ∧ w.heap[b]? = some (.cells c t p) ∧ off + xs.length * z ≤ c.size ∧ (c.toList.drop off).take (xs.length * z) = xs.flatMap en)
theorem cell_cells {w : World} {a : Addr} {u : Value} (h : w.cell? a = some u) : a = ⟨a.block, a.off, none⟩ ∧ ∃ c t p, w.heap[a.block]? = some (.cells c t p) := by
  unfold World.cell? at h
  split at h
  · rename_i c e f hh
    split at h
    · cases h
    · rename_i hs
      refine ⟨?_, c, e, f, hh⟩
      have : a.spot = none := by simpa using hs
      obtain ⟨b, o, s⟩ := a
      simp only at this
      subst this
      rfl
  · cases h
theorem cell_at {w : World} {b o : Nat} {c : Array Value} {t : TypeId} {p : Nat × Nat} (h : w.heap[b]? = some (.cells c t p)) : w.cell? ⟨b, o, none⟩ = c[o]? := by
  simp [World.cell?, h]
section
variable {H : Type} {enc : TypeId × Value → H} {P : Program} {w : World} {base : Nat} {spare : Nat → Bool} {held : Bool}
theorem sl_open {α : Type} {en : α → List Value} {ok : α → Prop} {z : Nat} {t e : TypeId} {fuel : Nat} {cs : List Value} {y : DataW H × List MemPlace} (hz1 : 1 ≤ z) (hz : ∀ x, (en x).length = z) (ht : P.underlying t = some (.slice e)) (hc : P.cellsOf e = z)
    (hE : ∀ n cs y, cs.length = z → DataW.trod enc P w base spare held n e cs = some y → ∃ x, cs = en x ∧ ok x) (h : DataW.trod enc P w base spare held fuel t cs = some y) :
    ∃ v xs, cs = [v] ∧ SlR en z w v xs ∧ ∀ x ∈ xs, ok x := by
  rcases DataW.trod_slice ht h with ⟨h0, _⟩ | ⟨a, len, cap, elems, rest, n, _, h0, _, _, hl, hm, hlen, hel, _, _⟩
  · exact ⟨_, [], h0, ⟨none, 0, rfl, Nat.zero_le _, Nat.zero_le _, .inl rfl⟩, fun x hx => by cases hx⟩
  · have each : ∀ i, i < len → ∃ x, ok x ∧ w.cells? base (a.add (i * z)) z = some (en x) := by
      intro i hi
      have h1 := hel i hi
      rw [hc, List.getElem?_eq_getElem (by omega), Option.bind_eq_some_iff] at h1
      obtain ⟨cs', hcs, hy⟩ := h1
      obtain ⟨_, hl', hcell⟩ := World.cells?_some hcs
      obtain ⟨x, rfl, hx⟩ := hE _ cs' _ hl' hy
      exact ⟨x, hx, hcs⟩
    refine ⟨_, List.ofFn (fun i : Fin len => Classical.choose (each i i.2)), h0, ⟨some a, cap, by rw [List.length_ofFn], by rw [List.length_ofFn]; exact hl, by rw [List.length_ofFn]; unfold maxLen at hm; omega, ?_⟩, fun x hx => ?_⟩
    · by_cases hz0 : len = 0
      · subst hz0; exact .inl rfl
      · right
        have get : ∀ i (hi : i < len) j, j < z → w.cell? ((a.add (i * z)).add j) = (en (Classical.choose (each i hi)))[j]? := by
          intro i hi j hj
          exact (World.cells?_some (Classical.choose_spec (each i hi)).2).2.2 j hj
        have c0 := get 0 (by omega) 0 (by omega)
        rw [List.getElem?_eq_getElem (by rw [hz]; omega)] at c0
        have a00 : (a.add (0 * z)).add 0 = a := by simp [Addr.add]
        rw [a00] at c0
        obtain ⟨ea, c, t', p, hh⟩ := cell_cells c0
        have eadd : ∀ i j, (a.add i).add j = ⟨a.block, a.off + i + j, none⟩ := by
          intro i j
          rw [ea, add_none, add_none]
        have hcell : ∀ i (hi : i < len) j, j < z → c[a.off + i * z + j]? = (en (Classical.choose (each i hi)))[j]? := by
          intro i hi j hj
          rw [← cell_at hh, ← eadd]; exact get i hi j hj
        have key : ∀ n, n ≤ len → a.off + n * z ≤ c.size ∧ (c.toList.drop a.off).take (n * z) = ((List.ofFn (fun i : Fin len => Classical.choose (each i i.2))).take n).flatMap en := by
          intro n
          induction n with
          | zero =>
            intro _
            have hlt : a.off < c.size := by
              have := hcell 0 (by omega) 0 (by omega)
              rw [List.getElem?_eq_getElem (by rw [hz]; omega)] at this
              have := (Array.getElem?_eq_some_iff.1 this).1
              simpa using this
            exact ⟨by simp; omega, by simp⟩
          | succ n ih =>
            intro hn
            obtain ⟨i1, i2⟩ := ih (by omega)
            have row : (c.toList.drop (a.off + n * z)).take z = en (Classical.choose (each n (by omega))) := by
              apply List.ext_getElem?
              intro j
              by_cases hj : j < z
              · rw [List.getElem?_take_of_lt hj, List.getElem?_drop, Array.getElem?_toList]
                exact hcell n (by omega) j hj
              · rw [List.getElem?_eq_none (by simp; omega), List.getElem?_eq_none (by rw [hz]; omega)]
            have hlast : a.off + n * z + (z - 1) < c.size := by
              have := hcell n (by omega) (z - 1) (by omega)
              rw [List.getElem?_eq_getElem (by rw [hz]; omega)] at this
              exact (Array.getElem?_eq_some_iff.1 this).1
            refine ⟨by rw [Nat.succ_mul]; omega, ?_⟩
            rw [Nat.succ_mul, List.take_add, i2, List.drop_drop, row, List.take_add_one, List.flatMap_append, List.getElem?_ofFn, dif_pos (by omega)]
            simp
        obtain ⟨k1, k2⟩ := key len (Nat.le_refl _)
        refine ⟨a.block, a.off, c, t', p, by rw [← ea], hh, by rw [List.length_ofFn]; exact k1, ?_⟩
        rw [List.length_ofFn, k2, List.take_of_length_le (by simp)]
    · obtain ⟨i, rfl⟩ := List.mem_ofFn.1 hx
      exact (Classical.choose_spec (each i i.2)).1
end
section
variable {H : Type} {enc : TypeId × Value → H} {P : Program} {w : World} {base : Nat} {spare : Nat → Bool} {held : Bool}
/-- A row that is an array of integers. -/
theorem row_arr {t e : TypeId} {m : Nat} {k : IntKind} (ht : P.underlying t = some (.array m e)) (he : P.underlying e = some (.int k)) (hc : P.cellsOf e = 1) :
    ∀ n cs y, cs.length = m → DataW.trod enc P w base spare held n t cs = some y → ∃ x, cs = enR (List.replicate m k) x ∧ okR (List.replicate m k) x := by
  intro n cs y hl h
  have each : ∀ i, i < m → ∃ z, cs[i]? = some (.int k z) ∧ (Lit.int k z).wf = true := fun i hi => by
    obtain ⟨n', y', h'⟩ := trodE ht h i hi (o := i) hc (by omega)
    exact leafI he h'
  refine ⟨fun i => match cs[i]? with | some (.int _ z) => z | _ => 0, ?_, ?_⟩
  · apply List.ext_getElem?
    intro i
    rw [enFrom_get, List.getElem?_replicate]
    by_cases hi : i < m
    · obtain ⟨z, hz, _⟩ := each i hi
      rw [if_pos hi, hz]
      simp [hz]
    · rw [if_neg hi, List.getElem?_eq_none (by omega)]; rfl
  · intro i k' hk
    rw [List.getElem?_replicate] at hk
    split at hk
    · rename_i hi
      cases hk
      obtain ⟨z, hz, hw⟩ := each i hi
      simpa [hz] using hw
    · cases hk
/-- A row that is an integer. -/
theorem row_int {t : TypeId} {k : IntKind} (ht : P.underlying t = some (.int k)) :
    ∀ n cs y, cs.length = 1 → DataW.trod enc P w base spare held n t cs = some y → ∃ x, cs = enR [k] x ∧ okR [k] x := by
  intro n cs y hl h
  match cs, hl with
  | [c], _ =>
    obtain ⟨z, hz, hw⟩ := leafI (i := 0) (l := [c]) ht (by simpa using h)
    refine ⟨fun _ => z, ?_, ?_⟩
    · have : c = .int k z := by simpa using hz
      rw [this]; rfl
    · intro i k' hk
      cases i with
      | zero => cases hk; exact hw
      | succ i => simp at hk
theorem open_rows {t e : TypeId} {ks : List IntKind} {r : Reach} {b0 : Nat} {v : Value} {d : DataW H} {p : List MemPlace} (ht : P.underlying t = some (.slice e)) (hz1 : 1 ≤ ks.length) (hc : P.cellsOf e = ks.length)
    (hE : ∀ n cs y, cs.length = ks.length → DataW.trod enc P w base spare held n e cs = some y → ∃ x, cs = enR ks x ∧ okR ks x)
    (hval : Value.okWide P w r b0 t v) (h : DataW.Trod enc P w base spare held t v d p) : ∃ xs : List (Nat → Int), SlR (enR ks) ks.length w v xs ∧ ∀ x ∈ xs, okR ks x := by
  obtain ⟨a, len, cap, rfl⟩ := okWide_slice ht hval
  obtain ⟨fuel, hf⟩ := h
  obtain ⟨v', xs, h1, h2, h3⟩ := sl_open (en := enR ks) (ok := okR ks) hz1 (fun x => enFrom_length _ _ _) ht hc hE hf
  obtain rfl : Value.slice a len cap = v' := by simpa [Value.cells] using h1
  exact ⟨xs, h2, h3⟩
/-- A cell of a struct that is such a slice. -/
theorem leaf_rows {t e : TypeId} {ks : List IntKind} {i n : Nat} {l : List Value} {y : DataW H × List MemPlace} (ht : P.underlying t = some (.slice e)) (hz1 : 1 ≤ ks.length) (hc : P.cellsOf e = ks.length)
    (hE : ∀ n cs y, cs.length = ks.length → DataW.trod enc P w base spare held n e cs = some y → ∃ x, cs = enR ks x ∧ okR ks x)
    (h : DataW.trod enc P w base spare held n t ((l.drop i).take 1) = some y) : ∃ v xs, l[i]? = some v ∧ SlR (enR ks) ks.length w v xs ∧ ∀ x ∈ xs, okR ks x := by
  obtain ⟨v', xs, h1, h2, h3⟩ := sl_open (en := enR ks) (ok := okR ks) hz1 (fun x => enFrom_length _ _ _) ht hc hE h
  exact ⟨v', xs, head_of h1, h2, h3⟩
end
/-! ## Blocks that are read alone -/
noncomputable def curOf (h : Tr Blk) (base : Nat) : Cur := fun b => if b < base then h.get b else none
section
variable {P : Program} {ρ : Env}
/-- A block that is read alone, where it lies. -/
structure ArgAt (ρ : Env) (w : World) (k : Blk) (lo : Option Loc) : Prop where
  live : k.live = true
  ro : k.ro = true
  ext : k.ext = none
  at' : ∀ l, lo = some l → ∃ c t p, w.heap[l.blk]? = some (.cells c t p) ∧ c.size = l.size ∧ k.esz = l.esz ∧ l.base + k.cells.length ≤ l.size ∧ ∀ σ, VRl ρ σ k.cells ((c.toList.drop l.base).take k.cells.length)
theorem HR.ofArgs {h : Tr Blk} {base : Nat} {σ : Mp} {w : World} (hL : Laid w) (ha : ∀ i k, i < base → h.get i = some k → ArgAt ρ w k (σ i)) : HR ρ σ (curOf h base) w := by
  have get : ∀ b k, curOf h base b = some k → ArgAt ρ w k (σ b) := fun b k hk => by
    unfold curOf at hk
    split at hk
    · rename_i hb; exact ha b k hb hk
    · cases hk
  refine ⟨fun b k l a1 a2 a3 => ?_, fun b b' k k' l l' a1 a2 a3 a4 a5 a6 a7 a8 => ?_, fun b k x l a1 a2 a3 => ?_, fun b b' k k' x x' l l' a1 a2 a3 a4 a5 a6 a7 => ?_, fun y hy => ⟨hL y hy, fun b k l a1 _ ar _ => by rw [(get b k a1).ro] at ar; cases ar⟩⟩
  · have := get b k a1
    obtain ⟨c, t, p, q1, q2, q3, q4, q5⟩ := this.at' l a3
    exact ⟨c, t, p, q1, (fun h => by rw [this.ro] at h; cases h), q2, q3, q4, q5 σ⟩
  · rw [(get b k a1).ro, (get b' k' a4).ro] at a8
    rcases a8 with h | h <;> cases h
  · rw [(get b k a1).ext] at a2; cases a2
  · rw [(get b k a1).ext] at a2; cases a2
/-- Where a slice's row lies. -/
noncomputable def rowLoc (w : World) (v : Value) (z i : Nat) : Option Loc :=
  match v with
  | .slice (some a) n _ => if i < n then (match w.heap[a.block]? with
    | some (.cells c _ _) => some ⟨a.block, a.off + i * z, c.size, z⟩
    | _ => none) else none
  | _ => none
theorem SlR.slr {ks : List IntKind} {w : World} {v : Value} {xs : List (Nat → Int)} {σ : Mp} {b N : Nat} {e : IE} (h : SlR (enR ks) ks.length w v xs) (he : e.den ρ = xs.length) (hσ : ∀ i, i < N → σ (b + i) = rowLoc w v ks.length i) : VR ρ σ (.slr b ks.length N e) v := by
  obtain ⟨a, cap, rfl, hcap, _, hx⟩ := h
  refine .slr _ _ he fun i h1 h2 => ?_
  rcases hx with rfl | ⟨bl, off, c, t, p, rfl, hh, hsz, hrow⟩
  · simp at h1
  · exact ⟨⟨bl, off + i * ks.length, c.size, ks.length⟩, off, rfl, rfl, by rw [hσ i h2]; simp [rowLoc, h1, hh]⟩
theorem flat_row {α : Type} {en : α → List Value} {z : Nat} (hz : ∀ x, (en x).length = z) : ∀ (xs : List α) (i : Nat) (h : i < xs.length), ((xs.flatMap en).drop (i * z)).take z = en xs[i]
  | x :: xs, 0, _ => by
    simp only [List.flatMap_cons, Nat.zero_mul, List.drop_zero, List.getElem_cons_zero]
    rw [List.take_append_of_le_length (by rw [hz]; exact Nat.le_refl _), List.take_of_length_le (by rw [hz]; exact Nat.le_refl _)]
  | x :: xs, i + 1, h => by
    have ih := flat_row hz xs i (by simpa using h)
    simp only [List.flatMap_cons, List.getElem_cons_succ]
    rw [show (i + 1) * z = (en x).length + i * z by rw [hz, Nat.succ_mul, Nat.add_comm], ← List.drop_drop, List.drop_left]
    exact ih
theorem SlR.rowAt {ks : List IntKind} {w : World} {v : Value} {xs : List (Nat → Int)} (h : SlR (enR ks) ks.length w v xs) (i K : Nat) (hx : ∀ f, f < ks.length → ρ.i (K + f) = (xs.getD i (fun _ => 0)) f) : ArgAt ρ w (rowB ks K) (rowLoc w v ks.length i) := by
  refine ⟨rfl, rfl, rfl, fun l hl => ?_⟩
  obtain ⟨a, cap, rfl, hcap, _, hy⟩ := h
  rcases hy with rfl | ⟨bl, off, c, t, p, rfl, hh, hsz, hrow⟩
  · cases a <;> simp [rowLoc] at hl
  · simp only [rowLoc] at hl
    split at hl
    · rename_i hi
      rw [hh] at hl
      obtain rfl := Option.some.inj hl
      have hcl : Blk.cells (rowB ks K) = symCells ks K := by simp [Blk.cells, rowB, BC.list, flatR]
      have hln : (symCells ks K).length = ks.length := (symCells_ok ks K).1
      have hmul : i * ks.length + ks.length ≤ xs.length * ks.length := by rw [← Nat.succ_mul]; exact Nat.mul_le_mul_right _ hi
      refine ⟨c, t, p, hh, rfl, rfl, by rw [hcl, hln]; show off + i * ks.length + ks.length ≤ c.size; omega, fun σ => ?_⟩
      rw [hcl, hln]
      have e1 : ((c.toList.drop (off + i * ks.length)).take ks.length) = enR ks xs[i] := by
        rw [← flat_row (en := enR ks) (fun x => enFrom_length _ _ _) xs i hi, ← hrow, List.drop_take, List.take_take, List.drop_drop, Nat.min_eq_left (by omega)]
      show VRl ρ σ (symCells ks K) ((c.toList.drop (off + i * ks.length)).take ks.length)
      rw [e1]
      refine sym_rel ks K 0 fun f hf => ?_
      rw [hx f hf, List.getD_eq_getElem?_getD, List.getElem?_eq_getElem hi, Nat.zero_add]
      rfl
    · cases hl
theorem SlR.len {ks : List IntKind} {w : World} {v : Value} {xs : List (Nat → Int)} (h : SlR (enR ks) ks.length w v xs) : 0 ≤ (xs.length : Int) ∧ (xs.length : Int) ≤ 9223372036854775807 := by
  obtain ⟨a, cap, rfl, hcap, hl, _⟩ := h
  exact ⟨by omega, by omega⟩
theorem okR_wf {ks : List IntKind} {xs : List (Nat → Int)} (h : ∀ x ∈ xs, okR ks x) (i f : Nat) (k : IntKind) (hk : ks[f]? = some k) (h0 : (Lit.int k 0).wf = true) : (Lit.int k ((xs.getD i (fun _ => 0)) f)).wf = true := by
  by_cases hi : i < xs.length
  · rw [List.getD_eq_getElem?_getD, List.getElem?_eq_getElem hi]
    exact h _ (List.getElem_mem hi) f k hk
  · rw [List.getD_eq_getElem?_getD, List.getElem?_eq_none (by omega)]
    exact h0
/-! ## Laws -/
noncomputable def runOf2 (C : Ctx) (m base : Nat) (h0 : Tr Blk) (f : Nat) (args : List CV) (o : List Nat) : Option (BE × List PC) :=
  match eval C m base (.call f args) ⟨h0, base, o, []⟩ with
  | some ⟨.val (.bool e), s', _, []⟩ => some (e, s'.pc)
  | _ => none
/-- A law at symbols whose arguments hold slices that are read alone. -/
theorem law_of2 {C : Ctx} (hC : CtxOk3 P C) (hM : MemoOk P C ρ) {m f base : Nat} {h0 : Tr Blk} {args : List CV} {args' : Array Value} {t : DT} {σ : Mp} {w : World} (ht : t.ok (runOf2 C m base h0 f args) [] [] = true) (hg : t.good ρ)
    (ha : VRl ρ σ args args'.toList) (hH : HR ρ σ (curOf h0 base) w) (hN : ∀ b, base ≤ b → σ b = none) : Calls P f args' w fun e w' => e = .returned (.bool true) ∧ Below w.heap.size w w' := by
  obtain ⟨o, e, p', hr, he, hp⟩ := DT.sound t [] [] ht hg (fun q hq => by cases hq)
  unfold runOf2 at hr
  split at hr
  · rename_i e1 s' R hev
    cases hr
    have k := (eval_ok (ρ := ρ) hC hM m).call _ _ _ _ _ _ _ _ hev
    have hlt := k.lt
    have := k.run 0 σ (curOf h0 base) w args' hp ha hH (fun b hb => by
      have : b < base := by
        rcases hb with hb | hb
        · exact hlt.1 b hb
        · exact hlt.2 b hb
      show (if b < base then h0.get b else none) = h0.get b
      rw [if_pos this]) (fun b h1 _ => hN b h1)
    refine ((this.calls (fun k d h => by cases h)).mono ?_)
    rintro e w' ⟨v, rfl, σ', h1, h2, h3, h4, h5⟩
    cases h2
    exact ⟨by rw [he], h4.os, h4.tape, h4.output, h4.size, fun k hk => h4.block k hk (fun b hb l hl => by
      rcases hb with hb | hb
      · cases hb
      · rw [hN b hb] at hl; cases hl)⟩
  · cases hr
end
/-! ## Several such slices -/
/-- A slice argument: how many of its rows are blocks, a row's kinds, the slice, its rows. -/
structure Sl where
  N : Nat
  ks : List IntKind
  v : Value
  xs : List (Nat → Int)
noncomputable def heapOf : List (Nat × List IntKind) → (b K : Nat) → Tr Blk
  | [], _, _ => .nil
  | (N, ks) :: l, b, K => rowsB ks N b K (heapOf l (b + N) (K + N * ks.length))
def rowEnv : List Sl → Nat → Int
  | [], _ => 0
  | s :: l, n => if n < s.N * s.ks.length then (s.xs.getD (n / s.ks.length) (fun _ => 0)) (n % s.ks.length) else rowEnv l (n - s.N * s.ks.length)
def envOf (pl : List Int) (S : List Sl) (n : Nat) : Int := if n < pl.length then pl.getD n 0 else rowEnv S (n - pl.length)
noncomputable def sigOf (w : World) : List Sl → Mp
  | [], _ => none
  | s :: l, b => if b < s.N then rowLoc w s.v s.ks.length b else sigOf w l (b - s.N)
theorem rowsB_get (ks : List IntKind) : ∀ (N b K : Nat) (t : Tr Blk) (i : Nat), (rowsB ks N b K t).get i = if b ≤ i ∧ i < b + N then some (rowB ks (K + (i - b) * ks.length)) else t.get i
  | 0, b, K, t, i => by rw [if_neg (by omega)]; rfl
  | N + 1, b, K, t, i => by
    show (rowsB ks N (b + 1) (K + ks.length) (t.set b (rowB ks K))).get i = _
    rw [rowsB_get ks N (b + 1), Tr.get_set]
    by_cases h : i = b
    · subst h
      rw [if_neg (by omega), if_pos rfl, if_pos ⟨by omega, by omega⟩, Nat.sub_self, Nat.zero_mul, Nat.add_zero]
    · by_cases h2 : b + 1 ≤ i ∧ i < b + 1 + N
      · rw [if_pos h2, if_pos ⟨by omega, by omega⟩]
        congr 2
        rw [show i - b = (i - (b + 1)) + 1 by omega, Nat.succ_mul]
        omega
      · rw [if_neg h2, if_neg h, if_neg (by omega)]
theorem args_at {ρ : Env} {w : World} {k : Blk} : ∀ (S : List Sl) (b K i : Nat), (∀ s ∈ S, SlR (enR s.ks) s.ks.length w s.v s.xs ∧ 1 ≤ s.ks.length) → (∀ n, ρ.i (K + n) = rowEnv S n) → b ≤ i → (heapOf (S.map fun s => (s.N, s.ks)) b K).get i = some k → ArgAt ρ w k (sigOf w S (i - b))
  | [], b, K, i, _, _, _, h => by cases h
  | s :: l, b, K, i, hS, hρ, hb, h => by
    have hs := hS s (by simp)
    simp only [List.map_cons, heapOf] at h
    rw [rowsB_get] at h
    by_cases hi : b ≤ i ∧ i < b + s.N
    · rw [if_pos hi] at h
      obtain rfl := Option.some.inj h
      have e : sigOf w (s :: l) (i - b) = rowLoc w s.v s.ks.length (i - b) := if_pos (by omega)
      rw [e]
      refine hs.1.rowAt (i - b) _ fun f hf => ?_
      rw [Nat.add_assoc, hρ]
      have hlt : (i - b) * s.ks.length + f < s.N * s.ks.length := by
        have : (i - b + 1) * s.ks.length ≤ s.N * s.ks.length := Nat.mul_le_mul_right _ (by omega)
        rw [Nat.succ_mul] at this
        omega
      show (if _ < s.N * s.ks.length then _ else _) = _
      rw [if_pos hlt]
      have e1 : ((i - b) * s.ks.length + f) / s.ks.length = i - b := by
        rw [Nat.add_comm, Nat.add_mul_div_right _ _ (by omega), Nat.div_eq_of_lt hf, Nat.zero_add]
      have e2 : ((i - b) * s.ks.length + f) % s.ks.length = f := by
        rw [Nat.add_comm, Nat.add_mul_mod_self_right, Nat.mod_eq_of_lt hf]
      rw [e1, e2]
    · rw [if_neg hi] at h
      have e : sigOf w (s :: l) (i - b) = sigOf w l (i - (b + s.N)) := by
        show (if i - b < s.N then _ else sigOf w l (i - b - s.N)) = _
        rw [if_neg (by omega), Nat.sub_sub]
      rw [e]
      refine args_at l (b + s.N) (K + s.N * s.ks.length) i (fun s' hs' => hS s' (List.mem_cons_of_mem _ hs')) (fun n => ?_) (by omega) h
      rw [Nat.add_assoc, hρ]
      show (if s.N * s.ks.length + n < s.N * s.ks.length then _ else rowEnv l (s.N * s.ks.length + n - s.N * s.ks.length)) = _
      rw [if_neg (by omega), Nat.add_sub_cancel_left]
theorem args_HR {ρ : Env} {w : World} {base : Nat} (pl : List Int) (S : List Sl) (hρ : ρ.i = envOf pl S) (hS : ∀ s ∈ S, SlR (enR s.ks) s.ks.length w s.v s.xs ∧ 1 ≤ s.ks.length) (hL : Laid w) : HR ρ (sigOf w S) (curOf (heapOf (S.map fun s => (s.N, s.ks)) 0 pl.length) base) w := by
  refine HR.ofArgs hL fun i k _ hk => ?_
  have := args_at (ρ := ρ) S 0 pl.length i hS (fun n => ?_) (Nat.zero_le _) hk
  · simpa using this
  · rw [hρ]
    show (if pl.length + n < pl.length then _ else rowEnv S (pl.length + n - pl.length)) = _
    rw [if_neg (by omega), Nat.add_sub_cancel_left]
theorem sig_none {w : World} : ∀ (S : List Sl) (b : Nat), (S.map (·.N)).sum ≤ b → sigOf w S b = none
  | [], _, _ => rfl
  | s :: l, b, h => by
    simp only [List.map_cons, List.sum_cons] at h
    show (if b < s.N then _ else sigOf w l (b - s.N)) = none
    rw [if_neg (by omega)]
    exact sig_none l _ (by omega)
theorem sig_here {w : World} {s : Sl} {l : List Sl} {i : Nat} (h : i < s.N) : sigOf w (s :: l) i = rowLoc w s.v s.ks.length i := if_pos h
theorem sig_skip {w : World} {s : Sl} {l : List Sl} {i N : Nat} (h : s.N = N) : sigOf w (s :: l) (N + i) = sigOf w l i := by
  subst h
  show (if s.N + i < s.N then _ else sigOf w l (s.N + i - s.N)) = _
  rw [if_neg (by omega), Nat.add_sub_cancel_left]
end Go.Proofs.Ytjdldcmcjaaibaa.Cx

/- CONTRACTS: what a call does to a small memory, proved once; what the evaluator may take it for in any memory. -/
namespace Go.Proofs.Ytjdldcmcjaaibaa.Cx
set_option linter.unusedSimpArgs false
set_option linter.unusedVariables false
open Go Go.RowKit
/-! ## What is picked of a run -/
noncomputable def Out.pk (sl bl : List Nat) : Option Out → Option (Ex × List CV × List (Option Blk) × Nat × List PC × List Nat)
  | some ⟨.code e T, s, _, W⟩ => some (e, sl.map (rd T), bl.map s.heap.get, s.next, s.pc, W)
  | _ => none
theorem Out.pk_inv {sl bl : List Nat} {r : Option Out} {e : Ex} {cs : List CV} {ks : List (Option Blk)} {n : Nat} {l : List PC} {W : List Nat} (h : Out.pk sl bl r = some (e, cs, ks, n, l, W)) :
    ∃ T s R, r = some ⟨.code e T, s, R, W⟩ ∧ sl.map (rd T) = cs ∧ bl.map s.heap.get = ks ∧ s.next = n ∧ s.pc = l := by
  unfold Out.pk at h
  split at h
  · cases h; exact ⟨_, _, _, rfl, rfl, rfl, rfl, rfl⟩
  · cases h
/-- A call in a small memory. -/
structure Ctr (P : Program) (ρ : Env) (f : Nat) (args : List CV) (h0 : Tr Blk) (base : Nat) (W : List Nat) (c : CV) (h1 : Tr Blk) (n1 : Nat) : Prop where
  fn : ∃ fn, P.funcs[f]? = some fn ∧ fn.body.isSome = true
  run : ∀ (n : Nat) (σ : Mp) (w : World) (args' : Array Value), VRl ρ σ args args'.toList → HR ρ σ (curOf h0 base) w → (∀ b, base ≤ b → σ b = none) →
    CallsIn (fc none) n P f args' w (Ret (Post ρ σ (curOf h0 base) base w c ⟨h1, n1, [], []⟩ W))
section
variable {P : Program} {memo : Memo} {ρ : Env} {f : Nat} {args : List CV} {h0 h1 : Tr Blk} {base n1 : Nat} {W : List Nat} {c : CV}
/-- A function's body, from the start, gives its contract. -/
theorem Ctr.of_sem {fn : Func} {body : Code} {Φ : Ex → Pt → Prop} (hP : progOk P = true) (hfn : P.funcs[f]? = some fn) (hb : fn.body = some body) (hl : args.length ≤ fn.ntmps) (hW : ∀ b ∈ W, b < base)
    (h : ∀ X : Fx, X.base = base → X.nt = fn.ntmps → X.W = W → FxOk ρ X → Sem P ρ X body ⟨args0 0 args .nil, h0, base⟩ Φ)
    (hres : ∀ X : Fx, X.base = base → X.W = W → FxOk ρ X → ∀ e p, Φ e p → e.stays = true ∧ ∃ (ren : Nat → Nat) (p2 : Pt) (vs : List CV) (R' : List Nat), Mat ρ X ren p p2 ∧ p2.n = n1 ∧ (∀ b, (b ∈ W ∨ (base ≤ b ∧ b < n1)) → h1.get b = p2.h.get b) ∧ resE (ctxOf P memo0) p.T (p.st []) fn.results.toList = some (vs, R') ∧ MC ρ ren n1 (tupC vs) c) :
    Ctr P ρ f args h0 base W c h1 n1 := by
  have hC := ctxOf_ok hP (memo0 : Memo)
  refine ⟨⟨fn, hfn, by rw [hb]; rfl⟩, ?_⟩
  intro n σ w args1 hargs hH hN
  have hlen2 := hargs.length
  simp only [Array.length_toList] at hlen2
  obtain ⟨X, hX⟩ : ∃ X : Fx, X = ⟨σ, curOf h0 base, base, W, w, fn.ntmps, ⟨args1 ++ Array.replicate (fn.ntmps - args1.size) Go.undef, []⟩, none, n⟩ := ⟨_, rfl⟩
  have hXo : FxOk ρ X := by rw [hX]; exact ⟨hH, hN, hW, fun l hl => by cases hl⟩
  have hS := h X (by rw [hX]) (by rw [hX]) (by rw [hX]) hXo
  refine callsIn_of_wp_marks (hC.fn f fn hfn).1 hb trivial ?_
  have key := hS (bodyPostM (fc none) n P fn (Ret (Post ρ σ (curOf h0 base) base w c ⟨h1, n1, [], []⟩ W))) ⟨args1 ++ Array.replicate (fn.ntmps - args1.size) Go.undef, []⟩ w ?_ ?_
  · rw [hX] at key; exact key
  · rw [hX]
    refine ⟨Nat.le_refl _, fun b h1 h2 => if_pos h1, σ, ?_, (args0_rel hargs hl []).marks _ _⟩
    refine Inv.start (s := ⟨h0, base, [], []⟩) hH (fun b hb' => ?_)
    rcases hb' with hb' | hb'
    · exact if_pos (hW b hb')
    · have : base ≤ b ∧ b < base := hb'; omega
  · intro e p a' w'0 hΦ hS'
    obtain ⟨he, ren, p2, vs, R', hmat, hn, hh, hr, hc⟩ := hres X (by rw [hX]) (by rw [hX]) hXo e p hΦ
    have toX : ∀ {σ'' : Mp} {w' : World}, Inv ρ σ (curOf h0 base) base W base w (p.st []) σ'' w' → Inv ρ σ (curOf h0 base) base W base w (p2.st []) (fun b => if b < p2.n then σ'' (ren b) else none) w' := fun {σ'' w'} hI => by
      have := Inv.mat (X := X) hXo (by rw [hX]; exact hI) hmat
      rw [hX] at this; exact this
    rw [hX] at hS'
    obtain ⟨hle, hold, σ', hI0, hF⟩ := hS'
    have hle : base ≤ p.n := hle
    have hfin : LeavesInM (fc none) n P fn a'.tmps (Ret (Post ρ σ (curOf h0 base) base w c ⟨h1, n1, [], []⟩ W)) a'.defers .returning w'0 := by
      obtain ⟨ml, hml, hmn, hmd⟩ := hF.2.2
      rw [hml, List.append_nil]
      refine leaves_marks (J := fun w' => Inv ρ σ (curOf h0 base) base W base w (p.st []) σ' w') (N0 := w.heap.size) (fun w2 D hI hD1 hD2 => ⟨hI.ext, hI.H.put hD2 (fun _ _ _ h => by cases h) (fun _ h => by cases h) (fun _ _ h => by cases h), ⟨hI.K.os, hI.K.tape, hI.K.output, by rw [World.putObj_size]; exact hI.K.size, fun k hk hne => by rw [World.putObj_heap_other (by omega)]; exact hI.K.block k hk hne, fun k r hk => ?_, fun k hk => ?_⟩, hI.F⟩) (fun w' hI => ?_) ml w'0 hmn hmd hI0
      · have hlt := (Array.getElem?_eq_some_iff.1 hk).1
        obtain ⟨r', hr'⟩ := hI.K.loops k r hk
        exact ⟨r', by rw [World.putObj_heap_other (by omega)]; exact hr'⟩
      · have hlt := (Array.getElem?_eq_some_iff.1 hk).1
        rw [World.putObj_heap_other (by omega)]; exact hI.K.defd k hk
      have hcur : ∀ b ∈ R', upd (curOf h0 base) base p.n p.h W b = p.h.get b := by
        intro b hb'
        show (if b ∈ W ∨ (base ≤ b ∧ b < p.n) then _ else curOf h0 base b) = _
        by_cases hc' : b ∈ W ∨ (base ≤ b ∧ b < p.n)
        · rw [if_pos hc']
        · rw [if_neg hc']
          have hlt : b < p.n := resE_lt hr b hb'
          have hb0 : b < base := by
            by_cases h : b < base
            · exact h
            · exact absurd (.inr ⟨by omega, hlt⟩) hc'
          exact hold b hb0 (fun h => hc' (.inl h))
      obtain ⟨ws, hw1, hw2⟩ := res_run (P := P) (a := a') hC.toCtxOk hI.H hF.2.1 hr hcur
      have hrun : (results fn a'.tmps).run P w' = .ok (if h : ws.length = 1 then ws[0] else .tuple ws.toArray) w' := by
        have hm : (fn.results.mapM (resF a')).run P w' = .ok ws.toArray w' := by
          rw [Array.mapM_eq_mapM_toList]
          simp only [Sem.run_map, hw1, Result.andThen]
        show (Sem.run P (do
          let vs ← fn.results.mapM (resF a')
          pure (if h : vs.size = 1 then vs[0] else .tuple vs)) w') = _
        simp only [Sem.run_bind, hm, Result.andThen, Sem.run_pure]
        by_cases hh1 : ws.length = 1
        · simp [hh1]
        · simp [hh1]
      have hI2 := toX hI
      refine ⟨_, hrun, _, rfl, _, ?_, hc σ' (fun b => if b < p2.n then σ' (ren b) else none) _ (fun b hb => if_pos (by rw [hn]; exact hb)) (tup_rel hw2), ?_, hI2.K, ?_⟩
      · have := hI2.ext; show Ext σ _ base n1; rw [← hn]; exact this
      · have hu : upd (curOf h0 base) base n1 h1 W = upd (curOf h0 base) base p2.n p2.h W := by
          funext b
          show (if b ∈ W ∨ (base ≤ b ∧ b < n1) then h1.get b else _) = (if b ∈ W ∨ (base ≤ b ∧ b < p2.n) then p2.h.get b else _)
          rw [hn]
          by_cases hc' : b ∈ W ∨ (base ≤ b ∧ b < n1)
          · rw [if_pos hc', if_pos hc', hh b hc']
          · rw [if_neg hc', if_neg hc']
        show HR ρ _ (upd (curOf h0 base) base n1 h1 W) w'
        rw [hu]; exact hI2.H
      · have := hI2.F; show Fresh σ _ base n1 base W w; rw [← hn]; exact this
    cases e with
    | normal => exact hfin
    | ret => exact hfin
    | exit i => simp [Ex.stays] at he
/-- Numbers of a small memory, in a greater one. -/
structure Lift (β : Nat → Nat) (base n1 next : Nat) (σ σ2 : Mp) : Prop where
  old : ∀ i, i < base → ∀ l, σ i = some l → σ2 (β i) = some l
  new : ∀ j, base + j < n1 → ∀ l, σ (base + j) = some l → σ2 (next + j) = some l
/-- A contract where nothing old is written, in any memory. -/
theorem Ctr.callOk {β : Nat → Nat} {s s' : St} {R : List Nat} {args2 : List CV} {c2 : CV} {memo : Memo} (K : (∀ p ∈ s'.pc, p.holds ρ) → Ctr P ρ f args h0 base [] c h1 n1) (hfn : ∃ fn, P.funcs[f]? = some fn ∧ fn.body.isSome = true)
    (hle : base ≤ n1) (hn : s'.next = s.next + (n1 - base)) (hpc : ∃ l, s'.pc = l ++ s.pc) (hold : ∀ b, ¬ (s.next ≤ b ∧ b < s'.next) → s'.heap.get b = s.heap.get b)
    (hnew : ∀ j, base + j < n1 → ∀ k, s'.heap.get (s.next + j) = some k → ∃ k0, h1.get (base + j) = some k0 ∧ k.live = k0.live ∧ k.esz = k0.esz ∧ k.ext = none ∧ (k.ro = false → k0.ro = false) ∧ ∀ σ σ2 us, Lift β base n1 s.next σ σ2 → VRl ρ σ k0.cells us → VRl ρ σ2 k.cells us)
    (hβ : ∀ i, i < base → β i < s.next ∧ β i ∈ R) (hR : ∀ b ∈ R, b < s.next) (hinj : ∀ i i' k k', i < base → i' < base → h0.get i = some k → h0.get i' = some k' → (k.ro = false ∨ k'.ro = false) → β i = β i' → i = i')
    (hblk : ∀ i, i < base → ∀ k, h0.get i = some k → ∃ k1, s.heap.get (β i) = some k1 ∧ k.live = k1.live ∧ k.esz = k1.esz ∧ k.ext = none ∧ (k.ro = false → k1.ro = false) ∧ ∀ σ σ2 us, VRl ρ σ k1.cells us → VRl ρ σ2 k.cells us)
    (hargs : ∀ σ l, VRl ρ σ args2 l → VRl ρ (fun i => if i < base then σ (β i) else none) args l) (hc : ∀ σ σ2 v, Lift β base n1 s.next σ σ2 → VR ρ σ c v → VR ρ σ2 c2 v) :
    CallOk P (ctxOf P memo) ρ f args2 s c2 s' R [] := by
  refine ⟨hfn, ⟨by omega, fun b _ hb => hold b hb, hpc⟩, ⟨hR, fun b hb => by cases hb⟩, ?_⟩
  intro n σ cur w args' hp hargs' hH hA hN
  have K := K hp
  have hH0 : HR ρ (fun i => if i < base then σ (β i) else none) (curOf h0 base) w := by
    have get : ∀ b k, curOf h0 base b = some k → b < base ∧ h0.get b = some k ∧ k.ext = none ∧ ∃ k1, cur (β b) = some k1 ∧ k.live = k1.live ∧ k.esz = k1.esz ∧ (k.ro = false → k1.ro = false) ∧ ∀ σ σ2 us, VRl ρ σ k1.cells us → VRl ρ σ2 k.cells us := by
      intro b k hk
      unfold curOf at hk
      split at hk
      · rename_i hb
        obtain ⟨k1, q1, q2, q3, q4, q5, q6⟩ := hblk b hb k hk
        exact ⟨hb, hk, q4, k1, (hA _ (.inl (hβ b hb).2)).trans q1, q2, q3, q5, q6⟩
      · cases hk
    refine ⟨fun b k l a1 a2 a3 => ?_, fun b b' k k' l l' a1 a2 a3 a4 a5 a6 a7 a8 => ?_, fun b k x l a1 a2 a3 => ?_, fun b b' k k' x x' l l' a1 a2 a3 a4 a5 a6 a7 => ?_, fun y hy => ⟨(hH.glob y hy).1, fun b k l a1 a2 ar a3 => ?_⟩⟩
    · obtain ⟨hb, _, _, k1, q1, q2, qe, qr, q3⟩ := get b k a1
      simp only [if_pos hb] at a3
      obtain ⟨cs, t, ppr1, r1, qqr1, r2, r3, r4, r5⟩ := hH.cell _ k1 l q1 (q2 ▸ a2) a3
      have r6 := q3 _ (fun i => if i < base then σ (β i) else none) _ r5
      have hlen : k.cells.length = k1.cells.length := r6.length.symm.trans r5.length
      exact ⟨cs, t, ppr1, r1, fun h => qqr1 (qr h), r2, qe.trans r3, by rw [hlen]; exact r4, by rw [hlen]; exact r6⟩
    · obtain ⟨hb, g1, _, k1, q1, q2, _, qr, _⟩ := get b k a1
      obtain ⟨hb', g1', _, k1', q1', q2', _, qr', _⟩ := get b' k' a4
      simp only [if_pos hb] at a3
      simp only [if_pos hb'] at a6
      exact hinj b b' k k' hb hb' g1 g1' a8 (hH.inj _ _ k1 k1' l l' q1 (q2 ▸ a2) a3 q1' (q2' ▸ a5) a6 a7 (a8.imp qr qr'))
    · obtain ⟨_, _, q2, _⟩ := get b k a1
      rw [q2] at a2; cases a2
    · obtain ⟨_, _, q2, _⟩ := get b k a1
      rw [q2] at a2; cases a2
    · obtain ⟨hb, _, _, k1, q1, q2, _, qr, _⟩ := get b k a1
      simp only [if_pos hb] at a3
      exact (hH.glob y hy).2 _ k1 l q1 (q2 ▸ a2) (qr ar) a3
  refine CallsIn.mono (K.run n _ w args' (hargs σ _ hargs') hH0 (fun b hb => if_neg (by omega))) ?_
  rintro e w' ⟨v, rfl, σ', x1, x2, x3, x4, x5⟩
  have x1 : Ext (fun i => if i < base then σ (β i) else none) σ' base n1 := x1
  have x3 : HR ρ σ' (upd (curOf h0 base) base n1 h1 []) w' := x3
  have x5 : Fresh (fun i => if i < base then σ (β i) else none) σ' base n1 base [] w := x5
  -- nothing old was written
  have same : ∀ k, k < w.heap.size → w'.heap[k]? = w.heap[k]? := fun k hk => x4.block k hk (fun b hb l hl => by
    rcases hb with hb | hb
    · cases hb
    · have : (if b < base then σ (β b) else none) = some l := hl
      rw [if_neg (by omega)] at this; cases this)
  have fresh : ∀ j l, base + j < n1 → σ' (base + j) = some l → w.heap.size ≤ l.blk := fun j l hj hl => by
    rcases x5 (base + j) l (by omega) hj hl with h | ⟨b0, hb0, l0, h1, h2⟩
    · exact h
    · rcases hb0 with hb0 | hb0
      · cases hb0
      · have : (if b0 < base then σ (β b0) else none) = some l0 := h1
        rw [if_neg (by omega)] at this; cases this
  obtain ⟨σ2, hσ2⟩ : ∃ σ2 : Mp, σ2 = fun b => if s.next ≤ b ∧ b < s'.next then σ' (base + (b - s.next)) else σ b := ⟨_, rfl⟩
  have e1 : ∀ j, base + j < n1 → σ2 (s.next + j) = σ' (base + j) := fun j hj => by
    rw [hσ2]
    show (if s.next ≤ s.next + j ∧ s.next + j < s'.next then σ' (base + (s.next + j - s.next)) else σ _) = _
    rw [if_pos ⟨by omega, by omega⟩, Nat.add_sub_cancel_left]
  have e2 : ∀ b, ¬ (s.next ≤ b ∧ b < s'.next) → σ2 b = σ b := fun b hb => by rw [hσ2]; exact if_neg hb
  have hle2 : σ.le σ2 := fun b l hl => by
    by_cases hb : s.next ≤ b ∧ b < s'.next
    · rw [hN b hb.1 hb.2] at hl; cases hl
    · rw [e2 b hb]; exact hl
  have lift : Lift β base n1 s.next σ' σ2 := by
    refine ⟨fun i hi l hl => ?_, fun j hj l hl => by rw [e1 j hj]; exact hl⟩
    have := x1 i (.inl hi)
    simp only [if_pos hi] at this
    rw [this] at hl
    exact hle2 _ _ hl
  have old : ∀ b k, upd cur s.next s'.next s'.heap [] b = some k → ∀ l, σ2 b = some l → (∃ j, b = s.next + j ∧ base + j < n1 ∧ s'.heap.get b = some k ∧ σ' (base + j) = some l) ∨ (¬ (s.next ≤ b ∧ b < s'.next) ∧ cur b = some k ∧ σ b = some l) := by
    intro b k hk l hl
    unfold upd at hk
    by_cases hb : s.next ≤ b ∧ b < s'.next
    · left
      rw [if_pos (.inr hb)] at hk
      obtain ⟨j, rfl⟩ : ∃ j, b = s.next + j := ⟨b - s.next, by omega⟩
      exact ⟨j, rfl, by omega, hk, by rw [← e1 j (by omega)]; exact hl⟩
    · right
      rw [if_neg (by simpa using hb)] at hk
      exact ⟨hb, hk, by rw [← e2 b hb]; exact hl⟩
  have up1 : ∀ j k0, base + j < n1 → h1.get (base + j) = some k0 → upd (curOf h0 base) base n1 h1 [] (base + j) = some k0 := fun j k0 hj hk => by
    show (if base + j ∈ [] ∨ (base ≤ base + j ∧ base + j < n1) then h1.get (base + j) else _) = _
    rw [if_pos (.inr ⟨by omega, hj⟩)]; exact hk
  refine ⟨v, rfl, σ2, fun b hb => e2 b (by omega), hc _ _ _ lift x2, ?_, .of_same x4.os x4.tape x4.output x4.size same, fun b l b1 b2 b3 => ?_⟩
  · refine ⟨fun b k l a1 a2 a3 => ?_, fun b b' k k' l l' a1 a2 a3 a4 a5 a6 a7 a8 => ?_, fun b k x l a1 a2 a3 => ?_, fun b b' k k' x x' l l' a1 a2 a3 a4 a5 a6 a7 => ?_, fun y hy => ?_⟩
    · rcases old b k a1 l a3 with ⟨j, rfl, hj, hk, hl⟩ | ⟨hb, hk, hl⟩
      · obtain ⟨k0, g1, g2, g3, g4, gr, g5⟩ := hnew j hj k hk
        obtain ⟨cs, t, ppr1, r1, qqr1, r2, r3, r4, r5⟩ := x3.cell (base + j) k0 l (up1 j k0 hj g1) (g2 ▸ a2) hl
        have r6 := g5 _ _ _ lift r5
        have hlen : k.cells.length = k0.cells.length := r6.length.symm.trans r5.length
        exact ⟨cs, t, ppr1, r1, fun h => qqr1 (gr h), r2, g3.trans r3, by rw [hlen]; exact r4, by rw [hlen]; exact r6⟩
      · obtain ⟨cs, t, ppr1, r1, qqr1, r2, r3, r4, r5⟩ := hH.cell b k l hk a2 hl
        exact ⟨cs, t, ppr1, by rw [same _ (Array.getElem?_eq_some_iff.1 r1).1]; exact r1, qqr1, r2, r3, r4, r5.mono hle2⟩
    · rcases old b k a1 l a3 with ⟨j, rfl, hj, hk, hl⟩ | ⟨hb, hk, hl⟩ <;> rcases old b' k' a4 l' a6 with ⟨j', rfl, hj', hk', hl'⟩ | ⟨hb', hk', hl'⟩
      · obtain ⟨k0, g1, g2, _, _, gr, _⟩ := hnew j hj k hk
        obtain ⟨k1, g1', g2', _, _, gr', _⟩ := hnew j' hj' k' hk'
        have := x3.inj _ _ k0 k1 l l' (up1 j k0 hj g1) (g2 ▸ a2) hl (up1 j' k1 hj' g1') (g2' ▸ a5) hl' a7 (a8.imp gr gr')
        omega
      · have f1 := fresh j l hj hl
        have f2 := hH.lt hk' a5 hl'
        omega
      · have f1 := fresh j' l' hj' hl'
        have f2 := hH.lt hk a2 hl
        omega
      · exact hH.inj b b' k k' l l' hk a2 hl hk' a5 hl' a7 a8
    · rcases old b k a1 l a3 with ⟨j, rfl, hj, hk, hl⟩ | ⟨hb, hk, hl⟩
      · obtain ⟨_, _, _, _, g4, _⟩ := hnew j hj k hk
        rw [g4] at a2; cases a2
      · have hs := hH.spec b k x l hk a2 hl
        exact (hs.heap (same _ hs.lt)).mono hle2
    · rcases old b k a1 l a3 with ⟨j, rfl, hj, hk, hl⟩ | ⟨hb, hk, hl⟩
      · obtain ⟨_, _, _, _, g4, _⟩ := hnew j hj k hk
        rw [g4] at a2; cases a2
      · rcases old b' k' a4 l' a6 with ⟨j', rfl, hj', hk', hl'⟩ | ⟨hb', hk', hl'⟩
        · obtain ⟨_, _, _, _, g4, _⟩ := hnew j' hj' k' hk'
          rw [g4] at a5; cases a5
        · exact hH.injX b b' k k' x x' l l' hk a2 hl hk' a5 hl' a7
    · obtain ⟨⟨t0, h0⟩, hd⟩ := hH.glob y hy
      have hlt := (Array.getElem?_eq_some_iff.1 h0).1
      refine ⟨⟨t0, (same _ hlt).trans h0⟩, fun b k l a1 a2 ar a3 => ?_⟩
      rcases old b k a1 l a3 with ⟨j, rfl, hj, hk, hl⟩ | ⟨hb, hk, hl⟩
      · have := fresh j l hj hl
        omega
      · exact hd b k l hk a2 ar hl
  · rcases Nat.lt_or_ge b (s.next + (n1 - base)) with hlt | hge
    · obtain ⟨j, rfl⟩ : ∃ j, b = s.next + j := ⟨b - s.next, by omega⟩
      rw [e1 j (by omega)] at b3
      exact .inl (fresh j l (by omega) b3)
    · omega
end
end Go.Proofs.Ytjdldcmcjaaibaa.Cx

/- POINTS BY LISTS: temporaries and blocks listed; a path of the evaluator; a loop over a family of points. -/
namespace Go.Proofs.Ytjdldcmcjaaibaa.Cx
set_option linter.unusedSimpArgs false
set_option linter.unusedVariables false
open Go Go.RowKit
noncomputable def mkT : List (Nat × CV) → Tr CV
  | [] => .nil
  | (t, c) :: l => (mkT l).set t c
noncomputable def mkH : List (Nat × Blk) → Tr Blk
  | [] => .nil
  | (t, c) :: l => (mkH l).set t c
noncomputable def mkP (T : List (Nat × CV)) (h : List (Nat × Blk)) (n : Nat) : Pt := ⟨mkT T, mkH h, n⟩
def codeL : Code → Code
  | .seq a _ => a
  | .cond _ a _ => a
  | .block _ b => b
  | .loop b => b
  | .scope b => b
  | .rangeFunc _ _ a _ => a
  | c => c
def codeR : Code → Code
  | .seq _ b => b
  | .cond _ _ b => b
  | .rangeFunc _ _ _ b => b
  | .block _ b => b
  | .loop b => b
  | .scope b => b
  | c => c
/-- A part of a statement: 0 its first part (a loop's, a block's body), 1 its second one. -/
def codeAt : Code → List Nat → Code
  | c, [] => c
  | c, 0 :: l => codeAt (codeL c) l
  | c, _ :: l => codeAt (codeR c) l
def funcCode (f : Func) : Code := match f.body with | some c => c | none => .skip
theorem rd_mkT (t : Nat) : ∀ (l : List (Nat × CV)), rd (mkT l) t = match l.find? (fun x => x.1 == t) with | some x => x.2 | none => .any
  | [] => rfl
  | (u, c) :: l => by
    have ih := rd_mkT t l
    simp only [mkT, rd, Tr.get_set, List.find?_cons]
    by_cases h : t = u
    · subst h; simp
    · have h' : (u == t) = false := by simp; exact fun e => h e.symm
      rw [if_neg h, h']
      exact ih
theorem get_mkH (t : Nat) : ∀ (l : List (Nat × Blk)), (mkH l).get t = (l.find? (fun x => x.1 == t)).map (·.2)
  | [] => rfl
  | (u, c) :: l => by
    have ih := get_mkH t l
    simp only [mkH, Tr.get_set, List.find?_cons]
    by_cases h : t = u
    · subst h; simp
    · have h' : (u == t) = false := by simp; exact fun e => h e.symm
      rw [if_neg h, h']
      exact ih
section
variable {P : Program} {C : Ctx} {ρ : Env} {X : Fx} {c d : Code} {p : Pt} {Φ Ψ : Ex → Pt → Prop}
/-- One path of the evaluator. -/
theorem Sem.path {m : Nat} {o : List Nat} {sl bl : List Nat} {e : Ex} {cs : List CV} {ks : List (Option Blk)} {n base nt : Nat} {l : List PC} {W : List Nat} (hC : CtxOk3 P C) (hM : MemoOk P C ρ) (hX : FxOk ρ X) (hb : X.base = base) (hnt : X.nt = nt) (hr : regsOk c = true)
    (h : Out.pk sl bl (Cx.eval C m base (.code c nt p.T) (p.st o)) = some (e, cs, ks, n, l, W)) (hp : ∀ q ∈ l, q.holds ρ) (hW : ∀ b ∈ W, b ∈ X.W)
    (hΦ : ∀ T h, sl.map (rd T) = cs → bl.map h.get = ks → Φ e ⟨T, h, n⟩) : Sem P ρ X c p Φ := by
  subst hb hnt
  obtain ⟨T, s, R, h1, h2, h3, h4, h5⟩ := Out.pk_inv h
  subst h4 h5
  exact Sem.eval hC hM hX hr h1 hp hW (hΦ T s.heap h2 h3)
/-- The evaluator runs up to a part of a statement: whether it came there, or how the statement was left; what it wrote of old blocks. -/
noncomputable def evalTo (C : Ctx) (m base nt : Nat) : Code → List Nat → Tr CV → St → Option (Bool × Ex × Tr CV × St × List Nat)
  | _, [], T, s => some (true, .normal, T, s, [])
  | .seq a b, d :: l, T, s =>
    bif Nat.beq d 0 then
      match evalTo C m base nt a l T s with
      | some (false, .normal, T1, s1, W1) => match Cx.eval C m base (.code b nt T1) s1 with
        | some ⟨.code e T2, s2, _, W2⟩ => some (false, e, T2, s2, W1 ++ W2)
        | _ => none
      | r => r
    else
      match Cx.eval C m base (.code a nt T) s with
      | some ⟨.code .normal T1, s1, _, W1⟩ => match evalTo C m base nt b l T1 s1 with
        | some (t, e, T2, s2, W2) => some (t, e, T2, s2, W1 ++ W2)
        | none => none
      | some ⟨.code e T1, s1, _, W1⟩ => some (false, e, T1, s1, W1)
      | _ => none
  | .cond x a b, d :: l, T, s =>
    match ev T x with
    | some (.bool e) => match s.decide e with
      | some (v, s1) =>
        bif v == Nat.beq d 0 then evalTo C m base nt (bif v then a else b) l T s1 else
        match Cx.eval C m base (.code (bif v then a else b) nt T) s1 with
        | some ⟨.code e T1, s1, _, W1⟩ => some (false, e, T1, s1, W1)
        | _ => none
      | none => none
    | _ => none
  | .block i b, _ :: l, T, s =>
    match evalTo C m base nt b l T s with
    | some (false, .exit j, T1, s1, W1) => some (false, bif Nat.beq j i then .normal else .exit j, T1, s1, W1)
    | r => r
  | .scope b, _ :: l, T, s => evalTo C m base nt b l T s
  | _, _, _, _ => none
/-- What is to hold where a part of a statement is left. -/
def Aft (P : Program) (ρ : Env) (X : Fx) : Code → List Nat → (Ex → Pt → Prop) → Ex → Pt → Prop
  | _, [], Φ => Φ
  | .seq a b, d :: l, Φ => match d with
    | 0 => Aft P ρ X a l (Then P ρ X b Φ)
    | _ + 1 => Aft P ρ X b l Φ
  | .cond _ a b, d :: l, Φ => match d with
    | 0 => Aft P ρ X a l Φ
    | _ + 1 => Aft P ρ X b l Φ
  | .block i b, _ :: l, Φ => Aft P ρ X b l (Inside i Φ)
  | .scope b, _ :: l, Φ => Aft P ρ X b l Φ
  | _, _, _ => fun _ _ => False
/-- The evaluator runs up to a part: what is left to be shown. -/
def Rest (P : Program) (ρ : Env) (X : Fx) (c : Code) (π : List Nat) (Φ : Ex → Pt → Prop) : Bool → Ex → Pt → Prop
  | true, _, p => Sem P ρ X (codeAt c π) p (Aft P ρ X c π Φ)
  | false, e, p => Φ e p
theorem evalTo_frm {m base nt : Nat} (hC : CtxOk3 P C) (hM : MemoOk P C ρ) : ∀ (π : List Nat) (c : Code) (T : Tr CV) (s0 s1 : St) (t : Bool) (e : Ex) (T1 : Tr CV) (W : List Nat), base ≤ s0.next → evalTo C m base nt c π T s0 = some (t, e, T1, s1, W) → s0.next ≤ s1.next ∧ ∃ l, s1.pc = l ++ s0.pc
  | [], c, T, s0, s1, t, e, T1, W, hle, h => by
    simp only [evalTo] at h
    cases h
    exact ⟨Nat.le_refl _, [], rfl⟩
  | d :: l, .seq a b, T, s0, s1, t, e, T1, W, hle, h => by
    simp only [evalTo] at h
    cases hd : Nat.beq d 0 with
    | true =>
      rw [hd, cond_true] at h
      split at h
      · rename_i T2 s2 W1 he
        obtain ⟨n1, l1, p1⟩ := evalTo_frm hC hM l a T s0 s2 _ _ _ _ hle he
        split at h
        · rename_i e3 T3 s3 R3 W3 he3
          cases h
          have k3 := (eval_ok (ρ := ρ) hC hM m).code _ _ _ _ _ _ _ _ _ _ he3 (Nat.le_trans hle n1)
          obtain ⟨l3, p3⟩ := k3.frm.pc
          exact ⟨Nat.le_trans n1 k3.frm.next, l3 ++ l1, by rw [p3, p1, List.append_assoc]⟩
        · cases h
      · exact evalTo_frm hC hM l a T s0 s1 _ _ _ _ hle h
    | false =>
      rw [hd, cond_false] at h
      split at h
      · rename_i T2 s2 R2 W2 he
        have k2 := (eval_ok (ρ := ρ) hC hM m).code _ _ _ _ _ _ _ _ _ _ he hle
        obtain ⟨l2, p2⟩ := k2.frm.pc
        split at h
        · rename_i t3 e3 T3 s3 W3 he3
          cases h
          obtain ⟨n3, l3, p3⟩ := evalTo_frm hC hM l b T2 s2 s1 _ _ _ _ (Nat.le_trans hle k2.frm.next) he3
          exact ⟨Nat.le_trans k2.frm.next n3, l3 ++ l2, by rw [p3, p2, List.append_assoc]⟩
        · cases h
      · rename_i e2 T2 s2 R2 W2 hne he
        cases h
        have k2 := (eval_ok (ρ := ρ) hC hM m).code _ _ _ _ _ _ _ _ _ _ he hle
        exact ⟨k2.frm.next, k2.frm.pc⟩
      · cases h
  | d :: l, .cond x a b, T, s0, s1, t, e, T1, W, hle, h => by
    simp only [evalTo] at h
    split at h
    · rename_i ex hx
      split at h
      · rename_i v s2 hd
        obtain ⟨d1, d2, ⟨ld, d3⟩, d4⟩ := decide_parts (ρ := ρ) hd
        cases hv : v == Nat.beq d 0 with
        | true =>
          rw [hv, cond_true] at h
          obtain ⟨n1, l1, p1⟩ := evalTo_frm hC hM l (bif v then a else b) T s2 s1 _ _ _ _ (by rw [d1]; exact hle) h
          exact ⟨by rw [← d1]; exact n1, l1 ++ ld, by rw [p1, d3, List.append_assoc]⟩
        | false =>
          rw [hv, cond_false] at h
          split at h
          · rename_i e3 T3 s3 R3 W3 he3
            cases h
            have k3 := (eval_ok (ρ := ρ) hC hM m).code _ _ _ _ _ _ _ _ _ _ he3 (by rw [d1]; exact hle)
            obtain ⟨l3, p3⟩ := k3.frm.pc
            exact ⟨by rw [← d1]; exact k3.frm.next, l3 ++ ld, by rw [p3, d3, List.append_assoc]⟩
          · cases h
      · cases h
    · cases h
  | d :: l, .block i b, T, s0, s1, t, e, T1, W, hle, h => by
    simp only [evalTo] at h
    split at h
    · rename_i j T2 s2 W2 he
      cases h
      exact evalTo_frm hC hM l b T s0 s1 _ _ _ _ hle he
    · exact evalTo_frm hC hM l b T s0 s1 _ _ _ _ hle h
  | d :: l, .scope b, T, s0, s1, t, e, T1, W, hle, h => by
    simp only [evalTo] at h
    exact evalTo_frm hC hM l b T s0 s1 _ _ _ _ hle h
  | _ :: _, .skip, _, _, _, _, _, _, _, _, h => by simp [evalTo] at h
  | _ :: _, .region .., _, _, _, _, _, _, _, _, h => by simp [evalTo] at h
  | _ :: _, .loop _, _, _, _, _, _, _, _, _, h => by simp [evalTo] at h
  | _ :: _, .rangeFunc .., _, _, _, _, _, _, _, _, h => by simp [evalTo] at h
  | _ :: _, .exit _, _, _, _, _, _, _, _, _, h => by simp [evalTo] at h
  | _ :: _, .label _, _, _, _, _, _, _, _, _, h => by simp [evalTo] at h
  | _ :: _, .goto _, _, _, _, _, _, _, _, _, h => by simp [evalTo] at h
  | _ :: _, .ret, _, _, _, _, _, _, _, _, h => by simp [evalTo] at h
  | _ :: _, .refuse _, _, _, _, _, _, _, _, _, h => by simp [evalTo] at h
theorem Sem.to {m : Nat} (hC : CtxOk3 P C) (hM : MemoOk P C ρ) (hX : FxOk ρ X) : ∀ (π : List Nat) (c : Code) (Φ : Ex → Pt → Prop) (p : Pt) (s0 s1 : St) (t : Bool) (e : Ex) (T1 : Tr CV) (W : List Nat), regsOk c = true → s0.heap = p.h → s0.next = p.n → evalTo C m X.base X.nt c π p.T s0 = some (t, e, T1, s1, W) → (∀ q ∈ s1.pc, q.holds ρ) → (∀ b ∈ W, b ∈ X.W) → X.base ≤ p.n →
    (∃ l, s1.pc = l ++ s0.pc) ∧ (Rest P ρ X c π Φ t e ⟨T1, s1.heap, s1.next⟩ → Sem P ρ X c p Φ)
  | [], c, Φ, p, s0, s1, t, e, T1, W, hr, h1, h2, h, hp, hW, hle => by
    simp only [evalTo] at h
    cases h
    refine ⟨⟨[], rfl⟩, fun hR => ?_⟩
    obtain ⟨T, hh, n⟩ := p
    subst h1 h2
    simpa only [Rest, codeAt, Aft] using hR
  | d :: l, .seq a b, Φ, p, s0, s1, t, e, T1, W, hr, h1, h2, h, hp, hW, hle => by
    have hra := (regs_seq hr).1
    have hrb := (regs_seq hr).2
    simp only [evalTo] at h
    cases hd : Nat.beq d 0 with
    | true =>
      rw [hd, cond_true] at h
      obtain rfl := Nat.eq_of_beq_eq_true hd
      split at h
      · rename_i T2 s2 W1 he
        split at h
        · rename_i e3 T3 s3 R3 W3 he3
          cases h
          have k3' : ∃ l, s1.pc = l ++ s2.pc := ((eval_ok (ρ := ρ) hC hM m).code _ _ _ _ _ _ _ _ _ _ he3 (Nat.le_trans (by rw [h2]; exact hle) (evalTo_frm (ρ := ρ) hC hM l a p.T s0 s2 _ _ _ _ (by rw [h2]; exact hle) he).1)).frm.pc
          have hp2 : ∀ q ∈ s2.pc, q.holds ρ := fun q hq => hp q (by obtain ⟨L, hL⟩ := k3'; rw [hL]; simp [hq])
          obtain ⟨⟨l1, hl1⟩, hs⟩ := Sem.to hC hM hX l a (Then P ρ X b Φ) p s0 s2 _ _ _ _ hra h1 h2 he hp2 (fun b hb => hW b (by simp [hb])) hle
          obtain ⟨l3, hl3⟩ := k3'
          refine ⟨⟨l3 ++ l1, by rw [hl3, hl1, List.append_assoc]⟩, fun hR => .seq (hs ?_)⟩
          show Sem P ρ X b ⟨T2, s2.heap, s2.next⟩ Φ
          exact .evalS hC hM hX hrb rfl rfl he3 hp (fun b hb => hW b (by simp [hb])) hR
        · cases h
      · rename_i hne
        obtain ⟨hl1, hs⟩ := Sem.to hC hM hX l a (Then P ρ X b Φ) p s0 s1 t e T1 W hra h1 h2 h hp hW hle
        refine ⟨hl1, fun hR => .seq (hs ?_)⟩
        cases t with
        | true => exact hR
        | false =>
          cases e with
          | normal => exact absurd h (hne _ _ _)
          | exit i => exact hR
          | ret => exact hR
    | false =>
      rw [hd, cond_false] at h
      obtain ⟨d', rfl⟩ : ∃ d', d = d' + 1 := by cases d with | zero => cases hd | succ d => exact ⟨d, rfl⟩
      split at h
      · rename_i T2 s2 R2 W2 he
        have k2 := (eval_ok (ρ := ρ) hC hM m).code _ _ _ _ _ _ _ _ _ _ he (by rw [h2]; exact hle)
        split at h
        · rename_i t3 e3 T3 s3 W3 he3
          cases h
          have hle2 : X.base ≤ s2.next := Nat.le_trans (by rw [h2]; exact hle) k2.frm.next
          obtain ⟨⟨l3, hl3⟩, hs⟩ := Sem.to hC hM hX l b Φ ⟨T2, s2.heap, s2.next⟩ s2 s1 t e T1 W3 hrb rfl rfl he3 hp (fun b hb => hW b (by simp [hb])) hle2
          obtain ⟨l2, hl2⟩ := k2.frm.pc
          refine ⟨⟨l3 ++ l2, by rw [hl3, hl2, List.append_assoc]⟩, fun hR => .seq (.evalS hC hM hX hra h1 h2 he (fun q hq => hp q (by rw [hl3]; simp [hq])) (fun b hb => hW b (by simp [hb])) ?_)⟩
          show Sem P ρ X b ⟨T2, s2.heap, s2.next⟩ Φ
          refine hs ?_
          cases t <;> exact hR
        · cases h
      · rename_i e2 T2 s2 R2 W2 hne he
        cases h
        have k2 := (eval_ok (ρ := ρ) hC hM m).code _ _ _ _ _ _ _ _ _ _ he (by rw [h2]; exact hle)
        refine ⟨k2.frm.pc, fun hR => .seq (.evalS hC hM hX hra h1 h2 he hp hW ?_)⟩
        cases e with
        | normal => exact absurd he (by intro he'; exact hne rfl)
        | exit i => exact hR
        | ret => exact hR
      · cases h
  | d :: l, .cond x a b, Φ, p, s0, s1, t, e, T1, W, hr, h1, h2, h, hp, hW, hle => by
    simp only [evalTo] at h
    split at h
    · rename_i ex hx
      split at h
      · rename_i v s2 hd
        obtain ⟨d1, d2, ⟨ld, d3⟩, d4⟩ := decide_parts (ρ := ρ) hd
        have hrv : regsOk (bif v then a else b) = true := by cases v; exact (regs_cond hr).2; exact (regs_cond hr).1
        cases hv : v == Nat.beq d 0 with
        | true =>
          rw [hv, cond_true] at h
          obtain ⟨⟨l1, hl1⟩, hs⟩ := Sem.to hC hM hX l (bif v then a else b) Φ p s2 s1 t e T1 W hrv (d2.trans h1) (d1.trans h2) h hp hW hle
          refine ⟨⟨l1 ++ ld, by rw [hl1, d3, List.append_assoc]⟩, fun hR => .cond hx (d4 (fun q hq => hp q (by rw [hl1]; simp [hq]))) ?_⟩
          have hv := eq_of_beq hv
          cases v with
          | true =>
            obtain rfl := Nat.eq_of_beq_eq_true hv.symm
            exact hs (by cases t <;> exact hR)
          | false =>
            obtain ⟨d', rfl⟩ : ∃ d', d = d' + 1 := by cases d with | zero => cases hv | succ d => exact ⟨d, rfl⟩
            exact hs (by cases t <;> exact hR)
        | false =>
          rw [hv, cond_false] at h
          split at h
          · rename_i e3 T3 s3 R3 W3 he3
            cases h
            have k3 := (eval_ok (ρ := ρ) hC hM m).code _ _ _ _ _ _ _ _ _ _ he3 (by rw [d1, h2]; exact hle)
            obtain ⟨l3, hl3⟩ := k3.frm.pc
            refine ⟨⟨l3 ++ ld, by rw [hl3, d3, List.append_assoc]⟩, fun hR => .cond hx (d4 (fun q hq => hp q (by rw [hl3]; simp [hq]))) ?_⟩
            have := Sem.evalS (p := p) (Φ := Φ) hC hM hX hrv (d2.trans h1) (d1.trans h2) he3 hp hW hR
            cases v <;> exact this
          · cases h
      · cases h
    · cases h
  | d :: l, .block i b, Φ, p, s0, s1, t, e, T1, W, hr, h1, h2, h, hp, hW, hle => by
    simp only [evalTo] at h
    split at h
    · rename_i j T2 s2 W2 he
      cases h
      obtain ⟨hl1, hs⟩ := Sem.to hC hM hX l b (Inside i Φ) p s0 s1 false (.exit j) T1 W hr h1 h2 he hp hW hle
      refine ⟨hl1, fun hR => .block (hs ?_)⟩
      show bif Nat.beq j i then Φ .normal _ else Φ (.exit j) _
      cases hj : Nat.beq j i with
      | true => rw [hj] at hR; exact hR
      | false => rw [hj] at hR; exact hR
    · rename_i hne
      obtain ⟨hl1, hs⟩ := Sem.to hC hM hX l b (Inside i Φ) p s0 s1 t e T1 W hr h1 h2 h hp hW hle
      refine ⟨hl1, fun hR => .block (hs ?_)⟩
      cases t with
      | true => cases d <;> exact hR
      | false =>
        cases e with
        | normal => exact hR
        | exit j => exact absurd h (hne _ _ _ _)
        | ret => exact hR
  | d :: l, .scope b, Φ, p, s0, s1, t, e, T1, W, hr, h1, h2, h, hp, hW, hle => by
    simp only [evalTo] at h
    obtain ⟨hl1, hs⟩ := Sem.to hC hM hX l b Φ p s0 s1 t e T1 W hr h1 h2 h hp hW hle
    exact ⟨hl1, fun hR => .scope (hs (by cases t <;> cases d <;> exact hR))⟩
  | _ :: _, .skip, _, _, _, _, _, _, _, _, _, _, _, h, _, _, _ => by simp [evalTo] at h
  | _ :: _, .region .., _, _, _, _, _, _, _, _, _, _, _, h, _, _, _ => by simp [evalTo] at h
  | _ :: _, .loop _, _, _, _, _, _, _, _, _, _, _, _, h, _, _, _ => by simp [evalTo] at h
  | _ :: _, .rangeFunc .., _, _, _, _, _, _, _, _, _, _, _, h, _, _, _ => by simp [evalTo] at h
  | _ :: _, .exit _, _, _, _, _, _, _, _, _, _, _, _, h, _, _, _ => by simp [evalTo] at h
  | _ :: _, .label _, _, _, _, _, _, _, _, _, _, _, _, h, _, _, _ => by simp [evalTo] at h
  | _ :: _, .goto _, _, _, _, _, _, _, _, _, _, _, _, h, _, _, _ => by simp [evalTo] at h
  | _ :: _, .ret, _, _, _, _, _, _, _, _, _, _, _, h, _, _, _ => by simp [evalTo] at h
  | _ :: _, .refuse _, _, _, _, _, _, _, _, _, _, _, _, h, _, _, _ => by simp [evalTo] at h
noncomputable def toPk (sl bl : List Nat) : Option (Bool × Ex × Tr CV × St × List Nat) → Option (Bool × Ex × List CV × List (Option Blk) × Nat × List PC × List Nat)
  | some (t, e, T, s, W) => some (t, e, sl.map (rd T), bl.map s.heap.get, s.next, s.pc, W)
  | none => none
/-- One path of the evaluator up to a part. -/
theorem Sem.toPath {m : Nat} {o : List Nat} {π : List Nat} {sl bl : List Nat} {t : Bool} {e : Ex} {cs : List CV} {ks : List (Option Blk)} {n base nt : Nat} {l : List PC} {W : List Nat} (hC : CtxOk3 P C) (hM : MemoOk P C ρ) (hX : FxOk ρ X) (hb : X.base = base) (hnt : X.nt = nt) (hle : base ≤ p.n) (hr : regsOk c = true)
    (h : toPk sl bl (evalTo C m base nt c π p.T (p.st o)) = some (t, e, cs, ks, n, l, W)) (hp : ∀ q ∈ l, q.holds ρ) (hW : ∀ b ∈ W, b ∈ X.W)
    (hΦ : ∀ T h, sl.map (rd T) = cs → bl.map h.get = ks → Rest P ρ X c π Φ t e ⟨T, h, n⟩) : Sem P ρ X c p Φ := by
  subst hb hnt
  cases hv : evalTo C m X.base X.nt c π p.T (p.st o) with
  | none => rw [hv] at h; cases h
  | some r =>
    obtain ⟨t1, e1, T1, s1, W1⟩ := r
    rw [hv] at h
    simp only [toPk, Option.some.injEq, Prod.mk.injEq] at h
    obtain ⟨rfl, rfl, h1, h2, rfl, rfl, rfl⟩ := h
    exact (Sem.to hC hM hX π c Φ p (p.st o) s1 t1 e1 T1 W1 hr rfl rfl hv hp hW hle).2 (hΦ T1 s1.heap h1 h2)
theorem regs_at : ∀ (π : List Nat) {c : Code}, regsOk c = true → regsOk (codeAt c π) = true := by
  have hl : ∀ {c : Code}, regsOk c = true → regsOk (codeL c) = true := fun {c} h => by
    cases c <;> simp only [codeL, regsOk, Bool.and_eq_true] at h ⊢ <;> first | exact h.1 | exact h | trivial
  have hr : ∀ {c : Code}, regsOk c = true → regsOk (codeR c) = true := fun {c} h => by
    cases c <;> simp only [codeR, regsOk, Bool.and_eq_true] at h ⊢ <;> first | exact h.2 | exact h | trivial
  intro π
  induction π with
  | nil => intro c h; exact h
  | cons d l ih =>
    intro c h
    cases d with
    | zero => exact ih (hl h)
    | succ d => exact ih (hr h)
/-- A loop's round over a family of points. -/
def RoundT {Θ : Type} (ρ : Env) (X : Fx) (tm : Θ → Pt) (I : Θ → Prop) (μ : Θ → Nat) (θ : Θ) (Φ : Ex → Pt → Prop) : Ex → Pt → Prop
  | .normal, p => ∃ θ' ren, I θ' ∧ μ θ' < μ θ ∧ Mat ρ X ren p (tm θ')
  | e, p => Φ e p
theorem Sem.loopT {Θ : Type} (tm : Θ → Pt) (I : Θ → Prop) (μ : Θ → Nat) (hX : FxOk ρ X) (hb : ∀ θ, I θ → Sem P ρ X c (tm θ) (RoundT ρ X tm I μ θ Φ)) (θ : Θ) (h : I θ) : Sem P ρ X (.loop c) (tm θ) Φ := by
  intro Q a w hS hQ
  refine wpIn_loop_ghost (fun k a w => ∃ θ, I θ ∧ k = μ θ ∧ SR ρ X (tm θ) a w) (μ θ) ⟨θ, h, rfl, hS⟩ ?_
  rintro k a w ⟨θ, hI, rfl, hS⟩
  refine hb θ hI _ a w hS fun e p' a' w' h1 h2 => ?_
  cases e with
  | normal => obtain ⟨θ', ren, h3, h4, h5⟩ := h1; exact ⟨_, h4, θ', h3, rfl, h2.mat hX h5⟩
  | exit i => exact hQ _ _ _ _ h1 h2
  | ret => exact hQ _ _ _ _ h1 h2
/-! ## Values and blocks under other names -/
theorem MC.any {ren : Nat → Nat} {n2 : Nat} {c : CV} : MC ρ ren n2 c .any := fun _ _ _ _ _ => .any _
theorem MC.plain {ren : Nat → Nat} {n2 : Nat} {c : CV} (h : c.plain = true) : MC ρ ren n2 c c := fun _ _ _ _ hv => hv.plain h
theorem MC.eq {ren : Nat → Nat} {n2 : Nat} {c c0 c1 : CV} (h : MC ρ ren n2 c1 c) (e : c0 = c1) : MC ρ ren n2 c0 c := e ▸ h
theorem MC.of {ren : Nat → Nat} {n2 : Nat} {c c0 c1 : CV} (e : c0 = c1) (h : MC ρ ren n2 c1 c) : MC ρ ren n2 c0 c := e ▸ h
theorem MC.int {ren : Nat → Nat} {n2 : Nat} {k : IntKind} {e e' : IE} (h : e.den ρ = e'.den ρ) : MC ρ ren n2 (.int k e) (.int k e') := fun _ _ _ _ hv => by
  rw [hv.int_inv, h]; exact .int _ _
theorem MC.bool {ren : Nat → Nat} {n2 : Nat} {e e' : BE} (h : e.den ρ = e'.den ρ) : MC ρ ren n2 (.bool e) (.bool e') := fun _ _ _ _ hv => by
  rw [hv.bool_inv, h]; exact .bool _
theorem MC.ptr {ren : Nat → Nat} {n2 b b0 o : Nat} (h : ren b = b0) (hb : b < n2) : MC ρ ren n2 (.ptr (some (b0, o))) (.ptr (some (b, o))) := fun σ σ2 v hs hv => by
  subst h
  cases hv with
  | ptr h => exact .ptr (by rw [hs b hb]; exact h)
theorem MC.slc {ren : Nat → Nat} {n2 b b0 o n c : Nat} (h : ren b = b0) (hb : b < n2) : MC ρ ren n2 (.slc (some (b0, o)) n c) (.slc (some (b, o)) n c) := fun σ σ2 v hs hv => by
  subst h
  cases hv with
  | slc h hc hsz => exact .slc (by rw [hs b hb]; exact h) hc hsz
theorem MC.slx {ren : Nat → Nat} {n2 b b0 z o n c : Nat} (h : ren b = b0) (hb : b < n2) : MC ρ ren n2 (.slx b0 z o n c) (.slx b z o n c) := fun σ σ2 v hs hv => .slx (MC.slc h hb σ σ2 v hs hv.slx_inv)
theorem MC.sla {ren : Nat → Nat} {n2 b b0 z o n : Nat} (h : ren b = b0) (hb : b < n2) : MC ρ ren n2 (.sla b0 z o n) (.sla b z o n) := fun σ σ2 v hs hv => by
  subst h
  cases hv with
  | sla h hc => exact .sla (by rw [hs b hb]; exact h) hc
  | sla0 a c => exact .sla0 a c
/-- A slice of rows, read alone. -/
theorem VR.slx_sla {σ : Mp} {b z o n c : Nat} {v : Value} (hv : VR ρ σ (.slx b z o n c) v) (hn : n ≤ c) : VR ρ σ (.sla b z o n) v := by
  have hv := hv.slx_inv
  cases hv with
  | slc h hc hsz => exact .sla h (Nat.le_trans hn hc)
theorem MC.slxa {ren : Nat → Nat} {n2 b b0 z o n c : Nat} (h : ren b = b0) (hb : b < n2) (hn : n ≤ c) : MC ρ ren n2 (.slx b0 z o n c) (.sla b z o n) := fun σ σ2 v hs hv => MC.sla h hb σ σ2 v hs (hv.slx_sla hn)
/-- A slice of cells as one of rows. -/
theorem MC.slcx {ren : Nat → Nat} {n2 b b0 z n c : Nat} (h : ren b = b0) (hb : b < n2) : MC ρ ren n2 (.slc (some (b0, 0)) n c) (.slx b z 0 n c) := fun σ σ2 v hs hv => .slx (by rw [Nat.zero_mul]; exact MC.slc h hb σ σ2 v hs hv)
theorem MC.map {ren : Nat → Nat} {n2 b b0 : Nat} (h : ren b = b0) (hb : b < n2) : MC ρ ren n2 (.map b0) (.map b) := fun σ σ2 v hs hv => by
  subst h
  cases hv with
  | map h => exact .map (by rw [hs b hb]; exact h)
inductive MCl (ρ : Env) (ren : Nat → Nat) (n2 : Nat) : List CV → List CV → Prop
  | nil : MCl ρ ren n2 [] []
  | cons {a b : CV} {l m : List CV} (h : MC ρ ren n2 a b) (t : MCl ρ ren n2 l m) : MCl ρ ren n2 (a :: l) (b :: m)
theorem MCl.run {ren : Nat → Nat} {n2 : Nat} {l m : List CV} (h : MCl ρ ren n2 l m) (σ σ2 : Mp) (us : List Value) (hs : ∀ b, b < n2 → σ2 b = σ (ren b)) (hv : VRl ρ σ l us) : VRl ρ σ2 m us := by
  induction h generalizing us with
  | nil => cases hv; exact .nil
  | cons h t ih => cases hv with
    | cons h1 h2 => exact .cons (h σ σ2 _ hs h1) (ih _ h2)
theorem MC.agg {ren : Nat → Nat} {n2 : Nat} {l m : List CV} (h : MCl ρ ren n2 l m) : MC ρ ren n2 (.agg l) (.agg m) := fun σ σ2 v hs hv => by
  obtain ⟨cs, rfl, h1⟩ := hv.agg_inv
  exact .agg (h.run σ σ2 _ hs h1)
theorem MC.tup {ren : Nat → Nat} {n2 : Nat} {l m : List CV} (h : MCl ρ ren n2 l m) : MC ρ ren n2 (.tup l) (.tup m) := fun σ σ2 v hs hv => by
  obtain ⟨cs, rfl, h1⟩ := hv.tup_inv
  exact .tup (h.run σ σ2 _ hs h1)
theorem MC.fn {ren : Nat → Nat} {n2 : Nat} {f : Fn} {l m l' m' : List CV} (h : MCl ρ ren n2 l m) (h' : MCl ρ ren n2 l' m') : MC ρ ren n2 (.fn f l l') (.fn f m m') := fun σ σ2 v hs hv => by
  obtain ⟨x, y, rfl, h1, h2⟩ := hv.fn_inv
  exact .fn f (h.run σ σ2 _ hs h1) (h'.run σ σ2 _ hs h2)
theorem MCl.plains {ren : Nat → Nat} {n2 : Nat} : ∀ {l : List CV}, CV.plains l = true → MCl ρ ren n2 l l
  | [], _ => .nil
  | c :: l, h => by
    simp only [CV.plains, Bool.and_eq_true] at h
    exact .cons (.plain h.1) (MCl.plains h.2)
theorem MB.lit {ren : Nat → Nat} {n2 : Nat} {l m : List CV} {e : Nat} {x : Option BX} {v : Bool} (h : MCl ρ ren n2 l m) : MB ρ ren n2 ⟨.lit l, e, v, x⟩ ⟨.lit m, e, v, none⟩ :=
  ⟨rfl, rfl, rfl, fun h => h, fun σ σ2 us hs hv => h.run σ σ2 us hs hv⟩
/-- Rows that are the same, row by row. -/
theorem MB.rows {ren : Nat → Nat} {n2 n m z z' : Nat} {row row' : Nat → List CV} {h h'} {e : Nat} {x : Option BX} {v : Bool} (hn : n = m) (hr : ∀ j, j < n → MCl ρ ren n2 (row j) (row' j)) : MB ρ ren n2 ⟨.rows n z row h, e, v, x⟩ ⟨.rows m z' row' h', e, v, none⟩ := by
  subst hn
  refine ⟨rfl, rfl, rfl, fun h => h, fun σ σ2 us hs hv => ?_⟩
  have key : ∀ k, k ≤ n → ∀ us, VRl ρ σ (flatR row k) us → VRl ρ σ2 (flatR row' k) us := by
    intro k
    induction k with
    | zero => intro _ us hv; cases hv; exact .nil
    | succ k ih =>
      intro hk us hv
      rw [flatR] at hv
      obtain ⟨x, y, rfl, h1, h2⟩ := hv.cut
      rw [flatR]
      exact (ih (by omega) x h1).append ((hr k (by omega)).run σ σ2 y hs h2)
  exact key n (Nat.le_refl _) us hv
/-- No cells as no rows. -/
theorem MB.zero {ren : Nat → Nat} {n2 z : Nat} {row' : Nat → List CV} {h'} {e : Nat} {x : Option BX} {v : Bool} : MB ρ ren n2 ⟨.lit [], e, v, x⟩ ⟨.rows 0 z row' h', e, v, none⟩ :=
  ⟨rfl, rfl, rfl, fun h => h, fun σ σ2 us hs hv => by cases hv; exact .nil⟩
/-- Points by lists. -/
theorem Mat.of {ren : Nat → Nat} {base : Nat} {T : Tr CV} {h : Tr Blk} {n n2 : Nat} {Tl : List (Nat × CV)} {hl : List (Nat × Blk)} (hbs : X.base = base) (hle : base ≤ n2) (hfix : ∀ b, b < base → ren b = b)
    (hrng : ∀ b, base ≤ b → b < n2 → base ≤ ren b ∧ ren b < n) (hinj : ∀ b b', b < n2 → b' < n2 → ren b = ren b' → b = b')
    (hT : ∀ x ∈ Tl, MC ρ ren n2 (rd T x.1) x.2) (hold : ∀ b, b < base → b ∉ X.W → (mkH hl).get b = h.get b)
    (hB : ∀ x ∈ hl, (x.1 ∈ X.W ∨ base ≤ x.1) → ∃ k0, h.get (ren x.1) = some k0 ∧ MB ρ ren n2 k0 x.2) : Mat ρ X ren ⟨T, h, n⟩ (mkP Tl hl n2) := by
  subst hbs
  refine ⟨hle, hfix, hrng, hinj, fun t => ?_, hold, fun b k hb hk => ?_⟩
  · show MC ρ ren n2 (rd T t) (rd (mkT Tl) t)
    rw [rd_mkT]
    split
    · rename_i x hx
      have h1 := List.find?_some hx
      have h2 := List.mem_of_find?_eq_some hx
      have := hT x h2
      simp only [beq_iff_eq] at h1
      rwa [h1] at this
    · exact .any
  · have hk : (mkH hl).get b = some k := hk
    rw [get_mkH] at hk
    obtain ⟨x, hx, rfl⟩ := Option.map_eq_some_iff.1 hk
    have h1 := List.find?_some hx
    have h2 := List.mem_of_find?_eq_some hx
    simp only [beq_iff_eq] at h1
    subst h1
    obtain ⟨k0, q1, q2⟩ := hB x h2 (hb.imp id (fun h => h.1))
    exact ⟨k0, q1, .inl q2⟩
theorem hp_nil : ∀ q ∈ ([] : List PC), q.holds ρ := fun q h => by cases h
theorem hp_cons {b v : Bool} {l : List PC} (h : b = v) (t : ∀ q ∈ l, q.holds ρ) : ∀ q ∈ (.b (.x b) v :: l), q.holds ρ := fun q hq => by
  rcases List.mem_cons.1 hq with rfl | hq
  · exact h
  · exact t q hq
mutual
/-- All blocks that a value names are below a number. -/
def CV.lts (n : Nat) : CV → Bool
  | .ptr (some (b, _)) | .slc (some (b, _)) _ _ | .slx b _ _ _ _ | .sla b _ _ _ | .ptx b _ _ _ | .yld b | .map b => Nat.blt b n
  | .agg l | .tup l => CV.ltsl n l
  | .slr b _ N _ => Nat.ble (b + N) n
  | .fn _ l m => CV.ltsl n l && CV.ltsl n m
  | _ => true
def CV.ltsl (n : Nat) : List CV → Bool
  | [] => true
  | c :: l => c.lts n && CV.ltsl n l
end
theorem blt_lt {b n : Nat} (h : Nat.blt b n = true) : b < n := Nat.lt_of_succ_le (Nat.le_of_ble_eq_true h)
mutual
theorem VR.lts {σ σ2 : Mp} {n : Nat} (hs : ∀ b, b < n → σ2 b = σ b) {c : CV} {v : Value} : VR ρ σ c v → c.lts n = true → VR ρ σ2 c v
  | .bool b, _ => .bool b
  | .int k e, _ => .int k e
  | .raw v, _ => .raw v
  | .ptr0, _ => .ptr0
  | .ptr h1, h => .ptr (by simp only [CV.lts] at h; rw [hs _ (blt_lt h)]; exact h1)
  | .slc0, _ => .slc0
  | .slc h1 h2 h3, h => .slc (by simp only [CV.lts] at h; rw [hs _ (blt_lt h)]; exact h1) h2 h3
  | .slx h1, h => .slx (VR.lts hs h1 (by simpa only [CV.lts] using h))
  | .sla h1 hc, h => .sla (by simp only [CV.lts] at h; rw [hs _ (blt_lt h)]; exact h1) hc
  | .sla0 a c, _ => .sla0 a c
  | .sln a c h, _ => .sln a c h
  | .slr a c h hr, hn => .slr a c h fun i h1 h2 => let ⟨l, o, q1, q2, q3⟩ := hr i h1 h2; ⟨l, o, q1, q2, by rw [hs _ (by simp only [CV.lts] at hn; have := Nat.le_of_ble_eq_true hn; omega)]; exact q3⟩
  | .ptx h1, h => .ptx (VR.lts hs h1 (by simpa only [CV.lts] using h))
  | .junk h, _ => .junk h
  | .any v, _ => .any v
  | .emp a c, _ => .emp a c
  | .fn f ha hb, h => by
    simp only [CV.lts, Bool.and_eq_true] at h
    exact .fn f (VRl.lts hs ha h.1) (VRl.lts hs hb h.2)
  | .agg hl, h => .agg (VRl.lts hs hl (by simpa only [CV.lts] using h))
  | .tup hl, h => .tup (VRl.lts hs hl (by simpa only [CV.lts] using h))
  | .yld h1, h => .yld (by simp only [CV.lts] at h; rw [hs _ (blt_lt h)]; exact h1)
  | .map h1, h => .map (by simp only [CV.lts] at h; rw [hs _ (blt_lt h)]; exact h1)
theorem VRl.lts {σ σ2 : Mp} {n : Nat} (hs : ∀ b, b < n → σ2 b = σ b) {l : List CV} {m : List Value} : VRl ρ σ l m → CV.ltsl n l = true → VRl ρ σ2 l m
  | .nil, _ => .nil
  | .cons h t, hp => by
    simp only [CV.ltsl, Bool.and_eq_true] at hp
    exact .cons (VR.lts hs h hp.1) (VRl.lts hs t hp.2)
end
theorem MC.idc {n2 : Nat} {c : CV} (h : c.lts n2 = true) : MC ρ id n2 c c := fun σ σ2 v hs hv => hv.lts hs h
theorem MCl.idl {n2 : Nat} : ∀ {l : List CV}, CV.ltsl n2 l = true → MCl ρ id n2 l l
  | [], _ => .nil
  | c :: l, h => by
    simp only [CV.ltsl, Bool.and_eq_true] at h
    exact .cons (.idc h.1) (MCl.idl h.2)
theorem MB.idl {n2 : Nat} {l : List CV} {e : Nat} {x : Option BX} {v : Bool} (h : CV.ltsl n2 l = true) : MB ρ id n2 ⟨.lit l, e, v, x⟩ ⟨.lit l, e, v, none⟩ := .lit (.idl h)
theorem MB.ida {n2 n z : Nat} {row : Nat → List CV} {h} {e : Nat} {x : Option BX} {v : Bool} (hr : ∀ j, CV.ltsl n2 (row j) = true) : MB ρ id n2 ⟨.arg n z row h, e, v, x⟩ ⟨.arg n z row h, e, v, none⟩ := by
  obtain ⟨_, _, _, _, h5⟩ := MB.rows (ρ := ρ) (ren := id) (n2 := n2) (z := z) (z' := z) (row := row) (row' := row) (h := h) (h' := h) (e := e) (x := x) (v := v) (n := n) (m := n) rfl fun j _ => MCl.idl (hr j)
  exact ⟨rfl, rfl, rfl, fun h => h, h5⟩
theorem MB.idr {n2 n z : Nat} {row : Nat → List CV} {h} {e : Nat} {x : Option BX} {v : Bool} (hr : ∀ j, CV.ltsl n2 (row j) = true) : MB ρ id n2 ⟨.rows n z row h, e, v, x⟩ ⟨.rows n z row h, e, v, none⟩ := .rows rfl fun j _ => .idl (hr j)
theorem fa_nil {α : Type} {p : α → Prop} : ∀ x ∈ ([] : List α), p x := fun x h => by cases h
theorem fa_cons {α : Type} {p : α → Prop} {a : α} {l : List α} (h : p a) (t : ∀ x ∈ l, p x) : ∀ x ∈ a :: l, p x := fun x hx => by
  rcases List.mem_cons.1 hx with rfl | hx
  · exact h
  · exact t x hx
/-- What is not wanted is forgotten; nothing is named anew. -/
theorem Mat.ofId {base : Nat} {T : Tr CV} {h : Tr Blk} {n n2 : Nat} {Tl : List (Nat × CV)} {hl : List (Nat × Blk)} (hbs : X.base = base) (hle : base ≤ n2) (hn : n2 ≤ n)
    (hT : ∀ x ∈ Tl, MC ρ id n2 (rd T x.1) x.2) (hold : ∀ b, b < base → b ∉ X.W → (mkH hl).get b = h.get b)
    (hB : ∀ x ∈ hl, (x.1 ∈ X.W ∨ base ≤ x.1) → ∃ k0, h.get x.1 = some k0 ∧ MB ρ id n2 k0 x.2) : Mat ρ X id ⟨T, h, n⟩ (mkP Tl hl n2) :=
  .of hbs hle (fun _ _ => rfl) (fun b h1 h2 => ⟨h1, Nat.lt_of_lt_of_le h2 hn⟩) (fun _ _ _ _ h => h) hT hold hB
/-- All that is new is forgotten. -/
theorem Mat.none {base : Nat} {T : Tr CV} {h h0 : Tr Blk} {n : Nat} (hbs : X.base = base) (hn : base ≤ n) (hW : X.W = []) (hold : ∀ b, b < base → h0.get b = h.get b) : Mat ρ X id ⟨T, h, n⟩ ⟨.nil, h0, base⟩ := by
  subst hbs
  refine ⟨Nat.le_refl _, fun _ _ => rfl, fun b h1 h2 => ⟨h1, Nat.lt_of_lt_of_le h2 hn⟩, fun _ _ _ _ h => h, fun t => ?_, fun b hb _ => hold b hb, fun b k hb hk => ?_⟩
  · have : rd (.nil : Tr CV) t = .any := by simp [rd, Tr.get_nil]
    rw [this]; exact .any
  · rcases hb with hb | hb
    · rw [hW] at hb; cases hb
    · have : X.base ≤ b ∧ b < X.base := hb; omega
/-! ## Numbers -/
theorem run_add {a b : Int} (h1 : -9223372036854775808 ≤ a + b) (h2 : a + b ≤ 9223372036854775807) : Ar.run .add .i64 a b = a + b := wrap_id h1 h2
theorem run_sub {a b : Int} (h1 : -9223372036854775808 ≤ a - b) (h2 : a - b ≤ 9223372036854775807) : Ar.run .sub .i64 a b = a - b := wrap_id h1 h2
theorem run_mul {a b : Int} (h1 : -9223372036854775808 ≤ a * b) (h2 : a * b ≤ 9223372036854775807) : Ar.run .mul .i64 a b = a * b := wrap_id h1 h2
end
end Go.Proofs.Ytjdldcmcjaaibaa.Cx
