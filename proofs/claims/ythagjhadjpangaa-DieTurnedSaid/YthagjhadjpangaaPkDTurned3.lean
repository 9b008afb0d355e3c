/- THE EVALUATOR's WORD HOLDS: of statements and of calls, by its fuel. -/
import Derived.Laws.StructEq
import Derived.Sort.LoopGhostIn
import Derived.Test.YthagjhadjpangaaProg
import Derived.WalkKit
import Derived.Test.YthagjhadjpangaaRows
import Derived.Test.YthagjhadjpangaaChecked
import Derived.ProofKit
import Derived.OpenShut
import Derived.ChangeOld
import Derived.Below
import Derived.Deep.Fields
import Derived.Test.YthagjhadjpangaaPkDTurned2

namespace Go.Proofs.Ythagjhadjpangaa.Cx
set_option linter.unusedSimpArgs false
set_option linter.unusedVariables false
open Go Go.RowKit
/-- The functions' regions have the orders of temporaries that their edges say. -/
structure CtxOk3 (P : Program) (C : Ctx) : Prop extends CtxOk2 P C where
  regs : ∀ f fn c, C.fn f = some fn → fn.body = some c → regsOk c = true
/-- What the evaluator yields at a fuel is right. -/
structure EvOk (P : Program) (C : Ctx) (ρ : Env) (m : Nat) : Prop where
  call : ∀ base f args s c s' R W, eval C m base (.call f args) s = some ⟨.val c, s', R, W⟩ → CallOk P C ρ f args s c s' R W
  code : ∀ base c nt T s e T' s' R W, eval C m base (.code c nt T) s = some ⟨.code e T', s', R, W⟩ → base ≤ s.next → CodeOk P ρ m base c nt T s e T' s' R W
section
variable {P : Program} {C : Ctx} {ρ : Env} {m base nt : Nat} {T T' : Tr CV} {s s' : St} {R W : List Nat} {e : Ex}
/-- A statement that does nothing but leave in some way. -/
theorem leave_ok {c : Code} (hc : ∀ (ro : Option Nat) (n : Nat) (Q : Exit → Act → World → Prop) (a : Act) (w : World), Q e.conv a w → wpL m ro n P c Q a w) (hb : base ≤ s.next) : CodeOk P ρ m base c nt T s e T s [] [] :=
  ⟨FrmB.refl _ _ _, fun b h => by simp at h, fun _ Wt ro n Q σ cur w a0 a _ _ hp _ hH hA hN hF hQ => hc ro n Q a w (hQ a w (PostR.toC ⟨σ, Inv.start hH (fun b hb' => hA b (.inr hb')), hF⟩))⟩
theorem decide_heap {s1 : St} {x : BE} {t : Bool} (h : s.decide x = some (t, s1)) : s1.next = s.next ∧ s1.heap = s.heap := by
  obtain ⟨h1, h2, _⟩ := decide_parts (ρ := ⟨fun _ => 0, fun _ => false⟩) h
  exact ⟨h1, h2⟩
/-- A statement from a memory that only its facts tell from another one. -/
theorem CodeOk.from {c : Code} {s1 : St} (h : CodeOk P ρ m base c nt T s1 e T' s' R W) (h1 : s1.next = s.next) (h2 : s1.heap = s.heap) (h3 : ∃ l, s1.pc = l ++ s.pc) :
    FrmB base s s' W ∧ (regsOk c = true → ∀ (Wt : List Nat) (ro : Option Nat) (n : Nat) (Q : Exit → Act → World → Prop) (σ : Mp) (cur : Cur) (w : World) (a0 a : Act), (∀ b ∈ W, b ∈ Wt) → (∀ b ∈ Wt, b < base) → (∀ p ∈ s'.pc, p.holds ρ) → (∀ l, ro = some l → ∃ r, w.heap[l]? = some (.loop r)) → HR ρ σ cur w → (∀ b, b ∈ R ∨ b ∈ Wt ∨ (base ≤ b ∧ b < s.next) → cur b = s.heap.get b) →
    (∀ b, s.next ≤ b → b < s'.next → σ b = none) → FRn ρ σ nt T a0 a → (∀ a' w', PostC ρ σ cur base s w nt T' s' Wt a0 a' w' → Q e.conv a' w') → wpL m ro n P c Q a w) := by
  refine ⟨⟨by rw [← h1]; exact h.frm.next, fun b hb hn => by rw [h.frm.get b hb hn, h2], ?_⟩, ?_⟩
  · obtain ⟨l, hl⟩ := h3
    obtain ⟨l2, hl2⟩ := h.frm.pc
    exact ⟨l2 ++ l, by rw [hl2, hl, List.append_assoc]⟩
  · intro hr Wt ro n Q σ cur w a0 a hW hWl hp hro hH hA hN hF hQ
    refine h.run hr Wt ro n Q σ cur w a0 a hW hWl hp hro hH (fun b hb => by rw [h2]; rw [h1] at hb; exact hA b hb) (fun b hb => by rw [h1] at hb; exact hN b hb) hF ?_
    rintro a' w' ⟨σ', hI, hF'⟩
    rw [h1] at hI
    exact hQ a' w' ⟨σ', hI, hF'⟩
theorem seq_ok {c d : Code} {s1 : St} {T1 : Tr CV} {R1 W1 R2 W2 : List Nat} {wp2 : Option Nat → Nat → (Exit → Act → World → Prop) → Act → World → Prop} (hb : base ≤ s.next)
    (h1 : CodeOk P ρ m base c nt T s .normal T1 s1 R1 W1) (h2 : CodeOk P ρ m base d nt T1 s1 e T' s' R2 W2) :
    FrmB base s s' (join base W1 W2) ∧ (∀ b, b ∈ join base R1 R2 ∨ b ∈ join base W1 W2 → b < base) ∧
    (regsOk c = true → regsOk d = true → ∀ (Wt : List Nat) (ro : Option Nat) (n : Nat) (Q : Exit → Act → World → Prop) (σ : Mp) (cur : Cur) (w : World) (a0 a : Act), (∀ b ∈ join base W1 W2, b ∈ Wt) → (∀ b ∈ Wt, b < base) → (∀ p ∈ s'.pc, p.holds ρ) → (∀ l, ro = some l → ∃ r, w.heap[l]? = some (.loop r)) → HR ρ σ cur w → (∀ b, b ∈ join base R1 R2 ∨ b ∈ Wt ∨ (base ≤ b ∧ b < s.next) → cur b = s.heap.get b) →
    (∀ b, s.next ≤ b → b < s'.next → σ b = none) → FRn ρ σ nt T a0 a → (∀ a' w', PostC ρ σ cur base s w nt T' s' Wt a0 a' w' → Q e.conv a' w') →
    ∀ Q1 : Exit → Act → World → Prop, (∀ a1 w1, wpL m ro n P d Q a1 w1 → Q1 .normal a1 w1) → wpL m ro n P c Q1 a w) := by
  have f1 := h1.frm
  have f2 := h2.frm
  have hW1 : ∀ b ∈ W1, b ∈ join base W1 W2 := fun b hb' => join_mem.2 (.inl ⟨hb', h1.lt b (.inr hb')⟩)
  have hW2 : ∀ b ∈ W2, b ∈ join base W1 W2 := fun b hb' => join_mem.2 (.inr hb')
  refine ⟨f1.trans f2 hW1 hW2, fun b hb' => ?_, ?_⟩
  · rcases hb' with hb' | hb'
    · rcases join_mem.1 hb' with h | h
      · exact h.2
      · exact h2.lt b (.inl h)
    · rcases join_mem.1 hb' with h | h
      · exact h.2
      · exact h2.lt b (.inr h)
  · intro hrc hrd Wt ro n Q σ cur w a0 a hW hWl hp hro hH hA hN hF hQ Q1 hQ1
    have n1 := f1.next
    have n2 := f2.next
    have hp1 : ∀ p ∈ s1.pc, p.holds ρ := fun p hp' => hp p (by obtain ⟨l, hl⟩ := f2.pc; rw [hl]; simp [hp'])
    refine h1.run hrc Wt ro n Q1 σ cur w a0 a (fun b hb' => hW b (hW1 b hb')) hWl hp1 hro hH (fun b hb' => hA b ?_) (fun b hb1 hb2 => hN b hb1 (by omega)) hF ?_
    · rcases hb' with hb' | hb'
      · exact .inl (join_mem.2 (.inl ⟨hb', h1.lt b (.inl hb')⟩))
      · exact .inr hb'
    · rintro a1 w1 ⟨σ1, hI, hF1⟩
      refine hQ1 a1 w1 (h2.run hrd Wt ro n Q σ1 (upd cur base s1.next s1.heap Wt) w1 a1 a1 (fun b hb' => hW b (hW2 b hb')) hWl hp (fun l hl => (hro l hl).elim fun r hr => hI.K.loops l r hr) hI.H (fun b hb' => ?_) (fun b hb1 hb2 => ?_) hF1.self ?_)
      · show (if b ∈ Wt ∨ (base ≤ b ∧ b < s1.next) then _ else cur b) = _
        by_cases hc : b ∈ Wt ∨ (base ≤ b ∧ b < s1.next)
        · rw [if_pos hc]
        · rw [if_neg hc]
          rcases hb' with hb' | hb'
          · rw [hA b (.inl (join_mem.2 (.inr hb'))), f1.get b (fun h => hc (.inl (hW b (hW1 b h)))) (fun h => hc (.inr h))]
          · exact absurd hb' hc
      · rw [hI.ext b (.inr hb1)]; exact hN b (by omega) hb2
      · rintro a' w' ⟨σ2, hI2, hF2⟩
        refine hQ a' w' ⟨σ2, hI.step n1 (Nat.le_refl _) (by omega) (fun b hb' => .inl hb') (f2.more (fun b hb' => hW b (hW2 b hb'))) hI2.ext hI2.H hI2.K hI2.F, hF2.1, hF2.2.1, hF1.2.2.trans hI.K.size (fun k hk => hI2.K.defd k hk) hF2.2.2⟩
/-! ## A range over a function -/
theorem enter_inner {w : World} {l0 : Nat} {r0 : Loop} (h : w.heap[l0]? = some (.loop r0)) (fn : FuncId) (tmps : Array Value) (ps : Array Tmp) (assign body : Code) :
    (Instr.enterLoop fn tmps ps assign body (some l0)).run P w = .ok (w.heap.size, []) (w.alloc (.loop { state := .ready, pending := none, fn, tmps, params := ps, assign, body, defers := r0.defers })) := by
  unfold Instr.enterLoop
  simp only [Sem.run_bind, run_getLoop h, run_newObj_alloc, Result.andThen, Sem.run_pure]
theorem rangeE_parts {self : Nat → Task → St → Option Out} {f : Operand} {ps : Array Tmp} {assign body : Code} (h : rangeE base self f ps assign body nt T s = some ⟨.code e T', s', R, W⟩) : ∃ (g : Nat) (first captured : List CV) (c : CV) (s2 : St) (R1 W1 : List Nat) (r5 : LR),
    ev T f = some (.fn (.func g) first captured) ∧ self (s.next + 1) (.call g (first ++ [.yld s.next] ++ captured)) (s.newX (.loop ⟨T, nt, ps, assign, body, .ready, none⟩)) = some ⟨.val c, s2, R1, W1⟩ ∧
    s2.getX s.next = some (.loop r5) ∧ r5.st ≠ .busy ∧ Ex.of r5.pend = some e ∧ T' = T ∧ s' = s2.setX s.next (.loop { r5 with st := .exhausted }) ∧ R = join base R1 [] ∧ W = join base W1 [] := by
  unfold rangeE at h
  split at h
  · rename_i g first captured hf
    split at h
    · rename_i c s2 R1 W1 h1
      split at h
      · rename_i T5 nt5 ps5 as5 bd5 st5 pd5 hx
        cases he : Ex.of pd5 with
        | none => rw [he] at h; cases st5 <;> cases h
        | some e' =>
          rw [he] at h
          have hst : st5 ≠ .busy := fun e1 => by rw [e1] at h; cases h
          have h' : some (⟨.code e' T, s2.setX s.next (.loop ⟨T5, nt5, ps5, as5, bd5, .exhausted, pd5⟩), join base R1 [], join base W1 []⟩ : Out) = some ⟨.code e T', s', R, W⟩ := by
            cases st5
            · exact h
            · exact absurd rfl hst
            · exact h
            · exact h
          cases h'
          exact ⟨g, first, captured, c, s2, R1, W1, ⟨T5, nt5, ps5, as5, bd5, st5, pd5⟩, hf, h1, hx, hst, he, rfl, rfl, rfl, rfl⟩
      · cases h
    · cases h
  · cases h
theorem range_ok {f : Operand} {ps : Array Tmp} {assign body : Code} (hC : CtxOk2 P C) (ih : ∀ base f args s c s' R W, eval C m base (.call f args) s = some ⟨.val c, s', R, W⟩ → CallOk P C ρ f args s c s' R W) (hb : base ≤ s.next) (h : rangeE base (eval C m) f ps assign body nt T s = some ⟨.code e T', s', R, W⟩) :
    CodeOk P ρ (m + 1) base (.rangeFunc f ps assign body) nt T s e T' s' R W := by
  obtain ⟨g, first, captured, c, s2, R1, W1, r5, hf, h1, hx5, hst, hex, rfl, rfl, rfl, rfl⟩ := rangeE_parts h
  have K := ih _ _ _ _ _ _ _ _ h1
  generalize hs1 : s.newX (.loop ⟨T', nt, ps, assign, body, .ready, none⟩) = s1 at *
  have n1 : s1.next = s.next + 1 := by rw [← hs1]; rfl
  have n2 : s1.next ≤ s2.next := K.frm.next
  have f01 : Frm s s1 [] := by rw [← hs1]; exact .newX _ _ _
  have hW1 : ∀ b ∈ W1, b ∈ join base W1 [] ∨ (base ≤ b ∧ b < s1.next) := fun b hb' => by
    by_cases hlt : b < base
    · exact .inl (join_mem.2 (.inl ⟨hb', hlt⟩))
    · exact .inr ⟨by omega, K.lt.2 b hb'⟩
  have f12 : FrmB base s s2 (join base W1 []) := by
    obtain ⟨L1, p1⟩ := f01.pc
    obtain ⟨L2, p2⟩ := K.frm.pc
    refine ⟨by omega, fun b hb1 hb2 => ?_, L2 ++ L1, by rw [p2, p1, List.append_assoc]⟩
    rw [K.frm.get b (fun hw => (hW1 b hw).elim hb1 (fun h => hb2 ⟨h.1, by omega⟩)) (fun h => hb2 ⟨by omega, h.2⟩), f01.get b (by simp) (fun h => hb2 ⟨by omega, by omega⟩)]
  refine ⟨⟨f12.next, fun b hb1 hb2 => ?_, f12.pc⟩, fun b hb' => ?_, ?_⟩
  · have hb2' : ¬ (base ≤ b ∧ b < s2.next) := hb2
    rw [setX_get, if_neg (fun e => hb2' ⟨by omega, by omega⟩)]
    exact f12.get b hb1 hb2
  · rcases hb' with hb' | hb' <;> rcases join_mem.1 hb' with h | h
    · exact h.2
    · cases h
    · exact h.2
    · cases h
  · intro hr Wt ro n Q σ cur w a0 a hW hWl hp hro hH hA hN hF hQ
    have hrs : regsOk assign = true ∧ regsOk body = true := by simpa only [regsOk, Bool.and_eq_true] using hr
    have hp2 : ∀ p ∈ s2.pc, p.holds ρ := hp
    have hN2 : ∀ b, s.next ≤ b → b < s2.next → σ b = none := hN
    show (Code.rangeFunc f ps assign body).wpIn (fc ro) n P Q a w
    refine wpIn_rangeFunc (fun fn _ => ?_)
    -- the record is laid
    obtain ⟨wa, D, mark, hent, hIa, hmark⟩ : ∃ (wa : World) (D : Nat) (mark : List Deferred),
        (Instr.enterLoop fn a.tmps ps assign body ro).run P w = .ok (wa.heap.size, mark) (wa.alloc (.loop { state := .ready, pending := none, fn, tmps := a.tmps, params := ps, assign, body, defers := D })) ∧
        Inv ρ σ cur base Wt s.next w s σ wa ∧ Marks a0.defers w (mark ++ a.defers) wa := by
      have hI0 : Inv ρ σ cur base Wt s.next w s σ w := Inv.start hH (fun b hb' => hA b (.inr hb'))
      cases ro with
      | none =>
        refine ⟨w.alloc (.deferred (some [])), w.heap.size, [{ target := .collected w.heap.size, args := #[] }], ?_, ⟨hI0.ext, hI0.H.alloc _, .of_same rfl rfl rfl (by simp) fun k hk => alloc_get hk, hI0.F⟩, ?_⟩
        · rw [run_enterLoop_outer, World.size_alloc]
        · rw [hF.2.2]
          exact ⟨[w.heap.size], rfl, by simp, fun D hD => by obtain rfl := List.mem_singleton.1 hD; exact ⟨Nat.le_refl _, alloc_new _ _⟩⟩
      | some l0 =>
        obtain ⟨q0, hq0⟩ := hro l0 rfl
        refine ⟨w, q0.defers, [], enter_inner hq0 _ _ _ _ _, hI0, ?_⟩
        rw [hF.2.2]; exact .refl _ _ _
    have hσ : σ s.next = none := hN2 _ (Nat.le_refl _) (by omega)
    obtain ⟨x1, x2, x3, x4⟩ := newX_run (x := .loop ⟨T', nt, ps, assign, body, .ready, none⟩) (o := .loop { state := .ready, pending := none, fn, tmps := a.tmps, params := ps, assign, body, defers := D }) hIa.H hσ
      (.loop _ (alloc_new _ _) rfl rfl rfl rfl rfl hF.1 (fun t => (hF.2.1 t).mono (fun b l' hb => by
        show (if b = s.next then _ else σ b) = _
        rw [if_neg (fun h => by rw [h, hσ] at hb; cases hb)]; exact hb)) hrs.1 hrs.2)
    rw [hs1] at x1
    generalize hσ1 : (fun b => if b = s.next then some (⟨wa.heap.size, 0, 0, 0⟩ : Loc) else σ b) = σ1 at x1 x2 x3 x4
    have hσ1n : σ1 s.next = some ⟨wa.heap.size, 0, 0, 0⟩ := by rw [← hσ1]; exact if_pos rfl
    rw [← n1] at x1 x2 x4
    generalize hw1 : wa.alloc (.loop { state := .ready, pending := none, fn, tmps := a.tmps, params := ps, assign, body, defers := D }) = w1 at hent x1 x3 x4
    have hI1 : Inv ρ σ cur base Wt s.next w s1 σ1 w1 := hIa.step (Nat.le_refl _) hb (Nat.le_refl _) (fun b hb' => by cases hb') f01.toB x2 x1 x3 x4
    -- the call
    obtain ⟨x', y', hfv, hx, hy⟩ := (ev_run (σ := σ) (ρ := ρ) (a := a) (fun t _ => hF.2.1 t) hf).fn_inv
    obtain ⟨gfn, hgfn, hbody⟩ := K.fn
    have hle1 : σ.le σ1 := hI1.ext.le (fun b h1 h2 => hN2 b h1 (by omega))
    have hargs : VRl ρ σ1 (first ++ [.yld s.next] ++ captured) ((x' ++ #[Value.func (.yield wa.heap.size) #[] #[]]) ++ y').toList := by
      simp only [Array.toList_append]
      exact ((hx.mono hle1).append (.cons (.yld hσ1n) .nil)).append (hy.mono hle1)
    refine ⟨wa.heap.size, mark, w1, { target := .fn (.func g) y', args := x' ++ #[Value.func (.yield wa.heap.size) #[] #[]] }, w1, g, (x' ++ #[Value.func (.yield wa.heap.size) #[] #[]]) ++ y', w1, hent, ?_, (fun _ _ => trivial), ?_, (fun h => by cases h), callsIn_fc ((K.run (n - 1) σ1 _ w1 _ hp2 hargs hI1.H (fun b hb' => ?_) (fun b h1 h2 => ?_)).mono ?_)⟩
    · simp only [resolve, Deferred.ofValue, hfv, pure_bind, Sem.run_pure]
      simp [Act.eval]
    · simp only [invoke, callFunc_run hC hgfn hbody]
    · refine upd_get ⟨f01.next, fun b h1 h2 => f01.get b (by simp) (fun h => h2 ⟨by omega, h.2⟩), f01.pc⟩ (hb'.elim (K.lt.1 b) (K.lt.2 b)) (fun h3 h4 => ?_)
      rcases hb' with hb' | hb'
      · exact hA b (.inl (join_mem.2 (.inl ⟨hb', h3⟩)))
      · exact absurd (hW b (join_mem.2 (.inl ⟨hb', h3⟩))) h4
    · rw [hI1.ext b (.inr h1)]; exact hN2 b (by omega) h2
    · rintro e' w3 ⟨v, rfl, σ2, y1, y2, y3, y4, y5⟩
      have hI2 : Inv ρ σ cur base Wt s.next w s2 σ2 w3 := hI1.step (by omega) (by omega) (Nat.le_refl _) (fun b hb' => (hW1 b hb').imp (hW b) (fun h => h)) K.frm.toB y1 y3 y4 y5
      have hl2 : σ2 s.next = some ⟨wa.heap.size, 0, 0, 0⟩ := by rw [y1 _ (.inl (by omega))]; exact hσ1n
      obtain ⟨q, hq, hqs, hqp, hI5, hK5⟩ := loop_set (r1 := { r5 with st := .exhausted }) (f := fun q => { q with state := .exhausted }) hI2 (by omega) (by omega) hx5 (.inr ⟨hb, by omega⟩) hl2 (fun q h1' h2' h3' => by
        have hpd : q.pending = r5.pend := by
          cases h1' with
          | loop q' hq' _ hp' => rw [h2'] at hq'; cases hq'; exact hp'
        have := h1'.loop_state (st := .exhausted) (pd := r5.pend) h2'
        rw [← hpd] at this
        rw [← hpd]
        exact this)
      refine ⟨q.pending, _, run_endLoop hq (by rw [hqs]; exact hst), ?_⟩
      have hpost : PostC ρ σ cur base s w nt T' (s2.setX s.next (.loop { r5 with st := .exhausted })) Wt a0 { a with defers := mark ++ a.defers } (w3.putObj wa.heap.size (.loop { q with state := .exhausted })) := by
        refine ⟨σ2, hI5, hF.1, fun t => (hF.2.1 t).mono (hI2.ext.le hN2), ?_⟩
        obtain ⟨l, e1, e2, e3⟩ := hmark
        refine ⟨l, e1, e2, fun D hD => ⟨(e3 D hD).1, hK5.defd D (y4.defd D (x3.defd D (e3 D hD).2))⟩⟩
      have := hQ _ _ hpost
      rw [← hqp] at hex
      revert hex this
      generalize w3.putObj wa.heap.size (.loop { q with state := .exhausted }) = w4
      intro hex this
      revert hex
      cases hpd : q.pending with
      | none => intro hex; cases hex; exact this
      | some cd =>
        intro hex
        cases cd <;> simp only [Ex.of] at hex <;> cases hex
        · exact wpIn_exit this
        · exact wpIn_ret this
theorem regs_seq {a b : Code} (h : regsOk (.seq a b) = true) : regsOk a = true ∧ regsOk b = true := by
  simpa only [regsOk, Bool.and_eq_true] using h
theorem regs_cond {x : Operand} {a b : Code} (h : regsOk (.cond x a b) = true) : regsOk a = true ∧ regsOk b = true := by
  simpa only [regsOk, Bool.and_eq_true] using h
theorem step_code (hC : CtxOk3 P C) (ih : EvOk P C ρ m) : ∀ base c nt T s e T' s' R W, eval C (m + 1) base (.code c nt T) s = some ⟨.code e T', s', R, W⟩ → base ≤ s.next → CodeOk P ρ (m + 1) base c nt T s e T' s' R W := by
  intro base c nt T s e T' s' R W h hb
  have hS : SelfOk P C ρ (fun t s => eval C m s.next t s) := ⟨fun f args s c s' R W h => ih.call _ _ _ _ _ _ _ _ h, fun c nt T s e T' s' R W h => ⟨m, ih.code _ _ _ _ _ _ _ _ _ _ h (Nat.le_refl _)⟩⟩
  have h' : stepE C base (eval C m) (.code c nt T) s = some ⟨.code e T', s', R, W⟩ := h
  simp only [stepE, codeE] at h'
  split at h'
  · cases h'; exact leave_ok (fun ro n Q a w hq => wpIn_skip hq) hb
  · cases h'; exact leave_ok (fun ro n Q a w hq => wpIn_label hq) hb
  · cases h'; exact leave_ok (fun ro n Q a w hq => wpIn_ret hq) hb
  · cases h'; exact leave_ok (fun ro n Q a w hq => wpIn_exit hq) hb
  · -- seq
    simp only [seqE] at h'
    rename_i x y
    split at h'
    · rename_i T1 s1 R1 W1 h1
      have k1 := ih.code _ _ _ _ _ _ _ _ _ _ h1 hb
      split at h'
      · rename_i e2 T2 s2 R2 W2 h2
        cases h'
        have k2 := ih.code _ _ _ _ _ _ _ _ _ _ h2 (Nat.le_trans hb k1.frm.next)
        obtain ⟨q1, q2, q3⟩ := seq_ok (wp2 := fun _ _ _ _ _ => True) hb k1 k2
        refine ⟨q1, q2, fun hr Wt ro n Q σ cur w a0 a hW hWl hp hro hH hA hN hF hQ => ?_⟩
        show (Code.seq x y).wpIn (fc ro) n P Q a w
        refine wpIn_seq (wpL.wpIn (q3 (regs_seq hr).1 (regs_seq hr).2 Wt ro n Q σ cur w a0 a hW hWl hp hro hH hA hN hF hQ (Exit.then (y.wpIn (fc ro) n P Q) Q) (fun a1 w1 h => h.wpIn)))
      · cases h'
    · rename_i r hne h1
      cases h'
      have k1 := ih.code _ _ _ _ _ _ _ _ _ _ h1 hb
      refine ⟨k1.frm, k1.lt, fun hr Wt ro n Q σ cur w a0 a hW hWl hp hro hH hA hN hF hQ => ?_⟩
      show (Code.seq x y).wpIn (fc ro) n P Q a w
      refine wpIn_seq (wpL.wpIn (k1.run (regs_seq hr).1 Wt ro n _ σ cur w a0 a hW hWl hp hro hH hA hN hF (fun a' w' hpost => ?_)))
      have := hQ a' w' hpost
      cases e with
      | normal => exact absurd rfl (hne T' s' R W)
      | exit i => exact this
      | ret => exact this
    · cases h'
  · -- cond
    simp only [condE] at h'
    rename_i x y z
    split at h'
    · rename_i ex hx
      split at h'
      · rename_i t s1 hd
        obtain ⟨d1, d2⟩ := decide_heap hd
        have d3 := (decide_parts (ρ := ρ) hd).2.2
        have k1 := ih.code _ _ _ _ _ _ _ _ _ _ h' (by rw [d1]; exact hb)
        obtain ⟨q1, q2⟩ := k1.from d1 d2 d3.1
        refine ⟨q1, k1.lt, fun hr Wt ro n Q σ cur w a0 a hW hWl hp hro hH hA hN hF hQ => ?_⟩
        show (Code.cond x y z).wpIn (fc ro) n P Q a w
        have hp1 : ∀ p ∈ s1.pc, p.holds ρ := fun p hp' => hp p (by obtain ⟨l, hl⟩ := k1.frm.pc; rw [hl]; simp [hp'])
        have hxv := (ev_run (σ := σ) (ρ := ρ) (a := a) (fun t _ => hF.2.1 t) hx).bool_inv
        rw [d3.2 hp1] at hxv
        refine wpIn_cond hxv ?_
        have := (q2 (by cases t; exact (regs_cond hr).2; exact (regs_cond hr).1) Wt ro n Q σ cur w a0 a hW hWl hp hro hH hA hN hF hQ).wpIn
        cases t <;> exact this
      · cases h'
    · cases h'
  · -- block
    simp only [blockE] at h'
    rename_i i b
    split at h'
    · rename_i j T1 s1 R1 W1 h1
      cases h'
      have k1 := ih.code _ _ _ _ _ _ _ _ _ _ h1 hb
      refine ⟨k1.frm, k1.lt, fun hr Wt ro n Q σ cur w a0 a hW hWl hp hro hH hA hN hF hQ => ?_⟩
      show (Code.block i b).wpIn (fc ro) n P Q a w
      refine wpIn_block (wpL.wpIn (k1.run hr Wt ro n _ σ cur w a0 a hW hWl hp hro hH hA hN hF (fun a' w' hpost => ?_)))
      have := hQ a' w' hpost
      show (if j = i then Q .normal a' w' else Q (.exit j) a' w')
      by_cases hj : j = i
      · rw [if_pos hj]
        have e1 : Nat.beq j i = true := by rw [hj]; exact Nat.beq_refl i
        rw [e1] at this; exact this
      · rw [if_neg hj]
        have e1 : Nat.beq j i = false := by
          cases hbq : Nat.beq j i with
          | false => rfl
          | true => exact absurd (Nat.eq_of_beq_eq_true hbq) hj
        rw [e1] at this; exact this
    · rename_i hne
      have k1 := ih.code _ _ _ _ _ _ _ _ _ _ h' hb
      refine ⟨k1.frm, k1.lt, fun hr Wt ro n Q σ cur w a0 a hW hWl hp hro hH hA hN hF hQ => ?_⟩
      show (Code.block i b).wpIn (fc ro) n P Q a w
      refine wpIn_block (wpL.wpIn (k1.run hr Wt ro n _ σ cur w a0 a hW hWl hp hro hH hA hN hF (fun a' w' hpost => ?_)))
      have := hQ a' w' hpost
      cases e with
      | normal => exact this
      | exit j => exact absurd h' (hne j T' s' R W)
      | ret => exact this
  · -- scope
    rename_i b
    have k1 := ih.code _ _ _ _ _ _ _ _ _ _ h' hb
    refine ⟨k1.frm, k1.lt, fun hr Wt ro n Q σ cur w a0 a hW hWl hp hro hH hA hN hF hQ => ?_⟩
    show (Code.scope b).wpIn (fc ro) n P Q a w
    refine wpIn_scope (wpL.wpIn (k1.run hr Wt ro n _ σ cur w a0 a hW hWl hp hro hH hA hN hF (fun a' w' hpost => ?_)))
    have := hQ a' w' hpost
    cases e <;> exact this
  · -- loop
    simp only [loopE] at h'
    rename_i b
    split at h'
    · rename_i T1 s1 R1 W1 h1
      have k1 := ih.code _ _ _ _ _ _ _ _ _ _ h1 hb
      split at h'
      · rename_i e2 T2 s2 R2 W2 h2
        cases h'
        have k2 := ih.code _ _ _ _ _ _ _ _ _ _ h2 (Nat.le_trans hb k1.frm.next)
        obtain ⟨q1, q2, q3⟩ := seq_ok (wp2 := fun _ _ _ _ _ => True) hb k1 k2
        refine ⟨q1, q2, fun hr Wt ro n Q σ cur w a0 a hW hWl hp hro hH hA hN hF hQ => ?_⟩
        show Code.roundsIn (fc ro) n P b Q (m + 1) a w
        exact (q3 hr hr Wt ro n Q σ cur w a0 a hW hWl hp hro hH hA hN hF hQ (Exit.then (Code.roundsIn (fc ro) n P b Q m) Q) (fun a1 w1 h => h)).wpIn
      · cases h'
    · rename_i hne
      have k1 := ih.code _ _ _ _ _ _ _ _ _ _ h' hb
      refine ⟨k1.frm, k1.lt, fun hr Wt ro n Q σ cur w a0 a hW hWl hp hro hH hA hN hF hQ => ?_⟩
      show Code.roundsIn (fc ro) n P b Q (m + 1) a w
      refine wpL.wpIn (m := m) (k1.run hr Wt ro n (Exit.then (Code.roundsIn (fc ro) n P b Q m) Q) σ cur w a0 a hW hWl hp hro hH hA hN hF (fun a' w' hpost => ?_))
      have := hQ a' w' hpost
      cases e with
      | normal => exact absurd h' (hne T' s' R W)
      | exit j => exact this
      | ret => exact this
  · -- region
    simp only [regionE] at h'
    rename_i rid ops draw
    split at h'
    · cases h'
    · rename_i T1 s1 ms h1
      cases hd : (!draw || quietB s.next ms || drawOk 0 ms (preds ops.toList [])) with
      | false => rw [hd, cond_false] at h'; cases h'
      | true =>
        rw [hd, cond_true] at h'
        cases h'
        exact region_ok hC.toCtxOk2 hS hb h1 hd
  · -- a range over a function
    exact range_ok hC.toCtxOk2 (fun base f args s c s' R W h => ih.call _ _ _ _ _ _ _ _ h) hb h'
  · cases h'
mutual
theorem VR.plain {σ τ : Mp} {c : CV} {v : Value} : VR ρ σ c v → c.plain = true → VR ρ τ c v
  | .bool b, _ => .bool b
  | .int k e, _ => .int k e
  | .raw v, _ => .raw v
  | .ptr0, _ => .ptr0
  | .ptr _, h => by simp [CV.plain] at h
  | .slc0, _ => .slc0
  | .slc _ _ _, h => by simp [CV.plain] at h
  | .slx _, h => by simp [CV.plain] at h
  | .sla _ _, h => by simp [CV.plain] at h
  | .sla0 _ _, h => by simp [CV.plain] at h
  | .sln a c h, _ => .sln a c h
  | .slr _ _ _ _, h => by simp [CV.plain] at h
  | .ptx _, h => by simp [CV.plain] at h
  | .junk h, _ => .junk h
  | .any v, _ => .any v
  | .emp a c, _ => .emp a c
  | .fn f ha hb, h => by simp [CV.plain] at h
  | .agg hl, h => .agg (VRl.plain hl (by simpa [CV.plain] using h))
  | .tup hl, h => .tup (VRl.plain hl (by simpa [CV.plain] using h))
  | .yld _, h => by simp [CV.plain] at h
  | .map _, h => by simp [CV.plain] at h
theorem VRl.plain {σ τ : Mp} {l : List CV} {m : List Value} : VRl ρ σ l m → CV.plains l = true → VRl ρ τ l m
  | .nil, _ => .nil
  | .cons h t, hp => by
    simp only [CV.plains, Bool.and_eq_true] at hp
    exact .cons (VR.plain h hp.1) (VRl.plain t hp.2)
end
mutual
/-- What is related by a map, and by a greater one to another value, is so by the smaller one. -/
theorem VR.back {σ τ : Mp} (hl : σ.le τ) {c : CV} {v u : Value} : VR ρ σ c v → VR ρ τ c u → VR ρ σ c u
  | .bool _, h => by cases h; exact .bool _
  | .int _ _, h => by cases h; exact .int _ _
  | .raw _, h => by cases h; exact .raw _
  | .ptr0, h => by cases h; exact .ptr0
  | .ptr h1, h => by
    cases h with
    | ptr h2 => rw [hl _ _ h1] at h2; obtain rfl := Option.some.inj h2; exact .ptr h1
  | .slc0, h => by cases h; exact .slc0
  | .slc h1 _ _, h => by
    cases h with
    | slc h2 h3 h4 => rw [hl _ _ h1] at h2; obtain rfl := Option.some.inj h2; exact .slc h1 h3 h4
  | .slx h1, h => by
    cases h with
    | slx h2 => exact .slx (VR.back hl h1 h2)
  | .sla h1 hc, h => by
    cases h with
    | sla h2 hc' => rw [hl _ _ h1] at h2; obtain rfl := Option.some.inj h2; exact .sla h1 hc'
    | sla0 a c => exact .sla0 a c
  | .sla0 _ _, h => by
    cases h with
    | sla h2 hc' => exact .sla0 _ _
    | sla0 a c => exact .sla0 a c
  | .sln _ _ _, h => by cases h; exact .sln _ _ (by assumption)
  | .slr _ _ g1 g2, h => by
    cases h with
    | slr a2 c2 k1 k2 =>
      refine .slr _ _ k1 fun i h1 h2 => ?_
      obtain ⟨l, o, q1, q2, q3⟩ := k2 i h1 h2
      obtain ⟨l', o', _, _, r3⟩ := g2 i (by rw [g1] at k1; omega) h2
      have q4 := hl _ _ r3
      rw [q3] at q4
      obtain rfl := Option.some.inj q4
      exact ⟨l, o, q1, q2, r3⟩
  | .ptx h1, h => by
    cases h with
    | ptx h2 => exact .ptx (VR.back hl h1 h2)
  | .junk _, h => by
    cases h with
    | junk h => exact .junk h
  | .any _, _ => .any _
  | .emp _ _, h => by cases h; exact .emp _ _
  | .fn f ha hb, h => by
    cases h with
    | fn _ ha' hb' => exact .fn f (VRl.back hl ha ha') (VRl.back hl hb hb')
  | .agg h1, h => by
    cases h with
    | agg h2 => exact .agg (VRl.back hl h1 h2)
  | .tup h1, h => by
    cases h with
    | tup h2 => exact .tup (VRl.back hl h1 h2)
  | .yld h1, h => by
    cases h with
    | yld h2 => rw [hl _ _ h1] at h2; obtain rfl := Option.some.inj h2; exact .yld h1
  | .map h1, h => by
    cases h with
    | map h2 => rw [hl _ _ h1] at h2; obtain rfl := Option.some.inj h2; exact .map h1
theorem VRl.back {σ τ : Mp} (hl : σ.le τ) {l : List CV} {m n : List Value} : VRl ρ σ l m → VRl ρ τ l n → VRl ρ σ l n
  | .nil, h => by cases h; exact .nil
  | .cons h t, h' => by
    cases h' with
    | cons h2 t2 => exact .cons (VR.back hl h h2) (VRl.back hl t t2)
end
theorem MRl.back {σ τ : Mp} (hl : σ.le τ) {l : List (CV × CV)} {m n : List MapEntry} (h1 : MRl ρ σ l m) : MRl ρ τ l n → MRl ρ σ l n := by
  induction h1 generalizing n with
  | nil => intro h; cases h; exact .nil
  | cons hk hv _ ih => intro h; cases h with | cons hk' hv' ht => exact .cons (hk.back hl hk') (hv.back hl hv') (ih ht)
theorem XR.back {σ τ : Mp} {w w' : World} {g : Nat} {x : BX} (hl : σ.le τ) (h : XR ρ σ w g x) : XR ρ τ w' g x → XR ρ σ w' g x := by
  cases h with
  | loop q h hs hp hps ha hb hn hT ra rb =>
    intro h'
    cases h' with
    | loop q' h' hs' hp' hps' ha' hb' hn' hT' ra' rb' => exact .loop q' h' hs' hp' hps' ha' hb' hn' (fun t => (hT t).back hl (hT' t)) ra' rb'
  | map es h hb hm =>
    intro h'
    cases h' with
    | map es' h' hb' hm' => exact .map es' h' hb' (hm.back hl hm')
/-- A call that wrote nothing old and yields a plain value may forget what it made. -/
theorem CallOk.forget {f : Nat} {args : List CV} {c : CV} (K : CallOk P C ρ f args s c s' R []) (hc : c.plain = true) : CallOk P C ρ f args s c { s' with heap := s.heap } R [] := by
  refine ⟨K.fn, ⟨K.frm.next, fun b _ _ => rfl, K.frm.pc⟩, K.lt, ?_⟩
  intro n σ cur w args' hp hargs hH hA hN
  refine (K.run n σ cur w args' hp hargs hH hA hN).mono ?_
  rintro e w' ⟨v, rfl, σ', h1, h2, h3, h4, h5⟩
  have hle := h1.le hN
  have hold : ∀ b l, σ b = some l → ¬ (s.next ≤ b ∧ b < s'.next) := fun b l hl hr => by rw [hN b hr.1 hr.2] at hl; cases hl
  have hcur : ∀ b l (h : Tr Blk), σ b = some l → upd cur s.next s'.next h [] b = cur b := fun b l h hl => by
    unfold upd; rw [if_neg]; simp only [List.not_mem_nil, false_or]; exact hold b l hl
  refine ⟨v, rfl, σ, Ext.refl _ _ _, h2.plain hc, ⟨fun b k l hk hlv hl => ?_, fun b b' k k' l l' a1 a2 a3 a4 a5 a6 a7 a8 => ?_, fun b k x l hk hx hl => ?_, fun b b' k k' x x' l l' a1 a2 a3 a4 a5 a6 a7 => ?_, fun y hy => ⟨(h3.glob y hy).1, fun b k l a1 a2 ar a3 => ?_⟩⟩, h4, fun b l a1 a2 a3 => ?_⟩
  · rw [hcur b l _ hl] at hk
    obtain ⟨x, t, ppg1, g1, qqg1, g2, g3, g4, g5⟩ := h3.cell b k l (by rw [hcur b l _ hl]; exact hk) hlv (hle b l hl)
    obtain ⟨_, _, _, _, _, _, _, _, q5⟩ := hH.cell b k l hk hlv hl
    exact ⟨x, t, ppg1, g1, qqg1, g2, g3, g4, q5.back hle g5⟩
  · rw [hcur b l _ a3] at a1
    rw [hcur b' l' _ a6] at a4
    exact h3.inj b b' k k' l l' (by rw [hcur b l _ a3]; exact a1) a2 (hle _ _ a3) (by rw [hcur b' l' _ a6]; exact a4) a5 (hle _ _ a6) a7 a8
  · rw [hcur b l _ hl] at hk
    exact (hH.spec b k x l hk hx hl).back hle (h3.spec b k x l (by rw [hcur b l _ hl]; exact hk) hx (hle b l hl))
  · rw [hcur b l _ a3] at a1
    rw [hcur b' l' _ a6] at a4
    exact h3.injX b b' k k' x x' l l' (by rw [hcur b l _ a3]; exact a1) a2 (hle _ _ a3) (by rw [hcur b' l' _ a6]; exact a4) a5 (hle _ _ a6) a7
  · rw [hcur b l _ a3] at a1
    exact (h3.glob y hy).2 b k l (by rw [hcur b l _ a3]; exact a1) a2 ar (hle _ _ a3)
  · exact absurd ⟨a1, a2⟩ (hold b l a3)
/-- The marks of ranges over functions are taken up at a function's end. -/
theorem leaves_marks {n : Nat} {fn : Func} {tmps : Array Value} {RR : Ending → World → Prop} {J : World → Prop} {N0 : Nat} (hJ : ∀ w D, J w → N0 ≤ D → w.heap[D]? = some (.deferred (some [])) → J (w.putObj D (.deferred none)))
    (hfin : ∀ w, J w → ∃ v, (results fn tmps).run P w = .ok v w ∧ RR (.returned v) w) : ∀ (l : List Nat) (w : World), l.Nodup → (∀ D ∈ l, N0 ≤ D ∧ w.heap[D]? = some (.deferred (some []))) → J w → LeavesInM (fc none) n P fn tmps RR (l.map fun D => { target := .collected D, args := #[] }) .returning w
  | [], w, _, _, hw => hfin w hw
  | D :: l, w, hn, hD, hw => by
    have hd := List.nodup_cons.1 hn
    obtain ⟨h1, h2⟩ := hD D (by simp)
    refine ⟨(fun h => by cases h), .inl ⟨D, _, rfl, run_takeDeferred h2, leaves_marks hJ hfin l _ hd.2 (fun D' hD' => ⟨(hD D' (by simp [hD'])).1, ?_⟩) (hJ w D hw h1 h2)⟩⟩
    have hne : D' ≠ D := fun e => hd.1 (e ▸ hD')
    rw [World.putObj_heap_other hne]
    exact (hD D' (by simp [hD'])).2
theorem tup_rel {σ : Mp} : ∀ {vs : List CV} {ws : List Value}, VRl ρ σ vs ws → VR ρ σ (tupC vs) (if h : ws.length = 1 then ws[0] else .tuple ws.toArray)
  | [v], [u], .cons h .nil => h
  | [], [], .nil => .tup .nil
  | v1 :: v2 :: vs, u1 :: u2 :: us, h => .tup h
theorem step_call (hC : CtxOk3 P C) (hM : MemoOk P C ρ) (ih : EvOk P C ρ m) : ∀ base f args s c s' R W, eval C (m + 1) base (.call f args) s = some ⟨.val c, s', R, W⟩ → CallOk P C ρ f args s c s' R W := by
  intro base f args s c s' R W h
  have h' : stepE C base (eval C m) (.call f args) s = some ⟨.val c, s', R, W⟩ := h
  simp only [stepE, callE] at h'
  split at h'
  · rename_i c1 s1 R1 W1 hm
    cases h'
    exact hM _ _ _ _ _ _ _ hm
  rename_i hm0
  clear hm0
  simp only [bodyE] at h'
  split at h'
  · cases h'
  · rename_i fn hfn
    split at h'
    · cases h'
    · rename_i body hbody
      cases hlen : Nat.ble args.length fn.ntmps with
      | false => rw [hlen, cond_false] at h'; cases h'
      | true =>
        rw [hlen, cond_true] at h'
        have hlen' := Nat.le_of_ble_eq_true hlen
        split at h'
        · rename_i e T1 s1 R1 W1 h1
          have k1 := ih.code _ _ _ _ _ _ _ _ _ _ h1 (Nat.le_refl _)
          cases he : e.stays with
          | false => rw [he, cond_false] at h'; cases h'
          | true =>
            rw [he, cond_true] at h'
            split at h'
            · rename_i vs R' hres
              have K : CallOk P C ρ f args s (tupC vs) s1 (join s.next R' R1) W1 := by
                have hR'' := resE_lt hres
                refine ⟨⟨fn, hfn, by rw [hbody]; rfl⟩, ⟨k1.frm.next, k1.frm.get, k1.frm.pc⟩, ⟨fun b hb => (join_mem.1 hb).elim (fun h => h.2) (fun h => k1.lt b (.inl h)), fun b hb => k1.lt b (.inr hb)⟩, ?_⟩
                intro n σ cur w args1 hp hargs hH hA hN
                have hlen2 := hargs.length
                simp only [Array.length_toList] at hlen2
                have hfin : ∀ a' w', PostC ρ σ cur s.next s w fn.ntmps T1 s1 W1 ⟨args1 ++ Array.replicate (fn.ntmps - args1.size) Go.undef, []⟩ a' w' → LeavesInM (fc none) n P fn a'.tmps (Ret (Post ρ σ cur s.next w (tupC vs) s1 W1)) a'.defers .returning w' := by
                  rintro a' w'0 ⟨σ', hI0, hF⟩
                  obtain ⟨ml, hml, hmn, hmd⟩ := hF.2.2
                  rw [hml, List.append_nil]
                  refine leaves_marks (J := fun w' => Inv ρ σ cur s.next W1 s.next w s1 σ' w') (N0 := w.heap.size) (fun w2 D hI hD1 hD2 => ⟨hI.ext, hI.H.put hD2 (fun _ _ _ h => by cases h) (fun _ h => by cases h) (fun _ _ h => by cases h), ⟨hI.K.os, hI.K.tape, hI.K.output, by rw [World.putObj_size]; exact hI.K.size, fun k hk hne => by rw [World.putObj_heap_other (by omega)]; exact hI.K.block k hk hne, fun k r hk => ?_, fun k hk => ?_⟩, hI.F⟩) (fun w' hI => ?_) ml w'0 hmn hmd hI0
                  · have hlt := (Array.getElem?_eq_some_iff.1 hk).1
                    rw [World.putObj_heap_other (by omega)]; exact hI.K.loops k r hk
                  · have hlt := (Array.getElem?_eq_some_iff.1 hk).1
                    rw [World.putObj_heap_other (by omega)]; exact hI.K.defd k hk
                  have hcur : ∀ b ∈ R', upd cur s.next s1.next s1.heap W1 b = s1.heap.get b := by
                    intro b hb
                    show (if b ∈ W1 ∨ (s.next ≤ b ∧ b < s1.next) then _ else cur b) = _
                    by_cases hc : b ∈ W1 ∨ (s.next ≤ b ∧ b < s1.next)
                    · rw [if_pos hc]
                    · rw [if_neg hc, k1.frm.get b (fun h => hc (.inl h)) (fun h => hc (.inr h))]
                      have hlt : b < s.next := by
                        rcases Nat.lt_or_ge b s.next with h | h
                        · exact h
                        · exact absurd (.inr ⟨h, hR'' b hb⟩) hc
                      exact hA b (.inl (join_mem.2 (.inl ⟨hb, hlt⟩)))
                  obtain ⟨ws, hw1, hw2⟩ := res_run (P := P) (a := a') hC.toCtxOk hI.H hF.2.1 hres hcur
                  have hwl := hw2.length
                  have hrun : (results fn a'.tmps).run P w' = .ok (if h : ws.length = 1 then ws[0] else .tuple ws.toArray) w' := by
                    have hm : (fn.results.mapM (resF a')).run P w' = .ok ws.toArray w' := by
                      rw [Array.mapM_eq_mapM_toList]
                      simp only [Sem.run_map, hw1, Result.andThen]
                    show (Sem.run P (do
                      let vs ← fn.results.mapM (resF a')
                      pure (if h : vs.size = 1 then vs[0] else .tuple vs)) w') = _
                    simp only [Sem.run_bind, hm, Result.andThen, Sem.run_pure]
                    by_cases hh1 : ws.length = 1
                    · simp [hh1]
                    · simp [hh1]
                  refine ⟨_, hrun, _, rfl, σ', hI.ext, ?_, hI.H, hI.K, hI.F⟩
                  exact tup_rel hw2
                refine callsIn_of_wp_marks (hC.fn f fn hfn).1 hbody trivial ?_
                have hlt : ∀ b ∈ W1, b < s.next := fun b hb => k1.lt b (.inr hb)
                have hrun := (k1.run (hC.regs _ _ _ hfn hbody) W1 none n (bodyPostM (fc none) n P fn (Ret (Post ρ σ cur s.next w (tupC vs) s1 W1))) σ cur w ⟨args1 ++ Array.replicate (fn.ntmps - args1.size) Go.undef, []⟩ ⟨args1 ++ Array.replicate (fn.ntmps - args1.size) Go.undef, []⟩ (fun b hb => hb) hlt hp (fun l hl => by cases hl) hH (fun b hb => hA b ?_) hN (args0_rel hargs hlen' []) ?_).wpIn
                · exact hrun
                · rcases hb with hb | hb | hb
                  · exact .inl (join_mem.2 (.inr hb))
                  · exact .inr hb
                  · omega
                · intro a' w' hpost
                  have := hfin a' w' hpost
                  cases e with
                  | normal => exact this
                  | ret => exact this
                  | exit i => simp [Ex.stays] at he
              unfold endE at h'
              cases hg : (W1.isEmpty && (tupC vs).plain) with
              | false => rw [hg, cond_false] at h'; cases h'; exact K
              | true =>
                rw [hg, cond_true] at h'
                simp only [Bool.and_eq_true, List.isEmpty_iff] at hg
                obtain ⟨hg1, hg2⟩ := hg
                subst hg1
                cases h'
                exact K.forget hg2
            · cases h'
        · cases h'
/-- ALL OF IT. -/
theorem eval_ok (hC : CtxOk3 P C) (hM : MemoOk P C ρ) : ∀ m, EvOk P C ρ m
  | 0 => ⟨(fun _ _ _ _ _ _ _ _ h => by cases h), (fun _ _ _ _ _ _ _ _ _ _ h => by cases h)⟩
  | m + 1 => ⟨step_call hC hM (eval_ok hC hM m), step_code hC (eval_ok hC hM m)⟩
/-- A function without arguments, from nothing: whatever the evaluator says it returns, it returns, in every world. -/
theorem closed (hC : CtxOk3 P C) (hM : MemoOk P C ⟨fun _ => 0, fun _ => false⟩) {f m : Nat} {c : CV} {s' : St} {R W : List Nat} (h : eval C m 0 (.call f []) .empty = some ⟨.val c, s', R, W⟩) (hp : s'.pc = []) (hW : W = []) (w : World) (hL : Laid w) :
    Calls P f #[] w fun e w' => ∃ v σ', e = .returned v ∧ VR ⟨fun _ => 0, fun _ => false⟩ σ' c v ∧ Below w.heap.size w w' := by
  have k := (eval_ok (ρ := ⟨fun _ => 0, fun _ => false⟩) hC hM m).call _ _ _ _ _ _ _ _ h
  subst hW
  have := k.run 0 (fun _ => none) (fun _ => none) w #[] (by rw [hp]; intro p hp'; cases hp') .nil ⟨(fun b k l h => by cases h), (fun b b' k k' l l' h => by cases h), (fun b k x l h => by cases h), (fun b b' k k' x x' l l' h => by cases h), fun y hy => ⟨hL y hy, fun _ _ _ h => by cases h⟩⟩ (fun b _ => (Tr.get_nil b).symm) (fun b _ _ => rfl)
  refine ((this.calls (fun k d h => by cases h)).mono ?_)
  rintro e w' ⟨v, rfl, σ', h1, h2, h3, h4, h5⟩
  exact ⟨v, σ', rfl, h2, h4.os, h4.tape, h4.output, h4.size, fun k hk => h4.block k hk (fun b _ l hl => by cases hl)⟩
end
end Go.Proofs.Ythagjhadjpangaa.Cx

/- == on structs and arrays, cell by cell; what a program's own tables say, as the evaluator's context. -/
namespace Go.Proofs.Ythagjhadjpangaa.Cx
set_option linter.unusedSimpArgs false
set_option linter.unusedVariables false
open Go Go.RowKit
theorem ShapeV.split : ∀ {ks m : List (Option IntKind)} {l : List Value}, ShapeV (ks ++ m) l → ShapeV ks (l.take ks.length) ∧ ShapeV m (l.drop ks.length)
  | [], m, l, h => ⟨by simp [ShapeV], by simpa using h⟩
  | none :: ks, m, [], h => by simp [ShapeV] at h
  | some k :: ks, m, [], h => by simp [ShapeV] at h
  | none :: ks, m, v :: l, h => by
    cases v <;> simp only [List.cons_append, ShapeV] at h
    obtain ⟨h1, h2⟩ := ShapeV.split h
    exact ⟨by simpa [ShapeV] using h1, by simpa using h2⟩
  | some k :: ks, m, v :: l, h => by
    cases v <;> simp only [List.cons_append, ShapeV] at h
    obtain ⟨h1, h2⟩ := ShapeV.split h.2
    exact ⟨by simp only [List.length_cons, List.take_succ_cons, ShapeV]; exact ⟨h.1, h1⟩, by simpa using h2⟩
theorem ShapeV.length : ∀ {ks : List (Option IntKind)} {l : List Value}, ShapeV ks l → l.length = ks.length
  | [], [], _ => rfl
  | [], _ :: _, h => by simp [ShapeV] at h
  | none :: ks, [], h => by simp [ShapeV] at h
  | some k :: ks, [], h => by simp [ShapeV] at h
  | none :: ks, v :: l, h => by cases v <;> simp only [ShapeV] at h; simpa using ShapeV.length h
  | some k :: ks, v :: l, h => by cases v <;> simp only [ShapeV] at h; simpa using ShapeV.length h.2
theorem eqVals_split : ∀ {ks m : List (Option IntKind)} {l l' : List Value}, ShapeV (ks ++ m) l → ShapeV (ks ++ m) l' → eqVals l l' = (eqVals (l.take ks.length) (l'.take ks.length) && eqVals (l.drop ks.length) (l'.drop ks.length))
  | [], m, l, l', _, _ => by simp [eqVals]
  | none :: ks, m, v :: l, u :: l', h, h' => by
    cases v <;> cases u <;> simp only [List.cons_append, ShapeV] at h h'
    simp only [eqVals, List.length_cons, List.take_succ_cons, List.drop_succ_cons]
    rw [eqVals_split h h', Bool.and_assoc]
  | some k :: ks, m, v :: l, u :: l', h, h' => by
    cases v <;> cases u <;> simp only [List.cons_append, ShapeV] at h h'
    simp only [eqVals, List.length_cons, List.take_succ_cons, List.drop_succ_cons]
    rw [eqVals_split h.2 h'.2, Bool.and_assoc]
  | none :: ks, m, [], _, h, _ => by simp [ShapeV] at h
  | some k :: ks, m, [], _, h, _ => by simp [ShapeV] at h
  | none :: ks, m, _ :: _, [], _, h => by simp [ShapeV] at h
  | some k :: ks, m, _ :: _, [], _, h => by simp [ShapeV] at h
/-- A value of a type, by its cells. -/
def Whole (P : Program) (t : TypeId) (v : Value) (l : List Value) : Prop :=
  ∃ d, P.underlying t = some d ∧ ((aggD d = true ∧ v = .agg l.toArray) ∨ (aggD d = false ∧ l = [v]))
section
variable {P : Program}
theorem part_whole {t : TypeId} {i : TypeInfo} {d : TypeDesc} {ks : List (Option IntKind)} (w : World) (hu : P.underlying t = some d) (hi : P.info? t = some i) (hs : i.size = ks.length) (h1 : aggD d = false → ks.length = 1) (pre : List Value) (l m : List Value) (hl : l.length = ks.length) :
    ∃ v, (part t (pre ++ l ++ m).toArray pre.length).run P w = .ok v w ∧ Whole P t v l := by
  have hag : (isAgg t).run P w = .ok (aggD d) w := by
    have := run_underlying hu w
    cases d <;> simp [isAgg, this, aggD]
  cases hd : aggD d with
  | true =>
    rw [hd] at hag
    refine ⟨.agg l.toArray, ?_, d, hu, .inl ⟨hd, rfl⟩⟩
    have hz : (sizeOf t).run P w = .ok ks.length w := by simp [sizeOf, typeInfo, hi, hs]
    simp only [part, Sem.run_bind, hag, Result.andThen, if_true, Sem.run_map, hz, Sem.run_pure]
    have : (pre ++ l ++ m).toArray.extract pre.length (pre.length + ks.length) = l.toArray := by
      rw [← Array.toList_inj, Array.toList_extract, List.extract_eq_take_drop]
      simp only [Nat.add_sub_cancel_left]
      rw [List.append_assoc, List.drop_left, ← hl, List.take_left]
    rw [this]
  | false =>
    rw [hd] at hag
    have := h1 hd
    obtain ⟨v, rfl⟩ : ∃ v, l = [v] := by
      match l, (hl.trans this) with
      | [v], _ => exact ⟨v, rfl⟩
    refine ⟨v, ?_, d, hu, .inr ⟨hd, rfl⟩⟩
    simp [part, hag]
theorem eqTy_one {d : Nat} {t : TypeId} {ks : List (Option IntKind)} (h : eqTy P d t = some ks) : ∃ i ds, P.underlying t = some ds ∧ P.info? t = some i ∧ i.size = ks.length ∧ (aggD ds = false → ks.length = 1) := by
  cases d with
  | zero => simp [eqTy] at h
  | succ d =>
    unfold eqTy at h
    split at h
    · rename_i k i hu hi
      cases hb : Nat.beq i.size 1 with
      | false => rw [hb, cond_false] at h; cases h
      | true => rw [hb, cond_true] at h; cases h; exact ⟨i, _, hu, hi, Nat.eq_of_beq_eq_true hb, fun _ => rfl⟩
    · rename_i i hu hi
      cases hb : Nat.beq i.size 1 with
      | false => rw [hb, cond_false] at h; cases h
      | true => rw [hb, cond_true] at h; cases h; exact ⟨i, _, hu, hi, Nat.eq_of_beq_eq_true hb, fun _ => rfl⟩
    · rename_i fs i hu hi
      cases hst : P.stoodInHeld t with
      | true => rw [hst, cond_true] at h; cases h
      | false =>
        rw [hst, cond_false] at h
        split at h
        · rename_i ks' hk
          cases hb : Nat.beq i.size ks'.length with
          | false => rw [hb, cond_false] at h; cases h
          | true => rw [hb, cond_true] at h; cases h; exact ⟨i, _, hu, hi, Nat.eq_of_beq_eq_true hb, fun h => by simp [aggD] at h⟩
        · cases h
    · rename_i n e i hu hi
      split at h
      · rename_i ks' hk
        cases hb : Nat.beq i.size (n * ks'.length) with
        | false => rw [hb, cond_false] at h; cases h
        | true =>
          rw [hb, cond_true] at h; cases h
          exact ⟨i, _, hu, hi, by rw [Nat.eq_of_beq_eq_true hb, List.length_flatten, List.map_replicate, List.sum_replicate_nat], fun h => by simp [aggD] at h⟩
      · cases h
    · cases h
/-- The comparison of the fields. -/
theorem eqFs_run {d d' : Nat} (ih : ∀ t ks x y u v (w : World), eqTy P d t = some ks → ShapeV ks x → ShapeV ks y → Whole P t u x → Whole P t v y → (Op.equalIn (d' + d) t u v).run P w = .ok (eqVals x y) w) :
    ∀ {fs : List Field} {ks : List (Option IntKind)} {px py x y : List Value} (w : World), eqTy.eqFs P (eqTy P d) px.length fs = some ks → py.length = px.length → ShapeV ks x → ShapeV ks y →
      (Op.eqFields (d' + d) (px ++ x).toArray (py ++ y).toArray fs).run P w = .ok (eqVals x y) w
  | [], ks, px, py, x, y, w, h, _, hx, hy => by
    simp only [eqTy.eqFs] at h; cases h
    obtain rfl : x = [] := by cases x with | nil => rfl | cons v l => simp [ShapeV] at hx
    simp [Op.eqFields, eqVals]
  | f :: fs, ks, px, py, x, y, w, h, hpy, hx, hy => by
    simp only [eqTy.eqFs] at h
    split at h
    · rename_i k1 hk1
      cases hb : (Nat.beq f.offset px.length && f.name != "_") with
      | false => rw [hb, cond_false] at h; cases h
      | true =>
        rw [hb, cond_true] at h
        simp only [Bool.and_eq_true, bne_iff_ne, ne_eq] at hb
        split at h
        · rename_i k2 hk2
          cases h
          obtain ⟨i, ds, hu, hi, hs, h1⟩ := eqTy_one hk1
          have hlx := hx.length
          have hly := hy.length
          simp only [List.length_append] at hlx hly
          obtain ⟨x1, x2⟩ := hx.split
          obtain ⟨y1, y2⟩ := hy.split
          have ex : px ++ x = px ++ x.take k1.length ++ x.drop k1.length := by rw [List.append_assoc, List.take_append_drop]
          have ey : py ++ y = py ++ y.take k1.length ++ y.drop k1.length := by rw [List.append_assoc, List.take_append_drop]
          obtain ⟨u, hu1, hu2⟩ := part_whole (P := P) w hu hi hs h1 px (x.take k1.length) (x.drop k1.length) (by simp; omega)
          obtain ⟨v, hv1, hv2⟩ := part_whole (P := P) w hu hi hs h1 py (y.take k1.length) (y.drop k1.length) (by simp; omega)
          rw [← ex, ← Nat.eq_of_beq_eq_true hb.1] at hu1
          rw [← ey, hpy, ← Nat.eq_of_beq_eq_true hb.1] at hv1
          have hr := ih f.type k1 _ _ u v w hk1 x1 y1 hu2 hv2
          have hrest := eqFs_run ih (fs := fs) (px := px ++ x.take k1.length) (py := py ++ y.take k1.length) (x := x.drop k1.length) (y := y.drop k1.length) w (by
            have : (px ++ x.take k1.length).length = px.length + k1.length := by simp; omega
            rw [this]; exact hk2) (by simp; omega) x2 y2
          rw [← ex, ← ey] at hrest
          simp only [Op.eqFields]
          rw [if_pos hb.2]
          simp only [Sem.run_bind, hu1, hv1, hr, Result.andThen]
          rw [eqVals_split hx hy]
          cases hq : eqVals (x.take k1.length) (y.take k1.length) with
          | true => simp only [Bool.not_true, Bool.false_eq_true, if_false, Bool.true_and]; exact hrest
          | false => simp only [Bool.not_false, if_true, Bool.false_and, Sem.run_pure]
        · cases h
    · cases h
theorem whole_agg {t : TypeId} {v : Value} {l : List Value} {d : TypeDesc} (h : Whole P t v l) (hu : P.underlying t = some d) (hd : aggD d = true) : v = .agg l.toArray := by
  obtain ⟨d', h1, h2⟩ := h
  rw [hu] at h1
  obtain rfl := Option.some.inj h1
  rcases h2 with h2 | h2
  · exact h2.2
  · rw [hd] at h2; cases h2.1
theorem whole_one {t : TypeId} {v : Value} {l : List Value} {d : TypeDesc} (h : Whole P t v l) (hu : P.underlying t = some d) (hd : aggD d = false) : l = [v] := by
  obtain ⟨d', h1, h2⟩ := h
  rw [hu] at h1
  obtain rfl := Option.some.inj h1
  rcases h2 with h2 | h2
  · rw [hd] at h2; cases h2.1
  · exact h2.2
/-- The comparison of an array's elements. -/
theorem eqArr_run {d d' : Nat} {e : TypeId} {ks : List (Option IntKind)} {i : TypeInfo} {ds : TypeDesc} (hu : P.underlying e = some ds) (hi : P.info? e = some i) (hs : i.size = ks.length) (h1 : aggD ds = false → ks.length = 1)
    (ih : ∀ x y u v (w : World), ShapeV ks x → ShapeV ks y → Whole P e u x → Whole P e v y → (Op.equalIn (d' + d) e u v).run P w = .ok (eqVals x y) w) :
    ∀ (n j : Nat) (px py x y : List Value) (w : World), px.length = j * ks.length → py.length = px.length → ShapeV (List.replicate n ks).flatten x → ShapeV (List.replicate n ks).flatten y →
      ((forIn (m := Sem) (List.range' j n) ((none, ()) : Option Bool × PUnit) fun a _ => do
        if !(← Op.equalIn (d' + d) e (← part e (px ++ x).toArray (a * ks.length)) (← part e (py ++ y).toArray (a * ks.length))) then pure (ForInStep.done (some false, ())) else pure (ForInStep.yield (none, ())))).run P w = .ok (if eqVals x y then (none, ()) else (some false, ())) w
  | 0, j, px, py, x, y, w, _, _, hx, hy => by
    obtain rfl : x = [] := by cases x with | nil => rfl | cons v l => simp [ShapeV] at hx
    simp [eqVals]
  | n + 1, j, px, py, x, y, w, hpx, hpy, hx, hy => by
    simp only [List.replicate_succ, List.flatten_cons] at hx hy
    have hlx := hx.length
    have hly := hy.length
    simp only [List.length_append] at hlx hly
    obtain ⟨x1, x2⟩ := hx.split
    obtain ⟨y1, y2⟩ := hy.split
    have ex : px ++ x = px ++ x.take ks.length ++ x.drop ks.length := by rw [List.append_assoc, List.take_append_drop]
    have ey : py ++ y = py ++ y.take ks.length ++ y.drop ks.length := by rw [List.append_assoc, List.take_append_drop]
    obtain ⟨u, hu1, hu2⟩ := part_whole (P := P) w hu hi hs h1 px (x.take ks.length) (x.drop ks.length) (by simp; omega)
    obtain ⟨v, hv1, hv2⟩ := part_whole (P := P) w hu hi hs h1 py (y.take ks.length) (y.drop ks.length) (by simp; omega)
    rw [← ex, hpx] at hu1
    rw [← ey, hpy, hpx] at hv1
    have hr := ih _ _ u v w x1 y1 hu2 hv2
    have hrest := eqArr_run hu hi hs h1 ih n (j + 1) (px ++ x.take ks.length) (py ++ y.take ks.length) (x.drop ks.length) (y.drop ks.length) w (by
      simp only [List.length_append, List.length_take]; rw [Nat.succ_mul]; omega) (by simp; omega) x2 y2
    rw [← ex, ← ey] at hrest
    rw [List.range'_succ, List.forIn_cons]
    simp only [Sem.run_bind, hu1, hv1, hr, Result.andThen, Sem.run_ite, Sem.run_pure]
    rw [eqVals_split hx hy]
    cases hq : eqVals (x.take ks.length) (y.take ks.length) with
    | true => simp only [Bool.not_true, Bool.false_eq_true, if_false, Bool.true_and]; exact hrest
    | false => simp
theorem eqTy_run : ∀ (d d' : Nat) (t : TypeId) (ks : List (Option IntKind)) (x y : List Value) (u v : Value) (w : World), eqTy P d t = some ks → ShapeV ks x → ShapeV ks y → Whole P t u x → Whole P t v y → (Op.equalIn (d' + d) t u v).run P w = .ok (eqVals x y) w
  | 0, d', t, ks, x, y, u, v, w, h, _, _, _, _ => by simp [eqTy] at h
  | d + 1, d', t, ks, x, y, u, v, w, h, hx, hy, hu, hv => by
    have ih := eqTy_run d d'
    unfold eqTy at h
    split at h
    · rename_i k i hd hi
      obtain rfl := whole_one hu hd rfl
      obtain rfl := whole_one hv hd rfl
      cases hb : Nat.beq i.size 1 with
      | false => rw [hb, cond_false] at h; cases h
      | true =>
        rw [hb, cond_true] at h; cases h
        cases u <;> simp only [ShapeV] at hx
        cases v <;> simp only [ShapeV] at hy
        obtain ⟨rfl, _⟩ := hx
        obtain ⟨rfl, _⟩ := hy
        rw [← Nat.add_assoc, run_equalIn_int _ _ _ _ _ _ _ hd]
        simp [eqVals]
    · rename_i i hd hi
      obtain rfl := whole_one hu hd rfl
      obtain rfl := whole_one hv hd rfl
      cases hb : Nat.beq i.size 1 with
      | false => rw [hb, cond_false] at h; cases h
      | true =>
        rw [hb, cond_true] at h; cases h
        cases u <;> simp only [ShapeV] at hx
        cases v <;> simp only [ShapeV] at hy
        rw [← Nat.add_assoc, run_equalIn_bool' _ _ _ _ _ hd]
        simp [eqVals]
    · rename_i fs i hd hi
      obtain rfl := whole_agg hu hd rfl
      obtain rfl := whole_agg hv hd rfl
      cases hst : P.stoodInHeld t with
      | true => rw [hst, cond_true] at h; cases h
      | false =>
        rw [hst, cond_false] at h
        split at h
        · rename_i ks' hk
          cases hb : Nat.beq i.size ks'.length with
          | false => rw [hb, cond_false] at h; cases h
          | true =>
            rw [hb, cond_true] at h; cases h
            have hf : P.fieldsOf t = fs := by simp [Program.fieldsOf, hd]
            rw [← Nat.add_assoc, run_equalIn_struct w (d' + d) t _ _ (by rw [hf]; exact hd) hst, hf]
            have := eqFs_run (px := []) (py := []) (fun t ks x y u v w h1 h2 h3 h4 h5 => ih t ks x y u v w h1 h2 h3 h4 h5) w hk rfl hx hy
            simpa using this
        · cases h
    · rename_i n e i hd hi
      obtain rfl := whole_agg hu hd rfl
      obtain rfl := whole_agg hv hd rfl
      split at h
      · rename_i ks' hk
        cases hb : Nat.beq i.size (n * ks'.length) with
        | false => rw [hb, cond_false] at h; cases h
        | true =>
          rw [hb, cond_true] at h; cases h
          obtain ⟨i', ds, hu', hi', hs', h1'⟩ := eqTy_one hk
          have := eqArr_run (d := d) (d' := d') hu' hi' hs' h1' (fun x y u v w h2 h3 h4 h5 => ih e ks' x y u v w hk h2 h3 h4 h5) n 0 [] [] x y w (by simp) rfl hx hy
          have hz : (sizeOf e).run P w = .ok ks'.length w := by simp [sizeOf, typeInfo, hi', hs']
          rw [← Nat.add_assoc]
          simp only [Op.equalIn, Sem.run_bind, run_underlying hd, Result.andThen, hz]
          simp only [List.nil_append] at this
          rw [Std.Legacy.Range.forIn_eq_forIn_range']
          have er : List.range' (Std.Legacy.Range.start [:n]) (Std.Legacy.Range.size [:n]) (Std.Legacy.Range.step [:n]) = List.range' 0 n := by simp [Std.Legacy.Range.size]
          rw [er, this]
          cases eqVals x y <;> rfl
      · cases h
    · cases h
theorem eqOf_ok {t : TypeId} {ks : List (Option IntKind)} (h : eqOf P t = some ks) (hd : ∀ d, P.underlying t = some d → aggD d = true) : EqOk P t ks := by
  unfold eqOf at h
  cases hg : P.eqGuardType P.depth t with
  | true => rw [hg, cond_true] at h; cases h
  | false =>
    rw [hg, cond_false] at h
    obtain ⟨i, ds, hu, hi, hs, h1⟩ := eqTy_one h
    intro x y w hx hy
    refine ⟨fun op u v => run_eqGuard_agg w op t u v x y hg, ?_⟩
    have hw : ∀ z : Array Value, Whole P t (.agg z) z.toList := fun z => ⟨ds, hu, .inl ⟨hd ds hu, rfl⟩⟩
    have := eqTy_run 12 9988 t ks x.toList y.toList (.agg x) (.agg y) w h hx hy (hw x) (hw y)
    exact this
/-! ## Keys of maps -/
theorem keyFs_run {em : Bool} {d d' : Nat} (ih : ∀ t ks x u (w : World), eqTy P d t = some ks → ShapeV ks x → Whole P t u x → (Instr.checkKey em (d' + d) t u).run P w = .ok () w) :
    ∀ {fs : List Field} {ks : List (Option IntKind)} {px x : List Value} (w : World), eqTy.eqFs P (eqTy P d) px.length fs = some ks → ShapeV ks x →
      ((forIn (m := Sem) fs PUnit.unit fun f (_ : PUnit) => if f.name ≠ "_" then do
            let y ← part f.type (px ++ x).toArray f.offset
            Instr.checkKey em (d' + d) f.type y
            pure (ForInStep.yield PUnit.unit)
          else pure (ForInStep.yield PUnit.unit))).run P w = .ok PUnit.unit w
  | [], ks, px, x, w, h, hx => by simp
  | f :: fs, ks, px, x, w, h, hx => by
    simp only [eqTy.eqFs] at h
    split at h
    · rename_i k1 hk1
      cases hb : (Nat.beq f.offset px.length && f.name != "_") with
      | false => rw [hb, cond_false] at h; cases h
      | true =>
        rw [hb, cond_true] at h
        simp only [Bool.and_eq_true, bne_iff_ne, ne_eq] at hb
        split at h
        · rename_i k2 hk2
          cases h
          obtain ⟨i, ds, hu, hi, hs, h1⟩ := eqTy_one hk1
          have hlx := hx.length
          simp only [List.length_append] at hlx
          obtain ⟨x1, x2⟩ := hx.split
          have ex : px ++ x = px ++ x.take k1.length ++ x.drop k1.length := by rw [List.append_assoc, List.take_append_drop]
          obtain ⟨u, hu1, hu2⟩ := part_whole (P := P) w hu hi hs h1 px (x.take k1.length) (x.drop k1.length) (by simp; omega)
          rw [← ex, ← Nat.eq_of_beq_eq_true hb.1] at hu1
          have hr := ih f.type k1 _ u w hk1 x1 hu2
          have hrest := keyFs_run ih (fs := fs) (px := px ++ x.take k1.length) (x := x.drop k1.length) w (by
            have : (px ++ x.take k1.length).length = px.length + k1.length := by simp; omega
            rw [this]; exact hk2) x2
          rw [← ex] at hrest
          rw [List.forIn_cons, if_pos hb.2]
          simp only [Sem.run_bind, hu1, hr, Result.andThen, Sem.run_pure]
          exact hrest
        · cases h
    · cases h
theorem keyArr_run {em : Bool} {d d' : Nat} {e : TypeId} {ks : List (Option IntKind)} {i : TypeInfo} {ds : TypeDesc} (hu : P.underlying e = some ds) (hi : P.info? e = some i) (hs : i.size = ks.length) (h1 : aggD ds = false → ks.length = 1)
    (ih : ∀ x u (w : World), ShapeV ks x → Whole P e u x → (Instr.checkKey em (d' + d) e u).run P w = .ok () w) :
    ∀ (n j : Nat) (px x : List Value) (w : World), px.length = j * ks.length → ShapeV (List.replicate n ks).flatten x →
      ((forIn (m := Sem) (List.range' j n) PUnit.unit fun a (_ : PUnit) => do
            let z ← sizeOf e
            let y ← part e (px ++ x).toArray (a * z)
            Instr.checkKey em (d' + d) e y
            pure (ForInStep.yield PUnit.unit))).run P w = .ok PUnit.unit w
  | 0, j, px, x, w, _, hx => by simp
  | n + 1, j, px, x, w, hpx, hx => by
    simp only [List.replicate_succ, List.flatten_cons] at hx
    have hlx := hx.length
    simp only [List.length_append] at hlx
    obtain ⟨x1, x2⟩ := hx.split
    have ex : px ++ x = px ++ x.take ks.length ++ x.drop ks.length := by rw [List.append_assoc, List.take_append_drop]
    obtain ⟨u, hu1, hu2⟩ := part_whole (P := P) w hu hi hs h1 px (x.take ks.length) (x.drop ks.length) (by simp; omega)
    rw [← ex, hpx] at hu1
    have hr := ih _ u w x1 hu2
    have hz : (sizeOf e).run P w = .ok ks.length w := by simp [sizeOf, typeInfo, hi, hs]
    have hrest := keyArr_run hu hi hs h1 ih n (j + 1) (px ++ x.take ks.length) (x.drop ks.length) w (by
      simp only [List.length_append, List.length_take]; rw [Nat.succ_mul]; omega) x2
    rw [← ex] at hrest
    rw [List.range'_succ, List.forIn_cons]
    simp only [Sem.run_bind, hz, hu1, hr, Result.andThen, Sem.run_pure]
    exact hrest
theorem eqTy_key {em : Bool} : ∀ (d d' : Nat) (t : TypeId) (ks : List (Option IntKind)) (x : List Value) (u : Value) (w : World), eqTy P d t = some ks → ShapeV ks x → Whole P t u x → (Instr.checkKey em (d' + d) t u).run P w = .ok () w
  | 0, d', t, ks, x, u, w, h, _, _ => by simp [eqTy] at h
  | d + 1, d', t, ks, x, u, w, h, hx, hu => by
    have ih := eqTy_key (em := em) d d'
    unfold eqTy at h
    split at h
    · rename_i k i hd hi
      obtain rfl := whole_one hu hd rfl
      rw [← Nat.add_assoc]
      simp only [Instr.checkKey, Sem.run_bind, run_underlying hd, Result.andThen, Sem.run_pure]
    · rename_i i hd hi
      obtain rfl := whole_one hu hd rfl
      rw [← Nat.add_assoc]
      simp only [Instr.checkKey, Sem.run_bind, run_underlying hd, Result.andThen, Sem.run_pure]
    · rename_i fs i hd hi
      obtain rfl := whole_agg hu hd rfl
      cases hst : P.stoodInHeld t with
      | true => rw [hst, cond_true] at h; cases h
      | false =>
        rw [hst, cond_false] at h
        split at h
        · rename_i ks' hk
          cases hb : Nat.beq i.size ks'.length with
          | false => rw [hb, cond_false] at h; cases h
          | true =>
            rw [hb, cond_true] at h; cases h
            rw [← Nat.add_assoc]
            simp only [Instr.checkKey, Sem.run_bind, run_underlying hd]
            have := keyFs_run (em := em) (px := []) (fun t ks x u w h1 h2 h3 => ih t ks x u w h1 h2 h3) w hk hx
            simp only [List.nil_append] at this
            simp only [Result.andThen]
            rw [← Array.forIn_toList, Sem.run_bind, this]
            rfl
        · cases h
    · rename_i n e i hd hi
      obtain rfl := whole_agg hu hd rfl
      split at h
      · rename_i ks' hk
        cases hb : Nat.beq i.size (n * ks'.length) with
        | false => rw [hb, cond_false] at h; cases h
        | true =>
          rw [hb, cond_true] at h; cases h
          obtain ⟨i', ds, hu', hi', hs', h1'⟩ := eqTy_one hk
          have := keyArr_run (em := em) (d := d) (d' := d') hu' hi' hs' h1' (fun x u w h2 h3 => ih e ks' x u w hk h2 h3) n 0 [] x w (by simp) hx
          rw [← Nat.add_assoc]
          simp only [Instr.checkKey, Sem.run_bind, run_underlying hd, Result.andThen]
          simp only [List.nil_append] at this
          rw [Std.Legacy.Range.forIn_eq_forIn_range']
          have er : List.range' (Std.Legacy.Range.start [:n]) (Std.Legacy.Range.size [:n]) (Std.Legacy.Range.step [:n]) = List.range' 0 n := by simp [Std.Legacy.Range.size]
          rw [er, this]
          rfl
      · cases h
    · cases h
theorem eqOf_key {t : TypeId} {ks : List (Option IntKind)} (h : eqOf P t = some ks) (hd : ∀ d, P.underlying t = some d → aggD d = true) (x : Array Value) (em : Bool) (w : World) (hx : ShapeV ks x.toList) : (Instr.checkKey em 10000 t (.agg x)).run P w = .ok () w := by
  unfold eqOf at h
  cases hg : P.eqGuardType P.depth t with
  | true => rw [hg, cond_true] at h; cases h
  | false =>
    rw [hg, cond_false] at h
    obtain ⟨i, ds, hu, hi, hs, h1⟩ := eqTy_one h
    exact eqTy_key 12 9988 t ks x.toList (.agg x) w h hx ⟨ds, hu, .inl ⟨hd ds hu, rfl⟩⟩
/-- A type's zero value. -/
def zvOf (P : Program) (t : Nat) : Option CV := (P.info? t).bind fun i => i.zero.bind CV.ofVal
theorem zvOf_ok {t : Nat} {c : CV} (h : zvOf P t = some c) : ∃ z, (∀ w, (zeroValue t).run P w = .ok z w) ∧ ∀ ρ σ, VR ρ σ c z := by
  unfold zvOf at h
  cases hi : P.info? t with
  | none => rw [hi] at h; cases h
  | some i =>
    rw [hi] at h
    simp only [Option.bind_some] at h
    cases hz : i.zero with
    | none => rw [hz] at h; cases h
    | some z =>
      rw [hz] at h
      exact ⟨z, fun w => by simp [zeroValue, typeInfo, hi, hz], fun ρ σ => VR.ofVal h⟩
/-- The context of a program: its own tables. -/
noncomputable def ctxOf (P : Program) (memo : Memo) : Ctx where
  memo := memo
  ty := tyOf P
  fn f := P.funcs[f]?
  zv := zvOf P
  eq t := match P.underlying t with
    | some d => bif aggD d then eqOf P t else none
    | none => none
/-- What is asked of a program, all of it decided by computation. -/
def progOk (P : Program) : Bool := P.follows .mixedOrders && P.funcs.toList.all fun f => f.name != "runtime.NumGoroutine" && (match f.body with | some c => regsOk c | none => true)
theorem ctxOf_ok (h : progOk P = true) (memo : Memo) : CtxOk3 P (ctxOf P memo) := by
  simp only [progOk, Bool.and_eq_true, List.all_eq_true] at h
  obtain ⟨hm, hf⟩ := h
  have hmem : ∀ f fn, P.funcs[f]? = some fn → fn ∈ P.funcs.toList := fun f fn hfn => by
    rw [← Array.getElem?_toList] at hfn; exact List.mem_of_getElem? hfn
  refine ⟨⟨⟨fun t r hr => tyOf_ok hr, fun t ks hks => ?_, fun t c hc => zvOf_ok hc, fun t ks hks x em w hx => ?_⟩, fun f fn hfn => ⟨hfn, ?_⟩, hm⟩, fun f fn c hfn hc => ?_⟩
  · simp only [ctxOf] at hks
    split at hks
    · rename_i d hd
      cases ha : aggD d with
      | false => rw [ha, cond_false] at hks; cases hks
      | true =>
        rw [ha, cond_true] at hks
        exact eqOf_ok hks (fun d' hd' => by rw [hd] at hd'; cases hd'; exact ha)
    · cases hks
  · simp only [ctxOf] at hks
    split at hks
    · rename_i d hd
      cases ha : aggD d with
      | false => rw [ha, cond_false] at hks; cases hks
      | true =>
        rw [ha, cond_true] at hks
        exact eqOf_key hks (fun d' hd' => by rw [hd] at hd'; cases hd'; exact ha) x em w hx
    · cases hks
  · have := (hf fn (hmem f fn hfn)).1
    simpa using this
  · have := (hf fn (hmem f fn hfn)).2
    rw [hc] at this
    exact this
end
end Go.Proofs.Ythagjhadjpangaa.Cx

/- THE EVALUATOR AT ARGUMENTS THAT ARE SYMBOLS: a tree of tests, each of its leaves a run; and calls that are known to return true. -/
namespace Go.Proofs.Ythagjhadjpangaa.Cx
set_option linter.unusedSimpArgs false
set_option linter.unusedVariables false
open Go Go.RowKit
/-- What old blocks hold is the same. -/
theorem HR.below {ρ : Env} {σ : Mp} {cur : Cur} {w w' : World} (h : HR ρ σ cur w) (hb : Below w.heap.size w w') : HR ρ σ cur w' := by
  refine ⟨fun b k l a1 a2 a3 => ?_, h.inj, fun b k x l a1 a2 a3 => ?_, h.injX, fun y hy => ?_⟩
  · obtain ⟨c, t, ppq1, q1, qqq1, q2⟩ := h.cell b k l a1 a2 a3
    exact ⟨c, t, ppq1, by rw [hb.block _ (h.lt a1 a2 a3)]; exact q1, qqq1, q2⟩
  · have hs := h.spec b k x l a1 a2 a3
    exact hs.heap (hb.block _ hs.lt)
  · obtain ⟨⟨t0, h0⟩, hd⟩ := h.glob y hy
    exact ⟨⟨t0, (hb.block _ (Array.getElem?_eq_some_iff.1 h0).1).trans h0⟩, hd⟩
theorem Keeps.below {σ : Mp} {base : Nat} {W : List Nat} {w w' : World} (hb : Below w.heap.size w w') : Keeps σ base W w w' :=
  .of_same hb.os hb.tape hb.output hb.size fun k hk => hb.block k hk
/-! ## Calls that are known -/
/-- Functions without arguments that return true in every world. -/
structure KnownB (P : Program) (f : Nat) : Prop where
  fn : ∃ fn, P.funcs[f]? = some fn ∧ fn.body.isSome = true
  run : ∀ w, Laid w → Calls P f #[] w fun e w' => e = .returned (.bool true) ∧ Below w.heap.size w w'
def memo0 : Memo := fun _ _ _ => none
def memoB (l : List Nat) : Memo := fun f args s =>
  match args with
  | [] => bif l.any (Nat.beq f) then some (.bool (.c true), s, [], []) else none
  | _ => none
section
variable {P : Program} {ρ : Env}
theorem memo0_ok : MemoOk P (ctxOf P memo0) ρ := fun f args s c s' R W h => by cases h
theorem memoB_ok {l : List Nat} (h : ∀ f ∈ l, KnownB P f) : MemoOk P (ctxOf P (memoB l)) ρ := by
  intro f args s c s' R W hm
  have hm' : memoB l f args s = some (c, s', R, W) := hm
  unfold memoB at hm'
  split at hm'
  · cases hf : l.any (Nat.beq f) with
    | false => rw [hf, cond_false] at hm'; cases hm'
    | true =>
      rw [hf, cond_true] at hm'
      cases hm'
      obtain ⟨g, hg, hgf⟩ := List.any_eq_true.1 hf
      obtain rfl : f = g := Nat.eq_of_beq_eq_true hgf
      have k := h f hg
      refine ⟨k.fn, Frm.refl _ _, ⟨fun b hb => by simp at hb, fun b hb => by simp at hb⟩, ?_⟩
      intro n σ cur w args' hp hargs hH hA hN
      have e0 : args' = #[] := by
        have := hargs.length
        simp only [Array.length_toList, List.length_nil] at this
        exact Array.eq_empty_of_size_eq_zero this
      subst e0
      have := (callsIn_wide (n := n)).2 (k.run w hH.laid)
      refine CallsIn.mono (F := fc none) this ?_
      rintro e w' ⟨rfl, hB⟩
      refine ⟨_, rfl, σ, Ext.refl _ _ _, .bool (.c true), ?_, .below hB, Fresh.none _ _ _ _ _ _⟩
      rw [upd_none]
      exact hH.below hB
  · cases hm'
/-! ## A function without arguments that returns true -/
def isTrue (o : Option Out) : Bool :=
  match o with
  | some ⟨.val (.bool (.c true)), ⟨_, _, _, []⟩, _, []⟩ => true
  | _ => false
theorem known_of (hP : progOk P = true) {memo : Memo} (hM : MemoOk P (ctxOf P memo) ⟨fun _ => 0, fun _ => false⟩) {m f : Nat}
    (hf : (match P.funcs[f]? with | some fn => fn.body.isSome | none => false) = true) (h : isTrue (eval (ctxOf P memo) m 0 (.call f []) .empty) = true) : KnownB P f := by
  constructor
  · split at hf
    · rename_i fn hfn; exact ⟨fn, hfn, hf⟩
    · cases hf
  · intro w hL
    unfold isTrue at h
    split at h
    · rename_i h1 n1 o1 R1 he
      refine (closed (ctxOf_ok hP memo) hM he rfl rfl w hL).mono ?_
      rintro e w' ⟨v, σ', rfl, hv, hB⟩
      cases hv
      exact ⟨rfl, hB⟩
    · cases h
/-! ## Trees of tests -/
inductive DT where
  | leaf (e : BE)
  | ask (c : BE) (t f : DT)
  /-- a number that is taken at a value -/
  | conc (e : IE) (n : Nat) (t f : DT)
  | dead
end
end Go.Proofs.Ythagjhadjpangaa.Cx

/- LOOPS AND CUTS: a small logic over canonical memory. What holds at a point is a frame's temporaries and canonical memory; between points the evaluator runs; at a point memory may be named anew, and what is not wanted is forgotten. -/
namespace Go.Proofs.Ythagjhadjpangaa.Cx
set_option linter.unusedSimpArgs false
set_option linter.unusedVariables false
open Go Go.RowKit
/-- What is at a function's start. -/
structure Fx where
  σ : Mp
  cur : Cur
  base : Nat
  W : List Nat
  w : World
  nt : Nat
  a : Act
  ro : Option Nat
  n : Nat
structure FxOk (ρ : Env) (X : Fx) : Prop where
  H : HR ρ X.σ X.cur X.w
  N : ∀ b, X.base ≤ b → X.σ b = none
  lt : ∀ b ∈ X.W, b < X.base
  ro : ∀ l, X.ro = some l → ∃ r, X.w.heap[l]? = some (.loop r)
/-- A point: temporaries, memory, the next number. -/
structure Pt where
  T : Tr CV
  h : Tr Blk
  n : Nat
def Pt.st (p : Pt) (o : List Nat) : St := ⟨p.h, p.n, o, []⟩
/-- A real frame and world stand for a point. -/
structure SR (ρ : Env) (X : Fx) (p : Pt) (a : Act) (w : World) : Prop where
  le : X.base ≤ p.n
  old : ∀ b, b < X.base → b ∉ X.W → X.cur b = p.h.get b
  rel : ∃ σ, Inv ρ X.σ X.cur X.base X.W X.base X.w (p.st []) σ w ∧ FRc ρ σ X.nt p.T X.a a X.w w
/-- A statement from a point: however it is left, it is left at such a point. -/
def Sem (P : Program) (ρ : Env) (X : Fx) (c : Code) (p : Pt) (Φ : Ex → Pt → Prop) : Prop :=
  ∀ (Q : Exit → Act → World → Prop) (a : Act) (w : World), SR ρ X p a w → (∀ e p' a' w', Φ e p' → SR ρ X p' a' w' → Q e.conv a' w') → c.wpIn (fc X.ro) X.n P Q a w
section
variable {P : Program} {C : Ctx} {ρ : Env} {X : Fx} {c d : Code} {p : Pt} {Φ Ψ : Ex → Pt → Prop}
theorem Inv.same {σ σ' : Mp} {cur : Cur} {base n0 : Nat} {W : List Nat} {w0 w : World} {s s' : St} (h : Inv ρ σ cur base W n0 w0 s σ' w) (h1 : s'.next = s.next) (h2 : s'.heap = s.heap) : Inv ρ σ cur base W n0 w0 s' σ' w :=
  ⟨by rw [h1]; exact h.ext, by rw [h1, h2]; exact h.H, h.K, by rw [h1]; exact h.F⟩
/-- The evaluator runs. -/
theorem Sem.evalS {m : Nat} {s0 : St} {e : Ex} {T' : Tr CV} {s' : St} {R W : List Nat} (hC : CtxOk3 P C) (hM : MemoOk P C ρ) (hX : FxOk ρ X) (hr : regsOk c = true) (hs1 : s0.heap = p.h) (hs2 : s0.next = p.n) (he : Cx.eval C m X.base (.code c X.nt p.T) s0 = some ⟨.code e T', s', R, W⟩)
    (hp : ∀ q ∈ s'.pc, q.holds ρ) (hW : ∀ b ∈ W, b ∈ X.W) (hΦ : Φ e ⟨T', s'.heap, s'.next⟩) : Sem P ρ X c p Φ := by
  intro Q a w hS hQ
  obtain ⟨σ1, hI, hF⟩ := hS.rel
  have k1 := (eval_ok (ρ := ρ) hC hM m).code _ _ _ _ _ _ _ _ _ _ he (by rw [hs2]; exact hS.le)
  refine (k1.run hr X.W X.ro X.n Q σ1 (upd X.cur X.base p.n p.h X.W) w a a hW hX.lt hp (fun l hl => (hX.ro l hl).elim fun r h1 => hI.K.loops l r h1) hI.H (fun b hb => ?_) (fun b h1 h2 => ?_) hF.self ?_).wpIn
  · rw [hs2] at hb
    rw [hs1]
    show (if b ∈ X.W ∨ (X.base ≤ b ∧ b < p.n) then _ else X.cur b) = p.h.get b
    by_cases hc : b ∈ X.W ∨ (X.base ≤ b ∧ b < p.n)
    · rw [if_pos hc]
    · rw [if_neg hc]
      rcases hb with hb | hb
      · exact hS.old b (k1.lt b (.inl hb)) (fun h => hc (.inl h))
      · exact absurd hb hc
  · rw [hs2] at h1
    rw [hI.ext b (.inr h1)]; exact hX.N b (Nat.le_trans hS.le h1)
  · rintro a' w' ⟨σ2, hI2, hF2⟩
    have n1 : p.n ≤ s'.next := by rw [← hs2]; exact k1.frm.next
    have f2 : FrmB X.base (p.st []) s' X.W := ⟨n1, fun b hb hn => by show _ = p.h.get b; rw [← hs1]; exact k1.frm.get b (fun h => hb (hW b h)) hn, ⟨s'.pc, by simp [Pt.st]⟩⟩
    have hI2 : Inv ρ σ1 (upd X.cur X.base p.n p.h X.W) X.base X.W p.n w s' σ2 w' := by rw [← hs2]; rw [← hs2] at hI2; exact hI2
    have hI3 := hI.step hS.le (Nat.le_refl _) hS.le (fun b hb => .inl hb) f2 hI2.ext hI2.H hI2.K hI2.F
    refine hQ e ⟨T', s'.heap, s'.next⟩ a' w' hΦ ⟨Nat.le_trans hS.le n1, fun b hb hn => ?_, σ2, hI3.same rfl rfl, hF2.1, hF2.2.1, hF.2.2.trans hI.K.size (fun k hk => hI2.K.defd k hk) hF2.2.2⟩
    rw [hS.old b hb hn, ← hs1]
    exact (k1.frm.get b (fun h => hn (hW b h)) (fun h => by omega)).symm
theorem Sem.pre {p2 : Pt} (hs : ∀ a w, SR ρ X p a w → SR ρ X p2 a w) (h : Sem P ρ X c p2 Φ) : Sem P ρ X c p Φ :=
  fun Q a w hS hQ => h Q a w (hs a w hS) hQ
/-- What follows in a sequence. -/
def Then (P : Program) (ρ : Env) (X : Fx) (d : Code) (Φ : Ex → Pt → Prop) : Ex → Pt → Prop
  | .normal, p => Sem P ρ X d p Φ
  | e, p => Φ e p
theorem Sem.seq (h : Sem P ρ X c p (Then P ρ X d Φ)) : Sem P ρ X (.seq c d) p Φ := by
  intro Q a w hS hQ
  refine wpIn_seq (h _ a w hS fun e p' a' w' h1 h2 => ?_)
  cases e with
  | normal => exact h1 Q a' w' h2 hQ
  | exit i => exact hQ _ _ _ _ h1 h2
  | ret => exact hQ _ _ _ _ h1 h2
def Inside (i : Nat) (Φ : Ex → Pt → Prop) : Ex → Pt → Prop
  | .exit j, p => bif Nat.beq j i then Φ .normal p else Φ (.exit j) p
  | e, p => Φ e p
theorem Sem.block {i : Nat} (h : Sem P ρ X c p (Inside i Φ)) : Sem P ρ X (.block i c) p Φ := by
  intro Q a w hS hQ
  refine wpIn_block (h _ a w hS fun e p' a' w' h1 h2 => ?_)
  cases e with
  | normal => exact hQ _ _ _ _ h1 h2
  | ret => exact hQ _ _ _ _ h1 h2
  | exit j =>
    show (if j = i then Q .normal a' w' else Q (.exit j) a' w')
    simp only [Inside] at h1
    by_cases hj : j = i
    · rw [if_pos hj]
      have e1 : Nat.beq j i = true := by rw [hj]; exact Nat.beq_refl i
      rw [e1] at h1
      exact hQ _ _ _ _ h1 h2
    · rw [if_neg hj]
      have e1 : Nat.beq j i = false := by
        cases hbq : Nat.beq j i with
        | false => rfl
        | true => exact absurd (Nat.eq_of_beq_eq_true hbq) hj
      rw [e1] at h1
      exact hQ _ _ _ _ h1 h2
theorem Sem.scope (h : Sem P ρ X c p Φ) : Sem P ρ X (.scope c) p Φ := by
  intro Q a w hS hQ
  refine wpIn_scope (h _ a w hS fun e p' a' w' h1 h2 => ?_)
  have := hQ e p' a' w' h1 h2
  cases e <;> exact this
theorem Sem.cond {x : Operand} {e : BE} {v : Bool} (hx : ev p.T x = some (.bool e)) (hv : e.den ρ = v) (h : Sem P ρ X (if v then c else d) p Φ) : Sem P ρ X (.cond x c d) p Φ := by
  intro Q a w hS hQ
  obtain ⟨σ1, hI, hF⟩ := hS.rel
  have hxv := (ev_run (σ := σ1) (ρ := ρ) (a := a) (fun t _ => hF.2.1 t) hx).bool_inv
  rw [hv] at hxv
  exact wpIn_cond hxv (h Q a w hS hQ)
/-! ## Points named anew -/
/-- A value under other names. -/
def MC (ρ : Env) (ren : Nat → Nat) (n2 : Nat) (c0 c : CV) : Prop := ∀ (σ σ2 : Mp) (v : Value), (∀ b, b < n2 → σ2 b = σ (ren b)) → VR ρ σ c0 v → VR ρ σ2 c v
def MB (ρ : Env) (ren : Nat → Nat) (n2 : Nat) (k0 k : Blk) : Prop := k.live = k0.live ∧ k.esz = k0.esz ∧ k.ext = none ∧ (k.ro = false → k0.ro = false) ∧ ∀ (σ σ2 : Mp) (us : List Value), (∀ b, b < n2 → σ2 b = σ (ren b)) → VRl ρ σ k0.cells us → VRl ρ σ2 k.cells us
/-- The record of a range, under other names. -/
def MX (ρ : Env) (ren : Nat → Nat) (n2 : Nat) (k0 k : Blk) : Prop := k.live = false ∧ ∃ r0 r : LR, k0.ext = some (.loop r0) ∧ k.ext = some (.loop r) ∧ r.nt = r0.nt ∧ r.ps = r0.ps ∧ r.assign = r0.assign ∧ r.body = r0.body ∧ r.st = r0.st ∧ r.pend = r0.pend ∧ ∀ t, MC ρ ren n2 (rd r0.T t) (rd r.T t)
structure Mat (ρ : Env) (X : Fx) (ren : Nat → Nat) (p p2 : Pt) : Prop where
  le : X.base ≤ p2.n
  fix : ∀ b, b < X.base → ren b = b
  rng : ∀ b, X.base ≤ b → b < p2.n → X.base ≤ ren b ∧ ren b < p.n
  inj : ∀ b b', b < p2.n → b' < p2.n → ren b = ren b' → b = b'
  T : ∀ t, MC ρ ren p2.n (rd p.T t) (rd p2.T t)
  old : ∀ b, b < X.base → b ∉ X.W → p2.h.get b = p.h.get b
  blk : ∀ b k, (b ∈ X.W ∨ (X.base ≤ b ∧ b < p2.n)) → p2.h.get b = some k → ∃ k0, p.h.get (ren b) = some k0 ∧ (MB ρ ren p2.n k0 k ∨ MX ρ ren p2.n k0 k)
theorem Inv.mat {ren : Nat → Nat} {p2 : Pt} {w : World} {σ : Mp} (hX : FxOk ρ X) (hI : Inv ρ X.σ X.cur X.base X.W X.base X.w (p.st []) σ w) (hm : Mat ρ X ren p p2) : Inv ρ X.σ X.cur X.base X.W X.base X.w (p2.st []) (fun b => if b < p2.n then σ (ren b) else none) w := by
  have ltn : ∀ b, b < X.base → b < p2.n := fun b hb => Nat.lt_of_lt_of_le hb hm.le
  have low : ∀ b, b < X.base → (if b < p2.n then σ (ren b) else none) = X.σ b := fun b hb => by
    rw [if_pos (ltn b hb), hm.fix b hb]; exact hI.ext b (.inl hb)
  have hle0 : X.σ.le σ := hI.ext.le (fun b h1 h2 => hX.N b h1)
  have hle2 : X.σ.le (fun b => if b < p2.n then σ (ren b) else none) := fun b l hl => by
    show (if b < p2.n then σ (ren b) else none) = _
    by_cases hb : b < X.base
    · rw [low b hb]; exact hl
    · rw [hX.N b (by omega)] at hl; cases hl
  -- the blocks of either kind
  have cases2 : ∀ b k, upd X.cur X.base p2.n p2.h X.W b = some k → ∀ l, (if b < p2.n then σ (ren b) else none) = some l → b < p2.n ∧ σ (ren b) = some l ∧
      ((∃ k0, upd X.cur X.base p.n p.h X.W (ren b) = some k0 ∧ (MB ρ ren p2.n k0 k ∨ MX ρ ren p2.n k0 k)) ∨ (b < X.base ∧ ren b = b ∧ X.cur b = some k ∧ upd X.cur X.base p.n p.h X.W (ren b) = some k ∧ X.σ b = some l)) := by
    intro b k hk l hl
    have hb : b < p2.n := by
      by_cases h : b < p2.n
      · exact h
      · rw [if_neg h] at hl; cases hl
    rw [if_pos hb] at hl
    refine ⟨hb, hl, ?_⟩
    by_cases hc : b ∈ X.W ∨ (X.base ≤ b ∧ b < p2.n)
    · left
      have hk' : p2.h.get b = some k := by
        have : (if b ∈ X.W ∨ (X.base ≤ b ∧ b < p2.n) then p2.h.get b else X.cur b) = some k := hk
        rwa [if_pos hc] at this
      obtain ⟨k0, h1, h2⟩ := hm.blk b k hc hk'
      refine ⟨k0, ?_, h2⟩
      show (if ren b ∈ X.W ∨ (X.base ≤ ren b ∧ ren b < p.n) then p.h.get (ren b) else X.cur (ren b)) = some k0
      rw [if_pos]
      · exact h1
      · rcases hc with hc | hc
        · left; rw [hm.fix b (hX.lt b hc)]; exact hc
        · right; exact hm.rng b hc.1 hc.2
    · right
      have hb0 : b < X.base := by
        by_cases h : b < X.base
        · exact h
        · exact absurd (.inr ⟨by omega, hb⟩) hc
      have hk' : X.cur b = some k := by
        have : (if b ∈ X.W ∨ (X.base ≤ b ∧ b < p2.n) then p2.h.get b else X.cur b) = some k := hk
        rwa [if_neg hc] at this
      refine ⟨hb0, hm.fix b hb0, hk', ?_, ?_⟩
      · rw [hm.fix b hb0]
        show (if b ∈ X.W ∨ (X.base ≤ b ∧ b < p.n) then p.h.get b else X.cur b) = some k
        rw [if_neg (fun h => h.elim (fun h => hc (.inl h)) (fun h => by omega))]
        exact hk'
      · rw [← low b hb0, if_pos hb]; exact hl
  refine ⟨fun b hb => ?_, ⟨fun b k l hk hlive hl => ?_, fun b b' k k' l l' a1 a2 a3 a4 a5 a6 a7 a8 => ?_, fun b k x l hk hx hl => ?_, fun b b' k k' x x' l l' a1 a2 a3 a4 a5 a6 a7 => ?_, fun y hy => ⟨(hI.H.glob y hy).1, fun b k l a1 a2 ar a3 => ?_⟩⟩, hI.K, fun b l h1 h2 h3 => ?_⟩
  · show (if b < p2.n then σ (ren b) else none) = X.σ b
    rcases hb with hb | hb
    · exact low b hb
    · have hb' : ¬ b < p2.n := by have : p2.n ≤ b := hb; omega
      rw [if_neg hb', hX.N b (Nat.le_trans hm.le hb)]
  · obtain ⟨hb, hl', hc⟩ := cases2 b k hk l hl
    rcases hc with ⟨k0, h1, ⟨h2, h3, h4, hk0, h5⟩ | ⟨hx, _⟩⟩ | ⟨hb0, hren, hcur, hup, hσ0⟩
    · obtain ⟨cs, t, ppq1, q1, qqq1, q2, q3, q4, q5⟩ := hI.H.cell (ren b) k0 l h1 (h2 ▸ hlive) hl'
      have l1 := q5.length
      have q6 := h5 σ (fun b => if b < p2.n then σ (ren b) else none) _ (fun b hb => if_pos hb) q5
      have l2 := q6.length
      have hlen : k.cells.length = k0.cells.length := l2.symm.trans l1
      exact ⟨cs, t, ppq1, q1, fun h => qqq1 (hk0 h), q2, h3.trans q3, by rw [hlen]; exact q4, by rw [hlen]; exact q6⟩
    · rw [hx] at hlive; cases hlive
    · obtain ⟨cs, t, ppq1, q1, qqq1, q2, q3, q4, q5⟩ := hI.H.cell (ren b) k l hup hlive hl'
      obtain ⟨cs0, t0, ppr1, r1, qqr1, r2, r3, r4, r5⟩ := hX.H.cell b k l hcur hlive hσ0
      exact ⟨cs, t, ppq1, q1, qqq1, q2, q3, q4, (VRl.back hle0 r5 q5).mono hle2⟩
  · obtain ⟨hb, hl1, hc⟩ := cases2 b k a1 l a3
    obtain ⟨hb', hl2, hc'⟩ := cases2 b' k' a4 l' a6
    refine hm.inj b b' hb hb' ?_
    rcases hc with ⟨k0, h1, ⟨h2, _, _, r1, _⟩ | ⟨hx, _⟩⟩ | ⟨_, _, _, hup, _⟩
    · rcases hc' with ⟨k1, g1, ⟨g2, _, _, r2, _⟩ | ⟨hx', _⟩⟩ | ⟨_, _, _, hup', _⟩
      · exact hI.H.inj _ _ k0 k1 l l' h1 (h2 ▸ a2) hl1 g1 (g2 ▸ a5) hl2 a7 (a8.imp r1 r2)
      · rw [hx'] at a5; cases a5
      · exact hI.H.inj _ _ k0 k' l l' h1 (h2 ▸ a2) hl1 hup' a5 hl2 a7 (a8.imp r1 id)
    · rw [hx] at a2; cases a2
    · rcases hc' with ⟨k1, g1, ⟨g2, _, _, r2, _⟩ | ⟨hx', _⟩⟩ | ⟨_, _, _, hup', _⟩
      · exact hI.H.inj _ _ k k1 l l' hup a2 hl1 g1 (g2 ▸ a5) hl2 a7 (a8.imp id r2)
      · rw [hx'] at a5; cases a5
      · exact hI.H.inj _ _ k k' l l' hup a2 hl1 hup' a5 hl2 a7 a8
  · obtain ⟨hb, hl', hc⟩ := cases2 b k hk l hl
    rcases hc with ⟨k0, h1, ⟨h2, h3, h4, h5⟩ | ⟨_, r0, r, e0, e1, m1, m2, m3, m4, m5, m6, m7⟩⟩ | ⟨hb0, hren, hcur, hup, hσ0⟩
    · rw [h4] at hx; cases hx
    · rw [e1] at hx
      cases hx
      have s1 := hI.H.spec (ren b) k0 _ l h1 e0 hl'
      cases s1 with
      | loop q hq hs hp hps ha hb' hn hT ra rb =>
        refine .loop q hq (hs.trans m5.symm) (hp.trans m6.symm) (hps.trans m2.symm) (ha.trans m3.symm) (hb'.trans m4.symm) (hn.trans m1.symm) (fun t => m7 t σ _ _ (fun b hb => if_pos hb) (hT t)) (by rw [m3]; exact ra) (by rw [m4]; exact rb)
    · have s1 := hI.H.spec (ren b) k x l hup hx hl'
      exact ((hX.H.spec b k x l hcur hx hσ0).back hle0 s1).mono hle2
  · obtain ⟨hb, hl1, hc⟩ := cases2 b k a1 l a3
    obtain ⟨hb', hl2, hc'⟩ := cases2 b' k' a4 l' a6
    refine hm.inj b b' hb hb' ?_
    have ex : ∀ {c : Nat} {k : Blk} {x : BX} {l : Loc}, k.ext = some x → ((∃ k0, upd X.cur X.base p.n p.h X.W (ren c) = some k0 ∧ (MB ρ ren p2.n k0 k ∨ MX ρ ren p2.n k0 k)) ∨ (c < X.base ∧ ren c = c ∧ X.cur c = some k ∧ upd X.cur X.base p.n p.h X.W (ren c) = some k ∧ X.σ c = some l)) → ∃ k0 x0, upd X.cur X.base p.n p.h X.W (ren c) = some k0 ∧ k0.ext = some x0 := fun {c k x l} hx h => by
      rcases h with ⟨k0, h1, ⟨_, _, h4, _⟩ | ⟨_, r0, r, e0, _⟩⟩ | ⟨_, _, _, hup, _⟩
      · rw [h4] at hx; cases hx
      · exact ⟨k0, _, h1, e0⟩
      · exact ⟨k, x, hup, hx⟩
    obtain ⟨k0, x0, u1, u2⟩ := ex a2 hc
    obtain ⟨k1, x1, v1, v2⟩ := ex a5 hc'
    exact hI.H.injX _ _ k0 k1 x0 x1 l l' u1 u2 hl1 v1 v2 hl2 a7
  · obtain ⟨hb, hl1, hc⟩ := cases2 b k a1 l a3
    rcases hc with ⟨k0, h1, ⟨h2, _, _, r1, _⟩ | ⟨hx', _⟩⟩ | ⟨_, _, _, hup, _⟩
    · exact (hI.H.glob y hy).2 _ k0 l h1 (h2 ▸ a2) (r1 ar) hl1
    · rw [hx'] at a2; cases a2
    · exact (hI.H.glob y hy).2 _ k l hup a2 ar hl1
  · have h2' : b < p2.n := h2
    have h3' : (if b < p2.n then σ (ren b) else none) = some l := h3
    rw [if_pos h2'] at h3'
    obtain ⟨r1, r2⟩ := hm.rng b h1 h2'
    exact hI.F (ren b) l r1 r2 h3'
theorem SR.mat {ren : Nat → Nat} {p2 : Pt} {a : Act} {w : World} (hX : FxOk ρ X) (hS : SR ρ X p a w) (hm : Mat ρ X ren p p2) : SR ρ X p2 a w := by
  obtain ⟨σ, hI, hF⟩ := hS.rel
  exact ⟨hm.le, fun b h1 h2 => (hS.old b h1 h2).trans (hm.old b h1 h2).symm, fun b => if b < p2.n then σ (ren b) else none, hI.mat hX hm, hF.1, fun t => hm.T t σ _ _ (fun b hb => if_pos hb) (hF.2.1 t), hF.2.2⟩
theorem Sem.mat {ren : Nat → Nat} {p2 : Pt} (hX : FxOk ρ X) (hm : Mat ρ X ren p p2) (h : Sem P ρ X c p2 Φ) : Sem P ρ X c p Φ := .pre (fun a w hS => hS.mat hX hm) h
end
end Go.Proofs.Ythagjhadjpangaa.Cx

/- Arithmetic for the trees: what the terms of a tree say, without their wraps. -/
namespace Go.Proofs.Ythagjhadjpangaa.Cx
set_option linter.unusedSimpArgs false
set_option linter.unusedVariables false
open Go Go.RowKit
/-! The terms as they read. -/
section
variable {ρ : Env} {A B : IE} {x y z : Int}
end
end Go.Proofs.Ythagjhadjpangaa.Cx

/- The program keeps to what the evaluator asks of one. -/
namespace Go.Proofs.Ythagjhadjpangaa.Cx
set_option maxRecDepth 100000
open Go Go.Proofs Go.RowKit
theorem try_ok : progOk Try.prog = true := by kernel_rfl
end Go.Proofs.Ythagjhadjpangaa.Cx

/- Arguments opened, as flat cells: what every opener wants. -/
namespace Go.Proofs.Ythagjhadjpangaa
open Go.ChangeShapes Go.WideShapes Go.RowKit Go.Deep
section
variable {H : Type} {enc : TypeId × Value → H} {P : Program} {w : World} {base : Nat} {spare : Nat → Bool} {held : Bool}
theorem okWide_arr {r : Reach} {b0 : Nat} {v : Value} {n : Nat} {e : TypeId} {t : TypeId} (ht : P.underlying t = some (.array n e)) (h : Value.okWide P w r b0 t v) : ∃ cs, v = .agg cs ∧ cs.size = P.cellsOf t := by
  simp only [Value.okWide, ht] at h
  obtain ⟨cs, h1, h2, _⟩ := h
  exact ⟨cs, h1, h2⟩
end
theorem rng_u8 {n : Int} (h : (Lit.int .u8 n).wf = true) : 0 ≤ n ∧ n ≤ 255 := by
  have : IntKind.u8.min ≤ n ∧ n ≤ IntKind.u8.max := by simpa [Lit.wf] using h
  exact this
end Go.Proofs.Ythagjhadjpangaa

/- ARGUMENTS THAT ARE SLICES, READ AT KNOWN PLACES: opened as lists, their rows as blocks of their own; a law at symbols whose arguments hold such slices. -/
namespace Go.Proofs.Ythagjhadjpangaa.Cx
set_option linter.unusedSimpArgs false
set_option linter.unusedVariables false
open Go Go.RowKit Go.ChangeShapes Go.WideShapes Go.Deep Go.Proofs.Ythagjhadjpangaa
/-! ## Rows of integers -/
/-! ## Slices of rows -/
/-- A slice of rows of z cells in the world, read as a list. -/
def SlR {α : Type} (en : α → List Value) (z : Nat) (w : World) (v : Value) (xs : List α) : Prop :=
  ∃ a cap, v = .slice a xs.length cap ∧ xs.length ≤ cap ∧ xs.length ≤ 9223372036854775807 ∧
    (xs = [] ∨ ∃ b off c t p, a = some ⟨b, off, none⟩ ∧ w.heap[b]? = some (.cells c t p) ∧ off + xs.length * z ≤ c.size ∧ (c.toList.drop off).take (xs.length * z) = xs.flatMap en)
theorem cell_cells {w : World} {a : Addr} {u : Value} (h : w.cell? a = some u) : a = ⟨a.block, a.off, none⟩ ∧ ∃ c t p, w.heap[a.block]? = some (.cells c t p) := by
  unfold World.cell? at h
  split at h
  · rename_i c e f hh
    split at h
    · cases h
    · rename_i hs
      refine ⟨?_, c, e, f, hh⟩
      have : a.spot = none := by simpa using hs
      obtain ⟨b, o, s⟩ := a
      simp only at this
      subst this
      rfl
  · cases h
theorem cell_at {w : World} {b o : Nat} {c : Array Value} {t : TypeId} {p : Nat × Nat} (h : w.heap[b]? = some (.cells c t p)) : w.cell? ⟨b, o, none⟩ = c[o]? := by
  simp [World.cell?, h]
section
variable {H : Type} {enc : TypeId × Value → H} {P : Program} {w : World} {base : Nat} {spare : Nat → Bool} {held : Bool}
theorem sl_open {α : Type} {en : α → List Value} {ok : α → Prop} {z : Nat} {t e : TypeId} {fuel : Nat} {cs : List Value} {y : DataW H × List MemPlace} (hz1 : 1 ≤ z) (hz : ∀ x, (en x).length = z) (ht : P.underlying t = some (.slice e)) (hc : P.cellsOf e = z)
    (hE : ∀ n cs y, cs.length = z → DataW.trod enc P w base spare held n e cs = some y → ∃ x, cs = en x ∧ ok x) (h : DataW.trod enc P w base spare held fuel t cs = some y) :
    ∃ v xs, cs = [v] ∧ SlR en z w v xs ∧ ∀ x ∈ xs, ok x := by
  rcases DataW.trod_slice ht h with ⟨h0, _⟩ | ⟨a, len, cap, elems, rest, n, _, h0, _, _, hl, hm, hlen, hel, _, _⟩
  · exact ⟨_, [], h0, ⟨none, 0, rfl, Nat.zero_le _, Nat.zero_le _, .inl rfl⟩, fun x hx => by cases hx⟩
  · have each : ∀ i, i < len → ∃ x, ok x ∧ w.cells? base (a.add (i * z)) z = some (en x) := by
      intro i hi
      have h1 := hel i hi
      rw [hc, List.getElem?_eq_getElem (by omega), Option.bind_eq_some_iff] at h1
      obtain ⟨cs', hcs, hy⟩ := h1
      obtain ⟨_, hl', hcell⟩ := World.cells?_some hcs
      obtain ⟨x, rfl, hx⟩ := hE _ cs' _ hl' hy
      exact ⟨x, hx, hcs⟩
    refine ⟨_, List.ofFn (fun i : Fin len => Classical.choose (each i i.2)), h0, ⟨some a, cap, by rw [List.length_ofFn], by rw [List.length_ofFn]; exact hl, by rw [List.length_ofFn]; unfold maxLen at hm; omega, ?_⟩, fun x hx => ?_⟩
    · by_cases hz0 : len = 0
      · subst hz0; exact .inl rfl
      · right
        have get : ∀ i (hi : i < len) j, j < z → w.cell? ((a.add (i * z)).add j) = (en (Classical.choose (each i hi)))[j]? := by
          intro i hi j hj
          exact (World.cells?_some (Classical.choose_spec (each i hi)).2).2.2 j hj
        have c0 := get 0 (by omega) 0 (by omega)
        rw [List.getElem?_eq_getElem (by rw [hz]; omega)] at c0
        have a00 : (a.add (0 * z)).add 0 = a := by simp [Addr.add]
        rw [a00] at c0
        obtain ⟨ea, c, t', p, hh⟩ := cell_cells c0
        have eadd : ∀ i j, (a.add i).add j = ⟨a.block, a.off + i + j, none⟩ := by
          intro i j
          rw [ea, add_none, add_none]
        have hcell : ∀ i (hi : i < len) j, j < z → c[a.off + i * z + j]? = (en (Classical.choose (each i hi)))[j]? := by
          intro i hi j hj
          rw [← cell_at hh, ← eadd]; exact get i hi j hj
        have key : ∀ n, n ≤ len → a.off + n * z ≤ c.size ∧ (c.toList.drop a.off).take (n * z) = ((List.ofFn (fun i : Fin len => Classical.choose (each i i.2))).take n).flatMap en := by
          intro n
          induction n with
          | zero =>
            intro _
            have hlt : a.off < c.size := by
              have := hcell 0 (by omega) 0 (by omega)
              rw [List.getElem?_eq_getElem (by rw [hz]; omega)] at this
              have := (Array.getElem?_eq_some_iff.1 this).1
              simpa using this
            exact ⟨by simp; omega, by simp⟩
          | succ n ih =>
            intro hn
            obtain ⟨i1, i2⟩ := ih (by omega)
            have row : (c.toList.drop (a.off + n * z)).take z = en (Classical.choose (each n (by omega))) := by
              apply List.ext_getElem?
              intro j
              by_cases hj : j < z
              · rw [List.getElem?_take_of_lt hj, List.getElem?_drop, Array.getElem?_toList]
                exact hcell n (by omega) j hj
              · rw [List.getElem?_eq_none (by simp; omega), List.getElem?_eq_none (by rw [hz]; omega)]
            have hlast : a.off + n * z + (z - 1) < c.size := by
              have := hcell n (by omega) (z - 1) (by omega)
              rw [List.getElem?_eq_getElem (by rw [hz]; omega)] at this
              exact (Array.getElem?_eq_some_iff.1 this).1
            refine ⟨by rw [Nat.succ_mul]; omega, ?_⟩
            rw [Nat.succ_mul, List.take_add, i2, List.drop_drop, row, List.take_add_one, List.flatMap_append, List.getElem?_ofFn, dif_pos (by omega)]
            simp
        obtain ⟨k1, k2⟩ := key len (Nat.le_refl _)
        refine ⟨a.block, a.off, c, t', p, by rw [← ea], hh, by rw [List.length_ofFn]; exact k1, ?_⟩
        rw [List.length_ofFn, k2, List.take_of_length_le (by simp)]
    · obtain ⟨i, rfl⟩ := List.mem_ofFn.1 hx
      exact (Classical.choose_spec (each i i.2)).1
end
section
variable {H : Type} {enc : TypeId × Value → H} {P : Program} {w : World} {base : Nat} {spare : Nat → Bool} {held : Bool}
end
/-! ## Blocks that are read alone -/
noncomputable def curOf (h : Tr Blk) (base : Nat) : Cur := fun b => if b < base then h.get b else none
section
variable {P : Program} {ρ : Env}
/-- A block that is read alone, where it lies. -/
structure ArgAt (ρ : Env) (w : World) (k : Blk) (lo : Option Loc) : Prop where
  live : k.live = true
  ro : k.ro = true
  ext : k.ext = none
  at' : ∀ l, lo = some l → ∃ c t p, w.heap[l.blk]? = some (.cells c t p) ∧ c.size = l.size ∧ k.esz = l.esz ∧ l.base + k.cells.length ≤ l.size ∧ ∀ σ, VRl ρ σ k.cells ((c.toList.drop l.base).take k.cells.length)
theorem HR.ofArgs {h : Tr Blk} {base : Nat} {σ : Mp} {w : World} (hL : Laid w) (ha : ∀ i k, i < base → h.get i = some k → ArgAt ρ w k (σ i)) : HR ρ σ (curOf h base) w := by
  have get : ∀ b k, curOf h base b = some k → ArgAt ρ w k (σ b) := fun b k hk => by
    unfold curOf at hk
    split at hk
    · rename_i hb; exact ha b k hb hk
    · cases hk
  refine ⟨fun b k l a1 a2 a3 => ?_, fun b b' k k' l l' a1 a2 a3 a4 a5 a6 a7 a8 => ?_, fun b k x l a1 a2 a3 => ?_, fun b b' k k' x x' l l' a1 a2 a3 a4 a5 a6 a7 => ?_, fun y hy => ⟨hL y hy, fun b k l a1 _ ar _ => by rw [(get b k a1).ro] at ar; cases ar⟩⟩
  · have := get b k a1
    obtain ⟨c, t, p, q1, q2, q3, q4, q5⟩ := this.at' l a3
    exact ⟨c, t, p, q1, (fun h => by rw [this.ro] at h; cases h), q2, q3, q4, q5 σ⟩
  · rw [(get b k a1).ro, (get b' k' a4).ro] at a8
    rcases a8 with h | h <;> cases h
  · rw [(get b k a1).ext] at a2; cases a2
  · rw [(get b k a1).ext] at a2; cases a2
/-! ## Laws -/
end
/-! ## Several such slices -/
end Go.Proofs.Ythagjhadjpangaa.Cx

/- CONTRACTS: what a call does to a small memory, proved once; what the evaluator may take it for in any memory. -/
namespace Go.Proofs.Ythagjhadjpangaa.Cx
set_option linter.unusedSimpArgs false
set_option linter.unusedVariables false
open Go Go.RowKit
/-! ## What is picked of a run -/
/-- A call in a small memory. -/
structure Ctr (P : Program) (ρ : Env) (f : Nat) (args : List CV) (h0 : Tr Blk) (base : Nat) (W : List Nat) (c : CV) (h1 : Tr Blk) (n1 : Nat) : Prop where
  fn : ∃ fn, P.funcs[f]? = some fn ∧ fn.body.isSome = true
  run : ∀ (n : Nat) (σ : Mp) (w : World) (args' : Array Value), VRl ρ σ args args'.toList → HR ρ σ (curOf h0 base) w → (∀ b, base ≤ b → σ b = none) →
    CallsIn (fc none) n P f args' w (Ret (Post ρ σ (curOf h0 base) base w c ⟨h1, n1, [], []⟩ W))
section
variable {P : Program} {memo : Memo} {ρ : Env} {f : Nat} {args : List CV} {h0 h1 : Tr Blk} {base n1 : Nat} {W : List Nat} {c : CV}
/-- A function's body, from the start, gives its contract. -/
theorem Ctr.of_sem {fn : Func} {body : Code} {Φ : Ex → Pt → Prop} (hP : progOk P = true) (hfn : P.funcs[f]? = some fn) (hb : fn.body = some body) (hl : args.length ≤ fn.ntmps) (hW : ∀ b ∈ W, b < base)
    (h : ∀ X : Fx, X.base = base → X.nt = fn.ntmps → X.W = W → FxOk ρ X → Sem P ρ X body ⟨args0 0 args .nil, h0, base⟩ Φ)
    (hres : ∀ X : Fx, X.base = base → X.W = W → FxOk ρ X → ∀ e p, Φ e p → e.stays = true ∧ ∃ (ren : Nat → Nat) (p2 : Pt) (vs : List CV) (R' : List Nat), Mat ρ X ren p p2 ∧ p2.n = n1 ∧ (∀ b, (b ∈ W ∨ (base ≤ b ∧ b < n1)) → h1.get b = p2.h.get b) ∧ resE (ctxOf P memo0) p.T (p.st []) fn.results.toList = some (vs, R') ∧ MC ρ ren n1 (tupC vs) c) :
    Ctr P ρ f args h0 base W c h1 n1 := by
  have hC := ctxOf_ok hP (memo0 : Memo)
  refine ⟨⟨fn, hfn, by rw [hb]; rfl⟩, ?_⟩
  intro n σ w args1 hargs hH hN
  have hlen2 := hargs.length
  simp only [Array.length_toList] at hlen2
  obtain ⟨X, hX⟩ : ∃ X : Fx, X = ⟨σ, curOf h0 base, base, W, w, fn.ntmps, ⟨args1 ++ Array.replicate (fn.ntmps - args1.size) Go.undef, []⟩, none, n⟩ := ⟨_, rfl⟩
  have hXo : FxOk ρ X := by rw [hX]; exact ⟨hH, hN, hW, fun l hl => by cases hl⟩
  have hS := h X (by rw [hX]) (by rw [hX]) (by rw [hX]) hXo
  refine callsIn_of_wp_marks (hC.fn f fn hfn).1 hb trivial ?_
  have key := hS (bodyPostM (fc none) n P fn (Ret (Post ρ σ (curOf h0 base) base w c ⟨h1, n1, [], []⟩ W))) ⟨args1 ++ Array.replicate (fn.ntmps - args1.size) Go.undef, []⟩ w ?_ ?_
  · rw [hX] at key; exact key
  · rw [hX]
    refine ⟨Nat.le_refl _, fun b h1 h2 => if_pos h1, σ, ?_, (args0_rel hargs hl []).marks _ _⟩
    refine Inv.start (s := ⟨h0, base, [], []⟩) hH (fun b hb' => ?_)
    rcases hb' with hb' | hb'
    · exact if_pos (hW b hb')
    · have : base ≤ b ∧ b < base := hb'; omega
  · intro e p a' w'0 hΦ hS'
    obtain ⟨he, ren, p2, vs, R', hmat, hn, hh, hr, hc⟩ := hres X (by rw [hX]) (by rw [hX]) hXo e p hΦ
    have toX : ∀ {σ'' : Mp} {w' : World}, Inv ρ σ (curOf h0 base) base W base w (p.st []) σ'' w' → Inv ρ σ (curOf h0 base) base W base w (p2.st []) (fun b => if b < p2.n then σ'' (ren b) else none) w' := fun {σ'' w'} hI => by
      have := Inv.mat (X := X) hXo (by rw [hX]; exact hI) hmat
      rw [hX] at this; exact this
    rw [hX] at hS'
    obtain ⟨hle, hold, σ', hI0, hF⟩ := hS'
    have hle : base ≤ p.n := hle
    have hfin : LeavesInM (fc none) n P fn a'.tmps (Ret (Post ρ σ (curOf h0 base) base w c ⟨h1, n1, [], []⟩ W)) a'.defers .returning w'0 := by
      obtain ⟨ml, hml, hmn, hmd⟩ := hF.2.2
      rw [hml, List.append_nil]
      refine leaves_marks (J := fun w' => Inv ρ σ (curOf h0 base) base W base w (p.st []) σ' w') (N0 := w.heap.size) (fun w2 D hI hD1 hD2 => ⟨hI.ext, hI.H.put hD2 (fun _ _ _ h => by cases h) (fun _ h => by cases h) (fun _ _ h => by cases h), ⟨hI.K.os, hI.K.tape, hI.K.output, by rw [World.putObj_size]; exact hI.K.size, fun k hk hne => by rw [World.putObj_heap_other (by omega)]; exact hI.K.block k hk hne, fun k r hk => ?_, fun k hk => ?_⟩, hI.F⟩) (fun w' hI => ?_) ml w'0 hmn hmd hI0
      · have hlt := (Array.getElem?_eq_some_iff.1 hk).1
        obtain ⟨r', hr'⟩ := hI.K.loops k r hk
        exact ⟨r', by rw [World.putObj_heap_other (by omega)]; exact hr'⟩
      · have hlt := (Array.getElem?_eq_some_iff.1 hk).1
        rw [World.putObj_heap_other (by omega)]; exact hI.K.defd k hk
      have hcur : ∀ b ∈ R', upd (curOf h0 base) base p.n p.h W b = p.h.get b := by
        intro b hb'
        show (if b ∈ W ∨ (base ≤ b ∧ b < p.n) then _ else curOf h0 base b) = _
        by_cases hc' : b ∈ W ∨ (base ≤ b ∧ b < p.n)
        · rw [if_pos hc']
        · rw [if_neg hc']
          have hlt : b < p.n := resE_lt hr b hb'
          have hb0 : b < base := by
            by_cases h : b < base
            · exact h
            · exact absurd (.inr ⟨by omega, hlt⟩) hc'
          exact hold b hb0 (fun h => hc' (.inl h))
      obtain ⟨ws, hw1, hw2⟩ := res_run (P := P) (a := a') hC.toCtxOk hI.H hF.2.1 hr hcur
      have hrun : (results fn a'.tmps).run P w' = .ok (if h : ws.length = 1 then ws[0] else .tuple ws.toArray) w' := by
        have hm : (fn.results.mapM (resF a')).run P w' = .ok ws.toArray w' := by
          rw [Array.mapM_eq_mapM_toList]
          simp only [Sem.run_map, hw1, Result.andThen]
        show (Sem.run P (do
          let vs ← fn.results.mapM (resF a')
          pure (if h : vs.size = 1 then vs[0] else .tuple vs)) w') = _
        simp only [Sem.run_bind, hm, Result.andThen, Sem.run_pure]
        by_cases hh1 : ws.length = 1
        · simp [hh1]
        · simp [hh1]
      have hI2 := toX hI
      refine ⟨_, hrun, _, rfl, _, ?_, hc σ' (fun b => if b < p2.n then σ' (ren b) else none) _ (fun b hb => if_pos (by rw [hn]; exact hb)) (tup_rel hw2), ?_, hI2.K, ?_⟩
      · have := hI2.ext; show Ext σ _ base n1; rw [← hn]; exact this
      · have hu : upd (curOf h0 base) base n1 h1 W = upd (curOf h0 base) base p2.n p2.h W := by
          funext b
          show (if b ∈ W ∨ (base ≤ b ∧ b < n1) then h1.get b else _) = (if b ∈ W ∨ (base ≤ b ∧ b < p2.n) then p2.h.get b else _)
          rw [hn]
          by_cases hc' : b ∈ W ∨ (base ≤ b ∧ b < n1)
          · rw [if_pos hc', if_pos hc', hh b hc']
          · rw [if_neg hc', if_neg hc']
        show HR ρ _ (upd (curOf h0 base) base n1 h1 W) w'
        rw [hu]; exact hI2.H
      · have := hI2.F; show Fresh σ _ base n1 base W w; rw [← hn]; exact this
    cases e with
    | normal => exact hfin
    | ret => exact hfin
    | exit i => simp [Ex.stays] at he
end
end Go.Proofs.Ythagjhadjpangaa.Cx

/- POINTS BY LISTS: temporaries and blocks listed; a path of the evaluator; a loop over a family of points. -/
namespace Go.Proofs.Ythagjhadjpangaa.Cx
set_option linter.unusedSimpArgs false
set_option linter.unusedVariables false
open Go Go.RowKit
noncomputable def mkT : List (Nat × CV) → Tr CV
  | [] => .nil
  | (t, c) :: l => (mkT l).set t c
noncomputable def mkH : List (Nat × Blk) → Tr Blk
  | [] => .nil
  | (t, c) :: l => (mkH l).set t c
def codeL : Code → Code
  | .seq a _ => a
  | .cond _ a _ => a
  | .block _ b => b
  | .loop b => b
  | .scope b => b
  | .rangeFunc _ _ a _ => a
  | c => c
def codeR : Code → Code
  | .seq _ b => b
  | .cond _ _ b => b
  | .rangeFunc _ _ _ b => b
  | .block _ b => b
  | .loop b => b
  | .scope b => b
  | c => c
/-- A part of a statement: 0 its first part (a loop's, a block's body), 1 its second one. -/
def codeAt : Code → List Nat → Code
  | c, [] => c
  | c, 0 :: l => codeAt (codeL c) l
  | c, _ :: l => codeAt (codeR c) l
def funcCode (f : Func) : Code := match f.body with | some c => c | none => .skip
theorem rd_mkT (t : Nat) : ∀ (l : List (Nat × CV)), rd (mkT l) t = match l.find? (fun x => x.1 == t) with | some x => x.2 | none => .any
  | [] => rfl
  | (u, c) :: l => by
    have ih := rd_mkT t l
    simp only [mkT, rd, Tr.get_set, List.find?_cons]
    by_cases h : t = u
    · subst h; simp
    · have h' : (u == t) = false := by simp; exact fun e => h e.symm
      rw [if_neg h, h']
      exact ih
theorem get_mkH (t : Nat) : ∀ (l : List (Nat × Blk)), (mkH l).get t = (l.find? (fun x => x.1 == t)).map (·.2)
  | [] => rfl
  | (u, c) :: l => by
    have ih := get_mkH t l
    simp only [mkH, Tr.get_set, List.find?_cons]
    by_cases h : t = u
    · subst h; simp
    · have h' : (u == t) = false := by simp; exact fun e => h e.symm
      rw [if_neg h, h']
      exact ih
section
variable {P : Program} {C : Ctx} {ρ : Env} {X : Fx} {c d : Code} {p : Pt} {Φ Ψ : Ex → Pt → Prop}
/-- The evaluator runs up to a part of a statement: whether it came there, or how the statement was left; what it wrote of old blocks. -/
noncomputable def evalTo (C : Ctx) (m base nt : Nat) : Code → List Nat → Tr CV → St → Option (Bool × Ex × Tr CV × St × List Nat)
  | _, [], T, s => some (true, .normal, T, s, [])
  | .seq a b, d :: l, T, s =>
    bif Nat.beq d 0 then
      match evalTo C m base nt a l T s with
      | some (false, .normal, T1, s1, W1) => match Cx.eval C m base (.code b nt T1) s1 with
        | some ⟨.code e T2, s2, _, W2⟩ => some (false, e, T2, s2, W1 ++ W2)
        | _ => none
      | r => r
    else
      match Cx.eval C m base (.code a nt T) s with
      | some ⟨.code .normal T1, s1, _, W1⟩ => match evalTo C m base nt b l T1 s1 with
        | some (t, e, T2, s2, W2) => some (t, e, T2, s2, W1 ++ W2)
        | none => none
      | some ⟨.code e T1, s1, _, W1⟩ => some (false, e, T1, s1, W1)
      | _ => none
  | .cond x a b, d :: l, T, s =>
    match ev T x with
    | some (.bool e) => match s.decide e with
      | some (v, s1) =>
        bif v == Nat.beq d 0 then evalTo C m base nt (bif v then a else b) l T s1 else
        match Cx.eval C m base (.code (bif v then a else b) nt T) s1 with
        | some ⟨.code e T1, s1, _, W1⟩ => some (false, e, T1, s1, W1)
        | _ => none
      | none => none
    | _ => none
  | .block i b, _ :: l, T, s =>
    match evalTo C m base nt b l T s with
    | some (false, .exit j, T1, s1, W1) => some (false, bif Nat.beq j i then .normal else .exit j, T1, s1, W1)
    | r => r
  | .scope b, _ :: l, T, s => evalTo C m base nt b l T s
  | _, _, _, _ => none
theorem regs_at : ∀ (π : List Nat) {c : Code}, regsOk c = true → regsOk (codeAt c π) = true := by
  have hl : ∀ {c : Code}, regsOk c = true → regsOk (codeL c) = true := fun {c} h => by
    cases c <;> simp only [codeL, regsOk, Bool.and_eq_true] at h ⊢ <;> first | exact h.1 | exact h | trivial
  have hr : ∀ {c : Code}, regsOk c = true → regsOk (codeR c) = true := fun {c} h => by
    cases c <;> simp only [codeR, regsOk, Bool.and_eq_true] at h ⊢ <;> first | exact h.2 | exact h | trivial
  intro π
  induction π with
  | nil => intro c h; exact h
  | cons d l ih =>
    intro c h
    cases d with
    | zero => exact ih (hl h)
    | succ d => exact ih (hr h)
/-! ## Values and blocks under other names -/
theorem MC.any {ren : Nat → Nat} {n2 : Nat} {c : CV} : MC ρ ren n2 c .any := fun _ _ _ _ _ => .any _
theorem MC.plain {ren : Nat → Nat} {n2 : Nat} {c : CV} (h : c.plain = true) : MC ρ ren n2 c c := fun _ _ _ _ hv => hv.plain h
theorem MC.ptr {ren : Nat → Nat} {n2 b b0 o : Nat} (h : ren b = b0) (hb : b < n2) : MC ρ ren n2 (.ptr (some (b0, o))) (.ptr (some (b, o))) := fun σ σ2 v hs hv => by
  subst h
  cases hv with
  | ptr h => exact .ptr (by rw [hs b hb]; exact h)
theorem MC.slc {ren : Nat → Nat} {n2 b b0 o n c : Nat} (h : ren b = b0) (hb : b < n2) : MC ρ ren n2 (.slc (some (b0, o)) n c) (.slc (some (b, o)) n c) := fun σ σ2 v hs hv => by
  subst h
  cases hv with
  | slc h hc hsz => exact .slc (by rw [hs b hb]; exact h) hc hsz
theorem MC.slx {ren : Nat → Nat} {n2 b b0 z o n c : Nat} (h : ren b = b0) (hb : b < n2) : MC ρ ren n2 (.slx b0 z o n c) (.slx b z o n c) := fun σ σ2 v hs hv => .slx (MC.slc h hb σ σ2 v hs hv.slx_inv)
theorem MC.sla {ren : Nat → Nat} {n2 b b0 z o n : Nat} (h : ren b = b0) (hb : b < n2) : MC ρ ren n2 (.sla b0 z o n) (.sla b z o n) := fun σ σ2 v hs hv => by
  subst h
  cases hv with
  | sla h hc => exact .sla (by rw [hs b hb]; exact h) hc
  | sla0 a c => exact .sla0 a c
/-- A slice of rows, read alone. -/
theorem VR.slx_sla {σ : Mp} {b z o n c : Nat} {v : Value} (hv : VR ρ σ (.slx b z o n c) v) (hn : n ≤ c) : VR ρ σ (.sla b z o n) v := by
  have hv := hv.slx_inv
  cases hv with
  | slc h hc hsz => exact .sla h (Nat.le_trans hn hc)
theorem MC.map {ren : Nat → Nat} {n2 b b0 : Nat} (h : ren b = b0) (hb : b < n2) : MC ρ ren n2 (.map b0) (.map b) := fun σ σ2 v hs hv => by
  subst h
  cases hv with
  | map h => exact .map (by rw [hs b hb]; exact h)
inductive MCl (ρ : Env) (ren : Nat → Nat) (n2 : Nat) : List CV → List CV → Prop
  | nil : MCl ρ ren n2 [] []
  | cons {a b : CV} {l m : List CV} (h : MC ρ ren n2 a b) (t : MCl ρ ren n2 l m) : MCl ρ ren n2 (a :: l) (b :: m)
theorem MCl.run {ren : Nat → Nat} {n2 : Nat} {l m : List CV} (h : MCl ρ ren n2 l m) (σ σ2 : Mp) (us : List Value) (hs : ∀ b, b < n2 → σ2 b = σ (ren b)) (hv : VRl ρ σ l us) : VRl ρ σ2 m us := by
  induction h generalizing us with
  | nil => cases hv; exact .nil
  | cons h t ih => cases hv with
    | cons h1 h2 => exact .cons (h σ σ2 _ hs h1) (ih _ h2)
theorem MC.agg {ren : Nat → Nat} {n2 : Nat} {l m : List CV} (h : MCl ρ ren n2 l m) : MC ρ ren n2 (.agg l) (.agg m) := fun σ σ2 v hs hv => by
  obtain ⟨cs, rfl, h1⟩ := hv.agg_inv
  exact .agg (h.run σ σ2 _ hs h1)
theorem MC.tup {ren : Nat → Nat} {n2 : Nat} {l m : List CV} (h : MCl ρ ren n2 l m) : MC ρ ren n2 (.tup l) (.tup m) := fun σ σ2 v hs hv => by
  obtain ⟨cs, rfl, h1⟩ := hv.tup_inv
  exact .tup (h.run σ σ2 _ hs h1)
theorem MC.fn {ren : Nat → Nat} {n2 : Nat} {f : Fn} {l m l' m' : List CV} (h : MCl ρ ren n2 l m) (h' : MCl ρ ren n2 l' m') : MC ρ ren n2 (.fn f l l') (.fn f m m') := fun σ σ2 v hs hv => by
  obtain ⟨x, y, rfl, h1, h2⟩ := hv.fn_inv
  exact .fn f (h.run σ σ2 _ hs h1) (h'.run σ σ2 _ hs h2)
theorem MB.lit {ren : Nat → Nat} {n2 : Nat} {l m : List CV} {e : Nat} {x : Option BX} {v : Bool} (h : MCl ρ ren n2 l m) : MB ρ ren n2 ⟨.lit l, e, v, x⟩ ⟨.lit m, e, v, none⟩ :=
  ⟨rfl, rfl, rfl, fun h => h, fun σ σ2 us hs hv => h.run σ σ2 us hs hv⟩
/-- Rows that are the same, row by row. -/
theorem MB.rows {ren : Nat → Nat} {n2 n m z z' : Nat} {row row' : Nat → List CV} {h h'} {e : Nat} {x : Option BX} {v : Bool} (hn : n = m) (hr : ∀ j, j < n → MCl ρ ren n2 (row j) (row' j)) : MB ρ ren n2 ⟨.rows n z row h, e, v, x⟩ ⟨.rows m z' row' h', e, v, none⟩ := by
  subst hn
  refine ⟨rfl, rfl, rfl, fun h => h, fun σ σ2 us hs hv => ?_⟩
  have key : ∀ k, k ≤ n → ∀ us, VRl ρ σ (flatR row k) us → VRl ρ σ2 (flatR row' k) us := by
    intro k
    induction k with
    | zero => intro _ us hv; cases hv; exact .nil
    | succ k ih =>
      intro hk us hv
      rw [flatR] at hv
      obtain ⟨x, y, rfl, h1, h2⟩ := hv.cut
      rw [flatR]
      exact (ih (by omega) x h1).append ((hr k (by omega)).run σ σ2 y hs h2)
  exact key n (Nat.le_refl _) us hv
mutual
/-- All blocks that a value names are below a number. -/
def CV.lts (n : Nat) : CV → Bool
  | .ptr (some (b, _)) | .slc (some (b, _)) _ _ | .slx b _ _ _ _ | .sla b _ _ _ | .ptx b _ _ _ | .yld b | .map b => Nat.blt b n
  | .agg l | .tup l => CV.ltsl n l
  | .slr b _ N _ => Nat.ble (b + N) n
  | .fn _ l m => CV.ltsl n l && CV.ltsl n m
  | _ => true
def CV.ltsl (n : Nat) : List CV → Bool
  | [] => true
  | c :: l => c.lts n && CV.ltsl n l
end
theorem blt_lt {b n : Nat} (h : Nat.blt b n = true) : b < n := Nat.lt_of_succ_le (Nat.le_of_ble_eq_true h)
mutual
theorem VR.lts {σ σ2 : Mp} {n : Nat} (hs : ∀ b, b < n → σ2 b = σ b) {c : CV} {v : Value} : VR ρ σ c v → c.lts n = true → VR ρ σ2 c v
  | .bool b, _ => .bool b
  | .int k e, _ => .int k e
  | .raw v, _ => .raw v
  | .ptr0, _ => .ptr0
  | .ptr h1, h => .ptr (by simp only [CV.lts] at h; rw [hs _ (blt_lt h)]; exact h1)
  | .slc0, _ => .slc0
  | .slc h1 h2 h3, h => .slc (by simp only [CV.lts] at h; rw [hs _ (blt_lt h)]; exact h1) h2 h3
  | .slx h1, h => .slx (VR.lts hs h1 (by simpa only [CV.lts] using h))
  | .sla h1 hc, h => .sla (by simp only [CV.lts] at h; rw [hs _ (blt_lt h)]; exact h1) hc
  | .sla0 a c, _ => .sla0 a c
  | .sln a c h, _ => .sln a c h
  | .slr a c h hr, hn => .slr a c h fun i h1 h2 => let ⟨l, o, q1, q2, q3⟩ := hr i h1 h2; ⟨l, o, q1, q2, by rw [hs _ (by simp only [CV.lts] at hn; have := Nat.le_of_ble_eq_true hn; omega)]; exact q3⟩
  | .ptx h1, h => .ptx (VR.lts hs h1 (by simpa only [CV.lts] using h))
  | .junk h, _ => .junk h
  | .any v, _ => .any v
  | .emp a c, _ => .emp a c
  | .fn f ha hb, h => by
    simp only [CV.lts, Bool.and_eq_true] at h
    exact .fn f (VRl.lts hs ha h.1) (VRl.lts hs hb h.2)
  | .agg hl, h => .agg (VRl.lts hs hl (by simpa only [CV.lts] using h))
  | .tup hl, h => .tup (VRl.lts hs hl (by simpa only [CV.lts] using h))
  | .yld h1, h => .yld (by simp only [CV.lts] at h; rw [hs _ (blt_lt h)]; exact h1)
  | .map h1, h => .map (by simp only [CV.lts] at h; rw [hs _ (blt_lt h)]; exact h1)
theorem VRl.lts {σ σ2 : Mp} {n : Nat} (hs : ∀ b, b < n → σ2 b = σ b) {l : List CV} {m : List Value} : VRl ρ σ l m → CV.ltsl n l = true → VRl ρ σ2 l m
  | .nil, _ => .nil
  | .cons h t, hp => by
    simp only [CV.ltsl, Bool.and_eq_true] at hp
    exact .cons (VR.lts hs h hp.1) (VRl.lts hs t hp.2)
end
theorem fa_nil {α : Type} {p : α → Prop} : ∀ x ∈ ([] : List α), p x := fun x h => by cases h
theorem fa_cons {α : Type} {p : α → Prop} {a : α} {l : List α} (h : p a) (t : ∀ x ∈ l, p x) : ∀ x ∈ a :: l, p x := fun x hx => by
  rcases List.mem_cons.1 hx with rfl | hx
  · exact h
  · exact t x hx
/-! ## Numbers -/
end
end Go.Proofs.Ythagjhadjpangaa.Cx

/- AUTOMATA: a function's code as rounds between the heads of its loops: the evaluator runs from a head to the next one. -/
namespace Go.Proofs.Ythagjhadjpangaa.Cx
set_option linter.unusedSimpArgs false
set_option linter.unusedVariables false
open Go Go.RowKit
/-! ## A loop at its head -/
def LoopW (F : Fence) (n : Nat) (P : Program) (c : Code) (Q : Exit → Act → World → Prop) (a : Act) (w : World) : Prop :=
  ∀ (b : Frame) (k : List Item) (cs : List Frame), b.roundOf = F.round → F.fn b.fn → F.room (cs.length + 1 + n) →
    ∃ e a' w', Q e a' w' ∧ ArrivesIn (Machine.fenced P F) P (lone (b.atR a (.code c :: .inLoop c :: k)) cs w) b k cs e a' w'
theorem LoopW.wpIn {F : Fence} {n : Nat} {P : Program} {Q : Exit → Act → World → Prop} {a : Act} {w : World} {c : Code} (h : LoopW F n P c Q a w) : (Code.loop c).wpIn F n P Q a w := by
  intro b k cs hro hb hr
  obtain ⟨e, a', w', hq, harr⟩ := h b k cs hro hb hr
  exact ⟨e, a', w', hq, .of_steps (.one (fenced_calm hb hr rfl) stepR_loop) harr⟩
theorem LoopW.unfold {F : Fence} {n : Nat} {P : Program} {Q : Exit → Act → World → Prop} {a : Act} {w : World} {c : Code} (h : c.wpIn F n P (Exit.then (LoopW F n P c Q) Q) a w) : LoopW F n P c Q a w := by
  intro b k cs hro hb hr
  obtain ⟨e, a₁, w₁, hq, harr⟩ := h b (.inLoop c :: k) cs hro hb hr
  cases e with
  | normal =>
    obtain ⟨e₂, a₂, w₂, hq₂, harr₂⟩ := hq b k cs hro hb hr
    exact ⟨e₂, a₂, w₂, hq₂, .of_steps (StepsIn.trans harr (.one (fenced_calm hb hr rfl) stepR_inLoop)) harr₂⟩
  | exit id => exact ⟨_, a₁, w₁, hq, .pass (x := .inLoop c) rfl (fun _ _ => .inl (by simp)) harr⟩
  | goto l => exact ⟨_, a₁, w₁, hq, .pass (x := .inLoop c) rfl (fun _ _ => .inl (by simp)) harr⟩
  | ret => exact ⟨_, a₁, w₁, hq, .pass (x := .inLoop c) rfl (fun _ _ => .inl (by simp)) harr⟩
  | panic ch => exact ⟨_, a₁, w₁, hq, .pass (x := .inLoop c) rfl (fun _ _ => .inl (by simp)) harr⟩
  | outgrown => exact ⟨_, a₁, w₁, hq, .pass (x := .inLoop c) rfl (fun _ _ => .inl (by simp)) harr⟩
/-- A loop from its head, whose body is this. -/
def SemL (P : Program) (ρ : Env) (X : Fx) (c : Code) (p : Pt) (Φ : Ex → Pt → Prop) : Prop :=
  ∀ (Q : Exit → Act → World → Prop) (a : Act) (w : World), SR ρ X p a w → (∀ e p' a' w', Φ e p' → SR ρ X p' a' w' → Q e.conv a' w') → LoopW (fc X.ro) X.n P c Q a w
/-- A round's end. -/
def InL (P : Program) (ρ : Env) (X : Fx) (c : Code) (Φ : Ex → Pt → Prop) : Ex → Pt → Prop
  | .normal, p => SemL P ρ X c p Φ
  | e, p => Φ e p
section
variable {P : Program} {C : Ctx} {ρ : Env} {X : Fx} {c d : Code} {p : Pt} {Φ Ψ : Ex → Pt → Prop}
theorem SemL.loop (h : SemL P ρ X c p Φ) : Sem P ρ X (.loop c) p Φ := fun Q a w hS hQ => (h Q a w hS hQ).wpIn
theorem SemL.unfold (h : Sem P ρ X c p (InL P ρ X c Φ)) : SemL P ρ X c p Φ := by
  intro Q a w hS hQ
  refine LoopW.unfold (h _ a w hS fun e p' a' w' h1 h2 => ?_)
  cases e with
  | normal => exact h1 Q a' w' h2 hQ
  | exit i => exact hQ _ _ _ _ h1 h2
  | ret => exact hQ _ _ _ _ h1 h2
theorem SemL.pre {p2 : Pt} (hs : ∀ a w, SR ρ X p a w → SR ρ X p2 a w) (h : SemL P ρ X c p2 Φ) : SemL P ρ X c p Φ :=
  fun Q a w hS hQ => h Q a w (hs a w hS) hQ
theorem SemL.mat {ren : Nat → Nat} {p2 : Pt} (hX : FxOk ρ X) (hm : Mat ρ X ren p p2) (h : SemL P ρ X c p2 Φ) : SemL P ρ X c p Φ := .pre (fun a w hS => hS.mat hX hm) h
/-- What is to hold where a part of a statement is left, loops among what is around it. -/
def AftL (P : Program) (ρ : Env) (X : Fx) : Code → List Nat → (Ex → Pt → Prop) → Ex → Pt → Prop
  | _, [], Φ => Φ
  | .seq a b, d :: l, Φ => match d with
    | 0 => AftL P ρ X a l (Then P ρ X b Φ)
    | _ + 1 => AftL P ρ X b l Φ
  | .cond _ a b, d :: l, Φ => match d with
    | 0 => AftL P ρ X a l Φ
    | _ + 1 => AftL P ρ X b l Φ
  | .block i b, _ :: l, Φ => AftL P ρ X b l (Inside i Φ)
  | .scope b, _ :: l, Φ => AftL P ρ X b l Φ
  | .loop b, _ :: l, Φ => AftL P ρ X b l (InL P ρ X b Φ)
  | _, _, _ => fun _ _ => False
def LoopAt (P : Program) (ρ : Env) (X : Fx) (c : Code) (Ψ : Ex → Pt → Prop) (p : Pt) : Prop :=
  match c with
  | .loop b => SemL P ρ X b p Ψ
  | .rangeFunc f ps as' bd => Sem P ρ X (.rangeFunc f ps as' bd) p Ψ
  | _ => False
/-- What is left to be shown at a loop's head. -/
def AtL (P : Program) (ρ : Env) (X : Fx) (c : Code) (π : List Nat) (Φ : Ex → Pt → Prop) (p : Pt) : Prop :=
  LoopAt P ρ X (codeAt c π) (AftL P ρ X c π Φ) p
theorem AtL.mat {ren : Nat → Nat} {p2 : Pt} {π : List Nat} (hX : FxOk ρ X) (hm : Mat ρ X ren p p2) (h : AtL P ρ X c π Φ p2) : AtL P ρ X c π Φ p := by
  unfold AtL at *
  generalize codeAt c π = d at *
  cases d <;> first | exact h.elim | skip
  · exact SemL.mat hX hm h
  · exact Sem.mat hX hm h
inductive KR where
  | at (π : List Nat)
  | fin (e : Ex)
structure KO where
  r : KR
  T : Tr CV
  s : St
  W : List Nat
def KR.down (d : Nat) : KR → KR
  | .at π => .at (d :: π)
  | r => r
def KO.down (d : Nat) (o : KO) : KO := ⟨o.r.down d, o.T, o.s, o.W⟩
/-- A block's end. -/
def KR.blk (i : Nat) : KR → KR
  | .at π => .at (0 :: π)
  | .fin (.exit j) => .fin (bif Nat.beq j i then .normal else .exit j)
  | r => r
def KO.blk (i : Nat) (o : KO) : KO := ⟨o.r.blk i, o.T, o.s, o.W⟩
/-- A round's end. -/
def KR.lp : KR → KR
  | .at π => .at (0 :: π)
  | .fin .normal => .at []
  | r => r
def KO.lp (o : KO) : KO := ⟨o.r.lp, o.T, o.s, o.W⟩
def KO.add (W : List Nat) (o : KO) : KO := ⟨o.r, o.T, o.s, W ++ o.W⟩
def firstReg : Code → Option Nat
  | .region i _ _ => some i
  | .seq a b => match firstReg a with | some i => some i | none => firstReg b
  | .cond _ a b => match firstReg a with | some i => some i | none => firstReg b
  | .block _ b | .loop b | .scope b => firstReg b
  | _ => none
/-- The evaluator runs from a statement's start up to a loop's head, or the statement's end; loops of the list are run. -/
noncomputable def startK (C : Ctx) (m base nt : Nat) (un : List Nat) : Code → Tr CV → St → Option KO
  | .seq a b, T, s =>
    match startK C m base nt un a T s with
    | some ⟨.fin .normal, T1, s1, W1⟩ => match startK C m base nt un b T1 s1 with
      | some o => some ((o.down 1).add W1)
      | none => none
    | some o => some (o.down 0)
    | none => none
  | .cond x a b, T, s =>
    match ev T x with
    | some (.bool e) => match s.decide e with
      | some (true, s1) => match startK C m base nt un a T s1 with | some o => some (o.down 0) | none => none
      | some (false, s1) => match startK C m base nt un b T s1 with | some o => some (o.down 1) | none => none
      | none => none
    | _ => none
  | .block i b, T, s => match startK C m base nt un b T s with | some o => some (o.blk i) | none => none
  | .scope b, T, s => match startK C m base nt un b T s with | some o => some (o.down 0) | none => none
  | .loop b, T, s =>
    bif (match firstReg b with | some i => un.any (Nat.beq i) | none => false) then
      match Cx.eval C m base (.code (.loop b) nt T) s with
      | some ⟨.code e T1, s1, _, W1⟩ => some ⟨.fin e, T1, s1, W1⟩
      | _ => none
    else some ⟨.at [], T, s, []⟩
  | .rangeFunc f ps as' bd, T, s =>
    bif (match firstReg (.seq as' bd) with | some i => un.any (Nat.beq (i + 1000000)) | none => false) then some ⟨.at [], T, s, []⟩
    else match Cx.eval C m base (.code (.rangeFunc f ps as' bd) nt T) s with
      | some ⟨.code e T1, s1, _, W1⟩ => some ⟨.fin e, T1, s1, W1⟩
      | _ => none
  | c, T, s => match Cx.eval C m base (.code c nt T) s with
    | some ⟨.code e T1, s1, _, W1⟩ => some ⟨.fin e, T1, s1, W1⟩
    | _ => none
/-- The evaluator runs on from where a part of a statement was left. -/
noncomputable def resumeK (C : Ctx) (m base nt : Nat) (un : List Nat) : Code → List Nat → Ex → Tr CV → St → Option KO
  | _, [], e, T, s => some ⟨.fin e, T, s, []⟩
  | .seq a b, d :: l, e, T, s => match d with
    | 0 => match resumeK C m base nt un a l e T s with
      | some ⟨.fin .normal, T1, s1, W1⟩ => match startK C m base nt un b T1 s1 with
        | some o => some ((o.down 1).add W1)
        | none => none
      | some o => some (o.down 0)
      | none => none
    | _ + 1 => match resumeK C m base nt un b l e T s with | some o => some (o.down 1) | none => none
  | .cond _ a b, d :: l, e, T, s => match d with
    | 0 => match resumeK C m base nt un a l e T s with | some o => some (o.down 0) | none => none
    | _ + 1 => match resumeK C m base nt un b l e T s with | some o => some (o.down 1) | none => none
  | .block i b, _ :: l, e, T, s => match resumeK C m base nt un b l e T s with | some o => some (o.blk i) | none => none
  | .scope b, _ :: l, e, T, s => match resumeK C m base nt un b l e T s with | some o => some (o.down 0) | none => none
  | .loop b, _ :: l, e, T, s => match resumeK C m base nt un b l e T s with | some o => some o.lp | none => none
  | _, _, _, _, _ => none
def Obl (P : Program) (ρ : Env) (X : Fx) (c : Code) (Φ : Ex → Pt → Prop) : KR → Pt → Prop
  | .at π, p => AtL P ρ X c π Φ p
  | .fin e, p => Φ e p
/-- What a run from a statement's start is. -/
structure KS (P : Program) (ρ : Env) (base nt : Nat) (s s1 : St) (W : List Nat) (obl goal : Fx → (Ex → Pt → Prop) → Prop) : Prop where
  next : s.next ≤ s1.next
  pc : ∃ l, s1.pc = l ++ s.pc
  old : ∀ b, b < base → b ∉ W → s1.heap.get b = s.heap.get b
  run : ∀ (X : Fx) (Φ : Ex → Pt → Prop), FxOk ρ X → X.base = base → X.nt = nt → (∀ q ∈ s1.pc, q.holds ρ) → (∀ b ∈ W, b ∈ X.W) → obl X Φ → goal X Φ
end
section
variable {P : Program} {C : Ctx} {ρ : Env} {m base nt : Nat} {un : List Nat}
theorem obl_down0 {X : Fx} {Φ Ψ : Ex → Pt → Prop} {c a : Code} {d : Nat} {r : KR} {p : Pt} (hf : ∀ e, Φ e p → r = .fin e → Ψ e p) (ha : ∀ π, r = .at π → AtL P ρ X c (d :: π) Φ p → AtL P ρ X a π Ψ p) (h : Obl P ρ X c Φ (r.down d) p) : Obl P ρ X a Ψ r p := by
  cases r with
  | «at» π => exact ha π rfl h
  | fin e => exact hf e h rfl
theorem eval_start (hC : CtxOk3 P C) (hM : MemoOk P C ρ) {c : Code} {T T1 : Tr CV} {s s1 : St} {e : Ex} {R W : List Nat} (hr : regsOk c = true) (hle : base ≤ s.next) (he : Cx.eval C m base (.code c nt T) s = some ⟨.code e T1, s1, R, W⟩) :
    KS P ρ base nt s s1 W (fun X Φ => Φ e ⟨T1, s1.heap, s1.next⟩) (fun X Φ => Sem P ρ X c ⟨T, s.heap, s.next⟩ Φ) := by
  have k := (eval_ok (ρ := ρ) hC hM m).code _ _ _ _ _ _ _ _ _ _ he hle
  refine ⟨k.frm.next, k.frm.pc, fun b hb hW => k.frm.get b hW (fun h => by omega), fun X Φ hX hb hnt hp hW h => ?_⟩
  subst hb hnt
  exact Sem.evalS (p := ⟨T, s.heap, s.next⟩) hC hM hX hr rfl rfl he hp hW h
theorem startK_ok (hC : CtxOk3 P C) (hM : MemoOk P C ρ) : ∀ (c : Code) (T : Tr CV) (s : St) (o : KO), regsOk c = true → base ≤ s.next → startK C m base nt un c T s = some o →
    KS P ρ base nt s o.s o.W (fun X Φ => Obl P ρ X c Φ o.r ⟨o.T, o.s.heap, o.s.next⟩) (fun X Φ => Sem P ρ X c ⟨T, s.heap, s.next⟩ Φ)
  | .seq a b, T, s, o, hr, hle, h => by
    have hra := (regs_seq hr).1
    have hrb := (regs_seq hr).2
    simp only [startK] at h
    split at h
    · rename_i T1 s1 W1 ha
      have k1 := startK_ok hC hM a T s _ hra hle ha
      split at h
      · rename_i o2 hb
        cases h
        have k2 := startK_ok hC hM b T1 s1 o2 hrb (Nat.le_trans hle k1.next) hb
        obtain ⟨l1, p1⟩ := k1.pc
        obtain ⟨l2, p2⟩ := k2.pc
        refine ⟨Nat.le_trans k1.next k2.next, ⟨l2 ++ l1, by show o2.s.pc = _; rw [p2, p1, List.append_assoc]⟩, fun b hb hW => (k2.old b hb (fun h => hW (List.mem_append_right _ h))).trans (k1.old b hb (fun h => hW (List.mem_append_left _ h))), fun X Φ hX hbs hnt hp hW h => ?_⟩
        have hp : ∀ q ∈ o2.s.pc, q.holds ρ := hp
        have hW : ∀ b ∈ W1 ++ o2.W, b ∈ X.W := hW
        refine .seq (k1.run X (Then P ρ X b Φ) hX hbs hnt (fun q hq => hp q (by rw [p2]; exact List.mem_append_right _ hq)) (fun b hb => hW b (List.mem_append_left _ hb)) ?_)
        show Sem P ρ X b ⟨T1, s1.heap, s1.next⟩ Φ
        refine k2.run X Φ hX hbs hnt hp (fun b hb => hW b (List.mem_append_right _ hb)) ?_
        exact obl_down0 (d := 1) (fun e h _ => h) (fun π _ h => h) h
      · cases h
    · rename_i o1 hne ha
      cases h
      have k1 := startK_ok hC hM a T s o1 hra hle ha
      refine ⟨k1.next, k1.pc, k1.old, fun X Φ hX hbs hnt hp hW h => .seq (k1.run X (Then P ρ X b Φ) hX hbs hnt hp hW ?_)⟩
      refine obl_down0 (d := 0) (fun e h he => ?_) (fun π _ h => h) h
      cases e with
      | normal =>
        obtain ⟨r, T1, s1, W1⟩ := o1
        exact (hne T1 s1 W1 (by have he : r = .fin .normal := he; rw [he])).elim
      | exit i => exact h
      | ret => exact h
    · cases h
  | .cond x a b, T, s, o, hr, hle, h => by
    simp only [startK] at h
    split at h
    · rename_i ex hx
      split at h
      · rename_i s2 hd
        obtain ⟨d1, d2, ⟨ld, d3⟩, d4⟩ := decide_parts (ρ := ρ) hd
        split at h
        · rename_i o1 ha
          cases h
          have k1 := startK_ok hC hM a T s2 o1 (regs_cond hr).1 (by rw [d1]; exact hle) ha
          obtain ⟨l1, p1⟩ := k1.pc
          refine ⟨by rw [← d1]; exact k1.next, ⟨l1 ++ ld, by show o1.s.pc = _; rw [p1, d3, List.append_assoc]⟩, fun b hb hW => (k1.old b hb hW).trans (by rw [d2]), fun X Φ hX hbs hnt hp hW h => ?_⟩
          have hp : ∀ q ∈ o1.s.pc, q.holds ρ := hp
          refine .cond hx (v := true) (d4 (fun q hq => hp q (by rw [p1]; exact List.mem_append_right _ hq))) ?_
          rw [if_pos rfl, ← d1, ← d2]
          exact k1.run X Φ hX hbs hnt hp hW (obl_down0 (d := 0) (fun e h _ => h) (fun π _ h => h) h)
        · cases h
      · rename_i s2 hd
        obtain ⟨d1, d2, ⟨ld, d3⟩, d4⟩ := decide_parts (ρ := ρ) hd
        split at h
        · rename_i o1 ha
          cases h
          have k1 := startK_ok hC hM b T s2 o1 (regs_cond hr).2 (by rw [d1]; exact hle) ha
          obtain ⟨l1, p1⟩ := k1.pc
          refine ⟨by rw [← d1]; exact k1.next, ⟨l1 ++ ld, by show o1.s.pc = _; rw [p1, d3, List.append_assoc]⟩, fun b hb hW => (k1.old b hb hW).trans (by rw [d2]), fun X Φ hX hbs hnt hp hW h => ?_⟩
          have hp : ∀ q ∈ o1.s.pc, q.holds ρ := hp
          refine .cond hx (v := false) (d4 (fun q hq => hp q (by rw [p1]; exact List.mem_append_right _ hq))) ?_
          rw [if_neg (by simp), ← d1, ← d2]
          exact k1.run X Φ hX hbs hnt hp hW (obl_down0 (d := 1) (fun e h _ => h) (fun π _ h => h) h)
        · cases h
      · cases h
    · cases h
  | .block i b, T, s, o, hr, hle, h => by
    simp only [startK] at h
    split at h
    · rename_i o1 ha
      cases h
      have k1 := startK_ok hC hM b T s o1 hr hle ha
      refine ⟨k1.next, k1.pc, k1.old, fun X Φ hX hbs hnt hp hW h => .block (k1.run X (Inside i Φ) hX hbs hnt hp hW ?_)⟩
      obtain ⟨r, T1, s1, W1⟩ := o1
      cases r with
      | «at» π => exact h
      | fin e =>
        cases e with
        | normal => exact h
        | ret => exact h
        | exit j =>
          show bif Nat.beq j i then Φ .normal _ else Φ (.exit j) _
          have h : Φ (bif Nat.beq j i then .normal else .exit j) ⟨T1, s1.heap, s1.next⟩ := h
          cases hj : Nat.beq j i with
          | true => rw [hj] at h; exact h
          | false => rw [hj] at h; exact h
    · cases h
  | .scope b, T, s, o, hr, hle, h => by
    simp only [startK] at h
    split at h
    · rename_i o1 ha
      cases h
      have k1 := startK_ok hC hM b T s o1 hr hle ha
      refine ⟨k1.next, k1.pc, k1.old, fun X Φ hX hbs hnt hp hW h => .scope (k1.run X Φ hX hbs hnt hp hW ?_)⟩
      exact obl_down0 (d := 0) (fun e h _ => h) (fun π _ h => h) h
    · cases h
  | .loop b, T, s, o, hr, hle, h => by
    simp only [startK] at h
    cases hu : (match firstReg b with | some i => un.any (Nat.beq i) | none => false) with
    | true =>
      rw [hu, cond_true] at h
      split at h
      · rename_i e T1 s1 R W1 he
        cases h
        exact eval_start hC hM hr hle he
      · cases h
    | false =>
      rw [hu, cond_false] at h
      cases h
      exact ⟨Nat.le_refl _, ⟨[], rfl⟩, fun _ _ _ => rfl, fun X Φ hX hbs hnt hp hW h => SemL.loop h⟩
  | .skip, T, s, o, hr, hle, h => by
    simp only [startK] at h
    split at h
    · rename_i e T1 s1 R W1 he
      cases h
      exact eval_start hC hM hr hle he
    · cases h
  | .region i ops dr, T, s, o, hr, hle, h => by
    simp only [startK] at h
    split at h
    · rename_i e T1 s1 R W1 he
      cases h
      exact eval_start hC hM hr hle he
    · cases h
  | .rangeFunc f ps as' bd, T, s, o, hr, hle, h => by
    simp only [startK] at h
    cases hu : (match firstReg (.seq as' bd) with | some i => un.any (Nat.beq (i + 1000000)) | none => false) with
    | true =>
      rw [hu, cond_true] at h
      cases h
      exact ⟨Nat.le_refl _, ⟨[], rfl⟩, fun _ _ _ => rfl, fun X Φ hX hbs hnt hp hW h => h⟩
    | false =>
      rw [hu, cond_false] at h
      split at h
      · rename_i e T1 s1 R W1 he
        cases h
        exact eval_start hC hM hr hle he
      · cases h
  | .exit i, T, s, o, hr, hle, h => by
    simp only [startK] at h
    split at h
    · rename_i e T1 s1 R W1 he
      cases h
      exact eval_start hC hM hr hle he
    · cases h
  | .label i, T, s, o, hr, hle, h => by
    simp only [startK] at h
    split at h
    · rename_i e T1 s1 R W1 he
      cases h
      exact eval_start hC hM hr hle he
    · cases h
  | .goto i, T, s, o, hr, hle, h => by
    simp only [startK] at h
    split at h
    · rename_i e T1 s1 R W1 he
      cases h
      exact eval_start hC hM hr hle he
    · cases h
  | .ret, T, s, o, hr, hle, h => by
    simp only [startK] at h
    split at h
    · rename_i e T1 s1 R W1 he
      cases h
      exact eval_start hC hM hr hle he
    · cases h
  | .refuse i, T, s, o, hr, hle, h => by
    simp only [startK] at h
    split at h
    · rename_i e T1 s1 R W1 he
      cases h
      exact eval_start hC hM hr hle he
    · cases h
theorem resumeK_ok (hC : CtxOk3 P C) (hM : MemoOk P C ρ) : ∀ (π : List Nat) (c : Code) (e : Ex) (T : Tr CV) (s : St) (o : KO), regsOk c = true → base ≤ s.next → resumeK C m base nt un c π e T s = some o →
    KS P ρ base nt s o.s o.W (fun X Φ => Obl P ρ X c Φ o.r ⟨o.T, o.s.heap, o.s.next⟩) (fun X Φ => AftL P ρ X c π Φ e ⟨T, s.heap, s.next⟩)
  | [], c, e, T, s, o, hr, hle, h => by
    simp only [resumeK] at h
    cases h
    refine ⟨Nat.le_refl _, ⟨[], rfl⟩, fun _ _ _ => rfl, fun X Φ hX hbs hnt hp hW h => ?_⟩
    simp only [AftL]
    exact h
  | d :: l, .seq a b, e, T, s, o, hr, hle, h => by
    have hra := (regs_seq hr).1
    have hrb := (regs_seq hr).2
    cases d with
    | zero =>
      simp only [resumeK] at h
      split at h
      · rename_i T1 s1 W1 ha
        have k1 := resumeK_ok hC hM l a e T s _ hra hle ha
        split at h
        · rename_i o2 hb
          cases h
          have k2 := startK_ok hC hM b T1 s1 o2 hrb (Nat.le_trans hle k1.next) hb
          obtain ⟨l1, p1⟩ := k1.pc
          obtain ⟨l2, p2⟩ := k2.pc
          refine ⟨Nat.le_trans k1.next k2.next, ⟨l2 ++ l1, by show o2.s.pc = _; rw [p2, p1, List.append_assoc]⟩, fun b hb hW => (k2.old b hb (fun h => hW (List.mem_append_right _ h))).trans (k1.old b hb (fun h => hW (List.mem_append_left _ h))), fun X Φ hX hbs hnt hp hW h => ?_⟩
          have hp : ∀ q ∈ o2.s.pc, q.holds ρ := hp
          have hW : ∀ b ∈ W1 ++ o2.W, b ∈ X.W := hW
          refine k1.run X (Then P ρ X b Φ) hX hbs hnt (fun q hq => hp q (by rw [p2]; exact List.mem_append_right _ hq)) (fun b hb => hW b (List.mem_append_left _ hb)) ?_
          show Sem P ρ X b ⟨T1, s1.heap, s1.next⟩ Φ
          refine k2.run X Φ hX hbs hnt hp (fun b hb => hW b (List.mem_append_right _ hb)) ?_
          exact obl_down0 (d := 1) (fun e h _ => h) (fun π _ h => h) h
        · cases h
      · rename_i o1 hne ha
        cases h
        have k1 := resumeK_ok hC hM l a e T s o1 hra hle ha
        refine ⟨k1.next, k1.pc, k1.old, fun X Φ hX hbs hnt hp hW h => k1.run X (Then P ρ X b Φ) hX hbs hnt hp hW ?_⟩
        refine obl_down0 (d := 0) (fun e h he => ?_) (fun π _ h => h) h
        cases e with
        | normal =>
          obtain ⟨r, T1, s1, W1⟩ := o1
          exact (hne T1 s1 W1 (by have he : r = .fin .normal := he; rw [he])).elim
        | exit i => exact h
        | ret => exact h
      · cases h
    | succ d =>
      simp only [resumeK] at h
      split at h
      · rename_i o1 ha
        cases h
        have k1 := resumeK_ok hC hM l b e T s o1 hrb hle ha
        exact ⟨k1.next, k1.pc, k1.old, fun X Φ hX hbs hnt hp hW h => k1.run X Φ hX hbs hnt hp hW (obl_down0 (d := 1) (fun e h _ => h) (fun π _ h => h) h)⟩
      · cases h
  | d :: l, .cond x a b, e, T, s, o, hr, hle, h => by
    cases d with
    | zero =>
      simp only [resumeK] at h
      split at h
      · rename_i o1 ha
        cases h
        have k1 := resumeK_ok hC hM l a e T s o1 (regs_cond hr).1 hle ha
        exact ⟨k1.next, k1.pc, k1.old, fun X Φ hX hbs hnt hp hW h => k1.run X Φ hX hbs hnt hp hW (obl_down0 (d := 0) (fun e h _ => h) (fun π _ h => h) h)⟩
      · cases h
    | succ d =>
      simp only [resumeK] at h
      split at h
      · rename_i o1 ha
        cases h
        have k1 := resumeK_ok hC hM l b e T s o1 (regs_cond hr).2 hle ha
        exact ⟨k1.next, k1.pc, k1.old, fun X Φ hX hbs hnt hp hW h => k1.run X Φ hX hbs hnt hp hW (obl_down0 (d := 1) (fun e h _ => h) (fun π _ h => h) h)⟩
      · cases h
  | d :: l, .block i b, e, T, s, o, hr, hle, h => by
    simp only [resumeK] at h
    split at h
    · rename_i o1 ha
      cases h
      have k1 := resumeK_ok hC hM l b e T s o1 hr hle ha
      refine ⟨k1.next, k1.pc, k1.old, fun X Φ hX hbs hnt hp hW h => k1.run X (Inside i Φ) hX hbs hnt hp hW ?_⟩
      obtain ⟨r, T1, s1, W1⟩ := o1
      cases r with
      | «at» π => exact h
      | fin e =>
        cases e with
        | normal => exact h
        | ret => exact h
        | exit j =>
          show bif Nat.beq j i then Φ .normal _ else Φ (.exit j) _
          have h : Φ (bif Nat.beq j i then .normal else .exit j) ⟨T1, s1.heap, s1.next⟩ := h
          cases hj : Nat.beq j i with
          | true => rw [hj] at h; exact h
          | false => rw [hj] at h; exact h
    · cases h
  | d :: l, .scope b, e, T, s, o, hr, hle, h => by
    simp only [resumeK] at h
    split at h
    · rename_i o1 ha
      cases h
      have k1 := resumeK_ok hC hM l b e T s o1 hr hle ha
      exact ⟨k1.next, k1.pc, k1.old, fun X Φ hX hbs hnt hp hW h => k1.run X Φ hX hbs hnt hp hW (obl_down0 (d := 0) (fun e h _ => h) (fun π _ h => h) h)⟩
    · cases h
  | d :: l, .loop b, e, T, s, o, hr, hle, h => by
    simp only [resumeK] at h
    split at h
    · rename_i o1 ha
      cases h
      have k1 := resumeK_ok hC hM l b e T s o1 hr hle ha
      refine ⟨k1.next, k1.pc, k1.old, fun X Φ hX hbs hnt hp hW h => k1.run X (InL P ρ X b Φ) hX hbs hnt hp hW ?_⟩
      obtain ⟨r, T1, s1, W1⟩ := o1
      cases r with
      | «at» π => exact h
      | fin e =>
        cases e with
        | normal => exact h
        | exit j => exact h
        | ret => exact h
    · cases h
  | _ :: _, .skip, _, _, _, _, _, _, h => by simp [resumeK] at h
  | _ :: _, .region .., _, _, _, _, _, _, h => by simp [resumeK] at h
  | _ :: _, .rangeFunc .., _, _, _, _, _, _, h => by simp [resumeK] at h
  | _ :: _, .exit _, _, _, _, _, _, _, h => by simp [resumeK] at h
  | _ :: _, .label _, _, _, _, _, _, _, h => by simp [resumeK] at h
  | _ :: _, .goto _, _, _, _, _, _, _, h => by simp [resumeK] at h
  | _ :: _, .ret, _, _, _, _, _, _, h => by simp [resumeK] at h
  | _ :: _, .refuse _, _, _, _, _, _, _, h => by simp [resumeK] at h
end
end Go.Proofs.Ythagjhadjpangaa.Cx

/- AUTOMATA, read off as functions: trees of tests between the heads of a function's loops; what they yield is what the function does. -/
namespace Go.Proofs.Ythagjhadjpangaa.Cx
set_option linter.unusedSimpArgs false
set_option linter.unusedVariables false
open Go Go.RowKit
/-! ## From one head to the next -/
def pathOk : Code → List Nat → Bool
  | _, [] => true
  | .seq a b, d :: l => match d with | 0 => pathOk a l | _ + 1 => pathOk b l
  | .cond _ a b, d :: l => match d with | 0 => pathOk a l | _ + 1 => pathOk b l
  | .block _ b, _ :: l => pathOk b l
  | .scope b, _ :: l => pathOk b l
  | .loop b, _ :: l => pathOk b l
  | _, _ => false
noncomputable def edgeK (C : Ctx) (m base nt : Nat) (un : List Nat) (c : Code) (π : List Nat) (T : Tr CV) (s : St) : Option KO :=
  bif pathOk c π then
    match codeAt c π with
    | .loop b => match startK C m base nt un b T s with
      | some ⟨.at π', T1, s1, W1⟩ => some ⟨.at (π ++ 0 :: π'), T1, s1, W1⟩
      | some ⟨.fin .normal, T1, s1, W1⟩ => some ⟨.at π, T1, s1, W1⟩
      | some ⟨.fin e, T1, s1, W1⟩ => match resumeK C m base nt un c π e T1 s1 with | some o => some (o.add W1) | none => none
      | none => none
    | _ => none
  else none
section
variable {P : Program} {C : Ctx} {ρ : Env} {m base nt : Nat} {un : List Nat}
theorem at_append {X : Fx} : ∀ (π : List Nat) (c : Code) (l : List Nat) (Φ : Ex → Pt → Prop), pathOk c π = true → codeAt c (π ++ l) = codeAt (codeAt c π) l ∧ AftL P ρ X c (π ++ l) Φ = AftL P ρ X (codeAt c π) l (AftL P ρ X c π Φ)
  | [], c, l, Φ, _ => by simp [codeAt, AftL]
  | d :: π, c, l, Φ, h => by
    cases c with
    | seq a b =>
      cases d with
      | zero => exact at_append π a l _ h
      | succ d => exact at_append π b l _ h
    | cond x a b =>
      cases d with
      | zero => exact at_append π a l _ h
      | succ d => exact at_append π b l _ h
    | block i b => cases d <;> exact at_append π b l _ h
    | scope b => cases d <;> exact at_append π b l _ h
    | loop b => cases d <;> exact at_append π b l _ h
    | _ => simp [pathOk] at h
theorem edgeK_ok (hC : CtxOk3 P C) (hM : MemoOk P C ρ) {c : Code} {π : List Nat} {T : Tr CV} {s : St} {o : KO} (hr : regsOk c = true) (hle : base ≤ s.next) (h : edgeK C m base nt un c π T s = some o) :
    KS P ρ base nt s o.s o.W (fun X Φ => Obl P ρ X c Φ o.r ⟨o.T, o.s.heap, o.s.next⟩) (fun X Φ => AtL P ρ X c π Φ ⟨T, s.heap, s.next⟩) := by
  unfold edgeK at h
  cases hpo : pathOk c π with
  | false => rw [hpo] at h; cases h
  | true =>
    rw [hpo, cond_true] at h
    have hrp := regs_at π hr
    split at h
    · rename_i b hcb
      have hrb : regsOk b = true := by rw [hcb] at hrp; exact hrp
      have goal : ∀ {X : Fx} {Φ : Ex → Pt → Prop} {p : Pt}, Sem P ρ X b p (InL P ρ X b (AftL P ρ X c π Φ)) → AtL P ρ X c π Φ p := fun {X Φ p} h => by
        unfold AtL
        rw [hcb]
        exact SemL.unfold h
      have back : ∀ {X : Fx} {Φ : Ex → Pt → Prop} {p : Pt} {π' : List Nat}, AtL P ρ X c (π ++ 0 :: π') Φ p → AtL P ρ X b π' (InL P ρ X b (AftL P ρ X c π Φ)) p := fun {X Φ p π'} h => by
        unfold AtL at *
        obtain ⟨e1, e2⟩ := at_append (P := P) (ρ := ρ) (X := X) π c (0 :: π') Φ hpo
        rw [e1, e2, hcb] at h
        exact h
      split at h
      · rename_i π' T1 s1 W1 hs
        cases h
        have k := startK_ok hC hM b T s _ hrb hle hs
        exact ⟨k.next, k.pc, k.old, fun X Φ hX hbs hnt hp hW h => goal (k.run X _ hX hbs hnt hp hW (back h))⟩
      · rename_i T1 s1 W1 hs
        cases h
        have k := startK_ok hC hM b T s _ hrb hle hs
        refine ⟨k.next, k.pc, k.old, fun X Φ hX hbs hnt hp hW h => goal (k.run X _ hX hbs hnt hp hW ?_)⟩
        show SemL P ρ X b _ _
        have h : AtL P ρ X c π Φ _ := h
        unfold AtL at h
        rw [hcb] at h
        exact h
      · rename_i e T1 s1 W1 hne hs
        split at h
        · rename_i o2 h2
          cases h
          have k := startK_ok hC hM b T s _ hrb hle hs
          have k2 := resumeK_ok hC hM π c e T1 s1 o2 hr (Nat.le_trans hle k.next) h2
          obtain ⟨l1, p1⟩ := k.pc
          obtain ⟨l2, p2⟩ := k2.pc
          refine ⟨Nat.le_trans k.next k2.next, ⟨l2 ++ l1, by show o2.s.pc = _; rw [p2, p1, List.append_assoc]⟩, fun b hb hW => (k2.old b hb (fun h => hW (List.mem_append_right _ h))).trans (k.old b hb (fun h => hW (List.mem_append_left _ h))), fun X Φ hX hbs hnt hp hW h => ?_⟩
          have hp : ∀ q ∈ o2.s.pc, q.holds ρ := hp
          have hW : ∀ b ∈ W1 ++ o2.W, b ∈ X.W := hW
          refine goal (k.run X _ hX hbs hnt (fun q hq => hp q (by rw [p2]; exact List.mem_append_right _ hq)) (fun b hb => hW b (List.mem_append_left _ hb)) ?_)
          have k3 := k2.run X Φ hX hbs hnt hp (fun b hb => hW b (List.mem_append_right _ hb)) h
          cases e with
          | normal => exact (hne rfl).elim
          | exit i => exact k3
          | ret => exact k3
        · cases h
      · cases h
    · cases h
end
/-! ## Names -/
mutual
/-- A value whose blocks have other names. -/
def CV.ren (f : Nat → Nat) : CV → CV
  | .ptr (some (b, o)) => .ptr (some (f b, o))
  | .slc (some (b, o)) n c => .slc (some (f b, o)) n c
  | .slx b z o n c => .slx (f b) z o n c
  | .sla b z o n => .sla (f b) z o n
  | .ptx b z j g => .ptx (f b) z j g
  | .fn g l m => .fn g (CV.renl f l) (CV.renl f m)
  | .agg l => .agg (CV.renl f l)
  | .tup l => .tup (CV.renl f l)
  | .map b => .map (f b)
  | .yld b => .yld (f b)
  | c => c
def CV.renl (f : Nat → Nat) : List CV → List CV
  | [] => []
  | c :: l => c.ren f :: CV.renl f l
end
mutual
/-- All blocks that a value names are below a number, and it can be named anew. -/
def CV.rnb (n : Nat) : CV → Bool
  | .ptr (some (b, _)) | .slc (some (b, _)) _ _ | .slx b _ _ _ _ | .sla b _ _ _ | .ptx b _ _ _ | .map b | .yld b => Nat.blt b n
  | .agg l | .tup l => CV.rnbl n l
  | .slr _ _ _ _ => false
  | .fn _ l m => CV.rnbl n l && CV.rnbl n m
  | _ => true
def CV.rnbl (n : Nat) : List CV → Bool
  | [] => true
  | c :: l => c.rnb n && CV.rnbl n l
end
section
variable {ρ : Env} {f : Nat → Nat} {n : Nat}
mutual
theorem MC.ren : ∀ {c : CV}, c.rnb n = true → MC ρ f n (c.ren f) c
  | .bool _, _ => .plain rfl
  | .int _ _, _ => .plain rfl
  | .raw _, _ => .plain rfl
  | .ptr none, _ => .plain rfl
  | .ptr (some (b, o)), h => .ptr rfl (blt_lt h)
  | .slc none _ _, _ => .plain rfl
  | .slc (some (b, o)) _ _, h => .slc rfl (blt_lt h)
  | .slx .., h => .slx rfl (blt_lt h)
  | .sla .., h => .sla rfl (blt_lt h)
  | .sln _, _ => fun _ _ _ _ hv => by cases hv with | sln a c h => exact .sln a c h
  | .slr .., h => by simp [CV.rnb] at h
  | .ptx b z j g, h => fun σ σ2 v hs hv => .ptx (MC.ptr rfl (blt_lt h) σ σ2 v hs hv.ptx_inv)
  | .junk, _ => .plain rfl
  | .any, _ => .plain rfl
  | .emp, _ => .plain rfl
  | .fn g l m, h => by
    simp only [CV.rnb, Bool.and_eq_true] at h
    exact .fn (MCl.ren h.1) (MCl.ren h.2)
  | .agg l, h => .agg (MCl.ren h)
  | .tup l, h => .tup (MCl.ren h)
  | .yld b, h => fun σ σ2 v hs hv => by
    cases hv with
    | yld h1 => exact .yld ((hs b (blt_lt h)).trans h1)
  | .map _, h => .map rfl (blt_lt h)
theorem MCl.ren : ∀ {l : List CV}, CV.rnbl n l = true → MCl ρ f n (CV.renl f l) l
  | [], _ => .nil
  | c :: l, h => by
    simp only [CV.rnbl, Bool.and_eq_true] at h
    exact .cons (MC.ren h.1) (MCl.ren h.2)
end
theorem CV.renl_length : ∀ (l : List CV), (CV.renl f l).length = l.length
  | [] => rfl
  | _ :: l => congrArg Nat.succ (CV.renl_length l)
theorem CV.ren_flat (c : CV) : (c.ren f).flat = c.flat := by
  cases c with
  | ptr a => cases a <;> rfl
  | slc a n c => cases a <;> rfl
  | _ => rfl
theorem CV.renl_flat : ∀ (l : List CV), (CV.renl f l).all CV.flat = l.all CV.flat
  | [] => rfl
  | c :: l => by simp only [CV.renl, List.all_cons, CV.ren_flat, CV.renl_flat l]
theorem CV.renl_ok {z : Nat} {l : List CV} (h : l.length = z ∧ l.all CV.flat = true) : (CV.renl f l).length = z ∧ (CV.renl f l).all CV.flat = true :=
  ⟨(CV.renl_length l).trans h.1, (CV.renl_flat l).trans h.2⟩
end
mutual
/-- Numbers and tests that stand as they are in Lean. -/
def CV.nrm : CV → CV
  | .int k (.c n) => .int k (.x n)
  | .bool (.c b) => .bool (.x b)
  | .fn g l m => .fn g (CV.nrml l) (CV.nrml m)
  | .agg l => .agg (CV.nrml l)
  | .tup l => .tup (CV.nrml l)
  | c => c
def CV.nrml : List CV → List CV
  | [] => []
  | c :: l => c.nrm :: CV.nrml l
end
section
variable {ρ : Env}
theorem VR.int_x {σ : Mp} {k : IntKind} {n : Int} {v : Value} : VR ρ σ (.int k (.c n)) v ↔ VR ρ σ (.int k (.x n)) v := ⟨fun h => by cases h; exact .int k (.x n), fun h => by cases h; exact .int k (.c n)⟩
theorem VR.bool_x {σ : Mp} {n : Bool} {v : Value} : VR ρ σ (.bool (.c n)) v ↔ VR ρ σ (.bool (.x n)) v := ⟨fun h => by cases h; exact .bool (.x n), fun h => by cases h; exact .bool (.c n)⟩
mutual
theorem VR.nrm {σ : Mp} : ∀ (c : CV) {v : Value}, VR ρ σ c v ↔ VR ρ σ c.nrm v
  | .int k e, v => by cases e <;> first | exact VR.int_x | exact Iff.rfl
  | .bool e, v => by cases e <;> first | exact VR.bool_x | exact Iff.rfl
  | .fn g l m, v => ⟨fun h => by
      obtain ⟨x, y, rfl, h1, h2⟩ := h.fn_inv
      exact .fn g ((VRl.nrm l).1 h1) ((VRl.nrm m).1 h2), fun h => by
      obtain ⟨x, y, rfl, h1, h2⟩ := VR.fn_inv (show VR ρ σ (.fn g (CV.nrml l) (CV.nrml m)) v from h)
      exact .fn g ((VRl.nrm l).2 h1) ((VRl.nrm m).2 h2)⟩
  | .agg l, v => ⟨fun h => by
      obtain ⟨cs, rfl, h1⟩ := h.agg_inv
      exact .agg ((VRl.nrm l).1 h1), fun h => by
      obtain ⟨cs, rfl, h1⟩ := VR.agg_inv (show VR ρ σ (.agg (CV.nrml l)) v from h)
      exact .agg ((VRl.nrm l).2 h1)⟩
  | .tup l, v => ⟨fun h => by
      obtain ⟨cs, rfl, h1⟩ := h.tup_inv
      exact .tup ((VRl.nrm l).1 h1), fun h => by
      obtain ⟨cs, rfl, h1⟩ := VR.tup_inv (show VR ρ σ (.tup (CV.nrml l)) v from h)
      exact .tup ((VRl.nrm l).2 h1)⟩
  | .raw _, v | .ptr _, v | .slc .., v | .slx .., v | .sla .., v | .sln _, v | .slr .., v | .ptx .., v | .junk, v | .any, v | .emp, v | .yld _, v | .map _, v => Iff.rfl
theorem VRl.nrm {σ : Mp} : ∀ (l : List CV) {vs : List Value}, VRl ρ σ l vs ↔ VRl ρ σ (CV.nrml l) vs
  | [], vs => Iff.rfl
  | c :: l, vs => ⟨fun h => by
      cases h with
      | cons h t => exact .cons ((VR.nrm c).1 h) ((VRl.nrm l).1 t), fun h => by
      have hh : VRl ρ σ (c.nrm :: CV.nrml l) vs := h
      cases hh with
      | cons h1 t1 => exact .cons ((VR.nrm c).2 h1) ((VRl.nrm l).2 t1)⟩
end
theorem MC.nrm {ren : Nat → Nat} {n2 : Nat} {a b c : CV} (h : MC ρ ren n2 b c) (e : a.nrm = b.nrm) : MC ρ ren n2 a c :=
  fun σ σ2 v hs hv => h σ σ2 v hs ((VR.nrm b).2 (e ▸ (VR.nrm a).1 hv))
end
theorem CV.nrml_ok {z : Nat} : ∀ {l : List CV}, l.length = z ∧ l.all CV.flat = true → (CV.nrml l).length = z ∧ (CV.nrml l).all CV.flat = true := by
  have len : ∀ l : List CV, (CV.nrml l).length = l.length := fun l => by
    induction l with
    | nil => rfl
    | cons c l ih => exact congrArg Nat.succ ih
  have flat : ∀ c : CV, c.nrm.flat = c.flat := fun c => by
    cases c with
    | int k e => cases e <;> rfl
    | bool e => cases e <;> rfl
    | _ => rfl
  have all : ∀ l : List CV, (CV.nrml l).all CV.flat = l.all CV.flat := fun l => by
    induction l with
    | nil => rfl
    | cons c l ih => simp only [CV.nrml, List.all_cons, flat, ih]
  intro l h
  exact ⟨(len l).trans h.1, (all l).trans h.2⟩
theorem flatR_nrm {ρ : Env} {σ : Mp} {row : Nat → List CV} : ∀ (n : Nat) {vs : List Value}, VRl ρ σ (flatR row n) vs ↔ VRl ρ σ (flatR (fun i => CV.nrml (row i)) n) vs
  | 0, vs => Iff.rfl
  | n + 1, vs => ⟨fun h => by
      rw [flatR] at h ⊢
      obtain ⟨x, y, rfl, h1, h2⟩ := h.cut
      exact ((flatR_nrm n).1 h1).append ((VRl.nrm _).1 h2), fun h => by
      rw [flatR] at h ⊢
      obtain ⟨x, y, rfl, h1, h2⟩ := h.cut
      exact ((flatR_nrm n).2 h1).append ((VRl.nrm _).2 h2)⟩
def BC.nrm : BC → BC
  | .lit l => .lit (CV.nrml l)
  | .rows n z row h => .rows n z (fun i => CV.nrml (row i)) (fun i => CV.nrml_ok (h i))
  | .arg n z row h => .arg n z (fun i => CV.nrml (row i)) (fun i => CV.nrml_ok (h i))
def Blk.nrm (k : Blk) : Blk := ⟨k.body.nrm, k.esz, k.live, none⟩
def BC.ren (f : Nat → Nat) : BC → BC
  | .lit l => .lit (CV.renl f l)
  | .rows n z row h => .rows n z (fun j => CV.renl f (row j)) (fun j => CV.renl_ok (h j))
  | .arg n z row h => .arg n z (fun j => CV.renl f (row j)) (fun j => CV.renl_ok (h j))
def Blk.ren (f : Nat → Nat) (k : Blk) : Blk := ⟨k.body.ren f, k.esz, k.live, none⟩
def BC.Rn (n : Nat) : BC → Prop
  | .lit l => CV.rnbl n l = true
  | .rows _ _ row _ => ∀ j, CV.rnbl n (row j) = true
  | .arg _ _ row _ => ∀ j, CV.rnbl n (row j) = true
theorem MB.ren {ρ : Env} {f : Nat → Nat} {n : Nat} {k : Blk} (h : k.body.Rn n) (hx : k.ext = none) : MB ρ f n (k.ren f) k := by
  obtain ⟨b, e, v, x⟩ := k
  have hx : x = none := hx
  subst hx
  cases b with
  | lit l => exact .lit (.ren h)
  | rows m z row hrow => exact .rows rfl fun j _ => .ren (h j)
  | arg m z row hrow =>
    obtain ⟨_, _, _, _, h5⟩ := MB.rows (ρ := ρ) (ren := f) (n2 := n) (z := z) (z' := z) (row := fun j => CV.renl f (row j)) (row' := row) (h := fun j => CV.renl_ok (hrow j)) (h' := hrow) (e := e) (x := none) (v := v) (n := m) (m := m) rfl fun j _ => .ren (h j)
    exact ⟨rfl, rfl, rfl, fun h => h, h5⟩
theorem Blk.nrm_cells {ρ : Env} {σ : Mp} {k : Blk} {vs : List Value} : VRl ρ σ k.cells vs ↔ VRl ρ σ k.nrm.cells vs := by
  obtain ⟨b, e, v, x⟩ := k
  cases b with
  | lit l => exact VRl.nrm l
  | rows m z row h => exact flatR_nrm m
  | arg m z row h => exact flatR_nrm m
theorem BC.nrm_ro (b : BC) : b.nrm.ro = b.ro := by cases b <;> rfl
theorem MB.nrm {ρ : Env} {f : Nat → Nat} {n : Nat} {a b k : Blk} (h : MB ρ f n b k) (e : a.nrm = b.nrm) : MB ρ f n a k := by
  obtain ⟨h1, h2, h3, h4, h5⟩ := h
  have e1 : a.esz = b.esz := (congrArg Blk.esz e : a.nrm.esz = b.nrm.esz)
  have e2 : a.live = b.live := (congrArg Blk.live e : a.nrm.live = b.nrm.live)
  have e3 : a.ro = b.ro := by
    have := congrArg (fun x => x.body.ro) e
    simp only [Blk.nrm, BC.nrm_ro] at this
    exact this
  exact ⟨h1.trans e2.symm, h2.trans e1.symm, h3, fun h => e3 ▸ h4 h, fun σ σ2 us hs hv => h5 σ σ2 us hs (Blk.nrm_cells.2 (e ▸ Blk.nrm_cells.1 hv))⟩
mutual
/-- A slice of cells taken for one of rows, where that is wanted. -/
def CV.like : CV → CV → CV
  | .slx _ z _ _ _, .slc (some (b, 0)) n c => .slx b z 0 n c
  | .agg l, .agg m => .agg (CV.likes l m)
  | .tup l, .tup m => .tup (CV.likes l m)
  | _, c => c
def CV.likes : List CV → List CV → List CV
  | p :: l, c :: m => CV.like p c :: CV.likes l m
  | _, m => m
end
def BC.like : BC → BC → BC
  | .rows _ z _ _, .lit l => if h : l.length = z ∧ l.all CV.flat = true then .rows 1 z (fun _ => l) (fun _ => h) else .lit l
  | .lit l, .lit m => .lit (CV.likes l m)
  | _, b => b
def Blk.like (p k : Blk) : Blk := ⟨BC.like p.body k.body, k.esz, k.live, k.ext⟩
section
variable {ρ : Env} {σ : Mp}
mutual
theorem VR.like : ∀ (p c : CV) {v : Value}, VR ρ σ c v → VR ρ σ (CV.like p c) v
  | .agg l, c, v, h => by
    cases c with
    | agg m =>
      obtain ⟨cs, rfl, h1⟩ := h.agg_inv
      exact .agg (VRl.like l m h1)
    | _ => exact h
  | .tup l, c, v, h => by
    cases c with
    | tup m =>
      obtain ⟨cs, rfl, h1⟩ := h.tup_inv
      exact .tup (VRl.like l m h1)
    | _ => exact h
  | .slx x z y n' c', c, v, h => by
    cases c with
    | slc a n k =>
      cases a with
      | none => exact h
      | some bo =>
        obtain ⟨b, o⟩ := bo
        cases o with
        | zero => exact .slx (by rw [Nat.zero_mul]; exact h)
        | succ o => exact h
    | _ => exact h
  | .bool _, c, v, h | .int _ _, c, v, h | .raw _, c, v, h | .ptr _, c, v, h | .slc .., c, v, h | .sla .., c, v, h | .sln _, c, v, h | .slr .., c, v, h | .ptx .., c, v, h | .junk, c, v, h | .any, c, v, h | .emp, c, v, h | .fn .., c, v, h | .yld _, c, v, h | .map _, c, v, h => by cases c <;> exact h
theorem VRl.like : ∀ (l m : List CV) {vs : List Value}, VRl ρ σ m vs → VRl ρ σ (CV.likes l m) vs
  | [], m, vs, h => by cases m <;> exact h
  | p :: l, [], vs, h => h
  | p :: l, c :: m, vs, h => by
    cases h with
    | cons h t => exact .cons (VR.like p c h) (VRl.like l m t)
end
theorem Blk.like_cells {p k : Blk} {us : List Value} (h : VRl ρ σ k.cells us) : VRl ρ σ (Blk.like p k).cells us := by
  obtain ⟨pb, pe, pv, px⟩ := p
  obtain ⟨kb, ke, kv, kx⟩ := k
  show VRl ρ σ (BC.like pb kb).list us
  have h : VRl ρ σ kb.list us := h
  cases pb with
  | lit l => cases kb with
    | lit m => exact VRl.like l m h
    | _ => exact h
  | rows n z row hr => cases kb with
    | lit m =>
      show VRl ρ σ (if h : m.length = z ∧ m.all CV.flat = true then BC.rows 1 z (fun _ => m) (fun _ => h) else .lit m).list us
      split
      · show VRl ρ σ ([] ++ m) us
        exact h
      · exact h
    | _ => exact h
  | arg n z row hr => cases kb <;> exact h
end
theorem BC.like_ro (p b : BC) : (BC.like p b).ro = b.ro := by
  unfold BC.like
  split
  · split <;> rfl
  · rfl
  · rfl
theorem MC.like {ρ : Env} {ren : Nat → Nat} {n2 : Nat} {a c p : CV} (h : MC ρ ren n2 (CV.like p a) c) : MC ρ ren n2 a c := fun σ σ2 v hs hv => h σ σ2 v hs (hv.like p a)
theorem MB.like {ρ : Env} {f : Nat → Nat} {n : Nat} {a k p : Blk} (h : MB ρ f n (Blk.like p a) k) : MB ρ f n a k := by
  obtain ⟨h1, h2, h3, h4, h5⟩ := h
  have e2 : (Blk.like p a).ro = a.ro := BC.like_ro _ _
  exact ⟨h1, h2, h3, fun h => by rw [← e2]; exact h4 h, fun σ σ2 us hs hv => h5 σ σ2 us hs (Blk.like_cells hv)⟩
/-- Names behind the arguments' blocks, by a list. -/
def renF (base : Nat) (r : List Nat) (b : Nat) : Nat := bif Nat.blt b base then b else match r[b - base]? with | some x => x | none => b
def nodupB : List Nat → Bool
  | [] => true
  | a :: l => !l.any (Nat.beq a) && nodupB l
def renOk (base n : Nat) (r : List Nat) : Bool := r.all (fun x => Nat.ble base x && Nat.blt x n) && nodupB r
theorem nodupB_inj : ∀ {l : List Nat}, nodupB l = true → ∀ {i j : Nat} {x : Nat}, l[i]? = some x → l[j]? = some x → i = j
  | [], _, i, j, x, h, _ => by simp at h
  | a :: l, h, i, j, x, h1, h2 => by
    simp only [nodupB, Bool.and_eq_true, Bool.not_eq_true', List.any_eq_false] at h
    cases i with
    | zero =>
      cases j with
      | zero => rfl
      | succ j =>
        simp at h1 h2
        subst h1
        exact absurd (Nat.beq_refl a) (h.1 a (List.mem_of_getElem? h2))
    | succ i =>
      cases j with
      | zero =>
        simp at h1 h2
        subst h2
        exact absurd (Nat.beq_refl a) (h.1 a (List.mem_of_getElem? h1))
      | succ j =>
        simp at h1 h2
        exact congrArg Nat.succ (nodupB_inj h.2 h1 h2)
/-- A point, but for the arguments' blocks: temporaries, blocks, the next number, records of ranges. -/
structure PD where
  T : List (Nat × CV)
  h : List (Nat × Blk)
  n : Nat
  x : List (Nat × Blk)
noncomputable def putH (h0 : Tr Blk) : List (Nat × Blk) → Tr Blk
  | [] => h0
  | (t, c) :: l => (putH h0 l).set t c
noncomputable def PD.pt (h0 : Tr Blk) (d : PD) : Pt := ⟨mkT d.T, putH h0 (d.h ++ d.x), d.n⟩
/-- A record of a range, whose temporaries name old blocks alone. -/
def RecOk (base : Nat) (k : Blk) : Prop := k.live = false ∧ ∃ r : LR, k.ext = some (.loop r) ∧ ∀ t, (rd r.T t).lts base = true
structure PD.Ok (base : Nat) (W : List Nat) (d : PD) : Prop where
  T : ∀ x ∈ d.T, x.2.rnb d.n = true
  h : ∀ x ∈ d.h, (base ≤ x.1 ∨ x.1 ∈ W) ∧ x.2.body.Rn d.n ∧ x.2.ext = none
  x : ∀ x ∈ d.x, x.1 ∈ W ∧ RecOk base x.2
  W : W.all (fun b => (d.h ++ d.x).any (fun x => Nat.beq x.1 b)) = true
theorem MC.fix {ρ : Env} {ren : Nat → Nat} {n2 base : Nat} {c : CV} (h : c.lts base = true) (hb : base ≤ n2) (hf : ∀ b, b < base → ren b = b) : MC ρ ren n2 c c := fun σ σ2 v hs hv => hv.lts (fun b hb' => by rw [hs b (Nat.lt_of_lt_of_le hb' hb), hf b hb']) h
theorem get_putH (h0 : Tr Blk) (t : Nat) : ∀ (l : List (Nat × Blk)), (putH h0 l).get t = match l.find? (fun x => x.1 == t) with | some x => some x.2 | none => h0.get t
  | [] => rfl
  | (u, c) :: l => by
    have ih := get_putH h0 t l
    simp only [putH, Tr.get_set, List.find?_cons]
    by_cases h : t = u
    · subst h; simp
    · have h' : (u == t) = false := by simp; exact fun e => h e.symm
      rw [if_neg h, h']
      exact ih
theorem renF_props {base n : Nat} {r : List Nat} (h : renOk base n r = true) : (∀ b, b < base → renF base r b = b) ∧ (∀ b, base ≤ b → b < base + r.length → base ≤ renF base r b ∧ renF base r b < n) ∧
    (∀ b b', b < base + r.length → b' < base + r.length → renF base r b = renF base r b' → b = b') := by
  simp only [renOk, Bool.and_eq_true, List.all_eq_true] at h
  have low : ∀ b, b < base → renF base r b = b := fun b hb => by
    have e : Nat.blt b base = true := by simpa using hb
    simp only [renF, e, cond_true]
  have high : ∀ b, base ≤ b → b < base + r.length → ∃ x, r[b - base]? = some x ∧ renF base r b = x := fun b h1 h2 => by
    have e : Nat.blt b base = false := by
      cases hbq : Nat.blt b base with
      | false => rfl
      | true => exact absurd (blt_lt hbq) (by omega)
    have hlt : b - base < r.length := by omega
    refine ⟨r[b - base], List.getElem?_eq_getElem hlt, ?_⟩
    simp only [renF, e, cond_false, List.getElem?_eq_getElem hlt]
  have rng : ∀ b, base ≤ b → b < base + r.length → base ≤ renF base r b ∧ renF base r b < n := fun b h1 h2 => by
    obtain ⟨x, hx, he⟩ := high b h1 h2
    have := h.1 x (List.mem_of_getElem? hx)
    rw [he]
    exact ⟨Nat.le_of_ble_eq_true this.1, blt_lt this.2⟩
  refine ⟨low, rng, fun b b' h1 h2 h3 => ?_⟩
  by_cases hb : b < base <;> by_cases hb' : b' < base
  · rwa [low b hb, low b' hb'] at h3
  · have := rng b' (by omega) h2
    rw [low b hb] at h3; omega
  · have := rng b (by omega) h1
    rw [low b' hb'] at h3; omega
  · obtain ⟨x, hx, he⟩ := high b (by omega) h1
    obtain ⟨x', hx', he'⟩ := high b' (by omega) h2
    rw [he, he'] at h3
    subst h3
    have := nodupB_inj h.2 hx hx'
    omega
theorem map_eq_mem {α β : Type} {g h : α → β} : ∀ {l : List α}, l.map g = l.map h → ∀ x ∈ l, g x = h x
  | _ :: _, e, x, hx => by
    simp only [List.map_cons, List.cons.injEq] at e
    rcases List.mem_cons.1 hx with rfl | hx
    · exact e.1
    · exact map_eq_mem e.2 x hx
theorem Mat.ren {ρ : Env} {X : Fx} {base : Nat} {W : List Nat} {h0 : Tr Blk} {T : Tr CV} {h : Tr Blk} {n : Nat} {d : PD} {r : List Nat} (hbs : X.base = base) (hW : X.W = W) (hwb : ∀ b ∈ W, b < base) (hd : d.Ok base W) (hr : renOk base n r = true) (hn : d.n = base + r.length)
    (hT : d.T.map (fun x => (CV.like x.2 (rd T x.1)).nrm) = d.T.map (fun x => (x.2.ren (renF base r)).nrm)) (hB : d.h.map (fun x => (h.get (renF base r x.1)).map (fun k => (Blk.like x.2 k).nrm)) = d.h.map (fun x => some (x.2.ren (renF base r)).nrm)) (hx : d.x.map (fun x => h.get x.1) = d.x.map (fun x => some x.2))
    (hold : ∀ b, b < base → b ∉ W → h.get b = h0.get b) (hh0 : ∀ b, base ≤ b → h0.get b = Option.none) :
    Mat ρ X (renF base r) ⟨T, h, n⟩ (d.pt h0) := by
  subst hbs hW
  obtain ⟨p1, p2, p3⟩ := renF_props hr
  rw [← hn] at p2 p3
  refine ⟨?_, p1, p2, p3, fun t => ?_, fun b hb hbW => ?_, fun b k hb hk => ?_⟩
  · show X.base ≤ d.n; omega
  · show MC ρ (renF X.base r) d.n (rd T t) (rd (mkT d.T) t)
    rw [rd_mkT]
    split
    · rename_i x hx
      have h1 := List.find?_some hx
      have h2 := List.mem_of_find?_eq_some hx
      simp only [beq_iff_eq] at h1
      rw [← h1]
      exact ((MC.ren (hd.T x h2)).nrm (map_eq_mem hT x h2)).like
    · exact .any
  · show (putH h0 (d.h ++ d.x)).get b = h.get b
    rw [get_putH]
    split
    · rename_i x hx
      have h1 := List.find?_some hx
      have h2 := List.mem_of_find?_eq_some hx
      simp only [beq_iff_eq] at h1
      subst h1
      rcases List.mem_append.1 h2 with h2 | h2
      · rcases (hd.h x h2).1 with h3 | h3
        · omega
        · exact absurd h3 hbW
      · exact absurd (hd.x x h2).1 hbW
    · exact (hold b hb hbW).symm
  · have hk : (putH h0 (d.h ++ d.x)).get b = some k := hk
    rw [get_putH] at hk
    split at hk
    · rename_i x hx'
      cases hk
      have h1 := List.find?_some hx'
      have h2 := List.mem_of_find?_eq_some hx'
      simp only [beq_iff_eq] at h1
      subst h1
      rcases List.mem_append.1 h2 with h2 | h2
      · obtain ⟨k0, q1, q2⟩ := Option.map_eq_some_iff.1 (map_eq_mem hB x h2)
        exact ⟨k0, q1, .inl ((MB.ren (hd.h x h2).2.1 (hd.h x h2).2.2).nrm q2).like⟩
      · obtain ⟨hw, hl, rr, he, ht⟩ := hd.x x h2
        refine ⟨x.2, ?_, .inr ⟨hl, rr, rr, he, he, rfl, rfl, rfl, rfl, rfl, rfl, fun t => .fix (ht t) (by show X.base ≤ d.n; omega) p1⟩⟩
        rw [p1 _ (hwb _ hw)]
        exact map_eq_mem hx x h2
    · rename_i hx'
      rcases hb with hb | hb
      · have := hd.W
        rw [List.all_eq_true] at this
        have := this b hb
        rw [List.any_eq_true] at this
        obtain ⟨x, q1, q2⟩ := this
        rw [List.find?_eq_none] at hx'
        exact absurd (by simpa using Nat.eq_of_beq_eq_true q2) (hx' x q1)
      · rw [hh0 b hb.1] at hk; cases hk
/-! ## Trees of tests -/
inductive DD (L : Type) where
  | leaf (l : L)
  | ask (c : Bool) (t f : DD L)
  | must (c : Bool) (t : DD L)
  | num (x : Int) (n : Nat) (t f : DD L)
  | dead
def DD.eval {L : Type} : DD L → Option L
  | .leaf l => some l
  | .ask c t f => bif c then t.eval else f.eval
  | .must c t => bif c then t.eval else none
  | .num x n t f => bif decide (x = n) then t.eval else f.eval
  | .dead => none
/-- Its leaves: the answers that lead there, the facts on the way, the latest first. -/
def DD.lv {L : Type} : DD L → List (List Nat × List PC × L)
  | .leaf l => [([], [], l)]
  | .ask c t f => t.lv.map (fun x => (1 :: x.1, x.2.1 ++ [.b (.x c) true], x.2.2)) ++ f.lv.map (fun x => (0 :: x.1, x.2.1 ++ [.b (.x c) false], x.2.2))
  | .must c t => t.lv.map (fun x => (x.1, x.2.1 ++ [.b (.x c) true], x.2.2))
  | .num x n t f => t.lv.map (fun y => (n :: y.1, y.2.1 ++ [.b (.x (decide (x = n))) true], y.2.2)) ++ f.lv
  | .dead => []
theorem DD.eval_lv {L : Type} {ρ : Env} {l : L} : ∀ {d : DD L}, d.eval = some l → ∃ o p, (o, p, l) ∈ d.lv ∧ ∀ q ∈ p, q.holds ρ
  | .leaf l', h => by
    simp only [DD.eval] at h
    cases h
    exact ⟨[], [], by simp [DD.lv], by simp⟩
  | .ask c t f, h => by
    simp only [DD.eval] at h
    cases c with
    | true =>
      obtain ⟨o, p, h1, h2⟩ := DD.eval_lv (ρ := ρ) (d := t) h
      exact ⟨1 :: o, p ++ [.b (.x true) true], by simp only [DD.lv, List.mem_append, List.mem_map]; exact .inl ⟨_, h1, rfl⟩, fun q hq => by
        rcases List.mem_append.1 hq with hq | hq
        · exact h2 q hq
        · obtain rfl := List.mem_singleton.1 hq; rfl⟩
    | false =>
      obtain ⟨o, p, h1, h2⟩ := DD.eval_lv (ρ := ρ) (d := f) h
      exact ⟨0 :: o, p ++ [.b (.x false) false], by simp only [DD.lv, List.mem_append, List.mem_map]; exact .inr ⟨_, h1, rfl⟩, fun q hq => by
        rcases List.mem_append.1 hq with hq | hq
        · exact h2 q hq
        · obtain rfl := List.mem_singleton.1 hq; rfl⟩
  | .must c t, h => by
    simp only [DD.eval] at h
    cases c with
    | true =>
      obtain ⟨o, p, h1, h2⟩ := DD.eval_lv (ρ := ρ) (d := t) h
      exact ⟨o, p ++ [.b (.x true) true], by simp only [DD.lv, List.mem_map]; exact ⟨_, h1, rfl⟩, fun q hq => by
        rcases List.mem_append.1 hq with hq | hq
        · exact h2 q hq
        · obtain rfl := List.mem_singleton.1 hq; rfl⟩
    | false => cases h
  | .num x n t f, h => by
    simp only [DD.eval] at h
    cases hx : decide (x = n) with
    | true =>
      rw [hx] at h
      obtain ⟨o, p, h1, h2⟩ := DD.eval_lv (ρ := ρ) (d := t) h
      exact ⟨n :: o, p ++ [.b (.x (decide (x = n))) true], by simp only [DD.lv, List.mem_append, List.mem_map]; exact .inl ⟨_, h1, rfl⟩, fun q hq => by
        rcases List.mem_append.1 hq with hq | hq
        · exact h2 q hq
        · obtain rfl := List.mem_singleton.1 hq; exact hx⟩
    | false =>
      rw [hx] at h
      obtain ⟨o, p, h1, h2⟩ := DD.eval_lv (ρ := ρ) (d := f) h
      exact ⟨o, p, by simp only [DD.lv, List.mem_append]; exact .inr h1, h2⟩
  | .dead, h => by cases h
/-- A leaf: the next head, or the function's end; the blocks' numbers there. -/
inductive Lf (N R : Type) where
  | next (a : N) (r : List Nat)
  | done (v : R) (r : List Nat)
/-- A function as an automaton: N its heads, R what it yields. -/
structure AF (N R : Type) where
  code : Code
  base : Nat
  nt : Nat
  m : Nat
  un : List Nat
  W : List Nat
  h0 : List (Nat × Blk)
  args : List CV
  res : List ResultVar
  path : N → List Nat
  pd : N → PD
  D0 : DD (Lf N R)
  D : N → DD (Lf N R)
  rc : R → CV
  rh : R → List (Nat × Blk)
  rn : R → Nat
  rx : R → List (Nat × Blk)
  /-- Heads that are ranges over functions: what follows, where the iterator ends within so many rounds. -/
  rgo : N → Option (Nat → Option (DD (Lf N R)))
section
variable {N R : Type} (A : AF N R)
noncomputable def AF.H0 : Tr Blk := mkH A.h0
def AF.go : Nat → N → Option R
  | 0, _ => none
  | n + 1, a =>
    match A.rgo a with
    | some q => match q n with
      | some D => match D.eval with
        | some (.next b _) => AF.go n b
        | some (.done v _) => some v
        | none => none
      | none => none
    | none => match (A.D a).eval with
      | some (.next b _) => AF.go n b
      | some (.done v _) => some v
      | none => none
/-- What the function yields, if it ends within so many rounds. -/
def AF.run (n : Nat) : Option R := match A.D0.eval with
  | some (.next b _) => A.go n b
  | some (.done v _) => some v
  | none => none
/-- What is looked at where a run ends, and what it should be. -/
noncomputable def AF.see (C0 : Ctx) (l : Lf N R) (o : Option KO) : Option (List Nat × List CV × List (Option Blk) × List PC × List (Option Blk) × Bool) :=
  match l, o with
  | .next a r, some ⟨.at π, T, s, W⟩ => some (π, (A.pd a).T.map (fun x => (CV.like x.2 (rd T x.1)).nrm), (A.pd a).h.map (fun x => (s.heap.get (renF A.base r x.1)).map (fun k => (Blk.like x.2 k).nrm)), s.pc, (A.pd a).x.map (fun x => s.heap.get x.1), W.all (fun b => A.W.any (Nat.beq b)) && (renOk A.base s.next r && Nat.beq (A.pd a).n (A.base + r.length)))
  | .done v r, some ⟨.fin e, T, s, W⟩ => match resE C0 T ⟨s.heap, s.next, [], []⟩ A.res with
    | some (vs, _) => some ([], [(CV.like (A.rc v) (tupC vs)).nrm], (A.rh v).map (fun x => (s.heap.get (renF A.base r x.1)).map (fun k => (Blk.like x.2 k).nrm)), s.pc, (A.rx v).map (fun x => s.heap.get x.1), W.all (fun b => A.W.any (Nat.beq b)) && (e.stays && (renOk A.base s.next r && Nat.beq (A.rn v) (A.base + r.length))))
    | none => none
  | _, _ => none
noncomputable def AF.want (l : Lf N R) (p : List PC) : Option (List Nat × List CV × List (Option Blk) × List PC × List (Option Blk) × Bool) :=
  match l with
  | .next a r => some (A.path a, (A.pd a).T.map (fun x => (x.2.ren (renF A.base r)).nrm), (A.pd a).h.map (fun x => some (x.2.ren (renF A.base r)).nrm), p, (A.pd a).x.map (fun x => some x.2), true)
  | .done v r => some ([], [((A.rc v).ren (renF A.base r)).nrm], (A.rh v).map (fun x => some (x.2.ren (renF A.base r)).nrm), p, (A.rx v).map (fun x => some x.2), true)
def AF.edgeOk (C0 : Ctx) (D : DD (Lf N R)) (run : List Nat → Option KO) : Prop :=
  D.lv.map (fun x => A.see C0 x.2.2 (run x.1)) = D.lv.map (fun x => A.want x.2.2 x.2.1)
noncomputable def AF.runN (C : Ctx) (a : N) (o : List Nat) : Option KO :=
  edgeK C A.m A.base A.nt A.un A.code (A.path a) ((A.pd a).pt A.H0).T (((A.pd a).pt A.H0).st o)
noncomputable def AF.run0 (C : Ctx) (o : List Nat) : Option KO :=
  startK C A.m A.base A.nt A.un A.code (args0 0 A.args .nil) ⟨A.H0, A.base, o, []⟩
variable {A}
variable {P : Program} {ρ : Env}
/-- What holds at the end. -/
def AF.Φ (A : AF N R) (P : Program) (ρ : Env) (v : R) (e : Ex) (p : Pt) : Prop :=
  e.stays = true ∧ ∃ (r : List Nat) (vs : List CV) (R' : List Nat), (∀ X : Fx, X.base = A.base → X.W = A.W → Mat ρ X (renF A.base r) p (PD.pt A.H0 ⟨[], A.rh v, A.rn v, A.rx v⟩)) ∧ resE (ctxOf P memo0) p.T (p.st []) A.res = some (vs, R') ∧ (CV.like (A.rc v) (tupC vs)).nrm = ((A.rc v).ren (renF A.base r)).nrm
structure AF.Ok (A : AF N R) (P : Program) (C : Ctx) : Prop where
  regs : regsOk A.code = true
  h0 : A.h0.all (fun x => Nat.blt x.1 A.base) = true
  start : A.edgeOk (ctxOf P memo0) A.D0 (A.run0 C)
  node : ∀ a, A.rgo a = none → A.edgeOk (ctxOf P memo0) (A.D a) (A.runN C a)
  pd : ∀ a, (A.pd a).Ok A.base A.W
  le : ∀ a, A.base ≤ (A.pd a).n
  rd : ∀ v, (⟨[], A.rh v, A.rn v, A.rx v⟩ : PD).Ok A.base A.W ∧ (A.rc v).rnb (A.rn v) = true
  wb : A.W.all (fun b => Nat.blt b A.base) = true
theorem AF.Ok.h0_none {C : Ctx} (hA : A.Ok P C) (b : Nat) (hb : A.base ≤ b) : A.H0.get b = none := by
  unfold AF.H0
  rw [get_mkH]
  have h := hA.h0
  rw [List.all_eq_true] at h
  have : A.h0.find? (fun x => x.1 == b) = none := by
    rw [List.find?_eq_none]
    intro x hx hxb
    have h1 := blt_lt (h x hx)
    simp only [beq_iff_eq] at hxb
    omega
  rw [this]; rfl
theorem AF.Ok.wlt {C : Ctx} (hA : A.Ok P C) : ∀ b ∈ A.W, b < A.base := fun b hb => blt_lt (List.all_eq_true.1 hA.wb b hb)
theorem wsub {W V : List Nat} (h : W.all (fun b => V.any (Nat.beq b)) = true) : ∀ b ∈ W, b ∈ V := fun b hb => by
  have := List.all_eq_true.1 h b hb
  obtain ⟨x, h1, h2⟩ := List.any_eq_true.1 this
  rw [Nat.eq_of_beq_eq_true h2]; exact h1
/-- What is to be shown of a head that is a range over a function: a run behind it. -/
def AF.RangeOk (A : AF N R) (P : Program) (ρ : Env) (X : Fx) (a : N) (D : DD (Lf N R)) : Prop :=
  ∃ (run : List Nat → Option KO) (s0 : St), A.edgeOk (ctxOf P memo0) D run ∧ s0.pc = [] ∧ (∀ b, b < A.base → b ∉ A.W → s0.heap.get b = A.H0.get b) ∧
    ∀ o (k : KO), run o = some k → KS P ρ A.base A.nt s0 k.s k.W (fun X Φ => Obl P ρ X A.code Φ k.r ⟨k.T, k.s.heap, k.s.next⟩) (fun X' Φ => X' = X → AtL P ρ X A.code (A.path a) Φ ((A.pd a).pt A.H0))
theorem AF.go_ok {C : Ctx} (hC : CtxOk3 P C) (hM : MemoOk P C ρ) (hA : A.Ok P C) {X : Fx} (hX : FxOk ρ X) (hb : X.base = A.base) (hnt : X.nt = A.nt) (hW : X.W = A.W) (hR : ∀ a q n D, A.rgo a = some q → q n = some D → A.RangeOk P ρ X a D) :
    ∀ (n : Nat) (D : DD (Lf N R)) (v : R) (run : List Nat → Option KO) (G : (Ex → Pt → Prop) → Prop) (s0 : St), A.edgeOk (ctxOf P memo0) D run → s0.pc = [] → (∀ b, b < A.base → b ∉ A.W → s0.heap.get b = A.H0.get b) →
      (∀ o (k : KO), run o = some k → KS P ρ A.base A.nt s0 k.s k.W (fun X Φ => Obl P ρ X A.code Φ k.r ⟨k.T, k.s.heap, k.s.next⟩) (fun X' Φ => X' = X → G Φ)) →
      (match D.eval with | some (.next b _) => A.go n b | some (.done v _) => some v | none => none) = some v → G (A.Φ P ρ v) := by
  intro n
  induction n with
  | zero =>
    intro D v run G s0 hE hpc hold hrun hv
    cases hd : D.eval with
    | none => rw [hd] at hv; cases hv
    | some l =>
      rw [hd] at hv
      cases l with
      | next b r => simp only [AF.go] at hv; cases hv
      | done v' r =>
        cases hv
        obtain ⟨o, p, hm, hp⟩ := DD.eval_lv (ρ := ρ) hd
        have h1 := map_eq_mem hE _ hm
        simp only [AF.see, AF.want] at h1
        split at h1 <;> try (cases h1; done)
        · rename_i heq _; cases heq
        · rename_i v2 r2 e T s W heq hk
          cases heq
          split at h1
          · rename_i vs R' hres
            simp only [Option.some.injEq, Prod.mk.injEq, true_and, List.cons.injEq, and_true, Bool.and_eq_true] at h1
            obtain ⟨h2, h3, h4, hxx, h5, h6, h7, h8⟩ := h1
            have h5 := wsub h5
            have k := hrun o _ hk
            refine k.run X _ hX hb hnt (by show ∀ q ∈ s.pc, _; rw [h4]; exact hp) (by show ∀ b ∈ W, _; rw [hW]; exact h5) ?_ rfl
            refine ⟨h6, r, vs, R', ?_, hres, h2⟩
            intro X' hb' hW'
            exact Mat.ren hb' hW' hA.wlt (hA.rd v).1 h7 (Nat.eq_of_beq_eq_true h8) rfl h3 hxx (fun b hb hbW => by
              have := k.old b hb (by show b ∉ W; exact fun h => hbW (h5 b h))
              exact this.trans (hold b hb hbW)) hA.h0_none
          · cases h1
  | succ n ih =>
    intro D v run G s0 hE hpc hold hrun hv
    cases hd : D.eval with
    | none => rw [hd] at hv; cases hv
    | some l =>
      rw [hd] at hv
      cases l with
      | next b r =>
        obtain ⟨o, p, hm, hp⟩ := DD.eval_lv (ρ := ρ) hd
        have h1 := map_eq_mem hE _ hm
        simp only [AF.see, AF.want] at h1
        split at h1 <;> try (cases h1; done)
        · rename_i a2 r2 π T s W heq hk
          cases heq
          simp only [Option.some.injEq, Prod.mk.injEq, true_and, Bool.and_eq_true] at h1
          obtain ⟨h2, h3, h4, h5, hxx, h6, h7, h8⟩ := h1
          have h6 := wsub h6
          have k := hrun o _ hk
          refine k.run X _ hX hb hnt (by show ∀ q ∈ s.pc, _; rw [h5]; exact hp) (by show ∀ b ∈ W, _; rw [hW]; exact h6) ?_ rfl
          show AtL P ρ X A.code π (A.Φ P ρ v) ⟨T, s.heap, s.next⟩
          rw [h2]
          refine AtL.mat hX (Mat.ren (base := A.base) (h0 := A.H0) (d := A.pd b) (r := r) hb hW hA.wlt (hA.pd b) h7 (Nat.eq_of_beq_eq_true h8) h3 h4 hxx (fun b hb hbW => by
              have := k.old b hb (by show b ∉ W; exact fun h => hbW (h6 b h))
              exact this.trans (hold b hb hbW)) hA.h0_none) ?_
          simp only [AF.go] at hv
          cases hq : A.rgo b with
          | some q =>
            rw [hq] at hv
            simp only at hv
            cases hqn : q n with
            | none => rw [hqn] at hv; cases hv
            | some D2 =>
              rw [hqn] at hv
              obtain ⟨run2, s2, e1, e2, e3, e4⟩ := hR b q n D2 hq hqn
              exact ih D2 v run2 (fun Φ => AtL P ρ X A.code (A.path b) Φ ((A.pd b).pt A.H0)) s2 e1 e2 e3 e4 hv
          | none =>
          rw [hq] at hv
          simp only at hv
          refine ih (A.D b) v (A.runN (C := C) b) (fun Φ => AtL P ρ X A.code (A.path b) Φ ((A.pd b).pt A.H0)) (((A.pd b).pt A.H0).st []) (hA.node b hq) rfl (fun b' hb' hbW' => ?_) (fun o k hk => ?_) hv
          · show (putH A.H0 ((A.pd b).h ++ (A.pd b).x)).get b' = _
            rw [get_putH]
            split
            · rename_i x hx
              have h1 := List.find?_some hx
              have h2 := List.mem_of_find?_eq_some hx
              simp only [beq_iff_eq] at h1
              subst h1
              rcases List.mem_append.1 h2 with h2 | h2
              · rcases ((hA.pd b).h x h2).1 with h3 | h3
                · omega
                · exact absurd h3 hbW'
              · exact absurd ((hA.pd b).x x h2).1 hbW'
            · rfl
          · have kk := edgeK_ok (base := A.base) hC hM hA.regs (by show A.base ≤ (A.pd b).n; exact hA.le b) hk
            exact ⟨kk.next, kk.pc, kk.old, fun X' Φ a b c d e f hx => by subst hx; exact kk.run X' Φ a b c d e f⟩
        · rename_i heq _; cases heq
      | done v' r =>
        have hv' : (match D.eval with | some (.next b _) => A.go n b | some (.done v _) => some v | none => none) = some v := by rw [hd]; exact hv
        exact ih D v run G s0 hE hpc hold hrun hv'
/-- No head is a range over a function. -/
theorem AF.noRange (h : A.rgo = fun _ => none) : ∀ (X : Fx) a q n D, FxOk ρ X → X.base = A.base → X.nt = A.nt → X.W = A.W → A.rgo a = some q → q n = some D → A.RangeOk P ρ X a D := by
  intro X a q n D _ _ _ _ hq
  rw [h] at hq
  cases hq
/-- A function's contract, from its automaton. -/
theorem AF.ctr {memo : Memo} (hP : progOk P = true) (hM : MemoOk P (ctxOf P memo) ρ) (hA : A.Ok P (ctxOf P memo)) {f : Nat} {fn : Func} (hfn : P.funcs[f]? = some fn) (hb : fn.body = some A.code) (hnt : fn.ntmps = A.nt) (hl : A.args.length ≤ A.nt) (hres : fn.results.toList = A.res)
    (hR : ∀ X a q n D, FxOk ρ X → X.base = A.base → X.nt = A.nt → X.W = A.W → A.rgo a = some q → q n = some D → A.RangeOk P ρ X a D) {n : Nat} {v : R} (hv : A.run n = some v) : Ctr P ρ f A.args A.H0 A.base A.W (A.rc v) (putH A.H0 (A.rh v ++ A.rx v)) (A.rn v) := by
  have hC := ctxOf_ok hP memo
  refine Ctr.of_sem (Φ := A.Φ P ρ v) hP hfn hb (by rw [hnt]; exact hl) hA.wlt (fun X hXb hXn hXW hX => ?_) (fun X hXb hXW hX e p h => ?_)
  · refine AF.go_ok hC hM hA hX hXb (hXn.trans hnt) hXW (fun a q m D => hR X a q m D hX hXb (hXn.trans hnt) hXW) n A.D0 v (A.run0 (ctxOf P memo)) (fun Φ => Sem P ρ X A.code ⟨args0 0 A.args .nil, A.H0, A.base⟩ Φ) ⟨A.H0, A.base, [], []⟩ hA.start rfl (fun _ _ _ => rfl) (fun o k hk => ?_) hv
    have kk := startK_ok (base := A.base) hC hM A.code _ _ _ hA.regs (by show A.base ≤ A.base; exact Nat.le_refl _) hk
    exact ⟨kk.next, kk.pc, kk.old, fun X' Φ a b c d e f hx => by subst hx; exact kk.run X' Φ a b c d e f⟩
  · obtain ⟨he, r, vs, R', hm, hr, hc⟩ := h
    refine ⟨he, renF A.base r, _, vs, R', hm X hXb hXW, rfl, fun _ _ => rfl, by rw [hres]; exact hr, ?_⟩
    exact ((MC.ren (hA.rd v).2).nrm hc).like
end
end Go.Proofs.Ythagjhadjpangaa.Cx
