/- THE EVALUATOR's WORD HOLDS: of statements and of calls, by its fuel. -/
import Derived.Test.YtknphpihipkdpaaCxO
set_option linter.unusedSimpArgs false
set_option linter.unusedVariables false
namespace Go.Proofs.Ytknphpihipkdpaa.Cx
open Go Go.RowKit

/-- The functions' regions have the orders of temporaries that their edges say. -/
structure CtxOk3 (P : Program) (C : Ctx) : Prop extends CtxOk2 P C where
  regs : ∀ f fn c, C.fn f = some fn → fn.body = some c → regsOk c = true

/-- What the evaluator yields at a fuel is right. -/
structure EvOk (P : Program) (C : Ctx) (ρ : Env) (m : Nat) : Prop where
  call : ∀ base f args s c s' R W, eval C m base (.call f args) s = some ⟨.val c, s', R, W⟩ → CallOk P C ρ f args s c s' R W
  code : ∀ base c nt T s e T' s' R W, eval C m base (.code c nt T) s = some ⟨.code e T', s', R, W⟩ → base ≤ s.next → CodeOk P ρ m base c nt T s e T' s' R W

section
variable {P : Program} {C : Ctx} {ρ : Env} {m base nt : Nat} {T T' : Tr CV} {s s' : St} {R W : List Nat} {e : Ex}

/-- A statement that does nothing but leave in some way. -/
theorem leave_ok {c : Code} (hc : ∀ (ro : Option Nat) (n : Nat) (Q : Exit → Act → World → Prop) (a : Act) (w : World), Q e.conv a w → wpL m ro n P c Q a w) (hb : base ≤ s.next) : CodeOk P ρ m base c nt T s e T s [] [] :=
  ⟨FrmB.refl _ _ _, fun b h => by simp at h, fun _ Wt ro n Q σ cur w a0 a _ _ hp _ hH hA hN hF hQ => hc ro n Q a w (hQ a w (PostR.toC ⟨σ, Inv.start hH (fun b hb' => hA b (.inr hb')), hF⟩))⟩

theorem decide_heap {s1 : St} {x : BE} {t : Bool} (h : s.decide x = some (t, s1)) : s1.next = s.next ∧ s1.heap = s.heap := by
  obtain ⟨h1, h2, _⟩ := decide_parts (ρ := ⟨fun _ => 0, fun _ => false⟩) h
  exact ⟨h1, h2⟩

/-- A statement from a memory that only its facts tell from another one. -/
theorem CodeOk.from {c : Code} {s1 : St} (h : CodeOk P ρ m base c nt T s1 e T' s' R W) (h1 : s1.next = s.next) (h2 : s1.heap = s.heap) (h3 : ∃ l, s1.pc = l ++ s.pc) :
    FrmB base s s' W ∧ (regsOk c = true → ∀ (Wt : List Nat) (ro : Option Nat) (n : Nat) (Q : Exit → Act → World → Prop) (σ : Mp) (cur : Cur) (w : World) (a0 a : Act), (∀ b ∈ W, b ∈ Wt) → (∀ b ∈ Wt, b < base) → (∀ p ∈ s'.pc, p.holds ρ) → (∀ l, ro = some l → ∃ r, w.heap[l]? = some (.loop r)) → HR ρ σ cur w → (∀ b, b ∈ R ∨ b ∈ Wt ∨ (base ≤ b ∧ b < s.next) → cur b = s.heap.get b) →
    (∀ b, s.next ≤ b → b < s'.next → σ b = none) → FRn ρ σ nt T a0 a → (∀ a' w', PostC ρ σ cur base s w nt T' s' Wt a0 a' w' → Q e.conv a' w') → wpL m ro n P c Q a w) := by
  refine ⟨⟨by rw [← h1]; exact h.frm.next, fun b hb hn => by rw [h.frm.get b hb hn, h2], ?_⟩, ?_⟩
  · obtain ⟨l, hl⟩ := h3
    obtain ⟨l2, hl2⟩ := h.frm.pc
    exact ⟨l2 ++ l, by rw [hl2, hl, List.append_assoc]⟩
  · intro hr Wt ro n Q σ cur w a0 a hW hWl hp hro hH hA hN hF hQ
    refine h.run hr Wt ro n Q σ cur w a0 a hW hWl hp hro hH (fun b hb => by rw [h2]; rw [h1] at hb; exact hA b hb) (fun b hb => by rw [h1] at hb; exact hN b hb) hF ?_
    rintro a' w' ⟨σ', hI, hF'⟩
    rw [h1] at hI
    exact hQ a' w' ⟨σ', hI, hF'⟩

theorem seq_ok {c d : Code} {s1 : St} {T1 : Tr CV} {R1 W1 R2 W2 : List Nat} {wp2 : Option Nat → Nat → (Exit → Act → World → Prop) → Act → World → Prop} (hb : base ≤ s.next)
    (h1 : CodeOk P ρ m base c nt T s .normal T1 s1 R1 W1) (h2 : CodeOk P ρ m base d nt T1 s1 e T' s' R2 W2) :
    FrmB base s s' (join base W1 W2) ∧ (∀ b, b ∈ join base R1 R2 ∨ b ∈ join base W1 W2 → b < base) ∧
    (regsOk c = true → regsOk d = true → ∀ (Wt : List Nat) (ro : Option Nat) (n : Nat) (Q : Exit → Act → World → Prop) (σ : Mp) (cur : Cur) (w : World) (a0 a : Act), (∀ b ∈ join base W1 W2, b ∈ Wt) → (∀ b ∈ Wt, b < base) → (∀ p ∈ s'.pc, p.holds ρ) → (∀ l, ro = some l → ∃ r, w.heap[l]? = some (.loop r)) → HR ρ σ cur w → (∀ b, b ∈ join base R1 R2 ∨ b ∈ Wt ∨ (base ≤ b ∧ b < s.next) → cur b = s.heap.get b) →
    (∀ b, s.next ≤ b → b < s'.next → σ b = none) → FRn ρ σ nt T a0 a → (∀ a' w', PostC ρ σ cur base s w nt T' s' Wt a0 a' w' → Q e.conv a' w') →
    ∀ Q1 : Exit → Act → World → Prop, (∀ a1 w1, wpL m ro n P d Q a1 w1 → Q1 .normal a1 w1) → wpL m ro n P c Q1 a w) := by
  have f1 := h1.frm
  have f2 := h2.frm
  have hW1 : ∀ b ∈ W1, b ∈ join base W1 W2 := fun b hb' => join_mem.2 (.inl ⟨hb', h1.lt b (.inr hb')⟩)
  have hW2 : ∀ b ∈ W2, b ∈ join base W1 W2 := fun b hb' => join_mem.2 (.inr hb')
  refine ⟨f1.trans f2 hW1 hW2, fun b hb' => ?_, ?_⟩
  · rcases hb' with hb' | hb'
    · rcases join_mem.1 hb' with h | h
      · exact h.2
      · exact h2.lt b (.inl h)
    · rcases join_mem.1 hb' with h | h
      · exact h.2
      · exact h2.lt b (.inr h)
  · intro hrc hrd Wt ro n Q σ cur w a0 a hW hWl hp hro hH hA hN hF hQ Q1 hQ1
    have n1 := f1.next
    have n2 := f2.next
    have hp1 : ∀ p ∈ s1.pc, p.holds ρ := fun p hp' => hp p (by obtain ⟨l, hl⟩ := f2.pc; rw [hl]; simp [hp'])
    refine h1.run hrc Wt ro n Q1 σ cur w a0 a (fun b hb' => hW b (hW1 b hb')) hWl hp1 hro hH (fun b hb' => hA b ?_) (fun b hb1 hb2 => hN b hb1 (by omega)) hF ?_
    · rcases hb' with hb' | hb'
      · exact .inl (join_mem.2 (.inl ⟨hb', h1.lt b (.inl hb')⟩))
      · exact .inr hb'
    · rintro a1 w1 ⟨σ1, hI, hF1⟩
      refine hQ1 a1 w1 (h2.run hrd Wt ro n Q σ1 (upd cur base s1.next s1.heap Wt) w1 a1 a1 (fun b hb' => hW b (hW2 b hb')) hWl hp (fun l hl => (hro l hl).elim fun r hr => hI.K.loops l r hr) hI.H (fun b hb' => ?_) (fun b hb1 hb2 => ?_) hF1.self ?_)
      · show (if b ∈ Wt ∨ (base ≤ b ∧ b < s1.next) then _ else cur b) = _
        by_cases hc : b ∈ Wt ∨ (base ≤ b ∧ b < s1.next)
        · rw [if_pos hc]
        · rw [if_neg hc]
          rcases hb' with hb' | hb'
          · rw [hA b (.inl (join_mem.2 (.inr hb'))), f1.get b (fun h => hc (.inl (hW b (hW1 b h)))) (fun h => hc (.inr h))]
          · exact absurd hb' hc
      · rw [hI.ext b (.inr hb1)]; exact hN b (by omega) hb2
      · rintro a' w' ⟨σ2, hI2, hF2⟩
        refine hQ a' w' ⟨σ2, hI.step n1 (Nat.le_refl _) (by omega) (fun b hb' => .inl hb') (f2.more (fun b hb' => hW b (hW2 b hb'))) hI2.ext hI2.H hI2.K hI2.F, hF2.1, hF2.2.1, hF1.2.2.trans hI.K.size (fun k hk => hI2.K.defd k hk) hF2.2.2⟩

/-! ## A range over a function -/

theorem enter_inner {w : World} {l0 : Nat} {r0 : Loop} (h : w.heap[l0]? = some (.loop r0)) (fn : FuncId) (tmps : Array Value) (ps : Array Tmp) (assign body : Code) :
    (Instr.enterLoop fn tmps ps assign body (some l0)).run P w = .ok (w.heap.size, []) (w.alloc (.loop { state := .ready, pending := none, fn, tmps, params := ps, assign, body, defers := r0.defers })) := by
  unfold Instr.enterLoop
  simp only [Sem.run_bind, run_getLoop h, run_newObj_alloc, Result.andThen, Sem.run_pure]

theorem rangeE_parts {self : Nat → Task → St → Option Out} {f : Operand} {ps : Array Tmp} {assign body : Code} (h : rangeE base self f ps assign body nt T s = some ⟨.code e T', s', R, W⟩) : ∃ (g : Nat) (first captured : List CV) (c : CV) (s2 : St) (R1 W1 : List Nat) (r5 : LR),
    ev T f = some (.fn (.func g) first captured) ∧ self (s.next + 1) (.call g (first ++ [.yld s.next] ++ captured)) (s.newX (.loop ⟨T, nt, ps, assign, body, .ready, none⟩)) = some ⟨.val c, s2, R1, W1⟩ ∧
    s2.getX s.next = some (.loop r5) ∧ r5.st ≠ .busy ∧ Ex.of r5.pend = some e ∧ T' = T ∧ s' = s2.setX s.next (.loop { r5 with st := .exhausted }) ∧ R = join base R1 [] ∧ W = join base W1 [] := by
  unfold rangeE at h
  split at h
  · rename_i g first captured hf
    split at h
    · rename_i c s2 R1 W1 h1
      split at h
      · rename_i T5 nt5 ps5 as5 bd5 st5 pd5 hx
        cases he : Ex.of pd5 with
        | none => rw [he] at h; cases st5 <;> cases h
        | some e' =>
          rw [he] at h
          have hst : st5 ≠ .busy := fun e1 => by rw [e1] at h; cases h
          have h' : some (⟨.code e' T, s2.setX s.next (.loop ⟨T5, nt5, ps5, as5, bd5, .exhausted, pd5⟩), join base R1 [], join base W1 []⟩ : Out) = some ⟨.code e T', s', R, W⟩ := by
            cases st5
            · exact h
            · exact absurd rfl hst
            · exact h
            · exact h
          cases h'
          exact ⟨g, first, captured, c, s2, R1, W1, ⟨T5, nt5, ps5, as5, bd5, st5, pd5⟩, hf, h1, hx, hst, he, rfl, rfl, rfl, rfl⟩
      · cases h
    · cases h
  · cases h

theorem range_ok {f : Operand} {ps : Array Tmp} {assign body : Code} (hC : CtxOk2 P C) (ih : ∀ base f args s c s' R W, eval C m base (.call f args) s = some ⟨.val c, s', R, W⟩ → CallOk P C ρ f args s c s' R W) (hb : base ≤ s.next) (h : rangeE base (eval C m) f ps assign body nt T s = some ⟨.code e T', s', R, W⟩) :
    CodeOk P ρ (m + 1) base (.rangeFunc f ps assign body) nt T s e T' s' R W := by
  obtain ⟨g, first, captured, c, s2, R1, W1, r5, hf, h1, hx5, hst, hex, rfl, rfl, rfl, rfl⟩ := rangeE_parts h
  have K := ih _ _ _ _ _ _ _ _ h1
  generalize hs1 : s.newX (.loop ⟨T', nt, ps, assign, body, .ready, none⟩) = s1 at *
  have n1 : s1.next = s.next + 1 := by rw [← hs1]; rfl
  have n2 : s1.next ≤ s2.next := K.frm.next
  have f01 : Frm s s1 [] := by rw [← hs1]; exact .newX _ _ _
  have hW1 : ∀ b ∈ W1, b ∈ join base W1 [] ∨ (base ≤ b ∧ b < s1.next) := fun b hb' => by
    by_cases hlt : b < base
    · exact .inl (join_mem.2 (.inl ⟨hb', hlt⟩))
    · exact .inr ⟨by omega, K.lt.2 b hb'⟩
  have f12 : FrmB base s s2 (join base W1 []) := by
    obtain ⟨L1, p1⟩ := f01.pc
    obtain ⟨L2, p2⟩ := K.frm.pc
    refine ⟨by omega, fun b hb1 hb2 => ?_, L2 ++ L1, by rw [p2, p1, List.append_assoc]⟩
    rw [K.frm.get b (fun hw => (hW1 b hw).elim hb1 (fun h => hb2 ⟨h.1, by omega⟩)) (fun h => hb2 ⟨by omega, h.2⟩), f01.get b (by simp) (fun h => hb2 ⟨by omega, by omega⟩)]
  refine ⟨⟨f12.next, fun b hb1 hb2 => ?_, f12.pc⟩, fun b hb' => ?_, ?_⟩
  · have hb2' : ¬ (base ≤ b ∧ b < s2.next) := hb2
    rw [setX_get, if_neg (fun e => hb2' ⟨by omega, by omega⟩)]
    exact f12.get b hb1 hb2
  · rcases hb' with hb' | hb' <;> rcases join_mem.1 hb' with h | h
    · exact h.2
    · cases h
    · exact h.2
    · cases h
  · intro hr Wt ro n Q σ cur w a0 a hW hWl hp hro hH hA hN hF hQ
    have hrs : regsOk assign = true ∧ regsOk body = true := by simpa only [regsOk, Bool.and_eq_true] using hr
    have hp2 : ∀ p ∈ s2.pc, p.holds ρ := hp
    have hN2 : ∀ b, s.next ≤ b → b < s2.next → σ b = none := hN
    show (Code.rangeFunc f ps assign body).wpIn (fc ro) n P Q a w
    refine wpIn_rangeFunc (fun fn _ => ?_)
    -- the record is laid
    obtain ⟨wa, D, mark, hent, hIa, hmark⟩ : ∃ (wa : World) (D : Nat) (mark : List Deferred),
        (Instr.enterLoop fn a.tmps ps assign body ro).run P w = .ok (wa.heap.size, mark) (wa.alloc (.loop { state := .ready, pending := none, fn, tmps := a.tmps, params := ps, assign, body, defers := D })) ∧
        Inv ρ σ cur base Wt s.next w s σ wa ∧ Marks a0.defers w (mark ++ a.defers) wa := by
      have hI0 : Inv ρ σ cur base Wt s.next w s σ w := Inv.start hH (fun b hb' => hA b (.inr hb'))
      cases ro with
      | none =>
        refine ⟨w.alloc (.deferred (some [])), w.heap.size, [{ target := .collected w.heap.size, args := #[] }], ?_, ⟨hI0.ext, hI0.H.alloc _, .of_same rfl rfl rfl (by simp) fun k hk => alloc_get hk, hI0.F⟩, ?_⟩
        · rw [run_enterLoop_outer, World.size_alloc]
        · rw [hF.2.2]
          exact ⟨[w.heap.size], rfl, by simp, fun D hD => by obtain rfl := List.mem_singleton.1 hD; exact ⟨Nat.le_refl _, alloc_new _ _⟩⟩
      | some l0 =>
        obtain ⟨q0, hq0⟩ := hro l0 rfl
        refine ⟨w, q0.defers, [], enter_inner hq0 _ _ _ _ _, hI0, ?_⟩
        rw [hF.2.2]; exact .refl _ _ _
    have hσ : σ s.next = none := hN2 _ (Nat.le_refl _) (by omega)
    obtain ⟨x1, x2, x3, x4⟩ := newX_run (x := .loop ⟨T', nt, ps, assign, body, .ready, none⟩) (o := .loop { state := .ready, pending := none, fn, tmps := a.tmps, params := ps, assign, body, defers := D }) hIa.H hσ
      (.loop _ (alloc_new _ _) rfl rfl rfl rfl rfl hF.1 (fun t => (hF.2.1 t).mono (fun b l' hb => by
        show (if b = s.next then _ else σ b) = _
        rw [if_neg (fun h => by rw [h, hσ] at hb; cases hb)]; exact hb)) hrs.1 hrs.2)
    rw [hs1] at x1
    generalize hσ1 : (fun b => if b = s.next then some (⟨wa.heap.size, 0, 0, 0⟩ : Loc) else σ b) = σ1 at x1 x2 x3 x4
    have hσ1n : σ1 s.next = some ⟨wa.heap.size, 0, 0, 0⟩ := by rw [← hσ1]; exact if_pos rfl
    rw [← n1] at x1 x2 x4
    generalize hw1 : wa.alloc (.loop { state := .ready, pending := none, fn, tmps := a.tmps, params := ps, assign, body, defers := D }) = w1 at hent x1 x3 x4
    have hI1 : Inv ρ σ cur base Wt s.next w s1 σ1 w1 := hIa.step (Nat.le_refl _) hb (Nat.le_refl _) (fun b hb' => by cases hb') f01.toB x2 x1 x3 x4
    -- the call
    obtain ⟨x', y', hfv, hx, hy⟩ := (ev_run (σ := σ) (ρ := ρ) (a := a) (fun t _ => hF.2.1 t) hf).fn_inv
    obtain ⟨gfn, hgfn, hbody⟩ := K.fn
    have hle1 : σ.le σ1 := hI1.ext.le (fun b h1 h2 => hN2 b h1 (by omega))
    have hargs : VRl ρ σ1 (first ++ [.yld s.next] ++ captured) ((x' ++ #[Value.func (.yield wa.heap.size) #[] #[]]) ++ y').toList := by
      simp only [Array.toList_append]
      exact ((hx.mono hle1).append (.cons (.yld hσ1n) .nil)).append (hy.mono hle1)
    refine ⟨wa.heap.size, mark, w1, { target := .fn (.func g) y', args := x' ++ #[Value.func (.yield wa.heap.size) #[] #[]] }, w1, g, (x' ++ #[Value.func (.yield wa.heap.size) #[] #[]]) ++ y', w1, hent, ?_, (fun _ _ => trivial), ?_, (fun h => by cases h), callsIn_fc ((K.run (n - 1) σ1 _ w1 _ hp2 hargs hI1.H (fun b hb' => ?_) (fun b h1 h2 => ?_)).mono ?_)⟩
    · simp only [resolve, Deferred.ofValue, hfv, pure_bind, Sem.run_pure]
      simp [Act.eval]
    · simp only [invoke, callFunc_run hC hgfn hbody]
    · refine upd_get ⟨f01.next, fun b h1 h2 => f01.get b (by simp) (fun h => h2 ⟨by omega, h.2⟩), f01.pc⟩ (hb'.elim (K.lt.1 b) (K.lt.2 b)) (fun h3 h4 => ?_)
      rcases hb' with hb' | hb'
      · exact hA b (.inl (join_mem.2 (.inl ⟨hb', h3⟩)))
      · exact absurd (hW b (join_mem.2 (.inl ⟨hb', h3⟩))) h4
    · rw [hI1.ext b (.inr h1)]; exact hN2 b (by omega) h2
    · rintro e' w3 ⟨v, rfl, σ2, y1, y2, y3, y4, y5⟩
      have hI2 : Inv ρ σ cur base Wt s.next w s2 σ2 w3 := hI1.step (by omega) (by omega) (Nat.le_refl _) (fun b hb' => (hW1 b hb').imp (hW b) (fun h => h)) K.frm.toB y1 y3 y4 y5
      have hl2 : σ2 s.next = some ⟨wa.heap.size, 0, 0, 0⟩ := by rw [y1 _ (.inl (by omega))]; exact hσ1n
      obtain ⟨q, hq, hqs, hqp, hI5, hK5⟩ := loop_set (r1 := { r5 with st := .exhausted }) (f := fun q => { q with state := .exhausted }) hI2 (by omega) (by omega) hx5 (.inr ⟨hb, by omega⟩) hl2 (fun q h1' h2' h3' => by
        have hpd : q.pending = r5.pend := by
          cases h1' with
          | loop q' hq' _ hp' => rw [h2'] at hq'; cases hq'; exact hp'
        have := h1'.loop_state (st := .exhausted) (pd := r5.pend) h2'
        rw [← hpd] at this
        rw [← hpd]
        exact this)
      refine ⟨q.pending, _, run_endLoop hq (by rw [hqs]; exact hst), ?_⟩
      have hpost : PostC ρ σ cur base s w nt T' (s2.setX s.next (.loop { r5 with st := .exhausted })) Wt a0 { a with defers := mark ++ a.defers } (w3.putObj wa.heap.size (.loop { q with state := .exhausted })) := by
        refine ⟨σ2, hI5, hF.1, fun t => (hF.2.1 t).mono (hI2.ext.le hN2), ?_⟩
        obtain ⟨l, e1, e2, e3⟩ := hmark
        refine ⟨l, e1, e2, fun D hD => ⟨(e3 D hD).1, hK5.defd D (y4.defd D (x3.defd D (e3 D hD).2))⟩⟩
      have := hQ _ _ hpost
      rw [← hqp] at hex
      revert hex this
      generalize w3.putObj wa.heap.size (.loop { q with state := .exhausted }) = w4
      intro hex this
      revert hex
      cases hpd : q.pending with
      | none => intro hex; cases hex; exact this
      | some cd =>
        intro hex
        cases cd <;> simp only [Ex.of] at hex <;> cases hex
        · exact wpIn_exit this
        · exact wpIn_ret this

theorem regs_seq {a b : Code} (h : regsOk (.seq a b) = true) : regsOk a = true ∧ regsOk b = true := by
  simpa only [regsOk, Bool.and_eq_true] using h
theorem regs_cond {x : Operand} {a b : Code} (h : regsOk (.cond x a b) = true) : regsOk a = true ∧ regsOk b = true := by
  simpa only [regsOk, Bool.and_eq_true] using h

theorem step_code (hC : CtxOk3 P C) (ih : EvOk P C ρ m) : ∀ base c nt T s e T' s' R W, eval C (m + 1) base (.code c nt T) s = some ⟨.code e T', s', R, W⟩ → base ≤ s.next → CodeOk P ρ (m + 1) base c nt T s e T' s' R W := by
  intro base c nt T s e T' s' R W h hb
  have hS : SelfOk P C ρ (fun t s => eval C m s.next t s) := ⟨fun f args s c s' R W h => ih.call _ _ _ _ _ _ _ _ h, fun c nt T s e T' s' R W h => ⟨m, ih.code _ _ _ _ _ _ _ _ _ _ h (Nat.le_refl _)⟩⟩
  have h' : stepE C base (eval C m) (.code c nt T) s = some ⟨.code e T', s', R, W⟩ := h
  simp only [stepE, codeE] at h'
  split at h'
  · cases h'; exact leave_ok (fun ro n Q a w hq => wpIn_skip hq) hb
  · cases h'; exact leave_ok (fun ro n Q a w hq => wpIn_label hq) hb
  · cases h'; exact leave_ok (fun ro n Q a w hq => wpIn_ret hq) hb
  · cases h'; exact leave_ok (fun ro n Q a w hq => wpIn_exit hq) hb
  · -- seq
    simp only [seqE] at h'
    rename_i x y
    split at h'
    · rename_i T1 s1 R1 W1 h1
      have k1 := ih.code _ _ _ _ _ _ _ _ _ _ h1 hb
      split at h'
      · rename_i e2 T2 s2 R2 W2 h2
        cases h'
        have k2 := ih.code _ _ _ _ _ _ _ _ _ _ h2 (Nat.le_trans hb k1.frm.next)
        obtain ⟨q1, q2, q3⟩ := seq_ok (wp2 := fun _ _ _ _ _ => True) hb k1 k2
        refine ⟨q1, q2, fun hr Wt ro n Q σ cur w a0 a hW hWl hp hro hH hA hN hF hQ => ?_⟩
        show (Code.seq x y).wpIn (fc ro) n P Q a w
        refine wpIn_seq (wpL.wpIn (q3 (regs_seq hr).1 (regs_seq hr).2 Wt ro n Q σ cur w a0 a hW hWl hp hro hH hA hN hF hQ (Exit.then (y.wpIn (fc ro) n P Q) Q) (fun a1 w1 h => h.wpIn)))
      · cases h'
    · rename_i r hne h1
      cases h'
      have k1 := ih.code _ _ _ _ _ _ _ _ _ _ h1 hb
      refine ⟨k1.frm, k1.lt, fun hr Wt ro n Q σ cur w a0 a hW hWl hp hro hH hA hN hF hQ => ?_⟩
      show (Code.seq x y).wpIn (fc ro) n P Q a w
      refine wpIn_seq (wpL.wpIn (k1.run (regs_seq hr).1 Wt ro n _ σ cur w a0 a hW hWl hp hro hH hA hN hF (fun a' w' hpost => ?_)))
      have := hQ a' w' hpost
      cases e with
      | normal => exact absurd rfl (hne T' s' R W)
      | exit i => exact this
      | ret => exact this
    · cases h'
  · -- cond
    simp only [condE] at h'
    rename_i x y z
    split at h'
    · rename_i ex hx
      split at h'
      · rename_i t s1 hd
        obtain ⟨d1, d2⟩ := decide_heap hd
        have d3 := (decide_parts (ρ := ρ) hd).2.2
        have k1 := ih.code _ _ _ _ _ _ _ _ _ _ h' (by rw [d1]; exact hb)
        obtain ⟨q1, q2⟩ := k1.from d1 d2 d3.1
        refine ⟨q1, k1.lt, fun hr Wt ro n Q σ cur w a0 a hW hWl hp hro hH hA hN hF hQ => ?_⟩
        show (Code.cond x y z).wpIn (fc ro) n P Q a w
        have hp1 : ∀ p ∈ s1.pc, p.holds ρ := fun p hp' => hp p (by obtain ⟨l, hl⟩ := k1.frm.pc; rw [hl]; simp [hp'])
        have hxv := (ev_run (σ := σ) (ρ := ρ) (a := a) (fun t _ => hF.2.1 t) hx).bool_inv
        rw [d3.2 hp1] at hxv
        refine wpIn_cond hxv ?_
        have := (q2 (by cases t; exact (regs_cond hr).2; exact (regs_cond hr).1) Wt ro n Q σ cur w a0 a hW hWl hp hro hH hA hN hF hQ).wpIn
        cases t <;> exact this
      · cases h'
    · cases h'
  · -- block
    simp only [blockE] at h'
    rename_i i b
    split at h'
    · rename_i j T1 s1 R1 W1 h1
      cases h'
      have k1 := ih.code _ _ _ _ _ _ _ _ _ _ h1 hb
      refine ⟨k1.frm, k1.lt, fun hr Wt ro n Q σ cur w a0 a hW hWl hp hro hH hA hN hF hQ => ?_⟩
      show (Code.block i b).wpIn (fc ro) n P Q a w
      refine wpIn_block (wpL.wpIn (k1.run hr Wt ro n _ σ cur w a0 a hW hWl hp hro hH hA hN hF (fun a' w' hpost => ?_)))
      have := hQ a' w' hpost
      show (if j = i then Q .normal a' w' else Q (.exit j) a' w')
      by_cases hj : j = i
      · rw [if_pos hj]
        have e1 : Nat.beq j i = true := by rw [hj]; exact Nat.beq_refl i
        rw [e1] at this; exact this
      · rw [if_neg hj]
        have e1 : Nat.beq j i = false := by
          cases hbq : Nat.beq j i with
          | false => rfl
          | true => exact absurd (Nat.eq_of_beq_eq_true hbq) hj
        rw [e1] at this; exact this
    · rename_i hne
      have k1 := ih.code _ _ _ _ _ _ _ _ _ _ h' hb
      refine ⟨k1.frm, k1.lt, fun hr Wt ro n Q σ cur w a0 a hW hWl hp hro hH hA hN hF hQ => ?_⟩
      show (Code.block i b).wpIn (fc ro) n P Q a w
      refine wpIn_block (wpL.wpIn (k1.run hr Wt ro n _ σ cur w a0 a hW hWl hp hro hH hA hN hF (fun a' w' hpost => ?_)))
      have := hQ a' w' hpost
      cases e with
      | normal => exact this
      | exit j => exact absurd h' (hne j T' s' R W)
      | ret => exact this
  · -- scope
    rename_i b
    have k1 := ih.code _ _ _ _ _ _ _ _ _ _ h' hb
    refine ⟨k1.frm, k1.lt, fun hr Wt ro n Q σ cur w a0 a hW hWl hp hro hH hA hN hF hQ => ?_⟩
    show (Code.scope b).wpIn (fc ro) n P Q a w
    refine wpIn_scope (wpL.wpIn (k1.run hr Wt ro n _ σ cur w a0 a hW hWl hp hro hH hA hN hF (fun a' w' hpost => ?_)))
    have := hQ a' w' hpost
    cases e <;> exact this
  · -- loop
    simp only [loopE] at h'
    rename_i b
    split at h'
    · rename_i T1 s1 R1 W1 h1
      have k1 := ih.code _ _ _ _ _ _ _ _ _ _ h1 hb
      split at h'
      · rename_i e2 T2 s2 R2 W2 h2
        cases h'
        have k2 := ih.code _ _ _ _ _ _ _ _ _ _ h2 (Nat.le_trans hb k1.frm.next)
        obtain ⟨q1, q2, q3⟩ := seq_ok (wp2 := fun _ _ _ _ _ => True) hb k1 k2
        refine ⟨q1, q2, fun hr Wt ro n Q σ cur w a0 a hW hWl hp hro hH hA hN hF hQ => ?_⟩
        show Code.roundsIn (fc ro) n P b Q (m + 1) a w
        exact (q3 hr hr Wt ro n Q σ cur w a0 a hW hWl hp hro hH hA hN hF hQ (Exit.then (Code.roundsIn (fc ro) n P b Q m) Q) (fun a1 w1 h => h)).wpIn
      · cases h'
    · rename_i hne
      have k1 := ih.code _ _ _ _ _ _ _ _ _ _ h' hb
      refine ⟨k1.frm, k1.lt, fun hr Wt ro n Q σ cur w a0 a hW hWl hp hro hH hA hN hF hQ => ?_⟩
      show Code.roundsIn (fc ro) n P b Q (m + 1) a w
      refine wpL.wpIn (m := m) (k1.run hr Wt ro n (Exit.then (Code.roundsIn (fc ro) n P b Q m) Q) σ cur w a0 a hW hWl hp hro hH hA hN hF (fun a' w' hpost => ?_))
      have := hQ a' w' hpost
      cases e with
      | normal => exact absurd h' (hne T' s' R W)
      | exit j => exact this
      | ret => exact this
  · -- region
    simp only [regionE] at h'
    rename_i rid ops draw
    split at h'
    · cases h'
    · rename_i T1 s1 ms h1
      cases hd : (!draw || quietB s.next ms || drawOk 0 ms (preds ops.toList [])) with
      | false => rw [hd, cond_false] at h'; cases h'
      | true =>
        rw [hd, cond_true] at h'
        cases h'
        exact region_ok hC.toCtxOk2 hS hb h1 hd
  · -- a range over a function
    exact range_ok hC.toCtxOk2 (fun base f args s c s' R W h => ih.call _ _ _ _ _ _ _ _ h) hb h'
  · cases h'

mutual
theorem VR.plain {σ τ : Mp} {c : CV} {v : Value} : VR ρ σ c v → c.plain = true → VR ρ τ c v
  | .bool b, _ => .bool b
  | .int k e, _ => .int k e
  | .raw v, _ => .raw v
  | .ptr0, _ => .ptr0
  | .ptr _, h => by simp [CV.plain] at h
  | .slc0, _ => .slc0
  | .slc _ _ _, h => by simp [CV.plain] at h
  | .slx _, h => by simp [CV.plain] at h
  | .sla _ _, h => by simp [CV.plain] at h
  | .sla0 _ _, h => by simp [CV.plain] at h
  | .sln a c h, _ => .sln a c h
  | .slr _ _ _ _, h => by simp [CV.plain] at h
  | .ptx _, h => by simp [CV.plain] at h
  | .junk h, _ => .junk h
  | .any v, _ => .any v
  | .emp a c, _ => .emp a c
  | .fn f ha hb, h => by simp [CV.plain] at h
  | .agg hl, h => .agg (VRl.plain hl (by simpa [CV.plain] using h))
  | .tup hl, h => .tup (VRl.plain hl (by simpa [CV.plain] using h))
  | .yld _, h => by simp [CV.plain] at h
  | .map _, h => by simp [CV.plain] at h
theorem VRl.plain {σ τ : Mp} {l : List CV} {m : List Value} : VRl ρ σ l m → CV.plains l = true → VRl ρ τ l m
  | .nil, _ => .nil
  | .cons h t, hp => by
    simp only [CV.plains, Bool.and_eq_true] at hp
    exact .cons (VR.plain h hp.1) (VRl.plain t hp.2)
end

mutual
/-- What is related by a map, and by a greater one to another value, is so by the smaller one. -/
theorem VR.back {σ τ : Mp} (hl : σ.le τ) {c : CV} {v u : Value} : VR ρ σ c v → VR ρ τ c u → VR ρ σ c u
  | .bool _, h => by cases h; exact .bool _
  | .int _ _, h => by cases h; exact .int _ _
  | .raw _, h => by cases h; exact .raw _
  | .ptr0, h => by cases h; exact .ptr0
  | .ptr h1, h => by
    cases h with
    | ptr h2 => rw [hl _ _ h1] at h2; obtain rfl := Option.some.inj h2; exact .ptr h1
  | .slc0, h => by cases h; exact .slc0
  | .slc h1 _ _, h => by
    cases h with
    | slc h2 h3 h4 => rw [hl _ _ h1] at h2; obtain rfl := Option.some.inj h2; exact .slc h1 h3 h4
  | .slx h1, h => by
    cases h with
    | slx h2 => exact .slx (VR.back hl h1 h2)
  | .sla h1 hc, h => by
    cases h with
    | sla h2 hc' => rw [hl _ _ h1] at h2; obtain rfl := Option.some.inj h2; exact .sla h1 hc'
    | sla0 a c => exact .sla0 a c
  | .sla0 _ _, h => by
    cases h with
    | sla h2 hc' => exact .sla0 _ _
    | sla0 a c => exact .sla0 a c
  | .sln _ _ _, h => by cases h; exact .sln _ _ (by assumption)
  | .slr _ _ g1 g2, h => by
    cases h with
    | slr a2 c2 k1 k2 =>
      refine .slr _ _ k1 fun i h1 h2 => ?_
      obtain ⟨l, o, q1, q2, q3⟩ := k2 i h1 h2
      obtain ⟨l', o', _, _, r3⟩ := g2 i (by rw [g1] at k1; omega) h2
      have q4 := hl _ _ r3
      rw [q3] at q4
      obtain rfl := Option.some.inj q4
      exact ⟨l, o, q1, q2, r3⟩
  | .ptx h1, h => by
    cases h with
    | ptx h2 => exact .ptx (VR.back hl h1 h2)
  | .junk _, h => by
    cases h with
    | junk h => exact .junk h
  | .any _, _ => .any _
  | .emp _ _, h => by cases h; exact .emp _ _
  | .fn f ha hb, h => by
    cases h with
    | fn _ ha' hb' => exact .fn f (VRl.back hl ha ha') (VRl.back hl hb hb')
  | .agg h1, h => by
    cases h with
    | agg h2 => exact .agg (VRl.back hl h1 h2)
  | .tup h1, h => by
    cases h with
    | tup h2 => exact .tup (VRl.back hl h1 h2)
  | .yld h1, h => by
    cases h with
    | yld h2 => rw [hl _ _ h1] at h2; obtain rfl := Option.some.inj h2; exact .yld h1
  | .map h1, h => by
    cases h with
    | map h2 => rw [hl _ _ h1] at h2; obtain rfl := Option.some.inj h2; exact .map h1
theorem VRl.back {σ τ : Mp} (hl : σ.le τ) {l : List CV} {m n : List Value} : VRl ρ σ l m → VRl ρ τ l n → VRl ρ σ l n
  | .nil, h => by cases h; exact .nil
  | .cons h t, h' => by
    cases h' with
    | cons h2 t2 => exact .cons (VR.back hl h h2) (VRl.back hl t t2)
end

theorem MRl.back {σ τ : Mp} (hl : σ.le τ) {l : List (CV × CV)} {m n : List MapEntry} (h1 : MRl ρ σ l m) : MRl ρ τ l n → MRl ρ σ l n := by
  induction h1 generalizing n with
  | nil => intro h; cases h; exact .nil
  | cons hk hv _ ih => intro h; cases h with | cons hk' hv' ht => exact .cons (hk.back hl hk') (hv.back hl hv') (ih ht)

theorem XR.back {σ τ : Mp} {w w' : World} {g : Nat} {x : BX} (hl : σ.le τ) (h : XR ρ σ w g x) : XR ρ τ w' g x → XR ρ σ w' g x := by
  cases h with
  | loop q h hs hp hps ha hb hn hT ra rb =>
    intro h'
    cases h' with
    | loop q' h' hs' hp' hps' ha' hb' hn' hT' ra' rb' => exact .loop q' h' hs' hp' hps' ha' hb' hn' (fun t => (hT t).back hl (hT' t)) ra' rb'
  | map es h hb hm =>
    intro h'
    cases h' with
    | map es' h' hb' hm' => exact .map es' h' hb' (hm.back hl hm')

/-- A call that wrote nothing old and yields a plain value may forget what it made. -/
theorem CallOk.forget {f : Nat} {args : List CV} {c : CV} (K : CallOk P C ρ f args s c s' R []) (hc : c.plain = true) : CallOk P C ρ f args s c { s' with heap := s.heap } R [] := by
  refine ⟨K.fn, ⟨K.frm.next, fun b _ _ => rfl, K.frm.pc⟩, K.lt, ?_⟩
  intro n σ cur w args' hp hargs hH hA hN
  refine (K.run n σ cur w args' hp hargs hH hA hN).mono ?_
  rintro e w' ⟨v, rfl, σ', h1, h2, h3, h4, h5⟩
  have hle := h1.le hN
  have hold : ∀ b l, σ b = some l → ¬ (s.next ≤ b ∧ b < s'.next) := fun b l hl hr => by rw [hN b hr.1 hr.2] at hl; cases hl
  have hcur : ∀ b l (h : Tr Blk), σ b = some l → upd cur s.next s'.next h [] b = cur b := fun b l h hl => by
    unfold upd; rw [if_neg]; simp only [List.not_mem_nil, false_or]; exact hold b l hl
  refine ⟨v, rfl, σ, Ext.refl _ _ _, h2.plain hc, ⟨fun b k l hk hlv hl => ?_, fun b b' k k' l l' a1 a2 a3 a4 a5 a6 a7 a8 => ?_, fun b k x l hk hx hl => ?_, fun b b' k k' x x' l l' a1 a2 a3 a4 a5 a6 a7 => ?_⟩, h4, fun b l a1 a2 a3 => ?_⟩
  · rw [hcur b l _ hl] at hk
    obtain ⟨x, t, ppg1, g1, qqg1, g2, g3, g4, g5⟩ := h3.cell b k l (by rw [hcur b l _ hl]; exact hk) hlv (hle b l hl)
    obtain ⟨_, _, _, _, _, _, _, _, q5⟩ := hH.cell b k l hk hlv hl
    exact ⟨x, t, ppg1, g1, qqg1, g2, g3, g4, q5.back hle g5⟩
  · rw [hcur b l _ a3] at a1
    rw [hcur b' l' _ a6] at a4
    exact h3.inj b b' k k' l l' (by rw [hcur b l _ a3]; exact a1) a2 (hle _ _ a3) (by rw [hcur b' l' _ a6]; exact a4) a5 (hle _ _ a6) a7 a8
  · rw [hcur b l _ hl] at hk
    exact (hH.spec b k x l hk hx hl).back hle (h3.spec b k x l (by rw [hcur b l _ hl]; exact hk) hx (hle b l hl))
  · rw [hcur b l _ a3] at a1
    rw [hcur b' l' _ a6] at a4
    exact h3.injX b b' k k' x x' l l' (by rw [hcur b l _ a3]; exact a1) a2 (hle _ _ a3) (by rw [hcur b' l' _ a6]; exact a4) a5 (hle _ _ a6) a7
  · exact absurd ⟨a1, a2⟩ (hold b l a3)

/-- The marks of ranges over functions are taken up at a function's end. -/
theorem leaves_marks {n : Nat} {fn : Func} {tmps : Array Value} {RR : Ending → World → Prop} {J : World → Prop} {N0 : Nat} (hJ : ∀ w D, J w → N0 ≤ D → w.heap[D]? = some (.deferred (some [])) → J (w.putObj D (.deferred none)))
    (hfin : ∀ w, J w → ∃ v, (results fn tmps).run P w = .ok v w ∧ RR (.returned v) w) : ∀ (l : List Nat) (w : World), l.Nodup → (∀ D ∈ l, N0 ≤ D ∧ w.heap[D]? = some (.deferred (some []))) → J w → LeavesInM (fc none) n P fn tmps RR (l.map fun D => { target := .collected D, args := #[] }) .returning w
  | [], w, _, _, hw => hfin w hw
  | D :: l, w, hn, hD, hw => by
    have hd := List.nodup_cons.1 hn
    obtain ⟨h1, h2⟩ := hD D (by simp)
    refine ⟨(fun h => by cases h), .inl ⟨D, _, rfl, run_takeDeferred h2, leaves_marks hJ hfin l _ hd.2 (fun D' hD' => ⟨(hD D' (by simp [hD'])).1, ?_⟩) (hJ w D hw h1 h2)⟩⟩
    have hne : D' ≠ D := fun e => hd.1 (e ▸ hD')
    rw [World.putObj_heap_other hne]
    exact (hD D' (by simp [hD'])).2

theorem tup_rel {σ : Mp} : ∀ {vs : List CV} {ws : List Value}, VRl ρ σ vs ws → VR ρ σ (tupC vs) (if h : ws.length = 1 then ws[0] else .tuple ws.toArray)
  | [v], [u], .cons h .nil => h
  | [], [], .nil => .tup .nil
  | v1 :: v2 :: vs, u1 :: u2 :: us, h => .tup h

theorem step_call (hC : CtxOk3 P C) (hM : MemoOk P C ρ) (ih : EvOk P C ρ m) : ∀ base f args s c s' R W, eval C (m + 1) base (.call f args) s = some ⟨.val c, s', R, W⟩ → CallOk P C ρ f args s c s' R W := by
  intro base f args s c s' R W h
  have h' : stepE C base (eval C m) (.call f args) s = some ⟨.val c, s', R, W⟩ := h
  simp only [stepE, callE] at h'
  split at h'
  · rename_i c1 s1 R1 W1 hm
    cases h'
    exact hM _ _ _ _ _ _ _ hm
  rename_i hm0
  clear hm0
  simp only [bodyE] at h'
  split at h'
  · cases h'
  · rename_i fn hfn
    split at h'
    · cases h'
    · rename_i body hbody
      cases hlen : Nat.ble args.length fn.ntmps with
      | false => rw [hlen, cond_false] at h'; cases h'
      | true =>
        rw [hlen, cond_true] at h'
        have hlen' := Nat.le_of_ble_eq_true hlen
        split at h'
        · rename_i e T1 s1 R1 W1 h1
          have k1 := ih.code _ _ _ _ _ _ _ _ _ _ h1 (Nat.le_refl _)
          cases he : e.stays with
          | false => rw [he, cond_false] at h'; cases h'
          | true =>
            rw [he, cond_true] at h'
            split at h'
            · rename_i vs R' hres
              have K : CallOk P C ρ f args s (tupC vs) s1 (join s.next R' R1) W1 := by
                have hR'' := resE_lt hres
                refine ⟨⟨fn, hfn, by rw [hbody]; rfl⟩, ⟨k1.frm.next, k1.frm.get, k1.frm.pc⟩, ⟨fun b hb => (join_mem.1 hb).elim (fun h => h.2) (fun h => k1.lt b (.inl h)), fun b hb => k1.lt b (.inr hb)⟩, ?_⟩
                intro n σ cur w args1 hp hargs hH hA hN
                have hlen2 := hargs.length
                simp only [Array.length_toList] at hlen2
                have hfin : ∀ a' w', PostC ρ σ cur s.next s w fn.ntmps T1 s1 W1 ⟨args1 ++ Array.replicate (fn.ntmps - args1.size) Go.undef, []⟩ a' w' → LeavesInM (fc none) n P fn a'.tmps (Ret (Post ρ σ cur s.next w (tupC vs) s1 W1)) a'.defers .returning w' := by
                  rintro a' w'0 ⟨σ', hI0, hF⟩
                  obtain ⟨ml, hml, hmn, hmd⟩ := hF.2.2
                  rw [hml, List.append_nil]
                  refine leaves_marks (J := fun w' => Inv ρ σ cur s.next W1 s.next w s1 σ' w') (N0 := w.heap.size) (fun w2 D hI hD1 hD2 => ⟨hI.ext, hI.H.put hD2 (fun _ _ _ h => by cases h) (fun _ h => by cases h) (fun _ _ h => by cases h), ⟨hI.K.os, hI.K.tape, hI.K.output, by rw [World.putObj_size]; exact hI.K.size, fun k hk hne => by rw [World.putObj_heap_other (by omega)]; exact hI.K.block k hk hne, fun k r hk => ?_, fun k hk => ?_⟩, hI.F⟩) (fun w' hI => ?_) ml w'0 hmn hmd hI0
                  · have hlt := (Array.getElem?_eq_some_iff.1 hk).1
                    rw [World.putObj_heap_other (by omega)]; exact hI.K.loops k r hk
                  · have hlt := (Array.getElem?_eq_some_iff.1 hk).1
                    rw [World.putObj_heap_other (by omega)]; exact hI.K.defd k hk
                  have hcur : ∀ b ∈ R', upd cur s.next s1.next s1.heap W1 b = s1.heap.get b := by
                    intro b hb
                    show (if b ∈ W1 ∨ (s.next ≤ b ∧ b < s1.next) then _ else cur b) = _
                    by_cases hc : b ∈ W1 ∨ (s.next ≤ b ∧ b < s1.next)
                    · rw [if_pos hc]
                    · rw [if_neg hc, k1.frm.get b (fun h => hc (.inl h)) (fun h => hc (.inr h))]
                      have hlt : b < s.next := by
                        rcases Nat.lt_or_ge b s.next with h | h
                        · exact h
                        · exact absurd (.inr ⟨h, hR'' b hb⟩) hc
                      exact hA b (.inl (join_mem.2 (.inl ⟨hb, hlt⟩)))
                  obtain ⟨ws, hw1, hw2⟩ := res_run (P := P) (a := a') hC.toCtxOk hI.H hF.2.1 hres hcur
                  have hwl := hw2.length
                  have hrun : (results fn a'.tmps).run P w' = .ok (if h : ws.length = 1 then ws[0] else .tuple ws.toArray) w' := by
                    have hm : (fn.results.mapM (resF a')).run P w' = .ok ws.toArray w' := by
                      rw [Array.mapM_eq_mapM_toList]
                      simp only [Sem.run_map, hw1, Result.andThen]
                    show (Sem.run P (do
                      let vs ← fn.results.mapM (resF a')
                      pure (if h : vs.size = 1 then vs[0] else .tuple vs)) w') = _
                    simp only [Sem.run_bind, hm, Result.andThen, Sem.run_pure]
                    by_cases hh1 : ws.length = 1
                    · simp [hh1]
                    · simp [hh1]
                  refine ⟨_, hrun, _, rfl, σ', hI.ext, ?_, hI.H, hI.K, hI.F⟩
                  exact tup_rel hw2
                refine callsIn_of_wp_marks (hC.fn f fn hfn).1 hbody trivial ?_
                have hlt : ∀ b ∈ W1, b < s.next := fun b hb => k1.lt b (.inr hb)
                have hrun := (k1.run (hC.regs _ _ _ hfn hbody) W1 none n (bodyPostM (fc none) n P fn (Ret (Post ρ σ cur s.next w (tupC vs) s1 W1))) σ cur w ⟨args1 ++ Array.replicate (fn.ntmps - args1.size) Go.undef, []⟩ ⟨args1 ++ Array.replicate (fn.ntmps - args1.size) Go.undef, []⟩ (fun b hb => hb) hlt hp (fun l hl => by cases hl) hH (fun b hb => hA b ?_) hN (args0_rel hargs hlen' []) ?_).wpIn
                · exact hrun
                · rcases hb with hb | hb | hb
                  · exact .inl (join_mem.2 (.inr hb))
                  · exact .inr hb
                  · omega
                · intro a' w' hpost
                  have := hfin a' w' hpost
                  cases e with
                  | normal => exact this
                  | ret => exact this
                  | exit i => simp [Ex.stays] at he
              unfold endE at h'
              cases hg : (W1.isEmpty && (tupC vs).plain) with
              | false => rw [hg, cond_false] at h'; cases h'; exact K
              | true =>
                rw [hg, cond_true] at h'
                simp only [Bool.and_eq_true, List.isEmpty_iff] at hg
                obtain ⟨hg1, hg2⟩ := hg
                subst hg1
                cases h'
                exact K.forget hg2
            · cases h'
        · cases h'

/-- ALL OF IT. -/
theorem eval_ok (hC : CtxOk3 P C) (hM : MemoOk P C ρ) : ∀ m, EvOk P C ρ m
  | 0 => ⟨(fun _ _ _ _ _ _ _ _ h => by cases h), (fun _ _ _ _ _ _ _ _ _ _ h => by cases h)⟩
  | m + 1 => ⟨step_call hC hM (eval_ok hC hM m), step_code hC (eval_ok hC hM m)⟩

/-- A function without arguments, from nothing: whatever the evaluator says it returns, it returns, in every world. -/
theorem closed (hC : CtxOk3 P C) (hM : MemoOk P C ⟨fun _ => 0, fun _ => false⟩) {f m : Nat} {c : CV} {s' : St} {R W : List Nat} (h : eval C m 0 (.call f []) .empty = some ⟨.val c, s', R, W⟩) (hp : s'.pc = []) (hW : W = []) (w : World) :
    Calls P f #[] w fun e w' => ∃ v σ', e = .returned v ∧ VR ⟨fun _ => 0, fun _ => false⟩ σ' c v ∧ Below w.heap.size w w' := by
  have k := (eval_ok (ρ := ⟨fun _ => 0, fun _ => false⟩) hC hM m).call _ _ _ _ _ _ _ _ h
  subst hW
  have := k.run 0 (fun _ => none) (fun _ => none) w #[] (by rw [hp]; intro p hp'; cases hp') .nil ⟨(fun b k l h => by cases h), (fun b b' k k' l l' h => by cases h), (fun b k x l h => by cases h), (fun b b' k k' x x' l l' h => by cases h)⟩ (fun b _ => (Tr.get_nil b).symm) (fun b _ _ => rfl)
  refine ((this.calls (fun k d h => by cases h)).mono ?_)
  rintro e w' ⟨v, rfl, σ', h1, h2, h3, h4, h5⟩
  exact ⟨v, σ', rfl, h2, h4.os, h4.tape, h4.output, h4.size, fun k hk => h4.block k hk (fun b _ l hl => by cases hl)⟩

end
end Go.Proofs.Ytknphpihipkdpaa.Cx
