/- RANGES OVER FUNCTIONS in the logic of points: what the iterator's contract says of its call is what the range does. -/
import Derived.Test.YtjdldcmcjaaibaaPkFShifts4

namespace Go.Proofs.Ytjdldcmcjaaibaa.Cx
set_option linter.unusedSimpArgs false
set_option linter.unusedVariables false
open Go Go.RowKit
section
variable {P : Program} {ρ : Env} {X : Fx} {p : Pt} {Φ : Ex → Pt → Prop} {base : Nat}
theorem HR.congr {σ : Mp} {cur cur' : Cur} {w : World} (h : ∀ b l, σ b = some l → cur' b = cur b) (H : HR ρ σ cur w) : HR ρ σ cur' w :=
  ⟨fun b k l a1 a2 a3 => H.cell b k l ((h b l a3).symm.trans a1) a2 a3, fun b b' k k' l l' a1 a2 a3 a4 a5 a6 => H.inj b b' k k' l l' ((h b l a3).symm.trans a1) a2 a3 ((h b' l' a6).symm.trans a4) a5 a6,
    fun b k x l a1 a2 a3 => H.spec b k x l ((h b l a3).symm.trans a1) a2 a3, fun b b' k k' x x' l l' a1 a2 a3 a4 a5 a6 => H.injX b b' k k' x x' l l' ((h b l a3).symm.trans a1) a2 a3 ((h b' l' a6).symm.trans a4) a5 a6, fun y hy => ⟨(H.glob y hy).1, fun b k l a1 a2 ar a3 => (H.glob y hy).2 b k l ((h b l a3).symm.trans a1) a2 ar a3⟩⟩
/-- The record that a range lays. -/
noncomputable def recB (T : Tr CV) (nt : Nat) (ps : Array Tmp) (assign body : Code) : Blk := ⟨.lit [], 0, false, some (.loop ⟨T, nt, ps, assign, body, .ready, none⟩)⟩
/-- A record at any time. -/
noncomputable def recS (T : Tr CV) (nt : Nat) (ps : Array Tmp) (assign body : Code) (st : LoopState) (pd : Option Code) : Blk := ⟨.lit [], 0, false, some (.loop ⟨T, nt, ps, assign, body, st, pd⟩)⟩
def rgF : Code → Operand
  | .rangeFunc f _ _ _ => f
  | _ => .tmp 0
def rgP : Code → Array Tmp
  | .rangeFunc _ p _ _ => p
  | _ => #[]
def rgA : Code → Code
  | .rangeFunc _ _ a _ => a
  | _ => .skip
def rgB : Code → Code
  | .rangeFunc _ _ _ b => b
  | _ => .skip
theorem rd_lts {l : List (Nat × CV)} (h : l.all (fun x => x.2.lts base) = true) (t : Nat) : (rd (mkT l) t).lts base = true := by
  rw [rd_mkT]
  split
  · rename_i x hx
    exact List.all_eq_true.1 h x (List.mem_of_find?_eq_some hx)
  · rfl
theorem RecOk.of {l : List (Nat × CV)} {base nt : Nat} {ps : Array Tmp} {as' bd : Code} {st : LoopState} {pd : Option Code} (h : l.all (fun x => x.2.lts base) = true) : RecOk base (recS (mkT l) nt ps as' bd st pd) :=
  ⟨rfl, _, rfl, rd_lts h⟩
theorem memW {b : Nat} {l : List Nat} (h : l.any (Nat.beq b) = true) : b ∈ l := by
  obtain ⟨x, h1, h2⟩ := List.any_eq_true.1 h
  rw [Nat.eq_of_beq_eq_true h2]; exact h1
theorem someNe {α : Type} {β : Prop} {x : α} (h : (some x : Option α) = none) : β := by cases h
set_option maxHeartbeats 1000000 in
theorem Sem.range {f : Operand} {ps : Array Tmp} {assign body : Code} {g : Nat} {first captured : List CV} {c : CV} {h2 : Tr Blk} {n2 : Nat} {Wg : List Nat} {r5 : LR} {e : Ex} (hP : progOk P = true) (hX : FxOk ρ X) (hra : regsOk assign = true) (hrb : regsOk body = true)
    (hf : ev p.T f = some (.fn (.func g) first captured)) (K : Ctr P ρ g (first ++ [.yld p.n] ++ captured) (p.h.set p.n (recB p.T X.nt ps assign body)) (p.n + 1) Wg c h2 n2)
    (hn : p.n + 1 ≤ n2) (hWg : ∀ b ∈ Wg, (b ∈ X.W ∨ X.base ≤ b) ∧ b < p.n + 1) (hrec : (⟨h2, n2, [], []⟩ : St).getX p.n = some (.loop r5)) (hfrm : ∀ b, b ∉ Wg → ¬ (p.n + 1 ≤ b ∧ b < n2) → h2.get b = (p.h.set p.n (recB p.T X.nt ps assign body)).get b)
    (hst : r5.st ≠ .busy) (hex : Ex.of r5.pend = some e) (hΦ : Φ e ⟨p.T, ((⟨h2, n2, [], []⟩ : St).setX p.n (.loop { r5 with st := .exhausted })).heap, n2⟩) : Sem P ρ X (.rangeFunc f ps assign body) p Φ := by
  have hC : CtxOk2 P (ctxOf P memo0) := (ctxOf_ok hP memo0).toCtxOk2
  intro Q a w hS hQ
  obtain ⟨σ, hI, hF⟩ := hS.rel
  have hb : X.base ≤ p.n := hS.le
  show (Code.rangeFunc f ps assign body).wpIn (fc X.ro) X.n P Q a w
  refine wpIn_rangeFunc (fun fn _ => ?_)
  have hσN : ∀ b, p.n ≤ b → σ b = none := fun b hb' => by
    rw [hI.ext b (.inr hb')]; exact hX.N b (Nat.le_trans hb hb')
  -- the record is laid
  obtain ⟨wa, D, mark, hent, hIa, hmark⟩ : ∃ (wa : World) (D : Nat) (mark : List Deferred),
      (Instr.enterLoop fn a.tmps ps assign body X.ro).run P w = .ok (wa.heap.size, mark) (wa.alloc (.loop { state := .ready, pending := none, fn, tmps := a.tmps, params := ps, assign, body, defers := D })) ∧
      Inv ρ X.σ X.cur X.base X.W X.base X.w (p.st []) σ wa ∧ Marks X.a.defers X.w (mark ++ a.defers) wa := by
    cases hro : X.ro with
    | none =>
      have hIa : Inv ρ X.σ X.cur X.base X.W X.base X.w (p.st []) σ (w.alloc (.deferred (some []))) := hI.step (s2 := p.st []) (base2 := p.n) (W2 := []) hb hb (Nat.le_refl _) (fun b hb' => by cases hb') ⟨Nat.le_refl _, fun _ _ _ => rfl, [], rfl⟩ (Ext.refl _ _ _) (by rw [show upd (upd X.cur X.base (p.st []).next (p.st []).heap X.W) p.n (p.st []).next (p.st []).heap [] = upd X.cur X.base (p.st []).next (p.st []).heap X.W from upd_none _ _ _]; exact hI.H.alloc _) (.of_same rfl rfl rfl (by simp) fun k hk => alloc_get hk) (Fresh.none _ _ _ _ _ _)
      refine ⟨w.alloc (.deferred (some [])), w.heap.size, [{ target := .collected w.heap.size, args := #[] }], ?_, hIa, ?_⟩
      · rw [run_enterLoop_outer, World.size_alloc]
      · refine hF.2.2.trans hI.K.size (fun k hk => ?_) ⟨[w.heap.size], rfl, by simp, fun D hD => by obtain rfl := List.mem_singleton.1 hD; exact ⟨Nat.le_refl _, alloc_new _ _⟩⟩
        rw [alloc_get (Array.getElem?_eq_some_iff.1 hk).1]; exact hk
    | some l0 =>
      obtain ⟨r0, hr0⟩ := hX.ro l0 hro
      obtain ⟨q0, hq0⟩ := hI.K.loops l0 r0 hr0
      exact ⟨w, q0.defers, [], enter_inner hq0 _ _ _ _ _, hI, hF.2.2⟩
  have hσ : σ p.n = none := hσN _ (Nat.le_refl _)
  obtain ⟨x1, x2, x3, x4⟩ := newX_run (s := p.st []) (x := .loop ⟨p.T, X.nt, ps, assign, body, .ready, none⟩) (o := .loop { state := .ready, pending := none, fn, tmps := a.tmps, params := ps, assign, body, defers := D }) hIa.H hσ
    (.loop _ (alloc_new _ _) rfl rfl rfl rfl rfl hF.1 (fun t => (hF.2.1 t).mono (fun b l' hb' => by
      show (if b = p.n then _ else σ b) = _
      rw [if_neg (fun h => by rw [h, hσ] at hb'; cases hb')]; exact hb')) hra hrb)
  have f01 : Frm (p.st []) ((p.st []).newX (.loop ⟨p.T, X.nt, ps, assign, body, .ready, none⟩)) [] := .newX _ _ _
  generalize hs1 : (p.st []).newX (.loop ⟨p.T, X.nt, ps, assign, body, .ready, none⟩) = s1 at *
  have n1 : s1.next = p.n + 1 := by rw [← hs1]; rfl
  have hh1 : s1.heap = p.h.set p.n (recB p.T X.nt ps assign body) := by rw [← hs1]; rfl
  generalize hσ1 : (fun b => if b = (p.st []).next then some (⟨wa.heap.size, 0, 0, 0⟩ : Loc) else σ b) = σ1 at x1 x2 x3 x4
  have hσ1n : σ1 p.n = some ⟨wa.heap.size, 0, 0, 0⟩ := by rw [← hσ1]; exact if_pos rfl
  have x1 : HR ρ σ1 (upd (upd X.cur X.base p.n p.h X.W) p.n (p.n + 1) s1.heap []) (wa.alloc (.loop { state := .ready, pending := none, fn, tmps := a.tmps, params := ps, assign, body, defers := D })) := x1
  have x2 : Ext σ σ1 p.n (p.n + 1) := x2
  have x4 : Fresh σ σ1 p.n (p.n + 1) p.n [] wa := x4
  have x3 : Keeps σ p.n [] wa (wa.alloc (.loop { state := .ready, pending := none, fn, tmps := a.tmps, params := ps, assign, body, defers := D })) := x3
  rw [← n1] at x1 x2 x4
  generalize hw1 : wa.alloc (.loop { state := .ready, pending := none, fn, tmps := a.tmps, params := ps, assign, body, defers := D }) = w1 at hent x1 x3
  have hI1 : Inv ρ X.σ X.cur X.base X.W X.base X.w s1 σ1 w1 := hIa.step (base2 := p.n) hb hb (Nat.le_refl _) (fun b hb' => by cases hb') f01.toB x2 x1 x3 x4
  have hσ1N : ∀ b, s1.next ≤ b → σ1 b = none := fun b hb' => by
    rw [x2 b (.inr hb')]; exact hσN b (by omega)
  have hold1 : ∀ b, b < s1.next → upd X.cur X.base s1.next s1.heap X.W b = s1.heap.get b := fun b hb' => by
    show (if b ∈ X.W ∨ (X.base ≤ b ∧ b < s1.next) then _ else X.cur b) = _
    by_cases hc : b ∈ X.W ∨ (X.base ≤ b ∧ b < s1.next)
    · rw [if_pos hc]
    · rw [if_neg hc]
      have h1 : b < X.base := by
        by_cases h : b < X.base
        · exact h
        · exact absurd (.inr ⟨by omega, hb'⟩) hc
      rw [hS.old b h1 (fun h => hc (.inl h)), hh1, Tr.get_set, if_neg (by omega)]
  -- the call
  obtain ⟨x', y', hfv, hx, hy⟩ := (ev_run (σ := σ) (ρ := ρ) (a := a) (fun t _ => hF.2.1 t) hf).fn_inv
  obtain ⟨gfn, hgfn, hbody⟩ := K.fn
  have hle1 : σ.le σ1 := fun b l hl => by
    rw [x2 b (.inl (by
      by_cases h : b < p.n
      · exact h
      · rw [hσN b (by omega)] at hl; cases hl))]; exact hl
  have hargs : VRl ρ σ1 (first ++ [.yld p.n] ++ captured) ((x' ++ #[Value.func (.yield wa.heap.size) #[] #[]]) ++ y').toList := by
    simp only [Array.toList_append]
    exact ((hx.mono hle1).append (.cons (.yld hσ1n) .nil)).append (hy.mono hle1)
  have hHc : HR ρ σ1 (curOf (p.h.set p.n (recB p.T X.nt ps assign body)) (p.n + 1)) w1 := by
    refine HR.congr (fun b l hl => ?_) hI1.H
    have hlt : b < s1.next := by
      by_cases h : b < s1.next
      · exact h
      · rw [hσ1N b (by omega)] at hl; cases hl
    rw [hold1 b hlt, ← hh1]
    exact if_pos (by omega)
  refine ⟨wa.heap.size, mark, w1, { target := .fn (.func g) y', args := x' ++ #[Value.func (.yield wa.heap.size) #[] #[]] }, w1, g, (x' ++ #[Value.func (.yield wa.heap.size) #[] #[]]) ++ y', w1, hent, ?_, (fun _ _ => trivial), ?_, (fun h => by cases h), callsIn_fc ((K.run (X.n - 1) σ1 w1 _ hargs hHc (fun b hb' => hσ1N b (by omega))).mono ?_)⟩
  · simp only [resolve, Deferred.ofValue, hfv, pure_bind, Sem.run_pure]
    simp [Act.eval]
  · simp only [invoke, callFunc_run hC (show (ctxOf P memo0).fn g = some gfn from hgfn) hbody]
  · rintro e' w3 ⟨v, rfl, σ2, y1, y2, y3, y4, y5⟩
    have y1 : Ext σ1 σ2 s1.next n2 := by rw [n1]; exact y1
    have y3 : HR ρ σ2 (upd (curOf (p.h.set p.n (recB p.T X.nt ps assign body)) (p.n + 1)) (p.n + 1) n2 h2 Wg) w3 := y3
    have y4 : Keeps σ1 s1.next Wg w1 w3 := by rw [n1]; exact y4
    have y5 : Fresh σ1 σ2 s1.next n2 s1.next Wg w1 := by rw [n1]; exact y5
    have hI2 : Inv ρ X.σ X.cur X.base X.W X.base X.w ⟨h2, n2, [], []⟩ σ2 w3 := by
      refine hI1.step (s2 := ⟨h2, n2, [], []⟩) (base2 := s1.next) (W2 := Wg) (by omega) (by omega) (Nat.le_refl _) (fun b hb' => ?_) ⟨by show s1.next ≤ n2; omega, fun b hbW hbn => ?_, ?_⟩ y1 ?_ y4 y5
      · rcases (hWg b hb').1 with h | h
        · exact .inl h
        · exact .inr ⟨h, by have := (hWg b hb').2; omega⟩
      · show h2.get b = s1.heap.get b
        rw [hh1]
        exact hfrm b hbW (fun h => hbn ⟨by omega, h.2⟩)
      · rw [← hs1]; exact ⟨[], rfl⟩
      · refine HR.congr (fun b l hl => ?_) y3
        have hlt : b < n2 := by
          by_cases h : b < n2
          · exact h
          · rw [y1 b (.inr (by omega)), hσ1N b (by omega)] at hl; cases hl
        show (if b ∈ Wg ∨ (s1.next ≤ b ∧ b < n2) then h2.get b else _) = (if b ∈ Wg ∨ (p.n + 1 ≤ b ∧ b < n2) then h2.get b else _)
        by_cases hc : b ∈ Wg ∨ (s1.next ≤ b ∧ b < n2)
        · rw [if_pos hc, if_pos (by rw [← n1]; exact hc)]
        · rw [if_neg hc, if_neg (by rw [← n1]; exact hc)]
          have hlt1 : b < s1.next := by
            by_cases h : b < s1.next
            · exact h
            · exact absurd (.inr ⟨by omega, hlt⟩) hc
          rw [hold1 b hlt1, hh1]
          exact (if_pos (by omega)).symm
    have hl2 : σ2 p.n = some ⟨wa.heap.size, 0, 0, 0⟩ := by rw [y1 _ (.inl (by omega))]; exact hσ1n
    obtain ⟨q, hq, hqs, hqp, hI5, hK5⟩ := loop_set (r1 := { r5 with st := .exhausted }) (f := fun q => { q with state := .exhausted }) hI2 (by show X.base ≤ n2; omega) (by show X.base ≤ n2; omega) hrec (.inr ⟨hb, by show p.n < n2; omega⟩) hl2 (fun q h1' h2' h3' => by
      have hpd : q.pending = r5.pend := by
        cases h1' with
        | loop q' hq' _ hp' => rw [h2'] at hq'; cases hq'; exact hp'
      have := h1'.loop_state (st := .exhausted) (pd := r5.pend) h2'
      rw [← hpd] at this
      rw [← hpd]
      exact this)
    refine ⟨q.pending, _, run_endLoop hq (by rw [hqs]; exact hst), ?_⟩
    have hSR : SR ρ X ⟨p.T, ((⟨h2, n2, [], []⟩ : St).setX p.n (.loop { r5 with st := .exhausted })).heap, n2⟩ { a with defers := mark ++ a.defers } (w3.putObj wa.heap.size (.loop { q with state := .exhausted })) := by
      refine ⟨by show X.base ≤ n2; omega, fun b hb1 hb2 => ?_, σ2, hI5, hF.1, fun t => (hF.2.1 t).mono (fun b l hl => ?_), ?_⟩
      · show X.cur b = ((⟨h2, n2, [], []⟩ : St).setX p.n (.loop { r5 with st := .exhausted })).heap.get b
        rw [setX_get, if_neg (by omega)]
        show X.cur b = h2.get b
        rw [hfrm b (fun h => by
          rcases (hWg b h).1 with h | h
          · exact hb2 h
          · omega) (fun h => by omega), Tr.get_set, if_neg (by omega)]
        exact hS.old b hb1 hb2
      · have h1 := hle1 b l hl
        rw [y1 b (.inl (by
          by_cases h : b < s1.next
          · exact h
          · rw [hσ1N b (by omega)] at h1; cases h1))]
        exact h1
      · have hsz : X.w.heap.size ≤ wa.heap.size := hIa.K.size
        exact hmark.trans hsz (fun k hk => hK5.defd k (y4.defd k (x3.defd k hk))) (.refl _ _ _)
    have := hQ e _ _ _ hΦ hSR
    rw [← hqp] at hex
    revert hex this
    generalize w3.putObj wa.heap.size (.loop { q with state := .exhausted }) = w4
    intro hex this
    revert hex
    cases hpd : q.pending with
    | none => intro hex; cases hex; exact this
    | some cd =>
      intro hex
      cases cd <;> simp only [Ex.of] at hex <;> cases hex
      · exact wpIn_exit this
      · exact wpIn_ret this
/-! ## Heads of automata that are ranges -/
/-- The state behind a range, whose iterator left this memory. -/
noncomputable def rgSt (n0 : Nat) (h2 : Tr Blk) (n2 : Nat) (r5 : LR) (o : List Nat) : St := ⟨((⟨h2, n2, [], []⟩ : St).setX n0 (.loop { r5 with st := .exhausted })).heap, n2, o, []⟩
/-- What follows a range. -/
noncomputable def AF.runR {N R : Type} (A : AF N R) (C : Ctx) (a : N) (h2 : Tr Blk) (n2 : Nat) (r5 : LR) (e : Ex) (o : List Nat) : Option KO :=
  resumeK C A.m A.base A.nt A.un A.code (A.path a) e ((A.pd a).pt A.H0).T (rgSt (A.pd a).n h2 n2 r5 o)
theorem AF.old {N R : Type} {A : AF N R} {C : Ctx} (hA : A.Ok P C) (a : N) {b : Nat} (hb : b < A.base) (hbW : b ∉ A.W) : ((A.pd a).pt A.H0).h.get b = A.H0.get b := by
  show (putH A.H0 ((A.pd a).h ++ (A.pd a).x)).get b = _
  rw [get_putH]
  split
  · rename_i x hx
    have h1 := List.find?_some hx
    have h2 := List.mem_of_find?_eq_some hx
    simp only [beq_iff_eq] at h1
    subst h1
    rcases List.mem_append.1 h2 with h2 | h2
    · rcases ((hA.pd a).h x h2).1 with h3 | h3
      · omega
      · exact absurd h3 hbW
    · exact absurd ((hA.pd a).x x h2).1 hbW
  · rfl
theorem AF.frm {N R : Type} {A : AF N R} {C : Ctx} (hA : A.Ok P C) (v : R) (hlt : (A.rh v).all (fun x => Nat.blt x.1 (A.rn v)) = true) {b : Nat} (hbW : b ∉ A.W) (hb : ¬ (A.base ≤ b ∧ b < A.rn v)) : (putH A.H0 (A.rh v ++ A.rx v)).get b = A.H0.get b := by
  rw [get_putH]
  split
  · rename_i x hx
    have h1 := List.find?_some hx
    have h2 := List.mem_of_find?_eq_some hx
    simp only [beq_iff_eq] at h1
    subst h1
    rcases List.mem_append.1 h2 with h2 | h2
    · rcases ((hA.rd v).1.h x h2).1 with h3 | h3
      · exact absurd ⟨h3, blt_lt (List.all_eq_true.1 hlt x h2)⟩ hb
      · exact absurd h3 hbW
    · exact absurd ((hA.rd v).1.x x h2).1 hbW
  · rfl
theorem Ctr.congr {f : Nat} {args : List CV} {h0 h0' h1 : Tr Blk} {base n1 : Nat} {W : List Nat} {c : CV} (h : ∀ b, b < base → h0.get b = h0'.get b) (K : Ctr P ρ f args h0 base W c h1 n1) : Ctr P ρ f args h0' base W c h1 n1 := by
  have e : curOf h0 base = curOf h0' base := by
    funext b
    unfold curOf
    split
    · exact h b ‹_›
    · rfl
  exact ⟨K.fn, fun n σ w args' a1 a2 a3 => by rw [← e]; exact K.run n σ w args' a1 (by rw [e]; exact a2) a3⟩
/-- A head that is a range over a function, from the iterator's automaton over the head's memory. -/
structure AF.Rg {N R N' R' : Type} (A : AF N R) (B : AF N' R') (P : Program) (C C' : Ctx) (a : N) (f : Operand) (ps : Array Tmp) (as' bd : Code) (g : Nat) (gn : Func) (first captured : List CV) (rec : R' → LR) (ex : R' → Ex) (Dr : R' → DD (Lf N R)) : Prop where
  code : codeAt A.code (A.path a) = .rangeFunc f ps as' bd
  fn : ev ((A.pd a).pt A.H0).T f = some (.fn (.func g) first captured)
  args : B.args = first ++ [.yld (A.pd a).n] ++ captured
  base : B.base = (A.pd a).n + 1
  h0 : B.h0 = ((A.pd a).n, recB (mkT (A.pd a).T) A.nt ps as' bd) :: (((A.pd a).h ++ (A.pd a).x) ++ A.h0)
  W : B.W.all (fun b => A.W.any (Nat.beq b) || Nat.ble A.base b) = true
  gfn : P.funcs[g]? = some gn
  body : gn.body = some B.code
  nt : gn.ntmps = B.nt
  len : B.args.length ≤ B.nt
  res : gn.results.toList = B.res
  ok : B.Ok P C'
  le : ∀ v, B.base ≤ B.rn v
  lt : ∀ v, (B.rh v).all (fun x => Nat.blt x.1 (B.rn v)) = true
  rcd : ∀ v, (⟨putH B.H0 (B.rh v ++ B.rx v), B.rn v, [], []⟩ : St).getX (A.pd a).n = some (.loop (rec v))
  st : ∀ v, (rec v).st ≠ .busy
  exd : ∀ v, Ex.of (rec v).pend = some (ex v)
  D : ∀ v, A.edgeOk (ctxOf P memo0) (Dr v) (A.runR C a (putH B.H0 (B.rh v ++ B.rx v)) (B.rn v) (rec v) (ex v))
theorem mkH_append (l m : List (Nat × Blk)) : mkH (l ++ m) = putH (mkH m) l := by
  induction l with
  | nil => rfl
  | cons x l ih => obtain ⟨t, c⟩ := x; simp only [List.cons_append, mkH, putH, ih]
theorem AF.range_ok {N R N' R' : Type} {A : AF N R} {B : AF N' R'} {memo memo' : Memo} {a : N} {f : Operand} {ps : Array Tmp} {as' bd : Code} {g : Nat} {gn : Func} {first captured : List CV} {rec : R' → LR} {ex : R' → Ex} {Dr : R' → DD (Lf N R)}
    (hP : progOk P = true) (hM : MemoOk P (ctxOf P memo) ρ) (hM' : MemoOk P (ctxOf P memo') ρ) (hA : A.Ok P (ctxOf P memo)) (H : A.Rg B P (ctxOf P memo) (ctxOf P memo') a f ps as' bd g gn first captured rec ex Dr)
    (hRB : ∀ X a q n D, FxOk ρ X → X.base = B.base → X.nt = B.nt → X.W = B.W → B.rgo a = some q → q n = some D → B.RangeOk P ρ X a D)
    {X : Fx} (hX : FxOk ρ X) (hb : X.base = A.base) (hnt : X.nt = A.nt) (hW : X.W = A.W) {n : Nat} {D : DD (Lf N R)} (h : (B.run n).map Dr = some D) : A.RangeOk P ρ X a D := by
  cases hv : B.run n with
  | none => rw [hv] at h; cases h
  | some v =>
    rw [hv] at h
    cases h
    have hC := ctxOf_ok hP memo
    have hle : A.base ≤ (A.pd a).n := hA.le a
    have hregs : regsOk (.rangeFunc f ps as' bd) = true := by rw [← H.code]; exact regs_at (A.path a) hA.regs
    have hregs : regsOk as' = true ∧ regsOk bd = true := by simpa [regsOk] using hregs
    have K := AF.ctr hP hM' H.ok H.gfn H.body H.nt H.len H.res hRB hv
    have hH0 : B.H0 = ((A.pd a).pt A.H0).h.set (A.pd a).n (recB (mkT (A.pd a).T) A.nt ps as' bd) := by
      show mkH B.h0 = _
      rw [H.h0, mkH, mkH_append]
      rfl
    have hWB : ∀ b ∈ B.W, (b ∈ A.W ∨ A.base ≤ b) ∧ b < (A.pd a).n + 1 := fun b hbB => by
      refine ⟨?_, by rw [← H.base]; exact H.ok.wlt b hbB⟩
      have := List.all_eq_true.1 H.W b hbB
      rw [Bool.or_eq_true] at this
      rcases this with h | h
      · obtain ⟨x, h1, h2⟩ := List.any_eq_true.1 h
        rw [Nat.eq_of_beq_eq_true h2]; exact .inl h1
      · exact .inr (Nat.le_of_ble_eq_true h)
    have hfr : ∀ b, b ∉ B.W → ¬ ((A.pd a).n + 1 ≤ b ∧ b < B.rn v) → (putH B.H0 (B.rh v ++ B.rx v)).get b = (((A.pd a).pt A.H0).h.set (A.pd a).n (recB (mkT (A.pd a).T) A.nt ps as' bd)).get b := fun b h1 h2 => by
      rw [AF.frm H.ok v (H.lt v) h1 (by rw [H.base]; exact h2), hH0]
    refine ⟨A.runR (ctxOf P memo) a (putH B.H0 (B.rh v ++ B.rx v)) (B.rn v) (rec v) (ex v), rgSt (A.pd a).n (putH B.H0 (B.rh v ++ B.rx v)) (B.rn v) (rec v) [], H.D v, rfl, fun b hb1 hb2 => ?_, fun o k hk => ?_⟩
    · show (((⟨putH B.H0 (B.rh v ++ B.rx v), B.rn v, [], []⟩ : St).setX (A.pd a).n (.loop { rec v with st := .exhausted })).heap).get b = _
      rw [setX_get, if_neg (by omega)]
      show (putH B.H0 (B.rh v ++ B.rx v)).get b = _
      rw [hfr b (fun h => by
        rcases (hWB b h).1 with h | h
        · exact hb2 h
        · omega) (fun h => by omega), Tr.get_set, if_neg (by omega)]
      exact AF.old hA a hb1 hb2
    · have kk := resumeK_ok (base := A.base) hC hM (A.path a) A.code (ex v) _ _ _ hA.regs (by show A.base ≤ B.rn v; have := H.le v; rw [H.base] at this; omega) hk
      refine ⟨kk.next, kk.pc, kk.old, fun X' Φ h1 h2 h3 h4 h5 h6 hx => ?_⟩
      subst hx
      have hob := kk.run X' Φ h1 h2 h3 h4 h5 h6
      show LoopAt P ρ X' (codeAt A.code (A.path a)) (AftL P ρ X' A.code (A.path a) Φ) _
      rw [H.code]
      show Sem P ρ X' (.rangeFunc f ps as' bd) ((A.pd a).pt A.H0) _
      refine Sem.range (c := B.rc v) (h2 := putH B.H0 (B.rh v ++ B.rx v)) (n2 := B.rn v) (Wg := B.W) (r5 := rec v) (e := ex v) hP h1 hregs.1 hregs.2 H.fn ?_ ?_ ?_ (H.rcd v) ?_ (H.st v) (H.exd v) hob
      · have := K
        rw [H.args, H.base, hH0] at this
        rw [hH0, h3]
        exact this
      · have := H.le v; rw [H.base] at this; exact this
      · intro b hbB
        rw [hW, hb]
        exact hWB b hbB
      · intro b q1 q2
        rw [h3]
        exact hfr b q1 q2
end
end Go.Proofs.Ytjdldcmcjaaibaa.Cx

/- acme/fit.inOrder as an automaton. Made by tools/cxauto.py. -/
namespace Go.Proofs.Ytjdldcmcjaaibaa.Cx
set_option linter.unusedVariables false
set_option linter.unusedSimpArgs false
set_option maxRecDepth 100000
open Go Go.Proofs Go.RowKit
noncomputable abbrev afo_Code : Code := funcCode Try.f52
inductive afo_N where
  | n0 (p0 p1 : Int)
abbrev afo_R := Bool
noncomputable def afo_D0 (a0 : Nat) (a1 a2 : Nat → Int) : DD (Lf afo_N afo_R) :=
 .leaf (.next (.n0 (-10000000) 0) [])

noncomputable def afo_D (a0 : Nat) (a1 a2 : Nat → Int) : afo_N → DD (Lf afo_N afo_R)
 | .n0 p0 p1 =>
 let z0 := a1 (0 + Int.toNat p1)
 let z1 := a2 (0 + Int.toNat p1)
 .ask (Cm.run .lss p1 (↑a0 : Int))
   (.must (decide (0 ≤ p1))
   (.must (decide (p1 < (↑a0 : Int)))
   (.must (decide (0 + Int.toNat p1 < a0))
   (.ask (Cm.run .lss z0 p0)
   (.leaf (.done false []))
   (.ask (Cm.run .lss z1 z0)
   (.leaf (.done false []))
   (.leaf (.next (.n0 z1 (Ar.run .add .i64 p1 1)) [])))))))
   (.ask (Cm.run .leq p0 10000000)
   (.leaf (.done true []))
   (.leaf (.done false [])))

noncomputable def afo_A (a0 : Nat) (a1 a2 : Nat → Int) : AF afo_N afo_R where
  code := afo_Code
  base := 1
  nt := 28
  m := 400
  un := []
  W := []
  h0 := [(0, ⟨.arg a0 2 (fun i => [.int .i64 (.x (a1 i)), .int .i64 (.x (a2 i))]) (fun _ => ⟨rfl, rfl⟩), 2, true, none⟩)]
  args := [.sla 0 2 0 a0]
  res := (Try.f52).results.toList
  path := fun a => match a with
   | .n0 p0 p1 => [1, 1, 0, 1, 0]
  pd := fun a => match a with
   | .n0 p0 p1 => ⟨[(3, .int .i64 (.x p0)), (6, .sla 0 2 0 a0), (7, .int .i64 (.x (↑a0))), (8, .int .i64 (.x p1))], [], 1, []⟩
  D0 := afo_D0 a0 a1 a2
  D := afo_D a0 a1 a2
  rc := (fun v => .bool (.x v))
  rh := (fun v => [])
  rn := (fun v => 1)
  rx := (fun v => [])
  rgo := (fun _ => none)
theorem afo_start (a0 : Nat) (a1 a2 : Nat → Int) : AF.edgeOk (afo_A a0 a1 a2) (ctxOf Try.prog memo0) (afo_D0 a0 a1 a2) (AF.run0 (afo_A a0 a1 a2) (ctxOf Try.prog memo0)) := by unfold AF.edgeOk; kernel_rfl
theorem afo_node0 (a0 : Nat) (a1 a2 : Nat → Int) (p0 p1 : Int) : AF.edgeOk (afo_A a0 a1 a2) (ctxOf Try.prog memo0) (afo_D a0 a1 a2 (.n0 p0 p1)) (AF.runN (afo_A a0 a1 a2) (ctxOf Try.prog memo0) (.n0 p0 p1)) := by unfold AF.edgeOk; kernel_rfl
theorem afo_ok (a0 : Nat) (a1 a2 : Nat → Int) : (afo_A a0 a1 a2).Ok Try.prog (ctxOf Try.prog memo0) where
  regs := by kernel_rfl
  h0 := by kernel_rfl
  start := afo_start a0 a1 a2
  node := fun a _ => match a with
   | .n0 p0 p1 => afo_node0 a0 a1 a2 p0 p1
  pd := fun a => match a with
   | .n0 p0 p1 => ⟨(fa_cons rfl (fa_cons rfl (fa_cons rfl (fa_cons rfl fa_nil)))), fa_nil, fa_nil, rfl⟩
  le := fun a => match a with
   | .n0 p0 p1 => Nat.le_of_ble_eq_true rfl
  rd := fun v => ⟨⟨fa_nil, fa_nil, fa_nil, rfl⟩, rfl⟩
  wb := rfl
theorem afo_hR {ρ : Env} (a0 : Nat) (a1 a2 : Nat → Int) (hM : MemoOk Try.prog (ctxOf Try.prog memo0) ρ) : ∀ X a q n D, FxOk ρ X → X.base = (afo_A a0 a1 a2).base → X.nt = (afo_A a0 a1 a2).nt → X.W = (afo_A a0 a1 a2).W → (afo_A a0 a1 a2).rgo a = some q → q n = some D → (afo_A a0 a1 a2).RangeOk Try.prog ρ X a D := AF.noRange rfl
theorem afo_ctr {ρ : Env} (a0 : Nat) (a1 a2 : Nat → Int) {n : Nat} {v : afo_R} (hM : MemoOk Try.prog (ctxOf Try.prog memo0) ρ) (hv : (afo_A a0 a1 a2).run n = some v) :
    Ctr Try.prog ρ 52 (afo_A a0 a1 a2).args (afo_A a0 a1 a2).H0 (afo_A a0 a1 a2).base (afo_A a0 a1 a2).W ((afo_A a0 a1 a2).rc v) (putH (afo_A a0 a1 a2).H0 ((afo_A a0 a1 a2).rh v ++ (afo_A a0 a1 a2).rx v)) ((afo_A a0 a1 a2).rn v) :=
  AF.ctr try_ok hM (afo_ok a0 a1 a2) (fn := Try.f52) Try.func52 rfl rfl (Nat.le_of_ble_eq_true rfl) rfl (afo_hR a0 a1 a2 hM) hv
theorem afo_mem {ρ : Env} : MemoOk Try.prog (ctxOf Try.prog memo0) ρ := memo0_ok
abbrev afo_P : List AQ := [.rows [some .i64, some .i64]]
noncomputable def afo_F (v : AW) : AF afo_N afo_R := afo_A (v.t.getD 0 .none).n ((v.t.getD 0 .none).c 0) ((v.t.getD 0 .none).c 1)
noncomputable def afo_W : afo_R → CV := fun v => .bool (.x v)
noncomputable def afo_H : afo_R → List (Nat × Blk) := fun v => []
instance : Inhabited afo_R := ⟨false⟩
theorem afo_known {ρ : Env} (hM : MemoOk Try.prog (ctxOf Try.prog memo0) ρ) : KnownS Try.prog ρ 52 afo_P afo_F afo_W afo_H 1 where
  fn := ⟨Try.f52, Try.func52, rfl⟩
  le := Nat.le_of_ble_eq_true rfl
  full := fun r => rfl
  rg := fun r => rfl
  hg := fun r => fa_nil
  ctr := fun v n r h => afo_ctr (v.t.getD 0 .none).n ((v.t.getD 0 .none).c 0) ((v.t.getD 0 .none).c 1) hM h
end Go.Proofs.Ytjdldcmcjaaibaa.Cx

/- acme/fit.Check as an automaton. Made by tools/cxauto.py. -/
namespace Go.Proofs.Ytjdldcmcjaaibaa.Cx
set_option linter.unusedVariables false
set_option linter.unusedSimpArgs false
set_option maxRecDepth 100000
open Go Go.Proofs Go.RowKit
noncomputable abbrev afcCode : Code := funcCode Try.f14
abbrev afcN := Empty
abbrev afcR := Int
noncomputable def afcD0 (a0 : Nat) (a1 a2 : Nat → Int) (a3 a4 : Int) : DD (Lf afcN afcR) :=
 let z0 := fun i => [CV.int IntKind.i64 (IE.x (a1 (0 + i))), CV.int IntKind.i64 (IE.x (a2 (0 + i)))]
 let z1 := afo_A a0 (fun i => a1 (0 + i)) (fun i => a2 (0 + i))
 .ask (Cm.run .gtr ((↑a0 : Int)) 60)
   (.leaf (.done 5 []))
   (.ask (Cm.run .eql ((↑a0 : Int)) 0)
   (.leaf (.done 2 []))
   (.must (decide (0 + a0 ≤ a0))
   (.must (ShapeOk [some IntKind.i64, some IntKind.i64] (tabOf a0 z0) z0)
   (.must (AF.fin z1)
   (.ask (!AF.val z1)
   (.leaf (.done 2 []))
   (.ask (Cm.run .lss a3 0)
   (.leaf (.done 2 []))
   (.ask (Cm.run .gtr a3 3000)
   (.leaf (.done 2 []))
   (.ask (Cm.run .lss a4 0)
   (.leaf (.done 2 []))
   (.ask (Cm.run .gtr a4 3000)
   (.leaf (.done 2 []))
   (.leaf (.done 0 [])))))))))))

noncomputable def afcD (a0 : Nat) (a1 a2 : Nat → Int) (a3 a4 : Int) : afcN → DD (Lf afcN afcR) := fun a => nomatch a
noncomputable def afcA (a0 : Nat) (a1 a2 : Nat → Int) (a3 a4 : Int) : AF afcN afcR where
  code := afcCode
  base := 1
  nt := 26
  m := 400
  un := []
  W := []
  h0 := [(0, ⟨.arg a0 2 (fun i => [.int .i64 (.x (a1 i)), .int .i64 (.x (a2 i))]) (fun _ => ⟨rfl, rfl⟩), 2, true, none⟩)]
  args := [.agg [.sla 0 2 0 a0, .int .i64 (.x a3), .int .i64 (.x a4)]]
  res := (Try.f14).results.toList
  path := fun a => nomatch a
  pd := fun a => nomatch a
  D0 := afcD0 a0 a1 a2 a3 a4
  D := afcD a0 a1 a2 a3 a4
  rc := (fun v => .int .i64 (.x v))
  rh := (fun v => [])
  rn := (fun v => 1)
  rx := (fun v => [])
  rgo := (fun _ => none)
theorem afcstart (a0 : Nat) (a1 a2 : Nat → Int) (a3 a4 : Int) : AF.edgeOk (afcA a0 a1 a2 a3 a4) (ctxOf Try.prog memo0) (afcD0 a0 a1 a2 a3 a4) (AF.run0 (afcA a0 a1 a2 a3 a4) (ctxOf Try.prog (memoS 52 afo_P afo_F afo_W afo_H 1 memo0))) := by unfold AF.edgeOk; kernel_rfl
theorem afcok (a0 : Nat) (a1 a2 : Nat → Int) (a3 a4 : Int) : (afcA a0 a1 a2 a3 a4).Ok Try.prog (ctxOf Try.prog (memoS 52 afo_P afo_F afo_W afo_H 1 memo0)) where
  regs := by kernel_rfl
  h0 := by kernel_rfl
  start := afcstart a0 a1 a2 a3 a4
  node := fun a _ => nomatch a
  pd := fun a => nomatch a
  le := fun a => nomatch a
  rd := fun v => ⟨⟨fa_nil, fa_nil, fa_nil, rfl⟩, rfl⟩
  wb := rfl
theorem afchR {ρ : Env} (a0 : Nat) (a1 a2 : Nat → Int) (a3 a4 : Int) (hM : MemoOk Try.prog (ctxOf Try.prog (memoS 52 afo_P afo_F afo_W afo_H 1 memo0)) ρ) : ∀ X a q n D, FxOk ρ X → X.base = (afcA a0 a1 a2 a3 a4).base → X.nt = (afcA a0 a1 a2 a3 a4).nt → X.W = (afcA a0 a1 a2 a3 a4).W → (afcA a0 a1 a2 a3 a4).rgo a = some q → q n = some D → (afcA a0 a1 a2 a3 a4).RangeOk Try.prog ρ X a D := AF.noRange rfl
theorem afcctr {ρ : Env} (a0 : Nat) (a1 a2 : Nat → Int) (a3 a4 : Int) {n : Nat} {v : afcR} (hM : MemoOk Try.prog (ctxOf Try.prog (memoS 52 afo_P afo_F afo_W afo_H 1 memo0)) ρ) (hv : (afcA a0 a1 a2 a3 a4).run n = some v) :
    Ctr Try.prog ρ 14 (afcA a0 a1 a2 a3 a4).args (afcA a0 a1 a2 a3 a4).H0 (afcA a0 a1 a2 a3 a4).base (afcA a0 a1 a2 a3 a4).W ((afcA a0 a1 a2 a3 a4).rc v) (putH (afcA a0 a1 a2 a3 a4).H0 ((afcA a0 a1 a2 a3 a4).rh v ++ (afcA a0 a1 a2 a3 a4).rx v)) ((afcA a0 a1 a2 a3 a4).rn v) :=
  AF.ctr try_ok hM (afcok a0 a1 a2 a3 a4) (fn := Try.f14) Try.func14 rfl rfl (Nat.le_of_ble_eq_true rfl) rfl (afchR a0 a1 a2 a3 a4 hM) hv
theorem afcmem {ρ : Env} : MemoOk Try.prog (ctxOf Try.prog (memoS 52 afo_P afo_F afo_W afo_H 1 memo0)) ρ := (memoS_ok (afo_known afo_mem) memo0_ok)
abbrev afcP : List AQ := [.agg [.rows [some .i64, some .i64], .int .i64, .int .i64]]
noncomputable def afcF (v : AW) : AF afcN afcR := afcA (v.t.getD 0 .none).n ((v.t.getD 0 .none).c 0) ((v.t.getD 0 .none).c 1) (v.i.getD 0 0) (v.i.getD 1 0)
noncomputable def afcW : afcR → CV := fun v => .int .i64 (.x v)
noncomputable def afcH : afcR → List (Nat × Blk) := fun v => []
instance : Inhabited afcR := ⟨0⟩
theorem afcknown {ρ : Env} (hM : MemoOk Try.prog (ctxOf Try.prog (memoS 52 afo_P afo_F afo_W afo_H 1 memo0)) ρ) : KnownS Try.prog ρ 14 afcP afcF afcW afcH 1 where
  fn := ⟨Try.f14, Try.func14, rfl⟩
  le := Nat.le_of_ble_eq_true rfl
  full := fun r => rfl
  rg := fun r => rfl
  hg := fun r => fa_nil
  ctr := fun v n r h => afcctr (v.t.getD 0 .none).n ((v.t.getD 0 .none).c 0) ((v.t.getD 0 .none).c 1) (v.i.getD 0 0) (v.i.getD 1 0) hM h
end Go.Proofs.Ytjdldcmcjaaibaa.Cx

/- acme/fit.pieceOf as an automaton. Made by tools/cxauto.py. -/
namespace Go.Proofs.Ytjdldcmcjaaibaa.Cx
set_option linter.unusedVariables false
set_option linter.unusedSimpArgs false
set_option maxRecDepth 100000
open Go Go.Proofs Go.RowKit
noncomputable abbrev afpCode : Code := funcCode Try.f55
inductive afpN where
  | n0
  | n1 (p0 : Int) (p1 : Nat) (p2 p3 : Nat → Int)
inductive afpR where
  | r0 (p0 p1 : Int)
  | r1 (p0 : Nat) (p1 p2 : Int) (p3 p4 : Nat → Int)
noncomputable def afpD0 (a0 : Nat) (a1 a2 : Nat → Int) (a3 a4 : Int) : DD (Lf afpN afpR) :=
 .leaf (.next (.n0) [2, 3])

noncomputable def afpD (a0 : Nat) (a1 a2 : Nat → Int) (a3 a4 : Int) : afpN → DD (Lf afpN afpR)
 | .n0 =>
 .ask (Cm.run .lss 0 (↑a0 : Int))
   (.must (true)
   (.must (decide (0 < (↑a0 : Int)))
   (.must (decide (0 + Int.toNat 0 < a0))
   (.leaf (.next (.n1 1 1 (fun i => Ar.run .mul .i64 1000 (a1 (0 + Int.toNat 0))) (fun i => Ar.run .mul .i64 1000 (a2 (0 + Int.toNat 0)))) [1, 2, 5])))))
   (.leaf (.done (.r0 a3 a4) []))
 | .n1 p0 p1 p2 p3 =>
 .ask (Cm.run .lss p0 (↑a0 : Int))
   (.must (decide (0 ≤ p0))
   (.must (decide (p0 < (↑a0 : Int)))
   (.must (decide (0 + Int.toNat p0 < a0))
   (.must (decide (0 + p1 ≤ p1))
   (.must (decide (p1 + 1 ≤ 10000))
   (.leaf (.next (.n1 (Ar.run .add .i64 p0 1) (p1 + 1) (fun i => bif Nat.blt i p1 then p2 (0 + i) else Ar.run .mul .i64 1000 (a1 (0 + Int.toNat p0))) (fun i => bif Nat.blt i p1 then p3 (0 + i) else Ar.run .mul .i64 1000 (a2 (0 + Int.toNat p0)))) [1, 2, 6])))))))
   (.leaf (.done (.r1 p1 a3 a4 (fun i => p2 i) (fun i => p3 i)) [3]))

noncomputable def afpA (a0 : Nat) (a1 a2 : Nat → Int) (a3 a4 : Int) : AF afpN afpR where
  code := afpCode
  base := 1
  nt := 32
  m := 400
  un := []
  W := []
  h0 := [(0, ⟨.arg a0 2 (fun i => [.int .i64 (.x (a1 i)), .int .i64 (.x (a2 i))]) (fun _ => ⟨rfl, rfl⟩), 2, true, none⟩)]
  args := [.agg [.sla 0 2 0 a0, .int .i64 (.x a3), .int .i64 (.x a4)]]
  res := (Try.f55).results.toList
  path := fun a => match a with
   | .n0 => [1, 1, 0, 1, 0]
   | .n1 p0 p1 p2 p3 => [1, 1, 0, 1, 0]
  pd := fun a => match a with
   | .n0 => ⟨[(2, .ptr (some (1, 0))), (3, .ptr (some (2, 0))), (12, .sla 0 2 0 a0), (13, .int .i64 (.x (↑a0))), (14, .int .i64 (.x 0))], [(1, ⟨.lit [.slc none 0 0, .int .i64 (.x 0), .int .i64 (.x 0)], 0, true, none⟩), (2, ⟨.lit [.slc none 0 0, .int .i64 (.x a3), .int .i64 (.x a4)], 0, true, none⟩)], 3, []⟩
   | .n1 p0 p1 p2 p3 => ⟨[(2, .ptr (some (1, 0))), (3, .ptr (some (2, 0))), (12, .sla 0 2 0 a0), (13, .int .i64 (.x (↑a0))), (14, .int .i64 (.x p0))], [(1, ⟨.lit [.slc none 0 0, .int .i64 (.x 0), .int .i64 (.x 0)], 0, true, none⟩), (2, ⟨.lit [.slx 3 2 0 p1 p1, .int .i64 (.x a3), .int .i64 (.x a4)], 0, true, none⟩), (3, ⟨.rows p1 2 (fun i => [.int .i64 (.x (p2 i)), .int .i64 (.x (p3 i))]) (fun _ => ⟨rfl, rfl⟩), 2, true, none⟩)], 4, []⟩
  D0 := afpD0 a0 a1 a2 a3 a4
  D := afpD a0 a1 a2 a3 a4
  rc := (fun v => match v with
 | .r0 p0 p1 => .agg [.slc none 0 0, .int .i64 (.x p0), .int .i64 (.x p1)]
 | .r1 p0 p1 p2 p3 p4 => .agg [.slx 1 2 0 p0 p0, .int .i64 (.x p1), .int .i64 (.x p2)])
  rh := (fun v => match v with
 | .r0 p0 p1 => []
 | .r1 p0 p1 p2 p3 p4 => [(1, ⟨.rows p0 2 (fun i => [.int .i64 (.x (p3 i)), .int .i64 (.x (p4 i))]) (fun _ => ⟨rfl, rfl⟩), 2, true, none⟩)])
  rn := (fun v => match v with
 | .r0 p0 p1 => 1
 | .r1 p0 p1 p2 p3 p4 => 2)
  rx := (fun v => match v with
 | .r0 p0 p1 => []
 | .r1 p0 p1 p2 p3 p4 => [])
  rgo := (fun _ => none)
theorem afpstart (a0 : Nat) (a1 a2 : Nat → Int) (a3 a4 : Int) : AF.edgeOk (afpA a0 a1 a2 a3 a4) (ctxOf Try.prog memo0) (afpD0 a0 a1 a2 a3 a4) (AF.run0 (afpA a0 a1 a2 a3 a4) (ctxOf Try.prog memo0)) := by unfold AF.edgeOk; kernel_rfl
theorem afpnode0 (a0 : Nat) (a1 a2 : Nat → Int) (a3 a4 : Int) : AF.edgeOk (afpA a0 a1 a2 a3 a4) (ctxOf Try.prog memo0) (afpD a0 a1 a2 a3 a4 (.n0)) (AF.runN (afpA a0 a1 a2 a3 a4) (ctxOf Try.prog memo0) (.n0)) := by unfold AF.edgeOk; kernel_rfl
theorem afpnode1 (a0 : Nat) (a1 a2 : Nat → Int) (a3 a4 p0 : Int) (p1 : Nat) (p2 p3 : Nat → Int) : AF.edgeOk (afpA a0 a1 a2 a3 a4) (ctxOf Try.prog memo0) (afpD a0 a1 a2 a3 a4 (.n1 p0 p1 p2 p3)) (AF.runN (afpA a0 a1 a2 a3 a4) (ctxOf Try.prog memo0) (.n1 p0 p1 p2 p3)) := by unfold AF.edgeOk; kernel_rfl
theorem afpok (a0 : Nat) (a1 a2 : Nat → Int) (a3 a4 : Int) : (afpA a0 a1 a2 a3 a4).Ok Try.prog (ctxOf Try.prog memo0) where
  regs := by kernel_rfl
  h0 := by kernel_rfl
  start := afpstart a0 a1 a2 a3 a4
  node := fun a _ => match a with
   | .n0 => afpnode0 a0 a1 a2 a3 a4
   | .n1 p0 p1 p2 p3 => afpnode1 a0 a1 a2 a3 a4 p0 p1 p2 p3
  pd := fun a => match a with
   | .n0 => ⟨(fa_cons rfl (fa_cons rfl (fa_cons rfl (fa_cons rfl (fa_cons rfl fa_nil))))), (fa_cons ⟨.inl (Nat.le_of_ble_eq_true rfl), rfl, rfl⟩ (fa_cons ⟨.inl (Nat.le_of_ble_eq_true rfl), rfl, rfl⟩ fa_nil)), fa_nil, rfl⟩
   | .n1 p0 p1 p2 p3 => ⟨(fa_cons rfl (fa_cons rfl (fa_cons rfl (fa_cons rfl (fa_cons rfl fa_nil))))), (fa_cons ⟨.inl (Nat.le_of_ble_eq_true rfl), rfl, rfl⟩ (fa_cons ⟨.inl (Nat.le_of_ble_eq_true rfl), rfl, rfl⟩ (fa_cons ⟨.inl (Nat.le_of_ble_eq_true rfl), (fun _ => rfl), rfl⟩ fa_nil))), fa_nil, rfl⟩
  le := fun a => match a with
   | .n0 => Nat.le_of_ble_eq_true rfl
   | .n1 p0 p1 p2 p3 => Nat.le_of_ble_eq_true rfl
  rd := fun v => match v with
   | .r0 p0 p1 => ⟨⟨fa_nil, fa_nil, fa_nil, rfl⟩, rfl⟩
   | .r1 p0 p1 p2 p3 p4 => ⟨⟨fa_nil, (fa_cons ⟨.inl (Nat.le_of_ble_eq_true rfl), (fun _ => rfl), rfl⟩ fa_nil), fa_nil, rfl⟩, rfl⟩
  wb := rfl
theorem afphR {ρ : Env} (a0 : Nat) (a1 a2 : Nat → Int) (a3 a4 : Int) (hM : MemoOk Try.prog (ctxOf Try.prog memo0) ρ) : ∀ X a q n D, FxOk ρ X → X.base = (afpA a0 a1 a2 a3 a4).base → X.nt = (afpA a0 a1 a2 a3 a4).nt → X.W = (afpA a0 a1 a2 a3 a4).W → (afpA a0 a1 a2 a3 a4).rgo a = some q → q n = some D → (afpA a0 a1 a2 a3 a4).RangeOk Try.prog ρ X a D := AF.noRange rfl
theorem afpctr {ρ : Env} (a0 : Nat) (a1 a2 : Nat → Int) (a3 a4 : Int) {n : Nat} {v : afpR} (hM : MemoOk Try.prog (ctxOf Try.prog memo0) ρ) (hv : (afpA a0 a1 a2 a3 a4).run n = some v) :
    Ctr Try.prog ρ 55 (afpA a0 a1 a2 a3 a4).args (afpA a0 a1 a2 a3 a4).H0 (afpA a0 a1 a2 a3 a4).base (afpA a0 a1 a2 a3 a4).W ((afpA a0 a1 a2 a3 a4).rc v) (putH (afpA a0 a1 a2 a3 a4).H0 ((afpA a0 a1 a2 a3 a4).rh v ++ (afpA a0 a1 a2 a3 a4).rx v)) ((afpA a0 a1 a2 a3 a4).rn v) :=
  AF.ctr try_ok hM (afpok a0 a1 a2 a3 a4) (fn := Try.f55) Try.func55 rfl rfl (Nat.le_of_ble_eq_true rfl) rfl (afphR a0 a1 a2 a3 a4 hM) hv
theorem afpmem {ρ : Env} : MemoOk Try.prog (ctxOf Try.prog memo0) ρ := memo0_ok
abbrev afpP : List AQ := [.agg [.rows [some .i64, some .i64], .int .i64, .int .i64]]
noncomputable def afpF (v : AW) : AF afpN afpR := afpA (v.t.getD 0 .none).n ((v.t.getD 0 .none).c 0) ((v.t.getD 0 .none).c 1) (v.i.getD 0 0) (v.i.getD 1 0)
def afpw0 : afpR → Nat
  | .r0 p0 p1 => 0
  | .r1 p0 p1 p2 p3 p4 => p0
def afpw1 : afpR → Int
  | .r0 p0 p1 => p0
  | .r1 p0 p1 p2 p3 p4 => p1
def afpw2 : afpR → Int
  | .r0 p0 p1 => p1
  | .r1 p0 p1 p2 p3 p4 => p2
def afpw3 : afpR → (Nat → Int)
  | .r0 p0 p1 => fun _ => 0
  | .r1 p0 p1 p2 p3 p4 => p3
def afpw4 : afpR → (Nat → Int)
  | .r0 p0 p1 => fun _ => 0
  | .r1 p0 p1 p2 p3 p4 => p4
noncomputable def afpW : afpR → CV := fun v => .agg [.sla 1 2 0 ((afpw0 v)), .int .i64 (.x ((afpw1 v))), .int .i64 (.x ((afpw2 v)))]
noncomputable def afpH : afpR → List (Nat × Blk) := fun v => [(1, ⟨.rows ((afpw0 v)) 2 (fun i => [.int .i64 (.x ((afpw3 v) i)), .int .i64 (.x ((afpw4 v) i))]) (fun _ => ⟨rfl, rfl⟩), 2, true, none⟩)]
instance : Inhabited afpR := ⟨.r0 0 0⟩
theorem afpknown {ρ : Env} (hM : MemoOk Try.prog (ctxOf Try.prog memo0) ρ) : KnownS Try.prog ρ 55 afpP afpF afpW afpH 2 where
  fn := ⟨Try.f55, Try.func55, rfl⟩
  le := Nat.le_of_ble_eq_true rfl
  full := fun r => rfl
  rg := fun r => rfl
  hg := fun r => (fa_cons ⟨fun _ => rfl, rfl⟩ fa_nil)
  ctr := fun v n r h => match r, h with
    | .r0 p0 p1, h => Ctr.weaken (afpctr (v.t.getD 0 .none).n ((v.t.getD 0 .none).c 0) ((v.t.getD 0 .none).c 1) (v.i.getD 0 0) (v.i.getD 1 0) hM h) (Nat.le_of_ble_eq_true rfl) (Nat.le_of_ble_eq_true rfl) (fun σ => (fun _ h => VR.agg_imp (VRl.cons_imp (fun _ h => h.nil_sla) (VRl.cons_imp (fun _ h => h) (VRl.cons_imp (fun _ h => h) VRl.nil_imp))) h)) (fun b h1 h2 => absurd (Nat.lt_of_le_of_lt h1 h2) (Nat.lt_irrefl _))
    | .r1 p0 p1 p2 p3 p4, h => Ctr.weaken (afpctr (v.t.getD 0 .none).n ((v.t.getD 0 .none).c 0) ((v.t.getD 0 .none).c 1) (v.i.getD 0 0) (v.i.getD 1 0) hM h) (Nat.le_of_ble_eq_true rfl) (Nat.le_of_ble_eq_true rfl) (fun σ => (fun _ h => VR.agg_imp (VRl.cons_imp (fun _ h => h.as_sla) (VRl.cons_imp (fun _ h => h) (VRl.cons_imp (fun _ h => h) VRl.nil_imp))) h)) (fun b h1 h2 => rfl)
end Go.Proofs.Ytjdldcmcjaaibaa.Cx

/- (acme/fit.mesh).shifts as an automaton. Made by tools/cxauto.py. -/
namespace Go.Proofs.Ytjdldcmcjaaibaa.Cx
set_option linter.unusedVariables false
set_option linter.unusedSimpArgs false
set_option maxRecDepth 100000
open Go Go.Proofs Go.RowKit
noncomputable abbrev ashCode : Code := funcCode Try.f65
noncomputable abbrev ashs0Code : Code := funcCode Try.f101
inductive ashs0N where
  | n0 (q0 q1 q2 : Int)
inductive ashs0R where
  | r0 (q0 q1 : Int)
noncomputable def ashs0D0 (a0 a1 : Int) (a2 : Nat) (a3 a4 : Nat → Int) (a5 a6 : Int) (a7 : Nat) (a8 a9 : Nat → Int) (a10 a11 a12 a13 a14 : Int) : DD (Lf ashs0N ashs0R) :=
 .leaf (.next (.n0 0 (-9223372036854775808) 9223372036854775807) [])

noncomputable def ashs0D (a0 a1 : Int) (a2 : Nat) (a3 a4 : Nat → Int) (a5 a6 : Int) (a7 : Nat) (a8 a9 : Nat → Int) (a10 a11 a12 a13 a14 : Int) : ashs0N → DD (Lf ashs0N ashs0R)
 | .n0 q0 q1 q2 =>
 let z0 := Ar.run .add .i64 a12 q0
 let z1 := Ar.run .add .i64 a13 q0
 .ask (Cm.run .lss q0 a14)
   (.must (decide (0 ≤ Ar.run .add .i64 a12 q0))
   (.must (decide (Ar.run .add .i64 a12 q0 < (↑a2 : Int)))
   (.must (decide (0 + Int.toNat z0 < a2))
   (.must (decide (0 ≤ Ar.run .add .i64 a13 q0))
   (.must (decide (Ar.run .add .i64 a13 q0 < (↑a7 : Int)))
   (.must (decide (0 + Int.toNat z1 < a7))
   (.leaf (.next (.n0 (Ar.run .add .i64 q0 1) (Ar.run .mx .i64 q1 (Ar.run .sub .i64 (a8 (0 + Int.toNat z1)) (a3 (0 + Int.toNat z0)))) (Ar.run .mn .i64 q2 (Ar.run .sub .i64 (a9 (0 + Int.toNat z1)) (a4 (0 + Int.toNat z0))))) []))))))))
   (.leaf (.done (.r0 q1 q2) []))

noncomputable def ashs0A (a0 a1 : Int) (a2 : Nat) (a3 a4 : Nat → Int) (a5 a6 : Int) (a7 : Nat) (a8 a9 : Nat → Int) (a10 a11 a12 a13 a14 : Int) : AF ashs0N ashs0R where
  code := ashs0Code
  base := 9
  nt := 32
  m := 400
  un := []
  W := [4, 5, 8]
  h0 := ((8, recB (mkT [(2, .ptr (some (2, 0))), (3, .ptr (some (3, 0))), (4, .ptr (some (4, 0))), (5, .ptr (some (5, 0))), (10, .fn (.func 101) [] [.ptr (some (6, 0)), .ptr (some (7, 0))])]) 49 (rgP (codeAt ashCode [1, 1, 0, 1, 0])) (rgA (codeAt ashCode [1, 1, 0, 1, 0])) (rgB (codeAt ashCode [1, 1, 0, 1, 0]))) :: (([(2, ⟨.lit [.int .i64 (.x a0), .int .i64 (.x a1), .sla 0 2 0 a2, .int .i64 (.x a5), .int .i64 (.x a6), .sla 1 2 0 a7, .int .i64 (.x a10), .int .i64 (.x a11)], 0, true, none⟩), (3, ⟨.lit [.int .i64 (.x a12), .int .i64 (.x a13), .int .i64 (.x a14)], 0, true, none⟩), (4, ⟨.lit [.int .i64 (.x (-9223372036854775808))], 0, true, none⟩), (5, ⟨.lit [.int .i64 (.x 9223372036854775807)], 0, true, none⟩), (6, ⟨.lit [.int .i64 (.x a12), .int .i64 (.x a13), .int .i64 (.x a14)], 0, true, none⟩), (7, ⟨.lit [.int .i64 (.x a0), .int .i64 (.x a1), .sla 0 2 0 a2, .int .i64 (.x a5), .int .i64 (.x a6), .sla 1 2 0 a7, .int .i64 (.x a10), .int .i64 (.x a11)], 0, true, none⟩)] ++ []) ++ [(0, ⟨.arg a2 2 (fun i => [.int .i64 (.x (a3 i)), .int .i64 (.x (a4 i))]) (fun _ => ⟨rfl, rfl⟩), 2, true, none⟩), (1, ⟨.arg a7 2 (fun i => [.int .i64 (.x (a8 i)), .int .i64 (.x (a9 i))]) (fun _ => ⟨rfl, rfl⟩), 2, true, none⟩)]))
  args := [.yld 8, .ptr (some (6, 0)), .ptr (some (7, 0))]
  res := (Try.f101).results.toList
  path := fun a => match a with
   | .n0 q0 q1 q2 => [1, 0]
  pd := fun a => match a with
   | .n0 q0 q1 q2 => ⟨[(0, .yld 8), (1, .ptr (some (6, 0))), (2, .ptr (some (7, 0))), (6, .int .i64 (.x a14)), (7, .int .i64 (.x q0))], [(4, ⟨.lit [.int .i64 (.x q1)], 0, true, none⟩), (5, ⟨.lit [.int .i64 (.x q2)], 0, true, none⟩)], 9, [(8, recS (mkT [(2, .ptr (some (2, 0))), (3, .ptr (some (3, 0))), (4, .ptr (some (4, 0))), (5, .ptr (some (5, 0))), (10, .fn (.func 101) [] [.ptr (some (6, 0)), .ptr (some (7, 0))])]) 49 (rgP (codeAt ashCode [1, 1, 0, 1, 0])) (rgA (codeAt ashCode [1, 1, 0, 1, 0])) (rgB (codeAt ashCode [1, 1, 0, 1, 0])) (.ready) (.none))]⟩
  D0 := ashs0D0 a0 a1 a2 a3 a4 a5 a6 a7 a8 a9 a10 a11 a12 a13 a14
  D := ashs0D a0 a1 a2 a3 a4 a5 a6 a7 a8 a9 a10 a11 a12 a13 a14
  rc := (fun v => match v with
 | .r0 q0 q1 => .tup [])
  rh := (fun v => match v with
 | .r0 q0 q1 => [(4, ⟨.lit [.int .i64 (.x q0)], 0, true, none⟩), (5, ⟨.lit [.int .i64 (.x q1)], 0, true, none⟩)])
  rn := (fun v => match v with
 | .r0 q0 q1 => 9)
  rx := (fun v => match v with
 | .r0 q0 q1 => [(8, recS (mkT [(2, .ptr (some (2, 0))), (3, .ptr (some (3, 0))), (4, .ptr (some (4, 0))), (5, .ptr (some (5, 0))), (10, .fn (.func 101) [] [.ptr (some (6, 0)), .ptr (some (7, 0))])]) 49 (rgP (codeAt ashCode [1, 1, 0, 1, 0])) (rgA (codeAt ashCode [1, 1, 0, 1, 0])) (rgB (codeAt ashCode [1, 1, 0, 1, 0])) (.ready) (.none))])
  rgo := (fun _ => none)
theorem ashs0start (a0 a1 : Int) (a2 : Nat) (a3 a4 : Nat → Int) (a5 a6 : Int) (a7 : Nat) (a8 a9 : Nat → Int) (a10 a11 a12 a13 a14 : Int) : AF.edgeOk (ashs0A a0 a1 a2 a3 a4 a5 a6 a7 a8 a9 a10 a11 a12 a13 a14) (ctxOf Try.prog memo0) (ashs0D0 a0 a1 a2 a3 a4 a5 a6 a7 a8 a9 a10 a11 a12 a13 a14) (AF.run0 (ashs0A a0 a1 a2 a3 a4 a5 a6 a7 a8 a9 a10 a11 a12 a13 a14) (ctxOf Try.prog memo0)) := by unfold AF.edgeOk; kernel_rfl
theorem ashs0node0 (a0 a1 : Int) (a2 : Nat) (a3 a4 : Nat → Int) (a5 a6 : Int) (a7 : Nat) (a8 a9 : Nat → Int) (a10 a11 a12 a13 a14 q0 q1 q2 : Int) : AF.edgeOk (ashs0A a0 a1 a2 a3 a4 a5 a6 a7 a8 a9 a10 a11 a12 a13 a14) (ctxOf Try.prog memo0) (ashs0D a0 a1 a2 a3 a4 a5 a6 a7 a8 a9 a10 a11 a12 a13 a14 (.n0 q0 q1 q2)) (AF.runN (ashs0A a0 a1 a2 a3 a4 a5 a6 a7 a8 a9 a10 a11 a12 a13 a14) (ctxOf Try.prog memo0) (.n0 q0 q1 q2)) := by unfold AF.edgeOk; kernel_rfl
theorem ashs0ok (a0 a1 : Int) (a2 : Nat) (a3 a4 : Nat → Int) (a5 a6 : Int) (a7 : Nat) (a8 a9 : Nat → Int) (a10 a11 a12 a13 a14 : Int) : (ashs0A a0 a1 a2 a3 a4 a5 a6 a7 a8 a9 a10 a11 a12 a13 a14).Ok Try.prog (ctxOf Try.prog memo0) where
  regs := by kernel_rfl
  h0 := by kernel_rfl
  start := ashs0start a0 a1 a2 a3 a4 a5 a6 a7 a8 a9 a10 a11 a12 a13 a14
  node := fun a _ => match a with
   | .n0 q0 q1 q2 => ashs0node0 a0 a1 a2 a3 a4 a5 a6 a7 a8 a9 a10 a11 a12 a13 a14 q0 q1 q2
  pd := fun a => match a with
   | .n0 q0 q1 q2 => ⟨(fa_cons rfl (fa_cons rfl (fa_cons rfl (fa_cons rfl (fa_cons rfl fa_nil))))), (fa_cons ⟨.inr (memW rfl), rfl, rfl⟩ (fa_cons ⟨.inr (memW rfl), rfl, rfl⟩ fa_nil)), (fa_cons ⟨memW rfl, RecOk.of rfl⟩ fa_nil), rfl⟩
  le := fun a => match a with
   | .n0 q0 q1 q2 => Nat.le_of_ble_eq_true rfl
  rd := fun v => match v with
   | .r0 q0 q1 => ⟨⟨fa_nil, (fa_cons ⟨.inr (memW rfl), rfl, rfl⟩ (fa_cons ⟨.inr (memW rfl), rfl, rfl⟩ fa_nil)), (fa_cons ⟨memW rfl, RecOk.of rfl⟩ fa_nil), rfl⟩, rfl⟩
  wb := rfl
theorem ashs0hR {ρ : Env} (a0 a1 : Int) (a2 : Nat) (a3 a4 : Nat → Int) (a5 a6 : Int) (a7 : Nat) (a8 a9 : Nat → Int) (a10 a11 a12 a13 a14 : Int) (hM : MemoOk Try.prog (ctxOf Try.prog memo0) ρ) : ∀ X a q n D, FxOk ρ X → X.base = (ashs0A a0 a1 a2 a3 a4 a5 a6 a7 a8 a9 a10 a11 a12 a13 a14).base → X.nt = (ashs0A a0 a1 a2 a3 a4 a5 a6 a7 a8 a9 a10 a11 a12 a13 a14).nt → X.W = (ashs0A a0 a1 a2 a3 a4 a5 a6 a7 a8 a9 a10 a11 a12 a13 a14).W → (ashs0A a0 a1 a2 a3 a4 a5 a6 a7 a8 a9 a10 a11 a12 a13 a14).rgo a = some q → q n = some D → (ashs0A a0 a1 a2 a3 a4 a5 a6 a7 a8 a9 a10 a11 a12 a13 a14).RangeOk Try.prog ρ X a D := AF.noRange rfl
inductive ashN where
  | n0
abbrev ashR := Int × Int
noncomputable def ashD0 (a0 a1 : Int) (a2 : Nat) (a3 a4 : Nat → Int) (a5 a6 : Int) (a7 : Nat) (a8 a9 : Nat → Int) (a10 a11 a12 a13 a14 : Int) : DD (Lf ashN ashR) :=
 .leaf (.next (.n0) [2, 3, 4, 5, 7, 6])

noncomputable def ashD (a0 a1 : Int) (a2 : Nat) (a3 a4 : Nat → Int) (a5 a6 : Int) (a7 : Nat) (a8 a9 : Nat → Int) (a10 a11 a12 a13 a14 : Int) : ashN → DD (Lf ashN ashR)
 | .n0 =>
 .dead

noncomputable def ashRg0 (a0 a1 : Int) (a2 : Nat) (a3 a4 : Nat → Int) (a5 a6 : Int) (a7 : Nat) (a8 a9 : Nat → Int) (a10 a11 a12 a13 a14 : Int) : ashs0R → DD (Lf ashN ashR)
 | .r0 q0 q1 =>
 let z0 := Ar.run .sub .i64 a10 a5
 let z1 := Ar.run .sub .i64 a11 a6
 .leaf (.done (Ar.run .add .i64 q0 (Ar.run .mx .i64 (Ar.run .mul .i64 a0 z0) (Ar.run .mul .i64 a1 z0)), Ar.run .sub .i64 q1 (Ar.run .mx .i64 (Ar.run .mul .i64 a0 z1) (Ar.run .mul .i64 a1 z1))) [])

noncomputable def ashA (a0 a1 : Int) (a2 : Nat) (a3 a4 : Nat → Int) (a5 a6 : Int) (a7 : Nat) (a8 a9 : Nat → Int) (a10 a11 a12 a13 a14 : Int) : AF ashN ashR where
  code := ashCode
  base := 2
  nt := 49
  m := 400
  un := [1000003]
  W := []
  h0 := [(0, ⟨.arg a2 2 (fun i => [.int .i64 (.x (a3 i)), .int .i64 (.x (a4 i))]) (fun _ => ⟨rfl, rfl⟩), 2, true, none⟩), (1, ⟨.arg a7 2 (fun i => [.int .i64 (.x (a8 i)), .int .i64 (.x (a9 i))]) (fun _ => ⟨rfl, rfl⟩), 2, true, none⟩)]
  args := [.agg [.int .i64 (.x a0), .int .i64 (.x a1), .sla 0 2 0 a2, .int .i64 (.x a5), .int .i64 (.x a6), .sla 1 2 0 a7, .int .i64 (.x a10), .int .i64 (.x a11)], .agg [.int .i64 (.x a12), .int .i64 (.x a13), .int .i64 (.x a14)]]
  res := (Try.f65).results.toList
  path := fun a => match a with
   | .n0 => [1, 1, 0, 1, 0]
  pd := fun a => match a with
   | .n0 => ⟨[(2, .ptr (some (2, 0))), (3, .ptr (some (3, 0))), (4, .ptr (some (4, 0))), (5, .ptr (some (5, 0))), (10, .fn (.func 101) [] [.ptr (some (6, 0)), .ptr (some (7, 0))])], [(2, ⟨.lit [.int .i64 (.x a0), .int .i64 (.x a1), .sla 0 2 0 a2, .int .i64 (.x a5), .int .i64 (.x a6), .sla 1 2 0 a7, .int .i64 (.x a10), .int .i64 (.x a11)], 0, true, none⟩), (3, ⟨.lit [.int .i64 (.x a12), .int .i64 (.x a13), .int .i64 (.x a14)], 0, true, none⟩), (4, ⟨.lit [.int .i64 (.x (-9223372036854775808))], 0, true, none⟩), (5, ⟨.lit [.int .i64 (.x 9223372036854775807)], 0, true, none⟩), (6, ⟨.lit [.int .i64 (.x a12), .int .i64 (.x a13), .int .i64 (.x a14)], 0, true, none⟩), (7, ⟨.lit [.int .i64 (.x a0), .int .i64 (.x a1), .sla 0 2 0 a2, .int .i64 (.x a5), .int .i64 (.x a6), .sla 1 2 0 a7, .int .i64 (.x a10), .int .i64 (.x a11)], 0, true, none⟩)], 8, []⟩
  D0 := ashD0 a0 a1 a2 a3 a4 a5 a6 a7 a8 a9 a10 a11 a12 a13 a14
  D := ashD a0 a1 a2 a3 a4 a5 a6 a7 a8 a9 a10 a11 a12 a13 a14
  rc := (fun v => .tup [.int .i64 (.x v.1), .int .i64 (.x v.2)])
  rh := (fun v => [])
  rn := (fun v => 2)
  rx := (fun v => [])
  rgo := (fun a => match a with
   | .n0 => some (fun n => (AF.run (ashs0A a0 a1 a2 a3 a4 a5 a6 a7 a8 a9 a10 a11 a12 a13 a14) n).map (ashRg0 a0 a1 a2 a3 a4 a5 a6 a7 a8 a9 a10 a11 a12 a13 a14)))
theorem ashstart (a0 a1 : Int) (a2 : Nat) (a3 a4 : Nat → Int) (a5 a6 : Int) (a7 : Nat) (a8 a9 : Nat → Int) (a10 a11 a12 a13 a14 : Int) : AF.edgeOk (ashA a0 a1 a2 a3 a4 a5 a6 a7 a8 a9 a10 a11 a12 a13 a14) (ctxOf Try.prog memo0) (ashD0 a0 a1 a2 a3 a4 a5 a6 a7 a8 a9 a10 a11 a12 a13 a14) (AF.run0 (ashA a0 a1 a2 a3 a4 a5 a6 a7 a8 a9 a10 a11 a12 a13 a14) (ctxOf Try.prog memo0)) := by unfold AF.edgeOk; kernel_rfl
theorem ashok (a0 a1 : Int) (a2 : Nat) (a3 a4 : Nat → Int) (a5 a6 : Int) (a7 : Nat) (a8 a9 : Nat → Int) (a10 a11 a12 a13 a14 : Int) : (ashA a0 a1 a2 a3 a4 a5 a6 a7 a8 a9 a10 a11 a12 a13 a14).Ok Try.prog (ctxOf Try.prog memo0) where
  regs := by kernel_rfl
  h0 := by kernel_rfl
  start := ashstart a0 a1 a2 a3 a4 a5 a6 a7 a8 a9 a10 a11 a12 a13 a14
  node := fun a h => match a, h with
   | .n0, h => someNe h
  pd := fun a => match a with
   | .n0 => ⟨(fa_cons rfl (fa_cons rfl (fa_cons rfl (fa_cons rfl (fa_cons rfl fa_nil))))), (fa_cons ⟨.inl (Nat.le_of_ble_eq_true rfl), rfl, rfl⟩ (fa_cons ⟨.inl (Nat.le_of_ble_eq_true rfl), rfl, rfl⟩ (fa_cons ⟨.inl (Nat.le_of_ble_eq_true rfl), rfl, rfl⟩ (fa_cons ⟨.inl (Nat.le_of_ble_eq_true rfl), rfl, rfl⟩ (fa_cons ⟨.inl (Nat.le_of_ble_eq_true rfl), rfl, rfl⟩ (fa_cons ⟨.inl (Nat.le_of_ble_eq_true rfl), rfl, rfl⟩ fa_nil)))))), fa_nil, rfl⟩
  le := fun a => match a with
   | .n0 => Nat.le_of_ble_eq_true rfl
  rd := fun v => ⟨⟨fa_nil, fa_nil, fa_nil, rfl⟩, rfl⟩
  wb := rfl
theorem ashrg0_0 (a0 a1 : Int) (a2 : Nat) (a3 a4 : Nat → Int) (a5 a6 : Int) (a7 : Nat) (a8 a9 : Nat → Int) (a10 a11 a12 a13 a14 q0 q1 : Int) : AF.edgeOk (ashA a0 a1 a2 a3 a4 a5 a6 a7 a8 a9 a10 a11 a12 a13 a14) (ctxOf Try.prog memo0) (ashRg0 a0 a1 a2 a3 a4 a5 a6 a7 a8 a9 a10 a11 a12 a13 a14 (.r0 q0 q1)) (AF.runR (ashA a0 a1 a2 a3 a4 a5 a6 a7 a8 a9 a10 a11 a12 a13 a14) (ctxOf Try.prog memo0) (.n0) (putH (ashs0A a0 a1 a2 a3 a4 a5 a6 a7 a8 a9 a10 a11 a12 a13 a14).H0 ((ashs0A a0 a1 a2 a3 a4 a5 a6 a7 a8 a9 a10 a11 a12 a13 a14).rh (.r0 q0 q1) ++ (ashs0A a0 a1 a2 a3 a4 a5 a6 a7 a8 a9 a10 a11 a12 a13 a14).rx (.r0 q0 q1))) ((ashs0A a0 a1 a2 a3 a4 a5 a6 a7 a8 a9 a10 a11 a12 a13 a14).rn (.r0 q0 q1)) ⟨mkT [(2, .ptr (some (2, 0))), (3, .ptr (some (3, 0))), (4, .ptr (some (4, 0))), (5, .ptr (some (5, 0))), (10, .fn (.func 101) [] [.ptr (some (6, 0)), .ptr (some (7, 0))])], 49, rgP (codeAt ashCode [1, 1, 0, 1, 0]), rgA (codeAt ashCode [1, 1, 0, 1, 0]), rgB (codeAt ashCode [1, 1, 0, 1, 0]), .ready, .none⟩ .normal) := by unfold AF.edgeOk; kernel_rfl
theorem ashrg0 (a0 a1 : Int) (a2 : Nat) (a3 a4 : Nat → Int) (a5 a6 : Int) (a7 : Nat) (a8 a9 : Nat → Int) (a10 a11 a12 a13 a14 : Int) : AF.Rg (ashA a0 a1 a2 a3 a4 a5 a6 a7 a8 a9 a10 a11 a12 a13 a14) (ashs0A a0 a1 a2 a3 a4 a5 a6 a7 a8 a9 a10 a11 a12 a13 a14) Try.prog (ctxOf Try.prog memo0) (ctxOf Try.prog memo0) (.n0) (rgF (codeAt ashCode [1, 1, 0, 1, 0])) (rgP (codeAt ashCode [1, 1, 0, 1, 0])) (rgA (codeAt ashCode [1, 1, 0, 1, 0])) (rgB (codeAt ashCode [1, 1, 0, 1, 0])) 101 Try.f101 [] [.ptr (some (6, 0)), .ptr (some (7, 0))] (fun v => match v with
   | .r0 q0 q1 => ⟨mkT [(2, .ptr (some (2, 0))), (3, .ptr (some (3, 0))), (4, .ptr (some (4, 0))), (5, .ptr (some (5, 0))), (10, .fn (.func 101) [] [.ptr (some (6, 0)), .ptr (some (7, 0))])], 49, rgP (codeAt ashCode [1, 1, 0, 1, 0]), rgA (codeAt ashCode [1, 1, 0, 1, 0]), rgB (codeAt ashCode [1, 1, 0, 1, 0]), .ready, .none⟩) (fun v => match v with
   | .r0 q0 q1 => .normal) (ashRg0 a0 a1 a2 a3 a4 a5 a6 a7 a8 a9 a10 a11 a12 a13 a14) where
  code := by kernel_rfl
  fn := by kernel_rfl
  args := rfl
  base := rfl
  h0 := rfl
  W := rfl
  gfn := Try.func101
  body := rfl
  nt := rfl
  len := Nat.le_of_ble_eq_true rfl
  res := rfl
  ok := ashs0ok a0 a1 a2 a3 a4 a5 a6 a7 a8 a9 a10 a11 a12 a13 a14
  le := fun v => match v with
   | .r0 q0 q1 => Nat.le_of_ble_eq_true rfl
  lt := fun v => match v with
   | .r0 q0 q1 => rfl
  rcd := fun v => match v with
   | .r0 q0 q1 => rfl
  st := fun v => match v with
   | .r0 q0 q1 => (fun h => LoopState.noConfusion h)
  exd := fun v => match v with
   | .r0 q0 q1 => rfl
  D := fun v => match v with
   | .r0 q0 q1 => ashrg0_0 a0 a1 a2 a3 a4 a5 a6 a7 a8 a9 a10 a11 a12 a13 a14 q0 q1
theorem ashhR {ρ : Env} (a0 a1 : Int) (a2 : Nat) (a3 a4 : Nat → Int) (a5 a6 : Int) (a7 : Nat) (a8 a9 : Nat → Int) (a10 a11 a12 a13 a14 : Int) (hM : MemoOk Try.prog (ctxOf Try.prog memo0) ρ) : ∀ X a q n D, FxOk ρ X → X.base = (ashA a0 a1 a2 a3 a4 a5 a6 a7 a8 a9 a10 a11 a12 a13 a14).base → X.nt = (ashA a0 a1 a2 a3 a4 a5 a6 a7 a8 a9 a10 a11 a12 a13 a14).nt → X.W = (ashA a0 a1 a2 a3 a4 a5 a6 a7 a8 a9 a10 a11 a12 a13 a14).W → (ashA a0 a1 a2 a3 a4 a5 a6 a7 a8 a9 a10 a11 a12 a13 a14).rgo a = some q → q n = some D → (ashA a0 a1 a2 a3 a4 a5 a6 a7 a8 a9 a10 a11 a12 a13 a14).RangeOk Try.prog ρ X a D := by
  intro X a q n D h1 h2 h3 h4 hq hD
  cases a with
  | n0 =>
    have e := Option.some.inj hq
    subst e
    exact AF.range_ok (n := n) try_ok hM hM (ashok a0 a1 a2 a3 a4 a5 a6 a7 a8 a9 a10 a11 a12 a13 a14) (ashrg0 a0 a1 a2 a3 a4 a5 a6 a7 a8 a9 a10 a11 a12 a13 a14) (ashs0hR a0 a1 a2 a3 a4 a5 a6 a7 a8 a9 a10 a11 a12 a13 a14 hM) h1 h2 h3 h4 hD
theorem ashctr {ρ : Env} (a0 a1 : Int) (a2 : Nat) (a3 a4 : Nat → Int) (a5 a6 : Int) (a7 : Nat) (a8 a9 : Nat → Int) (a10 a11 a12 a13 a14 : Int) {n : Nat} {v : ashR} (hM : MemoOk Try.prog (ctxOf Try.prog memo0) ρ) (hv : (ashA a0 a1 a2 a3 a4 a5 a6 a7 a8 a9 a10 a11 a12 a13 a14).run n = some v) :
    Ctr Try.prog ρ 65 (ashA a0 a1 a2 a3 a4 a5 a6 a7 a8 a9 a10 a11 a12 a13 a14).args (ashA a0 a1 a2 a3 a4 a5 a6 a7 a8 a9 a10 a11 a12 a13 a14).H0 (ashA a0 a1 a2 a3 a4 a5 a6 a7 a8 a9 a10 a11 a12 a13 a14).base (ashA a0 a1 a2 a3 a4 a5 a6 a7 a8 a9 a10 a11 a12 a13 a14).W ((ashA a0 a1 a2 a3 a4 a5 a6 a7 a8 a9 a10 a11 a12 a13 a14).rc v) (putH (ashA a0 a1 a2 a3 a4 a5 a6 a7 a8 a9 a10 a11 a12 a13 a14).H0 ((ashA a0 a1 a2 a3 a4 a5 a6 a7 a8 a9 a10 a11 a12 a13 a14).rh v ++ (ashA a0 a1 a2 a3 a4 a5 a6 a7 a8 a9 a10 a11 a12 a13 a14).rx v)) ((ashA a0 a1 a2 a3 a4 a5 a6 a7 a8 a9 a10 a11 a12 a13 a14).rn v) :=
  AF.ctr try_ok hM (ashok a0 a1 a2 a3 a4 a5 a6 a7 a8 a9 a10 a11 a12 a13 a14) (fn := Try.f65) Try.func65 rfl rfl (Nat.le_of_ble_eq_true rfl) rfl (ashhR a0 a1 a2 a3 a4 a5 a6 a7 a8 a9 a10 a11 a12 a13 a14 hM) hv
theorem ashmem {ρ : Env} : MemoOk Try.prog (ctxOf Try.prog memo0) ρ := memo0_ok
abbrev ashP : List AQ := [.agg [.int .i64, .int .i64, .rows [some .i64, some .i64], .int .i64, .int .i64, .rows [some .i64, some .i64], .int .i64, .int .i64], .agg [.int .i64, .int .i64, .int .i64]]
noncomputable def ashF (v : AW) : AF ashN ashR := ashA (v.i.getD 0 0) (v.i.getD 1 0) (v.t.getD 0 .none).n ((v.t.getD 0 .none).c 0) ((v.t.getD 0 .none).c 1) (v.i.getD 2 0) (v.i.getD 3 0) (v.t.getD 1 .none).n ((v.t.getD 1 .none).c 0) ((v.t.getD 1 .none).c 1) (v.i.getD 4 0) (v.i.getD 5 0) (v.i.getD 6 0) (v.i.getD 7 0) (v.i.getD 8 0)
noncomputable def ashW : ashR → CV := fun v => .tup [.int .i64 (.x v.1), .int .i64 (.x v.2)]
noncomputable def ashH : ashR → List (Nat × Blk) := fun v => []
instance : Inhabited ashR := ⟨(0, 0)⟩
theorem ashknown {ρ : Env} (hM : MemoOk Try.prog (ctxOf Try.prog memo0) ρ) : KnownS Try.prog ρ 65 ashP ashF ashW ashH 2 where
  fn := ⟨Try.f65, Try.func65, rfl⟩
  le := Nat.le_of_ble_eq_true rfl
  full := fun r => rfl
  rg := fun r => rfl
  hg := fun r => fa_nil
  ctr := fun v n r h => ashctr (v.i.getD 0 0) (v.i.getD 1 0) (v.t.getD 0 .none).n ((v.t.getD 0 .none).c 0) ((v.t.getD 0 .none).c 1) (v.i.getD 2 0) (v.i.getD 3 0) (v.t.getD 1 .none).n ((v.t.getD 1 .none).c 0) ((v.t.getD 1 .none).c 1) (v.i.getD 4 0) (v.i.getD 5 0) (v.i.getD 6 0) (v.i.getD 7 0) (v.i.getD 8 0) hM h
end Go.Proofs.Ytjdldcmcjaaibaa.Cx

/- Package fit: inOrder, Check, pieceOf; the flanks' shifts. -/
namespace Go.Proofs.Ytjdldcmcjaaibaa.Cx
set_option linter.unusedVariables false
set_option linter.unusedSimpArgs false
set_option maxRecDepth 100000
set_option maxHeartbeats 4000000
open Go Go.RowKit
section
variable {a0 : Nat} {a1 a2 : Nat → Int} {a3 a4 : Int}
theorem afo__val (hn : a0 ≤ 10000) : AF.fin (afo_A a0 a1 a2) = true ∧ (AF.val (afo_A a0 a1 a2) = true ∧ OrdP a0 a1 a2 ∨ AF.val (afo_A a0 a1 a2) = false ∧ ¬ OrdP a0 a1 a2) := by
  refine AF.val_sat (E := fun v => v = true ∧ OrdP a0 a1 a2 ∨ v = false ∧ ¬ OrdP a0 a1 a2) (Inv := fun b => match b with | .n0 p0 p1 => 0 ≤ p1 ∧ OrdTo a0 a1 a2 p1.toNat p0) (fun b => match b with | .n0 p0 p1 => (a0 - p1).toNat) (fun _ => rfl) (fun a hI => ?_) ?_
  · cases a with
    | n0 p0 p1 =>
      obtain ⟨g0, g1⟩ := hI
      have gl := g1.le
      show DD.sat _ _ (afo_D a0 a1 a2 (.n0 p0 p1))
      unfold afo_D
      have e1 : p1 < a0 → Ar.run .add .i64 p1 1 = p1 + 1 := fun h => arAdd (by omega)
      simp only [DD.sat, Nat.zero_add, cmLss, cmLssF, cmLeq, cmLeqF, decide_eq_true_eq]
      refine ⟨fun hp => ⟨g0, hp, by omega, fun h1 => .inr ⟨trivial, g1.low_bad (by omega) h1⟩, fun h1 => ⟨fun h2 => .inr ⟨trivial, OrdP.bad (k := p1.toNat) (by omega) (by omega)⟩, fun h2 => ⟨⟨?_, ?_⟩, ?_⟩⟩⟩, fun hp => ⟨fun h1 => .inl ⟨trivial, ?_⟩, fun h1 => .inr ⟨trivial, ?_⟩⟩⟩
      · rw [e1 hp]; omega
      · rw [e1 hp, show (p1 + 1).toNat = p1.toNat + 1 by omega]
        exact g1.next (by omega) (by omega) (by omega)
      · rw [e1 hp]; omega
      · rw [show p1.toNat = a0 by omega] at g1
        exact g1.done h1
      · rw [show p1.toNat = a0 by omega] at g1
        exact g1.high (by omega)
  · show 0 ≤ (0 : Int) ∧ OrdTo a0 a1 a2 0 (-10000000)
    exact ⟨by omega, OrdTo.start _ _ _⟩
theorem afc_val : AF.fin (afcA a0 a1 a2 a3 a4) = true ∧ CkT a0 a1 a2 a3 a4 (AF.val (afcA a0 a1 a2 a3 a4)) := by
  refine flat_val (E := CkT a0 a1 a2 a3 a4) (fun _ => rfl) ?_
  show DD.sat _ _ (afcD0 a0 a1 a2 a3 a4)
  by_cases hn : a0 > 60
  · unfold afcD0
    simp only [DD.sat, cmGtr, cmGtrF]
    exact ⟨fun _ => .inl ⟨by omega, rfl⟩, fun h => by omega⟩
  · have bad : ¬ ThOk a0 a1 a2 a3 a4 → CkT a0 a1 a2 a3 a4 2 := fun h => .inr ⟨by omega, .inr ⟨h, rfl⟩⟩
    have ok : ThOk a0 a1 a2 a3 a4 → CkT a0 a1 a2 a3 a4 0 := fun h => .inr ⟨by omega, .inl ⟨h, rfl⟩⟩
    have b1 : a0 = 0 → CkT a0 a1 a2 a3 a4 2 := fun e => bad fun h => by have := h.some; omega
    have b2 : a3 < 0 ∨ 3000 < a3 ∨ a4 < 0 ∨ 3000 < a4 → CkT a0 a1 a2 a3 a4 2 := fun e => bad fun h => by have := h.left; have := h.right; omega
    obtain ⟨of, ⟨ov, oP⟩ | ⟨ov, oP⟩⟩ := afo__val (a0 := a0) (a1 := a1) (a2 := a2) (by omega)
    all_goals
      have of' : AF.fin (afo_A a0 (fun i => a1 i) (fun i => a2 i)) = true := of
      have ov' : AF.val (afo_A a0 (fun i => a1 i) (fun i => a2 i)) = _ := ov
      unfold afcD0
      simp only [DD.sat, Nat.zero_add, cmLss, cmLssF, cmLeq, cmLeqF, cmGtr, cmGtrF, cmGeq, cmGeqF, cmEql, cmEqlF, cmNeq, cmNeqF, decide_eq_true_eq, ov', of', Bool.not_true, Bool.not_false, reduceCtorEq, Bool.false_eq_true, false_imp_iff, forall_const, true_and, and_true]
    · have b3 : ¬ (a3 < 0) → ¬ (a3 > 3000) → ¬ (a4 < 0) → ¬ (a4 > 3000) → ¬ (a0 : Int) = 0 → CkT a0 a1 a2 a3 a4 0 := fun h1 h2 h3 h4 h5 => ok ⟨by omega, by omega, oP, by omega, by omega⟩
      repeat' (first
      | exact Nat.le_refl _
      | exact shape_ok fun i _ => rfl
      | assumption
      | trivial
      | (exact b1 (by omega))
      | (exact b2 (by omega))
      | (exact b3 (by omega) (by omega) (by omega) (by omega) (by omega))
      | (intro hx; first | (exfalso; omega) | skip)
      | apply And.intro
      | omega)
    · have b3 : CkT a0 a1 a2 a3 a4 2 := bad fun h => oP h.ord
      repeat' (first
      | exact Nat.le_refl _
      | exact shape_ok fun i _ => rfl
      | assumption
      | trivial
      | (intro hx; first | (exfalso; omega) | skip)
      | apply And.intro
      | omega)
/-- What pieceOf yields. -/
def PcE (a0 : Nat) (a1 a2 : Nat → Int) (a3 a4 : Int) (v : afpR) : Prop := afpw0 v = a0 ∧ afpw1 v = a3 ∧ afpw2 v = a4 ∧ ∀ i : Nat, i < a0 → afpw3 v i = 1000 * a1 i ∧ afpw4 v i = 1000 * a2 i
theorem afp_val (hn : a0 ≤ 60) (h : ∀ i : Nat, i < a0 → -10000000 ≤ a1 i ∧ a1 i ≤ 10000000 ∧ -10000000 ≤ a2 i ∧ a2 i ≤ 10000000) : AF.fin (afpA a0 a1 a2 a3 a4) = true ∧ PcE a0 a1 a2 a3 a4 (AF.val (afpA a0 a1 a2 a3 a4)) := by
  refine AF.val_sat (E := PcE a0 a1 a2 a3 a4) (Inv := fun b => match b with | .n0 => True | .n1 p0 p1 p2 p3 => p0 = p1 ∧ 1 ≤ p1 ∧ p1 ≤ a0 ∧ ∀ i : Nat, i < p1 → p2 i = 1000 * a1 i ∧ p3 i = 1000 * a2 i) (fun b => match b with | .n0 => a0 + 1 | .n1 p0 p1 p2 p3 => (a0 - p0).toNat) (fun _ => rfl) (fun a hI => ?_) ?_
  · cases a with
    | n0 =>
      show DD.sat _ _ (afpD a0 a1 a2 a3 a4 .n0)
      unfold afpD
      simp only [DD.sat, Nat.zero_add, cmLss, cmLssF, decide_eq_true_eq, Int.toNat_zero]
      refine ⟨fun hp => ⟨trivial, hp, by omega, ⟨by omega, by omega, by omega, fun i hi => ?_⟩, by omega⟩, fun hp => ⟨?_, rfl, rfl, fun i hi => by omega⟩⟩
      · obtain rfl : i = 0 := by omega
        have := h 0 (by omega)
        exact ⟨arMul (by omega), arMul (by omega)⟩
      · show 0 = a0
        omega
    | n1 p0 p1 p2 p3 =>
      obtain ⟨rfl, g1, g2, g3⟩ := hI
      show DD.sat _ _ (afpD a0 a1 a2 a3 a4 (.n1 p1 p1 p2 p3))
      unfold afpD
      have e1 : Ar.run .add .i64 (p1 : Int) 1 = p1 + 1 := arAdd (by omega)
      simp only [DD.sat, Nat.zero_add, cmLss, cmLssF, decide_eq_true_eq, Int.toNat_natCast, e1]
      refine ⟨fun hp => ⟨by omega, hp, by omega, Nat.le_refl _, by omega, ⟨by omega, by omega, by omega, fun i hi => ?_⟩, by omega⟩, fun hp => ⟨?_, rfl, rfl, fun i hi => g3 i (by omega)⟩⟩
      · rcases Nat.lt_or_ge i p1 with g | g
        · rw [show Nat.blt i p1 = true by rw [Nat.blt_eq]; exact g]
          exact g3 i g
        · obtain rfl : i = p1 := by omega
          rw [show Nat.blt i i = false by rw [Bool.eq_false_iff]; intro h; rw [Nat.blt_eq] at h; omega]
          have := h i (by omega)
          exact ⟨arMul (by omega), arMul (by omega)⟩
      · show p1 = a0
        omega
  · show DD.sat _ _ (afpD0 a0 a1 a2 a3 a4)
    exact trivial
end
end Go.Proofs.Ytjdldcmcjaaibaa.Cx

/- Package fit: the shifts of a step. -/
namespace Go.Proofs.Ytjdldcmcjaaibaa.Cx
set_option linter.unusedVariables false
set_option linter.unusedSimpArgs false
set_option maxRecDepth 100000
set_option maxHeartbeats 4000000
open Go Go.RowKit
/-- By how much a flank of the nut is farther than one of the screw, from a tooth and a groove on. -/
def FlI (s n : Nat → Int) (t g : Int) (i : Nat) : Int := n (g + i).toNat - s (t + i).toNat
/-- A step that there is, of flanks that are not too far. -/
structure StOk (n m : Nat) (l r l' r' : Nat → Int) (t g k : Int) : Prop where
  t0 : 0 ≤ t
  g0 : 0 ≤ g
  tk : t + k ≤ n
  gk : g + k ≤ m
  n1 : n ≤ 60
  m1 : m ≤ 60
  bs : ∀ i : Nat, i < n → (-10000000000 ≤ l i ∧ l i ≤ 10000000000) ∧ (-10000000000 ≤ r i ∧ r i ≤ 10000000000)
  bn : ∀ i : Nat, i < m → (-10000000000 ≤ l' i ∧ l' i ≤ 10000000000) ∧ (-10000000000 ≤ r' i ∧ r' i ≤ 10000000000)
theorem StOk.rng {n m : Nat} {l r l' r' : Nat → Int} {t g k : Int} (h : StOk n m l r l' r' t g k) {i : Nat} (hi : (i : Int) < k) : (-20000000000 ≤ FlI l l' t g i ∧ FlI l l' t g i ≤ 20000000000) ∧ (-20000000000 ≤ FlI r r' t g i ∧ FlI r r' t g i ≤ 20000000000) := by
  have h1 := h.t0
  have h2 := h.g0
  have h3 := h.tk
  have h4 := h.gk
  have a := h.bs (t + i).toNat (by omega)
  have b := h.bn (g + i).toNat (by omega)
  unfold FlI
  omega
section
variable {a0 a1 : Int} {a2 : Nat} {a3 a4 : Nat → Int} {a5 a6 : Int} {a7 : Nat} {a8 a9 : Nat → Int} {a10 a11 a12 a13 a14 : Int}
theorem ashs_run (h : StOk a2 a7 a3 a4 a8 a9 a12 a13 a14) : ∃ n v, AF.run (ashs0A a0 a1 a2 a3 a4 a5 a6 a7 a8 a9 a10 a11 a12 a13 a14) n = some v ∧ v = .r0 (mxK (FlI a3 a8 a12 a13) (-9223372036854775808) a14.toNat) (mnK (FlI a4 a9 a12 a13) 9223372036854775807 a14.toNat) := by
  have h1 := h.t0
  have h2 := h.g0
  have h3 := h.tk
  have h4 := h.gk
  have h5 := h.n1
  have h6 := h.m1
  refine AF.run_sat (E := fun (v : ashs0R) => v = .r0 (mxK (FlI a3 a8 a12 a13) (-9223372036854775808) a14.toNat) (mnK (FlI a4 a9 a12 a13) 9223372036854775807 a14.toNat)) (Inv := fun (b : ashs0N) => match b with | .n0 q0 q1 q2 => 0 ≤ q0 ∧ (q0 = 0 ∨ q0 ≤ a14) ∧ q1 = mxK (FlI a3 a8 a12 a13) (-9223372036854775808) q0.toNat ∧ q2 = mnK (FlI a4 a9 a12 a13) 9223372036854775807 q0.toNat)
    (fun (b : ashs0N) => match b with | .n0 q0 q1 q2 => (a14 - q0).toNat) (fun _ => rfl) (fun a hI => ?_) ?_
  · cases a with
    | n0 q0 q1 q2 =>
      obtain ⟨g0, g1, g2, g3⟩ := hI
      show DD.sat _ _ (ashs0D a0 a1 a2 a3 a4 a5 a6 a7 a8 a9 a10 a11 a12 a13 a14 (.n0 q0 q1 q2))
      unfold ashs0D
      simp only [DD.sat, Nat.zero_add, cmLss, cmLssF, decide_eq_true_eq]
      refine ⟨fun hp => ?_, fun hp => ?_⟩
      · have e1 : Ar.run .add .i64 a12 q0 = a12 + q0 := arAdd (by omega)
        have e2 : Ar.run .add .i64 a13 q0 = a13 + q0 := arAdd (by omega)
        have e3 : Ar.run .add .i64 q0 1 = q0 + 1 := arAdd (by omega)
        have b1 := h.bs (a12 + q0).toNat (by omega)
        have b2 := h.bn (a13 + q0).toNat (by omega)
        have e4 : Ar.run .sub .i64 (a8 (a13 + q0).toNat) (a3 (a12 + q0).toNat) = a8 (a13 + q0).toNat - a3 (a12 + q0).toNat := arSub (by omega)
        have e5 : Ar.run .sub .i64 (a9 (a13 + q0).toNat) (a4 (a12 + q0).toNat) = a9 (a13 + q0).toNat - a4 (a12 + q0).toNat := arSub (by omega)
        rw [e1, e2, e3, e4, e5, arMx, arMn]
        have hq : (q0.toNat : Int) = q0 := by omega
        refine ⟨by omega, by omega, by omega, by omega, by omega, by omega, ⟨by omega, by omega, ?_, ?_⟩, by omega⟩
        · rw [show (q0 + 1).toNat = q0.toNat + 1 by omega]
          simp only [mxK, FlI, hq]
          rw [g2]
        · rw [show (q0 + 1).toNat = q0.toNat + 1 by omega]
          simp only [mnK, FlI, hq]
          rw [g3]
      · rw [g2, g3, show q0.toNat = a14.toNat by omega]
  · show 0 ≤ (0 : Int) ∧ ((0 : Int) = 0 ∨ (0 : Int) ≤ a14) ∧ _ = mxK (FlI a3 a8 a12 a13) (-9223372036854775808) 0 ∧ _ = mnK (FlI a4 a9 a12 a13) 9223372036854775807 0
    exact ⟨by omega, .inl rfl, rfl, rfl⟩
theorem ash_mono : AF.Mono (ashA a0 a1 a2 a3 a4 a5 a6 a7 a8 a9 a10 a11 a12 a13 a14) := by
  intro a q n m D hq hnm hD
  cases a with
  | n0 =>
    have hq : some (fun n => (AF.run (ashs0A a0 a1 a2 a3 a4 a5 a6 a7 a8 a9 a10 a11 a12 a13 a14) n).map (ashRg0 a0 a1 a2 a3 a4 a5 a6 a7 a8 a9 a10 a11 a12 a13 a14)) = some q := hq
    cases hq
    obtain ⟨v, hv, rfl⟩ := Option.map_eq_some_iff.1 hD
    show Option.map _ (AF.run _ m) = _
    rw [AF.run_mono (AF.mono_none fun _ => rfl) hnm hv]
    rfl
/-- Depth and leans. -/
structure DpOk (a0 a1 a5 a6 a10 a11 : Int) : Prop where
  d : -200000 ≤ a0 ∧ a0 ≤ a1 ∧ a1 ≤ 200000
  l : 0 ≤ a5 ∧ a5 ≤ 3000
  r : 0 ≤ a6 ∧ a6 ≤ 3000
  l' : 0 ≤ a10 ∧ a10 ≤ 3000
  r' : 0 ≤ a11 ∧ a11 ≤ 3000
theorem mulR {x y A B : Int} (hx : -A ≤ x ∧ x ≤ A) (hy : -B ≤ y ∧ y ≤ B) : -(A * B) ≤ x * y ∧ x * y ≤ A * B := by
  have hA : 0 ≤ A := by omega
  have hB : 0 ≤ B := by omega
  rcases Int.le_total 0 x with h1 | h1 <;> rcases Int.le_total 0 y with h2 | h2
  · have := Int.mul_le_mul hx.2 hy.2 h2 hA
    have := Int.mul_nonneg h1 h2
    omega
  · have := Int.mul_le_mul hx.2 (show -y ≤ B by omega) (by omega) hA
    have := Int.mul_nonneg h1 (show 0 ≤ -y by omega)
    rw [Int.mul_neg] at *; omega
  · have := Int.mul_le_mul (show -x ≤ A by omega) hy.2 h2 hA
    have := Int.mul_nonneg (show 0 ≤ -x by omega) h2
    rw [Int.neg_mul] at *; omega
  · have := Int.mul_le_mul (show -x ≤ A by omega) (show -y ≤ B by omega) (by omega) hA
    have := Int.mul_nonneg (show 0 ≤ -x by omega) (show 0 ≤ -y by omega)
    rw [Int.neg_mul_neg] at *; omega
/-- How far a flank sticks out. -/
def OvL (a0 a1 c : Int) : Int := max (a0 * c) (a1 * c)
theorem OvL_rng {a0 a1 c : Int} (h0 : -200000 ≤ a0 ∧ a0 ≤ a1 ∧ a1 ≤ 200000) (hc : -3000 ≤ c ∧ c ≤ 3000) : -600000000 ≤ OvL a0 a1 c ∧ OvL a0 a1 c ≤ 600000000 := by
  have m1 := mulR (x := a0) (y := c) (A := 200000) (B := 3000) (by omega) (by omega)
  have m2 := mulR (x := a1) (y := c) (A := 200000) (B := 3000) (by omega) (by omega)
  unfold OvL; omega
theorem OvL_eq {a0 a1 x y : Int} (h0 : -200000 ≤ a0 ∧ a0 ≤ a1 ∧ a1 ≤ 200000) (hx : 0 ≤ x ∧ x ≤ 3000) (hy : 0 ≤ y ∧ y ≤ 3000) : Ar.run .mx .i64 (Ar.run .mul .i64 a0 (Ar.run .sub .i64 x y)) (Ar.run .mul .i64 a1 (Ar.run .sub .i64 x y)) = OvL a0 a1 (x - y) := by
  have m1 := mulR (x := a0) (y := x - y) (A := 200000) (B := 3000) (by omega) (by omega)
  have m2 := mulR (x := a1) (y := x - y) (A := 200000) (B := 3000) (by omega) (by omega)
  rw [arSub (by omega), arMul (by omega), arMul (by omega), arMx]; rfl
/-- The first and the last shift. -/
def Fst (a0 a1 : Int) (l l' : Nat → Int) (x y t g : Int) (k : Nat) : Int := mxK (FlI l l' t g) (-9223372036854775808) k + OvL a0 a1 (y - x)
def Lst (a0 a1 : Int) (r r' : Nat → Int) (x y t g : Int) (k : Nat) : Int := mnK (FlI r r' t g) 9223372036854775807 k - OvL a0 a1 (y - x)
theorem fst_rng (h : StOk a2 a7 a3 a4 a8 a9 a12 a13 a14) (hk : 1 ≤ a14) : (-20000000000 ≤ mxK (FlI a3 a8 a12 a13) (-9223372036854775808) a14.toNat ∧ mxK (FlI a3 a8 a12 a13) (-9223372036854775808) a14.toNat ≤ 20000000000) ∧ (-20000000000 ≤ mnK (FlI a4 a9 a12 a13) 9223372036854775807 a14.toNat ∧ mnK (FlI a4 a9 a12 a13) 9223372036854775807 a14.toNat ≤ 20000000000) := by
  obtain ⟨k, hk'⟩ : ∃ k, a14.toNat = k + 1 := ⟨a14.toNat - 1, by omega⟩
  rw [hk']
  exact ⟨mxK_one fun i hi => by have := h.rng (i := i) (by omega); omega, mnK_one fun i hi => by have := h.rng (i := i) (by omega); omega⟩
theorem ash_val (h : StOk a2 a7 a3 a4 a8 a9 a12 a13 a14) (hd : DpOk a0 a1 a5 a6 a10 a11) (hk : 1 ≤ a14) : AF.fin (ashA a0 a1 a2 a3 a4 a5 a6 a7 a8 a9 a10 a11 a12 a13 a14) = true ∧ AF.val (ashA a0 a1 a2 a3 a4 a5 a6 a7 a8 a9 a10 a11 a12 a13 a14) = (Fst a0 a1 a3 a8 a5 a10 a12 a13 a14.toNat, Lst a0 a1 a4 a9 a6 a11 a12 a13 a14.toNat) := by
  obtain ⟨n, v, hv, rfl⟩ := ashs_run (a0 := a0) (a1 := a1) (a5 := a5) (a6 := a6) (a10 := a10) (a11 := a11) h
  have hD : (ashA a0 a1 a2 a3 a4 a5 a6 a7 a8 a9 a10 a11 a12 a13 a14).D0.eval = some (.next .n0 [2, 3, 4, 5, 7, 6]) := rfl
  have hq : (ashA a0 a1 a2 a3 a4 a5 a6 a7 a8 a9 a10 a11 a12 a13 a14).rgo .n0 = some (fun n => (AF.run (ashs0A a0 a1 a2 a3 a4 a5 a6 a7 a8 a9 a10 a11 a12 a13 a14) n).map (ashRg0 a0 a1 a2 a3 a4 a5 a6 a7 a8 a9 a10 a11 a12 a13 a14)) := rfl
  obtain ⟨r1, r2⟩ := fst_rng h hk
  have o1 := OvL_rng (c := a10 - a5) hd.d (by have := hd.l; have := hd.l'; omega)
  have o2 := OvL_rng (c := a11 - a6) hd.d (by have := hd.r; have := hd.r'; omega)
  have hr : AF.run (ashA a0 a1 a2 a3 a4 a5 a6 a7 a8 a9 a10 a11 a12 a13 a14) (n + 1) = some (Fst a0 a1 a3 a8 a5 a10 a12 a13 a14.toNat, Lst a0 a1 a4 a9 a6 a11 a12 a13 a14.toNat) := by
    have e : AF.run (ashA a0 a1 a2 a3 a4 a5 a6 a7 a8 a9 a10 a11 a12 a13 a14) (n + 1) = AF.go (ashA a0 a1 a2 a3 a4 a5 a6 a7 a8 a9 a10 a11 a12 a13 a14) (n + 1) .n0 := by unfold AF.run; rw [hD]
    rw [e]
    unfold AF.go
    rw [hq]
    simp only [hv, Option.map_some]
    unfold ashRg0
    simp only [OvL_eq hd.d hd.l' hd.l, OvL_eq hd.d hd.r' hd.r, arAdd (a := mxK (FlI a3 a8 a12 a13) (-9223372036854775808) a14.toNat) (b := OvL a0 a1 (a10 - a5)) (by omega), arSub (a := mnK (FlI a4 a9 a12 a13) 9223372036854775807 a14.toNat) (b := OvL a0 a1 (a11 - a6)) (by omega)]
    rfl
  have k := AF.val_of ash_mono hr
  exact ⟨k.1, k.2⟩
end
end Go.Proofs.Ytjdldcmcjaaibaa.Cx

/- acme/acmeref03.Check as an automaton. Made by tools/cxauto.py. -/
namespace Go.Proofs.Ytjdldcmcjaaibaa.Cx
set_option linter.unusedVariables false
set_option linter.unusedSimpArgs false
set_option maxRecDepth 100000
open Go Go.Proofs Go.RowKit
noncomputable abbrev fckCode : Code := funcCode Try.f17
inductive fckN where
  | n0 (p0 : Int)
abbrev fckR := Int
noncomputable def fckD0 (a0 : Nat) (a1 a2 : Nat → Int) (a3 a4 : Int) : DD (Lf fckN fckR) :=
 .ask (Cm.run .gtr ((↑a0 : Int)) 60)
   (.leaf (.done 5 []))
   (.ask (Cm.run .eql ((↑a0 : Int)) 0)
   (.leaf (.done 2 []))
   (.ask (Cm.run .geq a3 0)
   (.ask (Cm.run .leq a3 3000)
   (.ask (Cm.run .geq a4 0)
   (.ask (Cm.run .leq a4 3000)
   (.leaf (.next (.n0 0) [1]))
   (.leaf (.done 2 [])))
   (.leaf (.done 2 [])))
   (.leaf (.done 2 [])))
   (.leaf (.done 2 []))))

noncomputable def fckD (a0 : Nat) (a1 a2 : Nat → Int) (a3 a4 : Int) : fckN → DD (Lf fckN fckR)
 | .n0 p0 =>
 let z0 := a1 (0 + Int.toNat p0)
 let z1 := a2 (0 + Int.toNat p0)
 let z2 := Ar.run .sub .i64 p0 1
 let z3 := Ar.run .add .i64 p0 1
 .ask (Cm.run .lss p0 (↑a0 : Int))
   (.must (decide (0 ≤ p0))
   (.must (decide (p0 < (↑a0 : Int)))
   (.must (decide (0 + Int.toNat p0 < a0))
   (.ask (Cm.run .geq z0 (-10000000))
   (.ask (Cm.run .leq z0 z1)
   (.ask (Cm.run .gtr z1 10000000)
   (.leaf (.done 2 []))
   (.ask (Cm.run .gtr p0 0)
   (.must (decide (0 ≤ Ar.run .sub .i64 p0 1))
   (.must (decide (Ar.run .sub .i64 p0 1 < (↑a0 : Int)))
   (.must (decide (0 + Int.toNat z2 < a0))
   (.ask (Cm.run .lss z0 (a2 (0 + Int.toNat z2)))
   (.leaf (.done 2 []))
   (.leaf (.next (.n0 z3) [1]))))))
   (.leaf (.next (.n0 z3) [1]))))
   (.leaf (.done 2 [])))
   (.leaf (.done 2 []))))))
   (.leaf (.done 0 []))

noncomputable def fckA (a0 : Nat) (a1 a2 : Nat → Int) (a3 a4 : Int) : AF fckN fckR where
  code := fckCode
  base := 1
  nt := 64
  m := 400
  un := []
  W := []
  h0 := [(0, ⟨.arg a0 2 (fun i => [.int .i64 (.x (a1 i)), .int .i64 (.x (a2 i))]) (fun _ => ⟨rfl, rfl⟩), 2, true, none⟩)]
  args := [.agg [.sla 0 2 0 a0, .int .i64 (.x a3), .int .i64 (.x a4)]]
  res := (Try.f17).results.toList
  path := fun a => match a with
   | .n0 p0 => [1, 1, 1, 0, 1, 0]
  pd := fun a => match a with
   | .n0 p0 => ⟨[(1, .ptr (some (1, 0))), (3, .int .i64 (.x p0))], [(1, ⟨.lit [.sla 0 2 0 a0, .int .i64 (.x a3), .int .i64 (.x a4)], 0, true, none⟩)], 2, []⟩
  D0 := fckD0 a0 a1 a2 a3 a4
  D := fckD a0 a1 a2 a3 a4
  rc := (fun v => .int .i64 (.x v))
  rh := (fun v => [])
  rn := (fun v => 1)
  rx := (fun v => [])
  rgo := (fun _ => none)
theorem fckstart (a0 : Nat) (a1 a2 : Nat → Int) (a3 a4 : Int) : AF.edgeOk (fckA a0 a1 a2 a3 a4) (ctxOf Try.prog memo0) (fckD0 a0 a1 a2 a3 a4) (AF.run0 (fckA a0 a1 a2 a3 a4) (ctxOf Try.prog memo0)) := by unfold AF.edgeOk; kernel_rfl
theorem fcknode0 (a0 : Nat) (a1 a2 : Nat → Int) (a3 a4 p0 : Int) : AF.edgeOk (fckA a0 a1 a2 a3 a4) (ctxOf Try.prog memo0) (fckD a0 a1 a2 a3 a4 (.n0 p0)) (AF.runN (fckA a0 a1 a2 a3 a4) (ctxOf Try.prog memo0) (.n0 p0)) := by unfold AF.edgeOk; kernel_rfl
theorem fckok (a0 : Nat) (a1 a2 : Nat → Int) (a3 a4 : Int) : (fckA a0 a1 a2 a3 a4).Ok Try.prog (ctxOf Try.prog memo0) where
  regs := by kernel_rfl
  h0 := by kernel_rfl
  start := fckstart a0 a1 a2 a3 a4
  node := fun a _ => match a with
   | .n0 p0 => fcknode0 a0 a1 a2 a3 a4 p0
  pd := fun a => match a with
   | .n0 p0 => ⟨(fa_cons rfl (fa_cons rfl fa_nil)), (fa_cons ⟨.inl (Nat.le_of_ble_eq_true rfl), rfl, rfl⟩ fa_nil), fa_nil, rfl⟩
  le := fun a => match a with
   | .n0 p0 => Nat.le_of_ble_eq_true rfl
  rd := fun v => ⟨⟨fa_nil, fa_nil, fa_nil, rfl⟩, rfl⟩
  wb := rfl
theorem fckhR {ρ : Env} (a0 : Nat) (a1 a2 : Nat → Int) (a3 a4 : Int) (hM : MemoOk Try.prog (ctxOf Try.prog memo0) ρ) : ∀ X a q n D, FxOk ρ X → X.base = (fckA a0 a1 a2 a3 a4).base → X.nt = (fckA a0 a1 a2 a3 a4).nt → X.W = (fckA a0 a1 a2 a3 a4).W → (fckA a0 a1 a2 a3 a4).rgo a = some q → q n = some D → (fckA a0 a1 a2 a3 a4).RangeOk Try.prog ρ X a D := AF.noRange rfl
theorem fckctr {ρ : Env} (a0 : Nat) (a1 a2 : Nat → Int) (a3 a4 : Int) {n : Nat} {v : fckR} (hM : MemoOk Try.prog (ctxOf Try.prog memo0) ρ) (hv : (fckA a0 a1 a2 a3 a4).run n = some v) :
    Ctr Try.prog ρ 17 (fckA a0 a1 a2 a3 a4).args (fckA a0 a1 a2 a3 a4).H0 (fckA a0 a1 a2 a3 a4).base (fckA a0 a1 a2 a3 a4).W ((fckA a0 a1 a2 a3 a4).rc v) (putH (fckA a0 a1 a2 a3 a4).H0 ((fckA a0 a1 a2 a3 a4).rh v ++ (fckA a0 a1 a2 a3 a4).rx v)) ((fckA a0 a1 a2 a3 a4).rn v) :=
  AF.ctr try_ok hM (fckok a0 a1 a2 a3 a4) (fn := Try.f17) Try.func17 rfl rfl (Nat.le_of_ble_eq_true rfl) rfl (fckhR a0 a1 a2 a3 a4 hM) hv
theorem fckmem {ρ : Env} : MemoOk Try.prog (ctxOf Try.prog memo0) ρ := memo0_ok
abbrev fckP : List AQ := [.agg [.rows [some .i64, some .i64], .int .i64, .int .i64]]
noncomputable def fckF (v : AW) : AF fckN fckR := fckA (v.t.getD 0 .none).n ((v.t.getD 0 .none).c 0) ((v.t.getD 0 .none).c 1) (v.i.getD 0 0) (v.i.getD 1 0)
noncomputable def fckW : fckR → CV := fun v => .int .i64 (.x v)
noncomputable def fckH : fckR → List (Nat × Blk) := fun v => []
instance : Inhabited fckR := ⟨0⟩
theorem fckknown {ρ : Env} (hM : MemoOk Try.prog (ctxOf Try.prog memo0) ρ) : KnownS Try.prog ρ 17 fckP fckF fckW fckH 1 where
  fn := ⟨Try.f17, Try.func17, rfl⟩
  le := Nat.le_of_ble_eq_true rfl
  full := fun r => rfl
  rg := fun r => rfl
  hg := fun r => fa_nil
  ctr := fun v n r h => fckctr (v.t.getD 0 .none).n ((v.t.getD 0 .none).c 0) ((v.t.getD 0 .none).c 1) (v.i.getD 0 0) (v.i.getD 1 0) hM h
end Go.Proofs.Ytjdldcmcjaaibaa.Cx

/- acme/acmeref03.Two as an automaton. Made by tools/cxauto.py. -/
namespace Go.Proofs.Ytjdldcmcjaaibaa.Cx
set_option linter.unusedVariables false
set_option linter.unusedSimpArgs false
set_option maxRecDepth 100000
open Go Go.Proofs Go.RowKit
noncomputable abbrev frtCode : Code := funcCode Try.f25
abbrev frtN := Empty
abbrev frtR := Int
noncomputable def frtD0 (a0 : Nat) (a1 a2 : Nat → Int) (a3 a4 : Int) (a5 : Nat) (a6 a7 : Nat → Int) (a8 a9 a10 a11 : Int) : DD (Lf frtN frtR) :=
 let z0 := fun i => [CV.int IntKind.i64 (IE.x (a1 (0 + i))), CV.int IntKind.i64 (IE.x (a2 (0 + i)))]
 let z1 := fckA a0 (fun i => a1 (0 + i)) (fun i => a2 (0 + i)) a3 a4
 let z2 := AF.val z1
 let z3 := fun i => [CV.int IntKind.i64 (IE.x (a6 (0 + i))), CV.int IntKind.i64 (IE.x (a7 (0 + i)))]
 let z4 := fckA a5 (fun i => a6 (0 + i)) (fun i => a7 (0 + i)) a8 a9
 let z5 := AF.val z4
 .must (decide (0 + a0 ≤ a0))
   (.must (ShapeOk [some IntKind.i64, some IntKind.i64] (tabOf a0 z0) z0)
   (.must (AF.fin z1)
   (.ask (Cm.run .neq z2 0)
   (.leaf (.done z2 []))
   (.must (decide (0 + a5 ≤ a5))
   (.must (ShapeOk [some IntKind.i64, some IntKind.i64] (tabOf a5 z3) z3)
   (.must (AF.fin z4)
   (.ask (Cm.run .neq z5 0)
   (.leaf (.done z5 []))
   (.ask (Cm.run .geq a10 (-200000))
   (.ask (Cm.run .leq a10 a11)
   (.ask (Cm.run .leq a11 200000)
   (.leaf (.done 0 []))
   (.leaf (.done 3 [])))
   (.leaf (.done 3 [])))
   (.leaf (.done 3 []))))))))))

noncomputable def frtD (a0 : Nat) (a1 a2 : Nat → Int) (a3 a4 : Int) (a5 : Nat) (a6 a7 : Nat → Int) (a8 a9 a10 a11 : Int) : frtN → DD (Lf frtN frtR) := fun a => nomatch a
noncomputable def frtA (a0 : Nat) (a1 a2 : Nat → Int) (a3 a4 : Int) (a5 : Nat) (a6 a7 : Nat → Int) (a8 a9 a10 a11 : Int) : AF frtN frtR where
  code := frtCode
  base := 2
  nt := 22
  m := 400
  un := []
  W := []
  h0 := [(0, ⟨.arg a0 2 (fun i => [.int .i64 (.x (a1 i)), .int .i64 (.x (a2 i))]) (fun _ => ⟨rfl, rfl⟩), 2, true, none⟩), (1, ⟨.arg a5 2 (fun i => [.int .i64 (.x (a6 i)), .int .i64 (.x (a7 i))]) (fun _ => ⟨rfl, rfl⟩), 2, true, none⟩)]
  args := [.agg [.sla 0 2 0 a0, .int .i64 (.x a3), .int .i64 (.x a4)], .agg [.sla 1 2 0 a5, .int .i64 (.x a8), .int .i64 (.x a9)], .agg [.int .i64 (.x a10), .int .i64 (.x a11)]]
  res := (Try.f25).results.toList
  path := fun a => nomatch a
  pd := fun a => nomatch a
  D0 := frtD0 a0 a1 a2 a3 a4 a5 a6 a7 a8 a9 a10 a11
  D := frtD a0 a1 a2 a3 a4 a5 a6 a7 a8 a9 a10 a11
  rc := (fun v => .int .i64 (.x v))
  rh := (fun v => [])
  rn := (fun v => 2)
  rx := (fun v => [])
  rgo := (fun _ => none)
theorem frtstart (a0 : Nat) (a1 a2 : Nat → Int) (a3 a4 : Int) (a5 : Nat) (a6 a7 : Nat → Int) (a8 a9 a10 a11 : Int) : AF.edgeOk (frtA a0 a1 a2 a3 a4 a5 a6 a7 a8 a9 a10 a11) (ctxOf Try.prog memo0) (frtD0 a0 a1 a2 a3 a4 a5 a6 a7 a8 a9 a10 a11) (AF.run0 (frtA a0 a1 a2 a3 a4 a5 a6 a7 a8 a9 a10 a11) (ctxOf Try.prog (memoS 17 fckP fckF fckW fckH 1 memo0))) := by unfold AF.edgeOk; kernel_rfl
theorem frtok (a0 : Nat) (a1 a2 : Nat → Int) (a3 a4 : Int) (a5 : Nat) (a6 a7 : Nat → Int) (a8 a9 a10 a11 : Int) : (frtA a0 a1 a2 a3 a4 a5 a6 a7 a8 a9 a10 a11).Ok Try.prog (ctxOf Try.prog (memoS 17 fckP fckF fckW fckH 1 memo0)) where
  regs := by kernel_rfl
  h0 := by kernel_rfl
  start := frtstart a0 a1 a2 a3 a4 a5 a6 a7 a8 a9 a10 a11
  node := fun a _ => nomatch a
  pd := fun a => nomatch a
  le := fun a => nomatch a
  rd := fun v => ⟨⟨fa_nil, fa_nil, fa_nil, rfl⟩, rfl⟩
  wb := rfl
theorem frthR {ρ : Env} (a0 : Nat) (a1 a2 : Nat → Int) (a3 a4 : Int) (a5 : Nat) (a6 a7 : Nat → Int) (a8 a9 a10 a11 : Int) (hM : MemoOk Try.prog (ctxOf Try.prog (memoS 17 fckP fckF fckW fckH 1 memo0)) ρ) : ∀ X a q n D, FxOk ρ X → X.base = (frtA a0 a1 a2 a3 a4 a5 a6 a7 a8 a9 a10 a11).base → X.nt = (frtA a0 a1 a2 a3 a4 a5 a6 a7 a8 a9 a10 a11).nt → X.W = (frtA a0 a1 a2 a3 a4 a5 a6 a7 a8 a9 a10 a11).W → (frtA a0 a1 a2 a3 a4 a5 a6 a7 a8 a9 a10 a11).rgo a = some q → q n = some D → (frtA a0 a1 a2 a3 a4 a5 a6 a7 a8 a9 a10 a11).RangeOk Try.prog ρ X a D := AF.noRange rfl
theorem frtctr {ρ : Env} (a0 : Nat) (a1 a2 : Nat → Int) (a3 a4 : Int) (a5 : Nat) (a6 a7 : Nat → Int) (a8 a9 a10 a11 : Int) {n : Nat} {v : frtR} (hM : MemoOk Try.prog (ctxOf Try.prog (memoS 17 fckP fckF fckW fckH 1 memo0)) ρ) (hv : (frtA a0 a1 a2 a3 a4 a5 a6 a7 a8 a9 a10 a11).run n = some v) :
    Ctr Try.prog ρ 25 (frtA a0 a1 a2 a3 a4 a5 a6 a7 a8 a9 a10 a11).args (frtA a0 a1 a2 a3 a4 a5 a6 a7 a8 a9 a10 a11).H0 (frtA a0 a1 a2 a3 a4 a5 a6 a7 a8 a9 a10 a11).base (frtA a0 a1 a2 a3 a4 a5 a6 a7 a8 a9 a10 a11).W ((frtA a0 a1 a2 a3 a4 a5 a6 a7 a8 a9 a10 a11).rc v) (putH (frtA a0 a1 a2 a3 a4 a5 a6 a7 a8 a9 a10 a11).H0 ((frtA a0 a1 a2 a3 a4 a5 a6 a7 a8 a9 a10 a11).rh v ++ (frtA a0 a1 a2 a3 a4 a5 a6 a7 a8 a9 a10 a11).rx v)) ((frtA a0 a1 a2 a3 a4 a5 a6 a7 a8 a9 a10 a11).rn v) :=
  AF.ctr try_ok hM (frtok a0 a1 a2 a3 a4 a5 a6 a7 a8 a9 a10 a11) (fn := Try.f25) Try.func25 rfl rfl (Nat.le_of_ble_eq_true rfl) rfl (frthR a0 a1 a2 a3 a4 a5 a6 a7 a8 a9 a10 a11 hM) hv
theorem frtmem {ρ : Env} : MemoOk Try.prog (ctxOf Try.prog (memoS 17 fckP fckF fckW fckH 1 memo0)) ρ := (memoS_ok (fckknown fckmem) memo0_ok)
abbrev frtP : List AQ := [.agg [.rows [some .i64, some .i64], .int .i64, .int .i64], .agg [.rows [some .i64, some .i64], .int .i64, .int .i64], .agg [.int .i64, .int .i64]]
noncomputable def frtF (v : AW) : AF frtN frtR := frtA (v.t.getD 0 .none).n ((v.t.getD 0 .none).c 0) ((v.t.getD 0 .none).c 1) (v.i.getD 0 0) (v.i.getD 1 0) (v.t.getD 1 .none).n ((v.t.getD 1 .none).c 0) ((v.t.getD 1 .none).c 1) (v.i.getD 2 0) (v.i.getD 3 0) (v.i.getD 4 0) (v.i.getD 5 0)
noncomputable def frtW : frtR → CV := fun v => .int .i64 (.x v)
noncomputable def frtH : frtR → List (Nat × Blk) := fun v => []
instance : Inhabited frtR := ⟨0⟩
theorem frtknown {ρ : Env} (hM : MemoOk Try.prog (ctxOf Try.prog (memoS 17 fckP fckF fckW fckH 1 memo0)) ρ) : KnownS Try.prog ρ 25 frtP frtF frtW frtH 2 where
  fn := ⟨Try.f25, Try.func25, rfl⟩
  le := Nat.le_of_ble_eq_true rfl
  full := fun r => rfl
  rg := fun r => rfl
  hg := fun r => fa_nil
  ctr := fun v n r h => frtctr (v.t.getD 0 .none).n ((v.t.getD 0 .none).c 0) ((v.t.getD 0 .none).c 1) (v.i.getD 0 0) (v.i.getD 1 0) (v.t.getD 1 .none).n ((v.t.getD 1 .none).c 0) ((v.t.getD 1 .none).c 1) (v.i.getD 2 0) (v.i.getD 3 0) (v.i.getD 4 0) (v.i.getD 5 0) hM h
end Go.Proofs.Ytjdldcmcjaaibaa.Cx

/- acme/acmeref03.Shifts as an automaton. Made by tools/cxauto.py. -/
namespace Go.Proofs.Ytjdldcmcjaaibaa.Cx
set_option linter.unusedVariables false
set_option linter.unusedSimpArgs false
set_option maxRecDepth 100000
open Go Go.Proofs Go.RowKit
noncomputable abbrev frsCode : Code := funcCode Try.f27
inductive frsN where
  | n0
  | n1 (p0 p1 p2 : Int)
abbrev frsR := Int × Int
noncomputable def frsD0 (a0 : Nat) (a1 a2 : Nat → Int) (a3 a4 : Int) (a5 : Nat) (a6 a7 : Nat → Int) (a8 a9 a10 a11 a12 a13 a14 : Int) : DD (Lf frsN frsR) :=
 .leaf (.next (.n0) [2, 3, 4, 5, 6])

noncomputable def frsD (a0 : Nat) (a1 a2 : Nat → Int) (a3 a4 : Int) (a5 : Nat) (a6 a7 : Nat → Int) (a8 a9 a10 a11 a12 a13 a14 : Int) : frsN → DD (Lf frsN frsR)
 | .n0 =>
 let z0 := decide (0 ≤ Ar.run .add .i64 a11 0)
 let z1 := Ar.run .add .i64 a11 0
 let z2 := decide (0 + Int.toNat z1 < a5)
 let z3 := decide (0 ≤ Ar.run .add .i64 a10 0)
 let z4 := Ar.run .add .i64 a10 0
 let z5 := decide (0 + Int.toNat z4 < a0)
 let z6 := Ar.run .mul .i64 1000 (a6 (0 + Int.toNat z1))
 let z7 := Ar.run .mul .i64 1000 (a1 (0 + Int.toNat z4))
 let z8 := Ar.run .mul .i64 1000 (a7 (0 + Int.toNat z1))
 let z9 := Ar.run .mul .i64 1000 (a2 (0 + Int.toNat z4))
 .ask (Cm.run .lss 0 a12)
   (.must z0
   (.must (decide (Ar.run .add .i64 a11 0 < (↑a5 : Int)))
   (.must z2
   (.must z3
   (.must (decide (Ar.run .add .i64 a10 0 < (↑a0 : Int)))
   (.must z5
   (.must z0
   (.must (decide (Ar.run .add .i64 a11 0 < (↑a5 : Int)))
   (.must z2
   (.must z3
   (.must (decide (Ar.run .add .i64 a10 0 < (↑a0 : Int)))
   (.must z5
   (.must z0
   (.must (decide (Ar.run .add .i64 a11 0 < (↑a5 : Int)))
   (.must z2
   (.must z3
   (.must (decide (Ar.run .add .i64 a10 0 < (↑a0 : Int)))
   (.must z5
   (.must z0
   (.must (decide (Ar.run .add .i64 a11 0 < (↑a5 : Int)))
   (.must z2
   (.must z3
   (.must (decide (Ar.run .add .i64 a10 0 < (↑a0 : Int)))
   (.must z5
   (.leaf (.next (.n1 1 (Ar.run .mx .i64 (Ar.run .mx .i64 (-1152921504606846976) (Ar.run .sub .i64 (Ar.run .add .i64 z6 (Ar.run .mul .i64 a13 a8)) (Ar.run .add .i64 z7 (Ar.run .mul .i64 a13 a3)))) (Ar.run .sub .i64 (Ar.run .add .i64 z6 (Ar.run .mul .i64 a14 a8)) (Ar.run .add .i64 z7 (Ar.run .mul .i64 a14 a3)))) (Ar.run .mn .i64 (Ar.run .mn .i64 1152921504606846976 (Ar.run .sub .i64 (Ar.run .sub .i64 z8 (Ar.run .mul .i64 a13 a9)) (Ar.run .sub .i64 z9 (Ar.run .mul .i64 a13 a4)))) (Ar.run .sub .i64 (Ar.run .sub .i64 z8 (Ar.run .mul .i64 a14 a9)) (Ar.run .sub .i64 z9 (Ar.run .mul .i64 a14 a4))))) [2, 3, 4, 5, 6]))))))))))))))))))))))))))
   (.leaf (.done (-1152921504606846976, 1152921504606846976) []))
 | .n1 p0 p1 p2 =>
 let z0 := decide (0 ≤ Ar.run .add .i64 a11 p0)
 let z1 := Ar.run .add .i64 a11 p0
 let z2 := decide (0 + Int.toNat z1 < a5)
 let z3 := decide (0 ≤ Ar.run .add .i64 a10 p0)
 let z4 := Ar.run .add .i64 a10 p0
 let z5 := decide (0 + Int.toNat z4 < a0)
 let z6 := Ar.run .mul .i64 1000 (a6 (0 + Int.toNat z1))
 let z7 := Ar.run .mul .i64 1000 (a1 (0 + Int.toNat z4))
 let z8 := Ar.run .mul .i64 1000 (a7 (0 + Int.toNat z1))
 let z9 := Ar.run .mul .i64 1000 (a2 (0 + Int.toNat z4))
 .ask (Cm.run .lss p0 a12)
   (.must z0
   (.must (decide (Ar.run .add .i64 a11 p0 < (↑a5 : Int)))
   (.must z2
   (.must z3
   (.must (decide (Ar.run .add .i64 a10 p0 < (↑a0 : Int)))
   (.must z5
   (.must z0
   (.must (decide (Ar.run .add .i64 a11 p0 < (↑a5 : Int)))
   (.must z2
   (.must z3
   (.must (decide (Ar.run .add .i64 a10 p0 < (↑a0 : Int)))
   (.must z5
   (.must z0
   (.must (decide (Ar.run .add .i64 a11 p0 < (↑a5 : Int)))
   (.must z2
   (.must z3
   (.must (decide (Ar.run .add .i64 a10 p0 < (↑a0 : Int)))
   (.must z5
   (.must z0
   (.must (decide (Ar.run .add .i64 a11 p0 < (↑a5 : Int)))
   (.must z2
   (.must z3
   (.must (decide (Ar.run .add .i64 a10 p0 < (↑a0 : Int)))
   (.must z5
   (.leaf (.next (.n1 (Ar.run .add .i64 p0 1) (Ar.run .mx .i64 (Ar.run .mx .i64 p1 (Ar.run .sub .i64 (Ar.run .add .i64 z6 (Ar.run .mul .i64 a13 a8)) (Ar.run .add .i64 z7 (Ar.run .mul .i64 a13 a3)))) (Ar.run .sub .i64 (Ar.run .add .i64 z6 (Ar.run .mul .i64 a14 a8)) (Ar.run .add .i64 z7 (Ar.run .mul .i64 a14 a3)))) (Ar.run .mn .i64 (Ar.run .mn .i64 p2 (Ar.run .sub .i64 (Ar.run .sub .i64 z8 (Ar.run .mul .i64 a13 a9)) (Ar.run .sub .i64 z9 (Ar.run .mul .i64 a13 a4)))) (Ar.run .sub .i64 (Ar.run .sub .i64 z8 (Ar.run .mul .i64 a14 a9)) (Ar.run .sub .i64 z9 (Ar.run .mul .i64 a14 a4))))) [2, 3, 4, 5, 6]))))))))))))))))))))))))))
   (.leaf (.done (p1, p2) []))

noncomputable def frsA (a0 : Nat) (a1 a2 : Nat → Int) (a3 a4 : Int) (a5 : Nat) (a6 a7 : Nat → Int) (a8 a9 a10 a11 a12 a13 a14 : Int) : AF frsN frsR where
  code := frsCode
  base := 2
  nt := 69
  m := 400
  un := [6]
  W := []
  h0 := [(0, ⟨.arg a0 2 (fun i => [.int .i64 (.x (a1 i)), .int .i64 (.x (a2 i))]) (fun _ => ⟨rfl, rfl⟩), 2, true, none⟩), (1, ⟨.arg a5 2 (fun i => [.int .i64 (.x (a6 i)), .int .i64 (.x (a7 i))]) (fun _ => ⟨rfl, rfl⟩), 2, true, none⟩)]
  args := [.agg [.sla 0 2 0 a0, .int .i64 (.x a3), .int .i64 (.x a4)], .agg [.sla 1 2 0 a5, .int .i64 (.x a8), .int .i64 (.x a9)], .int .i64 (.x a10), .int .i64 (.x a11), .int .i64 (.x a12), .agg [.int .i64 (.x a13), .int .i64 (.x a14)]]
  res := (Try.f27).results.toList
  path := fun a => match a with
   | .n0 => [1, 1, 0, 1, 0]
   | .n1 p0 p1 p2 => [1, 1, 0, 1, 0]
  pd := fun a => match a with
   | .n0 => ⟨[(2, .int .i64 (.x a10)), (3, .int .i64 (.x a11)), (4, .int .i64 (.x a12)), (6, .ptr (some (2, 0))), (7, .ptr (some (3, 0))), (11, .ptr (some (4, 0))), (12, .ptr (some (5, 0))), (13, .ptr (some (6, 0))), (14, .int .i64 (.x 0))], [(2, ⟨.lit [.sla 0 2 0 a0, .int .i64 (.x a3), .int .i64 (.x a4)], 0, true, none⟩), (3, ⟨.lit [.sla 1 2 0 a5, .int .i64 (.x a8), .int .i64 (.x a9)], 0, true, none⟩), (4, ⟨.lit [.int .i64 (.x a13), .int .i64 (.x a14)], 0, true, none⟩), (5, ⟨.lit [.int .i64 (.x 0), .int .i64 (.x 0)], 0, true, none⟩), (6, ⟨.lit [.int .i64 (.x (-1152921504606846976)), .int .i64 (.x 1152921504606846976)], 0, true, none⟩)], 7, []⟩
   | .n1 p0 p1 p2 => ⟨[(2, .int .i64 (.x a10)), (3, .int .i64 (.x a11)), (4, .int .i64 (.x a12)), (6, .ptr (some (2, 0))), (7, .ptr (some (3, 0))), (11, .ptr (some (4, 0))), (12, .ptr (some (5, 0))), (13, .ptr (some (6, 0))), (14, .int .i64 (.x p0)), (28, .int .i64 (.x a13))], [(2, ⟨.lit [.sla 0 2 0 a0, .int .i64 (.x a3), .int .i64 (.x a4)], 0, true, none⟩), (3, ⟨.lit [.sla 1 2 0 a5, .int .i64 (.x a8), .int .i64 (.x a9)], 0, true, none⟩), (4, ⟨.lit [.int .i64 (.x a13), .int .i64 (.x a14)], 0, true, none⟩), (5, ⟨.lit [.int .i64 (.x 0), .int .i64 (.x 0)], 0, true, none⟩), (6, ⟨.lit [.int .i64 (.x p1), .int .i64 (.x p2)], 0, true, none⟩)], 7, []⟩
  D0 := frsD0 a0 a1 a2 a3 a4 a5 a6 a7 a8 a9 a10 a11 a12 a13 a14
  D := frsD a0 a1 a2 a3 a4 a5 a6 a7 a8 a9 a10 a11 a12 a13 a14
  rc := (fun v => .agg [.int .i64 (.x v.1), .int .i64 (.x v.2)])
  rh := (fun v => [])
  rn := (fun v => 2)
  rx := (fun v => [])
  rgo := (fun _ => none)
theorem frsstart (a0 : Nat) (a1 a2 : Nat → Int) (a3 a4 : Int) (a5 : Nat) (a6 a7 : Nat → Int) (a8 a9 a10 a11 a12 a13 a14 : Int) : AF.edgeOk (frsA a0 a1 a2 a3 a4 a5 a6 a7 a8 a9 a10 a11 a12 a13 a14) (ctxOf Try.prog memo0) (frsD0 a0 a1 a2 a3 a4 a5 a6 a7 a8 a9 a10 a11 a12 a13 a14) (AF.run0 (frsA a0 a1 a2 a3 a4 a5 a6 a7 a8 a9 a10 a11 a12 a13 a14) (ctxOf Try.prog memo0)) := by unfold AF.edgeOk; kernel_rfl
theorem frsnode0 (a0 : Nat) (a1 a2 : Nat → Int) (a3 a4 : Int) (a5 : Nat) (a6 a7 : Nat → Int) (a8 a9 a10 a11 a12 a13 a14 : Int) : AF.edgeOk (frsA a0 a1 a2 a3 a4 a5 a6 a7 a8 a9 a10 a11 a12 a13 a14) (ctxOf Try.prog memo0) (frsD a0 a1 a2 a3 a4 a5 a6 a7 a8 a9 a10 a11 a12 a13 a14 (.n0)) (AF.runN (frsA a0 a1 a2 a3 a4 a5 a6 a7 a8 a9 a10 a11 a12 a13 a14) (ctxOf Try.prog memo0) (.n0)) := by unfold AF.edgeOk; kernel_rfl
theorem frsnode1 (a0 : Nat) (a1 a2 : Nat → Int) (a3 a4 : Int) (a5 : Nat) (a6 a7 : Nat → Int) (a8 a9 a10 a11 a12 a13 a14 p0 p1 p2 : Int) : AF.edgeOk (frsA a0 a1 a2 a3 a4 a5 a6 a7 a8 a9 a10 a11 a12 a13 a14) (ctxOf Try.prog memo0) (frsD a0 a1 a2 a3 a4 a5 a6 a7 a8 a9 a10 a11 a12 a13 a14 (.n1 p0 p1 p2)) (AF.runN (frsA a0 a1 a2 a3 a4 a5 a6 a7 a8 a9 a10 a11 a12 a13 a14) (ctxOf Try.prog memo0) (.n1 p0 p1 p2)) := by unfold AF.edgeOk; kernel_rfl
theorem frsok (a0 : Nat) (a1 a2 : Nat → Int) (a3 a4 : Int) (a5 : Nat) (a6 a7 : Nat → Int) (a8 a9 a10 a11 a12 a13 a14 : Int) : (frsA a0 a1 a2 a3 a4 a5 a6 a7 a8 a9 a10 a11 a12 a13 a14).Ok Try.prog (ctxOf Try.prog memo0) where
  regs := by kernel_rfl
  h0 := by kernel_rfl
  start := frsstart a0 a1 a2 a3 a4 a5 a6 a7 a8 a9 a10 a11 a12 a13 a14
  node := fun a _ => match a with
   | .n0 => frsnode0 a0 a1 a2 a3 a4 a5 a6 a7 a8 a9 a10 a11 a12 a13 a14
   | .n1 p0 p1 p2 => frsnode1 a0 a1 a2 a3 a4 a5 a6 a7 a8 a9 a10 a11 a12 a13 a14 p0 p1 p2
  pd := fun a => match a with
   | .n0 => ⟨(fa_cons rfl (fa_cons rfl (fa_cons rfl (fa_cons rfl (fa_cons rfl (fa_cons rfl (fa_cons rfl (fa_cons rfl (fa_cons rfl fa_nil))))))))), (fa_cons ⟨.inl (Nat.le_of_ble_eq_true rfl), rfl, rfl⟩ (fa_cons ⟨.inl (Nat.le_of_ble_eq_true rfl), rfl, rfl⟩ (fa_cons ⟨.inl (Nat.le_of_ble_eq_true rfl), rfl, rfl⟩ (fa_cons ⟨.inl (Nat.le_of_ble_eq_true rfl), rfl, rfl⟩ (fa_cons ⟨.inl (Nat.le_of_ble_eq_true rfl), rfl, rfl⟩ fa_nil))))), fa_nil, rfl⟩
   | .n1 p0 p1 p2 => ⟨(fa_cons rfl (fa_cons rfl (fa_cons rfl (fa_cons rfl (fa_cons rfl (fa_cons rfl (fa_cons rfl (fa_cons rfl (fa_cons rfl (fa_cons rfl fa_nil)))))))))), (fa_cons ⟨.inl (Nat.le_of_ble_eq_true rfl), rfl, rfl⟩ (fa_cons ⟨.inl (Nat.le_of_ble_eq_true rfl), rfl, rfl⟩ (fa_cons ⟨.inl (Nat.le_of_ble_eq_true rfl), rfl, rfl⟩ (fa_cons ⟨.inl (Nat.le_of_ble_eq_true rfl), rfl, rfl⟩ (fa_cons ⟨.inl (Nat.le_of_ble_eq_true rfl), rfl, rfl⟩ fa_nil))))), fa_nil, rfl⟩
  le := fun a => match a with
   | .n0 => Nat.le_of_ble_eq_true rfl
   | .n1 p0 p1 p2 => Nat.le_of_ble_eq_true rfl
  rd := fun v => ⟨⟨fa_nil, fa_nil, fa_nil, rfl⟩, rfl⟩
  wb := rfl
theorem frshR {ρ : Env} (a0 : Nat) (a1 a2 : Nat → Int) (a3 a4 : Int) (a5 : Nat) (a6 a7 : Nat → Int) (a8 a9 a10 a11 a12 a13 a14 : Int) (hM : MemoOk Try.prog (ctxOf Try.prog memo0) ρ) : ∀ X a q n D, FxOk ρ X → X.base = (frsA a0 a1 a2 a3 a4 a5 a6 a7 a8 a9 a10 a11 a12 a13 a14).base → X.nt = (frsA a0 a1 a2 a3 a4 a5 a6 a7 a8 a9 a10 a11 a12 a13 a14).nt → X.W = (frsA a0 a1 a2 a3 a4 a5 a6 a7 a8 a9 a10 a11 a12 a13 a14).W → (frsA a0 a1 a2 a3 a4 a5 a6 a7 a8 a9 a10 a11 a12 a13 a14).rgo a = some q → q n = some D → (frsA a0 a1 a2 a3 a4 a5 a6 a7 a8 a9 a10 a11 a12 a13 a14).RangeOk Try.prog ρ X a D := AF.noRange rfl
theorem frsctr {ρ : Env} (a0 : Nat) (a1 a2 : Nat → Int) (a3 a4 : Int) (a5 : Nat) (a6 a7 : Nat → Int) (a8 a9 a10 a11 a12 a13 a14 : Int) {n : Nat} {v : frsR} (hM : MemoOk Try.prog (ctxOf Try.prog memo0) ρ) (hv : (frsA a0 a1 a2 a3 a4 a5 a6 a7 a8 a9 a10 a11 a12 a13 a14).run n = some v) :
    Ctr Try.prog ρ 27 (frsA a0 a1 a2 a3 a4 a5 a6 a7 a8 a9 a10 a11 a12 a13 a14).args (frsA a0 a1 a2 a3 a4 a5 a6 a7 a8 a9 a10 a11 a12 a13 a14).H0 (frsA a0 a1 a2 a3 a4 a5 a6 a7 a8 a9 a10 a11 a12 a13 a14).base (frsA a0 a1 a2 a3 a4 a5 a6 a7 a8 a9 a10 a11 a12 a13 a14).W ((frsA a0 a1 a2 a3 a4 a5 a6 a7 a8 a9 a10 a11 a12 a13 a14).rc v) (putH (frsA a0 a1 a2 a3 a4 a5 a6 a7 a8 a9 a10 a11 a12 a13 a14).H0 ((frsA a0 a1 a2 a3 a4 a5 a6 a7 a8 a9 a10 a11 a12 a13 a14).rh v ++ (frsA a0 a1 a2 a3 a4 a5 a6 a7 a8 a9 a10 a11 a12 a13 a14).rx v)) ((frsA a0 a1 a2 a3 a4 a5 a6 a7 a8 a9 a10 a11 a12 a13 a14).rn v) :=
  AF.ctr try_ok hM (frsok a0 a1 a2 a3 a4 a5 a6 a7 a8 a9 a10 a11 a12 a13 a14) (fn := Try.f27) Try.func27 rfl rfl (Nat.le_of_ble_eq_true rfl) rfl (frshR a0 a1 a2 a3 a4 a5 a6 a7 a8 a9 a10 a11 a12 a13 a14 hM) hv
theorem frsmem {ρ : Env} : MemoOk Try.prog (ctxOf Try.prog memo0) ρ := memo0_ok
abbrev frsP : List AQ := [.agg [.rows [some .i64, some .i64], .int .i64, .int .i64], .agg [.rows [some .i64, some .i64], .int .i64, .int .i64], .int .i64, .int .i64, .int .i64, .agg [.int .i64, .int .i64]]
noncomputable def frsF (v : AW) : AF frsN frsR := frsA (v.t.getD 0 .none).n ((v.t.getD 0 .none).c 0) ((v.t.getD 0 .none).c 1) (v.i.getD 0 0) (v.i.getD 1 0) (v.t.getD 1 .none).n ((v.t.getD 1 .none).c 0) ((v.t.getD 1 .none).c 1) (v.i.getD 2 0) (v.i.getD 3 0) (v.i.getD 4 0) (v.i.getD 5 0) (v.i.getD 6 0) (v.i.getD 7 0) (v.i.getD 8 0)
noncomputable def frsW : frsR → CV := fun v => .agg [.int .i64 (.x v.1), .int .i64 (.x v.2)]
noncomputable def frsH : frsR → List (Nat × Blk) := fun v => []
instance : Inhabited frsR := ⟨(0, 0)⟩
theorem frsknown {ρ : Env} (hM : MemoOk Try.prog (ctxOf Try.prog memo0) ρ) : KnownS Try.prog ρ 27 frsP frsF frsW frsH 2 where
  fn := ⟨Try.f27, Try.func27, rfl⟩
  le := Nat.le_of_ble_eq_true rfl
  full := fun r => rfl
  rg := fun r => rfl
  hg := fun r => fa_nil
  ctr := fun v n r h => frsctr (v.t.getD 0 .none).n ((v.t.getD 0 .none).c 0) ((v.t.getD 0 .none).c 1) (v.i.getD 0 0) (v.i.getD 1 0) (v.t.getD 1 .none).n ((v.t.getD 1 .none).c 0) ((v.t.getD 1 .none).c 1) (v.i.getD 2 0) (v.i.getD 3 0) (v.i.getD 4 0) (v.i.getD 5 0) (v.i.getD 6 0) (v.i.getD 7 0) (v.i.getD 8 0) hM h
end Go.Proofs.Ytjdldcmcjaaibaa.Cx

/- acme/acmeref03.Same as an automaton. Made by tools/cxauto.py. -/
namespace Go.Proofs.Ytjdldcmcjaaibaa.Cx
set_option linter.unusedVariables false
set_option linter.unusedSimpArgs false
set_option maxRecDepth 100000
open Go Go.Proofs Go.RowKit
noncomputable abbrev fsmCode : Code := funcCode Try.f18
inductive fsmN where
  | n0 (p0 : Int)
abbrev fsmR := Bool
noncomputable def fsmD0 (a0 : Nat) (a1 a2 : Nat → Int) (a3 a4 : Int) (a5 : Nat) (a6 a7 : Nat → Int) (a8 a9 : Int) : DD (Lf fsmN fsmR) :=
 .ask (Cm.run .neq a3 a8)
   (.leaf (.done false []))
   (.ask (Cm.run .neq a4 a9)
   (.leaf (.done false []))
   (.ask (Cm.run .neq (↑a0 : Int) (↑a5 : Int))
   (.leaf (.done false []))
   (.leaf (.next (.n0 0) [2, 3]))))

noncomputable def fsmD (a0 : Nat) (a1 a2 : Nat → Int) (a3 a4 : Int) (a5 : Nat) (a6 a7 : Nat → Int) (a8 a9 : Int) : fsmN → DD (Lf fsmN fsmR)
 | .n0 p0 =>
 let z0 := decide (0 ≤ p0)
 .ask (Cm.run .lss p0 (↑a0 : Int))
   (.must z0
   (.must (decide (p0 < (↑a0 : Int)))
   (.must (decide (0 + Int.toNat p0 < a0))
   (.must z0
   (.must (decide (p0 < (↑a5 : Int)))
   (.must (decide (0 + Int.toNat p0 < a5))
   (.ask (Cm.run .eql (a1 (0 + Int.toNat p0)) (a6 (0 + Int.toNat p0)))
   (.ask (Cm.run .eql (a2 (0 + Int.toNat p0)) (a7 (0 + Int.toNat p0)))
   (.leaf (.next (.n0 (Ar.run .add .i64 p0 1)) [2, 3]))
   (.leaf (.done false [])))
   (.leaf (.done false [])))))))))
   (.leaf (.done true []))

noncomputable def fsmA (a0 : Nat) (a1 a2 : Nat → Int) (a3 a4 : Int) (a5 : Nat) (a6 a7 : Nat → Int) (a8 a9 : Int) : AF fsmN fsmR where
  code := fsmCode
  base := 2
  nt := 45
  m := 400
  un := []
  W := []
  h0 := [(0, ⟨.arg a0 2 (fun i => [.int .i64 (.x (a1 i)), .int .i64 (.x (a2 i))]) (fun _ => ⟨rfl, rfl⟩), 2, true, none⟩), (1, ⟨.arg a5 2 (fun i => [.int .i64 (.x (a6 i)), .int .i64 (.x (a7 i))]) (fun _ => ⟨rfl, rfl⟩), 2, true, none⟩)]
  args := [.agg [.sla 0 2 0 a0, .int .i64 (.x a3), .int .i64 (.x a4)], .agg [.sla 1 2 0 a5, .int .i64 (.x a8), .int .i64 (.x a9)]]
  res := (Try.f18).results.toList
  path := fun a => match a with
   | .n0 p0 => [1, 1, 0, 1, 0]
  pd := fun a => match a with
   | .n0 p0 => ⟨[(2, .ptr (some (2, 0))), (3, .ptr (some (3, 0))), (5, .int .i64 (.x p0))], [(2, ⟨.lit [.sla 0 2 0 a0, .int .i64 (.x a3), .int .i64 (.x a4)], 0, true, none⟩), (3, ⟨.lit [.sla 1 2 0 a5, .int .i64 (.x a8), .int .i64 (.x a9)], 0, true, none⟩)], 4, []⟩
  D0 := fsmD0 a0 a1 a2 a3 a4 a5 a6 a7 a8 a9
  D := fsmD a0 a1 a2 a3 a4 a5 a6 a7 a8 a9
  rc := (fun v => .bool (.x v))
  rh := (fun v => [])
  rn := (fun v => 2)
  rx := (fun v => [])
  rgo := (fun _ => none)
theorem fsmstart (a0 : Nat) (a1 a2 : Nat → Int) (a3 a4 : Int) (a5 : Nat) (a6 a7 : Nat → Int) (a8 a9 : Int) : AF.edgeOk (fsmA a0 a1 a2 a3 a4 a5 a6 a7 a8 a9) (ctxOf Try.prog memo0) (fsmD0 a0 a1 a2 a3 a4 a5 a6 a7 a8 a9) (AF.run0 (fsmA a0 a1 a2 a3 a4 a5 a6 a7 a8 a9) (ctxOf Try.prog memo0)) := by unfold AF.edgeOk; kernel_rfl
theorem fsmnode0 (a0 : Nat) (a1 a2 : Nat → Int) (a3 a4 : Int) (a5 : Nat) (a6 a7 : Nat → Int) (a8 a9 p0 : Int) : AF.edgeOk (fsmA a0 a1 a2 a3 a4 a5 a6 a7 a8 a9) (ctxOf Try.prog memo0) (fsmD a0 a1 a2 a3 a4 a5 a6 a7 a8 a9 (.n0 p0)) (AF.runN (fsmA a0 a1 a2 a3 a4 a5 a6 a7 a8 a9) (ctxOf Try.prog memo0) (.n0 p0)) := by unfold AF.edgeOk; kernel_rfl
theorem fsmok (a0 : Nat) (a1 a2 : Nat → Int) (a3 a4 : Int) (a5 : Nat) (a6 a7 : Nat → Int) (a8 a9 : Int) : (fsmA a0 a1 a2 a3 a4 a5 a6 a7 a8 a9).Ok Try.prog (ctxOf Try.prog memo0) where
  regs := by kernel_rfl
  h0 := by kernel_rfl
  start := fsmstart a0 a1 a2 a3 a4 a5 a6 a7 a8 a9
  node := fun a _ => match a with
   | .n0 p0 => fsmnode0 a0 a1 a2 a3 a4 a5 a6 a7 a8 a9 p0
  pd := fun a => match a with
   | .n0 p0 => ⟨(fa_cons rfl (fa_cons rfl (fa_cons rfl fa_nil))), (fa_cons ⟨.inl (Nat.le_of_ble_eq_true rfl), rfl, rfl⟩ (fa_cons ⟨.inl (Nat.le_of_ble_eq_true rfl), rfl, rfl⟩ fa_nil)), fa_nil, rfl⟩
  le := fun a => match a with
   | .n0 p0 => Nat.le_of_ble_eq_true rfl
  rd := fun v => ⟨⟨fa_nil, fa_nil, fa_nil, rfl⟩, rfl⟩
  wb := rfl
theorem fsmhR {ρ : Env} (a0 : Nat) (a1 a2 : Nat → Int) (a3 a4 : Int) (a5 : Nat) (a6 a7 : Nat → Int) (a8 a9 : Int) (hM : MemoOk Try.prog (ctxOf Try.prog memo0) ρ) : ∀ X a q n D, FxOk ρ X → X.base = (fsmA a0 a1 a2 a3 a4 a5 a6 a7 a8 a9).base → X.nt = (fsmA a0 a1 a2 a3 a4 a5 a6 a7 a8 a9).nt → X.W = (fsmA a0 a1 a2 a3 a4 a5 a6 a7 a8 a9).W → (fsmA a0 a1 a2 a3 a4 a5 a6 a7 a8 a9).rgo a = some q → q n = some D → (fsmA a0 a1 a2 a3 a4 a5 a6 a7 a8 a9).RangeOk Try.prog ρ X a D := AF.noRange rfl
theorem fsmctr {ρ : Env} (a0 : Nat) (a1 a2 : Nat → Int) (a3 a4 : Int) (a5 : Nat) (a6 a7 : Nat → Int) (a8 a9 : Int) {n : Nat} {v : fsmR} (hM : MemoOk Try.prog (ctxOf Try.prog memo0) ρ) (hv : (fsmA a0 a1 a2 a3 a4 a5 a6 a7 a8 a9).run n = some v) :
    Ctr Try.prog ρ 18 (fsmA a0 a1 a2 a3 a4 a5 a6 a7 a8 a9).args (fsmA a0 a1 a2 a3 a4 a5 a6 a7 a8 a9).H0 (fsmA a0 a1 a2 a3 a4 a5 a6 a7 a8 a9).base (fsmA a0 a1 a2 a3 a4 a5 a6 a7 a8 a9).W ((fsmA a0 a1 a2 a3 a4 a5 a6 a7 a8 a9).rc v) (putH (fsmA a0 a1 a2 a3 a4 a5 a6 a7 a8 a9).H0 ((fsmA a0 a1 a2 a3 a4 a5 a6 a7 a8 a9).rh v ++ (fsmA a0 a1 a2 a3 a4 a5 a6 a7 a8 a9).rx v)) ((fsmA a0 a1 a2 a3 a4 a5 a6 a7 a8 a9).rn v) :=
  AF.ctr try_ok hM (fsmok a0 a1 a2 a3 a4 a5 a6 a7 a8 a9) (fn := Try.f18) Try.func18 rfl rfl (Nat.le_of_ble_eq_true rfl) rfl (fsmhR a0 a1 a2 a3 a4 a5 a6 a7 a8 a9 hM) hv
theorem fsmmem {ρ : Env} : MemoOk Try.prog (ctxOf Try.prog memo0) ρ := memo0_ok
abbrev fsmP : List AQ := [.agg [.rows [some .i64, some .i64], .int .i64, .int .i64], .agg [.rows [some .i64, some .i64], .int .i64, .int .i64]]
noncomputable def fsmF (v : AW) : AF fsmN fsmR := fsmA (v.t.getD 0 .none).n ((v.t.getD 0 .none).c 0) ((v.t.getD 0 .none).c 1) (v.i.getD 0 0) (v.i.getD 1 0) (v.t.getD 1 .none).n ((v.t.getD 1 .none).c 0) ((v.t.getD 1 .none).c 1) (v.i.getD 2 0) (v.i.getD 3 0)
noncomputable def fsmW : fsmR → CV := fun v => .bool (.x v)
noncomputable def fsmH : fsmR → List (Nat × Blk) := fun v => []
instance : Inhabited fsmR := ⟨false⟩
theorem fsmknown {ρ : Env} (hM : MemoOk Try.prog (ctxOf Try.prog memo0) ρ) : KnownS Try.prog ρ 18 fsmP fsmF fsmW fsmH 2 where
  fn := ⟨Try.f18, Try.func18, rfl⟩
  le := Nat.le_of_ble_eq_true rfl
  full := fun r => rfl
  rg := fun r => rfl
  hg := fun r => fa_nil
  ctr := fun v n r h => fsmctr (v.t.getD 0 .none).n ((v.t.getD 0 .none).c 0) ((v.t.getD 0 .none).c 1) (v.i.getD 0 0) (v.i.getD 1 0) (v.t.getD 1 .none).n ((v.t.getD 1 .none).c 0) ((v.t.getD 1 .none).c 1) (v.i.getD 2 0) (v.i.getD 3 0) hM h
end Go.Proofs.Ytjdldcmcjaaibaa.Cx

/- The reference of chapter 3: Check, Two, Shifts, Same. -/
namespace Go.Proofs.Ytjdldcmcjaaibaa.Cx
set_option linter.unusedVariables false
set_option linter.unusedSimpArgs false
set_option maxRecDepth 100000
set_option maxHeartbeats 4000000
open Go Go.RowKit
section
variable {a0 : Nat} {a1 a2 : Nat → Int} {a3 a4 : Int}
def FckI (a0 : Nat) (a1 a2 : Nat → Int) (a3 a4 : Int) : fckN → Prop
  | .n0 p0 => 0 ≤ p0 ∧ OrdUp a0 a1 a2 p0.toNat
theorem fck_val : AF.fin (fckA a0 a1 a2 a3 a4) = true ∧ CkT a0 a1 a2 a3 a4 (AF.val (fckA a0 a1 a2 a3 a4)) := by
  by_cases hn : a0 > 60
  · refine flat_val (E := CkT a0 a1 a2 a3 a4) (fun _ => rfl) ?_
    show DD.sat _ _ (fckD0 a0 a1 a2 a3 a4)
    unfold fckD0
    simp only [DD.sat, cmGtr, cmGtrF]
    exact ⟨fun _ => .inl ⟨by omega, rfl⟩, fun h => by omega⟩
  · have bad : ¬ ThOk a0 a1 a2 a3 a4 → CkT a0 a1 a2 a3 a4 2 := fun h => .inr ⟨by omega, .inr ⟨h, rfl⟩⟩
    have ok : ThOk a0 a1 a2 a3 a4 → CkT a0 a1 a2 a3 a4 0 := fun h => .inr ⟨by omega, .inl ⟨h, rfl⟩⟩
    have b2 : a0 = 0 ∨ a3 < 0 ∨ 3000 < a3 ∨ a4 < 0 ∨ 3000 < a4 → CkT a0 a1 a2 a3 a4 2 := fun e => bad fun h => by have := h.left; have := h.right; have := h.some; omega
    by_cases hb : a0 = 0 ∨ a3 < 0 ∨ 3000 < a3 ∨ a4 < 0 ∨ 3000 < a4
    · have b := b2 hb
      refine flat_val (E := CkT a0 a1 a2 a3 a4) (fun _ => rfl) ?_
      show DD.sat _ _ (fckD0 a0 a1 a2 a3 a4)
      unfold fckD0
      simp only [DD.sat, cmGtr, cmGtrF, cmEql, cmEqlF, cmGeq, cmGeqF, cmLeq, cmLeqF]
      exact ⟨fun h => by omega, fun _ => ⟨fun _ => b, fun h1 => ⟨fun h2 => ⟨fun h3 => ⟨fun h4 => ⟨fun h5 => by omega, fun _ => b⟩, fun _ => b⟩, fun _ => b⟩, fun _ => b⟩⟩⟩
    · refine AF.val_sat (E := CkT a0 a1 a2 a3 a4) (Inv := FckI a0 a1 a2 a3 a4) (fun b => match b with | .n0 p0 => (a0 - p0).toNat) (fun _ => rfl) (fun a hI => ?_) ?_
      · cases a with
        | n0 p0 =>
          obtain ⟨g0, g1⟩ := hI
          have gl := g1.le
          show DD.sat _ _ (fckD a0 a1 a2 a3 a4 (.n0 p0))
          unfold fckD
          have bd : ¬ OrdP a0 a1 a2 → CkT a0 a1 a2 a3 a4 2 := fun h => bad fun g => h g.ord
          have e1 : p0 < a0 → Ar.run .add .i64 p0 1 = p0 + 1 := fun h => arAdd (by omega)
          have e2 : Ar.run .sub .i64 p0 1 = p0 - 1 := arSub (by omega)
          simp only [DD.sat, Nat.zero_add, e2, cmLss, cmLssF, cmLeq, cmLeqF, cmGeq, cmGeqF, cmGtr, cmGtrF, decide_eq_true_eq]
          refine ⟨fun hp => ⟨g0, hp, by omega, fun h1 => ⟨fun h2 => ⟨fun h3 => bd (OrdP.bad (k := p0.toNat) (by omega) (by omega)), fun h3 => ⟨fun h4 => ⟨by omega, by omega, by omega, fun h5 => bd ?_, fun h5 => ⟨⟨by rw [e1 hp]; omega, ?_⟩, by rw [e1 hp]; omega⟩⟩, fun h4 => ⟨⟨by rw [e1 hp]; omega, ?_⟩, by rw [e1 hp]; omega⟩⟩⟩, fun h2 => bd (OrdP.bad (k := p0.toNat) (by omega) (by omega))⟩, fun h1 => bd (OrdP.bad (k := p0.toNat) (by omega) (by omega))⟩, fun hp => ok ⟨by omega, by omega, ?_, by omega, by omega⟩⟩
          · refine OrdP.bad2 (k := (p0 - 1).toNat) (by omega) ?_
            rw [show (p0 - 1).toNat + 1 = p0.toNat by omega]
            omega
          · rw [e1 hp, show (p0 + 1).toNat = p0.toNat + 1 by omega]
            exact g1.next (by omega) (by omega) fun i hi => by rw [show i = (p0 - 1).toNat by omega]; omega
          · rw [e1 hp, show (p0 + 1).toNat = p0.toNat + 1 by omega]
            exact g1.next (by omega) (by omega) fun i hi => by omega
          · rw [show p0.toNat = a0 by omega] at g1
            exact g1.done
      · show DD.sat _ _ (fckD0 a0 a1 a2 a3 a4)
        unfold fckD0
        simp only [DD.sat, cmGtr, cmGtrF, cmEql, cmEqlF, cmGeq, cmGeqF, cmLeq, cmLeqF]
        have st : FckI a0 a1 a2 a3 a4 (.n0 0) := ⟨by omega, OrdUp.start _ _ _⟩
        exact ⟨fun h => by omega, fun _ => ⟨fun h => by omega, fun h1 => ⟨fun h2 => ⟨fun h3 => ⟨fun h4 => ⟨fun h5 => st, fun h => by omega⟩, fun h => by omega⟩, fun h => by omega⟩, fun h => by omega⟩⟩⟩
theorem same_val {a5 : Nat} {a6 a7 : Nat → Int} {a8 a9 : Int} (h3 : a8 = a3) (h4 : a9 = a4) (h0 : a5 = a0) (h1 : ∀ i, i < a0 → a6 i = a1 i) (h2 : ∀ i, i < a0 → a7 i = a2 i) (hn : a0 ≤ 1000000) : AF.fin (fsmA a0 a1 a2 a3 a4 a5 a6 a7 a8 a9) = true ∧ AF.val (fsmA a0 a1 a2 a3 a4 a5 a6 a7 a8 a9) = true := by
  subst h3 h4 h0
  refine AF.val_sat (E := fun v => v = true) (Inv := fun (b : fsmN) => match b with | .n0 p0 => 0 ≤ p0 ∧ p0 ≤ a5) (fun (b : fsmN) => match b with | .n0 p0 => (a5 - p0).toNat) (fun _ => rfl) (fun a hI => ?_) ?_
  · cases a with
    | n0 p0 =>
      obtain ⟨g0, g1⟩ := hI
      show DD.sat _ _ (fsmD a5 a1 a2 a8 a9 a5 a6 a7 a8 a9 (.n0 p0))
      unfold fsmD
      have e1 : p0 < a5 → Ar.run .add .i64 p0 1 = p0 + 1 := fun h => arAdd (by omega)
      simp only [DD.sat, Nat.zero_add, cmLss, cmLssF, cmEql, cmEqlF, decide_eq_true_eq]
      refine ⟨fun hp => ⟨g0, hp, by omega, g0, hp, by omega, fun h5 => ⟨fun h6 => ⟨by rw [e1 hp]; omega, by rw [e1 hp]; omega⟩, fun h => absurd (h2 p0.toNat (by omega)).symm h⟩, fun h => absurd (h1 p0.toNat (by omega)).symm h⟩, fun _ => trivial⟩
  · show DD.sat _ _ (fsmD0 a5 a1 a2 a8 a9 a5 a6 a7 a8 a9)
    unfold fsmD0
    simp only [DD.sat, cmNeq, cmNeqF]
    exact ⟨fun h => absurd rfl h, fun _ => ⟨fun h => absurd rfl h, fun _ => ⟨fun h => absurd rfl h, fun _ => ⟨by omega, by omega⟩⟩⟩⟩
end
/-- The error of two threads and a depth. -/
def TwE (n : Nat) (l r : Nat → Int) (a b : Int) (m : Nat) (l' r' : Nat → Int) (a' b' : Int) (d e : Int) (v : Int) : Prop :=
  ∃ x y, CkT n l r a b x ∧ CkT m l' r' a' b' y ∧ (x ≠ 0 ∧ v = x ∨ x = 0 ∧ (y ≠ 0 ∧ v = y ∨ y = 0 ∧ ((-200000 ≤ d ∧ d ≤ e ∧ e ≤ 200000) ∧ v = 0 ∨ ¬ (-200000 ≤ d ∧ d ≤ e ∧ e ≤ 200000) ∧ v = 3)))
theorem TwE.same {n : Nat} {l r : Nat → Int} {a b : Int} {m : Nat} {l' r' : Nat → Int} {a' b' d e v w : Int} (h : TwE n l r a b m l' r' a' b' d e v) (g : TwE n l r a b m l' r' a' b' d e w) : v = w := by
  obtain ⟨x, y, h1, h2, h3⟩ := h
  obtain ⟨z, u, g1, g2, g3⟩ := g
  obtain rfl := h1.same g1
  obtain rfl := h2.same g2
  omega
theorem TwE.ok {n : Nat} {l r : Nat → Int} {a b : Int} {m : Nat} {l' r' : Nat → Int} {a' b' d e v : Int} (h : TwE n l r a b m l' r' a' b' d e v) (hv : v = 0) : ThOk n l r a b ∧ ThOk m l' r' a' b' ∧ -200000 ≤ d ∧ d ≤ e ∧ e ≤ 200000 := by
  obtain ⟨x, y, h1, h2, h3⟩ := h
  exact ⟨h1.ok (by omega), h2.ok (by omega), by omega, by omega, by omega⟩
section
variable {a0 : Nat} {a1 a2 : Nat → Int} {a3 a4 : Int} {a5 : Nat} {a6 a7 : Nat → Int} {a8 a9 a10 a11 : Int}
theorem frt_val : AF.fin (frtA a0 a1 a2 a3 a4 a5 a6 a7 a8 a9 a10 a11) = true ∧ TwE a0 a1 a2 a3 a4 a5 a6 a7 a8 a9 a10 a11 (AF.val (frtA a0 a1 a2 a3 a4 a5 a6 a7 a8 a9 a10 a11)) := by
  refine flat_val (E := TwE a0 a1 a2 a3 a4 a5 a6 a7 a8 a9 a10 a11) (fun _ => rfl) ?_
  show DD.sat _ _ (frtD0 a0 a1 a2 a3 a4 a5 a6 a7 a8 a9 a10 a11)
  obtain ⟨f1, v1⟩ := fck_val (a0 := a0) (a1 := a1) (a2 := a2) (a3 := a3) (a4 := a4)
  obtain ⟨f2, v2⟩ := fck_val (a0 := a5) (a1 := a6) (a2 := a7) (a3 := a8) (a4 := a9)
  unfold frtD0
  simp only [DD.sat, Nat.zero_add, cmNeq, cmNeqF, cmGeq, cmGeqF, cmLeq, cmLeqF, decide_eq_true_eq]
  change _ ∧ _ ∧ AF.fin (fckA a0 a1 a2 a3 a4) = true ∧ (AF.val (fckA a0 a1 a2 a3 a4) ≠ 0 → TwE a0 a1 a2 a3 a4 a5 a6 a7 a8 a9 a10 a11 (AF.val (fckA a0 a1 a2 a3 a4))) ∧ _
  refine ⟨Nat.le_refl _, shape_ok fun i _ => rfl, f1, fun h1 => ⟨_, _, v1, v2, .inl ⟨h1, rfl⟩⟩, fun h1 => ⟨Nat.le_refl _, shape_ok fun i _ => rfl, f2, fun h2 => ⟨_, _, v1, v2, .inr ⟨h1, .inl ⟨h2, rfl⟩⟩⟩, fun h2 => ?_⟩⟩
  have ok : (-200000 ≤ a10 ∧ a10 ≤ a11 ∧ a11 ≤ 200000) → TwE a0 a1 a2 a3 a4 a5 a6 a7 a8 a9 a10 a11 0 := fun h => ⟨_, _, v1, v2, .inr ⟨h1, .inr ⟨h2, .inl ⟨h, rfl⟩⟩⟩⟩
  have bad : ¬ (-200000 ≤ a10 ∧ a10 ≤ a11 ∧ a11 ≤ 200000) → TwE a0 a1 a2 a3 a4 a5 a6 a7 a8 a9 a10 a11 3 := fun h => ⟨_, _, v1, v2, .inr ⟨h1, .inr ⟨h2, .inr ⟨h, rfl⟩⟩⟩⟩
  exact ⟨fun h3 => ⟨fun h4 => ⟨fun h5 => ok ⟨h3, h4, h5⟩, fun h5 => bad (by omega)⟩, fun h4 => bad (by omega)⟩, fun h3 => bad (by omega)⟩
end
theorem rshL {x y d u v : Int} (hx : -10000000 ≤ x ∧ x ≤ 10000000) (hy : -10000000 ≤ y ∧ y ≤ 10000000) (hd : -200000 ≤ d ∧ d ≤ 200000) (hu : 0 ≤ u ∧ u ≤ 3000) (hv : 0 ≤ v ∧ v ≤ 3000) :
    Ar.run .sub .i64 (Ar.run .add .i64 (Ar.run .mul .i64 1000 x) (Ar.run .mul .i64 d u)) (Ar.run .add .i64 (Ar.run .mul .i64 1000 y) (Ar.run .mul .i64 d v)) = 1000 * x - 1000 * y + d * (u - v) ∧
    Ar.run .sub .i64 (Ar.run .sub .i64 (Ar.run .mul .i64 1000 x) (Ar.run .mul .i64 d u)) (Ar.run .sub .i64 (Ar.run .mul .i64 1000 y) (Ar.run .mul .i64 d v)) = 1000 * x - 1000 * y - d * (u - v) := by
  have m1 := mulR (x := d) (y := u) (A := 200000) (B := 3000) (by omega) (by omega)
  have m2 := mulR (x := d) (y := v) (A := 200000) (B := 3000) (by omega) (by omega)
  have e1 : Ar.run .mul .i64 1000 x = 1000 * x := arMul (by omega)
  have e2 : Ar.run .mul .i64 1000 y = 1000 * y := arMul (by omega)
  rw [e1, e2, arMul (a := d) (b := u) (by omega), arMul (a := d) (b := v) (by omega), Int.mul_sub]
  generalize d * u = z at *
  generalize d * v = w at *
  rw [arAdd (by omega), arAdd (by omega), arSub (by omega), arSub (a := 1000 * x) (by omega), arSub (a := 1000 * y) (by omega), arSub (by omega)]
  omega
section
variable {a0 : Nat} {a1 a2 : Nat → Int} {a3 a4 : Int} {a5 : Nat} {a6 a7 : Nat → Int} {a8 a9 a10 a11 a12 a13 a14 : Int}
def Th (l : Nat → Int) : Nat → Int := fun i => 1000 * l i
theorem stOk (hs : ThOk a0 a1 a2 a3 a4) (hn : ThOk a5 a6 a7 a8 a9) (h1 : 0 ≤ a10 ∧ a10 + a12 ≤ a0) (h2 : 0 ≤ a11 ∧ a11 + a12 ≤ a5) : StOk a0 a5 (Th a1) (Th a2) (Th a6) (Th a7) a10 a11 a12 :=
  ⟨h1.1, h2.1, h1.2, h2.2, hs.few, hn.few, fun i hi => by have := hs.ord.one i hi; unfold Th; omega, fun i hi => by have := hn.ord.one i hi; unfold Th; omega⟩
theorem frs_val (hs : ThOk a0 a1 a2 a3 a4) (hn : ThOk a5 a6 a7 a8 a9) (h1 : 0 ≤ a10 ∧ a10 + a12 ≤ a0) (h2 : 0 ≤ a11 ∧ a11 + a12 ≤ a5) (hk : 1 ≤ a12) (hd : -200000 ≤ a13 ∧ a13 ≤ a14 ∧ a14 ≤ 200000) :
    AF.fin (frsA a0 a1 a2 a3 a4 a5 a6 a7 a8 a9 a10 a11 a12 a13 a14) = true ∧ AF.val (frsA a0 a1 a2 a3 a4 a5 a6 a7 a8 a9 a10 a11 a12 a13 a14) = (Fst a13 a14 (Th a1) (Th a6) a3 a8 a10 a11 a12.toNat, Lst a13 a14 (Th a2) (Th a7) a4 a9 a10 a11 a12.toNat) := by
  have S := stOk hs hn h1 h2
  have o1 := OvL_rng (c := a8 - a3) hd (by have := hs.left; have := hn.left; omega)
  have o2 := OvL_rng (c := a9 - a4) hd (by have := hs.right; have := hn.right; omega)
  have hf := hs.few
  have hf' := hn.few
  have key : ∀ p0 p1 p2 : Int, 0 ≤ p0 → p0 < a12 →
      Ar.run .mx .i64 (Ar.run .mx .i64 p1 (Ar.run .sub .i64 (Ar.run .add .i64 (Ar.run .mul .i64 1000 (a6 (a11 + p0).toNat)) (Ar.run .mul .i64 a13 a8)) (Ar.run .add .i64 (Ar.run .mul .i64 1000 (a1 (a10 + p0).toNat)) (Ar.run .mul .i64 a13 a3)))) (Ar.run .sub .i64 (Ar.run .add .i64 (Ar.run .mul .i64 1000 (a6 (a11 + p0).toNat)) (Ar.run .mul .i64 a14 a8)) (Ar.run .add .i64 (Ar.run .mul .i64 1000 (a1 (a10 + p0).toNat)) (Ar.run .mul .i64 a14 a3))) = max p1 (FlI (Th a1) (Th a6) a10 a11 p0.toNat + OvL a13 a14 (a8 - a3)) ∧
      Ar.run .mn .i64 (Ar.run .mn .i64 p2 (Ar.run .sub .i64 (Ar.run .sub .i64 (Ar.run .mul .i64 1000 (a7 (a11 + p0).toNat)) (Ar.run .mul .i64 a13 a9)) (Ar.run .sub .i64 (Ar.run .mul .i64 1000 (a2 (a10 + p0).toNat)) (Ar.run .mul .i64 a13 a4)))) (Ar.run .sub .i64 (Ar.run .sub .i64 (Ar.run .mul .i64 1000 (a7 (a11 + p0).toNat)) (Ar.run .mul .i64 a14 a9)) (Ar.run .sub .i64 (Ar.run .mul .i64 1000 (a2 (a10 + p0).toNat)) (Ar.run .mul .i64 a14 a4))) = min p2 (FlI (Th a2) (Th a7) a10 a11 p0.toNat - OvL a13 a14 (a9 - a4)) := by
    intro p0 p1 p2 g0 g1
    have b1 := hs.ord.one (a10 + p0).toNat (by omega)
    have b2 := hn.ord.one (a11 + p0).toNat (by omega)
    have hq : (p0.toNat : Int) = p0 := by omega
    rw [(rshL (x := a6 (a11 + p0).toNat) (y := a1 (a10 + p0).toNat) (d := a13) (by omega) (by omega) (by omega) hn.left hs.left).1, (rshL (x := a6 (a11 + p0).toNat) (y := a1 (a10 + p0).toNat) (d := a14) (by omega) (by omega) (by omega) hn.left hs.left).1,
      (rshL (x := a7 (a11 + p0).toNat) (y := a2 (a10 + p0).toNat) (d := a13) (by omega) (by omega) (by omega) hn.right hs.right).2, (rshL (x := a7 (a11 + p0).toNat) (y := a2 (a10 + p0).toNat) (d := a14) (by omega) (by omega) (by omega) hn.right hs.right).2, arMx, arMx, arMn, arMn]
    simp only [FlI, Th, OvL, hq]
    omega
  have e0 : ∀ p0 : Int, 0 ≤ p0 → p0 < a12 → Ar.run .add .i64 a10 p0 = a10 + p0 ∧ Ar.run .add .i64 a11 p0 = a11 + p0 ∧ Ar.run .add .i64 p0 1 = p0 + 1 := fun p0 g0 g1 => ⟨arAdd (by omega), arAdd (by omega), arAdd (by omega)⟩
  have hM : ∀ k, mxK (fun i => FlI (Th a1) (Th a6) a10 a11 i + OvL a13 a14 (a8 - a3)) (-1152921504606846976) (k + 1) = max (mxK (fun i => FlI (Th a1) (Th a6) a10 a11 i + OvL a13 a14 (a8 - a3)) (-1152921504606846976) k) (FlI (Th a1) (Th a6) a10 a11 k + OvL a13 a14 (a8 - a3)) := fun k => rfl
  have hm : ∀ k, mnK (fun i => FlI (Th a2) (Th a7) a10 a11 i - OvL a13 a14 (a9 - a4)) 1152921504606846976 (k + 1) = min (mnK (fun i => FlI (Th a2) (Th a7) a10 a11 i - OvL a13 a14 (a9 - a4)) 1152921504606846976 k) (FlI (Th a2) (Th a7) a10 a11 k - OvL a13 a14 (a9 - a4)) := fun k => rfl
  refine AF.val_sat (E := fun (v : frsR) => v = (Fst a13 a14 (Th a1) (Th a6) a3 a8 a10 a11 a12.toNat, Lst a13 a14 (Th a2) (Th a7) a4 a9 a10 a11 a12.toNat))
    (Inv := fun (b : frsN) => match b with | .n0 => True | .n1 p0 p1 p2 => 0 ≤ p0 ∧ p0 ≤ a12 ∧ p1 = mxK (fun i => FlI (Th a1) (Th a6) a10 a11 i + OvL a13 a14 (a8 - a3)) (-1152921504606846976) p0.toNat ∧ p2 = mnK (fun i => FlI (Th a2) (Th a7) a10 a11 i - OvL a13 a14 (a9 - a4)) 1152921504606846976 p0.toNat)
    (fun (b : frsN) => match b with | .n0 => a12.toNat + 1 | .n1 p0 p1 p2 => (a12 - p0).toNat) (fun _ => rfl) (fun a hI => ?_) ?_
  · cases a with
    | n0 =>
      show DD.sat _ _ (frsD a0 a1 a2 a3 a4 a5 a6 a7 a8 a9 a10 a11 a12 a13 a14 .n0)
      unfold frsD
      obtain ⟨e1, e2, e3⟩ := e0 0 (by omega) (by omega)
      obtain ⟨k1, k2⟩ := key 0 (-1152921504606846976) 1152921504606846976 (by omega) (by omega)
      simp only [DD.sat, Nat.zero_add, cmLss, cmLssF, decide_eq_true_eq, e1, e2, k1, k2]
      refine ⟨fun hp => ?_, fun hp => by omega⟩
      have z1 : a10 + 0 < a0 ∧ 0 ≤ a10 + 0 ∧ (a10 + 0).toNat < a0 := by omega
      have z2 : a11 + 0 < a5 ∧ 0 ≤ a11 + 0 ∧ (a11 + 0).toNat < a5 := by omega
      refine ⟨z2.2.1, z2.1, z2.2.2, z1.2.1, z1.1, z1.2.2, z2.2.1, z2.1, z2.2.2, z1.2.1, z1.1, z1.2.2, z2.2.1, z2.1, z2.2.2, z1.2.1, z1.1, z1.2.2, z2.2.1, z2.1, z2.2.2, z1.2.1, z1.1, z1.2.2, ⟨by omega, by omega, rfl, rfl⟩, by omega⟩
    | n1 p0 p1 p2 =>
      obtain ⟨g0, g1, g2, g3⟩ := hI
      show DD.sat _ _ (frsD a0 a1 a2 a3 a4 a5 a6 a7 a8 a9 a10 a11 a12 a13 a14 (.n1 p0 p1 p2))
      unfold frsD
      simp only [DD.sat, Nat.zero_add, cmLss, cmLssF, decide_eq_true_eq]
      refine ⟨fun hp => ?_, fun hp => ?_⟩
      · obtain ⟨e1, e2, e3⟩ := e0 p0 g0 hp
        obtain ⟨k1, k2⟩ := key p0 p1 p2 g0 hp
        simp only [e1, e2, e3, k1, k2]
        have z1 : a10 + p0 < a0 ∧ 0 ≤ a10 + p0 ∧ (a10 + p0).toNat < a0 := by omega
        have z2 : a11 + p0 < a5 ∧ 0 ≤ a11 + p0 ∧ (a11 + p0).toNat < a5 := by omega
        refine ⟨z2.2.1, z2.1, z2.2.2, z1.2.1, z1.1, z1.2.2, z2.2.1, z2.1, z2.2.2, z1.2.1, z1.1, z1.2.2, z2.2.1, z2.1, z2.2.2, z1.2.1, z1.1, z1.2.2, z2.2.1, z2.1, z2.2.2, z1.2.1, z1.1, z1.2.2, ⟨by omega, by omega, ?_, ?_⟩, by omega⟩
        · rw [show (p0 + 1).toNat = p0.toNat + 1 by omega, hM, g2]
        · rw [show (p0 + 1).toNat = p0.toNat + 1 by omega, hm, g3]
      · obtain ⟨k, hk'⟩ : ∃ k, a12.toNat = k + 1 := ⟨a12.toNat - 1, by omega⟩
        rw [g2, g3, show p0.toNat = a12.toNat by omega, hk']
        unfold Fst Lst
        rw [mxK_add (b' := -9223372036854775808) (fun i hi => by have := (S.rng (i := i) (by omega)).1; omega), mnK_sub (b' := 9223372036854775807) (fun i hi => by have := (S.rng (i := i) (by omega)).2; omega)]
  · show DD.sat _ _ (frsD0 a0 a1 a2 a3 a4 a5 a6 a7 a8 a9 a10 a11 a12 a13 a14)
    exact trivial
end
end Go.Proofs.Ytjdldcmcjaaibaa.Cx

/- acme/fit.meshOf as an automaton. Made by tools/cxauto.py. -/
namespace Go.Proofs.Ytjdldcmcjaaibaa.Cx
set_option linter.unusedVariables false
set_option linter.unusedSimpArgs false
set_option maxRecDepth 100000
open Go Go.Proofs Go.RowKit
noncomputable abbrev ameCode : Code := funcCode Try.f64
abbrev ameN := Empty
inductive ameR where
  | r0 (p0 : Int)
  | r1 (p0 p1 : Int) (p2 : Nat) (p3 p4 : Int) (p5 : Nat) (p6 p7 : Int) (p8 p9 p10 p11 : Nat → Int)
noncomputable def ameD0 (a0 : Nat) (a1 a2 : Nat → Int) (a3 a4 : Int) (a5 : Nat) (a6 a7 : Nat → Int) (a8 a9 a10 a11 : Int) : DD (Lf ameN ameR) :=
 let z0 := decide (0 + a0 ≤ a0)
 let z1 := fun i => [CV.int IntKind.i64 (IE.x (a1 (0 + i))), CV.int IntKind.i64 (IE.x (a2 (0 + i)))]
 let z2 := ShapeOk [some IntKind.i64, some IntKind.i64] (tabOf a0 z1) z1
 let z3 := fun i => a1 (0 + i)
 let z4 := fun i => a2 (0 + i)
 let z5 := afcA a0 z3 z4 a3 a4
 let z6 := AF.val z5
 let z7 := Cm.run .neq z6 0
 let z8 := afpA a0 z3 z4 a3 a4
 let z9 := AF.fin z8
 let z10 := decide (0 + a5 ≤ a5)
 let z11 := fun i => [CV.int IntKind.i64 (IE.x (a6 (0 + i))), CV.int IntKind.i64 (IE.x (a7 (0 + i)))]
 let z12 := ShapeOk [some IntKind.i64, some IntKind.i64] (tabOf a5 z11) z11
 let z13 := fun i => a6 (0 + i)
 let z14 := fun i => a7 (0 + i)
 let z15 := afpA a5 z13 z14 a8 a9
 let z16 := AF.fin z15
 let z17 := AF.val z8
 let z18 := afpw0 z17
 let z19 := afpw1 z17
 let z20 := afpw2 z17
 let z21 := AF.val z15
 let z22 := afpw0 z21
 let z23 := afpw1 z21
 let z24 := afpw2 z21
 let z25 := fun i => afpw3 z17 i
 let z26 := fun i => afpw4 z17 i
 let z27 := fun i => afpw3 z21 i
 let z28 := fun i => afpw4 z21 i
 let z29 := afcA a5 z13 z14 a8 a9
 let z30 := AF.val z29
 let z31 := Cm.run .neq z30 0
 .must z0
   (.must z2
   (.must (AF.fin z5)
   (.ask z7
   (.ask z7
   (.leaf (.done (.r0 z6) []))
   (.must z0
   (.must z2
   (.must z9
   (.must z10
   (.must z12
   (.must z16
   (.leaf (.done (.r1 a10 a11 z18 z19 z20 z22 z23 z24 z25 z26 z27 z28) [9, 10])))))))))
   (.must z10
   (.must z12
   (.must (AF.fin z29)
   (.ask z31
   (.ask z31
   (.leaf (.done (.r0 z30) []))
   (.must z0
   (.must z2
   (.must z9
   (.must z10
   (.must z12
   (.must z16
   (.leaf (.done (.r1 a10 a11 z18 z19 z20 z22 z23 z24 z25 z26 z27 z28) [10, 11])))))))))
   (.ask (Cm.run .leq (-200000) a10)
   (.ask (Cm.run .leq a10 a11)
   (.ask (Cm.run .leq a11 200000)
   (.must z0
   (.must z2
   (.must z9
   (.must z10
   (.must z12
   (.must z16
   (.leaf (.done (.r1 a10 a11 z18 z19 z20 z22 z23 z24 z25 z26 z27 z28) [13, 14]))))))))
   (.leaf (.done (.r0 3) [])))
   (.leaf (.done (.r0 3) [])))
   (.leaf (.done (.r0 3) []))))))))))

noncomputable def ameD (a0 : Nat) (a1 a2 : Nat → Int) (a3 a4 : Int) (a5 : Nat) (a6 a7 : Nat → Int) (a8 a9 a10 a11 : Int) : ameN → DD (Lf ameN ameR) := fun a => nomatch a
noncomputable def ameA (a0 : Nat) (a1 a2 : Nat → Int) (a3 a4 : Int) (a5 : Nat) (a6 a7 : Nat → Int) (a8 a9 a10 a11 : Int) : AF ameN ameR where
  code := ameCode
  base := 2
  nt := 25
  m := 400
  un := []
  W := []
  h0 := [(0, ⟨.arg a0 2 (fun i => [.int .i64 (.x (a1 i)), .int .i64 (.x (a2 i))]) (fun _ => ⟨rfl, rfl⟩), 2, true, none⟩), (1, ⟨.arg a5 2 (fun i => [.int .i64 (.x (a6 i)), .int .i64 (.x (a7 i))]) (fun _ => ⟨rfl, rfl⟩), 2, true, none⟩)]
  args := [.agg [.sla 0 2 0 a0, .int .i64 (.x a3), .int .i64 (.x a4)], .agg [.sla 1 2 0 a5, .int .i64 (.x a8), .int .i64 (.x a9)], .agg [.int .i64 (.x a10), .int .i64 (.x a11)]]
  res := (Try.f64).results.toList
  path := fun a => nomatch a
  pd := fun a => nomatch a
  D0 := ameD0 a0 a1 a2 a3 a4 a5 a6 a7 a8 a9 a10 a11
  D := ameD a0 a1 a2 a3 a4 a5 a6 a7 a8 a9 a10 a11
  rc := (fun v => match v with
 | .r0 p0 => .tup [.agg [.int .i64 (.x 0), .int .i64 (.x 0), .slc none 0 0, .int .i64 (.x 0), .int .i64 (.x 0), .slc none 0 0, .int .i64 (.x 0), .int .i64 (.x 0)], .int .i64 (.x p0)]
 | .r1 p0 p1 p2 p3 p4 p5 p6 p7 p8 p9 p10 p11 => .tup [.agg [.int .i64 (.x p0), .int .i64 (.x p1), .sla 2 2 0 p2, .int .i64 (.x p3), .int .i64 (.x p4), .sla 3 2 0 p5, .int .i64 (.x p6), .int .i64 (.x p7)], .int .i64 (.x 0)])
  rh := (fun v => match v with
 | .r0 p0 => []
 | .r1 p0 p1 p2 p3 p4 p5 p6 p7 p8 p9 p10 p11 => [(2, ⟨.rows p2 2 (fun i => [.int .i64 (.x (p8 i)), .int .i64 (.x (p9 i))]) (fun _ => ⟨rfl, rfl⟩), 2, true, none⟩), (3, ⟨.rows p5 2 (fun i => [.int .i64 (.x (p10 i)), .int .i64 (.x (p11 i))]) (fun _ => ⟨rfl, rfl⟩), 2, true, none⟩)])
  rn := (fun v => match v with
 | .r0 p0 => 2
 | .r1 p0 p1 p2 p3 p4 p5 p6 p7 p8 p9 p10 p11 => 4)
  rx := (fun v => match v with
 | .r0 p0 => []
 | .r1 p0 p1 p2 p3 p4 p5 p6 p7 p8 p9 p10 p11 => [])
  rgo := (fun _ => none)
theorem amestart (a0 : Nat) (a1 a2 : Nat → Int) (a3 a4 : Int) (a5 : Nat) (a6 a7 : Nat → Int) (a8 a9 a10 a11 : Int) : AF.edgeOk (ameA a0 a1 a2 a3 a4 a5 a6 a7 a8 a9 a10 a11) (ctxOf Try.prog memo0) (ameD0 a0 a1 a2 a3 a4 a5 a6 a7 a8 a9 a10 a11) (AF.run0 (ameA a0 a1 a2 a3 a4 a5 a6 a7 a8 a9 a10 a11) (ctxOf Try.prog (memoS 55 afpP afpF afpW afpH 2 (memoS 14 afcP afcF afcW afcH 1 memo0)))) := by unfold AF.edgeOk; kernel_rfl
theorem ameok (a0 : Nat) (a1 a2 : Nat → Int) (a3 a4 : Int) (a5 : Nat) (a6 a7 : Nat → Int) (a8 a9 a10 a11 : Int) : (ameA a0 a1 a2 a3 a4 a5 a6 a7 a8 a9 a10 a11).Ok Try.prog (ctxOf Try.prog (memoS 55 afpP afpF afpW afpH 2 (memoS 14 afcP afcF afcW afcH 1 memo0))) where
  regs := by kernel_rfl
  h0 := by kernel_rfl
  start := amestart a0 a1 a2 a3 a4 a5 a6 a7 a8 a9 a10 a11
  node := fun a _ => nomatch a
  pd := fun a => nomatch a
  le := fun a => nomatch a
  rd := fun v => match v with
   | .r0 p0 => ⟨⟨fa_nil, fa_nil, fa_nil, rfl⟩, rfl⟩
   | .r1 p0 p1 p2 p3 p4 p5 p6 p7 p8 p9 p10 p11 => ⟨⟨fa_nil, (fa_cons ⟨.inl (Nat.le_of_ble_eq_true rfl), (fun _ => rfl), rfl⟩ (fa_cons ⟨.inl (Nat.le_of_ble_eq_true rfl), (fun _ => rfl), rfl⟩ fa_nil)), fa_nil, rfl⟩, rfl⟩
  wb := rfl
theorem amehR {ρ : Env} (a0 : Nat) (a1 a2 : Nat → Int) (a3 a4 : Int) (a5 : Nat) (a6 a7 : Nat → Int) (a8 a9 a10 a11 : Int) (hM : MemoOk Try.prog (ctxOf Try.prog (memoS 55 afpP afpF afpW afpH 2 (memoS 14 afcP afcF afcW afcH 1 memo0))) ρ) : ∀ X a q n D, FxOk ρ X → X.base = (ameA a0 a1 a2 a3 a4 a5 a6 a7 a8 a9 a10 a11).base → X.nt = (ameA a0 a1 a2 a3 a4 a5 a6 a7 a8 a9 a10 a11).nt → X.W = (ameA a0 a1 a2 a3 a4 a5 a6 a7 a8 a9 a10 a11).W → (ameA a0 a1 a2 a3 a4 a5 a6 a7 a8 a9 a10 a11).rgo a = some q → q n = some D → (ameA a0 a1 a2 a3 a4 a5 a6 a7 a8 a9 a10 a11).RangeOk Try.prog ρ X a D := AF.noRange rfl
theorem amectr {ρ : Env} (a0 : Nat) (a1 a2 : Nat → Int) (a3 a4 : Int) (a5 : Nat) (a6 a7 : Nat → Int) (a8 a9 a10 a11 : Int) {n : Nat} {v : ameR} (hM : MemoOk Try.prog (ctxOf Try.prog (memoS 55 afpP afpF afpW afpH 2 (memoS 14 afcP afcF afcW afcH 1 memo0))) ρ) (hv : (ameA a0 a1 a2 a3 a4 a5 a6 a7 a8 a9 a10 a11).run n = some v) :
    Ctr Try.prog ρ 64 (ameA a0 a1 a2 a3 a4 a5 a6 a7 a8 a9 a10 a11).args (ameA a0 a1 a2 a3 a4 a5 a6 a7 a8 a9 a10 a11).H0 (ameA a0 a1 a2 a3 a4 a5 a6 a7 a8 a9 a10 a11).base (ameA a0 a1 a2 a3 a4 a5 a6 a7 a8 a9 a10 a11).W ((ameA a0 a1 a2 a3 a4 a5 a6 a7 a8 a9 a10 a11).rc v) (putH (ameA a0 a1 a2 a3 a4 a5 a6 a7 a8 a9 a10 a11).H0 ((ameA a0 a1 a2 a3 a4 a5 a6 a7 a8 a9 a10 a11).rh v ++ (ameA a0 a1 a2 a3 a4 a5 a6 a7 a8 a9 a10 a11).rx v)) ((ameA a0 a1 a2 a3 a4 a5 a6 a7 a8 a9 a10 a11).rn v) :=
  AF.ctr try_ok hM (ameok a0 a1 a2 a3 a4 a5 a6 a7 a8 a9 a10 a11) (fn := Try.f64) Try.func64 rfl rfl (Nat.le_of_ble_eq_true rfl) rfl (amehR a0 a1 a2 a3 a4 a5 a6 a7 a8 a9 a10 a11 hM) hv
theorem amemem {ρ : Env} : MemoOk Try.prog (ctxOf Try.prog (memoS 55 afpP afpF afpW afpH 2 (memoS 14 afcP afcF afcW afcH 1 memo0))) ρ := (memoS_ok (afpknown afpmem) (memoS_ok (afcknown afcmem) memo0_ok))
abbrev ameP : List AQ := [.agg [.rows [some .i64, some .i64], .int .i64, .int .i64], .agg [.rows [some .i64, some .i64], .int .i64, .int .i64], .agg [.int .i64, .int .i64]]
noncomputable def ameF (v : AW) : AF ameN ameR := ameA (v.t.getD 0 .none).n ((v.t.getD 0 .none).c 0) ((v.t.getD 0 .none).c 1) (v.i.getD 0 0) (v.i.getD 1 0) (v.t.getD 1 .none).n ((v.t.getD 1 .none).c 0) ((v.t.getD 1 .none).c 1) (v.i.getD 2 0) (v.i.getD 3 0) (v.i.getD 4 0) (v.i.getD 5 0)
def amew0 : ameR → Int
  | .r0 p0 => 0
  | .r1 p0 p1 p2 p3 p4 p5 p6 p7 p8 p9 p10 p11 => p0
def amew1 : ameR → Int
  | .r0 p0 => 0
  | .r1 p0 p1 p2 p3 p4 p5 p6 p7 p8 p9 p10 p11 => p1
def amew2 : ameR → Nat
  | .r0 p0 => 0
  | .r1 p0 p1 p2 p3 p4 p5 p6 p7 p8 p9 p10 p11 => p2
def amew3 : ameR → Int
  | .r0 p0 => 0
  | .r1 p0 p1 p2 p3 p4 p5 p6 p7 p8 p9 p10 p11 => p3
def amew4 : ameR → Int
  | .r0 p0 => 0
  | .r1 p0 p1 p2 p3 p4 p5 p6 p7 p8 p9 p10 p11 => p4
def amew5 : ameR → Nat
  | .r0 p0 => 0
  | .r1 p0 p1 p2 p3 p4 p5 p6 p7 p8 p9 p10 p11 => p5
def amew6 : ameR → Int
  | .r0 p0 => 0
  | .r1 p0 p1 p2 p3 p4 p5 p6 p7 p8 p9 p10 p11 => p6
def amew7 : ameR → Int
  | .r0 p0 => 0
  | .r1 p0 p1 p2 p3 p4 p5 p6 p7 p8 p9 p10 p11 => p7
def amew8 : ameR → Int
  | .r0 p0 => p0
  | .r1 p0 p1 p2 p3 p4 p5 p6 p7 p8 p9 p10 p11 => 0
def amew9 : ameR → (Nat → Int)
  | .r0 p0 => fun _ => 0
  | .r1 p0 p1 p2 p3 p4 p5 p6 p7 p8 p9 p10 p11 => p8
def amew10 : ameR → (Nat → Int)
  | .r0 p0 => fun _ => 0
  | .r1 p0 p1 p2 p3 p4 p5 p6 p7 p8 p9 p10 p11 => p9
def amew11 : ameR → (Nat → Int)
  | .r0 p0 => fun _ => 0
  | .r1 p0 p1 p2 p3 p4 p5 p6 p7 p8 p9 p10 p11 => p10
def amew12 : ameR → (Nat → Int)
  | .r0 p0 => fun _ => 0
  | .r1 p0 p1 p2 p3 p4 p5 p6 p7 p8 p9 p10 p11 => p11
noncomputable def ameW : ameR → CV := fun v => .tup [.agg [.int .i64 (.x ((amew0 v))), .int .i64 (.x ((amew1 v))), .sla 2 2 0 ((amew2 v)), .int .i64 (.x ((amew3 v))), .int .i64 (.x ((amew4 v))), .sla 3 2 0 ((amew5 v)), .int .i64 (.x ((amew6 v))), .int .i64 (.x ((amew7 v)))], .int .i64 (.x ((amew8 v)))]
noncomputable def ameH : ameR → List (Nat × Blk) := fun v => [(2, ⟨.rows ((amew2 v)) 2 (fun i => [.int .i64 (.x ((amew9 v) i)), .int .i64 (.x ((amew10 v) i))]) (fun _ => ⟨rfl, rfl⟩), 2, true, none⟩), (3, ⟨.rows ((amew5 v)) 2 (fun i => [.int .i64 (.x ((amew11 v) i)), .int .i64 (.x ((amew12 v) i))]) (fun _ => ⟨rfl, rfl⟩), 2, true, none⟩)]
instance : Inhabited ameR := ⟨.r0 0⟩
theorem ameknown {ρ : Env} (hM : MemoOk Try.prog (ctxOf Try.prog (memoS 55 afpP afpF afpW afpH 2 (memoS 14 afcP afcF afcW afcH 1 memo0))) ρ) : KnownS Try.prog ρ 64 ameP ameF ameW ameH 4 where
  fn := ⟨Try.f64, Try.func64, rfl⟩
  le := Nat.le_of_ble_eq_true rfl
  full := fun r => rfl
  rg := fun r => rfl
  hg := fun r => (fa_cons ⟨fun _ => rfl, rfl⟩ (fa_cons ⟨fun _ => rfl, rfl⟩ fa_nil))
  ctr := fun v n r h => match r, h with
    | .r0 p0, h => Ctr.weaken (amectr (v.t.getD 0 .none).n ((v.t.getD 0 .none).c 0) ((v.t.getD 0 .none).c 1) (v.i.getD 0 0) (v.i.getD 1 0) (v.t.getD 1 .none).n ((v.t.getD 1 .none).c 0) ((v.t.getD 1 .none).c 1) (v.i.getD 2 0) (v.i.getD 3 0) (v.i.getD 4 0) (v.i.getD 5 0) hM h) (Nat.le_of_ble_eq_true rfl) (Nat.le_of_ble_eq_true rfl) (fun σ => (fun _ h => VR.tup_imp (VRl.cons_imp (fun _ h => VR.agg_imp (VRl.cons_imp (fun _ h => h) (VRl.cons_imp (fun _ h => h) (VRl.cons_imp (fun _ h => h.nil_sla) (VRl.cons_imp (fun _ h => h) (VRl.cons_imp (fun _ h => h) (VRl.cons_imp (fun _ h => h.nil_sla) (VRl.cons_imp (fun _ h => h) (VRl.cons_imp (fun _ h => h) VRl.nil_imp)))))))) h) (VRl.cons_imp (fun _ h => h) VRl.nil_imp)) h)) (fun b h1 h2 => absurd (Nat.lt_of_le_of_lt h1 h2) (Nat.lt_irrefl _))
    | .r1 p0 p1 p2 p3 p4 p5 p6 p7 p8 p9 p10 p11, h => Ctr.weaken (amectr (v.t.getD 0 .none).n ((v.t.getD 0 .none).c 0) ((v.t.getD 0 .none).c 1) (v.i.getD 0 0) (v.i.getD 1 0) (v.t.getD 1 .none).n ((v.t.getD 1 .none).c 0) ((v.t.getD 1 .none).c 1) (v.i.getD 2 0) (v.i.getD 3 0) (v.i.getD 4 0) (v.i.getD 5 0) hM h) (Nat.le_of_ble_eq_true rfl) (Nat.le_of_ble_eq_true rfl) (fun σ => (fun _ h => VR.tup_imp (VRl.cons_imp (fun _ h => VR.agg_imp (VRl.cons_imp (fun _ h => h) (VRl.cons_imp (fun _ h => h) (VRl.cons_imp (fun _ h => h) (VRl.cons_imp (fun _ h => h) (VRl.cons_imp (fun _ h => h) (VRl.cons_imp (fun _ h => h) (VRl.cons_imp (fun _ h => h) (VRl.cons_imp (fun _ h => h) VRl.nil_imp)))))))) h) (VRl.cons_imp (fun _ h => h) VRl.nil_imp)) h)) (fun b h1 h2 => rfl)
end Go.Proofs.Ytjdldcmcjaaibaa.Cx

/- acme/fit.Shift as an automaton. Made by tools/cxauto.py. -/
namespace Go.Proofs.Ytjdldcmcjaaibaa.Cx
set_option linter.unusedVariables false
set_option linter.unusedSimpArgs false
set_option maxRecDepth 100000
open Go Go.Proofs Go.RowKit
noncomputable abbrev asfCode : Code := funcCode Try.f23
abbrev asfN := Empty
abbrev asfR := Int × Int × Int
noncomputable def asfD0 (a0 : Nat) (a1 a2 : Nat → Int) (a3 a4 : Int) (a5 : Nat) (a6 a7 : Nat → Int) (a8 a9 a10 a11 a12 a13 a14 : Int) : DD (Lf asfN asfR) :=
 let z0 := fun i => [CV.int IntKind.i64 (IE.x (a1 (0 + i))), CV.int IntKind.i64 (IE.x (a2 (0 + i)))]
 let z1 := fun i => [CV.int IntKind.i64 (IE.x (a6 (0 + i))), CV.int IntKind.i64 (IE.x (a7 (0 + i)))]
 let z2 := ameA a0 (fun i => a1 (0 + i)) (fun i => a2 (0 + i)) a3 a4 a5 (fun i => a6 (0 + i)) (fun i => a7 (0 + i)) a8 a9 a13 a14
 let z3 := AF.val z2
 let z4 := amew2 z3
 let z5 := fun i => [CV.int IntKind.i64 (IE.x (amew9 z3 (0 + i))), CV.int IntKind.i64 (IE.x (amew10 z3 (0 + i)))]
 let z6 := amew5 z3
 let z7 := fun i => [CV.int IntKind.i64 (IE.x (amew11 z3 (0 + i))), CV.int IntKind.i64 (IE.x (amew12 z3 (0 + i)))]
 let z8 := ashA (amew0 z3) (amew1 z3) z4 (fun i => amew9 z3 (0 + i)) (fun i => amew10 z3 (0 + i)) (amew3 z3) (amew4 z3) z6 (fun i => amew11 z3 (0 + i)) (fun i => amew12 z3 (0 + i)) (amew6 z3) (amew7 z3) a10 a11 a12
 let z9 := AF.val z8
 .must (decide (0 + a0 ≤ a0))
   (.must (ShapeOk [some IntKind.i64, some IntKind.i64] (tabOf a0 z0) z0)
   (.must (decide (0 + a5 ≤ a5))
   (.must (ShapeOk [some IntKind.i64, some IntKind.i64] (tabOf a5 z1) z1)
   (.must (AF.fin z2)
   (.ask (Cm.run .neq (amew8 z3) 0)
   (.leaf (.done (0, 0, amew8 z3) []))
   (.ask (Cm.run .lss a12 1)
   (.leaf (.done (0, 0, 7) []))
   (.ask (Cm.run .lss a10 0)
   (.leaf (.done (0, 0, 7) []))
   (.ask (Cm.run .gtr a10 (Ar.run .sub .i64 ((↑a0 : Int)) a12))
   (.leaf (.done (0, 0, 7) []))
   (.ask (Cm.run .lss a11 0)
   (.leaf (.done (0, 0, 7) []))
   (.ask (Cm.run .gtr a11 (Ar.run .sub .i64 ((↑a5 : Int)) a12))
   (.leaf (.done (0, 0, 7) []))
   (.must (decide (0 + amew2 z3 ≤ amew2 z3))
   (.must (ShapeOk [some IntKind.i64, some IntKind.i64] (tabOf z4 z5) z5)
   (.must (decide (0 + amew5 z3 ≤ amew5 z3))
   (.must (ShapeOk [some IntKind.i64, some IntKind.i64] (tabOf z6 z7) z7)
   (.must (AF.fin z8)
   (.ask (Cm.run .gtr (Prod.fst z9) (Prod.snd z9))
   (.leaf (.done (0, 0, 9) []))
   (.leaf (.done (Prod.fst z9, Prod.snd z9, 0) []))))))))))))))))))

noncomputable def asfD (a0 : Nat) (a1 a2 : Nat → Int) (a3 a4 : Int) (a5 : Nat) (a6 a7 : Nat → Int) (a8 a9 a10 a11 a12 a13 a14 : Int) : asfN → DD (Lf asfN asfR) := fun a => nomatch a
noncomputable def asfA (a0 : Nat) (a1 a2 : Nat → Int) (a3 a4 : Int) (a5 : Nat) (a6 a7 : Nat → Int) (a8 a9 a10 a11 a12 a13 a14 : Int) : AF asfN asfR where
  code := asfCode
  base := 2
  nt := 70
  m := 400
  un := []
  W := []
  h0 := [(0, ⟨.arg a0 2 (fun i => [.int .i64 (.x (a1 i)), .int .i64 (.x (a2 i))]) (fun _ => ⟨rfl, rfl⟩), 2, true, none⟩), (1, ⟨.arg a5 2 (fun i => [.int .i64 (.x (a6 i)), .int .i64 (.x (a7 i))]) (fun _ => ⟨rfl, rfl⟩), 2, true, none⟩)]
  args := [.agg [.sla 0 2 0 a0, .int .i64 (.x a3), .int .i64 (.x a4)], .agg [.sla 1 2 0 a5, .int .i64 (.x a8), .int .i64 (.x a9)], .int .i64 (.x a10), .int .i64 (.x a11), .int .i64 (.x a12), .agg [.int .i64 (.x a13), .int .i64 (.x a14)]]
  res := (Try.f23).results.toList
  path := fun a => nomatch a
  pd := fun a => nomatch a
  D0 := asfD0 a0 a1 a2 a3 a4 a5 a6 a7 a8 a9 a10 a11 a12 a13 a14
  D := asfD a0 a1 a2 a3 a4 a5 a6 a7 a8 a9 a10 a11 a12 a13 a14
  rc := (fun v => .tup [.agg [.int .i64 (.x v.1), .int .i64 (.x v.2.1)], .int .i64 (.x v.2.2)])
  rh := (fun v => [])
  rn := (fun v => 2)
  rx := (fun v => [])
  rgo := (fun _ => none)
theorem asfstart (a0 : Nat) (a1 a2 : Nat → Int) (a3 a4 : Int) (a5 : Nat) (a6 a7 : Nat → Int) (a8 a9 a10 a11 a12 a13 a14 : Int) : AF.edgeOk (asfA a0 a1 a2 a3 a4 a5 a6 a7 a8 a9 a10 a11 a12 a13 a14) (ctxOf Try.prog memo0) (asfD0 a0 a1 a2 a3 a4 a5 a6 a7 a8 a9 a10 a11 a12 a13 a14) (AF.run0 (asfA a0 a1 a2 a3 a4 a5 a6 a7 a8 a9 a10 a11 a12 a13 a14) (ctxOf Try.prog (memoS 65 ashP ashF ashW ashH 2 (memoS 64 ameP ameF ameW ameH 4 memo0)))) := by unfold AF.edgeOk; kernel_rfl
theorem asfok (a0 : Nat) (a1 a2 : Nat → Int) (a3 a4 : Int) (a5 : Nat) (a6 a7 : Nat → Int) (a8 a9 a10 a11 a12 a13 a14 : Int) : (asfA a0 a1 a2 a3 a4 a5 a6 a7 a8 a9 a10 a11 a12 a13 a14).Ok Try.prog (ctxOf Try.prog (memoS 65 ashP ashF ashW ashH 2 (memoS 64 ameP ameF ameW ameH 4 memo0))) where
  regs := by kernel_rfl
  h0 := by kernel_rfl
  start := asfstart a0 a1 a2 a3 a4 a5 a6 a7 a8 a9 a10 a11 a12 a13 a14
  node := fun a _ => nomatch a
  pd := fun a => nomatch a
  le := fun a => nomatch a
  rd := fun v => ⟨⟨fa_nil, fa_nil, fa_nil, rfl⟩, rfl⟩
  wb := rfl
theorem asfhR {ρ : Env} (a0 : Nat) (a1 a2 : Nat → Int) (a3 a4 : Int) (a5 : Nat) (a6 a7 : Nat → Int) (a8 a9 a10 a11 a12 a13 a14 : Int) (hM : MemoOk Try.prog (ctxOf Try.prog (memoS 65 ashP ashF ashW ashH 2 (memoS 64 ameP ameF ameW ameH 4 memo0))) ρ) : ∀ X a q n D, FxOk ρ X → X.base = (asfA a0 a1 a2 a3 a4 a5 a6 a7 a8 a9 a10 a11 a12 a13 a14).base → X.nt = (asfA a0 a1 a2 a3 a4 a5 a6 a7 a8 a9 a10 a11 a12 a13 a14).nt → X.W = (asfA a0 a1 a2 a3 a4 a5 a6 a7 a8 a9 a10 a11 a12 a13 a14).W → (asfA a0 a1 a2 a3 a4 a5 a6 a7 a8 a9 a10 a11 a12 a13 a14).rgo a = some q → q n = some D → (asfA a0 a1 a2 a3 a4 a5 a6 a7 a8 a9 a10 a11 a12 a13 a14).RangeOk Try.prog ρ X a D := AF.noRange rfl
theorem asfctr {ρ : Env} (a0 : Nat) (a1 a2 : Nat → Int) (a3 a4 : Int) (a5 : Nat) (a6 a7 : Nat → Int) (a8 a9 a10 a11 a12 a13 a14 : Int) {n : Nat} {v : asfR} (hM : MemoOk Try.prog (ctxOf Try.prog (memoS 65 ashP ashF ashW ashH 2 (memoS 64 ameP ameF ameW ameH 4 memo0))) ρ) (hv : (asfA a0 a1 a2 a3 a4 a5 a6 a7 a8 a9 a10 a11 a12 a13 a14).run n = some v) :
    Ctr Try.prog ρ 23 (asfA a0 a1 a2 a3 a4 a5 a6 a7 a8 a9 a10 a11 a12 a13 a14).args (asfA a0 a1 a2 a3 a4 a5 a6 a7 a8 a9 a10 a11 a12 a13 a14).H0 (asfA a0 a1 a2 a3 a4 a5 a6 a7 a8 a9 a10 a11 a12 a13 a14).base (asfA a0 a1 a2 a3 a4 a5 a6 a7 a8 a9 a10 a11 a12 a13 a14).W ((asfA a0 a1 a2 a3 a4 a5 a6 a7 a8 a9 a10 a11 a12 a13 a14).rc v) (putH (asfA a0 a1 a2 a3 a4 a5 a6 a7 a8 a9 a10 a11 a12 a13 a14).H0 ((asfA a0 a1 a2 a3 a4 a5 a6 a7 a8 a9 a10 a11 a12 a13 a14).rh v ++ (asfA a0 a1 a2 a3 a4 a5 a6 a7 a8 a9 a10 a11 a12 a13 a14).rx v)) ((asfA a0 a1 a2 a3 a4 a5 a6 a7 a8 a9 a10 a11 a12 a13 a14).rn v) :=
  AF.ctr try_ok hM (asfok a0 a1 a2 a3 a4 a5 a6 a7 a8 a9 a10 a11 a12 a13 a14) (fn := Try.f23) Try.func23 rfl rfl (Nat.le_of_ble_eq_true rfl) rfl (asfhR a0 a1 a2 a3 a4 a5 a6 a7 a8 a9 a10 a11 a12 a13 a14 hM) hv
theorem asfmem {ρ : Env} : MemoOk Try.prog (ctxOf Try.prog (memoS 65 ashP ashF ashW ashH 2 (memoS 64 ameP ameF ameW ameH 4 memo0))) ρ := (memoS_ok (ashknown ashmem) (memoS_ok (ameknown amemem) memo0_ok))
abbrev asfP : List AQ := [.agg [.rows [some .i64, some .i64], .int .i64, .int .i64], .agg [.rows [some .i64, some .i64], .int .i64, .int .i64], .int .i64, .int .i64, .int .i64, .agg [.int .i64, .int .i64]]
noncomputable def asfF (v : AW) : AF asfN asfR := asfA (v.t.getD 0 .none).n ((v.t.getD 0 .none).c 0) ((v.t.getD 0 .none).c 1) (v.i.getD 0 0) (v.i.getD 1 0) (v.t.getD 1 .none).n ((v.t.getD 1 .none).c 0) ((v.t.getD 1 .none).c 1) (v.i.getD 2 0) (v.i.getD 3 0) (v.i.getD 4 0) (v.i.getD 5 0) (v.i.getD 6 0) (v.i.getD 7 0) (v.i.getD 8 0)
noncomputable def asfW : asfR → CV := fun v => .tup [.agg [.int .i64 (.x v.1), .int .i64 (.x v.2.1)], .int .i64 (.x v.2.2)]
noncomputable def asfH : asfR → List (Nat × Blk) := fun v => []
instance : Inhabited asfR := ⟨(0, 0, 0)⟩
theorem asfknown {ρ : Env} (hM : MemoOk Try.prog (ctxOf Try.prog (memoS 65 ashP ashF ashW ashH 2 (memoS 64 ameP ameF ameW ameH 4 memo0))) ρ) : KnownS Try.prog ρ 23 asfP asfF asfW asfH 2 where
  fn := ⟨Try.f23, Try.func23, rfl⟩
  le := Nat.le_of_ble_eq_true rfl
  full := fun r => rfl
  rg := fun r => rfl
  hg := fun r => fa_nil
  ctr := fun v n r h => asfctr (v.t.getD 0 .none).n ((v.t.getD 0 .none).c 0) ((v.t.getD 0 .none).c 1) (v.i.getD 0 0) (v.i.getD 1 0) (v.t.getD 1 .none).n ((v.t.getD 1 .none).c 0) ((v.t.getD 1 .none).c 1) (v.i.getD 2 0) (v.i.getD 3 0) (v.i.getD 4 0) (v.i.getD 5 0) (v.i.getD 6 0) (v.i.getD 7 0) (v.i.getD 8 0) hM h
end Go.Proofs.Ytjdldcmcjaaibaa.Cx

/- Package fit: meshOf, Shift. -/
namespace Go.Proofs.Ytjdldcmcjaaibaa.Cx
set_option linter.unusedVariables false
set_option linter.unusedSimpArgs false
set_option maxRecDepth 100000
set_option maxHeartbeats 4000000
open Go Go.RowKit
section
variable {a0 : Nat} {a1 a2 : Nat → Int} {a3 a4 : Int} {a5 : Nat} {a6 a7 : Nat → Int} {a8 a9 a10 a11 : Int}
/-- What meshOf yields. -/
def MeE (a0 : Nat) (a1 a2 : Nat → Int) (a3 a4 : Int) (a5 : Nat) (a6 a7 : Nat → Int) (a8 a9 a10 a11 : Int) (v : ameR) : Prop :=
  TwE a0 a1 a2 a3 a4 a5 a6 a7 a8 a9 a10 a11 (amew8 v) ∧ (amew8 v = 0 → amew0 v = a10 ∧ amew1 v = a11 ∧ amew2 v = a0 ∧ amew3 v = a3 ∧ amew4 v = a4 ∧ amew5 v = a5 ∧ amew6 v = a8 ∧ amew7 v = a9 ∧
    (∀ i, i < a0 → amew9 v i = Th a1 i ∧ amew10 v i = Th a2 i) ∧ (∀ i, i < a5 → amew11 v i = Th a6 i ∧ amew12 v i = Th a7 i))
theorem MeE.err {x : Int} (h : TwE a0 a1 a2 a3 a4 a5 a6 a7 a8 a9 a10 a11 x) (hx : x ≠ 0) : MeE a0 a1 a2 a3 a4 a5 a6 a7 a8 a9 a10 a11 (.r0 x) := ⟨h, fun e => absurd e hx⟩
theorem ame_val : AF.fin (ameA a0 a1 a2 a3 a4 a5 a6 a7 a8 a9 a10 a11) = true ∧ MeE a0 a1 a2 a3 a4 a5 a6 a7 a8 a9 a10 a11 (AF.val (ameA a0 a1 a2 a3 a4 a5 a6 a7 a8 a9 a10 a11)) := by
  refine flat_val (E := MeE a0 a1 a2 a3 a4 a5 a6 a7 a8 a9 a10 a11) (fun _ => rfl) ?_
  show DD.sat _ _ (ameD0 a0 a1 a2 a3 a4 a5 a6 a7 a8 a9 a10 a11)
  obtain ⟨f1, v1⟩ := afc_val (a0 := a0) (a1 := a1) (a2 := a2) (a3 := a3) (a4 := a4)
  obtain ⟨f2, v2⟩ := afc_val (a0 := a5) (a1 := a6) (a2 := a7) (a3 := a8) (a4 := a9)
  obtain ⟨x, hx⟩ : ∃ x : Int, AF.val (afcA a0 (fun i => a1 i) (fun i => a2 i) a3 a4) = x := ⟨_, rfl⟩
  obtain ⟨y, hy⟩ : ∃ y : Int, AF.val (afcA a5 (fun i => a6 i) (fun i => a7 i) a8 a9) = y := ⟨_, rfl⟩
  have f1' : AF.fin (afcA a0 (fun i => a1 i) (fun i => a2 i) a3 a4) = true := f1
  have f2' : AF.fin (afcA a5 (fun i => a6 i) (fun i => a7 i) a8 a9) = true := f2
  have v1' : CkT a0 a1 a2 a3 a4 x := by rw [← hx]; exact v1
  have v2' : CkT a5 a6 a7 a8 a9 y := by rw [← hy]; exact v2
  by_cases h1 : x = 0
  · have t1 := v1'.ok h1
    obtain ⟨g1, p1⟩ := afp_val (a0 := a0) (a1 := a1) (a2 := a2) (a3 := a3) (a4 := a4) t1.few (fun i hi => by have := t1.ord.one i hi; omega)
    have g1' : AF.fin (afpA a0 (fun i => a1 i) (fun i => a2 i) a3 a4) = true := g1
    by_cases h2 : y = 0
    · have t2 := v2'.ok h2
      obtain ⟨g2, p2⟩ := afp_val (a0 := a5) (a1 := a6) (a2 := a7) (a3 := a8) (a4 := a9) t2.few (fun i hi => by have := t2.ord.one i hi; omega)
      have g2' : AF.fin (afpA a5 (fun i => a6 i) (fun i => a7 i) a8 a9) = true := g2
      by_cases hd : -200000 ≤ a10 ∧ a10 ≤ a11 ∧ a11 ≤ 200000
      · have ok : ∀ v : ameR, amew8 v = 0 → (amew0 v = a10 ∧ amew1 v = a11 ∧ amew2 v = a0 ∧ amew3 v = a3 ∧ amew4 v = a4 ∧ amew5 v = a5 ∧ amew6 v = a8 ∧ amew7 v = a9 ∧ (∀ i, i < a0 → amew9 v i = Th a1 i ∧ amew10 v i = Th a2 i) ∧ (∀ i, i < a5 → amew11 v i = Th a6 i ∧ amew12 v i = Th a7 i)) → MeE a0 a1 a2 a3 a4 a5 a6 a7 a8 a9 a10 a11 v := fun v e h => ⟨⟨x, y, v1', v2', by rw [e]; exact .inr ⟨h1, .inr ⟨h2, .inl ⟨hd, rfl⟩⟩⟩⟩, fun _ => h⟩
        unfold ameD0
        simp only [DD.sat, Nat.zero_add, cmLss, cmLssF, cmLeq, cmLeqF, cmGtr, cmGtrF, cmGeq, cmGeqF, cmEql, cmEqlF, cmNeq, cmNeqF, decide_eq_true_eq, Bool.not_eq_true', Bool.not_eq_false', hx, hy]
        repeat' (first
        | exact Nat.le_refl _
        | exact shape_ok fun i _ => rfl
        | assumption
        | (refine ok _ rfl ⟨rfl, rfl, p1.1, p1.2.1, p1.2.2.1, p2.1, p2.2.1, p2.2.2.1, p1.2.2.2, p2.2.2.2⟩)
        | (intro hx; first | (exfalso; omega) | skip)
        | apply And.intro
        | omega)
      · have bad : MeE a0 a1 a2 a3 a4 a5 a6 a7 a8 a9 a10 a11 (.r0 3) := MeE.err ⟨x, y, v1', v2', .inr ⟨h1, .inr ⟨h2, .inr ⟨hd, rfl⟩⟩⟩⟩ (by omega)
        unfold ameD0
        simp only [DD.sat, Nat.zero_add, cmLss, cmLssF, cmLeq, cmLeqF, cmGtr, cmGtrF, cmGeq, cmGeqF, cmEql, cmEqlF, cmNeq, cmNeqF, decide_eq_true_eq, Bool.not_eq_true', Bool.not_eq_false', hx, hy]
        repeat' (first
      | exact Nat.le_refl _
      | exact shape_ok fun i _ => rfl
      | assumption
      | trivial
      | (intro hx; first | (exfalso; omega) | skip)
      | apply And.intro
      | omega)
    · have bad : MeE a0 a1 a2 a3 a4 a5 a6 a7 a8 a9 a10 a11 (.r0 y) := MeE.err ⟨x, y, v1', v2', .inr ⟨h1, .inl ⟨h2, rfl⟩⟩⟩ h2
      unfold ameD0
      simp only [DD.sat, Nat.zero_add, cmLss, cmLssF, cmLeq, cmLeqF, cmGtr, cmGtrF, cmGeq, cmGeqF, cmEql, cmEqlF, cmNeq, cmNeqF, decide_eq_true_eq, Bool.not_eq_true', Bool.not_eq_false', hx, hy]
      repeat' (first
      | exact Nat.le_refl _
      | exact shape_ok fun i _ => rfl
      | assumption
      | trivial
      | (intro hx; first | (exfalso; omega) | skip)
      | apply And.intro
      | omega)
  · have bad : MeE a0 a1 a2 a3 a4 a5 a6 a7 a8 a9 a10 a11 (.r0 x) := MeE.err ⟨x, y, v1', v2', .inl ⟨h1, rfl⟩⟩ h1
    unfold ameD0
    simp only [DD.sat, Nat.zero_add, cmLss, cmLssF, cmLeq, cmLeqF, cmGtr, cmGtrF, cmGeq, cmGeqF, cmEql, cmEqlF, cmNeq, cmNeqF, decide_eq_true_eq, Bool.not_eq_true', Bool.not_eq_false', hx, hy]
    repeat' (first
      | exact Nat.le_refl _
      | exact shape_ok fun i _ => rfl
      | assumption
      | trivial
      | (intro hx; first | (exfalso; omega) | skip)
      | apply And.intro
      | omega)
end
section
variable {a0 : Nat} {a1 a2 : Nat → Int} {a3 a4 : Int} {a5 : Nat} {a6 a7 : Nat → Int} {a8 a9 a10 a11 a12 a13 a14 : Int} {c9 c10 c11 c12 : Nat → Int}
theorem ash_th (hs : ThOk a0 a1 a2 a3 a4) (hn : ThOk a5 a6 a7 a8 a9) (h1 : 0 ≤ a10 ∧ a10 + a12 ≤ a0) (h2 : 0 ≤ a11 ∧ a11 + a12 ≤ a5) (hk : 1 ≤ a12) (hd : -200000 ≤ a13 ∧ a13 ≤ a14 ∧ a14 ≤ 200000)
    (e1 : ∀ i, i < a0 → c9 i = Th a1 i ∧ c10 i = Th a2 i) (e2 : ∀ i, i < a5 → c11 i = Th a6 i ∧ c12 i = Th a7 i) :
    AF.fin (ashA a13 a14 a0 c9 c10 a3 a4 a5 c11 c12 a8 a9 a10 a11 a12) = true ∧ AF.val (ashA a13 a14 a0 c9 c10 a3 a4 a5 c11 c12 a8 a9 a10 a11 a12) = (Fst a13 a14 (Th a1) (Th a6) a3 a8 a10 a11 a12.toNat, Lst a13 a14 (Th a2) (Th a7) a4 a9 a10 a11 a12.toNat) := by
  have S : StOk a0 a5 c9 c10 c11 c12 a10 a11 a12 := ⟨h1.1, h2.1, h1.2, h2.2, hs.few, hn.few, fun i hi => by have := hs.ord.one i hi; have := e1 i hi; unfold Th at this; omega, fun i hi => by have := hn.ord.one i hi; have := e2 i hi; unfold Th at this; omega⟩
  obtain ⟨f, v⟩ := ash_val (a0 := a13) (a1 := a14) (a5 := a3) (a6 := a4) (a10 := a8) (a11 := a9) S ⟨hd, hs.left, hs.right, hn.left, hn.right⟩ hk
  refine ⟨f, v.trans ?_⟩
  have k1 : mxK (FlI c9 c11 a10 a11) (-9223372036854775808) a12.toNat = mxK (FlI (Th a1) (Th a6) a10 a11) (-9223372036854775808) a12.toNat := mxK_congr fun i hi => by unfold FlI; rw [(e1 (a10 + i).toNat (by omega)).1, (e2 (a11 + i).toNat (by omega)).1]
  have k2 : mnK (FlI c10 c12 a10 a11) 9223372036854775807 a12.toNat = mnK (FlI (Th a2) (Th a7) a10 a11) 9223372036854775807 a12.toNat := mnK_congr fun i hi => by unfold FlI; rw [(e1 (a10 + i).toNat (by omega)).2, (e2 (a11 + i).toNat (by omega)).2]
  unfold Fst Lst
  rw [k1, k2]
theorem fl_rng (hs : ThOk a0 a1 a2 a3 a4) (hn : ThOk a5 a6 a7 a8 a9) (h1 : 0 ≤ a10 ∧ a10 + a12 ≤ a0) (h2 : 0 ≤ a11 ∧ a11 + a12 ≤ a5) (hk : 1 ≤ a12) (hd : -200000 ≤ a13 ∧ a13 ≤ a14 ∧ a14 ≤ 200000) :
    (-30000000000 ≤ Fst a13 a14 (Th a1) (Th a6) a3 a8 a10 a11 a12.toNat ∧ Fst a13 a14 (Th a1) (Th a6) a3 a8 a10 a11 a12.toNat ≤ 30000000000) ∧ (-30000000000 ≤ Lst a13 a14 (Th a2) (Th a7) a4 a9 a10 a11 a12.toNat ∧ Lst a13 a14 (Th a2) (Th a7) a4 a9 a10 a11 a12.toNat ≤ 30000000000) := by
  obtain ⟨r1, r2⟩ := fst_rng (stOk hs hn h1 h2) hk
  have o1 := OvL_rng (c := a8 - a3) hd (by have := hs.left; have := hn.left; omega)
  have o2 := OvL_rng (c := a9 - a4) hd (by have := hs.right; have := hn.right; omega)
  unfold Fst Lst
  omega
/-- A step that there is. -/
def StIn (n m : Nat) (t g k : Int) : Prop := 1 ≤ k ∧ 0 ≤ t ∧ t + k ≤ n ∧ 0 ≤ g ∧ g + k ≤ m
/-- What Shift yields. -/
def ShE (a0 : Nat) (a1 a2 : Nat → Int) (a3 a4 : Int) (a5 : Nat) (a6 a7 : Nat → Int) (a8 a9 a10 a11 a12 a13 a14 : Int) (v : asfR) : Prop :=
  ∃ e, TwE a0 a1 a2 a3 a4 a5 a6 a7 a8 a9 a13 a14 e ∧ (e ≠ 0 ∧ v = (0, 0, e) ∨ e = 0 ∧ (¬ StIn a0 a5 a10 a11 a12 ∧ v = (0, 0, 7) ∨ StIn a0 a5 a10 a11 a12 ∧ ∃ F L, F = Fst a13 a14 (Th a1) (Th a6) a3 a8 a10 a11 a12.toNat ∧ L = Lst a13 a14 (Th a2) (Th a7) a4 a9 a10 a11 a12.toNat ∧ (L < F ∧ v = (0, 0, 9) ∨ F ≤ L ∧ v = (F, L, 0))))
theorem asf_val (h12 : -9223372036854775808 ≤ a12 ∧ a12 ≤ 9223372036854775807) : AF.fin (asfA a0 a1 a2 a3 a4 a5 a6 a7 a8 a9 a10 a11 a12 a13 a14) = true ∧ ShE a0 a1 a2 a3 a4 a5 a6 a7 a8 a9 a10 a11 a12 a13 a14 (AF.val (asfA a0 a1 a2 a3 a4 a5 a6 a7 a8 a9 a10 a11 a12 a13 a14)) := by
  refine flat_val (E := ShE a0 a1 a2 a3 a4 a5 a6 a7 a8 a9 a10 a11 a12 a13 a14) (fun _ => rfl) ?_
  show DD.sat _ _ (asfD0 a0 a1 a2 a3 a4 a5 a6 a7 a8 a9 a10 a11 a12 a13 a14)
  obtain ⟨mf, mv⟩ := ame_val (a0 := a0) (a1 := a1) (a2 := a2) (a3 := a3) (a4 := a4) (a5 := a5) (a6 := a6) (a7 := a7) (a8 := a8) (a9 := a9) (a10 := a13) (a11 := a14)
  obtain ⟨M, hM⟩ : ∃ M, AF.val (ameA a0 (fun i => a1 i) (fun i => a2 i) a3 a4 a5 (fun i => a6 i) (fun i => a7 i) a8 a9 a13 a14) = M := ⟨_, rfl⟩
  have mf' : AF.fin (ameA a0 (fun i => a1 i) (fun i => a2 i) a3 a4 a5 (fun i => a6 i) (fun i => a7 i) a8 a9 a13 a14) = true := mf
  have mv' : MeE a0 a1 a2 a3 a4 a5 a6 a7 a8 a9 a13 a14 M := by rw [← hM]; exact mv
  obtain ⟨t, mw⟩ := mv'
  by_cases h8 : amew8 M = 0
  · obtain ⟨w0, w1, w2, w3, w4, w5, w6, w7, w9, w11⟩ := mw h8
    obtain ⟨hs, hn, d1, d2, d3⟩ := t.ok h8
    have q1 := hs.few
    have q2 := hn.few
    by_cases hI : StIn a0 a5 a10 a11 a12
    · obtain ⟨i1, i2, i3, i4, i5⟩ := id hI
      have s1 : Ar.run .sub .i64 (a0 : Int) a12 = a0 - a12 := arSub (by omega)
      have s2 : Ar.run .sub .i64 (a5 : Int) a12 = a5 - a12 := arSub (by omega)
      obtain ⟨hf, hv⟩ := ash_th (c9 := amew9 M) (c10 := amew10 M) (c11 := amew11 M) (c12 := amew12 M) hs hn ⟨i2, i3⟩ ⟨i4, i5⟩ i1 ⟨d1, d2, d3⟩ w9 w11
      obtain ⟨F, hF⟩ : ∃ F, F = Fst a13 a14 (Th a1) (Th a6) a3 a8 a10 a11 a12.toNat := ⟨_, rfl⟩
      obtain ⟨L, hL⟩ : ∃ L, L = Lst a13 a14 (Th a2) (Th a7) a4 a9 a10 a11 a12.toNat := ⟨_, rfl⟩
      have hf' : AF.fin (ashA a13 a14 a0 (fun i => amew9 M i) (fun i => amew10 M i) a3 a4 a5 (fun i => amew11 M i) (fun i => amew12 M i) a8 a9 a10 a11 a12) = true := hf
      have hv' : AF.val (ashA a13 a14 a0 (fun i => amew9 M i) (fun i => amew10 M i) a3 a4 a5 (fun i => amew11 M i) (fun i => amew12 M i) a8 a9 a10 a11 a12) = (F, L) := by rw [hF, hL]; exact hv
      have l9 : L < F → ShE a0 a1 a2 a3 a4 a5 a6 a7 a8 a9 a10 a11 a12 a13 a14 (0, 0, 9) := fun h => ⟨_, t, .inr ⟨h8, .inr ⟨hI, F, L, hF, hL, .inl ⟨h, rfl⟩⟩⟩⟩
      have l0 : F ≤ L → ShE a0 a1 a2 a3 a4 a5 a6 a7 a8 a9 a10 a11 a12 a13 a14 (F, L, 0) := fun h => ⟨_, t, .inr ⟨h8, .inr ⟨hI, F, L, hF, hL, .inr ⟨h, rfl⟩⟩⟩⟩
      unfold asfD0
      simp only [DD.sat, Nat.zero_add, cmLss, cmLssF, cmLeq, cmLeqF, cmGtr, cmGtrF, cmGeq, cmGeqF, cmEql, cmEqlF, cmNeq, cmNeqF, decide_eq_true_eq, Bool.not_eq_true', Bool.not_eq_false', hM, w0, w1, w2, w3, w4, w5, w6, w7, h8, s1, s2, hv']
      repeat' (first
      | exact Nat.le_refl _
      | exact shape_ok fun i _ => rfl
      | assumption
      | (exact l9 (by omega))
      | (exact l0 (by omega))
      | (intro hx; first | (exfalso; omega) | skip)
      | apply And.intro
      | omega)
    · have l7 : ShE a0 a1 a2 a3 a4 a5 a6 a7 a8 a9 a10 a11 a12 a13 a14 (0, 0, 7) := ⟨_, t, .inr ⟨h8, .inl ⟨hI, rfl⟩⟩⟩
      have s1 : 1 ≤ a12 → Ar.run .sub .i64 (a0 : Int) a12 = a0 - a12 := fun h => arSub (by omega)
      have s2 : 1 ≤ a12 → Ar.run .sub .i64 (a5 : Int) a12 = a5 - a12 := fun h => arSub (by omega)
      unfold StIn at hI
      unfold asfD0
      simp only [DD.sat, Nat.zero_add, cmLss, cmLssF, cmLeq, cmLeqF, cmGtr, cmGtrF, cmGeq, cmGeqF, cmEql, cmEqlF, cmNeq, cmNeqF, decide_eq_true_eq, Bool.not_eq_true', Bool.not_eq_false', hM, w0, w1, w2, w3, w4, w5, w6, w7, h8]
      refine ⟨Nat.le_refl _, shape_ok fun i _ => rfl, Nat.le_refl _, shape_ok fun i _ => rfl, mf', fun h => absurd rfl h, fun _ => ⟨fun _ => l7, fun k1 => ⟨fun _ => l7, fun k2 => ⟨fun _ => l7, fun k3 => ⟨fun _ => l7, fun k4 => ⟨fun _ => l7, fun k5 => ?_⟩⟩⟩⟩⟩⟩
      rw [s1 (by omega)] at k3
      rw [s2 (by omega)] at k5
      exfalso; omega
  · have le : ShE a0 a1 a2 a3 a4 a5 a6 a7 a8 a9 a10 a11 a12 a13 a14 (0, 0, amew8 M) := ⟨_, t, .inl ⟨h8, rfl⟩⟩
    unfold asfD0
    simp only [DD.sat, Nat.zero_add, cmLss, cmLssF, cmLeq, cmLeqF, cmGtr, cmGtrF, cmGeq, cmGeqF, cmEql, cmEqlF, cmNeq, cmNeqF, decide_eq_true_eq, Bool.not_eq_true', Bool.not_eq_false', hM]
    exact ⟨Nat.le_refl _, shape_ok fun i _ => rfl, Nat.le_refl _, shape_ok fun i _ => rfl, mf', fun _ => le, fun h => absurd h h8⟩
end
end Go.Proofs.Ytjdldcmcjaaibaa.Cx
