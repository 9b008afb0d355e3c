/- RANGES OVER FUNCTIONS in the logic of points: what the iterator's contract says of its call is what the range does. -/
import Derived.Test.YthagjhadjpangaaPkDMosts4

namespace Go.Proofs.Ythagjhadjpangaa.Cx
set_option linter.unusedSimpArgs false
set_option linter.unusedVariables false
open Go Go.RowKit
section
variable {P : Program} {ρ : Env} {X : Fx} {p : Pt} {Φ : Ex → Pt → Prop} {base : Nat}
theorem HR.congr {σ : Mp} {cur cur' : Cur} {w : World} (h : ∀ b l, σ b = some l → cur' b = cur b) (H : HR ρ σ cur w) : HR ρ σ cur' w :=
  ⟨fun b k l a1 a2 a3 => H.cell b k l ((h b l a3).symm.trans a1) a2 a3, fun b b' k k' l l' a1 a2 a3 a4 a5 a6 => H.inj b b' k k' l l' ((h b l a3).symm.trans a1) a2 a3 ((h b' l' a6).symm.trans a4) a5 a6,
    fun b k x l a1 a2 a3 => H.spec b k x l ((h b l a3).symm.trans a1) a2 a3, fun b b' k k' x x' l l' a1 a2 a3 a4 a5 a6 => H.injX b b' k k' x x' l l' ((h b l a3).symm.trans a1) a2 a3 ((h b' l' a6).symm.trans a4) a5 a6, fun y hy => ⟨(H.glob y hy).1, fun b k l a1 a2 ar a3 => (H.glob y hy).2 b k l ((h b l a3).symm.trans a1) a2 ar a3⟩⟩
/-- The record that a range lays. -/
noncomputable def recB (T : Tr CV) (nt : Nat) (ps : Array Tmp) (assign body : Code) : Blk := ⟨.lit [], 0, false, some (.loop ⟨T, nt, ps, assign, body, .ready, none⟩)⟩
/-- A record at any time. -/
noncomputable def recS (T : Tr CV) (nt : Nat) (ps : Array Tmp) (assign body : Code) (st : LoopState) (pd : Option Code) : Blk := ⟨.lit [], 0, false, some (.loop ⟨T, nt, ps, assign, body, st, pd⟩)⟩
def rgF : Code → Operand
  | .rangeFunc f _ _ _ => f
  | _ => .tmp 0
def rgP : Code → Array Tmp
  | .rangeFunc _ p _ _ => p
  | _ => #[]
def rgA : Code → Code
  | .rangeFunc _ _ a _ => a
  | _ => .skip
def rgB : Code → Code
  | .rangeFunc _ _ _ b => b
  | _ => .skip
theorem rd_lts {l : List (Nat × CV)} (h : l.all (fun x => x.2.lts base) = true) (t : Nat) : (rd (mkT l) t).lts base = true := by
  rw [rd_mkT]
  split
  · rename_i x hx
    exact List.all_eq_true.1 h x (List.mem_of_find?_eq_some hx)
  · rfl
theorem RecOk.of {l : List (Nat × CV)} {base nt : Nat} {ps : Array Tmp} {as' bd : Code} {st : LoopState} {pd : Option Code} (h : l.all (fun x => x.2.lts base) = true) : RecOk base (recS (mkT l) nt ps as' bd st pd) :=
  ⟨rfl, _, rfl, rd_lts h⟩
theorem memW {b : Nat} {l : List Nat} (h : l.any (Nat.beq b) = true) : b ∈ l := by
  obtain ⟨x, h1, h2⟩ := List.any_eq_true.1 h
  rw [Nat.eq_of_beq_eq_true h2]; exact h1
theorem someNe {α : Type} {β : Prop} {x : α} (h : (some x : Option α) = none) : β := by cases h
set_option maxHeartbeats 1000000 in
theorem Sem.range {f : Operand} {ps : Array Tmp} {assign body : Code} {g : Nat} {first captured : List CV} {c : CV} {h2 : Tr Blk} {n2 : Nat} {Wg : List Nat} {r5 : LR} {e : Ex} (hP : progOk P = true) (hX : FxOk ρ X) (hra : regsOk assign = true) (hrb : regsOk body = true)
    (hf : ev p.T f = some (.fn (.func g) first captured)) (K : Ctr P ρ g (first ++ [.yld p.n] ++ captured) (p.h.set p.n (recB p.T X.nt ps assign body)) (p.n + 1) Wg c h2 n2)
    (hn : p.n + 1 ≤ n2) (hWg : ∀ b ∈ Wg, (b ∈ X.W ∨ X.base ≤ b) ∧ b < p.n + 1) (hrec : (⟨h2, n2, [], []⟩ : St).getX p.n = some (.loop r5)) (hfrm : ∀ b, b ∉ Wg → ¬ (p.n + 1 ≤ b ∧ b < n2) → h2.get b = (p.h.set p.n (recB p.T X.nt ps assign body)).get b)
    (hst : r5.st ≠ .busy) (hex : Ex.of r5.pend = some e) (hΦ : Φ e ⟨p.T, ((⟨h2, n2, [], []⟩ : St).setX p.n (.loop { r5 with st := .exhausted })).heap, n2⟩) : Sem P ρ X (.rangeFunc f ps assign body) p Φ := by
  have hC : CtxOk2 P (ctxOf P memo0) := (ctxOf_ok hP memo0).toCtxOk2
  intro Q a w hS hQ
  obtain ⟨σ, hI, hF⟩ := hS.rel
  have hb : X.base ≤ p.n := hS.le
  show (Code.rangeFunc f ps assign body).wpIn (fc X.ro) X.n P Q a w
  refine wpIn_rangeFunc (fun fn _ => ?_)
  have hσN : ∀ b, p.n ≤ b → σ b = none := fun b hb' => by
    rw [hI.ext b (.inr hb')]; exact hX.N b (Nat.le_trans hb hb')
  -- the record is laid
  obtain ⟨wa, D, mark, hent, hIa, hmark⟩ : ∃ (wa : World) (D : Nat) (mark : List Deferred),
      (Instr.enterLoop fn a.tmps ps assign body X.ro).run P w = .ok (wa.heap.size, mark) (wa.alloc (.loop { state := .ready, pending := none, fn, tmps := a.tmps, params := ps, assign, body, defers := D })) ∧
      Inv ρ X.σ X.cur X.base X.W X.base X.w (p.st []) σ wa ∧ Marks X.a.defers X.w (mark ++ a.defers) wa := by
    cases hro : X.ro with
    | none =>
      have hIa : Inv ρ X.σ X.cur X.base X.W X.base X.w (p.st []) σ (w.alloc (.deferred (some []))) := hI.step (s2 := p.st []) (base2 := p.n) (W2 := []) hb hb (Nat.le_refl _) (fun b hb' => by cases hb') ⟨Nat.le_refl _, fun _ _ _ => rfl, [], rfl⟩ (Ext.refl _ _ _) (by rw [show upd (upd X.cur X.base (p.st []).next (p.st []).heap X.W) p.n (p.st []).next (p.st []).heap [] = upd X.cur X.base (p.st []).next (p.st []).heap X.W from upd_none _ _ _]; exact hI.H.alloc _) (.of_same rfl rfl rfl (by simp) fun k hk => alloc_get hk) (Fresh.none _ _ _ _ _ _)
      refine ⟨w.alloc (.deferred (some [])), w.heap.size, [{ target := .collected w.heap.size, args := #[] }], ?_, hIa, ?_⟩
      · rw [run_enterLoop_outer, World.size_alloc]
      · refine hF.2.2.trans hI.K.size (fun k hk => ?_) ⟨[w.heap.size], rfl, by simp, fun D hD => by obtain rfl := List.mem_singleton.1 hD; exact ⟨Nat.le_refl _, alloc_new _ _⟩⟩
        rw [alloc_get (Array.getElem?_eq_some_iff.1 hk).1]; exact hk
    | some l0 =>
      obtain ⟨r0, hr0⟩ := hX.ro l0 hro
      obtain ⟨q0, hq0⟩ := hI.K.loops l0 r0 hr0
      exact ⟨w, q0.defers, [], enter_inner hq0 _ _ _ _ _, hI, hF.2.2⟩
  have hσ : σ p.n = none := hσN _ (Nat.le_refl _)
  obtain ⟨x1, x2, x3, x4⟩ := newX_run (s := p.st []) (x := .loop ⟨p.T, X.nt, ps, assign, body, .ready, none⟩) (o := .loop { state := .ready, pending := none, fn, tmps := a.tmps, params := ps, assign, body, defers := D }) hIa.H hσ
    (.loop _ (alloc_new _ _) rfl rfl rfl rfl rfl hF.1 (fun t => (hF.2.1 t).mono (fun b l' hb' => by
      show (if b = p.n then _ else σ b) = _
      rw [if_neg (fun h => by rw [h, hσ] at hb'; cases hb')]; exact hb')) hra hrb)
  have f01 : Frm (p.st []) ((p.st []).newX (.loop ⟨p.T, X.nt, ps, assign, body, .ready, none⟩)) [] := .newX _ _ _
  generalize hs1 : (p.st []).newX (.loop ⟨p.T, X.nt, ps, assign, body, .ready, none⟩) = s1 at *
  have n1 : s1.next = p.n + 1 := by rw [← hs1]; rfl
  have hh1 : s1.heap = p.h.set p.n (recB p.T X.nt ps assign body) := by rw [← hs1]; rfl
  generalize hσ1 : (fun b => if b = (p.st []).next then some (⟨wa.heap.size, 0, 0, 0⟩ : Loc) else σ b) = σ1 at x1 x2 x3 x4
  have hσ1n : σ1 p.n = some ⟨wa.heap.size, 0, 0, 0⟩ := by rw [← hσ1]; exact if_pos rfl
  have x1 : HR ρ σ1 (upd (upd X.cur X.base p.n p.h X.W) p.n (p.n + 1) s1.heap []) (wa.alloc (.loop { state := .ready, pending := none, fn, tmps := a.tmps, params := ps, assign, body, defers := D })) := x1
  have x2 : Ext σ σ1 p.n (p.n + 1) := x2
  have x4 : Fresh σ σ1 p.n (p.n + 1) p.n [] wa := x4
  have x3 : Keeps σ p.n [] wa (wa.alloc (.loop { state := .ready, pending := none, fn, tmps := a.tmps, params := ps, assign, body, defers := D })) := x3
  rw [← n1] at x1 x2 x4
  generalize hw1 : wa.alloc (.loop { state := .ready, pending := none, fn, tmps := a.tmps, params := ps, assign, body, defers := D }) = w1 at hent x1 x3
  have hI1 : Inv ρ X.σ X.cur X.base X.W X.base X.w s1 σ1 w1 := hIa.step (base2 := p.n) hb hb (Nat.le_refl _) (fun b hb' => by cases hb') f01.toB x2 x1 x3 x4
  have hσ1N : ∀ b, s1.next ≤ b → σ1 b = none := fun b hb' => by
    rw [x2 b (.inr hb')]; exact hσN b (by omega)
  have hold1 : ∀ b, b < s1.next → upd X.cur X.base s1.next s1.heap X.W b = s1.heap.get b := fun b hb' => by
    show (if b ∈ X.W ∨ (X.base ≤ b ∧ b < s1.next) then _ else X.cur b) = _
    by_cases hc : b ∈ X.W ∨ (X.base ≤ b ∧ b < s1.next)
    · rw [if_pos hc]
    · rw [if_neg hc]
      have h1 : b < X.base := by
        by_cases h : b < X.base
        · exact h
        · exact absurd (.inr ⟨by omega, hb'⟩) hc
      rw [hS.old b h1 (fun h => hc (.inl h)), hh1, Tr.get_set, if_neg (by omega)]
  -- the call
  obtain ⟨x', y', hfv, hx, hy⟩ := (ev_run (σ := σ) (ρ := ρ) (a := a) (fun t _ => hF.2.1 t) hf).fn_inv
  obtain ⟨gfn, hgfn, hbody⟩ := K.fn
  have hle1 : σ.le σ1 := fun b l hl => by
    rw [x2 b (.inl (by
      by_cases h : b < p.n
      · exact h
      · rw [hσN b (by omega)] at hl; cases hl))]; exact hl
  have hargs : VRl ρ σ1 (first ++ [.yld p.n] ++ captured) ((x' ++ #[Value.func (.yield wa.heap.size) #[] #[]]) ++ y').toList := by
    simp only [Array.toList_append]
    exact ((hx.mono hle1).append (.cons (.yld hσ1n) .nil)).append (hy.mono hle1)
  have hHc : HR ρ σ1 (curOf (p.h.set p.n (recB p.T X.nt ps assign body)) (p.n + 1)) w1 := by
    refine HR.congr (fun b l hl => ?_) hI1.H
    have hlt : b < s1.next := by
      by_cases h : b < s1.next
      · exact h
      · rw [hσ1N b (by omega)] at hl; cases hl
    rw [hold1 b hlt, ← hh1]
    exact if_pos (by omega)
  refine ⟨wa.heap.size, mark, w1, { target := .fn (.func g) y', args := x' ++ #[Value.func (.yield wa.heap.size) #[] #[]] }, w1, g, (x' ++ #[Value.func (.yield wa.heap.size) #[] #[]]) ++ y', w1, hent, ?_, (fun _ _ => trivial), ?_, (fun h => by cases h), callsIn_fc ((K.run (X.n - 1) σ1 w1 _ hargs hHc (fun b hb' => hσ1N b (by omega))).mono ?_)⟩
  · simp only [resolve, Deferred.ofValue, hfv, pure_bind, Sem.run_pure]
    simp [Act.eval]
  · simp only [invoke, callFunc_run hC (show (ctxOf P memo0).fn g = some gfn from hgfn) hbody]
  · rintro e' w3 ⟨v, rfl, σ2, y1, y2, y3, y4, y5⟩
    have y1 : Ext σ1 σ2 s1.next n2 := by rw [n1]; exact y1
    have y3 : HR ρ σ2 (upd (curOf (p.h.set p.n (recB p.T X.nt ps assign body)) (p.n + 1)) (p.n + 1) n2 h2 Wg) w3 := y3
    have y4 : Keeps σ1 s1.next Wg w1 w3 := by rw [n1]; exact y4
    have y5 : Fresh σ1 σ2 s1.next n2 s1.next Wg w1 := by rw [n1]; exact y5
    have hI2 : Inv ρ X.σ X.cur X.base X.W X.base X.w ⟨h2, n2, [], []⟩ σ2 w3 := by
      refine hI1.step (s2 := ⟨h2, n2, [], []⟩) (base2 := s1.next) (W2 := Wg) (by omega) (by omega) (Nat.le_refl _) (fun b hb' => ?_) ⟨by show s1.next ≤ n2; omega, fun b hbW hbn => ?_, ?_⟩ y1 ?_ y4 y5
      · rcases (hWg b hb').1 with h | h
        · exact .inl h
        · exact .inr ⟨h, by have := (hWg b hb').2; omega⟩
      · show h2.get b = s1.heap.get b
        rw [hh1]
        exact hfrm b hbW (fun h => hbn ⟨by omega, h.2⟩)
      · rw [← hs1]; exact ⟨[], rfl⟩
      · refine HR.congr (fun b l hl => ?_) y3
        have hlt : b < n2 := by
          by_cases h : b < n2
          · exact h
          · rw [y1 b (.inr (by omega)), hσ1N b (by omega)] at hl; cases hl
        show (if b ∈ Wg ∨ (s1.next ≤ b ∧ b < n2) then h2.get b else _) = (if b ∈ Wg ∨ (p.n + 1 ≤ b ∧ b < n2) then h2.get b else _)
        by_cases hc : b ∈ Wg ∨ (s1.next ≤ b ∧ b < n2)
        · rw [if_pos hc, if_pos (by rw [← n1]; exact hc)]
        · rw [if_neg hc, if_neg (by rw [← n1]; exact hc)]
          have hlt1 : b < s1.next := by
            by_cases h : b < s1.next
            · exact h
            · exact absurd (.inr ⟨by omega, hlt⟩) hc
          rw [hold1 b hlt1, hh1]
          exact (if_pos (by omega)).symm
    have hl2 : σ2 p.n = some ⟨wa.heap.size, 0, 0, 0⟩ := by rw [y1 _ (.inl (by omega))]; exact hσ1n
    obtain ⟨q, hq, hqs, hqp, hI5, hK5⟩ := loop_set (r1 := { r5 with st := .exhausted }) (f := fun q => { q with state := .exhausted }) hI2 (by show X.base ≤ n2; omega) (by show X.base ≤ n2; omega) hrec (.inr ⟨hb, by show p.n < n2; omega⟩) hl2 (fun q h1' h2' h3' => by
      have hpd : q.pending = r5.pend := by
        cases h1' with
        | loop q' hq' _ hp' => rw [h2'] at hq'; cases hq'; exact hp'
      have := h1'.loop_state (st := .exhausted) (pd := r5.pend) h2'
      rw [← hpd] at this
      rw [← hpd]
      exact this)
    refine ⟨q.pending, _, run_endLoop hq (by rw [hqs]; exact hst), ?_⟩
    have hSR : SR ρ X ⟨p.T, ((⟨h2, n2, [], []⟩ : St).setX p.n (.loop { r5 with st := .exhausted })).heap, n2⟩ { a with defers := mark ++ a.defers } (w3.putObj wa.heap.size (.loop { q with state := .exhausted })) := by
      refine ⟨by show X.base ≤ n2; omega, fun b hb1 hb2 => ?_, σ2, hI5, hF.1, fun t => (hF.2.1 t).mono (fun b l hl => ?_), ?_⟩
      · show X.cur b = ((⟨h2, n2, [], []⟩ : St).setX p.n (.loop { r5 with st := .exhausted })).heap.get b
        rw [setX_get, if_neg (by omega)]
        show X.cur b = h2.get b
        rw [hfrm b (fun h => by
          rcases (hWg b h).1 with h | h
          · exact hb2 h
          · omega) (fun h => by omega), Tr.get_set, if_neg (by omega)]
        exact hS.old b hb1 hb2
      · have h1 := hle1 b l hl
        rw [y1 b (.inl (by
          by_cases h : b < s1.next
          · exact h
          · rw [hσ1N b (by omega)] at h1; cases h1))]
        exact h1
      · have hsz : X.w.heap.size ≤ wa.heap.size := hIa.K.size
        exact hmark.trans hsz (fun k hk => hK5.defd k (y4.defd k (x3.defd k hk))) (.refl _ _ _)
    have := hQ e _ _ _ hΦ hSR
    rw [← hqp] at hex
    revert hex this
    generalize w3.putObj wa.heap.size (.loop { q with state := .exhausted }) = w4
    intro hex this
    revert hex
    cases hpd : q.pending with
    | none => intro hex; cases hex; exact this
    | some cd =>
      intro hex
      cases cd <;> simp only [Ex.of] at hex <;> cases hex
      · exact wpIn_exit this
      · exact wpIn_ret this
/-! ## Heads of automata that are ranges -/
/-- The state behind a range, whose iterator left this memory. -/
noncomputable def rgSt (n0 : Nat) (h2 : Tr Blk) (n2 : Nat) (r5 : LR) (o : List Nat) : St := ⟨((⟨h2, n2, [], []⟩ : St).setX n0 (.loop { r5 with st := .exhausted })).heap, n2, o, []⟩
/-- What follows a range. -/
noncomputable def AF.runR {N R : Type} (A : AF N R) (C : Ctx) (a : N) (h2 : Tr Blk) (n2 : Nat) (r5 : LR) (e : Ex) (o : List Nat) : Option KO :=
  resumeK C A.m A.base A.nt A.un A.code (A.path a) e ((A.pd a).pt A.H0).T (rgSt (A.pd a).n h2 n2 r5 o)
theorem AF.old {N R : Type} {A : AF N R} {C : Ctx} (hA : A.Ok P C) (a : N) {b : Nat} (hb : b < A.base) (hbW : b ∉ A.W) : ((A.pd a).pt A.H0).h.get b = A.H0.get b := by
  show (putH A.H0 ((A.pd a).h ++ (A.pd a).x)).get b = _
  rw [get_putH]
  split
  · rename_i x hx
    have h1 := List.find?_some hx
    have h2 := List.mem_of_find?_eq_some hx
    simp only [beq_iff_eq] at h1
    subst h1
    rcases List.mem_append.1 h2 with h2 | h2
    · rcases ((hA.pd a).h x h2).1 with h3 | h3
      · omega
      · exact absurd h3 hbW
    · exact absurd ((hA.pd a).x x h2).1 hbW
  · rfl
theorem AF.frm {N R : Type} {A : AF N R} {C : Ctx} (hA : A.Ok P C) (v : R) (hlt : (A.rh v).all (fun x => Nat.blt x.1 (A.rn v)) = true) {b : Nat} (hbW : b ∉ A.W) (hb : ¬ (A.base ≤ b ∧ b < A.rn v)) : (putH A.H0 (A.rh v ++ A.rx v)).get b = A.H0.get b := by
  rw [get_putH]
  split
  · rename_i x hx
    have h1 := List.find?_some hx
    have h2 := List.mem_of_find?_eq_some hx
    simp only [beq_iff_eq] at h1
    subst h1
    rcases List.mem_append.1 h2 with h2 | h2
    · rcases ((hA.rd v).1.h x h2).1 with h3 | h3
      · exact absurd ⟨h3, blt_lt (List.all_eq_true.1 hlt x h2)⟩ hb
      · exact absurd h3 hbW
    · exact absurd ((hA.rd v).1.x x h2).1 hbW
  · rfl
theorem Ctr.congr {f : Nat} {args : List CV} {h0 h0' h1 : Tr Blk} {base n1 : Nat} {W : List Nat} {c : CV} (h : ∀ b, b < base → h0.get b = h0'.get b) (K : Ctr P ρ f args h0 base W c h1 n1) : Ctr P ρ f args h0' base W c h1 n1 := by
  have e : curOf h0 base = curOf h0' base := by
    funext b
    unfold curOf
    split
    · exact h b ‹_›
    · rfl
  exact ⟨K.fn, fun n σ w args' a1 a2 a3 => by rw [← e]; exact K.run n σ w args' a1 (by rw [e]; exact a2) a3⟩
/-- A head that is a range over a function, from the iterator's automaton over the head's memory. -/
structure AF.Rg {N R N' R' : Type} (A : AF N R) (B : AF N' R') (P : Program) (C C' : Ctx) (a : N) (f : Operand) (ps : Array Tmp) (as' bd : Code) (g : Nat) (gn : Func) (first captured : List CV) (rec : R' → LR) (ex : R' → Ex) (Dr : R' → DD (Lf N R)) : Prop where
  code : codeAt A.code (A.path a) = .rangeFunc f ps as' bd
  fn : ev ((A.pd a).pt A.H0).T f = some (.fn (.func g) first captured)
  args : B.args = first ++ [.yld (A.pd a).n] ++ captured
  base : B.base = (A.pd a).n + 1
  h0 : B.h0 = ((A.pd a).n, recB (mkT (A.pd a).T) A.nt ps as' bd) :: (((A.pd a).h ++ (A.pd a).x) ++ A.h0)
  W : B.W.all (fun b => A.W.any (Nat.beq b) || Nat.ble A.base b) = true
  gfn : P.funcs[g]? = some gn
  body : gn.body = some B.code
  nt : gn.ntmps = B.nt
  len : B.args.length ≤ B.nt
  res : gn.results.toList = B.res
  ok : B.Ok P C'
  le : ∀ v, B.base ≤ B.rn v
  lt : ∀ v, (B.rh v).all (fun x => Nat.blt x.1 (B.rn v)) = true
  rcd : ∀ v, (⟨putH B.H0 (B.rh v ++ B.rx v), B.rn v, [], []⟩ : St).getX (A.pd a).n = some (.loop (rec v))
  st : ∀ v, (rec v).st ≠ .busy
  exd : ∀ v, Ex.of (rec v).pend = some (ex v)
  D : ∀ v, A.edgeOk (ctxOf P memo0) (Dr v) (A.runR C a (putH B.H0 (B.rh v ++ B.rx v)) (B.rn v) (rec v) (ex v))
theorem mkH_append (l m : List (Nat × Blk)) : mkH (l ++ m) = putH (mkH m) l := by
  induction l with
  | nil => rfl
  | cons x l ih => obtain ⟨t, c⟩ := x; simp only [List.cons_append, mkH, putH, ih]
theorem AF.range_ok {N R N' R' : Type} {A : AF N R} {B : AF N' R'} {memo memo' : Memo} {a : N} {f : Operand} {ps : Array Tmp} {as' bd : Code} {g : Nat} {gn : Func} {first captured : List CV} {rec : R' → LR} {ex : R' → Ex} {Dr : R' → DD (Lf N R)}
    (hP : progOk P = true) (hM : MemoOk P (ctxOf P memo) ρ) (hM' : MemoOk P (ctxOf P memo') ρ) (hA : A.Ok P (ctxOf P memo)) (H : A.Rg B P (ctxOf P memo) (ctxOf P memo') a f ps as' bd g gn first captured rec ex Dr)
    (hRB : ∀ X a q n D, FxOk ρ X → X.base = B.base → X.nt = B.nt → X.W = B.W → B.rgo a = some q → q n = some D → B.RangeOk P ρ X a D)
    {X : Fx} (hX : FxOk ρ X) (hb : X.base = A.base) (hnt : X.nt = A.nt) (hW : X.W = A.W) {n : Nat} {D : DD (Lf N R)} (h : (B.run n).map Dr = some D) : A.RangeOk P ρ X a D := by
  cases hv : B.run n with
  | none => rw [hv] at h; cases h
  | some v =>
    rw [hv] at h
    cases h
    have hC := ctxOf_ok hP memo
    have hle : A.base ≤ (A.pd a).n := hA.le a
    have hregs : regsOk (.rangeFunc f ps as' bd) = true := by rw [← H.code]; exact regs_at (A.path a) hA.regs
    have hregs : regsOk as' = true ∧ regsOk bd = true := by simpa [regsOk] using hregs
    have K := AF.ctr hP hM' H.ok H.gfn H.body H.nt H.len H.res hRB hv
    have hH0 : B.H0 = ((A.pd a).pt A.H0).h.set (A.pd a).n (recB (mkT (A.pd a).T) A.nt ps as' bd) := by
      show mkH B.h0 = _
      rw [H.h0, mkH, mkH_append]
      rfl
    have hWB : ∀ b ∈ B.W, (b ∈ A.W ∨ A.base ≤ b) ∧ b < (A.pd a).n + 1 := fun b hbB => by
      refine ⟨?_, by rw [← H.base]; exact H.ok.wlt b hbB⟩
      have := List.all_eq_true.1 H.W b hbB
      rw [Bool.or_eq_true] at this
      rcases this with h | h
      · obtain ⟨x, h1, h2⟩ := List.any_eq_true.1 h
        rw [Nat.eq_of_beq_eq_true h2]; exact .inl h1
      · exact .inr (Nat.le_of_ble_eq_true h)
    have hfr : ∀ b, b ∉ B.W → ¬ ((A.pd a).n + 1 ≤ b ∧ b < B.rn v) → (putH B.H0 (B.rh v ++ B.rx v)).get b = (((A.pd a).pt A.H0).h.set (A.pd a).n (recB (mkT (A.pd a).T) A.nt ps as' bd)).get b := fun b h1 h2 => by
      rw [AF.frm H.ok v (H.lt v) h1 (by rw [H.base]; exact h2), hH0]
    refine ⟨A.runR (ctxOf P memo) a (putH B.H0 (B.rh v ++ B.rx v)) (B.rn v) (rec v) (ex v), rgSt (A.pd a).n (putH B.H0 (B.rh v ++ B.rx v)) (B.rn v) (rec v) [], H.D v, rfl, fun b hb1 hb2 => ?_, fun o k hk => ?_⟩
    · show (((⟨putH B.H0 (B.rh v ++ B.rx v), B.rn v, [], []⟩ : St).setX (A.pd a).n (.loop { rec v with st := .exhausted })).heap).get b = _
      rw [setX_get, if_neg (by omega)]
      show (putH B.H0 (B.rh v ++ B.rx v)).get b = _
      rw [hfr b (fun h => by
        rcases (hWB b h).1 with h | h
        · exact hb2 h
        · omega) (fun h => by omega), Tr.get_set, if_neg (by omega)]
      exact AF.old hA a hb1 hb2
    · have kk := resumeK_ok (base := A.base) hC hM (A.path a) A.code (ex v) _ _ _ hA.regs (by show A.base ≤ B.rn v; have := H.le v; rw [H.base] at this; omega) hk
      refine ⟨kk.next, kk.pc, kk.old, fun X' Φ h1 h2 h3 h4 h5 h6 hx => ?_⟩
      subst hx
      have hob := kk.run X' Φ h1 h2 h3 h4 h5 h6
      show LoopAt P ρ X' (codeAt A.code (A.path a)) (AftL P ρ X' A.code (A.path a) Φ) _
      rw [H.code]
      show Sem P ρ X' (.rangeFunc f ps as' bd) ((A.pd a).pt A.H0) _
      refine Sem.range (c := B.rc v) (h2 := putH B.H0 (B.rh v ++ B.rx v)) (n2 := B.rn v) (Wg := B.W) (r5 := rec v) (e := ex v) hP h1 hregs.1 hregs.2 H.fn ?_ ?_ ?_ (H.rcd v) ?_ (H.st v) (H.exd v) hob
      · have := K
        rw [H.args, H.base, hH0] at this
        rw [hH0, h3]
        exact this
      · have := H.le v; rw [H.base] at this; exact this
      · intro b hbB
        rw [hW, hb]
        exact hWB b hbB
      · intro b q1 q2
        rw [h3]
        exact hfr b q1 q2
end
end Go.Proofs.Ythagjhadjpangaa.Cx

/- CALLS WITH FUNCTIONS AS ARGUMENTS THAT ARE KNOWN FROM AUTOMATA: function values, and the boxes that they hold on to, are read off like other arguments. -/
namespace Go.Proofs.Ythagjhadjpangaa.Cx
set_option linter.unusedSimpArgs false
set_option linter.unusedVariables false
open Go Go.RowKit
/-- What an argument looks like: an integer, a bool, a struct, a slice of rows that is read alone, a pointer to cells that are read alone, a function with what it holds on to. -/
inductive AB where
  | int (k : IntKind)
  | bool
  | agg (l : List AB)
  | rows (ks : List (Option IntKind))
  | box (l : List AB)
  | fn (g : Nat) (l : List AB)
  | nils
def AB.flat : AB → Bool
  | .agg _ => false
  | _ => true
mutual
def AB.ni : AB → Nat
  | .int _ => 1
  | .bool | .rows _ | .nils => 0
  | .agg l | .box l | .fn _ l => AB.nis l
def AB.nis : List AB → Nat
  | [] => 0
  | p :: l => p.ni + AB.nis l
end
mutual
def AB.nb : AB → Nat
  | .bool => 1
  | .int _ | .rows _ | .nils => 0
  | .agg l | .box l | .fn _ l => AB.nbs l
def AB.nbs : List AB → Nat
  | [] => 0
  | p :: l => p.nb + AB.nbs l
end
mutual
/-- How many tables. -/
def AB.nt : AB → Nat
  | .rows _ => 1
  | .int _ | .bool | .nils => 0
  | .agg l | .box l | .fn _ l => AB.nts l
def AB.nts : List AB → Nat
  | [] => 0
  | p :: l => p.nt + AB.nts l
end
mutual
/-- How many blocks. -/
def AB.nq : AB → Nat
  | .rows _ => 1
  | .int _ | .bool | .nils => 0
  | .agg l | .fn _ l => AB.nqs l
  | .box l => AB.nqs l + 1
def AB.nqs : List AB → Nat
  | [] => 0
  | p :: l => p.nq + AB.nqs l
end
mutual
/-- Where tables of arguments lie among the caller's: the call's block, the caller's block, the first row, the row's size. -/
def AB.tabs : AB → CV → Nat → List (Nat × Nat × Nat × Nat)
  | .rows _, .sla b z o _, q => [(q, b, o, z)]
  | .agg l, .agg m, q => AB.tabss l m q
  | _, _, _ => []
def AB.tabss : List AB → List CV → Nat → List (Nat × Nat × Nat × Nat)
  | p :: l, c :: m, q => p.tabs c q ++ AB.tabss l m (q + p.nq)
  | _, _, _ => []
end
def CV.fl (c : CV) : CV := bif c.flat then c else .junk
theorem CV.fl_flat (c : CV) : c.fl.flat = true := by
  unfold CV.fl
  cases h : c.flat with
  | true => rw [cond_true]; exact h
  | false => rfl
theorem fl_all (l : List CV) : (l.map CV.fl).all CV.flat = true := by
  induction l with
  | nil => rfl
  | cons c l ih => rw [List.map_cons, List.all_cons, CV.fl_flat, ih]; rfl
theorem fl_id {l : List CV} (h : l.all CV.flat = true) : l.map CV.fl = l := by
  induction l with
  | nil => rfl
  | cons c l ih =>
    simp only [List.all_cons, Bool.and_eq_true] at h
    rw [List.map_cons, ih h.2]
    unfold CV.fl
    rw [h.1, cond_true]
/-- Cells that are read alone. -/
def boxB (cs : List CV) : Blk := ⟨.arg 1 cs.length (fun _ => cs.map CV.fl) (fun _ => ⟨by simp, fl_all cs⟩), cs.length, true, none⟩
theorem boxB_cells (cs : List CV) : (boxB cs).cells = cs.map CV.fl := by
  show flatR (fun _ => cs.map CV.fl) 1 = _
  simp [flatR]
mutual
def AB.put (v : AW) : AB → Nat → Nat → Nat → Nat → CV
  | .int k, i, _, _, _ => .int k (.x (v.i.getD i 0))
  | .bool, _, j, _, _ => .bool (.x (v.b.getD j false))
  | .nils, _, _, _, _ => .slc none 0 0
  | .agg l, i, j, t, q => .agg (AB.puts v l i j t q)
  | .rows ks, _, _, t, q => .sla q ks.length 0 (v.t.getD t .none).n
  | .box l, _, _, _, q => .ptr (some (q, 0))
  | .fn g l, i, j, t, q => .fn (.func g) [] (AB.puts v l i j t q)
def AB.puts (v : AW) : List AB → Nat → Nat → Nat → Nat → List CV
  | [], _, _, _, _ => []
  | p :: l, i, j, t, q => p.put v i j t q :: AB.puts v l (i + p.ni) (j + p.nb) (t + p.nt) (q + p.nq)
end
mutual
/-- The blocks, one after another from the number q on. -/
def AB.blks (v : AW) : AB → Nat → Nat → Nat → Nat → List Blk
  | .int _, _, _, _, _ => []
  | .bool, _, _, _, _ => []
  | .nils, _, _, _, _ => []
  | .agg l, i, j, t, q => AB.blkss v l i j t q
  | .fn _ l, i, j, t, q => AB.blkss v l i j t q
  | .rows ks, _, _, t, _ => [tabB ks (v.t.getD t .none)]
  | .box l, i, j, t, q => boxB (AB.puts v l i j t (q + 1)) :: AB.blkss v l i j t (q + 1)
def AB.blkss (v : AW) : List AB → Nat → Nat → Nat → Nat → List Blk
  | [], _, _, _, _ => []
  | p :: l, i, j, t, q => p.blks v i j t q ++ AB.blkss v l (i + p.ni) (j + p.nb) (t + p.nt) (q + p.nq)
end
mutual
theorem AB.blks_length (v : AW) : ∀ (p : AB) (i j t q : Nat), (p.blks v i j t q).length = p.nq
  | .int _, _, _, _, _ => by simp [AB.blks, AB.nq]
  | .bool, _, _, _, _ => by simp [AB.blks, AB.nq]
  | .nils, _, _, _, _ => by simp [AB.blks, AB.nq]
  | .agg l, i, j, t, q => by rw [AB.blks, AB.nq, AB.blkss_length v l]
  | .fn _ l, i, j, t, q => by rw [AB.blks, AB.nq, AB.blkss_length v l]
  | .rows ks, _, _, t, _ => by simp [AB.blks, AB.nq]
  | .box l, i, j, t, q => by rw [AB.blks, AB.nq, List.length_cons, AB.blkss_length v l]
theorem AB.blkss_length (v : AW) : ∀ (l : List AB) (i j t q : Nat), (AB.blkss v l i j t q).length = AB.nqs l
  | [], _, _, _, _ => rfl
  | p :: l, i, j, t, q => by rw [AB.blkss, AB.nqs, List.length_append, AB.blks_length v p, AB.blkss_length v l]
end
theorem AB.put_flat (v : AW) (p : AB) (h : p.flat = true) (i j t q : Nat) : (p.put v i j t q).flat = true := by
  cases p <;> first | (cases h; done) | rfl
theorem AB.puts_flat (v : AW) : ∀ (l : List AB) (i j t q : Nat), l.all AB.flat = true → (AB.puts v l i j t q).all CV.flat = true
  | [], _, _, _, _, _ => by simp [AB.puts]
  | p :: l, i, j, t, q, h => by
    simp only [List.all_cons, Bool.and_eq_true] at h
    rw [AB.puts, List.all_cons, AB.put_flat v p h.1, AB.puts_flat v l _ _ _ _ h.2]; rfl
theorem AB.puts_length (v : AW) : ∀ (l : List AB) (i j t q : Nat), (AB.puts v l i j t q).length = l.length
  | [], _, _, _, _ => by simp [AB.puts]
  | p :: l, i, j, t, q => by rw [AB.puts, List.length_cons, AB.puts_length v l, List.length_cons]
/-- What was found: the values, the facts that they rest on, the blocks that are read, how many blocks the call has. -/
structure AX where
  v : AW
  sh : List Bool
  R : List Nat
  q : Nat
/-- What a function value holds on to, if it is this function. -/
def fnOf (f : Nat) : CV → Option (List CV)
  | .fn (.func f') [] m => bif Nat.beq f f' then some m else none
  | _ => none
/-- Cells that a pointer points to, and their block. -/
noncomputable def boxOf (s : St) (l : List AB) : CV → Option (Nat × List CV)
  | .ptr (some (b, o)) => bif l.all AB.flat then (match s.ld b o l.length with | some cs => some (b, cs) | none => none) else none
  | _ => none
theorem fnOf_ok {f : Nat} {c : CV} {m : List CV} (h : fnOf f c = some m) : c = .fn (.func f) [] m := by
  unfold fnOf at h
  split at h
  · rename_i f' m'
    cases hf : Nat.beq f f' with
    | false => rw [hf, cond_false] at h; cases h
    | true =>
      rw [hf, cond_true] at h
      cases h
      rw [Nat.eq_of_beq_eq_true hf]
  · cases h
theorem boxOf_ok {s : St} {l : List AB} {c : CV} {b : Nat} {cs : List CV} (h : boxOf s l c = some (b, cs)) : ∃ o, c = .ptr (some (b, o)) ∧ l.all AB.flat = true ∧ s.ld b o l.length = some cs := by
  unfold boxOf at h
  split at h
  · rename_i b' o
    cases hf : l.all AB.flat with
    | false => rw [hf, cond_false] at h; cases h
    | true =>
      rw [hf, cond_true] at h
      split at h
      · rename_i cs' hld
        cases h
        exact ⟨o, rfl, rfl, hld⟩
      · cases h
  · cases h
mutual
noncomputable def AB.get (s : St) : AB → CV → AX → Option AX
  | .int k, .int k' e, g => bif decide (k = k') then (match e.num with | some n => some ⟨⟨g.v.i ++ [n], g.v.b, g.v.t⟩, g.sh, g.R, g.q⟩ | none => none) else none
  | .bool, .bool e, g => match e.val with | some b => some ⟨⟨g.v.i, g.v.b ++ [b], g.v.t⟩, g.sh, g.R, g.q⟩ | none => none
  | .agg l, .agg m, g => AB.gets s l m g
  | .nils, .slc none 0 0, g => some g
  | .rows ks, c, g => match rowsOf s ks c with | some (t, sh, R) => some ⟨⟨g.v.i, g.v.b, g.v.t ++ [t]⟩, g.sh ++ sh, g.R ++ R, g.q + 1⟩ | none => none
  | .box l, c, g => match boxOf s l c with | some (b, cs) => AB.gets s l cs ⟨g.v, g.sh, g.R ++ [b], g.q + 1⟩ | none => none
  | .fn f l, c, g => match fnOf f c with | some m => AB.gets s l m g | none => none
  | _, _, _ => none
noncomputable def AB.gets (s : St) : List AB → List CV → AX → Option AX
  | [], [], g => some g
  | p :: l, c :: m, g => match AB.get s p c g with | some g => AB.gets s l m g | none => none
  | _, _, _ => none
end
theorem AB.get_nils {s : St} {c : CV} {g g' : AX} (h : AB.get s .nils c g = some g') : c = .slc none 0 0 ∧ g = g' := by
  cases c with
  | slc a n k =>
    cases a with
    | none =>
      cases n with
      | zero =>
        cases k with
        | zero => simp only [AB.get, Option.some.injEq] at h; exact ⟨rfl, h⟩
        | succ k => simp [AB.get] at h
      | succ n => simp [AB.get] at h
    | some a => simp [AB.get] at h
  | _ => simp [AB.get] at h
/-- A block that is read alone, where it lies, under these names. -/
structure AtR (ρ : Env) (τ : Mp) (w : World) (k : Blk) (lo : Option Loc) : Prop where
  live : k.live = true
  ro : k.ro = true
  ext : k.ext = none
  at' : ∀ l, lo = some l → ∃ c t p, w.heap[l.blk]? = some (.cells c t p) ∧ c.size = l.size ∧ k.esz = l.esz ∧ l.base + k.cells.length ≤ l.size ∧ VRl ρ τ k.cells ((c.toList.drop l.base).take k.cells.length)
theorem ArgAt.atR {ρ : Env} {w : World} {k : Blk} {lo : Option Loc} (h : ArgAt ρ w k lo) (τ : Mp) : AtR ρ τ w k lo :=
  ⟨h.live, h.ro, h.ext, fun l hl => by obtain ⟨c, t, p, q1, q2, q3, q4, q5⟩ := h.at' l hl; exact ⟨c, t, p, q1, q2, q3, q4, q5 τ⟩⟩
theorem HR.ofR {ρ : Env} {h : Tr Blk} {base : Nat} {σ : Mp} {w : World} (hL : Laid w) (ha : ∀ i k, i < base → h.get i = some k → AtR ρ σ w k (σ i)) : HR ρ σ (curOf h base) w := by
  have get : ∀ b k, curOf h base b = some k → AtR ρ σ w k (σ b) := fun b k hk => by
    unfold curOf at hk
    split at hk
    · rename_i hb; exact ha b k hb hk
    · cases hk
  refine ⟨fun b k l a1 a2 a3 => ?_, fun b b' k k' l l' a1 a2 a3 a4 a5 a6 a7 a8 => ?_, fun b k x l a1 a2 a3 => ?_, fun b b' k k' x x' l l' a1 a2 a3 a4 a5 a6 a7 => ?_, fun y hy => ⟨hL y hy, fun b k l a1 _ ar _ => by rw [(get b k a1).ro] at ar; cases ar⟩⟩
  · have := get b k a1
    obtain ⟨c, t, p, q1, q2, q3, q4, q5⟩ := this.at' l a3
    exact ⟨c, t, p, q1, (fun h => by rw [this.ro] at h; cases h), q2, q3, q4, q5⟩
  · rw [(get b k a1).ro, (get b' k' a4).ro] at a8
    rcases a8 with h | h <;> cases h
  · rw [(get b k a1).ext] at a2; cases a2
  · rw [(get b k a1).ext] at a2; cases a2
/-- What is there of an argument. -/
structure AGot (ρ : Env) (s : St) (ni nb nt nq : Nat) (g g' : AX) (bl : AW → List Blk) (T : List (Nat × Nat × Nat × Nat)) {V : Type} (rel0 : Mp → V → Prop) (rel1 : AW → Mp → V → Prop) : Prop where
  pre : g.v.pre g'.v
  li : g'.v.i.length = g.v.i.length + ni
  lb : g'.v.b.length = g.v.b.length + nb
  lt : g'.v.t.length = g.v.t.length + nt
  lq : g'.q = g.q + nq
  sh : ∃ l, g'.sh = g.sh ++ l
  R : ∃ l, g'.R = g.R ++ l
  le : (∀ b ∈ g.R, b < s.next) → ∀ b ∈ g'.R, b < s.next
  ok : ∀ (σ : Mp) (cur : Cur) (w : World) (v : V), rel0 σ v → (∀ b ∈ g'.sh, b = true) → HR ρ σ cur w → (∀ b ∈ g'.R, cur b = s.heap.get b) →
    ∃ los : List (Option Loc), los.length = nq ∧ (∀ x ∈ T, g.q ≤ x.1 ∧ x.1 < g.q + nq ∧ ∀ l', los[x.1 - g.q]? = some (some l') → ∃ l, σ x.2.1 = some l ∧ l'.blk = l.blk ∧ l'.base = l.base + x.2.2.1 * x.2.2.2) ∧
      ∀ (u : AW) (τ : Mp), g'.v.pre u → (∀ j lo, los[j]? = some lo → τ (g.q + j) = lo) → rel1 u τ v ∧ ∀ j k, (bl u)[j]? = some k → AtR ρ τ w k (τ (g.q + j))
section
variable {P : Program} {ρ : Env} {s : St}
theorem VR.ptr_inv' {σ : Mp} {b o : Nat} {v : Value} (h : VR ρ σ (.ptr (some (b, o))) v) : ∃ l, σ b = some l ∧ v = .pointer (some ⟨l.blk, l.base + o, none⟩) := by
  cases h with
  | ptr hl => exact ⟨_, hl, rfl⟩
mutual
theorem AB.get_ok : ∀ {p : AB} {c : CV} {g g' : AX}, AB.get s p c g = some g' → AGot ρ s p.ni p.nb p.nt p.nq g g' (fun u => p.blks u g.v.i.length g.v.b.length g.v.t.length g.q) (p.tabs c g.q) (fun σ v => VR ρ σ c v) (fun u τ v => VR ρ τ (p.put u g.v.i.length g.v.b.length g.v.t.length g.q) v)
  | .int k, c, g, g', h => by
    cases c <;> simp only [AB.get] at h <;> try (cases h; done)
    rename_i k' e
    cases hk : decide (k = k') with
    | false => rw [hk] at h; cases h
    | true =>
      rw [hk, cond_true] at h
      obtain rfl := of_decide_eq_true hk
      cases e <;> simp only [IE.num] at h <;> try (cases h; done)
      all_goals
        cases h
        refine ⟨⟨⟨_, rfl⟩, ⟨[], by simp⟩, ⟨[], by simp⟩⟩, by simp [AB.ni], by simp [AB.nb], by simp [AB.nt], by simp [AB.nq], ⟨[], by simp⟩, ⟨[], by simp⟩, fun h => h, fun σ cur w v hv _ _ _ => ⟨[], by simp [AB.nq], fun x hx => by simp [AB.tabs] at hx, fun u τ hu _ => ⟨?_, fun j k hj => by simp [AB.blks] at hj⟩⟩⟩
        obtain ⟨⟨l, e⟩, _⟩ := hu
        simp only [AB.put, getD_pre_end e]
        cases hv
        first | exact .int k (.x _)
  | .bool, c, g, g', h => by
    cases c <;> simp only [AB.get] at h <;> try (cases h; done)
    rename_i e
    cases e <;> simp only [BE.val] at h <;> try (cases h; done)
    all_goals
      cases h
      refine ⟨⟨⟨[], by simp⟩, ⟨_, rfl⟩, ⟨[], by simp⟩⟩, by simp [AB.ni], by simp [AB.nb], by simp [AB.nt], by simp [AB.nq], ⟨[], by simp⟩, ⟨[], by simp⟩, fun h => h, fun σ cur w v hv _ _ _ => ⟨[], by simp [AB.nq], fun x hx => by simp [AB.tabs] at hx, fun u τ hu _ => ⟨?_, fun j k hj => by simp [AB.blks] at hj⟩⟩⟩
      obtain ⟨_, ⟨l, e⟩, _⟩ := hu
      simp only [AB.put, getD_pre_end e]
      cases hv
      first | exact .bool (.x _)
  | .nils, c, g, g', h => by
    obtain ⟨rfl, rfl⟩ := AB.get_nils h
    exact ⟨g.v.pre_refl, by simp [AB.ni], by simp [AB.nb], by simp [AB.nt], by simp [AB.nq], ⟨[], by simp⟩, ⟨[], by simp⟩, fun h => h, fun σ cur w v hv _ _ _ => ⟨[], by simp [AB.nq], fun x hx => by simp [AB.tabs] at hx, fun u τ _ _ => ⟨by
      simp only [AB.put]
      cases hv
      exact .slc0, fun j k hj => by simp [AB.blks] at hj⟩⟩⟩
  | .agg l, c, g, g', h => by
    cases c <;> simp only [AB.get] at h <;> try (cases h; done)
    have k := AB.gets_ok h
    refine ⟨k.pre, by rw [k.li, AB.ni], by rw [k.lb, AB.nb], by rw [k.lt, AB.nt], by rw [k.lq, AB.nq], k.sh, k.R, k.le, fun σ cur w v hv h1 h2 h3 => ?_⟩
    obtain ⟨cs, rfl, hl⟩ := VR.agg_inv hv
    obtain ⟨los, q1, qp, q2⟩ := k.ok σ cur w _ hl h1 h2 h3
    refine ⟨los, by rw [q1, AB.nq], fun x hx => by rw [AB.tabs] at hx; rw [AB.nq]; exact qp x hx, fun u τ hu hτ => ?_⟩
    obtain ⟨r1, r2⟩ := q2 u τ hu hτ
    exact ⟨by rw [AB.put]; exact .agg r1, by simpa only [AB.blks] using r2⟩
  | .fn f l, c, g, g', h => by
    simp only [AB.get] at h
    split at h
    rotate_left
    · cases h
    rename_i m hm
    obtain rfl := fnOf_ok hm
    have k := AB.gets_ok h
    refine ⟨k.pre, by rw [k.li, AB.ni], by rw [k.lb, AB.nb], by rw [k.lt, AB.nt], by rw [k.lq, AB.nq], k.sh, k.R, k.le, fun σ cur w v hv h1 h2 h3 => ?_⟩
    cases hv with
    | fn _ ha hb =>
      obtain ⟨los, q1, _, q2⟩ := k.ok σ cur w _ hb h1 h2 h3
      refine ⟨los, by rw [q1, AB.nq], fun x hx => by simp [AB.tabs] at hx, fun u τ hu hτ => ?_⟩
      obtain ⟨r1, r2⟩ := q2 u τ hu hτ
      refine ⟨by rw [AB.put]; exact .fn _ (by
        generalize hx : Array.toList _ = xs at ha
        cases ha
        exact .nil) r1, by simpa only [AB.blks] using r2⟩
  | .rows ks, c, g, g', h => by
    simp only [AB.get] at h
    split at h
    · rename_i t sh R hr
      cases h
      refine ⟨⟨⟨[], by simp⟩, ⟨[], by simp⟩, ⟨_, rfl⟩⟩, by simp [AB.ni], by simp [AB.nb], by simp [AB.nt], by simp [AB.nq], ⟨_, rfl⟩, ⟨_, rfl⟩, fun h b hb => ?_, fun σ cur w v hv h1 h2 h3 => ?_⟩
      · rcases List.mem_append.1 hb with hb | hb
        · exact h b hb
        · exact rowsOf_lt hr b hb
      · obtain ⟨_, lo, q1, q2, qp⟩ := rowsOf_ok2 hr (fun b hb => h1 b (List.mem_append_right _ hb)) h2 (fun b hb => h3 b (List.mem_append_right _ hb)) hv
        refine ⟨[lo], by simp [AB.nq], fun x hx => ?_, fun u τ hu hτ => ?_⟩
        · cases c with
          | sla b z o n =>
            simp only [AB.tabs, List.mem_singleton] at hx
            subst hx
            refine ⟨Nat.le_refl _, by simp [AB.nq], fun l' hl' => ?_⟩
            simp only [Nat.sub_self, List.getElem?_cons_zero, Option.some.injEq] at hl'
            exact qp b z o n rfl l' hl'
          | _ => simp [AB.tabs] at hx
        have h0 := hτ 0 lo rfl
        obtain ⟨_, _, m, e⟩ := hu
        refine ⟨?_, fun j k hj => ?_⟩
        · simp only [AB.put, getD_pre_end e]
          exact q2 _ τ h0
        · simp only [AB.blks, getD_pre_end e] at hj
          cases j with
          | zero =>
            simp only [List.getElem?_cons_zero, Option.some.injEq] at hj
            subst hj
            rw [h0]
            exact q1.atR τ
          | succ j => simp at hj
    · cases h
  | .box l, c, g, g', h => by
    simp only [AB.get] at h
    split at h
    rotate_left
    · cases h
    rename_i b cs hbc
    obtain ⟨o, rfl, hfl, hld⟩ := boxOf_ok hbc
    have k := AB.gets_ok h
    obtain ⟨r1, e1⟩ := k.R
    simp only [List.append_assoc] at e1
    obtain ⟨kb, g1, g2, g3, g4, g5⟩ := ld_parts hld
    refine ⟨k.pre, by rw [k.li, AB.ni], by rw [k.lb, AB.nb], by rw [k.lt, AB.nt], by rw [k.lq, AB.nq]; simp only; omega, k.sh, ⟨_, e1⟩, fun h => k.le (fun x hx => ?_), fun σ cur w v hv h1 h2 h3 => ?_⟩
    · rcases List.mem_append.1 hx with hx | hx
      · exact h x hx
      · obtain rfl := List.mem_singleton.1 hx
        exact g5
    · obtain ⟨lb, hl, rfl⟩ := hv.ptr_inv'
      have hcb := h3 b (by rw [e1]; simp)
      obtain ⟨c, t, p, w1, w2, w3, w4, w5, w6⟩ := h2.cell b kb lb (hcb.trans g1) g2 hl
      have hcs : VRl ρ σ cs ((c.toList.drop (lb.base + o)).take l.length) := by
        have := (w6.drop o).take l.length
        rw [← g4, List.drop_take, List.take_take, List.drop_drop, Nat.min_eq_left (by omega)] at this
        exact this
      obtain ⟨los, q1, _, q2⟩ := k.ok σ cur w _ hcs h1 h2 h3
      refine ⟨some ⟨lb.blk, lb.base + o, lb.size, l.length⟩ :: los, by rw [List.length_cons, q1, AB.nq], fun x hx => by simp [AB.tabs] at hx, fun u τ hu hτ => ?_⟩
      have h0 := hτ 0 _ rfl
      rw [Nat.add_zero] at h0
      obtain ⟨r1, r2⟩ := q2 u τ hu (fun j lo hj => by
        have := hτ (j + 1) lo (by simpa using hj)
        show τ (g.q + 1 + j) = lo
        rwa [show g.q + 1 + j = g.q + (j + 1) by omega])
      have hflat := fl_id (AB.puts_flat u l g.v.i.length g.v.b.length g.v.t.length (g.q + 1) hfl)
      refine ⟨?_, fun j kk hj => ?_⟩
      · rw [AB.put]
        exact .ptr h0
      · rw [AB.blks] at hj
        cases j with
        | zero =>
          simp only [List.getElem?_cons_zero, Option.some.injEq] at hj
          subst hj
          show AtR ρ τ w _ (τ g.q)
          rw [h0]
          refine ⟨rfl, rfl, rfl, fun l' hl' => ?_⟩
          cases hl'
          have hlen : (AB.puts u l g.v.i.length g.v.b.length g.v.t.length (g.q + 1)).length = l.length := AB.puts_length u l _ _ _ _
          refine ⟨c, t, p, w1, w3, hlen, ?_, ?_⟩
          · rw [boxB_cells, hflat, hlen]; show lb.base + o + l.length ≤ lb.size; omega
          · rw [boxB_cells, hflat, hlen]
            exact r1
        | succ j =>
          have := r2 j kk (by simpa using hj)
          have e : g.q + 1 + j = g.q + (j + 1) := by omega
          have this : AtR ρ τ w kk (τ (g.q + 1 + j)) := this
          rwa [e] at this
theorem AB.gets_ok : ∀ {l : List AB} {m : List CV} {g g' : AX}, AB.gets s l m g = some g' → AGot ρ s (AB.nis l) (AB.nbs l) (AB.nts l) (AB.nqs l) g g' (fun u => AB.blkss u l g.v.i.length g.v.b.length g.v.t.length g.q) (AB.tabss l m g.q) (fun σ v => VRl ρ σ m v) (fun u τ v => VRl ρ τ (AB.puts u l g.v.i.length g.v.b.length g.v.t.length g.q) v)
  | [], m, g, g', h => by
    cases m <;> simp only [AB.gets] at h <;> try (cases h; done)
    cases h
    exact ⟨g.v.pre_refl, by simp [AB.nis], by simp [AB.nbs], by simp [AB.nts], by simp [AB.nqs], ⟨[], by simp⟩, ⟨[], by simp⟩, fun h => h, fun σ cur w v hv _ _ _ => ⟨[], by simp [AB.nqs], fun x hx => by simp [AB.tabss] at hx, fun u τ _ _ => ⟨by cases hv; simpa [AB.puts] using VRl.nil, fun j k hj => by simp [AB.blkss] at hj⟩⟩⟩
  | p :: l, m, g, g', h => by
    cases m <;> simp only [AB.gets] at h <;> try (cases h; done)
    rename_i c m
    cases hc : AB.get s p c g with
    | none => rw [hc] at h; cases h
    | some g1 =>
      rw [hc] at h
      have k1 := AB.get_ok hc
      have k2 := AB.gets_ok (l := l) h
      obtain ⟨s1, e1⟩ := k1.sh
      obtain ⟨s2, e2⟩ := k2.sh
      obtain ⟨r1, f1⟩ := k1.R
      obtain ⟨r2, f2⟩ := k2.R
      refine ⟨AW.pre_trans k1.pre k2.pre, by rw [k2.li, k1.li, AB.nis]; omega, by rw [k2.lb, k1.lb, AB.nbs]; omega, by rw [k2.lt, k1.lt, AB.nts]; omega, by rw [k2.lq, k1.lq, AB.nqs]; omega, ⟨s1 ++ s2, by rw [e2, e1, List.append_assoc]⟩, ⟨r1 ++ r2, by rw [f2, f1, List.append_assoc]⟩, fun h => k2.le (k1.le h), fun σ cur w v hv h1 h2 h3 => ?_⟩
      cases hv with
      | cons hv1 hvl =>
        obtain ⟨lo1, a1, ap, a2⟩ := k1.ok σ cur w _ hv1 (fun b hb => h1 b (by rw [e2]; exact List.mem_append_left _ hb)) h2 (fun b hb => h3 b (by rw [f2]; exact List.mem_append_left _ hb))
        obtain ⟨lo2, b1, bp, b2⟩ := k2.ok σ cur w _ hvl h1 h2 h3
        refine ⟨lo1 ++ lo2, by rw [List.length_append, a1, b1, AB.nqs], fun x hx => ?_, fun u τ hu hτ => ?_⟩
        · rw [AB.tabss, List.mem_append] at hx
          rw [AB.nqs]
          rcases hx with hx | hx
          · obtain ⟨u1, u2, u3⟩ := ap x hx
            exact ⟨u1, by omega, fun l' hl' => u3 l' (by rwa [List.getElem?_append_left (by omega)] at hl')⟩
          · rw [← k1.lq] at hx
            obtain ⟨u1, u2, u3⟩ := bp x hx
            rw [k1.lq] at u1 u2
            exact ⟨by omega, by omega, fun l' hl' => u3 l' (by
              rw [List.getElem?_append_right (by omega), a1] at hl'
              rwa [k1.lq, show x.1 - (g.q + p.nq) = x.1 - g.q - p.nq by omega])⟩
        obtain ⟨c1, c2⟩ := a2 u τ (AW.pre_trans k2.pre hu) (fun j lo hj => hτ j lo (by
            rw [List.getElem?_append_left]; exact hj
            exact (List.getElem?_eq_some_iff.1 hj).1))
        obtain ⟨d1, d2⟩ := b2 u τ hu (fun j lo hj => by
            have := hτ (p.nq + j) lo (by rw [List.getElem?_append_right (by omega), a1, show p.nq + j - p.nq = j by omega]; exact hj)
            rw [k1.lq]
            rwa [show g.q + p.nq + j = g.q + (p.nq + j) by omega])
        rw [k1.li, k1.lb, k1.lt, k1.lq] at d1 d2
        refine ⟨by rw [AB.puts]; exact .cons c1 d1, fun j k hj => ?_⟩
        rw [AB.blkss] at hj
        by_cases hlt : j < p.nq
        · rw [List.getElem?_append_left (by rw [AB.blks_length]; exact hlt)] at hj
          exact c2 j k hj
        · rw [List.getElem?_append_right (by rw [AB.blks_length]; omega), AB.blks_length] at hj
          have := d2 (j - p.nq) k hj
          rwa [show g.q + p.nq + (j - p.nq) = g.q + j by omega] at this
end
end
/-! ## The memo -/
def numB : Nat → List Blk → List (Nat × Blk)
  | _, [] => []
  | q, k :: l => (q, k) :: numB (q + 1) l
def AB.hp (v : AW) (ps : List AB) : List (Nat × Blk) := numB 0 (AB.blkss v ps 0 0 0 0)
theorem numB_get (i : Nat) : ∀ (l : List Blk) (q : Nat) (k : Blk), (mkH (numB q l)).get i = some k → ∃ j, i = q + j ∧ l[j]? = some k
  | [], q, k, h => by simp [numB, mkH, Tr.get_nil] at h
  | b :: l, q, k, h => by
    simp only [numB, mkH, Tr.get_set] at h
    by_cases hi : i = q
    · rw [if_pos hi] at h
      cases h
      exact ⟨0, by omega, rfl⟩
    · rw [if_neg hi] at h
      obtain ⟨j, h1, h2⟩ := numB_get i l (q + 1) k h
      exact ⟨j + 1, by omega, by simpa using h2⟩
/-- Calls of a function are known from its automaton. -/
noncomputable def memoF {N R : Type} [Inhabited R] (g : Nat) (ps : List AB) (F : AW → AF N R) (rw' : R → CV) (hw : R → List (Nat × Blk)) (nw : Nat) (inner : Memo) : Memo := fun f args s =>
  bif Nat.beq f g then
    match AB.gets s ps args ⟨⟨[], [], []⟩, [], [], 0⟩ with
    | some a => match s.musts (a.sh ++ [(F a.v).fin]) with
      | some s1 => some ((rw' (F a.v).val).ren (liftName (AB.nqs ps) s.next), { s1 with heap := putNew (AB.nqs ps) s.next s.heap (hw (F a.v).val), next := s.next + (nw - (AB.nqs ps)) }, a.R, [])
      | none => none
    | none => inner f args s
  else inner f args s
structure KnownF (P : Program) (ρ : Env) (g : Nat) (ps : List AB) {N R : Type} (F : AW → AF N R) (rw' : R → CV) (hw : R → List (Nat × Blk)) (nw : Nat) : Prop where
  fn : ∃ fn, P.funcs[g]? = some fn ∧ fn.body.isSome = true
  le : AB.nqs ps ≤ nw
  full : ∀ r, (hw r).map Prod.fst = List.range' (AB.nqs ps) (nw - (AB.nqs ps))
  rg : ∀ r, (rw' r).rng (AB.nqs ps) nw = true
  hg : ∀ r, ∀ x ∈ hw r, x.2.body.Rg (AB.nqs ps) nw ∧ x.2.ext = none
  ctr : ∀ v n r, (F v).run n = some r → Ctr P ρ g (AB.puts v ps 0 0 0 0) (mkH (AB.hp v ps)) (AB.nqs ps) [] (rw' r) (putH (mkH (AB.hp v ps)) (hw r)) nw
theorem memoF_ok {P : Program} {ρ : Env} {N R : Type} [Inhabited R] {g : Nat} {ps : List AB} {F : AW → AF N R} {rw' : R → CV} {hw : R → List (Nat × Blk)} {nw : Nat} {inner : Memo} (K : KnownF P ρ g ps F rw' hw nw) (hi : MemoOk P (ctxOf P inner) ρ) : MemoOk P (ctxOf P (memoF g ps F rw' hw nw inner)) ρ := by
  have lift : ∀ {f args s c s' R' W}, CallOk P (ctxOf P inner) ρ f args s c s' R' W → CallOk P (ctxOf P (memoF g ps F rw' hw nw inner)) ρ f args s c s' R' W := fun h => ⟨h.fn, h.frm, h.lt, h.run⟩
  intro f args s c s' R' W h0
  have h : memoF g ps F rw' hw nw inner f args s = some (c, s', R', W) := h0
  clear h0
  unfold memoF at h
  cases hf : Nat.beq f g with
  | false => rw [hf, cond_false] at h; exact lift (hi _ _ _ _ _ _ _ h)
  | true =>
    rw [hf, cond_true] at h
    obtain rfl := Nat.eq_of_beq_eq_true hf
    split at h
    · rename_i a ha
      split at h
      · rename_i s1 hm
        cases h
        obtain ⟨m1, m2, ⟨lm, m3⟩, m4⟩ := musts_parts (ρ := ρ) hm
        have k := AB.gets_ok (ρ := ρ) ha
        have facts : (∀ p ∈ s1.pc, p.holds ρ) → ∀ b ∈ a.sh ++ [(F a.v).fin], b = true := m4
        have hR := k.le (fun b hb => by cases hb)
        have find : ∀ (r : R) (j : Nat), AB.nqs ps + j < nw → ∃ x, (hw r).find? (fun x => x.1 == AB.nqs ps + j) = some x := fun r j hj => by
          have hmem : AB.nqs ps + j ∈ (hw r).map Prod.fst := by rw [K.full]; rw [List.mem_range']; exact ⟨j, by omega, by omega⟩
          obtain ⟨x, hx, he⟩ := List.mem_map.1 hmem
          cases hf : (hw r).find? (fun x => x.1 == AB.nqs ps + j) with
          | some y => exact ⟨y, rfl⟩
          | none =>
            rw [List.find?_eq_none] at hf
            exact absurd (by simp [he]) (hf x hx)
        have rngw : ∀ (r : R), ∀ x ∈ hw r, AB.nqs ps ≤ x.1 ∧ x.1 < nw := fun r x hx => by
          have : x.1 ∈ (hw r).map Prod.fst := List.mem_map.2 ⟨x, hx, rfl⟩
          rw [K.full, List.mem_range'] at this
          obtain ⟨i, h1, h2⟩ := this
          omega
        refine Ctr.callS (base := AB.nqs ps) (n1 := nw) (args := AB.puts a.v ps 0 0 0 0) (h0 := mkH (AB.hp a.v ps)) (h1 := putH (mkH (AB.hp a.v ps)) (hw (F a.v).val)) (K := fun hp => ?_) K.fn K.le rfl ⟨lm, m3⟩ (fun b hb => ?_) (fun j hj kb hk => ?_) hR (fun σ cur w l hp hl hH hcur => ?_) (fun σ σ2 v hl hv => hv.lift hl (K.rg _))
        · have hfin : (F a.v).fin = true := facts hp _ (List.mem_append_right _ (List.mem_singleton_self _))
          obtain ⟨n, hn⟩ := AF.fin_run hfin
          exact K.ctr a.v n _ hn
        · show (putNew _ _ _ _).get b = _
          rw [get_putNew]
          split
          · rename_i x hx
            have h1 := List.find?_some hx
            have h2 := List.mem_of_find?_eq_some hx
            simp only [beq_iff_eq] at h1
            obtain ⟨q1, q2⟩ := rngw _ x h2
            refine absurd ?_ hb
            show s.next ≤ b ∧ b < s.next + (nw - AB.nqs ps)
            unfold liftName at h1
            omega
          · rfl
        · have hk : (putNew (AB.nqs ps) s.next s.heap (hw (F a.v).val)).get (s.next + j) = some kb := hk
          rw [get_putNew] at hk
          have e : ∀ x ∈ hw (F a.v).val, (liftName (AB.nqs ps) s.next x.1 == s.next + j) = (x.1 == AB.nqs ps + j) := fun x hx => by
            obtain ⟨q1, q2⟩ := rngw _ x hx
            unfold liftName
            rw [Bool.eq_iff_iff]
            simp only [beq_iff_eq]
            omega
          obtain ⟨x, hx⟩ := find (F a.v).val j hj
          have hx2 : (hw (F a.v).val).find? (fun x => liftName (AB.nqs ps) s.next x.1 == s.next + j) = some x := by
            rw [← hx]
            exact find_congr e
          rw [hx2] at hk
          cases hk
          have hmem := List.mem_of_find?_eq_some hx
          obtain ⟨g1, g2⟩ := K.hg _ x hmem
          refine ⟨x.2, ?_, rfl, rfl, rfl, fun h => ?_, fun σ σ2 us hl h => Blk.lift hl g1 h⟩
          · rw [get_putH, hx]
          · have : (x.2.ren (liftName (AB.nqs ps) s.next)).ro = x.2.ro := by
              generalize x.2 = kk
              obtain ⟨bb, e, v, xx⟩ := kk
              cases bb <;> rfl
            rw [← this]; exact h
        · have fa := facts hp
          obtain ⟨los, q1, _, q2⟩ := k.ok σ cur w l hl (fun b hb => fa b (List.mem_append_left _ hb)) hH hcur
          obtain ⟨r1, r2⟩ := q2 a.v (fun b => if b < AB.nqs ps then (los[b]?).getD none else none) a.v.pre_refl (fun j lo hj => by
            have : j < los.length := (List.getElem?_eq_some_iff.1 hj).1
            show (if 0 + j < _ then (los[0 + j]?).getD none else none) = lo
            rw [Nat.zero_add, if_pos (by omega), hj]; rfl)
          refine ⟨_, r1, HR.ofR (HR.laid (by assumption)) (fun i kb hi hk => ?_), fun b hb => if_neg (by omega)⟩
          obtain ⟨j, rfl, h2⟩ := numB_get i _ _ _ hk
          exact r2 j kb h2
      · cases h
    · exact lift (hi _ _ _ _ _ _ _ h)
/-- What a call with slices alone has known of it (XCxZS) serves here, too: not wanted yet. -/
theorem KnownF.weak {P : Program} {ρ : Env} {g : Nat} {ps : List AB} {N R : Type} {F : AW → AF N R} {rw' : R → CV} {hw : R → List (Nat × Blk)} {nw : Nat} (K : KnownF P ρ g ps F rw' hw nw) : AB.nqs ps ≤ nw := K.le
end Go.Proofs.Ythagjhadjpangaa.Cx

/- slices.IndexFunc[[]acme/api.Span,acme/api.Span] as an automaton. Made by tools/cxauto.py. -/
namespace Go.Proofs.Ythagjhadjpangaa.Cx
set_option linter.unusedVariables false
set_option linter.unusedSimpArgs false
set_option maxRecDepth 100000
open Go Go.Proofs Go.RowKit
noncomputable abbrev disCode : Code := funcCode Try.f97
inductive disN where
  | n0 (p0 : Int)
abbrev disR := Int
noncomputable def disD0 (a0 : Nat) (a1 a2 : Nat → Int) (a3 a4 : Int) : DD (Lf disN disR) :=
 .leaf (.next (.n0 0) [])

noncomputable def disD (a0 : Nat) (a1 a2 : Nat → Int) (a3 a4 : Int) : disN → DD (Lf disN disR)
 | .n0 p0 =>
 let z0 := a1 (0 + Int.toNat p0)
 let z1 := a2 (0 + Int.toNat p0)
 .ask (Cm.run .lss p0 (↑a0 : Int))
   (.must (decide (0 ≤ p0))
   (.must (decide (p0 < (↑a0 : Int)))
   (.must (decide (0 + Int.toNat p0 < a0))
   (.ask (Cm.run .leq a3 z0)
   (.ask (Cm.run .leq z0 z1)
   (.ask (Cm.run .leq z1 a4)
   (.leaf (.next (.n0 (Ar.run .add .i64 p0 1)) []))
   (.leaf (.done p0 [])))
   (.leaf (.done p0 [])))
   (.leaf (.done p0 []))))))
   (.leaf (.done (-1) []))

noncomputable def disA (a0 : Nat) (a1 a2 : Nat → Int) (a3 a4 : Int) : AF disN disR where
  code := disCode
  base := 3
  nt := 19
  m := 400
  un := []
  W := []
  h0 := [(0, ⟨.arg a0 2 (fun i => [.int .i64 (.x (a1 i)), .int .i64 (.x (a2 i))]) (fun _ => ⟨rfl, rfl⟩), 2, true, none⟩), (1, ⟨.arg 1 1 (fun i => [.int .i64 (.x a3)]) (fun _ => ⟨rfl, rfl⟩), 1, true, none⟩), (2, ⟨.arg 1 1 (fun i => [.int .i64 (.x a4)]) (fun _ => ⟨rfl, rfl⟩), 1, true, none⟩)]
  args := [.sla 0 2 0 a0, .fn (.func 93) [] [.ptr (some (1, 0)), .ptr (some (2, 0))]]
  res := (Try.f97).results.toList
  path := fun a => match a with
   | .n0 p0 => [1, 0, 1, 0]
  pd := fun a => match a with
   | .n0 p0 => ⟨[(0, .sla 0 2 0 a0), (1, .fn (.func 93) [] [.ptr (some (1, 0)), .ptr (some (2, 0))]), (7, .int .i64 (.x (↑a0))), (8, .int .i64 (.x p0))], [], 3, []⟩
  D0 := disD0 a0 a1 a2 a3 a4
  D := disD a0 a1 a2 a3 a4
  rc := (fun v => .int .i64 (.x v))
  rh := (fun v => [])
  rn := (fun v => 3)
  rx := (fun v => [])
  rgo := (fun _ => none)
theorem disstart (a0 : Nat) (a1 a2 : Nat → Int) (a3 a4 : Int) : AF.edgeOk (disA a0 a1 a2 a3 a4) (ctxOf Try.prog memo0) (disD0 a0 a1 a2 a3 a4) (AF.run0 (disA a0 a1 a2 a3 a4) (ctxOf Try.prog memo0)) := by unfold AF.edgeOk; kernel_rfl
theorem disnode0 (a0 : Nat) (a1 a2 : Nat → Int) (a3 a4 p0 : Int) : AF.edgeOk (disA a0 a1 a2 a3 a4) (ctxOf Try.prog memo0) (disD a0 a1 a2 a3 a4 (.n0 p0)) (AF.runN (disA a0 a1 a2 a3 a4) (ctxOf Try.prog memo0) (.n0 p0)) := by unfold AF.edgeOk; kernel_rfl
theorem disok (a0 : Nat) (a1 a2 : Nat → Int) (a3 a4 : Int) : (disA a0 a1 a2 a3 a4).Ok Try.prog (ctxOf Try.prog memo0) where
  regs := by kernel_rfl
  h0 := by kernel_rfl
  start := disstart a0 a1 a2 a3 a4
  node := fun a _ => match a with
   | .n0 p0 => disnode0 a0 a1 a2 a3 a4 p0
  pd := fun a => match a with
   | .n0 p0 => ⟨(fa_cons rfl (fa_cons rfl (fa_cons rfl (fa_cons rfl fa_nil)))), fa_nil, fa_nil, rfl⟩
  le := fun a => match a with
   | .n0 p0 => Nat.le_of_ble_eq_true rfl
  rd := fun v => ⟨⟨fa_nil, fa_nil, fa_nil, rfl⟩, rfl⟩
  wb := rfl
theorem dishR {ρ : Env} (a0 : Nat) (a1 a2 : Nat → Int) (a3 a4 : Int) (hM : MemoOk Try.prog (ctxOf Try.prog memo0) ρ) : ∀ X a q n D, FxOk ρ X → X.base = (disA a0 a1 a2 a3 a4).base → X.nt = (disA a0 a1 a2 a3 a4).nt → X.W = (disA a0 a1 a2 a3 a4).W → (disA a0 a1 a2 a3 a4).rgo a = some q → q n = some D → (disA a0 a1 a2 a3 a4).RangeOk Try.prog ρ X a D := AF.noRange rfl
theorem disctr {ρ : Env} (a0 : Nat) (a1 a2 : Nat → Int) (a3 a4 : Int) {n : Nat} {v : disR} (hM : MemoOk Try.prog (ctxOf Try.prog memo0) ρ) (hv : (disA a0 a1 a2 a3 a4).run n = some v) :
    Ctr Try.prog ρ 97 (disA a0 a1 a2 a3 a4).args (disA a0 a1 a2 a3 a4).H0 (disA a0 a1 a2 a3 a4).base (disA a0 a1 a2 a3 a4).W ((disA a0 a1 a2 a3 a4).rc v) (putH (disA a0 a1 a2 a3 a4).H0 ((disA a0 a1 a2 a3 a4).rh v ++ (disA a0 a1 a2 a3 a4).rx v)) ((disA a0 a1 a2 a3 a4).rn v) :=
  AF.ctr try_ok hM (disok a0 a1 a2 a3 a4) (fn := Try.f97) Try.func97 rfl rfl (Nat.le_of_ble_eq_true rfl) rfl (dishR a0 a1 a2 a3 a4 hM) hv
theorem dismem {ρ : Env} : MemoOk Try.prog (ctxOf Try.prog memo0) ρ := memo0_ok
abbrev disP : List AB := [.rows [some .i64, some .i64], .fn 93 [.box [.int .i64], .box [.int .i64]]]
noncomputable def disF (v : AW) : AF disN disR := disA (v.t.getD 0 .none).n ((v.t.getD 0 .none).c 0) ((v.t.getD 0 .none).c 1) (v.i.getD 0 0) (v.i.getD 1 0)
noncomputable def disW : disR → CV := fun v => .int .i64 (.x v)
noncomputable def disH : disR → List (Nat × Blk) := fun v => []
instance : Inhabited disR := ⟨0⟩
theorem disknown {ρ : Env} (hM : MemoOk Try.prog (ctxOf Try.prog memo0) ρ) : KnownF Try.prog ρ 97 disP disF disW disH 3 where
  fn := ⟨Try.f97, Try.func97, rfl⟩
  le := Nat.le_of_ble_eq_true rfl
  full := fun r => rfl
  rg := fun r => rfl
  hg := fun r => fa_nil
  ctr := fun v n r h => disctr (v.t.getD 0 .none).n ((v.t.getD 0 .none).c 0) ((v.t.getD 0 .none).c 1) (v.i.getD 0 0) (v.i.getD 1 0) hM h
end Go.Proofs.Ythagjhadjpangaa.Cx

/- slices.ContainsFunc[[]acme/api.Span,acme/api.Span] as an automaton. Made by tools/cxauto.py. -/
namespace Go.Proofs.Ythagjhadjpangaa.Cx
set_option linter.unusedVariables false
set_option linter.unusedSimpArgs false
set_option maxRecDepth 100000
open Go Go.Proofs Go.RowKit
noncomputable abbrev dcsCode : Code := funcCode Try.f94
abbrev dcsN := Empty
abbrev dcsR := Bool
noncomputable def dcsD0 (a0 : Nat) (a1 a2 : Nat → Int) (a3 a4 : Int) : DD (Lf dcsN dcsR) :=
 let z0 := fun i => [CV.int IntKind.i64 (IE.x (a1 (0 + i))), CV.int IntKind.i64 (IE.x (a2 (0 + i)))]
 let z1 := disA a0 (fun i => a1 (0 + i)) (fun i => a2 (0 + i)) a3 a4
 .must (decide (0 + a0 ≤ a0))
   (.must (ShapeOk [some IntKind.i64, some IntKind.i64] (tabOf a0 z0) z0)
   (.must (AF.fin z1)
   (.ask (Cm.run .geq (AF.val z1) 0)
   (.leaf (.done true []))
   (.leaf (.done false [])))))

noncomputable def dcsD (a0 : Nat) (a1 a2 : Nat → Int) (a3 a4 : Int) : dcsN → DD (Lf dcsN dcsR) := fun a => nomatch a
noncomputable def dcsA (a0 : Nat) (a1 a2 : Nat → Int) (a3 a4 : Int) : AF dcsN dcsR where
  code := dcsCode
  base := 3
  nt := 9
  m := 400
  un := []
  W := []
  h0 := [(0, ⟨.arg a0 2 (fun i => [.int .i64 (.x (a1 i)), .int .i64 (.x (a2 i))]) (fun _ => ⟨rfl, rfl⟩), 2, true, none⟩), (1, ⟨.arg 1 1 (fun i => [.int .i64 (.x a3)]) (fun _ => ⟨rfl, rfl⟩), 1, true, none⟩), (2, ⟨.arg 1 1 (fun i => [.int .i64 (.x a4)]) (fun _ => ⟨rfl, rfl⟩), 1, true, none⟩)]
  args := [.sla 0 2 0 a0, .fn (.func 93) [] [.ptr (some (1, 0)), .ptr (some (2, 0))]]
  res := (Try.f94).results.toList
  path := fun a => nomatch a
  pd := fun a => nomatch a
  D0 := dcsD0 a0 a1 a2 a3 a4
  D := dcsD a0 a1 a2 a3 a4
  rc := (fun v => .bool (.x v))
  rh := (fun v => [])
  rn := (fun v => 3)
  rx := (fun v => [])
  rgo := (fun _ => none)
theorem dcsstart (a0 : Nat) (a1 a2 : Nat → Int) (a3 a4 : Int) : AF.edgeOk (dcsA a0 a1 a2 a3 a4) (ctxOf Try.prog memo0) (dcsD0 a0 a1 a2 a3 a4) (AF.run0 (dcsA a0 a1 a2 a3 a4) (ctxOf Try.prog (memoF 97 disP disF disW disH 3 memo0))) := by unfold AF.edgeOk; kernel_rfl
theorem dcsok (a0 : Nat) (a1 a2 : Nat → Int) (a3 a4 : Int) : (dcsA a0 a1 a2 a3 a4).Ok Try.prog (ctxOf Try.prog (memoF 97 disP disF disW disH 3 memo0)) where
  regs := by kernel_rfl
  h0 := by kernel_rfl
  start := dcsstart a0 a1 a2 a3 a4
  node := fun a _ => nomatch a
  pd := fun a => nomatch a
  le := fun a => nomatch a
  rd := fun v => ⟨⟨fa_nil, fa_nil, fa_nil, rfl⟩, rfl⟩
  wb := rfl
theorem dcshR {ρ : Env} (a0 : Nat) (a1 a2 : Nat → Int) (a3 a4 : Int) (hM : MemoOk Try.prog (ctxOf Try.prog (memoF 97 disP disF disW disH 3 memo0)) ρ) : ∀ X a q n D, FxOk ρ X → X.base = (dcsA a0 a1 a2 a3 a4).base → X.nt = (dcsA a0 a1 a2 a3 a4).nt → X.W = (dcsA a0 a1 a2 a3 a4).W → (dcsA a0 a1 a2 a3 a4).rgo a = some q → q n = some D → (dcsA a0 a1 a2 a3 a4).RangeOk Try.prog ρ X a D := AF.noRange rfl
theorem dcsctr {ρ : Env} (a0 : Nat) (a1 a2 : Nat → Int) (a3 a4 : Int) {n : Nat} {v : dcsR} (hM : MemoOk Try.prog (ctxOf Try.prog (memoF 97 disP disF disW disH 3 memo0)) ρ) (hv : (dcsA a0 a1 a2 a3 a4).run n = some v) :
    Ctr Try.prog ρ 94 (dcsA a0 a1 a2 a3 a4).args (dcsA a0 a1 a2 a3 a4).H0 (dcsA a0 a1 a2 a3 a4).base (dcsA a0 a1 a2 a3 a4).W ((dcsA a0 a1 a2 a3 a4).rc v) (putH (dcsA a0 a1 a2 a3 a4).H0 ((dcsA a0 a1 a2 a3 a4).rh v ++ (dcsA a0 a1 a2 a3 a4).rx v)) ((dcsA a0 a1 a2 a3 a4).rn v) :=
  AF.ctr try_ok hM (dcsok a0 a1 a2 a3 a4) (fn := Try.f94) Try.func94 rfl rfl (Nat.le_of_ble_eq_true rfl) rfl (dcshR a0 a1 a2 a3 a4 hM) hv
theorem dcsmem {ρ : Env} : MemoOk Try.prog (ctxOf Try.prog (memoF 97 disP disF disW disH 3 memo0)) ρ := (memoF_ok (disknown dismem) memo0_ok)
abbrev dcsP : List AB := [.rows [some .i64, some .i64], .fn 93 [.box [.int .i64], .box [.int .i64]]]
noncomputable def dcsF (v : AW) : AF dcsN dcsR := dcsA (v.t.getD 0 .none).n ((v.t.getD 0 .none).c 0) ((v.t.getD 0 .none).c 1) (v.i.getD 0 0) (v.i.getD 1 0)
noncomputable def dcsW : dcsR → CV := fun v => .bool (.x v)
noncomputable def dcsH : dcsR → List (Nat × Blk) := fun v => []
instance : Inhabited dcsR := ⟨false⟩
theorem dcsknown {ρ : Env} (hM : MemoOk Try.prog (ctxOf Try.prog (memoF 97 disP disF disW disH 3 memo0)) ρ) : KnownF Try.prog ρ 94 dcsP dcsF dcsW dcsH 3 where
  fn := ⟨Try.f94, Try.func94, rfl⟩
  le := Nat.le_of_ble_eq_true rfl
  full := fun r => rfl
  rg := fun r => rfl
  hg := fun r => fa_nil
  ctr := fun v n r h => dcsctr (v.t.getD 0 .none).n ((v.t.getD 0 .none).c 0) ((v.t.getD 0 .none).c 1) (v.i.getD 0 0) (v.i.getD 1 0) hM h
end Go.Proofs.Ythagjhadjpangaa.Cx

/- acme/exact.ValidSpans as an automaton. Made by tools/cxauto.py. -/
namespace Go.Proofs.Ythagjhadjpangaa.Cx
set_option linter.unusedVariables false
set_option linter.unusedSimpArgs false
set_option maxRecDepth 100000
open Go Go.Proofs Go.RowKit
noncomputable abbrev dvsCode : Code := funcCode Try.f83
abbrev dvsN := Empty
abbrev dvsR := Bool
noncomputable def dvsD0 (a0 a1 : Int) (a2 : Nat) (a3 a4 : Nat → Int) : DD (Lf dvsN dvsR) :=
 let z0 := fun i => [CV.int IntKind.i64 (IE.x (a3 (0 + i))), CV.int IntKind.i64 (IE.x (a4 (0 + i)))]
 let z1 := dcsA a2 (fun i => a3 (0 + i)) (fun i => a4 (0 + i)) a0 a1
 .must (decide (0 + a2 ≤ a2))
   (.must (ShapeOk [some IntKind.i64, some IntKind.i64] (tabOf a2 z0) z0)
   (.must (AF.fin z1)
   (.leaf (.done (!AF.val z1) []))))

noncomputable def dvsD (a0 a1 : Int) (a2 : Nat) (a3 a4 : Nat → Int) : dvsN → DD (Lf dvsN dvsR) := fun a => nomatch a
noncomputable def dvsA (a0 a1 : Int) (a2 : Nat) (a3 a4 : Nat → Int) : AF dvsN dvsR where
  code := dvsCode
  base := 1
  nt := 13
  m := 400
  un := []
  W := []
  h0 := [(0, ⟨.arg a2 2 (fun i => [.int .i64 (.x (a3 i)), .int .i64 (.x (a4 i))]) (fun _ => ⟨rfl, rfl⟩), 2, true, none⟩)]
  args := [.int .i64 (.x a0), .int .i64 (.x a1), .sla 0 2 0 a2]
  res := (Try.f83).results.toList
  path := fun a => nomatch a
  pd := fun a => nomatch a
  D0 := dvsD0 a0 a1 a2 a3 a4
  D := dvsD a0 a1 a2 a3 a4
  rc := (fun v => .bool (.x v))
  rh := (fun v => [])
  rn := (fun v => 1)
  rx := (fun v => [])
  rgo := (fun _ => none)
theorem dvsstart (a0 a1 : Int) (a2 : Nat) (a3 a4 : Nat → Int) : AF.edgeOk (dvsA a0 a1 a2 a3 a4) (ctxOf Try.prog memo0) (dvsD0 a0 a1 a2 a3 a4) (AF.run0 (dvsA a0 a1 a2 a3 a4) (ctxOf Try.prog (memoF 94 dcsP dcsF dcsW dcsH 3 memo0))) := by unfold AF.edgeOk; kernel_rfl
theorem dvsok (a0 a1 : Int) (a2 : Nat) (a3 a4 : Nat → Int) : (dvsA a0 a1 a2 a3 a4).Ok Try.prog (ctxOf Try.prog (memoF 94 dcsP dcsF dcsW dcsH 3 memo0)) where
  regs := by kernel_rfl
  h0 := by kernel_rfl
  start := dvsstart a0 a1 a2 a3 a4
  node := fun a _ => nomatch a
  pd := fun a => nomatch a
  le := fun a => nomatch a
  rd := fun v => ⟨⟨fa_nil, fa_nil, fa_nil, rfl⟩, rfl⟩
  wb := rfl
theorem dvshR {ρ : Env} (a0 a1 : Int) (a2 : Nat) (a3 a4 : Nat → Int) (hM : MemoOk Try.prog (ctxOf Try.prog (memoF 94 dcsP dcsF dcsW dcsH 3 memo0)) ρ) : ∀ X a q n D, FxOk ρ X → X.base = (dvsA a0 a1 a2 a3 a4).base → X.nt = (dvsA a0 a1 a2 a3 a4).nt → X.W = (dvsA a0 a1 a2 a3 a4).W → (dvsA a0 a1 a2 a3 a4).rgo a = some q → q n = some D → (dvsA a0 a1 a2 a3 a4).RangeOk Try.prog ρ X a D := AF.noRange rfl
theorem dvsctr {ρ : Env} (a0 a1 : Int) (a2 : Nat) (a3 a4 : Nat → Int) {n : Nat} {v : dvsR} (hM : MemoOk Try.prog (ctxOf Try.prog (memoF 94 dcsP dcsF dcsW dcsH 3 memo0)) ρ) (hv : (dvsA a0 a1 a2 a3 a4).run n = some v) :
    Ctr Try.prog ρ 83 (dvsA a0 a1 a2 a3 a4).args (dvsA a0 a1 a2 a3 a4).H0 (dvsA a0 a1 a2 a3 a4).base (dvsA a0 a1 a2 a3 a4).W ((dvsA a0 a1 a2 a3 a4).rc v) (putH (dvsA a0 a1 a2 a3 a4).H0 ((dvsA a0 a1 a2 a3 a4).rh v ++ (dvsA a0 a1 a2 a3 a4).rx v)) ((dvsA a0 a1 a2 a3 a4).rn v) :=
  AF.ctr try_ok hM (dvsok a0 a1 a2 a3 a4) (fn := Try.f83) Try.func83 rfl rfl (Nat.le_of_ble_eq_true rfl) rfl (dvshR a0 a1 a2 a3 a4 hM) hv
theorem dvsmem {ρ : Env} : MemoOk Try.prog (ctxOf Try.prog (memoF 94 dcsP dcsF dcsW dcsH 3 memo0)) ρ := (memoF_ok (dcsknown dcsmem) memo0_ok)
abbrev dvsP : List AQ := [.int .i64, .int .i64, .rows [some .i64, some .i64]]
noncomputable def dvsF (v : AW) : AF dvsN dvsR := dvsA (v.i.getD 0 0) (v.i.getD 1 0) (v.t.getD 0 .none).n ((v.t.getD 0 .none).c 0) ((v.t.getD 0 .none).c 1)
noncomputable def dvsW : dvsR → CV := fun v => .bool (.x v)
noncomputable def dvsH : dvsR → List (Nat × Blk) := fun v => []
instance : Inhabited dvsR := ⟨false⟩
theorem dvsknown {ρ : Env} (hM : MemoOk Try.prog (ctxOf Try.prog (memoF 94 dcsP dcsF dcsW dcsH 3 memo0)) ρ) : KnownS Try.prog ρ 83 dvsP dvsF dvsW dvsH 1 where
  fn := ⟨Try.f83, Try.func83, rfl⟩
  le := Nat.le_of_ble_eq_true rfl
  full := fun r => rfl
  rg := fun r => rfl
  hg := fun r => fa_nil
  ctr := fun v n r h => dvsctr (v.i.getD 0 0) (v.i.getD 1 0) (v.t.getD 0 .none).n ((v.t.getD 0 .none).c 0) ((v.t.getD 0 .none).c 1) hM h
end Go.Proofs.Ythagjhadjpangaa.Cx

/- acme/die.checkTool as an automaton. Made by tools/cxauto.py. -/
namespace Go.Proofs.Ythagjhadjpangaa.Cx
set_option linter.unusedVariables false
set_option linter.unusedSimpArgs false
set_option maxRecDepth 100000
open Go Go.Proofs Go.RowKit
noncomputable abbrev dctCode : Code := funcCode Try.f59
abbrev dctN := Empty
abbrev dctR := Int
noncomputable def dctD0 (a0 : Bool) (a1 a2 a3 a4 : Int) (a5 : Nat) (a6 a7 : Nat → Int) : DD (Lf dctN dctR) :=
 let z0 := fun i => [CV.int IntKind.i64 (IE.x (a6 (0 + i))), CV.int IntKind.i64 (IE.x (a7 (0 + i)))]
 let z1 := dvsA 0 100000 a5 (fun i => a6 (0 + i)) (fun i => a7 (0 + i))
 let z2 := dvsA (-1000000) 1000000 2 (fun i => List.getD [a1, a3] i 0) (fun i => List.getD [a2, a4] i 0)
 .ask (Cm.run .gtr ((↑a5 : Int)) 8)
   (.leaf (.done 5 []))
   (.ask (Cm.run .eql ((↑a5 : Int)) 0)
   (.leaf (.done 2 []))
   (.must (decide (0 + a5 ≤ a5))
   (.must (ShapeOk [some IntKind.i64, some IntKind.i64] (tabOf a5 z0) z0)
   (.must (AF.fin z1)
   (.ask (!AF.val z1)
   (.leaf (.done 2 []))
   (.must (AF.fin z2)
   (.ask (!AF.val z2)
   (.leaf (.done 2 []))
   (.leaf (.done 0 [])))))))))

noncomputable def dctD (a0 : Bool) (a1 a2 a3 a4 : Int) (a5 : Nat) (a6 a7 : Nat → Int) : dctN → DD (Lf dctN dctR) := fun a => nomatch a
noncomputable def dctA (a0 : Bool) (a1 a2 a3 a4 : Int) (a5 : Nat) (a6 a7 : Nat → Int) : AF dctN dctR where
  code := dctCode
  base := 1
  nt := 26
  m := 400
  un := []
  W := []
  h0 := [(0, ⟨.arg a5 2 (fun i => [.int .i64 (.x (a6 i)), .int .i64 (.x (a7 i))]) (fun _ => ⟨rfl, rfl⟩), 2, true, none⟩)]
  args := [.agg [.bool (.x a0), .int .i64 (.x a1), .int .i64 (.x a2), .int .i64 (.x a3), .int .i64 (.x a4), .sla 0 2 0 a5]]
  res := (Try.f59).results.toList
  path := fun a => nomatch a
  pd := fun a => nomatch a
  D0 := dctD0 a0 a1 a2 a3 a4 a5 a6 a7
  D := dctD a0 a1 a2 a3 a4 a5 a6 a7
  rc := (fun v => .int .i64 (.x v))
  rh := (fun v => [])
  rn := (fun v => 1)
  rx := (fun v => [])
  rgo := (fun _ => none)
theorem dctstart (a0 : Bool) (a1 a2 a3 a4 : Int) (a5 : Nat) (a6 a7 : Nat → Int) : AF.edgeOk (dctA a0 a1 a2 a3 a4 a5 a6 a7) (ctxOf Try.prog memo0) (dctD0 a0 a1 a2 a3 a4 a5 a6 a7) (AF.run0 (dctA a0 a1 a2 a3 a4 a5 a6 a7) (ctxOf Try.prog (memoS 83 dvsP dvsF dvsW dvsH 1 memo0))) := by unfold AF.edgeOk; kernel_rfl
theorem dctok (a0 : Bool) (a1 a2 a3 a4 : Int) (a5 : Nat) (a6 a7 : Nat → Int) : (dctA a0 a1 a2 a3 a4 a5 a6 a7).Ok Try.prog (ctxOf Try.prog (memoS 83 dvsP dvsF dvsW dvsH 1 memo0)) where
  regs := by kernel_rfl
  h0 := by kernel_rfl
  start := dctstart a0 a1 a2 a3 a4 a5 a6 a7
  node := fun a _ => nomatch a
  pd := fun a => nomatch a
  le := fun a => nomatch a
  rd := fun v => ⟨⟨fa_nil, fa_nil, fa_nil, rfl⟩, rfl⟩
  wb := rfl
theorem dcthR {ρ : Env} (a0 : Bool) (a1 a2 a3 a4 : Int) (a5 : Nat) (a6 a7 : Nat → Int) (hM : MemoOk Try.prog (ctxOf Try.prog (memoS 83 dvsP dvsF dvsW dvsH 1 memo0)) ρ) : ∀ X a q n D, FxOk ρ X → X.base = (dctA a0 a1 a2 a3 a4 a5 a6 a7).base → X.nt = (dctA a0 a1 a2 a3 a4 a5 a6 a7).nt → X.W = (dctA a0 a1 a2 a3 a4 a5 a6 a7).W → (dctA a0 a1 a2 a3 a4 a5 a6 a7).rgo a = some q → q n = some D → (dctA a0 a1 a2 a3 a4 a5 a6 a7).RangeOk Try.prog ρ X a D := AF.noRange rfl
theorem dctctr {ρ : Env} (a0 : Bool) (a1 a2 a3 a4 : Int) (a5 : Nat) (a6 a7 : Nat → Int) {n : Nat} {v : dctR} (hM : MemoOk Try.prog (ctxOf Try.prog (memoS 83 dvsP dvsF dvsW dvsH 1 memo0)) ρ) (hv : (dctA a0 a1 a2 a3 a4 a5 a6 a7).run n = some v) :
    Ctr Try.prog ρ 59 (dctA a0 a1 a2 a3 a4 a5 a6 a7).args (dctA a0 a1 a2 a3 a4 a5 a6 a7).H0 (dctA a0 a1 a2 a3 a4 a5 a6 a7).base (dctA a0 a1 a2 a3 a4 a5 a6 a7).W ((dctA a0 a1 a2 a3 a4 a5 a6 a7).rc v) (putH (dctA a0 a1 a2 a3 a4 a5 a6 a7).H0 ((dctA a0 a1 a2 a3 a4 a5 a6 a7).rh v ++ (dctA a0 a1 a2 a3 a4 a5 a6 a7).rx v)) ((dctA a0 a1 a2 a3 a4 a5 a6 a7).rn v) :=
  AF.ctr try_ok hM (dctok a0 a1 a2 a3 a4 a5 a6 a7) (fn := Try.f59) Try.func59 rfl rfl (Nat.le_of_ble_eq_true rfl) rfl (dcthR a0 a1 a2 a3 a4 a5 a6 a7 hM) hv
theorem dctmem {ρ : Env} : MemoOk Try.prog (ctxOf Try.prog (memoS 83 dvsP dvsF dvsW dvsH 1 memo0)) ρ := (memoS_ok (dvsknown dvsmem) memo0_ok)
abbrev dctP : List AQ := [.agg [.bool, .int .i64, .int .i64, .int .i64, .int .i64, .rows [some .i64, some .i64]]]
noncomputable def dctF (v : AW) : AF dctN dctR := dctA (v.b.getD 0 false) (v.i.getD 0 0) (v.i.getD 1 0) (v.i.getD 2 0) (v.i.getD 3 0) (v.t.getD 0 .none).n ((v.t.getD 0 .none).c 0) ((v.t.getD 0 .none).c 1)
noncomputable def dctW : dctR → CV := fun v => .int .i64 (.x v)
noncomputable def dctH : dctR → List (Nat × Blk) := fun v => []
instance : Inhabited dctR := ⟨0⟩
theorem dctknown {ρ : Env} (hM : MemoOk Try.prog (ctxOf Try.prog (memoS 83 dvsP dvsF dvsW dvsH 1 memo0)) ρ) : KnownS Try.prog ρ 59 dctP dctF dctW dctH 1 where
  fn := ⟨Try.f59, Try.func59, rfl⟩
  le := Nat.le_of_ble_eq_true rfl
  full := fun r => rfl
  rg := fun r => rfl
  hg := fun r => fa_nil
  ctr := fun v n r h => dctctr (v.b.getD 0 false) (v.i.getD 0 0) (v.i.getD 1 0) (v.i.getD 2 0) (v.i.getD 3 0) (v.t.getD 0 .none).n ((v.t.getD 0 .none).c 0) ((v.t.getD 0 .none).c 1) hM h
end Go.Proofs.Ythagjhadjpangaa.Cx

/- acme/die.Learn as an automaton. Made by tools/cxauto.py. -/
namespace Go.Proofs.Ythagjhadjpangaa.Cx
set_option linter.unusedVariables false
set_option linter.unusedSimpArgs false
set_option maxRecDepth 100000
open Go Go.Proofs Go.RowKit
noncomputable abbrev dleCode : Code := funcCode Try.f40
abbrev dleN := Empty
abbrev dleR := Int × Int × Int
noncomputable def dleD0 (a0 : Bool) (a1 a2 a3 a4 : Int) (a5 : Nat) (a6 a7 : Nat → Int) (a8 a9 a10 a11 a12 : Int) : DD (Lf dleN dleR) :=
 let z0 := fun i => [CV.int IntKind.i64 (IE.x (a6 (0 + i))), CV.int IntKind.i64 (IE.x (a7 (0 + i)))]
 let z1 := dctA a0 a1 a2 a3 a4 a5 (fun i => a6 (0 + i)) (fun i => a7 (0 + i))
 let z2 := Ar.run .sub .i64 (Ar.run .sub .i64 a10 a12) a4
 let z3 := Ar.run .sub .i64 (Ar.run .sub .i64 a10 a11) a3
 .must (decide (0 + a5 ≤ a5))
   (.must (ShapeOk [some IntKind.i64, some IntKind.i64] (tabOf a5 z0) z0)
   (.must (AF.fin z1)
   (.ask (Cm.run .neq (AF.val z1) 0)
   (.leaf (.done (0, 0, AF.val z1) []))
   (.ask (Cm.run .leq (-20000000000) a8)
   (.ask (Cm.run .leq a8 a9)
   (.ask (Cm.run .leq a9 20000000000)
   (.ask (Cm.run .lss a10 (-20000000000))
   (.leaf (.done (0, 0, 2) []))
   (.ask (Cm.run .gtr a10 20000000000)
   (.leaf (.done (0, 0, 2) []))
   (.ask (Cm.run .leq (-1000000) a11)
   (.ask (Cm.run .leq a11 a12)
   (.ask (Cm.run .leq a12 1000000)
   (.ask (Cm.run .gtr (Ar.run .mx .i64 a8 z2) (Ar.run .mn .i64 a9 z3))
   (.leaf (.done (0, 0, 9) []))
   (.leaf (.done (Ar.run .mx .i64 a8 z2, Ar.run .mn .i64 a9 z3, 0) [])))
   (.leaf (.done (0, 0, 2) [])))
   (.leaf (.done (0, 0, 2) [])))
   (.leaf (.done (0, 0, 2) [])))))
   (.leaf (.done (0, 0, 2) [])))
   (.leaf (.done (0, 0, 2) [])))
   (.leaf (.done (0, 0, 2) []))))))

noncomputable def dleD (a0 : Bool) (a1 a2 a3 a4 : Int) (a5 : Nat) (a6 a7 : Nat → Int) (a8 a9 a10 a11 a12 : Int) : dleN → DD (Lf dleN dleR) := fun a => nomatch a
noncomputable def dleA (a0 : Bool) (a1 a2 a3 a4 : Int) (a5 : Nat) (a6 a7 : Nat → Int) (a8 a9 a10 a11 a12 : Int) : AF dleN dleR where
  code := dleCode
  base := 1
  nt := 63
  m := 400
  un := []
  W := []
  h0 := [(0, ⟨.arg a5 2 (fun i => [.int .i64 (.x (a6 i)), .int .i64 (.x (a7 i))]) (fun _ => ⟨rfl, rfl⟩), 2, true, none⟩)]
  args := [.agg [.bool (.x a0), .int .i64 (.x a1), .int .i64 (.x a2), .int .i64 (.x a3), .int .i64 (.x a4), .sla 0 2 0 a5], .agg [.int .i64 (.x a8), .int .i64 (.x a9)], .int .i64 (.x a10), .agg [.int .i64 (.x a11), .int .i64 (.x a12)]]
  res := (Try.f40).results.toList
  path := fun a => nomatch a
  pd := fun a => nomatch a
  D0 := dleD0 a0 a1 a2 a3 a4 a5 a6 a7 a8 a9 a10 a11 a12
  D := dleD a0 a1 a2 a3 a4 a5 a6 a7 a8 a9 a10 a11 a12
  rc := (fun v => .tup [.agg [.int .i64 (.x v.1), .int .i64 (.x v.2.1)], .int .i64 (.x v.2.2)])
  rh := (fun v => [])
  rn := (fun v => 1)
  rx := (fun v => [])
  rgo := (fun _ => none)
theorem dlestart (a0 : Bool) (a1 a2 a3 a4 : Int) (a5 : Nat) (a6 a7 : Nat → Int) (a8 a9 a10 a11 a12 : Int) : AF.edgeOk (dleA a0 a1 a2 a3 a4 a5 a6 a7 a8 a9 a10 a11 a12) (ctxOf Try.prog memo0) (dleD0 a0 a1 a2 a3 a4 a5 a6 a7 a8 a9 a10 a11 a12) (AF.run0 (dleA a0 a1 a2 a3 a4 a5 a6 a7 a8 a9 a10 a11 a12) (ctxOf Try.prog (memoS 59 dctP dctF dctW dctH 1 memo0))) := by unfold AF.edgeOk; kernel_rfl
theorem dleok (a0 : Bool) (a1 a2 a3 a4 : Int) (a5 : Nat) (a6 a7 : Nat → Int) (a8 a9 a10 a11 a12 : Int) : (dleA a0 a1 a2 a3 a4 a5 a6 a7 a8 a9 a10 a11 a12).Ok Try.prog (ctxOf Try.prog (memoS 59 dctP dctF dctW dctH 1 memo0)) where
  regs := by kernel_rfl
  h0 := by kernel_rfl
  start := dlestart a0 a1 a2 a3 a4 a5 a6 a7 a8 a9 a10 a11 a12
  node := fun a _ => nomatch a
  pd := fun a => nomatch a
  le := fun a => nomatch a
  rd := fun v => ⟨⟨fa_nil, fa_nil, fa_nil, rfl⟩, rfl⟩
  wb := rfl
theorem dlehR {ρ : Env} (a0 : Bool) (a1 a2 a3 a4 : Int) (a5 : Nat) (a6 a7 : Nat → Int) (a8 a9 a10 a11 a12 : Int) (hM : MemoOk Try.prog (ctxOf Try.prog (memoS 59 dctP dctF dctW dctH 1 memo0)) ρ) : ∀ X a q n D, FxOk ρ X → X.base = (dleA a0 a1 a2 a3 a4 a5 a6 a7 a8 a9 a10 a11 a12).base → X.nt = (dleA a0 a1 a2 a3 a4 a5 a6 a7 a8 a9 a10 a11 a12).nt → X.W = (dleA a0 a1 a2 a3 a4 a5 a6 a7 a8 a9 a10 a11 a12).W → (dleA a0 a1 a2 a3 a4 a5 a6 a7 a8 a9 a10 a11 a12).rgo a = some q → q n = some D → (dleA a0 a1 a2 a3 a4 a5 a6 a7 a8 a9 a10 a11 a12).RangeOk Try.prog ρ X a D := AF.noRange rfl
theorem dlectr {ρ : Env} (a0 : Bool) (a1 a2 a3 a4 : Int) (a5 : Nat) (a6 a7 : Nat → Int) (a8 a9 a10 a11 a12 : Int) {n : Nat} {v : dleR} (hM : MemoOk Try.prog (ctxOf Try.prog (memoS 59 dctP dctF dctW dctH 1 memo0)) ρ) (hv : (dleA a0 a1 a2 a3 a4 a5 a6 a7 a8 a9 a10 a11 a12).run n = some v) :
    Ctr Try.prog ρ 40 (dleA a0 a1 a2 a3 a4 a5 a6 a7 a8 a9 a10 a11 a12).args (dleA a0 a1 a2 a3 a4 a5 a6 a7 a8 a9 a10 a11 a12).H0 (dleA a0 a1 a2 a3 a4 a5 a6 a7 a8 a9 a10 a11 a12).base (dleA a0 a1 a2 a3 a4 a5 a6 a7 a8 a9 a10 a11 a12).W ((dleA a0 a1 a2 a3 a4 a5 a6 a7 a8 a9 a10 a11 a12).rc v) (putH (dleA a0 a1 a2 a3 a4 a5 a6 a7 a8 a9 a10 a11 a12).H0 ((dleA a0 a1 a2 a3 a4 a5 a6 a7 a8 a9 a10 a11 a12).rh v ++ (dleA a0 a1 a2 a3 a4 a5 a6 a7 a8 a9 a10 a11 a12).rx v)) ((dleA a0 a1 a2 a3 a4 a5 a6 a7 a8 a9 a10 a11 a12).rn v) :=
  AF.ctr try_ok hM (dleok a0 a1 a2 a3 a4 a5 a6 a7 a8 a9 a10 a11 a12) (fn := Try.f40) Try.func40 rfl rfl (Nat.le_of_ble_eq_true rfl) rfl (dlehR a0 a1 a2 a3 a4 a5 a6 a7 a8 a9 a10 a11 a12 hM) hv
theorem dlemem {ρ : Env} : MemoOk Try.prog (ctxOf Try.prog (memoS 59 dctP dctF dctW dctH 1 memo0)) ρ := (memoS_ok (dctknown dctmem) memo0_ok)
abbrev dleP : List AQ := [.agg [.bool, .int .i64, .int .i64, .int .i64, .int .i64, .rows [some .i64, some .i64]], .agg [.int .i64, .int .i64], .int .i64, .agg [.int .i64, .int .i64]]
noncomputable def dleF (v : AW) : AF dleN dleR := dleA (v.b.getD 0 false) (v.i.getD 0 0) (v.i.getD 1 0) (v.i.getD 2 0) (v.i.getD 3 0) (v.t.getD 0 .none).n ((v.t.getD 0 .none).c 0) ((v.t.getD 0 .none).c 1) (v.i.getD 4 0) (v.i.getD 5 0) (v.i.getD 6 0) (v.i.getD 7 0) (v.i.getD 8 0)
noncomputable def dleW : dleR → CV := fun v => .tup [.agg [.int .i64 (.x v.1), .int .i64 (.x v.2.1)], .int .i64 (.x v.2.2)]
noncomputable def dleH : dleR → List (Nat × Blk) := fun v => []
instance : Inhabited dleR := ⟨(0, 0, 0)⟩
theorem dleknown {ρ : Env} (hM : MemoOk Try.prog (ctxOf Try.prog (memoS 59 dctP dctF dctW dctH 1 memo0)) ρ) : KnownS Try.prog ρ 40 dleP dleF dleW dleH 1 where
  fn := ⟨Try.f40, Try.func40, rfl⟩
  le := Nat.le_of_ble_eq_true rfl
  full := fun r => rfl
  rg := fun r => rfl
  hg := fun r => fa_nil
  ctr := fun v n r h => dlectr (v.b.getD 0 false) (v.i.getD 0 0) (v.i.getD 1 0) (v.i.getD 2 0) (v.i.getD 3 0) (v.t.getD 0 .none).n ((v.t.getD 0 .none).c 0) ((v.t.getD 0 .none).c 1) (v.i.getD 4 0) (v.i.getD 5 0) (v.i.getD 6 0) (v.i.getD 7 0) (v.i.getD 8 0) hM h
end Go.Proofs.Ythagjhadjpangaa.Cx

/- acme/acmeref07.Span as an automaton. Made by tools/cxauto.py. -/
namespace Go.Proofs.Ythagjhadjpangaa.Cx
set_option linter.unusedVariables false
set_option linter.unusedSimpArgs false
set_option maxRecDepth 100000
open Go Go.Proofs Go.RowKit
noncomputable abbrev rspCode : Code := funcCode Try.f45
abbrev rspN := Empty
abbrev rspR := Bool
noncomputable def rspD0 (a0 a1 a2 a3 : Int) : DD (Lf rspN rspR) :=
 .ask (Cm.run .geq a0 a2)
   (.ask (Cm.run .leq a0 a1)
   (.ask (Cm.run .leq a1 a3)
   (.leaf (.done true []))
   (.leaf (.done false [])))
   (.leaf (.done false [])))
   (.leaf (.done false []))

noncomputable def rspD (a0 a1 a2 a3 : Int) : rspN → DD (Lf rspN rspR) := fun a => nomatch a
noncomputable def rspA (a0 a1 a2 a3 : Int) : AF rspN rspR where
  code := rspCode
  base := 0
  nt := 19
  m := 400
  un := []
  W := []
  h0 := []
  args := [.agg [.int .i64 (.x a0), .int .i64 (.x a1)], .int .i64 (.x a2), .int .i64 (.x a3)]
  res := (Try.f45).results.toList
  path := fun a => nomatch a
  pd := fun a => nomatch a
  D0 := rspD0 a0 a1 a2 a3
  D := rspD a0 a1 a2 a3
  rc := (fun v => .bool (.x v))
  rh := (fun v => [])
  rn := (fun v => 0)
  rx := (fun v => [])
  rgo := (fun _ => none)
theorem rspstart (a0 a1 a2 a3 : Int) : AF.edgeOk (rspA a0 a1 a2 a3) (ctxOf Try.prog memo0) (rspD0 a0 a1 a2 a3) (AF.run0 (rspA a0 a1 a2 a3) (ctxOf Try.prog memo0)) := by unfold AF.edgeOk; kernel_rfl
theorem rspok (a0 a1 a2 a3 : Int) : (rspA a0 a1 a2 a3).Ok Try.prog (ctxOf Try.prog memo0) where
  regs := by kernel_rfl
  h0 := by kernel_rfl
  start := rspstart a0 a1 a2 a3
  node := fun a _ => nomatch a
  pd := fun a => nomatch a
  le := fun a => nomatch a
  rd := fun v => ⟨⟨fa_nil, fa_nil, fa_nil, rfl⟩, rfl⟩
  wb := rfl
theorem rsphR {ρ : Env} (a0 a1 a2 a3 : Int) (hM : MemoOk Try.prog (ctxOf Try.prog memo0) ρ) : ∀ X a q n D, FxOk ρ X → X.base = (rspA a0 a1 a2 a3).base → X.nt = (rspA a0 a1 a2 a3).nt → X.W = (rspA a0 a1 a2 a3).W → (rspA a0 a1 a2 a3).rgo a = some q → q n = some D → (rspA a0 a1 a2 a3).RangeOk Try.prog ρ X a D := AF.noRange rfl
theorem rspctr {ρ : Env} (a0 a1 a2 a3 : Int) {n : Nat} {v : rspR} (hM : MemoOk Try.prog (ctxOf Try.prog memo0) ρ) (hv : (rspA a0 a1 a2 a3).run n = some v) :
    Ctr Try.prog ρ 45 (rspA a0 a1 a2 a3).args (rspA a0 a1 a2 a3).H0 (rspA a0 a1 a2 a3).base (rspA a0 a1 a2 a3).W ((rspA a0 a1 a2 a3).rc v) (putH (rspA a0 a1 a2 a3).H0 ((rspA a0 a1 a2 a3).rh v ++ (rspA a0 a1 a2 a3).rx v)) ((rspA a0 a1 a2 a3).rn v) :=
  AF.ctr try_ok hM (rspok a0 a1 a2 a3) (fn := Try.f45) Try.func45 rfl rfl (Nat.le_of_ble_eq_true rfl) rfl (rsphR a0 a1 a2 a3 hM) hv
theorem rspmem {ρ : Env} : MemoOk Try.prog (ctxOf Try.prog memo0) ρ := memo0_ok
abbrev rspP : List AP := [.agg [.int .i64, .int .i64], .int .i64, .int .i64]
noncomputable def rspF (v : AV) : AF rspN rspR := rspA (v.i.getD 0 0) (v.i.getD 1 0) (v.i.getD 2 0) (v.i.getD 3 0)
theorem rspknown {ρ : Env} (hM : MemoOk Try.prog (ctxOf Try.prog memo0) ρ) : KnownA Try.prog ρ 45 rspP rspF where
  fn := ⟨Try.f45, Try.func45, rfl⟩
  args := fun v => rfl
  plain := fun v r => rfl
  ctr := fun v n r h => rspctr (v.i.getD 0 0) (v.i.getD 1 0) (v.i.getD 2 0) (v.i.getD 3 0) hM h
end Go.Proofs.Ythagjhadjpangaa.Cx

/- acme/acmeref07.Tool as an automaton. Made by tools/cxauto.py. -/
namespace Go.Proofs.Ythagjhadjpangaa.Cx
set_option linter.unusedVariables false
set_option linter.unusedSimpArgs false
set_option maxRecDepth 100000
open Go Go.Proofs Go.RowKit
noncomputable abbrev rtoCode : Code := funcCode Try.f42
inductive rtoN where
  | n0 (p0 : Int)
abbrev rtoR := Int
noncomputable def rtoD0 (a0 : Bool) (a1 a2 a3 a4 : Int) (a5 : Nat) (a6 a7 : Nat → Int) : DD (Lf rtoN rtoR) :=
 .ask (Cm.run .gtr ((↑a5 : Int)) 8)
   (.leaf (.done 5 []))
   (.leaf (.next (.n0 0) [1]))

noncomputable def rtoD (a0 : Bool) (a1 a2 a3 a4 : Int) (a5 : Nat) (a6 a7 : Nat → Int) : rtoN → DD (Lf rtoN rtoR)
 | .n0 p0 =>
 let z0 := rspA (a6 (0 + Int.toNat p0)) (a7 (0 + Int.toNat p0)) 0 100000
 let z1 := rspA a1 a2 (-1000000) 1000000
 let z2 := rspA a3 a4 (-1000000) 1000000
 .ask (Cm.run .lss p0 (↑a5 : Int))
   (.must (decide (0 ≤ p0))
   (.must (decide (p0 < (↑a5 : Int)))
   (.must (decide (0 + Int.toNat p0 < a5))
   (.must (AF.fin z0)
   (.ask (!AF.val z0)
   (.leaf (.done 2 []))
   (.leaf (.next (.n0 (Ar.run .add .i64 p0 1)) [1])))))))
   (.ask (Cm.run .eql ((↑a5 : Int)) 0)
   (.leaf (.done 2 []))
   (.must (AF.fin z1)
   (.ask (!AF.val z1)
   (.leaf (.done 2 []))
   (.must (AF.fin z2)
   (.ask (!AF.val z2)
   (.leaf (.done 2 []))
   (.leaf (.done 0 [])))))))

noncomputable def rtoA (a0 : Bool) (a1 a2 a3 a4 : Int) (a5 : Nat) (a6 a7 : Nat → Int) : AF rtoN rtoR where
  code := rtoCode
  base := 1
  nt := 38
  m := 400
  un := []
  W := []
  h0 := [(0, ⟨.arg a5 2 (fun i => [.int .i64 (.x (a6 i)), .int .i64 (.x (a7 i))]) (fun _ => ⟨rfl, rfl⟩), 2, true, none⟩)]
  args := [.agg [.bool (.x a0), .int .i64 (.x a1), .int .i64 (.x a2), .int .i64 (.x a3), .int .i64 (.x a4), .sla 0 2 0 a5]]
  res := (Try.f42).results.toList
  path := fun a => match a with
   | .n0 p0 => [1, 1, 0, 1, 0]
  pd := fun a => match a with
   | .n0 p0 => ⟨[(1, .ptr (some (1, 0))), (3, .int .i64 (.x p0))], [(1, ⟨.lit [.bool (.x a0), .int .i64 (.x a1), .int .i64 (.x a2), .int .i64 (.x a3), .int .i64 (.x a4), .sla 0 2 0 a5], 0, true, none⟩)], 2, []⟩
  D0 := rtoD0 a0 a1 a2 a3 a4 a5 a6 a7
  D := rtoD a0 a1 a2 a3 a4 a5 a6 a7
  rc := (fun v => .int .i64 (.x v))
  rh := (fun v => [])
  rn := (fun v => 1)
  rx := (fun v => [])
  rgo := (fun _ => none)
theorem rtostart (a0 : Bool) (a1 a2 a3 a4 : Int) (a5 : Nat) (a6 a7 : Nat → Int) : AF.edgeOk (rtoA a0 a1 a2 a3 a4 a5 a6 a7) (ctxOf Try.prog memo0) (rtoD0 a0 a1 a2 a3 a4 a5 a6 a7) (AF.run0 (rtoA a0 a1 a2 a3 a4 a5 a6 a7) (ctxOf Try.prog (memoA 45 rspP rspF memo0))) := by unfold AF.edgeOk; kernel_rfl
theorem rtonode0 (a0 : Bool) (a1 a2 a3 a4 : Int) (a5 : Nat) (a6 a7 : Nat → Int) (p0 : Int) : AF.edgeOk (rtoA a0 a1 a2 a3 a4 a5 a6 a7) (ctxOf Try.prog memo0) (rtoD a0 a1 a2 a3 a4 a5 a6 a7 (.n0 p0)) (AF.runN (rtoA a0 a1 a2 a3 a4 a5 a6 a7) (ctxOf Try.prog (memoA 45 rspP rspF memo0)) (.n0 p0)) := by unfold AF.edgeOk; kernel_rfl
theorem rtook (a0 : Bool) (a1 a2 a3 a4 : Int) (a5 : Nat) (a6 a7 : Nat → Int) : (rtoA a0 a1 a2 a3 a4 a5 a6 a7).Ok Try.prog (ctxOf Try.prog (memoA 45 rspP rspF memo0)) where
  regs := by kernel_rfl
  h0 := by kernel_rfl
  start := rtostart a0 a1 a2 a3 a4 a5 a6 a7
  node := fun a _ => match a with
   | .n0 p0 => rtonode0 a0 a1 a2 a3 a4 a5 a6 a7 p0
  pd := fun a => match a with
   | .n0 p0 => ⟨(fa_cons rfl (fa_cons rfl fa_nil)), (fa_cons ⟨.inl (Nat.le_of_ble_eq_true rfl), rfl, rfl⟩ fa_nil), fa_nil, rfl⟩
  le := fun a => match a with
   | .n0 p0 => Nat.le_of_ble_eq_true rfl
  rd := fun v => ⟨⟨fa_nil, fa_nil, fa_nil, rfl⟩, rfl⟩
  wb := rfl
theorem rtohR {ρ : Env} (a0 : Bool) (a1 a2 a3 a4 : Int) (a5 : Nat) (a6 a7 : Nat → Int) (hM : MemoOk Try.prog (ctxOf Try.prog (memoA 45 rspP rspF memo0)) ρ) : ∀ X a q n D, FxOk ρ X → X.base = (rtoA a0 a1 a2 a3 a4 a5 a6 a7).base → X.nt = (rtoA a0 a1 a2 a3 a4 a5 a6 a7).nt → X.W = (rtoA a0 a1 a2 a3 a4 a5 a6 a7).W → (rtoA a0 a1 a2 a3 a4 a5 a6 a7).rgo a = some q → q n = some D → (rtoA a0 a1 a2 a3 a4 a5 a6 a7).RangeOk Try.prog ρ X a D := AF.noRange rfl
theorem rtoctr {ρ : Env} (a0 : Bool) (a1 a2 a3 a4 : Int) (a5 : Nat) (a6 a7 : Nat → Int) {n : Nat} {v : rtoR} (hM : MemoOk Try.prog (ctxOf Try.prog (memoA 45 rspP rspF memo0)) ρ) (hv : (rtoA a0 a1 a2 a3 a4 a5 a6 a7).run n = some v) :
    Ctr Try.prog ρ 42 (rtoA a0 a1 a2 a3 a4 a5 a6 a7).args (rtoA a0 a1 a2 a3 a4 a5 a6 a7).H0 (rtoA a0 a1 a2 a3 a4 a5 a6 a7).base (rtoA a0 a1 a2 a3 a4 a5 a6 a7).W ((rtoA a0 a1 a2 a3 a4 a5 a6 a7).rc v) (putH (rtoA a0 a1 a2 a3 a4 a5 a6 a7).H0 ((rtoA a0 a1 a2 a3 a4 a5 a6 a7).rh v ++ (rtoA a0 a1 a2 a3 a4 a5 a6 a7).rx v)) ((rtoA a0 a1 a2 a3 a4 a5 a6 a7).rn v) :=
  AF.ctr try_ok hM (rtook a0 a1 a2 a3 a4 a5 a6 a7) (fn := Try.f42) Try.func42 rfl rfl (Nat.le_of_ble_eq_true rfl) rfl (rtohR a0 a1 a2 a3 a4 a5 a6 a7 hM) hv
theorem rtomem {ρ : Env} : MemoOk Try.prog (ctxOf Try.prog (memoA 45 rspP rspF memo0)) ρ := (memoA_ok (rspknown rspmem) memo0_ok)
abbrev rtoP : List AQ := [.agg [.bool, .int .i64, .int .i64, .int .i64, .int .i64, .rows [some .i64, some .i64]]]
noncomputable def rtoF (v : AW) : AF rtoN rtoR := rtoA (v.b.getD 0 false) (v.i.getD 0 0) (v.i.getD 1 0) (v.i.getD 2 0) (v.i.getD 3 0) (v.t.getD 0 .none).n ((v.t.getD 0 .none).c 0) ((v.t.getD 0 .none).c 1)
noncomputable def rtoW : rtoR → CV := fun v => .int .i64 (.x v)
noncomputable def rtoH : rtoR → List (Nat × Blk) := fun v => []
instance : Inhabited rtoR := ⟨0⟩
theorem rtoknown {ρ : Env} (hM : MemoOk Try.prog (ctxOf Try.prog (memoA 45 rspP rspF memo0)) ρ) : KnownS Try.prog ρ 42 rtoP rtoF rtoW rtoH 1 where
  fn := ⟨Try.f42, Try.func42, rfl⟩
  le := Nat.le_of_ble_eq_true rfl
  full := fun r => rfl
  rg := fun r => rfl
  hg := fun r => fa_nil
  ctr := fun v n r h => rtoctr (v.b.getD 0 false) (v.i.getD 0 0) (v.i.getD 1 0) (v.i.getD 2 0) (v.i.getD 3 0) (v.t.getD 0 .none).n ((v.t.getD 0 .none).c 0) ((v.t.getD 0 .none).c 1) hM h
end Go.Proofs.Ythagjhadjpangaa.Cx

/- acme/acmelaw07.unchanged as an automaton. Made by tools/cxauto.py. -/
namespace Go.Proofs.Ythagjhadjpangaa.Cx
set_option linter.unusedVariables false
set_option linter.unusedSimpArgs false
set_option maxRecDepth 100000
open Go Go.Proofs Go.RowKit
noncomputable abbrev dunCode : Code := funcCode Try.f20
inductive dunN where
  | n0 (p0 : Int)
  | n1
abbrev dunR := Bool
noncomputable def dunD0 (a0 : Bool) (a1 a2 a3 a4 : Int) (a5 : Nat) (a6 a7 : Nat → Int) (a8 : Bool) (a9 a10 a11 a12 : Int) (a13 : Nat) (a14 a15 : Nat → Int) : DD (Lf dunN dunR) :=
 let z0 := Cm.run .eql a1 a9
 let z1 := Cm.run .eql a2 a10
 let z2 := Cm.run .eql a3 a11
 let z3 := Cm.run .eql a4 a12
 .ask (a0)
   (.ask (a8)
   (.ask z0
   (.ask z1
   (.ask z2
   (.ask z3
   (.ask (Cm.run .neq (↑a5 : Int) (↑a13 : Int))
   (.leaf (.done false []))
   (.leaf (.next (.n0 0) [2, 3])))
   (.leaf (.done false [])))
   (.leaf (.done false [])))
   (.leaf (.done false [])))
   (.leaf (.done false [])))
   (.leaf (.done false [])))
   (.ask (a8)
   (.leaf (.done false []))
   (.ask z0
   (.ask z1
   (.ask z2
   (.ask z3
   (.ask (Cm.run .neq (↑a5 : Int) (↑a13 : Int))
   (.leaf (.done false []))
   (.leaf (.next (.n0 0) [2, 3])))
   (.leaf (.done false [])))
   (.leaf (.done false [])))
   (.leaf (.done false [])))
   (.leaf (.done false []))))

noncomputable def dunD (a0 : Bool) (a1 a2 a3 a4 : Int) (a5 : Nat) (a6 a7 : Nat → Int) (a8 : Bool) (a9 a10 a11 a12 : Int) (a13 : Nat) (a14 a15 : Nat → Int) : dunN → DD (Lf dunN dunR)
 | .n0 p0 =>
 let z0 := decide (0 ≤ p0)
 .ask (Cm.run .lss p0 (↑a5 : Int))
   (.must z0
   (.must (decide (p0 < (↑a5 : Int)))
   (.must (decide (0 + Int.toNat p0 < a5))
   (.must z0
   (.must (decide (p0 < (↑a13 : Int)))
   (.must (decide (0 + Int.toNat p0 < a13))
   (.ask (Cm.run .eql (a6 (0 + Int.toNat p0)) (a14 (0 + Int.toNat p0)))
   (.ask (Cm.run .eql (a7 (0 + Int.toNat p0)) (a15 (0 + Int.toNat p0)))
   (.leaf (.next (.n0 (Ar.run .add .i64 p0 1)) [2, 3]))
   (.leaf (.done false [])))
   (.leaf (.done false [])))))))))
   (.leaf (.next (.n1) []))
 | .n1 =>
 .ask (false)
   (.dead)
   (.leaf (.done true []))

noncomputable def dunA (a0 : Bool) (a1 a2 a3 a4 : Int) (a5 : Nat) (a6 a7 : Nat → Int) (a8 : Bool) (a9 a10 a11 a12 : Int) (a13 : Nat) (a14 a15 : Nat → Int) : AF dunN dunR where
  code := dunCode
  base := 2
  nt := 79
  m := 400
  un := []
  W := []
  h0 := [(0, ⟨.arg a5 2 (fun i => [.int .i64 (.x (a6 i)), .int .i64 (.x (a7 i))]) (fun _ => ⟨rfl, rfl⟩), 2, true, none⟩), (1, ⟨.arg a13 2 (fun i => [.int .i64 (.x (a14 i)), .int .i64 (.x (a15 i))]) (fun _ => ⟨rfl, rfl⟩), 2, true, none⟩)]
  args := [.agg [.bool (.x a0), .int .i64 (.x a1), .int .i64 (.x a2), .int .i64 (.x a3), .int .i64 (.x a4), .sla 0 2 0 a5], .agg [.bool (.x a8), .int .i64 (.x a9), .int .i64 (.x a10), .int .i64 (.x a11), .int .i64 (.x a12), .sla 1 2 0 a13], .slc none 0 0, .slc none 0 0]
  res := (Try.f20).results.toList
  path := fun a => match a with
   | .n0 p0 => [1, 1, 0, 1, 0]
   | .n1 => [1, 1, 1, 0, 1, 0]
  pd := fun a => match a with
   | .n0 p0 => ⟨[(2, .slc none 0 0), (3, .slc none 0 0), (4, .ptr (some (2, 0))), (5, .ptr (some (3, 0))), (9, .int .i64 (.x p0))], [(2, ⟨.lit [.bool (.x a0), .int .i64 (.x a1), .int .i64 (.x a2), .int .i64 (.x a3), .int .i64 (.x a4), .sla 0 2 0 a5], 0, true, none⟩), (3, ⟨.lit [.bool (.x a8), .int .i64 (.x a9), .int .i64 (.x a10), .int .i64 (.x a11), .int .i64 (.x a12), .sla 1 2 0 a13], 0, true, none⟩)], 4, []⟩
   | .n1 => ⟨[(2, .slc none 0 0), (3, .slc none 0 0), (10, .int .i64 (.x 0))], [], 2, []⟩
  D0 := dunD0 a0 a1 a2 a3 a4 a5 a6 a7 a8 a9 a10 a11 a12 a13 a14 a15
  D := dunD a0 a1 a2 a3 a4 a5 a6 a7 a8 a9 a10 a11 a12 a13 a14 a15
  rc := (fun v => .bool (.x v))
  rh := (fun v => [])
  rn := (fun v => 2)
  rx := (fun v => [])
  rgo := (fun _ => none)
theorem dunstart (a0 : Bool) (a1 a2 a3 a4 : Int) (a5 : Nat) (a6 a7 : Nat → Int) (a8 : Bool) (a9 a10 a11 a12 : Int) (a13 : Nat) (a14 a15 : Nat → Int) : AF.edgeOk (dunA a0 a1 a2 a3 a4 a5 a6 a7 a8 a9 a10 a11 a12 a13 a14 a15) (ctxOf Try.prog memo0) (dunD0 a0 a1 a2 a3 a4 a5 a6 a7 a8 a9 a10 a11 a12 a13 a14 a15) (AF.run0 (dunA a0 a1 a2 a3 a4 a5 a6 a7 a8 a9 a10 a11 a12 a13 a14 a15) (ctxOf Try.prog memo0)) := by unfold AF.edgeOk; kernel_rfl
theorem dunnode0 (a0 : Bool) (a1 a2 a3 a4 : Int) (a5 : Nat) (a6 a7 : Nat → Int) (a8 : Bool) (a9 a10 a11 a12 : Int) (a13 : Nat) (a14 a15 : Nat → Int) (p0 : Int) : AF.edgeOk (dunA a0 a1 a2 a3 a4 a5 a6 a7 a8 a9 a10 a11 a12 a13 a14 a15) (ctxOf Try.prog memo0) (dunD a0 a1 a2 a3 a4 a5 a6 a7 a8 a9 a10 a11 a12 a13 a14 a15 (.n0 p0)) (AF.runN (dunA a0 a1 a2 a3 a4 a5 a6 a7 a8 a9 a10 a11 a12 a13 a14 a15) (ctxOf Try.prog memo0) (.n0 p0)) := by unfold AF.edgeOk; kernel_rfl
theorem dunnode1 (a0 : Bool) (a1 a2 a3 a4 : Int) (a5 : Nat) (a6 a7 : Nat → Int) (a8 : Bool) (a9 a10 a11 a12 : Int) (a13 : Nat) (a14 a15 : Nat → Int) : AF.edgeOk (dunA a0 a1 a2 a3 a4 a5 a6 a7 a8 a9 a10 a11 a12 a13 a14 a15) (ctxOf Try.prog memo0) (dunD a0 a1 a2 a3 a4 a5 a6 a7 a8 a9 a10 a11 a12 a13 a14 a15 (.n1)) (AF.runN (dunA a0 a1 a2 a3 a4 a5 a6 a7 a8 a9 a10 a11 a12 a13 a14 a15) (ctxOf Try.prog memo0) (.n1)) := by unfold AF.edgeOk; kernel_rfl
theorem dunok (a0 : Bool) (a1 a2 a3 a4 : Int) (a5 : Nat) (a6 a7 : Nat → Int) (a8 : Bool) (a9 a10 a11 a12 : Int) (a13 : Nat) (a14 a15 : Nat → Int) : (dunA a0 a1 a2 a3 a4 a5 a6 a7 a8 a9 a10 a11 a12 a13 a14 a15).Ok Try.prog (ctxOf Try.prog memo0) where
  regs := by kernel_rfl
  h0 := by kernel_rfl
  start := dunstart a0 a1 a2 a3 a4 a5 a6 a7 a8 a9 a10 a11 a12 a13 a14 a15
  node := fun a _ => match a with
   | .n0 p0 => dunnode0 a0 a1 a2 a3 a4 a5 a6 a7 a8 a9 a10 a11 a12 a13 a14 a15 p0
   | .n1 => dunnode1 a0 a1 a2 a3 a4 a5 a6 a7 a8 a9 a10 a11 a12 a13 a14 a15
  pd := fun a => match a with
   | .n0 p0 => ⟨(fa_cons rfl (fa_cons rfl (fa_cons rfl (fa_cons rfl (fa_cons rfl fa_nil))))), (fa_cons ⟨.inl (Nat.le_of_ble_eq_true rfl), rfl, rfl⟩ (fa_cons ⟨.inl (Nat.le_of_ble_eq_true rfl), rfl, rfl⟩ fa_nil)), fa_nil, rfl⟩
   | .n1 => ⟨(fa_cons rfl (fa_cons rfl (fa_cons rfl fa_nil))), fa_nil, fa_nil, rfl⟩
  le := fun a => match a with
   | .n0 p0 => Nat.le_of_ble_eq_true rfl
   | .n1 => Nat.le_of_ble_eq_true rfl
  rd := fun v => ⟨⟨fa_nil, fa_nil, fa_nil, rfl⟩, rfl⟩
  wb := rfl
theorem dunhR {ρ : Env} (a0 : Bool) (a1 a2 a3 a4 : Int) (a5 : Nat) (a6 a7 : Nat → Int) (a8 : Bool) (a9 a10 a11 a12 : Int) (a13 : Nat) (a14 a15 : Nat → Int) (hM : MemoOk Try.prog (ctxOf Try.prog memo0) ρ) : ∀ X a q n D, FxOk ρ X → X.base = (dunA a0 a1 a2 a3 a4 a5 a6 a7 a8 a9 a10 a11 a12 a13 a14 a15).base → X.nt = (dunA a0 a1 a2 a3 a4 a5 a6 a7 a8 a9 a10 a11 a12 a13 a14 a15).nt → X.W = (dunA a0 a1 a2 a3 a4 a5 a6 a7 a8 a9 a10 a11 a12 a13 a14 a15).W → (dunA a0 a1 a2 a3 a4 a5 a6 a7 a8 a9 a10 a11 a12 a13 a14 a15).rgo a = some q → q n = some D → (dunA a0 a1 a2 a3 a4 a5 a6 a7 a8 a9 a10 a11 a12 a13 a14 a15).RangeOk Try.prog ρ X a D := AF.noRange rfl
theorem dunctr {ρ : Env} (a0 : Bool) (a1 a2 a3 a4 : Int) (a5 : Nat) (a6 a7 : Nat → Int) (a8 : Bool) (a9 a10 a11 a12 : Int) (a13 : Nat) (a14 a15 : Nat → Int) {n : Nat} {v : dunR} (hM : MemoOk Try.prog (ctxOf Try.prog memo0) ρ) (hv : (dunA a0 a1 a2 a3 a4 a5 a6 a7 a8 a9 a10 a11 a12 a13 a14 a15).run n = some v) :
    Ctr Try.prog ρ 20 (dunA a0 a1 a2 a3 a4 a5 a6 a7 a8 a9 a10 a11 a12 a13 a14 a15).args (dunA a0 a1 a2 a3 a4 a5 a6 a7 a8 a9 a10 a11 a12 a13 a14 a15).H0 (dunA a0 a1 a2 a3 a4 a5 a6 a7 a8 a9 a10 a11 a12 a13 a14 a15).base (dunA a0 a1 a2 a3 a4 a5 a6 a7 a8 a9 a10 a11 a12 a13 a14 a15).W ((dunA a0 a1 a2 a3 a4 a5 a6 a7 a8 a9 a10 a11 a12 a13 a14 a15).rc v) (putH (dunA a0 a1 a2 a3 a4 a5 a6 a7 a8 a9 a10 a11 a12 a13 a14 a15).H0 ((dunA a0 a1 a2 a3 a4 a5 a6 a7 a8 a9 a10 a11 a12 a13 a14 a15).rh v ++ (dunA a0 a1 a2 a3 a4 a5 a6 a7 a8 a9 a10 a11 a12 a13 a14 a15).rx v)) ((dunA a0 a1 a2 a3 a4 a5 a6 a7 a8 a9 a10 a11 a12 a13 a14 a15).rn v) :=
  AF.ctr try_ok hM (dunok a0 a1 a2 a3 a4 a5 a6 a7 a8 a9 a10 a11 a12 a13 a14 a15) (fn := Try.f20) Try.func20 rfl rfl (Nat.le_of_ble_eq_true rfl) rfl (dunhR a0 a1 a2 a3 a4 a5 a6 a7 a8 a9 a10 a11 a12 a13 a14 a15 hM) hv
theorem dunmem {ρ : Env} : MemoOk Try.prog (ctxOf Try.prog memo0) ρ := memo0_ok
abbrev dunP : List AB := [.agg [.bool, .int .i64, .int .i64, .int .i64, .int .i64, .rows [some .i64, some .i64]], .agg [.bool, .int .i64, .int .i64, .int .i64, .int .i64, .rows [some .i64, some .i64]], .nils, .nils]
noncomputable def dunF (v : AW) : AF dunN dunR := dunA (v.b.getD 0 false) (v.i.getD 0 0) (v.i.getD 1 0) (v.i.getD 2 0) (v.i.getD 3 0) (v.t.getD 0 .none).n ((v.t.getD 0 .none).c 0) ((v.t.getD 0 .none).c 1) (v.b.getD 1 false) (v.i.getD 4 0) (v.i.getD 5 0) (v.i.getD 6 0) (v.i.getD 7 0) (v.t.getD 1 .none).n ((v.t.getD 1 .none).c 0) ((v.t.getD 1 .none).c 1)
noncomputable def dunW : dunR → CV := fun v => .bool (.x v)
noncomputable def dunH : dunR → List (Nat × Blk) := fun v => []
instance : Inhabited dunR := ⟨false⟩
theorem dunknown {ρ : Env} (hM : MemoOk Try.prog (ctxOf Try.prog memo0) ρ) : KnownF Try.prog ρ 20 dunP dunF dunW dunH 2 where
  fn := ⟨Try.f20, Try.func20, rfl⟩
  le := Nat.le_of_ble_eq_true rfl
  full := fun r => rfl
  rg := fun r => rfl
  hg := fun r => fa_nil
  ctr := fun v n r h => dunctr (v.b.getD 0 false) (v.i.getD 0 0) (v.i.getD 1 0) (v.i.getD 2 0) (v.i.getD 3 0) (v.t.getD 0 .none).n ((v.t.getD 0 .none).c 0) ((v.t.getD 0 .none).c 1) (v.b.getD 1 false) (v.i.getD 4 0) (v.i.getD 5 0) (v.i.getD 6 0) (v.i.getD 7 0) (v.t.getD 1 .none).n ((v.t.getD 1 .none).c 0) ((v.t.getD 1 .none).c 1) hM h
end Go.Proofs.Ythagjhadjpangaa.Cx

/- Package die: contracts of what checks tools, of what learns a size; of the reference's. -/
namespace Go.Proofs.Ythagjhadjpangaa.Cx
set_option linter.unusedVariables false
set_option linter.unusedSimpArgs false
set_option maxRecDepth 100000
set_option maxHeartbeats 4000000
open Go Go.RowKit
def VOk (lo hi L H : Int) : Prop := lo ≤ L ∧ L ≤ H ∧ H ≤ hi
def ToolOk (n : Nat) (wl wh : Nat → Int) (s1 s2 c1 c2 : Int) : Prop := 0 < n ∧ (∀ i : Nat, (i : Int) < n → VOk 0 100000 (wl i) (wh i)) ∧ VOk (-1000000) 1000000 s1 s2 ∧ VOk (-1000000) 1000000 c1 c2
def TV (n : Nat) (V : Prop) (v : Int) : Prop := n > 8 ∧ v = 5 ∨ n ≤ 8 ∧ (V ∧ v = 0 ∨ ¬ V ∧ v = 2)
theorem TV.same {n : Nat} {V : Prop} {v w : Int} (h : TV n V v) (h' : TV n V w) : v = w := by
  rcases h with ⟨a, b⟩ | ⟨a, ⟨b, c⟩ | ⟨b, c⟩⟩ <;> rcases h' with ⟨a', b'⟩ | ⟨a', ⟨b', c'⟩ | ⟨b', c'⟩⟩ <;> first | omega | exact absurd b b' | exact absurd b' b
theorem TV.ok {n : Nat} {V : Prop} (h : TV n V 0) : V ∧ n ≤ 8 := by
  rcases h with ⟨_, q⟩ | ⟨p, ⟨q, _⟩ | ⟨_, q⟩⟩
  · exact absurd q (by decide)
  · exact ⟨q, p⟩
  · exact absurd q (by decide)
theorem all2 {p : Nat → Prop} : (∀ i : Nat, (i : Int) < ((2 : Nat) : Int) → p i) ↔ p 0 ∧ p 1 := ⟨fun h => ⟨h 0 (by omega), h 1 (by omega)⟩, fun h i hi => by
  obtain rfl | rfl : i = 0 ∨ i = 1 := by omega
  · exact h.1
  · exact h.2⟩
section
variable {a0 : Nat} {a1 a2 : Nat → Int} {a3 a4 : Int}
theorem dvs_val (hn : a0 ≤ 10000) : AF.fin (dvsA a3 a4 a0 a1 a2) = true ∧ (AF.val (dvsA a3 a4 a0 a1 a2) = true ↔ ∀ i : Nat, (i : Int) < a0 → VOk a3 a4 (a1 i) (a2 i)) := by
  have h : AF.fin (disA a0 a1 a2 a3 a4) = true ∧ ((AF.val (disA a0 a1 a2 a3 a4) = -1 ∧ ∀ i : Nat, (i : Int) < a0 → VOk a3 a4 (a1 i) (a2 i)) ∨ (0 ≤ AF.val (disA a0 a1 a2 a3 a4) ∧ ¬ ∀ i : Nat, (i : Int) < a0 → VOk a3 a4 (a1 i) (a2 i))) := by
    refine find_val (P := fun i => VOk a3 a4 (a1 i) (a2 i)) disN.n0 (fun b => match b with | .n0 p => p) (fun _ => rfl) a0 (fun _ => rfl) rfl fun p h0 h1 => ?_
    show DD.sat _ _ (disD a0 a1 a2 a3 a4 (.n0 p))
    unfold disD
    have e1 : Ar.run .add .i64 p 1 = p + 1 := arAdd (by omega)
    have e4 : ((p.toNat : Nat) : Int) = p := Int.toNat_of_nonneg h0
    simp only [DD.sat, VOk, Nat.zero_add, e1, cmLss, cmLssF, cmLeq, cmLeqF, decide_eq_true_eq, true_and]
    generalize a1 p.toNat = L; generalize a2 p.toNat = H
    repeat' (first | intro _ | apply And.intro)
    all_goals omega
  have hc : AF.fin (dcsA a0 a1 a2 a3 a4) = true ∧ (AF.val (dcsA a0 a1 a2 a3 a4) = true ↔ ¬ ∀ i : Nat, (i : Int) < a0 → VOk a3 a4 (a1 i) (a2 i)) := by
    refine flat_val (E := fun v => v = true ↔ ¬ ∀ i : Nat, (i : Int) < a0 → VOk a3 a4 (a1 i) (a2 i)) (fun _ => rfl) ?_
    show DD.sat _ _ (dcsD0 a0 a1 a2 a3 a4)
    unfold dcsD0
    simp only [DD.sat, Nat.zero_add, cmGeq, cmGeqF, decide_eq_true_eq]
    refine ⟨Nat.le_refl _, shape_ok fun i _ => rfl, h.1, fun hv => ?_, fun hv => ?_⟩
    · have hv : 0 ≤ AF.val (disA a0 a1 a2 a3 a4) := hv
      rcases h.2 with h | h
      · rw [h.1] at hv; exact absurd hv (by decide)
      · exact ⟨fun _ => h.2, fun _ => trivial⟩
    · have hv : AF.val (disA a0 a1 a2 a3 a4) < 0 := hv
      rcases h.2 with h | h
      · exact ⟨fun k => (by cases k), fun k => absurd h.2 k⟩
      · exact absurd hv (Int.not_lt.2 h.1)
  refine flat_val (E := fun v => v = true ↔ ∀ i : Nat, (i : Int) < a0 → VOk a3 a4 (a1 i) (a2 i)) (fun _ => rfl) ?_
  show DD.sat _ _ (dvsD0 a3 a4 a0 a1 a2)
  unfold dvsD0
  simp only [DD.sat, Nat.zero_add, decide_eq_true_eq]
  refine ⟨Nat.le_refl _, shape_ok fun i _ => rfl, hc.1, ?_⟩
  have h2 : AF.val (dcsA a0 (fun i => a1 i) (fun i => a2 i) a3 a4) = true ↔ ¬ ∀ i : Nat, (i : Int) < a0 → VOk a3 a4 (a1 i) (a2 i) := hc.2
  rw [Bool.not_eq_true', ← Bool.not_eq_true, h2, Classical.not_not]
end
theorem rsp_val {L H lo hi : Int} : AF.fin (rspA L H lo hi) = true ∧ (AF.val (rspA L H lo hi) = true ↔ VOk lo hi L H) := by
  refine flat_val (E := fun v => v = true ↔ VOk lo hi L H) (fun _ => rfl) ?_
  show DD.sat _ _ (rspD0 L H lo hi)
  unfold rspD0 VOk
  simp only [DD.sat, cmGeq, cmGeqF, cmLeq, cmLeqF, Bool.false_eq_true, true_iff, false_iff]
  repeat' (first | intro _ | apply And.intro)
  all_goals omega
section
variable {a0 : Bool} {a1 a2 a3 a4 : Int} {a5 : Nat} {a6 a7 : Nat → Int} {a8 a9 a10 a11 a12 : Int}
theorem dct_val (hn : a5 ≤ 10000) : AF.fin (dctA a0 a1 a2 a3 a4 a5 a6 a7) = true ∧ TV a5 (ToolOk a5 a6 a7 a1 a2 a3 a4) (AF.val (dctA a0 a1 a2 a3 a4 a5 a6 a7)) := by
  have h1 := dvs_val (a0 := a5) (a1 := a6) (a2 := a7) (a3 := 0) (a4 := 100000) hn
  have h2 : AF.fin (dvsA (-1000000) 1000000 2 (fun i => List.getD [a1, a3] i 0) fun i => List.getD [a2, a4] i 0) = true ∧ (AF.val (dvsA (-1000000) 1000000 2 (fun i => List.getD [a1, a3] i 0) fun i => List.getD [a2, a4] i 0) = true ↔ VOk (-1000000) 1000000 a1 a2 ∧ VOk (-1000000) 1000000 a3 a4) := by
    have h := dvs_val (a0 := 2) (a1 := fun i => List.getD [a1, a3] i 0) (a2 := fun i => List.getD [a2, a4] i 0) (a3 := -1000000) (a4 := 1000000) (by omega)
    exact ⟨h.1, h.2.trans all2⟩
  have no : ∀ {b : Bool} {Q : Prop}, (b = true ↔ Q) → b = false → ¬ Q := fun h hb hq => by rw [h.2 hq] at hb; cases hb
  refine flat_val (E := TV a5 (ToolOk a5 a6 a7 a1 a2 a3 a4)) (fun _ => rfl) ?_
  show DD.sat _ _ (dctD0 a0 a1 a2 a3 a4 a5 a6 a7)
  unfold dctD0
  simp only [DD.sat, Nat.zero_add, cmGtr, cmGtrF, cmEql, cmEqlF, decide_eq_true_eq, Bool.not_eq_true', Bool.not_eq_false']
  refine ⟨fun h => .inl ⟨by omega, rfl⟩, fun h => ⟨fun h0 => .inr ⟨by omega, .inr ⟨fun q => ?_, rfl⟩⟩, fun h0 => ⟨Nat.le_refl _, shape_ok fun i _ => rfl, h1.1, fun hf => .inr ⟨by omega, .inr ⟨fun q => no h1.2 hf q.2.1, rfl⟩⟩, fun ht => ⟨h2.1, fun hf => .inr ⟨by omega, .inr ⟨fun q => no h2.2 hf q.2.2, rfl⟩⟩, fun ht2 => .inr ⟨by omega, .inl ⟨⟨by omega, h1.2.1 ht, h2.2.1 ht2⟩, rfl⟩⟩⟩⟩⟩⟩
  have := q.1; omega
theorem rto_val (hn : a5 ≤ 10000) : AF.fin (rtoA a0 a1 a2 a3 a4 a5 a6 a7) = true ∧ TV a5 (ToolOk a5 a6 a7 a1 a2 a3 a4) (AF.val (rtoA a0 a1 a2 a3 a4 a5 a6 a7)) := by
  have no : ∀ {b : Bool} {Q : Prop}, (b = true ↔ Q) → b = false → ¬ Q := fun h hb hq => by rw [h.2 hq] at hb; cases hb
  refine AF.val_sat (E := TV a5 (ToolOk a5 a6 a7 a1 a2 a3 a4))
    (Inv := fun b => match b with | .n0 p => a5 ≤ 8 ∧ 0 ≤ p ∧ p ≤ a5 ∧ ∀ i : Nat, (i : Int) < p → VOk 0 100000 (a6 i) (a7 i))
    (fun b => match b with | .n0 p => (a5 - p).toNat) (fun _ => rfl) (fun a hI => ?_) ?_
  · cases a with
    | n0 p =>
      obtain ⟨g, g0, g1, g2⟩ := hI
      show DD.sat _ _ (rtoD a0 a1 a2 a3 a4 a5 a6 a7 (.n0 p))
      unfold rtoD
      have e1 : p < a5 → Ar.run .add .i64 p 1 = p + 1 := fun h => arAdd (by omega)
      simp only [DD.sat, Nat.zero_add, cmLss, cmLssF, cmEql, cmEqlF, decide_eq_true_eq, Bool.not_eq_true', Bool.not_eq_false']
      refine ⟨fun h => ⟨g0, h, by omega, rsp_val.1, fun hf => .inr ⟨g, .inr ⟨fun q => no rsp_val.2 hf (q.2.1 p.toNat (by omega)), rfl⟩⟩, fun ht => ?_⟩, fun h => ⟨fun h0 => .inr ⟨g, .inr ⟨fun q => ?_, rfl⟩⟩, fun h0 => ⟨rsp_val.1, fun hf => .inr ⟨g, .inr ⟨fun q => no rsp_val.2 hf q.2.2.1, rfl⟩⟩, fun ht1 => ⟨rsp_val.1, fun hf => .inr ⟨g, .inr ⟨fun q => no rsp_val.2 hf q.2.2.2, rfl⟩⟩, fun ht2 => .inr ⟨g, .inl ⟨⟨by omega, fun i hi => g2 i (by omega), rsp_val.2.1 ht1, rsp_val.2.1 ht2⟩, rfl⟩⟩⟩⟩⟩⟩
      · rw [e1 h]
        exact ⟨⟨g, by omega, by omega, all_next g0 g2 (rsp_val.2.1 ht)⟩, by omega⟩
      · have := q.1; omega
  · show DD.sat _ _ (rtoD0 a0 a1 a2 a3 a4 a5 a6 a7)
    unfold rtoD0
    simp only [DD.sat, cmGtr, cmGtrF]
    exact ⟨fun h => .inl ⟨by omega, rfl⟩, fun h => ⟨by omega, by omega, by omega, fun i hi => by omega⟩⟩
theorem dun_val (hn : a5 ≤ 10000) : AF.fin (dunA a0 a1 a2 a3 a4 a5 a6 a7 a0 a1 a2 a3 a4 a5 a6 a7) = true ∧ AF.val (dunA a0 a1 a2 a3 a4 a5 a6 a7 a0 a1 a2 a3 a4 a5 a6 a7) = true := by
  refine AF.val_sat (E := fun v => v = true) (Inv := fun b => match b with | .n0 p => 0 ≤ p ∧ p ≤ a5 | .n1 => True)
    (fun b => match b with | .n0 p => (a5 - p).toNat + 1 | .n1 => 0) (fun _ => rfl) (fun a hI => ?_) ?_
  · cases a with
    | n0 p =>
      obtain ⟨g0, g1⟩ := hI
      show DD.sat _ _ (dunD a0 a1 a2 a3 a4 a5 a6 a7 a0 a1 a2 a3 a4 a5 a6 a7 (.n0 p))
      unfold dunD
      have e1 : p < a5 → Ar.run .add .i64 p 1 = p + 1 := fun h => arAdd (by omega)
      simp only [DD.sat, cmLss, cmLssF, cmEql, cmEqlF, decide_eq_true_eq]
      refine ⟨fun h => ⟨g0, h, by omega, g0, h, by omega, fun _ => ⟨fun _ => ?_, fun hx => (hx rfl).elim⟩, fun hx => (hx rfl).elim⟩, fun h => ⟨trivial, by omega⟩⟩
      rw [e1 h]
      exact ⟨⟨by omega, by omega⟩, by omega⟩
    | n1 =>
      show DD.sat _ _ (dunD a0 a1 a2 a3 a4 a5 a6 a7 a0 a1 a2 a3 a4 a5 a6 a7 .n1)
      unfold dunD
      simp only [DD.sat]
      exact ⟨fun h => (by cases h), fun _ => trivial⟩
  · show DD.sat _ _ (dunD0 a0 a1 a2 a3 a4 a5 a6 a7 a0 a1 a2 a3 a4 a5 a6 a7)
    unfold dunD0
    simp only [DD.sat, cmNeq, cmNeqF, cmEql, cmEqlF]
    refine ⟨fun h0 => ⟨fun _ => ⟨fun _ => ⟨fun _ => ⟨fun _ => ⟨fun _ => ⟨fun hx => (hx rfl).elim, fun _ => ⟨by omega, by omega⟩⟩, fun hx => (hx rfl).elim⟩, fun hx => (hx rfl).elim⟩, fun hx => (hx rfl).elim⟩, fun hx => (hx rfl).elim⟩, fun hx => (by rw [h0] at hx; cases hx)⟩,
      fun h0 => ⟨fun hx => (by rw [h0] at hx; cases hx), fun _ => ⟨fun _ => ⟨fun _ => ⟨fun _ => ⟨fun _ => ⟨fun hx => (hx rfl).elim, fun _ => ⟨by omega, by omega⟩⟩, fun hx => (hx rfl).elim⟩, fun hx => (hx rfl).elim⟩, fun hx => (hx rfl).elim⟩, fun hx => (hx rfl).elim⟩⟩⟩
/-- A size, what is shown, by how much it is wrong: all valid. -/
def SeenOk (a8 a9 a10 a11 a12 : Int) : Prop := VOk (-20000000000) 20000000000 a8 a9 ∧ (-20000000000 ≤ a10 ∧ a10 ≤ 20000000000) ∧ VOk (-1000000) 1000000 a11 a12
def LearnE (a1 a2 a3 a4 : Int) (a5 : Nat) (a6 a7 : Nat → Int) (a8 a9 a10 a11 a12 : Int) (r : Int × Int × Int) : Prop := ∃ e, TV a5 (ToolOk a5 a6 a7 a1 a2 a3 a4) e ∧ (e ≠ 0 ∧ r = (0, 0, e) ∨ e = 0 ∧ (¬ SeenOk a8 a9 a10 a11 a12 ∧ r = (0, 0, 2) ∨
      SeenOk a8 a9 a10 a11 a12 ∧ (max a8 (a10 - a12 - a4) > min a9 (a10 - a11 - a3) ∧ r = (0, 0, 9) ∨ max a8 (a10 - a12 - a4) ≤ min a9 (a10 - a11 - a3) ∧ r = (max a8 (a10 - a12 - a4), min a9 (a10 - a11 - a3), 0))))
theorem dle_val (hn : a5 ≤ 10000) : AF.fin (dleA a0 a1 a2 a3 a4 a5 a6 a7 a8 a9 a10 a11 a12) = true ∧ LearnE a1 a2 a3 a4 a5 a6 a7 a8 a9 a10 a11 a12 (AF.val (dleA a0 a1 a2 a3 a4 a5 a6 a7 a8 a9 a10 a11 a12)) := by
  have hC := dct_val (a0 := a0) (a1 := a1) (a2 := a2) (a3 := a3) (a4 := a4) (a5 := a5) (a6 := a6) (a7 := a7) hn
  refine flat_val (E := LearnE a1 a2 a3 a4 a5 a6 a7 a8 a9 a10 a11 a12) (fun _ => rfl) ?_
  show DD.sat _ _ (dleD0 a0 a1 a2 a3 a4 a5 a6 a7 a8 a9 a10 a11 a12)
  unfold dleD0
  simp only [DD.sat, Nat.zero_add, cmNeq, cmNeqF, decide_eq_true_eq, cmLeq, cmLeqF, cmLss, cmLssF, cmGtr, cmGtrF]
  refine ⟨Nat.le_refl _, shape_ok fun i _ => rfl, hC.1, fun h => ⟨_, hC.2, .inl ⟨h, rfl⟩⟩, fun h => ?_⟩
  have q := hC.2
  rw [show AF.val (dctA a0 a1 a2 a3 a4 a5 a6 a7) = 0 from h] at q
  obtain ⟨⟨_, _, _, c⟩, _⟩ := q.ok
  unfold VOk at c
  have bad : ¬ SeenOk a8 a9 a10 a11 a12 → LearnE a1 a2 a3 a4 a5 a6 a7 a8 a9 a10 a11 a12 (0, 0, 2) := fun hb => ⟨0, q, .inr ⟨rfl, .inl ⟨hb, rfl⟩⟩⟩
  refine ⟨fun b1 => ⟨fun b2 => ⟨fun b3 => ⟨fun b4 => bad fun s => ?_, fun b4 => ⟨fun b5 => bad fun s => ?_, fun b5 => ⟨fun b6 => ⟨fun b7 => ⟨fun b8 => ?_, fun b8 => bad fun s => ?_⟩, fun b7 => bad fun s => ?_⟩, fun b6 => bad fun s => ?_⟩⟩⟩, fun b3 => bad fun s => ?_⟩, fun b2 => bad fun s => ?_⟩, fun b1 => bad fun s => ?_⟩
  case refine_3 =>
    rw [arSub (a := a10) (b := a12) (by omega), arSub (b := a4) (by omega), arSub (a := a10) (b := a11) (by omega), arSub (b := a3) (by omega), arMx, arMn]
    have s : SeenOk a8 a9 a10 a11 a12 := ⟨⟨b1, b2, b3⟩, ⟨by omega, by omega⟩, b6, b7, b8⟩
    exact ⟨fun h => ⟨0, q, .inr ⟨rfl, .inr ⟨s, .inl ⟨h, rfl⟩⟩⟩⟩, fun h => ⟨0, q, .inr ⟨rfl, .inr ⟨s, .inr ⟨h, rfl⟩⟩⟩⟩⟩
  all_goals
    obtain ⟨⟨s1, s2, s3⟩, ⟨s4, s5⟩, s6, s7, s8⟩ := s
    omega
end
end Go.Proofs.Ythagjhadjpangaa.Cx

/- (acme/die.shop).targets as an automaton. Made by tools/cxauto.py. -/
namespace Go.Proofs.Ythagjhadjpangaa.Cx
set_option linter.unusedVariables false
set_option linter.unusedSimpArgs false
set_option maxRecDepth 100000
open Go Go.Proofs Go.RowKit
noncomputable abbrev dtgCode : Code := funcCode Try.f89
abbrev dtgN := Empty
abbrev dtgR := Int × Int
noncomputable def dtgD0 (a0 : Bool) (a1 a2 a3 a4 : Int) (a5 : Nat) (a6 a7 : Nat → Int) (a8 : Nat) (a9 a10 a11 a12 : Nat → Int) (a13 a14 a15 a16 a17 : Int) : DD (Lf dtgN dtgR) :=
 let z0 := Ar.run .sub .i64 a14 a1
 let z1 := Ar.run .sub .i64 a15 a2
 .ask (a0)
   (.leaf (.done (Ar.run .sub .i64 (Ar.run .sub .i64 z0 (Ar.run .sub .i64 0 a17)) a3, Ar.run .sub .i64 (Ar.run .sub .i64 z1 (Ar.run .sub .i64 0 a16)) a4) []))
   (.leaf (.done (Ar.run .sub .i64 (Ar.run .sub .i64 z0 a16) a3, Ar.run .sub .i64 (Ar.run .sub .i64 z1 a17) a4) []))

noncomputable def dtgD (a0 : Bool) (a1 a2 a3 a4 : Int) (a5 : Nat) (a6 a7 : Nat → Int) (a8 : Nat) (a9 a10 a11 a12 : Nat → Int) (a13 a14 a15 a16 a17 : Int) : dtgN → DD (Lf dtgN dtgR) := fun a => nomatch a
noncomputable def dtgA (a0 : Bool) (a1 a2 a3 a4 : Int) (a5 : Nat) (a6 a7 : Nat → Int) (a8 : Nat) (a9 a10 a11 a12 : Nat → Int) (a13 a14 a15 a16 a17 : Int) : AF dtgN dtgR where
  code := dtgCode
  base := 2
  nt := 42
  m := 400
  un := []
  W := []
  h0 := [(0, ⟨.arg a5 2 (fun i => [.int .i64 (.x (a6 i)), .int .i64 (.x (a7 i))]) (fun _ => ⟨rfl, rfl⟩), 2, true, none⟩), (1, ⟨.arg a8 4 (fun i => [.int .i64 (.x (a9 i)), .int .i64 (.x (a10 i)), .int .i64 (.x (a11 i)), .int .i64 (.x (a12 i))]) (fun _ => ⟨rfl, rfl⟩), 4, true, none⟩)]
  args := [.agg [.bool (.x a0), .int .i64 (.x a1), .int .i64 (.x a2), .int .i64 (.x a3), .int .i64 (.x a4), .sla 0 2 0 a5, .sla 1 4 0 a8, .int .i64 (.x a13)], .agg [.int .i64 (.x a14), .int .i64 (.x a15)], .agg [.int .i64 (.x a16), .int .i64 (.x a17)]]
  res := (Try.f89).results.toList
  path := fun a => nomatch a
  pd := fun a => nomatch a
  D0 := dtgD0 a0 a1 a2 a3 a4 a5 a6 a7 a8 a9 a10 a11 a12 a13 a14 a15 a16 a17
  D := dtgD a0 a1 a2 a3 a4 a5 a6 a7 a8 a9 a10 a11 a12 a13 a14 a15 a16 a17
  rc := (fun v => .agg [.int .i64 (.x v.1), .int .i64 (.x v.2)])
  rh := (fun v => [])
  rn := (fun v => 2)
  rx := (fun v => [])
  rgo := (fun _ => none)
theorem dtgstart (a0 : Bool) (a1 a2 a3 a4 : Int) (a5 : Nat) (a6 a7 : Nat → Int) (a8 : Nat) (a9 a10 a11 a12 : Nat → Int) (a13 a14 a15 a16 a17 : Int) : AF.edgeOk (dtgA a0 a1 a2 a3 a4 a5 a6 a7 a8 a9 a10 a11 a12 a13 a14 a15 a16 a17) (ctxOf Try.prog memo0) (dtgD0 a0 a1 a2 a3 a4 a5 a6 a7 a8 a9 a10 a11 a12 a13 a14 a15 a16 a17) (AF.run0 (dtgA a0 a1 a2 a3 a4 a5 a6 a7 a8 a9 a10 a11 a12 a13 a14 a15 a16 a17) (ctxOf Try.prog memo0)) := by unfold AF.edgeOk; kernel_rfl
theorem dtgok (a0 : Bool) (a1 a2 a3 a4 : Int) (a5 : Nat) (a6 a7 : Nat → Int) (a8 : Nat) (a9 a10 a11 a12 : Nat → Int) (a13 a14 a15 a16 a17 : Int) : (dtgA a0 a1 a2 a3 a4 a5 a6 a7 a8 a9 a10 a11 a12 a13 a14 a15 a16 a17).Ok Try.prog (ctxOf Try.prog memo0) where
  regs := by kernel_rfl
  h0 := by kernel_rfl
  start := dtgstart a0 a1 a2 a3 a4 a5 a6 a7 a8 a9 a10 a11 a12 a13 a14 a15 a16 a17
  node := fun a _ => nomatch a
  pd := fun a => nomatch a
  le := fun a => nomatch a
  rd := fun v => ⟨⟨fa_nil, fa_nil, fa_nil, rfl⟩, rfl⟩
  wb := rfl
theorem dtghR {ρ : Env} (a0 : Bool) (a1 a2 a3 a4 : Int) (a5 : Nat) (a6 a7 : Nat → Int) (a8 : Nat) (a9 a10 a11 a12 : Nat → Int) (a13 a14 a15 a16 a17 : Int) (hM : MemoOk Try.prog (ctxOf Try.prog memo0) ρ) : ∀ X a q n D, FxOk ρ X → X.base = (dtgA a0 a1 a2 a3 a4 a5 a6 a7 a8 a9 a10 a11 a12 a13 a14 a15 a16 a17).base → X.nt = (dtgA a0 a1 a2 a3 a4 a5 a6 a7 a8 a9 a10 a11 a12 a13 a14 a15 a16 a17).nt → X.W = (dtgA a0 a1 a2 a3 a4 a5 a6 a7 a8 a9 a10 a11 a12 a13 a14 a15 a16 a17).W → (dtgA a0 a1 a2 a3 a4 a5 a6 a7 a8 a9 a10 a11 a12 a13 a14 a15 a16 a17).rgo a = some q → q n = some D → (dtgA a0 a1 a2 a3 a4 a5 a6 a7 a8 a9 a10 a11 a12 a13 a14 a15 a16 a17).RangeOk Try.prog ρ X a D := AF.noRange rfl
theorem dtgctr {ρ : Env} (a0 : Bool) (a1 a2 a3 a4 : Int) (a5 : Nat) (a6 a7 : Nat → Int) (a8 : Nat) (a9 a10 a11 a12 : Nat → Int) (a13 a14 a15 a16 a17 : Int) {n : Nat} {v : dtgR} (hM : MemoOk Try.prog (ctxOf Try.prog memo0) ρ) (hv : (dtgA a0 a1 a2 a3 a4 a5 a6 a7 a8 a9 a10 a11 a12 a13 a14 a15 a16 a17).run n = some v) :
    Ctr Try.prog ρ 89 (dtgA a0 a1 a2 a3 a4 a5 a6 a7 a8 a9 a10 a11 a12 a13 a14 a15 a16 a17).args (dtgA a0 a1 a2 a3 a4 a5 a6 a7 a8 a9 a10 a11 a12 a13 a14 a15 a16 a17).H0 (dtgA a0 a1 a2 a3 a4 a5 a6 a7 a8 a9 a10 a11 a12 a13 a14 a15 a16 a17).base (dtgA a0 a1 a2 a3 a4 a5 a6 a7 a8 a9 a10 a11 a12 a13 a14 a15 a16 a17).W ((dtgA a0 a1 a2 a3 a4 a5 a6 a7 a8 a9 a10 a11 a12 a13 a14 a15 a16 a17).rc v) (putH (dtgA a0 a1 a2 a3 a4 a5 a6 a7 a8 a9 a10 a11 a12 a13 a14 a15 a16 a17).H0 ((dtgA a0 a1 a2 a3 a4 a5 a6 a7 a8 a9 a10 a11 a12 a13 a14 a15 a16 a17).rh v ++ (dtgA a0 a1 a2 a3 a4 a5 a6 a7 a8 a9 a10 a11 a12 a13 a14 a15 a16 a17).rx v)) ((dtgA a0 a1 a2 a3 a4 a5 a6 a7 a8 a9 a10 a11 a12 a13 a14 a15 a16 a17).rn v) :=
  AF.ctr try_ok hM (dtgok a0 a1 a2 a3 a4 a5 a6 a7 a8 a9 a10 a11 a12 a13 a14 a15 a16 a17) (fn := Try.f89) Try.func89 rfl rfl (Nat.le_of_ble_eq_true rfl) rfl (dtghR a0 a1 a2 a3 a4 a5 a6 a7 a8 a9 a10 a11 a12 a13 a14 a15 a16 a17 hM) hv
theorem dtgmem {ρ : Env} : MemoOk Try.prog (ctxOf Try.prog memo0) ρ := memo0_ok
abbrev dtgP : List AQ := [.agg [.bool, .int .i64, .int .i64, .int .i64, .int .i64, .rows [some .i64, some .i64], .rows [some .i64, some .i64, some .i64, some .i64], .int .i64], .agg [.int .i64, .int .i64], .agg [.int .i64, .int .i64]]
noncomputable def dtgF (v : AW) : AF dtgN dtgR := dtgA (v.b.getD 0 false) (v.i.getD 0 0) (v.i.getD 1 0) (v.i.getD 2 0) (v.i.getD 3 0) (v.t.getD 0 .none).n ((v.t.getD 0 .none).c 0) ((v.t.getD 0 .none).c 1) (v.t.getD 1 .none).n ((v.t.getD 1 .none).c 0) ((v.t.getD 1 .none).c 1) ((v.t.getD 1 .none).c 2) ((v.t.getD 1 .none).c 3) (v.i.getD 4 0) (v.i.getD 5 0) (v.i.getD 6 0) (v.i.getD 7 0) (v.i.getD 8 0)
noncomputable def dtgW : dtgR → CV := fun v => .agg [.int .i64 (.x v.1), .int .i64 (.x v.2)]
noncomputable def dtgH : dtgR → List (Nat × Blk) := fun v => []
instance : Inhabited dtgR := ⟨(0, 0)⟩
theorem dtgknown {ρ : Env} (hM : MemoOk Try.prog (ctxOf Try.prog memo0) ρ) : KnownS Try.prog ρ 89 dtgP dtgF dtgW dtgH 2 where
  fn := ⟨Try.f89, Try.func89, rfl⟩
  le := Nat.le_of_ble_eq_true rfl
  full := fun r => rfl
  rg := fun r => rfl
  hg := fun r => fa_nil
  ctr := fun v n r h => dtgctr (v.b.getD 0 false) (v.i.getD 0 0) (v.i.getD 1 0) (v.i.getD 2 0) (v.i.getD 3 0) (v.t.getD 0 .none).n ((v.t.getD 0 .none).c 0) ((v.t.getD 0 .none).c 1) (v.t.getD 1 .none).n ((v.t.getD 1 .none).c 0) ((v.t.getD 1 .none).c 1) ((v.t.getD 1 .none).c 2) ((v.t.getD 1 .none).c 3) (v.i.getD 4 0) (v.i.getD 5 0) (v.i.getD 6 0) (v.i.getD 7 0) (v.i.getD 8 0) hM h
end Go.Proofs.Ythagjhadjpangaa.Cx

/- (acme/die.shop).worn as an automaton. Made by tools/cxauto.py. -/
namespace Go.Proofs.Ythagjhadjpangaa.Cx
set_option linter.unusedVariables false
set_option linter.unusedSimpArgs false
set_option maxRecDepth 100000
open Go Go.Proofs Go.RowKit
noncomputable abbrev dwoCode : Code := funcCode Try.f65
abbrev dwoN := Empty
abbrev dwoR := Int × Int
noncomputable def dwoD0 (a0 : Bool) (a1 a2 a3 a4 : Int) (a5 : Nat) (a6 a7 : Nat → Int) (a8 : Nat) (a9 a10 a11 a12 : Nat → Int) (a13 a14 a15 a16 a17 : Int) : DD (Lf dwoN dwoR) :=
 .must (decide (0 ≤ a16))
   (.must (decide (a16 < (↑a5 : Int)))
   (.must (decide (0 + Int.toNat a16 < a5))
   (.leaf (.done (Ar.run .add .i64 a14 (Ar.run .mul .i64 a17 (a6 (0 + Int.toNat a16))), Ar.run .add .i64 a15 (Ar.run .mul .i64 a17 (a7 (0 + Int.toNat a16)))) []))))

noncomputable def dwoD (a0 : Bool) (a1 a2 a3 a4 : Int) (a5 : Nat) (a6 a7 : Nat → Int) (a8 : Nat) (a9 a10 a11 a12 : Nat → Int) (a13 a14 a15 a16 a17 : Int) : dwoN → DD (Lf dwoN dwoR) := fun a => nomatch a
noncomputable def dwoA (a0 : Bool) (a1 a2 a3 a4 : Int) (a5 : Nat) (a6 a7 : Nat → Int) (a8 : Nat) (a9 a10 a11 a12 : Nat → Int) (a13 a14 a15 a16 a17 : Int) : AF dwoN dwoR where
  code := dwoCode
  base := 2
  nt := 31
  m := 400
  un := []
  W := []
  h0 := [(0, ⟨.arg a5 2 (fun i => [.int .i64 (.x (a6 i)), .int .i64 (.x (a7 i))]) (fun _ => ⟨rfl, rfl⟩), 2, true, none⟩), (1, ⟨.arg a8 4 (fun i => [.int .i64 (.x (a9 i)), .int .i64 (.x (a10 i)), .int .i64 (.x (a11 i)), .int .i64 (.x (a12 i))]) (fun _ => ⟨rfl, rfl⟩), 4, true, none⟩)]
  args := [.agg [.bool (.x a0), .int .i64 (.x a1), .int .i64 (.x a2), .int .i64 (.x a3), .int .i64 (.x a4), .sla 0 2 0 a5, .sla 1 4 0 a8, .int .i64 (.x a13)], .agg [.int .i64 (.x a14), .int .i64 (.x a15)], .int .i64 (.x a16), .int .i64 (.x a17)]
  res := (Try.f65).results.toList
  path := fun a => nomatch a
  pd := fun a => nomatch a
  D0 := dwoD0 a0 a1 a2 a3 a4 a5 a6 a7 a8 a9 a10 a11 a12 a13 a14 a15 a16 a17
  D := dwoD a0 a1 a2 a3 a4 a5 a6 a7 a8 a9 a10 a11 a12 a13 a14 a15 a16 a17
  rc := (fun v => .agg [.int .i64 (.x v.1), .int .i64 (.x v.2)])
  rh := (fun v => [])
  rn := (fun v => 2)
  rx := (fun v => [])
  rgo := (fun _ => none)
theorem dwostart (a0 : Bool) (a1 a2 a3 a4 : Int) (a5 : Nat) (a6 a7 : Nat → Int) (a8 : Nat) (a9 a10 a11 a12 : Nat → Int) (a13 a14 a15 a16 a17 : Int) : AF.edgeOk (dwoA a0 a1 a2 a3 a4 a5 a6 a7 a8 a9 a10 a11 a12 a13 a14 a15 a16 a17) (ctxOf Try.prog memo0) (dwoD0 a0 a1 a2 a3 a4 a5 a6 a7 a8 a9 a10 a11 a12 a13 a14 a15 a16 a17) (AF.run0 (dwoA a0 a1 a2 a3 a4 a5 a6 a7 a8 a9 a10 a11 a12 a13 a14 a15 a16 a17) (ctxOf Try.prog memo0)) := by unfold AF.edgeOk; kernel_rfl
theorem dwook (a0 : Bool) (a1 a2 a3 a4 : Int) (a5 : Nat) (a6 a7 : Nat → Int) (a8 : Nat) (a9 a10 a11 a12 : Nat → Int) (a13 a14 a15 a16 a17 : Int) : (dwoA a0 a1 a2 a3 a4 a5 a6 a7 a8 a9 a10 a11 a12 a13 a14 a15 a16 a17).Ok Try.prog (ctxOf Try.prog memo0) where
  regs := by kernel_rfl
  h0 := by kernel_rfl
  start := dwostart a0 a1 a2 a3 a4 a5 a6 a7 a8 a9 a10 a11 a12 a13 a14 a15 a16 a17
  node := fun a _ => nomatch a
  pd := fun a => nomatch a
  le := fun a => nomatch a
  rd := fun v => ⟨⟨fa_nil, fa_nil, fa_nil, rfl⟩, rfl⟩
  wb := rfl
theorem dwohR {ρ : Env} (a0 : Bool) (a1 a2 a3 a4 : Int) (a5 : Nat) (a6 a7 : Nat → Int) (a8 : Nat) (a9 a10 a11 a12 : Nat → Int) (a13 a14 a15 a16 a17 : Int) (hM : MemoOk Try.prog (ctxOf Try.prog memo0) ρ) : ∀ X a q n D, FxOk ρ X → X.base = (dwoA a0 a1 a2 a3 a4 a5 a6 a7 a8 a9 a10 a11 a12 a13 a14 a15 a16 a17).base → X.nt = (dwoA a0 a1 a2 a3 a4 a5 a6 a7 a8 a9 a10 a11 a12 a13 a14 a15 a16 a17).nt → X.W = (dwoA a0 a1 a2 a3 a4 a5 a6 a7 a8 a9 a10 a11 a12 a13 a14 a15 a16 a17).W → (dwoA a0 a1 a2 a3 a4 a5 a6 a7 a8 a9 a10 a11 a12 a13 a14 a15 a16 a17).rgo a = some q → q n = some D → (dwoA a0 a1 a2 a3 a4 a5 a6 a7 a8 a9 a10 a11 a12 a13 a14 a15 a16 a17).RangeOk Try.prog ρ X a D := AF.noRange rfl
theorem dwoctr {ρ : Env} (a0 : Bool) (a1 a2 a3 a4 : Int) (a5 : Nat) (a6 a7 : Nat → Int) (a8 : Nat) (a9 a10 a11 a12 : Nat → Int) (a13 a14 a15 a16 a17 : Int) {n : Nat} {v : dwoR} (hM : MemoOk Try.prog (ctxOf Try.prog memo0) ρ) (hv : (dwoA a0 a1 a2 a3 a4 a5 a6 a7 a8 a9 a10 a11 a12 a13 a14 a15 a16 a17).run n = some v) :
    Ctr Try.prog ρ 65 (dwoA a0 a1 a2 a3 a4 a5 a6 a7 a8 a9 a10 a11 a12 a13 a14 a15 a16 a17).args (dwoA a0 a1 a2 a3 a4 a5 a6 a7 a8 a9 a10 a11 a12 a13 a14 a15 a16 a17).H0 (dwoA a0 a1 a2 a3 a4 a5 a6 a7 a8 a9 a10 a11 a12 a13 a14 a15 a16 a17).base (dwoA a0 a1 a2 a3 a4 a5 a6 a7 a8 a9 a10 a11 a12 a13 a14 a15 a16 a17).W ((dwoA a0 a1 a2 a3 a4 a5 a6 a7 a8 a9 a10 a11 a12 a13 a14 a15 a16 a17).rc v) (putH (dwoA a0 a1 a2 a3 a4 a5 a6 a7 a8 a9 a10 a11 a12 a13 a14 a15 a16 a17).H0 ((dwoA a0 a1 a2 a3 a4 a5 a6 a7 a8 a9 a10 a11 a12 a13 a14 a15 a16 a17).rh v ++ (dwoA a0 a1 a2 a3 a4 a5 a6 a7 a8 a9 a10 a11 a12 a13 a14 a15 a16 a17).rx v)) ((dwoA a0 a1 a2 a3 a4 a5 a6 a7 a8 a9 a10 a11 a12 a13 a14 a15 a16 a17).rn v) :=
  AF.ctr try_ok hM (dwook a0 a1 a2 a3 a4 a5 a6 a7 a8 a9 a10 a11 a12 a13 a14 a15 a16 a17) (fn := Try.f65) Try.func65 rfl rfl (Nat.le_of_ble_eq_true rfl) rfl (dwohR a0 a1 a2 a3 a4 a5 a6 a7 a8 a9 a10 a11 a12 a13 a14 a15 a16 a17 hM) hv
theorem dwomem {ρ : Env} : MemoOk Try.prog (ctxOf Try.prog memo0) ρ := memo0_ok
abbrev dwoP : List AQ := [.agg [.bool, .int .i64, .int .i64, .int .i64, .int .i64, .rows [some .i64, some .i64], .rows [some .i64, some .i64, some .i64, some .i64], .int .i64], .agg [.int .i64, .int .i64], .int .i64, .int .i64]
noncomputable def dwoF (v : AW) : AF dwoN dwoR := dwoA (v.b.getD 0 false) (v.i.getD 0 0) (v.i.getD 1 0) (v.i.getD 2 0) (v.i.getD 3 0) (v.t.getD 0 .none).n ((v.t.getD 0 .none).c 0) ((v.t.getD 0 .none).c 1) (v.t.getD 1 .none).n ((v.t.getD 1 .none).c 0) ((v.t.getD 1 .none).c 1) ((v.t.getD 1 .none).c 2) ((v.t.getD 1 .none).c 3) (v.i.getD 4 0) (v.i.getD 5 0) (v.i.getD 6 0) (v.i.getD 7 0) (v.i.getD 8 0)
noncomputable def dwoW : dwoR → CV := fun v => .agg [.int .i64 (.x v.1), .int .i64 (.x v.2)]
noncomputable def dwoH : dwoR → List (Nat × Blk) := fun v => []
instance : Inhabited dwoR := ⟨(0, 0)⟩
theorem dwoknown {ρ : Env} (hM : MemoOk Try.prog (ctxOf Try.prog memo0) ρ) : KnownS Try.prog ρ 65 dwoP dwoF dwoW dwoH 2 where
  fn := ⟨Try.f65, Try.func65, rfl⟩
  le := Nat.le_of_ble_eq_true rfl
  full := fun r => rfl
  rg := fun r => rfl
  hg := fun r => fa_nil
  ctr := fun v n r h => dwoctr (v.b.getD 0 false) (v.i.getD 0 0) (v.i.getD 1 0) (v.i.getD 2 0) (v.i.getD 3 0) (v.t.getD 0 .none).n ((v.t.getD 0 .none).c 0) ((v.t.getD 0 .none).c 1) (v.t.getD 1 .none).n ((v.t.getD 1 .none).c 0) ((v.t.getD 1 .none).c 1) ((v.t.getD 1 .none).c 2) ((v.t.getD 1 .none).c 3) (v.i.getD 4 0) (v.i.getD 5 0) (v.i.getD 6 0) (v.i.getD 7 0) (v.i.getD 8 0) hM h
end Go.Proofs.Ythagjhadjpangaa.Cx

/- sort.Search as an automaton. Made by tools/cxauto.py. -/
namespace Go.Proofs.Ythagjhadjpangaa.Cx
set_option linter.unusedVariables false
set_option linter.unusedSimpArgs false
set_option maxRecDepth 100000
open Go Go.Proofs Go.RowKit
noncomputable abbrev dseCode : Code := funcCode Try.f91
inductive dseN where
  | n0 (p0 p1 : Int)
abbrev dseR := Int
noncomputable def dseD0 (a0 a1 a2 : Int) (a3 : Bool) (a4 a5 a6 a7 : Int) (a8 : Nat) (a9 a10 : Nat → Int) (a11 : Nat) (a12 a13 a14 a15 : Nat → Int) (a16 a17 a18 a19 a20 a21 a22 a23 a24 : Int) : DD (Lf dseN dseR) :=
 .leaf (.next (.n0 0 a0) [])

noncomputable def dseD (a0 a1 a2 : Int) (a3 : Bool) (a4 a5 a6 a7 : Int) (a8 : Nat) (a9 a10 : Nat → Int) (a11 : Nat) (a12 a13 a14 a15 : Nat → Int) (a16 a17 a18 a19 a20 a21 a22 a23 a24 : Int) : dseN → DD (Lf dseN dseR)
 | .n0 p0 p1 =>
 let z0 := decide (0 + a8 ≤ a8)
 let z1 := fun i => [CV.int IntKind.i64 (IE.x (a9 (0 + i))), CV.int IntKind.i64 (IE.x (a10 (0 + i)))]
 let z2 := ShapeOk [some IntKind.i64, some IntKind.i64] (tabOf a8 z1) z1
 let z3 := decide (0 + a11 ≤ a11)
 let z4 := fun i => [CV.int IntKind.i64 (IE.x (a12 (0 + i))), CV.int IntKind.i64 (IE.x (a13 (0 + i))), CV.int IntKind.i64 (IE.x (a14 (0 + i))), CV.int IntKind.i64 (IE.x (a15 (0 + i)))]
 let z5 := ShapeOk [some IntKind.i64, some IntKind.i64, some IntKind.i64, some IntKind.i64] (tabOf a11 z4) z4
 let z6 := fun i => a9 (0 + i)
 let z7 := fun i => a10 (0 + i)
 let z8 := fun i => a12 (0 + i)
 let z9 := fun i => a13 (0 + i)
 let z10 := fun i => a14 (0 + i)
 let z11 := fun i => a15 (0 + i)
 let z12 := dtgA a3 a4 a5 a6 a7 a8 z6 z7 a11 z8 z9 z10 z11 a16 a19 a20 a23 a24
 let z13 := Ar.run .conv .i64 (Ar.run .shr .u64 (Ar.run .conv .u64 (Ar.run .add .i64 p0 p1) 0) 1) 0
 let z14 := dwoA a3 a4 a5 a6 a7 a8 z6 z7 a11 z8 z9 z10 z11 a16 a23 a24 a18 z13
 let z15 := AF.val z14
 let z16 := dtgA a3 a4 a5 a6 a7 a8 z6 z7 a11 z8 z9 z10 z11 a16 a19 a20 (Prod.fst z15) (Prod.snd z15)
 let z17 := AF.val z12
 let z18 := AF.val z16
 .ask (Cm.run .lss p0 p1)
   (.must z0
   (.must z2
   (.must z3
   (.must z5
   (.must (AF.fin z12)
   (.must z0
   (.must z2
   (.must z3
   (.must z5
   (.must (AF.fin z14)
   (.must z0
   (.must z2
   (.must z3
   (.must z5
   (.must (AF.fin z16)
   (.ask (Cm.run .gtr (Ar.run .mx .i64 (Ar.run .mx .i64 a1 (Prod.fst z17)) (Prod.fst z18)) (Ar.run .mn .i64 (Ar.run .mn .i64 a2 (Prod.snd z17)) (Prod.snd z18)))
   (.leaf (.next (.n0 p0 z13) []))
   (.leaf (.next (.n0 (Ar.run .add .i64 z13 1) p1) []))))))))))))))))))
   (.leaf (.done p0 []))

noncomputable def dseA (a0 a1 a2 : Int) (a3 : Bool) (a4 a5 a6 a7 : Int) (a8 : Nat) (a9 a10 : Nat → Int) (a11 : Nat) (a12 a13 a14 a15 : Nat → Int) (a16 a17 a18 a19 a20 a21 a22 a23 a24 : Int) : AF dseN dseR where
  code := dseCode
  base := 7
  nt := 26
  m := 400
  un := []
  W := []
  h0 := [(0, ⟨.arg 1 1 (fun i => [.fn (.func 88) [] [.ptr (some (1, 0)), .ptr (some (2, 0)), .ptr (some (5, 0)), .ptr (some (6, 0))]]) (fun _ => ⟨rfl, rfl⟩), 1, true, none⟩), (1, ⟨.arg 1 2 (fun i => [.int .i64 (.x a1), .int .i64 (.x a2)]) (fun _ => ⟨rfl, rfl⟩), 2, true, none⟩), (2, ⟨.arg 1 8 (fun i => [.bool (.x a3), .int .i64 (.x a4), .int .i64 (.x a5), .int .i64 (.x a6), .int .i64 (.x a7), .sla 3 2 0 a8, .sla 4 4 0 a11, .int .i64 (.x a16)]) (fun _ => ⟨rfl, rfl⟩), 8, true, none⟩), (3, ⟨.arg a8 2 (fun i => [.int .i64 (.x (a9 i)), .int .i64 (.x (a10 i))]) (fun _ => ⟨rfl, rfl⟩), 2, true, none⟩), (4, ⟨.arg a11 4 (fun i => [.int .i64 (.x (a12 i)), .int .i64 (.x (a13 i)), .int .i64 (.x (a14 i)), .int .i64 (.x (a15 i))]) (fun _ => ⟨rfl, rfl⟩), 4, true, none⟩), (5, ⟨.arg 1 6 (fun i => [.int .i64 (.x a17), .int .i64 (.x a18), .int .i64 (.x a19), .int .i64 (.x a20), .int .i64 (.x a21), .int .i64 (.x a22)]) (fun _ => ⟨rfl, rfl⟩), 6, true, none⟩), (6, ⟨.arg 1 2 (fun i => [.int .i64 (.x a23), .int .i64 (.x a24)]) (fun _ => ⟨rfl, rfl⟩), 2, true, none⟩)]
  args := [.int .i64 (.x a0), .fn (.func 90) [] [.ptr (some (0, 0))]]
  res := (Try.f91).results.toList
  path := fun a => match a with
   | .n0 p0 p1 => [1, 1, 0, 0]
  pd := fun a => match a with
   | .n0 p0 p1 => ⟨[(1, .fn (.func 90) [] [.ptr (some (0, 0))]), (5, .int .i64 (.x p0)), (6, .int .i64 (.x p1))], [], 7, []⟩
  D0 := dseD0 a0 a1 a2 a3 a4 a5 a6 a7 a8 a9 a10 a11 a12 a13 a14 a15 a16 a17 a18 a19 a20 a21 a22 a23 a24
  D := dseD a0 a1 a2 a3 a4 a5 a6 a7 a8 a9 a10 a11 a12 a13 a14 a15 a16 a17 a18 a19 a20 a21 a22 a23 a24
  rc := (fun v => .int .i64 (.x v))
  rh := (fun v => [])
  rn := (fun v => 7)
  rx := (fun v => [])
  rgo := (fun _ => none)
theorem dsestart (a0 a1 a2 : Int) (a3 : Bool) (a4 a5 a6 a7 : Int) (a8 : Nat) (a9 a10 : Nat → Int) (a11 : Nat) (a12 a13 a14 a15 : Nat → Int) (a16 a17 a18 a19 a20 a21 a22 a23 a24 : Int) : AF.edgeOk (dseA a0 a1 a2 a3 a4 a5 a6 a7 a8 a9 a10 a11 a12 a13 a14 a15 a16 a17 a18 a19 a20 a21 a22 a23 a24) (ctxOf Try.prog memo0) (dseD0 a0 a1 a2 a3 a4 a5 a6 a7 a8 a9 a10 a11 a12 a13 a14 a15 a16 a17 a18 a19 a20 a21 a22 a23 a24) (AF.run0 (dseA a0 a1 a2 a3 a4 a5 a6 a7 a8 a9 a10 a11 a12 a13 a14 a15 a16 a17 a18 a19 a20 a21 a22 a23 a24) (ctxOf Try.prog (memoS 65 dwoP dwoF dwoW dwoH 2 (memoS 89 dtgP dtgF dtgW dtgH 2 memo0)))) := by unfold AF.edgeOk; kernel_rfl
theorem dsenode0 (a0 a1 a2 : Int) (a3 : Bool) (a4 a5 a6 a7 : Int) (a8 : Nat) (a9 a10 : Nat → Int) (a11 : Nat) (a12 a13 a14 a15 : Nat → Int) (a16 a17 a18 a19 a20 a21 a22 a23 a24 p0 p1 : Int) : AF.edgeOk (dseA a0 a1 a2 a3 a4 a5 a6 a7 a8 a9 a10 a11 a12 a13 a14 a15 a16 a17 a18 a19 a20 a21 a22 a23 a24) (ctxOf Try.prog memo0) (dseD a0 a1 a2 a3 a4 a5 a6 a7 a8 a9 a10 a11 a12 a13 a14 a15 a16 a17 a18 a19 a20 a21 a22 a23 a24 (.n0 p0 p1)) (AF.runN (dseA a0 a1 a2 a3 a4 a5 a6 a7 a8 a9 a10 a11 a12 a13 a14 a15 a16 a17 a18 a19 a20 a21 a22 a23 a24) (ctxOf Try.prog (memoS 65 dwoP dwoF dwoW dwoH 2 (memoS 89 dtgP dtgF dtgW dtgH 2 memo0))) (.n0 p0 p1)) := by unfold AF.edgeOk; kernel_rfl
theorem dseok (a0 a1 a2 : Int) (a3 : Bool) (a4 a5 a6 a7 : Int) (a8 : Nat) (a9 a10 : Nat → Int) (a11 : Nat) (a12 a13 a14 a15 : Nat → Int) (a16 a17 a18 a19 a20 a21 a22 a23 a24 : Int) : (dseA a0 a1 a2 a3 a4 a5 a6 a7 a8 a9 a10 a11 a12 a13 a14 a15 a16 a17 a18 a19 a20 a21 a22 a23 a24).Ok Try.prog (ctxOf Try.prog (memoS 65 dwoP dwoF dwoW dwoH 2 (memoS 89 dtgP dtgF dtgW dtgH 2 memo0))) where
  regs := by kernel_rfl
  h0 := by kernel_rfl
  start := dsestart a0 a1 a2 a3 a4 a5 a6 a7 a8 a9 a10 a11 a12 a13 a14 a15 a16 a17 a18 a19 a20 a21 a22 a23 a24
  node := fun a _ => match a with
   | .n0 p0 p1 => dsenode0 a0 a1 a2 a3 a4 a5 a6 a7 a8 a9 a10 a11 a12 a13 a14 a15 a16 a17 a18 a19 a20 a21 a22 a23 a24 p0 p1
  pd := fun a => match a with
   | .n0 p0 p1 => ⟨(fa_cons rfl (fa_cons rfl (fa_cons rfl fa_nil))), fa_nil, fa_nil, rfl⟩
  le := fun a => match a with
   | .n0 p0 p1 => Nat.le_of_ble_eq_true rfl
  rd := fun v => ⟨⟨fa_nil, fa_nil, fa_nil, rfl⟩, rfl⟩
  wb := rfl
theorem dsehR {ρ : Env} (a0 a1 a2 : Int) (a3 : Bool) (a4 a5 a6 a7 : Int) (a8 : Nat) (a9 a10 : Nat → Int) (a11 : Nat) (a12 a13 a14 a15 : Nat → Int) (a16 a17 a18 a19 a20 a21 a22 a23 a24 : Int) (hM : MemoOk Try.prog (ctxOf Try.prog (memoS 65 dwoP dwoF dwoW dwoH 2 (memoS 89 dtgP dtgF dtgW dtgH 2 memo0))) ρ) : ∀ X a q n D, FxOk ρ X → X.base = (dseA a0 a1 a2 a3 a4 a5 a6 a7 a8 a9 a10 a11 a12 a13 a14 a15 a16 a17 a18 a19 a20 a21 a22 a23 a24).base → X.nt = (dseA a0 a1 a2 a3 a4 a5 a6 a7 a8 a9 a10 a11 a12 a13 a14 a15 a16 a17 a18 a19 a20 a21 a22 a23 a24).nt → X.W = (dseA a0 a1 a2 a3 a4 a5 a6 a7 a8 a9 a10 a11 a12 a13 a14 a15 a16 a17 a18 a19 a20 a21 a22 a23 a24).W → (dseA a0 a1 a2 a3 a4 a5 a6 a7 a8 a9 a10 a11 a12 a13 a14 a15 a16 a17 a18 a19 a20 a21 a22 a23 a24).rgo a = some q → q n = some D → (dseA a0 a1 a2 a3 a4 a5 a6 a7 a8 a9 a10 a11 a12 a13 a14 a15 a16 a17 a18 a19 a20 a21 a22 a23 a24).RangeOk Try.prog ρ X a D := AF.noRange rfl
theorem dsectr {ρ : Env} (a0 a1 a2 : Int) (a3 : Bool) (a4 a5 a6 a7 : Int) (a8 : Nat) (a9 a10 : Nat → Int) (a11 : Nat) (a12 a13 a14 a15 : Nat → Int) (a16 a17 a18 a19 a20 a21 a22 a23 a24 : Int) {n : Nat} {v : dseR} (hM : MemoOk Try.prog (ctxOf Try.prog (memoS 65 dwoP dwoF dwoW dwoH 2 (memoS 89 dtgP dtgF dtgW dtgH 2 memo0))) ρ) (hv : (dseA a0 a1 a2 a3 a4 a5 a6 a7 a8 a9 a10 a11 a12 a13 a14 a15 a16 a17 a18 a19 a20 a21 a22 a23 a24).run n = some v) :
    Ctr Try.prog ρ 91 (dseA a0 a1 a2 a3 a4 a5 a6 a7 a8 a9 a10 a11 a12 a13 a14 a15 a16 a17 a18 a19 a20 a21 a22 a23 a24).args (dseA a0 a1 a2 a3 a4 a5 a6 a7 a8 a9 a10 a11 a12 a13 a14 a15 a16 a17 a18 a19 a20 a21 a22 a23 a24).H0 (dseA a0 a1 a2 a3 a4 a5 a6 a7 a8 a9 a10 a11 a12 a13 a14 a15 a16 a17 a18 a19 a20 a21 a22 a23 a24).base (dseA a0 a1 a2 a3 a4 a5 a6 a7 a8 a9 a10 a11 a12 a13 a14 a15 a16 a17 a18 a19 a20 a21 a22 a23 a24).W ((dseA a0 a1 a2 a3 a4 a5 a6 a7 a8 a9 a10 a11 a12 a13 a14 a15 a16 a17 a18 a19 a20 a21 a22 a23 a24).rc v) (putH (dseA a0 a1 a2 a3 a4 a5 a6 a7 a8 a9 a10 a11 a12 a13 a14 a15 a16 a17 a18 a19 a20 a21 a22 a23 a24).H0 ((dseA a0 a1 a2 a3 a4 a5 a6 a7 a8 a9 a10 a11 a12 a13 a14 a15 a16 a17 a18 a19 a20 a21 a22 a23 a24).rh v ++ (dseA a0 a1 a2 a3 a4 a5 a6 a7 a8 a9 a10 a11 a12 a13 a14 a15 a16 a17 a18 a19 a20 a21 a22 a23 a24).rx v)) ((dseA a0 a1 a2 a3 a4 a5 a6 a7 a8 a9 a10 a11 a12 a13 a14 a15 a16 a17 a18 a19 a20 a21 a22 a23 a24).rn v) :=
  AF.ctr try_ok hM (dseok a0 a1 a2 a3 a4 a5 a6 a7 a8 a9 a10 a11 a12 a13 a14 a15 a16 a17 a18 a19 a20 a21 a22 a23 a24) (fn := Try.f91) Try.func91 rfl rfl (Nat.le_of_ble_eq_true rfl) rfl (dsehR a0 a1 a2 a3 a4 a5 a6 a7 a8 a9 a10 a11 a12 a13 a14 a15 a16 a17 a18 a19 a20 a21 a22 a23 a24 hM) hv
theorem dsemem {ρ : Env} : MemoOk Try.prog (ctxOf Try.prog (memoS 65 dwoP dwoF dwoW dwoH 2 (memoS 89 dtgP dtgF dtgW dtgH 2 memo0))) ρ := (memoS_ok (dwoknown dwomem) (memoS_ok (dtgknown dtgmem) memo0_ok))
abbrev dseP : List AB := [.int .i64, .fn 90 [.box [.fn 88 [.box [.int .i64, .int .i64], .box [.bool, .int .i64, .int .i64, .int .i64, .int .i64, .rows [some .i64, some .i64], .rows [some .i64, some .i64, some .i64, some .i64], .int .i64], .box [.int .i64, .int .i64, .int .i64, .int .i64, .int .i64, .int .i64], .box [.int .i64, .int .i64]]]]]
noncomputable def dseF (v : AW) : AF dseN dseR := dseA (v.i.getD 0 0) (v.i.getD 1 0) (v.i.getD 2 0) (v.b.getD 0 false) (v.i.getD 3 0) (v.i.getD 4 0) (v.i.getD 5 0) (v.i.getD 6 0) (v.t.getD 0 .none).n ((v.t.getD 0 .none).c 0) ((v.t.getD 0 .none).c 1) (v.t.getD 1 .none).n ((v.t.getD 1 .none).c 0) ((v.t.getD 1 .none).c 1) ((v.t.getD 1 .none).c 2) ((v.t.getD 1 .none).c 3) (v.i.getD 7 0) (v.i.getD 8 0) (v.i.getD 9 0) (v.i.getD 10 0) (v.i.getD 11 0) (v.i.getD 12 0) (v.i.getD 13 0) (v.i.getD 14 0) (v.i.getD 15 0)
noncomputable def dseW : dseR → CV := fun v => .int .i64 (.x v)
noncomputable def dseH : dseR → List (Nat × Blk) := fun v => []
instance : Inhabited dseR := ⟨0⟩
theorem dseknown {ρ : Env} (hM : MemoOk Try.prog (ctxOf Try.prog (memoS 65 dwoP dwoF dwoW dwoH 2 (memoS 89 dtgP dtgF dtgW dtgH 2 memo0))) ρ) : KnownF Try.prog ρ 91 dseP dseF dseW dseH 7 where
  fn := ⟨Try.f91, Try.func91, rfl⟩
  le := Nat.le_of_ble_eq_true rfl
  full := fun r => rfl
  rg := fun r => rfl
  hg := fun r => fa_nil
  ctr := fun v n r h => dsectr (v.i.getD 0 0) (v.i.getD 1 0) (v.i.getD 2 0) (v.b.getD 0 false) (v.i.getD 3 0) (v.i.getD 4 0) (v.i.getD 5 0) (v.i.getD 6 0) (v.t.getD 0 .none).n ((v.t.getD 0 .none).c 0) ((v.t.getD 0 .none).c 1) (v.t.getD 1 .none).n ((v.t.getD 1 .none).c 0) ((v.t.getD 1 .none).c 1) ((v.t.getD 1 .none).c 2) ((v.t.getD 1 .none).c 3) (v.i.getD 7 0) (v.i.getD 8 0) (v.i.getD 9 0) (v.i.getD 10 0) (v.i.getD 11 0) (v.i.getD 12 0) (v.i.getD 13 0) (v.i.getD 14 0) (v.i.getD 15 0) hM h
end Go.Proofs.Ythagjhadjpangaa.Cx

/- (acme/die.shop).reach as an automaton. Made by tools/cxauto.py. -/
namespace Go.Proofs.Ythagjhadjpangaa.Cx
set_option linter.unusedVariables false
set_option linter.unusedSimpArgs false
set_option maxRecDepth 100000
open Go Go.Proofs Go.RowKit
noncomputable abbrev drcCode : Code := funcCode Try.f67
noncomputable abbrev drcs0Code : Code := funcCode Try.f87
inductive drcs0N where
  | n0 (q0 q1 q2 q3 q4 q5 : Int)
inductive drcs0R where
  | r0 (q0 q1 q2 q3 : Int)
  | r1 (q0 q1 q2 q3 q4 : Int)
noncomputable def drcs0D0 (a0 : Bool) (a1 a2 a3 a4 : Int) (a5 : Nat) (a6 a7 : Nat → Int) (a8 : Nat) (a9 a10 a11 a12 : Nat → Int) (a13 a14 a15 a16 a17 : Int) : DD (Lf drcs0N drcs0R) :=
 .leaf (.next (.n0 0 0 a14 a15 0 0) [])

noncomputable def drcs0D (a0 : Bool) (a1 a2 a3 a4 : Int) (a5 : Nat) (a6 a7 : Nat → Int) (a8 : Nat) (a9 a10 a11 a12 : Nat → Int) (a13 a14 a15 a16 a17 : Int) : drcs0N → DD (Lf drcs0N drcs0R)
 | .n0 q0 q1 q2 q3 q4 q5 =>
 let z0 := a9 (0 + Int.toNat q1)
 let z1 := Ar.run .add .i64 q0 z0
 let z2 := Ar.run .mn .i64 z1 a17
 let z3 := Ar.run .mx .i64 q0 a16
 let z4 := Ar.run .sub .i64 z2 z3
 let z5 := decide (0 + a5 ≤ a5)
 let z6 := fun i => [CV.int IntKind.i64 (IE.x (a6 (0 + i))), CV.int IntKind.i64 (IE.x (a7 (0 + i)))]
 let z7 := ShapeOk [some IntKind.i64, some IntKind.i64] (tabOf a5 z6) z6
 let z8 := decide (0 + a8 ≤ a8)
 let z9 := fun i => [CV.int IntKind.i64 (IE.x (a9 (0 + i))), CV.int IntKind.i64 (IE.x (a10 (0 + i))), CV.int IntKind.i64 (IE.x (a11 (0 + i))), CV.int IntKind.i64 (IE.x (a12 (0 + i)))]
 let z10 := ShapeOk [some IntKind.i64, some IntKind.i64, some IntKind.i64, some IntKind.i64] (tabOf a8 z9) z9
 let z11 := fun i => a6 (0 + i)
 let z12 := fun i => a7 (0 + i)
 let z13 := fun i => a9 (0 + i)
 let z14 := fun i => a10 (0 + i)
 let z15 := fun i => a11 (0 + i)
 let z16 := fun i => a12 (0 + i)
 let z17 := a10 (0 + Int.toNat q1)
 let z18 := a11 (0 + Int.toNat q1)
 let z19 := a12 (0 + Int.toNat q1)
 let z20 := dseA z4 q2 q3 a0 a1 a2 a3 a4 a5 z11 z12 a8 z13 z14 z15 z16 a13 z0 z17 z18 z19 z3 z2 q4 q5
 let z21 := AF.val z20
 let z22 := dtgA a0 a1 a2 a3 a4 a5 z11 z12 a8 z13 z14 z15 z16 a13 z18 z19 q4 q5
 let z23 := dwoA a0 a1 a2 a3 a4 a5 z11 z12 a8 z13 z14 z15 z16 a13 q4 q5 z17 (Ar.run .sub .i64 z21 1)
 let z24 := AF.val z23
 let z25 := dtgA a0 a1 a2 a3 a4 a5 z11 z12 a8 z13 z14 z15 z16 a13 z18 z19 (Prod.fst z24) (Prod.snd z24)
 let z26 := Cm.run .lss z21 z4
 let z27 := AF.val z22
 let z28 := AF.val z25
 let z29 := Ar.run .mx .i64 (Ar.run .mx .i64 q2 (Prod.fst z27)) (Prod.fst z28)
 let z30 := Ar.run .mn .i64 (Ar.run .mn .i64 q3 (Prod.snd z27)) (Prod.snd z28)
 let z31 := Ar.run .add .i64 z3 z21
 let z32 := dwoA a0 a1 a2 a3 a4 a5 z11 z12 a8 z13 z14 z15 z16 a13 q4 q5 z17 z21
 let z33 := AF.fin z32
 let z34 := Ar.run .add .i64 q1 1
 let z35 := AF.val z32
 let z36 := Prod.fst z35
 let z37 := Prod.snd z35
 .ask (Cm.run .lss q1 (↑a8 : Int))
   (.must (decide (0 ≤ q1))
   (.must (decide (q1 < (↑a8 : Int)))
   (.must (decide (0 + Int.toNat q1 < a8))
   (.ask (Cm.run .gtr z4 0)
   (.must z5
   (.must z7
   (.must z8
   (.must z10
   (.must (AF.fin z20)
   (.ask (Cm.run .gtr z21 0)
   (.must z5
   (.must z7
   (.must z8
   (.must z10
   (.must (AF.fin z22)
   (.must z5
   (.must z7
   (.must z8
   (.must z10
   (.must (AF.fin z23)
   (.must z5
   (.must z7
   (.must z8
   (.must z10
   (.must (AF.fin z25)
   (.ask z26
   (.leaf (.done (.r1 z29 z30 z31 q4 q5) []))
   (.must z5
   (.must z7
   (.must z8
   (.must z10
   (.must z33
   (.leaf (.next (.n0 z1 z34 z29 z30 z36 z37) [])))))))))))))))))))))))
   (.ask z26
   (.leaf (.done (.r1 q2 q3 z31 q4 q5) []))
   (.must z5
   (.must z7
   (.must z8
   (.must z10
   (.must z33
   (.leaf (.next (.n0 z1 z34 q2 q3 z36 z37) []))))))))))))))
   (.leaf (.next (.n0 z1 z34 q2 q3 q4 q5) []))))))
   (.leaf (.done (.r0 q2 q3 q4 q5) []))

noncomputable def drcs0A (a0 : Bool) (a1 a2 a3 a4 : Int) (a5 : Nat) (a6 a7 : Nat → Int) (a8 : Nat) (a9 a10 a11 a12 : Nat → Int) (a13 a14 a15 a16 a17 : Int) : AF drcs0N drcs0R where
  code := drcs0Code
  base := 11
  nt := 40
  m := 400
  un := []
  W := [3, 4, 5, 6, 10]
  h0 := ((10, recB (mkT [(3, .int .i64 (.x a17)), (4, .ptr (some (2, 0))), (5, .ptr (some (3, 0))), (8, .ptr (some (4, 0))), (9, .ptr (some (5, 0))), (10, .ptr (some (6, 0))), (18, .fn (.func 87) [] [.ptr (some (7, 0)), .ptr (some (8, 0)), .ptr (some (9, 0))])]) 50 (rgP (codeAt drcCode [1, 1, 0, 1, 0])) (rgA (codeAt drcCode [1, 1, 0, 1, 0])) (rgB (codeAt drcCode [1, 1, 0, 1, 0]))) :: (([(2, ⟨.lit [.bool (.x a0), .int .i64 (.x a1), .int .i64 (.x a2), .int .i64 (.x a3), .int .i64 (.x a4), .sla 0 2 0 a5, .sla 1 4 0 a8, .int .i64 (.x a13)], 0, true, none⟩), (3, ⟨.lit [.int .i64 (.x a14), .int .i64 (.x a15)], 0, true, none⟩), (4, ⟨.lit [.int .i64 (.x 0), .int .i64 (.x 0)], 0, true, none⟩), (5, ⟨.lit [.int .i64 (.x 0)], 0, true, none⟩), (6, ⟨.lit [.int .i64 (.x 0), .int .i64 (.x 0)], 0, true, none⟩), (7, ⟨.lit [.bool (.x a0), .int .i64 (.x a1), .int .i64 (.x a2), .int .i64 (.x a3), .int .i64 (.x a4), .sla 0 2 0 a5, .sla 1 4 0 a8, .int .i64 (.x a13)], 0, true, none⟩), (8, ⟨.lit [.int .i64 (.x a16)], 0, true, none⟩), (9, ⟨.lit [.int .i64 (.x a17)], 0, true, none⟩)] ++ []) ++ [(0, ⟨.arg a5 2 (fun i => [.int .i64 (.x (a6 i)), .int .i64 (.x (a7 i))]) (fun _ => ⟨rfl, rfl⟩), 2, true, none⟩), (1, ⟨.arg a8 4 (fun i => [.int .i64 (.x (a9 i)), .int .i64 (.x (a10 i)), .int .i64 (.x (a11 i)), .int .i64 (.x (a12 i))]) (fun _ => ⟨rfl, rfl⟩), 4, true, none⟩)]))
  args := [.yld 10, .ptr (some (7, 0)), .ptr (some (8, 0)), .ptr (some (9, 0))]
  res := (Try.f87).results.toList
  path := fun a => match a with
   | .n0 q0 q1 q2 q3 q4 q5 => [1, 1, 0]
  pd := fun a => match a with
   | .n0 q0 q1 q2 q3 q4 q5 => ⟨[(0, .yld 10), (2, .ptr (some (8, 0))), (3, .ptr (some (9, 0))), (5, .int .i64 (.x q0)), (11, .sla 1 4 0 a8), (12, .int .i64 (.x (↑a8))), (13, .int .i64 (.x q1))], [(3, ⟨.lit [.int .i64 (.x q2), .int .i64 (.x q3)], 0, true, none⟩), (4, ⟨.lit [.int .i64 (.x 0), .int .i64 (.x 0)], 0, true, none⟩), (5, ⟨.lit [.int .i64 (.x 0)], 0, true, none⟩), (6, ⟨.lit [.int .i64 (.x q4), .int .i64 (.x q5)], 0, true, none⟩)], 11, [(10, recS (mkT [(3, .int .i64 (.x a17)), (4, .ptr (some (2, 0))), (5, .ptr (some (3, 0))), (8, .ptr (some (4, 0))), (9, .ptr (some (5, 0))), (10, .ptr (some (6, 0))), (18, .fn (.func 87) [] [.ptr (some (7, 0)), .ptr (some (8, 0)), .ptr (some (9, 0))])]) 50 (rgP (codeAt drcCode [1, 1, 0, 1, 0])) (rgA (codeAt drcCode [1, 1, 0, 1, 0])) (rgB (codeAt drcCode [1, 1, 0, 1, 0])) (.ready) (.none))]⟩
  D0 := drcs0D0 a0 a1 a2 a3 a4 a5 a6 a7 a8 a9 a10 a11 a12 a13 a14 a15 a16 a17
  D := drcs0D a0 a1 a2 a3 a4 a5 a6 a7 a8 a9 a10 a11 a12 a13 a14 a15 a16 a17
  rc := (fun v => match v with
 | .r0 q0 q1 q2 q3 => .tup []
 | .r1 q0 q1 q2 q3 q4 => .tup [])
  rh := (fun v => match v with
 | .r0 q0 q1 q2 q3 => [(3, ⟨.lit [.int .i64 (.x q0), .int .i64 (.x q1)], 0, true, none⟩), (4, ⟨.lit [.int .i64 (.x 0), .int .i64 (.x 0)], 0, true, none⟩), (5, ⟨.lit [.int .i64 (.x 0)], 0, true, none⟩), (6, ⟨.lit [.int .i64 (.x q2), .int .i64 (.x q3)], 0, true, none⟩)]
 | .r1 q0 q1 q2 q3 q4 => [(3, ⟨.lit [.int .i64 (.x q0), .int .i64 (.x q1)], 0, true, none⟩), (4, ⟨.lit [.int .i64 (.x q0), .int .i64 (.x q1)], 0, true, none⟩), (5, ⟨.lit [.int .i64 (.x q2)], 0, true, none⟩), (6, ⟨.lit [.int .i64 (.x q3), .int .i64 (.x q4)], 0, true, none⟩)])
  rn := (fun v => match v with
 | .r0 q0 q1 q2 q3 => 11
 | .r1 q0 q1 q2 q3 q4 => 11)
  rx := (fun v => match v with
 | .r0 q0 q1 q2 q3 => [(10, recS (mkT [(3, .int .i64 (.x a17)), (4, .ptr (some (2, 0))), (5, .ptr (some (3, 0))), (8, .ptr (some (4, 0))), (9, .ptr (some (5, 0))), (10, .ptr (some (6, 0))), (18, .fn (.func 87) [] [.ptr (some (7, 0)), .ptr (some (8, 0)), .ptr (some (9, 0))])]) 50 (rgP (codeAt drcCode [1, 1, 0, 1, 0])) (rgA (codeAt drcCode [1, 1, 0, 1, 0])) (rgB (codeAt drcCode [1, 1, 0, 1, 0])) (.ready) (.none))]
 | .r1 q0 q1 q2 q3 q4 => [(10, recS (mkT [(3, .int .i64 (.x a17)), (4, .ptr (some (2, 0))), (5, .ptr (some (3, 0))), (8, .ptr (some (4, 0))), (9, .ptr (some (5, 0))), (10, .ptr (some (6, 0))), (18, .fn (.func 87) [] [.ptr (some (7, 0)), .ptr (some (8, 0)), .ptr (some (9, 0))])]) 50 (rgP (codeAt drcCode [1, 1, 0, 1, 0])) (rgA (codeAt drcCode [1, 1, 0, 1, 0])) (rgB (codeAt drcCode [1, 1, 0, 1, 0])) (.done) ((.some .ret)))])
  rgo := (fun _ => none)
theorem drcs0start (a0 : Bool) (a1 a2 a3 a4 : Int) (a5 : Nat) (a6 a7 : Nat → Int) (a8 : Nat) (a9 a10 a11 a12 : Nat → Int) (a13 a14 a15 a16 a17 : Int) : AF.edgeOk (drcs0A a0 a1 a2 a3 a4 a5 a6 a7 a8 a9 a10 a11 a12 a13 a14 a15 a16 a17) (ctxOf Try.prog memo0) (drcs0D0 a0 a1 a2 a3 a4 a5 a6 a7 a8 a9 a10 a11 a12 a13 a14 a15 a16 a17) (AF.run0 (drcs0A a0 a1 a2 a3 a4 a5 a6 a7 a8 a9 a10 a11 a12 a13 a14 a15 a16 a17) (ctxOf Try.prog (memoS 65 dwoP dwoF dwoW dwoH 2 (memoS 89 dtgP dtgF dtgW dtgH 2 (memoF 91 dseP dseF dseW dseH 7 memo0))))) := by unfold AF.edgeOk; kernel_rfl
theorem drcs0node0 (a0 : Bool) (a1 a2 a3 a4 : Int) (a5 : Nat) (a6 a7 : Nat → Int) (a8 : Nat) (a9 a10 a11 a12 : Nat → Int) (a13 a14 a15 a16 a17 q0 q1 q2 q3 q4 q5 : Int) : AF.edgeOk (drcs0A a0 a1 a2 a3 a4 a5 a6 a7 a8 a9 a10 a11 a12 a13 a14 a15 a16 a17) (ctxOf Try.prog memo0) (drcs0D a0 a1 a2 a3 a4 a5 a6 a7 a8 a9 a10 a11 a12 a13 a14 a15 a16 a17 (.n0 q0 q1 q2 q3 q4 q5)) (AF.runN (drcs0A a0 a1 a2 a3 a4 a5 a6 a7 a8 a9 a10 a11 a12 a13 a14 a15 a16 a17) (ctxOf Try.prog (memoS 65 dwoP dwoF dwoW dwoH 2 (memoS 89 dtgP dtgF dtgW dtgH 2 (memoF 91 dseP dseF dseW dseH 7 memo0)))) (.n0 q0 q1 q2 q3 q4 q5)) := by unfold AF.edgeOk; kernel_rfl
theorem drcs0ok (a0 : Bool) (a1 a2 a3 a4 : Int) (a5 : Nat) (a6 a7 : Nat → Int) (a8 : Nat) (a9 a10 a11 a12 : Nat → Int) (a13 a14 a15 a16 a17 : Int) : (drcs0A a0 a1 a2 a3 a4 a5 a6 a7 a8 a9 a10 a11 a12 a13 a14 a15 a16 a17).Ok Try.prog (ctxOf Try.prog (memoS 65 dwoP dwoF dwoW dwoH 2 (memoS 89 dtgP dtgF dtgW dtgH 2 (memoF 91 dseP dseF dseW dseH 7 memo0)))) where
  regs := by kernel_rfl
  h0 := by kernel_rfl
  start := drcs0start a0 a1 a2 a3 a4 a5 a6 a7 a8 a9 a10 a11 a12 a13 a14 a15 a16 a17
  node := fun a _ => match a with
   | .n0 q0 q1 q2 q3 q4 q5 => drcs0node0 a0 a1 a2 a3 a4 a5 a6 a7 a8 a9 a10 a11 a12 a13 a14 a15 a16 a17 q0 q1 q2 q3 q4 q5
  pd := fun a => match a with
   | .n0 q0 q1 q2 q3 q4 q5 => ⟨(fa_cons rfl (fa_cons rfl (fa_cons rfl (fa_cons rfl (fa_cons rfl (fa_cons rfl (fa_cons rfl fa_nil))))))), (fa_cons ⟨.inr (memW rfl), rfl, rfl⟩ (fa_cons ⟨.inr (memW rfl), rfl, rfl⟩ (fa_cons ⟨.inr (memW rfl), rfl, rfl⟩ (fa_cons ⟨.inr (memW rfl), rfl, rfl⟩ fa_nil)))), (fa_cons ⟨memW rfl, RecOk.of rfl⟩ fa_nil), rfl⟩
  le := fun a => match a with
   | .n0 q0 q1 q2 q3 q4 q5 => Nat.le_of_ble_eq_true rfl
  rd := fun v => match v with
   | .r0 q0 q1 q2 q3 => ⟨⟨fa_nil, (fa_cons ⟨.inr (memW rfl), rfl, rfl⟩ (fa_cons ⟨.inr (memW rfl), rfl, rfl⟩ (fa_cons ⟨.inr (memW rfl), rfl, rfl⟩ (fa_cons ⟨.inr (memW rfl), rfl, rfl⟩ fa_nil)))), (fa_cons ⟨memW rfl, RecOk.of rfl⟩ fa_nil), rfl⟩, rfl⟩
   | .r1 q0 q1 q2 q3 q4 => ⟨⟨fa_nil, (fa_cons ⟨.inr (memW rfl), rfl, rfl⟩ (fa_cons ⟨.inr (memW rfl), rfl, rfl⟩ (fa_cons ⟨.inr (memW rfl), rfl, rfl⟩ (fa_cons ⟨.inr (memW rfl), rfl, rfl⟩ fa_nil)))), (fa_cons ⟨memW rfl, RecOk.of rfl⟩ fa_nil), rfl⟩, rfl⟩
  wb := rfl
theorem drcs0hR {ρ : Env} (a0 : Bool) (a1 a2 a3 a4 : Int) (a5 : Nat) (a6 a7 : Nat → Int) (a8 : Nat) (a9 a10 a11 a12 : Nat → Int) (a13 a14 a15 a16 a17 : Int) (hM : MemoOk Try.prog (ctxOf Try.prog (memoS 65 dwoP dwoF dwoW dwoH 2 (memoS 89 dtgP dtgF dtgW dtgH 2 (memoF 91 dseP dseF dseW dseH 7 memo0)))) ρ) : ∀ X a q n D, FxOk ρ X → X.base = (drcs0A a0 a1 a2 a3 a4 a5 a6 a7 a8 a9 a10 a11 a12 a13 a14 a15 a16 a17).base → X.nt = (drcs0A a0 a1 a2 a3 a4 a5 a6 a7 a8 a9 a10 a11 a12 a13 a14 a15 a16 a17).nt → X.W = (drcs0A a0 a1 a2 a3 a4 a5 a6 a7 a8 a9 a10 a11 a12 a13 a14 a15 a16 a17).W → (drcs0A a0 a1 a2 a3 a4 a5 a6 a7 a8 a9 a10 a11 a12 a13 a14 a15 a16 a17).rgo a = some q → q n = some D → (drcs0A a0 a1 a2 a3 a4 a5 a6 a7 a8 a9 a10 a11 a12 a13 a14 a15 a16 a17).RangeOk Try.prog ρ X a D := AF.noRange rfl
inductive drcN where
  | n0
abbrev drcR := Int × Int × Int
noncomputable def drcD0 (a0 : Bool) (a1 a2 a3 a4 : Int) (a5 : Nat) (a6 a7 : Nat → Int) (a8 : Nat) (a9 a10 a11 a12 : Nat → Int) (a13 a14 a15 a16 a17 : Int) : DD (Lf drcN drcR) :=
 .leaf (.next (.n0) [2, 3, 4, 5, 6, 7, 8, 9])

noncomputable def drcD (a0 : Bool) (a1 a2 a3 a4 : Int) (a5 : Nat) (a6 a7 : Nat → Int) (a8 : Nat) (a9 a10 a11 a12 : Nat → Int) (a13 a14 a15 a16 a17 : Int) : drcN → DD (Lf drcN drcR)
 | .n0 =>
 .dead

noncomputable def drcRg0 (a0 : Bool) (a1 a2 a3 a4 : Int) (a5 : Nat) (a6 a7 : Nat → Int) (a8 : Nat) (a9 a10 a11 a12 : Nat → Int) (a13 a14 a15 a16 a17 : Int) : drcs0R → DD (Lf drcN drcR)
 | .r0 q0 q1 q2 q3 =>
 .leaf (.done (q0, q1, a17) [])
 | .r1 q0 q1 q2 q3 q4 =>
 .leaf (.done (q0, q1, q2) [])

noncomputable def drcA (a0 : Bool) (a1 a2 a3 a4 : Int) (a5 : Nat) (a6 a7 : Nat → Int) (a8 : Nat) (a9 a10 a11 a12 : Nat → Int) (a13 a14 a15 a16 a17 : Int) : AF drcN drcR where
  code := drcCode
  base := 2
  nt := 50
  m := 400
  un := [1000003]
  W := []
  h0 := [(0, ⟨.arg a5 2 (fun i => [.int .i64 (.x (a6 i)), .int .i64 (.x (a7 i))]) (fun _ => ⟨rfl, rfl⟩), 2, true, none⟩), (1, ⟨.arg a8 4 (fun i => [.int .i64 (.x (a9 i)), .int .i64 (.x (a10 i)), .int .i64 (.x (a11 i)), .int .i64 (.x (a12 i))]) (fun _ => ⟨rfl, rfl⟩), 4, true, none⟩)]
  args := [.agg [.bool (.x a0), .int .i64 (.x a1), .int .i64 (.x a2), .int .i64 (.x a3), .int .i64 (.x a4), .sla 0 2 0 a5, .sla 1 4 0 a8, .int .i64 (.x a13)], .agg [.int .i64 (.x a14), .int .i64 (.x a15)], .int .i64 (.x a16), .int .i64 (.x a17)]
  res := (Try.f67).results.toList
  path := fun a => match a with
   | .n0 => [1, 1, 0, 1, 0]
  pd := fun a => match a with
   | .n0 => ⟨[(3, .int .i64 (.x a17)), (4, .ptr (some (2, 0))), (5, .ptr (some (3, 0))), (8, .ptr (some (4, 0))), (9, .ptr (some (5, 0))), (10, .ptr (some (6, 0))), (18, .fn (.func 87) [] [.ptr (some (7, 0)), .ptr (some (8, 0)), .ptr (some (9, 0))])], [(2, ⟨.lit [.bool (.x a0), .int .i64 (.x a1), .int .i64 (.x a2), .int .i64 (.x a3), .int .i64 (.x a4), .sla 0 2 0 a5, .sla 1 4 0 a8, .int .i64 (.x a13)], 0, true, none⟩), (3, ⟨.lit [.int .i64 (.x a14), .int .i64 (.x a15)], 0, true, none⟩), (4, ⟨.lit [.int .i64 (.x 0), .int .i64 (.x 0)], 0, true, none⟩), (5, ⟨.lit [.int .i64 (.x 0)], 0, true, none⟩), (6, ⟨.lit [.int .i64 (.x 0), .int .i64 (.x 0)], 0, true, none⟩), (7, ⟨.lit [.bool (.x a0), .int .i64 (.x a1), .int .i64 (.x a2), .int .i64 (.x a3), .int .i64 (.x a4), .sla 0 2 0 a5, .sla 1 4 0 a8, .int .i64 (.x a13)], 0, true, none⟩), (8, ⟨.lit [.int .i64 (.x a16)], 0, true, none⟩), (9, ⟨.lit [.int .i64 (.x a17)], 0, true, none⟩)], 10, []⟩
  D0 := drcD0 a0 a1 a2 a3 a4 a5 a6 a7 a8 a9 a10 a11 a12 a13 a14 a15 a16 a17
  D := drcD a0 a1 a2 a3 a4 a5 a6 a7 a8 a9 a10 a11 a12 a13 a14 a15 a16 a17
  rc := (fun v => .tup [.agg [.int .i64 (.x v.1), .int .i64 (.x v.2.1)], .int .i64 (.x v.2.2)])
  rh := (fun v => [])
  rn := (fun v => 2)
  rx := (fun v => [])
  rgo := (fun a => match a with
   | .n0 => some (fun n => (AF.run (drcs0A a0 a1 a2 a3 a4 a5 a6 a7 a8 a9 a10 a11 a12 a13 a14 a15 a16 a17) n).map (drcRg0 a0 a1 a2 a3 a4 a5 a6 a7 a8 a9 a10 a11 a12 a13 a14 a15 a16 a17)))
theorem drcstart (a0 : Bool) (a1 a2 a3 a4 : Int) (a5 : Nat) (a6 a7 : Nat → Int) (a8 : Nat) (a9 a10 a11 a12 : Nat → Int) (a13 a14 a15 a16 a17 : Int) : AF.edgeOk (drcA a0 a1 a2 a3 a4 a5 a6 a7 a8 a9 a10 a11 a12 a13 a14 a15 a16 a17) (ctxOf Try.prog memo0) (drcD0 a0 a1 a2 a3 a4 a5 a6 a7 a8 a9 a10 a11 a12 a13 a14 a15 a16 a17) (AF.run0 (drcA a0 a1 a2 a3 a4 a5 a6 a7 a8 a9 a10 a11 a12 a13 a14 a15 a16 a17) (ctxOf Try.prog (memoS 65 dwoP dwoF dwoW dwoH 2 (memoS 89 dtgP dtgF dtgW dtgH 2 (memoF 91 dseP dseF dseW dseH 7 memo0))))) := by unfold AF.edgeOk; kernel_rfl
theorem drcok (a0 : Bool) (a1 a2 a3 a4 : Int) (a5 : Nat) (a6 a7 : Nat → Int) (a8 : Nat) (a9 a10 a11 a12 : Nat → Int) (a13 a14 a15 a16 a17 : Int) : (drcA a0 a1 a2 a3 a4 a5 a6 a7 a8 a9 a10 a11 a12 a13 a14 a15 a16 a17).Ok Try.prog (ctxOf Try.prog (memoS 65 dwoP dwoF dwoW dwoH 2 (memoS 89 dtgP dtgF dtgW dtgH 2 (memoF 91 dseP dseF dseW dseH 7 memo0)))) where
  regs := by kernel_rfl
  h0 := by kernel_rfl
  start := drcstart a0 a1 a2 a3 a4 a5 a6 a7 a8 a9 a10 a11 a12 a13 a14 a15 a16 a17
  node := fun a h => match a, h with
   | .n0, h => someNe h
  pd := fun a => match a with
   | .n0 => ⟨(fa_cons rfl (fa_cons rfl (fa_cons rfl (fa_cons rfl (fa_cons rfl (fa_cons rfl (fa_cons rfl fa_nil))))))), (fa_cons ⟨.inl (Nat.le_of_ble_eq_true rfl), rfl, rfl⟩ (fa_cons ⟨.inl (Nat.le_of_ble_eq_true rfl), rfl, rfl⟩ (fa_cons ⟨.inl (Nat.le_of_ble_eq_true rfl), rfl, rfl⟩ (fa_cons ⟨.inl (Nat.le_of_ble_eq_true rfl), rfl, rfl⟩ (fa_cons ⟨.inl (Nat.le_of_ble_eq_true rfl), rfl, rfl⟩ (fa_cons ⟨.inl (Nat.le_of_ble_eq_true rfl), rfl, rfl⟩ (fa_cons ⟨.inl (Nat.le_of_ble_eq_true rfl), rfl, rfl⟩ (fa_cons ⟨.inl (Nat.le_of_ble_eq_true rfl), rfl, rfl⟩ fa_nil)))))))), fa_nil, rfl⟩
  le := fun a => match a with
   | .n0 => Nat.le_of_ble_eq_true rfl
  rd := fun v => ⟨⟨fa_nil, fa_nil, fa_nil, rfl⟩, rfl⟩
  wb := rfl
theorem drcrg0_0 (a0 : Bool) (a1 a2 a3 a4 : Int) (a5 : Nat) (a6 a7 : Nat → Int) (a8 : Nat) (a9 a10 a11 a12 : Nat → Int) (a13 a14 a15 a16 a17 q0 q1 q2 q3 : Int) : AF.edgeOk (drcA a0 a1 a2 a3 a4 a5 a6 a7 a8 a9 a10 a11 a12 a13 a14 a15 a16 a17) (ctxOf Try.prog memo0) (drcRg0 a0 a1 a2 a3 a4 a5 a6 a7 a8 a9 a10 a11 a12 a13 a14 a15 a16 a17 (.r0 q0 q1 q2 q3)) (AF.runR (drcA a0 a1 a2 a3 a4 a5 a6 a7 a8 a9 a10 a11 a12 a13 a14 a15 a16 a17) (ctxOf Try.prog (memoS 65 dwoP dwoF dwoW dwoH 2 (memoS 89 dtgP dtgF dtgW dtgH 2 (memoF 91 dseP dseF dseW dseH 7 memo0)))) (.n0) (putH (drcs0A a0 a1 a2 a3 a4 a5 a6 a7 a8 a9 a10 a11 a12 a13 a14 a15 a16 a17).H0 ((drcs0A a0 a1 a2 a3 a4 a5 a6 a7 a8 a9 a10 a11 a12 a13 a14 a15 a16 a17).rh (.r0 q0 q1 q2 q3) ++ (drcs0A a0 a1 a2 a3 a4 a5 a6 a7 a8 a9 a10 a11 a12 a13 a14 a15 a16 a17).rx (.r0 q0 q1 q2 q3))) ((drcs0A a0 a1 a2 a3 a4 a5 a6 a7 a8 a9 a10 a11 a12 a13 a14 a15 a16 a17).rn (.r0 q0 q1 q2 q3)) ⟨mkT [(3, .int .i64 (.x a17)), (4, .ptr (some (2, 0))), (5, .ptr (some (3, 0))), (8, .ptr (some (4, 0))), (9, .ptr (some (5, 0))), (10, .ptr (some (6, 0))), (18, .fn (.func 87) [] [.ptr (some (7, 0)), .ptr (some (8, 0)), .ptr (some (9, 0))])], 50, rgP (codeAt drcCode [1, 1, 0, 1, 0]), rgA (codeAt drcCode [1, 1, 0, 1, 0]), rgB (codeAt drcCode [1, 1, 0, 1, 0]), .ready, .none⟩ .normal) := by unfold AF.edgeOk; kernel_rfl
theorem drcrg0_1 (a0 : Bool) (a1 a2 a3 a4 : Int) (a5 : Nat) (a6 a7 : Nat → Int) (a8 : Nat) (a9 a10 a11 a12 : Nat → Int) (a13 a14 a15 a16 a17 q0 q1 q2 q3 q4 : Int) : AF.edgeOk (drcA a0 a1 a2 a3 a4 a5 a6 a7 a8 a9 a10 a11 a12 a13 a14 a15 a16 a17) (ctxOf Try.prog memo0) (drcRg0 a0 a1 a2 a3 a4 a5 a6 a7 a8 a9 a10 a11 a12 a13 a14 a15 a16 a17 (.r1 q0 q1 q2 q3 q4)) (AF.runR (drcA a0 a1 a2 a3 a4 a5 a6 a7 a8 a9 a10 a11 a12 a13 a14 a15 a16 a17) (ctxOf Try.prog (memoS 65 dwoP dwoF dwoW dwoH 2 (memoS 89 dtgP dtgF dtgW dtgH 2 (memoF 91 dseP dseF dseW dseH 7 memo0)))) (.n0) (putH (drcs0A a0 a1 a2 a3 a4 a5 a6 a7 a8 a9 a10 a11 a12 a13 a14 a15 a16 a17).H0 ((drcs0A a0 a1 a2 a3 a4 a5 a6 a7 a8 a9 a10 a11 a12 a13 a14 a15 a16 a17).rh (.r1 q0 q1 q2 q3 q4) ++ (drcs0A a0 a1 a2 a3 a4 a5 a6 a7 a8 a9 a10 a11 a12 a13 a14 a15 a16 a17).rx (.r1 q0 q1 q2 q3 q4))) ((drcs0A a0 a1 a2 a3 a4 a5 a6 a7 a8 a9 a10 a11 a12 a13 a14 a15 a16 a17).rn (.r1 q0 q1 q2 q3 q4)) ⟨mkT [(3, .int .i64 (.x a17)), (4, .ptr (some (2, 0))), (5, .ptr (some (3, 0))), (8, .ptr (some (4, 0))), (9, .ptr (some (5, 0))), (10, .ptr (some (6, 0))), (18, .fn (.func 87) [] [.ptr (some (7, 0)), .ptr (some (8, 0)), .ptr (some (9, 0))])], 50, rgP (codeAt drcCode [1, 1, 0, 1, 0]), rgA (codeAt drcCode [1, 1, 0, 1, 0]), rgB (codeAt drcCode [1, 1, 0, 1, 0]), .done, (.some .ret)⟩ .ret) := by unfold AF.edgeOk; kernel_rfl
theorem drcrg0 (a0 : Bool) (a1 a2 a3 a4 : Int) (a5 : Nat) (a6 a7 : Nat → Int) (a8 : Nat) (a9 a10 a11 a12 : Nat → Int) (a13 a14 a15 a16 a17 : Int) : AF.Rg (drcA a0 a1 a2 a3 a4 a5 a6 a7 a8 a9 a10 a11 a12 a13 a14 a15 a16 a17) (drcs0A a0 a1 a2 a3 a4 a5 a6 a7 a8 a9 a10 a11 a12 a13 a14 a15 a16 a17) Try.prog (ctxOf Try.prog (memoS 65 dwoP dwoF dwoW dwoH 2 (memoS 89 dtgP dtgF dtgW dtgH 2 (memoF 91 dseP dseF dseW dseH 7 memo0)))) (ctxOf Try.prog (memoS 65 dwoP dwoF dwoW dwoH 2 (memoS 89 dtgP dtgF dtgW dtgH 2 (memoF 91 dseP dseF dseW dseH 7 memo0)))) (.n0) (rgF (codeAt drcCode [1, 1, 0, 1, 0])) (rgP (codeAt drcCode [1, 1, 0, 1, 0])) (rgA (codeAt drcCode [1, 1, 0, 1, 0])) (rgB (codeAt drcCode [1, 1, 0, 1, 0])) 87 Try.f87 [] [.ptr (some (7, 0)), .ptr (some (8, 0)), .ptr (some (9, 0))] (fun v => match v with
   | .r0 q0 q1 q2 q3 => ⟨mkT [(3, .int .i64 (.x a17)), (4, .ptr (some (2, 0))), (5, .ptr (some (3, 0))), (8, .ptr (some (4, 0))), (9, .ptr (some (5, 0))), (10, .ptr (some (6, 0))), (18, .fn (.func 87) [] [.ptr (some (7, 0)), .ptr (some (8, 0)), .ptr (some (9, 0))])], 50, rgP (codeAt drcCode [1, 1, 0, 1, 0]), rgA (codeAt drcCode [1, 1, 0, 1, 0]), rgB (codeAt drcCode [1, 1, 0, 1, 0]), .ready, .none⟩
   | .r1 q0 q1 q2 q3 q4 => ⟨mkT [(3, .int .i64 (.x a17)), (4, .ptr (some (2, 0))), (5, .ptr (some (3, 0))), (8, .ptr (some (4, 0))), (9, .ptr (some (5, 0))), (10, .ptr (some (6, 0))), (18, .fn (.func 87) [] [.ptr (some (7, 0)), .ptr (some (8, 0)), .ptr (some (9, 0))])], 50, rgP (codeAt drcCode [1, 1, 0, 1, 0]), rgA (codeAt drcCode [1, 1, 0, 1, 0]), rgB (codeAt drcCode [1, 1, 0, 1, 0]), .done, (.some .ret)⟩) (fun v => match v with
   | .r0 q0 q1 q2 q3 => .normal
   | .r1 q0 q1 q2 q3 q4 => .ret) (drcRg0 a0 a1 a2 a3 a4 a5 a6 a7 a8 a9 a10 a11 a12 a13 a14 a15 a16 a17) where
  code := by kernel_rfl
  fn := by kernel_rfl
  args := rfl
  base := rfl
  h0 := rfl
  W := rfl
  gfn := Try.func87
  body := rfl
  nt := rfl
  len := Nat.le_of_ble_eq_true rfl
  res := rfl
  ok := drcs0ok a0 a1 a2 a3 a4 a5 a6 a7 a8 a9 a10 a11 a12 a13 a14 a15 a16 a17
  le := fun v => match v with
   | .r0 q0 q1 q2 q3 => Nat.le_of_ble_eq_true rfl
   | .r1 q0 q1 q2 q3 q4 => Nat.le_of_ble_eq_true rfl
  lt := fun v => match v with
   | .r0 q0 q1 q2 q3 => rfl
   | .r1 q0 q1 q2 q3 q4 => rfl
  rcd := fun v => match v with
   | .r0 q0 q1 q2 q3 => rfl
   | .r1 q0 q1 q2 q3 q4 => rfl
  st := fun v => match v with
   | .r0 q0 q1 q2 q3 => (fun h => LoopState.noConfusion h)
   | .r1 q0 q1 q2 q3 q4 => (fun h => LoopState.noConfusion h)
  exd := fun v => match v with
   | .r0 q0 q1 q2 q3 => rfl
   | .r1 q0 q1 q2 q3 q4 => rfl
  D := fun v => match v with
   | .r0 q0 q1 q2 q3 => drcrg0_0 a0 a1 a2 a3 a4 a5 a6 a7 a8 a9 a10 a11 a12 a13 a14 a15 a16 a17 q0 q1 q2 q3
   | .r1 q0 q1 q2 q3 q4 => drcrg0_1 a0 a1 a2 a3 a4 a5 a6 a7 a8 a9 a10 a11 a12 a13 a14 a15 a16 a17 q0 q1 q2 q3 q4
theorem drchR {ρ : Env} (a0 : Bool) (a1 a2 a3 a4 : Int) (a5 : Nat) (a6 a7 : Nat → Int) (a8 : Nat) (a9 a10 a11 a12 : Nat → Int) (a13 a14 a15 a16 a17 : Int) (hM : MemoOk Try.prog (ctxOf Try.prog (memoS 65 dwoP dwoF dwoW dwoH 2 (memoS 89 dtgP dtgF dtgW dtgH 2 (memoF 91 dseP dseF dseW dseH 7 memo0)))) ρ) : ∀ X a q n D, FxOk ρ X → X.base = (drcA a0 a1 a2 a3 a4 a5 a6 a7 a8 a9 a10 a11 a12 a13 a14 a15 a16 a17).base → X.nt = (drcA a0 a1 a2 a3 a4 a5 a6 a7 a8 a9 a10 a11 a12 a13 a14 a15 a16 a17).nt → X.W = (drcA a0 a1 a2 a3 a4 a5 a6 a7 a8 a9 a10 a11 a12 a13 a14 a15 a16 a17).W → (drcA a0 a1 a2 a3 a4 a5 a6 a7 a8 a9 a10 a11 a12 a13 a14 a15 a16 a17).rgo a = some q → q n = some D → (drcA a0 a1 a2 a3 a4 a5 a6 a7 a8 a9 a10 a11 a12 a13 a14 a15 a16 a17).RangeOk Try.prog ρ X a D := by
  intro X a q n D h1 h2 h3 h4 hq hD
  cases a with
  | n0 =>
    have e := Option.some.inj hq
    subst e
    exact AF.range_ok (n := n) try_ok hM hM (drcok a0 a1 a2 a3 a4 a5 a6 a7 a8 a9 a10 a11 a12 a13 a14 a15 a16 a17) (drcrg0 a0 a1 a2 a3 a4 a5 a6 a7 a8 a9 a10 a11 a12 a13 a14 a15 a16 a17) (drcs0hR a0 a1 a2 a3 a4 a5 a6 a7 a8 a9 a10 a11 a12 a13 a14 a15 a16 a17 hM) h1 h2 h3 h4 hD
theorem drcctr {ρ : Env} (a0 : Bool) (a1 a2 a3 a4 : Int) (a5 : Nat) (a6 a7 : Nat → Int) (a8 : Nat) (a9 a10 a11 a12 : Nat → Int) (a13 a14 a15 a16 a17 : Int) {n : Nat} {v : drcR} (hM : MemoOk Try.prog (ctxOf Try.prog (memoS 65 dwoP dwoF dwoW dwoH 2 (memoS 89 dtgP dtgF dtgW dtgH 2 (memoF 91 dseP dseF dseW dseH 7 memo0)))) ρ) (hv : (drcA a0 a1 a2 a3 a4 a5 a6 a7 a8 a9 a10 a11 a12 a13 a14 a15 a16 a17).run n = some v) :
    Ctr Try.prog ρ 67 (drcA a0 a1 a2 a3 a4 a5 a6 a7 a8 a9 a10 a11 a12 a13 a14 a15 a16 a17).args (drcA a0 a1 a2 a3 a4 a5 a6 a7 a8 a9 a10 a11 a12 a13 a14 a15 a16 a17).H0 (drcA a0 a1 a2 a3 a4 a5 a6 a7 a8 a9 a10 a11 a12 a13 a14 a15 a16 a17).base (drcA a0 a1 a2 a3 a4 a5 a6 a7 a8 a9 a10 a11 a12 a13 a14 a15 a16 a17).W ((drcA a0 a1 a2 a3 a4 a5 a6 a7 a8 a9 a10 a11 a12 a13 a14 a15 a16 a17).rc v) (putH (drcA a0 a1 a2 a3 a4 a5 a6 a7 a8 a9 a10 a11 a12 a13 a14 a15 a16 a17).H0 ((drcA a0 a1 a2 a3 a4 a5 a6 a7 a8 a9 a10 a11 a12 a13 a14 a15 a16 a17).rh v ++ (drcA a0 a1 a2 a3 a4 a5 a6 a7 a8 a9 a10 a11 a12 a13 a14 a15 a16 a17).rx v)) ((drcA a0 a1 a2 a3 a4 a5 a6 a7 a8 a9 a10 a11 a12 a13 a14 a15 a16 a17).rn v) :=
  AF.ctr try_ok hM (drcok a0 a1 a2 a3 a4 a5 a6 a7 a8 a9 a10 a11 a12 a13 a14 a15 a16 a17) (fn := Try.f67) Try.func67 rfl rfl (Nat.le_of_ble_eq_true rfl) rfl (drchR a0 a1 a2 a3 a4 a5 a6 a7 a8 a9 a10 a11 a12 a13 a14 a15 a16 a17 hM) hv
theorem drcmem {ρ : Env} : MemoOk Try.prog (ctxOf Try.prog (memoS 65 dwoP dwoF dwoW dwoH 2 (memoS 89 dtgP dtgF dtgW dtgH 2 (memoF 91 dseP dseF dseW dseH 7 memo0)))) ρ := (memoS_ok (dwoknown dwomem) (memoS_ok (dtgknown dtgmem) (memoF_ok (dseknown dsemem) memo0_ok)))
abbrev drcP : List AQ := [.agg [.bool, .int .i64, .int .i64, .int .i64, .int .i64, .rows [some .i64, some .i64], .rows [some .i64, some .i64, some .i64, some .i64], .int .i64], .agg [.int .i64, .int .i64], .int .i64, .int .i64]
noncomputable def drcF (v : AW) : AF drcN drcR := drcA (v.b.getD 0 false) (v.i.getD 0 0) (v.i.getD 1 0) (v.i.getD 2 0) (v.i.getD 3 0) (v.t.getD 0 .none).n ((v.t.getD 0 .none).c 0) ((v.t.getD 0 .none).c 1) (v.t.getD 1 .none).n ((v.t.getD 1 .none).c 0) ((v.t.getD 1 .none).c 1) ((v.t.getD 1 .none).c 2) ((v.t.getD 1 .none).c 3) (v.i.getD 4 0) (v.i.getD 5 0) (v.i.getD 6 0) (v.i.getD 7 0) (v.i.getD 8 0)
noncomputable def drcW : drcR → CV := fun v => .tup [.agg [.int .i64 (.x v.1), .int .i64 (.x v.2.1)], .int .i64 (.x v.2.2)]
noncomputable def drcH : drcR → List (Nat × Blk) := fun v => []
instance : Inhabited drcR := ⟨(0, 0, 0)⟩
theorem drcknown {ρ : Env} (hM : MemoOk Try.prog (ctxOf Try.prog (memoS 65 dwoP dwoF dwoW dwoH 2 (memoS 89 dtgP dtgF dtgW dtgH 2 (memoF 91 dseP dseF dseW dseH 7 memo0)))) ρ) : KnownS Try.prog ρ 67 drcP drcF drcW drcH 2 where
  fn := ⟨Try.f67, Try.func67, rfl⟩
  le := Nat.le_of_ble_eq_true rfl
  full := fun r => rfl
  rg := fun r => rfl
  hg := fun r => fa_nil
  ctr := fun v n r h => drcctr (v.b.getD 0 false) (v.i.getD 0 0) (v.i.getD 1 0) (v.i.getD 2 0) (v.i.getD 3 0) (v.t.getD 0 .none).n ((v.t.getD 0 .none).c 0) ((v.t.getD 0 .none).c 1) (v.t.getD 1 .none).n ((v.t.getD 1 .none).c 0) ((v.t.getD 1 .none).c 1) ((v.t.getD 1 .none).c 2) ((v.t.getD 1 .none).c 3) (v.i.getD 4 0) (v.i.getD 5 0) (v.i.getD 6 0) (v.i.getD 7 0) (v.i.getD 8 0) hM h
end Go.Proofs.Ythagjhadjpangaa.Cx
