/- RANGES OVER FUNCTIONS in the logic of points: what the iterator's contract says of its call is what the range does. -/
import Derived.Test.YthhceoendicboaaGreatPkWBests4

namespace Go.Proofs.YthhceoendicboaaGreat.Cx
set_option linter.unusedSimpArgs false
set_option linter.unusedVariables false
open Go Go.RowKit

section
variable {P : Program} {ρ : Env} {X : Fx} {p : Pt} {Φ : Ex → Pt → Prop} {base : Nat}

theorem HR.congr {σ : Mp} {cur cur' : Cur} {w : World} (h : ∀ b l, σ b = some l → cur' b = cur b) (H : HR ρ σ cur w) : HR ρ σ cur' w :=
  ⟨fun b k l a1 a2 a3 => H.cell b k l ((h b l a3).symm.trans a1) a2 a3, fun b b' k k' l l' a1 a2 a3 a4 a5 a6 => H.inj b b' k k' l l' ((h b l a3).symm.trans a1) a2 a3 ((h b' l' a6).symm.trans a4) a5 a6,
    fun b k x l a1 a2 a3 => H.spec b k x l ((h b l a3).symm.trans a1) a2 a3, fun b b' k k' x x' l l' a1 a2 a3 a4 a5 a6 => H.injX b b' k k' x x' l l' ((h b l a3).symm.trans a1) a2 a3 ((h b' l' a6).symm.trans a4) a5 a6, fun y hy => ⟨(H.glob y hy).1, fun b k l a1 a2 ar a3 => (H.glob y hy).2 b k l ((h b l a3).symm.trans a1) a2 ar a3⟩⟩

/-- The record that a range lays. -/
noncomputable def recB (T : Tr CV) (nt : Nat) (ps : Array Tmp) (assign body : Code) : Blk := ⟨.lit [], 0, false, some (.loop ⟨T, nt, ps, assign, body, .ready, none⟩)⟩

/-- A record at any time. -/
noncomputable def recS (T : Tr CV) (nt : Nat) (ps : Array Tmp) (assign body : Code) (st : LoopState) (pd : Option Code) : Blk := ⟨.lit [], 0, false, some (.loop ⟨T, nt, ps, assign, body, st, pd⟩)⟩

def rgF : Code → Operand
  | .rangeFunc f _ _ _ => f
  | _ => .tmp 0
def rgP : Code → Array Tmp
  | .rangeFunc _ p _ _ => p
  | _ => #[]
def rgA : Code → Code
  | .rangeFunc _ _ a _ => a
  | _ => .skip
def rgB : Code → Code
  | .rangeFunc _ _ _ b => b
  | _ => .skip

theorem rd_lts {l : List (Nat × CV)} (h : l.all (fun x => x.2.lts base) = true) (t : Nat) : (rd (mkT l) t).lts base = true := by
  rw [rd_mkT]
  split
  · rename_i x hx
    exact List.all_eq_true.1 h x (List.mem_of_find?_eq_some hx)
  · rfl

theorem RecOk.of {l : List (Nat × CV)} {base nt : Nat} {ps : Array Tmp} {as' bd : Code} {st : LoopState} {pd : Option Code} (h : l.all (fun x => x.2.lts base) = true) : RecOk base (recS (mkT l) nt ps as' bd st pd) :=
  ⟨rfl, _, rfl, rd_lts h⟩

theorem memW {b : Nat} {l : List Nat} (h : l.any (Nat.beq b) = true) : b ∈ l := by
  obtain ⟨x, h1, h2⟩ := List.any_eq_true.1 h
  rw [Nat.eq_of_beq_eq_true h2]; exact h1

theorem someNe {α : Type} {β : Prop} {x : α} (h : (some x : Option α) = none) : β := by cases h

set_option maxHeartbeats 1000000 in
theorem Sem.range {f : Operand} {ps : Array Tmp} {assign body : Code} {g : Nat} {first captured : List CV} {c : CV} {h2 : Tr Blk} {n2 : Nat} {Wg : List Nat} {r5 : LR} {e : Ex} (hP : progOk P = true) (hX : FxOk ρ X) (hra : regsOk assign = true) (hrb : regsOk body = true)
    (hf : ev p.T f = some (.fn (.func g) first captured)) (K : Ctr P ρ g (first ++ [.yld p.n] ++ captured) (p.h.set p.n (recB p.T X.nt ps assign body)) (p.n + 1) Wg c h2 n2)
    (hn : p.n + 1 ≤ n2) (hWg : ∀ b ∈ Wg, (b ∈ X.W ∨ X.base ≤ b) ∧ b < p.n + 1) (hrec : (⟨h2, n2, [], []⟩ : St).getX p.n = some (.loop r5)) (hfrm : ∀ b, b ∉ Wg → ¬ (p.n + 1 ≤ b ∧ b < n2) → h2.get b = (p.h.set p.n (recB p.T X.nt ps assign body)).get b)
    (hst : r5.st ≠ .busy) (hex : Ex.of r5.pend = some e) (hΦ : Φ e ⟨p.T, ((⟨h2, n2, [], []⟩ : St).setX p.n (.loop { r5 with st := .exhausted })).heap, n2⟩) : Sem P ρ X (.rangeFunc f ps assign body) p Φ := by
  have hC : CtxOk2 P (ctxOf P memo0) := (ctxOf_ok hP memo0).toCtxOk2
  intro Q a w hS hQ
  obtain ⟨σ, hI, hF⟩ := hS.rel
  have hb : X.base ≤ p.n := hS.le
  show (Code.rangeFunc f ps assign body).wpIn (fc X.ro) X.n P Q a w
  refine wpIn_rangeFunc (fun fn _ => ?_)
  have hσN : ∀ b, p.n ≤ b → σ b = none := fun b hb' => by
    rw [hI.ext b (.inr hb')]; exact hX.N b (Nat.le_trans hb hb')
  -- the record is laid
  obtain ⟨wa, D, mark, hent, hIa, hmark⟩ : ∃ (wa : World) (D : Nat) (mark : List Deferred),
      (Instr.enterLoop fn a.tmps ps assign body X.ro).run P w = .ok (wa.heap.size, mark) (wa.alloc (.loop { state := .ready, pending := none, fn, tmps := a.tmps, params := ps, assign, body, defers := D })) ∧
      Inv ρ X.σ X.cur X.base X.W X.base X.w (p.st []) σ wa ∧ Marks X.a.defers X.w (mark ++ a.defers) wa := by
    cases hro : X.ro with
    | none =>
      have hIa : Inv ρ X.σ X.cur X.base X.W X.base X.w (p.st []) σ (w.alloc (.deferred (some []))) := hI.step (s2 := p.st []) (base2 := p.n) (W2 := []) hb hb (Nat.le_refl _) (fun b hb' => by cases hb') ⟨Nat.le_refl _, fun _ _ _ => rfl, [], rfl⟩ (Ext.refl _ _ _) (by rw [show upd (upd X.cur X.base (p.st []).next (p.st []).heap X.W) p.n (p.st []).next (p.st []).heap [] = upd X.cur X.base (p.st []).next (p.st []).heap X.W from upd_none _ _ _]; exact hI.H.alloc _) (.of_same rfl rfl rfl (by simp) fun k hk => alloc_get hk) (Fresh.none _ _ _ _ _ _)
      refine ⟨w.alloc (.deferred (some [])), w.heap.size, [{ target := .collected w.heap.size, args := #[] }], ?_, hIa, ?_⟩
      · rw [run_enterLoop_outer, World.size_alloc]
      · refine hF.2.2.trans hI.K.size (fun k hk => ?_) ⟨[w.heap.size], rfl, by simp, fun D hD => by obtain rfl := List.mem_singleton.1 hD; exact ⟨Nat.le_refl _, alloc_new _ _⟩⟩
        rw [alloc_get (Array.getElem?_eq_some_iff.1 hk).1]; exact hk
    | some l0 =>
      obtain ⟨r0, hr0⟩ := hX.ro l0 hro
      obtain ⟨q0, hq0⟩ := hI.K.loops l0 r0 hr0
      exact ⟨w, q0.defers, [], enter_inner hq0 _ _ _ _ _, hI, hF.2.2⟩
  have hσ : σ p.n = none := hσN _ (Nat.le_refl _)
  obtain ⟨x1, x2, x3, x4⟩ := newX_run (s := p.st []) (x := .loop ⟨p.T, X.nt, ps, assign, body, .ready, none⟩) (o := .loop { state := .ready, pending := none, fn, tmps := a.tmps, params := ps, assign, body, defers := D }) hIa.H hσ
    (.loop _ (alloc_new _ _) rfl rfl rfl rfl rfl hF.1 (fun t => (hF.2.1 t).mono (fun b l' hb' => by
      show (if b = p.n then _ else σ b) = _
      rw [if_neg (fun h => by rw [h, hσ] at hb'; cases hb')]; exact hb')) hra hrb)
  have f01 : Frm (p.st []) ((p.st []).newX (.loop ⟨p.T, X.nt, ps, assign, body, .ready, none⟩)) [] := .newX _ _ _
  generalize hs1 : (p.st []).newX (.loop ⟨p.T, X.nt, ps, assign, body, .ready, none⟩) = s1 at *
  have n1 : s1.next = p.n + 1 := by rw [← hs1]; rfl
  have hh1 : s1.heap = p.h.set p.n (recB p.T X.nt ps assign body) := by rw [← hs1]; rfl
  generalize hσ1 : (fun b => if b = (p.st []).next then some (⟨wa.heap.size, 0, 0, 0⟩ : Loc) else σ b) = σ1 at x1 x2 x3 x4
  have hσ1n : σ1 p.n = some ⟨wa.heap.size, 0, 0, 0⟩ := by rw [← hσ1]; exact if_pos rfl
  have x1 : HR ρ σ1 (upd (upd X.cur X.base p.n p.h X.W) p.n (p.n + 1) s1.heap []) (wa.alloc (.loop { state := .ready, pending := none, fn, tmps := a.tmps, params := ps, assign, body, defers := D })) := x1
  have x2 : Ext σ σ1 p.n (p.n + 1) := x2
  have x4 : Fresh σ σ1 p.n (p.n + 1) p.n [] wa := x4
  have x3 : Keeps σ p.n [] wa (wa.alloc (.loop { state := .ready, pending := none, fn, tmps := a.tmps, params := ps, assign, body, defers := D })) := x3
  rw [← n1] at x1 x2 x4
  generalize hw1 : wa.alloc (.loop { state := .ready, pending := none, fn, tmps := a.tmps, params := ps, assign, body, defers := D }) = w1 at hent x1 x3
  have hI1 : Inv ρ X.σ X.cur X.base X.W X.base X.w s1 σ1 w1 := hIa.step (base2 := p.n) hb hb (Nat.le_refl _) (fun b hb' => by cases hb') f01.toB x2 x1 x3 x4
  have hσ1N : ∀ b, s1.next ≤ b → σ1 b = none := fun b hb' => by
    rw [x2 b (.inr hb')]; exact hσN b (by omega)
  have hold1 : ∀ b, b < s1.next → upd X.cur X.base s1.next s1.heap X.W b = s1.heap.get b := fun b hb' => by
    show (if b ∈ X.W ∨ (X.base ≤ b ∧ b < s1.next) then _ else X.cur b) = _
    by_cases hc : b ∈ X.W ∨ (X.base ≤ b ∧ b < s1.next)
    · rw [if_pos hc]
    · rw [if_neg hc]
      have h1 : b < X.base := by
        by_cases h : b < X.base
        · exact h
        · exact absurd (.inr ⟨by omega, hb'⟩) hc
      rw [hS.old b h1 (fun h => hc (.inl h)), hh1, Tr.get_set, if_neg (by omega)]
  -- the call
  obtain ⟨x', y', hfv, hx, hy⟩ := (ev_run (σ := σ) (ρ := ρ) (a := a) (fun t _ => hF.2.1 t) hf).fn_inv
  obtain ⟨gfn, hgfn, hbody⟩ := K.fn
  have hle1 : σ.le σ1 := fun b l hl => by
    rw [x2 b (.inl (by
      by_cases h : b < p.n
      · exact h
      · rw [hσN b (by omega)] at hl; cases hl))]; exact hl
  have hargs : VRl ρ σ1 (first ++ [.yld p.n] ++ captured) ((x' ++ #[Value.func (.yield wa.heap.size) #[] #[]]) ++ y').toList := by
    simp only [Array.toList_append]
    exact ((hx.mono hle1).append (.cons (.yld hσ1n) .nil)).append (hy.mono hle1)
  have hHc : HR ρ σ1 (curOf (p.h.set p.n (recB p.T X.nt ps assign body)) (p.n + 1)) w1 := by
    refine HR.congr (fun b l hl => ?_) hI1.H
    have hlt : b < s1.next := by
      by_cases h : b < s1.next
      · exact h
      · rw [hσ1N b (by omega)] at hl; cases hl
    rw [hold1 b hlt, ← hh1]
    exact if_pos (by omega)
  refine ⟨wa.heap.size, mark, w1, { target := .fn (.func g) y', args := x' ++ #[Value.func (.yield wa.heap.size) #[] #[]] }, w1, g, (x' ++ #[Value.func (.yield wa.heap.size) #[] #[]]) ++ y', w1, hent, ?_, (fun _ _ => trivial), ?_, (fun h => by cases h), callsIn_fc ((K.run (X.n - 1) σ1 w1 _ hargs hHc (fun b hb' => hσ1N b (by omega))).mono ?_)⟩
  · simp only [resolve, Deferred.ofValue, hfv, pure_bind, Sem.run_pure]
    simp [Act.eval]
  · simp only [invoke, callFunc_run hC (show (ctxOf P memo0).fn g = some gfn from hgfn) hbody]
  · rintro e' w3 ⟨v, rfl, σ2, y1, y2, y3, y4, y5⟩
    have y1 : Ext σ1 σ2 s1.next n2 := by rw [n1]; exact y1
    have y3 : HR ρ σ2 (upd (curOf (p.h.set p.n (recB p.T X.nt ps assign body)) (p.n + 1)) (p.n + 1) n2 h2 Wg) w3 := y3
    have y4 : Keeps σ1 s1.next Wg w1 w3 := by rw [n1]; exact y4
    have y5 : Fresh σ1 σ2 s1.next n2 s1.next Wg w1 := by rw [n1]; exact y5
    have hI2 : Inv ρ X.σ X.cur X.base X.W X.base X.w ⟨h2, n2, [], []⟩ σ2 w3 := by
      refine hI1.step (s2 := ⟨h2, n2, [], []⟩) (base2 := s1.next) (W2 := Wg) (by omega) (by omega) (Nat.le_refl _) (fun b hb' => ?_) ⟨by show s1.next ≤ n2; omega, fun b hbW hbn => ?_, ?_⟩ y1 ?_ y4 y5
      · rcases (hWg b hb').1 with h | h
        · exact .inl h
        · exact .inr ⟨h, by have := (hWg b hb').2; omega⟩
      · show h2.get b = s1.heap.get b
        rw [hh1]
        exact hfrm b hbW (fun h => hbn ⟨by omega, h.2⟩)
      · rw [← hs1]; exact ⟨[], rfl⟩
      · refine HR.congr (fun b l hl => ?_) y3
        have hlt : b < n2 := by
          by_cases h : b < n2
          · exact h
          · rw [y1 b (.inr (by omega)), hσ1N b (by omega)] at hl; cases hl
        show (if b ∈ Wg ∨ (s1.next ≤ b ∧ b < n2) then h2.get b else _) = (if b ∈ Wg ∨ (p.n + 1 ≤ b ∧ b < n2) then h2.get b else _)
        by_cases hc : b ∈ Wg ∨ (s1.next ≤ b ∧ b < n2)
        · rw [if_pos hc, if_pos (by rw [← n1]; exact hc)]
        · rw [if_neg hc, if_neg (by rw [← n1]; exact hc)]
          have hlt1 : b < s1.next := by
            by_cases h : b < s1.next
            · exact h
            · exact absurd (.inr ⟨by omega, hlt⟩) hc
          rw [hold1 b hlt1, hh1]
          exact (if_pos (by omega)).symm
    have hl2 : σ2 p.n = some ⟨wa.heap.size, 0, 0, 0⟩ := by rw [y1 _ (.inl (by omega))]; exact hσ1n
    obtain ⟨q, hq, hqs, hqp, hI5, hK5⟩ := loop_set (r1 := { r5 with st := .exhausted }) (f := fun q => { q with state := .exhausted }) hI2 (by show X.base ≤ n2; omega) (by show X.base ≤ n2; omega) hrec (.inr ⟨hb, by show p.n < n2; omega⟩) hl2 (fun q h1' h2' h3' => by
      have hpd : q.pending = r5.pend := by
        cases h1' with
        | loop q' hq' _ hp' => rw [h2'] at hq'; cases hq'; exact hp'
      have := h1'.loop_state (st := .exhausted) (pd := r5.pend) h2'
      rw [← hpd] at this
      rw [← hpd]
      exact this)
    refine ⟨q.pending, _, run_endLoop hq (by rw [hqs]; exact hst), ?_⟩
    have hSR : SR ρ X ⟨p.T, ((⟨h2, n2, [], []⟩ : St).setX p.n (.loop { r5 with st := .exhausted })).heap, n2⟩ { a with defers := mark ++ a.defers } (w3.putObj wa.heap.size (.loop { q with state := .exhausted })) := by
      refine ⟨by show X.base ≤ n2; omega, fun b hb1 hb2 => ?_, σ2, hI5, hF.1, fun t => (hF.2.1 t).mono (fun b l hl => ?_), ?_⟩
      · show X.cur b = ((⟨h2, n2, [], []⟩ : St).setX p.n (.loop { r5 with st := .exhausted })).heap.get b
        rw [setX_get, if_neg (by omega)]
        show X.cur b = h2.get b
        rw [hfrm b (fun h => by
          rcases (hWg b h).1 with h | h
          · exact hb2 h
          · omega) (fun h => by omega), Tr.get_set, if_neg (by omega)]
        exact hS.old b hb1 hb2
      · have h1 := hle1 b l hl
        rw [y1 b (.inl (by
          by_cases h : b < s1.next
          · exact h
          · rw [hσ1N b (by omega)] at h1; cases h1))]
        exact h1
      · have hsz : X.w.heap.size ≤ wa.heap.size := hIa.K.size
        exact hmark.trans hsz (fun k hk => hK5.defd k (y4.defd k (x3.defd k hk))) (.refl _ _ _)
    have := hQ e _ _ _ hΦ hSR
    rw [← hqp] at hex
    revert hex this
    generalize w3.putObj wa.heap.size (.loop { q with state := .exhausted }) = w4
    intro hex this
    revert hex
    cases hpd : q.pending with
    | none => intro hex; cases hex; exact this
    | some cd =>
      intro hex
      cases cd <;> simp only [Ex.of] at hex <;> cases hex
      · exact wpIn_exit this
      · exact wpIn_ret this

/-! ## Heads of automata that are ranges -/

/-- The state behind a range, whose iterator left this memory. -/
noncomputable def rgSt (n0 : Nat) (h2 : Tr Blk) (n2 : Nat) (r5 : LR) (o : List Nat) : St := ⟨((⟨h2, n2, [], []⟩ : St).setX n0 (.loop { r5 with st := .exhausted })).heap, n2, o, []⟩

/-- What follows a range. -/
noncomputable def AF.runR {N R : Type} (A : AF N R) (C : Ctx) (a : N) (h2 : Tr Blk) (n2 : Nat) (r5 : LR) (e : Ex) (o : List Nat) : Option KO :=
  resumeK C A.m A.base A.nt A.un A.code (A.path a) e ((A.pd a).pt A.H0).T (rgSt (A.pd a).n h2 n2 r5 o)

theorem AF.old {N R : Type} {A : AF N R} {C : Ctx} (hA : A.Ok P C) (a : N) {b : Nat} (hb : b < A.base) (hbW : b ∉ A.W) : ((A.pd a).pt A.H0).h.get b = A.H0.get b := by
  show (putH A.H0 ((A.pd a).h ++ (A.pd a).x)).get b = _
  rw [get_putH]
  split
  · rename_i x hx
    have h1 := List.find?_some hx
    have h2 := List.mem_of_find?_eq_some hx
    simp only [beq_iff_eq] at h1
    subst h1
    rcases List.mem_append.1 h2 with h2 | h2
    · rcases ((hA.pd a).h x h2).1 with h3 | h3
      · omega
      · exact absurd h3 hbW
    · exact absurd ((hA.pd a).x x h2).1 hbW
  · rfl

theorem AF.frm {N R : Type} {A : AF N R} {C : Ctx} (hA : A.Ok P C) (v : R) (hlt : (A.rh v).all (fun x => Nat.blt x.1 (A.rn v)) = true) {b : Nat} (hbW : b ∉ A.W) (hb : ¬ (A.base ≤ b ∧ b < A.rn v)) : (putH A.H0 (A.rh v ++ A.rx v)).get b = A.H0.get b := by
  rw [get_putH]
  split
  · rename_i x hx
    have h1 := List.find?_some hx
    have h2 := List.mem_of_find?_eq_some hx
    simp only [beq_iff_eq] at h1
    subst h1
    rcases List.mem_append.1 h2 with h2 | h2
    · rcases ((hA.rd v).1.h x h2).1 with h3 | h3
      · exact absurd ⟨h3, blt_lt (List.all_eq_true.1 hlt x h2)⟩ hb
      · exact absurd h3 hbW
    · exact absurd ((hA.rd v).1.x x h2).1 hbW
  · rfl

theorem Ctr.congr {f : Nat} {args : List CV} {h0 h0' h1 : Tr Blk} {base n1 : Nat} {W : List Nat} {c : CV} (h : ∀ b, b < base → h0.get b = h0'.get b) (K : Ctr P ρ f args h0 base W c h1 n1) : Ctr P ρ f args h0' base W c h1 n1 := by
  have e : curOf h0 base = curOf h0' base := by
    funext b
    unfold curOf
    split
    · exact h b ‹_›
    · rfl
  exact ⟨K.fn, fun n σ w args' a1 a2 a3 => by rw [← e]; exact K.run n σ w args' a1 (by rw [e]; exact a2) a3⟩

/-- A head that is a range over a function, from the iterator's automaton over the head's memory. -/
structure AF.Rg {N R N' R' : Type} (A : AF N R) (B : AF N' R') (P : Program) (C C' : Ctx) (a : N) (f : Operand) (ps : Array Tmp) (as' bd : Code) (g : Nat) (gn : Func) (first captured : List CV) (rec : R' → LR) (ex : R' → Ex) (Dr : R' → DD (Lf N R)) : Prop where
  code : codeAt A.code (A.path a) = .rangeFunc f ps as' bd
  fn : ev ((A.pd a).pt A.H0).T f = some (.fn (.func g) first captured)
  args : B.args = first ++ [.yld (A.pd a).n] ++ captured
  base : B.base = (A.pd a).n + 1
  h0 : B.h0 = ((A.pd a).n, recB (mkT (A.pd a).T) A.nt ps as' bd) :: (((A.pd a).h ++ (A.pd a).x) ++ A.h0)
  W : B.W.all (fun b => A.W.any (Nat.beq b) || Nat.ble A.base b) = true
  gfn : P.funcs[g]? = some gn
  body : gn.body = some B.code
  nt : gn.ntmps = B.nt
  len : B.args.length ≤ B.nt
  res : gn.results.toList = B.res
  ok : B.Ok P C'
  le : ∀ v, B.base ≤ B.rn v
  lt : ∀ v, (B.rh v).all (fun x => Nat.blt x.1 (B.rn v)) = true
  rcd : ∀ v, (⟨putH B.H0 (B.rh v ++ B.rx v), B.rn v, [], []⟩ : St).getX (A.pd a).n = some (.loop (rec v))
  st : ∀ v, (rec v).st ≠ .busy
  exd : ∀ v, Ex.of (rec v).pend = some (ex v)
  D : ∀ v, A.edgeOk (ctxOf P memo0) (Dr v) (A.runR C a (putH B.H0 (B.rh v ++ B.rx v)) (B.rn v) (rec v) (ex v))

theorem mkH_append (l m : List (Nat × Blk)) : mkH (l ++ m) = putH (mkH m) l := by
  induction l with
  | nil => rfl
  | cons x l ih => obtain ⟨t, c⟩ := x; simp only [List.cons_append, mkH, putH, ih]

theorem AF.range_ok {N R N' R' : Type} {A : AF N R} {B : AF N' R'} {memo memo' : Memo} {a : N} {f : Operand} {ps : Array Tmp} {as' bd : Code} {g : Nat} {gn : Func} {first captured : List CV} {rec : R' → LR} {ex : R' → Ex} {Dr : R' → DD (Lf N R)}
    (hP : progOk P = true) (hM : MemoOk P (ctxOf P memo) ρ) (hM' : MemoOk P (ctxOf P memo') ρ) (hA : A.Ok P (ctxOf P memo)) (H : A.Rg B P (ctxOf P memo) (ctxOf P memo') a f ps as' bd g gn first captured rec ex Dr)
    (hRB : ∀ X a q n D, FxOk ρ X → X.base = B.base → X.nt = B.nt → X.W = B.W → B.rgo a = some q → q n = some D → B.RangeOk P ρ X a D)
    {X : Fx} (hX : FxOk ρ X) (hb : X.base = A.base) (hnt : X.nt = A.nt) (hW : X.W = A.W) {n : Nat} {D : DD (Lf N R)} (h : (B.run n).map Dr = some D) : A.RangeOk P ρ X a D := by
  cases hv : B.run n with
  | none => rw [hv] at h; cases h
  | some v =>
    rw [hv] at h
    cases h
    have hC := ctxOf_ok hP memo
    have hle : A.base ≤ (A.pd a).n := hA.le a
    have hregs : regsOk (.rangeFunc f ps as' bd) = true := by rw [← H.code]; exact regs_at (A.path a) hA.regs
    have hregs : regsOk as' = true ∧ regsOk bd = true := by simpa [regsOk] using hregs
    have K := AF.ctr hP hM' H.ok H.gfn H.body H.nt H.len H.res hRB hv
    have hH0 : B.H0 = ((A.pd a).pt A.H0).h.set (A.pd a).n (recB (mkT (A.pd a).T) A.nt ps as' bd) := by
      show mkH B.h0 = _
      rw [H.h0, mkH, mkH_append]
      rfl
    have hWB : ∀ b ∈ B.W, (b ∈ A.W ∨ A.base ≤ b) ∧ b < (A.pd a).n + 1 := fun b hbB => by
      refine ⟨?_, by rw [← H.base]; exact H.ok.wlt b hbB⟩
      have := List.all_eq_true.1 H.W b hbB
      rw [Bool.or_eq_true] at this
      rcases this with h | h
      · obtain ⟨x, h1, h2⟩ := List.any_eq_true.1 h
        rw [Nat.eq_of_beq_eq_true h2]; exact .inl h1
      · exact .inr (Nat.le_of_ble_eq_true h)
    have hfr : ∀ b, b ∉ B.W → ¬ ((A.pd a).n + 1 ≤ b ∧ b < B.rn v) → (putH B.H0 (B.rh v ++ B.rx v)).get b = (((A.pd a).pt A.H0).h.set (A.pd a).n (recB (mkT (A.pd a).T) A.nt ps as' bd)).get b := fun b h1 h2 => by
      rw [AF.frm H.ok v (H.lt v) h1 (by rw [H.base]; exact h2), hH0]
    refine ⟨A.runR (ctxOf P memo) a (putH B.H0 (B.rh v ++ B.rx v)) (B.rn v) (rec v) (ex v), rgSt (A.pd a).n (putH B.H0 (B.rh v ++ B.rx v)) (B.rn v) (rec v) [], H.D v, rfl, fun b hb1 hb2 => ?_, fun o k hk => ?_⟩
    · show (((⟨putH B.H0 (B.rh v ++ B.rx v), B.rn v, [], []⟩ : St).setX (A.pd a).n (.loop { rec v with st := .exhausted })).heap).get b = _
      rw [setX_get, if_neg (by omega)]
      show (putH B.H0 (B.rh v ++ B.rx v)).get b = _
      rw [hfr b (fun h => by
        rcases (hWB b h).1 with h | h
        · exact hb2 h
        · omega) (fun h => by omega), Tr.get_set, if_neg (by omega)]
      exact AF.old hA a hb1 hb2
    · have kk := resumeK_ok (base := A.base) hC hM (A.path a) A.code (ex v) _ _ _ hA.regs (by show A.base ≤ B.rn v; have := H.le v; rw [H.base] at this; omega) hk
      refine ⟨kk.next, kk.pc, kk.old, fun X' Φ h1 h2 h3 h4 h5 h6 hx => ?_⟩
      subst hx
      have hob := kk.run X' Φ h1 h2 h3 h4 h5 h6
      show LoopAt P ρ X' (codeAt A.code (A.path a)) (AftL P ρ X' A.code (A.path a) Φ) _
      rw [H.code]
      show Sem P ρ X' (.rangeFunc f ps as' bd) ((A.pd a).pt A.H0) _
      refine Sem.range (c := B.rc v) (h2 := putH B.H0 (B.rh v ++ B.rx v)) (n2 := B.rn v) (Wg := B.W) (r5 := rec v) (e := ex v) hP h1 hregs.1 hregs.2 H.fn ?_ ?_ ?_ (H.rcd v) ?_ (H.st v) (H.exd v) hob
      · have := K
        rw [H.args, H.base, hH0] at this
        rw [hH0, h3]
        exact this
      · have := H.le v; rw [H.base] at this; exact this
      · intro b hbB
        rw [hW, hb]
        exact hWB b hbB
      · intro b q1 q2
        rw [h3]
        exact hfr b q1 q2

end
end Go.Proofs.YthhceoendicboaaGreat.Cx

/- CALLS WITH FUNCTIONS AS ARGUMENTS THAT ARE KNOWN FROM AUTOMATA: function values, and the boxes that they hold on to, are read off like other arguments. -/
namespace Go.Proofs.YthhceoendicboaaGreat.Cx
set_option linter.unusedSimpArgs false
set_option linter.unusedVariables false
open Go Go.RowKit

/-- What an argument looks like: an integer, a bool, a struct, a slice of rows that is read alone, a pointer to cells that are read alone, a function with what it holds on to. -/
inductive AB where
  | int (k : IntKind)
  | bool
  | agg (l : List AB)
  | rows (ks : List (Option IntKind))
  | box (l : List AB)
  | fn (g : Nat) (l : List AB)

def AB.flat : AB → Bool
  | .agg _ => false
  | _ => true

mutual
def AB.ni : AB → Nat
  | .int _ => 1
  | .bool | .rows _ => 0
  | .agg l | .box l | .fn _ l => AB.nis l
def AB.nis : List AB → Nat
  | [] => 0
  | p :: l => p.ni + AB.nis l
end
mutual
def AB.nb : AB → Nat
  | .bool => 1
  | .int _ | .rows _ => 0
  | .agg l | .box l | .fn _ l => AB.nbs l
def AB.nbs : List AB → Nat
  | [] => 0
  | p :: l => p.nb + AB.nbs l
end
mutual
/-- How many tables. -/
def AB.nt : AB → Nat
  | .rows _ => 1
  | .int _ | .bool => 0
  | .agg l | .box l | .fn _ l => AB.nts l
def AB.nts : List AB → Nat
  | [] => 0
  | p :: l => p.nt + AB.nts l
end
mutual
/-- How many blocks. -/
def AB.nq : AB → Nat
  | .rows _ => 1
  | .int _ | .bool => 0
  | .agg l | .fn _ l => AB.nqs l
  | .box l => AB.nqs l + 1
def AB.nqs : List AB → Nat
  | [] => 0
  | p :: l => p.nq + AB.nqs l
end

def CV.fl (c : CV) : CV := bif c.flat then c else .junk
theorem CV.fl_flat (c : CV) : c.fl.flat = true := by
  unfold CV.fl
  cases h : c.flat with
  | true => rw [cond_true]; exact h
  | false => rfl
theorem fl_all (l : List CV) : (l.map CV.fl).all CV.flat = true := by
  induction l with
  | nil => rfl
  | cons c l ih => rw [List.map_cons, List.all_cons, CV.fl_flat, ih]; rfl
theorem fl_id {l : List CV} (h : l.all CV.flat = true) : l.map CV.fl = l := by
  induction l with
  | nil => rfl
  | cons c l ih =>
    simp only [List.all_cons, Bool.and_eq_true] at h
    rw [List.map_cons, ih h.2]
    unfold CV.fl
    rw [h.1, cond_true]

/-- Cells that are read alone. -/
def boxB (cs : List CV) : Blk := ⟨.arg 1 cs.length (fun _ => cs.map CV.fl) (fun _ => ⟨by simp, fl_all cs⟩), cs.length, true, none⟩
theorem boxB_cells (cs : List CV) : (boxB cs).cells = cs.map CV.fl := by
  show flatR (fun _ => cs.map CV.fl) 1 = _
  simp [flatR]

mutual
def AB.put (v : AW) : AB → Nat → Nat → Nat → Nat → CV
  | .int k, i, _, _, _ => .int k (.x (v.i.getD i 0))
  | .bool, _, j, _, _ => .bool (.x (v.b.getD j false))
  | .agg l, i, j, t, q => .agg (AB.puts v l i j t q)
  | .rows ks, _, _, t, q => .sla q ks.length 0 (v.t.getD t .none).n
  | .box l, _, _, _, q => .ptr (some (q, 0))
  | .fn g l, i, j, t, q => .fn (.func g) [] (AB.puts v l i j t q)
def AB.puts (v : AW) : List AB → Nat → Nat → Nat → Nat → List CV
  | [], _, _, _, _ => []
  | p :: l, i, j, t, q => p.put v i j t q :: AB.puts v l (i + p.ni) (j + p.nb) (t + p.nt) (q + p.nq)
end

mutual
/-- The blocks, one after another from the number q on. -/
def AB.blks (v : AW) : AB → Nat → Nat → Nat → Nat → List Blk
  | .int _, _, _, _, _ => []
  | .bool, _, _, _, _ => []
  | .agg l, i, j, t, q => AB.blkss v l i j t q
  | .fn _ l, i, j, t, q => AB.blkss v l i j t q
  | .rows ks, _, _, t, _ => [tabB ks (v.t.getD t .none)]
  | .box l, i, j, t, q => boxB (AB.puts v l i j t (q + 1)) :: AB.blkss v l i j t (q + 1)
def AB.blkss (v : AW) : List AB → Nat → Nat → Nat → Nat → List Blk
  | [], _, _, _, _ => []
  | p :: l, i, j, t, q => p.blks v i j t q ++ AB.blkss v l (i + p.ni) (j + p.nb) (t + p.nt) (q + p.nq)
end

mutual
theorem AB.blks_length (v : AW) : ∀ (p : AB) (i j t q : Nat), (p.blks v i j t q).length = p.nq
  | .int _, _, _, _, _ => by simp [AB.blks, AB.nq]
  | .bool, _, _, _, _ => by simp [AB.blks, AB.nq]
  | .agg l, i, j, t, q => by rw [AB.blks, AB.nq, AB.blkss_length v l]
  | .fn _ l, i, j, t, q => by rw [AB.blks, AB.nq, AB.blkss_length v l]
  | .rows ks, _, _, t, _ => by simp [AB.blks, AB.nq]
  | .box l, i, j, t, q => by rw [AB.blks, AB.nq, List.length_cons, AB.blkss_length v l]
theorem AB.blkss_length (v : AW) : ∀ (l : List AB) (i j t q : Nat), (AB.blkss v l i j t q).length = AB.nqs l
  | [], _, _, _, _ => rfl
  | p :: l, i, j, t, q => by rw [AB.blkss, AB.nqs, List.length_append, AB.blks_length v p, AB.blkss_length v l]
end

theorem AB.put_flat (v : AW) (p : AB) (h : p.flat = true) (i j t q : Nat) : (p.put v i j t q).flat = true := by
  cases p <;> first | (cases h; done) | rfl
theorem AB.puts_flat (v : AW) : ∀ (l : List AB) (i j t q : Nat), l.all AB.flat = true → (AB.puts v l i j t q).all CV.flat = true
  | [], _, _, _, _, _ => by simp [AB.puts]
  | p :: l, i, j, t, q, h => by
    simp only [List.all_cons, Bool.and_eq_true] at h
    rw [AB.puts, List.all_cons, AB.put_flat v p h.1, AB.puts_flat v l _ _ _ _ h.2]; rfl
theorem AB.puts_length (v : AW) : ∀ (l : List AB) (i j t q : Nat), (AB.puts v l i j t q).length = l.length
  | [], _, _, _, _ => by simp [AB.puts]
  | p :: l, i, j, t, q => by rw [AB.puts, List.length_cons, AB.puts_length v l, List.length_cons]

/-- What was found: the values, the facts that they rest on, the blocks that are read, how many blocks the call has. -/
structure AX where
  v : AW
  sh : List Bool
  R : List Nat
  q : Nat

/-- What a function value holds on to, if it is this function. -/
def fnOf (f : Nat) : CV → Option (List CV)
  | .fn (.func f') [] m => bif Nat.beq f f' then some m else none
  | _ => none
/-- Cells that a pointer points to, and their block. -/
noncomputable def boxOf (s : St) (l : List AB) : CV → Option (Nat × List CV)
  | .ptr (some (b, o)) => bif l.all AB.flat then (match s.ld b o l.length with | some cs => some (b, cs) | none => none) else none
  | _ => none
theorem fnOf_ok {f : Nat} {c : CV} {m : List CV} (h : fnOf f c = some m) : c = .fn (.func f) [] m := by
  unfold fnOf at h
  split at h
  · rename_i f' m'
    cases hf : Nat.beq f f' with
    | false => rw [hf, cond_false] at h; cases h
    | true =>
      rw [hf, cond_true] at h
      cases h
      rw [Nat.eq_of_beq_eq_true hf]
  · cases h
theorem boxOf_ok {s : St} {l : List AB} {c : CV} {b : Nat} {cs : List CV} (h : boxOf s l c = some (b, cs)) : ∃ o, c = .ptr (some (b, o)) ∧ l.all AB.flat = true ∧ s.ld b o l.length = some cs := by
  unfold boxOf at h
  split at h
  · rename_i b' o
    cases hf : l.all AB.flat with
    | false => rw [hf, cond_false] at h; cases h
    | true =>
      rw [hf, cond_true] at h
      split at h
      · rename_i cs' hld
        cases h
        exact ⟨o, rfl, rfl, hld⟩
      · cases h
  · cases h

mutual
noncomputable def AB.get (s : St) : AB → CV → AX → Option AX
  | .int k, .int k' e, g => bif decide (k = k') then (match e.num with | some n => some ⟨⟨g.v.i ++ [n], g.v.b, g.v.t⟩, g.sh, g.R, g.q⟩ | none => none) else none
  | .bool, .bool e, g => match e.val with | some b => some ⟨⟨g.v.i, g.v.b ++ [b], g.v.t⟩, g.sh, g.R, g.q⟩ | none => none
  | .agg l, .agg m, g => AB.gets s l m g
  | .rows ks, c, g => match rowsOf s ks c with | some (t, sh, R) => some ⟨⟨g.v.i, g.v.b, g.v.t ++ [t]⟩, g.sh ++ sh, g.R ++ R, g.q + 1⟩ | none => none
  | .box l, c, g => match boxOf s l c with | some (b, cs) => AB.gets s l cs ⟨g.v, g.sh, g.R ++ [b], g.q + 1⟩ | none => none
  | .fn f l, c, g => match fnOf f c with | some m => AB.gets s l m g | none => none
  | _, _, _ => none
noncomputable def AB.gets (s : St) : List AB → List CV → AX → Option AX
  | [], [], g => some g
  | p :: l, c :: m, g => match AB.get s p c g with | some g => AB.gets s l m g | none => none
  | _, _, _ => none
end

/-- A block that is read alone, where it lies, under these names. -/
structure AtR (ρ : Env) (τ : Mp) (w : World) (k : Blk) (lo : Option Loc) : Prop where
  live : k.live = true
  ro : k.ro = true
  ext : k.ext = none
  at' : ∀ l, lo = some l → ∃ c t p, w.heap[l.blk]? = some (.cells c t p) ∧ c.size = l.size ∧ k.esz = l.esz ∧ l.base + k.cells.length ≤ l.size ∧ VRl ρ τ k.cells ((c.toList.drop l.base).take k.cells.length)

theorem ArgAt.atR {ρ : Env} {w : World} {k : Blk} {lo : Option Loc} (h : ArgAt ρ w k lo) (τ : Mp) : AtR ρ τ w k lo :=
  ⟨h.live, h.ro, h.ext, fun l hl => by obtain ⟨c, t, p, q1, q2, q3, q4, q5⟩ := h.at' l hl; exact ⟨c, t, p, q1, q2, q3, q4, q5 τ⟩⟩

theorem HR.ofR {ρ : Env} {h : Tr Blk} {base : Nat} {σ : Mp} {w : World} (hL : Laid w) (ha : ∀ i k, i < base → h.get i = some k → AtR ρ σ w k (σ i)) : HR ρ σ (curOf h base) w := by
  have get : ∀ b k, curOf h base b = some k → AtR ρ σ w k (σ b) := fun b k hk => by
    unfold curOf at hk
    split at hk
    · rename_i hb; exact ha b k hb hk
    · cases hk
  refine ⟨fun b k l a1 a2 a3 => ?_, fun b b' k k' l l' a1 a2 a3 a4 a5 a6 a7 a8 => ?_, fun b k x l a1 a2 a3 => ?_, fun b b' k k' x x' l l' a1 a2 a3 a4 a5 a6 a7 => ?_, fun y hy => ⟨hL y hy, fun b k l a1 _ ar _ => by rw [(get b k a1).ro] at ar; cases ar⟩⟩
  · have := get b k a1
    obtain ⟨c, t, p, q1, q2, q3, q4, q5⟩ := this.at' l a3
    exact ⟨c, t, p, q1, (fun h => by rw [this.ro] at h; cases h), q2, q3, q4, q5⟩
  · rw [(get b k a1).ro, (get b' k' a4).ro] at a8
    rcases a8 with h | h <;> cases h
  · rw [(get b k a1).ext] at a2; cases a2
  · rw [(get b k a1).ext] at a2; cases a2

/-- What is there of an argument. -/
structure AGot (ρ : Env) (s : St) (ni nb nt nq : Nat) (g g' : AX) (bl : AW → List Blk) {V : Type} (rel0 : Mp → V → Prop) (rel1 : AW → Mp → V → Prop) : Prop where
  pre : g.v.pre g'.v
  li : g'.v.i.length = g.v.i.length + ni
  lb : g'.v.b.length = g.v.b.length + nb
  lt : g'.v.t.length = g.v.t.length + nt
  lq : g'.q = g.q + nq
  sh : ∃ l, g'.sh = g.sh ++ l
  R : ∃ l, g'.R = g.R ++ l
  le : (∀ b ∈ g.R, b < s.next) → ∀ b ∈ g'.R, b < s.next
  ok : ∀ (σ : Mp) (cur : Cur) (w : World) (v : V), rel0 σ v → (∀ b ∈ g'.sh, b = true) → HR ρ σ cur w → (∀ b ∈ g'.R, cur b = s.heap.get b) →
    ∃ los : List (Option Loc), los.length = nq ∧ ∀ (u : AW) (τ : Mp), g'.v.pre u → (∀ j lo, los[j]? = some lo → τ (g.q + j) = lo) → rel1 u τ v ∧ ∀ j k, (bl u)[j]? = some k → AtR ρ τ w k (τ (g.q + j))

section
variable {P : Program} {ρ : Env} {s : St}

theorem VR.ptr_inv' {σ : Mp} {b o : Nat} {v : Value} (h : VR ρ σ (.ptr (some (b, o))) v) : ∃ l, σ b = some l ∧ v = .pointer (some ⟨l.blk, l.base + o, none⟩) := by
  cases h with
  | ptr hl => exact ⟨_, hl, rfl⟩

mutual
theorem AB.get_ok : ∀ {p : AB} {c : CV} {g g' : AX}, AB.get s p c g = some g' → AGot ρ s p.ni p.nb p.nt p.nq g g' (fun u => p.blks u g.v.i.length g.v.b.length g.v.t.length g.q) (fun σ v => VR ρ σ c v) (fun u τ v => VR ρ τ (p.put u g.v.i.length g.v.b.length g.v.t.length g.q) v)
  | .int k, c, g, g', h => by
    cases c <;> simp only [AB.get] at h <;> try (cases h; done)
    rename_i k' e
    cases hk : decide (k = k') with
    | false => rw [hk] at h; cases h
    | true =>
      rw [hk, cond_true] at h
      obtain rfl := of_decide_eq_true hk
      cases e <;> simp only [IE.num] at h <;> try (cases h; done)
      all_goals
        cases h
        refine ⟨⟨⟨_, rfl⟩, ⟨[], by simp⟩, ⟨[], by simp⟩⟩, by simp [AB.ni], by simp [AB.nb], by simp [AB.nt], by simp [AB.nq], ⟨[], by simp⟩, ⟨[], by simp⟩, fun h => h, fun σ cur w v hv _ _ _ => ⟨[], by simp [AB.nq], fun u τ hu _ => ⟨?_, fun j k hj => by simp [AB.blks] at hj⟩⟩⟩
        obtain ⟨⟨l, e⟩, _⟩ := hu
        simp only [AB.put, getD_pre_end e]
        cases hv
        first | exact .int k (.x _)
  | .bool, c, g, g', h => by
    cases c <;> simp only [AB.get] at h <;> try (cases h; done)
    rename_i e
    cases e <;> simp only [BE.val] at h <;> try (cases h; done)
    all_goals
      cases h
      refine ⟨⟨⟨[], by simp⟩, ⟨_, rfl⟩, ⟨[], by simp⟩⟩, by simp [AB.ni], by simp [AB.nb], by simp [AB.nt], by simp [AB.nq], ⟨[], by simp⟩, ⟨[], by simp⟩, fun h => h, fun σ cur w v hv _ _ _ => ⟨[], by simp [AB.nq], fun u τ hu _ => ⟨?_, fun j k hj => by simp [AB.blks] at hj⟩⟩⟩
      obtain ⟨_, ⟨l, e⟩, _⟩ := hu
      simp only [AB.put, getD_pre_end e]
      cases hv
      first | exact .bool (.x _)
  | .agg l, c, g, g', h => by
    cases c <;> simp only [AB.get] at h <;> try (cases h; done)
    have k := AB.gets_ok h
    refine ⟨k.pre, by rw [k.li, AB.ni], by rw [k.lb, AB.nb], by rw [k.lt, AB.nt], by rw [k.lq, AB.nq], k.sh, k.R, k.le, fun σ cur w v hv h1 h2 h3 => ?_⟩
    obtain ⟨cs, rfl, hl⟩ := VR.agg_inv hv
    obtain ⟨los, q1, q2⟩ := k.ok σ cur w _ hl h1 h2 h3
    refine ⟨los, by rw [q1, AB.nq], fun u τ hu hτ => ?_⟩
    obtain ⟨r1, r2⟩ := q2 u τ hu hτ
    exact ⟨by rw [AB.put]; exact .agg r1, by simpa only [AB.blks] using r2⟩
  | .fn f l, c, g, g', h => by
    simp only [AB.get] at h
    split at h
    rotate_left
    · cases h
    rename_i m hm
    obtain rfl := fnOf_ok hm
    have k := AB.gets_ok h
    refine ⟨k.pre, by rw [k.li, AB.ni], by rw [k.lb, AB.nb], by rw [k.lt, AB.nt], by rw [k.lq, AB.nq], k.sh, k.R, k.le, fun σ cur w v hv h1 h2 h3 => ?_⟩
    cases hv with
    | fn _ ha hb =>
      obtain ⟨los, q1, q2⟩ := k.ok σ cur w _ hb h1 h2 h3
      refine ⟨los, by rw [q1, AB.nq], fun u τ hu hτ => ?_⟩
      obtain ⟨r1, r2⟩ := q2 u τ hu hτ
      refine ⟨by rw [AB.put]; exact .fn _ (by
        generalize hx : Array.toList _ = xs at ha
        cases ha
        exact .nil) r1, by simpa only [AB.blks] using r2⟩
  | .rows ks, c, g, g', h => by
    simp only [AB.get] at h
    split at h
    · rename_i t sh R hr
      cases h
      refine ⟨⟨⟨[], by simp⟩, ⟨[], by simp⟩, ⟨_, rfl⟩⟩, by simp [AB.ni], by simp [AB.nb], by simp [AB.nt], by simp [AB.nq], ⟨_, rfl⟩, ⟨_, rfl⟩, fun h b hb => ?_, fun σ cur w v hv h1 h2 h3 => ?_⟩
      · rcases List.mem_append.1 hb with hb | hb
        · exact h b hb
        · exact rowsOf_lt hr b hb
      · obtain ⟨_, lo, q1, q2⟩ := rowsOf_ok hr (fun b hb => h1 b (List.mem_append_right _ hb)) h2 (fun b hb => h3 b (List.mem_append_right _ hb)) hv
        refine ⟨[lo], by simp [AB.nq], fun u τ hu hτ => ?_⟩
        have h0 := hτ 0 lo rfl
        obtain ⟨_, _, m, e⟩ := hu
        refine ⟨?_, fun j k hj => ?_⟩
        · simp only [AB.put, getD_pre_end e]
          exact q2 _ τ h0
        · simp only [AB.blks, getD_pre_end e] at hj
          cases j with
          | zero =>
            simp only [List.getElem?_cons_zero, Option.some.injEq] at hj
            subst hj
            rw [h0]
            exact q1.atR τ
          | succ j => simp at hj
    · cases h
  | .box l, c, g, g', h => by
    simp only [AB.get] at h
    split at h
    rotate_left
    · cases h
    rename_i b cs hbc
    obtain ⟨o, rfl, hfl, hld⟩ := boxOf_ok hbc
    have k := AB.gets_ok h
    obtain ⟨r1, e1⟩ := k.R
    simp only [List.append_assoc] at e1
    obtain ⟨kb, g1, g2, g3, g4, g5⟩ := ld_parts hld
    refine ⟨k.pre, by rw [k.li, AB.ni], by rw [k.lb, AB.nb], by rw [k.lt, AB.nt], by rw [k.lq, AB.nq]; simp only; omega, k.sh, ⟨_, e1⟩, fun h => k.le (fun x hx => ?_), fun σ cur w v hv h1 h2 h3 => ?_⟩
    · rcases List.mem_append.1 hx with hx | hx
      · exact h x hx
      · obtain rfl := List.mem_singleton.1 hx
        exact g5
    · obtain ⟨lb, hl, rfl⟩ := hv.ptr_inv'
      have hcb := h3 b (by rw [e1]; simp)
      obtain ⟨c, t, p, w1, w2, w3, w4, w5, w6⟩ := h2.cell b kb lb (hcb.trans g1) g2 hl
      have hcs : VRl ρ σ cs ((c.toList.drop (lb.base + o)).take l.length) := by
        have := (w6.drop o).take l.length
        rw [← g4, List.drop_take, List.take_take, List.drop_drop, Nat.min_eq_left (by omega)] at this
        exact this
      obtain ⟨los, q1, q2⟩ := k.ok σ cur w _ hcs h1 h2 h3
      refine ⟨some ⟨lb.blk, lb.base + o, lb.size, l.length⟩ :: los, by rw [List.length_cons, q1, AB.nq], fun u τ hu hτ => ?_⟩
      have h0 := hτ 0 _ rfl
      rw [Nat.add_zero] at h0
      obtain ⟨r1, r2⟩ := q2 u τ hu (fun j lo hj => by
        have := hτ (j + 1) lo (by simpa using hj)
        show τ (g.q + 1 + j) = lo
        rwa [show g.q + 1 + j = g.q + (j + 1) by omega])
      have hflat := fl_id (AB.puts_flat u l g.v.i.length g.v.b.length g.v.t.length (g.q + 1) hfl)
      refine ⟨?_, fun j kk hj => ?_⟩
      · rw [AB.put]
        exact .ptr h0
      · rw [AB.blks] at hj
        cases j with
        | zero =>
          simp only [List.getElem?_cons_zero, Option.some.injEq] at hj
          subst hj
          show AtR ρ τ w _ (τ g.q)
          rw [h0]
          refine ⟨rfl, rfl, rfl, fun l' hl' => ?_⟩
          cases hl'
          have hlen : (AB.puts u l g.v.i.length g.v.b.length g.v.t.length (g.q + 1)).length = l.length := AB.puts_length u l _ _ _ _
          refine ⟨c, t, p, w1, w3, hlen, ?_, ?_⟩
          · rw [boxB_cells, hflat, hlen]; show lb.base + o + l.length ≤ lb.size; omega
          · rw [boxB_cells, hflat, hlen]
            exact r1
        | succ j =>
          have := r2 j kk (by simpa using hj)
          have e : g.q + 1 + j = g.q + (j + 1) := by omega
          have this : AtR ρ τ w kk (τ (g.q + 1 + j)) := this
          rwa [e] at this
theorem AB.gets_ok : ∀ {l : List AB} {m : List CV} {g g' : AX}, AB.gets s l m g = some g' → AGot ρ s (AB.nis l) (AB.nbs l) (AB.nts l) (AB.nqs l) g g' (fun u => AB.blkss u l g.v.i.length g.v.b.length g.v.t.length g.q) (fun σ v => VRl ρ σ m v) (fun u τ v => VRl ρ τ (AB.puts u l g.v.i.length g.v.b.length g.v.t.length g.q) v)
  | [], m, g, g', h => by
    cases m <;> simp only [AB.gets] at h <;> try (cases h; done)
    cases h
    exact ⟨g.v.pre_refl, by simp [AB.nis], by simp [AB.nbs], by simp [AB.nts], by simp [AB.nqs], ⟨[], by simp⟩, ⟨[], by simp⟩, fun h => h, fun σ cur w v hv _ _ _ => ⟨[], by simp [AB.nqs], fun u τ _ _ => ⟨by cases hv; simpa [AB.puts] using VRl.nil, fun j k hj => by simp [AB.blkss] at hj⟩⟩⟩
  | p :: l, m, g, g', h => by
    cases m <;> simp only [AB.gets] at h <;> try (cases h; done)
    rename_i c m
    cases hc : AB.get s p c g with
    | none => rw [hc] at h; cases h
    | some g1 =>
      rw [hc] at h
      have k1 := AB.get_ok hc
      have k2 := AB.gets_ok (l := l) h
      obtain ⟨s1, e1⟩ := k1.sh
      obtain ⟨s2, e2⟩ := k2.sh
      obtain ⟨r1, f1⟩ := k1.R
      obtain ⟨r2, f2⟩ := k2.R
      refine ⟨AW.pre_trans k1.pre k2.pre, by rw [k2.li, k1.li, AB.nis]; omega, by rw [k2.lb, k1.lb, AB.nbs]; omega, by rw [k2.lt, k1.lt, AB.nts]; omega, by rw [k2.lq, k1.lq, AB.nqs]; omega, ⟨s1 ++ s2, by rw [e2, e1, List.append_assoc]⟩, ⟨r1 ++ r2, by rw [f2, f1, List.append_assoc]⟩, fun h => k2.le (k1.le h), fun σ cur w v hv h1 h2 h3 => ?_⟩
      cases hv with
      | cons hv1 hvl =>
        obtain ⟨lo1, a1, a2⟩ := k1.ok σ cur w _ hv1 (fun b hb => h1 b (by rw [e2]; exact List.mem_append_left _ hb)) h2 (fun b hb => h3 b (by rw [f2]; exact List.mem_append_left _ hb))
        obtain ⟨lo2, b1, b2⟩ := k2.ok σ cur w _ hvl h1 h2 h3
        refine ⟨lo1 ++ lo2, by rw [List.length_append, a1, b1, AB.nqs], fun u τ hu hτ => ?_⟩
        obtain ⟨c1, c2⟩ := a2 u τ (AW.pre_trans k2.pre hu) (fun j lo hj => hτ j lo (by
            rw [List.getElem?_append_left]; exact hj
            exact (List.getElem?_eq_some_iff.1 hj).1))
        obtain ⟨d1, d2⟩ := b2 u τ hu (fun j lo hj => by
            have := hτ (p.nq + j) lo (by rw [List.getElem?_append_right (by omega), a1, show p.nq + j - p.nq = j by omega]; exact hj)
            rw [k1.lq]
            rwa [show g.q + p.nq + j = g.q + (p.nq + j) by omega])
        rw [k1.li, k1.lb, k1.lt, k1.lq] at d1 d2
        refine ⟨by rw [AB.puts]; exact .cons c1 d1, fun j k hj => ?_⟩
        rw [AB.blkss] at hj
        by_cases hlt : j < p.nq
        · rw [List.getElem?_append_left (by rw [AB.blks_length]; exact hlt)] at hj
          exact c2 j k hj
        · rw [List.getElem?_append_right (by rw [AB.blks_length]; omega), AB.blks_length] at hj
          have := d2 (j - p.nq) k hj
          rwa [show g.q + p.nq + (j - p.nq) = g.q + j by omega] at this
end
end

/-! ## The memo -/

def numB : Nat → List Blk → List (Nat × Blk)
  | _, [] => []
  | q, k :: l => (q, k) :: numB (q + 1) l
def AB.hp (v : AW) (ps : List AB) : List (Nat × Blk) := numB 0 (AB.blkss v ps 0 0 0 0)

theorem numB_get (i : Nat) : ∀ (l : List Blk) (q : Nat) (k : Blk), (mkH (numB q l)).get i = some k → ∃ j, i = q + j ∧ l[j]? = some k
  | [], q, k, h => by simp [numB, mkH, Tr.get_nil] at h
  | b :: l, q, k, h => by
    simp only [numB, mkH, Tr.get_set] at h
    by_cases hi : i = q
    · rw [if_pos hi] at h
      cases h
      exact ⟨0, by omega, rfl⟩
    · rw [if_neg hi] at h
      obtain ⟨j, h1, h2⟩ := numB_get i l (q + 1) k h
      exact ⟨j + 1, by omega, by simpa using h2⟩

/-- Calls of a function are known from its automaton. -/
noncomputable def memoF {N R : Type} [Inhabited R] (g : Nat) (ps : List AB) (F : AW → AF N R) (rw' : R → CV) (hw : R → List (Nat × Blk)) (nw : Nat) (inner : Memo) : Memo := fun f args s =>
  bif Nat.beq f g then
    match AB.gets s ps args ⟨⟨[], [], []⟩, [], [], 0⟩ with
    | some a => match s.musts (a.sh ++ [(F a.v).fin]) with
      | some s1 => some ((rw' (F a.v).val).ren (liftName (AB.nqs ps) s.next), { s1 with heap := putNew (AB.nqs ps) s.next s.heap (hw (F a.v).val), next := s.next + (nw - (AB.nqs ps)) }, a.R, [])
      | none => none
    | none => inner f args s
  else inner f args s

structure KnownF (P : Program) (ρ : Env) (g : Nat) (ps : List AB) {N R : Type} (F : AW → AF N R) (rw' : R → CV) (hw : R → List (Nat × Blk)) (nw : Nat) : Prop where
  fn : ∃ fn, P.funcs[g]? = some fn ∧ fn.body.isSome = true
  le : AB.nqs ps ≤ nw
  full : ∀ r, (hw r).map Prod.fst = List.range' (AB.nqs ps) (nw - (AB.nqs ps))
  rg : ∀ r, (rw' r).rng (AB.nqs ps) nw = true
  hg : ∀ r, ∀ x ∈ hw r, x.2.body.Rg (AB.nqs ps) nw ∧ x.2.ext = none
  ctr : ∀ v n r, (F v).run n = some r → Ctr P ρ g (AB.puts v ps 0 0 0 0) (mkH (AB.hp v ps)) (AB.nqs ps) [] (rw' r) (putH (mkH (AB.hp v ps)) (hw r)) nw

theorem memoF_ok {P : Program} {ρ : Env} {N R : Type} [Inhabited R] {g : Nat} {ps : List AB} {F : AW → AF N R} {rw' : R → CV} {hw : R → List (Nat × Blk)} {nw : Nat} {inner : Memo} (K : KnownF P ρ g ps F rw' hw nw) (hi : MemoOk P (ctxOf P inner) ρ) : MemoOk P (ctxOf P (memoF g ps F rw' hw nw inner)) ρ := by
  have lift : ∀ {f args s c s' R' W}, CallOk P (ctxOf P inner) ρ f args s c s' R' W → CallOk P (ctxOf P (memoF g ps F rw' hw nw inner)) ρ f args s c s' R' W := fun h => ⟨h.fn, h.frm, h.lt, h.run⟩
  intro f args s c s' R' W h0
  have h : memoF g ps F rw' hw nw inner f args s = some (c, s', R', W) := h0
  clear h0
  unfold memoF at h
  cases hf : Nat.beq f g with
  | false => rw [hf, cond_false] at h; exact lift (hi _ _ _ _ _ _ _ h)
  | true =>
    rw [hf, cond_true] at h
    obtain rfl := Nat.eq_of_beq_eq_true hf
    split at h
    · rename_i a ha
      split at h
      · rename_i s1 hm
        cases h
        obtain ⟨m1, m2, ⟨lm, m3⟩, m4⟩ := musts_parts (ρ := ρ) hm
        have k := AB.gets_ok (ρ := ρ) ha
        have facts : (∀ p ∈ s1.pc, p.holds ρ) → ∀ b ∈ a.sh ++ [(F a.v).fin], b = true := m4
        have hR := k.le (fun b hb => by cases hb)
        have find : ∀ (r : R) (j : Nat), AB.nqs ps + j < nw → ∃ x, (hw r).find? (fun x => x.1 == AB.nqs ps + j) = some x := fun r j hj => by
          have hmem : AB.nqs ps + j ∈ (hw r).map Prod.fst := by rw [K.full]; rw [List.mem_range']; exact ⟨j, by omega, by omega⟩
          obtain ⟨x, hx, he⟩ := List.mem_map.1 hmem
          cases hf : (hw r).find? (fun x => x.1 == AB.nqs ps + j) with
          | some y => exact ⟨y, rfl⟩
          | none =>
            rw [List.find?_eq_none] at hf
            exact absurd (by simp [he]) (hf x hx)
        have rngw : ∀ (r : R), ∀ x ∈ hw r, AB.nqs ps ≤ x.1 ∧ x.1 < nw := fun r x hx => by
          have : x.1 ∈ (hw r).map Prod.fst := List.mem_map.2 ⟨x, hx, rfl⟩
          rw [K.full, List.mem_range'] at this
          obtain ⟨i, h1, h2⟩ := this
          omega
        refine Ctr.callS (base := AB.nqs ps) (n1 := nw) (args := AB.puts a.v ps 0 0 0 0) (h0 := mkH (AB.hp a.v ps)) (h1 := putH (mkH (AB.hp a.v ps)) (hw (F a.v).val)) (K := fun hp => ?_) K.fn K.le rfl ⟨lm, m3⟩ (fun b hb => ?_) (fun j hj kb hk => ?_) hR (fun σ cur w l hp hl hH hcur => ?_) (fun σ σ2 v hl hv => hv.lift hl (K.rg _))
        · have hfin : (F a.v).fin = true := facts hp _ (List.mem_append_right _ (List.mem_singleton_self _))
          obtain ⟨n, hn⟩ := AF.fin_run hfin
          exact K.ctr a.v n _ hn
        · show (putNew _ _ _ _).get b = _
          rw [get_putNew]
          split
          · rename_i x hx
            have h1 := List.find?_some hx
            have h2 := List.mem_of_find?_eq_some hx
            simp only [beq_iff_eq] at h1
            obtain ⟨q1, q2⟩ := rngw _ x h2
            refine absurd ?_ hb
            show s.next ≤ b ∧ b < s.next + (nw - AB.nqs ps)
            unfold liftName at h1
            omega
          · rfl
        · have hk : (putNew (AB.nqs ps) s.next s.heap (hw (F a.v).val)).get (s.next + j) = some kb := hk
          rw [get_putNew] at hk
          have e : ∀ x ∈ hw (F a.v).val, (liftName (AB.nqs ps) s.next x.1 == s.next + j) = (x.1 == AB.nqs ps + j) := fun x hx => by
            obtain ⟨q1, q2⟩ := rngw _ x hx
            unfold liftName
            rw [Bool.eq_iff_iff]
            simp only [beq_iff_eq]
            omega
          obtain ⟨x, hx⟩ := find (F a.v).val j hj
          have hx2 : (hw (F a.v).val).find? (fun x => liftName (AB.nqs ps) s.next x.1 == s.next + j) = some x := by
            rw [← hx]
            exact find_congr e
          rw [hx2] at hk
          cases hk
          have hmem := List.mem_of_find?_eq_some hx
          obtain ⟨g1, g2⟩ := K.hg _ x hmem
          refine ⟨x.2, ?_, rfl, rfl, rfl, fun h => ?_, fun σ σ2 us hl h => Blk.lift hl g1 h⟩
          · rw [get_putH, hx]
          · have : (x.2.ren (liftName (AB.nqs ps) s.next)).ro = x.2.ro := by
              generalize x.2 = kk
              obtain ⟨bb, e, v, xx⟩ := kk
              cases bb <;> rfl
            rw [← this]; exact h
        · have fa := facts hp
          obtain ⟨los, q1, q2⟩ := k.ok σ cur w l hl (fun b hb => fa b (List.mem_append_left _ hb)) hH hcur
          obtain ⟨r1, r2⟩ := q2 a.v (fun b => if b < AB.nqs ps then (los[b]?).getD none else none) a.v.pre_refl (fun j lo hj => by
            have : j < los.length := (List.getElem?_eq_some_iff.1 hj).1
            show (if 0 + j < _ then (los[0 + j]?).getD none else none) = lo
            rw [Nat.zero_add, if_pos (by omega), hj]; rfl)
          refine ⟨_, r1, HR.ofR (HR.laid (by assumption)) (fun i kb hi hk => ?_), fun b hb => if_neg (by omega)⟩
          obtain ⟨j, rfl, h2⟩ := numB_get i _ _ _ hk
          exact r2 j kb h2
      · cases h
    · exact lift (hi _ _ _ _ _ _ _ h)

/-- What a call with slices alone has known of it (XCxZS) serves here, too: not wanted yet. -/
theorem KnownF.weak {P : Program} {ρ : Env} {g : Nat} {ps : List AB} {N R : Type} {F : AW → AF N R} {rw' : R → CV} {hw : R → List (Nat × Blk)} {nw : Nat} (K : KnownF P ρ g ps F rw' hw nw) : AB.nqs ps ≤ nw := K.le
end Go.Proofs.YthhceoendicboaaGreat.Cx

/- slices.IndexFunc[[]acme/api.WiresAngle,acme/api.WiresAngle] as an automaton. Made by tools/cxauto.py. -/
namespace Go.Proofs.YthhceoendicboaaGreat.Cx
set_option linter.unusedVariables false
set_option linter.unusedSimpArgs false
set_option maxRecDepth 100000
open Go Go.Proofs Go.RowKit

noncomputable abbrev wiaCode : Code := funcCode Tryz.f94


inductive wiaN where
  | n0 (p0 : Int)

abbrev wiaR := Int

noncomputable def wiaD0 (a0 : Nat) (a1 : Nat → Int) (a2 : Nat → Int) : DD (Lf wiaN wiaR) :=
 .leaf (.next (.n0 0) [])

noncomputable def wiaD (a0 : Nat) (a1 : Nat → Int) (a2 : Nat → Int) : wiaN → DD (Lf wiaN wiaR)
 | .n0 p0 =>
 .ask (Cm.run Cm.lss p0 (↑a0 : Int))
   (.must (decide (0 ≤ p0))
   (.must (decide (p0 < (↑a0 : Int)))
   (.must (decide (0 + Int.toNat p0 < a0))
   (.ask (Cm.run Cm.lss (a1 (0 + Int.toNat p0)) 1001)
   (.leaf (.done p0 []))
   (.ask (Cm.run Cm.gtr (a1 (0 + Int.toNat p0)) 20000)
   (.leaf (.done p0 []))
   (.ask (Cm.run Cm.lss (a2 (0 + Int.toNat p0)) 0)
   (.leaf (.done p0 []))
   (.ask (Cm.run Cm.gtr (a2 (0 + Int.toNat p0)) 20000)
   (.leaf (.done p0 []))
   (.leaf (.next (.n0 (Ar.run Ar.add IntKind.i64 p0 1)) [])))))))))
   (.leaf (.done (-1) []))

noncomputable def wiaA (a0 : Nat) (a1 : Nat → Int) (a2 : Nat → Int) : AF wiaN wiaR where
  code := wiaCode
  base := 2
  nt := 19
  m := 400
  un := []
  W := []
  h0 := [(0, ⟨.arg a0 2 (fun i => [.int .i64 (.x (a1 i)), .int .i64 (.x (a2 i))]) (fun _ => ⟨rfl, rfl⟩), 2, true, none⟩), (1, ⟨.arg 1 1 (fun i => [.fn (.func 45) [] []]) (fun _ => ⟨rfl, rfl⟩), 1, true, none⟩)]
  args := [.sla 0 2 0 a0, .fn (.func 74) [] [.ptr (some (1, 0))]]
  res := (Tryz.f94).results.toList
  path := fun a => match a with
   | .n0 p0 => [1, 0, 1, 0]
  pd := fun a => match a with
   | .n0 p0 => ⟨[(0, .sla 0 2 0 a0), (1, .fn (.func 74) [] [.ptr (some (1, 0))]), (7, .int .i64 (.x (↑a0))), (8, .int .i64 (.x p0))], [], 2, []⟩
  D0 := wiaD0 a0 a1 a2
  D := wiaD a0 a1 a2
  rc := (fun v => .int .i64 (.x v))
  rh := (fun v => [])
  rn := (fun v => 2)
  rx := (fun v => [])
  rgo := (fun _ => none)


theorem wiastart (a0 : Nat) (a1 : Nat → Int) (a2 : Nat → Int) : AF.edgeOk (wiaA a0 a1 a2) (ctxOf Tryz.prog memo0) (wiaD0 a0 a1 a2) (AF.run0 (wiaA a0 a1 a2) (ctxOf Tryz.prog memo0)) := by unfold AF.edgeOk; kernel_rfl

theorem wianode0 (a0 : Nat) (a1 : Nat → Int) (a2 : Nat → Int) (p0 : Int) : AF.edgeOk (wiaA a0 a1 a2) (ctxOf Tryz.prog memo0) (wiaD a0 a1 a2 (.n0 p0)) (AF.runN (wiaA a0 a1 a2) (ctxOf Tryz.prog memo0) (.n0 p0)) := by unfold AF.edgeOk; kernel_rfl

theorem wiaok (a0 : Nat) (a1 : Nat → Int) (a2 : Nat → Int) : (wiaA a0 a1 a2).Ok Tryz.prog (ctxOf Tryz.prog memo0) where
  regs := by kernel_rfl
  h0 := by kernel_rfl
  start := wiastart a0 a1 a2
  node := fun a _ => match a with
   | .n0 p0 => wianode0 a0 a1 a2 p0
  pd := fun a => match a with
   | .n0 p0 => ⟨(fa_cons rfl (fa_cons rfl (fa_cons rfl (fa_cons rfl fa_nil)))), fa_nil, fa_nil, rfl⟩
  le := fun a => match a with
   | .n0 p0 => Nat.le_of_ble_eq_true rfl
  rd := fun v => ⟨⟨fa_nil, fa_nil, fa_nil, rfl⟩, rfl⟩
  wb := rfl


theorem wiahR {ρ : Env} (a0 : Nat) (a1 : Nat → Int) (a2 : Nat → Int) (hM : MemoOk Tryz.prog (ctxOf Tryz.prog memo0) ρ) : ∀ X a q n D, FxOk ρ X → X.base = (wiaA a0 a1 a2).base → X.nt = (wiaA a0 a1 a2).nt → X.W = (wiaA a0 a1 a2).W → (wiaA a0 a1 a2).rgo a = some q → q n = some D → (wiaA a0 a1 a2).RangeOk Tryz.prog ρ X a D := AF.noRange rfl

theorem wiactr {ρ : Env} (a0 : Nat) (a1 : Nat → Int) (a2 : Nat → Int) {n : Nat} {v : wiaR} (hM : MemoOk Tryz.prog (ctxOf Tryz.prog memo0) ρ) (hv : (wiaA a0 a1 a2).run n = some v) :
    Ctr Tryz.prog ρ 94 (wiaA a0 a1 a2).args (wiaA a0 a1 a2).H0 (wiaA a0 a1 a2).base (wiaA a0 a1 a2).W ((wiaA a0 a1 a2).rc v) (putH (wiaA a0 a1 a2).H0 ((wiaA a0 a1 a2).rh v ++ (wiaA a0 a1 a2).rx v)) ((wiaA a0 a1 a2).rn v) :=
  AF.ctr try_ok hM (wiaok a0 a1 a2) (fn := Tryz.f94) Tryz.func94 rfl rfl (Nat.le_of_ble_eq_true rfl) rfl (wiahR a0 a1 a2 hM) hv


theorem wiamem {ρ : Env} : MemoOk Tryz.prog (ctxOf Tryz.prog memo0) ρ := memo0_ok


abbrev wiaP : List AB := [.rows [some .i64, some .i64], .fn 74 [.box [.fn 45 []]]]

noncomputable def wiaF (v : AW) : AF wiaN wiaR := wiaA (v.t.getD 0 .none).n ((v.t.getD 0 .none).c 0) ((v.t.getD 0 .none).c 1)

noncomputable def wiaW : wiaR → CV := fun v => .int .i64 (.x v)
noncomputable def wiaH : wiaR → List (Nat × Blk) := fun v => []



instance : Inhabited wiaR := ⟨0⟩
theorem wiaknown {ρ : Env} (hM : MemoOk Tryz.prog (ctxOf Tryz.prog memo0) ρ) : KnownF Tryz.prog ρ 94 wiaP wiaF wiaW wiaH 2 where
  fn := ⟨Tryz.f94, Tryz.func94, rfl⟩
  le := Nat.le_of_ble_eq_true rfl
  full := fun r => rfl
  rg := fun r => rfl
  hg := fun r => fa_nil
  ctr := fun v n r h => wiactr (v.t.getD 0 .none).n ((v.t.getD 0 .none).c 0) ((v.t.getD 0 .none).c 1) hM h

end Go.Proofs.YthhceoendicboaaGreat.Cx

/- slices.ContainsFunc[[]acme/api.WiresAngle,acme/api.WiresAngle] as an automaton. Made by tools/cxauto.py. -/
namespace Go.Proofs.YthhceoendicboaaGreat.Cx
set_option linter.unusedVariables false
set_option linter.unusedSimpArgs false
set_option maxRecDepth 100000
open Go Go.Proofs Go.RowKit

noncomputable abbrev wcaCode : Code := funcCode Tryz.f73


abbrev wcaN := Empty

abbrev wcaR := Bool

noncomputable def wcaD0 (a0 : Nat) (a1 : Nat → Int) (a2 : Nat → Int) : DD (Lf wcaN wcaR) :=
 .must (decide (0 + a0 ≤ a0))
   (.must (ShapeOk [some IntKind.i64, some IntKind.i64] (tabOf a0 fun i => [CV.int IntKind.i64 (IE.x (a1 (0 + i))), CV.int IntKind.i64 (IE.x (a2 (0 + i)))]) fun i => [CV.int IntKind.i64 (IE.x (a1 (0 + i))), CV.int IntKind.i64 (IE.x (a2 (0 + i)))])
   (.must (AF.fin (wiaA a0 (fun i => a1 (0 + i)) fun i => a2 (0 + i)))
   (.ask (Cm.run Cm.geq (AF.val (wiaA a0 (fun i => a1 (0 + i)) fun i => a2 (0 + i))) 0)
   (.leaf (.done true []))
   (.leaf (.done false [])))))

noncomputable def wcaD (a0 : Nat) (a1 : Nat → Int) (a2 : Nat → Int) : wcaN → DD (Lf wcaN wcaR) := fun a => nomatch a

noncomputable def wcaA (a0 : Nat) (a1 : Nat → Int) (a2 : Nat → Int) : AF wcaN wcaR where
  code := wcaCode
  base := 2
  nt := 9
  m := 400
  un := []
  W := []
  h0 := [(0, ⟨.arg a0 2 (fun i => [.int .i64 (.x (a1 i)), .int .i64 (.x (a2 i))]) (fun _ => ⟨rfl, rfl⟩), 2, true, none⟩), (1, ⟨.arg 1 1 (fun i => [.fn (.func 45) [] []]) (fun _ => ⟨rfl, rfl⟩), 1, true, none⟩)]
  args := [.sla 0 2 0 a0, .fn (.func 74) [] [.ptr (some (1, 0))]]
  res := (Tryz.f73).results.toList
  path := fun a => nomatch a
  pd := fun a => nomatch a
  D0 := wcaD0 a0 a1 a2
  D := wcaD a0 a1 a2
  rc := (fun v => .bool (.x v))
  rh := (fun v => [])
  rn := (fun v => 2)
  rx := (fun v => [])
  rgo := (fun _ => none)


theorem wcastart (a0 : Nat) (a1 : Nat → Int) (a2 : Nat → Int) : AF.edgeOk (wcaA a0 a1 a2) (ctxOf Tryz.prog memo0) (wcaD0 a0 a1 a2) (AF.run0 (wcaA a0 a1 a2) (ctxOf Tryz.prog (memoF 94 wiaP wiaF wiaW wiaH 2 memo0))) := by unfold AF.edgeOk; kernel_rfl

theorem wcaok (a0 : Nat) (a1 : Nat → Int) (a2 : Nat → Int) : (wcaA a0 a1 a2).Ok Tryz.prog (ctxOf Tryz.prog (memoF 94 wiaP wiaF wiaW wiaH 2 memo0)) where
  regs := by kernel_rfl
  h0 := by kernel_rfl
  start := wcastart a0 a1 a2
  node := fun a _ => nomatch a
  pd := fun a => nomatch a
  le := fun a => nomatch a
  rd := fun v => ⟨⟨fa_nil, fa_nil, fa_nil, rfl⟩, rfl⟩
  wb := rfl


theorem wcahR {ρ : Env} (a0 : Nat) (a1 : Nat → Int) (a2 : Nat → Int) (hM : MemoOk Tryz.prog (ctxOf Tryz.prog (memoF 94 wiaP wiaF wiaW wiaH 2 memo0)) ρ) : ∀ X a q n D, FxOk ρ X → X.base = (wcaA a0 a1 a2).base → X.nt = (wcaA a0 a1 a2).nt → X.W = (wcaA a0 a1 a2).W → (wcaA a0 a1 a2).rgo a = some q → q n = some D → (wcaA a0 a1 a2).RangeOk Tryz.prog ρ X a D := AF.noRange rfl

theorem wcactr {ρ : Env} (a0 : Nat) (a1 : Nat → Int) (a2 : Nat → Int) {n : Nat} {v : wcaR} (hM : MemoOk Tryz.prog (ctxOf Tryz.prog (memoF 94 wiaP wiaF wiaW wiaH 2 memo0)) ρ) (hv : (wcaA a0 a1 a2).run n = some v) :
    Ctr Tryz.prog ρ 73 (wcaA a0 a1 a2).args (wcaA a0 a1 a2).H0 (wcaA a0 a1 a2).base (wcaA a0 a1 a2).W ((wcaA a0 a1 a2).rc v) (putH (wcaA a0 a1 a2).H0 ((wcaA a0 a1 a2).rh v ++ (wcaA a0 a1 a2).rx v)) ((wcaA a0 a1 a2).rn v) :=
  AF.ctr try_ok hM (wcaok a0 a1 a2) (fn := Tryz.f73) Tryz.func73 rfl rfl (Nat.le_of_ble_eq_true rfl) rfl (wcahR a0 a1 a2 hM) hv


theorem wcamem {ρ : Env} : MemoOk Tryz.prog (ctxOf Tryz.prog (memoF 94 wiaP wiaF wiaW wiaH 2 memo0)) ρ := (memoF_ok (wiaknown wiamem) memo0_ok)


abbrev wcaP : List AB := [.rows [some .i64, some .i64], .fn 74 [.box [.fn 45 []]]]

noncomputable def wcaF (v : AW) : AF wcaN wcaR := wcaA (v.t.getD 0 .none).n ((v.t.getD 0 .none).c 0) ((v.t.getD 0 .none).c 1)

noncomputable def wcaW : wcaR → CV := fun v => .bool (.x v)
noncomputable def wcaH : wcaR → List (Nat × Blk) := fun v => []



instance : Inhabited wcaR := ⟨false⟩
theorem wcaknown {ρ : Env} (hM : MemoOk Tryz.prog (ctxOf Tryz.prog (memoF 94 wiaP wiaF wiaW wiaH 2 memo0)) ρ) : KnownF Tryz.prog ρ 73 wcaP wcaF wcaW wcaH 2 where
  fn := ⟨Tryz.f73, Tryz.func73, rfl⟩
  le := Nat.le_of_ble_eq_true rfl
  full := fun r => rfl
  rg := fun r => rfl
  hg := fun r => fa_nil
  ctr := fun v n r h => wcactr (v.t.getD 0 .none).n ((v.t.getD 0 .none).c 0) ((v.t.getD 0 .none).c 1) hM h

end Go.Proofs.YthhceoendicboaaGreat.Cx

/- acme/wires.all[acme/api.WiresAngle] as an automaton. Made by tools/cxauto.py. -/
namespace Go.Proofs.YthhceoendicboaaGreat.Cx
set_option linter.unusedVariables false
set_option linter.unusedSimpArgs false
set_option maxRecDepth 100000
open Go Go.Proofs Go.RowKit

noncomputable abbrev waaCode : Code := funcCode Tryz.f49


abbrev waaN := Empty

abbrev waaR := Bool

noncomputable def waaD0 (a0 : Nat) (a1 : Nat → Int) (a2 : Nat → Int) : DD (Lf waaN waaR) :=
 .must (decide (0 + a0 ≤ a0))
   (.must (ShapeOk [some IntKind.i64, some IntKind.i64] (tabOf a0 fun i => [CV.int IntKind.i64 (IE.x (a1 (0 + i))), CV.int IntKind.i64 (IE.x (a2 (0 + i)))]) fun i => [CV.int IntKind.i64 (IE.x (a1 (0 + i))), CV.int IntKind.i64 (IE.x (a2 (0 + i)))])
   (.must (AF.fin (wcaA a0 (fun i => a1 (0 + i)) fun i => a2 (0 + i)))
   (.leaf (.done (!AF.val (wcaA a0 (fun i => a1 (0 + i)) fun i => a2 (0 + i))) []))))

noncomputable def waaD (a0 : Nat) (a1 : Nat → Int) (a2 : Nat → Int) : waaN → DD (Lf waaN waaR) := fun a => nomatch a

noncomputable def waaA (a0 : Nat) (a1 : Nat → Int) (a2 : Nat → Int) : AF waaN waaR where
  code := waaCode
  base := 1
  nt := 9
  m := 400
  un := []
  W := []
  h0 := [(0, ⟨.arg a0 2 (fun i => [.int .i64 (.x (a1 i)), .int .i64 (.x (a2 i))]) (fun _ => ⟨rfl, rfl⟩), 2, true, none⟩)]
  args := [.sla 0 2 0 a0, .fn (.func 45) [] []]
  res := (Tryz.f49).results.toList
  path := fun a => nomatch a
  pd := fun a => nomatch a
  D0 := waaD0 a0 a1 a2
  D := waaD a0 a1 a2
  rc := (fun v => .bool (.x v))
  rh := (fun v => [])
  rn := (fun v => 1)
  rx := (fun v => [])
  rgo := (fun _ => none)


theorem waastart (a0 : Nat) (a1 : Nat → Int) (a2 : Nat → Int) : AF.edgeOk (waaA a0 a1 a2) (ctxOf Tryz.prog memo0) (waaD0 a0 a1 a2) (AF.run0 (waaA a0 a1 a2) (ctxOf Tryz.prog (memoF 73 wcaP wcaF wcaW wcaH 2 memo0))) := by unfold AF.edgeOk; kernel_rfl

theorem waaok (a0 : Nat) (a1 : Nat → Int) (a2 : Nat → Int) : (waaA a0 a1 a2).Ok Tryz.prog (ctxOf Tryz.prog (memoF 73 wcaP wcaF wcaW wcaH 2 memo0)) where
  regs := by kernel_rfl
  h0 := by kernel_rfl
  start := waastart a0 a1 a2
  node := fun a _ => nomatch a
  pd := fun a => nomatch a
  le := fun a => nomatch a
  rd := fun v => ⟨⟨fa_nil, fa_nil, fa_nil, rfl⟩, rfl⟩
  wb := rfl


theorem waahR {ρ : Env} (a0 : Nat) (a1 : Nat → Int) (a2 : Nat → Int) (hM : MemoOk Tryz.prog (ctxOf Tryz.prog (memoF 73 wcaP wcaF wcaW wcaH 2 memo0)) ρ) : ∀ X a q n D, FxOk ρ X → X.base = (waaA a0 a1 a2).base → X.nt = (waaA a0 a1 a2).nt → X.W = (waaA a0 a1 a2).W → (waaA a0 a1 a2).rgo a = some q → q n = some D → (waaA a0 a1 a2).RangeOk Tryz.prog ρ X a D := AF.noRange rfl

theorem waactr {ρ : Env} (a0 : Nat) (a1 : Nat → Int) (a2 : Nat → Int) {n : Nat} {v : waaR} (hM : MemoOk Tryz.prog (ctxOf Tryz.prog (memoF 73 wcaP wcaF wcaW wcaH 2 memo0)) ρ) (hv : (waaA a0 a1 a2).run n = some v) :
    Ctr Tryz.prog ρ 49 (waaA a0 a1 a2).args (waaA a0 a1 a2).H0 (waaA a0 a1 a2).base (waaA a0 a1 a2).W ((waaA a0 a1 a2).rc v) (putH (waaA a0 a1 a2).H0 ((waaA a0 a1 a2).rh v ++ (waaA a0 a1 a2).rx v)) ((waaA a0 a1 a2).rn v) :=
  AF.ctr try_ok hM (waaok a0 a1 a2) (fn := Tryz.f49) Tryz.func49 rfl rfl (Nat.le_of_ble_eq_true rfl) rfl (waahR a0 a1 a2 hM) hv


theorem waamem {ρ : Env} : MemoOk Tryz.prog (ctxOf Tryz.prog (memoF 73 wcaP wcaF wcaW wcaH 2 memo0)) ρ := (memoF_ok (wcaknown wcamem) memo0_ok)


abbrev waaP : List AB := [.rows [some .i64, some .i64], .fn 45 []]

noncomputable def waaF (v : AW) : AF waaN waaR := waaA (v.t.getD 0 .none).n ((v.t.getD 0 .none).c 0) ((v.t.getD 0 .none).c 1)

noncomputable def waaW : waaR → CV := fun v => .bool (.x v)
noncomputable def waaH : waaR → List (Nat × Blk) := fun v => []



instance : Inhabited waaR := ⟨false⟩
theorem waaknown {ρ : Env} (hM : MemoOk Tryz.prog (ctxOf Tryz.prog (memoF 73 wcaP wcaF wcaW wcaH 2 memo0)) ρ) : KnownF Tryz.prog ρ 49 waaP waaF waaW waaH 1 where
  fn := ⟨Tryz.f49, Tryz.func49, rfl⟩
  le := Nat.le_of_ble_eq_true rfl
  full := fun r => rfl
  rg := fun r => rfl
  hg := fun r => fa_nil
  ctr := fun v n r h => waactr (v.t.getD 0 .none).n ((v.t.getD 0 .none).c 0) ((v.t.getD 0 .none).c 1) hM h

end Go.Proofs.YthhceoendicboaaGreat.Cx

/- slices.IndexFunc[[]acme/api.Span,acme/api.Span] as an automaton. Made by tools/cxauto.py. -/
namespace Go.Proofs.YthhceoendicboaaGreat.Cx
set_option linter.unusedVariables false
set_option linter.unusedSimpArgs false
set_option maxRecDepth 100000
open Go Go.Proofs Go.RowKit

noncomputable abbrev wisCode : Code := funcCode Tryz.f105


inductive wisN where
  | n0 (p0 : Int)

abbrev wisR := Int

noncomputable def wisD0 (a0 : Nat) (a1 : Nat → Int) (a2 : Nat → Int) (a3 : Int) (a4 : Int) : DD (Lf wisN wisR) :=
 .leaf (.next (.n0 0) [])

noncomputable def wisD (a0 : Nat) (a1 : Nat → Int) (a2 : Nat → Int) (a3 : Int) (a4 : Int) : wisN → DD (Lf wisN wisR)
 | .n0 p0 =>
 .ask (Cm.run Cm.lss p0 (↑a0 : Int))
   (.must (decide (0 ≤ p0))
   (.must (decide (p0 < (↑a0 : Int)))
   (.must (decide (0 + Int.toNat p0 < a0))
   (.ask (Cm.run Cm.leq a3 (a1 (0 + Int.toNat p0)))
   (.ask (Cm.run Cm.leq (a1 (0 + Int.toNat p0)) (a2 (0 + Int.toNat p0)))
   (.ask (Cm.run Cm.leq (a2 (0 + Int.toNat p0)) a4)
   (.ask (Cm.run Cm.leq (Ar.run Ar.sub IntKind.i64 (a2 (0 + Int.toNat p0)) (a1 (0 + Int.toNat p0))) 40)
   (.leaf (.next (.n0 (Ar.run Ar.add IntKind.i64 p0 1)) []))
   (.leaf (.done p0 [])))
   (.leaf (.done p0 [])))
   (.leaf (.done p0 [])))
   (.leaf (.done p0 []))))))
   (.leaf (.done (-1) []))

noncomputable def wisA (a0 : Nat) (a1 : Nat → Int) (a2 : Nat → Int) (a3 : Int) (a4 : Int) : AF wisN wisR where
  code := wisCode
  base := 4
  nt := 19
  m := 400
  un := []
  W := []
  h0 := [(0, ⟨.arg a0 2 (fun i => [.int .i64 (.x (a1 i)), .int .i64 (.x (a2 i))]) (fun _ => ⟨rfl, rfl⟩), 2, true, none⟩), (1, ⟨.arg 1 1 (fun i => [.fn (.func 76) [] [.ptr (some (2, 0)), .ptr (some (3, 0))]]) (fun _ => ⟨rfl, rfl⟩), 1, true, none⟩), (2, ⟨.arg 1 1 (fun i => [.int .i64 (.x a3)]) (fun _ => ⟨rfl, rfl⟩), 1, true, none⟩), (3, ⟨.arg 1 1 (fun i => [.int .i64 (.x a4)]) (fun _ => ⟨rfl, rfl⟩), 1, true, none⟩)]
  args := [.sla 0 2 0 a0, .fn (.func 96) [] [.ptr (some (1, 0))]]
  res := (Tryz.f105).results.toList
  path := fun a => match a with
   | .n0 p0 => [1, 0, 1, 0]
  pd := fun a => match a with
   | .n0 p0 => ⟨[(0, .sla 0 2 0 a0), (1, .fn (.func 96) [] [.ptr (some (1, 0))]), (7, .int .i64 (.x (↑a0))), (8, .int .i64 (.x p0))], [], 4, []⟩
  D0 := wisD0 a0 a1 a2 a3 a4
  D := wisD a0 a1 a2 a3 a4
  rc := (fun v => .int .i64 (.x v))
  rh := (fun v => [])
  rn := (fun v => 4)
  rx := (fun v => [])
  rgo := (fun _ => none)


theorem wisstart (a0 : Nat) (a1 : Nat → Int) (a2 : Nat → Int) (a3 : Int) (a4 : Int) : AF.edgeOk (wisA a0 a1 a2 a3 a4) (ctxOf Tryz.prog memo0) (wisD0 a0 a1 a2 a3 a4) (AF.run0 (wisA a0 a1 a2 a3 a4) (ctxOf Tryz.prog memo0)) := by unfold AF.edgeOk; kernel_rfl

theorem wisnode0 (a0 : Nat) (a1 : Nat → Int) (a2 : Nat → Int) (a3 : Int) (a4 : Int) (p0 : Int) : AF.edgeOk (wisA a0 a1 a2 a3 a4) (ctxOf Tryz.prog memo0) (wisD a0 a1 a2 a3 a4 (.n0 p0)) (AF.runN (wisA a0 a1 a2 a3 a4) (ctxOf Tryz.prog memo0) (.n0 p0)) := by unfold AF.edgeOk; kernel_rfl

theorem wisok (a0 : Nat) (a1 : Nat → Int) (a2 : Nat → Int) (a3 : Int) (a4 : Int) : (wisA a0 a1 a2 a3 a4).Ok Tryz.prog (ctxOf Tryz.prog memo0) where
  regs := by kernel_rfl
  h0 := by kernel_rfl
  start := wisstart a0 a1 a2 a3 a4
  node := fun a _ => match a with
   | .n0 p0 => wisnode0 a0 a1 a2 a3 a4 p0
  pd := fun a => match a with
   | .n0 p0 => ⟨(fa_cons rfl (fa_cons rfl (fa_cons rfl (fa_cons rfl fa_nil)))), fa_nil, fa_nil, rfl⟩
  le := fun a => match a with
   | .n0 p0 => Nat.le_of_ble_eq_true rfl
  rd := fun v => ⟨⟨fa_nil, fa_nil, fa_nil, rfl⟩, rfl⟩
  wb := rfl


theorem wishR {ρ : Env} (a0 : Nat) (a1 : Nat → Int) (a2 : Nat → Int) (a3 : Int) (a4 : Int) (hM : MemoOk Tryz.prog (ctxOf Tryz.prog memo0) ρ) : ∀ X a q n D, FxOk ρ X → X.base = (wisA a0 a1 a2 a3 a4).base → X.nt = (wisA a0 a1 a2 a3 a4).nt → X.W = (wisA a0 a1 a2 a3 a4).W → (wisA a0 a1 a2 a3 a4).rgo a = some q → q n = some D → (wisA a0 a1 a2 a3 a4).RangeOk Tryz.prog ρ X a D := AF.noRange rfl

theorem wisctr {ρ : Env} (a0 : Nat) (a1 : Nat → Int) (a2 : Nat → Int) (a3 : Int) (a4 : Int) {n : Nat} {v : wisR} (hM : MemoOk Tryz.prog (ctxOf Tryz.prog memo0) ρ) (hv : (wisA a0 a1 a2 a3 a4).run n = some v) :
    Ctr Tryz.prog ρ 105 (wisA a0 a1 a2 a3 a4).args (wisA a0 a1 a2 a3 a4).H0 (wisA a0 a1 a2 a3 a4).base (wisA a0 a1 a2 a3 a4).W ((wisA a0 a1 a2 a3 a4).rc v) (putH (wisA a0 a1 a2 a3 a4).H0 ((wisA a0 a1 a2 a3 a4).rh v ++ (wisA a0 a1 a2 a3 a4).rx v)) ((wisA a0 a1 a2 a3 a4).rn v) :=
  AF.ctr try_ok hM (wisok a0 a1 a2 a3 a4) (fn := Tryz.f105) Tryz.func105 rfl rfl (Nat.le_of_ble_eq_true rfl) rfl (wishR a0 a1 a2 a3 a4 hM) hv


theorem wismem {ρ : Env} : MemoOk Tryz.prog (ctxOf Tryz.prog memo0) ρ := memo0_ok


abbrev wisP : List AB := [.rows [some .i64, some .i64], .fn 96 [.box [.fn 76 [.box [.int .i64], .box [.int .i64]]]]]

noncomputable def wisF (v : AW) : AF wisN wisR := wisA (v.t.getD 0 .none).n ((v.t.getD 0 .none).c 0) ((v.t.getD 0 .none).c 1) (v.i.getD 0 0) (v.i.getD 1 0)

noncomputable def wisW : wisR → CV := fun v => .int .i64 (.x v)
noncomputable def wisH : wisR → List (Nat × Blk) := fun v => []



instance : Inhabited wisR := ⟨0⟩
theorem wisknown {ρ : Env} (hM : MemoOk Tryz.prog (ctxOf Tryz.prog memo0) ρ) : KnownF Tryz.prog ρ 105 wisP wisF wisW wisH 4 where
  fn := ⟨Tryz.f105, Tryz.func105, rfl⟩
  le := Nat.le_of_ble_eq_true rfl
  full := fun r => rfl
  rg := fun r => rfl
  hg := fun r => fa_nil
  ctr := fun v n r h => wisctr (v.t.getD 0 .none).n ((v.t.getD 0 .none).c 0) ((v.t.getD 0 .none).c 1) (v.i.getD 0 0) (v.i.getD 1 0) hM h

end Go.Proofs.YthhceoendicboaaGreat.Cx

/- slices.ContainsFunc[[]acme/api.Span,acme/api.Span] as an automaton. Made by tools/cxauto.py. -/
namespace Go.Proofs.YthhceoendicboaaGreat.Cx
set_option linter.unusedVariables false
set_option linter.unusedSimpArgs false
set_option maxRecDepth 100000
open Go Go.Proofs Go.RowKit

noncomputable abbrev wcsCode : Code := funcCode Tryz.f95


abbrev wcsN := Empty

abbrev wcsR := Bool

noncomputable def wcsD0 (a0 : Nat) (a1 : Nat → Int) (a2 : Nat → Int) (a3 : Int) (a4 : Int) : DD (Lf wcsN wcsR) :=
 .must (decide (0 + a0 ≤ a0))
   (.must (ShapeOk [some IntKind.i64, some IntKind.i64] (tabOf a0 fun i => [CV.int IntKind.i64 (IE.x (a1 (0 + i))), CV.int IntKind.i64 (IE.x (a2 (0 + i)))]) fun i => [CV.int IntKind.i64 (IE.x (a1 (0 + i))), CV.int IntKind.i64 (IE.x (a2 (0 + i)))])
   (.must (AF.fin (wisA a0 (fun i => a1 (0 + i)) (fun i => a2 (0 + i)) a3 a4))
   (.ask (Cm.run Cm.geq (AF.val (wisA a0 (fun i => a1 (0 + i)) (fun i => a2 (0 + i)) a3 a4)) 0)
   (.leaf (.done true []))
   (.leaf (.done false [])))))

noncomputable def wcsD (a0 : Nat) (a1 : Nat → Int) (a2 : Nat → Int) (a3 : Int) (a4 : Int) : wcsN → DD (Lf wcsN wcsR) := fun a => nomatch a

noncomputable def wcsA (a0 : Nat) (a1 : Nat → Int) (a2 : Nat → Int) (a3 : Int) (a4 : Int) : AF wcsN wcsR where
  code := wcsCode
  base := 4
  nt := 9
  m := 400
  un := []
  W := []
  h0 := [(0, ⟨.arg a0 2 (fun i => [.int .i64 (.x (a1 i)), .int .i64 (.x (a2 i))]) (fun _ => ⟨rfl, rfl⟩), 2, true, none⟩), (1, ⟨.arg 1 1 (fun i => [.fn (.func 76) [] [.ptr (some (2, 0)), .ptr (some (3, 0))]]) (fun _ => ⟨rfl, rfl⟩), 1, true, none⟩), (2, ⟨.arg 1 1 (fun i => [.int .i64 (.x a3)]) (fun _ => ⟨rfl, rfl⟩), 1, true, none⟩), (3, ⟨.arg 1 1 (fun i => [.int .i64 (.x a4)]) (fun _ => ⟨rfl, rfl⟩), 1, true, none⟩)]
  args := [.sla 0 2 0 a0, .fn (.func 96) [] [.ptr (some (1, 0))]]
  res := (Tryz.f95).results.toList
  path := fun a => nomatch a
  pd := fun a => nomatch a
  D0 := wcsD0 a0 a1 a2 a3 a4
  D := wcsD a0 a1 a2 a3 a4
  rc := (fun v => .bool (.x v))
  rh := (fun v => [])
  rn := (fun v => 4)
  rx := (fun v => [])
  rgo := (fun _ => none)


theorem wcsstart (a0 : Nat) (a1 : Nat → Int) (a2 : Nat → Int) (a3 : Int) (a4 : Int) : AF.edgeOk (wcsA a0 a1 a2 a3 a4) (ctxOf Tryz.prog memo0) (wcsD0 a0 a1 a2 a3 a4) (AF.run0 (wcsA a0 a1 a2 a3 a4) (ctxOf Tryz.prog (memoF 105 wisP wisF wisW wisH 4 memo0))) := by unfold AF.edgeOk; kernel_rfl

theorem wcsok (a0 : Nat) (a1 : Nat → Int) (a2 : Nat → Int) (a3 : Int) (a4 : Int) : (wcsA a0 a1 a2 a3 a4).Ok Tryz.prog (ctxOf Tryz.prog (memoF 105 wisP wisF wisW wisH 4 memo0)) where
  regs := by kernel_rfl
  h0 := by kernel_rfl
  start := wcsstart a0 a1 a2 a3 a4
  node := fun a _ => nomatch a
  pd := fun a => nomatch a
  le := fun a => nomatch a
  rd := fun v => ⟨⟨fa_nil, fa_nil, fa_nil, rfl⟩, rfl⟩
  wb := rfl


theorem wcshR {ρ : Env} (a0 : Nat) (a1 : Nat → Int) (a2 : Nat → Int) (a3 : Int) (a4 : Int) (hM : MemoOk Tryz.prog (ctxOf Tryz.prog (memoF 105 wisP wisF wisW wisH 4 memo0)) ρ) : ∀ X a q n D, FxOk ρ X → X.base = (wcsA a0 a1 a2 a3 a4).base → X.nt = (wcsA a0 a1 a2 a3 a4).nt → X.W = (wcsA a0 a1 a2 a3 a4).W → (wcsA a0 a1 a2 a3 a4).rgo a = some q → q n = some D → (wcsA a0 a1 a2 a3 a4).RangeOk Tryz.prog ρ X a D := AF.noRange rfl

theorem wcsctr {ρ : Env} (a0 : Nat) (a1 : Nat → Int) (a2 : Nat → Int) (a3 : Int) (a4 : Int) {n : Nat} {v : wcsR} (hM : MemoOk Tryz.prog (ctxOf Tryz.prog (memoF 105 wisP wisF wisW wisH 4 memo0)) ρ) (hv : (wcsA a0 a1 a2 a3 a4).run n = some v) :
    Ctr Tryz.prog ρ 95 (wcsA a0 a1 a2 a3 a4).args (wcsA a0 a1 a2 a3 a4).H0 (wcsA a0 a1 a2 a3 a4).base (wcsA a0 a1 a2 a3 a4).W ((wcsA a0 a1 a2 a3 a4).rc v) (putH (wcsA a0 a1 a2 a3 a4).H0 ((wcsA a0 a1 a2 a3 a4).rh v ++ (wcsA a0 a1 a2 a3 a4).rx v)) ((wcsA a0 a1 a2 a3 a4).rn v) :=
  AF.ctr try_ok hM (wcsok a0 a1 a2 a3 a4) (fn := Tryz.f95) Tryz.func95 rfl rfl (Nat.le_of_ble_eq_true rfl) rfl (wcshR a0 a1 a2 a3 a4 hM) hv


theorem wcsmem {ρ : Env} : MemoOk Tryz.prog (ctxOf Tryz.prog (memoF 105 wisP wisF wisW wisH 4 memo0)) ρ := (memoF_ok (wisknown wismem) memo0_ok)


abbrev wcsP : List AB := [.rows [some .i64, some .i64], .fn 96 [.box [.fn 76 [.box [.int .i64], .box [.int .i64]]]]]

noncomputable def wcsF (v : AW) : AF wcsN wcsR := wcsA (v.t.getD 0 .none).n ((v.t.getD 0 .none).c 0) ((v.t.getD 0 .none).c 1) (v.i.getD 0 0) (v.i.getD 1 0)

noncomputable def wcsW : wcsR → CV := fun v => .bool (.x v)
noncomputable def wcsH : wcsR → List (Nat × Blk) := fun v => []



instance : Inhabited wcsR := ⟨false⟩
theorem wcsknown {ρ : Env} (hM : MemoOk Tryz.prog (ctxOf Tryz.prog (memoF 105 wisP wisF wisW wisH 4 memo0)) ρ) : KnownF Tryz.prog ρ 95 wcsP wcsF wcsW wcsH 4 where
  fn := ⟨Tryz.f95, Tryz.func95, rfl⟩
  le := Nat.le_of_ble_eq_true rfl
  full := fun r => rfl
  rg := fun r => rfl
  hg := fun r => fa_nil
  ctr := fun v n r h => wcsctr (v.t.getD 0 .none).n ((v.t.getD 0 .none).c 0) ((v.t.getD 0 .none).c 1) (v.i.getD 0 0) (v.i.getD 1 0) hM h

end Go.Proofs.YthhceoendicboaaGreat.Cx

/- acme/wires.all[acme/api.Span] as an automaton. Made by tools/cxauto.py. -/
namespace Go.Proofs.YthhceoendicboaaGreat.Cx
set_option linter.unusedVariables false
set_option linter.unusedSimpArgs false
set_option maxRecDepth 100000
open Go Go.Proofs Go.RowKit

noncomputable abbrev wasCode : Code := funcCode Tryz.f75


abbrev wasN := Empty

abbrev wasR := Bool

noncomputable def wasD0 (a0 : Nat) (a1 : Nat → Int) (a2 : Nat → Int) (a3 : Int) (a4 : Int) : DD (Lf wasN wasR) :=
 .must (decide (0 + a0 ≤ a0))
   (.must (ShapeOk [some IntKind.i64, some IntKind.i64] (tabOf a0 fun i => [CV.int IntKind.i64 (IE.x (a1 (0 + i))), CV.int IntKind.i64 (IE.x (a2 (0 + i)))]) fun i => [CV.int IntKind.i64 (IE.x (a1 (0 + i))), CV.int IntKind.i64 (IE.x (a2 (0 + i)))])
   (.must (AF.fin (wcsA a0 (fun i => a1 (0 + i)) (fun i => a2 (0 + i)) a3 a4))
   (.leaf (.done (!AF.val (wcsA a0 (fun i => a1 (0 + i)) (fun i => a2 (0 + i)) a3 a4)) []))))

noncomputable def wasD (a0 : Nat) (a1 : Nat → Int) (a2 : Nat → Int) (a3 : Int) (a4 : Int) : wasN → DD (Lf wasN wasR) := fun a => nomatch a

noncomputable def wasA (a0 : Nat) (a1 : Nat → Int) (a2 : Nat → Int) (a3 : Int) (a4 : Int) : AF wasN wasR where
  code := wasCode
  base := 3
  nt := 9
  m := 400
  un := []
  W := []
  h0 := [(0, ⟨.arg a0 2 (fun i => [.int .i64 (.x (a1 i)), .int .i64 (.x (a2 i))]) (fun _ => ⟨rfl, rfl⟩), 2, true, none⟩), (1, ⟨.arg 1 1 (fun i => [.int .i64 (.x a3)]) (fun _ => ⟨rfl, rfl⟩), 1, true, none⟩), (2, ⟨.arg 1 1 (fun i => [.int .i64 (.x a4)]) (fun _ => ⟨rfl, rfl⟩), 1, true, none⟩)]
  args := [.sla 0 2 0 a0, .fn (.func 76) [] [.ptr (some (1, 0)), .ptr (some (2, 0))]]
  res := (Tryz.f75).results.toList
  path := fun a => nomatch a
  pd := fun a => nomatch a
  D0 := wasD0 a0 a1 a2 a3 a4
  D := wasD a0 a1 a2 a3 a4
  rc := (fun v => .bool (.x v))
  rh := (fun v => [])
  rn := (fun v => 3)
  rx := (fun v => [])
  rgo := (fun _ => none)


theorem wasstart (a0 : Nat) (a1 : Nat → Int) (a2 : Nat → Int) (a3 : Int) (a4 : Int) : AF.edgeOk (wasA a0 a1 a2 a3 a4) (ctxOf Tryz.prog memo0) (wasD0 a0 a1 a2 a3 a4) (AF.run0 (wasA a0 a1 a2 a3 a4) (ctxOf Tryz.prog (memoF 95 wcsP wcsF wcsW wcsH 4 memo0))) := by unfold AF.edgeOk; kernel_rfl

theorem wasok (a0 : Nat) (a1 : Nat → Int) (a2 : Nat → Int) (a3 : Int) (a4 : Int) : (wasA a0 a1 a2 a3 a4).Ok Tryz.prog (ctxOf Tryz.prog (memoF 95 wcsP wcsF wcsW wcsH 4 memo0)) where
  regs := by kernel_rfl
  h0 := by kernel_rfl
  start := wasstart a0 a1 a2 a3 a4
  node := fun a _ => nomatch a
  pd := fun a => nomatch a
  le := fun a => nomatch a
  rd := fun v => ⟨⟨fa_nil, fa_nil, fa_nil, rfl⟩, rfl⟩
  wb := rfl


theorem washR {ρ : Env} (a0 : Nat) (a1 : Nat → Int) (a2 : Nat → Int) (a3 : Int) (a4 : Int) (hM : MemoOk Tryz.prog (ctxOf Tryz.prog (memoF 95 wcsP wcsF wcsW wcsH 4 memo0)) ρ) : ∀ X a q n D, FxOk ρ X → X.base = (wasA a0 a1 a2 a3 a4).base → X.nt = (wasA a0 a1 a2 a3 a4).nt → X.W = (wasA a0 a1 a2 a3 a4).W → (wasA a0 a1 a2 a3 a4).rgo a = some q → q n = some D → (wasA a0 a1 a2 a3 a4).RangeOk Tryz.prog ρ X a D := AF.noRange rfl

theorem wasctr {ρ : Env} (a0 : Nat) (a1 : Nat → Int) (a2 : Nat → Int) (a3 : Int) (a4 : Int) {n : Nat} {v : wasR} (hM : MemoOk Tryz.prog (ctxOf Tryz.prog (memoF 95 wcsP wcsF wcsW wcsH 4 memo0)) ρ) (hv : (wasA a0 a1 a2 a3 a4).run n = some v) :
    Ctr Tryz.prog ρ 75 (wasA a0 a1 a2 a3 a4).args (wasA a0 a1 a2 a3 a4).H0 (wasA a0 a1 a2 a3 a4).base (wasA a0 a1 a2 a3 a4).W ((wasA a0 a1 a2 a3 a4).rc v) (putH (wasA a0 a1 a2 a3 a4).H0 ((wasA a0 a1 a2 a3 a4).rh v ++ (wasA a0 a1 a2 a3 a4).rx v)) ((wasA a0 a1 a2 a3 a4).rn v) :=
  AF.ctr try_ok hM (wasok a0 a1 a2 a3 a4) (fn := Tryz.f75) Tryz.func75 rfl rfl (Nat.le_of_ble_eq_true rfl) rfl (washR a0 a1 a2 a3 a4 hM) hv


theorem wasmem {ρ : Env} : MemoOk Tryz.prog (ctxOf Tryz.prog (memoF 95 wcsP wcsF wcsW wcsH 4 memo0)) ρ := (memoF_ok (wcsknown wcsmem) memo0_ok)


abbrev wasP : List AB := [.rows [some .i64, some .i64], .fn 76 [.box [.int .i64], .box [.int .i64]]]

noncomputable def wasF (v : AW) : AF wasN wasR := wasA (v.t.getD 0 .none).n ((v.t.getD 0 .none).c 0) ((v.t.getD 0 .none).c 1) (v.i.getD 0 0) (v.i.getD 1 0)

noncomputable def wasW : wasR → CV := fun v => .bool (.x v)
noncomputable def wasH : wasR → List (Nat × Blk) := fun v => []



instance : Inhabited wasR := ⟨false⟩
theorem wasknown {ρ : Env} (hM : MemoOk Tryz.prog (ctxOf Tryz.prog (memoF 95 wcsP wcsF wcsW wcsH 4 memo0)) ρ) : KnownF Tryz.prog ρ 75 wasP wasF wasW wasH 3 where
  fn := ⟨Tryz.f75, Tryz.func75, rfl⟩
  le := Nat.le_of_ble_eq_true rfl
  full := fun r => rfl
  rg := fun r => rfl
  hg := fun r => fa_nil
  ctr := fun v n r h => wasctr (v.t.getD 0 .none).n ((v.t.getD 0 .none).c 0) ((v.t.getD 0 .none).c 1) (v.i.getD 0 0) (v.i.getD 1 0) hM h

end Go.Proofs.YthhceoendicboaaGreat.Cx

/- acme/wires.validSpans as an automaton. Made by tools/cxauto.py. -/
namespace Go.Proofs.YthhceoendicboaaGreat.Cx
set_option linter.unusedVariables false
set_option linter.unusedSimpArgs false
set_option maxRecDepth 100000
open Go Go.Proofs Go.RowKit

noncomputable abbrev wvsCode : Code := funcCode Tryz.f50


abbrev wvsN := Empty

abbrev wvsR := Bool

noncomputable def wvsD0 (a0 : Int) (a1 : Int) (a2 : Nat) (a3 : Nat → Int) (a4 : Nat → Int) : DD (Lf wvsN wvsR) :=
 .must (decide (0 + a2 ≤ a2))
   (.must (ShapeOk [some IntKind.i64, some IntKind.i64] (tabOf a2 fun i => [CV.int IntKind.i64 (IE.x (a3 (0 + i))), CV.int IntKind.i64 (IE.x (a4 (0 + i)))]) fun i => [CV.int IntKind.i64 (IE.x (a3 (0 + i))), CV.int IntKind.i64 (IE.x (a4 (0 + i)))])
   (.must (AF.fin (wasA a2 (fun i => a3 (0 + i)) (fun i => a4 (0 + i)) a0 a1))
   (.leaf (.done (AF.val (wasA a2 (fun i => a3 (0 + i)) (fun i => a4 (0 + i)) a0 a1)) []))))

noncomputable def wvsD (a0 : Int) (a1 : Int) (a2 : Nat) (a3 : Nat → Int) (a4 : Nat → Int) : wvsN → DD (Lf wvsN wvsR) := fun a => nomatch a

noncomputable def wvsA (a0 : Int) (a1 : Int) (a2 : Nat) (a3 : Nat → Int) (a4 : Nat → Int) : AF wvsN wvsR where
  code := wvsCode
  base := 1
  nt := 10
  m := 400
  un := []
  W := []
  h0 := [(0, ⟨.arg a2 2 (fun i => [.int .i64 (.x (a3 i)), .int .i64 (.x (a4 i))]) (fun _ => ⟨rfl, rfl⟩), 2, true, none⟩)]
  args := [.int .i64 (.x a0), .int .i64 (.x a1), .sla 0 2 0 a2]
  res := (Tryz.f50).results.toList
  path := fun a => nomatch a
  pd := fun a => nomatch a
  D0 := wvsD0 a0 a1 a2 a3 a4
  D := wvsD a0 a1 a2 a3 a4
  rc := (fun v => .bool (.x v))
  rh := (fun v => [])
  rn := (fun v => 1)
  rx := (fun v => [])
  rgo := (fun _ => none)


theorem wvsstart (a0 : Int) (a1 : Int) (a2 : Nat) (a3 : Nat → Int) (a4 : Nat → Int) : AF.edgeOk (wvsA a0 a1 a2 a3 a4) (ctxOf Tryz.prog memo0) (wvsD0 a0 a1 a2 a3 a4) (AF.run0 (wvsA a0 a1 a2 a3 a4) (ctxOf Tryz.prog (memoF 75 wasP wasF wasW wasH 3 memo0))) := by unfold AF.edgeOk; kernel_rfl

theorem wvsok (a0 : Int) (a1 : Int) (a2 : Nat) (a3 : Nat → Int) (a4 : Nat → Int) : (wvsA a0 a1 a2 a3 a4).Ok Tryz.prog (ctxOf Tryz.prog (memoF 75 wasP wasF wasW wasH 3 memo0)) where
  regs := by kernel_rfl
  h0 := by kernel_rfl
  start := wvsstart a0 a1 a2 a3 a4
  node := fun a _ => nomatch a
  pd := fun a => nomatch a
  le := fun a => nomatch a
  rd := fun v => ⟨⟨fa_nil, fa_nil, fa_nil, rfl⟩, rfl⟩
  wb := rfl


theorem wvshR {ρ : Env} (a0 : Int) (a1 : Int) (a2 : Nat) (a3 : Nat → Int) (a4 : Nat → Int) (hM : MemoOk Tryz.prog (ctxOf Tryz.prog (memoF 75 wasP wasF wasW wasH 3 memo0)) ρ) : ∀ X a q n D, FxOk ρ X → X.base = (wvsA a0 a1 a2 a3 a4).base → X.nt = (wvsA a0 a1 a2 a3 a4).nt → X.W = (wvsA a0 a1 a2 a3 a4).W → (wvsA a0 a1 a2 a3 a4).rgo a = some q → q n = some D → (wvsA a0 a1 a2 a3 a4).RangeOk Tryz.prog ρ X a D := AF.noRange rfl

theorem wvsctr {ρ : Env} (a0 : Int) (a1 : Int) (a2 : Nat) (a3 : Nat → Int) (a4 : Nat → Int) {n : Nat} {v : wvsR} (hM : MemoOk Tryz.prog (ctxOf Tryz.prog (memoF 75 wasP wasF wasW wasH 3 memo0)) ρ) (hv : (wvsA a0 a1 a2 a3 a4).run n = some v) :
    Ctr Tryz.prog ρ 50 (wvsA a0 a1 a2 a3 a4).args (wvsA a0 a1 a2 a3 a4).H0 (wvsA a0 a1 a2 a3 a4).base (wvsA a0 a1 a2 a3 a4).W ((wvsA a0 a1 a2 a3 a4).rc v) (putH (wvsA a0 a1 a2 a3 a4).H0 ((wvsA a0 a1 a2 a3 a4).rh v ++ (wvsA a0 a1 a2 a3 a4).rx v)) ((wvsA a0 a1 a2 a3 a4).rn v) :=
  AF.ctr try_ok hM (wvsok a0 a1 a2 a3 a4) (fn := Tryz.f50) Tryz.func50 rfl rfl (Nat.le_of_ble_eq_true rfl) rfl (wvshR a0 a1 a2 a3 a4 hM) hv


theorem wvsmem {ρ : Env} : MemoOk Tryz.prog (ctxOf Tryz.prog (memoF 75 wasP wasF wasW wasH 3 memo0)) ρ := (memoF_ok (wasknown wasmem) memo0_ok)


abbrev wvsP : List AQ := [.int .i64, .int .i64, .rows [some .i64, some .i64]]

noncomputable def wvsF (v : AW) : AF wvsN wvsR := wvsA (v.i.getD 0 0) (v.i.getD 1 0) (v.t.getD 0 .none).n ((v.t.getD 0 .none).c 0) ((v.t.getD 0 .none).c 1)

noncomputable def wvsW : wvsR → CV := fun v => .bool (.x v)
noncomputable def wvsH : wvsR → List (Nat × Blk) := fun v => []



instance : Inhabited wvsR := ⟨false⟩
theorem wvsknown {ρ : Env} (hM : MemoOk Tryz.prog (ctxOf Tryz.prog (memoF 75 wasP wasF wasW wasH 3 memo0)) ρ) : KnownS Tryz.prog ρ 50 wvsP wvsF wvsW wvsH 1 where
  fn := ⟨Tryz.f50, Tryz.func50, rfl⟩
  le := Nat.le_of_ble_eq_true rfl
  full := fun r => rfl
  rg := fun r => rfl
  hg := fun r => fa_nil
  ctr := fun v n r h => wvsctr (v.i.getD 0 0) (v.i.getD 1 0) (v.t.getD 0 .none).n ((v.t.getD 0 .none).c 0) ((v.t.getD 0 .none).c 1) hM h

end Go.Proofs.YthhceoendicboaaGreat.Cx

/- acme/wires.validRules as an automaton. Made by tools/cxauto.py. -/
namespace Go.Proofs.YthhceoendicboaaGreat.Cx
set_option linter.unusedVariables false
set_option linter.unusedSimpArgs false
set_option maxRecDepth 100000
open Go Go.Proofs Go.RowKit

noncomputable abbrev wvrCode : Code := funcCode Tryz.f25


abbrev wvrN := Empty

abbrev wvrR := Bool

noncomputable def wvrD0 (a0 : Nat) (a1 : Nat → Int) (a2 : Nat → Int) (a3 : Int) (a4 : Int) (a5 : Int) (a6 : Int) (a7 : Int) (a8 : Int) : DD (Lf wvrN wvrR) :=
 .ask (Cm.run Cm.gtr ((↑a0 : Int)) 0)
   (.must (decide (0 + a0 ≤ a0))
   (.must (ShapeOk [some IntKind.i64, some IntKind.i64] (tabOf a0 fun i => [CV.int IntKind.i64 (IE.x (a1 (0 + i))), CV.int IntKind.i64 (IE.x (a2 (0 + i)))]) fun i => [CV.int IntKind.i64 (IE.x (a1 (0 + i))), CV.int IntKind.i64 (IE.x (a2 (0 + i)))])
   (.must (AF.fin (waaA a0 (fun i => a1 (0 + i)) fun i => a2 (0 + i)))
   (.ask (AF.val (waaA a0 (fun i => a1 (0 + i)) fun i => a2 (0 + i)))
   (.must (AF.fin (wvsA 100 200000 1 (fun i => List.getD [a3] i 0) fun i => List.getD [a4] i 0))
   (.ask (AF.val (wvsA 100 200000 1 (fun i => List.getD [a3] i 0) fun i => List.getD [a4] i 0))
   (.must (AF.fin (wvsA 0 1000 1 (fun i => List.getD [a5] i 0) fun i => List.getD [a6] i 0))
   (.ask (AF.val (wvsA 0 1000 1 (fun i => List.getD [a5] i 0) fun i => List.getD [a6] i 0))
   (.must (AF.fin (wvsA (-1000) 1000 1 (fun i => List.getD [a7] i 0) fun i => List.getD [a8] i 0))
   (.leaf (.done (AF.val (wvsA (-1000) 1000 1 (fun i => List.getD [a7] i 0) fun i => List.getD [a8] i 0)) [])))
   (.leaf (.done false []))))
   (.leaf (.done false []))))
   (.leaf (.done false []))))))
   (.leaf (.done false []))

noncomputable def wvrD (a0 : Nat) (a1 : Nat → Int) (a2 : Nat → Int) (a3 : Int) (a4 : Int) (a5 : Int) (a6 : Int) (a7 : Int) (a8 : Int) : wvrN → DD (Lf wvrN wvrR) := fun a => nomatch a

noncomputable def wvrA (a0 : Nat) (a1 : Nat → Int) (a2 : Nat → Int) (a3 : Int) (a4 : Int) (a5 : Int) (a6 : Int) (a7 : Int) (a8 : Int) : AF wvrN wvrR where
  code := wvrCode
  base := 1
  nt := 30
  m := 400
  un := []
  W := []
  h0 := [(0, ⟨.arg a0 2 (fun i => [.int .i64 (.x (a1 i)), .int .i64 (.x (a2 i))]) (fun _ => ⟨rfl, rfl⟩), 2, true, none⟩)]
  args := [.agg [.sla 0 2 0 a0, .int .i64 (.x a3), .int .i64 (.x a4), .int .i64 (.x a5), .int .i64 (.x a6), .int .i64 (.x a7), .int .i64 (.x a8)]]
  res := (Tryz.f25).results.toList
  path := fun a => nomatch a
  pd := fun a => nomatch a
  D0 := wvrD0 a0 a1 a2 a3 a4 a5 a6 a7 a8
  D := wvrD a0 a1 a2 a3 a4 a5 a6 a7 a8
  rc := (fun v => .bool (.x v))
  rh := (fun v => [])
  rn := (fun v => 1)
  rx := (fun v => [])
  rgo := (fun _ => none)


theorem wvrstart (a0 : Nat) (a1 : Nat → Int) (a2 : Nat → Int) (a3 : Int) (a4 : Int) (a5 : Int) (a6 : Int) (a7 : Int) (a8 : Int) : AF.edgeOk (wvrA a0 a1 a2 a3 a4 a5 a6 a7 a8) (ctxOf Tryz.prog memo0) (wvrD0 a0 a1 a2 a3 a4 a5 a6 a7 a8) (AF.run0 (wvrA a0 a1 a2 a3 a4 a5 a6 a7 a8) (ctxOf Tryz.prog (memoS 50 wvsP wvsF wvsW wvsH 1 (memoF 49 waaP waaF waaW waaH 1 memo0)))) := by unfold AF.edgeOk; kernel_rfl

theorem wvrok (a0 : Nat) (a1 : Nat → Int) (a2 : Nat → Int) (a3 : Int) (a4 : Int) (a5 : Int) (a6 : Int) (a7 : Int) (a8 : Int) : (wvrA a0 a1 a2 a3 a4 a5 a6 a7 a8).Ok Tryz.prog (ctxOf Tryz.prog (memoS 50 wvsP wvsF wvsW wvsH 1 (memoF 49 waaP waaF waaW waaH 1 memo0))) where
  regs := by kernel_rfl
  h0 := by kernel_rfl
  start := wvrstart a0 a1 a2 a3 a4 a5 a6 a7 a8
  node := fun a _ => nomatch a
  pd := fun a => nomatch a
  le := fun a => nomatch a
  rd := fun v => ⟨⟨fa_nil, fa_nil, fa_nil, rfl⟩, rfl⟩
  wb := rfl


theorem wvrhR {ρ : Env} (a0 : Nat) (a1 : Nat → Int) (a2 : Nat → Int) (a3 : Int) (a4 : Int) (a5 : Int) (a6 : Int) (a7 : Int) (a8 : Int) (hM : MemoOk Tryz.prog (ctxOf Tryz.prog (memoS 50 wvsP wvsF wvsW wvsH 1 (memoF 49 waaP waaF waaW waaH 1 memo0))) ρ) : ∀ X a q n D, FxOk ρ X → X.base = (wvrA a0 a1 a2 a3 a4 a5 a6 a7 a8).base → X.nt = (wvrA a0 a1 a2 a3 a4 a5 a6 a7 a8).nt → X.W = (wvrA a0 a1 a2 a3 a4 a5 a6 a7 a8).W → (wvrA a0 a1 a2 a3 a4 a5 a6 a7 a8).rgo a = some q → q n = some D → (wvrA a0 a1 a2 a3 a4 a5 a6 a7 a8).RangeOk Tryz.prog ρ X a D := AF.noRange rfl

theorem wvrctr {ρ : Env} (a0 : Nat) (a1 : Nat → Int) (a2 : Nat → Int) (a3 : Int) (a4 : Int) (a5 : Int) (a6 : Int) (a7 : Int) (a8 : Int) {n : Nat} {v : wvrR} (hM : MemoOk Tryz.prog (ctxOf Tryz.prog (memoS 50 wvsP wvsF wvsW wvsH 1 (memoF 49 waaP waaF waaW waaH 1 memo0))) ρ) (hv : (wvrA a0 a1 a2 a3 a4 a5 a6 a7 a8).run n = some v) :
    Ctr Tryz.prog ρ 25 (wvrA a0 a1 a2 a3 a4 a5 a6 a7 a8).args (wvrA a0 a1 a2 a3 a4 a5 a6 a7 a8).H0 (wvrA a0 a1 a2 a3 a4 a5 a6 a7 a8).base (wvrA a0 a1 a2 a3 a4 a5 a6 a7 a8).W ((wvrA a0 a1 a2 a3 a4 a5 a6 a7 a8).rc v) (putH (wvrA a0 a1 a2 a3 a4 a5 a6 a7 a8).H0 ((wvrA a0 a1 a2 a3 a4 a5 a6 a7 a8).rh v ++ (wvrA a0 a1 a2 a3 a4 a5 a6 a7 a8).rx v)) ((wvrA a0 a1 a2 a3 a4 a5 a6 a7 a8).rn v) :=
  AF.ctr try_ok hM (wvrok a0 a1 a2 a3 a4 a5 a6 a7 a8) (fn := Tryz.f25) Tryz.func25 rfl rfl (Nat.le_of_ble_eq_true rfl) rfl (wvrhR a0 a1 a2 a3 a4 a5 a6 a7 a8 hM) hv


theorem wvrmem {ρ : Env} : MemoOk Tryz.prog (ctxOf Tryz.prog (memoS 50 wvsP wvsF wvsW wvsH 1 (memoF 49 waaP waaF waaW waaH 1 memo0))) ρ := (memoS_ok (wvsknown wvsmem) (memoF_ok (waaknown waamem) memo0_ok))


abbrev wvrP : List AQ := [.agg [.rows [some .i64, some .i64], .int .i64, .int .i64, .int .i64, .int .i64, .int .i64, .int .i64]]

noncomputable def wvrF (v : AW) : AF wvrN wvrR := wvrA (v.t.getD 0 .none).n ((v.t.getD 0 .none).c 0) ((v.t.getD 0 .none).c 1) (v.i.getD 0 0) (v.i.getD 1 0) (v.i.getD 2 0) (v.i.getD 3 0) (v.i.getD 4 0) (v.i.getD 5 0)

noncomputable def wvrW : wvrR → CV := fun v => .bool (.x v)
noncomputable def wvrH : wvrR → List (Nat × Blk) := fun v => []



instance : Inhabited wvrR := ⟨false⟩
theorem wvrknown {ρ : Env} (hM : MemoOk Tryz.prog (ctxOf Tryz.prog (memoS 50 wvsP wvsF wvsW wvsH 1 (memoF 49 waaP waaF waaW waaH 1 memo0))) ρ) : KnownS Tryz.prog ρ 25 wvrP wvrF wvrW wvrH 1 where
  fn := ⟨Tryz.f25, Tryz.func25, rfl⟩
  le := Nat.le_of_ble_eq_true rfl
  full := fun r => rfl
  rg := fun r => rfl
  hg := fun r => fa_nil
  ctr := fun v n r h => wvrctr (v.t.getD 0 .none).n ((v.t.getD 0 .none).c 0) ((v.t.getD 0 .none).c 1) (v.i.getD 0 0) (v.i.getD 1 0) (v.i.getD 2 0) (v.i.getD 3 0) (v.i.getD 4 0) (v.i.getD 5 0) hM h

end Go.Proofs.YthhceoendicboaaGreat.Cx

/- slices.IndexFunc[[]acme/api.WiresSet,acme/api.WiresSet] as an automaton. Made by tools/cxauto.py. -/
namespace Go.Proofs.YthhceoendicboaaGreat.Cx
set_option linter.unusedVariables false
set_option linter.unusedSimpArgs false
set_option maxRecDepth 100000
open Go Go.Proofs Go.RowKit

noncomputable abbrev witCode : Code := funcCode Tryz.f78


inductive witN where
  | n0 (p0 : Int)

abbrev witR := Int

noncomputable def witD0 (a0 : Nat) (a1 : Nat → Int) (a2 : Nat → Int) (a3 : Nat → Int) (a4 : Nat → Int) (a5 : Nat → Int) (a6 : Nat → Int) : DD (Lf witN witR) :=
 .leaf (.next (.n0 0) [])

noncomputable def witD (a0 : Nat) (a1 : Nat → Int) (a2 : Nat → Int) (a3 : Nat → Int) (a4 : Nat → Int) (a5 : Nat → Int) (a6 : Nat → Int) : witN → DD (Lf witN witR)
 | .n0 p0 =>
 .ask (Cm.run Cm.lss p0 (↑a0 : Int))
   (.must (decide (0 ≤ p0))
   (.must (decide (p0 < (↑a0 : Int)))
   (.must (decide (0 + Int.toNat p0 < a0))
   (.must (AF.fin (wvsA 1 100000 3 (fun i => List.getD [a1 (0 + Int.toNat p0), a3 (0 + Int.toNat p0), a5 (0 + Int.toNat p0)] i 0) fun i => List.getD [a2 (0 + Int.toNat p0), a4 (0 + Int.toNat p0), a6 (0 + Int.toNat p0)] i 0))
   (.ask (!AF.val (wvsA 1 100000 3 (fun i => List.getD [a1 (0 + Int.toNat p0), a3 (0 + Int.toNat p0), a5 (0 + Int.toNat p0)] i 0) fun i => List.getD [a2 (0 + Int.toNat p0), a4 (0 + Int.toNat p0), a6 (0 + Int.toNat p0)] i 0))
   (.leaf (.done p0 []))
   (.leaf (.next (.n0 (Ar.run Ar.add IntKind.i64 p0 1)) [])))))))
   (.leaf (.done (-1) []))

noncomputable def witA (a0 : Nat) (a1 : Nat → Int) (a2 : Nat → Int) (a3 : Nat → Int) (a4 : Nat → Int) (a5 : Nat → Int) (a6 : Nat → Int) : AF witN witR where
  code := witCode
  base := 2
  nt := 19
  m := 400
  un := []
  W := []
  h0 := [(0, ⟨.arg a0 6 (fun i => [.int .i64 (.x (a1 i)), .int .i64 (.x (a2 i)), .int .i64 (.x (a3 i)), .int .i64 (.x (a4 i)), .int .i64 (.x (a5 i)), .int .i64 (.x (a6 i))]) (fun _ => ⟨rfl, rfl⟩), 6, true, none⟩), (1, ⟨.arg 1 1 (fun i => [.fn (.func 27) [] []]) (fun _ => ⟨rfl, rfl⟩), 1, true, none⟩)]
  args := [.sla 0 6 0 a0, .fn (.func 52) [] [.ptr (some (1, 0))]]
  res := (Tryz.f78).results.toList
  path := fun a => match a with
   | .n0 p0 => [1, 0, 1, 0]
  pd := fun a => match a with
   | .n0 p0 => ⟨[(0, .sla 0 6 0 a0), (1, .fn (.func 52) [] [.ptr (some (1, 0))]), (7, .int .i64 (.x (↑a0))), (8, .int .i64 (.x p0))], [], 2, []⟩
  D0 := witD0 a0 a1 a2 a3 a4 a5 a6
  D := witD a0 a1 a2 a3 a4 a5 a6
  rc := (fun v => .int .i64 (.x v))
  rh := (fun v => [])
  rn := (fun v => 2)
  rx := (fun v => [])
  rgo := (fun _ => none)


theorem witstart (a0 : Nat) (a1 : Nat → Int) (a2 : Nat → Int) (a3 : Nat → Int) (a4 : Nat → Int) (a5 : Nat → Int) (a6 : Nat → Int) : AF.edgeOk (witA a0 a1 a2 a3 a4 a5 a6) (ctxOf Tryz.prog memo0) (witD0 a0 a1 a2 a3 a4 a5 a6) (AF.run0 (witA a0 a1 a2 a3 a4 a5 a6) (ctxOf Tryz.prog (memoS 50 wvsP wvsF wvsW wvsH 1 memo0))) := by unfold AF.edgeOk; kernel_rfl

theorem witnode0 (a0 : Nat) (a1 : Nat → Int) (a2 : Nat → Int) (a3 : Nat → Int) (a4 : Nat → Int) (a5 : Nat → Int) (a6 : Nat → Int) (p0 : Int) : AF.edgeOk (witA a0 a1 a2 a3 a4 a5 a6) (ctxOf Tryz.prog memo0) (witD a0 a1 a2 a3 a4 a5 a6 (.n0 p0)) (AF.runN (witA a0 a1 a2 a3 a4 a5 a6) (ctxOf Tryz.prog (memoS 50 wvsP wvsF wvsW wvsH 1 memo0)) (.n0 p0)) := by unfold AF.edgeOk; kernel_rfl

theorem witok (a0 : Nat) (a1 : Nat → Int) (a2 : Nat → Int) (a3 : Nat → Int) (a4 : Nat → Int) (a5 : Nat → Int) (a6 : Nat → Int) : (witA a0 a1 a2 a3 a4 a5 a6).Ok Tryz.prog (ctxOf Tryz.prog (memoS 50 wvsP wvsF wvsW wvsH 1 memo0)) where
  regs := by kernel_rfl
  h0 := by kernel_rfl
  start := witstart a0 a1 a2 a3 a4 a5 a6
  node := fun a _ => match a with
   | .n0 p0 => witnode0 a0 a1 a2 a3 a4 a5 a6 p0
  pd := fun a => match a with
   | .n0 p0 => ⟨(fa_cons rfl (fa_cons rfl (fa_cons rfl (fa_cons rfl fa_nil)))), fa_nil, fa_nil, rfl⟩
  le := fun a => match a with
   | .n0 p0 => Nat.le_of_ble_eq_true rfl
  rd := fun v => ⟨⟨fa_nil, fa_nil, fa_nil, rfl⟩, rfl⟩
  wb := rfl


theorem withR {ρ : Env} (a0 : Nat) (a1 : Nat → Int) (a2 : Nat → Int) (a3 : Nat → Int) (a4 : Nat → Int) (a5 : Nat → Int) (a6 : Nat → Int) (hM : MemoOk Tryz.prog (ctxOf Tryz.prog (memoS 50 wvsP wvsF wvsW wvsH 1 memo0)) ρ) : ∀ X a q n D, FxOk ρ X → X.base = (witA a0 a1 a2 a3 a4 a5 a6).base → X.nt = (witA a0 a1 a2 a3 a4 a5 a6).nt → X.W = (witA a0 a1 a2 a3 a4 a5 a6).W → (witA a0 a1 a2 a3 a4 a5 a6).rgo a = some q → q n = some D → (witA a0 a1 a2 a3 a4 a5 a6).RangeOk Tryz.prog ρ X a D := AF.noRange rfl

theorem witctr {ρ : Env} (a0 : Nat) (a1 : Nat → Int) (a2 : Nat → Int) (a3 : Nat → Int) (a4 : Nat → Int) (a5 : Nat → Int) (a6 : Nat → Int) {n : Nat} {v : witR} (hM : MemoOk Tryz.prog (ctxOf Tryz.prog (memoS 50 wvsP wvsF wvsW wvsH 1 memo0)) ρ) (hv : (witA a0 a1 a2 a3 a4 a5 a6).run n = some v) :
    Ctr Tryz.prog ρ 78 (witA a0 a1 a2 a3 a4 a5 a6).args (witA a0 a1 a2 a3 a4 a5 a6).H0 (witA a0 a1 a2 a3 a4 a5 a6).base (witA a0 a1 a2 a3 a4 a5 a6).W ((witA a0 a1 a2 a3 a4 a5 a6).rc v) (putH (witA a0 a1 a2 a3 a4 a5 a6).H0 ((witA a0 a1 a2 a3 a4 a5 a6).rh v ++ (witA a0 a1 a2 a3 a4 a5 a6).rx v)) ((witA a0 a1 a2 a3 a4 a5 a6).rn v) :=
  AF.ctr try_ok hM (witok a0 a1 a2 a3 a4 a5 a6) (fn := Tryz.f78) Tryz.func78 rfl rfl (Nat.le_of_ble_eq_true rfl) rfl (withR a0 a1 a2 a3 a4 a5 a6 hM) hv


theorem witmem {ρ : Env} : MemoOk Tryz.prog (ctxOf Tryz.prog (memoS 50 wvsP wvsF wvsW wvsH 1 memo0)) ρ := (memoS_ok (wvsknown wvsmem) memo0_ok)


abbrev witP : List AB := [.rows [some .i64, some .i64, some .i64, some .i64, some .i64, some .i64], .fn 52 [.box [.fn 27 []]]]

noncomputable def witF (v : AW) : AF witN witR := witA (v.t.getD 0 .none).n ((v.t.getD 0 .none).c 0) ((v.t.getD 0 .none).c 1) ((v.t.getD 0 .none).c 2) ((v.t.getD 0 .none).c 3) ((v.t.getD 0 .none).c 4) ((v.t.getD 0 .none).c 5)

noncomputable def witW : witR → CV := fun v => .int .i64 (.x v)
noncomputable def witH : witR → List (Nat × Blk) := fun v => []



instance : Inhabited witR := ⟨0⟩
theorem witknown {ρ : Env} (hM : MemoOk Tryz.prog (ctxOf Tryz.prog (memoS 50 wvsP wvsF wvsW wvsH 1 memo0)) ρ) : KnownF Tryz.prog ρ 78 witP witF witW witH 2 where
  fn := ⟨Tryz.f78, Tryz.func78, rfl⟩
  le := Nat.le_of_ble_eq_true rfl
  full := fun r => rfl
  rg := fun r => rfl
  hg := fun r => fa_nil
  ctr := fun v n r h => witctr (v.t.getD 0 .none).n ((v.t.getD 0 .none).c 0) ((v.t.getD 0 .none).c 1) ((v.t.getD 0 .none).c 2) ((v.t.getD 0 .none).c 3) ((v.t.getD 0 .none).c 4) ((v.t.getD 0 .none).c 5) hM h

end Go.Proofs.YthhceoendicboaaGreat.Cx

/- slices.ContainsFunc[[]acme/api.WiresSet,acme/api.WiresSet] as an automaton. Made by tools/cxauto.py. -/
namespace Go.Proofs.YthhceoendicboaaGreat.Cx
set_option linter.unusedVariables false
set_option linter.unusedSimpArgs false
set_option maxRecDepth 100000
open Go Go.Proofs Go.RowKit

noncomputable abbrev wctCode : Code := funcCode Tryz.f51


abbrev wctN := Empty

abbrev wctR := Bool

noncomputable def wctD0 (a0 : Nat) (a1 : Nat → Int) (a2 : Nat → Int) (a3 : Nat → Int) (a4 : Nat → Int) (a5 : Nat → Int) (a6 : Nat → Int) : DD (Lf wctN wctR) :=
 .must (decide (0 + a0 ≤ a0))
   (.must (ShapeOk [some IntKind.i64, some IntKind.i64, some IntKind.i64, some IntKind.i64, some IntKind.i64, some IntKind.i64] (tabOf a0 fun i => [CV.int IntKind.i64 (IE.x (a1 (0 + i))), CV.int IntKind.i64 (IE.x (a2 (0 + i))), CV.int IntKind.i64 (IE.x (a3 (0 + i))), CV.int IntKind.i64 (IE.x (a4 (0 + i))), CV.int IntKind.i64 (IE.x (a5 (0 + i))), CV.int IntKind.i64 (IE.x (a6 (0 + i)))]) fun i => [CV.int IntKind.i64 (IE.x (a1 (0 + i))), CV.int IntKind.i64 (IE.x (a2 (0 + i))), CV.int IntKind.i64 (IE.x (a3 (0 + i))), CV.int IntKind.i64 (IE.x (a4 (0 + i))), CV.int IntKind.i64 (IE.x (a5 (0 + i))), CV.int IntKind.i64 (IE.x (a6 (0 + i)))])
   (.must (AF.fin (witA a0 (fun i => a1 (0 + i)) (fun i => a2 (0 + i)) (fun i => a3 (0 + i)) (fun i => a4 (0 + i)) (fun i => a5 (0 + i)) fun i => a6 (0 + i)))
   (.ask (Cm.run Cm.geq (AF.val (witA a0 (fun i => a1 (0 + i)) (fun i => a2 (0 + i)) (fun i => a3 (0 + i)) (fun i => a4 (0 + i)) (fun i => a5 (0 + i)) fun i => a6 (0 + i))) 0)
   (.leaf (.done true []))
   (.leaf (.done false [])))))

noncomputable def wctD (a0 : Nat) (a1 : Nat → Int) (a2 : Nat → Int) (a3 : Nat → Int) (a4 : Nat → Int) (a5 : Nat → Int) (a6 : Nat → Int) : wctN → DD (Lf wctN wctR) := fun a => nomatch a

noncomputable def wctA (a0 : Nat) (a1 : Nat → Int) (a2 : Nat → Int) (a3 : Nat → Int) (a4 : Nat → Int) (a5 : Nat → Int) (a6 : Nat → Int) : AF wctN wctR where
  code := wctCode
  base := 2
  nt := 9
  m := 400
  un := []
  W := []
  h0 := [(0, ⟨.arg a0 6 (fun i => [.int .i64 (.x (a1 i)), .int .i64 (.x (a2 i)), .int .i64 (.x (a3 i)), .int .i64 (.x (a4 i)), .int .i64 (.x (a5 i)), .int .i64 (.x (a6 i))]) (fun _ => ⟨rfl, rfl⟩), 6, true, none⟩), (1, ⟨.arg 1 1 (fun i => [.fn (.func 27) [] []]) (fun _ => ⟨rfl, rfl⟩), 1, true, none⟩)]
  args := [.sla 0 6 0 a0, .fn (.func 52) [] [.ptr (some (1, 0))]]
  res := (Tryz.f51).results.toList
  path := fun a => nomatch a
  pd := fun a => nomatch a
  D0 := wctD0 a0 a1 a2 a3 a4 a5 a6
  D := wctD a0 a1 a2 a3 a4 a5 a6
  rc := (fun v => .bool (.x v))
  rh := (fun v => [])
  rn := (fun v => 2)
  rx := (fun v => [])
  rgo := (fun _ => none)


theorem wctstart (a0 : Nat) (a1 : Nat → Int) (a2 : Nat → Int) (a3 : Nat → Int) (a4 : Nat → Int) (a5 : Nat → Int) (a6 : Nat → Int) : AF.edgeOk (wctA a0 a1 a2 a3 a4 a5 a6) (ctxOf Tryz.prog memo0) (wctD0 a0 a1 a2 a3 a4 a5 a6) (AF.run0 (wctA a0 a1 a2 a3 a4 a5 a6) (ctxOf Tryz.prog (memoF 78 witP witF witW witH 2 memo0))) := by unfold AF.edgeOk; kernel_rfl

theorem wctok (a0 : Nat) (a1 : Nat → Int) (a2 : Nat → Int) (a3 : Nat → Int) (a4 : Nat → Int) (a5 : Nat → Int) (a6 : Nat → Int) : (wctA a0 a1 a2 a3 a4 a5 a6).Ok Tryz.prog (ctxOf Tryz.prog (memoF 78 witP witF witW witH 2 memo0)) where
  regs := by kernel_rfl
  h0 := by kernel_rfl
  start := wctstart a0 a1 a2 a3 a4 a5 a6
  node := fun a _ => nomatch a
  pd := fun a => nomatch a
  le := fun a => nomatch a
  rd := fun v => ⟨⟨fa_nil, fa_nil, fa_nil, rfl⟩, rfl⟩
  wb := rfl


theorem wcthR {ρ : Env} (a0 : Nat) (a1 : Nat → Int) (a2 : Nat → Int) (a3 : Nat → Int) (a4 : Nat → Int) (a5 : Nat → Int) (a6 : Nat → Int) (hM : MemoOk Tryz.prog (ctxOf Tryz.prog (memoF 78 witP witF witW witH 2 memo0)) ρ) : ∀ X a q n D, FxOk ρ X → X.base = (wctA a0 a1 a2 a3 a4 a5 a6).base → X.nt = (wctA a0 a1 a2 a3 a4 a5 a6).nt → X.W = (wctA a0 a1 a2 a3 a4 a5 a6).W → (wctA a0 a1 a2 a3 a4 a5 a6).rgo a = some q → q n = some D → (wctA a0 a1 a2 a3 a4 a5 a6).RangeOk Tryz.prog ρ X a D := AF.noRange rfl

theorem wctctr {ρ : Env} (a0 : Nat) (a1 : Nat → Int) (a2 : Nat → Int) (a3 : Nat → Int) (a4 : Nat → Int) (a5 : Nat → Int) (a6 : Nat → Int) {n : Nat} {v : wctR} (hM : MemoOk Tryz.prog (ctxOf Tryz.prog (memoF 78 witP witF witW witH 2 memo0)) ρ) (hv : (wctA a0 a1 a2 a3 a4 a5 a6).run n = some v) :
    Ctr Tryz.prog ρ 51 (wctA a0 a1 a2 a3 a4 a5 a6).args (wctA a0 a1 a2 a3 a4 a5 a6).H0 (wctA a0 a1 a2 a3 a4 a5 a6).base (wctA a0 a1 a2 a3 a4 a5 a6).W ((wctA a0 a1 a2 a3 a4 a5 a6).rc v) (putH (wctA a0 a1 a2 a3 a4 a5 a6).H0 ((wctA a0 a1 a2 a3 a4 a5 a6).rh v ++ (wctA a0 a1 a2 a3 a4 a5 a6).rx v)) ((wctA a0 a1 a2 a3 a4 a5 a6).rn v) :=
  AF.ctr try_ok hM (wctok a0 a1 a2 a3 a4 a5 a6) (fn := Tryz.f51) Tryz.func51 rfl rfl (Nat.le_of_ble_eq_true rfl) rfl (wcthR a0 a1 a2 a3 a4 a5 a6 hM) hv


theorem wctmem {ρ : Env} : MemoOk Tryz.prog (ctxOf Tryz.prog (memoF 78 witP witF witW witH 2 memo0)) ρ := (memoF_ok (witknown witmem) memo0_ok)


abbrev wctP : List AB := [.rows [some .i64, some .i64, some .i64, some .i64, some .i64, some .i64], .fn 52 [.box [.fn 27 []]]]

noncomputable def wctF (v : AW) : AF wctN wctR := wctA (v.t.getD 0 .none).n ((v.t.getD 0 .none).c 0) ((v.t.getD 0 .none).c 1) ((v.t.getD 0 .none).c 2) ((v.t.getD 0 .none).c 3) ((v.t.getD 0 .none).c 4) ((v.t.getD 0 .none).c 5)

noncomputable def wctW : wctR → CV := fun v => .bool (.x v)
noncomputable def wctH : wctR → List (Nat × Blk) := fun v => []



instance : Inhabited wctR := ⟨false⟩
theorem wctknown {ρ : Env} (hM : MemoOk Tryz.prog (ctxOf Tryz.prog (memoF 78 witP witF witW witH 2 memo0)) ρ) : KnownF Tryz.prog ρ 51 wctP wctF wctW wctH 2 where
  fn := ⟨Tryz.f51, Tryz.func51, rfl⟩
  le := Nat.le_of_ble_eq_true rfl
  full := fun r => rfl
  rg := fun r => rfl
  hg := fun r => fa_nil
  ctr := fun v n r h => wctctr (v.t.getD 0 .none).n ((v.t.getD 0 .none).c 0) ((v.t.getD 0 .none).c 1) ((v.t.getD 0 .none).c 2) ((v.t.getD 0 .none).c 3) ((v.t.getD 0 .none).c 4) ((v.t.getD 0 .none).c 5) hM h

end Go.Proofs.YthhceoendicboaaGreat.Cx

/- acme/wires.all[acme/api.WiresSet] as an automaton. Made by tools/cxauto.py. -/
namespace Go.Proofs.YthhceoendicboaaGreat.Cx
set_option linter.unusedVariables false
set_option linter.unusedSimpArgs false
set_option maxRecDepth 100000
open Go Go.Proofs Go.RowKit

noncomputable abbrev watCode : Code := funcCode Tryz.f26


abbrev watN := Empty

abbrev watR := Bool

noncomputable def watD0 (a0 : Nat) (a1 : Nat → Int) (a2 : Nat → Int) (a3 : Nat → Int) (a4 : Nat → Int) (a5 : Nat → Int) (a6 : Nat → Int) : DD (Lf watN watR) :=
 .must (decide (0 + a0 ≤ a0))
   (.must (ShapeOk [some IntKind.i64, some IntKind.i64, some IntKind.i64, some IntKind.i64, some IntKind.i64, some IntKind.i64] (tabOf a0 fun i => [CV.int IntKind.i64 (IE.x (a1 (0 + i))), CV.int IntKind.i64 (IE.x (a2 (0 + i))), CV.int IntKind.i64 (IE.x (a3 (0 + i))), CV.int IntKind.i64 (IE.x (a4 (0 + i))), CV.int IntKind.i64 (IE.x (a5 (0 + i))), CV.int IntKind.i64 (IE.x (a6 (0 + i)))]) fun i => [CV.int IntKind.i64 (IE.x (a1 (0 + i))), CV.int IntKind.i64 (IE.x (a2 (0 + i))), CV.int IntKind.i64 (IE.x (a3 (0 + i))), CV.int IntKind.i64 (IE.x (a4 (0 + i))), CV.int IntKind.i64 (IE.x (a5 (0 + i))), CV.int IntKind.i64 (IE.x (a6 (0 + i)))])
   (.must (AF.fin (wctA a0 (fun i => a1 (0 + i)) (fun i => a2 (0 + i)) (fun i => a3 (0 + i)) (fun i => a4 (0 + i)) (fun i => a5 (0 + i)) fun i => a6 (0 + i)))
   (.leaf (.done (!AF.val (wctA a0 (fun i => a1 (0 + i)) (fun i => a2 (0 + i)) (fun i => a3 (0 + i)) (fun i => a4 (0 + i)) (fun i => a5 (0 + i)) fun i => a6 (0 + i))) []))))

noncomputable def watD (a0 : Nat) (a1 : Nat → Int) (a2 : Nat → Int) (a3 : Nat → Int) (a4 : Nat → Int) (a5 : Nat → Int) (a6 : Nat → Int) : watN → DD (Lf watN watR) := fun a => nomatch a

noncomputable def watA (a0 : Nat) (a1 : Nat → Int) (a2 : Nat → Int) (a3 : Nat → Int) (a4 : Nat → Int) (a5 : Nat → Int) (a6 : Nat → Int) : AF watN watR where
  code := watCode
  base := 1
  nt := 9
  m := 400
  un := []
  W := []
  h0 := [(0, ⟨.arg a0 6 (fun i => [.int .i64 (.x (a1 i)), .int .i64 (.x (a2 i)), .int .i64 (.x (a3 i)), .int .i64 (.x (a4 i)), .int .i64 (.x (a5 i)), .int .i64 (.x (a6 i))]) (fun _ => ⟨rfl, rfl⟩), 6, true, none⟩)]
  args := [.sla 0 6 0 a0, .fn (.func 27) [] []]
  res := (Tryz.f26).results.toList
  path := fun a => nomatch a
  pd := fun a => nomatch a
  D0 := watD0 a0 a1 a2 a3 a4 a5 a6
  D := watD a0 a1 a2 a3 a4 a5 a6
  rc := (fun v => .bool (.x v))
  rh := (fun v => [])
  rn := (fun v => 1)
  rx := (fun v => [])
  rgo := (fun _ => none)


theorem watstart (a0 : Nat) (a1 : Nat → Int) (a2 : Nat → Int) (a3 : Nat → Int) (a4 : Nat → Int) (a5 : Nat → Int) (a6 : Nat → Int) : AF.edgeOk (watA a0 a1 a2 a3 a4 a5 a6) (ctxOf Tryz.prog memo0) (watD0 a0 a1 a2 a3 a4 a5 a6) (AF.run0 (watA a0 a1 a2 a3 a4 a5 a6) (ctxOf Tryz.prog (memoF 51 wctP wctF wctW wctH 2 memo0))) := by unfold AF.edgeOk; kernel_rfl

theorem watok (a0 : Nat) (a1 : Nat → Int) (a2 : Nat → Int) (a3 : Nat → Int) (a4 : Nat → Int) (a5 : Nat → Int) (a6 : Nat → Int) : (watA a0 a1 a2 a3 a4 a5 a6).Ok Tryz.prog (ctxOf Tryz.prog (memoF 51 wctP wctF wctW wctH 2 memo0)) where
  regs := by kernel_rfl
  h0 := by kernel_rfl
  start := watstart a0 a1 a2 a3 a4 a5 a6
  node := fun a _ => nomatch a
  pd := fun a => nomatch a
  le := fun a => nomatch a
  rd := fun v => ⟨⟨fa_nil, fa_nil, fa_nil, rfl⟩, rfl⟩
  wb := rfl


theorem wathR {ρ : Env} (a0 : Nat) (a1 : Nat → Int) (a2 : Nat → Int) (a3 : Nat → Int) (a4 : Nat → Int) (a5 : Nat → Int) (a6 : Nat → Int) (hM : MemoOk Tryz.prog (ctxOf Tryz.prog (memoF 51 wctP wctF wctW wctH 2 memo0)) ρ) : ∀ X a q n D, FxOk ρ X → X.base = (watA a0 a1 a2 a3 a4 a5 a6).base → X.nt = (watA a0 a1 a2 a3 a4 a5 a6).nt → X.W = (watA a0 a1 a2 a3 a4 a5 a6).W → (watA a0 a1 a2 a3 a4 a5 a6).rgo a = some q → q n = some D → (watA a0 a1 a2 a3 a4 a5 a6).RangeOk Tryz.prog ρ X a D := AF.noRange rfl

theorem watctr {ρ : Env} (a0 : Nat) (a1 : Nat → Int) (a2 : Nat → Int) (a3 : Nat → Int) (a4 : Nat → Int) (a5 : Nat → Int) (a6 : Nat → Int) {n : Nat} {v : watR} (hM : MemoOk Tryz.prog (ctxOf Tryz.prog (memoF 51 wctP wctF wctW wctH 2 memo0)) ρ) (hv : (watA a0 a1 a2 a3 a4 a5 a6).run n = some v) :
    Ctr Tryz.prog ρ 26 (watA a0 a1 a2 a3 a4 a5 a6).args (watA a0 a1 a2 a3 a4 a5 a6).H0 (watA a0 a1 a2 a3 a4 a5 a6).base (watA a0 a1 a2 a3 a4 a5 a6).W ((watA a0 a1 a2 a3 a4 a5 a6).rc v) (putH (watA a0 a1 a2 a3 a4 a5 a6).H0 ((watA a0 a1 a2 a3 a4 a5 a6).rh v ++ (watA a0 a1 a2 a3 a4 a5 a6).rx v)) ((watA a0 a1 a2 a3 a4 a5 a6).rn v) :=
  AF.ctr try_ok hM (watok a0 a1 a2 a3 a4 a5 a6) (fn := Tryz.f26) Tryz.func26 rfl rfl (Nat.le_of_ble_eq_true rfl) rfl (wathR a0 a1 a2 a3 a4 a5 a6 hM) hv


theorem watmem {ρ : Env} : MemoOk Tryz.prog (ctxOf Tryz.prog (memoF 51 wctP wctF wctW wctH 2 memo0)) ρ := (memoF_ok (wctknown wctmem) memo0_ok)


abbrev watP : List AB := [.rows [some .i64, some .i64, some .i64, some .i64, some .i64, some .i64], .fn 27 []]

noncomputable def watF (v : AW) : AF watN watR := watA (v.t.getD 0 .none).n ((v.t.getD 0 .none).c 0) ((v.t.getD 0 .none).c 1) ((v.t.getD 0 .none).c 2) ((v.t.getD 0 .none).c 3) ((v.t.getD 0 .none).c 4) ((v.t.getD 0 .none).c 5)

noncomputable def watW : watR → CV := fun v => .bool (.x v)
noncomputable def watH : watR → List (Nat × Blk) := fun v => []



instance : Inhabited watR := ⟨false⟩
theorem watknown {ρ : Env} (hM : MemoOk Tryz.prog (ctxOf Tryz.prog (memoF 51 wctP wctF wctW wctH 2 memo0)) ρ) : KnownF Tryz.prog ρ 26 watP watF watW watH 1 where
  fn := ⟨Tryz.f26, Tryz.func26, rfl⟩
  le := Nat.le_of_ble_eq_true rfl
  full := fun r => rfl
  rg := fun r => rfl
  hg := fun r => fa_nil
  ctr := fun v n r h => watctr (v.t.getD 0 .none).n ((v.t.getD 0 .none).c 0) ((v.t.getD 0 .none).c 1) ((v.t.getD 0 .none).c 2) ((v.t.getD 0 .none).c 3) ((v.t.getD 0 .none).c 4) ((v.t.getD 0 .none).c 5) hM h

end Go.Proofs.YthhceoendicboaaGreat.Cx

/- acme/wires.Check as an automaton. Made by tools/cxauto.py. -/
namespace Go.Proofs.YthhceoendicboaaGreat.Cx
set_option linter.unusedVariables false
set_option linter.unusedSimpArgs false
set_option maxRecDepth 100000
open Go Go.Proofs Go.RowKit

noncomputable abbrev wchCode : Code := funcCode Tryz.f7


abbrev wchN := Empty

abbrev wchR := Int

noncomputable def wchD0 (a0 : Nat) (a1 : Nat → Int) (a2 : Nat → Int) (a3 : Int) (a4 : Int) (a5 : Int) (a6 : Int) (a7 : Int) (a8 : Int) (a9 : Nat) (a10 : Nat → Int) (a11 : Nat → Int) (a12 : Nat → Int) (a13 : Nat → Int) (a14 : Nat → Int) (a15 : Nat → Int) : DD (Lf wchN wchR) :=
 .ask (Cm.run Cm.gtr ((↑a0 : Int)) 20)
   (.leaf (.done 5 []))
   (.ask (Cm.run Cm.gtr ((↑a9 : Int)) 10)
   (.leaf (.done 5 []))
   (.must (decide (0 + a0 ≤ a0))
   (.must (ShapeOk [some IntKind.i64, some IntKind.i64] (tabOf a0 fun i => [CV.int IntKind.i64 (IE.x (a1 (0 + i))), CV.int IntKind.i64 (IE.x (a2 (0 + i)))]) fun i => [CV.int IntKind.i64 (IE.x (a1 (0 + i))), CV.int IntKind.i64 (IE.x (a2 (0 + i)))])
   (.must (AF.fin (wvrA a0 (fun i => a1 (0 + i)) (fun i => a2 (0 + i)) a3 a4 a5 a6 a7 a8))
   (.ask (!AF.val (wvrA a0 (fun i => a1 (0 + i)) (fun i => a2 (0 + i)) a3 a4 a5 a6 a7 a8))
   (.leaf (.done 2 []))
   (.must (decide (0 + a9 ≤ a9))
   (.must (ShapeOk [some IntKind.i64, some IntKind.i64, some IntKind.i64, some IntKind.i64, some IntKind.i64, some IntKind.i64] (tabOf a9 fun i => [CV.int IntKind.i64 (IE.x (a10 (0 + i))), CV.int IntKind.i64 (IE.x (a11 (0 + i))), CV.int IntKind.i64 (IE.x (a12 (0 + i))), CV.int IntKind.i64 (IE.x (a13 (0 + i))), CV.int IntKind.i64 (IE.x (a14 (0 + i))), CV.int IntKind.i64 (IE.x (a15 (0 + i)))]) fun i => [CV.int IntKind.i64 (IE.x (a10 (0 + i))), CV.int IntKind.i64 (IE.x (a11 (0 + i))), CV.int IntKind.i64 (IE.x (a12 (0 + i))), CV.int IntKind.i64 (IE.x (a13 (0 + i))), CV.int IntKind.i64 (IE.x (a14 (0 + i))), CV.int IntKind.i64 (IE.x (a15 (0 + i)))])
   (.must (AF.fin (watA a9 (fun i => a10 (0 + i)) (fun i => a11 (0 + i)) (fun i => a12 (0 + i)) (fun i => a13 (0 + i)) (fun i => a14 (0 + i)) fun i => a15 (0 + i)))
   (.ask (!AF.val (watA a9 (fun i => a10 (0 + i)) (fun i => a11 (0 + i)) (fun i => a12 (0 + i)) (fun i => a13 (0 + i)) (fun i => a14 (0 + i)) fun i => a15 (0 + i)))
   (.leaf (.done 2 []))
   (.leaf (.done 0 [])))))))))))

noncomputable def wchD (a0 : Nat) (a1 : Nat → Int) (a2 : Nat → Int) (a3 : Int) (a4 : Int) (a5 : Int) (a6 : Int) (a7 : Int) (a8 : Int) (a9 : Nat) (a10 : Nat → Int) (a11 : Nat → Int) (a12 : Nat → Int) (a13 : Nat → Int) (a14 : Nat → Int) (a15 : Nat → Int) : wchN → DD (Lf wchN wchR) := fun a => nomatch a

noncomputable def wchA (a0 : Nat) (a1 : Nat → Int) (a2 : Nat → Int) (a3 : Int) (a4 : Int) (a5 : Int) (a6 : Int) (a7 : Int) (a8 : Int) (a9 : Nat) (a10 : Nat → Int) (a11 : Nat → Int) (a12 : Nat → Int) (a13 : Nat → Int) (a14 : Nat → Int) (a15 : Nat → Int) : AF wchN wchR where
  code := wchCode
  base := 2
  nt := 22
  m := 400
  un := []
  W := []
  h0 := [(0, ⟨.arg a0 2 (fun i => [.int .i64 (.x (a1 i)), .int .i64 (.x (a2 i))]) (fun _ => ⟨rfl, rfl⟩), 2, true, none⟩), (1, ⟨.arg a9 6 (fun i => [.int .i64 (.x (a10 i)), .int .i64 (.x (a11 i)), .int .i64 (.x (a12 i)), .int .i64 (.x (a13 i)), .int .i64 (.x (a14 i)), .int .i64 (.x (a15 i))]) (fun _ => ⟨rfl, rfl⟩), 6, true, none⟩)]
  args := [.agg [.sla 0 2 0 a0, .int .i64 (.x a3), .int .i64 (.x a4), .int .i64 (.x a5), .int .i64 (.x a6), .int .i64 (.x a7), .int .i64 (.x a8)], .sla 1 6 0 a9]
  res := (Tryz.f7).results.toList
  path := fun a => nomatch a
  pd := fun a => nomatch a
  D0 := wchD0 a0 a1 a2 a3 a4 a5 a6 a7 a8 a9 a10 a11 a12 a13 a14 a15
  D := wchD a0 a1 a2 a3 a4 a5 a6 a7 a8 a9 a10 a11 a12 a13 a14 a15
  rc := (fun v => .int .i64 (.x v))
  rh := (fun v => [])
  rn := (fun v => 2)
  rx := (fun v => [])
  rgo := (fun _ => none)


theorem wchstart (a0 : Nat) (a1 : Nat → Int) (a2 : Nat → Int) (a3 : Int) (a4 : Int) (a5 : Int) (a6 : Int) (a7 : Int) (a8 : Int) (a9 : Nat) (a10 : Nat → Int) (a11 : Nat → Int) (a12 : Nat → Int) (a13 : Nat → Int) (a14 : Nat → Int) (a15 : Nat → Int) : AF.edgeOk (wchA a0 a1 a2 a3 a4 a5 a6 a7 a8 a9 a10 a11 a12 a13 a14 a15) (ctxOf Tryz.prog memo0) (wchD0 a0 a1 a2 a3 a4 a5 a6 a7 a8 a9 a10 a11 a12 a13 a14 a15) (AF.run0 (wchA a0 a1 a2 a3 a4 a5 a6 a7 a8 a9 a10 a11 a12 a13 a14 a15) (ctxOf Tryz.prog (memoF 26 watP watF watW watH 1 (memoS 25 wvrP wvrF wvrW wvrH 1 memo0)))) := by unfold AF.edgeOk; kernel_rfl

theorem wchok (a0 : Nat) (a1 : Nat → Int) (a2 : Nat → Int) (a3 : Int) (a4 : Int) (a5 : Int) (a6 : Int) (a7 : Int) (a8 : Int) (a9 : Nat) (a10 : Nat → Int) (a11 : Nat → Int) (a12 : Nat → Int) (a13 : Nat → Int) (a14 : Nat → Int) (a15 : Nat → Int) : (wchA a0 a1 a2 a3 a4 a5 a6 a7 a8 a9 a10 a11 a12 a13 a14 a15).Ok Tryz.prog (ctxOf Tryz.prog (memoF 26 watP watF watW watH 1 (memoS 25 wvrP wvrF wvrW wvrH 1 memo0))) where
  regs := by kernel_rfl
  h0 := by kernel_rfl
  start := wchstart a0 a1 a2 a3 a4 a5 a6 a7 a8 a9 a10 a11 a12 a13 a14 a15
  node := fun a _ => nomatch a
  pd := fun a => nomatch a
  le := fun a => nomatch a
  rd := fun v => ⟨⟨fa_nil, fa_nil, fa_nil, rfl⟩, rfl⟩
  wb := rfl


theorem wchhR {ρ : Env} (a0 : Nat) (a1 : Nat → Int) (a2 : Nat → Int) (a3 : Int) (a4 : Int) (a5 : Int) (a6 : Int) (a7 : Int) (a8 : Int) (a9 : Nat) (a10 : Nat → Int) (a11 : Nat → Int) (a12 : Nat → Int) (a13 : Nat → Int) (a14 : Nat → Int) (a15 : Nat → Int) (hM : MemoOk Tryz.prog (ctxOf Tryz.prog (memoF 26 watP watF watW watH 1 (memoS 25 wvrP wvrF wvrW wvrH 1 memo0))) ρ) : ∀ X a q n D, FxOk ρ X → X.base = (wchA a0 a1 a2 a3 a4 a5 a6 a7 a8 a9 a10 a11 a12 a13 a14 a15).base → X.nt = (wchA a0 a1 a2 a3 a4 a5 a6 a7 a8 a9 a10 a11 a12 a13 a14 a15).nt → X.W = (wchA a0 a1 a2 a3 a4 a5 a6 a7 a8 a9 a10 a11 a12 a13 a14 a15).W → (wchA a0 a1 a2 a3 a4 a5 a6 a7 a8 a9 a10 a11 a12 a13 a14 a15).rgo a = some q → q n = some D → (wchA a0 a1 a2 a3 a4 a5 a6 a7 a8 a9 a10 a11 a12 a13 a14 a15).RangeOk Tryz.prog ρ X a D := AF.noRange rfl

theorem wchctr {ρ : Env} (a0 : Nat) (a1 : Nat → Int) (a2 : Nat → Int) (a3 : Int) (a4 : Int) (a5 : Int) (a6 : Int) (a7 : Int) (a8 : Int) (a9 : Nat) (a10 : Nat → Int) (a11 : Nat → Int) (a12 : Nat → Int) (a13 : Nat → Int) (a14 : Nat → Int) (a15 : Nat → Int) {n : Nat} {v : wchR} (hM : MemoOk Tryz.prog (ctxOf Tryz.prog (memoF 26 watP watF watW watH 1 (memoS 25 wvrP wvrF wvrW wvrH 1 memo0))) ρ) (hv : (wchA a0 a1 a2 a3 a4 a5 a6 a7 a8 a9 a10 a11 a12 a13 a14 a15).run n = some v) :
    Ctr Tryz.prog ρ 7 (wchA a0 a1 a2 a3 a4 a5 a6 a7 a8 a9 a10 a11 a12 a13 a14 a15).args (wchA a0 a1 a2 a3 a4 a5 a6 a7 a8 a9 a10 a11 a12 a13 a14 a15).H0 (wchA a0 a1 a2 a3 a4 a5 a6 a7 a8 a9 a10 a11 a12 a13 a14 a15).base (wchA a0 a1 a2 a3 a4 a5 a6 a7 a8 a9 a10 a11 a12 a13 a14 a15).W ((wchA a0 a1 a2 a3 a4 a5 a6 a7 a8 a9 a10 a11 a12 a13 a14 a15).rc v) (putH (wchA a0 a1 a2 a3 a4 a5 a6 a7 a8 a9 a10 a11 a12 a13 a14 a15).H0 ((wchA a0 a1 a2 a3 a4 a5 a6 a7 a8 a9 a10 a11 a12 a13 a14 a15).rh v ++ (wchA a0 a1 a2 a3 a4 a5 a6 a7 a8 a9 a10 a11 a12 a13 a14 a15).rx v)) ((wchA a0 a1 a2 a3 a4 a5 a6 a7 a8 a9 a10 a11 a12 a13 a14 a15).rn v) :=
  AF.ctr try_ok hM (wchok a0 a1 a2 a3 a4 a5 a6 a7 a8 a9 a10 a11 a12 a13 a14 a15) (fn := Tryz.f7) Tryz.func7 rfl rfl (Nat.le_of_ble_eq_true rfl) rfl (wchhR a0 a1 a2 a3 a4 a5 a6 a7 a8 a9 a10 a11 a12 a13 a14 a15 hM) hv


theorem wchmem {ρ : Env} : MemoOk Tryz.prog (ctxOf Tryz.prog (memoF 26 watP watF watW watH 1 (memoS 25 wvrP wvrF wvrW wvrH 1 memo0))) ρ := (memoF_ok (watknown watmem) (memoS_ok (wvrknown wvrmem) memo0_ok))


abbrev wchP : List AQ := [.agg [.rows [some .i64, some .i64], .int .i64, .int .i64, .int .i64, .int .i64, .int .i64, .int .i64], .rows [some .i64, some .i64, some .i64, some .i64, some .i64, some .i64]]

noncomputable def wchF (v : AW) : AF wchN wchR := wchA (v.t.getD 0 .none).n ((v.t.getD 0 .none).c 0) ((v.t.getD 0 .none).c 1) (v.i.getD 0 0) (v.i.getD 1 0) (v.i.getD 2 0) (v.i.getD 3 0) (v.i.getD 4 0) (v.i.getD 5 0) (v.t.getD 1 .none).n ((v.t.getD 1 .none).c 0) ((v.t.getD 1 .none).c 1) ((v.t.getD 1 .none).c 2) ((v.t.getD 1 .none).c 3) ((v.t.getD 1 .none).c 4) ((v.t.getD 1 .none).c 5)

noncomputable def wchW : wchR → CV := fun v => .int .i64 (.x v)
noncomputable def wchH : wchR → List (Nat × Blk) := fun v => []



instance : Inhabited wchR := ⟨0⟩
theorem wchknown {ρ : Env} (hM : MemoOk Tryz.prog (ctxOf Tryz.prog (memoF 26 watP watF watW watH 1 (memoS 25 wvrP wvrF wvrW wvrH 1 memo0))) ρ) : KnownS Tryz.prog ρ 7 wchP wchF wchW wchH 2 where
  fn := ⟨Tryz.f7, Tryz.func7, rfl⟩
  le := Nat.le_of_ble_eq_true rfl
  full := fun r => rfl
  rg := fun r => rfl
  hg := fun r => fa_nil
  ctr := fun v n r h => wchctr (v.t.getD 0 .none).n ((v.t.getD 0 .none).c 0) ((v.t.getD 0 .none).c 1) (v.i.getD 0 0) (v.i.getD 1 0) (v.i.getD 2 0) (v.i.getD 3 0) (v.i.getD 4 0) (v.i.getD 5 0) (v.t.getD 1 .none).n ((v.t.getD 1 .none).c 0) ((v.t.getD 1 .none).c 1) ((v.t.getD 1 .none).c 2) ((v.t.getD 1 .none).c 3) ((v.t.getD 1 .none).c 4) ((v.t.getD 1 .none).c 5) hM h

end Go.Proofs.YthhceoendicboaaGreat.Cx

/- acme/acmeref05.Angle as an automaton. Made by tools/cxauto.py. -/
namespace Go.Proofs.YthhceoendicboaaGreat.Cx
set_option linter.unusedVariables false
set_option linter.unusedSimpArgs false
set_option maxRecDepth 100000
open Go Go.Proofs Go.RowKit

noncomputable abbrev ranCode : Code := funcCode Tryz.f32


abbrev ranN := Empty

abbrev ranR := Bool

noncomputable def ranD0 (a0 : Int) (a1 : Int) : DD (Lf ranN ranR) :=
 .ask (Cm.run Cm.geq a0 1001)
   (.ask (Cm.run Cm.leq a0 20000)
   (.ask (Cm.run Cm.geq a1 0)
   (.ask (Cm.run Cm.leq a1 20000)
   (.leaf (.done true []))
   (.leaf (.done false [])))
   (.leaf (.done false [])))
   (.leaf (.done false [])))
   (.leaf (.done false []))

noncomputable def ranD (a0 : Int) (a1 : Int) : ranN → DD (Lf ranN ranR) := fun a => nomatch a

noncomputable def ranA (a0 : Int) (a1 : Int) : AF ranN ranR where
  code := ranCode
  base := 0
  nt := 11
  m := 400
  un := []
  W := []
  h0 := []
  args := [.agg [.int .i64 (.x a0), .int .i64 (.x a1)]]
  res := (Tryz.f32).results.toList
  path := fun a => nomatch a
  pd := fun a => nomatch a
  D0 := ranD0 a0 a1
  D := ranD a0 a1
  rc := (fun v => .bool (.x v))
  rh := (fun v => [])
  rn := (fun v => 0)
  rx := (fun v => [])
  rgo := (fun _ => none)


theorem ranstart (a0 : Int) (a1 : Int) : AF.edgeOk (ranA a0 a1) (ctxOf Tryz.prog memo0) (ranD0 a0 a1) (AF.run0 (ranA a0 a1) (ctxOf Tryz.prog memo0)) := by unfold AF.edgeOk; kernel_rfl

theorem ranok (a0 : Int) (a1 : Int) : (ranA a0 a1).Ok Tryz.prog (ctxOf Tryz.prog memo0) where
  regs := by kernel_rfl
  h0 := by kernel_rfl
  start := ranstart a0 a1
  node := fun a _ => nomatch a
  pd := fun a => nomatch a
  le := fun a => nomatch a
  rd := fun v => ⟨⟨fa_nil, fa_nil, fa_nil, rfl⟩, rfl⟩
  wb := rfl


theorem ranhR {ρ : Env} (a0 : Int) (a1 : Int) (hM : MemoOk Tryz.prog (ctxOf Tryz.prog memo0) ρ) : ∀ X a q n D, FxOk ρ X → X.base = (ranA a0 a1).base → X.nt = (ranA a0 a1).nt → X.W = (ranA a0 a1).W → (ranA a0 a1).rgo a = some q → q n = some D → (ranA a0 a1).RangeOk Tryz.prog ρ X a D := AF.noRange rfl

theorem ranctr {ρ : Env} (a0 : Int) (a1 : Int) {n : Nat} {v : ranR} (hM : MemoOk Tryz.prog (ctxOf Tryz.prog memo0) ρ) (hv : (ranA a0 a1).run n = some v) :
    Ctr Tryz.prog ρ 32 (ranA a0 a1).args (ranA a0 a1).H0 (ranA a0 a1).base (ranA a0 a1).W ((ranA a0 a1).rc v) (putH (ranA a0 a1).H0 ((ranA a0 a1).rh v ++ (ranA a0 a1).rx v)) ((ranA a0 a1).rn v) :=
  AF.ctr try_ok hM (ranok a0 a1) (fn := Tryz.f32) Tryz.func32 rfl rfl (Nat.le_of_ble_eq_true rfl) rfl (ranhR a0 a1 hM) hv


theorem ranmem {ρ : Env} : MemoOk Tryz.prog (ctxOf Tryz.prog memo0) ρ := memo0_ok


abbrev ranP : List AP := [.agg [.int .i64, .int .i64]]
noncomputable def ranF (v : AV) : AF ranN ranR := ranA (v.i.getD 0 0) (v.i.getD 1 0)
theorem ranknown {ρ : Env} (hM : MemoOk Tryz.prog (ctxOf Tryz.prog memo0) ρ) : KnownA Tryz.prog ρ 32 ranP ranF where
  fn := ⟨Tryz.f32, Tryz.func32, rfl⟩
  args := fun v => rfl
  plain := fun v r => rfl
  ctr := fun v n r h => ranctr (v.i.getD 0 0) (v.i.getD 1 0) hM h

end Go.Proofs.YthhceoendicboaaGreat.Cx

/- acme/acmeref05.Set as an automaton. Made by tools/cxauto.py. -/
namespace Go.Proofs.YthhceoendicboaaGreat.Cx
set_option linter.unusedVariables false
set_option linter.unusedSimpArgs false
set_option maxRecDepth 100000
open Go Go.Proofs Go.RowKit

noncomputable abbrev rseCode : Code := funcCode Tryz.f34


abbrev rseN := Empty

abbrev rseR := Bool

noncomputable def rseD0 (a0 : Int) (a1 : Int) (a2 : Int) (a3 : Int) (a4 : Int) (a5 : Int) : DD (Lf rseN rseR) :=
 .ask (Cm.run Cm.geq a0 1)
   (.ask (Cm.run Cm.leq a0 100000)
   (.ask (Cm.run Cm.geq a1 a0)
   (.ask (Cm.run Cm.leq a1 100000)
   (.ask (Cm.run Cm.leq (Ar.run Ar.sub IntKind.i64 a1 a0) 40)
   (.ask (Cm.run Cm.geq a2 1)
   (.ask (Cm.run Cm.leq a2 100000)
   (.ask (Cm.run Cm.geq a3 a2)
   (.ask (Cm.run Cm.leq a3 100000)
   (.ask (Cm.run Cm.leq (Ar.run Ar.sub IntKind.i64 a3 a2) 40)
   (.ask (Cm.run Cm.geq a4 1)
   (.ask (Cm.run Cm.leq a4 100000)
   (.ask (Cm.run Cm.geq a5 a4)
   (.ask (Cm.run Cm.leq a5 100000)
   (.ask (Cm.run Cm.leq (Ar.run Ar.sub IntKind.i64 a5 a4) 40)
   (.leaf (.done true []))
   (.leaf (.done false [])))
   (.leaf (.done false [])))
   (.leaf (.done false [])))
   (.leaf (.done false [])))
   (.leaf (.done false [])))
   (.leaf (.done false [])))
   (.leaf (.done false [])))
   (.leaf (.done false [])))
   (.leaf (.done false [])))
   (.leaf (.done false [])))
   (.leaf (.done false [])))
   (.leaf (.done false [])))
   (.leaf (.done false [])))
   (.leaf (.done false [])))
   (.leaf (.done false []))

noncomputable def rseD (a0 : Int) (a1 : Int) (a2 : Int) (a3 : Int) (a4 : Int) (a5 : Int) : rseN → DD (Lf rseN rseR) := fun a => nomatch a

noncomputable def rseA (a0 : Int) (a1 : Int) (a2 : Int) (a3 : Int) (a4 : Int) (a5 : Int) : AF rseN rseR where
  code := rseCode
  base := 0
  nt := 19
  m := 400
  un := []
  W := []
  h0 := []
  args := [.agg [.int .i64 (.x a0), .int .i64 (.x a1), .int .i64 (.x a2), .int .i64 (.x a3), .int .i64 (.x a4), .int .i64 (.x a5)]]
  res := (Tryz.f34).results.toList
  path := fun a => nomatch a
  pd := fun a => nomatch a
  D0 := rseD0 a0 a1 a2 a3 a4 a5
  D := rseD a0 a1 a2 a3 a4 a5
  rc := (fun v => .bool (.x v))
  rh := (fun v => [])
  rn := (fun v => 0)
  rx := (fun v => [])
  rgo := (fun _ => none)


theorem rsestart (a0 : Int) (a1 : Int) (a2 : Int) (a3 : Int) (a4 : Int) (a5 : Int) : AF.edgeOk (rseA a0 a1 a2 a3 a4 a5) (ctxOf Tryz.prog memo0) (rseD0 a0 a1 a2 a3 a4 a5) (AF.run0 (rseA a0 a1 a2 a3 a4 a5) (ctxOf Tryz.prog memo0)) := by unfold AF.edgeOk; kernel_rfl

theorem rseok (a0 : Int) (a1 : Int) (a2 : Int) (a3 : Int) (a4 : Int) (a5 : Int) : (rseA a0 a1 a2 a3 a4 a5).Ok Tryz.prog (ctxOf Tryz.prog memo0) where
  regs := by kernel_rfl
  h0 := by kernel_rfl
  start := rsestart a0 a1 a2 a3 a4 a5
  node := fun a _ => nomatch a
  pd := fun a => nomatch a
  le := fun a => nomatch a
  rd := fun v => ⟨⟨fa_nil, fa_nil, fa_nil, rfl⟩, rfl⟩
  wb := rfl


theorem rsehR {ρ : Env} (a0 : Int) (a1 : Int) (a2 : Int) (a3 : Int) (a4 : Int) (a5 : Int) (hM : MemoOk Tryz.prog (ctxOf Tryz.prog memo0) ρ) : ∀ X a q n D, FxOk ρ X → X.base = (rseA a0 a1 a2 a3 a4 a5).base → X.nt = (rseA a0 a1 a2 a3 a4 a5).nt → X.W = (rseA a0 a1 a2 a3 a4 a5).W → (rseA a0 a1 a2 a3 a4 a5).rgo a = some q → q n = some D → (rseA a0 a1 a2 a3 a4 a5).RangeOk Tryz.prog ρ X a D := AF.noRange rfl

theorem rsectr {ρ : Env} (a0 : Int) (a1 : Int) (a2 : Int) (a3 : Int) (a4 : Int) (a5 : Int) {n : Nat} {v : rseR} (hM : MemoOk Tryz.prog (ctxOf Tryz.prog memo0) ρ) (hv : (rseA a0 a1 a2 a3 a4 a5).run n = some v) :
    Ctr Tryz.prog ρ 34 (rseA a0 a1 a2 a3 a4 a5).args (rseA a0 a1 a2 a3 a4 a5).H0 (rseA a0 a1 a2 a3 a4 a5).base (rseA a0 a1 a2 a3 a4 a5).W ((rseA a0 a1 a2 a3 a4 a5).rc v) (putH (rseA a0 a1 a2 a3 a4 a5).H0 ((rseA a0 a1 a2 a3 a4 a5).rh v ++ (rseA a0 a1 a2 a3 a4 a5).rx v)) ((rseA a0 a1 a2 a3 a4 a5).rn v) :=
  AF.ctr try_ok hM (rseok a0 a1 a2 a3 a4 a5) (fn := Tryz.f34) Tryz.func34 rfl rfl (Nat.le_of_ble_eq_true rfl) rfl (rsehR a0 a1 a2 a3 a4 a5 hM) hv


theorem rsemem {ρ : Env} : MemoOk Tryz.prog (ctxOf Tryz.prog memo0) ρ := memo0_ok


abbrev rseP : List AP := [.agg [.int .i64, .int .i64, .int .i64, .int .i64, .int .i64, .int .i64]]
noncomputable def rseF (v : AV) : AF rseN rseR := rseA (v.i.getD 0 0) (v.i.getD 1 0) (v.i.getD 2 0) (v.i.getD 3 0) (v.i.getD 4 0) (v.i.getD 5 0)
theorem rseknown {ρ : Env} (hM : MemoOk Tryz.prog (ctxOf Tryz.prog memo0) ρ) : KnownA Tryz.prog ρ 34 rseP rseF where
  fn := ⟨Tryz.f34, Tryz.func34, rfl⟩
  args := fun v => rfl
  plain := fun v r => rfl
  ctr := fun v n r h => rsectr (v.i.getD 0 0) (v.i.getD 1 0) (v.i.getD 2 0) (v.i.getD 3 0) (v.i.getD 4 0) (v.i.getD 5 0) hM h

end Go.Proofs.YthhceoendicboaaGreat.Cx

/- acme/acmeref05.Check as an automaton. Made by tools/cxauto.py. -/
namespace Go.Proofs.YthhceoendicboaaGreat.Cx
set_option linter.unusedVariables false
set_option linter.unusedSimpArgs false
set_option maxRecDepth 100000
open Go Go.Proofs Go.RowKit

noncomputable abbrev rchCode : Code := funcCode Tryz.f10


inductive rchN where
  | n0 (p0 : Int)
  | n1 (p0 : Int)

abbrev rchR := Int

noncomputable def rchD0 (a0 : Nat) (a1 : Nat → Int) (a2 : Nat → Int) (a3 : Int) (a4 : Int) (a5 : Int) (a6 : Int) (a7 : Int) (a8 : Int) (a9 : Nat) (a10 : Nat → Int) (a11 : Nat → Int) (a12 : Nat → Int) (a13 : Nat → Int) (a14 : Nat → Int) (a15 : Nat → Int) : DD (Lf rchN rchR) :=
 .ask (Cm.run Cm.gtr ((↑a0 : Int)) 20)
   (.leaf (.done 5 []))
   (.ask (Cm.run Cm.gtr ((↑a9 : Int)) 10)
   (.leaf (.done 5 []))
   (.leaf (.next (.n0 0) [2])))

noncomputable def rchD (a0 : Nat) (a1 : Nat → Int) (a2 : Nat → Int) (a3 : Int) (a4 : Int) (a5 : Int) (a6 : Int) (a7 : Int) (a8 : Int) (a9 : Nat) (a10 : Nat → Int) (a11 : Nat → Int) (a12 : Nat → Int) (a13 : Nat → Int) (a14 : Nat → Int) (a15 : Nat → Int) : rchN → DD (Lf rchN rchR)
 | .n0 p0 =>
 .ask (Cm.run Cm.lss p0 (↑a0 : Int))
   (.must (decide (0 ≤ p0))
   (.must (decide (p0 < (↑a0 : Int)))
   (.must (decide (0 + Int.toNat p0 < a0))
   (.must (AF.fin (ranA (a1 (0 + Int.toNat p0)) (a2 (0 + Int.toNat p0))))
   (.ask (!AF.val (ranA (a1 (0 + Int.toNat p0)) (a2 (0 + Int.toNat p0))))
   (.leaf (.done 2 []))
   (.leaf (.next (.n0 (Ar.run Ar.add IntKind.i64 p0 1)) [2])))))))
   (.ask (Cm.run Cm.eql ((↑a0 : Int)) 0)
   (.leaf (.done 2 []))
   (.ask (Cm.run Cm.geq a3 100)
   (.ask (Cm.run Cm.leq a3 200000)
   (.ask (Cm.run Cm.geq a4 a3)
   (.ask (Cm.run Cm.leq a4 200000)
   (.ask (Cm.run Cm.leq (Ar.run Ar.sub IntKind.i64 a4 a3) 40)
   (.ask (Cm.run Cm.geq a5 0)
   (.ask (Cm.run Cm.leq a5 1000)
   (.ask (Cm.run Cm.geq a6 a5)
   (.ask (Cm.run Cm.leq a6 1000)
   (.ask (Cm.run Cm.leq (Ar.run Ar.sub IntKind.i64 a6 a5) 40)
   (.ask (Cm.run Cm.geq a7 (-1000))
   (.ask (Cm.run Cm.leq a7 1000)
   (.ask (Cm.run Cm.geq a8 a7)
   (.ask (Cm.run Cm.leq a8 1000)
   (.ask (Cm.run Cm.leq (Ar.run Ar.sub IntKind.i64 a8 a7) 40)
   (.leaf (.next (.n1 0) []))
   (.leaf (.done 2 [])))
   (.leaf (.done 2 [])))
   (.leaf (.done 2 [])))
   (.leaf (.done 2 [])))
   (.leaf (.done 2 [])))
   (.leaf (.done 2 [])))
   (.leaf (.done 2 [])))
   (.leaf (.done 2 [])))
   (.leaf (.done 2 [])))
   (.leaf (.done 2 [])))
   (.leaf (.done 2 [])))
   (.leaf (.done 2 [])))
   (.leaf (.done 2 [])))
   (.leaf (.done 2 [])))
   (.leaf (.done 2 []))))
 | .n1 p0 =>
 .ask (Cm.run Cm.lss p0 (↑a9 : Int))
   (.must (decide (0 ≤ p0))
   (.must (decide (p0 < (↑a9 : Int)))
   (.must (decide (0 + Int.toNat p0 < a9))
   (.must (AF.fin (rseA (a10 (0 + Int.toNat p0)) (a11 (0 + Int.toNat p0)) (a12 (0 + Int.toNat p0)) (a13 (0 + Int.toNat p0)) (a14 (0 + Int.toNat p0)) (a15 (0 + Int.toNat p0))))
   (.ask (!AF.val (rseA (a10 (0 + Int.toNat p0)) (a11 (0 + Int.toNat p0)) (a12 (0 + Int.toNat p0)) (a13 (0 + Int.toNat p0)) (a14 (0 + Int.toNat p0)) (a15 (0 + Int.toNat p0))))
   (.leaf (.done 2 []))
   (.leaf (.next (.n1 (Ar.run Ar.add IntKind.i64 p0 1)) [])))))))
   (.leaf (.done 0 []))

noncomputable def rchA (a0 : Nat) (a1 : Nat → Int) (a2 : Nat → Int) (a3 : Int) (a4 : Int) (a5 : Int) (a6 : Int) (a7 : Int) (a8 : Int) (a9 : Nat) (a10 : Nat → Int) (a11 : Nat → Int) (a12 : Nat → Int) (a13 : Nat → Int) (a14 : Nat → Int) (a15 : Nat → Int) : AF rchN rchR where
  code := rchCode
  base := 2
  nt := 64
  m := 400
  un := []
  W := []
  h0 := [(0, ⟨.arg a0 2 (fun i => [.int .i64 (.x (a1 i)), .int .i64 (.x (a2 i))]) (fun _ => ⟨rfl, rfl⟩), 2, true, none⟩), (1, ⟨.arg a9 6 (fun i => [.int .i64 (.x (a10 i)), .int .i64 (.x (a11 i)), .int .i64 (.x (a12 i)), .int .i64 (.x (a13 i)), .int .i64 (.x (a14 i)), .int .i64 (.x (a15 i))]) (fun _ => ⟨rfl, rfl⟩), 6, true, none⟩)]
  args := [.agg [.sla 0 2 0 a0, .int .i64 (.x a3), .int .i64 (.x a4), .int .i64 (.x a5), .int .i64 (.x a6), .int .i64 (.x a7), .int .i64 (.x a8)], .sla 1 6 0 a9]
  res := (Tryz.f10).results.toList
  path := fun a => match a with
   | .n0 p0 => [1, 1, 0, 1, 0]
   | .n1 p0 => [1, 1, 1, 1, 0, 1, 0]
  pd := fun a => match a with
   | .n0 p0 => ⟨[(1, .sla 1 6 0 a9), (2, .ptr (some (2, 0))), (5, .int .i64 (.x p0))], [(2, ⟨.lit [.sla 0 2 0 a0, .int .i64 (.x a3), .int .i64 (.x a4), .int .i64 (.x a5), .int .i64 (.x a6), .int .i64 (.x a7), .int .i64 (.x a8)], 0, true, none⟩)], 3, []⟩
   | .n1 p0 => ⟨[(1, .sla 1 6 0 a9), (6, .int .i64 (.x p0))], [], 2, []⟩
  D0 := rchD0 a0 a1 a2 a3 a4 a5 a6 a7 a8 a9 a10 a11 a12 a13 a14 a15
  D := rchD a0 a1 a2 a3 a4 a5 a6 a7 a8 a9 a10 a11 a12 a13 a14 a15
  rc := (fun v => .int .i64 (.x v))
  rh := (fun v => [])
  rn := (fun v => 2)
  rx := (fun v => [])
  rgo := (fun _ => none)


theorem rchstart (a0 : Nat) (a1 : Nat → Int) (a2 : Nat → Int) (a3 : Int) (a4 : Int) (a5 : Int) (a6 : Int) (a7 : Int) (a8 : Int) (a9 : Nat) (a10 : Nat → Int) (a11 : Nat → Int) (a12 : Nat → Int) (a13 : Nat → Int) (a14 : Nat → Int) (a15 : Nat → Int) : AF.edgeOk (rchA a0 a1 a2 a3 a4 a5 a6 a7 a8 a9 a10 a11 a12 a13 a14 a15) (ctxOf Tryz.prog memo0) (rchD0 a0 a1 a2 a3 a4 a5 a6 a7 a8 a9 a10 a11 a12 a13 a14 a15) (AF.run0 (rchA a0 a1 a2 a3 a4 a5 a6 a7 a8 a9 a10 a11 a12 a13 a14 a15) (ctxOf Tryz.prog (memoA 34 rseP rseF (memoA 32 ranP ranF memo0)))) := by unfold AF.edgeOk; kernel_rfl

theorem rchnode0 (a0 : Nat) (a1 : Nat → Int) (a2 : Nat → Int) (a3 : Int) (a4 : Int) (a5 : Int) (a6 : Int) (a7 : Int) (a8 : Int) (a9 : Nat) (a10 : Nat → Int) (a11 : Nat → Int) (a12 : Nat → Int) (a13 : Nat → Int) (a14 : Nat → Int) (a15 : Nat → Int) (p0 : Int) : AF.edgeOk (rchA a0 a1 a2 a3 a4 a5 a6 a7 a8 a9 a10 a11 a12 a13 a14 a15) (ctxOf Tryz.prog memo0) (rchD a0 a1 a2 a3 a4 a5 a6 a7 a8 a9 a10 a11 a12 a13 a14 a15 (.n0 p0)) (AF.runN (rchA a0 a1 a2 a3 a4 a5 a6 a7 a8 a9 a10 a11 a12 a13 a14 a15) (ctxOf Tryz.prog (memoA 34 rseP rseF (memoA 32 ranP ranF memo0))) (.n0 p0)) := by unfold AF.edgeOk; kernel_rfl

theorem rchnode1 (a0 : Nat) (a1 : Nat → Int) (a2 : Nat → Int) (a3 : Int) (a4 : Int) (a5 : Int) (a6 : Int) (a7 : Int) (a8 : Int) (a9 : Nat) (a10 : Nat → Int) (a11 : Nat → Int) (a12 : Nat → Int) (a13 : Nat → Int) (a14 : Nat → Int) (a15 : Nat → Int) (p0 : Int) : AF.edgeOk (rchA a0 a1 a2 a3 a4 a5 a6 a7 a8 a9 a10 a11 a12 a13 a14 a15) (ctxOf Tryz.prog memo0) (rchD a0 a1 a2 a3 a4 a5 a6 a7 a8 a9 a10 a11 a12 a13 a14 a15 (.n1 p0)) (AF.runN (rchA a0 a1 a2 a3 a4 a5 a6 a7 a8 a9 a10 a11 a12 a13 a14 a15) (ctxOf Tryz.prog (memoA 34 rseP rseF (memoA 32 ranP ranF memo0))) (.n1 p0)) := by unfold AF.edgeOk; kernel_rfl

theorem rchok (a0 : Nat) (a1 : Nat → Int) (a2 : Nat → Int) (a3 : Int) (a4 : Int) (a5 : Int) (a6 : Int) (a7 : Int) (a8 : Int) (a9 : Nat) (a10 : Nat → Int) (a11 : Nat → Int) (a12 : Nat → Int) (a13 : Nat → Int) (a14 : Nat → Int) (a15 : Nat → Int) : (rchA a0 a1 a2 a3 a4 a5 a6 a7 a8 a9 a10 a11 a12 a13 a14 a15).Ok Tryz.prog (ctxOf Tryz.prog (memoA 34 rseP rseF (memoA 32 ranP ranF memo0))) where
  regs := by kernel_rfl
  h0 := by kernel_rfl
  start := rchstart a0 a1 a2 a3 a4 a5 a6 a7 a8 a9 a10 a11 a12 a13 a14 a15
  node := fun a _ => match a with
   | .n0 p0 => rchnode0 a0 a1 a2 a3 a4 a5 a6 a7 a8 a9 a10 a11 a12 a13 a14 a15 p0
   | .n1 p0 => rchnode1 a0 a1 a2 a3 a4 a5 a6 a7 a8 a9 a10 a11 a12 a13 a14 a15 p0
  pd := fun a => match a with
   | .n0 p0 => ⟨(fa_cons rfl (fa_cons rfl (fa_cons rfl fa_nil))), (fa_cons ⟨.inl (Nat.le_of_ble_eq_true rfl), rfl, rfl⟩ fa_nil), fa_nil, rfl⟩
   | .n1 p0 => ⟨(fa_cons rfl (fa_cons rfl fa_nil)), fa_nil, fa_nil, rfl⟩
  le := fun a => match a with
   | .n0 p0 => Nat.le_of_ble_eq_true rfl
   | .n1 p0 => Nat.le_of_ble_eq_true rfl
  rd := fun v => ⟨⟨fa_nil, fa_nil, fa_nil, rfl⟩, rfl⟩
  wb := rfl


theorem rchhR {ρ : Env} (a0 : Nat) (a1 : Nat → Int) (a2 : Nat → Int) (a3 : Int) (a4 : Int) (a5 : Int) (a6 : Int) (a7 : Int) (a8 : Int) (a9 : Nat) (a10 : Nat → Int) (a11 : Nat → Int) (a12 : Nat → Int) (a13 : Nat → Int) (a14 : Nat → Int) (a15 : Nat → Int) (hM : MemoOk Tryz.prog (ctxOf Tryz.prog (memoA 34 rseP rseF (memoA 32 ranP ranF memo0))) ρ) : ∀ X a q n D, FxOk ρ X → X.base = (rchA a0 a1 a2 a3 a4 a5 a6 a7 a8 a9 a10 a11 a12 a13 a14 a15).base → X.nt = (rchA a0 a1 a2 a3 a4 a5 a6 a7 a8 a9 a10 a11 a12 a13 a14 a15).nt → X.W = (rchA a0 a1 a2 a3 a4 a5 a6 a7 a8 a9 a10 a11 a12 a13 a14 a15).W → (rchA a0 a1 a2 a3 a4 a5 a6 a7 a8 a9 a10 a11 a12 a13 a14 a15).rgo a = some q → q n = some D → (rchA a0 a1 a2 a3 a4 a5 a6 a7 a8 a9 a10 a11 a12 a13 a14 a15).RangeOk Tryz.prog ρ X a D := AF.noRange rfl

theorem rchctr {ρ : Env} (a0 : Nat) (a1 : Nat → Int) (a2 : Nat → Int) (a3 : Int) (a4 : Int) (a5 : Int) (a6 : Int) (a7 : Int) (a8 : Int) (a9 : Nat) (a10 : Nat → Int) (a11 : Nat → Int) (a12 : Nat → Int) (a13 : Nat → Int) (a14 : Nat → Int) (a15 : Nat → Int) {n : Nat} {v : rchR} (hM : MemoOk Tryz.prog (ctxOf Tryz.prog (memoA 34 rseP rseF (memoA 32 ranP ranF memo0))) ρ) (hv : (rchA a0 a1 a2 a3 a4 a5 a6 a7 a8 a9 a10 a11 a12 a13 a14 a15).run n = some v) :
    Ctr Tryz.prog ρ 10 (rchA a0 a1 a2 a3 a4 a5 a6 a7 a8 a9 a10 a11 a12 a13 a14 a15).args (rchA a0 a1 a2 a3 a4 a5 a6 a7 a8 a9 a10 a11 a12 a13 a14 a15).H0 (rchA a0 a1 a2 a3 a4 a5 a6 a7 a8 a9 a10 a11 a12 a13 a14 a15).base (rchA a0 a1 a2 a3 a4 a5 a6 a7 a8 a9 a10 a11 a12 a13 a14 a15).W ((rchA a0 a1 a2 a3 a4 a5 a6 a7 a8 a9 a10 a11 a12 a13 a14 a15).rc v) (putH (rchA a0 a1 a2 a3 a4 a5 a6 a7 a8 a9 a10 a11 a12 a13 a14 a15).H0 ((rchA a0 a1 a2 a3 a4 a5 a6 a7 a8 a9 a10 a11 a12 a13 a14 a15).rh v ++ (rchA a0 a1 a2 a3 a4 a5 a6 a7 a8 a9 a10 a11 a12 a13 a14 a15).rx v)) ((rchA a0 a1 a2 a3 a4 a5 a6 a7 a8 a9 a10 a11 a12 a13 a14 a15).rn v) :=
  AF.ctr try_ok hM (rchok a0 a1 a2 a3 a4 a5 a6 a7 a8 a9 a10 a11 a12 a13 a14 a15) (fn := Tryz.f10) Tryz.func10 rfl rfl (Nat.le_of_ble_eq_true rfl) rfl (rchhR a0 a1 a2 a3 a4 a5 a6 a7 a8 a9 a10 a11 a12 a13 a14 a15 hM) hv


theorem rchmem {ρ : Env} : MemoOk Tryz.prog (ctxOf Tryz.prog (memoA 34 rseP rseF (memoA 32 ranP ranF memo0))) ρ := (memoA_ok (rseknown rsemem) (memoA_ok (ranknown ranmem) memo0_ok))


abbrev rchP : List AQ := [.agg [.rows [some .i64, some .i64], .int .i64, .int .i64, .int .i64, .int .i64, .int .i64, .int .i64], .rows [some .i64, some .i64, some .i64, some .i64, some .i64, some .i64]]

noncomputable def rchF (v : AW) : AF rchN rchR := rchA (v.t.getD 0 .none).n ((v.t.getD 0 .none).c 0) ((v.t.getD 0 .none).c 1) (v.i.getD 0 0) (v.i.getD 1 0) (v.i.getD 2 0) (v.i.getD 3 0) (v.i.getD 4 0) (v.i.getD 5 0) (v.t.getD 1 .none).n ((v.t.getD 1 .none).c 0) ((v.t.getD 1 .none).c 1) ((v.t.getD 1 .none).c 2) ((v.t.getD 1 .none).c 3) ((v.t.getD 1 .none).c 4) ((v.t.getD 1 .none).c 5)

noncomputable def rchW : rchR → CV := fun v => .int .i64 (.x v)
noncomputable def rchH : rchR → List (Nat × Blk) := fun v => []



instance : Inhabited rchR := ⟨0⟩
theorem rchknown {ρ : Env} (hM : MemoOk Tryz.prog (ctxOf Tryz.prog (memoA 34 rseP rseF (memoA 32 ranP ranF memo0))) ρ) : KnownS Tryz.prog ρ 10 rchP rchF rchW rchH 2 where
  fn := ⟨Tryz.f10, Tryz.func10, rfl⟩
  le := Nat.le_of_ble_eq_true rfl
  full := fun r => rfl
  rg := fun r => rfl
  hg := fun r => fa_nil
  ctr := fun v n r h => rchctr (v.t.getD 0 .none).n ((v.t.getD 0 .none).c 0) ((v.t.getD 0 .none).c 1) (v.i.getD 0 0) (v.i.getD 1 0) (v.i.getD 2 0) (v.i.getD 3 0) (v.i.getD 4 0) (v.i.getD 5 0) (v.t.getD 1 .none).n ((v.t.getD 1 .none).c 0) ((v.t.getD 1 .none).c 1) ((v.t.getD 1 .none).c 2) ((v.t.getD 1 .none).c 3) ((v.t.getD 1 .none).c 4) ((v.t.getD 1 .none).c 5) hM h

end Go.Proofs.YthhceoendicboaaGreat.Cx

/- wires.Check and acmeref05.Check say of rules and sets what the document does. -/
namespace Go.Proofs.YthhceoendicboaaGreat.Cx
set_option linter.unusedVariables false
set_option linter.unusedSimpArgs false
set_option maxRecDepth 100000
set_option maxHeartbeats 4000000
open Go Go.RowKit

def AngOk (F H : Int) : Prop := 1001 ≤ F ∧ F ≤ 20000 ∧ 0 ≤ H ∧ H ≤ 20000
def SpOk (lo hi L H : Int) : Prop := lo ≤ L ∧ L ≤ H ∧ H ≤ hi ∧ H - L ≤ 40
def TriOk (x1 x2 x3 x4 x5 x6 : Int) : Prop := SpOk 1 100000 x1 x2 ∧ SpOk 1 100000 x3 x4 ∧ SpOk 1 100000 x5 x6
def AngsOk (n : Nat) (F H : Nat → Int) : Prop := ∀ i : Nat, (i : Int) < n → AngOk (F i) (H i)
def SetsOk (n : Nat) (c1 c2 c3 c4 c5 c6 : Nat → Int) : Prop := ∀ i : Nat, (i : Int) < n → TriOk (c1 i) (c2 i) (c3 i) (c4 i) (c5 i) (c6 i)
def RulOk (n : Nat) (F H : Nat → Int) (a b c d e f : Int) : Prop := 0 < n ∧ AngsOk n F H ∧ SpOk 100 200000 a b ∧ SpOk 0 1000 c d ∧ SpOk (-1000) 1000 e f
/-- The error of rules and sets. -/
def ChkV (n m : Nat) (V : Prop) (v : Int) : Prop := (n > 20 ∨ m > 10) ∧ v = 5 ∨ (n ≤ 20 ∧ m ≤ 10) ∧ (V ∧ v = 0 ∨ ¬ V ∧ v = 2)

theorem ChkV.same {n m : Nat} {V : Prop} {v w : Int} (h : ChkV n m V v) (h' : ChkV n m V w) : v = w := by
  rcases h with ⟨a, b⟩ | ⟨a, ⟨b, c⟩ | ⟨b, c⟩⟩ <;> rcases h' with ⟨a', b'⟩ | ⟨a', ⟨b', c'⟩ | ⟨b', c'⟩⟩ <;> first | omega | exact absurd b b' | exact absurd b' b

section
variable {a0 : Nat} {a1 a2 : Nat → Int} {a3 a4 a5 a6 a7 a8 : Int} {a9 : Nat} {a10 a11 a12 a13 a14 a15 : Nat → Int}

theorem wia_val (hn : a0 ≤ 10000) : AF.fin (wiaA a0 a1 a2) = true ∧ ((AF.val (wiaA a0 a1 a2) = -1 ∧ AngsOk a0 a1 a2) ∨ (0 ≤ AF.val (wiaA a0 a1 a2) ∧ ¬ AngsOk a0 a1 a2)) := by
  refine find_val (P := fun i => AngOk (a1 i) (a2 i)) wiaN.n0 (fun b => match b with | .n0 p => p) (fun _ => rfl) a0 (fun _ => rfl) rfl fun p h0 h1 => ?_
  show DD.sat _ _ (wiaD a0 a1 a2 (.n0 p))
  unfold wiaD
  have e1 : Ar.run .add .i64 p 1 = p + 1 := arAdd (by omega)
  have e4 : ((p.toNat : Nat) : Int) = p := Int.toNat_of_nonneg h0
  simp only [DD.sat, AngOk, Nat.zero_add, e1, cmLss, cmLssF, cmGtr, cmGtrF, decide_eq_true_eq, true_and]
  generalize a1 p.toNat = F; generalize a2 p.toNat = H
  repeat' (first | intro _ | apply And.intro)
  all_goals omega
theorem waa_val (hn : a0 ≤ 10000) : AF.fin (waaA a0 a1 a2) = true ∧ (AF.val (waaA a0 a1 a2) = true ↔ AngsOk a0 a1 a2) := by
  have h := wia_val (a1 := a1) (a2 := a2) hn
  have hc : AF.fin (wcaA a0 a1 a2) = true ∧ (AF.val (wcaA a0 a1 a2) = true ↔ ¬ AngsOk a0 a1 a2) := by
    refine flat_val (E := fun v => v = true ↔ ¬ AngsOk a0 a1 a2) (fun _ => rfl) ?_
    show DD.sat _ _ (wcaD0 a0 a1 a2)
    unfold wcaD0
    simp only [DD.sat, Nat.zero_add, cmGeq, cmGeqF, decide_eq_true_eq]
    refine ⟨Nat.le_refl _, shape_ok fun i _ => rfl, h.1, fun hv => ?_, fun hv => ?_⟩
    · have hv : 0 ≤ AF.val (wiaA a0 a1 a2) := hv
      rcases h.2 with h | h
      · rw [h.1] at hv; exact absurd hv (by decide)
      · exact ⟨fun _ => h.2, fun _ => trivial⟩
    · have hv : AF.val (wiaA a0 a1 a2) < 0 := hv
      rcases h.2 with h | h
      · exact ⟨fun k => (by cases k), fun k => absurd h.2 k⟩
      · exact absurd hv (Int.not_lt.2 h.1)
  refine flat_val (E := fun v => v = true ↔ AngsOk a0 a1 a2) (fun _ => rfl) ?_
  show DD.sat _ _ (waaD0 a0 a1 a2)
  unfold waaD0
  simp only [DD.sat, Nat.zero_add, decide_eq_true_eq]
  refine ⟨Nat.le_refl _, shape_ok fun i _ => rfl, hc.1, ?_⟩
  have h2 : AF.val (wcaA a0 (fun i => a1 i) (fun i => a2 i)) = true ↔ ¬ AngsOk a0 a1 a2 := hc.2
  rw [Bool.not_eq_true', ← Bool.not_eq_true, h2, Classical.not_not]

theorem was_val (hn : a0 ≤ 10000) (h3 : -10000000 ≤ a3) (h4 : a4 ≤ 10000000) : AF.fin (wasA a0 a1 a2 a3 a4) = true ∧ (AF.val (wasA a0 a1 a2 a3 a4) = true ↔ ∀ i : Nat, (i : Int) < a0 → SpOk a3 a4 (a1 i) (a2 i)) := by
  have h : AF.fin (wisA a0 a1 a2 a3 a4) = true ∧ ((AF.val (wisA a0 a1 a2 a3 a4) = -1 ∧ ∀ i : Nat, (i : Int) < a0 → SpOk a3 a4 (a1 i) (a2 i)) ∨ (0 ≤ AF.val (wisA a0 a1 a2 a3 a4) ∧ ¬ ∀ i : Nat, (i : Int) < a0 → SpOk a3 a4 (a1 i) (a2 i))) := by
    refine find_val (P := fun i => SpOk a3 a4 (a1 i) (a2 i)) wisN.n0 (fun b => match b with | .n0 p => p) (fun _ => rfl) a0 (fun _ => rfl) rfl fun p h0 h1 => ?_
    show DD.sat _ _ (wisD a0 a1 a2 a3 a4 (.n0 p))
    unfold wisD
    have e1 : Ar.run .add .i64 p 1 = p + 1 := arAdd (by omega)
    have e4 : ((p.toNat : Nat) : Int) = p := Int.toNat_of_nonneg h0
    simp only [DD.sat, SpOk, Nat.zero_add, e1, cmLss, cmLssF, cmLeq, cmLeqF, decide_eq_true_eq, true_and]
    generalize a1 p.toNat = L; generalize a2 p.toNat = H
    have e2 : a3 ≤ L → L ≤ H → H ≤ a4 → Ar.run .sub .i64 H L = H - L := fun _ _ _ => arSub (by omega)
    generalize Ar.run .sub .i64 H L = S at e2
    repeat' (first | intro _ | apply And.intro)
    all_goals omega
  have hc : AF.fin (wcsA a0 a1 a2 a3 a4) = true ∧ (AF.val (wcsA a0 a1 a2 a3 a4) = true ↔ ¬ ∀ i : Nat, (i : Int) < a0 → SpOk a3 a4 (a1 i) (a2 i)) := by
    refine flat_val (E := fun v => v = true ↔ ¬ ∀ i : Nat, (i : Int) < a0 → SpOk a3 a4 (a1 i) (a2 i)) (fun _ => rfl) ?_
    show DD.sat _ _ (wcsD0 a0 a1 a2 a3 a4)
    unfold wcsD0
    simp only [DD.sat, Nat.zero_add, cmGeq, cmGeqF, decide_eq_true_eq]
    refine ⟨Nat.le_refl _, shape_ok fun i _ => rfl, h.1, fun hv => ?_, fun hv => ?_⟩
    · have hv : 0 ≤ AF.val (wisA a0 a1 a2 a3 a4) := hv
      rcases h.2 with h | h
      · rw [h.1] at hv; exact absurd hv (by decide)
      · exact ⟨fun _ => h.2, fun _ => trivial⟩
    · have hv : AF.val (wisA a0 a1 a2 a3 a4) < 0 := hv
      rcases h.2 with h | h
      · exact ⟨fun k => (by cases k), fun k => absurd h.2 k⟩
      · exact absurd hv (Int.not_lt.2 h.1)
  refine flat_val (E := fun v => v = true ↔ ∀ i : Nat, (i : Int) < a0 → SpOk a3 a4 (a1 i) (a2 i)) (fun _ => rfl) ?_
  show DD.sat _ _ (wasD0 a0 a1 a2 a3 a4)
  unfold wasD0
  simp only [DD.sat, Nat.zero_add, decide_eq_true_eq]
  refine ⟨Nat.le_refl _, shape_ok fun i _ => rfl, hc.1, ?_⟩
  have h2 : AF.val (wcsA a0 (fun i => a1 i) (fun i => a2 i) a3 a4) = true ↔ ¬ ∀ i : Nat, (i : Int) < a0 → SpOk a3 a4 (a1 i) (a2 i) := hc.2
  rw [Bool.not_eq_true', ← Bool.not_eq_true, h2, Classical.not_not]

theorem wvs_val (hn : a0 ≤ 10000) (h3 : -10000000 ≤ a3) (h4 : a4 ≤ 10000000) : AF.fin (wvsA a3 a4 a0 a1 a2) = true ∧ (AF.val (wvsA a3 a4 a0 a1 a2) = true ↔ ∀ i : Nat, (i : Int) < a0 → SpOk a3 a4 (a1 i) (a2 i)) := by
  have h := was_val (a1 := a1) (a2 := a2) hn h3 h4
  refine flat_val (E := fun v => v = true ↔ ∀ i : Nat, (i : Int) < a0 → SpOk a3 a4 (a1 i) (a2 i)) (fun _ => rfl) ?_
  show DD.sat _ _ (wvsD0 a3 a4 a0 a1 a2)
  unfold wvsD0
  simp only [DD.sat, Nat.zero_add, decide_eq_true_eq]
  exact ⟨Nat.le_refl _, shape_ok fun i _ => rfl, h.1, h.2⟩

theorem wvs_one {lo hi L H : Int} (h3 : -10000000 ≤ lo) (h4 : hi ≤ 10000000) : AF.fin (wvsA lo hi 1 (fun i => List.getD [L] i 0) (fun i => List.getD [H] i 0)) = true ∧ (AF.val (wvsA lo hi 1 (fun i => List.getD [L] i 0) (fun i => List.getD [H] i 0)) = true ↔ SpOk lo hi L H) := by
  have h := wvs_val (a0 := 1) (a1 := fun i => List.getD [L] i 0) (a2 := fun i => List.getD [H] i 0) (by omega) h3 h4
  exact ⟨h.1, h.2.trans all1⟩

theorem wat_val (hn : a9 ≤ 10000) : AF.fin (watA a9 a10 a11 a12 a13 a14 a15) = true ∧ (AF.val (watA a9 a10 a11 a12 a13 a14 a15) = true ↔ SetsOk a9 a10 a11 a12 a13 a14 a15) := by
  have h : AF.fin (witA a9 a10 a11 a12 a13 a14 a15) = true ∧ ((AF.val (witA a9 a10 a11 a12 a13 a14 a15) = -1 ∧ SetsOk a9 a10 a11 a12 a13 a14 a15) ∨ (0 ≤ AF.val (witA a9 a10 a11 a12 a13 a14 a15) ∧ ¬ SetsOk a9 a10 a11 a12 a13 a14 a15)) := by
    refine find_val (P := fun i => TriOk (a10 i) (a11 i) (a12 i) (a13 i) (a14 i) (a15 i)) witN.n0 (fun b => match b with | .n0 p => p) (fun _ => rfl) a9 (fun _ => rfl) rfl fun p h0 h1 => ?_
    show DD.sat _ _ (witD a9 a10 a11 a12 a13 a14 a15 (.n0 p))
    unfold witD
    have e1 : Ar.run .add .i64 p 1 = p + 1 := arAdd (by omega)
    have e4 : ((p.toNat : Nat) : Int) = p := Int.toNat_of_nonneg h0
    simp only [DD.sat, Nat.zero_add, e1, cmLss, cmLssF, decide_eq_true_eq, true_and, Bool.not_eq_true', Bool.not_eq_false']
    have hs := wvs_val (a0 := 3) (a1 := fun i => List.getD [a10 p.toNat, a12 p.toNat, a14 p.toNat] i 0) (a2 := fun i => List.getD [a11 p.toNat, a13 p.toNat, a15 p.toNat] i 0) (a3 := 1) (a4 := 100000) (by omega) (by omega) (by omega)
    have hk : AF.val (wvsA 1 100000 3 (fun i => List.getD [a10 p.toNat, a12 p.toNat, a14 p.toNat] i 0) (fun i => List.getD [a11 p.toNat, a13 p.toNat, a15 p.toNat] i 0)) = true ↔ TriOk (a10 p.toNat) (a11 p.toNat) (a12 p.toNat) (a13 p.toNat) (a14 p.toNat) (a15 p.toNat) := hs.2.trans all3
    refine ⟨fun h => ⟨h0, h, by omega, hs.1, fun hv => .inr ⟨h, fun k => ?_⟩, fun hv => ⟨h, hk.1 hv⟩⟩, fun h => .inl h⟩
    rw [hk.2 k] at hv
    cases hv
  have hc : AF.fin (wctA a9 a10 a11 a12 a13 a14 a15) = true ∧ (AF.val (wctA a9 a10 a11 a12 a13 a14 a15) = true ↔ ¬ SetsOk a9 a10 a11 a12 a13 a14 a15) := by
    refine flat_val (E := fun v => v = true ↔ ¬ SetsOk a9 a10 a11 a12 a13 a14 a15) (fun _ => rfl) ?_
    show DD.sat _ _ (wctD0 a9 a10 a11 a12 a13 a14 a15)
    unfold wctD0
    simp only [DD.sat, Nat.zero_add, cmGeq, cmGeqF, decide_eq_true_eq]
    refine ⟨Nat.le_refl _, shape_ok fun i _ => rfl, h.1, fun hv => ?_, fun hv => ?_⟩
    · have hv : 0 ≤ AF.val (witA a9 a10 a11 a12 a13 a14 a15) := hv
      rcases h.2 with h | h
      · rw [h.1] at hv; exact absurd hv (by decide)
      · exact ⟨fun _ => h.2, fun _ => trivial⟩
    · have hv : AF.val (witA a9 a10 a11 a12 a13 a14 a15) < 0 := hv
      rcases h.2 with h | h
      · exact ⟨fun k => (by cases k), fun k => absurd h.2 k⟩
      · exact absurd hv (Int.not_lt.2 h.1)
  refine flat_val (E := fun v => v = true ↔ SetsOk a9 a10 a11 a12 a13 a14 a15) (fun _ => rfl) ?_
  show DD.sat _ _ (watD0 a9 a10 a11 a12 a13 a14 a15)
  unfold watD0
  simp only [DD.sat, Nat.zero_add, decide_eq_true_eq]
  refine ⟨Nat.le_refl _, shape_ok fun i _ => rfl, hc.1, ?_⟩
  have h2 : AF.val (wctA a9 (fun i => a10 i) (fun i => a11 i) (fun i => a12 i) (fun i => a13 i) (fun i => a14 i) (fun i => a15 i)) = true ↔ ¬ SetsOk a9 a10 a11 a12 a13 a14 a15 := hc.2
  rw [Bool.not_eq_true', ← Bool.not_eq_true, h2, Classical.not_not]

theorem wvr_val (hn : a0 ≤ 10000) : AF.fin (wvrA a0 a1 a2 a3 a4 a5 a6 a7 a8) = true ∧ (AF.val (wvrA a0 a1 a2 a3 a4 a5 a6 a7 a8) = true ↔ RulOk a0 a1 a2 a3 a4 a5 a6 a7 a8) := by
  have hA := waa_val (a1 := a1) (a2 := a2) hn
  have h1 := wvs_one (lo := 100) (hi := 200000) (L := a3) (H := a4) (by omega) (by omega)
  have h2 := wvs_one (lo := 0) (hi := 1000) (L := a5) (H := a6) (by omega) (by omega)
  have h3 := wvs_one (lo := -1000) (hi := 1000) (L := a7) (H := a8) (by omega) (by omega)
  refine flat_val (E := fun v => v = true ↔ RulOk a0 a1 a2 a3 a4 a5 a6 a7 a8) (fun _ => rfl) ?_
  show DD.sat _ _ (wvrD0 a0 a1 a2 a3 a4 a5 a6 a7 a8)
  unfold wvrD0 RulOk
  simp only [DD.sat, Nat.zero_add, cmGtr, cmGtrF, decide_eq_true_eq]
  have no : ∀ {b : Bool} {Q : Prop}, (b = true ↔ Q) → b = false → ¬ Q := fun h hb hq => by rw [h.2 hq] at hb; cases hb
  refine ⟨fun g0 => ⟨Nat.le_refl _, shape_ok fun i _ => rfl, hA.1, fun g1 => ⟨h1.1, fun g2 => ⟨h2.1, fun g3 => ⟨h3.1, ?_⟩, fun g3 => ?_⟩, fun g2 => ?_⟩, fun g1 => ?_⟩, fun g0 => ?_⟩
  · exact ⟨fun k => ⟨by omega, hA.2.1 g1, h1.2.1 g2, h2.2.1 g3, h3.2.1 k⟩, fun k => h3.2.2 k.2.2.2.2⟩
  · exact ⟨fun k => (by cases k), fun k => absurd k.2.2.2.1 (no h2.2 g3)⟩
  · exact ⟨fun k => (by cases k), fun k => absurd k.2.2.1 (no h1.2 g2)⟩
  · exact ⟨fun k => (by cases k), fun k => absurd k.2.1 (no hA.2 g1)⟩
  · exact ⟨fun k => (by cases k), fun k => by omega⟩

theorem wch_val (hn : a0 ≤ 10000) (hm : a9 ≤ 10000) : AF.fin (wchA a0 a1 a2 a3 a4 a5 a6 a7 a8 a9 a10 a11 a12 a13 a14 a15) = true ∧ ChkV a0 a9 (RulOk a0 a1 a2 a3 a4 a5 a6 a7 a8 ∧ SetsOk a9 a10 a11 a12 a13 a14 a15) (AF.val (wchA a0 a1 a2 a3 a4 a5 a6 a7 a8 a9 a10 a11 a12 a13 a14 a15)) := by
  have hR := wvr_val (a1 := a1) (a2 := a2) (a3 := a3) (a4 := a4) (a5 := a5) (a6 := a6) (a7 := a7) (a8 := a8) hn
  have hS := wat_val (a10 := a10) (a11 := a11) (a12 := a12) (a13 := a13) (a14 := a14) (a15 := a15) hm
  refine flat_val (E := ChkV a0 a9 (RulOk a0 a1 a2 a3 a4 a5 a6 a7 a8 ∧ SetsOk a9 a10 a11 a12 a13 a14 a15)) (fun _ => rfl) ?_
  show DD.sat _ _ (wchD0 a0 a1 a2 a3 a4 a5 a6 a7 a8 a9 a10 a11 a12 a13 a14 a15)
  unfold wchD0
  simp only [DD.sat, Nat.zero_add, cmGtr, cmGtrF, decide_eq_true_eq, Bool.not_eq_true', Bool.not_eq_false']
  have no : ∀ {b : Bool} {Q : Prop}, (b = true ↔ Q) → b = false → ¬ Q := fun h hb hq => by rw [h.2 hq] at hb; cases hb
  refine ⟨fun g => .inl ⟨by omega, rfl⟩, fun g => ⟨fun g' => .inl ⟨by omega, rfl⟩, fun g' => ⟨Nat.le_refl _, shape_ok fun i _ => rfl, hR.1, fun k => .inr ⟨by omega, .inr ⟨fun q => no hR.2 k q.1, rfl⟩⟩, fun k => ⟨Nat.le_refl _, shape_ok fun i _ => rfl, hS.1, fun q => .inr ⟨by omega, .inr ⟨fun z => no hS.2 q z.2, rfl⟩⟩, fun q => .inr ⟨by omega, .inl ⟨⟨hR.2.1 k, hS.2.1 q⟩, rfl⟩⟩⟩⟩⟩⟩

/-! ## The reference's -/

theorem ran_val {x y : Int} : AF.fin (ranA x y) = true ∧ (AF.val (ranA x y) = true ↔ AngOk x y) := by
  refine flat_val (E := fun v => v = true ↔ AngOk x y) (fun _ => rfl) ?_
  show DD.sat _ _ (ranD0 x y)
  unfold ranD0 AngOk
  simp only [DD.sat, cmGeq, cmGeqF, cmLeq, cmLeqF, Bool.false_eq_true, true_iff, false_iff, true_implies]
  repeat' (first | intro _ | apply And.intro)
  all_goals omega
theorem rse_val {x1 x2 x3 x4 x5 x6 : Int} : AF.fin (rseA x1 x2 x3 x4 x5 x6) = true ∧ (AF.val (rseA x1 x2 x3 x4 x5 x6) = true ↔ TriOk x1 x2 x3 x4 x5 x6) := by
  refine flat_val (E := fun v => v = true ↔ TriOk x1 x2 x3 x4 x5 x6) (fun _ => rfl) ?_
  show DD.sat _ _ (rseD0 x1 x2 x3 x4 x5 x6)
  unfold rseD0 TriOk SpOk
  simp only [DD.sat, cmGeq, cmGeqF, cmLeq, cmLeqF, Bool.false_eq_true, true_iff, false_iff]
  have e1 : 1 ≤ x1 → x1 ≤ x2 → x2 ≤ 100000 → Ar.run .sub .i64 x2 x1 = x2 - x1 := fun _ _ _ => arSub (by omega)
  have e2 : 1 ≤ x3 → x3 ≤ x4 → x4 ≤ 100000 → Ar.run .sub .i64 x4 x3 = x4 - x3 := fun _ _ _ => arSub (by omega)
  have e3 : 1 ≤ x5 → x5 ≤ x6 → x6 ≤ 100000 → Ar.run .sub .i64 x6 x5 = x6 - x5 := fun _ _ _ => arSub (by omega)
  generalize Ar.run .sub .i64 x2 x1 = s1 at e1
  generalize Ar.run .sub .i64 x4 x3 = s2 at e2
  generalize Ar.run .sub .i64 x6 x5 = s3 at e3
  repeat' (first | intro _ | apply And.intro)
  all_goals omega
theorem rch_val (hn : a0 ≤ 10000) (hm : a9 ≤ 10000) : AF.fin (rchA a0 a1 a2 a3 a4 a5 a6 a7 a8 a9 a10 a11 a12 a13 a14 a15) = true ∧ ChkV a0 a9 (RulOk a0 a1 a2 a3 a4 a5 a6 a7 a8 ∧ SetsOk a9 a10 a11 a12 a13 a14 a15) (AF.val (rchA a0 a1 a2 a3 a4 a5 a6 a7 a8 a9 a10 a11 a12 a13 a14 a15)) := by
  have hA := fun i => ran_val (x := a1 i) (y := a2 i)
  have hS := fun i => rse_val (x1 := a10 i) (x2 := a11 i) (x3 := a12 i) (x4 := a13 i) (x5 := a14 i) (x6 := a15 i)
  have no : ∀ {b : Bool} {Q : Prop}, (b = true ↔ Q) → b = false → ¬ Q := fun h hb hq => by rw [h.2 hq] at hb; cases hb
  refine AF.val_sat (E := ChkV a0 a9 (RulOk a0 a1 a2 a3 a4 a5 a6 a7 a8 ∧ SetsOk a9 a10 a11 a12 a13 a14 a15))
    (Inv := fun b => (a0 ≤ 20 ∧ a9 ≤ 10) ∧ match b with
      | .n0 p => 0 ≤ p ∧ p ≤ a0 ∧ ∀ i : Nat, (i : Int) < p → AngOk (a1 i) (a2 i)
      | .n1 p => RulOk a0 a1 a2 a3 a4 a5 a6 a7 a8 ∧ 0 ≤ p ∧ p ≤ a9 ∧ ∀ i : Nat, (i : Int) < p → TriOk (a10 i) (a11 i) (a12 i) (a13 i) (a14 i) (a15 i))
    (fun b => match b with | .n0 p => (a0 - p).toNat + 100 | .n1 p => (a9 - p).toNat) (fun _ => rfl) (fun a hI => ?_) ?_
  · cases a with
    | n0 p =>
      obtain ⟨hb, h0, h1, h2⟩ := hI
      refine DD.sat_mono (I := fun b => (b = .n0 (p + 1) ∧ p < a0 ∧ AngOk (a1 p.toNat) (a2 p.toNat)) ∨ (b = .n1 0 ∧ (a0 : Int) ≤ p ∧ 0 < a0 ∧ SpOk 100 200000 a3 a4 ∧ SpOk 0 1000 a5 a6 ∧ SpOk (-1000) 1000 a7 a8))
        (E := fun v => v = 2 ∧ ((p < a0 ∧ ¬ AngOk (a1 p.toNat) (a2 p.toNat)) ∨ ((a0 : Int) ≤ p ∧ ¬ (0 < a0 ∧ SpOk 100 200000 a3 a4 ∧ SpOk 0 1000 a5 a6 ∧ SpOk (-1000) 1000 a7 a8)))) ?_ ?_ _ ?_
      · rintro _ (⟨rfl, g1, g2⟩ | ⟨rfl, g1, g2⟩)
        · exact ⟨⟨hb, by omega, by omega, all_next h0 h2 g2⟩, by show (a0 - (p + 1)).toNat + 100 < (a0 - p).toNat + 100; omega⟩
        · exact ⟨⟨hb, ⟨g2.1, fun i hi => h2 i (by omega), g2.2⟩, by omega, by omega, fun i hi => by omega⟩, by show (a9 - 0 : Int).toNat < (a0 - p).toNat + 100; omega⟩
      · rintro v ⟨rfl, g | g⟩
        · exact .inr ⟨hb, .inr ⟨fun q => g.2 (q.1.2.1 p.toNat (by omega)), rfl⟩⟩
        · exact .inr ⟨hb, .inr ⟨fun q => g.2 ⟨q.1.1, q.1.2.2⟩, rfl⟩⟩
      · show DD.sat _ _ (rchD a0 a1 a2 a3 a4 a5 a6 a7 a8 a9 a10 a11 a12 a13 a14 a15 (.n0 p))
        unfold rchD
        have e1 : Ar.run .add .i64 p 1 = p + 1 := arAdd (by omega)
        simp only [DD.sat, Nat.zero_add, e1, cmLss, cmLssF, cmEql, cmEqlF, cmGeq, cmGeqF, cmLeq, cmLeqF, decide_eq_true_eq, Bool.not_eq_true', Bool.not_eq_false', reduceCtorEq, false_and, false_or, or_false, true_and]
        refine ⟨fun h => ⟨h0, h, by omega, (hA _).1, fun k => .inl ⟨h, no (hA _).2 k⟩, fun k => ⟨h, (hA _).2.1 k⟩⟩, fun h => ?_⟩
        clear hA hS no h2
        unfold SpOk
        have e2 : 100 ≤ a3 → a3 ≤ a4 → a4 ≤ 200000 → Ar.run .sub .i64 a4 a3 = a4 - a3 := fun _ _ _ => arSub (by omega)
        have e3 : 0 ≤ a5 → a5 ≤ a6 → a6 ≤ 1000 → Ar.run .sub .i64 a6 a5 = a6 - a5 := fun _ _ _ => arSub (by omega)
        have e4 : -1000 ≤ a7 → a7 ≤ a8 → a8 ≤ 1000 → Ar.run .sub .i64 a8 a7 = a8 - a7 := fun _ _ _ => arSub (by omega)
        generalize Ar.run .sub .i64 a4 a3 = s1 at e2
        generalize Ar.run .sub .i64 a6 a5 = s2 at e3
        generalize Ar.run .sub .i64 a8 a7 = s3 at e4
        repeat' (first | (refine .inr ⟨h, ?_⟩; intro _) | intro _ | apply And.intro)
        all_goals omega
    | n1 p =>
      obtain ⟨hb, hR, h0, h1, h2⟩ := hI
      show DD.sat _ _ (rchD a0 a1 a2 a3 a4 a5 a6 a7 a8 a9 a10 a11 a12 a13 a14 a15 (.n1 p))
      unfold rchD
      have e1 : Ar.run .add .i64 p 1 = p + 1 := arAdd (by omega)
      simp only [DD.sat, Nat.zero_add, e1, cmLss, cmLssF, decide_eq_true_eq, Bool.not_eq_true', Bool.not_eq_false']
      refine ⟨fun h => ⟨h0, h, by omega, (hS _).1, fun k => ?_, fun k => ?_⟩, fun h => ?_⟩
      · exact .inr ⟨hb, .inr ⟨fun q => no (hS _).2 k (q.2 p.toNat (by omega)), rfl⟩⟩
      · exact ⟨⟨hb, hR, by omega, by omega, all_next h0 h2 ((hS _).2.1 k)⟩, by show (a9 - (p + 1)).toNat < (a9 - p).toNat; omega⟩
      · exact .inr ⟨hb, .inl ⟨⟨hR, fun i hi => h2 i (by omega)⟩, rfl⟩⟩
  · show DD.sat _ _ (rchD0 a0 a1 a2 a3 a4 a5 a6 a7 a8 a9 a10 a11 a12 a13 a14 a15)
    unfold rchD0
    simp only [DD.sat, cmGtr, cmGtrF]
    refine ⟨fun g => .inl ⟨by omega, rfl⟩, fun g => ⟨fun g' => .inl ⟨by omega, rfl⟩, fun g' => ⟨by omega, by omega, by omega, fun i hi => by omega⟩⟩⟩
end
end Go.Proofs.YthhceoendicboaaGreat.Cx

/- acme/wires.isTruth as an automaton. Made by tools/cxauto.py. -/
namespace Go.Proofs.YthhceoendicboaaGreat.Cx
set_option linter.unusedVariables false
set_option linter.unusedSimpArgs false
set_option maxRecDepth 100000
open Go Go.Proofs Go.RowKit

noncomputable abbrev wit_Code : Code := funcCode Tryz.f28


abbrev wit_N := Empty

abbrev wit_R := Bool

noncomputable def wit_D0 (a0 : Nat) (a1 : Nat → Int) (a2 : Nat → Int) (a3 : Int) (a4 : Int) (a5 : Int) (a6 : Int) (a7 : Int) (a8 : Int) (a9 : Int) (a10 : Int) (a11 : Int) (a12 : Int) (a13 : Int) (a14 : Int) (a15 : Int) (a16 : Int) (a17 : Int) (a18 : Int) (a19 : Int) (a20 : Int) (a21 : Int) (a22 : Int) : DD (Lf wit_N wit_R) :=
 .ask (Cm.run Cm.leq a9 a18)
   (.ask (Cm.run Cm.leq a18 a10)
   (.ask (Cm.run Cm.leq a11 a19)
   (.ask (Cm.run Cm.leq a19 a12)
   (.ask (Cm.run Cm.leq a13 a20)
   (.ask (Cm.run Cm.leq a20 a14)
   (.ask (Cm.run Cm.lss a16 0)
   (.leaf (.done false []))
   (.ask (Cm.run Cm.gtr a16 (Ar.run Ar.sub IntKind.i64 ((↑a0 : Int)) 1))
   (.leaf (.done false []))
   (.ask (Cm.run Cm.lss a15 (-20000000))
   (.leaf (.done false []))
   (.ask (Cm.run Cm.gtr a15 20000000)
   (.leaf (.done false []))
   (.ask (Cm.run Cm.leq a3 a17)
   (.ask (Cm.run Cm.leq a17 a4)
   (.ask (Cm.run Cm.leq a5 a21)
   (.ask (Cm.run Cm.leq a21 a6)
   (.ask (Cm.run Cm.leq a7 a22)
   (.ask (Cm.run Cm.leq a22 a8)
   (.leaf (.done true []))
   (.leaf (.done false [])))
   (.leaf (.done false [])))
   (.leaf (.done false [])))
   (.leaf (.done false [])))
   (.leaf (.done false [])))
   (.leaf (.done false [])))))))
   (.leaf (.done false [])))
   (.leaf (.done false [])))
   (.leaf (.done false [])))
   (.leaf (.done false [])))
   (.leaf (.done false [])))
   (.leaf (.done false []))

noncomputable def wit_D (a0 : Nat) (a1 : Nat → Int) (a2 : Nat → Int) (a3 : Int) (a4 : Int) (a5 : Int) (a6 : Int) (a7 : Int) (a8 : Int) (a9 : Int) (a10 : Int) (a11 : Int) (a12 : Int) (a13 : Int) (a14 : Int) (a15 : Int) (a16 : Int) (a17 : Int) (a18 : Int) (a19 : Int) (a20 : Int) (a21 : Int) (a22 : Int) : wit_N → DD (Lf wit_N wit_R) := fun a => nomatch a

noncomputable def wit_A (a0 : Nat) (a1 : Nat → Int) (a2 : Nat → Int) (a3 : Int) (a4 : Int) (a5 : Int) (a6 : Int) (a7 : Int) (a8 : Int) (a9 : Int) (a10 : Int) (a11 : Int) (a12 : Int) (a13 : Int) (a14 : Int) (a15 : Int) (a16 : Int) (a17 : Int) (a18 : Int) (a19 : Int) (a20 : Int) (a21 : Int) (a22 : Int) : AF wit_N wit_R where
  code := wit_Code
  base := 1
  nt := 58
  m := 400
  un := [2]
  W := []
  h0 := [(0, ⟨.arg a0 2 (fun i => [.int .i64 (.x (a1 i)), .int .i64 (.x (a2 i))]) (fun _ => ⟨rfl, rfl⟩), 2, true, none⟩)]
  args := [.agg [.sla 0 2 0 a0, .int .i64 (.x a3), .int .i64 (.x a4), .int .i64 (.x a5), .int .i64 (.x a6), .int .i64 (.x a7), .int .i64 (.x a8)], .agg [.int .i64 (.x a9), .int .i64 (.x a10), .int .i64 (.x a11), .int .i64 (.x a12), .int .i64 (.x a13), .int .i64 (.x a14)], .agg [.int .i64 (.x a15), .int .i64 (.x a16), .int .i64 (.x a17), .int .i64 (.x a18), .int .i64 (.x a19), .int .i64 (.x a20), .int .i64 (.x a21), .int .i64 (.x a22)]]
  res := (Tryz.f28).results.toList
  path := fun a => nomatch a
  pd := fun a => nomatch a
  D0 := wit_D0 a0 a1 a2 a3 a4 a5 a6 a7 a8 a9 a10 a11 a12 a13 a14 a15 a16 a17 a18 a19 a20 a21 a22
  D := wit_D a0 a1 a2 a3 a4 a5 a6 a7 a8 a9 a10 a11 a12 a13 a14 a15 a16 a17 a18 a19 a20 a21 a22
  rc := (fun v => .bool (.x v))
  rh := (fun v => [])
  rn := (fun v => 1)
  rx := (fun v => [])
  rgo := (fun _ => none)


theorem wit_start (a0 : Nat) (a1 : Nat → Int) (a2 : Nat → Int) (a3 : Int) (a4 : Int) (a5 : Int) (a6 : Int) (a7 : Int) (a8 : Int) (a9 : Int) (a10 : Int) (a11 : Int) (a12 : Int) (a13 : Int) (a14 : Int) (a15 : Int) (a16 : Int) (a17 : Int) (a18 : Int) (a19 : Int) (a20 : Int) (a21 : Int) (a22 : Int) : AF.edgeOk (wit_A a0 a1 a2 a3 a4 a5 a6 a7 a8 a9 a10 a11 a12 a13 a14 a15 a16 a17 a18 a19 a20 a21 a22) (ctxOf Tryz.prog memo0) (wit_D0 a0 a1 a2 a3 a4 a5 a6 a7 a8 a9 a10 a11 a12 a13 a14 a15 a16 a17 a18 a19 a20 a21 a22) (AF.run0 (wit_A a0 a1 a2 a3 a4 a5 a6 a7 a8 a9 a10 a11 a12 a13 a14 a15 a16 a17 a18 a19 a20 a21 a22) (ctxOf Tryz.prog memo0)) := by unfold AF.edgeOk; kernel_rfl

theorem wit_ok (a0 : Nat) (a1 : Nat → Int) (a2 : Nat → Int) (a3 : Int) (a4 : Int) (a5 : Int) (a6 : Int) (a7 : Int) (a8 : Int) (a9 : Int) (a10 : Int) (a11 : Int) (a12 : Int) (a13 : Int) (a14 : Int) (a15 : Int) (a16 : Int) (a17 : Int) (a18 : Int) (a19 : Int) (a20 : Int) (a21 : Int) (a22 : Int) : (wit_A a0 a1 a2 a3 a4 a5 a6 a7 a8 a9 a10 a11 a12 a13 a14 a15 a16 a17 a18 a19 a20 a21 a22).Ok Tryz.prog (ctxOf Tryz.prog memo0) where
  regs := by kernel_rfl
  h0 := by kernel_rfl
  start := wit_start a0 a1 a2 a3 a4 a5 a6 a7 a8 a9 a10 a11 a12 a13 a14 a15 a16 a17 a18 a19 a20 a21 a22
  node := fun a _ => nomatch a
  pd := fun a => nomatch a
  le := fun a => nomatch a
  rd := fun v => ⟨⟨fa_nil, fa_nil, fa_nil, rfl⟩, rfl⟩
  wb := rfl


theorem wit_hR {ρ : Env} (a0 : Nat) (a1 : Nat → Int) (a2 : Nat → Int) (a3 : Int) (a4 : Int) (a5 : Int) (a6 : Int) (a7 : Int) (a8 : Int) (a9 : Int) (a10 : Int) (a11 : Int) (a12 : Int) (a13 : Int) (a14 : Int) (a15 : Int) (a16 : Int) (a17 : Int) (a18 : Int) (a19 : Int) (a20 : Int) (a21 : Int) (a22 : Int) (hM : MemoOk Tryz.prog (ctxOf Tryz.prog memo0) ρ) : ∀ X a q n D, FxOk ρ X → X.base = (wit_A a0 a1 a2 a3 a4 a5 a6 a7 a8 a9 a10 a11 a12 a13 a14 a15 a16 a17 a18 a19 a20 a21 a22).base → X.nt = (wit_A a0 a1 a2 a3 a4 a5 a6 a7 a8 a9 a10 a11 a12 a13 a14 a15 a16 a17 a18 a19 a20 a21 a22).nt → X.W = (wit_A a0 a1 a2 a3 a4 a5 a6 a7 a8 a9 a10 a11 a12 a13 a14 a15 a16 a17 a18 a19 a20 a21 a22).W → (wit_A a0 a1 a2 a3 a4 a5 a6 a7 a8 a9 a10 a11 a12 a13 a14 a15 a16 a17 a18 a19 a20 a21 a22).rgo a = some q → q n = some D → (wit_A a0 a1 a2 a3 a4 a5 a6 a7 a8 a9 a10 a11 a12 a13 a14 a15 a16 a17 a18 a19 a20 a21 a22).RangeOk Tryz.prog ρ X a D := AF.noRange rfl

theorem wit_ctr {ρ : Env} (a0 : Nat) (a1 : Nat → Int) (a2 : Nat → Int) (a3 : Int) (a4 : Int) (a5 : Int) (a6 : Int) (a7 : Int) (a8 : Int) (a9 : Int) (a10 : Int) (a11 : Int) (a12 : Int) (a13 : Int) (a14 : Int) (a15 : Int) (a16 : Int) (a17 : Int) (a18 : Int) (a19 : Int) (a20 : Int) (a21 : Int) (a22 : Int) {n : Nat} {v : wit_R} (hM : MemoOk Tryz.prog (ctxOf Tryz.prog memo0) ρ) (hv : (wit_A a0 a1 a2 a3 a4 a5 a6 a7 a8 a9 a10 a11 a12 a13 a14 a15 a16 a17 a18 a19 a20 a21 a22).run n = some v) :
    Ctr Tryz.prog ρ 28 (wit_A a0 a1 a2 a3 a4 a5 a6 a7 a8 a9 a10 a11 a12 a13 a14 a15 a16 a17 a18 a19 a20 a21 a22).args (wit_A a0 a1 a2 a3 a4 a5 a6 a7 a8 a9 a10 a11 a12 a13 a14 a15 a16 a17 a18 a19 a20 a21 a22).H0 (wit_A a0 a1 a2 a3 a4 a5 a6 a7 a8 a9 a10 a11 a12 a13 a14 a15 a16 a17 a18 a19 a20 a21 a22).base (wit_A a0 a1 a2 a3 a4 a5 a6 a7 a8 a9 a10 a11 a12 a13 a14 a15 a16 a17 a18 a19 a20 a21 a22).W ((wit_A a0 a1 a2 a3 a4 a5 a6 a7 a8 a9 a10 a11 a12 a13 a14 a15 a16 a17 a18 a19 a20 a21 a22).rc v) (putH (wit_A a0 a1 a2 a3 a4 a5 a6 a7 a8 a9 a10 a11 a12 a13 a14 a15 a16 a17 a18 a19 a20 a21 a22).H0 ((wit_A a0 a1 a2 a3 a4 a5 a6 a7 a8 a9 a10 a11 a12 a13 a14 a15 a16 a17 a18 a19 a20 a21 a22).rh v ++ (wit_A a0 a1 a2 a3 a4 a5 a6 a7 a8 a9 a10 a11 a12 a13 a14 a15 a16 a17 a18 a19 a20 a21 a22).rx v)) ((wit_A a0 a1 a2 a3 a4 a5 a6 a7 a8 a9 a10 a11 a12 a13 a14 a15 a16 a17 a18 a19 a20 a21 a22).rn v) :=
  AF.ctr try_ok hM (wit_ok a0 a1 a2 a3 a4 a5 a6 a7 a8 a9 a10 a11 a12 a13 a14 a15 a16 a17 a18 a19 a20 a21 a22) (fn := Tryz.f28) Tryz.func28 rfl rfl (Nat.le_of_ble_eq_true rfl) rfl (wit_hR a0 a1 a2 a3 a4 a5 a6 a7 a8 a9 a10 a11 a12 a13 a14 a15 a16 a17 a18 a19 a20 a21 a22 hM) hv


theorem wit_mem {ρ : Env} : MemoOk Tryz.prog (ctxOf Tryz.prog memo0) ρ := memo0_ok


abbrev wit_P : List AQ := [.agg [.rows [some .i64, some .i64], .int .i64, .int .i64, .int .i64, .int .i64, .int .i64, .int .i64], .agg [.int .i64, .int .i64, .int .i64, .int .i64, .int .i64, .int .i64], .agg [.int .i64, .int .i64, .int .i64, .int .i64, .int .i64, .int .i64, .int .i64, .int .i64]]

noncomputable def wit_F (v : AW) : AF wit_N wit_R := wit_A (v.t.getD 0 .none).n ((v.t.getD 0 .none).c 0) ((v.t.getD 0 .none).c 1) (v.i.getD 0 0) (v.i.getD 1 0) (v.i.getD 2 0) (v.i.getD 3 0) (v.i.getD 4 0) (v.i.getD 5 0) (v.i.getD 6 0) (v.i.getD 7 0) (v.i.getD 8 0) (v.i.getD 9 0) (v.i.getD 10 0) (v.i.getD 11 0) (v.i.getD 12 0) (v.i.getD 13 0) (v.i.getD 14 0) (v.i.getD 15 0) (v.i.getD 16 0) (v.i.getD 17 0) (v.i.getD 18 0) (v.i.getD 19 0)

noncomputable def wit_W : wit_R → CV := fun v => .bool (.x v)
noncomputable def wit_H : wit_R → List (Nat × Blk) := fun v => []



instance : Inhabited wit_R := ⟨false⟩
theorem wit_known {ρ : Env} (hM : MemoOk Tryz.prog (ctxOf Tryz.prog memo0) ρ) : KnownS Tryz.prog ρ 28 wit_P wit_F wit_W wit_H 1 where
  fn := ⟨Tryz.f28, Tryz.func28, rfl⟩
  le := Nat.le_of_ble_eq_true rfl
  full := fun r => rfl
  rg := fun r => rfl
  hg := fun r => fa_nil
  ctr := fun v n r h => wit_ctr (v.t.getD 0 .none).n ((v.t.getD 0 .none).c 0) ((v.t.getD 0 .none).c 1) (v.i.getD 0 0) (v.i.getD 1 0) (v.i.getD 2 0) (v.i.getD 3 0) (v.i.getD 4 0) (v.i.getD 5 0) (v.i.getD 6 0) (v.i.getD 7 0) (v.i.getD 8 0) (v.i.getD 9 0) (v.i.getD 10 0) (v.i.getD 11 0) (v.i.getD 12 0) (v.i.getD 13 0) (v.i.getD 14 0) (v.i.getD 15 0) (v.i.getD 16 0) (v.i.getD 17 0) (v.i.getD 18 0) (v.i.getD 19 0) hM h

end Go.Proofs.YthhceoendicboaaGreat.Cx
