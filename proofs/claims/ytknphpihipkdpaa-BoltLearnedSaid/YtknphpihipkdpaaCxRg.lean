/- RANGES OVER FUNCTIONS in the logic of points: what the iterator's contract says of its call is what the range does. -/
import Derived.Test.YtknphpihipkdpaaCxZS
set_option linter.unusedSimpArgs false
set_option linter.unusedVariables false
namespace Go.Proofs.Ytknphpihipkdpaa.Cx
open Go Go.RowKit

section
variable {P : Program} {ρ : Env} {X : Fx} {p : Pt} {Φ : Ex → Pt → Prop} {base : Nat}

theorem HR.congr {σ : Mp} {cur cur' : Cur} {w : World} (h : ∀ b l, σ b = some l → cur' b = cur b) (H : HR ρ σ cur w) : HR ρ σ cur' w :=
  ⟨fun b k l a1 a2 a3 => H.cell b k l ((h b l a3).symm.trans a1) a2 a3, fun b b' k k' l l' a1 a2 a3 a4 a5 a6 => H.inj b b' k k' l l' ((h b l a3).symm.trans a1) a2 a3 ((h b' l' a6).symm.trans a4) a5 a6,
    fun b k x l a1 a2 a3 => H.spec b k x l ((h b l a3).symm.trans a1) a2 a3, fun b b' k k' x x' l l' a1 a2 a3 a4 a5 a6 => H.injX b b' k k' x x' l l' ((h b l a3).symm.trans a1) a2 a3 ((h b' l' a6).symm.trans a4) a5 a6⟩

/-- The record that a range lays. -/
noncomputable def recB (T : Tr CV) (nt : Nat) (ps : Array Tmp) (assign body : Code) : Blk := ⟨.lit [], 0, false, some (.loop ⟨T, nt, ps, assign, body, .ready, none⟩)⟩

/-- A record at any time. -/
noncomputable def recS (T : Tr CV) (nt : Nat) (ps : Array Tmp) (assign body : Code) (st : LoopState) (pd : Option Code) : Blk := ⟨.lit [], 0, false, some (.loop ⟨T, nt, ps, assign, body, st, pd⟩)⟩

def rgF : Code → Operand
  | .rangeFunc f _ _ _ => f
  | _ => .tmp 0
def rgP : Code → Array Tmp
  | .rangeFunc _ p _ _ => p
  | _ => #[]
def rgA : Code → Code
  | .rangeFunc _ _ a _ => a
  | _ => .skip
def rgB : Code → Code
  | .rangeFunc _ _ _ b => b
  | _ => .skip

theorem rd_lts {l : List (Nat × CV)} (h : l.all (fun x => x.2.lts base) = true) (t : Nat) : (rd (mkT l) t).lts base = true := by
  rw [rd_mkT]
  split
  · rename_i x hx
    exact List.all_eq_true.1 h x (List.mem_of_find?_eq_some hx)
  · rfl

theorem RecOk.of {l : List (Nat × CV)} {base nt : Nat} {ps : Array Tmp} {as' bd : Code} {st : LoopState} {pd : Option Code} (h : l.all (fun x => x.2.lts base) = true) : RecOk base (recS (mkT l) nt ps as' bd st pd) :=
  ⟨rfl, _, rfl, rd_lts h⟩

theorem memW {b : Nat} {l : List Nat} (h : l.any (Nat.beq b) = true) : b ∈ l := by
  obtain ⟨x, h1, h2⟩ := List.any_eq_true.1 h
  rw [Nat.eq_of_beq_eq_true h2]; exact h1

theorem someNe {α : Type} {β : Prop} {x : α} (h : (some x : Option α) = none) : β := by cases h

set_option maxHeartbeats 1000000 in
theorem Sem.range {f : Operand} {ps : Array Tmp} {assign body : Code} {g : Nat} {first captured : List CV} {c : CV} {h2 : Tr Blk} {n2 : Nat} {Wg : List Nat} {r5 : LR} {e : Ex} (hP : progOk P = true) (hX : FxOk ρ X) (hra : regsOk assign = true) (hrb : regsOk body = true)
    (hf : ev p.T f = some (.fn (.func g) first captured)) (K : Ctr P ρ g (first ++ [.yld p.n] ++ captured) (p.h.set p.n (recB p.T X.nt ps assign body)) (p.n + 1) Wg c h2 n2)
    (hn : p.n + 1 ≤ n2) (hWg : ∀ b ∈ Wg, (b ∈ X.W ∨ X.base ≤ b) ∧ b < p.n + 1) (hrec : (⟨h2, n2, [], []⟩ : St).getX p.n = some (.loop r5)) (hfrm : ∀ b, b ∉ Wg → ¬ (p.n + 1 ≤ b ∧ b < n2) → h2.get b = (p.h.set p.n (recB p.T X.nt ps assign body)).get b)
    (hst : r5.st ≠ .busy) (hex : Ex.of r5.pend = some e) (hΦ : Φ e ⟨p.T, ((⟨h2, n2, [], []⟩ : St).setX p.n (.loop { r5 with st := .exhausted })).heap, n2⟩) : Sem P ρ X (.rangeFunc f ps assign body) p Φ := by
  have hC : CtxOk2 P (ctxOf P memo0) := (ctxOf_ok hP memo0).toCtxOk2
  intro Q a w hS hQ
  obtain ⟨σ, hI, hF⟩ := hS.rel
  have hb : X.base ≤ p.n := hS.le
  show (Code.rangeFunc f ps assign body).wpIn (fc X.ro) X.n P Q a w
  refine wpIn_rangeFunc (fun fn _ => ?_)
  have hσN : ∀ b, p.n ≤ b → σ b = none := fun b hb' => by
    rw [hI.ext b (.inr hb')]; exact hX.N b (Nat.le_trans hb hb')
  -- the record is laid
  obtain ⟨wa, D, mark, hent, hIa, hmark⟩ : ∃ (wa : World) (D : Nat) (mark : List Deferred),
      (Instr.enterLoop fn a.tmps ps assign body X.ro).run P w = .ok (wa.heap.size, mark) (wa.alloc (.loop { state := .ready, pending := none, fn, tmps := a.tmps, params := ps, assign, body, defers := D })) ∧
      Inv ρ X.σ X.cur X.base X.W X.base X.w (p.st []) σ wa ∧ Marks X.a.defers X.w (mark ++ a.defers) wa := by
    cases hro : X.ro with
    | none =>
      have hIa : Inv ρ X.σ X.cur X.base X.W X.base X.w (p.st []) σ (w.alloc (.deferred (some []))) := hI.step (s2 := p.st []) (base2 := p.n) (W2 := []) hb hb (Nat.le_refl _) (fun b hb' => by cases hb') ⟨Nat.le_refl _, fun _ _ _ => rfl, [], rfl⟩ (Ext.refl _ _ _) (by rw [show upd (upd X.cur X.base (p.st []).next (p.st []).heap X.W) p.n (p.st []).next (p.st []).heap [] = upd X.cur X.base (p.st []).next (p.st []).heap X.W from upd_none _ _ _]; exact hI.H.alloc _) (.of_same rfl rfl rfl (by simp) fun k hk => alloc_get hk) (Fresh.none _ _ _ _ _ _)
      refine ⟨w.alloc (.deferred (some [])), w.heap.size, [{ target := .collected w.heap.size, args := #[] }], ?_, hIa, ?_⟩
      · rw [run_enterLoop_outer, World.size_alloc]
      · refine hF.2.2.trans hI.K.size (fun k hk => ?_) ⟨[w.heap.size], rfl, by simp, fun D hD => by obtain rfl := List.mem_singleton.1 hD; exact ⟨Nat.le_refl _, alloc_new _ _⟩⟩
        rw [alloc_get (Array.getElem?_eq_some_iff.1 hk).1]; exact hk
    | some l0 =>
      obtain ⟨r0, hr0⟩ := hX.ro l0 hro
      obtain ⟨q0, hq0⟩ := hI.K.loops l0 r0 hr0
      exact ⟨w, q0.defers, [], enter_inner hq0 _ _ _ _ _, hI, hF.2.2⟩
  have hσ : σ p.n = none := hσN _ (Nat.le_refl _)
  obtain ⟨x1, x2, x3, x4⟩ := newX_run (s := p.st []) (x := .loop ⟨p.T, X.nt, ps, assign, body, .ready, none⟩) (o := .loop { state := .ready, pending := none, fn, tmps := a.tmps, params := ps, assign, body, defers := D }) hIa.H hσ
    (.loop _ (alloc_new _ _) rfl rfl rfl rfl rfl hF.1 (fun t => (hF.2.1 t).mono (fun b l' hb' => by
      show (if b = p.n then _ else σ b) = _
      rw [if_neg (fun h => by rw [h, hσ] at hb'; cases hb')]; exact hb')) hra hrb)
  have f01 : Frm (p.st []) ((p.st []).newX (.loop ⟨p.T, X.nt, ps, assign, body, .ready, none⟩)) [] := .newX _ _ _
  generalize hs1 : (p.st []).newX (.loop ⟨p.T, X.nt, ps, assign, body, .ready, none⟩) = s1 at *
  have n1 : s1.next = p.n + 1 := by rw [← hs1]; rfl
  have hh1 : s1.heap = p.h.set p.n (recB p.T X.nt ps assign body) := by rw [← hs1]; rfl
  generalize hσ1 : (fun b => if b = (p.st []).next then some (⟨wa.heap.size, 0, 0, 0⟩ : Loc) else σ b) = σ1 at x1 x2 x3 x4
  have hσ1n : σ1 p.n = some ⟨wa.heap.size, 0, 0, 0⟩ := by rw [← hσ1]; exact if_pos rfl
  have x1 : HR ρ σ1 (upd (upd X.cur X.base p.n p.h X.W) p.n (p.n + 1) s1.heap []) (wa.alloc (.loop { state := .ready, pending := none, fn, tmps := a.tmps, params := ps, assign, body, defers := D })) := x1
  have x2 : Ext σ σ1 p.n (p.n + 1) := x2
  have x4 : Fresh σ σ1 p.n (p.n + 1) p.n [] wa := x4
  have x3 : Keeps σ p.n [] wa (wa.alloc (.loop { state := .ready, pending := none, fn, tmps := a.tmps, params := ps, assign, body, defers := D })) := x3
  rw [← n1] at x1 x2 x4
  generalize hw1 : wa.alloc (.loop { state := .ready, pending := none, fn, tmps := a.tmps, params := ps, assign, body, defers := D }) = w1 at hent x1 x3
  have hI1 : Inv ρ X.σ X.cur X.base X.W X.base X.w s1 σ1 w1 := hIa.step (base2 := p.n) hb hb (Nat.le_refl _) (fun b hb' => by cases hb') f01.toB x2 x1 x3 x4
  have hσ1N : ∀ b, s1.next ≤ b → σ1 b = none := fun b hb' => by
    rw [x2 b (.inr hb')]; exact hσN b (by omega)
  have hold1 : ∀ b, b < s1.next → upd X.cur X.base s1.next s1.heap X.W b = s1.heap.get b := fun b hb' => by
    show (if b ∈ X.W ∨ (X.base ≤ b ∧ b < s1.next) then _ else X.cur b) = _
    by_cases hc : b ∈ X.W ∨ (X.base ≤ b ∧ b < s1.next)
    · rw [if_pos hc]
    · rw [if_neg hc]
      have h1 : b < X.base := by
        by_cases h : b < X.base
        · exact h
        · exact absurd (.inr ⟨by omega, hb'⟩) hc
      rw [hS.old b h1 (fun h => hc (.inl h)), hh1, Tr.get_set, if_neg (by omega)]
  -- the call
  obtain ⟨x', y', hfv, hx, hy⟩ := (ev_run (σ := σ) (ρ := ρ) (a := a) (fun t _ => hF.2.1 t) hf).fn_inv
  obtain ⟨gfn, hgfn, hbody⟩ := K.fn
  have hle1 : σ.le σ1 := fun b l hl => by
    rw [x2 b (.inl (by
      by_cases h : b < p.n
      · exact h
      · rw [hσN b (by omega)] at hl; cases hl))]; exact hl
  have hargs : VRl ρ σ1 (first ++ [.yld p.n] ++ captured) ((x' ++ #[Value.func (.yield wa.heap.size) #[] #[]]) ++ y').toList := by
    simp only [Array.toList_append]
    exact ((hx.mono hle1).append (.cons (.yld hσ1n) .nil)).append (hy.mono hle1)
  have hHc : HR ρ σ1 (curOf (p.h.set p.n (recB p.T X.nt ps assign body)) (p.n + 1)) w1 := by
    refine HR.congr (fun b l hl => ?_) hI1.H
    have hlt : b < s1.next := by
      by_cases h : b < s1.next
      · exact h
      · rw [hσ1N b (by omega)] at hl; cases hl
    rw [hold1 b hlt, ← hh1]
    exact if_pos (by omega)
  refine ⟨wa.heap.size, mark, w1, { target := .fn (.func g) y', args := x' ++ #[Value.func (.yield wa.heap.size) #[] #[]] }, w1, g, (x' ++ #[Value.func (.yield wa.heap.size) #[] #[]]) ++ y', w1, hent, ?_, (fun _ _ => trivial), ?_, (fun h => by cases h), callsIn_fc ((K.run (X.n - 1) σ1 w1 _ hargs hHc (fun b hb' => hσ1N b (by omega))).mono ?_)⟩
  · simp only [resolve, Deferred.ofValue, hfv, pure_bind, Sem.run_pure]
    simp [Act.eval]
  · simp only [invoke, callFunc_run hC (show (ctxOf P memo0).fn g = some gfn from hgfn) hbody]
  · rintro e' w3 ⟨v, rfl, σ2, y1, y2, y3, y4, y5⟩
    have y1 : Ext σ1 σ2 s1.next n2 := by rw [n1]; exact y1
    have y3 : HR ρ σ2 (upd (curOf (p.h.set p.n (recB p.T X.nt ps assign body)) (p.n + 1)) (p.n + 1) n2 h2 Wg) w3 := y3
    have y4 : Keeps σ1 s1.next Wg w1 w3 := by rw [n1]; exact y4
    have y5 : Fresh σ1 σ2 s1.next n2 s1.next Wg w1 := by rw [n1]; exact y5
    have hI2 : Inv ρ X.σ X.cur X.base X.W X.base X.w ⟨h2, n2, [], []⟩ σ2 w3 := by
      refine hI1.step (s2 := ⟨h2, n2, [], []⟩) (base2 := s1.next) (W2 := Wg) (by omega) (by omega) (Nat.le_refl _) (fun b hb' => ?_) ⟨by show s1.next ≤ n2; omega, fun b hbW hbn => ?_, ?_⟩ y1 ?_ y4 y5
      · rcases (hWg b hb').1 with h | h
        · exact .inl h
        · exact .inr ⟨h, by have := (hWg b hb').2; omega⟩
      · show h2.get b = s1.heap.get b
        rw [hh1]
        exact hfrm b hbW (fun h => hbn ⟨by omega, h.2⟩)
      · rw [← hs1]; exact ⟨[], rfl⟩
      · refine HR.congr (fun b l hl => ?_) y3
        have hlt : b < n2 := by
          by_cases h : b < n2
          · exact h
          · rw [y1 b (.inr (by omega)), hσ1N b (by omega)] at hl; cases hl
        show (if b ∈ Wg ∨ (s1.next ≤ b ∧ b < n2) then h2.get b else _) = (if b ∈ Wg ∨ (p.n + 1 ≤ b ∧ b < n2) then h2.get b else _)
        by_cases hc : b ∈ Wg ∨ (s1.next ≤ b ∧ b < n2)
        · rw [if_pos hc, if_pos (by rw [← n1]; exact hc)]
        · rw [if_neg hc, if_neg (by rw [← n1]; exact hc)]
          have hlt1 : b < s1.next := by
            by_cases h : b < s1.next
            · exact h
            · exact absurd (.inr ⟨by omega, hlt⟩) hc
          rw [hold1 b hlt1, hh1]
          exact (if_pos (by omega)).symm
    have hl2 : σ2 p.n = some ⟨wa.heap.size, 0, 0, 0⟩ := by rw [y1 _ (.inl (by omega))]; exact hσ1n
    obtain ⟨q, hq, hqs, hqp, hI5, hK5⟩ := loop_set (r1 := { r5 with st := .exhausted }) (f := fun q => { q with state := .exhausted }) hI2 (by show X.base ≤ n2; omega) (by show X.base ≤ n2; omega) hrec (.inr ⟨hb, by show p.n < n2; omega⟩) hl2 (fun q h1' h2' h3' => by
      have hpd : q.pending = r5.pend := by
        cases h1' with
        | loop q' hq' _ hp' => rw [h2'] at hq'; cases hq'; exact hp'
      have := h1'.loop_state (st := .exhausted) (pd := r5.pend) h2'
      rw [← hpd] at this
      rw [← hpd]
      exact this)
    refine ⟨q.pending, _, run_endLoop hq (by rw [hqs]; exact hst), ?_⟩
    have hSR : SR ρ X ⟨p.T, ((⟨h2, n2, [], []⟩ : St).setX p.n (.loop { r5 with st := .exhausted })).heap, n2⟩ { a with defers := mark ++ a.defers } (w3.putObj wa.heap.size (.loop { q with state := .exhausted })) := by
      refine ⟨by show X.base ≤ n2; omega, fun b hb1 hb2 => ?_, σ2, hI5, hF.1, fun t => (hF.2.1 t).mono (fun b l hl => ?_), ?_⟩
      · show X.cur b = ((⟨h2, n2, [], []⟩ : St).setX p.n (.loop { r5 with st := .exhausted })).heap.get b
        rw [setX_get, if_neg (by omega)]
        show X.cur b = h2.get b
        rw [hfrm b (fun h => by
          rcases (hWg b h).1 with h | h
          · exact hb2 h
          · omega) (fun h => by omega), Tr.get_set, if_neg (by omega)]
        exact hS.old b hb1 hb2
      · have h1 := hle1 b l hl
        rw [y1 b (.inl (by
          by_cases h : b < s1.next
          · exact h
          · rw [hσ1N b (by omega)] at h1; cases h1))]
        exact h1
      · have hsz : X.w.heap.size ≤ wa.heap.size := hIa.K.size
        exact hmark.trans hsz (fun k hk => hK5.defd k (y4.defd k (x3.defd k hk))) (.refl _ _ _)
    have := hQ e _ _ _ hΦ hSR
    rw [← hqp] at hex
    revert hex this
    generalize w3.putObj wa.heap.size (.loop { q with state := .exhausted }) = w4
    intro hex this
    revert hex
    cases hpd : q.pending with
    | none => intro hex; cases hex; exact this
    | some cd =>
      intro hex
      cases cd <;> simp only [Ex.of] at hex <;> cases hex
      · exact wpIn_exit this
      · exact wpIn_ret this

/-! ## Heads of automata that are ranges -/

/-- The state behind a range, whose iterator left this memory. -/
noncomputable def rgSt (n0 : Nat) (h2 : Tr Blk) (n2 : Nat) (r5 : LR) (o : List Nat) : St := ⟨((⟨h2, n2, [], []⟩ : St).setX n0 (.loop { r5 with st := .exhausted })).heap, n2, o, []⟩

/-- What follows a range. -/
noncomputable def AF.runR {N R : Type} (A : AF N R) (C : Ctx) (a : N) (h2 : Tr Blk) (n2 : Nat) (r5 : LR) (e : Ex) (o : List Nat) : Option KO :=
  resumeK C A.m A.base A.nt A.un A.code (A.path a) e ((A.pd a).pt A.H0).T (rgSt (A.pd a).n h2 n2 r5 o)

theorem AF.old {N R : Type} {A : AF N R} {C : Ctx} (hA : A.Ok P C) (a : N) {b : Nat} (hb : b < A.base) (hbW : b ∉ A.W) : ((A.pd a).pt A.H0).h.get b = A.H0.get b := by
  show (putH A.H0 ((A.pd a).h ++ (A.pd a).x)).get b = _
  rw [get_putH]
  split
  · rename_i x hx
    have h1 := List.find?_some hx
    have h2 := List.mem_of_find?_eq_some hx
    simp only [beq_iff_eq] at h1
    subst h1
    rcases List.mem_append.1 h2 with h2 | h2
    · rcases ((hA.pd a).h x h2).1 with h3 | h3
      · omega
      · exact absurd h3 hbW
    · exact absurd ((hA.pd a).x x h2).1 hbW
  · rfl

theorem AF.frm {N R : Type} {A : AF N R} {C : Ctx} (hA : A.Ok P C) (v : R) (hlt : (A.rh v).all (fun x => Nat.blt x.1 (A.rn v)) = true) {b : Nat} (hbW : b ∉ A.W) (hb : ¬ (A.base ≤ b ∧ b < A.rn v)) : (putH A.H0 (A.rh v ++ A.rx v)).get b = A.H0.get b := by
  rw [get_putH]
  split
  · rename_i x hx
    have h1 := List.find?_some hx
    have h2 := List.mem_of_find?_eq_some hx
    simp only [beq_iff_eq] at h1
    subst h1
    rcases List.mem_append.1 h2 with h2 | h2
    · rcases ((hA.rd v).1.h x h2).1 with h3 | h3
      · exact absurd ⟨h3, blt_lt (List.all_eq_true.1 hlt x h2)⟩ hb
      · exact absurd h3 hbW
    · exact absurd ((hA.rd v).1.x x h2).1 hbW
  · rfl

theorem Ctr.congr {f : Nat} {args : List CV} {h0 h0' h1 : Tr Blk} {base n1 : Nat} {W : List Nat} {c : CV} (h : ∀ b, b < base → h0.get b = h0'.get b) (K : Ctr P ρ f args h0 base W c h1 n1) : Ctr P ρ f args h0' base W c h1 n1 := by
  have e : curOf h0 base = curOf h0' base := by
    funext b
    unfold curOf
    split
    · exact h b ‹_›
    · rfl
  exact ⟨K.fn, fun n σ w args' a1 a2 a3 => by rw [← e]; exact K.run n σ w args' a1 (by rw [e]; exact a2) a3⟩

/-- A head that is a range over a function, from the iterator's automaton over the head's memory. -/
structure AF.Rg {N R N' R' : Type} (A : AF N R) (B : AF N' R') (P : Program) (C C' : Ctx) (a : N) (f : Operand) (ps : Array Tmp) (as' bd : Code) (g : Nat) (gn : Func) (first captured : List CV) (rec : R' → LR) (ex : R' → Ex) (Dr : R' → DD (Lf N R)) : Prop where
  code : codeAt A.code (A.path a) = .rangeFunc f ps as' bd
  fn : ev ((A.pd a).pt A.H0).T f = some (.fn (.func g) first captured)
  args : B.args = first ++ [.yld (A.pd a).n] ++ captured
  base : B.base = (A.pd a).n + 1
  h0 : B.h0 = ((A.pd a).n, recB (mkT (A.pd a).T) A.nt ps as' bd) :: (((A.pd a).h ++ (A.pd a).x) ++ A.h0)
  W : B.W.all (fun b => A.W.any (Nat.beq b) || Nat.ble A.base b) = true
  gfn : P.funcs[g]? = some gn
  body : gn.body = some B.code
  nt : gn.ntmps = B.nt
  len : B.args.length ≤ B.nt
  res : gn.results.toList = B.res
  ok : B.Ok P C'
  le : ∀ v, B.base ≤ B.rn v
  lt : ∀ v, (B.rh v).all (fun x => Nat.blt x.1 (B.rn v)) = true
  rcd : ∀ v, (⟨putH B.H0 (B.rh v ++ B.rx v), B.rn v, [], []⟩ : St).getX (A.pd a).n = some (.loop (rec v))
  st : ∀ v, (rec v).st ≠ .busy
  exd : ∀ v, Ex.of (rec v).pend = some (ex v)
  D : ∀ v, A.edgeOk (ctxOf P memo0) (Dr v) (A.runR C a (putH B.H0 (B.rh v ++ B.rx v)) (B.rn v) (rec v) (ex v))

theorem mkH_append (l m : List (Nat × Blk)) : mkH (l ++ m) = putH (mkH m) l := by
  induction l with
  | nil => rfl
  | cons x l ih => obtain ⟨t, c⟩ := x; simp only [List.cons_append, mkH, putH, ih]

theorem AF.range_ok {N R N' R' : Type} {A : AF N R} {B : AF N' R'} {memo memo' : Memo} {a : N} {f : Operand} {ps : Array Tmp} {as' bd : Code} {g : Nat} {gn : Func} {first captured : List CV} {rec : R' → LR} {ex : R' → Ex} {Dr : R' → DD (Lf N R)}
    (hP : progOk P = true) (hM : MemoOk P (ctxOf P memo) ρ) (hM' : MemoOk P (ctxOf P memo') ρ) (hA : A.Ok P (ctxOf P memo)) (H : A.Rg B P (ctxOf P memo) (ctxOf P memo') a f ps as' bd g gn first captured rec ex Dr)
    (hRB : ∀ X a q n D, FxOk ρ X → X.base = B.base → X.nt = B.nt → X.W = B.W → B.rgo a = some q → q n = some D → B.RangeOk P ρ X a D)
    {X : Fx} (hX : FxOk ρ X) (hb : X.base = A.base) (hnt : X.nt = A.nt) (hW : X.W = A.W) {n : Nat} {D : DD (Lf N R)} (h : (B.run n).map Dr = some D) : A.RangeOk P ρ X a D := by
  cases hv : B.run n with
  | none => rw [hv] at h; cases h
  | some v =>
    rw [hv] at h
    cases h
    have hC := ctxOf_ok hP memo
    have hle : A.base ≤ (A.pd a).n := hA.le a
    have hregs : regsOk (.rangeFunc f ps as' bd) = true := by rw [← H.code]; exact regs_at (A.path a) hA.regs
    have hregs : regsOk as' = true ∧ regsOk bd = true := by simpa [regsOk] using hregs
    have K := AF.ctr hP hM' H.ok H.gfn H.body H.nt H.len H.res hRB hv
    have hH0 : B.H0 = ((A.pd a).pt A.H0).h.set (A.pd a).n (recB (mkT (A.pd a).T) A.nt ps as' bd) := by
      show mkH B.h0 = _
      rw [H.h0, mkH, mkH_append]
      rfl
    have hWB : ∀ b ∈ B.W, (b ∈ A.W ∨ A.base ≤ b) ∧ b < (A.pd a).n + 1 := fun b hbB => by
      refine ⟨?_, by rw [← H.base]; exact H.ok.wlt b hbB⟩
      have := List.all_eq_true.1 H.W b hbB
      rw [Bool.or_eq_true] at this
      rcases this with h | h
      · obtain ⟨x, h1, h2⟩ := List.any_eq_true.1 h
        rw [Nat.eq_of_beq_eq_true h2]; exact .inl h1
      · exact .inr (Nat.le_of_ble_eq_true h)
    have hfr : ∀ b, b ∉ B.W → ¬ ((A.pd a).n + 1 ≤ b ∧ b < B.rn v) → (putH B.H0 (B.rh v ++ B.rx v)).get b = (((A.pd a).pt A.H0).h.set (A.pd a).n (recB (mkT (A.pd a).T) A.nt ps as' bd)).get b := fun b h1 h2 => by
      rw [AF.frm H.ok v (H.lt v) h1 (by rw [H.base]; exact h2), hH0]
    refine ⟨A.runR (ctxOf P memo) a (putH B.H0 (B.rh v ++ B.rx v)) (B.rn v) (rec v) (ex v), rgSt (A.pd a).n (putH B.H0 (B.rh v ++ B.rx v)) (B.rn v) (rec v) [], H.D v, rfl, fun b hb1 hb2 => ?_, fun o k hk => ?_⟩
    · show (((⟨putH B.H0 (B.rh v ++ B.rx v), B.rn v, [], []⟩ : St).setX (A.pd a).n (.loop { rec v with st := .exhausted })).heap).get b = _
      rw [setX_get, if_neg (by omega)]
      show (putH B.H0 (B.rh v ++ B.rx v)).get b = _
      rw [hfr b (fun h => by
        rcases (hWB b h).1 with h | h
        · exact hb2 h
        · omega) (fun h => by omega), Tr.get_set, if_neg (by omega)]
      exact AF.old hA a hb1 hb2
    · have kk := resumeK_ok (base := A.base) hC hM (A.path a) A.code (ex v) _ _ _ hA.regs (by show A.base ≤ B.rn v; have := H.le v; rw [H.base] at this; omega) hk
      refine ⟨kk.next, kk.pc, kk.old, fun X' Φ h1 h2 h3 h4 h5 h6 hx => ?_⟩
      subst hx
      have hob := kk.run X' Φ h1 h2 h3 h4 h5 h6
      show LoopAt P ρ X' (codeAt A.code (A.path a)) (AftL P ρ X' A.code (A.path a) Φ) _
      rw [H.code]
      show Sem P ρ X' (.rangeFunc f ps as' bd) ((A.pd a).pt A.H0) _
      refine Sem.range (c := B.rc v) (h2 := putH B.H0 (B.rh v ++ B.rx v)) (n2 := B.rn v) (Wg := B.W) (r5 := rec v) (e := ex v) hP h1 hregs.1 hregs.2 H.fn ?_ ?_ ?_ (H.rcd v) ?_ (H.st v) (H.exd v) hob
      · have := K
        rw [H.args, H.base, hH0] at this
        rw [hH0, h3]
        exact this
      · have := H.le v; rw [H.base] at this; exact this
      · intro b hbB
        rw [hW, hb]
        exact hWB b hbB
      · intro b q1 q2
        rw [h3]
        exact hfr b q1 q2

end
end Go.Proofs.Ytknphpihipkdpaa.Cx
