/- RANGES OVER FUNCTIONS in the logic of points: what the iterator's contract says of its call is what the range does. -/
import Derived.Test.YtpojncoplaopcaaDoorProg
import Derived.WalkKit
import Derived.WalkSpells
import Derived.WalkLawsBesides
import Derived.RegionTactic
import Derived.ChangeAlike
import Derived.Deep.QuietTactic
import Derived.BigQuiet
import Derived.Lib.Hide
import Derived.Handy
import Derived.Test.YtpojncoplaopcaaDoorPkLRisks4

namespace Go.Proofs.YtpojncoplaopcaaDoor.Cx
set_option linter.unusedSimpArgs false
set_option linter.unusedVariables false
open Go Go.RowKit

section
variable {P : Program} {ρ : Env} {X : Fx} {p : Pt} {Φ : Ex → Pt → Prop} {base : Nat}

theorem HR.congr {σ : Mp} {cur cur' : Cur} {w : World} (h : ∀ b l, σ b = some l → cur' b = cur b) (H : HR ρ σ cur w) : HR ρ σ cur' w :=
  ⟨fun b k l a1 a2 a3 => H.cell b k l ((h b l a3).symm.trans a1) a2 a3, fun b b' k k' l l' a1 a2 a3 a4 a5 a6 => H.inj b b' k k' l l' ((h b l a3).symm.trans a1) a2 a3 ((h b' l' a6).symm.trans a4) a5 a6,
    fun b k x l a1 a2 a3 => H.spec b k x l ((h b l a3).symm.trans a1) a2 a3, fun b b' k k' x x' l l' a1 a2 a3 a4 a5 a6 => H.injX b b' k k' x x' l l' ((h b l a3).symm.trans a1) a2 a3 ((h b' l' a6).symm.trans a4) a5 a6, fun y hy => ⟨(H.glob y hy).1, fun b k l a1 a2 ar a3 => (H.glob y hy).2 b k l ((h b l a3).symm.trans a1) a2 ar a3⟩⟩

/-- The record that a range lays. -/
noncomputable def recB (T : Tr CV) (nt : Nat) (ps : Array Tmp) (assign body : Code) : Blk := ⟨.lit [], 0, false, some (.loop ⟨T, nt, ps, assign, body, .ready, none⟩)⟩

/-- A record at any time. -/
noncomputable def recS (T : Tr CV) (nt : Nat) (ps : Array Tmp) (assign body : Code) (st : LoopState) (pd : Option Code) : Blk := ⟨.lit [], 0, false, some (.loop ⟨T, nt, ps, assign, body, st, pd⟩)⟩

def rgF : Code → Operand
  | .rangeFunc f _ _ _ => f
  | _ => .tmp 0
def rgP : Code → Array Tmp
  | .rangeFunc _ p _ _ => p
  | _ => #[]
def rgA : Code → Code
  | .rangeFunc _ _ a _ => a
  | _ => .skip
def rgB : Code → Code
  | .rangeFunc _ _ _ b => b
  | _ => .skip

theorem rd_lts {l : List (Nat × CV)} (h : l.all (fun x => x.2.lts base) = true) (t : Nat) : (rd (mkT l) t).lts base = true := by
  rw [rd_mkT]
  split
  · rename_i x hx
    exact List.all_eq_true.1 h x (List.mem_of_find?_eq_some hx)
  · rfl

theorem RecOk.of {l : List (Nat × CV)} {base nt : Nat} {ps : Array Tmp} {as' bd : Code} {st : LoopState} {pd : Option Code} (h : l.all (fun x => x.2.lts base) = true) : RecOk base (recS (mkT l) nt ps as' bd st pd) :=
  ⟨rfl, _, rfl, rd_lts h⟩

theorem memW {b : Nat} {l : List Nat} (h : l.any (Nat.beq b) = true) : b ∈ l := by
  obtain ⟨x, h1, h2⟩ := List.any_eq_true.1 h
  rw [Nat.eq_of_beq_eq_true h2]; exact h1

theorem someNe {α : Type} {β : Prop} {x : α} (h : (some x : Option α) = none) : β := by cases h

set_option maxHeartbeats 1000000 in
theorem Sem.range {f : Operand} {ps : Array Tmp} {assign body : Code} {g : Nat} {first captured : List CV} {c : CV} {h2 : Tr Blk} {n2 : Nat} {Wg : List Nat} {r5 : LR} {e : Ex} (hP : progOk P = true) (hX : FxOk ρ X) (hra : regsOk assign = true) (hrb : regsOk body = true)
    (hf : ev p.T f = some (.fn (.func g) first captured)) (K : Ctr P ρ g (first ++ [.yld p.n] ++ captured) (p.h.set p.n (recB p.T X.nt ps assign body)) (p.n + 1) Wg c h2 n2)
    (hn : p.n + 1 ≤ n2) (hWg : ∀ b ∈ Wg, (b ∈ X.W ∨ X.base ≤ b) ∧ b < p.n + 1) (hrec : (⟨h2, n2, [], []⟩ : St).getX p.n = some (.loop r5)) (hfrm : ∀ b, b ∉ Wg → ¬ (p.n + 1 ≤ b ∧ b < n2) → h2.get b = (p.h.set p.n (recB p.T X.nt ps assign body)).get b)
    (hst : r5.st ≠ .busy) (hex : Ex.of r5.pend = some e) (hΦ : Φ e ⟨p.T, ((⟨h2, n2, [], []⟩ : St).setX p.n (.loop { r5 with st := .exhausted })).heap, n2⟩) : Sem P ρ X (.rangeFunc f ps assign body) p Φ := by
  have hC : CtxOk2 P (ctxOf P memo0) := (ctxOf_ok hP memo0).toCtxOk2
  intro Q a w hS hQ
  obtain ⟨σ, hI, hF⟩ := hS.rel
  have hb : X.base ≤ p.n := hS.le
  show (Code.rangeFunc f ps assign body).wpIn (fc X.ro) X.n P Q a w
  refine wpIn_rangeFunc (fun fn _ => ?_)
  have hσN : ∀ b, p.n ≤ b → σ b = none := fun b hb' => by
    rw [hI.ext b (.inr hb')]; exact hX.N b (Nat.le_trans hb hb')
  -- the record is laid
  obtain ⟨wa, D, mark, hent, hIa, hmark⟩ : ∃ (wa : World) (D : Nat) (mark : List Deferred),
      (Instr.enterLoop fn a.tmps ps assign body X.ro).run P w = .ok (wa.heap.size, mark) (wa.alloc (.loop { state := .ready, pending := none, fn, tmps := a.tmps, params := ps, assign, body, defers := D })) ∧
      Inv ρ X.σ X.cur X.base X.W X.base X.w (p.st []) σ wa ∧ Marks X.a.defers X.w (mark ++ a.defers) wa := by
    cases hro : X.ro with
    | none =>
      have hIa : Inv ρ X.σ X.cur X.base X.W X.base X.w (p.st []) σ (w.alloc (.deferred (some []))) := hI.step (s2 := p.st []) (base2 := p.n) (W2 := []) hb hb (Nat.le_refl _) (fun b hb' => by cases hb') ⟨Nat.le_refl _, fun _ _ _ => rfl, [], rfl⟩ (Ext.refl _ _ _) (by rw [show upd (upd X.cur X.base (p.st []).next (p.st []).heap X.W) p.n (p.st []).next (p.st []).heap [] = upd X.cur X.base (p.st []).next (p.st []).heap X.W from upd_none _ _ _]; exact hI.H.alloc _) (.of_same rfl rfl rfl (by simp) fun k hk => alloc_get hk) (Fresh.none _ _ _ _ _ _)
      refine ⟨w.alloc (.deferred (some [])), w.heap.size, [{ target := .collected w.heap.size, args := #[] }], ?_, hIa, ?_⟩
      · rw [run_enterLoop_outer, World.size_alloc]
      · refine hF.2.2.trans hI.K.size (fun k hk => ?_) ⟨[w.heap.size], rfl, by simp, fun D hD => by obtain rfl := List.mem_singleton.1 hD; exact ⟨Nat.le_refl _, alloc_new _ _⟩⟩
        rw [alloc_get (Array.getElem?_eq_some_iff.1 hk).1]; exact hk
    | some l0 =>
      obtain ⟨r0, hr0⟩ := hX.ro l0 hro
      obtain ⟨q0, hq0⟩ := hI.K.loops l0 r0 hr0
      exact ⟨w, q0.defers, [], enter_inner hq0 _ _ _ _ _, hI, hF.2.2⟩
  have hσ : σ p.n = none := hσN _ (Nat.le_refl _)
  obtain ⟨x1, x2, x3, x4⟩ := newX_run (s := p.st []) (x := .loop ⟨p.T, X.nt, ps, assign, body, .ready, none⟩) (o := .loop { state := .ready, pending := none, fn, tmps := a.tmps, params := ps, assign, body, defers := D }) hIa.H hσ
    (.loop _ (alloc_new _ _) rfl rfl rfl rfl rfl hF.1 (fun t => (hF.2.1 t).mono (fun b l' hb' => by
      show (if b = p.n then _ else σ b) = _
      rw [if_neg (fun h => by rw [h, hσ] at hb'; cases hb')]; exact hb')) hra hrb)
  have f01 : Frm (p.st []) ((p.st []).newX (.loop ⟨p.T, X.nt, ps, assign, body, .ready, none⟩)) [] := .newX _ _ _
  generalize hs1 : (p.st []).newX (.loop ⟨p.T, X.nt, ps, assign, body, .ready, none⟩) = s1 at *
  have n1 : s1.next = p.n + 1 := by rw [← hs1]; rfl
  have hh1 : s1.heap = p.h.set p.n (recB p.T X.nt ps assign body) := by rw [← hs1]; rfl
  generalize hσ1 : (fun b => if b = (p.st []).next then some (⟨wa.heap.size, 0, 0, 0⟩ : Loc) else σ b) = σ1 at x1 x2 x3 x4
  have hσ1n : σ1 p.n = some ⟨wa.heap.size, 0, 0, 0⟩ := by rw [← hσ1]; exact if_pos rfl
  have x1 : HR ρ σ1 (upd (upd X.cur X.base p.n p.h X.W) p.n (p.n + 1) s1.heap []) (wa.alloc (.loop { state := .ready, pending := none, fn, tmps := a.tmps, params := ps, assign, body, defers := D })) := x1
  have x2 : Ext σ σ1 p.n (p.n + 1) := x2
  have x4 : Fresh σ σ1 p.n (p.n + 1) p.n [] wa := x4
  have x3 : Keeps σ p.n [] wa (wa.alloc (.loop { state := .ready, pending := none, fn, tmps := a.tmps, params := ps, assign, body, defers := D })) := x3
  rw [← n1] at x1 x2 x4
  generalize hw1 : wa.alloc (.loop { state := .ready, pending := none, fn, tmps := a.tmps, params := ps, assign, body, defers := D }) = w1 at hent x1 x3
  have hI1 : Inv ρ X.σ X.cur X.base X.W X.base X.w s1 σ1 w1 := hIa.step (base2 := p.n) hb hb (Nat.le_refl _) (fun b hb' => by cases hb') f01.toB x2 x1 x3 x4
  have hσ1N : ∀ b, s1.next ≤ b → σ1 b = none := fun b hb' => by
    rw [x2 b (.inr hb')]; exact hσN b (by omega)
  have hold1 : ∀ b, b < s1.next → upd X.cur X.base s1.next s1.heap X.W b = s1.heap.get b := fun b hb' => by
    show (if b ∈ X.W ∨ (X.base ≤ b ∧ b < s1.next) then _ else X.cur b) = _
    by_cases hc : b ∈ X.W ∨ (X.base ≤ b ∧ b < s1.next)
    · rw [if_pos hc]
    · rw [if_neg hc]
      have h1 : b < X.base := by
        by_cases h : b < X.base
        · exact h
        · exact absurd (.inr ⟨by omega, hb'⟩) hc
      rw [hS.old b h1 (fun h => hc (.inl h)), hh1, Tr.get_set, if_neg (by omega)]
  -- the call
  obtain ⟨x', y', hfv, hx, hy⟩ := (ev_run (σ := σ) (ρ := ρ) (a := a) (fun t _ => hF.2.1 t) hf).fn_inv
  obtain ⟨gfn, hgfn, hbody⟩ := K.fn
  have hle1 : σ.le σ1 := fun b l hl => by
    rw [x2 b (.inl (by
      by_cases h : b < p.n
      · exact h
      · rw [hσN b (by omega)] at hl; cases hl))]; exact hl
  have hargs : VRl ρ σ1 (first ++ [.yld p.n] ++ captured) ((x' ++ #[Value.func (.yield wa.heap.size) #[] #[]]) ++ y').toList := by
    simp only [Array.toList_append]
    exact ((hx.mono hle1).append (.cons (.yld hσ1n) .nil)).append (hy.mono hle1)
  have hHc : HR ρ σ1 (curOf (p.h.set p.n (recB p.T X.nt ps assign body)) (p.n + 1)) w1 := by
    refine HR.congr (fun b l hl => ?_) hI1.H
    have hlt : b < s1.next := by
      by_cases h : b < s1.next
      · exact h
      · rw [hσ1N b (by omega)] at hl; cases hl
    rw [hold1 b hlt, ← hh1]
    exact if_pos (by omega)
  refine ⟨wa.heap.size, mark, w1, { target := .fn (.func g) y', args := x' ++ #[Value.func (.yield wa.heap.size) #[] #[]] }, w1, g, (x' ++ #[Value.func (.yield wa.heap.size) #[] #[]]) ++ y', w1, hent, ?_, (fun _ _ => trivial), ?_, (fun h => by cases h), callsIn_fc ((K.run (X.n - 1) σ1 w1 _ hargs hHc (fun b hb' => hσ1N b (by omega))).mono ?_)⟩
  · simp only [resolve, Deferred.ofValue, hfv, pure_bind, Sem.run_pure]
    simp [Act.eval]
  · simp only [invoke, callFunc_run hC (show (ctxOf P memo0).fn g = some gfn from hgfn) hbody]
  · rintro e' w3 ⟨v, rfl, σ2, y1, y2, y3, y4, y5⟩
    have y1 : Ext σ1 σ2 s1.next n2 := by rw [n1]; exact y1
    have y3 : HR ρ σ2 (upd (curOf (p.h.set p.n (recB p.T X.nt ps assign body)) (p.n + 1)) (p.n + 1) n2 h2 Wg) w3 := y3
    have y4 : Keeps σ1 s1.next Wg w1 w3 := by rw [n1]; exact y4
    have y5 : Fresh σ1 σ2 s1.next n2 s1.next Wg w1 := by rw [n1]; exact y5
    have hI2 : Inv ρ X.σ X.cur X.base X.W X.base X.w ⟨h2, n2, [], []⟩ σ2 w3 := by
      refine hI1.step (s2 := ⟨h2, n2, [], []⟩) (base2 := s1.next) (W2 := Wg) (by omega) (by omega) (Nat.le_refl _) (fun b hb' => ?_) ⟨by show s1.next ≤ n2; omega, fun b hbW hbn => ?_, ?_⟩ y1 ?_ y4 y5
      · rcases (hWg b hb').1 with h | h
        · exact .inl h
        · exact .inr ⟨h, by have := (hWg b hb').2; omega⟩
      · show h2.get b = s1.heap.get b
        rw [hh1]
        exact hfrm b hbW (fun h => hbn ⟨by omega, h.2⟩)
      · rw [← hs1]; exact ⟨[], rfl⟩
      · refine HR.congr (fun b l hl => ?_) y3
        have hlt : b < n2 := by
          by_cases h : b < n2
          · exact h
          · rw [y1 b (.inr (by omega)), hσ1N b (by omega)] at hl; cases hl
        show (if b ∈ Wg ∨ (s1.next ≤ b ∧ b < n2) then h2.get b else _) = (if b ∈ Wg ∨ (p.n + 1 ≤ b ∧ b < n2) then h2.get b else _)
        by_cases hc : b ∈ Wg ∨ (s1.next ≤ b ∧ b < n2)
        · rw [if_pos hc, if_pos (by rw [← n1]; exact hc)]
        · rw [if_neg hc, if_neg (by rw [← n1]; exact hc)]
          have hlt1 : b < s1.next := by
            by_cases h : b < s1.next
            · exact h
            · exact absurd (.inr ⟨by omega, hlt⟩) hc
          rw [hold1 b hlt1, hh1]
          exact (if_pos (by omega)).symm
    have hl2 : σ2 p.n = some ⟨wa.heap.size, 0, 0, 0⟩ := by rw [y1 _ (.inl (by omega))]; exact hσ1n
    obtain ⟨q, hq, hqs, hqp, hI5, hK5⟩ := loop_set (r1 := { r5 with st := .exhausted }) (f := fun q => { q with state := .exhausted }) hI2 (by show X.base ≤ n2; omega) (by show X.base ≤ n2; omega) hrec (.inr ⟨hb, by show p.n < n2; omega⟩) hl2 (fun q h1' h2' h3' => by
      have hpd : q.pending = r5.pend := by
        cases h1' with
        | loop q' hq' _ hp' => rw [h2'] at hq'; cases hq'; exact hp'
      have := h1'.loop_state (st := .exhausted) (pd := r5.pend) h2'
      rw [← hpd] at this
      rw [← hpd]
      exact this)
    refine ⟨q.pending, _, run_endLoop hq (by rw [hqs]; exact hst), ?_⟩
    have hSR : SR ρ X ⟨p.T, ((⟨h2, n2, [], []⟩ : St).setX p.n (.loop { r5 with st := .exhausted })).heap, n2⟩ { a with defers := mark ++ a.defers } (w3.putObj wa.heap.size (.loop { q with state := .exhausted })) := by
      refine ⟨by show X.base ≤ n2; omega, fun b hb1 hb2 => ?_, σ2, hI5, hF.1, fun t => (hF.2.1 t).mono (fun b l hl => ?_), ?_⟩
      · show X.cur b = ((⟨h2, n2, [], []⟩ : St).setX p.n (.loop { r5 with st := .exhausted })).heap.get b
        rw [setX_get, if_neg (by omega)]
        show X.cur b = h2.get b
        rw [hfrm b (fun h => by
          rcases (hWg b h).1 with h | h
          · exact hb2 h
          · omega) (fun h => by omega), Tr.get_set, if_neg (by omega)]
        exact hS.old b hb1 hb2
      · have h1 := hle1 b l hl
        rw [y1 b (.inl (by
          by_cases h : b < s1.next
          · exact h
          · rw [hσ1N b (by omega)] at h1; cases h1))]
        exact h1
      · have hsz : X.w.heap.size ≤ wa.heap.size := hIa.K.size
        exact hmark.trans hsz (fun k hk => hK5.defd k (y4.defd k (x3.defd k hk))) (.refl _ _ _)
    have := hQ e _ _ _ hΦ hSR
    rw [← hqp] at hex
    revert hex this
    generalize w3.putObj wa.heap.size (.loop { q with state := .exhausted }) = w4
    intro hex this
    revert hex
    cases hpd : q.pending with
    | none => intro hex; cases hex; exact this
    | some cd =>
      intro hex
      cases cd <;> simp only [Ex.of] at hex <;> cases hex
      · exact wpIn_exit this
      · exact wpIn_ret this

/-! ## Heads of automata that are ranges -/

/-- The state behind a range, whose iterator left this memory. -/
noncomputable def rgSt (n0 : Nat) (h2 : Tr Blk) (n2 : Nat) (r5 : LR) (o : List Nat) : St := ⟨((⟨h2, n2, [], []⟩ : St).setX n0 (.loop { r5 with st := .exhausted })).heap, n2, o, []⟩

/-- What follows a range. -/
noncomputable def AF.runR {N R : Type} (A : AF N R) (C : Ctx) (a : N) (h2 : Tr Blk) (n2 : Nat) (r5 : LR) (e : Ex) (o : List Nat) : Option KO :=
  resumeK C A.m A.base A.nt A.un A.code (A.path a) e ((A.pd a).pt A.H0).T (rgSt (A.pd a).n h2 n2 r5 o)

theorem AF.old {N R : Type} {A : AF N R} {C : Ctx} (hA : A.Ok P C) (a : N) {b : Nat} (hb : b < A.base) (hbW : b ∉ A.W) : ((A.pd a).pt A.H0).h.get b = A.H0.get b := by
  show (putH A.H0 ((A.pd a).h ++ (A.pd a).x)).get b = _
  rw [get_putH]
  split
  · rename_i x hx
    have h1 := List.find?_some hx
    have h2 := List.mem_of_find?_eq_some hx
    simp only [beq_iff_eq] at h1
    subst h1
    rcases List.mem_append.1 h2 with h2 | h2
    · rcases ((hA.pd a).h x h2).1 with h3 | h3
      · omega
      · exact absurd h3 hbW
    · exact absurd ((hA.pd a).x x h2).1 hbW
  · rfl

theorem AF.frm {N R : Type} {A : AF N R} {C : Ctx} (hA : A.Ok P C) (v : R) (hlt : (A.rh v).all (fun x => Nat.blt x.1 (A.rn v)) = true) {b : Nat} (hbW : b ∉ A.W) (hb : ¬ (A.base ≤ b ∧ b < A.rn v)) : (putH A.H0 (A.rh v ++ A.rx v)).get b = A.H0.get b := by
  rw [get_putH]
  split
  · rename_i x hx
    have h1 := List.find?_some hx
    have h2 := List.mem_of_find?_eq_some hx
    simp only [beq_iff_eq] at h1
    subst h1
    rcases List.mem_append.1 h2 with h2 | h2
    · rcases ((hA.rd v).1.h x h2).1 with h3 | h3
      · exact absurd ⟨h3, blt_lt (List.all_eq_true.1 hlt x h2)⟩ hb
      · exact absurd h3 hbW
    · exact absurd ((hA.rd v).1.x x h2).1 hbW
  · rfl

theorem Ctr.congr {f : Nat} {args : List CV} {h0 h0' h1 : Tr Blk} {base n1 : Nat} {W : List Nat} {c : CV} (h : ∀ b, b < base → h0.get b = h0'.get b) (K : Ctr P ρ f args h0 base W c h1 n1) : Ctr P ρ f args h0' base W c h1 n1 := by
  have e : curOf h0 base = curOf h0' base := by
    funext b
    unfold curOf
    split
    · exact h b ‹_›
    · rfl
  exact ⟨K.fn, fun n σ w args' a1 a2 a3 => by rw [← e]; exact K.run n σ w args' a1 (by rw [e]; exact a2) a3⟩

/-- A head that is a range over a function, from the iterator's automaton over the head's memory. -/
structure AF.Rg {N R N' R' : Type} (A : AF N R) (B : AF N' R') (P : Program) (C C' : Ctx) (a : N) (f : Operand) (ps : Array Tmp) (as' bd : Code) (g : Nat) (gn : Func) (first captured : List CV) (rec : R' → LR) (ex : R' → Ex) (Dr : R' → DD (Lf N R)) : Prop where
  code : codeAt A.code (A.path a) = .rangeFunc f ps as' bd
  fn : ev ((A.pd a).pt A.H0).T f = some (.fn (.func g) first captured)
  args : B.args = first ++ [.yld (A.pd a).n] ++ captured
  base : B.base = (A.pd a).n + 1
  h0 : B.h0 = ((A.pd a).n, recB (mkT (A.pd a).T) A.nt ps as' bd) :: (((A.pd a).h ++ (A.pd a).x) ++ A.h0)
  W : B.W.all (fun b => A.W.any (Nat.beq b) || Nat.ble A.base b) = true
  gfn : P.funcs[g]? = some gn
  body : gn.body = some B.code
  nt : gn.ntmps = B.nt
  len : B.args.length ≤ B.nt
  res : gn.results.toList = B.res
  ok : B.Ok P C'
  le : ∀ v, B.base ≤ B.rn v
  lt : ∀ v, (B.rh v).all (fun x => Nat.blt x.1 (B.rn v)) = true
  rcd : ∀ v, (⟨putH B.H0 (B.rh v ++ B.rx v), B.rn v, [], []⟩ : St).getX (A.pd a).n = some (.loop (rec v))
  st : ∀ v, (rec v).st ≠ .busy
  exd : ∀ v, Ex.of (rec v).pend = some (ex v)
  D : ∀ v, A.edgeOk (ctxOf P memo0) (Dr v) (A.runR C a (putH B.H0 (B.rh v ++ B.rx v)) (B.rn v) (rec v) (ex v))

theorem mkH_append (l m : List (Nat × Blk)) : mkH (l ++ m) = putH (mkH m) l := by
  induction l with
  | nil => rfl
  | cons x l ih => obtain ⟨t, c⟩ := x; simp only [List.cons_append, mkH, putH, ih]

theorem AF.range_ok {N R N' R' : Type} {A : AF N R} {B : AF N' R'} {memo memo' : Memo} {a : N} {f : Operand} {ps : Array Tmp} {as' bd : Code} {g : Nat} {gn : Func} {first captured : List CV} {rec : R' → LR} {ex : R' → Ex} {Dr : R' → DD (Lf N R)}
    (hP : progOk P = true) (hM : MemoOk P (ctxOf P memo) ρ) (hM' : MemoOk P (ctxOf P memo') ρ) (hA : A.Ok P (ctxOf P memo)) (H : A.Rg B P (ctxOf P memo) (ctxOf P memo') a f ps as' bd g gn first captured rec ex Dr)
    (hRB : ∀ X a q n D, FxOk ρ X → X.base = B.base → X.nt = B.nt → X.W = B.W → B.rgo a = some q → q n = some D → B.RangeOk P ρ X a D)
    {X : Fx} (hX : FxOk ρ X) (hb : X.base = A.base) (hnt : X.nt = A.nt) (hW : X.W = A.W) {n : Nat} {D : DD (Lf N R)} (h : (B.run n).map Dr = some D) : A.RangeOk P ρ X a D := by
  cases hv : B.run n with
  | none => rw [hv] at h; cases h
  | some v =>
    rw [hv] at h
    cases h
    have hC := ctxOf_ok hP memo
    have hle : A.base ≤ (A.pd a).n := hA.le a
    have hregs : regsOk (.rangeFunc f ps as' bd) = true := by rw [← H.code]; exact regs_at (A.path a) hA.regs
    have hregs : regsOk as' = true ∧ regsOk bd = true := by simpa [regsOk] using hregs
    have K := AF.ctr hP hM' H.ok H.gfn H.body H.nt H.len H.res hRB hv
    have hH0 : B.H0 = ((A.pd a).pt A.H0).h.set (A.pd a).n (recB (mkT (A.pd a).T) A.nt ps as' bd) := by
      show mkH B.h0 = _
      rw [H.h0, mkH, mkH_append]
      rfl
    have hWB : ∀ b ∈ B.W, (b ∈ A.W ∨ A.base ≤ b) ∧ b < (A.pd a).n + 1 := fun b hbB => by
      refine ⟨?_, by rw [← H.base]; exact H.ok.wlt b hbB⟩
      have := List.all_eq_true.1 H.W b hbB
      rw [Bool.or_eq_true] at this
      rcases this with h | h
      · obtain ⟨x, h1, h2⟩ := List.any_eq_true.1 h
        rw [Nat.eq_of_beq_eq_true h2]; exact .inl h1
      · exact .inr (Nat.le_of_ble_eq_true h)
    have hfr : ∀ b, b ∉ B.W → ¬ ((A.pd a).n + 1 ≤ b ∧ b < B.rn v) → (putH B.H0 (B.rh v ++ B.rx v)).get b = (((A.pd a).pt A.H0).h.set (A.pd a).n (recB (mkT (A.pd a).T) A.nt ps as' bd)).get b := fun b h1 h2 => by
      rw [AF.frm H.ok v (H.lt v) h1 (by rw [H.base]; exact h2), hH0]
    refine ⟨A.runR (ctxOf P memo) a (putH B.H0 (B.rh v ++ B.rx v)) (B.rn v) (rec v) (ex v), rgSt (A.pd a).n (putH B.H0 (B.rh v ++ B.rx v)) (B.rn v) (rec v) [], H.D v, rfl, fun b hb1 hb2 => ?_, fun o k hk => ?_⟩
    · show (((⟨putH B.H0 (B.rh v ++ B.rx v), B.rn v, [], []⟩ : St).setX (A.pd a).n (.loop { rec v with st := .exhausted })).heap).get b = _
      rw [setX_get, if_neg (by omega)]
      show (putH B.H0 (B.rh v ++ B.rx v)).get b = _
      rw [hfr b (fun h => by
        rcases (hWB b h).1 with h | h
        · exact hb2 h
        · omega) (fun h => by omega), Tr.get_set, if_neg (by omega)]
      exact AF.old hA a hb1 hb2
    · have kk := resumeK_ok (base := A.base) hC hM (A.path a) A.code (ex v) _ _ _ hA.regs (by show A.base ≤ B.rn v; have := H.le v; rw [H.base] at this; omega) hk
      refine ⟨kk.next, kk.pc, kk.old, fun X' Φ h1 h2 h3 h4 h5 h6 hx => ?_⟩
      subst hx
      have hob := kk.run X' Φ h1 h2 h3 h4 h5 h6
      show LoopAt P ρ X' (codeAt A.code (A.path a)) (AftL P ρ X' A.code (A.path a) Φ) _
      rw [H.code]
      show Sem P ρ X' (.rangeFunc f ps as' bd) ((A.pd a).pt A.H0) _
      refine Sem.range (c := B.rc v) (h2 := putH B.H0 (B.rh v ++ B.rx v)) (n2 := B.rn v) (Wg := B.W) (r5 := rec v) (e := ex v) hP h1 hregs.1 hregs.2 H.fn ?_ ?_ ?_ (H.rcd v) ?_ (H.st v) (H.exd v) hob
      · have := K
        rw [H.args, H.base, hH0] at this
        rw [hH0, h3]
        exact this
      · have := H.le v; rw [H.base] at this; exact this
      · intro b hbB
        rw [hW, hb]
        exact hWB b hbB
      · intro b q1 q2
        rw [h3]
        exact hfr b q1 q2

end
end Go.Proofs.YtpojncoplaopcaaDoor.Cx

/- acme/lot.choices as an automaton. Made by tools/cxauto.py. -/
namespace Go.Proofs.YtpojncoplaopcaaDoor.Cx
set_option linter.unusedVariables false
set_option linter.unusedSimpArgs false
set_option maxRecDepth 100000
open Go Go.Proofs Go.RowKit

noncomputable abbrev lchCode : Code := funcCode Tryd.f40


inductive lchN where
  | n0 (p0 : Int) (p1 : Int)

abbrev lchR := Int

noncomputable def lchD0 (a0 : Int) (a1 : Int) : DD (Lf lchN lchR) :=
 .leaf (.next (.n0 1 0) [])

noncomputable def lchD (a0 : Int) (a1 : Int) : lchN → DD (Lf lchN lchR)
 | .n0 p0 p1 =>
 .ask (Cm.run Cm.lss p1 a1)
   (.must (Cm.run Cm.neq (Ar.run Ar.add IntKind.i64 p1 1) 0)
   (.leaf (.next (.n0 (Ar.run Ar.quo IntKind.i64 (Ar.run Ar.mul IntKind.i64 p0 (Ar.run Ar.sub IntKind.i64 a0 p1)) (Ar.run Ar.add IntKind.i64 p1 1)) (Ar.run Ar.add IntKind.i64 p1 1)) [])))
   (.leaf (.done p0 []))

noncomputable def lchA (a0 : Int) (a1 : Int) : AF lchN lchR where
  code := lchCode
  base := 0
  nt := 21
  m := 400
  un := []
  W := []
  h0 := []
  args := [.int .i64 (.x a0), .int .i64 (.x a1)]
  res := (Tryd.f40).results.toList
  path := fun a => match a with
   | .n0 p0 p1 => [1, 1, 0, 1, 0]
  pd := fun a => match a with
   | .n0 p0 p1 => ⟨[(0, .int .i64 (.x a0)), (5, .int .i64 (.x p0)), (7, .int .i64 (.x a1)), (8, .int .i64 (.x p1))], [], 0, []⟩
  D0 := lchD0 a0 a1
  D := lchD a0 a1
  rc := (fun v => .int .i64 (.x v))
  rh := (fun v => [])
  rn := (fun v => 0)
  rx := (fun v => [])
  rgo := (fun _ => none)


theorem lchstart (a0 : Int) (a1 : Int) : AF.edgeOk (lchA a0 a1) (ctxOf Tryd.prog memo0) (lchD0 a0 a1) (AF.run0 (lchA a0 a1) (ctxOf Tryd.prog memo0)) := by unfold AF.edgeOk; kernel_rfl

theorem lchnode0 (a0 : Int) (a1 : Int) (p0 : Int) (p1 : Int) : AF.edgeOk (lchA a0 a1) (ctxOf Tryd.prog memo0) (lchD a0 a1 (.n0 p0 p1)) (AF.runN (lchA a0 a1) (ctxOf Tryd.prog memo0) (.n0 p0 p1)) := by unfold AF.edgeOk; kernel_rfl

theorem lchok (a0 : Int) (a1 : Int) : (lchA a0 a1).Ok Tryd.prog (ctxOf Tryd.prog memo0) where
  regs := by kernel_rfl
  h0 := by kernel_rfl
  start := lchstart a0 a1
  node := fun a _ => match a with
   | .n0 p0 p1 => lchnode0 a0 a1 p0 p1
  pd := fun a => match a with
   | .n0 p0 p1 => ⟨(fa_cons rfl (fa_cons rfl (fa_cons rfl (fa_cons rfl fa_nil)))), fa_nil, fa_nil, rfl⟩
  le := fun a => match a with
   | .n0 p0 p1 => Nat.le_of_ble_eq_true rfl
  rd := fun v => ⟨⟨fa_nil, fa_nil, fa_nil, rfl⟩, rfl⟩
  wb := rfl


theorem lchhR {ρ : Env} (a0 : Int) (a1 : Int) (hM : MemoOk Tryd.prog (ctxOf Tryd.prog memo0) ρ) : ∀ X a q n D, FxOk ρ X → X.base = (lchA a0 a1).base → X.nt = (lchA a0 a1).nt → X.W = (lchA a0 a1).W → (lchA a0 a1).rgo a = some q → q n = some D → (lchA a0 a1).RangeOk Tryd.prog ρ X a D := AF.noRange rfl

theorem lchctr {ρ : Env} (a0 : Int) (a1 : Int) {n : Nat} {v : lchR} (hM : MemoOk Tryd.prog (ctxOf Tryd.prog memo0) ρ) (hv : (lchA a0 a1).run n = some v) :
    Ctr Tryd.prog ρ 40 (lchA a0 a1).args (lchA a0 a1).H0 (lchA a0 a1).base (lchA a0 a1).W ((lchA a0 a1).rc v) (putH (lchA a0 a1).H0 ((lchA a0 a1).rh v ++ (lchA a0 a1).rx v)) ((lchA a0 a1).rn v) :=
  AF.ctr try_ok hM (lchok a0 a1) (fn := Tryd.f40) Tryd.func40 rfl rfl (Nat.le_of_ble_eq_true rfl) rfl (lchhR a0 a1 hM) hv


theorem lchmem {ρ : Env} : MemoOk Tryd.prog (ctxOf Tryd.prog memo0) ρ := memo0_ok


abbrev lchP : List AP := [.int .i64, .int .i64]
noncomputable def lchF (v : AV) : AF lchN lchR := lchA (v.i.getD 0 0) (v.i.getD 1 0)
theorem lchknown {ρ : Env} (hM : MemoOk Tryd.prog (ctxOf Tryd.prog memo0) ρ) : KnownA Tryd.prog ρ 40 lchP lchF where
  fn := ⟨Tryd.f40, Tryd.func40, rfl⟩
  args := fun v => rfl
  plain := fun v r => rfl
  ctr := fun v n r h => lchctr (v.i.getD 0 0) (v.i.getD 1 0) hM h

end Go.Proofs.YtpojncoplaopcaaDoor.Cx

/- acme/lot.chance as an automaton. Made by tools/cxauto.py. -/
namespace Go.Proofs.YtpojncoplaopcaaDoor.Cx
set_option linter.unusedVariables false
set_option linter.unusedSimpArgs false
set_option maxRecDepth 100000
open Go Go.Proofs Go.RowKit

noncomputable abbrev lcnCode : Code := funcCode Tryd.f24


inductive lcnN where
  | n0 (p0 : Int) (p1 : Int)

abbrev lcnR := Int × Int

noncomputable def lcnD0 (a0 : Int) (a1 : Int) (a2 : Int) (a3 : Int) : DD (Lf lcnN lcnR) :=
 .leaf (.next (.n0 0 0) [0])

noncomputable def lcnD (a0 : Int) (a1 : Int) (a2 : Int) (a3 : Int) : lcnN → DD (Lf lcnN lcnR)
 | .n0 p0 p1 =>
 .ask (Cm.run Cm.lss p1 (Ar.run Ar.add IntKind.i64 a3 1))
   (.must (AF.fin (lchA a1 p1))
   (.must (AF.fin (lchA (Ar.run Ar.sub IntKind.i64 a0 a1) (Ar.run Ar.sub IntKind.i64 a2 p1)))
   (.leaf (.next (.n0 (Ar.run Ar.add IntKind.i64 p0 (Ar.run Ar.mul IntKind.i64 (AF.val (lchA a1 p1)) (AF.val (lchA (Ar.run Ar.sub IntKind.i64 a0 a1) (Ar.run Ar.sub IntKind.i64 a2 p1))))) (Ar.run Ar.add IntKind.i64 p1 1)) [0]))))
   (.must (AF.fin (lchA a0 a2))
   (.leaf (.done (p0, AF.val (lchA a0 a2)) [])))

noncomputable def lcnA (a0 : Int) (a1 : Int) (a2 : Int) (a3 : Int) : AF lcnN lcnR where
  code := lcnCode
  base := 0
  nt := 35
  m := 400
  un := []
  W := []
  h0 := []
  args := [.int .i64 (.x a0), .int .i64 (.x a1), .agg [.int .i64 (.x a2), .int .i64 (.x a3)]]
  res := (Tryd.f24).results.toList
  path := fun a => match a with
   | .n0 p0 p1 => [1, 0, 1, 0]
  pd := fun a => match a with
   | .n0 p0 p1 => ⟨[(0, .int .i64 (.x a0)), (1, .int .i64 (.x a1)), (5, .ptr (some (0, 0))), (6, .int .i64 (.x p0)), (11, .int .i64 (.x (Ar.run Ar.add IntKind.i64 a3 1))), (12, .int .i64 (.x p1))], [(0, ⟨.lit [.int .i64 (.x a2), .int .i64 (.x a3)], 0, true, none⟩)], 1, []⟩
  D0 := lcnD0 a0 a1 a2 a3
  D := lcnD a0 a1 a2 a3
  rc := (fun v => .tup [.int .i64 (.x v.1), .int .i64 (.x v.2)])
  rh := (fun v => [])
  rn := (fun v => 0)
  rx := (fun v => [])
  rgo := (fun _ => none)


theorem lcnstart (a0 : Int) (a1 : Int) (a2 : Int) (a3 : Int) : AF.edgeOk (lcnA a0 a1 a2 a3) (ctxOf Tryd.prog memo0) (lcnD0 a0 a1 a2 a3) (AF.run0 (lcnA a0 a1 a2 a3) (ctxOf Tryd.prog (memoA 40 lchP lchF memo0))) := by unfold AF.edgeOk; kernel_rfl

theorem lcnnode0 (a0 : Int) (a1 : Int) (a2 : Int) (a3 : Int) (p0 : Int) (p1 : Int) : AF.edgeOk (lcnA a0 a1 a2 a3) (ctxOf Tryd.prog memo0) (lcnD a0 a1 a2 a3 (.n0 p0 p1)) (AF.runN (lcnA a0 a1 a2 a3) (ctxOf Tryd.prog (memoA 40 lchP lchF memo0)) (.n0 p0 p1)) := by unfold AF.edgeOk; kernel_rfl

theorem lcnok (a0 : Int) (a1 : Int) (a2 : Int) (a3 : Int) : (lcnA a0 a1 a2 a3).Ok Tryd.prog (ctxOf Tryd.prog (memoA 40 lchP lchF memo0)) where
  regs := by kernel_rfl
  h0 := by kernel_rfl
  start := lcnstart a0 a1 a2 a3
  node := fun a _ => match a with
   | .n0 p0 p1 => lcnnode0 a0 a1 a2 a3 p0 p1
  pd := fun a => match a with
   | .n0 p0 p1 => ⟨(fa_cons rfl (fa_cons rfl (fa_cons rfl (fa_cons rfl (fa_cons rfl (fa_cons rfl fa_nil)))))), (fa_cons ⟨.inl (Nat.le_of_ble_eq_true rfl), rfl, rfl⟩ fa_nil), fa_nil, rfl⟩
  le := fun a => match a with
   | .n0 p0 p1 => Nat.le_of_ble_eq_true rfl
  rd := fun v => ⟨⟨fa_nil, fa_nil, fa_nil, rfl⟩, rfl⟩
  wb := rfl


theorem lcnhR {ρ : Env} (a0 : Int) (a1 : Int) (a2 : Int) (a3 : Int) (hM : MemoOk Tryd.prog (ctxOf Tryd.prog (memoA 40 lchP lchF memo0)) ρ) : ∀ X a q n D, FxOk ρ X → X.base = (lcnA a0 a1 a2 a3).base → X.nt = (lcnA a0 a1 a2 a3).nt → X.W = (lcnA a0 a1 a2 a3).W → (lcnA a0 a1 a2 a3).rgo a = some q → q n = some D → (lcnA a0 a1 a2 a3).RangeOk Tryd.prog ρ X a D := AF.noRange rfl

theorem lcnctr {ρ : Env} (a0 : Int) (a1 : Int) (a2 : Int) (a3 : Int) {n : Nat} {v : lcnR} (hM : MemoOk Tryd.prog (ctxOf Tryd.prog (memoA 40 lchP lchF memo0)) ρ) (hv : (lcnA a0 a1 a2 a3).run n = some v) :
    Ctr Tryd.prog ρ 24 (lcnA a0 a1 a2 a3).args (lcnA a0 a1 a2 a3).H0 (lcnA a0 a1 a2 a3).base (lcnA a0 a1 a2 a3).W ((lcnA a0 a1 a2 a3).rc v) (putH (lcnA a0 a1 a2 a3).H0 ((lcnA a0 a1 a2 a3).rh v ++ (lcnA a0 a1 a2 a3).rx v)) ((lcnA a0 a1 a2 a3).rn v) :=
  AF.ctr try_ok hM (lcnok a0 a1 a2 a3) (fn := Tryd.f24) Tryd.func24 rfl rfl (Nat.le_of_ble_eq_true rfl) rfl (lcnhR a0 a1 a2 a3 hM) hv


theorem lcnmem {ρ : Env} : MemoOk Tryd.prog (ctxOf Tryd.prog (memoA 40 lchP lchF memo0)) ρ := (memoA_ok (lchknown lchmem) memo0_ok)


abbrev lcnP : List AP := [.int .i64, .int .i64, .agg [.int .i64, .int .i64]]
noncomputable def lcnF (v : AV) : AF lcnN lcnR := lcnA (v.i.getD 0 0) (v.i.getD 1 0) (v.i.getD 2 0) (v.i.getD 3 0)
theorem lcnknown {ρ : Env} (hM : MemoOk Tryd.prog (ctxOf Tryd.prog (memoA 40 lchP lchF memo0)) ρ) : KnownA Tryd.prog ρ 24 lcnP lcnF where
  fn := ⟨Tryd.f24, Tryd.func24, rfl⟩
  args := fun v => rfl
  plain := fun v r => rfl
  ctr := fun v n r h => lcnctr (v.i.getD 0 0) (v.i.getD 1 0) (v.i.getD 2 0) (v.i.getD 3 0) hM h

end Go.Proofs.YtpojncoplaopcaaDoor.Cx

/- lot.choices yields binomials; lot.chance counts the samples that pass, and all samples. -/
namespace Go.Proofs.YtpojncoplaopcaaDoor.Cx
set_option linter.unusedVariables false
set_option linter.unusedSimpArgs false
open Go Go.RowKit

theorem lch_ok {n k : Nat} (hn : n ≤ 50) (hk : k ≤ 50) : AF.fin (lchA n k) = true ∧ AF.val (lchA n k) = (bin n k : Int) :=
  AF.val_sat (Inv := fun a => match a with | .n0 p0 p1 => ∃ j : Nat, j ≤ k ∧ p1 = (j : Int) ∧ p0 = (bin n j : Int)) (E := fun (v : lchR) => v = (bin n k : Int)) (fun a => match a with | .n0 p0 p1 => k - p1.toNat) (fun _ => rfl) (fun a hI => by
    obtain ⟨p0, p1⟩ := a
    obtain ⟨j, hj, rfl, rfl⟩ := hI
    have b1 := bin_le (n := n) (k := j + 1) hn
    have m := bin_mul n j
    refine ⟨fun h => ?_, fun h => ?_⟩
    · have hlt : j < k := by have := cmLss.1 h; omega
      have e1 : Ar.run Ar.sub IntKind.i64 (n : Int) (j : Int) = (n : Int) - j := arSub (by omega)
      have e3 : Ar.run Ar.add IntKind.i64 (j : Int) 1 = (j : Int) + 1 := arAdd (by omega)
      have hb : 0 ≤ (bin n (j + 1) : Int) * ((j : Int) + 1) ∧ (bin n (j + 1) : Int) * ((j : Int) + 1) ≤ 562949953421312 * 51 :=
        ⟨Int.mul_nonneg (by omega) (by omega), Int.mul_le_mul (by omega) (by omega) (by omega) (by omega)⟩
      have e2 : Ar.run Ar.mul IntKind.i64 (bin n j : Int) ((n : Int) - j) = (bin n (j + 1) : Int) * ((j : Int) + 1) := by
        rw [arMul (by omega), m]
      have e4 : Ar.run Ar.quo IntKind.i64 ((bin n (j + 1) : Int) * ((j : Int) + 1)) ((j : Int) + 1) = (bin n (j + 1) : Int) := by
        have e : ((bin n (j + 1) : Int) * ((j : Int) + 1)).tdiv ((j : Int) + 1) = (bin n (j + 1) : Int) := Int.mul_tdiv_cancel _ (by omega)
        rw [arQuo (by rw [e]; omega), e]
      refine ⟨by rw [e3]; exact cmNeq.2 (by omega), ?_⟩
      show (∃ i : Nat, i ≤ k ∧ _ = (i : Int) ∧ _ = (bin n i : Int)) ∧ k - Int.toNat _ < k - Int.toNat _
      rw [e1, e2, e3, e4]
      refine And.intro (Exists.intro (j + 1) ⟨by omega, by omega, rfl⟩) ?_
      show _ - Int.toNat ((j : Int) + 1) < _ - Int.toNat (j : Int)
      omega
    · have hge : ¬ j < k := by have := cmLssF.1 h; omega
      obtain rfl : j = k := by omega
      rfl) (by
    show ∃ i : Nat, i ≤ k ∧ (0 : Int) = (i : Int) ∧ (1 : Int) = (bin n i : Int)
    exact ⟨0, by omega, rfl, by rw [bin_z]; rfl⟩)

/-- Of N pieces b are bad, m good. -/
theorem lcn_ok {b m n A : Nat} (hN : b + m ≤ 50) (hn : n ≤ b + m) (hA : A ≤ n) : AF.fin (lcnA ((b + m : Nat) : Int) b n A) = true ∧ AF.val (lcnA ((b + m : Nat) : Int) b n A) = ((psum b m n (A + 1) : Int), (bin (b + m) n : Int)) :=
  AF.val_sat (Inv := fun a => match a with | .n0 p0 p1 => ∃ j : Nat, j ≤ A + 1 ∧ p1 = (j : Int) ∧ p0 = (psum b m n j : Int)) (E := fun (v : lcnR) => v = ((psum b m n (A + 1) : Int), (bin (b + m) n : Int))) (fun a => match a with | .n0 p0 p1 => A + 1 - p1.toNat) (fun _ => rfl) (fun a hI => by
    obtain ⟨p0, p1⟩ := a
    obtain ⟨j, hj, rfl, rfl⟩ := hI
    have eA : Ar.run Ar.add IntKind.i64 (A : Int) 1 = (A : Int) + 1 := arAdd (by omega)
    refine ⟨fun h => ?_, fun h => ?_⟩
    · have h := cmLss.1 h
      rw [eA] at h
      have hlt : j ≤ A := by omega
      obtain ⟨f1, v1⟩ := lch_ok (n := b) (k := j) (by omega) (by omega)
      obtain ⟨f2, v2⟩ := lch_ok (n := m) (k := n - j) (by omega) (by omega)
      have e1 : Ar.run Ar.sub IntKind.i64 ((b + m : Nat) : Int) (b : Int) = (m : Int) := by rw [arSub (by omega)]; omega
      have e2 : Ar.run Ar.sub IntKind.i64 (n : Int) (j : Int) = ((n - j : Nat) : Int) := by rw [arSub (by omega)]; omega
      have e3 : Ar.run Ar.add IntKind.i64 (j : Int) 1 = (j : Int) + 1 := arAdd (by omega)
      have t : term b m n j = bin b j * bin m (n - j) := by unfold term; rw [if_pos (by omega)]
      have tl := term_le (n := n) (s := j) hN
      have pl := psum_le b m n j
      have bl := bin_le (k := n) hN
      have e4 : Ar.run Ar.mul IntKind.i64 (bin b j : Int) (bin m (n - j) : Int) = (term b m n j : Int) := by
        have e : (bin b j : Int) * (bin m (n - j) : Int) = (term b m n j : Int) := by rw [t]; exact (Int.natCast_mul _ _).symm
        rw [arMul (by rw [e]; omega), e]
      have e5 : Ar.run Ar.add IntKind.i64 (psum b m n j : Int) (term b m n j : Int) = (psum b m n (j + 1) : Int) := by
        rw [arAdd (by omega)]; simp only [psum]; omega
      refine ⟨f1, by rw [e1, e2]; exact f2, ?_⟩
      show (∃ i : Nat, i ≤ A + 1 ∧ _ = (i : Int) ∧ _ = (psum b m n i : Int)) ∧ A + 1 - Int.toNat _ < A + 1 - Int.toNat _
      rw [e1, e2, e3, v1, v2, e4, e5]
      refine And.intro (Exists.intro (j + 1) ⟨by omega, by omega, rfl⟩) ?_
      show _ - Int.toNat ((j : Int) + 1) < _ - Int.toNat (j : Int)
      omega
    · have h := cmLssF.1 h
      rw [eA] at h
      obtain rfl : j = A + 1 := by omega
      obtain ⟨f1, v1⟩ := lch_ok (n := b + m) (k := n) hN (by omega)
      refine ⟨f1, ?_⟩
      show (_, AF.val (lchA _ _)) = _
      rw [v1]) (by
    show ∃ i : Nat, i ≤ A + 1 ∧ (0 : Int) = (i : Int) ∧ (0 : Int) = (psum b m n i : Int)
    exact ⟨0, by omega, rfl, rfl⟩)
end Go.Proofs.YtpojncoplaopcaaDoor.Cx

/- Contracts of package exact's numbers: the greatest common divisor, ratios, rounding up. Over Int. -/
namespace Go.Proofs.YtpojncoplaopcaaDoor
open Go.RowKit

/-- A block of cells that holds just these values, and may be written. -/
def Box (w : World) (g : Nat) (cs : Array Value) : Prop := g < w.heap.size ∧ (∀ i, w.cell? ⟨g, i, none⟩ = cs[i]?) ∧ ∀ i, w.frozen? ⟨g, i, none⟩ = false

theorem cell_at {w : World} {g : Nat} {cs : Array Value} {t : TypeId} {fr : Nat × Nat} (h : w.heap[g]? = some (.cells cs t fr)) (i : Nat) : w.cell? ⟨g, i, none⟩ = cs[i]? := by simp [World.cell?, h]
theorem free_at {w : World} {g : Nat} {cs : Array Value} {t : TypeId} (h : w.heap[g]? = some (.cells cs t (0, 0))) (i : Nat) : w.frozen? ⟨g, i, none⟩ = false := by simp [World.frozen?, h]

theorem Box.new (w : World) (cs : Array Value) (T : TypeId) : Box (w.alloc (.cells cs T)) w.heap.size cs := by
  have h := (MapKept.heap_alloc w (.cells cs T)).1
  exact ⟨by simp, cell_at h, free_at h⟩

theorem Box.newAt {n : Nat} (w : World) (cs : Array Value) (T : TypeId) (hn : n = w.heap.size) : Box (w.alloc (.cells cs T)) n cs := by
  subst hn
  exact Box.new w cs T

theorem Box.below {w w' : World} {g : Nat} {cs : Array Value} (h : Box w g cs) (hb : Below w.heap.size w w') : Box w' g cs :=
  ⟨Nat.lt_of_lt_of_le h.1 hb.size, fun i => (hb.cell (p := ⟨g, i, none⟩) h.1).trans (h.2.1 i), fun i => (hb.frozen (p := ⟨g, i, none⟩) h.1).trans (h.2.2 i)⟩

theorem Box.alloc {w : World} {g : Nat} {cs : Array Value} (h : Box w g cs) (o : Obj) : Box (w.alloc o) g cs := h.below ((Below.refl _ _).alloc (Nat.le_refl _) o)

theorem Box.setCell {w : World} {g i : Nat} {cs : Array Value} (h : Box w g cs) (hi : i < cs.size) (v : Value) : Box (w.setCell ⟨g, i, none⟩ v) g (cs.setIfInBounds i v) := by
  refine ⟨by rw [World.size_setCell]; exact h.1, fun j => ?_, fun j => by rw [World.frozen?_setCell]; exact h.2.2 j⟩
  by_cases e : i = j
  · subst e
    have hc : w.cell? ⟨g, i, none⟩ = some cs[i] := by rw [h.2.1 i]; simp [hi]
    rw [World.cell?_setCell_same _ _ _ hc]
    simp [hi]
  · rw [World.cell?_setCell_other _ _ _ _ (fun x => e (by injection x)), h.2.1 j, Array.getElem?_setIfInBounds, if_neg e]

theorem Box.setOther {w : World} {g g' i : Nat} {cs : Array Value} (h : Box w g cs) (hg : g' ≠ g) (v : Value) : Box (w.setCell ⟨g', i, none⟩ v) g cs := by
  refine ⟨by rw [World.size_setCell]; exact h.1, fun j => ?_, fun j => by rw [World.frozen?_setCell]; exact h.2.2 j⟩
  rw [World.cell?_setCell_other _ _ _ _ (fun x => hg (by injection x)), h.2.1 j]

theorem Box.drew {w : World} {g : Nat} {cs : Array Value} (h : Box w g cs) : Box w.drew g cs := h.below ((Below.refl _ _).drew)

theorem stepB {w X w2 : World} (hX : Below w.heap.size w X) (hb : Below X.heap.size X w2) : Below w.heap.size w w2 := hX.trans (hb.mono hX.size)

theorem below_drewN (B : Nat) (w : World) (n : Nat) : Below B w (w.drewN n) := ⟨rfl, rfl, rfl, Nat.le_refl _, fun _ _ => rfl⟩

set_option maxHeartbeats 400000 in
theorem gcd_any (a b : Int) (w : World) (ha : 0 ≤ a) (hb : 0 ≤ b) :
    Calls Tryd.prog 39 #[.int .i64 a, .int .i64 b] w fun e w' => e = .returned (.int .i64 (Int.gcd a b)) ∧ Below w.heap.size w w' := by
  go_enter Tryd.func39, Tryd.ntmps39
  go_wp2
  go_loopw [0, 1] (fun x y wr => ∃ p q : Nat, x = .int .i64 p ∧ y = .int .i64 q ∧ Hid (Nat.gcd p q = Int.gcd a b) ∧ Hid (Below w.heap.size w wr)) (fun _ y _ => (intOf y).toNat)
  case atStart =>
    obtain ⟨p, rfl⟩ := Int.eq_ofNat_of_zero_le ha
    obtain ⟨q, rfl⟩ := Int.eq_ofNat_of_zero_le hb
    exact ⟨p, q, rfl, rfl, rfl, Below.refl _ _⟩
  case round =>
    obtain ⟨p, q, rfl, rfl, hg, hbel⟩ := hrel
    by_cases hq : q = 0
    · subst hq
      go_wp2
      go_ret
      refine ⟨?_, hbel⟩
      have := hg.out
      simp at this
      rw [this]
      rfl
    · have hq1 : (1 : Int) ≤ q := by omega
      have hg' : Hid (Nat.gcd q (p % q) = Int.gcd a b) := by
        have := hg.out
        rw [Nat.gcd_comm, ← Nat.gcd_rec, Nat.gcd_comm]
        exact this
      clear hg
      go_wp2
      go_quiet (fail)
      go_wp2
      go_roundw
      case rel => exact ⟨q, p % q, rfl, by first | rfl | simp, hg', Below.trans hbel (below_drewN _ _ _)⟩
      case measure =>
        have := Nat.mod_lt p (Nat.pos_of_ne_zero hq)
        simp [intOf]; omega

/-- A ratio in lowest terms, as the program gives it. -/
def ratV (n d : Int) : Value := .agg #[.int .i64 (n / Int.gcd n d), .int .i64 (d / Int.gcd n d)]

theorem gcd_max_neg (n d : Int) : Int.gcd (max n (-n)) d = Int.gcd n d := by
  rcases Int.le_total 0 n with h | h
  · rw [Int.max_eq_left (by omega)]
  · rw [Int.max_eq_right (by omega), Int.neg_gcd]

theorem gcd_pos_of (n d : Int) (hd : 1 ≤ d) : 1 ≤ (Int.gcd n d : Int) := by
  have : 0 < Int.gcd n d := Int.gcd_pos_of_ne_zero_right _ (by omega)
  omega

theorem bcell {W w1 : World} (hb : Below W.heap.size W w1) : (∀ b o, b < W.heap.size → w1.cell? ⟨b, o, none⟩ = W.cell? ⟨b, o, none⟩) ∧ (∀ b o, b < W.heap.size → w1.frozen? ⟨b, o, none⟩ = W.frozen? ⟨b, o, none⟩) :=
  ⟨fun b o h => hb.cell (p := ⟨b, o, none⟩) h, fun b o h => hb.frozen (p := ⟨b, o, none⟩) h⟩

set_option maxHeartbeats 400000 in
theorem ratio_any (n d : Int) (w : World) (hn : -9223372036854775807 ≤ n) (hn2 : n ≤ 9223372036854775807) (hd : 1 ≤ d) (hd2 : d ≤ 9223372036854775807) :
    Calls Tryd.prog 23 #[.int .i64 n, .int .i64 d] w fun e w' => e = .returned (ratV n d) ∧ Below w.heap.size w w' := by
  have hg := gcd_pos_of n d hd
  have hgd : (Int.gcd n d : Int) ≤ d := Int.le_of_dvd (by omega) (Int.gcd_dvd_right n d)
  have hq1 : Hid (n.tdiv (Int.gcd n d) = n / Int.gcd n d) := Int.tdiv_eq_ediv_of_dvd (Int.gcd_dvd_left n d)
  have HG := Lib.hid (gcd_max_neg n d)
  have hcase : n < 0 ∨ 0 ≤ n := by omega
  rcases hcase with h | h
  · go_enter Tryd.func23, Tryd.ntmps23
    have h' : ¬ -n ≤ n := by omega
    go_wp2_with fail
    refine (gcd_any _ _ _ (by omega) (by omega)).mono ?_
    rintro e w1 ⟨rfl, hb1⟩
    rw [Int.neg_gcd]
    obtain ⟨hc, hf⟩ := bcell hb1
    have hB : Below w.heap.size w w1 := Below.trans (by go_grown) (hb1.mono (by simp))
    generalize hG : Int.gcd n d = g at *
    have HE := Lib.hid hG
    clear hG
    go_wp2
    go_region
    go_wp2
    refine bodyPost_ret (v := .agg #[.int .i64 (n.tdiv g), .int .i64 (d / g)]) (by simp [results, Tryd.results23, go_sem, hc]) rfl ?_
    exact ⟨by unfold ratV; rw [HE.out, ← hq1.out], by go_grown⟩
  · go_enter Tryd.func23, Tryd.ntmps23
    have h' : -n ≤ n := by omega
    go_wp2_with fail
    refine (gcd_any _ _ _ (by omega) (by omega)).mono ?_
    rintro e w1 ⟨rfl, hb1⟩
    obtain ⟨hc, hf⟩ := bcell hb1
    have hB : Below w.heap.size w w1 := Below.trans (by go_grown) (hb1.mono (by simp))
    generalize hG : Int.gcd n d = g at *
    have HE := Lib.hid hG
    clear hG
    go_wp2
    go_region
    go_wp2
    refine bodyPost_ret (v := .agg #[.int .i64 (n / g), .int .i64 (d / g)]) (by simp [results, Tryd.results23, go_sem, hc]) rfl ?_
    exact ⟨by unfold ratV; rw [HE.out], by go_grown⟩
end Go.Proofs.YtpojncoplaopcaaDoor

/- Contracts of package exact's tests and of handName: whether all numbers lie within two bounds, whether a span is valid, rounding up, the name of a hand. Over Int. -/
namespace Go.Proofs.YtpojncoplaopcaaDoor
open Go.RowKit

theorem ret_int {k : IntKind} {a b : Int} (h : a = b) : Ending.returned (.int k a) = .returned (.int k b) := by rw [h]
theorem ret_bool {a b : Bool} (h : a = b) : Ending.returned (.bool a) = .returned (.bool b) := by rw [h]

/-- Whether a number lies outside two bounds. -/
def outB (lo hi z : Int) : Bool := !decide (lo ≤ z ∧ z ≤ hi)

set_option maxHeartbeats 400000 in
theorem out_any (z lo hi : Int) (p q : Nat) (w : World) (h1 : w.cell? ⟨p, 0, none⟩ = some (.int .i64 lo)) (h2 : w.cell? ⟨q, 0, none⟩ = some (.int .i64 hi)) :
    Calls Tryd.prog 37 #[.int .i64 z, .pointer (some ⟨p, 0, none⟩), .pointer (some ⟨q, 0, none⟩)] w fun e w' => e = .returned (.bool (outB lo hi z)) ∧ w = w' := by
  by_cases a : z < lo
  · go_enter Tryd.func37, Tryd.ntmps37
    go_wp2
    go_returns
    exact ⟨ret_bool (by unfold outB; rw [decide_eq_false (by omega)]; rfl), rfl⟩
  · by_cases b : hi < z
    · go_enter Tryd.func37, Tryd.ntmps37
      go_wp2
      go_returns
      exact ⟨ret_bool (by unfold outB; rw [decide_eq_false (by omega)]; rfl), rfl⟩
    · go_enter Tryd.func37, Tryd.ntmps37
      go_wp2
      go_returns
      exact ⟨ret_bool (by unfold outB; rw [decide_eq_true (by omega)]; rfl), rfl⟩

theorem push_set {α : Type} (a : Array α) (o o' : α) : (a.push o).setIfInBounds a.size o' = a.push o' := by
  apply Array.ext_getElem?
  intro k
  simp only [Array.getElem?_setIfInBounds, Array.getElem?_push, Array.size_push]
  by_cases h : a.size = k
  · subst h; simp
  · rw [if_neg h, if_neg (fun e => h e.symm), if_neg (fun e => h e.symm)]

theorem alloc_set (w : World) (o o' : Obj) : ({ (w.alloc o) with heap := (w.alloc o).heap.setIfInBounds w.heap.size o' } : World) = w.alloc o' := by
  show ({ w with heap := (w.heap.push o).setIfInBounds w.heap.size o' } : World) = { w with heap := w.heap.push o' }
  rw [push_set]

/-- A store under a key that a new map has not, where the last block is that map. -/
theorem run_map_new {P : Program} {mty kt et : TypeId} {d : TypeDesc} {es : Array MapEntry} {clock : Nat} {key value : Value} (w : World) (hm : P.underlying mty = some (.map kt et)) (hd : P.underlying kt = some d) (hk : MapKept.IsKey d key)
    (h1 : Instr.findNow d key es.toList 0 = some none) :
    (Instr.mapUpdate mty (.map (some w.heap.size)) key value).run P (w.alloc (.map es clock)) = .ok () (w.alloc (.map (es.push { key, val := value, born := clock }) (clock + 1))) := by
  have hb := (MapKept.heap_alloc w (.map es clock)).1
  simp [Instr.mapUpdate, run_underlying hm, MapKept.run_getObj_map hb, MapKept.run_checkKey hd hk, MapKept.run_findKey hd h1, MapKept.run_setObj_map _ hb, Result.andThen]
  exact alloc_set _ _ _

/-- A look-up of a key that the map has. -/
theorem run_map_hit {P : Program} {mty kt et : TypeId} {d : TypeDesc} {es : Array MapEntry} {clock n i : Nat} {key value : Value} (w : World) (hm : P.underlying mty = some (.map kt et)) (hd : P.underlying kt = some d) (hk : MapKept.IsKey d key)
    (hb : w.heap[n]? = some (.map es clock)) (h1 : Instr.findNow d key es.toList 0 = some (some (i, value))) :
    (Instr.lookup mty (.map (some n)) key false).run P w = .ok value w := by
  simp [Instr.lookup, run_underlying hm, MapKept.run_getObj_map hb, MapKept.run_checkKey hd hk, MapKept.run_findKey hd h1, Result.andThen]

def handN (b : Bool) : Int := if b then 2 else 1

/-- n / d, rounded up. -/
def upTo (n d : Int) : Int := (n + d - 1) / d

theorem upTo_of_pos {n d : Int} (hd : 1 ≤ d) (h : 0 < n % d) : n / d + 1 = upTo n d := by
  have := Int.emod_lt_of_pos n (b := d) (by omega)
  have e := Int.mul_ediv_add_emod n d
  have h0 : (n % d - 1) / d = 0 := Int.ediv_eq_zero_of_lt (by omega) (by omega)
  unfold upTo
  rw [show n + d - 1 = (n % d - 1) + (n / d + 1) * d by rw [Int.add_mul, Int.mul_comm (n / d)]; omega, Int.add_mul_ediv_right _ _ (by omega), h0]
  omega

theorem upTo_of_zero {n d : Int} (hd : 1 ≤ d) (h : n % d = 0) : n / d = upTo n d := by
  have e := Int.mul_ediv_add_emod n d
  have h0 : (d - 1) / d = 0 := Int.ediv_eq_zero_of_lt (by omega) (by omega)
  unfold upTo
  rw [show n + d - 1 = (d - 1) + (n / d) * d by rw [Int.mul_comm (n / d)]; omega, Int.add_mul_ediv_right _ _ (by omega), h0]
  omega

def spanV (lo hi : Int) : Value := .agg #[.int .i64 lo, .int .i64 hi]
def vspan (lo hi a b : Int) : Bool := decide (a ≤ lo ∧ lo ≤ hi ∧ hi ≤ b)

end Go.Proofs.YtpojncoplaopcaaDoor

/- A call that is known: the name of a hand, a number that a bool decides. -/
namespace Go.Proofs.YtpojncoplaopcaaDoor.Cx
set_option linter.unusedSimpArgs false
set_option linter.unusedVariables false
open Go Go.RowKit

/-- A function of a bool that yields one of two integers, in every world. -/
structure Known2 (P : Program) (f : Nat) (x y : Int) : Prop where
  fn : ∃ fn, P.funcs[f]? = some fn ∧ fn.body.isSome = true
  run : ∀ b w, Calls P f #[.bool b] w fun e w' => e = .returned (.int .i64 (if b then x else y)) ∧ Below w.heap.size w w'

noncomputable def memo2 (h : Nat) (x y : Int) (m : Memo) : Memo := fun f args s =>
  match args with
  | [.bool e] => bif Nat.beq f h then (match s.decide e with | some (t, s') => some (.int .i64 (.c (bif t then x else y)), s', [], []) | none => none) else m f args s
  | _ => m f args s

theorem memo2_ok {P : Program} {ρ : Env} {h : Nat} {x y : Int} {m : Memo} (hh : Known2 P h x y) (hm : MemoOk P (ctxOf P m) ρ) : MemoOk P (ctxOf P (memo2 h x y m)) ρ := by
  have old : ∀ f args s c s' R W, m f args s = some (c, s', R, W) → CallOk P (ctxOf P (memo2 h x y m)) ρ f args s c s' R W := fun f args s c s' R W h0 => by
    have k := hm f args s c s' R W h0
    exact ⟨k.fn, k.frm, k.lt, k.run⟩
  intro f args s c s' R W hq
  have hq' : memo2 h x y m f args s = some (c, s', R, W) := hq
  unfold memo2 at hq'
  split at hq'
  · rename_i e
    cases hf : Nat.beq f h with
    | false => rw [hf, cond_false] at hq'; exact old _ _ _ _ _ _ _ hq'
    | true =>
      rw [hf, cond_true] at hq'
      obtain rfl : f = h := Nat.eq_of_beq_eq_true hf
      split at hq'
      · rename_i t s1 hd
        cases hq'
        obtain ⟨h1, h2, h3, h4⟩ := decide_parts (ρ := ρ) hd
        refine ⟨hh.fn, Frm.same _ h1 h2 h3, ⟨fun b hb => by simp at hb, fun b hb => by simp at hb⟩, ?_⟩
        intro n σ cur w args' hp hargs hH hA hN
        have ht := h4 hp
        obtain ⟨v, e0, hv⟩ : ∃ v, args' = #[v] ∧ VR ρ σ (.bool e) v := by
          obtain ⟨l⟩ := args'
          cases hargs with
          | cons hv hr => cases hr; exact ⟨_, rfl, hv⟩
        subst e0
        obtain rfl := hv.bool_inv
        rw [ht]
        have := (callsIn_wide (n := n)).2 (hh.run t w)
        refine CallsIn.mono (F := fc none) this ?_
        rintro e w' ⟨rfl, hB⟩
        refine ⟨_, rfl, σ, (by rw [h1]; exact Ext.refl _ _ _), (by cases t; exact .int .i64 (.c y); exact .int .i64 (.c x)), ?_, .below hB, (by rw [h1]; exact Fresh.none _ _ _ _ _ _)⟩
        rw [h1, upd_none]
        exact hH.below hB
      · cases hq'
  · exact old _ _ _ _ _ _ _ hq'

end Go.Proofs.YtpojncoplaopcaaDoor.Cx

/- A call that is known: a ratio in lowest terms. -/
namespace Go.Proofs.YtpojncoplaopcaaDoor.Cx
set_option linter.unusedSimpArgs false
set_option linter.unusedVariables false
open Go Go.RowKit

/-- A function of two integers that yields their ratio in lowest terms, where the second is above 0. -/
structure KnownR (P : Program) (f : Nat) : Prop where
  fn : ∃ fn, P.funcs[f]? = some fn ∧ fn.body.isSome = true
  run : ∀ n d w, -9223372036854775807 ≤ n → n ≤ 9223372036854775807 → 1 ≤ d → d ≤ 9223372036854775807 → Calls P f #[.int .i64 n, .int .i64 d] w fun e w' => e = .returned (.agg #[.int .i64 (n / Int.gcd n d), .int .i64 (d / Int.gcd n d)]) ∧ Below w.heap.size w w'

/-- All of these tests hold. -/
noncomputable def askAll (s : St) : List BE → Option St
  | [] => some s
  | b :: l => match s.decide b with | some (true, s) => askAll s l | _ => none

theorem askAll_parts {ρ : Env} : ∀ {l : List BE} {s s' : St}, askAll s l = some s' → s'.next = s.next ∧ s'.heap = s.heap ∧ (∃ m, s'.pc = m ++ s.pc) ∧ ((∀ p ∈ s'.pc, p.holds ρ) → ∀ b ∈ l, b.den ρ = true)
  | [], s, s', h => by cases h; exact ⟨rfl, rfl, ⟨[], rfl⟩, fun _ b hb => by cases hb⟩
  | b :: l, s, s', h => by
    unfold askAll at h
    split at h
    · rename_i s1 hd
      obtain ⟨h1, h2, ⟨m, h3⟩, h4⟩ := decide_parts (ρ := ρ) hd
      obtain ⟨g1, g2, ⟨m', g3⟩, g4⟩ := askAll_parts (ρ := ρ) h
      refine ⟨g1.trans h1, g2.trans h2, ⟨m' ++ m, by rw [g3, h3, List.append_assoc]⟩, fun hp x hx => ?_⟩
      rcases List.mem_cons.1 hx with rfl | hx
      · exact h4 fun p hp' => hp p (by rw [g3]; simp [hp'])
      · exact g4 hp x hx
    · cases h

def ratC (n d : IE) : CV := .agg [.int .i64 (.mk .quo .i64 n (.mk .gcd .i64 n d)), .int .i64 (.mk .quo .i64 d (.mk .gcd .i64 n d))]

noncomputable def memoR (r : Nat) (m : Memo) : Memo := fun f args s =>
  match args with
  | [.int .i64 n, .int .i64 d] => bif Nat.beq f r then
      (match askAll s [.mk .leq (.c (-9223372036854775807)) n, .mk .leq n (.c 9223372036854775807), .mk .leq (.c 1) d, .mk .leq d (.c 9223372036854775807)] with | some s' => some (ratC n d, s', [], []) | none => none)
    else m f args s
  | _ => m f args s

theorem quo_gcd {n d : Int} (x : Int) (hx : (Int.gcd n d : Int) ∣ x) (h1 : -9223372036854775807 ≤ x) (h2 : x ≤ 9223372036854775807) (hd : 1 ≤ d) : IntKind.i64.wrap (x.tdiv (Int.gcd n d)) = x / Int.gcd n d := by
  have hg : 0 < Int.gcd n d := Int.gcd_pos_of_ne_zero_right n (by omega)
  have e : x.tdiv (Int.gcd n d) = x / (Int.gcd n d : Int) := by
    obtain ⟨k, rfl⟩ := hx
    rw [Int.mul_tdiv_cancel_left _ (by omega), Int.mul_ediv_cancel_left _ (by omega)]
  rw [e]
  obtain ⟨k, hk⟩ := hx
  have e2 : x / (Int.gcd n d : Int) = k := by rw [hk, Int.mul_ediv_cancel_left _ (by omega)]
  rw [e2]
  have hg' : 1 ≤ (Int.gcd n d : Int) := by omega
  generalize (Int.gcd n d : Int) = g at *
  apply wrap_id
  · rcases Int.le_total 0 k with q | q
    · omega
    · have := Int.mul_le_mul_of_nonpos_right hg' q
      rw [Int.one_mul, ← hk] at this
      omega
  · rcases Int.le_total 0 k with q | q
    · have := Int.mul_le_mul_of_nonneg_right hg' q
      rw [Int.one_mul, ← hk] at this
      omega
    · omega

theorem memoR_ok {P : Program} {ρ : Env} {r : Nat} {m : Memo} (hh : KnownR P r) (hm : MemoOk P (ctxOf P m) ρ) : MemoOk P (ctxOf P (memoR r m)) ρ := by
  have old : ∀ f args s c s' R W, m f args s = some (c, s', R, W) → CallOk P (ctxOf P (memoR r m)) ρ f args s c s' R W := fun f args s c s' R W h0 => by
    have k := hm f args s c s' R W h0
    exact ⟨k.fn, k.frm, k.lt, k.run⟩
  intro f args s c s' R W hq
  have hq' : memoR r m f args s = some (c, s', R, W) := hq
  unfold memoR at hq'
  split at hq'
  · rename_i n d
    cases hf : Nat.beq f r with
    | false => rw [hf, cond_false] at hq'; exact old _ _ _ _ _ _ _ hq'
    | true =>
      rw [hf, cond_true] at hq'
      obtain rfl : f = r := Nat.eq_of_beq_eq_true hf
      split at hq'
      · rename_i s1 hd
        cases hq'
        obtain ⟨h1, h2, h3, h4⟩ := askAll_parts (ρ := ρ) hd
        refine ⟨hh.fn, Frm.same _ h1 h2 h3, ⟨fun b hb => by simp at hb, fun b hb => by simp at hb⟩, ?_⟩
        intro k σ cur w args' hp hargs hH hA hN
        have ht := h4 hp
        obtain ⟨u, v, e0, hu, hv⟩ : ∃ u v, args' = #[u, v] ∧ VR ρ σ (.int .i64 n) u ∧ VR ρ σ (.int .i64 d) v := by
          obtain ⟨l⟩ := args'
          cases hargs with
          | cons hu hr => cases hr with
            | cons hv hr => cases hr; exact ⟨_, _, rfl, hu, hv⟩
        subst e0
        obtain rfl := hu.int_inv
        obtain rfl := hv.int_inv
        have t1 := ht _ (List.mem_cons_self ..)
        have t2 := ht _ (List.mem_cons_of_mem _ (List.mem_cons_self ..))
        have t3 := ht _ (List.mem_cons_of_mem _ (List.mem_cons_of_mem _ (List.mem_cons_self ..)))
        have t4 := ht _ (List.mem_cons_of_mem _ (List.mem_cons_of_mem _ (List.mem_cons_of_mem _ (List.mem_cons_self ..))))
        rw [BE.den_mk] at t1 t2 t3 t4
        have t1 : -9223372036854775807 ≤ n.den ρ := of_decide_eq_true t1
        have t2 : n.den ρ ≤ 9223372036854775807 := of_decide_eq_true t2
        have t3 : 1 ≤ d.den ρ := of_decide_eq_true t3
        have t4 : d.den ρ ≤ 9223372036854775807 := of_decide_eq_true t4
        have hrun := (callsIn_wide (n := k)).2 (hh.run (n.den ρ) (d.den ρ) w t1 t2 t3 t4)
        refine CallsIn.mono (F := fc none) hrun ?_
        rintro e w' ⟨rfl, hB⟩
        refine ⟨_, rfl, σ, (by rw [h1]; exact Ext.refl _ _ _), ?_, ?_, .below hB, (by rw [h1]; exact Fresh.none _ _ _ _ _ _)⟩
        · have q1 := VR.int (ρ := ρ) (σ := σ) .i64 (.mk .quo .i64 n (.mk .gcd .i64 n d))
          have q2 := VR.int (ρ := ρ) (σ := σ) .i64 (.mk .quo .i64 d (.mk .gcd .i64 n d))
          rw [IE.den_mk, IE.den_mk] at q1 q2
          simp only [Ar.run] at q1 q2
          rw [quo_gcd _ (Int.gcd_dvd_left ..) t1 t2 t3] at q1
          rw [quo_gcd _ (Int.gcd_dvd_right ..) (by omega) t4 t3] at q2
          exact .agg (.cons q1 (.cons q2 .nil))
        · rw [h1, upd_none]
          exact hH.below hB
      · cases hq'
  · exact old _ _ _ _ _ _ _ hq'

theorem ratio_known : KnownR Tryd.prog 23 :=
  ⟨⟨_, Tryd.func23, rfl⟩, fun n d w h1 h2 h3 h4 => ratio_any n d w h1 h2 h3 h4⟩

end Go.Proofs.YtpojncoplaopcaaDoor.Cx

/- acme/exact.Ratio as a known call with one result: a synthetic automaton over its contract. -/
namespace Go.Proofs.YtpojncoplaopcaaDoor.Cx
set_option linter.unusedVariables false
set_option linter.unusedSimpArgs false
set_option maxRecDepth 100000
open Go Go.Proofs Go.RowKit

abbrev lrtN := Empty
abbrev lrtR := Int × Int

def lrtOk (a0 a1 : Int) : Bool := decide ((-9223372036854775807 ≤ a0 ∧ a0 ≤ 9223372036854775807) ∧ 1 ≤ a1 ∧ a1 ≤ 9223372036854775807)
noncomputable def lrtD0 (a0 a1 : Int) : DD (Lf lrtN lrtR) := .must (lrtOk a0 a1) (.leaf (.done (a0 / (Int.gcd a0 a1 : Int), a1 / (Int.gcd a0 a1 : Int)) []))

noncomputable def lrtA (a0 : Int) (a1 : Int) : AF lrtN lrtR where
  code := .ret
  base := 0
  nt := 0
  m := 0
  un := []
  W := []
  h0 := []
  args := [.int .i64 (.x a0), .int .i64 (.x a1)]
  res := []
  path := fun a => a.elim
  pd := fun a => a.elim
  D0 := lrtD0 a0 a1
  D := fun a => a.elim
  rc := (fun v => .agg [.int .i64 (.x (Prod.fst v)), .int .i64 (.x (Prod.snd v))])
  rh := (fun v => [])
  rn := (fun v => 0)
  rx := (fun v => [])
  rgo := (fun _ => none)

theorem lrt_val {a0 a1 : Int} (h : (-9223372036854775807 ≤ a0 ∧ a0 ≤ 9223372036854775807) ∧ 1 ≤ a1 ∧ a1 ≤ 9223372036854775807) : AF.fin (lrtA a0 a1) = true ∧ AF.val (lrtA a0 a1) = (a0 / (Int.gcd a0 a1 : Int), a1 / (Int.gcd a0 a1 : Int)) := by
  have hD : (lrtA a0 a1).D0.eval = some (.done (a0 / (Int.gcd a0 a1 : Int), a1 / (Int.gcd a0 a1 : Int)) []) := by
    show (lrtD0 a0 a1).eval = _
    unfold lrtD0
    rw [show lrtOk a0 a1 = true from decide_eq_true h]
    rfl
  have hr : (lrtA a0 a1).run 0 = some (a0 / (Int.gcd a0 a1 : Int), a1 / (Int.gcd a0 a1 : Int)) := by
    simp only [AF.run, hD]
  exact AF.val_of (AF.mono_none fun _ => rfl) hr

abbrev lrtP : List AP := [.int .i64, .int .i64]
noncomputable def lrtF (v : AV) : AF lrtN lrtR := lrtA (v.i.getD 0 0) (v.i.getD 1 0)

theorem lrt_ctr {ρ : Env} (a0 a1 : Int) {n : Nat} {r : lrtR} (h : (lrtA a0 a1).run n = some r) : Ctr Tryd.prog ρ 23 (lrtA a0 a1).args .nil 0 [] ((lrtA a0 a1).rc r) .nil 0 := by
  have hD : (lrtA a0 a1).D0 = lrtD0 a0 a1 := rfl
  cases hk : lrtOk a0 a1 with
  | false => simp [AF.run, hD, lrtD0, hk, DD.eval] at h
  | true =>
    simp [AF.run, hD, lrtD0, hk, DD.eval] at h
    subst h
    obtain ⟨⟨q1, q2⟩, q3, q4⟩ := of_decide_eq_true hk
    refine ⟨ratio_known.fn, ?_⟩
    intro m σ w args' hargs hH hN
    obtain ⟨u, v, e0, hu, hv⟩ : ∃ u v, args' = #[u, v] ∧ VR ρ σ (.int .i64 (.x a0)) u ∧ VR ρ σ (.int .i64 (.x a1)) v := by
      obtain ⟨l⟩ := args'
      cases hargs with
      | cons hu hr => cases hr with
        | cons hv hr => cases hr; exact ⟨_, _, rfl, hu, hv⟩
    subst e0
    obtain rfl := hu.int_inv
    obtain rfl := hv.int_inv
    have hrun := (callsIn_wide (n := m)).2 (ratio_known.run a0 a1 w q1 q2 q3 q4)
    refine CallsIn.mono (F := fc none) hrun ?_
    rintro e w' ⟨rfl, hB⟩
    refine ⟨_, rfl, σ, Ext.refl _ _ _, .agg (.cons (.int .i64 (.x _)) (.cons (.int .i64 (.x _)) .nil)), ?_, .below hB, Fresh.none _ _ _ _ _ _⟩
    show HR ρ σ (upd (curOf .nil 0) 0 0 .nil []) w'
    rw [upd_none]
    exact hH.below hB

theorem lrtknown {ρ : Env} : KnownA Tryd.prog ρ 23 lrtP lrtF where
  fn := ratio_known.fn
  args := fun v => rfl
  plain := fun v r => rfl
  ctr := fun v n r h => lrt_ctr _ _ h
end Go.Proofs.YtpojncoplaopcaaDoor.Cx

/- acme/lot.Chance as an automaton. Made by tools/cxauto.py. -/
namespace Go.Proofs.YtpojncoplaopcaaDoor.Cx
set_option linter.unusedVariables false
set_option linter.unusedSimpArgs false
set_option maxRecDepth 100000
open Go Go.Proofs Go.RowKit

noncomputable abbrev lcaCode : Code := funcCode Tryd.f6


abbrev lcaN := Empty

abbrev lcaR := Int × Int × Int

noncomputable def lcaD0 (a0 : Int) (a1 : Int) (a2 : Int) (a3 : Int) : DD (Lf lcaN lcaR) :=
 .ask (Cm.run Cm.lss a0 1)
   (.leaf (.done (0, 0, 3) []))
   (.ask (Cm.run Cm.gtr a0 50)
   (.leaf (.done (0, 0, 3) []))
   (.ask (Cm.run Cm.lss a1 0)
   (.leaf (.done (0, 0, 3) []))
   (.ask (Cm.run Cm.gtr a1 a0)
   (.leaf (.done (0, 0, 3) []))
   (.ask (Cm.run Cm.lss a2 0)
   (.leaf (.done (0, 0, 2) []))
   (.ask (Cm.run Cm.gtr a2 a0)
   (.leaf (.done (0, 0, 2) []))
   (.ask (Cm.run Cm.lss a3 0)
   (.leaf (.done (0, 0, 2) []))
   (.ask (Cm.run Cm.gtr a3 a2)
   (.leaf (.done (0, 0, 2) []))
   (.must (AF.fin (lcnA a0 a1 a2 a3))
   (.must (AF.fin (lrtA (Prod.fst (AF.val (lcnA a0 a1 a2 a3))) (Prod.snd (AF.val (lcnA a0 a1 a2 a3)))))
   (.leaf (.done (Prod.fst (AF.val (lrtA (Prod.fst (AF.val (lcnA a0 a1 a2 a3))) (Prod.snd (AF.val (lcnA a0 a1 a2 a3))))), Prod.snd (AF.val (lrtA (Prod.fst (AF.val (lcnA a0 a1 a2 a3))) (Prod.snd (AF.val (lcnA a0 a1 a2 a3))))), 0) [])))))))))))

noncomputable def lcaD (a0 : Int) (a1 : Int) (a2 : Int) (a3 : Int) : lcaN → DD (Lf lcaN lcaR) := fun a => nomatch a

noncomputable def lcaA (a0 : Int) (a1 : Int) (a2 : Int) (a3 : Int) : AF lcaN lcaR where
  code := lcaCode
  base := 0
  nt := 31
  m := 400
  un := []
  W := []
  h0 := []
  args := [.int .i64 (.x a0), .int .i64 (.x a1), .agg [.int .i64 (.x a2), .int .i64 (.x a3)]]
  res := (Tryd.f6).results.toList
  path := fun a => nomatch a
  pd := fun a => nomatch a
  D0 := lcaD0 a0 a1 a2 a3
  D := lcaD a0 a1 a2 a3
  rc := (fun v => .tup [.agg [.int .i64 (.x v.1), .int .i64 (.x v.2.1)], .int .i64 (.x v.2.2)])
  rh := (fun v => [])
  rn := (fun v => 0)
  rx := (fun v => [])
  rgo := (fun _ => none)


theorem lcastart (a0 : Int) (a1 : Int) (a2 : Int) (a3 : Int) : AF.edgeOk (lcaA a0 a1 a2 a3) (ctxOf Tryd.prog memo0) (lcaD0 a0 a1 a2 a3) (AF.run0 (lcaA a0 a1 a2 a3) (ctxOf Tryd.prog (memoA 23 lrtP lrtF (memoA 24 lcnP lcnF memo0)))) := by unfold AF.edgeOk; kernel_rfl

theorem lcaok (a0 : Int) (a1 : Int) (a2 : Int) (a3 : Int) : (lcaA a0 a1 a2 a3).Ok Tryd.prog (ctxOf Tryd.prog (memoA 23 lrtP lrtF (memoA 24 lcnP lcnF memo0))) where
  regs := by kernel_rfl
  h0 := by kernel_rfl
  start := lcastart a0 a1 a2 a3
  node := fun a _ => nomatch a
  pd := fun a => nomatch a
  le := fun a => nomatch a
  rd := fun v => ⟨⟨fa_nil, fa_nil, fa_nil, rfl⟩, rfl⟩
  wb := rfl


theorem lcahR {ρ : Env} (a0 : Int) (a1 : Int) (a2 : Int) (a3 : Int) (hM : MemoOk Tryd.prog (ctxOf Tryd.prog (memoA 23 lrtP lrtF (memoA 24 lcnP lcnF memo0))) ρ) : ∀ X a q n D, FxOk ρ X → X.base = (lcaA a0 a1 a2 a3).base → X.nt = (lcaA a0 a1 a2 a3).nt → X.W = (lcaA a0 a1 a2 a3).W → (lcaA a0 a1 a2 a3).rgo a = some q → q n = some D → (lcaA a0 a1 a2 a3).RangeOk Tryd.prog ρ X a D := AF.noRange rfl

theorem lcactr {ρ : Env} (a0 : Int) (a1 : Int) (a2 : Int) (a3 : Int) {n : Nat} {v : lcaR} (hM : MemoOk Tryd.prog (ctxOf Tryd.prog (memoA 23 lrtP lrtF (memoA 24 lcnP lcnF memo0))) ρ) (hv : (lcaA a0 a1 a2 a3).run n = some v) :
    Ctr Tryd.prog ρ 6 (lcaA a0 a1 a2 a3).args (lcaA a0 a1 a2 a3).H0 (lcaA a0 a1 a2 a3).base (lcaA a0 a1 a2 a3).W ((lcaA a0 a1 a2 a3).rc v) (putH (lcaA a0 a1 a2 a3).H0 ((lcaA a0 a1 a2 a3).rh v ++ (lcaA a0 a1 a2 a3).rx v)) ((lcaA a0 a1 a2 a3).rn v) :=
  AF.ctr try_ok hM (lcaok a0 a1 a2 a3) (fn := Tryd.f6) Tryd.func6 rfl rfl (Nat.le_of_ble_eq_true rfl) rfl (lcahR a0 a1 a2 a3 hM) hv


theorem lcamem {ρ : Env} : MemoOk Tryd.prog (ctxOf Tryd.prog (memoA 23 lrtP lrtF (memoA 24 lcnP lcnF memo0))) ρ := (memoA_ok lrtknown (memoA_ok (lcnknown lcnmem) memo0_ok))


abbrev lcaP : List AP := [.int .i64, .int .i64, .agg [.int .i64, .int .i64]]
noncomputable def lcaF (v : AV) : AF lcaN lcaR := lcaA (v.i.getD 0 0) (v.i.getD 1 0) (v.i.getD 2 0) (v.i.getD 3 0)
theorem lcaknown {ρ : Env} (hM : MemoOk Tryd.prog (ctxOf Tryd.prog (memoA 23 lrtP lrtF (memoA 24 lcnP lcnF memo0))) ρ) : KnownA Tryd.prog ρ 6 lcaP lcaF where
  fn := ⟨Tryd.f6, Tryd.func6, rfl⟩
  args := fun v => rfl
  plain := fun v r => rfl
  ctr := fun v n r h => lcactr (v.i.getD 0 0) (v.i.getD 1 0) (v.i.getD 2 0) (v.i.getD 3 0) hM h

end Go.Proofs.YtpojncoplaopcaaDoor.Cx

/- lot.Chance at valid lots and plans: the share of samples that pass, in lowest terms. -/
namespace Go.Proofs.YtpojncoplaopcaaDoor.Cx
set_option linter.unusedVariables false
set_option linter.unusedSimpArgs false
open Go Go.RowKit

/-- A fraction in lowest terms. -/
def lowN (x y : Nat) : Int := (x : Int) / (Int.gcd x y : Int)
def lowD (x y : Nat) : Int := (y : Int) / (Int.gcd x y : Int)

/-- What is known of it. -/
structure Low (x y : Nat) (p q : Int) : Prop where
  p0 : 0 ≤ p
  pq : p ≤ q
  q1 : 1 ≤ q
  qy : q ≤ y
  cross : p * y = q * x
  one : p = 1 ∧ q = 1 ↔ x = y
  nil : p = 0 ∧ q = 1 ↔ x = 0

theorem low_ok {x y : Nat} (hxy : x ≤ y) (hy : 1 ≤ y) : Low x y (lowN x y) (lowD x y) := by
  unfold lowN lowD
  rw [Int.gcd_natCast_natCast]
  have hg : 0 < Nat.gcd x y := Nat.gcd_pos_of_pos_right x (by omega)
  obtain ⟨p, hp⟩ := Nat.gcd_dvd_left x y
  obtain ⟨q, hq⟩ := Nat.gcd_dvd_right x y
  have ep : (x : Int) / (Nat.gcd x y : Int) = (p : Int) := by
    rw [show (x : Int) = (Nat.gcd x y : Int) * (p : Int) by rw [← Int.natCast_mul, ← hp]]
    exact Int.mul_ediv_cancel_left _ (by omega)
  have eq : (y : Int) / (Nat.gcd x y : Int) = (q : Int) := by
    rw [show (y : Int) = (Nat.gcd x y : Int) * (q : Int) by rw [← Int.natCast_mul, ← hq]]
    exact Int.mul_ediv_cancel_left _ (by omega)
  rw [ep, eq]
  have hx0 : x = 0 → Nat.gcd x y = y := fun h => by rw [h, Nat.gcd_zero_left]
  have hxe : x = y → Nat.gcd x y = y := fun h => by rw [h, Nat.gcd_self]
  generalize Nat.gcd x y = g at *
  have hq1 : 1 ≤ q := by
    rcases Nat.eq_zero_or_pos q with h | h
    · rw [h, Nat.mul_zero] at hq; omega
    · exact h
  have hpq : p ≤ q := by
    apply Classical.byContradiction
    intro h
    have := Nat.mul_le_mul_left g (show q + 1 ≤ p by omega)
    rw [Nat.mul_add] at this
    omega
  refine ⟨by omega, by omega, by omega, ?_, ?_, ⟨fun h => ?_, fun h => ?_⟩, ⟨fun h => ?_, fun h => ?_⟩⟩
  · have := Nat.mul_le_mul_right q (show 1 ≤ g by omega)
    omega
  · rw [hp, hq, Int.natCast_mul, Int.natCast_mul, ← Int.mul_assoc, ← Int.mul_assoc, Int.mul_right_comm, Int.mul_right_comm (q : Int), Int.mul_comm (p : Int) (q : Int)]
  · have h1 : p = 1 := by omega
    have h2 : q = 1 := by omega
    rw [hp, hq, h1, h2]
  · have e := hxe h
    have h3 : q = 1 := by
      have : y * q = y * 1 := by rw [e] at hq; omega
      exact Nat.eq_of_mul_eq_mul_left (by omega) this
    have h4 : p = 1 := by
      have : y * p = y * 1 := by rw [e] at hp; omega
      exact Nat.eq_of_mul_eq_mul_left (by omega) this
    omega
  · have h1 : p = 0 := by omega
    rw [hp, h1, Nat.mul_zero]
  · have e := hx0 h
    have h3 : q = 1 := by
      have : y * q = y * 1 := by rw [e] at hq; omega
      exact Nat.eq_of_mul_eq_mul_left (by omega) this
    have h4 : p = 0 := by
      rcases Nat.eq_zero_or_pos p with h' | h'
      · exact h'
      · have := Nat.mul_pos hg h'
        omega
    omega

/-- Fractions with one denominator are as their numerators. -/
theorem Low.le {x x' y : Nat} {p q p' q' : Int} (h : Low x y p q) (h' : Low x' y p' q') (hy : 1 ≤ y) (hx : x ≤ x') : p * q' ≤ p' * q := by
  have c := h.cross
  have c' := h'.cross
  -- p y = q x, p' y = q' x'
  have e1 : p * q' * y = q * q' * x := by rw [Int.mul_right_comm, c, Int.mul_right_comm]
  have e2 : p' * q * y = q * q' * x' := by rw [Int.mul_right_comm, c', Int.mul_comm q q', Int.mul_right_comm]
  have hq : 0 ≤ q * q' := Int.mul_nonneg (by have := h.q1; omega) (by have := h'.q1; omega)
  have m := Int.mul_le_mul_of_nonneg_left (show (x : Int) ≤ x' by omega) hq
  apply Classical.byContradiction
  intro hn
  have := Int.mul_lt_mul_of_pos_right (show p' * q < p * q' by omega) (show (0 : Int) < y by omega)
  rw [e1, e2] at this
  omega

theorem lca_ok {b m n A : Nat} (h1 : 1 ≤ b + m) (hN : b + m ≤ 50) (hn : n ≤ b + m) (hA : A ≤ n) :
    AF.fin (lcaA ((b + m : Nat) : Int) b n A) = true ∧ AF.val (lcaA ((b + m : Nat) : Int) b n A) = (lowN (psum b m n (A + 1)) (bin (b + m) n), lowD (psum b m n (A + 1)) (bin (b + m) n), 0) :=
  AF.val_sat (Inv := fun _ => False) (E := fun (v : lcaR) => v = (lowN (psum b m n (A + 1)) (bin (b + m) n), lowD (psum b m n (A + 1)) (bin (b + m) n), 0)) (fun _ => 0) (fun _ => rfl) (fun a => nomatch a) (by
    obtain ⟨f1, v1⟩ := lcn_ok hN hn hA
    have pl := psum_le b m n (A + 1)
    have bl := bin_le (k := n) hN
    have bp := bin_pos _ _ hn
    obtain ⟨f2, v2⟩ := lrt_val (a0 := (psum b m n (A + 1) : Int)) (a1 := (bin (b + m) n : Int)) ⟨⟨by omega, by omega⟩, by omega, by omega⟩
    show DD.sat _ _ (lcaD0 _ _ _ _)
    unfold lcaD0
    rw [v1]
    refine ⟨fun h => absurd (cmLss.1 h) (by omega), fun _ => ⟨fun h => absurd (cmGtr.1 h) (by omega), fun _ => ⟨fun h => absurd (cmLss.1 h) (by omega), fun _ => ⟨fun h => absurd (cmGtr.1 h) (by omega), fun _ => ⟨fun h => absurd (cmLss.1 h) (by omega), fun _ => ⟨fun h => absurd (cmGtr.1 h) (by omega), fun _ => ⟨fun h => absurd (cmLss.1 h) (by omega), fun _ => ⟨fun h => absurd (cmGtr.1 h) (by omega), fun _ => ⟨f1, f2, ?_⟩⟩⟩⟩⟩⟩⟩⟩⟩
    show ((AF.val (lrtA _ _)).1, (AF.val (lrtA _ _)).2, (0 : Int)) = _
    rw [v2]
    rfl)
end Go.Proofs.YtpojncoplaopcaaDoor.Cx

/- acme/lot.Plan as an automaton. Made by tools/cxauto.py. -/
namespace Go.Proofs.YtpojncoplaopcaaDoor.Cx
set_option linter.unusedVariables false
set_option linter.unusedSimpArgs false
set_option maxRecDepth 100000
open Go Go.Proofs Go.RowKit

noncomputable abbrev lplCode : Code := funcCode Tryd.f7


inductive lplN where
  | n0 (p0 : Int)
  | n1 (p0 : Int) (p1 : Int) (p2 : Int) (p3 : Int)

abbrev lplR := Int × Int × Int

noncomputable def lplD0 (a0 : Int) (a1 : Int) (a2 : Int) (a3 : Int) (a4 : Int) (a5 : Int) (a6 : Int) : DD (Lf lplN lplR) :=
 .ask (Cm.run Cm.lss a0 1)
   (.leaf (.done (0, 0, 3) []))
   (.ask (Cm.run Cm.gtr a0 50)
   (.leaf (.done (0, 0, 3) []))
   (.ask (Cm.run Cm.lss a1 0)
   (.leaf (.done (0, 0, 3) []))
   (.ask (Cm.run Cm.gtr a1 a0)
   (.leaf (.done (0, 0, 3) []))
   (.ask (Cm.run Cm.lss a2 0)
   (.leaf (.done (0, 0, 3) []))
   (.ask (Cm.run Cm.gtr a2 a0)
   (.leaf (.done (0, 0, 3) []))
   (.ask (Cm.run Cm.geq a1 a2)
   (.leaf (.done (0, 0, 3) []))
   (.ask (Cm.run Cm.lss a4 1)
   (.leaf (.done (0, 0, 2) []))
   (.ask (Cm.run Cm.gtr a4 10000)
   (.leaf (.done (0, 0, 2) []))
   (.ask (Cm.run Cm.lss a3 0)
   (.leaf (.done (0, 0, 2) []))
   (.ask (Cm.run Cm.gtr a3 a4)
   (.leaf (.done (0, 0, 2) []))
   (.ask (Cm.run Cm.lss a6 1)
   (.leaf (.done (0, 0, 2) []))
   (.ask (Cm.run Cm.gtr a6 10000)
   (.leaf (.done (0, 0, 2) []))
   (.ask (Cm.run Cm.lss a5 0)
   (.leaf (.done (0, 0, 2) []))
   (.ask (Cm.run Cm.gtr a5 a6)
   (.leaf (.done (0, 0, 2) []))
   (.leaf (.next (.n0 0) [0, 1, 5, 2, 3, 4, 9]))))))))))))))))

noncomputable def lplD (a0 : Int) (a1 : Int) (a2 : Int) (a3 : Int) (a4 : Int) (a5 : Int) (a6 : Int) : lplN → DD (Lf lplN lplR)
 | .n0 p0 =>
 .ask (Cm.run Cm.lss p0 (Ar.run Ar.add IntKind.i64 a0 1))
   (.leaf (.next (.n1 p0 p0 (Ar.run Ar.add IntKind.i64 p0 1) 0) [0, 1, 2, 3, 4, 5, 6]))
   (.leaf (.done (a0, a1, 0) []))
 | .n1 p0 p1 p2 p3 =>
 .ask (Cm.run Cm.lss p3 p2)
   (.must (AF.fin (lcnA a0 a1 p0 p3))
   (.must (AF.fin (lcnA a0 a2 p0 p3))
   (.ask (Cm.run Cm.leq (Ar.run Ar.mul IntKind.i64 (Ar.run Ar.sub IntKind.i64 (Prod.snd (AF.val (lcnA a0 a1 p0 p3))) (Prod.fst (AF.val (lcnA a0 a1 p0 p3)))) a4) (Ar.run Ar.mul IntKind.i64 a3 (Prod.snd (AF.val (lcnA a0 a1 p0 p3)))))
   (.ask (Cm.run Cm.leq (Ar.run Ar.mul IntKind.i64 (Prod.fst (AF.val (lcnA a0 a2 p0 p3))) a6) (Ar.run Ar.mul IntKind.i64 a5 (Prod.snd (AF.val (lcnA a0 a1 p0 p3)))))
   (.leaf (.done (p0, p3, 0) []))
   (.leaf (.next (.n1 p0 p1 p2 (Ar.run Ar.add IntKind.i64 p3 1)) [0, 1, 2, 3, 4, 5, 6])))
   (.leaf (.next (.n1 p0 p1 p2 (Ar.run Ar.add IntKind.i64 p3 1)) [0, 1, 2, 3, 4, 5, 6])))))
   (.leaf (.next (.n0 (Ar.run Ar.add IntKind.i64 p1 1)) [0, 1, 2, 3, 4, 5, 6]))

noncomputable def lplA (a0 : Int) (a1 : Int) (a2 : Int) (a3 : Int) (a4 : Int) (a5 : Int) (a6 : Int) : AF lplN lplR where
  code := lplCode
  base := 0
  nt := 62
  m := 400
  un := []
  W := []
  h0 := []
  args := [.int .i64 (.x a0), .int .i64 (.x a1), .int .i64 (.x a2), .agg [.int .i64 (.x a3), .int .i64 (.x a4)], .agg [.int .i64 (.x a5), .int .i64 (.x a6)]]
  res := (Tryd.f7).results.toList
  path := fun a => match a with
   | .n0 p0 => [1, 1, 1, 1, 0, 1, 0]
   | .n1 p0 p1 p2 p3 => [1, 1, 1, 1, 0, 1, 0, 0, 1, 1, 0, 0, 1, 1, 0]
  pd := fun a => match a with
   | .n0 p0 => ⟨[(5, .ptr (some (0, 0))), (6, .ptr (some (1, 0))), (10, .ptr (some (2, 0))), (12, .fn (.func 26) [] [.ptr (some (0, 0)), .ptr (some (1, 0)), .ptr (some (3, 0)), .ptr (some (4, 0)), .ptr (some (5, 0))]), (23, .slc (some (6, 0)) 2 2), (41, .int .i64 (.x (Ar.run Ar.add IntKind.i64 a0 1))), (42, .int .i64 (.x p0))], [(0, ⟨.lit [.int .i64 (.x a0)], 0, true, none⟩), (1, ⟨.lit [.int .i64 (.x a1)], 0, true, none⟩), (2, ⟨.lit [.int .i64 (.x 0), .int .i64 (.x 0)], 0, true, none⟩), (3, ⟨.lit [.int .i64 (.x a2)], 0, true, none⟩), (4, ⟨.lit [.int .i64 (.x a3), .int .i64 (.x a4)], 0, true, none⟩), (5, ⟨.lit [.int .i64 (.x a5), .int .i64 (.x a6)], 0, true, none⟩), (6, ⟨.lit [.int .i64 (.x a1), .int .i64 (.x a2)], 1, true, none⟩)], 7, []⟩
   | .n1 p0 p1 p2 p3 => ⟨[(5, .ptr (some (0, 0))), (6, .ptr (some (1, 0))), (10, .ptr (some (2, 0))), (12, .fn (.func 26) [] [.ptr (some (0, 0)), .ptr (some (1, 0)), .ptr (some (3, 0)), .ptr (some (4, 0)), .ptr (some (5, 0))]), (13, .int .i64 (.x p0)), (23, .slc (some (6, 0)) 2 2), (41, .int .i64 (.x (Ar.run Ar.add IntKind.i64 a0 1))), (42, .int .i64 (.x p1)), (46, .int .i64 (.x p2)), (47, .int .i64 (.x p3))], [(0, ⟨.lit [.int .i64 (.x a0)], 0, true, none⟩), (1, ⟨.lit [.int .i64 (.x a1)], 0, true, none⟩), (2, ⟨.lit [.int .i64 (.x 0), .int .i64 (.x 0)], 0, true, none⟩), (3, ⟨.lit [.int .i64 (.x a2)], 0, true, none⟩), (4, ⟨.lit [.int .i64 (.x a3), .int .i64 (.x a4)], 0, true, none⟩), (5, ⟨.lit [.int .i64 (.x a5), .int .i64 (.x a6)], 0, true, none⟩), (6, ⟨.lit [.int .i64 (.x a1), .int .i64 (.x a2)], 1, true, none⟩)], 7, []⟩
  D0 := lplD0 a0 a1 a2 a3 a4 a5 a6
  D := lplD a0 a1 a2 a3 a4 a5 a6
  rc := (fun v => .tup [.agg [.int .i64 (.x v.1), .int .i64 (.x v.2.1)], .int .i64 (.x v.2.2)])
  rh := (fun v => [])
  rn := (fun v => 0)
  rx := (fun v => [])
  rgo := (fun _ => none)


theorem lplstart (a0 : Int) (a1 : Int) (a2 : Int) (a3 : Int) (a4 : Int) (a5 : Int) (a6 : Int) : AF.edgeOk (lplA a0 a1 a2 a3 a4 a5 a6) (ctxOf Tryd.prog memo0) (lplD0 a0 a1 a2 a3 a4 a5 a6) (AF.run0 (lplA a0 a1 a2 a3 a4 a5 a6) (ctxOf Tryd.prog (memoA 24 lcnP lcnF memo0))) := by unfold AF.edgeOk; kernel_rfl

theorem lplnode0 (a0 : Int) (a1 : Int) (a2 : Int) (a3 : Int) (a4 : Int) (a5 : Int) (a6 : Int) (p0 : Int) : AF.edgeOk (lplA a0 a1 a2 a3 a4 a5 a6) (ctxOf Tryd.prog memo0) (lplD a0 a1 a2 a3 a4 a5 a6 (.n0 p0)) (AF.runN (lplA a0 a1 a2 a3 a4 a5 a6) (ctxOf Tryd.prog (memoA 24 lcnP lcnF memo0)) (.n0 p0)) := by unfold AF.edgeOk; kernel_rfl

theorem lplnode1 (a0 : Int) (a1 : Int) (a2 : Int) (a3 : Int) (a4 : Int) (a5 : Int) (a6 : Int) (p0 : Int) (p1 : Int) (p2 : Int) (p3 : Int) : AF.edgeOk (lplA a0 a1 a2 a3 a4 a5 a6) (ctxOf Tryd.prog memo0) (lplD a0 a1 a2 a3 a4 a5 a6 (.n1 p0 p1 p2 p3)) (AF.runN (lplA a0 a1 a2 a3 a4 a5 a6) (ctxOf Tryd.prog (memoA 24 lcnP lcnF memo0)) (.n1 p0 p1 p2 p3)) := by unfold AF.edgeOk; kernel_rfl

theorem lplok (a0 : Int) (a1 : Int) (a2 : Int) (a3 : Int) (a4 : Int) (a5 : Int) (a6 : Int) : (lplA a0 a1 a2 a3 a4 a5 a6).Ok Tryd.prog (ctxOf Tryd.prog (memoA 24 lcnP lcnF memo0)) where
  regs := by kernel_rfl
  h0 := by kernel_rfl
  start := lplstart a0 a1 a2 a3 a4 a5 a6
  node := fun a _ => match a with
   | .n0 p0 => lplnode0 a0 a1 a2 a3 a4 a5 a6 p0
   | .n1 p0 p1 p2 p3 => lplnode1 a0 a1 a2 a3 a4 a5 a6 p0 p1 p2 p3
  pd := fun a => match a with
   | .n0 p0 => ⟨(fa_cons rfl (fa_cons rfl (fa_cons rfl (fa_cons rfl (fa_cons rfl (fa_cons rfl (fa_cons rfl fa_nil))))))), (fa_cons ⟨.inl (Nat.le_of_ble_eq_true rfl), rfl, rfl⟩ (fa_cons ⟨.inl (Nat.le_of_ble_eq_true rfl), rfl, rfl⟩ (fa_cons ⟨.inl (Nat.le_of_ble_eq_true rfl), rfl, rfl⟩ (fa_cons ⟨.inl (Nat.le_of_ble_eq_true rfl), rfl, rfl⟩ (fa_cons ⟨.inl (Nat.le_of_ble_eq_true rfl), rfl, rfl⟩ (fa_cons ⟨.inl (Nat.le_of_ble_eq_true rfl), rfl, rfl⟩ (fa_cons ⟨.inl (Nat.le_of_ble_eq_true rfl), rfl, rfl⟩ fa_nil))))))), fa_nil, rfl⟩
   | .n1 p0 p1 p2 p3 => ⟨(fa_cons rfl (fa_cons rfl (fa_cons rfl (fa_cons rfl (fa_cons rfl (fa_cons rfl (fa_cons rfl (fa_cons rfl (fa_cons rfl (fa_cons rfl fa_nil)))))))))), (fa_cons ⟨.inl (Nat.le_of_ble_eq_true rfl), rfl, rfl⟩ (fa_cons ⟨.inl (Nat.le_of_ble_eq_true rfl), rfl, rfl⟩ (fa_cons ⟨.inl (Nat.le_of_ble_eq_true rfl), rfl, rfl⟩ (fa_cons ⟨.inl (Nat.le_of_ble_eq_true rfl), rfl, rfl⟩ (fa_cons ⟨.inl (Nat.le_of_ble_eq_true rfl), rfl, rfl⟩ (fa_cons ⟨.inl (Nat.le_of_ble_eq_true rfl), rfl, rfl⟩ (fa_cons ⟨.inl (Nat.le_of_ble_eq_true rfl), rfl, rfl⟩ fa_nil))))))), fa_nil, rfl⟩
  le := fun a => match a with
   | .n0 p0 => Nat.le_of_ble_eq_true rfl
   | .n1 p0 p1 p2 p3 => Nat.le_of_ble_eq_true rfl
  rd := fun v => ⟨⟨fa_nil, fa_nil, fa_nil, rfl⟩, rfl⟩
  wb := rfl


theorem lplhR {ρ : Env} (a0 : Int) (a1 : Int) (a2 : Int) (a3 : Int) (a4 : Int) (a5 : Int) (a6 : Int) (hM : MemoOk Tryd.prog (ctxOf Tryd.prog (memoA 24 lcnP lcnF memo0)) ρ) : ∀ X a q n D, FxOk ρ X → X.base = (lplA a0 a1 a2 a3 a4 a5 a6).base → X.nt = (lplA a0 a1 a2 a3 a4 a5 a6).nt → X.W = (lplA a0 a1 a2 a3 a4 a5 a6).W → (lplA a0 a1 a2 a3 a4 a5 a6).rgo a = some q → q n = some D → (lplA a0 a1 a2 a3 a4 a5 a6).RangeOk Tryd.prog ρ X a D := AF.noRange rfl

theorem lplctr {ρ : Env} (a0 : Int) (a1 : Int) (a2 : Int) (a3 : Int) (a4 : Int) (a5 : Int) (a6 : Int) {n : Nat} {v : lplR} (hM : MemoOk Tryd.prog (ctxOf Tryd.prog (memoA 24 lcnP lcnF memo0)) ρ) (hv : (lplA a0 a1 a2 a3 a4 a5 a6).run n = some v) :
    Ctr Tryd.prog ρ 7 (lplA a0 a1 a2 a3 a4 a5 a6).args (lplA a0 a1 a2 a3 a4 a5 a6).H0 (lplA a0 a1 a2 a3 a4 a5 a6).base (lplA a0 a1 a2 a3 a4 a5 a6).W ((lplA a0 a1 a2 a3 a4 a5 a6).rc v) (putH (lplA a0 a1 a2 a3 a4 a5 a6).H0 ((lplA a0 a1 a2 a3 a4 a5 a6).rh v ++ (lplA a0 a1 a2 a3 a4 a5 a6).rx v)) ((lplA a0 a1 a2 a3 a4 a5 a6).rn v) :=
  AF.ctr try_ok hM (lplok a0 a1 a2 a3 a4 a5 a6) (fn := Tryd.f7) Tryd.func7 rfl rfl (Nat.le_of_ble_eq_true rfl) rfl (lplhR a0 a1 a2 a3 a4 a5 a6 hM) hv


theorem lplmem {ρ : Env} : MemoOk Tryd.prog (ctxOf Tryd.prog (memoA 24 lcnP lcnF memo0)) ρ := (memoA_ok (lcnknown lcnmem) memo0_ok)


abbrev lplP : List AP := [.int .i64, .int .i64, .int .i64, .agg [.int .i64, .int .i64], .agg [.int .i64, .int .i64]]
noncomputable def lplF (v : AV) : AF lplN lplR := lplA (v.i.getD 0 0) (v.i.getD 1 0) (v.i.getD 2 0) (v.i.getD 3 0) (v.i.getD 4 0) (v.i.getD 5 0) (v.i.getD 6 0)
theorem lplknown {ρ : Env} (hM : MemoOk Tryd.prog (ctxOf Tryd.prog (memoA 24 lcnP lcnF memo0)) ρ) : KnownA Tryd.prog ρ 7 lplP lplF where
  fn := ⟨Tryd.f7, Tryd.func7, rfl⟩
  args := fun v => rfl
  plain := fun v r => rfl
  ctr := fun v n r h => lplctr (v.i.getD 0 0) (v.i.getD 1 0) (v.i.getD 2 0) (v.i.getD 3 0) (v.i.getD 4 0) (v.i.getD 5 0) (v.i.getD 6 0) hM h

end Go.Proofs.YtpojncoplaopcaaDoor.Cx

/- acme/lot.Bound as an automaton. Made by tools/cxauto.py. -/
namespace Go.Proofs.YtpojncoplaopcaaDoor.Cx
set_option linter.unusedVariables false
set_option linter.unusedSimpArgs false
set_option maxRecDepth 100000
open Go Go.Proofs Go.RowKit

noncomputable abbrev lboCode : Code := funcCode Tryd.f8


inductive lboN where
  | n0 (p0 : Int)

abbrev lboR := Int × Int

noncomputable def lboD0 (a0 : Int) (a1 : Int) (a2 : Int) (a3 : Int) (a4 : Int) : DD (Lf lboN lboR) :=
 .ask (Cm.run Cm.lss a0 1)
   (.leaf (.done (0, 3) []))
   (.ask (Cm.run Cm.gtr a0 50)
   (.leaf (.done (0, 3) []))
   (.ask (Cm.run Cm.lss a1 0)
   (.leaf (.done (0, 2) []))
   (.ask (Cm.run Cm.gtr a1 a0)
   (.leaf (.done (0, 2) []))
   (.ask (Cm.run Cm.lss a2 0)
   (.leaf (.done (0, 2) []))
   (.ask (Cm.run Cm.gtr a2 a1)
   (.leaf (.done (0, 2) []))
   (.ask (Cm.run Cm.lss a4 1)
   (.leaf (.done (0, 2) []))
   (.ask (Cm.run Cm.gtr a4 10000)
   (.leaf (.done (0, 2) []))
   (.ask (Cm.run Cm.lss a3 0)
   (.leaf (.done (0, 2) []))
   (.ask (Cm.run Cm.gtr a3 a4)
   (.leaf (.done (0, 2) []))
   (.leaf (.next (.n0 a0) [0, 1])))))))))))

noncomputable def lboD (a0 : Int) (a1 : Int) (a2 : Int) (a3 : Int) (a4 : Int) : lboN → DD (Lf lboN lboR)
 | .n0 p0 =>
 .ask (Cm.run Cm.gtr p0 a2)
   (.must (AF.fin (lcnA a0 p0 a1 a2))
   (.ask (Cm.run Cm.geq (Ar.run Ar.mul IntKind.i64 (Prod.fst (AF.val (lcnA a0 p0 a1 a2))) a4) (Ar.run Ar.mul IntKind.i64 a3 (Prod.snd (AF.val (lcnA a0 p0 a1 a2)))))
   (.leaf (.done (p0, 0) []))
   (.leaf (.next (.n0 (Ar.run Ar.sub IntKind.i64 p0 1)) [0, 1]))))
   (.leaf (.done (p0, 0) []))

noncomputable def lboA (a0 : Int) (a1 : Int) (a2 : Int) (a3 : Int) (a4 : Int) : AF lboN lboR where
  code := lboCode
  base := 0
  nt := 48
  m := 400
  un := []
  W := []
  h0 := []
  args := [.int .i64 (.x a0), .agg [.int .i64 (.x a1), .int .i64 (.x a2)], .agg [.int .i64 (.x a3), .int .i64 (.x a4)]]
  res := (Tryd.f8).results.toList
  path := fun a => match a with
   | .n0 p0 => [1, 1, 1, 1, 0, 0]
  pd := fun a => match a with
   | .n0 p0 => ⟨[(0, .int .i64 (.x a0)), (4, .ptr (some (0, 0))), (5, .ptr (some (1, 0))), (8, .int .i64 (.x p0))], [(0, ⟨.lit [.int .i64 (.x a1), .int .i64 (.x a2)], 0, true, none⟩), (1, ⟨.lit [.int .i64 (.x a3), .int .i64 (.x a4)], 0, true, none⟩)], 2, []⟩
  D0 := lboD0 a0 a1 a2 a3 a4
  D := lboD a0 a1 a2 a3 a4
  rc := (fun v => .tup [.int .i64 (.x v.1), .int .i64 (.x v.2)])
  rh := (fun v => [])
  rn := (fun v => 0)
  rx := (fun v => [])
  rgo := (fun _ => none)


theorem lbostart (a0 : Int) (a1 : Int) (a2 : Int) (a3 : Int) (a4 : Int) : AF.edgeOk (lboA a0 a1 a2 a3 a4) (ctxOf Tryd.prog memo0) (lboD0 a0 a1 a2 a3 a4) (AF.run0 (lboA a0 a1 a2 a3 a4) (ctxOf Tryd.prog (memoA 24 lcnP lcnF memo0))) := by unfold AF.edgeOk; kernel_rfl

theorem lbonode0 (a0 : Int) (a1 : Int) (a2 : Int) (a3 : Int) (a4 : Int) (p0 : Int) : AF.edgeOk (lboA a0 a1 a2 a3 a4) (ctxOf Tryd.prog memo0) (lboD a0 a1 a2 a3 a4 (.n0 p0)) (AF.runN (lboA a0 a1 a2 a3 a4) (ctxOf Tryd.prog (memoA 24 lcnP lcnF memo0)) (.n0 p0)) := by unfold AF.edgeOk; kernel_rfl

theorem lbook (a0 : Int) (a1 : Int) (a2 : Int) (a3 : Int) (a4 : Int) : (lboA a0 a1 a2 a3 a4).Ok Tryd.prog (ctxOf Tryd.prog (memoA 24 lcnP lcnF memo0)) where
  regs := by kernel_rfl
  h0 := by kernel_rfl
  start := lbostart a0 a1 a2 a3 a4
  node := fun a _ => match a with
   | .n0 p0 => lbonode0 a0 a1 a2 a3 a4 p0
  pd := fun a => match a with
   | .n0 p0 => ⟨(fa_cons rfl (fa_cons rfl (fa_cons rfl (fa_cons rfl fa_nil)))), (fa_cons ⟨.inl (Nat.le_of_ble_eq_true rfl), rfl, rfl⟩ (fa_cons ⟨.inl (Nat.le_of_ble_eq_true rfl), rfl, rfl⟩ fa_nil)), fa_nil, rfl⟩
  le := fun a => match a with
   | .n0 p0 => Nat.le_of_ble_eq_true rfl
  rd := fun v => ⟨⟨fa_nil, fa_nil, fa_nil, rfl⟩, rfl⟩
  wb := rfl


theorem lbohR {ρ : Env} (a0 : Int) (a1 : Int) (a2 : Int) (a3 : Int) (a4 : Int) (hM : MemoOk Tryd.prog (ctxOf Tryd.prog (memoA 24 lcnP lcnF memo0)) ρ) : ∀ X a q n D, FxOk ρ X → X.base = (lboA a0 a1 a2 a3 a4).base → X.nt = (lboA a0 a1 a2 a3 a4).nt → X.W = (lboA a0 a1 a2 a3 a4).W → (lboA a0 a1 a2 a3 a4).rgo a = some q → q n = some D → (lboA a0 a1 a2 a3 a4).RangeOk Tryd.prog ρ X a D := AF.noRange rfl

theorem lboctr {ρ : Env} (a0 : Int) (a1 : Int) (a2 : Int) (a3 : Int) (a4 : Int) {n : Nat} {v : lboR} (hM : MemoOk Tryd.prog (ctxOf Tryd.prog (memoA 24 lcnP lcnF memo0)) ρ) (hv : (lboA a0 a1 a2 a3 a4).run n = some v) :
    Ctr Tryd.prog ρ 8 (lboA a0 a1 a2 a3 a4).args (lboA a0 a1 a2 a3 a4).H0 (lboA a0 a1 a2 a3 a4).base (lboA a0 a1 a2 a3 a4).W ((lboA a0 a1 a2 a3 a4).rc v) (putH (lboA a0 a1 a2 a3 a4).H0 ((lboA a0 a1 a2 a3 a4).rh v ++ (lboA a0 a1 a2 a3 a4).rx v)) ((lboA a0 a1 a2 a3 a4).rn v) :=
  AF.ctr try_ok hM (lbook a0 a1 a2 a3 a4) (fn := Tryd.f8) Tryd.func8 rfl rfl (Nat.le_of_ble_eq_true rfl) rfl (lbohR a0 a1 a2 a3 a4 hM) hv


theorem lbomem {ρ : Env} : MemoOk Tryd.prog (ctxOf Tryd.prog (memoA 24 lcnP lcnF memo0)) ρ := (memoA_ok (lcnknown lcnmem) memo0_ok)


abbrev lboP : List AP := [.int .i64, .agg [.int .i64, .int .i64], .agg [.int .i64, .int .i64]]
noncomputable def lboF (v : AV) : AF lboN lboR := lboA (v.i.getD 0 0) (v.i.getD 1 0) (v.i.getD 2 0) (v.i.getD 3 0) (v.i.getD 4 0)
theorem lboknown {ρ : Env} (hM : MemoOk Tryd.prog (ctxOf Tryd.prog (memoA 24 lcnP lcnF memo0)) ρ) : KnownA Tryd.prog ρ 8 lboP lboF where
  fn := ⟨Tryd.f8, Tryd.func8, rfl⟩
  args := fun v => rfl
  plain := fun v r => rfl
  ctr := fun v n r h => lboctr (v.i.getD 0 0) (v.i.getD 1 0) (v.i.getD 2 0) (v.i.getD 3 0) (v.i.getD 4 0) hM h

end Go.Proofs.YtpojncoplaopcaaDoor.Cx

/- lot.Plan yields the first plan that keeps both risks; lot.Bound the greatest number of bad pieces with which a lot passes often enough. -/
namespace Go.Proofs.YtpojncoplaopcaaDoor.Cx
set_option linter.unusedVariables false
set_option linter.unusedSimpArgs false
open Go Go.RowKit

/-- With how many samples of n a lot of N pieces, b of them bad, passes. -/
def pas (N b n A : Nat) : Nat := psum b (N - b) n (A + 1)

theorem pas_le {N b n A : Nat} (hb : b ≤ N) : pas N b n A ≤ bin N n := by
  have := psum_le b (N - b) n (A + 1)
  rwa [show b + (N - b) = N by omega] at this

theorem lcn_pas {N b n A : Nat} (hN : N ≤ 50) (hb : b ≤ N) (hn : n ≤ N) (hA : A ≤ n) : AF.fin (lcnA (N : Int) b n A) = true ∧ AF.val (lcnA (N : Int) b n A) = ((pas N b n A : Int), (bin N n : Int)) := by
  have := lcn_ok (b := b) (m := N - b) (n := n) (A := A) (by omega) (by omega) hA
  rwa [show b + (N - b) = N by omega] at this

/-- A plan keeps both risks. -/
def Keep (N g b : Nat) (hn hd sn sd : Int) (n A : Nat) : Prop :=
  ((bin N n : Int) - pas N g n A) * hd ≤ hn * bin N n ∧ (pas N b n A : Int) * sd ≤ sn * bin N n

theorem keep_all {N g b : Nat} {hn hd sn sd : Int} (hg : g < b) (hb : b ≤ N) (h1 : 0 ≤ hn) (h2 : 0 ≤ sn) : Keep N g b hn hd sn sd N g := by
  have e1 : pas N g N g = bin N N := by
    unfold pas
    have := (psum_one (b := g) (m := N - g) (n := N) (A := g) (by omega)).2 (by omega)
    rwa [show g + (N - g) = N by omega] at this
  have e2 : pas N b N g = 0 := (psum_nil (b := b) (m := N - b) (n := N) (A := g) (by omega) (by omega)).2 (by omega)
  unfold Keep
  rw [e1, e2]
  have m1 := Int.mul_nonneg h1 (show (0 : Int) ≤ bin N N by omega)
  have m2 := Int.mul_nonneg h2 (show (0 : Int) ≤ bin N N by omega)
  simp only [Int.sub_self, Int.zero_mul, Int.natCast_zero, Int.cast_ofNat_Int]
  exact ⟨m1, m2⟩

theorem mrng {a b A B : Int} (h1 : 0 ≤ a ∧ a ≤ A) (h2 : 0 ≤ b ∧ b ≤ B) : 0 ≤ a * b ∧ a * b ≤ A * B :=
  ⟨Int.mul_nonneg h1.1 h2.1, Int.mul_le_mul h1.2 h2.2 h2.1 (by omega)⟩

def NoPlan (N g b : Nat) (hn hd sn sd : Int) (n : Nat) : Prop := ∀ n', n' < n → ∀ A', A' ≤ n' → ¬ Keep N g b hn hd sn sd n' A'

theorem lpl_ok {N g b : Nat} {hn hd sn sd : Int} (hN : 1 ≤ N ∧ N ≤ 50) (hg : g < b) (hb : b ≤ N) (h1 : 0 ≤ hn ∧ hn ≤ hd) (h2 : 1 ≤ hd ∧ hd ≤ 10000) (h3 : 0 ≤ sn ∧ sn ≤ sd) (h4 : 1 ≤ sd ∧ sd ≤ 10000) :
    AF.fin (lplA N g b hn hd sn sd) = true ∧ ∃ n A : Nat, AF.val (lplA N g b hn hd sn sd) = ((n : Int), (A : Int), 0) ∧ n ≤ N ∧ A ≤ n ∧ Keep N g b hn hd sn sd n A ∧ NoPlan N g b hn hd sn sd n ∧ ∀ A', A' < A → ¬ Keep N g b hn hd sn sd n A' :=
  AF.val_sat (Inv := fun a => match a with
    | .n0 p0 => ∃ n : Nat, n ≤ N + 1 ∧ p0 = (n : Int) ∧ NoPlan N g b hn hd sn sd n
    | .n1 p0 p1 p2 p3 => ∃ n A : Nat, n ≤ N ∧ A ≤ n + 1 ∧ p0 = (n : Int) ∧ p1 = (n : Int) ∧ p2 = (n : Int) + 1 ∧ p3 = (A : Int) ∧ NoPlan N g b hn hd sn sd n ∧ ∀ A', A' < A → ¬ Keep N g b hn hd sn sd n A')
    (E := fun (v : lplR) => ∃ n A : Nat, v = ((n : Int), (A : Int), 0) ∧ n ≤ N ∧ A ≤ n ∧ Keep N g b hn hd sn sd n A ∧ NoPlan N g b hn hd sn sd n ∧ ∀ A', A' < A → ¬ Keep N g b hn hd sn sd n A')
    (fun a => match a with | .n0 p0 => (60 - p0.toNat) * 200 | .n1 p0 p1 p2 p3 => (60 - p0.toNat) * 200 - 1 - p3.toNat) (fun _ => rfl) (fun a hI => by
    cases a with
    | n0 p0 =>
      obtain ⟨n, hn', rfl, hno⟩ := hI
      have e1 : Ar.run Ar.add IntKind.i64 (N : Int) 1 = (N : Int) + 1 := arAdd (by omega)
      have e2 : Ar.run Ar.add IntKind.i64 (n : Int) 1 = (n : Int) + 1 := arAdd (by omega)
      show DD.sat _ _ (lplD N g b hn hd sn sd (.n0 (n : Int)))
      unfold lplD
      simp only [e1, e2]
      refine ⟨fun h => ?_, fun h => ?_⟩
      · have := cmLss.1 h
        show (∃ n' A : Nat, n' ≤ N ∧ A ≤ n' + 1 ∧ (n : Int) = (n' : Int) ∧ (n : Int) = (n' : Int) ∧ (n : Int) + 1 = (n' : Int) + 1 ∧ (0 : Int) = (A : Int) ∧ NoPlan N g b hn hd sn sd n' ∧ ∀ A', A' < A → ¬ Keep N g b hn hd sn sd n' A') ∧ (60 - Int.toNat (n : Int)) * 200 - 1 - Int.toNat 0 < (60 - Int.toNat (n : Int)) * 200
        exact ⟨⟨n, 0, by omega, by omega, rfl, rfl, rfl, rfl, hno, fun A' h => by omega⟩, by omega⟩
      · have := cmLssF.1 h
        exact absurd (keep_all hg hb h1.1 h3.1) (hno N (by omega) g (by omega))
    | n1 p0 p1 p2 p3 =>
      obtain ⟨n, A, hn', hA, rfl, rfl, rfl, rfl, hno, hlt⟩ := hI
      have e2 : Ar.run Ar.add IntKind.i64 (n : Int) 1 = (n : Int) + 1 := arAdd (by omega)
      have e3 : Ar.run Ar.add IntKind.i64 (A : Int) 1 = (A : Int) + 1 := arAdd (by omega)
      show DD.sat _ _ (lplD N g b hn hd sn sd (.n1 (n : Int) (n : Int) ((n : Int) + 1) (A : Int)))
      unfold lplD
      simp only [e2, e3]
      have next : ¬ Keep N g b hn hd sn sd n A → A ≤ n → (∃ n' A2 : Nat, n' ≤ N ∧ A2 ≤ n' + 1 ∧ (n : Int) = (n' : Int) ∧ (n : Int) = (n' : Int) ∧ (n : Int) + 1 = (n' : Int) + 1 ∧ (A : Int) + 1 = (A2 : Int) ∧ NoPlan N g b hn hd sn sd n' ∧ ∀ A', A' < A2 → ¬ Keep N g b hn hd sn sd n' A') ∧ (60 - Int.toNat (n : Int)) * 200 - 1 - Int.toNat ((A : Int) + 1) < (60 - Int.toNat (n : Int)) * 200 - 1 - Int.toNat (A : Int) := fun hk hA' =>
        ⟨⟨n, A + 1, hn', by omega, rfl, rfl, rfl, rfl, hno, fun A' h => by
          rcases Nat.lt_or_ge A' A with h' | h'
          · exact hlt A' h'
          · obtain rfl : A' = A := by omega
            exact hk⟩, by omega⟩
      refine ⟨fun h => ?_, fun h => ?_⟩
      · have hle : A ≤ n := by have := cmLss.1 h; omega
        obtain ⟨f1, v1⟩ := lcn_pas (b := g) (n := n) (A := A) hN.2 (by omega) hn' hle
        obtain ⟨f2, v2⟩ := lcn_pas (b := b) (n := n) (A := A) hN.2 hb hn' hle
        have l1 := pas_le (b := g) (n := n) (A := A) (show g ≤ N by omega)
        have l2 := pas_le (b := b) (n := n) (A := A) hb
        have bl := bin_le (k := n) hN.2
        have m1 := mrng (a := (bin N n : Int) - pas N g n A) (b := hd) (A := 562949953421312) (B := 10000) (by omega) (by omega)
        have m2 := mrng (a := hn) (b := (bin N n : Int)) (A := 10000) (B := 562949953421312) (by omega) (by omega)
        have m3 := mrng (a := (pas N b n A : Int)) (b := sd) (A := 562949953421312) (B := 10000) (by omega) (by omega)
        have m4 := mrng (a := sn) (b := (bin N n : Int)) (A := 10000) (B := 562949953421312) (by omega) (by omega)
        have x0 : Ar.run Ar.sub IntKind.i64 (bin N n : Int) (pas N g n A : Int) = (bin N n : Int) - pas N g n A := arSub (by omega)
        have x1 : Ar.run Ar.mul IntKind.i64 ((bin N n : Int) - pas N g n A) hd = ((bin N n : Int) - pas N g n A) * hd := arMul (by omega)
        have x2 : Ar.run Ar.mul IntKind.i64 hn (bin N n : Int) = hn * (bin N n : Int) := arMul (by omega)
        have x3 : Ar.run Ar.mul IntKind.i64 (pas N b n A : Int) sd = (pas N b n A : Int) * sd := arMul (by omega)
        have x4 : Ar.run Ar.mul IntKind.i64 sn (bin N n : Int) = sn * (bin N n : Int) := arMul (by omega)
        refine ⟨f1, f2, ?_⟩
        rw [v1, v2]
        simp only [x0, x1, x2, x3, x4]
        refine ⟨fun q1 => ⟨fun q2 => ?_, fun q2 => ?_⟩, fun q1 => ?_⟩
        · exact ⟨n, A, rfl, hn', hle, ⟨cmLeq.1 q1, cmLeq.1 q2⟩, hno, hlt⟩
        · exact next (fun hk => by have := cmLeqF.1 q2; have := hk.2; omega) hle
        · exact next (fun hk => by have := cmLeqF.1 q1; have := hk.1; omega) hle
      · have := cmLssF.1 h
        show (∃ n' : Nat, n' ≤ N + 1 ∧ (n : Int) + 1 = (n' : Int) ∧ NoPlan N g b hn hd sn sd n') ∧ (60 - Int.toNat ((n : Int) + 1)) * 200 < (60 - Int.toNat (n : Int)) * 200 - 1 - Int.toNat (A : Int)
        refine ⟨⟨n + 1, by omega, by omega, fun n' h1 A' h2 => ?_⟩, by omega⟩
        rcases Nat.lt_or_ge n' n with h' | h'
        · exact hno n' h' A' h2
        · obtain rfl : n' = n := by omega
          exact hlt A' (by omega)) (by
    show DD.sat _ _ (lplD0 N g b hn hd sn sd)
    unfold lplD0
    refine ⟨fun h => absurd (cmLss.1 h) (by omega), fun _ => ⟨fun h => absurd (cmGtr.1 h) (by omega), fun _ => ⟨fun h => absurd (cmLss.1 h) (by omega), fun _ => ⟨fun h => absurd (cmGtr.1 h) (by omega), fun _ => ⟨fun h => absurd (cmLss.1 h) (by omega), fun _ => ⟨fun h => absurd (cmGtr.1 h) (by omega), fun _ => ⟨fun h => absurd (cmGeq.1 h) (by omega), fun _ => ⟨fun h => absurd (cmLss.1 h) (by omega), fun _ => ⟨fun h => absurd (cmGtr.1 h) (by omega), fun _ => ⟨fun h => absurd (cmLss.1 h) (by omega), fun _ => ⟨fun h => absurd (cmGtr.1 h) (by omega), fun _ => ⟨fun h => absurd (cmLss.1 h) (by omega), fun _ => ⟨fun h => absurd (cmGtr.1 h) (by omega), fun _ => ⟨fun h => absurd (cmLss.1 h) (by omega), fun _ => ⟨fun h => absurd (cmGtr.1 h) (by omega), fun _ => ?_⟩⟩⟩⟩⟩⟩⟩⟩⟩⟩⟩⟩⟩⟩⟩
    show ∃ n : Nat, n ≤ N + 1 ∧ (0 : Int) = (n : Int) ∧ NoPlan N g b hn hd sn sd n
    exact ⟨0, by omega, rfl, fun n' h => by omega⟩)

/-- So many bad pieces can there be. -/
def Can (N n A : Nat) (rn rd : Int) (b : Nat) : Prop := rn * bin N n ≤ (pas N b n A : Int) * rd

theorem can_acc {N n A : Nat} {rn rd : Int} (hn : n ≤ N) (hA : A ≤ n) (hr : rn ≤ rd) : Can N n A rn rd A := by
  have e1 : pas N A n A = bin N n := by
    unfold pas
    have := (psum_one (b := A) (m := N - A) (n := n) (A := A) (by omega)).2 (by omega)
    rwa [show A + (N - A) = N by omega] at this
  unfold Can
  rw [e1, Int.mul_comm (bin N n : Int) rd]
  exact Int.mul_le_mul_of_nonneg_right hr (by omega)

theorem lbo_ok {N n A : Nat} {rn rd : Int} (hN : 1 ≤ N ∧ N ≤ 50) (hn : n ≤ N) (hA : A ≤ n) (h1 : 0 ≤ rn ∧ rn ≤ rd) (h2 : 1 ≤ rd ∧ rd ≤ 10000) :
    AF.fin (lboA N n A rn rd) = true ∧ ∃ b : Nat, AF.val (lboA N n A rn rd) = ((b : Int), 0) ∧ A ≤ b ∧ b ≤ N ∧ Can N n A rn rd b ∧ ∀ b', b < b' → b' ≤ N → ¬ Can N n A rn rd b' :=
  AF.val_sat (Inv := fun a => match a with | .n0 p0 => ∃ b : Nat, A ≤ b ∧ b ≤ N ∧ p0 = (b : Int) ∧ ∀ b', b < b' → b' ≤ N → ¬ Can N n A rn rd b')
    (E := fun (v : lboR) => ∃ b : Nat, v = ((b : Int), 0) ∧ A ≤ b ∧ b ≤ N ∧ Can N n A rn rd b ∧ ∀ b', b < b' → b' ≤ N → ¬ Can N n A rn rd b')
    (fun a => match a with | .n0 p0 => p0.toNat) (fun _ => rfl) (fun a hI => by
    obtain ⟨p0⟩ := a
    obtain ⟨b, hb1, hb2, rfl, hno⟩ := hI
    show DD.sat _ _ (lboD N n A rn rd (.n0 (b : Int)))
    unfold lboD
    refine ⟨fun h => ?_, fun h => ?_⟩
    · have hlt := cmGtr.1 h
      obtain ⟨f1, v1⟩ := lcn_pas (b := b) (n := n) (A := A) hN.2 hb2 hn hA
      have l2 := pas_le (b := b) (n := n) (A := A) hb2
      have bl := bin_le (k := n) hN.2
      have m3 := mrng (a := (pas N b n A : Int)) (b := rd) (A := 562949953421312) (B := 10000) (by omega) (by omega)
      have m4 := mrng (a := rn) (b := (bin N n : Int)) (A := 10000) (B := 562949953421312) (by omega) (by omega)
      have x3 : Ar.run Ar.mul IntKind.i64 (pas N b n A : Int) rd = (pas N b n A : Int) * rd := arMul (by omega)
      have x4 : Ar.run Ar.mul IntKind.i64 rn (bin N n : Int) = rn * (bin N n : Int) := arMul (by omega)
      have x5 : Ar.run Ar.sub IntKind.i64 (b : Int) 1 = (b : Int) - 1 := arSub (by omega)
      refine ⟨f1, ?_⟩
      rw [v1]
      simp only [x3, x4, x5]
      refine ⟨fun q => ⟨b, rfl, hb1, hb2, cmGeq.1 q, hno⟩, fun q => ?_⟩
      show (∃ c : Nat, A ≤ c ∧ c ≤ N ∧ (b : Int) - 1 = (c : Int) ∧ ∀ b', c < b' → b' ≤ N → ¬ Can N n A rn rd b') ∧ Int.toNat ((b : Int) - 1) < Int.toNat (b : Int)
      refine ⟨⟨b - 1, by omega, by omega, by omega, fun b' g1 g2 => ?_⟩, by omega⟩
      rcases Nat.lt_or_ge b b' with h' | h'
      · exact hno b' h' g2
      · obtain rfl : b' = b := by omega
        intro hc
        have := cmGeqF.1 q
        unfold Can at hc
        omega
    · have := cmGtrF.1 h
      obtain rfl : b = A := by omega
      exact ⟨b, rfl, hb1, hb2, can_acc hn hA h1.2, hno⟩) (by
    show DD.sat _ _ (lboD0 N n A rn rd)
    unfold lboD0
    refine ⟨fun h => absurd (cmLss.1 h) (by omega), fun _ => ⟨fun h => absurd (cmGtr.1 h) (by omega), fun _ => ⟨fun h => absurd (cmLss.1 h) (by omega), fun _ => ⟨fun h => absurd (cmGtr.1 h) (by omega), fun _ => ⟨fun h => absurd (cmLss.1 h) (by omega), fun _ => ⟨fun h => absurd (cmGtr.1 h) (by omega), fun _ => ⟨fun h => absurd (cmLss.1 h) (by omega), fun _ => ⟨fun h => absurd (cmGtr.1 h) (by omega), fun _ => ⟨fun h => absurd (cmLss.1 h) (by omega), fun _ => ⟨fun h => absurd (cmGtr.1 h) (by omega), fun _ => ?_⟩⟩⟩⟩⟩⟩⟩⟩⟩⟩
    show ∃ b : Nat, A ≤ b ∧ b ≤ N ∧ (N : Int) = (b : Int) ∧ ∀ b', b < b' → b' ≤ N → ¬ Can N n A rn rd b'
    exact ⟨N, by omega, Nat.le_refl _, rfl, fun b' h1 h2 => by omega⟩)
end Go.Proofs.YtpojncoplaopcaaDoor.Cx

/- A CALL THAT IS KNOWN BY A RUN OF ITS OWN: the evaluator runs it once, in a small memory that holds its arguments' blocks; wherever the same arguments come up, with blocks that hold the same, it yields the same. So a long run is many short ones, each a theorem of its own. -/
namespace Go.Proofs.YtpojncoplaopcaaDoor.Cx
set_option linter.unusedSimpArgs false
set_option linter.unusedVariables false
open Go Go.RowKit

mutual
/-- The same value, where block b is called β b. -/
def CV.eqv (β : Nat → Nat) (N : Nat) : CV → CV → Bool
  | .bool (.c a), .bool (.c b) => (a && b) || (!a && !b)
  | .int k (.c n), .int k' (.c m) => decide (k = k') && decide (n = m)
  | .ptr none, .ptr none => true
  | .ptr (some (b, o)), .ptr (some (b', o')) => Nat.blt b N && (Nat.beq (β b) b' && Nat.beq o o')
  | .slc none n c, .slc none n' c' => Nat.beq n n' && Nat.beq c c'
  | .slc (some (b, o)) n c, .slc (some (b', o')) n' c' => Nat.blt b N && (Nat.beq (β b) b' && (Nat.beq o o' && (Nat.beq n n' && Nat.beq c c')))
  | .emp, .emp => true
  | .agg l, .agg m => CV.eqvl β N l m
  | .tup l, .tup m => CV.eqvl β N l m
  | _, _ => false
def CV.eqvl (β : Nat → Nat) (N : Nat) : List CV → List CV → Bool
  | [], [] => true
  | c :: l, d :: m => CV.eqv β N c d && CV.eqvl β N l m
  | _, _ => false
end

section
variable {P : Program} {ρ : Env}

mutual
theorem CV.eqv_ok {β : Nat → Nat} {N : Nat} {σ τ : Mp} (hβ : ∀ b, b < N → τ b = σ (β b)) : ∀ (c d : CV) {v : Value}, CV.eqv β N c d = true → VR ρ σ d v → VR ρ τ c v := by
  intro c d v h hv
  unfold CV.eqv at h
  split at h
  · rename_i a b
    obtain rfl := hv.bool_inv
    have e : a = b := by cases a <;> cases b <;> first | rfl | cases h
    subst e
    exact .bool (.c a)
  · simp only [Bool.and_eq_true, decide_eq_true_eq] at h
    obtain ⟨rfl, rfl⟩ := h
    obtain rfl := hv.int_inv
    exact .int _ (.c _)
  · cases hv; exact .ptr0
  · rename_i b o b' o'
    simp only [Bool.and_eq_true] at h
    obtain ⟨h1, h2, h3⟩ := h
    obtain rfl := Nat.eq_of_beq_eq_true h2
    obtain rfl := Nat.eq_of_beq_eq_true h3
    cases hv with
    | ptr hl => exact .ptr ((hβ b (blt_lt h1)).trans hl)
  · simp only [Bool.and_eq_true] at h
    obtain ⟨h1, h2⟩ := h
    obtain rfl := Nat.eq_of_beq_eq_true h1
    obtain rfl := Nat.eq_of_beq_eq_true h2
    cases hv; exact .slc0
  · rename_i b o n c b' o' n' c'
    simp only [Bool.and_eq_true] at h
    obtain ⟨h1, h2, h3, h4, h5⟩ := h
    obtain rfl := Nat.eq_of_beq_eq_true h2
    obtain rfl := Nat.eq_of_beq_eq_true h3
    obtain rfl := Nat.eq_of_beq_eq_true h4
    obtain rfl := Nat.eq_of_beq_eq_true h5
    cases hv with
    | slc hl hc hs => exact .slc ((hβ b (blt_lt h1)).trans hl) hc hs
  · cases hv; exact .emp _ _
  · rename_i l m
    obtain ⟨cs, rfl, h1⟩ := hv.agg_inv
    exact .agg (CV.eqvl_ok hβ l m h h1)
  · rename_i l m
    obtain ⟨cs, rfl, h1⟩ := hv.tup_inv
    exact .tup (CV.eqvl_ok hβ l m h h1)
  · cases h
theorem CV.eqvl_ok {β : Nat → Nat} {N : Nat} {σ τ : Mp} (hβ : ∀ b, b < N → τ b = σ (β b)) : ∀ (l m : List CV) {vs : List Value}, CV.eqvl β N l m = true → VRl ρ σ m vs → VRl ρ τ l vs
  | [], [], _, _, hv => by cases hv; exact .nil
  | [], d :: m, _, h, _ => by unfold CV.eqvl at h; cases h
  | c :: l, [], _, h, _ => by unfold CV.eqvl at h; cases h
  | c :: l, d :: m, _, h, hv => by
    unfold CV.eqvl at h
    simp only [Bool.and_eq_true] at h
    cases hv with
    | cons h1 t1 => exact .cons (CV.eqv_ok hβ c d h.1 h1) (CV.eqvl_ok hβ l m h.2 t1)
end

abbrev KBlk := List CV × Nat
def KBlk.blk (x : KBlk) : Blk := ⟨.lit x.1, x.2, true, none⟩

noncomputable def hB : List KBlk → Nat → Tr Blk
  | [], _ => .nil
  | x :: l, q => (hB l (q + 1)).set q (KBlk.blk x)

theorem hB_get (i : Nat) : ∀ (l : List KBlk) (q : Nat) (k : Blk), (hB l q).get i = some k → ∃ j x, i = q + j ∧ l[j]? = some x ∧ k = KBlk.blk x
  | [], q, k, h => by simp [hB, Tr.get_nil] at h
  | x :: l, q, k, h => by
    simp only [hB, Tr.get_set] at h
    by_cases hi : i = q
    · rw [if_pos hi] at h
      cases h
      exact ⟨0, x, by omega, rfl, rfl⟩
    · rw [if_neg hi] at h
      obtain ⟨j, x', h1, h2, h3⟩ := hB_get i l (q + 1) k h
      exact ⟨j + 1, x', by omega, by simpa using h2, h3⟩

/-- A call: its arguments, their blocks, what it yields, how many blocks it makes, those of them that matter. -/
structure KCall where
  g : Nat
  args : List CV
  blks : List KBlk
  n1 : Nat
  c : CV
  new : List (Nat × KBlk)

def KCall.newB (K : KCall) : List (Nat × Blk) := K.new.map fun x => (x.1, KBlk.blk x.2)

/-- The run says so. -/
noncomputable def KCall.says (K : KCall) : Option Out → Bool
  | some ⟨.val c', s1, _, []⟩ => (match s1.pc with | [] => true | _ => false) && (Nat.beq s1.next K.n1 && (CV.eqv id K.n1 K.c c' && K.new.all fun x => match s1.heap.get x.1 with | some ⟨.lit l, e, true, none⟩ => CV.eqvl id K.n1 x.2.1 l && Nat.beq e x.2.2 | _ => false))
  | _ => false

structure KCall.Ok (K : KCall) (P : Program) (ρ : Env) : Prop where
  fn : ∃ fn, P.funcs[K.g]? = some fn ∧ fn.body.isSome = true
  le : K.blks.length ≤ K.n1
  rg : K.c.rng K.blks.length K.n1 = true
  hg : ∀ x ∈ K.newB, (K.blks.length ≤ x.1 ∧ x.1 < K.n1) ∧ x.2.body.Rg K.blks.length K.n1 ∧ x.2.ext = none
  ctr : Ctr P ρ K.g K.args (hB K.blks 0) K.blks.length [] K.c (mkH K.newB) K.n1

theorem KCall.of_run {K : KCall} (hP : progOk P = true) {memo : Memo} (hM : MemoOk P (ctxOf P memo) ρ) {m : Nat} (hf : (match P.funcs[K.g]? with | some fn => fn.body.isSome | none => false) = true)
    (h1 : Nat.ble K.blks.length K.n1 = true) (h2 : K.c.rng K.blks.length K.n1 = true) (h3 : (K.new.all fun x => (Nat.ble K.blks.length x.1 && Nat.blt x.1 K.n1) && CV.rngl K.blks.length K.n1 x.2.1) = true)
    (h : K.says (eval (ctxOf P memo) m K.blks.length (.call K.g K.args) ⟨hB K.blks 0, K.blks.length, [], []⟩) = true) : K.Ok P ρ := by
  have hle := Nat.le_of_ble_eq_true h1
  refine ⟨?_, hle, h2, fun x hx => ?_, ?_, ?_⟩
  · split at hf
    · rename_i fn hfn; exact ⟨fn, hfn, hf⟩
    · cases hf
  · obtain ⟨y, hy, rfl⟩ := List.mem_map.1 hx
    have := List.all_eq_true.1 h3 y hy
    simp only [Bool.and_eq_true] at this
    exact ⟨⟨Nat.le_of_ble_eq_true this.1.1, blt_lt this.1.2⟩, this.2, rfl⟩
  · split at hf
    · rename_i fn hfn; exact ⟨fn, hfn, hf⟩
    · cases hf
  · intro n σ w args' ha hH hN
    generalize he : eval (ctxOf P memo) m K.blks.length (.call K.g K.args) ⟨hB K.blks 0, K.blks.length, [], []⟩ = r at h
    unfold KCall.says at h
    split at h
    · rename_i c' s1 R
      simp only [Bool.and_eq_true] at h
      obtain ⟨q1, q2, q3, q4⟩ := h
      have hpc : s1.pc = [] := by
        split at q1
        · assumption
        · cases q1
      have hn := Nat.eq_of_beq_eq_true q2
      have k := (eval_ok (ρ := ρ) (ctxOf_ok hP memo) hM m).call _ _ _ _ _ _ _ _ he
      have := k.run n σ (curOf (hB K.blks 0) K.blks.length) w args' (by rw [hpc]; intro p hp; cases hp) ha hH (fun b hb => by
        rcases hb with hb | hb
        · have : b < K.blks.length := k.lt.1 b hb
          exact if_pos this
        · cases hb) (fun b hb _ => hN b hb)
      refine this.mono ?_
      rintro e' w' ⟨v, rfl, σ', x1, x2, x3, x4, x5⟩
      have x1 : Ext σ σ' K.blks.length s1.next := x1
      have x3 : HR ρ σ' (upd (curOf (hB K.blks 0) K.blks.length) K.blks.length s1.next s1.heap []) w' := x3
      have x5 : Fresh σ σ' K.blks.length s1.next K.blks.length [] w := x5
      rw [hn] at x1 x3 x5
      refine ⟨v, rfl, σ', x1, CV.eqv_ok (fun _ _ => rfl) _ _ q3 x2, ?_, x4, x5⟩
      refine HR.imp x3 fun b k hk => ?_
      unfold upd at hk ⊢
      by_cases hb : b ∈ ([] : List Nat) ∨ (K.blks.length ≤ b ∧ b < K.n1)
      · rw [if_pos hb] at hk ⊢
        have hk : (mkH K.newB).get b = some k := hk
        rw [get_mkH] at hk
        cases hfd : K.newB.find? (fun x => x.1 == b) with
        | none => rw [hfd] at hk; cases hk
        | some y =>
          rw [hfd] at hk
          obtain rfl : y.2 = k := Option.some.inj hk
          have hy1 := List.find?_some hfd
          simp only [beq_iff_eq] at hy1
          obtain ⟨z, hz, rfl⟩ := List.mem_map.1 (List.mem_of_find?_eq_some hfd)
          have hz1 : z.1 = b := hy1
          have := List.all_eq_true.1 q4 z hz
          rw [hz1] at this
          split at this
          · rename_i l e hl
            simp only [Bool.and_eq_true] at this
            refine ⟨_, hl, rfl, rfl, (Nat.eq_of_beq_eq_true this.2).symm, fun _ => rfl, fun us hus => ?_⟩
            exact CV.eqvl_ok (fun _ _ => rfl) _ _ this.1 hus
          · cases this
      · rw [if_neg hb] at hk ⊢
        exact ⟨k, hk, rfl, rfl, rfl, id, fun _ h => h⟩
    · cases h

/-! ## The memo -/

def insM (b b' : Nat) (m : List (Nat × Nat)) : List (Nat × Nat) := bif m.any (fun x => Nat.beq x.1 b) then m else (b, b') :: m
mutual
def CV.uni : CV → CV → List (Nat × Nat) → List (Nat × Nat)
  | .ptr (some (b, _)), .ptr (some (b', _)), m => insM b b' m
  | .slc (some (b, _)) _ _, .slc (some (b', _)) _ _, m => insM b b' m
  | .agg l, .agg l', m => CV.unil l l' m
  | .tup l, .tup l', m => CV.unil l l' m
  | _, _, m => m
def CV.unil : List CV → List CV → List (Nat × Nat) → List (Nat × Nat)
  | c :: l, d :: l', m => CV.unil l l' (CV.uni c d m)
  | _, _, m => m
end
def lookM (m : List (Nat × Nat)) (b : Nat) : Nat := match m.find? (fun x => Nat.beq x.1 b) with | some x => x.2 | none => 0
noncomputable def uniB (s : St) : List KBlk → Nat → List (Nat × Nat) → List (Nat × Nat)
  | [], _, m => m
  | x :: l, i, m => uniB s l (i + 1) (match s.heap.get (lookM m i) with | some ⟨.lit k, _, _, _⟩ => CV.unil x.1 k m | _ => m)

noncomputable def chkB (s : St) (β : Nat → Nat) (N : Nat) : List KBlk → Nat → Bool
  | [], _ => true
  | x :: l, i => (match s.heap.get (β i) with | some ⟨.lit k, e, true, none⟩ => CV.eqvl β N x.1 k && (Nat.beq e x.2 && Nat.blt (β i) s.next) | _ => false) && chkB s β N l (i + 1)

theorem chkB_ok {s : St} {β : Nat → Nat} {N : Nat} : ∀ {l : List KBlk} {q : Nat}, chkB s β N l q = true → ∀ j x, l[j]? = some x → ∃ k e, s.heap.get (β (q + j)) = some ⟨.lit k, e, true, none⟩ ∧ CV.eqvl β N x.1 k = true ∧ e = x.2 ∧ β (q + j) < s.next
  | [], q, _, j, x, h => by simp at h
  | y :: l, q, h, j, x, hx => by
    unfold chkB at h
    simp only [Bool.and_eq_true] at h
    obtain ⟨h1, h2⟩ := h
    cases j with
    | zero =>
      have e0 : y = x := by simpa using hx
      subst e0
      split at h1
      · rename_i k e hk
        simp only [Bool.and_eq_true] at h1
        exact ⟨k, e, hk, h1.1, Nat.eq_of_beq_eq_true h1.2.1, blt_lt h1.2.2⟩
      · cases h1
    | succ j =>
      have := chkB_ok h2 j x (by simpa using hx)
      rw [show q + 1 + j = q + (j + 1) by omega] at this
      exact this

def nodB : List Nat → Bool
  | [] => true
  | b :: l => !(l.any (Nat.beq b)) && nodB l
theorem nodB_ok : ∀ {l : List Nat}, nodB l = true → ∀ (i j b : Nat), l[i]? = some b → l[j]? = some b → i = j
  | [], _, i, j, b, h, _ => by simp at h
  | c :: l, h, i, j, b, hi, hj => by
    unfold nodB at h
    simp only [Bool.and_eq_true, Bool.not_eq_true'] at h
    have no : ∀ j : Nat, l[j]? = some c → False := fun j hj => by
      have := List.any_eq_false.1 h.1 c (List.mem_of_getElem? hj)
      exact this (Nat.beq_refl c)
    cases i with
    | zero =>
      cases j with
      | zero => rfl
      | succ j =>
        have e0 : c = b := by simpa using hi
        subst e0
        exact (no j (by simpa using hj)).elim
    | succ i =>
      cases j with
      | zero =>
        have e0 : c = b := by simpa using hj
        subst e0
        exact (no i (by simpa using hi)).elim
      | succ j => exact congrArg Nat.succ (nodB_ok h.2 i j b (by simpa using hi) (by simpa using hj))

/-- The names that the blocks have. -/
noncomputable def KCall.bs (K : KCall) (s : St) (args : List CV) : List Nat := (List.range K.blks.length).map (lookM (uniB s K.blks 0 (CV.unil K.args args [])))
def bOf (bs : List Nat) (i : Nat) : Nat := (bs[i]?).getD 0

noncomputable def KCall.fits (K : KCall) (s : St) (args : List CV) (bs : List Nat) : Bool :=
  CV.eqvl (bOf bs) K.blks.length K.args args && (chkB s (bOf bs) K.blks.length K.blks 0 && (nodB bs && (Nat.beq bs.length K.blks.length && (List.range (K.n1 - K.blks.length)).all fun j => (s.heap.get (s.next + j)).isNone)))

noncomputable def memoK (K : KCall) (inner : Memo) : Memo := fun f args s =>
  bif Nat.beq f K.g && K.fits s args (K.bs s args) then
    some (K.c.ren (liftName K.blks.length s.next), { s with heap := putNew K.blks.length s.next s.heap K.newB, next := s.next + (K.n1 - K.blks.length) }, K.bs s args, [])
  else inner f args s

theorem memoK_ok {K : KCall} {inner : Memo} (hK : K.Ok P ρ) (hi : MemoOk P (ctxOf P inner) ρ) : MemoOk P (ctxOf P (memoK K inner)) ρ := by
  have lift : ∀ {f args s c s' R' W}, CallOk P (ctxOf P inner) ρ f args s c s' R' W → CallOk P (ctxOf P (memoK K inner)) ρ f args s c s' R' W := fun h => ⟨h.fn, h.frm, h.lt, h.run⟩
  intro f args s c s' R' W h0
  have h : memoK K inner f args s = some (c, s', R', W) := h0
  clear h0
  unfold memoK at h
  generalize hbs : K.bs s args = bs at h
  cases hf : (Nat.beq f K.g && K.fits s args bs) with
  | false => rw [hf, cond_false] at h; exact lift (hi _ _ _ _ _ _ _ h)
  | true =>
    rw [hf, cond_true] at h
    cases h
    simp only [Bool.and_eq_true, KCall.fits] at hf
    obtain ⟨f1, f2, f3, f4, f5, f6⟩ := hf
    obtain rfl := Nat.eq_of_beq_eq_true f1
    have hlen := Nat.eq_of_beq_eq_true f5
    have hblk := chkB_ok f3
    have at' : ∀ i, i < K.blks.length → R'[i]? = some (bOf R' i) := fun i hi => by
      unfold bOf
      rw [List.getElem?_eq_getElem (by omega)]
      rfl
    have rngw : ∀ x ∈ K.newB, K.blks.length ≤ x.1 ∧ x.1 < K.n1 := fun x hx => (hK.hg x hx).1
    refine Ctr.callS (base := K.blks.length) (n1 := K.n1) (args := K.args) (h0 := hB K.blks 0) (h1 := mkH K.newB) (K := fun _ => hK.ctr) hK.fn hK.le rfl ⟨[], rfl⟩ (fun b hb => ?_) (fun j hj kb hk => ?_) (fun b hb => ?_) (fun σ cur w l hp hl hH hcur => ?_) (fun σ σ2 v hl h => VR.lift hl h hK.rg)
    · show (putNew _ _ _ _).get b = _
      rw [get_putNew]
      split
      · rename_i x hx
        have h1 := List.find?_some hx
        have h2 := List.mem_of_find?_eq_some hx
        simp only [beq_iff_eq] at h1
        obtain ⟨q1, q2⟩ := rngw _ h2
        refine absurd ?_ hb
        show s.next ≤ b ∧ b < s.next + (K.n1 - K.blks.length)
        unfold liftName at h1
        omega
      · rfl
    · have hk : (putNew K.blks.length s.next s.heap K.newB).get (s.next + j) = some kb := hk
      rw [get_putNew] at hk
      have e : ∀ x ∈ K.newB, (liftName K.blks.length s.next x.1 == s.next + j) = (x.1 == K.blks.length + j) := fun x hx => by
        obtain ⟨q1, q2⟩ := rngw x hx
        unfold liftName
        rw [Bool.eq_iff_iff]
        simp only [beq_iff_eq]
        omega
      have hcg := find_congr e
      rw [hcg] at hk
      cases hfd : K.newB.find? (fun x => x.1 == K.blks.length + j) with
      | none =>
        rw [hfd] at hk
        have := List.all_eq_true.1 f6 j (List.mem_range.2 (by omega))
        have hk2 : s.heap.get (s.next + j) = some kb := hk
        rw [hk2] at this
        cases this
      | some x =>
        rw [hfd] at hk
        cases hk
        have hmem := List.mem_of_find?_eq_some hfd
        obtain ⟨_, g1, g2⟩ := hK.hg x hmem
        refine ⟨x.2, ?_, rfl, rfl, ?_, fun h => ?_, fun σ σ2 us hl h => Blk.lift hl g1 h⟩
        · rw [get_mkH, hfd]; rfl
        · obtain ⟨z, hz, rfl⟩ := List.mem_map.1 hmem
          rfl
        · have : (x.2.ren (liftName K.blks.length s.next)).ro = x.2.ro := by
            generalize x.2 = kk
            obtain ⟨bb, e, v, xx⟩ := kk
            cases bb <;> rfl
          rw [← this]; exact h
    · obtain ⟨i, hi'⟩ := List.getElem?_of_mem hb
      have hil : i < K.blks.length := by
        have := (List.getElem?_eq_some_iff.1 hi').1
        omega
      obtain ⟨k, e, _, _, _, q⟩ := hblk i _ (List.getElem?_eq_getElem hil)
      rw [Nat.zero_add] at q
      have := at' i hil
      rw [hi'] at this
      rw [Option.some.inj this]; exact q
    · have hτ : ∀ b, b < K.blks.length → (fun i => if i < K.blks.length then σ (bOf R' i) else none) b = σ (bOf R' b) := fun b hb => if_pos hb
      refine ⟨fun i => if i < K.blks.length then σ (bOf R' i) else none, CV.eqvl_ok hτ _ _ f2 hl, ?_, fun b hb => if_neg (by omega)⟩
      have get : ∀ b k, curOf (hB K.blks 0) K.blks.length b = some k → ∃ x k1, b < K.blks.length ∧ k = KBlk.blk x ∧ cur (bOf R' b) = some ⟨.lit k1, x.2, true, none⟩ ∧ ∀ us, VRl ρ σ k1 us → VRl ρ (fun i => if i < K.blks.length then σ (bOf R' i) else none) x.1 us := by
        intro b k hk
        unfold curOf at hk
        split at hk
        · rename_i hb
          obtain ⟨j, x, rfl, g1, rfl⟩ := hB_get b K.blks 0 k hk
          obtain ⟨k1, e, c1, c2, rfl, c4⟩ := hblk j x g1
          have hm : bOf R' (0 + j) ∈ R' := List.mem_of_getElem? (at' _ hb)
          exact ⟨x, k1, hb, rfl, (hcur _ hm).trans c1, fun us hus => CV.eqvl_ok hτ _ _ c2 hus⟩
        · cases hk
      refine ⟨fun b k l a1 a2 a3 => ?_, fun b b' k k' l l' a1 a2 a3 a4 a5 a6 a7 a8 => ?_, fun b k x l a1 a2 a3 => ?_, fun b b' k k' x x' l l' a1 a2 a3 a4 a5 a6 a7 => ?_, fun y hy => ⟨(hH.glob y hy).1, fun b k l a1 a2 ar a3 => ?_⟩⟩
      · obtain ⟨x, k1, hb, rfl, q1, q2⟩ := get b k a1
        have a3 : (if b < K.blks.length then σ (bOf R' b) else none) = some l := a3
        rw [if_pos hb] at a3
        obtain ⟨cs, t, p, r1, r2, r3, r4, r5, r6⟩ := hH.cell _ _ l q1 rfl a3
        have r7 := q2 _ r6
        have r6l := r6.length
        have r7l := r7.length
        have e1 : Blk.cells ⟨.lit k1, x.2, true, none⟩ = k1 := rfl
        have e2 : Blk.cells (KBlk.blk x) = x.1 := rfl
        rw [e1] at r5 r6 r7 r7l r6l
        have hln : x.1.length = k1.length := r7l.symm.trans r6l
        exact ⟨cs, t, p, r1, fun _ => r2 rfl, r3, r4, by rw [e2, hln]; exact r5, by rw [e2, hln]; exact r7⟩
      · obtain ⟨x, k1, hb, rfl, q1, _⟩ := get b k a1
        obtain ⟨x', k1', hb', rfl, q1', _⟩ := get b' k' a4
        have a3 : (if b < K.blks.length then σ (bOf R' b) else none) = some l := a3
        have a6 : (if b' < K.blks.length then σ (bOf R' b') else none) = some l' := a6
        rw [if_pos hb] at a3
        rw [if_pos hb'] at a6
        have := hH.inj _ _ _ _ l l' q1 rfl a3 q1' rfl a6 a7 (.inl rfl)
        exact nodB_ok f4 b b' _ (at' b hb) (by rw [this]; exact at' b' hb')
      · obtain ⟨x', k1, hb, rfl, _⟩ := get b k a1
        cases a2
      · obtain ⟨x', k1, hb, rfl, _⟩ := get b k a1
        cases a2
      · obtain ⟨x', k1, hb, rfl, q1, _⟩ := get b k a1
        have a3 : (if b < K.blks.length then σ (bOf R' b) else none) = some l := a3
        rw [if_pos hb] at a3
        exact (hH.glob y hy).2 _ _ l q1 rfl rfl a3
end
end Go.Proofs.YtpojncoplaopcaaDoor.Cx

/- A call that is known: math/bits.TrailingZeros64 at a number that is known: what its table holds. -/
namespace Go.Proofs.YtpojncoplaopcaaDoor.Cx
set_option linter.unusedSimpArgs false
set_option linter.unusedVariables false
set_option maxRecDepth 100000
open Go Go.RowKit Go.Proofs.YtpojncoplaopcaaDoor

def tzT : List Int := [0, 1, 56, 2, 57, 49, 28, 3, 61, 58, 42, 50, 38, 29, 17, 4, 62, 47, 59, 36, 45, 43, 51, 22, 53, 39, 33, 30, 24, 18, 12, 5, 63, 55, 48, 27, 60, 41, 37, 16, 46, 35, 44, 21, 52, 32, 23, 11, 54, 26, 40, 15, 34, 20, 31, 10, 25, 14, 19, 9, 13, 8, 7, 6]
def tzI (x : Int) : Int := IntKind.u64.wrap (bits BinOp.and IntKind.u64 x (IntKind.u64.wrap (-x)) * 285870213051353865) / 288230376151711744
def tzV (x : Int) : Int := tzT.getD (tzI x).toNat 0

theorem tzI_rng (x : Int) : 0 ≤ tzI x ∧ tzI x < 64 := by
  have h : ∀ y, 0 ≤ IntKind.u64.wrap y ∧ IntKind.u64.wrap y < 18446744073709551616 := fun y => by
    unfold IntKind.wrap
    simp [IntKind.bits, IntKind.signed]
    omega
  unfold tzI
  have := h (bits BinOp.and IntKind.u64 x (IntKind.u64.wrap (-x)) * 285870213051353865)
  omega

theorem lay_tz : ∃ cs, (1, cs) ∈ lay ∧ cs = (tzT.map (fun n => Value.int .u8 n)).toArray := ⟨_, by first | exact .head _ | exact .tail _ (.head _), by kernel_rfl⟩

theorem tz_cell {w : World} (hL : Laid w) {i : Nat} (hi : i < 64) : w.cell? ⟨1, i, none⟩ = some (.int .u8 (tzT.getD i 0)) := by
  obtain ⟨cs, hm, rfl⟩ := lay_tz
  obtain ⟨t, ht⟩ := hL _ hm
  have hs : i < tzT.length := hi
  rw [cell_at ht, List.getElem?_toArray, List.getElem?_map, List.getElem?_eq_getElem hs]
  simp [List.getD_eq_getElem?_getD, List.getElem?_eq_getElem hs]

set_option maxHeartbeats 400000 in
theorem tz_run (x : Int) (h0 : x ≠ 0) (w : World) (hL : Laid w) : Calls Tryd.prog 79 #[.int .u64 x] w fun e w' => e = .returned (.int .i64 (tzV x)) ∧ w = w' := by
  have hr := tzI_rng x
  have hc := tz_cell hL (i := (tzI x).toNat) (by omega)
  have hT : tzV x = tzT.getD (tzI x).toNat 0 := rfl
  rw [hT]
  have hb : 0 ≤ tzT.getD (tzI x).toNat 0 ∧ tzT.getD (tzI x).toNat 0 < 256 := by
    have : ∀ i : Fin 64, 0 ≤ tzT.getD i.1 0 ∧ tzT.getD i.1 0 < 256 := by decide
    exact this ⟨(tzI x).toNat, by omega⟩
  generalize tzT.getD (tzI x).toNat 0 = v at hc hb ⊢
  unfold tzI at hr hc
  go_enter Tryd.func79, Tryd.ntmps79
  go_wp2
  go_returns
  exact ⟨rfl, rfl⟩

theorem tz_fn : ∃ fn, Tryd.prog.funcs[79]? = some fn ∧ fn.body.isSome = true := ⟨_, Tryd.func79, rfl⟩

/-- At numbers that are known. -/
noncomputable def memoTz (m : Memo) : Memo := fun f args s =>
  match args with
  | [.int .u64 (.c x)] => bif Nat.beq f 79 && !decide (x = 0) then some (.int .i64 (.c (tzV x)), s, [], []) else m f args s
  | _ => m f args s

theorem memoTz_ok {ρ : Env} {m : Memo} (hm : MemoOk Tryd.prog (ctxOf Tryd.prog m) ρ) : MemoOk Tryd.prog (ctxOf Tryd.prog (memoTz m)) ρ := by
  have old : ∀ f args s c s' R W, m f args s = some (c, s', R, W) → CallOk Tryd.prog (ctxOf Tryd.prog (memoTz m)) ρ f args s c s' R W := fun f args s c s' R W h0 => by
    have k := hm f args s c s' R W h0
    exact ⟨k.fn, k.frm, k.lt, k.run⟩
  intro f args s c s' R W hq
  have hq' : memoTz m f args s = some (c, s', R, W) := hq
  unfold memoTz at hq'
  split at hq'
  · rename_i x
    cases hf : (Nat.beq f 79 && !decide (x = 0)) with
    | false => rw [hf, cond_false] at hq'; exact old _ _ _ _ _ _ _ hq'
    | true =>
      rw [hf, cond_true] at hq'
      simp only [Bool.and_eq_true, Bool.not_eq_true', decide_eq_false_iff_not] at hf
      obtain rfl : f = 79 := Nat.eq_of_beq_eq_true hf.1
      cases hq'
      refine ⟨tz_fn, Frm.refl _ _, ⟨fun b hb => by simp at hb, fun b hb => by simp at hb⟩, ?_⟩
      intro n σ cur w args' hp hargs hH hA hN
      obtain ⟨v, e0, hv⟩ : ∃ v, args' = #[v] ∧ VR ρ σ (.int .u64 (.c x)) v := by
        obtain ⟨l⟩ := args'
        cases hargs with
        | cons hv hr => cases hr; exact ⟨_, rfl, hv⟩
      subst e0
      cases hv
      have := (callsIn_wide (n := n)).2 (tz_run x hf.2 w hH.laid)
      refine CallsIn.mono (F := fc none) this ?_
      rintro e w' ⟨rfl, rfl⟩
      refine ⟨_, rfl, σ, Ext.refl _ _ _, .int .i64 (.c _), ?_, Keeps.refl _ _ _ _, Fresh.none _ _ _ _ _ _⟩
      rw [upd_none]
      exact hH
  · exact old _ _ _ _ _ _ _ hq'
end Go.Proofs.YtpojncoplaopcaaDoor.Cx

/- CALLS THAT ARE RUN: a function that has an automaton, called with numbers that are known, yields what its automaton's run yields; the kernel runs that in place of the evaluator. -/
namespace Go.Proofs.YtpojncoplaopcaaDoor.Cx
set_option linter.unusedSimpArgs false
set_option linter.unusedVariables false
open Go Go.RowKit

theorem St.musts_eq : ∀ (l : List Bool) (s : St), s.musts l = some { s with pc := (l.reverse.map fun b => .b (.x b) true) ++ s.pc }
  | [], s => rfl
  | b :: l, s => by
    show (match s.must (.x b) with | some s => s.musts l | none => none) = _
    have : s.must (.x b) = some { s with pc := .b (.x b) true :: s.pc } := rfl
    rw [this]
    show St.musts _ l = _
    rw [St.musts_eq l]
    simp

def rowKs : List (Option IntKind) → List CV → Bool
  | [], [] => true
  | some k :: ks, .int k' (.c _) :: l => decide (k = k') && rowKs ks l
  | none :: ks, .bool (.c _) :: l => rowKs ks l
  | _, _ => false

theorem rowKs_ok (row : List CV) (i : Nat) : ∀ (ks : List (Option IntKind)) (l pre : List CV), row = pre ++ l → rowKs ks l = true → CV.nrml l = rowCs (fun j _ => (row.getD j .junk).numD) (fun j _ => (row.getD j .junk).bitD) i ks pre.length
  | [], [], pre, _, _ => rfl
  | [], c :: l, pre, _, h => by simp [rowKs] at h
  | some k :: ks, [], pre, _, h => by simp [rowKs] at h
  | none :: ks, [], pre, _, h => by simp [rowKs] at h
  | some k :: ks, c :: l, pre, e, h => by
    unfold rowKs at h
    split at h
    · rename_i h1 h2; cases h1
    · rename_i k0 ks0 k' n l0 h1 h2
      cases h1; cases h2
      simp only [Bool.and_eq_true, decide_eq_true_eq] at h
      obtain ⟨rfl, h⟩ := h
      have ih := rowKs_ok row i ks l (pre ++ [.int k (.c n)]) (by rw [e]; simp) h
      rw [List.length_append, List.length_singleton] at ih
      have hg : (row.getD pre.length .junk).numD = n := by rw [e]; simp [CV.numD, IE.num]
      show CV.int k (.x n) :: CV.nrml l = CV.int k (.x ((row.getD pre.length .junk).numD)) :: _
      rw [ih, hg]
    · rename_i h1 h2; cases h1
    · cases h
  | none :: ks, c :: l, pre, e, h => by
    unfold rowKs at h
    split at h
    · rename_i h1 h2; cases h1
    · rename_i h1 h2; cases h1
    · rename_i ks0 b l0 h1 h2
      cases h1; cases h2
      have ih := rowKs_ok row i ks l (pre ++ [.bool (.c b)]) (by rw [e]; simp) h
      rw [List.length_append, List.length_singleton] at ih
      have hg : (row.getD pre.length .junk).bitD = b := by rw [e]; simp [CV.bitD, BE.val]
      show CV.bool (.x b) :: CV.nrml l = CV.bool (.x ((row.getD pre.length .junk).bitD)) :: _
      rw [ih, hg]
    · cases h

theorem rowCs_at {c c' : Nat → Nat → Int} {g g' : Nat → Nat → Bool} (i : Nat) : ∀ (ks : List (Option IntKind)) (j : Nat), (∀ j, c j i = c' j i) → (∀ j, g j i = g' j i) → rowCs c g i ks j = rowCs c' g' i ks j
  | [], _, _, _ => rfl
  | some k :: ks, j, h1, h2 => by simp only [rowCs]; rw [h1, rowCs_at i ks (j + 1) h1 h2]
  | none :: ks, j, h1, h2 => by simp only [rowCs]; rw [h2, rowCs_at i ks (j + 1) h1 h2]

/-- Rows of numbers that are known, of these kinds. -/
noncomputable def rowsChk (s : St) (ks : List (Option IntKind)) : CV → Bool
  | .slc none _ _ => true
  | .emp => true
  | .slc (some (b, o)) n c => match s.heap.get b with
    | some ⟨.lit l, _, _, _⟩ => (List.range n).all fun i => rowKs ks ((l.drop (o + i * ks.length)).take ks.length)
    | _ => false
  | _ => false

theorem rowsChk_ok {s : St} {ks : List (Option IntKind)} {c : CV} {t : Tab} {sh : List Bool} {R : List Nat} (h : rowsOf s ks c = some (t, sh, R)) (hc : rowsChk s ks c = true) : ∀ b ∈ sh, b = true := by
  unfold rowsChk at hc
  split at hc
  · unfold rowsOf at h; cases h; intro b hb; cases hb
  · unfold rowsOf at h; cases h; intro b hb; cases hb
  · rename_i b o n cp
    split at hc
    · rename_i l e live x hk
      unfold rowsOf at h
      simp only [hk] at h
      cases live with
      | false => cases h
      | true =>
        simp only at h
        generalize hg : (Nat.ble (o + n * ks.length) l.length && Nat.ble n cp && Nat.blt b s.next) = g at h
        cases g with
        | false => cases h
        | true =>
          rw [cond_true] at h
          cases h
          intro y hy
          obtain rfl := List.mem_singleton.1 hy
          refine shape_ok fun i hi => ?_
          have hi : i < n := hi
          have := List.all_eq_true.1 hc i (List.mem_range.2 hi)
          have := rowKs_ok ((l.drop (o + i * ks.length)).take ks.length) i ks ((l.drop (o + i * ks.length)).take ks.length) [] rfl this
          rw [this]
          exact rowCs_at _ _ _ (fun _ => rfl) (fun _ => rfl)
    · cases hc
  · cases hc

noncomputable def AQ.chk (s : St) : List AQ → List CV → Bool
  | [], _ => true
  | .rows ks :: l, c :: m => rowsChk s ks c && AQ.chk s l m
  | .int _ :: l, _ :: m => AQ.chk s l m
  | .bool :: l, _ :: m => AQ.chk s l m
  | _, _ => false

theorem AQ.chk_ok {s : St} : ∀ {ps : List AQ} {args : List CV} {g a : AG}, AQ.gets s ps args g = some a → AQ.chk s ps args = true → (∀ b ∈ g.sh, b = true) → ∀ b ∈ a.sh, b = true
  | [], args, g, a, h, hc, hg => by
    cases args <;> simp only [AQ.gets] at h <;> try (cases h; done)
    cases h; exact hg
  | p :: l, args, g, a, h, hc, hg => by
    cases args with
    | nil => simp only [AQ.gets] at h; cases h
    | cons c m =>
      simp only [AQ.gets] at h
      cases hp : AQ.get s p c g with
      | none => rw [hp] at h; cases h
      | some g1 =>
        rw [hp] at h
        cases p with
        | int k =>
          refine AQ.chk_ok (ps := l) h hc ?_
          cases c <;> simp only [AQ.get] at hp <;> try (cases hp; done)
          rename_i k' e
          cases hk : decide (k = k') with
          | false => rw [hk] at hp; cases hp
          | true =>
            rw [hk, cond_true] at hp
            split at hp
            · cases hp; exact hg
            · cases hp
        | bool =>
          refine AQ.chk_ok (ps := l) h hc ?_
          cases c <;> simp only [AQ.get] at hp <;> try (cases hp; done)
          split at hp
          · cases hp; exact hg
          · cases hp
        | agg q => cases hc
        | rows ks =>
          simp only [AQ.chk, Bool.and_eq_true] at hc
          refine AQ.chk_ok (ps := l) h hc.2 ?_
          simp only [AQ.get] at hp
          split at hp
          · rename_i t sh R hr
            cases hp
            intro b hb
            rcases List.mem_append.1 hb with hb | hb
            · exact hg b hb
            · exact rowsChk_ok hr hc.1 b hb
          · cases hp

section
variable {P : Program} {ρ : Env}

noncomputable def memoSC {N R : Type} [Inhabited R] (g : Nat) (ps : List AQ) (F : AW → AF N R) (out : R → CV) (fuel : Nat) (inner : Memo) : Memo := fun f args s =>
  bif Nat.beq f g then
    match AQ.gets s ps args ⟨⟨[], [], []⟩, [], []⟩ with
    | some a => match (F a.v).run fuel with
      | some r => bif AQ.chk s ps args then some (out r, s, a.R, []) else none
      | none => none
    | none => inner f args s
  else inner f args s

theorem memoSC_ok {N R : Type} [Inhabited R] {g : Nat} {ps : List AQ} {F : AW → AF N R} {rw' : R → CV} {hw : R → List (Nat × Blk)} {nw : Nat} {inner : Memo} {out : R → CV} {fuel : Nat} (K : KnownS P ρ g ps F rw' hw nw) (hm : ∀ a, (F a).Mono) (hn : nw = (AQ.ksss ps).length) (hh : ∀ r, hw r = [])
    (ho : ∀ r f σ v, VR ρ σ ((rw' r).ren f) v → VR ρ σ (out r) v) (hi : MemoOk P (ctxOf P inner) ρ) : MemoOk P (ctxOf P (memoSC g ps F out fuel inner)) ρ := by
  intro f args s c s' R' W h0
  have h : memoSC g ps F out fuel inner f args s = some (c, s', R', W) := h0
  clear h0
  have lift : ∀ {f args s c s' R' W}, CallOk P (ctxOf P inner) ρ f args s c s' R' W → CallOk P (ctxOf P (memoSC g ps F out fuel inner)) ρ f args s c s' R' W := fun h => ⟨h.fn, h.frm, h.lt, h.run⟩
  unfold memoSC at h
  cases hf : Nat.beq f g with
  | false => rw [hf, cond_false] at h; exact lift (hi _ _ _ _ _ _ _ h)
  | true =>
    rw [hf, cond_true] at h
    split at h
    · rename_i a ha
      split at h
      · rename_i r hr
        cases hsh : AQ.chk s ps args with
        | false => rw [hsh] at h; cases h
        | true =>
          rw [hsh] at h
          cases h
          obtain ⟨v1, v2⟩ := AF.val_of (hm a.v) hr
          have e : memoS g ps F rw' hw nw inner f args s = some ((rw' (F a.v).val).ren (liftName (AQ.ksss ps).length s.next), { (⟨s.heap, s.next, s.orc, ((a.sh ++ [(F a.v).fin]).reverse.map fun b => .b (.x b) true) ++ s.pc⟩ : St) with heap := putNew (AQ.ksss ps).length s.next s.heap (hw (F a.v).val), next := s.next + (nw - (AQ.ksss ps).length) }, a.R, []) := by
            unfold memoS
            rw [hf, cond_true, ha]
            simp only [St.musts_eq]
          have k := memoS_ok K hi f args s _ _ _ _ e
          refine ⟨k.fn, Frm.refl _ _, k.lt, ?_⟩
          intro n σ cur w args' hp hargs hH hA hN
          have hs : s.next + (nw - (AQ.ksss ps).length) = s.next := by omega
          have hpc : ∀ p ∈ ((a.sh ++ [(F a.v).fin]).reverse.map fun b => PC.b (.x b) true) ++ s.pc, p.holds ρ := by
            intro p hp'
            rcases List.mem_append.1 hp' with hp' | hp'
            · obtain ⟨b, hb, rfl⟩ := List.mem_map.1 hp'
              rcases List.mem_append.1 (List.mem_reverse.1 hb) with hb | hb
              · exact AQ.chk_ok ha hsh (fun b hb => by cases hb) b hb
              · obtain rfl := List.mem_singleton.1 hb
                exact v1
            · exact hp p hp'
          have := k.run n σ cur w args' hpc hargs hH hA (fun b h1 h2 => by
            have h2 : b < s.next + (nw - (AQ.ksss ps).length) := h2
            omega)
          refine this.mono ?_
          rintro e' w' ⟨v, rfl, σ', h1, h2, h3, h4, h5⟩
          have h1 : Ext σ σ' s.next (s.next + (nw - (AQ.ksss ps).length)) := h1
          have h3 : HR ρ σ' (upd cur s.next (s.next + (nw - (AQ.ksss ps).length)) (putNew (AQ.ksss ps).length s.next s.heap (hw (F a.v).val)) []) w' := h3
          have h5 : Fresh σ σ' s.next (s.next + (nw - (AQ.ksss ps).length)) s.next [] w := h5
          rw [hs] at h1 h3 h5
          rw [hh] at h3
          rw [v2] at h2
          exact ⟨v, rfl, σ', h1, ho r _ _ _ h2, h3, h4, h5⟩
      · cases h
    · exact lift (hi _ _ _ _ _ _ _ h)

noncomputable def memoAC {N R : Type} [Inhabited R] (g : Nat) (ps : List AP) (F : AV → AF N R) (out : R → CV) (fuel : Nat) (inner : Memo) : Memo := fun f args s =>
  bif Nat.beq f g then
    match AP.gets ps args ⟨[], []⟩ with
    | some a => match (F a).run fuel with
      | some r => some (out r, s, [], [])
      | none => none
    | none => inner f args s
  else inner f args s

theorem memoAC_ok {N R : Type} [Inhabited R] {g : Nat} {ps : List AP} {F : AV → AF N R} {inner : Memo} {out : R → CV} {fuel : Nat} (K : KnownA P ρ g ps F) (hm : ∀ a, (F a).Mono)
    (ho : ∀ a r σ v, VR ρ σ ((F a).rc r) v → VR ρ σ (out r) v) (hi : MemoOk P (ctxOf P inner) ρ) : MemoOk P (ctxOf P (memoAC g ps F out fuel inner)) ρ := by
  intro f args s c s' R' W h0
  have h : memoAC g ps F out fuel inner f args s = some (c, s', R', W) := h0
  clear h0
  have lift : ∀ {f args s c s' R' W}, CallOk P (ctxOf P inner) ρ f args s c s' R' W → CallOk P (ctxOf P (memoAC g ps F out fuel inner)) ρ f args s c s' R' W := fun h => ⟨h.fn, h.frm, h.lt, h.run⟩
  unfold memoAC at h
  cases hf : Nat.beq f g with
  | false => rw [hf, cond_false] at h; exact lift (hi _ _ _ _ _ _ _ h)
  | true =>
    rw [hf, cond_true] at h
    split at h
    · rename_i a ha
      split at h
      · rename_i r hr
        cases h
        obtain ⟨v1, v2⟩ := AF.val_of (hm a) hr
        have e : memoA g ps F inner f args s = some ((F a).rc (F a).val, ⟨s.heap, s.next, s.orc, .b (.x (F a).fin) true :: s.pc⟩, [], []) := by
          unfold memoA
          rw [hf, cond_true, ha]
          rfl
        have k := memoA_ok K hi f args s _ _ _ _ e
        refine ⟨k.fn, Frm.refl _ _, ⟨fun b hb => by simp at hb, fun b hb => by simp at hb⟩, ?_⟩
        intro n σ cur w args' hp hargs hH hA hN
        have hpc : ∀ p ∈ (PC.b (.x (F a).fin) true :: s.pc), p.holds ρ := by
          intro p hp'
          rcases List.mem_cons.1 hp' with rfl | hp'
          · exact v1
          · exact hp p hp'
        have := k.run n σ cur w args' hpc hargs hH hA (fun b h1 h2 => by
          have h2 : b < s.next := h2
          omega)
        refine this.mono ?_
        rintro e' w' ⟨v, rfl, σ', h1, h2, h3, h4, h5⟩
        rw [v2] at h2
        exact ⟨v, rfl, σ', h1, ho _ r _ _ h2, h3, h4, h5⟩
      · cases h
    · exact lift (hi _ _ _ _ _ _ _ h)

theorem vr_int {σ : Mp} {k : IntKind} {n : Int} {v : Value} (h : VR ρ σ (.int k (.x n)) v) : VR ρ σ (.int k (.c n)) v := by
  obtain rfl := h.int_inv
  exact .int k (.c n)
end
end Go.Proofs.YtpojncoplaopcaaDoor.Cx

/- (acme/lot.set).pieces as an automaton. Made by tools/cxauto.py. -/
namespace Go.Proofs.YtpojncoplaopcaaDoor.Cx
set_option linter.unusedVariables false
set_option linter.unusedSimpArgs false
set_option maxRecDepth 100000
open Go Go.Proofs Go.RowKit

noncomputable abbrev lpcCode : Code := funcCode Tryd.f64


inductive lpcN where
  | n0 (p0 : Int) (p1 : Int)

abbrev lpcR := Int

noncomputable def lpcD0 (a0 : Int) (a1 : Nat) (a2 : Nat → Int) : DD (Lf lpcN lpcR) :=
 .leaf (.next (.n0 0 0) [])

noncomputable def lpcD (a0 : Int) (a1 : Nat) (a2 : Nat → Int) : lpcN → DD (Lf lpcN lpcR)
 | .n0 p0 p1 =>
 .ask (Cm.run Cm.lss p1 (↑a1 : Int))
   (.must (decide (0 ≤ p1))
   (.must (decide (p1 < (↑a1 : Int)))
   (.must (decide (0 + Int.toNat p1 < a1))
   (.must (Cm.run Cm.geq p1 0)
   (.ask (Cm.run Cm.neq (Ar.run Ar.and IntKind.u64 (Ar.run Ar.shr IntKind.u64 a0 p1) 1) 0)
   (.leaf (.next (.n0 (Ar.run Ar.add IntKind.i64 p0 (a2 (0 + Int.toNat p1))) (Ar.run Ar.add IntKind.i64 p1 1)) []))
   (.leaf (.next (.n0 p0 (Ar.run Ar.add IntKind.i64 p1 1)) [])))))))
   (.leaf (.done p0 []))

noncomputable def lpcA (a0 : Int) (a1 : Nat) (a2 : Nat → Int) : AF lpcN lpcR where
  code := lpcCode
  base := 1
  nt := 25
  m := 400
  un := []
  W := []
  h0 := [(0, ⟨.arg a1 1 (fun i => [.int .i64 (.x (a2 i))]) (fun _ => ⟨rfl, rfl⟩), 1, true, none⟩)]
  args := [.int .u64 (.x a0), .sla 0 1 0 a1]
  res := (Tryd.f64).results.toList
  path := fun a => match a with
   | .n0 p0 p1 => [1, 1, 0, 1, 0]
  pd := fun a => match a with
   | .n0 p0 p1 => ⟨[(0, .int .u64 (.x a0)), (5, .int .i64 (.x p0)), (8, .sla 0 1 0 a1), (9, .int .i64 (.x (↑a1))), (10, .int .i64 (.x p1))], [], 1, []⟩
  D0 := lpcD0 a0 a1 a2
  D := lpcD a0 a1 a2
  rc := (fun v => .int .i64 (.x v))
  rh := (fun v => [])
  rn := (fun v => 1)
  rx := (fun v => [])
  rgo := (fun _ => none)


theorem lpcstart (a0 : Int) (a1 : Nat) (a2 : Nat → Int) : AF.edgeOk (lpcA a0 a1 a2) (ctxOf Tryd.prog memo0) (lpcD0 a0 a1 a2) (AF.run0 (lpcA a0 a1 a2) (ctxOf Tryd.prog memo0)) := by unfold AF.edgeOk; kernel_rfl

theorem lpcnode0 (a0 : Int) (a1 : Nat) (a2 : Nat → Int) (p0 : Int) (p1 : Int) : AF.edgeOk (lpcA a0 a1 a2) (ctxOf Tryd.prog memo0) (lpcD a0 a1 a2 (.n0 p0 p1)) (AF.runN (lpcA a0 a1 a2) (ctxOf Tryd.prog memo0) (.n0 p0 p1)) := by unfold AF.edgeOk; kernel_rfl

theorem lpcok (a0 : Int) (a1 : Nat) (a2 : Nat → Int) : (lpcA a0 a1 a2).Ok Tryd.prog (ctxOf Tryd.prog memo0) where
  regs := by kernel_rfl
  h0 := by kernel_rfl
  start := lpcstart a0 a1 a2
  node := fun a _ => match a with
   | .n0 p0 p1 => lpcnode0 a0 a1 a2 p0 p1
  pd := fun a => match a with
   | .n0 p0 p1 => ⟨(fa_cons rfl (fa_cons rfl (fa_cons rfl (fa_cons rfl (fa_cons rfl fa_nil))))), fa_nil, fa_nil, rfl⟩
  le := fun a => match a with
   | .n0 p0 p1 => Nat.le_of_ble_eq_true rfl
  rd := fun v => ⟨⟨fa_nil, fa_nil, fa_nil, rfl⟩, rfl⟩
  wb := rfl


theorem lpchR {ρ : Env} (a0 : Int) (a1 : Nat) (a2 : Nat → Int) (hM : MemoOk Tryd.prog (ctxOf Tryd.prog memo0) ρ) : ∀ X a q n D, FxOk ρ X → X.base = (lpcA a0 a1 a2).base → X.nt = (lpcA a0 a1 a2).nt → X.W = (lpcA a0 a1 a2).W → (lpcA a0 a1 a2).rgo a = some q → q n = some D → (lpcA a0 a1 a2).RangeOk Tryd.prog ρ X a D := AF.noRange rfl

theorem lpcctr {ρ : Env} (a0 : Int) (a1 : Nat) (a2 : Nat → Int) {n : Nat} {v : lpcR} (hM : MemoOk Tryd.prog (ctxOf Tryd.prog memo0) ρ) (hv : (lpcA a0 a1 a2).run n = some v) :
    Ctr Tryd.prog ρ 64 (lpcA a0 a1 a2).args (lpcA a0 a1 a2).H0 (lpcA a0 a1 a2).base (lpcA a0 a1 a2).W ((lpcA a0 a1 a2).rc v) (putH (lpcA a0 a1 a2).H0 ((lpcA a0 a1 a2).rh v ++ (lpcA a0 a1 a2).rx v)) ((lpcA a0 a1 a2).rn v) :=
  AF.ctr try_ok hM (lpcok a0 a1 a2) (fn := Tryd.f64) Tryd.func64 rfl rfl (Nat.le_of_ble_eq_true rfl) rfl (lpchR a0 a1 a2 hM) hv


theorem lpcmem {ρ : Env} : MemoOk Tryd.prog (ctxOf Tryd.prog memo0) ρ := memo0_ok


abbrev lpcP : List AQ := [.int .u64, .rows [some .i64]]

noncomputable def lpcF (v : AW) : AF lpcN lpcR := lpcA (v.i.getD 0 0) (v.t.getD 0 .none).n ((v.t.getD 0 .none).c 0)

noncomputable def lpcW : lpcR → CV := fun v => .int .i64 (.x v)
noncomputable def lpcH : lpcR → List (Nat × Blk) := fun v => []



instance : Inhabited lpcR := ⟨0⟩
theorem lpcknown {ρ : Env} (hM : MemoOk Tryd.prog (ctxOf Tryd.prog memo0) ρ) : KnownS Tryd.prog ρ 64 lpcP lpcF lpcW lpcH 1 where
  fn := ⟨Tryd.f64, Tryd.func64, rfl⟩
  le := Nat.le_of_ble_eq_true rfl
  full := fun r => rfl
  rg := fun r => rfl
  hg := fun r => fa_nil
  ctr := fun v n r h => lpcctr (v.i.getD 0 0) (v.t.getD 0 .none).n ((v.t.getD 0 .none).c 0) hM h

end Go.Proofs.YtpojncoplaopcaaDoor.Cx

/- What runs of package lot may take as known: sums, binomials, trailing zeros. -/
namespace Go.Proofs.YtpojncoplaopcaaDoor.Cx
set_option maxRecDepth 100000
set_option linter.unusedVariables false
open Go Go.Proofs Go.RowKit
noncomputable def lotM : Memo := memoSC 64 lpcP lpcF (fun r => .int .i64 (.c r)) 100 (memoAC 40 lchP lchF (fun r => .int .i64 (.c r)) 100 (memoTz memo0))
theorem lotM_ok {ρ : Env} : MemoOk Tryd.prog (ctxOf Tryd.prog lotM) ρ :=
  memoSC_ok (lpcknown lpcmem) (fun _ => AF.mono_none fun _ => rfl) rfl (fun _ => rfl) (fun _ _ _ _ h => vr_int h) (memoAC_ok (lchknown lchmem) (fun _ => AF.mono_none fun _ => rfl) (fun _ _ _ _ h => vr_int h) (memoTz_ok memo0_ok))
end Go.Proofs.YtpojncoplaopcaaDoor.Cx

/- Calls that acme/acmelaw11.known makes, each known by a run of its own. Made by tools/cxkcalls.py. -/
namespace Go.Proofs.YtpojncoplaopcaaDoor.Cx
set_option maxRecDepth 100000
set_option linter.unusedVariables false
open Go Go.Proofs Go.RowKit

def CxKn11K0 : KCall := ⟨27, [.slc (some (0, 0)) 3 3], [([.slc (some (1, 0)) 3 3, .slc (some (2, 0)) 3 3, .slc (some (3, 0)) 3 3], 1), ([.int .i64 (.c 0), .int .i64 (.c 0), .int .i64 (.c 2)], 1), ([.int .i64 (.c 1), .int .i64 (.c 0), .int .i64 (.c 0)], 1), ([.int .i64 (.c 1), .int .i64 (.c 1), .int .i64 (.c 1)], 1)], 48, .tup [.slc none 0 0, .int .i64 (.c 0)], []⟩
theorem CxKn11K0_run : CxKn11K0.says (eval (ctxOf Tryd.prog lotM) 1000 CxKn11K0.blks.length (.call CxKn11K0.g CxKn11K0.args) ⟨hB CxKn11K0.blks 0, CxKn11K0.blks.length, [], []⟩) = true := by kernel_rfl
theorem CxKn11K0_ok {ρ : Env} : CxKn11K0.Ok Tryd.prog ρ := KCall.of_run try_ok lotM_ok (by kernel_rfl) (by kernel_rfl) (by kernel_rfl) (by kernel_rfl) CxKn11K0_run

def CxKn11K1 : KCall := ⟨29, [.slc (some (0, 0)) 3 3], [([.slc (some (1, 0)) 3 3, .slc (some (2, 0)) 3 3, .slc (some (3, 0)) 3 3], 1), ([.int .i64 (.c 0), .int .i64 (.c 0), .int .i64 (.c 2)], 1), ([.int .i64 (.c 1), .int .i64 (.c 0), .int .i64 (.c 0)], 1), ([.int .i64 (.c 1), .int .i64 (.c 1), .int .i64 (.c 1)], 1)], 188, .tup [.int .i64 (.c 2), .int .i64 (.c 0)], []⟩
theorem CxKn11K1_run : CxKn11K1.says (eval (ctxOf Tryd.prog lotM) 1000 CxKn11K1.blks.length (.call CxKn11K1.g CxKn11K1.args) ⟨hB CxKn11K1.blks 0, CxKn11K1.blks.length, [], []⟩) = true := by kernel_rfl
theorem CxKn11K1_ok {ρ : Env} : CxKn11K1.Ok Tryd.prog ρ := KCall.of_run try_ok lotM_ok (by kernel_rfl) (by kernel_rfl) (by kernel_rfl) (by kernel_rfl) CxKn11K1_run

end Go.Proofs.YtpojncoplaopcaaDoor.Cx

/- Calls that acme/acmelaw11.known makes, each known by a run of its own. Made by tools/cxkcalls.py. -/
namespace Go.Proofs.YtpojncoplaopcaaDoor.Cx
set_option maxRecDepth 100000
set_option linter.unusedVariables false
open Go Go.Proofs Go.RowKit

def CxKn11K2 : KCall := ⟨30, [.slc (some (0, 0)) 3 3], [([.slc (some (1, 0)) 3 3, .slc (some (2, 0)) 3 3, .slc (some (3, 0)) 3 3], 1), ([.int .i64 (.c 0), .int .i64 (.c 0), .int .i64 (.c 2)], 1), ([.int .i64 (.c 1), .int .i64 (.c 0), .int .i64 (.c 0)], 1), ([.int .i64 (.c 1), .int .i64 (.c 1), .int .i64 (.c 1)], 1)], 232, .tup [.slc (some (231, 0)) 5 5, .int .i64 (.c 0)], [(231, ([.int .i64 (.c 0), .int .i64 (.c (-1)), .int .i64 (.c 1), .int .i64 (.c 2), .int .i64 (.c (-1)), .int .i64 (.c 0), .int .i64 (.c (-1)), .int .i64 (.c (-1)), .int .i64 (.c 1), .int .i64 (.c (-1)), .int .i64 (.c 3), .int .i64 (.c 4), .int .i64 (.c (-1)), .int .i64 (.c 1), .int .i64 (.c (-1)), .int .i64 (.c (-1)), .int .i64 (.c (-1)), .int .i64 (.c 2), .int .i64 (.c (-1)), .int .i64 (.c (-1))], 4))]⟩
theorem CxKn11K2_run : CxKn11K2.says (eval (ctxOf Tryd.prog lotM) 1000 CxKn11K2.blks.length (.call CxKn11K2.g CxKn11K2.args) ⟨hB CxKn11K2.blks 0, CxKn11K2.blks.length, [], []⟩) = true := by kernel_rfl
theorem CxKn11K2_ok {ρ : Env} : CxKn11K2.Ok Tryd.prog ρ := KCall.of_run try_ok lotM_ok (by kernel_rfl) (by kernel_rfl) (by kernel_rfl) (by kernel_rfl) CxKn11K2_run

def CxKn11K3 : KCall := ⟨31, [.slc (some (0, 0)) 3 3, .slc (some (1, 0)) 3 3], [([.slc (some (2, 0)) 3 3, .slc (some (3, 0)) 3 3, .slc (some (4, 0)) 3 3], 1), ([.int .i64 (.c 1), .int .i64 (.c 5), .int .i64 (.c 20)], 1), ([.int .i64 (.c 0), .int .i64 (.c 0), .int .i64 (.c 0)], 1), ([.int .i64 (.c 1), .int .i64 (.c 0), .int .i64 (.c 0)], 1), ([.int .i64 (.c 1), .int .i64 (.c 1), .int .i64 (.c 1)], 1)], 161, .tup [.int .i64 (.c 32), .int .i64 (.c 0)], []⟩
theorem CxKn11K3_run : CxKn11K3.says (eval (ctxOf Tryd.prog lotM) 1000 CxKn11K3.blks.length (.call CxKn11K3.g CxKn11K3.args) ⟨hB CxKn11K3.blks 0, CxKn11K3.blks.length, [], []⟩) = true := by kernel_rfl
theorem CxKn11K3_ok {ρ : Env} : CxKn11K3.Ok Tryd.prog ρ := KCall.of_run try_ok lotM_ok (by kernel_rfl) (by kernel_rfl) (by kernel_rfl) (by kernel_rfl) CxKn11K3_run

end Go.Proofs.YtpojncoplaopcaaDoor.Cx

/- Calls that acme/acmelaw11.known makes, each known by a run of its own. Made by tools/cxkcalls.py. -/
namespace Go.Proofs.YtpojncoplaopcaaDoor.Cx
set_option maxRecDepth 100000
set_option linter.unusedVariables false
open Go Go.Proofs Go.RowKit

def CxKn11K4 : KCall := ⟨32, [.slc (some (0, 0)) 3 3, .int .i64 (.c 10), .slc (some (1, 0)) 3 3], [([.slc (some (2, 0)) 3 3, .slc (some (3, 0)) 3 3, .slc (some (4, 0)) 3 3], 1), ([.int .i64 (.c 6), .int .i64 (.c 2), .int .i64 (.c 5)], 1), ([.int .i64 (.c 0), .int .i64 (.c 0), .int .i64 (.c 2)], 1), ([.int .i64 (.c 1), .int .i64 (.c 0), .int .i64 (.c 0)], 1), ([.int .i64 (.c 1), .int .i64 (.c 1), .int .i64 (.c 1)], 1)], 539, .tup [.slc (some (234, 0)) 3 3, .int .i64 (.c 0)], [(234, ([.int .i64 (.c 4), .int .i64 (.c 4), .int .i64 (.c 4), .int .i64 (.c 4), .int .i64 (.c 2), .int .i64 (.c 2)], 2))]⟩
theorem CxKn11K4_run : CxKn11K4.says (eval (ctxOf Tryd.prog lotM) 1000 CxKn11K4.blks.length (.call CxKn11K4.g CxKn11K4.args) ⟨hB CxKn11K4.blks 0, CxKn11K4.blks.length, [], []⟩) = true := by kernel_rfl
theorem CxKn11K4_ok {ρ : Env} : CxKn11K4.Ok Tryd.prog ρ := KCall.of_run try_ok lotM_ok (by kernel_rfl) (by kernel_rfl) (by kernel_rfl) (by kernel_rfl) CxKn11K4_run

def CxKn11K5 : KCall := ⟨32, [.slc (some (0, 0)) 3 3, .int .i64 (.c 10), .slc (some (1, 0)) 3 3], [([.slc (some (2, 0)) 3 3, .slc (some (3, 0)) 3 3, .slc (some (4, 0)) 3 3], 1), ([.int .i64 (.c 6), .int .i64 (.c 2), .int .i64 (.c 7)], 1), ([.int .i64 (.c 0), .int .i64 (.c 0), .int .i64 (.c 2)], 1), ([.int .i64 (.c 1), .int .i64 (.c 0), .int .i64 (.c 0)], 1), ([.int .i64 (.c 1), .int .i64 (.c 1), .int .i64 (.c 1)], 1)], 533, .tup [.slc none 0 0, .int .i64 (.c 9)], []⟩
theorem CxKn11K5_run : CxKn11K5.says (eval (ctxOf Tryd.prog lotM) 1000 CxKn11K5.blks.length (.call CxKn11K5.g CxKn11K5.args) ⟨hB CxKn11K5.blks 0, CxKn11K5.blks.length, [], []⟩) = true := by kernel_rfl
theorem CxKn11K5_ok {ρ : Env} : CxKn11K5.Ok Tryd.prog ρ := KCall.of_run try_ok lotM_ok (by kernel_rfl) (by kernel_rfl) (by kernel_rfl) (by kernel_rfl) CxKn11K5_run

end Go.Proofs.YtpojncoplaopcaaDoor.Cx

/- Calls that acme/acmelaw11.known makes, each known by a run of its own. Made by tools/cxkcalls.py. -/
namespace Go.Proofs.YtpojncoplaopcaaDoor.Cx
set_option maxRecDepth 100000
set_option linter.unusedVariables false
open Go Go.Proofs Go.RowKit

def CxKn11K6 : KCall := ⟨7, [.int .i64 (.c 20), .int .i64 (.c 1), .int .i64 (.c 6), .agg [.int .i64 (.c 1), .int .i64 (.c 10)], .agg [.int .i64 (.c 1), .int .i64 (.c 10)]], [], 255, .tup [.agg [.int .i64 (.c 10), .int .i64 (.c 1)], .int .i64 (.c 0)], []⟩
theorem CxKn11K6_run : CxKn11K6.says (eval (ctxOf Tryd.prog lotM) 1000 CxKn11K6.blks.length (.call CxKn11K6.g CxKn11K6.args) ⟨hB CxKn11K6.blks 0, CxKn11K6.blks.length, [], []⟩) = true := by kernel_rfl
theorem CxKn11K6_ok {ρ : Env} : CxKn11K6.Ok Tryd.prog ρ := KCall.of_run try_ok lotM_ok (by kernel_rfl) (by kernel_rfl) (by kernel_rfl) (by kernel_rfl) CxKn11K6_run

def CxKn11K7 : KCall := ⟨8, [.int .i64 (.c 20), .agg [.int .i64 (.c 5), .int .i64 (.c 0)], .agg [.int .i64 (.c 1), .int .i64 (.c 10)]], [], 35, .tup [.int .i64 (.c 6), .int .i64 (.c 0)], []⟩
theorem CxKn11K7_run : CxKn11K7.says (eval (ctxOf Tryd.prog lotM) 1000 CxKn11K7.blks.length (.call CxKn11K7.g CxKn11K7.args) ⟨hB CxKn11K7.blks 0, CxKn11K7.blks.length, [], []⟩) = true := by kernel_rfl
theorem CxKn11K7_ok {ρ : Env} : CxKn11K7.Ok Tryd.prog ρ := KCall.of_run try_ok lotM_ok (by kernel_rfl) (by kernel_rfl) (by kernel_rfl) (by kernel_rfl) CxKn11K7_run

end Go.Proofs.YtpojncoplaopcaaDoor.Cx

/- acme/acmelaw11.known returns true, in every world that holds what the listed variables hold: by the evaluator, its heavy calls by runs of their own. Made by tools/cxkcalls.py. -/
namespace Go.Proofs.YtpojncoplaopcaaDoor.Cx
set_option maxRecDepth 100000
set_option linter.unusedVariables false
open Go Go.Proofs Go.RowKit
noncomputable def CxKn11C : Ctx := ctxOf Tryd.prog (memoK CxKn11K0 (memoK CxKn11K1 (memoK CxKn11K2 (memoK CxKn11K3 (memoK CxKn11K4 (memoK CxKn11K5 (memoK CxKn11K6 (memoK CxKn11K7 lotM))))))))
theorem CxKn11_run : isTrue (eval CxKn11C 1000 0 (.call 10 []) .empty) = true := by kernel_rfl
theorem CxKn11_known : KnownB Tryd.prog 10 := known_of try_ok (memoK_ok CxKn11K0_ok (memoK_ok CxKn11K1_ok (memoK_ok CxKn11K2_ok (memoK_ok CxKn11K3_ok (memoK_ok CxKn11K4_ok (memoK_ok CxKn11K5_ok (memoK_ok CxKn11K6_ok (memoK_ok CxKn11K7_ok lotM_ok)))))))) (by kernel_rfl) CxKn11_run
end Go.Proofs.YtpojncoplaopcaaDoor.Cx
