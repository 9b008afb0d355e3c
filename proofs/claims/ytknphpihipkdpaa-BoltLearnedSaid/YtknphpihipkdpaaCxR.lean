/- THE EVALUATOR AT ARGUMENTS THAT ARE SYMBOLS: a tree of tests, each of its leaves a run; and calls that are known to return true. -/
import Derived.Test.YtknphpihipkdpaaCxQ
set_option linter.unusedSimpArgs false
set_option linter.unusedVariables false
namespace Go.Proofs.Ytknphpihipkdpaa.Cx
open Go Go.RowKit

/-- What old blocks hold is the same. -/
theorem HR.below {ρ : Env} {σ : Mp} {cur : Cur} {w w' : World} (h : HR ρ σ cur w) (hb : Below w.heap.size w w') : HR ρ σ cur w' := by
  refine ⟨fun b k l a1 a2 a3 => ?_, h.inj, fun b k x l a1 a2 a3 => ?_, h.injX⟩
  · obtain ⟨c, t, ppq1, q1, qqq1, q2⟩ := h.cell b k l a1 a2 a3
    exact ⟨c, t, ppq1, by rw [hb.block _ (h.lt a1 a2 a3)]; exact q1, qqq1, q2⟩
  · have hs := h.spec b k x l a1 a2 a3
    exact hs.heap (hb.block _ hs.lt)

theorem Keeps.below {σ : Mp} {base : Nat} {W : List Nat} {w w' : World} (hb : Below w.heap.size w w') : Keeps σ base W w w' :=
  .of_same hb.os hb.tape hb.output hb.size fun k hk => hb.block k hk

/-! ## Calls that are known -/

/-- Functions without arguments that return true in every world. -/
structure KnownB (P : Program) (f : Nat) : Prop where
  fn : ∃ fn, P.funcs[f]? = some fn ∧ fn.body.isSome = true
  run : ∀ w, Calls P f #[] w fun e w' => e = .returned (.bool true) ∧ Below w.heap.size w w'

def memo0 : Memo := fun _ _ _ => none

def memoB (l : List Nat) : Memo := fun f args s =>
  match args with
  | [] => bif l.any (Nat.beq f) then some (.bool (.c true), s, [], []) else none
  | _ => none

section
variable {P : Program} {ρ : Env}

theorem memo0_ok : MemoOk P (ctxOf P memo0) ρ := fun f args s c s' R W h => by cases h

theorem memoB_ok {l : List Nat} (h : ∀ f ∈ l, KnownB P f) : MemoOk P (ctxOf P (memoB l)) ρ := by
  intro f args s c s' R W hm
  have hm' : memoB l f args s = some (c, s', R, W) := hm
  unfold memoB at hm'
  split at hm'
  · cases hf : l.any (Nat.beq f) with
    | false => rw [hf, cond_false] at hm'; cases hm'
    | true =>
      rw [hf, cond_true] at hm'
      cases hm'
      obtain ⟨g, hg, hgf⟩ := List.any_eq_true.1 hf
      obtain rfl : f = g := Nat.eq_of_beq_eq_true hgf
      have k := h f hg
      refine ⟨k.fn, Frm.refl _ _, ⟨fun b hb => by simp at hb, fun b hb => by simp at hb⟩, ?_⟩
      intro n σ cur w args' hp hargs hH hA hN
      have e0 : args' = #[] := by
        have := hargs.length
        simp only [Array.length_toList, List.length_nil] at this
        exact Array.eq_empty_of_size_eq_zero this
      subst e0
      have := (callsIn_wide (n := n)).2 (k.run w)
      refine CallsIn.mono (F := fc none) this ?_
      rintro e w' ⟨rfl, hB⟩
      refine ⟨_, rfl, σ, Ext.refl _ _ _, .bool (.c true), ?_, .below hB, Fresh.none _ _ _ _ _ _⟩
      rw [upd_none]
      exact hH.below hB
  · cases hm'

/-! ## A function without arguments that returns true -/

def isTrue (o : Option Out) : Bool :=
  match o with
  | some ⟨.val (.bool (.c true)), ⟨_, _, _, []⟩, _, []⟩ => true
  | _ => false

theorem known_of (hP : progOk P = true) {memo : Memo} (hM : MemoOk P (ctxOf P memo) ⟨fun _ => 0, fun _ => false⟩) {m f : Nat}
    (hf : (match P.funcs[f]? with | some fn => fn.body.isSome | none => false) = true) (h : isTrue (eval (ctxOf P memo) m 0 (.call f []) .empty) = true) : KnownB P f := by
  constructor
  · split at hf
    · rename_i fn hfn; exact ⟨fn, hfn, hf⟩
    · cases hf
  · intro w
    unfold isTrue at h
    split at h
    · rename_i h1 n1 o1 R1 he
      refine (closed (ctxOf_ok hP memo) hM he rfl rfl w).mono ?_
      rintro e w' ⟨v, σ', rfl, hv, hB⟩
      cases hv
      exact ⟨rfl, hB⟩
    · cases h

/-! ## Trees of tests -/

inductive DT where
  | leaf (e : BE)
  | ask (c : BE) (t f : DT)
  /-- a number that is taken at a value -/
  | conc (e : IE) (n : Nat) (t f : DT)
  | dead

/-- What is left to be shown of numbers. -/
def DT.good (ρ : Env) : DT → Prop
  | .leaf e => e.den ρ = true
  | .ask c t f => (c.den ρ = true → t.good ρ) ∧ (c.den ρ = false → f.good ρ)
  | .conc e n t f => ((BE.cmp .eql e (.c n)).den ρ = true → t.good ρ) ∧ ((BE.cmp .eql e (.c n)).den ρ = false → f.good ρ)
  | .dead => False

/-- Whether the runs go as the tree says. -/
def DT.ok (run : List Nat → Option (BE × List PC)) : DT → List Nat → List PC → Bool
  | .leaf e, o, p => match run o.reverse with | some (e', p') => decide (e' = e) && decide (p' = p) | none => false
  | .ask c t f, o, p => t.ok run (1 :: o) (.b c true :: p) && f.ok run (0 :: o) (.b c false :: p)
  | .conc e n t f, o, p => t.ok run (n :: o) (.b (.cmp .eql e (.c n)) true :: p) && f.ok run o p
  | .dead, _, _ => true

theorem DT.sound {run : List Nat → Option (BE × List PC)} : ∀ (t : DT) (o : List Nat) (p : List PC), t.ok run o p = true → t.good ρ → (∀ q ∈ p, q.holds ρ) → ∃ o e p', run o = some (e, p') ∧ e.den ρ = true ∧ ∀ q ∈ p', q.holds ρ
  | .leaf e, o, p, h, hg, hp => by
    simp only [DT.ok] at h
    split at h
    · rename_i e' p' hr
      simp only [Bool.and_eq_true, decide_eq_true_eq] at h
      obtain ⟨rfl, rfl⟩ := h
      exact ⟨_, _, _, hr, hg, hp⟩
    · cases h
  | .ask c t f, o, p, h, hg, hp => by
    simp only [DT.ok, Bool.and_eq_true] at h
    cases hc : c.den ρ with
    | true => exact DT.sound t _ _ h.1 (hg.1 hc) fun q hq => by rcases List.mem_cons.1 hq with rfl | hq; exact hc; exact hp q hq
    | false => exact DT.sound f _ _ h.2 (hg.2 hc) fun q hq => by rcases List.mem_cons.1 hq with rfl | hq; exact hc; exact hp q hq
  | .conc e n t f, o, p, h, hg, hp => by
    simp only [DT.ok, Bool.and_eq_true] at h
    cases hc : (BE.cmp .eql e (.c n)).den ρ with
    | true => exact DT.sound t _ _ h.1 (hg.1 hc) fun q hq => by rcases List.mem_cons.1 hq with rfl | hq; exact hc; exact hp q hq
    | false => exact DT.sound f _ _ h.2 (hg.2 hc) hp
  | .dead, o, p, h, hg, hp => hg.elim

def St.withO (o : List Nat) : St := ⟨.nil, 0, o, []⟩

noncomputable def runOf (C : Ctx) (m f : Nat) (args : List CV) (o : List Nat) : Option (BE × List PC) :=
  match eval C m 0 (.call f args) (.withO o) with
  | some ⟨.val (.bool e), s', _, []⟩ => some (e, s'.pc)
  | _ => none

/-- A law at symbols: where its tree holds, it returns true. -/
theorem law_of {C : Ctx} (hC : CtxOk3 P C) (hM : MemoOk P C ρ) {m f : Nat} {args : List CV} {args' : Array Value} {t : DT} (ht : t.ok (runOf C m f args) [] [] = true) (hg : t.good ρ)
    (ha : VRl ρ (fun _ => none) args args'.toList) (w : World) : Calls P f args' w fun e w' => e = .returned (.bool true) ∧ Below w.heap.size w w' := by
  obtain ⟨o, e, p', hr, he, hp⟩ := DT.sound t [] [] ht hg (fun q hq => by cases hq)
  unfold runOf at hr
  split at hr
  · rename_i e1 s' R hev
    cases hr
    have k := (eval_ok (ρ := ρ) hC hM m).call _ _ _ _ _ _ _ _ hev
    have := k.run 0 (fun _ => none) (fun _ => none) w args' hp ha ⟨(fun b k l h => by cases h), (fun b b' k k' l l' h => by cases h), (fun b k x l h => by cases h), (fun b b' k k' x x' l l' h => by cases h)⟩ (fun b _ => (Tr.get_nil b).symm) (fun b _ _ => rfl)
    refine ((this.calls (fun k d h => by cases h)).mono ?_)
    rintro e w' ⟨v, rfl, σ', h1, h2, h3, h4, h5⟩
    cases h2
    exact ⟨by rw [he], h4.os, h4.tape, h4.output, h4.size, fun k hk => h4.block k hk (fun b _ l hl => by cases hl)⟩
  · cases hr

end
end Go.Proofs.Ytknphpihipkdpaa.Cx
