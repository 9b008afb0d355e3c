/- A call that is known: the name of a hand, a number that a bool decides. -/
import Derived.Test.YtknphpihipkdpaaCxTry
import Derived.Test.YtknphpihipkdpaaSmall
set_option linter.unusedSimpArgs false
set_option linter.unusedVariables false
namespace Go.Proofs.Ytknphpihipkdpaa.Cx
open Go Go.RowKit

/-- A function of a bool that yields one of two integers, in every world. -/
structure Known2 (P : Program) (f : Nat) (x y : Int) : Prop where
  fn : ∃ fn, P.funcs[f]? = some fn ∧ fn.body.isSome = true
  run : ∀ b w, Calls P f #[.bool b] w fun e w' => e = .returned (.int .i64 (if b then x else y)) ∧ Below w.heap.size w w'

noncomputable def memo2 (h : Nat) (x y : Int) (m : Memo) : Memo := fun f args s =>
  match args with
  | [.bool e] => bif Nat.beq f h then (match s.decide e with | some (t, s') => some (.int .i64 (.c (bif t then x else y)), s', [], []) | none => none) else m f args s
  | _ => m f args s

theorem memo2_ok {P : Program} {ρ : Env} {h : Nat} {x y : Int} {m : Memo} (hh : Known2 P h x y) (hm : MemoOk P (ctxOf P m) ρ) : MemoOk P (ctxOf P (memo2 h x y m)) ρ := by
  have old : ∀ f args s c s' R W, m f args s = some (c, s', R, W) → CallOk P (ctxOf P (memo2 h x y m)) ρ f args s c s' R W := fun f args s c s' R W h0 => by
    have k := hm f args s c s' R W h0
    exact ⟨k.fn, k.frm, k.lt, k.run⟩
  intro f args s c s' R W hq
  have hq' : memo2 h x y m f args s = some (c, s', R, W) := hq
  unfold memo2 at hq'
  split at hq'
  · rename_i e
    cases hf : Nat.beq f h with
    | false => rw [hf, cond_false] at hq'; exact old _ _ _ _ _ _ _ hq'
    | true =>
      rw [hf, cond_true] at hq'
      obtain rfl : f = h := Nat.eq_of_beq_eq_true hf
      split at hq'
      · rename_i t s1 hd
        cases hq'
        obtain ⟨h1, h2, h3, h4⟩ := decide_parts (ρ := ρ) hd
        refine ⟨hh.fn, Frm.same _ h1 h2 h3, ⟨fun b hb => by simp at hb, fun b hb => by simp at hb⟩, ?_⟩
        intro n σ cur w args' hp hargs hH hA hN
        have ht := h4 hp
        obtain ⟨v, e0, hv⟩ : ∃ v, args' = #[v] ∧ VR ρ σ (.bool e) v := by
          obtain ⟨l⟩ := args'
          cases hargs with
          | cons hv hr => cases hr; exact ⟨_, rfl, hv⟩
        subst e0
        obtain rfl := hv.bool_inv
        rw [ht]
        have := (callsIn_wide (n := n)).2 (hh.run t w)
        refine CallsIn.mono (F := fc none) this ?_
        rintro e w' ⟨rfl, hB⟩
        refine ⟨_, rfl, σ, (by rw [h1]; exact Ext.refl _ _ _), (by cases t; exact .int .i64 (.c y); exact .int .i64 (.c x)), ?_, .below hB, (by rw [h1]; exact Fresh.none _ _ _ _ _ _)⟩
        rw [h1, upd_none]
        exact hH.below hB
      · cases hq'
  · exact old _ _ _ _ _ _ _ hq'

theorem hand_known : Known2 Try.prog 113 2 1 :=
  ⟨⟨_, Try.func113, rfl⟩, fun b w => (hand_any b w).mono fun e w' ⟨h1, h2⟩ => ⟨h1, h2⟩⟩

end Go.Proofs.Ytknphpihipkdpaa.Cx
