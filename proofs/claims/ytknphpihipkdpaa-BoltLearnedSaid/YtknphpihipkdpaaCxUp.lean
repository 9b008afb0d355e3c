/- A call that is known: a quotient rounded up, without a test. -/
import Derived.Test.YtknphpihipkdpaaCxTry
set_option linter.unusedSimpArgs false
set_option linter.unusedVariables false
set_option maxRecDepth 100000
namespace Go.Proofs.Ytknphpihipkdpaa.Cx
open Go Go.RowKit

noncomputable def upC : Ctx := ctxOf Try.prog memo0
noncomputable def upRun (n d : Int) (o : List Nat) : Option (CV × List PC) :=
  match eval upC 100 0 (.call 102 [.int .i64 (.x n), .int .i64 (.x d)]) (.withO o) with
  | some ⟨.val c, s', _, []⟩ => some (c, s'.pc)
  | _ => none

theorem up_1 (n d : Int) : upRun n d [1] = some (.int .i64 (.x (Ar.run .add .i64 (Ar.run .quo .i64 n d) 1)), [.b (.x (Cm.run .gtr (Ar.run .rem .i64 n d) 0)) true, .b (.x (Cm.run .neq d 0)) true, .b (.x (Cm.run .neq d 0)) true]) := by kernel_rfl
theorem up_0 (n d : Int) : upRun n d [0] = some (.int .i64 (.x (Ar.run .quo .i64 n d)), [.b (.x (Cm.run .gtr (Ar.run .rem .i64 n d) 0)) false, .b (.x (Cm.run .neq d 0)) true, .b (.x (Cm.run .neq d 0)) true]) := by kernel_rfl

/-- What it returns. -/
def upV (n d : Int) : Int := Ar.run .add .i64 (Ar.run .quo .i64 n d) (Ar.run .mn .i64 1 (Ar.run .mx .i64 0 (Ar.run .rem .i64 n d)))

theorem wrap64 (x : Int) : IntKind.i64.wrap (IntKind.i64.wrap x) = IntKind.i64.wrap x := by
  have e1 : (2 : Int) ^ 64 = 18446744073709551616 := rfl
  have e2 : (2 : Int) ^ (64 - 1) = 9223372036854775808 := rfl
  have h : -9223372036854775808 ≤ IntKind.i64.wrap x ∧ IntKind.i64.wrap x ≤ 9223372036854775807 := by
    simp only [IntKind.wrap, IntKind.bits, IntKind.signed, Bool.true_and, e1, e2]
    split
    · rename_i h; have := of_decide_eq_true h; omega
    · rename_i h
      have : ¬ (x % 18446744073709551616 ≥ 9223372036854775808) := fun h' => h (decide_eq_true h')
      omega
  generalize IntKind.i64.wrap x = y at *
  simp only [IntKind.wrap, IntKind.bits, IntKind.signed, Bool.true_and, e1, e2]
  split
  · rename_i h2; have := of_decide_eq_true h2; omega
  · rename_i h2
    have : ¬ (y % 18446744073709551616 ≥ 9223372036854775808) := fun h' => h2 (decide_eq_true h')
    omega

theorem upV_1 {n d : Int} (h : 0 < n.tmod d) : Ar.run .add .i64 (Ar.run .quo .i64 n d) 1 = upV n d := by
  have e : Ar.run .mn .i64 1 (Ar.run .mx .i64 0 (Ar.run .rem .i64 n d)) = 1 := by
    show (if (if n.tmod d > 0 then n.tmod d else 0) < 1 then (if n.tmod d > 0 then n.tmod d else 0) else 1) = 1
    rw [if_pos h, if_neg (by omega)]
  unfold upV; rw [e]
theorem upV_0 {n d : Int} (h : ¬ 0 < n.tmod d) : Ar.run .quo .i64 n d = upV n d := by
  have e : Ar.run .mn .i64 1 (Ar.run .mx .i64 0 (Ar.run .rem .i64 n d)) = 0 := by
    show (if (if n.tmod d > 0 then n.tmod d else 0) < 1 then (if n.tmod d > 0 then n.tmod d else 0) else 1) = 0
    rw [if_neg h, if_pos (by omega)]
  unfold upV; rw [e]
  simp only [Ar.run, Int.add_zero]
  exact (wrap64 _).symm

/-- A function of two integers that rounds their quotient up, where the second is not 0. -/
structure KnownU (P : Program) (f : Nat) : Prop where
  fn : ∃ fn, P.funcs[f]? = some fn ∧ fn.body.isSome = true
  run : ∀ n d w, d ≠ 0 → Calls P f #[.int .i64 n, .int .i64 d] w fun e w' => e = .returned (.int .i64 (upV n d)) ∧ Below w.heap.size w w'

theorem up_calls {n d z : Int} {o : List Nat} {p : List PC} (h : upRun n d o = some (.int .i64 (.x z), p)) (ρ : Env) (hp : ∀ q ∈ p, q.holds ρ) (w : World) :
    Calls Try.prog 102 #[.int .i64 n, .int .i64 d] w fun e w' => e = .returned (.int .i64 z) ∧ Below w.heap.size w w' := by
  unfold upRun at h
  split at h
  · rename_i c s' R hev
    cases h
    have k := (eval_ok (ρ := ρ) (ctxOf_ok try_ok memo0) memo0_ok 100).call _ _ _ _ _ _ _ _ hev
    have := k.run 0 (fun _ => none) (fun _ => none) w #[.int .i64 n, .int .i64 d] hp (.cons (.int .i64 (.x n)) (.cons (.int .i64 (.x d)) .nil)) ⟨(fun b k l h => by cases h), (fun b b' k k' l l' h => by cases h), (fun b k x l h => by cases h), (fun b b' k k' x x' l l' h => by cases h)⟩ (fun b _ => (Tr.get_nil b).symm) (fun b _ _ => rfl)
    refine ((this.calls (fun k d h => by cases h)).mono ?_)
    rintro e w' ⟨v, rfl, σ', h1, h2, h3, h4, h5⟩
    cases h2
    exact ⟨rfl, h4.os, h4.tape, h4.output, h4.size, fun k hk => h4.block k hk (fun b _ l hl => by cases hl)⟩
  · cases h

theorem up_known : KnownU Try.prog 102 := by
  refine ⟨⟨_, Try.func102, rfl⟩, fun n d w hd => ?_⟩
  have hd' : Cm.run .neq d 0 = true := by simp [Cm.run, hd]
  by_cases h : 0 < n.tmod d
  · rw [← upV_1 h]
    refine up_calls (up_1 n d) ⟨fun _ => 0, fun _ => false⟩ ?_ w
    intro q hq
    simp only [List.mem_cons, List.not_mem_nil, or_false] at hq
    rcases hq with rfl | rfl | rfl
    · show Cm.run .gtr (Ar.run .rem .i64 n d) 0 = true
      exact decide_eq_true h
    · exact hd'
    · exact hd'
  · rw [← upV_0 h]
    refine up_calls (up_0 n d) ⟨fun _ => 0, fun _ => false⟩ ?_ w
    intro q hq
    simp only [List.mem_cons, List.not_mem_nil, or_false] at hq
    rcases hq with rfl | rfl | rfl
    · show Cm.run .gtr (Ar.run .rem .i64 n d) 0 = false
      exact decide_eq_false h
    · exact hd'
    · exact hd'

def upE (n d : IE) : CV := .int .i64 (.mk .add .i64 (.mk .quo .i64 n d) (.mk .mn .i64 (.c 1) (.mk .mx .i64 (.c 0) (.mk .rem .i64 n d))))

noncomputable def memoU (r : Nat) (m : Memo) : Memo := fun f args s =>
  match args with
  | [.int .i64 n, .int .i64 d] => bif Nat.beq f r then (match s.must (BE.mk .neq d (.c 0)) with | some s' => some (upE n d, s', [], []) | none => none) else m f args s
  | _ => m f args s

theorem memoU_ok {P : Program} {ρ : Env} {r : Nat} {m : Memo} (hh : KnownU P r) (hm : MemoOk P (ctxOf P m) ρ) : MemoOk P (ctxOf P (memoU r m)) ρ := by
  have old : ∀ f args s c s' R W, m f args s = some (c, s', R, W) → CallOk P (ctxOf P (memoU r m)) ρ f args s c s' R W := fun f args s c s' R W h0 => by
    have k := hm f args s c s' R W h0
    exact ⟨k.fn, k.frm, k.lt, k.run⟩
  intro f args s c s' R W hq
  have hq' : memoU r m f args s = some (c, s', R, W) := hq
  unfold memoU at hq'
  split at hq'
  · rename_i n d
    cases hf : Nat.beq f r with
    | false => rw [hf, cond_false] at hq'; exact old _ _ _ _ _ _ _ hq'
    | true =>
      rw [hf, cond_true] at hq'
      obtain rfl : f = r := Nat.eq_of_beq_eq_true hf
      split at hq'
      · rename_i s1 hd
        cases hq'
        obtain ⟨h1, h2, h3, h4⟩ := mustE_parts (ρ := ρ) hd
        refine ⟨hh.fn, Frm.same _ h1 h2 h3, ⟨fun b hb => by simp at hb, fun b hb => by simp at hb⟩, ?_⟩
        intro k σ cur w args' hp hargs hH hA hN
        have hd0 := neq_zero hd hp
        obtain ⟨u, v, e0, hu, hv⟩ : ∃ u v, args' = #[u, v] ∧ VR ρ σ (.int .i64 n) u ∧ VR ρ σ (.int .i64 d) v := by
          obtain ⟨l⟩ := args'
          cases hargs with
          | cons hu hr => cases hr with
            | cons hv hr => cases hr; exact ⟨_, _, rfl, hu, hv⟩
        subst e0
        obtain rfl := hu.int_inv
        obtain rfl := hv.int_inv
        have hrun := (callsIn_wide (n := k)).2 (hh.run (n.den ρ) (d.den ρ) w hd0)
        refine CallsIn.mono (F := fc none) hrun ?_
        rintro e w' ⟨rfl, hB⟩
        refine ⟨_, rfl, σ, (by rw [h1]; exact Ext.refl _ _ _), ?_, ?_, .below hB, (by rw [h1]; exact Fresh.none _ _ _ _ _ _)⟩
        · have q1 := VR.int (ρ := ρ) (σ := σ) .i64 (.mk .add .i64 (.mk .quo .i64 n d) (.mk .mn .i64 (.c 1) (.mk .mx .i64 (.c 0) (.mk .rem .i64 n d))))
          rw [IE.den_mk, IE.den_mk, IE.den_mk, IE.den_mk, IE.den_mk] at q1
          exact q1
        · rw [h1, upd_none]
          exact hH.below hB
      · cases hq'
  · exact old _ _ _ _ _ _ _ hq'

end Go.Proofs.Ytknphpihipkdpaa.Cx
