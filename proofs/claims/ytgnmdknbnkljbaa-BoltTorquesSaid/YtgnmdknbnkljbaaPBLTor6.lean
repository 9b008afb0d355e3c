/- acme/bolt.Torque as an automaton. Made by tools/cxauto.py. -/
import Derived.Test.YtgnmdknbnkljbaaPBLTor5

namespace Go.Proofs.Ytgnmdknbnkljbaa.Cx
set_option linter.unusedVariables false
set_option linter.unusedSimpArgs false
set_option maxRecDepth 100000
open Go Go.Proofs Go.RowKit

noncomputable abbrev atqCode : Code := funcCode Try.f22


abbrev atqN := Empty

abbrev atqR := Int × Int

noncomputable def atqD0 (a0 : Int) (a1 : Int) (a2 : Int) (a3 : Int) (a4 : Int) (a5 : Int) (a6 : Int) (a7 : Int) (a8 : Int) (a9 : Int) (a10 : Int) (a11 : Int) (a12 : Int) (a13 : Int) (a14 : Int) (a15 : Int) : DD (Lf atqN atqR) :=
 .must (AF.fin (abcA a0 a1 a2 a3 a4 a5 a6 a7 a8 a9 a10 a11 a12))
   (.ask (Cm.run Cm.neq (AF.val (abcA a0 a1 a2 a3 a4 a5 a6 a7 a8 a9 a10 a11 a12)) 0)
   (.ask (Cm.run Cm.neq (AF.val (abcA a0 a1 a2 a3 a4 a5 a6 a7 a8 a9 a10 a11 a12)) 0)
   (.leaf (.done (0, AF.val (abcA a0 a1 a2 a3 a4 a5 a6 a7 a8 a9 a10 a11 a12)) []))
   (.ask (Cm.run Cm.lss a13 0)
   (.leaf (.done (0, 3) []))
   (.ask (Cm.run Cm.gtr a13 100000000)
   (.leaf (.done (0, 3) []))
   (.ask (Cm.run Cm.lss a14 0)
   (.leaf (.done (0, 2) []))
   (.ask (Cm.run Cm.gtr a14 1000)
   (.leaf (.done (0, 2) []))
   (.ask (Cm.run Cm.lss a15 0)
   (.leaf (.done (0, 2) []))
   (.ask (Cm.run Cm.gtr a15 1000)
   (.leaf (.done (0, 2) []))
   (.ask (Cm.run Cm.gtr (Ar.run Ar.rem IntKind.i64 (Ar.run Ar.mul IntKind.i64 a13 (Ar.run Ar.add IntKind.i64 0 (Ar.run Ar.add IntKind.i64 (Ar.run Ar.mul IntKind.i64 0 a14) (Ar.run Ar.mul IntKind.i64 0 a15)))) 1000) 0)
   (.leaf (.done (Ar.run Ar.add IntKind.i64 (Ar.run Ar.quo IntKind.i64 (Ar.run Ar.mul IntKind.i64 a13 (Ar.run Ar.add IntKind.i64 0 (Ar.run Ar.add IntKind.i64 (Ar.run Ar.mul IntKind.i64 0 a14) (Ar.run Ar.mul IntKind.i64 0 a15)))) 1000) 1, 0) []))
   (.leaf (.done (Ar.run Ar.quo IntKind.i64 (Ar.run Ar.mul IntKind.i64 a13 (Ar.run Ar.add IntKind.i64 0 (Ar.run Ar.add IntKind.i64 (Ar.run Ar.mul IntKind.i64 0 a14) (Ar.run Ar.mul IntKind.i64 0 a15)))) 1000, 0) []))))))))))
   (.ask (Cm.run Cm.lss a13 0)
   (.leaf (.done (0, 3) []))
   (.ask (Cm.run Cm.gtr a13 100000000)
   (.leaf (.done (0, 3) []))
   (.ask (Cm.run Cm.lss a14 0)
   (.leaf (.done (0, 2) []))
   (.ask (Cm.run Cm.gtr a14 1000)
   (.leaf (.done (0, 2) []))
   (.ask (Cm.run Cm.lss a15 0)
   (.leaf (.done (0, 2) []))
   (.ask (Cm.run Cm.gtr a15 1000)
   (.leaf (.done (0, 2) []))
   (.ask (Cm.run Cm.gtr (Ar.run Ar.rem IntKind.i64 (Ar.run Ar.mul IntKind.i64 a13 (Ar.run Ar.add IntKind.i64 (Ar.run Ar.mul IntKind.i64 1000 a0) (Ar.run Ar.add IntKind.i64 (Ar.run Ar.mul IntKind.i64 a1 a14) (Ar.run Ar.mul IntKind.i64 a2 a15)))) 1000) 0)
   (.leaf (.done (Ar.run Ar.add IntKind.i64 (Ar.run Ar.quo IntKind.i64 (Ar.run Ar.mul IntKind.i64 a13 (Ar.run Ar.add IntKind.i64 (Ar.run Ar.mul IntKind.i64 1000 a0) (Ar.run Ar.add IntKind.i64 (Ar.run Ar.mul IntKind.i64 a1 a14) (Ar.run Ar.mul IntKind.i64 a2 a15)))) 1000) 1, 0) []))
   (.leaf (.done (Ar.run Ar.quo IntKind.i64 (Ar.run Ar.mul IntKind.i64 a13 (Ar.run Ar.add IntKind.i64 (Ar.run Ar.mul IntKind.i64 1000 a0) (Ar.run Ar.add IntKind.i64 (Ar.run Ar.mul IntKind.i64 a1 a14) (Ar.run Ar.mul IntKind.i64 a2 a15)))) 1000, 0) []))))))))))

noncomputable def atqD (a0 : Int) (a1 : Int) (a2 : Int) (a3 : Int) (a4 : Int) (a5 : Int) (a6 : Int) (a7 : Int) (a8 : Int) (a9 : Int) (a10 : Int) (a11 : Int) (a12 : Int) (a13 : Int) (a14 : Int) (a15 : Int) : atqN → DD (Lf atqN atqR) := fun a => nomatch a

noncomputable def atqA (a0 : Int) (a1 : Int) (a2 : Int) (a3 : Int) (a4 : Int) (a5 : Int) (a6 : Int) (a7 : Int) (a8 : Int) (a9 : Int) (a10 : Int) (a11 : Int) (a12 : Int) (a13 : Int) (a14 : Int) (a15 : Int) : AF atqN atqR where
  code := atqCode
  base := 0
  nt := 37
  m := 400
  un := []
  W := []
  h0 := []
  args := [.agg [.int .i64 (.x a0), .int .i64 (.x a1), .int .i64 (.x a2), .int .i64 (.x a3), .int .i64 (.x a4), .int .i64 (.x a5), .int .i64 (.x a6), .int .i64 (.x a7), .int .i64 (.x a8), .int .i64 (.x a9), .int .i64 (.x a10), .int .i64 (.x a11), .int .i64 (.x a12)], .int .i64 (.x a13), .agg [.int .i64 (.x a14), .int .i64 (.x a15)]]
  res := (Try.f22).results.toList
  path := fun a => nomatch a
  pd := fun a => nomatch a
  D0 := atqD0 a0 a1 a2 a3 a4 a5 a6 a7 a8 a9 a10 a11 a12 a13 a14 a15
  D := atqD a0 a1 a2 a3 a4 a5 a6 a7 a8 a9 a10 a11 a12 a13 a14 a15
  rc := (fun v => .tup [.int .i64 (.x v.1), .int .i64 (.x v.2)])
  rh := (fun v => [])
  rn := (fun v => 0)
  rx := (fun v => [])
  rgo := (fun _ => none)


theorem atqstart (a0 : Int) (a1 : Int) (a2 : Int) (a3 : Int) (a4 : Int) (a5 : Int) (a6 : Int) (a7 : Int) (a8 : Int) (a9 : Int) (a10 : Int) (a11 : Int) (a12 : Int) (a13 : Int) (a14 : Int) (a15 : Int) : AF.edgeOk (atqA a0 a1 a2 a3 a4 a5 a6 a7 a8 a9 a10 a11 a12 a13 a14 a15) (ctxOf Try.prog memo0) (atqD0 a0 a1 a2 a3 a4 a5 a6 a7 a8 a9 a10 a11 a12 a13 a14 a15) (AF.run0 (atqA a0 a1 a2 a3 a4 a5 a6 a7 a8 a9 a10 a11 a12 a13 a14 a15) (ctxOf Try.prog (memoA 12 abcP abcF memo0))) := by unfold AF.edgeOk; kernel_rfl

theorem atqok (a0 : Int) (a1 : Int) (a2 : Int) (a3 : Int) (a4 : Int) (a5 : Int) (a6 : Int) (a7 : Int) (a8 : Int) (a9 : Int) (a10 : Int) (a11 : Int) (a12 : Int) (a13 : Int) (a14 : Int) (a15 : Int) : (atqA a0 a1 a2 a3 a4 a5 a6 a7 a8 a9 a10 a11 a12 a13 a14 a15).Ok Try.prog (ctxOf Try.prog (memoA 12 abcP abcF memo0)) where
  regs := by kernel_rfl
  h0 := by kernel_rfl
  start := atqstart a0 a1 a2 a3 a4 a5 a6 a7 a8 a9 a10 a11 a12 a13 a14 a15
  node := fun a _ => nomatch a
  pd := fun a => nomatch a
  le := fun a => nomatch a
  rd := fun v => ⟨⟨fa_nil, fa_nil, fa_nil, rfl⟩, rfl⟩
  wb := rfl


theorem atqhR {ρ : Env} (a0 : Int) (a1 : Int) (a2 : Int) (a3 : Int) (a4 : Int) (a5 : Int) (a6 : Int) (a7 : Int) (a8 : Int) (a9 : Int) (a10 : Int) (a11 : Int) (a12 : Int) (a13 : Int) (a14 : Int) (a15 : Int) (hM : MemoOk Try.prog (ctxOf Try.prog (memoA 12 abcP abcF memo0)) ρ) : ∀ X a q n D, FxOk ρ X → X.base = (atqA a0 a1 a2 a3 a4 a5 a6 a7 a8 a9 a10 a11 a12 a13 a14 a15).base → X.nt = (atqA a0 a1 a2 a3 a4 a5 a6 a7 a8 a9 a10 a11 a12 a13 a14 a15).nt → X.W = (atqA a0 a1 a2 a3 a4 a5 a6 a7 a8 a9 a10 a11 a12 a13 a14 a15).W → (atqA a0 a1 a2 a3 a4 a5 a6 a7 a8 a9 a10 a11 a12 a13 a14 a15).rgo a = some q → q n = some D → (atqA a0 a1 a2 a3 a4 a5 a6 a7 a8 a9 a10 a11 a12 a13 a14 a15).RangeOk Try.prog ρ X a D := AF.noRange rfl

theorem atqctr {ρ : Env} (a0 : Int) (a1 : Int) (a2 : Int) (a3 : Int) (a4 : Int) (a5 : Int) (a6 : Int) (a7 : Int) (a8 : Int) (a9 : Int) (a10 : Int) (a11 : Int) (a12 : Int) (a13 : Int) (a14 : Int) (a15 : Int) {n : Nat} {v : atqR} (hM : MemoOk Try.prog (ctxOf Try.prog (memoA 12 abcP abcF memo0)) ρ) (hv : (atqA a0 a1 a2 a3 a4 a5 a6 a7 a8 a9 a10 a11 a12 a13 a14 a15).run n = some v) :
    Ctr Try.prog ρ 22 (atqA a0 a1 a2 a3 a4 a5 a6 a7 a8 a9 a10 a11 a12 a13 a14 a15).args (atqA a0 a1 a2 a3 a4 a5 a6 a7 a8 a9 a10 a11 a12 a13 a14 a15).H0 (atqA a0 a1 a2 a3 a4 a5 a6 a7 a8 a9 a10 a11 a12 a13 a14 a15).base (atqA a0 a1 a2 a3 a4 a5 a6 a7 a8 a9 a10 a11 a12 a13 a14 a15).W ((atqA a0 a1 a2 a3 a4 a5 a6 a7 a8 a9 a10 a11 a12 a13 a14 a15).rc v) (putH (atqA a0 a1 a2 a3 a4 a5 a6 a7 a8 a9 a10 a11 a12 a13 a14 a15).H0 ((atqA a0 a1 a2 a3 a4 a5 a6 a7 a8 a9 a10 a11 a12 a13 a14 a15).rh v ++ (atqA a0 a1 a2 a3 a4 a5 a6 a7 a8 a9 a10 a11 a12 a13 a14 a15).rx v)) ((atqA a0 a1 a2 a3 a4 a5 a6 a7 a8 a9 a10 a11 a12 a13 a14 a15).rn v) :=
  AF.ctr try_ok hM (atqok a0 a1 a2 a3 a4 a5 a6 a7 a8 a9 a10 a11 a12 a13 a14 a15) (fn := Try.f22) Try.func22 rfl rfl (Nat.le_of_ble_eq_true rfl) rfl (atqhR a0 a1 a2 a3 a4 a5 a6 a7 a8 a9 a10 a11 a12 a13 a14 a15 hM) hv


theorem atqmem {ρ : Env} : MemoOk Try.prog (ctxOf Try.prog (memoA 12 abcP abcF memo0)) ρ := (memoA_ok (abcknown memo0_ok) memo0_ok)


abbrev atqP : List AP := [.agg [.int .i64, .int .i64, .int .i64, .int .i64, .int .i64, .int .i64, .int .i64, .int .i64, .int .i64, .int .i64, .int .i64, .int .i64, .int .i64], .int .i64, .agg [.int .i64, .int .i64]]
noncomputable def atqF (v : AV) : AF atqN atqR := atqA (v.i.getD 0 0) (v.i.getD 1 0) (v.i.getD 2 0) (v.i.getD 3 0) (v.i.getD 4 0) (v.i.getD 5 0) (v.i.getD 6 0) (v.i.getD 7 0) (v.i.getD 8 0) (v.i.getD 9 0) (v.i.getD 10 0) (v.i.getD 11 0) (v.i.getD 12 0) (v.i.getD 13 0) (v.i.getD 14 0) (v.i.getD 15 0)
theorem atqknown {ρ : Env} (hM : MemoOk Try.prog (ctxOf Try.prog (memoA 12 abcP abcF memo0)) ρ) : KnownA Try.prog ρ 22 atqP atqF where
  fn := ⟨Try.f22, Try.func22, rfl⟩
  args := fun v => rfl
  plain := fun v r => rfl
  ctr := fun v n r h => atqctr (v.i.getD 0 0) (v.i.getD 1 0) (v.i.getD 2 0) (v.i.getD 3 0) (v.i.getD 4 0) (v.i.getD 5 0) (v.i.getD 6 0) (v.i.getD 7 0) (v.i.getD 8 0) (v.i.getD 9 0) (v.i.getD 10 0) (v.i.getD 11 0) (v.i.getD 12 0) (v.i.getD 13 0) (v.i.getD 14 0) (v.i.getD 15 0) hM h

end Go.Proofs.Ytgnmdknbnkljbaa.Cx

/- bolt.Torque: the least torque for a force. Made by tools/gen_bcon.py. -/
namespace Go.Proofs.Ytgnmdknbnkljbaa.Cx
set_option linter.unusedVariables false
set_option linter.unusedSimpArgs false
set_option maxRecDepth 100000
set_option maxHeartbeats 4000000
open Go Go.RowKit

theorem atq_ok (a0 a1 a2 a3 a4 a5 a6 a7 a8 a9 a10 a11 a12 a13 a14 a15 : Int) (h : KindP a0 a1 a2 a3 a4 a5 a6 a7 a8 a9 a10 a11 a12) : AF.fin (atqA a0 a1 a2 a3 a4 a5 a6 a7 a8 a9 a10 a11 a12 a13 a14 a15) = true ∧ ((¬ (0 ≤ a13 ∧ a13 ≤ 100000000) → AF.val (atqA a0 a1 a2 a3 a4 a5 a6 a7 a8 a9 a10 a11 a12 a13 a14 a15) = (0, 3)) ∧ ((0 ≤ a13 ∧ a13 ≤ 100000000) ∧ ¬ ((0 ≤ a14 ∧ a14 ≤ 1000) ∧ (0 ≤ a15 ∧ a15 ≤ 1000)) → AF.val (atqA a0 a1 a2 a3 a4 a5 a6 a7 a8 a9 a10 a11 a12 a13 a14 a15) = (0, 2)) ∧ ((0 ≤ a13 ∧ a13 ≤ 100000000) ∧ (0 ≤ a14 ∧ a14 ≤ 1000) ∧ (0 ≤ a15 ∧ a15 ≤ 1000) → AF.val (atqA a0 a1 a2 a3 a4 a5 a6 a7 a8 a9 a10 a11 a12 a13 a14 a15) = ((a13 * armV a0 a1 a2 a14 a15 + 999) / 1000, 0))) :=
  AF.val_sat (Inv := fun _ => False) (E := fun (v : atqR) => (¬ (0 ≤ a13 ∧ a13 ≤ 100000000) → v = (0, 3)) ∧ ((0 ≤ a13 ∧ a13 ≤ 100000000) ∧ ¬ ((0 ≤ a14 ∧ a14 ≤ 1000) ∧ (0 ≤ a15 ∧ a15 ≤ 1000)) → v = (0, 2)) ∧ ((0 ≤ a13 ∧ a13 ≤ 100000000) ∧ (0 ≤ a14 ∧ a14 ≤ 1000) ∧ (0 ≤ a15 ∧ a15 ≤ 1000) → v = ((a13 * armV a0 a1 a2 a14 a15 + 999) / 1000, 0))) (fun _ => 0) (fun _ => rfl) (fun a => nomatch a) (by
    obtain ⟨c1, c2, _⟩ := abc_val a0 a1 a2 a3 a4 a5 a6 a7 a8 a9 a10 a11 a12
    show DD.sat _ _ (atqD0 a0 a1 a2 a3 a4 a5 a6 a7 a8 a9 a10 a11 a12 a13 a14 a15)
    unfold atqD0
    rw [c1, c2 h]
    unfold KindP at h
    by_cases hv : (0 ≤ a13 ∧ a13 ≤ 100000000) ∧ (0 ≤ a14 ∧ a14 ≤ 1000) ∧ (0 ≤ a15 ∧ a15 ≤ 1000)
    · have m1 := mul_rng (a := a1) (b := a14) (A := 100000) (B := 1000) (by omega) (by omega)
      have m2 := mul_rng (a := a2) (b := a15) (A := 100000) (B := 1000) (by omega) (by omega)
      have e : Ar.run Ar.add IntKind.i64 (Ar.run Ar.mul IntKind.i64 1000 a0) (Ar.run Ar.add IntKind.i64 (Ar.run Ar.mul IntKind.i64 a1 a14) (Ar.run Ar.mul IntKind.i64 a2 a15)) = armV a0 a1 a2 a14 a15 := by
        rw [arMul (a := 1000) (by omega), arMul (a := a1) (by omega), arMul (a := a2) (by omega), arAdd (a := a1 * a14) (by omega), arAdd (by omega)]; unfold armV; omega
      have ha : 1000 ≤ armV a0 a1 a2 a14 a15 ∧ armV a0 a1 a2 a14 a15 ≤ 300000000 := by unfold armV; omega
      have m3 := mul_rng (a := a13) (b := armV a0 a1 a2 a14 a15) (A := 100000000) (B := 300000000) (by omega) (by omega)
      rw [e, arMul (a := a13) (b := armV a0 a1 a2 a14 a15) (by omega)]
      generalize a13 * armV a0 a1 a2 a14 a15 = x at *
      obtain ⟨u1, u2, u3⟩ := up_eq2 (x := x) (by omega)
      rw [u1, u2, u3]
      clear c1 c2 u1 u2 u3 e ha m1 m2 h
      simp only [DD.sat, cmLss, cmLeq, cmGtr, cmGeq, cmEql, cmNeq, cmLssF, cmLeqF, cmGtrF, cmGeqF, cmEqlF, cmNeqF, Prod.mk.injEq, imp_false, ne_eq, not_true_eq_false, false_imp_iff, true_and, and_true, reduceCtorEq, Bool.false_eq_true]
      repeat' (first | (intro _) | (apply And.intro))
      all_goals omega
    · clear c1 c2 h
      simp only [DD.sat, cmLss, cmLeq, cmGtr, cmGeq, cmEql, cmNeq, cmLssF, cmLeqF, cmGtrF, cmGeqF, cmEqlF, cmNeqF, Prod.mk.injEq, imp_false, ne_eq, not_true_eq_false, false_imp_iff, true_and, and_true, reduceCtorEq, Bool.false_eq_true]
      repeat' (first | (intro _) | (apply And.intro))
      all_goals omega)
theorem atq_bad (a0 a1 a2 a3 a4 a5 a6 a7 a8 a9 a10 a11 a12 a13 a14 a15 : Int) (h : ¬ KindP a0 a1 a2 a3 a4 a5 a6 a7 a8 a9 a10 a11 a12) : AF.fin (atqA a0 a1 a2 a3 a4 a5 a6 a7 a8 a9 a10 a11 a12 a13 a14 a15) = true ∧ AF.val (atqA a0 a1 a2 a3 a4 a5 a6 a7 a8 a9 a10 a11 a12 a13 a14 a15) = (0, 2) :=
  AF.val_sat (Inv := fun _ => False) (E := fun (v : atqR) => v = (0, 2)) (fun _ => 0) (fun _ => rfl) (fun a => nomatch a) (by
    obtain ⟨c1, _, c3⟩ := abc_val a0 a1 a2 a3 a4 a5 a6 a7 a8 a9 a10 a11 a12
    show DD.sat _ _ (atqD0 a0 a1 a2 a3 a4 a5 a6 a7 a8 a9 a10 a11 a12 a13 a14 a15)
    unfold atqD0
    rw [c1, c3 h]
    refine ⟨rfl, fun _ => ⟨fun _ => rfl, fun h => absurd (cmNeqF.1 h) (by decide)⟩, fun h => absurd (cmNeqF.1 h) (by decide)⟩)
end Go.Proofs.Ytgnmdknbnkljbaa.Cx

/- acme/bolt.Right as an automaton. Made by tools/cxauto.py. -/
namespace Go.Proofs.Ytgnmdknbnkljbaa.Cx
set_option linter.unusedVariables false
set_option linter.unusedSimpArgs false
set_option maxRecDepth 100000
open Go Go.Proofs Go.RowKit

noncomputable abbrev atrCode : Code := funcCode Try.f23


abbrev atrN := Empty

abbrev atrR := Int × Int × Int

noncomputable def atrD0 (a0 : Int) (a1 : Int) (a2 : Int) (a3 : Int) (a4 : Int) (a5 : Int) (a6 : Int) (a7 : Int) (a8 : Int) (a9 : Int) (a10 : Int) (a11 : Int) (a12 : Int) (a13 : Int) (a14 : Int) (a15 : Int) (a16 : Int) : DD (Lf atrN atrR) :=
 .must (AF.fin (abcA a0 a1 a2 a3 a4 a5 a6 a7 a8 a9 a10 a11 a12))
   (.ask (Cm.run Cm.neq (AF.val (abcA a0 a1 a2 a3 a4 a5 a6 a7 a8 a9 a10 a11 a12)) 0)
   (.ask (Cm.run Cm.neq (AF.val (abcA a0 a1 a2 a3 a4 a5 a6 a7 a8 a9 a10 a11 a12)) 0)
   (.leaf (.done (0, 0, AF.val (abcA a0 a1 a2 a3 a4 a5 a6 a7 a8 a9 a10 a11 a12)) []))
   (.ask (Cm.run Cm.leq 0 a13)
   (.ask (Cm.run Cm.leq a13 a14)
   (.ask (Cm.run Cm.leq a14 100000000)
   (.ask (Cm.run Cm.leq (-10000000000000) a15)
   (.ask (Cm.run Cm.leq a15 a16)
   (.ask (Cm.run Cm.leq a16 10000000000000)
   (.ask (Cm.run Cm.gtr (Ar.run Ar.rem IntKind.i64 (Ar.run Ar.mul IntKind.i64 (Ar.run Ar.add IntKind.i64 (Ar.run Ar.mn IntKind.i64 a14 0) 1) 0) 1000) 0)
   (.ask (Cm.run Cm.gtr (Ar.run Ar.rem IntKind.i64 (Ar.run Ar.mul IntKind.i64 a13 0) 1000) 0)
   (.ask (Cm.run Cm.gtr (Ar.run Ar.add IntKind.i64 (Ar.run Ar.quo IntKind.i64 (Ar.run Ar.mul IntKind.i64 a13 0) 1000) 1) 0)
   (.ask (Cm.run Cm.gtr (Ar.run Ar.mx IntKind.i64 (Ar.run Ar.sub IntKind.i64 (Ar.run Ar.add IntKind.i64 (Ar.run Ar.quo IntKind.i64 (Ar.run Ar.mul IntKind.i64 a13 0) 1000) 1) a15) 0) (Ar.run Ar.mn IntKind.i64 (Ar.run Ar.sub IntKind.i64 (Ar.run Ar.sub IntKind.i64 (Ar.run Ar.add IntKind.i64 (Ar.run Ar.quo IntKind.i64 (Ar.run Ar.mul IntKind.i64 (Ar.run Ar.add IntKind.i64 (Ar.run Ar.mn IntKind.i64 a14 0) 1) 0) 1000) 1) 1) a16) 10000000000000))
   (.leaf (.done (0, 0, 9) []))
   (.leaf (.done (Ar.run Ar.mx IntKind.i64 (Ar.run Ar.sub IntKind.i64 (Ar.run Ar.add IntKind.i64 (Ar.run Ar.quo IntKind.i64 (Ar.run Ar.mul IntKind.i64 a13 0) 1000) 1) a15) 0, Ar.run Ar.mn IntKind.i64 (Ar.run Ar.sub IntKind.i64 (Ar.run Ar.sub IntKind.i64 (Ar.run Ar.add IntKind.i64 (Ar.run Ar.quo IntKind.i64 (Ar.run Ar.mul IntKind.i64 (Ar.run Ar.add IntKind.i64 (Ar.run Ar.mn IntKind.i64 a14 0) 1) 0) 1000) 1) 1) a16) 10000000000000, 0) [])))
   (.ask (Cm.run Cm.gtr 0 (Ar.run Ar.mn IntKind.i64 (Ar.run Ar.sub IntKind.i64 (Ar.run Ar.sub IntKind.i64 (Ar.run Ar.add IntKind.i64 (Ar.run Ar.quo IntKind.i64 (Ar.run Ar.mul IntKind.i64 (Ar.run Ar.add IntKind.i64 (Ar.run Ar.mn IntKind.i64 a14 0) 1) 0) 1000) 1) 1) a16) 10000000000000))
   (.leaf (.done (0, 0, 9) []))
   (.leaf (.done (0, Ar.run Ar.mn IntKind.i64 (Ar.run Ar.sub IntKind.i64 (Ar.run Ar.sub IntKind.i64 (Ar.run Ar.add IntKind.i64 (Ar.run Ar.quo IntKind.i64 (Ar.run Ar.mul IntKind.i64 (Ar.run Ar.add IntKind.i64 (Ar.run Ar.mn IntKind.i64 a14 0) 1) 0) 1000) 1) 1) a16) 10000000000000, 0) []))))
   (.ask (Cm.run Cm.gtr (Ar.run Ar.quo IntKind.i64 (Ar.run Ar.mul IntKind.i64 a13 0) 1000) 0)
   (.ask (Cm.run Cm.gtr (Ar.run Ar.mx IntKind.i64 (Ar.run Ar.sub IntKind.i64 (Ar.run Ar.quo IntKind.i64 (Ar.run Ar.mul IntKind.i64 a13 0) 1000) a15) 0) (Ar.run Ar.mn IntKind.i64 (Ar.run Ar.sub IntKind.i64 (Ar.run Ar.sub IntKind.i64 (Ar.run Ar.add IntKind.i64 (Ar.run Ar.quo IntKind.i64 (Ar.run Ar.mul IntKind.i64 (Ar.run Ar.add IntKind.i64 (Ar.run Ar.mn IntKind.i64 a14 0) 1) 0) 1000) 1) 1) a16) 10000000000000))
   (.leaf (.done (0, 0, 9) []))
   (.leaf (.done (Ar.run Ar.mx IntKind.i64 (Ar.run Ar.sub IntKind.i64 (Ar.run Ar.quo IntKind.i64 (Ar.run Ar.mul IntKind.i64 a13 0) 1000) a15) 0, Ar.run Ar.mn IntKind.i64 (Ar.run Ar.sub IntKind.i64 (Ar.run Ar.sub IntKind.i64 (Ar.run Ar.add IntKind.i64 (Ar.run Ar.quo IntKind.i64 (Ar.run Ar.mul IntKind.i64 (Ar.run Ar.add IntKind.i64 (Ar.run Ar.mn IntKind.i64 a14 0) 1) 0) 1000) 1) 1) a16) 10000000000000, 0) [])))
   (.ask (Cm.run Cm.gtr 0 (Ar.run Ar.mn IntKind.i64 (Ar.run Ar.sub IntKind.i64 (Ar.run Ar.sub IntKind.i64 (Ar.run Ar.add IntKind.i64 (Ar.run Ar.quo IntKind.i64 (Ar.run Ar.mul IntKind.i64 (Ar.run Ar.add IntKind.i64 (Ar.run Ar.mn IntKind.i64 a14 0) 1) 0) 1000) 1) 1) a16) 10000000000000))
   (.leaf (.done (0, 0, 9) []))
   (.leaf (.done (0, Ar.run Ar.mn IntKind.i64 (Ar.run Ar.sub IntKind.i64 (Ar.run Ar.sub IntKind.i64 (Ar.run Ar.add IntKind.i64 (Ar.run Ar.quo IntKind.i64 (Ar.run Ar.mul IntKind.i64 (Ar.run Ar.add IntKind.i64 (Ar.run Ar.mn IntKind.i64 a14 0) 1) 0) 1000) 1) 1) a16) 10000000000000, 0) [])))))
   (.ask (Cm.run Cm.gtr (Ar.run Ar.rem IntKind.i64 (Ar.run Ar.mul IntKind.i64 a13 0) 1000) 0)
   (.ask (Cm.run Cm.gtr (Ar.run Ar.add IntKind.i64 (Ar.run Ar.quo IntKind.i64 (Ar.run Ar.mul IntKind.i64 a13 0) 1000) 1) 0)
   (.ask (Cm.run Cm.gtr (Ar.run Ar.mx IntKind.i64 (Ar.run Ar.sub IntKind.i64 (Ar.run Ar.add IntKind.i64 (Ar.run Ar.quo IntKind.i64 (Ar.run Ar.mul IntKind.i64 a13 0) 1000) 1) a15) 0) (Ar.run Ar.mn IntKind.i64 (Ar.run Ar.sub IntKind.i64 (Ar.run Ar.sub IntKind.i64 (Ar.run Ar.quo IntKind.i64 (Ar.run Ar.mul IntKind.i64 (Ar.run Ar.add IntKind.i64 (Ar.run Ar.mn IntKind.i64 a14 0) 1) 0) 1000) 1) a16) 10000000000000))
   (.leaf (.done (0, 0, 9) []))
   (.leaf (.done (Ar.run Ar.mx IntKind.i64 (Ar.run Ar.sub IntKind.i64 (Ar.run Ar.add IntKind.i64 (Ar.run Ar.quo IntKind.i64 (Ar.run Ar.mul IntKind.i64 a13 0) 1000) 1) a15) 0, Ar.run Ar.mn IntKind.i64 (Ar.run Ar.sub IntKind.i64 (Ar.run Ar.sub IntKind.i64 (Ar.run Ar.quo IntKind.i64 (Ar.run Ar.mul IntKind.i64 (Ar.run Ar.add IntKind.i64 (Ar.run Ar.mn IntKind.i64 a14 0) 1) 0) 1000) 1) a16) 10000000000000, 0) [])))
   (.ask (Cm.run Cm.gtr 0 (Ar.run Ar.mn IntKind.i64 (Ar.run Ar.sub IntKind.i64 (Ar.run Ar.sub IntKind.i64 (Ar.run Ar.quo IntKind.i64 (Ar.run Ar.mul IntKind.i64 (Ar.run Ar.add IntKind.i64 (Ar.run Ar.mn IntKind.i64 a14 0) 1) 0) 1000) 1) a16) 10000000000000))
   (.leaf (.done (0, 0, 9) []))
   (.leaf (.done (0, Ar.run Ar.mn IntKind.i64 (Ar.run Ar.sub IntKind.i64 (Ar.run Ar.sub IntKind.i64 (Ar.run Ar.quo IntKind.i64 (Ar.run Ar.mul IntKind.i64 (Ar.run Ar.add IntKind.i64 (Ar.run Ar.mn IntKind.i64 a14 0) 1) 0) 1000) 1) a16) 10000000000000, 0) []))))
   (.ask (Cm.run Cm.gtr (Ar.run Ar.quo IntKind.i64 (Ar.run Ar.mul IntKind.i64 a13 0) 1000) 0)
   (.ask (Cm.run Cm.gtr (Ar.run Ar.mx IntKind.i64 (Ar.run Ar.sub IntKind.i64 (Ar.run Ar.quo IntKind.i64 (Ar.run Ar.mul IntKind.i64 a13 0) 1000) a15) 0) (Ar.run Ar.mn IntKind.i64 (Ar.run Ar.sub IntKind.i64 (Ar.run Ar.sub IntKind.i64 (Ar.run Ar.quo IntKind.i64 (Ar.run Ar.mul IntKind.i64 (Ar.run Ar.add IntKind.i64 (Ar.run Ar.mn IntKind.i64 a14 0) 1) 0) 1000) 1) a16) 10000000000000))
   (.leaf (.done (0, 0, 9) []))
   (.leaf (.done (Ar.run Ar.mx IntKind.i64 (Ar.run Ar.sub IntKind.i64 (Ar.run Ar.quo IntKind.i64 (Ar.run Ar.mul IntKind.i64 a13 0) 1000) a15) 0, Ar.run Ar.mn IntKind.i64 (Ar.run Ar.sub IntKind.i64 (Ar.run Ar.sub IntKind.i64 (Ar.run Ar.quo IntKind.i64 (Ar.run Ar.mul IntKind.i64 (Ar.run Ar.add IntKind.i64 (Ar.run Ar.mn IntKind.i64 a14 0) 1) 0) 1000) 1) a16) 10000000000000, 0) [])))
   (.ask (Cm.run Cm.gtr 0 (Ar.run Ar.mn IntKind.i64 (Ar.run Ar.sub IntKind.i64 (Ar.run Ar.sub IntKind.i64 (Ar.run Ar.quo IntKind.i64 (Ar.run Ar.mul IntKind.i64 (Ar.run Ar.add IntKind.i64 (Ar.run Ar.mn IntKind.i64 a14 0) 1) 0) 1000) 1) a16) 10000000000000))
   (.leaf (.done (0, 0, 9) []))
   (.leaf (.done (0, Ar.run Ar.mn IntKind.i64 (Ar.run Ar.sub IntKind.i64 (Ar.run Ar.sub IntKind.i64 (Ar.run Ar.quo IntKind.i64 (Ar.run Ar.mul IntKind.i64 (Ar.run Ar.add IntKind.i64 (Ar.run Ar.mn IntKind.i64 a14 0) 1) 0) 1000) 1) a16) 10000000000000, 0) []))))))
   (.leaf (.done (0, 0, 3) [])))
   (.leaf (.done (0, 0, 3) [])))
   (.leaf (.done (0, 0, 3) [])))
   (.leaf (.done (0, 0, 3) [])))
   (.leaf (.done (0, 0, 3) [])))
   (.leaf (.done (0, 0, 3) []))))
   (.ask (Cm.run Cm.leq 0 a13)
   (.ask (Cm.run Cm.leq a13 a14)
   (.ask (Cm.run Cm.leq a14 100000000)
   (.ask (Cm.run Cm.leq (-10000000000000) a15)
   (.ask (Cm.run Cm.leq a15 a16)
   (.ask (Cm.run Cm.leq a16 10000000000000)
   (.ask (Cm.run Cm.gtr (Ar.run Ar.rem IntKind.i64 (Ar.run Ar.mul IntKind.i64 (Ar.run Ar.add IntKind.i64 (Ar.run Ar.mn IntKind.i64 a14 a11) 1) (Ar.run Ar.add IntKind.i64 (Ar.run Ar.add IntKind.i64 (Ar.run Ar.mul IntKind.i64 a1 a3) (Ar.run Ar.mul IntKind.i64 a2 a5)) (Ar.run Ar.mul IntKind.i64 1000 a0))) 1000) 0)
   (.ask (Cm.run Cm.gtr (Ar.run Ar.rem IntKind.i64 (Ar.run Ar.mul IntKind.i64 a13 (Ar.run Ar.add IntKind.i64 (Ar.run Ar.add IntKind.i64 (Ar.run Ar.mul IntKind.i64 a1 a4) (Ar.run Ar.mul IntKind.i64 a2 a6)) (Ar.run Ar.mul IntKind.i64 1000 a0))) 1000) 0)
   (.ask (Cm.run Cm.gtr (Ar.run Ar.add IntKind.i64 (Ar.run Ar.quo IntKind.i64 (Ar.run Ar.mul IntKind.i64 a13 (Ar.run Ar.add IntKind.i64 (Ar.run Ar.add IntKind.i64 (Ar.run Ar.mul IntKind.i64 a1 a4) (Ar.run Ar.mul IntKind.i64 a2 a6)) (Ar.run Ar.mul IntKind.i64 1000 a0))) 1000) 1) 0)
   (.ask (Cm.run Cm.gtr (Ar.run Ar.mx IntKind.i64 (Ar.run Ar.sub IntKind.i64 (Ar.run Ar.add IntKind.i64 (Ar.run Ar.quo IntKind.i64 (Ar.run Ar.mul IntKind.i64 a13 (Ar.run Ar.add IntKind.i64 (Ar.run Ar.add IntKind.i64 (Ar.run Ar.mul IntKind.i64 a1 a4) (Ar.run Ar.mul IntKind.i64 a2 a6)) (Ar.run Ar.mul IntKind.i64 1000 a0))) 1000) 1) a15) 0) (Ar.run Ar.mn IntKind.i64 (Ar.run Ar.sub IntKind.i64 (Ar.run Ar.sub IntKind.i64 (Ar.run Ar.add IntKind.i64 (Ar.run Ar.quo IntKind.i64 (Ar.run Ar.mul IntKind.i64 (Ar.run Ar.add IntKind.i64 (Ar.run Ar.mn IntKind.i64 a14 a11) 1) (Ar.run Ar.add IntKind.i64 (Ar.run Ar.add IntKind.i64 (Ar.run Ar.mul IntKind.i64 a1 a3) (Ar.run Ar.mul IntKind.i64 a2 a5)) (Ar.run Ar.mul IntKind.i64 1000 a0))) 1000) 1) 1) a16) 10000000000000))
   (.leaf (.done (0, 0, 9) []))
   (.leaf (.done (Ar.run Ar.mx IntKind.i64 (Ar.run Ar.sub IntKind.i64 (Ar.run Ar.add IntKind.i64 (Ar.run Ar.quo IntKind.i64 (Ar.run Ar.mul IntKind.i64 a13 (Ar.run Ar.add IntKind.i64 (Ar.run Ar.add IntKind.i64 (Ar.run Ar.mul IntKind.i64 a1 a4) (Ar.run Ar.mul IntKind.i64 a2 a6)) (Ar.run Ar.mul IntKind.i64 1000 a0))) 1000) 1) a15) 0, Ar.run Ar.mn IntKind.i64 (Ar.run Ar.sub IntKind.i64 (Ar.run Ar.sub IntKind.i64 (Ar.run Ar.add IntKind.i64 (Ar.run Ar.quo IntKind.i64 (Ar.run Ar.mul IntKind.i64 (Ar.run Ar.add IntKind.i64 (Ar.run Ar.mn IntKind.i64 a14 a11) 1) (Ar.run Ar.add IntKind.i64 (Ar.run Ar.add IntKind.i64 (Ar.run Ar.mul IntKind.i64 a1 a3) (Ar.run Ar.mul IntKind.i64 a2 a5)) (Ar.run Ar.mul IntKind.i64 1000 a0))) 1000) 1) 1) a16) 10000000000000, 0) [])))
   (.ask (Cm.run Cm.gtr 0 (Ar.run Ar.mn IntKind.i64 (Ar.run Ar.sub IntKind.i64 (Ar.run Ar.sub IntKind.i64 (Ar.run Ar.add IntKind.i64 (Ar.run Ar.quo IntKind.i64 (Ar.run Ar.mul IntKind.i64 (Ar.run Ar.add IntKind.i64 (Ar.run Ar.mn IntKind.i64 a14 a11) 1) (Ar.run Ar.add IntKind.i64 (Ar.run Ar.add IntKind.i64 (Ar.run Ar.mul IntKind.i64 a1 a3) (Ar.run Ar.mul IntKind.i64 a2 a5)) (Ar.run Ar.mul IntKind.i64 1000 a0))) 1000) 1) 1) a16) 10000000000000))
   (.leaf (.done (0, 0, 9) []))
   (.leaf (.done (0, Ar.run Ar.mn IntKind.i64 (Ar.run Ar.sub IntKind.i64 (Ar.run Ar.sub IntKind.i64 (Ar.run Ar.add IntKind.i64 (Ar.run Ar.quo IntKind.i64 (Ar.run Ar.mul IntKind.i64 (Ar.run Ar.add IntKind.i64 (Ar.run Ar.mn IntKind.i64 a14 a11) 1) (Ar.run Ar.add IntKind.i64 (Ar.run Ar.add IntKind.i64 (Ar.run Ar.mul IntKind.i64 a1 a3) (Ar.run Ar.mul IntKind.i64 a2 a5)) (Ar.run Ar.mul IntKind.i64 1000 a0))) 1000) 1) 1) a16) 10000000000000, 0) []))))
   (.ask (Cm.run Cm.gtr (Ar.run Ar.quo IntKind.i64 (Ar.run Ar.mul IntKind.i64 a13 (Ar.run Ar.add IntKind.i64 (Ar.run Ar.add IntKind.i64 (Ar.run Ar.mul IntKind.i64 a1 a4) (Ar.run Ar.mul IntKind.i64 a2 a6)) (Ar.run Ar.mul IntKind.i64 1000 a0))) 1000) 0)
   (.ask (Cm.run Cm.gtr (Ar.run Ar.mx IntKind.i64 (Ar.run Ar.sub IntKind.i64 (Ar.run Ar.quo IntKind.i64 (Ar.run Ar.mul IntKind.i64 a13 (Ar.run Ar.add IntKind.i64 (Ar.run Ar.add IntKind.i64 (Ar.run Ar.mul IntKind.i64 a1 a4) (Ar.run Ar.mul IntKind.i64 a2 a6)) (Ar.run Ar.mul IntKind.i64 1000 a0))) 1000) a15) 0) (Ar.run Ar.mn IntKind.i64 (Ar.run Ar.sub IntKind.i64 (Ar.run Ar.sub IntKind.i64 (Ar.run Ar.add IntKind.i64 (Ar.run Ar.quo IntKind.i64 (Ar.run Ar.mul IntKind.i64 (Ar.run Ar.add IntKind.i64 (Ar.run Ar.mn IntKind.i64 a14 a11) 1) (Ar.run Ar.add IntKind.i64 (Ar.run Ar.add IntKind.i64 (Ar.run Ar.mul IntKind.i64 a1 a3) (Ar.run Ar.mul IntKind.i64 a2 a5)) (Ar.run Ar.mul IntKind.i64 1000 a0))) 1000) 1) 1) a16) 10000000000000))
   (.leaf (.done (0, 0, 9) []))
   (.leaf (.done (Ar.run Ar.mx IntKind.i64 (Ar.run Ar.sub IntKind.i64 (Ar.run Ar.quo IntKind.i64 (Ar.run Ar.mul IntKind.i64 a13 (Ar.run Ar.add IntKind.i64 (Ar.run Ar.add IntKind.i64 (Ar.run Ar.mul IntKind.i64 a1 a4) (Ar.run Ar.mul IntKind.i64 a2 a6)) (Ar.run Ar.mul IntKind.i64 1000 a0))) 1000) a15) 0, Ar.run Ar.mn IntKind.i64 (Ar.run Ar.sub IntKind.i64 (Ar.run Ar.sub IntKind.i64 (Ar.run Ar.add IntKind.i64 (Ar.run Ar.quo IntKind.i64 (Ar.run Ar.mul IntKind.i64 (Ar.run Ar.add IntKind.i64 (Ar.run Ar.mn IntKind.i64 a14 a11) 1) (Ar.run Ar.add IntKind.i64 (Ar.run Ar.add IntKind.i64 (Ar.run Ar.mul IntKind.i64 a1 a3) (Ar.run Ar.mul IntKind.i64 a2 a5)) (Ar.run Ar.mul IntKind.i64 1000 a0))) 1000) 1) 1) a16) 10000000000000, 0) [])))
   (.ask (Cm.run Cm.gtr 0 (Ar.run Ar.mn IntKind.i64 (Ar.run Ar.sub IntKind.i64 (Ar.run Ar.sub IntKind.i64 (Ar.run Ar.add IntKind.i64 (Ar.run Ar.quo IntKind.i64 (Ar.run Ar.mul IntKind.i64 (Ar.run Ar.add IntKind.i64 (Ar.run Ar.mn IntKind.i64 a14 a11) 1) (Ar.run Ar.add IntKind.i64 (Ar.run Ar.add IntKind.i64 (Ar.run Ar.mul IntKind.i64 a1 a3) (Ar.run Ar.mul IntKind.i64 a2 a5)) (Ar.run Ar.mul IntKind.i64 1000 a0))) 1000) 1) 1) a16) 10000000000000))
   (.leaf (.done (0, 0, 9) []))
   (.leaf (.done (0, Ar.run Ar.mn IntKind.i64 (Ar.run Ar.sub IntKind.i64 (Ar.run Ar.sub IntKind.i64 (Ar.run Ar.add IntKind.i64 (Ar.run Ar.quo IntKind.i64 (Ar.run Ar.mul IntKind.i64 (Ar.run Ar.add IntKind.i64 (Ar.run Ar.mn IntKind.i64 a14 a11) 1) (Ar.run Ar.add IntKind.i64 (Ar.run Ar.add IntKind.i64 (Ar.run Ar.mul IntKind.i64 a1 a3) (Ar.run Ar.mul IntKind.i64 a2 a5)) (Ar.run Ar.mul IntKind.i64 1000 a0))) 1000) 1) 1) a16) 10000000000000, 0) [])))))
   (.ask (Cm.run Cm.gtr (Ar.run Ar.rem IntKind.i64 (Ar.run Ar.mul IntKind.i64 a13 (Ar.run Ar.add IntKind.i64 (Ar.run Ar.add IntKind.i64 (Ar.run Ar.mul IntKind.i64 a1 a4) (Ar.run Ar.mul IntKind.i64 a2 a6)) (Ar.run Ar.mul IntKind.i64 1000 a0))) 1000) 0)
   (.ask (Cm.run Cm.gtr (Ar.run Ar.add IntKind.i64 (Ar.run Ar.quo IntKind.i64 (Ar.run Ar.mul IntKind.i64 a13 (Ar.run Ar.add IntKind.i64 (Ar.run Ar.add IntKind.i64 (Ar.run Ar.mul IntKind.i64 a1 a4) (Ar.run Ar.mul IntKind.i64 a2 a6)) (Ar.run Ar.mul IntKind.i64 1000 a0))) 1000) 1) 0)
   (.ask (Cm.run Cm.gtr (Ar.run Ar.mx IntKind.i64 (Ar.run Ar.sub IntKind.i64 (Ar.run Ar.add IntKind.i64 (Ar.run Ar.quo IntKind.i64 (Ar.run Ar.mul IntKind.i64 a13 (Ar.run Ar.add IntKind.i64 (Ar.run Ar.add IntKind.i64 (Ar.run Ar.mul IntKind.i64 a1 a4) (Ar.run Ar.mul IntKind.i64 a2 a6)) (Ar.run Ar.mul IntKind.i64 1000 a0))) 1000) 1) a15) 0) (Ar.run Ar.mn IntKind.i64 (Ar.run Ar.sub IntKind.i64 (Ar.run Ar.sub IntKind.i64 (Ar.run Ar.quo IntKind.i64 (Ar.run Ar.mul IntKind.i64 (Ar.run Ar.add IntKind.i64 (Ar.run Ar.mn IntKind.i64 a14 a11) 1) (Ar.run Ar.add IntKind.i64 (Ar.run Ar.add IntKind.i64 (Ar.run Ar.mul IntKind.i64 a1 a3) (Ar.run Ar.mul IntKind.i64 a2 a5)) (Ar.run Ar.mul IntKind.i64 1000 a0))) 1000) 1) a16) 10000000000000))
   (.leaf (.done (0, 0, 9) []))
   (.leaf (.done (Ar.run Ar.mx IntKind.i64 (Ar.run Ar.sub IntKind.i64 (Ar.run Ar.add IntKind.i64 (Ar.run Ar.quo IntKind.i64 (Ar.run Ar.mul IntKind.i64 a13 (Ar.run Ar.add IntKind.i64 (Ar.run Ar.add IntKind.i64 (Ar.run Ar.mul IntKind.i64 a1 a4) (Ar.run Ar.mul IntKind.i64 a2 a6)) (Ar.run Ar.mul IntKind.i64 1000 a0))) 1000) 1) a15) 0, Ar.run Ar.mn IntKind.i64 (Ar.run Ar.sub IntKind.i64 (Ar.run Ar.sub IntKind.i64 (Ar.run Ar.quo IntKind.i64 (Ar.run Ar.mul IntKind.i64 (Ar.run Ar.add IntKind.i64 (Ar.run Ar.mn IntKind.i64 a14 a11) 1) (Ar.run Ar.add IntKind.i64 (Ar.run Ar.add IntKind.i64 (Ar.run Ar.mul IntKind.i64 a1 a3) (Ar.run Ar.mul IntKind.i64 a2 a5)) (Ar.run Ar.mul IntKind.i64 1000 a0))) 1000) 1) a16) 10000000000000, 0) [])))
   (.ask (Cm.run Cm.gtr 0 (Ar.run Ar.mn IntKind.i64 (Ar.run Ar.sub IntKind.i64 (Ar.run Ar.sub IntKind.i64 (Ar.run Ar.quo IntKind.i64 (Ar.run Ar.mul IntKind.i64 (Ar.run Ar.add IntKind.i64 (Ar.run Ar.mn IntKind.i64 a14 a11) 1) (Ar.run Ar.add IntKind.i64 (Ar.run Ar.add IntKind.i64 (Ar.run Ar.mul IntKind.i64 a1 a3) (Ar.run Ar.mul IntKind.i64 a2 a5)) (Ar.run Ar.mul IntKind.i64 1000 a0))) 1000) 1) a16) 10000000000000))
   (.leaf (.done (0, 0, 9) []))
   (.leaf (.done (0, Ar.run Ar.mn IntKind.i64 (Ar.run Ar.sub IntKind.i64 (Ar.run Ar.sub IntKind.i64 (Ar.run Ar.quo IntKind.i64 (Ar.run Ar.mul IntKind.i64 (Ar.run Ar.add IntKind.i64 (Ar.run Ar.mn IntKind.i64 a14 a11) 1) (Ar.run Ar.add IntKind.i64 (Ar.run Ar.add IntKind.i64 (Ar.run Ar.mul IntKind.i64 a1 a3) (Ar.run Ar.mul IntKind.i64 a2 a5)) (Ar.run Ar.mul IntKind.i64 1000 a0))) 1000) 1) a16) 10000000000000, 0) []))))
   (.ask (Cm.run Cm.gtr (Ar.run Ar.quo IntKind.i64 (Ar.run Ar.mul IntKind.i64 a13 (Ar.run Ar.add IntKind.i64 (Ar.run Ar.add IntKind.i64 (Ar.run Ar.mul IntKind.i64 a1 a4) (Ar.run Ar.mul IntKind.i64 a2 a6)) (Ar.run Ar.mul IntKind.i64 1000 a0))) 1000) 0)
   (.ask (Cm.run Cm.gtr (Ar.run Ar.mx IntKind.i64 (Ar.run Ar.sub IntKind.i64 (Ar.run Ar.quo IntKind.i64 (Ar.run Ar.mul IntKind.i64 a13 (Ar.run Ar.add IntKind.i64 (Ar.run Ar.add IntKind.i64 (Ar.run Ar.mul IntKind.i64 a1 a4) (Ar.run Ar.mul IntKind.i64 a2 a6)) (Ar.run Ar.mul IntKind.i64 1000 a0))) 1000) a15) 0) (Ar.run Ar.mn IntKind.i64 (Ar.run Ar.sub IntKind.i64 (Ar.run Ar.sub IntKind.i64 (Ar.run Ar.quo IntKind.i64 (Ar.run Ar.mul IntKind.i64 (Ar.run Ar.add IntKind.i64 (Ar.run Ar.mn IntKind.i64 a14 a11) 1) (Ar.run Ar.add IntKind.i64 (Ar.run Ar.add IntKind.i64 (Ar.run Ar.mul IntKind.i64 a1 a3) (Ar.run Ar.mul IntKind.i64 a2 a5)) (Ar.run Ar.mul IntKind.i64 1000 a0))) 1000) 1) a16) 10000000000000))
   (.leaf (.done (0, 0, 9) []))
   (.leaf (.done (Ar.run Ar.mx IntKind.i64 (Ar.run Ar.sub IntKind.i64 (Ar.run Ar.quo IntKind.i64 (Ar.run Ar.mul IntKind.i64 a13 (Ar.run Ar.add IntKind.i64 (Ar.run Ar.add IntKind.i64 (Ar.run Ar.mul IntKind.i64 a1 a4) (Ar.run Ar.mul IntKind.i64 a2 a6)) (Ar.run Ar.mul IntKind.i64 1000 a0))) 1000) a15) 0, Ar.run Ar.mn IntKind.i64 (Ar.run Ar.sub IntKind.i64 (Ar.run Ar.sub IntKind.i64 (Ar.run Ar.quo IntKind.i64 (Ar.run Ar.mul IntKind.i64 (Ar.run Ar.add IntKind.i64 (Ar.run Ar.mn IntKind.i64 a14 a11) 1) (Ar.run Ar.add IntKind.i64 (Ar.run Ar.add IntKind.i64 (Ar.run Ar.mul IntKind.i64 a1 a3) (Ar.run Ar.mul IntKind.i64 a2 a5)) (Ar.run Ar.mul IntKind.i64 1000 a0))) 1000) 1) a16) 10000000000000, 0) [])))
   (.ask (Cm.run Cm.gtr 0 (Ar.run Ar.mn IntKind.i64 (Ar.run Ar.sub IntKind.i64 (Ar.run Ar.sub IntKind.i64 (Ar.run Ar.quo IntKind.i64 (Ar.run Ar.mul IntKind.i64 (Ar.run Ar.add IntKind.i64 (Ar.run Ar.mn IntKind.i64 a14 a11) 1) (Ar.run Ar.add IntKind.i64 (Ar.run Ar.add IntKind.i64 (Ar.run Ar.mul IntKind.i64 a1 a3) (Ar.run Ar.mul IntKind.i64 a2 a5)) (Ar.run Ar.mul IntKind.i64 1000 a0))) 1000) 1) a16) 10000000000000))
   (.leaf (.done (0, 0, 9) []))
   (.leaf (.done (0, Ar.run Ar.mn IntKind.i64 (Ar.run Ar.sub IntKind.i64 (Ar.run Ar.sub IntKind.i64 (Ar.run Ar.quo IntKind.i64 (Ar.run Ar.mul IntKind.i64 (Ar.run Ar.add IntKind.i64 (Ar.run Ar.mn IntKind.i64 a14 a11) 1) (Ar.run Ar.add IntKind.i64 (Ar.run Ar.add IntKind.i64 (Ar.run Ar.mul IntKind.i64 a1 a3) (Ar.run Ar.mul IntKind.i64 a2 a5)) (Ar.run Ar.mul IntKind.i64 1000 a0))) 1000) 1) a16) 10000000000000, 0) []))))))
   (.leaf (.done (0, 0, 3) [])))
   (.leaf (.done (0, 0, 3) [])))
   (.leaf (.done (0, 0, 3) [])))
   (.leaf (.done (0, 0, 3) [])))
   (.leaf (.done (0, 0, 3) [])))
   (.leaf (.done (0, 0, 3) []))))

noncomputable def atrD (a0 : Int) (a1 : Int) (a2 : Int) (a3 : Int) (a4 : Int) (a5 : Int) (a6 : Int) (a7 : Int) (a8 : Int) (a9 : Int) (a10 : Int) (a11 : Int) (a12 : Int) (a13 : Int) (a14 : Int) (a15 : Int) (a16 : Int) : atrN → DD (Lf atrN atrR) := fun a => nomatch a

noncomputable def atrA (a0 : Int) (a1 : Int) (a2 : Int) (a3 : Int) (a4 : Int) (a5 : Int) (a6 : Int) (a7 : Int) (a8 : Int) (a9 : Int) (a10 : Int) (a11 : Int) (a12 : Int) (a13 : Int) (a14 : Int) (a15 : Int) (a16 : Int) : AF atrN atrR where
  code := atrCode
  base := 0
  nt := 71
  m := 400
  un := []
  W := []
  h0 := []
  args := [.agg [.int .i64 (.x a0), .int .i64 (.x a1), .int .i64 (.x a2), .int .i64 (.x a3), .int .i64 (.x a4), .int .i64 (.x a5), .int .i64 (.x a6), .int .i64 (.x a7), .int .i64 (.x a8), .int .i64 (.x a9), .int .i64 (.x a10), .int .i64 (.x a11), .int .i64 (.x a12)], .agg [.int .i64 (.x a13), .int .i64 (.x a14)], .agg [.int .i64 (.x a15), .int .i64 (.x a16)]]
  res := (Try.f23).results.toList
  path := fun a => nomatch a
  pd := fun a => nomatch a
  D0 := atrD0 a0 a1 a2 a3 a4 a5 a6 a7 a8 a9 a10 a11 a12 a13 a14 a15 a16
  D := atrD a0 a1 a2 a3 a4 a5 a6 a7 a8 a9 a10 a11 a12 a13 a14 a15 a16
  rc := (fun v => .tup [.agg [.int .i64 (.x v.1), .int .i64 (.x v.2.1)], .int .i64 (.x v.2.2)])
  rh := (fun v => [])
  rn := (fun v => 0)
  rx := (fun v => [])
  rgo := (fun _ => none)


theorem atrstart (a0 : Int) (a1 : Int) (a2 : Int) (a3 : Int) (a4 : Int) (a5 : Int) (a6 : Int) (a7 : Int) (a8 : Int) (a9 : Int) (a10 : Int) (a11 : Int) (a12 : Int) (a13 : Int) (a14 : Int) (a15 : Int) (a16 : Int) : AF.edgeOk (atrA a0 a1 a2 a3 a4 a5 a6 a7 a8 a9 a10 a11 a12 a13 a14 a15 a16) (ctxOf Try.prog memo0) (atrD0 a0 a1 a2 a3 a4 a5 a6 a7 a8 a9 a10 a11 a12 a13 a14 a15 a16) (AF.run0 (atrA a0 a1 a2 a3 a4 a5 a6 a7 a8 a9 a10 a11 a12 a13 a14 a15 a16) (ctxOf Try.prog (memoA 12 abcP abcF memo0))) := by unfold AF.edgeOk; kernel_rfl

theorem atrok (a0 : Int) (a1 : Int) (a2 : Int) (a3 : Int) (a4 : Int) (a5 : Int) (a6 : Int) (a7 : Int) (a8 : Int) (a9 : Int) (a10 : Int) (a11 : Int) (a12 : Int) (a13 : Int) (a14 : Int) (a15 : Int) (a16 : Int) : (atrA a0 a1 a2 a3 a4 a5 a6 a7 a8 a9 a10 a11 a12 a13 a14 a15 a16).Ok Try.prog (ctxOf Try.prog (memoA 12 abcP abcF memo0)) where
  regs := by kernel_rfl
  h0 := by kernel_rfl
  start := atrstart a0 a1 a2 a3 a4 a5 a6 a7 a8 a9 a10 a11 a12 a13 a14 a15 a16
  node := fun a _ => nomatch a
  pd := fun a => nomatch a
  le := fun a => nomatch a
  rd := fun v => ⟨⟨fa_nil, fa_nil, fa_nil, rfl⟩, rfl⟩
  wb := rfl


theorem atrhR {ρ : Env} (a0 : Int) (a1 : Int) (a2 : Int) (a3 : Int) (a4 : Int) (a5 : Int) (a6 : Int) (a7 : Int) (a8 : Int) (a9 : Int) (a10 : Int) (a11 : Int) (a12 : Int) (a13 : Int) (a14 : Int) (a15 : Int) (a16 : Int) (hM : MemoOk Try.prog (ctxOf Try.prog (memoA 12 abcP abcF memo0)) ρ) : ∀ X a q n D, FxOk ρ X → X.base = (atrA a0 a1 a2 a3 a4 a5 a6 a7 a8 a9 a10 a11 a12 a13 a14 a15 a16).base → X.nt = (atrA a0 a1 a2 a3 a4 a5 a6 a7 a8 a9 a10 a11 a12 a13 a14 a15 a16).nt → X.W = (atrA a0 a1 a2 a3 a4 a5 a6 a7 a8 a9 a10 a11 a12 a13 a14 a15 a16).W → (atrA a0 a1 a2 a3 a4 a5 a6 a7 a8 a9 a10 a11 a12 a13 a14 a15 a16).rgo a = some q → q n = some D → (atrA a0 a1 a2 a3 a4 a5 a6 a7 a8 a9 a10 a11 a12 a13 a14 a15 a16).RangeOk Try.prog ρ X a D := AF.noRange rfl

theorem atrctr {ρ : Env} (a0 : Int) (a1 : Int) (a2 : Int) (a3 : Int) (a4 : Int) (a5 : Int) (a6 : Int) (a7 : Int) (a8 : Int) (a9 : Int) (a10 : Int) (a11 : Int) (a12 : Int) (a13 : Int) (a14 : Int) (a15 : Int) (a16 : Int) {n : Nat} {v : atrR} (hM : MemoOk Try.prog (ctxOf Try.prog (memoA 12 abcP abcF memo0)) ρ) (hv : (atrA a0 a1 a2 a3 a4 a5 a6 a7 a8 a9 a10 a11 a12 a13 a14 a15 a16).run n = some v) :
    Ctr Try.prog ρ 23 (atrA a0 a1 a2 a3 a4 a5 a6 a7 a8 a9 a10 a11 a12 a13 a14 a15 a16).args (atrA a0 a1 a2 a3 a4 a5 a6 a7 a8 a9 a10 a11 a12 a13 a14 a15 a16).H0 (atrA a0 a1 a2 a3 a4 a5 a6 a7 a8 a9 a10 a11 a12 a13 a14 a15 a16).base (atrA a0 a1 a2 a3 a4 a5 a6 a7 a8 a9 a10 a11 a12 a13 a14 a15 a16).W ((atrA a0 a1 a2 a3 a4 a5 a6 a7 a8 a9 a10 a11 a12 a13 a14 a15 a16).rc v) (putH (atrA a0 a1 a2 a3 a4 a5 a6 a7 a8 a9 a10 a11 a12 a13 a14 a15 a16).H0 ((atrA a0 a1 a2 a3 a4 a5 a6 a7 a8 a9 a10 a11 a12 a13 a14 a15 a16).rh v ++ (atrA a0 a1 a2 a3 a4 a5 a6 a7 a8 a9 a10 a11 a12 a13 a14 a15 a16).rx v)) ((atrA a0 a1 a2 a3 a4 a5 a6 a7 a8 a9 a10 a11 a12 a13 a14 a15 a16).rn v) :=
  AF.ctr try_ok hM (atrok a0 a1 a2 a3 a4 a5 a6 a7 a8 a9 a10 a11 a12 a13 a14 a15 a16) (fn := Try.f23) Try.func23 rfl rfl (Nat.le_of_ble_eq_true rfl) rfl (atrhR a0 a1 a2 a3 a4 a5 a6 a7 a8 a9 a10 a11 a12 a13 a14 a15 a16 hM) hv


theorem atrmem {ρ : Env} : MemoOk Try.prog (ctxOf Try.prog (memoA 12 abcP abcF memo0)) ρ := (memoA_ok (abcknown memo0_ok) memo0_ok)


abbrev atrP : List AP := [.agg [.int .i64, .int .i64, .int .i64, .int .i64, .int .i64, .int .i64, .int .i64, .int .i64, .int .i64, .int .i64, .int .i64, .int .i64, .int .i64], .agg [.int .i64, .int .i64], .agg [.int .i64, .int .i64]]
noncomputable def atrF (v : AV) : AF atrN atrR := atrA (v.i.getD 0 0) (v.i.getD 1 0) (v.i.getD 2 0) (v.i.getD 3 0) (v.i.getD 4 0) (v.i.getD 5 0) (v.i.getD 6 0) (v.i.getD 7 0) (v.i.getD 8 0) (v.i.getD 9 0) (v.i.getD 10 0) (v.i.getD 11 0) (v.i.getD 12 0) (v.i.getD 13 0) (v.i.getD 14 0) (v.i.getD 15 0) (v.i.getD 16 0)
theorem atrknown {ρ : Env} (hM : MemoOk Try.prog (ctxOf Try.prog (memoA 12 abcP abcF memo0)) ρ) : KnownA Try.prog ρ 23 atrP atrF where
  fn := ⟨Try.f23, Try.func23, rfl⟩
  args := fun v => rfl
  plain := fun v r => rfl
  ctr := fun v n r h => atrctr (v.i.getD 0 0) (v.i.getD 1 0) (v.i.getD 2 0) (v.i.getD 3 0) (v.i.getD 4 0) (v.i.getD 5 0) (v.i.getD 6 0) (v.i.getD 7 0) (v.i.getD 8 0) (v.i.getD 9 0) (v.i.getD 10 0) (v.i.getD 11 0) (v.i.getD 12 0) (v.i.getD 13 0) (v.i.getD 14 0) (v.i.getD 15 0) (v.i.getD 16 0) hM h

end Go.Proofs.Ytgnmdknbnkljbaa.Cx

/- bolt.Right: the torques that are right. Made by tools/gen_bcon.py. -/
namespace Go.Proofs.Ytgnmdknbnkljbaa.Cx
set_option linter.unusedVariables false
set_option linter.unusedSimpArgs false
set_option maxRecDepth 100000
set_option maxHeartbeats 4000000
open Go Go.RowKit

theorem atr_ok (a0 a1 a2 a3 a4 a5 a6 a7 a8 a9 a10 a11 a12 a13 a14 a15 a16 : Int) (h : KindP a0 a1 a2 a3 a4 a5 a6 a7 a8 a9 a10 a11 a12) : AF.fin (atrA a0 a1 a2 a3 a4 a5 a6 a7 a8 a9 a10 a11 a12 a13 a14 a15 a16) = true ∧ ((¬ ((0 ≤ a13 ∧ a13 ≤ a14 ∧ a14 ≤ 100000000) ∧ (-10000000000000 ≤ a15 ∧ a15 ≤ a16 ∧ a16 ≤ 10000000000000)) → AF.val (atrA a0 a1 a2 a3 a4 a5 a6 a7 a8 a9 a10 a11 a12 a13 a14 a15 a16) = (0, 0, 3)) ∧ ((0 ≤ a13 ∧ a13 ≤ a14 ∧ a14 ≤ 100000000) ∧ (-10000000000000 ≤ a15 ∧ a15 ≤ a16 ∧ a16 ≤ 10000000000000) → AF.val (atrA a0 a1 a2 a3 a4 a5 a6 a7 a8 a9 a10 a11 a12 a13 a14 a15 a16) = if (lowT ((a13 * (armV a0 a1 a2 a4 a6) + 999) / 1000) a15) > min ((((min a14 a11 + 1) * (armV a0 a1 a2 a3 a5) + 999) / 1000) - 1 - a16) 10000000000000 then (0, 0, 9) else ((lowT ((a13 * (armV a0 a1 a2 a4 a6) + 999) / 1000) a15), min ((((min a14 a11 + 1) * (armV a0 a1 a2 a3 a5) + 999) / 1000) - 1 - a16) 10000000000000, 0))) :=
  AF.val_sat (Inv := fun _ => False) (E := fun (v : atrR) => (¬ ((0 ≤ a13 ∧ a13 ≤ a14 ∧ a14 ≤ 100000000) ∧ (-10000000000000 ≤ a15 ∧ a15 ≤ a16 ∧ a16 ≤ 10000000000000)) → v = (0, 0, 3)) ∧ ((0 ≤ a13 ∧ a13 ≤ a14 ∧ a14 ≤ 100000000) ∧ (-10000000000000 ≤ a15 ∧ a15 ≤ a16 ∧ a16 ≤ 10000000000000) → v = if (lowT ((a13 * (armV a0 a1 a2 a4 a6) + 999) / 1000) a15) > min ((((min a14 a11 + 1) * (armV a0 a1 a2 a3 a5) + 999) / 1000) - 1 - a16) 10000000000000 then (0, 0, 9) else ((lowT ((a13 * (armV a0 a1 a2 a4 a6) + 999) / 1000) a15), min ((((min a14 a11 + 1) * (armV a0 a1 a2 a3 a5) + 999) / 1000) - 1 - a16) 10000000000000, 0))) (fun _ => 0) (fun _ => rfl) (fun a => nomatch a) (by
    obtain ⟨c1, c2, _⟩ := abc_val a0 a1 a2 a3 a4 a5 a6 a7 a8 a9 a10 a11 a12
    obtain ⟨e1, e2, e3⟩ := arm_eqs h
    show DD.sat _ _ (atrD0 a0 a1 a2 a3 a4 a5 a6 a7 a8 a9 a10 a11 a12 a13 a14 a15 a16)
    unfold atrD0
    rw [c1, c2 h, e1, e2]
    unfold KindP at h
    by_cases hv : (0 ≤ a13 ∧ a13 ≤ a14 ∧ a14 ≤ 100000000) ∧ (-10000000000000 ≤ a15 ∧ a15 ≤ a16 ∧ a16 ≤ 10000000000000)
    · have m1 := mul_rng (a := a13) (b := armV a0 a1 a2 a4 a6) (A := 100000000) (B := 300000000) (by omega) (by omega)
      have m2 := mul_rng (a := min a14 a11 + 1) (b := armV a0 a1 a2 a3 a5) (A := 100000001) (B := 300000000) (by omega) (by omega)
      rw [arMn (a := a14) (b := a11), arAdd (a := min a14 a11) (by omega), arMul (a := a13) (b := armV a0 a1 a2 a4 a6) (by omega), arMul (a := min a14 a11 + 1) (b := armV a0 a1 a2 a3 a5) (by omega)]
      generalize a13 * (armV a0 a1 a2 a4 a6) = y at *
      generalize (min a14 a11 + 1) * (armV a0 a1 a2 a3 a5) = x at *
      obtain ⟨u1, u2, u3⟩ := up_eq2 (x := x) (by omega)
      obtain ⟨v1, v2, v3⟩ := up_eq2 (x := y) (by omega)
      rw [u1, u2, u3, v1, v2, v3]
      have s1 : Ar.run Ar.sub IntKind.i64 (y / 1000 + 1) a15 = y / 1000 + 1 - a15 := arSub (by omega)
      have s2 : Ar.run Ar.sub IntKind.i64 (y / 1000) a15 = y / 1000 - a15 := arSub (by omega)
      have s3 : Ar.run Ar.sub IntKind.i64 (x / 1000 + 1) 1 = x / 1000 := by rw [arSub (by omega)]; omega
      have s4 : Ar.run Ar.sub IntKind.i64 (x / 1000) 1 = x / 1000 - 1 := arSub (by omega)
      have s5 : Ar.run Ar.sub IntKind.i64 (x / 1000) a16 = x / 1000 - a16 := arSub (by omega)
      have s6 : Ar.run Ar.sub IntKind.i64 (x / 1000 - 1) a16 = x / 1000 - 1 - a16 := arSub (by omega)
      rw [s1, s2, s3, s4, s5, s6]
      clear c1 c2 u1 u2 u3 v1 v2 v3 e1 e2 e3 s1 s2 s3 s4 s5 s6 h
      have key : ∀ {l r e : Int}, (lowT ((y + 999) / 1000) a15 > min ((x + 999) / 1000 - 1 - a16) 10000000000000 ∧ l = 0 ∧ r = 0 ∧ e = 9 ∨ ¬ (lowT ((y + 999) / 1000) a15 > min ((x + 999) / 1000 - 1 - a16) 10000000000000) ∧ l = lowT ((y + 999) / 1000) a15 ∧ r = min ((x + 999) / 1000 - 1 - a16) 10000000000000 ∧ e = 0) → (l, r, e) = if lowT ((y + 999) / 1000) a15 > min ((x + 999) / 1000 - 1 - a16) 10000000000000 then (0, 0, 9) else (lowT ((y + 999) / 1000) a15, min ((x + 999) / 1000 - 1 - a16) 10000000000000, 0) := by
        rintro l r e (⟨h, rfl, rfl, rfl⟩ | ⟨h, rfl, rfl, rfl⟩)
        · rw [if_pos h]
        · rw [if_neg h]
      have lt : lowT ((y + 999) / 1000) a15 = if 0 < (y + 999) / 1000 then max ((y + 999) / 1000 - a15) 0 else 0 := rfl
      generalize lowT ((y + 999) / 1000) a15 = L at *
      simp only [DD.sat, cmLss, cmLeq, cmGtr, cmGeq, cmEql, cmNeq, cmLssF, cmLeqF, cmGtrF, cmGeqF, cmEqlF, cmNeqF, arMx, arMn, ne_eq, not_true_eq_false, false_imp_iff, true_and, and_true]
      repeat' (first | (intro _) | (apply And.intro) | (apply key))
      all_goals (first | omega | (split at lt <;> omega))
    · clear c1 c2 h e1 e2 e3
      simp only [DD.sat, cmLss, cmLeq, cmGtr, cmGeq, cmEql, cmNeq, cmLssF, cmLeqF, cmGtrF, cmGeqF, cmEqlF, cmNeqF, Prod.mk.injEq, imp_false, ne_eq, not_true_eq_false, false_imp_iff, true_and, and_true, reduceCtorEq, Bool.false_eq_true, arMx, arMn]
      repeat' (first | (intro _) | (apply And.intro))
      all_goals first | omega | (exfalso; omega))
theorem atr_bad (a0 a1 a2 a3 a4 a5 a6 a7 a8 a9 a10 a11 a12 a13 a14 a15 a16 : Int) (h : ¬ KindP a0 a1 a2 a3 a4 a5 a6 a7 a8 a9 a10 a11 a12) : AF.fin (atrA a0 a1 a2 a3 a4 a5 a6 a7 a8 a9 a10 a11 a12 a13 a14 a15 a16) = true ∧ AF.val (atrA a0 a1 a2 a3 a4 a5 a6 a7 a8 a9 a10 a11 a12 a13 a14 a15 a16) = (0, 0, 2) :=
  AF.val_sat (Inv := fun _ => False) (E := fun (v : atrR) => v = (0, 0, 2)) (fun _ => 0) (fun _ => rfl) (fun a => nomatch a) (by
    obtain ⟨c1, _, c3⟩ := abc_val a0 a1 a2 a3 a4 a5 a6 a7 a8 a9 a10 a11 a12
    show DD.sat _ _ (atrD0 a0 a1 a2 a3 a4 a5 a6 a7 a8 a9 a10 a11 a12 a13 a14 a15 a16)
    unfold atrD0
    rw [c1, c3 h]
    refine ⟨rfl, fun _ => ⟨fun _ => rfl, fun h => absurd (cmNeqF.1 h) (by decide)⟩, fun h => absurd (cmNeqF.1 h) (by decide)⟩)
end Go.Proofs.Ytgnmdknbnkljbaa.Cx

/- acme/acmeref09.Right as an automaton. Made by tools/cxauto.py. -/
namespace Go.Proofs.Ytgnmdknbnkljbaa.Cx
set_option linter.unusedVariables false
set_option linter.unusedSimpArgs false
set_option maxRecDepth 100000
open Go Go.Proofs Go.RowKit

noncomputable abbrev arrCode : Code := funcCode Try.f26


inductive arrN where
  | n0 (p0 : Int) (p1 : Int)
  | n1 (p0 : Int) (p1 : Int) (p2 : Int)

abbrev arrR := Int × Int

noncomputable def arrD0 (a0 : Int) (a1 : Int) (a2 : Int) (a3 : Int) (a4 : Int) (a5 : Int) (a6 : Int) (a7 : Int) (a8 : Int) (a9 : Int) (a10 : Int) (a11 : Int) (a12 : Int) (a13 : Int) (a14 : Int) (a15 : Int) (a16 : Int) : DD (Lf arrN arrR) :=
 .leaf (.next (.n0 (-1) 10000000000001) [0, 1, 2, 3])

noncomputable def arrD (a0 : Int) (a1 : Int) (a2 : Int) (a3 : Int) (a4 : Int) (a5 : Int) (a6 : Int) (a7 : Int) (a8 : Int) (a9 : Int) (a10 : Int) (a11 : Int) (a12 : Int) (a13 : Int) (a14 : Int) (a15 : Int) (a16 : Int) : arrN → DD (Lf arrN arrR)
 | .n0 p0 p1 =>
 .ask (Cm.run Cm.gtr (Ar.run Ar.sub IntKind.i64 p1 p0) 1)
   (.must (AF.fin (abgA a0 a1 a2 a3 a4 a5 a6 a7 a8 a9 a10 a11 a12 1 (Ar.run Ar.mx IntKind.i64 0 (Ar.run Ar.add IntKind.i64 (Ar.run Ar.quo IntKind.i64 (Ar.run Ar.add IntKind.i64 p0 p1) 2) a15)) (Ar.run Ar.mx IntKind.i64 0 (Ar.run Ar.add IntKind.i64 (Ar.run Ar.quo IntKind.i64 (Ar.run Ar.add IntKind.i64 p0 p1) 2) a16)) 0 0 0 0))
   (.ask (Cm.run Cm.geq (Prod.fst (AF.val (abgA a0 a1 a2 a3 a4 a5 a6 a7 a8 a9 a10 a11 a12 1 (Ar.run Ar.mx IntKind.i64 0 (Ar.run Ar.add IntKind.i64 (Ar.run Ar.quo IntKind.i64 (Ar.run Ar.add IntKind.i64 p0 p1) 2) a15)) (Ar.run Ar.mx IntKind.i64 0 (Ar.run Ar.add IntKind.i64 (Ar.run Ar.quo IntKind.i64 (Ar.run Ar.add IntKind.i64 p0 p1) 2) a16)) 0 0 0 0))) a13)
   (.leaf (.next (.n0 p0 (Ar.run Ar.quo IntKind.i64 (Ar.run Ar.add IntKind.i64 p0 p1) 2)) [0, 1, 2, 3]))
   (.leaf (.next (.n0 (Ar.run Ar.quo IntKind.i64 (Ar.run Ar.add IntKind.i64 p0 p1) 2) p1) [0, 1, 2, 3]))))
   (.leaf (.next (.n1 (-1) 10000000000001 p1) [0, 1, 2, 3, 4]))
 | .n1 p0 p1 p2 =>
 .ask (Cm.run Cm.gtr (Ar.run Ar.sub IntKind.i64 p1 p0) 1)
   (.must (AF.fin (abgA a0 a1 a2 a3 a4 a5 a6 a7 a8 a9 a10 a11 a12 1 (Ar.run Ar.mx IntKind.i64 0 (Ar.run Ar.add IntKind.i64 (Ar.run Ar.quo IntKind.i64 (Ar.run Ar.add IntKind.i64 p0 p1) 2) a15)) (Ar.run Ar.mx IntKind.i64 0 (Ar.run Ar.add IntKind.i64 (Ar.run Ar.quo IntKind.i64 (Ar.run Ar.add IntKind.i64 p0 p1) 2) a16)) 0 0 0 0))
   (.ask (Prod.fst (Prod.snd (Prod.snd (AF.val (abgA a0 a1 a2 a3 a4 a5 a6 a7 a8 a9 a10 a11 a12 1 (Ar.run Ar.mx IntKind.i64 0 (Ar.run Ar.add IntKind.i64 (Ar.run Ar.quo IntKind.i64 (Ar.run Ar.add IntKind.i64 p0 p1) 2) a15)) (Ar.run Ar.mx IntKind.i64 0 (Ar.run Ar.add IntKind.i64 (Ar.run Ar.quo IntKind.i64 (Ar.run Ar.add IntKind.i64 p0 p1) 2) a16)) 0 0 0 0)))))
   (.ask (Cm.run Cm.leq (Prod.fst (Prod.snd (AF.val (abgA a0 a1 a2 a3 a4 a5 a6 a7 a8 a9 a10 a11 a12 1 (Ar.run Ar.mx IntKind.i64 0 (Ar.run Ar.add IntKind.i64 (Ar.run Ar.quo IntKind.i64 (Ar.run Ar.add IntKind.i64 p0 p1) 2) a15)) (Ar.run Ar.mx IntKind.i64 0 (Ar.run Ar.add IntKind.i64 (Ar.run Ar.quo IntKind.i64 (Ar.run Ar.add IntKind.i64 p0 p1) 2) a16)) 0 0 0 0)))) a14)
   (.leaf (.next (.n1 (Ar.run Ar.quo IntKind.i64 (Ar.run Ar.add IntKind.i64 p0 p1) 2) p1 p2) [0, 1, 2, 3, 4]))
   (.leaf (.next (.n1 p0 (Ar.run Ar.quo IntKind.i64 (Ar.run Ar.add IntKind.i64 p0 p1) 2) p2) [0, 1, 2, 3, 4])))
   (.leaf (.next (.n1 p0 (Ar.run Ar.quo IntKind.i64 (Ar.run Ar.add IntKind.i64 p0 p1) 2) p2) [0, 1, 2, 3, 4]))))
   (.leaf (.done (p2, p0) []))

noncomputable def arrA (a0 : Int) (a1 : Int) (a2 : Int) (a3 : Int) (a4 : Int) (a5 : Int) (a6 : Int) (a7 : Int) (a8 : Int) (a9 : Int) (a10 : Int) (a11 : Int) (a12 : Int) (a13 : Int) (a14 : Int) (a15 : Int) (a16 : Int) : AF arrN arrR where
  code := arrCode
  base := 0
  nt := 76
  m := 400
  un := []
  W := []
  h0 := []
  args := [.agg [.int .i64 (.x a0), .int .i64 (.x a1), .int .i64 (.x a2), .int .i64 (.x a3), .int .i64 (.x a4), .int .i64 (.x a5), .int .i64 (.x a6), .int .i64 (.x a7), .int .i64 (.x a8), .int .i64 (.x a9), .int .i64 (.x a10), .int .i64 (.x a11), .int .i64 (.x a12)], .agg [.int .i64 (.x a13), .int .i64 (.x a14)], .agg [.int .i64 (.x a15), .int .i64 (.x a16)]]
  res := (Try.f26).results.toList
  path := fun a => match a with
   | .n0 p0 p1 => [1, 1, 0, 0]
   | .n1 p0 p1 p2 => [1, 1, 1, 1, 1, 0, 0]
  pd := fun a => match a with
   | .n0 p0 p1 => ⟨[(3, .ptr (some (0, 0))), (4, .ptr (some (1, 0))), (5, .ptr (some (2, 0))), (6, .ptr (some (3, 0))), (7, .int .i64 (.x p0)), (8, .int .i64 (.x p1))], [(0, ⟨.lit [.int .i64 (.x a0), .int .i64 (.x a1), .int .i64 (.x a2), .int .i64 (.x a3), .int .i64 (.x a4), .int .i64 (.x a5), .int .i64 (.x a6), .int .i64 (.x a7), .int .i64 (.x a8), .int .i64 (.x a9), .int .i64 (.x a10), .int .i64 (.x a11), .int .i64 (.x a12)], 0, true, none⟩), (1, ⟨.lit [.int .i64 (.x a13), .int .i64 (.x a14)], 0, true, none⟩), (2, ⟨.lit [.int .i64 (.x a15), .int .i64 (.x a16)], 0, true, none⟩), (3, ⟨.lit [.int .i64 (.x 0), .int .i64 (.x 0)], 0, true, none⟩)], 4, []⟩
   | .n1 p0 p1 p2 => ⟨[(3, .ptr (some (0, 0))), (4, .ptr (some (1, 0))), (5, .ptr (some (2, 0))), (6, .ptr (some (3, 0))), (13, .ptr (some (4, 0))), (14, .int .i64 (.x p0)), (15, .int .i64 (.x p1)), (23, .bool (.x false))], [(0, ⟨.lit [.int .i64 (.x a0), .int .i64 (.x a1), .int .i64 (.x a2), .int .i64 (.x a3), .int .i64 (.x a4), .int .i64 (.x a5), .int .i64 (.x a6), .int .i64 (.x a7), .int .i64 (.x a8), .int .i64 (.x a9), .int .i64 (.x a10), .int .i64 (.x a11), .int .i64 (.x a12)], 0, true, none⟩), (1, ⟨.lit [.int .i64 (.x a13), .int .i64 (.x a14)], 0, true, none⟩), (2, ⟨.lit [.int .i64 (.x a15), .int .i64 (.x a16)], 0, true, none⟩), (3, ⟨.lit [.int .i64 (.x 0), .int .i64 (.x 0)], 0, true, none⟩), (4, ⟨.lit [.int .i64 (.x p2), .int .i64 (.x 0)], 0, true, none⟩)], 5, []⟩
  D0 := arrD0 a0 a1 a2 a3 a4 a5 a6 a7 a8 a9 a10 a11 a12 a13 a14 a15 a16
  D := arrD a0 a1 a2 a3 a4 a5 a6 a7 a8 a9 a10 a11 a12 a13 a14 a15 a16
  rc := (fun v => .agg [.int .i64 (.x v.1), .int .i64 (.x v.2)])
  rh := (fun v => [])
  rn := (fun v => 0)
  rx := (fun v => [])
  rgo := (fun _ => none)


theorem arrstart (a0 : Int) (a1 : Int) (a2 : Int) (a3 : Int) (a4 : Int) (a5 : Int) (a6 : Int) (a7 : Int) (a8 : Int) (a9 : Int) (a10 : Int) (a11 : Int) (a12 : Int) (a13 : Int) (a14 : Int) (a15 : Int) (a16 : Int) : AF.edgeOk (arrA a0 a1 a2 a3 a4 a5 a6 a7 a8 a9 a10 a11 a12 a13 a14 a15 a16) (ctxOf Try.prog memo0) (arrD0 a0 a1 a2 a3 a4 a5 a6 a7 a8 a9 a10 a11 a12 a13 a14 a15 a16) (AF.run0 (arrA a0 a1 a2 a3 a4 a5 a6 a7 a8 a9 a10 a11 a12 a13 a14 a15 a16) (ctxOf Try.prog (memoA 19 abgP abgF memo0))) := by unfold AF.edgeOk; kernel_rfl

theorem arrnode0 (a0 : Int) (a1 : Int) (a2 : Int) (a3 : Int) (a4 : Int) (a5 : Int) (a6 : Int) (a7 : Int) (a8 : Int) (a9 : Int) (a10 : Int) (a11 : Int) (a12 : Int) (a13 : Int) (a14 : Int) (a15 : Int) (a16 : Int) (p0 : Int) (p1 : Int) : AF.edgeOk (arrA a0 a1 a2 a3 a4 a5 a6 a7 a8 a9 a10 a11 a12 a13 a14 a15 a16) (ctxOf Try.prog memo0) (arrD a0 a1 a2 a3 a4 a5 a6 a7 a8 a9 a10 a11 a12 a13 a14 a15 a16 (.n0 p0 p1)) (AF.runN (arrA a0 a1 a2 a3 a4 a5 a6 a7 a8 a9 a10 a11 a12 a13 a14 a15 a16) (ctxOf Try.prog (memoA 19 abgP abgF memo0)) (.n0 p0 p1)) := by unfold AF.edgeOk; kernel_rfl

theorem arrnode1 (a0 : Int) (a1 : Int) (a2 : Int) (a3 : Int) (a4 : Int) (a5 : Int) (a6 : Int) (a7 : Int) (a8 : Int) (a9 : Int) (a10 : Int) (a11 : Int) (a12 : Int) (a13 : Int) (a14 : Int) (a15 : Int) (a16 : Int) (p0 : Int) (p1 : Int) (p2 : Int) : AF.edgeOk (arrA a0 a1 a2 a3 a4 a5 a6 a7 a8 a9 a10 a11 a12 a13 a14 a15 a16) (ctxOf Try.prog memo0) (arrD a0 a1 a2 a3 a4 a5 a6 a7 a8 a9 a10 a11 a12 a13 a14 a15 a16 (.n1 p0 p1 p2)) (AF.runN (arrA a0 a1 a2 a3 a4 a5 a6 a7 a8 a9 a10 a11 a12 a13 a14 a15 a16) (ctxOf Try.prog (memoA 19 abgP abgF memo0)) (.n1 p0 p1 p2)) := by unfold AF.edgeOk; kernel_rfl

theorem arrok (a0 : Int) (a1 : Int) (a2 : Int) (a3 : Int) (a4 : Int) (a5 : Int) (a6 : Int) (a7 : Int) (a8 : Int) (a9 : Int) (a10 : Int) (a11 : Int) (a12 : Int) (a13 : Int) (a14 : Int) (a15 : Int) (a16 : Int) : (arrA a0 a1 a2 a3 a4 a5 a6 a7 a8 a9 a10 a11 a12 a13 a14 a15 a16).Ok Try.prog (ctxOf Try.prog (memoA 19 abgP abgF memo0)) where
  regs := by kernel_rfl
  h0 := by kernel_rfl
  start := arrstart a0 a1 a2 a3 a4 a5 a6 a7 a8 a9 a10 a11 a12 a13 a14 a15 a16
  node := fun a _ => match a with
   | .n0 p0 p1 => arrnode0 a0 a1 a2 a3 a4 a5 a6 a7 a8 a9 a10 a11 a12 a13 a14 a15 a16 p0 p1
   | .n1 p0 p1 p2 => arrnode1 a0 a1 a2 a3 a4 a5 a6 a7 a8 a9 a10 a11 a12 a13 a14 a15 a16 p0 p1 p2
  pd := fun a => match a with
   | .n0 p0 p1 => ⟨(fa_cons rfl (fa_cons rfl (fa_cons rfl (fa_cons rfl (fa_cons rfl (fa_cons rfl fa_nil)))))), (fa_cons ⟨.inl (Nat.le_of_ble_eq_true rfl), rfl, rfl⟩ (fa_cons ⟨.inl (Nat.le_of_ble_eq_true rfl), rfl, rfl⟩ (fa_cons ⟨.inl (Nat.le_of_ble_eq_true rfl), rfl, rfl⟩ (fa_cons ⟨.inl (Nat.le_of_ble_eq_true rfl), rfl, rfl⟩ fa_nil)))), fa_nil, rfl⟩
   | .n1 p0 p1 p2 => ⟨(fa_cons rfl (fa_cons rfl (fa_cons rfl (fa_cons rfl (fa_cons rfl (fa_cons rfl (fa_cons rfl (fa_cons rfl fa_nil)))))))), (fa_cons ⟨.inl (Nat.le_of_ble_eq_true rfl), rfl, rfl⟩ (fa_cons ⟨.inl (Nat.le_of_ble_eq_true rfl), rfl, rfl⟩ (fa_cons ⟨.inl (Nat.le_of_ble_eq_true rfl), rfl, rfl⟩ (fa_cons ⟨.inl (Nat.le_of_ble_eq_true rfl), rfl, rfl⟩ (fa_cons ⟨.inl (Nat.le_of_ble_eq_true rfl), rfl, rfl⟩ fa_nil))))), fa_nil, rfl⟩
  le := fun a => match a with
   | .n0 p0 p1 => Nat.le_of_ble_eq_true rfl
   | .n1 p0 p1 p2 => Nat.le_of_ble_eq_true rfl
  rd := fun v => ⟨⟨fa_nil, fa_nil, fa_nil, rfl⟩, rfl⟩
  wb := rfl


theorem arrhR {ρ : Env} (a0 : Int) (a1 : Int) (a2 : Int) (a3 : Int) (a4 : Int) (a5 : Int) (a6 : Int) (a7 : Int) (a8 : Int) (a9 : Int) (a10 : Int) (a11 : Int) (a12 : Int) (a13 : Int) (a14 : Int) (a15 : Int) (a16 : Int) (hM : MemoOk Try.prog (ctxOf Try.prog (memoA 19 abgP abgF memo0)) ρ) : ∀ X a q n D, FxOk ρ X → X.base = (arrA a0 a1 a2 a3 a4 a5 a6 a7 a8 a9 a10 a11 a12 a13 a14 a15 a16).base → X.nt = (arrA a0 a1 a2 a3 a4 a5 a6 a7 a8 a9 a10 a11 a12 a13 a14 a15 a16).nt → X.W = (arrA a0 a1 a2 a3 a4 a5 a6 a7 a8 a9 a10 a11 a12 a13 a14 a15 a16).W → (arrA a0 a1 a2 a3 a4 a5 a6 a7 a8 a9 a10 a11 a12 a13 a14 a15 a16).rgo a = some q → q n = some D → (arrA a0 a1 a2 a3 a4 a5 a6 a7 a8 a9 a10 a11 a12 a13 a14 a15 a16).RangeOk Try.prog ρ X a D := AF.noRange rfl

theorem arrctr {ρ : Env} (a0 : Int) (a1 : Int) (a2 : Int) (a3 : Int) (a4 : Int) (a5 : Int) (a6 : Int) (a7 : Int) (a8 : Int) (a9 : Int) (a10 : Int) (a11 : Int) (a12 : Int) (a13 : Int) (a14 : Int) (a15 : Int) (a16 : Int) {n : Nat} {v : arrR} (hM : MemoOk Try.prog (ctxOf Try.prog (memoA 19 abgP abgF memo0)) ρ) (hv : (arrA a0 a1 a2 a3 a4 a5 a6 a7 a8 a9 a10 a11 a12 a13 a14 a15 a16).run n = some v) :
    Ctr Try.prog ρ 26 (arrA a0 a1 a2 a3 a4 a5 a6 a7 a8 a9 a10 a11 a12 a13 a14 a15 a16).args (arrA a0 a1 a2 a3 a4 a5 a6 a7 a8 a9 a10 a11 a12 a13 a14 a15 a16).H0 (arrA a0 a1 a2 a3 a4 a5 a6 a7 a8 a9 a10 a11 a12 a13 a14 a15 a16).base (arrA a0 a1 a2 a3 a4 a5 a6 a7 a8 a9 a10 a11 a12 a13 a14 a15 a16).W ((arrA a0 a1 a2 a3 a4 a5 a6 a7 a8 a9 a10 a11 a12 a13 a14 a15 a16).rc v) (putH (arrA a0 a1 a2 a3 a4 a5 a6 a7 a8 a9 a10 a11 a12 a13 a14 a15 a16).H0 ((arrA a0 a1 a2 a3 a4 a5 a6 a7 a8 a9 a10 a11 a12 a13 a14 a15 a16).rh v ++ (arrA a0 a1 a2 a3 a4 a5 a6 a7 a8 a9 a10 a11 a12 a13 a14 a15 a16).rx v)) ((arrA a0 a1 a2 a3 a4 a5 a6 a7 a8 a9 a10 a11 a12 a13 a14 a15 a16).rn v) :=
  AF.ctr try_ok hM (arrok a0 a1 a2 a3 a4 a5 a6 a7 a8 a9 a10 a11 a12 a13 a14 a15 a16) (fn := Try.f26) Try.func26 rfl rfl (Nat.le_of_ble_eq_true rfl) rfl (arrhR a0 a1 a2 a3 a4 a5 a6 a7 a8 a9 a10 a11 a12 a13 a14 a15 a16 hM) hv


theorem arrmem {ρ : Env} : MemoOk Try.prog (ctxOf Try.prog (memoA 19 abgP abgF memo0)) ρ := (memoA_ok (abgknown (memoA_ok (abfknown memo0_ok) (memoS_ok (abtknown (memoA_ok (abeknown memo0_ok) memo0_ok)) memo0_ok))) memo0_ok)


abbrev arrP : List AP := [.agg [.int .i64, .int .i64, .int .i64, .int .i64, .int .i64, .int .i64, .int .i64, .int .i64, .int .i64, .int .i64, .int .i64, .int .i64, .int .i64], .agg [.int .i64, .int .i64], .agg [.int .i64, .int .i64]]
noncomputable def arrF (v : AV) : AF arrN arrR := arrA (v.i.getD 0 0) (v.i.getD 1 0) (v.i.getD 2 0) (v.i.getD 3 0) (v.i.getD 4 0) (v.i.getD 5 0) (v.i.getD 6 0) (v.i.getD 7 0) (v.i.getD 8 0) (v.i.getD 9 0) (v.i.getD 10 0) (v.i.getD 11 0) (v.i.getD 12 0) (v.i.getD 13 0) (v.i.getD 14 0) (v.i.getD 15 0) (v.i.getD 16 0)
theorem arrknown {ρ : Env} (hM : MemoOk Try.prog (ctxOf Try.prog (memoA 19 abgP abgF memo0)) ρ) : KnownA Try.prog ρ 26 arrP arrF where
  fn := ⟨Try.f26, Try.func26, rfl⟩
  args := fun v => rfl
  plain := fun v r => rfl
  ctr := fun v n r h => arrctr (v.i.getD 0 0) (v.i.getD 1 0) (v.i.getD 2 0) (v.i.getD 3 0) (v.i.getD 4 0) (v.i.getD 5 0) (v.i.getD 6 0) (v.i.getD 7 0) (v.i.getD 8 0) (v.i.getD 9 0) (v.i.getD 10 0) (v.i.getD 11 0) (v.i.getD 12 0) (v.i.getD 13 0) (v.i.getD 14 0) (v.i.getD 15 0) (v.i.getD 16 0) hM h

end Go.Proofs.Ytgnmdknbnkljbaa.Cx

/- acmeref09.Right: halving finds both ends. Made by tools/gen_bcon.py. -/
namespace Go.Proofs.Ytgnmdknbnkljbaa.Cx
set_option linter.unusedVariables false
set_option linter.unusedSimpArgs false
set_option maxRecDepth 100000
set_option maxHeartbeats 4000000
open Go Go.RowKit

section
variable {a0 a1 a2 a3 a4 a5 a6 a7 a8 a9 a10 a11 a12 a13 a14 a15 a16 : Int}

/-- What a round asks: a middle, and what the forces are there. -/
theorem arr_mid (h : KindP a0 a1 a2 a3 a4 a5 a6 a7 a8 a9 a10 a11 a12) (hw : (0 ≤ a13 ∧ a13 ≤ a14 ∧ a14 ≤ 100000000)) (hr : (-10000000000000 ≤ a15 ∧ a15 ≤ a16 ∧ a16 ≤ 10000000000000)) {p0 p1 : Int} (h0 : -1 ≤ p0) (h1 : p1 ≤ 10000000000001) (h2 : p1 - p0 > 1) :
    ∃ m, Ar.run Ar.quo IntKind.i64 (Ar.run Ar.add IntKind.i64 p0 p1) 2 = m ∧ p0 < m ∧ m < p1 ∧ 0 ≤ m ∧ AF.fin (abgA a0 a1 a2 a3 a4 a5 a6 a7 a8 a9 a10 a11 a12 1 (Ar.run Ar.mx IntKind.i64 0 (Ar.run Ar.add IntKind.i64 (Ar.run Ar.quo IntKind.i64 (Ar.run Ar.add IntKind.i64 p0 p1) 2) a15)) (Ar.run Ar.mx IntKind.i64 0 (Ar.run Ar.add IntKind.i64 (Ar.run Ar.quo IntKind.i64 (Ar.run Ar.add IntKind.i64 p0 p1) 2) a16)) 0 0 0 0) = true ∧ (a13 ≤ (AF.val (abgA a0 a1 a2 a3 a4 a5 a6 a7 a8 a9 a10 a11 a12 1 (Ar.run Ar.mx IntKind.i64 0 (Ar.run Ar.add IntKind.i64 (Ar.run Ar.quo IntKind.i64 (Ar.run Ar.add IntKind.i64 p0 p1) 2) a15)) (Ar.run Ar.mx IntKind.i64 0 (Ar.run Ar.add IntKind.i64 (Ar.run Ar.quo IntKind.i64 (Ar.run Ar.add IntKind.i64 p0 p1) 2) a16)) 0 0 0 0)).1 ↔ (lowT ((a13 * (armV a0 a1 a2 a4 a6) + 999) / 1000) a15) ≤ m) ∧ (((AF.val (abgA a0 a1 a2 a3 a4 a5 a6 a7 a8 a9 a10 a11 a12 1 (Ar.run Ar.mx IntKind.i64 0 (Ar.run Ar.add IntKind.i64 (Ar.run Ar.quo IntKind.i64 (Ar.run Ar.add IntKind.i64 p0 p1) 2) a15)) (Ar.run Ar.mx IntKind.i64 0 (Ar.run Ar.add IntKind.i64 (Ar.run Ar.quo IntKind.i64 (Ar.run Ar.add IntKind.i64 p0 p1) 2) a16)) 0 0 0 0)).2.2.1 = true ∧ (AF.val (abgA a0 a1 a2 a3 a4 a5 a6 a7 a8 a9 a10 a11 a12 1 (Ar.run Ar.mx IntKind.i64 0 (Ar.run Ar.add IntKind.i64 (Ar.run Ar.quo IntKind.i64 (Ar.run Ar.add IntKind.i64 p0 p1) 2) a15)) (Ar.run Ar.mx IntKind.i64 0 (Ar.run Ar.add IntKind.i64 (Ar.run Ar.quo IntKind.i64 (Ar.run Ar.add IntKind.i64 p0 p1) 2) a16)) 0 0 0 0)).2.1 ≤ a14) ↔ m ≤ ((((min a14 a11 + 1) * (armV a0 a1 a2 a3 a5) + 999) / 1000) - 1 - a16)) := by
  have hm : Ar.run Ar.quo IntKind.i64 (Ar.run Ar.add IntKind.i64 p0 p1) 2 = (p0 + p1) / 2 := by rw [arAdd (by omega), arQuo (by rw [Int.tdiv_eq_ediv_of_nonneg (by omega)]; omega), Int.tdiv_eq_ediv_of_nonneg (by omega)]
  refine ⟨(p0 + p1) / 2, hm, by omega, by omega, by omega, ?_⟩
  have hm0 : 0 ≤ (p0 + p1) / 2 ∧ (p0 + p1) / 2 ≤ 10000000000001 := by omega
  rw [hm]
  generalize (p0 + p1) / 2 = m at *
  have e1 : Ar.run Ar.mx IntKind.i64 0 (Ar.run Ar.add IntKind.i64 m a15) = max 0 (m + a15) := by rw [arAdd (by omega), arMx]
  have e2 : Ar.run Ar.mx IntKind.i64 0 (Ar.run Ar.add IntKind.i64 m a16) = max 0 (m + a16) := by rw [arAdd (by omega), arMx]
  rw [e1, e2]
  obtain ⟨_, _, ha⟩ := arm_eqs h
  have K : KW a0 a1 a2 a3 a4 a5 a6 a7 a8 a9 a10 a11 a12 (max 0 (m + a15)) (max 0 (m + a16)) 0 0 0 0 := by
    unfold KindP at h
    exact ⟨by omega, by omega, by omega, by omega, by omega, by omega, by omega, by omega, by omega, by omega, by omega⟩
  obtain ⟨f1, f2⟩ := abg_val (a13 := 1) K
  unfold abgPost at f2
  have x1 : fMin a0 a1 a2 a3 a4 a5 a6 a7 a8 a9 a10 a11 a12 1 (max 0 (m + a15)) (max 0 (m + a16)) 0 0 0 0 = (1000 * max 0 (m + a15)).tdiv (armV a0 a1 a2 a4 a6) := by
    unfold fMin frc; rw [if_neg (by decide), if_neg (by decide)]
  have x2 : fMax a0 a1 a2 a3 a4 a5 a6 a7 a8 a9 a10 a11 a12 1 (max 0 (m + a15)) (max 0 (m + a16)) 0 0 0 0 = (1000 * max 0 (m + a16)).tdiv (armV a0 a1 a2 a3 a5) := by
    unfold fMax frc; rw [if_neg (by decide), if_neg (by decide)]
  rw [f2, x1, x2]
  refine ⟨f1, ?_, ?_⟩
  · have k := low_iff (x := 0) (d := armV a0 a1 a2 a4 a6) (w := a13) (M := max 0 (m + a15)) (by omega) (by omega)
    show a13 ≤ (1000 * max 0 (m + a15)).tdiv (armV a0 a1 a2 a4 a6) ↔ _
    rw [k]
    unfold lowT
    split <;> omega
  · have k := high_iff (d := armV a0 a1 a2 a3 a5) (w := min a14 a11) (M := max 0 (m + a16)) (by omega) (by omega)
    have k2 := mul_rng (a := min a14 a11 + 1) (b := armV a0 a1 a2 a3 a5) (A := 100000001) (B := 300000000) (by unfold KindP at h; omega) (by omega)
    have k3 : 1 * 1000 ≤ (min a14 a11 + 1) * (armV a0 a1 a2 a3 a5) := Int.mul_le_mul (by unfold KindP at h; omega) ha.1 (by omega) (by unfold KindP at h; omega)
    show (decide _ = true ∧ (1000 * max 0 (m + a16)).tdiv (armV a0 a1 a2 a3 a5) ≤ a14) ↔ _
    rw [decide_eq_true_iff]
    have k4 : ((1000 * max 0 (m + a16)).tdiv (armV a0 a1 a2 a3 a5) ≤ a11 ∧ (1000 * max 0 (m + a16)).tdiv (armV a0 a1 a2 a3 a5) ≤ a14) ↔ (1000 * max 0 (m + a16)).tdiv (armV a0 a1 a2 a3 a5) ≤ min a14 a11 := by omega
    rw [k4, k]
    omega

def arrInv (a0 a1 a2 a3 a4 a5 a6 a7 a8 a9 a10 a11 a12 a13 a14 a15 a16 : Int) : arrN → Prop
  | .n0 p0 p1 => -1 ≤ p0 ∧ p0 < p1 ∧ p1 ≤ 10000000000001 ∧ (p0 = -1 ∨ p0 < (lowT ((a13 * (armV a0 a1 a2 a4 a6) + 999) / 1000) a15)) ∧ (p1 = 10000000000001 ∨ (lowT ((a13 * (armV a0 a1 a2 a4 a6) + 999) / 1000) a15) ≤ p1)
  | .n1 p0 p1 p2 => -1 ≤ p0 ∧ p0 < p1 ∧ p1 ≤ 10000000000001 ∧ (p0 = -1 ∨ p0 ≤ ((((min a14 a11 + 1) * (armV a0 a1 a2 a3 a5) + 999) / 1000) - 1 - a16)) ∧ (p1 = 10000000000001 ∨ ((((min a14 a11 + 1) * (armV a0 a1 a2 a3 a5) + 999) / 1000) - 1 - a16) < p1) ∧ p2 = min ((lowT ((a13 * (armV a0 a1 a2 a4 a6) + 999) / 1000) a15)) 10000000000001
def arrMu : arrN → Nat
  | .n0 p0 p1 => (20000000000010 + p1 - p0).toNat
  | .n1 p0 p1 _ => (p1 - p0).toNat

theorem arr_val (h : KindP a0 a1 a2 a3 a4 a5 a6 a7 a8 a9 a10 a11 a12) (hw : (0 ≤ a13 ∧ a13 ≤ a14 ∧ a14 ≤ 100000000)) (hr : (-10000000000000 ≤ a15 ∧ a15 ≤ a16 ∧ a16 ≤ 10000000000000)) : AF.fin (arrA a0 a1 a2 a3 a4 a5 a6 a7 a8 a9 a10 a11 a12 a13 a14 a15 a16) = true ∧ AF.val (arrA a0 a1 a2 a3 a4 a5 a6 a7 a8 a9 a10 a11 a12 a13 a14 a15 a16) = (min ((lowT ((a13 * (armV a0 a1 a2 a4 a6) + 999) / 1000) a15)) 10000000000001, max (-1) (min (((((min a14 a11 + 1) * (armV a0 a1 a2 a3 a5) + 999) / 1000) - 1 - a16)) 10000000000000)) := by
  have l0 : 0 ≤ (lowT ((a13 * (armV a0 a1 a2 a4 a6) + 999) / 1000) a15) := by unfold lowT; split <;> omega
  refine AF.val_sat (Inv := arrInv a0 a1 a2 a3 a4 a5 a6 a7 a8 a9 a10 a11 a12 a13 a14 a15 a16) (E := fun (v : arrR) => v = (min ((lowT ((a13 * (armV a0 a1 a2 a4 a6) + 999) / 1000) a15)) 10000000000001, max (-1) (min (((((min a14 a11 + 1) * (armV a0 a1 a2 a3 a5) + 999) / 1000) - 1 - a16)) 10000000000000))) arrMu (fun _ => rfl) (fun a hI => ?_) ?_
  · cases a with
    | n0 p0 p1 =>
      obtain ⟨i1, i2, i3, i4, i5⟩ := hI
      have sb : Ar.run Ar.sub IntKind.i64 p1 p0 = p1 - p0 := arSub (by omega)
      refine ⟨fun g => ?_, fun g => ?_⟩
      · have g := cmGtr.1 g
        rw [sb] at g
        obtain ⟨m, hm, m1, m2, m3, f1, f2, _⟩ := arr_mid h hw hr i1 i3 g
        refine ⟨f1, fun c => ?_, fun c => ?_⟩
        · have c := f2.1 (cmGeq.1 c)
          show arrInv a0 a1 a2 a3 a4 a5 a6 a7 a8 a9 a10 a11 a12 a13 a14 a15 a16 (.n0 p0 (Ar.run Ar.quo IntKind.i64 (Ar.run Ar.add IntKind.i64 p0 p1) 2)) ∧ arrMu (.n0 p0 (Ar.run Ar.quo IntKind.i64 (Ar.run Ar.add IntKind.i64 p0 p1) 2)) < arrMu (.n0 p0 p1)
          rw [hm]
          refine ⟨⟨i1, by omega, by omega, i4, .inr c⟩, ?_⟩
          show (20000000000010 + m - p0).toNat < (20000000000010 + p1 - p0).toNat
          omega
        · have c := cmGeqF.1 c
          have c : ¬ (lowT ((a13 * (armV a0 a1 a2 a4 a6) + 999) / 1000) a15) ≤ m := fun e => by have := f2.2 e; omega
          show arrInv a0 a1 a2 a3 a4 a5 a6 a7 a8 a9 a10 a11 a12 a13 a14 a15 a16 (.n0 (Ar.run Ar.quo IntKind.i64 (Ar.run Ar.add IntKind.i64 p0 p1) 2) p1) ∧ arrMu (.n0 (Ar.run Ar.quo IntKind.i64 (Ar.run Ar.add IntKind.i64 p0 p1) 2) p1) < arrMu (.n0 p0 p1)
          rw [hm]
          refine ⟨⟨by omega, by omega, by omega, .inr (by omega), i5⟩, ?_⟩
          show (20000000000010 + p1 - m).toNat < (20000000000010 + p1 - p0).toNat
          omega
      · have g := cmGtrF.1 g
        rw [sb] at g
        show arrInv a0 a1 a2 a3 a4 a5 a6 a7 a8 a9 a10 a11 a12 a13 a14 a15 a16 (.n1 (-1) 10000000000001 p1) ∧ arrMu (.n1 (-1) 10000000000001 p1) < arrMu (.n0 p0 p1)
        refine ⟨⟨by omega, by omega, by omega, .inl rfl, .inl rfl, by omega⟩, ?_⟩
        show (10000000000001 - (-1) : Int).toNat < (20000000000010 + p1 - p0).toNat
        omega
    | n1 p0 p1 p2 =>
      obtain ⟨i1, i2, i3, i4, i5, i6⟩ := hI
      have sb : Ar.run Ar.sub IntKind.i64 p1 p0 = p1 - p0 := arSub (by omega)
      refine ⟨fun g => ?_, fun g => ?_⟩
      · have g := cmGtr.1 g
        rw [sb] at g
        obtain ⟨m, hm, m1, m2, m3, f1, _, f3⟩ := arr_mid h hw hr i1 i3 g
        have up : m ≤ ((((min a14 a11 + 1) * (armV a0 a1 a2 a3 a5) + 999) / 1000) - 1 - a16) → arrInv a0 a1 a2 a3 a4 a5 a6 a7 a8 a9 a10 a11 a12 a13 a14 a15 a16 (.n1 (Ar.run Ar.quo IntKind.i64 (Ar.run Ar.add IntKind.i64 p0 p1) 2) p1 p2) ∧ arrMu (.n1 (Ar.run Ar.quo IntKind.i64 (Ar.run Ar.add IntKind.i64 p0 p1) 2) p1 p2) < arrMu (.n1 p0 p1 p2) := fun c => by
          rw [hm]
          refine ⟨⟨by omega, by omega, by omega, .inr c, i5, i6⟩, ?_⟩
          show (p1 - m).toNat < (p1 - p0).toNat
          omega
        have dn : ¬ m ≤ ((((min a14 a11 + 1) * (armV a0 a1 a2 a3 a5) + 999) / 1000) - 1 - a16) → arrInv a0 a1 a2 a3 a4 a5 a6 a7 a8 a9 a10 a11 a12 a13 a14 a15 a16 (.n1 p0 (Ar.run Ar.quo IntKind.i64 (Ar.run Ar.add IntKind.i64 p0 p1) 2) p2) ∧ arrMu (.n1 p0 (Ar.run Ar.quo IntKind.i64 (Ar.run Ar.add IntKind.i64 p0 p1) 2) p2) < arrMu (.n1 p0 p1 p2) := fun c => by
          rw [hm]
          refine ⟨⟨by omega, by omega, by omega, i4, .inr (by omega), i6⟩, ?_⟩
          show (m - p0).toNat < (p1 - p0).toNat
          omega
        refine ⟨f1, fun c => ⟨fun d => up (f3.1 ⟨c, cmLeq.1 d⟩), fun d => dn (fun e => ?_)⟩, fun c => dn (fun e => ?_)⟩
        · have := (f3.2 e).2; have d := cmLeqF.1 d; omega
        · have := (f3.2 e).1; rw [c] at this; cases this
      · have g := cmGtrF.1 g
        rw [sb] at g
        show (p2, p0) = _
        rw [i6, show p0 = max (-1) (min (((((min a14 a11 + 1) * (armV a0 a1 a2 a3 a5) + 999) / 1000) - 1 - a16)) 10000000000000) by omega]
  · show arrInv a0 a1 a2 a3 a4 a5 a6 a7 a8 a9 a10 a11 a12 a13 a14 a15 a16 (.n0 (-1) 10000000000001)
    exact ⟨by omega, by omega, by omega, .inl rfl, .inl rfl⟩
end
end Go.Proofs.Ytgnmdknbnkljbaa.Cx

/- acme/acmeref09.Kind as an automaton. Made by tools/cxauto.py. -/
namespace Go.Proofs.Ytgnmdknbnkljbaa.Cx
set_option linter.unusedVariables false
set_option linter.unusedSimpArgs false
set_option maxRecDepth 100000
open Go Go.Proofs Go.RowKit

noncomputable abbrev abkCode : Code := funcCode Try.f16


abbrev abkN := Empty

abbrev abkR := Bool

noncomputable def abkD0 (a0 : Int) (a1 : Int) (a2 : Int) (a3 : Int) (a4 : Int) (a5 : Int) (a6 : Int) (a7 : Int) (a8 : Int) (a9 : Int) (a10 : Int) (a11 : Int) (a12 : Int) : DD (Lf abkN abkR) :=
 .ask (Cm.run Cm.geq a0 1)
   (.ask (Cm.run Cm.leq a0 100000)
   (.ask (Cm.run Cm.geq a1 0)
   (.ask (Cm.run Cm.leq a1 100000)
   (.ask (Cm.run Cm.geq a2 0)
   (.ask (Cm.run Cm.leq a2 100000)
   (.ask (Cm.run Cm.geq a3 0)
   (.ask (Cm.run Cm.leq a3 a4)
   (.ask (Cm.run Cm.leq a4 1000)
   (.ask (Cm.run Cm.geq a5 0)
   (.ask (Cm.run Cm.leq a5 a6)
   (.ask (Cm.run Cm.leq a6 1000)
   (.ask (Cm.run Cm.geq a7 1)
   (.ask (Cm.run Cm.leq a7 a8)
   (.ask (Cm.run Cm.leq a8 100000000)
   (.ask (Cm.run Cm.geq a9 1)
   (.ask (Cm.run Cm.leq a9 a10)
   (.ask (Cm.run Cm.leq a10 100000)
   (.ask (Cm.run Cm.geq a11 1)
   (.ask (Cm.run Cm.leq a11 a12)
   (.ask (Cm.run Cm.leq a12 100000000)
   (.leaf (.done true []))
   (.leaf (.done false [])))
   (.leaf (.done false [])))
   (.leaf (.done false [])))
   (.leaf (.done false [])))
   (.leaf (.done false [])))
   (.leaf (.done false [])))
   (.leaf (.done false [])))
   (.leaf (.done false [])))
   (.leaf (.done false [])))
   (.leaf (.done false [])))
   (.leaf (.done false [])))
   (.leaf (.done false [])))
   (.leaf (.done false [])))
   (.leaf (.done false [])))
   (.leaf (.done false [])))
   (.leaf (.done false [])))
   (.leaf (.done false [])))
   (.leaf (.done false [])))
   (.leaf (.done false [])))
   (.leaf (.done false [])))
   (.leaf (.done false []))

noncomputable def abkD (a0 : Int) (a1 : Int) (a2 : Int) (a3 : Int) (a4 : Int) (a5 : Int) (a6 : Int) (a7 : Int) (a8 : Int) (a9 : Int) (a10 : Int) (a11 : Int) (a12 : Int) : abkN → DD (Lf abkN abkR) := fun a => nomatch a

noncomputable def abkA (a0 : Int) (a1 : Int) (a2 : Int) (a3 : Int) (a4 : Int) (a5 : Int) (a6 : Int) (a7 : Int) (a8 : Int) (a9 : Int) (a10 : Int) (a11 : Int) (a12 : Int) : AF abkN abkR where
  code := abkCode
  base := 0
  nt := 41
  m := 400
  un := []
  W := []
  h0 := []
  args := [.agg [.int .i64 (.x a0), .int .i64 (.x a1), .int .i64 (.x a2), .int .i64 (.x a3), .int .i64 (.x a4), .int .i64 (.x a5), .int .i64 (.x a6), .int .i64 (.x a7), .int .i64 (.x a8), .int .i64 (.x a9), .int .i64 (.x a10), .int .i64 (.x a11), .int .i64 (.x a12)]]
  res := (Try.f16).results.toList
  path := fun a => nomatch a
  pd := fun a => nomatch a
  D0 := abkD0 a0 a1 a2 a3 a4 a5 a6 a7 a8 a9 a10 a11 a12
  D := abkD a0 a1 a2 a3 a4 a5 a6 a7 a8 a9 a10 a11 a12
  rc := (fun v => .bool (.x v))
  rh := (fun v => [])
  rn := (fun v => 0)
  rx := (fun v => [])
  rgo := (fun _ => none)


theorem abkstart (a0 : Int) (a1 : Int) (a2 : Int) (a3 : Int) (a4 : Int) (a5 : Int) (a6 : Int) (a7 : Int) (a8 : Int) (a9 : Int) (a10 : Int) (a11 : Int) (a12 : Int) : AF.edgeOk (abkA a0 a1 a2 a3 a4 a5 a6 a7 a8 a9 a10 a11 a12) (ctxOf Try.prog memo0) (abkD0 a0 a1 a2 a3 a4 a5 a6 a7 a8 a9 a10 a11 a12) (AF.run0 (abkA a0 a1 a2 a3 a4 a5 a6 a7 a8 a9 a10 a11 a12) (ctxOf Try.prog memo0)) := by unfold AF.edgeOk; kernel_rfl

theorem abkok (a0 : Int) (a1 : Int) (a2 : Int) (a3 : Int) (a4 : Int) (a5 : Int) (a6 : Int) (a7 : Int) (a8 : Int) (a9 : Int) (a10 : Int) (a11 : Int) (a12 : Int) : (abkA a0 a1 a2 a3 a4 a5 a6 a7 a8 a9 a10 a11 a12).Ok Try.prog (ctxOf Try.prog memo0) where
  regs := by kernel_rfl
  h0 := by kernel_rfl
  start := abkstart a0 a1 a2 a3 a4 a5 a6 a7 a8 a9 a10 a11 a12
  node := fun a _ => nomatch a
  pd := fun a => nomatch a
  le := fun a => nomatch a
  rd := fun v => ⟨⟨fa_nil, fa_nil, fa_nil, rfl⟩, rfl⟩
  wb := rfl


theorem abkhR {ρ : Env} (a0 : Int) (a1 : Int) (a2 : Int) (a3 : Int) (a4 : Int) (a5 : Int) (a6 : Int) (a7 : Int) (a8 : Int) (a9 : Int) (a10 : Int) (a11 : Int) (a12 : Int) (hM : MemoOk Try.prog (ctxOf Try.prog memo0) ρ) : ∀ X a q n D, FxOk ρ X → X.base = (abkA a0 a1 a2 a3 a4 a5 a6 a7 a8 a9 a10 a11 a12).base → X.nt = (abkA a0 a1 a2 a3 a4 a5 a6 a7 a8 a9 a10 a11 a12).nt → X.W = (abkA a0 a1 a2 a3 a4 a5 a6 a7 a8 a9 a10 a11 a12).W → (abkA a0 a1 a2 a3 a4 a5 a6 a7 a8 a9 a10 a11 a12).rgo a = some q → q n = some D → (abkA a0 a1 a2 a3 a4 a5 a6 a7 a8 a9 a10 a11 a12).RangeOk Try.prog ρ X a D := AF.noRange rfl

theorem abkctr {ρ : Env} (a0 : Int) (a1 : Int) (a2 : Int) (a3 : Int) (a4 : Int) (a5 : Int) (a6 : Int) (a7 : Int) (a8 : Int) (a9 : Int) (a10 : Int) (a11 : Int) (a12 : Int) {n : Nat} {v : abkR} (hM : MemoOk Try.prog (ctxOf Try.prog memo0) ρ) (hv : (abkA a0 a1 a2 a3 a4 a5 a6 a7 a8 a9 a10 a11 a12).run n = some v) :
    Ctr Try.prog ρ 16 (abkA a0 a1 a2 a3 a4 a5 a6 a7 a8 a9 a10 a11 a12).args (abkA a0 a1 a2 a3 a4 a5 a6 a7 a8 a9 a10 a11 a12).H0 (abkA a0 a1 a2 a3 a4 a5 a6 a7 a8 a9 a10 a11 a12).base (abkA a0 a1 a2 a3 a4 a5 a6 a7 a8 a9 a10 a11 a12).W ((abkA a0 a1 a2 a3 a4 a5 a6 a7 a8 a9 a10 a11 a12).rc v) (putH (abkA a0 a1 a2 a3 a4 a5 a6 a7 a8 a9 a10 a11 a12).H0 ((abkA a0 a1 a2 a3 a4 a5 a6 a7 a8 a9 a10 a11 a12).rh v ++ (abkA a0 a1 a2 a3 a4 a5 a6 a7 a8 a9 a10 a11 a12).rx v)) ((abkA a0 a1 a2 a3 a4 a5 a6 a7 a8 a9 a10 a11 a12).rn v) :=
  AF.ctr try_ok hM (abkok a0 a1 a2 a3 a4 a5 a6 a7 a8 a9 a10 a11 a12) (fn := Try.f16) Try.func16 rfl rfl (Nat.le_of_ble_eq_true rfl) rfl (abkhR a0 a1 a2 a3 a4 a5 a6 a7 a8 a9 a10 a11 a12 hM) hv


abbrev abkP : List AP := [.agg [.int .i64, .int .i64, .int .i64, .int .i64, .int .i64, .int .i64, .int .i64, .int .i64, .int .i64, .int .i64, .int .i64, .int .i64, .int .i64]]
noncomputable def abkF (v : AV) : AF abkN abkR := abkA (v.i.getD 0 0) (v.i.getD 1 0) (v.i.getD 2 0) (v.i.getD 3 0) (v.i.getD 4 0) (v.i.getD 5 0) (v.i.getD 6 0) (v.i.getD 7 0) (v.i.getD 8 0) (v.i.getD 9 0) (v.i.getD 10 0) (v.i.getD 11 0) (v.i.getD 12 0)
theorem abkknown {ρ : Env} (hM : MemoOk Try.prog (ctxOf Try.prog memo0) ρ) : KnownA Try.prog ρ 16 abkP abkF where
  fn := ⟨Try.f16, Try.func16, rfl⟩
  args := fun v => rfl
  plain := fun v r => rfl
  ctr := fun v n r h => abkctr (v.i.getD 0 0) (v.i.getD 1 0) (v.i.getD 2 0) (v.i.getD 3 0) (v.i.getD 4 0) (v.i.getD 5 0) (v.i.getD 6 0) (v.i.getD 7 0) (v.i.getD 8 0) (v.i.getD 9 0) (v.i.getD 10 0) (v.i.getD 11 0) (v.i.getD 12 0) hM h

end Go.Proofs.Ytgnmdknbnkljbaa.Cx

/- acmeref09.Kind: whether a kind is valid. Made by tools/gen_bcon.py. -/
namespace Go.Proofs.Ytgnmdknbnkljbaa.Cx
set_option linter.unusedVariables false
set_option linter.unusedSimpArgs false
set_option maxRecDepth 100000
set_option maxHeartbeats 4000000
open Go Go.RowKit

theorem abk_val (a0 a1 a2 a3 a4 a5 a6 a7 a8 a9 a10 a11 a12 : Int) : AF.fin (abkA a0 a1 a2 a3 a4 a5 a6 a7 a8 a9 a10 a11 a12) = true ∧ ((KindP a0 a1 a2 a3 a4 a5 a6 a7 a8 a9 a10 a11 a12 → AF.val (abkA a0 a1 a2 a3 a4 a5 a6 a7 a8 a9 a10 a11 a12) = true) ∧ (¬ KindP a0 a1 a2 a3 a4 a5 a6 a7 a8 a9 a10 a11 a12 → AF.val (abkA a0 a1 a2 a3 a4 a5 a6 a7 a8 a9 a10 a11 a12) = false)) :=
  AF.val_sat (Inv := fun _ => False) (E := fun v => (KindP a0 a1 a2 a3 a4 a5 a6 a7 a8 a9 a10 a11 a12 → v = true) ∧ (¬ KindP a0 a1 a2 a3 a4 a5 a6 a7 a8 a9 a10 a11 a12 → v = false)) (fun _ => 0) (fun _ => rfl) (fun a => nomatch a) (by
    show DD.sat _ _ (abkD0 a0 a1 a2 a3 a4 a5 a6 a7 a8 a9 a10 a11 a12)
    unfold abkD0 KindP
    simp only [DD.sat, cmLss, cmLeq, cmGtr, cmGeq, cmEql, cmNeq, cmLssF, cmLeqF, cmGtrF, cmGeqF, cmEqlF, cmNeqF, reduceCtorEq, imp_false, imp_true_iff, and_true, true_and, Classical.not_not, forall_const]
    repeat' (first | (intro _) | (apply And.intro))
    all_goals omega)
end Go.Proofs.Ytgnmdknbnkljbaa.Cx

/- acme/acmelaw09.known returns true, in every world: by the evaluator. Made by tools/cxlaw.py. -/
namespace Go.Proofs.Ytgnmdknbnkljbaa.Cx
set_option maxRecDepth 100000
open Go Go.Proofs Go.RowKit
noncomputable def CxKn09C : Ctx := ctxOf Try.prog memo0
theorem CxKn09_run : isTrue (eval CxKn09C 1000 0 (.call 18 []) .empty) = true := by kernel_rfl
theorem CxKn09_known : KnownB Try.prog 18 := known_of try_ok memo0_ok (by kernel_rfl) CxKn09_run
end Go.Proofs.Ytgnmdknbnkljbaa.Cx

/- acme/acmelaw09.BoltTorques as an automaton. Made by tools/cxauto.py. -/
namespace Go.Proofs.Ytgnmdknbnkljbaa.Cx
set_option linter.unusedVariables false
set_option linter.unusedSimpArgs false
set_option maxRecDepth 100000
open Go Go.Proofs Go.RowKit

noncomputable abbrev altCode : Code := funcCode Try.f4


abbrev altN := Empty

abbrev altR := Bool

noncomputable def altD0 (a0 : Int) (a1 : Int) (a2 : Int) (a3 : Int) (a4 : Int) (a5 : Int) (a6 : Int) (a7 : Int) (a8 : Int) (a9 : Int) (a10 : Int) (a11 : Int) (a12 : Int) (a13 : Int) (a14 : Int) (a15 : Int) (a16 : Int) (a17 : Int) (a18 : Int) (a19 : Int) : DD (Lf altN altR) :=
 .must (AF.fin (atqA a0 a1 a2 a3 a4 a5 a6 a7 a8 a9 a10 a11 a12 a13 a14 a15))
   (.must (AF.fin (atrA a0 a1 a2 a3 a4 a5 a6 a7 a8 a9 a10 a11 a12 a16 a17 a18 a19))
   (.must (AF.fin (abkA a0 a1 a2 a3 a4 a5 a6 a7 a8 a9 a10 a11 a12))
   (.ask (!AF.val (abkA a0 a1 a2 a3 a4 a5 a6 a7 a8 a9 a10 a11 a12))
   (.ask (Cm.run Cm.eql (Prod.snd (AF.val (atqA a0 a1 a2 a3 a4 a5 a6 a7 a8 a9 a10 a11 a12 a13 a14 a15))) 2)
   (.ask (Cm.run Cm.eql (Prod.snd (Prod.snd (AF.val (atrA a0 a1 a2 a3 a4 a5 a6 a7 a8 a9 a10 a11 a12 a16 a17 a18 a19)))) (Prod.snd (AF.val (atqA a0 a1 a2 a3 a4 a5 a6 a7 a8 a9 a10 a11 a12 a13 a14 a15))))
   (.ask (Cm.run Cm.eql (Prod.fst (AF.val (atqA a0 a1 a2 a3 a4 a5 a6 a7 a8 a9 a10 a11 a12 a13 a14 a15))) 0)
   (.ask (Cm.run Cm.eql (Prod.fst (AF.val (atrA a0 a1 a2 a3 a4 a5 a6 a7 a8 a9 a10 a11 a12 a16 a17 a18 a19))) 0)
   (.ask (Cm.run Cm.eql (Prod.fst (Prod.snd (AF.val (atrA a0 a1 a2 a3 a4 a5 a6 a7 a8 a9 a10 a11 a12 a16 a17 a18 a19)))) 0)
   (.leaf (.done true []))
   (.leaf (.done false [])))
   (.leaf (.done false [])))
   (.leaf (.done false [])))
   (.leaf (.done false [])))
   (.leaf (.done false [])))
   (.ask (Cm.run Cm.geq a13 0)
   (.ask (Cm.run Cm.leq a13 100000000)
   (.ask (Cm.run Cm.geq a14 0)
   (.ask (Cm.run Cm.leq a14 1000)
   (.ask (Cm.run Cm.geq a15 0)
   (.ask (Cm.run Cm.leq a15 1000)
   (.must (AF.fin (abrA a0 a1 a2 a3 a4 a5 a6 a7 a8 a9 a10 a11 a12 a14 a15))
   (.ask (Cm.run Cm.neq (Prod.snd (AF.val (atqA a0 a1 a2 a3 a4 a5 a6 a7 a8 a9 a10 a11 a12 a13 a14 a15))) 0)
   (.leaf (.done false []))
   (.ask (Cm.run Cm.lss (Prod.fst (AF.val (atqA a0 a1 a2 a3 a4 a5 a6 a7 a8 a9 a10 a11 a12 a13 a14 a15))) 0)
   (.leaf (.done false []))
   (.ask (Cm.run Cm.lss (Ar.run Ar.mul IntKind.i64 1000 (Prod.fst (AF.val (atqA a0 a1 a2 a3 a4 a5 a6 a7 a8 a9 a10 a11 a12 a13 a14 a15)))) (Ar.run Ar.mul IntKind.i64 a13 (AF.val (abrA a0 a1 a2 a3 a4 a5 a6 a7 a8 a9 a10 a11 a12 a14 a15))))
   (.leaf (.done false []))
   (.ask (Cm.run Cm.gtr (Prod.fst (AF.val (atqA a0 a1 a2 a3 a4 a5 a6 a7 a8 a9 a10 a11 a12 a13 a14 a15))) 0)
   (.ask (Cm.run Cm.geq (Ar.run Ar.mul IntKind.i64 1000 (Ar.run Ar.sub IntKind.i64 (Prod.fst (AF.val (atqA a0 a1 a2 a3 a4 a5 a6 a7 a8 a9 a10 a11 a12 a13 a14 a15))) 1)) (Ar.run Ar.mul IntKind.i64 a13 (AF.val (abrA a0 a1 a2 a3 a4 a5 a6 a7 a8 a9 a10 a11 a12 a14 a15))))
   (.leaf (.done false []))
   (.ask (Cm.run Cm.geq a16 0)
   (.ask (Cm.run Cm.leq a16 a17)
   (.ask (Cm.run Cm.leq a17 100000000)
   (.ask (Cm.run Cm.geq a18 (-10000000000000))
   (.ask (Cm.run Cm.leq a18 a19)
   (.ask (Cm.run Cm.leq a19 10000000000000)
   (.must (AF.fin (arrA a0 a1 a2 a3 a4 a5 a6 a7 a8 a9 a10 a11 a12 a16 a17 a18 a19))
   (.ask (Cm.run Cm.gtr (Prod.fst (AF.val (arrA a0 a1 a2 a3 a4 a5 a6 a7 a8 a9 a10 a11 a12 a16 a17 a18 a19))) (Prod.snd (AF.val (arrA a0 a1 a2 a3 a4 a5 a6 a7 a8 a9 a10 a11 a12 a16 a17 a18 a19))))
   (.ask (Cm.run Cm.eql (Prod.snd (Prod.snd (AF.val (atrA a0 a1 a2 a3 a4 a5 a6 a7 a8 a9 a10 a11 a12 a16 a17 a18 a19)))) 9)
   (.ask (Cm.run Cm.eql (Prod.fst (AF.val (atrA a0 a1 a2 a3 a4 a5 a6 a7 a8 a9 a10 a11 a12 a16 a17 a18 a19))) 0)
   (.ask (Cm.run Cm.eql (Prod.fst (Prod.snd (AF.val (atrA a0 a1 a2 a3 a4 a5 a6 a7 a8 a9 a10 a11 a12 a16 a17 a18 a19)))) 0)
   (.leaf (.done true []))
   (.leaf (.done false [])))
   (.leaf (.done false [])))
   (.leaf (.done false [])))
   (.ask (Cm.run Cm.eql (Prod.snd (Prod.snd (AF.val (atrA a0 a1 a2 a3 a4 a5 a6 a7 a8 a9 a10 a11 a12 a16 a17 a18 a19)))) 0)
   (.ask (Cm.run Cm.eql (Prod.fst (AF.val (atrA a0 a1 a2 a3 a4 a5 a6 a7 a8 a9 a10 a11 a12 a16 a17 a18 a19))) (Prod.fst (AF.val (arrA a0 a1 a2 a3 a4 a5 a6 a7 a8 a9 a10 a11 a12 a16 a17 a18 a19))))
   (.ask (Cm.run Cm.eql (Prod.fst (Prod.snd (AF.val (atrA a0 a1 a2 a3 a4 a5 a6 a7 a8 a9 a10 a11 a12 a16 a17 a18 a19)))) (Prod.snd (AF.val (arrA a0 a1 a2 a3 a4 a5 a6 a7 a8 a9 a10 a11 a12 a16 a17 a18 a19))))
   (.leaf (.done true []))
   (.leaf (.done false [])))
   (.leaf (.done false [])))
   (.leaf (.done false [])))))
   (.ask (Cm.run Cm.eql (Prod.snd (Prod.snd (AF.val (atrA a0 a1 a2 a3 a4 a5 a6 a7 a8 a9 a10 a11 a12 a16 a17 a18 a19)))) 3)
   (.ask (Cm.run Cm.eql (Prod.fst (AF.val (atrA a0 a1 a2 a3 a4 a5 a6 a7 a8 a9 a10 a11 a12 a16 a17 a18 a19))) 0)
   (.ask (Cm.run Cm.eql (Prod.fst (Prod.snd (AF.val (atrA a0 a1 a2 a3 a4 a5 a6 a7 a8 a9 a10 a11 a12 a16 a17 a18 a19)))) 0)
   (.leaf (.done true []))
   (.leaf (.done false [])))
   (.leaf (.done false [])))
   (.leaf (.done false []))))
   (.ask (Cm.run Cm.eql (Prod.snd (Prod.snd (AF.val (atrA a0 a1 a2 a3 a4 a5 a6 a7 a8 a9 a10 a11 a12 a16 a17 a18 a19)))) 3)
   (.ask (Cm.run Cm.eql (Prod.fst (AF.val (atrA a0 a1 a2 a3 a4 a5 a6 a7 a8 a9 a10 a11 a12 a16 a17 a18 a19))) 0)
   (.ask (Cm.run Cm.eql (Prod.fst (Prod.snd (AF.val (atrA a0 a1 a2 a3 a4 a5 a6 a7 a8 a9 a10 a11 a12 a16 a17 a18 a19)))) 0)
   (.leaf (.done true []))
   (.leaf (.done false [])))
   (.leaf (.done false [])))
   (.leaf (.done false []))))
   (.ask (Cm.run Cm.eql (Prod.snd (Prod.snd (AF.val (atrA a0 a1 a2 a3 a4 a5 a6 a7 a8 a9 a10 a11 a12 a16 a17 a18 a19)))) 3)
   (.ask (Cm.run Cm.eql (Prod.fst (AF.val (atrA a0 a1 a2 a3 a4 a5 a6 a7 a8 a9 a10 a11 a12 a16 a17 a18 a19))) 0)
   (.ask (Cm.run Cm.eql (Prod.fst (Prod.snd (AF.val (atrA a0 a1 a2 a3 a4 a5 a6 a7 a8 a9 a10 a11 a12 a16 a17 a18 a19)))) 0)
   (.leaf (.done true []))
   (.leaf (.done false [])))
   (.leaf (.done false [])))
   (.leaf (.done false []))))
   (.ask (Cm.run Cm.eql (Prod.snd (Prod.snd (AF.val (atrA a0 a1 a2 a3 a4 a5 a6 a7 a8 a9 a10 a11 a12 a16 a17 a18 a19)))) 3)
   (.ask (Cm.run Cm.eql (Prod.fst (AF.val (atrA a0 a1 a2 a3 a4 a5 a6 a7 a8 a9 a10 a11 a12 a16 a17 a18 a19))) 0)
   (.ask (Cm.run Cm.eql (Prod.fst (Prod.snd (AF.val (atrA a0 a1 a2 a3 a4 a5 a6 a7 a8 a9 a10 a11 a12 a16 a17 a18 a19)))) 0)
   (.leaf (.done true []))
   (.leaf (.done false [])))
   (.leaf (.done false [])))
   (.leaf (.done false []))))
   (.ask (Cm.run Cm.eql (Prod.snd (Prod.snd (AF.val (atrA a0 a1 a2 a3 a4 a5 a6 a7 a8 a9 a10 a11 a12 a16 a17 a18 a19)))) 3)
   (.ask (Cm.run Cm.eql (Prod.fst (AF.val (atrA a0 a1 a2 a3 a4 a5 a6 a7 a8 a9 a10 a11 a12 a16 a17 a18 a19))) 0)
   (.ask (Cm.run Cm.eql (Prod.fst (Prod.snd (AF.val (atrA a0 a1 a2 a3 a4 a5 a6 a7 a8 a9 a10 a11 a12 a16 a17 a18 a19)))) 0)
   (.leaf (.done true []))
   (.leaf (.done false [])))
   (.leaf (.done false [])))
   (.leaf (.done false []))))
   (.ask (Cm.run Cm.eql (Prod.snd (Prod.snd (AF.val (atrA a0 a1 a2 a3 a4 a5 a6 a7 a8 a9 a10 a11 a12 a16 a17 a18 a19)))) 3)
   (.ask (Cm.run Cm.eql (Prod.fst (AF.val (atrA a0 a1 a2 a3 a4 a5 a6 a7 a8 a9 a10 a11 a12 a16 a17 a18 a19))) 0)
   (.ask (Cm.run Cm.eql (Prod.fst (Prod.snd (AF.val (atrA a0 a1 a2 a3 a4 a5 a6 a7 a8 a9 a10 a11 a12 a16 a17 a18 a19)))) 0)
   (.leaf (.done true []))
   (.leaf (.done false [])))
   (.leaf (.done false [])))
   (.leaf (.done false [])))))
   (.ask (Cm.run Cm.geq a16 0)
   (.ask (Cm.run Cm.leq a16 a17)
   (.ask (Cm.run Cm.leq a17 100000000)
   (.ask (Cm.run Cm.geq a18 (-10000000000000))
   (.ask (Cm.run Cm.leq a18 a19)
   (.ask (Cm.run Cm.leq a19 10000000000000)
   (.must (AF.fin (arrA a0 a1 a2 a3 a4 a5 a6 a7 a8 a9 a10 a11 a12 a16 a17 a18 a19))
   (.ask (Cm.run Cm.gtr (Prod.fst (AF.val (arrA a0 a1 a2 a3 a4 a5 a6 a7 a8 a9 a10 a11 a12 a16 a17 a18 a19))) (Prod.snd (AF.val (arrA a0 a1 a2 a3 a4 a5 a6 a7 a8 a9 a10 a11 a12 a16 a17 a18 a19))))
   (.ask (Cm.run Cm.eql (Prod.snd (Prod.snd (AF.val (atrA a0 a1 a2 a3 a4 a5 a6 a7 a8 a9 a10 a11 a12 a16 a17 a18 a19)))) 9)
   (.ask (Cm.run Cm.eql (Prod.fst (AF.val (atrA a0 a1 a2 a3 a4 a5 a6 a7 a8 a9 a10 a11 a12 a16 a17 a18 a19))) 0)
   (.ask (Cm.run Cm.eql (Prod.fst (Prod.snd (AF.val (atrA a0 a1 a2 a3 a4 a5 a6 a7 a8 a9 a10 a11 a12 a16 a17 a18 a19)))) 0)
   (.leaf (.done true []))
   (.leaf (.done false [])))
   (.leaf (.done false [])))
   (.leaf (.done false [])))
   (.ask (Cm.run Cm.eql (Prod.snd (Prod.snd (AF.val (atrA a0 a1 a2 a3 a4 a5 a6 a7 a8 a9 a10 a11 a12 a16 a17 a18 a19)))) 0)
   (.ask (Cm.run Cm.eql (Prod.fst (AF.val (atrA a0 a1 a2 a3 a4 a5 a6 a7 a8 a9 a10 a11 a12 a16 a17 a18 a19))) (Prod.fst (AF.val (arrA a0 a1 a2 a3 a4 a5 a6 a7 a8 a9 a10 a11 a12 a16 a17 a18 a19))))
   (.ask (Cm.run Cm.eql (Prod.fst (Prod.snd (AF.val (atrA a0 a1 a2 a3 a4 a5 a6 a7 a8 a9 a10 a11 a12 a16 a17 a18 a19)))) (Prod.snd (AF.val (arrA a0 a1 a2 a3 a4 a5 a6 a7 a8 a9 a10 a11 a12 a16 a17 a18 a19))))
   (.leaf (.done true []))
   (.leaf (.done false [])))
   (.leaf (.done false [])))
   (.leaf (.done false [])))))
   (.ask (Cm.run Cm.eql (Prod.snd (Prod.snd (AF.val (atrA a0 a1 a2 a3 a4 a5 a6 a7 a8 a9 a10 a11 a12 a16 a17 a18 a19)))) 3)
   (.ask (Cm.run Cm.eql (Prod.fst (AF.val (atrA a0 a1 a2 a3 a4 a5 a6 a7 a8 a9 a10 a11 a12 a16 a17 a18 a19))) 0)
   (.ask (Cm.run Cm.eql (Prod.fst (Prod.snd (AF.val (atrA a0 a1 a2 a3 a4 a5 a6 a7 a8 a9 a10 a11 a12 a16 a17 a18 a19)))) 0)
   (.leaf (.done true []))
   (.leaf (.done false [])))
   (.leaf (.done false [])))
   (.leaf (.done false []))))
   (.ask (Cm.run Cm.eql (Prod.snd (Prod.snd (AF.val (atrA a0 a1 a2 a3 a4 a5 a6 a7 a8 a9 a10 a11 a12 a16 a17 a18 a19)))) 3)
   (.ask (Cm.run Cm.eql (Prod.fst (AF.val (atrA a0 a1 a2 a3 a4 a5 a6 a7 a8 a9 a10 a11 a12 a16 a17 a18 a19))) 0)
   (.ask (Cm.run Cm.eql (Prod.fst (Prod.snd (AF.val (atrA a0 a1 a2 a3 a4 a5 a6 a7 a8 a9 a10 a11 a12 a16 a17 a18 a19)))) 0)
   (.leaf (.done true []))
   (.leaf (.done false [])))
   (.leaf (.done false [])))
   (.leaf (.done false []))))
   (.ask (Cm.run Cm.eql (Prod.snd (Prod.snd (AF.val (atrA a0 a1 a2 a3 a4 a5 a6 a7 a8 a9 a10 a11 a12 a16 a17 a18 a19)))) 3)
   (.ask (Cm.run Cm.eql (Prod.fst (AF.val (atrA a0 a1 a2 a3 a4 a5 a6 a7 a8 a9 a10 a11 a12 a16 a17 a18 a19))) 0)
   (.ask (Cm.run Cm.eql (Prod.fst (Prod.snd (AF.val (atrA a0 a1 a2 a3 a4 a5 a6 a7 a8 a9 a10 a11 a12 a16 a17 a18 a19)))) 0)
   (.leaf (.done true []))
   (.leaf (.done false [])))
   (.leaf (.done false [])))
   (.leaf (.done false []))))
   (.ask (Cm.run Cm.eql (Prod.snd (Prod.snd (AF.val (atrA a0 a1 a2 a3 a4 a5 a6 a7 a8 a9 a10 a11 a12 a16 a17 a18 a19)))) 3)
   (.ask (Cm.run Cm.eql (Prod.fst (AF.val (atrA a0 a1 a2 a3 a4 a5 a6 a7 a8 a9 a10 a11 a12 a16 a17 a18 a19))) 0)
   (.ask (Cm.run Cm.eql (Prod.fst (Prod.snd (AF.val (atrA a0 a1 a2 a3 a4 a5 a6 a7 a8 a9 a10 a11 a12 a16 a17 a18 a19)))) 0)
   (.leaf (.done true []))
   (.leaf (.done false [])))
   (.leaf (.done false [])))
   (.leaf (.done false []))))
   (.ask (Cm.run Cm.eql (Prod.snd (Prod.snd (AF.val (atrA a0 a1 a2 a3 a4 a5 a6 a7 a8 a9 a10 a11 a12 a16 a17 a18 a19)))) 3)
   (.ask (Cm.run Cm.eql (Prod.fst (AF.val (atrA a0 a1 a2 a3 a4 a5 a6 a7 a8 a9 a10 a11 a12 a16 a17 a18 a19))) 0)
   (.ask (Cm.run Cm.eql (Prod.fst (Prod.snd (AF.val (atrA a0 a1 a2 a3 a4 a5 a6 a7 a8 a9 a10 a11 a12 a16 a17 a18 a19)))) 0)
   (.leaf (.done true []))
   (.leaf (.done false [])))
   (.leaf (.done false [])))
   (.leaf (.done false []))))
   (.ask (Cm.run Cm.eql (Prod.snd (Prod.snd (AF.val (atrA a0 a1 a2 a3 a4 a5 a6 a7 a8 a9 a10 a11 a12 a16 a17 a18 a19)))) 3)
   (.ask (Cm.run Cm.eql (Prod.fst (AF.val (atrA a0 a1 a2 a3 a4 a5 a6 a7 a8 a9 a10 a11 a12 a16 a17 a18 a19))) 0)
   (.ask (Cm.run Cm.eql (Prod.fst (Prod.snd (AF.val (atrA a0 a1 a2 a3 a4 a5 a6 a7 a8 a9 a10 a11 a12 a16 a17 a18 a19)))) 0)
   (.leaf (.done true []))
   (.leaf (.done false [])))
   (.leaf (.done false [])))
   (.leaf (.done false [])))))))))
   (.ask (Cm.run Cm.neq (Prod.snd (AF.val (atqA a0 a1 a2 a3 a4 a5 a6 a7 a8 a9 a10 a11 a12 a13 a14 a15))) 2)
   (.leaf (.done false []))
   (.ask (Cm.run Cm.neq (Prod.fst (AF.val (atqA a0 a1 a2 a3 a4 a5 a6 a7 a8 a9 a10 a11 a12 a13 a14 a15))) 0)
   (.leaf (.done false []))
   (.ask (Cm.run Cm.geq a16 0)
   (.ask (Cm.run Cm.leq a16 a17)
   (.ask (Cm.run Cm.leq a17 100000000)
   (.ask (Cm.run Cm.geq a18 (-10000000000000))
   (.ask (Cm.run Cm.leq a18 a19)
   (.ask (Cm.run Cm.leq a19 10000000000000)
   (.must (AF.fin (arrA a0 a1 a2 a3 a4 a5 a6 a7 a8 a9 a10 a11 a12 a16 a17 a18 a19))
   (.ask (Cm.run Cm.gtr (Prod.fst (AF.val (arrA a0 a1 a2 a3 a4 a5 a6 a7 a8 a9 a10 a11 a12 a16 a17 a18 a19))) (Prod.snd (AF.val (arrA a0 a1 a2 a3 a4 a5 a6 a7 a8 a9 a10 a11 a12 a16 a17 a18 a19))))
   (.ask (Cm.run Cm.eql (Prod.snd (Prod.snd (AF.val (atrA a0 a1 a2 a3 a4 a5 a6 a7 a8 a9 a10 a11 a12 a16 a17 a18 a19)))) 9)
   (.ask (Cm.run Cm.eql (Prod.fst (AF.val (atrA a0 a1 a2 a3 a4 a5 a6 a7 a8 a9 a10 a11 a12 a16 a17 a18 a19))) 0)
   (.ask (Cm.run Cm.eql (Prod.fst (Prod.snd (AF.val (atrA a0 a1 a2 a3 a4 a5 a6 a7 a8 a9 a10 a11 a12 a16 a17 a18 a19)))) 0)
   (.leaf (.done true []))
   (.leaf (.done false [])))
   (.leaf (.done false [])))
   (.leaf (.done false [])))
   (.ask (Cm.run Cm.eql (Prod.snd (Prod.snd (AF.val (atrA a0 a1 a2 a3 a4 a5 a6 a7 a8 a9 a10 a11 a12 a16 a17 a18 a19)))) 0)
   (.ask (Cm.run Cm.eql (Prod.fst (AF.val (atrA a0 a1 a2 a3 a4 a5 a6 a7 a8 a9 a10 a11 a12 a16 a17 a18 a19))) (Prod.fst (AF.val (arrA a0 a1 a2 a3 a4 a5 a6 a7 a8 a9 a10 a11 a12 a16 a17 a18 a19))))
   (.ask (Cm.run Cm.eql (Prod.fst (Prod.snd (AF.val (atrA a0 a1 a2 a3 a4 a5 a6 a7 a8 a9 a10 a11 a12 a16 a17 a18 a19)))) (Prod.snd (AF.val (arrA a0 a1 a2 a3 a4 a5 a6 a7 a8 a9 a10 a11 a12 a16 a17 a18 a19))))
   (.leaf (.done true []))
   (.leaf (.done false [])))
   (.leaf (.done false [])))
   (.leaf (.done false [])))))
   (.ask (Cm.run Cm.eql (Prod.snd (Prod.snd (AF.val (atrA a0 a1 a2 a3 a4 a5 a6 a7 a8 a9 a10 a11 a12 a16 a17 a18 a19)))) 3)
   (.ask (Cm.run Cm.eql (Prod.fst (AF.val (atrA a0 a1 a2 a3 a4 a5 a6 a7 a8 a9 a10 a11 a12 a16 a17 a18 a19))) 0)
   (.ask (Cm.run Cm.eql (Prod.fst (Prod.snd (AF.val (atrA a0 a1 a2 a3 a4 a5 a6 a7 a8 a9 a10 a11 a12 a16 a17 a18 a19)))) 0)
   (.leaf (.done true []))
   (.leaf (.done false [])))
   (.leaf (.done false [])))
   (.leaf (.done false []))))
   (.ask (Cm.run Cm.eql (Prod.snd (Prod.snd (AF.val (atrA a0 a1 a2 a3 a4 a5 a6 a7 a8 a9 a10 a11 a12 a16 a17 a18 a19)))) 3)
   (.ask (Cm.run Cm.eql (Prod.fst (AF.val (atrA a0 a1 a2 a3 a4 a5 a6 a7 a8 a9 a10 a11 a12 a16 a17 a18 a19))) 0)
   (.ask (Cm.run Cm.eql (Prod.fst (Prod.snd (AF.val (atrA a0 a1 a2 a3 a4 a5 a6 a7 a8 a9 a10 a11 a12 a16 a17 a18 a19)))) 0)
   (.leaf (.done true []))
   (.leaf (.done false [])))
   (.leaf (.done false [])))
   (.leaf (.done false []))))
   (.ask (Cm.run Cm.eql (Prod.snd (Prod.snd (AF.val (atrA a0 a1 a2 a3 a4 a5 a6 a7 a8 a9 a10 a11 a12 a16 a17 a18 a19)))) 3)
   (.ask (Cm.run Cm.eql (Prod.fst (AF.val (atrA a0 a1 a2 a3 a4 a5 a6 a7 a8 a9 a10 a11 a12 a16 a17 a18 a19))) 0)
   (.ask (Cm.run Cm.eql (Prod.fst (Prod.snd (AF.val (atrA a0 a1 a2 a3 a4 a5 a6 a7 a8 a9 a10 a11 a12 a16 a17 a18 a19)))) 0)
   (.leaf (.done true []))
   (.leaf (.done false [])))
   (.leaf (.done false [])))
   (.leaf (.done false []))))
   (.ask (Cm.run Cm.eql (Prod.snd (Prod.snd (AF.val (atrA a0 a1 a2 a3 a4 a5 a6 a7 a8 a9 a10 a11 a12 a16 a17 a18 a19)))) 3)
   (.ask (Cm.run Cm.eql (Prod.fst (AF.val (atrA a0 a1 a2 a3 a4 a5 a6 a7 a8 a9 a10 a11 a12 a16 a17 a18 a19))) 0)
   (.ask (Cm.run Cm.eql (Prod.fst (Prod.snd (AF.val (atrA a0 a1 a2 a3 a4 a5 a6 a7 a8 a9 a10 a11 a12 a16 a17 a18 a19)))) 0)
   (.leaf (.done true []))
   (.leaf (.done false [])))
   (.leaf (.done false [])))
   (.leaf (.done false []))))
   (.ask (Cm.run Cm.eql (Prod.snd (Prod.snd (AF.val (atrA a0 a1 a2 a3 a4 a5 a6 a7 a8 a9 a10 a11 a12 a16 a17 a18 a19)))) 3)
   (.ask (Cm.run Cm.eql (Prod.fst (AF.val (atrA a0 a1 a2 a3 a4 a5 a6 a7 a8 a9 a10 a11 a12 a16 a17 a18 a19))) 0)
   (.ask (Cm.run Cm.eql (Prod.fst (Prod.snd (AF.val (atrA a0 a1 a2 a3 a4 a5 a6 a7 a8 a9 a10 a11 a12 a16 a17 a18 a19)))) 0)
   (.leaf (.done true []))
   (.leaf (.done false [])))
   (.leaf (.done false [])))
   (.leaf (.done false []))))
   (.ask (Cm.run Cm.eql (Prod.snd (Prod.snd (AF.val (atrA a0 a1 a2 a3 a4 a5 a6 a7 a8 a9 a10 a11 a12 a16 a17 a18 a19)))) 3)
   (.ask (Cm.run Cm.eql (Prod.fst (AF.val (atrA a0 a1 a2 a3 a4 a5 a6 a7 a8 a9 a10 a11 a12 a16 a17 a18 a19))) 0)
   (.ask (Cm.run Cm.eql (Prod.fst (Prod.snd (AF.val (atrA a0 a1 a2 a3 a4 a5 a6 a7 a8 a9 a10 a11 a12 a16 a17 a18 a19)))) 0)
   (.leaf (.done true []))
   (.leaf (.done false [])))
   (.leaf (.done false [])))
   (.leaf (.done false [])))))))
   (.ask (Cm.run Cm.neq (Prod.snd (AF.val (atqA a0 a1 a2 a3 a4 a5 a6 a7 a8 a9 a10 a11 a12 a13 a14 a15))) 2)
   (.leaf (.done false []))
   (.ask (Cm.run Cm.neq (Prod.fst (AF.val (atqA a0 a1 a2 a3 a4 a5 a6 a7 a8 a9 a10 a11 a12 a13 a14 a15))) 0)
   (.leaf (.done false []))
   (.ask (Cm.run Cm.geq a16 0)
   (.ask (Cm.run Cm.leq a16 a17)
   (.ask (Cm.run Cm.leq a17 100000000)
   (.ask (Cm.run Cm.geq a18 (-10000000000000))
   (.ask (Cm.run Cm.leq a18 a19)
   (.ask (Cm.run Cm.leq a19 10000000000000)
   (.must (AF.fin (arrA a0 a1 a2 a3 a4 a5 a6 a7 a8 a9 a10 a11 a12 a16 a17 a18 a19))
   (.ask (Cm.run Cm.gtr (Prod.fst (AF.val (arrA a0 a1 a2 a3 a4 a5 a6 a7 a8 a9 a10 a11 a12 a16 a17 a18 a19))) (Prod.snd (AF.val (arrA a0 a1 a2 a3 a4 a5 a6 a7 a8 a9 a10 a11 a12 a16 a17 a18 a19))))
   (.ask (Cm.run Cm.eql (Prod.snd (Prod.snd (AF.val (atrA a0 a1 a2 a3 a4 a5 a6 a7 a8 a9 a10 a11 a12 a16 a17 a18 a19)))) 9)
   (.ask (Cm.run Cm.eql (Prod.fst (AF.val (atrA a0 a1 a2 a3 a4 a5 a6 a7 a8 a9 a10 a11 a12 a16 a17 a18 a19))) 0)
   (.ask (Cm.run Cm.eql (Prod.fst (Prod.snd (AF.val (atrA a0 a1 a2 a3 a4 a5 a6 a7 a8 a9 a10 a11 a12 a16 a17 a18 a19)))) 0)
   (.leaf (.done true []))
   (.leaf (.done false [])))
   (.leaf (.done false [])))
   (.leaf (.done false [])))
   (.ask (Cm.run Cm.eql (Prod.snd (Prod.snd (AF.val (atrA a0 a1 a2 a3 a4 a5 a6 a7 a8 a9 a10 a11 a12 a16 a17 a18 a19)))) 0)
   (.ask (Cm.run Cm.eql (Prod.fst (AF.val (atrA a0 a1 a2 a3 a4 a5 a6 a7 a8 a9 a10 a11 a12 a16 a17 a18 a19))) (Prod.fst (AF.val (arrA a0 a1 a2 a3 a4 a5 a6 a7 a8 a9 a10 a11 a12 a16 a17 a18 a19))))
   (.ask (Cm.run Cm.eql (Prod.fst (Prod.snd (AF.val (atrA a0 a1 a2 a3 a4 a5 a6 a7 a8 a9 a10 a11 a12 a16 a17 a18 a19)))) (Prod.snd (AF.val (arrA a0 a1 a2 a3 a4 a5 a6 a7 a8 a9 a10 a11 a12 a16 a17 a18 a19))))
   (.leaf (.done true []))
   (.leaf (.done false [])))
   (.leaf (.done false [])))
   (.leaf (.done false [])))))
   (.ask (Cm.run Cm.eql (Prod.snd (Prod.snd (AF.val (atrA a0 a1 a2 a3 a4 a5 a6 a7 a8 a9 a10 a11 a12 a16 a17 a18 a19)))) 3)
   (.ask (Cm.run Cm.eql (Prod.fst (AF.val (atrA a0 a1 a2 a3 a4 a5 a6 a7 a8 a9 a10 a11 a12 a16 a17 a18 a19))) 0)
   (.ask (Cm.run Cm.eql (Prod.fst (Prod.snd (AF.val (atrA a0 a1 a2 a3 a4 a5 a6 a7 a8 a9 a10 a11 a12 a16 a17 a18 a19)))) 0)
   (.leaf (.done true []))
   (.leaf (.done false [])))
   (.leaf (.done false [])))
   (.leaf (.done false []))))
   (.ask (Cm.run Cm.eql (Prod.snd (Prod.snd (AF.val (atrA a0 a1 a2 a3 a4 a5 a6 a7 a8 a9 a10 a11 a12 a16 a17 a18 a19)))) 3)
   (.ask (Cm.run Cm.eql (Prod.fst (AF.val (atrA a0 a1 a2 a3 a4 a5 a6 a7 a8 a9 a10 a11 a12 a16 a17 a18 a19))) 0)
   (.ask (Cm.run Cm.eql (Prod.fst (Prod.snd (AF.val (atrA a0 a1 a2 a3 a4 a5 a6 a7 a8 a9 a10 a11 a12 a16 a17 a18 a19)))) 0)
   (.leaf (.done true []))
   (.leaf (.done false [])))
   (.leaf (.done false [])))
   (.leaf (.done false []))))
   (.ask (Cm.run Cm.eql (Prod.snd (Prod.snd (AF.val (atrA a0 a1 a2 a3 a4 a5 a6 a7 a8 a9 a10 a11 a12 a16 a17 a18 a19)))) 3)
   (.ask (Cm.run Cm.eql (Prod.fst (AF.val (atrA a0 a1 a2 a3 a4 a5 a6 a7 a8 a9 a10 a11 a12 a16 a17 a18 a19))) 0)
   (.ask (Cm.run Cm.eql (Prod.fst (Prod.snd (AF.val (atrA a0 a1 a2 a3 a4 a5 a6 a7 a8 a9 a10 a11 a12 a16 a17 a18 a19)))) 0)
   (.leaf (.done true []))
   (.leaf (.done false [])))
   (.leaf (.done false [])))
   (.leaf (.done false []))))
   (.ask (Cm.run Cm.eql (Prod.snd (Prod.snd (AF.val (atrA a0 a1 a2 a3 a4 a5 a6 a7 a8 a9 a10 a11 a12 a16 a17 a18 a19)))) 3)
   (.ask (Cm.run Cm.eql (Prod.fst (AF.val (atrA a0 a1 a2 a3 a4 a5 a6 a7 a8 a9 a10 a11 a12 a16 a17 a18 a19))) 0)
   (.ask (Cm.run Cm.eql (Prod.fst (Prod.snd (AF.val (atrA a0 a1 a2 a3 a4 a5 a6 a7 a8 a9 a10 a11 a12 a16 a17 a18 a19)))) 0)
   (.leaf (.done true []))
   (.leaf (.done false [])))
   (.leaf (.done false [])))
   (.leaf (.done false []))))
   (.ask (Cm.run Cm.eql (Prod.snd (Prod.snd (AF.val (atrA a0 a1 a2 a3 a4 a5 a6 a7 a8 a9 a10 a11 a12 a16 a17 a18 a19)))) 3)
   (.ask (Cm.run Cm.eql (Prod.fst (AF.val (atrA a0 a1 a2 a3 a4 a5 a6 a7 a8 a9 a10 a11 a12 a16 a17 a18 a19))) 0)
   (.ask (Cm.run Cm.eql (Prod.fst (Prod.snd (AF.val (atrA a0 a1 a2 a3 a4 a5 a6 a7 a8 a9 a10 a11 a12 a16 a17 a18 a19)))) 0)
   (.leaf (.done true []))
   (.leaf (.done false [])))
   (.leaf (.done false [])))
   (.leaf (.done false []))))
   (.ask (Cm.run Cm.eql (Prod.snd (Prod.snd (AF.val (atrA a0 a1 a2 a3 a4 a5 a6 a7 a8 a9 a10 a11 a12 a16 a17 a18 a19)))) 3)
   (.ask (Cm.run Cm.eql (Prod.fst (AF.val (atrA a0 a1 a2 a3 a4 a5 a6 a7 a8 a9 a10 a11 a12 a16 a17 a18 a19))) 0)
   (.ask (Cm.run Cm.eql (Prod.fst (Prod.snd (AF.val (atrA a0 a1 a2 a3 a4 a5 a6 a7 a8 a9 a10 a11 a12 a16 a17 a18 a19)))) 0)
   (.leaf (.done true []))
   (.leaf (.done false [])))
   (.leaf (.done false [])))
   (.leaf (.done false [])))))))
   (.ask (Cm.run Cm.neq (Prod.snd (AF.val (atqA a0 a1 a2 a3 a4 a5 a6 a7 a8 a9 a10 a11 a12 a13 a14 a15))) 2)
   (.leaf (.done false []))
   (.ask (Cm.run Cm.neq (Prod.fst (AF.val (atqA a0 a1 a2 a3 a4 a5 a6 a7 a8 a9 a10 a11 a12 a13 a14 a15))) 0)
   (.leaf (.done false []))
   (.ask (Cm.run Cm.geq a16 0)
   (.ask (Cm.run Cm.leq a16 a17)
   (.ask (Cm.run Cm.leq a17 100000000)
   (.ask (Cm.run Cm.geq a18 (-10000000000000))
   (.ask (Cm.run Cm.leq a18 a19)
   (.ask (Cm.run Cm.leq a19 10000000000000)
   (.must (AF.fin (arrA a0 a1 a2 a3 a4 a5 a6 a7 a8 a9 a10 a11 a12 a16 a17 a18 a19))
   (.ask (Cm.run Cm.gtr (Prod.fst (AF.val (arrA a0 a1 a2 a3 a4 a5 a6 a7 a8 a9 a10 a11 a12 a16 a17 a18 a19))) (Prod.snd (AF.val (arrA a0 a1 a2 a3 a4 a5 a6 a7 a8 a9 a10 a11 a12 a16 a17 a18 a19))))
   (.ask (Cm.run Cm.eql (Prod.snd (Prod.snd (AF.val (atrA a0 a1 a2 a3 a4 a5 a6 a7 a8 a9 a10 a11 a12 a16 a17 a18 a19)))) 9)
   (.ask (Cm.run Cm.eql (Prod.fst (AF.val (atrA a0 a1 a2 a3 a4 a5 a6 a7 a8 a9 a10 a11 a12 a16 a17 a18 a19))) 0)
   (.ask (Cm.run Cm.eql (Prod.fst (Prod.snd (AF.val (atrA a0 a1 a2 a3 a4 a5 a6 a7 a8 a9 a10 a11 a12 a16 a17 a18 a19)))) 0)
   (.leaf (.done true []))
   (.leaf (.done false [])))
   (.leaf (.done false [])))
   (.leaf (.done false [])))
   (.ask (Cm.run Cm.eql (Prod.snd (Prod.snd (AF.val (atrA a0 a1 a2 a3 a4 a5 a6 a7 a8 a9 a10 a11 a12 a16 a17 a18 a19)))) 0)
   (.ask (Cm.run Cm.eql (Prod.fst (AF.val (atrA a0 a1 a2 a3 a4 a5 a6 a7 a8 a9 a10 a11 a12 a16 a17 a18 a19))) (Prod.fst (AF.val (arrA a0 a1 a2 a3 a4 a5 a6 a7 a8 a9 a10 a11 a12 a16 a17 a18 a19))))
   (.ask (Cm.run Cm.eql (Prod.fst (Prod.snd (AF.val (atrA a0 a1 a2 a3 a4 a5 a6 a7 a8 a9 a10 a11 a12 a16 a17 a18 a19)))) (Prod.snd (AF.val (arrA a0 a1 a2 a3 a4 a5 a6 a7 a8 a9 a10 a11 a12 a16 a17 a18 a19))))
   (.leaf (.done true []))
   (.leaf (.done false [])))
   (.leaf (.done false [])))
   (.leaf (.done false [])))))
   (.ask (Cm.run Cm.eql (Prod.snd (Prod.snd (AF.val (atrA a0 a1 a2 a3 a4 a5 a6 a7 a8 a9 a10 a11 a12 a16 a17 a18 a19)))) 3)
   (.ask (Cm.run Cm.eql (Prod.fst (AF.val (atrA a0 a1 a2 a3 a4 a5 a6 a7 a8 a9 a10 a11 a12 a16 a17 a18 a19))) 0)
   (.ask (Cm.run Cm.eql (Prod.fst (Prod.snd (AF.val (atrA a0 a1 a2 a3 a4 a5 a6 a7 a8 a9 a10 a11 a12 a16 a17 a18 a19)))) 0)
   (.leaf (.done true []))
   (.leaf (.done false [])))
   (.leaf (.done false [])))
   (.leaf (.done false []))))
   (.ask (Cm.run Cm.eql (Prod.snd (Prod.snd (AF.val (atrA a0 a1 a2 a3 a4 a5 a6 a7 a8 a9 a10 a11 a12 a16 a17 a18 a19)))) 3)
   (.ask (Cm.run Cm.eql (Prod.fst (AF.val (atrA a0 a1 a2 a3 a4 a5 a6 a7 a8 a9 a10 a11 a12 a16 a17 a18 a19))) 0)
   (.ask (Cm.run Cm.eql (Prod.fst (Prod.snd (AF.val (atrA a0 a1 a2 a3 a4 a5 a6 a7 a8 a9 a10 a11 a12 a16 a17 a18 a19)))) 0)
   (.leaf (.done true []))
   (.leaf (.done false [])))
   (.leaf (.done false [])))
   (.leaf (.done false []))))
   (.ask (Cm.run Cm.eql (Prod.snd (Prod.snd (AF.val (atrA a0 a1 a2 a3 a4 a5 a6 a7 a8 a9 a10 a11 a12 a16 a17 a18 a19)))) 3)
   (.ask (Cm.run Cm.eql (Prod.fst (AF.val (atrA a0 a1 a2 a3 a4 a5 a6 a7 a8 a9 a10 a11 a12 a16 a17 a18 a19))) 0)
   (.ask (Cm.run Cm.eql (Prod.fst (Prod.snd (AF.val (atrA a0 a1 a2 a3 a4 a5 a6 a7 a8 a9 a10 a11 a12 a16 a17 a18 a19)))) 0)
   (.leaf (.done true []))
   (.leaf (.done false [])))
   (.leaf (.done false [])))
   (.leaf (.done false []))))
   (.ask (Cm.run Cm.eql (Prod.snd (Prod.snd (AF.val (atrA a0 a1 a2 a3 a4 a5 a6 a7 a8 a9 a10 a11 a12 a16 a17 a18 a19)))) 3)
   (.ask (Cm.run Cm.eql (Prod.fst (AF.val (atrA a0 a1 a2 a3 a4 a5 a6 a7 a8 a9 a10 a11 a12 a16 a17 a18 a19))) 0)
   (.ask (Cm.run Cm.eql (Prod.fst (Prod.snd (AF.val (atrA a0 a1 a2 a3 a4 a5 a6 a7 a8 a9 a10 a11 a12 a16 a17 a18 a19)))) 0)
   (.leaf (.done true []))
   (.leaf (.done false [])))
   (.leaf (.done false [])))
   (.leaf (.done false []))))
   (.ask (Cm.run Cm.eql (Prod.snd (Prod.snd (AF.val (atrA a0 a1 a2 a3 a4 a5 a6 a7 a8 a9 a10 a11 a12 a16 a17 a18 a19)))) 3)
   (.ask (Cm.run Cm.eql (Prod.fst (AF.val (atrA a0 a1 a2 a3 a4 a5 a6 a7 a8 a9 a10 a11 a12 a16 a17 a18 a19))) 0)
   (.ask (Cm.run Cm.eql (Prod.fst (Prod.snd (AF.val (atrA a0 a1 a2 a3 a4 a5 a6 a7 a8 a9 a10 a11 a12 a16 a17 a18 a19)))) 0)
   (.leaf (.done true []))
   (.leaf (.done false [])))
   (.leaf (.done false [])))
   (.leaf (.done false []))))
   (.ask (Cm.run Cm.eql (Prod.snd (Prod.snd (AF.val (atrA a0 a1 a2 a3 a4 a5 a6 a7 a8 a9 a10 a11 a12 a16 a17 a18 a19)))) 3)
   (.ask (Cm.run Cm.eql (Prod.fst (AF.val (atrA a0 a1 a2 a3 a4 a5 a6 a7 a8 a9 a10 a11 a12 a16 a17 a18 a19))) 0)
   (.ask (Cm.run Cm.eql (Prod.fst (Prod.snd (AF.val (atrA a0 a1 a2 a3 a4 a5 a6 a7 a8 a9 a10 a11 a12 a16 a17 a18 a19)))) 0)
   (.leaf (.done true []))
   (.leaf (.done false [])))
   (.leaf (.done false [])))
   (.leaf (.done false [])))))))
   (.ask (Cm.run Cm.neq (Prod.snd (AF.val (atqA a0 a1 a2 a3 a4 a5 a6 a7 a8 a9 a10 a11 a12 a13 a14 a15))) 2)
   (.leaf (.done false []))
   (.ask (Cm.run Cm.neq (Prod.fst (AF.val (atqA a0 a1 a2 a3 a4 a5 a6 a7 a8 a9 a10 a11 a12 a13 a14 a15))) 0)
   (.leaf (.done false []))
   (.ask (Cm.run Cm.geq a16 0)
   (.ask (Cm.run Cm.leq a16 a17)
   (.ask (Cm.run Cm.leq a17 100000000)
   (.ask (Cm.run Cm.geq a18 (-10000000000000))
   (.ask (Cm.run Cm.leq a18 a19)
   (.ask (Cm.run Cm.leq a19 10000000000000)
   (.must (AF.fin (arrA a0 a1 a2 a3 a4 a5 a6 a7 a8 a9 a10 a11 a12 a16 a17 a18 a19))
   (.ask (Cm.run Cm.gtr (Prod.fst (AF.val (arrA a0 a1 a2 a3 a4 a5 a6 a7 a8 a9 a10 a11 a12 a16 a17 a18 a19))) (Prod.snd (AF.val (arrA a0 a1 a2 a3 a4 a5 a6 a7 a8 a9 a10 a11 a12 a16 a17 a18 a19))))
   (.ask (Cm.run Cm.eql (Prod.snd (Prod.snd (AF.val (atrA a0 a1 a2 a3 a4 a5 a6 a7 a8 a9 a10 a11 a12 a16 a17 a18 a19)))) 9)
   (.ask (Cm.run Cm.eql (Prod.fst (AF.val (atrA a0 a1 a2 a3 a4 a5 a6 a7 a8 a9 a10 a11 a12 a16 a17 a18 a19))) 0)
   (.ask (Cm.run Cm.eql (Prod.fst (Prod.snd (AF.val (atrA a0 a1 a2 a3 a4 a5 a6 a7 a8 a9 a10 a11 a12 a16 a17 a18 a19)))) 0)
   (.leaf (.done true []))
   (.leaf (.done false [])))
   (.leaf (.done false [])))
   (.leaf (.done false [])))
   (.ask (Cm.run Cm.eql (Prod.snd (Prod.snd (AF.val (atrA a0 a1 a2 a3 a4 a5 a6 a7 a8 a9 a10 a11 a12 a16 a17 a18 a19)))) 0)
   (.ask (Cm.run Cm.eql (Prod.fst (AF.val (atrA a0 a1 a2 a3 a4 a5 a6 a7 a8 a9 a10 a11 a12 a16 a17 a18 a19))) (Prod.fst (AF.val (arrA a0 a1 a2 a3 a4 a5 a6 a7 a8 a9 a10 a11 a12 a16 a17 a18 a19))))
   (.ask (Cm.run Cm.eql (Prod.fst (Prod.snd (AF.val (atrA a0 a1 a2 a3 a4 a5 a6 a7 a8 a9 a10 a11 a12 a16 a17 a18 a19)))) (Prod.snd (AF.val (arrA a0 a1 a2 a3 a4 a5 a6 a7 a8 a9 a10 a11 a12 a16 a17 a18 a19))))
   (.leaf (.done true []))
   (.leaf (.done false [])))
   (.leaf (.done false [])))
   (.leaf (.done false [])))))
   (.ask (Cm.run Cm.eql (Prod.snd (Prod.snd (AF.val (atrA a0 a1 a2 a3 a4 a5 a6 a7 a8 a9 a10 a11 a12 a16 a17 a18 a19)))) 3)
   (.ask (Cm.run Cm.eql (Prod.fst (AF.val (atrA a0 a1 a2 a3 a4 a5 a6 a7 a8 a9 a10 a11 a12 a16 a17 a18 a19))) 0)
   (.ask (Cm.run Cm.eql (Prod.fst (Prod.snd (AF.val (atrA a0 a1 a2 a3 a4 a5 a6 a7 a8 a9 a10 a11 a12 a16 a17 a18 a19)))) 0)
   (.leaf (.done true []))
   (.leaf (.done false [])))
   (.leaf (.done false [])))
   (.leaf (.done false []))))
   (.ask (Cm.run Cm.eql (Prod.snd (Prod.snd (AF.val (atrA a0 a1 a2 a3 a4 a5 a6 a7 a8 a9 a10 a11 a12 a16 a17 a18 a19)))) 3)
   (.ask (Cm.run Cm.eql (Prod.fst (AF.val (atrA a0 a1 a2 a3 a4 a5 a6 a7 a8 a9 a10 a11 a12 a16 a17 a18 a19))) 0)
   (.ask (Cm.run Cm.eql (Prod.fst (Prod.snd (AF.val (atrA a0 a1 a2 a3 a4 a5 a6 a7 a8 a9 a10 a11 a12 a16 a17 a18 a19)))) 0)
   (.leaf (.done true []))
   (.leaf (.done false [])))
   (.leaf (.done false [])))
   (.leaf (.done false []))))
   (.ask (Cm.run Cm.eql (Prod.snd (Prod.snd (AF.val (atrA a0 a1 a2 a3 a4 a5 a6 a7 a8 a9 a10 a11 a12 a16 a17 a18 a19)))) 3)
   (.ask (Cm.run Cm.eql (Prod.fst (AF.val (atrA a0 a1 a2 a3 a4 a5 a6 a7 a8 a9 a10 a11 a12 a16 a17 a18 a19))) 0)
   (.ask (Cm.run Cm.eql (Prod.fst (Prod.snd (AF.val (atrA a0 a1 a2 a3 a4 a5 a6 a7 a8 a9 a10 a11 a12 a16 a17 a18 a19)))) 0)
   (.leaf (.done true []))
   (.leaf (.done false [])))
   (.leaf (.done false [])))
   (.leaf (.done false []))))
   (.ask (Cm.run Cm.eql (Prod.snd (Prod.snd (AF.val (atrA a0 a1 a2 a3 a4 a5 a6 a7 a8 a9 a10 a11 a12 a16 a17 a18 a19)))) 3)
   (.ask (Cm.run Cm.eql (Prod.fst (AF.val (atrA a0 a1 a2 a3 a4 a5 a6 a7 a8 a9 a10 a11 a12 a16 a17 a18 a19))) 0)
   (.ask (Cm.run Cm.eql (Prod.fst (Prod.snd (AF.val (atrA a0 a1 a2 a3 a4 a5 a6 a7 a8 a9 a10 a11 a12 a16 a17 a18 a19)))) 0)
   (.leaf (.done true []))
   (.leaf (.done false [])))
   (.leaf (.done false [])))
   (.leaf (.done false []))))
   (.ask (Cm.run Cm.eql (Prod.snd (Prod.snd (AF.val (atrA a0 a1 a2 a3 a4 a5 a6 a7 a8 a9 a10 a11 a12 a16 a17 a18 a19)))) 3)
   (.ask (Cm.run Cm.eql (Prod.fst (AF.val (atrA a0 a1 a2 a3 a4 a5 a6 a7 a8 a9 a10 a11 a12 a16 a17 a18 a19))) 0)
   (.ask (Cm.run Cm.eql (Prod.fst (Prod.snd (AF.val (atrA a0 a1 a2 a3 a4 a5 a6 a7 a8 a9 a10 a11 a12 a16 a17 a18 a19)))) 0)
   (.leaf (.done true []))
   (.leaf (.done false [])))
   (.leaf (.done false [])))
   (.leaf (.done false []))))
   (.ask (Cm.run Cm.eql (Prod.snd (Prod.snd (AF.val (atrA a0 a1 a2 a3 a4 a5 a6 a7 a8 a9 a10 a11 a12 a16 a17 a18 a19)))) 3)
   (.ask (Cm.run Cm.eql (Prod.fst (AF.val (atrA a0 a1 a2 a3 a4 a5 a6 a7 a8 a9 a10 a11 a12 a16 a17 a18 a19))) 0)
   (.ask (Cm.run Cm.eql (Prod.fst (Prod.snd (AF.val (atrA a0 a1 a2 a3 a4 a5 a6 a7 a8 a9 a10 a11 a12 a16 a17 a18 a19)))) 0)
   (.leaf (.done true []))
   (.leaf (.done false [])))
   (.leaf (.done false [])))
   (.leaf (.done false [])))))))
   (.ask (Cm.run Cm.neq (Prod.snd (AF.val (atqA a0 a1 a2 a3 a4 a5 a6 a7 a8 a9 a10 a11 a12 a13 a14 a15))) 3)
   (.leaf (.done false []))
   (.ask (Cm.run Cm.neq (Prod.fst (AF.val (atqA a0 a1 a2 a3 a4 a5 a6 a7 a8 a9 a10 a11 a12 a13 a14 a15))) 0)
   (.leaf (.done false []))
   (.ask (Cm.run Cm.geq a16 0)
   (.ask (Cm.run Cm.leq a16 a17)
   (.ask (Cm.run Cm.leq a17 100000000)
   (.ask (Cm.run Cm.geq a18 (-10000000000000))
   (.ask (Cm.run Cm.leq a18 a19)
   (.ask (Cm.run Cm.leq a19 10000000000000)
   (.must (AF.fin (arrA a0 a1 a2 a3 a4 a5 a6 a7 a8 a9 a10 a11 a12 a16 a17 a18 a19))
   (.ask (Cm.run Cm.gtr (Prod.fst (AF.val (arrA a0 a1 a2 a3 a4 a5 a6 a7 a8 a9 a10 a11 a12 a16 a17 a18 a19))) (Prod.snd (AF.val (arrA a0 a1 a2 a3 a4 a5 a6 a7 a8 a9 a10 a11 a12 a16 a17 a18 a19))))
   (.ask (Cm.run Cm.eql (Prod.snd (Prod.snd (AF.val (atrA a0 a1 a2 a3 a4 a5 a6 a7 a8 a9 a10 a11 a12 a16 a17 a18 a19)))) 9)
   (.ask (Cm.run Cm.eql (Prod.fst (AF.val (atrA a0 a1 a2 a3 a4 a5 a6 a7 a8 a9 a10 a11 a12 a16 a17 a18 a19))) 0)
   (.ask (Cm.run Cm.eql (Prod.fst (Prod.snd (AF.val (atrA a0 a1 a2 a3 a4 a5 a6 a7 a8 a9 a10 a11 a12 a16 a17 a18 a19)))) 0)
   (.leaf (.done true []))
   (.leaf (.done false [])))
   (.leaf (.done false [])))
   (.leaf (.done false [])))
   (.ask (Cm.run Cm.eql (Prod.snd (Prod.snd (AF.val (atrA a0 a1 a2 a3 a4 a5 a6 a7 a8 a9 a10 a11 a12 a16 a17 a18 a19)))) 0)
   (.ask (Cm.run Cm.eql (Prod.fst (AF.val (atrA a0 a1 a2 a3 a4 a5 a6 a7 a8 a9 a10 a11 a12 a16 a17 a18 a19))) (Prod.fst (AF.val (arrA a0 a1 a2 a3 a4 a5 a6 a7 a8 a9 a10 a11 a12 a16 a17 a18 a19))))
   (.ask (Cm.run Cm.eql (Prod.fst (Prod.snd (AF.val (atrA a0 a1 a2 a3 a4 a5 a6 a7 a8 a9 a10 a11 a12 a16 a17 a18 a19)))) (Prod.snd (AF.val (arrA a0 a1 a2 a3 a4 a5 a6 a7 a8 a9 a10 a11 a12 a16 a17 a18 a19))))
   (.leaf (.done true []))
   (.leaf (.done false [])))
   (.leaf (.done false [])))
   (.leaf (.done false [])))))
   (.ask (Cm.run Cm.eql (Prod.snd (Prod.snd (AF.val (atrA a0 a1 a2 a3 a4 a5 a6 a7 a8 a9 a10 a11 a12 a16 a17 a18 a19)))) 3)
   (.ask (Cm.run Cm.eql (Prod.fst (AF.val (atrA a0 a1 a2 a3 a4 a5 a6 a7 a8 a9 a10 a11 a12 a16 a17 a18 a19))) 0)
   (.ask (Cm.run Cm.eql (Prod.fst (Prod.snd (AF.val (atrA a0 a1 a2 a3 a4 a5 a6 a7 a8 a9 a10 a11 a12 a16 a17 a18 a19)))) 0)
   (.leaf (.done true []))
   (.leaf (.done false [])))
   (.leaf (.done false [])))
   (.leaf (.done false []))))
   (.ask (Cm.run Cm.eql (Prod.snd (Prod.snd (AF.val (atrA a0 a1 a2 a3 a4 a5 a6 a7 a8 a9 a10 a11 a12 a16 a17 a18 a19)))) 3)
   (.ask (Cm.run Cm.eql (Prod.fst (AF.val (atrA a0 a1 a2 a3 a4 a5 a6 a7 a8 a9 a10 a11 a12 a16 a17 a18 a19))) 0)
   (.ask (Cm.run Cm.eql (Prod.fst (Prod.snd (AF.val (atrA a0 a1 a2 a3 a4 a5 a6 a7 a8 a9 a10 a11 a12 a16 a17 a18 a19)))) 0)
   (.leaf (.done true []))
   (.leaf (.done false [])))
   (.leaf (.done false [])))
   (.leaf (.done false []))))
   (.ask (Cm.run Cm.eql (Prod.snd (Prod.snd (AF.val (atrA a0 a1 a2 a3 a4 a5 a6 a7 a8 a9 a10 a11 a12 a16 a17 a18 a19)))) 3)
   (.ask (Cm.run Cm.eql (Prod.fst (AF.val (atrA a0 a1 a2 a3 a4 a5 a6 a7 a8 a9 a10 a11 a12 a16 a17 a18 a19))) 0)
   (.ask (Cm.run Cm.eql (Prod.fst (Prod.snd (AF.val (atrA a0 a1 a2 a3 a4 a5 a6 a7 a8 a9 a10 a11 a12 a16 a17 a18 a19)))) 0)
   (.leaf (.done true []))
   (.leaf (.done false [])))
   (.leaf (.done false [])))
   (.leaf (.done false []))))
   (.ask (Cm.run Cm.eql (Prod.snd (Prod.snd (AF.val (atrA a0 a1 a2 a3 a4 a5 a6 a7 a8 a9 a10 a11 a12 a16 a17 a18 a19)))) 3)
   (.ask (Cm.run Cm.eql (Prod.fst (AF.val (atrA a0 a1 a2 a3 a4 a5 a6 a7 a8 a9 a10 a11 a12 a16 a17 a18 a19))) 0)
   (.ask (Cm.run Cm.eql (Prod.fst (Prod.snd (AF.val (atrA a0 a1 a2 a3 a4 a5 a6 a7 a8 a9 a10 a11 a12 a16 a17 a18 a19)))) 0)
   (.leaf (.done true []))
   (.leaf (.done false [])))
   (.leaf (.done false [])))
   (.leaf (.done false []))))
   (.ask (Cm.run Cm.eql (Prod.snd (Prod.snd (AF.val (atrA a0 a1 a2 a3 a4 a5 a6 a7 a8 a9 a10 a11 a12 a16 a17 a18 a19)))) 3)
   (.ask (Cm.run Cm.eql (Prod.fst (AF.val (atrA a0 a1 a2 a3 a4 a5 a6 a7 a8 a9 a10 a11 a12 a16 a17 a18 a19))) 0)
   (.ask (Cm.run Cm.eql (Prod.fst (Prod.snd (AF.val (atrA a0 a1 a2 a3 a4 a5 a6 a7 a8 a9 a10 a11 a12 a16 a17 a18 a19)))) 0)
   (.leaf (.done true []))
   (.leaf (.done false [])))
   (.leaf (.done false [])))
   (.leaf (.done false []))))
   (.ask (Cm.run Cm.eql (Prod.snd (Prod.snd (AF.val (atrA a0 a1 a2 a3 a4 a5 a6 a7 a8 a9 a10 a11 a12 a16 a17 a18 a19)))) 3)
   (.ask (Cm.run Cm.eql (Prod.fst (AF.val (atrA a0 a1 a2 a3 a4 a5 a6 a7 a8 a9 a10 a11 a12 a16 a17 a18 a19))) 0)
   (.ask (Cm.run Cm.eql (Prod.fst (Prod.snd (AF.val (atrA a0 a1 a2 a3 a4 a5 a6 a7 a8 a9 a10 a11 a12 a16 a17 a18 a19)))) 0)
   (.leaf (.done true []))
   (.leaf (.done false [])))
   (.leaf (.done false [])))
   (.leaf (.done false [])))))))
   (.ask (Cm.run Cm.neq (Prod.snd (AF.val (atqA a0 a1 a2 a3 a4 a5 a6 a7 a8 a9 a10 a11 a12 a13 a14 a15))) 3)
   (.leaf (.done false []))
   (.ask (Cm.run Cm.neq (Prod.fst (AF.val (atqA a0 a1 a2 a3 a4 a5 a6 a7 a8 a9 a10 a11 a12 a13 a14 a15))) 0)
   (.leaf (.done false []))
   (.ask (Cm.run Cm.geq a16 0)
   (.ask (Cm.run Cm.leq a16 a17)
   (.ask (Cm.run Cm.leq a17 100000000)
   (.ask (Cm.run Cm.geq a18 (-10000000000000))
   (.ask (Cm.run Cm.leq a18 a19)
   (.ask (Cm.run Cm.leq a19 10000000000000)
   (.must (AF.fin (arrA a0 a1 a2 a3 a4 a5 a6 a7 a8 a9 a10 a11 a12 a16 a17 a18 a19))
   (.ask (Cm.run Cm.gtr (Prod.fst (AF.val (arrA a0 a1 a2 a3 a4 a5 a6 a7 a8 a9 a10 a11 a12 a16 a17 a18 a19))) (Prod.snd (AF.val (arrA a0 a1 a2 a3 a4 a5 a6 a7 a8 a9 a10 a11 a12 a16 a17 a18 a19))))
   (.ask (Cm.run Cm.eql (Prod.snd (Prod.snd (AF.val (atrA a0 a1 a2 a3 a4 a5 a6 a7 a8 a9 a10 a11 a12 a16 a17 a18 a19)))) 9)
   (.ask (Cm.run Cm.eql (Prod.fst (AF.val (atrA a0 a1 a2 a3 a4 a5 a6 a7 a8 a9 a10 a11 a12 a16 a17 a18 a19))) 0)
   (.ask (Cm.run Cm.eql (Prod.fst (Prod.snd (AF.val (atrA a0 a1 a2 a3 a4 a5 a6 a7 a8 a9 a10 a11 a12 a16 a17 a18 a19)))) 0)
   (.leaf (.done true []))
   (.leaf (.done false [])))
   (.leaf (.done false [])))
   (.leaf (.done false [])))
   (.ask (Cm.run Cm.eql (Prod.snd (Prod.snd (AF.val (atrA a0 a1 a2 a3 a4 a5 a6 a7 a8 a9 a10 a11 a12 a16 a17 a18 a19)))) 0)
   (.ask (Cm.run Cm.eql (Prod.fst (AF.val (atrA a0 a1 a2 a3 a4 a5 a6 a7 a8 a9 a10 a11 a12 a16 a17 a18 a19))) (Prod.fst (AF.val (arrA a0 a1 a2 a3 a4 a5 a6 a7 a8 a9 a10 a11 a12 a16 a17 a18 a19))))
   (.ask (Cm.run Cm.eql (Prod.fst (Prod.snd (AF.val (atrA a0 a1 a2 a3 a4 a5 a6 a7 a8 a9 a10 a11 a12 a16 a17 a18 a19)))) (Prod.snd (AF.val (arrA a0 a1 a2 a3 a4 a5 a6 a7 a8 a9 a10 a11 a12 a16 a17 a18 a19))))
   (.leaf (.done true []))
   (.leaf (.done false [])))
   (.leaf (.done false [])))
   (.leaf (.done false [])))))
   (.ask (Cm.run Cm.eql (Prod.snd (Prod.snd (AF.val (atrA a0 a1 a2 a3 a4 a5 a6 a7 a8 a9 a10 a11 a12 a16 a17 a18 a19)))) 3)
   (.ask (Cm.run Cm.eql (Prod.fst (AF.val (atrA a0 a1 a2 a3 a4 a5 a6 a7 a8 a9 a10 a11 a12 a16 a17 a18 a19))) 0)
   (.ask (Cm.run Cm.eql (Prod.fst (Prod.snd (AF.val (atrA a0 a1 a2 a3 a4 a5 a6 a7 a8 a9 a10 a11 a12 a16 a17 a18 a19)))) 0)
   (.leaf (.done true []))
   (.leaf (.done false [])))
   (.leaf (.done false [])))
   (.leaf (.done false []))))
   (.ask (Cm.run Cm.eql (Prod.snd (Prod.snd (AF.val (atrA a0 a1 a2 a3 a4 a5 a6 a7 a8 a9 a10 a11 a12 a16 a17 a18 a19)))) 3)
   (.ask (Cm.run Cm.eql (Prod.fst (AF.val (atrA a0 a1 a2 a3 a4 a5 a6 a7 a8 a9 a10 a11 a12 a16 a17 a18 a19))) 0)
   (.ask (Cm.run Cm.eql (Prod.fst (Prod.snd (AF.val (atrA a0 a1 a2 a3 a4 a5 a6 a7 a8 a9 a10 a11 a12 a16 a17 a18 a19)))) 0)
   (.leaf (.done true []))
   (.leaf (.done false [])))
   (.leaf (.done false [])))
   (.leaf (.done false []))))
   (.ask (Cm.run Cm.eql (Prod.snd (Prod.snd (AF.val (atrA a0 a1 a2 a3 a4 a5 a6 a7 a8 a9 a10 a11 a12 a16 a17 a18 a19)))) 3)
   (.ask (Cm.run Cm.eql (Prod.fst (AF.val (atrA a0 a1 a2 a3 a4 a5 a6 a7 a8 a9 a10 a11 a12 a16 a17 a18 a19))) 0)
   (.ask (Cm.run Cm.eql (Prod.fst (Prod.snd (AF.val (atrA a0 a1 a2 a3 a4 a5 a6 a7 a8 a9 a10 a11 a12 a16 a17 a18 a19)))) 0)
   (.leaf (.done true []))
   (.leaf (.done false [])))
   (.leaf (.done false [])))
   (.leaf (.done false []))))
   (.ask (Cm.run Cm.eql (Prod.snd (Prod.snd (AF.val (atrA a0 a1 a2 a3 a4 a5 a6 a7 a8 a9 a10 a11 a12 a16 a17 a18 a19)))) 3)
   (.ask (Cm.run Cm.eql (Prod.fst (AF.val (atrA a0 a1 a2 a3 a4 a5 a6 a7 a8 a9 a10 a11 a12 a16 a17 a18 a19))) 0)
   (.ask (Cm.run Cm.eql (Prod.fst (Prod.snd (AF.val (atrA a0 a1 a2 a3 a4 a5 a6 a7 a8 a9 a10 a11 a12 a16 a17 a18 a19)))) 0)
   (.leaf (.done true []))
   (.leaf (.done false [])))
   (.leaf (.done false [])))
   (.leaf (.done false []))))
   (.ask (Cm.run Cm.eql (Prod.snd (Prod.snd (AF.val (atrA a0 a1 a2 a3 a4 a5 a6 a7 a8 a9 a10 a11 a12 a16 a17 a18 a19)))) 3)
   (.ask (Cm.run Cm.eql (Prod.fst (AF.val (atrA a0 a1 a2 a3 a4 a5 a6 a7 a8 a9 a10 a11 a12 a16 a17 a18 a19))) 0)
   (.ask (Cm.run Cm.eql (Prod.fst (Prod.snd (AF.val (atrA a0 a1 a2 a3 a4 a5 a6 a7 a8 a9 a10 a11 a12 a16 a17 a18 a19)))) 0)
   (.leaf (.done true []))
   (.leaf (.done false [])))
   (.leaf (.done false [])))
   (.leaf (.done false []))))
   (.ask (Cm.run Cm.eql (Prod.snd (Prod.snd (AF.val (atrA a0 a1 a2 a3 a4 a5 a6 a7 a8 a9 a10 a11 a12 a16 a17 a18 a19)))) 3)
   (.ask (Cm.run Cm.eql (Prod.fst (AF.val (atrA a0 a1 a2 a3 a4 a5 a6 a7 a8 a9 a10 a11 a12 a16 a17 a18 a19))) 0)
   (.ask (Cm.run Cm.eql (Prod.fst (Prod.snd (AF.val (atrA a0 a1 a2 a3 a4 a5 a6 a7 a8 a9 a10 a11 a12 a16 a17 a18 a19)))) 0)
   (.leaf (.done true []))
   (.leaf (.done false [])))
   (.leaf (.done false [])))
   (.leaf (.done false []))))))))))

noncomputable def altD (a0 : Int) (a1 : Int) (a2 : Int) (a3 : Int) (a4 : Int) (a5 : Int) (a6 : Int) (a7 : Int) (a8 : Int) (a9 : Int) (a10 : Int) (a11 : Int) (a12 : Int) (a13 : Int) (a14 : Int) (a15 : Int) (a16 : Int) (a17 : Int) (a18 : Int) (a19 : Int) : altN → DD (Lf altN altR) := fun a => nomatch a

noncomputable def altA (a0 : Int) (a1 : Int) (a2 : Int) (a3 : Int) (a4 : Int) (a5 : Int) (a6 : Int) (a7 : Int) (a8 : Int) (a9 : Int) (a10 : Int) (a11 : Int) (a12 : Int) (a13 : Int) (a14 : Int) (a15 : Int) (a16 : Int) (a17 : Int) (a18 : Int) (a19 : Int) : AF altN altR where
  code := altCode
  base := 0
  nt := 165
  m := 400
  un := []
  W := []
  h0 := []
  args := [.agg [.int .i64 (.x a0), .int .i64 (.x a1), .int .i64 (.x a2), .int .i64 (.x a3), .int .i64 (.x a4), .int .i64 (.x a5), .int .i64 (.x a6), .int .i64 (.x a7), .int .i64 (.x a8), .int .i64 (.x a9), .int .i64 (.x a10), .int .i64 (.x a11), .int .i64 (.x a12)], .agg [.int .i64 (.x a13), .int .i64 (.x a14), .int .i64 (.x a15), .int .i64 (.x a16), .int .i64 (.x a17), .int .i64 (.x a18), .int .i64 (.x a19)]]
  res := (Try.f4).results.toList
  path := fun a => nomatch a
  pd := fun a => nomatch a
  D0 := altD0 a0 a1 a2 a3 a4 a5 a6 a7 a8 a9 a10 a11 a12 a13 a14 a15 a16 a17 a18 a19
  D := altD a0 a1 a2 a3 a4 a5 a6 a7 a8 a9 a10 a11 a12 a13 a14 a15 a16 a17 a18 a19
  rc := (fun v => .bool (.x v))
  rh := (fun v => [])
  rn := (fun v => 0)
  rx := (fun v => [])
  rgo := (fun _ => none)


theorem altstart_cut {α β : Type} {f g : α → β} {l : List α} (n : Nat) (h1 : (l.take n).map f = (l.take n).map g) (h2 : (l.drop n).map f = (l.drop n).map g) : l.map f = l.map g := by
  rw [← List.take_append_drop n l, List.map_append, List.map_append, h1, h2]

theorem altstart_0 (a0 : Int) (a1 : Int) (a2 : Int) (a3 : Int) (a4 : Int) (a5 : Int) (a6 : Int) (a7 : Int) (a8 : Int) (a9 : Int) (a10 : Int) (a11 : Int) (a12 : Int) (a13 : Int) (a14 : Int) (a15 : Int) (a16 : Int) (a17 : Int) (a18 : Int) (a19 : Int) : (((altD0 a0 a1 a2 a3 a4 a5 a6 a7 a8 a9 a10 a11 a12 a13 a14 a15 a16 a17 a18 a19).lv).take 70).map (fun x => AF.see (altA a0 a1 a2 a3 a4 a5 a6 a7 a8 a9 a10 a11 a12 a13 a14 a15 a16 a17 a18 a19) (ctxOf Try.prog memo0) x.2.2 ((AF.run0 (altA a0 a1 a2 a3 a4 a5 a6 a7 a8 a9 a10 a11 a12 a13 a14 a15 a16 a17 a18 a19) (ctxOf Try.prog (memoA 26 arrP arrF (memoA 25 abrP abrF (memoA 23 atrP atrF (memoA 22 atqP atqF (memoA 16 abkP abkF (memoB [18])))))))) x.1)) = (((altD0 a0 a1 a2 a3 a4 a5 a6 a7 a8 a9 a10 a11 a12 a13 a14 a15 a16 a17 a18 a19).lv).take 70).map (fun x => AF.want (altA a0 a1 a2 a3 a4 a5 a6 a7 a8 a9 a10 a11 a12 a13 a14 a15 a16 a17 a18 a19) x.2.2 x.2.1) := by kernel_rfl

theorem altstart_1 (a0 : Int) (a1 : Int) (a2 : Int) (a3 : Int) (a4 : Int) (a5 : Int) (a6 : Int) (a7 : Int) (a8 : Int) (a9 : Int) (a10 : Int) (a11 : Int) (a12 : Int) (a13 : Int) (a14 : Int) (a15 : Int) (a16 : Int) (a17 : Int) (a18 : Int) (a19 : Int) : ((((altD0 a0 a1 a2 a3 a4 a5 a6 a7 a8 a9 a10 a11 a12 a13 a14 a15 a16 a17 a18 a19).lv).drop 70).take 70).map (fun x => AF.see (altA a0 a1 a2 a3 a4 a5 a6 a7 a8 a9 a10 a11 a12 a13 a14 a15 a16 a17 a18 a19) (ctxOf Try.prog memo0) x.2.2 ((AF.run0 (altA a0 a1 a2 a3 a4 a5 a6 a7 a8 a9 a10 a11 a12 a13 a14 a15 a16 a17 a18 a19) (ctxOf Try.prog (memoA 26 arrP arrF (memoA 25 abrP abrF (memoA 23 atrP atrF (memoA 22 atqP atqF (memoA 16 abkP abkF (memoB [18])))))))) x.1)) = ((((altD0 a0 a1 a2 a3 a4 a5 a6 a7 a8 a9 a10 a11 a12 a13 a14 a15 a16 a17 a18 a19).lv).drop 70).take 70).map (fun x => AF.want (altA a0 a1 a2 a3 a4 a5 a6 a7 a8 a9 a10 a11 a12 a13 a14 a15 a16 a17 a18 a19) x.2.2 x.2.1) := by kernel_rfl

theorem altstart_2 (a0 : Int) (a1 : Int) (a2 : Int) (a3 : Int) (a4 : Int) (a5 : Int) (a6 : Int) (a7 : Int) (a8 : Int) (a9 : Int) (a10 : Int) (a11 : Int) (a12 : Int) (a13 : Int) (a14 : Int) (a15 : Int) (a16 : Int) (a17 : Int) (a18 : Int) (a19 : Int) : (((((altD0 a0 a1 a2 a3 a4 a5 a6 a7 a8 a9 a10 a11 a12 a13 a14 a15 a16 a17 a18 a19).lv).drop 70).drop 70).take 70).map (fun x => AF.see (altA a0 a1 a2 a3 a4 a5 a6 a7 a8 a9 a10 a11 a12 a13 a14 a15 a16 a17 a18 a19) (ctxOf Try.prog memo0) x.2.2 ((AF.run0 (altA a0 a1 a2 a3 a4 a5 a6 a7 a8 a9 a10 a11 a12 a13 a14 a15 a16 a17 a18 a19) (ctxOf Try.prog (memoA 26 arrP arrF (memoA 25 abrP abrF (memoA 23 atrP atrF (memoA 22 atqP atqF (memoA 16 abkP abkF (memoB [18])))))))) x.1)) = (((((altD0 a0 a1 a2 a3 a4 a5 a6 a7 a8 a9 a10 a11 a12 a13 a14 a15 a16 a17 a18 a19).lv).drop 70).drop 70).take 70).map (fun x => AF.want (altA a0 a1 a2 a3 a4 a5 a6 a7 a8 a9 a10 a11 a12 a13 a14 a15 a16 a17 a18 a19) x.2.2 x.2.1) := by kernel_rfl

theorem altstart_3 (a0 : Int) (a1 : Int) (a2 : Int) (a3 : Int) (a4 : Int) (a5 : Int) (a6 : Int) (a7 : Int) (a8 : Int) (a9 : Int) (a10 : Int) (a11 : Int) (a12 : Int) (a13 : Int) (a14 : Int) (a15 : Int) (a16 : Int) (a17 : Int) (a18 : Int) (a19 : Int) : (((((altD0 a0 a1 a2 a3 a4 a5 a6 a7 a8 a9 a10 a11 a12 a13 a14 a15 a16 a17 a18 a19).lv).drop 70).drop 70).drop 70).map (fun x => AF.see (altA a0 a1 a2 a3 a4 a5 a6 a7 a8 a9 a10 a11 a12 a13 a14 a15 a16 a17 a18 a19) (ctxOf Try.prog memo0) x.2.2 ((AF.run0 (altA a0 a1 a2 a3 a4 a5 a6 a7 a8 a9 a10 a11 a12 a13 a14 a15 a16 a17 a18 a19) (ctxOf Try.prog (memoA 26 arrP arrF (memoA 25 abrP abrF (memoA 23 atrP atrF (memoA 22 atqP atqF (memoA 16 abkP abkF (memoB [18])))))))) x.1)) = (((((altD0 a0 a1 a2 a3 a4 a5 a6 a7 a8 a9 a10 a11 a12 a13 a14 a15 a16 a17 a18 a19).lv).drop 70).drop 70).drop 70).map (fun x => AF.want (altA a0 a1 a2 a3 a4 a5 a6 a7 a8 a9 a10 a11 a12 a13 a14 a15 a16 a17 a18 a19) x.2.2 x.2.1) := by kernel_rfl

theorem altstart (a0 : Int) (a1 : Int) (a2 : Int) (a3 : Int) (a4 : Int) (a5 : Int) (a6 : Int) (a7 : Int) (a8 : Int) (a9 : Int) (a10 : Int) (a11 : Int) (a12 : Int) (a13 : Int) (a14 : Int) (a15 : Int) (a16 : Int) (a17 : Int) (a18 : Int) (a19 : Int) : AF.edgeOk (altA a0 a1 a2 a3 a4 a5 a6 a7 a8 a9 a10 a11 a12 a13 a14 a15 a16 a17 a18 a19) (ctxOf Try.prog memo0) (altD0 a0 a1 a2 a3 a4 a5 a6 a7 a8 a9 a10 a11 a12 a13 a14 a15 a16 a17 a18 a19) (AF.run0 (altA a0 a1 a2 a3 a4 a5 a6 a7 a8 a9 a10 a11 a12 a13 a14 a15 a16 a17 a18 a19) (ctxOf Try.prog (memoA 26 arrP arrF (memoA 25 abrP abrF (memoA 23 atrP atrF (memoA 22 atqP atqF (memoA 16 abkP abkF (memoB [18])))))))) := altstart_cut 70 (altstart_0 a0 a1 a2 a3 a4 a5 a6 a7 a8 a9 a10 a11 a12 a13 a14 a15 a16 a17 a18 a19) (altstart_cut 70 (altstart_1 a0 a1 a2 a3 a4 a5 a6 a7 a8 a9 a10 a11 a12 a13 a14 a15 a16 a17 a18 a19) (altstart_cut 70 (altstart_2 a0 a1 a2 a3 a4 a5 a6 a7 a8 a9 a10 a11 a12 a13 a14 a15 a16 a17 a18 a19) (altstart_3 a0 a1 a2 a3 a4 a5 a6 a7 a8 a9 a10 a11 a12 a13 a14 a15 a16 a17 a18 a19)))

theorem altok (a0 : Int) (a1 : Int) (a2 : Int) (a3 : Int) (a4 : Int) (a5 : Int) (a6 : Int) (a7 : Int) (a8 : Int) (a9 : Int) (a10 : Int) (a11 : Int) (a12 : Int) (a13 : Int) (a14 : Int) (a15 : Int) (a16 : Int) (a17 : Int) (a18 : Int) (a19 : Int) : (altA a0 a1 a2 a3 a4 a5 a6 a7 a8 a9 a10 a11 a12 a13 a14 a15 a16 a17 a18 a19).Ok Try.prog (ctxOf Try.prog (memoA 26 arrP arrF (memoA 25 abrP abrF (memoA 23 atrP atrF (memoA 22 atqP atqF (memoA 16 abkP abkF (memoB [18]))))))) where
  regs := by kernel_rfl
  h0 := by kernel_rfl
  start := altstart a0 a1 a2 a3 a4 a5 a6 a7 a8 a9 a10 a11 a12 a13 a14 a15 a16 a17 a18 a19
  node := fun a _ => nomatch a
  pd := fun a => nomatch a
  le := fun a => nomatch a
  rd := fun v => ⟨⟨fa_nil, fa_nil, fa_nil, rfl⟩, rfl⟩
  wb := rfl


theorem althR {ρ : Env} (a0 : Int) (a1 : Int) (a2 : Int) (a3 : Int) (a4 : Int) (a5 : Int) (a6 : Int) (a7 : Int) (a8 : Int) (a9 : Int) (a10 : Int) (a11 : Int) (a12 : Int) (a13 : Int) (a14 : Int) (a15 : Int) (a16 : Int) (a17 : Int) (a18 : Int) (a19 : Int) (hM : MemoOk Try.prog (ctxOf Try.prog (memoA 26 arrP arrF (memoA 25 abrP abrF (memoA 23 atrP atrF (memoA 22 atqP atqF (memoA 16 abkP abkF (memoB [18]))))))) ρ) : ∀ X a q n D, FxOk ρ X → X.base = (altA a0 a1 a2 a3 a4 a5 a6 a7 a8 a9 a10 a11 a12 a13 a14 a15 a16 a17 a18 a19).base → X.nt = (altA a0 a1 a2 a3 a4 a5 a6 a7 a8 a9 a10 a11 a12 a13 a14 a15 a16 a17 a18 a19).nt → X.W = (altA a0 a1 a2 a3 a4 a5 a6 a7 a8 a9 a10 a11 a12 a13 a14 a15 a16 a17 a18 a19).W → (altA a0 a1 a2 a3 a4 a5 a6 a7 a8 a9 a10 a11 a12 a13 a14 a15 a16 a17 a18 a19).rgo a = some q → q n = some D → (altA a0 a1 a2 a3 a4 a5 a6 a7 a8 a9 a10 a11 a12 a13 a14 a15 a16 a17 a18 a19).RangeOk Try.prog ρ X a D := AF.noRange rfl

theorem altctr {ρ : Env} (a0 : Int) (a1 : Int) (a2 : Int) (a3 : Int) (a4 : Int) (a5 : Int) (a6 : Int) (a7 : Int) (a8 : Int) (a9 : Int) (a10 : Int) (a11 : Int) (a12 : Int) (a13 : Int) (a14 : Int) (a15 : Int) (a16 : Int) (a17 : Int) (a18 : Int) (a19 : Int) {n : Nat} {v : altR} (hM : MemoOk Try.prog (ctxOf Try.prog (memoA 26 arrP arrF (memoA 25 abrP abrF (memoA 23 atrP atrF (memoA 22 atqP atqF (memoA 16 abkP abkF (memoB [18]))))))) ρ) (hv : (altA a0 a1 a2 a3 a4 a5 a6 a7 a8 a9 a10 a11 a12 a13 a14 a15 a16 a17 a18 a19).run n = some v) :
    Ctr Try.prog ρ 4 (altA a0 a1 a2 a3 a4 a5 a6 a7 a8 a9 a10 a11 a12 a13 a14 a15 a16 a17 a18 a19).args (altA a0 a1 a2 a3 a4 a5 a6 a7 a8 a9 a10 a11 a12 a13 a14 a15 a16 a17 a18 a19).H0 (altA a0 a1 a2 a3 a4 a5 a6 a7 a8 a9 a10 a11 a12 a13 a14 a15 a16 a17 a18 a19).base (altA a0 a1 a2 a3 a4 a5 a6 a7 a8 a9 a10 a11 a12 a13 a14 a15 a16 a17 a18 a19).W ((altA a0 a1 a2 a3 a4 a5 a6 a7 a8 a9 a10 a11 a12 a13 a14 a15 a16 a17 a18 a19).rc v) (putH (altA a0 a1 a2 a3 a4 a5 a6 a7 a8 a9 a10 a11 a12 a13 a14 a15 a16 a17 a18 a19).H0 ((altA a0 a1 a2 a3 a4 a5 a6 a7 a8 a9 a10 a11 a12 a13 a14 a15 a16 a17 a18 a19).rh v ++ (altA a0 a1 a2 a3 a4 a5 a6 a7 a8 a9 a10 a11 a12 a13 a14 a15 a16 a17 a18 a19).rx v)) ((altA a0 a1 a2 a3 a4 a5 a6 a7 a8 a9 a10 a11 a12 a13 a14 a15 a16 a17 a18 a19).rn v) :=
  AF.ctr try_ok hM (altok a0 a1 a2 a3 a4 a5 a6 a7 a8 a9 a10 a11 a12 a13 a14 a15 a16 a17 a18 a19) (fn := Try.f4) Try.func4 rfl rfl (Nat.le_of_ble_eq_true rfl) rfl (althR a0 a1 a2 a3 a4 a5 a6 a7 a8 a9 a10 a11 a12 a13 a14 a15 a16 a17 a18 a19 hM) hv


theorem altmem {ρ : Env} : MemoOk Try.prog (ctxOf Try.prog (memoA 26 arrP arrF (memoA 25 abrP abrF (memoA 23 atrP atrF (memoA 22 atqP atqF (memoA 16 abkP abkF (memoB [18]))))))) ρ := (memoA_ok (arrknown arrmem) (memoA_ok (abrknown abrmem) (memoA_ok (atrknown atrmem) (memoA_ok (atqknown atqmem) (memoA_ok (abkknown memo0_ok) (memoB_ok (fun f hf => by
    simp only [List.mem_cons, List.not_mem_nil, or_false] at hf
    subst hf
    exact CxKn09_known)))))))


abbrev altP : List AP := [.agg [.int .i64, .int .i64, .int .i64, .int .i64, .int .i64, .int .i64, .int .i64, .int .i64, .int .i64, .int .i64, .int .i64, .int .i64, .int .i64], .agg [.int .i64, .int .i64, .int .i64, .int .i64, .int .i64, .int .i64, .int .i64]]
noncomputable def altF (v : AV) : AF altN altR := altA (v.i.getD 0 0) (v.i.getD 1 0) (v.i.getD 2 0) (v.i.getD 3 0) (v.i.getD 4 0) (v.i.getD 5 0) (v.i.getD 6 0) (v.i.getD 7 0) (v.i.getD 8 0) (v.i.getD 9 0) (v.i.getD 10 0) (v.i.getD 11 0) (v.i.getD 12 0) (v.i.getD 13 0) (v.i.getD 14 0) (v.i.getD 15 0) (v.i.getD 16 0) (v.i.getD 17 0) (v.i.getD 18 0) (v.i.getD 19 0)
theorem altknown {ρ : Env} (hM : MemoOk Try.prog (ctxOf Try.prog (memoA 26 arrP arrF (memoA 25 abrP abrF (memoA 23 atrP atrF (memoA 22 atqP atqF (memoA 16 abkP abkF (memoB [18]))))))) ρ) : KnownA Try.prog ρ 4 altP altF where
  fn := ⟨Try.f4, Try.func4, rfl⟩
  args := fun v => rfl
  plain := fun v r => rfl
  ctr := fun v n r h => altctr (v.i.getD 0 0) (v.i.getD 1 0) (v.i.getD 2 0) (v.i.getD 3 0) (v.i.getD 4 0) (v.i.getD 5 0) (v.i.getD 6 0) (v.i.getD 7 0) (v.i.getD 8 0) (v.i.getD 9 0) (v.i.getD 10 0) (v.i.getD 11 0) (v.i.getD 12 0) (v.i.getD 13 0) (v.i.getD 14 0) (v.i.getD 15 0) (v.i.getD 16 0) (v.i.getD 17 0) (v.i.getD 18 0) (v.i.getD 19 0) hM h

end Go.Proofs.Ytgnmdknbnkljbaa.Cx

/- BoltTorques: its automaton returns true. Made by tools/gen_bcon.py. -/
namespace Go.Proofs.Ytgnmdknbnkljbaa.Cx
set_option linter.unusedVariables false
set_option linter.unusedSimpArgs false
set_option maxRecDepth 100000
set_option maxHeartbeats 4000000
open Go Go.RowKit

theorem torque_part (a0 a1 a2 a3 a4 a5 a6 a7 a8 a9 a10 a11 a12 a13 a14 a15 a16 a17 a18 a19 : Int) (hk : KindP a0 a1 a2 a3 a4 a5 a6 a7 a8 a9 a10 a11 a12) : ∃ Q E X Y1 Y2 : Int, (AF.val (atqA a0 a1 a2 a3 a4 a5 a6 a7 a8 a9 a10 a11 a12 a13 a14 a15)) = (Q, E) ∧ Ar.run Ar.mul IntKind.i64 a13 (AF.val (abrA a0 a1 a2 a3 a4 a5 a6 a7 a8 a9 a10 a11 a12 a14 a15)) = X ∧ Ar.run Ar.mul IntKind.i64 1000 Q = Y1 ∧ Ar.run Ar.mul IntKind.i64 1000 (Ar.run Ar.sub IntKind.i64 Q 1) = Y2 ∧ (¬ (0 ≤ a13 ∧ a13 ≤ 100000000) → Q = 0 ∧ E = 3) ∧ ((0 ≤ a13 ∧ a13 ≤ 100000000) ∧ ¬ ((0 ≤ a14 ∧ a14 ≤ 1000) ∧ (0 ≤ a15 ∧ a15 ≤ 1000)) → Q = 0 ∧ E = 2) ∧ ((0 ≤ a13 ∧ a13 ≤ 100000000) ∧ ((0 ≤ a14 ∧ a14 ≤ 1000) ∧ (0 ≤ a15 ∧ a15 ≤ 1000)) → AF.fin (abrA a0 a1 a2 a3 a4 a5 a6 a7 a8 a9 a10 a11 a12 a14 a15) = true) ∧ ((0 ≤ a13 ∧ a13 ≤ 100000000) ∧ ((0 ≤ a14 ∧ a14 ≤ 1000) ∧ (0 ≤ a15 ∧ a15 ≤ 1000)) → E = 0 ∧ 0 ≤ Q ∧ X ≤ Y1 ∧ (Q > 0 → Y2 < X)) := by
  obtain ⟨_, t2, t3, t4⟩ := atq_ok a0 a1 a2 a3 a4 a5 a6 a7 a8 a9 a10 a11 a12 a13 a14 a15 hk
  unfold KindP at hk
  by_cases hF : (0 ≤ a13 ∧ a13 ≤ 100000000)
  · by_cases hO : ((0 ≤ a14 ∧ a14 ≤ 1000) ∧ (0 ≤ a15 ∧ a15 ≤ 1000))
    · have m1 := mul_rng (a := a1) (b := a14) (A := 100000) (B := 1000) (by omega) hO.1
      have m2 := mul_rng (a := a2) (b := a15) (A := 100000) (B := 1000) (by omega) hO.2
      have ha : 1000 ≤ armV a0 a1 a2 a14 a15 ∧ armV a0 a1 a2 a14 a15 ≤ 300000000 := by unfold armV; omega
      have m3 := mul_rng (a := a13) (b := armV a0 a1 a2 a14 a15) (A := 100000000) (B := 300000000) hF (by omega)
      obtain ⟨b1, b2⟩ := abr_val a0 a1 a2 a3 a4 a5 a6 a7 a8 a9 a10 a11 a12 a14 a15 (by omega) (by omega) (by omega) hO.1 hO.2
      refine ⟨_, _, _, _, _, t4 ⟨hF, hO⟩, rfl, rfl, rfl, fun h => absurd hF h, fun h => absurd hO h.2, fun _ => b1, fun _ => ⟨rfl, ?_⟩⟩
      rw [b2, arMul (a := a13) (by omega)]
      generalize a13 * armV a0 a1 a2 a14 a15 = x at *
      rw [arMul (by omega), arSub (by omega), arMul (by omega)]
      omega
    · exact ⟨_, _, _, _, _, t3 ⟨hF, hO⟩, rfl, rfl, rfl, fun h => absurd hF h, fun _ => ⟨rfl, rfl⟩, fun h => absurd h.2 hO, fun h => absurd h.2 hO⟩
  · exact ⟨_, _, _, _, _, t2 hF, rfl, rfl, rfl, fun _ => ⟨rfl, rfl⟩, fun h => absurd h.1 hF, fun h => absurd h.1 hF, fun h => absurd h.1 hF⟩

theorem right_part (a0 a1 a2 a3 a4 a5 a6 a7 a8 a9 a10 a11 a12 a13 a14 a15 a16 a17 a18 a19 : Int) (hk : KindP a0 a1 a2 a3 a4 a5 a6 a7 a8 a9 a10 a11 a12) : ∃ L H E A B : Int, (AF.val (atrA a0 a1 a2 a3 a4 a5 a6 a7 a8 a9 a10 a11 a12 a16 a17 a18 a19)) = (L, H, E) ∧ (AF.val (arrA a0 a1 a2 a3 a4 a5 a6 a7 a8 a9 a10 a11 a12 a16 a17 a18 a19)) = (A, B) ∧ (¬ ((0 ≤ a16 ∧ a16 ≤ a17 ∧ a17 ≤ 100000000) ∧ (-10000000000000 ≤ a18 ∧ a18 ≤ a19 ∧ a19 ≤ 10000000000000)) → L = 0 ∧ H = 0 ∧ E = 3) ∧ (((0 ≤ a16 ∧ a16 ≤ a17 ∧ a17 ≤ 100000000) ∧ (-10000000000000 ≤ a18 ∧ a18 ≤ a19 ∧ a19 ≤ 10000000000000)) → AF.fin (arrA a0 a1 a2 a3 a4 a5 a6 a7 a8 a9 a10 a11 a12 a16 a17 a18 a19) = true) ∧ (((0 ≤ a16 ∧ a16 ≤ a17 ∧ a17 ≤ 100000000) ∧ (-10000000000000 ≤ a18 ∧ a18 ≤ a19 ∧ a19 ≤ 10000000000000)) → (A > B ∧ L = 0 ∧ H = 0 ∧ E = 9) ∨ (A ≤ B ∧ L = A ∧ H = B ∧ E = 0)) := by
  obtain ⟨_, r2, r3⟩ := atr_ok a0 a1 a2 a3 a4 a5 a6 a7 a8 a9 a10 a11 a12 a16 a17 a18 a19 hk
  by_cases hV : ((0 ≤ a16 ∧ a16 ≤ a17 ∧ a17 ≤ 100000000) ∧ (-10000000000000 ≤ a18 ∧ a18 ≤ a19 ∧ a19 ≤ 10000000000000))
  · obtain ⟨b1, b2⟩ := arr_val hk hV.1 hV.2
    have r3 := r3 hV
    have l0 : 0 ≤ lowT ((a16 * (armV a0 a1 a2 a4 a6) + 999) / 1000) a18 := by unfold lowT; split <;> omega
    generalize lowT ((a16 * (armV a0 a1 a2 a4 a6) + 999) / 1000) a18 = L at *
    generalize ((min a17 a11 + 1) * (armV a0 a1 a2 a3 a5) + 999) / 1000 - 1 - a19 = H at *
    by_cases hg : L > min H 10000000000000
    · rw [if_pos hg] at r3
      exact ⟨_, _, _, _, _, r3, b2, fun h => absurd hV h, fun _ => b1, fun _ => .inl ⟨by omega, rfl, rfl, rfl⟩⟩
    · rw [if_neg hg] at r3
      exact ⟨_, _, _, _, _, r3, b2, fun h => absurd hV h, fun _ => b1, fun _ => .inr ⟨by omega, by omega, by omega, rfl⟩⟩
  · obtain ⟨A, B⟩ : Int × Int := (AF.val (arrA a0 a1 a2 a3 a4 a5 a6 a7 a8 a9 a10 a11 a12 a16 a17 a18 a19))
    exact ⟨_, _, _, _, _, r2 hV, (Prod.eta _).symm, fun _ => ⟨rfl, rfl, rfl⟩, fun h => absurd h hV, fun h => absurd h hV⟩

theorem alt_run (a0 a1 a2 a3 a4 a5 a6 a7 a8 a9 a10 a11 a12 a13 a14 a15 a16 a17 a18 a19 : Int) : ∃ n v, (altA a0 a1 a2 a3 a4 a5 a6 a7 a8 a9 a10 a11 a12 a13 a14 a15 a16 a17 a18 a19).run n = some v ∧ v = true :=
  AF.run_sat (Inv := fun _ => False) (E := fun (v : altR) => v = true) (fun _ => 0) (fun _ => rfl) (fun a => nomatch a) (by
    obtain ⟨k1, k2, k3⟩ := abk_val a0 a1 a2 a3 a4 a5 a6 a7 a8 a9 a10 a11 a12
    show DD.sat _ _ (altD0 a0 a1 a2 a3 a4 a5 a6 a7 a8 a9 a10 a11 a12 a13 a14 a15 a16 a17 a18 a19)
    unfold altD0
    by_cases hk : KindP a0 a1 a2 a3 a4 a5 a6 a7 a8 a9 a10 a11 a12
    · obtain ⟨t1, _⟩ := atq_ok a0 a1 a2 a3 a4 a5 a6 a7 a8 a9 a10 a11 a12 a13 a14 a15 hk
      obtain ⟨r1, _⟩ := atr_ok a0 a1 a2 a3 a4 a5 a6 a7 a8 a9 a10 a11 a12 a16 a17 a18 a19 hk
      obtain ⟨Q, E, X, Y1, Y2, e1, e2, e3, e4, q1, q2, q3, q4⟩ := torque_part a0 a1 a2 a3 a4 a5 a6 a7 a8 a9 a10 a11 a12 a13 a14 a15 a16 a17 a18 a19 hk
      obtain ⟨L, H, E2, A, B, e5, e6, r2, r3, r4⟩ := right_part a0 a1 a2 a3 a4 a5 a6 a7 a8 a9 a10 a11 a12 a13 a14 a15 a16 a17 a18 a19 hk
      rw [t1, r1, k1, k2 hk, e1, e5, e6]
      simp only [e2, e3, e4]
      clear e1 e2 e3 e4 e5 e6 t1 r1 k1 k2 k3 hk
      by_cases hF : (0 ≤ a13 ∧ a13 ≤ 100000000) ∧ ((0 ≤ a14 ∧ a14 ≤ 1000) ∧ (0 ≤ a15 ∧ a15 ≤ 1000))
      · have q3 := q3 hF
        by_cases hV : ((0 ≤ a16 ∧ a16 ≤ a17 ∧ a17 ≤ 100000000) ∧ (-10000000000000 ≤ a18 ∧ a18 ≤ a19 ∧ a19 ≤ 10000000000000))
        · have r3 := r3 hV
          simp only [DD.sat, cmLss, cmLeq, cmGtr, cmGeq, cmEql, cmNeq, cmLssF, cmLeqF, cmGtrF, cmGeqF, cmEqlF, cmNeqF, Prod.mk.injEq, imp_false, ne_eq, not_true_eq_false, false_imp_iff, true_and, and_true, reduceCtorEq, Bool.false_eq_true, q3, r3, Bool.not_true, Bool.not_false]
          clear q3 r3
          repeat' (first | (intro _) | (apply And.intro))
          all_goals omega
        · simp only [DD.sat, cmLss, cmLeq, cmGtr, cmGeq, cmEql, cmNeq, cmLssF, cmLeqF, cmGtrF, cmGeqF, cmEqlF, cmNeqF, Prod.mk.injEq, imp_false, ne_eq, not_true_eq_false, false_imp_iff, true_and, and_true, reduceCtorEq, Bool.false_eq_true, q3, Bool.not_true, Bool.not_false]
          clear q3 r3
          repeat' (first | (intro _) | (apply And.intro))
          all_goals omega
      · by_cases hV : ((0 ≤ a16 ∧ a16 ≤ a17 ∧ a17 ≤ 100000000) ∧ (-10000000000000 ≤ a18 ∧ a18 ≤ a19 ∧ a19 ≤ 10000000000000))
        · have r3 := r3 hV
          simp only [DD.sat, cmLss, cmLeq, cmGtr, cmGeq, cmEql, cmNeq, cmLssF, cmLeqF, cmGtrF, cmGeqF, cmEqlF, cmNeqF, Prod.mk.injEq, imp_false, ne_eq, not_true_eq_false, false_imp_iff, true_and, and_true, reduceCtorEq, Bool.false_eq_true, r3, Bool.not_true, Bool.not_false]
          clear q3 r3
          repeat' (first | (intro _) | (apply And.intro))
          all_goals omega
        · simp only [DD.sat, cmLss, cmLeq, cmGtr, cmGeq, cmEql, cmNeq, cmLssF, cmLeqF, cmGtrF, cmGeqF, cmEqlF, cmNeqF, Prod.mk.injEq, imp_false, ne_eq, not_true_eq_false, false_imp_iff, true_and, and_true, reduceCtorEq, Bool.false_eq_true, Bool.not_true, Bool.not_false]
          clear q3 r3
          repeat' (first | (intro _) | (apply And.intro))
          all_goals omega
    · obtain ⟨t1, t2⟩ := atq_bad a0 a1 a2 a3 a4 a5 a6 a7 a8 a9 a10 a11 a12 a13 a14 a15 hk
      obtain ⟨r1, r2⟩ := atr_bad a0 a1 a2 a3 a4 a5 a6 a7 a8 a9 a10 a11 a12 a16 a17 a18 a19 hk
      rw [t1, r1, k1, k3 hk, t2, r2]
      simp [DD.sat, cmEql, cmEqlF])
end Go.Proofs.Ytgnmdknbnkljbaa.Cx

/- ARGUMENTS THAT ARE SLICES: opened as lists; the memory in which they lie as blocks that are read alone; a law's contract as its statement's walk. -/
namespace Go.Proofs.Ytgnmdknbnkljbaa.Cx
set_option linter.unusedSimpArgs false
set_option linter.unusedVariables false
open Go Go.RowKit Go.ChangeShapes Go.WideShapes Go.Deep Go.Proofs.Ytgnmdknbnkljbaa

/-! ## Such slices as blocks -/

section
variable {P : Program} {ρ : Env}

/-- Where a slice's rows lie. -/
noncomputable def locOf (w : World) (v : Value) (z : Nat) : Option Loc :=
  match v with
  | .slice (some a) (_ + 1) _ => match w.heap[a.block]? with
    | some (.cells c _ _) => some ⟨a.block, a.off, c.size, z⟩
    | _ => none
  | _ => none

theorem rows_rel {α : Type} {en : α → List Value} {ec : α → List CV} {d : α} (he : ∀ σ x, VRl ρ σ (ec x) (en x)) (σ : Mp) : ∀ (xs : List α) (n : Nat), n ≤ xs.length → VRl ρ σ (flatR (fun j => ec (xs.getD j d)) n) ((xs.take n).flatMap en)
  | xs, 0, _ => by simpa [flatR] using VRl.nil
  | xs, n + 1, h => by
    have ih := rows_rel (d := d) he σ xs n (by omega)
    rw [flatR, List.take_add_one, List.flatMap_append]
    refine ih.append ?_
    have hn : n < xs.length := by omega
    rw [List.getElem?_eq_getElem hn, List.getD_eq_getElem?_getD, List.getElem?_eq_getElem hn]
    simpa using he σ xs[n]

theorem SlR.rel {α : Type} {en : α → List Value} {ec : α → List CV} {d : α} {z : Nat} {w : World} {v : Value} {xs : List α} {σ : Mp} {b : Nat} (h : SlR en z w v xs) (hz : ∀ x, (en x).length = z) (he : ∀ σ x, VRl ρ σ (ec x) (en x))
    (hk : ∀ j, (ec (xs.getD j d)).length = z ∧ (ec (xs.getD j d)).all CV.flat = true) (hσ : σ b = locOf w v z) :
    VR ρ σ (.sla b z 0 xs.length) v ∧ ArgAt ρ w ⟨.arg xs.length z (fun j => ec (xs.getD j d)) hk, z, true, none⟩ (σ b) := by
  obtain ⟨a, cap, rfl, hcap, _, hx⟩ := h
  have hcl : Blk.cells ⟨.arg xs.length z (fun j => ec (xs.getD j d)) hk, z, true, none⟩ = flatR (fun j => ec (xs.getD j d)) xs.length := rfl
  have hlen := flatR_length (fun j => (hk j).1) xs.length
  rcases hx with rfl | ⟨bl, off, c, t, p, rfl, hh, hsz, hrow⟩
  · refine ⟨.sla0 _ _, rfl, rfl, rfl, fun l hl => ?_⟩
    rw [hσ] at hl
    simp [locOf] at hl
  · cases xs with
    | nil =>
      refine ⟨.sla0 _ _, rfl, rfl, rfl, fun l hl => ?_⟩
      rw [hσ] at hl
      simp [locOf] at hl
    | cons x xs =>
      have hlo : locOf w (.slice (some ⟨bl, off, none⟩) (x :: xs).length cap) z = some ⟨bl, off, c.size, z⟩ := by
        simp [locOf, hh]
      rw [hlo] at hσ
      refine ⟨?_, rfl, rfl, rfl, fun l hl => ?_⟩
      · have := VR.sla (ρ := ρ) (σ := σ) (b := b) (z := z) (o := 0) (n := (x :: xs).length) (c' := cap) hσ hcap
        simpa using this
      · rw [hσ] at hl
        obtain rfl := Option.some.inj hl
        refine ⟨c, t, p, hh, rfl, rfl, by rw [hcl, hlen]; exact hsz, fun τ => ?_⟩
        rw [hcl, hlen, hrow]
        have := rows_rel (ρ := ρ) (d := d) he τ (x :: xs) (x :: xs).length (Nat.le_refl _)
        rwa [List.take_of_length_le (Nat.le_refl _)] at this

/-- A law's contract, as its statement's walk. -/
theorem Ctr.law {f : Nat} {args : List CV} {h0 h1 : Tr Blk} {base n1 : Nat} {e : BE} {w : World} {σ : Mp} {args' : Array Value} (K : Ctr P ρ f args h0 base [] (.bool e) h1 n1) (he : e.den ρ = true) (ha : VRl ρ σ args args'.toList) (hH : HR ρ σ (curOf h0 base) w) (hN : ∀ b, base ≤ b → σ b = none) :
    Calls P f args' w fun e w' => e = .returned (.bool true) ∧ Below w.heap.size w w' := by
  refine ((K.run 0 σ w args' ha hH hN).calls (fun k d h => by cases h)).mono ?_
  rintro e' w' ⟨v, rfl, σ', h1, h2, h3, h4, h5⟩
  cases h2
  refine ⟨by rw [he], h4.os, h4.tape, h4.output, h4.size, fun k hk => h4.block k hk (fun b hb l hl => ?_)⟩
  rcases hb with hb | hb
  · cases hb
  · rw [hN b hb] at hl; cases hl

end
end Go.Proofs.Ytgnmdknbnkljbaa.Cx

/- BoltTorques holds, for all inputs: by its automaton. Made by tools/cxlaw.py. -/
namespace Go.Proofs.Ytgnmdknbnkljbaa
set_option linter.unusedVariables false
set_option linter.unusedSimpArgs false
open Go.ChangeShapes Go.WideShapes Go.ChangeAt Go.RowKit
open Cx (Env IE BE DT KnownB)

set_option maxRecDepth 100000 in
theorem bltor_open0 {H : Type} {enc : TypeId × Value → H} {w : World} {base : Nat} {spare : Nat → Bool} {held : Bool} {r : Reach} {b0 : Nat} {vv : Value} {d : DataW H} {p : List MemPlace} (hval : Value.okWide Try.prog w r b0 25 vv) (h : DataW.Trod enc Try.prog w base spare held 25 vv d p) :
    ∃ (x0 : Int) (x1 : Int) (x2 : Int) (x3 : Int) (x4 : Int) (x5 : Int) (x6 : Int) (x7 : Int) (x8 : Int) (x9 : Int) (x10 : Int) (x11 : Int) (x12 : Int), vv = .agg #[.int .i64 x0, .int .i64 x1, .int .i64 x2, .int .i64 x3, .int .i64 x4, .int .i64 x5, .int .i64 x6, .int .i64 x7, .int .i64 x8, .int .i64 x9, .int .i64 x10, .int .i64 x11, .int .i64 x12] ∧ (Lit.int .i64 x0).wf = true ∧ (Lit.int .i64 x1).wf = true ∧ (Lit.int .i64 x2).wf = true ∧ (Lit.int .i64 x3).wf = true ∧ (Lit.int .i64 x4).wf = true ∧ (Lit.int .i64 x5).wf = true ∧ (Lit.int .i64 x6).wf = true ∧ (Lit.int .i64 x7).wf = true ∧ (Lit.int .i64 x8).wf = true ∧ (Lit.int .i64 x9).wf = true ∧ (Lit.int .i64 x10).wf = true ∧ (Lit.int .i64 x11).wf = true ∧ (Lit.int .i64 x12).wf = true := by
  obtain ⟨cs, rfl, hsz⟩ := okWide_struct Try.underlying25 hval
  obtain ⟨l⟩ := cs
  obtain ⟨fuel, hf⟩ := h
  have hl : l.length = 13 := hsz.trans (by kernel_rfl)
  obtain ⟨nA3, yA3, tA3⟩ := trodS Try.underlying25 hf 3 _ rfl (o := 3) (c := 2) (ty := 23) rfl rfl (by kernel_rfl)
  obtain ⟨nA4, yA4, tA4⟩ := trodS Try.underlying25 hf 4 _ rfl (o := 5) (c := 2) (ty := 23) rfl rfl (by kernel_rfl)
  obtain ⟨nA5, yA5, tA5⟩ := trodS Try.underlying25 hf 5 _ rfl (o := 7) (c := 2) (ty := 23) rfl rfl (by kernel_rfl)
  obtain ⟨nA6, yA6, tA6⟩ := trodS Try.underlying25 hf 6 _ rfl (o := 9) (c := 2) (ty := 23) rfl rfl (by kernel_rfl)
  obtain ⟨nA7, yA7, tA7⟩ := trodS Try.underlying25 hf 7 _ rfl (o := 11) (c := 2) (ty := 23) rfl rfl (by kernel_rfl)
  obtain ⟨n0, y0, t0⟩ := trodS Try.underlying25 hf 0 _ rfl (o := 0) (c := 1) (ty := 3) rfl rfl (by kernel_rfl)
  obtain ⟨x0, g0, w0⟩ := leafI Try.underlying3 t0
  obtain ⟨n1, y1, t1⟩ := trodS Try.underlying25 hf 1 _ rfl (o := 1) (c := 1) (ty := 3) rfl rfl (by kernel_rfl)
  obtain ⟨x1, g1, w1⟩ := leafI Try.underlying3 t1
  obtain ⟨n2, y2, t2⟩ := trodS Try.underlying25 hf 2 _ rfl (o := 2) (c := 1) (ty := 3) rfl rfl (by kernel_rfl)
  obtain ⟨x2, g2, w2⟩ := leafI Try.underlying3 t2
  obtain ⟨n3, y3, t3⟩ := trodS Try.underlying23 tA3 0 _ rfl (o := 0) (c := 1) (ty := 3) rfl rfl (by kernel_rfl)
  rw [sub_of (s := 3) rfl (by decide)] at t3
  obtain ⟨x3, g3, w3⟩ := leafI Try.underlying3 t3
  obtain ⟨n4, y4, t4⟩ := trodS Try.underlying23 tA3 1 _ rfl (o := 1) (c := 1) (ty := 3) rfl rfl (by kernel_rfl)
  rw [sub_of (s := 4) rfl (by decide)] at t4
  obtain ⟨x4, g4, w4⟩ := leafI Try.underlying3 t4
  obtain ⟨n5, y5, t5⟩ := trodS Try.underlying23 tA4 0 _ rfl (o := 0) (c := 1) (ty := 3) rfl rfl (by kernel_rfl)
  rw [sub_of (s := 5) rfl (by decide)] at t5
  obtain ⟨x5, g5, w5⟩ := leafI Try.underlying3 t5
  obtain ⟨n6, y6, t6⟩ := trodS Try.underlying23 tA4 1 _ rfl (o := 1) (c := 1) (ty := 3) rfl rfl (by kernel_rfl)
  rw [sub_of (s := 6) rfl (by decide)] at t6
  obtain ⟨x6, g6, w6⟩ := leafI Try.underlying3 t6
  obtain ⟨n7, y7, t7⟩ := trodS Try.underlying23 tA5 0 _ rfl (o := 0) (c := 1) (ty := 3) rfl rfl (by kernel_rfl)
  rw [sub_of (s := 7) rfl (by decide)] at t7
  obtain ⟨x7, g7, w7⟩ := leafI Try.underlying3 t7
  obtain ⟨n8, y8, t8⟩ := trodS Try.underlying23 tA5 1 _ rfl (o := 1) (c := 1) (ty := 3) rfl rfl (by kernel_rfl)
  rw [sub_of (s := 8) rfl (by decide)] at t8
  obtain ⟨x8, g8, w8⟩ := leafI Try.underlying3 t8
  obtain ⟨n9, y9, t9⟩ := trodS Try.underlying23 tA6 0 _ rfl (o := 0) (c := 1) (ty := 3) rfl rfl (by kernel_rfl)
  rw [sub_of (s := 9) rfl (by decide)] at t9
  obtain ⟨x9, g9, w9⟩ := leafI Try.underlying3 t9
  obtain ⟨n10, y10, t10⟩ := trodS Try.underlying23 tA6 1 _ rfl (o := 1) (c := 1) (ty := 3) rfl rfl (by kernel_rfl)
  rw [sub_of (s := 10) rfl (by decide)] at t10
  obtain ⟨x10, g10, w10⟩ := leafI Try.underlying3 t10
  obtain ⟨n11, y11, t11⟩ := trodS Try.underlying23 tA7 0 _ rfl (o := 0) (c := 1) (ty := 3) rfl rfl (by kernel_rfl)
  rw [sub_of (s := 11) rfl (by decide)] at t11
  obtain ⟨x11, g11, w11⟩ := leafI Try.underlying3 t11
  obtain ⟨n12, y12, t12⟩ := trodS Try.underlying23 tA7 1 _ rfl (o := 1) (c := 1) (ty := 3) rfl rfl (by kernel_rfl)
  rw [sub_of (s := 12) rfl (by decide)] at t12
  obtain ⟨x12, g12, w12⟩ := leafI Try.underlying3 t12
  refine ⟨x0, x1, x2, x3, x4, x5, x6, x7, x8, x9, x10, x11, x12, ?_, w0, w1, w2, w3, w4, w5, w6, w7, w8, w9, w10, w11, w12⟩
  clear hval hsz hf t0 t1 t2 t3 t4 t5 t6 t7 t8 t9 t10 t11 t12
  match l, hl with
  | [k0, k1, k2, k3, k4, k5, k6, k7, k8, k9, k10, k11, k12], _ =>
    simp [Value.cells] at g0 g1 g2 g3 g4 g5 g6 g7 g8 g9 g10 g11 g12
    subst g0 g1 g2 g3 g4 g5 g6 g7 g8 g9 g10 g11 g12
    rfl

set_option maxRecDepth 100000 in
theorem bltor_open1 {H : Type} {enc : TypeId × Value → H} {w : World} {base : Nat} {spare : Nat → Bool} {held : Bool} {r : Reach} {b0 : Nat} {vv : Value} {d : DataW H} {p : List MemPlace} (hval : Value.okWide Try.prog w r b0 46 vv) (h : DataW.Trod enc Try.prog w base spare held 46 vv d p) :
    ∃ (x0 : Int) (x1 : Int) (x2 : Int) (x3 : Int) (x4 : Int) (x5 : Int) (x6 : Int), vv = .agg #[.int .i64 x0, .int .i64 x1, .int .i64 x2, .int .i64 x3, .int .i64 x4, .int .i64 x5, .int .i64 x6] ∧ (Lit.int .i64 x0).wf = true ∧ (Lit.int .i64 x1).wf = true ∧ (Lit.int .i64 x2).wf = true ∧ (Lit.int .i64 x3).wf = true ∧ (Lit.int .i64 x4).wf = true ∧ (Lit.int .i64 x5).wf = true ∧ (Lit.int .i64 x6).wf = true := by
  obtain ⟨cs, rfl, hsz⟩ := okWide_struct Try.underlying46 hval
  obtain ⟨l⟩ := cs
  obtain ⟨fuel, hf⟩ := h
  have hl : l.length = 7 := hsz.trans (by kernel_rfl)
  obtain ⟨nA1, yA1, tA1⟩ := trodS Try.underlying46 hf 1 _ rfl (o := 1) (c := 2) (ty := 44) rfl rfl (by kernel_rfl)
  obtain ⟨nA2, yA2, tA2⟩ := trodS Try.underlying46 hf 2 _ rfl (o := 3) (c := 2) (ty := 23) rfl rfl (by kernel_rfl)
  obtain ⟨nA3, yA3, tA3⟩ := trodS Try.underlying46 hf 3 _ rfl (o := 5) (c := 2) (ty := 23) rfl rfl (by kernel_rfl)
  obtain ⟨n0, y0, t0⟩ := trodS Try.underlying46 hf 0 _ rfl (o := 0) (c := 1) (ty := 3) rfl rfl (by kernel_rfl)
  obtain ⟨x0, g0, w0⟩ := leafI Try.underlying3 t0
  obtain ⟨n1, y1, t1⟩ := trodE Try.underlying44 tA1 0 (by decide) (o := 0) (c := 1) (by kernel_rfl) rfl
  rw [sub_of (s := 1) rfl (by decide)] at t1
  obtain ⟨x1, g1, w1⟩ := leafI Try.underlying3 t1
  obtain ⟨n2, y2, t2⟩ := trodE Try.underlying44 tA1 1 (by decide) (o := 1) (c := 1) (by kernel_rfl) rfl
  rw [sub_of (s := 2) rfl (by decide)] at t2
  obtain ⟨x2, g2, w2⟩ := leafI Try.underlying3 t2
  obtain ⟨n3, y3, t3⟩ := trodS Try.underlying23 tA2 0 _ rfl (o := 0) (c := 1) (ty := 3) rfl rfl (by kernel_rfl)
  rw [sub_of (s := 3) rfl (by decide)] at t3
  obtain ⟨x3, g3, w3⟩ := leafI Try.underlying3 t3
  obtain ⟨n4, y4, t4⟩ := trodS Try.underlying23 tA2 1 _ rfl (o := 1) (c := 1) (ty := 3) rfl rfl (by kernel_rfl)
  rw [sub_of (s := 4) rfl (by decide)] at t4
  obtain ⟨x4, g4, w4⟩ := leafI Try.underlying3 t4
  obtain ⟨n5, y5, t5⟩ := trodS Try.underlying23 tA3 0 _ rfl (o := 0) (c := 1) (ty := 3) rfl rfl (by kernel_rfl)
  rw [sub_of (s := 5) rfl (by decide)] at t5
  obtain ⟨x5, g5, w5⟩ := leafI Try.underlying3 t5
  obtain ⟨n6, y6, t6⟩ := trodS Try.underlying23 tA3 1 _ rfl (o := 1) (c := 1) (ty := 3) rfl rfl (by kernel_rfl)
  rw [sub_of (s := 6) rfl (by decide)] at t6
  obtain ⟨x6, g6, w6⟩ := leafI Try.underlying3 t6
  refine ⟨x0, x1, x2, x3, x4, x5, x6, ?_, w0, w1, w2, w3, w4, w5, w6⟩
  clear hval hsz hf t0 t1 t2 t3 t4 t5 t6
  match l, hl with
  | [k0, k1, k2, k3, k4, k5, k6], _ =>
    simp [Value.cells] at g0 g1 g2 g3 g4 g5 g6
    subst g0 g1 g2 g3 g4 g5 g6
    rfl

theorem bltor_walk (x0 : Int) (x1 : Int) (x2 : Int) (x3 : Int) (x4 : Int) (x5 : Int) (x6 : Int) (x7 : Int) (x8 : Int) (x9 : Int) (x10 : Int) (x11 : Int) (x12 : Int) (x13 : Int) (x14 : Int) (x15 : Int) (x16 : Int) (x17 : Int) (x18 : Int) (x19 : Int) (w : World) (wx0 : (Lit.int .i64 x0).wf = true) (wx1 : (Lit.int .i64 x1).wf = true) (wx2 : (Lit.int .i64 x2).wf = true) (wx3 : (Lit.int .i64 x3).wf = true) (wx4 : (Lit.int .i64 x4).wf = true) (wx5 : (Lit.int .i64 x5).wf = true) (wx6 : (Lit.int .i64 x6).wf = true) (wx7 : (Lit.int .i64 x7).wf = true) (wx8 : (Lit.int .i64 x8).wf = true) (wx9 : (Lit.int .i64 x9).wf = true) (wx10 : (Lit.int .i64 x10).wf = true) (wx11 : (Lit.int .i64 x11).wf = true) (wx12 : (Lit.int .i64 x12).wf = true) (wx13 : (Lit.int .i64 x13).wf = true) (wx14 : (Lit.int .i64 x14).wf = true) (wx15 : (Lit.int .i64 x15).wf = true) (wx16 : (Lit.int .i64 x16).wf = true) (wx17 : (Lit.int .i64 x17).wf = true) (wx18 : (Lit.int .i64 x18).wf = true) (wx19 : (Lit.int .i64 x19).wf = true) :
    Calls Try.prog 4 #[.agg #[.int .i64 x0, .int .i64 x1, .int .i64 x2, .int .i64 x3, .int .i64 x4, .int .i64 x5, .int .i64 x6, .int .i64 x7, .int .i64 x8, .int .i64 x9, .int .i64 x10, .int .i64 x11, .int .i64 x12], .agg #[.int .i64 x13, .int .i64 x14, .int .i64 x15, .int .i64 x16, .int .i64 x17, .int .i64 x18, .int .i64 x19]] w fun e w' => e = .returned (.bool true) ∧ Below w.heap.size w w' := by
  obtain ⟨n, v, hv, hp⟩ := Cx.alt_run x0 x1 x2 x3 x4 x5 x6 x7 x8 x9 x10 x11 x12 x13 x14 x15 x16 x17 x18 x19
  exact Cx.Ctr.law (ρ := ⟨fun _ => 0, fun _ => false⟩) (σ := fun _ => none) (e := .x v) (Cx.altctr x0 x1 x2 x3 x4 x5 x6 x7 x8 x9 x10 x11 x12 x13 x14 x15 x16 x17 x18 x19 Cx.altmem hv) hp (.cons (.agg (.cons (.int .i64 (.x x0)) (.cons (.int .i64 (.x x1)) (.cons (.int .i64 (.x x2)) (.cons (.int .i64 (.x x3)) (.cons (.int .i64 (.x x4)) (.cons (.int .i64 (.x x5)) (.cons (.int .i64 (.x x6)) (.cons (.int .i64 (.x x7)) (.cons (.int .i64 (.x x8)) (.cons (.int .i64 (.x x9)) (.cons (.int .i64 (.x x10)) (.cons (.int .i64 (.x x11)) (.cons (.int .i64 (.x x12)) .nil)))))))))))))) (.cons (.agg (.cons (.int .i64 (.x x13)) (.cons (.int .i64 (.x x14)) (.cons (.int .i64 (.x x15)) (.cons (.int .i64 (.x x16)) (.cons (.int .i64 (.x x17)) (.cons (.int .i64 (.x x18)) (.cons (.int .i64 (.x x19)) .nil)))))))) .nil)) ⟨fun _ _ _ _ _ h => (by cases h), fun _ _ _ _ _ _ _ _ h => (by cases h), fun _ _ _ _ _ _ h => (by cases h), fun _ _ _ _ _ _ _ _ _ _ h => (by cases h)⟩ (fun _ _ => rfl)

theorem bltor_own : ownKnob Try.prog.godebug = none := by kernel_rfl
theorem bltor_laidOut : laidOutB Try.prog = true := by kernel_rfl

set_option maxRecDepth 100000 in
theorem bltor_lifted (os : Os) (started : os.Started) (H : Type) (enc : TypeId × Value → H) :
    ReturnsInHanded {} Try.checked os 4 .any (Rows.boltTorquesSpec.pre6 enc Try.prog Try.f4 Rows.boltTorquesRow.domain false) (Rows.boltTorquesSpec.post enc Try.prog Try.f4 false true false false) := by
  refine returnsInHanded_of_change (C := Try.checked) bltor_own started (by kernel_rfl) Try.func4
    (ChangeSpec.witness6 (enc := enc) (C := Try.checked) false ⟨#[], #[.agg #[.int .i64 0, .int .i64 0, .int .i64 0, .int .i64 0, .int .i64 0, .int .i64 0, .int .i64 0, .int .i64 0, .int .i64 0, .int .i64 0, .int .i64 0, .int .i64 0, .int .i64 0], .agg #[.int .i64 0, .int .i64 0, .int .i64 0, .int .i64 0, .int .i64 0, .int .i64 0, .int .i64 0]], []⟩ 8 (by kernel_rfl) (by kernel_rfl) (by kernel_rfl) (by kernel_rfl)) ?_
  intro W base args ds gs before hval0 hW hcnd _
  have hval : ∀ (j : Nat) t v, Try.f4.params[j]? = some t → args[j]? = some v → Value.okWide Try.prog W .any base t v := hval0
  have hW' := hW
  obtain ⟨p, q, hA0, hV, rfl, hfz, hnd⟩ := hW
  have hA : DataW.TrodAll enc Try.prog W 0 (fun _ => true) true Try.f4.params.toList args.toList ds p := hA0
  rw [Try.params4] at hA hval
  obtain ⟨v0, vs0, d0, ds0, p0, q0, hargs, rfl, rfl, h0, r0⟩ := trodAll_cons hA
  obtain ⟨v1, vs1, d1, ds1, p1, q1, rfl, rfl, rfl, h1, r1⟩ := trodAll_cons r0
  obtain ⟨rfl, rfl, rfl⟩ := trodAll_nil r1
  obtain rfl : args = #[v0, v1] := by cases args; simp_all
  obtain ⟨rfl, rfl⟩ := trodVars_none hV
  have k0 := h0
  have lt0 : ∀ x ∈ p0, x.block < W.heap.size := by obtain ⟨m, hm⟩ := k0; exact DataW.trod_lt m _ _ _ hm
  have k1 := h1
  have lt1 : ∀ x ∈ p1, x.block < W.heap.size := by obtain ⟨m, hm⟩ := k1; exact DataW.trod_lt m _ _ _ hm
  obtain ⟨x0, x1, x2, x3, x4, x5, x6, x7, x8, x9, x10, x11, x12, rfl, wx0, wx1, wx2, wx3, wx4, wx5, wx6, wx7, wx8, wx9, wx10, wx11, wx12⟩ := bltor_open0 (hval 0 25 v0 rfl rfl) h0
  obtain ⟨x13, x14, x15, x16, x17, x18, x19, rfl, wx13, wx14, wx15, wx16, wx17, wx18, wx19⟩ := bltor_open1 (hval 1 46 v1 rfl rfl) h1
  clear hA0 hval0
  refine (bltor_walk x0 x1 x2 x3 x4 x5 x6 x7 x8 x9 x10 x11 x12 x13 x14 x15 x16 x17 x18 x19 W wx0 wx1 wx2 wx3 wx4 wx5 wx6 wx7 wx8 wx9 wx10 wx11 wx12 wx13 wx14 wx15 wx16 wx17 wx18 wx19).mono fun e W' ⟨he, bel⟩ => ?_
  subst he
  exact ⟨_, rfl, _, _, _, [], _, [], hW', trodAll_mk1 (shut_bool Try.underlying4 _), (trodAll_cons_mk (Below.trod bltor_laidOut (by kernel_rfl) (of_decide_eq_true (by kernel_rfl)) k0 bel lt0) (trodAll_cons_mk (Below.trod bltor_laidOut (by kernel_rfl) (of_decide_eq_true (by kernel_rfl)) k1 bel lt1) trodAll_mk0)), rfl, bel.frame _, fun h => by cases h⟩

theorem bltor_over : Rows.boltTorquesRow.holds Try.pinned (OpenSpec.ofChange Rows.boltTorquesSpec) :=
  OpenClaim.holds_of_wide 4 Try.f4 rfl rfl rfl rfl rfl rfl rfl ⟨rfl, rfl, rfl, rfl, rfl⟩ rfl rfl rfl rfl rfl (by kernel_rfl) Try.func4 (by kernel_rfl)
    (of_decide_eq_true (by kernel_rfl)) (by unfold Func.isWrapper; rw [if_neg (of_decide_eq_false (by kernel_rfl))]; exact ⟨rfl, rfl⟩)
    (fun os started H enc _ => bltor_lifted os started H enc)

theorem bltor_proved : Rows.BoltTorquesSaid := bltor_over
#print axioms bltor_proved

end Go.Proofs.Ytgnmdknbnkljbaa
