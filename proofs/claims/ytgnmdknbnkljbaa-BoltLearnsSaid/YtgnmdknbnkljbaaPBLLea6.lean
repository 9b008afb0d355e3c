/- Hulls of pairs; which arms are told. Made by tools/gen_bcon.py. -/
import Derived.Test.YtgnmdknbnkljbaaPBLLea5

namespace Go.Proofs.Ytgnmdknbnkljbaa.Cx
set_option linter.unusedVariables false
set_option linter.unusedSimpArgs false
set_option maxRecDepth 100000
set_option maxHeartbeats 4000000
open Go Go.RowKit

/-- Some torque of a span can have brought about a force of another one. -/
def canP (l th hd TL TH FL FH t h : Int) : Prop := 1000 * TL < (FH + 1) * armV l th hd t h ∧ FL * armV l th hd t h ≤ 1000 * TH

/-- The least spans in which all pairs lie that are so. -/
structure Hull (D P : Int → Int → Prop) (xl xh yl yh : Int) : Prop where
  all : ∀ t h, D t h → P t h → xl ≤ t ∧ t ≤ xh ∧ yl ≤ h ∧ h ≤ yh
  e1 : ∃ t h, D t h ∧ P t h ∧ t = xl
  e2 : ∃ t h, D t h ∧ P t h ∧ t = xh
  e3 : ∃ t h, D t h ∧ P t h ∧ h = yl
  e4 : ∃ t h, D t h ∧ P t h ∧ h = yh
def NoneP (D P : Int → Int → Prop) : Prop := ∀ t h, D t h → ¬ P t h

theorem Hull.same {D P : Int → Int → Prop} {a b c d a' b' c' d' : Int} (h : Hull D P a b c d) (g : Hull D P a' b' c' d') : a = a' ∧ b = b' ∧ c = c' ∧ d = d' := by
  obtain ⟨h0, ⟨t1, s1, p1, q1, r1⟩, ⟨t2, s2, p2, q2, r2⟩, ⟨t3, s3, p3, q3, r3⟩, ⟨t4, s4, p4, q4, r4⟩⟩ := h
  obtain ⟨g0, ⟨t5, s5, p5, q5, r5⟩, ⟨t6, s6, p6, q6, r6⟩, ⟨t7, s7, p7, q7, r7⟩, ⟨t8, s8, p8, q8, r8⟩⟩ := g
  have := g0 _ _ p1 q1; have := g0 _ _ p2 q2; have := g0 _ _ p3 q3; have := g0 _ _ p4 q4
  have := h0 _ _ p5 q5; have := h0 _ _ p6 q6; have := h0 _ _ p7 q7; have := h0 _ _ p8 q8
  omega
theorem Hull.some {D P : Int → Int → Prop} {a b c d : Int} (h : Hull D P a b c d) (g : NoneP D P) : False := by
  obtain ⟨t, s, p, q, _⟩ := h.e1
  exact g _ _ p q
theorem Hull.to {D D' P : Int → Int → Prop} {a b c d : Int} (h : Hull D P a b c d) (e : ∀ t h, D' t h ↔ D t h) : Hull D' P a b c d := by
  obtain ⟨h0, ⟨t1, s1, p1, q1, r1⟩, ⟨t2, s2, p2, q2, r2⟩, ⟨t3, s3, p3, q3, r3⟩, ⟨t4, s4, p4, q4, r4⟩⟩ := h
  exact ⟨fun t s x y => h0 t s ((e _ _).1 x) y, ⟨t1, s1, (e _ _).2 p1, q1, r1⟩, ⟨t2, s2, (e _ _).2 p2, q2, r2⟩, ⟨t3, s3, (e _ _).2 p3, q3, r3⟩, ⟨t4, s4, (e _ _).2 p4, q4, r4⟩⟩
theorem Hull.join {D N D' P : Int → Int → Prop} {a b c d a' b' c' d' : Int} (h : Hull D P a b c d) (g : Hull N P a' b' c' d') (e : ∀ t h, D' t h ↔ D t h ∨ N t h) : Hull D' P (min a a') (max b b') (min c c') (max d d') := by
  have L : ∀ {t s : Int}, D t s → D' t s := fun x => (e _ _).2 (.inl x)
  have R : ∀ {t s : Int}, N t s → D' t s := fun x => (e _ _).2 (.inr x)
  obtain ⟨h0, ⟨t1, s1, p1, q1, r1⟩, ⟨t2, s2, p2, q2, r2⟩, ⟨t3, s3, p3, q3, r3⟩, ⟨t4, s4, p4, q4, r4⟩⟩ := h
  obtain ⟨g0, ⟨t5, s5, p5, q5, r5⟩, ⟨t6, s6, p6, q6, r6⟩, ⟨t7, s7, p7, q7, r7⟩, ⟨t8, s8, p8, q8, r8⟩⟩ := g
  refine ⟨fun t s x y => ?_, ?_, ?_, ?_, ?_⟩
  · rcases (e _ _).1 x with x | x
    · have := h0 _ _ x y; omega
    · have := g0 _ _ x y; omega
  · by_cases k : a ≤ a'
    · exact ⟨t1, s1, L p1, q1, by omega⟩
    · exact ⟨t5, s5, R p5, q5, by omega⟩
  · by_cases k : b' ≤ b
    · exact ⟨t2, s2, L p2, q2, by omega⟩
    · exact ⟨t6, s6, R p6, q6, by omega⟩
  · by_cases k : c ≤ c'
    · exact ⟨t3, s3, L p3, q3, by omega⟩
    · exact ⟨t7, s7, R p7, q7, by omega⟩
  · by_cases k : d' ≤ d
    · exact ⟨t4, s4, L p4, q4, by omega⟩
    · exact ⟨t8, s8, R p8, q8, by omega⟩
theorem Hull.first {D N D' P : Int → Int → Prop} {a b c d : Int} (h : NoneP D P) (g : Hull N P a b c d) (e : ∀ t h, D' t h ↔ D t h ∨ N t h) : Hull D' P a b c d := by
  have R : ∀ {t s : Int}, N t s → D' t s := fun x => (e _ _).2 (.inr x)
  obtain ⟨g0, ⟨t5, s5, p5, q5, r5⟩, ⟨t6, s6, p6, q6, r6⟩, ⟨t7, s7, p7, q7, r7⟩, ⟨t8, s8, p8, q8, r8⟩⟩ := g
  refine ⟨fun t s x y => ?_, ⟨t5, s5, R p5, q5, r5⟩, ⟨t6, s6, R p6, q6, r6⟩, ⟨t7, s7, R p7, q7, r7⟩, ⟨t8, s8, R p8, q8, r8⟩⟩
  rcases (e _ _).1 x with x | x
  · exact absurd y (h _ _ x)
  · exact g0 _ _ x y
theorem Hull.more {D N D' P : Int → Int → Prop} {a b c d : Int} (h : Hull D P a b c d) (g : NoneP N P) (e : ∀ t h, D' t h ↔ D t h ∨ N t h) : Hull D' P a b c d := by
  have L : ∀ {t s : Int}, D t s → D' t s := fun x => (e _ _).2 (.inl x)
  obtain ⟨h0, ⟨t1, s1, p1, q1, r1⟩, ⟨t2, s2, p2, q2, r2⟩, ⟨t3, s3, p3, q3, r3⟩, ⟨t4, s4, p4, q4, r4⟩⟩ := h
  refine ⟨fun t s x y => ?_, ⟨t1, s1, L p1, q1, r1⟩, ⟨t2, s2, L p2, q2, r2⟩, ⟨t3, s3, L p3, q3, r3⟩, ⟨t4, s4, L p4, q4, r4⟩⟩
  rcases (e _ _).1 x with x | x
  · exact h0 _ _ x y
  · exact absurd y (g _ _ x)
theorem NoneP.more {D N D' P : Int → Int → Prop} (h : NoneP D P) (g : NoneP N P) (e : ∀ t h, D' t h ↔ D t h ∨ N t h) : NoneP D' P := fun t s x => by
  rcases (e _ _).1 x with x | x
  · exact h _ _ x
  · exact g _ _ x

/-- Rounding up by a divisor above 0. -/
theorem up_iff {d m h : Int} (hm : 0 < m) : (if d.tmod m > 0 then d.tdiv m + 1 else d.tdiv m) ≤ h ↔ d ≤ m * h := by
  have e := Int.mul_tdiv_add_tmod d m
  have rr : -m < d.tmod m ∧ d.tmod m < m := by
    by_cases h0 : 0 ≤ d
    · rw [tmod_pos h0]; have := Int.emod_nonneg d (show m ≠ 0 by omega); have := Int.emod_lt_of_pos d hm; omega
    · rw [tmod_neg (by omega)]; have := Int.emod_nonneg (-d) (show m ≠ 0 by omega); have := Int.emod_lt_of_pos (-d) hm; omega
  generalize d.tdiv m = q at *
  generalize d.tmod m = r at *
  have key : ∀ {x y : Int}, x ≤ y → m * x ≤ m * y := fun h => Int.mul_le_mul_of_nonneg_left h (by omega)
  constructor
  · intro g
    split at g
    · have := key g; rw [Int.mul_add, Int.mul_one] at this; omega
    · have := key g; omega
  · intro g
    by_cases k : (if r > 0 then q + 1 else q) ≤ h
    · exact k
    · exfalso
      split at k
      · have := key (show h ≤ q by omega); omega
      · have := key (show h ≤ q - 1 by omega); rw [Int.mul_sub, Int.mul_one] at this; omega

theorem arm_rng {l th hd t h : Int} (hl : 1 ≤ l ∧ l ≤ 100000) (h1 : 0 ≤ th ∧ th ≤ 100000) (h2 : 0 ≤ hd ∧ hd ≤ 100000) (ht : 0 ≤ t ∧ t ≤ 1000) (hh : 0 ≤ h ∧ h ≤ 1000) : 1000 ≤ armV l th hd t h ∧ armV l th hd t h ≤ 300000000 := by
  have := mul_rng h1 ht
  have := mul_rng h2 hh
  unfold armV
  omega

/-- The arms that are told. -/
theorem told_iff {TL TH FL FH arm al ah : Int} (h1 : 0 ≤ TL) (h2 : 0 ≤ TH) (h3 : 0 ≤ FL) (h4 : 0 ≤ FH) (ha : al ≤ arm ∧ arm ≤ ah) : (1000 * TL < (FH + 1) * arm ∧ FL * arm ≤ 1000 * TH) ↔ (max al ((1000 * TL).tdiv (FH + 1) + 1) ≤ arm ∧ arm ≤ (if FL > 0 then min ah ((1000 * TH).tdiv FL) else ah)) := by
  rw [Int.tdiv_eq_ediv_of_nonneg (show 0 ≤ 1000 * TL by omega), Int.tdiv_eq_ediv_of_nonneg (show 0 ≤ 1000 * TH by omega)]
  have k1 : 1000 * TL / (FH + 1) < arm ↔ 1000 * TL < arm * (FH + 1) := Int.ediv_lt_iff_lt_mul (by omega)
  rw [Int.mul_comm (FH + 1) arm, Int.mul_comm FL arm]
  by_cases hf : FL > 0
  · have k2 : arm ≤ 1000 * TH / FL ↔ arm * FL ≤ 1000 * TH := Int.le_ediv_iff_mul_le hf
    rw [if_pos hf]
    omega
  · rw [if_neg hf]
    obtain rfl : FL = 0 := by omega
    rw [Int.mul_zero]
    omega
end Go.Proofs.Ytgnmdknbnkljbaa.Cx

/- acme/acmeref09.Can as an automaton. Made by tools/cxauto.py. -/
namespace Go.Proofs.Ytgnmdknbnkljbaa.Cx
set_option linter.unusedVariables false
set_option linter.unusedSimpArgs false
set_option maxRecDepth 100000
open Go Go.Proofs Go.RowKit

noncomputable abbrev acaCode : Code := funcCode Try.f79


abbrev acaN := Empty

abbrev acaR := Bool

noncomputable def acaD0 (a0 : Int) (a1 : Int) (a2 : Int) (a3 : Int) (a4 : Int) (a5 : Int) (a6 : Int) (a7 : Int) (a8 : Int) (a9 : Int) (a10 : Int) (a11 : Int) (a12 : Int) (a13 : Int) (a14 : Int) (a15 : Int) (a16 : Int) (a17 : Int) (a18 : Int) : DD (Lf acaN acaR) :=
 .ask (Cm.run Cm.leq (Ar.run Ar.mx IntKind.i64 a15 (Ar.run Ar.quo IntKind.i64 (Ar.run Ar.add IntKind.i64 (Ar.run Ar.mul IntKind.i64 a17 (Ar.run Ar.add IntKind.i64 (Ar.run Ar.add IntKind.i64 (Ar.run Ar.mul IntKind.i64 1000 a0) (Ar.run Ar.mul IntKind.i64 a1 a13)) (Ar.run Ar.mul IntKind.i64 a2 a14))) 999) 1000)) (Ar.run Ar.mn IntKind.i64 a16 (Ar.run Ar.sub IntKind.i64 (Ar.run Ar.quo IntKind.i64 (Ar.run Ar.add IntKind.i64 (Ar.run Ar.mul IntKind.i64 (Ar.run Ar.add IntKind.i64 a18 1) (Ar.run Ar.add IntKind.i64 (Ar.run Ar.add IntKind.i64 (Ar.run Ar.mul IntKind.i64 1000 a0) (Ar.run Ar.mul IntKind.i64 a1 a13)) (Ar.run Ar.mul IntKind.i64 a2 a14))) 999) 1000) 1)))
   (.leaf (.done true []))
   (.leaf (.done false []))

noncomputable def acaD (a0 : Int) (a1 : Int) (a2 : Int) (a3 : Int) (a4 : Int) (a5 : Int) (a6 : Int) (a7 : Int) (a8 : Int) (a9 : Int) (a10 : Int) (a11 : Int) (a12 : Int) (a13 : Int) (a14 : Int) (a15 : Int) (a16 : Int) (a17 : Int) (a18 : Int) : acaN → DD (Lf acaN acaR) := fun a => nomatch a

noncomputable def acaA (a0 : Int) (a1 : Int) (a2 : Int) (a3 : Int) (a4 : Int) (a5 : Int) (a6 : Int) (a7 : Int) (a8 : Int) (a9 : Int) (a10 : Int) (a11 : Int) (a12 : Int) (a13 : Int) (a14 : Int) (a15 : Int) (a16 : Int) (a17 : Int) (a18 : Int) : AF acaN acaR where
  code := acaCode
  base := 0
  nt := 30
  m := 400
  un := []
  W := []
  h0 := []
  args := [.agg [.int .i64 (.x a0), .int .i64 (.x a1), .int .i64 (.x a2), .int .i64 (.x a3), .int .i64 (.x a4), .int .i64 (.x a5), .int .i64 (.x a6), .int .i64 (.x a7), .int .i64 (.x a8), .int .i64 (.x a9), .int .i64 (.x a10), .int .i64 (.x a11), .int .i64 (.x a12)], .agg [.int .i64 (.x a13), .int .i64 (.x a14)], .agg [.int .i64 (.x a15), .int .i64 (.x a16)], .agg [.int .i64 (.x a17), .int .i64 (.x a18)]]
  res := (Try.f79).results.toList
  path := fun a => nomatch a
  pd := fun a => nomatch a
  D0 := acaD0 a0 a1 a2 a3 a4 a5 a6 a7 a8 a9 a10 a11 a12 a13 a14 a15 a16 a17 a18
  D := acaD a0 a1 a2 a3 a4 a5 a6 a7 a8 a9 a10 a11 a12 a13 a14 a15 a16 a17 a18
  rc := (fun v => .bool (.x v))
  rh := (fun v => [])
  rn := (fun v => 0)
  rx := (fun v => [])
  rgo := (fun _ => none)


theorem acastart (a0 : Int) (a1 : Int) (a2 : Int) (a3 : Int) (a4 : Int) (a5 : Int) (a6 : Int) (a7 : Int) (a8 : Int) (a9 : Int) (a10 : Int) (a11 : Int) (a12 : Int) (a13 : Int) (a14 : Int) (a15 : Int) (a16 : Int) (a17 : Int) (a18 : Int) : AF.edgeOk (acaA a0 a1 a2 a3 a4 a5 a6 a7 a8 a9 a10 a11 a12 a13 a14 a15 a16 a17 a18) (ctxOf Try.prog memo0) (acaD0 a0 a1 a2 a3 a4 a5 a6 a7 a8 a9 a10 a11 a12 a13 a14 a15 a16 a17 a18) (AF.run0 (acaA a0 a1 a2 a3 a4 a5 a6 a7 a8 a9 a10 a11 a12 a13 a14 a15 a16 a17 a18) (ctxOf Try.prog memo0)) := by unfold AF.edgeOk; kernel_rfl

theorem acaok (a0 : Int) (a1 : Int) (a2 : Int) (a3 : Int) (a4 : Int) (a5 : Int) (a6 : Int) (a7 : Int) (a8 : Int) (a9 : Int) (a10 : Int) (a11 : Int) (a12 : Int) (a13 : Int) (a14 : Int) (a15 : Int) (a16 : Int) (a17 : Int) (a18 : Int) : (acaA a0 a1 a2 a3 a4 a5 a6 a7 a8 a9 a10 a11 a12 a13 a14 a15 a16 a17 a18).Ok Try.prog (ctxOf Try.prog memo0) where
  regs := by kernel_rfl
  h0 := by kernel_rfl
  start := acastart a0 a1 a2 a3 a4 a5 a6 a7 a8 a9 a10 a11 a12 a13 a14 a15 a16 a17 a18
  node := fun a _ => nomatch a
  pd := fun a => nomatch a
  le := fun a => nomatch a
  rd := fun v => ⟨⟨fa_nil, fa_nil, fa_nil, rfl⟩, rfl⟩
  wb := rfl


theorem acahR {ρ : Env} (a0 : Int) (a1 : Int) (a2 : Int) (a3 : Int) (a4 : Int) (a5 : Int) (a6 : Int) (a7 : Int) (a8 : Int) (a9 : Int) (a10 : Int) (a11 : Int) (a12 : Int) (a13 : Int) (a14 : Int) (a15 : Int) (a16 : Int) (a17 : Int) (a18 : Int) (hM : MemoOk Try.prog (ctxOf Try.prog memo0) ρ) : ∀ X a q n D, FxOk ρ X → X.base = (acaA a0 a1 a2 a3 a4 a5 a6 a7 a8 a9 a10 a11 a12 a13 a14 a15 a16 a17 a18).base → X.nt = (acaA a0 a1 a2 a3 a4 a5 a6 a7 a8 a9 a10 a11 a12 a13 a14 a15 a16 a17 a18).nt → X.W = (acaA a0 a1 a2 a3 a4 a5 a6 a7 a8 a9 a10 a11 a12 a13 a14 a15 a16 a17 a18).W → (acaA a0 a1 a2 a3 a4 a5 a6 a7 a8 a9 a10 a11 a12 a13 a14 a15 a16 a17 a18).rgo a = some q → q n = some D → (acaA a0 a1 a2 a3 a4 a5 a6 a7 a8 a9 a10 a11 a12 a13 a14 a15 a16 a17 a18).RangeOk Try.prog ρ X a D := AF.noRange rfl

theorem acactr {ρ : Env} (a0 : Int) (a1 : Int) (a2 : Int) (a3 : Int) (a4 : Int) (a5 : Int) (a6 : Int) (a7 : Int) (a8 : Int) (a9 : Int) (a10 : Int) (a11 : Int) (a12 : Int) (a13 : Int) (a14 : Int) (a15 : Int) (a16 : Int) (a17 : Int) (a18 : Int) {n : Nat} {v : acaR} (hM : MemoOk Try.prog (ctxOf Try.prog memo0) ρ) (hv : (acaA a0 a1 a2 a3 a4 a5 a6 a7 a8 a9 a10 a11 a12 a13 a14 a15 a16 a17 a18).run n = some v) :
    Ctr Try.prog ρ 79 (acaA a0 a1 a2 a3 a4 a5 a6 a7 a8 a9 a10 a11 a12 a13 a14 a15 a16 a17 a18).args (acaA a0 a1 a2 a3 a4 a5 a6 a7 a8 a9 a10 a11 a12 a13 a14 a15 a16 a17 a18).H0 (acaA a0 a1 a2 a3 a4 a5 a6 a7 a8 a9 a10 a11 a12 a13 a14 a15 a16 a17 a18).base (acaA a0 a1 a2 a3 a4 a5 a6 a7 a8 a9 a10 a11 a12 a13 a14 a15 a16 a17 a18).W ((acaA a0 a1 a2 a3 a4 a5 a6 a7 a8 a9 a10 a11 a12 a13 a14 a15 a16 a17 a18).rc v) (putH (acaA a0 a1 a2 a3 a4 a5 a6 a7 a8 a9 a10 a11 a12 a13 a14 a15 a16 a17 a18).H0 ((acaA a0 a1 a2 a3 a4 a5 a6 a7 a8 a9 a10 a11 a12 a13 a14 a15 a16 a17 a18).rh v ++ (acaA a0 a1 a2 a3 a4 a5 a6 a7 a8 a9 a10 a11 a12 a13 a14 a15 a16 a17 a18).rx v)) ((acaA a0 a1 a2 a3 a4 a5 a6 a7 a8 a9 a10 a11 a12 a13 a14 a15 a16 a17 a18).rn v) :=
  AF.ctr try_ok hM (acaok a0 a1 a2 a3 a4 a5 a6 a7 a8 a9 a10 a11 a12 a13 a14 a15 a16 a17 a18) (fn := Try.f79) Try.func79 rfl rfl (Nat.le_of_ble_eq_true rfl) rfl (acahR a0 a1 a2 a3 a4 a5 a6 a7 a8 a9 a10 a11 a12 a13 a14 a15 a16 a17 a18 hM) hv


theorem acamem {ρ : Env} : MemoOk Try.prog (ctxOf Try.prog memo0) ρ := memo0_ok


abbrev acaP : List AP := [.agg [.int .i64, .int .i64, .int .i64, .int .i64, .int .i64, .int .i64, .int .i64, .int .i64, .int .i64, .int .i64, .int .i64, .int .i64, .int .i64], .agg [.int .i64, .int .i64], .agg [.int .i64, .int .i64], .agg [.int .i64, .int .i64]]
noncomputable def acaF (v : AV) : AF acaN acaR := acaA (v.i.getD 0 0) (v.i.getD 1 0) (v.i.getD 2 0) (v.i.getD 3 0) (v.i.getD 4 0) (v.i.getD 5 0) (v.i.getD 6 0) (v.i.getD 7 0) (v.i.getD 8 0) (v.i.getD 9 0) (v.i.getD 10 0) (v.i.getD 11 0) (v.i.getD 12 0) (v.i.getD 13 0) (v.i.getD 14 0) (v.i.getD 15 0) (v.i.getD 16 0) (v.i.getD 17 0) (v.i.getD 18 0)
theorem acaknown {ρ : Env} (hM : MemoOk Try.prog (ctxOf Try.prog memo0) ρ) : KnownA Try.prog ρ 79 acaP acaF where
  fn := ⟨Try.f79, Try.func79, rfl⟩
  args := fun v => rfl
  plain := fun v r => rfl
  ctr := fun v n r h => acactr (v.i.getD 0 0) (v.i.getD 1 0) (v.i.getD 2 0) (v.i.getD 3 0) (v.i.getD 4 0) (v.i.getD 5 0) (v.i.getD 6 0) (v.i.getD 7 0) (v.i.getD 8 0) (v.i.getD 9 0) (v.i.getD 10 0) (v.i.getD 11 0) (v.i.getD 12 0) (v.i.getD 13 0) (v.i.getD 14 0) (v.i.getD 15 0) (v.i.getD 16 0) (v.i.getD 17 0) (v.i.getD 18 0) hM h

end Go.Proofs.Ytgnmdknbnkljbaa.Cx

/- (acme/bolt.kind).told as an automaton. Made by tools/cxauto.py. -/
namespace Go.Proofs.Ytgnmdknbnkljbaa.Cx
set_option linter.unusedVariables false
set_option linter.unusedSimpArgs false
set_option maxRecDepth 100000
open Go Go.Proofs Go.RowKit

noncomputable abbrev atoCode : Code := funcCode Try.f75


abbrev atoN := Empty

abbrev atoR := Int × Int

noncomputable def atoD0 (a0 : Int) (a1 : Int) (a2 : Int) (a3 : Int) (a4 : Int) (a5 : Int) (a6 : Int) (a7 : Int) (a8 : Int) (a9 : Int) (a10 : Int) (a11 : Int) (a12 : Int) (a13 : Int) (a14 : Int) (a15 : Int) (a16 : Int) : DD (Lf atoN atoR) :=
 .must (Cm.run Cm.neq (Ar.run Ar.add IntKind.i64 a16 1) 0)
   (.ask (Cm.run Cm.gtr a15 0)
   (.must (Cm.run Cm.neq a15 0)
   (.leaf (.done (Ar.run Ar.mx IntKind.i64 (Ar.run Ar.add IntKind.i64 (Ar.run Ar.add IntKind.i64 (Ar.run Ar.mul IntKind.i64 a1 a3) (Ar.run Ar.mul IntKind.i64 a2 a5)) (Ar.run Ar.mul IntKind.i64 1000 a0)) (Ar.run Ar.add IntKind.i64 (Ar.run Ar.quo IntKind.i64 (Ar.run Ar.mul IntKind.i64 1000 a13) (Ar.run Ar.add IntKind.i64 a16 1)) 1), Ar.run Ar.mn IntKind.i64 (Ar.run Ar.add IntKind.i64 (Ar.run Ar.add IntKind.i64 (Ar.run Ar.mul IntKind.i64 a1 a4) (Ar.run Ar.mul IntKind.i64 a2 a6)) (Ar.run Ar.mul IntKind.i64 1000 a0)) (Ar.run Ar.quo IntKind.i64 (Ar.run Ar.mul IntKind.i64 1000 a14) a15)) [])))
   (.leaf (.done (Ar.run Ar.mx IntKind.i64 (Ar.run Ar.add IntKind.i64 (Ar.run Ar.add IntKind.i64 (Ar.run Ar.mul IntKind.i64 a1 a3) (Ar.run Ar.mul IntKind.i64 a2 a5)) (Ar.run Ar.mul IntKind.i64 1000 a0)) (Ar.run Ar.add IntKind.i64 (Ar.run Ar.quo IntKind.i64 (Ar.run Ar.mul IntKind.i64 1000 a13) (Ar.run Ar.add IntKind.i64 a16 1)) 1), Ar.run Ar.add IntKind.i64 (Ar.run Ar.add IntKind.i64 (Ar.run Ar.mul IntKind.i64 a1 a4) (Ar.run Ar.mul IntKind.i64 a2 a6)) (Ar.run Ar.mul IntKind.i64 1000 a0)) [])))

noncomputable def atoD (a0 : Int) (a1 : Int) (a2 : Int) (a3 : Int) (a4 : Int) (a5 : Int) (a6 : Int) (a7 : Int) (a8 : Int) (a9 : Int) (a10 : Int) (a11 : Int) (a12 : Int) (a13 : Int) (a14 : Int) (a15 : Int) (a16 : Int) : atoN → DD (Lf atoN atoR) := fun a => nomatch a

noncomputable def atoA (a0 : Int) (a1 : Int) (a2 : Int) (a3 : Int) (a4 : Int) (a5 : Int) (a6 : Int) (a7 : Int) (a8 : Int) (a9 : Int) (a10 : Int) (a11 : Int) (a12 : Int) (a13 : Int) (a14 : Int) (a15 : Int) (a16 : Int) : AF atoN atoR where
  code := atoCode
  base := 0
  nt := 36
  m := 400
  un := []
  W := []
  h0 := []
  args := [.agg [.int .i64 (.x a0), .int .i64 (.x a1), .int .i64 (.x a2), .int .i64 (.x a3), .int .i64 (.x a4), .int .i64 (.x a5), .int .i64 (.x a6), .int .i64 (.x a7), .int .i64 (.x a8), .int .i64 (.x a9), .int .i64 (.x a10), .int .i64 (.x a11), .int .i64 (.x a12)], .agg [.int .i64 (.x a13), .int .i64 (.x a14)], .agg [.int .i64 (.x a15), .int .i64 (.x a16)]]
  res := (Try.f75).results.toList
  path := fun a => nomatch a
  pd := fun a => nomatch a
  D0 := atoD0 a0 a1 a2 a3 a4 a5 a6 a7 a8 a9 a10 a11 a12 a13 a14 a15 a16
  D := atoD a0 a1 a2 a3 a4 a5 a6 a7 a8 a9 a10 a11 a12 a13 a14 a15 a16
  rc := (fun v => .agg [.int .i64 (.x v.1), .int .i64 (.x v.2)])
  rh := (fun v => [])
  rn := (fun v => 0)
  rx := (fun v => [])
  rgo := (fun _ => none)


theorem atostart (a0 : Int) (a1 : Int) (a2 : Int) (a3 : Int) (a4 : Int) (a5 : Int) (a6 : Int) (a7 : Int) (a8 : Int) (a9 : Int) (a10 : Int) (a11 : Int) (a12 : Int) (a13 : Int) (a14 : Int) (a15 : Int) (a16 : Int) : AF.edgeOk (atoA a0 a1 a2 a3 a4 a5 a6 a7 a8 a9 a10 a11 a12 a13 a14 a15 a16) (ctxOf Try.prog memo0) (atoD0 a0 a1 a2 a3 a4 a5 a6 a7 a8 a9 a10 a11 a12 a13 a14 a15 a16) (AF.run0 (atoA a0 a1 a2 a3 a4 a5 a6 a7 a8 a9 a10 a11 a12 a13 a14 a15 a16) (ctxOf Try.prog memo0)) := by unfold AF.edgeOk; kernel_rfl

theorem atook (a0 : Int) (a1 : Int) (a2 : Int) (a3 : Int) (a4 : Int) (a5 : Int) (a6 : Int) (a7 : Int) (a8 : Int) (a9 : Int) (a10 : Int) (a11 : Int) (a12 : Int) (a13 : Int) (a14 : Int) (a15 : Int) (a16 : Int) : (atoA a0 a1 a2 a3 a4 a5 a6 a7 a8 a9 a10 a11 a12 a13 a14 a15 a16).Ok Try.prog (ctxOf Try.prog memo0) where
  regs := by kernel_rfl
  h0 := by kernel_rfl
  start := atostart a0 a1 a2 a3 a4 a5 a6 a7 a8 a9 a10 a11 a12 a13 a14 a15 a16
  node := fun a _ => nomatch a
  pd := fun a => nomatch a
  le := fun a => nomatch a
  rd := fun v => ⟨⟨fa_nil, fa_nil, fa_nil, rfl⟩, rfl⟩
  wb := rfl


theorem atohR {ρ : Env} (a0 : Int) (a1 : Int) (a2 : Int) (a3 : Int) (a4 : Int) (a5 : Int) (a6 : Int) (a7 : Int) (a8 : Int) (a9 : Int) (a10 : Int) (a11 : Int) (a12 : Int) (a13 : Int) (a14 : Int) (a15 : Int) (a16 : Int) (hM : MemoOk Try.prog (ctxOf Try.prog memo0) ρ) : ∀ X a q n D, FxOk ρ X → X.base = (atoA a0 a1 a2 a3 a4 a5 a6 a7 a8 a9 a10 a11 a12 a13 a14 a15 a16).base → X.nt = (atoA a0 a1 a2 a3 a4 a5 a6 a7 a8 a9 a10 a11 a12 a13 a14 a15 a16).nt → X.W = (atoA a0 a1 a2 a3 a4 a5 a6 a7 a8 a9 a10 a11 a12 a13 a14 a15 a16).W → (atoA a0 a1 a2 a3 a4 a5 a6 a7 a8 a9 a10 a11 a12 a13 a14 a15 a16).rgo a = some q → q n = some D → (atoA a0 a1 a2 a3 a4 a5 a6 a7 a8 a9 a10 a11 a12 a13 a14 a15 a16).RangeOk Try.prog ρ X a D := AF.noRange rfl

theorem atoctr {ρ : Env} (a0 : Int) (a1 : Int) (a2 : Int) (a3 : Int) (a4 : Int) (a5 : Int) (a6 : Int) (a7 : Int) (a8 : Int) (a9 : Int) (a10 : Int) (a11 : Int) (a12 : Int) (a13 : Int) (a14 : Int) (a15 : Int) (a16 : Int) {n : Nat} {v : atoR} (hM : MemoOk Try.prog (ctxOf Try.prog memo0) ρ) (hv : (atoA a0 a1 a2 a3 a4 a5 a6 a7 a8 a9 a10 a11 a12 a13 a14 a15 a16).run n = some v) :
    Ctr Try.prog ρ 75 (atoA a0 a1 a2 a3 a4 a5 a6 a7 a8 a9 a10 a11 a12 a13 a14 a15 a16).args (atoA a0 a1 a2 a3 a4 a5 a6 a7 a8 a9 a10 a11 a12 a13 a14 a15 a16).H0 (atoA a0 a1 a2 a3 a4 a5 a6 a7 a8 a9 a10 a11 a12 a13 a14 a15 a16).base (atoA a0 a1 a2 a3 a4 a5 a6 a7 a8 a9 a10 a11 a12 a13 a14 a15 a16).W ((atoA a0 a1 a2 a3 a4 a5 a6 a7 a8 a9 a10 a11 a12 a13 a14 a15 a16).rc v) (putH (atoA a0 a1 a2 a3 a4 a5 a6 a7 a8 a9 a10 a11 a12 a13 a14 a15 a16).H0 ((atoA a0 a1 a2 a3 a4 a5 a6 a7 a8 a9 a10 a11 a12 a13 a14 a15 a16).rh v ++ (atoA a0 a1 a2 a3 a4 a5 a6 a7 a8 a9 a10 a11 a12 a13 a14 a15 a16).rx v)) ((atoA a0 a1 a2 a3 a4 a5 a6 a7 a8 a9 a10 a11 a12 a13 a14 a15 a16).rn v) :=
  AF.ctr try_ok hM (atook a0 a1 a2 a3 a4 a5 a6 a7 a8 a9 a10 a11 a12 a13 a14 a15 a16) (fn := Try.f75) Try.func75 rfl rfl (Nat.le_of_ble_eq_true rfl) rfl (atohR a0 a1 a2 a3 a4 a5 a6 a7 a8 a9 a10 a11 a12 a13 a14 a15 a16 hM) hv


theorem atomem {ρ : Env} : MemoOk Try.prog (ctxOf Try.prog memo0) ρ := memo0_ok


abbrev atoP : List AP := [.agg [.int .i64, .int .i64, .int .i64, .int .i64, .int .i64, .int .i64, .int .i64, .int .i64, .int .i64, .int .i64, .int .i64, .int .i64, .int .i64], .agg [.int .i64, .int .i64], .agg [.int .i64, .int .i64]]
noncomputable def atoF (v : AV) : AF atoN atoR := atoA (v.i.getD 0 0) (v.i.getD 1 0) (v.i.getD 2 0) (v.i.getD 3 0) (v.i.getD 4 0) (v.i.getD 5 0) (v.i.getD 6 0) (v.i.getD 7 0) (v.i.getD 8 0) (v.i.getD 9 0) (v.i.getD 10 0) (v.i.getD 11 0) (v.i.getD 12 0) (v.i.getD 13 0) (v.i.getD 14 0) (v.i.getD 15 0) (v.i.getD 16 0)
theorem atoknown {ρ : Env} (hM : MemoOk Try.prog (ctxOf Try.prog memo0) ρ) : KnownA Try.prog ρ 75 atoP atoF where
  fn := ⟨Try.f75, Try.func75, rfl⟩
  args := fun v => rfl
  plain := fun v r => rfl
  ctr := fun v n r h => atoctr (v.i.getD 0 0) (v.i.getD 1 0) (v.i.getD 2 0) (v.i.getD 3 0) (v.i.getD 4 0) (v.i.getD 5 0) (v.i.getD 6 0) (v.i.getD 7 0) (v.i.getD 8 0) (v.i.getD 9 0) (v.i.getD 10 0) (v.i.getD 11 0) (v.i.getD 12 0) (v.i.getD 13 0) (v.i.getD 14 0) (v.i.getD 15 0) (v.i.getD 16 0) hM h

end Go.Proofs.Ytgnmdknbnkljbaa.Cx

/- (acme/bolt.kind).heads as an automaton. Made by tools/cxauto.py. -/
namespace Go.Proofs.Ytgnmdknbnkljbaa.Cx
set_option linter.unusedVariables false
set_option linter.unusedSimpArgs false
set_option maxRecDepth 100000
open Go Go.Proofs Go.RowKit

noncomputable abbrev aheCode : Code := funcCode Try.f77


abbrev aheN := Empty

abbrev aheR := Int × Int

noncomputable def aheD0 (a0 : Int) (a1 : Int) (a2 : Int) (a3 : Int) (a4 : Int) (a5 : Int) (a6 : Int) (a7 : Int) (a8 : Int) (a9 : Int) (a10 : Int) (a11 : Int) (a12 : Int) (a13 : Int) (a14 : Int) (a15 : Int) : DD (Lf aheN aheR) :=
 .ask (Cm.run Cm.gtr a2 0)
   (.must (Cm.run Cm.neq a2 0)
   (.must (Cm.run Cm.neq a2 0)
   (.ask (Cm.run Cm.gtr (Ar.run Ar.rem IntKind.i64 (Ar.run Ar.add IntKind.i64 a13 (Ar.run Ar.sub IntKind.i64 0 (Ar.run Ar.add IntKind.i64 (Ar.run Ar.mul IntKind.i64 1000 a0) (Ar.run Ar.add IntKind.i64 (Ar.run Ar.mul IntKind.i64 a1 a15) (Ar.run Ar.mul IntKind.i64 a2 0))))) a2) 0)
   (.must (Cm.run Cm.neq a2 0)
   (.must (Cm.run Cm.neq a2 0)
   (.ask (Cm.run Cm.gtr (Ar.run Ar.rem IntKind.i64 (Ar.run Ar.sub IntKind.i64 0 (Ar.run Ar.add IntKind.i64 a14 (Ar.run Ar.sub IntKind.i64 0 (Ar.run Ar.add IntKind.i64 (Ar.run Ar.mul IntKind.i64 1000 a0) (Ar.run Ar.add IntKind.i64 (Ar.run Ar.mul IntKind.i64 a1 a15) (Ar.run Ar.mul IntKind.i64 a2 0)))))) a2) 0)
   (.leaf (.done (Ar.run Ar.mx IntKind.i64 a5 (Ar.run Ar.add IntKind.i64 (Ar.run Ar.quo IntKind.i64 (Ar.run Ar.add IntKind.i64 a13 (Ar.run Ar.sub IntKind.i64 0 (Ar.run Ar.add IntKind.i64 (Ar.run Ar.mul IntKind.i64 1000 a0) (Ar.run Ar.add IntKind.i64 (Ar.run Ar.mul IntKind.i64 a1 a15) (Ar.run Ar.mul IntKind.i64 a2 0))))) a2) 1), Ar.run Ar.mn IntKind.i64 a6 (Ar.run Ar.sub IntKind.i64 0 (Ar.run Ar.add IntKind.i64 (Ar.run Ar.quo IntKind.i64 (Ar.run Ar.sub IntKind.i64 0 (Ar.run Ar.add IntKind.i64 a14 (Ar.run Ar.sub IntKind.i64 0 (Ar.run Ar.add IntKind.i64 (Ar.run Ar.mul IntKind.i64 1000 a0) (Ar.run Ar.add IntKind.i64 (Ar.run Ar.mul IntKind.i64 a1 a15) (Ar.run Ar.mul IntKind.i64 a2 0)))))) a2) 1))) []))
   (.leaf (.done (Ar.run Ar.mx IntKind.i64 a5 (Ar.run Ar.add IntKind.i64 (Ar.run Ar.quo IntKind.i64 (Ar.run Ar.add IntKind.i64 a13 (Ar.run Ar.sub IntKind.i64 0 (Ar.run Ar.add IntKind.i64 (Ar.run Ar.mul IntKind.i64 1000 a0) (Ar.run Ar.add IntKind.i64 (Ar.run Ar.mul IntKind.i64 a1 a15) (Ar.run Ar.mul IntKind.i64 a2 0))))) a2) 1), Ar.run Ar.mn IntKind.i64 a6 (Ar.run Ar.sub IntKind.i64 0 (Ar.run Ar.quo IntKind.i64 (Ar.run Ar.sub IntKind.i64 0 (Ar.run Ar.add IntKind.i64 a14 (Ar.run Ar.sub IntKind.i64 0 (Ar.run Ar.add IntKind.i64 (Ar.run Ar.mul IntKind.i64 1000 a0) (Ar.run Ar.add IntKind.i64 (Ar.run Ar.mul IntKind.i64 a1 a15) (Ar.run Ar.mul IntKind.i64 a2 0)))))) a2))) [])))))
   (.must (Cm.run Cm.neq a2 0)
   (.must (Cm.run Cm.neq a2 0)
   (.ask (Cm.run Cm.gtr (Ar.run Ar.rem IntKind.i64 (Ar.run Ar.sub IntKind.i64 0 (Ar.run Ar.add IntKind.i64 a14 (Ar.run Ar.sub IntKind.i64 0 (Ar.run Ar.add IntKind.i64 (Ar.run Ar.mul IntKind.i64 1000 a0) (Ar.run Ar.add IntKind.i64 (Ar.run Ar.mul IntKind.i64 a1 a15) (Ar.run Ar.mul IntKind.i64 a2 0)))))) a2) 0)
   (.leaf (.done (Ar.run Ar.mx IntKind.i64 a5 (Ar.run Ar.quo IntKind.i64 (Ar.run Ar.add IntKind.i64 a13 (Ar.run Ar.sub IntKind.i64 0 (Ar.run Ar.add IntKind.i64 (Ar.run Ar.mul IntKind.i64 1000 a0) (Ar.run Ar.add IntKind.i64 (Ar.run Ar.mul IntKind.i64 a1 a15) (Ar.run Ar.mul IntKind.i64 a2 0))))) a2), Ar.run Ar.mn IntKind.i64 a6 (Ar.run Ar.sub IntKind.i64 0 (Ar.run Ar.add IntKind.i64 (Ar.run Ar.quo IntKind.i64 (Ar.run Ar.sub IntKind.i64 0 (Ar.run Ar.add IntKind.i64 a14 (Ar.run Ar.sub IntKind.i64 0 (Ar.run Ar.add IntKind.i64 (Ar.run Ar.mul IntKind.i64 1000 a0) (Ar.run Ar.add IntKind.i64 (Ar.run Ar.mul IntKind.i64 a1 a15) (Ar.run Ar.mul IntKind.i64 a2 0)))))) a2) 1))) []))
   (.leaf (.done (Ar.run Ar.mx IntKind.i64 a5 (Ar.run Ar.quo IntKind.i64 (Ar.run Ar.add IntKind.i64 a13 (Ar.run Ar.sub IntKind.i64 0 (Ar.run Ar.add IntKind.i64 (Ar.run Ar.mul IntKind.i64 1000 a0) (Ar.run Ar.add IntKind.i64 (Ar.run Ar.mul IntKind.i64 a1 a15) (Ar.run Ar.mul IntKind.i64 a2 0))))) a2), Ar.run Ar.mn IntKind.i64 a6 (Ar.run Ar.sub IntKind.i64 0 (Ar.run Ar.quo IntKind.i64 (Ar.run Ar.sub IntKind.i64 0 (Ar.run Ar.add IntKind.i64 a14 (Ar.run Ar.sub IntKind.i64 0 (Ar.run Ar.add IntKind.i64 (Ar.run Ar.mul IntKind.i64 1000 a0) (Ar.run Ar.add IntKind.i64 (Ar.run Ar.mul IntKind.i64 a1 a15) (Ar.run Ar.mul IntKind.i64 a2 0)))))) a2))) []))))))))
   (.ask (Cm.run Cm.lss 0 (Ar.run Ar.add IntKind.i64 a13 (Ar.run Ar.sub IntKind.i64 0 (Ar.run Ar.add IntKind.i64 (Ar.run Ar.mul IntKind.i64 1000 a0) (Ar.run Ar.add IntKind.i64 (Ar.run Ar.mul IntKind.i64 a1 a15) (Ar.run Ar.mul IntKind.i64 a2 0))))))
   (.leaf (.done (1000, 0) []))
   (.ask (Cm.run Cm.gtr 0 (Ar.run Ar.add IntKind.i64 a14 (Ar.run Ar.sub IntKind.i64 0 (Ar.run Ar.add IntKind.i64 (Ar.run Ar.mul IntKind.i64 1000 a0) (Ar.run Ar.add IntKind.i64 (Ar.run Ar.mul IntKind.i64 a1 a15) (Ar.run Ar.mul IntKind.i64 a2 0))))))
   (.leaf (.done (1000, 0) []))
   (.leaf (.done (a5, a6) []))))

noncomputable def aheD (a0 : Int) (a1 : Int) (a2 : Int) (a3 : Int) (a4 : Int) (a5 : Int) (a6 : Int) (a7 : Int) (a8 : Int) (a9 : Int) (a10 : Int) (a11 : Int) (a12 : Int) (a13 : Int) (a14 : Int) (a15 : Int) : aheN → DD (Lf aheN aheR) := fun a => nomatch a

noncomputable def aheA (a0 : Int) (a1 : Int) (a2 : Int) (a3 : Int) (a4 : Int) (a5 : Int) (a6 : Int) (a7 : Int) (a8 : Int) (a9 : Int) (a10 : Int) (a11 : Int) (a12 : Int) (a13 : Int) (a14 : Int) (a15 : Int) : AF aheN aheR where
  code := aheCode
  base := 0
  nt := 46
  m := 400
  un := []
  W := []
  h0 := []
  args := [.agg [.int .i64 (.x a0), .int .i64 (.x a1), .int .i64 (.x a2), .int .i64 (.x a3), .int .i64 (.x a4), .int .i64 (.x a5), .int .i64 (.x a6), .int .i64 (.x a7), .int .i64 (.x a8), .int .i64 (.x a9), .int .i64 (.x a10), .int .i64 (.x a11), .int .i64 (.x a12)], .agg [.int .i64 (.x a13), .int .i64 (.x a14)], .int .i64 (.x a15)]
  res := (Try.f77).results.toList
  path := fun a => nomatch a
  pd := fun a => nomatch a
  D0 := aheD0 a0 a1 a2 a3 a4 a5 a6 a7 a8 a9 a10 a11 a12 a13 a14 a15
  D := aheD a0 a1 a2 a3 a4 a5 a6 a7 a8 a9 a10 a11 a12 a13 a14 a15
  rc := (fun v => .agg [.int .i64 (.x v.1), .int .i64 (.x v.2)])
  rh := (fun v => [])
  rn := (fun v => 0)
  rx := (fun v => [])
  rgo := (fun _ => none)


theorem ahestart (a0 : Int) (a1 : Int) (a2 : Int) (a3 : Int) (a4 : Int) (a5 : Int) (a6 : Int) (a7 : Int) (a8 : Int) (a9 : Int) (a10 : Int) (a11 : Int) (a12 : Int) (a13 : Int) (a14 : Int) (a15 : Int) : AF.edgeOk (aheA a0 a1 a2 a3 a4 a5 a6 a7 a8 a9 a10 a11 a12 a13 a14 a15) (ctxOf Try.prog memo0) (aheD0 a0 a1 a2 a3 a4 a5 a6 a7 a8 a9 a10 a11 a12 a13 a14 a15) (AF.run0 (aheA a0 a1 a2 a3 a4 a5 a6 a7 a8 a9 a10 a11 a12 a13 a14 a15) (ctxOf Try.prog memo0)) := by unfold AF.edgeOk; kernel_rfl

theorem aheok (a0 : Int) (a1 : Int) (a2 : Int) (a3 : Int) (a4 : Int) (a5 : Int) (a6 : Int) (a7 : Int) (a8 : Int) (a9 : Int) (a10 : Int) (a11 : Int) (a12 : Int) (a13 : Int) (a14 : Int) (a15 : Int) : (aheA a0 a1 a2 a3 a4 a5 a6 a7 a8 a9 a10 a11 a12 a13 a14 a15).Ok Try.prog (ctxOf Try.prog memo0) where
  regs := by kernel_rfl
  h0 := by kernel_rfl
  start := ahestart a0 a1 a2 a3 a4 a5 a6 a7 a8 a9 a10 a11 a12 a13 a14 a15
  node := fun a _ => nomatch a
  pd := fun a => nomatch a
  le := fun a => nomatch a
  rd := fun v => ⟨⟨fa_nil, fa_nil, fa_nil, rfl⟩, rfl⟩
  wb := rfl


theorem ahehR {ρ : Env} (a0 : Int) (a1 : Int) (a2 : Int) (a3 : Int) (a4 : Int) (a5 : Int) (a6 : Int) (a7 : Int) (a8 : Int) (a9 : Int) (a10 : Int) (a11 : Int) (a12 : Int) (a13 : Int) (a14 : Int) (a15 : Int) (hM : MemoOk Try.prog (ctxOf Try.prog memo0) ρ) : ∀ X a q n D, FxOk ρ X → X.base = (aheA a0 a1 a2 a3 a4 a5 a6 a7 a8 a9 a10 a11 a12 a13 a14 a15).base → X.nt = (aheA a0 a1 a2 a3 a4 a5 a6 a7 a8 a9 a10 a11 a12 a13 a14 a15).nt → X.W = (aheA a0 a1 a2 a3 a4 a5 a6 a7 a8 a9 a10 a11 a12 a13 a14 a15).W → (aheA a0 a1 a2 a3 a4 a5 a6 a7 a8 a9 a10 a11 a12 a13 a14 a15).rgo a = some q → q n = some D → (aheA a0 a1 a2 a3 a4 a5 a6 a7 a8 a9 a10 a11 a12 a13 a14 a15).RangeOk Try.prog ρ X a D := AF.noRange rfl

theorem ahectr {ρ : Env} (a0 : Int) (a1 : Int) (a2 : Int) (a3 : Int) (a4 : Int) (a5 : Int) (a6 : Int) (a7 : Int) (a8 : Int) (a9 : Int) (a10 : Int) (a11 : Int) (a12 : Int) (a13 : Int) (a14 : Int) (a15 : Int) {n : Nat} {v : aheR} (hM : MemoOk Try.prog (ctxOf Try.prog memo0) ρ) (hv : (aheA a0 a1 a2 a3 a4 a5 a6 a7 a8 a9 a10 a11 a12 a13 a14 a15).run n = some v) :
    Ctr Try.prog ρ 77 (aheA a0 a1 a2 a3 a4 a5 a6 a7 a8 a9 a10 a11 a12 a13 a14 a15).args (aheA a0 a1 a2 a3 a4 a5 a6 a7 a8 a9 a10 a11 a12 a13 a14 a15).H0 (aheA a0 a1 a2 a3 a4 a5 a6 a7 a8 a9 a10 a11 a12 a13 a14 a15).base (aheA a0 a1 a2 a3 a4 a5 a6 a7 a8 a9 a10 a11 a12 a13 a14 a15).W ((aheA a0 a1 a2 a3 a4 a5 a6 a7 a8 a9 a10 a11 a12 a13 a14 a15).rc v) (putH (aheA a0 a1 a2 a3 a4 a5 a6 a7 a8 a9 a10 a11 a12 a13 a14 a15).H0 ((aheA a0 a1 a2 a3 a4 a5 a6 a7 a8 a9 a10 a11 a12 a13 a14 a15).rh v ++ (aheA a0 a1 a2 a3 a4 a5 a6 a7 a8 a9 a10 a11 a12 a13 a14 a15).rx v)) ((aheA a0 a1 a2 a3 a4 a5 a6 a7 a8 a9 a10 a11 a12 a13 a14 a15).rn v) :=
  AF.ctr try_ok hM (aheok a0 a1 a2 a3 a4 a5 a6 a7 a8 a9 a10 a11 a12 a13 a14 a15) (fn := Try.f77) Try.func77 rfl rfl (Nat.le_of_ble_eq_true rfl) rfl (ahehR a0 a1 a2 a3 a4 a5 a6 a7 a8 a9 a10 a11 a12 a13 a14 a15 hM) hv


theorem ahemem {ρ : Env} : MemoOk Try.prog (ctxOf Try.prog memo0) ρ := memo0_ok


abbrev aheP : List AP := [.agg [.int .i64, .int .i64, .int .i64, .int .i64, .int .i64, .int .i64, .int .i64, .int .i64, .int .i64, .int .i64, .int .i64, .int .i64, .int .i64], .agg [.int .i64, .int .i64], .int .i64]
noncomputable def aheF (v : AV) : AF aheN aheR := aheA (v.i.getD 0 0) (v.i.getD 1 0) (v.i.getD 2 0) (v.i.getD 3 0) (v.i.getD 4 0) (v.i.getD 5 0) (v.i.getD 6 0) (v.i.getD 7 0) (v.i.getD 8 0) (v.i.getD 9 0) (v.i.getD 10 0) (v.i.getD 11 0) (v.i.getD 12 0) (v.i.getD 13 0) (v.i.getD 14 0) (v.i.getD 15 0)
theorem aheknown {ρ : Env} (hM : MemoOk Try.prog (ctxOf Try.prog memo0) ρ) : KnownA Try.prog ρ 77 aheP aheF where
  fn := ⟨Try.f77, Try.func77, rfl⟩
  args := fun v => rfl
  plain := fun v r => rfl
  ctr := fun v n r h => ahectr (v.i.getD 0 0) (v.i.getD 1 0) (v.i.getD 2 0) (v.i.getD 3 0) (v.i.getD 4 0) (v.i.getD 5 0) (v.i.getD 6 0) (v.i.getD 7 0) (v.i.getD 8 0) (v.i.getD 9 0) (v.i.getD 10 0) (v.i.getD 11 0) (v.i.getD 12 0) (v.i.getD 13 0) (v.i.getD 14 0) (v.i.getD 15 0) hM h

end Go.Proofs.Ytgnmdknbnkljbaa.Cx

/- What is told of frictions: acmeref09.Can, bolt.kind.told and heads. Made by tools/gen_bcon.py. -/
namespace Go.Proofs.Ytgnmdknbnkljbaa.Cx
set_option linter.unusedVariables false
set_option linter.unusedSimpArgs false
set_option maxRecDepth 100000
set_option maxHeartbeats 4000000
open Go Go.RowKit

theorem aca_val (a0 a1 a2 a3 a4 a5 a6 a7 a8 a9 a10 a11 a12 a13 a14 a15 a16 a17 a18 : Int) (h : KindP a0 a1 a2 a3 a4 a5 a6 a7 a8 a9 a10 a11 a12) (h1 : 0 ≤ a13 ∧ a13 ≤ 1000) (h2 : 0 ≤ a14 ∧ a14 ≤ 1000) (h3 : 0 ≤ a15 ∧ a15 ≤ a16 ∧ a16 ≤ 10000000000000) (h4 : 0 ≤ a17 ∧ a17 ≤ a18 ∧ a18 ≤ 100000000) : AF.fin (acaA a0 a1 a2 a3 a4 a5 a6 a7 a8 a9 a10 a11 a12 a13 a14 a15 a16 a17 a18) = true ∧ (AF.val (acaA a0 a1 a2 a3 a4 a5 a6 a7 a8 a9 a10 a11 a12 a13 a14 a15 a16 a17 a18) = true ↔ canP a0 a1 a2 a15 a16 a17 a18 a13 a14) :=
  AF.val_sat (Inv := fun _ => False) (E := fun (v : acaR) => v = true ↔ canP a0 a1 a2 a15 a16 a17 a18 a13 a14) (fun _ => 0) (fun _ => rfl) (fun a => nomatch a) (by
    unfold KindP at h
    have m1 := mul_rng (a := a1) (b := a13) (A := 100000) (B := 1000) (by omega) h1
    have m2 := mul_rng (a := a2) (b := a14) (A := 100000) (B := 1000) (by omega) h2
    have e : Ar.run Ar.add IntKind.i64 (Ar.run Ar.add IntKind.i64 (Ar.run Ar.mul IntKind.i64 1000 a0) (Ar.run Ar.mul IntKind.i64 a1 a13)) (Ar.run Ar.mul IntKind.i64 a2 a14) = armV a0 a1 a2 a13 a14 := by
      rw [arMul (a := 1000) (by omega), arMul (a := a1) (by omega), arMul (a := a2) (by omega), arAdd (a := 1000 * a0) (by omega), arAdd (by omega)]; rfl
    have ha := arm_rng (l := a0) (th := a1) (hd := a2) (t := a13) (h := a14) (by omega) (by omega) (by omega) h1 h2
    show DD.sat _ _ (acaD0 a0 a1 a2 a3 a4 a5 a6 a7 a8 a9 a10 a11 a12 a13 a14 a15 a16 a17 a18)
    unfold acaD0 canP
    rw [e]
    generalize armV a0 a1 a2 a13 a14 = m at *
    have x1 := mul_rng (a := a17) (b := m) (A := 100000000) (B := 300000000) (by omega) (by omega)
    have x2 := mul_rng (a := a18 + 1) (b := m) (A := 100000001) (B := 300000000) (by omega) (by omega)
    have x3 : (a17 + 1) * m ≤ (a18 + 1) * m := Int.mul_le_mul_of_nonneg_right (by omega) (by omega)
    rw [Int.add_mul a17, Int.one_mul] at x3
    rw [arAdd (a := a18) (b := 1) (by omega), arMul (a := a17) (b := m) (by omega), arMul (a := a18 + 1) (b := m) (by omega)]
    generalize a17 * m = x at *
    generalize (a18 + 1) * m = y at *
    obtain ⟨u1, _, _⟩ := up_eq2 (x := x + 999) (by omega)
    obtain ⟨v1, _, _⟩ := up_eq2 (x := y + 999) (by omega)
    rw [arAdd (a := x) (by omega), arAdd (a := y) (by omega), u1, v1, arSub (by omega), arMx, arMn]
    clear e u1 v1
    refine ⟨fun g => ?_, fun g => ?_⟩
    · have g := cmLeq.1 g
      exact ⟨fun _ => by omega, fun _ => rfl⟩
    · have g := cmLeqF.1 g
      exact ⟨fun h => (by cases h), fun h => by omega⟩)

theorem ato_val (a0 a1 a2 a3 a4 a5 a6 a7 a8 a9 a10 a11 a12 a13 a14 a15 a16 : Int) (h : KindP a0 a1 a2 a3 a4 a5 a6 a7 a8 a9 a10 a11 a12) (hv : ((0 ≤ a13 ∧ a13 ≤ a14 ∧ a14 ≤ 10000000000000) ∧ (0 ≤ a15 ∧ a15 ≤ a16 ∧ a16 ≤ 100000000))) : AF.fin (atoA a0 a1 a2 a3 a4 a5 a6 a7 a8 a9 a10 a11 a12 a13 a14 a15 a16) = true ∧ AF.val (atoA a0 a1 a2 a3 a4 a5 a6 a7 a8 a9 a10 a11 a12 a13 a14 a15 a16) = ((max (armV a0 a1 a2 a3 a5) ((1000 * a13).tdiv (a16 + 1) + 1)), (if a15 > 0 then min (armV a0 a1 a2 a4 a6) ((1000 * a14).tdiv a15) else armV a0 a1 a2 a4 a6)) :=
  AF.val_sat (Inv := fun _ => False) (E := fun (v : atoR) => v = ((max (armV a0 a1 a2 a3 a5) ((1000 * a13).tdiv (a16 + 1) + 1)), (if a15 > 0 then min (armV a0 a1 a2 a4 a6) ((1000 * a14).tdiv a15) else armV a0 a1 a2 a4 a6))) (fun _ => 0) (fun _ => rfl) (fun a => nomatch a) (by
    obtain ⟨e1, e2, e3⟩ := arm_eqs h
    have t1 := tdiv_rng (a := 1000 * a13) (A := 10000000000000000) (b := a16 + 1) (by omega) (by omega)
    show DD.sat _ _ (atoD0 a0 a1 a2 a3 a4 a5 a6 a7 a8 a9 a10 a11 a12 a13 a14 a15 a16)
    unfold atoD0
    rw [e1, e2, arAdd (a := a16) (b := 1) (by omega), arMul (a := 1000) (b := a13) (by omega), arMul (a := 1000) (b := a14) (by omega), arQuo (a := 1000 * a13) (by omega), arAdd (a := (1000 * a13).tdiv (a16 + 1)) (by omega), arMx]
    refine ⟨cmNeq.2 (by omega), fun g => ⟨cmNeq.2 (by have := cmGtr.1 g; omega), ?_⟩, fun g => ?_⟩
    · have g := cmGtr.1 g
      have t2 := tdiv_rng (a := 1000 * a14) (A := 10000000000000000) (b := a15) (by omega) (by omega)
      show (_, _) = (_, _)
      rw [arQuo (a := 1000 * a14) (by omega), arMn, if_pos g]
    · have g := cmGtrF.1 g
      show (_, _) = (_, _)
      rw [if_neg (by omega)])

theorem ahe_val (a0 a1 a2 a3 a4 a5 a6 a7 a8 a9 a10 a11 a12 a13 a14 a15 : Int) (h : KindP a0 a1 a2 a3 a4 a5 a6 a7 a8 a9 a10 a11 a12) (h1 : -20000000000000000 ≤ a13 ∧ a13 ≤ 20000000000000000) (h2 : -20000000000000000 ≤ a14 ∧ a14 ≤ 20000000000000000) (h3 : 0 ≤ a15 ∧ a15 ≤ 1000) : AF.fin (aheA a0 a1 a2 a3 a4 a5 a6 a7 a8 a9 a10 a11 a12 a13 a14 a15) = true ∧ (((AF.val (aheA a0 a1 a2 a3 a4 a5 a6 a7 a8 a9 a10 a11 a12 a13 a14 a15)).1 ≤ (AF.val (aheA a0 a1 a2 a3 a4 a5 a6 a7 a8 a9 a10 a11 a12 a13 a14 a15)).2 → a5 ≤ (AF.val (aheA a0 a1 a2 a3 a4 a5 a6 a7 a8 a9 a10 a11 a12 a13 a14 a15)).1 ∧ (AF.val (aheA a0 a1 a2 a3 a4 a5 a6 a7 a8 a9 a10 a11 a12 a13 a14 a15)).2 ≤ a6) ∧ ∀ x, a5 ≤ x → x ≤ a6 → ((a13 ≤ armV a0 a1 a2 a15 x ∧ armV a0 a1 a2 a15 x ≤ a14) ↔ ((AF.val (aheA a0 a1 a2 a3 a4 a5 a6 a7 a8 a9 a10 a11 a12 a13 a14 a15)).1 ≤ x ∧ x ≤ (AF.val (aheA a0 a1 a2 a3 a4 a5 a6 a7 a8 a9 a10 a11 a12 a13 a14 a15)).2))) :=
  AF.val_sat (Inv := fun _ => False) (E := fun (v : aheR) => (v.1 ≤ v.2 → a5 ≤ v.1 ∧ v.2 ≤ a6) ∧ ∀ x, a5 ≤ x → x ≤ a6 → ((a13 ≤ armV a0 a1 a2 a15 x ∧ armV a0 a1 a2 a15 x ≤ a14) ↔ (v.1 ≤ x ∧ x ≤ v.2))) (fun _ => 0) (fun _ => rfl) (fun a => nomatch a) (by
    unfold KindP at h
    have m1 := mul_rng (a := a1) (b := a15) (A := 100000) (B := 1000) (by omega) h3
    have e : Ar.run Ar.sub IntKind.i64 0 (Ar.run Ar.add IntKind.i64 (Ar.run Ar.mul IntKind.i64 1000 a0) (Ar.run Ar.add IntKind.i64 (Ar.run Ar.mul IntKind.i64 a1 a15) (Ar.run Ar.mul IntKind.i64 a2 0))) = -(1000 * a0 + a1 * a15) := by
      rw [arMul (a := 1000) (by omega), arMul (a := a1) (by omega), arMul (a := a2) (by omega), arAdd (a := a1 * a15) (by omega), arAdd (by omega), arSub (by omega)]; omega
    show DD.sat _ _ (aheD0 a0 a1 a2 a3 a4 a5 a6 a7 a8 a9 a10 a11 a12 a13 a14 a15)
    unfold aheD0
    rw [e]
    generalize hb : 1000 * a0 + a1 * a15 = b at *
    rw [arAdd (a := a13) (by omega), arAdd (a := a14) (by omega)]
    generalize hd : a13 + -b = d at *
    generalize hf : a14 + -b = f at *
    have hx : ∀ x, armV a0 a1 a2 a15 x = b + a2 * x := fun x => by unfold armV; omega
    refine ⟨fun g => ?_, fun g => ?_⟩
    · have g := cmGtr.1 g
      have ng : Ar.run Ar.sub IntKind.i64 0 f = -f := by rw [arSub (by omega)]; omega
      have q1 : -30000000000000000 ≤ d.tdiv a2 ∧ d.tdiv a2 ≤ 30000000000000000 := by
        have := Int.natAbs_tdiv_le_natAbs d a2; omega
      have q2 : -30000000000000000 ≤ (-f).tdiv a2 ∧ (-f).tdiv a2 ≤ 30000000000000000 := by
        have := Int.natAbs_tdiv_le_natAbs (-f) a2; omega
      have c1 := fun x => up_iff (d := d) (m := a2) (h := x) (by omega)
      have c2 := fun x => up_iff (d := -f) (m := a2) (h := -x) (by omega)
      have n0 : Cm.run .neq a2 0 = true := cmNeq.2 (by omega)
      rw [ng, arQuo (a := d) (by omega), arQuo (a := -f) (by omega), arAdd (a := d.tdiv a2) (by omega), arAdd (a := (-f).tdiv a2) (by omega), arSub (a := 0) (b := (-f).tdiv a2 + 1) (by omega), arSub (a := 0) (b := (-f).tdiv a2) (by omega)]
      have r1 : Ar.run .rem .i64 d a2 = d.tmod a2 := rfl
      have r2 : Ar.run .rem .i64 (-f) a2 = (-f).tmod a2 := rfl
      rw [r1, r2]
      simp only [arMx, arMn]
      have fin : ∀ {u v : Int}, (if d.tmod a2 > 0 then d.tdiv a2 + 1 else d.tdiv a2) = u → (if (-f).tmod a2 > 0 then (-f).tdiv a2 + 1 else (-f).tdiv a2) = v → ((max a5 u ≤ min a6 (0 - v) → a5 ≤ max a5 u ∧ min a6 (0 - v) ≤ a6) ∧ ∀ x, a5 ≤ x → x ≤ a6 → ((a13 ≤ armV a0 a1 a2 a15 x ∧ armV a0 a1 a2 a15 x ≤ a14) ↔ (max a5 u ≤ x ∧ x ≤ min a6 (0 - v)))) := fun {u v} hu hv => by
        refine ⟨fun _ => by omega, fun x x1 x2 => ?_⟩
        have k1 := c1 x
        have k2 := c2 x
        rw [hu] at k1
        rw [hv, Int.mul_neg] at k2
        rw [hx]
        generalize a2 * x = y at *
        omega
      refine ⟨n0, ⟨n0, ⟨fun y1 => ⟨n0, ⟨n0, ⟨fun y2 => fin (if_pos (cmGtr.1 y1)) (if_pos (cmGtr.1 y2)), fun y2 => fin (if_pos (cmGtr.1 y1)) (if_neg (by have := cmGtrF.1 y2; omega))⟩⟩⟩, fun y1 => ⟨n0, ⟨n0, ⟨fun y2 => fin (if_neg (by have := cmGtrF.1 y1; omega)) (if_pos (cmGtr.1 y2)), fun y2 => fin (if_neg (by have := cmGtrF.1 y1; omega)) (if_neg (by have := cmGtrF.1 y2; omega))⟩⟩⟩⟩⟩⟩
    · have g := cmGtrF.1 g
      obtain rfl : a2 = 0 := by omega
      refine ⟨fun y => ?_, fun y => ⟨fun z => ?_, fun z => ?_⟩⟩
      · have y := cmLss.1 y
        refine ⟨fun k => by have k : (1000 : Int) ≤ 0 := k; omega, fun x x1 x2 => ?_⟩
        rw [hx, Int.zero_mul]
        show _ ↔ ((1000 : Int) ≤ x ∧ x ≤ 0)
        omega
      · have z := cmGtr.1 z
        refine ⟨fun k => by have k : (1000 : Int) ≤ 0 := k; omega, fun x x1 x2 => ?_⟩
        rw [hx, Int.zero_mul]
        show _ ↔ ((1000 : Int) ≤ x ∧ x ≤ 0)
        omega
      · have y := cmLssF.1 y
        have z := cmGtrF.1 z
        refine ⟨fun _ => ⟨Int.le_refl _, Int.le_refl _⟩, fun x x1 x2 => ?_⟩
        rw [hx, Int.zero_mul]
        show _ ↔ (a5 ≤ x ∧ x ≤ a6)
        omega)
end Go.Proofs.Ytgnmdknbnkljbaa.Cx

/- acme/bolt.Learn as an automaton. Made by tools/cxauto.py. -/
namespace Go.Proofs.Ytgnmdknbnkljbaa.Cx
set_option linter.unusedVariables false
set_option linter.unusedSimpArgs false
set_option maxRecDepth 100000
open Go Go.Proofs Go.RowKit

noncomputable abbrev aleCode : Code := funcCode Try.f33


inductive aleN where
  | n0 (p0 : Int) (p1 : Int) (p2 : Int) (p3 : Int) (p4 : Int) (p5 : Int) (p6 : Int) (p7 : Int) (p8 : Int) (p9 : Int) (p10 : Int) (p11 : Int) (p12 : Int) (p13 : Int) (p14 : Int) (p15 : Int) (p16 : Int) (p17 : Int) (p18 : Int) (p19 : Int)

abbrev aleR := Int × Int × Int × Int × Int

noncomputable def aleD0 (a0 : Int) (a1 : Int) (a2 : Int) (a3 : Int) (a4 : Int) (a5 : Int) (a6 : Int) (a7 : Int) (a8 : Int) (a9 : Int) (a10 : Int) (a11 : Int) (a12 : Int) (a13 : Int) (a14 : Int) (a15 : Int) (a16 : Int) : DD (Lf aleN aleR) :=
 .must (AF.fin (abcA a0 a1 a2 a3 a4 a5 a6 a7 a8 a9 a10 a11 a12))
   (.ask (Cm.run Cm.neq (AF.val (abcA a0 a1 a2 a3 a4 a5 a6 a7 a8 a9 a10 a11 a12)) 0)
   (.ask (Cm.run Cm.neq (AF.val (abcA a0 a1 a2 a3 a4 a5 a6 a7 a8 a9 a10 a11 a12)) 0)
   (.leaf (.done (0, 0, 0, 0, AF.val (abcA a0 a1 a2 a3 a4 a5 a6 a7 a8 a9 a10 a11 a12)) []))
   (.ask (Cm.run Cm.leq 0 a13)
   (.ask (Cm.run Cm.leq a13 a14)
   (.ask (Cm.run Cm.leq a14 10000000000000)
   (.ask (Cm.run Cm.leq 0 a15)
   (.ask (Cm.run Cm.leq a15 a16)
   (.ask (Cm.run Cm.leq a16 100000000)
   (.must (AF.fin (atoA 0 0 0 0 0 0 0 0 0 0 0 0 0 a13 a14 a15 a16))
   (.leaf (.next (.n0 0 1000 0 1000 0 0 0 0 0 0 0 0 0 0 0 0 0 0 (Prod.fst (AF.val (atoA 0 0 0 0 0 0 0 0 0 0 0 0 0 a13 a14 a15 a16))) (Prod.snd (AF.val (atoA 0 0 0 0 0 0 0 0 0 0 0 0 0 a13 a14 a15 a16)))) [3, 4, 7, 12])))
   (.leaf (.done (0, 0, 0, 0, 3) [])))
   (.leaf (.done (0, 0, 0, 0, 3) [])))
   (.leaf (.done (0, 0, 0, 0, 3) [])))
   (.leaf (.done (0, 0, 0, 0, 3) [])))
   (.leaf (.done (0, 0, 0, 0, 3) [])))
   (.leaf (.done (0, 0, 0, 0, 3) []))))
   (.ask (Cm.run Cm.leq 0 a13)
   (.ask (Cm.run Cm.leq a13 a14)
   (.ask (Cm.run Cm.leq a14 10000000000000)
   (.ask (Cm.run Cm.leq 0 a15)
   (.ask (Cm.run Cm.leq a15 a16)
   (.ask (Cm.run Cm.leq a16 100000000)
   (.must (AF.fin (atoA a0 a1 a2 a3 a4 a5 a6 a7 a8 a9 a10 a11 a12 a13 a14 a15 a16))
   (.leaf (.next (.n0 a3 1000 0 1000 0 a0 a1 a2 a3 a4 a5 a6 a7 a8 a9 a10 a11 a12 (Prod.fst (AF.val (atoA a0 a1 a2 a3 a4 a5 a6 a7 a8 a9 a10 a11 a12 a13 a14 a15 a16))) (Prod.snd (AF.val (atoA a0 a1 a2 a3 a4 a5 a6 a7 a8 a9 a10 a11 a12 a13 a14 a15 a16)))) [3, 4, 7, 12])))
   (.leaf (.done (0, 0, 0, 0, 3) [])))
   (.leaf (.done (0, 0, 0, 0, 3) [])))
   (.leaf (.done (0, 0, 0, 0, 3) [])))
   (.leaf (.done (0, 0, 0, 0, 3) [])))
   (.leaf (.done (0, 0, 0, 0, 3) [])))
   (.leaf (.done (0, 0, 0, 0, 3) []))))

noncomputable def aleD (a0 : Int) (a1 : Int) (a2 : Int) (a3 : Int) (a4 : Int) (a5 : Int) (a6 : Int) (a7 : Int) (a8 : Int) (a9 : Int) (a10 : Int) (a11 : Int) (a12 : Int) (a13 : Int) (a14 : Int) (a15 : Int) (a16 : Int) : aleN → DD (Lf aleN aleR)
 | .n0 p0 p1 p2 p3 p4 p5 p6 p7 p8 p9 p10 p11 p12 p13 p14 p15 p16 p17 p18 p19 =>
 .ask (Cm.run Cm.leq p0 p9)
   (.must (AF.fin (aheA p5 p6 p7 p8 p9 p10 p11 p12 p13 p14 p15 p16 p17 p18 p19 p0))
   (.ask (Cm.run Cm.leq (Prod.fst (AF.val (aheA p5 p6 p7 p8 p9 p10 p11 p12 p13 p14 p15 p16 p17 p18 p19 p0))) (Prod.snd (AF.val (aheA p5 p6 p7 p8 p9 p10 p11 p12 p13 p14 p15 p16 p17 p18 p19 p0))))
   (.leaf (.next (.n0 (Ar.run Ar.add IntKind.i64 p0 1) (Ar.run Ar.mn IntKind.i64 p1 p0) (Ar.run Ar.mx IntKind.i64 p2 p0) (Ar.run Ar.mn IntKind.i64 p3 (Prod.fst (AF.val (aheA p5 p6 p7 p8 p9 p10 p11 p12 p13 p14 p15 p16 p17 p18 p19 p0)))) (Ar.run Ar.mx IntKind.i64 p4 (Prod.snd (AF.val (aheA p5 p6 p7 p8 p9 p10 p11 p12 p13 p14 p15 p16 p17 p18 p19 p0)))) p5 p6 p7 p8 p9 p10 p11 p12 p13 p14 p15 p16 p17 p18 p19) [0, 1, 2, 3]))
   (.leaf (.next (.n0 (Ar.run Ar.add IntKind.i64 p0 1) p1 p2 p3 p4 p5 p6 p7 p8 p9 p10 p11 p12 p13 p14 p15 p16 p17 p18 p19) [0, 1, 2, 3]))))
   (.ask (Cm.run Cm.gtr p1 p2)
   (.leaf (.done (0, 0, 0, 0, 9) []))
   (.leaf (.done (p1, p2, p3, p4, 0) [])))

noncomputable def aleA (a0 : Int) (a1 : Int) (a2 : Int) (a3 : Int) (a4 : Int) (a5 : Int) (a6 : Int) (a7 : Int) (a8 : Int) (a9 : Int) (a10 : Int) (a11 : Int) (a12 : Int) (a13 : Int) (a14 : Int) (a15 : Int) (a16 : Int) : AF aleN aleR where
  code := aleCode
  base := 0
  nt := 77
  m := 400
  un := []
  W := []
  h0 := []
  args := [.agg [.int .i64 (.x a0), .int .i64 (.x a1), .int .i64 (.x a2), .int .i64 (.x a3), .int .i64 (.x a4), .int .i64 (.x a5), .int .i64 (.x a6), .int .i64 (.x a7), .int .i64 (.x a8), .int .i64 (.x a9), .int .i64 (.x a10), .int .i64 (.x a11), .int .i64 (.x a12)], .agg [.int .i64 (.x a13), .int .i64 (.x a14)], .agg [.int .i64 (.x a15), .int .i64 (.x a16)]]
  res := (Try.f33).results.toList
  path := fun a => match a with
   | .n0 p0 p1 p2 p3 p4 p5 p6 p7 p8 p9 p10 p11 p12 p13 p14 p15 p16 p17 p18 p19 => [1, 1, 1, 1, 1, 1, 0, 1, 0]
  pd := fun a => match a with
   | .n0 p0 p1 p2 p3 p4 p5 p6 p7 p8 p9 p10 p11 p12 p13 p14 p15 p16 p17 p18 p19 => ⟨[(6, .ptr (some (0, 0))), (7, .ptr (some (1, 0))), (9, .ptr (some (2, 0))), (10, .ptr (some (3, 0))), (11, .int .i64 (.x p0)), (23, .agg [.int .i64 (.x a13), .int .i64 (.x a14)])], [(0, ⟨.lit [.int .i64 (.x p1), .int .i64 (.x p2)], 0, true, none⟩), (1, ⟨.lit [.int .i64 (.x p3), .int .i64 (.x p4)], 0, true, none⟩), (2, ⟨.lit [.int .i64 (.x p5), .int .i64 (.x p6), .int .i64 (.x p7), .int .i64 (.x p8), .int .i64 (.x p9), .int .i64 (.x p10), .int .i64 (.x p11), .int .i64 (.x p12), .int .i64 (.x p13), .int .i64 (.x p14), .int .i64 (.x p15), .int .i64 (.x p16), .int .i64 (.x p17)], 0, true, none⟩), (3, ⟨.lit [.int .i64 (.x p18), .int .i64 (.x p19)], 0, true, none⟩)], 4, []⟩
  D0 := aleD0 a0 a1 a2 a3 a4 a5 a6 a7 a8 a9 a10 a11 a12 a13 a14 a15 a16
  D := aleD a0 a1 a2 a3 a4 a5 a6 a7 a8 a9 a10 a11 a12 a13 a14 a15 a16
  rc := (fun v => .tup [.agg [.int .i64 (.x v.1), .int .i64 (.x v.2.1)], .agg [.int .i64 (.x v.2.2.1), .int .i64 (.x v.2.2.2.1)], .int .i64 (.x v.2.2.2.2)])
  rh := (fun v => [])
  rn := (fun v => 0)
  rx := (fun v => [])
  rgo := (fun _ => none)


theorem alestart (a0 : Int) (a1 : Int) (a2 : Int) (a3 : Int) (a4 : Int) (a5 : Int) (a6 : Int) (a7 : Int) (a8 : Int) (a9 : Int) (a10 : Int) (a11 : Int) (a12 : Int) (a13 : Int) (a14 : Int) (a15 : Int) (a16 : Int) : AF.edgeOk (aleA a0 a1 a2 a3 a4 a5 a6 a7 a8 a9 a10 a11 a12 a13 a14 a15 a16) (ctxOf Try.prog memo0) (aleD0 a0 a1 a2 a3 a4 a5 a6 a7 a8 a9 a10 a11 a12 a13 a14 a15 a16) (AF.run0 (aleA a0 a1 a2 a3 a4 a5 a6 a7 a8 a9 a10 a11 a12 a13 a14 a15 a16) (ctxOf Try.prog (memoA 77 aheP aheF (memoA 75 atoP atoF (memoA 12 abcP abcF memo0))))) := by unfold AF.edgeOk; kernel_rfl

theorem alenode0 (a0 : Int) (a1 : Int) (a2 : Int) (a3 : Int) (a4 : Int) (a5 : Int) (a6 : Int) (a7 : Int) (a8 : Int) (a9 : Int) (a10 : Int) (a11 : Int) (a12 : Int) (a13 : Int) (a14 : Int) (a15 : Int) (a16 : Int) (p0 : Int) (p1 : Int) (p2 : Int) (p3 : Int) (p4 : Int) (p5 : Int) (p6 : Int) (p7 : Int) (p8 : Int) (p9 : Int) (p10 : Int) (p11 : Int) (p12 : Int) (p13 : Int) (p14 : Int) (p15 : Int) (p16 : Int) (p17 : Int) (p18 : Int) (p19 : Int) : AF.edgeOk (aleA a0 a1 a2 a3 a4 a5 a6 a7 a8 a9 a10 a11 a12 a13 a14 a15 a16) (ctxOf Try.prog memo0) (aleD a0 a1 a2 a3 a4 a5 a6 a7 a8 a9 a10 a11 a12 a13 a14 a15 a16 (.n0 p0 p1 p2 p3 p4 p5 p6 p7 p8 p9 p10 p11 p12 p13 p14 p15 p16 p17 p18 p19)) (AF.runN (aleA a0 a1 a2 a3 a4 a5 a6 a7 a8 a9 a10 a11 a12 a13 a14 a15 a16) (ctxOf Try.prog (memoA 77 aheP aheF (memoA 75 atoP atoF (memoA 12 abcP abcF memo0)))) (.n0 p0 p1 p2 p3 p4 p5 p6 p7 p8 p9 p10 p11 p12 p13 p14 p15 p16 p17 p18 p19)) := by unfold AF.edgeOk; kernel_rfl

theorem aleok (a0 : Int) (a1 : Int) (a2 : Int) (a3 : Int) (a4 : Int) (a5 : Int) (a6 : Int) (a7 : Int) (a8 : Int) (a9 : Int) (a10 : Int) (a11 : Int) (a12 : Int) (a13 : Int) (a14 : Int) (a15 : Int) (a16 : Int) : (aleA a0 a1 a2 a3 a4 a5 a6 a7 a8 a9 a10 a11 a12 a13 a14 a15 a16).Ok Try.prog (ctxOf Try.prog (memoA 77 aheP aheF (memoA 75 atoP atoF (memoA 12 abcP abcF memo0)))) where
  regs := by kernel_rfl
  h0 := by kernel_rfl
  start := alestart a0 a1 a2 a3 a4 a5 a6 a7 a8 a9 a10 a11 a12 a13 a14 a15 a16
  node := fun a _ => match a with
   | .n0 p0 p1 p2 p3 p4 p5 p6 p7 p8 p9 p10 p11 p12 p13 p14 p15 p16 p17 p18 p19 => alenode0 a0 a1 a2 a3 a4 a5 a6 a7 a8 a9 a10 a11 a12 a13 a14 a15 a16 p0 p1 p2 p3 p4 p5 p6 p7 p8 p9 p10 p11 p12 p13 p14 p15 p16 p17 p18 p19
  pd := fun a => match a with
   | .n0 p0 p1 p2 p3 p4 p5 p6 p7 p8 p9 p10 p11 p12 p13 p14 p15 p16 p17 p18 p19 => ⟨(fa_cons rfl (fa_cons rfl (fa_cons rfl (fa_cons rfl (fa_cons rfl (fa_cons rfl fa_nil)))))), (fa_cons ⟨.inl (Nat.le_of_ble_eq_true rfl), rfl, rfl⟩ (fa_cons ⟨.inl (Nat.le_of_ble_eq_true rfl), rfl, rfl⟩ (fa_cons ⟨.inl (Nat.le_of_ble_eq_true rfl), rfl, rfl⟩ (fa_cons ⟨.inl (Nat.le_of_ble_eq_true rfl), rfl, rfl⟩ fa_nil)))), fa_nil, rfl⟩
  le := fun a => match a with
   | .n0 p0 p1 p2 p3 p4 p5 p6 p7 p8 p9 p10 p11 p12 p13 p14 p15 p16 p17 p18 p19 => Nat.le_of_ble_eq_true rfl
  rd := fun v => ⟨⟨fa_nil, fa_nil, fa_nil, rfl⟩, rfl⟩
  wb := rfl


theorem alehR {ρ : Env} (a0 : Int) (a1 : Int) (a2 : Int) (a3 : Int) (a4 : Int) (a5 : Int) (a6 : Int) (a7 : Int) (a8 : Int) (a9 : Int) (a10 : Int) (a11 : Int) (a12 : Int) (a13 : Int) (a14 : Int) (a15 : Int) (a16 : Int) (hM : MemoOk Try.prog (ctxOf Try.prog (memoA 77 aheP aheF (memoA 75 atoP atoF (memoA 12 abcP abcF memo0)))) ρ) : ∀ X a q n D, FxOk ρ X → X.base = (aleA a0 a1 a2 a3 a4 a5 a6 a7 a8 a9 a10 a11 a12 a13 a14 a15 a16).base → X.nt = (aleA a0 a1 a2 a3 a4 a5 a6 a7 a8 a9 a10 a11 a12 a13 a14 a15 a16).nt → X.W = (aleA a0 a1 a2 a3 a4 a5 a6 a7 a8 a9 a10 a11 a12 a13 a14 a15 a16).W → (aleA a0 a1 a2 a3 a4 a5 a6 a7 a8 a9 a10 a11 a12 a13 a14 a15 a16).rgo a = some q → q n = some D → (aleA a0 a1 a2 a3 a4 a5 a6 a7 a8 a9 a10 a11 a12 a13 a14 a15 a16).RangeOk Try.prog ρ X a D := AF.noRange rfl

theorem alectr {ρ : Env} (a0 : Int) (a1 : Int) (a2 : Int) (a3 : Int) (a4 : Int) (a5 : Int) (a6 : Int) (a7 : Int) (a8 : Int) (a9 : Int) (a10 : Int) (a11 : Int) (a12 : Int) (a13 : Int) (a14 : Int) (a15 : Int) (a16 : Int) {n : Nat} {v : aleR} (hM : MemoOk Try.prog (ctxOf Try.prog (memoA 77 aheP aheF (memoA 75 atoP atoF (memoA 12 abcP abcF memo0)))) ρ) (hv : (aleA a0 a1 a2 a3 a4 a5 a6 a7 a8 a9 a10 a11 a12 a13 a14 a15 a16).run n = some v) :
    Ctr Try.prog ρ 33 (aleA a0 a1 a2 a3 a4 a5 a6 a7 a8 a9 a10 a11 a12 a13 a14 a15 a16).args (aleA a0 a1 a2 a3 a4 a5 a6 a7 a8 a9 a10 a11 a12 a13 a14 a15 a16).H0 (aleA a0 a1 a2 a3 a4 a5 a6 a7 a8 a9 a10 a11 a12 a13 a14 a15 a16).base (aleA a0 a1 a2 a3 a4 a5 a6 a7 a8 a9 a10 a11 a12 a13 a14 a15 a16).W ((aleA a0 a1 a2 a3 a4 a5 a6 a7 a8 a9 a10 a11 a12 a13 a14 a15 a16).rc v) (putH (aleA a0 a1 a2 a3 a4 a5 a6 a7 a8 a9 a10 a11 a12 a13 a14 a15 a16).H0 ((aleA a0 a1 a2 a3 a4 a5 a6 a7 a8 a9 a10 a11 a12 a13 a14 a15 a16).rh v ++ (aleA a0 a1 a2 a3 a4 a5 a6 a7 a8 a9 a10 a11 a12 a13 a14 a15 a16).rx v)) ((aleA a0 a1 a2 a3 a4 a5 a6 a7 a8 a9 a10 a11 a12 a13 a14 a15 a16).rn v) :=
  AF.ctr try_ok hM (aleok a0 a1 a2 a3 a4 a5 a6 a7 a8 a9 a10 a11 a12 a13 a14 a15 a16) (fn := Try.f33) Try.func33 rfl rfl (Nat.le_of_ble_eq_true rfl) rfl (alehR a0 a1 a2 a3 a4 a5 a6 a7 a8 a9 a10 a11 a12 a13 a14 a15 a16 hM) hv


theorem alemem {ρ : Env} : MemoOk Try.prog (ctxOf Try.prog (memoA 77 aheP aheF (memoA 75 atoP atoF (memoA 12 abcP abcF memo0)))) ρ := (memoA_ok (aheknown ahemem) (memoA_ok (atoknown atomem) (memoA_ok (abcknown memo0_ok) memo0_ok)))


abbrev aleP : List AP := [.agg [.int .i64, .int .i64, .int .i64, .int .i64, .int .i64, .int .i64, .int .i64, .int .i64, .int .i64, .int .i64, .int .i64, .int .i64, .int .i64], .agg [.int .i64, .int .i64], .agg [.int .i64, .int .i64]]
noncomputable def aleF (v : AV) : AF aleN aleR := aleA (v.i.getD 0 0) (v.i.getD 1 0) (v.i.getD 2 0) (v.i.getD 3 0) (v.i.getD 4 0) (v.i.getD 5 0) (v.i.getD 6 0) (v.i.getD 7 0) (v.i.getD 8 0) (v.i.getD 9 0) (v.i.getD 10 0) (v.i.getD 11 0) (v.i.getD 12 0) (v.i.getD 13 0) (v.i.getD 14 0) (v.i.getD 15 0) (v.i.getD 16 0)
theorem aleknown {ρ : Env} (hM : MemoOk Try.prog (ctxOf Try.prog (memoA 77 aheP aheF (memoA 75 atoP atoF (memoA 12 abcP abcF memo0)))) ρ) : KnownA Try.prog ρ 33 aleP aleF where
  fn := ⟨Try.f33, Try.func33, rfl⟩
  args := fun v => rfl
  plain := fun v r => rfl
  ctr := fun v n r h => alectr (v.i.getD 0 0) (v.i.getD 1 0) (v.i.getD 2 0) (v.i.getD 3 0) (v.i.getD 4 0) (v.i.getD 5 0) (v.i.getD 6 0) (v.i.getD 7 0) (v.i.getD 8 0) (v.i.getD 9 0) (v.i.getD 10 0) (v.i.getD 11 0) (v.i.getD 12 0) (v.i.getD 13 0) (v.i.getD 14 0) (v.i.getD 15 0) (v.i.getD 16 0) hM h

end Go.Proofs.Ytgnmdknbnkljbaa.Cx

/- bolt.Learn: the least spans of frictions that are told. Made by tools/gen_bcon.py. -/
namespace Go.Proofs.Ytgnmdknbnkljbaa.Cx
set_option linter.unusedVariables false
set_option linter.unusedSimpArgs false
set_option maxRecDepth 100000
set_option maxHeartbeats 4000000
open Go Go.RowKit

section
variable {a0 a1 a2 a3 a4 a5 a6 a7 a8 a9 a10 a11 a12 a13 a14 a15 a16 : Int}
theorem row_iff (h : KindP a0 a1 a2 a3 a4 a5 a6 a7 a8 a9 a10 a11 a12) (hv : ((0 ≤ a13 ∧ a13 ≤ a14 ∧ a14 ≤ 10000000000000) ∧ (0 ≤ a15 ∧ a15 ≤ a16 ∧ a16 ≤ 100000000))) {t : Int} (ht : a3 ≤ t ∧ t ≤ a4) : AF.fin (aheA a0 a1 a2 a3 a4 a5 a6 a7 a8 a9 a10 a11 a12 (max (armV a0 a1 a2 a3 a5) ((1000 * a13).tdiv (a16 + 1) + 1)) (if a15 > 0 then min (armV a0 a1 a2 a4 a6) ((1000 * a14).tdiv a15) else armV a0 a1 a2 a4 a6) t) = true ∧ ((AF.val (aheA a0 a1 a2 a3 a4 a5 a6 a7 a8 a9 a10 a11 a12 (max (armV a0 a1 a2 a3 a5) ((1000 * a13).tdiv (a16 + 1) + 1)) (if a15 > 0 then min (armV a0 a1 a2 a4 a6) ((1000 * a14).tdiv a15) else armV a0 a1 a2 a4 a6) t)).1 ≤ (AF.val (aheA a0 a1 a2 a3 a4 a5 a6 a7 a8 a9 a10 a11 a12 (max (armV a0 a1 a2 a3 a5) ((1000 * a13).tdiv (a16 + 1) + 1)) (if a15 > 0 then min (armV a0 a1 a2 a4 a6) ((1000 * a14).tdiv a15) else armV a0 a1 a2 a4 a6) t)).2 → a5 ≤ (AF.val (aheA a0 a1 a2 a3 a4 a5 a6 a7 a8 a9 a10 a11 a12 (max (armV a0 a1 a2 a3 a5) ((1000 * a13).tdiv (a16 + 1) + 1)) (if a15 > 0 then min (armV a0 a1 a2 a4 a6) ((1000 * a14).tdiv a15) else armV a0 a1 a2 a4 a6) t)).1 ∧ (AF.val (aheA a0 a1 a2 a3 a4 a5 a6 a7 a8 a9 a10 a11 a12 (max (armV a0 a1 a2 a3 a5) ((1000 * a13).tdiv (a16 + 1) + 1)) (if a15 > 0 then min (armV a0 a1 a2 a4 a6) ((1000 * a14).tdiv a15) else armV a0 a1 a2 a4 a6) t)).2 ≤ a6) ∧ ∀ x, a5 ≤ x → x ≤ a6 → (canP a0 a1 a2 a13 a14 a15 a16 t x ↔ ((AF.val (aheA a0 a1 a2 a3 a4 a5 a6 a7 a8 a9 a10 a11 a12 (max (armV a0 a1 a2 a3 a5) ((1000 * a13).tdiv (a16 + 1) + 1)) (if a15 > 0 then min (armV a0 a1 a2 a4 a6) ((1000 * a14).tdiv a15) else armV a0 a1 a2 a4 a6) t)).1 ≤ x ∧ x ≤ (AF.val (aheA a0 a1 a2 a3 a4 a5 a6 a7 a8 a9 a10 a11 a12 (max (armV a0 a1 a2 a3 a5) ((1000 * a13).tdiv (a16 + 1) + 1)) (if a15 > 0 then min (armV a0 a1 a2 a4 a6) ((1000 * a14).tdiv a15) else armV a0 a1 a2 a4 a6) t)).2)) := by
  have h' := h
  unfold KindP at h'
  obtain ⟨_, _, e3⟩ := arm_eqs h
  have t1 := tdiv_rng (a := 1000 * a13) (A := 10000000000000000) (b := a16 + 1) (by omega) (by omega)
  have t2 : 0 ≤ (if a15 > 0 then min (armV a0 a1 a2 a4 a6) ((1000 * a14).tdiv a15) else armV a0 a1 a2 a4 a6) ∧ (if a15 > 0 then min (armV a0 a1 a2 a4 a6) ((1000 * a14).tdiv a15) else armV a0 a1 a2 a4 a6) ≤ 20000000000000000 := by
    split
    · have t2 := tdiv_rng (a := 1000 * a14) (A := 10000000000000000) (b := a15) (by omega) (by omega)
      omega
    · omega
  obtain ⟨f1, f2, f3⟩ := ahe_val a0 a1 a2 a3 a4 a5 a6 a7 a8 a9 a10 a11 a12 (max (armV a0 a1 a2 a3 a5) ((1000 * a13).tdiv (a16 + 1) + 1)) (if a15 > 0 then min (armV a0 a1 a2 a4 a6) ((1000 * a14).tdiv a15) else armV a0 a1 a2 a4 a6) t h (by omega) (by omega) (by omega)
  refine ⟨f1, f2, fun x x1 x2 => ?_⟩
  rw [← f3 x x1 x2]
  have m1 : a1 * a3 ≤ a1 * t := Int.mul_le_mul_of_nonneg_left ht.1 (by omega)
  have m2 : a2 * a5 ≤ a2 * x := Int.mul_le_mul_of_nonneg_left x1 (by omega)
  have m3 : a1 * t ≤ a1 * a4 := Int.mul_le_mul_of_nonneg_left ht.2 (by omega)
  have m4 : a2 * x ≤ a2 * a6 := Int.mul_le_mul_of_nonneg_left x2 (by omega)
  exact told_iff (arm := armV a0 a1 a2 t x) (al := armV a0 a1 a2 a3 a5) (ah := armV a0 a1 a2 a4 a6) (by omega) (by omega) (by omega) (by omega) (by unfold armV; omega)

def aleInv (a0 a1 a2 a3 a4 a5 a6 a7 a8 a9 a10 a11 a12 a13 a14 a15 a16 : Int) : aleN → Prop
  | .n0 p0 p1 p2 p3 p4 p5 p6 p7 p8 p9 p10 p11 p12 p13 p14 p15 p16 p17 p18 p19 => (a0 = p5 ∧ a1 = p6 ∧ a2 = p7 ∧ a3 = p8 ∧ a4 = p9 ∧ a5 = p10 ∧ a6 = p11 ∧ a7 = p12 ∧ a8 = p13 ∧ a9 = p14 ∧ a10 = p15 ∧ a11 = p16 ∧ a12 = p17 ∧ p18 = (max (armV a0 a1 a2 a3 a5) ((1000 * a13).tdiv (a16 + 1) + 1)) ∧ p19 = (if a15 > 0 then min (armV a0 a1 a2 a4 a6) ((1000 * a14).tdiv a15) else armV a0 a1 a2 a4 a6)) ∧ (a3 ≤ p0 ∧ p0 ≤ a4 + 1) ∧ ((NoneP (fun t h => (a3 ≤ t ∧ t < p0) ∧ a5 ≤ h ∧ h ≤ a6) (fun t h => canP a0 a1 a2 a13 a14 a15 a16 t h) ∧ p1 = 1000 ∧ p2 = 0 ∧ p3 = 1000 ∧ p4 = 0) ∨ Hull (fun t h => (a3 ≤ t ∧ t < p0) ∧ a5 ≤ h ∧ h ≤ a6) (fun t h => canP a0 a1 a2 a13 a14 a15 a16 t h) p1 p2 p3 p4)
def aleMu (a4 : Int) : aleN → Nat
  | .n0 p0 .. => (a4 + 1 - p0).toNat
def alePost (a0 a1 a2 a3 a4 a5 a6 a7 a8 a9 a10 a11 a12 a13 a14 a15 a16 : Int) (v : aleR) : Prop := (NoneP (fun t h => (a3 ≤ t ∧ t ≤ a4) ∧ a5 ≤ h ∧ h ≤ a6) (fun t h => canP a0 a1 a2 a13 a14 a15 a16 t h) ∧ v = (0, 0, 0, 0, 9)) ∨ ∃ x1 x2 y1 y2, Hull (fun t h => (a3 ≤ t ∧ t ≤ a4) ∧ a5 ≤ h ∧ h ≤ a6) (fun t h => canP a0 a1 a2 a13 a14 a15 a16 t h) x1 x2 y1 y2 ∧ v = (x1, x2, y1, y2, 0)

theorem ale_ok (h : KindP a0 a1 a2 a3 a4 a5 a6 a7 a8 a9 a10 a11 a12) (hv : ((0 ≤ a13 ∧ a13 ≤ a14 ∧ a14 ≤ 10000000000000) ∧ (0 ≤ a15 ∧ a15 ≤ a16 ∧ a16 ≤ 100000000))) : AF.fin (aleA a0 a1 a2 a3 a4 a5 a6 a7 a8 a9 a10 a11 a12 a13 a14 a15 a16) = true ∧ alePost a0 a1 a2 a3 a4 a5 a6 a7 a8 a9 a10 a11 a12 a13 a14 a15 a16 (AF.val (aleA a0 a1 a2 a3 a4 a5 a6 a7 a8 a9 a10 a11 a12 a13 a14 a15 a16)) := by
  have h' := h
  unfold KindP at h'
  refine AF.val_sat (Inv := aleInv a0 a1 a2 a3 a4 a5 a6 a7 a8 a9 a10 a11 a12 a13 a14 a15 a16) (E := alePost a0 a1 a2 a3 a4 a5 a6 a7 a8 a9 a10 a11 a12 a13 a14 a15 a16) (aleMu a4) (fun _ => rfl) (fun a hI => ?_) ?_
  · cases a with
    | n0 p0 p1 p2 p3 p4 p5 p6 p7 p8 p9 p10 p11 p12 p13 p14 p15 p16 p17 p18 p19 =>
      obtain ⟨⟨rfl, rfl, rfl, rfl, rfl, rfl, rfl, rfl, rfl, rfl, rfl, rfl, rfl, rfl, rfl⟩, hp, hS⟩ := hI
      refine ⟨fun g => ?_, fun g => ?_⟩
      · have g := cmLeq.1 g
        obtain ⟨f1, f2, f3⟩ := row_iff h hv (t := p0) ⟨hp.1, g⟩
        have ad : Ar.run .add .i64 p0 1 = p0 + 1 := arAdd (by omega)
        have hN : ∀ t h, ((a3 ≤ t ∧ t < p0 + 1) ∧ a5 ≤ h ∧ h ≤ a6) ↔ ((a3 ≤ t ∧ t < p0) ∧ a5 ≤ h ∧ h ≤ a6) ∨ (t = p0 ∧ a5 ≤ h ∧ h ≤ a6) := fun t h => by omega
        have M : ∀ {x y z u : Int} {q : Int}, q = p0 + 1 → aleMu a4 (.n0 q x y z u a0 a1 a2 a3 a4 a5 a6 a7 a8 a9 a10 a11 a12 (max (armV a0 a1 a2 a3 a5) ((1000 * a13).tdiv (a16 + 1) + 1)) (if a15 > 0 then min (armV a0 a1 a2 a4 a6) ((1000 * a14).tdiv a15) else armV a0 a1 a2 a4 a6)) < aleMu a4 (.n0 p0 p1 p2 p3 p4 a0 a1 a2 a3 a4 a5 a6 a7 a8 a9 a10 a11 a12 (max (armV a0 a1 a2 a3 a5) ((1000 * a13).tdiv (a16 + 1) + 1)) (if a15 > 0 then min (armV a0 a1 a2 a4 a6) ((1000 * a14).tdiv a15) else armV a0 a1 a2 a4 a6)) := fun e => by subst e; show (a4 + 1 - (p0 + 1)).toNat < (a4 + 1 - p0).toNat; omega
        refine ⟨f1, fun c => ?_, fun c => ?_⟩
        · have c := cmLeq.1 c
          have f2 := f2 c
          have hR : Hull (fun t h => t = p0 ∧ a5 ≤ h ∧ h ≤ a6) (fun t h => canP a0 a1 a2 a13 a14 a15 a16 t h) p0 p0 (AF.val (aheA a0 a1 a2 a3 a4 a5 a6 a7 a8 a9 a10 a11 a12 (max (armV a0 a1 a2 a3 a5) ((1000 * a13).tdiv (a16 + 1) + 1)) (if a15 > 0 then min (armV a0 a1 a2 a4 a6) ((1000 * a14).tdiv a15) else armV a0 a1 a2 a4 a6) p0)).1 (AF.val (aheA a0 a1 a2 a3 a4 a5 a6 a7 a8 a9 a10 a11 a12 (max (armV a0 a1 a2 a3 a5) ((1000 * a13).tdiv (a16 + 1) + 1)) (if a15 > 0 then min (armV a0 a1 a2 a4 a6) ((1000 * a14).tdiv a15) else armV a0 a1 a2 a4 a6) p0)).2 := by
            generalize AF.val (aheA a0 a1 a2 a3 a4 a5 a6 a7 a8 a9 a10 a11 a12 (max (armV a0 a1 a2 a3 a5) ((1000 * a13).tdiv (a16 + 1) + 1)) (if a15 > 0 then min (armV a0 a1 a2 a4 a6) ((1000 * a14).tdiv a15) else armV a0 a1 a2 a4 a6) p0) = v at *
            refine ⟨fun t h x y => ?_, ⟨p0, v.1, ⟨rfl, f2.1, by omega⟩, (f3 _ f2.1 (by omega)).2 ⟨by omega, c⟩, rfl⟩, ⟨p0, v.1, ⟨rfl, f2.1, by omega⟩, (f3 _ f2.1 (by omega)).2 ⟨by omega, c⟩, rfl⟩, ⟨p0, v.1, ⟨rfl, f2.1, by omega⟩, (f3 _ f2.1 (by omega)).2 ⟨by omega, c⟩, rfl⟩, ⟨p0, v.2, ⟨rfl, by omega, f2.2⟩, (f3 _ (by omega) f2.2).2 ⟨c, by omega⟩, rfl⟩⟩
            obtain ⟨rfl, y1, y2⟩ := x
            have := (f3 h y1 y2).1 y
            omega
          refine ⟨⟨⟨rfl, rfl, rfl, rfl, rfl, rfl, rfl, rfl, rfl, rfl, rfl, rfl, rfl, rfl, rfl⟩, by rw [ad]; omega, .inr ?_⟩, M ad⟩
          show Hull (fun t h => (a3 ≤ t ∧ t < (Ar.run .add .i64 p0 1)) ∧ a5 ≤ h ∧ h ≤ a6) _ (Ar.run .mn .i64 p1 p0) (Ar.run .mx .i64 p2 p0) (Ar.run .mn .i64 p3 (AF.val (aheA a0 a1 a2 a3 a4 a5 a6 a7 a8 a9 a10 a11 a12 (max (armV a0 a1 a2 a3 a5) ((1000 * a13).tdiv (a16 + 1) + 1)) (if a15 > 0 then min (armV a0 a1 a2 a4 a6) ((1000 * a14).tdiv a15) else armV a0 a1 a2 a4 a6) p0)).1) (Ar.run .mx .i64 p4 (AF.val (aheA a0 a1 a2 a3 a4 a5 a6 a7 a8 a9 a10 a11 a12 (max (armV a0 a1 a2 a3 a5) ((1000 * a13).tdiv (a16 + 1) + 1)) (if a15 > 0 then min (armV a0 a1 a2 a4 a6) ((1000 * a14).tdiv a15) else armV a0 a1 a2 a4 a6) p0)).2)
          rw [ad]
          simp only [arMn, arMx]
          rcases hS with ⟨hE, rfl, rfl, rfl, rfl⟩ | hH
          · have k := Hull.first hE hR hN
            rw [show min 1000 p0 = p0 by omega, show max 0 p0 = p0 by omega, show min 1000 (AF.val (aheA a0 a1 a2 a3 a4 a5 a6 a7 a8 a9 a10 a11 a12 (max (armV a0 a1 a2 a3 a5) ((1000 * a13).tdiv (a16 + 1) + 1)) (if a15 > 0 then min (armV a0 a1 a2 a4 a6) ((1000 * a14).tdiv a15) else armV a0 a1 a2 a4 a6) p0)).1 = (AF.val (aheA a0 a1 a2 a3 a4 a5 a6 a7 a8 a9 a10 a11 a12 (max (armV a0 a1 a2 a3 a5) ((1000 * a13).tdiv (a16 + 1) + 1)) (if a15 > 0 then min (armV a0 a1 a2 a4 a6) ((1000 * a14).tdiv a15) else armV a0 a1 a2 a4 a6) p0)).1 by omega, show max 0 (AF.val (aheA a0 a1 a2 a3 a4 a5 a6 a7 a8 a9 a10 a11 a12 (max (armV a0 a1 a2 a3 a5) ((1000 * a13).tdiv (a16 + 1) + 1)) (if a15 > 0 then min (armV a0 a1 a2 a4 a6) ((1000 * a14).tdiv a15) else armV a0 a1 a2 a4 a6) p0)).2 = (AF.val (aheA a0 a1 a2 a3 a4 a5 a6 a7 a8 a9 a10 a11 a12 (max (armV a0 a1 a2 a3 a5) ((1000 * a13).tdiv (a16 + 1) + 1)) (if a15 > 0 then min (armV a0 a1 a2 a4 a6) ((1000 * a14).tdiv a15) else armV a0 a1 a2 a4 a6) p0)).2 by omega]
            exact k
          · exact Hull.join hH hR hN
        · have c := cmLeqF.1 c
          have hR : NoneP (fun t h => t = p0 ∧ a5 ≤ h ∧ h ≤ a6) (fun t h => canP a0 a1 a2 a13 a14 a15 a16 t h) := fun t h x y => by
            obtain ⟨rfl, y1, y2⟩ := x
            have := (f3 h y1 y2).1 y
            omega
          refine ⟨⟨⟨rfl, rfl, rfl, rfl, rfl, rfl, rfl, rfl, rfl, rfl, rfl, rfl, rfl, rfl, rfl⟩, by rw [ad]; omega, ?_⟩, M ad⟩
          show (NoneP (fun t h => (a3 ≤ t ∧ t < (Ar.run .add .i64 p0 1)) ∧ a5 ≤ h ∧ h ≤ a6) _ ∧ _) ∨ Hull (fun t h => (a3 ≤ t ∧ t < (Ar.run .add .i64 p0 1)) ∧ a5 ≤ h ∧ h ≤ a6) _ p1 p2 p3 p4
          rw [ad]
          rcases hS with ⟨hE, e⟩ | hH
          · exact .inl ⟨NoneP.more hE hR hN, e⟩
          · exact .inr (Hull.more hH hR hN)
      · have g := cmLeqF.1 g
        obtain rfl : p0 = a4 + 1 := by omega
        have hD : ∀ t h, ((a3 ≤ t ∧ t ≤ a4) ∧ a5 ≤ h ∧ h ≤ a6) ↔ ((a3 ≤ t ∧ t < a4 + 1) ∧ a5 ≤ h ∧ h ≤ a6) := fun t h => by omega
        rcases hS with ⟨hE, rfl, rfl, rfl, rfl⟩ | hH
        · exact ⟨fun _ => .inl ⟨fun t h x => hE t h ((hD t h).1 x), rfl⟩, fun c => absurd (cmGtrF.1 c) (by decide)⟩
        · refine ⟨fun c => ?_, fun _ => .inr ⟨_, _, _, _, hH.to hD, rfl⟩⟩
          have c := cmGtr.1 c
          obtain ⟨t, x, y, z, _⟩ := hH.e1
          have := hH.all t x y z
          omega
  · obtain ⟨c1, c2, _⟩ := abc_val a0 a1 a2 a3 a4 a5 a6 a7 a8 a9 a10 a11 a12
    obtain ⟨o1, o2⟩ := ato_val a0 a1 a2 a3 a4 a5 a6 a7 a8 a9 a10 a11 a12 a13 a14 a15 a16 h hv
    show DD.sat _ _ (aleD0 a0 a1 a2 a3 a4 a5 a6 a7 a8 a9 a10 a11 a12 a13 a14 a15 a16)
    unfold aleD0
    rw [c1, c2 h, o1, o2]
    have b1 : Cm.run .leq 0 a13 = true := cmLeq.2 (by omega)
    have b2 : Cm.run .leq a13 a14 = true := cmLeq.2 (by omega)
    have b3 : Cm.run .leq a14 10000000000000 = true := cmLeq.2 (by omega)
    have b4 : Cm.run .leq 0 a15 = true := cmLeq.2 (by omega)
    have b5 : Cm.run .leq a15 a16 = true := cmLeq.2 (by omega)
    have b6 : Cm.run .leq a16 100000000 = true := cmLeq.2 (by omega)
    have n0 : Cm.run .neq 0 0 = false := by decide
    simp only [DD.sat, b1, b2, b3, b4, b5, b6, n0, Bool.false_eq_true, reduceCtorEq, false_imp_iff, true_imp_iff, true_and, and_true, forall_const]
    exact ⟨⟨rfl, rfl, rfl, rfl, rfl, rfl, rfl, rfl, rfl, rfl, rfl, rfl, rfl, rfl, rfl⟩, by omega, .inl ⟨fun t h x => by omega, rfl, rfl, rfl, rfl⟩⟩

theorem ale_range (h : KindP a0 a1 a2 a3 a4 a5 a6 a7 a8 a9 a10 a11 a12) (hv : ¬ ((0 ≤ a13 ∧ a13 ≤ a14 ∧ a14 ≤ 10000000000000) ∧ (0 ≤ a15 ∧ a15 ≤ a16 ∧ a16 ≤ 100000000))) : AF.fin (aleA a0 a1 a2 a3 a4 a5 a6 a7 a8 a9 a10 a11 a12 a13 a14 a15 a16) = true ∧ AF.val (aleA a0 a1 a2 a3 a4 a5 a6 a7 a8 a9 a10 a11 a12 a13 a14 a15 a16) = (0, 0, 0, 0, 3) :=
  AF.val_sat (Inv := fun _ => False) (E := fun (v : aleR) => v = (0, 0, 0, 0, 3)) (fun _ => 0) (fun _ => rfl) (fun a hI => hI.elim) (by
    obtain ⟨c1, c2, _⟩ := abc_val a0 a1 a2 a3 a4 a5 a6 a7 a8 a9 a10 a11 a12
    show DD.sat _ _ (aleD0 a0 a1 a2 a3 a4 a5 a6 a7 a8 a9 a10 a11 a12 a13 a14 a15 a16)
    unfold aleD0
    rw [c1, c2 h]
    have n0 : Cm.run .neq 0 0 = false := by decide
    clear c1 c2 h
    simp only [DD.sat, n0, cmLss, cmLeq, cmGtr, cmGeq, cmEql, cmNeq, cmLssF, cmLeqF, cmGtrF, cmGeqF, cmEqlF, cmNeqF, Bool.false_eq_true, reduceCtorEq, false_imp_iff, true_imp_iff, true_and, and_true, forall_const]
    repeat' (first | (intro _) | (apply And.intro))
    all_goals first | trivial | (exfalso; omega))
theorem ale_bad (h : ¬ KindP a0 a1 a2 a3 a4 a5 a6 a7 a8 a9 a10 a11 a12) : AF.fin (aleA a0 a1 a2 a3 a4 a5 a6 a7 a8 a9 a10 a11 a12 a13 a14 a15 a16) = true ∧ AF.val (aleA a0 a1 a2 a3 a4 a5 a6 a7 a8 a9 a10 a11 a12 a13 a14 a15 a16) = (0, 0, 0, 0, 2) :=
  AF.val_sat (Inv := fun _ => False) (E := fun (v : aleR) => v = (0, 0, 0, 0, 2)) (fun _ => 0) (fun _ => rfl) (fun a hI => hI.elim) (by
    obtain ⟨c1, _, c3⟩ := abc_val a0 a1 a2 a3 a4 a5 a6 a7 a8 a9 a10 a11 a12
    show DD.sat _ _ (aleD0 a0 a1 a2 a3 a4 a5 a6 a7 a8 a9 a10 a11 a12 a13 a14 a15 a16)
    unfold aleD0
    rw [c1, c3 h]
    refine ⟨rfl, fun _ => ⟨fun _ => rfl, fun h => absurd (cmNeqF.1 h) (by decide)⟩, fun h => absurd (cmNeqF.1 h) (by decide)⟩)
end
end Go.Proofs.Ytgnmdknbnkljbaa.Cx

/- acme/acmeref09.Learn as an automaton. Made by tools/cxauto.py. -/
namespace Go.Proofs.Ytgnmdknbnkljbaa.Cx
set_option linter.unusedVariables false
set_option linter.unusedSimpArgs false
set_option maxRecDepth 100000
open Go Go.Proofs Go.RowKit

noncomputable abbrev arlCode : Code := funcCode Try.f34


inductive arlN where
  | n0 (p0 : Bool) (p1 : Int) (p2 : Int) (p3 : Int) (p4 : Int) (p5 : Int)
  | n1 (p0 : Bool) (p1 : Int) (p2 : Int) (p3 : Int) (p4 : Int) (p5 : Int) (p6 : Int)

abbrev arlR := Int × Int × Int × Int × Bool

noncomputable def arlD0 (a0 : Int) (a1 : Int) (a2 : Int) (a3 : Int) (a4 : Int) (a5 : Int) (a6 : Int) (a7 : Int) (a8 : Int) (a9 : Int) (a10 : Int) (a11 : Int) (a12 : Int) (a13 : Int) (a14 : Int) (a15 : Int) (a16 : Int) : DD (Lf arlN arlR) :=
 .leaf (.next (.n0 false a3 0 0 0 0) [0, 1, 2, 3, 4, 5, 6])

noncomputable def arlD (a0 : Int) (a1 : Int) (a2 : Int) (a3 : Int) (a4 : Int) (a5 : Int) (a6 : Int) (a7 : Int) (a8 : Int) (a9 : Int) (a10 : Int) (a11 : Int) (a12 : Int) (a13 : Int) (a14 : Int) (a15 : Int) (a16 : Int) : arlN → DD (Lf arlN arlR)
 | .n0 p0 p1 p2 p3 p4 p5 =>
 .ask (Cm.run Cm.leq p1 a4)
   (.leaf (.next (.n1 p0 p1 a5 p2 p3 p4 p5) [0, 1, 2, 3, 4, 5, 6]))
   (.leaf (.done (p2, p3, p4, p5, p0) []))
 | .n1 p0 p1 p2 p3 p4 p5 p6 =>
 .ask (Cm.run Cm.leq p2 a6)
   (.must (AF.fin (acaA a0 a1 a2 a3 a4 a5 a6 a7 a8 a9 a10 a11 a12 p1 p2 a13 a14 a15 a16))
   (.ask (!AF.val (acaA a0 a1 a2 a3 a4 a5 a6 a7 a8 a9 a10 a11 a12 p1 p2 a13 a14 a15 a16))
   (.leaf (.next (.n1 p0 p1 (Ar.run Ar.add IntKind.i64 p2 1) p3 p4 p5 p6) [0, 1, 2, 3, 4, 5, 6]))
   (.ask (!p0)
   (.leaf (.next (.n1 true p1 (Ar.run Ar.add IntKind.i64 p2 1) (Ar.run Ar.mn IntKind.i64 p1 p1) (Ar.run Ar.mx IntKind.i64 p1 p1) (Ar.run Ar.mn IntKind.i64 p2 p2) (Ar.run Ar.mx IntKind.i64 p2 p2)) [0, 1, 2, 3, 4, 5, 6]))
   (.leaf (.next (.n1 p0 p1 (Ar.run Ar.add IntKind.i64 p2 1) (Ar.run Ar.mn IntKind.i64 p3 p1) (Ar.run Ar.mx IntKind.i64 p4 p1) (Ar.run Ar.mn IntKind.i64 p5 p2) (Ar.run Ar.mx IntKind.i64 p6 p2)) [0, 1, 2, 3, 4, 5, 6])))))
   (.leaf (.next (.n0 p0 (Ar.run Ar.add IntKind.i64 p1 1) p3 p4 p5 p6) [0, 1, 2, 3, 4, 5, 6]))

noncomputable def arlA (a0 : Int) (a1 : Int) (a2 : Int) (a3 : Int) (a4 : Int) (a5 : Int) (a6 : Int) (a7 : Int) (a8 : Int) (a9 : Int) (a10 : Int) (a11 : Int) (a12 : Int) (a13 : Int) (a14 : Int) (a15 : Int) (a16 : Int) : AF arlN arlR where
  code := arlCode
  base := 0
  nt := 73
  m := 400
  un := []
  W := []
  h0 := []
  args := [.agg [.int .i64 (.x a0), .int .i64 (.x a1), .int .i64 (.x a2), .int .i64 (.x a3), .int .i64 (.x a4), .int .i64 (.x a5), .int .i64 (.x a6), .int .i64 (.x a7), .int .i64 (.x a8), .int .i64 (.x a9), .int .i64 (.x a10), .int .i64 (.x a11), .int .i64 (.x a12)], .agg [.int .i64 (.x a13), .int .i64 (.x a14)], .agg [.int .i64 (.x a15), .int .i64 (.x a16)]]
  res := (Try.f34).results.toList
  path := fun a => match a with
   | .n0 p0 p1 p2 p3 p4 p5 => [1, 1, 0, 1, 0]
   | .n1 p0 p1 p2 p3 p4 p5 p6 => [1, 1, 0, 1, 0, 0, 1, 0, 0, 1, 0]
  pd := fun a => match a with
   | .n0 p0 p1 p2 p3 p4 p5 => ⟨[(3, .ptr (some (0, 0))), (4, .ptr (some (1, 0))), (5, .ptr (some (2, 0))), (6, .ptr (some (3, 0))), (7, .ptr (some (4, 0))), (9, .ptr (some (5, 0))), (10, .ptr (some (6, 0))), (11, .bool (.x p0)), (12, .int .i64 (.x p1))], [(0, ⟨.lit [.int .i64 (.x a0), .int .i64 (.x a1), .int .i64 (.x a2), .int .i64 (.x a3), .int .i64 (.x a4), .int .i64 (.x a5), .int .i64 (.x a6), .int .i64 (.x a7), .int .i64 (.x a8), .int .i64 (.x a9), .int .i64 (.x a10), .int .i64 (.x a11), .int .i64 (.x a12)], 0, true, none⟩), (1, ⟨.lit [.int .i64 (.x a13), .int .i64 (.x a14)], 0, true, none⟩), (2, ⟨.lit [.int .i64 (.x a15), .int .i64 (.x a16)], 0, true, none⟩), (3, ⟨.lit [.int .i64 (.x 0), .int .i64 (.x 0)], 0, true, none⟩), (4, ⟨.lit [.int .i64 (.x 0), .int .i64 (.x 0)], 0, true, none⟩), (5, ⟨.lit [.int .i64 (.x p2), .int .i64 (.x p3)], 0, true, none⟩), (6, ⟨.lit [.int .i64 (.x p4), .int .i64 (.x p5)], 0, true, none⟩)], 7, []⟩
   | .n1 p0 p1 p2 p3 p4 p5 p6 => ⟨[(3, .ptr (some (0, 0))), (4, .ptr (some (1, 0))), (5, .ptr (some (2, 0))), (6, .ptr (some (3, 0))), (7, .ptr (some (4, 0))), (9, .ptr (some (5, 0))), (10, .ptr (some (6, 0))), (11, .bool (.x p0)), (12, .int .i64 (.x p1)), (13, .int .i64 (.x p2))], [(0, ⟨.lit [.int .i64 (.x a0), .int .i64 (.x a1), .int .i64 (.x a2), .int .i64 (.x a3), .int .i64 (.x a4), .int .i64 (.x a5), .int .i64 (.x a6), .int .i64 (.x a7), .int .i64 (.x a8), .int .i64 (.x a9), .int .i64 (.x a10), .int .i64 (.x a11), .int .i64 (.x a12)], 0, true, none⟩), (1, ⟨.lit [.int .i64 (.x a13), .int .i64 (.x a14)], 0, true, none⟩), (2, ⟨.lit [.int .i64 (.x a15), .int .i64 (.x a16)], 0, true, none⟩), (3, ⟨.lit [.int .i64 (.x 0), .int .i64 (.x 0)], 0, true, none⟩), (4, ⟨.lit [.int .i64 (.x 0), .int .i64 (.x 0)], 0, true, none⟩), (5, ⟨.lit [.int .i64 (.x p3), .int .i64 (.x p4)], 0, true, none⟩), (6, ⟨.lit [.int .i64 (.x p5), .int .i64 (.x p6)], 0, true, none⟩)], 7, []⟩
  D0 := arlD0 a0 a1 a2 a3 a4 a5 a6 a7 a8 a9 a10 a11 a12 a13 a14 a15 a16
  D := arlD a0 a1 a2 a3 a4 a5 a6 a7 a8 a9 a10 a11 a12 a13 a14 a15 a16
  rc := (fun v => .tup [.agg [.int .i64 (.x v.1), .int .i64 (.x v.2.1)], .agg [.int .i64 (.x v.2.2.1), .int .i64 (.x v.2.2.2.1)], .bool (.x v.2.2.2.2)])
  rh := (fun v => [])
  rn := (fun v => 0)
  rx := (fun v => [])
  rgo := (fun _ => none)


theorem arlstart (a0 : Int) (a1 : Int) (a2 : Int) (a3 : Int) (a4 : Int) (a5 : Int) (a6 : Int) (a7 : Int) (a8 : Int) (a9 : Int) (a10 : Int) (a11 : Int) (a12 : Int) (a13 : Int) (a14 : Int) (a15 : Int) (a16 : Int) : AF.edgeOk (arlA a0 a1 a2 a3 a4 a5 a6 a7 a8 a9 a10 a11 a12 a13 a14 a15 a16) (ctxOf Try.prog memo0) (arlD0 a0 a1 a2 a3 a4 a5 a6 a7 a8 a9 a10 a11 a12 a13 a14 a15 a16) (AF.run0 (arlA a0 a1 a2 a3 a4 a5 a6 a7 a8 a9 a10 a11 a12 a13 a14 a15 a16) (ctxOf Try.prog (memoA 79 acaP acaF memo0))) := by unfold AF.edgeOk; kernel_rfl

theorem arlnode0 (a0 : Int) (a1 : Int) (a2 : Int) (a3 : Int) (a4 : Int) (a5 : Int) (a6 : Int) (a7 : Int) (a8 : Int) (a9 : Int) (a10 : Int) (a11 : Int) (a12 : Int) (a13 : Int) (a14 : Int) (a15 : Int) (a16 : Int) (p0 : Bool) (p1 : Int) (p2 : Int) (p3 : Int) (p4 : Int) (p5 : Int) : AF.edgeOk (arlA a0 a1 a2 a3 a4 a5 a6 a7 a8 a9 a10 a11 a12 a13 a14 a15 a16) (ctxOf Try.prog memo0) (arlD a0 a1 a2 a3 a4 a5 a6 a7 a8 a9 a10 a11 a12 a13 a14 a15 a16 (.n0 p0 p1 p2 p3 p4 p5)) (AF.runN (arlA a0 a1 a2 a3 a4 a5 a6 a7 a8 a9 a10 a11 a12 a13 a14 a15 a16) (ctxOf Try.prog (memoA 79 acaP acaF memo0)) (.n0 p0 p1 p2 p3 p4 p5)) := by unfold AF.edgeOk; kernel_rfl

theorem arlnode1 (a0 : Int) (a1 : Int) (a2 : Int) (a3 : Int) (a4 : Int) (a5 : Int) (a6 : Int) (a7 : Int) (a8 : Int) (a9 : Int) (a10 : Int) (a11 : Int) (a12 : Int) (a13 : Int) (a14 : Int) (a15 : Int) (a16 : Int) (p0 : Bool) (p1 : Int) (p2 : Int) (p3 : Int) (p4 : Int) (p5 : Int) (p6 : Int) : AF.edgeOk (arlA a0 a1 a2 a3 a4 a5 a6 a7 a8 a9 a10 a11 a12 a13 a14 a15 a16) (ctxOf Try.prog memo0) (arlD a0 a1 a2 a3 a4 a5 a6 a7 a8 a9 a10 a11 a12 a13 a14 a15 a16 (.n1 p0 p1 p2 p3 p4 p5 p6)) (AF.runN (arlA a0 a1 a2 a3 a4 a5 a6 a7 a8 a9 a10 a11 a12 a13 a14 a15 a16) (ctxOf Try.prog (memoA 79 acaP acaF memo0)) (.n1 p0 p1 p2 p3 p4 p5 p6)) := by unfold AF.edgeOk; kernel_rfl

theorem arlok (a0 : Int) (a1 : Int) (a2 : Int) (a3 : Int) (a4 : Int) (a5 : Int) (a6 : Int) (a7 : Int) (a8 : Int) (a9 : Int) (a10 : Int) (a11 : Int) (a12 : Int) (a13 : Int) (a14 : Int) (a15 : Int) (a16 : Int) : (arlA a0 a1 a2 a3 a4 a5 a6 a7 a8 a9 a10 a11 a12 a13 a14 a15 a16).Ok Try.prog (ctxOf Try.prog (memoA 79 acaP acaF memo0)) where
  regs := by kernel_rfl
  h0 := by kernel_rfl
  start := arlstart a0 a1 a2 a3 a4 a5 a6 a7 a8 a9 a10 a11 a12 a13 a14 a15 a16
  node := fun a _ => match a with
   | .n0 p0 p1 p2 p3 p4 p5 => arlnode0 a0 a1 a2 a3 a4 a5 a6 a7 a8 a9 a10 a11 a12 a13 a14 a15 a16 p0 p1 p2 p3 p4 p5
   | .n1 p0 p1 p2 p3 p4 p5 p6 => arlnode1 a0 a1 a2 a3 a4 a5 a6 a7 a8 a9 a10 a11 a12 a13 a14 a15 a16 p0 p1 p2 p3 p4 p5 p6
  pd := fun a => match a with
   | .n0 p0 p1 p2 p3 p4 p5 => ⟨(fa_cons rfl (fa_cons rfl (fa_cons rfl (fa_cons rfl (fa_cons rfl (fa_cons rfl (fa_cons rfl (fa_cons rfl (fa_cons rfl fa_nil))))))))), (fa_cons ⟨.inl (Nat.le_of_ble_eq_true rfl), rfl, rfl⟩ (fa_cons ⟨.inl (Nat.le_of_ble_eq_true rfl), rfl, rfl⟩ (fa_cons ⟨.inl (Nat.le_of_ble_eq_true rfl), rfl, rfl⟩ (fa_cons ⟨.inl (Nat.le_of_ble_eq_true rfl), rfl, rfl⟩ (fa_cons ⟨.inl (Nat.le_of_ble_eq_true rfl), rfl, rfl⟩ (fa_cons ⟨.inl (Nat.le_of_ble_eq_true rfl), rfl, rfl⟩ (fa_cons ⟨.inl (Nat.le_of_ble_eq_true rfl), rfl, rfl⟩ fa_nil))))))), fa_nil, rfl⟩
   | .n1 p0 p1 p2 p3 p4 p5 p6 => ⟨(fa_cons rfl (fa_cons rfl (fa_cons rfl (fa_cons rfl (fa_cons rfl (fa_cons rfl (fa_cons rfl (fa_cons rfl (fa_cons rfl (fa_cons rfl fa_nil)))))))))), (fa_cons ⟨.inl (Nat.le_of_ble_eq_true rfl), rfl, rfl⟩ (fa_cons ⟨.inl (Nat.le_of_ble_eq_true rfl), rfl, rfl⟩ (fa_cons ⟨.inl (Nat.le_of_ble_eq_true rfl), rfl, rfl⟩ (fa_cons ⟨.inl (Nat.le_of_ble_eq_true rfl), rfl, rfl⟩ (fa_cons ⟨.inl (Nat.le_of_ble_eq_true rfl), rfl, rfl⟩ (fa_cons ⟨.inl (Nat.le_of_ble_eq_true rfl), rfl, rfl⟩ (fa_cons ⟨.inl (Nat.le_of_ble_eq_true rfl), rfl, rfl⟩ fa_nil))))))), fa_nil, rfl⟩
  le := fun a => match a with
   | .n0 p0 p1 p2 p3 p4 p5 => Nat.le_of_ble_eq_true rfl
   | .n1 p0 p1 p2 p3 p4 p5 p6 => Nat.le_of_ble_eq_true rfl
  rd := fun v => ⟨⟨fa_nil, fa_nil, fa_nil, rfl⟩, rfl⟩
  wb := rfl


theorem arlhR {ρ : Env} (a0 : Int) (a1 : Int) (a2 : Int) (a3 : Int) (a4 : Int) (a5 : Int) (a6 : Int) (a7 : Int) (a8 : Int) (a9 : Int) (a10 : Int) (a11 : Int) (a12 : Int) (a13 : Int) (a14 : Int) (a15 : Int) (a16 : Int) (hM : MemoOk Try.prog (ctxOf Try.prog (memoA 79 acaP acaF memo0)) ρ) : ∀ X a q n D, FxOk ρ X → X.base = (arlA a0 a1 a2 a3 a4 a5 a6 a7 a8 a9 a10 a11 a12 a13 a14 a15 a16).base → X.nt = (arlA a0 a1 a2 a3 a4 a5 a6 a7 a8 a9 a10 a11 a12 a13 a14 a15 a16).nt → X.W = (arlA a0 a1 a2 a3 a4 a5 a6 a7 a8 a9 a10 a11 a12 a13 a14 a15 a16).W → (arlA a0 a1 a2 a3 a4 a5 a6 a7 a8 a9 a10 a11 a12 a13 a14 a15 a16).rgo a = some q → q n = some D → (arlA a0 a1 a2 a3 a4 a5 a6 a7 a8 a9 a10 a11 a12 a13 a14 a15 a16).RangeOk Try.prog ρ X a D := AF.noRange rfl

theorem arlctr {ρ : Env} (a0 : Int) (a1 : Int) (a2 : Int) (a3 : Int) (a4 : Int) (a5 : Int) (a6 : Int) (a7 : Int) (a8 : Int) (a9 : Int) (a10 : Int) (a11 : Int) (a12 : Int) (a13 : Int) (a14 : Int) (a15 : Int) (a16 : Int) {n : Nat} {v : arlR} (hM : MemoOk Try.prog (ctxOf Try.prog (memoA 79 acaP acaF memo0)) ρ) (hv : (arlA a0 a1 a2 a3 a4 a5 a6 a7 a8 a9 a10 a11 a12 a13 a14 a15 a16).run n = some v) :
    Ctr Try.prog ρ 34 (arlA a0 a1 a2 a3 a4 a5 a6 a7 a8 a9 a10 a11 a12 a13 a14 a15 a16).args (arlA a0 a1 a2 a3 a4 a5 a6 a7 a8 a9 a10 a11 a12 a13 a14 a15 a16).H0 (arlA a0 a1 a2 a3 a4 a5 a6 a7 a8 a9 a10 a11 a12 a13 a14 a15 a16).base (arlA a0 a1 a2 a3 a4 a5 a6 a7 a8 a9 a10 a11 a12 a13 a14 a15 a16).W ((arlA a0 a1 a2 a3 a4 a5 a6 a7 a8 a9 a10 a11 a12 a13 a14 a15 a16).rc v) (putH (arlA a0 a1 a2 a3 a4 a5 a6 a7 a8 a9 a10 a11 a12 a13 a14 a15 a16).H0 ((arlA a0 a1 a2 a3 a4 a5 a6 a7 a8 a9 a10 a11 a12 a13 a14 a15 a16).rh v ++ (arlA a0 a1 a2 a3 a4 a5 a6 a7 a8 a9 a10 a11 a12 a13 a14 a15 a16).rx v)) ((arlA a0 a1 a2 a3 a4 a5 a6 a7 a8 a9 a10 a11 a12 a13 a14 a15 a16).rn v) :=
  AF.ctr try_ok hM (arlok a0 a1 a2 a3 a4 a5 a6 a7 a8 a9 a10 a11 a12 a13 a14 a15 a16) (fn := Try.f34) Try.func34 rfl rfl (Nat.le_of_ble_eq_true rfl) rfl (arlhR a0 a1 a2 a3 a4 a5 a6 a7 a8 a9 a10 a11 a12 a13 a14 a15 a16 hM) hv


theorem arlmem {ρ : Env} : MemoOk Try.prog (ctxOf Try.prog (memoA 79 acaP acaF memo0)) ρ := (memoA_ok (acaknown acamem) memo0_ok)


abbrev arlP : List AP := [.agg [.int .i64, .int .i64, .int .i64, .int .i64, .int .i64, .int .i64, .int .i64, .int .i64, .int .i64, .int .i64, .int .i64, .int .i64, .int .i64], .agg [.int .i64, .int .i64], .agg [.int .i64, .int .i64]]
noncomputable def arlF (v : AV) : AF arlN arlR := arlA (v.i.getD 0 0) (v.i.getD 1 0) (v.i.getD 2 0) (v.i.getD 3 0) (v.i.getD 4 0) (v.i.getD 5 0) (v.i.getD 6 0) (v.i.getD 7 0) (v.i.getD 8 0) (v.i.getD 9 0) (v.i.getD 10 0) (v.i.getD 11 0) (v.i.getD 12 0) (v.i.getD 13 0) (v.i.getD 14 0) (v.i.getD 15 0) (v.i.getD 16 0)
theorem arlknown {ρ : Env} (hM : MemoOk Try.prog (ctxOf Try.prog (memoA 79 acaP acaF memo0)) ρ) : KnownA Try.prog ρ 34 arlP arlF where
  fn := ⟨Try.f34, Try.func34, rfl⟩
  args := fun v => rfl
  plain := fun v r => rfl
  ctr := fun v n r h => arlctr (v.i.getD 0 0) (v.i.getD 1 0) (v.i.getD 2 0) (v.i.getD 3 0) (v.i.getD 4 0) (v.i.getD 5 0) (v.i.getD 6 0) (v.i.getD 7 0) (v.i.getD 8 0) (v.i.getD 9 0) (v.i.getD 10 0) (v.i.getD 11 0) (v.i.getD 12 0) (v.i.getD 13 0) (v.i.getD 14 0) (v.i.getD 15 0) (v.i.getD 16 0) hM h

end Go.Proofs.Ytgnmdknbnkljbaa.Cx

/- acmeref09.Learn: the least spans of frictions that are told. Made by tools/gen_bcon.py. -/
namespace Go.Proofs.Ytgnmdknbnkljbaa.Cx
set_option linter.unusedVariables false
set_option linter.unusedSimpArgs false
set_option maxRecDepth 100000
set_option maxHeartbeats 4000000
open Go Go.RowKit

/-- The spans so far. -/
def StL (D P : Int → Int → Prop) (ok : Bool) (x1 x2 y1 y2 : Int) : Prop := (ok = false ∧ NoneP D P ∧ x1 = 0 ∧ x2 = 0 ∧ y1 = 0 ∧ y2 = 0) ∨ (ok = true ∧ Hull D P x1 x2 y1 y2)
theorem StL.to {D D' P : Int → Int → Prop} {ok : Bool} {a b c d : Int} (h : StL D P ok a b c d) (e : ∀ t h, D' t h ↔ D t h) : StL D' P ok a b c d := by
  rcases h with ⟨h1, h2, h3⟩ | ⟨h1, h2⟩
  · exact .inl ⟨h1, fun t s x => h2 t s ((e t s).1 x), h3⟩
  · exact .inr ⟨h1, h2.to e⟩
section
variable {a0 a1 a2 a3 a4 a5 a6 a7 a8 a9 a10 a11 a12 a13 a14 a15 a16 : Int}
def arlInv (a0 a1 a2 a3 a4 a5 a6 a7 a8 a9 a10 a11 a12 a13 a14 a15 a16 : Int) : arlN → Prop
  | .n0 p0 p1 p2 p3 p4 p5 => (a3 ≤ p1 ∧ p1 ≤ a4 + 1) ∧ StL (fun t h => (a3 ≤ t ∧ t < p1) ∧ a5 ≤ h ∧ h ≤ a6) (fun t h => canP a0 a1 a2 a13 a14 a15 a16 t h) p0 p2 p3 p4 p5
  | .n1 p0 p1 p2 p3 p4 p5 p6 => (a3 ≤ p1 ∧ p1 ≤ a4) ∧ (a5 ≤ p2 ∧ p2 ≤ a6 + 1) ∧ StL (fun t h => ((a3 ≤ t ∧ t < p1) ∧ a5 ≤ h ∧ h ≤ a6) ∨ (t = p1 ∧ a5 ≤ h ∧ h < p2)) (fun t h => canP a0 a1 a2 a13 a14 a15 a16 t h) p0 p3 p4 p5 p6
def arlMu (a4 a5 : Int) : arlN → Nat
  | .n0 _ p1 .. => ((a4 + 1 - p1) * 3000).toNat
  | .n1 _ p1 p2 .. => ((a4 + 1 - p1) * 3000 - (p2 - a5) - 1).toNat

theorem arl_ok (h : KindP a0 a1 a2 a3 a4 a5 a6 a7 a8 a9 a10 a11 a12) (hv : ((0 ≤ a13 ∧ a13 ≤ a14 ∧ a14 ≤ 10000000000000) ∧ (0 ≤ a15 ∧ a15 ≤ a16 ∧ a16 ≤ 100000000))) : AF.fin (arlA a0 a1 a2 a3 a4 a5 a6 a7 a8 a9 a10 a11 a12 a13 a14 a15 a16) = true ∧ StL (fun t h => (a3 ≤ t ∧ t ≤ a4) ∧ a5 ≤ h ∧ h ≤ a6) (fun t h => canP a0 a1 a2 a13 a14 a15 a16 t h) (AF.val (arlA a0 a1 a2 a3 a4 a5 a6 a7 a8 a9 a10 a11 a12 a13 a14 a15 a16)).2.2.2.2 (AF.val (arlA a0 a1 a2 a3 a4 a5 a6 a7 a8 a9 a10 a11 a12 a13 a14 a15 a16)).1 (AF.val (arlA a0 a1 a2 a3 a4 a5 a6 a7 a8 a9 a10 a11 a12 a13 a14 a15 a16)).2.1 (AF.val (arlA a0 a1 a2 a3 a4 a5 a6 a7 a8 a9 a10 a11 a12 a13 a14 a15 a16)).2.2.1 (AF.val (arlA a0 a1 a2 a3 a4 a5 a6 a7 a8 a9 a10 a11 a12 a13 a14 a15 a16)).2.2.2.1 := by
  have h' := h
  unfold KindP at h'
  refine AF.val_sat (Inv := arlInv a0 a1 a2 a3 a4 a5 a6 a7 a8 a9 a10 a11 a12 a13 a14 a15 a16) (E := fun (v : arlR) => StL (fun t h => (a3 ≤ t ∧ t ≤ a4) ∧ a5 ≤ h ∧ h ≤ a6) (fun t h => canP a0 a1 a2 a13 a14 a15 a16 t h) v.2.2.2.2 v.1 v.2.1 v.2.2.1 v.2.2.2.1) (arlMu a4 a5) (fun _ => rfl) (fun a hI => ?_) ?_
  · cases a with
    | n0 p0 p1 p2 p3 p4 p5 =>
      obtain ⟨hp, hS⟩ := hI
      refine ⟨fun g => ?_, fun g => ?_⟩
      · have g := cmLeq.1 g
        refine ⟨⟨by omega, by omega, hS.to (fun t h => by omega)⟩, ?_⟩
        show ((a4 + 1 - p1) * 3000 - (a5 - a5) - 1).toNat < ((a4 + 1 - p1) * 3000).toNat
        omega
      · have g := cmLeqF.1 g
        exact hS.to (fun t h => by omega)
    | n1 p0 p1 p2 p3 p4 p5 p6 =>
      obtain ⟨hp, hq, hS⟩ := hI
      refine ⟨fun g => ?_, fun g => ?_⟩
      · have g := cmLeq.1 g
        obtain ⟨f1, f2⟩ := aca_val a0 a1 a2 a3 a4 a5 a6 a7 a8 a9 a10 a11 a12 p1 p2 a13 a14 a15 a16 h (by omega) (by omega) hv.1 hv.2
        have ad : Ar.run .add .i64 p2 1 = p2 + 1 := arAdd (by omega)
        have hN : ∀ t h, (((a3 ≤ t ∧ t < p1) ∧ a5 ≤ h ∧ h ≤ a6) ∨ (t = p1 ∧ a5 ≤ h ∧ h < p2 + 1)) ↔ (((a3 ≤ t ∧ t < p1) ∧ a5 ≤ h ∧ h ≤ a6) ∨ (t = p1 ∧ a5 ≤ h ∧ h < p2)) ∨ (t = p1 ∧ h = p2) := fun t h => by omega
        have M : ∀ {ok : Bool} {x y z u : Int}, arlMu a4 a5 (.n1 ok p1 (Ar.run .add .i64 p2 1) x y z u) < arlMu a4 a5 (.n1 p0 p1 p2 p3 p4 p5 p6) := by intros; show ((a4 + 1 - p1) * 3000 - (Ar.run .add .i64 p2 1 - a5) - 1).toNat < ((a4 + 1 - p1) * 3000 - (p2 - a5) - 1).toNat; rw [ad]; omega
        have I : ∀ {ok : Bool} {x y z u : Int}, StL (fun t h => ((a3 ≤ t ∧ t < p1) ∧ a5 ≤ h ∧ h ≤ a6) ∨ (t = p1 ∧ a5 ≤ h ∧ h < (p2 + 1))) (fun t h => canP a0 a1 a2 a13 a14 a15 a16 t h) ok x y z u → arlInv a0 a1 a2 a3 a4 a5 a6 a7 a8 a9 a10 a11 a12 a13 a14 a15 a16 (.n1 ok p1 (Ar.run .add .i64 p2 1) x y z u) ∧ arlMu a4 a5 (.n1 ok p1 (Ar.run .add .i64 p2 1) x y z u) < arlMu a4 a5 (.n1 p0 p1 p2 p3 p4 p5 p6) := fun k => ⟨⟨hp, by rw [ad]; omega, by rw [ad]; exact k⟩, M⟩
        refine ⟨f1, fun c => ?_, fun c => ?_⟩
        · have hc : ¬ canP a0 a1 a2 a13 a14 a15 a16 p1 p2 := fun e => by rw [f2.2 e] at c; cases c
          have hR : NoneP (fun t h => t = p1 ∧ h = p2) (fun t h => canP a0 a1 a2 a13 a14 a15 a16 t h) := fun t h x y => by
            obtain ⟨rfl, rfl⟩ := x
            exact hc y
          refine I ?_
          rcases hS with ⟨h1, h2, h3⟩ | ⟨h1, h2⟩
          · exact .inl ⟨h1, NoneP.more h2 hR hN, h3⟩
          · exact .inr ⟨h1, Hull.more h2 hR hN⟩
        · have hc : canP a0 a1 a2 a13 a14 a15 a16 p1 p2 := f2.1 (by revert c; cases AF.val (acaA a0 a1 a2 a3 a4 a5 a6 a7 a8 a9 a10 a11 a12 p1 p2 a13 a14 a15 a16) <;> simp)
          have hR : Hull (fun t h => t = p1 ∧ h = p2) (fun t h => canP a0 a1 a2 a13 a14 a15 a16 t h) p1 p1 p2 p2 := ⟨fun t h x _ => by obtain ⟨rfl, rfl⟩ := x; omega, ⟨p1, p2, ⟨rfl, rfl⟩, hc, rfl⟩, ⟨p1, p2, ⟨rfl, rfl⟩, hc, rfl⟩, ⟨p1, p2, ⟨rfl, rfl⟩, hc, rfl⟩, ⟨p1, p2, ⟨rfl, rfl⟩, hc, rfl⟩⟩
          refine ⟨fun d => I ?_, fun d => I ?_⟩
          · rcases hS with ⟨h1, h2, h3⟩ | ⟨h1, h2⟩
            · rw [arMn, arMx, arMn, arMx, show min p1 p1 = p1 by omega, show max p1 p1 = p1 by omega, show min p2 p2 = p2 by omega, show max p2 p2 = p2 by omega]
              exact .inr ⟨rfl, Hull.first h2 hR hN⟩
            · rw [h1] at d; cases d
          · rcases hS with ⟨h1, h2, h3⟩ | ⟨h1, h2⟩
            · rw [h1] at d; cases d
            · rw [arMn, arMx, arMn, arMx]
              exact .inr ⟨h1, Hull.join h2 hR hN⟩
      · have g := cmLeqF.1 g
        have ad : Ar.run .add .i64 p1 1 = p1 + 1 := arAdd (by omega)
        refine ⟨⟨by rw [ad]; omega, by rw [ad]; exact hS.to (fun t h => by omega)⟩, ?_⟩
        show ((a4 + 1 - Ar.run .add .i64 p1 1) * 3000).toNat < ((a4 + 1 - p1) * 3000 - (p2 - a5) - 1).toNat
        rw [ad]
        omega
  · exact ⟨by omega, .inl ⟨rfl, fun t h x => by omega, rfl, rfl, rfl, rfl⟩⟩
end
end Go.Proofs.Ytgnmdknbnkljbaa.Cx

/- acme/acmeref09.Kind as an automaton. Made by tools/cxauto.py. -/
namespace Go.Proofs.Ytgnmdknbnkljbaa.Cx
set_option linter.unusedVariables false
set_option linter.unusedSimpArgs false
set_option maxRecDepth 100000
open Go Go.Proofs Go.RowKit

noncomputable abbrev abkCode : Code := funcCode Try.f16


abbrev abkN := Empty

abbrev abkR := Bool

noncomputable def abkD0 (a0 : Int) (a1 : Int) (a2 : Int) (a3 : Int) (a4 : Int) (a5 : Int) (a6 : Int) (a7 : Int) (a8 : Int) (a9 : Int) (a10 : Int) (a11 : Int) (a12 : Int) : DD (Lf abkN abkR) :=
 .ask (Cm.run Cm.geq a0 1)
   (.ask (Cm.run Cm.leq a0 100000)
   (.ask (Cm.run Cm.geq a1 0)
   (.ask (Cm.run Cm.leq a1 100000)
   (.ask (Cm.run Cm.geq a2 0)
   (.ask (Cm.run Cm.leq a2 100000)
   (.ask (Cm.run Cm.geq a3 0)
   (.ask (Cm.run Cm.leq a3 a4)
   (.ask (Cm.run Cm.leq a4 1000)
   (.ask (Cm.run Cm.geq a5 0)
   (.ask (Cm.run Cm.leq a5 a6)
   (.ask (Cm.run Cm.leq a6 1000)
   (.ask (Cm.run Cm.geq a7 1)
   (.ask (Cm.run Cm.leq a7 a8)
   (.ask (Cm.run Cm.leq a8 100000000)
   (.ask (Cm.run Cm.geq a9 1)
   (.ask (Cm.run Cm.leq a9 a10)
   (.ask (Cm.run Cm.leq a10 100000)
   (.ask (Cm.run Cm.geq a11 1)
   (.ask (Cm.run Cm.leq a11 a12)
   (.ask (Cm.run Cm.leq a12 100000000)
   (.leaf (.done true []))
   (.leaf (.done false [])))
   (.leaf (.done false [])))
   (.leaf (.done false [])))
   (.leaf (.done false [])))
   (.leaf (.done false [])))
   (.leaf (.done false [])))
   (.leaf (.done false [])))
   (.leaf (.done false [])))
   (.leaf (.done false [])))
   (.leaf (.done false [])))
   (.leaf (.done false [])))
   (.leaf (.done false [])))
   (.leaf (.done false [])))
   (.leaf (.done false [])))
   (.leaf (.done false [])))
   (.leaf (.done false [])))
   (.leaf (.done false [])))
   (.leaf (.done false [])))
   (.leaf (.done false [])))
   (.leaf (.done false [])))
   (.leaf (.done false []))

noncomputable def abkD (a0 : Int) (a1 : Int) (a2 : Int) (a3 : Int) (a4 : Int) (a5 : Int) (a6 : Int) (a7 : Int) (a8 : Int) (a9 : Int) (a10 : Int) (a11 : Int) (a12 : Int) : abkN → DD (Lf abkN abkR) := fun a => nomatch a

noncomputable def abkA (a0 : Int) (a1 : Int) (a2 : Int) (a3 : Int) (a4 : Int) (a5 : Int) (a6 : Int) (a7 : Int) (a8 : Int) (a9 : Int) (a10 : Int) (a11 : Int) (a12 : Int) : AF abkN abkR where
  code := abkCode
  base := 0
  nt := 41
  m := 400
  un := []
  W := []
  h0 := []
  args := [.agg [.int .i64 (.x a0), .int .i64 (.x a1), .int .i64 (.x a2), .int .i64 (.x a3), .int .i64 (.x a4), .int .i64 (.x a5), .int .i64 (.x a6), .int .i64 (.x a7), .int .i64 (.x a8), .int .i64 (.x a9), .int .i64 (.x a10), .int .i64 (.x a11), .int .i64 (.x a12)]]
  res := (Try.f16).results.toList
  path := fun a => nomatch a
  pd := fun a => nomatch a
  D0 := abkD0 a0 a1 a2 a3 a4 a5 a6 a7 a8 a9 a10 a11 a12
  D := abkD a0 a1 a2 a3 a4 a5 a6 a7 a8 a9 a10 a11 a12
  rc := (fun v => .bool (.x v))
  rh := (fun v => [])
  rn := (fun v => 0)
  rx := (fun v => [])
  rgo := (fun _ => none)


theorem abkstart (a0 : Int) (a1 : Int) (a2 : Int) (a3 : Int) (a4 : Int) (a5 : Int) (a6 : Int) (a7 : Int) (a8 : Int) (a9 : Int) (a10 : Int) (a11 : Int) (a12 : Int) : AF.edgeOk (abkA a0 a1 a2 a3 a4 a5 a6 a7 a8 a9 a10 a11 a12) (ctxOf Try.prog memo0) (abkD0 a0 a1 a2 a3 a4 a5 a6 a7 a8 a9 a10 a11 a12) (AF.run0 (abkA a0 a1 a2 a3 a4 a5 a6 a7 a8 a9 a10 a11 a12) (ctxOf Try.prog memo0)) := by unfold AF.edgeOk; kernel_rfl

theorem abkok (a0 : Int) (a1 : Int) (a2 : Int) (a3 : Int) (a4 : Int) (a5 : Int) (a6 : Int) (a7 : Int) (a8 : Int) (a9 : Int) (a10 : Int) (a11 : Int) (a12 : Int) : (abkA a0 a1 a2 a3 a4 a5 a6 a7 a8 a9 a10 a11 a12).Ok Try.prog (ctxOf Try.prog memo0) where
  regs := by kernel_rfl
  h0 := by kernel_rfl
  start := abkstart a0 a1 a2 a3 a4 a5 a6 a7 a8 a9 a10 a11 a12
  node := fun a _ => nomatch a
  pd := fun a => nomatch a
  le := fun a => nomatch a
  rd := fun v => ⟨⟨fa_nil, fa_nil, fa_nil, rfl⟩, rfl⟩
  wb := rfl


theorem abkhR {ρ : Env} (a0 : Int) (a1 : Int) (a2 : Int) (a3 : Int) (a4 : Int) (a5 : Int) (a6 : Int) (a7 : Int) (a8 : Int) (a9 : Int) (a10 : Int) (a11 : Int) (a12 : Int) (hM : MemoOk Try.prog (ctxOf Try.prog memo0) ρ) : ∀ X a q n D, FxOk ρ X → X.base = (abkA a0 a1 a2 a3 a4 a5 a6 a7 a8 a9 a10 a11 a12).base → X.nt = (abkA a0 a1 a2 a3 a4 a5 a6 a7 a8 a9 a10 a11 a12).nt → X.W = (abkA a0 a1 a2 a3 a4 a5 a6 a7 a8 a9 a10 a11 a12).W → (abkA a0 a1 a2 a3 a4 a5 a6 a7 a8 a9 a10 a11 a12).rgo a = some q → q n = some D → (abkA a0 a1 a2 a3 a4 a5 a6 a7 a8 a9 a10 a11 a12).RangeOk Try.prog ρ X a D := AF.noRange rfl

theorem abkctr {ρ : Env} (a0 : Int) (a1 : Int) (a2 : Int) (a3 : Int) (a4 : Int) (a5 : Int) (a6 : Int) (a7 : Int) (a8 : Int) (a9 : Int) (a10 : Int) (a11 : Int) (a12 : Int) {n : Nat} {v : abkR} (hM : MemoOk Try.prog (ctxOf Try.prog memo0) ρ) (hv : (abkA a0 a1 a2 a3 a4 a5 a6 a7 a8 a9 a10 a11 a12).run n = some v) :
    Ctr Try.prog ρ 16 (abkA a0 a1 a2 a3 a4 a5 a6 a7 a8 a9 a10 a11 a12).args (abkA a0 a1 a2 a3 a4 a5 a6 a7 a8 a9 a10 a11 a12).H0 (abkA a0 a1 a2 a3 a4 a5 a6 a7 a8 a9 a10 a11 a12).base (abkA a0 a1 a2 a3 a4 a5 a6 a7 a8 a9 a10 a11 a12).W ((abkA a0 a1 a2 a3 a4 a5 a6 a7 a8 a9 a10 a11 a12).rc v) (putH (abkA a0 a1 a2 a3 a4 a5 a6 a7 a8 a9 a10 a11 a12).H0 ((abkA a0 a1 a2 a3 a4 a5 a6 a7 a8 a9 a10 a11 a12).rh v ++ (abkA a0 a1 a2 a3 a4 a5 a6 a7 a8 a9 a10 a11 a12).rx v)) ((abkA a0 a1 a2 a3 a4 a5 a6 a7 a8 a9 a10 a11 a12).rn v) :=
  AF.ctr try_ok hM (abkok a0 a1 a2 a3 a4 a5 a6 a7 a8 a9 a10 a11 a12) (fn := Try.f16) Try.func16 rfl rfl (Nat.le_of_ble_eq_true rfl) rfl (abkhR a0 a1 a2 a3 a4 a5 a6 a7 a8 a9 a10 a11 a12 hM) hv


abbrev abkP : List AP := [.agg [.int .i64, .int .i64, .int .i64, .int .i64, .int .i64, .int .i64, .int .i64, .int .i64, .int .i64, .int .i64, .int .i64, .int .i64, .int .i64]]
noncomputable def abkF (v : AV) : AF abkN abkR := abkA (v.i.getD 0 0) (v.i.getD 1 0) (v.i.getD 2 0) (v.i.getD 3 0) (v.i.getD 4 0) (v.i.getD 5 0) (v.i.getD 6 0) (v.i.getD 7 0) (v.i.getD 8 0) (v.i.getD 9 0) (v.i.getD 10 0) (v.i.getD 11 0) (v.i.getD 12 0)
theorem abkknown {ρ : Env} (hM : MemoOk Try.prog (ctxOf Try.prog memo0) ρ) : KnownA Try.prog ρ 16 abkP abkF where
  fn := ⟨Try.f16, Try.func16, rfl⟩
  args := fun v => rfl
  plain := fun v r => rfl
  ctr := fun v n r h => abkctr (v.i.getD 0 0) (v.i.getD 1 0) (v.i.getD 2 0) (v.i.getD 3 0) (v.i.getD 4 0) (v.i.getD 5 0) (v.i.getD 6 0) (v.i.getD 7 0) (v.i.getD 8 0) (v.i.getD 9 0) (v.i.getD 10 0) (v.i.getD 11 0) (v.i.getD 12 0) hM h

end Go.Proofs.Ytgnmdknbnkljbaa.Cx

/- acmeref09.Kind: whether a kind is valid. Made by tools/gen_bcon.py. -/
namespace Go.Proofs.Ytgnmdknbnkljbaa.Cx
set_option linter.unusedVariables false
set_option linter.unusedSimpArgs false
set_option maxRecDepth 100000
set_option maxHeartbeats 4000000
open Go Go.RowKit

theorem abk_val (a0 a1 a2 a3 a4 a5 a6 a7 a8 a9 a10 a11 a12 : Int) : AF.fin (abkA a0 a1 a2 a3 a4 a5 a6 a7 a8 a9 a10 a11 a12) = true ∧ ((KindP a0 a1 a2 a3 a4 a5 a6 a7 a8 a9 a10 a11 a12 → AF.val (abkA a0 a1 a2 a3 a4 a5 a6 a7 a8 a9 a10 a11 a12) = true) ∧ (¬ KindP a0 a1 a2 a3 a4 a5 a6 a7 a8 a9 a10 a11 a12 → AF.val (abkA a0 a1 a2 a3 a4 a5 a6 a7 a8 a9 a10 a11 a12) = false)) :=
  AF.val_sat (Inv := fun _ => False) (E := fun v => (KindP a0 a1 a2 a3 a4 a5 a6 a7 a8 a9 a10 a11 a12 → v = true) ∧ (¬ KindP a0 a1 a2 a3 a4 a5 a6 a7 a8 a9 a10 a11 a12 → v = false)) (fun _ => 0) (fun _ => rfl) (fun a => nomatch a) (by
    show DD.sat _ _ (abkD0 a0 a1 a2 a3 a4 a5 a6 a7 a8 a9 a10 a11 a12)
    unfold abkD0 KindP
    simp only [DD.sat, cmLss, cmLeq, cmGtr, cmGeq, cmEql, cmNeq, cmLssF, cmLeqF, cmGtrF, cmGeqF, cmEqlF, cmNeqF, reduceCtorEq, imp_false, imp_true_iff, and_true, true_and, Classical.not_not, forall_const]
    repeat' (first | (intro _) | (apply And.intro))
    all_goals omega)
end Go.Proofs.Ytgnmdknbnkljbaa.Cx

/- acme/acmelaw09.known returns true, in every world: by the evaluator. Made by tools/cxlaw.py. -/
namespace Go.Proofs.Ytgnmdknbnkljbaa.Cx
set_option maxRecDepth 100000
open Go Go.Proofs Go.RowKit
noncomputable def CxKn09C : Ctx := ctxOf Try.prog memo0
theorem CxKn09_run : isTrue (eval CxKn09C 1000 0 (.call 18 []) .empty) = true := by kernel_rfl
theorem CxKn09_known : KnownB Try.prog 18 := known_of try_ok memo0_ok (by kernel_rfl) CxKn09_run
end Go.Proofs.Ytgnmdknbnkljbaa.Cx

/- acme/acmelaw09.BoltLearns as an automaton. Made by tools/cxauto.py. -/
namespace Go.Proofs.Ytgnmdknbnkljbaa.Cx
set_option linter.unusedVariables false
set_option linter.unusedSimpArgs false
set_option maxRecDepth 100000
open Go Go.Proofs Go.RowKit

noncomputable abbrev alnCode : Code := funcCode Try.f7


abbrev alnN := Empty

abbrev alnR := Bool

noncomputable def alnD0 (a0 : Int) (a1 : Int) (a2 : Int) (a3 : Int) (a4 : Int) (a5 : Int) (a6 : Int) (a7 : Int) (a8 : Int) (a9 : Int) (a10 : Int) (a11 : Int) (a12 : Int) (a13 : Int) (a14 : Int) (a15 : Int) (a16 : Int) : DD (Lf alnN alnR) :=
 .must (AF.fin (abkA a0 a1 a2 a3 a4 a5 a6 a7 a8 a9 a10 a11 a12))
   (.ask (AF.val (abkA a0 a1 a2 a3 a4 a5 a6 a7 a8 a9 a10 a11 a12))
   (.ask (Cm.run Cm.gtr (Ar.run Ar.sub IntKind.i64 a4 a3) 39)
   (.leaf (.done true []))
   (.ask (Cm.run Cm.gtr (Ar.run Ar.sub IntKind.i64 a6 a5) 39)
   (.leaf (.done true []))
   (.must (AF.fin (aleA a0 a1 a2 a3 a4 a5 a6 a7 a8 a9 a10 a11 a12 a13 a14 a15 a16))
   (.must (AF.fin (abkA a0 a1 a2 a3 a4 a5 a6 a7 a8 a9 a10 a11 a12))
   (.ask (!AF.val (abkA a0 a1 a2 a3 a4 a5 a6 a7 a8 a9 a10 a11 a12))
   (.ask (Cm.run Cm.eql (Prod.snd (Prod.snd (Prod.snd (Prod.snd (AF.val (aleA a0 a1 a2 a3 a4 a5 a6 a7 a8 a9 a10 a11 a12 a13 a14 a15 a16)))))) 2)
   (.ask (Cm.run Cm.eql (Prod.fst (AF.val (aleA a0 a1 a2 a3 a4 a5 a6 a7 a8 a9 a10 a11 a12 a13 a14 a15 a16))) 0)
   (.ask (Cm.run Cm.eql (Prod.fst (Prod.snd (AF.val (aleA a0 a1 a2 a3 a4 a5 a6 a7 a8 a9 a10 a11 a12 a13 a14 a15 a16)))) 0)
   (.ask (Cm.run Cm.eql (Prod.fst (Prod.snd (Prod.snd (AF.val (aleA a0 a1 a2 a3 a4 a5 a6 a7 a8 a9 a10 a11 a12 a13 a14 a15 a16))))) 0)
   (.ask (Cm.run Cm.eql (Prod.fst (Prod.snd (Prod.snd (Prod.snd (AF.val (aleA a0 a1 a2 a3 a4 a5 a6 a7 a8 a9 a10 a11 a12 a13 a14 a15 a16)))))) 0)
   (.leaf (.done true []))
   (.leaf (.done false [])))
   (.leaf (.done false [])))
   (.leaf (.done false [])))
   (.leaf (.done false [])))
   (.leaf (.done false [])))
   (.ask (Cm.run Cm.geq a13 0)
   (.ask (Cm.run Cm.leq a13 a14)
   (.ask (Cm.run Cm.leq a14 10000000000000)
   (.ask (Cm.run Cm.geq a15 0)
   (.ask (Cm.run Cm.leq a15 a16)
   (.ask (Cm.run Cm.leq a16 100000000)
   (.must (AF.fin (arlA a0 a1 a2 a3 a4 a5 a6 a7 a8 a9 a10 a11 a12 a13 a14 a15 a16))
   (.ask (!Prod.snd (Prod.snd (Prod.snd (Prod.snd (AF.val (arlA a0 a1 a2 a3 a4 a5 a6 a7 a8 a9 a10 a11 a12 a13 a14 a15 a16))))))
   (.ask (Cm.run Cm.eql (Prod.snd (Prod.snd (Prod.snd (Prod.snd (AF.val (aleA a0 a1 a2 a3 a4 a5 a6 a7 a8 a9 a10 a11 a12 a13 a14 a15 a16)))))) 9)
   (.ask (Cm.run Cm.eql (Prod.fst (AF.val (aleA a0 a1 a2 a3 a4 a5 a6 a7 a8 a9 a10 a11 a12 a13 a14 a15 a16))) (Prod.fst (AF.val (arlA a0 a1 a2 a3 a4 a5 a6 a7 a8 a9 a10 a11 a12 a13 a14 a15 a16))))
   (.ask (Cm.run Cm.eql (Prod.fst (Prod.snd (AF.val (aleA a0 a1 a2 a3 a4 a5 a6 a7 a8 a9 a10 a11 a12 a13 a14 a15 a16)))) (Prod.fst (Prod.snd (AF.val (arlA a0 a1 a2 a3 a4 a5 a6 a7 a8 a9 a10 a11 a12 a13 a14 a15 a16)))))
   (.ask (Cm.run Cm.eql (Prod.fst (Prod.snd (Prod.snd (AF.val (aleA a0 a1 a2 a3 a4 a5 a6 a7 a8 a9 a10 a11 a12 a13 a14 a15 a16))))) (Prod.fst (Prod.snd (Prod.snd (AF.val (arlA a0 a1 a2 a3 a4 a5 a6 a7 a8 a9 a10 a11 a12 a13 a14 a15 a16))))))
   (.ask (Cm.run Cm.eql (Prod.fst (Prod.snd (Prod.snd (Prod.snd (AF.val (aleA a0 a1 a2 a3 a4 a5 a6 a7 a8 a9 a10 a11 a12 a13 a14 a15 a16)))))) (Prod.fst (Prod.snd (Prod.snd (Prod.snd (AF.val (arlA a0 a1 a2 a3 a4 a5 a6 a7 a8 a9 a10 a11 a12 a13 a14 a15 a16)))))))
   (.leaf (.done true []))
   (.leaf (.done false [])))
   (.leaf (.done false [])))
   (.leaf (.done false [])))
   (.leaf (.done false [])))
   (.leaf (.done false [])))
   (.ask (Cm.run Cm.eql (Prod.snd (Prod.snd (Prod.snd (Prod.snd (AF.val (aleA a0 a1 a2 a3 a4 a5 a6 a7 a8 a9 a10 a11 a12 a13 a14 a15 a16)))))) 0)
   (.ask (Cm.run Cm.eql (Prod.fst (AF.val (aleA a0 a1 a2 a3 a4 a5 a6 a7 a8 a9 a10 a11 a12 a13 a14 a15 a16))) (Prod.fst (AF.val (arlA a0 a1 a2 a3 a4 a5 a6 a7 a8 a9 a10 a11 a12 a13 a14 a15 a16))))
   (.ask (Cm.run Cm.eql (Prod.fst (Prod.snd (AF.val (aleA a0 a1 a2 a3 a4 a5 a6 a7 a8 a9 a10 a11 a12 a13 a14 a15 a16)))) (Prod.fst (Prod.snd (AF.val (arlA a0 a1 a2 a3 a4 a5 a6 a7 a8 a9 a10 a11 a12 a13 a14 a15 a16)))))
   (.ask (Cm.run Cm.eql (Prod.fst (Prod.snd (Prod.snd (AF.val (aleA a0 a1 a2 a3 a4 a5 a6 a7 a8 a9 a10 a11 a12 a13 a14 a15 a16))))) (Prod.fst (Prod.snd (Prod.snd (AF.val (arlA a0 a1 a2 a3 a4 a5 a6 a7 a8 a9 a10 a11 a12 a13 a14 a15 a16))))))
   (.ask (Cm.run Cm.eql (Prod.fst (Prod.snd (Prod.snd (Prod.snd (AF.val (aleA a0 a1 a2 a3 a4 a5 a6 a7 a8 a9 a10 a11 a12 a13 a14 a15 a16)))))) (Prod.fst (Prod.snd (Prod.snd (Prod.snd (AF.val (arlA a0 a1 a2 a3 a4 a5 a6 a7 a8 a9 a10 a11 a12 a13 a14 a15 a16)))))))
   (.leaf (.done true []))
   (.leaf (.done false [])))
   (.leaf (.done false [])))
   (.leaf (.done false [])))
   (.leaf (.done false [])))
   (.leaf (.done false [])))))
   (.ask (Cm.run Cm.eql (Prod.snd (Prod.snd (Prod.snd (Prod.snd (AF.val (aleA a0 a1 a2 a3 a4 a5 a6 a7 a8 a9 a10 a11 a12 a13 a14 a15 a16)))))) 3)
   (.ask (Cm.run Cm.eql (Prod.fst (AF.val (aleA a0 a1 a2 a3 a4 a5 a6 a7 a8 a9 a10 a11 a12 a13 a14 a15 a16))) 0)
   (.ask (Cm.run Cm.eql (Prod.fst (Prod.snd (AF.val (aleA a0 a1 a2 a3 a4 a5 a6 a7 a8 a9 a10 a11 a12 a13 a14 a15 a16)))) 0)
   (.ask (Cm.run Cm.eql (Prod.fst (Prod.snd (Prod.snd (AF.val (aleA a0 a1 a2 a3 a4 a5 a6 a7 a8 a9 a10 a11 a12 a13 a14 a15 a16))))) 0)
   (.ask (Cm.run Cm.eql (Prod.fst (Prod.snd (Prod.snd (Prod.snd (AF.val (aleA a0 a1 a2 a3 a4 a5 a6 a7 a8 a9 a10 a11 a12 a13 a14 a15 a16)))))) 0)
   (.leaf (.done true []))
   (.leaf (.done false [])))
   (.leaf (.done false [])))
   (.leaf (.done false [])))
   (.leaf (.done false [])))
   (.leaf (.done false []))))
   (.ask (Cm.run Cm.eql (Prod.snd (Prod.snd (Prod.snd (Prod.snd (AF.val (aleA a0 a1 a2 a3 a4 a5 a6 a7 a8 a9 a10 a11 a12 a13 a14 a15 a16)))))) 3)
   (.ask (Cm.run Cm.eql (Prod.fst (AF.val (aleA a0 a1 a2 a3 a4 a5 a6 a7 a8 a9 a10 a11 a12 a13 a14 a15 a16))) 0)
   (.ask (Cm.run Cm.eql (Prod.fst (Prod.snd (AF.val (aleA a0 a1 a2 a3 a4 a5 a6 a7 a8 a9 a10 a11 a12 a13 a14 a15 a16)))) 0)
   (.ask (Cm.run Cm.eql (Prod.fst (Prod.snd (Prod.snd (AF.val (aleA a0 a1 a2 a3 a4 a5 a6 a7 a8 a9 a10 a11 a12 a13 a14 a15 a16))))) 0)
   (.ask (Cm.run Cm.eql (Prod.fst (Prod.snd (Prod.snd (Prod.snd (AF.val (aleA a0 a1 a2 a3 a4 a5 a6 a7 a8 a9 a10 a11 a12 a13 a14 a15 a16)))))) 0)
   (.leaf (.done true []))
   (.leaf (.done false [])))
   (.leaf (.done false [])))
   (.leaf (.done false [])))
   (.leaf (.done false [])))
   (.leaf (.done false []))))
   (.ask (Cm.run Cm.eql (Prod.snd (Prod.snd (Prod.snd (Prod.snd (AF.val (aleA a0 a1 a2 a3 a4 a5 a6 a7 a8 a9 a10 a11 a12 a13 a14 a15 a16)))))) 3)
   (.ask (Cm.run Cm.eql (Prod.fst (AF.val (aleA a0 a1 a2 a3 a4 a5 a6 a7 a8 a9 a10 a11 a12 a13 a14 a15 a16))) 0)
   (.ask (Cm.run Cm.eql (Prod.fst (Prod.snd (AF.val (aleA a0 a1 a2 a3 a4 a5 a6 a7 a8 a9 a10 a11 a12 a13 a14 a15 a16)))) 0)
   (.ask (Cm.run Cm.eql (Prod.fst (Prod.snd (Prod.snd (AF.val (aleA a0 a1 a2 a3 a4 a5 a6 a7 a8 a9 a10 a11 a12 a13 a14 a15 a16))))) 0)
   (.ask (Cm.run Cm.eql (Prod.fst (Prod.snd (Prod.snd (Prod.snd (AF.val (aleA a0 a1 a2 a3 a4 a5 a6 a7 a8 a9 a10 a11 a12 a13 a14 a15 a16)))))) 0)
   (.leaf (.done true []))
   (.leaf (.done false [])))
   (.leaf (.done false [])))
   (.leaf (.done false [])))
   (.leaf (.done false [])))
   (.leaf (.done false []))))
   (.ask (Cm.run Cm.eql (Prod.snd (Prod.snd (Prod.snd (Prod.snd (AF.val (aleA a0 a1 a2 a3 a4 a5 a6 a7 a8 a9 a10 a11 a12 a13 a14 a15 a16)))))) 3)
   (.ask (Cm.run Cm.eql (Prod.fst (AF.val (aleA a0 a1 a2 a3 a4 a5 a6 a7 a8 a9 a10 a11 a12 a13 a14 a15 a16))) 0)
   (.ask (Cm.run Cm.eql (Prod.fst (Prod.snd (AF.val (aleA a0 a1 a2 a3 a4 a5 a6 a7 a8 a9 a10 a11 a12 a13 a14 a15 a16)))) 0)
   (.ask (Cm.run Cm.eql (Prod.fst (Prod.snd (Prod.snd (AF.val (aleA a0 a1 a2 a3 a4 a5 a6 a7 a8 a9 a10 a11 a12 a13 a14 a15 a16))))) 0)
   (.ask (Cm.run Cm.eql (Prod.fst (Prod.snd (Prod.snd (Prod.snd (AF.val (aleA a0 a1 a2 a3 a4 a5 a6 a7 a8 a9 a10 a11 a12 a13 a14 a15 a16)))))) 0)
   (.leaf (.done true []))
   (.leaf (.done false [])))
   (.leaf (.done false [])))
   (.leaf (.done false [])))
   (.leaf (.done false [])))
   (.leaf (.done false []))))
   (.ask (Cm.run Cm.eql (Prod.snd (Prod.snd (Prod.snd (Prod.snd (AF.val (aleA a0 a1 a2 a3 a4 a5 a6 a7 a8 a9 a10 a11 a12 a13 a14 a15 a16)))))) 3)
   (.ask (Cm.run Cm.eql (Prod.fst (AF.val (aleA a0 a1 a2 a3 a4 a5 a6 a7 a8 a9 a10 a11 a12 a13 a14 a15 a16))) 0)
   (.ask (Cm.run Cm.eql (Prod.fst (Prod.snd (AF.val (aleA a0 a1 a2 a3 a4 a5 a6 a7 a8 a9 a10 a11 a12 a13 a14 a15 a16)))) 0)
   (.ask (Cm.run Cm.eql (Prod.fst (Prod.snd (Prod.snd (AF.val (aleA a0 a1 a2 a3 a4 a5 a6 a7 a8 a9 a10 a11 a12 a13 a14 a15 a16))))) 0)
   (.ask (Cm.run Cm.eql (Prod.fst (Prod.snd (Prod.snd (Prod.snd (AF.val (aleA a0 a1 a2 a3 a4 a5 a6 a7 a8 a9 a10 a11 a12 a13 a14 a15 a16)))))) 0)
   (.leaf (.done true []))
   (.leaf (.done false [])))
   (.leaf (.done false [])))
   (.leaf (.done false [])))
   (.leaf (.done false [])))
   (.leaf (.done false []))))
   (.ask (Cm.run Cm.eql (Prod.snd (Prod.snd (Prod.snd (Prod.snd (AF.val (aleA a0 a1 a2 a3 a4 a5 a6 a7 a8 a9 a10 a11 a12 a13 a14 a15 a16)))))) 3)
   (.ask (Cm.run Cm.eql (Prod.fst (AF.val (aleA a0 a1 a2 a3 a4 a5 a6 a7 a8 a9 a10 a11 a12 a13 a14 a15 a16))) 0)
   (.ask (Cm.run Cm.eql (Prod.fst (Prod.snd (AF.val (aleA a0 a1 a2 a3 a4 a5 a6 a7 a8 a9 a10 a11 a12 a13 a14 a15 a16)))) 0)
   (.ask (Cm.run Cm.eql (Prod.fst (Prod.snd (Prod.snd (AF.val (aleA a0 a1 a2 a3 a4 a5 a6 a7 a8 a9 a10 a11 a12 a13 a14 a15 a16))))) 0)
   (.ask (Cm.run Cm.eql (Prod.fst (Prod.snd (Prod.snd (Prod.snd (AF.val (aleA a0 a1 a2 a3 a4 a5 a6 a7 a8 a9 a10 a11 a12 a13 a14 a15 a16)))))) 0)
   (.leaf (.done true []))
   (.leaf (.done false [])))
   (.leaf (.done false [])))
   (.leaf (.done false [])))
   (.leaf (.done false [])))
   (.leaf (.done false [])))))))))
   (.must (AF.fin (aleA a0 a1 a2 a3 a4 a5 a6 a7 a8 a9 a10 a11 a12 a13 a14 a15 a16))
   (.must (AF.fin (abkA a0 a1 a2 a3 a4 a5 a6 a7 a8 a9 a10 a11 a12))
   (.ask (!AF.val (abkA a0 a1 a2 a3 a4 a5 a6 a7 a8 a9 a10 a11 a12))
   (.ask (Cm.run Cm.eql (Prod.snd (Prod.snd (Prod.snd (Prod.snd (AF.val (aleA a0 a1 a2 a3 a4 a5 a6 a7 a8 a9 a10 a11 a12 a13 a14 a15 a16)))))) 2)
   (.ask (Cm.run Cm.eql (Prod.fst (AF.val (aleA a0 a1 a2 a3 a4 a5 a6 a7 a8 a9 a10 a11 a12 a13 a14 a15 a16))) 0)
   (.ask (Cm.run Cm.eql (Prod.fst (Prod.snd (AF.val (aleA a0 a1 a2 a3 a4 a5 a6 a7 a8 a9 a10 a11 a12 a13 a14 a15 a16)))) 0)
   (.ask (Cm.run Cm.eql (Prod.fst (Prod.snd (Prod.snd (AF.val (aleA a0 a1 a2 a3 a4 a5 a6 a7 a8 a9 a10 a11 a12 a13 a14 a15 a16))))) 0)
   (.ask (Cm.run Cm.eql (Prod.fst (Prod.snd (Prod.snd (Prod.snd (AF.val (aleA a0 a1 a2 a3 a4 a5 a6 a7 a8 a9 a10 a11 a12 a13 a14 a15 a16)))))) 0)
   (.leaf (.done true []))
   (.leaf (.done false [])))
   (.leaf (.done false [])))
   (.leaf (.done false [])))
   (.leaf (.done false [])))
   (.leaf (.done false [])))
   (.ask (Cm.run Cm.geq a13 0)
   (.ask (Cm.run Cm.leq a13 a14)
   (.ask (Cm.run Cm.leq a14 10000000000000)
   (.ask (Cm.run Cm.geq a15 0)
   (.ask (Cm.run Cm.leq a15 a16)
   (.ask (Cm.run Cm.leq a16 100000000)
   (.must (AF.fin (arlA a0 a1 a2 a3 a4 a5 a6 a7 a8 a9 a10 a11 a12 a13 a14 a15 a16))
   (.ask (!Prod.snd (Prod.snd (Prod.snd (Prod.snd (AF.val (arlA a0 a1 a2 a3 a4 a5 a6 a7 a8 a9 a10 a11 a12 a13 a14 a15 a16))))))
   (.ask (Cm.run Cm.eql (Prod.snd (Prod.snd (Prod.snd (Prod.snd (AF.val (aleA a0 a1 a2 a3 a4 a5 a6 a7 a8 a9 a10 a11 a12 a13 a14 a15 a16)))))) 9)
   (.ask (Cm.run Cm.eql (Prod.fst (AF.val (aleA a0 a1 a2 a3 a4 a5 a6 a7 a8 a9 a10 a11 a12 a13 a14 a15 a16))) (Prod.fst (AF.val (arlA a0 a1 a2 a3 a4 a5 a6 a7 a8 a9 a10 a11 a12 a13 a14 a15 a16))))
   (.ask (Cm.run Cm.eql (Prod.fst (Prod.snd (AF.val (aleA a0 a1 a2 a3 a4 a5 a6 a7 a8 a9 a10 a11 a12 a13 a14 a15 a16)))) (Prod.fst (Prod.snd (AF.val (arlA a0 a1 a2 a3 a4 a5 a6 a7 a8 a9 a10 a11 a12 a13 a14 a15 a16)))))
   (.ask (Cm.run Cm.eql (Prod.fst (Prod.snd (Prod.snd (AF.val (aleA a0 a1 a2 a3 a4 a5 a6 a7 a8 a9 a10 a11 a12 a13 a14 a15 a16))))) (Prod.fst (Prod.snd (Prod.snd (AF.val (arlA a0 a1 a2 a3 a4 a5 a6 a7 a8 a9 a10 a11 a12 a13 a14 a15 a16))))))
   (.ask (Cm.run Cm.eql (Prod.fst (Prod.snd (Prod.snd (Prod.snd (AF.val (aleA a0 a1 a2 a3 a4 a5 a6 a7 a8 a9 a10 a11 a12 a13 a14 a15 a16)))))) (Prod.fst (Prod.snd (Prod.snd (Prod.snd (AF.val (arlA a0 a1 a2 a3 a4 a5 a6 a7 a8 a9 a10 a11 a12 a13 a14 a15 a16)))))))
   (.leaf (.done true []))
   (.leaf (.done false [])))
   (.leaf (.done false [])))
   (.leaf (.done false [])))
   (.leaf (.done false [])))
   (.leaf (.done false [])))
   (.ask (Cm.run Cm.eql (Prod.snd (Prod.snd (Prod.snd (Prod.snd (AF.val (aleA a0 a1 a2 a3 a4 a5 a6 a7 a8 a9 a10 a11 a12 a13 a14 a15 a16)))))) 0)
   (.ask (Cm.run Cm.eql (Prod.fst (AF.val (aleA a0 a1 a2 a3 a4 a5 a6 a7 a8 a9 a10 a11 a12 a13 a14 a15 a16))) (Prod.fst (AF.val (arlA a0 a1 a2 a3 a4 a5 a6 a7 a8 a9 a10 a11 a12 a13 a14 a15 a16))))
   (.ask (Cm.run Cm.eql (Prod.fst (Prod.snd (AF.val (aleA a0 a1 a2 a3 a4 a5 a6 a7 a8 a9 a10 a11 a12 a13 a14 a15 a16)))) (Prod.fst (Prod.snd (AF.val (arlA a0 a1 a2 a3 a4 a5 a6 a7 a8 a9 a10 a11 a12 a13 a14 a15 a16)))))
   (.ask (Cm.run Cm.eql (Prod.fst (Prod.snd (Prod.snd (AF.val (aleA a0 a1 a2 a3 a4 a5 a6 a7 a8 a9 a10 a11 a12 a13 a14 a15 a16))))) (Prod.fst (Prod.snd (Prod.snd (AF.val (arlA a0 a1 a2 a3 a4 a5 a6 a7 a8 a9 a10 a11 a12 a13 a14 a15 a16))))))
   (.ask (Cm.run Cm.eql (Prod.fst (Prod.snd (Prod.snd (Prod.snd (AF.val (aleA a0 a1 a2 a3 a4 a5 a6 a7 a8 a9 a10 a11 a12 a13 a14 a15 a16)))))) (Prod.fst (Prod.snd (Prod.snd (Prod.snd (AF.val (arlA a0 a1 a2 a3 a4 a5 a6 a7 a8 a9 a10 a11 a12 a13 a14 a15 a16)))))))
   (.leaf (.done true []))
   (.leaf (.done false [])))
   (.leaf (.done false [])))
   (.leaf (.done false [])))
   (.leaf (.done false [])))
   (.leaf (.done false [])))))
   (.ask (Cm.run Cm.eql (Prod.snd (Prod.snd (Prod.snd (Prod.snd (AF.val (aleA a0 a1 a2 a3 a4 a5 a6 a7 a8 a9 a10 a11 a12 a13 a14 a15 a16)))))) 3)
   (.ask (Cm.run Cm.eql (Prod.fst (AF.val (aleA a0 a1 a2 a3 a4 a5 a6 a7 a8 a9 a10 a11 a12 a13 a14 a15 a16))) 0)
   (.ask (Cm.run Cm.eql (Prod.fst (Prod.snd (AF.val (aleA a0 a1 a2 a3 a4 a5 a6 a7 a8 a9 a10 a11 a12 a13 a14 a15 a16)))) 0)
   (.ask (Cm.run Cm.eql (Prod.fst (Prod.snd (Prod.snd (AF.val (aleA a0 a1 a2 a3 a4 a5 a6 a7 a8 a9 a10 a11 a12 a13 a14 a15 a16))))) 0)
   (.ask (Cm.run Cm.eql (Prod.fst (Prod.snd (Prod.snd (Prod.snd (AF.val (aleA a0 a1 a2 a3 a4 a5 a6 a7 a8 a9 a10 a11 a12 a13 a14 a15 a16)))))) 0)
   (.leaf (.done true []))
   (.leaf (.done false [])))
   (.leaf (.done false [])))
   (.leaf (.done false [])))
   (.leaf (.done false [])))
   (.leaf (.done false []))))
   (.ask (Cm.run Cm.eql (Prod.snd (Prod.snd (Prod.snd (Prod.snd (AF.val (aleA a0 a1 a2 a3 a4 a5 a6 a7 a8 a9 a10 a11 a12 a13 a14 a15 a16)))))) 3)
   (.ask (Cm.run Cm.eql (Prod.fst (AF.val (aleA a0 a1 a2 a3 a4 a5 a6 a7 a8 a9 a10 a11 a12 a13 a14 a15 a16))) 0)
   (.ask (Cm.run Cm.eql (Prod.fst (Prod.snd (AF.val (aleA a0 a1 a2 a3 a4 a5 a6 a7 a8 a9 a10 a11 a12 a13 a14 a15 a16)))) 0)
   (.ask (Cm.run Cm.eql (Prod.fst (Prod.snd (Prod.snd (AF.val (aleA a0 a1 a2 a3 a4 a5 a6 a7 a8 a9 a10 a11 a12 a13 a14 a15 a16))))) 0)
   (.ask (Cm.run Cm.eql (Prod.fst (Prod.snd (Prod.snd (Prod.snd (AF.val (aleA a0 a1 a2 a3 a4 a5 a6 a7 a8 a9 a10 a11 a12 a13 a14 a15 a16)))))) 0)
   (.leaf (.done true []))
   (.leaf (.done false [])))
   (.leaf (.done false [])))
   (.leaf (.done false [])))
   (.leaf (.done false [])))
   (.leaf (.done false []))))
   (.ask (Cm.run Cm.eql (Prod.snd (Prod.snd (Prod.snd (Prod.snd (AF.val (aleA a0 a1 a2 a3 a4 a5 a6 a7 a8 a9 a10 a11 a12 a13 a14 a15 a16)))))) 3)
   (.ask (Cm.run Cm.eql (Prod.fst (AF.val (aleA a0 a1 a2 a3 a4 a5 a6 a7 a8 a9 a10 a11 a12 a13 a14 a15 a16))) 0)
   (.ask (Cm.run Cm.eql (Prod.fst (Prod.snd (AF.val (aleA a0 a1 a2 a3 a4 a5 a6 a7 a8 a9 a10 a11 a12 a13 a14 a15 a16)))) 0)
   (.ask (Cm.run Cm.eql (Prod.fst (Prod.snd (Prod.snd (AF.val (aleA a0 a1 a2 a3 a4 a5 a6 a7 a8 a9 a10 a11 a12 a13 a14 a15 a16))))) 0)
   (.ask (Cm.run Cm.eql (Prod.fst (Prod.snd (Prod.snd (Prod.snd (AF.val (aleA a0 a1 a2 a3 a4 a5 a6 a7 a8 a9 a10 a11 a12 a13 a14 a15 a16)))))) 0)
   (.leaf (.done true []))
   (.leaf (.done false [])))
   (.leaf (.done false [])))
   (.leaf (.done false [])))
   (.leaf (.done false [])))
   (.leaf (.done false []))))
   (.ask (Cm.run Cm.eql (Prod.snd (Prod.snd (Prod.snd (Prod.snd (AF.val (aleA a0 a1 a2 a3 a4 a5 a6 a7 a8 a9 a10 a11 a12 a13 a14 a15 a16)))))) 3)
   (.ask (Cm.run Cm.eql (Prod.fst (AF.val (aleA a0 a1 a2 a3 a4 a5 a6 a7 a8 a9 a10 a11 a12 a13 a14 a15 a16))) 0)
   (.ask (Cm.run Cm.eql (Prod.fst (Prod.snd (AF.val (aleA a0 a1 a2 a3 a4 a5 a6 a7 a8 a9 a10 a11 a12 a13 a14 a15 a16)))) 0)
   (.ask (Cm.run Cm.eql (Prod.fst (Prod.snd (Prod.snd (AF.val (aleA a0 a1 a2 a3 a4 a5 a6 a7 a8 a9 a10 a11 a12 a13 a14 a15 a16))))) 0)
   (.ask (Cm.run Cm.eql (Prod.fst (Prod.snd (Prod.snd (Prod.snd (AF.val (aleA a0 a1 a2 a3 a4 a5 a6 a7 a8 a9 a10 a11 a12 a13 a14 a15 a16)))))) 0)
   (.leaf (.done true []))
   (.leaf (.done false [])))
   (.leaf (.done false [])))
   (.leaf (.done false [])))
   (.leaf (.done false [])))
   (.leaf (.done false []))))
   (.ask (Cm.run Cm.eql (Prod.snd (Prod.snd (Prod.snd (Prod.snd (AF.val (aleA a0 a1 a2 a3 a4 a5 a6 a7 a8 a9 a10 a11 a12 a13 a14 a15 a16)))))) 3)
   (.ask (Cm.run Cm.eql (Prod.fst (AF.val (aleA a0 a1 a2 a3 a4 a5 a6 a7 a8 a9 a10 a11 a12 a13 a14 a15 a16))) 0)
   (.ask (Cm.run Cm.eql (Prod.fst (Prod.snd (AF.val (aleA a0 a1 a2 a3 a4 a5 a6 a7 a8 a9 a10 a11 a12 a13 a14 a15 a16)))) 0)
   (.ask (Cm.run Cm.eql (Prod.fst (Prod.snd (Prod.snd (AF.val (aleA a0 a1 a2 a3 a4 a5 a6 a7 a8 a9 a10 a11 a12 a13 a14 a15 a16))))) 0)
   (.ask (Cm.run Cm.eql (Prod.fst (Prod.snd (Prod.snd (Prod.snd (AF.val (aleA a0 a1 a2 a3 a4 a5 a6 a7 a8 a9 a10 a11 a12 a13 a14 a15 a16)))))) 0)
   (.leaf (.done true []))
   (.leaf (.done false [])))
   (.leaf (.done false [])))
   (.leaf (.done false [])))
   (.leaf (.done false [])))
   (.leaf (.done false []))))
   (.ask (Cm.run Cm.eql (Prod.snd (Prod.snd (Prod.snd (Prod.snd (AF.val (aleA a0 a1 a2 a3 a4 a5 a6 a7 a8 a9 a10 a11 a12 a13 a14 a15 a16)))))) 3)
   (.ask (Cm.run Cm.eql (Prod.fst (AF.val (aleA a0 a1 a2 a3 a4 a5 a6 a7 a8 a9 a10 a11 a12 a13 a14 a15 a16))) 0)
   (.ask (Cm.run Cm.eql (Prod.fst (Prod.snd (AF.val (aleA a0 a1 a2 a3 a4 a5 a6 a7 a8 a9 a10 a11 a12 a13 a14 a15 a16)))) 0)
   (.ask (Cm.run Cm.eql (Prod.fst (Prod.snd (Prod.snd (AF.val (aleA a0 a1 a2 a3 a4 a5 a6 a7 a8 a9 a10 a11 a12 a13 a14 a15 a16))))) 0)
   (.ask (Cm.run Cm.eql (Prod.fst (Prod.snd (Prod.snd (Prod.snd (AF.val (aleA a0 a1 a2 a3 a4 a5 a6 a7 a8 a9 a10 a11 a12 a13 a14 a15 a16)))))) 0)
   (.leaf (.done true []))
   (.leaf (.done false [])))
   (.leaf (.done false [])))
   (.leaf (.done false [])))
   (.leaf (.done false [])))
   (.leaf (.done false []))))))))

noncomputable def alnD (a0 : Int) (a1 : Int) (a2 : Int) (a3 : Int) (a4 : Int) (a5 : Int) (a6 : Int) (a7 : Int) (a8 : Int) (a9 : Int) (a10 : Int) (a11 : Int) (a12 : Int) (a13 : Int) (a14 : Int) (a15 : Int) (a16 : Int) : alnN → DD (Lf alnN alnR) := fun a => nomatch a

noncomputable def alnA (a0 : Int) (a1 : Int) (a2 : Int) (a3 : Int) (a4 : Int) (a5 : Int) (a6 : Int) (a7 : Int) (a8 : Int) (a9 : Int) (a10 : Int) (a11 : Int) (a12 : Int) (a13 : Int) (a14 : Int) (a15 : Int) (a16 : Int) : AF alnN alnR where
  code := alnCode
  base := 0
  nt := 90
  m := 400
  un := []
  W := []
  h0 := []
  args := [.agg [.int .i64 (.x a0), .int .i64 (.x a1), .int .i64 (.x a2), .int .i64 (.x a3), .int .i64 (.x a4), .int .i64 (.x a5), .int .i64 (.x a6), .int .i64 (.x a7), .int .i64 (.x a8), .int .i64 (.x a9), .int .i64 (.x a10), .int .i64 (.x a11), .int .i64 (.x a12)], .agg [.int .i64 (.x a13), .int .i64 (.x a14)], .agg [.int .i64 (.x a15), .int .i64 (.x a16)]]
  res := (Try.f7).results.toList
  path := fun a => nomatch a
  pd := fun a => nomatch a
  D0 := alnD0 a0 a1 a2 a3 a4 a5 a6 a7 a8 a9 a10 a11 a12 a13 a14 a15 a16
  D := alnD a0 a1 a2 a3 a4 a5 a6 a7 a8 a9 a10 a11 a12 a13 a14 a15 a16
  rc := (fun v => .bool (.x v))
  rh := (fun v => [])
  rn := (fun v => 0)
  rx := (fun v => [])
  rgo := (fun _ => none)


theorem alnstart_cut {α β : Type} {f g : α → β} {l : List α} (n : Nat) (h1 : (l.take n).map f = (l.take n).map g) (h2 : (l.drop n).map f = (l.drop n).map g) : l.map f = l.map g := by
  rw [← List.take_append_drop n l, List.map_append, List.map_append, h1, h2]

theorem alnstart_0 (a0 : Int) (a1 : Int) (a2 : Int) (a3 : Int) (a4 : Int) (a5 : Int) (a6 : Int) (a7 : Int) (a8 : Int) (a9 : Int) (a10 : Int) (a11 : Int) (a12 : Int) (a13 : Int) (a14 : Int) (a15 : Int) (a16 : Int) : (((alnD0 a0 a1 a2 a3 a4 a5 a6 a7 a8 a9 a10 a11 a12 a13 a14 a15 a16).lv).take 70).map (fun x => AF.see (alnA a0 a1 a2 a3 a4 a5 a6 a7 a8 a9 a10 a11 a12 a13 a14 a15 a16) (ctxOf Try.prog memo0) x.2.2 ((AF.run0 (alnA a0 a1 a2 a3 a4 a5 a6 a7 a8 a9 a10 a11 a12 a13 a14 a15 a16) (ctxOf Try.prog (memoA 34 arlP arlF (memoA 33 aleP aleF (memoA 16 abkP abkF (memoB [18])))))) x.1)) = (((alnD0 a0 a1 a2 a3 a4 a5 a6 a7 a8 a9 a10 a11 a12 a13 a14 a15 a16).lv).take 70).map (fun x => AF.want (alnA a0 a1 a2 a3 a4 a5 a6 a7 a8 a9 a10 a11 a12 a13 a14 a15 a16) x.2.2 x.2.1) := by kernel_rfl

theorem alnstart_1 (a0 : Int) (a1 : Int) (a2 : Int) (a3 : Int) (a4 : Int) (a5 : Int) (a6 : Int) (a7 : Int) (a8 : Int) (a9 : Int) (a10 : Int) (a11 : Int) (a12 : Int) (a13 : Int) (a14 : Int) (a15 : Int) (a16 : Int) : (((alnD0 a0 a1 a2 a3 a4 a5 a6 a7 a8 a9 a10 a11 a12 a13 a14 a15 a16).lv).drop 70).map (fun x => AF.see (alnA a0 a1 a2 a3 a4 a5 a6 a7 a8 a9 a10 a11 a12 a13 a14 a15 a16) (ctxOf Try.prog memo0) x.2.2 ((AF.run0 (alnA a0 a1 a2 a3 a4 a5 a6 a7 a8 a9 a10 a11 a12 a13 a14 a15 a16) (ctxOf Try.prog (memoA 34 arlP arlF (memoA 33 aleP aleF (memoA 16 abkP abkF (memoB [18])))))) x.1)) = (((alnD0 a0 a1 a2 a3 a4 a5 a6 a7 a8 a9 a10 a11 a12 a13 a14 a15 a16).lv).drop 70).map (fun x => AF.want (alnA a0 a1 a2 a3 a4 a5 a6 a7 a8 a9 a10 a11 a12 a13 a14 a15 a16) x.2.2 x.2.1) := by kernel_rfl

theorem alnstart (a0 : Int) (a1 : Int) (a2 : Int) (a3 : Int) (a4 : Int) (a5 : Int) (a6 : Int) (a7 : Int) (a8 : Int) (a9 : Int) (a10 : Int) (a11 : Int) (a12 : Int) (a13 : Int) (a14 : Int) (a15 : Int) (a16 : Int) : AF.edgeOk (alnA a0 a1 a2 a3 a4 a5 a6 a7 a8 a9 a10 a11 a12 a13 a14 a15 a16) (ctxOf Try.prog memo0) (alnD0 a0 a1 a2 a3 a4 a5 a6 a7 a8 a9 a10 a11 a12 a13 a14 a15 a16) (AF.run0 (alnA a0 a1 a2 a3 a4 a5 a6 a7 a8 a9 a10 a11 a12 a13 a14 a15 a16) (ctxOf Try.prog (memoA 34 arlP arlF (memoA 33 aleP aleF (memoA 16 abkP abkF (memoB [18])))))) := alnstart_cut 70 (alnstart_0 a0 a1 a2 a3 a4 a5 a6 a7 a8 a9 a10 a11 a12 a13 a14 a15 a16) (alnstart_1 a0 a1 a2 a3 a4 a5 a6 a7 a8 a9 a10 a11 a12 a13 a14 a15 a16)

theorem alnok (a0 : Int) (a1 : Int) (a2 : Int) (a3 : Int) (a4 : Int) (a5 : Int) (a6 : Int) (a7 : Int) (a8 : Int) (a9 : Int) (a10 : Int) (a11 : Int) (a12 : Int) (a13 : Int) (a14 : Int) (a15 : Int) (a16 : Int) : (alnA a0 a1 a2 a3 a4 a5 a6 a7 a8 a9 a10 a11 a12 a13 a14 a15 a16).Ok Try.prog (ctxOf Try.prog (memoA 34 arlP arlF (memoA 33 aleP aleF (memoA 16 abkP abkF (memoB [18]))))) where
  regs := by kernel_rfl
  h0 := by kernel_rfl
  start := alnstart a0 a1 a2 a3 a4 a5 a6 a7 a8 a9 a10 a11 a12 a13 a14 a15 a16
  node := fun a _ => nomatch a
  pd := fun a => nomatch a
  le := fun a => nomatch a
  rd := fun v => ⟨⟨fa_nil, fa_nil, fa_nil, rfl⟩, rfl⟩
  wb := rfl


theorem alnhR {ρ : Env} (a0 : Int) (a1 : Int) (a2 : Int) (a3 : Int) (a4 : Int) (a5 : Int) (a6 : Int) (a7 : Int) (a8 : Int) (a9 : Int) (a10 : Int) (a11 : Int) (a12 : Int) (a13 : Int) (a14 : Int) (a15 : Int) (a16 : Int) (hM : MemoOk Try.prog (ctxOf Try.prog (memoA 34 arlP arlF (memoA 33 aleP aleF (memoA 16 abkP abkF (memoB [18]))))) ρ) : ∀ X a q n D, FxOk ρ X → X.base = (alnA a0 a1 a2 a3 a4 a5 a6 a7 a8 a9 a10 a11 a12 a13 a14 a15 a16).base → X.nt = (alnA a0 a1 a2 a3 a4 a5 a6 a7 a8 a9 a10 a11 a12 a13 a14 a15 a16).nt → X.W = (alnA a0 a1 a2 a3 a4 a5 a6 a7 a8 a9 a10 a11 a12 a13 a14 a15 a16).W → (alnA a0 a1 a2 a3 a4 a5 a6 a7 a8 a9 a10 a11 a12 a13 a14 a15 a16).rgo a = some q → q n = some D → (alnA a0 a1 a2 a3 a4 a5 a6 a7 a8 a9 a10 a11 a12 a13 a14 a15 a16).RangeOk Try.prog ρ X a D := AF.noRange rfl

theorem alnctr {ρ : Env} (a0 : Int) (a1 : Int) (a2 : Int) (a3 : Int) (a4 : Int) (a5 : Int) (a6 : Int) (a7 : Int) (a8 : Int) (a9 : Int) (a10 : Int) (a11 : Int) (a12 : Int) (a13 : Int) (a14 : Int) (a15 : Int) (a16 : Int) {n : Nat} {v : alnR} (hM : MemoOk Try.prog (ctxOf Try.prog (memoA 34 arlP arlF (memoA 33 aleP aleF (memoA 16 abkP abkF (memoB [18]))))) ρ) (hv : (alnA a0 a1 a2 a3 a4 a5 a6 a7 a8 a9 a10 a11 a12 a13 a14 a15 a16).run n = some v) :
    Ctr Try.prog ρ 7 (alnA a0 a1 a2 a3 a4 a5 a6 a7 a8 a9 a10 a11 a12 a13 a14 a15 a16).args (alnA a0 a1 a2 a3 a4 a5 a6 a7 a8 a9 a10 a11 a12 a13 a14 a15 a16).H0 (alnA a0 a1 a2 a3 a4 a5 a6 a7 a8 a9 a10 a11 a12 a13 a14 a15 a16).base (alnA a0 a1 a2 a3 a4 a5 a6 a7 a8 a9 a10 a11 a12 a13 a14 a15 a16).W ((alnA a0 a1 a2 a3 a4 a5 a6 a7 a8 a9 a10 a11 a12 a13 a14 a15 a16).rc v) (putH (alnA a0 a1 a2 a3 a4 a5 a6 a7 a8 a9 a10 a11 a12 a13 a14 a15 a16).H0 ((alnA a0 a1 a2 a3 a4 a5 a6 a7 a8 a9 a10 a11 a12 a13 a14 a15 a16).rh v ++ (alnA a0 a1 a2 a3 a4 a5 a6 a7 a8 a9 a10 a11 a12 a13 a14 a15 a16).rx v)) ((alnA a0 a1 a2 a3 a4 a5 a6 a7 a8 a9 a10 a11 a12 a13 a14 a15 a16).rn v) :=
  AF.ctr try_ok hM (alnok a0 a1 a2 a3 a4 a5 a6 a7 a8 a9 a10 a11 a12 a13 a14 a15 a16) (fn := Try.f7) Try.func7 rfl rfl (Nat.le_of_ble_eq_true rfl) rfl (alnhR a0 a1 a2 a3 a4 a5 a6 a7 a8 a9 a10 a11 a12 a13 a14 a15 a16 hM) hv


theorem alnmem {ρ : Env} : MemoOk Try.prog (ctxOf Try.prog (memoA 34 arlP arlF (memoA 33 aleP aleF (memoA 16 abkP abkF (memoB [18]))))) ρ := (memoA_ok (arlknown arlmem) (memoA_ok (aleknown alemem) (memoA_ok (abkknown memo0_ok) (memoB_ok (fun f hf => by
    simp only [List.mem_cons, List.not_mem_nil, or_false] at hf
    subst hf
    exact CxKn09_known)))))


abbrev alnP : List AP := [.agg [.int .i64, .int .i64, .int .i64, .int .i64, .int .i64, .int .i64, .int .i64, .int .i64, .int .i64, .int .i64, .int .i64, .int .i64, .int .i64], .agg [.int .i64, .int .i64], .agg [.int .i64, .int .i64]]
noncomputable def alnF (v : AV) : AF alnN alnR := alnA (v.i.getD 0 0) (v.i.getD 1 0) (v.i.getD 2 0) (v.i.getD 3 0) (v.i.getD 4 0) (v.i.getD 5 0) (v.i.getD 6 0) (v.i.getD 7 0) (v.i.getD 8 0) (v.i.getD 9 0) (v.i.getD 10 0) (v.i.getD 11 0) (v.i.getD 12 0) (v.i.getD 13 0) (v.i.getD 14 0) (v.i.getD 15 0) (v.i.getD 16 0)
theorem alnknown {ρ : Env} (hM : MemoOk Try.prog (ctxOf Try.prog (memoA 34 arlP arlF (memoA 33 aleP aleF (memoA 16 abkP abkF (memoB [18]))))) ρ) : KnownA Try.prog ρ 7 alnP alnF where
  fn := ⟨Try.f7, Try.func7, rfl⟩
  args := fun v => rfl
  plain := fun v r => rfl
  ctr := fun v n r h => alnctr (v.i.getD 0 0) (v.i.getD 1 0) (v.i.getD 2 0) (v.i.getD 3 0) (v.i.getD 4 0) (v.i.getD 5 0) (v.i.getD 6 0) (v.i.getD 7 0) (v.i.getD 8 0) (v.i.getD 9 0) (v.i.getD 10 0) (v.i.getD 11 0) (v.i.getD 12 0) (v.i.getD 13 0) (v.i.getD 14 0) (v.i.getD 15 0) (v.i.getD 16 0) hM h

end Go.Proofs.Ytgnmdknbnkljbaa.Cx

/- BoltLearns: its automaton returns true. Made by tools/gen_bcon.py. -/
namespace Go.Proofs.Ytgnmdknbnkljbaa.Cx
set_option linter.unusedVariables false
set_option linter.unusedSimpArgs false
set_option maxRecDepth 100000
set_option maxHeartbeats 4000000
open Go Go.RowKit

theorem aln_run (a0 a1 a2 a3 a4 a5 a6 a7 a8 a9 a10 a11 a12 a13 a14 a15 a16 : Int) : ∃ n v, (alnA a0 a1 a2 a3 a4 a5 a6 a7 a8 a9 a10 a11 a12 a13 a14 a15 a16).run n = some v ∧ v = true :=
  AF.run_sat (Inv := fun _ => False) (E := fun (v : alnR) => v = true) (fun _ => 0) (fun _ => rfl) (fun a => nomatch a) (by
    obtain ⟨k1, k2, k3⟩ := abk_val a0 a1 a2 a3 a4 a5 a6 a7 a8 a9 a10 a11 a12
    show DD.sat _ _ (alnD0 a0 a1 a2 a3 a4 a5 a6 a7 a8 a9 a10 a11 a12 a13 a14 a15 a16)
    unfold alnD0
    by_cases hk : KindP a0 a1 a2 a3 a4 a5 a6 a7 a8 a9 a10 a11 a12
    · rw [k1, k2 hk]
      by_cases hv : ((0 ≤ a13 ∧ a13 ≤ a14 ∧ a14 ≤ 10000000000000) ∧ (0 ≤ a15 ∧ a15 ≤ a16 ∧ a16 ≤ 100000000))
      · obtain ⟨l1, l2⟩ := ale_ok hk hv
        obtain ⟨r1, r2⟩ := arl_ok hk hv
        rw [l1, r1]
        generalize AF.val (aleA a0 a1 a2 a3 a4 a5 a6 a7 a8 a9 a10 a11 a12 a13 a14 a15 a16) = u at *
        generalize AF.val (arlA a0 a1 a2 a3 a4 a5 a6 a7 a8 a9 a10 a11 a12 a13 a14 a15 a16) = v at *
        obtain ⟨x1, x2, y1, y2, ok⟩ := v
        have b1 : Cm.run .geq a13 0 = true := cmGeq.2 (by omega)
        have b2 : Cm.run .leq a13 a14 = true := cmLeq.2 (by omega)
        have b3 : Cm.run .leq a14 10000000000000 = true := cmLeq.2 (by omega)
        have b4 : Cm.run .geq a15 0 = true := cmGeq.2 (by omega)
        have b5 : Cm.run .leq a15 a16 = true := cmLeq.2 (by omega)
        have b6 : Cm.run .leq a16 100000000 = true := cmLeq.2 (by omega)
        have fin : (ok = false ∧ x1 = 0 ∧ x2 = 0 ∧ y1 = 0 ∧ y2 = 0 ∧ u = (0, 0, 0, 0, 9)) ∨ (ok = true ∧ u = (x1, x2, y1, y2, 0)) := by
          rcases l2 with ⟨n1, e1⟩ | ⟨z1, z2, z3, z4, n1, e1⟩
          · rcases r2 with ⟨m1, _, m3⟩ | ⟨_, m2⟩
            · exact .inl ⟨m1, m3.1, m3.2.1, m3.2.2.1, m3.2.2.2, e1⟩
            · exact (m2.some n1).elim
          · rcases r2 with ⟨_, m2, _⟩ | ⟨m1, m2⟩
            · exact (n1.some m2).elim
            · obtain ⟨q1, q2, q3, q4⟩ := n1.same m2
              exact .inr ⟨m1, by rw [e1, q1, q2, q3, q4]⟩
        clear l2 r2 hk k2 k3 l1 r1 k1
        rcases fin with ⟨rfl, rfl, rfl, rfl, rfl, rfl⟩ | ⟨rfl, rfl⟩ <;> simp [DD.sat, b1, b2, b3, b4, b5, b6, cmEql, cmEqlF]
      · obtain ⟨l1, l2⟩ := ale_range hk hv
        rw [l1, l2]
        clear k2 k3 l1 l2 k1
        simp [DD.sat, cmEql, cmEqlF, cmGeq, cmLeq, cmGeqF, cmLeqF, cmGtr, cmGtrF]
        omega
    · obtain ⟨l1, l2⟩ := ale_bad hk (a13 := a13) (a14 := a14) (a15 := a15) (a16 := a16)
      rw [k1, k3 hk, l1, l2]
      simp [DD.sat, cmEql, cmEqlF])
end Go.Proofs.Ytgnmdknbnkljbaa.Cx

/- ARGUMENTS THAT ARE SLICES: opened as lists; the memory in which they lie as blocks that are read alone; a law's contract as its statement's walk. -/
namespace Go.Proofs.Ytgnmdknbnkljbaa.Cx
set_option linter.unusedSimpArgs false
set_option linter.unusedVariables false
open Go Go.RowKit Go.ChangeShapes Go.WideShapes Go.Deep Go.Proofs.Ytgnmdknbnkljbaa

/-! ## Such slices as blocks -/

section
variable {P : Program} {ρ : Env}

/-- Where a slice's rows lie. -/
noncomputable def locOf (w : World) (v : Value) (z : Nat) : Option Loc :=
  match v with
  | .slice (some a) (_ + 1) _ => match w.heap[a.block]? with
    | some (.cells c _ _) => some ⟨a.block, a.off, c.size, z⟩
    | _ => none
  | _ => none

theorem rows_rel {α : Type} {en : α → List Value} {ec : α → List CV} {d : α} (he : ∀ σ x, VRl ρ σ (ec x) (en x)) (σ : Mp) : ∀ (xs : List α) (n : Nat), n ≤ xs.length → VRl ρ σ (flatR (fun j => ec (xs.getD j d)) n) ((xs.take n).flatMap en)
  | xs, 0, _ => by simpa [flatR] using VRl.nil
  | xs, n + 1, h => by
    have ih := rows_rel (d := d) he σ xs n (by omega)
    rw [flatR, List.take_add_one, List.flatMap_append]
    refine ih.append ?_
    have hn : n < xs.length := by omega
    rw [List.getElem?_eq_getElem hn, List.getD_eq_getElem?_getD, List.getElem?_eq_getElem hn]
    simpa using he σ xs[n]

theorem SlR.rel {α : Type} {en : α → List Value} {ec : α → List CV} {d : α} {z : Nat} {w : World} {v : Value} {xs : List α} {σ : Mp} {b : Nat} (h : SlR en z w v xs) (hz : ∀ x, (en x).length = z) (he : ∀ σ x, VRl ρ σ (ec x) (en x))
    (hk : ∀ j, (ec (xs.getD j d)).length = z ∧ (ec (xs.getD j d)).all CV.flat = true) (hσ : σ b = locOf w v z) :
    VR ρ σ (.sla b z 0 xs.length) v ∧ ArgAt ρ w ⟨.arg xs.length z (fun j => ec (xs.getD j d)) hk, z, true, none⟩ (σ b) := by
  obtain ⟨a, cap, rfl, hcap, _, hx⟩ := h
  have hcl : Blk.cells ⟨.arg xs.length z (fun j => ec (xs.getD j d)) hk, z, true, none⟩ = flatR (fun j => ec (xs.getD j d)) xs.length := rfl
  have hlen := flatR_length (fun j => (hk j).1) xs.length
  rcases hx with rfl | ⟨bl, off, c, t, p, rfl, hh, hsz, hrow⟩
  · refine ⟨.sla0 _ _, rfl, rfl, rfl, fun l hl => ?_⟩
    rw [hσ] at hl
    simp [locOf] at hl
  · cases xs with
    | nil =>
      refine ⟨.sla0 _ _, rfl, rfl, rfl, fun l hl => ?_⟩
      rw [hσ] at hl
      simp [locOf] at hl
    | cons x xs =>
      have hlo : locOf w (.slice (some ⟨bl, off, none⟩) (x :: xs).length cap) z = some ⟨bl, off, c.size, z⟩ := by
        simp [locOf, hh]
      rw [hlo] at hσ
      refine ⟨?_, rfl, rfl, rfl, fun l hl => ?_⟩
      · have := VR.sla (ρ := ρ) (σ := σ) (b := b) (z := z) (o := 0) (n := (x :: xs).length) (c' := cap) hσ hcap
        simpa using this
      · rw [hσ] at hl
        obtain rfl := Option.some.inj hl
        refine ⟨c, t, p, hh, rfl, rfl, by rw [hcl, hlen]; exact hsz, fun τ => ?_⟩
        rw [hcl, hlen, hrow]
        have := rows_rel (ρ := ρ) (d := d) he τ (x :: xs) (x :: xs).length (Nat.le_refl _)
        rwa [List.take_of_length_le (Nat.le_refl _)] at this

/-- A law's contract, as its statement's walk. -/
theorem Ctr.law {f : Nat} {args : List CV} {h0 h1 : Tr Blk} {base n1 : Nat} {e : BE} {w : World} {σ : Mp} {args' : Array Value} (K : Ctr P ρ f args h0 base [] (.bool e) h1 n1) (he : e.den ρ = true) (ha : VRl ρ σ args args'.toList) (hH : HR ρ σ (curOf h0 base) w) (hN : ∀ b, base ≤ b → σ b = none) :
    Calls P f args' w fun e w' => e = .returned (.bool true) ∧ Below w.heap.size w w' := by
  refine ((K.run 0 σ w args' ha hH hN).calls (fun k d h => by cases h)).mono ?_
  rintro e' w' ⟨v, rfl, σ', h1, h2, h3, h4, h5⟩
  cases h2
  refine ⟨by rw [he], h4.os, h4.tape, h4.output, h4.size, fun k hk => h4.block k hk (fun b hb l hl => ?_)⟩
  rcases hb with hb | hb
  · cases hb
  · rw [hN b hb] at hl; cases hl

end
end Go.Proofs.Ytgnmdknbnkljbaa.Cx

/- BoltLearns holds, for all inputs: by its automaton. Made by tools/cxlaw.py. -/
namespace Go.Proofs.Ytgnmdknbnkljbaa
set_option linter.unusedVariables false
set_option linter.unusedSimpArgs false
open Go.ChangeShapes Go.WideShapes Go.ChangeAt Go.RowKit
open Cx (Env IE BE DT KnownB)

set_option maxRecDepth 100000 in
theorem bllea_open0 {H : Type} {enc : TypeId × Value → H} {w : World} {base : Nat} {spare : Nat → Bool} {held : Bool} {r : Reach} {b0 : Nat} {vv : Value} {d : DataW H} {p : List MemPlace} (hval : Value.okWide Try.prog w r b0 25 vv) (h : DataW.Trod enc Try.prog w base spare held 25 vv d p) :
    ∃ (x0 : Int) (x1 : Int) (x2 : Int) (x3 : Int) (x4 : Int) (x5 : Int) (x6 : Int) (x7 : Int) (x8 : Int) (x9 : Int) (x10 : Int) (x11 : Int) (x12 : Int), vv = .agg #[.int .i64 x0, .int .i64 x1, .int .i64 x2, .int .i64 x3, .int .i64 x4, .int .i64 x5, .int .i64 x6, .int .i64 x7, .int .i64 x8, .int .i64 x9, .int .i64 x10, .int .i64 x11, .int .i64 x12] ∧ (Lit.int .i64 x0).wf = true ∧ (Lit.int .i64 x1).wf = true ∧ (Lit.int .i64 x2).wf = true ∧ (Lit.int .i64 x3).wf = true ∧ (Lit.int .i64 x4).wf = true ∧ (Lit.int .i64 x5).wf = true ∧ (Lit.int .i64 x6).wf = true ∧ (Lit.int .i64 x7).wf = true ∧ (Lit.int .i64 x8).wf = true ∧ (Lit.int .i64 x9).wf = true ∧ (Lit.int .i64 x10).wf = true ∧ (Lit.int .i64 x11).wf = true ∧ (Lit.int .i64 x12).wf = true := by
  obtain ⟨cs, rfl, hsz⟩ := okWide_struct Try.underlying25 hval
  obtain ⟨l⟩ := cs
  obtain ⟨fuel, hf⟩ := h
  have hl : l.length = 13 := hsz.trans (by kernel_rfl)
  obtain ⟨nA3, yA3, tA3⟩ := trodS Try.underlying25 hf 3 _ rfl (o := 3) (c := 2) (ty := 23) rfl rfl (by kernel_rfl)
  obtain ⟨nA4, yA4, tA4⟩ := trodS Try.underlying25 hf 4 _ rfl (o := 5) (c := 2) (ty := 23) rfl rfl (by kernel_rfl)
  obtain ⟨nA5, yA5, tA5⟩ := trodS Try.underlying25 hf 5 _ rfl (o := 7) (c := 2) (ty := 23) rfl rfl (by kernel_rfl)
  obtain ⟨nA6, yA6, tA6⟩ := trodS Try.underlying25 hf 6 _ rfl (o := 9) (c := 2) (ty := 23) rfl rfl (by kernel_rfl)
  obtain ⟨nA7, yA7, tA7⟩ := trodS Try.underlying25 hf 7 _ rfl (o := 11) (c := 2) (ty := 23) rfl rfl (by kernel_rfl)
  obtain ⟨n0, y0, t0⟩ := trodS Try.underlying25 hf 0 _ rfl (o := 0) (c := 1) (ty := 3) rfl rfl (by kernel_rfl)
  obtain ⟨x0, g0, w0⟩ := leafI Try.underlying3 t0
  obtain ⟨n1, y1, t1⟩ := trodS Try.underlying25 hf 1 _ rfl (o := 1) (c := 1) (ty := 3) rfl rfl (by kernel_rfl)
  obtain ⟨x1, g1, w1⟩ := leafI Try.underlying3 t1
  obtain ⟨n2, y2, t2⟩ := trodS Try.underlying25 hf 2 _ rfl (o := 2) (c := 1) (ty := 3) rfl rfl (by kernel_rfl)
  obtain ⟨x2, g2, w2⟩ := leafI Try.underlying3 t2
  obtain ⟨n3, y3, t3⟩ := trodS Try.underlying23 tA3 0 _ rfl (o := 0) (c := 1) (ty := 3) rfl rfl (by kernel_rfl)
  rw [sub_of (s := 3) rfl (by decide)] at t3
  obtain ⟨x3, g3, w3⟩ := leafI Try.underlying3 t3
  obtain ⟨n4, y4, t4⟩ := trodS Try.underlying23 tA3 1 _ rfl (o := 1) (c := 1) (ty := 3) rfl rfl (by kernel_rfl)
  rw [sub_of (s := 4) rfl (by decide)] at t4
  obtain ⟨x4, g4, w4⟩ := leafI Try.underlying3 t4
  obtain ⟨n5, y5, t5⟩ := trodS Try.underlying23 tA4 0 _ rfl (o := 0) (c := 1) (ty := 3) rfl rfl (by kernel_rfl)
  rw [sub_of (s := 5) rfl (by decide)] at t5
  obtain ⟨x5, g5, w5⟩ := leafI Try.underlying3 t5
  obtain ⟨n6, y6, t6⟩ := trodS Try.underlying23 tA4 1 _ rfl (o := 1) (c := 1) (ty := 3) rfl rfl (by kernel_rfl)
  rw [sub_of (s := 6) rfl (by decide)] at t6
  obtain ⟨x6, g6, w6⟩ := leafI Try.underlying3 t6
  obtain ⟨n7, y7, t7⟩ := trodS Try.underlying23 tA5 0 _ rfl (o := 0) (c := 1) (ty := 3) rfl rfl (by kernel_rfl)
  rw [sub_of (s := 7) rfl (by decide)] at t7
  obtain ⟨x7, g7, w7⟩ := leafI Try.underlying3 t7
  obtain ⟨n8, y8, t8⟩ := trodS Try.underlying23 tA5 1 _ rfl (o := 1) (c := 1) (ty := 3) rfl rfl (by kernel_rfl)
  rw [sub_of (s := 8) rfl (by decide)] at t8
  obtain ⟨x8, g8, w8⟩ := leafI Try.underlying3 t8
  obtain ⟨n9, y9, t9⟩ := trodS Try.underlying23 tA6 0 _ rfl (o := 0) (c := 1) (ty := 3) rfl rfl (by kernel_rfl)
  rw [sub_of (s := 9) rfl (by decide)] at t9
  obtain ⟨x9, g9, w9⟩ := leafI Try.underlying3 t9
  obtain ⟨n10, y10, t10⟩ := trodS Try.underlying23 tA6 1 _ rfl (o := 1) (c := 1) (ty := 3) rfl rfl (by kernel_rfl)
  rw [sub_of (s := 10) rfl (by decide)] at t10
  obtain ⟨x10, g10, w10⟩ := leafI Try.underlying3 t10
  obtain ⟨n11, y11, t11⟩ := trodS Try.underlying23 tA7 0 _ rfl (o := 0) (c := 1) (ty := 3) rfl rfl (by kernel_rfl)
  rw [sub_of (s := 11) rfl (by decide)] at t11
  obtain ⟨x11, g11, w11⟩ := leafI Try.underlying3 t11
  obtain ⟨n12, y12, t12⟩ := trodS Try.underlying23 tA7 1 _ rfl (o := 1) (c := 1) (ty := 3) rfl rfl (by kernel_rfl)
  rw [sub_of (s := 12) rfl (by decide)] at t12
  obtain ⟨x12, g12, w12⟩ := leafI Try.underlying3 t12
  refine ⟨x0, x1, x2, x3, x4, x5, x6, x7, x8, x9, x10, x11, x12, ?_, w0, w1, w2, w3, w4, w5, w6, w7, w8, w9, w10, w11, w12⟩
  clear hval hsz hf t0 t1 t2 t3 t4 t5 t6 t7 t8 t9 t10 t11 t12
  match l, hl with
  | [k0, k1, k2, k3, k4, k5, k6, k7, k8, k9, k10, k11, k12], _ =>
    simp [Value.cells] at g0 g1 g2 g3 g4 g5 g6 g7 g8 g9 g10 g11 g12
    subst g0 g1 g2 g3 g4 g5 g6 g7 g8 g9 g10 g11 g12
    rfl

set_option maxRecDepth 100000 in
theorem bllea_open1 {H : Type} {enc : TypeId × Value → H} {w : World} {base : Nat} {spare : Nat → Bool} {held : Bool} {r : Reach} {b0 : Nat} {vv : Value} {d : DataW H} {p : List MemPlace} (hval : Value.okWide Try.prog w r b0 23 vv) (h : DataW.Trod enc Try.prog w base spare held 23 vv d p) :
    ∃ (x0 : Int) (x1 : Int), vv = .agg #[.int .i64 x0, .int .i64 x1] ∧ (Lit.int .i64 x0).wf = true ∧ (Lit.int .i64 x1).wf = true := by
  obtain ⟨cs, rfl, hsz⟩ := okWide_struct Try.underlying23 hval
  obtain ⟨l⟩ := cs
  obtain ⟨fuel, hf⟩ := h
  have hl : l.length = 2 := hsz.trans (by kernel_rfl)
  obtain ⟨n0, y0, t0⟩ := trodS Try.underlying23 hf 0 _ rfl (o := 0) (c := 1) (ty := 3) rfl rfl (by kernel_rfl)
  obtain ⟨x0, g0, w0⟩ := leafI Try.underlying3 t0
  obtain ⟨n1, y1, t1⟩ := trodS Try.underlying23 hf 1 _ rfl (o := 1) (c := 1) (ty := 3) rfl rfl (by kernel_rfl)
  obtain ⟨x1, g1, w1⟩ := leafI Try.underlying3 t1
  refine ⟨x0, x1, ?_, w0, w1⟩
  clear hval hsz hf t0 t1
  match l, hl with
  | [k0, k1], _ =>
    simp [Value.cells] at g0 g1
    subst g0 g1
    rfl

set_option maxRecDepth 100000 in
theorem bllea_open2 {H : Type} {enc : TypeId × Value → H} {w : World} {base : Nat} {spare : Nat → Bool} {held : Bool} {r : Reach} {b0 : Nat} {vv : Value} {d : DataW H} {p : List MemPlace} (hval : Value.okWide Try.prog w r b0 23 vv) (h : DataW.Trod enc Try.prog w base spare held 23 vv d p) :
    ∃ (x0 : Int) (x1 : Int), vv = .agg #[.int .i64 x0, .int .i64 x1] ∧ (Lit.int .i64 x0).wf = true ∧ (Lit.int .i64 x1).wf = true := by
  obtain ⟨cs, rfl, hsz⟩ := okWide_struct Try.underlying23 hval
  obtain ⟨l⟩ := cs
  obtain ⟨fuel, hf⟩ := h
  have hl : l.length = 2 := hsz.trans (by kernel_rfl)
  obtain ⟨n0, y0, t0⟩ := trodS Try.underlying23 hf 0 _ rfl (o := 0) (c := 1) (ty := 3) rfl rfl (by kernel_rfl)
  obtain ⟨x0, g0, w0⟩ := leafI Try.underlying3 t0
  obtain ⟨n1, y1, t1⟩ := trodS Try.underlying23 hf 1 _ rfl (o := 1) (c := 1) (ty := 3) rfl rfl (by kernel_rfl)
  obtain ⟨x1, g1, w1⟩ := leafI Try.underlying3 t1
  refine ⟨x0, x1, ?_, w0, w1⟩
  clear hval hsz hf t0 t1
  match l, hl with
  | [k0, k1], _ =>
    simp [Value.cells] at g0 g1
    subst g0 g1
    rfl

theorem bllea_walk (x0 : Int) (x1 : Int) (x2 : Int) (x3 : Int) (x4 : Int) (x5 : Int) (x6 : Int) (x7 : Int) (x8 : Int) (x9 : Int) (x10 : Int) (x11 : Int) (x12 : Int) (x13 : Int) (x14 : Int) (x15 : Int) (x16 : Int) (w : World) (wx0 : (Lit.int .i64 x0).wf = true) (wx1 : (Lit.int .i64 x1).wf = true) (wx2 : (Lit.int .i64 x2).wf = true) (wx3 : (Lit.int .i64 x3).wf = true) (wx4 : (Lit.int .i64 x4).wf = true) (wx5 : (Lit.int .i64 x5).wf = true) (wx6 : (Lit.int .i64 x6).wf = true) (wx7 : (Lit.int .i64 x7).wf = true) (wx8 : (Lit.int .i64 x8).wf = true) (wx9 : (Lit.int .i64 x9).wf = true) (wx10 : (Lit.int .i64 x10).wf = true) (wx11 : (Lit.int .i64 x11).wf = true) (wx12 : (Lit.int .i64 x12).wf = true) (wx13 : (Lit.int .i64 x13).wf = true) (wx14 : (Lit.int .i64 x14).wf = true) (wx15 : (Lit.int .i64 x15).wf = true) (wx16 : (Lit.int .i64 x16).wf = true) :
    Calls Try.prog 7 #[.agg #[.int .i64 x0, .int .i64 x1, .int .i64 x2, .int .i64 x3, .int .i64 x4, .int .i64 x5, .int .i64 x6, .int .i64 x7, .int .i64 x8, .int .i64 x9, .int .i64 x10, .int .i64 x11, .int .i64 x12], .agg #[.int .i64 x13, .int .i64 x14], .agg #[.int .i64 x15, .int .i64 x16]] w fun e w' => e = .returned (.bool true) ∧ Below w.heap.size w w' := by
  obtain ⟨n, v, hv, hp⟩ := Cx.aln_run x0 x1 x2 x3 x4 x5 x6 x7 x8 x9 x10 x11 x12 x13 x14 x15 x16
  exact Cx.Ctr.law (ρ := ⟨fun _ => 0, fun _ => false⟩) (σ := fun _ => none) (e := .x v) (Cx.alnctr x0 x1 x2 x3 x4 x5 x6 x7 x8 x9 x10 x11 x12 x13 x14 x15 x16 Cx.alnmem hv) hp (.cons (.agg (.cons (.int .i64 (.x x0)) (.cons (.int .i64 (.x x1)) (.cons (.int .i64 (.x x2)) (.cons (.int .i64 (.x x3)) (.cons (.int .i64 (.x x4)) (.cons (.int .i64 (.x x5)) (.cons (.int .i64 (.x x6)) (.cons (.int .i64 (.x x7)) (.cons (.int .i64 (.x x8)) (.cons (.int .i64 (.x x9)) (.cons (.int .i64 (.x x10)) (.cons (.int .i64 (.x x11)) (.cons (.int .i64 (.x x12)) .nil)))))))))))))) (.cons (.agg (.cons (.int .i64 (.x x13)) (.cons (.int .i64 (.x x14)) .nil))) (.cons (.agg (.cons (.int .i64 (.x x15)) (.cons (.int .i64 (.x x16)) .nil))) .nil))) ⟨fun _ _ _ _ _ h => (by cases h), fun _ _ _ _ _ _ _ _ h => (by cases h), fun _ _ _ _ _ _ h => (by cases h), fun _ _ _ _ _ _ _ _ _ _ h => (by cases h)⟩ (fun _ _ => rfl)

theorem bllea_own : ownKnob Try.prog.godebug = none := by kernel_rfl
theorem bllea_laidOut : laidOutB Try.prog = true := by kernel_rfl

set_option maxRecDepth 100000 in
theorem bllea_lifted (os : Os) (started : os.Started) (H : Type) (enc : TypeId × Value → H) :
    ReturnsInHanded {} Try.checked os 7 .any (Rows.boltLearnsSpec.pre6 enc Try.prog Try.f7 Rows.boltLearnsRow.domain false) (Rows.boltLearnsSpec.post enc Try.prog Try.f7 false true false false) := by
  refine returnsInHanded_of_change (C := Try.checked) bllea_own started (by kernel_rfl) Try.func7
    (ChangeSpec.witness6 (enc := enc) (C := Try.checked) false ⟨#[], #[.agg #[.int .i64 0, .int .i64 0, .int .i64 0, .int .i64 0, .int .i64 0, .int .i64 0, .int .i64 0, .int .i64 0, .int .i64 0, .int .i64 0, .int .i64 0, .int .i64 0, .int .i64 0], .agg #[.int .i64 0, .int .i64 0], .agg #[.int .i64 0, .int .i64 0]], []⟩ 8 (by kernel_rfl) (by kernel_rfl) (by kernel_rfl) (by kernel_rfl)) ?_
  intro W base args ds gs before hval0 hW hcnd _
  have hval : ∀ (j : Nat) t v, Try.f7.params[j]? = some t → args[j]? = some v → Value.okWide Try.prog W .any base t v := hval0
  have hW' := hW
  obtain ⟨p, q, hA0, hV, rfl, hfz, hnd⟩ := hW
  have hA : DataW.TrodAll enc Try.prog W 0 (fun _ => true) true Try.f7.params.toList args.toList ds p := hA0
  rw [Try.params7] at hA hval
  obtain ⟨v0, vs0, d0, ds0, p0, q0, hargs, rfl, rfl, h0, r0⟩ := trodAll_cons hA
  obtain ⟨v1, vs1, d1, ds1, p1, q1, rfl, rfl, rfl, h1, r1⟩ := trodAll_cons r0
  obtain ⟨v2, vs2, d2, ds2, p2, q2, rfl, rfl, rfl, h2, r2⟩ := trodAll_cons r1
  obtain ⟨rfl, rfl, rfl⟩ := trodAll_nil r2
  obtain rfl : args = #[v0, v1, v2] := by cases args; simp_all
  obtain ⟨rfl, rfl⟩ := trodVars_none hV
  have k0 := h0
  have lt0 : ∀ x ∈ p0, x.block < W.heap.size := by obtain ⟨m, hm⟩ := k0; exact DataW.trod_lt m _ _ _ hm
  have k1 := h1
  have lt1 : ∀ x ∈ p1, x.block < W.heap.size := by obtain ⟨m, hm⟩ := k1; exact DataW.trod_lt m _ _ _ hm
  have k2 := h2
  have lt2 : ∀ x ∈ p2, x.block < W.heap.size := by obtain ⟨m, hm⟩ := k2; exact DataW.trod_lt m _ _ _ hm
  obtain ⟨x0, x1, x2, x3, x4, x5, x6, x7, x8, x9, x10, x11, x12, rfl, wx0, wx1, wx2, wx3, wx4, wx5, wx6, wx7, wx8, wx9, wx10, wx11, wx12⟩ := bllea_open0 (hval 0 25 v0 rfl rfl) h0
  obtain ⟨x13, x14, rfl, wx13, wx14⟩ := bllea_open1 (hval 1 23 v1 rfl rfl) h1
  obtain ⟨x15, x16, rfl, wx15, wx16⟩ := bllea_open2 (hval 2 23 v2 rfl rfl) h2
  clear hA0 hval0
  refine (bllea_walk x0 x1 x2 x3 x4 x5 x6 x7 x8 x9 x10 x11 x12 x13 x14 x15 x16 W wx0 wx1 wx2 wx3 wx4 wx5 wx6 wx7 wx8 wx9 wx10 wx11 wx12 wx13 wx14 wx15 wx16).mono fun e W' ⟨he, bel⟩ => ?_
  subst he
  exact ⟨_, rfl, _, _, _, [], _, [], hW', trodAll_mk1 (shut_bool Try.underlying4 _), (trodAll_cons_mk (Below.trod bllea_laidOut (by kernel_rfl) (of_decide_eq_true (by kernel_rfl)) k0 bel lt0) (trodAll_cons_mk (Below.trod bllea_laidOut (by kernel_rfl) (of_decide_eq_true (by kernel_rfl)) k1 bel lt1) (trodAll_cons_mk (Below.trod bllea_laidOut (by kernel_rfl) (of_decide_eq_true (by kernel_rfl)) k2 bel lt2) trodAll_mk0))), rfl, bel.frame _, fun h => by cases h⟩

theorem bllea_over : Rows.boltLearnsRow.holds Try.pinned (OpenSpec.ofChange Rows.boltLearnsSpec) :=
  OpenClaim.holds_of_wide 7 Try.f7 rfl rfl rfl rfl rfl rfl rfl ⟨rfl, rfl, rfl, rfl, rfl⟩ rfl rfl rfl rfl rfl (by kernel_rfl) Try.func7 (by kernel_rfl)
    (of_decide_eq_true (by kernel_rfl)) (by unfold Func.isWrapper; rw [if_neg (of_decide_eq_false (by kernel_rfl))]; exact ⟨rfl, rfl⟩)
    (fun os started H enc _ => bllea_lifted os started H enc)

theorem bllea_proved : Rows.BoltLearnsSaid := bllea_over
#print axioms bllea_proved

end Go.Proofs.Ytgnmdknbnkljbaa
