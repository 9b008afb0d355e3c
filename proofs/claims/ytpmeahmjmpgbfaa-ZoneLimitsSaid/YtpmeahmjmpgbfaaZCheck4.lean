/- Contract of zone.Check. Made by tools/gen_zcheck4.py. -/
import Derived.Test.YtpmeahmjmpgbfaaZCheck3
import Derived.Test.YtpmeahmjmpgbfaaZClass
namespace Go.Proofs.Ytpmeahmjmpgbfaa
open Go.RowKit
set_option linter.unusedVariables false
set_option linter.unusedSimpArgs false

def longB (ss : List Int) (gs ps : List (List Int)) : Bool := decide (20 < ss.length) || (decide (12 < gs.length) || decide (12 < ps.length))
/-- The error of Check. -/
def checkN (ss : List Int) (gs ps : List (List Int)) : Int := if longB ss gs ps = true then 5 else if fullB ss gs ps = false then 4 else if (stepsB ss && rowsB gs ps) = false then 2 else 0

theorem one_ints {w : World} {b : Nat} {sa : Option Addr} {sc : Nat} {ss : List Int} (m1 : ss.length ≤ 4611686018427387904) (hs : SlA IntE w sa ss) (hb : b < w.heap.size) (h0 : w.cell? ⟨b, 0, none⟩ = some (.slice sa ss.length sc)) : SlA IntsAt w (some ⟨b, 0, none⟩) [ss] :=
  .inr ⟨b, 0, rfl, hb, fun i x hx => by
    cases i with
    | zero => simp at hx; subst hx; exact ⟨_, h0, sa, sc, rfl, m1, hs⟩
    | succ i => simp at hx⟩
theorem two_rows {w : World} {b : Nat} {ga pa : Option Addr} {gc pc : Nat} {gs ps : List (List Int)} (m2 : gs.length ≤ 4611686018427387904) (m3 : ps.length ≤ 4611686018427387904) (hg : SlA IntsAt w ga gs) (hp : SlA IntsAt w pa ps) (hb : b < w.heap.size) (h0 : w.cell? ⟨b, 0, none⟩ = some (.slice ga gs.length gc)) (h1 : w.cell? ⟨b, 1, none⟩ = some (.slice pa ps.length pc)) : SlA RowsAt w (some ⟨b, 0, none⟩) [gs, ps] :=
  .inr ⟨b, 0, rfl, hb, fun i x hx => by
    match i, hx with
    | 0, hx => simp at hx; subst hx; exact ⟨_, h0, ga, gc, rfl, m2, hg⟩
    | 1, hx => simp at hx; subst hx; exact ⟨_, h1, pa, pc, rfl, m3, hp⟩
    | i + 2, hx => simp at hx⟩

theorem zcheck_any (ss : List Int) (gs ps : List (List Int)) (sa ga pa : Option Addr) (sc gc pc : Nat) (w : World) (m1 : ss.length ≤ 4611686018427387904) (m2 : gs.length ≤ 4611686018427387904) (m3 : ps.length ≤ 4611686018427387904) (hs : SlA IntE w sa ss) (hg : SlA IntsAt w ga gs) (hp : SlA IntsAt w pa ps) :
    Calls Try.prog 29 #[.agg #[.slice sa ss.length sc, .slice ga gs.length gc, .slice pa ps.length pc]] w fun e w' => e = .returned (.int .i64 (checkN ss gs ps)) ∧ Below w.heap.size w w' := by
  have H1 : ∀ (W : World) (b : Nat), Below w.heap.size w W → b < W.heap.size → W.cell? ⟨b, 0, none⟩ = some (.slice sa ss.length sc) → Calls Try.prog 89 #[.int .i64 20, .slice (some ⟨b, 0, none⟩) 1 1] W fun e w' => e = .returned (.bool (decide (20 < ss.length))) ∧ Below W.heap.size W w' := by
    intro W b hB hb h0
    refine (longer1_any 20 [ss] (some ⟨b, 0, none⟩) 1 W (by simp) (one_ints m1 (hs.below intE_stable hB) hb h0)).mono ?_
    rintro e w' ⟨rfl, h⟩
    refine ⟨ret_bool ?_, h⟩
    simp only [List.any_cons, List.any_nil, Bool.or_false]
    exact decide_eq_decide.2 (by omega)
  have H2 : ∀ (W : World) (b : Nat), Below w.heap.size w W → b < W.heap.size → W.cell? ⟨b, 0, none⟩ = some (.slice ga gs.length gc) → W.cell? ⟨b, 1, none⟩ = some (.slice pa ps.length pc) → Calls Try.prog 90 #[.int .i64 12, .slice (some ⟨b, 0, none⟩) 2 2] W fun e w' => e = .returned (.bool (decide (12 < gs.length) || decide (12 < ps.length))) ∧ Below W.heap.size W w' := by
    intro W b hB hb h0 h1
    refine (longer2_any 12 [gs, ps] (some ⟨b, 0, none⟩) 2 W (by simp) (two_rows m2 m3 (hg.below ints_stable hB) (hp.below ints_stable hB) hb h0 h1)).mono ?_
    rintro e w' ⟨rfl, h⟩
    refine ⟨ret_bool ?_, h⟩
    simp only [List.any_cons, List.any_nil, Bool.or_false]
    rw [show decide ((12 : Int) < gs.length) = decide (12 < gs.length) from decide_eq_decide.2 (by omega), show decide ((12 : Int) < ps.length) = decide (12 < ps.length) from decide_eq_decide.2 (by omega)]
  have HF := fun (W : World) (hB : Below w.heap.size w W) => fullRows_any ss gs ps sa ga pa sc gc pc W m1 m2 m3 (hs.below intE_stable hB) (hg.below ints_stable hB) (hp.below ints_stable hB)
  have HS := fun (W : World) (hB : Below w.heap.size w W) => validSteps_any ss sa sc W m1 (hs.below intE_stable hB)
  have HR := fun (W : World) (hB : Below w.heap.size w W) => validRows_any ss gs ps sa ga pa sc gc pc W m1 m2 m3 (hs.below intE_stable hB) (hg.below ints_stable hB) (hp.below ints_stable hB)
  unfold checkN longB
  cases h1 : decide (20 < ss.length)
  · rw [h1] at H1
    cases h2 : (decide (12 < gs.length) || decide (12 < ps.length))
    · rw [h2] at H2
      cases h3 : fullB ss gs ps
      · rw [h3] at HF
        exact zcheck_c w ss gs ps sa ga pa sc gc pc (Lib.hid H1) (Lib.hid H2) (Lib.hid HF)
      · rw [h3] at HF
        cases h4 : stepsB ss
        · rw [h4] at HS
          exact zcheck_d w ss gs ps sa ga pa sc gc pc (Lib.hid H1) (Lib.hid H2) (Lib.hid HF) (Lib.hid HS)
        · rw [h4] at HS
          cases h5 : rowsB gs ps
          · rw [h5] at HR
            exact zcheck_e w ss gs ps sa ga pa sc gc pc (Lib.hid H1) (Lib.hid H2) (Lib.hid HF) (Lib.hid HS) (Lib.hid HR)
          · rw [h5] at HR
            exact zcheck_f w ss gs ps sa ga pa sc gc pc (Lib.hid H1) (Lib.hid H2) (Lib.hid HF) (Lib.hid HS) (Lib.hid HR)
    · rw [h2] at H2
      exact zcheck_b w ss gs ps sa ga pa sc gc pc (Lib.hid H1) (Lib.hid H2)
  · rw [h1] at H1
    exact zcheck_a w ss gs ps sa ga pa sc gc pc (Lib.hid H1)
end Go.Proofs.Ytpmeahmjmpgbfaa
