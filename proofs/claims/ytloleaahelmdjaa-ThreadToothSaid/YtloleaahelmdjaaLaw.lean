/- What the laws need of ratios and moves: a ratio's two numbers, Advance over both hands. -/
import Derived.Test.YtloleaahelmdjaaCut
import Derived.Test.YtloleaahelmdjaaOpen
namespace Go.Proofs.Ytloleaahelmdjaa
open Go.RowKit

/-- A ratio's numbers. -/
theorem ratV_cut (n d : Int) (hd : 1 ≤ d) : ∃ q e g : Int, ratV n d = .agg #[.int .i64 q, .int .i64 e] ∧ 1 ≤ e ∧ e ≤ d ∧ 1 ≤ g ∧ g ≤ d ∧ q * g = n ∧ e * g = d ∧ d / e = g ∧ d % e = 0 ∧ d.tdiv e = g ∧ d.tmod e = 0 ∧ (0 ≤ n → 0 ≤ q ∧ q ≤ n) ∧ (n ≤ 0 → n ≤ q ∧ q ≤ 0) := by
  have hg := gcd_pos_of n d hd
  have e1 : n / (Int.gcd n d : Int) * (Int.gcd n d : Int) = n := Int.ediv_mul_cancel (Int.gcd_dvd_left n d)
  have e2 : d / (Int.gcd n d : Int) * (Int.gcd n d : Int) = d := Int.ediv_mul_cancel (Int.gcd_dvd_right n d)
  refine ⟨n / Int.gcd n d, d / Int.gcd n d, Int.gcd n d, rfl, ?_⟩
  generalize (Int.gcd n d : Int) = g at *
  generalize hq : n / g = q at *
  generalize he : d / g = e at *
  have he1 : 1 ≤ e := by
    have : 0 < e := by
      rcases Int.lt_or_le 0 e with h | h
      · exact h
      · have := Int.mul_nonneg (a := -e) (b := g) (by omega) (by omega)
        rw [Int.neg_mul] at this
        omega
    omega
  have he2 : e ≤ d := by
    have : e * 1 ≤ e * g := Int.mul_le_mul_of_nonneg_left hg (by omega)
    omega
  have hg2 : g ≤ d := by
    have : 1 * g ≤ e * g := Int.mul_le_mul_of_nonneg_right he1 (by omega)
    omega
  have hde : d / e = g := by rw [← e2, Int.mul_comm]; exact Int.mul_ediv_cancel _ (by omega)
  have hdm : d % e = 0 := by rw [← e2]; exact Int.mul_emod_right _ _
  refine ⟨he1, he2, hg, hg2, e1, e2, hde, hdm, ?_, ?_, fun hn => ?_, fun hn => ?_⟩
  · rw [Int.tdiv_eq_ediv_of_nonneg (by omega)]; exact hde
  · rw [Int.tmod_eq_emod_of_nonneg (by omega)]; exact hdm
  · have h0 : 0 ≤ q := by rw [← hq]; exact Int.ediv_nonneg hn (by omega)
    have : q * 1 ≤ q * g := Int.mul_le_mul_of_nonneg_left hg h0
    exact ⟨h0, by omega⟩
  · have h0 : q ≤ 0 := by
      rcases Int.lt_or_le 0 q with h | h
      · have := Int.mul_pos h (by omega : 0 < g); omega
      · exact h
    have : -q * 1 ≤ -q * g := Int.mul_le_mul_of_nonneg_left hg (by omega)
    rw [Int.neg_mul, Int.neg_mul] at this
    exact ⟨by omega, h0⟩

/-- The ratio of the opposite number. -/
theorem ratV_neg {n d q e : Int} (hd : 1 ≤ d) (h : ratV n d = .agg #[.int .i64 q, .int .i64 e]) : ratV (-n) d = .agg #[.int .i64 (-q), .int .i64 e] := by
  have hg := gcd_pos_of n d hd
  unfold ratV at h ⊢
  simp only [Value.agg.injEq, Array.mk.injEq, List.cons.injEq, Value.int.injEq, true_and, and_true] at h
  rw [Int.neg_gcd, Int.neg_ediv_of_dvd (Int.gcd_dvd_left n d), h.1, h.2]

theorem ratV_whole (n d : Int) (hd : 1 ≤ d) : ratV (n * d) d = .agg #[.int .i64 n, .int .i64 1] := by
  unfold ratV
  have h : (Int.gcd (n * d) d : Int) = d := by
    rw [Int.gcd_mul_left_left]
    omega
  rw [h, Int.mul_ediv_cancel _ (by omega), Int.ediv_self (by omega)]

/-- How far a nut moves, in millionths of a unit. -/
def advN (p s : Int) (h : Bool) (y : Int) : Int := if h then p * s * -y else p * s * y
theorem advN_eq (p s : Int) (h : Bool) (y : Int) : advN p s h y = (if h then -(p * s) else p * s) * y := by
  cases h
  · rfl
  · show p * s * -y = -(p * s) * y
    rw [Int.mul_neg, Int.neg_mul]
theorem advN_add (p s : Int) (h : Bool) (x y : Int) : advN p s h (x + y) = advN p s h x + advN p s h y := by
  rw [advN_eq, advN_eq, advN_eq, Int.mul_add]
theorem advN_not (p s : Int) (h : Bool) (x : Int) : advN p s (!h) x = -advN p s h x := by
  cases h <;> simp [advN, Int.mul_neg]
theorem advance_any (p l r a b s t : Int) (h : Bool) (y : Int) (w : World) (hk : okB ⟨p, l, r, a, b, s, h, t⟩ = true) (hy : -1000000000 ≤ y ∧ y ≤ 1000000000) :
    Calls Try.prog 23 #[.agg #[.int .i64 p, .int .i64 l, .int .i64 r, .int .i64 a, .int .i64 b, .int .i64 s, .bool h, .int .i64 t], .int .i64 y] w fun e w' => e = .returned (.tuple #[ratV (advN p s h y) 1000000, .int .i64 0]) ∧ Below w.heap.size w w' := by
  cases h
  · exact advance_right p l r a b s t false y w hk rfl hy
  · exact advance_left p l r a b s t true y w hk rfl hy

theorem wf_bd {k : IntKind} {n : Int} (h : (Lit.int k n).wf = true) : k.min ≤ n ∧ n ≤ k.max := by
  simpa [Lit.wf] using h
theorem cut_in {xp xl xr xa xb xs xt : Int} (m0 : (Lit.int .u16 xp).wf = true) (m1 : (Lit.int .u16 xl).wf = true) (m2 : (Lit.int .u16 xr).wf = true) (m3 : (Lit.int .u16 xa).wf = true) (m4 : (Lit.int .u16 xb).wf = true) (m5 : (Lit.int .u8 xs).wf = true) (m6 : (Lit.int .u8 xt).wf = true) : CutIn xp xl xr xa xb xs xt :=
  ⟨wf_bd m0, wf_bd m1, wf_bd m2, wf_bd m3, wf_bd m4, wf_bd m5, wf_bd m6⟩
theorem adv_bd {p s z : Int} (h : Bool) (hz : -33000000 ≤ z ∧ z ≤ 33000000) (h0 : 0 ≤ p * s) (h1 : p * s ≤ 200000 * 8) : -52800000000000 ≤ advN p s h z ∧ advN p s h z ≤ 52800000000000 := by
  have key : ∀ u : Int, u ≤ 33000000 → p * s * u ≤ 52800000000000 := fun u hu => by
    rcases Int.le_total 0 u with h | h
    · have := Int.mul_le_mul h1 hu h (by omega : (0 : Int) ≤ 200000 * 8)
      omega
    · have : p * s * u ≤ p * s * 0 := Int.mul_le_mul_of_nonneg_left h h0
      omega
  have a := key z hz.2
  have b := key (-z) (by omega)
  rw [Int.mul_neg] at b
  cases h
  · show -52800000000000 ≤ p * s * z ∧ p * s * z ≤ 52800000000000
    omega
  · show -52800000000000 ≤ p * s * -z ∧ p * s * -z ≤ 52800000000000
    rw [Int.mul_neg]
    omega
end Go.Proofs.Ytloleaahelmdjaa
