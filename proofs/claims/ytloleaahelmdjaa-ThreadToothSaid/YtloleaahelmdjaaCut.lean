/- acmelaw01.Cut.form: a valid form out of small numbers. -/
import Derived.Test.YtloleaahelmdjaaKnown
namespace Go.Proofs.Ytloleaahelmdjaa
open Go.RowKit

def cutMost (p n : Int) : Int := if 0 < n then min 100000 (500 * p / n) else 100000
/-- The form, before the case of no tooth. -/
def cutG (P L R A B S T : Int) (h : Bool) : Form := ⟨100 + P, L % 1200, R % 1200, A % (cutMost (100 + P) (L % 1200 + R % 1200) + 1), B % (cutMost (100 + P) (L % 1200 + R % 1200) + 1), 1 + S % 8, h, T % 101⟩
def cutF (P L R A B S T : Int) (h : Bool) : Form := if (cutG P L R A B S T h).a + (cutG P L R A B S T h).b = 0 then { cutG P L R A B S T h with a := 1 } else cutG P L R A B S T h

theorem cutMost_bd {p n : Int} (hp : 100 ≤ p) (hn : 0 ≤ n) (hn2 : n ≤ 2398) : 20 ≤ cutMost p n ∧ cutMost p n ≤ 100000 ∧ (cutMost p n) * n ≤ 500 * p := by
  unfold cutMost
  by_cases h : 0 < n
  · rw [if_pos h]
    have h1 : 500 * p / n * n ≤ 500 * p := Int.ediv_mul_le _ (by omega)
    have h2 : 20 ≤ 500 * p / n := (Int.le_ediv_iff_mul_le h).2 (by omega)
    refine ⟨by omega, by omega, ?_⟩
    have : min 100000 (500 * p / n) * n ≤ 500 * p / n * n := Int.mul_le_mul_of_nonneg_right (by omega) (by omega)
    omega
  · rw [if_neg h]
    obtain rfl : n = 0 := by omega
    omega

def CutIn (P L R A B S T : Int) : Prop := (0 ≤ P ∧ P ≤ 65535) ∧ (0 ≤ L ∧ L ≤ 65535) ∧ (0 ≤ R ∧ R ≤ 65535) ∧ (0 ≤ A ∧ A ≤ 65535) ∧ (0 ≤ B ∧ B ≤ 65535) ∧ (0 ≤ S ∧ S ≤ 255) ∧ (0 ≤ T ∧ T ≤ 255)

theorem cutF_zero {P L R A B S T : Int} {h : Bool} {p l r a b s t : Int} {h' : Bool} (hG : cutG P L R A B S T h = ⟨p, l, r, a, b, s, h', t⟩) (hz : a + b = 0) : cutF P L R A B S T h = ⟨p, l, r, 1, b, s, h', t⟩ := by
  unfold cutF
  rw [hG]
  exact if_pos hz
theorem cutF_else {P L R A B S T : Int} {h : Bool} {p l r a b s t : Int} {h' : Bool} (hG : cutG P L R A B S T h = ⟨p, l, r, a, b, s, h', t⟩) (hz : ¬ a + b = 0) : cutF P L R A B S T h = ⟨p, l, r, a, b, s, h', t⟩ := by
  unfold cutF
  rw [hG]
  exact if_neg hz

/-- What the form of a cut is. -/
theorem cut_ok {P L R A B S T : Int} (h : Bool) (hin : CutIn P L R A B S T) : okB (cutF P L R A B S T h) = true ∧ (cutF P L R A B S T h).p = 100 + P ∧ (cutF P L R A B S T h).l + (cutF P L R A B S T h).r ≤ 2398 ∧ (cutF P L R A B S T h).h = h := by
  obtain ⟨⟨p0, p1⟩, ⟨l0, l1⟩, ⟨r0, r1⟩, ⟨a0, a1⟩, ⟨b0, b1⟩, ⟨s0, s1⟩, t0, t1⟩ := hin
  have l2 := Int.emod_nonneg L (b := 1200) (by omega)
  have l3 := Int.emod_lt_of_pos L (b := 1200) (by omega)
  have r2 := Int.emod_nonneg R (b := 1200) (by omega)
  have r3 := Int.emod_lt_of_pos R (b := 1200) (by omega)
  have s2 := Int.emod_nonneg S (b := 8) (by omega)
  have s3 := Int.emod_lt_of_pos S (b := 8) (by omega)
  have t2 := Int.emod_nonneg T (b := 101) (by omega)
  have t3 := Int.emod_lt_of_pos T (b := 101) (by omega)
  obtain ⟨M, hM⟩ : ∃ M, cutMost (100 + P) (L % 1200 + R % 1200) = M := ⟨_, rfl⟩
  obtain ⟨m0, m1, m2⟩ := cutMost_bd (p := 100 + P) (n := L % 1200 + R % 1200) (by omega) (by omega) (by omega)
  rw [hM] at m0 m1 m2
  have hG : cutG P L R A B S T h = ⟨100 + P, L % 1200, R % 1200, A % (M + 1), B % (M + 1), 1 + S % 8, h, T % 101⟩ := by unfold cutG; rw [hM]
  have a2 := Int.emod_nonneg A (b := M + 1) (by omega)
  have a3 := Int.emod_lt_of_pos A (b := M + 1) (by omega)
  have b2 := Int.emod_nonneg B (b := M + 1) (by omega)
  have b3 := Int.emod_lt_of_pos B (b := M + 1) (by omega)
  have key : ∀ x : Int, x ≤ M → x * (L % 1200 + R % 1200) ≤ 500 * (100 + P) := fun x hx => Int.le_trans (Int.mul_le_mul_of_nonneg_right hx (by omega)) m2
  have fin : ∀ a b : Int, 0 ≤ a → a ≤ M → 0 ≤ b → b ≤ M → 1 ≤ a + b → okB ⟨100 + P, L % 1200, R % 1200, a, b, 1 + S % 8, h, T % 101⟩ = true := by
    intro a b ha ha2 hb hb2 hab
    unfold okB openB
    rw [lim_iff.2 ⟨⟨by simp; omega, by simp; omega⟩, ⟨by simp; omega, by simp; omega⟩, ⟨by simp; omega, by simp; omega⟩, ⟨by simp; omega, by simp; omega⟩, ⟨by simp; omega, by simp; omega⟩, ⟨by simp; omega, by simp; omega⟩, by simp; omega, by simp; omega⟩]
    simp only [Bool.true_and, Bool.and_eq_true, decide_eq_true_eq]
    exact ⟨hab, key _ (by omega)⟩
  by_cases hz : A % (M + 1) + B % (M + 1) = 0
  · rw [cutF_zero hG hz]
    exact ⟨fin _ _ (by omega) (by omega) (by omega) (by omega) (by omega), rfl, by simp; omega, rfl⟩
  · rw [cutF_else hG hz]
    exact ⟨fin _ _ (by omega) (by omega) (by omega) (by omega) (by omega), rfl, by simp; omega, rfl⟩

set_option maxHeartbeats 2000000 in
theorem form_any (P L R A B S T : Int) (h : Bool) (w : World) (hin : CutIn P L R A B S T) :
    Calls Try.prog 37 #[.agg #[.int .u16 P, .int .u16 L, .int .u16 R, .int .u16 A, .int .u16 B, .int .u8 S, .int .u8 T, .bool h]] w fun e w' => e = .returned (.agg (cutF P L R A B S T h).cells) ∧ Below w.heap.size w w' := by
  obtain ⟨⟨p0, p1⟩, ⟨l0, l1⟩, ⟨r0, r1⟩, ⟨a0, a1⟩, ⟨b0, b1⟩, ⟨s0, s1⟩, t0, t1⟩ := hin
  have l2 := Int.emod_nonneg L (b := 1200) (by omega)
  have l3 := Int.emod_lt_of_pos L (b := 1200) (by omega)
  have r2 := Int.emod_nonneg R (b := 1200) (by omega)
  have r3 := Int.emod_lt_of_pos R (b := 1200) (by omega)
  have s2 := Int.emod_nonneg S (b := 8) (by omega)
  have s3 := Int.emod_lt_of_pos S (b := 8) (by omega)
  by_cases hn : 0 < L % 1200 + R % 1200
  · obtain ⟨M, hM⟩ : ∃ M, min 100000 (500 * (100 + P) / (L % 1200 + R % 1200)) = M := ⟨_, rfl⟩
    have hc : cutMost (100 + P) (L % 1200 + R % 1200) = M := by unfold cutMost; rw [if_pos hn, hM]
    obtain ⟨m0, m1, -⟩ := cutMost_bd (p := 100 + P) (n := L % 1200 + R % 1200) (by omega) (by omega) (by omega)
    rw [hc] at m0 m1
    have hG : cutG P L R A B S T h = ⟨100 + P, L % 1200, R % 1200, A % (M + 1), B % (M + 1), 1 + S % 8, h, T % 101⟩ := by unfold cutG; rw [hc]
    have e1 := IntWalk.i64_in (M + 1) (by omega)
    have a2 := Int.emod_nonneg A (b := M + 1) (by omega)
    have a3 := Int.emod_lt_of_pos A (b := M + 1) (by omega)
    have b2 := Int.emod_nonneg B (b := M + 1) (by omega)
    have b3 := Int.emod_lt_of_pos B (b := M + 1) (by omega)
    have ea : A.tmod (M + 1) = A % (M + 1) := Int.tmod_eq_emod_of_nonneg a0
    have eb : B.tmod (M + 1) = B % (M + 1) := Int.tmod_eq_emod_of_nonneg b0
    have HG := Lib.hid hG
    clear hG hc
    by_cases hz : A % (M + 1) + B % (M + 1) = 0
    · have HC := Lib.hid (cutF_zero HG.out hz)
      go_enter Try.func37, Try.ntmps37
      go_wp2_with fail
      go_region
      go_wp2
      go_returns
      exact ⟨by rw [HC.out]; rfl, by go_grown⟩
    · have HC := Lib.hid (cutF_else HG.out hz)
      go_enter Try.func37, Try.ntmps37
      go_wp2_with fail
      go_region
      go_wp2
      go_returns
      exact ⟨by rw [HC.out]; rfl, by go_grown⟩
  · have hc : cutMost (100 + P) (L % 1200 + R % 1200) = 100000 := by unfold cutMost; rw [if_neg hn]
    have hG : cutG P L R A B S T h = ⟨100 + P, L % 1200, R % 1200, A % 100001, B % 100001, 1 + S % 8, h, T % 101⟩ := by unfold cutG; rw [hc]; rfl
    have a2 := Int.emod_nonneg A (b := 100001) (by omega)
    have a3 := Int.emod_lt_of_pos A (b := 100001) (by omega)
    have b2 := Int.emod_nonneg B (b := 100001) (by omega)
    have b3 := Int.emod_lt_of_pos B (b := 100001) (by omega)
    have HG := Lib.hid hG
    clear hG hc
    by_cases hz : A % 100001 + B % 100001 = 0
    · have HC := Lib.hid (cutF_zero HG.out hz)
      go_enter Try.func37, Try.ntmps37
      go_wp2_with fail
      go_region
      go_wp2
      go_returns
      exact ⟨by rw [HC.out]; rfl, by go_grown⟩
    · have HC := Lib.hid (cutF_else HG.out hz)
      go_enter Try.func37, Try.ntmps37
      go_wp2_with fail
      go_region
      go_wp2
      go_returns
      exact ⟨by rw [HC.out]; rfl, by go_grown⟩
end Go.Proofs.Ytloleaahelmdjaa
