/- Lemmas for terms that are laid at the root (tools/cxroot.py). -/
import Derived.Test.YtknphpihipkdpaaCxS
set_option linter.unusedVariables false
namespace Go.Proofs.Ytknphpihipkdpaa.Cx
open Go Go.RowKit

section
variable {ρ : Env}
theorem Ztq {X Y : IE} {x y q : Int} (ha : Is ρ X x) (hb : Is ρ Y y) (hq : x.tdiv y = q) (h1 : In64 q) : Is ρ (IE.bin .quo .i64 X Y) q := by
  refine ⟨?_⟩
  show IntKind.i64.wrap ((X.Z ρ).tdiv (Y.Z ρ)) = q
  rw [ha.out, hb.out, hq]; exact wrap_id h1.1 h1.2
theorem Ztr {k : IntKind} {X Y : IE} {x y q : Int} (ha : Is ρ X x) (hb : Is ρ Y y) (hq : x.tmod y = q) : Is ρ (IE.bin .rem k X Y) q := by
  refine ⟨?_⟩
  show (X.Z ρ).tmod (Y.Z ρ) = q
  rw [ha.out, hb.out, hq]
end
theorem Zru {ρ : Env} {A : IE} {x z D : Int} (ha : Is ρ A x) (hd : 1 ≤ D) (hx : -4611686018427387904 ≤ x ∧ x ≤ 4611686018427387904) (h1 : x ≤ D * z) (h2 : D * z ≤ x + (D - 1)) : Is ρ (.bin .add .i64 (.bin .quo .i64 A (.c D)) (.bin .mn .i64 (.c 1) (.bin .mx .i64 (.c 0) (.bin .rem .i64 A (.c D))))) z := by
  obtain ⟨ha⟩ := ha
  constructor
  show IntKind.i64.wrap (IntKind.i64.wrap ((A.Z ρ).tdiv D) + min 1 (max 0 ((A.Z ρ).tmod D))) = z
  rw [ha]
  have e := Int.mul_tdiv_add_tmod x D
  have l1 : (x.tdiv D).natAbs ≤ x.natAbs := by rw [Int.natAbs_tdiv]; exact Nat.div_le_self _ _
  have l2 : x.tmod D < D := Int.tmod_lt_of_pos x (by omega)
  have l3 : -D < x.tmod D := by
    rcases Int.le_total 0 x with h | h
    · have := Int.tmod_nonneg D h; omega
    · have := Int.tmod_lt_of_pos (-x) (b := D) (by omega)
      rw [Int.neg_tmod] at this; omega
  generalize x.tdiv D = q at *
  generalize x.tmod D = r at *
  rw [wrap_id (x := q) (by omega) (by omega)]
  have k : q + min 1 (max 0 r) = z := by
    have m1 : D * (z - q) = D * z - D * q := Int.mul_sub ..
    obtain ⟨t, ht⟩ : ∃ t, z - q = t := ⟨_, rfl⟩
    rw [ht] at m1
    rcases Int.lt_or_le 0 r with hr | hr
    · have : t = 1 := by
        rcases Int.lt_trichotomy t 1 with h | h | h
        · have := Int.mul_le_mul_of_nonneg_left (show t ≤ 0 by omega) (show 0 ≤ D by omega)
          omega
        · exact h
        · have := Int.mul_le_mul_of_nonneg_left (show 2 ≤ t by omega) (show 0 ≤ D by omega)
          omega
      omega
    · have : t = 0 := by
        rcases Int.lt_trichotomy t 0 with h | h | h
        · have := Int.mul_le_mul_of_nonneg_left (show t ≤ -1 by omega) (show 0 ≤ D by omega)
          omega
        · exact h
        · have := Int.mul_le_mul_of_nonneg_left (show 1 ≤ t by omega) (show 0 ≤ D by omega)
          omega
      omega
  rw [k]
  exact wrap_id (by omega) (by omega)
theorem Zru2 {ρ : Env} {A B : IE} {x z D : Int} (ha : Is ρ A x) (hb : Is ρ B D) (hd : 1 ≤ D) (hx : -4611686018427387904 ≤ x ∧ x ≤ 4611686018427387904) (h1 : x ≤ D * z) (h2 : D * z ≤ x + (D - 1)) : Is ρ (.bin .add .i64 (.bin .quo .i64 A B) (.bin .mn .i64 (.c 1) (.bin .mx .i64 (.c 0) (.bin .rem .i64 A B)))) z := by
  obtain ⟨ha⟩ := ha
  obtain ⟨hb⟩ := hb
  constructor
  show IntKind.i64.wrap (IntKind.i64.wrap ((A.Z ρ).tdiv (B.Z ρ)) + min 1 (max 0 ((A.Z ρ).tmod (B.Z ρ)))) = z
  rw [ha, hb]
  have e := Int.mul_tdiv_add_tmod x D
  have l1 : (x.tdiv D).natAbs ≤ x.natAbs := by rw [Int.natAbs_tdiv]; exact Nat.div_le_self _ _
  have l2 : x.tmod D < D := Int.tmod_lt_of_pos x (by omega)
  have l3 : -D < x.tmod D := by
    rcases Int.le_total 0 x with h | h
    · have := Int.tmod_nonneg D h; omega
    · have := Int.tmod_lt_of_pos (-x) (b := D) (by omega)
      rw [Int.neg_tmod] at this; omega
  generalize x.tdiv D = q at *
  generalize x.tmod D = r at *
  rw [wrap_id (x := q) (by omega) (by omega)]
  have k : q + min 1 (max 0 r) = z := by
    have m1 : D * (z - q) = D * z - D * q := Int.mul_sub ..
    obtain ⟨t, ht⟩ : ∃ t, z - q = t := ⟨_, rfl⟩
    rw [ht] at m1
    rcases Int.lt_or_le 0 r with hr | hr
    · have : t = 1 := by
        rcases Int.lt_trichotomy t 1 with h | h | h
        · have := Int.mul_le_mul_of_nonneg_left (show t ≤ 0 by omega) (show 0 ≤ D by omega)
          omega
        · exact h
        · have := Int.mul_le_mul_of_nonneg_left (show 2 ≤ t by omega) (show 0 ≤ D by omega)
          omega
      omega
    · have : t = 0 := by
        rcases Int.lt_trichotomy t 0 with h | h | h
        · have := Int.mul_le_mul_of_nonneg_left (show t ≤ -1 by omega) (show 0 ≤ D by omega)
          omega
        · exact h
        · have := Int.mul_le_mul_of_nonneg_left (show 1 ≤ t by omega) (show 0 ≤ D by omega)
          omega
      omega
  rw [k]
  exact wrap_id (by omega) (by omega)
theorem Zqx {ρ : Env} {A B : IE} {x n z : Int} (ha : Is ρ A x) (hb : Is ρ B n) (hn : n ≠ 0) (h1 : In64 z) (h : n * z = x) : Is ρ (.bin .quo .i64 A B) z := by
  refine ⟨?_⟩
  show IntKind.i64.wrap ((A.Z ρ).tdiv (B.Z ρ)) = z
  rw [ha.out, hb.out, ← h, Int.mul_tdiv_cancel_left _ hn]; exact wrap_id h1.1 h1.2
theorem ru_ex (x D : Int) (hd : 1 ≤ D) : ∃ z : Int, x ≤ D * z ∧ D * z ≤ x + (D - 1) := by
  have a := Int.emod_nonneg (-x) (b := D) (by omega)
  have b := Int.emod_lt_of_pos (-x) (b := D) (by omega)
  have e := Int.mul_ediv_add_emod (-x) D
  refine ⟨-((-x) / D), ?_, ?_⟩ <;> rw [Int.mul_neg] <;> omega
theorem ru_rng {x z D d : Int} (h0 : 1 ≤ d) (hd : d ≤ D) (h1 : x ≤ D * z) (h2 : D * z ≤ x + (D - 1)) : (1 ≤ z → d * (z - 1) ≤ x - 1) ∧ (z ≤ -1 → d * (-z) ≤ -x) ∧ (z = 0 → x ≤ 0 ∧ 0 ≤ x + (D - 1)) := by
  refine ⟨fun h => ?_, fun h => ?_, fun h => ?_⟩
  · have := Int.mul_le_mul_of_nonneg_right hd (show 0 ≤ z - 1 by omega)
    have e : D * (z - 1) = D * z - D := by rw [Int.mul_sub, Int.mul_one]
    omega
  · have := Int.mul_le_mul_of_nonneg_right hd (show 0 ≤ -z by omega)
    have e : D * (-z) = -(D * z) := Int.mul_neg _ _
    omega
  · subst h; rw [Int.mul_zero] at h1 h2; exact ⟨h1, h2⟩
/-- Of two quotients rounded up by one divisor the one of the smaller number is no greater. -/
theorem ru_mono {x1 x2 D z1 z2 : Int} (hd : 1 ≤ D) (h1 : Hd (x1 ≤ D * z1 ∧ D * z1 ≤ x1 + (D - 1))) (h2 : Hd (x2 ≤ D * z2 ∧ D * z2 ≤ x2 + (D - 1))) (h : x1 ≤ x2) : z1 ≤ z2 := by
  obtain ⟨_, a⟩ := h1.out
  obtain ⟨b, _⟩ := h2.out
  refine Int.not_lt.1 fun hn => ?_
  have := Int.mul_le_mul_of_nonneg_left (show z2 + 1 ≤ z1 by omega) (show 0 ≤ D by omega)
  rw [Int.mul_add, Int.mul_one] at this
  omega
theorem td_ex2 (x D : Int) (hd : 1 ≤ D) : ∃ q r : Int, Hd (x.tdiv D = q) ∧ Hd (x.tmod D = r) ∧ x = D * q + r ∧ (0 ≤ x ∧ 0 ≤ r ∨ x ≤ 0 ∧ r ≤ 0) ∧ (-(D - 1) ≤ r ∧ r ≤ D - 1) := by
  have e := Int.mul_tdiv_add_tmod x D
  refine ⟨_, _, ⟨rfl⟩, ⟨rfl⟩, e.symm, ?_, ?_⟩
  · rcases Int.le_total 0 x with h | h
    · exact .inl ⟨h, Int.tmod_nonneg D h⟩
    · refine .inr ⟨h, ?_⟩
      have := Int.tmod_nonneg D (show 0 ≤ -x by omega)
      rw [Int.neg_tmod] at this; omega
  · have l2 : x.tmod D < D := Int.tmod_lt_of_pos x (by omega)
    have := Int.tmod_lt_of_pos (-x) (b := D) (by omega)
    rw [Int.neg_tmod] at this; omega
theorem mcc {x y la ha lb hb : Int} (h1 : la ≤ x) (h2 : x ≤ ha) (h3 : lb ≤ y) (h4 : y ≤ hb) : la * y + lb * x - la * lb ≤ x * y ∧ ha * y + hb * x - ha * hb ≤ x * y ∧ x * y ≤ ha * y + lb * x - ha * lb ∧ x * y ≤ la * y + hb * x - la * hb := by
  have p1 := Int.mul_nonneg (show 0 ≤ x - la by omega) (show 0 ≤ y - lb by omega)
  have p2 := Int.mul_nonneg (show 0 ≤ ha - x by omega) (show 0 ≤ hb - y by omega)
  have p3 := Int.mul_nonneg (show 0 ≤ ha - x by omega) (show 0 ≤ y - lb by omega)
  have p4 := Int.mul_nonneg (show 0 ≤ x - la by omega) (show 0 ≤ hb - y by omega)
  simp only [Int.sub_mul, Int.mul_sub] at p1 p2 p3 p4
  have c1 := Int.mul_comm x lb
  have c2 := Int.mul_comm x hb
  omega
section
variable {ρ : Env} {A B : IE} {x y z : Int}
theorem Ya (ha : Is ρ A x) (hb : Is ρ B y) (h : In64 z ∧ x + y = z) : Is ρ (.bin .add .i64 A B) z := Zadd ha hb h.1 h.2
theorem Ys (ha : Is ρ A x) (hb : Is ρ B y) (h : In64 z ∧ x - y = z) : Is ρ (.bin .sub .i64 A B) z := Zsub ha hb h.1 h.2
theorem Ym (ha : Is ρ A x) (hb : Is ρ B y) (h : In64 z ∧ x * y = z) : Is ρ (.bin .mul .i64 A B) z := Zmul ha hb h.1 h.2
end
section
variable {ρ : Env} {A B : IE} {x y : Int}
theorem Pleq (ha : Is ρ A x) (hb : Is ρ B y) (h : x ≤ y) : (BE.cmp .leq A B).P ρ := by
  show A.Z ρ ≤ B.Z ρ
  rw [ha.out, hb.out]; exact h
theorem Nleq (ha : Is ρ A x) (hb : Is ρ B y) (h : ¬ x ≤ y) : ¬ (BE.cmp .leq A B).P ρ := by
  show ¬ A.Z ρ ≤ B.Z ρ
  rw [ha.out, hb.out]; exact h
theorem Peql (ha : Is ρ A x) (hb : Is ρ B y) (h : x = y) : (BE.cmp .eql A B).P ρ := by
  show A.Z ρ = B.Z ρ
  rw [ha.out, hb.out]; exact h
theorem Neql (ha : Is ρ A x) (hb : Is ρ B y) (h : ¬ x = y) : ¬ (BE.cmp .eql A B).P ρ := by
  show ¬ A.Z ρ = B.Z ρ
  rw [ha.out, hb.out]; exact h
theorem ask_t {c : BE} {t f : DT} (h : c.P ρ) (ht : t.goal ρ) : (DT.ask c t f).goal ρ := ⟨fun _ => ht, fun g => absurd h g⟩
theorem ask_p {c : BE} {t f : DT} (ht : c.P ρ → t.goal ρ) (hf : ¬ c.P ρ → f.goal ρ) : (DT.ask c t f).goal ρ := ⟨ht, hf⟩
theorem ask_q {c : BE} {t f : DT} (hf : ¬ c.P ρ → f.goal ρ) (ht : c.P ρ → t.goal ρ) : (DT.ask c t f).goal ρ := ⟨ht, hf⟩
theorem ask_f {c : BE} {t f : DT} (h : ¬ c.P ρ) (hf : f.goal ρ) : (DT.ask c t f).goal ρ := ⟨fun g => absurd g h, fun _ => hf⟩
theorem aT {c : BE} {t f : DT} (h : c.P ρ) (ht : t.goal ρ) : (DT.ask c t f).goal ρ := ask_t h ht
theorem aF {c : BE} {t f : DT} (h : ¬ c.P ρ) (hf : f.goal ρ) : (DT.ask c t f).goal ρ := ask_f h hf
theorem conc_t {e : IE} {n : Nat} {t f : DT} (h : (BE.cmp .eql e (.c n)).P ρ) (ht : t.goal ρ) : (DT.conc e n t f).goal ρ := ⟨fun _ => ht, fun g => absurd h g⟩
theorem conc_p {e : IE} {n : Nat} {t f : DT} (ht : (BE.cmp .eql e (.c n)).P ρ → t.goal ρ) (hf : ¬ (BE.cmp .eql e (.c n)).P ρ → f.goal ρ) : (DT.conc e n t f).goal ρ := ⟨ht, hf⟩
theorem conc_q {e : IE} {n : Nat} {t f : DT} (hf : ¬ (BE.cmp .eql e (.c n)).P ρ → f.goal ρ) (ht : (BE.cmp .eql e (.c n)).P ρ → t.goal ρ) : (DT.conc e n t f).goal ρ := ⟨ht, hf⟩
theorem conc_f {e : IE} {n : Nat} {t f : DT} (h : ¬ (BE.cmp .eql e (.c n)).P ρ) (hf : f.goal ρ) : (DT.conc e n t f).goal ρ := ⟨fun g => absurd g h, fun _ => hf⟩
end

end Go.Proofs.Ytknphpihipkdpaa.Cx
