/- TopSeatThread: the tests of the law and their arithmetic. Made by tools/gen_seattg.py. -/
import Derived.Test.YtkmhmmibdfalpaaSeatT
set_option linter.unusedSimpArgs false
set_option linter.unusedVariables false
set_option maxRecDepth 100000
set_option maxHeartbeats 4000000
namespace Go.Proofs.Ytkmhmmibdfalpaa.Cx
open Go Go.RowKit


section
theorem mulle {a b g : Int} (hg : 1 ≤ g) : a ≤ b ↔ a * g ≤ b * g := by
  refine ⟨fun h => Int.mul_le_mul_of_nonneg_right h (by omega), fun h => ?_⟩
  rcases Int.lt_or_le b a with q | q
  · have := Int.mul_lt_mul_of_pos_right q (by omega : 0 < g); omega
  · exact q
theorem mulc {a b g : Int} (hg : 1 ≤ g) (h : a * g = b * g) : a = b :=
  Int.le_antisymm ((mulle hg).2 (by omega)) ((mulle hg).2 (by omega))
/-- A ratio in lowest terms, of any sign. -/
theorem ratio_ex (A n M : Int) (hn : 1 ≤ n) (h1 : -M ≤ A) (h2 : A ≤ M) : ∃ g N D : Int, Hd ((Int.gcd A n : Int) = g) ∧ Hd (N * g = A) ∧ Hd (D * g = n) ∧ 1 ≤ g ∧ 1 ≤ D ∧ D ≤ n ∧ -M ≤ N ∧ N ≤ M := by
  have hg : (1 : Int) ≤ Int.gcd A n := by
    have := Int.gcd_pos_of_ne_zero_right A (by omega : n ≠ 0)
    omega
  obtain ⟨N, hN⟩ := Int.gcd_dvd_left (a := A) (b := n)
  obtain ⟨D, hD⟩ := Int.gcd_dvd_right (a := A) (b := n)
  rw [Int.mul_comm] at hN hD
  refine ⟨_, N, D, ⟨rfl⟩, ⟨hN.symm⟩, ⟨hD.symm⟩, hg, ?_⟩
  generalize (Int.gcd A n : Int) = g at *
  have d1 : 1 ≤ D := by
    rcases Int.lt_or_le 0 D with q | q
    · omega
    · have := Int.mul_le_mul_of_nonneg_right q (by omega : 0 ≤ g)
      omega
  have d2 : D * 1 ≤ D * g := Int.mul_le_mul_of_nonneg_left hg (by omega)
  refine ⟨d1, by omega, ?_, ?_⟩
  · rcases Int.lt_or_le N 0 with q | q
    · have := Int.mul_le_mul_of_nonpos_left (by omega : N ≤ 0) hg
      omega
    · omega
  · rcases Int.lt_or_le 0 N with q | q
    · have := Int.mul_le_mul_of_nonneg_left hg (by omega : 0 ≤ N)
      omega
    · omega
theorem le_l {N D g A n : Int} (k : Int) (hN : N * g = A) (hD : D * g = n) (hg : 1 ≤ g) : k * D ≤ N ↔ k * n ≤ A := by
  rw [mulle hg, Int.mul_assoc, hN, hD]
theorem le_r {N D g A n : Int} (k : Int) (hN : N * g = A) (hD : D * g = n) (hg : 1 ≤ g) : N ≤ k * D ↔ A ≤ k * n := by
  rw [mulle hg, Int.mul_assoc, hN, hD]
theorem cross {N D g A M E h B n : Int} (hN : N * g = A) (hD : D * g = n) (hg : 1 ≤ g) (hM : M * h = B) (hE : E * h = n) (hh : 1 ≤ h) (hn : 1 ≤ n) : N * E ≤ M * D ↔ A ≤ B := by
  have hgh : 1 ≤ g * h := by have := Int.mul_pos (by omega : 0 < g) (by omega : 0 < h); omega
  rw [mulle hgh, mulle (a := A) hn, ← hN, ← hM]
  have e1 : N * E * (g * h) = N * g * n := by rw [← hE]; ac_rfl
  have e2 : M * D * (g * h) = M * h * n := by rw [← hD]; ac_rfl
  rw [e1, e2]
/-- The quotient rounded toward 0, told of the fraction that is not in lowest terms. -/
theorem tq_ex {N D g A n : Int} (hN : N * g = A) (hD : D * g = n) (hg : 1 ≤ g) (d1 : 1 ≤ D) : ∃ q : Int, Hd (N.tdiv D = q) ∧ ((0 ≤ A ∧ q * n ≤ A ∧ A + 1 ≤ (q + 1) * n) ∨ (A ≤ 0 ∧ (q - 1) * n + 1 ≤ A ∧ A ≤ q * n)) := by
  refine ⟨_, ⟨rfl⟩, ?_⟩
  rcases Int.le_total 0 N with h | h
  · left
    have a0 : 0 * g ≤ N * g := Int.mul_le_mul_of_nonneg_right h (by omega)
    rw [Int.tdiv_eq_ediv_of_nonneg h]
    have b := Int.emod_nonneg N (by omega : D ≠ 0)
    have c := Int.emod_lt_of_pos N (by omega : 0 < D)
    have d := Int.emod_add_mul_ediv N D
    generalize N / D = q at *
    have e1 : q * D ≤ N := by rw [Int.mul_comm]; omega
    have e2 : N + 1 ≤ (q + 1) * D := by rw [Int.add_mul, Int.mul_comm q]; omega
    have f1 := (le_l q hN hD hg).1 e1
    have f2 : ¬ A ≥ (q + 1) * n := fun x => by have := (le_l (q + 1) hN hD hg).2 x; omega
    omega
  · right
    have a0 : N * g ≤ 0 * g := Int.mul_le_mul_of_nonneg_right h (by omega)
    have : N.tdiv D = -((-N) / D) := by rw [← Int.tdiv_eq_ediv_of_nonneg (by omega : 0 ≤ -N), Int.neg_tdiv, Int.neg_neg]
    rw [this]
    have b := Int.emod_nonneg (-N) (by omega : D ≠ 0)
    have c := Int.emod_lt_of_pos (-N) (by omega : 0 < D)
    have d := Int.emod_add_mul_ediv (-N) D
    generalize (-N) / D = q at *
    have e1 : N ≤ -q * D := by rw [Int.neg_mul, Int.mul_comm]; omega
    have e2 : (-q - 1) * D + 1 ≤ N := by rw [Int.sub_mul, Int.neg_mul, Int.mul_comm q]; omega
    have f1 := (le_r (-q) hN hD hg).1 e1
    have f2 : ¬ A ≤ (-q - 1) * n := fun x => by have := (le_r (-q - 1) hN hD hg).2 x; omega
    omega
theorem prod_ex (l S a b : Int) (h1 : -a ≤ l) (h2 : l ≤ a) (h3 : 0 ≤ S) (h4 : S ≤ b) (ha : 0 ≤ a) : ∃ m : Int, Hd (l * S = m) ∧ -(a * b) ≤ m ∧ m ≤ a * b ∧ (l ≤ 900 → m ≤ 900 * S) ∧ (-900 ≤ l → -900 * S ≤ m) ∧ (l = 0 → m = 0) := by
  obtain ⟨m1, m2⟩ := mul_bd h1 h2 h3 h4 ha
  refine ⟨_, ⟨rfl⟩, m1, m2, fun h => Int.mul_le_mul_of_nonneg_right h h3, fun h => Int.mul_le_mul_of_nonneg_right h h3, fun h => by rw [h, Int.zero_mul]⟩
theorem Ztq {ρ : Env} {X Y : IE} {x y q : Int} (ha : Is ρ X x) (hb : Is ρ Y y) (hq : x.tdiv y = q) (h1 : In64 q) : Is ρ (IE.bin .quo .i64 X Y) q := by
  refine ⟨?_⟩
  show IntKind.i64.wrap ((X.Z ρ).tdiv (Y.Z ρ)) = q
  rw [ha.out, hb.out, hq]; exact wrap_id h1.1 h1.2
end
theorem se_goal {ρ : Env} {x0 x1 x2 x3 x4 x5 x6 : Int} (e0 : Is ρ (.v 0) x0) (r0 : 0 ≤ x0 ∧ x0 ≤ 65535) (e1 : Is ρ (.v 1) x1) (r1 : 0 ≤ x1 ∧ x1 ≤ 65535) (e2 : Is ρ (.v 2) x2) (r2 : 0 ≤ x2 ∧ x2 ≤ 65535) (e3 : Is ρ (.v 3) x3) (r3 : -128 ≤ x3 ∧ x3 ≤ 127) (e4 : Is ρ (.v 4) x4) (r4 : -128 ≤ x4 ∧ x4 ≤ 127) (e5 : Is ρ (.v 5) x5) (r5 : 0 ≤ x5 ∧ x5 ≤ 65535) (e6 : Is ρ (.v 6) x6) (r6 : 0 ≤ x6 ∧ x6 ≤ 255) : seTree.goal ρ := by
  have h0 : Is ρ se0 x0 := Zconv e0 (by omega)
  have h4 : Is ρ se4 x1 := Zconv e1 (by omega)
  have h7 : Is ρ se7 x2 := Zconv e2 (by omega)
  have h15 : Is ρ se15 x5 := Zconv e5 (by omega)
  have h32 : Is ρ se32 x6 := Zconv e6 (by omega)
  obtain ⟨r, re, r1⟩ : ∃ q : Int, Hd (x0 % 5000 = q) ∧ 0 ≤ q ∧ q ≤ 4999 := ⟨_, ⟨rfl⟩, by omega⟩
  have h1 : Is ρ se1 r := Zremp h0 (Zc 5000) (by omega) re.out
  obtain ⟨a, ae, a1⟩ : ∃ q : Int, Hd (x1 % 900 = q) ∧ 0 ≤ q ∧ q ≤ 899 := ⟨_, ⟨rfl⟩, by omega⟩
  have h5 : Is ρ se5 a := Zremp h4 (Zc 900) (by omega) ae.out
  obtain ⟨b, be, b1⟩ : ∃ q : Int, Hd (x2 % 900 = q) ∧ 0 ≤ q ∧ q ≤ 899 := ⟨_, ⟨rfl⟩, by omega⟩
  have h8 : Is ρ se8 b := Zremp h7 (Zc 900) (by omega) be.out
  obtain ⟨s, se, s1⟩ : ∃ q : Int, Hd (x0 % 3 = q) ∧ 0 ≤ q ∧ q ≤ 2 := ⟨_, ⟨rfl⟩, by omega⟩
  have h10 : Is ρ se10 s := Zremp h0 (Zc 3) (by omega) se.out
  obtain ⟨w, we, w1⟩ : ∃ q : Int, Hd (x5 % 20000 = q) ∧ 0 ≤ q ∧ q ≤ 19999 := ⟨_, ⟨rfl⟩, by omega⟩
  have h16 : Is ρ se16 w := Zremp h15 (Zc 20000) (by omega) we.out
  obtain ⟨P, Pe⟩ : ∃ q : Int, 4 * (1000 + r) = q := ⟨_, rfl⟩
  obtain ⟨S, Se⟩ : ∃ q : Int, 1 + a + (1 + b) = q := ⟨_, rfl⟩
  obtain ⟨W, We⟩ : ∃ q : Int, 1 + w = q := ⟨_, rfl⟩
  obtain ⟨V, Ve⟩ : ∃ q : Int, W + 1 + x6 = q := ⟨_, rfl⟩
  have h2 : Is ρ se2 (1000 + r) := Zadd (Zc 1000) h1 (by omega) (by omega)
  have h3 : Is ρ se3 (P) := Zmul (Zc 4) h2 (by omega) (by omega)
  have h6 : Is ρ se6 (1 + a) := Zadd (Zc 1) h5 (by omega) (by omega)
  have h9 : Is ρ se9 (1 + b) := Zadd (Zc 1) h8 (by omega) (by omega)
  have h11 : Is ρ se11 (1 + s) := Zadd (Zc 1) h10 (by omega) (by omega)
  have h12 : Is ρ se12 (S) := Zadd h6 h9 (by omega) (by omega)
  have h13 : Is ρ se13 (900 * S) := Zmul (Zc 900) h12 (by omega) (by omega)
  have h14 : Is ρ se14 (500 * P) := Zmul (Zc 500) h3 (by omega) (by omega)
  have h17 : Is ρ se17 (W) := Zadd (Zc 1) h16 (by omega) (by omega)
  have bP : 4000 ≤ P ∧ P ≤ 23996 := by omega
  have bS : 2 ≤ S ∧ S ≤ 1800 := by omega
  have bW : 1 ≤ W ∧ W ≤ 20000 := by omega
  have bV : W + 1 ≤ V ∧ V ≤ W + 256 := by omega
  have h31 : Is ρ se31 (W + 1) := Zadd h17 (Zc 1) (by omega) (by omega)
  have h33 : Is ρ se33 (V) := Zadd h31 h32 (by omega) (by omega)
  clear e0 e1 e2 e3 e4 e5 e6 r0 r1 r2 r3 r4 r5 r6 h0 h4 h7 h15 h32 h1 h5 h8 h10 h16 h2 h31 Pe Se We Ve
  have h18 : Is ρ se18 (2000 * W) := Zmul (Zc 2000) h17 (by omega) (by omega)
  have h19 : Is ρ se19 (866 * P) := Zmul (Zc 866) h3 (by omega) (by omega)
  have h20 : Is ρ se20 (2000 * W - 866 * P) := Zsub h18 h19 (by omega) (by omega)
  have h21 : Is ρ se21 (4000000 * W - 1732000 * P) := Zmul h20 (Zc 2000) (by omega) (by omega)
  have h22 : Is ρ se22 (1000000 * W) := Zmul (Zc 1000000) h17 (by omega) (by omega)
  have h23 : Is ρ se23 (3000000 * W - 1732000 * P) := Zsub h21 h22 (by omega) (by omega)
  have h24 : Is ρ se24 (1000 * W) := Zmul (Zc 1000) h17 (by omega) (by omega)
  have h25 : Is ρ se25 (3000 * W - 866 * P) := Zadd h20 h24 (by omega) (by omega)
  have h34 : Is ρ se34 (2000 * V) := Zmul (Zc 2000) h33 (by omega) (by omega)
  have h35 : Is ρ se35 (2000 * V - 866 * P) := Zsub h34 h19 (by omega) (by omega)
  have h36 : Is ρ se36 (4000000 * V - 1732000 * P) := Zmul h35 (Zc 2000) (by omega) (by omega)
  have h37 : Is ρ se37 (1000000 * V) := Zmul (Zc 1000000) h33 (by omega) (by omega)
  have h38 : Is ρ se38 (3000000 * V - 1732000 * P) := Zsub h36 h37 (by omega) (by omega)
  have h39 : Is ρ se39 (1000 * V) := Zmul (Zc 1000) h33 (by omega) (by omega)
  have h40 : Is ρ se40 (3000 * V - 866 * P) := Zadd h35 h39 (by omega) (by omega)
  obtain ⟨A, Ae⟩ : ∃ vv : Int, 3000000 * W - 1732000 * P = vv := ⟨_, rfl⟩
  rw [Ae] at h23
  obtain ⟨gA, NA, DA, geA, NeA, DeA, g1A, d1A, d2A, n1A, n2A⟩ := ratio_ex A 4000000 100000000000 (by omega) (by omega) (by omega)
  have h26 : Is ρ se26 gA := Zgcd h23 (Zc 4000000) geA.out
  have h27 : Is ρ se27 DA := Zgq (Zc 4000000) h26 DeA.out g1A (by omega)
  have h29 : Is ρ se29 NA := Zgq h23 h26 NeA.out g1A (by omega)
  replace g1A := Hd.mk g1A
  obtain ⟨B, Be⟩ : ∃ vv : Int, 3000 * W - 866 * P = vv := ⟨_, rfl⟩
  rw [Be] at h25
  obtain ⟨gB, NB, DB, geB, NeB, DeB, g1B, d1B, d2B, n1B, n2B⟩ := ratio_ex B 2000 1000000000 (by omega) (by omega) (by omega)
  have h46 : Is ρ se46 gB := Zgcd h25 (Zc 2000) geB.out
  have h47 : Is ρ se47 DB := Zgq (Zc 2000) h46 DeB.out g1B (by omega)
  have h54 : Is ρ se54 NB := Zgq h25 h46 NeB.out g1B (by omega)
  replace g1B := Hd.mk g1B
  obtain ⟨A2, A2e⟩ : ∃ vv : Int, 3000000 * V - 1732000 * P = vv := ⟨_, rfl⟩
  rw [A2e] at h38
  obtain ⟨gA2, NA2, DA2, geA2, NeA2, DeA2, g1A2, d1A2, d2A2, n1A2, n2A2⟩ := ratio_ex A2 4000000 100000000000 (by omega) (by omega) (by omega)
  have h41 : Is ρ se41 gA2 := Zgcd h38 (Zc 4000000) geA2.out
  have h42 : Is ρ se42 DA2 := Zgq (Zc 4000000) h41 DeA2.out g1A2 (by omega)
  have h44 : Is ρ se44 NA2 := Zgq h38 h41 NeA2.out g1A2 (by omega)
  replace g1A2 := Hd.mk g1A2
  obtain ⟨B2, B2e⟩ : ∃ vv : Int, 3000 * V - 866 * P = vv := ⟨_, rfl⟩
  rw [B2e] at h40
  obtain ⟨gB2, NB2, DB2, geB2, NeB2, DeB2, g1B2, d1B2, d2B2, n1B2, n2B2⟩ := ratio_ex B2 2000 1000000000 (by omega) (by omega) (by omega)
  have h48 : Is ρ se48 gB2 := Zgcd h40 (Zc 2000) geB2.out
  have h49 : Is ρ se49 DB2 := Zgq (Zc 2000) h48 DeB2.out g1B2 (by omega)
  have h52 : Is ρ se52 NB2 := Zgq h40 h48 NeB2.out g1B2 (by omega)
  replace g1B2 := Hd.mk g1B2
  have h28 : Is ρ se28 (-900 * DA) := Zmul (Zc (-900)) h27 (by omega) (by omega)
  have h30 : Is ρ se30 (900 * DA) := Zmul (Zc 900) h27 (by omega) (by omega)
  have h43 : Is ρ se43 (-900 * DA2) := Zmul (Zc (-900)) h42 (by omega) (by omega)
  have h45 : Is ρ se45 (900 * DA2) := Zmul (Zc 900) h42 (by omega) (by omega)
  have h63 : Is ρ se63 (900 * DB) := Zmul (Zc 900) h47 (by omega) (by omega)
  obtain ⟨m50, m50e⟩ : ∃ vv : Int, Hd (NA2 * DA = vv) := ⟨_, ⟨rfl⟩⟩
  have m50b := m50e.out ▸ mul_bd (x := NA2) (y := DA) (a := 100000000000) (b := 4000000) (by omega) (by omega) (by omega) (by omega) (by omega)
  have h50 : Is ρ se50 m50 := Zmul h44 h27 (by omega) m50e.out
  clear m50b
  obtain ⟨m51, m51e⟩ : ∃ vv : Int, Hd (NA * DA2 = vv) := ⟨_, ⟨rfl⟩⟩
  have m51b := m51e.out ▸ mul_bd (x := NA) (y := DA2) (a := 100000000000) (b := 4000000) (by omega) (by omega) (by omega) (by omega) (by omega)
  have h51 : Is ρ se51 m51 := Zmul h29 h42 (by omega) m51e.out
  clear m51b
  obtain ⟨m53, m53e⟩ : ∃ vv : Int, Hd (NB2 * DB = vv) := ⟨_, ⟨rfl⟩⟩
  have m53b := m53e.out ▸ mul_bd (x := NB2) (y := DB) (a := 1000000000) (b := 2000) (by omega) (by omega) (by omega) (by omega) (by omega)
  have h53 : Is ρ se53 m53 := Zmul h52 h47 (by omega) m53e.out
  clear m53b
  obtain ⟨m55, m55e⟩ : ∃ vv : Int, Hd (NB * DB2 = vv) := ⟨_, ⟨rfl⟩⟩
  have m55b := m55e.out ▸ mul_bd (x := NB) (y := DB2) (a := 1000000000) (b := 2000) (by omega) (by omega) (by omega) (by omega) (by omega)
  have h55 : Is ρ se55 m55 := Zmul h54 h49 (by omega) m55e.out
  clear m55b
  have h56 : Is ρ se56 (4 * NA) := Zmul (Zc 4) h29 (by omega) (by omega)
  have h57 : Is ρ se57 (3 * W) := Zmul (Zc 3) h17 (by omega) (by omega)
  obtain ⟨t, te⟩ : ∃ q : Int, Hd (3 * W * DA = q) := ⟨_, ⟨rfl⟩⟩
  have tb := te.out ▸ mul_bd (x := 3 * W) (y := DA) (a := 60000) (b := 4000000) (by omega) (by omega) (by omega) (by omega) (by omega)
  have h58 : Is ρ se58 t := Zmul h57 h27 (by omega) te.out
  have h59 : Is ρ se59 (4 * NA - t) := Zsub h56 h58 (by omega) (by omega)
  have h60 : Is ρ se60 ((4 * NA - t) * 1000) := Zmul h59 (Zc 1000) (by omega) (by omega)
  have h61 : Is ρ se61 (-1732 * P) := Zmul (Zc (-1732)) h3 (by omega) (by omega)
  obtain ⟨z, ze⟩ : ∃ q : Int, Hd (-1732 * P * DA = q) := ⟨_, ⟨rfl⟩⟩
  have zb := ze.out ▸ mul_bd (x := -1732 * P) (y := DA) (a := 100000000) (b := 4000000) (by omega) (by omega) (by omega) (by omega) (by omega)
  have h62 : Is ρ se62 z := Zmul h61 h27 (by omega) ze.out
  clear tb zb
  have tz : (4 * NA - t) * 1000 = z := by
    refine mulc g1A.out ?_
    rw [← te.out, ← ze.out, Int.mul_assoc (-1732 * P), DeA.out, Int.mul_assoc (4 * NA - 3 * W * DA), Int.mul_comm 1000, ← Int.mul_assoc, Int.sub_mul, Int.mul_assoc 4, NeA.out, Int.mul_assoc (3 * W), DeA.out]
    omega
  obtain ⟨q, qe, qf⟩ := tq_ex NeA.out DeA.out g1A.out d1A
  have qb : -25001 ≤ q ∧ q ≤ 25001 := by omega
  have h64 : Is ρ se64 q := Ztq h29 h27 qe.out (by omega)
  obtain ⟨m65, m65e⟩ : ∃ vv : Int, Hd (q * DA = vv) := ⟨_, ⟨rfl⟩⟩
  have m65b := m65e.out ▸ mul_bd (x := q) (y := DA) (a := 25001) (b := 4000000) (by omega) (by omega) (by omega) (by omega) (by omega)
  have h65 : Is ρ se65 m65 := Zmul h64 h27 (by omega) m65e.out
  clear m65b
  obtain ⟨l, le⟩ : ∃ m : Int, max q (-900) = m := ⟨_, rfl⟩
  have h66 : Is ρ se66 l := Zmx h64 (Zc (-900)) le
  have h87 : Is ρ se87 (q - 1) := Zsub h64 (Zc 1) (by omega) (by omega)
  obtain ⟨k, ke⟩ : ∃ m : Int, max (q - 1) (-900) = m := ⟨_, rfl⟩
  have h88 : Is ρ se88 k := Zmx h87 (Zc (-900)) ke
  have lb : -25001 ≤ l ∧ l ≤ 25001 := by omega
  have kb : -25002 ≤ k ∧ k ≤ 25002 := by omega
  obtain ⟨m, me, mb1, mb2, mf1, mf2, mf3⟩ := prod_ex l S 25001 1800 (by omega) (by omega) (by omega) (by omega) (by omega)
  have h67 : Is ρ se67 m := Zmul h66 h12 (by omega) me.out
  obtain ⟨n, ne, nb1, nb2, nf1, nf2, nf3⟩ := prod_ex k S 25002 1800 (by omega) (by omega) (by omega) (by omega) (by omega)
  have h89 : Is ρ se89 n := Zmul h88 h12 (by omega) ne.out
  have h68 : Is ρ se68 (500 * P - m) := Zsub h14 h67 (by omega) (by omega)
  have h90 : Is ρ se90 (500 * P - n) := Zsub h14 h89 (by omega) (by omega)
  have h69 : Is ρ se69 (500 * P - 900 * S) := Zsub h14 h13 (by omega) (by omega)
  have h70 : Is ρ se70 (-900 * S) := Zmul (Zc (-900)) h12 (by omega) (by omega)
  have h71 : Is ρ se71 (500 * P + 900 * S) := Zsub h14 h70 (by omega) (by omega)
  obtain ⟨U, Ue⟩ : ∃ vv : Int, 500 * P - m = vv := ⟨_, rfl⟩
  rw [Ue] at h68
  obtain ⟨gU, NU, DU, geU, NeU, DeU, g1U, d1U, d2U, n1U, n2U⟩ := ratio_ex U 1000 100000000 (by omega) (by omega) (by omega)
  have h72 : Is ρ se72 gU := Zgcd h68 (Zc 1000) geU.out
  have h73 : Is ρ se73 DU := Zgq (Zc 1000) h72 DeU.out g1U (by omega)
  have h80 : Is ρ se80 NU := Zgq h68 h72 NeU.out g1U (by omega)
  replace g1U := Hd.mk g1U
  obtain ⟨X, Xe⟩ : ∃ vv : Int, 500 * P - n = vv := ⟨_, rfl⟩
  rw [Xe] at h90
  obtain ⟨gX, NX, DX, geX, NeX, DeX, g1X, d1X, d2X, n1X, n2X⟩ := ratio_ex X 1000 100000000 (by omega) (by omega) (by omega)
  have h91 : Is ρ se91 gX := Zgcd h90 (Zc 1000) geX.out
  have h92 : Is ρ se92 DX := Zgq (Zc 1000) h91 DeX.out g1X (by omega)
  have h94 : Is ρ se94 NX := Zgq h90 h91 NeX.out g1X (by omega)
  replace g1X := Hd.mk g1X
  obtain ⟨Y, Ye⟩ : ∃ vv : Int, 500 * P - 900 * S = vv := ⟨_, rfl⟩
  rw [Ye] at h69
  obtain ⟨gY, NY, DY, geY, NeY, DeY, g1Y, d1Y, d2Y, n1Y, n2Y⟩ := ratio_ex Y 1000 100000000 (by omega) (by omega) (by omega)
  have h74 : Is ρ se74 gY := Zgcd h69 (Zc 1000) geY.out
  have h75 : Is ρ se75 DY := Zgq (Zc 1000) h74 DeY.out g1Y (by omega)
  have h78 : Is ρ se78 NY := Zgq h69 h74 NeY.out g1Y (by omega)
  replace g1Y := Hd.mk g1Y
  obtain ⟨Z, Ze⟩ : ∃ vv : Int, 500 * P + 900 * S = vv := ⟨_, rfl⟩
  rw [Ze] at h71
  obtain ⟨gZ, NZ, DZ, geZ, NeZ, DeZ, g1Z, d1Z, d2Z, n1Z, n2Z⟩ := ratio_ex Z 1000 100000000 (by omega) (by omega) (by omega)
  have h76 : Is ρ se76 gZ := Zgcd h71 (Zc 1000) geZ.out
  have h77 : Is ρ se77 DZ := Zgq (Zc 1000) h76 DeZ.out g1Z (by omega)
  have h83 : Is ρ se83 NZ := Zgq h71 h76 NeZ.out g1Z (by omega)
  replace g1Z := Hd.mk g1Z
  obtain ⟨m79, m79e⟩ : ∃ vv : Int, Hd (NY * DU = vv) := ⟨_, ⟨rfl⟩⟩
  have m79b := m79e.out ▸ mul_bd (x := NY) (y := DU) (a := 100000000) (b := 1000) (by omega) (by omega) (by omega) (by omega) (by omega)
  have h79 : Is ρ se79 m79 := Zmul h78 h73 (by omega) m79e.out
  clear m79b
  obtain ⟨m81, m81e⟩ : ∃ vv : Int, Hd (NU * DY = vv) := ⟨_, ⟨rfl⟩⟩
  have m81b := m81e.out ▸ mul_bd (x := NU) (y := DY) (a := 100000000) (b := 1000) (by omega) (by omega) (by omega) (by omega) (by omega)
  have h81 : Is ρ se81 m81 := Zmul h80 h75 (by omega) m81e.out
  clear m81b
  obtain ⟨m82, m82e⟩ : ∃ vv : Int, Hd (NU * DZ = vv) := ⟨_, ⟨rfl⟩⟩
  have m82b := m82e.out ▸ mul_bd (x := NU) (y := DZ) (a := 100000000) (b := 1000) (by omega) (by omega) (by omega) (by omega) (by omega)
  have h82 : Is ρ se82 m82 := Zmul h80 h77 (by omega) m82e.out
  clear m82b
  obtain ⟨m84, m84e⟩ : ∃ vv : Int, Hd (NZ * DU = vv) := ⟨_, ⟨rfl⟩⟩
  have m84b := m84e.out ▸ mul_bd (x := NZ) (y := DU) (a := 100000000) (b := 1000) (by omega) (by omega) (by omega) (by omega) (by omega)
  have h84 : Is ρ se84 m84 := Zmul h83 h73 (by omega) m84e.out
  clear m84b
  obtain ⟨m93, m93e⟩ : ∃ vv : Int, Hd (NY * DX = vv) := ⟨_, ⟨rfl⟩⟩
  have m93b := m93e.out ▸ mul_bd (x := NY) (y := DX) (a := 100000000) (b := 1000) (by omega) (by omega) (by omega) (by omega) (by omega)
  have h93 : Is ρ se93 m93 := Zmul h78 h92 (by omega) m93e.out
  clear m93b
  obtain ⟨m95, m95e⟩ : ∃ vv : Int, Hd (NX * DY = vv) := ⟨_, ⟨rfl⟩⟩
  have m95b := m95e.out ▸ mul_bd (x := NX) (y := DY) (a := 100000000) (b := 1000) (by omega) (by omega) (by omega) (by omega) (by omega)
  have h95 : Is ρ se95 m95 := Zmul h94 h75 (by omega) m95e.out
  clear m95b
  obtain ⟨m96, m96e⟩ : ∃ vv : Int, Hd (NX * DZ = vv) := ⟨_, ⟨rfl⟩⟩
  have m96b := m96e.out ▸ mul_bd (x := NX) (y := DZ) (a := 100000000) (b := 1000) (by omega) (by omega) (by omega) (by omega) (by omega)
  have h96 : Is ρ se96 m96 := Zmul h94 h77 (by omega) m96e.out
  clear m96b
  obtain ⟨m97, m97e⟩ : ∃ vv : Int, Hd (NZ * DX = vv) := ⟨_, ⟨rfl⟩⟩
  have m97b := m97e.out ▸ mul_bd (x := NZ) (y := DX) (a := 100000000) (b := 1000) (by omega) (by omega) (by omega) (by omega) (by omega)
  have h97 : Is ρ se97 m97 := Zmul h83 h92 (by omega) m97e.out
  clear m97b
  have h85 : Is ρ se85 (2 * NU) := Zmul (Zc 2) h80 (by omega) (by omega)
  obtain ⟨m86, m86e⟩ : ∃ vv : Int, Hd (P * DU = vv) := ⟨_, ⟨rfl⟩⟩
  have m86b := m86e.out ▸ mul_bd (x := P) (y := DU) (a := 23996) (b := 1000) (by omega) (by omega) (by omega) (by omega) (by omega)
  have h86 : Is ρ se86 m86 := Zmul h3 h73 (by omega) m86e.out
  clear m86b
  have uz : m = 0 → 2 * NU = m86 := fun h => by
    refine mulc g1U.out ?_
    rw [← m86e.out, Int.mul_assoc P, DeU.out, Int.mul_assoc 2, NeU.out]
    omega
  have az : NA = 0 → A = 0 := fun h => by rw [← NeA.out, h, Int.zero_mul]
  have c28 : Hd (-900 * DA ≤ NA ↔ -900 * 4000000 ≤ A) := ⟨le_l (-900) NeA.out DeA.out g1A.out⟩
  have c29 : Hd (NA ≤ 900 * DA ↔ A ≤ 900 * 4000000) := ⟨le_r 900 NeA.out DeA.out g1A.out⟩
  have c43 : Hd (-900 * DA2 ≤ NA2 ↔ -900 * 4000000 ≤ A2) := ⟨le_l (-900) NeA2.out DeA2.out g1A2.out⟩
  have c44 : Hd (NA2 ≤ 900 * DA2 ↔ A2 ≤ 900 * 4000000) := ⟨le_r 900 NeA2.out DeA2.out g1A2.out⟩
  have c50 : Hd (m50 ≤ m51 ↔ A2 ≤ A) := ⟨(show m50 ≤ m51 ↔ A2 ≤ A by rw [← m50e.out, ← m51e.out]; exact cross NeA2.out DeA2.out g1A2.out NeA.out DeA.out g1A.out (by omega))⟩
  have c53 : Hd (m53 ≤ m55 ↔ B2 ≤ B) := ⟨(show m53 ≤ m55 ↔ B2 ≤ B by rw [← m53e.out, ← m55e.out]; exact cross NeB2.out DeB2.out g1B2.out NeB.out DeB.out g1B.out (by omega))⟩
  have c63 : Hd (900 * DB ≤ NB ↔ 900 * 2000 ≤ B) := ⟨le_l 900 NeB.out DeB.out g1B.out⟩
  have c65 : Hd (m65 ≤ NA ↔ q * 4000000 ≤ A) := ⟨(show m65 ≤ NA ↔ q * 4000000 ≤ A by rw [← m65e.out]; exact le_l q NeA.out DeA.out g1A.out)⟩
  have c79 : Hd (m79 ≤ m81 ↔ Y ≤ U) := ⟨(show m79 ≤ m81 ↔ Y ≤ U by rw [← m79e.out, ← m81e.out]; exact cross NeY.out DeY.out g1Y.out NeU.out DeU.out g1U.out (by omega))⟩
  have c82 : Hd (m82 ≤ m84 ↔ U ≤ Z) := ⟨(show m82 ≤ m84 ↔ U ≤ Z by rw [← m82e.out, ← m84e.out]; exact cross NeU.out DeU.out g1U.out NeZ.out DeZ.out g1Z.out (by omega))⟩
  have c93 : Hd (m93 ≤ m95 ↔ Y ≤ X) := ⟨(show m93 ≤ m95 ↔ Y ≤ X by rw [← m93e.out, ← m95e.out]; exact cross NeY.out DeY.out g1Y.out NeX.out DeX.out g1X.out (by omega))⟩
  have c96 : Hd (m96 ≤ m97 ↔ X ≤ Z) := ⟨(show m96 ≤ m97 ↔ X ≤ Z by rw [← m96e.out, ← m97e.out]; exact cross NeX.out DeX.out g1X.out NeZ.out DeZ.out g1Z.out (by omega))⟩
  clear geA NeA DeA g1A geB NeB DeB g1B geA2 NeA2 DeA2 g1A2 geB2 NeB2 DeB2 g1B2 geU NeU DeU g1U geX NeX DeX g1X geY NeY DeY g1Y geZ NeZ DeZ g1Z
  clear qe me ne te ze re ae be se we m50e m51e m53e m55e m65e m79e m81e m82e m84e m93e m95e m96e m97e m86e
  replace qf := Hd.mk qf
  replace le := Hd.mk le
  replace ke := Hd.mk ke
  replace mb1 := Hd.mk mb1
  replace mb2 := Hd.mk mb2
  replace mf1 := Hd.mk mf1
  replace mf2 := Hd.mk mf2
  replace mf3 := Hd.mk mf3
  replace nb1 := Hd.mk nb1
  replace nb2 := Hd.mk nb2
  replace nf1 := Hd.mk nf1
  replace nf2 := Hd.mk nf2
  replace nf3 := Hd.mk nf3
  replace uz := Hd.mk uz
  replace az := Hd.mk az
  replace tz := Hd.mk tz
  clear lb kb qb n1A n2A d2A n1B n2B d2B n1A2 n2A2 d2A2 n1B2 n2B2 d2B2 n1U n2U d2U n1X n2X d2X n1Y n2Y d2Y n1Z n2Z d2Z
  refine ⟨fun g0 => ?_, fun g0 => ?_⟩
  · have k0 : ((100 : Int) ≤ P) := Zleqt (Zc 100) h3 g0
    clear g0
    clear k0
    refine ⟨fun g1 => ?_, fun g1 => ?_⟩
    · have k1 : ((P : Int) ≤ 200000) := Zleqt h3 (Zc 200000) g1
      clear g1
      clear k1
      refine ⟨fun g2 => ?_, fun g2 => ?_⟩
      · have k2 : ((0 : Int) ≤ 1 + a) := Zleqt (Zc 0) h6 g2
        clear g2
        clear k2
        refine ⟨fun g3 => ?_, fun g3 => ?_⟩
        · have k3 : ((1 + a : Int) ≤ 3000) := Zleqt h6 (Zc 3000) g3
          clear g3
          clear k3
          refine ⟨fun g4 => ?_, fun g4 => ?_⟩
          · have k4 : ((0 : Int) ≤ 1 + b) := Zleqt (Zc 0) h9 g4
            clear g4
            clear k4
            refine ⟨fun g5 => ?_, fun g5 => ?_⟩
            · have k5 : ((1 + b : Int) ≤ 3000) := Zleqt h9 (Zc 3000) g5
              clear g5
              clear k5
              refine ⟨fun g6 => ?_, fun g6 => ?_⟩
              · have k6 : ((1 : Int) ≤ 1 + s) := Zleqt (Zc 1) h11 g6
                clear g6
                clear k6
                refine ⟨fun g7 => ?_, fun g7 => ?_⟩
                · have k7 : ((1 + s : Int) ≤ 8) := Zleqt h11 (Zc 8) g7
                  clear g7
                  clear k7
                  refine ⟨fun g8 => ?_, fun g8 => ?_⟩
                  · have k8 : ((900 * S : Int) ≤ 500 * P) := Zleqt h13 h14 g8
                    clear g8
                    clear k8
                    refine ⟨fun g9 => ?_, fun g9 => ?_⟩
                    · have k9 : ((1 : Int) ≤ W) := Zleqt (Zc 1) h17 g9
                      clear g9
                      clear k9
                      refine ⟨fun g10 => ?_, fun g10 => ?_⟩
                      · have k10 : ((W : Int) ≤ 100000) := Zleqt h17 (Zc 100000) g10
                        clear g10
                        clear k10
                        refine ⟨fun g11 => ?_, fun g11 => ?_⟩
                        · have k11 : (((-9223372036854775807) : Int) ≤ A) := Zleqt (Zc (-9223372036854775807)) h23 g11
                          clear g11
                          clear k11
                          refine ⟨fun g12 => ?_, fun g12 => ?_⟩
                          · have k12 : ((A : Int) ≤ 9223372036854775807) := Zleqt h23 (Zc 9223372036854775807) g12
                            clear g12
                            clear k12
                            refine ⟨fun g13 => ?_, fun g13 => ?_⟩
                            · have k13 : (((-9223372036854775807) : Int) ≤ B) := Zleqt (Zc (-9223372036854775807)) h25 g13
                              clear g13
                              clear k13
                              refine ⟨fun g14 => ?_, fun g14 => ?_⟩
                              · have k14 : ((B : Int) ≤ 9223372036854775807) := Zleqt h25 (Zc 9223372036854775807) g14
                                clear g14
                                clear k14
                                refine ⟨fun g15 => ?_, fun g15 => ?_⟩
                                · have k15 : -900 * 4000000 ≤ A := c28.out.1 (Zleqt h28 h29 g15)
                                  clear g15
                                  refine ⟨fun g16 => ?_, fun g16 => ?_⟩
                                  · have k16 : A ≤ 900 * 4000000 := c29.out.1 (Zleqt h29 h30 g16)
                                    clear g16
                                    refine ⟨fun g17 => ?_, fun g17 => ?_⟩
                                    · have k17 : ((1 : Int) ≤ V) := Zleqt (Zc 1) h33 g17
                                      clear g17
                                      clear k17
                                      refine ⟨fun g18 => ?_, fun g18 => ?_⟩
                                      · have k18 : ((V : Int) ≤ 100000) := Zleqt h33 (Zc 100000) g18
                                        clear g18
                                        clear k18
                                        refine ⟨fun g19 => ?_, fun g19 => ?_⟩
                                        · have k19 : (((-9223372036854775807) : Int) ≤ A2) := Zleqt (Zc (-9223372036854775807)) h38 g19
                                          clear g19
                                          clear k19
                                          refine ⟨fun g20 => ?_, fun g20 => ?_⟩
                                          · have k20 : ((A2 : Int) ≤ 9223372036854775807) := Zleqt h38 (Zc 9223372036854775807) g20
                                            clear g20
                                            clear k20
                                            refine ⟨fun g21 => ?_, fun g21 => ?_⟩
                                            · have k21 : (((-9223372036854775807) : Int) ≤ B2) := Zleqt (Zc (-9223372036854775807)) h40 g21
                                              clear g21
                                              clear k21
                                              refine ⟨fun g22 => ?_, fun g22 => ?_⟩
                                              · have k22 : ((B2 : Int) ≤ 9223372036854775807) := Zleqt h40 (Zc 9223372036854775807) g22
                                                clear g22
                                                clear k22
                                                refine ⟨fun g23 => ?_, fun g23 => ?_⟩
                                                · have k23 : -900 * 4000000 ≤ A2 := c43.out.1 (Zleqt h43 h44 g23)
                                                  clear g23
                                                  clear k23
                                                  refine ⟨fun g24 => ?_, fun g24 => ?_⟩
                                                  · have k24 : A2 ≤ 900 * 4000000 := c44.out.1 (Zleqt h44 h45 g24)
                                                    clear g24
                                                    refine ⟨fun g25 => ?_, fun g25 => ?_⟩
                                                    · have k25 : ((1 : Int) ≤ DA) := Zleqt (Zc 1) h27 g25
                                                      clear g25
                                                      clear k25
                                                      refine ⟨fun g26 => ?_, fun g26 => ?_⟩
                                                      · have k26 : ((1 : Int) ≤ DB) := Zleqt (Zc 1) h47 g26
                                                        clear g26
                                                        clear k26
                                                        refine ⟨fun g27 => ?_, fun g27 => ?_⟩
                                                        · have k27 : ((1 : Int) ≤ DA2) := Zleqt (Zc 1) h42 g27
                                                          clear g27
                                                          clear k27
                                                          refine ⟨fun g28 => ?_, fun g28 => ?_⟩
                                                          · have k28 : ((1 : Int) ≤ DB2) := Zleqt (Zc 1) h49 g28
                                                            clear g28
                                                            clear k28
                                                            refine ⟨fun g29 => ?_, fun g29 => ?_⟩
                                                            · have k29 : A2 ≤ A := c50.out.1 (Zleqt h50 h51 g29)
                                                              clear g29
                                                              omega
                                                            · have k29 : ¬ (A2 ≤ A) := fun e => Zleqf h50 h51 g29 (c50.out.2 e)
                                                              clear g29
                                                              clear k29
                                                              refine ⟨fun g30 => ?_, fun g30 => ?_⟩
                                                              · have k30 : B2 ≤ B := c53.out.1 (Zleqt h53 h55 g30)
                                                                clear g30
                                                                omega
                                                              · have k30 : ¬ (B2 ≤ B) := fun e => Zleqf h53 h55 g30 (c53.out.2 e)
                                                                clear g30
                                                                clear k30
                                                                refine ⟨fun g31 => ?_, fun g31 => ?_⟩
                                                                · have k31 : (((4 * NA - t) * 1000 : Int) = z) := Zeqlt h60 h62 g31
                                                                  clear g31
                                                                  clear k31
                                                                  refine ⟨fun g32 => ?_, fun g32 => ?_⟩
                                                                  · have k32 : 900 * 2000 ≤ B := c63.out.1 (Zleqt h63 h54 g32)
                                                                    clear g32
                                                                    refine ⟨fun g33 => ?_, fun g33 => ?_⟩
                                                                    · have k33 : ((DA : Int) = 0) := Zeqlt h27 (Zc 0) g33
                                                                      clear g33
                                                                      omega
                                                                    · have k33 : ¬ ((DA : Int) = 0) := Zeqlf h27 (Zc 0) g33
                                                                      clear g33
                                                                      clear k33
                                                                      refine ⟨fun g34 => ?_, fun g34 => ?_⟩
                                                                      · have k34 : q * 4000000 ≤ A := c65.out.1 (Zleqt h65 h29 g34)
                                                                        clear g34
                                                                        refine ⟨fun g35 => ?_, fun g35 => ?_⟩
                                                                        · have k35 : (((-900) : Int) ≤ l) := Zleqt (Zc (-900)) h66 g35
                                                                          clear g35
                                                                          refine ⟨fun g36 => ?_, fun g36 => ?_⟩
                                                                          · have k36 : ((l : Int) ≤ 900) := Zleqt h66 (Zc 900) g36
                                                                            clear g36
                                                                            refine ⟨fun g37 => ?_, fun g37 => ?_⟩
                                                                            · have k37 : (((-9223372036854775807) : Int) ≤ U) := Zleqt (Zc (-9223372036854775807)) h68 g37
                                                                              clear g37
                                                                              clear k37
                                                                              refine ⟨fun g38 => ?_, fun g38 => ?_⟩
                                                                              · have k38 : ((U : Int) ≤ 9223372036854775807) := Zleqt h68 (Zc 9223372036854775807) g38
                                                                                clear g38
                                                                                clear k38
                                                                                refine ⟨fun g39 => ?_, fun g39 => ?_⟩
                                                                                · have k39 : (((-9223372036854775807) : Int) ≤ Y) := Zleqt (Zc (-9223372036854775807)) h69 g39
                                                                                  clear g39
                                                                                  clear k39
                                                                                  refine ⟨fun g40 => ?_, fun g40 => ?_⟩
                                                                                  · have k40 : ((Y : Int) ≤ 9223372036854775807) := Zleqt h69 (Zc 9223372036854775807) g40
                                                                                    clear g40
                                                                                    clear k40
                                                                                    refine ⟨fun g41 => ?_, fun g41 => ?_⟩
                                                                                    · have k41 : (((-9223372036854775807) : Int) ≤ Z) := Zleqt (Zc (-9223372036854775807)) h71 g41
                                                                                      clear g41
                                                                                      clear k41
                                                                                      refine ⟨fun g42 => ?_, fun g42 => ?_⟩
                                                                                      · have k42 : ((Z : Int) ≤ 9223372036854775807) := Zleqt h71 (Zc 9223372036854775807) g42
                                                                                        clear g42
                                                                                        clear k42
                                                                                        refine ⟨fun g43 => ?_, fun g43 => ?_⟩
                                                                                        · have k43 : ((1 : Int) ≤ DU) := Zleqt (Zc 1) h73 g43
                                                                                          clear g43
                                                                                          clear k43
                                                                                          refine ⟨fun g44 => ?_, fun g44 => ?_⟩
                                                                                          · have k44 : ((1 : Int) ≤ DY) := Zleqt (Zc 1) h75 g44
                                                                                            clear g44
                                                                                            clear k44
                                                                                            refine ⟨fun g45 => ?_, fun g45 => ?_⟩
                                                                                            · have k45 : ((1 : Int) ≤ DZ) := Zleqt (Zc 1) h77 g45
                                                                                              clear g45
                                                                                              clear k45
                                                                                              refine ⟨fun g46 => ?_, fun g46 => ?_⟩
                                                                                              · have k46 : Y ≤ U := c79.out.1 (Zleqt h79 h81 g46)
                                                                                                clear g46
                                                                                                clear k46
                                                                                                refine ⟨fun g47 => ?_, fun g47 => ?_⟩
                                                                                                · have k47 : U ≤ Z := c82.out.1 (Zleqt h82 h84 g47)
                                                                                                  clear g47
                                                                                                  clear k47
                                                                                                  refine ⟨fun g48 => ?_, fun g48 => ?_⟩
                                                                                                  · have k48 : ((NA : Int) = 0) := Zeqlt h29 (Zc 0) g48
                                                                                                    clear g48
                                                                                                    refine ⟨fun g49 => ?_, fun g49 => ?_⟩
                                                                                                    · exact rfl
                                                                                                    · have k49 : ¬ ((2 * NU : Int) = m86) := Zeqlf h85 h86 g49
                                                                                                      clear g49
                                                                                                      have iuz := uz.out
                                                                                                      have iaz := az.out
                                                                                                      have iqf := qf.out
                                                                                                      have ile := le.out
                                                                                                      have imf3 := mf3.out
                                                                                                      omega
                                                                                                  · exact rfl
                                                                                                · have k47 : ¬ (U ≤ Z) := fun e => Zleqf h82 h84 g47 (c82.out.2 e)
                                                                                                  clear g47
                                                                                                  have imf2 := mf2.out
                                                                                                  omega
                                                                                              · have k46 : ¬ (Y ≤ U) := fun e => Zleqf h79 h81 g46 (c79.out.2 e)
                                                                                                clear g46
                                                                                                have imf1 := mf1.out
                                                                                                omega
                                                                                            · have k45 : ¬ ((1 : Int) ≤ DZ) := Zleqf (Zc 1) h77 g45
                                                                                              clear g45
                                                                                              omega
                                                                                          · have k44 : ¬ ((1 : Int) ≤ DY) := Zleqf (Zc 1) h75 g44
                                                                                            clear g44
                                                                                            omega
                                                                                        · have k43 : ¬ ((1 : Int) ≤ DU) := Zleqf (Zc 1) h73 g43
                                                                                          clear g43
                                                                                          omega
                                                                                      · have k42 : ¬ ((Z : Int) ≤ 9223372036854775807) := Zleqf h71 (Zc 9223372036854775807) g42
                                                                                        clear g42
                                                                                        omega
                                                                                    · have k41 : ¬ (((-9223372036854775807) : Int) ≤ Z) := Zleqf (Zc (-9223372036854775807)) h71 g41
                                                                                      clear g41
                                                                                      omega
                                                                                  · have k40 : ¬ ((Y : Int) ≤ 9223372036854775807) := Zleqf h69 (Zc 9223372036854775807) g40
                                                                                    clear g40
                                                                                    omega
                                                                                · have k39 : ¬ (((-9223372036854775807) : Int) ≤ Y) := Zleqf (Zc (-9223372036854775807)) h69 g39
                                                                                  clear g39
                                                                                  omega
                                                                              · have k38 : ¬ ((U : Int) ≤ 9223372036854775807) := Zleqf h68 (Zc 9223372036854775807) g38
                                                                                clear g38
                                                                                have imb1 := mb1.out
                                                                                have imb2 := mb2.out
                                                                                omega
                                                                            · have k37 : ¬ (((-9223372036854775807) : Int) ≤ U) := Zleqf (Zc (-9223372036854775807)) h68 g37
                                                                              clear g37
                                                                              have imb1 := mb1.out
                                                                              have imb2 := mb2.out
                                                                              omega
                                                                          · have k36 : ¬ ((l : Int) ≤ 900) := Zleqf h66 (Zc 900) g36
                                                                            clear g36
                                                                            have ile := le.out
                                                                            have iqf := qf.out
                                                                            omega
                                                                        · have k35 : ¬ (((-900) : Int) ≤ l) := Zleqf (Zc (-900)) h66 g35
                                                                          clear g35
                                                                          have ile := le.out
                                                                          have iqf := qf.out
                                                                          omega
                                                                      · have k34 : ¬ (q * 4000000 ≤ A) := fun e => Zleqf h65 h29 g34 (c65.out.2 e)
                                                                        clear g34
                                                                        refine ⟨fun g35 => ?_, fun g35 => ?_⟩
                                                                        · have k35 : (((-900) : Int) ≤ k) := Zleqt (Zc (-900)) h88 g35
                                                                          clear g35
                                                                          refine ⟨fun g36 => ?_, fun g36 => ?_⟩
                                                                          · have k36 : ((k : Int) ≤ 900) := Zleqt h88 (Zc 900) g36
                                                                            clear g36
                                                                            refine ⟨fun g37 => ?_, fun g37 => ?_⟩
                                                                            · have k37 : (((-9223372036854775807) : Int) ≤ X) := Zleqt (Zc (-9223372036854775807)) h90 g37
                                                                              clear g37
                                                                              clear k37
                                                                              refine ⟨fun g38 => ?_, fun g38 => ?_⟩
                                                                              · have k38 : ((X : Int) ≤ 9223372036854775807) := Zleqt h90 (Zc 9223372036854775807) g38
                                                                                clear g38
                                                                                clear k38
                                                                                refine ⟨fun g39 => ?_, fun g39 => ?_⟩
                                                                                · have k39 : (((-9223372036854775807) : Int) ≤ Y) := Zleqt (Zc (-9223372036854775807)) h69 g39
                                                                                  clear g39
                                                                                  clear k39
                                                                                  refine ⟨fun g40 => ?_, fun g40 => ?_⟩
                                                                                  · have k40 : ((Y : Int) ≤ 9223372036854775807) := Zleqt h69 (Zc 9223372036854775807) g40
                                                                                    clear g40
                                                                                    clear k40
                                                                                    refine ⟨fun g41 => ?_, fun g41 => ?_⟩
                                                                                    · have k41 : (((-9223372036854775807) : Int) ≤ Z) := Zleqt (Zc (-9223372036854775807)) h71 g41
                                                                                      clear g41
                                                                                      clear k41
                                                                                      refine ⟨fun g42 => ?_, fun g42 => ?_⟩
                                                                                      · have k42 : ((Z : Int) ≤ 9223372036854775807) := Zleqt h71 (Zc 9223372036854775807) g42
                                                                                        clear g42
                                                                                        clear k42
                                                                                        refine ⟨fun g43 => ?_, fun g43 => ?_⟩
                                                                                        · have k43 : ((1 : Int) ≤ DX) := Zleqt (Zc 1) h92 g43
                                                                                          clear g43
                                                                                          clear k43
                                                                                          refine ⟨fun g44 => ?_, fun g44 => ?_⟩
                                                                                          · have k44 : ((1 : Int) ≤ DY) := Zleqt (Zc 1) h75 g44
                                                                                            clear g44
                                                                                            clear k44
                                                                                            refine ⟨fun g45 => ?_, fun g45 => ?_⟩
                                                                                            · have k45 : ((1 : Int) ≤ DZ) := Zleqt (Zc 1) h77 g45
                                                                                              clear g45
                                                                                              clear k45
                                                                                              refine ⟨fun g46 => ?_, fun g46 => ?_⟩
                                                                                              · have k46 : Y ≤ X := c93.out.1 (Zleqt h93 h95 g46)
                                                                                                clear g46
                                                                                                clear k46
                                                                                                refine ⟨fun g47 => ?_, fun g47 => ?_⟩
                                                                                                · have k47 : X ≤ Z := c96.out.1 (Zleqt h96 h97 g47)
                                                                                                  clear g47
                                                                                                  clear k47
                                                                                                  refine ⟨fun g48 => ?_, fun g48 => ?_⟩
                                                                                                  · have k48 : ((NA : Int) = 0) := Zeqlt h29 (Zc 0) g48
                                                                                                    clear g48
                                                                                                    have iaz := az.out
                                                                                                    have iqf := qf.out
                                                                                                    omega
                                                                                                  · exact rfl
                                                                                                · have k47 : ¬ (X ≤ Z) := fun e => Zleqf h96 h97 g47 (c96.out.2 e)
                                                                                                  clear g47
                                                                                                  have inf2 := nf2.out
                                                                                                  omega
                                                                                              · have k46 : ¬ (Y ≤ X) := fun e => Zleqf h93 h95 g46 (c93.out.2 e)
                                                                                                clear g46
                                                                                                have inf1 := nf1.out
                                                                                                omega
                                                                                            · have k45 : ¬ ((1 : Int) ≤ DZ) := Zleqf (Zc 1) h77 g45
                                                                                              clear g45
                                                                                              omega
                                                                                          · have k44 : ¬ ((1 : Int) ≤ DY) := Zleqf (Zc 1) h75 g44
                                                                                            clear g44
                                                                                            omega
                                                                                        · have k43 : ¬ ((1 : Int) ≤ DX) := Zleqf (Zc 1) h92 g43
                                                                                          clear g43
                                                                                          omega
                                                                                      · have k42 : ¬ ((Z : Int) ≤ 9223372036854775807) := Zleqf h71 (Zc 9223372036854775807) g42
                                                                                        clear g42
                                                                                        omega
                                                                                    · have k41 : ¬ (((-9223372036854775807) : Int) ≤ Z) := Zleqf (Zc (-9223372036854775807)) h71 g41
                                                                                      clear g41
                                                                                      omega
                                                                                  · have k40 : ¬ ((Y : Int) ≤ 9223372036854775807) := Zleqf h69 (Zc 9223372036854775807) g40
                                                                                    clear g40
                                                                                    omega
                                                                                · have k39 : ¬ (((-9223372036854775807) : Int) ≤ Y) := Zleqf (Zc (-9223372036854775807)) h69 g39
                                                                                  clear g39
                                                                                  omega
                                                                              · have k38 : ¬ ((X : Int) ≤ 9223372036854775807) := Zleqf h90 (Zc 9223372036854775807) g38
                                                                                clear g38
                                                                                have inb1 := nb1.out
                                                                                have inb2 := nb2.out
                                                                                omega
                                                                            · have k37 : ¬ (((-9223372036854775807) : Int) ≤ X) := Zleqf (Zc (-9223372036854775807)) h90 g37
                                                                              clear g37
                                                                              have inb1 := nb1.out
                                                                              have inb2 := nb2.out
                                                                              omega
                                                                          · have k36 : ¬ ((k : Int) ≤ 900) := Zleqf h88 (Zc 900) g36
                                                                            clear g36
                                                                            have ike := ke.out
                                                                            have iqf := qf.out
                                                                            omega
                                                                        · have k35 : ¬ (((-900) : Int) ≤ k) := Zleqf (Zc (-900)) h88 g35
                                                                          clear g35
                                                                          have ike := ke.out
                                                                          have iqf := qf.out
                                                                          omega
                                                                  · exact rfl
                                                                · have k31 : ¬ (((4 * NA - t) * 1000 : Int) = z) := Zeqlf h60 h62 g31
                                                                  clear g31
                                                                  have itz := tz.out
                                                                  omega
                                                          · have k28 : ¬ ((1 : Int) ≤ DB2) := Zleqf (Zc 1) h49 g28
                                                            clear g28
                                                            omega
                                                        · have k27 : ¬ ((1 : Int) ≤ DA2) := Zleqf (Zc 1) h42 g27
                                                          clear g27
                                                          omega
                                                      · have k26 : ¬ ((1 : Int) ≤ DB) := Zleqf (Zc 1) h47 g26
                                                        clear g26
                                                        omega
                                                    · have k25 : ¬ ((1 : Int) ≤ DA) := Zleqf (Zc 1) h27 g25
                                                      clear g25
                                                      omega
                                                  · have k24 : ¬ (A2 ≤ 900 * 4000000) := fun e => Zleqf h44 h45 g24 (c44.out.2 e)
                                                    clear g24
                                                    refine ⟨fun g25 => ?_, fun g25 => ?_⟩
                                                    · have k25 : ((1 : Int) ≤ DA) := Zleqt (Zc 1) h27 g25
                                                      clear g25
                                                      clear k25
                                                      refine ⟨fun g26 => ?_, fun g26 => ?_⟩
                                                      · have k26 : ((1 : Int) ≤ DB) := Zleqt (Zc 1) h47 g26
                                                        clear g26
                                                        clear k26
                                                        refine ⟨fun g27 => ?_, fun g27 => ?_⟩
                                                        · have k27 : ((1 : Int) ≤ DA2) := Zleqt (Zc 1) h42 g27
                                                          clear g27
                                                          clear k27
                                                          refine ⟨fun g28 => ?_, fun g28 => ?_⟩
                                                          · have k28 : ((1 : Int) ≤ DB2) := Zleqt (Zc 1) h49 g28
                                                            clear g28
                                                            clear k28
                                                            refine ⟨fun g29 => ?_, fun g29 => ?_⟩
                                                            · have k29 : A2 ≤ A := c50.out.1 (Zleqt h50 h51 g29)
                                                              clear g29
                                                              omega
                                                            · have k29 : ¬ (A2 ≤ A) := fun e => Zleqf h50 h51 g29 (c50.out.2 e)
                                                              clear g29
                                                              clear k29
                                                              refine ⟨fun g30 => ?_, fun g30 => ?_⟩
                                                              · have k30 : B2 ≤ B := c53.out.1 (Zleqt h53 h55 g30)
                                                                clear g30
                                                                omega
                                                              · have k30 : ¬ (B2 ≤ B) := fun e => Zleqf h53 h55 g30 (c53.out.2 e)
                                                                clear g30
                                                                clear k30
                                                                refine ⟨fun g31 => ?_, fun g31 => ?_⟩
                                                                · have k31 : (((4 * NA - t) * 1000 : Int) = z) := Zeqlt h60 h62 g31
                                                                  clear g31
                                                                  clear k31
                                                                  refine ⟨fun g32 => ?_, fun g32 => ?_⟩
                                                                  · have k32 : 900 * 2000 ≤ B := c63.out.1 (Zleqt h63 h54 g32)
                                                                    clear g32
                                                                    clear k32
                                                                    refine ⟨fun g33 => ?_, fun g33 => ?_⟩
                                                                    · have k33 : ((DA : Int) = 0) := Zeqlt h27 (Zc 0) g33
                                                                      clear g33
                                                                      omega
                                                                    · have k33 : ¬ ((DA : Int) = 0) := Zeqlf h27 (Zc 0) g33
                                                                      clear g33
                                                                      clear k33
                                                                      refine ⟨fun g34 => ?_, fun g34 => ?_⟩
                                                                      · have k34 : q * 4000000 ≤ A := c65.out.1 (Zleqt h65 h29 g34)
                                                                        clear g34
                                                                        refine ⟨fun g35 => ?_, fun g35 => ?_⟩
                                                                        · have k35 : (((-900) : Int) ≤ l) := Zleqt (Zc (-900)) h66 g35
                                                                          clear g35
                                                                          refine ⟨fun g36 => ?_, fun g36 => ?_⟩
                                                                          · have k36 : ((l : Int) ≤ 900) := Zleqt h66 (Zc 900) g36
                                                                            clear g36
                                                                            refine ⟨fun g37 => ?_, fun g37 => ?_⟩
                                                                            · have k37 : (((-9223372036854775807) : Int) ≤ U) := Zleqt (Zc (-9223372036854775807)) h68 g37
                                                                              clear g37
                                                                              clear k37
                                                                              refine ⟨fun g38 => ?_, fun g38 => ?_⟩
                                                                              · have k38 : ((U : Int) ≤ 9223372036854775807) := Zleqt h68 (Zc 9223372036854775807) g38
                                                                                clear g38
                                                                                clear k38
                                                                                refine ⟨fun g39 => ?_, fun g39 => ?_⟩
                                                                                · have k39 : (((-9223372036854775807) : Int) ≤ Y) := Zleqt (Zc (-9223372036854775807)) h69 g39
                                                                                  clear g39
                                                                                  clear k39
                                                                                  refine ⟨fun g40 => ?_, fun g40 => ?_⟩
                                                                                  · have k40 : ((Y : Int) ≤ 9223372036854775807) := Zleqt h69 (Zc 9223372036854775807) g40
                                                                                    clear g40
                                                                                    clear k40
                                                                                    refine ⟨fun g41 => ?_, fun g41 => ?_⟩
                                                                                    · have k41 : (((-9223372036854775807) : Int) ≤ Z) := Zleqt (Zc (-9223372036854775807)) h71 g41
                                                                                      clear g41
                                                                                      clear k41
                                                                                      refine ⟨fun g42 => ?_, fun g42 => ?_⟩
                                                                                      · have k42 : ((Z : Int) ≤ 9223372036854775807) := Zleqt h71 (Zc 9223372036854775807) g42
                                                                                        clear g42
                                                                                        clear k42
                                                                                        refine ⟨fun g43 => ?_, fun g43 => ?_⟩
                                                                                        · have k43 : ((1 : Int) ≤ DU) := Zleqt (Zc 1) h73 g43
                                                                                          clear g43
                                                                                          clear k43
                                                                                          refine ⟨fun g44 => ?_, fun g44 => ?_⟩
                                                                                          · have k44 : ((1 : Int) ≤ DY) := Zleqt (Zc 1) h75 g44
                                                                                            clear g44
                                                                                            clear k44
                                                                                            refine ⟨fun g45 => ?_, fun g45 => ?_⟩
                                                                                            · have k45 : ((1 : Int) ≤ DZ) := Zleqt (Zc 1) h77 g45
                                                                                              clear g45
                                                                                              clear k45
                                                                                              refine ⟨fun g46 => ?_, fun g46 => ?_⟩
                                                                                              · have k46 : Y ≤ U := c79.out.1 (Zleqt h79 h81 g46)
                                                                                                clear g46
                                                                                                clear k46
                                                                                                refine ⟨fun g47 => ?_, fun g47 => ?_⟩
                                                                                                · have k47 : U ≤ Z := c82.out.1 (Zleqt h82 h84 g47)
                                                                                                  clear g47
                                                                                                  clear k47
                                                                                                  refine ⟨fun g48 => ?_, fun g48 => ?_⟩
                                                                                                  · have k48 : ((NA : Int) = 0) := Zeqlt h29 (Zc 0) g48
                                                                                                    clear g48
                                                                                                    have iaz := az.out
                                                                                                    have iqf := qf.out
                                                                                                    omega
                                                                                                  · exact rfl
                                                                                                · have k47 : ¬ (U ≤ Z) := fun e => Zleqf h82 h84 g47 (c82.out.2 e)
                                                                                                  clear g47
                                                                                                  have imf2 := mf2.out
                                                                                                  omega
                                                                                              · have k46 : ¬ (Y ≤ U) := fun e => Zleqf h79 h81 g46 (c79.out.2 e)
                                                                                                clear g46
                                                                                                have imf1 := mf1.out
                                                                                                omega
                                                                                            · have k45 : ¬ ((1 : Int) ≤ DZ) := Zleqf (Zc 1) h77 g45
                                                                                              clear g45
                                                                                              omega
                                                                                          · have k44 : ¬ ((1 : Int) ≤ DY) := Zleqf (Zc 1) h75 g44
                                                                                            clear g44
                                                                                            omega
                                                                                        · have k43 : ¬ ((1 : Int) ≤ DU) := Zleqf (Zc 1) h73 g43
                                                                                          clear g43
                                                                                          omega
                                                                                      · have k42 : ¬ ((Z : Int) ≤ 9223372036854775807) := Zleqf h71 (Zc 9223372036854775807) g42
                                                                                        clear g42
                                                                                        omega
                                                                                    · have k41 : ¬ (((-9223372036854775807) : Int) ≤ Z) := Zleqf (Zc (-9223372036854775807)) h71 g41
                                                                                      clear g41
                                                                                      omega
                                                                                  · have k40 : ¬ ((Y : Int) ≤ 9223372036854775807) := Zleqf h69 (Zc 9223372036854775807) g40
                                                                                    clear g40
                                                                                    omega
                                                                                · have k39 : ¬ (((-9223372036854775807) : Int) ≤ Y) := Zleqf (Zc (-9223372036854775807)) h69 g39
                                                                                  clear g39
                                                                                  omega
                                                                              · have k38 : ¬ ((U : Int) ≤ 9223372036854775807) := Zleqf h68 (Zc 9223372036854775807) g38
                                                                                clear g38
                                                                                have imb1 := mb1.out
                                                                                have imb2 := mb2.out
                                                                                omega
                                                                            · have k37 : ¬ (((-9223372036854775807) : Int) ≤ U) := Zleqf (Zc (-9223372036854775807)) h68 g37
                                                                              clear g37
                                                                              have imb1 := mb1.out
                                                                              have imb2 := mb2.out
                                                                              omega
                                                                          · have k36 : ¬ ((l : Int) ≤ 900) := Zleqf h66 (Zc 900) g36
                                                                            clear g36
                                                                            have ile := le.out
                                                                            have iqf := qf.out
                                                                            omega
                                                                        · have k35 : ¬ (((-900) : Int) ≤ l) := Zleqf (Zc (-900)) h66 g35
                                                                          clear g35
                                                                          have ile := le.out
                                                                          have iqf := qf.out
                                                                          omega
                                                                      · have k34 : ¬ (q * 4000000 ≤ A) := fun e => Zleqf h65 h29 g34 (c65.out.2 e)
                                                                        clear g34
                                                                        have iqf := qf.out
                                                                        omega
                                                                  · have k32 : ¬ (900 * 2000 ≤ B) := fun e => Zleqf h63 h54 g32 (c63.out.2 e)
                                                                    clear g32
                                                                    omega
                                                                · have k31 : ¬ (((4 * NA - t) * 1000 : Int) = z) := Zeqlf h60 h62 g31
                                                                  clear g31
                                                                  have itz := tz.out
                                                                  omega
                                                          · have k28 : ¬ ((1 : Int) ≤ DB2) := Zleqf (Zc 1) h49 g28
                                                            clear g28
                                                            omega
                                                        · have k27 : ¬ ((1 : Int) ≤ DA2) := Zleqf (Zc 1) h42 g27
                                                          clear g27
                                                          omega
                                                      · have k26 : ¬ ((1 : Int) ≤ DB) := Zleqf (Zc 1) h47 g26
                                                        clear g26
                                                        omega
                                                    · have k25 : ¬ ((1 : Int) ≤ DA) := Zleqf (Zc 1) h27 g25
                                                      clear g25
                                                      omega
                                                · have k23 : ¬ (-900 * 4000000 ≤ A2) := fun e => Zleqf h43 h44 g23 (c43.out.2 e)
                                                  clear g23
                                                  omega
                                              · have k22 : ¬ ((B2 : Int) ≤ 9223372036854775807) := Zleqf h40 (Zc 9223372036854775807) g22
                                                clear g22
                                                omega
                                            · have k21 : ¬ (((-9223372036854775807) : Int) ≤ B2) := Zleqf (Zc (-9223372036854775807)) h40 g21
                                              clear g21
                                              omega
                                          · have k20 : ¬ ((A2 : Int) ≤ 9223372036854775807) := Zleqf h38 (Zc 9223372036854775807) g20
                                            clear g20
                                            omega
                                        · have k19 : ¬ (((-9223372036854775807) : Int) ≤ A2) := Zleqf (Zc (-9223372036854775807)) h38 g19
                                          clear g19
                                          omega
                                      · have k18 : ¬ ((V : Int) ≤ 100000) := Zleqf h33 (Zc 100000) g18
                                        clear g18
                                        omega
                                    · have k17 : ¬ ((1 : Int) ≤ V) := Zleqf (Zc 1) h33 g17
                                      clear g17
                                      omega
                                  · have k16 : ¬ (A ≤ 900 * 4000000) := fun e => Zleqf h29 h30 g16 (c29.out.2 e)
                                    clear g16
                                    refine ⟨fun g17 => ?_, fun g17 => ?_⟩
                                    · have k17 : ((1 : Int) ≤ V) := Zleqt (Zc 1) h33 g17
                                      clear g17
                                      clear k17
                                      refine ⟨fun g18 => ?_, fun g18 => ?_⟩
                                      · have k18 : ((V : Int) ≤ 100000) := Zleqt h33 (Zc 100000) g18
                                        clear g18
                                        clear k18
                                        refine ⟨fun g19 => ?_, fun g19 => ?_⟩
                                        · have k19 : (((-9223372036854775807) : Int) ≤ A2) := Zleqt (Zc (-9223372036854775807)) h38 g19
                                          clear g19
                                          clear k19
                                          refine ⟨fun g20 => ?_, fun g20 => ?_⟩
                                          · have k20 : ((A2 : Int) ≤ 9223372036854775807) := Zleqt h38 (Zc 9223372036854775807) g20
                                            clear g20
                                            clear k20
                                            refine ⟨fun g21 => ?_, fun g21 => ?_⟩
                                            · have k21 : (((-9223372036854775807) : Int) ≤ B2) := Zleqt (Zc (-9223372036854775807)) h40 g21
                                              clear g21
                                              clear k21
                                              refine ⟨fun g22 => ?_, fun g22 => ?_⟩
                                              · have k22 : ((B2 : Int) ≤ 9223372036854775807) := Zleqt h40 (Zc 9223372036854775807) g22
                                                clear g22
                                                clear k22
                                                refine ⟨fun g23 => ?_, fun g23 => ?_⟩
                                                · have k23 : -900 * 4000000 ≤ A2 := c43.out.1 (Zleqt h43 h44 g23)
                                                  clear g23
                                                  clear k23
                                                  refine ⟨fun g24 => ?_, fun g24 => ?_⟩
                                                  · have k24 : A2 ≤ 900 * 4000000 := c44.out.1 (Zleqt h44 h45 g24)
                                                    clear g24
                                                    omega
                                                  · have k24 : ¬ (A2 ≤ 900 * 4000000) := fun e => Zleqf h44 h45 g24 (c44.out.2 e)
                                                    clear g24
                                                    clear k24
                                                    refine ⟨fun g25 => ?_, fun g25 => ?_⟩
                                                    · have k25 : ((1 : Int) ≤ DA) := Zleqt (Zc 1) h27 g25
                                                      clear g25
                                                      clear k25
                                                      refine ⟨fun g26 => ?_, fun g26 => ?_⟩
                                                      · have k26 : ((1 : Int) ≤ DB) := Zleqt (Zc 1) h47 g26
                                                        clear g26
                                                        clear k26
                                                        refine ⟨fun g27 => ?_, fun g27 => ?_⟩
                                                        · have k27 : ((1 : Int) ≤ DA2) := Zleqt (Zc 1) h42 g27
                                                          clear g27
                                                          clear k27
                                                          refine ⟨fun g28 => ?_, fun g28 => ?_⟩
                                                          · have k28 : ((1 : Int) ≤ DB2) := Zleqt (Zc 1) h49 g28
                                                            clear g28
                                                            clear k28
                                                            refine ⟨fun g29 => ?_, fun g29 => ?_⟩
                                                            · have k29 : A2 ≤ A := c50.out.1 (Zleqt h50 h51 g29)
                                                              clear g29
                                                              omega
                                                            · have k29 : ¬ (A2 ≤ A) := fun e => Zleqf h50 h51 g29 (c50.out.2 e)
                                                              clear g29
                                                              clear k29
                                                              refine ⟨fun g30 => ?_, fun g30 => ?_⟩
                                                              · have k30 : B2 ≤ B := c53.out.1 (Zleqt h53 h55 g30)
                                                                clear g30
                                                                omega
                                                              · have k30 : ¬ (B2 ≤ B) := fun e => Zleqf h53 h55 g30 (c53.out.2 e)
                                                                clear g30
                                                                clear k30
                                                                refine ⟨fun g31 => ?_, fun g31 => ?_⟩
                                                                · exact rfl
                                                                · have k31 : ¬ (((4 * NA - t) * 1000 : Int) = z) := Zeqlf h60 h62 g31
                                                                  clear g31
                                                                  have itz := tz.out
                                                                  omega
                                                          · have k28 : ¬ ((1 : Int) ≤ DB2) := Zleqf (Zc 1) h49 g28
                                                            clear g28
                                                            omega
                                                        · have k27 : ¬ ((1 : Int) ≤ DA2) := Zleqf (Zc 1) h42 g27
                                                          clear g27
                                                          omega
                                                      · have k26 : ¬ ((1 : Int) ≤ DB) := Zleqf (Zc 1) h47 g26
                                                        clear g26
                                                        omega
                                                    · have k25 : ¬ ((1 : Int) ≤ DA) := Zleqf (Zc 1) h27 g25
                                                      clear g25
                                                      omega
                                                · have k23 : ¬ (-900 * 4000000 ≤ A2) := fun e => Zleqf h43 h44 g23 (c43.out.2 e)
                                                  clear g23
                                                  omega
                                              · have k22 : ¬ ((B2 : Int) ≤ 9223372036854775807) := Zleqf h40 (Zc 9223372036854775807) g22
                                                clear g22
                                                omega
                                            · have k21 : ¬ (((-9223372036854775807) : Int) ≤ B2) := Zleqf (Zc (-9223372036854775807)) h40 g21
                                              clear g21
                                              omega
                                          · have k20 : ¬ ((A2 : Int) ≤ 9223372036854775807) := Zleqf h38 (Zc 9223372036854775807) g20
                                            clear g20
                                            omega
                                        · have k19 : ¬ (((-9223372036854775807) : Int) ≤ A2) := Zleqf (Zc (-9223372036854775807)) h38 g19
                                          clear g19
                                          omega
                                      · have k18 : ¬ ((V : Int) ≤ 100000) := Zleqf h33 (Zc 100000) g18
                                        clear g18
                                        omega
                                    · have k17 : ¬ ((1 : Int) ≤ V) := Zleqf (Zc 1) h33 g17
                                      clear g17
                                      omega
                                · have k15 : ¬ (-900 * 4000000 ≤ A) := fun e => Zleqf h28 h29 g15 (c28.out.2 e)
                                  clear g15
                                  refine ⟨fun g16 => ?_, fun g16 => ?_⟩
                                  · have k16 : ((1 : Int) ≤ V) := Zleqt (Zc 1) h33 g16
                                    clear g16
                                    clear k16
                                    refine ⟨fun g17 => ?_, fun g17 => ?_⟩
                                    · have k17 : ((V : Int) ≤ 100000) := Zleqt h33 (Zc 100000) g17
                                      clear g17
                                      clear k17
                                      refine ⟨fun g18 => ?_, fun g18 => ?_⟩
                                      · have k18 : (((-9223372036854775807) : Int) ≤ A2) := Zleqt (Zc (-9223372036854775807)) h38 g18
                                        clear g18
                                        clear k18
                                        refine ⟨fun g19 => ?_, fun g19 => ?_⟩
                                        · have k19 : ((A2 : Int) ≤ 9223372036854775807) := Zleqt h38 (Zc 9223372036854775807) g19
                                          clear g19
                                          clear k19
                                          refine ⟨fun g20 => ?_, fun g20 => ?_⟩
                                          · have k20 : (((-9223372036854775807) : Int) ≤ B2) := Zleqt (Zc (-9223372036854775807)) h40 g20
                                            clear g20
                                            clear k20
                                            refine ⟨fun g21 => ?_, fun g21 => ?_⟩
                                            · have k21 : ((B2 : Int) ≤ 9223372036854775807) := Zleqt h40 (Zc 9223372036854775807) g21
                                              clear g21
                                              clear k21
                                              refine ⟨fun g22 => ?_, fun g22 => ?_⟩
                                              · have k22 : -900 * 4000000 ≤ A2 := c43.out.1 (Zleqt h43 h44 g22)
                                                clear g22
                                                refine ⟨fun g23 => ?_, fun g23 => ?_⟩
                                                · have k23 : A2 ≤ 900 * 4000000 := c44.out.1 (Zleqt h44 h45 g23)
                                                  clear g23
                                                  clear k23
                                                  refine ⟨fun g24 => ?_, fun g24 => ?_⟩
                                                  · have k24 : ((1 : Int) ≤ DA) := Zleqt (Zc 1) h27 g24
                                                    clear g24
                                                    clear k24
                                                    refine ⟨fun g25 => ?_, fun g25 => ?_⟩
                                                    · have k25 : ((1 : Int) ≤ DB) := Zleqt (Zc 1) h47 g25
                                                      clear g25
                                                      clear k25
                                                      refine ⟨fun g26 => ?_, fun g26 => ?_⟩
                                                      · have k26 : ((1 : Int) ≤ DA2) := Zleqt (Zc 1) h42 g26
                                                        clear g26
                                                        clear k26
                                                        refine ⟨fun g27 => ?_, fun g27 => ?_⟩
                                                        · have k27 : ((1 : Int) ≤ DB2) := Zleqt (Zc 1) h49 g27
                                                          clear g27
                                                          clear k27
                                                          refine ⟨fun g28 => ?_, fun g28 => ?_⟩
                                                          · have k28 : A2 ≤ A := c50.out.1 (Zleqt h50 h51 g28)
                                                            clear g28
                                                            omega
                                                          · have k28 : ¬ (A2 ≤ A) := fun e => Zleqf h50 h51 g28 (c50.out.2 e)
                                                            clear g28
                                                            clear k28
                                                            refine ⟨fun g29 => ?_, fun g29 => ?_⟩
                                                            · have k29 : B2 ≤ B := c53.out.1 (Zleqt h53 h55 g29)
                                                              clear g29
                                                              omega
                                                            · have k29 : ¬ (B2 ≤ B) := fun e => Zleqf h53 h55 g29 (c53.out.2 e)
                                                              clear g29
                                                              clear k29
                                                              refine ⟨fun g30 => ?_, fun g30 => ?_⟩
                                                              · exact rfl
                                                              · have k30 : ¬ (((4 * NA - t) * 1000 : Int) = z) := Zeqlf h60 h62 g30
                                                                clear g30
                                                                have itz := tz.out
                                                                omega
                                                        · have k27 : ¬ ((1 : Int) ≤ DB2) := Zleqf (Zc 1) h49 g27
                                                          clear g27
                                                          omega
                                                      · have k26 : ¬ ((1 : Int) ≤ DA2) := Zleqf (Zc 1) h42 g26
                                                        clear g26
                                                        omega
                                                    · have k25 : ¬ ((1 : Int) ≤ DB) := Zleqf (Zc 1) h47 g25
                                                      clear g25
                                                      omega
                                                  · have k24 : ¬ ((1 : Int) ≤ DA) := Zleqf (Zc 1) h27 g24
                                                    clear g24
                                                    omega
                                                · have k23 : ¬ (A2 ≤ 900 * 4000000) := fun e => Zleqf h44 h45 g23 (c44.out.2 e)
                                                  clear g23
                                                  omega
                                              · have k22 : ¬ (-900 * 4000000 ≤ A2) := fun e => Zleqf h43 h44 g22 (c43.out.2 e)
                                                clear g22
                                                refine ⟨fun g23 => ?_, fun g23 => ?_⟩
                                                · have k23 : ((1 : Int) ≤ DA) := Zleqt (Zc 1) h27 g23
                                                  clear g23
                                                  clear k23
                                                  refine ⟨fun g24 => ?_, fun g24 => ?_⟩
                                                  · have k24 : ((1 : Int) ≤ DB) := Zleqt (Zc 1) h47 g24
                                                    clear g24
                                                    clear k24
                                                    refine ⟨fun g25 => ?_, fun g25 => ?_⟩
                                                    · have k25 : ((1 : Int) ≤ DA2) := Zleqt (Zc 1) h42 g25
                                                      clear g25
                                                      clear k25
                                                      refine ⟨fun g26 => ?_, fun g26 => ?_⟩
                                                      · have k26 : ((1 : Int) ≤ DB2) := Zleqt (Zc 1) h49 g26
                                                        clear g26
                                                        clear k26
                                                        refine ⟨fun g27 => ?_, fun g27 => ?_⟩
                                                        · have k27 : A2 ≤ A := c50.out.1 (Zleqt h50 h51 g27)
                                                          clear g27
                                                          omega
                                                        · have k27 : ¬ (A2 ≤ A) := fun e => Zleqf h50 h51 g27 (c50.out.2 e)
                                                          clear g27
                                                          clear k27
                                                          refine ⟨fun g28 => ?_, fun g28 => ?_⟩
                                                          · have k28 : B2 ≤ B := c53.out.1 (Zleqt h53 h55 g28)
                                                            clear g28
                                                            omega
                                                          · have k28 : ¬ (B2 ≤ B) := fun e => Zleqf h53 h55 g28 (c53.out.2 e)
                                                            clear g28
                                                            clear k28
                                                            refine ⟨fun g29 => ?_, fun g29 => ?_⟩
                                                            · exact rfl
                                                            · have k29 : ¬ (((4 * NA - t) * 1000 : Int) = z) := Zeqlf h60 h62 g29
                                                              clear g29
                                                              have itz := tz.out
                                                              omega
                                                      · have k26 : ¬ ((1 : Int) ≤ DB2) := Zleqf (Zc 1) h49 g26
                                                        clear g26
                                                        omega
                                                    · have k25 : ¬ ((1 : Int) ≤ DA2) := Zleqf (Zc 1) h42 g25
                                                      clear g25
                                                      omega
                                                  · have k24 : ¬ ((1 : Int) ≤ DB) := Zleqf (Zc 1) h47 g24
                                                    clear g24
                                                    omega
                                                · have k23 : ¬ ((1 : Int) ≤ DA) := Zleqf (Zc 1) h27 g23
                                                  clear g23
                                                  omega
                                            · have k21 : ¬ ((B2 : Int) ≤ 9223372036854775807) := Zleqf h40 (Zc 9223372036854775807) g21
                                              clear g21
                                              omega
                                          · have k20 : ¬ (((-9223372036854775807) : Int) ≤ B2) := Zleqf (Zc (-9223372036854775807)) h40 g20
                                            clear g20
                                            omega
                                        · have k19 : ¬ ((A2 : Int) ≤ 9223372036854775807) := Zleqf h38 (Zc 9223372036854775807) g19
                                          clear g19
                                          omega
                                      · have k18 : ¬ (((-9223372036854775807) : Int) ≤ A2) := Zleqf (Zc (-9223372036854775807)) h38 g18
                                        clear g18
                                        omega
                                    · have k17 : ¬ ((V : Int) ≤ 100000) := Zleqf h33 (Zc 100000) g17
                                      clear g17
                                      omega
                                  · have k16 : ¬ ((1 : Int) ≤ V) := Zleqf (Zc 1) h33 g16
                                    clear g16
                                    omega
                              · have k14 : ¬ ((B : Int) ≤ 9223372036854775807) := Zleqf h25 (Zc 9223372036854775807) g14
                                clear g14
                                omega
                            · have k13 : ¬ (((-9223372036854775807) : Int) ≤ B) := Zleqf (Zc (-9223372036854775807)) h25 g13
                              clear g13
                              omega
                          · have k12 : ¬ ((A : Int) ≤ 9223372036854775807) := Zleqf h23 (Zc 9223372036854775807) g12
                            clear g12
                            omega
                        · have k11 : ¬ (((-9223372036854775807) : Int) ≤ A) := Zleqf (Zc (-9223372036854775807)) h23 g11
                          clear g11
                          omega
                      · have k10 : ¬ ((W : Int) ≤ 100000) := Zleqf h17 (Zc 100000) g10
                        clear g10
                        omega
                    · have k9 : ¬ ((1 : Int) ≤ W) := Zleqf (Zc 1) h17 g9
                      clear g9
                      omega
                  · have k8 : ¬ ((900 * S : Int) ≤ 500 * P) := Zleqf h13 h14 g8
                    clear g8
                    omega
                · have k7 : ¬ ((1 + s : Int) ≤ 8) := Zleqf h11 (Zc 8) g7
                  clear g7
                  omega
              · have k6 : ¬ ((1 : Int) ≤ 1 + s) := Zleqf (Zc 1) h11 g6
                clear g6
                omega
            · have k5 : ¬ ((1 + b : Int) ≤ 3000) := Zleqf h9 (Zc 3000) g5
              clear g5
              omega
          · have k4 : ¬ ((0 : Int) ≤ 1 + b) := Zleqf (Zc 0) h9 g4
            clear g4
            omega
        · have k3 : ¬ ((1 + a : Int) ≤ 3000) := Zleqf h6 (Zc 3000) g3
          clear g3
          omega
      · have k2 : ¬ ((0 : Int) ≤ 1 + a) := Zleqf (Zc 0) h6 g2
        clear g2
        omega
    · have k1 : ¬ ((P : Int) ≤ 200000) := Zleqf h3 (Zc 200000) g1
      clear g1
      omega
  · have k0 : ¬ ((100 : Int) ≤ P) := Zleqf (Zc 100) h3 g0
    clear g0
    omega
end Go.Proofs.Ytkmhmmibdfalpaa.Cx
