/- ThreadRoom: the walk. Made by tools/gen_roomlaw.py. -/
import Derived.Test.YtloleaahelmdjaaRoom3
namespace Go.Proofs.Ytloleaahelmdjaa
open Go.ChangeShapes Go.WideShapes Go.ChangeAt Go.RowKit
set_option linter.unusedVariables false
set_option linter.unusedSimpArgs false

theorem ovl_self (lo hi x : Int) : ovl lo hi x x = 0 := by simp [ovl]
theorem ovl_mono {lo hi u v x y : Int} (h1 : lo ≤ u) (h2 : u ≤ hi) (h3 : lo ≤ v) (h4 : v ≤ hi) : ovl u v x y ≤ ovl lo hi x y := by
  have key : ∀ d z : Int, lo ≤ z → z ≤ hi → z * d ≤ max (lo * d) (hi * d) := by
    intro d z a b
    rcases Int.le_total 0 d with h | h
    · have := Int.mul_le_mul_of_nonneg_right b h
      omega
    · have := Int.mul_le_mul_of_nonpos_right a h
      omega
  have a := key (y - x) u h1 h2
  have b := key (y - x) v h3 h4
  unfold ovl
  omega
theorem upTo_le {N n : Int} (hn : 1 ≤ n) (hN : 1 ≤ N) : N ≤ upTo N n * n ∧ (upTo N n - 1) * n < N ∧ 1 ≤ upTo N n ∧ upTo N n ≤ N := by
  have e1 := Int.mul_ediv_add_emod (N + n - 1) n
  have e2 := Int.emod_nonneg (N + n - 1) (b := n) (by omega)
  have e3 := Int.emod_lt_of_pos (N + n - 1) (b := n) (by omega)
  unfold upTo
  generalize (N + n - 1) / n = z at *
  rw [Int.mul_comm] at e1
  have e4 : (z - 1) * n = z * n - n := by rw [Int.sub_mul, Int.one_mul]
  have z1 : 1 ≤ z := by
    rcases Int.lt_or_le z 1 with h | h
    · have : z * n ≤ 0 := Int.mul_nonpos_of_nonpos_of_nonneg (by omega) (by omega)
      omega
    · exact h
  have z2 : (z - 1) * 1 ≤ (z - 1) * n := Int.mul_le_mul_of_nonneg_left hn (by omega)
  omega
theorem upTo_mono {N M n : Int} (hn : 1 ≤ n) (h : M ≤ N) : upTo M n ≤ upTo N n := Int.ediv_le_ediv (by omega) (by omega)

theorem room_walk (xp xl xr xa xb xs xt : Int) (xh : Bool) (x0 x1 y0 y1 y2 y3 : Int) (w : World) (m0 : (Lit.int .u16 xp).wf = true) (m1 : (Lit.int .u16 xl).wf = true) (m2 : (Lit.int .u16 xr).wf = true) (m3 : (Lit.int .u16 xa).wf = true) (m4 : (Lit.int .u16 xb).wf = true) (m5 : (Lit.int .u8 xs).wf = true) (m6 : (Lit.int .u8 xt).wf = true) (n0 : (Lit.int .u16 x0).wf = true) (n1 : (Lit.int .u16 x1).wf = true) (k0 : (Lit.int .u16 y0).wf = true) (k1 : (Lit.int .u16 y1).wf = true) (k2 : (Lit.int .u16 y2).wf = true) (k3 : (Lit.int .u16 y3).wf = true) :
    Calls Try.prog 12 #[.agg #[.int .u16 xp, .int .u16 xl, .int .u16 xr, .int .u16 xa, .int .u16 xb, .int .u8 xs, .int .u8 xt, .bool xh], .agg #[.int .u16 x0, .int .u16 x1], .agg #[.int .u16 y0, .int .u16 y1, .int .u16 y2, .int .u16 y3]] w fun e w' => e = .returned (.bool true) ∧ Below w.heap.size w w' := by
  have hin := cut_in m0 m1 m2 m3 m4 m5 m6
  clear m0 m1 m2 m3 m4 m5 m6
  obtain ⟨hok, hp, hlr, hh⟩ := cut_ok xh hin
  have HFm := Lib.hid (form_any xp xl xr xa xb xs xt xh · hin)
  clear hin
  generalize cutF xp xl xr xa xb xs xt xh = f at *
  obtain ⟨p, l, r, a, b, s, h, t⟩ := f
  simp only [Form.cells] at hp hlr hh HFm
  subst hh
  obtain ⟨⟨p0, p1⟩, ⟨l0, l1⟩, ⟨r0, r1⟩, ⟨a0, a1⟩, ⟨b0, b1⟩, ⟨s0, s1⟩, t0, t1⟩ := lim_iff.1 (ok_lim hok)
  simp only at p0 p1 l0 l1 r0 r1 a0 a1 b0 b1 s0 s1 t0 t1
  have b10 : 0 ≤ x0 ∧ x0 ≤ 65535 := wf_bd n0
  have b11 : 0 ≤ x1 ∧ x1 ≤ 65535 := wf_bd n1
  have b12 : 0 ≤ y0 ∧ y0 ≤ 65535 := wf_bd k0
  have b13 : 0 ≤ y1 ∧ y1 ≤ 65535 := wf_bd k1
  have b14 : 0 ≤ y2 ∧ y2 ≤ 65535 := wf_bd k2
  have b15 : 0 ≤ y3 ∧ y3 ≤ 65535 := wf_bd k3
  obtain ⟨lb, hlb⟩ : ∃ v, x0 % 1200 = v := ⟨_, rfl⟩
  obtain ⟨rb, hrb⟩ : ∃ v, x1 % 1200 = v := ⟨_, rfl⟩
  have hlb2 : x0.tmod 1200 = lb := by rw [Int.tmod_eq_emod_of_nonneg b10.1]; exact hlb
  have hrb2 : x1.tmod 1200 = rb := by rw [Int.tmod_eq_emod_of_nonneg b11.1]; exact hrb
  have L1 : 0 ≤ lb ∧ lb ≤ 1199 := by omega
  have L2 : 0 ≤ rb ∧ rb ≤ 1199 := by omega
  obtain ⟨P, hP⟩ : ∃ v, y0 - 30000 = v := ⟨_, rfl⟩
  obtain ⟨Q, hQ⟩ : ∃ v, y1 - 30000 = v := ⟨_, rfl⟩
  obtain ⟨lo, hmin⟩ : ∃ v, min P Q = v := ⟨_, rfl⟩
  obtain ⟨hi, hmax⟩ : ∃ v, max P Q = v := ⟨_, rfl⟩
  have hP2 : IntKind.i64.wrap (y0 - 30000) = P := by rw [hP]; exact IntWalk.i64_in _ (by omega)
  have hQ2 : IntKind.i64.wrap (y1 - 30000) = Q := by rw [hQ]; exact IntWalk.i64_in _ (by omega)
  have D1 : -30000 ≤ lo ∧ lo ≤ hi ∧ hi ≤ 35535 := by omega
  have hokb : okB ⟨p, lb, rb, 0, 1, s, h, t⟩ = true := by
    unfold okB openB
    rw [lim_iff.2 (by simp only; omega)]
    simp only [Bool.true_and, Bool.and_eq_true, decide_eq_true_eq]
    have e : max (0 : Int) 1 = 1 := rfl
    rw [e]
    omega
  have ht : tlB s t h s t h = true := by simp [tlB]
  have hv : vspan lo hi (-200000) 200000 = true := by unfold vspan; exact decide_eq_true (by omega)
  have HS := Lib.hid (fun w => room_zero p l r a b s t h p l r a b s t h lo hi w hok hok rfl ht hv (by rw [ovl_self, ovl_self]; omega))
  have HK := Lib.hid (fun w => check_good' p lb rb 0 1 s t h w hokb)
  have b1 := ovl_bd (lo := lo) (hi := hi) (x := l) (y := lb) ⟨l0, l1⟩ (by omega) (by omega) (by omega)
  have b2 := ovl_bd (lo := lo) (hi := hi) (x := r) (y := rb) ⟨r0, r1⟩ (by omega) (by omega) (by omega)
  have lies' : ∀ (u v c : Int), -200000 ≤ u ∧ u ≤ 200000 → -200000 ≤ v ∧ v ≤ 200000 → 0 ≤ c ∧ c ≤ 1200000000 → ∀ B : Bool, decide (ovl u v l lb + ovl u v r rb ≤ c * (l + r)) = B → ∀ w : World, Calls Try.prog 40 #[.agg #[.int .i64 p, .int .i64 l, .int .i64 r, .int .i64 a, .int .i64 b, .int .i64 s, .bool h, .int .i64 t], .agg #[.int .i64 p, .int .i64 lb, .int .i64 rb, .int .i64 0, .int .i64 1, .int .i64 s, .bool h, .int .i64 t], .agg #[.int .i64 u, .int .i64 v], .int .i64 c] w fun e w' => e = .returned (.bool B) ∧ Below w.heap.size w w' := by
    intro u v c hu hv hc B hB w
    have := lies_any p l r a b s t h p lb rb 0 1 s t h u v c w ⟨l0, l1⟩ ⟨r0, r1⟩ (by omega) (by omega) hc hu hv
    unfold goesB at this
    rw [hB] at this
    exact this
  -- less depth
  obtain ⟨wd, hw1⟩ : ∃ v, hi - lo + 1 = v := ⟨_, rfl⟩
  have wd1 : 1 ≤ wd := by omega
  obtain ⟨m2, hu5⟩ : ∃ v, y2 % wd = v := ⟨_, rfl⟩
  obtain ⟨m3, hv5⟩ : ∃ v, y3 % wd = v := ⟨_, rfl⟩
  have hu1 : y2.tmod wd = m2 := by rw [Int.tmod_eq_emod_of_nonneg b14.1]; exact hu5
  have hv1 : y3.tmod wd = m3 := by rw [Int.tmod_eq_emod_of_nonneg b15.1]; exact hv5
  have M2 : 0 ≤ m2 ∧ m2 < wd := by rw [← hu5]; exact ⟨Int.emod_nonneg _ (by omega), Int.emod_lt_of_pos _ (by omega)⟩
  have M3 : 0 ≤ m3 ∧ m3 < wd := by rw [← hv5]; exact ⟨Int.emod_nonneg _ (by omega), Int.emod_lt_of_pos _ (by omega)⟩
  obtain ⟨u, hu2⟩ : ∃ v, lo + m2 = v := ⟨_, rfl⟩
  obtain ⟨v, hv2⟩ : ∃ v, lo + m3 = v := ⟨_, rfl⟩
  obtain ⟨lo2, hmin2⟩ : ∃ x, min u v = x := ⟨_, rfl⟩
  obtain ⟨hi2, hmax2⟩ : ∃ x, max u v = x := ⟨_, rfl⟩
  have D2 : lo ≤ lo2 ∧ lo2 ≤ hi2 ∧ hi2 ≤ hi := by omega
  have hv9 : vspan lo2 hi2 (-200000) 200000 = true := by unfold vspan; exact decide_eq_true (by omega)
  have c1 := ovl_mono (lo := lo) (hi := hi) (u := lo2) (v := hi2) (x := l) (y := lb) (by omega) (by omega) (by omega) (by omega)
  have c2 := ovl_mono (lo := lo) (hi := hi) (u := lo2) (v := hi2) (x := r) (y := rb) (by omega) (by omega) (by omega) (by omega)
  have i64 : ∀ z : Int, -1000000000 ≤ z ∧ z ≤ 1000000000 → IntKind.i64.wrap z = z := fun z hz => IntWalk.i64_in _ (by omega)
  by_cases hN : ovl lo hi l lb + ovl lo hi r rb ≤ 0
  · exact room_way_zero xp xl xr xa xb xs xt h x0 x1 y0 y1 y2 y3 p l r a b s t h lb rb P Q lo hi 0 0 wd m2 m3 u v lo2 hi2 HFm b10 b11 b12 b13 b14 b15 hlb hlb2 hrb hrb2 hP hQ hP2 hQ2 (i64 _ (by omega)) (i64 _ (by omega)) (i64 _ (by omega)) (i64 _ (by omega)) (i64 _ (by omega)) (i64 _ (by omega)) hmin hmax l0 l1 r0 r1 HS HK
      (Lib.hid (fun w => room_zero p l r a b s t h p lb rb 0 1 s t h lo hi w hok hokb rfl ht hv hN))
      (Lib.hid (lies' lo hi 0 (by omega) (by omega) (by omega) true (decide_eq_true (by rw [Int.zero_mul]; exact hN))))
      (Lib.hid (fun w => room_zero p l r a b s t h p lb rb 0 1 s t h lo2 hi2 w hok hokb rfl ht hv9 (by omega)))
      (Lib.hid (lies' lo2 hi2 0 (by omega) (by omega) (by omega) true (decide_eq_true (by rw [Int.zero_mul]; omega))))
      (i64 _ (by omega)) hw1 (by rw [hw1]; exact i64 _ (by omega)) (by simp; omega) (by omega) wd1 hu1 hu5 hu2 (by rw [hu2]; exact i64 _ (by omega)) (i64 _ (by omega)) hv1 hv5 hv2 (by rw [hv2]; exact i64 _ (by omega)) (i64 _ (by omega)) hmin2 hmax2 (i64 _ (by omega)) (i64 _ (by omega)) (by decide) w
  · by_cases hl : l + r = 0
    · exact room_way_none xp xl xr xa xb xs xt h x0 x1 y0 y1 y2 y3 p l r a b s t h lb rb P Q lo hi HFm b10 b11 b12 b13 b14 b15 hlb hlb2 hrb hrb2 hP hQ hP2 hQ2 (i64 _ (by omega)) (i64 _ (by omega)) (i64 _ (by omega)) (i64 _ (by omega)) (i64 _ (by omega)) (i64 _ (by omega)) hmin hmax l0 l1 r0 r1 HS HK (by simpa using hl)
        (Lib.hid (fun w => room_none p l r a b s t h p lb rb 0 1 s t h lo hi w hok hokb rfl ht hv (by omega) hl))
        (Lib.hid (lies' lo hi 0 (by omega) (by omega) (by omega) false (decide_eq_false (by rw [Int.zero_mul]; exact hN))))
        (Lib.hid (lies' lo hi 100000 (by omega) (by omega) (by omega) false (decide_eq_false (by rw [hl, Int.mul_zero]; exact hN)))) w
    · have hl1 : 1 ≤ l + r := by omega
      obtain ⟨f1, f2, f3, f4⟩ := upTo_le (N := ovl lo hi l lb + ovl lo hi r rb) hl1 (by omega)
      have HR := Lib.hid (fun w => room_good p l r a b s t h p lb rb 0 1 s t h lo hi w hok hokb rfl ht hv (by omega) hl)
      obtain ⟨m, HR2, hm⟩ : ∃ m : Int, (∀ w : World, Calls Try.prog 27 #[.agg #[.int .i64 p, .int .i64 l, .int .i64 r, .int .i64 a, .int .i64 b, .int .i64 s, .bool h, .int .i64 t], .agg #[.int .i64 p, .int .i64 lb, .int .i64 rb, .int .i64 0, .int .i64 1, .int .i64 s, .bool h, .int .i64 t], .agg #[.int .i64 lo2, .int .i64 hi2]] w fun e w' => e = .returned (.tuple #[.int .i64 m, .int .i64 0]) ∧ Below w.heap.size w w') ∧ m ≤ upTo (ovl lo hi l lb + ovl lo hi r rb) (l + r) := by
        by_cases hN2 : ovl lo2 hi2 l lb + ovl lo2 hi2 r rb ≤ 0
        · exact ⟨0, fun w => room_zero p l r a b s t h p lb rb 0 1 s t h lo2 hi2 w hok hokb rfl ht hv9 hN2, by omega⟩
        · exact ⟨_, fun w => room_good p l r a b s t h p lb rb 0 1 s t h lo2 hi2 w hok hokb rfl ht hv9 (by omega) hl, upTo_mono hl1 (by omega)⟩
      generalize upTo (ovl lo hi l lb + ovl lo hi r rb) (l + r) = n at *
      exact room_way_good xp xl xr xa xb xs xt h x0 x1 y0 y1 y2 y3 p l r a b s t h lb rb P Q lo hi n m wd m2 m3 u v lo2 hi2 HFm b10 b11 b12 b13 b14 b15 hlb hlb2 hrb hrb2 hP hQ hP2 hQ2 (i64 _ (by omega)) (i64 _ (by omega)) (i64 _ (by omega)) (i64 _ (by omega)) (i64 _ (by omega)) (i64 _ (by omega)) hmin hmax l0 l1 r0 r1 HS HK f3 (by omega)
        (Lib.hid (lies' lo hi (n - 1) (by omega) (by omega) (by omega) false (decide_eq_false (by omega))))
        HR (Lib.hid (lies' lo hi n (by omega) (by omega) (by omega) true (decide_eq_true f1)))
        (Lib.hid HR2) (Lib.hid (lies' lo2 hi2 n (by omega) (by omega) (by omega) true (decide_eq_true (by omega))))
        (i64 _ (by omega)) hw1 (by rw [hw1]; exact i64 _ (by omega)) (by simp; omega) (by omega) wd1 hu1 hu5 hu2 (by rw [hu2]; exact i64 _ (by omega)) (i64 _ (by omega)) hv1 hv5 hv2 (by rw [hv2]; exact i64 _ (by omega)) (i64 _ (by omega)) hmin2 hmax2 (i64 _ (by omega)) (i64 _ (by omega)) (decide_eq_true hm) w

end Go.Proofs.Ytloleaahelmdjaa
