/- Contracts of zone.Groups. Made by tools/gen_zcheck.py. -/
import Derived.Test.YtpmeahmjmpgbfaaZLim
import Derived.Test.YtpmeahmjmpgbfaaSame
namespace Go.Proofs.Ytpmeahmjmpgbfaa
open Go.RowKit
set_option linter.unusedVariables false
set_option linter.unusedSimpArgs false

set_option maxRecDepth 100000 in
set_option maxHeartbeats 2000000 in
theorem start_any (w : World) (i lo hi d n : Int) (p q g : Nat) (m0 : -1000000000000000 ≤ i * d) (m1 : i * d ≤ 1000000000000000) (n0 : 1 ≤ n) (n1 : n ≤ 1000000) (l0 : -1000000000000000 ≤ lo) (l1 : lo ≤ 1000000000000000) (v : Int) (hv : i * d / n = v) (v0 : -1000000000000000 ≤ v) (v1 : v ≤ 1000000000000000) (X1 : Box w p #[.int .i64 lo, .int .i64 hi]) (X2 : Box w q #[.int .i64 d]) (X3 : Box w g #[.int .i64 n]) :
    Calls Try.prog 169 #[.int .i64 i, .pointer (some ⟨p, 0, none⟩), .pointer (some ⟨q, 0, none⟩), .pointer (some ⟨g, 0, none⟩)] w fun e w' => e = .returned (.int .i64 (lo + v)) ∧ Below w.heap.size w w' := by
  have HR := Lib.hid (fun w => roundDown_all (i * d) n w (by omega) (by omega) (by omega) (by omega))
  rw [hv] at HR
  clear hv
  have W1 : IntKind.i64.wrap (i * d) = i * d := IntWalk.i64_in _ (by omega)
  have W2 : IntKind.i64.wrap (lo + v) = lo + v := IntWalk.i64_in _ (by omega)
  go_enter Try.func169, Try.ntmps169
  go_wp2
  have Yb1 : Box w p #[.int .i64 lo, .int .i64 hi] := X1
  have Yb2 : Box w q #[.int .i64 d] := X2
  have Yb3 : Box w g #[.int .i64 n] := X3
  have hBX : Below w.heap.size w w := by go_grown
  clear X1 X2 X3
  have hsX := hBX.size
  have rd1 := fun d os => (Yb1.regrown d os).2.1
  have rd2 := fun d os => (Yb2.regrown d os).2.1
  have rd3 := fun d os => (Yb3.regrown d os).2.1
  have kc13 := fun d os => (below_of_same (HR.out (Go.Sort.grow (redrawn w d) os))).regrown_of
  clear Yb1 Yb2 Yb3
  refine wp_region_quiet_below (by kernel_rfl) (by kernel_rfl) ?_
  repeat ((with_reducible refine wpQuiet_step (fun K hK => ?_)); go_simp; first | ((with_reducible refine hK _ ?_); clear hK K) | (apply Exists.intro; refine ⟨fun _ => ?_, hK _ ?_⟩; (first | (go_at_call 143; with_reducible exact kc13 _ _)); clear hK K))
  with_reducible refine wpQuiet_nil ?_
  intro w1 hw'
  obtain ⟨⟨dq, osq⟩, hw''⟩ := hw'
  have hb1 : Below w.heap.size w w1 := by rw [hw'']; exact below_regrown w dq osq
  have hB1 : Below w.heap.size w w1 := stepB hBX hb1
  have hs1 := hB1.size
  clear hw'' hb1 hBX hsX rd1 rd2 rd3 kc13
  go_wp2
  go_returns
  exact ⟨rfl, hB1⟩

set_option maxRecDepth 100000 in
set_option maxHeartbeats 2000000 in
theorem group_way (w : World) (i lo hi n v u : Int) (i0 : 0 ≤ i) (i1 : i ≤ 1000000) (m0 : -1000000000000000 ≤ i * (hi - lo + 1)) (m1 : i * (hi - lo + 1) ≤ 1000000000000000) (k0 : -1000000000000000 ≤ (i + 1) * (hi - lo + 1)) (k1 : (i + 1) * (hi - lo + 1) ≤ 1000000000000000) (n0 : 1 ≤ n) (n1 : n ≤ 1000000) (l0 : -1000000000000000 ≤ lo) (l1 : lo ≤ 1000000000000000) (h0 : -1000000000000000 ≤ hi) (h1 : hi ≤ 1000000000000000) (HV : Hid (i * (hi - lo + 1) / n = v)) (v0 : -1000000000000000 ≤ v) (v1 : v ≤ 1000000000000000) (HU : Hid ((i + 1) * (hi - lo + 1) / n = u)) (u0 : -1000000000000000 ≤ u) (u1 : u ≤ 1000000000000000) :
    Calls Try.prog 145 #[.agg #[.int .i64 lo, .int .i64 hi], .int .i64 i, .int .i64 n] w fun e w' => e = .returned (spanV (lo + v) (lo + u - 1)) ∧ Below w.heap.size w w' := by
  go_enter Try.func145, Try.ntmps145
  go_wp2_with fail
  refine (start_any _ (i) lo hi (hi - lo + 1) n _ _ _ m0 m1 n0 n1 l0 l1 v HV.out v0 v1 (Box.alloc (Box.alloc (Box.alloc (Box.new w _ _) _) _) _) (Box.newAt (((w.alloc _).alloc _).alloc _) _ _ (by simp)) (Box.alloc (Box.alloc (Box.newAt (w.alloc _) _ _ (by simp)) _) _)).mono ?_
  rintro e w1 ⟨rfl, hb1⟩
  have Xb3_1 : Box w1 w.heap.size #[.int .i64 lo, .int .i64 hi] := Box.below (Box.alloc (Box.alloc (Box.alloc (Box.new w _ _) _) _) _) hb1
  have Xb5_1 : Box w1 (w.heap.size + 1) #[.int .i64 n] := Box.below (Box.alloc (Box.alloc (Box.newAt (w.alloc _) _ _ (by simp)) _) _) hb1
  have Xb6_1 : Box w1 (w.heap.size + 1 + 1) #[.int .i64 0, .int .i64 0] := Box.below (Box.alloc (Box.newAt ((w.alloc _).alloc _) _ _ (by simp)) _) hb1
  have Xb7_1 : Box w1 (w.heap.size + 1 + 1 + 1) #[.int .i64 (hi - lo + 1)] := Box.below (Box.newAt (((w.alloc _).alloc _).alloc _) _ _ (by simp)) hb1
  have hB1 : Below w.heap.size w w1 := stepB (by go_grown) hb1
  have hs1 := hB1.size
  clear hb1
  go_wp2_with fail
  refine (start_any _ (i + 1) lo hi (hi - lo + 1) n _ _ _ k0 k1 n0 n1 l0 l1 u HU.out u0 u1 Xb3_1 Xb7_1 Xb5_1).mono ?_
  rintro e w2 ⟨rfl, hb2⟩
  have Xb3_2 : Box w2 w.heap.size #[.int .i64 lo, .int .i64 hi] := Box.below Xb3_1 hb2
  have Xb5_2 : Box w2 (w.heap.size + 1) #[.int .i64 n] := Box.below Xb5_1 hb2
  have Xb6_2 : Box w2 (w.heap.size + 1 + 1) #[.int .i64 0, .int .i64 0] := Box.below Xb6_1 hb2
  have Xb7_2 : Box w2 (w.heap.size + 1 + 1 + 1) #[.int .i64 (hi - lo + 1)] := Box.below Xb7_1 hb2
  have hB2 : Below w.heap.size w w2 := stepB (by go_grown) hb2
  have hs2 := hB2.size
  clear hb2 hB1 hs1 Xb3_1 Xb5_1 Xb6_1 Xb7_1
  go_wp2_with fail
  refine (spanOf_any _ _ _).mono ?_
  rintro e w3 ⟨rfl, hb3⟩
  have Xb3_3 : Box w3 w.heap.size #[.int .i64 lo, .int .i64 hi] := Box.below Xb3_2 hb3
  have Xb5_3 : Box w3 (w.heap.size + 1) #[.int .i64 n] := Box.below Xb5_2 hb3
  have Xb6_3 : Box w3 (w.heap.size + 1 + 1) #[.int .i64 0, .int .i64 0] := Box.below Xb6_2 hb3
  have Xb7_3 : Box w3 (w.heap.size + 1 + 1 + 1) #[.int .i64 (hi - lo + 1)] := Box.below Xb7_2 hb3
  have hB3 : Below w.heap.size w w3 := stepB (by go_grown) hb3
  have hs3 := hB3.size
  clear hb3 hB2 hs2 Xb3_2 Xb5_2 Xb6_2 Xb7_2
  have cc6 := Xb6_3.2.1
  have ll6 := Xb6_3.1
  have ff6 := Xb6_3.2.2
  have lm6_0 : w.heap.size < w3.heap.size := by have := ll6; omega
  have lm6_1 : w.heap.size + 1 < w3.heap.size := by have := ll6; omega
  unfold spanV
  go_wp2
  refine bodyPost_ret (v := spanV (lo + v) (lo + u - 1)) (by simp [results, Try.results145, go_sem, spanV, cc6, ll6]) rfl ⟨rfl, by go_grown⟩

/-- The start of a group. -/
def gAt (lo hi i n : Int) : Int := lo + i * (hi - lo + 1) / n
theorem gmul_bd {i d m k : Int} (h : 0 ≤ i ∧ i ≤ m) (hd : -k ≤ d ∧ d ≤ k) : -(m * k) ≤ i * d ∧ i * d ≤ m * k := by
  have hk : 0 ≤ k := by omega
  have h1 : i * d ≤ i * k := Int.mul_le_mul_of_nonneg_left hd.2 h.1
  have h2 : i * -k ≤ i * d := Int.mul_le_mul_of_nonneg_left hd.1 h.1
  have h3 : i * k ≤ m * k := Int.mul_le_mul_of_nonneg_right h.2 hk
  rw [Int.mul_neg] at h2
  constructor <;> omega
theorem group_any (i lo hi n : Int) (w : World) (i0 : 0 ≤ i) (i1 : i ≤ 1000) (n0 : 1 ≤ n) (n1 : n ≤ 1000) (l0 : -50000000 ≤ lo) (l1 : lo ≤ 50000000) (h0 : -50000000 ≤ hi) (h1 : hi ≤ 50000000) :
    Calls Try.prog 145 #[spanV lo hi, .int .i64 i, .int .i64 n] w fun e w' => e = .returned (spanV (gAt lo hi i n) (gAt lo hi (i + 1) n - 1)) ∧ Below w.heap.size w w' := by
  have a := gmul_bd (i := i) (d := hi - lo + 1) (m := 1001) (k := 200000000) ⟨i0, by omega⟩ ⟨by omega, by omega⟩
  have b := gmul_bd (i := i + 1) (d := hi - lo + 1) (m := 1001) (k := 200000000) ⟨by omega, by omega⟩ ⟨by omega, by omega⟩
  have c := div_bd (x := i * (hi - lo + 1)) (d := n) (m := 1001 * 200000000) n0 a
  have d := div_bd (x := (i + 1) * (hi - lo + 1)) (d := n) (m := 1001 * 200000000) n0 b
  exact group_way w i lo hi n _ _ i0 (by omega) (by omega) (by omega) (by omega) (by omega) n0 (by omega) (by omega) (by omega) (by omega) (by omega) (Lib.hid rfl) (by omega) (by omega) (Lib.hid rfl) (by omega) (by omega)

/-- Whether a group of screws with its nuts is not empty, and all its plays are wanted. -/
def okG (s0 s1 n0 n1 w0 w1 g i : Int) : Bool := !decide (gAt s0 s1 (i + 1) g - 1 < gAt s0 s1 i g) && !decide (gAt n0 n1 (i + 1) g - 1 < gAt n0 n1 i g) &&
  lies (gAt n0 n1 i g - (gAt s0 s1 (i + 1) g - 1)) (gAt n0 n1 (i + 1) g - 1 - gAt s0 s1 i g) w0 w1
def sortedB (s0 s1 n0 n1 w0 w1 : Int) (g : Nat) : Bool := (List.range g).all fun i => okG s0 s1 n0 n1 w0 w1 g i

end Go.Proofs.Ytpmeahmjmpgbfaa
