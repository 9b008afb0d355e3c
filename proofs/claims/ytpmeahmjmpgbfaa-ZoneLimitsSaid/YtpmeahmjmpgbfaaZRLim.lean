/- Contracts of acmeref02.Zone and Limits. Made by tools/gen_zrlim.py. -/
import Derived.Test.YtpmeahmjmpgbfaaZRChk
import Derived.BigRegion
namespace Go.Proofs.Ytpmeahmjmpgbfaa
open Go.ChangeShapes Go.WideShapes Go.ChangeAt Go.RowKit
set_option linter.unusedVariables false
set_option linter.unusedSimpArgs false

set_option maxRecDepth 100000 in
set_option maxHeartbeats 4000000 in
theorem rzone_0 (ss : List Int) (gs ps : List (List Int)) (sa ga pa : Option Addr) (sc gc pc : Nat) (i j k : Nat) (size al wd : Int) (w : World) (m1 : ss.length ≤ 4611686018427387904) (m2 : gs.length ≤ 4611686018427387904) (m3 : ps.length ≤ 4611686018427387904) (hi : i < ps.length) (hj : j < gs.length) (hk : k ≤ 4611686018427387904) (z0 : 0 ≤ size) (z1 : size ≤ 10000000) (a0 : -100000 ≤ al) (a1 : al ≤ 100000) (d0 : 0 ≤ wd) (d1 : wd ≤ 100000) (h : NumAt w pa i k al) (g : NumAt w ga j k wd) :
    Calls Try.prog 97 #[.agg #[.slice sa ss.length sc, .slice ga gs.length gc, .slice pa ps.length pc], .agg #[.int .i64 i, .int .i64 j], .bool false, .int .i64 size, .int .i64 k] w fun e w' => e = .returned (spanV (size - al - wd) (size - al)) ∧ Below w.heap.size w w' := by
  obtain ⟨b, off, rb, ro, rl, rc, rfl, hb, hc, hrb, hkl, hrl, hv⟩ := h
  obtain ⟨d, of2, qb, qo, ql, qc, rfl, hd, hcd, hqb, hql, hqm, hu⟩ := g
  go_enter Try.func97, Try.ntmps97
  go_wp2
  have Yb5 : Box (((w.alloc (.cells #[.slice sa ss.length sc, .slice (some ⟨d, of2, none⟩) gs.length gc, .slice (some ⟨b, off, none⟩) ps.length pc] 63)).alloc (.cells #[.int .i64 i, .int .i64 j] 71)).alloc (.cells #[.int .i64 0, .int .i64 0] 24)) w.heap.size #[.slice sa ss.length sc, .slice (some ⟨d, of2, none⟩) gs.length gc, .slice (some ⟨b, off, none⟩) ps.length pc] := (Box.alloc (Box.alloc (Box.new w _ _) _) _)
  have Yb6 : Box (((w.alloc (.cells #[.slice sa ss.length sc, .slice (some ⟨d, of2, none⟩) gs.length gc, .slice (some ⟨b, off, none⟩) ps.length pc] 63)).alloc (.cells #[.int .i64 i, .int .i64 j] 71)).alloc (.cells #[.int .i64 0, .int .i64 0] 24)) (w.heap.size + 1) #[.int .i64 i, .int .i64 j] := (Box.alloc (Box.newAt (w.alloc _) _ _ (by simp)) _)
  have Yb10 : Box (((w.alloc (.cells #[.slice sa ss.length sc, .slice (some ⟨d, of2, none⟩) gs.length gc, .slice (some ⟨b, off, none⟩) ps.length pc] 63)).alloc (.cells #[.int .i64 i, .int .i64 j] 71)).alloc (.cells #[.int .i64 0, .int .i64 0] 24)) (w.heap.size + 1 + 1) #[.int .i64 0, .int .i64 0] := (Box.newAt ((w.alloc _).alloc _) _ _ (by simp))
  have hBX : Below w.heap.size w (((w.alloc (.cells #[.slice sa ss.length sc, .slice (some ⟨d, of2, none⟩) gs.length gc, .slice (some ⟨b, off, none⟩) ps.length pc] 63)).alloc (.cells #[.int .i64 i, .int .i64 j] 71)).alloc (.cells #[.int .i64 0, .int .i64 0] 24)) := by go_grown
  generalize (((w.alloc (.cells #[.slice sa ss.length sc, .slice (some ⟨d, of2, none⟩) gs.length gc, .slice (some ⟨b, off, none⟩) ps.length pc] 63)).alloc (.cells #[.int .i64 i, .int .i64 j] 71)).alloc (.cells #[.int .i64 0, .int .i64 0] 24)) = XW1 at *
  have hsX := hBX.size
  have rd5 := fun dz os => (Yb5.regrown dz os).2.1
  have rd6 := fun dz os => (Yb6.regrown dz os).2.1
  have Zb10 := Lib.hid Yb10
  clear Yb5 Yb6 Yb10
  have q1 := fun dz os => ((below_regrown XW1 dz os).cell (p := ⟨b, off + i, none⟩) (Nat.lt_of_lt_of_le hb hBX.size)).trans ((hBX.cell (p := ⟨b, off + i, none⟩) hb).trans hc)
  have q2 := fun dz os => ((below_regrown XW1 dz os).cell (p := ⟨rb, ro + k, none⟩) (Nat.lt_of_lt_of_le hrb hBX.size)).trans ((hBX.cell (p := ⟨rb, ro + k, none⟩) hrb).trans hv)
  have q3 := fun dz os => ((below_regrown XW1 dz os).cell (p := ⟨d, of2 + j, none⟩) (Nat.lt_of_lt_of_le hd hBX.size)).trans ((hBX.cell (p := ⟨d, of2 + j, none⟩) hd).trans hcd)
  have q4 := fun dz os => ((below_regrown XW1 dz os).cell (p := ⟨qb, qo + k, none⟩) (Nat.lt_of_lt_of_le hqb hBX.size)).trans ((hBX.cell (p := ⟨qb, qo + k, none⟩) hqb).trans hu)
  refine wp_region_quiet_below (by kernel_rfl) (by kernel_rfl) ?_
  repeat ((with_reducible refine wpQuiet_step (fun K hK => ?_)); go_simp; first | ((with_reducible refine hK _ ?_); clear hK K) | (apply Exists.intro; refine ⟨fun _ => ?_, hK _ ?_⟩; fail; clear hK K) | (refine ite_skip (fun h => ?_) (hK _ ?_); (have h2 : (none : Option Bool) = some true := h); cases h2; clear hK K))
  with_reducible refine wpQuiet_nil ?_
  intro w1 hw'
  obtain ⟨⟨dq, osq⟩, hw''⟩ := hw'
  have hb1 : Below XW1.heap.size XW1 w1 := by rw [hw'']; exact below_regrown XW1 dq osq
  have Xb10_1 : Box w1 (w.heap.size + 1 + 1) #[.int .i64 0, .int .i64 0] := Zb10.out.below hb1
  have hB1 : Below w.heap.size w w1 := stepB hBX hb1
  have hs1 := hB1.size
  clear hw'' hb1 hBX hsX rd5 rd6 Zb10
  have cc10 := Xb10_1.2.1
  have ll10 := Xb10_1.1
  have ff10 := Xb10_1.2.2
  have lm10_0 : w.heap.size < w1.heap.size := by have := ll10; omega
  have lm10_1 : w.heap.size + 1 < w1.heap.size := by have := ll10; omega
  go_wp2
  refine bodyPost_ret (v := spanV (size - al - wd) (size - al)) (by simp [results, Try.results97, go_sem, spanV, cc10, ll10]) rfl ⟨rfl, by go_grown⟩

set_option maxRecDepth 100000 in
set_option maxHeartbeats 4000000 in
theorem rzone_1 (ss : List Int) (gs ps : List (List Int)) (sa ga pa : Option Addr) (sc gc pc : Nat) (i j k : Nat) (size al wd : Int) (w : World) (m1 : ss.length ≤ 4611686018427387904) (m2 : gs.length ≤ 4611686018427387904) (m3 : ps.length ≤ 4611686018427387904) (hi : i < ps.length) (hj : j < gs.length) (hk : k ≤ 4611686018427387904) (z0 : 0 ≤ size) (z1 : size ≤ 10000000) (a0 : -100000 ≤ al) (a1 : al ≤ 100000) (d0 : 0 ≤ wd) (d1 : wd ≤ 100000) (h : NumAt w pa i k al) (g : NumAt w ga j k wd) :
    Calls Try.prog 97 #[.agg #[.slice sa ss.length sc, .slice ga gs.length gc, .slice pa ps.length pc], .agg #[.int .i64 i, .int .i64 j], .bool true, .int .i64 size, .int .i64 k] w fun e w' => e = .returned (spanV (size + al) (size + al + wd)) ∧ Below w.heap.size w w' := by
  obtain ⟨b, off, rb, ro, rl, rc, rfl, hb, hc, hrb, hkl, hrl, hv⟩ := h
  obtain ⟨d, of2, qb, qo, ql, qc, rfl, hd, hcd, hqb, hql, hqm, hu⟩ := g
  go_enter Try.func97, Try.ntmps97
  go_wp2
  have Yb5 : Box (((w.alloc (.cells #[.slice sa ss.length sc, .slice (some ⟨d, of2, none⟩) gs.length gc, .slice (some ⟨b, off, none⟩) ps.length pc] 63)).alloc (.cells #[.int .i64 i, .int .i64 j] 71)).alloc (.cells #[.int .i64 0, .int .i64 0] 24)) w.heap.size #[.slice sa ss.length sc, .slice (some ⟨d, of2, none⟩) gs.length gc, .slice (some ⟨b, off, none⟩) ps.length pc] := (Box.alloc (Box.alloc (Box.new w _ _) _) _)
  have Yb6 : Box (((w.alloc (.cells #[.slice sa ss.length sc, .slice (some ⟨d, of2, none⟩) gs.length gc, .slice (some ⟨b, off, none⟩) ps.length pc] 63)).alloc (.cells #[.int .i64 i, .int .i64 j] 71)).alloc (.cells #[.int .i64 0, .int .i64 0] 24)) (w.heap.size + 1) #[.int .i64 i, .int .i64 j] := (Box.alloc (Box.newAt (w.alloc _) _ _ (by simp)) _)
  have Yb10 : Box (((w.alloc (.cells #[.slice sa ss.length sc, .slice (some ⟨d, of2, none⟩) gs.length gc, .slice (some ⟨b, off, none⟩) ps.length pc] 63)).alloc (.cells #[.int .i64 i, .int .i64 j] 71)).alloc (.cells #[.int .i64 0, .int .i64 0] 24)) (w.heap.size + 1 + 1) #[.int .i64 0, .int .i64 0] := (Box.newAt ((w.alloc _).alloc _) _ _ (by simp))
  have hBX : Below w.heap.size w (((w.alloc (.cells #[.slice sa ss.length sc, .slice (some ⟨d, of2, none⟩) gs.length gc, .slice (some ⟨b, off, none⟩) ps.length pc] 63)).alloc (.cells #[.int .i64 i, .int .i64 j] 71)).alloc (.cells #[.int .i64 0, .int .i64 0] 24)) := by go_grown
  generalize (((w.alloc (.cells #[.slice sa ss.length sc, .slice (some ⟨d, of2, none⟩) gs.length gc, .slice (some ⟨b, off, none⟩) ps.length pc] 63)).alloc (.cells #[.int .i64 i, .int .i64 j] 71)).alloc (.cells #[.int .i64 0, .int .i64 0] 24)) = XW1 at *
  have hsX := hBX.size
  have rd5 := fun dz os => (Yb5.regrown dz os).2.1
  have rd6 := fun dz os => (Yb6.regrown dz os).2.1
  have Zb10 := Lib.hid Yb10
  clear Yb5 Yb6 Yb10
  have q1 := fun dz os => ((below_regrown XW1 dz os).cell (p := ⟨b, off + i, none⟩) (Nat.lt_of_lt_of_le hb hBX.size)).trans ((hBX.cell (p := ⟨b, off + i, none⟩) hb).trans hc)
  have q2 := fun dz os => ((below_regrown XW1 dz os).cell (p := ⟨rb, ro + k, none⟩) (Nat.lt_of_lt_of_le hrb hBX.size)).trans ((hBX.cell (p := ⟨rb, ro + k, none⟩) hrb).trans hv)
  have q3 := fun dz os => ((below_regrown XW1 dz os).cell (p := ⟨d, of2 + j, none⟩) (Nat.lt_of_lt_of_le hd hBX.size)).trans ((hBX.cell (p := ⟨d, of2 + j, none⟩) hd).trans hcd)
  have q4 := fun dz os => ((below_regrown XW1 dz os).cell (p := ⟨qb, qo + k, none⟩) (Nat.lt_of_lt_of_le hqb hBX.size)).trans ((hBX.cell (p := ⟨qb, qo + k, none⟩) hqb).trans hu)
  refine wp_region_quiet_below (by kernel_rfl) (by kernel_rfl) ?_
  repeat ((with_reducible refine wpQuiet_step (fun K hK => ?_)); go_simp; first | ((with_reducible refine hK _ ?_); clear hK K) | (apply Exists.intro; refine ⟨fun _ => ?_, hK _ ?_⟩; fail; clear hK K) | (refine ite_skip (fun h => ?_) (hK _ ?_); (have h2 : (none : Option Bool) = some true := h); cases h2; clear hK K))
  with_reducible refine wpQuiet_nil ?_
  intro w1 hw'
  obtain ⟨⟨dq, osq⟩, hw''⟩ := hw'
  have hb1 : Below XW1.heap.size XW1 w1 := by rw [hw'']; exact below_regrown XW1 dq osq
  have Xb10_1 : Box w1 (w.heap.size + 1 + 1) #[.int .i64 0, .int .i64 0] := Zb10.out.below hb1
  have hB1 : Below w.heap.size w w1 := stepB hBX hb1
  have hs1 := hB1.size
  clear hw'' hb1 hBX hsX rd5 rd6 Zb10
  have cc10 := Xb10_1.2.1
  have ll10 := Xb10_1.1
  have ff10 := Xb10_1.2.2
  have lm10_0 : w.heap.size < w1.heap.size := by have := ll10; omega
  have lm10_1 : w.heap.size + 1 < w1.heap.size := by have := ll10; omega
  go_wp2
  refine bodyPost_ret (v := spanV (size + al) (size + al + wd)) (by simp [results, Try.results97, go_sem, spanV, cc10, ll10]) rfl ⟨rfl, by go_grown⟩

theorem rzone_any (nut : Bool) (pl gr size : Int) (k : Nat) (ss : List Int) (gs ps : List (List Int)) (sa ga pa : Option Addr) (sc gc pc : Nat) (w : World) (m1 : ss.length ≤ 4611686018427387904) (m2 : gs.length ≤ 4611686018427387904) (m3 : ps.length ≤ 4611686018427387904) (hs : SlA IntE w sa ss) (hg : SlA IntsAt w ga gs) (hp : SlA IntsAt w pa ps) (hc : checkN ss gs ps = 0) (hcl : classB gs ps (pl, gr) = true) (hk : k < ss.length) (z0 : 0 ≤ size) (z1 : size ≤ 10000000) :
    Calls Try.prog 97 #[.agg #[.slice sa ss.length sc, .slice ga gs.length gc, .slice pa ps.length pc], .agg #[.int .i64 pl, .int .i64 gr], .bool nut, .int .i64 size, .int .i64 k] w fun e w' => e = .returned (spanV (zoLo nut size (numN ps pl k) (numN gs gr k)) (zoHi nut size (numN ps pl k) (numN gs gr k))) ∧ Below w.heap.size w w' := by
  obtain ⟨_, hf, _, hr⟩ := check_parts hc
  obtain ⟨f1, f2⟩ := full_parts hf
  obtain ⟨_, r1, _, r2⟩ := rows_parts hr
  obtain ⟨⟨c1, c2⟩, c3, c4⟩ := (classB_iff gs ps (pl, gr)).1 hcl
  obtain ⟨i, rfl⟩ := Int.eq_ofNat_of_zero_le c1
  obtain ⟨j, rfl⟩ := Int.eq_ofNat_of_zero_le c3
  simp only at c2 c4
  obtain ⟨ra, ha1, ha2, ha3, ha4⟩ := row_at f2 r2 (i := i) (k := k) (by omega) hk
  obtain ⟨rb, hb1, hb2, hb3, hb4⟩ := row_at f1 r1 (i := j) (k := k) (by omega) hk
  cases nut
  · exact rzone_0 ss gs ps sa ga pa sc gc pc i j k size _ _ w m1 m2 m3 (by omega) (by omega) (by omega) z0 z1 ha3 ha4 hb3 hb4 (numAt_of hp ha1 ha2) (numAt_of hg hb1 hb2)
  · exact rzone_1 ss gs ps sa ga pa sc gc pc i j k size _ _ w m1 m2 m3 (by omega) (by omega) (by omega) z0 z1 ha3 ha4 hb3 hb4 (numAt_of hp ha1 ha2) (numAt_of hg hb1 hb2)

set_option maxRecDepth 100000 in
set_option maxHeartbeats 4000000 in
theorem rlim_0 (w : World) (nut : Bool) (pl gr size : Int) (ss : List Int) (gs ps : List (List Int)) (sa ga pa : Option Addr) (sc gc pc : Nat) (k : Int) (h1 : (k == 0) = false) (h2 : (k != 0) = true) (HK : Hid (∀ W : World, Below w.heap.size w W → Calls Try.prog 34 #[.agg #[.slice sa ss.length sc, .slice ga gs.length gc, .slice pa ps.length pc]] W fun e w' => e = .returned (.int .i64 k) ∧ Below W.heap.size W w')) :
    Calls Try.prog 32 #[.agg #[.slice sa ss.length sc, .slice ga gs.length gc, .slice pa ps.length pc], .agg #[.int .i64 pl, .int .i64 gr], .bool nut, .int .i64 size] w fun e w' => e = .returned (.tuple #[spanV (0) (0), .int .i64 k]) ∧ Below w.heap.size w w' := by
  go_enter Try.func32, Try.ntmps32
  go_wp2_with fail
  refine (HK.out _ (by go_grown)).mono ?_
  rintro e w1 ⟨rfl, hb1⟩
  have Xb8_1 : Box w1 (w.heap.size + 1 + 1) #[.int .i64 0, .int .i64 0] := Box.below (Box.newAt ((w.alloc _).alloc _) _ _ (by simp)) hb1
  have hB1 : Below w.heap.size w w1 := stepB (by go_grown) hb1
  have hs1 := hB1.size
  clear hb1
  have cc8 := Xb8_1.2.1
  have ll8 := Xb8_1.1
  have ff8 := Xb8_1.2.2
  have lm8_0 : w.heap.size < w1.heap.size := by have := ll8; omega
  have lm8_1 : w.heap.size + 1 < w1.heap.size := by have := ll8; omega
  go_wp2
  refine bodyPost_ret (v := .tuple #[spanV (0) (0), .int .i64 k]) (by simp [results, Try.results32, go_sem, spanV, cc8, ll8]) rfl ⟨rfl, by go_grown⟩

set_option maxRecDepth 100000 in
set_option maxHeartbeats 4000000 in
theorem rlim_1 (w : World) (nut : Bool) (pl gr size : Int) (ss : List Int) (gs ps : List (List Int)) (sa ga pa : Option Addr) (sc gc pc : Nat)  (HK : Hid (∀ W : World, Below w.heap.size w W → Calls Try.prog 34 #[.agg #[.slice sa ss.length sc, .slice ga gs.length gc, .slice pa ps.length pc]] W fun e w' => e = .returned (.int .i64 0) ∧ Below W.heap.size W w')) (HC : Hid (∀ W : World, Below w.heap.size w W → Calls Try.prog 52 #[.agg #[.slice sa ss.length sc, .slice ga gs.length gc, .slice pa ps.length pc], .agg #[.int .i64 pl, .int .i64 gr]] W fun e w' => e = .returned (.bool false) ∧ Below W.heap.size W w')) :
    Calls Try.prog 32 #[.agg #[.slice sa ss.length sc, .slice ga gs.length gc, .slice pa ps.length pc], .agg #[.int .i64 pl, .int .i64 gr], .bool nut, .int .i64 size] w fun e w' => e = .returned (.tuple #[spanV (0) (0), .int .i64 7]) ∧ Below w.heap.size w w' := by
  go_enter Try.func32, Try.ntmps32
  go_wp2_with fail
  refine (HK.out _ (by go_grown)).mono ?_
  rintro e w1 ⟨rfl, hb1⟩
  have Xb4_1 : Box w1 w.heap.size #[.slice sa ss.length sc, .slice ga gs.length gc, .slice pa ps.length pc] := Box.below (Box.alloc (Box.alloc (Box.new w _ _) _) _) hb1
  have Xb5_1 : Box w1 (w.heap.size + 1) #[.int .i64 pl, .int .i64 gr] := Box.below (Box.alloc (Box.newAt (w.alloc _) _ _ (by simp)) _) hb1
  have Xb8_1 : Box w1 (w.heap.size + 1 + 1) #[.int .i64 0, .int .i64 0] := Box.below (Box.newAt ((w.alloc _).alloc _) _ _ (by simp)) hb1
  have hB1 : Below w.heap.size w w1 := stepB (by go_grown) hb1
  have hs1 := hB1.size
  clear hb1
  have cc4 := Xb4_1.2.1
  have ll4 := Xb4_1.1
  have cc5 := Xb5_1.2.1
  have ll5 := Xb5_1.1
  have lm5_0 : w.heap.size < w1.heap.size := by have := ll5; omega
  go_wp2_with fail
  refine (HC.out _ (by go_grown)).mono ?_
  rintro e w2 ⟨rfl, hb2⟩
  have Xb8_2 : Box w2 (w.heap.size + 1 + 1) #[.int .i64 0, .int .i64 0] := Box.below Xb8_1 hb2
  have hB2 : Below w.heap.size w w2 := stepB (by go_grown) hb2
  have hs2 := hB2.size
  clear hb2 hB1 hs1 Xb4_1 Xb5_1 Xb8_1 cc4 ll4 cc5 ll5 lm5_0
  have cc8 := Xb8_2.2.1
  have ll8 := Xb8_2.1
  have ff8 := Xb8_2.2.2
  have lm8_0 : w.heap.size < w2.heap.size := by have := ll8; omega
  have lm8_1 : w.heap.size + 1 < w2.heap.size := by have := ll8; omega
  go_wp2
  refine bodyPost_ret (v := .tuple #[spanV (0) (0), .int .i64 7]) (by simp [results, Try.results32, go_sem, spanV, cc8, ll8]) rfl ⟨rfl, by go_grown⟩

set_option maxRecDepth 100000 in
set_option maxHeartbeats 4000000 in
theorem rlim_2 (w : World) (nut : Bool) (pl gr size : Int) (ss : List Int) (gs ps : List (List Int)) (sa ga pa : Option Addr) (sc gc pc : Nat)  (HK : Hid (∀ W : World, Below w.heap.size w W → Calls Try.prog 34 #[.agg #[.slice sa ss.length sc, .slice ga gs.length gc, .slice pa ps.length pc]] W fun e w' => e = .returned (.int .i64 0) ∧ Below W.heap.size W w')) (HC : Hid (∀ W : World, Below w.heap.size w W → Calls Try.prog 52 #[.agg #[.slice sa ss.length sc, .slice ga gs.length gc, .slice pa ps.length pc], .agg #[.int .i64 pl, .int .i64 gr]] W fun e w' => e = .returned (.bool true) ∧ Below W.heap.size W w')) (HS : Hid (∀ W : World, Below w.heap.size w W → Calls Try.prog 49 #[.agg #[.slice sa ss.length sc, .slice ga gs.length gc, .slice pa ps.length pc], .int .i64 size] W fun e w' => e = .returned (.tuple #[.int .i64 0, .bool false]) ∧ Below W.heap.size W w')) :
    Calls Try.prog 32 #[.agg #[.slice sa ss.length sc, .slice ga gs.length gc, .slice pa ps.length pc], .agg #[.int .i64 pl, .int .i64 gr], .bool nut, .int .i64 size] w fun e w' => e = .returned (.tuple #[spanV (0) (0), .int .i64 3]) ∧ Below w.heap.size w w' := by
  go_enter Try.func32, Try.ntmps32
  go_wp2_with fail
  refine (HK.out _ (by go_grown)).mono ?_
  rintro e w1 ⟨rfl, hb1⟩
  have Xb4_1 : Box w1 w.heap.size #[.slice sa ss.length sc, .slice ga gs.length gc, .slice pa ps.length pc] := Box.below (Box.alloc (Box.alloc (Box.new w _ _) _) _) hb1
  have Xb5_1 : Box w1 (w.heap.size + 1) #[.int .i64 pl, .int .i64 gr] := Box.below (Box.alloc (Box.newAt (w.alloc _) _ _ (by simp)) _) hb1
  have Xb8_1 : Box w1 (w.heap.size + 1 + 1) #[.int .i64 0, .int .i64 0] := Box.below (Box.newAt ((w.alloc _).alloc _) _ _ (by simp)) hb1
  have hB1 : Below w.heap.size w w1 := stepB (by go_grown) hb1
  have hs1 := hB1.size
  clear hb1
  have cc4 := Xb4_1.2.1
  have ll4 := Xb4_1.1
  have cc5 := Xb5_1.2.1
  have ll5 := Xb5_1.1
  have lm5_0 : w.heap.size < w1.heap.size := by have := ll5; omega
  go_wp2_with fail
  refine (HC.out _ (by go_grown)).mono ?_
  rintro e w2 ⟨rfl, hb2⟩
  have Xb4_2 : Box w2 w.heap.size #[.slice sa ss.length sc, .slice ga gs.length gc, .slice pa ps.length pc] := Box.below Xb4_1 hb2
  have Xb8_2 : Box w2 (w.heap.size + 1 + 1) #[.int .i64 0, .int .i64 0] := Box.below Xb8_1 hb2
  have hB2 : Below w.heap.size w w2 := stepB (by go_grown) hb2
  have hs2 := hB2.size
  clear hb2 hB1 hs1 Xb4_1 Xb5_1 Xb8_1 cc4 ll4 cc5 ll5 lm5_0
  have cc4 := Xb4_2.2.1
  have ll4 := Xb4_2.1
  go_wp2_with fail
  refine (HS.out _ (by go_grown)).mono ?_
  rintro e w3 ⟨rfl, hb3⟩
  have Xb8_3 : Box w3 (w.heap.size + 1 + 1) #[.int .i64 0, .int .i64 0] := Box.below Xb8_2 hb3
  have hB3 : Below w.heap.size w w3 := stepB (by go_grown) hb3
  have hs3 := hB3.size
  clear hb3 hB2 hs2 Xb4_2 Xb8_2 cc4 ll4
  have cc8 := Xb8_3.2.1
  have ll8 := Xb8_3.1
  have ff8 := Xb8_3.2.2
  have lm8_0 : w.heap.size < w3.heap.size := by have := ll8; omega
  have lm8_1 : w.heap.size + 1 < w3.heap.size := by have := ll8; omega
  go_wp2
  refine bodyPost_ret (v := .tuple #[spanV (0) (0), .int .i64 3]) (by simp [results, Try.results32, go_sem, spanV, cc8, ll8]) rfl ⟨rfl, by go_grown⟩

set_option maxRecDepth 100000 in
set_option maxHeartbeats 4000000 in
theorem rlim_3 (w : World) (nut : Bool) (pl gr size : Int) (ss : List Int) (gs ps : List (List Int)) (sa ga pa : Option Addr) (sc gc pc : Nat) (k : Nat) (lo hi : Int) (HK : Hid (∀ W : World, Below w.heap.size w W → Calls Try.prog 34 #[.agg #[.slice sa ss.length sc, .slice ga gs.length gc, .slice pa ps.length pc]] W fun e w' => e = .returned (.int .i64 0) ∧ Below W.heap.size W w')) (HC : Hid (∀ W : World, Below w.heap.size w W → Calls Try.prog 52 #[.agg #[.slice sa ss.length sc, .slice ga gs.length gc, .slice pa ps.length pc], .agg #[.int .i64 pl, .int .i64 gr]] W fun e w' => e = .returned (.bool true) ∧ Below W.heap.size W w')) (HS : Hid (∀ W : World, Below w.heap.size w W → Calls Try.prog 49 #[.agg #[.slice sa ss.length sc, .slice ga gs.length gc, .slice pa ps.length pc], .int .i64 size] W fun e w' => e = .returned (.tuple #[.int .i64 (k : Nat), .bool true]) ∧ Below W.heap.size W w')) (HZ : Hid (∀ W : World, Below w.heap.size w W → Calls Try.prog 97 #[.agg #[.slice sa ss.length sc, .slice ga gs.length gc, .slice pa ps.length pc], .agg #[.int .i64 pl, .int .i64 gr], .bool nut, .int .i64 size, .int .i64 (k : Nat)] W fun e w' => e = .returned (spanV lo hi) ∧ Below W.heap.size W w')) :
    Calls Try.prog 32 #[.agg #[.slice sa ss.length sc, .slice ga gs.length gc, .slice pa ps.length pc], .agg #[.int .i64 pl, .int .i64 gr], .bool nut, .int .i64 size] w fun e w' => e = .returned (.tuple #[spanV (lo) (hi), .int .i64 0]) ∧ Below w.heap.size w w' := by
  go_enter Try.func32, Try.ntmps32
  go_wp2_with fail
  refine (HK.out _ (by go_grown)).mono ?_
  rintro e w1 ⟨rfl, hb1⟩
  have Xb4_1 : Box w1 w.heap.size #[.slice sa ss.length sc, .slice ga gs.length gc, .slice pa ps.length pc] := Box.below (Box.alloc (Box.alloc (Box.new w _ _) _) _) hb1
  have Xb5_1 : Box w1 (w.heap.size + 1) #[.int .i64 pl, .int .i64 gr] := Box.below (Box.alloc (Box.newAt (w.alloc _) _ _ (by simp)) _) hb1
  have Xb8_1 : Box w1 (w.heap.size + 1 + 1) #[.int .i64 0, .int .i64 0] := Box.below (Box.newAt ((w.alloc _).alloc _) _ _ (by simp)) hb1
  have hB1 : Below w.heap.size w w1 := stepB (by go_grown) hb1
  have hs1 := hB1.size
  clear hb1
  have cc4 := Xb4_1.2.1
  have ll4 := Xb4_1.1
  have cc5 := Xb5_1.2.1
  have ll5 := Xb5_1.1
  have lm5_0 : w.heap.size < w1.heap.size := by have := ll5; omega
  go_wp2_with fail
  refine (HC.out _ (by go_grown)).mono ?_
  rintro e w2 ⟨rfl, hb2⟩
  have Xb4_2 : Box w2 w.heap.size #[.slice sa ss.length sc, .slice ga gs.length gc, .slice pa ps.length pc] := Box.below Xb4_1 hb2
  have Xb5_2 : Box w2 (w.heap.size + 1) #[.int .i64 pl, .int .i64 gr] := Box.below Xb5_1 hb2
  have Xb8_2 : Box w2 (w.heap.size + 1 + 1) #[.int .i64 0, .int .i64 0] := Box.below Xb8_1 hb2
  have hB2 : Below w.heap.size w w2 := stepB (by go_grown) hb2
  have hs2 := hB2.size
  clear hb2 hB1 hs1 Xb4_1 Xb5_1 Xb8_1 cc4 ll4 cc5 ll5 lm5_0
  have cc4 := Xb4_2.2.1
  have ll4 := Xb4_2.1
  go_wp2_with fail
  refine (HS.out _ (by go_grown)).mono ?_
  rintro e w3 ⟨rfl, hb3⟩
  have Xb4_3 : Box w3 w.heap.size #[.slice sa ss.length sc, .slice ga gs.length gc, .slice pa ps.length pc] := Box.below Xb4_2 hb3
  have Xb5_3 : Box w3 (w.heap.size + 1) #[.int .i64 pl, .int .i64 gr] := Box.below Xb5_2 hb3
  have Xb8_3 : Box w3 (w.heap.size + 1 + 1) #[.int .i64 0, .int .i64 0] := Box.below Xb8_2 hb3
  have hB3 : Below w.heap.size w w3 := stepB (by go_grown) hb3
  have hs3 := hB3.size
  clear hb3 hB2 hs2 Xb4_2 Xb5_2 Xb8_2 cc4 ll4
  have cc4 := Xb4_3.2.1
  have ll4 := Xb4_3.1
  have cc5 := Xb5_3.2.1
  have ll5 := Xb5_3.1
  have lm5_0 : w.heap.size < w3.heap.size := by have := ll5; omega
  go_wp2_with fail
  refine (HZ.out _ (by go_grown)).mono ?_
  rintro e w4 ⟨rfl, hb4⟩
  have Xb8_4 : Box w4 (w.heap.size + 1 + 1) #[.int .i64 0, .int .i64 0] := Box.below Xb8_3 hb4
  have hB4 : Below w.heap.size w w4 := stepB (by go_grown) hb4
  have hs4 := hB4.size
  clear hb4 hB3 hs3 Xb4_3 Xb5_3 Xb8_3 cc4 ll4 cc5 ll5 lm5_0
  have cc8 := Xb8_4.2.1
  have ll8 := Xb8_4.1
  have ff8 := Xb8_4.2.2
  have lm8_0 : w.heap.size < w4.heap.size := by have := ll8; omega
  have lm8_1 : w.heap.size + 1 < w4.heap.size := by have := ll8; omega
  unfold spanV
  go_wp2
  refine bodyPost_ret (v := .tuple #[spanV (lo) (hi), .int .i64 0]) (by simp [results, Try.results32, go_sem, spanV, cc8, ll8]) rfl ⟨rfl, by go_grown⟩

theorem rlimits_any (nut : Bool) (pl gr size : Int) (ss : List Int) (gs ps : List (List Int)) (sa ga pa : Option Addr) (sc gc pc : Nat) (w : World) (m1 : ss.length ≤ 4611686018427387904) (m2 : gs.length ≤ 4611686018427387904) (m3 : ps.length ≤ 4611686018427387904) (hs : SlA IntE w sa ss) (hg : SlA IntsAt w ga gs) (hp : SlA IntsAt w pa ps) :
    Calls Try.prog 32 #[.agg #[.slice sa ss.length sc, .slice ga gs.length gc, .slice pa ps.length pc], .agg #[.int .i64 pl, .int .i64 gr], .bool nut, .int .i64 size] w fun e w' => e = .returned (.tuple #[spanV (limLo ss gs ps pl gr nut size) (limHi ss gs ps pl gr nut size), .int .i64 (limE ss gs ps pl gr size)]) ∧ Below w.heap.size w w' := by
  have HK := fun (W : World) (hB : Below w.heap.size w W) => rcheck_any W ss gs ps sa ga pa sc gc pc m1 m2 m3 (hs.below intE_stable hB) (hg.below ints_stable hB) (hp.below ints_stable hB)
  have HC := fun (W : World) (_ : Below w.heap.size w W) => rclass_any ss gs ps sa ga pa sc gc pc pl gr m2 m3 W
  have HS := fun (W : World) (hB : Below w.heap.size w W) => rstep_any ss gs ps sa ga pa sc gc pc size W m1 (hs.below intE_stable hB)
  by_cases hc : checkN ss gs ps = 0
  · rw [hc] at HK
    obtain ⟨_, _, hst, _⟩ := check_parts hc
    have hst1 := (steps_parts hst).1
    cases hcl : classB gs ps (pl, gr)
    · rw [hcl] at HC
      have e : limE ss gs ps pl gr size = 7 := by unfold limE; rw [if_neg (by omega), if_pos hcl]
      unfold limLo limHi
      rw [e, if_neg (by decide), if_neg (by decide)]
      exact rlim_1 w nut pl gr size ss gs ps sa ga pa sc gc pc (Lib.hid HK) (Lib.hid HC)
    · rw [hcl] at HC
      have e : limE ss gs ps pl gr size = colE ss size := by unfold limE; rw [if_neg (by omega), if_neg (by rw [hcl]; decide)]
      unfold stepO at HS
      by_cases he : colE ss size = 0
      · obtain ⟨g1, g2⟩ := col_ok he
        have g3 := size_le hst1 g2
        unfold limLo limHi
        rw [e, he, if_pos rfl, if_pos rfl]
        rw [if_pos ⟨g1, g2⟩] at HS
        have HZ := fun (W : World) (hB : Below w.heap.size w W) => rzone_any nut pl gr size (stepN ss size) ss gs ps sa ga pa sc gc pc W m1 m2 m3 (hs.below intE_stable hB) (hg.below ints_stable hB) (hp.below ints_stable hB) hc hcl g2 (by omega) g3
        exact rlim_3 w nut pl gr size ss gs ps sa ga pa sc gc pc _ _ _ (Lib.hid HK) (Lib.hid HC) (Lib.hid HS) (Lib.hid HZ)
      · have he3 : colE ss size = 3 := by unfold colE at he ⊢; split at he <;> simp_all
        have hn : ¬ (1 ≤ size ∧ stepN ss size < ss.length) := fun h => he (by unfold colE; rw [if_neg (by omega)])
        unfold limLo limHi
        rw [e, he3, if_neg (by decide), if_neg (by decide)]
        rw [if_neg hn] at HS
        exact rlim_2 w nut pl gr size ss gs ps sa ga pa sc gc pc (Lib.hid HK) (Lib.hid HC) (Lib.hid HS)
  · have e : limE ss gs ps pl gr size = checkN ss gs ps := by unfold limE; rw [if_pos hc]
    unfold limLo limHi
    rw [e, if_neg hc, if_neg hc]
    exact rlim_0 w nut pl gr size ss gs ps sa ga pa sc gc pc _ (beq_false_of_ne hc) (by simpa using hc) (Lib.hid HK)

end Go.Proofs.Ytpmeahmjmpgbfaa
