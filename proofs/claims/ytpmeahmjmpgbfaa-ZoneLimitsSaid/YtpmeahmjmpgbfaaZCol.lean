/- Contracts of columns and of zones. Made by tools/gen_zcheck.py. -/
import Derived.Test.YtpmeahmjmpgbfaaZSearch
namespace Go.Proofs.Ytpmeahmjmpgbfaa
open Go.RowKit
set_option linter.unusedVariables false
set_option linter.unusedSimpArgs false

/-- The number k of row i. -/
def numN (rows : List (List Int)) (i : Int) (k : Nat) : Int := (rows[i.toNat]?.getD [])[k]?.getD 0
/-- A number of a table in memory. -/
def NumAt (w : World) (a : Option Addr) (i k : Nat) (v : Int) : Prop := ∃ b off rb ro rl rc, a = some ⟨b, off, none⟩ ∧ b < w.heap.size ∧ w.cell? ⟨b, off + i, none⟩ = some (.slice (some ⟨rb, ro, none⟩) rl rc) ∧ rb < w.heap.size ∧ k < rl ∧ rl ≤ 4611686018427387904 ∧ w.cell? ⟨rb, ro + k, none⟩ = some (.int .i64 v)
theorem numAt_of {w : World} {a : Option Addr} {rows : List (List Int)} {i k : Nat} {r : List Int} {v : Int} (h : SlA IntsAt w a rows) (hr : rows[i]? = some r) (hv : r[k]? = some v) : NumAt w a i k v := by
  rcases h with rfl | ⟨b, off, rfl, hb, hc⟩
  · simp at hr
  obtain ⟨u, hu, a', cap, rfl, hm, hs⟩ := hc i r hr
  rcases hs with rfl | ⟨rb, ro, rfl, hrb, hrc⟩
  · simp at hv
  obtain ⟨x, hx, rfl⟩ := hrc k v hv
  have hk : k < r.length := by
    rcases Nat.lt_or_ge k r.length with h | h
    · exact h
    · rw [List.getElem?_eq_none h] at hv; cases hv
  exact ⟨b, off, rb, ro, r.length, cap, rfl, hb, hu, hrb, hk, hm, hx⟩

set_option maxHeartbeats 2000000 in
theorem zallow_any (i k : Nat) (v gr : Int) (ss : List Int) (gs ps : List (List Int)) (sa ga pa : Option Addr) (sc gc pc : Nat) (w : World) (m1 : ss.length ≤ 4611686018427387904) (m2 : gs.length ≤ 4611686018427387904) (m3 : ps.length ≤ 4611686018427387904) (hi : i < ps.length) (hk : k ≤ 4611686018427387904) (h : NumAt w pa i k v) :
    Calls Try.prog 142 #[.agg #[.slice sa ss.length sc, .slice ga gs.length gc, .slice pa ps.length pc, .int .i64 k], .agg #[.int .i64 i, .int .i64 gr]] w fun e w' => e = .returned (.int .i64 v) ∧ Below w.heap.size w w' := by
  obtain ⟨b, off, rb, ro, rl, rc, rfl, hb, hc, hrb, hkl, hrl, hv⟩ := h
  go_enter Try.func142, Try.ntmps142
  go_wp2
  go_region
  go_wp2
  go_returns
  exact ⟨rfl, by go_grown⟩

set_option maxHeartbeats 2000000 in
theorem zwidth_any (i k : Nat) (v pl : Int) (ss : List Int) (gs ps : List (List Int)) (sa ga pa : Option Addr) (sc gc pc : Nat) (w : World) (m1 : ss.length ≤ 4611686018427387904) (m2 : gs.length ≤ 4611686018427387904) (m3 : ps.length ≤ 4611686018427387904) (hi : i < gs.length) (hk : k ≤ 4611686018427387904) (h : NumAt w ga i k v) :
    Calls Try.prog 109 #[.agg #[.slice sa ss.length sc, .slice ga gs.length gc, .slice pa ps.length pc, .int .i64 k], .agg #[.int .i64 pl, .int .i64 i]] w fun e w' => e = .returned (.int .i64 v) ∧ Below w.heap.size w w' := by
  obtain ⟨b, off, rb, ro, rl, rc, rfl, hb, hc, hrb, hkl, hrl, hv⟩ := h
  go_enter Try.func109, Try.ntmps109
  go_wp2
  go_region
  go_wp2
  go_returns
  exact ⟨rfl, by go_grown⟩

set_option maxRecDepth 100000 in
set_option maxHeartbeats 2000000 in
theorem zone_1 (w : World) (c0 c1 c2 c3 : Value) (pl gr size al wd : Int) (z0 : 0 ≤ size) (z1 : size ≤ 10000000) (a0 : -100000 ≤ al) (a1 : al ≤ 100000) (d0 : 0 ≤ wd) (d1 : wd ≤ 100000) (HA : Hid (∀ W : World, Below w.heap.size w W → Calls Try.prog 142 #[.agg #[c0, c1, c2, c3], .agg #[.int .i64 pl, .int .i64 gr]] W fun e w' => e = .returned (.int .i64 al) ∧ Below W.heap.size W w')) (HW : Hid (∀ W : World, Below w.heap.size w W → Calls Try.prog 109 #[.agg #[c0, c1, c2, c3], .agg #[.int .i64 pl, .int .i64 gr]] W fun e w' => e = .returned (.int .i64 wd) ∧ Below W.heap.size W w')) :
    Calls Try.prog 96 #[.agg #[c0, c1, c2, c3], .agg #[.int .i64 pl, .int .i64 gr], .bool true, .int .i64 size] w fun e w' => e = .returned (spanV (size + al) (size + al + wd)) ∧ Below w.heap.size w w' := by
  go_enter Try.func96, Try.ntmps96
  go_wp2_with fail
  refine (HA.out _ (by go_grown)).mono ?_
  rintro e w1 ⟨rfl, hb1⟩
  have Xb4_1 : Box w1 w.heap.size #[c0, c1, c2, c3] := Box.below (Box.alloc (Box.alloc (Box.new w _ _) _) _) hb1
  have Xb5_1 : Box w1 (w.heap.size + 1) #[.int .i64 pl, .int .i64 gr] := Box.below (Box.alloc (Box.newAt (w.alloc _) _ _ (by simp)) _) hb1
  have Xb8_1 : Box w1 (w.heap.size + 1 + 1) #[.int .i64 0, .int .i64 0] := Box.below (Box.newAt ((w.alloc _).alloc _) _ _ (by simp)) hb1
  have hB1 : Below w.heap.size w w1 := stepB (by go_grown) hb1
  have hs1 := hB1.size
  clear hb1
  have cc4 := Xb4_1.2.1
  have ll4 := Xb4_1.1
  have cc5 := Xb5_1.2.1
  have ll5 := Xb5_1.1
  have lm5_0 : w.heap.size < w1.heap.size := by have := ll5; omega
  go_wp2_with fail
  refine (HW.out _ (by go_grown)).mono ?_
  rintro e w2 ⟨rfl, hb2⟩
  have Xb8_2 : Box w2 (w.heap.size + 1 + 1) #[.int .i64 0, .int .i64 0] := Box.below Xb8_1 hb2
  have hB2 : Below w.heap.size w w2 := stepB (by go_grown) hb2
  have hs2 := hB2.size
  clear hb2 hB1 hs1 Xb4_1 Xb5_1 Xb8_1 cc4 ll4 cc5 ll5 lm5_0
  go_wp2_with fail
  refine (spanOf_any _ _ _).mono ?_
  rintro e w3 ⟨rfl, hb3⟩
  have Xb8_3 : Box w3 (w.heap.size + 1 + 1) #[.int .i64 0, .int .i64 0] := Box.below Xb8_2 hb3
  have hB3 : Below w.heap.size w w3 := stepB (by go_grown) hb3
  have hs3 := hB3.size
  clear hb3 hB2 hs2 Xb8_2
  have cc8 := Xb8_3.2.1
  have ll8 := Xb8_3.1
  have ff8 := Xb8_3.2.2
  have lm8_0 : w.heap.size < w3.heap.size := by have := ll8; omega
  have lm8_1 : w.heap.size + 1 < w3.heap.size := by have := ll8; omega
  unfold spanV
  go_wp2
  refine bodyPost_ret (v := spanV (size + al) (size + al + wd)) (by simp [results, Try.results96, go_sem, spanV, cc8, ll8]) rfl ⟨rfl, by go_grown⟩

set_option maxRecDepth 100000 in
set_option maxHeartbeats 2000000 in
theorem zone_0 (w : World) (c0 c1 c2 c3 : Value) (pl gr size al wd : Int) (z0 : 0 ≤ size) (z1 : size ≤ 10000000) (a0 : -100000 ≤ al) (a1 : al ≤ 100000) (d0 : 0 ≤ wd) (d1 : wd ≤ 100000) (HA : Hid (∀ W : World, Below w.heap.size w W → Calls Try.prog 142 #[.agg #[c0, c1, c2, c3], .agg #[.int .i64 pl, .int .i64 gr]] W fun e w' => e = .returned (.int .i64 al) ∧ Below W.heap.size W w')) (HW : Hid (∀ W : World, Below w.heap.size w W → Calls Try.prog 109 #[.agg #[c0, c1, c2, c3], .agg #[.int .i64 pl, .int .i64 gr]] W fun e w' => e = .returned (.int .i64 wd) ∧ Below W.heap.size W w')) :
    Calls Try.prog 96 #[.agg #[c0, c1, c2, c3], .agg #[.int .i64 pl, .int .i64 gr], .bool false, .int .i64 size] w fun e w' => e = .returned (spanV (size - al - wd) (size - al)) ∧ Below w.heap.size w w' := by
  go_enter Try.func96, Try.ntmps96
  go_wp2_with fail
  refine (HA.out _ (by go_grown)).mono ?_
  rintro e w1 ⟨rfl, hb1⟩
  have Xb4_1 : Box w1 w.heap.size #[c0, c1, c2, c3] := Box.below (Box.alloc (Box.alloc (Box.new w _ _) _) _) hb1
  have Xb5_1 : Box w1 (w.heap.size + 1) #[.int .i64 pl, .int .i64 gr] := Box.below (Box.alloc (Box.newAt (w.alloc _) _ _ (by simp)) _) hb1
  have Xb8_1 : Box w1 (w.heap.size + 1 + 1) #[.int .i64 0, .int .i64 0] := Box.below (Box.newAt ((w.alloc _).alloc _) _ _ (by simp)) hb1
  have hB1 : Below w.heap.size w w1 := stepB (by go_grown) hb1
  have hs1 := hB1.size
  clear hb1
  have cc4 := Xb4_1.2.1
  have ll4 := Xb4_1.1
  have cc5 := Xb5_1.2.1
  have ll5 := Xb5_1.1
  have lm5_0 : w.heap.size < w1.heap.size := by have := ll5; omega
  go_wp2_with fail
  refine (HW.out _ (by go_grown)).mono ?_
  rintro e w2 ⟨rfl, hb2⟩
  have Xb8_2 : Box w2 (w.heap.size + 1 + 1) #[.int .i64 0, .int .i64 0] := Box.below Xb8_1 hb2
  have hB2 : Below w.heap.size w w2 := stepB (by go_grown) hb2
  have hs2 := hB2.size
  clear hb2 hB1 hs1 Xb4_1 Xb5_1 Xb8_1 cc4 ll4 cc5 ll5 lm5_0
  go_wp2_with fail
  refine (spanOf_any _ _ _).mono ?_
  rintro e w3 ⟨rfl, hb3⟩
  have Xb8_3 : Box w3 (w.heap.size + 1 + 1) #[.int .i64 0, .int .i64 0] := Box.below Xb8_2 hb3
  have hB3 : Below w.heap.size w w3 := stepB (by go_grown) hb3
  have hs3 := hB3.size
  clear hb3 hB2 hs2 Xb8_2
  have cc8 := Xb8_3.2.1
  have ll8 := Xb8_3.1
  have ff8 := Xb8_3.2.2
  have lm8_0 : w.heap.size < w3.heap.size := by have := ll8; omega
  have lm8_1 : w.heap.size + 1 < w3.heap.size := by have := ll8; omega
  unfold spanV
  go_wp2
  refine bodyPost_ret (v := spanV (size - al - wd) (size - al)) (by simp [results, Try.results96, go_sem, spanV, cc8, ll8]) rfl ⟨rfl, by go_grown⟩

/-- The zone of a class. -/
def zoLo (nut : Bool) (size al wd : Int) : Int := if nut then size + al else size - al - wd
def zoHi (nut : Bool) (size al wd : Int) : Int := if nut then size + al + wd else size - al

set_option maxRecDepth 100000 in
set_option maxHeartbeats 2000000 in
theorem col_0 (w : World) (ss : List Int) (gs ps : List (List Int)) (sa ga pa : Option Addr) (sc gc pc : Nat) (size : Int) (r : Nat) (m1 : ss.length ≤ 4611686018427387904) (m2 : gs.length ≤ 4611686018427387904) (m3 : ps.length ≤ 4611686018427387904) (HB : Hid (∀ W : World, Below w.heap.size w W → Calls Try.prog 141 #[.slice sa ss.length sc, .int .i64 size] W (BsP r W))) (h1 : size < 1) :
    Calls Try.prog 95 #[.agg #[.slice sa ss.length sc, .slice ga gs.length gc, .slice pa ps.length pc], .int .i64 size] w fun e w' => e = .returned (.tuple #[.agg #[.slice none 0 0, .slice none 0 0, .slice none 0 0, .int .i64 0], .int .i64 3]) ∧ Below w.heap.size w w' := by
  go_enter Try.func95, Try.ntmps95
  go_wp2_with fail
  refine (HB.out _ (by go_grown)).mono ?_
  rintro e w9 ⟨⟨fd, rfl⟩, rfl⟩
  go_wp2
  refine bodyPost_ret (v := .tuple #[.agg #[.slice none 0 0, .slice none 0 0, .slice none 0 0, .int .i64 0], .int .i64 3]) (by simp [results, Try.results95, go_sem, spanV, ]) rfl ⟨rfl, by go_grown⟩

set_option maxRecDepth 100000 in
set_option maxHeartbeats 2000000 in
theorem col_1 (w : World) (ss : List Int) (gs ps : List (List Int)) (sa ga pa : Option Addr) (sc gc pc : Nat) (size : Int) (r : Nat) (m1 : ss.length ≤ 4611686018427387904) (m2 : gs.length ≤ 4611686018427387904) (m3 : ps.length ≤ 4611686018427387904) (HB : Hid (∀ W : World, Below w.heap.size w W → Calls Try.prog 141 #[.slice sa ss.length sc, .int .i64 size] W (BsP r W))) (h1 : 1 ≤ size) (h2 : ((r : Int) == (ss.length : Int)) = true) :
    Calls Try.prog 95 #[.agg #[.slice sa ss.length sc, .slice ga gs.length gc, .slice pa ps.length pc], .int .i64 size] w fun e w' => e = .returned (.tuple #[.agg #[.slice none 0 0, .slice none 0 0, .slice none 0 0, .int .i64 0], .int .i64 3]) ∧ Below w.heap.size w w' := by
  go_enter Try.func95, Try.ntmps95
  go_wp2_with fail
  refine (HB.out _ (by go_grown)).mono ?_
  rintro e w9 ⟨⟨fd, rfl⟩, rfl⟩
  go_wp2
  refine bodyPost_ret (v := .tuple #[.agg #[.slice none 0 0, .slice none 0 0, .slice none 0 0, .int .i64 0], .int .i64 3]) (by simp [results, Try.results95, go_sem, spanV, ]) rfl ⟨rfl, by go_grown⟩

set_option maxRecDepth 100000 in
set_option maxHeartbeats 2000000 in
theorem col_2 (w : World) (ss : List Int) (gs ps : List (List Int)) (sa ga pa : Option Addr) (sc gc pc : Nat) (size : Int) (r : Nat) (m1 : ss.length ≤ 4611686018427387904) (m2 : gs.length ≤ 4611686018427387904) (m3 : ps.length ≤ 4611686018427387904) (HB : Hid (∀ W : World, Below w.heap.size w W → Calls Try.prog 141 #[.slice sa ss.length sc, .int .i64 size] W (BsP r W))) (h1 : 1 ≤ size) (h2 : ((r : Int) == (ss.length : Int)) = false) :
    Calls Try.prog 95 #[.agg #[.slice sa ss.length sc, .slice ga gs.length gc, .slice pa ps.length pc], .int .i64 size] w fun e w' => e = .returned (.tuple #[.agg #[.slice sa ss.length sc, .slice ga gs.length gc, .slice pa ps.length pc, .int .i64 r], .int .i64 0]) ∧ Below w.heap.size w w' := by
  go_enter Try.func95, Try.ntmps95
  go_wp2_with fail
  refine (HB.out _ (by go_grown)).mono ?_
  rintro e w9 ⟨⟨fd, rfl⟩, rfl⟩
  go_wp2
  refine bodyPost_ret (v := .tuple #[.agg #[.slice sa ss.length sc, .slice ga gs.length gc, .slice pa ps.length pc, .int .i64 r], .int .i64 0]) (by simp [results, Try.results95, go_sem, spanV, ]) rfl ⟨rfl, by go_grown⟩

set_option maxRecDepth 100000 in
set_option maxHeartbeats 2000000 in
theorem limits_0 (w : World) (nut : Bool) (pl gr size : Int) (ss : List Int) (gs ps : List (List Int)) (sa ga pa : Option Addr) (sc gc pc : Nat) (k : Int) (h1 : (k == 0) = false) (h2 : (k != 0) = true) (HK : Hid (∀ W : World, Below w.heap.size w W → Calls Try.prog 29 #[.agg #[.slice sa ss.length sc, .slice ga gs.length gc, .slice pa ps.length pc]] W fun e w' => e = .returned (.int .i64 k) ∧ Below W.heap.size W w')) :
    Calls Try.prog 30 #[.agg #[.slice sa ss.length sc, .slice ga gs.length gc, .slice pa ps.length pc], .agg #[.int .i64 pl, .int .i64 gr], .bool nut, .int .i64 size] w fun e w' => e = .returned (.tuple #[.agg #[.int .i64 0, .int .i64 0], .int .i64 k]) ∧ Below w.heap.size w w' := by
  go_enter Try.func30, Try.ntmps30
  go_wp2_with fail
  refine (HK.out _ (by go_grown)).mono ?_
  rintro e w1 ⟨rfl, hb1⟩
  have Xb8_1 : Box w1 (w.heap.size + 1 + 1) #[.int .i64 0, .int .i64 0] := Box.below (Box.newAt ((w.alloc _).alloc _) _ _ (by simp)) hb1
  have hB1 : Below w.heap.size w w1 := stepB (by go_grown) hb1
  have hs1 := hB1.size
  clear hb1
  have cc8 := Xb8_1.2.1
  have ll8 := Xb8_1.1
  have ff8 := Xb8_1.2.2
  have lm8_0 : w.heap.size < w1.heap.size := by have := ll8; omega
  have lm8_1 : w.heap.size + 1 < w1.heap.size := by have := ll8; omega
  go_wp2
  refine bodyPost_ret (v := .tuple #[.agg #[.int .i64 0, .int .i64 0], .int .i64 k]) (by simp [results, Try.results30, go_sem, spanV, cc8, ll8]) rfl ⟨rfl, by go_grown⟩

set_option maxRecDepth 100000 in
set_option maxHeartbeats 2000000 in
theorem limits_1 (w : World) (nut : Bool) (pl gr size : Int) (ss : List Int) (gs ps : List (List Int)) (sa ga pa : Option Addr) (sc gc pc : Nat) (HK : Hid (∀ W : World, Below w.heap.size w W → Calls Try.prog 29 #[.agg #[.slice sa ss.length sc, .slice ga gs.length gc, .slice pa ps.length pc]] W fun e w' => e = .returned (.int .i64 0) ∧ Below W.heap.size W w')) (HH : Hid (∀ (W : World) (b : Nat), Below w.heap.size w W → b < W.heap.size → W.cell? ⟨b, 0, none⟩ = some (.int .i64 pl) → W.cell? ⟨b, 1, none⟩ = some (.int .i64 gr) → Calls Try.prog 94 #[.agg #[.slice sa ss.length sc, .slice ga gs.length gc, .slice pa ps.length pc], .slice (some ⟨b, 0, none⟩) 1 1] W fun e w' => e = .returned (.bool false) ∧ Below W.heap.size W w')) :
    Calls Try.prog 30 #[.agg #[.slice sa ss.length sc, .slice ga gs.length gc, .slice pa ps.length pc], .agg #[.int .i64 pl, .int .i64 gr], .bool nut, .int .i64 size] w fun e w' => e = .returned (.tuple #[.agg #[.int .i64 0, .int .i64 0], .int .i64 7]) ∧ Below w.heap.size w w' := by
  go_enter Try.func30, Try.ntmps30
  go_wp2_with fail
  refine (HK.out _ (by go_grown)).mono ?_
  rintro e w1 ⟨rfl, hb1⟩
  have Xb4_1 : Box w1 w.heap.size #[.slice sa ss.length sc, .slice ga gs.length gc, .slice pa ps.length pc] := Box.below (Box.alloc (Box.alloc (Box.new w _ _) _) _) hb1
  have Xb5_1 : Box w1 (w.heap.size + 1) #[.int .i64 pl, .int .i64 gr] := Box.below (Box.alloc (Box.newAt (w.alloc _) _ _ (by simp)) _) hb1
  have Xb8_1 : Box w1 (w.heap.size + 1 + 1) #[.int .i64 0, .int .i64 0] := Box.below (Box.newAt ((w.alloc _).alloc _) _ _ (by simp)) hb1
  have hB1 : Below w.heap.size w w1 := stepB (by go_grown) hb1
  have hs1 := hB1.size
  clear hb1
  have cc4 := Xb4_1.2.1
  have ll4 := Xb4_1.1
  have cc5 := Xb5_1.2.1
  have ll5 := Xb5_1.1
  have lm5_0 : w.heap.size < w1.heap.size := by have := ll5; omega
  go_wp2_with fail
  refine (HH.out _ _ (by go_grown) (by simp) (by go_cell) (by go_cell)).mono ?_
  rintro e w2 ⟨rfl, hb2⟩
  have Xb8_2 : Box w2 (w.heap.size + 1 + 1) #[.int .i64 0, .int .i64 0] := Box.below (Box.alloc Xb8_1 _) hb2
  have hB2 : Below w.heap.size w w2 := stepB (by go_grown) hb2
  have hs2 := hB2.size
  clear hb2 hB1 hs1 Xb4_1 Xb5_1 Xb8_1 cc4 ll4 cc5 ll5 lm5_0
  have cc8 := Xb8_2.2.1
  have ll8 := Xb8_2.1
  have ff8 := Xb8_2.2.2
  have lm8_0 : w.heap.size < w2.heap.size := by have := ll8; omega
  have lm8_1 : w.heap.size + 1 < w2.heap.size := by have := ll8; omega
  go_wp2
  refine bodyPost_ret (v := .tuple #[.agg #[.int .i64 0, .int .i64 0], .int .i64 7]) (by simp [results, Try.results30, go_sem, spanV, cc8, ll8]) rfl ⟨rfl, by go_grown⟩

set_option maxRecDepth 100000 in
set_option maxHeartbeats 2000000 in
theorem limits_2 (w : World) (nut : Bool) (pl gr size : Int) (ss : List Int) (gs ps : List (List Int)) (sa ga pa : Option Addr) (sc gc pc : Nat) (HK : Hid (∀ W : World, Below w.heap.size w W → Calls Try.prog 29 #[.agg #[.slice sa ss.length sc, .slice ga gs.length gc, .slice pa ps.length pc]] W fun e w' => e = .returned (.int .i64 0) ∧ Below W.heap.size W w')) (HH : Hid (∀ (W : World) (b : Nat), Below w.heap.size w W → b < W.heap.size → W.cell? ⟨b, 0, none⟩ = some (.int .i64 pl) → W.cell? ⟨b, 1, none⟩ = some (.int .i64 gr) → Calls Try.prog 94 #[.agg #[.slice sa ss.length sc, .slice ga gs.length gc, .slice pa ps.length pc], .slice (some ⟨b, 0, none⟩) 1 1] W fun e w' => e = .returned (.bool true) ∧ Below W.heap.size W w')) (HL : Hid (∀ W : World, Below w.heap.size w W → Calls Try.prog 95 #[.agg #[.slice sa ss.length sc, .slice ga gs.length gc, .slice pa ps.length pc], .int .i64 size] W fun e w' => e = .returned (.tuple #[.agg #[.slice none 0 0, .slice none 0 0, .slice none 0 0, .int .i64 0], .int .i64 3]) ∧ Below W.heap.size W w')) :
    Calls Try.prog 30 #[.agg #[.slice sa ss.length sc, .slice ga gs.length gc, .slice pa ps.length pc], .agg #[.int .i64 pl, .int .i64 gr], .bool nut, .int .i64 size] w fun e w' => e = .returned (.tuple #[.agg #[.int .i64 0, .int .i64 0], .int .i64 3]) ∧ Below w.heap.size w w' := by
  go_enter Try.func30, Try.ntmps30
  go_wp2_with fail
  refine (HK.out _ (by go_grown)).mono ?_
  rintro e w1 ⟨rfl, hb1⟩
  have Xb4_1 : Box w1 w.heap.size #[.slice sa ss.length sc, .slice ga gs.length gc, .slice pa ps.length pc] := Box.below (Box.alloc (Box.alloc (Box.new w _ _) _) _) hb1
  have Xb5_1 : Box w1 (w.heap.size + 1) #[.int .i64 pl, .int .i64 gr] := Box.below (Box.alloc (Box.newAt (w.alloc _) _ _ (by simp)) _) hb1
  have Xb8_1 : Box w1 (w.heap.size + 1 + 1) #[.int .i64 0, .int .i64 0] := Box.below (Box.newAt ((w.alloc _).alloc _) _ _ (by simp)) hb1
  have hB1 : Below w.heap.size w w1 := stepB (by go_grown) hb1
  have hs1 := hB1.size
  clear hb1
  have cc4 := Xb4_1.2.1
  have ll4 := Xb4_1.1
  have cc5 := Xb5_1.2.1
  have ll5 := Xb5_1.1
  have lm5_0 : w.heap.size < w1.heap.size := by have := ll5; omega
  go_wp2_with fail
  refine (HH.out _ _ (by go_grown) (by simp) (by go_cell) (by go_cell)).mono ?_
  rintro e w2 ⟨rfl, hb2⟩
  have Xb4_2 : Box w2 w.heap.size #[.slice sa ss.length sc, .slice ga gs.length gc, .slice pa ps.length pc] := Box.below (Box.alloc Xb4_1 _) hb2
  have Xb8_2 : Box w2 (w.heap.size + 1 + 1) #[.int .i64 0, .int .i64 0] := Box.below (Box.alloc Xb8_1 _) hb2
  have hB2 : Below w.heap.size w w2 := stepB (by go_grown) hb2
  have hs2 := hB2.size
  clear hb2 hB1 hs1 Xb4_1 Xb5_1 Xb8_1 cc4 ll4 cc5 ll5 lm5_0
  have cc4 := Xb4_2.2.1
  have ll4 := Xb4_2.1
  go_wp2_with fail
  refine (HL.out _ (by go_grown)).mono ?_
  rintro e w3 ⟨rfl, hb3⟩
  have Xb8_3 : Box w3 (w.heap.size + 1 + 1) #[.int .i64 0, .int .i64 0] := Box.below Xb8_2 hb3
  have hB3 : Below w.heap.size w w3 := stepB (by go_grown) hb3
  have hs3 := hB3.size
  clear hb3 hB2 hs2 Xb4_2 Xb8_2 cc4 ll4
  have cc8 := Xb8_3.2.1
  have ll8 := Xb8_3.1
  have ff8 := Xb8_3.2.2
  have lm8_0 : w.heap.size < w3.heap.size := by have := ll8; omega
  have lm8_1 : w.heap.size + 1 < w3.heap.size := by have := ll8; omega
  go_wp2
  refine bodyPost_ret (v := .tuple #[.agg #[.int .i64 0, .int .i64 0], .int .i64 3]) (by simp [results, Try.results30, go_sem, spanV, cc8, ll8]) rfl ⟨rfl, by go_grown⟩

set_option maxRecDepth 100000 in
set_option maxHeartbeats 2000000 in
theorem limits_3 (w : World) (nut : Bool) (pl gr size : Int) (ss : List Int) (gs ps : List (List Int)) (sa ga pa : Option Addr) (sc gc pc : Nat) (r : Nat) (lo hi : Int) (HK : Hid (∀ W : World, Below w.heap.size w W → Calls Try.prog 29 #[.agg #[.slice sa ss.length sc, .slice ga gs.length gc, .slice pa ps.length pc]] W fun e w' => e = .returned (.int .i64 0) ∧ Below W.heap.size W w')) (HH : Hid (∀ (W : World) (b : Nat), Below w.heap.size w W → b < W.heap.size → W.cell? ⟨b, 0, none⟩ = some (.int .i64 pl) → W.cell? ⟨b, 1, none⟩ = some (.int .i64 gr) → Calls Try.prog 94 #[.agg #[.slice sa ss.length sc, .slice ga gs.length gc, .slice pa ps.length pc], .slice (some ⟨b, 0, none⟩) 1 1] W fun e w' => e = .returned (.bool true) ∧ Below W.heap.size W w')) (HL : Hid (∀ W : World, Below w.heap.size w W → Calls Try.prog 95 #[.agg #[.slice sa ss.length sc, .slice ga gs.length gc, .slice pa ps.length pc], .int .i64 size] W fun e w' => e = .returned (.tuple #[.agg #[.slice sa ss.length sc, .slice ga gs.length gc, .slice pa ps.length pc, .int .i64 r], .int .i64 0]) ∧ Below W.heap.size W w')) (HZ : Hid (∀ W : World, Below w.heap.size w W → Calls Try.prog 96 #[.agg #[.slice sa ss.length sc, .slice ga gs.length gc, .slice pa ps.length pc, .int .i64 r], .agg #[.int .i64 pl, .int .i64 gr], .bool nut, .int .i64 size] W fun e w' => e = .returned (spanV lo hi) ∧ Below W.heap.size W w')) :
    Calls Try.prog 30 #[.agg #[.slice sa ss.length sc, .slice ga gs.length gc, .slice pa ps.length pc], .agg #[.int .i64 pl, .int .i64 gr], .bool nut, .int .i64 size] w fun e w' => e = .returned (.tuple #[spanV lo hi, .int .i64 0]) ∧ Below w.heap.size w w' := by
  go_enter Try.func30, Try.ntmps30
  go_wp2_with fail
  refine (HK.out _ (by go_grown)).mono ?_
  rintro e w1 ⟨rfl, hb1⟩
  have Xb4_1 : Box w1 w.heap.size #[.slice sa ss.length sc, .slice ga gs.length gc, .slice pa ps.length pc] := Box.below (Box.alloc (Box.alloc (Box.new w _ _) _) _) hb1
  have Xb5_1 : Box w1 (w.heap.size + 1) #[.int .i64 pl, .int .i64 gr] := Box.below (Box.alloc (Box.newAt (w.alloc _) _ _ (by simp)) _) hb1
  have Xb8_1 : Box w1 (w.heap.size + 1 + 1) #[.int .i64 0, .int .i64 0] := Box.below (Box.newAt ((w.alloc _).alloc _) _ _ (by simp)) hb1
  have hB1 : Below w.heap.size w w1 := stepB (by go_grown) hb1
  have hs1 := hB1.size
  clear hb1
  have cc4 := Xb4_1.2.1
  have ll4 := Xb4_1.1
  have cc5 := Xb5_1.2.1
  have ll5 := Xb5_1.1
  have lm5_0 : w.heap.size < w1.heap.size := by have := ll5; omega
  go_wp2_with fail
  refine (HH.out _ _ (by go_grown) (by simp) (by go_cell) (by go_cell)).mono ?_
  rintro e w2 ⟨rfl, hb2⟩
  have Xb4_2 : Box w2 w.heap.size #[.slice sa ss.length sc, .slice ga gs.length gc, .slice pa ps.length pc] := Box.below (Box.alloc Xb4_1 _) hb2
  have Xb5_2 : Box w2 (w.heap.size + 1) #[.int .i64 pl, .int .i64 gr] := Box.below (Box.alloc Xb5_1 _) hb2
  have Xb8_2 : Box w2 (w.heap.size + 1 + 1) #[.int .i64 0, .int .i64 0] := Box.below (Box.alloc Xb8_1 _) hb2
  have hB2 : Below w.heap.size w w2 := stepB (by go_grown) hb2
  have hs2 := hB2.size
  clear hb2 hB1 hs1 Xb4_1 Xb5_1 Xb8_1 cc4 ll4 cc5 ll5 lm5_0
  have cc4 := Xb4_2.2.1
  have ll4 := Xb4_2.1
  go_wp2_with fail
  refine (HL.out _ (by go_grown)).mono ?_
  rintro e w3 ⟨rfl, hb3⟩
  have Xb5_3 : Box w3 (w.heap.size + 1) #[.int .i64 pl, .int .i64 gr] := Box.below Xb5_2 hb3
  have Xb8_3 : Box w3 (w.heap.size + 1 + 1) #[.int .i64 0, .int .i64 0] := Box.below Xb8_2 hb3
  have hB3 : Below w.heap.size w w3 := stepB (by go_grown) hb3
  have hs3 := hB3.size
  clear hb3 hB2 hs2 Xb4_2 Xb5_2 Xb8_2 cc4 ll4
  have cc5 := Xb5_3.2.1
  have ll5 := Xb5_3.1
  have lm5_0 : w.heap.size < w3.heap.size := by have := ll5; omega
  go_wp2_with fail
  refine (HZ.out _ (by go_grown)).mono ?_
  rintro e w4 ⟨rfl, hb4⟩
  have Xb8_4 : Box w4 (w.heap.size + 1 + 1) #[.int .i64 0, .int .i64 0] := Box.below (Box.alloc Xb8_3 _) hb4
  have hB4 : Below w.heap.size w w4 := stepB (by go_grown) hb4
  have hs4 := hB4.size
  clear hb4 hB3 hs3 Xb5_3 Xb8_3 cc5 ll5 lm5_0
  have cc8 := Xb8_4.2.1
  have ll8 := Xb8_4.1
  have ff8 := Xb8_4.2.2
  have lm8_0 : w.heap.size < w4.heap.size := by have := ll8; omega
  have lm8_1 : w.heap.size + 1 < w4.heap.size := by have := ll8; omega
  unfold spanV
  have hfd : ∀ w : World, (Instr.field 166 (.agg #[.int .i64 lo, .int .i64 hi]) 0).run Try.prog w = .ok (.agg #[.int .i64 lo, .int .i64 hi]) w := fun _ => by kernel_rfl
  go_wp2
  refine bodyPost_ret (v := .tuple #[spanV lo hi, .int .i64 0]) (by simp [results, Try.results30, go_sem, spanV, cc8, ll8]) rfl ⟨rfl, by go_grown⟩

end Go.Proofs.Ytpmeahmjmpgbfaa
