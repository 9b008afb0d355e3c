/- Contract of zone.Groups. Made by tools/gen_zcheck.py. -/
import Derived.Test.YtpmeahmjmpgbfaaZSorted
namespace Go.Proofs.Ytpmeahmjmpgbfaa
open Go.RowKit
set_option linter.unusedVariables false
set_option linter.unusedSimpArgs false

set_option maxRecDepth 100000 in
set_option maxHeartbeats 2000000 in
theorem groups_0 (w : World) (s0 s1 n0 n1 v0 v1 : Int) (h1 : vspan s0 s1 0 20000000 = false)  :
    Calls Try.prog 55 #[.agg #[.int .i64 s0, .int .i64 s1], .agg #[.int .i64 n0, .int .i64 n1], .agg #[.int .i64 v0, .int .i64 v1]] w fun e w' => e = .returned (.tuple #[.int .i64 0, .int .i64 2]) ∧ Below w.heap.size w w' := by
  go_enter Try.func55, Try.ntmps55
  go_wp2_with fail
  refine (validSpan_any _ _ _ _ _).mono ?_
  rintro e w1 ⟨rfl, hb1⟩
  have hB1 : Below w.heap.size w w1 := stepB (by go_grown) hb1
  have hs1 := hB1.size
  clear hb1
  rw [h1]
  go_wp2
  go_returns
  exact ⟨rfl, hB1⟩

set_option maxRecDepth 100000 in
set_option maxHeartbeats 2000000 in
theorem groups_1 (w : World) (s0 s1 n0 n1 v0 v1 : Int) (h1 : vspan s0 s1 0 20000000 = true) (h2 : vspan n0 n1 0 20000000 = false)  :
    Calls Try.prog 55 #[.agg #[.int .i64 s0, .int .i64 s1], .agg #[.int .i64 n0, .int .i64 n1], .agg #[.int .i64 v0, .int .i64 v1]] w fun e w' => e = .returned (.tuple #[.int .i64 0, .int .i64 2]) ∧ Below w.heap.size w w' := by
  go_enter Try.func55, Try.ntmps55
  go_wp2_with fail
  refine (validSpan_any _ _ _ _ _).mono ?_
  rintro e w1 ⟨rfl, hb1⟩
  have Xb4_1 : Box w1 (w.heap.size + 1) #[.int .i64 n0, .int .i64 n1] := Box.below (Box.alloc (Box.newAt (w.alloc _) _ _ (by simp)) _) hb1
  have hB1 : Below w.heap.size w w1 := stepB (by go_grown) hb1
  have hs1 := hB1.size
  clear hb1
  have cc4 := Xb4_1.2.1
  have ll4 := Xb4_1.1
  have lm4_0 : w.heap.size < w1.heap.size := by have := ll4; omega
  rw [h1]
  go_wp2_with fail
  refine (validSpan_any _ _ _ _ _).mono ?_
  rintro e w2 ⟨rfl, hb2⟩
  have hB2 : Below w.heap.size w w2 := stepB (by go_grown) hb2
  have hs2 := hB2.size
  clear hb2 hB1 hs1 Xb4_1 cc4 ll4 lm4_0
  rw [h2]
  go_wp2
  go_returns
  exact ⟨rfl, hB2⟩

set_option maxRecDepth 100000 in
set_option maxHeartbeats 2000000 in
theorem groups_2 (w : World) (s0 s1 n0 n1 v0 v1 : Int) (h1 : vspan s0 s1 0 20000000 = true) (h2 : vspan n0 n1 0 20000000 = true) (h3 : vspan v0 v1 (-40000000) 40000000 = false)  :
    Calls Try.prog 55 #[.agg #[.int .i64 s0, .int .i64 s1], .agg #[.int .i64 n0, .int .i64 n1], .agg #[.int .i64 v0, .int .i64 v1]] w fun e w' => e = .returned (.tuple #[.int .i64 0, .int .i64 2]) ∧ Below w.heap.size w w' := by
  go_enter Try.func55, Try.ntmps55
  go_wp2_with fail
  refine (validSpan_any _ _ _ _ _).mono ?_
  rintro e w1 ⟨rfl, hb1⟩
  have Xb4_1 : Box w1 (w.heap.size + 1) #[.int .i64 n0, .int .i64 n1] := Box.below (Box.alloc (Box.newAt (w.alloc _) _ _ (by simp)) _) hb1
  have Xb5_1 : Box w1 (w.heap.size + 1 + 1) #[.int .i64 v0, .int .i64 v1] := Box.below (Box.newAt ((w.alloc _).alloc _) _ _ (by simp)) hb1
  have hB1 : Below w.heap.size w w1 := stepB (by go_grown) hb1
  have hs1 := hB1.size
  clear hb1
  have cc4 := Xb4_1.2.1
  have ll4 := Xb4_1.1
  have lm4_0 : w.heap.size < w1.heap.size := by have := ll4; omega
  rw [h1]
  go_wp2_with fail
  refine (validSpan_any _ _ _ _ _).mono ?_
  rintro e w2 ⟨rfl, hb2⟩
  have Xb5_2 : Box w2 (w.heap.size + 1 + 1) #[.int .i64 v0, .int .i64 v1] := Box.below Xb5_1 hb2
  have hB2 : Below w.heap.size w w2 := stepB (by go_grown) hb2
  have hs2 := hB2.size
  clear hb2 hB1 hs1 Xb4_1 Xb5_1 cc4 ll4 lm4_0
  have cc5 := Xb5_2.2.1
  have ll5 := Xb5_2.1
  have lm5_0 : w.heap.size < w2.heap.size := by have := ll5; omega
  have lm5_1 : w.heap.size + 1 < w2.heap.size := by have := ll5; omega
  rw [h2]
  go_wp2_with fail
  refine (validSpan_any _ _ _ _ _).mono ?_
  rintro e w3 ⟨rfl, hb3⟩
  have hB3 : Below w.heap.size w w3 := stepB (by go_grown) hb3
  have hs3 := hB3.size
  clear hb3 hB2 hs2 Xb5_2 cc5 ll5 lm5_0 lm5_1
  rw [h3]
  go_wp2
  go_returns
  exact ⟨rfl, hB3⟩

/-- The fewest groups, if there are some. -/
def groupsN (s0 s1 n0 n1 v0 v1 : Int)  : Option Nat := ((List.range 50).find? fun j => sortedB s0 s1 n0 n1 v0 v1 (j + 1)).map (· + 1)
def groupsW (s0 s1 n0 n1 v0 v1 : Int)  : Value := match groupsN s0 s1 n0 n1 v0 v1 with | some n => .tuple #[.int .i64 (n : Int), .int .i64 0] | none => .tuple #[.int .i64 0, .int .i64 7]
def spansB (s0 s1 n0 n1 v0 v1 : Int)  : Bool := vspan s0 s1 0 20000000 && (vspan n0 n1 0 20000000 && vspan v0 v1 (-40000000) 40000000)
/-- What Groups returns. -/
def groupsV (s0 s1 n0 n1 v0 v1 : Int)  : Value := if spansB s0 s1 n0 n1 v0 v1 then groupsW s0 s1 n0 n1 v0 v1 else .tuple #[.int .i64 0, .int .i64 2]

theorem find_at {p : Nat → Bool} {m k : Nat} (hk : k < m) (h : p k = true) (hn : ∀ j, j < k → p j = false) : (List.range m).find? p = some k := by
  rw [List.find?_range_eq_some]
  exact ⟨h, List.mem_range.2 hk, fun j hj => by rw [hn j hj]; rfl⟩
theorem find_no {p : Nat → Bool} {m : Nat} (hn : ∀ j, j < m → p j = false) : (List.range m).find? p = none := by
  rw [List.find?_range_eq_none]
  exact fun j hj => by rw [hn j hj]; rfl

set_option maxRecDepth 100000 in
set_option maxHeartbeats 2000000 in
theorem groups_way (w : World) (s0 s1 n0 n1 v0 v1 : Int)  (h1 : vspan s0 s1 0 20000000 = true) (h2 : vspan n0 n1 0 20000000 = true) (h3 : vspan v0 v1 (-40000000) 40000000 = true)  (a0 : 0 ≤ s0) (a1 : s0 ≤ 20000000) (b0 : 0 ≤ s1) (b1 : s1 ≤ 20000000) (c0 : 0 ≤ n0) (c1 : n0 ≤ 20000000) (d0 : 0 ≤ n1) (d1 : n1 ≤ 20000000) :
    Calls Try.prog 55 #[.agg #[.int .i64 s0, .int .i64 s1], .agg #[.int .i64 n0, .int .i64 n1], .agg #[.int .i64 v0, .int .i64 v1]] w fun e w' => e = .returned (groupsW s0 s1 n0 n1 v0 v1) ∧ Below w.heap.size w w' := by
  have HS := Lib.hid (fun (g : Nat) (W : World) (h0 : 1 ≤ g) (h1 : g ≤ 50) => sorted_any s0 s1 n0 n1 v0 v1 g W h0 h1 (by omega) (by omega) (by omega) (by omega) (by omega) (by omega) (by omega) (by omega))
  go_enter Try.func55, Try.ntmps55
  go_wp2_with fail
  refine (validSpan_any _ _ _ _ _).mono ?_
  rintro e w1 ⟨rfl, hb1⟩
  have Xb3_1 : Box w1 w.heap.size #[.int .i64 s0, .int .i64 s1] := Box.below (Box.alloc (Box.alloc (Box.new w _ _) _) _) hb1
  have Xb4_1 : Box w1 (w.heap.size + 1) #[.int .i64 n0, .int .i64 n1] := Box.below (Box.alloc (Box.newAt (w.alloc _) _ _ (by simp)) _) hb1
  have Xb5_1 : Box w1 (w.heap.size + 1 + 1) #[.int .i64 v0, .int .i64 v1] := Box.below (Box.newAt ((w.alloc _).alloc _) _ _ (by simp)) hb1
  have hB1 : Below w.heap.size w w1 := stepB (by go_grown) hb1
  have hs1 := hB1.size
  clear hb1
  have cc4 := Xb4_1.2.1
  have ll4 := Xb4_1.1
  have lm4_0 : w.heap.size < w1.heap.size := by have := ll4; omega
  rw [h1]
  go_wp2_with fail
  refine (validSpan_any _ _ _ _ _).mono ?_
  rintro e w2 ⟨rfl, hb2⟩
  have Xb3_2 : Box w2 w.heap.size #[.int .i64 s0, .int .i64 s1] := Box.below Xb3_1 hb2
  have Xb4_2 : Box w2 (w.heap.size + 1) #[.int .i64 n0, .int .i64 n1] := Box.below Xb4_1 hb2
  have Xb5_2 : Box w2 (w.heap.size + 1 + 1) #[.int .i64 v0, .int .i64 v1] := Box.below Xb5_1 hb2
  have hB2 : Below w.heap.size w w2 := stepB (by go_grown) hb2
  have hs2 := hB2.size
  clear hb2 hB1 hs1 Xb3_1 Xb4_1 Xb5_1 cc4 ll4 lm4_0
  have cc5 := Xb5_2.2.1
  have ll5 := Xb5_2.1
  have lm5_0 : w.heap.size < w2.heap.size := by have := ll5; omega
  have lm5_1 : w.heap.size + 1 < w2.heap.size := by have := ll5; omega
  rw [h2]
  go_wp2_with fail
  refine (validSpan_any _ _ _ _ _).mono ?_
  rintro e w3 ⟨rfl, hb3⟩
  have Xb3_3 : Box w3 w.heap.size #[.int .i64 s0, .int .i64 s1] := Box.below Xb3_2 hb3
  have Xb4_3 : Box w3 (w.heap.size + 1) #[.int .i64 n0, .int .i64 n1] := Box.below Xb4_2 hb3
  have Xb5_3 : Box w3 (w.heap.size + 1 + 1) #[.int .i64 v0, .int .i64 v1] := Box.below Xb5_2 hb3
  have hB3 : Below w.heap.size w w3 := stepB (by go_grown) hb3
  have hs3 := hB3.size
  clear hb3 hB2 hs2 Xb3_2 Xb4_2 Xb5_2 cc5 ll5 lm5_0 lm5_1
  rw [h3]
  go_wp2
  go_loopw [8, 9, 23] (fun _ _ i wr => ∃ k : Nat, k ≤ 50 ∧ i = .int .i64 k ∧ Hid (∀ j, j < k → sortedB s0 s1 n0 n1 v0 v1 (j + 1) = false) ∧ Box wr w.heap.size #[.int .i64 s0, .int .i64 s1] ∧ Box wr (w.heap.size + 1) #[.int .i64 n0, .int .i64 n1] ∧ Box wr (w.heap.size + 1 + 1) #[.int .i64 v0, .int .i64 v1] ∧ Below w.heap.size w wr) (fun _ _ i _ => 50 - (intOf i).toNat)
  case atStart => exact ⟨0, Nat.zero_le _, rfl, fun j hj => absurd hj (by omega), Xb3_3, Xb4_3, Xb5_3, hB3⟩
  case round =>
    obtain ⟨k, hk, rfl, hin, X3, X4, X5, hB⟩ := hrel
    by_cases hlt : k < 50
    · have r3 := X3.2.1
      have r4 := X4.2.1
      have r5 := X5.2.1
      have q3 := X3.1
      have q4 := X4.1
      have q5 := X5.1
      cases hs : sortedB s0 s1 n0 n1 v0 v1 (k + 1)
      · have HQ := Lib.hid hs
        have HC := HS.out (k + 1)
        rw [hs] at HC
        have HC' := Lib.hid HC
        clear hs HC
        go_wp2_with fail
        refine (HC'.out _ (by omega) (by omega)).mono ?_
        rintro e w5 ⟨rfl, hb5⟩
        have Y3 := X3.below hb5
        have Y4 := X4.below hb5
        have Y5 := X5.below hb5
        have hB5 : Below w.heap.size w w5 := stepB (by go_grown) hb5
        clear hb5 r3 r4 r5 q3 q4 q5 X3 X4 X5 hB
        go_wp2
        go_roundw
        case rel => exact ⟨k + 1, by omega, by go_num, fun j hj => by
          by_cases e : j = k
          · subst e; exact HQ.out
          · exact hin.out j (by omega), Y3, Y4, Y5, hB5⟩
        case measure => simp [intOf]; omega
      · have HQ := Lib.hid hs
        have HC := HS.out (k + 1)
        rw [hs] at HC
        have HC' := Lib.hid HC
        clear hs HC
        go_wp2_with fail
        refine (HC'.out _ (by omega) (by omega)).mono ?_
        rintro e w5 ⟨rfl, hb5⟩
        have hB5 : Below w.heap.size w w5 := stepB (by go_grown) hb5
        clear hb5 r3 r4 r5 q3 q4 q5 X3 X4 X5 hB
        go_wp2
        go_returns
        refine ⟨?_, hB5⟩
        have : groupsN s0 s1 n0 n1 v0 v1 = some (k + 1) := by unfold groupsN; rw [find_at hlt HQ.out hin.out]; rfl
        have e : groupsW s0 s1 n0 n1 v0 v1 = .tuple #[.int .i64 ((k : Int) + 1), .int .i64 0] := by unfold groupsW; rw [this]; simp
        rw [e]
        rfl
    · have hk' : k = 50 := by omega
      have HK := Lib.hid hk'
      clear hk' X3 X4 X5
      go_wp2
      go_returns
      refine ⟨?_, hB⟩
      have : groupsN s0 s1 n0 n1 v0 v1 = none := by unfold groupsN; rw [find_no (fun j hj => hin.out j (by have := HK.out; omega))]; rfl
      have e : groupsW s0 s1 n0 n1 v0 v1 = .tuple #[.int .i64 0, .int .i64 7] := by unfold groupsW; rw [this]
      rw [e]
      rfl

theorem vspan_iff (lo hi a b : Int) : vspan lo hi a b = true ↔ a ≤ lo ∧ lo ≤ hi ∧ hi ≤ b := by unfold vspan; exact decide_eq_true_iff

theorem groups_any (s0 s1 n0 n1 v0 v1 : Int)  (w : World) :
    Calls Try.prog 55 #[.agg #[.int .i64 s0, .int .i64 s1], .agg #[.int .i64 n0, .int .i64 n1], .agg #[.int .i64 v0, .int .i64 v1]] w fun e w' => e = .returned (groupsV s0 s1 n0 n1 v0 v1) ∧ Below w.heap.size w w' := by
  unfold groupsV spansB
  cases h1 : vspan s0 s1 0 20000000
  · exact groups_0 w s0 s1 n0 n1 v0 v1 h1
  cases h2 : vspan n0 n1 0 20000000
  · exact groups_1 w s0 s1 n0 n1 v0 v1 h1 h2
  cases h3 : vspan v0 v1 (-40000000) 40000000
  · exact groups_2 w s0 s1 n0 n1 v0 v1 h1 h2 h3
  · have g1 := (vspan_iff _ _ _ _).1 h1
    have g2 := (vspan_iff _ _ _ _).1 h2
    exact groups_way w s0 s1 n0 n1 v0 v1 h1 h2 h3 (by omega) (by omega) (by omega) (by omega) (by omega) (by omega) (by omega) (by omega)

end Go.Proofs.Ytpmeahmjmpgbfaa
