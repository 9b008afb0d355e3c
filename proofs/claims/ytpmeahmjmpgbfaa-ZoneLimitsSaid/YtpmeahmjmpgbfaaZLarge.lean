/- Contract of acmelaw02.large. Made by tools/gen_zlarge.py. -/
import Derived.Test.YtpmeahmjmpgbfaaZRLim
import Derived.Test.YtpmeahmjmpgbfaaOpenT
import Derived.LoopNIn
namespace Go.Proofs.Ytpmeahmjmpgbfaa
open Go.ChangeShapes Go.WideShapes Go.ChangeAt Go.RowKit
set_option linter.unusedVariables false
set_option linter.unusedSimpArgs false

/-- A table that is no larger than the statements look at. -/
def SmallT (ss : List Int) (gs ps : List (List Int)) : Prop := ss.length ≤ 25 ∧ gs.length ≤ 15 ∧ ps.length ≤ 15 ∧ (∀ r ∈ gs, r.length ≤ 25) ∧ (∀ r ∈ ps, r.length ≤ 25)
/-- What large returns. -/
def LargeP (ss : List Int) (gs ps : List (List Int)) (rows : Int) (e : Ending) : Prop := ∃ b, e = .returned (.bool b) ∧ (b = false → SmallT ss gs ps ∧ (checkN ss gs ps = 0 → (gs.length : Int) ≤ rows ∧ (ps.length : Int) ≤ rows))
theorem large_true {ss : List Int} {gs ps : List (List Int)} {rows : Int} : LargeP ss gs ps rows (.returned (.bool true)) := ⟨true, rfl, fun h => by cases h⟩
theorem rows_at {w : World} {a : Option Addr} {ls : List (List Int)} (h : SlA (SlW IntE) w a ls) (hr : ∀ r ∈ ls, r.length ≤ 25) : SlA IntsAt w a ls :=
  h.mono fun u x hx he => he.at (by have := hr x hx; omega)
theorem row_w {w : World} {ls : List (List Int)} {a : Option Addr} {k : Nat} (h : SlA (SlW IntE) w a ls) (hk : k < ls.length) :
    ∃ b off r ra rc, a = some ⟨b, off, none⟩ ∧ b < w.heap.size ∧ ls[k]? = some r ∧ w.cell? ⟨b, off + k, none⟩ = some (.slice ra r.length rc) ∧ r.length ≤ 9223372036854775807 := by
  rcases h with h0 | ⟨b, off, ha, hb, hc⟩
  · subst h0; exact absurd hk (by simp)
  · have hx : ls[k]? = some ls[k] := List.getElem?_eq_getElem hk
    obtain ⟨u, hu, ra, rc, rfl, hn, hm, hs⟩ := hc k _ hx
    exact ⟨b, off, _, ra, rc, ha, hb, hx, hu, hm⟩
theorem row_n {w : World} {ls : List (List Int)} {a : Option Addr} {k : Nat} (h : SlA (SlW IntE) w a ls) (hk : k < ls.length) :
    ∃ b off r ra rc, a = some ⟨b, off, none⟩ ∧ b < w.heap.size ∧ ls[k]? = some r ∧ w.cell? ⟨b, off + k, none⟩ = some (.slice ra r.length rc) ∧ r.length ≤ 9223372036854775807 ∧ (ra = none → rc = 0) ∧ SlA IntE w ra r := by
  rcases h with h0 | ⟨b, off, ha, hb, hc⟩
  · subst h0; exact absurd hk (by simp)
  · have hx : ls[k]? = some ls[k] := List.getElem?_eq_getElem hk
    obtain ⟨u, hu, ra, rc, rfl, hn, hm, hs⟩ := hc k _ hx
    exact ⟨b, off, _, ra, rc, ha, hb, hx, hu, hm, hn, hs⟩

set_option maxRecDepth 100000 in
set_option maxHeartbeats 8000000 in
theorem large_any (ss : List Int) (gs ps : List (List Int)) (sa ga pa : Option Addr) (sc gc pc : Nat) (rows : Int) (w : World) (h : TabW w ss gs ps sa ga pa sc) :
    Calls Try.prog 26 #[.agg #[.slice sa ss.length sc, .slice ga gs.length gc, .slice pa ps.length pc], .int .i64 rows] w fun e w' => LargeP ss gs ps rows e ∧ Below w.heap.size w w' := by
  obtain ⟨⟨-, m1, m2, m3⟩, hs, hg, hp⟩ := h
  have HSS := Lib.hid hs
  have HGS := Lib.hid hg
  have HPS := Lib.hid hp
  clear hs hg hp
  go_enter Try.func26, Try.ntmps26
  go_wp2
  go_loop [5] (fun i => ∃ k : Nat, k ≤ gs.length ∧ k ≤ 20 ∧ i = .int .i64 k ∧ Hid (∀ r ∈ gs.take k, r.length ≤ 25)) (fun i => 20 - (intOf i).toNat)
  case atStart => exact ⟨0, Nat.zero_le _, by omega, rfl, fun r hr => absurd hr (by simp)⟩
  case round =>
    obtain ⟨k, hk, hk2, rfl, hin1⟩ := hrel
    by_cases hlt1 : k < gs.length
    · have l1 : decide ((k : Int) < gs.length) = true := decide_eq_true (by omega)
      by_cases h20 : k < 20
      · have mq1 : decide ((k : Int) < 20) = true := decide_eq_true (by omega)
        obtain ⟨b, off, r, ra, rc, ha, hb, hx, hcu, hrm⟩ := row_w HGS.out hlt1
        subst ha
        have HX := Lib.hid hx
        clear hx
        by_cases hr : 25 < r.length
        · have d3 : decide ((25 : Int) < r.length) = true := decide_eq_true (by omega)
          go_wp2
          go_returns
          exact ⟨large_true, by go_grown⟩
        · have d3 : decide ((25 : Int) < r.length) = false := decide_eq_false (by omega)
          have HN := Lib.hid (take_all HX.out hin1.out (show r.length ≤ 25 by omega))
          go_wp2
          go_round
          case rel => exact ⟨k + 1, by omega, by omega, by go_num, HN⟩
          case measure => simp [intOf]; omega
      · have mq1 : decide ((k : Int) < 20) = false := decide_eq_false (by omega)
        go_wp2
        go_loop [6] (fun i => ∃ q : Nat, q ≤ ps.length ∧ q ≤ 20 ∧ i = .int .i64 q ∧ Hid (∀ r ∈ ps.take q, r.length ≤ 25)) (fun i => 20 - (intOf i).toNat)
        case atStart => exact ⟨0, Nat.zero_le _, by omega, rfl, fun r hr => absurd hr (by simp)⟩
        case round =>
          obtain ⟨q, hq, hq2, rfl, hin2⟩ := hrel
          by_cases hlt2 : q < ps.length
          · have l2 : decide ((q : Int) < ps.length) = true := decide_eq_true (by omega)
            by_cases h20 : q < 20
            · have mq2 : decide ((q : Int) < 20) = true := decide_eq_true (by omega)
              obtain ⟨b, off, r, ra, rc, ha, hb, hx, hcu, hrm⟩ := row_w HPS.out hlt2
              subst ha
              have HX := Lib.hid hx
              clear hx
              by_cases hr : 25 < r.length
              · have d3 : decide ((25 : Int) < r.length) = true := decide_eq_true (by omega)
                go_wp2
                go_returns
                exact ⟨large_true, by go_grown⟩
              · have d3 : decide ((25 : Int) < r.length) = false := decide_eq_false (by omega)
                have HN := Lib.hid (take_all HX.out hin2.out (show r.length ≤ 25 by omega))
                go_wp2
                go_round
                case rel => exact ⟨q + 1, by omega, by omega, by go_num, HN⟩
                case measure => simp [intOf]; omega
            · have mq2 : decide ((q : Int) < 20) = false := decide_eq_false (by omega)
              by_cases s1 : 25 < ss.length
              · have d1 : decide ((25 : Int) < ss.length) = true := decide_eq_true (by omega)
                go_wp2
                go_returns
                exact ⟨large_true, by go_grown⟩
              have d1 : decide ((25 : Int) < ss.length) = false := decide_eq_false (by omega)
              by_cases s2 : 15 < gs.length
              · have d2 : decide ((15 : Int) < gs.length) = true := decide_eq_true (by omega)
                go_wp2
                go_returns
                exact ⟨large_true, by go_grown⟩
              exfalso
              omega
          · have l2 : decide ((q : Int) < ps.length) = false := decide_eq_false (by omega)
            by_cases s1 : 25 < ss.length
            · have d1 : decide ((25 : Int) < ss.length) = true := decide_eq_true (by omega)
              go_wp2
              go_returns
              exact ⟨large_true, by go_grown⟩
            have d1 : decide ((25 : Int) < ss.length) = false := decide_eq_false (by omega)
            by_cases s2 : 15 < gs.length
            · have d2 : decide ((15 : Int) < gs.length) = true := decide_eq_true (by omega)
              go_wp2
              go_returns
              exact ⟨large_true, by go_grown⟩
            exfalso
            omega
    · have l1 : decide ((k : Int) < gs.length) = false := decide_eq_false (by omega)
      go_wp2
      go_loop [6] (fun i => ∃ q : Nat, q ≤ ps.length ∧ q ≤ 20 ∧ i = .int .i64 q ∧ Hid (∀ r ∈ ps.take q, r.length ≤ 25)) (fun i => 20 - (intOf i).toNat)
      case atStart => exact ⟨0, Nat.zero_le _, by omega, rfl, fun r hr => absurd hr (by simp)⟩
      case round =>
        obtain ⟨q, hq, hq2, rfl, hin2⟩ := hrel
        by_cases hlt2 : q < ps.length
        · have l2 : decide ((q : Int) < ps.length) = true := decide_eq_true (by omega)
          by_cases h20 : q < 20
          · have mq2 : decide ((q : Int) < 20) = true := decide_eq_true (by omega)
            obtain ⟨b, off, r, ra, rc, ha, hb, hx, hcu, hrm⟩ := row_w HPS.out hlt2
            subst ha
            have HX := Lib.hid hx
            clear hx
            by_cases hr : 25 < r.length
            · have d3 : decide ((25 : Int) < r.length) = true := decide_eq_true (by omega)
              go_wp2
              go_returns
              exact ⟨large_true, by go_grown⟩
            · have d3 : decide ((25 : Int) < r.length) = false := decide_eq_false (by omega)
              have HN := Lib.hid (take_all HX.out hin2.out (show r.length ≤ 25 by omega))
              go_wp2
              go_round
              case rel => exact ⟨q + 1, by omega, by omega, by go_num, HN⟩
              case measure => simp [intOf]; omega
          · have mq2 : decide ((q : Int) < 20) = false := decide_eq_false (by omega)
            by_cases s1 : 25 < ss.length
            · have d1 : decide ((25 : Int) < ss.length) = true := decide_eq_true (by omega)
              go_wp2
              go_returns
              exact ⟨large_true, by go_grown⟩
            have d1 : decide ((25 : Int) < ss.length) = false := decide_eq_false (by omega)
            by_cases s2 : 15 < gs.length
            · have d2 : decide ((15 : Int) < gs.length) = true := decide_eq_true (by omega)
              go_wp2
              go_returns
              exact ⟨large_true, by go_grown⟩
            have d2 : decide ((15 : Int) < gs.length) = false := decide_eq_false (by omega)
            by_cases s3 : 15 < ps.length
            · have d3 : decide ((15 : Int) < ps.length) = true := decide_eq_true (by omega)
              go_wp2
              go_returns
              exact ⟨large_true, by go_grown⟩
            exfalso
            omega
        · have l2 : decide ((q : Int) < ps.length) = false := decide_eq_false (by omega)
          by_cases s1 : 25 < ss.length
          · have d1 : decide ((25 : Int) < ss.length) = true := decide_eq_true (by omega)
            go_wp2
            go_returns
            exact ⟨large_true, by go_grown⟩
          have d1 : decide ((25 : Int) < ss.length) = false := decide_eq_false (by omega)
          by_cases s2 : 15 < gs.length
          · have d2 : decide ((15 : Int) < gs.length) = true := decide_eq_true (by omega)
            go_wp2
            go_returns
            exact ⟨large_true, by go_grown⟩
          have d2 : decide ((15 : Int) < gs.length) = false := decide_eq_false (by omega)
          by_cases s3 : 15 < ps.length
          · have d3 : decide ((15 : Int) < ps.length) = true := decide_eq_true (by omega)
            go_wp2
            go_returns
            exact ⟨large_true, by go_grown⟩
          have d3 : decide ((15 : Int) < ps.length) = false := decide_eq_false (by omega)
          have hG : ∀ r ∈ gs, r.length ≤ 25 := take_end (by omega) hin1.out
          have hP : ∀ r ∈ ps, r.length ≤ 25 := take_end (by omega) hin2.out
          have SM : Hid (SmallT ss gs ps) := Lib.hid ⟨by omega, by omega, by omega, hG, hP⟩
          go_wp2_with fail
          refine (rcheck_any _ ss gs ps sa ga pa sc gc pc (by omega) (by omega) (by omega) ((HSS.out).below intE_stable (by go_grown)) ((rows_at HGS.out hG).below ints_stable (by go_grown)) ((rows_at HPS.out hP).below ints_stable (by go_grown))).mono ?_
          rintro e w1 ⟨rfl, hb1⟩
          have Xb : Box w1 w.heap.size #[.slice sa ss.length sc, .slice ga gs.length gc, .slice pa ps.length pc] := Box.below (Box.new w _ _) hb1
          have hB1 : Below w.heap.size w w1 := stepB (by go_grown) hb1
          have cc := Xb.2.1
          have ll := Xb.1
          clear hb1 Xb hG hP
          by_cases hc : checkN ss gs ps = 0
          · have e0 : (checkN ss gs ps == 0) = true := by rw [beq_iff_eq]; exact hc
            rw [hc] at *
            by_cases g1 : rows < gs.length
            · have d4 : decide (rows < (gs.length : Int)) = true := decide_eq_true g1
              go_wp2
              go_returns
              exact ⟨large_true, hB1⟩
            · have d4 : decide (rows < (gs.length : Int)) = false := decide_eq_false g1
              by_cases g2 : rows < ps.length
              · have d5 : decide (rows < (ps.length : Int)) = true := decide_eq_true g2
                go_wp2
                go_returns
                exact ⟨large_true, hB1⟩
              · have d5 : decide (rows < (ps.length : Int)) = false := decide_eq_false g2
                have G1 := Lib.hid g1
                have G2 := Lib.hid g2
                clear g1 g2
                go_wp2
                go_returns
                exact ⟨⟨false, rfl, fun _ => ⟨SM.out, fun _ => ⟨by have := G1.out; omega, by have := G2.out; omega⟩⟩⟩, hB1⟩
          · have e0 : (checkN ss gs ps == 0) = false := by rw [beq_eq_false_iff_ne]; exact hc
            have HC := Lib.hid hc
            clear hc
            go_wp2
            go_returns
            exact ⟨⟨false, rfl, fun _ => ⟨SM.out, fun h => absurd h HC.out⟩⟩, hB1⟩

end Go.Proofs.Ytpmeahmjmpgbfaa
