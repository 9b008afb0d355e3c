/- Contracts of slices.BinarySearch over integers, and of the numbers of a column. -/
import Derived.Test.YtpmeahmjmpgbfaaZCheck4
namespace Go.Proofs.Ytpmeahmjmpgbfaa
open Go.RowKit
set_option linter.unusedVariables false
set_option linter.unusedSimpArgs false

theorem nan_any (x : Int) (w : World) : Calls Try.prog 162 #[.int .i64 x] w fun e w' => e = .returned (.bool false) ∧ w = w' := by
  go_enter Try.func162, Try.ntmps162
  go_wp2
  go_returns
  exact ⟨ret_bool (by simp), rfl⟩
theorem nan2_any (x : Int) (w : World) : Calls Try.prog 167 #[.int .i64 x] w fun e w' => e = .returned (.bool false) ∧ w = w' := by
  go_enter Try.func167, Try.ntmps167
  go_wp2
  go_returns
  exact ⟨ret_bool (by simp), rfl⟩
theorem less_any (x y : Int) (w : World) : Calls Try.prog 166 #[.int .i64 x, .int .i64 y] w fun e w' => e = .returned (.bool (decide (x < y))) ∧ w = w' := by
  go_enter Try.func166, Try.ntmps166
  go_wp2_with fail
  refine (nan_any x _).mono ?_
  rintro e w' ⟨rfl, rfl⟩
  go_wp2
  go_returns
  exact ⟨rfl, rfl⟩

def BsP (r : Nat) (w : World) (e : Ending) (w' : World) : Prop := (∃ fd : Bool, e = .returned (.tuple #[.int .i64 r, .bool fd])) ∧ w = w'

set_option maxRecDepth 100000 in
set_option maxHeartbeats 2000000 in
theorem search_any (ss : List Int) (x : Int) (r : Nat) (a : Option Addr) (cap : Nat) (w : World) (hm : ss.length ≤ 4611686018427387904) (hS : SlA IntE w a ss) (hr : r ≤ ss.length) (hx : ∀ k s, ss[k]? = some s → (s < x ↔ k < r)) :
    Calls Try.prog 141 #[.slice a ss.length cap, .int .i64 x] w (BsP r w) := by
  rcases hS with rfl | ⟨b, off, rfl, hb, hc⟩
  · obtain rfl : r = 0 := by simpa using hr
    clear hx
    go_enter Try.func141, Try.ntmps141
    go_wp2
    go_rounds 1
    go_returns
    exact ⟨⟨_, rfl⟩, rfl⟩
  have HZ := Lib.hid hc
  have HX := Lib.hid hx
  clear hc hx
  go_enter Try.func141, Try.ntmps141
  go_wp2
  go_loop [7, 8, 9] (fun i j _ => ∃ p q : Nat, p ≤ r ∧ r ≤ q ∧ q ≤ ss.length ∧ i = .int .i64 p ∧ j = .int .i64 q) (fun i j _ => (intOf j).toNat - (intOf i).toNat)
  case atStart => exact ⟨0, ss.length, Nat.zero_le _, hr, Nat.le_refl _, rfl, rfl⟩
  case round =>
    obtain ⟨p, q, hp, hq, hl, rfl, rfl⟩ := hrel
    by_cases hlt : p < q
    · have hh1 : (p + q) / 2 < ss.length := by omega
      obtain ⟨s, hs⟩ : ∃ s, ss[(p + q) / 2] = s := ⟨_, rfl⟩
      have hs' : ss[(p + q) / 2]? = some s := by rw [List.getElem?_eq_getElem hh1, hs]
      obtain ⟨u, hcu, rfl⟩ := HZ.out ((p + q) / 2) s hs'
      have hi := Lib.hid (HX.out ((p + q) / 2) s hs')
      clear hs hs'
      by_cases hsx : s < x
      · have hr1 : (p + q) / 2 < r := hi.out.1 hsx
        go_wp2_with fail
        refine (less_any s x _).mono ?_
        rintro e w' ⟨rfl, rfl⟩
        go_wp2
        go_round
        case rel => exact ⟨(p + q) / 2 + 1, q, by omega, hq, hl, by go_num, rfl⟩
        case measure => simp [intOf]; omega
      · have hr1 : r ≤ (p + q) / 2 := by
          rcases Nat.lt_or_ge ((p + q) / 2) r with h | h
          · exact absurd (hi.out.2 h) hsx
          · exact h
        go_wp2_with fail
        refine (less_any s x _).mono ?_
        rintro e w' ⟨rfl, rfl⟩
        go_wp2
        go_round
        case rel => exact ⟨p, (p + q) / 2, hp, hr1, by omega, rfl, by go_num⟩
        case measure => simp [intOf]; omega
    · obtain rfl : p = q := by omega
      obtain rfl : p = r := by omega
      by_cases hlt2 : p < ss.length
      · obtain ⟨s, hs⟩ : ∃ s, ss[p] = s := ⟨_, rfl⟩
        have hs' : ss[p]? = some s := by rw [List.getElem?_eq_getElem hlt2, hs]
        obtain ⟨u, hcu, rfl⟩ := HZ.out p s hs'
        clear hs hs'
        by_cases hsx : s = x
        · have e1 : (s == x) = true := by simpa using hsx
          have HS := Lib.hid hsx
          clear hsx
          go_wp2
          go_returns
          exact ⟨⟨_, rfl⟩, rfl⟩
        · have e1 : (s == x) = false := by simpa using hsx
          have HS := Lib.hid hsx
          clear hsx
          go_wp2_with fail
          refine (nan2_any s _).mono ?_
          rintro e w' ⟨rfl, rfl⟩
          go_wp2
          go_returns
          exact ⟨⟨_, rfl⟩, rfl⟩
      · go_wp2
        go_returns
        exact ⟨⟨_, rfl⟩, rfl⟩

/-- How many steps lie below a size: the number of its step. -/
def stepN (ss : List Int) (x : Int) : Nat := (ss.takeWhile (fun s => decide (s < x))).length
theorem stepN_le (ss : List Int) (x : Int) : stepN ss x ≤ ss.length := (List.takeWhile_sublist _).length_le
theorem stepsFrom_gt : ∀ (ss : List Int) (b : Int), stepsFrom b ss = true → ∀ s ∈ ss, b < s ∧ s ≤ 10000000 := by
  intro ss
  induction ss with
  | nil => intro b _ s hs; cases hs
  | cons a l ih =>
    intro b h s hs
    simp only [stepsFrom, Bool.and_eq_true, decide_eq_true_eq] at h
    rcases List.mem_cons.1 hs with rfl | hs
    · exact h.1
    · have := ih a h.2 s hs; omega
theorem stepN_iff : ∀ (ss : List Int) (b x : Int), stepsFrom b ss = true → ∀ k s, ss[k]? = some s → (s < x ↔ k < stepN ss x) := by
  intro ss
  induction ss with
  | nil => intro b x _ k s hs; simp at hs
  | cons a l ih =>
    intro b x h k s hs
    simp only [stepsFrom, Bool.and_eq_true, decide_eq_true_eq] at h
    unfold stepN
    by_cases hax : a < x
    · rw [List.takeWhile_cons_of_pos (by simpa using hax)]
      cases k with
      | zero => simp at hs; subst hs; simp [hax]
      | succ k =>
        have := ih a x h.2 k s (by simpa using hs)
        rw [this]
        unfold stepN
        simp
    · rw [List.takeWhile_cons_of_neg (by simpa using hax)]
      simp
      cases k with
      | zero => simp at hs; subst hs; omega
      | succ k =>
        have hm : s ∈ l := List.mem_of_getElem? (by simpa using hs)
        have := (stepsFrom_gt l a h.2 s hm).1
        omega
end Go.Proofs.Ytpmeahmjmpgbfaa
