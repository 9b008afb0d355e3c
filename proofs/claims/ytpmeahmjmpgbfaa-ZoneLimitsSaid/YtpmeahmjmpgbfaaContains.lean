/- What a slice in memory is, and contracts of slices.ContainsFunc over slices of one-cell elements. Made by tools/gen_contains.py. -/
import Derived.Test.YtpmeahmjmpgbfaaZone1
namespace Go.Proofs.Ytpmeahmjmpgbfaa
open Go.RowKit
set_option linter.unusedVariables false
set_option linter.unusedSimpArgs false

/-- What a word of elements in memory keeps when memory grows. -/
def Stable {α : Type} (E : World → Value → α → Prop) : Prop := ∀ W W' u x, E W u x → Below W.heap.size W W' → E W' u x
/-- The elements of a slice of one-cell elements, from its address on. -/
def SlA {α : Type} (E : World → Value → α → Prop) (w : World) (a : Option Addr) (xs : List α) : Prop :=
  xs = [] ∨ ∃ b off, a = some ⟨b, off, none⟩ ∧ b < w.heap.size ∧ ∀ i x, xs[i]? = some x → ∃ u, w.cell? ⟨b, off + i, none⟩ = some u ∧ E w u x
theorem SlA.below {α : Type} {E : World → Value → α → Prop} (hE : Stable E) {w w' : World} {a : Option Addr} {xs : List α} (h : SlA E w a xs) (hb : Below w.heap.size w w') : SlA E w' a xs := by
  rcases h with h | ⟨b, off, ha, hlt, hc⟩
  · exact .inl h
  · refine .inr ⟨b, off, ha, Nat.lt_of_lt_of_le hlt hb.size, fun i x hx => ?_⟩
    obtain ⟨u, hu, he⟩ := hc i x hx
    exact ⟨u, (hb.cell (p := ⟨b, off + i, none⟩) hlt).trans hu, hE _ _ _ _ he hb⟩
/-- A slice of one-cell elements. -/
def SlAt {α : Type} (E : World → Value → α → Prop) (w : World) (v : Value) (xs : List α) : Prop := ∃ a cap, v = .slice a xs.length cap ∧ xs.length ≤ 4611686018427387904 ∧ SlA E w a xs
theorem SlAt.below {α : Type} {E : World → Value → α → Prop} (hE : Stable E) {w w' : World} {v : Value} {xs : List α} (h : SlAt E w v xs) (hb : Below w.heap.size w w') : SlAt E w' v xs := by
  obtain ⟨a, cap, rfl, hm, hs⟩ := h
  exact ⟨a, cap, rfl, hm, hs.below hE hb⟩
theorem SlAt.stable {α : Type} {E : World → Value → α → Prop} (hE : Stable E) : Stable (SlAt E) := fun _ _ _ _ h hb => h.below hE hb
def IntE (_ : World) (u : Value) (z : Int) : Prop := u = .int .i64 z
theorem intE_stable : Stable IntE := fun _ _ _ _ h _ => h
/-- A slice of integers; one of such; one of these. -/
def IntsAt : World → Value → List Int → Prop := SlAt IntE
def RowsAt : World → Value → List (List Int) → Prop := SlAt IntsAt
def RowsRowsAt : World → Value → List (List (List Int)) → Prop := SlAt RowsAt
theorem ints_stable : Stable IntsAt := SlAt.stable intE_stable
theorem rows_stable : Stable RowsAt := SlAt.stable ints_stable
theorem rowsRows_stable : Stable RowsRowsAt := SlAt.stable rows_stable

def IdxP (y : Bool) (w : World) (e : Ending) (w' : World) : Prop := ∃ r : Int, e = .returned (.int .i64 r) ∧ (if y = true then 0 ≤ r else r = -1) ∧ Below w.heap.size w w'

set_option maxHeartbeats 1000000 in
theorem longer1_index {α : Type} (E : World → Value → α → Prop) (q : α → Bool) (p : Nat) (xs : List α) (a : Option Addr) (cap : Nat) (w : World) (hE : Stable E) (hm : xs.length ≤ 4611686018427387904) (hS : SlA E w a xs)
    (hC : ∀ W u x, Below w.heap.size w W → E W u x → x ∈ xs → Calls Try.prog 131 #[u, .pointer (some ⟨p, 0, none⟩)] W fun e w' => e = .returned (.bool (q x)) ∧ Below W.heap.size W w') :
    Calls Try.prog 163 #[.slice a xs.length cap, .func (.func 131) #[] #[.pointer (some ⟨p, 0, none⟩)]] w (IdxP (xs.any q) w) := by
  rcases hS with rfl | ⟨b, off, rfl, hb, hc⟩
  · clear hC
    go_enter Try.func163, Try.ntmps163
    go_wp2
    go_rounds 1
    go_returns
    exact ⟨-1, rfl, rfl, Below.refl _ _⟩
  have HC := Lib.hid hC
  have HZ := Lib.hid hc
  clear hC hc
  go_enter Try.func163, Try.ntmps163
  go_wp2
  go_loopw [5, 8] (fun _ i wr => ∃ k : Nat, k ≤ xs.length ∧ i = .int .i64 k ∧ Hid (∀ x ∈ xs.take k, q x = false) ∧ Hid (Below w.heap.size w wr)) (fun _ i _ => xs.length - (intOf i).toNat)
  case atStart => exact ⟨0, Nat.zero_le _, rfl, fun x hx => absurd hx (by simp), Below.refl _ _⟩
  case round =>
    obtain ⟨k, hk, rfl, hin, hB⟩ := hrel
    by_cases hlt : k < xs.length
    · obtain ⟨x, hx⟩ : ∃ x, xs[k] = x := ⟨_, rfl⟩
      have hx' : xs[k]? = some x := by rw [List.getElem?_eq_getElem hlt, hx]
      obtain ⟨u, hcu, heu⟩ := HZ.out k x hx'
      have hcu' : wr.cell? ⟨b, off + k, none⟩ = some u := (hB.out.cell (p := ⟨b, off + k, none⟩) hb).trans hcu
      have hmem : x ∈ xs := by rw [← hx]; exact List.getElem_mem hlt
      have HT : Hid (xs.take (k + 1) = xs.take k ++ [x]) := by show _ = _; rw [List.take_succ_eq_append_getElem hlt, hx]
      have HQ := Lib.hid (HC.out wr u x hB.out (hE w wr u x heu hB.out) hmem)
      have HM := Lib.hid hmem
      have hz : b < wr.heap.size := Nat.lt_of_lt_of_le hb hB.out.size
      clear hx hx' hcu heu hmem
      cases hq : q x
      · have HQ' := Lib.hid hq
        go_wp2_with fail
        refine HQ.out.mono ?_
        rintro e w1 ⟨rfl, hb1⟩
        rw [hq]
        clear hq
        have hB1 : Below w.heap.size w w1 := hB.out.trans (hb1.mono hB.out.size)
        clear hb1 hcu' HQ
        go_wp2
        go_roundw
        case rel => exact ⟨k + 1, by omega, by go_num, fun y hy => by
          rw [HT.out, List.mem_append] at hy
          rcases hy with hy | hy
          · exact hin.out y hy
          · simp at hy; subst hy; exact HQ'.out, hB1⟩
        case measure => simp [intOf]; omega
      · have HQ' := Lib.hid hq
        go_wp2_with fail
        refine HQ.out.mono ?_
        rintro e w1 ⟨rfl, hb1⟩
        rw [hq]
        clear hq
        have hB1 : Below w.heap.size w w1 := hB.out.trans (hb1.mono hB.out.size)
        clear hb1 hcu' HQ
        go_wp2
        go_returns
        refine ⟨k, rfl, ?_, hB1⟩
        rw [if_pos (List.any_eq_true.2 ⟨x, HM.out, HQ'.out⟩)]
        omega
    · have HK : Hid (k = xs.length) := by show k = xs.length; omega
      go_wp2
      go_returns
      refine ⟨-1, rfl, ?_, hB.out⟩
      rw [if_neg]
      rw [List.any_eq_true]
      rintro ⟨x, hx, h⟩
      have h2 := hin.out x (by rw [HK.out, List.take_of_length_le (Nat.le_refl _)]; exact hx)
      rw [h2] at h
      cases h

set_option maxHeartbeats 1000000 in
theorem longer1_contains {α : Type} (E : World → Value → α → Prop) (q : α → Bool) (p : Nat) (xs : List α) (a : Option Addr) (cap : Nat) (w : World) (hE : Stable E) (hm : xs.length ≤ 4611686018427387904) (hS : SlA E w a xs)
    (hC : ∀ W u x, Below w.heap.size w W → E W u x → x ∈ xs → Calls Try.prog 131 #[u, .pointer (some ⟨p, 0, none⟩)] W fun e w' => e = .returned (.bool (q x)) ∧ Below W.heap.size W w') :
    Calls Try.prog 130 #[.slice a xs.length cap, .func (.func 131) #[] #[.pointer (some ⟨p, 0, none⟩)]] w fun e w' => e = .returned (.bool (xs.any q)) ∧ Below w.heap.size w w' := by
  have H := Lib.hid (longer1_index E q p xs a cap w hE hm hS hC)
  clear hS hC
  cases ha : xs.any q
  all_goals
    have HA := Lib.hid ha
    clear ha
    go_enter Try.func130, Try.ntmps130
    go_wp2_with fail
    refine H.out.mono ?_
    rintro e w' ⟨r, rfl, hr, hB⟩
    rw [HA.out] at hr
    simp at hr
    try subst hr
    go_wp2
    go_returns
    exact ⟨rfl, hB⟩

set_option maxHeartbeats 1000000 in
theorem full1_index {α : Type} (E : World → Value → α → Prop) (q : α → Bool) (p : Nat) (xs : List α) (a : Option Addr) (cap : Nat) (w : World) (hE : Stable E) (hm : xs.length ≤ 4611686018427387904) (hS : SlA E w a xs)
    (hC : ∀ W u x, Below w.heap.size w W → E W u x → x ∈ xs → Calls Try.prog 135 #[u, .pointer (some ⟨p, 0, none⟩)] W fun e w' => e = .returned (.bool (q x)) ∧ Below W.heap.size W w') :
    Calls Try.prog 163 #[.slice a xs.length cap, .func (.func 135) #[] #[.pointer (some ⟨p, 0, none⟩)]] w (IdxP (xs.any q) w) := by
  rcases hS with rfl | ⟨b, off, rfl, hb, hc⟩
  · clear hC
    go_enter Try.func163, Try.ntmps163
    go_wp2
    go_rounds 1
    go_returns
    exact ⟨-1, rfl, rfl, Below.refl _ _⟩
  have HC := Lib.hid hC
  have HZ := Lib.hid hc
  clear hC hc
  go_enter Try.func163, Try.ntmps163
  go_wp2
  go_loopw [5, 8] (fun _ i wr => ∃ k : Nat, k ≤ xs.length ∧ i = .int .i64 k ∧ Hid (∀ x ∈ xs.take k, q x = false) ∧ Hid (Below w.heap.size w wr)) (fun _ i _ => xs.length - (intOf i).toNat)
  case atStart => exact ⟨0, Nat.zero_le _, rfl, fun x hx => absurd hx (by simp), Below.refl _ _⟩
  case round =>
    obtain ⟨k, hk, rfl, hin, hB⟩ := hrel
    by_cases hlt : k < xs.length
    · obtain ⟨x, hx⟩ : ∃ x, xs[k] = x := ⟨_, rfl⟩
      have hx' : xs[k]? = some x := by rw [List.getElem?_eq_getElem hlt, hx]
      obtain ⟨u, hcu, heu⟩ := HZ.out k x hx'
      have hcu' : wr.cell? ⟨b, off + k, none⟩ = some u := (hB.out.cell (p := ⟨b, off + k, none⟩) hb).trans hcu
      have hmem : x ∈ xs := by rw [← hx]; exact List.getElem_mem hlt
      have HT : Hid (xs.take (k + 1) = xs.take k ++ [x]) := by show _ = _; rw [List.take_succ_eq_append_getElem hlt, hx]
      have HQ := Lib.hid (HC.out wr u x hB.out (hE w wr u x heu hB.out) hmem)
      have HM := Lib.hid hmem
      have hz : b < wr.heap.size := Nat.lt_of_lt_of_le hb hB.out.size
      clear hx hx' hcu heu hmem
      cases hq : q x
      · have HQ' := Lib.hid hq
        go_wp2_with fail
        refine HQ.out.mono ?_
        rintro e w1 ⟨rfl, hb1⟩
        rw [hq]
        clear hq
        have hB1 : Below w.heap.size w w1 := hB.out.trans (hb1.mono hB.out.size)
        clear hb1 hcu' HQ
        go_wp2
        go_roundw
        case rel => exact ⟨k + 1, by omega, by go_num, fun y hy => by
          rw [HT.out, List.mem_append] at hy
          rcases hy with hy | hy
          · exact hin.out y hy
          · simp at hy; subst hy; exact HQ'.out, hB1⟩
        case measure => simp [intOf]; omega
      · have HQ' := Lib.hid hq
        go_wp2_with fail
        refine HQ.out.mono ?_
        rintro e w1 ⟨rfl, hb1⟩
        rw [hq]
        clear hq
        have hB1 : Below w.heap.size w w1 := hB.out.trans (hb1.mono hB.out.size)
        clear hb1 hcu' HQ
        go_wp2
        go_returns
        refine ⟨k, rfl, ?_, hB1⟩
        rw [if_pos (List.any_eq_true.2 ⟨x, HM.out, HQ'.out⟩)]
        omega
    · have HK : Hid (k = xs.length) := by show k = xs.length; omega
      go_wp2
      go_returns
      refine ⟨-1, rfl, ?_, hB.out⟩
      rw [if_neg]
      rw [List.any_eq_true]
      rintro ⟨x, hx, h⟩
      have h2 := hin.out x (by rw [HK.out, List.take_of_length_le (Nat.le_refl _)]; exact hx)
      rw [h2] at h
      cases h

set_option maxHeartbeats 1000000 in
theorem full1_contains {α : Type} (E : World → Value → α → Prop) (q : α → Bool) (p : Nat) (xs : List α) (a : Option Addr) (cap : Nat) (w : World) (hE : Stable E) (hm : xs.length ≤ 4611686018427387904) (hS : SlA E w a xs)
    (hC : ∀ W u x, Below w.heap.size w W → E W u x → x ∈ xs → Calls Try.prog 135 #[u, .pointer (some ⟨p, 0, none⟩)] W fun e w' => e = .returned (.bool (q x)) ∧ Below W.heap.size W w') :
    Calls Try.prog 130 #[.slice a xs.length cap, .func (.func 135) #[] #[.pointer (some ⟨p, 0, none⟩)]] w fun e w' => e = .returned (.bool (xs.any q)) ∧ Below w.heap.size w w' := by
  have H := Lib.hid (full1_index E q p xs a cap w hE hm hS hC)
  clear hS hC
  cases ha : xs.any q
  all_goals
    have HA := Lib.hid ha
    clear ha
    go_enter Try.func130, Try.ntmps130
    go_wp2_with fail
    refine H.out.mono ?_
    rintro e w' ⟨r, rfl, hr, hB⟩
    rw [HA.out] at hr
    simp at hr
    try subst hr
    go_wp2
    go_returns
    exact ⟨rfl, hB⟩

set_option maxHeartbeats 1000000 in
theorem valid2_index {α : Type} (E : World → Value → α → Prop) (q : α → Bool) (p : Nat) (p2 : Nat) (xs : List α) (a : Option Addr) (cap : Nat) (w : World) (hE : Stable E) (hm : xs.length ≤ 4611686018427387904) (hS : SlA E w a xs)
    (hC : ∀ W u x, Below w.heap.size w W → E W u x → x ∈ xs → Calls Try.prog 138 #[u, .pointer (some ⟨p, 0, none⟩), .pointer (some ⟨p2, 0, none⟩)] W fun e w' => e = .returned (.bool (q x)) ∧ Below W.heap.size W w') :
    Calls Try.prog 163 #[.slice a xs.length cap, .func (.func 138) #[] #[.pointer (some ⟨p, 0, none⟩), .pointer (some ⟨p2, 0, none⟩)]] w (IdxP (xs.any q) w) := by
  rcases hS with rfl | ⟨b, off, rfl, hb, hc⟩
  · clear hC
    go_enter Try.func163, Try.ntmps163
    go_wp2
    go_rounds 1
    go_returns
    exact ⟨-1, rfl, rfl, Below.refl _ _⟩
  have HC := Lib.hid hC
  have HZ := Lib.hid hc
  clear hC hc
  go_enter Try.func163, Try.ntmps163
  go_wp2
  go_loopw [5, 8] (fun _ i wr => ∃ k : Nat, k ≤ xs.length ∧ i = .int .i64 k ∧ Hid (∀ x ∈ xs.take k, q x = false) ∧ Hid (Below w.heap.size w wr)) (fun _ i _ => xs.length - (intOf i).toNat)
  case atStart => exact ⟨0, Nat.zero_le _, rfl, fun x hx => absurd hx (by simp), Below.refl _ _⟩
  case round =>
    obtain ⟨k, hk, rfl, hin, hB⟩ := hrel
    by_cases hlt : k < xs.length
    · obtain ⟨x, hx⟩ : ∃ x, xs[k] = x := ⟨_, rfl⟩
      have hx' : xs[k]? = some x := by rw [List.getElem?_eq_getElem hlt, hx]
      obtain ⟨u, hcu, heu⟩ := HZ.out k x hx'
      have hcu' : wr.cell? ⟨b, off + k, none⟩ = some u := (hB.out.cell (p := ⟨b, off + k, none⟩) hb).trans hcu
      have hmem : x ∈ xs := by rw [← hx]; exact List.getElem_mem hlt
      have HT : Hid (xs.take (k + 1) = xs.take k ++ [x]) := by show _ = _; rw [List.take_succ_eq_append_getElem hlt, hx]
      have HQ := Lib.hid (HC.out wr u x hB.out (hE w wr u x heu hB.out) hmem)
      have HM := Lib.hid hmem
      have hz : b < wr.heap.size := Nat.lt_of_lt_of_le hb hB.out.size
      clear hx hx' hcu heu hmem
      cases hq : q x
      · have HQ' := Lib.hid hq
        go_wp2_with fail
        refine HQ.out.mono ?_
        rintro e w1 ⟨rfl, hb1⟩
        rw [hq]
        clear hq
        have hB1 : Below w.heap.size w w1 := hB.out.trans (hb1.mono hB.out.size)
        clear hb1 hcu' HQ
        go_wp2
        go_roundw
        case rel => exact ⟨k + 1, by omega, by go_num, fun y hy => by
          rw [HT.out, List.mem_append] at hy
          rcases hy with hy | hy
          · exact hin.out y hy
          · simp at hy; subst hy; exact HQ'.out, hB1⟩
        case measure => simp [intOf]; omega
      · have HQ' := Lib.hid hq
        go_wp2_with fail
        refine HQ.out.mono ?_
        rintro e w1 ⟨rfl, hb1⟩
        rw [hq]
        clear hq
        have hB1 : Below w.heap.size w w1 := hB.out.trans (hb1.mono hB.out.size)
        clear hb1 hcu' HQ
        go_wp2
        go_returns
        refine ⟨k, rfl, ?_, hB1⟩
        rw [if_pos (List.any_eq_true.2 ⟨x, HM.out, HQ'.out⟩)]
        omega
    · have HK : Hid (k = xs.length) := by show k = xs.length; omega
      go_wp2
      go_returns
      refine ⟨-1, rfl, ?_, hB.out⟩
      rw [if_neg]
      rw [List.any_eq_true]
      rintro ⟨x, hx, h⟩
      have h2 := hin.out x (by rw [HK.out, List.take_of_length_le (Nat.le_refl _)]; exact hx)
      rw [h2] at h
      cases h

set_option maxHeartbeats 1000000 in
theorem valid2_contains {α : Type} (E : World → Value → α → Prop) (q : α → Bool) (p : Nat) (p2 : Nat) (xs : List α) (a : Option Addr) (cap : Nat) (w : World) (hE : Stable E) (hm : xs.length ≤ 4611686018427387904) (hS : SlA E w a xs)
    (hC : ∀ W u x, Below w.heap.size w W → E W u x → x ∈ xs → Calls Try.prog 138 #[u, .pointer (some ⟨p, 0, none⟩), .pointer (some ⟨p2, 0, none⟩)] W fun e w' => e = .returned (.bool (q x)) ∧ Below W.heap.size W w') :
    Calls Try.prog 130 #[.slice a xs.length cap, .func (.func 138) #[] #[.pointer (some ⟨p, 0, none⟩), .pointer (some ⟨p2, 0, none⟩)]] w fun e w' => e = .returned (.bool (xs.any q)) ∧ Below w.heap.size w w' := by
  have H := Lib.hid (valid2_index E q p p2 xs a cap w hE hm hS hC)
  clear hS hC
  cases ha : xs.any q
  all_goals
    have HA := Lib.hid ha
    clear ha
    go_enter Try.func130, Try.ntmps130
    go_wp2_with fail
    refine H.out.mono ?_
    rintro e w' ⟨r, rfl, hr, hB⟩
    rw [HA.out] at hr
    simp at hr
    try subst hr
    go_wp2
    go_returns
    exact ⟨rfl, hB⟩

set_option maxHeartbeats 1000000 in
theorem longer2_index {α : Type} (E : World → Value → α → Prop) (q : α → Bool) (p : Nat) (xs : List α) (a : Option Addr) (cap : Nat) (w : World) (hE : Stable E) (hm : xs.length ≤ 4611686018427387904) (hS : SlA E w a xs)
    (hC : ∀ W u x, Below w.heap.size w W → E W u x → x ∈ xs → Calls Try.prog 133 #[u, .pointer (some ⟨p, 0, none⟩)] W fun e w' => e = .returned (.bool (q x)) ∧ Below W.heap.size W w') :
    Calls Try.prog 164 #[.slice a xs.length cap, .func (.func 133) #[] #[.pointer (some ⟨p, 0, none⟩)]] w (IdxP (xs.any q) w) := by
  rcases hS with rfl | ⟨b, off, rfl, hb, hc⟩
  · clear hC
    go_enter Try.func164, Try.ntmps164
    go_wp2
    go_rounds 1
    go_returns
    exact ⟨-1, rfl, rfl, Below.refl _ _⟩
  have HC := Lib.hid hC
  have HZ := Lib.hid hc
  clear hC hc
  go_enter Try.func164, Try.ntmps164
  go_wp2
  go_loopw [5, 8] (fun _ i wr => ∃ k : Nat, k ≤ xs.length ∧ i = .int .i64 k ∧ Hid (∀ x ∈ xs.take k, q x = false) ∧ Hid (Below w.heap.size w wr)) (fun _ i _ => xs.length - (intOf i).toNat)
  case atStart => exact ⟨0, Nat.zero_le _, rfl, fun x hx => absurd hx (by simp), Below.refl _ _⟩
  case round =>
    obtain ⟨k, hk, rfl, hin, hB⟩ := hrel
    by_cases hlt : k < xs.length
    · obtain ⟨x, hx⟩ : ∃ x, xs[k] = x := ⟨_, rfl⟩
      have hx' : xs[k]? = some x := by rw [List.getElem?_eq_getElem hlt, hx]
      obtain ⟨u, hcu, heu⟩ := HZ.out k x hx'
      have hcu' : wr.cell? ⟨b, off + k, none⟩ = some u := (hB.out.cell (p := ⟨b, off + k, none⟩) hb).trans hcu
      have hmem : x ∈ xs := by rw [← hx]; exact List.getElem_mem hlt
      have HT : Hid (xs.take (k + 1) = xs.take k ++ [x]) := by show _ = _; rw [List.take_succ_eq_append_getElem hlt, hx]
      have HQ := Lib.hid (HC.out wr u x hB.out (hE w wr u x heu hB.out) hmem)
      have HM := Lib.hid hmem
      have hz : b < wr.heap.size := Nat.lt_of_lt_of_le hb hB.out.size
      clear hx hx' hcu heu hmem
      cases hq : q x
      · have HQ' := Lib.hid hq
        go_wp2_with fail
        refine HQ.out.mono ?_
        rintro e w1 ⟨rfl, hb1⟩
        rw [hq]
        clear hq
        have hB1 : Below w.heap.size w w1 := hB.out.trans (hb1.mono hB.out.size)
        clear hb1 hcu' HQ
        go_wp2
        go_roundw
        case rel => exact ⟨k + 1, by omega, by go_num, fun y hy => by
          rw [HT.out, List.mem_append] at hy
          rcases hy with hy | hy
          · exact hin.out y hy
          · simp at hy; subst hy; exact HQ'.out, hB1⟩
        case measure => simp [intOf]; omega
      · have HQ' := Lib.hid hq
        go_wp2_with fail
        refine HQ.out.mono ?_
        rintro e w1 ⟨rfl, hb1⟩
        rw [hq]
        clear hq
        have hB1 : Below w.heap.size w w1 := hB.out.trans (hb1.mono hB.out.size)
        clear hb1 hcu' HQ
        go_wp2
        go_returns
        refine ⟨k, rfl, ?_, hB1⟩
        rw [if_pos (List.any_eq_true.2 ⟨x, HM.out, HQ'.out⟩)]
        omega
    · have HK : Hid (k = xs.length) := by show k = xs.length; omega
      go_wp2
      go_returns
      refine ⟨-1, rfl, ?_, hB.out⟩
      rw [if_neg]
      rw [List.any_eq_true]
      rintro ⟨x, hx, h⟩
      have h2 := hin.out x (by rw [HK.out, List.take_of_length_le (Nat.le_refl _)]; exact hx)
      rw [h2] at h
      cases h

set_option maxHeartbeats 1000000 in
theorem longer2_contains {α : Type} (E : World → Value → α → Prop) (q : α → Bool) (p : Nat) (xs : List α) (a : Option Addr) (cap : Nat) (w : World) (hE : Stable E) (hm : xs.length ≤ 4611686018427387904) (hS : SlA E w a xs)
    (hC : ∀ W u x, Below w.heap.size w W → E W u x → x ∈ xs → Calls Try.prog 133 #[u, .pointer (some ⟨p, 0, none⟩)] W fun e w' => e = .returned (.bool (q x)) ∧ Below W.heap.size W w') :
    Calls Try.prog 132 #[.slice a xs.length cap, .func (.func 133) #[] #[.pointer (some ⟨p, 0, none⟩)]] w fun e w' => e = .returned (.bool (xs.any q)) ∧ Below w.heap.size w w' := by
  have H := Lib.hid (longer2_index E q p xs a cap w hE hm hS hC)
  clear hS hC
  cases ha : xs.any q
  all_goals
    have HA := Lib.hid ha
    clear ha
    go_enter Try.func132, Try.ntmps132
    go_wp2_with fail
    refine H.out.mono ?_
    rintro e w' ⟨r, rfl, hr, hB⟩
    rw [HA.out] at hr
    simp at hr
    try subst hr
    go_wp2
    go_returns
    exact ⟨rfl, hB⟩

set_option maxHeartbeats 1000000 in
theorem allf_index {α : Type} (E : World → Value → α → Prop) (q : α → Bool) (p : Nat) (p2 : Nat) (xs : List α) (a : Option Addr) (cap : Nat) (w : World) (hE : Stable E) (hm : xs.length ≤ 4611686018427387904) (hS : SlA E w a xs)
    (hC : ∀ W u x, Below w.heap.size w W → E W u x → x ∈ xs → Calls Try.prog 123 #[u, .pointer (some ⟨p, 0, none⟩), .pointer (some ⟨p2, 0, none⟩)] W fun e w' => e = .returned (.bool (q x)) ∧ Below W.heap.size W w') :
    Calls Try.prog 151 #[.slice a xs.length cap, .func (.func 123) #[] #[.pointer (some ⟨p, 0, none⟩), .pointer (some ⟨p2, 0, none⟩)]] w (IdxP (xs.any q) w) := by
  rcases hS with rfl | ⟨b, off, rfl, hb, hc⟩
  · clear hC
    go_enter Try.func151, Try.ntmps151
    go_wp2
    go_rounds 1
    go_returns
    exact ⟨-1, rfl, rfl, Below.refl _ _⟩
  have HC := Lib.hid hC
  have HZ := Lib.hid hc
  clear hC hc
  go_enter Try.func151, Try.ntmps151
  go_wp2
  go_loopw [5, 8] (fun _ i wr => ∃ k : Nat, k ≤ xs.length ∧ i = .int .i64 k ∧ Hid (∀ x ∈ xs.take k, q x = false) ∧ Hid (Below w.heap.size w wr)) (fun _ i _ => xs.length - (intOf i).toNat)
  case atStart => exact ⟨0, Nat.zero_le _, rfl, fun x hx => absurd hx (by simp), Below.refl _ _⟩
  case round =>
    obtain ⟨k, hk, rfl, hin, hB⟩ := hrel
    by_cases hlt : k < xs.length
    · obtain ⟨x, hx⟩ : ∃ x, xs[k] = x := ⟨_, rfl⟩
      have hx' : xs[k]? = some x := by rw [List.getElem?_eq_getElem hlt, hx]
      obtain ⟨u, hcu, heu⟩ := HZ.out k x hx'
      have hcu' : wr.cell? ⟨b, off + k, none⟩ = some u := (hB.out.cell (p := ⟨b, off + k, none⟩) hb).trans hcu
      have hmem : x ∈ xs := by rw [← hx]; exact List.getElem_mem hlt
      have HT : Hid (xs.take (k + 1) = xs.take k ++ [x]) := by show _ = _; rw [List.take_succ_eq_append_getElem hlt, hx]
      have HQ := Lib.hid (HC.out wr u x hB.out (hE w wr u x heu hB.out) hmem)
      have HM := Lib.hid hmem
      have hz : b < wr.heap.size := Nat.lt_of_lt_of_le hb hB.out.size
      clear hx hx' hcu heu hmem
      cases hq : q x
      · have HQ' := Lib.hid hq
        go_wp2_with fail
        refine HQ.out.mono ?_
        rintro e w1 ⟨rfl, hb1⟩
        rw [hq]
        clear hq
        have hB1 : Below w.heap.size w w1 := hB.out.trans (hb1.mono hB.out.size)
        clear hb1 hcu' HQ
        go_wp2
        go_roundw
        case rel => exact ⟨k + 1, by omega, by go_num, fun y hy => by
          rw [HT.out, List.mem_append] at hy
          rcases hy with hy | hy
          · exact hin.out y hy
          · simp at hy; subst hy; exact HQ'.out, hB1⟩
        case measure => simp [intOf]; omega
      · have HQ' := Lib.hid hq
        go_wp2_with fail
        refine HQ.out.mono ?_
        rintro e w1 ⟨rfl, hb1⟩
        rw [hq]
        clear hq
        have hB1 : Below w.heap.size w w1 := hB.out.trans (hb1.mono hB.out.size)
        clear hb1 hcu' HQ
        go_wp2
        go_returns
        refine ⟨k, rfl, ?_, hB1⟩
        rw [if_pos (List.any_eq_true.2 ⟨x, HM.out, HQ'.out⟩)]
        omega
    · have HK : Hid (k = xs.length) := by show k = xs.length; omega
      go_wp2
      go_returns
      refine ⟨-1, rfl, ?_, hB.out⟩
      rw [if_neg]
      rw [List.any_eq_true]
      rintro ⟨x, hx, h⟩
      have h2 := hin.out x (by rw [HK.out, List.take_of_length_le (Nat.le_refl _)]; exact hx)
      rw [h2] at h
      cases h

set_option maxHeartbeats 1000000 in
theorem allf_contains {α : Type} (E : World → Value → α → Prop) (q : α → Bool) (p : Nat) (p2 : Nat) (xs : List α) (a : Option Addr) (cap : Nat) (w : World) (hE : Stable E) (hm : xs.length ≤ 4611686018427387904) (hS : SlA E w a xs)
    (hC : ∀ W u x, Below w.heap.size w W → E W u x → x ∈ xs → Calls Try.prog 123 #[u, .pointer (some ⟨p, 0, none⟩), .pointer (some ⟨p2, 0, none⟩)] W fun e w' => e = .returned (.bool (q x)) ∧ Below W.heap.size W w') :
    Calls Try.prog 124 #[.slice a xs.length cap, .func (.func 123) #[] #[.pointer (some ⟨p, 0, none⟩), .pointer (some ⟨p2, 0, none⟩)]] w fun e w' => e = .returned (.bool (xs.any q)) ∧ Below w.heap.size w w' := by
  have H := Lib.hid (allf_index E q p p2 xs a cap w hE hm hS hC)
  clear hS hC
  cases ha : xs.any q
  all_goals
    have HA := Lib.hid ha
    clear ha
    go_enter Try.func124, Try.ntmps124
    go_wp2_with fail
    refine H.out.mono ?_
    rintro e w' ⟨r, rfl, hr, hB⟩
    rw [HA.out] at hr
    simp at hr
    try subst hr
    go_wp2
    go_returns
    exact ⟨rfl, hB⟩

/-- A slice of pairs of integers in memory. -/
def PairsIn (w : World) (b : Nat) (xs : List (Int × Int)) : Prop := ∀ i x, xs[i]? = some x → w.cell? ⟨b, i * 2, none⟩ = some (.int .i64 x.1) ∧ w.cell? ⟨b, i * 2 + 1, none⟩ = some (.int .i64 x.2)

set_option maxHeartbeats 1000000 in
theorem classes_index (q : Int × Int → Bool) (p : Nat) (xs : List (Int × Int)) (b : Nat) (cap : Nat) (w : World) (hm : xs.length ≤ 4611686018427387904) (hb : b < w.heap.size) (hc : PairsIn w b xs)
    (hC : ∀ W (x : Int × Int), Below w.heap.size w W → x ∈ xs → Calls Try.prog 139 #[.agg #[.int .i64 x.1, .int .i64 x.2], .pointer (some ⟨p, 0, none⟩)] W fun e w' => e = .returned (.bool (q x)) ∧ Below W.heap.size W w') :
    Calls Try.prog 165 #[.slice (some ⟨b, 0, none⟩) xs.length cap, .func (.func 139) #[] #[.pointer (some ⟨p, 0, none⟩)]] w (IdxP (xs.any q) w) := by
  have HC := Lib.hid hC
  have HZ := Lib.hid hc
  clear hC hc
  go_enter Try.func165, Try.ntmps165
  go_wp2
  go_loopw [5, 8] (fun _ i wr => ∃ k : Nat, k ≤ xs.length ∧ i = .int .i64 k ∧ Hid (∀ x ∈ xs.take k, q x = false) ∧ Hid (Below w.heap.size w wr)) (fun _ i _ => xs.length - (intOf i).toNat)
  case atStart => exact ⟨0, Nat.zero_le _, rfl, fun x hx => absurd hx (by simp), Below.refl _ _⟩
  case round =>
    obtain ⟨k, hk, rfl, hin, hB⟩ := hrel
    by_cases hlt : k < xs.length
    · obtain ⟨x, hx⟩ : ∃ x, xs[k] = x := ⟨_, rfl⟩
      have hx' : xs[k]? = some x := by rw [List.getElem?_eq_getElem hlt, hx]
      obtain ⟨hcu, heu⟩ := HZ.out k x hx'
      have hcu' := (hB.out.cell (p := ⟨b, k * 2, none⟩) hb).trans hcu
      have heu' := (hB.out.cell (p := ⟨b, k * 2 + 1, none⟩) hb).trans heu
      have hmem : x ∈ xs := by rw [← hx]; exact List.getElem_mem hlt
      have HT : Hid (xs.take (k + 1) = xs.take k ++ [x]) := by show _ = _; rw [List.take_succ_eq_append_getElem hlt, hx]
      have HQ := Lib.hid (HC.out wr x hB.out hmem)
      have HM := Lib.hid hmem
      have hz : b < wr.heap.size := Nat.lt_of_lt_of_le hb hB.out.size
      clear hx hx' hcu heu hmem
      cases hq : q x
      · have HQ' := Lib.hid hq
        go_wp2_with fail
        refine HQ.out.mono ?_
        rintro e w1 ⟨rfl, hb1⟩
        rw [hq]
        clear hq
        have hB1 : Below w.heap.size w w1 := hB.out.trans (hb1.mono hB.out.size)
        clear hb1 hcu' heu' HQ
        go_wp2
        go_roundw
        case rel => exact ⟨k + 1, by omega, by go_num, fun y hy => by
          rw [HT.out, List.mem_append] at hy
          rcases hy with hy | hy
          · exact hin.out y hy
          · simp at hy; subst hy; exact HQ'.out, hB1⟩
        case measure => simp [intOf]; omega
      · have HQ' := Lib.hid hq
        go_wp2_with fail
        refine HQ.out.mono ?_
        rintro e w1 ⟨rfl, hb1⟩
        rw [hq]
        clear hq
        have hB1 : Below w.heap.size w w1 := hB.out.trans (hb1.mono hB.out.size)
        clear hb1 hcu' heu' HQ
        go_wp2
        go_returns
        refine ⟨k, rfl, ?_, hB1⟩
        rw [if_pos (List.any_eq_true.2 ⟨x, HM.out, HQ'.out⟩)]
        omega
    · have HK : Hid (k = xs.length) := by show k = xs.length; omega
      go_wp2
      go_returns
      refine ⟨-1, rfl, ?_, hB.out⟩
      rw [if_neg]
      rw [List.any_eq_true]
      rintro ⟨x, hx, h⟩
      have h2 := hin.out x (by rw [HK.out, List.take_of_length_le (Nat.le_refl _)]; exact hx)
      rw [h2] at h
      cases h

set_option maxHeartbeats 1000000 in
theorem classes_contains (q : Int × Int → Bool) (p : Nat) (xs : List (Int × Int)) (b : Nat) (cap : Nat) (w : World) (hm : xs.length ≤ 4611686018427387904) (hb : b < w.heap.size) (hc : PairsIn w b xs)
    (hC : ∀ W (x : Int × Int), Below w.heap.size w W → x ∈ xs → Calls Try.prog 139 #[.agg #[.int .i64 x.1, .int .i64 x.2], .pointer (some ⟨p, 0, none⟩)] W fun e w' => e = .returned (.bool (q x)) ∧ Below W.heap.size W w') :
    Calls Try.prog 140 #[.slice (some ⟨b, 0, none⟩) xs.length cap, .func (.func 139) #[] #[.pointer (some ⟨p, 0, none⟩)]] w fun e w' => e = .returned (.bool (xs.any q)) ∧ Below w.heap.size w w' := by
  have H := Lib.hid (classes_index q p xs b cap w hm hb hc hC)
  clear hc hC
  cases ha : xs.any q
  all_goals
    have HA := Lib.hid ha
    clear ha
    go_enter Try.func140, Try.ntmps140
    go_wp2_with fail
    refine H.out.mono ?_
    rintro e w' ⟨r, rfl, hr, hB⟩
    rw [HA.out] at hr
    simp at hr
    try subst hr
    go_wp2
    go_returns
    exact ⟨rfl, hB⟩
end Go.Proofs.Ytpmeahmjmpgbfaa
