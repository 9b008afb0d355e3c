/- Contracts of package exact's numbers: the greatest common divisor, ratios, rounding up. Over Int. -/
import Derived.Test.YtknphpihipkdpaaProg
import Derived.WalkKit
import Derived.WalkSpells
import Derived.WalkLawsBesides
import Derived.RegionTactic
import Derived.ChangeAlike
import Derived.Deep.QuietTactic
import Derived.BigQuiet
import Derived.Lib.Hide
import Derived.Handy
namespace Go.Proofs.Ytknphpihipkdpaa
open Go.RowKit

/-- A block of cells that holds just these values, and may be written. -/
def Box (w : World) (g : Nat) (cs : Array Value) : Prop := g < w.heap.size ∧ (∀ i, w.cell? ⟨g, i, none⟩ = cs[i]?) ∧ ∀ i, w.frozen? ⟨g, i, none⟩ = false

theorem cell_at {w : World} {g : Nat} {cs : Array Value} {t : TypeId} {fr : Nat × Nat} (h : w.heap[g]? = some (.cells cs t fr)) (i : Nat) : w.cell? ⟨g, i, none⟩ = cs[i]? := by simp [World.cell?, h]
theorem free_at {w : World} {g : Nat} {cs : Array Value} {t : TypeId} (h : w.heap[g]? = some (.cells cs t (0, 0))) (i : Nat) : w.frozen? ⟨g, i, none⟩ = false := by simp [World.frozen?, h]

theorem Box.new (w : World) (cs : Array Value) (T : TypeId) : Box (w.alloc (.cells cs T)) w.heap.size cs := by
  have h := (MapKept.heap_alloc w (.cells cs T)).1
  exact ⟨by simp, cell_at h, free_at h⟩

theorem Box.newAt {n : Nat} (w : World) (cs : Array Value) (T : TypeId) (hn : n = w.heap.size) : Box (w.alloc (.cells cs T)) n cs := by
  subst hn
  exact Box.new w cs T

theorem Box.below {w w' : World} {g : Nat} {cs : Array Value} (h : Box w g cs) (hb : Below w.heap.size w w') : Box w' g cs :=
  ⟨Nat.lt_of_lt_of_le h.1 hb.size, fun i => (hb.cell (p := ⟨g, i, none⟩) h.1).trans (h.2.1 i), fun i => (hb.frozen (p := ⟨g, i, none⟩) h.1).trans (h.2.2 i)⟩

theorem Box.alloc {w : World} {g : Nat} {cs : Array Value} (h : Box w g cs) (o : Obj) : Box (w.alloc o) g cs := h.below ((Below.refl _ _).alloc (Nat.le_refl _) o)

theorem Box.setCell {w : World} {g i : Nat} {cs : Array Value} (h : Box w g cs) (hi : i < cs.size) (v : Value) : Box (w.setCell ⟨g, i, none⟩ v) g (cs.setIfInBounds i v) := by
  refine ⟨by rw [World.size_setCell]; exact h.1, fun j => ?_, fun j => by rw [World.frozen?_setCell]; exact h.2.2 j⟩
  by_cases e : i = j
  · subst e
    have hc : w.cell? ⟨g, i, none⟩ = some cs[i] := by rw [h.2.1 i]; simp [hi]
    rw [World.cell?_setCell_same _ _ _ hc]
    simp [hi]
  · rw [World.cell?_setCell_other _ _ _ _ (fun x => e (by injection x)), h.2.1 j, Array.getElem?_setIfInBounds, if_neg e]

theorem Box.setOther {w : World} {g g' i : Nat} {cs : Array Value} (h : Box w g cs) (hg : g' ≠ g) (v : Value) : Box (w.setCell ⟨g', i, none⟩ v) g cs := by
  refine ⟨by rw [World.size_setCell]; exact h.1, fun j => ?_, fun j => by rw [World.frozen?_setCell]; exact h.2.2 j⟩
  rw [World.cell?_setCell_other _ _ _ _ (fun x => hg (by injection x)), h.2.1 j]

theorem Box.drew {w : World} {g : Nat} {cs : Array Value} (h : Box w g cs) : Box w.drew g cs := h.below ((Below.refl _ _).drew)

theorem stepB {w X w2 : World} (hX : Below w.heap.size w X) (hb : Below X.heap.size X w2) : Below w.heap.size w w2 := hX.trans (hb.mono hX.size)

theorem below_drewN (B : Nat) (w : World) (n : Nat) : Below B w (w.drewN n) := ⟨rfl, rfl, rfl, Nat.le_refl _, fun _ _ => rfl⟩

set_option maxHeartbeats 400000 in
theorem gcd_any (a b : Int) (w : World) (ha : 0 ≤ a) (hb : 0 ≤ b) :
    Calls Try.prog 114 #[.int .i64 a, .int .i64 b] w fun e w' => e = .returned (.int .i64 (Int.gcd a b)) ∧ Below w.heap.size w w' := by
  go_enter Try.func114, Try.ntmps114
  go_wp2
  go_loopw [0, 1] (fun x y wr => ∃ p q : Nat, x = .int .i64 p ∧ y = .int .i64 q ∧ Hid (Nat.gcd p q = Int.gcd a b) ∧ Hid (Below w.heap.size w wr)) (fun _ y _ => (intOf y).toNat)
  case atStart =>
    obtain ⟨p, rfl⟩ := Int.eq_ofNat_of_zero_le ha
    obtain ⟨q, rfl⟩ := Int.eq_ofNat_of_zero_le hb
    exact ⟨p, q, rfl, rfl, rfl, Below.refl _ _⟩
  case round =>
    obtain ⟨p, q, rfl, rfl, hg, hbel⟩ := hrel
    by_cases hq : q = 0
    · subst hq
      go_wp2
      go_ret
      refine ⟨?_, hbel⟩
      have := hg.out
      simp at this
      rw [this]
      rfl
    · have hq1 : (1 : Int) ≤ q := by omega
      have hg' : Hid (Nat.gcd q (p % q) = Int.gcd a b) := by
        have := hg.out
        rw [Nat.gcd_comm, ← Nat.gcd_rec, Nat.gcd_comm]
        exact this
      clear hg
      go_wp2
      go_quiet (fail)
      go_wp2
      go_roundw
      case rel => exact ⟨q, p % q, rfl, by first | rfl | simp, hg', Below.trans hbel (below_drewN _ _ _)⟩
      case measure =>
        have := Nat.mod_lt p (Nat.pos_of_ne_zero hq)
        simp [intOf]; omega

/-- A ratio in lowest terms, as the program gives it. -/
def ratV (n d : Int) : Value := .agg #[.int .i64 (n / Int.gcd n d), .int .i64 (d / Int.gcd n d)]

theorem gcd_max_neg (n d : Int) : Int.gcd (max n (-n)) d = Int.gcd n d := by
  rcases Int.le_total 0 n with h | h
  · rw [Int.max_eq_left (by omega)]
  · rw [Int.max_eq_right (by omega), Int.neg_gcd]

theorem gcd_pos_of (n d : Int) (hd : 1 ≤ d) : 1 ≤ (Int.gcd n d : Int) := by
  have : 0 < Int.gcd n d := Int.gcd_pos_of_ne_zero_right _ (by omega)
  omega

theorem bcell {W w1 : World} (hb : Below W.heap.size W w1) : (∀ b o, b < W.heap.size → w1.cell? ⟨b, o, none⟩ = W.cell? ⟨b, o, none⟩) ∧ (∀ b o, b < W.heap.size → w1.frozen? ⟨b, o, none⟩ = W.frozen? ⟨b, o, none⟩) :=
  ⟨fun b o h => hb.cell (p := ⟨b, o, none⟩) h, fun b o h => hb.frozen (p := ⟨b, o, none⟩) h⟩

set_option maxHeartbeats 400000 in
theorem ratio_any (n d : Int) (w : World) (hn : -9223372036854775807 ≤ n) (hn2 : n ≤ 9223372036854775807) (hd : 1 ≤ d) (hd2 : d ≤ 9223372036854775807) :
    Calls Try.prog 87 #[.int .i64 n, .int .i64 d] w fun e w' => e = .returned (ratV n d) ∧ Below w.heap.size w w' := by
  have hg := gcd_pos_of n d hd
  have hgd : (Int.gcd n d : Int) ≤ d := Int.le_of_dvd (by omega) (Int.gcd_dvd_right n d)
  have hq1 : Hid (n.tdiv (Int.gcd n d) = n / Int.gcd n d) := Int.tdiv_eq_ediv_of_dvd (Int.gcd_dvd_left n d)
  have HG := Lib.hid (gcd_max_neg n d)
  have hcase : n < 0 ∨ 0 ≤ n := by omega
  rcases hcase with h | h
  · go_enter Try.func87, Try.ntmps87
    have h' : ¬ -n ≤ n := by omega
    go_wp2_with fail
    refine (gcd_any _ _ _ (by omega) (by omega)).mono ?_
    rintro e w1 ⟨rfl, hb1⟩
    rw [Int.neg_gcd]
    obtain ⟨hc, hf⟩ := bcell hb1
    have hB : Below w.heap.size w w1 := Below.trans (by go_grown) (hb1.mono (by simp))
    generalize hG : Int.gcd n d = g at *
    have HE := Lib.hid hG
    clear hG
    go_wp2
    go_region
    go_wp2
    refine bodyPost_ret (v := .agg #[.int .i64 (n.tdiv g), .int .i64 (d / g)]) (by simp [results, Try.results87, go_sem, hc]) rfl ?_
    exact ⟨by unfold ratV; rw [HE.out, ← hq1.out], by go_grown⟩
  · go_enter Try.func87, Try.ntmps87
    have h' : -n ≤ n := by omega
    go_wp2_with fail
    refine (gcd_any _ _ _ (by omega) (by omega)).mono ?_
    rintro e w1 ⟨rfl, hb1⟩
    obtain ⟨hc, hf⟩ := bcell hb1
    have hB : Below w.heap.size w w1 := Below.trans (by go_grown) (hb1.mono (by simp))
    generalize hG : Int.gcd n d = g at *
    have HE := Lib.hid hG
    clear hG
    go_wp2
    go_region
    go_wp2
    refine bodyPost_ret (v := .agg #[.int .i64 (n / g), .int .i64 (d / g)]) (by simp [results, Try.results87, go_sem, hc]) rfl ?_
    exact ⟨by unfold ratV; rw [HE.out], by go_grown⟩
end Go.Proofs.Ytknphpihipkdpaa
