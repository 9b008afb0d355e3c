/- Contract of exact.AllFrom: whether all numbers of a list lie within two bounds. -/
import Derived.Test.YtkmhmmibdfalpaaGreatSmall
namespace Go.Proofs.YtkmhmmibdfalpaaGreat
open Go.RowKit

/-- The cells of a list of integers in memory. -/
def Ints (w : World) (b off : Nat) (zs : List Int) : Prop := ∀ i, i < zs.length → w.cell? ⟨b, off + i, none⟩ = some (.int .i64 (zs[i]?.getD 0))

def inB (lo hi z : Int) : Bool := decide (lo ≤ z ∧ z ≤ hi)
theorem outB_eq (lo hi z : Int) : outB lo hi z = !inB lo hi z := rfl

/-- The first place of a number that lies outside, or -1. -/
def IdxPost (lo hi : Int) (zs : List Int) (w : World) (e : Ending) (w' : World) : Prop := ∃ r : Int, e = .returned (.int .i64 r) ∧ (if zs.all (inB lo hi) = true then r = -1 else 0 ≤ r) ∧ w = w'

set_option maxHeartbeats 400000 in
theorem index_any (lo hi : Int) (p q b off cap : Nat) (zs : List Int) (w : World) (h1 : w.cell? ⟨p, 0, none⟩ = some (.int .i64 lo)) (h2 : w.cell? ⟨q, 0, none⟩ = some (.int .i64 hi))
    (hz : Ints w b off zs) (hl : zs.length ≤ 9223372036854775807) :
    Calls Tryz.prog 85 #[.slice (some ⟨b, off, none⟩) zs.length cap, .func (.func 65) #[] #[.pointer (some ⟨p, 0, none⟩), .pointer (some ⟨q, 0, none⟩)]] w (IdxPost lo hi zs w) := by
  have H1 := Lib.hid h1
  have H2 := Lib.hid h2
  have HZ := Lib.hid hz
  clear h1 h2 hz
  go_enter Tryz.func85, Tryz.ntmps85
  go_wp2
  go_loop [5, 8] (fun _ i => ∃ k : Nat, k ≤ zs.length ∧ i = .int .i64 k ∧ Hid (∀ j, j < k → inB lo hi (zs[j]?.getD 0) = true)) (fun _ i => zs.length - (intOf i).toNat)
  case atStart => exact ⟨0, Nat.zero_le _, rfl, fun j hj => absurd hj (by omega)⟩
  case round =>
    obtain ⟨k, hk, rfl, hin⟩ := hrel
    by_cases hlt : k < zs.length
    · have hc0 := HZ.out k hlt
      obtain ⟨z, hz⟩ : ∃ z, zs[k]?.getD 0 = z := ⟨_, rfl⟩
      have hc : w.cell? ⟨b, off + k, none⟩ = some (.int .i64 z) := by rw [← hz]; exact hc0
      clear hc0
      have HE := Lib.hid hz
      clear hz
      by_cases hi1 : inB lo hi z = true
      · have ho : outB lo hi z = false := by rw [outB_eq, hi1]; rfl
        have HI := Lib.hid hi1
        clear hi1
        go_wp2_with fail
        refine (out_any z lo hi p q _ H1.out H2.out).mono ?_
        rintro e w' ⟨rfl, rfl⟩
        go_wp2
        go_round
        case rel => exact ⟨k + 1, by omega, by go_num, fun j hj => by
          by_cases e : j = k
          · subst e; rw [HE.out]; exact HI.out
          · exact hin.out j (by omega)⟩
        case measure => simp [intOf]; omega
      · have ho : outB lo hi z = true := by rw [outB_eq]; simpa using hi1
        have HI := Lib.hid hi1
        clear hi1
        go_wp2_with fail
        refine (out_any z lo hi p q _ H1.out H2.out).mono ?_
        rintro e w' ⟨rfl, rfl⟩
        go_wp2
        go_returns
        refine ⟨k, rfl, ?_, rfl⟩
        rw [if_neg]
        · omega
        · rw [List.all_eq_true]
          intro h
          have hm : z ∈ zs := by rw [← HE.out, List.getElem?_eq_getElem hlt]; exact List.getElem_mem hlt
          exact HI.out (h z hm)
    · have hk' : k = zs.length := by omega
      have HK := Lib.hid hk'
      clear hk'
      go_wp2
      go_returns
      refine ⟨-1, rfl, ?_, rfl⟩
      rw [if_pos]
      rw [List.all_eq_true]
      intro x hx
      obtain ⟨j, hj, rfl⟩ := List.getElem_of_mem hx
      have := hin.out j (by have := HK.out; omega)
      rwa [List.getElem?_eq_getElem hj] at this

set_option maxHeartbeats 400000 in
theorem contains_any (lo hi : Int) (p q b off cap : Nat) (zs : List Int) (w : World) (h1 : w.cell? ⟨p, 0, none⟩ = some (.int .i64 lo)) (h2 : w.cell? ⟨q, 0, none⟩ = some (.int .i64 hi))
    (hz : Ints w b off zs) (hl : zs.length ≤ 9223372036854775807) :
    Calls Tryz.prog 66 #[.slice (some ⟨b, off, none⟩) zs.length cap, .func (.func 65) #[] #[.pointer (some ⟨p, 0, none⟩), .pointer (some ⟨q, 0, none⟩)]] w fun e w' => e = .returned (.bool (!zs.all (inB lo hi))) ∧ w = w' := by
  have H := Lib.hid (index_any lo hi p q b off cap zs w h1 h2 hz hl)
  clear h1 h2 hz
  by_cases ha : zs.all (inB lo hi) = true
  · have HA := Lib.hid ha
    clear ha
    go_enter Tryz.func66, Tryz.ntmps66
    go_wp2_with fail
    refine H.out.mono ?_
    rintro e w' ⟨r, rfl, hr, rfl⟩
    rw [if_pos HA.out] at hr
    subst hr
    go_wp2
    go_returns
    exact ⟨ret_bool (by rw [HA.out]; rfl), rfl⟩
  · have HA := Lib.hid ha
    clear ha
    go_enter Tryz.func66, Tryz.ntmps66
    go_wp2_with fail
    refine H.out.mono ?_
    rintro e w' ⟨r, rfl, hr, rfl⟩
    rw [if_neg HA.out] at hr
    go_wp2
    go_returns
    exact ⟨ret_bool (by have := HA.out; revert this; cases zs.all (inB lo hi) <;> simp), rfl⟩

/-- Whether all numbers of a list lie within two bounds. -/
def allB (lo hi : Int) (zs : List Int) : Bool := zs.all (inB lo hi)

theorem Ints.below {w w' : World} {b off : Nat} {zs : List Int} (h : Ints w b off zs) (hb : Below w.heap.size w w') (hlt : b < w.heap.size) : Ints w' b off zs :=
  fun i hi => (hb.cell (p := ⟨b, off + i, none⟩) hlt).trans (h i hi)

set_option maxHeartbeats 400000 in
theorem allFrom_any (lo hi : Int) (b off cap : Nat) (zs : List Int) (w : World) (hb : b < w.heap.size)
    (hz : Ints w b off zs) (hl : zs.length ≤ 9223372036854775807) :
    Calls Tryz.prog 43 #[.int .i64 lo, .int .i64 hi, .slice (some ⟨b, off, none⟩) zs.length cap] w fun e w' => e = .returned (.bool (allB lo hi zs)) ∧ Below w.heap.size w w' := by
  have HZ := Lib.hid hz
  clear hz
  go_enter Tryz.func43, Tryz.ntmps43
  go_wp2_with fail
  refine (contains_any lo hi _ _ b off cap zs _ (by go_cell) (by go_cell) ?_ hl).mono ?_
  · exact HZ.out.below (by go_grown) hb
  rintro e w' ⟨rfl, rfl⟩
  go_wp2
  go_returns
  exact ⟨ret_bool (by simp [allB]), by go_grown⟩

theorem allFrom1 (lo hi x : Int) (b cap : Nat) (w : World) (hb : b < w.heap.size) (h0 : w.cell? ⟨b, 0, none⟩ = some (.int .i64 x)) :
    Calls Tryz.prog 43 #[.int .i64 lo, .int .i64 hi, .slice (some ⟨b, 0, none⟩) 1 cap] w fun e w' => e = .returned (.bool (allB lo hi [x])) ∧ Below w.heap.size w w' :=
  allFrom_any lo hi b 0 cap [x] w hb (fun i hi => by
    have : i = 0 := by simp at hi; omega
    subst this; exact h0) (by simp)

theorem allFrom2 (lo hi x y : Int) (b cap : Nat) (w : World) (hb : b < w.heap.size) (h0 : w.cell? ⟨b, 0, none⟩ = some (.int .i64 x)) (h1 : w.cell? ⟨b, 1, none⟩ = some (.int .i64 y)) :
    Calls Tryz.prog 43 #[.int .i64 lo, .int .i64 hi, .slice (some ⟨b, 0, none⟩) 2 cap] w fun e w' => e = .returned (.bool (allB lo hi [x, y])) ∧ Below w.heap.size w w' :=
  allFrom_any lo hi b 0 cap [x, y] w hb (fun i hi => by
    have : i = 0 ∨ i = 1 := by simp at hi; omega
    rcases this with rfl | rfl
    · exact h0
    · exact h1) (by simp)

theorem allFrom3 (lo hi x y z : Int) (b cap : Nat) (w : World) (hb : b < w.heap.size) (h0 : w.cell? ⟨b, 0, none⟩ = some (.int .i64 x)) (h1 : w.cell? ⟨b, 1, none⟩ = some (.int .i64 y)) (h2 : w.cell? ⟨b, 2, none⟩ = some (.int .i64 z)) :
    Calls Tryz.prog 43 #[.int .i64 lo, .int .i64 hi, .slice (some ⟨b, 0, none⟩) 3 cap] w fun e w' => e = .returned (.bool (allB lo hi [x, y, z])) ∧ Below w.heap.size w w' :=
  allFrom_any lo hi b 0 cap [x, y, z] w hb (fun i hi => by
    have : i = 0 ∨ i = 1 ∨ i = 2 := by simp at hi; omega
    rcases this with rfl | rfl | rfl
    · exact h0
    · exact h1
    · exact h2) (by simp)
end Go.Proofs.YtkmhmmibdfalpaaGreat
