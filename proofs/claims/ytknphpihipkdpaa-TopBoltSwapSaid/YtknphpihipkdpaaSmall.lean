/- Contracts of package exact's tests and of handName: whether all numbers lie within two bounds, whether a span is valid, rounding up, the name of a hand. Over Int. -/
import Derived.Test.YtknphpihipkdpaaExact
namespace Go.Proofs.Ytknphpihipkdpaa
open Go.RowKit

theorem ret_int {k : IntKind} {a b : Int} (h : a = b) : Ending.returned (.int k a) = .returned (.int k b) := by rw [h]
theorem ret_bool {a b : Bool} (h : a = b) : Ending.returned (.bool a) = .returned (.bool b) := by rw [h]

/-- Whether a number lies outside two bounds. -/
def outB (lo hi z : Int) : Bool := !decide (lo ≤ z ∧ z ≤ hi)

set_option maxHeartbeats 400000 in
theorem out_any (z lo hi : Int) (p q : Nat) (w : World) (h1 : w.cell? ⟨p, 0, none⟩ = some (.int .i64 lo)) (h2 : w.cell? ⟨q, 0, none⟩ = some (.int .i64 hi)) :
    Calls Try.prog 100 #[.int .i64 z, .pointer (some ⟨p, 0, none⟩), .pointer (some ⟨q, 0, none⟩)] w fun e w' => e = .returned (.bool (outB lo hi z)) ∧ w = w' := by
  by_cases a : z < lo
  · go_enter Try.func100, Try.ntmps100
    go_wp2
    go_returns
    exact ⟨ret_bool (by unfold outB; rw [decide_eq_false (by omega)]; rfl), rfl⟩
  · by_cases b : hi < z
    · go_enter Try.func100, Try.ntmps100
      go_wp2
      go_returns
      exact ⟨ret_bool (by unfold outB; rw [decide_eq_false (by omega)]; rfl), rfl⟩
    · go_enter Try.func100, Try.ntmps100
      go_wp2
      go_returns
      exact ⟨ret_bool (by unfold outB; rw [decide_eq_true (by omega)]; rfl), rfl⟩

theorem push_set {α : Type} (a : Array α) (o o' : α) : (a.push o).setIfInBounds a.size o' = a.push o' := by
  apply Array.ext_getElem?
  intro k
  simp only [Array.getElem?_setIfInBounds, Array.getElem?_push, Array.size_push]
  by_cases h : a.size = k
  · subst h; simp
  · rw [if_neg h, if_neg (fun e => h e.symm), if_neg (fun e => h e.symm)]

theorem alloc_set (w : World) (o o' : Obj) : ({ (w.alloc o) with heap := (w.alloc o).heap.setIfInBounds w.heap.size o' } : World) = w.alloc o' := by
  show ({ w with heap := (w.heap.push o).setIfInBounds w.heap.size o' } : World) = { w with heap := w.heap.push o' }
  rw [push_set]

/-- A store under a key that a new map has not, where the last block is that map. -/
theorem run_map_new {P : Program} {mty kt et : TypeId} {d : TypeDesc} {es : Array MapEntry} {clock : Nat} {key value : Value} (w : World) (hm : P.underlying mty = some (.map kt et)) (hd : P.underlying kt = some d) (hk : MapKept.IsKey d key)
    (h1 : Instr.findNow d key es.toList 0 = some none) :
    (Instr.mapUpdate mty (.map (some w.heap.size)) key value).run P (w.alloc (.map es clock)) = .ok () (w.alloc (.map (es.push { key, val := value, born := clock }) (clock + 1))) := by
  have hb := (MapKept.heap_alloc w (.map es clock)).1
  simp [Instr.mapUpdate, run_underlying hm, MapKept.run_getObj_map hb, MapKept.run_checkKey hd hk, MapKept.run_findKey hd h1, MapKept.run_setObj_map _ hb, Result.andThen]
  exact alloc_set _ _ _

/-- A look-up of a key that the map has. -/
theorem run_map_hit {P : Program} {mty kt et : TypeId} {d : TypeDesc} {es : Array MapEntry} {clock n i : Nat} {key value : Value} (w : World) (hm : P.underlying mty = some (.map kt et)) (hd : P.underlying kt = some d) (hk : MapKept.IsKey d key)
    (hb : w.heap[n]? = some (.map es clock)) (h1 : Instr.findNow d key es.toList 0 = some (some (i, value))) :
    (Instr.lookup mty (.map (some n)) key false).run P w = .ok value w := by
  simp [Instr.lookup, run_underlying hm, MapKept.run_getObj_map hb, MapKept.run_checkKey hd hk, MapKept.run_findKey hd h1, Result.andThen]

def handN (b : Bool) : Int := if b then 2 else 1

set_option maxRecDepth 100000 in
set_option maxHeartbeats 400000 in
theorem hand_any (b : Bool) (w : World) :
    Calls Try.prog 113 #[.bool b] w fun e w' => e = .returned (.int .i64 (handN b)) ∧ Below w.heap.size w w' := by
  have hmm := @run_makeMap Try.prog
  have e1 := run_map_new (P := Try.prog) (es := #[]) (clock := 0) (key := .bool false) (value := .int .i64 1) w Try.underlying175 Try.underlying4 trivial rfl
  have e2 := run_map_new (P := Try.prog) (es := #[⟨.bool false, .int .i64 1, 0⟩]) (clock := 1) (key := .bool true) (value := .int .i64 2) w Try.underlying175 Try.underlying4 trivial rfl
  have hb := (MapKept.heap_alloc w (.map #[⟨.bool false, .int .i64 1, 0⟩, ⟨.bool true, .int .i64 2, 1⟩] 2)).1
  simp only [List.push_toArray, List.nil_append, List.cons_append, Nat.zero_add, Nat.reduceAdd] at e1 e2
  cases b
  · have e3 := run_map_hit (P := Try.prog) (key := .bool false) (i := 0) (value := .int .i64 1) _ Try.underlying175 Try.underlying4 trivial hb rfl
    clear hb
    go_enter Try.func113, Try.ntmps113
    go_wp2
    go_returns
    exact ⟨rfl, by go_grown⟩
  · have e3 := run_map_hit (P := Try.prog) (key := .bool true) (i := 1) (value := .int .i64 2) _ Try.underlying175 Try.underlying4 trivial hb rfl
    clear hb
    go_enter Try.func113, Try.ntmps113
    go_wp2
    go_returns
    exact ⟨rfl, by go_grown⟩

/-- n / d, rounded up. -/
def upTo (n d : Int) : Int := (n + d - 1) / d

theorem upTo_of_pos {n d : Int} (hd : 1 ≤ d) (h : 0 < n % d) : n / d + 1 = upTo n d := by
  have := Int.emod_lt_of_pos n (b := d) (by omega)
  have e := Int.mul_ediv_add_emod n d
  have h0 : (n % d - 1) / d = 0 := Int.ediv_eq_zero_of_lt (by omega) (by omega)
  unfold upTo
  rw [show n + d - 1 = (n % d - 1) + (n / d + 1) * d by rw [Int.add_mul, Int.mul_comm (n / d)]; omega, Int.add_mul_ediv_right _ _ (by omega), h0]
  omega

theorem upTo_of_zero {n d : Int} (hd : 1 ≤ d) (h : n % d = 0) : n / d = upTo n d := by
  have e := Int.mul_ediv_add_emod n d
  have h0 : (d - 1) / d = 0 := Int.ediv_eq_zero_of_lt (by omega) (by omega)
  unfold upTo
  rw [show n + d - 1 = (d - 1) + (n / d) * d by rw [Int.mul_comm (n / d)]; omega, Int.add_mul_ediv_right _ _ (by omega), h0]
  omega

theorem roundUp_any (n d : Int) (w : World) (hn : 1 ≤ n) (hn2 : n ≤ 4611686018427387904) (hd : 1 ≤ d) (hd2 : d ≤ 9223372036854775807) :
    Calls Try.prog 102 #[.int .i64 n, .int .i64 d] w fun e w' => e = .returned (.int .i64 (upTo n d)) ∧ w' = w := by
  have hm := Int.emod_nonneg n (b := d) (by omega)
  have hm2 := Int.emod_lt_of_pos n (b := d) (by omega)
  have hq : 0 ≤ n / d := Int.ediv_nonneg (by omega) (by omega)
  have hq2 : n / d ≤ n := Int.ediv_le_self _ (by omega)
  by_cases h : 0 < n % d
  · go_enter Try.func102, Try.ntmps102
    go_wp2
    go_returns
    refine ⟨ret_int ?_, rfl⟩
    exact upTo_of_pos hd h
  · go_enter Try.func102, Try.ntmps102
    go_wp2
    go_returns
    refine ⟨ret_int ?_, rfl⟩
    exact upTo_of_zero hd (by omega)

def spanV (lo hi : Int) : Value := .agg #[.int .i64 lo, .int .i64 hi]
def vspan (lo hi a b : Int) : Bool := decide (a ≤ lo ∧ lo ≤ hi ∧ hi ≤ b)

set_option maxHeartbeats 400000 in
theorem validSpan_any (lo hi a b : Int) (w : World) :
    Calls Try.prog 58 #[.agg #[.int .i64 lo, .int .i64 hi], .int .i64 a, .int .i64 b] w fun e w' => e = .returned (.bool (vspan lo hi a b)) ∧ Below w.heap.size w w' := by
  by_cases h1 : a ≤ lo
  · by_cases h2 : lo ≤ hi
    · by_cases h3 : hi ≤ b
      · go_enter Try.func58, Try.ntmps58
        go_wp2
        go_returns
        exact ⟨by unfold vspan; rw [decide_eq_true (by omega)]; rfl, by go_grown⟩
      · go_enter Try.func58, Try.ntmps58
        go_wp2
        go_returns
        exact ⟨by unfold vspan; rw [decide_eq_false (by omega)]; rfl, by go_grown⟩
    · go_enter Try.func58, Try.ntmps58
      go_wp2
      go_returns
      exact ⟨by unfold vspan; rw [decide_eq_false (by omega)]; rfl, by go_grown⟩
  · go_enter Try.func58, Try.ntmps58
    go_wp2
    go_returns
    exact ⟨by unfold vspan; rw [decide_eq_false (by omega)]; rfl, by go_grown⟩
end Go.Proofs.Ytknphpihipkdpaa
