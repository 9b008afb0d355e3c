/- acmelaw02.known: the contracts at the examples. Made by tools/gen_zcheck.py. -/
import Derived.Test.YtpmeahmjmpgbfaaZWid2
import Derived.Test.YtpmeahmjmpgbfaaZWithin
import Derived.Test.YtpmeahmjmpgbfaaZGr2
import Derived.Test.YtpmeahmjmpgbfaaFloat1s
import Derived.Laws.StructEq
namespace Go.Proofs.Ytpmeahmjmpgbfaa
open Go.RowKit
set_option linter.unusedVariables false
set_option linter.unusedSimpArgs false

theorem eqSk (a b c d : Int) (w : World) : (binOp .eql 24 (.agg #[.int .i64 a, .int .i64 b]) (.agg #[.int .i64 c, .int .i64 d])).run Try.prog w = .ok (.bool (a == c && b == d)) w := by
  have u3 := Try.underlying3
  have a3 := Try.isAgg3
  have z3 := Try.sizeOf3
  have hS : Try.prog.underlying 24 = some (.struct (Try.prog.fieldsOf 24)) := by kernel_rfl
  have hp : Try.prog.stoodInHeld 24 = false := by kernel_rfl
  rw [run_eql_struct, show (10000 : Nat) = 9999 + 1 from rfl, run_equalIn_agg w 9999 24 _ _ hS hp]
  simp only [Program.fieldsOf, Try.underlying24]
  go_simp
  by_cases h1 : a = c <;> by_cases h2 : b = d <;> simp [h1, h2]

theorem guardSk (op : BinOp) (x y : Operand) (a b c d : Value) (w : World) : (eqGuard op 24 x y (.agg #[a, b]) (.agg #[c, d])).run Try.prog w = .ok () w :=
  run_eqGuard_agg w op _ x y _ _ (by kernel_rfl)

theorem eqPk (w : World) : (binOp .eql 88 (.agg #[.int .i64 0, .int .i64 0, .int .i64 1, .int .i64 0]) (.agg #[.int .i64 0, .int .i64 0, .int .i64 1, .int .i64 0])).run Try.prog w = .ok (.bool true) w := by kernel_rfl
theorem guardPk (op : BinOp) (x y : Operand) (a b c d e f g h : Value) (w : World) : (eqGuard op 88 x y (.agg #[a, b, c, d]) (.agg #[e, f, g, h])).run Try.prog w = .ok () w :=
  run_eqGuard_agg w op _ x y _ _ (by kernel_rfl)

set_option maxHeartbeats 2000000 in
theorem lspan_any (a b : Int) (w : World) :
    Calls Try.prog 40 #[.int .i64 a, .int .i64 b] w fun e w' => e = .returned (.agg #[.int .i64 a, .int .i64 b]) ∧ Below w.heap.size w w' := by
  go_enter Try.func40, Try.ntmps40
  go_wp2
  refine bodyPost_ret (v := .agg #[.int .i64 a, .int .i64 b]) (by simp [results, Try.results40, go_sem]) rfl ⟨rfl, by go_grown⟩

set_option maxHeartbeats 2000000 in
theorem lclass_any (a b : Int) (w : World) :
    Calls Try.prog 31 #[.int .i64 a, .int .i64 b] w fun e w' => e = .returned (.agg #[.int .i64 a, .int .i64 b]) ∧ Below w.heap.size w w' := by
  go_enter Try.func31, Try.ntmps31
  go_wp2
  refine bodyPost_ret (v := .agg #[.int .i64 a, .int .i64 b]) (by simp [results, Try.results31, go_sem]) rfl ⟨rfl, by go_grown⟩

set_option maxHeartbeats 2000000 in
theorem lpair_any (a b c d : Int) (w : World) :
    Calls Try.prog 44 #[.agg #[.int .i64 a, .int .i64 b], .agg #[.int .i64 c, .int .i64 d]] w fun e w' => e = .returned (.agg #[.int .i64 a, .int .i64 b, .int .i64 c, .int .i64 d]) ∧ Below w.heap.size w w' := by
  go_enter Try.func44, Try.ntmps44
  go_wp2
  refine bodyPost_ret (v := .agg #[.int .i64 a, .int .i64 b, .int .i64 c, .int .i64 d]) (by simp [results, Try.results44, go_sem]) rfl ⟨rfl, by go_grown⟩

theorem ints3 {w : World} {b : Nat} {x y z : Int} (h : Box w b #[.int .i64 x, .int .i64 y, .int .i64 z]) : SlA IntE w (some ⟨b, 0, none⟩) [x, y, z] :=
  .inr ⟨b, 0, rfl, h.1, fun i v hv => by
    match i, hv with
    | 0, hv => simp at hv; subst hv; exact ⟨_, by rw [h.2.1]; rfl, rfl⟩
    | 1, hv => simp at hv; subst hv; exact ⟨_, by rw [h.2.1]; rfl, rfl⟩
    | 2, hv => simp at hv; subst hv; exact ⟨_, by rw [h.2.1]; rfl, rfl⟩
    | i + 3, hv => simp at hv⟩
theorem rows2 {w : World} {b : Nat} {a0 a1 : Option Addr} {r0 r1 : List Int} (l0 : r0.length = 3) (l1 : r1.length = 3) (h : Box w b #[.slice a0 3 3, .slice a1 3 3]) (h0 : SlA IntE w a0 r0) (h1 : SlA IntE w a1 r1) : SlA IntsAt w (some ⟨b, 0, none⟩) [r0, r1] :=
  .inr ⟨b, 0, rfl, h.1, fun i v hv => by
    match i, hv with
    | 0, hv => simp at hv; subst hv; exact ⟨.slice a0 3 3, by rw [h.2.1]; rfl, a0, 3, by rw [l0], by omega, h0⟩
    | 1, hv => simp at hv; subst hv; exact ⟨.slice a1 3 3, by rw [h.2.1]; rfl, a1, 3, by rw [l1], by omega, h1⟩
    | i + 2, hv => simp at hv⟩
def tS : List Int := [30000, 60000, 100000]
def tG : List (List Int) := [[100, 120, 150], [200, 250, 300]]
def tP : List (List Int) := [[0, 0, 0], [30, 40, 50]]
def TwoAt (w : World) (sa ga pa : Option Addr) : Prop := SlA IntE w sa tS ∧ SlA IntsAt w ga tG ∧ SlA IntsAt w pa tP
theorem TwoAt.below {w w' : World} {sa ga pa : Option Addr} (h : TwoAt w sa ga pa) (hb : Below w.heap.size w w') : TwoAt w' sa ga pa := ⟨h.1.below intE_stable hb, h.2.1.below ints_stable hb, h.2.2.below ints_stable hb⟩
def TwoP (w : World) (e : Ending) (w' : World) : Prop := ∃ sa ga pa, e = .returned (.agg #[.slice sa 3 3, .slice ga 2 2, .slice pa 2 2]) ∧ Below w.heap.size w w' ∧ TwoAt w' sa ga pa
set_option maxRecDepth 100000 in
set_option maxHeartbeats 4000000 in
theorem two_any (w : World) : Calls Try.prog 87 #[] w (TwoP w) := by
  go_enter Try.func87, Try.ntmps87
  go_wp2
  have B1 := (Box.alloc (Box.alloc (Box.alloc (Box.alloc (Box.alloc (Box.alloc (Box.newAt (w.alloc (.cells #[.slice (some ⟨w.heap.size + 1, 0, none⟩) 3 3, .slice (some ⟨w.heap.size + 1 + 1 + 1 + 1, 0, none⟩) 2 2, .slice (some ⟨w.heap.size + 1 + 1 + 1 + 1 + 1 + 1 + 1, 0, none⟩) 2 2] 63)) #[.int .i64 30000, .int .i64 60000, .int .i64 100000] 3 (n := w.heap.size + 1) (by simp)) (.cells #[.int .i64 100, .int .i64 120, .int .i64 150] 3)) (.cells #[.int .i64 200, .int .i64 250, .int .i64 300] 3)) (.cells #[.slice (some ⟨w.heap.size + 1 + 1, 0, none⟩) 3 3, .slice (some ⟨w.heap.size + 1 + 1 + 1, 0, none⟩) 3 3] 31)) (.cells #[.int .i64 0, .int .i64 0, .int .i64 0] 3)) (.cells #[.int .i64 30, .int .i64 40, .int .i64 50] 3)) (.cells #[.slice (some ⟨w.heap.size + 1 + 1 + 1 + 1 + 1, 0, none⟩) 3 3, .slice (some ⟨w.heap.size + 1 + 1 + 1 + 1 + 1 + 1, 0, none⟩) 3 3] 31))
  have B2 := (Box.alloc (Box.alloc (Box.alloc (Box.alloc (Box.alloc (Box.newAt ((w.alloc (.cells #[.slice (some ⟨w.heap.size + 1, 0, none⟩) 3 3, .slice (some ⟨w.heap.size + 1 + 1 + 1 + 1, 0, none⟩) 2 2, .slice (some ⟨w.heap.size + 1 + 1 + 1 + 1 + 1 + 1 + 1, 0, none⟩) 2 2] 63)).alloc (.cells #[.int .i64 30000, .int .i64 60000, .int .i64 100000] 3)) #[.int .i64 100, .int .i64 120, .int .i64 150] 3 (n := w.heap.size + 1 + 1) (by simp)) (.cells #[.int .i64 200, .int .i64 250, .int .i64 300] 3)) (.cells #[.slice (some ⟨w.heap.size + 1 + 1, 0, none⟩) 3 3, .slice (some ⟨w.heap.size + 1 + 1 + 1, 0, none⟩) 3 3] 31)) (.cells #[.int .i64 0, .int .i64 0, .int .i64 0] 3)) (.cells #[.int .i64 30, .int .i64 40, .int .i64 50] 3)) (.cells #[.slice (some ⟨w.heap.size + 1 + 1 + 1 + 1 + 1, 0, none⟩) 3 3, .slice (some ⟨w.heap.size + 1 + 1 + 1 + 1 + 1 + 1, 0, none⟩) 3 3] 31))
  have B3 := (Box.alloc (Box.alloc (Box.alloc (Box.alloc (Box.newAt (((w.alloc (.cells #[.slice (some ⟨w.heap.size + 1, 0, none⟩) 3 3, .slice (some ⟨w.heap.size + 1 + 1 + 1 + 1, 0, none⟩) 2 2, .slice (some ⟨w.heap.size + 1 + 1 + 1 + 1 + 1 + 1 + 1, 0, none⟩) 2 2] 63)).alloc (.cells #[.int .i64 30000, .int .i64 60000, .int .i64 100000] 3)).alloc (.cells #[.int .i64 100, .int .i64 120, .int .i64 150] 3)) #[.int .i64 200, .int .i64 250, .int .i64 300] 3 (n := w.heap.size + 1 + 1 + 1) (by simp)) (.cells #[.slice (some ⟨w.heap.size + 1 + 1, 0, none⟩) 3 3, .slice (some ⟨w.heap.size + 1 + 1 + 1, 0, none⟩) 3 3] 31)) (.cells #[.int .i64 0, .int .i64 0, .int .i64 0] 3)) (.cells #[.int .i64 30, .int .i64 40, .int .i64 50] 3)) (.cells #[.slice (some ⟨w.heap.size + 1 + 1 + 1 + 1 + 1, 0, none⟩) 3 3, .slice (some ⟨w.heap.size + 1 + 1 + 1 + 1 + 1 + 1, 0, none⟩) 3 3] 31))
  have B4 := (Box.alloc (Box.alloc (Box.alloc (Box.newAt ((((w.alloc (.cells #[.slice (some ⟨w.heap.size + 1, 0, none⟩) 3 3, .slice (some ⟨w.heap.size + 1 + 1 + 1 + 1, 0, none⟩) 2 2, .slice (some ⟨w.heap.size + 1 + 1 + 1 + 1 + 1 + 1 + 1, 0, none⟩) 2 2] 63)).alloc (.cells #[.int .i64 30000, .int .i64 60000, .int .i64 100000] 3)).alloc (.cells #[.int .i64 100, .int .i64 120, .int .i64 150] 3)).alloc (.cells #[.int .i64 200, .int .i64 250, .int .i64 300] 3)) #[.slice (some ⟨w.heap.size + 1 + 1, 0, none⟩) 3 3, .slice (some ⟨w.heap.size + 1 + 1 + 1, 0, none⟩) 3 3] 31 (n := w.heap.size + 1 + 1 + 1 + 1) (by simp)) (.cells #[.int .i64 0, .int .i64 0, .int .i64 0] 3)) (.cells #[.int .i64 30, .int .i64 40, .int .i64 50] 3)) (.cells #[.slice (some ⟨w.heap.size + 1 + 1 + 1 + 1 + 1, 0, none⟩) 3 3, .slice (some ⟨w.heap.size + 1 + 1 + 1 + 1 + 1 + 1, 0, none⟩) 3 3] 31))
  have B5 := (Box.alloc (Box.alloc (Box.newAt (((((w.alloc (.cells #[.slice (some ⟨w.heap.size + 1, 0, none⟩) 3 3, .slice (some ⟨w.heap.size + 1 + 1 + 1 + 1, 0, none⟩) 2 2, .slice (some ⟨w.heap.size + 1 + 1 + 1 + 1 + 1 + 1 + 1, 0, none⟩) 2 2] 63)).alloc (.cells #[.int .i64 30000, .int .i64 60000, .int .i64 100000] 3)).alloc (.cells #[.int .i64 100, .int .i64 120, .int .i64 150] 3)).alloc (.cells #[.int .i64 200, .int .i64 250, .int .i64 300] 3)).alloc (.cells #[.slice (some ⟨w.heap.size + 1 + 1, 0, none⟩) 3 3, .slice (some ⟨w.heap.size + 1 + 1 + 1, 0, none⟩) 3 3] 31)) #[.int .i64 0, .int .i64 0, .int .i64 0] 3 (n := w.heap.size + 1 + 1 + 1 + 1 + 1) (by simp)) (.cells #[.int .i64 30, .int .i64 40, .int .i64 50] 3)) (.cells #[.slice (some ⟨w.heap.size + 1 + 1 + 1 + 1 + 1, 0, none⟩) 3 3, .slice (some ⟨w.heap.size + 1 + 1 + 1 + 1 + 1 + 1, 0, none⟩) 3 3] 31))
  have B6 := (Box.alloc (Box.newAt ((((((w.alloc (.cells #[.slice (some ⟨w.heap.size + 1, 0, none⟩) 3 3, .slice (some ⟨w.heap.size + 1 + 1 + 1 + 1, 0, none⟩) 2 2, .slice (some ⟨w.heap.size + 1 + 1 + 1 + 1 + 1 + 1 + 1, 0, none⟩) 2 2] 63)).alloc (.cells #[.int .i64 30000, .int .i64 60000, .int .i64 100000] 3)).alloc (.cells #[.int .i64 100, .int .i64 120, .int .i64 150] 3)).alloc (.cells #[.int .i64 200, .int .i64 250, .int .i64 300] 3)).alloc (.cells #[.slice (some ⟨w.heap.size + 1 + 1, 0, none⟩) 3 3, .slice (some ⟨w.heap.size + 1 + 1 + 1, 0, none⟩) 3 3] 31)).alloc (.cells #[.int .i64 0, .int .i64 0, .int .i64 0] 3)) #[.int .i64 30, .int .i64 40, .int .i64 50] 3 (n := w.heap.size + 1 + 1 + 1 + 1 + 1 + 1) (by simp)) (.cells #[.slice (some ⟨w.heap.size + 1 + 1 + 1 + 1 + 1, 0, none⟩) 3 3, .slice (some ⟨w.heap.size + 1 + 1 + 1 + 1 + 1 + 1, 0, none⟩) 3 3] 31))
  have B7 := (Box.newAt (((((((w.alloc (.cells #[.slice (some ⟨w.heap.size + 1, 0, none⟩) 3 3, .slice (some ⟨w.heap.size + 1 + 1 + 1 + 1, 0, none⟩) 2 2, .slice (some ⟨w.heap.size + 1 + 1 + 1 + 1 + 1 + 1 + 1, 0, none⟩) 2 2] 63)).alloc (.cells #[.int .i64 30000, .int .i64 60000, .int .i64 100000] 3)).alloc (.cells #[.int .i64 100, .int .i64 120, .int .i64 150] 3)).alloc (.cells #[.int .i64 200, .int .i64 250, .int .i64 300] 3)).alloc (.cells #[.slice (some ⟨w.heap.size + 1 + 1, 0, none⟩) 3 3, .slice (some ⟨w.heap.size + 1 + 1 + 1, 0, none⟩) 3 3] 31)).alloc (.cells #[.int .i64 0, .int .i64 0, .int .i64 0] 3)).alloc (.cells #[.int .i64 30, .int .i64 40, .int .i64 50] 3)) #[.slice (some ⟨w.heap.size + 1 + 1 + 1 + 1 + 1, 0, none⟩) 3 3, .slice (some ⟨w.heap.size + 1 + 1 + 1 + 1 + 1 + 1, 0, none⟩) 3 3] 31 (n := w.heap.size + 1 + 1 + 1 + 1 + 1 + 1 + 1) (by simp))
  refine bodyPost_ret (v := .agg #[.slice (some ⟨w.heap.size + 1, 0, none⟩) 3 3, .slice (some ⟨w.heap.size + 1 + 1 + 1 + 1, 0, none⟩) 2 2, .slice (some ⟨w.heap.size + 1 + 1 + 1 + 1 + 1 + 1 + 1, 0, none⟩) 2 2]) (by simp [results, Try.results87, go_sem]) rfl ?_
  exact ⟨_, _, _, rfl, by go_grown, ints3 B1, rows2 rfl rfl B4 (ints3 B2) (ints3 B3), rows2 rfl rfl B7 (ints3 B5) (ints3 B6)⟩

theorem k_lim0 (sa ga pa : Option Addr) (w : World) (h : TwoAt w sa ga pa) : Calls Try.prog 30 #[.agg #[.slice sa 3 3, .slice ga 2 2, .slice pa 2 2], .agg #[.int .i64 1, .int .i64 0], .bool false, .int .i64 60000] w fun e w' => e = .returned (.tuple #[.agg #[.int .i64 59840, .int .i64 59960], .int .i64 0]) ∧ Below w.heap.size w w' := by
  have hh := limits_any false 1 0 60000 tS tG tP sa ga pa 3 2 2 w (by decide) (by decide) (by decide) h.1 h.2.1 h.2.2
  rw [show limLo tS tG tP 1 0 false 60000 = 59840 by decide, show limHi tS tG tP 1 0 false 60000 = 59960 by decide, show limE tS tG tP 1 0 60000 = 0 by decide] at hh
  exact hh
theorem k_lim1 (sa ga pa : Option Addr) (w : World) (h : TwoAt w sa ga pa) : Calls Try.prog 30 #[.agg #[.slice sa 3 3, .slice ga 2 2, .slice pa 2 2], .agg #[.int .i64 1, .int .i64 0], .bool true, .int .i64 60000] w fun e w' => e = .returned (.tuple #[.agg #[.int .i64 60040, .int .i64 60160], .int .i64 0]) ∧ Below w.heap.size w w' := by
  have hh := limits_any true 1 0 60000 tS tG tP sa ga pa 3 2 2 w (by decide) (by decide) (by decide) h.1 h.2.1 h.2.2
  rw [show limLo tS tG tP 1 0 true 60000 = 60040 by decide, show limHi tS tG tP 1 0 true 60000 = 60160 by decide, show limE tS tG tP 1 0 60000 = 0 by decide] at hh
  exact hh
theorem k_play (sa ga pa : Option Addr) (w : World) (h : TwoAt w sa ga pa) : Calls Try.prog 45 #[.agg #[.slice sa 3 3, .slice ga 2 2, .slice pa 2 2], .agg #[.int .i64 1, .int .i64 0, .int .i64 0, .int .i64 1], .int .i64 60000] w fun e w' => e = .returned (.tuple #[.agg #[.int .i64 40, .int .i64 410], .int .i64 0]) ∧ Below w.heap.size w w' := by
  have hh := play_any 1 0 0 1 60000 tS tG tP sa ga pa 3 2 2 w (by decide) (by decide) (by decide) h.1 h.2.1 h.2.2
  rw [show playLo tS tG tP 1 0 0 1 60000 = 40 by decide, show playHi tS tG tP 1 0 0 1 60000 = 410 by decide, show playE tS tG tP 1 0 0 1 60000 = 0 by decide] at hh
  exact hh
theorem k_widest (sa ga pa : Option Addr) (w : World) (h : TwoAt w sa ga pa) : Calls Try.prog 47 #[.agg #[.slice sa 3 3, .slice ga 2 2, .slice pa 2 2], .int .i64 60000, .agg #[.int .i64 30, .int .i64 300]] w fun e w' => e = .returned (.tuple #[.agg #[.int .i64 0, .int .i64 0, .int .i64 1, .int .i64 0], .int .i64 0]) ∧ Below w.heap.size w w' := by
  have hh := widest_all 60000 30 300 tS tG tP sa ga pa 3 2 2 w (by decide) (by decide) (by decide) h.1 h.2.1 h.2.2
  rw [show widestV tS tG tP 60000 30 300 = .tuple #[.agg #[.int .i64 0, .int .i64 0, .int .i64 1, .int .i64 0], .int .i64 0] by rfl] at hh
  exact hh
def KWin (w : World) (e : Ending) (w' : World) : Prop := ∃ g cap, e = .returned (.tuple #[.slice (some ⟨g, 0, none⟩) 1 cap, .int .i64 0]) ∧ Box w' g #[.int .i64 1, .int .i64 100000] ∧ Below w.heap.size w w'
theorem k_within (sa ga pa : Option Addr) (w : World) (h : TwoAt w sa ga pa) : Calls Try.prog 51 #[.agg #[.slice sa 3 3, .slice ga 2 2, .slice pa 2 2], .agg #[.int .i64 1, .int .i64 0], .agg #[.int .i64 0, .int .i64 1], .bool false] w fun e w' => ∃ g cap, e = .returned (.tuple #[.slice (some ⟨g, 0, none⟩) 1 cap, .int .i64 0]) ∧ g < w'.heap.size ∧ w'.cell? ⟨g, 0, none⟩ = some (.int .i64 1) ∧ w'.cell? ⟨g, 1, none⟩ = some (.int .i64 100000) ∧ Below w.heap.size w w' := by
  refine (within_all w false 1 0 0 1 tS tG tP sa ga pa 3 2 2 (by decide) (by decide) (by decide) h.1 h.2.1 h.2.2).mono ?_
  rintro e w' ⟨hb, ⟨h1, _⟩ | ⟨_, h2, _⟩ | ⟨_, _, v, rfl, ho⟩⟩
  · exact absurd (show checkN tS tG tP = 0 by decide) h1
  · exact absurd h2 (by decide)
  · rw [show withL tS tG tP false 1 0 0 1 tS.length = [(1, 100000)] by decide] at ho
    have ho' := ho
    rcases ho.2 with ⟨_, h0⟩ | ⟨g, cap, cur, rfl, _, hg, _⟩
    · simp at h0
    · unfold SpansOwn at ho'
      exact ⟨g, cap, rfl, (Array.getElem?_eq_some_iff.1 hg).1, ho'.cellAt 0 (by simp), ho'.cellAt 1 (by simp), hb⟩
theorem k_before (w : World) : Calls Try.prog 35 #[.agg #[.int .i64 59840, .int .i64 59960], .bool false, .agg #[.int .i64 5, .int .i64 8, .int .i64 7, .int .i64 2]] w fun e w' => e = .returned (.tuple #[.agg #[.int .i64 59823, .int .i64 59932], .int .i64 0]) ∧ Below w.heap.size w w' := by
  have h := before_any false 59840 59960 5 8 7 2 w
  rw [show befV false 59840 59960 5 8 7 2 = .tuple #[.agg #[.int .i64 59823, .int .i64 59932], .int .i64 0] from by rfl] at h
  exact h
theorem k_after (w : World) : Calls Try.prog 36 #[.agg #[.int .i64 59820, .int .i64 59928], .bool false, .agg #[.int .i64 5, .int .i64 8, .int .i64 4, .int .i64 1]] w fun e w' => e = .returned (.tuple #[.agg #[.int .i64 59840, .int .i64 59960], .int .i64 0]) ∧ Below w.heap.size w w' := by
  have h := after_any false 59820 59928 5 8 4 1 w
  rw [show aftV false 59820 59928 5 8 4 1 = .tuple #[.agg #[.int .i64 59840, .int .i64 59960], .int .i64 0] from by rfl] at h
  exact h
theorem k_groups (w : World) : Calls Try.prog 55 #[.agg #[.int .i64 1000, .int .i64 1009], .agg #[.int .i64 1020, .int .i64 1029], .agg #[.int .i64 12, .int .i64 28]] w fun e w' => e = .returned (.tuple #[.int .i64 2, .int .i64 0]) ∧ Below w.heap.size w w' := by
  have h := groups_any 1000 1009 1020 1029 12 28 w
  rw [show groupsV 1000 1009 1020 1029 12 28 = .tuple #[.int .i64 2, .int .i64 0] from by rfl] at h
  exact h

end Go.Proofs.Ytpmeahmjmpgbfaa
