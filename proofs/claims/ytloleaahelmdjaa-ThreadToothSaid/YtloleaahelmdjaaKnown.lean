/- acmelaw01.known: the document's examples hold. Made by tools/gen_known.py. -/
import Derived.Test.YtloleaahelmdjaaMetric
import Derived.Lib.QuietBelow
import Derived.Deep.RegionHeld3
namespace Go.Proofs.Ytloleaahelmdjaa
open Go.RowKit

set_option maxRecDepth 100000 in
set_option maxHeartbeats 8000000 in
theorem known_any (w : World) : Calls Try.prog 18 #[] w fun e w' => e = .returned (.bool true) ∧ Below w.heap.size w w' := by
  have qR := eqR
  have q2 := eq2
  have gR := guardR
  go_enter Try.func18, Try.ntmps18
  go_wp2_with fail
  refine (metric_any _).mono ?_
  rintro e w1 ⟨rfl, hb1⟩
  have hB1 : Below w.heap.size w w1 := stepB (by go_grown) hb1
  have hs1 := hB1.size
  clear hb1
  go_wp2_with fail
  refine (metric_any _).mono ?_
  rintro e w2 ⟨rfl, hb2⟩
  have A2 : Box w2 w1.heap.size #[.int .i64 10000, .int .i64 600, .int .i64 600, .int .i64 3000, .int .i64 3000, .int .i64 1, .bool false, .int .i64 0] := Box.below (Box.new w1 _ _) hb2
  have hB2 : Below w.heap.size w w2 := stepB (by go_grown) hb2
  have hs2 := hB2.size
  clear hb2 hB1 hs1
  go_wp2_with fail
  refine (metric_any _).mono ?_
  rintro e w3 ⟨rfl, hb3⟩
  have A3 : Box w3 w1.heap.size #[.int .i64 10000, .int .i64 600, .int .i64 600, .int .i64 3000, .int .i64 3000, .int .i64 1, .bool false, .int .i64 0] := Box.below A2 hb3
  have hB3 : Below w.heap.size w w3 := stepB (by go_grown) hb3
  have hs3 := hB3.size
  clear hb3 hB2 hs2 A2
  go_wp2_with fail
  refine (metric_any _).mono ?_
  rintro e w4 ⟨rfl, hb4⟩
  have A4 : Box w4 w1.heap.size #[.int .i64 10000, .int .i64 600, .int .i64 600, .int .i64 3000, .int .i64 3000, .int .i64 1, .bool false, .int .i64 0] := Box.below (Box.alloc (Box.alloc A3 _) _) hb4
  have N4 : Box w4 w3.heap.size #[.int .i64 10100, .int .i64 577, .int .i64 577, .int .i64 3000, .int .i64 3000, .int .i64 1, .bool false, .int .i64 0] := Box.below (Box.alloc (Box.new w3 _ _) _) hb4
  have C4 : Box w4 (w3.heap.size + 1) #[.int .i64 10000, .int .i64 577, .int .i64 577, .int .i64 3000, .int .i64 3000, .int .i64 1, .bool false, .int .i64 50] := Box.below (Box.newAt (w3.alloc _) _ _ (by simp)) hb4
  have hB4 : Below w.heap.size w w4 := stepB (by go_grown) hb4
  have hs4 := hB4.size
  clear hb4 hB3 hs3 A3
  go_wp2_with fail
  refine (known_width _).mono ?_
  rintro e w5 ⟨rfl, hb5⟩
  have A5 : Box w5 w1.heap.size #[.int .i64 10000, .int .i64 600, .int .i64 600, .int .i64 3000, .int .i64 3000, .int .i64 1, .bool false, .int .i64 0] := Box.below A4 hb5
  have N5 : Box w5 w3.heap.size #[.int .i64 10100, .int .i64 577, .int .i64 577, .int .i64 3000, .int .i64 3000, .int .i64 1, .bool false, .int .i64 0] := Box.below N4 hb5
  have C5 : Box w5 (w3.heap.size + 1) #[.int .i64 10000, .int .i64 577, .int .i64 577, .int .i64 3000, .int .i64 3000, .int .i64 1, .bool false, .int .i64 50] := Box.below C4 hb5
  have hB5 : Below w.heap.size w w5 := stepB (by go_grown) hb5
  have hs5 := hB5.size
  clear hb5 hB4 hs4 A4 N4 C4
  go_wp2_with fail
  refine (metric_any _).mono ?_
  rintro e w6 ⟨rfl, hb6⟩
  have A6 : Box w6 w1.heap.size #[.int .i64 10000, .int .i64 600, .int .i64 600, .int .i64 3000, .int .i64 3000, .int .i64 1, .bool false, .int .i64 0] := Box.below (Box.alloc A5 _) hb6
  have N6 : Box w6 w3.heap.size #[.int .i64 10100, .int .i64 577, .int .i64 577, .int .i64 3000, .int .i64 3000, .int .i64 1, .bool false, .int .i64 0] := Box.below (Box.alloc N5 _) hb6
  have C6 : Box w6 (w3.heap.size + 1) #[.int .i64 10000, .int .i64 577, .int .i64 577, .int .i64 3000, .int .i64 3000, .int .i64 1, .bool false, .int .i64 50] := Box.below (Box.alloc C5 _) hb6
  have R6 : Box w6 w5.heap.size #[.int .i64 1538, .int .i64 1] := Box.below (Box.new w5 _ _) hb6
  have hB6 : Below w.heap.size w w6 := stepB (by go_grown) hb6
  have hs6 := hB6.size
  clear hb6 hB5 hs5 A5 N5 C5
  go_wp2_with fail
  refine (known_sharp _).mono ?_
  rintro e w7 ⟨rfl, hb7⟩
  have A7 : Box w7 w1.heap.size #[.int .i64 10000, .int .i64 600, .int .i64 600, .int .i64 3000, .int .i64 3000, .int .i64 1, .bool false, .int .i64 0] := Box.below A6 hb7
  have N7 : Box w7 w3.heap.size #[.int .i64 10100, .int .i64 577, .int .i64 577, .int .i64 3000, .int .i64 3000, .int .i64 1, .bool false, .int .i64 0] := Box.below N6 hb7
  have C7 : Box w7 (w3.heap.size + 1) #[.int .i64 10000, .int .i64 577, .int .i64 577, .int .i64 3000, .int .i64 3000, .int .i64 1, .bool false, .int .i64 50] := Box.below C6 hb7
  have R7 : Box w7 w5.heap.size #[.int .i64 1538, .int .i64 1] := Box.below R6 hb7
  have hB7 : Below w.heap.size w w7 := stepB (by go_grown) hb7
  have hs7 := hB7.size
  clear hb7 hB6 hs6 A6 N6 C6 R6
  go_wp2_with fail
  refine (metric_any _).mono ?_
  rintro e w8 ⟨rfl, hb8⟩
  have A8 : Box w8 w1.heap.size #[.int .i64 10000, .int .i64 600, .int .i64 600, .int .i64 3000, .int .i64 3000, .int .i64 1, .bool false, .int .i64 0] := Box.below (Box.alloc A7 _) hb8
  have N8 : Box w8 w3.heap.size #[.int .i64 10100, .int .i64 577, .int .i64 577, .int .i64 3000, .int .i64 3000, .int .i64 1, .bool false, .int .i64 0] := Box.below (Box.alloc N7 _) hb8
  have C8 : Box w8 (w3.heap.size + 1) #[.int .i64 10000, .int .i64 577, .int .i64 577, .int .i64 3000, .int .i64 3000, .int .i64 1, .bool false, .int .i64 50] := Box.below (Box.alloc C7 _) hb8
  have R8 : Box w8 w5.heap.size #[.int .i64 1538, .int .i64 1] := Box.below (Box.alloc R7 _) hb8
  have S8 : Box w8 w7.heap.size #[.int .i64 2500000, .int .i64 577] := Box.below (Box.new w7 _ _) hb8
  have hB8 : Below w.heap.size w w8 := stepB (by go_grown) hb8
  have hs8 := hB8.size
  clear hb8 hB7 hs7 A7 N7 C7 R7
  go_wp2_with fail
  refine (known_area _).mono ?_
  rintro e w9 ⟨rfl, hb9⟩
  have A9 : Box w9 w1.heap.size #[.int .i64 10000, .int .i64 600, .int .i64 600, .int .i64 3000, .int .i64 3000, .int .i64 1, .bool false, .int .i64 0] := Box.below A8 hb9
  have N9 : Box w9 w3.heap.size #[.int .i64 10100, .int .i64 577, .int .i64 577, .int .i64 3000, .int .i64 3000, .int .i64 1, .bool false, .int .i64 0] := Box.below N8 hb9
  have C9 : Box w9 (w3.heap.size + 1) #[.int .i64 10000, .int .i64 577, .int .i64 577, .int .i64 3000, .int .i64 3000, .int .i64 1, .bool false, .int .i64 50] := Box.below C8 hb9
  have R9 : Box w9 w5.heap.size #[.int .i64 1538, .int .i64 1] := Box.below R8 hb9
  have S9 : Box w9 w7.heap.size #[.int .i64 2500000, .int .i64 577] := Box.below S8 hb9
  have hB9 : Below w.heap.size w w9 := stepB (by go_grown) hb9
  have hs9 := hB9.size
  clear hb9 hB8 hs8 A8 N8 C8 R8 S8
  go_wp2_with fail
  refine (metric_any _).mono ?_
  rintro e w10 ⟨rfl, hb10⟩
  have A10 : Box w10 w1.heap.size #[.int .i64 10000, .int .i64 600, .int .i64 600, .int .i64 3000, .int .i64 3000, .int .i64 1, .bool false, .int .i64 0] := Box.below (Box.alloc A9 _) hb10
  have N10 : Box w10 w3.heap.size #[.int .i64 10100, .int .i64 577, .int .i64 577, .int .i64 3000, .int .i64 3000, .int .i64 1, .bool false, .int .i64 0] := Box.below (Box.alloc N9 _) hb10
  have C10 : Box w10 (w3.heap.size + 1) #[.int .i64 10000, .int .i64 577, .int .i64 577, .int .i64 3000, .int .i64 3000, .int .i64 1, .bool false, .int .i64 50] := Box.below (Box.alloc C9 _) hb10
  have R10 : Box w10 w5.heap.size #[.int .i64 1538, .int .i64 1] := Box.below (Box.alloc R9 _) hb10
  have S10 : Box w10 w7.heap.size #[.int .i64 2500000, .int .i64 577] := Box.below (Box.alloc S9 _) hb10
  have T10 : Box w10 w9.heap.size #[.int .i64 9807000, .int .i64 1] := Box.below (Box.new w9 _ _) hb10
  have hB10 : Below w.heap.size w w10 := stepB (by go_grown) hb10
  have hs10 := hB10.size
  clear hb10 hB9 hs9 A9 N9 C9 R9 S9
  go_wp2_with fail
  refine (known_advance _).mono ?_
  rintro e w11 ⟨rfl, hb11⟩
  have A11 : Box w11 w1.heap.size #[.int .i64 10000, .int .i64 600, .int .i64 600, .int .i64 3000, .int .i64 3000, .int .i64 1, .bool false, .int .i64 0] := Box.below A10 hb11
  have N11 : Box w11 w3.heap.size #[.int .i64 10100, .int .i64 577, .int .i64 577, .int .i64 3000, .int .i64 3000, .int .i64 1, .bool false, .int .i64 0] := Box.below N10 hb11
  have C11 : Box w11 (w3.heap.size + 1) #[.int .i64 10000, .int .i64 577, .int .i64 577, .int .i64 3000, .int .i64 3000, .int .i64 1, .bool false, .int .i64 50] := Box.below C10 hb11
  have R11 : Box w11 w5.heap.size #[.int .i64 1538, .int .i64 1] := Box.below R10 hb11
  have S11 : Box w11 w7.heap.size #[.int .i64 2500000, .int .i64 577] := Box.below S10 hb11
  have T11 : Box w11 w9.heap.size #[.int .i64 9807000, .int .i64 1] := Box.below T10 hb11
  have hB11 : Below w.heap.size w w11 := stepB (by go_grown) hb11
  have hs11 := hB11.size
  clear hb11 hB10 hs10 A10 N10 C10 R10 S10 T10
  have cC := C11.2.1
  have lC := C11.1
  go_wp2_with fail
  refine (known_diameter _).mono ?_
  rintro e w12 ⟨rfl, hb12⟩
  have A12 : Box w12 w1.heap.size #[.int .i64 10000, .int .i64 600, .int .i64 600, .int .i64 3000, .int .i64 3000, .int .i64 1, .bool false, .int .i64 0] := Box.below (Box.alloc A11 _) hb12
  have N12 : Box w12 w3.heap.size #[.int .i64 10100, .int .i64 577, .int .i64 577, .int .i64 3000, .int .i64 3000, .int .i64 1, .bool false, .int .i64 0] := Box.below (Box.alloc N11 _) hb12
  have C12 : Box w12 (w3.heap.size + 1) #[.int .i64 10000, .int .i64 577, .int .i64 577, .int .i64 3000, .int .i64 3000, .int .i64 1, .bool false, .int .i64 50] := Box.below (Box.alloc C11 _) hb12
  have R12 : Box w12 w5.heap.size #[.int .i64 1538, .int .i64 1] := Box.below (Box.alloc R11 _) hb12
  have S12 : Box w12 w7.heap.size #[.int .i64 2500000, .int .i64 577] := Box.below (Box.alloc S11 _) hb12
  have T12 : Box w12 w9.heap.size #[.int .i64 9807000, .int .i64 1] := Box.below (Box.alloc T11 _) hb12
  have U12 : Box w12 w11.heap.size #[.int .i64 2500, .int .i64 1] := Box.below (Box.new w11 _ _) hb12
  have hB12 : Below w.heap.size w w12 := stepB (by go_grown) hb12
  have hs12 := hB12.size
  clear hb12 hB11 hs11 A11 N11 C11 R11 S11 T11
  clear cC lC
  have cC := C12.2.1
  have lC := C12.1
  go_wp2_with fail
  refine (known_meets _).mono ?_
  rintro e w13 ⟨rfl, hb13⟩
  have A13 : Box w13 w1.heap.size #[.int .i64 10000, .int .i64 600, .int .i64 600, .int .i64 3000, .int .i64 3000, .int .i64 1, .bool false, .int .i64 0] := Box.below (Box.alloc A12 _) hb13
  have N13 : Box w13 w3.heap.size #[.int .i64 10100, .int .i64 577, .int .i64 577, .int .i64 3000, .int .i64 3000, .int .i64 1, .bool false, .int .i64 0] := Box.below (Box.alloc N12 _) hb13
  have C13 : Box w13 (w3.heap.size + 1) #[.int .i64 10000, .int .i64 577, .int .i64 577, .int .i64 3000, .int .i64 3000, .int .i64 1, .bool false, .int .i64 50] := Box.below (Box.alloc C12 _) hb13
  have R13 : Box w13 w5.heap.size #[.int .i64 1538, .int .i64 1] := Box.below (Box.alloc R12 _) hb13
  have S13 : Box w13 w7.heap.size #[.int .i64 2500000, .int .i64 577] := Box.below (Box.alloc S12 _) hb13
  have T13 : Box w13 w9.heap.size #[.int .i64 9807000, .int .i64 1] := Box.below (Box.alloc T12 _) hb13
  have U13 : Box w13 w11.heap.size #[.int .i64 2500, .int .i64 1] := Box.below (Box.alloc U12 _) hb13
  have V13 : Box w13 w12.heap.size #[.int .i64 101000, .int .i64 1] := Box.below (Box.new w12 _ _) hb13
  have hB13 : Below w.heap.size w w13 := stepB (by go_grown) hb13
  have hs13 := hB13.size
  clear hb13 hB12 hs12 A12 N12 C12 R12 S12 T12 U12
  clear cC lC
  go_wp2
  have AX : Box (w13.alloc (.cells #[.int .i64 1, .int .i64 2] 27)) w1.heap.size #[.int .i64 10000, .int .i64 600, .int .i64 600, .int .i64 3000, .int .i64 3000, .int .i64 1, .bool false, .int .i64 0] := Box.alloc A13 _
  have NX : Box (w13.alloc (.cells #[.int .i64 1, .int .i64 2] 27)) w3.heap.size #[.int .i64 10100, .int .i64 577, .int .i64 577, .int .i64 3000, .int .i64 3000, .int .i64 1, .bool false, .int .i64 0] := Box.alloc N13 _
  have CX : Box (w13.alloc (.cells #[.int .i64 1, .int .i64 2] 27)) (w3.heap.size + 1) #[.int .i64 10000, .int .i64 577, .int .i64 577, .int .i64 3000, .int .i64 3000, .int .i64 1, .bool false, .int .i64 50] := Box.alloc C13 _
  have RX : Box (w13.alloc (.cells #[.int .i64 1, .int .i64 2] 27)) w5.heap.size #[.int .i64 1538, .int .i64 1] := Box.alloc R13 _
  have SX : Box (w13.alloc (.cells #[.int .i64 1, .int .i64 2] 27)) w7.heap.size #[.int .i64 2500000, .int .i64 577] := Box.alloc S13 _
  have TX : Box (w13.alloc (.cells #[.int .i64 1, .int .i64 2] 27)) w9.heap.size #[.int .i64 9807000, .int .i64 1] := Box.alloc T13 _
  have UX : Box (w13.alloc (.cells #[.int .i64 1, .int .i64 2] 27)) w11.heap.size #[.int .i64 2500, .int .i64 1] := Box.alloc U13 _
  have VX : Box (w13.alloc (.cells #[.int .i64 1, .int .i64 2] 27)) w12.heap.size #[.int .i64 101000, .int .i64 1] := Box.alloc V13 _
  have MX : Box (w13.alloc (.cells #[.int .i64 1, .int .i64 2] 27)) w13.heap.size #[.int .i64 1, .int .i64 2] := Box.new _ _ _
  have hBX : Below w.heap.size w (w13.alloc (.cells #[.int .i64 1, .int .i64 2] 27)) := by go_grown
  clear hB13 hs13 A13 N13 C13 R13 S13 T13 U13 V13
  generalize w13.alloc (.cells #[.int .i64 1, .int .i64 2] 27) = X at *
  have hsX := hBX.size
  have cA := fun d os => (AX.regrown d os).2.1
  have met := fun d os => (metric_any (Go.Sort.grow (redrawn X d) os)).regrown_of
  have room := fun d os => (known_room (Go.Sort.grow (redrawn X d) os)).regrown_of
  refine wp_region_quiet_below (by kernel_rfl) (by kernel_rfl) ?_
  repeat (quiet_step (first | exact met _ _ | exact room _ _))
  refine wpQuiet_nil ?_
  intro w14 hw'
  obtain ⟨⟨dq, osq⟩, hw''⟩ := hw'
  have hb14 : Below X.heap.size X w14 := by rw [hw'']; exact below_regrown X dq osq
  have A14 : Box w14 w1.heap.size #[.int .i64 10000, .int .i64 600, .int .i64 600, .int .i64 3000, .int .i64 3000, .int .i64 1, .bool false, .int .i64 0] := Box.below AX hb14
  have N14 : Box w14 w3.heap.size #[.int .i64 10100, .int .i64 577, .int .i64 577, .int .i64 3000, .int .i64 3000, .int .i64 1, .bool false, .int .i64 0] := Box.below NX hb14
  have C14 : Box w14 (w3.heap.size + 1) #[.int .i64 10000, .int .i64 577, .int .i64 577, .int .i64 3000, .int .i64 3000, .int .i64 1, .bool false, .int .i64 50] := Box.below CX hb14
  have R14 : Box w14 w5.heap.size #[.int .i64 1538, .int .i64 1] := Box.below RX hb14
  have S14 : Box w14 w7.heap.size #[.int .i64 2500000, .int .i64 577] := Box.below SX hb14
  have T14 : Box w14 w9.heap.size #[.int .i64 9807000, .int .i64 1] := Box.below TX hb14
  have U14 : Box w14 w11.heap.size #[.int .i64 2500, .int .i64 1] := Box.below UX hb14
  have V14 : Box w14 w12.heap.size #[.int .i64 101000, .int .i64 1] := Box.below VX hb14
  have M14 : Box w14 w13.heap.size #[.int .i64 1, .int .i64 2] := Box.below MX hb14
  have hB14 : Below w.heap.size w w14 := stepB hBX hb14
  have hs14 := hB14.size
  clear hw'' hb14 cA met room hBX hsX AX NX CX RX SX TX UX VX MX
  go_wp2_with fail
  refine (metric_any _).mono ?_
  rintro e w15 ⟨rfl, hb15⟩
  have A15 : Box w15 w1.heap.size #[.int .i64 10000, .int .i64 600, .int .i64 600, .int .i64 3000, .int .i64 3000, .int .i64 1, .bool false, .int .i64 0] := Box.below A14 hb15
  have N15 : Box w15 w3.heap.size #[.int .i64 10100, .int .i64 577, .int .i64 577, .int .i64 3000, .int .i64 3000, .int .i64 1, .bool false, .int .i64 0] := Box.below N14 hb15
  have C15 : Box w15 (w3.heap.size + 1) #[.int .i64 10000, .int .i64 577, .int .i64 577, .int .i64 3000, .int .i64 3000, .int .i64 1, .bool false, .int .i64 50] := Box.below C14 hb15
  have R15 : Box w15 w5.heap.size #[.int .i64 1538, .int .i64 1] := Box.below R14 hb15
  have S15 : Box w15 w7.heap.size #[.int .i64 2500000, .int .i64 577] := Box.below S14 hb15
  have T15 : Box w15 w9.heap.size #[.int .i64 9807000, .int .i64 1] := Box.below T14 hb15
  have U15 : Box w15 w11.heap.size #[.int .i64 2500, .int .i64 1] := Box.below U14 hb15
  have V15 : Box w15 w12.heap.size #[.int .i64 101000, .int .i64 1] := Box.below V14 hb15
  have M15 : Box w15 w13.heap.size #[.int .i64 1, .int .i64 2] := Box.below M14 hb15
  have hB15 : Below w.heap.size w w15 := stepB (by go_grown) hb15
  have hs15 := hB15.size
  clear hb15 hB14 hs14 A14 N14 C14 R14 S14 T14 U14 V14 M14
  go_wp2_with fail
  refine (known_perinch _).mono ?_
  rintro e w16 ⟨rfl, hb16⟩
  have A16 : Box w16 w1.heap.size #[.int .i64 10000, .int .i64 600, .int .i64 600, .int .i64 3000, .int .i64 3000, .int .i64 1, .bool false, .int .i64 0] := Box.below A15 hb16
  have N16 : Box w16 w3.heap.size #[.int .i64 10100, .int .i64 577, .int .i64 577, .int .i64 3000, .int .i64 3000, .int .i64 1, .bool false, .int .i64 0] := Box.below N15 hb16
  have C16 : Box w16 (w3.heap.size + 1) #[.int .i64 10000, .int .i64 577, .int .i64 577, .int .i64 3000, .int .i64 3000, .int .i64 1, .bool false, .int .i64 50] := Box.below C15 hb16
  have R16 : Box w16 w5.heap.size #[.int .i64 1538, .int .i64 1] := Box.below R15 hb16
  have S16 : Box w16 w7.heap.size #[.int .i64 2500000, .int .i64 577] := Box.below S15 hb16
  have T16 : Box w16 w9.heap.size #[.int .i64 9807000, .int .i64 1] := Box.below T15 hb16
  have U16 : Box w16 w11.heap.size #[.int .i64 2500, .int .i64 1] := Box.below U15 hb16
  have V16 : Box w16 w12.heap.size #[.int .i64 101000, .int .i64 1] := Box.below V15 hb16
  have M16 : Box w16 w13.heap.size #[.int .i64 1, .int .i64 2] := Box.below M15 hb16
  have hB16 : Below w.heap.size w w16 := stepB (by go_grown) hb16
  have hs16 := hB16.size
  clear hb16 hB15 hs15 A15 N15 C15 R15 S15 T15 U15 V15 M15
  go_wp2
  have AX : Box (w16.alloc (.cells #[.int .i64 127, .int .i64 5] 27)) w1.heap.size #[.int .i64 10000, .int .i64 600, .int .i64 600, .int .i64 3000, .int .i64 3000, .int .i64 1, .bool false, .int .i64 0] := Box.alloc A16 _
  have NX : Box (w16.alloc (.cells #[.int .i64 127, .int .i64 5] 27)) w3.heap.size #[.int .i64 10100, .int .i64 577, .int .i64 577, .int .i64 3000, .int .i64 3000, .int .i64 1, .bool false, .int .i64 0] := Box.alloc N16 _
  have CX : Box (w16.alloc (.cells #[.int .i64 127, .int .i64 5] 27)) (w3.heap.size + 1) #[.int .i64 10000, .int .i64 577, .int .i64 577, .int .i64 3000, .int .i64 3000, .int .i64 1, .bool false, .int .i64 50] := Box.alloc C16 _
  have RX : Box (w16.alloc (.cells #[.int .i64 127, .int .i64 5] 27)) w5.heap.size #[.int .i64 1538, .int .i64 1] := Box.alloc R16 _
  have SX : Box (w16.alloc (.cells #[.int .i64 127, .int .i64 5] 27)) w7.heap.size #[.int .i64 2500000, .int .i64 577] := Box.alloc S16 _
  have TX : Box (w16.alloc (.cells #[.int .i64 127, .int .i64 5] 27)) w9.heap.size #[.int .i64 9807000, .int .i64 1] := Box.alloc T16 _
  have UX : Box (w16.alloc (.cells #[.int .i64 127, .int .i64 5] 27)) w11.heap.size #[.int .i64 2500, .int .i64 1] := Box.alloc U16 _
  have VX : Box (w16.alloc (.cells #[.int .i64 127, .int .i64 5] 27)) w12.heap.size #[.int .i64 101000, .int .i64 1] := Box.alloc V16 _
  have MX : Box (w16.alloc (.cells #[.int .i64 127, .int .i64 5] 27)) w13.heap.size #[.int .i64 1, .int .i64 2] := Box.alloc M16 _
  have WX : Box (w16.alloc (.cells #[.int .i64 127, .int .i64 5] 27)) w16.heap.size #[.int .i64 127, .int .i64 5] := Box.new _ _ _
  have hBX : Below w.heap.size w (w16.alloc (.cells #[.int .i64 127, .int .i64 5] 27)) := by go_grown
  clear hB16 hs16 A16 N16 C16 R16 S16 T16 U16 V16 M16
  generalize w16.alloc (.cells #[.int .i64 127, .int .i64 5] 27) = X at *
  have cA := AX.2.1
  have cN := NX.2.1
  have lA := AX.1
  have lN := NX.1
  have hX0 : Below X.heap.size X X := Below.refl _ _
  go_region_held3 (fun w' => Below X.heap.size X w' ∧ (∀ i, w'.cell? ⟨w1.heap.size, i, none⟩ = (#[.int .i64 10000, .int .i64 600, .int .i64 600, .int .i64 3000, .int .i64 3000, .int .i64 1, .bool false, .int .i64 0] : Array Value)[i]?) ∧ (∀ i, w'.cell? ⟨w3.heap.size, i, none⟩ = (#[.int .i64 10100, .int .i64 577, .int .i64 577, .int .i64 3000, .int .i64 3000, .int .i64 1, .bool false, .int .i64 0] : Array Value)[i]?))
    ((first | exact keepC hX0.drew lA lN cA cN | exact keepC (stepB hX0.drew hb) lA lN cA cN | exact keepC (stepB (And.left (by assumption)) hb) lA lN cA cN | exact keepC (below_grow (And.left (by assumption)) _) lA lN cA cN))
    (first
      | (go_at_call 48; refine (metric_any _).mono ?_; rintro e w' ⟨rfl, hb⟩)
      | (go_at_call 31; refine (known_alike _ _ ?_).mono ?_; (exact forms_tab3 (Box.new _ _ _)); rintro e w17 ⟨hb, g, cap, rfl, hg⟩))
  have hbX : Below X.heap.size X w17 := And.left (by assumption)
  have G17 : Seg w17 g [.int .i64 0, .int .i64 1] := Seg.two hg.2.1 hg.2.2.1 hg.2.2.2
  have A17 : Box w17 w1.heap.size #[.int .i64 10000, .int .i64 600, .int .i64 600, .int .i64 3000, .int .i64 3000, .int .i64 1, .bool false, .int .i64 0] := Box.below AX hbX
  have N17 : Box w17 w3.heap.size #[.int .i64 10100, .int .i64 577, .int .i64 577, .int .i64 3000, .int .i64 3000, .int .i64 1, .bool false, .int .i64 0] := Box.below NX hbX
  have C17 : Box w17 (w3.heap.size + 1) #[.int .i64 10000, .int .i64 577, .int .i64 577, .int .i64 3000, .int .i64 3000, .int .i64 1, .bool false, .int .i64 50] := Box.below CX hbX
  have R17 : Box w17 w5.heap.size #[.int .i64 1538, .int .i64 1] := Box.below RX hbX
  have S17 : Box w17 w7.heap.size #[.int .i64 2500000, .int .i64 577] := Box.below SX hbX
  have T17 : Box w17 w9.heap.size #[.int .i64 9807000, .int .i64 1] := Box.below TX hbX
  have U17 : Box w17 w11.heap.size #[.int .i64 2500, .int .i64 1] := Box.below UX hbX
  have V17 : Box w17 w12.heap.size #[.int .i64 101000, .int .i64 1] := Box.below VX hbX
  have M17 : Box w17 w13.heap.size #[.int .i64 1, .int .i64 2] := Box.below MX hbX
  have W17 : Box w17 w16.heap.size #[.int .i64 127, .int .i64 5] := Box.below WX hbX
  have hB17 : Below w.heap.size w w17 := stepB hBX hbX
  have hs17 := hB17.size
  clear hbX hg hb cA cN lA lN hX0 hBX AX NX CX RX SX TX UX VX MX WX
  go_wp2_with fail
  refine (all_any _).mono ?_
  rintro e w18 ⟨rfl, hb18⟩
  have A18 : Box w18 w1.heap.size #[.int .i64 10000, .int .i64 600, .int .i64 600, .int .i64 3000, .int .i64 3000, .int .i64 1, .bool false, .int .i64 0] := Box.below A17 hb18
  have N18 : Box w18 w3.heap.size #[.int .i64 10100, .int .i64 577, .int .i64 577, .int .i64 3000, .int .i64 3000, .int .i64 1, .bool false, .int .i64 0] := Box.below N17 hb18
  have C18 : Box w18 (w3.heap.size + 1) #[.int .i64 10000, .int .i64 577, .int .i64 577, .int .i64 3000, .int .i64 3000, .int .i64 1, .bool false, .int .i64 50] := Box.below C17 hb18
  have R18 : Box w18 w5.heap.size #[.int .i64 1538, .int .i64 1] := Box.below R17 hb18
  have S18 : Box w18 w7.heap.size #[.int .i64 2500000, .int .i64 577] := Box.below S17 hb18
  have T18 : Box w18 w9.heap.size #[.int .i64 9807000, .int .i64 1] := Box.below T17 hb18
  have U18 : Box w18 w11.heap.size #[.int .i64 2500, .int .i64 1] := Box.below U17 hb18
  have V18 : Box w18 w12.heap.size #[.int .i64 101000, .int .i64 1] := Box.below V17 hb18
  have M18 : Box w18 w13.heap.size #[.int .i64 1, .int .i64 2] := Box.below M17 hb18
  have W18 : Box w18 w16.heap.size #[.int .i64 127, .int .i64 5] := Box.below W17 hb18
  have hB18 : Below w.heap.size w w18 := stepB (by go_grown) hb18
  have hs18 := hB18.size
  have G18 := G17.below hb18
  clear G17 hb18 hB17 hs17 A17 N17 C17 R17 S17 T17 U17 V17 M17 W17
  go_wp2
  have AX : Box (w18.alloc (.cells #[.int .i64 10040, .int .i64 10160, .int .i64 0, .int .i64 10000000, .int .i64 0, .int .i64 10000000, .int .i64 0, .int .i64 10000000, .int .i64 0, .int .i64 10000000, .int .i64 0, .int .i64 10000000, .int .i64 0, .int .i64 10000000, .int .i64 0] 53)) w1.heap.size #[.int .i64 10000, .int .i64 600, .int .i64 600, .int .i64 3000, .int .i64 3000, .int .i64 1, .bool false, .int .i64 0] := Box.alloc A18 _
  have NX : Box (w18.alloc (.cells #[.int .i64 10040, .int .i64 10160, .int .i64 0, .int .i64 10000000, .int .i64 0, .int .i64 10000000, .int .i64 0, .int .i64 10000000, .int .i64 0, .int .i64 10000000, .int .i64 0, .int .i64 10000000, .int .i64 0, .int .i64 10000000, .int .i64 0] 53)) w3.heap.size #[.int .i64 10100, .int .i64 577, .int .i64 577, .int .i64 3000, .int .i64 3000, .int .i64 1, .bool false, .int .i64 0] := Box.alloc N18 _
  have CX : Box (w18.alloc (.cells #[.int .i64 10040, .int .i64 10160, .int .i64 0, .int .i64 10000000, .int .i64 0, .int .i64 10000000, .int .i64 0, .int .i64 10000000, .int .i64 0, .int .i64 10000000, .int .i64 0, .int .i64 10000000, .int .i64 0, .int .i64 10000000, .int .i64 0] 53)) (w3.heap.size + 1) #[.int .i64 10000, .int .i64 577, .int .i64 577, .int .i64 3000, .int .i64 3000, .int .i64 1, .bool false, .int .i64 50] := Box.alloc C18 _
  have RX : Box (w18.alloc (.cells #[.int .i64 10040, .int .i64 10160, .int .i64 0, .int .i64 10000000, .int .i64 0, .int .i64 10000000, .int .i64 0, .int .i64 10000000, .int .i64 0, .int .i64 10000000, .int .i64 0, .int .i64 10000000, .int .i64 0, .int .i64 10000000, .int .i64 0] 53)) w5.heap.size #[.int .i64 1538, .int .i64 1] := Box.alloc R18 _
  have SX : Box (w18.alloc (.cells #[.int .i64 10040, .int .i64 10160, .int .i64 0, .int .i64 10000000, .int .i64 0, .int .i64 10000000, .int .i64 0, .int .i64 10000000, .int .i64 0, .int .i64 10000000, .int .i64 0, .int .i64 10000000, .int .i64 0, .int .i64 10000000, .int .i64 0] 53)) w7.heap.size #[.int .i64 2500000, .int .i64 577] := Box.alloc S18 _
  have TX : Box (w18.alloc (.cells #[.int .i64 10040, .int .i64 10160, .int .i64 0, .int .i64 10000000, .int .i64 0, .int .i64 10000000, .int .i64 0, .int .i64 10000000, .int .i64 0, .int .i64 10000000, .int .i64 0, .int .i64 10000000, .int .i64 0, .int .i64 10000000, .int .i64 0] 53)) w9.heap.size #[.int .i64 9807000, .int .i64 1] := Box.alloc T18 _
  have UX : Box (w18.alloc (.cells #[.int .i64 10040, .int .i64 10160, .int .i64 0, .int .i64 10000000, .int .i64 0, .int .i64 10000000, .int .i64 0, .int .i64 10000000, .int .i64 0, .int .i64 10000000, .int .i64 0, .int .i64 10000000, .int .i64 0, .int .i64 10000000, .int .i64 0] 53)) w11.heap.size #[.int .i64 2500, .int .i64 1] := Box.alloc U18 _
  have VX : Box (w18.alloc (.cells #[.int .i64 10040, .int .i64 10160, .int .i64 0, .int .i64 10000000, .int .i64 0, .int .i64 10000000, .int .i64 0, .int .i64 10000000, .int .i64 0, .int .i64 10000000, .int .i64 0, .int .i64 10000000, .int .i64 0, .int .i64 10000000, .int .i64 0] 53)) w12.heap.size #[.int .i64 101000, .int .i64 1] := Box.alloc V18 _
  have MX : Box (w18.alloc (.cells #[.int .i64 10040, .int .i64 10160, .int .i64 0, .int .i64 10000000, .int .i64 0, .int .i64 10000000, .int .i64 0, .int .i64 10000000, .int .i64 0, .int .i64 10000000, .int .i64 0, .int .i64 10000000, .int .i64 0, .int .i64 10000000, .int .i64 0] 53)) w13.heap.size #[.int .i64 1, .int .i64 2] := Box.alloc M18 _
  have WX : Box (w18.alloc (.cells #[.int .i64 10040, .int .i64 10160, .int .i64 0, .int .i64 10000000, .int .i64 0, .int .i64 10000000, .int .i64 0, .int .i64 10000000, .int .i64 0, .int .i64 10000000, .int .i64 0, .int .i64 10000000, .int .i64 0, .int .i64 10000000, .int .i64 0] 53)) w16.heap.size #[.int .i64 127, .int .i64 5] := Box.alloc W18 _
  have QX : Box (w18.alloc (.cells #[.int .i64 10040, .int .i64 10160, .int .i64 0, .int .i64 10000000, .int .i64 0, .int .i64 10000000, .int .i64 0, .int .i64 10000000, .int .i64 0, .int .i64 10000000, .int .i64 0, .int .i64 10000000, .int .i64 0, .int .i64 10000000, .int .i64 0] 53)) w18.heap.size #[.int .i64 10040, .int .i64 10160, .int .i64 0, .int .i64 10000000, .int .i64 0, .int .i64 10000000, .int .i64 0, .int .i64 10000000, .int .i64 0, .int .i64 10000000, .int .i64 0, .int .i64 10000000, .int .i64 0, .int .i64 10000000, .int .i64 0] := Box.new _ _ _
  have hBX : Below w.heap.size w (w18.alloc (.cells #[.int .i64 10040, .int .i64 10160, .int .i64 0, .int .i64 10000000, .int .i64 0, .int .i64 10000000, .int .i64 0, .int .i64 10000000, .int .i64 0, .int .i64 10000000, .int .i64 0, .int .i64 10000000, .int .i64 0, .int .i64 10000000, .int .i64 0] 53)) := by go_grown
  clear hB18 hs18 A18 N18 C18 R18 S18 T18 U18 V18 M18 W18
  have GX : Seg (w18.alloc (.cells #[.int .i64 10040, .int .i64 10160, .int .i64 0, .int .i64 10000000, .int .i64 0, .int .i64 10000000, .int .i64 0, .int .i64 10000000, .int .i64 0, .int .i64 10000000, .int .i64 0, .int .i64 10000000, .int .i64 0, .int .i64 10000000, .int .i64 0] 53)) g _ := G18.below ((Below.refl _ _).alloc (Nat.le_refl _) _)
  clear G18
  generalize w18.alloc (.cells #[.int .i64 10040, .int .i64 10160, .int .i64 0, .int .i64 10000000, .int .i64 0, .int .i64 10000000, .int .i64 0, .int .i64 10000000, .int .i64 0, .int .i64 10000000, .int .i64 0, .int .i64 10000000, .int .i64 0, .int .i64 10000000, .int .i64 0] 53) = X at *
  have cA := AX.2.1
  have cN := NX.2.1
  have cQ := QX.2.1
  have lA := AX.1
  have lN := NX.1
  have lQ := QX.1
  have hX0 : Below X.heap.size X X := Below.refl _ _
  go_region_held3 (fun w' => Below X.heap.size X w' ∧ (∀ i, w'.cell? ⟨w1.heap.size, i, none⟩ = (#[.int .i64 10000, .int .i64 600, .int .i64 600, .int .i64 3000, .int .i64 3000, .int .i64 1, .bool false, .int .i64 0] : Array Value)[i]?) ∧ (∀ i, w'.cell? ⟨w3.heap.size, i, none⟩ = (#[.int .i64 10100, .int .i64 577, .int .i64 577, .int .i64 3000, .int .i64 3000, .int .i64 1, .bool false, .int .i64 0] : Array Value)[i]?) ∧ (∀ i, w'.cell? ⟨w18.heap.size, i, none⟩ = (#[.int .i64 10040, .int .i64 10160, .int .i64 0, .int .i64 10000000, .int .i64 0, .int .i64 10000000, .int .i64 0, .int .i64 10000000, .int .i64 0, .int .i64 10000000, .int .i64 0, .int .i64 10000000, .int .i64 0, .int .i64 10000000, .int .i64 0] : Array Value)[i]?))
    ((first | exact keepC3 hX0.drew lA lN lQ cA cN cQ | exact keepC3 (stepB hX0.drew hb) lA lN lQ cA cN cQ | exact keepC3 (stepB (And.left (by assumption)) hb) lA lN lQ cA cN cQ | exact keepC3 (below_grow (And.left (by assumption)) _) lA lN lQ cA cN cQ))
    (first
      | (go_at_call 48; refine (metric_any _).mono ?_; rintro e w' ⟨rfl, hb⟩)
      | (go_at_call 30; refine (known_agree _ _ ?_).mono ?_; (exact forms_tab3 (Box.new _ _ _)); rintro e w19 ⟨hb, h, cap2, rfl, hh⟩))
  have hbX : Below X.heap.size X w19 := And.left (by assumption)
  have L19 : Seg w19 h [.int .i64 1] := Seg.one hh.2.1 hh.2.2
  have G19 := GX.below hbX
  have A19 : Box w19 w1.heap.size #[.int .i64 10000, .int .i64 600, .int .i64 600, .int .i64 3000, .int .i64 3000, .int .i64 1, .bool false, .int .i64 0] := Box.below AX hbX
  have N19 : Box w19 w3.heap.size #[.int .i64 10100, .int .i64 577, .int .i64 577, .int .i64 3000, .int .i64 3000, .int .i64 1, .bool false, .int .i64 0] := Box.below NX hbX
  have C19 : Box w19 (w3.heap.size + 1) #[.int .i64 10000, .int .i64 577, .int .i64 577, .int .i64 3000, .int .i64 3000, .int .i64 1, .bool false, .int .i64 50] := Box.below CX hbX
  have R19 : Box w19 w5.heap.size #[.int .i64 1538, .int .i64 1] := Box.below RX hbX
  have S19 : Box w19 w7.heap.size #[.int .i64 2500000, .int .i64 577] := Box.below SX hbX
  have T19 : Box w19 w9.heap.size #[.int .i64 9807000, .int .i64 1] := Box.below TX hbX
  have U19 : Box w19 w11.heap.size #[.int .i64 2500, .int .i64 1] := Box.below UX hbX
  have V19 : Box w19 w12.heap.size #[.int .i64 101000, .int .i64 1] := Box.below VX hbX
  have M19 : Box w19 w13.heap.size #[.int .i64 1, .int .i64 2] := Box.below MX hbX
  have W19 : Box w19 w16.heap.size #[.int .i64 127, .int .i64 5] := Box.below WX hbX
  have Q19 : Box w19 w18.heap.size #[.int .i64 10040, .int .i64 10160, .int .i64 0, .int .i64 10000000, .int .i64 0, .int .i64 10000000, .int .i64 0, .int .i64 10000000, .int .i64 0, .int .i64 10000000, .int .i64 0, .int .i64 10000000, .int .i64 0, .int .i64 10000000, .int .i64 0] := Box.below QX hbX
  have hB19 : Below w.heap.size w w19 := stepB hBX hbX
  have hs19 := hB19.size
  clear hbX hh hb cA cN cQ lA lN lQ hX0 hBX GX AX NX CX RX SX TX UX VX MX WX QX
  clear A19 N19 C19 Q19
  have cR := R19.2.1
  have cS := S19.2.1
  have cT := T19.2.1
  have cU := U19.2.1
  have cV := V19.2.1
  have cM := M19.2.1
  have cW := W19.2.1
  have hb0 := G19.2 0 (by decide)
  have hb1 := G19.2 1 (by decide)
  have hb2 := L19.2 0 (by decide)
  go_wp2
  go_returns
  exact ⟨rfl, hB19⟩
end Go.Proofs.Ytloleaahelmdjaa
