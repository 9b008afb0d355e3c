/- TopRoomPlace: the way. Made by tools/gen_zcheck.py. -/
import Derived.Test.YtppdbjkbogmpcaaPub
namespace Go.Proofs.Ytppdbjkbogmpcaa
open Go.RowKit
set_option linter.unusedVariables false
set_option linter.unusedSimpArgs false

set_option maxRecDepth 100000 in
set_option maxHeartbeats 4000000 in
theorem place_way (w : World) (xa xb xc xd ya yb yc yd za zb zc zd c : Int) (xa0 : 0 ≤ xa) (xa1 : xa ≤ 255) (xb0 : 0 ≤ xb) (xb1 : xb ≤ 255) (xc0 : 0 ≤ xc) (xc1 : xc ≤ 255) (xd0 : 0 ≤ xd) (xd1 : xd ≤ 255) (ya0 : 0 ≤ ya) (ya1 : ya ≤ 255) (yb0 : 0 ≤ yb) (yb1 : yb ≤ 255) (yc0 : 0 ≤ yc) (yc1 : yc ≤ 255) (yd0 : 0 ≤ yd) (yd1 : yd ≤ 255) (za0 : 0 ≤ za) (za1 : za ≤ 255) (zb0 : 0 ≤ zb) (zb1 : zb ≤ 255) (zc0 : 0 ≤ zc) (zc1 : zc ≤ 255) (zd0 : 0 ≤ zd) (zd1 : zd ≤ 255) (c0 : 0 ≤ c) (c1 : c ≤ 50000) (H1 : Hid (∀ w : World, Calls Try.prog 67 #[.agg #[.int .u8 xa, .int .u8 xb, .int .u8 xc, .int .u8 xd]] w fun e w' => e = .returned (.agg #[.int .i64 (9000 + 4 * xa), .int .i64 (400 + xb), .int .i64 (400 + xc), .int .i64 (1 + 5 * xd), .int .i64 (5 * xd), .int .i64 1, .bool false, .int .i64 0]) ∧ Below w.heap.size w w')) (H2 : Hid (∀ w : World, Calls Try.prog 67 #[.agg #[.int .u8 ya, .int .u8 yb, .int .u8 yc, .int .u8 yd]] w fun e w' => e = .returned (.agg #[.int .i64 (9000 + 4 * ya), .int .i64 (400 + yb), .int .i64 (400 + yc), .int .i64 (1 + 5 * yd), .int .i64 (5 * yd), .int .i64 1, .bool false, .int .i64 0]) ∧ Below w.heap.size w w')) (H3 : Hid (∀ w : World, Calls Try.prog 69 #[.agg #[.int .u8 za, .int .u8 zb]] w fun e w' => e = .returned (.agg #[.int .i64 (8 * za - 1200), .int .i64 (8 * za - 1200 + 8 * zb)]) ∧ Below w.heap.size w w')) (H4 : Hid (∀ w : World, Calls Try.prog 68 #[.agg #[.int .i64 (9000 + 4 * xa), .int .i64 (400 + xb), .int .i64 (400 + xc), .int .i64 (1 + 5 * xd), .int .i64 (5 * xd), .int .i64 1, .bool false, .int .i64 0], .agg #[.int .i64 (9000 + 4 * xa), .int .i64 (400 + yb), .int .i64 (400 + yc), .int .i64 (1 + 5 * yd), .int .i64 (5 * yd), .int .i64 1, .bool false, .int .i64 0], .agg #[.int .i64 (8 * za - 1200), .int .i64 (8 * za - 1200 + 8 * zb)]] w fun e w' => e = .returned (.tuple #[.int .i64 c, .int .i64 0]) ∧ Below w.heap.size w w')) (H5 : Hid (∀ w : World, Calls Try.prog 72 #[.int .i64 10000000, .int .i64 (2 * c), .int .i64 zd] w (TabP 10000000 (2 * c) zd w))) (H6 : Hid (∀ (sa ga pa : Option Addr) (w : World), SlA IntE w sa [10000000] → SlA IntsAt w ga [[zd]] → SlA IntsAt w pa [[2 * c]] → Calls Try.prog 31 #[.agg #[.slice sa 1 1, .slice ga 1 1, .slice pa 1 1], .agg #[.int .i64 0, .int .i64 0], .bool false, .int .i64 (50000 + zc)] w fun e w' => e = .returned (.tuple #[.agg #[.int .i64 (50000 + zc - (2 * c) - zd), .int .i64 (50000 + zc - (2 * c))], .int .i64 0]) ∧ Below w.heap.size w w')) (H7 : Hid (∀ w : World, Calls Try.prog 72 #[.int .i64 10000000, .int .i64 (2 * c - 1), .int .i64 zd] w (TabP 10000000 (2 * c - 1) zd w))) (H8 : Hid (∀ (sa ga pa : Option Addr) (w : World), SlA IntE w sa [10000000] → SlA IntsAt w ga [[zd]] → SlA IntsAt w pa [[2 * c - 1]] → Calls Try.prog 31 #[.agg #[.slice sa 1 1, .slice ga 1 1, .slice pa 1 1], .agg #[.int .i64 0, .int .i64 0], .bool false, .int .i64 (50000 + zc)] w fun e w' => e = .returned (.tuple #[.agg #[.int .i64 (50000 + zc - (2 * c - 1) - zd), .int .i64 (50000 + zc - (2 * c - 1))], .int .i64 0]) ∧ Below w.heap.size w w')) :
    Calls Try.prog 14 #[.agg #[.int .u8 xa, .int .u8 xb, .int .u8 xc, .int .u8 xd], .agg #[.int .u8 ya, .int .u8 yb, .int .u8 yc, .int .u8 yd], .agg #[.int .u8 za, .int .u8 zb, .int .u8 zc, .int .u8 zd]] w fun e w' => e = .returned (.bool true) ∧ Below w.heap.size w w' := by
  have W1 : IntKind.i64.wrap zc = zc := IntWalk.i64_in _ (by omega)
  have W2 : IntKind.i64.wrap zd = zd := IntWalk.i64_in _ (by omega)
  have W3 : IntKind.i64.wrap (50000 + zc) = 50000 + zc := IntWalk.i64_in _ (by omega)
  go_enter Try.func14, Try.ntmps14
  go_wp2
  have Yb3 : Box (((w.alloc (.cells #[.int .u8 xa, .int .u8 xb, .int .u8 xc, .int .u8 xd] 117)).alloc (.cells #[.int .u8 ya, .int .u8 yb, .int .u8 yc, .int .u8 yd] 117)).alloc (.cells #[.int .u8 za, .int .u8 zb, .int .u8 zc, .int .u8 zd] 117)) w.heap.size #[.int .u8 xa, .int .u8 xb, .int .u8 xc, .int .u8 xd] := (Box.alloc (Box.alloc (Box.new w _ _) _) _)
  have Yb4 : Box (((w.alloc (.cells #[.int .u8 xa, .int .u8 xb, .int .u8 xc, .int .u8 xd] 117)).alloc (.cells #[.int .u8 ya, .int .u8 yb, .int .u8 yc, .int .u8 yd] 117)).alloc (.cells #[.int .u8 za, .int .u8 zb, .int .u8 zc, .int .u8 zd] 117)) (w.heap.size + 1) #[.int .u8 ya, .int .u8 yb, .int .u8 yc, .int .u8 yd] := (Box.alloc (Box.newAt (w.alloc _) _ _ (by simp)) _)
  have Yb5 : Box (((w.alloc (.cells #[.int .u8 xa, .int .u8 xb, .int .u8 xc, .int .u8 xd] 117)).alloc (.cells #[.int .u8 ya, .int .u8 yb, .int .u8 yc, .int .u8 yd] 117)).alloc (.cells #[.int .u8 za, .int .u8 zb, .int .u8 zc, .int .u8 zd] 117)) (w.heap.size + 1 + 1) #[.int .u8 za, .int .u8 zb, .int .u8 zc, .int .u8 zd] := (Box.newAt ((w.alloc _).alloc _) _ _ (by simp))
  have hBX : Below w.heap.size w (((w.alloc (.cells #[.int .u8 xa, .int .u8 xb, .int .u8 xc, .int .u8 xd] 117)).alloc (.cells #[.int .u8 ya, .int .u8 yb, .int .u8 yc, .int .u8 yd] 117)).alloc (.cells #[.int .u8 za, .int .u8 zb, .int .u8 zc, .int .u8 zd] 117)) := by go_grown
  generalize (((w.alloc (.cells #[.int .u8 xa, .int .u8 xb, .int .u8 xc, .int .u8 xd] 117)).alloc (.cells #[.int .u8 ya, .int .u8 yb, .int .u8 yc, .int .u8 yd] 117)).alloc (.cells #[.int .u8 za, .int .u8 zb, .int .u8 zc, .int .u8 zd] 117)) = XW1 at *
  have Zb3 := Lib.hid Yb3
  have Zb4 := Lib.hid Yb4
  have Zb5 := Lib.hid Yb5
  have ZBX := Lib.hid hBX
  clear hBX Yb3 Yb4 Yb5
  refine wp_region_float2 4 7 8 #[.int .i64 0, .int .i64 0, .int .i64 0, .int .i64 0, .int .i64 0, .int .i64 0, .bool false, .int .i64 0] #[.int .i64 0, .int .i64 0, .int .i64 0, .int .i64 0, .int .i64 0, .int .i64 0, .bool false, .int .i64 0] 39 39 (by kernel_rfl) (by kernel_rfl) ?A1 ?A2 ?E
  case A1 =>
    intro a w K hK
    unfold wpOp
    simp only [List.getElem?_toArray, List.getElem?_cons_succ, List.getElem?_cons_zero]
    go_simp
    exact .inl hK
  case A2 =>
    intro a w K hK
    unfold wpOp
    simp only [List.getElem?_toArray, List.getElem?_cons_succ, List.getElem?_cons_zero]
    go_simp
    exact .inl hK
  case E =>
    apply Exists.intro
    apply And.intro
    intro X' hX
    have rd3 := fun d os => ((Zb3.out.below hX).regrown d os).2.1
    have rd4 := fun d os => ((Zb4.out.below hX).regrown d os).2.1
    have kc18 := fun d os => (H1.out (Go.Sort.grow (redrawn X' d) os)).regrown_of
    have kc20 := fun d os => (H2.out (Go.Sort.grow (redrawn X' d) os)).regrown_of
    simp only [List.take_succ_cons, List.take_zero]
    unfold InB
    repeat ((with_reducible refine wpQuiet_step (fun K hK => ?_)); go_simp; first | ((with_reducible refine hK _ ?_); clear hK K) | (apply Exists.intro; refine ⟨fun _ => ?_, hK _ ?_⟩; (first | (go_at_call 67; with_reducible exact kc18 _ _) | (go_at_call 67; with_reducible exact kc20 _ _)); clear hK K))
    exact wpQuiet_nil rfl
    intro p1 p2 u1 hb1 B1 B2 hne hg1 hg2
    have hsX := ZBX.out.size
    have c1' := B1.2.1
    have c2' := B2.2.1
    have f1' := B1.2.2
    have f2' := B2.2.2
    have l1' := B1.1
    have l2' := B2.1
    have Y1 : Box _ p1 #[.int .i64 (9000 + 4 * xa), .int .i64 (400 + xb), .int .i64 (400 + xc), .int .i64 (1 + 5 * xd), .int .i64 (5 * xd), .int .i64 1, .bool false, .int .i64 0] := (Box.setOther (Box.setOther (Box.setOther (Box.setOther (Box.setOther (Box.setOther (Box.setOther (Box.setOther (Box.setCell (Box.setCell (Box.setCell (Box.setCell (Box.setCell (Box.setCell (Box.setCell (Box.setCell B1 (i := 0) (by simp) (.int .i64 (9000 + 4 * xa))) (i := 1) (by simp) (.int .i64 (400 + xb))) (i := 2) (by simp) (.int .i64 (400 + xc))) (i := 3) (by simp) (.int .i64 (1 + 5 * xd))) (i := 4) (by simp) (.int .i64 (5 * xd))) (i := 5) (by simp) (.int .i64 1)) (i := 6) (by simp) (.bool false)) (i := 7) (by simp) (.int .i64 0)) (g' := p2) (i := 0) (Ne.symm hne) (.int .i64 (9000 + 4 * ya))) (g' := p2) (i := 1) (Ne.symm hne) (.int .i64 (400 + yb))) (g' := p2) (i := 2) (Ne.symm hne) (.int .i64 (400 + yc))) (g' := p2) (i := 3) (Ne.symm hne) (.int .i64 (1 + 5 * yd))) (g' := p2) (i := 4) (Ne.symm hne) (.int .i64 (5 * yd))) (g' := p2) (i := 5) (Ne.symm hne) (.int .i64 1)) (g' := p2) (i := 6) (Ne.symm hne) (.bool false)) (g' := p2) (i := 7) (Ne.symm hne) (.int .i64 0))
    have Y2 : Box _ p2 #[.int .i64 (9000 + 4 * ya), .int .i64 (400 + yb), .int .i64 (400 + yc), .int .i64 (1 + 5 * yd), .int .i64 (5 * yd), .int .i64 1, .bool false, .int .i64 0] := (Box.setCell (Box.setCell (Box.setCell (Box.setCell (Box.setCell (Box.setCell (Box.setCell (Box.setCell (Box.setOther (Box.setOther (Box.setOther (Box.setOther (Box.setOther (Box.setOther (Box.setOther (Box.setOther B2 (g' := p1) (i := 0) hne (.int .i64 (9000 + 4 * xa))) (g' := p1) (i := 1) hne (.int .i64 (400 + xb))) (g' := p1) (i := 2) hne (.int .i64 (400 + xc))) (g' := p1) (i := 3) hne (.int .i64 (1 + 5 * xd))) (g' := p1) (i := 4) hne (.int .i64 (5 * xd))) (g' := p1) (i := 5) hne (.int .i64 1)) (g' := p1) (i := 6) hne (.bool false)) (g' := p1) (i := 7) hne (.int .i64 0)) (i := 0) (by simp) (.int .i64 (9000 + 4 * ya))) (i := 1) (by simp) (.int .i64 (400 + yb))) (i := 2) (by simp) (.int .i64 (400 + yc))) (i := 3) (by simp) (.int .i64 (1 + 5 * yd))) (i := 4) (by simp) (.int .i64 (5 * yd))) (i := 5) (by simp) (.int .i64 1)) (i := 6) (by simp) (.bool false)) (i := 7) (by simp) (.int .i64 0))
    have hBW := (Below.setCell (Below.setCell (Below.setCell (Below.setCell (Below.setCell (Below.setCell (Below.setCell (Below.setCell (Below.setCell (Below.setCell (Below.setCell (Below.setCell (Below.setCell (Below.setCell (Below.setCell (Below.setCell hb1 (p := ⟨p1, 0, none⟩) hg1 (.int .i64 (9000 + 4 * xa))) (p := ⟨p1, 1, none⟩) hg1 (.int .i64 (400 + xb))) (p := ⟨p1, 2, none⟩) hg1 (.int .i64 (400 + xc))) (p := ⟨p1, 3, none⟩) hg1 (.int .i64 (1 + 5 * xd))) (p := ⟨p1, 4, none⟩) hg1 (.int .i64 (5 * xd))) (p := ⟨p1, 5, none⟩) hg1 (.int .i64 1)) (p := ⟨p1, 6, none⟩) hg1 (.bool false)) (p := ⟨p1, 7, none⟩) hg1 (.int .i64 0)) (p := ⟨p2, 0, none⟩) hg2 (.int .i64 (9000 + 4 * ya))) (p := ⟨p2, 1, none⟩) hg2 (.int .i64 (400 + yb))) (p := ⟨p2, 2, none⟩) hg2 (.int .i64 (400 + yc))) (p := ⟨p2, 3, none⟩) hg2 (.int .i64 (1 + 5 * yd))) (p := ⟨p2, 4, none⟩) hg2 (.int .i64 (5 * yd))) (p := ⟨p2, 5, none⟩) hg2 (.int .i64 1)) (p := ⟨p2, 6, none⟩) hg2 (.bool false)) (p := ⟨p2, 7, none⟩) hg2 (.int .i64 0))
    have HBS := Lib.hid (And.intro Y1 (And.intro Y2 hBW))
    clear Y1 Y2 hBW
    simp only [List.drop_succ_cons, List.drop_zero, Act.put, ptrV]
    go_wp2
    clear B1 B2 c1' c2' f1' f2' l1' l2' hb1
    generalize ((((((((((((((((u1.setCell ⟨p1, 0, none⟩ (.int .i64 (9000 + 4 * xa))).setCell ⟨p1, 1, none⟩ (.int .i64 (400 + xb))).setCell ⟨p1, 2, none⟩ (.int .i64 (400 + xc))).setCell ⟨p1, 3, none⟩ (.int .i64 (1 + 5 * xd))).setCell ⟨p1, 4, none⟩ (.int .i64 (5 * xd))).setCell ⟨p1, 5, none⟩ (.int .i64 1)).setCell ⟨p1, 6, none⟩ (.bool false)).setCell ⟨p1, 7, none⟩ (.int .i64 0)).setCell ⟨p2, 0, none⟩ (.int .i64 (9000 + 4 * ya))).setCell ⟨p2, 1, none⟩ (.int .i64 (400 + yb))).setCell ⟨p2, 2, none⟩ (.int .i64 (400 + yc))).setCell ⟨p2, 3, none⟩ (.int .i64 (1 + 5 * yd))).setCell ⟨p2, 4, none⟩ (.int .i64 (5 * yd))).setCell ⟨p2, 5, none⟩ (.int .i64 1)).setCell ⟨p2, 6, none⟩ (.bool false)).setCell ⟨p2, 7, none⟩ (.int .i64 0)) = w1 at *
    obtain ⟨Xb7_1, Xb8_1, hb1⟩ := HBS.out
    clear HBS
    have Xb5_1 : Box w1 (w.heap.size + 1 + 1) #[.int .u8 za, .int .u8 zb, .int .u8 zc, .int .u8 zd] := Zb5.out.below hb1
    have nq5 : p2 ≠ (w.heap.size + 1 + 1) := by have := Zb5.out.1; omega
    have nq7 : p2 ≠ p1 := Ne.symm hne
    have hB1 : Below w.heap.size w w1 := ZBX.out.trans (hb1.mono hsX)
    have hs1 := hB1.size
    have hz7 : w.heap.size ≤ p1 := Nat.le_trans hsX hg1
    have hz8 : w.heap.size ≤ p2 := Nat.le_trans hsX hg2
    clear hb1 ZBX hsX hg1 hg2 hne Zb3 Zb4 Zb5
    have cc7 := Xb7_1.2.1
    have ll7 := Xb7_1.1
    have cc8 := Xb8_1.2.1
    have ll8 := Xb8_1.1
    go_wp2
    have Xb5_2 : Box _ (w.heap.size + 1 + 1) #[.int .u8 za, .int .u8 zb, .int .u8 zc, .int .u8 zd] := Box.setOther Xb5_1 (g' := p2) (i := 0) nq5 (.int .i64 (9000 + 4 * xa))
    have Xb7_2 : Box _ p1 #[.int .i64 (9000 + 4 * xa), .int .i64 (400 + xb), .int .i64 (400 + xc), .int .i64 (1 + 5 * xd), .int .i64 (5 * xd), .int .i64 1, .bool false, .int .i64 0] := Box.setOther Xb7_1 (g' := p2) (i := 0) nq7 (.int .i64 (9000 + 4 * xa))
    have Xb8_2 : Box _ p2 #[.int .i64 (9000 + 4 * xa), .int .i64 (400 + yb), .int .i64 (400 + yc), .int .i64 (1 + 5 * yd), .int .i64 (5 * yd), .int .i64 1, .bool false, .int .i64 0] := Box.setCell Xb8_1 (i := 0) (by simp) (.int .i64 (9000 + 4 * xa))
    have hB2 : Below w.heap.size w (w1.setCell ⟨p2, 0, none⟩ (.int .i64 (9000 + 4 * xa))) := Below.setCell hB1 (p := ⟨p2, 0, none⟩) hz8 (.int .i64 (9000 + 4 * xa))
    clear Xb5_1 Xb7_1 Xb8_1 cc7 ll7 cc8 ll8 hB1 hs1
    generalize (w1.setCell ⟨p2, 0, none⟩ (.int .i64 (9000 + 4 * xa))) = w2 at *
    have hs2 := hB2.size
    go_wp2
    have Yb5 : Box w2 (w.heap.size + 1 + 1) #[.int .u8 za, .int .u8 zb, .int .u8 zc, .int .u8 zd] := Xb5_2
    have Yb7 : Box w2 p1 #[.int .i64 (9000 + 4 * xa), .int .i64 (400 + xb), .int .i64 (400 + xc), .int .i64 (1 + 5 * xd), .int .i64 (5 * xd), .int .i64 1, .bool false, .int .i64 0] := Xb7_2
    have Yb8 : Box w2 p2 #[.int .i64 (9000 + 4 * xa), .int .i64 (400 + yb), .int .i64 (400 + yc), .int .i64 (1 + 5 * yd), .int .i64 (5 * yd), .int .i64 1, .bool false, .int .i64 0] := Xb8_2
    have hBX : Below w.heap.size w w2 := by go_grown
    clear hB2 hs2 Xb5_2 Xb7_2 Xb8_2
    have hsX := hBX.size
    have rd5 := fun d os => (Yb5.regrown d os).2.1
    have rd7 := fun d os => (Yb7.regrown d os).2.1
    have rd8 := fun d os => (Yb8.regrown d os).2.1
    have kc32 := fun d os => (H3.out (Go.Sort.grow (redrawn w2 d) os)).regrown_of
    have kc33 := fun d os => (H4.out (Go.Sort.grow (redrawn w2 d) os)).regrown_of
    have Zb5 := Lib.hid Yb5
    clear Yb5 Yb7 Yb8
    refine wp_region_quiet_below (by kernel_rfl) (by kernel_rfl) ?_
    repeat ((with_reducible refine wpQuiet_step (fun K hK => ?_)); go_simp; first | ((with_reducible refine hK _ ?_); clear hK K) | (apply Exists.intro; refine ⟨fun _ => ?_, hK _ ?_⟩; (first | (go_at_call 69; with_reducible exact kc32 _ _) | (go_at_call 68; with_reducible exact kc33 _ _)); clear hK K))
    with_reducible refine wpQuiet_nil ?_
    intro w3 hw'
    obtain ⟨⟨dq, osq⟩, hw''⟩ := hw'
    have hb3 : Below w2.heap.size w2 w3 := by rw [hw'']; exact below_regrown w2 dq osq
    have Xb5_3 : Box w3 (w.heap.size + 1 + 1) #[.int .u8 za, .int .u8 zb, .int .u8 zc, .int .u8 zd] := Zb5.out.below hb3
    have hB3 : Below w.heap.size w w3 := stepB hBX hb3
    have hs3 := hB3.size
    clear hw'' hb3 hBX hsX rd5 rd7 rd8 kc32 kc33 Zb5
    go_wp2
    have Yb5 : Box w3 (w.heap.size + 1 + 1) #[.int .u8 za, .int .u8 zb, .int .u8 zc, .int .u8 zd] := Xb5_3
    have hBX : Below w.heap.size w w3 := by go_grown
    clear hB3 hs3 Xb5_3
    have hsX := hBX.size
    have rd5 := fun d os => (Yb5.regrown d os).2.1
    clear Yb5
    refine wp_region_quiet_below (by kernel_rfl) (by kernel_rfl) ?_
    repeat ((with_reducible refine wpQuiet_step (fun K hK => ?_)); go_simp; first | ((with_reducible refine hK _ ?_); clear hK K) | (apply Exists.intro; refine ⟨fun _ => ?_, hK _ ?_⟩; fail; clear hK K))
    with_reducible refine wpQuiet_nil ?_
    intro w4 hw'
    obtain ⟨⟨dq, osq⟩, hw''⟩ := hw'
    have hb4 : Below w3.heap.size w3 w4 := by rw [hw'']; exact below_regrown w3 dq osq
    have hB4 : Below w.heap.size w w4 := stepB hBX hb4
    have hs4 := hB4.size
    clear hw'' hb4 hBX hsX rd5
    go_wp2_with fail
    refine (H5.out _).mono ?_
    rintro e w5 ⟨sa, ga, pa, rfl, hb5, t1, t2, t3⟩
    have hB5 : Below w.heap.size w w5 := stepB (by go_grown) hb5
    have hs5 := hB5.size
    clear hb5 hB4 hs4
    go_wp2_with fail
    refine (H6.out sa ga pa _ t1 t2 t3).mono ?_
    rintro e w6 ⟨rfl, hb6⟩
    have hB6 : Below w.heap.size w w6 := stepB (by go_grown) hb6
    have hs6 := hB6.size
    clear hb6 hB5 hs5
    go_wp2_with fail
    refine (H7.out _).mono ?_
    rintro e w7 ⟨sa, ga, pa, rfl, hb7, t1, t2, t3⟩
    have hB7 : Below w.heap.size w w7 := stepB (by go_grown) hb7
    have hs7 := hB7.size
    clear hb7 hB6 hs6
    go_wp2_with fail
    refine (H8.out sa ga pa _ t1 t2 t3).mono ?_
    rintro e w8 ⟨rfl, hb8⟩
    have hB8 : Below w.heap.size w w8 := stepB (by go_grown) hb8
    have hs8 := hB8.size
    clear hb8 hB7 hs7
    go_wp2_with fail
    refine (pubThread_any _).mono ?_
    rintro e w9 ⟨rfl, hb9⟩
    have hB9 : Below w.heap.size w w9 := stepB (by go_grown) hb9
    have hs9 := hB9.size
    clear hb9 hB8 hs8
    go_wp2_with fail
    refine (pubZone_any _).mono ?_
    rintro e w10 ⟨rfl, hb10⟩
    have hB10 : Below w.heap.size w w10 := stepB (by go_grown) hb10
    have hs10 := hB10.size
    clear hb10 hB9 hs9
    go_wp2
    go_returns
    exact ⟨rfl, hB10⟩

end Go.Proofs.Ytppdbjkbogmpcaa
