/- Contract of (shape).agrees: whether a shape agrees with what was seen. -/
import Derived.Test.YtloleaahelmdjaaMeas
import Derived.Shelf.Abstract
namespace Go.Proofs.Ytloleaahelmdjaa
open Go.RowKit Go.Shelf
attribute [local go_sem] Oper.semAt_some

def okM (x : Int × Int × Int) : Bool := inB x.2.1 x.2.2 x.1
def agreesB (f : Form) (q : Seen) : Bool := !(q.hd != 0 && q.hd != handN f.h) && (measL f q).all okM

/-- The world in which the loop begins. -/
def AgW (w : World) (f : Form) (x1 x2 : Int) (q : Seen) : World :=
  ((((w.alloc (.cells #[.int .i64 f.p, .int .i64 f.l, .int .i64 f.r, .int .i64 f.a, .int .i64 f.b, .int .i64 f.s, .bool f.h, .int .i64 f.t, .int .i64 x1, .int .i64 x2, .int .i64 (handN f.h)] 96)).alloc (.cells #[.int .i64 q.p0, .int .i64 q.p1, .int .i64 q.l0, .int .i64 q.l1, .int .i64 q.r0, .int .i64 q.r1, .int .i64 q.a0, .int .i64 q.a1, .int .i64 q.b0, .int .i64 q.b1, .int .i64 q.s0, .int .i64 q.s1, .int .i64 q.t0, .int .i64 q.t1, .int .i64 q.hd] 53)).alloc (.cells #[.bool false] 4)).alloc (.cells (shapeCells f x1 x2) 96)).alloc (.cells q.cells 53)

theorem agW (w : World) (f : Form) (x1 x2 : Int) (q : Seen) : (AgW w f x1 x2 q).heap.size = w.heap.size + 5 ∧ Boxed (AgW w f x1 x2 q) (w.heap.size + 1 + 1) 4 (.bool false) ∧
    HBox (AgW w f x1 x2 q) (w.heap.size + 1 + 1 + 1) (shapeCells f x1 x2) 96 ∧ HBox (AgW w f x1 x2 q) (w.heap.size + 1 + 1 + 1 + 1) q.cells 53 ∧ Below w.heap.size w (AgW w f x1 x2 q) := by
  refine ⟨by simp [AgW], ?_, ?_, ?_, ?_⟩
  · exact ((HBox.newAt _ _ _ (by simp)).alloc _).alloc _
  · exact (HBox.newAt _ _ _ (by simp)).alloc _
  · exact HBox.newAt _ _ _ (by simp)
  · unfold AgW; go_grown

set_option maxRecDepth 100000 in
set_option maxHeartbeats 4000000 in
theorem agrees_loop (f : Form) (x1 x2 : Int) (q : Seen) (w : World) (hq : (q.hd != 0) = false ∨ ((q.hd != 0) = true ∧ (q.hd != handN f.h) = false)) :
    Calls Try.prog 57 #[.agg (shapeCells f x1 x2), .agg q.cells] w fun e w' => e = .returned (.bool ((measL f q).all okM)) ∧ Below w.heap.size w w' := by
  refine (callsIn_wide (n := 6)).1 ?_
  refine callsIn_of_wp_marks Try.func57 rfl trivial ?_ rfl
  simp only [Try.ntmps57, List.size_toArray, List.length_cons, List.length_nil, Nat.reduceAdd, Nat.reduceSub, Array.replicate_succ, Array.replicate_zero, List.push_toArray, List.append_toArray, List.nil_append, List.cons_append]
  have HM := fun w => Lib.hid (callsIn_wide (n := 5).2 (measured_any f x1 x2 q w))
  obtain ⟨hsz, hbx, hbs, hbq, hB0⟩ := agW w f x1 x2 q
  have HZ := Lib.hid hsz
  have HW := Lib.hid (rfl : AgW w f x1 x2 q = AgW w f x1 x2 q)
  generalize hW0 : AgW w f x1 x2 q = W0 at *
  have HE := Lib.hid hW0
  clear hW0 hsz
  unfold shapeCells Seen.cells
  rcases hq with hq | ⟨hq, hq2⟩
  all_goals
    gi_wp2_with fail
    refine ⟨trivial, ?_⟩
    refine ((HM _).out).mono ?_
    rintro e w' ⟨rfl, rfl⟩
    gi_wp2
    rw [show ((((w.alloc (.cells #[.int .i64 f.p, .int .i64 f.l, .int .i64 f.r, .int .i64 f.a, .int .i64 f.b, .int .i64 f.s, .bool f.h, .int .i64 f.t, .int .i64 x1, .int .i64 x2, .int .i64 (handN f.h)] 96)).alloc (.cells #[.int .i64 q.p0, .int .i64 q.p1, .int .i64 q.l0, .int .i64 q.l1, .int .i64 q.r0, .int .i64 q.r1, .int .i64 q.a0, .int .i64 q.a1, .int .i64 q.b0, .int .i64 q.b1, .int .i64 q.s0, .int .i64 q.s1, .int .i64 q.t0, .int .i64 q.t1, .int .i64 q.hd] 53)).alloc (.cells #[.bool false] 4)).alloc (.cells (shapeCells f x1 x2) 96)).alloc (.cells q.cells 53) = W0 from HE.out]
    clear HM
    refine wpIn_rangeFunc_ownH rfl (by omega) (gf := 76) (lb := #[.pointer (some ⟨w.heap.size + 1 + 1 + 1, 0, none⟩), .pointer (some ⟨w.heap.size + 1 + 1 + 1 + 1, 0, none⟩)]) rfl trivial (enters_of Try.func76 (by kernel_rfl) rfl)
      (meas_stops (6 - 1) f x1 x2 q _ _ W0 hbs hbq) KCells.trans (fun W l o o' _ hl hc _ => KCells.put W l o o' hl hc) (Below.refl _ _) (fun _ => rfl)
      (fun pre W => (∀ x ∈ pre, okM x = true) ∧ (Boxed W (w.heap.size + 1 + 1) 4 (.bool false) ∧ Below w.heap.size w W))
      (fun c pre W => (c = .ret ∧ ∃ x ∈ pre, okM x = false) ∧ (Boxed W (w.heap.size + 1 + 1) 4 (.bool false) ∧ Below w.heap.size w W))
      (OwnFrom.and (ownFrom_pure _ _) (OwnFrom.and (Own.from (boxed_own _ _ (fun _ => Value.bool false)) _) (ownFrom_below (Nat.le_refl _) (by have := HZ.out; omega))))
      (fun c => OwnFrom.and (ownFrom_pure _ _) (OwnFrom.and (Own.from (boxed_own _ _ (fun _ => Value.bool false)) _) (ownFrom_below (Nat.le_refl _) (by have := HZ.out; omega))))
      ⟨by simp, hbx, hB0⟩
      (fun x a' W => ∃ Bx, w.heap.size + 1 + 1 < Bx ∧ HBox W Bx #[.int .i64 x.2.1, .int .i64 x.2.2] 43 ∧ ∃ u7 u8 u9 u10 u11 u12 u13 u14 u15 u16, a' = { tmps := #[.agg #[.int .i64 f.p, .int .i64 f.l, .int .i64 f.r, .int .i64 f.a, .int .i64 f.b, .int .i64 f.s, .bool f.h, .int .i64 f.t, .int .i64 x1, .int .i64 x2, .int .i64 (handN f.h)], .agg #[.int .i64 q.p0, .int .i64 q.p1, .int .i64 q.l0, .int .i64 q.l1, .int .i64 q.r0, .int .i64 q.r1, .int .i64 q.a0, .int .i64 q.a1, .int .i64 q.b0, .int .i64 q.b1, .int .i64 q.s0, .int .i64 q.s1, .int .i64 q.t0, .int .i64 q.t1, .int .i64 q.hd], .pointer (some ⟨w.heap.size, 0, none⟩), .pointer (some ⟨w.heap.size + 1, 0, none⟩), .pointer (some ⟨w.heap.size + 1 + 1, 0, none⟩), .int .i64 x.1, .pointer (some ⟨Bx, 0, none⟩), u7, u8, u9, u10, u11, u12, u13, u14, u15, u16,
        .agg #[.int .i64 f.p, .int .i64 f.l, .int .i64 f.r, .int .i64 f.a, .int .i64 f.b, .int .i64 f.s, .bool f.h, .int .i64 f.t, .int .i64 x1, .int .i64 x2, .int .i64 (handN f.h)], .agg #[.int .i64 q.p0, .int .i64 q.p1, .int .i64 q.l0, .int .i64 q.l1, .int .i64 q.r0, .int .i64 q.r1, .int .i64 q.a0, .int .i64 q.a1, .int .i64 q.b0, .int .i64 q.b1, .int .i64 q.s0, .int .i64 q.s1, .int .i64 q.t0, .int .i64 q.t1, .int .i64 q.hd], .func (.func 76) #[] #[.pointer (some ⟨w.heap.size + 1 + 1 + 1, 0, none⟩), .pointer (some ⟨w.heap.size + 1 + 1 + 1 + 1, 0, none⟩)], .int .i64 x.1, .agg #[.int .i64 x.2.1, .int .i64 x.2.2], undef, undef, undef, undef, undef, undef, undef, undef], defers := [] })
      (fun x a' _ X Y row hs hg hr => by
        obtain ⟨Bx, h1, h2, h3⟩ := hs
        refine ⟨Bx, h1, (hg.block Bx h2.lt (fun e => ?_)).trans h2, h3⟩
        obtain ⟨_, o, ho, hc⟩ := hr Bx e.symm
        rw [show X.heap[Bx]? = _ from h2] at ho
        cases ho
        cases hc)
      ?assign ?body ?done ?stop
    case assign =>
      rintro l pre x W K ⟨hp, hbx1, hB1⟩ hK
      have hsW := hB1.size
      dsimp only [encM]
      gi_wp2
      exact hK _ _ ((KeepsOthers.alloc _ _).from _) (KCells.below ((Below.refl _ W).alloc (Nat.le_refl _) _)) ⟨hp, hbx1.alloc _, hB1.alloc hsW _⟩ ⟨W.heap.size, hbx1.lt, HBox.newAt W _ _ rfl, _, _, _, _, _, _, _, _, _, _, rfl⟩
    case body =>
      rintro l pre x a' W hl ⟨r, hr⟩ ⟨hp, hbx1, hB1⟩ ⟨Bx, hBx, hX, u7, u8, u9, u10, u11, u12, u13, u14, u15, u16, rfl⟩ hlt
      have cX := hX.box.2.1
      have hX1 := hX.lt
      gi_wp2_with fail
      refine ⟨trivial, ?_⟩
      refine (CallsIn.inRound l (callsIn_wide.2 (allFrom1 _ _ x.1 _ _ _ (by simp) (by go_cell)))).mono ?_
      rintro e W2 ⟨rfl, hb2⟩
      have hbW : Below W.heap.size W W2 := stepB (by go_grown) hb2
      have hbx2 : Boxed W2 (w.heap.size + 1 + 1) 4 (.bool false) := (hbW.block _ hbx1.lt).trans hbx1
      have cR := hbx2.cell
      have fR := hbx2.frozen
      have hkf : KeepsFrom W0.heap.size W W2 := KeepsFrom.of_grownBy (grown_of_below hbW) (fun _ e => by cases e)
      have hB2 : Below w.heap.size w W2 := hB1.trans (hbW.mono hB1.size)
      have hall : allB x.2.1 x.2.2 [x.1] = okM x := by simp [allB, okM]
      rw [hall]
      clear hb2 cX hX1 hX hall hbx1 hB1
      cases ho : okM x
      · have HO := Lib.hid ho
        clear ho
        gi_wp2
        exact ⟨hkf.trans ((KeepsOthers.setCell _ _ _).from _), ⟨rfl, x, by simp, HO.out⟩, hbx2.set _, hB2.setCell (p := ⟨w.heap.size + 1 + 1, 0, none⟩) (by simp; omega) _⟩
      · have HO := Lib.hid ho
        clear ho
        gi_wp2
        refine ⟨hkf, KCells.below hbW, fun y hy => ?_, hbx2, hB2⟩
        rcases List.mem_append.1 hy with h | h
        · exact hp y h
        · simp at h; subst h; exact HO.out
    case done =>
      rintro D ys W hD rfl ⟨hp, hbx1, hB1⟩ hK
      have cR := hbx1.cell
      have fR := hbx1.frozen
      have hall : (measL f q).all okM = true := List.all_eq_true.2 hp
      have HA := Lib.hid hall
      have HD := Lib.hid hK
      have hD' : W0.heap.size ≤ D := hD
      clear hall hp hK
      gi_wp2
      have hK' := (KeepsOthers.setCell W ⟨w.heap.size + 1 + 1, 0, none⟩ (.bool true)).same D _ HD.out rfl
      have hb2 := hbx1.set (.bool true)
      refine ⟨by simp, .inl ⟨_, _, rfl, run_takeDeferred hK', ?_⟩⟩
      have hb3 := Boxed.kept hb2 (grownBy_putObj' _ D (.deferred none)) (fun e => by have := HZ.out; injection e; omega)
      have hc3 := hb3.cell
      refine ⟨.bool true, by simp [results, Try.f57, go_sem, hc3], by rw [HA.out], ?_⟩
      exact (hB1.setCell (p := ⟨w.heap.size + 1 + 1, 0, none⟩) (by simp; omega) _).trans (belowK_b (w := w) (Nat.le_refl _) _ D _ _ (by have := HZ.out; omega) hK' rfl rfl)
    case stop =>
      rintro D c pre W hD hpre ⟨⟨rfl, x, hx, hne⟩, hbx1, hB1⟩ hK
      have hall : (measL f q).all okM = false := by
        rw [List.all_eq_false]
        exact ⟨x, hpre.subset hx, by simp [hne]⟩
      have HA := Lib.hid hall
      have HD := Lib.hid hK
      clear hall hne hx hK
      gi_wp2
      refine ⟨by simp, .inl ⟨_, _, rfl, run_takeDeferred HD.out, ?_⟩⟩
      have hb3 := Boxed.kept hbx1 (grownBy_putObj' _ D (.deferred none)) (fun e => by have := HZ.out; injection e; omega)
      have hc3 := hb3.cell
      refine ⟨.bool false, by simp [results, Try.f57, go_sem, hc3], by rw [HA.out], ?_⟩
      exact hB1.trans (belowK_b (w := w) (Nat.le_refl _) _ D _ _ (by have := HZ.out; omega) HD.out rfl rfl)
end Go.Proofs.Ytloleaahelmdjaa
