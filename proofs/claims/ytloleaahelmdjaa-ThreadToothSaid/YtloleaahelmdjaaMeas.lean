/- Contract of measured: the function that yields a shape's measured numbers, each with what was seen of it. -/
import Derived.Test.YtloleaahelmdjaaSeen
import Derived.Test.YtloleaahelmdjaaTailIn
import Derived.RangeFuncNested
import Derived.RangeFuncBound
import Derived.RangeFuncCalls
import Derived.RangeFuncLeaves
import Derived.OwnWalkIn
import Derived.TacticsInMore
import Derived.LoopNIn
import Derived.LoopIn
namespace Go.Proofs.Ytloleaahelmdjaa
open Go.RowKit
set_option linter.unusedSimpArgs false
set_option linter.unusedVariables false
attribute [local go_sem] Oper.semAt_some

/-- A block, as it lies in the heap. -/
def HBox (w : World) (g : Nat) (cs : Array Value) (T : TypeId) : Prop := w.heap[g]? = some (.cells cs T (0, 0))
theorem HBox.lt {w : World} {g : Nat} {cs : Array Value} {T : TypeId} (h : HBox w g cs T) : g < w.heap.size := (Array.getElem?_eq_some_iff.1 h).1
theorem HBox.box {w : World} {g : Nat} {cs : Array Value} {T : TypeId} (h : HBox w g cs T) : Box w g cs := ⟨h.lt, cell_at h, free_at h⟩
theorem HBox.newAt {n : Nat} (w : World) (cs : Array Value) (T : TypeId) (hn : n = w.heap.size) : HBox (w.alloc (.cells cs T)) n cs T := by
  subst hn
  exact (MapKept.heap_alloc w (.cells cs T)).1
theorem HBox.below {w w' : World} {g : Nat} {cs : Array Value} {T : TypeId} (h : HBox w g cs T) (hb : Below w.heap.size w w') : HBox w' g cs T := (hb.block g h.lt).trans h
theorem HBox.alloc {w : World} {g : Nat} {cs : Array Value} {T : TypeId} (h : HBox w g cs T) (o : Obj) : HBox (w.alloc o) g cs T := h.below ((Below.refl _ _).alloc (Nat.le_refl _) o)

/-- Whatever is cells lies as it lay. -/
def KCells (W W' : World) : Prop := W.heap.size ≤ W'.heap.size ∧ ∀ (k : Nat) (o : Obj), W.heap[k]? = some o → o.isCells = true → W'.heap[k]? = some o
theorem KCells.trans {A B C : World} (h : KCells A B) (h' : KCells B C) : KCells A C := ⟨Nat.le_trans h.1 h'.1, fun k o e hc => h'.2 k o (h.2 k o e hc) hc⟩
theorem KCells.put (W : World) (l : Nat) (o o' : Obj) (hl : W.heap[l]? = some o) (hc : o.isCells = false) : KCells W (W.putObj l o') := by
  have hg := grownBy_putObj' W l o'
  refine ⟨hg.size, fun k x e hx => ?_⟩
  by_cases ek : k = l
  · subst ek
    rw [hl] at e
    cases e
    rw [hc] at hx
    exact absurd hx (by simp)
  · exact (hg.block k (Array.getElem?_eq_some_iff.1 e).1 (fun x => ek (by injection x))).trans e
theorem KCells.below {W W' : World} (h : Below W.heap.size W W') : KCells W W' := ⟨h.size, fun k o e _ => (h.block k (Array.getElem?_eq_some_iff.1 e).1).trans e⟩
theorem HBox.kept {w w' : World} {g : Nat} {cs : Array Value} {T : TypeId} (h : HBox w g cs T) (hk : KCells w w') : HBox w' g cs T := hk.2 g _ h rfl

theorem grown_of_below {W W' : World} (h : Below W.heap.size W W') : W.grownBy W' none := ⟨h.os, h.tape, h.output, h.size, fun k hk _ => h.block k hk⟩
theorem abides_below {β : Type} {B : Nat} {J : β → World → Prop} (h : AbidesFrom B J) {s : β} {W W' : World} (hs : J s W) (hb : Below W.heap.size W W') : J s W' := h s W W' none hs (grown_of_below hb) (fun r e => by cases e)

/-- What is measured of a form, with what was seen. -/
structure Seen where
  p0 : Int
  p1 : Int
  l0 : Int
  l1 : Int
  r0 : Int
  r1 : Int
  a0 : Int
  a1 : Int
  b0 : Int
  b1 : Int
  s0 : Int
  s1 : Int
  t0 : Int
  t1 : Int
  hd : Int

def Seen.cells (q : Seen) : Array Value := #[.int .i64 q.p0, .int .i64 q.p1, .int .i64 q.l0, .int .i64 q.l1, .int .i64 q.r0, .int .i64 q.r1, .int .i64 q.a0, .int .i64 q.a1, .int .i64 q.b0, .int .i64 q.b1, .int .i64 q.s0, .int .i64 q.s1, .int .i64 q.t0, .int .i64 q.t1, .int .i64 q.hd]

def measL (f : Form) (q : Seen) : List (Int × Int × Int) := [(f.p, q.p0, q.p1), (f.l, q.l0, q.l1), (f.r, q.r0, q.r1), (f.a, q.a0, q.a1), (f.b, q.b0, q.b1), (f.s, q.s0, q.s1), (f.t, q.t0, q.t1)]
def encM (x : Int × Int × Int) : Array Value := #[.int .i64 x.1, .agg #[.int .i64 x.2.1, .int .i64 x.2.2]]
def shapeCells (f : Form) (x1 x2 : Int) : Array Value := #[.int .i64 f.p, .int .i64 f.l, .int .i64 f.r, .int .i64 f.a, .int .i64 f.b, .int .i64 f.s, .bool f.h, .int .i64 f.t, .int .i64 x1, .int .i64 x2, .int .i64 (handN f.h)]

set_option maxHeartbeats 400000 in
theorem measured_any (f : Form) (x1 x2 : Int) (q : Seen) (w : World) :
    Calls Try.prog 70 #[.agg (shapeCells f x1 x2), .agg q.cells] w fun e w' =>
      e = .returned (.func (.func 76) #[] #[.pointer (some ⟨w.heap.size, 0, none⟩), .pointer (some ⟨w.heap.size + 1, 0, none⟩)]) ∧ w' = (w.alloc (.cells (shapeCells f x1 x2) 96)).alloc (.cells q.cells 53) := by
  unfold shapeCells Seen.cells
  go_enter Try.func70, Try.ntmps70
  go_wp2
  go_returns
  exact ⟨rfl, rfl⟩

set_option maxRecDepth 100000 in
set_option maxHeartbeats 1000000 in
theorem meas_stops (n : Nat) (f : Form) (x1 x2 : Int) (q : Seen) (gs gq : Nat) (w : World) (hS : HBox w gs (shapeCells f x1 x2) 96) (hQ : HBox w gq q.cells 53) :
    SeqStopsK Fence.wide n Try.prog 76 #[.pointer (some ⟨gs, 0, none⟩), .pointer (some ⟨gq, 0, none⟩)] encM KCells (fun ys => ys = measL f q) (fun pre => pre <+: measL f q) 7 w := by
  intro l J Jx W hW hJ hJx hY h0
  have cS := (hS.below hW).box.2.1
  have cQ := (hQ.below hW).box.2.1
  have cS' := hS.below hW
  have cQ' := hQ.below hW
  unfold shapeCells at cS
  unfold Seen.cells at cQ
  refine callsIn_of_wp Try.func76 rfl trivial ?_ rfl
  simp only [Try.ntmps76, List.size_toArray, List.length_cons, List.length_nil, Nat.reduceAdd, Nat.reduceSub, Array.replicate_succ, Array.replicate_zero, List.push_toArray, List.append_toArray, List.nil_append, List.cons_append]
  gi_wp2_with fail
  refine ⟨trivial, fun hx => by simp [Fence.wide] at hx, ?_⟩
  refine (callsIn_wide.2 (values_any f.p f.l f.r f.a f.b f.s f.t x1 x2 f.h _)).mono ?_
  rintro e w1 ⟨rfl, hb1⟩
  have cQ1 := (cQ'.below hb1).box.2.1
  have hgq := (cQ'.below hb1).lt
  have h1 : J [] w1 := abides_below hJ h0 hb1
  have hW1 : W.heap.size ≤ w1.heap.size := hb1.size
  unfold Seen.cells at cQ1
  clear hb1 cS cQ cQ' cS' h0
  gi_wp2_with fail
  refine ⟨trivial, fun hx => by simp [Fence.wide] at hx, ?_⟩
  refine (callsIn_wide.2 (spans_any q.p0 q.p1 q.l0 q.l1 q.r0 q.r1 q.a0 q.a1 q.b0 q.b1 q.s0 q.s1 q.t0 q.t1 q.hd _)).mono ?_
  rintro e w2 ⟨rfl, hb2⟩
  have V2 : HBox w2 w1.heap.size _ _ := (HBox.newAt w1 _ _ rfl).below hb2
  have h2 : J [] w2 := abides_below hJ (abides_below hJ h1 ((Below.refl _ _).alloc (Nat.le_refl _) _)) hb2
  have hW2 : W.heap.size ≤ w2.heap.size := by have := hb2.size; simp at this; omega
  clear hb2 cQ1 hgq h1 hW1
  gi_wp2
  gi_loopw [5, 6, 11] (fun _ _ i wr => ∃ k : Int, 0 ≤ k ∧ k ≤ 7 ∧ i = .int .i64 k ∧ J ((measL f q).take k.toNat) wr ∧ W.heap.size ≤ wr.heap.size ∧ HBox wr w1.heap.size #[.int .i64 f.p, .int .i64 f.l, .int .i64 f.r, .int .i64 f.a, .int .i64 f.b, .int .i64 f.s, .int .i64 f.t] 111) (fun _ _ i _ => 7 - (intOf i).toNat)
  case atStart => exact ⟨0, by omega, by omega, rfl, h2, hW2, V2⟩
  case round =>
    clear h2 hW2 V2
    obtain ⟨k, hk0, hk, rfl, hJk, hsz, V⟩ := hrel
    by_cases hlt : k < 7
    · have hk7 : k = 0 ∨ k = 1 ∨ k = 2 ∨ k = 3 ∨ k = 4 ∨ k = 5 ∨ k = 6 := by omega
      rcases hk7 with rfl | rfl | rfl | rfl | rfl | rfl | rfl
      · have ix : ∀ w, (Instr.index 113 (.agg #[.int .i64 q.p0, .int .i64 q.p1, .int .i64 q.l0, .int .i64 q.l1, .int .i64 q.r0, .int .i64 q.r1, .int .i64 q.a0, .int .i64 q.a1, .int .i64 q.b0, .int .i64 q.b1, .int .i64 q.s0, .int .i64 q.s1, .int .i64 q.t0, .int .i64 q.t1]) (.int .i64 0)).run Try.prog w = .ok (.agg #[.int .i64 q.p0, .int .i64 q.p1]) w := fun _ => by kernel_rfl
        have hJ0 : J [] (wr.alloc (.cells #[.int .i64 q.p0, .int .i64 q.p1] 43)) := abides_below hJ hJk ((Below.refl _ _).alloc (Nat.le_refl _) _)
        have V0 := V.alloc (.cells #[.int .i64 q.p0, .int .i64 q.p1] 43)
        have hszX : W.heap.size ≤ (wr.alloc (.cells #[.int .i64 q.p0, .int .i64 q.p1] 43)).heap.size := by simp; omega
        have S0 := HBox.newAt wr #[.int .i64 q.p0, .int .i64 q.p1] 43 rfl
        gi_wp2
        clear ix V hJk
        generalize wr.alloc (.cells #[.int .i64 q.p0, .int .i64 q.p1] 43) = X at *
        have cV := V0.box.2.1
        have cX := S0.box.2.1
        refine wpIn_region_quiet_tail (C := fun w' => ∃ n, w' = X.drewN n) 5 (by kernel_rfl) (by kernel_rfl) ⟨1, rfl⟩ ?_
        simp only [List.take_succ_cons, List.take_zero, List.drop_succ_cons, List.drop_zero]
        repeat (quiet_step (fail))
        refine wpQuiet_nil ?_
        intro Y hY'
        obtain ⟨nq, rfl⟩ := hY'
        obtain ⟨fn, tmps, assign, body, hy, hR⟩ := hY [] (f.p, q.p0, q.p1) (X.drewN nq) (abides_below hJ hJ0 (below_drewN _ _ _)) (by simp)
        dsimp only [encM] at hy
        gi_wp2
        refine ⟨fun hx => by simp [Fence.wide] at hx, hR.mono ?_⟩
        rintro e W3 (⟨rfl, hJ3, hk3⟩ | ⟨rfl, hJx3⟩)
        · have V3 := V0.kept ((KCells.below (below_drewN _ X nq)).trans hk3)
          have hs3 := hk3.1
          clear hy hR cV cX V0 S0 hJ0
          gi_wp2
          go_roundw
          case rel => exact ⟨1, by omega, by omega, by first | rfl | simp, hJ3, by simp at hs3 hszX; omega, V3⟩
          case measure => simp [intOf]
        · clear hy hR cV cX V0 S0 hJ0
          gi_wp2
          refine bodyPost_ret (results_none rfl _ _ _) rfl ?_
          exact ⟨⟨_, rfl⟩, .inr ⟨_, ⟨_, rfl⟩, hJx3⟩⟩
      · have ix : ∀ w, (Instr.index 113 (.agg #[.int .i64 q.p0, .int .i64 q.p1, .int .i64 q.l0, .int .i64 q.l1, .int .i64 q.r0, .int .i64 q.r1, .int .i64 q.a0, .int .i64 q.a1, .int .i64 q.b0, .int .i64 q.b1, .int .i64 q.s0, .int .i64 q.s1, .int .i64 q.t0, .int .i64 q.t1]) (.int .i64 1)).run Try.prog w = .ok (.agg #[.int .i64 q.l0, .int .i64 q.l1]) w := fun _ => by kernel_rfl
        have hJ0 : J [(f.p, q.p0, q.p1)] (wr.alloc (.cells #[.int .i64 q.l0, .int .i64 q.l1] 43)) := abides_below hJ hJk ((Below.refl _ _).alloc (Nat.le_refl _) _)
        have V0 := V.alloc (.cells #[.int .i64 q.l0, .int .i64 q.l1] 43)
        have hszX : W.heap.size ≤ (wr.alloc (.cells #[.int .i64 q.l0, .int .i64 q.l1] 43)).heap.size := by simp; omega
        have S0 := HBox.newAt wr #[.int .i64 q.l0, .int .i64 q.l1] 43 rfl
        gi_wp2
        clear ix V hJk
        generalize wr.alloc (.cells #[.int .i64 q.l0, .int .i64 q.l1] 43) = X at *
        have cV := V0.box.2.1
        have cX := S0.box.2.1
        refine wpIn_region_quiet_tail (C := fun w' => ∃ n, w' = X.drewN n) 5 (by kernel_rfl) (by kernel_rfl) ⟨1, rfl⟩ ?_
        simp only [List.take_succ_cons, List.take_zero, List.drop_succ_cons, List.drop_zero]
        repeat (quiet_step (fail))
        refine wpQuiet_nil ?_
        intro Y hY'
        obtain ⟨nq, rfl⟩ := hY'
        obtain ⟨fn, tmps, assign, body, hy, hR⟩ := hY [(f.p, q.p0, q.p1)] (f.l, q.l0, q.l1) (X.drewN nq) (abides_below hJ hJ0 (below_drewN _ _ _)) (by simp)
        dsimp only [encM] at hy
        gi_wp2
        refine ⟨fun hx => by simp [Fence.wide] at hx, hR.mono ?_⟩
        rintro e W3 (⟨rfl, hJ3, hk3⟩ | ⟨rfl, hJx3⟩)
        · have V3 := V0.kept ((KCells.below (below_drewN _ X nq)).trans hk3)
          have hs3 := hk3.1
          clear hy hR cV cX V0 S0 hJ0
          gi_wp2
          go_roundw
          case rel => exact ⟨2, by omega, by omega, by first | rfl | simp, hJ3, by simp at hs3 hszX; omega, V3⟩
          case measure => simp [intOf]
        · clear hy hR cV cX V0 S0 hJ0
          gi_wp2
          refine bodyPost_ret (results_none rfl _ _ _) rfl ?_
          exact ⟨⟨_, rfl⟩, .inr ⟨_, ⟨_, rfl⟩, hJx3⟩⟩
      · have ix : ∀ w, (Instr.index 113 (.agg #[.int .i64 q.p0, .int .i64 q.p1, .int .i64 q.l0, .int .i64 q.l1, .int .i64 q.r0, .int .i64 q.r1, .int .i64 q.a0, .int .i64 q.a1, .int .i64 q.b0, .int .i64 q.b1, .int .i64 q.s0, .int .i64 q.s1, .int .i64 q.t0, .int .i64 q.t1]) (.int .i64 2)).run Try.prog w = .ok (.agg #[.int .i64 q.r0, .int .i64 q.r1]) w := fun _ => by kernel_rfl
        have hJ0 : J [(f.p, q.p0, q.p1), (f.l, q.l0, q.l1)] (wr.alloc (.cells #[.int .i64 q.r0, .int .i64 q.r1] 43)) := abides_below hJ hJk ((Below.refl _ _).alloc (Nat.le_refl _) _)
        have V0 := V.alloc (.cells #[.int .i64 q.r0, .int .i64 q.r1] 43)
        have hszX : W.heap.size ≤ (wr.alloc (.cells #[.int .i64 q.r0, .int .i64 q.r1] 43)).heap.size := by simp; omega
        have S0 := HBox.newAt wr #[.int .i64 q.r0, .int .i64 q.r1] 43 rfl
        gi_wp2
        clear ix V hJk
        generalize wr.alloc (.cells #[.int .i64 q.r0, .int .i64 q.r1] 43) = X at *
        have cV := V0.box.2.1
        have cX := S0.box.2.1
        refine wpIn_region_quiet_tail (C := fun w' => ∃ n, w' = X.drewN n) 5 (by kernel_rfl) (by kernel_rfl) ⟨1, rfl⟩ ?_
        simp only [List.take_succ_cons, List.take_zero, List.drop_succ_cons, List.drop_zero]
        repeat (quiet_step (fail))
        refine wpQuiet_nil ?_
        intro Y hY'
        obtain ⟨nq, rfl⟩ := hY'
        obtain ⟨fn, tmps, assign, body, hy, hR⟩ := hY [(f.p, q.p0, q.p1), (f.l, q.l0, q.l1)] (f.r, q.r0, q.r1) (X.drewN nq) (abides_below hJ hJ0 (below_drewN _ _ _)) (by simp)
        dsimp only [encM] at hy
        gi_wp2
        refine ⟨fun hx => by simp [Fence.wide] at hx, hR.mono ?_⟩
        rintro e W3 (⟨rfl, hJ3, hk3⟩ | ⟨rfl, hJx3⟩)
        · have V3 := V0.kept ((KCells.below (below_drewN _ X nq)).trans hk3)
          have hs3 := hk3.1
          clear hy hR cV cX V0 S0 hJ0
          gi_wp2
          go_roundw
          case rel => exact ⟨3, by omega, by omega, by first | rfl | simp, hJ3, by simp at hs3 hszX; omega, V3⟩
          case measure => simp [intOf]
        · clear hy hR cV cX V0 S0 hJ0
          gi_wp2
          refine bodyPost_ret (results_none rfl _ _ _) rfl ?_
          exact ⟨⟨_, rfl⟩, .inr ⟨_, ⟨_, rfl⟩, hJx3⟩⟩
      · have ix : ∀ w, (Instr.index 113 (.agg #[.int .i64 q.p0, .int .i64 q.p1, .int .i64 q.l0, .int .i64 q.l1, .int .i64 q.r0, .int .i64 q.r1, .int .i64 q.a0, .int .i64 q.a1, .int .i64 q.b0, .int .i64 q.b1, .int .i64 q.s0, .int .i64 q.s1, .int .i64 q.t0, .int .i64 q.t1]) (.int .i64 3)).run Try.prog w = .ok (.agg #[.int .i64 q.a0, .int .i64 q.a1]) w := fun _ => by kernel_rfl
        have hJ0 : J [(f.p, q.p0, q.p1), (f.l, q.l0, q.l1), (f.r, q.r0, q.r1)] (wr.alloc (.cells #[.int .i64 q.a0, .int .i64 q.a1] 43)) := abides_below hJ hJk ((Below.refl _ _).alloc (Nat.le_refl _) _)
        have V0 := V.alloc (.cells #[.int .i64 q.a0, .int .i64 q.a1] 43)
        have hszX : W.heap.size ≤ (wr.alloc (.cells #[.int .i64 q.a0, .int .i64 q.a1] 43)).heap.size := by simp; omega
        have S0 := HBox.newAt wr #[.int .i64 q.a0, .int .i64 q.a1] 43 rfl
        gi_wp2
        clear ix V hJk
        generalize wr.alloc (.cells #[.int .i64 q.a0, .int .i64 q.a1] 43) = X at *
        have cV := V0.box.2.1
        have cX := S0.box.2.1
        refine wpIn_region_quiet_tail (C := fun w' => ∃ n, w' = X.drewN n) 5 (by kernel_rfl) (by kernel_rfl) ⟨1, rfl⟩ ?_
        simp only [List.take_succ_cons, List.take_zero, List.drop_succ_cons, List.drop_zero]
        repeat (quiet_step (fail))
        refine wpQuiet_nil ?_
        intro Y hY'
        obtain ⟨nq, rfl⟩ := hY'
        obtain ⟨fn, tmps, assign, body, hy, hR⟩ := hY [(f.p, q.p0, q.p1), (f.l, q.l0, q.l1), (f.r, q.r0, q.r1)] (f.a, q.a0, q.a1) (X.drewN nq) (abides_below hJ hJ0 (below_drewN _ _ _)) (by simp)
        dsimp only [encM] at hy
        gi_wp2
        refine ⟨fun hx => by simp [Fence.wide] at hx, hR.mono ?_⟩
        rintro e W3 (⟨rfl, hJ3, hk3⟩ | ⟨rfl, hJx3⟩)
        · have V3 := V0.kept ((KCells.below (below_drewN _ X nq)).trans hk3)
          have hs3 := hk3.1
          clear hy hR cV cX V0 S0 hJ0
          gi_wp2
          go_roundw
          case rel => exact ⟨4, by omega, by omega, by first | rfl | simp, hJ3, by simp at hs3 hszX; omega, V3⟩
          case measure => simp [intOf]
        · clear hy hR cV cX V0 S0 hJ0
          gi_wp2
          refine bodyPost_ret (results_none rfl _ _ _) rfl ?_
          exact ⟨⟨_, rfl⟩, .inr ⟨_, ⟨_, rfl⟩, hJx3⟩⟩
      · have ix : ∀ w, (Instr.index 113 (.agg #[.int .i64 q.p0, .int .i64 q.p1, .int .i64 q.l0, .int .i64 q.l1, .int .i64 q.r0, .int .i64 q.r1, .int .i64 q.a0, .int .i64 q.a1, .int .i64 q.b0, .int .i64 q.b1, .int .i64 q.s0, .int .i64 q.s1, .int .i64 q.t0, .int .i64 q.t1]) (.int .i64 4)).run Try.prog w = .ok (.agg #[.int .i64 q.b0, .int .i64 q.b1]) w := fun _ => by kernel_rfl
        have hJ0 : J [(f.p, q.p0, q.p1), (f.l, q.l0, q.l1), (f.r, q.r0, q.r1), (f.a, q.a0, q.a1)] (wr.alloc (.cells #[.int .i64 q.b0, .int .i64 q.b1] 43)) := abides_below hJ hJk ((Below.refl _ _).alloc (Nat.le_refl _) _)
        have V0 := V.alloc (.cells #[.int .i64 q.b0, .int .i64 q.b1] 43)
        have hszX : W.heap.size ≤ (wr.alloc (.cells #[.int .i64 q.b0, .int .i64 q.b1] 43)).heap.size := by simp; omega
        have S0 := HBox.newAt wr #[.int .i64 q.b0, .int .i64 q.b1] 43 rfl
        gi_wp2
        clear ix V hJk
        generalize wr.alloc (.cells #[.int .i64 q.b0, .int .i64 q.b1] 43) = X at *
        have cV := V0.box.2.1
        have cX := S0.box.2.1
        refine wpIn_region_quiet_tail (C := fun w' => ∃ n, w' = X.drewN n) 5 (by kernel_rfl) (by kernel_rfl) ⟨1, rfl⟩ ?_
        simp only [List.take_succ_cons, List.take_zero, List.drop_succ_cons, List.drop_zero]
        repeat (quiet_step (fail))
        refine wpQuiet_nil ?_
        intro Y hY'
        obtain ⟨nq, rfl⟩ := hY'
        obtain ⟨fn, tmps, assign, body, hy, hR⟩ := hY [(f.p, q.p0, q.p1), (f.l, q.l0, q.l1), (f.r, q.r0, q.r1), (f.a, q.a0, q.a1)] (f.b, q.b0, q.b1) (X.drewN nq) (abides_below hJ hJ0 (below_drewN _ _ _)) (by simp)
        dsimp only [encM] at hy
        gi_wp2
        refine ⟨fun hx => by simp [Fence.wide] at hx, hR.mono ?_⟩
        rintro e W3 (⟨rfl, hJ3, hk3⟩ | ⟨rfl, hJx3⟩)
        · have V3 := V0.kept ((KCells.below (below_drewN _ X nq)).trans hk3)
          have hs3 := hk3.1
          clear hy hR cV cX V0 S0 hJ0
          gi_wp2
          go_roundw
          case rel => exact ⟨5, by omega, by omega, by first | rfl | simp, hJ3, by simp at hs3 hszX; omega, V3⟩
          case measure => simp [intOf]
        · clear hy hR cV cX V0 S0 hJ0
          gi_wp2
          refine bodyPost_ret (results_none rfl _ _ _) rfl ?_
          exact ⟨⟨_, rfl⟩, .inr ⟨_, ⟨_, rfl⟩, hJx3⟩⟩
      · have ix : ∀ w, (Instr.index 113 (.agg #[.int .i64 q.p0, .int .i64 q.p1, .int .i64 q.l0, .int .i64 q.l1, .int .i64 q.r0, .int .i64 q.r1, .int .i64 q.a0, .int .i64 q.a1, .int .i64 q.b0, .int .i64 q.b1, .int .i64 q.s0, .int .i64 q.s1, .int .i64 q.t0, .int .i64 q.t1]) (.int .i64 5)).run Try.prog w = .ok (.agg #[.int .i64 q.s0, .int .i64 q.s1]) w := fun _ => by kernel_rfl
        have hJ0 : J [(f.p, q.p0, q.p1), (f.l, q.l0, q.l1), (f.r, q.r0, q.r1), (f.a, q.a0, q.a1), (f.b, q.b0, q.b1)] (wr.alloc (.cells #[.int .i64 q.s0, .int .i64 q.s1] 43)) := abides_below hJ hJk ((Below.refl _ _).alloc (Nat.le_refl _) _)
        have V0 := V.alloc (.cells #[.int .i64 q.s0, .int .i64 q.s1] 43)
        have hszX : W.heap.size ≤ (wr.alloc (.cells #[.int .i64 q.s0, .int .i64 q.s1] 43)).heap.size := by simp; omega
        have S0 := HBox.newAt wr #[.int .i64 q.s0, .int .i64 q.s1] 43 rfl
        gi_wp2
        clear ix V hJk
        generalize wr.alloc (.cells #[.int .i64 q.s0, .int .i64 q.s1] 43) = X at *
        have cV := V0.box.2.1
        have cX := S0.box.2.1
        refine wpIn_region_quiet_tail (C := fun w' => ∃ n, w' = X.drewN n) 5 (by kernel_rfl) (by kernel_rfl) ⟨1, rfl⟩ ?_
        simp only [List.take_succ_cons, List.take_zero, List.drop_succ_cons, List.drop_zero]
        repeat (quiet_step (fail))
        refine wpQuiet_nil ?_
        intro Y hY'
        obtain ⟨nq, rfl⟩ := hY'
        obtain ⟨fn, tmps, assign, body, hy, hR⟩ := hY [(f.p, q.p0, q.p1), (f.l, q.l0, q.l1), (f.r, q.r0, q.r1), (f.a, q.a0, q.a1), (f.b, q.b0, q.b1)] (f.s, q.s0, q.s1) (X.drewN nq) (abides_below hJ hJ0 (below_drewN _ _ _)) (by simp)
        dsimp only [encM] at hy
        gi_wp2
        refine ⟨fun hx => by simp [Fence.wide] at hx, hR.mono ?_⟩
        rintro e W3 (⟨rfl, hJ3, hk3⟩ | ⟨rfl, hJx3⟩)
        · have V3 := V0.kept ((KCells.below (below_drewN _ X nq)).trans hk3)
          have hs3 := hk3.1
          clear hy hR cV cX V0 S0 hJ0
          gi_wp2
          go_roundw
          case rel => exact ⟨6, by omega, by omega, by first | rfl | simp, hJ3, by simp at hs3 hszX; omega, V3⟩
          case measure => simp [intOf]
        · clear hy hR cV cX V0 S0 hJ0
          gi_wp2
          refine bodyPost_ret (results_none rfl _ _ _) rfl ?_
          exact ⟨⟨_, rfl⟩, .inr ⟨_, ⟨_, rfl⟩, hJx3⟩⟩
      · have ix : ∀ w, (Instr.index 113 (.agg #[.int .i64 q.p0, .int .i64 q.p1, .int .i64 q.l0, .int .i64 q.l1, .int .i64 q.r0, .int .i64 q.r1, .int .i64 q.a0, .int .i64 q.a1, .int .i64 q.b0, .int .i64 q.b1, .int .i64 q.s0, .int .i64 q.s1, .int .i64 q.t0, .int .i64 q.t1]) (.int .i64 6)).run Try.prog w = .ok (.agg #[.int .i64 q.t0, .int .i64 q.t1]) w := fun _ => by kernel_rfl
        have hJ0 : J [(f.p, q.p0, q.p1), (f.l, q.l0, q.l1), (f.r, q.r0, q.r1), (f.a, q.a0, q.a1), (f.b, q.b0, q.b1), (f.s, q.s0, q.s1)] (wr.alloc (.cells #[.int .i64 q.t0, .int .i64 q.t1] 43)) := abides_below hJ hJk ((Below.refl _ _).alloc (Nat.le_refl _) _)
        have V0 := V.alloc (.cells #[.int .i64 q.t0, .int .i64 q.t1] 43)
        have hszX : W.heap.size ≤ (wr.alloc (.cells #[.int .i64 q.t0, .int .i64 q.t1] 43)).heap.size := by simp; omega
        have S0 := HBox.newAt wr #[.int .i64 q.t0, .int .i64 q.t1] 43 rfl
        gi_wp2
        clear ix V hJk
        generalize wr.alloc (.cells #[.int .i64 q.t0, .int .i64 q.t1] 43) = X at *
        have cV := V0.box.2.1
        have cX := S0.box.2.1
        refine wpIn_region_quiet_tail (C := fun w' => ∃ n, w' = X.drewN n) 5 (by kernel_rfl) (by kernel_rfl) ⟨1, rfl⟩ ?_
        simp only [List.take_succ_cons, List.take_zero, List.drop_succ_cons, List.drop_zero]
        repeat (quiet_step (fail))
        refine wpQuiet_nil ?_
        intro Y hY'
        obtain ⟨nq, rfl⟩ := hY'
        obtain ⟨fn, tmps, assign, body, hy, hR⟩ := hY [(f.p, q.p0, q.p1), (f.l, q.l0, q.l1), (f.r, q.r0, q.r1), (f.a, q.a0, q.a1), (f.b, q.b0, q.b1), (f.s, q.s0, q.s1)] (f.t, q.t0, q.t1) (X.drewN nq) (abides_below hJ hJ0 (below_drewN _ _ _)) (by simp)
        dsimp only [encM] at hy
        gi_wp2
        refine ⟨fun hx => by simp [Fence.wide] at hx, hR.mono ?_⟩
        rintro e W3 (⟨rfl, hJ3, hk3⟩ | ⟨rfl, hJx3⟩)
        · have V3 := V0.kept ((KCells.below (below_drewN _ X nq)).trans hk3)
          have hs3 := hk3.1
          clear hy hR cV cX V0 S0 hJ0
          gi_wp2
          go_roundw
          case rel => exact ⟨7, by omega, by omega, by first | rfl | simp, hJ3, by simp at hs3 hszX; omega, V3⟩
          case measure => simp [intOf]
        · clear hy hR cV cX V0 S0 hJ0
          gi_wp2
          refine bodyPost_ret (results_none rfl _ _ _) rfl ?_
          exact ⟨⟨_, rfl⟩, .inr ⟨_, ⟨_, rfl⟩, hJx3⟩⟩
    · obtain rfl : k = 7 := by omega
      gi_wp2
      go_end0
      exact ⟨⟨_, rfl⟩, .inl hJk⟩
end Go.Proofs.Ytloleaahelmdjaa
