/- Contract of zone.joined: a list of spans with a further one, which becomes part of the last one if it follows at once. -/
import Derived.Test.YtpmeahmjmpgbfaaZLim
import Derived.Test.YtpmeahmjmpgbfaaSame
import Derived.Lib.QuietBelow
import Derived.Laws.OwnMore
import Derived.OwnWalk
import Derived.OwnWalkIn
import Derived.Shelf.Abstract
import Derived.RangeFuncNested
namespace Go.Proofs.Ytpmeahmjmpgbfaa
open Go.RowKit Go.Shelf Go.Sort
set_option linter.unusedVariables false
set_option linter.unusedSimpArgs false

theorem Try.infoSpan : (Try.prog.info? 24).map (fun i => (i.zero, i.size, i.bytes)) = some (some (.agg #[.int .i64 0, .int .i64 0]), 2, 16) := by kernel_rfl

def flat2 (l : List (Int × Int)) : List Value := l.flatMap fun x => [.int .i64 x.1, .int .i64 x.2]
theorem flat2_len (l : List (Int × Int)) : (flat2 l).length = l.length * 2 := by
  induction l with
  | nil => rfl
  | cons x l ih => show (_ :: _ :: flat2 l).length = _; simp [ih]; omega
theorem flat2_snoc (l : List (Int × Int)) (x : Int × Int) : flat2 (l ++ [x]) = flat2 l ++ [.int .i64 x.1, .int .i64 x.2] := by simp [flat2]
/-- A list of spans with a further one. -/
def joinL (l : List (Int × Int)) (x : Int × Int) : List (Int × Int) :=
  match l.getLast? with
  | some y => if y.2 + 1 = x.1 then l.dropLast ++ [(y.1, x.2)] else l ++ [x]
  | none => [x]
theorem joinL_nil (x : Int × Int) : joinL [] x = [x] := rfl
theorem joinL_eq {l : List (Int × Int)} {y x : Int × Int} (h : y.2 + 1 = x.1) : joinL (l ++ [y]) x = l ++ [(y.1, x.2)] := by
  unfold joinL; simp [h]
theorem joinL_ne {l : List (Int × Int)} {y x : Int × Int} (h : ¬ y.2 + 1 = x.1) : joinL (l ++ [y]) x = l ++ [y] ++ [x] := by
  unfold joinL; simp [h]
theorem joinL_len (l : List (Int × Int)) (x : Int × Int) : (joinL l x).length ≤ l.length + 1 := by
  rcases List.eq_nil_or_concat l with rfl | ⟨l', y, rfl⟩
  · simp [joinL]
  · rw [List.concat_eq_append]
    by_cases h : y.2 + 1 = x.1
    · rw [joinL_eq h]; simp
    · rw [joinL_ne h]; simp

theorem grownB {W W' : World} (h : Below W.heap.size W W') : W.grownBy W' none := ⟨h.os, h.tape, h.output, h.size, fun k hk _ => h.block k hk⟩
theorem ownsRowB {w w' : World} {base size n : Nat} {e : TypeId} {v : Value} {xs : List Value} (h : w.ownsRow base e size v n xs) (hb : Below w.heap.size w w') : w'.ownsRow base e size v n xs :=
  h.kept (grownB hb) (by cases v.ownBlock <;> simp)
theorem two_one (x y : Int) : ∀ u ∈ [Value.int .i64 x, Value.int .i64 y], u.oneCell' = true := by
  intro u hu
  simp at hu
  rcases hu with rfl | rfl <;> rfl
theorem two_news {w : World} {g : Nat} {x y : Int} (h : Box w g #[.int .i64 x, .int .i64 y]) : ∀ j u, [Value.int .i64 x, Value.int .i64 y][j]? = some u → w.cell? ((⟨g, 0, none⟩ : Addr).add j) = some u := by
  intro j u hu
  rw [show (⟨g, 0, none⟩ : Addr).add j = ⟨g, j, none⟩ by simp [Addr.add]; exact fun h => h.symm, h.2.1 j]
  simpa using hu
theorem flat2_last (l : List (Int × Int)) (y : Int × Int) : (flat2 (l ++ [y]))[l.length * 2 + 1]? = some (.int .i64 y.2) := by
  rw [flat2_snoc, List.getElem?_append_right (by rw [flat2_len]; omega), flat2_len]
  simp
theorem flat2_set (l : List (Int × Int)) (y : Int × Int) (z : Int) : (flat2 (l ++ [y])).set (l.length * 2 + 1) (.int .i64 z) = flat2 (l ++ [(y.1, z)]) := by
  rw [flat2_snoc, flat2_snoc, List.set_append_right _ _ (by rw [flat2_len]; omega), flat2_len]
  simp

/-- The slice v holds the spans l, in blocks from base on. -/
def SpansOwn (base : Nat) (w : World) (v : Value) (l : List (Int × Int)) : Prop := w.ownsRow base 24 2 v l.length (flat2 l)
def JoinP (base : Nat) (l : List (Int × Int)) (x : Int × Int) (w : World) (e : Ending) (w' : World) : Prop := ∃ v', e = .returned v' ∧ SpansOwn base w' v' (joinL l x) ∧ Below base w w'
theorem SpansOwn.below {base : Nat} {w w' : World} {v : Value} {l : List (Int × Int)} (h : SpansOwn base w v l) (hb : Below w.heap.size w w') : SpansOwn base w' v l := ownsRowB h hb

set_option maxRecDepth 100000 in
set_option maxHeartbeats 2000000 in
theorem joined_nil (x y : Int) (v : Value) (base : Nat) (w : World) (hb : base ≤ w.heap.size) (hv : v = .slice none 0 0 ∨ ∃ g cap, v = .slice (some ⟨g, 0, none⟩) 0 cap) (h : SpansOwn base w v []) :
    Calls Try.prog 112 #[v, .agg #[.int .i64 x, .int .i64 y]] w (JoinP base [] (x, y) w) := by
  have HO := Lib.hid h
  have HB := Lib.hid hb
  obtain ⟨i0, hi, hz0, hz1, hz2⟩ := info_parts Try.infoSpan
  clear h
  have hg := HB.out
  rcases hv with rfl | ⟨g, cap, rfl⟩
  all_goals
    go_enter Try.func112, Try.ntmps112
    go_wp2
    refine wp_region_quiet_below (by kernel_rfl) (by kernel_rfl) ?_
    repeat ((with_reducible refine wpQuiet_step (fun K hK => ?_)); go_simp; ((with_reducible refine hK _ ?_); clear hK K))
    with_reducible refine wpQuiet_nil ?_
    intro w2 hw'
    obtain ⟨⟨dq, osq⟩, hw''⟩ := hw'
    have hb2 : Below (w.alloc (.cells #[.int .i64 x, .int .i64 y] 24)).heap.size (w.alloc (.cells #[.int .i64 x, .int .i64 y] 24)) w2 := by rw [hw'']; exact below_regrown _ dq osq
    have X2 := (Box.new w #[.int .i64 x, .int .i64 y] 24).below hb2
    have own2 : SpansOwn base w2 _ [] := ownsRowB (HO.out.alloc _) hb2
    have hB2 : Below base w w2 := Below.trans ((Below.refl _ _).alloc hg _) (hb2.mono (by simp; omega))
    have hs2 := hb2.size
    simp only [World.size_alloc] at hs2
    have c2 := X2.2.1
    have l2 := X2.1
    unfold SpansOwn at own2
    clear hw'' hb2
    go_wp2_with (at_builtin; go_must (refine wpList_append_own _ rfl _ _ 102 rfl base 24 i0 (.agg #[.int .i64 0, .int .i64 0]) 2 16 Try.underlying102 hi hz0 hz1 hz2 rfl (by decide) _ 0 (flat2 []) rfl (own2.alloc _) ⟨w2.heap.size, 0, none⟩ 1 1 [.int .i64 x, .int .i64 y] rfl rfl (two_news (Box.new _ _ _)) (two_one x y) (by unfold maxLen; omega) (by omega) (by simp; omega) ?_); intro v' w3 hown3 hg3 _)
    have hB3 : Below base w w3 := by
      refine Below.grown (w := w2.alloc _) (hB2.alloc (by omega) _) hg3 (by simp; omega) (fun r e => ?_)
      exact (own2.lt r e).1
    go_wp2
    go_returns
    exact ⟨_, rfl, hown3, hB3⟩

set_option maxRecDepth 100000 in
set_option maxHeartbeats 2000000 in
theorem joined_eq (l : List (Int × Int)) (a b x y : Int) (g cap base : Nat) (w : World) (hb : base ≤ w.heap.size) (hl : l.length ≤ 1000000) (b0 : -1000000000000 ≤ b) (b1 : b ≤ 1000000000000) (h : SpansOwn base w (.slice (some ⟨g, 0, none⟩) (l.length + 1) cap) (l ++ [(a, b)])) (hq : (b + 1 == x) = true) :
    Calls Try.prog 112 #[.slice (some ⟨g, 0, none⟩) (l.length + 1) cap, .agg #[.int .i64 x, .int .i64 y]] w (JoinP base (l ++ [(a, b)]) (x, y) w) := by
  have HO := Lib.hid h
  have HB := Lib.hid hb
  obtain ⟨i0, hi, hz0, hz1, hz2⟩ := info_parts Try.infoSpan
  have e1 : (l ++ [(a, b)]).length = l.length + 1 := by simp
  have hown : w.ownsRow base 24 2 (.slice (some ⟨g, 0, none⟩) (l.length + 1) cap) (l.length + 1) (flat2 (l ++ [(a, b)])) := by
    have := h
    unfold SpansOwn at this
    rwa [e1] at this
  have hgl := (hown.lt g rfl)
  have H1 := Lib.hid hown
  clear h hown e1 hb
  obtain ⟨hg0, hg1⟩ := hgl
  have c0 : w.cell? ⟨g, l.length * 2 + 1, none⟩ = some (.int .i64 b) := by
    rw [H1.out.cellAt (l.length * 2 + 1) (by omega), flat2_last]
  have f0 := H1.out.frozenAt (l.length * 2 + 1)
  have W1 : IntKind.i64.wrap (b + 1) = b + 1 := IntWalk.i64_in _ (by omega)
  have q0 : (l.length : Int) < (l.length : Int) + 1 := by omega
  have HC := Lib.hid c0
  have HF := Lib.hid f0
  clear c0 f0
  go_enter Try.func112, Try.ntmps112
  go_wp2
  have Y : Box (w.alloc (.cells #[.int .i64 x, .int .i64 y] 24)) w.heap.size #[.int .i64 x, .int .i64 y] := Box.new w _ _
  have hB1 : Below base w (w.alloc (.cells #[.int .i64 x, .int .i64 y] 24)) := (Below.refl _ _).alloc HB.out _
  have O1 := H1.out.alloc (.cells #[.int .i64 x, .int .i64 y] 24)
  have g1' : g < (w.alloc (.cells #[.int .i64 x, .int .i64 y] 24)).heap.size := by simp; omega
  have g2' : base ≤ (w.alloc (.cells #[.int .i64 x, .int .i64 y] 24)).heap.size := by have := HB.out; simp; omega
  have hne : g ≠ w.heap.size := by omega
  generalize w.alloc (.cells #[.int .i64 x, .int .i64 y] 24) = X at *
  have rd3 := fun d os => (Y.regrown d os).2.1
  have rdg : ∀ d os, (grow (redrawn X d) os).cell? ⟨g, l.length * 2 + 1, none⟩ = some (.int .i64 b) := fun d os => by
    have := (ownsRowB O1 (below_regrown X d os)).cellAt (l.length * 2 + 1) (by omega)
    rw [this, flat2_last]
  have HY := Lib.hid Y
  have HOO := Lib.hid O1
  have HBB := Lib.hid hB1
  have HN := Lib.hid hne
  clear Y O1 hB1 hne
  refine wp_region_quiet_below (by kernel_rfl) (by kernel_rfl) ?_
  repeat ((with_reducible refine wpQuiet_step (fun K hK => ?_)); go_simp; ((with_reducible refine hK _ ?_); clear hK K))
  with_reducible refine wpQuiet_nil ?_
  intro w2 hw'
  obtain ⟨⟨dq, osq⟩, hw''⟩ := hw'
  have hb2 : Below X.heap.size X w2 := by rw [hw'']; exact below_regrown _ dq osq
  clear hw'' rd3 rdg W1
  have Y2 := HY.out.below hb2
  have O2 := ownsRowB HOO.out hb2
  have hB2 : Below base w w2 := HBB.out.trans (hb2.mono g2')
  have gs2 := hb2.size
  have gz2 : g < w2.heap.size := by omega
  have c2 := Y2.2.1
  have l2 := Y2.1
  clear HC HF HOO HBB hb2 H1 HO HY Y2
  have cg := O2.cellAt (l.length * 2 + 1) (by omega)
  have fg := O2.frozenAt (l.length * 2 + 1)
  rw [flat2_last] at cg
  obtain ⟨O3, -⟩ := O2.stored (l.length * 2 + 1) (.int .i64 y)
  rw [flat2_set] at O3
  have HO3 := Lib.hid O3
  have HB3 := Lib.hid (hB2.setCell (p := ⟨g, l.length * 2 + 1, none⟩) hg0 (.int .i64 y))
  have HN2 := Lib.hid (joinL_eq (l := l) (y := (a, b)) (x := (x, y)) (by simpa using hq))
  clear O2 O3 hB2
  go_wp2
  go_returns
  refine ⟨_, rfl, ?_, HB3.out⟩
  unfold SpansOwn
  rw [HN2.out]
  simpa using HO3.out

set_option maxRecDepth 100000 in
set_option maxHeartbeats 2000000 in
theorem joined_ne (l : List (Int × Int)) (a b x y : Int) (g cap base : Nat) (w : World) (hb : base ≤ w.heap.size) (hl : l.length ≤ 1000000) (b0 : -1000000000000 ≤ b) (b1 : b ≤ 1000000000000) (h : SpansOwn base w (.slice (some ⟨g, 0, none⟩) (l.length + 1) cap) (l ++ [(a, b)])) (hq : (b + 1 == x) = false) :
    Calls Try.prog 112 #[.slice (some ⟨g, 0, none⟩) (l.length + 1) cap, .agg #[.int .i64 x, .int .i64 y]] w (JoinP base (l ++ [(a, b)]) (x, y) w) := by
  have HO := Lib.hid h
  have HB := Lib.hid hb
  obtain ⟨i0, hi, hz0, hz1, hz2⟩ := info_parts Try.infoSpan
  have e1 : (l ++ [(a, b)]).length = l.length + 1 := by simp
  have hown : w.ownsRow base 24 2 (.slice (some ⟨g, 0, none⟩) (l.length + 1) cap) (l.length + 1) (flat2 (l ++ [(a, b)])) := by
    have := h
    unfold SpansOwn at this
    rwa [e1] at this
  have hgl := (hown.lt g rfl)
  have H1 := Lib.hid hown
  clear h hown e1 hb
  obtain ⟨hg0, hg1⟩ := hgl
  have c0 : w.cell? ⟨g, l.length * 2 + 1, none⟩ = some (.int .i64 b) := by
    rw [H1.out.cellAt (l.length * 2 + 1) (by omega), flat2_last]
  have f0 := H1.out.frozenAt (l.length * 2 + 1)
  have W1 : IntKind.i64.wrap (b + 1) = b + 1 := IntWalk.i64_in _ (by omega)
  have q0 : (l.length : Int) < (l.length : Int) + 1 := by omega
  have HC := Lib.hid c0
  have HF := Lib.hid f0
  clear c0 f0
  go_enter Try.func112, Try.ntmps112
  go_wp2
  have Y : Box (w.alloc (.cells #[.int .i64 x, .int .i64 y] 24)) w.heap.size #[.int .i64 x, .int .i64 y] := Box.new w _ _
  have hB1 : Below base w (w.alloc (.cells #[.int .i64 x, .int .i64 y] 24)) := (Below.refl _ _).alloc HB.out _
  have O1 := H1.out.alloc (.cells #[.int .i64 x, .int .i64 y] 24)
  have g1' : g < (w.alloc (.cells #[.int .i64 x, .int .i64 y] 24)).heap.size := by simp; omega
  have g2' : base ≤ (w.alloc (.cells #[.int .i64 x, .int .i64 y] 24)).heap.size := by have := HB.out; simp; omega
  have hne : g ≠ w.heap.size := by omega
  generalize w.alloc (.cells #[.int .i64 x, .int .i64 y] 24) = X at *
  have rd3 := fun d os => (Y.regrown d os).2.1
  have rdg : ∀ d os, (grow (redrawn X d) os).cell? ⟨g, l.length * 2 + 1, none⟩ = some (.int .i64 b) := fun d os => by
    have := (ownsRowB O1 (below_regrown X d os)).cellAt (l.length * 2 + 1) (by omega)
    rw [this, flat2_last]
  have HY := Lib.hid Y
  have HOO := Lib.hid O1
  have HBB := Lib.hid hB1
  have HN := Lib.hid hne
  clear Y O1 hB1 hne
  refine wp_region_quiet_below (by kernel_rfl) (by kernel_rfl) ?_
  repeat ((with_reducible refine wpQuiet_step (fun K hK => ?_)); go_simp; ((with_reducible refine hK _ ?_); clear hK K))
  with_reducible refine wpQuiet_nil ?_
  intro w2 hw'
  obtain ⟨⟨dq, osq⟩, hw''⟩ := hw'
  have hb2 : Below X.heap.size X w2 := by rw [hw'']; exact below_regrown _ dq osq
  clear hw'' rd3 rdg W1
  have Y2 := HY.out.below hb2
  have O2 := ownsRowB HOO.out hb2
  have hB2 : Below base w w2 := HBB.out.trans (hb2.mono g2')
  have gs2 := hb2.size
  have gz2 : g < w2.heap.size := by omega
  have c2 := Y2.2.1
  have l2 := Y2.1
  clear HC HF HOO HBB hb2 H1 HO HY Y2
  have HN2 := Lib.hid (joinL_ne (l := l) (y := (a, b)) (x := (x, y)) (by simpa using hq))
  have hcl := O2.lt
  go_wp2_with (at_builtin; go_must (refine wpList_append_own _ rfl _ _ 102 rfl base 24 i0 (.agg #[.int .i64 0, .int .i64 0]) 2 16 Try.underlying102 hi hz0 hz1 hz2 rfl (by decide) _ (l.length + 1) (flat2 (l ++ [(a, b)])) rfl (O2.alloc _) ⟨w2.heap.size, 0, none⟩ 1 1 [.int .i64 x, .int .i64 y] rfl rfl (two_news (Box.new _ _ _)) (two_one x y) (by unfold maxLen; omega) (by omega) (by simp; omega) ?_); intro v' w3 hown3 hg3 _)
  have hB3 : Below base w w3 := by
    refine Below.grown (w := w2.alloc _) (hB2.alloc (by omega) _) hg3 (by simp; omega) (fun r e => ?_)
    exact (O2.lt r e).1
  clear O2 hB2 hg3
  have HH := Lib.hid hown3
  clear hown3
  go_wp2
  go_returns
  refine ⟨_, rfl, ?_, hB3⟩
  unfold SpansOwn
  rw [HN2.out]
  have e := HH.out
  rw [show flat2 (l ++ [(a, b)]) ++ [Value.int .i64 x, .int .i64 y] = flat2 (l ++ [(a, b)] ++ [(x, y)]) from (flat2_snoc _ (x, y)).symm] at e
  simpa using e

theorem joined_any (l : List (Int × Int)) (x y : Int) (v : Value) (base : Nat) (w : World) (hb : base ≤ w.heap.size) (hl : l.length ≤ 1000000) (hq : ∀ z ∈ l, -1000000000000 ≤ z.2 ∧ z.2 ≤ 1000000000000) (h : SpansOwn base w v l) :
    Calls Try.prog 112 #[v, .agg #[.int .i64 x, .int .i64 y]] w (JoinP base l (x, y) w) := by
  rcases List.eq_nil_or_concat l with rfl | ⟨l', ⟨a, b⟩, rfl⟩
  · refine joined_nil x y v base w hb ?_ h
    rcases h.2 with ⟨rfl, _⟩ | ⟨g, cap, cur, rfl, _⟩
    · exact .inl rfl
    · exact .inr ⟨g, cap, rfl⟩
  · rw [List.concat_eq_append] at *
    have hab := hq (a, b) (by simp)
    simp at hl
    rcases h.2 with ⟨_, h0⟩ | ⟨g, cap, cur, hv, _⟩
    · simp at h0
    · have e1 : (l' ++ [(a, b)]).length = l'.length + 1 := by simp
      rw [e1] at hv
      subst hv
      by_cases e : b + 1 = x
      · exact joined_eq l' a b x y g cap base w hb (by omega) hab.1 hab.2 h (by simpa using e)
      · exact joined_ne l' a b x y g cap base w hb (by omega) hab.1 hab.2 h (by simpa using e)
end Go.Proofs.Ytpmeahmjmpgbfaa
