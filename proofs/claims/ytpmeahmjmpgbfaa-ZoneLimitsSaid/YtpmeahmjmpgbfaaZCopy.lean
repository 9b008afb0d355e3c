/- Copies by append: acmelaw02.ints. Made by tools/gen_zcopy.py. -/
import Derived.Test.YtpmeahmjmpgbfaaOpenT
import Derived.Test.YtpmeahmjmpgbfaaZRTab
import Derived.Maps.AppendAt
import Derived.Laws.AppendOwnNone
import Derived.Deep.AppendLies
import Derived.OwnWalk
namespace Go.Proofs.Ytpmeahmjmpgbfaa
open Go.ChangeShapes Go.WideShapes Go.ChangeAt Go.RowKit
set_option linter.unusedVariables false
set_option linter.unusedSimpArgs false

/-- The cells of a list of integers. -/
def cellsI (xs : List Int) : List Value := xs.map (fun z => .int .i64 z)
/-- A row of the call's own that holds these integers. -/
def OwnI (w : World) (base : Nat) (v : Value) (xs : List Int) : Prop := w.ownsRow base 3 1 v xs.length (cellsI xs)
theorem int_info : (Try.prog.info? 3).map (fun i => (i.zero, i.size, i.bytes)) = some (some (.int .i64 0), 1, 8) := by kernel_rfl
theorem OwnI.at {w : World} {base : Nat} {v : Value} {xs : List Int} (h : OwnI w base v xs) (hm : xs.length ≤ 4611686018427387904) : IntsAt w v xs := by
  rcases h.2 with ⟨rfl, hn⟩ | ⟨g, cap, cur, rfl, _, hh, _⟩
  · have : xs = [] := List.eq_nil_of_length_eq_zero hn
    subst this
    exact ⟨none, 0, rfl, by simp, .inl rfl⟩
  · refine ⟨_, cap, rfl, hm, .inr ⟨g, 0, rfl, (Array.getElem?_eq_some_iff.1 hh).1, fun i x hx => ⟨.int .i64 x, ?_, rfl⟩⟩⟩
    have hc := World.ownsRow.cells h (g := g) rfl i (.int .i64 x) (by unfold cellsI; rw [List.getElem?_map, hx]; rfl)
    rw [show ((⟨g, 0, none⟩ : Addr).add i) = ⟨g, 0 + i, none⟩ by unfold Addr.add; split <;> simp_all] at hc
    exact hc
theorem own_empty (w : World) : OwnI (w.alloc (.cells #[] 3)) w.heap.size (.slice (some ⟨w.heap.size, 0, none⟩) 0 0) [] :=
  ⟨by simp [cellsI], .inr ⟨w.heap.size, 0, #[], rfl, Nat.le_refl _, heap_alloc_new w _, Nat.le_refl _, by simp, by simp, by simp [cellsI]⟩⟩
set_option maxRecDepth 100000 in
set_option maxHeartbeats 2000000 in
theorem ints_any (xs : List Int) (a : Option Addr) (cap : Nat) (w : World) (hl : xs.length ≤ 1000) (hn : a = none → cap = 0) (hS : SlA IntE w a xs) :
    Calls Try.prog 88 #[.slice a xs.length cap] w fun e w' => ∃ v, e = .returned v ∧ OwnI w' w.heap.size v xs ∧ Below w.heap.size w w' := by
  obtain ⟨i0, hi0, hz0, hz1, hz2⟩ := info_parts int_info
  have hown := own_empty w
  have hu := Try.underlying31
  cases a with
  | none =>
    have hx : xs = [] := by
      rcases hS with h | ⟨b, off, h, _⟩
      · exact h
      · cases h
    subst hx
    obtain rfl := hn rfl
    go_enter Try.func88, Try.ntmps88
    go_wp2_with (at_builtin; go_must (refine wpList_append_own_none rfl (.tmp 3) (.tmp 4) 31 rfl w.heap.size 3 i0 1 hu hi0 _ 0 [] rfl hown rfl ?_))
    go_wp2
    go_returns
    exact ⟨_, rfl, hown, by go_grown⟩
  | some ad =>
    have hc : ∀ j u, (cellsI xs)[j]? = some u → (w.alloc (.cells #[] 3)).cell? (ad.add j) = some u := by
      intro j u hu
      rcases hS with rfl | ⟨b, off, ha, hb, hc⟩
      · simp [cellsI] at hu
      · obtain rfl := Option.some.inj ha
        unfold cellsI at hu
        rw [List.getElem?_map, Option.map_eq_some_iff] at hu
        obtain ⟨x, hx, rfl⟩ := hu
        obtain ⟨u, hu, hE⟩ := hc j x hx
        unfold IntE at hE
        subst hE
        rw [show ((⟨b, off, none⟩ : Addr).add j) = ⟨b, off + j, none⟩ by unfold Addr.add; split <;> simp_all]
        exact (World.cell?_alloc_lt w _ _ hb).trans hu
    have HC := Lib.hid hc
    clear hc hS hn
    go_enter Try.func88, Try.ntmps88
    go_wp2_with (at_builtin; go_must (refine wpList_append_own_at _ rfl (.tmp 3) (.tmp 4) 31 rfl w.heap.size 3 i0 _ 1 8 hu hi0 hz0 hz1 hz2 rfl (by omega) (.slice (some ⟨w.heap.size, 0, none⟩) 0 0) 0 [] rfl hown ad xs.length cap (cellsI xs) rfl (by simp [cellsI]) HC.out (by simp [cellsI, Value.oneCell']) (by simp only [maxLen]; omega) (by omega) (by simp) ?_; intro v1 w1 hown1 hg1 _ hat1))
    have hbw : Below w.heap.size w w1 := (show Below w.heap.size w (w.alloc (.cells #[] 3)) from (Below.refl _ _).alloc (Nat.le_refl _) _).grown hg1 (by simp) (by simp [Value.ownBlock])
    go_wp2
    go_returns
    exact ⟨_, rfl, by simpa [OwnI] using hown1, hbw⟩

end Go.Proofs.Ytpmeahmjmpgbfaa
