/- Contracts of (column).classes and of the function that it returns, which yields all classes in ascending order. -/
import Derived.Test.YtpmeahmjmpgbfaaZLim
import Derived.Test.YtpmeahmjmpgbfaaTailR
import Derived.RangeFuncNested
import Derived.RangeFuncBound
import Derived.RangeFuncCalls
import Derived.RangeFuncLeaves
import Derived.Shelf.Abstract
import Derived.OwnWalkIn
import Derived.TacticsInMore
import Derived.LoopNIn
import Derived.LoopIn
namespace Go.Proofs.Ytpmeahmjmpgbfaa
open Go.RowKit
set_option linter.unusedSimpArgs false
set_option linter.unusedVariables false
attribute [local go_sem] Oper.semAt_some

/-- A block, as it lies in the heap. -/
def HBox (w : World) (g : Nat) (cs : Array Value) (T : TypeId) : Prop := w.heap[g]? = some (.cells cs T (0, 0))
theorem HBox.lt {w : World} {g : Nat} {cs : Array Value} {T : TypeId} (h : HBox w g cs T) : g < w.heap.size := (Array.getElem?_eq_some_iff.1 h).1
theorem HBox.box {w : World} {g : Nat} {cs : Array Value} {T : TypeId} (h : HBox w g cs T) : Box w g cs := ⟨h.lt, cell_at h, free_at h⟩
theorem HBox.newAt {n : Nat} (w : World) (cs : Array Value) (T : TypeId) (hn : n = w.heap.size) : HBox (w.alloc (.cells cs T)) n cs T := by
  subst hn
  exact (MapKept.heap_alloc w (.cells cs T)).1
theorem HBox.below {w w' : World} {g : Nat} {cs : Array Value} {T : TypeId} (h : HBox w g cs T) (hb : Below w.heap.size w w') : HBox w' g cs T := (hb.block g h.lt).trans h
theorem HBox.alloc {w : World} {g : Nat} {cs : Array Value} {T : TypeId} (h : HBox w g cs T) (o : Obj) : HBox (w.alloc o) g cs T := h.below ((Below.refl _ _).alloc (Nat.le_refl _) o)

/-- Whatever is cells lies as it lay, but for the block B and for blocks of the type T. -/
def KT (B : Nat) (T : TypeId) (W W' : World) : Prop := W.heap.size ≤ W'.heap.size ∧ ∀ (k : Nat) (cs : Array Value) (t : TypeId), k ≠ B → t ≠ T → W.heap[k]? = some (.cells cs t (0, 0)) → W'.heap[k]? = some (.cells cs t (0, 0))
theorem KT.refl (B : Nat) (T : TypeId) (W : World) : KT B T W W := ⟨Nat.le_refl _, fun _ _ _ _ _ h => h⟩
theorem KT.trans {B : Nat} {T : TypeId} {A C D : World} (h : KT B T A C) (h' : KT B T C D) : KT B T A D := ⟨Nat.le_trans h.1 h'.1, fun k cs t h1 h2 h3 => h'.2 k cs t h1 h2 (h.2 k cs t h1 h2 h3)⟩
theorem KT.below {B : Nat} {T : TypeId} {W W' : World} (h : Below W.heap.size W W') : KT B T W W' := ⟨h.size, fun k cs t _ _ e => (h.block k (Array.getElem?_eq_some_iff.1 e).1).trans e⟩
theorem KT.put (B : Nat) (T : TypeId) (W : World) (l : Nat) (o o' : Obj) (hl : W.heap[l]? = some o) (hc : o.isCells = false) : KT B T W (W.putObj l o') := by
  have hg := grownBy_putObj' W l o'
  refine ⟨hg.size, fun k cs t _ _ e => ?_⟩
  by_cases ek : k = l
  · subst ek
    rw [hl] at e
    cases e
    cases hc
  · exact (hg.block k (Array.getElem?_eq_some_iff.1 e).1 (fun x => ek (by injection x))).trans e
theorem HBox.kt {B : Nat} {T t : TypeId} {w w' : World} {g : Nat} {cs : Array Value} (h : HBox w g cs t) (hk : KT B T w w') (hg : g ≠ B) (ht : t ≠ T) : HBox w' g cs t := hk.2 g cs t hg ht h

theorem grown_of_belowZ {W W' : World} (h : Below W.heap.size W W') : W.grownBy W' none := ⟨h.os, h.tape, h.output, h.size, fun k hk _ => h.block k hk⟩
theorem abides_belowZ {β : Type} {B : Nat} {J : β → World → Prop} (h : AbidesFrom B J) {s : β} {W W' : World} (hs : J s W) (hb : Below W.heap.size W W') : J s W' := h s W W' none hs (grown_of_belowZ hb) (fun r e => by cases e)

/-- The first k classes, in ascending order, of G grades. -/
def clsL (G k : Nat) : List (Int × Int) := (List.range k).map fun i => (((i / G : Nat) : Int), ((i % G : Nat) : Int))
theorem clsL_len (G k : Nat) : (clsL G k).length = k := by simp [clsL]
theorem clsL_snoc {G p q : Nat} (h : q < G) : clsL G (p * G + q + 1) = clsL G (p * G + q) ++ [((p : Int), (q : Int))] := by
  have h1 : (p * G + q) / G = p := by
    rw [Nat.add_comm, Nat.add_mul_div_right _ _ (by omega), Nat.div_eq_of_lt h]; omega
  have h2 : (p * G + q) % G = q := by
    rw [Nat.add_comm, Nat.add_mul_mod_self_right, Nat.mod_eq_of_lt h]
  unfold clsL
  rw [List.range_succ, List.map_append]
  show _ ++ [((((p * G + q) / G : Nat) : Int), (((p * G + q) % G : Nat) : Int))] = _
  rw [h1, h2]
theorem clsL_prefix {G j k : Nat} (h : j ≤ k) : clsL G j <+: clsL G k := by
  unfold clsL
  exact List.IsPrefix.map _ (by rw [show k = j + (k - j) by omega, List.range_add]; exact List.prefix_append _ _)
/-- A class of a table. -/
abbrev Cls (gs ps : List (List Int)) := {x : Int × Int // classB gs ps x = true}
def encC {gs ps : List (List Int)} (x : Cls gs ps) : Array Value := #[.agg #[.int .i64 x.1.1, .int .i64 x.1.2]]
def toCls (gs ps : List (List Int)) (x : Int × Int) : Option (Cls gs ps) := if h : classB gs ps x = true then some ⟨x, h⟩ else none
def clsS (gs ps : List (List Int)) (k : Nat) : List (Cls gs ps) := (clsL gs.length k).filterMap (toCls gs ps)
theorem clsS_len (gs ps : List (List Int)) (k : Nat) : (clsS gs ps k).length ≤ k := by
  have := List.length_filterMap_le (toCls gs ps) (clsL gs.length k)
  rw [clsL_len] at this
  exact this
theorem clsS_snoc {gs ps : List (List Int)} {p q : Nat} (h : q < gs.length) (hc : classB gs ps ((p : Int), (q : Int)) = true) : clsS gs ps (p * gs.length + q + 1) = clsS gs ps (p * gs.length + q) ++ [⟨((p : Int), (q : Int)), hc⟩] := by
  unfold clsS
  rw [clsL_snoc h, List.filterMap_append]
  congr 1
  simp [toCls, hc]
theorem clsS_prefix {gs ps : List (List Int)} {j k : Nat} (h : j ≤ k) : clsS gs ps j <+: clsS gs ps k := (clsL_prefix h).filterMap _
theorem cls_ok {gs ps : List (List Int)} {p q : Nat} (hp : p < ps.length) (hq : q < gs.length) : classB gs ps ((p : Int), (q : Int)) = true := (classB_iff gs ps _).2 ⟨⟨by simp, by simpa using hp⟩, by simp, by simpa using hq⟩
theorem clsS_val (gs ps : List (List Int)) : (clsS gs ps (ps.length * gs.length)).map (·.1) = clsL gs.length (ps.length * gs.length) := by
  have : ∀ l : List (Int × Int), (∀ x ∈ l, classB gs ps x = true) → (l.filterMap (toCls gs ps)).map (·.1) = l := by
    intro l hl
    induction l with
    | nil => rfl
    | cons x l ih =>
      have hx := hl x (by simp)
      rw [List.filterMap_cons, show toCls gs ps x = some ⟨x, hx⟩ by simp [toCls, hx]]
      simp only [List.map_cons]
      rw [ih (fun y hy => hl y (by simp [hy]))]
  refine this _ (fun x hx => ?_)
  unfold clsL at hx
  obtain ⟨i, hi, rfl⟩ := List.mem_map.1 hx
  have hi' := List.mem_range.1 hi
  have hG : 0 < gs.length := by
    rcases Nat.eq_zero_or_pos gs.length with h | h
    · rw [h] at hi'; omega
    · exact h
  exact cls_ok (Nat.div_lt_of_lt_mul (by rw [Nat.mul_comm]; exact hi')) (Nat.mod_lt _ hG)

def colC (ss : List Int) (gs ps : List (List Int)) (sa ga pa : Option Addr) (sc gc pc : Nat) (k : Int) : Array Value := #[.slice sa ss.length sc, .slice ga gs.length gc, .slice pa ps.length pc, .int .i64 k]

theorem classes_any (ss : List Int) (gs ps : List (List Int)) (sa ga pa : Option Addr) (sc gc pc : Nat) (k : Int) (w : World) :
    Calls Try.prog 144 #[.agg (colC ss gs ps sa ga pa sc gc pc k)] w fun e w' => e = .returned (.func (.func 168) #[] #[.pointer (some ⟨w.heap.size, 0, none⟩)]) ∧ w' = w.alloc (.cells (colC ss gs ps sa ga pa sc gc pc k) 162) := by
  unfold colC
  go_enter Try.func144, Try.ntmps144
  go_wp2
  go_returns
  exact ⟨rfl, rfl⟩

set_option maxRecDepth 100000 in
set_option maxHeartbeats 2000000 in
theorem class_stops (n : Nat) (ss : List Int) (gs ps : List (List Int)) (sa ga pa : Option Addr) (sc gc pc : Nat) (k : Int) (g B : Nat) (T : TypeId) (w : World) (hg : g ≠ B) (hT : 162 ≠ T) (m2 : gs.length ≤ 1000000) (m3 : ps.length ≤ 1000000) (hS : HBox w g (colC ss gs ps sa ga pa sc gc pc k) 162) :
    SeqStopsK Fence.wide n Try.prog 168 #[.pointer (some ⟨g, 0, none⟩)] (encC (gs := gs) (ps := ps)) (KT B T) (fun ys => ys = clsS gs ps (ps.length * gs.length)) (fun pre => pre <+: clsS gs ps (ps.length * gs.length)) (ps.length * gs.length) w := by
  intro l J Jx W hW hJ hJx hY h0
  have X := hS.below hW
  have HHY := Lib.hid hY
  have HHJ := Lib.hid h0
  clear hY h0 hW hS hJx hJ
  have hc := X.box.2.1
  have hx := X.lt
  unfold colC at hc
  refine callsIn_of_wp Try.func168 rfl trivial ?_ rfl
  simp only [Try.ntmps168, List.size_toArray, List.length_cons, List.length_nil, Nat.reduceAdd, Nat.reduceSub, Array.replicate_succ, Array.replicate_zero, List.push_toArray, List.append_toArray, List.nil_append, List.cons_append]
  gi_wp2
  gi_loopw [3, 4, 9, 11, 12, 13, 14, 15, 16, 17, 18, 19, 20, 21, 22, 23, 24, 25, 26] (fun _ _ i _ _ _ _ _ _ _ _ _ _ _ _ _ _ _ _ wr => ∃ p : Nat, p ≤ ps.length ∧ i = .int .i64 p ∧ Hid (J (clsS gs ps (p * gs.length)) wr) ∧ HBox wr g (colC ss gs ps sa ga pa sc gc pc k) 162) (fun _ _ i _ _ _ _ _ _ _ _ _ _ _ _ _ _ _ _ _ => ps.length - (intOf i).toNat)
  case atStart => exact ⟨0, Nat.zero_le _, rfl, by rw [Nat.zero_mul]; exact HHJ, X⟩
  case round =>
    clear hc hx X
    obtain ⟨p, hp, rfl, hJp, X⟩ := hrel
    by_cases hlt : p < ps.length
    · have hc := X.box.2.1
      have hx := X.lt
      unfold colC at hc
      gi_wp2
      gi_loopw [4, 16, 17, 18, 19, 20, 21, 22, 23, 24, 25] (fun _ j _ _ _ _ _ _ _ _ _ wq => ∃ q : Nat, q ≤ gs.length ∧ j = .int .i64 q ∧ Hid (J (clsS gs ps (p * gs.length + q)) wq) ∧ HBox wq g (colC ss gs ps sa ga pa sc gc pc k) 162) (fun _ j _ _ _ _ _ _ _ _ _ _ => gs.length - (intOf j).toNat)
      case atStart => exact ⟨0, Nat.zero_le _, rfl, hJp, X⟩
      case round =>
        clear hc hx X hJp
        obtain ⟨q, hq, rfl, hJq, X⟩ := hrel
        by_cases hlt2 : q < gs.length
        · have hlen0 : p * gs.length + q < ps.length * gs.length := by
            have : (p + 1) * gs.length ≤ ps.length * gs.length := Nat.mul_le_mul_right _ hlt
            rw [Nat.add_mul] at this
            omega
          have HP : Hid (clsS gs ps (p * gs.length + q + 1) <+: clsS gs ps (ps.length * gs.length)) := clsS_prefix (by omega)
          have hlen : (clsS gs ps (p * gs.length + q)).length < ps.length * gs.length := by
            have := clsS_len gs ps (p * gs.length + q)
            omega
          have HS := Lib.hid (clsS_snoc (p := p) (q := q) hlt2 (cls_ok hlt hlt2))
          have X' := X
          obtain ⟨fn, tmps, assign, body, hy, hR⟩ := HHY.out _ ⟨((p : Int), (q : Int)), cls_ok hlt hlt2⟩ wr hJq.out hlen
          dsimp only [encC] at hy
          clear hlen hlen0
          gi_wp2
          refine ⟨fun hx => by simp [Fence.wide] at hx, hR.mono ?_⟩
          rintro e W3 (⟨rfl, hJ3, hk3⟩ | ⟨rfl, hJx3⟩)
          · have V3 := X.kt hk3 hg hT
            have HJ3 := Lib.hid hJ3
            clear hy hR X X' hJ3 hk3
            gi_wp2
            go_roundw
            case rel => exact ⟨q + 1, by omega, by go_num, by rw [← Nat.add_assoc, HS.out]; exact HJ3.out, V3⟩
            case measure => simp [intOf]; omega
          · have HJ3 := Lib.hid hJx3
            clear hy hR X X' hJx3
            gi_wp2
            refine bodyPost_ret (results_none rfl _ _ _) rfl ?_
            exact ⟨⟨_, rfl⟩, .inr ⟨_, HP.out, by rw [HS.out]; exact HJ3.out⟩⟩
        · have hq' : q = gs.length := by omega
          have HQ := Lib.hid hq'
          clear hq'
          gi_wp2
          go_roundw
          case rel => exact ⟨p + 1, by omega, by go_num, by
            have e := hJq.out
            rw [HQ.out] at e
            show J _ _
            rw [Nat.add_mul, Nat.one_mul]; exact e, X⟩
          case measure => simp [intOf]; omega
    · have hp' : p = ps.length := by omega
      have HP := Lib.hid hp'
      clear hp'
      gi_wp2
      go_end0
      exact ⟨⟨_, rfl⟩, .inl ⟨_, rfl, by have e := hJp.out; rw [HP.out] at e; exact e⟩⟩
end Go.Proofs.Ytpmeahmjmpgbfaa
