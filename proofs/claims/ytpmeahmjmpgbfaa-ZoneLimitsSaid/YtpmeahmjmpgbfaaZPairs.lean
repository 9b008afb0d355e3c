/- Contract of (column).pairs: all pairs of classes whose play lies in a span. Made by tools/gen_zpairs.py. -/
import Derived.Test.YtpmeahmjmpgbfaaZIter
import Derived.Test.YtpmeahmjmpgbfaaShape
import Derived.Maps.AppendAt
namespace Go.Proofs.Ytpmeahmjmpgbfaa
open Go.RowKit Go.Shelf
set_option linter.unusedSimpArgs false
set_option linter.unusedVariables false
attribute [local go_sem] Oper.semAt_some

/-- Whether the play of two classes, of a size of step k, is wanted. -/
def okP (gs ps : List (List Int)) (size : Int) (k : Nat) (v0 v1 : Int) (a b : Int × Int) : Bool :=
  lies ((zoLo true size (numN ps b.1 k) (numN gs b.2 k)) - (zoHi false size (numN ps a.1 k) (numN gs a.2 k))) ((zoHi true size (numN ps b.1 k) (numN gs b.2 k)) - (zoLo false size (numN ps a.1 k) (numN gs a.2 k))) v0 v1
def rowL {gs ps : List (List Int)} (size : Int) (k : Nat) (v0 v1 : Int) (a : Cls gs ps) (l : List (Cls gs ps)) : List ((Int × Int) × (Int × Int)) := (l.filter fun b => okP gs ps size k v0 v1 a.1 b.1).map fun b => (a.1, b.1)
def pairL {gs ps : List (List Int)} (size : Int) (k : Nat) (v0 v1 : Int) (all : List (Cls gs ps)) (l : List (Cls gs ps)) : List ((Int × Int) × (Int × Int)) := l.flatMap fun a => rowL size k v0 v1 a all
theorem pairL_snoc {gs ps : List (List Int)} (size : Int) (k : Nat) (v0 v1 : Int) (all l : List (Cls gs ps)) (a : Cls gs ps) : pairL size k v0 v1 all (l ++ [a]) = pairL size k v0 v1 all l ++ rowL size k v0 v1 a all := by simp [pairL]
theorem rowL_yes {gs ps : List (List Int)} {size : Int} {k : Nat} {v0 v1 : Int} {a b : Cls gs ps} {l : List (Cls gs ps)} (h : okP gs ps size k v0 v1 a.1 b.1 = true) : rowL size k v0 v1 a (l ++ [b]) = rowL size k v0 v1 a l ++ [(a.1, b.1)] := by simp [rowL, List.filter_append, h]
theorem rowL_no {gs ps : List (List Int)} {size : Int} {k : Nat} {v0 v1 : Int} {a b : Cls gs ps} {l : List (Cls gs ps)} (h : okP gs ps size k v0 v1 a.1 b.1 = false) : rowL size k v0 v1 a (l ++ [b]) = rowL size k v0 v1 a l := by simp [rowL, List.filter_append, h]
theorem rowL_len {gs ps : List (List Int)} (size : Int) (k : Nat) (v0 v1 : Int) (a : Cls gs ps) (l : List (Cls gs ps)) : (rowL size k v0 v1 a l).length ≤ l.length := by
  unfold rowL; rw [List.length_map]; exact List.length_filter_le _ _
theorem pairL_len {gs ps : List (List Int)} (size : Int) (k : Nat) (v0 v1 : Int) (all l : List (Cls gs ps)) : (pairL size k v0 v1 all l).length ≤ l.length * all.length := by
  induction l with
  | nil => simp [pairL]
  | cons a l ih =>
    show (rowL size k v0 v1 a all ++ pairL size k v0 v1 all l).length ≤ _
    have := rowL_len size k v0 v1 a all
    rw [List.length_append, List.length_cons, Nat.add_mul]
    omega
def flat4 (l : List ((Int × Int) × (Int × Int))) : List Value := l.flatMap fun x => [.int .i64 x.1.1, .int .i64 x.1.2, .int .i64 x.2.1, .int .i64 x.2.2]
theorem flat4_snoc (l : List ((Int × Int) × (Int × Int))) (x : (Int × Int) × (Int × Int)) : flat4 (l ++ [x]) = flat4 l ++ [.int .i64 x.1.1, .int .i64 x.1.2, .int .i64 x.2.1, .int .i64 x.2.2] := by simp [flat4]
theorem Try.infoPair : (Try.prog.info? 88).map (fun i => (i.zero, i.size, i.bytes)) = some (some (.agg #[.int .i64 0, .int .i64 0, .int .i64 0, .int .i64 0]), 4, 32) := by kernel_rfl
/-- The slice v holds the pairs l. -/
def PairsOwn (base : Nat) (w : World) (v : Value) (l : List ((Int × Int) × (Int × Int))) : Prop := w.ownsRow base 88 4 v l.length (flat4 l)
theorem four_one (a b c d : Int) : ∀ u ∈ [Value.int .i64 a, Value.int .i64 b, Value.int .i64 c, Value.int .i64 d], u.oneCell' = true := by
  intro u hu
  simp at hu
  rcases hu with rfl | rfl | rfl | rfl <;> rfl
theorem four_news {w : World} {g : Nat} {a b c d : Int} (h : Box w g #[.int .i64 a, .int .i64 b, .int .i64 c, .int .i64 d]) : ∀ j u, [Value.int .i64 a, Value.int .i64 b, Value.int .i64 c, Value.int .i64 d][j]? = some u → w.cell? ((⟨g, 0, none⟩ : Addr).add j) = some u := by
  intro j u hu
  rw [show (⟨g, 0, none⟩ : Addr).add j = ⟨g, j, none⟩ by simp [Addr.add]; exact fun h => h.symm, h.2.1 j]
  simpa using hu

theorem hbox_own {β : Type} (B : Nat) (cs : Array Value) (T : TypeId) : Own (fun (_ : β) W => HBox W B cs T) := fun s X Y row hs hg hrow =>
  (hg.block B hs.lt (fun e' => by obtain ⟨o, ho, hc⟩ := hrow B e'.symm; rw [show X.heap[B]? = _ from hs] at ho; cases ho; cases hc)).trans hs

/-- The variable pairs holds these pairs. -/
def Holds (base B : Nat) (W : World) (l : List ((Int × Int) × (Int × Int))) : Prop := ∃ v, Boxed W B 91 v ∧ W.ownsRow base 88 4 v l.length (flat4 l) ∧ True
theorem Holds.below {base B : Nat} {W W' : World} {l : List ((Int × Int) × (Int × Int))} (h : Holds base B W l) (hb : Below W.heap.size W W') : Holds base B W' l := by
  obtain ⟨v, h1, h2, _⟩ := h
  exact ⟨v, (hb.block _ h1.lt).trans h1, h2.kept (grown_of_belowZ hb) (by cases v.ownBlock <;> simp), trivial⟩
theorem holds_own {β : Type} (base B : Nat) (f : β → List ((Int × Int) × (Int × Int))) : Own (fun s W => Holds base B W (f s)) :=
  holdsRow_own base B 91 88 4 (fun s => (f s).length) (fun s => flat4 (f s)) (fun _ _ => True)

theorem kt_own {β : Type} (B : Nat) (T : TypeId) (W : World) : Own (fun (_ : β) W' => KT B T W W') := fun s X Y row hs hg hrow =>
  ⟨Nat.le_trans hs.1 hg.size, fun k cs t h1 h2 h3 => (by
    have hX := hs.2 k cs t h1 h2 h3
    exact (hg.block k (Array.getElem?_eq_some_iff.1 hX).1 (fun e' => by obtain ⟨o, ho, hc⟩ := hrow k e'.symm; rw [hX] at ho; cases ho; cases hc)).trans hX)⟩
theorem KT.appended {W w1 : World} {base B : Nat} {T : TypeId} {size : Nat} {v v' : Value} {k : Nat} {xs : List Value} {tmp : Obj} (hrow : W.ownsRow base T size v k xs) (hgrow : (W.alloc tmp).grownBy w1 v.ownBlock) : KT B T W (w1.setCell ⟨B, 0, none⟩ v') := by
  refine ⟨?_, fun k cs t hkB ht e => ?_⟩
  · have h1 := hgrow.size
    have h2 := (grownBy_setCell' w1 B v').size
    simp at h1
    omega
  · have e1 : (W.alloc tmp).heap[k]? = some (.cells cs t (0, 0)) := (((Below.refl W.heap.size W).alloc (Nat.le_refl _) tmp).block k (Array.getElem?_eq_some_iff.1 e).1).trans e
    have e2 : w1.heap[k]? = some (.cells cs t (0, 0)) := by
      refine (hgrow.block k (Array.getElem?_eq_some_iff.1 e1).1 (fun he => ?_)).trans e1
      rcases hrow.2 with ⟨rfl, _⟩ | ⟨g, cap, cur, rfl, _, hgb, _⟩
      · simp [Value.ownBlock] at he
      · have hkg : k = g := by simpa [Value.ownBlock] using he
        subst hkg
        rw [e] at hgb
        injection hgb with hgb
        injection hgb with _ h2 _
        exact ht h2
    exact ((grownBy_setCell' w1 B v').block k (Array.getElem?_eq_some_iff.1 e2).1 (fun he => hkB (by injection he))).trans e2

/-- What lies in the first blocks of a call of pairs. -/
def PFix (n : Nat) (W : World) (col : Array Value) (size v0 v1 : Int) : Prop := HBox W n col 162 ∧ HBox W (n + 1) #[.int .i64 size] 3 ∧ HBox W (n + 1 + 1) #[.int .i64 v0, .int .i64 v1] 166
theorem PFix.below {n : Nat} {W W' : World} {col : Array Value} {size v0 v1 : Int} (h : PFix n W col size v0 v1) (hb : Below W.heap.size W W') : PFix n W' col size v0 v1 := ⟨h.1.below hb, h.2.1.below hb, h.2.2.below hb⟩
theorem PFix.kt {n : Nat} {W W' : World} {col : Array Value} {size v0 v1 : Int} (h : PFix n W col size v0 v1) (hk : KT (n + 1 + 1 + 1) 88 W W') : PFix n W' col size v0 v1 := ⟨h.1.kt hk (by omega) (by decide), h.2.1.kt hk (by omega) (by decide), h.2.2.kt hk (by omega) (by decide)⟩
theorem pfix_own {β : Type} (n : Nat) (col : Array Value) (size v0 v1 : Int) : Own (fun (_ : β) W => PFix n W col size v0 v1) := fun s X Y row hs hg hr =>
  ⟨hbox_own n col _ s X Y row hs.1 hg hr, hbox_own (n + 1) _ _ s X Y row hs.2.1 hg hr, hbox_own (n + 1 + 1) _ _ s X Y row hs.2.2 hg hr⟩

def PairsP {gs ps : List (List Int)} (size : Int) (k : Nat) (v0 v1 : Int) (w : World) (e : Ending) (w' : World) : Prop :=
  ∃ v, e = .returned v ∧ PairsOwn w.heap.size w' v (pairL (gs := gs) (ps := ps) size k v0 v1 (clsS gs ps (ps.length * gs.length)) (clsS gs ps (ps.length * gs.length))) ∧ Below w.heap.size w w'

set_option maxRecDepth 100000 in
set_option maxHeartbeats 8000000 in
theorem pairs_any (ss : List Int) (gs ps : List (List Int)) (sa ga pa : Option Addr) (sc gc pc : Nat) (k : Nat) (size v0 v1 : Int) (w : World) (m2 : gs.length ≤ 1000) (m3 : ps.length ≤ 1000)
    (HZ : Hid (∀ (W : World), Below w.heap.size w W → ∀ (nut : Bool) (x : Cls gs ps), Calls Try.prog 96 #[.agg #[.slice sa ss.length sc, .slice ga gs.length gc, .slice pa ps.length pc, .int .i64 k], .agg #[.int .i64 x.1.1, .int .i64 x.1.2], .bool nut, .int .i64 size] W fun e w' => e = .returned (spanV (zoLo nut size (numN ps x.1.1 k) (numN gs x.1.2 k)) (zoHi nut size (numN ps x.1.1 k) (numN gs x.1.2 k))) ∧ Below W.heap.size W w'))
    (HBD : Hid (∀ (nut : Bool) (x : Cls gs ps), (-1000000000 ≤ (zoLo nut size (numN ps x.1.1 k) (numN gs x.1.2 k)) ∧ (zoLo nut size (numN ps x.1.1 k) (numN gs x.1.2 k)) ≤ 1000000000) ∧ (-1000000000 ≤ (zoHi nut size (numN ps x.1.1 k) (numN gs x.1.2 k)) ∧ (zoHi nut size (numN ps x.1.1 k) (numN gs x.1.2 k)) ≤ 1000000000))) :
    Calls Try.prog 107 #[.agg #[.slice sa ss.length sc, .slice ga gs.length gc, .slice pa ps.length pc, .int .i64 k], .int .i64 size, .agg #[.int .i64 v0, .int .i64 v1]] w (PairsP (gs := gs) (ps := ps) size k v0 v1 w) := by
  refine (callsIn_wide (n := 12)).1 ?_
  refine callsIn_of_wp_marks Try.func107 rfl trivial ?_ rfl
  simp only [Try.ntmps107, List.size_toArray, List.length_cons, List.length_nil, Nat.reduceAdd, Nat.reduceSub, Array.replicate_succ, Array.replicate_zero, List.push_toArray, List.append_toArray, List.nil_append, List.cons_append]
  gi_wp2_with fail
  refine ⟨trivial, ?_⟩
  refine (callsIn_wide.2 (classes_any ss gs ps sa ga pa sc gc pc k _)).mono ?_
  rintro e w' ⟨rfl, rfl⟩
  unfold colC
  gi_wp2
  have HC := Lib.hid (rfl : w = w)
  have hF0 : PFix w.heap.size (((((w.alloc (.cells #[.slice sa ss.length sc, .slice ga gs.length gc, .slice pa ps.length pc, .int .i64 k] 162)).alloc (.cells #[.int .i64 size] 3)).alloc (.cells #[.int .i64 v0, .int .i64 v1] 166)).alloc (.cells #[.slice none 0 0] 91)).alloc (.cells #[.slice sa ss.length sc, .slice ga gs.length gc, .slice pa ps.length pc, .int .i64 k] 162)) #[.slice sa ss.length sc, .slice ga gs.length gc, .slice pa ps.length pc, .int .i64 k] size v0 v1 :=
    ⟨((((HBox.newAt w _ _ rfl).alloc _).alloc _).alloc _).alloc _, (((HBox.newAt _ _ _ (by simp)).alloc _).alloc _).alloc _, ((HBox.newAt _ _ _ (by simp)).alloc _).alloc _⟩
  have hP0 : Holds w.heap.size (w.heap.size + 1 + 1 + 1) (((((w.alloc (.cells #[.slice sa ss.length sc, .slice ga gs.length gc, .slice pa ps.length pc, .int .i64 k] 162)).alloc (.cells #[.int .i64 size] 3)).alloc (.cells #[.int .i64 v0, .int .i64 v1] 166)).alloc (.cells #[.slice none 0 0] 91)).alloc (.cells #[.slice sa ss.length sc, .slice ga gs.length gc, .slice pa ps.length pc, .int .i64 k] 162)) [] :=
    ⟨_, (HBox.newAt _ _ _ (by simp)).alloc _, World.ownsRow_nil _ _ _ _, trivial⟩
  have hG0 : HBox (((((w.alloc (.cells #[.slice sa ss.length sc, .slice ga gs.length gc, .slice pa ps.length pc, .int .i64 k] 162)).alloc (.cells #[.int .i64 size] 3)).alloc (.cells #[.int .i64 v0, .int .i64 v1] 166)).alloc (.cells #[.slice none 0 0] 91)).alloc (.cells #[.slice sa ss.length sc, .slice ga gs.length gc, .slice pa ps.length pc, .int .i64 k] 162)) (w.heap.size + 1 + 1 + 1 + 1) #[.slice sa ss.length sc, .slice ga gs.length gc, .slice pa ps.length pc, .int .i64 k] 162 := HBox.newAt _ _ _ (by simp)
  have hB0 : Below w.heap.size w (((((w.alloc (.cells #[.slice sa ss.length sc, .slice ga gs.length gc, .slice pa ps.length pc, .int .i64 k] 162)).alloc (.cells #[.int .i64 size] 3)).alloc (.cells #[.int .i64 v0, .int .i64 v1] 166)).alloc (.cells #[.slice none 0 0] 91)).alloc (.cells #[.slice sa ss.length sc, .slice ga gs.length gc, .slice pa ps.length pc, .int .i64 k] 162)) := by go_grown
  have hsz : (((((w.alloc (.cells #[.slice sa ss.length sc, .slice ga gs.length gc, .slice pa ps.length pc, .int .i64 k] 162)).alloc (.cells #[.int .i64 size] 3)).alloc (.cells #[.int .i64 v0, .int .i64 v1] 166)).alloc (.cells #[.slice none 0 0] 91)).alloc (.cells #[.slice sa ss.length sc, .slice ga gs.length gc, .slice pa ps.length pc, .int .i64 k] 162)).heap.size = w.heap.size + 5 := by simp
  generalize ((((w.alloc (.cells #[.slice sa ss.length sc, .slice ga gs.length gc, .slice pa ps.length pc, .int .i64 k] 162)).alloc (.cells #[.int .i64 size] 3)).alloc (.cells #[.int .i64 v0, .int .i64 v1] 166)).alloc (.cells #[.slice none 0 0] 91)).alloc (.cells #[.slice sa ss.length sc, .slice ga gs.length gc, .slice pa ps.length pc, .int .i64 k] 162) = W0 at *
  clear HC
  have HSZ := Lib.hid hsz
  clear hsz
  refine wpIn_rangeFunc_ownH rfl (by omega) (gf := 168) (lb := #[.pointer (some ⟨w.heap.size + 1 + 1 + 1 + 1, 0, none⟩)]) rfl trivial (enters_of Try.func168 (by kernel_rfl) rfl)
    (class_stops (12 - 1) ss gs ps sa ga pa sc gc pc k (w.heap.size + 1 + 1 + 1 + 1) (w.heap.size + 1 + 1 + 1) 88 W0 (by omega) (by decide) (by omega) (by omega) hG0) KT.trans (fun W l o o' _ hl hc _ => KT.put _ _ W l o o' hl hc) (Below.refl _ _) (fun _ => rfl)
    (fun pre W => Holds w.heap.size (w.heap.size + 1 + 1 + 1) W (pairL size k v0 v1 (clsS gs ps (ps.length * gs.length)) pre) ∧ (PFix w.heap.size W #[.slice sa ss.length sc, .slice ga gs.length gc, .slice pa ps.length pc, .int .i64 k] size v0 v1 ∧ Below w.heap.size w W))
    (fun _ _ _ => False)
    (OwnFrom.and (Own.from (holds_own _ _ _) _) (OwnFrom.and (Own.from (pfix_own _ _ _ _ _) _) (ownFrom_below (Nat.le_refl _) (by have := HSZ.out; omega))))
    (fun _ _ _ _ _ hs _ _ => hs)
    ⟨hP0, hF0, hB0⟩
    (fun x a' W => ∃ Bx, w.heap.size + 3 < Bx ∧ HBox W Bx #[.int .i64 x.1.1, .int .i64 x.1.2] 71 ∧ a' = { tmps := #[.agg #[.slice sa ss.length sc, .slice ga gs.length gc, .slice pa ps.length pc, .int .i64 k], .int .i64 size, .agg #[.int .i64 v0, .int .i64 v1], .pointer (some ⟨w.heap.size, 0, none⟩), .pointer (some ⟨w.heap.size + 1, 0, none⟩), .pointer (some ⟨w.heap.size + 1 + 1, 0, none⟩), .slice none 0 0, .pointer (some ⟨w.heap.size + 1 + 1 + 1, 0, none⟩), .pointer (some ⟨Bx, 0, none⟩), undef, undef, .agg #[.slice sa ss.length sc, .slice ga gs.length gc, .slice pa ps.length pc, .int .i64 k], .func (.func 168) #[] #[.pointer (some ⟨w.heap.size + 1 + 1 + 1 + 1, 0, none⟩)], .agg #[.int .i64 x.1.1, .int .i64 x.1.2], undef, undef, undef, undef, undef, undef, undef, undef, undef, undef, undef, undef, undef, undef, undef, undef, undef, undef, undef, undef, undef, undef], defers := [] })
    (fun x a' _ A B row hs hg hr => by obtain ⟨Bx, h1, h2, h3⟩ := hs; exact ⟨Bx, h1, hbox_own Bx _ _ () A B row h2 hg (fun r e => (hr r e).2), h3⟩)
    ?assign ?body ?done ?stop
  case assign =>
    rintro l pre x W K ⟨hH, hF, hB⟩ hK
    have hsW := hB.size
    have hs0 := hH.choose_spec.1.lt
    dsimp only [encC]
    gi_wp2
    exact hK _ _ ((KeepsOthers.alloc _ _).from _) (KT.below ((Below.refl _ W).alloc (Nat.le_refl _) _)) ⟨hH.below ((Below.refl _ W).alloc (Nat.le_refl _) _), hF.below ((Below.refl _ W).alloc (Nat.le_refl _) _), hB.alloc hsW _⟩ ⟨W.heap.size, by omega, HBox.newAt W _ _ rfl, rfl⟩
  case body =>
    rintro l pre x a' W hl ⟨r, hr⟩ ⟨hH, hF, hB⟩ ⟨Bx, hBx, hX, rfl⟩ hlt
    have c3 := hF.1.box.2.1
    have l3 := hF.1.lt
    have c4 := hF.2.1.box.2.1
    have l4 := hF.2.1.lt
    have cX := hX.box.2.1
    have lX := hX.lt
    have hsW := hB.size
    have hrl := (Array.getElem?_eq_some_iff.1 hr).1
    have HZ1 := Lib.hid (HZ.out W hB false x)
    obtain ⟨⟨bA0, bA1⟩, bD0, bD1⟩ := HBD.out false x
    have HOKd : ∀ y : Cls gs ps, okP gs ps size k v0 v1 x.1 y.1 = lies ((zoLo true size (numN ps y.1.1 k) (numN gs y.1.2 k)) - (zoHi false size (numN ps x.1.1 k) (numN gs x.1.2 k))) ((zoHi true size (numN ps y.1.1 k) (numN gs y.1.2 k)) - (zoLo false size (numN ps x.1.1 k) (numN gs x.1.2 k))) v0 v1 := fun _ => rfl
    obtain ⟨A, hA⟩ : ∃ A, (zoLo false size (numN ps x.1.1 k) (numN gs x.1.2 k)) = A := ⟨_, rfl⟩
    obtain ⟨D, hD⟩ : ∃ D, (zoHi false size (numN ps x.1.1 k) (numN gs x.1.2 k)) = D := ⟨_, rfl⟩
    rw [hA] at bA0 bA1
    rw [hD] at bD0 bD1
    have HZ2 := HZ1.out
    rw [hA, hD] at HZ2
    have HZ3 := Lib.hid HZ2
    rw [hA, hD] at HOKd
    have HOK := Lib.hid HOKd
    clear hA hD HZ1 HZ2 HOKd
    gi_wp2_with fail
    refine ⟨trivial, ?_⟩
    refine (CallsIn.inRound l (callsIn_wide.2 HZ3.out)).mono ?_
    rintro e W2 ⟨rfl, hb2⟩
    have hH2 := hH.below hb2
    have hF2 := hF.below hb2
    have hX2 := hX.below hb2
    have hB2 : Below w.heap.size w W2 := hB.trans (hb2.mono hsW)
    have hr2 : W2.heap[l]? = some (.loop r) := (hb2.block l hrl).trans hr
    have hKT2 : KT (w.heap.size + 1 + 1 + 1) 88 W W2 := KT.below hb2
    have hKF2 : KeepsFrom W0.heap.size W W2 := KeepsFrom.of_grownBy (grown_of_belowZ hb2) (fun _ e => by cases e)
    have hs2 := hb2.size
    clear hb2 hH hF hX c3 l3 c4 l4 cX lX hB
    have c3 := hF2.1.box.2.1
    have l3 := hF2.1.lt
    unfold spanV
    gi_wp2_with fail
    refine ⟨trivial, ?_⟩
    refine (CallsIn.inRound l (callsIn_wide.2 (classes_any ss gs ps sa ga pa sc gc pc k _))).mono ?_
    rintro e w' ⟨rfl, rfl⟩
    unfold colC
    have e3 : (W2.alloc (.cells #[.int .i64 A, .int .i64 D] 166)).heap.size = W2.heap.size + 1 := by simp
    have hA3 : Below W2.heap.size W2 ((W2.alloc (.cells #[.int .i64 A, .int .i64 D] 166)).alloc (.cells #[.slice sa ss.length sc, .slice ga gs.length gc, .slice pa ps.length pc, .int .i64 k] 162)) := ((Below.refl _ _).alloc (Nat.le_refl _) _).alloc (by simp) _
    have h9 : HBox ((W2.alloc (.cells #[.int .i64 A, .int .i64 D] 166)).alloc (.cells #[.slice sa ss.length sc, .slice ga gs.length gc, .slice pa ps.length pc, .int .i64 k] 162)) W2.heap.size #[.int .i64 A, .int .i64 D] 166 := (HBox.newAt _ _ _ rfl).alloc _
    have hG2 : HBox ((W2.alloc (.cells #[.int .i64 A, .int .i64 D] 166)).alloc (.cells #[.slice sa ss.length sc, .slice ga gs.length gc, .slice pa ps.length pc, .int .i64 k] 162)) (W2.heap.size + 1) #[.slice sa ss.length sc, .slice ga gs.length gc, .slice pa ps.length pc, .int .i64 k] 162 := HBox.newAt _ _ _ (by simp)
    have hH3 := hH2.below hA3
    have hF3 := hF2.below hA3
    have hX3 := hX2.below hA3
    have hB3 := hB2.trans (hA3.mono hB2.size)
    have hr3 := (hA3.block l (Array.getElem?_eq_some_iff.1 hr2).1).trans hr2
    have hKT3 := hKT2.trans (KT.below hA3)
    have hKF3 : KeepsFrom W0.heap.size W _ := hKF2.trans (KeepsFrom.of_grownBy (grown_of_belowZ hA3) (fun _ e => by cases e))
    have hs3 := hA3.size
    have hn2 : w.heap.size + 3 < W2.heap.size := by have := hF2.2.2.lt; have := hH2.choose_spec.1.lt; omega
    have hs3' : ((W2.alloc (.cells #[.int .i64 A, .int .i64 D] 166)).alloc (.cells #[.slice sa ss.length sc, .slice ga gs.length gc, .slice pa ps.length pc, .int .i64 k] 162)).heap.size = W2.heap.size + 2 := by simp
    clear hA3 hH2 hF2 hX2 hB2 hr2 hKT2 hKF2 c3 l3
    gi_wp2
    generalize (W2.alloc (.cells #[.int .i64 A, .int .i64 D] 166)).alloc (.cells #[.slice sa ss.length sc, .slice ga gs.length gc, .slice pa ps.length pc, .int .i64 k] 162) = W3 at *
    clear e3
    generalize W2.heap.size = n2 at *
    refine wpIn_rangeFunc_ownN (l₀ := l) (r₀ := r) rfl hr3 (by omega) (gf := 168) (lb := #[.pointer (some ⟨n2 + 1, 0, none⟩)]) rfl trivial (enters_of Try.func168 (by kernel_rfl) rfl)
      ((class_stops (12 - 1 - 1 - 1) ss gs ps sa ga pa sc gc pc k (n2 + 1) (w.heap.size + 1 + 1 + 1) 88 W3 (by omega) (by decide) (by omega) (by omega) hG2).inRound l) KT.trans (fun W l o o' _ hl hc _ => KT.put _ _ W l o o' hl hc) (Below.refl _ _) (fun _ => rfl)
      (fun pre' W' => Holds w.heap.size (w.heap.size + 1 + 1 + 1) W' (pairL size k v0 v1 (clsS gs ps (ps.length * gs.length)) pre ++ rowL size k v0 v1 x pre') ∧ ((PFix w.heap.size W' #[.slice sa ss.length sc, .slice ga gs.length gc, .slice pa ps.length pc, .int .i64 k] size v0 v1 ∧ (HBox W' Bx #[.int .i64 x.1.1, .int .i64 x.1.2] 71 ∧ HBox W' n2 #[.int .i64 A, .int .i64 D] 166)) ∧ (Below w.heap.size w W' ∧ (KT (w.heap.size + 1 + 1 + 1) 88 W W' ∧ KeepsFrom W0.heap.size W W'))))
      (fun _ _ _ => False)
      (OwnFrom.and (Own.from (holds_own _ _ _) _) (OwnFrom.and (OwnFrom.and (Own.from (pfix_own _ _ _ _ _) _) (OwnFrom.and (Own.from (hbox_own _ _ _) _) (Own.from (hbox_own _ _ _) _))) (OwnFrom.and (ownFrom_below (Nat.le_refl _) (by omega)) (OwnFrom.and (Own.from (kt_own _ _ _) _) (ownFrom_keepsFrom (by omega))))))
      (fun _ _ _ _ _ hs _ _ => hs)
      ⟨by rw [show rowL size k v0 v1 x [] = [] from rfl, List.append_nil]; exact hH3, ⟨hF3, hX3, h9⟩, hB3, hKT3, hKF3⟩
      (fun y a'' W' => ∃ By, w.heap.size + 3 < By ∧ HBox W' By #[.int .i64 y.1.1, .int .i64 y.1.2] 71 ∧ a'' = { tmps := #[.agg #[.slice sa ss.length sc, .slice ga gs.length gc, .slice pa ps.length pc, .int .i64 k], .int .i64 size, .agg #[.int .i64 v0, .int .i64 v1], .pointer (some ⟨w.heap.size, 0, none⟩), .pointer (some ⟨w.heap.size + 1, 0, none⟩), .pointer (some ⟨w.heap.size + 1 + 1, 0, none⟩), .slice none 0 0, .pointer (some ⟨w.heap.size + 1 + 1 + 1, 0, none⟩), .pointer (some ⟨Bx, 0, none⟩), .pointer (some ⟨n2, 0, none⟩), .pointer (some ⟨By, 0, none⟩), .agg #[.slice sa ss.length sc, .slice ga gs.length gc, .slice pa ps.length pc, .int .i64 k], .func (.func 168) #[] #[.pointer (some ⟨w.heap.size + 1 + 1 + 1 + 1, 0, none⟩)], .agg #[.int .i64 x.1.1, .int .i64 x.1.2], .agg #[.slice sa ss.length sc, .slice ga gs.length gc, .slice pa ps.length pc, .int .i64 k], .agg #[.int .i64 x.1.1, .int .i64 x.1.2], .int .i64 size, .agg #[.int .i64 A, .int .i64 D], .agg #[.slice sa ss.length sc, .slice ga gs.length gc, .slice pa ps.length pc, .int .i64 k], .func (.func 168) #[] #[.pointer (some ⟨n2 + 1, 0, none⟩)], .agg #[.int .i64 y.1.1, .int .i64 y.1.2], undef, undef, undef, undef, undef, undef, undef, undef, undef, undef, undef, undef, undef, undef, undef], defers := [] })
      (fun y a'' _ A B row hs hg hr => by obtain ⟨By, h1, h2, h3⟩ := hs; exact ⟨By, h1, hbox_own By _ _ () A B row h2 hg (fun r e => (hr r e).2), h3⟩)
      ?assign2 ?body2 ?done2 ?stop2
    case assign2 =>
      rintro l2 pre' y W' K ⟨hH, ⟨hF, hX, h9⟩, hB, hKT, hKF⟩ hK
      have hsW' := hB.size
      have hs0 := hH.choose_spec.1.lt
      have hal : Below W'.heap.size W' (W'.alloc (.cells #[.int .i64 y.1.1, .int .i64 y.1.2] 71)) := (Below.refl _ _).alloc (Nat.le_refl _) _
      dsimp only [encC]
      gi_wp2
      exact hK _ _ ((KeepsOthers.alloc _ _).from _) (KT.below hal) ⟨hH.below hal, ⟨hF.below hal, hX.below hal, h9.below hal⟩, hB.alloc hsW' _, hKT.trans (KT.below hal), hKF.trans ((KeepsOthers.alloc _ _).from _)⟩ ⟨W'.heap.size, by omega, HBox.newAt W' _ _ rfl, rfl⟩
    case body2 =>
      rintro l2 pre' y a'' W' hl2 _ ⟨hH, ⟨hF, hX, h9⟩, hB, hKT, hKF⟩ ⟨By, hBy, hY, rfl⟩ hlt2
      have HZy := HZ.out
      obtain ⟨⟨bC0, bC1⟩, bE0, bE1⟩ := HBD.out true y
      obtain ⟨C, hC⟩ : ∃ C, (zoLo true size (numN ps y.1.1 k) (numN gs y.1.2 k)) = C := ⟨_, rfl⟩
      obtain ⟨E, hE⟩ : ∃ E, (zoHi true size (numN ps y.1.1 k) (numN gs y.1.2 k)) = E := ⟨_, rfl⟩
      have HO2 : Hid (okP gs ps size k v0 v1 x.1 y.1 = lies (C - D) (E - A) v0 v1) := by show _ = _; rw [HOK.out y, hC, hE]
      rw [hC] at bC0 bC1
      rw [hE] at bE0 bE1
      have rd3 := fun d os => (hF.1.box.regrown d os).2.1
      have rd4 := fun d os => (hF.2.1.box.regrown d os).2.1
      have rd5 := fun d os => (hF.2.2.box.regrown d os).2.1
      have rd9 := fun d os => (h9.box.regrown d os).2.1
      have rd10 := fun d os => (hY.box.regrown d os).2.1
      have kc25 := fun d os => (HZy (Go.Sort.grow (redrawn W' d) os) (hB.trans ((below_regrown W' d os).mono hB.size)) true y).regrown_of
      rw [hC, hE] at kc25
      have kc26 := fun d os => (playIn_any A D C E (Go.Sort.grow (redrawn W' d) os) (by omega) (by omega) (by omega) (by omega)).regrown_of
      unfold spanV at kc25 kc26
      obtain ⟨v, hv, hown, -⟩ := hH
      have hlp : (pairL size k v0 v1 (clsS gs ps (ps.length * gs.length)) pre).length + (rowL size k v0 v1 x pre').length ≤ 1000001000000 := by
        have g1 := pairL_len size k v0 v1 (clsS gs ps (ps.length * gs.length)) pre
        have g2 := rowL_len size k v0 v1 x pre'
        have g3 := clsS_len gs ps (ps.length * gs.length)
        have g4 : ps.length * gs.length ≤ 1000 * 1000 := Nat.mul_le_mul m3 m2
        have g5 : pre.length * (clsS gs ps (ps.length * gs.length)).length ≤ 1000000 * 1000000 := Nat.mul_le_mul (by omega) (by omega)
        omega
      have HV := Lib.hid hv
      have HOW := Lib.hid hown
      have HF := Lib.hid hF
      have HX := Lib.hid hX
      have H9 := Lib.hid h9
      have HY := Lib.hid hY
      have HB := Lib.hid hB
      have HKT := Lib.hid hKT
      have HKF := Lib.hid hKF
      have HLP := Lib.hid hlp
      clear hv hown hF hX h9 hY hB hKT hKF hlp HZy hC hE hlt2
      gi_wp2
      change Code.wpIn (Fence.wide.inRound l2) _ _ _ _ _ _
      refine Rnd.wpIn_region_quiet_tail (C := fun w' => ∃ p : Regrown, w' = Go.Sort.grow (redrawn W' p.d) p.os) 7 (by kernel_rfl) (by kernel_rfl) (by kernel_rfl) (InB.start W') ?_
      simp only [List.take_succ_cons, List.take_zero, List.drop_succ_cons, List.drop_zero]
      repeat ((with_reducible refine wpQuiet_step (fun K hK => ?_)); go_simp; first | ((with_reducible refine hK _ ?_); clear hK K) | (apply Exists.intro; refine ⟨fun _ => ?_, hK _ ?_⟩; (first | (go_at_call 96; with_reducible exact kc25 _ _) | (go_at_call 105; with_reducible exact kc26 _ _)); clear hK K))
      with_reducible refine wpQuiet_nil ?_
      intro W5 hw'
      obtain ⟨⟨dq, osq⟩, hw''⟩ := hw'
      have hb5 : Below W'.heap.size W' W5 := by rw [hw'']; exact below_regrown W' dq osq
      clear hw'' rd3 rd4 rd5 rd9 rd10 kc25 kc26
      have HW6 := Lib.hid (within_any (C - D) (E - A) v0 v1 W5)
      unfold spanV at HW6
      gi_wp2_with fail
      refine ⟨trivial, ?_⟩
      refine (CallsIn.inRound l2 (callsIn_wide.2 HW6.out)).mono ?_
      rintro e W6 ⟨rfl, hb6'⟩
      rw [← HO2.out]
      have hb6 : Below W'.heap.size W' W6 := hb5.trans (hb6'.mono hb5.size)
      clear hb5 hb6' HW6
      have v6 : Boxed W6 (w.heap.size + 1 + 1 + 1) 91 v := (hb6.block _ HV.out.lt).trans HV.out
      have o6 := HOW.out.kept (grown_of_belowZ hb6) (by cases v.ownBlock <;> simp)
      have F6 := HF.out.below hb6
      have X6 := HX.out.below hb6
      have N6 := H9.out.below hb6
      have Y6 := HY.out.below hb6
      have B6 : Below w.heap.size w W6 := HB.out.trans (hb6.mono HB.out.size)
      have T6 : KT (w.heap.size + 1 + 1 + 1) 88 W' W6 := KT.below hb6
      have K6 : KeepsOthers W' W6 := ⟨hb6.size, fun k o e _ => (hb6.block k (Array.getElem?_eq_some_iff.1 e).1).trans e⟩
      clear hb6 HV HOW HF HX H9 HY HB
      cases hok : okP gs ps size k v0 v1 x.1 y.1
      · have HNo := Lib.hid (rowL_no (l := pre') hok)
        have HA1 := Lib.hid (And.intro v6 (And.intro o6 (And.intro F6 (And.intro X6 (And.intro N6 (And.intro B6 (And.intro T6 K6)))))))
        clear v6 o6 F6 X6 N6 Y6 B6 T6 K6 hok
        gi_wp2
        obtain ⟨v6, o6, F6, X6, N6, B6, T6, K6⟩ := HA1.out
        exact ⟨K6.from _, T6, ⟨v, v6, by rw [HNo.out]; exact o6, trivial⟩, ⟨F6, X6, N6⟩, B6, HKT.out.trans T6, HKF.out.trans (K6.from _)⟩
      · have HYes := Lib.hid (rowL_yes (l := pre') hok)
        obtain ⟨i0, hi, hz0, hz1, hz2⟩ := info_parts Try.infoPair
        have cv := v6.cell
        have cX := X6.box.2.1
        have lX := X6.lt
        have cY := Y6.box.2.1
        have lY := Y6.lt
        have lp := HLP.out
        have b6s := B6.size
        clear hok
        have HA1 := Lib.hid (And.intro F6 (And.intro X6 (And.intro N6 (And.intro B6 (And.intro T6 K6)))))
        clear F6 X6 N6 B6 T6 K6 Y6
        gi_wp2_with (gi_at_builtin; refine wpListIn_append_own _ rfl _ _ 91 rfl w.heap.size 88 i0 (.agg #[.int .i64 0, .int .i64 0, .int .i64 0, .int .i64 0]) 4 32 Try.underlying91 hi hz0 hz1 hz2 rfl (by decide) _ _ _ rfl (o6.alloc _) ⟨W6.heap.size, 0, none⟩ 1 1 [.int .i64 x.1.1, .int .i64 x.1.2, .int .i64 y.1.1, .int .i64 y.1.2] rfl rfl (four_news (Box.new _ _ _)) (four_one _ _ _ _) (by unfold maxLen; rw [List.length_append]; omega) (by rw [List.length_append]; omega) (by simp; omega) ?_; intro v' w1 hown' hgrow _; obtain ⟨g', cap', rfl⟩ := ownsRow_succ hown'; obtain ⟨hv1, hv2, hr2, hk2, hb2⟩ := v6.appended (by decide) o6 b6s (by omega) hown' hgrow; have hkt := KT.appended (B := w.heap.size + 1 + 1 + 1) (v' := .slice (some ⟨g', 0, none⟩) ((pairL size k v0 v1 (clsS gs ps (ps.length * gs.length)) pre ++ rowL size k v0 v1 x pre').length + 1) cap') o6 hgrow; have hc1 := hv1.cell; have hf1 := hv1.frozen)
        simp only [List.length_append] at hv2 hr2 hk2 hb2 hkt
        have HV2 := Lib.hid hv2
        have HR2 := Lib.hid hr2
        have HK2 := Lib.hid (And.intro hk2 (And.intro hb2 hkt))
        clear hv2 hr2 hk2 hb2 hkt hgrow hown' hv1 o6
        gi_wp2
        obtain ⟨F6, X6, N6, B6, T6, K6⟩ := HA1.out
        obtain ⟨hk2, hb2, hkt⟩ := HK2.out
        refine ⟨(K6.trans hk2).from _, T6.trans hkt, ⟨_, HV2.out, ?_, trivial⟩, ⟨F6.kt hkt, X6.kt hkt (by omega) (by decide), N6.kt hkt (by omega) (by decide)⟩, B6.trans hb2, HKT.out.trans (T6.trans hkt), HKF.out.trans ((K6.trans hk2).from _)⟩
        rw [HYes.out, ← List.append_assoc, flat4_snoc, List.length_append, List.length_append]
        exact HR2.out
    case done2 =>
      rintro ys' W' rfl ⟨hH, ⟨hF, hX, h9⟩, hB, hKT, hKF⟩
      gi_wp2
      exact ⟨hKF, hKT, by rw [pairL_snoc]; exact hH, hF, hB⟩
    case stop2 =>
      rintro c pre' W' _ h
      exact h.elim
  case done =>
    rintro D zs W hD rfl ⟨hH, hF, hB⟩ hK
    obtain ⟨v, hv, hown, -⟩ := hH
    have cv := hv.cell
    have HO := Lib.hid hown
    have HB := Lib.hid hB
    have HK := Lib.hid hK
    clear hown hB hK hF
    gi_wp2
    refine ⟨by simp, .inl ⟨_, _, rfl, run_takeDeferred HK.out, ?_⟩⟩
    exact ⟨_, results_tmp rfl _ _ _, v, rfl, ownsRow_putObj HO.out _ HK.out rfl, HB.out.trans (belowK_b (w := w) (Nat.le_refl _) W D _ _ (by have := HSZ.out; omega) HK.out rfl rfl)⟩
  case stop =>
    rintro D c pre W _ _ h _
    exact h.elim
end Go.Proofs.Ytpmeahmjmpgbfaa
