/- A region that draws its order, whose first operations read or call in worlds that grow, then lay blocks at any time, and whose last ones come in one order: one walk in the order of the text serves all orders. Made for 'a, b := f(..), g(..)' with results that lie in memory. -/
import Derived.Test.YtpmeahmjmpgbfaaExact
import Derived.Test.YtpmeahmjmpgbfaaTail
namespace Go.Proofs.Ytpmeahmjmpgbfaa
open Go Go.RowKit

section
variable {P : Program} {ops : Array Oper} {md : Region.Mode} {X : World} {m n : Nat} {z : Nat → Array Value} {L : Array Bool → (Nat → Nat) → Act → Prop}

def ptrV (g : Nat) : Value := .pointer (some ⟨g, 0, none⟩)
def upd (gf : Nat → Nat) (i g : Nat) : Nat → Nat := fun j => if j = i then g else gf j
theorem upd_comm (gf : Nat → Nat) {i j : Nat} (g h : Nat) (hij : i ≠ j) : upd (upd gf i g) j h = upd (upd gf j h) i g := by
  funext k
  unfold upd
  by_cases h1 : k = j
  · subst h1; rw [if_pos rfl, if_neg (Ne.symm hij), if_pos rfl]
  · rw [if_neg h1]
    by_cases h2 : k = i
    · rw [if_pos h2, if_pos h2]
    · rw [if_neg h2, if_neg h2, if_neg h1]

/-- The operation yields this value, whatever world that has grown out of X it comes up in; the world grows. -/
def YF (P : Program) (ops : Array Oper) (X : World) (o : Oper) (v : Value) (a : Act) : Prop := ∀ X', Below X.heap.size X X' → YieldsIn P ops (InB X') o v a

def FQ (P : Program) (md : Region.Mode) (ops : Array Oper) (X : World) (m n : Nat) (L : Array Bool → (Nat → Nat) → Act → Prop) : Nat → Array Bool → (Nat → Nat) → Act → Prop
  | 0, done, gf, a => L done gf a
  | f + 1, done, gf, a => Region.ready md ops done ≠ [] ∧ ∀ i ∈ Region.ready md ops done, i < n ∧ ∃ o, ops[i]? = some o ∧
      ((i < m ∧ ∃ v, YF P ops X o v a ∧ FQ P md ops X m n L f (done.setIfInBounds i true) gf (a.put o.dst v)) ∨
       (m ≤ i ∧ ∀ g, FQ P md ops X m n L f (done.setIfInBounds i true) (upd gf i g) (a.put o.dst (ptrV g))))

/-- The blocks that have been laid. -/
def PB (X : World) (m n : Nat) (z : Nat → Array Value) (done : Array Bool) (gf : Nat → Nat) (w : World) : Prop :=
  ∀ i, m ≤ i → i < n → done.getD i false = true → Box w (gf i) (z i) ∧ X.heap.size ≤ gf i ∧ ∀ j, m ≤ j → j < n → done.getD j false = true → j ≠ i → gf j ≠ gf i

theorem PB.below {done : Array Bool} {gf : Nat → Nat} {w w' : World} (h : PB X m n z done gf w) (hb : Below w.heap.size w w') : PB X m n z done gf w' :=
  fun i h1 h2 h3 => ⟨(h i h1 h2 h3).1.below hb, (h i h1 h2 h3).2⟩

theorem getD_set_back {done : Array Bool} {i j : Nat} (hij : i ≠ j) (h : (done.setIfInBounds i true).getD j false = true) : done.getD j false = true := by
  rwa [getD_set_ne false hij] at h

theorem InB.refl (w : World) : InB w w := regrown_of_below (Below.refl _ w)
theorem InB.toBelow {w w' : World} (h : InB w w') : Below w.heap.size w w' := by
  obtain ⟨p, rfl⟩ := h
  exact below_regrown w p.d p.os

theorem FQ.any {T : Nat → TypeId} {g : Nat} {Q' : Exit → Act → World → Prop}
    (hA : ∀ i o, m ≤ i → i < n → ops[i]? = some o → ∀ (a : Act) (w : World) (K : Act → World → Prop), K (a.put o.dst (ptrV w.heap.size)) (w.alloc (.cells (z i) (T i))) → wpOp P ops Q' i K a w)
    (hL : ∀ done gf a w, Below X.heap.size X w → PB X m n z done gf w → L done gf a → wpAny P md ops Q' g done a w) (f : Nat) :
    ∀ (done : Array Bool) (gf : Nat → Nat) (a : Act) (w : World), Below X.heap.size X w → PB X m n z done gf w → FQ P md ops X m n L f done gf a → wpAny P md ops Q' (f + g) done a w := by
  induction f with
  | zero => intro done gf a w hw hp h; rw [Nat.zero_add]; exact hL done gf a w hw hp h
  | succ f ih =>
    intro done gf a w hw hp h
    rw [Nat.add_right_comm]
    refine ⟨fun e => (h.1 e).elim, fun i hi => ?_⟩
    obtain ⟨hin, o, ho, hc⟩ := h.2 i hi
    rcases hc with ⟨him, v, hy, hF⟩ | ⟨him, hF⟩
    · have hq : qOp P ops (InB w) i (fun a' => a' = a.put o.dst v) a := (hy w hw).qOp ho rfl
      refine wpOp_of_qOp (InB.refl w) (fun a' w' hw' ha => ?_) hq
      subst ha
      have hb := InB.toBelow hw'
      refine ih _ gf _ w' (hw.trans (hb.mono hw.size)) (fun j h1 h2 h3 => ?_) hF
      have h3' := getD_set_back (by omega) h3
      refine ⟨(hp j h1 h2 h3').1.below hb, (hp j h1 h2 h3').2.1, fun k k1 k2 k3 => (hp j h1 h2 h3').2.2 k k1 k2 (getD_set_back (by omega) k3)⟩
    · refine hA i o him hin ho a w _ ?_
      have hb : Below w.heap.size w (w.alloc (.cells (z i) (T i))) := (Below.refl _ _).alloc (Nat.le_refl _) _
      refine ih _ (upd gf i w.heap.size) _ _ (hw.trans (hb.mono hw.size)) (fun j h1 h2 h3 => ?_) (hF w.heap.size)
      by_cases hji : j = i
      · subst hji
        have e : upd gf j w.heap.size j = w.heap.size := by unfold upd; rw [if_pos rfl]
        rw [e]
        refine ⟨Box.new w _ _, hw.size, fun k k1 k2 k3 hk => ?_⟩
        have e2 : upd gf j w.heap.size k = gf k := by unfold upd; rw [if_neg hk]
        rw [e2]
        have := (hp k k1 k2 (getD_set_back (Ne.symm hk) k3)).1.1
        omega
      · have e : upd gf i w.heap.size j = gf j := by unfold upd; rw [if_neg hji]
        rw [e]
        have h3' := getD_set_back (fun x => hji x.symm) h3
        refine ⟨(hp j h1 h2 h3').1.below hb, (hp j h1 h2 h3').2.1, fun k k1 k2 k3 hk => ?_⟩
        by_cases hki : k = i
        · subst hki
          have e2 : upd gf k w.heap.size k = w.heap.size := by unfold upd; rw [if_pos rfl]
          rw [e2]
          have := (hp j h1 h2 h3').1.1
          omega
        · have e2 : upd gf i w.heap.size k = gf k := by unfold upd; rw [if_neg hki]
          rw [e2]
          exact (hp j h1 h2 h3').2.2 k k1 k2 (getD_set_back (fun x => hki x.symm) k3) hk

theorem YF.put {oi oj : Oper} {v : Value} {a : Act} (hap : oi.apart ops oj = true) (hsi : ∀ cs b, oi.op ≠ .select cs b) (hy : YF P ops X oi v a) (u : Value) : YF P ops X oi v (a.put oj.dst u) := by
  obtain ⟨h1, h2, h3⟩ := Oper.apart_spec hap
  exact fun X' hX => (hy X' hX).of_same (execOp_put oi hsi a oj.dst u h3) (wanted_put oi a oj.dst u h3)
theorem YF.unput {oi oj : Oper} {v u : Value} {a : Act} (hap : oi.apart ops oj = true) (hsj : ∀ cs b, oj.op ≠ .select cs b) (hy : YF P ops X oj u (a.put oi.dst v)) : YF P ops X oj u a := by
  obtain ⟨h1, h2, h3⟩ := Oper.apart_spec hap
  exact fun X' hX => (hy X' hX).of_same (execOp_put oj hsj a oi.dst v h1).symm (wanted_put oj a oi.dst v h1).symm

/-- A reading or calling operation that may come up now may be taken first. -/
theorem FQ.front {i : Nat} {oi : Oper} {v : Value} (hi : ops[i]? = some oi) (hsel : ∀ (j : Nat) (o : Oper) cs b, ops[j]? = some o → o.op ≠ .select cs b)
    (hs : Region.sinkB md ops n = true) (hc : Region.chainB md ops n = true) (hn : n < ops.size) (him : i < m) (hmn : m ≤ n)
    (hL : ∀ done gf a, L done gf a → ∀ j ∈ Region.ready md ops done, n ≤ j) (f : Nat) :
    ∀ (done : Array Bool) (gf : Nat → Nat) (a : Act), HeadInv md ops n done →
      (∀ j oj, ops[j]? = some oj → j ≠ i → done.getD j true = false → (∀ e ∈ oj.after, Region.binds md e = true → e.on ≠ i) → oi.apart ops oj = true) →
      i ∈ Region.ready md ops done → YF P ops X oi v a →
      FQ P md ops X m n L f (done.setIfInBounds i true) gf (a.put oi.dst v) → FQ P md ops X m n L (f + 1) done gf a := by
  induction f with
  | zero =>
    intro done gf a inv _ hr hy H
    have hopen := (mem_ready.1 hr).1
    refine ⟨List.ne_nil_of_mem hr, fun j hj => ?_⟩
    have hjn : j < n := Nat.lt_of_not_le fun h => tail_waits hs hc hn inv _ i rfl (by omega) hopen j h hj
    refine ⟨hjn, ?_⟩
    by_cases e : j = i
    · subst e; exact ⟨oi, hi, .inl ⟨him, v, hy, H⟩⟩
    · exact absurd (hL _ _ _ H j (ready_mono hj e)) (by omega)
  | succ f ih =>
    intro done gf a inv hfree hr hy H
    have hopen := (mem_ready.1 hr).1
    refine ⟨List.ne_nil_of_mem hr, fun j hj => ?_⟩
    have hjn : j < n := Nat.lt_of_not_le fun h => tail_waits hs hc hn inv _ i rfl (by omega) hopen j h hj
    refine ⟨hjn, ?_⟩
    by_cases e : j = i
    · subst e; exact ⟨oi, hi, .inl ⟨him, v, hy, H⟩⟩
    obtain ⟨hjopen, oj, hoj, hwait⟩ := mem_ready.1 hj
    have hno : ∀ x ∈ oj.after, Region.binds md x = true → x.on ≠ i := by
      intro x hx hb hon
      have h1 := hwait x hx hb
      rw [hon, getD_both hopen] at h1
      exact Bool.false_ne_true h1
    have hap := hfree j oj hoj e hjopen hno
    obtain ⟨h1, h2, h3⟩ := Oper.apart_spec hap
    have hfree' : ∀ k ok, ops[k]? = some ok → k ≠ i → (done.setIfInBounds j true).getD k true = false → (∀ e ∈ ok.after, Region.binds md e = true → e.on ≠ i) → oi.apart ops ok = true := by
      intro k ok hk hki hko hkno
      refine hfree k ok hk hki ?_ hkno
      by_cases ejk : j = k
      · subst ejk; exact hjopen
      · rwa [getD_set_ne true ejk] at hko
    obtain ⟨_, o', ho', hcase⟩ := H.2 j (ready_mono hj e)
    obtain rfl : o' = oj := Option.some.inj (ho'.symm.trans hoj)
    refine ⟨o', hoj, ?_⟩
    rcases hcase with ⟨hjm, u, hyu, hF⟩ | ⟨hjm, hF⟩
    · refine .inl ⟨hjm, u, hyu.unput hap (fun cs b => hsel j o' cs b hoj), ?_⟩
      refine ih _ gf _ (inv.set hj hjn) hfree' (ready_mono hr (fun x => e x.symm)) (hy.put hap (fun cs b => hsel i oi cs b hi) u) ?_
      rw [Array.setIfInBounds_comm _ _ e, ← Act.put_comm a v u h2]
      exact hF
    · refine .inr ⟨hjm, fun g => ?_⟩
      refine ih _ _ _ (inv.set hj hjn) hfree' (ready_mono hr (fun x => e x.symm)) (hy.put hap (fun cs b => hsel i oi cs b hi) _) ?_
      rw [Array.setIfInBounds_comm _ _ e, ← Act.put_comm a v _ h2]
      exact hF g

/-- A block that may be laid now may be laid first, where only such operations are left. -/
theorem FQ.frontA {i : Nat} {oi : Oper} (hi : ops[i]? = some oi)
    (hs : Region.sinkB md ops n = true) (hc : Region.chainB md ops n = true) (hn : n < ops.size) (him : m ≤ i) (hin : i < n)
    (hL : ∀ done gf a, L done gf a → ∀ j ∈ Region.ready md ops done, n ≤ j) (f : Nat) :
    ∀ (done : Array Bool) (gf : Nat → Nat) (a : Act), HeadInv md ops n done → (∀ j, j < m → done.getD j true = true) →
      (∀ j oj, ops[j]? = some oj → j ≠ i → done.getD j true = false → (∀ e ∈ oj.after, Region.binds md e = true → e.on ≠ i) → oi.apart ops oj = true) →
      i ∈ Region.ready md ops done →
      (∀ g, FQ P md ops X m n L f (done.setIfInBounds i true) (upd gf i g) (a.put oi.dst (ptrV g))) → FQ P md ops X m n L (f + 1) done gf a := by
  induction f with
  | zero =>
    intro done gf a inv hq _ hr H
    have hopen := (mem_ready.1 hr).1
    refine ⟨List.ne_nil_of_mem hr, fun j hj => ?_⟩
    have hjn : j < n := Nat.lt_of_not_le fun h => tail_waits hs hc hn inv _ i rfl hin hopen j h hj
    refine ⟨hjn, ?_⟩
    by_cases e : j = i
    · subst e; exact ⟨oi, hi, .inr ⟨him, H⟩⟩
    · exact absurd (hL _ _ _ (H 0) j (ready_mono hj e)) (by omega)
  | succ f ih =>
    intro done gf a inv hq hfree hr H
    have hopen := (mem_ready.1 hr).1
    refine ⟨List.ne_nil_of_mem hr, fun j hj => ?_⟩
    have hjn : j < n := Nat.lt_of_not_le fun h => tail_waits hs hc hn inv _ i rfl hin hopen j h hj
    refine ⟨hjn, ?_⟩
    by_cases e : j = i
    · subst e; exact ⟨oi, hi, .inr ⟨him, H⟩⟩
    obtain ⟨hjopen, oj, hoj, hwait⟩ := mem_ready.1 hj
    have hjm : m ≤ j := Nat.le_of_not_lt fun h => by rw [hq j h] at hjopen; cases hjopen
    have hno : ∀ x ∈ oj.after, Region.binds md x = true → x.on ≠ i := by
      intro x hx hb hon
      have h1 := hwait x hx hb
      rw [hon, getD_both hopen] at h1
      exact Bool.false_ne_true h1
    have hap := hfree j oj hoj e hjopen hno
    obtain ⟨h1, h2, h3⟩ := Oper.apart_spec hap
    have hfree' : ∀ k ok, ops[k]? = some ok → k ≠ i → (done.setIfInBounds j true).getD k true = false → (∀ e ∈ ok.after, Region.binds md e = true → e.on ≠ i) → oi.apart ops ok = true := by
      intro k ok hk hki hko hkno
      refine hfree k ok hk hki ?_ hkno
      by_cases ejk : j = k
      · subst ejk; exact hjopen
      · rwa [getD_set_ne true ejk] at hko
    refine ⟨oj, hoj, .inr ⟨hjm, fun g' => ?_⟩⟩
    refine ih _ _ _ (inv.set hj hjn) (fun k hk => by rw [getD_set_ne true (by omega)]; exact hq k hk) hfree' (ready_mono hr (fun x => e x.symm)) (fun g => ?_)
    obtain ⟨_, o', ho', hcase⟩ := (H g).2 j (ready_mono hj e)
    obtain rfl : o' = oj := Option.some.inj (ho'.symm.trans hoj)
    rcases hcase with ⟨hh, _⟩ | ⟨_, hF⟩
    · omega
    · rw [Array.setIfInBounds_comm _ _ e, ← Act.put_comm a (ptrV g) (ptrV g') h2, ← upd_comm gf g g' (fun x => e x.symm)]
      exact hF g'

/-- What is asked behind the blocks, whatever their numbers. -/
def WA (Lq : (Nat → Nat) → Act → Prop) : List Oper → Nat → (Nat → Nat) → Act → Prop
  | [], _, gf, a => Lq gf a
  | o :: l, k, gf, a => ∀ g, WA Lq l (k + 1) (upd gf k g) (a.put o.dst (ptrV g))

theorem getD_up {done : Array Bool} {j : Nat} (h : done.getD j false = true) : done.getD j true = true := by
  rcases Nat.lt_or_ge j done.size with h' | h'
  · simp [h'] at h ⊢; exact h
  · simp [Array.getElem?_eq_none h'] at h
theorem getD_set_self {done : Array Bool} {k j s : Nat} (hs : done.size = s) (hk : k < s) (h : ∀ j, j < k → done.getD j false = true) (hj : j < k + 1) : (done.setIfInBounds k true).getD j false = true := by
  by_cases e : k = j
  · subst e
    have : k < done.size := by omega
    simp [this]
  · rw [getD_set_ne false e]; exact h j (by omega)

theorem FQ.lexA {g : Nat} {Lq : (Nat → Nat) → Act → Prop} (hs : Region.sinkB md ops n = true) (hc : Region.chainB md ops n = true) (hn : n < ops.size) (l : List Oper) :
    ∀ (k : Nat) (done : Array Bool) (gf : Nat → Nat) (a : Act), (∀ j, j < l.length → l[j]? = ops[k + j]?) → k + l.length = n → m ≤ k → HeadInv md ops n done → (∀ j, j < k → done.getD j false = true) →
    Region.lexHead md ops g l.length k done = true → WA Lq l k gf a →
    FQ P md ops X m n (fun done' gf' a' => (Region.seqB md ops g n done' = true ∧ ∀ j, j < n → done'.getD j false = true) ∧ Lq gf' a') l.length done gf a := by
  induction l with
  | nil =>
    intro k done gf a _ hk _ _ hq hB h
    obtain rfl : k = n := by simpa using hk
    exact ⟨⟨by simpa [Region.lexHead] using hB, hq⟩, h⟩
  | cons o l ih =>
    intro k done gf a hl hk hmk inv hq hB h
    have h0 : ops[k]? = some o := by simpa using (hl 0 (by simp)).symm
    simp only [List.length_cons, Region.lexHead, Bool.and_eq_true] at hB
    obtain ⟨⟨hr, hf⟩, hB'⟩ := hB
    have hr' : k ∈ Region.ready md ops done := by simpa using hr
    have hlen : k + (l.length + 1) = n := by simpa using hk
    refine FQ.frontA h0 hs hc hn hmk (by omega) (fun _ _ _ hL => seqB_ready hL.1.1) l.length done gf a inv (fun j hj => getD_up (hq j (by omega))) (Region.free_spec h0 hf) hr' (fun gg => ?_)
    refine ih (k + 1) _ _ _ (fun j hj => ?_) (by omega) (by omega) (inv.set hr' (by omega)) (fun j hj => getD_set_self inv.size (by omega) hq hj) hB' (h gg)
    have := hl (j + 1) (by simp; omega)
    simpa [Nat.add_assoc, Nat.add_comm 1 j] using this

/-- Each operation has a slot of its own. -/
def dstOk (s : Nat) : List Oper → Bool
  | [] => true
  | o :: l => (match o.dst with | some d => decide (d < s) && l.all (fun o' => decide (o'.dst ≠ some d)) | none => false) && dstOk s l

theorem det {C : World → Prop} {aF : Act} : ∀ (l : List Oper) (b : Act), wpQuiet P ops C (fun a' => a' = aF) l b → ∀ t, (∀ o ∈ l, o.dst ≠ some t) → aF.tmps[t]? = b.tmps[t]? := by
  have hput : ∀ (b : Act) (d : Option Tmp) (v : Value) (t : Nat), d ≠ some t → (b.put d v).tmps[t]? = b.tmps[t]? := by
    intro b d v t h
    cases d with
    | none => rfl
    | some d =>
      show (b.tmps.setIfInBounds d v)[t]? = _
      rw [Array.getElem?_setIfInBounds, if_neg (fun e => h (by rw [e]))]
  intro l
  induction l with
  | nil => intro b h t _; rw [← h]
  | cons o l ih =>
    intro b h t ht
    have h1 := ht o (by simp)
    have h2 : ∀ o' ∈ l, o'.dst ≠ some t := fun o' ho => ht o' (by simp [ho])
    unfold wpQuiet at h
    split at h
    · obtain ⟨v, _, hv⟩ := h
      rw [ih _ hv t h2, hput b o.dst v t h1]
    · rw [ih _ h t h2, hput b o.dst undef t h1]

theorem wpQuiet_head {C : World → Prop} {L' : Act → Prop} {o : Oper} {rest : List Oper} {a : Act} (h : wpQuiet P ops C L' (o :: rest) a) : ∃ v, YieldsIn P ops C o v a ∧ wpQuiet P ops C L' rest (a.put o.dst v) := by
  unfold wpQuiet at h
  by_cases hw : Region.wanted o (yielded ops a.tmps) = true
  · simp only [hw, if_true] at h
    obtain ⟨v, h1, h2⟩ := h
    exact ⟨v, .inl ⟨hw, h1⟩, h2⟩
  · simp only [hw] at h
    exact ⟨undef, .inr ⟨by simpa using hw, rfl⟩, h⟩

theorem FQ.lexQ {g : Nat} {Lq : (Nat → Nat) → Act → Prop} {aF : Act} {la : List Oper} (hsel : Region.noSelect ops = true) (hs : Region.sinkB md ops n = true) (hc : Region.chainB md ops n = true) (hn : n < ops.size) (hmn : m + la.length = n)
    (hla : ∀ j, j < la.length → la[j]? = ops[m + j]?) (hW : WA Lq la m (fun _ => 0) aF) (l : List Oper) :
    ∀ (k : Nat) (done : Array Bool) (a : Act), (∀ j, j < l.length → l[j]? = ops[k + j]?) → k + l.length = m → HeadInv md ops n done → (∀ j, j < k → done.getD j false = true) → dstOk a.tmps.size l = true →
    Region.lexHead md ops g (l.length + la.length) k done = true → (∀ X', Below X.heap.size X X' → wpQuiet P ops (InB X') (fun a' => a' = aF) l a) →
    FQ P md ops X m n (fun done' gf' a' => (Region.seqB md ops g n done' = true ∧ ∀ j, j < n → done'.getD j false = true) ∧ Lq gf' a') (l.length + la.length) done (fun _ => 0) a := by
  induction l with
  | nil =>
    intro k done a _ hk inv hq _ hB h
    obtain rfl : k = m := by simpa using hk
    have hF : a = aF := h X (Below.refl _ _)
    subst hF
    simp only [List.length_nil, Nat.zero_add] at hB ⊢
    exact FQ.lexA hs hc hn la k done _ a hla hmn (Nat.le_refl _) inv hq hB hW
  | cons o l ih =>
    intro k done a hl hk inv hq hd hB h
    have h0 : ops[k]? = some o := by simpa using (hl 0 (by simp)).symm
    rw [show (o :: l).length + la.length = (l.length + la.length) + 1 by simp; omega] at hB ⊢
    simp only [Region.lexHead, Bool.and_eq_true] at hB
    obtain ⟨⟨hr, hf⟩, hB'⟩ := hB
    have hr' : k ∈ Region.ready md ops done := by simpa using hr
    have hlen : k + (l.length + 1) = m := by simpa using hk
    simp only [dstOk, Bool.and_eq_true] at hd
    obtain ⟨hd1, hd2⟩ := hd
    obtain ⟨d, hod, hds, hdn⟩ : ∃ d, o.dst = some d ∧ d < a.tmps.size ∧ ∀ o' ∈ l, o'.dst ≠ some d := by
      cases e : o.dst with
      | none => rw [e] at hd1; cases hd1
      | some d =>
        rw [e] at hd1
        simp only [Bool.and_eq_true, decide_eq_true_eq, List.all_eq_true] at hd1
        exact ⟨d, rfl, hd1.1, fun o' ho => by simpa using hd1.2 o' ho⟩
    have hv : ∀ X', Below X.heap.size X X' → YieldsIn P ops (InB X') o (aF.tmps[d]?.getD undef) a ∧ wpQuiet P ops (InB X') (fun a' => a' = aF) l (a.put o.dst (aF.tmps[d]?.getD undef)) := by
      intro X' hX
      obtain ⟨v, hy, hrest⟩ := wpQuiet_head (h X' hX)
      have e := det l _ hrest d hdn
      have e2 : (a.put o.dst v).tmps[d]? = some v := by
        rw [hod]
        show (a.tmps.setIfInBounds d v)[d]? = _
        simp [hds]
      rw [e2] at e
      rw [e]
      exact ⟨hy, hrest⟩
    refine FQ.front h0 (Region.noSelect_spec hsel) hs hc hn (by omega) (by omega) (fun _ _ _ hL => seqB_ready hL.1.1) _ done _ a inv (Region.free_spec h0 hf) hr' (fun X' hX => (hv X' hX).1) ?_
    refine ih (k + 1) _ _ (fun j hj => ?_) (by omega) (inv.set hr' (by omega)) (fun j hj => ?_) ?_ hB' (fun X' hX => (hv X' hX).2)
    · have := hl (j + 1) (by simp; omega)
      simpa [Nat.add_assoc, Nat.add_comm 1 j] using this
    · exact getD_set_self inv.size (by omega) hq hj
    · have : (a.put o.dst (aF.tmps[d]?.getD undef)).tmps.size = a.tmps.size := by
        rw [hod]
        show (a.tmps.setIfInBounds d _).size = _
        simp
      rw [this]
      exact hd2

/-- Two blocks among the operations m and m + 1. -/
def floatB (l : List Oper) (m s d1 d2 : Nat) : Bool :=
  Region.lexTailB .any l.toArray (m + 2) && dstOk s (l.take m) && decide (m + 2 < l.length) && (match l[m]?, l[m + 1]? with | some o1, some o2 => decide (o1.dst = some d1) && decide (o2.dst = some d2) | _, _ => false)

/-- THE RULE: the first m operations read or call, the next two lay blocks, the rest one after another. -/
theorem wp_region_float2 {id : Nat} {Q : Exit → Act → World → Prop} {a : Act} {w : World} {l : List Oper} (m d1 d2 : Nat) (z1 z2 : Array Value) (T1 T2 : TypeId) (hm : P.follows .mixedOrders = true) (hB : floatB l m a.tmps.size d1 d2 = true)
    (hA1 : ∀ (a : Act) (w : World) (K : Act → World → Prop), K (a.put (some d1) (ptrV w.heap.size)) (w.alloc (.cells z1 T1)) → wpOp P l.toArray Q m K a w)
    (hA2 : ∀ (a : Act) (w : World) (K : Act → World → Prop), K (a.put (some d2) (ptrV w.heap.size)) (w.alloc (.cells z2 T2)) → wpOp P l.toArray Q (m + 1) K a w)
    (hE : ∃ aF, (∀ X', Below w.heap.size w X' → wpQuiet P l.toArray (InB X') (fun a' => a' = aF) (l.take m) a) ∧
      ∀ (g1 g2 : Nat) (w' : World), Below w.heap.size w w' → Box w' g1 z1 → Box w' g2 z2 → g1 ≠ g2 → w.heap.size ≤ g1 → w.heap.size ≤ g2 →
      wpList P l.toArray Q (l.drop (m + 2)) ((aF.put (some d1) (ptrV g1)).put (some d2) (ptrV g2)) w') : (Code.region id l.toArray true).wp P Q a w := by
  obtain ⟨aF, h, hL⟩ := hE
  simp only [floatB, Bool.and_eq_true, decide_eq_true_eq] at hB
  obtain ⟨⟨⟨hT, hd⟩, hlen⟩, hdst⟩ := hB
  simp only [Region.lexTailB, Bool.and_eq_true, decide_eq_true_eq] at hT
  obtain ⟨⟨⟨⟨hsel, hn⟩, hs⟩, hc⟩, hlex⟩ := hT
  obtain ⟨o1, o2, e1, e2, f1, f2⟩ : ∃ o1 o2, l[m]? = some o1 ∧ l[m + 1]? = some o2 ∧ o1.dst = some d1 ∧ o2.dst = some d2 := by
    revert hdst
    cases h1 : l[m]? with
    | none => simp
    | some o1 =>
      cases h2 : l[m + 1]? with
      | none => simp
      | some o2 => simp only [Bool.and_eq_true, decide_eq_true_eq]; exact fun hh => ⟨o1, o2, rfl, rfl, hh.1, hh.2⟩
  have htl : (l.take m).length = m := by simp; omega
  have inv0 : HeadInv .any l.toArray (m + 2) (Array.replicate l.toArray.size false) :=
    ⟨by simp, fun j _ _ hl => by rw [getD_replicate_false] at hl; exact absurd hl Bool.false_ne_true, fun t _ ht => getD_in (by simpa using ht) (getD_replicate_false _ _)⟩
  have hA : ∀ i o, m ≤ i → i < m + 2 → l.toArray[i]? = some o → ∀ (a : Act) (w : World) (K : Act → World → Prop), K (a.put o.dst (ptrV w.heap.size)) (w.alloc (.cells ((fun i => if i = m then z1 else z2) i) ((fun i => if i = m then T1 else T2) i))) → wpOp P l.toArray Q i K a w := by
    intro i o h1 h2 ho a w K hK
    by_cases hi : i = m
    · subst hi
      have : o = o1 := by simpa [e1] using ho.symm
      subst this
      rw [f1] at hK
      simp only [if_true] at hK
      exact hA1 a w K hK
    · obtain rfl : i = m + 1 := by omega
      have : o = o2 := by simpa [e2] using ho.symm
      subst this
      rw [f2] at hK
      simp only [show ¬ m + 1 = m by omega, if_false] at hK
      exact hA2 a w K hK
  have H := FQ.lexQ (P := P) (X := w) (md := .any) (m := m) (n := m + 2) (g := l.toArray.size - (m + 2)) (Lq := fun gf a' => a' = (aF.put (some d1) (ptrV (gf m))).put (some d2) (ptrV (gf (m + 1)))) (aF := aF) (la := [o1, o2]) hsel hs hc hn rfl
    (fun j hj => by
      match j, hj with
      | 0, _ => simp [e1]
      | 1, _ => simp [e2])
    (by intro g1 g2; unfold WA; rw [f1, f2]; simp [upd]) (l.take m) 0 _ a (fun j hj => by rw [htl] at hj; simp [hj]) (by simpa using htl) inv0 (fun j hj => absurd hj (by omega)) hd (by rw [htl]; exact hlex) h
  refine wp_region_any hm ?_
  have hall := FQ.any (Q' := Q) (z := fun i => if i = m then z1 else z2) (T := fun i => if i = m then T1 else T2) (g := l.toArray.size - (m + 2)) hA (fun done gf a' w' hw' hp hLL => by
    obtain ⟨⟨hsq, hdn⟩, rfl⟩ := hLL
    have p1 := hp m (Nat.le_refl _) (by omega) (hdn m (by omega))
    have p2 := hp (m + 1) (by omega) (by omega) (hdn (m + 1) (by omega))
    have b1 := p1.1
    have b2 := p2.1
    simp only [if_true] at b1
    simp only [show ¬ m + 1 = m by omega, if_false] at b2
    have hw2 := hL (gf m) (gf (m + 1)) w' hw' b1 b2 (fun e => p1.2.2 (m + 1) (by omega) (by omega) (hdn (m + 1) (by omega)) (by omega) e.symm) p1.2.1 p2.2.1
    have hseq := wpAny_of_seq (md := .any) (Q' := Q) (l.drop (m + 2)) (m + 2) done _ w' (fun j => by simp [List.getElem?_drop]) (by simpa using hsq) hw2
    simpa using hseq) _ _ _ _ { w with drawn := w.drawn + 1 } (Below.refl _ w).drew (fun i _ _ h3 => by rw [getD_replicate_false] at h3; cases h3) H
  rw [htl, show m + [o1, o2].length + (l.toArray.size - (m + 2)) = l.toArray.size by simp at hn ⊢; omega] at hall
  exact hall
end
end Go.Proofs.Ytpmeahmjmpgbfaa
