/- The rule of XFloat with one floating block, and the store into it, which may come up at any time behind the block. Made for 's, e := f(..)' where the extract of e may come up behind the store of s. -/
import Derived.Test.YtpmeahmjmpgbfaaFloat
namespace Go.Proofs.Ytpmeahmjmpgbfaa
open Go Go.RowKit

section
variable {P : Program} {ops : Array Oper} {md : Region.Mode} {X : World} {m : Nat} {z1 z2 : Array Value} {st : Nat → World → World} {L : Array Bool → Nat → Act → Prop}

/-- The store into the block, whatever else the world holds. -/
def SF (P : Program) (ops : Array Oper) (z1 : Array Value) (st : Nat → World → World) (o : Oper) (g : Nat) (a : Act) : Prop :=
  Region.wanted o (yielded ops a.tmps) = true ∧ o.dst = none ∧ ∀ w, Box w g z1 → (execOp a.eval o).run P w = .ok .skip (st g w)

theorem SF.unput {oi oj : Oper} {v : Value} {g : Nat} {a : Act} (hap : oi.apart ops oj = true) (hsj : ∀ cs b, oj.op ≠ .select cs b) (h : SF P ops z1 st oj g (a.put oi.dst v)) : SF P ops z1 st oj g a := by
  obtain ⟨h1, h2, h3⟩ := Oper.apart_spec hap
  refine ⟨(wanted_put oj a oi.dst v h1).symm.trans h.1, h.2.1, fun w hw => ?_⟩
  rw [← execOp_put oj hsj a oi.dst v h1]
  exact h.2.2 w hw

def FS (P : Program) (md : Region.Mode) (ops : Array Oper) (X : World) (m : Nat) (z1 : Array Value) (st : Nat → World → World) (L : Array Bool → Nat → Act → Prop) : Nat → Array Bool → Nat → Act → Prop
  | 0, done, g, a => L done g a
  | f + 1, done, g, a => Region.ready md ops done ≠ [] ∧ ∀ i ∈ Region.ready md ops done, ∃ o, ops[i]? = some o ∧
      ((i < m ∧ ∃ v, YF P ops X o v a ∧ FS P md ops X m z1 st L f (done.setIfInBounds i true) g (a.put o.dst v)) ∨
       (i = m ∧ ∀ g', FS P md ops X m z1 st L f (done.setIfInBounds i true) g' (a.put o.dst (ptrV g'))) ∨
       (i = m + 1 ∧ done.getD m false = true ∧ SF P ops z1 st o g a ∧ FS P md ops X m z1 st L f (done.setIfInBounds i true) g a))

/-- The block that has been laid. -/
def PS (X : World) (m : Nat) (z1 z2 : Array Value) (done : Array Bool) (g : Nat) (w : World) : Prop :=
  done.getD m false = true → X.heap.size ≤ g ∧ Box w g (if done.getD (m + 1) false = true then z2 else z1)

theorem getD_set_here {done : Array Bool} {i : Nat} (h : done.getD i true = false) : (done.setIfInBounds i true).getD i false = true := by
  rcases Nat.lt_or_ge i done.size with h' | h'
  · simp [h']
  · simp [Array.getElem?_eq_none h'] at h

theorem FS.any {T1 : TypeId} {k : Nat} {Q' : Exit → Act → World → Prop}
    (hA : ∀ o, ops[m]? = some o → ∀ (a : Act) (w : World) (K : Act → World → Prop), K (a.put o.dst (ptrV w.heap.size)) (w.alloc (.cells z1 T1)) → wpOp P ops Q' m K a w)
    (hst : ∀ g w, Box w g z1 → Box (st g w) g z2 ∧ ∀ X : World, Below X.heap.size X w → X.heap.size ≤ g → Below X.heap.size X (st g w))
    (hL : ∀ done g a w, Below X.heap.size X w → PS X m z1 z2 done g w → L done g a → wpAny P md ops Q' k done a w) (f : Nat) :
    ∀ (done : Array Bool) (g : Nat) (a : Act) (w : World), (done.getD (m + 1) false = true → done.getD m false = true) → Below X.heap.size X w → PS X m z1 z2 done g w → FS P md ops X m z1 st L f done g a → wpAny P md ops Q' (f + k) done a w := by
  induction f with
  | zero => intro done g a w _ hw hp h; rw [Nat.zero_add]; exact hL done g a w hw hp h
  | succ f ih =>
    intro done g a w hinv hw hp h
    rw [Nat.add_right_comm]
    refine ⟨fun e => (h.1 e).elim, fun i hi => ?_⟩
    obtain ⟨o, ho, hc⟩ := h.2 i hi
    have hopen := (mem_ready.1 hi).1
    rcases hc with ⟨him, v, hy, hF⟩ | ⟨rfl, hF⟩ | ⟨rfl, hdm, hsf, hF⟩
    · have hq : qOp P ops (InB w) i (fun a' => a' = a.put o.dst v) a := (hy w hw).qOp ho rfl
      refine wpOp_of_qOp (InB.refl w) (fun a' w' hw' ha => ?_) hq
      subst ha
      have hb := InB.toBelow hw'
      have e1 : (done.setIfInBounds i true).getD (m + 1) false = done.getD (m + 1) false := getD_set_ne false (by omega)
      have e2 : (done.setIfInBounds i true).getD m false = done.getD m false := getD_set_ne false (by omega)
      refine ih _ g _ w' (by rw [e1, e2]; exact hinv) (hw.trans (hb.mono hw.size)) (fun h3 => ?_) hF
      rw [e2] at h3
      rw [e1]
      exact ⟨(hp h3).1, (hp h3).2.below hb⟩
    · refine hA o ho a w _ ?_
      have hb : Below w.heap.size w (w.alloc (.cells z1 T1)) := (Below.refl _ _).alloc (Nat.le_refl _) _
      have e1 : (done.setIfInBounds i true).getD (i + 1) false = done.getD (i + 1) false := getD_set_ne false (by omega)
      have e3 : ¬ done.getD (i + 1) false = true := fun e => by rw [getD_both hopen] at hinv; exact absurd (hinv e) Bool.false_ne_true
      refine ih _ w.heap.size _ _ (fun _ => getD_set_here hopen) (hw.trans (hb.mono hw.size)) (fun _ => ?_) (hF w.heap.size)
      rw [e1, if_neg e3]
      exact ⟨hw.size, Box.new w _ _⟩
    · have hz := (hp hdm).2
      rw [if_neg (by rw [getD_both hopen]; exact Bool.false_ne_true)] at hz
      unfold wpOp
      simp only [ho, hsf.1, if_true]
      refine .inl ?_
      unfold Oper.wp
      rw [hsf.2.2 w hz, Oper.upon_skip, hsf.2.1]
      have e2 : (done.setIfInBounds (m + 1) true).getD m false = done.getD m false := getD_set_ne false (by omega)
      refine ih _ g a (st g w) (fun _ => by rw [e2]; exact hdm) ((hst g w hz).2 X hw (hp hdm).1) (fun _ => ?_) hF
      rw [if_pos (getD_set_here hopen)]
      exact ⟨(hp hdm).1, (hst g w hz).1⟩

/-- A reading or calling operation that may come up now may be taken first. -/
theorem FS.front {i : Nat} {oi : Oper} {v : Value} (hi : ops[i]? = some oi) (hsel : ∀ (j : Nat) (o : Oper) cs b, ops[j]? = some o → o.op ≠ .select cs b)
    (hs : Region.sinkB md ops (m + 2) = true) (hc : Region.chainB md ops (m + 2) = true) (hn : m + 2 < ops.size) (him : i < m)
    (hL : ∀ done g a, L done g a → ∀ j ∈ Region.ready md ops done, m + 2 ≤ j) (f : Nat) :
    ∀ (done : Array Bool) (g : Nat) (a : Act), HeadInv md ops (m + 2) done →
      (∀ j oj, ops[j]? = some oj → j ≠ i → done.getD j true = false → (∀ e ∈ oj.after, Region.binds md e = true → e.on ≠ i) → oi.apart ops oj = true) →
      i ∈ Region.ready md ops done → YF P ops X oi v a →
      FS P md ops X m z1 st L f (done.setIfInBounds i true) g (a.put oi.dst v) → FS P md ops X m z1 st L (f + 1) done g a := by
  induction f with
  | zero =>
    intro done g a inv _ hr hy H
    have hopen := (mem_ready.1 hr).1
    refine ⟨List.ne_nil_of_mem hr, fun j hj => ?_⟩
    have hjn : j < m + 2 := Nat.lt_of_not_le fun h => tail_waits hs hc hn inv _ i rfl (by omega) hopen j h hj
    by_cases e : j = i
    · subst e; exact ⟨oi, hi, .inl ⟨him, v, hy, H⟩⟩
    · exact absurd (hL _ _ _ H j (ready_mono hj e)) (by omega)
  | succ f ih =>
    intro done g a inv hfree hr hy H
    have hopen := (mem_ready.1 hr).1
    refine ⟨List.ne_nil_of_mem hr, fun j hj => ?_⟩
    have hjn : j < m + 2 := Nat.lt_of_not_le fun h => tail_waits hs hc hn inv _ i rfl (by omega) hopen j h hj
    by_cases e : j = i
    · subst e; exact ⟨oi, hi, .inl ⟨him, v, hy, H⟩⟩
    obtain ⟨hjopen, oj, hoj, hwait⟩ := mem_ready.1 hj
    have hno : ∀ x ∈ oj.after, Region.binds md x = true → x.on ≠ i := by
      intro x hx hb hon
      have h1 := hwait x hx hb
      rw [hon, getD_both hopen] at h1
      exact Bool.false_ne_true h1
    have hap := hfree j oj hoj e hjopen hno
    obtain ⟨h1, h2, h3⟩ := Oper.apart_spec hap
    have hfree' : ∀ k ok, ops[k]? = some ok → k ≠ i → (done.setIfInBounds j true).getD k true = false → (∀ e ∈ ok.after, Region.binds md e = true → e.on ≠ i) → oi.apart ops ok = true := by
      intro k ok hk hki hko hkno
      refine hfree k ok hk hki ?_ hkno
      by_cases ejk : j = k
      · subst ejk; exact hjopen
      · rwa [getD_set_ne true ejk] at hko
    obtain ⟨o', ho', hcase⟩ := H.2 j (ready_mono hj e)
    obtain rfl : o' = oj := Option.some.inj (ho'.symm.trans hoj)
    refine ⟨o', hoj, ?_⟩
    rcases hcase with ⟨hjm, u, hyu, hF⟩ | ⟨hjm, hF⟩ | ⟨hjm, hdm, hsf, hF⟩
    · refine .inl ⟨hjm, u, hyu.unput hap (fun cs b => hsel j o' cs b hoj), ?_⟩
      refine ih _ g _ (inv.set hj hjn) hfree' (ready_mono hr (fun x => e x.symm)) (hy.put hap (fun cs b => hsel i oi cs b hi) u) ?_
      rw [Array.setIfInBounds_comm _ _ e, ← Act.put_comm a v u h2]
      exact hF
    · refine .inr (.inl ⟨hjm, fun g' => ?_⟩)
      refine ih _ g' _ (inv.set hj hjn) hfree' (ready_mono hr (fun x => e x.symm)) (hy.put hap (fun cs b => hsel i oi cs b hi) _) ?_
      rw [Array.setIfInBounds_comm _ _ e, ← Act.put_comm a v _ h2]
      exact hF g'
    · refine .inr (.inr ⟨hjm, by rwa [getD_set_ne false (by omega)] at hdm, hsf.unput hap (fun cs b => hsel j o' cs b hoj), ?_⟩)
      refine ih _ g a (inv.set hj hjn) hfree' (ready_mono hr (fun x => e x.symm)) hy ?_
      rw [Array.setIfInBounds_comm _ _ e]
      exact hF

theorem FS.lex {k' : Nat} {aF : Act} {o1 o2 : Oper} {d1 : Nat} (hsel : Region.noSelect ops = true) (hs : Region.sinkB md ops (m + 2) = true) (hc : Region.chainB md ops (m + 2) = true) (hn : m + 2 < ops.size)
    (e1 : ops[m]? = some o1) (f1 : o1.dst = some d1) (e2 : ops[m + 1]? = some o2) (hdep : Region.waitsFor md ops (m + 1) m = true)
    (hS : ∀ g, SF P ops z1 st o2 g (aF.put (some d1) (ptrV g))) (l : List Oper) :
    ∀ (k : Nat) (done : Array Bool) (g : Nat) (a : Act), (∀ j, j < l.length → l[j]? = ops[k + j]?) → k + l.length = m → HeadInv md ops (m + 2) done → (∀ j, j < k → done.getD j false = true) → dstOk a.tmps.size l = true →
    Region.lexHead md ops k' (l.length + 2) k done = true → (∀ X', Below X.heap.size X X' → wpQuiet P ops (InB X') (fun a' => a' = aF) l a) →
    FS P md ops X m z1 st (fun done' g' a' => (Region.seqB md ops k' (m + 2) done' = true ∧ done'.getD m false = true ∧ done'.getD (m + 1) false = true) ∧ a' = aF.put (some d1) (ptrV g')) (l.length + 2) done g a := by
  induction l with
  | nil =>
    intro k done g a _ hk inv hq _ hB h
    obtain rfl : k = m := by simpa using hk
    have hF : a = aF := h X (Below.refl _ _)
    subst hF
    simp only [List.length_nil, Region.lexHead, Bool.and_eq_true] at hB
    obtain ⟨⟨hr, _⟩, ⟨hr2, _⟩, hB'⟩ := hB
    have hr : k ∈ Region.ready md ops done := by simpa using hr
    have hr2 : k + 1 ∈ Region.ready md ops (done.setIfInBounds k true) := by simpa using hr2
    have hopen := (mem_ready.1 hr).1
    have hopen2 := (mem_ready.1 hr2).1
    have inv2 := inv.set hr (by omega)
    refine ⟨List.ne_nil_of_mem hr, fun j hj => ?_⟩
    have hjn : j < k + 2 := Nat.lt_of_not_le fun h => tail_waits hs hc hn inv _ k rfl (by omega) hopen j h hj
    obtain ⟨hjopen, oj, hoj, hwait⟩ := mem_ready.1 hj
    have hjk : k ≤ j := Nat.le_of_not_lt fun hlt => by
      have := hq j hlt
      rw [getD_both hjopen] at this
      cases this
    have hj1 : j ≠ k + 1 := by
      rintro rfl
      obtain ⟨ox, hox, e, he, hb, hon⟩ := Region.waitsFor_spec hdep
      obtain rfl : ox = oj := Option.some.inj (hox.symm.trans hoj)
      have := hwait e he hb
      rw [hon, getD_both hopen] at this
      cases this
    obtain rfl : j = k := by omega
    refine ⟨o1, e1, .inr (.inl ⟨rfl, fun g' => ?_⟩)⟩
    rw [f1]
    refine ⟨List.ne_nil_of_mem hr2, fun i hi => ?_⟩
    have hin : i < j + 2 := Nat.lt_of_not_le fun h => tail_waits hs hc hn inv2 _ (j + 1) rfl (by omega) hopen2 i h hi
    obtain ⟨hiopen, oi, hoi, _⟩ := mem_ready.1 hi
    have hij : j ≤ i := Nat.le_of_not_lt fun hlt => by
      have := hq i hlt
      rw [getD_set_ne true (by omega)] at hiopen
      rw [getD_both hiopen] at this
      cases this
    have hij1 : i ≠ j := by
      rintro rfl
      have := getD_set_here hopen
      rw [getD_both hiopen] at this
      cases this
    obtain rfl : i = j + 1 := by omega
    refine ⟨o2, e2, .inr (.inr ⟨rfl, getD_set_here hopen, hS g', ?_⟩)⟩
    refine ⟨⟨hB', ?_, getD_set_here hopen2⟩, rfl⟩
    rw [getD_set_ne false (by omega)]
    exact getD_set_here hopen
  | cons o l ih =>
    intro k done g a hl hk inv hq hd hB h
    have h0 : ops[k]? = some o := by simpa using (hl 0 (by simp)).symm
    rw [show (o :: l).length + 2 = (l.length + 2) + 1 by simp] at hB ⊢
    generalize l.length + 2 = N at hB ih ⊢
    simp only [Region.lexHead, Bool.and_eq_true] at hB
    obtain ⟨⟨hr, hf⟩, hB'⟩ := hB
    have hr' : k ∈ Region.ready md ops done := by simpa using hr
    have hlen : k + (l.length + 1) = m := by simpa using hk
    simp only [dstOk, Bool.and_eq_true] at hd
    obtain ⟨hd1, hd2⟩ := hd
    obtain ⟨d, hod, hds, hdn⟩ : ∃ d, o.dst = some d ∧ d < a.tmps.size ∧ ∀ o' ∈ l, o'.dst ≠ some d := by
      cases e : o.dst with
      | none => rw [e] at hd1; cases hd1
      | some d =>
        rw [e] at hd1
        simp only [Bool.and_eq_true, decide_eq_true_eq, List.all_eq_true] at hd1
        exact ⟨d, rfl, hd1.1, fun o' ho => by simpa using hd1.2 o' ho⟩
    have hv : ∀ X', Below X.heap.size X X' → YieldsIn P ops (InB X') o (aF.tmps[d]?.getD undef) a ∧ wpQuiet P ops (InB X') (fun a' => a' = aF) l (a.put o.dst (aF.tmps[d]?.getD undef)) := by
      intro X' hX
      obtain ⟨v, hy, hrest⟩ := wpQuiet_head (h X' hX)
      have e := det l _ hrest d hdn
      have e2 : (a.put o.dst v).tmps[d]? = some v := by
        rw [hod]
        show (a.tmps.setIfInBounds d v)[d]? = _
        simp [hds]
      rw [e2] at e
      rw [e]
      exact ⟨hy, hrest⟩
    refine FS.front h0 (Region.noSelect_spec hsel) hs hc hn (by omega) (fun _ _ _ hL => seqB_ready hL.1.1) _ done g a inv (Region.free_spec h0 hf) hr' (fun X' hX => (hv X' hX).1) ?_
    refine ih (k + 1) _ g _ (fun j hj => ?_) (by omega) (inv.set hr' (by omega)) (fun j hj => ?_) ?_ hB' (fun X' hX => (hv X' hX).2)
    · have := hl (j + 1) (by simp; omega)
      simpa [Nat.add_assoc, Nat.add_comm 1 j] using this
    · exact getD_set_self inv.size (by omega) hq hj
    · have : (a.put o.dst (aF.tmps[d]?.getD undef)).tmps.size = a.tmps.size := by
        rw [hod]
        show (a.tmps.setIfInBounds d _).size = _
        simp
      rw [this]
      exact hd2

/-- One block, operation m, and its store, operation m + 1. -/
def floatB1s (l : List Oper) (m s d1 : Nat) : Bool :=
  Region.lexTailB .any l.toArray (m + 2) && dstOk s (l.take m) && decide (m + 2 < l.length) && Region.waitsFor .any l.toArray (m + 1) m && (match l[m]? with | some o1 => decide (o1.dst = some d1) | _ => false)

/-- THE RULE. -/
theorem wp_region_float1s {id : Nat} {Q : Exit → Act → World → Prop} {a : Act} {w : World} {l : List Oper} (m d1 : Nat) (z1 z2 : Array Value) (T1 : TypeId) (st : Nat → World → World) (hm : P.follows .mixedOrders = true) (hB : floatB1s l m a.tmps.size d1 = true)
    (hA1 : ∀ (a : Act) (w : World) (K : Act → World → Prop), K (a.put (some d1) (ptrV w.heap.size)) (w.alloc (.cells z1 T1)) → wpOp P l.toArray Q m K a w)
    (hst : ∀ g w, Box w g z1 → Box (st g w) g z2 ∧ ∀ X : World, Below X.heap.size X w → X.heap.size ≤ g → Below X.heap.size X (st g w))
    (hE : ∃ aF, (∀ X', Below w.heap.size w X' → wpQuiet P l.toArray (InB X') (fun a' => a' = aF) (l.take m) a) ∧
      (∀ g, ∃ o, l[m + 1]? = some o ∧ SF P l.toArray z1 st o g (aF.put (some d1) (ptrV g))) ∧
      ∀ (g1 : Nat) (w' : World), Below w.heap.size w w' → Box w' g1 z2 → w.heap.size ≤ g1 →
      wpList P l.toArray Q (l.drop (m + 2)) (aF.put (some d1) (ptrV g1)) w') : (Code.region id l.toArray true).wp P Q a w := by
  obtain ⟨aF, h, hS, hL⟩ := hE
  simp only [floatB1s, Bool.and_eq_true, decide_eq_true_eq] at hB
  obtain ⟨⟨⟨⟨hT, hd⟩, hlen⟩, hdep⟩, hdst⟩ := hB
  simp only [Region.lexTailB, Bool.and_eq_true, decide_eq_true_eq] at hT
  obtain ⟨⟨⟨⟨hsel, hn⟩, hs⟩, hc⟩, hlex⟩ := hT
  obtain ⟨o1, e1, f1⟩ : ∃ o1, l[m]? = some o1 ∧ o1.dst = some d1 := by
    revert hdst
    cases h1 : l[m]? with
    | none => simp
    | some o1 => simp only [decide_eq_true_eq]; exact fun hh => ⟨o1, rfl, hh⟩
  obtain ⟨o2, e2, _⟩ := hS 0
  have hS' : ∀ g, SF P l.toArray z1 st o2 g (aF.put (some d1) (ptrV g)) := fun g => by
    obtain ⟨o, ho, hh⟩ := hS g
    obtain rfl : o = o2 := Option.some.inj (ho.symm.trans e2)
    exact hh
  have htl : (l.take m).length = m := by simp; omega
  have inv0 : HeadInv .any l.toArray (m + 2) (Array.replicate l.toArray.size false) :=
    ⟨by simp, fun j _ _ hl => by rw [getD_replicate_false] at hl; exact absurd hl Bool.false_ne_true, fun t _ ht => getD_in (by simpa using ht) (getD_replicate_false _ _)⟩
  have hA : ∀ o, l.toArray[m]? = some o → ∀ (a : Act) (w : World) (K : Act → World → Prop), K (a.put o.dst (ptrV w.heap.size)) (w.alloc (.cells z1 T1)) → wpOp P l.toArray Q m K a w := by
    intro o ho a w K hK
    have : o = o1 := by simpa [e1] using ho.symm
    subst this
    rw [f1] at hK
    exact hA1 a w K hK
  have H := FS.lex (P := P) (X := w) (md := .any) (k' := l.toArray.size - (m + 2)) (aF := aF) (o1 := o1) (o2 := o2) (d1 := d1) hsel hs hc hn (by simpa using e1) f1 (by simpa using e2) hdep hS' (l.take m) 0 _ 0 a (fun j hj => by rw [htl] at hj; simp [hj]) (by simpa using htl) inv0 (fun j hj => absurd hj (by omega)) hd (by rw [htl]; exact hlex) h
  refine wp_region_any hm ?_
  have hall := FS.any (Q' := Q) (T1 := T1) (k := l.toArray.size - (m + 2)) hA hst (fun done g a' w' hw' hp hLL => by
    obtain ⟨⟨hsq, hdm, hdm1⟩, rfl⟩ := hLL
    have p1 := hp hdm
    rw [if_pos hdm1] at p1
    have hw2 := hL g w' hw' p1.2 p1.1
    have hseq := wpAny_of_seq (md := .any) (Q' := Q) (l.drop (m + 2)) (m + 2) done _ w' (fun j => by simp [List.getElem?_drop]) (by simpa using hsq) hw2
    simpa using hseq) _ _ _ _ { w with drawn := w.drawn + 1 } (fun h3 => by rw [getD_replicate_false] at h3; cases h3) (Below.refl _ w).drew (fun h3 => by rw [getD_replicate_false] at h3; cases h3) H
  rw [htl, show m + 2 + (l.toArray.size - (m + 2)) = l.toArray.size by simp at hn ⊢; omega] at hall
  exact hall
end
end Go.Proofs.Ytpmeahmjmpgbfaa
