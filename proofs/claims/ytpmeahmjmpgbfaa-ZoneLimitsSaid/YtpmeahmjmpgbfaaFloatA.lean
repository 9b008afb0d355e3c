/- The rule of XFloat with one floating block whose cells and value depend on what was read: a slice's literal, 'append(a, f(..))'. -/
import Derived.Test.YtpmeahmjmpgbfaaFloat
namespace Go.Proofs.Ytpmeahmjmpgbfaa
open Go Go.RowKit

section
variable {P : Program} {ops : Array Oper} {md : Region.Mode} {X : World} {m : Nat} {z1 : Array Value} {T1 : TypeId} {pv : Nat → Value} {L : Array Bool → Nat → Act → Prop}

/-- The operation lays the block, in whatever world. -/
def AF (P : Program) (ops : Array Oper) (z1 : Array Value) (T1 : TypeId) (pv : Nat → Value) (o : Oper) (a : Act) : Prop :=
  Region.wanted o (yielded ops a.tmps) = true ∧ ∀ w : World, (execOp a.eval o).run P w = .ok (.value (pv w.heap.size)) (w.alloc (.cells z1 T1))

theorem AF.unput {oi oj : Oper} {v : Value} {a : Act} (hap : oi.apart ops oj = true) (hsj : ∀ cs b, oj.op ≠ .select cs b) (h : AF P ops z1 T1 pv oj (a.put oi.dst v)) : AF P ops z1 T1 pv oj a := by
  obtain ⟨h1, h2, h3⟩ := Oper.apart_spec hap
  refine ⟨(wanted_put oj a oi.dst v h1).symm.trans h.1, fun w => ?_⟩
  rw [← execOp_put oj hsj a oi.dst v h1]
  exact h.2 w

def FA (P : Program) (md : Region.Mode) (ops : Array Oper) (X : World) (m : Nat) (z1 : Array Value) (T1 : TypeId) (pv : Nat → Value) (L : Array Bool → Nat → Act → Prop) : Nat → Array Bool → Nat → Act → Prop
  | 0, done, g, a => L done g a
  | f + 1, done, g, a => Region.ready md ops done ≠ [] ∧ ∀ i ∈ Region.ready md ops done, ∃ o, ops[i]? = some o ∧
      ((i < m ∧ ∃ v, YF P ops X o v a ∧ FA P md ops X m z1 T1 pv L f (done.setIfInBounds i true) g (a.put o.dst v)) ∨
       (i = m ∧ AF P ops z1 T1 pv o a ∧ ∀ g', FA P md ops X m z1 T1 pv L f (done.setIfInBounds i true) g' (a.put o.dst (pv g'))))

def PA (X : World) (m : Nat) (z1 : Array Value) (done : Array Bool) (g : Nat) (w : World) : Prop :=
  done.getD m false = true → X.heap.size ≤ g ∧ Box w g z1

theorem getD_set_hereA {done : Array Bool} {i : Nat} (h : done.getD i true = false) : (done.setIfInBounds i true).getD i false = true := by
  rcases Nat.lt_or_ge i done.size with h' | h'
  · simp [h']
  · simp [Array.getElem?_eq_none h'] at h

theorem FA.any {k : Nat} {Q' : Exit → Act → World → Prop}
    (hL : ∀ done g a w, Below X.heap.size X w → PA X m z1 done g w → L done g a → wpAny P md ops Q' k done a w) (f : Nat) :
    ∀ (done : Array Bool) (g : Nat) (a : Act) (w : World), Below X.heap.size X w → PA X m z1 done g w → FA P md ops X m z1 T1 pv L f done g a → wpAny P md ops Q' (f + k) done a w := by
  induction f with
  | zero => intro done g a w hw hp h; rw [Nat.zero_add]; exact hL done g a w hw hp h
  | succ f ih =>
    intro done g a w hw hp h
    rw [Nat.add_right_comm]
    refine ⟨fun e => (h.1 e).elim, fun i hi => ?_⟩
    obtain ⟨o, ho, hc⟩ := h.2 i hi
    have hopen := (mem_ready.1 hi).1
    rcases hc with ⟨him, v, hy, hF⟩ | ⟨rfl, haf, hF⟩
    · have hq : qOp P ops (InB w) i (fun a' => a' = a.put o.dst v) a := (hy w hw).qOp ho rfl
      refine wpOp_of_qOp (InB.refl w) (fun a' w' hw' ha => ?_) hq
      subst ha
      have hb := InB.toBelow hw'
      have e2 : (done.setIfInBounds i true).getD m false = done.getD m false := getD_set_ne false (by omega)
      refine ih _ g _ w' (hw.trans (hb.mono hw.size)) (fun h3 => ?_) hF
      rw [e2] at h3
      exact ⟨(hp h3).1, (hp h3).2.below hb⟩
    · unfold wpOp
      simp only [ho, haf.1, if_true]
      refine .inl ?_
      unfold Oper.wp
      rw [haf.2 w]
      have hb : Below w.heap.size w (w.alloc (.cells z1 T1)) := (Below.refl _ _).alloc (Nat.le_refl _) _
      exact ih _ w.heap.size _ _ (hw.trans (hb.mono hw.size)) (fun _ => ⟨hw.size, Box.new w _ _⟩) (hF w.heap.size)

/-- A reading or calling operation that may come up now may be taken first. -/
theorem FA.front {i : Nat} {oi : Oper} {v : Value} (hi : ops[i]? = some oi) (hsel : ∀ (j : Nat) (o : Oper) cs b, ops[j]? = some o → o.op ≠ .select cs b)
    (hs : Region.sinkB md ops (m + 1) = true) (hc : Region.chainB md ops (m + 1) = true) (hn : m + 1 < ops.size) (him : i < m)
    (hL : ∀ done g a, L done g a → ∀ j ∈ Region.ready md ops done, m + 1 ≤ j) (f : Nat) :
    ∀ (done : Array Bool) (g : Nat) (a : Act), HeadInv md ops (m + 1) done →
      (∀ j oj, ops[j]? = some oj → j ≠ i → done.getD j true = false → (∀ e ∈ oj.after, Region.binds md e = true → e.on ≠ i) → oi.apart ops oj = true) →
      i ∈ Region.ready md ops done → YF P ops X oi v a →
      FA P md ops X m z1 T1 pv L f (done.setIfInBounds i true) g (a.put oi.dst v) → FA P md ops X m z1 T1 pv L (f + 1) done g a := by
  induction f with
  | zero =>
    intro done g a inv _ hr hy H
    have hopen := (mem_ready.1 hr).1
    refine ⟨List.ne_nil_of_mem hr, fun j hj => ?_⟩
    have hjn : j < m + 1 := Nat.lt_of_not_le fun h => tail_waits hs hc hn inv _ i rfl (by omega) hopen j h hj
    by_cases e : j = i
    · subst e; exact ⟨oi, hi, .inl ⟨him, v, hy, H⟩⟩
    · exact absurd (hL _ _ _ H j (ready_mono hj e)) (by omega)
  | succ f ih =>
    intro done g a inv hfree hr hy H
    have hopen := (mem_ready.1 hr).1
    refine ⟨List.ne_nil_of_mem hr, fun j hj => ?_⟩
    have hjn : j < m + 1 := Nat.lt_of_not_le fun h => tail_waits hs hc hn inv _ i rfl (by omega) hopen j h hj
    by_cases e : j = i
    · subst e; exact ⟨oi, hi, .inl ⟨him, v, hy, H⟩⟩
    obtain ⟨hjopen, oj, hoj, hwait⟩ := mem_ready.1 hj
    have hno : ∀ x ∈ oj.after, Region.binds md x = true → x.on ≠ i := by
      intro x hx hb hon
      have h1 := hwait x hx hb
      rw [hon, getD_both hopen] at h1
      exact Bool.false_ne_true h1
    have hap := hfree j oj hoj e hjopen hno
    obtain ⟨h1, h2, h3⟩ := Oper.apart_spec hap
    have hfree' : ∀ k ok, ops[k]? = some ok → k ≠ i → (done.setIfInBounds j true).getD k true = false → (∀ e ∈ ok.after, Region.binds md e = true → e.on ≠ i) → oi.apart ops ok = true := by
      intro k ok hk hki hko hkno
      refine hfree k ok hk hki ?_ hkno
      by_cases ejk : j = k
      · subst ejk; exact hjopen
      · rwa [getD_set_ne true ejk] at hko
    obtain ⟨o', ho', hcase⟩ := H.2 j (ready_mono hj e)
    obtain rfl : o' = oj := Option.some.inj (ho'.symm.trans hoj)
    refine ⟨o', hoj, ?_⟩
    rcases hcase with ⟨hjm, u, hyu, hF⟩ | ⟨hjm, haf, hF⟩
    · refine .inl ⟨hjm, u, hyu.unput hap (fun cs b => hsel j o' cs b hoj), ?_⟩
      refine ih _ g _ (inv.set hj hjn) hfree' (ready_mono hr (fun x => e x.symm)) (hy.put hap (fun cs b => hsel i oi cs b hi) u) ?_
      rw [Array.setIfInBounds_comm _ _ e, ← Act.put_comm a v u h2]
      exact hF
    · refine .inr ⟨hjm, haf.unput hap (fun cs b => hsel j o' cs b hoj), fun g' => ?_⟩
      refine ih _ g' _ (inv.set hj hjn) hfree' (ready_mono hr (fun x => e x.symm)) (hy.put hap (fun cs b => hsel i oi cs b hi) _) ?_
      rw [Array.setIfInBounds_comm _ _ e, ← Act.put_comm a v _ h2]
      exact hF g'

theorem FA.lex {k' : Nat} {aF : Act} {o1 : Oper} {d1 : Nat} (hsel : Region.noSelect ops = true) (hs : Region.sinkB md ops (m + 1) = true) (hc : Region.chainB md ops (m + 1) = true) (hn : m + 1 < ops.size)
    (e1 : ops[m]? = some o1) (f1 : o1.dst = some d1)
    (hS : AF P ops z1 T1 pv o1 aF) (l : List Oper) :
    ∀ (k : Nat) (done : Array Bool) (g : Nat) (a : Act), (∀ j, j < l.length → l[j]? = ops[k + j]?) → k + l.length = m → HeadInv md ops (m + 1) done → (∀ j, j < k → done.getD j false = true) → dstOk a.tmps.size l = true →
    Region.lexHead md ops k' (l.length + 1) k done = true → (∀ X', Below X.heap.size X X' → wpQuiet P ops (InB X') (fun a' => a' = aF) l a) →
    FA P md ops X m z1 T1 pv (fun done' g' a' => (Region.seqB md ops k' (m + 1) done' = true ∧ done'.getD m false = true) ∧ a' = aF.put (some d1) (pv g')) (l.length + 1) done g a := by
  induction l with
  | nil =>
    intro k done g a _ hk inv hq _ hB h
    obtain rfl : k = m := by simpa using hk
    have hF : a = aF := h X (Below.refl _ _)
    subst hF
    simp only [List.length_nil, Region.lexHead, Bool.and_eq_true] at hB
    obtain ⟨⟨hr, _⟩, hB'⟩ := hB
    have hr : k ∈ Region.ready md ops done := by simpa using hr
    have hopen := (mem_ready.1 hr).1
    refine ⟨List.ne_nil_of_mem hr, fun j hj => ?_⟩
    have hjn : j < k + 1 := Nat.lt_of_not_le fun h => tail_waits hs hc hn inv _ k rfl (by omega) hopen j h hj
    obtain ⟨hjopen, oj, hoj, hwait⟩ := mem_ready.1 hj
    have hjk : k ≤ j := Nat.le_of_not_lt fun hlt => by
      have := hq j hlt
      rw [getD_both hjopen] at this
      cases this
    obtain rfl : j = k := by omega
    refine ⟨o1, e1, .inr ⟨rfl, hS, fun g' => ?_⟩⟩
    rw [f1]
    exact ⟨⟨hB', getD_set_hereA hopen⟩, rfl⟩
  | cons o l ih =>
    intro k done g a hl hk inv hq hd hB h
    have h0 : ops[k]? = some o := by simpa using (hl 0 (by simp)).symm
    rw [show (o :: l).length + 1 = (l.length + 1) + 1 by simp] at hB ⊢
    generalize l.length + 1 = N at hB ih ⊢
    simp only [Region.lexHead, Bool.and_eq_true] at hB
    obtain ⟨⟨hr, hf⟩, hB'⟩ := hB
    have hr' : k ∈ Region.ready md ops done := by simpa using hr
    have hlen : k + (l.length + 1) = m := by simpa using hk
    simp only [dstOk, Bool.and_eq_true] at hd
    obtain ⟨hd1, hd2⟩ := hd
    obtain ⟨d, hod, hds, hdn⟩ : ∃ d, o.dst = some d ∧ d < a.tmps.size ∧ ∀ o' ∈ l, o'.dst ≠ some d := by
      cases e : o.dst with
      | none => rw [e] at hd1; cases hd1
      | some d =>
        rw [e] at hd1
        simp only [Bool.and_eq_true, decide_eq_true_eq, List.all_eq_true] at hd1
        exact ⟨d, rfl, hd1.1, fun o' ho => by simpa using hd1.2 o' ho⟩
    have hv : ∀ X', Below X.heap.size X X' → YieldsIn P ops (InB X') o (aF.tmps[d]?.getD undef) a ∧ wpQuiet P ops (InB X') (fun a' => a' = aF) l (a.put o.dst (aF.tmps[d]?.getD undef)) := by
      intro X' hX
      obtain ⟨v, hy, hrest⟩ := wpQuiet_head (h X' hX)
      have e := det l _ hrest d hdn
      have e2 : (a.put o.dst v).tmps[d]? = some v := by
        rw [hod]
        show (a.tmps.setIfInBounds d v)[d]? = _
        simp [hds]
      rw [e2] at e
      rw [e]
      exact ⟨hy, hrest⟩
    refine FA.front h0 (Region.noSelect_spec hsel) hs hc hn (by omega) (fun _ _ _ hL => seqB_ready hL.1.1) _ done g a inv (Region.free_spec h0 hf) hr' (fun X' hX => (hv X' hX).1) ?_
    refine ih (k + 1) _ g _ (fun j hj => ?_) (by omega) (inv.set hr' (by omega)) (fun j hj => ?_) ?_ hB' (fun X' hX => (hv X' hX).2)
    · have := hl (j + 1) (by simp; omega)
      simpa [Nat.add_assoc, Nat.add_comm 1 j] using this
    · exact getD_set_self inv.size (by omega) hq hj
    · have : (a.put o.dst (aF.tmps[d]?.getD undef)).tmps.size = a.tmps.size := by
        rw [hod]
        show (a.tmps.setIfInBounds d _).size = _
        simp
      rw [this]
      exact hd2

def floatAB (l : List Oper) (m s d1 : Nat) : Bool :=
  Region.lexTailB .any l.toArray (m + 1) && dstOk s (l.take m) && decide (m + 1 < l.length) && (match l[m]? with | some o1 => decide (o1.dst = some d1) | _ => false)

/-- THE RULE. -/
theorem wp_region_floatA {id : Nat} {Q : Exit → Act → World → Prop} {a : Act} {w : World} {l : List Oper} (m d1 : Nat) (z1 : Array Value) (T1 : TypeId) (pv : Nat → Value) (hm : P.follows .mixedOrders = true) (hB : floatAB l m a.tmps.size d1 = true)
    (hE : ∃ aF, (∀ X', Below w.heap.size w X' → wpQuiet P l.toArray (InB X') (fun a' => a' = aF) (l.take m) a) ∧
      (∃ o, l[m]? = some o ∧ AF P l.toArray z1 T1 pv o aF) ∧
      ∀ (g1 : Nat) (w' : World), Below w.heap.size w w' → Box w' g1 z1 → w.heap.size ≤ g1 →
      wpList P l.toArray Q (l.drop (m + 1)) (aF.put (some d1) (pv g1)) w') : (Code.region id l.toArray true).wp P Q a w := by
  obtain ⟨aF, h, ⟨o1, e1, hS⟩, hL⟩ := hE
  simp only [floatAB, Bool.and_eq_true, decide_eq_true_eq] at hB
  obtain ⟨⟨⟨hT, hd⟩, hlen⟩, hdst⟩ := hB
  simp only [Region.lexTailB, Bool.and_eq_true, decide_eq_true_eq] at hT
  obtain ⟨⟨⟨⟨hsel, hn⟩, hs⟩, hc⟩, hlex⟩ := hT
  have f1 : o1.dst = some d1 := by
    rw [e1] at hdst
    simpa using hdst
  have htl : (l.take m).length = m := by simp; omega
  have inv0 : HeadInv .any l.toArray (m + 1) (Array.replicate l.toArray.size false) :=
    ⟨by simp, fun j _ _ hl => by rw [getD_replicate_false] at hl; exact absurd hl Bool.false_ne_true, fun t _ ht => getD_in (by simpa using ht) (getD_replicate_false _ _)⟩
  have H := FA.lex (P := P) (X := w) (md := .any) (k' := l.toArray.size - (m + 1)) (aF := aF) (o1 := o1) (d1 := d1) hsel hs hc hn (by simpa using e1) f1 hS (l.take m) 0 _ 0 a (fun j hj => by rw [htl] at hj; simp [hj]) (by simpa using htl) inv0 (fun j hj => absurd hj (by omega)) hd (by rw [htl]; exact hlex) h
  refine wp_region_any hm ?_
  have hall := FA.any (Q' := Q) (k := l.toArray.size - (m + 1)) (fun done g a' w' hw' hp hLL => by
    obtain ⟨⟨hsq, hdm⟩, rfl⟩ := hLL
    have p1 := hp hdm
    have hw2 := hL g w' hw' p1.2 p1.1
    have hseq := wpAny_of_seq (md := .any) (Q' := Q) (l.drop (m + 1)) (m + 1) done _ w' (fun j => by simp [List.getElem?_drop]) (by simpa using hsq) hw2
    simpa using hseq) _ _ _ _ { w with drawn := w.drawn + 1 } (Below.refl _ w).drew (fun h3 => by rw [getD_replicate_false] at h3; cases h3) H
  rw [htl, show m + 1 + (l.toArray.size - (m + 1)) = l.toArray.size by simp at hn ⊢; omega] at hall
  exact hall
end
end Go.Proofs.Ytpmeahmjmpgbfaa
