/- The rule of XFloat with two floating blocks, and the store into the first one, which may come up at any time behind both. Made for 'a, b := f(..), x' where what x reads may come up behind the store of a. -/
import Derived.Test.YtpmeahmjmpgbfaaFloat1s
namespace Go.Proofs.Ytpmeahmjmpgbfaa
open Go Go.RowKit

section
variable {P : Program} {ops : Array Oper} {md : Region.Mode} {X : World} {m : Nat} {z1 z2 y : Array Value} {st : Nat → World → World} {L : Array Bool → Nat → Nat → Act → Prop}

def FT (P : Program) (md : Region.Mode) (ops : Array Oper) (X : World) (m : Nat) (z1 : Array Value) (st : Nat → World → World) (L : Array Bool → Nat → Nat → Act → Prop) : Nat → Array Bool → Nat → Nat → Act → Prop
  | 0, done, g, h, a => L done g h a
  | f + 1, done, g, h, a => Region.ready md ops done ≠ [] ∧ ∀ i ∈ Region.ready md ops done, ∃ o, ops[i]? = some o ∧
      ((i < m ∧ ∃ v, YF P ops X o v a ∧ FT P md ops X m z1 st L f (done.setIfInBounds i true) g h (a.put o.dst v)) ∨
       (i = m ∧ ∀ g', FT P md ops X m z1 st L f (done.setIfInBounds i true) g' h (a.put o.dst (ptrV g'))) ∨
       (i = m + 1 ∧ ∀ h', FT P md ops X m z1 st L f (done.setIfInBounds i true) g h' (a.put o.dst (ptrV h'))) ∨
       (i = m + 2 ∧ (done.getD m false = true ∧ done.getD (m + 1) false = true) ∧ SF P ops z1 st o g a ∧ FT P md ops X m z1 st L f (done.setIfInBounds i true) g h a))

/-- The blocks that have been laid. -/
def PT (X : World) (m : Nat) (z1 z2 y : Array Value) (done : Array Bool) (g h : Nat) (w : World) : Prop :=
  (done.getD m false = true → X.heap.size ≤ g ∧ Box w g (if done.getD (m + 2) false = true then z2 else z1)) ∧
  (done.getD (m + 1) false = true → X.heap.size ≤ h ∧ Box w h y) ∧
  (done.getD m false = true → done.getD (m + 1) false = true → g ≠ h)

theorem FT.any {T1 T2 : TypeId} {k : Nat} {Q' : Exit → Act → World → Prop}
    (hA : ∀ o, ops[m]? = some o → ∀ (a : Act) (w : World) (K : Act → World → Prop), K (a.put o.dst (ptrV w.heap.size)) (w.alloc (.cells z1 T1)) → wpOp P ops Q' m K a w)
    (hA2 : ∀ o, ops[m + 1]? = some o → ∀ (a : Act) (w : World) (K : Act → World → Prop), K (a.put o.dst (ptrV w.heap.size)) (w.alloc (.cells y T2)) → wpOp P ops Q' (m + 1) K a w)
    (hst : ∀ g w, Box w g z1 → Box (st g w) g z2 ∧ (∀ X : World, Below X.heap.size X w → X.heap.size ≤ g → Below X.heap.size X (st g w)) ∧ ∀ h c, h ≠ g → Box w h c → Box (st g w) h c)
    (hL : ∀ done g h a w, Below X.heap.size X w → PT X m z1 z2 y done g h w → L done g h a → wpAny P md ops Q' k done a w) (f : Nat) :
    ∀ (done : Array Bool) (g h : Nat) (a : Act) (w : World), (done.getD (m + 2) false = true → done.getD m false = true ∧ done.getD (m + 1) false = true) → Below X.heap.size X w → PT X m z1 z2 y done g h w → FT P md ops X m z1 st L f done g h a → wpAny P md ops Q' (f + k) done a w := by
  induction f with
  | zero => intro done g h a w _ hw hp H; rw [Nat.zero_add]; exact hL done g h a w hw hp H
  | succ f ih =>
    intro done g h a w hinv hw hp H
    rw [Nat.add_right_comm]
    refine ⟨fun e => (H.1 e).elim, fun i hi => ?_⟩
    obtain ⟨o, ho, hc⟩ := H.2 i hi
    have hopen := (mem_ready.1 hi).1
    rcases hc with ⟨him, v, hy, hF⟩ | ⟨rfl, hF⟩ | ⟨rfl, hF⟩ | ⟨rfl, ⟨hdm, hdm1⟩, hsf, hF⟩
    · have hq : qOp P ops (InB w) i (fun a' => a' = a.put o.dst v) a := (hy w hw).qOp ho rfl
      refine wpOp_of_qOp (InB.refl w) (fun a' w' hw' ha => ?_) hq
      subst ha
      have hb := InB.toBelow hw'
      have e1 : (done.setIfInBounds i true).getD (m + 1) false = done.getD (m + 1) false := getD_set_ne false (by omega)
      have e2 : (done.setIfInBounds i true).getD m false = done.getD m false := getD_set_ne false (by omega)
      have e3 : (done.setIfInBounds i true).getD (m + 2) false = done.getD (m + 2) false := getD_set_ne false (by omega)
      refine ih _ g h _ w' (by rw [e1, e2, e3]; exact hinv) (hw.trans (hb.mono hw.size)) ?_ hF
      unfold PT
      rw [e1, e2, e3]
      exact ⟨fun h3 => ⟨(hp.1 h3).1, (hp.1 h3).2.below hb⟩, fun h3 => ⟨(hp.2.1 h3).1, (hp.2.1 h3).2.below hb⟩, hp.2.2⟩
    · refine hA o ho a w _ ?_
      have hb : Below w.heap.size w (w.alloc (.cells z1 T1)) := (Below.refl _ _).alloc (Nat.le_refl _) _
      have e1 : (done.setIfInBounds i true).getD (i + 1) false = done.getD (i + 1) false := getD_set_ne false (by omega)
      have e3 : (done.setIfInBounds i true).getD (i + 2) false = done.getD (i + 2) false := getD_set_ne false (by omega)
      have e4 : ¬ done.getD (i + 2) false = true := fun e => by rw [getD_both hopen] at hinv; exact absurd (hinv e).1 Bool.false_ne_true
      refine ih _ w.heap.size h _ _ (fun x => absurd (e3 ▸ x) e4) (hw.trans (hb.mono hw.size)) ?_ (hF w.heap.size)
      unfold PT
      rw [e1, e3, if_neg e4]
      refine ⟨fun _ => ⟨hw.size, Box.new w _ _⟩, fun h3 => ⟨(hp.2.1 h3).1, (hp.2.1 h3).2.below hb⟩, fun _ h3 e => ?_⟩
      have := (hp.2.1 h3).2.1
      omega
    · refine hA2 o ho a w _ ?_
      have hb : Below w.heap.size w (w.alloc (.cells y T2)) := (Below.refl _ _).alloc (Nat.le_refl _) _
      have e2 : (done.setIfInBounds (m + 1) true).getD m false = done.getD m false := getD_set_ne false (by omega)
      have e3 : (done.setIfInBounds (m + 1) true).getD (m + 2) false = done.getD (m + 2) false := getD_set_ne false (by omega)
      have e4 : ¬ done.getD (m + 2) false = true := fun e => by rw [getD_both hopen] at hinv; exact absurd (hinv e).2 Bool.false_ne_true
      refine ih _ g w.heap.size _ _ (fun x => absurd (e3 ▸ x) e4) (hw.trans (hb.mono hw.size)) ?_ (hF w.heap.size)
      unfold PT
      rw [e2, e3]
      refine ⟨fun h3 => ⟨(hp.1 h3).1, (hp.1 h3).2.below hb⟩, fun _ => ⟨hw.size, Box.new w _ _⟩, fun h3 _ e => ?_⟩
      have := (hp.1 h3).2.1
      omega
    · have hz := (hp.1 hdm).2
      rw [if_neg (by rw [getD_both hopen]; exact Bool.false_ne_true)] at hz
      unfold wpOp
      simp only [ho, hsf.1, if_true]
      refine .inl ?_
      unfold Oper.wp
      rw [hsf.2.2 w hz, Oper.upon_skip, hsf.2.1]
      have e1 : (done.setIfInBounds (m + 2) true).getD (m + 1) false = done.getD (m + 1) false := getD_set_ne false (by omega)
      have e2 : (done.setIfInBounds (m + 2) true).getD m false = done.getD m false := getD_set_ne false (by omega)
      have hne := hp.2.2 hdm hdm1
      refine ih _ g h a (st g w) (fun _ => by rw [e1, e2]; exact ⟨hdm, hdm1⟩) ((hst g w hz).2.1 X hw (hp.1 hdm).1) ?_ hF
      unfold PT
      rw [e1, e2, if_pos (getD_set_here hopen)]
      exact ⟨fun _ => ⟨(hp.1 hdm).1, (hst g w hz).1⟩, fun h3 => ⟨(hp.2.1 h3).1, (hst g w hz).2.2 h y (Ne.symm hne) (hp.2.1 h3).2⟩, hp.2.2⟩

/-- A reading or calling operation that may come up now may be taken first. -/
theorem FT.front {i : Nat} {oi : Oper} {v : Value} (hi : ops[i]? = some oi) (hsel : ∀ (j : Nat) (o : Oper) cs b, ops[j]? = some o → o.op ≠ .select cs b)
    (hs : Region.sinkB md ops (m + 3) = true) (hc : Region.chainB md ops (m + 3) = true) (hn : m + 3 < ops.size) (him : i < m)
    (hL : ∀ done g h a, L done g h a → ∀ j ∈ Region.ready md ops done, m + 3 ≤ j) (f : Nat) :
    ∀ (done : Array Bool) (g gg : Nat) (a : Act), HeadInv md ops (m + 3) done →
      (∀ j oj, ops[j]? = some oj → j ≠ i → done.getD j true = false → (∀ e ∈ oj.after, Region.binds md e = true → e.on ≠ i) → oi.apart ops oj = true) →
      i ∈ Region.ready md ops done → YF P ops X oi v a →
      FT P md ops X m z1 st L f (done.setIfInBounds i true) g gg (a.put oi.dst v) → FT P md ops X m z1 st L (f + 1) done g gg a := by
  induction f with
  | zero =>
    intro done g gg a inv _ hr hy H
    have hopen := (mem_ready.1 hr).1
    refine ⟨List.ne_nil_of_mem hr, fun j hj => ?_⟩
    have hjn : j < m + 3 := Nat.lt_of_not_le fun h => tail_waits hs hc hn inv _ i rfl (by omega) hopen j h hj
    by_cases e : j = i
    · subst e; exact ⟨oi, hi, .inl ⟨him, v, hy, H⟩⟩
    · exact absurd (hL _ _ _ _ H j (ready_mono hj e)) (by omega)
  | succ f ih =>
    intro done g gg a inv hfree hr hy H
    have hopen := (mem_ready.1 hr).1
    refine ⟨List.ne_nil_of_mem hr, fun j hj => ?_⟩
    have hjn : j < m + 3 := Nat.lt_of_not_le fun h => tail_waits hs hc hn inv _ i rfl (by omega) hopen j h hj
    by_cases e : j = i
    · subst e; exact ⟨oi, hi, .inl ⟨him, v, hy, H⟩⟩
    obtain ⟨hjopen, oj, hoj, hwait⟩ := mem_ready.1 hj
    have hno : ∀ x ∈ oj.after, Region.binds md x = true → x.on ≠ i := by
      intro x hx hb hon
      have h1 := hwait x hx hb
      rw [hon, getD_both hopen] at h1
      exact Bool.false_ne_true h1
    have hap := hfree j oj hoj e hjopen hno
    obtain ⟨h1, h2, h3⟩ := Oper.apart_spec hap
    have hfree' : ∀ k ok, ops[k]? = some ok → k ≠ i → (done.setIfInBounds j true).getD k true = false → (∀ e ∈ ok.after, Region.binds md e = true → e.on ≠ i) → oi.apart ops ok = true := by
      intro k ok hk hki hko hkno
      refine hfree k ok hk hki ?_ hkno
      by_cases ejk : j = k
      · subst ejk; exact hjopen
      · rwa [getD_set_ne true ejk] at hko
    obtain ⟨o', ho', hcase⟩ := H.2 j (ready_mono hj e)
    obtain rfl : o' = oj := Option.some.inj (ho'.symm.trans hoj)
    refine ⟨o', hoj, ?_⟩
    rcases hcase with ⟨hjm, u, hyu, hF⟩ | ⟨hjm, hF⟩ | ⟨hjm, hF⟩ | ⟨hjm, ⟨hdm, hdm1⟩, hsf, hF⟩
    · refine .inl ⟨hjm, u, hyu.unput hap (fun cs b => hsel j o' cs b hoj), ?_⟩
      refine ih _ g gg _ (inv.set hj hjn) hfree' (ready_mono hr (fun x => e x.symm)) (hy.put hap (fun cs b => hsel i oi cs b hi) u) ?_
      rw [Array.setIfInBounds_comm _ _ e, ← Act.put_comm a v u h2]
      exact hF
    · refine .inr (.inl ⟨hjm, fun g' => ?_⟩)
      refine ih _ g' gg _ (inv.set hj hjn) hfree' (ready_mono hr (fun x => e x.symm)) (hy.put hap (fun cs b => hsel i oi cs b hi) _) ?_
      rw [Array.setIfInBounds_comm _ _ e, ← Act.put_comm a v _ h2]
      exact hF g'
    · refine .inr (.inr (.inl ⟨hjm, fun g' => ?_⟩))
      refine ih _ g g' _ (inv.set hj hjn) hfree' (ready_mono hr (fun x => e x.symm)) (hy.put hap (fun cs b => hsel i oi cs b hi) _) ?_
      rw [Array.setIfInBounds_comm _ _ e, ← Act.put_comm a v _ h2]
      exact hF g'
    · refine .inr (.inr (.inr ⟨hjm, ⟨by rwa [getD_set_ne false (by omega)] at hdm, by rwa [getD_set_ne false (by omega)] at hdm1⟩, hsf.unput hap (fun cs b => hsel j o' cs b hoj), ?_⟩))
      refine ih _ g gg a (inv.set hj hjn) hfree' (ready_mono hr (fun x => e x.symm)) hy ?_
      rw [Array.setIfInBounds_comm _ _ e]
      exact hF

theorem FT.lex {k' : Nat} {aF : Act} {o1 o2 o3 : Oper} {d1 d2 : Nat} (hsel : Region.noSelect ops = true) (hs : Region.sinkB md ops (m + 3) = true) (hc : Region.chainB md ops (m + 3) = true) (hn : m + 3 < ops.size)
    (e1 : ops[m]? = some o1) (f1 : o1.dst = some d1) (e2 : ops[m + 1]? = some o2) (f2 : o2.dst = some d2) (e3 : ops[m + 2]? = some o3) (hdep : Region.waitsFor md ops (m + 2) m = true) (hdep2 : Region.waitsFor md ops (m + 2) (m + 1) = true)
    (hS : ∀ g h, SF P ops z1 st o3 g ((aF.put (some d1) (ptrV g)).put (some d2) (ptrV h))) (l : List Oper) :
    ∀ (k : Nat) (done : Array Bool) (g gg : Nat) (a : Act), (∀ j, j < l.length → l[j]? = ops[k + j]?) → k + l.length = m → HeadInv md ops (m + 3) done → (∀ j, j < k → done.getD j false = true) → dstOk a.tmps.size l = true →
    Region.lexHead md ops k' (l.length + 3) k done = true → (∀ X', Below X.heap.size X X' → wpQuiet P ops (InB X') (fun a' => a' = aF) l a) →
    FT P md ops X m z1 st (fun done' g' h' a' => (Region.seqB md ops k' (m + 3) done' = true ∧ done'.getD m false = true ∧ done'.getD (m + 1) false = true ∧ done'.getD (m + 2) false = true) ∧ a' = (aF.put (some d1) (ptrV g')).put (some d2) (ptrV h')) (l.length + 3) done g gg a := by
  induction l with
  | nil =>
    intro k done g gg a _ hk inv hq _ hB h
    obtain rfl : k = m := by simpa using hk
    have hF : a = aF := h X (Below.refl _ _)
    subst hF
    simp only [List.length_nil, Region.lexHead, Bool.and_eq_true] at hB
    obtain ⟨⟨hr, hfr⟩, ⟨hr2, _⟩, ⟨hr3, _⟩, hB'⟩ := hB
    have hr : k ∈ Region.ready md ops done := by simpa using hr
    have hr2 : k + 1 ∈ Region.ready md ops (done.setIfInBounds k true) := by simpa using hr2
    have hr3 : k + 2 ∈ Region.ready md ops ((done.setIfInBounds k true).setIfInBounds (k + 1) true) := by simpa using hr3
    have hopen := (mem_ready.1 hr).1
    have hopen2' := (mem_ready.1 hr2).1
    have hopen2 : done.getD (k + 1) true = false := by rwa [getD_set_ne true (by omega)] at hopen2'
    have hopen3' := (mem_ready.1 hr3).1
    have inv2 := inv.set hr (by omega)
    have inv3 := inv2.set hr2 (by omega)
    have hwt : ∀ (dn : Array Bool) (t : Nat), Region.waitsFor md ops (k + 2) t = true → dn.getD t true = false → k + 2 ∉ Region.ready md ops dn := by
      intro dn t hd ho hmem
      obtain ⟨_, oj, hoj, hwait⟩ := mem_ready.1 hmem
      obtain ⟨ox, hox, e, he, hb, hon⟩ := Region.waitsFor_spec hd
      obtain rfl : ox = oj := Option.some.inj (hox.symm.trans hoj)
      have := hwait e he hb
      rw [hon, getD_both ho] at this
      cases this
    have hlow : ∀ (dn : Array Bool) (j : Nat), (∀ i, i < k → dn.getD i false = true) → j ∈ Region.ready md ops dn → k ≤ j := by
      intro dn j hdn hj
      refine Nat.le_of_not_lt fun hlt => ?_
      have h1 := hdn j hlt
      rw [getD_both (mem_ready.1 hj).1] at h1
      cases h1
    have hdone : ∀ (dn : Array Bool) (j : Nat), dn.getD j false = true → j ∉ Region.ready md ops dn := by
      intro dn j h1 hj
      rw [getD_both (mem_ready.1 hj).1] at h1
      cases h1
    -- the store, when both blocks are there
    have last : ∀ g' h', FT P md ops X k z1 st (fun done' g' h' a' => (Region.seqB md ops k' (k + 3) done' = true ∧ done'.getD k false = true ∧ done'.getD (k + 1) false = true ∧ done'.getD (k + 2) false = true) ∧ a' = (a.put (some d1) (ptrV g')).put (some d2) (ptrV h')) 1 ((done.setIfInBounds k true).setIfInBounds (k + 1) true) g' h' ((a.put (some d1) (ptrV g')).put (some d2) (ptrV h')) := by
      intro g' h'
      have d0 : ((done.setIfInBounds k true).setIfInBounds (k + 1) true).getD k false = true := by rw [getD_set_ne false (by omega)]; exact getD_set_here hopen
      have d1' : ((done.setIfInBounds k true).setIfInBounds (k + 1) true).getD (k + 1) false = true := getD_set_here hopen2'
      refine ⟨List.ne_nil_of_mem hr3, fun i hi => ?_⟩
      have hin : i < k + 3 := Nat.lt_of_not_le fun h => tail_waits hs hc hn inv3 _ (k + 2) rfl (by omega) hopen3' i h hi
      have h1 := hlow _ i (fun j hj => by rw [getD_set_ne false (by omega), getD_set_ne false (by omega)]; exact hq j hj) hi
      have h2 : i ≠ k := fun e => by subst e; exact hdone _ _ d0 hi
      have h3 : i ≠ k + 1 := fun e => by subst e; exact hdone _ _ d1' hi
      obtain rfl : i = k + 2 := by omega
      refine ⟨o3, e3, .inr (.inr (.inr ⟨rfl, ⟨d0, d1'⟩, hS g' h', ?_⟩))⟩
      refine ⟨⟨hB', ?_, ?_, getD_set_here hopen3'⟩, rfl⟩
      · rw [getD_set_ne false (by omega)]; exact d0
      · rw [getD_set_ne false (by omega)]; exact d1'
    refine ⟨List.ne_nil_of_mem hr, fun j hj => ?_⟩
    have hjn : j < k + 3 := Nat.lt_of_not_le fun h => tail_waits hs hc hn inv _ k rfl (by omega) hopen j h hj
    have hjk := hlow _ j hq hj
    have hj2 : j ≠ k + 2 := fun e => by subst e; exact hwt _ k hdep hopen hj
    rcases (show j = k ∨ j = k + 1 by omega) with rfl | rfl
    · refine ⟨o1, e1, .inr (.inl ⟨rfl, fun g' => ?_⟩)⟩
      rw [f1]
      refine ⟨List.ne_nil_of_mem hr2, fun i hi => ?_⟩
      have hin : i < j + 3 := Nat.lt_of_not_le fun h => tail_waits hs hc hn inv2 _ (j + 1) rfl (by omega) hopen2' i h hi
      have h1 := hlow _ i (fun x hx => by rw [getD_set_ne false (by omega)]; exact hq x hx) hi
      have h2 : i ≠ j := fun e => by subst e; exact hdone _ _ (getD_set_here hopen) hi
      have h3 : i ≠ j + 2 := fun e => by subst e; exact hwt _ (j + 1) hdep2 hopen2' hi
      obtain rfl : i = j + 1 := by omega
      refine ⟨o2, e2, .inr (.inr (.inl ⟨rfl, fun h' => ?_⟩))⟩
      rw [f2]
      exact last g' h'
    · have hrk : k ∈ Region.ready md ops (done.setIfInBounds (k + 1) true) := ready_mono hr (by omega)
      have inv2b := inv.set hj (by omega)
      have hap := Region.free_spec e1 hfr (k + 1) o2 e2 (by omega) hopen2 (fun e he hb hon => by
        have := (mem_ready.1 hj).2
        obtain ⟨ox, hox, hw⟩ := this
        obtain rfl : ox = o2 := Option.some.inj (hox.symm.trans e2)
        have := hw e he hb
        rw [hon, getD_both hopen] at this
        cases this)
      obtain ⟨_, hpc, _⟩ := Oper.apart_spec hap
      rw [f1, f2] at hpc
      refine ⟨o2, e2, .inr (.inr (.inl ⟨rfl, fun h' => ?_⟩))⟩
      rw [f2]
      refine ⟨List.ne_nil_of_mem hrk, fun i hi => ?_⟩
      have hopenk : (done.setIfInBounds (k + 1) true).getD k true = false := by rw [getD_set_ne true (by omega)]; exact hopen
      have hin : i < k + 3 := Nat.lt_of_not_le fun h => tail_waits hs hc hn inv2b _ k rfl (by omega) hopenk i h hi
      have h1 := hlow _ i (fun x hx => by rw [getD_set_ne false (by omega)]; exact hq x hx) hi
      have h2 : i ≠ k + 1 := fun e => by subst e; exact hdone _ _ (getD_set_here hopen2) hi
      have h3 : i ≠ k + 2 := fun e => by subst e; exact hwt _ k hdep hopenk hi
      obtain rfl : i = k := by omega
      refine ⟨o1, e1, .inr (.inl ⟨rfl, fun g' => ?_⟩)⟩
      rw [f1, ← Act.put_comm a (ptrV g') (ptrV h') hpc, Array.setIfInBounds_comm _ _ (by omega)]
      exact last g' h'
  | cons o l ih =>
    intro k done g gg a hl hk inv hq hd hB h
    have h0 : ops[k]? = some o := by simpa using (hl 0 (by simp)).symm
    rw [show (o :: l).length + 3 = (l.length + 3) + 1 by simp] at hB ⊢
    generalize l.length + 3 = N at hB ih ⊢
    simp only [Region.lexHead, Bool.and_eq_true] at hB
    obtain ⟨⟨hr, hf⟩, hB'⟩ := hB
    have hr' : k ∈ Region.ready md ops done := by simpa using hr
    have hlen : k + (l.length + 1) = m := by simpa using hk
    simp only [dstOk, Bool.and_eq_true] at hd
    obtain ⟨hd1, hd2⟩ := hd
    obtain ⟨d, hod, hds, hdn⟩ : ∃ d, o.dst = some d ∧ d < a.tmps.size ∧ ∀ o' ∈ l, o'.dst ≠ some d := by
      cases e : o.dst with
      | none => rw [e] at hd1; cases hd1
      | some d =>
        rw [e] at hd1
        simp only [Bool.and_eq_true, decide_eq_true_eq, List.all_eq_true] at hd1
        exact ⟨d, rfl, hd1.1, fun o' ho => by simpa using hd1.2 o' ho⟩
    have hv : ∀ X', Below X.heap.size X X' → YieldsIn P ops (InB X') o (aF.tmps[d]?.getD undef) a ∧ wpQuiet P ops (InB X') (fun a' => a' = aF) l (a.put o.dst (aF.tmps[d]?.getD undef)) := by
      intro X' hX
      obtain ⟨v, hy, hrest⟩ := wpQuiet_head (h X' hX)
      have e := det l _ hrest d hdn
      have e2 : (a.put o.dst v).tmps[d]? = some v := by
        rw [hod]
        show (a.tmps.setIfInBounds d v)[d]? = _
        simp [hds]
      rw [e2] at e
      rw [e]
      exact ⟨hy, hrest⟩
    refine FT.front h0 (Region.noSelect_spec hsel) hs hc hn (by omega) (fun _ _ _ _ hL => seqB_ready hL.1.1) _ done g gg a inv (Region.free_spec h0 hf) hr' (fun X' hX => (hv X' hX).1) ?_
    refine ih (k + 1) _ g gg _ (fun j hj => ?_) (by omega) (inv.set hr' (by omega)) (fun j hj => ?_) ?_ hB' (fun X' hX => (hv X' hX).2)
    · have := hl (j + 1) (by simp; omega)
      simpa [Nat.add_assoc, Nat.add_comm 1 j] using this
    · exact getD_set_self inv.size (by omega) hq hj
    · have : (a.put o.dst (aF.tmps[d]?.getD undef)).tmps.size = a.tmps.size := by
        rw [hod]
        show (a.tmps.setIfInBounds d _).size = _
        simp
      rw [this]
      exact hd2

/-- Two blocks, operations m and m + 1, and the store into the first one, operation m + 2. -/
def floatB2s (l : List Oper) (m s d1 d2 : Nat) : Bool :=
  Region.lexTailB .any l.toArray (m + 3) && dstOk s (l.take m) && decide (m + 3 < l.length) && Region.waitsFor .any l.toArray (m + 2) m && Region.waitsFor .any l.toArray (m + 2) (m + 1) && (match l[m]?, l[m + 1]? with | some o1, some o2 => decide (o1.dst = some d1) && decide (o2.dst = some d2) | _, _ => false)

/-- THE RULE. -/
theorem wp_region_float2s {id : Nat} {Q : Exit → Act → World → Prop} {a : Act} {w : World} {l : List Oper} (m d1 d2 : Nat) (z1 z2 y : Array Value) (T1 T2 : TypeId) (st : Nat → World → World) (hm : P.follows .mixedOrders = true) (hB : floatB2s l m a.tmps.size d1 d2 = true)
    (hA1 : ∀ (a : Act) (w : World) (K : Act → World → Prop), K (a.put (some d1) (ptrV w.heap.size)) (w.alloc (.cells z1 T1)) → wpOp P l.toArray Q m K a w)
    (hA2 : ∀ (a : Act) (w : World) (K : Act → World → Prop), K (a.put (some d2) (ptrV w.heap.size)) (w.alloc (.cells y T2)) → wpOp P l.toArray Q (m + 1) K a w)
    (hst : ∀ g w, Box w g z1 → Box (st g w) g z2 ∧ (∀ X : World, Below X.heap.size X w → X.heap.size ≤ g → Below X.heap.size X (st g w)) ∧ ∀ h c, h ≠ g → Box w h c → Box (st g w) h c)
    (hE : ∃ aF, (∀ X', Below w.heap.size w X' → wpQuiet P l.toArray (InB X') (fun a' => a' = aF) (l.take m) a) ∧
      (∀ g h, ∃ o, l[m + 2]? = some o ∧ SF P l.toArray z1 st o g ((aF.put (some d1) (ptrV g)).put (some d2) (ptrV h))) ∧
      ∀ (g1 g2 : Nat) (w' : World), Below w.heap.size w w' → Box w' g1 z2 → Box w' g2 y → g1 ≠ g2 → w.heap.size ≤ g1 → w.heap.size ≤ g2 →
      wpList P l.toArray Q (l.drop (m + 3)) ((aF.put (some d1) (ptrV g1)).put (some d2) (ptrV g2)) w') : (Code.region id l.toArray true).wp P Q a w := by
  obtain ⟨aF, h, hS, hL⟩ := hE
  simp only [floatB2s, Bool.and_eq_true, decide_eq_true_eq] at hB
  obtain ⟨⟨⟨⟨⟨hT, hd⟩, hlen⟩, hdep⟩, hdep2⟩, hdst⟩ := hB
  simp only [Region.lexTailB, Bool.and_eq_true, decide_eq_true_eq] at hT
  obtain ⟨⟨⟨⟨hsel, hn⟩, hs⟩, hc⟩, hlex⟩ := hT
  obtain ⟨o1, o2, e1, e2, f1, f2⟩ : ∃ o1 o2, l[m]? = some o1 ∧ l[m + 1]? = some o2 ∧ o1.dst = some d1 ∧ o2.dst = some d2 := by
    revert hdst
    cases h1 : l[m]? with
    | none => simp
    | some o1 =>
      cases h2 : l[m + 1]? with
      | none => simp
      | some o2 => simp only [Bool.and_eq_true, decide_eq_true_eq]; exact fun hh => ⟨o1, o2, rfl, rfl, hh.1, hh.2⟩
  obtain ⟨o3, e3, _⟩ := hS 0 0
  have hS' : ∀ g h, SF P l.toArray z1 st o3 g ((aF.put (some d1) (ptrV g)).put (some d2) (ptrV h)) := fun g h => by
    obtain ⟨o, ho, hh⟩ := hS g h
    obtain rfl : o = o3 := Option.some.inj (ho.symm.trans e3)
    exact hh
  have htl : (l.take m).length = m := by simp; omega
  have inv0 : HeadInv .any l.toArray (m + 3) (Array.replicate l.toArray.size false) :=
    ⟨by simp, fun j _ _ hl => by rw [getD_replicate_false] at hl; exact absurd hl Bool.false_ne_true, fun t _ ht => getD_in (by simpa using ht) (getD_replicate_false _ _)⟩
  have hA : ∀ o, l.toArray[m]? = some o → ∀ (a : Act) (w : World) (K : Act → World → Prop), K (a.put o.dst (ptrV w.heap.size)) (w.alloc (.cells z1 T1)) → wpOp P l.toArray Q m K a w := by
    intro o ho a w K hK
    have : o = o1 := by simpa [e1] using ho.symm
    subst this
    rw [f1] at hK
    exact hA1 a w K hK
  have hA' : ∀ o, l.toArray[m + 1]? = some o → ∀ (a : Act) (w : World) (K : Act → World → Prop), K (a.put o.dst (ptrV w.heap.size)) (w.alloc (.cells y T2)) → wpOp P l.toArray Q (m + 1) K a w := by
    intro o ho a w K hK
    have : o = o2 := by simpa [e2] using ho.symm
    subst this
    rw [f2] at hK
    exact hA2 a w K hK
  have H := FT.lex (P := P) (X := w) (md := .any) (k' := l.toArray.size - (m + 3)) (aF := aF) (o1 := o1) (o2 := o2) (o3 := o3) (d1 := d1) (d2 := d2) hsel hs hc hn (by simpa using e1) f1 (by simpa using e2) f2 (by simpa using e3) hdep hdep2 hS' (l.take m) 0 _ 0 0 a (fun j hj => by rw [htl] at hj; simp [hj]) (by simpa using htl) inv0 (fun j hj => absurd hj (by omega)) hd (by rw [htl]; exact hlex) h
  refine wp_region_any hm ?_
  have hall := FT.any (Q' := Q) (T1 := T1) (T2 := T2) (z2 := z2) (y := y) (k := l.toArray.size - (m + 3)) hA hA' hst (fun done g h a' w' hw' hp hLL => by
    obtain ⟨⟨hsq, hdm, hdm1, hdm2⟩, rfl⟩ := hLL
    have p1 := hp.1 hdm
    have p2 := hp.2.1 hdm1
    rw [if_pos hdm2] at p1
    have hw2 := hL g h w' hw' p1.2 p2.2 (hp.2.2 hdm hdm1) p1.1 p2.1
    have hseq := wpAny_of_seq (md := .any) (Q' := Q) (l.drop (m + 3)) (m + 3) done _ w' (fun j => by simp [List.getElem?_drop]) (by simpa using hsq) hw2
    simpa using hseq) _ _ _ _ _ { w with drawn := w.drawn + 1 } (fun h3 => by rw [getD_replicate_false] at h3; cases h3) (Below.refl _ w).drew ⟨fun h3 => (by rw [getD_replicate_false] at h3; cases h3), fun h3 => (by rw [getD_replicate_false] at h3; cases h3), fun h3 => (by rw [getD_replicate_false] at h3; cases h3)⟩ H
  rw [htl, show m + 3 + (l.toArray.size - (m + 3)) = l.toArray.size by simp at hn ⊢; omega] at hall
  exact hall
end
end Go.Proofs.Ytpmeahmjmpgbfaa
