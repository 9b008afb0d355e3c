/- The rule of XFloat with one floating block. -/
import Derived.Test.YtpmeahmjmpgbfaaFloat
namespace Go.Proofs.Ytpmeahmjmpgbfaa
open Go Go.RowKit
section
variable {P : Program} {ops : Array Oper} {md : Region.Mode} {X : World} {m n : Nat} {z : Nat → Array Value} {L : Array Bool → (Nat → Nat) → Act → Prop}

/-- One block, operation m. -/
def floatB1 (l : List Oper) (m s d1 : Nat) : Bool :=
  Region.lexTailB .any l.toArray (m + 1) && dstOk s (l.take m) && decide (m + 1 < l.length) && (match l[m]? with | some o1 => decide (o1.dst = some d1) | _ => false)

/-- THE RULE with one block. -/
theorem wp_region_float1 {id : Nat} {Q : Exit → Act → World → Prop} {a : Act} {w : World} {l : List Oper} (m d1 : Nat) (z1 : Array Value) (T1 : TypeId) (hm : P.follows .mixedOrders = true) (hB : floatB1 l m a.tmps.size d1 = true)
    (hA1 : ∀ (a : Act) (w : World) (K : Act → World → Prop), K (a.put (some d1) (ptrV w.heap.size)) (w.alloc (.cells z1 T1)) → wpOp P l.toArray Q m K a w)
    (hE : ∃ aF, (∀ X', Below w.heap.size w X' → wpQuiet P l.toArray (InB X') (fun a' => a' = aF) (l.take m) a) ∧
      ∀ (g1 : Nat) (w' : World), Below w.heap.size w w' → Box w' g1 z1 → w.heap.size ≤ g1 →
      wpList P l.toArray Q (l.drop (m + 1)) (aF.put (some d1) (ptrV g1)) w') : (Code.region id l.toArray true).wp P Q a w := by
  obtain ⟨aF, h, hL⟩ := hE
  simp only [floatB1, Bool.and_eq_true, decide_eq_true_eq] at hB
  obtain ⟨⟨⟨hT, hd⟩, hlen⟩, hdst⟩ := hB
  simp only [Region.lexTailB, Bool.and_eq_true, decide_eq_true_eq] at hT
  obtain ⟨⟨⟨⟨hsel, hn⟩, hs⟩, hc⟩, hlex⟩ := hT
  obtain ⟨o1, e1, f1⟩ : ∃ o1, l[m]? = some o1 ∧ o1.dst = some d1 := by
    revert hdst
    cases h1 : l[m]? with
    | none => simp
    | some o1 => simp only [decide_eq_true_eq]; exact fun hh => ⟨o1, rfl, hh⟩
  have htl : (l.take m).length = m := by simp; omega
  have inv0 : HeadInv .any l.toArray (m + 1) (Array.replicate l.toArray.size false) :=
    ⟨by simp, fun j _ _ hl => by rw [getD_replicate_false] at hl; exact absurd hl Bool.false_ne_true, fun t _ ht => getD_in (by simpa using ht) (getD_replicate_false _ _)⟩
  have hA : ∀ i o, m ≤ i → i < m + 1 → l.toArray[i]? = some o → ∀ (a : Act) (w : World) (K : Act → World → Prop), K (a.put o.dst (ptrV w.heap.size)) (w.alloc (.cells ((fun _ => z1) i) ((fun _ => T1) i))) → wpOp P l.toArray Q i K a w := by
    intro i o h1 h2 ho a w K hK
    obtain rfl : i = m := by omega
    have : o = o1 := by simpa [e1] using ho.symm
    subst this
    rw [f1] at hK
    exact hA1 a w K hK
  have H := FQ.lexQ (P := P) (X := w) (md := .any) (m := m) (n := m + 1) (g := l.toArray.size - (m + 1)) (Lq := fun gf a' => a' = aF.put (some d1) (ptrV (gf m))) (aF := aF) (la := [o1]) hsel hs hc hn rfl
    (fun j hj => by
      match j, hj with
      | 0, _ => simp [e1])
    (by intro g1; unfold WA; rw [f1]; simp [upd]) (l.take m) 0 _ a (fun j hj => by rw [htl] at hj; simp [hj]) (by simpa using htl) inv0 (fun j hj => absurd hj (by omega)) hd (by rw [htl]; exact hlex) h
  refine wp_region_any hm ?_
  have hall := FQ.any (Q' := Q) (z := fun _ => z1) (T := fun _ => T1) (g := l.toArray.size - (m + 1)) hA (fun done gf a' w' hw' hp hLL => by
    obtain ⟨⟨hsq, hdn⟩, rfl⟩ := hLL
    have p1 := hp m (Nat.le_refl _) (by omega) (hdn m (by omega))
    have hw2 := hL (gf m) w' hw' p1.1 p1.2.1
    have hseq := wpAny_of_seq (md := .any) (Q' := Q) (l.drop (m + 1)) (m + 1) done _ w' (fun j => by simp [List.getElem?_drop]) (by simpa using hsq) hw2
    simpa using hseq) _ _ _ _ { w with drawn := w.drawn + 1 } (Below.refl _ w).drew (fun i _ _ h3 => by rw [getD_replicate_false] at h3; cases h3) H
  rw [htl, show m + [o1].length + (l.toArray.size - (m + 1)) = l.toArray.size by simp at hn ⊢; omega] at hall
  exact hall
end
end Go.Proofs.Ytpmeahmjmpgbfaa
