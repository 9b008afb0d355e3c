/- CALLS WITH SLICES THAT ARE KNOWN FROM AUTOMATA: slices that are read alone are tables; what a call makes lies in new blocks. -/
import Derived.Test.YtknphpihipkdpaaCxZ
set_option linter.unusedSimpArgs false
set_option linter.unusedVariables false
namespace Go.Proofs.Ytknphpihipkdpaa.Cx
open Go Go.RowKit

/-! ## Tables -/

/-- What a slice holds: how many rows, its columns. -/
structure Tab where
  n : Nat
  c : Nat → Nat → Int
  g : Nat → Nat → Bool

def Tab.none : Tab := ⟨0, fun _ _ => 0, fun _ _ => false⟩

structure AW where
  i : List Int
  b : List Bool
  t : List Tab

inductive AQ where
  | int (k : IntKind)
  | bool
  | agg (l : List AQ)
  | rows (ks : List (Option IntKind))

def CV.numD : CV → Int
  | .int _ e => match e.num with | some n => n | none => 0
  | _ => 0
def CV.bitD : CV → Bool
  | .bool e => match e.val with | some b => b | none => false
  | _ => false

/-- A row of a table. -/
def rowCs (c : Nat → Nat → Int) (g : Nat → Nat → Bool) (i : Nat) : List (Option IntKind) → Nat → List CV
  | [], _ => []
  | some k :: ks, j => .int k (.x (c j i)) :: rowCs c g i ks (j + 1)
  | none :: ks, j => .bool (.x (g j i)) :: rowCs c g i ks (j + 1)

theorem rowCs_ok (c : Nat → Nat → Int) (g : Nat → Nat → Bool) (i : Nat) : ∀ (ks : List (Option IntKind)) (j : Nat), (rowCs c g i ks j).length = ks.length ∧ (rowCs c g i ks j).all CV.flat = true
  | [], _ => ⟨rfl, rfl⟩
  | some k :: ks, j => ⟨congrArg Nat.succ (rowCs_ok c g i ks (j + 1)).1, (rowCs_ok c g i ks (j + 1)).2⟩
  | none :: ks, j => ⟨congrArg Nat.succ (rowCs_ok c g i ks (j + 1)).1, (rowCs_ok c g i ks (j + 1)).2⟩
theorem rowCs_plain (c : Nat → Nat → Int) (g : Nat → Nat → Bool) (i : Nat) : ∀ (ks : List (Option IntKind)) (j : Nat), CV.plains (rowCs c g i ks j) = true
  | [], _ => rfl
  | some k :: ks, j => by simpa [rowCs, CV.plains, CV.plain] using rowCs_plain c g i ks (j + 1)
  | none :: ks, j => by simpa [rowCs, CV.plains, CV.plain] using rowCs_plain c g i ks (j + 1)

def tabB (ks : List (Option IntKind)) (t : Tab) : Blk := ⟨.arg t.n ks.length (fun i => rowCs t.c t.g i ks 0) (fun i => rowCs_ok t.c t.g i ks 0), ks.length, true, none⟩

def tabOf (n : Nat) (row : Nat → List CV) : Tab := ⟨n, fun j i => ((row i).getD j .junk).numD, fun j i => ((row i).getD j .junk).bitD⟩

/-- Rows of integers and bools, of these kinds. -/
noncomputable def ShapeOk (ks : List (Option IntKind)) (t : Tab) (row : Nat → List CV) : Bool := @decide (∀ i, i < t.n → CV.nrml (row i) = rowCs t.c t.g i ks 0) (Classical.propDecidable _)

theorem shape_ok {ks : List (Option IntKind)} {t : Tab} {row : Nat → List CV} (h : ∀ i, i < t.n → CV.nrml (row i) = rowCs t.c t.g i ks 0) : ShapeOk ks t row = true := @decide_eq_true _ (Classical.propDecidable _) h
theorem shape_of {ks : List (Option IntKind)} {t : Tab} {row : Nat → List CV} (h : ShapeOk ks t row = true) : ∀ i, i < t.n → CV.nrml (row i) = rowCs t.c t.g i ks 0 := @of_decide_eq_true _ (Classical.propDecidable _) h

/-- A slice's table, the facts that it rests on, the blocks that are read. -/
noncomputable def rowsOf (s : St) (ks : List (Option IntKind)) : CV → Option (Tab × List Bool × List Nat)
  | .slc none _ _ => some (.none, [], [])
  | .emp => some (.none, [], [])
  | .sla b z o n => match s.heap.get b with
    | some ⟨.rows m z' row _, e, true, _⟩ => bif Nat.beq z z' && Nat.beq z ks.length && Nat.beq e z && Nat.blt b s.next then some (tabOf n (fun i => row (o + i)), [decide (o + n ≤ m), ShapeOk ks (tabOf n (fun i => row (o + i))) (fun i => row (o + i))], [b]) else none
    | some ⟨.arg m z' row _, e, true, _⟩ => bif Nat.beq z z' && Nat.beq z ks.length && Nat.beq e z && Nat.blt b s.next then some (tabOf n (fun i => row (o + i)), [decide (o + n ≤ m), ShapeOk ks (tabOf n (fun i => row (o + i))) (fun i => row (o + i))], [b]) else none
    | _ => none
  | .slx b z o n c => match s.heap.get b with
    | some ⟨.rows m z' row _, e, true, _⟩ => bif Nat.beq z z' && Nat.beq z ks.length && Nat.beq e z && Nat.blt b s.next then some (tabOf n (fun i => row (o + i)), [decide (o + n ≤ m), ShapeOk ks (tabOf n (fun i => row (o + i))) (fun i => row (o + i)), decide (n ≤ c)], [b]) else none
    | _ => none
  | .slc (some (b, o)) n c => match s.heap.get b with
    | some ⟨.lit l, e, true, _⟩ => bif Nat.beq e ks.length && Nat.beq (o % ks.length) 0 && Nat.ble (o + n * ks.length) l.length && Nat.ble n c && Nat.blt b s.next then some (tabOf n (fun i => (l.drop (o + i * ks.length)).take ks.length), [ShapeOk ks (tabOf n (fun i => (l.drop (o + i * ks.length)).take ks.length)) (fun i => (l.drop (o + i * ks.length)).take ks.length)], [b]) else none
    | _ => none
  | _ => none

section
variable {P : Program} {ρ : Env}

theorem flatR_any {ks : List (Option IntKind)} {c : Nat → Nat → Int} {g : Nat → Nat → Bool} {row : Nat → List CV} {σ τ : Mp} : ∀ (n : Nat) {us : List Value}, (∀ i, i < n → CV.nrml (row i) = rowCs c g i ks 0) → VRl ρ σ (flatR row n) us → VRl ρ τ (flatR (fun i => rowCs c g i ks 0) n) us
  | 0, us, _, h => by cases h; exact .nil
  | n + 1, us, hs, h => by
    rw [flatR] at h
    obtain ⟨x, y, rfl, h1, h2⟩ := h.cut
    rw [flatR]
    refine (flatR_any n (fun i hi => hs i (by omega)) h1).append ?_
    rw [← hs n (by omega)]
    have h3 := (VRl.nrm (row n)).1 h2
    rw [hs n (by omega)] at h3 ⊢
    exact h3.plain' (rowCs_plain _ _ _ _ _)

theorem lit_flat {l : List CV} {z o : Nat} : ∀ (n : Nat), o + n * z ≤ l.length → flatR (fun i => (l.drop (o + i * z)).take z) n = (l.drop o).take (n * z)
  | 0, _ => by simp [flatR]
  | n + 1, h => by
    have hm : (n + 1) * z = n * z + z := Nat.succ_mul n z
    rw [flatR, lit_flat n (by omega), hm, List.take_add, List.drop_drop]

/-- Where a slice's rows lie. -/
def subLoc (σ : Mp) (b d z : Nat) : Option Loc := (σ b).map fun l => ⟨l.blk, l.base + d, l.size, z⟩

theorem rowsOf_ok {s : St} {ks : List (Option IntKind)} {c : CV} {t : Tab} {sh : List Bool} {R : List Nat} (h : rowsOf s ks c = some (t, sh, R)) (hsh : ∀ b ∈ sh, b = true) {σ : Mp} {cur : Cur} {w : World} (hH : HR ρ σ cur w) (hcur : ∀ b ∈ R, cur b = s.heap.get b) {v : Value} (hv : VR ρ σ c v) :
    (∀ b ∈ R, b < s.next) ∧ ∃ lo : Option Loc, ArgAt ρ w (tabB ks t) lo ∧ ∀ (q : Nat) (τ : Mp), τ q = lo → VR ρ τ (.sla q ks.length 0 t.n) v := by
  have hnone : ∀ t, ArgAt ρ w (tabB ks t) none := fun t => ⟨rfl, rfl, rfl, fun l hl => by cases hl⟩
  -- what lies in a block of rows
  have key : ∀ {b m z o n e : Nat} {row : Nat → List CV} {body : BC} {x : Option BX}, s.heap.get b = some ⟨body, e, true, x⟩ → body.list = flatR row m → (∀ j, (row j).length = z) → z = ks.length → e = z → o + n ≤ m → ShapeOk ks (tabOf n (fun i => row (o + i))) (fun i => row (o + i)) = true → cur b = s.heap.get b → ∀ {l : Loc}, σ b = some l →
      ArgAt ρ w (tabB ks (tabOf n (fun i => row (o + i)))) (some ⟨l.blk, l.base + o * z, l.size, z⟩) := by
    intro b m z o n e row body x hk hbody hrow hz he hon hS hc l hl
    refine ⟨rfl, rfl, rfl, fun l' hl' => ?_⟩
    cases hl'
    obtain ⟨cs, ty, p, q1, _, q2, q3, q4, q5⟩ := hH.cell b _ l (hc.trans hk) rfl hl
    have e1 : Blk.cells ⟨body, e, true, x⟩ = flatR row m := hbody
    have e2 : Blk.cells (tabB ks (tabOf n (fun i => row (o + i)))) = flatR (fun i => rowCs (tabOf n (fun i => row (o + i))).c (tabOf n (fun i => row (o + i))).g i ks 0) n := rfl
    have l1 := flatR_length hrow m
    have l2 : (flatR (fun i => rowCs (tabOf n (fun i => row (o + i))).c (tabOf n (fun i => row (o + i))).g i ks 0) n).length = n * ks.length := flatR_length (fun j => (rowCs_ok _ _ _ _ _).1) n
    rw [e1, l1] at q4 q5
    have hmz : o * z + n * z ≤ m * z := by rw [← Nat.add_mul]; exact Nat.mul_le_mul_right _ hon
    refine ⟨cs, ty, p, q1, q2, hz.symm, ?_, fun τ => ?_⟩
    · rw [e2, l2, ← hz]; show l.base + o * z + n * z ≤ l.size; omega
    · rw [e2, l2, ← hz]
      have h5 := (q5.drop (o * z)).take (n * z)
      rw [flatR_part hrow o n m hon, List.drop_take, List.take_take, List.drop_drop] at h5
      have h6 := flatR_any (τ := τ) n (shape_of hS) h5
      have e3 : min (n * z) (m * z - o * z) = n * z := by omega
      rw [e3] at h6
      exact h6
  cases c with
  | slc a n c =>
    cases a with
    | none =>
      simp only [rowsOf] at h
      cases h
      refine ⟨fun b hb => (by cases hb), none, hnone _, fun q τ hτ => ?_⟩
      cases hv
      exact .sla0 _ _
    | some bo =>
      obtain ⟨b, o⟩ := bo
      simp only [rowsOf] at h
      split at h
      · rename_i l e x hk
        cases hb : (Nat.beq e ks.length && Nat.beq (o % ks.length) 0 && Nat.ble (o + n * ks.length) l.length && Nat.ble n c && Nat.blt b s.next) with
        | false => rw [hb] at h; cases h
        | true =>
          rw [hb, cond_true] at h
          cases h
          simp only [Bool.and_eq_true] at hb
          obtain ⟨⟨⟨⟨b1, b2⟩, b3⟩, b4⟩, b5⟩ := hb
          have b1 := Nat.eq_of_beq_eq_true b1
          have b2 := Nat.eq_of_beq_eq_true b2
          have b3 := Nat.le_of_ble_eq_true b3
          have b4 := Nat.le_of_ble_eq_true b4
          have hS := hsh _ (List.mem_singleton_self _)
          cases hv with
          | @slc _ _ _ _ c' l' hl hc hs =>
            refine ⟨fun x hx => by obtain rfl := List.mem_singleton.1 hx; exact blt_lt b5, some ⟨l'.blk, l'.base + o, l'.size, ks.length⟩, ⟨rfl, rfl, rfl, fun l2 hl2 => ?_⟩, fun q τ hτ => ?_⟩
            · cases hl2
              obtain ⟨cs, ty, p, q1, _, q2, q3, q4, q5⟩ := hH.cell b _ l' ((hcur b (List.mem_singleton_self _)).trans hk) rfl hl
              have e1 : Blk.cells ⟨.lit l, e, true, x⟩ = l := rfl
              rw [e1] at q4 q5
              have l2 : (flatR (fun i => rowCs (tabOf n (fun i => (l.drop (o + i * ks.length)).take ks.length)).c (tabOf n (fun i => (l.drop (o + i * ks.length)).take ks.length)).g i ks 0) n).length = n * ks.length := flatR_length (fun j => (rowCs_ok _ _ _ _ _).1) n
              refine ⟨cs, ty, p, q1, q2, rfl, ?_, fun τ => ?_⟩
              · show l'.base + o + (flatR _ n).length ≤ l'.size
                rw [l2]; omega
              · show VRl ρ τ (flatR _ n) ((cs.toList.drop (l'.base + o)).take (flatR _ n).length)
                rw [l2]
                have h5 := (q5.drop o).take (n * ks.length)
                rw [← lit_flat n b3, List.drop_take, List.take_take, List.drop_drop] at h5
                have h6 := flatR_any (τ := τ) n (shape_of hS) h5
                have e3 : min (n * ks.length) (l.length - o) = n * ks.length := by omega
                rw [e3] at h6
                exact h6
            · have := VR.sla (ρ := ρ) (σ := τ) (b := q) (z := ks.length) (o := 0) (n := n) (c' := c') hτ (Nat.le_trans b4 hc)
              rw [Nat.zero_mul, Nat.add_zero] at this; exact this
      · cases h
  | emp =>
    simp only [rowsOf] at h
    cases h
    refine ⟨fun b hb => (by cases hb), none, hnone _, fun q τ hτ => ?_⟩
    cases hv
    exact .sla0 _ _
  | sla b z o n =>
    simp only [rowsOf] at h
    split at h
    · rename_i m z' row hrow e x hk
      cases hb : (Nat.beq z z' && Nat.beq z ks.length && Nat.beq e z && Nat.blt b s.next) with
      | false => rw [hb] at h; cases h
      | true =>
        rw [hb, cond_true] at h
        cases h
        simp only [Bool.and_eq_true] at hb
        obtain ⟨⟨⟨b1, b2⟩, b3⟩, b4⟩ := hb
        have b1 := Nat.eq_of_beq_eq_true b1
        have b2 := Nat.eq_of_beq_eq_true b2
        have b3 := Nat.eq_of_beq_eq_true b3
        have hon := of_decide_eq_true (hsh _ (List.mem_cons_self ..))
        have hS := hsh _ (List.mem_cons_of_mem _ (List.mem_cons_self ..))
        refine ⟨fun x hx => by obtain rfl := List.mem_singleton.1 hx; exact blt_lt b4, ?_⟩
        cases hv with
        | @sla _ _ _ _ c' l hl hc =>
          refine ⟨_, key hk rfl (fun j => (hrow j).1.trans b1.symm) b2 b3 hon hS (hcur b (List.mem_singleton_self _)) hl, fun q τ hτ => ?_⟩
          rw [← b2]
          have := VR.sla (ρ := ρ) (σ := τ) (b := q) (z := z) (o := 0) (n := n) (c' := c') hτ hc
          rw [Nat.zero_mul, Nat.add_zero] at this; exact this
        | sla0 a c' => exact ⟨none, hnone _, fun q τ hτ => .sla0 _ _⟩
    · rename_i m z' row hrow e x hk
      cases hb : (Nat.beq z z' && Nat.beq z ks.length && Nat.beq e z && Nat.blt b s.next) with
      | false => rw [hb] at h; cases h
      | true =>
        rw [hb, cond_true] at h
        cases h
        simp only [Bool.and_eq_true] at hb
        obtain ⟨⟨⟨b1, b2⟩, b3⟩, b4⟩ := hb
        have b1 := Nat.eq_of_beq_eq_true b1
        have b2 := Nat.eq_of_beq_eq_true b2
        have b3 := Nat.eq_of_beq_eq_true b3
        have hon := of_decide_eq_true (hsh _ (List.mem_cons_self ..))
        have hS := hsh _ (List.mem_cons_of_mem _ (List.mem_cons_self ..))
        refine ⟨fun x hx => by obtain rfl := List.mem_singleton.1 hx; exact blt_lt b4, ?_⟩
        cases hv with
        | @sla _ _ _ _ c' l hl hc =>
          refine ⟨_, key hk rfl (fun j => (hrow j).1.trans b1.symm) b2 b3 hon hS (hcur b (List.mem_singleton_self _)) hl, fun q τ hτ => ?_⟩
          rw [← b2]
          have := VR.sla (ρ := ρ) (σ := τ) (b := q) (z := z) (o := 0) (n := n) (c' := c') hτ hc
          rw [Nat.zero_mul, Nat.add_zero] at this; exact this
        | sla0 a c' => exact ⟨none, hnone _, fun q τ hτ => .sla0 _ _⟩
    · cases h
  | slx b z o n c =>
    simp only [rowsOf] at h
    split at h
    · rename_i m z' row hrow e x hk
      cases hb : (Nat.beq z z' && Nat.beq z ks.length && Nat.beq e z && Nat.blt b s.next) with
      | false => rw [hb] at h; cases h
      | true =>
        rw [hb, cond_true] at h
        cases h
        simp only [Bool.and_eq_true] at hb
        obtain ⟨⟨⟨b1, b2⟩, b3⟩, b4⟩ := hb
        have b1 := Nat.eq_of_beq_eq_true b1
        have b2 := Nat.eq_of_beq_eq_true b2
        have b3 := Nat.eq_of_beq_eq_true b3
        have hon := of_decide_eq_true (hsh _ (List.mem_cons_self ..))
        have hS := hsh _ (List.mem_cons_of_mem _ (List.mem_cons_self ..))
        have hnc := of_decide_eq_true (hsh _ (List.mem_cons_of_mem _ (List.mem_cons_of_mem _ (List.mem_cons_self ..))))
        refine ⟨fun x hx => by obtain rfl := List.mem_singleton.1 hx; exact blt_lt b4, ?_⟩
        have hv := hv.slx_sla hnc
        cases hv with
        | @sla _ _ _ _ c' l hl hc =>
          refine ⟨_, key hk rfl (fun j => (hrow j).1.trans b1.symm) b2 b3 hon hS (hcur b (List.mem_singleton_self _)) hl, fun q τ hτ => ?_⟩
          rw [← b2]
          have := VR.sla (ρ := ρ) (σ := τ) (b := q) (z := z) (o := 0) (n := n) (c' := c') hτ hc
          rw [Nat.zero_mul, Nat.add_zero] at this; exact this
        | sla0 a c' => exact ⟨none, hnone _, fun q τ hτ => .sla0 _ _⟩
    · cases h
  | _ => simp [rowsOf] at h

end

/-! ## Arguments -/

structure AG where
  v : AW
  sh : List Bool
  R : List Nat

mutual
noncomputable def AQ.get (s : St) : AQ → CV → AG → Option AG
  | .int k, .int k' e, g => bif decide (k = k') then (match e.num with | some n => some ⟨⟨g.v.i ++ [n], g.v.b, g.v.t⟩, g.sh, g.R⟩ | none => none) else none
  | .bool, .bool e, g => match e.val with | some b => some ⟨⟨g.v.i, g.v.b ++ [b], g.v.t⟩, g.sh, g.R⟩ | none => none
  | .agg l, .agg m, g => AQ.gets s l m g
  | .rows ks, c, g => match rowsOf s ks c with | some (t, sh, R) => some ⟨⟨g.v.i, g.v.b, g.v.t ++ [t]⟩, g.sh ++ sh, g.R ++ R⟩ | none => none
  | _, _, _ => none
noncomputable def AQ.gets (s : St) : List AQ → List CV → AG → Option AG
  | [], [], g => some g
  | p :: l, c :: m, g => match AQ.get s p c g with | some g => AQ.gets s l m g | none => none
  | _, _, _ => none
end

mutual
def AQ.ni : AQ → Nat
  | .int _ => 1
  | .bool => 0
  | .agg l => AQ.nis l
  | .rows _ => 0
def AQ.nis : List AQ → Nat
  | [] => 0
  | p :: l => p.ni + AQ.nis l
end
mutual
def AQ.nb : AQ → Nat
  | .int _ => 0
  | .bool => 1
  | .agg l => AQ.nbs l
  | .rows _ => 0
def AQ.nbs : List AQ → Nat
  | [] => 0
  | p :: l => p.nb + AQ.nbs l
end
mutual
/-- The kinds of rows of its slices. -/
def AQ.kss : AQ → List (List (Option IntKind))
  | .int _ => []
  | .bool => []
  | .agg l => AQ.ksss l
  | .rows ks => [ks]
def AQ.ksss : List AQ → List (List (Option IntKind))
  | [] => []
  | p :: l => p.kss ++ AQ.ksss l
end

mutual
def AQ.put (v : AW) : AQ → Nat → Nat → Nat → CV
  | .int k, i, _, _ => .int k (.x (v.i.getD i 0))
  | .bool, _, j, _ => .bool (.x (v.b.getD j false))
  | .agg l, i, j, q => .agg (AQ.puts v l i j q)
  | .rows ks, _, _, q => .sla q ks.length 0 (v.t.getD q .none).n
def AQ.puts (v : AW) : List AQ → Nat → Nat → Nat → List CV
  | [], _, _, _ => []
  | p :: l, i, j, q => p.put v i j q :: AQ.puts v l (i + p.ni) (j + p.nb) (q + p.kss.length)
end

/-- The blocks in which the slices lie. -/
def AQ.hp (v : AW) : List (List (Option IntKind)) → Nat → List (Nat × Blk)
  | [], _ => []
  | ks :: l, q => (q, tabB ks (v.t.getD q .none)) :: AQ.hp v l (q + 1)

def AW.pre (v w : AW) : Prop := (∃ l, w.i = v.i ++ l) ∧ (∃ l, w.b = v.b ++ l) ∧ ∃ l, w.t = v.t ++ l
theorem AW.pre_refl (v : AW) : v.pre v := ⟨⟨[], by simp⟩, ⟨[], by simp⟩, ⟨[], by simp⟩⟩
theorem AW.pre_trans {u v w : AW} (h : u.pre v) (h' : v.pre w) : u.pre w := by
  obtain ⟨⟨l, e⟩, ⟨m, f⟩, n, g⟩ := h
  obtain ⟨⟨l', e'⟩, ⟨m', f'⟩, n', g'⟩ := h'
  exact ⟨⟨l ++ l', by rw [e', e, List.append_assoc]⟩, ⟨m ++ m', by rw [f', f, List.append_assoc]⟩, ⟨n ++ n', by rw [g', g, List.append_assoc]⟩⟩

theorem rowsOf_lt {s : St} {ks : List (Option IntKind)} {c : CV} {t : Tab} {sh : List Bool} {R : List Nat} (h : rowsOf s ks c = some (t, sh, R)) : ∀ b ∈ R, b < s.next := by
  unfold rowsOf at h
  split at h
  · cases h; intro b hb; cases hb
  · cases h; intro b hb; cases hb
  · split at h
    · rename_i b z o n _ m z' row hr e x hk
      cases hb : (Nat.beq z z' && Nat.beq z ks.length && Nat.beq e z && Nat.blt b s.next) with
      | false => rw [hb] at h; cases h
      | true =>
        rw [hb, cond_true] at h
        cases h
        simp only [Bool.and_eq_true] at hb
        intro x hx
        obtain rfl := List.mem_singleton.1 hx
        exact blt_lt hb.2
    · rename_i b z o n _ m z' row hr e x hk
      cases hb : (Nat.beq z z' && Nat.beq z ks.length && Nat.beq e z && Nat.blt b s.next) with
      | false => rw [hb] at h; cases h
      | true =>
        rw [hb, cond_true] at h
        cases h
        simp only [Bool.and_eq_true] at hb
        intro x hx
        obtain rfl := List.mem_singleton.1 hx
        exact blt_lt hb.2
    · cases h
  · split at h
    · rename_i b z o n c _ m z' row hr e x hk
      cases hb : (Nat.beq z z' && Nat.beq z ks.length && Nat.beq e z && Nat.blt b s.next) with
      | false => rw [hb] at h; cases h
      | true =>
        rw [hb, cond_true] at h
        cases h
        simp only [Bool.and_eq_true] at hb
        intro x hx
        obtain rfl := List.mem_singleton.1 hx
        exact blt_lt hb.2
    · cases h
  · split at h
    · rename_i b o n c _ l e x hk
      cases hb : (Nat.beq e ks.length && Nat.beq (o % ks.length) 0 && Nat.ble (o + n * ks.length) l.length && Nat.ble n c && Nat.blt b s.next) with
      | false => rw [hb] at h; cases h
      | true =>
        rw [hb, cond_true] at h
        cases h
        simp only [Bool.and_eq_true] at hb
        intro x hx
        obtain rfl := List.mem_singleton.1 hx
        exact blt_lt hb.2
    · cases h
  · cases h

/-- What is there of an argument. -/
structure AGet (ρ : Env) (s : St) (nis nbs : Nat) (kss : List (List (Option IntKind))) (g g' : AG) {V : Type} (rel0 : Mp → V → Prop) (rel1 : AW → Mp → V → Prop) : Prop where
  pre : g.v.pre g'.v
  li : g'.v.i.length = g.v.i.length + nis
  lb : g'.v.b.length = g.v.b.length + nbs
  lt : g'.v.t.length = g.v.t.length + kss.length
  sh : ∃ l, g'.sh = g.sh ++ l
  R : ∃ l, g'.R = g.R ++ l
  le : (∀ b ∈ g.R, b < s.next) → ∀ b ∈ g'.R, b < s.next
  ok : ∀ (σ : Mp) (cur : Cur) (w : World) (v : V), rel0 σ v → (∀ b ∈ g'.sh, b = true) → HR ρ σ cur w → (∀ b ∈ g'.R, cur b = s.heap.get b) →
    ∃ los : List (Option Loc), los.length = kss.length ∧ (∀ (u : AW) j ks lo, g'.v.pre u → kss[j]? = some ks → los[j]? = some lo → ArgAt ρ w (tabB ks (u.t.getD (g.v.t.length + j) .none)) lo) ∧
      ∀ (u : AW) (τ : Mp), g'.v.pre u → (∀ j lo, los[j]? = some lo → τ (g.v.t.length + j) = lo) → rel1 u τ v

theorem getD_pre_end {α : Type} {l : List α} {d x : α} {m u : List α} (h : u = l ++ [x] ++ m) : u.getD l.length d = x := by rw [h]; exact getD_end

section
variable {P : Program} {ρ : Env} {s : St}

mutual
theorem AQ.get_ok : ∀ {p : AQ} {c : CV} {g g' : AG}, AQ.get s p c g = some g' → AGet ρ s p.ni p.nb p.kss g g' (fun σ v => VR ρ σ c v) (fun u τ v => VR ρ τ (AQ.put u p g.v.i.length g.v.b.length g.v.t.length) v)
  | .int k, c, g, g', h => by
    cases c <;> simp only [AQ.get] at h <;> try (cases h; done)
    rename_i k' e
    cases hk : decide (k = k') with
    | false => rw [hk] at h; cases h
    | true =>
      rw [hk, cond_true] at h
      obtain rfl := of_decide_eq_true hk
      cases e <;> simp only [IE.num] at h <;> try (cases h; done)
      all_goals
        cases h
        refine ⟨⟨⟨_, rfl⟩, ⟨[], by simp⟩, ⟨[], by simp⟩⟩, by simp [AQ.ni], by simp [AQ.nb], by simp [AQ.kss], ⟨[], by simp⟩, ⟨[], by simp⟩, fun h => h, fun σ cur w v hv _ _ _ => ⟨[], rfl, fun u j ks lo _ hj => by simp [AQ.kss] at hj, fun u τ hu _ => ?_⟩⟩
        obtain ⟨⟨l, e⟩, _⟩ := hu
        simp only [AQ.put, getD_pre_end e]
        cases hv
        first | exact .int k (.x _) 
  | .bool, c, g, g', h => by
    cases c <;> simp only [AQ.get] at h <;> try (cases h; done)
    rename_i e
    cases e <;> simp only [BE.val] at h <;> try (cases h; done)
    all_goals
      cases h
      refine ⟨⟨⟨[], by simp⟩, ⟨_, rfl⟩, ⟨[], by simp⟩⟩, by simp [AQ.ni], by simp [AQ.nb], by simp [AQ.kss], ⟨[], by simp⟩, ⟨[], by simp⟩, fun h => h, fun σ cur w v hv _ _ _ => ⟨[], rfl, fun u j ks lo _ hj => by simp [AQ.kss] at hj, fun u τ hu _ => ?_⟩⟩
      obtain ⟨_, ⟨l, e⟩, _⟩ := hu
      simp only [AQ.put, getD_pre_end e]
      cases hv
      first | exact .bool (.x _)
  | .agg l, c, g, g', h => by
    cases c <;> simp only [AQ.get] at h <;> try (cases h; done)
    have k := AQ.gets_ok h
    refine ⟨k.pre, k.li, k.lb, k.lt, k.sh, k.R, k.le, fun σ cur w v hv h1 h2 h3 => ?_⟩
    obtain ⟨cs, rfl, hl⟩ := VR.agg_inv hv
    obtain ⟨los, q1, q2, q3⟩ := k.ok σ cur w _ hl h1 h2 h3
    exact ⟨los, q1, q2, fun u τ hu hτ => .agg (q3 u τ hu hτ)⟩
  | .rows ks, c, g, g', h => by
    simp only [AQ.get] at h
    split at h
    · rename_i t sh R hr
      cases h
      refine ⟨⟨⟨[], by simp⟩, ⟨[], by simp⟩, ⟨_, rfl⟩⟩, by simp [AQ.ni], by simp [AQ.nb], by simp [AQ.kss], ⟨_, rfl⟩, ⟨_, rfl⟩, fun h b hb => ?_, fun σ cur w v hv h1 h2 h3 => ?_⟩
      · rcases List.mem_append.1 hb with hb | hb
        · exact h b hb
        · exact rowsOf_lt hr b hb
      · obtain ⟨_, lo, q1, q2⟩ := rowsOf_ok hr (fun b hb => h1 b (List.mem_append_right _ hb)) h2 (fun b hb => h3 b (List.mem_append_right _ hb)) hv
        refine ⟨[lo], rfl, fun u j ks' lo' hu hj hlo => ?_, fun u τ hu hτ => ?_⟩
        · cases j with
          | zero =>
            simp only [AQ.kss, List.getElem?_cons_zero, Option.some.injEq] at hj hlo
            subst hj hlo
            obtain ⟨_, _, m, e⟩ := hu
            rw [Nat.add_zero, getD_pre_end e]
            exact q1
          | succ j => simp [AQ.kss] at hj
        · obtain ⟨_, _, m, e⟩ := hu
          simp only [AQ.put, getD_pre_end e]
          exact q2 _ τ (hτ 0 lo rfl)
    · cases h
theorem AQ.gets_ok : ∀ {l : List AQ} {m : List CV} {g g' : AG}, AQ.gets s l m g = some g' → AGet ρ s (AQ.nis l) (AQ.nbs l) (AQ.ksss l) g g' (fun σ v => VRl ρ σ m v) (fun u τ v => VRl ρ τ (AQ.puts u l g.v.i.length g.v.b.length g.v.t.length) v)
  | [], m, g, g', h => by
    cases m <;> simp only [AQ.gets] at h <;> try (cases h; done)
    cases h
    exact ⟨g.v.pre_refl, by simp [AQ.nis], by simp [AQ.nbs], by simp [AQ.ksss], ⟨[], by simp⟩, ⟨[], by simp⟩, fun h => h, fun σ cur w v hv _ _ _ => ⟨[], rfl, fun u j ks lo _ hj => by simp [AQ.ksss] at hj, fun u τ _ _ => by cases hv; exact .nil⟩⟩
  | p :: l, m, g, g', h => by
    cases m <;> simp only [AQ.gets] at h <;> try (cases h; done)
    rename_i c m
    cases hc : AQ.get s p c g with
    | none => rw [hc] at h; cases h
    | some g1 =>
      rw [hc] at h
      have k1 := AQ.get_ok hc
      have k2 := AQ.gets_ok (l := l) h
      obtain ⟨s1, e1⟩ := k1.sh
      obtain ⟨s2, e2⟩ := k2.sh
      obtain ⟨r1, f1⟩ := k1.R
      obtain ⟨r2, f2⟩ := k2.R
      refine ⟨AW.pre_trans k1.pre k2.pre, by rw [k2.li, k1.li, AQ.nis]; omega, by rw [k2.lb, k1.lb, AQ.nbs]; omega, by rw [k2.lt, k1.lt, AQ.ksss, List.length_append]; omega, ⟨s1 ++ s2, by rw [e2, e1, List.append_assoc]⟩, ⟨r1 ++ r2, by rw [f2, f1, List.append_assoc]⟩, fun h => k2.le (k1.le h), fun σ cur w v hv h1 h2 h3 => ?_⟩
      cases hv with
      | cons hv1 hvl =>
        obtain ⟨lo1, a1, a2, a3⟩ := k1.ok σ cur w _ hv1 (fun b hb => h1 b (by rw [e2]; exact List.mem_append_left _ hb)) h2 (fun b hb => h3 b (by rw [f2]; exact List.mem_append_left _ hb))
        obtain ⟨lo2, b1, b2, b3⟩ := k2.ok σ cur w _ hvl h1 h2 h3
        refine ⟨lo1 ++ lo2, by rw [List.length_append, a1, b1, AQ.ksss, List.length_append], fun u j ks lo hu hj hlo => ?_, fun u τ hu hτ => ?_⟩
        · rw [AQ.ksss] at hj
          by_cases hlt : j < p.kss.length
          · rw [List.getElem?_append_left hlt] at hj
            rw [List.getElem?_append_left (by omega)] at hlo
            exact a2 u j ks lo (AW.pre_trans k2.pre hu) hj hlo
          · rw [List.getElem?_append_right (by omega)] at hj hlo
            rw [a1] at hlo
            have := b2 u (j - p.kss.length) ks lo hu hj hlo
            rw [k1.lt] at this
            rwa [show g.v.t.length + j = g.v.t.length + p.kss.length + (j - p.kss.length) by omega]
        · simp only [AQ.puts]
          refine .cons (a3 u τ (AW.pre_trans k2.pre hu) fun j lo hj => hτ j lo (by
            rw [List.getElem?_append_left]; exact hj
            exact (List.getElem?_eq_some_iff.1 hj).1)) ?_
          have := b3 u τ hu fun j lo hj => by
            have := hτ (p.kss.length + j) lo (by rw [List.getElem?_append_right (by omega), a1, show p.kss.length + j - p.kss.length = j by omega]; exact hj)
            rw [k1.lt]
            rwa [show g.v.t.length + p.kss.length + j = g.v.t.length + (p.kss.length + j) by omega]
          rw [k1.li, k1.lb, k1.lt] at this
          exact this
end

end
/-! ## What a call makes, in the caller's memory -/

def liftName (base next b : Nat) : Nat := next + (b - base)

mutual
/-- All blocks that a value names are new ones. -/
def CV.rng (base n : Nat) : CV → Bool
  | .ptr (some (b, _)) | .slc (some (b, _)) _ _ | .slx b _ _ _ _ | .sla b _ _ _ | .ptx b _ _ _ | .map b => Nat.ble base b && Nat.blt b n
  | .agg l | .tup l => CV.rngl base n l
  | .slr _ _ _ _ | .yld _ => false
  | .fn _ l m => CV.rngl base n l && CV.rngl base n m
  | _ => true
def CV.rngl (base n : Nat) : List CV → Bool
  | [] => true
  | c :: l => c.rng base n && CV.rngl base n l
end
def BC.Rg (base n : Nat) : BC → Prop
  | .lit l => CV.rngl base n l = true
  | .rows _ _ row _ => ∀ j, CV.rngl base n (row j) = true
  | .arg _ _ row _ => ∀ j, CV.rngl base n (row j) = true

section
variable {P : Program} {ρ : Env} {base n next : Nat} {σ τ : Mp}

def LiftN (base n next : Nat) (σ τ : Mp) : Prop := ∀ j, base + j < n → ∀ l, σ (base + j) = some l → τ (next + j) = some l

theorem LiftN.at' (h : LiftN base n next σ τ) {b : Nat} {l : Loc} (hb : (Nat.ble base b && Nat.blt b n) = true) (hl : σ b = some l) : τ (liftName base next b) = some l := by
  simp only [Bool.and_eq_true] at hb
  have h1 := Nat.le_of_ble_eq_true hb.1
  have h2 := blt_lt hb.2
  have := h (b - base) (by omega) l (by rw [show base + (b - base) = b by omega]; exact hl)
  exact this

mutual
theorem VR.lift (hl : LiftN base n next σ τ) : ∀ {c : CV} {v : Value}, VR ρ σ c v → c.rng base n = true → VR ρ τ (c.ren (liftName base next)) v
  | _, _, .bool b, _ => .bool b
  | _, _, .int k e, _ => .int k e
  | _, _, .raw v, _ => .raw v
  | _, _, .ptr0, _ => .ptr0
  | _, _, .ptr h, hr => .ptr (hl.at' hr h)
  | _, _, .slc0, _ => .slc0
  | _, _, .slc h h2 h3, hr => .slc (hl.at' hr h) h2 h3
  | .slx b z o k c, _, .slx h, hr => .slx (VR.lift hl (c := .slc (some (b, o * z)) k c) h hr)
  | _, _, .sla h hc, hr => .sla (hl.at' hr h) hc
  | _, _, .sla0 a c, _ => .sla0 a c
  | _, _, .sln a c h, _ => .sln a c h
  | _, _, .slr .., hr => by simp [CV.rng] at hr
  | .ptx b z j f, _, .ptx h, hr => .ptx (VR.lift hl (c := .ptr (some (b, j * z + f))) h hr)
  | _, _, .junk h, _ => .junk h
  | _, _, .any v, _ => .any v
  | _, _, .emp a c, _ => .emp a c
  | _, _, .fn f ha hb, hr => by
    simp only [CV.rng, Bool.and_eq_true] at hr
    exact .fn f (VRl.lift hl ha hr.1) (VRl.lift hl hb hr.2)
  | _, _, .agg h, hr => .agg (VRl.lift hl h hr)
  | _, _, .tup h, hr => .tup (VRl.lift hl h hr)
  | _, _, .yld h, hr => by simp [CV.rng] at hr
  | _, _, .map h, hr => .map (hl.at' hr h)
theorem VRl.lift (hl : LiftN base n next σ τ) : ∀ {l : List CV} {vs : List Value}, VRl ρ σ l vs → CV.rngl base n l = true → VRl ρ τ (CV.renl (liftName base next) l) vs
  | _, _, .nil, _ => .nil
  | _, _, .cons h t, hr => by
    simp only [CV.rngl, Bool.and_eq_true] at hr
    exact .cons (VR.lift hl h hr.1) (VRl.lift hl t hr.2)
end

theorem Blk.lift (hl : LiftN base n next σ τ) {k : Blk} (hr : k.body.Rg base n) {us : List Value} (h : VRl ρ σ k.cells us) : VRl ρ τ (k.ren (liftName base next)).cells us := by
  obtain ⟨b, e, v, x⟩ := k
  have rows : ∀ (row : Nat → List CV), (∀ j, CV.rngl base n (row j) = true) → ∀ m us, VRl ρ σ (flatR row m) us → VRl ρ τ (flatR (fun j => CV.renl (liftName base next) (row j)) m) us := by
    intro row hrow m
    induction m with
    | zero => intro us h; cases h; exact .nil
    | succ m ih =>
      intro us h
      rw [flatR] at h
      obtain ⟨x, y, rfl, h1, h2⟩ := h.cut
      rw [flatR]
      exact (ih _ h1).append (VRl.lift hl h2 (hrow m))
  cases b with
  | lit l => exact VRl.lift hl h hr
  | rows m z row hrow => exact rows row hr m us h
  | arg m z row hrow => exact rows row hr m us h

noncomputable def putNew (base next : Nat) (h : Tr Blk) : List (Nat × Blk) → Tr Blk
  | [] => h
  | (b, k) :: l => (putNew base next h l).set (liftName base next b) (k.ren (liftName base next))

theorem get_putNew (h : Tr Blk) (t : Nat) : ∀ (l : List (Nat × Blk)), (putNew base next h l).get t = match l.find? (fun x => liftName base next x.1 == t) with | some x => some (x.2.ren (liftName base next)) | none => h.get t
  | [] => rfl
  | (u, c) :: l => by
    have ih := get_putNew h t l
    simp only [putNew, Tr.get_set, List.find?_cons]
    by_cases h : t = liftName base next u
    · subst h; simp
    · have h' : (liftName base next u == t) = false := by simp; exact fun e => h e.symm
      rw [if_neg h, h']
      exact ih

/-- A contract where nothing old is written, in any memory; its arguments' blocks are read alone. -/
theorem Ctr.callS {f : Nat} {args args2 : List CV} {h0 h1 : Tr Blk} {c c2 : CV} {n1 : Nat} {s s' : St} {R : List Nat} {memo : Memo} (K : (∀ p ∈ s'.pc, p.holds ρ) → Ctr P ρ f args h0 base [] c h1 n1) (hfn : ∃ fn, P.funcs[f]? = some fn ∧ fn.body.isSome = true)
    (hle : base ≤ n1) (hn : s'.next = s.next + (n1 - base)) (hpc : ∃ l, s'.pc = l ++ s.pc) (hold : ∀ b, ¬ (s.next ≤ b ∧ b < s'.next) → s'.heap.get b = s.heap.get b)
    (hnew : ∀ j, base + j < n1 → ∀ k, s'.heap.get (s.next + j) = some k → ∃ k0, h1.get (base + j) = some k0 ∧ k.live = k0.live ∧ k.esz = k0.esz ∧ k.ext = none ∧ (k.ro = false → k0.ro = false) ∧ ∀ σ σ2 us, LiftN base n1 s.next σ σ2 → VRl ρ σ k0.cells us → VRl ρ σ2 k.cells us)
    (hR : ∀ b ∈ R, b < s.next)
    (hin : ∀ (σ : Mp) (cur : Cur) (w : World) (l : List Value), (∀ p ∈ s'.pc, p.holds ρ) → VRl ρ σ args2 l → HR ρ σ cur w → (∀ b ∈ R, cur b = s.heap.get b) → ∃ σc : Mp, VRl ρ σc args l ∧ HR ρ σc (curOf h0 base) w ∧ ∀ b, base ≤ b → σc b = none)
    (hc : ∀ σ σ2 v, LiftN base n1 s.next σ σ2 → VR ρ σ c v → VR ρ σ2 c2 v) :
    CallOk P (ctxOf P memo) ρ f args2 s c2 s' R [] := by
  refine ⟨hfn, ⟨by omega, fun b _ hb => hold b hb, hpc⟩, ⟨hR, fun b hb => by cases hb⟩, ?_⟩
  intro n σ cur w args' hp hargs' hH hA hN
  have K := K hp
  obtain ⟨σc, i1, i2, i3⟩ := hin σ cur w _ hp hargs' hH (fun b hb => hA b (.inl hb))
  refine CallsIn.mono (K.run n σc w args' i1 i2 i3) ?_
  rintro e w' ⟨v, rfl, σ', x1, x2, x3, x4, x5⟩
  have x1 : Ext σc σ' base n1 := x1
  have x3 : HR ρ σ' (upd (curOf h0 base) base n1 h1 []) w' := x3
  have x5 : Fresh σc σ' base n1 base [] w := x5
  have same : ∀ k, k < w.heap.size → w'.heap[k]? = w.heap[k]? := fun k hk => x4.block k hk (fun b hb l hl => by
    rcases hb with hb | hb
    · cases hb
    · rw [i3 b hb] at hl; cases hl)
  have fresh : ∀ j l, base + j < n1 → σ' (base + j) = some l → w.heap.size ≤ l.blk := fun j l hj hl => by
    rcases x5 (base + j) l (by omega) hj hl with h | ⟨b0, hb0, l0, h1, h2⟩
    · exact h
    · rcases hb0 with hb0 | hb0
      · cases hb0
      · rw [i3 b0 hb0] at h1; cases h1
  obtain ⟨σ2, hσ2⟩ : ∃ σ2 : Mp, σ2 = fun b => if s.next ≤ b ∧ b < s'.next then σ' (base + (b - s.next)) else σ b := ⟨_, rfl⟩
  have e1 : ∀ j, base + j < n1 → σ2 (s.next + j) = σ' (base + j) := fun j hj => by
    rw [hσ2]
    show (if s.next ≤ s.next + j ∧ s.next + j < s'.next then σ' (base + (s.next + j - s.next)) else σ _) = _
    rw [if_pos ⟨by omega, by omega⟩, Nat.add_sub_cancel_left]
  have e2 : ∀ b, ¬ (s.next ≤ b ∧ b < s'.next) → σ2 b = σ b := fun b hb => by rw [hσ2]; exact if_neg hb
  have hle2 : σ.le σ2 := fun b l hl => by
    by_cases hb : s.next ≤ b ∧ b < s'.next
    · rw [hN b hb.1 hb.2] at hl; cases hl
    · rw [e2 b hb]; exact hl
  have lift : LiftN base n1 s.next σ' σ2 := fun j hj l hl => by rw [e1 j hj]; exact hl
  have old : ∀ b k, upd cur s.next s'.next s'.heap [] b = some k → ∀ l, σ2 b = some l → (∃ j, b = s.next + j ∧ base + j < n1 ∧ s'.heap.get b = some k ∧ σ' (base + j) = some l) ∨ (¬ (s.next ≤ b ∧ b < s'.next) ∧ cur b = some k ∧ σ b = some l) := by
    intro b k hk l hl
    unfold upd at hk
    by_cases hb : s.next ≤ b ∧ b < s'.next
    · left
      rw [if_pos (.inr hb)] at hk
      obtain ⟨j, rfl⟩ : ∃ j, b = s.next + j := ⟨b - s.next, by omega⟩
      exact ⟨j, rfl, by omega, hk, by rw [← e1 j (by omega)]; exact hl⟩
    · right
      rw [if_neg (by simpa using hb)] at hk
      exact ⟨hb, hk, by rw [← e2 b hb]; exact hl⟩
  have up1 : ∀ j k0, base + j < n1 → h1.get (base + j) = some k0 → upd (curOf h0 base) base n1 h1 [] (base + j) = some k0 := fun j k0 hj hk => by
    show (if base + j ∈ [] ∨ (base ≤ base + j ∧ base + j < n1) then h1.get (base + j) else _) = _
    rw [if_pos (.inr ⟨by omega, hj⟩)]; exact hk
  refine ⟨v, rfl, σ2, fun b hb => e2 b (by omega), hc _ _ _ lift x2, ?_, .of_same x4.os x4.tape x4.output x4.size same, fun b l b1 b2 b3 => ?_⟩
  · refine ⟨fun b k l a1 a2 a3 => ?_, fun b b' k k' l l' a1 a2 a3 a4 a5 a6 a7 a8 => ?_, fun b k x l a1 a2 a3 => ?_, fun b b' k k' x x' l l' a1 a2 a3 a4 a5 a6 a7 => ?_⟩
    · rcases old b k a1 l a3 with ⟨j, rfl, hj, hk, hl⟩ | ⟨hb, hk, hl⟩
      · obtain ⟨k0, g1, g2, g3, g4, gr, g5⟩ := hnew j hj k hk
        obtain ⟨cs, t, ppr1, r1, qqr1, r2, r3, r4, r5⟩ := x3.cell (base + j) k0 l (up1 j k0 hj g1) (g2 ▸ a2) hl
        have r6 := g5 _ _ _ lift r5
        have hlen : k.cells.length = k0.cells.length := r6.length.symm.trans r5.length
        exact ⟨cs, t, ppr1, r1, fun h => qqr1 (gr h), r2, g3.trans r3, by rw [hlen]; exact r4, by rw [hlen]; exact r6⟩
      · obtain ⟨cs, t, ppr1, r1, qqr1, r2, r3, r4, r5⟩ := hH.cell b k l hk a2 hl
        exact ⟨cs, t, ppr1, by rw [same _ (Array.getElem?_eq_some_iff.1 r1).1]; exact r1, qqr1, r2, r3, r4, r5.mono hle2⟩
    · rcases old b k a1 l a3 with ⟨j, rfl, hj, hk, hl⟩ | ⟨hb, hk, hl⟩ <;> rcases old b' k' a4 l' a6 with ⟨j', rfl, hj', hk', hl'⟩ | ⟨hb', hk', hl'⟩
      · obtain ⟨k0, g1, g2, _, _, gr, _⟩ := hnew j hj k hk
        obtain ⟨k1, g1', g2', _, _, gr', _⟩ := hnew j' hj' k' hk'
        have := x3.inj _ _ k0 k1 l l' (up1 j k0 hj g1) (g2 ▸ a2) hl (up1 j' k1 hj' g1') (g2' ▸ a5) hl' a7 (a8.imp gr gr')
        omega
      · have f1 := fresh j l hj hl
        have f2 := hH.lt hk' a5 hl'
        omega
      · have f1 := fresh j' l' hj' hl'
        have f2 := hH.lt hk a2 hl
        omega
      · exact hH.inj b b' k k' l l' hk a2 hl hk' a5 hl' a7 a8
    · rcases old b k a1 l a3 with ⟨j, rfl, hj, hk, hl⟩ | ⟨hb, hk, hl⟩
      · obtain ⟨_, _, _, _, g4, _⟩ := hnew j hj k hk
        rw [g4] at a2; cases a2
      · have hs := hH.spec b k x l hk a2 hl
        exact (hs.heap (same _ hs.lt)).mono hle2
    · rcases old b k a1 l a3 with ⟨j, rfl, hj, hk, hl⟩ | ⟨hb, hk, hl⟩
      · obtain ⟨_, _, _, _, g4, _⟩ := hnew j hj k hk
        rw [g4] at a2; cases a2
      · rcases old b' k' a4 l' a6 with ⟨j', rfl, hj', hk', hl'⟩ | ⟨hb', hk', hl'⟩
        · obtain ⟨_, _, _, _, g4, _⟩ := hnew j' hj' k' hk'
          rw [g4] at a5; cases a5
        · exact hH.injX b b' k k' x x' l l' hk a2 hl hk' a5 hl' a7
  · rcases Nat.lt_or_ge b (s.next + (n1 - base)) with hlt | hge
    · obtain ⟨j, rfl⟩ : ∃ j, b = s.next + j := ⟨b - s.next, by omega⟩
      rw [e1 j (by omega)] at b3
      exact .inl (fresh j l (by omega) b3)
    · omega

end

/-! ## The memo -/

/-- Calls of a function with slices are known from its automaton: rw, hw, nw: what it yields, the blocks that it makes, their number. -/
noncomputable def memoS {N R : Type} [Inhabited R] (g : Nat) (ps : List AQ) (F : AW → AF N R) (rw' : R → CV) (hw : R → List (Nat × Blk)) (nw : Nat) (inner : Memo) : Memo := fun f args s =>
  bif Nat.beq f g then
    match AQ.gets s ps args ⟨⟨[], [], []⟩, [], []⟩ with
    | some a => match s.musts (a.sh ++ [(F a.v).fin]) with
      | some s1 => some ((rw' (F a.v).val).ren (liftName (AQ.ksss ps).length s.next), { s1 with heap := putNew (AQ.ksss ps).length s.next s.heap (hw (F a.v).val), next := s.next + (nw - (AQ.ksss ps).length) }, a.R, [])
      | none => none
    | none => inner f args s
  else inner f args s

structure KnownS (P : Program) (ρ : Env) (g : Nat) (ps : List AQ) {N R : Type} (F : AW → AF N R) (rw' : R → CV) (hw : R → List (Nat × Blk)) (nw : Nat) : Prop where
  fn : ∃ fn, P.funcs[g]? = some fn ∧ fn.body.isSome = true
  le : (AQ.ksss ps).length ≤ nw
  full : ∀ r, (hw r).map Prod.fst = List.range' (AQ.ksss ps).length (nw - (AQ.ksss ps).length)
  rg : ∀ r, (rw' r).rng (AQ.ksss ps).length nw = true
  hg : ∀ r, ∀ x ∈ hw r, x.2.body.Rg (AQ.ksss ps).length nw ∧ x.2.ext = none
  ctr : ∀ v n r, (F v).run n = some r → Ctr P ρ g (AQ.puts v ps 0 0 0) (mkH (AQ.hp v (AQ.ksss ps) 0)) (AQ.ksss ps).length [] (rw' r) (putH (mkH (AQ.hp v (AQ.ksss ps) 0)) (hw r)) nw

theorem find_congr {α : Type} {p q : α → Bool} : ∀ {l : List α}, (∀ x ∈ l, p x = q x) → l.find? p = l.find? q
  | [], _ => rfl
  | a :: l, h => by
    simp only [List.find?_cons, h a (List.mem_cons_self ..), find_congr (l := l) fun x hx => h x (List.mem_cons_of_mem _ hx)]

theorem hp_get {v : AW} (i : Nat) : ∀ (l : List (List (Option IntKind))) (q : Nat) (k : Blk), (mkH (AQ.hp v l q)).get i = some k → ∃ j ks, i = q + j ∧ l[j]? = some ks ∧ k = tabB ks (v.t.getD i .none)
  | [], q, k, h => by simp [AQ.hp, mkH, Tr.get_nil] at h
  | ks :: l, q, k, h => by
    simp only [AQ.hp, mkH, Tr.get_set] at h
    by_cases hi : i = q
    · rw [if_pos hi] at h
      cases h
      exact ⟨0, ks, by omega, rfl, by rw [hi]⟩
    · rw [if_neg hi] at h
      obtain ⟨j, ks', h1, h2, h3⟩ := hp_get i l (q + 1) k h
      exact ⟨j + 1, ks', by omega, by simpa using h2, h3⟩

theorem memoS_ok {P : Program} {ρ : Env} {N R : Type} [Inhabited R] {g : Nat} {ps : List AQ} {F : AW → AF N R} {rw' : R → CV} {hw : R → List (Nat × Blk)} {nw : Nat} {inner : Memo} (K : KnownS P ρ g ps F rw' hw nw) (hi : MemoOk P (ctxOf P inner) ρ) : MemoOk P (ctxOf P (memoS g ps F rw' hw nw inner)) ρ := by
  have lift : ∀ {f args s c s' R' W}, CallOk P (ctxOf P inner) ρ f args s c s' R' W → CallOk P (ctxOf P (memoS g ps F rw' hw nw inner)) ρ f args s c s' R' W := fun h => ⟨h.fn, h.frm, h.lt, h.run⟩
  intro f args s c s' R' W h0
  have h : memoS g ps F rw' hw nw inner f args s = some (c, s', R', W) := h0
  clear h0
  unfold memoS at h
  cases hf : Nat.beq f g with
  | false => rw [hf, cond_false] at h; exact lift (hi _ _ _ _ _ _ _ h)
  | true =>
    rw [hf, cond_true] at h
    obtain rfl := Nat.eq_of_beq_eq_true hf
    split at h
    · rename_i a ha
      split at h
      · rename_i s1 hm
        cases h
        obtain ⟨m1, m2, ⟨lm, m3⟩, m4⟩ := musts_parts (ρ := ρ) hm
        have k := AQ.gets_ok (ρ := ρ) ha
        have facts : (∀ p ∈ s1.pc, p.holds ρ) → ∀ b ∈ a.sh ++ [(F a.v).fin], b = true := m4
        have hR := k.le (fun b hb => by cases hb)
        have find : ∀ (r : R) (j : Nat), (AQ.ksss ps).length + j < nw → ∃ x, (hw r).find? (fun x => x.1 == (AQ.ksss ps).length + j) = some x := fun r j hj => by
          have hmem : (AQ.ksss ps).length + j ∈ (hw r).map Prod.fst := by rw [K.full]; rw [List.mem_range']; exact ⟨j, by omega, by omega⟩
          obtain ⟨x, hx, he⟩ := List.mem_map.1 hmem
          cases hf : (hw r).find? (fun x => x.1 == (AQ.ksss ps).length + j) with
          | some y => exact ⟨y, rfl⟩
          | none =>
            rw [List.find?_eq_none] at hf
            exact absurd (by simp [he]) (hf x hx)
        have rngw : ∀ (r : R), ∀ x ∈ hw r, (AQ.ksss ps).length ≤ x.1 ∧ x.1 < nw := fun r x hx => by
          have : x.1 ∈ (hw r).map Prod.fst := List.mem_map.2 ⟨x, hx, rfl⟩
          rw [K.full, List.mem_range'] at this
          obtain ⟨i, h1, h2⟩ := this
          omega
        refine Ctr.callS (base := (AQ.ksss ps).length) (n1 := nw) (args := AQ.puts a.v ps 0 0 0) (h0 := mkH (AQ.hp a.v (AQ.ksss ps) 0)) (h1 := putH (mkH (AQ.hp a.v (AQ.ksss ps) 0)) (hw (F a.v).val)) (K := fun hp => ?_) K.fn K.le rfl ⟨lm, m3⟩ (fun b hb => ?_) (fun j hj kb hk => ?_) hR (fun σ cur w l hp hl hH hcur => ?_) (fun σ σ2 v hl hv => hv.lift hl (K.rg _))
        · have hfin : (F a.v).fin = true := facts hp _ (List.mem_append_right _ (List.mem_singleton_self _))
          obtain ⟨n, hn⟩ := AF.fin_run hfin
          exact K.ctr a.v n _ hn
        · show (putNew _ _ _ _).get b = _
          rw [get_putNew]
          split
          · rename_i x hx
            have h1 := List.find?_some hx
            have h2 := List.mem_of_find?_eq_some hx
            simp only [beq_iff_eq] at h1
            obtain ⟨q1, q2⟩ := rngw _ x h2
            refine absurd ?_ hb
            show s.next ≤ b ∧ b < s.next + (nw - (AQ.ksss ps).length)
            unfold liftName at h1
            omega
          · rfl
        · have hk : (putNew (AQ.ksss ps).length s.next s.heap (hw (F a.v).val)).get (s.next + j) = some kb := hk
          rw [get_putNew] at hk
          have e : ∀ x ∈ hw (F a.v).val, (liftName (AQ.ksss ps).length s.next x.1 == s.next + j) = (x.1 == (AQ.ksss ps).length + j) := fun x hx => by
            obtain ⟨q1, q2⟩ := rngw _ x hx
            unfold liftName
            rw [Bool.eq_iff_iff]
            simp only [beq_iff_eq]
            omega
          obtain ⟨x, hx⟩ := find (F a.v).val j hj
          have hx2 : (hw (F a.v).val).find? (fun x => liftName (AQ.ksss ps).length s.next x.1 == s.next + j) = some x := by
            rw [← hx]
            exact find_congr e
          rw [hx2] at hk
          cases hk
          have hmem := List.mem_of_find?_eq_some hx
          obtain ⟨g1, g2⟩ := K.hg _ x hmem
          refine ⟨x.2, ?_, rfl, rfl, rfl, fun h => ?_, fun σ σ2 us hl h => Blk.lift hl g1 h⟩
          · rw [get_putH, hx]
          · have : (x.2.ren (liftName (AQ.ksss ps).length s.next)).ro = x.2.ro := by
              generalize x.2 = kk
              obtain ⟨bb, e, v, xx⟩ := kk
              cases bb <;> rfl
            rw [← this]; exact h
        · have fa := facts hp
          obtain ⟨los, q1, q2, q3⟩ := k.ok σ cur w l hl (fun b hb => fa b (List.mem_append_left _ hb)) hH hcur
          refine ⟨fun b => if b < (AQ.ksss ps).length then (los[b]?).getD none else none, ?_, HR.ofArgs (fun i kb hi hk => ?_), fun b hb => if_neg (by omega)⟩
          · refine q3 a.v _ a.v.pre_refl (fun j lo hj => ?_)
            have : j < los.length := (List.getElem?_eq_some_iff.1 hj).1
            have hz : (0 : Nat) + j = j := Nat.zero_add j
            show (if ([] : List Tab).length + j < _ then _ else none) = lo
            simp only [List.length_nil, hz]
            rw [if_pos (by omega), hj]; rfl
          · obtain ⟨j, ks, rfl, h2, rfl⟩ := hp_get i _ _ _ hk
            rw [Nat.zero_add] at *
            have hjl : j < los.length := by omega
            have := q2 a.v j ks los[j] a.v.pre_refl h2 (List.getElem?_eq_getElem hjl)
            rw [if_pos hi, List.getElem?_eq_getElem hjl]
            have hz : (([] : List Tab).length + j) = j := by simp
            simp only [List.length_nil, Nat.zero_add] at this
            exact this
      · cases h
    · exact lift (hi _ _ _ _ _ _ _ h)

/-- A contract that says less: the value by a wider shape, more numbers. -/
theorem Ctr.weaken {P : Program} {ρ : Env} {f : Nat} {args : List CV} {h0 h h' : Tr Blk} {base n n' : Nat} {c c' : CV} (K : Ctr P ρ f args h0 base [] c h n) (hb : base ≤ n) (hn : n ≤ n') (hc : ∀ σ v, VR ρ σ c v → VR ρ σ c' v) (hh : ∀ b, base ≤ b → b < n → h'.get b = h.get b) : Ctr P ρ f args h0 base [] c' h' n' := by
  refine ⟨K.fn, fun m σ w args' ha hH hN => CallsIn.mono (K.run m σ w args' ha hH hN) ?_⟩
  rintro e w' ⟨v, rfl, σ', x1, x2, x3, x4, x5⟩
  have x1 : Ext σ σ' base n := x1
  have x3 : HR ρ σ' (upd (curOf h0 base) base n h []) w' := x3
  have x5 : Fresh σ σ' base n base [] w := x5
  have lt : ∀ b l, σ' b = some l → b < n := fun b l hl => by
    by_cases h : b < n
    · exact h
    · rw [x1 b (.inr (by omega)), hN b (by omega)] at hl; cases hl
  have cur : ∀ b l, σ' b = some l → upd (curOf h0 base) base n' h' [] b = upd (curOf h0 base) base n h [] b := fun b l hl => by
    have := lt b l hl
    unfold upd
    by_cases hbb : base ≤ b
    · rw [if_pos (.inr ⟨hbb, by omega⟩), if_pos (.inr ⟨hbb, this⟩), hh b hbb this]
    · rw [if_neg (by simp; omega), if_neg (by simp; omega)]
  refine ⟨v, rfl, σ', fun b hb => x1 b (by have hb : b < base ∨ n' ≤ b := hb; omega), hc _ _ x2, ?_, x4, fun b l b1 b2 b3 => x5 b l b1 (lt b l b3) b3⟩
  refine ⟨fun b k l a1 a2 a3 => x3.cell b k l ((cur b l a3).symm.trans a1) a2 a3, fun b b' k k' l l' a1 a2 a3 a4 a5 a6 => x3.inj b b' k k' l l' ((cur b l a3).symm.trans a1) a2 a3 ((cur b' l' a6).symm.trans a4) a5 a6, fun b k x l a1 a2 a3 => x3.spec b k x l ((cur b l a3).symm.trans a1) a2 a3, fun b b' k k' x x' l l' a1 a2 a3 a4 a5 a6 => x3.injX b b' k k' x x' l l' ((cur b l a3).symm.trans a1) a2 a3 ((cur b' l' a6).symm.trans a4) a5 a6⟩

section
variable {ρ : Env} {σ : Mp}
theorem VR.as_sla {b z n : Nat} {v : Value} (h : VR ρ σ (.slx b z 0 n n) v) : VR ρ σ (.sla b z 0 n) v := h.slx_sla (Nat.le_refl _)
theorem VR.nil_sla {b z : Nat} {v : Value} (h : VR ρ σ (.slc none 0 0) v) : VR ρ σ (.sla b z 0 0) v := by cases h; exact .sla0 _ _
theorem VR.emp_sla {b z : Nat} {v : Value} (h : VR ρ σ .emp v) : VR ρ σ (.sla b z 0 0) v := by cases h; exact .sla0 _ _
theorem VR.agg_imp {l m : List CV} (hl : ∀ vs, VRl ρ σ l vs → VRl ρ σ m vs) {v : Value} (h : VR ρ σ (.agg l) v) : VR ρ σ (.agg m) v := by
  obtain ⟨cs, rfl, h1⟩ := h.agg_inv
  exact .agg (hl _ h1)
theorem VR.tup_imp {l m : List CV} (hl : ∀ vs, VRl ρ σ l vs → VRl ρ σ m vs) {v : Value} (h : VR ρ σ (.tup l) v) : VR ρ σ (.tup m) v := by
  obtain ⟨cs, rfl, h1⟩ := h.tup_inv
  exact .tup (hl _ h1)
theorem VRl.nil_imp : ∀ vs, VRl ρ σ [] vs → VRl ρ σ [] vs := fun _ h => h
theorem VRl.cons_imp {a b : CV} {l m : List CV} (ha : ∀ v, VR ρ σ a v → VR ρ σ b v) (hl : ∀ vs, VRl ρ σ l vs → VRl ρ σ m vs) : ∀ vs, VRl ρ σ (a :: l) vs → VRl ρ σ (b :: m) vs := fun vs h => by
  cases h with
  | cons h t => exact .cons (ha _ h) (hl _ t)
end

end Go.Proofs.Ytknphpihipkdpaa.Cx
