/- CALLS THAT ARE KNOWN FROM AUTOMATA: a function of integers and bools yields what its automaton yields, wherever it is called. -/
import Derived.Test.YthagjhadjpangaaPkDTurned3

namespace Go.Proofs.Ythagjhadjpangaa.Cx
set_option linter.unusedSimpArgs false
set_option linter.unusedVariables false
open Go Go.RowKit
section
variable {N R : Type} {A : AF N R}
/-- Ranges over functions: more rounds change nothing. -/
def AF.Mono (A : AF N R) : Prop := ∀ a q n m D, A.rgo a = some q → n ≤ m → q n = some D → q m = some D
theorem AF.mono_none (h : ∀ a, A.rgo a = none) : A.Mono := fun a q n m D hq _ _ => by rw [h a] at hq; cases hq
theorem AF.go_mono (hA : A.Mono) : ∀ {n m : Nat} {a : N} {v : R}, n ≤ m → A.go n a = some v → A.go m a = some v
  | 0, m, a, v, _, h => by simp [AF.go] at h
  | n + 1, 0, a, v, hm, h => by omega
  | n + 1, m + 1, a, v, hm, h => by
    simp only [AF.go] at h ⊢
    cases hq : A.rgo a with
    | none =>
      rw [hq] at h
      simp only at h ⊢
      cases hd : (A.D a).eval with
      | none => rw [hd] at h; cases h
      | some l =>
        rw [hd] at h
        cases l with
        | next b r => exact AF.go_mono hA (by omega) h
        | done v r => exact h
    | some q =>
      rw [hq] at h
      simp only at h ⊢
      cases hn : q n with
      | none => rw [hn] at h; cases h
      | some D =>
        rw [hn] at h
        rw [hA a q n m D hq (by omega) hn]
        simp only at h ⊢
        cases hd : D.eval with
        | none => rw [hd] at h; cases h
        | some l =>
          rw [hd] at h
          cases l with
          | next b r => exact AF.go_mono hA (by omega) h
          | done v r => exact h
theorem AF.run_mono (hA : A.Mono) {n m : Nat} {v : R} (hm : n ≤ m) (h : A.run n = some v) : A.run m = some v := by
  unfold AF.run at *
  cases hd : A.D0.eval with
  | none => rw [hd] at h; cases h
  | some l =>
    rw [hd] at h
    cases l with
    | next b r => exact AF.go_mono hA hm h
    | done v r => exact h
/-- What the function yields, if it ends. -/
noncomputable def AF.val [Inhabited R] (A : AF N R) : R := open Classical in if h : ∃ v n, A.run n = some v then h.choose else default
noncomputable def AF.fin (A : AF N R) : Bool := @decide (∃ v n, A.run n = some v) (Classical.propDecidable _)
theorem AF.fin_run [Inhabited R] (h : A.fin = true) : ∃ n, A.run n = some A.val := by
  have h : ∃ v n, A.run n = some v := @of_decide_eq_true _ (Classical.propDecidable _) h
  unfold AF.val
  rw [dif_pos h]
  exact h.choose_spec
theorem AF.val_of [Inhabited R] (hA : A.Mono) {n : Nat} {v : R} (h : A.run n = some v) : A.fin = true ∧ A.val = v := by
  have h1 : A.fin = true := by
    unfold AF.fin
    exact @decide_eq_true _ (Classical.propDecidable _) ⟨v, n, h⟩
  refine ⟨h1, ?_⟩
  obtain ⟨m, hm⟩ := AF.fin_run h1
  have e1 := AF.run_mono hA (Nat.le_max_left n m) h
  have e2 := AF.run_mono hA (Nat.le_max_right n m) hm
  rw [e1] at e2
  exact (Option.some.inj e2).symm
end
/-! ## Arguments -/
inductive AP where
  | int (k : IntKind)
  | bool
  | agg (l : List AP)
structure AV where
  i : List Int
  b : List Bool
mutual
/-- The numbers of a value of this shape, behind others. -/
def AP.get : AP → CV → AV → Option AV
  | .int k, .int k' e, v => bif decide (k = k') then (match e.num with | some n => some ⟨v.i ++ [n], v.b⟩ | none => none) else none
  | .bool, .bool e, v => match e.val with | some b => some ⟨v.i, v.b ++ [b]⟩ | none => none
  | .agg l, .agg m, v => AP.gets l m v
  | _, _, _ => none
def AP.gets : List AP → List CV → AV → Option AV
  | [], [], v => some v
  | p :: l, c :: m, v => match p.get c v with | some v => AP.gets l m v | none => none
  | _, _, _ => none
end
mutual
def AP.ni : AP → Nat
  | .int _ => 1
  | .bool => 0
  | .agg l => AP.nis l
def AP.nis : List AP → Nat
  | [] => 0
  | p :: l => p.ni + AP.nis l
end
mutual
def AP.nb : AP → Nat
  | .int _ => 0
  | .bool => 1
  | .agg l => AP.nbs l
def AP.nbs : List AP → Nat
  | [] => 0
  | p :: l => p.nb + AP.nbs l
end
mutual
/-- The value of this shape with these numbers, from places on. -/
def AP.put (v : AV) : AP → Nat → Nat → CV
  | .int k, i, _ => .int k (.x (v.i.getD i 0))
  | .bool, _, j => .bool (.x (v.b.getD j false))
  | .agg l, i, j => .agg (AP.puts v l i j)
def AP.puts (v : AV) : List AP → Nat → Nat → List CV
  | [], _, _ => []
  | p :: l, i, j => p.put v i j :: AP.puts v l (i + p.ni) (j + p.nb)
end
/-- More numbers behind. -/
def AV.pre (v w : AV) : Prop := (∃ l, w.i = v.i ++ l) ∧ ∃ l, w.b = v.b ++ l
theorem AV.pre_refl (v : AV) : v.pre v := ⟨⟨[], by simp⟩, ⟨[], by simp⟩⟩
theorem AV.pre_trans {u v w : AV} (h : u.pre v) (h' : v.pre w) : u.pre w := by
  obtain ⟨⟨l, e⟩, m, f⟩ := h
  obtain ⟨⟨l', e'⟩, m', f'⟩ := h'
  exact ⟨⟨l ++ l', by rw [e', e, List.append_assoc]⟩, ⟨m ++ m', by rw [f', f, List.append_assoc]⟩⟩
theorem getD_end {α : Type} {l m : List α} {d x : α} : (l ++ [x] ++ m).getD l.length d = x := by
  simp [List.getD_eq_getElem?_getD]
mutual
theorem AP.get_put : ∀ {p : AP} {c : CV} {v w : AV}, p.get c v = some w → v.pre w ∧ w.i.length = v.i.length + p.ni ∧ w.b.length = v.b.length + p.nb ∧ c.plain = true ∧ ∀ u : AV, w.pre u → c.nrm = p.put u v.i.length v.b.length
  | .int k, c, v, w, h => by
    cases c <;> simp only [AP.get] at h <;> try (cases h; done)
    rename_i k' e
    cases hk : decide (k = k') with
    | false => rw [hk] at h; cases h
    | true =>
      rw [hk, cond_true] at h
      obtain rfl := of_decide_eq_true hk
      cases e <;> simp only [IE.num] at h <;> try (cases h; done)
      all_goals
        cases h
        refine ⟨⟨⟨_, rfl⟩, [], by simp⟩, by simp [AP.ni], by simp [AP.nb], rfl, fun u hu => ?_⟩
        obtain ⟨⟨l, e⟩, _⟩ := hu
        simp only [CV.nrm, AP.put, e, getD_end]
  | .bool, c, v, w, h => by
    cases c <;> simp only [AP.get] at h <;> try (cases h; done)
    rename_i e
    cases e <;> simp only [BE.val] at h <;> try (cases h; done)
    all_goals
      cases h
      refine ⟨⟨⟨[], by simp⟩, _, rfl⟩, by simp [AP.ni], by simp [AP.nb], rfl, fun u hu => ?_⟩
      obtain ⟨_, l, e⟩ := hu
      simp only [CV.nrm, AP.put, e, getD_end]
  | .agg l, c, v, w, h => by
    cases c <;> simp only [AP.get] at h <;> try (cases h; done)
    obtain ⟨h1, h2, h3, h4, h5⟩ := AP.gets_puts h
    exact ⟨h1, h2, h3, h4, fun u hu => by simp only [CV.nrm, AP.put]; rw [h5 u hu]⟩
theorem AP.gets_puts : ∀ {l : List AP} {m : List CV} {v w : AV}, AP.gets l m v = some w → v.pre w ∧ w.i.length = v.i.length + AP.nis l ∧ w.b.length = v.b.length + AP.nbs l ∧ CV.plains m = true ∧ ∀ u : AV, w.pre u → CV.nrml m = AP.puts u l v.i.length v.b.length
  | [], m, v, w, h => by
    cases m <;> simp only [AP.gets] at h <;> try (cases h; done)
    cases h
    exact ⟨v.pre_refl, by simp [AP.nis], by simp [AP.nbs], rfl, fun _ _ => rfl⟩
  | p :: l, m, v, w, h => by
    cases m <;> simp only [AP.gets] at h <;> try (cases h; done)
    rename_i c m
    cases hc : p.get c v with
    | none => rw [hc] at h; cases h
    | some v1 =>
      rw [hc] at h
      obtain ⟨h1, h2, h3, h4, h5⟩ := AP.get_put hc
      obtain ⟨q1, q2, q3, q4, q5⟩ := AP.gets_puts (l := l) h
      refine ⟨AV.pre_trans h1 q1, by rw [q2, h2, AP.nis]; omega, by rw [q3, h3, AP.nbs]; omega, by simp [CV.plains, h4, q4], fun u hu => ?_⟩
      simp only [CV.nrml, AP.puts]
      rw [h5 u (AV.pre_trans q1 hu), q5 u hu, h2, h3]
end
section
variable {P : Program} {ρ : Env}
theorem VRl.plain' {σ τ : Mp} : ∀ {l : List CV} {vs : List Value}, VRl ρ σ l vs → CV.plains l = true → VRl ρ τ l vs
  | _, _, .nil, _ => .nil
  | _, _, .cons h t, hp => by
    simp only [CV.plains, Bool.and_eq_true] at hp
    exact .cons (h.plain hp.1) (VRl.plain' t hp.2)
end
end Go.Proofs.Ythagjhadjpangaa.Cx

/- CALLS WITH SLICES THAT ARE KNOWN FROM AUTOMATA: slices that are read alone are tables; what a call makes lies in new blocks. -/
namespace Go.Proofs.Ythagjhadjpangaa.Cx
set_option linter.unusedSimpArgs false
set_option linter.unusedVariables false
open Go Go.RowKit
/-! ## Tables -/
/-- What a slice holds: how many rows, its columns. -/
structure Tab where
  n : Nat
  c : Nat → Nat → Int
  g : Nat → Nat → Bool
def Tab.none : Tab := ⟨0, fun _ _ => 0, fun _ _ => false⟩
structure AW where
  i : List Int
  b : List Bool
  t : List Tab
inductive AQ where
  | int (k : IntKind)
  | bool
  | agg (l : List AQ)
  | rows (ks : List (Option IntKind))
def CV.numD : CV → Int
  | .int _ e => match e.num with | some n => n | none => 0
  | _ => 0
def CV.bitD : CV → Bool
  | .bool e => match e.val with | some b => b | none => false
  | _ => false
/-- A row of a table. -/
def rowCs (c : Nat → Nat → Int) (g : Nat → Nat → Bool) (i : Nat) : List (Option IntKind) → Nat → List CV
  | [], _ => []
  | some k :: ks, j => .int k (.x (c j i)) :: rowCs c g i ks (j + 1)
  | none :: ks, j => .bool (.x (g j i)) :: rowCs c g i ks (j + 1)
theorem rowCs_ok (c : Nat → Nat → Int) (g : Nat → Nat → Bool) (i : Nat) : ∀ (ks : List (Option IntKind)) (j : Nat), (rowCs c g i ks j).length = ks.length ∧ (rowCs c g i ks j).all CV.flat = true
  | [], _ => ⟨rfl, rfl⟩
  | some k :: ks, j => ⟨congrArg Nat.succ (rowCs_ok c g i ks (j + 1)).1, (rowCs_ok c g i ks (j + 1)).2⟩
  | none :: ks, j => ⟨congrArg Nat.succ (rowCs_ok c g i ks (j + 1)).1, (rowCs_ok c g i ks (j + 1)).2⟩
theorem rowCs_plain (c : Nat → Nat → Int) (g : Nat → Nat → Bool) (i : Nat) : ∀ (ks : List (Option IntKind)) (j : Nat), CV.plains (rowCs c g i ks j) = true
  | [], _ => rfl
  | some k :: ks, j => by simpa [rowCs, CV.plains, CV.plain] using rowCs_plain c g i ks (j + 1)
  | none :: ks, j => by simpa [rowCs, CV.plains, CV.plain] using rowCs_plain c g i ks (j + 1)
def tabB (ks : List (Option IntKind)) (t : Tab) : Blk := ⟨.arg t.n ks.length (fun i => rowCs t.c t.g i ks 0) (fun i => rowCs_ok t.c t.g i ks 0), ks.length, true, none⟩
def tabOf (n : Nat) (row : Nat → List CV) : Tab := ⟨n, fun j i => ((row i).getD j .junk).numD, fun j i => ((row i).getD j .junk).bitD⟩
/-- Rows of integers and bools, of these kinds. -/
noncomputable def ShapeOk (ks : List (Option IntKind)) (t : Tab) (row : Nat → List CV) : Bool := @decide (∀ i, i < t.n → CV.nrml (row i) = rowCs t.c t.g i ks 0) (Classical.propDecidable _)
theorem shape_ok {ks : List (Option IntKind)} {t : Tab} {row : Nat → List CV} (h : ∀ i, i < t.n → CV.nrml (row i) = rowCs t.c t.g i ks 0) : ShapeOk ks t row = true := @decide_eq_true _ (Classical.propDecidable _) h
theorem shape_of {ks : List (Option IntKind)} {t : Tab} {row : Nat → List CV} (h : ShapeOk ks t row = true) : ∀ i, i < t.n → CV.nrml (row i) = rowCs t.c t.g i ks 0 := @of_decide_eq_true _ (Classical.propDecidable _) h
/-- Cells of these kinds, row by row; their columns as lists. -/
def chkRow : List (Option IntKind) → List CV → Bool
  | [], _ => true
  | some k :: ks, .int k' e :: l => decide (k = k') && (e.num.isSome && chkRow ks l)
  | none :: ks, .bool e :: l => e.val.isSome && chkRow ks l
  | _, _ => false
def chkL (ks : List (Option IntKind)) : Nat → List CV → Bool
  | 0, _ => true
  | n + 1, l => chkRow ks l && chkL ks n (l.drop ks.length)
def colI (z j : Nat) : Nat → List CV → List Int
  | 0, _ => []
  | n + 1, l => (l.getD j .junk).numD :: colI z j n (l.drop z)
def colB (z j : Nat) : Nat → List CV → List Bool
  | 0, _ => []
  | n + 1, l => (l.getD j .junk).bitD :: colB z j n (l.drop z)
def tabL (z n : Nat) (l : List CV) : Tab := ⟨n, fun j i => (colI z j n l).getD i 0, fun j i => (colB z j n l).getD i false⟩
theorem colI_get (z j : Nat) : ∀ (n : Nat) (l : List CV) (i : Nat), i < n → (colI z j n l).getD i 0 = ((l.drop (i * z)).getD j .junk).numD
  | 0, _, _, h => by omega
  | n + 1, l, 0, _ => by simp [colI]
  | n + 1, l, i + 1, h => by
    rw [colI, List.getD_cons_succ, colI_get z j n _ i (by omega), List.drop_drop, show z + i * z = (i + 1) * z by rw [Nat.succ_mul, Nat.add_comm]]
theorem colB_get (z j : Nat) : ∀ (n : Nat) (l : List CV) (i : Nat), i < n → (colB z j n l).getD i false = ((l.drop (i * z)).getD j .junk).bitD
  | 0, _, _, h => by omega
  | n + 1, l, 0, _ => by simp [colB]
  | n + 1, l, i + 1, h => by
    rw [colB, List.getD_cons_succ, colB_get z j n _ i (by omega), List.drop_drop, show z + i * z = (i + 1) * z by rw [Nat.succ_mul, Nat.add_comm]]
theorem chkL_get (ks : List (Option IntKind)) : ∀ (n : Nat) (l : List CV) (i : Nat), chkL ks n l = true → i < n → chkRow ks (l.drop (i * ks.length)) = true
  | 0, _, _, _, h => by omega
  | n + 1, l, 0, h, _ => by
    simp only [chkL, Bool.and_eq_true] at h
    simpa using h.1
  | n + 1, l, i + 1, h, hi => by
    simp only [chkL, Bool.and_eq_true] at h
    have := chkL_get ks n _ i h.2 (by omega)
    rwa [List.drop_drop, show ks.length + i * ks.length = (i + 1) * ks.length by rw [Nat.succ_mul, Nat.add_comm]] at this
theorem chkRow_ok (c : Nat → Nat → Int) (g : Nat → Nat → Bool) (i : Nat) : ∀ (ks : List (Option IntKind)) (l : List CV) (j0 : Nat), chkRow ks l = true → (∀ j, j < ks.length → c (j0 + j) i = (l.getD j .junk).numD ∧ g (j0 + j) i = (l.getD j .junk).bitD) → CV.nrml (l.take ks.length) = rowCs c g i ks j0
  | [], l, j0, _, _ => by simp [CV.nrml, rowCs]
  | some k :: ks, l, j0, h, hc => by
    cases l with
    | nil => simp [chkRow] at h
    | cons x l =>
      cases x <;> simp only [chkRow, Bool.false_eq_true] at h
      rename_i k' e
      simp only [Bool.and_eq_true, decide_eq_true_eq] at h
      obtain ⟨rfl, he, h⟩ := h
      have h0 := (hc 0 (by simp)).1
      simp only [Nat.add_zero, List.getD_cons_zero] at h0
      have ih := chkRow_ok c g i ks l (j0 + 1) h fun j hj => by
        have := hc (j + 1) (by simpa using hj)
        simp only [List.getD_cons_succ] at this
        rwa [show j0 + (j + 1) = j0 + 1 + j by omega] at this
      rw [List.length_cons, List.take_succ_cons, CV.nrml, rowCs, ih, h0]
      cases e <;> simp [IE.num] at he <;> rfl
  | none :: ks, l, j0, h, hc => by
    cases l with
    | nil => simp [chkRow] at h
    | cons x l =>
      cases x <;> simp only [chkRow, Bool.false_eq_true] at h
      rename_i e
      simp only [Bool.and_eq_true] at h
      obtain ⟨he, h⟩ := h
      have h0 := (hc 0 (by simp)).2
      simp only [Nat.add_zero, List.getD_cons_zero] at h0
      have ih := chkRow_ok c g i ks l (j0 + 1) h fun j hj => by
        have := hc (j + 1) (by simpa using hj)
        simp only [List.getD_cons_succ] at this
        rwa [show j0 + (j + 1) = j0 + 1 + j by omega] at this
      rw [List.length_cons, List.take_succ_cons, CV.nrml, rowCs, ih, h0]
      cases e <;> simp [BE.val] at he <;> rfl
theorem tabL_rows {ks : List (Option IntKind)} {n : Nat} {l : List CV} (h : chkL ks n l = true) : ∀ i, i < n → CV.nrml ((l.drop (i * ks.length)).take ks.length) = rowCs (tabL ks.length n l).c (tabL ks.length n l).g i ks 0 := fun i hi =>
  chkRow_ok _ _ i ks _ 0 (chkL_get ks n l i h hi) fun j _ => ⟨by rw [Nat.zero_add]; exact colI_get _ _ n l i hi, by rw [Nat.zero_add]; exact colB_get _ _ n l i hi⟩
/-- A slice's table, the facts that it rests on, the blocks that are read. -/
noncomputable def rowsOf (s : St) (ks : List (Option IntKind)) : CV → Option (Tab × List Bool × List Nat)
  | .slc none _ _ => some (.none, [], [])
  | .emp => some (.none, [], [])
  | .sla b z o n => match s.heap.get b with
    | some ⟨.rows m z' row _, e, true, _⟩ => bif Nat.beq z z' && Nat.beq z ks.length && Nat.beq e z && Nat.blt b s.next then some (tabOf n (fun i => row (o + i)), [decide (o + n ≤ m), ShapeOk ks (tabOf n (fun i => row (o + i))) (fun i => row (o + i))], [b]) else none
    | some ⟨.arg m z' row _, e, true, _⟩ => bif Nat.beq z z' && Nat.beq z ks.length && Nat.beq e z && Nat.blt b s.next then some (tabOf n (fun i => row (o + i)), [decide (o + n ≤ m), ShapeOk ks (tabOf n (fun i => row (o + i))) (fun i => row (o + i))], [b]) else none
    | _ => none
  | .slx b z o n c => match s.heap.get b with
    | some ⟨.rows m z' row _, e, true, _⟩ => bif Nat.beq z z' && Nat.beq z ks.length && Nat.beq e z && Nat.blt b s.next then some (tabOf n (fun i => row (o + i)), [decide (o + n ≤ m), ShapeOk ks (tabOf n (fun i => row (o + i))) (fun i => row (o + i)), decide (n ≤ c)], [b]) else none
    | _ => none
  | .slc (some (b, o)) n c => match s.heap.get b with
    | some ⟨.lit l, e, true, _⟩ => bif Nat.ble (o + n * ks.length) l.length && Nat.ble n c && Nat.blt b s.next && chkL ks n (l.drop o) then some (tabL ks.length n (l.drop o), [], [b]) else none
    | _ => none
  | _ => none
section
variable {P : Program} {ρ : Env}
theorem flatR_any {ks : List (Option IntKind)} {c : Nat → Nat → Int} {g : Nat → Nat → Bool} {row : Nat → List CV} {σ τ : Mp} : ∀ (n : Nat) {us : List Value}, (∀ i, i < n → CV.nrml (row i) = rowCs c g i ks 0) → VRl ρ σ (flatR row n) us → VRl ρ τ (flatR (fun i => rowCs c g i ks 0) n) us
  | 0, us, _, h => by cases h; exact .nil
  | n + 1, us, hs, h => by
    rw [flatR] at h
    obtain ⟨x, y, rfl, h1, h2⟩ := h.cut
    rw [flatR]
    refine (flatR_any n (fun i hi => hs i (by omega)) h1).append ?_
    rw [← hs n (by omega)]
    have h3 := (VRl.nrm (row n)).1 h2
    rw [hs n (by omega)] at h3 ⊢
    exact h3.plain' (rowCs_plain _ _ _ _ _)
theorem lit_flat {l : List CV} {z o : Nat} : ∀ (n : Nat), o + n * z ≤ l.length → flatR (fun i => (l.drop (o + i * z)).take z) n = (l.drop o).take (n * z)
  | 0, _ => by simp [flatR]
  | n + 1, h => by
    have hm : (n + 1) * z = n * z + z := Nat.succ_mul n z
    rw [flatR, lit_flat n (by omega), hm, List.take_add, List.drop_drop]
theorem rowsOf_ok2 {s : St} {ks : List (Option IntKind)} {c : CV} {t : Tab} {sh : List Bool} {R : List Nat} (h : rowsOf s ks c = some (t, sh, R)) (hsh : ∀ b ∈ sh, b = true) {σ : Mp} {cur : Cur} {w : World} (hH : HR ρ σ cur w) (hcur : ∀ b ∈ R, cur b = s.heap.get b) {v : Value} (hv : VR ρ σ c v) :
    (∀ b ∈ R, b < s.next) ∧ ∃ lo : Option Loc, ArgAt ρ w (tabB ks t) lo ∧ (∀ (q : Nat) (τ : Mp), τ q = lo → VR ρ τ (.sla q ks.length 0 t.n) v) ∧ ∀ b z o n, c = .sla b z o n → ∀ l', lo = some l' → ∃ l, σ b = some l ∧ l'.blk = l.blk ∧ l'.base = l.base + o * z := by
  have hnone : ∀ t, ArgAt ρ w (tabB ks t) none := fun t => ⟨rfl, rfl, rfl, fun l hl => by cases hl⟩
  -- what lies in a block of rows
  have key : ∀ {b m z o n e : Nat} {row : Nat → List CV} {body : BC} {x : Option BX}, s.heap.get b = some ⟨body, e, true, x⟩ → body.list = flatR row m → (∀ j, (row j).length = z) → z = ks.length → e = z → o + n ≤ m → ShapeOk ks (tabOf n (fun i => row (o + i))) (fun i => row (o + i)) = true → cur b = s.heap.get b → ∀ {l : Loc}, σ b = some l →
      ArgAt ρ w (tabB ks (tabOf n (fun i => row (o + i)))) (some ⟨l.blk, l.base + o * z, l.size, z⟩) := by
    intro b m z o n e row body x hk hbody hrow hz he hon hS hc l hl
    refine ⟨rfl, rfl, rfl, fun l' hl' => ?_⟩
    cases hl'
    obtain ⟨cs, ty, p, q1, _, q2, q3, q4, q5⟩ := hH.cell b _ l (hc.trans hk) rfl hl
    have e1 : Blk.cells ⟨body, e, true, x⟩ = flatR row m := hbody
    have e2 : Blk.cells (tabB ks (tabOf n (fun i => row (o + i)))) = flatR (fun i => rowCs (tabOf n (fun i => row (o + i))).c (tabOf n (fun i => row (o + i))).g i ks 0) n := rfl
    have l1 := flatR_length hrow m
    have l2 : (flatR (fun i => rowCs (tabOf n (fun i => row (o + i))).c (tabOf n (fun i => row (o + i))).g i ks 0) n).length = n * ks.length := flatR_length (fun j => (rowCs_ok _ _ _ _ _).1) n
    rw [e1, l1] at q4 q5
    have hmz : o * z + n * z ≤ m * z := by rw [← Nat.add_mul]; exact Nat.mul_le_mul_right _ hon
    refine ⟨cs, ty, p, q1, q2, hz.symm, ?_, fun τ => ?_⟩
    · rw [e2, l2, ← hz]; show l.base + o * z + n * z ≤ l.size; omega
    · rw [e2, l2, ← hz]
      have h5 := (q5.drop (o * z)).take (n * z)
      rw [flatR_part hrow o n m hon, List.drop_take, List.take_take, List.drop_drop] at h5
      have h6 := flatR_any (τ := τ) n (shape_of hS) h5
      have e3 : min (n * z) (m * z - o * z) = n * z := by omega
      rw [e3] at h6
      exact h6
  cases c with
  | slc a n c =>
    cases a with
    | none =>
      simp only [rowsOf] at h
      cases h
      refine ⟨fun b hb => (by cases hb), none, hnone _, fun q τ hτ => ?_, fun _ _ _ _ h => by cases h⟩
      cases hv
      exact .sla0 _ _
    | some bo =>
      obtain ⟨b, o⟩ := bo
      simp only [rowsOf] at h
      split at h
      · rename_i l e x hk
        cases hb : (Nat.ble (o + n * ks.length) l.length && Nat.ble n c && Nat.blt b s.next && chkL ks n (l.drop o)) with
        | false => rw [hb] at h; cases h
        | true =>
          rw [hb, cond_true] at h
          cases h
          simp only [Bool.and_eq_true] at hb
          obtain ⟨⟨⟨b3, b4⟩, b5⟩, b6⟩ := hb
          have b3 := Nat.le_of_ble_eq_true b3
          have b4 := Nat.le_of_ble_eq_true b4
          have hS := tabL_rows b6
          cases hv with
          | @slc _ _ _ _ c' l' hl hc hs =>
            refine ⟨fun x hx => by obtain rfl := List.mem_singleton.1 hx; exact blt_lt b5, some ⟨l'.blk, l'.base + o, l'.size, ks.length⟩, ⟨rfl, rfl, rfl, fun l2 hl2 => ?_⟩, fun q τ hτ => ?_, fun _ _ _ _ h => by cases h⟩
            · cases hl2
              obtain ⟨cs, ty, p, q1, _, q2, q3, q4, q5⟩ := hH.cell b _ l' ((hcur b (List.mem_singleton_self _)).trans hk) rfl hl
              have e1 : Blk.cells ⟨.lit l, e, true, x⟩ = l := rfl
              rw [e1] at q4 q5
              have l2 : (flatR (fun i => rowCs (tabL ks.length n (l.drop o)).c (tabL ks.length n (l.drop o)).g i ks 0) n).length = n * ks.length := flatR_length (fun j => (rowCs_ok _ _ _ _ _).1) n
              refine ⟨cs, ty, p, q1, q2, rfl, ?_, fun τ => ?_⟩
              · show l'.base + o + (flatR _ n).length ≤ l'.size
                rw [l2]; omega
              · show VRl ρ τ (flatR _ n) ((cs.toList.drop (l'.base + o)).take (flatR _ n).length)
                rw [l2]
                have h5 := (q5.drop o).take (n * ks.length)
                rw [← lit_flat n b3, List.drop_take, List.take_take, List.drop_drop] at h5
                have h6 := flatR_any (τ := τ) n (fun i hi => by rw [← List.drop_drop]; exact hS i hi) h5
                have e3 : min (n * ks.length) (l.length - o) = n * ks.length := by omega
                rw [e3] at h6
                exact h6
            · have := VR.sla (ρ := ρ) (σ := τ) (b := q) (z := ks.length) (o := 0) (n := n) (c' := c') hτ (Nat.le_trans b4 hc)
              rw [Nat.zero_mul, Nat.add_zero] at this; exact this
      · cases h
  | emp =>
    simp only [rowsOf] at h
    cases h
    refine ⟨fun b hb => (by cases hb), none, hnone _, fun q τ hτ => ?_, fun _ _ _ _ h => by cases h⟩
    cases hv
    exact .sla0 _ _
  | sla b z o n =>
    simp only [rowsOf] at h
    split at h
    · rename_i m z' row hrow e x hk
      cases hb : (Nat.beq z z' && Nat.beq z ks.length && Nat.beq e z && Nat.blt b s.next) with
      | false => rw [hb] at h; cases h
      | true =>
        rw [hb, cond_true] at h
        cases h
        simp only [Bool.and_eq_true] at hb
        obtain ⟨⟨⟨b1, b2⟩, b3⟩, b4⟩ := hb
        have b1 := Nat.eq_of_beq_eq_true b1
        have b2 := Nat.eq_of_beq_eq_true b2
        have b3 := Nat.eq_of_beq_eq_true b3
        have hon := of_decide_eq_true (hsh _ (List.mem_cons_self ..))
        have hS := hsh _ (List.mem_cons_of_mem _ (List.mem_cons_self ..))
        refine ⟨fun x hx => by obtain rfl := List.mem_singleton.1 hx; exact blt_lt b4, ?_⟩
        cases hv with
        | @sla _ _ _ _ c' l hl hc =>
          refine ⟨_, key hk rfl (fun j => (hrow j).1.trans b1.symm) b2 b3 hon hS (hcur b (List.mem_singleton_self _)) hl, fun q τ hτ => ?_, fun b' z' o' n' h l' hl' => by cases h; cases hl'; exact ⟨l, hl, rfl, rfl⟩⟩
          rw [← b2]
          have := VR.sla (ρ := ρ) (σ := τ) (b := q) (z := z) (o := 0) (n := n) (c' := c') hτ hc
          rw [Nat.zero_mul, Nat.add_zero] at this; exact this
        | sla0 a c' => exact ⟨none, hnone _, fun q τ hτ => .sla0 _ _, fun _ _ _ _ _ l' h => by cases h⟩
    · rename_i m z' row hrow e x hk
      cases hb : (Nat.beq z z' && Nat.beq z ks.length && Nat.beq e z && Nat.blt b s.next) with
      | false => rw [hb] at h; cases h
      | true =>
        rw [hb, cond_true] at h
        cases h
        simp only [Bool.and_eq_true] at hb
        obtain ⟨⟨⟨b1, b2⟩, b3⟩, b4⟩ := hb
        have b1 := Nat.eq_of_beq_eq_true b1
        have b2 := Nat.eq_of_beq_eq_true b2
        have b3 := Nat.eq_of_beq_eq_true b3
        have hon := of_decide_eq_true (hsh _ (List.mem_cons_self ..))
        have hS := hsh _ (List.mem_cons_of_mem _ (List.mem_cons_self ..))
        refine ⟨fun x hx => by obtain rfl := List.mem_singleton.1 hx; exact blt_lt b4, ?_⟩
        cases hv with
        | @sla _ _ _ _ c' l hl hc =>
          refine ⟨_, key hk rfl (fun j => (hrow j).1.trans b1.symm) b2 b3 hon hS (hcur b (List.mem_singleton_self _)) hl, fun q τ hτ => ?_, fun b' z' o' n' h l' hl' => by cases h; cases hl'; exact ⟨l, hl, rfl, rfl⟩⟩
          rw [← b2]
          have := VR.sla (ρ := ρ) (σ := τ) (b := q) (z := z) (o := 0) (n := n) (c' := c') hτ hc
          rw [Nat.zero_mul, Nat.add_zero] at this; exact this
        | sla0 a c' => exact ⟨none, hnone _, fun q τ hτ => .sla0 _ _, fun _ _ _ _ _ l' h => by cases h⟩
    · cases h
  | slx b z o n c =>
    simp only [rowsOf] at h
    split at h
    · rename_i m z' row hrow e x hk
      cases hb : (Nat.beq z z' && Nat.beq z ks.length && Nat.beq e z && Nat.blt b s.next) with
      | false => rw [hb] at h; cases h
      | true =>
        rw [hb, cond_true] at h
        cases h
        simp only [Bool.and_eq_true] at hb
        obtain ⟨⟨⟨b1, b2⟩, b3⟩, b4⟩ := hb
        have b1 := Nat.eq_of_beq_eq_true b1
        have b2 := Nat.eq_of_beq_eq_true b2
        have b3 := Nat.eq_of_beq_eq_true b3
        have hon := of_decide_eq_true (hsh _ (List.mem_cons_self ..))
        have hS := hsh _ (List.mem_cons_of_mem _ (List.mem_cons_self ..))
        have hnc := of_decide_eq_true (hsh _ (List.mem_cons_of_mem _ (List.mem_cons_of_mem _ (List.mem_cons_self ..))))
        refine ⟨fun x hx => by obtain rfl := List.mem_singleton.1 hx; exact blt_lt b4, ?_⟩
        have hv := hv.slx_sla hnc
        cases hv with
        | @sla _ _ _ _ c' l hl hc =>
          refine ⟨_, key hk rfl (fun j => (hrow j).1.trans b1.symm) b2 b3 hon hS (hcur b (List.mem_singleton_self _)) hl, fun q τ hτ => ?_, fun _ _ _ _ h => by cases h⟩
          rw [← b2]
          have := VR.sla (ρ := ρ) (σ := τ) (b := q) (z := z) (o := 0) (n := n) (c' := c') hτ hc
          rw [Nat.zero_mul, Nat.add_zero] at this; exact this
        | sla0 a c' => exact ⟨none, hnone _, fun q τ hτ => .sla0 _ _, fun _ _ _ _ h => by cases h⟩
    · cases h
  | _ => simp [rowsOf] at h
theorem rowsOf_ok {s : St} {ks : List (Option IntKind)} {c : CV} {t : Tab} {sh : List Bool} {R : List Nat} (h : rowsOf s ks c = some (t, sh, R)) (hsh : ∀ b ∈ sh, b = true) {σ : Mp} {cur : Cur} {w : World} (hH : HR ρ σ cur w) (hcur : ∀ b ∈ R, cur b = s.heap.get b) {v : Value} (hv : VR ρ σ c v) :
    (∀ b ∈ R, b < s.next) ∧ ∃ lo : Option Loc, ArgAt ρ w (tabB ks t) lo ∧ ∀ (q : Nat) (τ : Mp), τ q = lo → VR ρ τ (.sla q ks.length 0 t.n) v := by
  obtain ⟨a, lo, q1, q2, _⟩ := rowsOf_ok2 h hsh hH hcur hv
  exact ⟨a, lo, q1, q2⟩
end
/-! ## Arguments -/
structure AG where
  v : AW
  sh : List Bool
  R : List Nat
mutual
noncomputable def AQ.get (s : St) : AQ → CV → AG → Option AG
  | .int k, .int k' e, g => bif decide (k = k') then (match e.num with | some n => some ⟨⟨g.v.i ++ [n], g.v.b, g.v.t⟩, g.sh, g.R⟩ | none => none) else none
  | .bool, .bool e, g => match e.val with | some b => some ⟨⟨g.v.i, g.v.b ++ [b], g.v.t⟩, g.sh, g.R⟩ | none => none
  | .agg l, .agg m, g => AQ.gets s l m g
  | .rows ks, c, g => match rowsOf s ks c with | some (t, sh, R) => some ⟨⟨g.v.i, g.v.b, g.v.t ++ [t]⟩, g.sh ++ sh, g.R ++ R⟩ | none => none
  | _, _, _ => none
noncomputable def AQ.gets (s : St) : List AQ → List CV → AG → Option AG
  | [], [], g => some g
  | p :: l, c :: m, g => match AQ.get s p c g with | some g => AQ.gets s l m g | none => none
  | _, _, _ => none
end
mutual
def AQ.ni : AQ → Nat
  | .int _ => 1
  | .bool => 0
  | .agg l => AQ.nis l
  | .rows _ => 0
def AQ.nis : List AQ → Nat
  | [] => 0
  | p :: l => p.ni + AQ.nis l
end
mutual
def AQ.nb : AQ → Nat
  | .int _ => 0
  | .bool => 1
  | .agg l => AQ.nbs l
  | .rows _ => 0
def AQ.nbs : List AQ → Nat
  | [] => 0
  | p :: l => p.nb + AQ.nbs l
end
mutual
/-- The kinds of rows of its slices. -/
def AQ.kss : AQ → List (List (Option IntKind))
  | .int _ => []
  | .bool => []
  | .agg l => AQ.ksss l
  | .rows ks => [ks]
def AQ.ksss : List AQ → List (List (Option IntKind))
  | [] => []
  | p :: l => p.kss ++ AQ.ksss l
end
mutual
def AQ.put (v : AW) : AQ → Nat → Nat → Nat → CV
  | .int k, i, _, _ => .int k (.x (v.i.getD i 0))
  | .bool, _, j, _ => .bool (.x (v.b.getD j false))
  | .agg l, i, j, q => .agg (AQ.puts v l i j q)
  | .rows ks, _, _, q => .sla q ks.length 0 (v.t.getD q .none).n
def AQ.puts (v : AW) : List AQ → Nat → Nat → Nat → List CV
  | [], _, _, _ => []
  | p :: l, i, j, q => p.put v i j q :: AQ.puts v l (i + p.ni) (j + p.nb) (q + p.kss.length)
end
/-- The blocks in which the slices lie. -/
def AQ.hp (v : AW) : List (List (Option IntKind)) → Nat → List (Nat × Blk)
  | [], _ => []
  | ks :: l, q => (q, tabB ks (v.t.getD q .none)) :: AQ.hp v l (q + 1)
def AW.pre (v w : AW) : Prop := (∃ l, w.i = v.i ++ l) ∧ (∃ l, w.b = v.b ++ l) ∧ ∃ l, w.t = v.t ++ l
theorem AW.pre_refl (v : AW) : v.pre v := ⟨⟨[], by simp⟩, ⟨[], by simp⟩, ⟨[], by simp⟩⟩
theorem AW.pre_trans {u v w : AW} (h : u.pre v) (h' : v.pre w) : u.pre w := by
  obtain ⟨⟨l, e⟩, ⟨m, f⟩, n, g⟩ := h
  obtain ⟨⟨l', e'⟩, ⟨m', f'⟩, n', g'⟩ := h'
  exact ⟨⟨l ++ l', by rw [e', e, List.append_assoc]⟩, ⟨m ++ m', by rw [f', f, List.append_assoc]⟩, ⟨n ++ n', by rw [g', g, List.append_assoc]⟩⟩
theorem rowsOf_lt {s : St} {ks : List (Option IntKind)} {c : CV} {t : Tab} {sh : List Bool} {R : List Nat} (h : rowsOf s ks c = some (t, sh, R)) : ∀ b ∈ R, b < s.next := by
  unfold rowsOf at h
  split at h
  · cases h; intro b hb; cases hb
  · cases h; intro b hb; cases hb
  · split at h
    · rename_i b z o n _ m z' row hr e x hk
      cases hb : (Nat.beq z z' && Nat.beq z ks.length && Nat.beq e z && Nat.blt b s.next) with
      | false => rw [hb] at h; cases h
      | true =>
        rw [hb, cond_true] at h
        cases h
        simp only [Bool.and_eq_true] at hb
        intro x hx
        obtain rfl := List.mem_singleton.1 hx
        exact blt_lt hb.2
    · rename_i b z o n _ m z' row hr e x hk
      cases hb : (Nat.beq z z' && Nat.beq z ks.length && Nat.beq e z && Nat.blt b s.next) with
      | false => rw [hb] at h; cases h
      | true =>
        rw [hb, cond_true] at h
        cases h
        simp only [Bool.and_eq_true] at hb
        intro x hx
        obtain rfl := List.mem_singleton.1 hx
        exact blt_lt hb.2
    · cases h
  · split at h
    · rename_i b z o n c _ m z' row hr e x hk
      cases hb : (Nat.beq z z' && Nat.beq z ks.length && Nat.beq e z && Nat.blt b s.next) with
      | false => rw [hb] at h; cases h
      | true =>
        rw [hb, cond_true] at h
        cases h
        simp only [Bool.and_eq_true] at hb
        intro x hx
        obtain rfl := List.mem_singleton.1 hx
        exact blt_lt hb.2
    · cases h
  · split at h
    · rename_i b o n c _ l e x hk
      cases hb : (Nat.ble (o + n * ks.length) l.length && Nat.ble n c && Nat.blt b s.next && chkL ks n (l.drop o)) with
      | false => rw [hb] at h; cases h
      | true =>
        rw [hb, cond_true] at h
        cases h
        simp only [Bool.and_eq_true] at hb
        intro x hx
        obtain rfl := List.mem_singleton.1 hx
        exact blt_lt hb.1.2
    · cases h
  · cases h
/-- What is there of an argument. -/
structure AGet (ρ : Env) (s : St) (nis nbs : Nat) (kss : List (List (Option IntKind))) (g g' : AG) {V : Type} (rel0 : Mp → V → Prop) (rel1 : AW → Mp → V → Prop) : Prop where
  pre : g.v.pre g'.v
  li : g'.v.i.length = g.v.i.length + nis
  lb : g'.v.b.length = g.v.b.length + nbs
  lt : g'.v.t.length = g.v.t.length + kss.length
  sh : ∃ l, g'.sh = g.sh ++ l
  R : ∃ l, g'.R = g.R ++ l
  le : (∀ b ∈ g.R, b < s.next) → ∀ b ∈ g'.R, b < s.next
  ok : ∀ (σ : Mp) (cur : Cur) (w : World) (v : V), rel0 σ v → (∀ b ∈ g'.sh, b = true) → HR ρ σ cur w → (∀ b ∈ g'.R, cur b = s.heap.get b) →
    ∃ los : List (Option Loc), los.length = kss.length ∧ (∀ (u : AW) j ks lo, g'.v.pre u → kss[j]? = some ks → los[j]? = some lo → ArgAt ρ w (tabB ks (u.t.getD (g.v.t.length + j) .none)) lo) ∧
      ∀ (u : AW) (τ : Mp), g'.v.pre u → (∀ j lo, los[j]? = some lo → τ (g.v.t.length + j) = lo) → rel1 u τ v
theorem getD_pre_end {α : Type} {l : List α} {d x : α} {m u : List α} (h : u = l ++ [x] ++ m) : u.getD l.length d = x := by rw [h]; exact getD_end
section
variable {P : Program} {ρ : Env} {s : St}
mutual
theorem AQ.get_ok : ∀ {p : AQ} {c : CV} {g g' : AG}, AQ.get s p c g = some g' → AGet ρ s p.ni p.nb p.kss g g' (fun σ v => VR ρ σ c v) (fun u τ v => VR ρ τ (AQ.put u p g.v.i.length g.v.b.length g.v.t.length) v)
  | .int k, c, g, g', h => by
    cases c <;> simp only [AQ.get] at h <;> try (cases h; done)
    rename_i k' e
    cases hk : decide (k = k') with
    | false => rw [hk] at h; cases h
    | true =>
      rw [hk, cond_true] at h
      obtain rfl := of_decide_eq_true hk
      cases e <;> simp only [IE.num] at h <;> try (cases h; done)
      all_goals
        cases h
        refine ⟨⟨⟨_, rfl⟩, ⟨[], by simp⟩, ⟨[], by simp⟩⟩, by simp [AQ.ni], by simp [AQ.nb], by simp [AQ.kss], ⟨[], by simp⟩, ⟨[], by simp⟩, fun h => h, fun σ cur w v hv _ _ _ => ⟨[], rfl, fun u j ks lo _ hj => by simp [AQ.kss] at hj, fun u τ hu _ => ?_⟩⟩
        obtain ⟨⟨l, e⟩, _⟩ := hu
        simp only [AQ.put, getD_pre_end e]
        cases hv
        first | exact .int k (.x _)
  | .bool, c, g, g', h => by
    cases c <;> simp only [AQ.get] at h <;> try (cases h; done)
    rename_i e
    cases e <;> simp only [BE.val] at h <;> try (cases h; done)
    all_goals
      cases h
      refine ⟨⟨⟨[], by simp⟩, ⟨_, rfl⟩, ⟨[], by simp⟩⟩, by simp [AQ.ni], by simp [AQ.nb], by simp [AQ.kss], ⟨[], by simp⟩, ⟨[], by simp⟩, fun h => h, fun σ cur w v hv _ _ _ => ⟨[], rfl, fun u j ks lo _ hj => by simp [AQ.kss] at hj, fun u τ hu _ => ?_⟩⟩
      obtain ⟨_, ⟨l, e⟩, _⟩ := hu
      simp only [AQ.put, getD_pre_end e]
      cases hv
      first | exact .bool (.x _)
  | .agg l, c, g, g', h => by
    cases c <;> simp only [AQ.get] at h <;> try (cases h; done)
    have k := AQ.gets_ok h
    refine ⟨k.pre, k.li, k.lb, k.lt, k.sh, k.R, k.le, fun σ cur w v hv h1 h2 h3 => ?_⟩
    obtain ⟨cs, rfl, hl⟩ := VR.agg_inv hv
    obtain ⟨los, q1, q2, q3⟩ := k.ok σ cur w _ hl h1 h2 h3
    exact ⟨los, q1, q2, fun u τ hu hτ => .agg (q3 u τ hu hτ)⟩
  | .rows ks, c, g, g', h => by
    simp only [AQ.get] at h
    split at h
    · rename_i t sh R hr
      cases h
      refine ⟨⟨⟨[], by simp⟩, ⟨[], by simp⟩, ⟨_, rfl⟩⟩, by simp [AQ.ni], by simp [AQ.nb], by simp [AQ.kss], ⟨_, rfl⟩, ⟨_, rfl⟩, fun h b hb => ?_, fun σ cur w v hv h1 h2 h3 => ?_⟩
      · rcases List.mem_append.1 hb with hb | hb
        · exact h b hb
        · exact rowsOf_lt hr b hb
      · obtain ⟨_, lo, q1, q2⟩ := rowsOf_ok hr (fun b hb => h1 b (List.mem_append_right _ hb)) h2 (fun b hb => h3 b (List.mem_append_right _ hb)) hv
        refine ⟨[lo], rfl, fun u j ks' lo' hu hj hlo => ?_, fun u τ hu hτ => ?_⟩
        · cases j with
          | zero =>
            simp only [AQ.kss, List.getElem?_cons_zero, Option.some.injEq] at hj hlo
            subst hj hlo
            obtain ⟨_, _, m, e⟩ := hu
            rw [Nat.add_zero, getD_pre_end e]
            exact q1
          | succ j => simp [AQ.kss] at hj
        · obtain ⟨_, _, m, e⟩ := hu
          simp only [AQ.put, getD_pre_end e]
          exact q2 _ τ (hτ 0 lo rfl)
    · cases h
theorem AQ.gets_ok : ∀ {l : List AQ} {m : List CV} {g g' : AG}, AQ.gets s l m g = some g' → AGet ρ s (AQ.nis l) (AQ.nbs l) (AQ.ksss l) g g' (fun σ v => VRl ρ σ m v) (fun u τ v => VRl ρ τ (AQ.puts u l g.v.i.length g.v.b.length g.v.t.length) v)
  | [], m, g, g', h => by
    cases m <;> simp only [AQ.gets] at h <;> try (cases h; done)
    cases h
    exact ⟨g.v.pre_refl, by simp [AQ.nis], by simp [AQ.nbs], by simp [AQ.ksss], ⟨[], by simp⟩, ⟨[], by simp⟩, fun h => h, fun σ cur w v hv _ _ _ => ⟨[], rfl, fun u j ks lo _ hj => by simp [AQ.ksss] at hj, fun u τ _ _ => by cases hv; exact .nil⟩⟩
  | p :: l, m, g, g', h => by
    cases m <;> simp only [AQ.gets] at h <;> try (cases h; done)
    rename_i c m
    cases hc : AQ.get s p c g with
    | none => rw [hc] at h; cases h
    | some g1 =>
      rw [hc] at h
      have k1 := AQ.get_ok hc
      have k2 := AQ.gets_ok (l := l) h
      obtain ⟨s1, e1⟩ := k1.sh
      obtain ⟨s2, e2⟩ := k2.sh
      obtain ⟨r1, f1⟩ := k1.R
      obtain ⟨r2, f2⟩ := k2.R
      refine ⟨AW.pre_trans k1.pre k2.pre, by rw [k2.li, k1.li, AQ.nis]; omega, by rw [k2.lb, k1.lb, AQ.nbs]; omega, by rw [k2.lt, k1.lt, AQ.ksss, List.length_append]; omega, ⟨s1 ++ s2, by rw [e2, e1, List.append_assoc]⟩, ⟨r1 ++ r2, by rw [f2, f1, List.append_assoc]⟩, fun h => k2.le (k1.le h), fun σ cur w v hv h1 h2 h3 => ?_⟩
      cases hv with
      | cons hv1 hvl =>
        obtain ⟨lo1, a1, a2, a3⟩ := k1.ok σ cur w _ hv1 (fun b hb => h1 b (by rw [e2]; exact List.mem_append_left _ hb)) h2 (fun b hb => h3 b (by rw [f2]; exact List.mem_append_left _ hb))
        obtain ⟨lo2, b1, b2, b3⟩ := k2.ok σ cur w _ hvl h1 h2 h3
        refine ⟨lo1 ++ lo2, by rw [List.length_append, a1, b1, AQ.ksss, List.length_append], fun u j ks lo hu hj hlo => ?_, fun u τ hu hτ => ?_⟩
        · rw [AQ.ksss] at hj
          by_cases hlt : j < p.kss.length
          · rw [List.getElem?_append_left hlt] at hj
            rw [List.getElem?_append_left (by omega)] at hlo
            exact a2 u j ks lo (AW.pre_trans k2.pre hu) hj hlo
          · rw [List.getElem?_append_right (by omega)] at hj hlo
            rw [a1] at hlo
            have := b2 u (j - p.kss.length) ks lo hu hj hlo
            rw [k1.lt] at this
            rwa [show g.v.t.length + j = g.v.t.length + p.kss.length + (j - p.kss.length) by omega]
        · simp only [AQ.puts]
          refine .cons (a3 u τ (AW.pre_trans k2.pre hu) fun j lo hj => hτ j lo (by
            rw [List.getElem?_append_left]; exact hj
            exact (List.getElem?_eq_some_iff.1 hj).1)) ?_
          have := b3 u τ hu fun j lo hj => by
            have := hτ (p.kss.length + j) lo (by rw [List.getElem?_append_right (by omega), a1, show p.kss.length + j - p.kss.length = j by omega]; exact hj)
            rw [k1.lt]
            rwa [show g.v.t.length + p.kss.length + j = g.v.t.length + (p.kss.length + j) by omega]
          rw [k1.li, k1.lb, k1.lt] at this
          exact this
end
end
/-! ## What a call makes, in the caller's memory -/
def liftName (base next b : Nat) : Nat := next + (b - base)
mutual
/-- All blocks that a value names are new ones. -/
def CV.rng (base n : Nat) : CV → Bool
  | .ptr (some (b, _)) | .slc (some (b, _)) _ _ | .slx b _ _ _ _ | .sla b _ _ _ | .ptx b _ _ _ | .map b => Nat.ble base b && Nat.blt b n
  | .agg l | .tup l => CV.rngl base n l
  | .slr _ _ _ _ | .yld _ => false
  | .fn _ l m => CV.rngl base n l && CV.rngl base n m
  | _ => true
def CV.rngl (base n : Nat) : List CV → Bool
  | [] => true
  | c :: l => c.rng base n && CV.rngl base n l
end
def BC.Rg (base n : Nat) : BC → Prop
  | .lit l => CV.rngl base n l = true
  | .rows _ _ row _ => ∀ j, CV.rngl base n (row j) = true
  | .arg _ _ row _ => ∀ j, CV.rngl base n (row j) = true
section
variable {P : Program} {ρ : Env} {base n next : Nat} {σ τ : Mp}
def LiftN (base n next : Nat) (σ τ : Mp) : Prop := ∀ j, base + j < n → ∀ l, σ (base + j) = some l → τ (next + j) = some l
theorem LiftN.at' (h : LiftN base n next σ τ) {b : Nat} {l : Loc} (hb : (Nat.ble base b && Nat.blt b n) = true) (hl : σ b = some l) : τ (liftName base next b) = some l := by
  simp only [Bool.and_eq_true] at hb
  have h1 := Nat.le_of_ble_eq_true hb.1
  have h2 := blt_lt hb.2
  have := h (b - base) (by omega) l (by rw [show base + (b - base) = b by omega]; exact hl)
  exact this
mutual
theorem VR.lift (hl : LiftN base n next σ τ) : ∀ {c : CV} {v : Value}, VR ρ σ c v → c.rng base n = true → VR ρ τ (c.ren (liftName base next)) v
  | _, _, .bool b, _ => .bool b
  | _, _, .int k e, _ => .int k e
  | _, _, .raw v, _ => .raw v
  | _, _, .ptr0, _ => .ptr0
  | _, _, .ptr h, hr => .ptr (hl.at' hr h)
  | _, _, .slc0, _ => .slc0
  | _, _, .slc h h2 h3, hr => .slc (hl.at' hr h) h2 h3
  | .slx b z o k c, _, .slx h, hr => .slx (VR.lift hl (c := .slc (some (b, o * z)) k c) h hr)
  | _, _, .sla h hc, hr => .sla (hl.at' hr h) hc
  | _, _, .sla0 a c, _ => .sla0 a c
  | _, _, .sln a c h, _ => .sln a c h
  | _, _, .slr .., hr => by simp [CV.rng] at hr
  | .ptx b z j f, _, .ptx h, hr => .ptx (VR.lift hl (c := .ptr (some (b, j * z + f))) h hr)
  | _, _, .junk h, _ => .junk h
  | _, _, .any v, _ => .any v
  | _, _, .emp a c, _ => .emp a c
  | _, _, .fn f ha hb, hr => by
    simp only [CV.rng, Bool.and_eq_true] at hr
    exact .fn f (VRl.lift hl ha hr.1) (VRl.lift hl hb hr.2)
  | _, _, .agg h, hr => .agg (VRl.lift hl h hr)
  | _, _, .tup h, hr => .tup (VRl.lift hl h hr)
  | _, _, .yld h, hr => by simp [CV.rng] at hr
  | _, _, .map h, hr => .map (hl.at' hr h)
theorem VRl.lift (hl : LiftN base n next σ τ) : ∀ {l : List CV} {vs : List Value}, VRl ρ σ l vs → CV.rngl base n l = true → VRl ρ τ (CV.renl (liftName base next) l) vs
  | _, _, .nil, _ => .nil
  | _, _, .cons h t, hr => by
    simp only [CV.rngl, Bool.and_eq_true] at hr
    exact .cons (VR.lift hl h hr.1) (VRl.lift hl t hr.2)
end
theorem Blk.lift (hl : LiftN base n next σ τ) {k : Blk} (hr : k.body.Rg base n) {us : List Value} (h : VRl ρ σ k.cells us) : VRl ρ τ (k.ren (liftName base next)).cells us := by
  obtain ⟨b, e, v, x⟩ := k
  have rows : ∀ (row : Nat → List CV), (∀ j, CV.rngl base n (row j) = true) → ∀ m us, VRl ρ σ (flatR row m) us → VRl ρ τ (flatR (fun j => CV.renl (liftName base next) (row j)) m) us := by
    intro row hrow m
    induction m with
    | zero => intro us h; cases h; exact .nil
    | succ m ih =>
      intro us h
      rw [flatR] at h
      obtain ⟨x, y, rfl, h1, h2⟩ := h.cut
      rw [flatR]
      exact (ih _ h1).append (VRl.lift hl h2 (hrow m))
  cases b with
  | lit l => exact VRl.lift hl h hr
  | rows m z row hrow => exact rows row hr m us h
  | arg m z row hrow => exact rows row hr m us h
noncomputable def putNew (base next : Nat) (h : Tr Blk) : List (Nat × Blk) → Tr Blk
  | [] => h
  | (b, k) :: l => (putNew base next h l).set (liftName base next b) (k.ren (liftName base next))
theorem get_putNew (h : Tr Blk) (t : Nat) : ∀ (l : List (Nat × Blk)), (putNew base next h l).get t = match l.find? (fun x => liftName base next x.1 == t) with | some x => some (x.2.ren (liftName base next)) | none => h.get t
  | [] => rfl
  | (u, c) :: l => by
    have ih := get_putNew h t l
    simp only [putNew, Tr.get_set, List.find?_cons]
    by_cases h : t = liftName base next u
    · subst h; simp
    · have h' : (liftName base next u == t) = false := by simp; exact fun e => h e.symm
      rw [if_neg h, h']
      exact ih
/-- A contract where nothing old is written, in any memory; its arguments' blocks are read alone. -/
theorem Ctr.callQ {Q : Mp → Mp → Prop} {f : Nat} {args args2 : List CV} {h0 h1 : Tr Blk} {c c2 : CV} {n1 : Nat} {s s' : St} {R : List Nat} {memo : Memo} (K : (∀ p ∈ s'.pc, p.holds ρ) → Ctr P ρ f args h0 base [] c h1 n1) (hfn : ∃ fn, P.funcs[f]? = some fn ∧ fn.body.isSome = true)
    (hle : base ≤ n1) (hn : s'.next = s.next + (n1 - base)) (hpc : ∃ l, s'.pc = l ++ s.pc) (hold : ∀ b, ¬ (s.next ≤ b ∧ b < s'.next) → s'.heap.get b = s.heap.get b)
    (hnew : ∀ j, base + j < n1 → ∀ k, s'.heap.get (s.next + j) = some k → ∃ k0, h1.get (base + j) = some k0 ∧ k.live = k0.live ∧ k.esz = k0.esz ∧ k.ext = none ∧ (k.ro = false → k0.ro = false) ∧ ∀ σ σ2 us, LiftN base n1 s.next σ σ2 → VRl ρ σ k0.cells us → VRl ρ σ2 k.cells us)
    (hR : ∀ b ∈ R, b < s.next)
    (hin : ∀ (σ : Mp) (cur : Cur) (w : World) (l : List Value), (∀ p ∈ s'.pc, p.holds ρ) → VRl ρ σ args2 l → HR ρ σ cur w → (∀ b ∈ R, cur b = s.heap.get b) → ∃ σc : Mp, VRl ρ σc args l ∧ HR ρ σc (curOf h0 base) w ∧ (∀ b, base ≤ b → σc b = none) ∧ Q σc σ)
    (hc : ∀ σ σ2 σc σ0 v, LiftN base n1 s.next σ σ2 → (∀ b, b < base → σ b = σc b) → (∀ b, b < s.next → σ2 b = σ0 b) → Q σc σ0 → VR ρ σ c v → VR ρ σ2 c2 v) :
    CallOk P (ctxOf P memo) ρ f args2 s c2 s' R [] := by
  refine ⟨hfn, ⟨by omega, fun b _ hb => hold b hb, hpc⟩, ⟨hR, fun b hb => by cases hb⟩, ?_⟩
  intro n σ cur w args' hp hargs' hH hA hN
  have K := K hp
  obtain ⟨σc, i1, i2, i3, iq⟩ := hin σ cur w _ hp hargs' hH (fun b hb => hA b (.inl hb))
  refine CallsIn.mono (K.run n σc w args' i1 i2 i3) ?_
  rintro e w' ⟨v, rfl, σ', x1, x2, x3, x4, x5⟩
  have x1 : Ext σc σ' base n1 := x1
  have x3 : HR ρ σ' (upd (curOf h0 base) base n1 h1 []) w' := x3
  have x5 : Fresh σc σ' base n1 base [] w := x5
  have same : ∀ k, k < w.heap.size → w'.heap[k]? = w.heap[k]? := fun k hk => x4.block k hk (fun b hb l hl => by
    rcases hb with hb | hb
    · cases hb
    · rw [i3 b hb] at hl; cases hl)
  have fresh : ∀ j l, base + j < n1 → σ' (base + j) = some l → w.heap.size ≤ l.blk := fun j l hj hl => by
    rcases x5 (base + j) l (by omega) hj hl with h | ⟨b0, hb0, l0, h1, h2⟩
    · exact h
    · rcases hb0 with hb0 | hb0
      · cases hb0
      · rw [i3 b0 hb0] at h1; cases h1
  obtain ⟨σ2, hσ2⟩ : ∃ σ2 : Mp, σ2 = fun b => if s.next ≤ b ∧ b < s'.next then σ' (base + (b - s.next)) else σ b := ⟨_, rfl⟩
  have e1 : ∀ j, base + j < n1 → σ2 (s.next + j) = σ' (base + j) := fun j hj => by
    rw [hσ2]
    show (if s.next ≤ s.next + j ∧ s.next + j < s'.next then σ' (base + (s.next + j - s.next)) else σ _) = _
    rw [if_pos ⟨by omega, by omega⟩, Nat.add_sub_cancel_left]
  have e2 : ∀ b, ¬ (s.next ≤ b ∧ b < s'.next) → σ2 b = σ b := fun b hb => by rw [hσ2]; exact if_neg hb
  have hle2 : σ.le σ2 := fun b l hl => by
    by_cases hb : s.next ≤ b ∧ b < s'.next
    · rw [hN b hb.1 hb.2] at hl; cases hl
    · rw [e2 b hb]; exact hl
  have lift : LiftN base n1 s.next σ' σ2 := fun j hj l hl => by rw [e1 j hj]; exact hl
  have old : ∀ b k, upd cur s.next s'.next s'.heap [] b = some k → ∀ l, σ2 b = some l → (∃ j, b = s.next + j ∧ base + j < n1 ∧ s'.heap.get b = some k ∧ σ' (base + j) = some l) ∨ (¬ (s.next ≤ b ∧ b < s'.next) ∧ cur b = some k ∧ σ b = some l) := by
    intro b k hk l hl
    unfold upd at hk
    by_cases hb : s.next ≤ b ∧ b < s'.next
    · left
      rw [if_pos (.inr hb)] at hk
      obtain ⟨j, rfl⟩ : ∃ j, b = s.next + j := ⟨b - s.next, by omega⟩
      exact ⟨j, rfl, by omega, hk, by rw [← e1 j (by omega)]; exact hl⟩
    · right
      rw [if_neg (by simpa using hb)] at hk
      exact ⟨hb, hk, by rw [← e2 b hb]; exact hl⟩
  have up1 : ∀ j k0, base + j < n1 → h1.get (base + j) = some k0 → upd (curOf h0 base) base n1 h1 [] (base + j) = some k0 := fun j k0 hj hk => by
    show (if base + j ∈ [] ∨ (base ≤ base + j ∧ base + j < n1) then h1.get (base + j) else _) = _
    rw [if_pos (.inr ⟨by omega, hj⟩)]; exact hk
  refine ⟨v, rfl, σ2, fun b hb => e2 b (by omega), hc _ _ _ _ _ lift (fun b hb => x1 b (.inl hb)) (fun b hb => e2 b (by omega)) iq x2, ?_, .of_same x4.os x4.tape x4.output x4.size same, fun b l b1 b2 b3 => ?_⟩
  · refine ⟨fun b k l a1 a2 a3 => ?_, fun b b' k k' l l' a1 a2 a3 a4 a5 a6 a7 a8 => ?_, fun b k x l a1 a2 a3 => ?_, fun b b' k k' x x' l l' a1 a2 a3 a4 a5 a6 a7 => ?_, fun y hy => ?_⟩
    · rcases old b k a1 l a3 with ⟨j, rfl, hj, hk, hl⟩ | ⟨hb, hk, hl⟩
      · obtain ⟨k0, g1, g2, g3, g4, gr, g5⟩ := hnew j hj k hk
        obtain ⟨cs, t, ppr1, r1, qqr1, r2, r3, r4, r5⟩ := x3.cell (base + j) k0 l (up1 j k0 hj g1) (g2 ▸ a2) hl
        have r6 := g5 _ _ _ lift r5
        have hlen : k.cells.length = k0.cells.length := r6.length.symm.trans r5.length
        exact ⟨cs, t, ppr1, r1, fun h => qqr1 (gr h), r2, g3.trans r3, by rw [hlen]; exact r4, by rw [hlen]; exact r6⟩
      · obtain ⟨cs, t, ppr1, r1, qqr1, r2, r3, r4, r5⟩ := hH.cell b k l hk a2 hl
        exact ⟨cs, t, ppr1, by rw [same _ (Array.getElem?_eq_some_iff.1 r1).1]; exact r1, qqr1, r2, r3, r4, r5.mono hle2⟩
    · rcases old b k a1 l a3 with ⟨j, rfl, hj, hk, hl⟩ | ⟨hb, hk, hl⟩ <;> rcases old b' k' a4 l' a6 with ⟨j', rfl, hj', hk', hl'⟩ | ⟨hb', hk', hl'⟩
      · obtain ⟨k0, g1, g2, _, _, gr, _⟩ := hnew j hj k hk
        obtain ⟨k1, g1', g2', _, _, gr', _⟩ := hnew j' hj' k' hk'
        have := x3.inj _ _ k0 k1 l l' (up1 j k0 hj g1) (g2 ▸ a2) hl (up1 j' k1 hj' g1') (g2' ▸ a5) hl' a7 (a8.imp gr gr')
        omega
      · have f1 := fresh j l hj hl
        have f2 := hH.lt hk' a5 hl'
        omega
      · have f1 := fresh j' l' hj' hl'
        have f2 := hH.lt hk a2 hl
        omega
      · exact hH.inj b b' k k' l l' hk a2 hl hk' a5 hl' a7 a8
    · rcases old b k a1 l a3 with ⟨j, rfl, hj, hk, hl⟩ | ⟨hb, hk, hl⟩
      · obtain ⟨_, _, _, _, g4, _⟩ := hnew j hj k hk
        rw [g4] at a2; cases a2
      · have hs := hH.spec b k x l hk a2 hl
        exact (hs.heap (same _ hs.lt)).mono hle2
    · rcases old b k a1 l a3 with ⟨j, rfl, hj, hk, hl⟩ | ⟨hb, hk, hl⟩
      · obtain ⟨_, _, _, _, g4, _⟩ := hnew j hj k hk
        rw [g4] at a2; cases a2
      · rcases old b' k' a4 l' a6 with ⟨j', rfl, hj', hk', hl'⟩ | ⟨hb', hk', hl'⟩
        · obtain ⟨_, _, _, _, g4, _⟩ := hnew j' hj' k' hk'
          rw [g4] at a5; cases a5
        · exact hH.injX b b' k k' x x' l l' hk a2 hl hk' a5 hl' a7
    · obtain ⟨⟨t0, h0⟩, hd⟩ := hH.glob y hy
      have hlt := (Array.getElem?_eq_some_iff.1 h0).1
      refine ⟨⟨t0, (same _ hlt).trans h0⟩, fun b k l a1 a2 ar a3 => ?_⟩
      rcases old b k a1 l a3 with ⟨j, rfl, hj, hk, hl⟩ | ⟨hb, hk, hl⟩
      · have := fresh j l hj hl
        omega
      · exact hd b k l hk a2 ar hl
  · rcases Nat.lt_or_ge b (s.next + (n1 - base)) with hlt | hge
    · obtain ⟨j, rfl⟩ : ∃ j, b = s.next + j := ⟨b - s.next, by omega⟩
      rw [e1 j (by omega)] at b3
      exact .inl (fresh j l (by omega) b3)
    · omega
theorem Ctr.callS {f : Nat} {args args2 : List CV} {h0 h1 : Tr Blk} {c c2 : CV} {n1 : Nat} {s s' : St} {R : List Nat} {memo : Memo} (K : (∀ p ∈ s'.pc, p.holds ρ) → Ctr P ρ f args h0 base [] c h1 n1) (hfn : ∃ fn, P.funcs[f]? = some fn ∧ fn.body.isSome = true)
    (hle : base ≤ n1) (hn : s'.next = s.next + (n1 - base)) (hpc : ∃ l, s'.pc = l ++ s.pc) (hold : ∀ b, ¬ (s.next ≤ b ∧ b < s'.next) → s'.heap.get b = s.heap.get b)
    (hnew : ∀ j, base + j < n1 → ∀ k, s'.heap.get (s.next + j) = some k → ∃ k0, h1.get (base + j) = some k0 ∧ k.live = k0.live ∧ k.esz = k0.esz ∧ k.ext = none ∧ (k.ro = false → k0.ro = false) ∧ ∀ σ σ2 us, LiftN base n1 s.next σ σ2 → VRl ρ σ k0.cells us → VRl ρ σ2 k.cells us)
    (hR : ∀ b ∈ R, b < s.next)
    (hin : ∀ (σ : Mp) (cur : Cur) (w : World) (l : List Value), (∀ p ∈ s'.pc, p.holds ρ) → VRl ρ σ args2 l → HR ρ σ cur w → (∀ b ∈ R, cur b = s.heap.get b) → ∃ σc : Mp, VRl ρ σc args l ∧ HR ρ σc (curOf h0 base) w ∧ ∀ b, base ≤ b → σc b = none)
    (hc : ∀ σ σ2 v, LiftN base n1 s.next σ σ2 → VR ρ σ c v → VR ρ σ2 c2 v) :
    CallOk P (ctxOf P memo) ρ f args2 s c2 s' R [] :=
  Ctr.callQ (Q := fun _ _ => True) K hfn hle hn hpc hold hnew hR (fun σ cur w l h1 h2 h3 h4 => by
    obtain ⟨σc, a, b, c⟩ := hin σ cur w l h1 h2 h3 h4
    exact ⟨σc, a, b, c, trivial⟩) (fun σ σ2 _ _ v h _ _ _ hv => hc σ σ2 v h hv)
end
/-! ## The memo -/
/-- Calls of a function with slices are known from its automaton: rw, hw, nw: what it yields, the blocks that it makes, their number. -/
noncomputable def memoS {N R : Type} [Inhabited R] (g : Nat) (ps : List AQ) (F : AW → AF N R) (rw' : R → CV) (hw : R → List (Nat × Blk)) (nw : Nat) (inner : Memo) : Memo := fun f args s =>
  bif Nat.beq f g then
    match AQ.gets s ps args ⟨⟨[], [], []⟩, [], []⟩ with
    | some a => match s.musts (a.sh ++ [(F a.v).fin]) with
      | some s1 => some ((rw' (F a.v).val).ren (liftName (AQ.ksss ps).length s.next), { s1 with heap := putNew (AQ.ksss ps).length s.next s.heap (hw (F a.v).val), next := s.next + (nw - (AQ.ksss ps).length) }, a.R, [])
      | none => none
    | none => inner f args s
  else inner f args s
structure KnownS (P : Program) (ρ : Env) (g : Nat) (ps : List AQ) {N R : Type} (F : AW → AF N R) (rw' : R → CV) (hw : R → List (Nat × Blk)) (nw : Nat) : Prop where
  fn : ∃ fn, P.funcs[g]? = some fn ∧ fn.body.isSome = true
  le : (AQ.ksss ps).length ≤ nw
  full : ∀ r, (hw r).map Prod.fst = List.range' (AQ.ksss ps).length (nw - (AQ.ksss ps).length)
  rg : ∀ r, (rw' r).rng (AQ.ksss ps).length nw = true
  hg : ∀ r, ∀ x ∈ hw r, x.2.body.Rg (AQ.ksss ps).length nw ∧ x.2.ext = none
  ctr : ∀ v n r, (F v).run n = some r → Ctr P ρ g (AQ.puts v ps 0 0 0) (mkH (AQ.hp v (AQ.ksss ps) 0)) (AQ.ksss ps).length [] (rw' r) (putH (mkH (AQ.hp v (AQ.ksss ps) 0)) (hw r)) nw
theorem find_congr {α : Type} {p q : α → Bool} : ∀ {l : List α}, (∀ x ∈ l, p x = q x) → l.find? p = l.find? q
  | [], _ => rfl
  | a :: l, h => by
    simp only [List.find?_cons, h a (List.mem_cons_self ..), find_congr (l := l) fun x hx => h x (List.mem_cons_of_mem _ hx)]
theorem hp_get {v : AW} (i : Nat) : ∀ (l : List (List (Option IntKind))) (q : Nat) (k : Blk), (mkH (AQ.hp v l q)).get i = some k → ∃ j ks, i = q + j ∧ l[j]? = some ks ∧ k = tabB ks (v.t.getD i .none)
  | [], q, k, h => by simp [AQ.hp, mkH, Tr.get_nil] at h
  | ks :: l, q, k, h => by
    simp only [AQ.hp, mkH, Tr.get_set] at h
    by_cases hi : i = q
    · rw [if_pos hi] at h
      cases h
      exact ⟨0, ks, by omega, rfl, by rw [hi]⟩
    · rw [if_neg hi] at h
      obtain ⟨j, ks', h1, h2, h3⟩ := hp_get i l (q + 1) k h
      exact ⟨j + 1, ks', by omega, by simpa using h2, h3⟩
theorem memoS_ok {P : Program} {ρ : Env} {N R : Type} [Inhabited R] {g : Nat} {ps : List AQ} {F : AW → AF N R} {rw' : R → CV} {hw : R → List (Nat × Blk)} {nw : Nat} {inner : Memo} (K : KnownS P ρ g ps F rw' hw nw) (hi : MemoOk P (ctxOf P inner) ρ) : MemoOk P (ctxOf P (memoS g ps F rw' hw nw inner)) ρ := by
  have lift : ∀ {f args s c s' R' W}, CallOk P (ctxOf P inner) ρ f args s c s' R' W → CallOk P (ctxOf P (memoS g ps F rw' hw nw inner)) ρ f args s c s' R' W := fun h => ⟨h.fn, h.frm, h.lt, h.run⟩
  intro f args s c s' R' W h0
  have h : memoS g ps F rw' hw nw inner f args s = some (c, s', R', W) := h0
  clear h0
  unfold memoS at h
  cases hf : Nat.beq f g with
  | false => rw [hf, cond_false] at h; exact lift (hi _ _ _ _ _ _ _ h)
  | true =>
    rw [hf, cond_true] at h
    obtain rfl := Nat.eq_of_beq_eq_true hf
    split at h
    · rename_i a ha
      split at h
      · rename_i s1 hm
        cases h
        obtain ⟨m1, m2, ⟨lm, m3⟩, m4⟩ := musts_parts (ρ := ρ) hm
        have k := AQ.gets_ok (ρ := ρ) ha
        have facts : (∀ p ∈ s1.pc, p.holds ρ) → ∀ b ∈ a.sh ++ [(F a.v).fin], b = true := m4
        have hR := k.le (fun b hb => by cases hb)
        have find : ∀ (r : R) (j : Nat), (AQ.ksss ps).length + j < nw → ∃ x, (hw r).find? (fun x => x.1 == (AQ.ksss ps).length + j) = some x := fun r j hj => by
          have hmem : (AQ.ksss ps).length + j ∈ (hw r).map Prod.fst := by rw [K.full]; rw [List.mem_range']; exact ⟨j, by omega, by omega⟩
          obtain ⟨x, hx, he⟩ := List.mem_map.1 hmem
          cases hf : (hw r).find? (fun x => x.1 == (AQ.ksss ps).length + j) with
          | some y => exact ⟨y, rfl⟩
          | none =>
            rw [List.find?_eq_none] at hf
            exact absurd (by simp [he]) (hf x hx)
        have rngw : ∀ (r : R), ∀ x ∈ hw r, (AQ.ksss ps).length ≤ x.1 ∧ x.1 < nw := fun r x hx => by
          have : x.1 ∈ (hw r).map Prod.fst := List.mem_map.2 ⟨x, hx, rfl⟩
          rw [K.full, List.mem_range'] at this
          obtain ⟨i, h1, h2⟩ := this
          omega
        refine Ctr.callS (base := (AQ.ksss ps).length) (n1 := nw) (args := AQ.puts a.v ps 0 0 0) (h0 := mkH (AQ.hp a.v (AQ.ksss ps) 0)) (h1 := putH (mkH (AQ.hp a.v (AQ.ksss ps) 0)) (hw (F a.v).val)) (K := fun hp => ?_) K.fn K.le rfl ⟨lm, m3⟩ (fun b hb => ?_) (fun j hj kb hk => ?_) hR (fun σ cur w l hp hl hH hcur => ?_) (fun σ σ2 v hl hv => hv.lift hl (K.rg _))
        · have hfin : (F a.v).fin = true := facts hp _ (List.mem_append_right _ (List.mem_singleton_self _))
          obtain ⟨n, hn⟩ := AF.fin_run hfin
          exact K.ctr a.v n _ hn
        · show (putNew _ _ _ _).get b = _
          rw [get_putNew]
          split
          · rename_i x hx
            have h1 := List.find?_some hx
            have h2 := List.mem_of_find?_eq_some hx
            simp only [beq_iff_eq] at h1
            obtain ⟨q1, q2⟩ := rngw _ x h2
            refine absurd ?_ hb
            show s.next ≤ b ∧ b < s.next + (nw - (AQ.ksss ps).length)
            unfold liftName at h1
            omega
          · rfl
        · have hk : (putNew (AQ.ksss ps).length s.next s.heap (hw (F a.v).val)).get (s.next + j) = some kb := hk
          rw [get_putNew] at hk
          have e : ∀ x ∈ hw (F a.v).val, (liftName (AQ.ksss ps).length s.next x.1 == s.next + j) = (x.1 == (AQ.ksss ps).length + j) := fun x hx => by
            obtain ⟨q1, q2⟩ := rngw _ x hx
            unfold liftName
            rw [Bool.eq_iff_iff]
            simp only [beq_iff_eq]
            omega
          obtain ⟨x, hx⟩ := find (F a.v).val j hj
          have hx2 : (hw (F a.v).val).find? (fun x => liftName (AQ.ksss ps).length s.next x.1 == s.next + j) = some x := by
            rw [← hx]
            exact find_congr e
          rw [hx2] at hk
          cases hk
          have hmem := List.mem_of_find?_eq_some hx
          obtain ⟨g1, g2⟩ := K.hg _ x hmem
          refine ⟨x.2, ?_, rfl, rfl, rfl, fun h => ?_, fun σ σ2 us hl h => Blk.lift hl g1 h⟩
          · rw [get_putH, hx]
          · have : (x.2.ren (liftName (AQ.ksss ps).length s.next)).ro = x.2.ro := by
              generalize x.2 = kk
              obtain ⟨bb, e, v, xx⟩ := kk
              cases bb <;> rfl
            rw [← this]; exact h
        · have fa := facts hp
          obtain ⟨los, q1, q2, q3⟩ := k.ok σ cur w l hl (fun b hb => fa b (List.mem_append_left _ hb)) hH hcur
          refine ⟨fun b => if b < (AQ.ksss ps).length then (los[b]?).getD none else none, ?_, HR.ofArgs (HR.laid (by assumption)) (fun i kb hi hk => ?_), fun b hb => if_neg (by omega)⟩
          · refine q3 a.v _ a.v.pre_refl (fun j lo hj => ?_)
            have : j < los.length := (List.getElem?_eq_some_iff.1 hj).1
            have hz : (0 : Nat) + j = j := Nat.zero_add j
            show (if ([] : List Tab).length + j < _ then _ else none) = lo
            simp only [List.length_nil, hz]
            rw [if_pos (by omega), hj]; rfl
          · obtain ⟨j, ks, rfl, h2, rfl⟩ := hp_get i _ _ _ hk
            rw [Nat.zero_add] at *
            have hjl : j < los.length := by omega
            have := q2 a.v j ks los[j] a.v.pre_refl h2 (List.getElem?_eq_getElem hjl)
            rw [if_pos hi, List.getElem?_eq_getElem hjl]
            have hz : (([] : List Tab).length + j) = j := by simp
            simp only [List.length_nil, Nat.zero_add] at this
            exact this
      · cases h
    · exact lift (hi _ _ _ _ _ _ _ h)
/-- A contract that says less: the value by a wider shape, more numbers. -/
theorem Ctr.weaken {P : Program} {ρ : Env} {f : Nat} {args : List CV} {h0 h h' : Tr Blk} {base n n' : Nat} {c c' : CV} (K : Ctr P ρ f args h0 base [] c h n) (hb : base ≤ n) (hn : n ≤ n') (hc : ∀ σ v, VR ρ σ c v → VR ρ σ c' v) (hh : ∀ b, base ≤ b → b < n → h'.get b = h.get b) : Ctr P ρ f args h0 base [] c' h' n' := by
  refine ⟨K.fn, fun m σ w args' ha hH hN => CallsIn.mono (K.run m σ w args' ha hH hN) ?_⟩
  rintro e w' ⟨v, rfl, σ', x1, x2, x3, x4, x5⟩
  have x1 : Ext σ σ' base n := x1
  have x3 : HR ρ σ' (upd (curOf h0 base) base n h []) w' := x3
  have x5 : Fresh σ σ' base n base [] w := x5
  have lt : ∀ b l, σ' b = some l → b < n := fun b l hl => by
    by_cases h : b < n
    · exact h
    · rw [x1 b (.inr (by omega)), hN b (by omega)] at hl; cases hl
  have cur : ∀ b l, σ' b = some l → upd (curOf h0 base) base n' h' [] b = upd (curOf h0 base) base n h [] b := fun b l hl => by
    have := lt b l hl
    unfold upd
    by_cases hbb : base ≤ b
    · rw [if_pos (.inr ⟨hbb, by omega⟩), if_pos (.inr ⟨hbb, this⟩), hh b hbb this]
    · rw [if_neg (by simp; omega), if_neg (by simp; omega)]
  refine ⟨v, rfl, σ', fun b hb => x1 b (by have hb : b < base ∨ n' ≤ b := hb; omega), hc _ _ x2, ?_, x4, fun b l b1 b2 b3 => x5 b l b1 (lt b l b3) b3⟩
  refine ⟨fun b k l a1 a2 a3 => x3.cell b k l ((cur b l a3).symm.trans a1) a2 a3, fun b b' k k' l l' a1 a2 a3 a4 a5 a6 => x3.inj b b' k k' l l' ((cur b l a3).symm.trans a1) a2 a3 ((cur b' l' a6).symm.trans a4) a5 a6, fun b k x l a1 a2 a3 => x3.spec b k x l ((cur b l a3).symm.trans a1) a2 a3, fun b b' k k' x x' l l' a1 a2 a3 a4 a5 a6 => x3.injX b b' k k' x x' l l' ((cur b l a3).symm.trans a1) a2 a3 ((cur b' l' a6).symm.trans a4) a5 a6, fun y hy => ⟨(x3.glob y hy).1, fun b k l a1 a2 ar a3 => (x3.glob y hy).2 b k l ((cur b l a3).symm.trans a1) a2 ar a3⟩⟩
/-- A contract that says less: blocks with the same cells. -/
theorem Ctr.forget {P : Program} {ρ : Env} {f : Nat} {args : List CV} {h0 h h' : Tr Blk} {base n n' : Nat} {c c' : CV} (K : Ctr P ρ f args h0 base [] c h n) (hb : base ≤ n) (hn : n ≤ n') (hc : ∀ σ v, VR ρ σ c v → VR ρ σ c' v) (hh : ∀ b, base ≤ b → b < n → ∀ k, h'.get b = some k → ∃ k2, h.get b = some k2 ∧ k2.live = k.live ∧ k2.ro = k.ro ∧ k2.esz = k.esz ∧ k2.cells = k.cells ∧ k2.ext = k.ext) : Ctr P ρ f args h0 base [] c' h' n' := by
  refine ⟨K.fn, fun m σ w args' ha hH hN => CallsIn.mono (K.run m σ w args' ha hH hN) ?_⟩
  rintro e w' ⟨v, rfl, σ', x1, x2, x3, x4, x5⟩
  have x1 : Ext σ σ' base n := x1
  have x3 : HR ρ σ' (upd (curOf h0 base) base n h []) w' := x3
  have x5 : Fresh σ σ' base n base [] w := x5
  have lt : ∀ b l, σ' b = some l → b < n := fun b l hl => by
    by_cases h : b < n
    · exact h
    · rw [x1 b (.inr (by omega)), hN b (by omega)] at hl; cases hl
  have cur : ∀ b l k, σ' b = some l → upd (curOf h0 base) base n' h' [] b = some k → ∃ k2, upd (curOf h0 base) base n h [] b = some k2 ∧ k2.live = k.live ∧ k2.ro = k.ro ∧ k2.esz = k.esz ∧ k2.cells = k.cells ∧ k2.ext = k.ext := fun b l k hl hk => by
    have := lt b l hl
    unfold upd at hk ⊢
    by_cases hbb : base ≤ b
    · rw [if_pos (.inr ⟨hbb, by omega⟩)] at hk
      rw [if_pos (.inr ⟨hbb, this⟩)]
      exact hh b hbb this k hk
    · rw [if_neg (by simp; omega)] at hk
      rw [if_neg (by simp; omega)]
      exact ⟨k, hk, rfl, rfl, rfl, rfl, rfl⟩
  refine ⟨v, rfl, σ', fun b hb => x1 b (by have hb : b < base ∨ n' ≤ b := hb; omega), hc _ _ x2, ?_, x4, fun b l b1 b2 b3 => x5 b l b1 (lt b l b3) b3⟩
  refine ⟨fun b k l a1 a2 a3 => ?_, fun b b' k k' l l' a1 a2 a3 a4 a5 a6 => ?_, fun b k x l a1 a2 a3 => ?_, fun b b' k k' x x' l l' a1 a2 a3 a4 a5 a6 => ?_, fun y hy => ⟨(x3.glob y hy).1, fun b k l a1 a2 ar a3 => ?_⟩⟩
  · obtain ⟨k2, q, e1, e2, e3, e4, _⟩ := cur b l k a3 a1
    have h := x3.cell b k2 l q (e1.trans a2) a3
    rw [e2, e3, e4] at h
    exact h
  · obtain ⟨k2, q, e1, e2, _⟩ := cur b l k a3 a1
    obtain ⟨k3, q', e1', e2', _⟩ := cur b' l' k' a6 a4
    have h := x3.inj b b' k2 k3 l l' q (e1.trans a2) a3 q' (e1'.trans a5) a6
    rw [e2, e2'] at h
    exact h
  · obtain ⟨k2, q, _, _, _, _, e5⟩ := cur b l k a3 a1
    exact x3.spec b k2 x l q (e5.trans a2) a3
  · obtain ⟨k2, q, _, _, _, _, e5⟩ := cur b l k a3 a1
    obtain ⟨k3, q', _, _, _, _, e5'⟩ := cur b' l' k' a6 a4
    exact x3.injX b b' k2 k3 x x' l l' q (e5.trans a2) a3 q' (e5'.trans a5) a6
  · obtain ⟨k2, q, e1, e2, _⟩ := cur b l k a3 a1
    exact (x3.glob y hy).2 b k2 l q (e1.trans a2) (e2.trans ar) a3
section
variable {ρ : Env} {σ : Mp}
theorem VR.empty_sla {b b' o z c : Nat} {v : Value} (h : VR ρ σ (.slc (some (b, o)) 0 c) v) : VR ρ σ (.sla b' z 0 0) v := by cases h; exact .sla0 _ _
theorem VR.as_sla {b z n : Nat} {v : Value} (h : VR ρ σ (.slx b z 0 n n) v) : VR ρ σ (.sla b z 0 n) v := h.slx_sla (Nat.le_refl _)
theorem VR.nil_sla {b z : Nat} {v : Value} (h : VR ρ σ (.slc none 0 0) v) : VR ρ σ (.sla b z 0 0) v := by cases h; exact .sla0 _ _
theorem VR.agg_imp {l m : List CV} (hl : ∀ vs, VRl ρ σ l vs → VRl ρ σ m vs) {v : Value} (h : VR ρ σ (.agg l) v) : VR ρ σ (.agg m) v := by
  obtain ⟨cs, rfl, h1⟩ := h.agg_inv
  exact .agg (hl _ h1)
theorem VR.tup_imp {l m : List CV} (hl : ∀ vs, VRl ρ σ l vs → VRl ρ σ m vs) {v : Value} (h : VR ρ σ (.tup l) v) : VR ρ σ (.tup m) v := by
  obtain ⟨cs, rfl, h1⟩ := h.tup_inv
  exact .tup (hl _ h1)
theorem VRl.nil_imp : ∀ vs, VRl ρ σ [] vs → VRl ρ σ [] vs := fun _ h => h
theorem VRl.cons_imp {a b : CV} {l m : List CV} (ha : ∀ v, VR ρ σ a v → VR ρ σ b v) (hl : ∀ vs, VRl ρ σ l vs → VRl ρ σ m vs) : ∀ vs, VRl ρ σ (a :: l) vs → VRl ρ σ (b :: m) vs := fun vs h => by
  cases h with
  | cons h t => exact .cons (ha _ h) (hl _ t)
end
end Go.Proofs.Ythagjhadjpangaa.Cx

/- Lemmas for terms that are laid at the root (tools/cxroot.py). -/
namespace Go.Proofs.Ythagjhadjpangaa.Cx
set_option linter.unusedVariables false
open Go Go.RowKit
section
variable {ρ : Env}
end
section
variable {ρ : Env} {A B : IE} {x y z : Int}
end
section
variable {ρ : Env} {A B : IE} {x y : Int}
end
end Go.Proofs.Ythagjhadjpangaa.Cx

/- Quotients, rounded toward 0, by a symbol: what they are, how they grow, when they reach a number. -/
namespace Go.Proofs.Ythagjhadjpangaa.Cx
set_option linter.unusedVariables false
set_option linter.unusedSimpArgs false
open Go Go.RowKit
end Go.Proofs.Ythagjhadjpangaa.Cx

/- A number from 0 on over a number, in lowest terms: its parts, and what they are where it is whole. -/
namespace Go.Proofs.Ythagjhadjpangaa.Cx
set_option linter.unusedVariables false
open Go Go.RowKit
end Go.Proofs.Ythagjhadjpangaa.Cx

/- Quotients by a symbol that may be 0 (0 then, as the model has it; no test is behind it). -/
namespace Go.Proofs.Ythagjhadjpangaa.Cx
set_option linter.unusedVariables false
open Go Go.RowKit
end Go.Proofs.Ythagjhadjpangaa.Cx

/- AUTOMATA AND INVARIANTS: a tree of tests on Lean's numbers as one of terms; a loop by its invariant and a measure. -/
namespace Go.Proofs.Ythagjhadjpangaa.Cx
set_option linter.unusedVariables false
set_option linter.unusedSimpArgs false
open Go Go.RowKit
section
variable {L : Type}
end
section
variable {N R : Type} {A : AF N R}
/-- What is said of a leaf: of the next head, or of the end. -/
noncomputable def endQ (I : N → Prop) (E : R → Prop) (l : Lf N R) : Bool := @decide (match l with | .next b _ => I b | .done v _ => E v) (Classical.propDecidable _)
theorem endQ_iff {I : N → Prop} {E : R → Prop} {l : Lf N R} : endQ I E l = true ↔ (match l with | .next b _ => I b | .done v _ => E v) := @decide_eq_true_iff _ (Classical.propDecidable _)
theorem endQ_next {I : N → Prop} {E : R → Prop} {b : N} {r : List Nat} (h : I b) : endQ I E (.next b r) = true := endQ_iff.2 h
theorem endQ_done {I : N → Prop} {E : R → Prop} {v : R} {r : List Nat} (h : E v) : endQ I E (.done v r) = true := endQ_iff.2 h
theorem AF.go_of {Inv : N → Prop} {μ : N → Nat} {E : R → Prop} (hr : ∀ a, A.rgo a = none) (h : ∀ a, Inv a → ∃ l, (A.D a).eval = some l ∧ endQ (fun b => Inv b ∧ μ b < μ a) E l = true) : ∀ n a, μ a < n → Inv a → ∃ v, A.go n a = some v ∧ E v
  | 0, a, hn, _ => by omega
  | n + 1, a, hn, hi => by
    obtain ⟨l, e, q⟩ := h a hi
    have q := endQ_iff.1 q
    simp only [AF.go, hr a, e]
    cases l with
    | next b r => exact AF.go_of hr h n b (by have := q.2; omega) q.1
    | done v r => exact ⟨v, rfl, q⟩
theorem AF.run_of {Inv : N → Prop} {μ : N → Nat} {E : R → Prop} (hr : ∀ a, A.rgo a = none) (h : ∀ a, Inv a → ∃ l, (A.D a).eval = some l ∧ endQ (fun b => Inv b ∧ μ b < μ a) E l = true) (h0 : ∃ l, A.D0.eval = some l ∧ endQ Inv E l = true) : ∃ n v, A.run n = some v ∧ E v := by
  obtain ⟨l, e, q⟩ := h0
  have q := endQ_iff.1 q
  cases l with
  | next b r =>
    obtain ⟨v, hv, k⟩ := AF.go_of hr h (μ b + 1) b (by omega) q
    exact ⟨_, v, by simp only [AF.run, e]; exact hv, k⟩
  | done v r => exact ⟨0, v, by simp only [AF.run, e], q⟩
theorem AF.val_holds [Inhabited R] {E : R → Prop} (hr : ∀ a, A.rgo a = none) (h : ∃ n v, A.run n = some v ∧ E v) : A.fin = true ∧ E A.val := by
  obtain ⟨n, v, e, k⟩ := h
  obtain ⟨h1, h2⟩ := AF.val_of (AF.mono_none hr) e
  exact ⟨h1, h2 ▸ k⟩
end
end Go.Proofs.Ythagjhadjpangaa.Cx

/- AUTOMATA BY HAND: what a tree of tests says of heads and results; operations on integers within bounds. -/
namespace Go.Proofs.Ythagjhadjpangaa.Cx
set_option linter.unusedVariables false
set_option linter.unusedSimpArgs false
open Go Go.RowKit
section
variable {N R : Type} {A : AF N R}
/-- Each way through a tree ends at a head of which I holds, or with a result of which E holds. -/
def DD.sat (I : N → Prop) (E : R → Prop) : DD (Lf N R) → Prop
  | .leaf (.next b _) => I b
  | .leaf (.done v _) => E v
  | .ask c t f => (c = true → DD.sat I E t) ∧ (c = false → DD.sat I E f)
  | .must c t => c = true ∧ DD.sat I E t
  | .num x n t f => (decide (x = n) = true → DD.sat I E t) ∧ (decide (x = n) = false → DD.sat I E f)
  | .dead => False
theorem DD.sat_eval {I : N → Prop} {E : R → Prop} : ∀ (d : DD (Lf N R)), d.sat I E → ∃ l, d.eval = some l ∧ endQ I E l = true
  | .leaf (.next b r), h => ⟨_, rfl, endQ_next h⟩
  | .leaf (.done v r), h => ⟨_, rfl, endQ_done h⟩
  | .ask c t f, h => by
    simp only [DD.eval]
    cases c with
    | true => exact DD.sat_eval t (h.1 rfl)
    | false => exact DD.sat_eval f (h.2 rfl)
  | .must c t, h => by
    simp only [DD.eval]
    obtain ⟨h1, h2⟩ := h
    subst h1
    exact DD.sat_eval t h2
  | .num x n t f, h => by
    simp only [DD.eval]
    cases hd : decide (x = n) with
    | true => exact DD.sat_eval t (h.1 hd)
    | false => exact DD.sat_eval f (h.2 hd)
  | .dead, h => h.elim
theorem AF.run_sat {Inv : N → Prop} (μ : N → Nat) {E : R → Prop} (hr : ∀ a, A.rgo a = none) (h : ∀ a, Inv a → (A.D a).sat (fun b => Inv b ∧ μ b < μ a) E) (h0 : A.D0.sat Inv E) : ∃ n v, A.run n = some v ∧ E v :=
  AF.run_of hr (fun a hI => DD.sat_eval _ (h a hI)) (DD.sat_eval _ h0)
theorem AF.val_sat [Inhabited R] {Inv : N → Prop} (μ : N → Nat) {E : R → Prop} (hr : ∀ a, A.rgo a = none) (h : ∀ a, Inv a → (A.D a).sat (fun b => Inv b ∧ μ b < μ a) E) (h0 : A.D0.sat Inv E) : A.fin = true ∧ E A.val :=
  AF.val_holds hr (AF.run_sat μ hr h h0)
end
theorem arAdd {a b : Int} (h : -9223372036854775808 ≤ a + b ∧ a + b ≤ 9223372036854775807) : Ar.run .add .i64 a b = a + b := IntWalk.i64_in _ (by omega)
theorem arSub {a b : Int} (h : -9223372036854775808 ≤ a - b ∧ a - b ≤ 9223372036854775807) : Ar.run .sub .i64 a b = a - b := IntWalk.i64_in _ (by omega)
theorem arMul {a b : Int} (h : -9223372036854775808 ≤ a * b ∧ a * b ≤ 9223372036854775807) : Ar.run .mul .i64 a b = a * b := IntWalk.i64_in _ h
theorem arQuo {a b : Int} (h : -9223372036854775808 ≤ a.tdiv b ∧ a.tdiv b ≤ 9223372036854775807) : Ar.run .quo .i64 a b = a.tdiv b := IntWalk.i64_in _ h
theorem arMn {a b : Int} : Ar.run .mn .i64 a b = min a b := by simp only [Ar.run]; split <;> omega
theorem arMx {a b : Int} : Ar.run .mx .i64 a b = max a b := by simp only [Ar.run]; split <;> omega
theorem cmLss {a b : Int} : Cm.run .lss a b = true ↔ a < b := decide_eq_true_iff
theorem cmLeq {a b : Int} : Cm.run .leq a b = true ↔ a ≤ b := decide_eq_true_iff
theorem cmGtr {a b : Int} : Cm.run .gtr a b = true ↔ a > b := decide_eq_true_iff
theorem cmGeq {a b : Int} : Cm.run .geq a b = true ↔ a ≥ b := decide_eq_true_iff
theorem cmEql {a b : Int} : Cm.run .eql a b = true ↔ a = b := beq_iff_eq
theorem cmNeq {a b : Int} : Cm.run .neq a b = true ↔ a ≠ b := bne_iff_ne
theorem cmLssF {a b : Int} : Cm.run .lss a b = false ↔ b ≤ a := by rw [Cm.run, decide_eq_false_iff_not]; omega
theorem cmLeqF {a b : Int} : Cm.run .leq a b = false ↔ b < a := by rw [Cm.run, decide_eq_false_iff_not]; omega
theorem cmGtrF {a b : Int} : Cm.run .gtr a b = false ↔ a ≤ b := by rw [Cm.run, decide_eq_false_iff_not]; omega
theorem cmGeqF {a b : Int} : Cm.run .geq a b = false ↔ a < b := by rw [Cm.run, decide_eq_false_iff_not]; omega
theorem cmEqlF {a b : Int} : Cm.run .eql a b = false ↔ a ≠ b := by rw [Cm.run, beq_eq_false_iff_ne]
theorem cmNeqF {a b : Int} : Cm.run .neq a b = false ↔ a = b := by rw [Cm.run, bne_eq_false_iff_eq]
end Go.Proofs.Ythagjhadjpangaa.Cx

/- MORE FOR AUTOMATA BY HAND: what a tree says, weakened; what a call's row says of tables. -/
namespace Go.Proofs.Ythagjhadjpangaa.Cx
set_option linter.unusedVariables false
set_option linter.unusedSimpArgs false
open Go Go.RowKit
theorem DD.sat_mono {N R : Type} {I I' : N → Prop} {E E' : R → Prop} (hI : ∀ b, I b → I' b) (hE : ∀ v, E v → E' v) : ∀ (d : DD (Lf N R)), d.sat I E → d.sat I' E'
  | .leaf (.next b _), h => hI b h
  | .leaf (.done v _), h => hE v h
  | .ask c t f, h => ⟨fun hc => DD.sat_mono hI hE t (h.1 hc), fun hc => DD.sat_mono hI hE f (h.2 hc)⟩
  | .must c t, h => ⟨h.1, DD.sat_mono hI hE t h.2⟩
  | .num x n t f, h => ⟨fun hc => DD.sat_mono hI hE t (h.1 hc), fun hc => DD.sat_mono hI hE f (h.2 hc)⟩
  | .dead, h => h.elim
/-- A loop that goes on by one as long as P holds of its number. -/
theorem loop_val {N R : Type} {A : AF N R} [Inhabited R] (n0 : Int → N) (pos : N → Int) (hpos : ∀ p, pos (n0 p) = p) (n : Nat) (P : Nat → Prop) {E : R → Prop} (hr : ∀ a, A.rgo a = none) (h0 : A.D0.sat (fun b => b = n0 0) E)
    (step : ∀ p : Int, 0 ≤ p → p ≤ n → (∀ i : Nat, (i : Int) < p → P i) → (A.D (n0 p)).sat (fun b => b = n0 (p + 1) ∧ p < n ∧ P p.toNat) E) : A.fin = true ∧ E A.val := by
  refine AF.val_sat (Inv := fun b => ∃ p, b = n0 p ∧ 0 ≤ p ∧ p ≤ n ∧ ∀ i : Nat, (i : Int) < p → P i) (fun b => (n - pos b).toNat) hr ?_ ?_
  · rintro _ ⟨p, rfl, h1, h2, h3⟩
    refine DD.sat_mono ?_ (fun _ h => h) _ (step p h1 h2 h3)
    rintro _ ⟨rfl, g1, g2⟩
    refine ⟨⟨p + 1, rfl, by omega, by omega, fun i hi => ?_⟩, by simp only [hpos]; omega⟩
    by_cases he : (i : Int) < p
    · exact h3 i he
    · obtain rfl : i = p.toNat := by omega
      exact g2
  · refine DD.sat_mono ?_ (fun _ h => h) _ h0
    rintro _ rfl
    exact ⟨0, rfl, Int.le_refl _, by omega, fun i hi => by omega⟩
/-- The first number of which P does not hold. -/
theorem find_val {N : Type} {A : AF N Int} (n0 : Int → N) (pos : N → Int) (hpos : ∀ p, pos (n0 p) = p) (n : Nat) (P : Nat → Prop) (hr : ∀ a, A.rgo a = none) (h0 : A.D0 = .leaf (.next (n0 0) []))
    (step : ∀ p : Int, 0 ≤ p → p ≤ n → (A.D (n0 p)).sat (fun b => b = n0 (p + 1) ∧ p < n ∧ P p.toNat) (fun v => (v = -1 ∧ (n : Int) ≤ p) ∨ (v = p ∧ p < n ∧ ¬ P p.toNat))) :
    A.fin = true ∧ ((A.val = -1 ∧ ∀ i : Nat, (i : Int) < n → P i) ∨ (0 ≤ A.val ∧ ¬ ∀ i : Nat, (i : Int) < n → P i)) := by
  refine loop_val n0 pos hpos n P (E := fun v => (v = -1 ∧ ∀ i : Nat, (i : Int) < n → P i) ∨ (0 ≤ v ∧ ¬ ∀ i : Nat, (i : Int) < n → P i)) hr ?_ fun p h1 h2 h3 => DD.sat_mono (fun _ h => h) ?_ _ (step p h1 h2)
  · rw [h0]; exact rfl
  · rintro v (⟨rfl, h⟩ | ⟨hv, h, h'⟩)
    · exact .inl ⟨rfl, fun i hi => h3 i (by omega)⟩
    · exact .inr ⟨by omega, fun k => h' (k p.toNat (by omega))⟩
/-- A function without loops. -/
theorem flat_val {N R : Type} {A : AF N R} [Inhabited R] {E : R → Prop} (hr : ∀ a, A.rgo a = none) (h0 : A.D0.sat (fun _ => False) E) : A.fin = true ∧ E A.val :=
  AF.val_sat (Inv := fun _ => False) (fun _ => 0) hr (fun _ h => h.elim) h0
end Go.Proofs.Ythagjhadjpangaa.Cx

/- AUTOMATA BY HAND, WITH RANGES OVER FUNCTIONS: what a tree says where heads are ranges. -/
namespace Go.Proofs.Ythagjhadjpangaa.Cx
set_option linter.unusedVariables false
set_option linter.unusedSimpArgs false
open Go Go.RowKit
section
variable {N R : Type} {A : AF N R}
theorem DD.sat_evl {I : N → Prop} {E : R → Prop} : ∀ (d : DD (Lf N R)), d.sat I E → (∃ b r, d.eval = some (.next b r) ∧ I b) ∨ ∃ v r, d.eval = some (.done v r) ∧ E v
  | .leaf (.next b r), h => .inl ⟨b, r, rfl, h⟩
  | .leaf (.done v r), h => .inr ⟨v, r, rfl, h⟩
  | .ask c t f, h => by
    simp only [DD.eval]
    cases c with
    | true => exact DD.sat_evl t (h.1 rfl)
    | false => exact DD.sat_evl f (h.2 rfl)
  | .must c t, h => by
    simp only [DD.eval]
    obtain ⟨h1, h2⟩ := h
    subst h1
    exact DD.sat_evl t h2
  | .num x n t f, h => by
    simp only [DD.eval]
    cases hd : decide (x = n) with
    | true => exact DD.sat_evl t (h.1 hd)
    | false => exact DD.sat_evl f (h.2 hd)
  | .dead, h => h.elim
/-- Heads are loops, or ranges over functions: what a range's iterator comes to within some rounds is given. -/
theorem AF.run_satR (hM : A.Mono) {Inv : N → Prop} (μ : N → Nat) {E : R → Prop}
    (h : ∀ a, Inv a → (A.rgo a = none ∧ (A.D a).sat (fun b => Inv b ∧ μ b < μ a) E) ∨ ∃ q n D, A.rgo a = some q ∧ q n = some D ∧ DD.sat (fun b => Inv b ∧ μ b < μ a) E D)
    (h0 : A.D0.sat Inv E) : ∃ n v, A.run n = some v ∧ E v := by
  have key : ∀ k a, Inv a → μ a < k → ∃ n v, A.go n a = some v ∧ E v := by
    intro k
    induction k with
    | zero => intro a _ h; omega
    | succ k ih =>
      intro a hI hk
      rcases h a hI with ⟨hn, hs⟩ | ⟨q, n, D, hq, hD, hs⟩
      · rcases DD.sat_evl _ hs with ⟨b, r, he, hb, hl⟩ | ⟨v, r, he, hv⟩
        · obtain ⟨m, v, hm, hv⟩ := ih b hb (by omega)
          refine ⟨m + 1, v, ?_, hv⟩
          rw [AF.go, hn]
          simp only [he]
          exact hm
        · refine ⟨1, v, ?_, hv⟩
          rw [AF.go, hn]
          simp only [he]
      · rcases DD.sat_evl _ hs with ⟨b, r, he, hb, hl⟩ | ⟨v, r, he, hv⟩
        · obtain ⟨m, v, hm, hv⟩ := ih b hb (by omega)
          refine ⟨max n m + 1, v, ?_, hv⟩
          rw [AF.go, hq]
          simp only [hM a q n (max n m) D hq (Nat.le_max_left ..) hD, he]
          exact AF.go_mono hM (Nat.le_max_right ..) hm
        · refine ⟨n + 1, v, ?_, hv⟩
          rw [AF.go, hq]
          simp only [hD, he]
  rcases DD.sat_evl _ h0 with ⟨b, r, he, hb⟩ | ⟨v, r, he, hv⟩
  · obtain ⟨n, v, hn, hv⟩ := key _ b hb (Nat.lt_succ_self _)
    refine ⟨n, v, ?_, hv⟩
    unfold AF.run
    rw [he]
    exact hn
  · refine ⟨0, v, ?_, hv⟩
    unfold AF.run
    rw [he]
theorem AF.val_satR [Inhabited R] (hM : A.Mono) {Inv : N → Prop} (μ : N → Nat) {E : R → Prop}
    (h : ∀ a, Inv a → (A.rgo a = none ∧ (A.D a).sat (fun b => Inv b ∧ μ b < μ a) E) ∨ ∃ q n D, A.rgo a = some q ∧ q n = some D ∧ DD.sat (fun b => Inv b ∧ μ b < μ a) E D)
    (h0 : A.D0.sat Inv E) : A.fin = true ∧ E A.val := by
  obtain ⟨n, v, hn, hv⟩ := AF.run_satR hM μ h h0
  have k := AF.val_of hM hn
  exact ⟨k.1, by rw [k.2]; exact hv⟩
/-- A head that is a range over an automaton of its own. -/
theorem AF.mono_map (h : ∀ a, A.rgo a = none ∨ ∃ (N' R' : Type) (B : AF N' R') (f : R' → DD (Lf N R)), B.Mono ∧ A.rgo a = some (fun n => (B.run n).map f)) : A.Mono := by
  intro a q n m D hq hnm hD
  rcases h a with h | ⟨N', R', B, f, hB, h⟩
  · rw [h] at hq; cases hq
  · rw [h] at hq
    cases hq
    obtain ⟨v, hv, rfl⟩ := Option.map_eq_some_iff.1 hD
    show Option.map f (B.run m) = _
    rw [AF.run_mono hB hnm hv]
    rfl
end
end Go.Proofs.Ythagjhadjpangaa.Cx

/- Package die: how far one setting goes, and plans, in plain Lean. -/
namespace Go.Proofs.Ythagjhadjpangaa.Cx
set_option linter.unusedVariables false
set_option linter.unusedSimpArgs false
set_option maxRecDepth 100000
set_option maxHeartbeats 4000000
open Go Go.RowKit
/-- One setting before the piece f goes over J pieces, and no farther. -/
def RJ (T : Int) (lo hi : Int → Nat → Int) (f : Int) (J : Nat) : Prop := (J : Int) ≤ T - f ∧ ((J : Int) < T - f → lo f (J + 1) > hi f (J + 1)) ∧ (0 < J → lo f J ≤ hi f J)
/-- Targets become fewer. -/
structure Narr (lo hi : Int → Nat → Int) : Prop where
  lo : ∀ f i j, i ≤ j → lo f i ≤ lo f j
  hi : ∀ f i j, i ≤ j → hi f j ≤ hi f i
theorem RJ.lt {T : Int} {lo hi : Int → Nat → Int} {f : Int} {J J' : Nat} (m : Narr lo hi) (h : RJ T lo hi f J) (h' : RJ T lo hi f J') : ¬ J < J' := fun hl => by
  have a := h.2.1 (by have := h'.1; omega)
  have b := h'.2.2 (by omega)
  have c := m.lo f (J + 1) J' (by omega)
  have d := m.hi f (J + 1) J' (by omega)
  omega
theorem RJ.uniq {T : Int} {lo hi : Int → Nat → Int} {f : Int} {J J' : Nat} (m : Narr lo hi) (h : RJ T lo hi f J) (h' : RJ T lo hi f J') : J = J' := by
  have a := h.lt m h'
  have b := h'.lt m h
  omega
/-- The first k settings of the plan that goes as far as it can: they go to the piece f. -/
def Chn (T : Int) (lo hi : Int → Nat → Int) (k : Nat) (f : Int) (F G : Nat → Int) : Prop :=
  ∃ E : Nat → Int, E 0 = 0 ∧ E k = f ∧ ∀ i, i < k → F i = E i ∧ ∃ J : Nat, 0 < J ∧ RJ T lo hi (E i) J ∧ E (i + 1) = E i + J ∧ G i = lo (E i) J
section
variable {T : Int} {lo hi : Int → Nat → Int} {k k' : Nat} {f f' : Int} {F G F' G' : Nat → Int}
theorem Chn.nil : Chn T lo hi 0 0 F G := ⟨fun _ => 0, rfl, rfl, fun i hi => by omega⟩
theorem Chn.next {J : Nat} (h : Chn T lo hi k f F G) (hJ : RJ T lo hi f J) (h0 : 0 < J) (hF : ∀ i, i < k → F' i = F i) (hG : ∀ i, i < k → G' i = G i) (h1 : F' k = f) (h2 : G' k = lo f J) : Chn T lo hi (k + 1) (f + J) F' G' := by
  obtain ⟨E, e0, ek, h⟩ := h
  refine ⟨fun i => if i ≤ k then E i else f + J, by simp [e0], (by show (if k + 1 ≤ k then E (k + 1) else f + (J : Int)) = f + J; rw [if_neg (by omega)]), fun i hi => ?_⟩
  by_cases hk : i < k
  · obtain ⟨a, K, b⟩ := h i hk
    simp only [show i ≤ k by omega, show i + 1 ≤ k by omega, if_true]
    exact ⟨by rw [hF i hk, a], K, b.1, b.2.1, b.2.2.1, by rw [hG i hk, b.2.2.2]⟩
  · obtain rfl : i = k := by omega
    simp only [Nat.le_refl, if_true, show ¬ i + 1 ≤ i by omega, if_false, ek]
    exact ⟨h1, J, h0, hJ, rfl, h2⟩
theorem Chn.len (h : Chn T lo hi k f F G) : (k : Int) ≤ f := by
  obtain ⟨E, e0, ek, h⟩ := h
  have : ∀ i, i ≤ k → (i : Int) ≤ E i := by
    intro i
    induction i with
    | zero => intro _; omega
    | succ i ih =>
      intro hi
      have a := ih (by omega)
      obtain ⟨_, J, j0, _, e, _⟩ := h i (by omega)
      omega
  have := this k (Nat.le_refl _)
  omega
end
end Go.Proofs.Ythagjhadjpangaa.Cx

/- RANGES OVER FUNCTIONS in the logic of points: what the iterator's contract says of its call is what the range does. -/
namespace Go.Proofs.Ythagjhadjpangaa.Cx
set_option linter.unusedSimpArgs false
set_option linter.unusedVariables false
open Go Go.RowKit
section
variable {P : Program} {ρ : Env} {X : Fx} {p : Pt} {Φ : Ex → Pt → Prop} {base : Nat}
theorem HR.congr {σ : Mp} {cur cur' : Cur} {w : World} (h : ∀ b l, σ b = some l → cur' b = cur b) (H : HR ρ σ cur w) : HR ρ σ cur' w :=
  ⟨fun b k l a1 a2 a3 => H.cell b k l ((h b l a3).symm.trans a1) a2 a3, fun b b' k k' l l' a1 a2 a3 a4 a5 a6 => H.inj b b' k k' l l' ((h b l a3).symm.trans a1) a2 a3 ((h b' l' a6).symm.trans a4) a5 a6,
    fun b k x l a1 a2 a3 => H.spec b k x l ((h b l a3).symm.trans a1) a2 a3, fun b b' k k' x x' l l' a1 a2 a3 a4 a5 a6 => H.injX b b' k k' x x' l l' ((h b l a3).symm.trans a1) a2 a3 ((h b' l' a6).symm.trans a4) a5 a6, fun y hy => ⟨(H.glob y hy).1, fun b k l a1 a2 ar a3 => (H.glob y hy).2 b k l ((h b l a3).symm.trans a1) a2 ar a3⟩⟩
/-- The record that a range lays. -/
noncomputable def recB (T : Tr CV) (nt : Nat) (ps : Array Tmp) (assign body : Code) : Blk := ⟨.lit [], 0, false, some (.loop ⟨T, nt, ps, assign, body, .ready, none⟩)⟩
/-- A record at any time. -/
noncomputable def recS (T : Tr CV) (nt : Nat) (ps : Array Tmp) (assign body : Code) (st : LoopState) (pd : Option Code) : Blk := ⟨.lit [], 0, false, some (.loop ⟨T, nt, ps, assign, body, st, pd⟩)⟩
def rgF : Code → Operand
  | .rangeFunc f _ _ _ => f
  | _ => .tmp 0
def rgP : Code → Array Tmp
  | .rangeFunc _ p _ _ => p
  | _ => #[]
def rgA : Code → Code
  | .rangeFunc _ _ a _ => a
  | _ => .skip
def rgB : Code → Code
  | .rangeFunc _ _ _ b => b
  | _ => .skip
theorem rd_lts {l : List (Nat × CV)} (h : l.all (fun x => x.2.lts base) = true) (t : Nat) : (rd (mkT l) t).lts base = true := by
  rw [rd_mkT]
  split
  · rename_i x hx
    exact List.all_eq_true.1 h x (List.mem_of_find?_eq_some hx)
  · rfl
theorem RecOk.of {l : List (Nat × CV)} {base nt : Nat} {ps : Array Tmp} {as' bd : Code} {st : LoopState} {pd : Option Code} (h : l.all (fun x => x.2.lts base) = true) : RecOk base (recS (mkT l) nt ps as' bd st pd) :=
  ⟨rfl, _, rfl, rd_lts h⟩
theorem memW {b : Nat} {l : List Nat} (h : l.any (Nat.beq b) = true) : b ∈ l := by
  obtain ⟨x, h1, h2⟩ := List.any_eq_true.1 h
  rw [Nat.eq_of_beq_eq_true h2]; exact h1
theorem someNe {α : Type} {β : Prop} {x : α} (h : (some x : Option α) = none) : β := by cases h
set_option maxHeartbeats 1000000 in
theorem Sem.range {f : Operand} {ps : Array Tmp} {assign body : Code} {g : Nat} {first captured : List CV} {c : CV} {h2 : Tr Blk} {n2 : Nat} {Wg : List Nat} {r5 : LR} {e : Ex} (hP : progOk P = true) (hX : FxOk ρ X) (hra : regsOk assign = true) (hrb : regsOk body = true)
    (hf : ev p.T f = some (.fn (.func g) first captured)) (K : Ctr P ρ g (first ++ [.yld p.n] ++ captured) (p.h.set p.n (recB p.T X.nt ps assign body)) (p.n + 1) Wg c h2 n2)
    (hn : p.n + 1 ≤ n2) (hWg : ∀ b ∈ Wg, (b ∈ X.W ∨ X.base ≤ b) ∧ b < p.n + 1) (hrec : (⟨h2, n2, [], []⟩ : St).getX p.n = some (.loop r5)) (hfrm : ∀ b, b ∉ Wg → ¬ (p.n + 1 ≤ b ∧ b < n2) → h2.get b = (p.h.set p.n (recB p.T X.nt ps assign body)).get b)
    (hst : r5.st ≠ .busy) (hex : Ex.of r5.pend = some e) (hΦ : Φ e ⟨p.T, ((⟨h2, n2, [], []⟩ : St).setX p.n (.loop { r5 with st := .exhausted })).heap, n2⟩) : Sem P ρ X (.rangeFunc f ps assign body) p Φ := by
  have hC : CtxOk2 P (ctxOf P memo0) := (ctxOf_ok hP memo0).toCtxOk2
  intro Q a w hS hQ
  obtain ⟨σ, hI, hF⟩ := hS.rel
  have hb : X.base ≤ p.n := hS.le
  show (Code.rangeFunc f ps assign body).wpIn (fc X.ro) X.n P Q a w
  refine wpIn_rangeFunc (fun fn _ => ?_)
  have hσN : ∀ b, p.n ≤ b → σ b = none := fun b hb' => by
    rw [hI.ext b (.inr hb')]; exact hX.N b (Nat.le_trans hb hb')
  -- the record is laid
  obtain ⟨wa, D, mark, hent, hIa, hmark⟩ : ∃ (wa : World) (D : Nat) (mark : List Deferred),
      (Instr.enterLoop fn a.tmps ps assign body X.ro).run P w = .ok (wa.heap.size, mark) (wa.alloc (.loop { state := .ready, pending := none, fn, tmps := a.tmps, params := ps, assign, body, defers := D })) ∧
      Inv ρ X.σ X.cur X.base X.W X.base X.w (p.st []) σ wa ∧ Marks X.a.defers X.w (mark ++ a.defers) wa := by
    cases hro : X.ro with
    | none =>
      have hIa : Inv ρ X.σ X.cur X.base X.W X.base X.w (p.st []) σ (w.alloc (.deferred (some []))) := hI.step (s2 := p.st []) (base2 := p.n) (W2 := []) hb hb (Nat.le_refl _) (fun b hb' => by cases hb') ⟨Nat.le_refl _, fun _ _ _ => rfl, [], rfl⟩ (Ext.refl _ _ _) (by rw [show upd (upd X.cur X.base (p.st []).next (p.st []).heap X.W) p.n (p.st []).next (p.st []).heap [] = upd X.cur X.base (p.st []).next (p.st []).heap X.W from upd_none _ _ _]; exact hI.H.alloc _) (.of_same rfl rfl rfl (by simp) fun k hk => alloc_get hk) (Fresh.none _ _ _ _ _ _)
      refine ⟨w.alloc (.deferred (some [])), w.heap.size, [{ target := .collected w.heap.size, args := #[] }], ?_, hIa, ?_⟩
      · rw [run_enterLoop_outer, World.size_alloc]
      · refine hF.2.2.trans hI.K.size (fun k hk => ?_) ⟨[w.heap.size], rfl, by simp, fun D hD => by obtain rfl := List.mem_singleton.1 hD; exact ⟨Nat.le_refl _, alloc_new _ _⟩⟩
        rw [alloc_get (Array.getElem?_eq_some_iff.1 hk).1]; exact hk
    | some l0 =>
      obtain ⟨r0, hr0⟩ := hX.ro l0 hro
      obtain ⟨q0, hq0⟩ := hI.K.loops l0 r0 hr0
      exact ⟨w, q0.defers, [], enter_inner hq0 _ _ _ _ _, hI, hF.2.2⟩
  have hσ : σ p.n = none := hσN _ (Nat.le_refl _)
  obtain ⟨x1, x2, x3, x4⟩ := newX_run (s := p.st []) (x := .loop ⟨p.T, X.nt, ps, assign, body, .ready, none⟩) (o := .loop { state := .ready, pending := none, fn, tmps := a.tmps, params := ps, assign, body, defers := D }) hIa.H hσ
    (.loop _ (alloc_new _ _) rfl rfl rfl rfl rfl hF.1 (fun t => (hF.2.1 t).mono (fun b l' hb' => by
      show (if b = p.n then _ else σ b) = _
      rw [if_neg (fun h => by rw [h, hσ] at hb'; cases hb')]; exact hb')) hra hrb)
  have f01 : Frm (p.st []) ((p.st []).newX (.loop ⟨p.T, X.nt, ps, assign, body, .ready, none⟩)) [] := .newX _ _ _
  generalize hs1 : (p.st []).newX (.loop ⟨p.T, X.nt, ps, assign, body, .ready, none⟩) = s1 at *
  have n1 : s1.next = p.n + 1 := by rw [← hs1]; rfl
  have hh1 : s1.heap = p.h.set p.n (recB p.T X.nt ps assign body) := by rw [← hs1]; rfl
  generalize hσ1 : (fun b => if b = (p.st []).next then some (⟨wa.heap.size, 0, 0, 0⟩ : Loc) else σ b) = σ1 at x1 x2 x3 x4
  have hσ1n : σ1 p.n = some ⟨wa.heap.size, 0, 0, 0⟩ := by rw [← hσ1]; exact if_pos rfl
  have x1 : HR ρ σ1 (upd (upd X.cur X.base p.n p.h X.W) p.n (p.n + 1) s1.heap []) (wa.alloc (.loop { state := .ready, pending := none, fn, tmps := a.tmps, params := ps, assign, body, defers := D })) := x1
  have x2 : Ext σ σ1 p.n (p.n + 1) := x2
  have x4 : Fresh σ σ1 p.n (p.n + 1) p.n [] wa := x4
  have x3 : Keeps σ p.n [] wa (wa.alloc (.loop { state := .ready, pending := none, fn, tmps := a.tmps, params := ps, assign, body, defers := D })) := x3
  rw [← n1] at x1 x2 x4
  generalize hw1 : wa.alloc (.loop { state := .ready, pending := none, fn, tmps := a.tmps, params := ps, assign, body, defers := D }) = w1 at hent x1 x3
  have hI1 : Inv ρ X.σ X.cur X.base X.W X.base X.w s1 σ1 w1 := hIa.step (base2 := p.n) hb hb (Nat.le_refl _) (fun b hb' => by cases hb') f01.toB x2 x1 x3 x4
  have hσ1N : ∀ b, s1.next ≤ b → σ1 b = none := fun b hb' => by
    rw [x2 b (.inr hb')]; exact hσN b (by omega)
  have hold1 : ∀ b, b < s1.next → upd X.cur X.base s1.next s1.heap X.W b = s1.heap.get b := fun b hb' => by
    show (if b ∈ X.W ∨ (X.base ≤ b ∧ b < s1.next) then _ else X.cur b) = _
    by_cases hc : b ∈ X.W ∨ (X.base ≤ b ∧ b < s1.next)
    · rw [if_pos hc]
    · rw [if_neg hc]
      have h1 : b < X.base := by
        by_cases h : b < X.base
        · exact h
        · exact absurd (.inr ⟨by omega, hb'⟩) hc
      rw [hS.old b h1 (fun h => hc (.inl h)), hh1, Tr.get_set, if_neg (by omega)]
  -- the call
  obtain ⟨x', y', hfv, hx, hy⟩ := (ev_run (σ := σ) (ρ := ρ) (a := a) (fun t _ => hF.2.1 t) hf).fn_inv
  obtain ⟨gfn, hgfn, hbody⟩ := K.fn
  have hle1 : σ.le σ1 := fun b l hl => by
    rw [x2 b (.inl (by
      by_cases h : b < p.n
      · exact h
      · rw [hσN b (by omega)] at hl; cases hl))]; exact hl
  have hargs : VRl ρ σ1 (first ++ [.yld p.n] ++ captured) ((x' ++ #[Value.func (.yield wa.heap.size) #[] #[]]) ++ y').toList := by
    simp only [Array.toList_append]
    exact ((hx.mono hle1).append (.cons (.yld hσ1n) .nil)).append (hy.mono hle1)
  have hHc : HR ρ σ1 (curOf (p.h.set p.n (recB p.T X.nt ps assign body)) (p.n + 1)) w1 := by
    refine HR.congr (fun b l hl => ?_) hI1.H
    have hlt : b < s1.next := by
      by_cases h : b < s1.next
      · exact h
      · rw [hσ1N b (by omega)] at hl; cases hl
    rw [hold1 b hlt, ← hh1]
    exact if_pos (by omega)
  refine ⟨wa.heap.size, mark, w1, { target := .fn (.func g) y', args := x' ++ #[Value.func (.yield wa.heap.size) #[] #[]] }, w1, g, (x' ++ #[Value.func (.yield wa.heap.size) #[] #[]]) ++ y', w1, hent, ?_, (fun _ _ => trivial), ?_, (fun h => by cases h), callsIn_fc ((K.run (X.n - 1) σ1 w1 _ hargs hHc (fun b hb' => hσ1N b (by omega))).mono ?_)⟩
  · simp only [resolve, Deferred.ofValue, hfv, pure_bind, Sem.run_pure]
    simp [Act.eval]
  · simp only [invoke, callFunc_run hC (show (ctxOf P memo0).fn g = some gfn from hgfn) hbody]
  · rintro e' w3 ⟨v, rfl, σ2, y1, y2, y3, y4, y5⟩
    have y1 : Ext σ1 σ2 s1.next n2 := by rw [n1]; exact y1
    have y3 : HR ρ σ2 (upd (curOf (p.h.set p.n (recB p.T X.nt ps assign body)) (p.n + 1)) (p.n + 1) n2 h2 Wg) w3 := y3
    have y4 : Keeps σ1 s1.next Wg w1 w3 := by rw [n1]; exact y4
    have y5 : Fresh σ1 σ2 s1.next n2 s1.next Wg w1 := by rw [n1]; exact y5
    have hI2 : Inv ρ X.σ X.cur X.base X.W X.base X.w ⟨h2, n2, [], []⟩ σ2 w3 := by
      refine hI1.step (s2 := ⟨h2, n2, [], []⟩) (base2 := s1.next) (W2 := Wg) (by omega) (by omega) (Nat.le_refl _) (fun b hb' => ?_) ⟨by show s1.next ≤ n2; omega, fun b hbW hbn => ?_, ?_⟩ y1 ?_ y4 y5
      · rcases (hWg b hb').1 with h | h
        · exact .inl h
        · exact .inr ⟨h, by have := (hWg b hb').2; omega⟩
      · show h2.get b = s1.heap.get b
        rw [hh1]
        exact hfrm b hbW (fun h => hbn ⟨by omega, h.2⟩)
      · rw [← hs1]; exact ⟨[], rfl⟩
      · refine HR.congr (fun b l hl => ?_) y3
        have hlt : b < n2 := by
          by_cases h : b < n2
          · exact h
          · rw [y1 b (.inr (by omega)), hσ1N b (by omega)] at hl; cases hl
        show (if b ∈ Wg ∨ (s1.next ≤ b ∧ b < n2) then h2.get b else _) = (if b ∈ Wg ∨ (p.n + 1 ≤ b ∧ b < n2) then h2.get b else _)
        by_cases hc : b ∈ Wg ∨ (s1.next ≤ b ∧ b < n2)
        · rw [if_pos hc, if_pos (by rw [← n1]; exact hc)]
        · rw [if_neg hc, if_neg (by rw [← n1]; exact hc)]
          have hlt1 : b < s1.next := by
            by_cases h : b < s1.next
            · exact h
            · exact absurd (.inr ⟨by omega, hlt⟩) hc
          rw [hold1 b hlt1, hh1]
          exact (if_pos (by omega)).symm
    have hl2 : σ2 p.n = some ⟨wa.heap.size, 0, 0, 0⟩ := by rw [y1 _ (.inl (by omega))]; exact hσ1n
    obtain ⟨q, hq, hqs, hqp, hI5, hK5⟩ := loop_set (r1 := { r5 with st := .exhausted }) (f := fun q => { q with state := .exhausted }) hI2 (by show X.base ≤ n2; omega) (by show X.base ≤ n2; omega) hrec (.inr ⟨hb, by show p.n < n2; omega⟩) hl2 (fun q h1' h2' h3' => by
      have hpd : q.pending = r5.pend := by
        cases h1' with
        | loop q' hq' _ hp' => rw [h2'] at hq'; cases hq'; exact hp'
      have := h1'.loop_state (st := .exhausted) (pd := r5.pend) h2'
      rw [← hpd] at this
      rw [← hpd]
      exact this)
    refine ⟨q.pending, _, run_endLoop hq (by rw [hqs]; exact hst), ?_⟩
    have hSR : SR ρ X ⟨p.T, ((⟨h2, n2, [], []⟩ : St).setX p.n (.loop { r5 with st := .exhausted })).heap, n2⟩ { a with defers := mark ++ a.defers } (w3.putObj wa.heap.size (.loop { q with state := .exhausted })) := by
      refine ⟨by show X.base ≤ n2; omega, fun b hb1 hb2 => ?_, σ2, hI5, hF.1, fun t => (hF.2.1 t).mono (fun b l hl => ?_), ?_⟩
      · show X.cur b = ((⟨h2, n2, [], []⟩ : St).setX p.n (.loop { r5 with st := .exhausted })).heap.get b
        rw [setX_get, if_neg (by omega)]
        show X.cur b = h2.get b
        rw [hfrm b (fun h => by
          rcases (hWg b h).1 with h | h
          · exact hb2 h
          · omega) (fun h => by omega), Tr.get_set, if_neg (by omega)]
        exact hS.old b hb1 hb2
      · have h1 := hle1 b l hl
        rw [y1 b (.inl (by
          by_cases h : b < s1.next
          · exact h
          · rw [hσ1N b (by omega)] at h1; cases h1))]
        exact h1
      · have hsz : X.w.heap.size ≤ wa.heap.size := hIa.K.size
        exact hmark.trans hsz (fun k hk => hK5.defd k (y4.defd k (x3.defd k hk))) (.refl _ _ _)
    have := hQ e _ _ _ hΦ hSR
    rw [← hqp] at hex
    revert hex this
    generalize w3.putObj wa.heap.size (.loop { q with state := .exhausted }) = w4
    intro hex this
    revert hex
    cases hpd : q.pending with
    | none => intro hex; cases hex; exact this
    | some cd =>
      intro hex
      cases cd <;> simp only [Ex.of] at hex <;> cases hex
      · exact wpIn_exit this
      · exact wpIn_ret this
/-! ## Heads of automata that are ranges -/
/-- The state behind a range, whose iterator left this memory. -/
noncomputable def rgSt (n0 : Nat) (h2 : Tr Blk) (n2 : Nat) (r5 : LR) (o : List Nat) : St := ⟨((⟨h2, n2, [], []⟩ : St).setX n0 (.loop { r5 with st := .exhausted })).heap, n2, o, []⟩
/-- What follows a range. -/
noncomputable def AF.runR {N R : Type} (A : AF N R) (C : Ctx) (a : N) (h2 : Tr Blk) (n2 : Nat) (r5 : LR) (e : Ex) (o : List Nat) : Option KO :=
  resumeK C A.m A.base A.nt A.un A.code (A.path a) e ((A.pd a).pt A.H0).T (rgSt (A.pd a).n h2 n2 r5 o)
theorem AF.old {N R : Type} {A : AF N R} {C : Ctx} (hA : A.Ok P C) (a : N) {b : Nat} (hb : b < A.base) (hbW : b ∉ A.W) : ((A.pd a).pt A.H0).h.get b = A.H0.get b := by
  show (putH A.H0 ((A.pd a).h ++ (A.pd a).x)).get b = _
  rw [get_putH]
  split
  · rename_i x hx
    have h1 := List.find?_some hx
    have h2 := List.mem_of_find?_eq_some hx
    simp only [beq_iff_eq] at h1
    subst h1
    rcases List.mem_append.1 h2 with h2 | h2
    · rcases ((hA.pd a).h x h2).1 with h3 | h3
      · omega
      · exact absurd h3 hbW
    · exact absurd ((hA.pd a).x x h2).1 hbW
  · rfl
theorem AF.frm {N R : Type} {A : AF N R} {C : Ctx} (hA : A.Ok P C) (v : R) (hlt : (A.rh v).all (fun x => Nat.blt x.1 (A.rn v)) = true) {b : Nat} (hbW : b ∉ A.W) (hb : ¬ (A.base ≤ b ∧ b < A.rn v)) : (putH A.H0 (A.rh v ++ A.rx v)).get b = A.H0.get b := by
  rw [get_putH]
  split
  · rename_i x hx
    have h1 := List.find?_some hx
    have h2 := List.mem_of_find?_eq_some hx
    simp only [beq_iff_eq] at h1
    subst h1
    rcases List.mem_append.1 h2 with h2 | h2
    · rcases ((hA.rd v).1.h x h2).1 with h3 | h3
      · exact absurd ⟨h3, blt_lt (List.all_eq_true.1 hlt x h2)⟩ hb
      · exact absurd h3 hbW
    · exact absurd ((hA.rd v).1.x x h2).1 hbW
  · rfl
/-- A head that is a range over a function, from the iterator's automaton over the head's memory. -/
structure AF.Rg {N R N' R' : Type} (A : AF N R) (B : AF N' R') (P : Program) (C C' : Ctx) (a : N) (f : Operand) (ps : Array Tmp) (as' bd : Code) (g : Nat) (gn : Func) (first captured : List CV) (rec : R' → LR) (ex : R' → Ex) (Dr : R' → DD (Lf N R)) : Prop where
  code : codeAt A.code (A.path a) = .rangeFunc f ps as' bd
  fn : ev ((A.pd a).pt A.H0).T f = some (.fn (.func g) first captured)
  args : B.args = first ++ [.yld (A.pd a).n] ++ captured
  base : B.base = (A.pd a).n + 1
  h0 : B.h0 = ((A.pd a).n, recB (mkT (A.pd a).T) A.nt ps as' bd) :: (((A.pd a).h ++ (A.pd a).x) ++ A.h0)
  W : B.W.all (fun b => A.W.any (Nat.beq b) || Nat.ble A.base b) = true
  gfn : P.funcs[g]? = some gn
  body : gn.body = some B.code
  nt : gn.ntmps = B.nt
  len : B.args.length ≤ B.nt
  res : gn.results.toList = B.res
  ok : B.Ok P C'
  le : ∀ v, B.base ≤ B.rn v
  lt : ∀ v, (B.rh v).all (fun x => Nat.blt x.1 (B.rn v)) = true
  rcd : ∀ v, (⟨putH B.H0 (B.rh v ++ B.rx v), B.rn v, [], []⟩ : St).getX (A.pd a).n = some (.loop (rec v))
  st : ∀ v, (rec v).st ≠ .busy
  exd : ∀ v, Ex.of (rec v).pend = some (ex v)
  D : ∀ v, A.edgeOk (ctxOf P memo0) (Dr v) (A.runR C a (putH B.H0 (B.rh v ++ B.rx v)) (B.rn v) (rec v) (ex v))
theorem mkH_append (l m : List (Nat × Blk)) : mkH (l ++ m) = putH (mkH m) l := by
  induction l with
  | nil => rfl
  | cons x l ih => obtain ⟨t, c⟩ := x; simp only [List.cons_append, mkH, putH, ih]
theorem AF.range_ok {N R N' R' : Type} {A : AF N R} {B : AF N' R'} {memo memo' : Memo} {a : N} {f : Operand} {ps : Array Tmp} {as' bd : Code} {g : Nat} {gn : Func} {first captured : List CV} {rec : R' → LR} {ex : R' → Ex} {Dr : R' → DD (Lf N R)}
    (hP : progOk P = true) (hM : MemoOk P (ctxOf P memo) ρ) (hM' : MemoOk P (ctxOf P memo') ρ) (hA : A.Ok P (ctxOf P memo)) (H : A.Rg B P (ctxOf P memo) (ctxOf P memo') a f ps as' bd g gn first captured rec ex Dr)
    (hRB : ∀ X a q n D, FxOk ρ X → X.base = B.base → X.nt = B.nt → X.W = B.W → B.rgo a = some q → q n = some D → B.RangeOk P ρ X a D)
    {X : Fx} (hX : FxOk ρ X) (hb : X.base = A.base) (hnt : X.nt = A.nt) (hW : X.W = A.W) {n : Nat} {D : DD (Lf N R)} (h : (B.run n).map Dr = some D) : A.RangeOk P ρ X a D := by
  cases hv : B.run n with
  | none => rw [hv] at h; cases h
  | some v =>
    rw [hv] at h
    cases h
    have hC := ctxOf_ok hP memo
    have hle : A.base ≤ (A.pd a).n := hA.le a
    have hregs : regsOk (.rangeFunc f ps as' bd) = true := by rw [← H.code]; exact regs_at (A.path a) hA.regs
    have hregs : regsOk as' = true ∧ regsOk bd = true := by simpa [regsOk] using hregs
    have K := AF.ctr hP hM' H.ok H.gfn H.body H.nt H.len H.res hRB hv
    have hH0 : B.H0 = ((A.pd a).pt A.H0).h.set (A.pd a).n (recB (mkT (A.pd a).T) A.nt ps as' bd) := by
      show mkH B.h0 = _
      rw [H.h0, mkH, mkH_append]
      rfl
    have hWB : ∀ b ∈ B.W, (b ∈ A.W ∨ A.base ≤ b) ∧ b < (A.pd a).n + 1 := fun b hbB => by
      refine ⟨?_, by rw [← H.base]; exact H.ok.wlt b hbB⟩
      have := List.all_eq_true.1 H.W b hbB
      rw [Bool.or_eq_true] at this
      rcases this with h | h
      · obtain ⟨x, h1, h2⟩ := List.any_eq_true.1 h
        rw [Nat.eq_of_beq_eq_true h2]; exact .inl h1
      · exact .inr (Nat.le_of_ble_eq_true h)
    have hfr : ∀ b, b ∉ B.W → ¬ ((A.pd a).n + 1 ≤ b ∧ b < B.rn v) → (putH B.H0 (B.rh v ++ B.rx v)).get b = (((A.pd a).pt A.H0).h.set (A.pd a).n (recB (mkT (A.pd a).T) A.nt ps as' bd)).get b := fun b h1 h2 => by
      rw [AF.frm H.ok v (H.lt v) h1 (by rw [H.base]; exact h2), hH0]
    refine ⟨A.runR (ctxOf P memo) a (putH B.H0 (B.rh v ++ B.rx v)) (B.rn v) (rec v) (ex v), rgSt (A.pd a).n (putH B.H0 (B.rh v ++ B.rx v)) (B.rn v) (rec v) [], H.D v, rfl, fun b hb1 hb2 => ?_, fun o k hk => ?_⟩
    · show (((⟨putH B.H0 (B.rh v ++ B.rx v), B.rn v, [], []⟩ : St).setX (A.pd a).n (.loop { rec v with st := .exhausted })).heap).get b = _
      rw [setX_get, if_neg (by omega)]
      show (putH B.H0 (B.rh v ++ B.rx v)).get b = _
      rw [hfr b (fun h => by
        rcases (hWB b h).1 with h | h
        · exact hb2 h
        · omega) (fun h => by omega), Tr.get_set, if_neg (by omega)]
      exact AF.old hA a hb1 hb2
    · have kk := resumeK_ok (base := A.base) hC hM (A.path a) A.code (ex v) _ _ _ hA.regs (by show A.base ≤ B.rn v; have := H.le v; rw [H.base] at this; omega) hk
      refine ⟨kk.next, kk.pc, kk.old, fun X' Φ h1 h2 h3 h4 h5 h6 hx => ?_⟩
      subst hx
      have hob := kk.run X' Φ h1 h2 h3 h4 h5 h6
      show LoopAt P ρ X' (codeAt A.code (A.path a)) (AftL P ρ X' A.code (A.path a) Φ) _
      rw [H.code]
      show Sem P ρ X' (.rangeFunc f ps as' bd) ((A.pd a).pt A.H0) _
      refine Sem.range (c := B.rc v) (h2 := putH B.H0 (B.rh v ++ B.rx v)) (n2 := B.rn v) (Wg := B.W) (r5 := rec v) (e := ex v) hP h1 hregs.1 hregs.2 H.fn ?_ ?_ ?_ (H.rcd v) ?_ (H.st v) (H.exd v) hob
      · have := K
        rw [H.args, H.base, hH0] at this
        rw [hH0, h3]
        exact this
      · have := H.le v; rw [H.base] at this; exact this
      · intro b hbB
        rw [hW, hb]
        exact hWB b hbB
      · intro b q1 q2
        rw [h3]
        exact hfr b q1 q2
end
end Go.Proofs.Ythagjhadjpangaa.Cx

/- CALLS WITH FUNCTIONS AS ARGUMENTS THAT ARE KNOWN FROM AUTOMATA: function values, and the boxes that they hold on to, are read off like other arguments. -/
namespace Go.Proofs.Ythagjhadjpangaa.Cx
set_option linter.unusedSimpArgs false
set_option linter.unusedVariables false
open Go Go.RowKit
/-- What an argument looks like: an integer, a bool, a struct, a slice of rows that is read alone, a pointer to cells that are read alone, a function with what it holds on to. -/
inductive AB where
  | int (k : IntKind)
  | bool
  | agg (l : List AB)
  | rows (ks : List (Option IntKind))
  | box (l : List AB)
  | fn (g : Nat) (l : List AB)
  | nils
def AB.flat : AB → Bool
  | .agg _ => false
  | _ => true
mutual
def AB.ni : AB → Nat
  | .int _ => 1
  | .bool | .rows _ | .nils => 0
  | .agg l | .box l | .fn _ l => AB.nis l
def AB.nis : List AB → Nat
  | [] => 0
  | p :: l => p.ni + AB.nis l
end
mutual
def AB.nb : AB → Nat
  | .bool => 1
  | .int _ | .rows _ | .nils => 0
  | .agg l | .box l | .fn _ l => AB.nbs l
def AB.nbs : List AB → Nat
  | [] => 0
  | p :: l => p.nb + AB.nbs l
end
mutual
/-- How many tables. -/
def AB.nt : AB → Nat
  | .rows _ => 1
  | .int _ | .bool | .nils => 0
  | .agg l | .box l | .fn _ l => AB.nts l
def AB.nts : List AB → Nat
  | [] => 0
  | p :: l => p.nt + AB.nts l
end
mutual
/-- How many blocks. -/
def AB.nq : AB → Nat
  | .rows _ => 1
  | .int _ | .bool | .nils => 0
  | .agg l | .fn _ l => AB.nqs l
  | .box l => AB.nqs l + 1
def AB.nqs : List AB → Nat
  | [] => 0
  | p :: l => p.nq + AB.nqs l
end
mutual
/-- Where tables of arguments lie among the caller's: the call's block, the caller's block, the first row, the row's size. -/
def AB.tabs : AB → CV → Nat → List (Nat × Nat × Nat × Nat)
  | .rows _, .sla b z o _, q => [(q, b, o, z)]
  | .agg l, .agg m, q => AB.tabss l m q
  | _, _, _ => []
def AB.tabss : List AB → List CV → Nat → List (Nat × Nat × Nat × Nat)
  | p :: l, c :: m, q => p.tabs c q ++ AB.tabss l m (q + p.nq)
  | _, _, _ => []
end
def CV.fl (c : CV) : CV := bif c.flat then c else .junk
theorem CV.fl_flat (c : CV) : c.fl.flat = true := by
  unfold CV.fl
  cases h : c.flat with
  | true => rw [cond_true]; exact h
  | false => rfl
theorem fl_all (l : List CV) : (l.map CV.fl).all CV.flat = true := by
  induction l with
  | nil => rfl
  | cons c l ih => rw [List.map_cons, List.all_cons, CV.fl_flat, ih]; rfl
theorem fl_id {l : List CV} (h : l.all CV.flat = true) : l.map CV.fl = l := by
  induction l with
  | nil => rfl
  | cons c l ih =>
    simp only [List.all_cons, Bool.and_eq_true] at h
    rw [List.map_cons, ih h.2]
    unfold CV.fl
    rw [h.1, cond_true]
/-- Cells that are read alone. -/
def boxB (cs : List CV) : Blk := ⟨.arg 1 cs.length (fun _ => cs.map CV.fl) (fun _ => ⟨by simp, fl_all cs⟩), cs.length, true, none⟩
theorem boxB_cells (cs : List CV) : (boxB cs).cells = cs.map CV.fl := by
  show flatR (fun _ => cs.map CV.fl) 1 = _
  simp [flatR]
mutual
def AB.put (v : AW) : AB → Nat → Nat → Nat → Nat → CV
  | .int k, i, _, _, _ => .int k (.x (v.i.getD i 0))
  | .bool, _, j, _, _ => .bool (.x (v.b.getD j false))
  | .nils, _, _, _, _ => .slc none 0 0
  | .agg l, i, j, t, q => .agg (AB.puts v l i j t q)
  | .rows ks, _, _, t, q => .sla q ks.length 0 (v.t.getD t .none).n
  | .box l, _, _, _, q => .ptr (some (q, 0))
  | .fn g l, i, j, t, q => .fn (.func g) [] (AB.puts v l i j t q)
def AB.puts (v : AW) : List AB → Nat → Nat → Nat → Nat → List CV
  | [], _, _, _, _ => []
  | p :: l, i, j, t, q => p.put v i j t q :: AB.puts v l (i + p.ni) (j + p.nb) (t + p.nt) (q + p.nq)
end
mutual
/-- The blocks, one after another from the number q on. -/
def AB.blks (v : AW) : AB → Nat → Nat → Nat → Nat → List Blk
  | .int _, _, _, _, _ => []
  | .bool, _, _, _, _ => []
  | .nils, _, _, _, _ => []
  | .agg l, i, j, t, q => AB.blkss v l i j t q
  | .fn _ l, i, j, t, q => AB.blkss v l i j t q
  | .rows ks, _, _, t, _ => [tabB ks (v.t.getD t .none)]
  | .box l, i, j, t, q => boxB (AB.puts v l i j t (q + 1)) :: AB.blkss v l i j t (q + 1)
def AB.blkss (v : AW) : List AB → Nat → Nat → Nat → Nat → List Blk
  | [], _, _, _, _ => []
  | p :: l, i, j, t, q => p.blks v i j t q ++ AB.blkss v l (i + p.ni) (j + p.nb) (t + p.nt) (q + p.nq)
end
mutual
theorem AB.blks_length (v : AW) : ∀ (p : AB) (i j t q : Nat), (p.blks v i j t q).length = p.nq
  | .int _, _, _, _, _ => by simp [AB.blks, AB.nq]
  | .bool, _, _, _, _ => by simp [AB.blks, AB.nq]
  | .nils, _, _, _, _ => by simp [AB.blks, AB.nq]
  | .agg l, i, j, t, q => by rw [AB.blks, AB.nq, AB.blkss_length v l]
  | .fn _ l, i, j, t, q => by rw [AB.blks, AB.nq, AB.blkss_length v l]
  | .rows ks, _, _, t, _ => by simp [AB.blks, AB.nq]
  | .box l, i, j, t, q => by rw [AB.blks, AB.nq, List.length_cons, AB.blkss_length v l]
theorem AB.blkss_length (v : AW) : ∀ (l : List AB) (i j t q : Nat), (AB.blkss v l i j t q).length = AB.nqs l
  | [], _, _, _, _ => rfl
  | p :: l, i, j, t, q => by rw [AB.blkss, AB.nqs, List.length_append, AB.blks_length v p, AB.blkss_length v l]
end
theorem AB.put_flat (v : AW) (p : AB) (h : p.flat = true) (i j t q : Nat) : (p.put v i j t q).flat = true := by
  cases p <;> first | (cases h; done) | rfl
theorem AB.puts_flat (v : AW) : ∀ (l : List AB) (i j t q : Nat), l.all AB.flat = true → (AB.puts v l i j t q).all CV.flat = true
  | [], _, _, _, _, _ => by simp [AB.puts]
  | p :: l, i, j, t, q, h => by
    simp only [List.all_cons, Bool.and_eq_true] at h
    rw [AB.puts, List.all_cons, AB.put_flat v p h.1, AB.puts_flat v l _ _ _ _ h.2]; rfl
theorem AB.puts_length (v : AW) : ∀ (l : List AB) (i j t q : Nat), (AB.puts v l i j t q).length = l.length
  | [], _, _, _, _ => by simp [AB.puts]
  | p :: l, i, j, t, q => by rw [AB.puts, List.length_cons, AB.puts_length v l, List.length_cons]
/-- What was found: the values, the facts that they rest on, the blocks that are read, how many blocks the call has. -/
structure AX where
  v : AW
  sh : List Bool
  R : List Nat
  q : Nat
/-- What a function value holds on to, if it is this function. -/
def fnOf (f : Nat) : CV → Option (List CV)
  | .fn (.func f') [] m => bif Nat.beq f f' then some m else none
  | _ => none
/-- Cells that a pointer points to, and their block. -/
noncomputable def boxOf (s : St) (l : List AB) : CV → Option (Nat × List CV)
  | .ptr (some (b, o)) => bif l.all AB.flat then (match s.ld b o l.length with | some cs => some (b, cs) | none => none) else none
  | _ => none
theorem fnOf_ok {f : Nat} {c : CV} {m : List CV} (h : fnOf f c = some m) : c = .fn (.func f) [] m := by
  unfold fnOf at h
  split at h
  · rename_i f' m'
    cases hf : Nat.beq f f' with
    | false => rw [hf, cond_false] at h; cases h
    | true =>
      rw [hf, cond_true] at h
      cases h
      rw [Nat.eq_of_beq_eq_true hf]
  · cases h
theorem boxOf_ok {s : St} {l : List AB} {c : CV} {b : Nat} {cs : List CV} (h : boxOf s l c = some (b, cs)) : ∃ o, c = .ptr (some (b, o)) ∧ l.all AB.flat = true ∧ s.ld b o l.length = some cs := by
  unfold boxOf at h
  split at h
  · rename_i b' o
    cases hf : l.all AB.flat with
    | false => rw [hf, cond_false] at h; cases h
    | true =>
      rw [hf, cond_true] at h
      split at h
      · rename_i cs' hld
        cases h
        exact ⟨o, rfl, rfl, hld⟩
      · cases h
  · cases h
mutual
noncomputable def AB.get (s : St) : AB → CV → AX → Option AX
  | .int k, .int k' e, g => bif decide (k = k') then (match e.num with | some n => some ⟨⟨g.v.i ++ [n], g.v.b, g.v.t⟩, g.sh, g.R, g.q⟩ | none => none) else none
  | .bool, .bool e, g => match e.val with | some b => some ⟨⟨g.v.i, g.v.b ++ [b], g.v.t⟩, g.sh, g.R, g.q⟩ | none => none
  | .agg l, .agg m, g => AB.gets s l m g
  | .nils, .slc none 0 0, g => some g
  | .rows ks, c, g => match rowsOf s ks c with | some (t, sh, R) => some ⟨⟨g.v.i, g.v.b, g.v.t ++ [t]⟩, g.sh ++ sh, g.R ++ R, g.q + 1⟩ | none => none
  | .box l, c, g => match boxOf s l c with | some (b, cs) => AB.gets s l cs ⟨g.v, g.sh, g.R ++ [b], g.q + 1⟩ | none => none
  | .fn f l, c, g => match fnOf f c with | some m => AB.gets s l m g | none => none
  | _, _, _ => none
noncomputable def AB.gets (s : St) : List AB → List CV → AX → Option AX
  | [], [], g => some g
  | p :: l, c :: m, g => match AB.get s p c g with | some g => AB.gets s l m g | none => none
  | _, _, _ => none
end
theorem AB.get_nils {s : St} {c : CV} {g g' : AX} (h : AB.get s .nils c g = some g') : c = .slc none 0 0 ∧ g = g' := by
  cases c with
  | slc a n k =>
    cases a with
    | none =>
      cases n with
      | zero =>
        cases k with
        | zero => simp only [AB.get, Option.some.injEq] at h; exact ⟨rfl, h⟩
        | succ k => simp [AB.get] at h
      | succ n => simp [AB.get] at h
    | some a => simp [AB.get] at h
  | _ => simp [AB.get] at h
/-- A block that is read alone, where it lies, under these names. -/
structure AtR (ρ : Env) (τ : Mp) (w : World) (k : Blk) (lo : Option Loc) : Prop where
  live : k.live = true
  ro : k.ro = true
  ext : k.ext = none
  at' : ∀ l, lo = some l → ∃ c t p, w.heap[l.blk]? = some (.cells c t p) ∧ c.size = l.size ∧ k.esz = l.esz ∧ l.base + k.cells.length ≤ l.size ∧ VRl ρ τ k.cells ((c.toList.drop l.base).take k.cells.length)
theorem ArgAt.atR {ρ : Env} {w : World} {k : Blk} {lo : Option Loc} (h : ArgAt ρ w k lo) (τ : Mp) : AtR ρ τ w k lo :=
  ⟨h.live, h.ro, h.ext, fun l hl => by obtain ⟨c, t, p, q1, q2, q3, q4, q5⟩ := h.at' l hl; exact ⟨c, t, p, q1, q2, q3, q4, q5 τ⟩⟩
theorem HR.ofR {ρ : Env} {h : Tr Blk} {base : Nat} {σ : Mp} {w : World} (hL : Laid w) (ha : ∀ i k, i < base → h.get i = some k → AtR ρ σ w k (σ i)) : HR ρ σ (curOf h base) w := by
  have get : ∀ b k, curOf h base b = some k → AtR ρ σ w k (σ b) := fun b k hk => by
    unfold curOf at hk
    split at hk
    · rename_i hb; exact ha b k hb hk
    · cases hk
  refine ⟨fun b k l a1 a2 a3 => ?_, fun b b' k k' l l' a1 a2 a3 a4 a5 a6 a7 a8 => ?_, fun b k x l a1 a2 a3 => ?_, fun b b' k k' x x' l l' a1 a2 a3 a4 a5 a6 a7 => ?_, fun y hy => ⟨hL y hy, fun b k l a1 _ ar _ => by rw [(get b k a1).ro] at ar; cases ar⟩⟩
  · have := get b k a1
    obtain ⟨c, t, p, q1, q2, q3, q4, q5⟩ := this.at' l a3
    exact ⟨c, t, p, q1, (fun h => by rw [this.ro] at h; cases h), q2, q3, q4, q5⟩
  · rw [(get b k a1).ro, (get b' k' a4).ro] at a8
    rcases a8 with h | h <;> cases h
  · rw [(get b k a1).ext] at a2; cases a2
  · rw [(get b k a1).ext] at a2; cases a2
/-- What is there of an argument. -/
structure AGot (ρ : Env) (s : St) (ni nb nt nq : Nat) (g g' : AX) (bl : AW → List Blk) (T : List (Nat × Nat × Nat × Nat)) {V : Type} (rel0 : Mp → V → Prop) (rel1 : AW → Mp → V → Prop) : Prop where
  pre : g.v.pre g'.v
  li : g'.v.i.length = g.v.i.length + ni
  lb : g'.v.b.length = g.v.b.length + nb
  lt : g'.v.t.length = g.v.t.length + nt
  lq : g'.q = g.q + nq
  sh : ∃ l, g'.sh = g.sh ++ l
  R : ∃ l, g'.R = g.R ++ l
  le : (∀ b ∈ g.R, b < s.next) → ∀ b ∈ g'.R, b < s.next
  ok : ∀ (σ : Mp) (cur : Cur) (w : World) (v : V), rel0 σ v → (∀ b ∈ g'.sh, b = true) → HR ρ σ cur w → (∀ b ∈ g'.R, cur b = s.heap.get b) →
    ∃ los : List (Option Loc), los.length = nq ∧ (∀ x ∈ T, g.q ≤ x.1 ∧ x.1 < g.q + nq ∧ ∀ l', los[x.1 - g.q]? = some (some l') → ∃ l, σ x.2.1 = some l ∧ l'.blk = l.blk ∧ l'.base = l.base + x.2.2.1 * x.2.2.2) ∧
      ∀ (u : AW) (τ : Mp), g'.v.pre u → (∀ j lo, los[j]? = some lo → τ (g.q + j) = lo) → rel1 u τ v ∧ ∀ j k, (bl u)[j]? = some k → AtR ρ τ w k (τ (g.q + j))
section
variable {P : Program} {ρ : Env} {s : St}
theorem VR.ptr_inv' {σ : Mp} {b o : Nat} {v : Value} (h : VR ρ σ (.ptr (some (b, o))) v) : ∃ l, σ b = some l ∧ v = .pointer (some ⟨l.blk, l.base + o, none⟩) := by
  cases h with
  | ptr hl => exact ⟨_, hl, rfl⟩
mutual
theorem AB.get_ok : ∀ {p : AB} {c : CV} {g g' : AX}, AB.get s p c g = some g' → AGot ρ s p.ni p.nb p.nt p.nq g g' (fun u => p.blks u g.v.i.length g.v.b.length g.v.t.length g.q) (p.tabs c g.q) (fun σ v => VR ρ σ c v) (fun u τ v => VR ρ τ (p.put u g.v.i.length g.v.b.length g.v.t.length g.q) v)
  | .int k, c, g, g', h => by
    cases c <;> simp only [AB.get] at h <;> try (cases h; done)
    rename_i k' e
    cases hk : decide (k = k') with
    | false => rw [hk] at h; cases h
    | true =>
      rw [hk, cond_true] at h
      obtain rfl := of_decide_eq_true hk
      cases e <;> simp only [IE.num] at h <;> try (cases h; done)
      all_goals
        cases h
        refine ⟨⟨⟨_, rfl⟩, ⟨[], by simp⟩, ⟨[], by simp⟩⟩, by simp [AB.ni], by simp [AB.nb], by simp [AB.nt], by simp [AB.nq], ⟨[], by simp⟩, ⟨[], by simp⟩, fun h => h, fun σ cur w v hv _ _ _ => ⟨[], by simp [AB.nq], fun x hx => by simp [AB.tabs] at hx, fun u τ hu _ => ⟨?_, fun j k hj => by simp [AB.blks] at hj⟩⟩⟩
        obtain ⟨⟨l, e⟩, _⟩ := hu
        simp only [AB.put, getD_pre_end e]
        cases hv
        first | exact .int k (.x _)
  | .bool, c, g, g', h => by
    cases c <;> simp only [AB.get] at h <;> try (cases h; done)
    rename_i e
    cases e <;> simp only [BE.val] at h <;> try (cases h; done)
    all_goals
      cases h
      refine ⟨⟨⟨[], by simp⟩, ⟨_, rfl⟩, ⟨[], by simp⟩⟩, by simp [AB.ni], by simp [AB.nb], by simp [AB.nt], by simp [AB.nq], ⟨[], by simp⟩, ⟨[], by simp⟩, fun h => h, fun σ cur w v hv _ _ _ => ⟨[], by simp [AB.nq], fun x hx => by simp [AB.tabs] at hx, fun u τ hu _ => ⟨?_, fun j k hj => by simp [AB.blks] at hj⟩⟩⟩
      obtain ⟨_, ⟨l, e⟩, _⟩ := hu
      simp only [AB.put, getD_pre_end e]
      cases hv
      first | exact .bool (.x _)
  | .nils, c, g, g', h => by
    obtain ⟨rfl, rfl⟩ := AB.get_nils h
    exact ⟨g.v.pre_refl, by simp [AB.ni], by simp [AB.nb], by simp [AB.nt], by simp [AB.nq], ⟨[], by simp⟩, ⟨[], by simp⟩, fun h => h, fun σ cur w v hv _ _ _ => ⟨[], by simp [AB.nq], fun x hx => by simp [AB.tabs] at hx, fun u τ _ _ => ⟨by
      simp only [AB.put]
      cases hv
      exact .slc0, fun j k hj => by simp [AB.blks] at hj⟩⟩⟩
  | .agg l, c, g, g', h => by
    cases c <;> simp only [AB.get] at h <;> try (cases h; done)
    have k := AB.gets_ok h
    refine ⟨k.pre, by rw [k.li, AB.ni], by rw [k.lb, AB.nb], by rw [k.lt, AB.nt], by rw [k.lq, AB.nq], k.sh, k.R, k.le, fun σ cur w v hv h1 h2 h3 => ?_⟩
    obtain ⟨cs, rfl, hl⟩ := VR.agg_inv hv
    obtain ⟨los, q1, qp, q2⟩ := k.ok σ cur w _ hl h1 h2 h3
    refine ⟨los, by rw [q1, AB.nq], fun x hx => by rw [AB.tabs] at hx; rw [AB.nq]; exact qp x hx, fun u τ hu hτ => ?_⟩
    obtain ⟨r1, r2⟩ := q2 u τ hu hτ
    exact ⟨by rw [AB.put]; exact .agg r1, by simpa only [AB.blks] using r2⟩
  | .fn f l, c, g, g', h => by
    simp only [AB.get] at h
    split at h
    rotate_left
    · cases h
    rename_i m hm
    obtain rfl := fnOf_ok hm
    have k := AB.gets_ok h
    refine ⟨k.pre, by rw [k.li, AB.ni], by rw [k.lb, AB.nb], by rw [k.lt, AB.nt], by rw [k.lq, AB.nq], k.sh, k.R, k.le, fun σ cur w v hv h1 h2 h3 => ?_⟩
    cases hv with
    | fn _ ha hb =>
      obtain ⟨los, q1, _, q2⟩ := k.ok σ cur w _ hb h1 h2 h3
      refine ⟨los, by rw [q1, AB.nq], fun x hx => by simp [AB.tabs] at hx, fun u τ hu hτ => ?_⟩
      obtain ⟨r1, r2⟩ := q2 u τ hu hτ
      refine ⟨by rw [AB.put]; exact .fn _ (by
        generalize hx : Array.toList _ = xs at ha
        cases ha
        exact .nil) r1, by simpa only [AB.blks] using r2⟩
  | .rows ks, c, g, g', h => by
    simp only [AB.get] at h
    split at h
    · rename_i t sh R hr
      cases h
      refine ⟨⟨⟨[], by simp⟩, ⟨[], by simp⟩, ⟨_, rfl⟩⟩, by simp [AB.ni], by simp [AB.nb], by simp [AB.nt], by simp [AB.nq], ⟨_, rfl⟩, ⟨_, rfl⟩, fun h b hb => ?_, fun σ cur w v hv h1 h2 h3 => ?_⟩
      · rcases List.mem_append.1 hb with hb | hb
        · exact h b hb
        · exact rowsOf_lt hr b hb
      · obtain ⟨_, lo, q1, q2, qp⟩ := rowsOf_ok2 hr (fun b hb => h1 b (List.mem_append_right _ hb)) h2 (fun b hb => h3 b (List.mem_append_right _ hb)) hv
        refine ⟨[lo], by simp [AB.nq], fun x hx => ?_, fun u τ hu hτ => ?_⟩
        · cases c with
          | sla b z o n =>
            simp only [AB.tabs, List.mem_singleton] at hx
            subst hx
            refine ⟨Nat.le_refl _, by simp [AB.nq], fun l' hl' => ?_⟩
            simp only [Nat.sub_self, List.getElem?_cons_zero, Option.some.injEq] at hl'
            exact qp b z o n rfl l' hl'
          | _ => simp [AB.tabs] at hx
        have h0 := hτ 0 lo rfl
        obtain ⟨_, _, m, e⟩ := hu
        refine ⟨?_, fun j k hj => ?_⟩
        · simp only [AB.put, getD_pre_end e]
          exact q2 _ τ h0
        · simp only [AB.blks, getD_pre_end e] at hj
          cases j with
          | zero =>
            simp only [List.getElem?_cons_zero, Option.some.injEq] at hj
            subst hj
            rw [h0]
            exact q1.atR τ
          | succ j => simp at hj
    · cases h
  | .box l, c, g, g', h => by
    simp only [AB.get] at h
    split at h
    rotate_left
    · cases h
    rename_i b cs hbc
    obtain ⟨o, rfl, hfl, hld⟩ := boxOf_ok hbc
    have k := AB.gets_ok h
    obtain ⟨r1, e1⟩ := k.R
    simp only [List.append_assoc] at e1
    obtain ⟨kb, g1, g2, g3, g4, g5⟩ := ld_parts hld
    refine ⟨k.pre, by rw [k.li, AB.ni], by rw [k.lb, AB.nb], by rw [k.lt, AB.nt], by rw [k.lq, AB.nq]; simp only; omega, k.sh, ⟨_, e1⟩, fun h => k.le (fun x hx => ?_), fun σ cur w v hv h1 h2 h3 => ?_⟩
    · rcases List.mem_append.1 hx with hx | hx
      · exact h x hx
      · obtain rfl := List.mem_singleton.1 hx
        exact g5
    · obtain ⟨lb, hl, rfl⟩ := hv.ptr_inv'
      have hcb := h3 b (by rw [e1]; simp)
      obtain ⟨c, t, p, w1, w2, w3, w4, w5, w6⟩ := h2.cell b kb lb (hcb.trans g1) g2 hl
      have hcs : VRl ρ σ cs ((c.toList.drop (lb.base + o)).take l.length) := by
        have := (w6.drop o).take l.length
        rw [← g4, List.drop_take, List.take_take, List.drop_drop, Nat.min_eq_left (by omega)] at this
        exact this
      obtain ⟨los, q1, _, q2⟩ := k.ok σ cur w _ hcs h1 h2 h3
      refine ⟨some ⟨lb.blk, lb.base + o, lb.size, l.length⟩ :: los, by rw [List.length_cons, q1, AB.nq], fun x hx => by simp [AB.tabs] at hx, fun u τ hu hτ => ?_⟩
      have h0 := hτ 0 _ rfl
      rw [Nat.add_zero] at h0
      obtain ⟨r1, r2⟩ := q2 u τ hu (fun j lo hj => by
        have := hτ (j + 1) lo (by simpa using hj)
        show τ (g.q + 1 + j) = lo
        rwa [show g.q + 1 + j = g.q + (j + 1) by omega])
      have hflat := fl_id (AB.puts_flat u l g.v.i.length g.v.b.length g.v.t.length (g.q + 1) hfl)
      refine ⟨?_, fun j kk hj => ?_⟩
      · rw [AB.put]
        exact .ptr h0
      · rw [AB.blks] at hj
        cases j with
        | zero =>
          simp only [List.getElem?_cons_zero, Option.some.injEq] at hj
          subst hj
          show AtR ρ τ w _ (τ g.q)
          rw [h0]
          refine ⟨rfl, rfl, rfl, fun l' hl' => ?_⟩
          cases hl'
          have hlen : (AB.puts u l g.v.i.length g.v.b.length g.v.t.length (g.q + 1)).length = l.length := AB.puts_length u l _ _ _ _
          refine ⟨c, t, p, w1, w3, hlen, ?_, ?_⟩
          · rw [boxB_cells, hflat, hlen]; show lb.base + o + l.length ≤ lb.size; omega
          · rw [boxB_cells, hflat, hlen]
            exact r1
        | succ j =>
          have := r2 j kk (by simpa using hj)
          have e : g.q + 1 + j = g.q + (j + 1) := by omega
          have this : AtR ρ τ w kk (τ (g.q + 1 + j)) := this
          rwa [e] at this
theorem AB.gets_ok : ∀ {l : List AB} {m : List CV} {g g' : AX}, AB.gets s l m g = some g' → AGot ρ s (AB.nis l) (AB.nbs l) (AB.nts l) (AB.nqs l) g g' (fun u => AB.blkss u l g.v.i.length g.v.b.length g.v.t.length g.q) (AB.tabss l m g.q) (fun σ v => VRl ρ σ m v) (fun u τ v => VRl ρ τ (AB.puts u l g.v.i.length g.v.b.length g.v.t.length g.q) v)
  | [], m, g, g', h => by
    cases m <;> simp only [AB.gets] at h <;> try (cases h; done)
    cases h
    exact ⟨g.v.pre_refl, by simp [AB.nis], by simp [AB.nbs], by simp [AB.nts], by simp [AB.nqs], ⟨[], by simp⟩, ⟨[], by simp⟩, fun h => h, fun σ cur w v hv _ _ _ => ⟨[], by simp [AB.nqs], fun x hx => by simp [AB.tabss] at hx, fun u τ _ _ => ⟨by cases hv; simpa [AB.puts] using VRl.nil, fun j k hj => by simp [AB.blkss] at hj⟩⟩⟩
  | p :: l, m, g, g', h => by
    cases m <;> simp only [AB.gets] at h <;> try (cases h; done)
    rename_i c m
    cases hc : AB.get s p c g with
    | none => rw [hc] at h; cases h
    | some g1 =>
      rw [hc] at h
      have k1 := AB.get_ok hc
      have k2 := AB.gets_ok (l := l) h
      obtain ⟨s1, e1⟩ := k1.sh
      obtain ⟨s2, e2⟩ := k2.sh
      obtain ⟨r1, f1⟩ := k1.R
      obtain ⟨r2, f2⟩ := k2.R
      refine ⟨AW.pre_trans k1.pre k2.pre, by rw [k2.li, k1.li, AB.nis]; omega, by rw [k2.lb, k1.lb, AB.nbs]; omega, by rw [k2.lt, k1.lt, AB.nts]; omega, by rw [k2.lq, k1.lq, AB.nqs]; omega, ⟨s1 ++ s2, by rw [e2, e1, List.append_assoc]⟩, ⟨r1 ++ r2, by rw [f2, f1, List.append_assoc]⟩, fun h => k2.le (k1.le h), fun σ cur w v hv h1 h2 h3 => ?_⟩
      cases hv with
      | cons hv1 hvl =>
        obtain ⟨lo1, a1, ap, a2⟩ := k1.ok σ cur w _ hv1 (fun b hb => h1 b (by rw [e2]; exact List.mem_append_left _ hb)) h2 (fun b hb => h3 b (by rw [f2]; exact List.mem_append_left _ hb))
        obtain ⟨lo2, b1, bp, b2⟩ := k2.ok σ cur w _ hvl h1 h2 h3
        refine ⟨lo1 ++ lo2, by rw [List.length_append, a1, b1, AB.nqs], fun x hx => ?_, fun u τ hu hτ => ?_⟩
        · rw [AB.tabss, List.mem_append] at hx
          rw [AB.nqs]
          rcases hx with hx | hx
          · obtain ⟨u1, u2, u3⟩ := ap x hx
            exact ⟨u1, by omega, fun l' hl' => u3 l' (by rwa [List.getElem?_append_left (by omega)] at hl')⟩
          · rw [← k1.lq] at hx
            obtain ⟨u1, u2, u3⟩ := bp x hx
            rw [k1.lq] at u1 u2
            exact ⟨by omega, by omega, fun l' hl' => u3 l' (by
              rw [List.getElem?_append_right (by omega), a1] at hl'
              rwa [k1.lq, show x.1 - (g.q + p.nq) = x.1 - g.q - p.nq by omega])⟩
        obtain ⟨c1, c2⟩ := a2 u τ (AW.pre_trans k2.pre hu) (fun j lo hj => hτ j lo (by
            rw [List.getElem?_append_left]; exact hj
            exact (List.getElem?_eq_some_iff.1 hj).1))
        obtain ⟨d1, d2⟩ := b2 u τ hu (fun j lo hj => by
            have := hτ (p.nq + j) lo (by rw [List.getElem?_append_right (by omega), a1, show p.nq + j - p.nq = j by omega]; exact hj)
            rw [k1.lq]
            rwa [show g.q + p.nq + j = g.q + (p.nq + j) by omega])
        rw [k1.li, k1.lb, k1.lt, k1.lq] at d1 d2
        refine ⟨by rw [AB.puts]; exact .cons c1 d1, fun j k hj => ?_⟩
        rw [AB.blkss] at hj
        by_cases hlt : j < p.nq
        · rw [List.getElem?_append_left (by rw [AB.blks_length]; exact hlt)] at hj
          exact c2 j k hj
        · rw [List.getElem?_append_right (by rw [AB.blks_length]; omega), AB.blks_length] at hj
          have := d2 (j - p.nq) k hj
          rwa [show g.q + p.nq + (j - p.nq) = g.q + j by omega] at this
end
end
/-! ## The memo -/
def numB : Nat → List Blk → List (Nat × Blk)
  | _, [] => []
  | q, k :: l => (q, k) :: numB (q + 1) l
def AB.hp (v : AW) (ps : List AB) : List (Nat × Blk) := numB 0 (AB.blkss v ps 0 0 0 0)
theorem numB_get (i : Nat) : ∀ (l : List Blk) (q : Nat) (k : Blk), (mkH (numB q l)).get i = some k → ∃ j, i = q + j ∧ l[j]? = some k
  | [], q, k, h => by simp [numB, mkH, Tr.get_nil] at h
  | b :: l, q, k, h => by
    simp only [numB, mkH, Tr.get_set] at h
    by_cases hi : i = q
    · rw [if_pos hi] at h
      cases h
      exact ⟨0, by omega, rfl⟩
    · rw [if_neg hi] at h
      obtain ⟨j, h1, h2⟩ := numB_get i l (q + 1) k h
      exact ⟨j + 1, by omega, by simpa using h2⟩
/-- Calls of a function are known from its automaton. -/
noncomputable def memoF {N R : Type} [Inhabited R] (g : Nat) (ps : List AB) (F : AW → AF N R) (rw' : R → CV) (hw : R → List (Nat × Blk)) (nw : Nat) (inner : Memo) : Memo := fun f args s =>
  bif Nat.beq f g then
    match AB.gets s ps args ⟨⟨[], [], []⟩, [], [], 0⟩ with
    | some a => match s.musts (a.sh ++ [(F a.v).fin]) with
      | some s1 => some ((rw' (F a.v).val).ren (liftName (AB.nqs ps) s.next), { s1 with heap := putNew (AB.nqs ps) s.next s.heap (hw (F a.v).val), next := s.next + (nw - (AB.nqs ps)) }, a.R, [])
      | none => none
    | none => inner f args s
  else inner f args s
structure KnownF (P : Program) (ρ : Env) (g : Nat) (ps : List AB) {N R : Type} (F : AW → AF N R) (rw' : R → CV) (hw : R → List (Nat × Blk)) (nw : Nat) : Prop where
  fn : ∃ fn, P.funcs[g]? = some fn ∧ fn.body.isSome = true
  le : AB.nqs ps ≤ nw
  full : ∀ r, (hw r).map Prod.fst = List.range' (AB.nqs ps) (nw - (AB.nqs ps))
  rg : ∀ r, (rw' r).rng (AB.nqs ps) nw = true
  hg : ∀ r, ∀ x ∈ hw r, x.2.body.Rg (AB.nqs ps) nw ∧ x.2.ext = none
  ctr : ∀ v n r, (F v).run n = some r → Ctr P ρ g (AB.puts v ps 0 0 0 0) (mkH (AB.hp v ps)) (AB.nqs ps) [] (rw' r) (putH (mkH (AB.hp v ps)) (hw r)) nw
theorem memoF_ok {P : Program} {ρ : Env} {N R : Type} [Inhabited R] {g : Nat} {ps : List AB} {F : AW → AF N R} {rw' : R → CV} {hw : R → List (Nat × Blk)} {nw : Nat} {inner : Memo} (K : KnownF P ρ g ps F rw' hw nw) (hi : MemoOk P (ctxOf P inner) ρ) : MemoOk P (ctxOf P (memoF g ps F rw' hw nw inner)) ρ := by
  have lift : ∀ {f args s c s' R' W}, CallOk P (ctxOf P inner) ρ f args s c s' R' W → CallOk P (ctxOf P (memoF g ps F rw' hw nw inner)) ρ f args s c s' R' W := fun h => ⟨h.fn, h.frm, h.lt, h.run⟩
  intro f args s c s' R' W h0
  have h : memoF g ps F rw' hw nw inner f args s = some (c, s', R', W) := h0
  clear h0
  unfold memoF at h
  cases hf : Nat.beq f g with
  | false => rw [hf, cond_false] at h; exact lift (hi _ _ _ _ _ _ _ h)
  | true =>
    rw [hf, cond_true] at h
    obtain rfl := Nat.eq_of_beq_eq_true hf
    split at h
    · rename_i a ha
      split at h
      · rename_i s1 hm
        cases h
        obtain ⟨m1, m2, ⟨lm, m3⟩, m4⟩ := musts_parts (ρ := ρ) hm
        have k := AB.gets_ok (ρ := ρ) ha
        have facts : (∀ p ∈ s1.pc, p.holds ρ) → ∀ b ∈ a.sh ++ [(F a.v).fin], b = true := m4
        have hR := k.le (fun b hb => by cases hb)
        have find : ∀ (r : R) (j : Nat), AB.nqs ps + j < nw → ∃ x, (hw r).find? (fun x => x.1 == AB.nqs ps + j) = some x := fun r j hj => by
          have hmem : AB.nqs ps + j ∈ (hw r).map Prod.fst := by rw [K.full]; rw [List.mem_range']; exact ⟨j, by omega, by omega⟩
          obtain ⟨x, hx, he⟩ := List.mem_map.1 hmem
          cases hf : (hw r).find? (fun x => x.1 == AB.nqs ps + j) with
          | some y => exact ⟨y, rfl⟩
          | none =>
            rw [List.find?_eq_none] at hf
            exact absurd (by simp [he]) (hf x hx)
        have rngw : ∀ (r : R), ∀ x ∈ hw r, AB.nqs ps ≤ x.1 ∧ x.1 < nw := fun r x hx => by
          have : x.1 ∈ (hw r).map Prod.fst := List.mem_map.2 ⟨x, hx, rfl⟩
          rw [K.full, List.mem_range'] at this
          obtain ⟨i, h1, h2⟩ := this
          omega
        refine Ctr.callS (base := AB.nqs ps) (n1 := nw) (args := AB.puts a.v ps 0 0 0 0) (h0 := mkH (AB.hp a.v ps)) (h1 := putH (mkH (AB.hp a.v ps)) (hw (F a.v).val)) (K := fun hp => ?_) K.fn K.le rfl ⟨lm, m3⟩ (fun b hb => ?_) (fun j hj kb hk => ?_) hR (fun σ cur w l hp hl hH hcur => ?_) (fun σ σ2 v hl hv => hv.lift hl (K.rg _))
        · have hfin : (F a.v).fin = true := facts hp _ (List.mem_append_right _ (List.mem_singleton_self _))
          obtain ⟨n, hn⟩ := AF.fin_run hfin
          exact K.ctr a.v n _ hn
        · show (putNew _ _ _ _).get b = _
          rw [get_putNew]
          split
          · rename_i x hx
            have h1 := List.find?_some hx
            have h2 := List.mem_of_find?_eq_some hx
            simp only [beq_iff_eq] at h1
            obtain ⟨q1, q2⟩ := rngw _ x h2
            refine absurd ?_ hb
            show s.next ≤ b ∧ b < s.next + (nw - AB.nqs ps)
            unfold liftName at h1
            omega
          · rfl
        · have hk : (putNew (AB.nqs ps) s.next s.heap (hw (F a.v).val)).get (s.next + j) = some kb := hk
          rw [get_putNew] at hk
          have e : ∀ x ∈ hw (F a.v).val, (liftName (AB.nqs ps) s.next x.1 == s.next + j) = (x.1 == AB.nqs ps + j) := fun x hx => by
            obtain ⟨q1, q2⟩ := rngw _ x hx
            unfold liftName
            rw [Bool.eq_iff_iff]
            simp only [beq_iff_eq]
            omega
          obtain ⟨x, hx⟩ := find (F a.v).val j hj
          have hx2 : (hw (F a.v).val).find? (fun x => liftName (AB.nqs ps) s.next x.1 == s.next + j) = some x := by
            rw [← hx]
            exact find_congr e
          rw [hx2] at hk
          cases hk
          have hmem := List.mem_of_find?_eq_some hx
          obtain ⟨g1, g2⟩ := K.hg _ x hmem
          refine ⟨x.2, ?_, rfl, rfl, rfl, fun h => ?_, fun σ σ2 us hl h => Blk.lift hl g1 h⟩
          · rw [get_putH, hx]
          · have : (x.2.ren (liftName (AB.nqs ps) s.next)).ro = x.2.ro := by
              generalize x.2 = kk
              obtain ⟨bb, e, v, xx⟩ := kk
              cases bb <;> rfl
            rw [← this]; exact h
        · have fa := facts hp
          obtain ⟨los, q1, _, q2⟩ := k.ok σ cur w l hl (fun b hb => fa b (List.mem_append_left _ hb)) hH hcur
          obtain ⟨r1, r2⟩ := q2 a.v (fun b => if b < AB.nqs ps then (los[b]?).getD none else none) a.v.pre_refl (fun j lo hj => by
            have : j < los.length := (List.getElem?_eq_some_iff.1 hj).1
            show (if 0 + j < _ then (los[0 + j]?).getD none else none) = lo
            rw [Nat.zero_add, if_pos (by omega), hj]; rfl)
          refine ⟨_, r1, HR.ofR (HR.laid (by assumption)) (fun i kb hi hk => ?_), fun b hb => if_neg (by omega)⟩
          obtain ⟨j, rfl, h2⟩ := numB_get i _ _ _ hk
          exact r2 j kb h2
      · cases h
    · exact lift (hi _ _ _ _ _ _ _ h)
end Go.Proofs.Ythagjhadjpangaa.Cx

/- slices.IndexFunc[[]acme/api.Span,acme/api.Span] as an automaton. Made by tools/cxauto.py. -/
namespace Go.Proofs.Ythagjhadjpangaa.Cx
set_option linter.unusedVariables false
set_option linter.unusedSimpArgs false
set_option maxRecDepth 100000
open Go Go.Proofs Go.RowKit
noncomputable abbrev disCode : Code := funcCode Try.f97
inductive disN where
  | n0 (p0 : Int)
abbrev disR := Int
noncomputable def disD0 (a0 : Nat) (a1 a2 : Nat → Int) (a3 a4 : Int) : DD (Lf disN disR) :=
 .leaf (.next (.n0 0) [])

noncomputable def disD (a0 : Nat) (a1 a2 : Nat → Int) (a3 a4 : Int) : disN → DD (Lf disN disR)
 | .n0 p0 =>
 let z0 := a1 (0 + Int.toNat p0)
 let z1 := a2 (0 + Int.toNat p0)
 .ask (Cm.run .lss p0 (↑a0 : Int))
   (.must (decide (0 ≤ p0))
   (.must (decide (p0 < (↑a0 : Int)))
   (.must (decide (0 + Int.toNat p0 < a0))
   (.ask (Cm.run .leq a3 z0)
   (.ask (Cm.run .leq z0 z1)
   (.ask (Cm.run .leq z1 a4)
   (.leaf (.next (.n0 (Ar.run .add .i64 p0 1)) []))
   (.leaf (.done p0 [])))
   (.leaf (.done p0 [])))
   (.leaf (.done p0 []))))))
   (.leaf (.done (-1) []))

noncomputable def disA (a0 : Nat) (a1 a2 : Nat → Int) (a3 a4 : Int) : AF disN disR where
  code := disCode
  base := 3
  nt := 19
  m := 400
  un := []
  W := []
  h0 := [(0, ⟨.arg a0 2 (fun i => [.int .i64 (.x (a1 i)), .int .i64 (.x (a2 i))]) (fun _ => ⟨rfl, rfl⟩), 2, true, none⟩), (1, ⟨.arg 1 1 (fun i => [.int .i64 (.x a3)]) (fun _ => ⟨rfl, rfl⟩), 1, true, none⟩), (2, ⟨.arg 1 1 (fun i => [.int .i64 (.x a4)]) (fun _ => ⟨rfl, rfl⟩), 1, true, none⟩)]
  args := [.sla 0 2 0 a0, .fn (.func 93) [] [.ptr (some (1, 0)), .ptr (some (2, 0))]]
  res := (Try.f97).results.toList
  path := fun a => match a with
   | .n0 p0 => [1, 0, 1, 0]
  pd := fun a => match a with
   | .n0 p0 => ⟨[(0, .sla 0 2 0 a0), (1, .fn (.func 93) [] [.ptr (some (1, 0)), .ptr (some (2, 0))]), (7, .int .i64 (.x (↑a0))), (8, .int .i64 (.x p0))], [], 3, []⟩
  D0 := disD0 a0 a1 a2 a3 a4
  D := disD a0 a1 a2 a3 a4
  rc := (fun v => .int .i64 (.x v))
  rh := (fun v => [])
  rn := (fun v => 3)
  rx := (fun v => [])
  rgo := (fun _ => none)
theorem disstart (a0 : Nat) (a1 a2 : Nat → Int) (a3 a4 : Int) : AF.edgeOk (disA a0 a1 a2 a3 a4) (ctxOf Try.prog memo0) (disD0 a0 a1 a2 a3 a4) (AF.run0 (disA a0 a1 a2 a3 a4) (ctxOf Try.prog memo0)) := by unfold AF.edgeOk; kernel_rfl
theorem disnode0 (a0 : Nat) (a1 a2 : Nat → Int) (a3 a4 p0 : Int) : AF.edgeOk (disA a0 a1 a2 a3 a4) (ctxOf Try.prog memo0) (disD a0 a1 a2 a3 a4 (.n0 p0)) (AF.runN (disA a0 a1 a2 a3 a4) (ctxOf Try.prog memo0) (.n0 p0)) := by unfold AF.edgeOk; kernel_rfl
theorem disok (a0 : Nat) (a1 a2 : Nat → Int) (a3 a4 : Int) : (disA a0 a1 a2 a3 a4).Ok Try.prog (ctxOf Try.prog memo0) where
  regs := by kernel_rfl
  h0 := by kernel_rfl
  start := disstart a0 a1 a2 a3 a4
  node := fun a _ => match a with
   | .n0 p0 => disnode0 a0 a1 a2 a3 a4 p0
  pd := fun a => match a with
   | .n0 p0 => ⟨(fa_cons rfl (fa_cons rfl (fa_cons rfl (fa_cons rfl fa_nil)))), fa_nil, fa_nil, rfl⟩
  le := fun a => match a with
   | .n0 p0 => Nat.le_of_ble_eq_true rfl
  rd := fun v => ⟨⟨fa_nil, fa_nil, fa_nil, rfl⟩, rfl⟩
  wb := rfl
theorem dishR {ρ : Env} (a0 : Nat) (a1 a2 : Nat → Int) (a3 a4 : Int) (hM : MemoOk Try.prog (ctxOf Try.prog memo0) ρ) : ∀ X a q n D, FxOk ρ X → X.base = (disA a0 a1 a2 a3 a4).base → X.nt = (disA a0 a1 a2 a3 a4).nt → X.W = (disA a0 a1 a2 a3 a4).W → (disA a0 a1 a2 a3 a4).rgo a = some q → q n = some D → (disA a0 a1 a2 a3 a4).RangeOk Try.prog ρ X a D := AF.noRange rfl
theorem disctr {ρ : Env} (a0 : Nat) (a1 a2 : Nat → Int) (a3 a4 : Int) {n : Nat} {v : disR} (hM : MemoOk Try.prog (ctxOf Try.prog memo0) ρ) (hv : (disA a0 a1 a2 a3 a4).run n = some v) :
    Ctr Try.prog ρ 97 (disA a0 a1 a2 a3 a4).args (disA a0 a1 a2 a3 a4).H0 (disA a0 a1 a2 a3 a4).base (disA a0 a1 a2 a3 a4).W ((disA a0 a1 a2 a3 a4).rc v) (putH (disA a0 a1 a2 a3 a4).H0 ((disA a0 a1 a2 a3 a4).rh v ++ (disA a0 a1 a2 a3 a4).rx v)) ((disA a0 a1 a2 a3 a4).rn v) :=
  AF.ctr try_ok hM (disok a0 a1 a2 a3 a4) (fn := Try.f97) Try.func97 rfl rfl (Nat.le_of_ble_eq_true rfl) rfl (dishR a0 a1 a2 a3 a4 hM) hv
theorem dismem {ρ : Env} : MemoOk Try.prog (ctxOf Try.prog memo0) ρ := memo0_ok
abbrev disP : List AB := [.rows [some .i64, some .i64], .fn 93 [.box [.int .i64], .box [.int .i64]]]
noncomputable def disF (v : AW) : AF disN disR := disA (v.t.getD 0 .none).n ((v.t.getD 0 .none).c 0) ((v.t.getD 0 .none).c 1) (v.i.getD 0 0) (v.i.getD 1 0)
noncomputable def disW : disR → CV := fun v => .int .i64 (.x v)
noncomputable def disH : disR → List (Nat × Blk) := fun v => []
instance : Inhabited disR := ⟨0⟩
theorem disknown {ρ : Env} (hM : MemoOk Try.prog (ctxOf Try.prog memo0) ρ) : KnownF Try.prog ρ 97 disP disF disW disH 3 where
  fn := ⟨Try.f97, Try.func97, rfl⟩
  le := Nat.le_of_ble_eq_true rfl
  full := fun r => rfl
  rg := fun r => rfl
  hg := fun r => fa_nil
  ctr := fun v n r h => disctr (v.t.getD 0 .none).n ((v.t.getD 0 .none).c 0) ((v.t.getD 0 .none).c 1) (v.i.getD 0 0) (v.i.getD 1 0) hM h
end Go.Proofs.Ythagjhadjpangaa.Cx

/- slices.ContainsFunc[[]acme/api.Span,acme/api.Span] as an automaton. Made by tools/cxauto.py. -/
namespace Go.Proofs.Ythagjhadjpangaa.Cx
set_option linter.unusedVariables false
set_option linter.unusedSimpArgs false
set_option maxRecDepth 100000
open Go Go.Proofs Go.RowKit
noncomputable abbrev dcsCode : Code := funcCode Try.f94
abbrev dcsN := Empty
abbrev dcsR := Bool
noncomputable def dcsD0 (a0 : Nat) (a1 a2 : Nat → Int) (a3 a4 : Int) : DD (Lf dcsN dcsR) :=
 let z0 := fun i => [CV.int IntKind.i64 (IE.x (a1 (0 + i))), CV.int IntKind.i64 (IE.x (a2 (0 + i)))]
 let z1 := disA a0 (fun i => a1 (0 + i)) (fun i => a2 (0 + i)) a3 a4
 .must (decide (0 + a0 ≤ a0))
   (.must (ShapeOk [some IntKind.i64, some IntKind.i64] (tabOf a0 z0) z0)
   (.must (AF.fin z1)
   (.ask (Cm.run .geq (AF.val z1) 0)
   (.leaf (.done true []))
   (.leaf (.done false [])))))

noncomputable def dcsD (a0 : Nat) (a1 a2 : Nat → Int) (a3 a4 : Int) : dcsN → DD (Lf dcsN dcsR) := fun a => nomatch a
noncomputable def dcsA (a0 : Nat) (a1 a2 : Nat → Int) (a3 a4 : Int) : AF dcsN dcsR where
  code := dcsCode
  base := 3
  nt := 9
  m := 400
  un := []
  W := []
  h0 := [(0, ⟨.arg a0 2 (fun i => [.int .i64 (.x (a1 i)), .int .i64 (.x (a2 i))]) (fun _ => ⟨rfl, rfl⟩), 2, true, none⟩), (1, ⟨.arg 1 1 (fun i => [.int .i64 (.x a3)]) (fun _ => ⟨rfl, rfl⟩), 1, true, none⟩), (2, ⟨.arg 1 1 (fun i => [.int .i64 (.x a4)]) (fun _ => ⟨rfl, rfl⟩), 1, true, none⟩)]
  args := [.sla 0 2 0 a0, .fn (.func 93) [] [.ptr (some (1, 0)), .ptr (some (2, 0))]]
  res := (Try.f94).results.toList
  path := fun a => nomatch a
  pd := fun a => nomatch a
  D0 := dcsD0 a0 a1 a2 a3 a4
  D := dcsD a0 a1 a2 a3 a4
  rc := (fun v => .bool (.x v))
  rh := (fun v => [])
  rn := (fun v => 3)
  rx := (fun v => [])
  rgo := (fun _ => none)
theorem dcsstart (a0 : Nat) (a1 a2 : Nat → Int) (a3 a4 : Int) : AF.edgeOk (dcsA a0 a1 a2 a3 a4) (ctxOf Try.prog memo0) (dcsD0 a0 a1 a2 a3 a4) (AF.run0 (dcsA a0 a1 a2 a3 a4) (ctxOf Try.prog (memoF 97 disP disF disW disH 3 memo0))) := by unfold AF.edgeOk; kernel_rfl
theorem dcsok (a0 : Nat) (a1 a2 : Nat → Int) (a3 a4 : Int) : (dcsA a0 a1 a2 a3 a4).Ok Try.prog (ctxOf Try.prog (memoF 97 disP disF disW disH 3 memo0)) where
  regs := by kernel_rfl
  h0 := by kernel_rfl
  start := dcsstart a0 a1 a2 a3 a4
  node := fun a _ => nomatch a
  pd := fun a => nomatch a
  le := fun a => nomatch a
  rd := fun v => ⟨⟨fa_nil, fa_nil, fa_nil, rfl⟩, rfl⟩
  wb := rfl
theorem dcshR {ρ : Env} (a0 : Nat) (a1 a2 : Nat → Int) (a3 a4 : Int) (hM : MemoOk Try.prog (ctxOf Try.prog (memoF 97 disP disF disW disH 3 memo0)) ρ) : ∀ X a q n D, FxOk ρ X → X.base = (dcsA a0 a1 a2 a3 a4).base → X.nt = (dcsA a0 a1 a2 a3 a4).nt → X.W = (dcsA a0 a1 a2 a3 a4).W → (dcsA a0 a1 a2 a3 a4).rgo a = some q → q n = some D → (dcsA a0 a1 a2 a3 a4).RangeOk Try.prog ρ X a D := AF.noRange rfl
theorem dcsctr {ρ : Env} (a0 : Nat) (a1 a2 : Nat → Int) (a3 a4 : Int) {n : Nat} {v : dcsR} (hM : MemoOk Try.prog (ctxOf Try.prog (memoF 97 disP disF disW disH 3 memo0)) ρ) (hv : (dcsA a0 a1 a2 a3 a4).run n = some v) :
    Ctr Try.prog ρ 94 (dcsA a0 a1 a2 a3 a4).args (dcsA a0 a1 a2 a3 a4).H0 (dcsA a0 a1 a2 a3 a4).base (dcsA a0 a1 a2 a3 a4).W ((dcsA a0 a1 a2 a3 a4).rc v) (putH (dcsA a0 a1 a2 a3 a4).H0 ((dcsA a0 a1 a2 a3 a4).rh v ++ (dcsA a0 a1 a2 a3 a4).rx v)) ((dcsA a0 a1 a2 a3 a4).rn v) :=
  AF.ctr try_ok hM (dcsok a0 a1 a2 a3 a4) (fn := Try.f94) Try.func94 rfl rfl (Nat.le_of_ble_eq_true rfl) rfl (dcshR a0 a1 a2 a3 a4 hM) hv
theorem dcsmem {ρ : Env} : MemoOk Try.prog (ctxOf Try.prog (memoF 97 disP disF disW disH 3 memo0)) ρ := (memoF_ok (disknown dismem) memo0_ok)
abbrev dcsP : List AB := [.rows [some .i64, some .i64], .fn 93 [.box [.int .i64], .box [.int .i64]]]
noncomputable def dcsF (v : AW) : AF dcsN dcsR := dcsA (v.t.getD 0 .none).n ((v.t.getD 0 .none).c 0) ((v.t.getD 0 .none).c 1) (v.i.getD 0 0) (v.i.getD 1 0)
noncomputable def dcsW : dcsR → CV := fun v => .bool (.x v)
noncomputable def dcsH : dcsR → List (Nat × Blk) := fun v => []
instance : Inhabited dcsR := ⟨false⟩
theorem dcsknown {ρ : Env} (hM : MemoOk Try.prog (ctxOf Try.prog (memoF 97 disP disF disW disH 3 memo0)) ρ) : KnownF Try.prog ρ 94 dcsP dcsF dcsW dcsH 3 where
  fn := ⟨Try.f94, Try.func94, rfl⟩
  le := Nat.le_of_ble_eq_true rfl
  full := fun r => rfl
  rg := fun r => rfl
  hg := fun r => fa_nil
  ctr := fun v n r h => dcsctr (v.t.getD 0 .none).n ((v.t.getD 0 .none).c 0) ((v.t.getD 0 .none).c 1) (v.i.getD 0 0) (v.i.getD 1 0) hM h
end Go.Proofs.Ythagjhadjpangaa.Cx

/- acme/exact.ValidSpans as an automaton. Made by tools/cxauto.py. -/
namespace Go.Proofs.Ythagjhadjpangaa.Cx
set_option linter.unusedVariables false
set_option linter.unusedSimpArgs false
set_option maxRecDepth 100000
open Go Go.Proofs Go.RowKit
noncomputable abbrev dvsCode : Code := funcCode Try.f83
abbrev dvsN := Empty
abbrev dvsR := Bool
noncomputable def dvsD0 (a0 a1 : Int) (a2 : Nat) (a3 a4 : Nat → Int) : DD (Lf dvsN dvsR) :=
 let z0 := fun i => [CV.int IntKind.i64 (IE.x (a3 (0 + i))), CV.int IntKind.i64 (IE.x (a4 (0 + i)))]
 let z1 := dcsA a2 (fun i => a3 (0 + i)) (fun i => a4 (0 + i)) a0 a1
 .must (decide (0 + a2 ≤ a2))
   (.must (ShapeOk [some IntKind.i64, some IntKind.i64] (tabOf a2 z0) z0)
   (.must (AF.fin z1)
   (.leaf (.done (!AF.val z1) []))))

noncomputable def dvsD (a0 a1 : Int) (a2 : Nat) (a3 a4 : Nat → Int) : dvsN → DD (Lf dvsN dvsR) := fun a => nomatch a
noncomputable def dvsA (a0 a1 : Int) (a2 : Nat) (a3 a4 : Nat → Int) : AF dvsN dvsR where
  code := dvsCode
  base := 1
  nt := 13
  m := 400
  un := []
  W := []
  h0 := [(0, ⟨.arg a2 2 (fun i => [.int .i64 (.x (a3 i)), .int .i64 (.x (a4 i))]) (fun _ => ⟨rfl, rfl⟩), 2, true, none⟩)]
  args := [.int .i64 (.x a0), .int .i64 (.x a1), .sla 0 2 0 a2]
  res := (Try.f83).results.toList
  path := fun a => nomatch a
  pd := fun a => nomatch a
  D0 := dvsD0 a0 a1 a2 a3 a4
  D := dvsD a0 a1 a2 a3 a4
  rc := (fun v => .bool (.x v))
  rh := (fun v => [])
  rn := (fun v => 1)
  rx := (fun v => [])
  rgo := (fun _ => none)
theorem dvsstart (a0 a1 : Int) (a2 : Nat) (a3 a4 : Nat → Int) : AF.edgeOk (dvsA a0 a1 a2 a3 a4) (ctxOf Try.prog memo0) (dvsD0 a0 a1 a2 a3 a4) (AF.run0 (dvsA a0 a1 a2 a3 a4) (ctxOf Try.prog (memoF 94 dcsP dcsF dcsW dcsH 3 memo0))) := by unfold AF.edgeOk; kernel_rfl
theorem dvsok (a0 a1 : Int) (a2 : Nat) (a3 a4 : Nat → Int) : (dvsA a0 a1 a2 a3 a4).Ok Try.prog (ctxOf Try.prog (memoF 94 dcsP dcsF dcsW dcsH 3 memo0)) where
  regs := by kernel_rfl
  h0 := by kernel_rfl
  start := dvsstart a0 a1 a2 a3 a4
  node := fun a _ => nomatch a
  pd := fun a => nomatch a
  le := fun a => nomatch a
  rd := fun v => ⟨⟨fa_nil, fa_nil, fa_nil, rfl⟩, rfl⟩
  wb := rfl
theorem dvshR {ρ : Env} (a0 a1 : Int) (a2 : Nat) (a3 a4 : Nat → Int) (hM : MemoOk Try.prog (ctxOf Try.prog (memoF 94 dcsP dcsF dcsW dcsH 3 memo0)) ρ) : ∀ X a q n D, FxOk ρ X → X.base = (dvsA a0 a1 a2 a3 a4).base → X.nt = (dvsA a0 a1 a2 a3 a4).nt → X.W = (dvsA a0 a1 a2 a3 a4).W → (dvsA a0 a1 a2 a3 a4).rgo a = some q → q n = some D → (dvsA a0 a1 a2 a3 a4).RangeOk Try.prog ρ X a D := AF.noRange rfl
theorem dvsctr {ρ : Env} (a0 a1 : Int) (a2 : Nat) (a3 a4 : Nat → Int) {n : Nat} {v : dvsR} (hM : MemoOk Try.prog (ctxOf Try.prog (memoF 94 dcsP dcsF dcsW dcsH 3 memo0)) ρ) (hv : (dvsA a0 a1 a2 a3 a4).run n = some v) :
    Ctr Try.prog ρ 83 (dvsA a0 a1 a2 a3 a4).args (dvsA a0 a1 a2 a3 a4).H0 (dvsA a0 a1 a2 a3 a4).base (dvsA a0 a1 a2 a3 a4).W ((dvsA a0 a1 a2 a3 a4).rc v) (putH (dvsA a0 a1 a2 a3 a4).H0 ((dvsA a0 a1 a2 a3 a4).rh v ++ (dvsA a0 a1 a2 a3 a4).rx v)) ((dvsA a0 a1 a2 a3 a4).rn v) :=
  AF.ctr try_ok hM (dvsok a0 a1 a2 a3 a4) (fn := Try.f83) Try.func83 rfl rfl (Nat.le_of_ble_eq_true rfl) rfl (dvshR a0 a1 a2 a3 a4 hM) hv
theorem dvsmem {ρ : Env} : MemoOk Try.prog (ctxOf Try.prog (memoF 94 dcsP dcsF dcsW dcsH 3 memo0)) ρ := (memoF_ok (dcsknown dcsmem) memo0_ok)
abbrev dvsP : List AQ := [.int .i64, .int .i64, .rows [some .i64, some .i64]]
noncomputable def dvsF (v : AW) : AF dvsN dvsR := dvsA (v.i.getD 0 0) (v.i.getD 1 0) (v.t.getD 0 .none).n ((v.t.getD 0 .none).c 0) ((v.t.getD 0 .none).c 1)
noncomputable def dvsW : dvsR → CV := fun v => .bool (.x v)
noncomputable def dvsH : dvsR → List (Nat × Blk) := fun v => []
instance : Inhabited dvsR := ⟨false⟩
theorem dvsknown {ρ : Env} (hM : MemoOk Try.prog (ctxOf Try.prog (memoF 94 dcsP dcsF dcsW dcsH 3 memo0)) ρ) : KnownS Try.prog ρ 83 dvsP dvsF dvsW dvsH 1 where
  fn := ⟨Try.f83, Try.func83, rfl⟩
  le := Nat.le_of_ble_eq_true rfl
  full := fun r => rfl
  rg := fun r => rfl
  hg := fun r => fa_nil
  ctr := fun v n r h => dvsctr (v.i.getD 0 0) (v.i.getD 1 0) (v.t.getD 0 .none).n ((v.t.getD 0 .none).c 0) ((v.t.getD 0 .none).c 1) hM h
end Go.Proofs.Ythagjhadjpangaa.Cx

/- acme/die.checkTool as an automaton. Made by tools/cxauto.py. -/
namespace Go.Proofs.Ythagjhadjpangaa.Cx
set_option linter.unusedVariables false
set_option linter.unusedSimpArgs false
set_option maxRecDepth 100000
open Go Go.Proofs Go.RowKit
noncomputable abbrev dctCode : Code := funcCode Try.f59
abbrev dctN := Empty
abbrev dctR := Int
noncomputable def dctD0 (a0 : Bool) (a1 a2 a3 a4 : Int) (a5 : Nat) (a6 a7 : Nat → Int) : DD (Lf dctN dctR) :=
 let z0 := fun i => [CV.int IntKind.i64 (IE.x (a6 (0 + i))), CV.int IntKind.i64 (IE.x (a7 (0 + i)))]
 let z1 := dvsA 0 100000 a5 (fun i => a6 (0 + i)) (fun i => a7 (0 + i))
 let z2 := dvsA (-1000000) 1000000 2 (fun i => List.getD [a1, a3] i 0) (fun i => List.getD [a2, a4] i 0)
 .ask (Cm.run .gtr ((↑a5 : Int)) 8)
   (.leaf (.done 5 []))
   (.ask (Cm.run .eql ((↑a5 : Int)) 0)
   (.leaf (.done 2 []))
   (.must (decide (0 + a5 ≤ a5))
   (.must (ShapeOk [some IntKind.i64, some IntKind.i64] (tabOf a5 z0) z0)
   (.must (AF.fin z1)
   (.ask (!AF.val z1)
   (.leaf (.done 2 []))
   (.must (AF.fin z2)
   (.ask (!AF.val z2)
   (.leaf (.done 2 []))
   (.leaf (.done 0 [])))))))))

noncomputable def dctD (a0 : Bool) (a1 a2 a3 a4 : Int) (a5 : Nat) (a6 a7 : Nat → Int) : dctN → DD (Lf dctN dctR) := fun a => nomatch a
noncomputable def dctA (a0 : Bool) (a1 a2 a3 a4 : Int) (a5 : Nat) (a6 a7 : Nat → Int) : AF dctN dctR where
  code := dctCode
  base := 1
  nt := 26
  m := 400
  un := []
  W := []
  h0 := [(0, ⟨.arg a5 2 (fun i => [.int .i64 (.x (a6 i)), .int .i64 (.x (a7 i))]) (fun _ => ⟨rfl, rfl⟩), 2, true, none⟩)]
  args := [.agg [.bool (.x a0), .int .i64 (.x a1), .int .i64 (.x a2), .int .i64 (.x a3), .int .i64 (.x a4), .sla 0 2 0 a5]]
  res := (Try.f59).results.toList
  path := fun a => nomatch a
  pd := fun a => nomatch a
  D0 := dctD0 a0 a1 a2 a3 a4 a5 a6 a7
  D := dctD a0 a1 a2 a3 a4 a5 a6 a7
  rc := (fun v => .int .i64 (.x v))
  rh := (fun v => [])
  rn := (fun v => 1)
  rx := (fun v => [])
  rgo := (fun _ => none)
theorem dctstart (a0 : Bool) (a1 a2 a3 a4 : Int) (a5 : Nat) (a6 a7 : Nat → Int) : AF.edgeOk (dctA a0 a1 a2 a3 a4 a5 a6 a7) (ctxOf Try.prog memo0) (dctD0 a0 a1 a2 a3 a4 a5 a6 a7) (AF.run0 (dctA a0 a1 a2 a3 a4 a5 a6 a7) (ctxOf Try.prog (memoS 83 dvsP dvsF dvsW dvsH 1 memo0))) := by unfold AF.edgeOk; kernel_rfl
theorem dctok (a0 : Bool) (a1 a2 a3 a4 : Int) (a5 : Nat) (a6 a7 : Nat → Int) : (dctA a0 a1 a2 a3 a4 a5 a6 a7).Ok Try.prog (ctxOf Try.prog (memoS 83 dvsP dvsF dvsW dvsH 1 memo0)) where
  regs := by kernel_rfl
  h0 := by kernel_rfl
  start := dctstart a0 a1 a2 a3 a4 a5 a6 a7
  node := fun a _ => nomatch a
  pd := fun a => nomatch a
  le := fun a => nomatch a
  rd := fun v => ⟨⟨fa_nil, fa_nil, fa_nil, rfl⟩, rfl⟩
  wb := rfl
theorem dcthR {ρ : Env} (a0 : Bool) (a1 a2 a3 a4 : Int) (a5 : Nat) (a6 a7 : Nat → Int) (hM : MemoOk Try.prog (ctxOf Try.prog (memoS 83 dvsP dvsF dvsW dvsH 1 memo0)) ρ) : ∀ X a q n D, FxOk ρ X → X.base = (dctA a0 a1 a2 a3 a4 a5 a6 a7).base → X.nt = (dctA a0 a1 a2 a3 a4 a5 a6 a7).nt → X.W = (dctA a0 a1 a2 a3 a4 a5 a6 a7).W → (dctA a0 a1 a2 a3 a4 a5 a6 a7).rgo a = some q → q n = some D → (dctA a0 a1 a2 a3 a4 a5 a6 a7).RangeOk Try.prog ρ X a D := AF.noRange rfl
theorem dctctr {ρ : Env} (a0 : Bool) (a1 a2 a3 a4 : Int) (a5 : Nat) (a6 a7 : Nat → Int) {n : Nat} {v : dctR} (hM : MemoOk Try.prog (ctxOf Try.prog (memoS 83 dvsP dvsF dvsW dvsH 1 memo0)) ρ) (hv : (dctA a0 a1 a2 a3 a4 a5 a6 a7).run n = some v) :
    Ctr Try.prog ρ 59 (dctA a0 a1 a2 a3 a4 a5 a6 a7).args (dctA a0 a1 a2 a3 a4 a5 a6 a7).H0 (dctA a0 a1 a2 a3 a4 a5 a6 a7).base (dctA a0 a1 a2 a3 a4 a5 a6 a7).W ((dctA a0 a1 a2 a3 a4 a5 a6 a7).rc v) (putH (dctA a0 a1 a2 a3 a4 a5 a6 a7).H0 ((dctA a0 a1 a2 a3 a4 a5 a6 a7).rh v ++ (dctA a0 a1 a2 a3 a4 a5 a6 a7).rx v)) ((dctA a0 a1 a2 a3 a4 a5 a6 a7).rn v) :=
  AF.ctr try_ok hM (dctok a0 a1 a2 a3 a4 a5 a6 a7) (fn := Try.f59) Try.func59 rfl rfl (Nat.le_of_ble_eq_true rfl) rfl (dcthR a0 a1 a2 a3 a4 a5 a6 a7 hM) hv
theorem dctmem {ρ : Env} : MemoOk Try.prog (ctxOf Try.prog (memoS 83 dvsP dvsF dvsW dvsH 1 memo0)) ρ := (memoS_ok (dvsknown dvsmem) memo0_ok)
abbrev dctP : List AQ := [.agg [.bool, .int .i64, .int .i64, .int .i64, .int .i64, .rows [some .i64, some .i64]]]
noncomputable def dctF (v : AW) : AF dctN dctR := dctA (v.b.getD 0 false) (v.i.getD 0 0) (v.i.getD 1 0) (v.i.getD 2 0) (v.i.getD 3 0) (v.t.getD 0 .none).n ((v.t.getD 0 .none).c 0) ((v.t.getD 0 .none).c 1)
noncomputable def dctW : dctR → CV := fun v => .int .i64 (.x v)
noncomputable def dctH : dctR → List (Nat × Blk) := fun v => []
instance : Inhabited dctR := ⟨0⟩
theorem dctknown {ρ : Env} (hM : MemoOk Try.prog (ctxOf Try.prog (memoS 83 dvsP dvsF dvsW dvsH 1 memo0)) ρ) : KnownS Try.prog ρ 59 dctP dctF dctW dctH 1 where
  fn := ⟨Try.f59, Try.func59, rfl⟩
  le := Nat.le_of_ble_eq_true rfl
  full := fun r => rfl
  rg := fun r => rfl
  hg := fun r => fa_nil
  ctr := fun v n r h => dctctr (v.b.getD 0 false) (v.i.getD 0 0) (v.i.getD 1 0) (v.i.getD 2 0) (v.i.getD 3 0) (v.t.getD 0 .none).n ((v.t.getD 0 .none).c 0) ((v.t.getD 0 .none).c 1) hM h
end Go.Proofs.Ythagjhadjpangaa.Cx

/- acme/die.Learn as an automaton. Made by tools/cxauto.py. -/
namespace Go.Proofs.Ythagjhadjpangaa.Cx
set_option linter.unusedVariables false
set_option linter.unusedSimpArgs false
set_option maxRecDepth 100000
open Go Go.Proofs Go.RowKit
abbrev dleR := Int × Int × Int
instance : Inhabited dleR := ⟨(0, 0, 0)⟩
end Go.Proofs.Ythagjhadjpangaa.Cx

/- acme/acmeref07.Span as an automaton. Made by tools/cxauto.py. -/
namespace Go.Proofs.Ythagjhadjpangaa.Cx
set_option linter.unusedVariables false
set_option linter.unusedSimpArgs false
set_option maxRecDepth 100000
open Go Go.Proofs Go.RowKit
end Go.Proofs.Ythagjhadjpangaa.Cx

/- acme/acmeref07.Tool as an automaton. Made by tools/cxauto.py. -/
namespace Go.Proofs.Ythagjhadjpangaa.Cx
set_option linter.unusedVariables false
set_option linter.unusedSimpArgs false
set_option maxRecDepth 100000
open Go Go.Proofs Go.RowKit
abbrev rtoR := Int
instance : Inhabited rtoR := ⟨0⟩
end Go.Proofs.Ythagjhadjpangaa.Cx

/- acme/acmelaw07.unchanged as an automaton. Made by tools/cxauto.py. -/
namespace Go.Proofs.Ythagjhadjpangaa.Cx
set_option linter.unusedVariables false
set_option linter.unusedSimpArgs false
set_option maxRecDepth 100000
open Go Go.Proofs Go.RowKit
abbrev dunR := Bool
instance : Inhabited dunR := ⟨false⟩
end Go.Proofs.Ythagjhadjpangaa.Cx

/- Package die: contracts of what checks tools, of what learns a size; of the reference's. -/
namespace Go.Proofs.Ythagjhadjpangaa.Cx
set_option linter.unusedVariables false
set_option linter.unusedSimpArgs false
set_option maxRecDepth 100000
set_option maxHeartbeats 4000000
open Go Go.RowKit
def VOk (lo hi L H : Int) : Prop := lo ≤ L ∧ L ≤ H ∧ H ≤ hi
def ToolOk (n : Nat) (wl wh : Nat → Int) (s1 s2 c1 c2 : Int) : Prop := 0 < n ∧ (∀ i : Nat, (i : Int) < n → VOk 0 100000 (wl i) (wh i)) ∧ VOk (-1000000) 1000000 s1 s2 ∧ VOk (-1000000) 1000000 c1 c2
def TV (n : Nat) (V : Prop) (v : Int) : Prop := n > 8 ∧ v = 5 ∨ n ≤ 8 ∧ (V ∧ v = 0 ∨ ¬ V ∧ v = 2)
theorem TV.same {n : Nat} {V : Prop} {v w : Int} (h : TV n V v) (h' : TV n V w) : v = w := by
  rcases h with ⟨a, b⟩ | ⟨a, ⟨b, c⟩ | ⟨b, c⟩⟩ <;> rcases h' with ⟨a', b'⟩ | ⟨a', ⟨b', c'⟩ | ⟨b', c'⟩⟩ <;> first | omega | exact absurd b b' | exact absurd b' b
theorem TV.ok {n : Nat} {V : Prop} (h : TV n V 0) : V ∧ n ≤ 8 := by
  rcases h with ⟨_, q⟩ | ⟨p, ⟨q, _⟩ | ⟨_, q⟩⟩
  · exact absurd q (by decide)
  · exact ⟨q, p⟩
  · exact absurd q (by decide)
theorem all2 {p : Nat → Prop} : (∀ i : Nat, (i : Int) < ((2 : Nat) : Int) → p i) ↔ p 0 ∧ p 1 := ⟨fun h => ⟨h 0 (by omega), h 1 (by omega)⟩, fun h i hi => by
  obtain rfl | rfl : i = 0 ∨ i = 1 := by omega
  · exact h.1
  · exact h.2⟩
section
variable {a0 : Nat} {a1 a2 : Nat → Int} {a3 a4 : Int}
theorem dvs_val (hn : a0 ≤ 10000) : AF.fin (dvsA a3 a4 a0 a1 a2) = true ∧ (AF.val (dvsA a3 a4 a0 a1 a2) = true ↔ ∀ i : Nat, (i : Int) < a0 → VOk a3 a4 (a1 i) (a2 i)) := by
  have h : AF.fin (disA a0 a1 a2 a3 a4) = true ∧ ((AF.val (disA a0 a1 a2 a3 a4) = -1 ∧ ∀ i : Nat, (i : Int) < a0 → VOk a3 a4 (a1 i) (a2 i)) ∨ (0 ≤ AF.val (disA a0 a1 a2 a3 a4) ∧ ¬ ∀ i : Nat, (i : Int) < a0 → VOk a3 a4 (a1 i) (a2 i))) := by
    refine find_val (P := fun i => VOk a3 a4 (a1 i) (a2 i)) disN.n0 (fun b => match b with | .n0 p => p) (fun _ => rfl) a0 (fun _ => rfl) rfl fun p h0 h1 => ?_
    show DD.sat _ _ (disD a0 a1 a2 a3 a4 (.n0 p))
    unfold disD
    have e1 : Ar.run .add .i64 p 1 = p + 1 := arAdd (by omega)
    have e4 : ((p.toNat : Nat) : Int) = p := Int.toNat_of_nonneg h0
    simp only [DD.sat, VOk, Nat.zero_add, e1, cmLss, cmLssF, cmLeq, cmLeqF, decide_eq_true_eq, true_and]
    generalize a1 p.toNat = L; generalize a2 p.toNat = H
    repeat' (first | intro _ | apply And.intro)
    all_goals omega
  have hc : AF.fin (dcsA a0 a1 a2 a3 a4) = true ∧ (AF.val (dcsA a0 a1 a2 a3 a4) = true ↔ ¬ ∀ i : Nat, (i : Int) < a0 → VOk a3 a4 (a1 i) (a2 i)) := by
    refine flat_val (E := fun v => v = true ↔ ¬ ∀ i : Nat, (i : Int) < a0 → VOk a3 a4 (a1 i) (a2 i)) (fun _ => rfl) ?_
    show DD.sat _ _ (dcsD0 a0 a1 a2 a3 a4)
    unfold dcsD0
    simp only [DD.sat, Nat.zero_add, cmGeq, cmGeqF, decide_eq_true_eq]
    refine ⟨Nat.le_refl _, shape_ok fun i _ => rfl, h.1, fun hv => ?_, fun hv => ?_⟩
    · have hv : 0 ≤ AF.val (disA a0 a1 a2 a3 a4) := hv
      rcases h.2 with h | h
      · rw [h.1] at hv; exact absurd hv (by decide)
      · exact ⟨fun _ => h.2, fun _ => trivial⟩
    · have hv : AF.val (disA a0 a1 a2 a3 a4) < 0 := hv
      rcases h.2 with h | h
      · exact ⟨fun k => (by cases k), fun k => absurd h.2 k⟩
      · exact absurd hv (Int.not_lt.2 h.1)
  refine flat_val (E := fun v => v = true ↔ ∀ i : Nat, (i : Int) < a0 → VOk a3 a4 (a1 i) (a2 i)) (fun _ => rfl) ?_
  show DD.sat _ _ (dvsD0 a3 a4 a0 a1 a2)
  unfold dvsD0
  simp only [DD.sat, Nat.zero_add, decide_eq_true_eq]
  refine ⟨Nat.le_refl _, shape_ok fun i _ => rfl, hc.1, ?_⟩
  have h2 : AF.val (dcsA a0 (fun i => a1 i) (fun i => a2 i) a3 a4) = true ↔ ¬ ∀ i : Nat, (i : Int) < a0 → VOk a3 a4 (a1 i) (a2 i) := hc.2
  rw [Bool.not_eq_true', ← Bool.not_eq_true, h2, Classical.not_not]
end
section
variable {a0 : Bool} {a1 a2 a3 a4 : Int} {a5 : Nat} {a6 a7 : Nat → Int} {a8 a9 a10 a11 a12 : Int}
theorem dct_val (hn : a5 ≤ 10000) : AF.fin (dctA a0 a1 a2 a3 a4 a5 a6 a7) = true ∧ TV a5 (ToolOk a5 a6 a7 a1 a2 a3 a4) (AF.val (dctA a0 a1 a2 a3 a4 a5 a6 a7)) := by
  have h1 := dvs_val (a0 := a5) (a1 := a6) (a2 := a7) (a3 := 0) (a4 := 100000) hn
  have h2 : AF.fin (dvsA (-1000000) 1000000 2 (fun i => List.getD [a1, a3] i 0) fun i => List.getD [a2, a4] i 0) = true ∧ (AF.val (dvsA (-1000000) 1000000 2 (fun i => List.getD [a1, a3] i 0) fun i => List.getD [a2, a4] i 0) = true ↔ VOk (-1000000) 1000000 a1 a2 ∧ VOk (-1000000) 1000000 a3 a4) := by
    have h := dvs_val (a0 := 2) (a1 := fun i => List.getD [a1, a3] i 0) (a2 := fun i => List.getD [a2, a4] i 0) (a3 := -1000000) (a4 := 1000000) (by omega)
    exact ⟨h.1, h.2.trans all2⟩
  have no : ∀ {b : Bool} {Q : Prop}, (b = true ↔ Q) → b = false → ¬ Q := fun h hb hq => by rw [h.2 hq] at hb; cases hb
  refine flat_val (E := TV a5 (ToolOk a5 a6 a7 a1 a2 a3 a4)) (fun _ => rfl) ?_
  show DD.sat _ _ (dctD0 a0 a1 a2 a3 a4 a5 a6 a7)
  unfold dctD0
  simp only [DD.sat, Nat.zero_add, cmGtr, cmGtrF, cmEql, cmEqlF, decide_eq_true_eq, Bool.not_eq_true', Bool.not_eq_false']
  refine ⟨fun h => .inl ⟨by omega, rfl⟩, fun h => ⟨fun h0 => .inr ⟨by omega, .inr ⟨fun q => ?_, rfl⟩⟩, fun h0 => ⟨Nat.le_refl _, shape_ok fun i _ => rfl, h1.1, fun hf => .inr ⟨by omega, .inr ⟨fun q => no h1.2 hf q.2.1, rfl⟩⟩, fun ht => ⟨h2.1, fun hf => .inr ⟨by omega, .inr ⟨fun q => no h2.2 hf q.2.2, rfl⟩⟩, fun ht2 => .inr ⟨by omega, .inl ⟨⟨by omega, h1.2.1 ht, h2.2.1 ht2⟩, rfl⟩⟩⟩⟩⟩⟩
  have := q.1; omega
end
end Go.Proofs.Ythagjhadjpangaa.Cx

/- (acme/die.shop).targets as an automaton. Made by tools/cxauto.py. -/
namespace Go.Proofs.Ythagjhadjpangaa.Cx
set_option linter.unusedVariables false
set_option linter.unusedSimpArgs false
set_option maxRecDepth 100000
open Go Go.Proofs Go.RowKit
noncomputable abbrev dtgCode : Code := funcCode Try.f89
abbrev dtgN := Empty
abbrev dtgR := Int × Int
noncomputable def dtgD0 (a0 : Bool) (a1 a2 a3 a4 : Int) (a5 : Nat) (a6 a7 : Nat → Int) (a8 : Nat) (a9 a10 a11 a12 : Nat → Int) (a13 a14 a15 a16 a17 : Int) : DD (Lf dtgN dtgR) :=
 let z0 := Ar.run .sub .i64 a14 a1
 let z1 := Ar.run .sub .i64 a15 a2
 .ask (a0)
   (.leaf (.done (Ar.run .sub .i64 (Ar.run .sub .i64 z0 (Ar.run .sub .i64 0 a17)) a3, Ar.run .sub .i64 (Ar.run .sub .i64 z1 (Ar.run .sub .i64 0 a16)) a4) []))
   (.leaf (.done (Ar.run .sub .i64 (Ar.run .sub .i64 z0 a16) a3, Ar.run .sub .i64 (Ar.run .sub .i64 z1 a17) a4) []))

noncomputable def dtgD (a0 : Bool) (a1 a2 a3 a4 : Int) (a5 : Nat) (a6 a7 : Nat → Int) (a8 : Nat) (a9 a10 a11 a12 : Nat → Int) (a13 a14 a15 a16 a17 : Int) : dtgN → DD (Lf dtgN dtgR) := fun a => nomatch a
noncomputable def dtgA (a0 : Bool) (a1 a2 a3 a4 : Int) (a5 : Nat) (a6 a7 : Nat → Int) (a8 : Nat) (a9 a10 a11 a12 : Nat → Int) (a13 a14 a15 a16 a17 : Int) : AF dtgN dtgR where
  code := dtgCode
  base := 2
  nt := 42
  m := 400
  un := []
  W := []
  h0 := [(0, ⟨.arg a5 2 (fun i => [.int .i64 (.x (a6 i)), .int .i64 (.x (a7 i))]) (fun _ => ⟨rfl, rfl⟩), 2, true, none⟩), (1, ⟨.arg a8 4 (fun i => [.int .i64 (.x (a9 i)), .int .i64 (.x (a10 i)), .int .i64 (.x (a11 i)), .int .i64 (.x (a12 i))]) (fun _ => ⟨rfl, rfl⟩), 4, true, none⟩)]
  args := [.agg [.bool (.x a0), .int .i64 (.x a1), .int .i64 (.x a2), .int .i64 (.x a3), .int .i64 (.x a4), .sla 0 2 0 a5, .sla 1 4 0 a8, .int .i64 (.x a13)], .agg [.int .i64 (.x a14), .int .i64 (.x a15)], .agg [.int .i64 (.x a16), .int .i64 (.x a17)]]
  res := (Try.f89).results.toList
  path := fun a => nomatch a
  pd := fun a => nomatch a
  D0 := dtgD0 a0 a1 a2 a3 a4 a5 a6 a7 a8 a9 a10 a11 a12 a13 a14 a15 a16 a17
  D := dtgD a0 a1 a2 a3 a4 a5 a6 a7 a8 a9 a10 a11 a12 a13 a14 a15 a16 a17
  rc := (fun v => .agg [.int .i64 (.x v.1), .int .i64 (.x v.2)])
  rh := (fun v => [])
  rn := (fun v => 2)
  rx := (fun v => [])
  rgo := (fun _ => none)
theorem dtgstart (a0 : Bool) (a1 a2 a3 a4 : Int) (a5 : Nat) (a6 a7 : Nat → Int) (a8 : Nat) (a9 a10 a11 a12 : Nat → Int) (a13 a14 a15 a16 a17 : Int) : AF.edgeOk (dtgA a0 a1 a2 a3 a4 a5 a6 a7 a8 a9 a10 a11 a12 a13 a14 a15 a16 a17) (ctxOf Try.prog memo0) (dtgD0 a0 a1 a2 a3 a4 a5 a6 a7 a8 a9 a10 a11 a12 a13 a14 a15 a16 a17) (AF.run0 (dtgA a0 a1 a2 a3 a4 a5 a6 a7 a8 a9 a10 a11 a12 a13 a14 a15 a16 a17) (ctxOf Try.prog memo0)) := by unfold AF.edgeOk; kernel_rfl
theorem dtgok (a0 : Bool) (a1 a2 a3 a4 : Int) (a5 : Nat) (a6 a7 : Nat → Int) (a8 : Nat) (a9 a10 a11 a12 : Nat → Int) (a13 a14 a15 a16 a17 : Int) : (dtgA a0 a1 a2 a3 a4 a5 a6 a7 a8 a9 a10 a11 a12 a13 a14 a15 a16 a17).Ok Try.prog (ctxOf Try.prog memo0) where
  regs := by kernel_rfl
  h0 := by kernel_rfl
  start := dtgstart a0 a1 a2 a3 a4 a5 a6 a7 a8 a9 a10 a11 a12 a13 a14 a15 a16 a17
  node := fun a _ => nomatch a
  pd := fun a => nomatch a
  le := fun a => nomatch a
  rd := fun v => ⟨⟨fa_nil, fa_nil, fa_nil, rfl⟩, rfl⟩
  wb := rfl
theorem dtghR {ρ : Env} (a0 : Bool) (a1 a2 a3 a4 : Int) (a5 : Nat) (a6 a7 : Nat → Int) (a8 : Nat) (a9 a10 a11 a12 : Nat → Int) (a13 a14 a15 a16 a17 : Int) (hM : MemoOk Try.prog (ctxOf Try.prog memo0) ρ) : ∀ X a q n D, FxOk ρ X → X.base = (dtgA a0 a1 a2 a3 a4 a5 a6 a7 a8 a9 a10 a11 a12 a13 a14 a15 a16 a17).base → X.nt = (dtgA a0 a1 a2 a3 a4 a5 a6 a7 a8 a9 a10 a11 a12 a13 a14 a15 a16 a17).nt → X.W = (dtgA a0 a1 a2 a3 a4 a5 a6 a7 a8 a9 a10 a11 a12 a13 a14 a15 a16 a17).W → (dtgA a0 a1 a2 a3 a4 a5 a6 a7 a8 a9 a10 a11 a12 a13 a14 a15 a16 a17).rgo a = some q → q n = some D → (dtgA a0 a1 a2 a3 a4 a5 a6 a7 a8 a9 a10 a11 a12 a13 a14 a15 a16 a17).RangeOk Try.prog ρ X a D := AF.noRange rfl
theorem dtgctr {ρ : Env} (a0 : Bool) (a1 a2 a3 a4 : Int) (a5 : Nat) (a6 a7 : Nat → Int) (a8 : Nat) (a9 a10 a11 a12 : Nat → Int) (a13 a14 a15 a16 a17 : Int) {n : Nat} {v : dtgR} (hM : MemoOk Try.prog (ctxOf Try.prog memo0) ρ) (hv : (dtgA a0 a1 a2 a3 a4 a5 a6 a7 a8 a9 a10 a11 a12 a13 a14 a15 a16 a17).run n = some v) :
    Ctr Try.prog ρ 89 (dtgA a0 a1 a2 a3 a4 a5 a6 a7 a8 a9 a10 a11 a12 a13 a14 a15 a16 a17).args (dtgA a0 a1 a2 a3 a4 a5 a6 a7 a8 a9 a10 a11 a12 a13 a14 a15 a16 a17).H0 (dtgA a0 a1 a2 a3 a4 a5 a6 a7 a8 a9 a10 a11 a12 a13 a14 a15 a16 a17).base (dtgA a0 a1 a2 a3 a4 a5 a6 a7 a8 a9 a10 a11 a12 a13 a14 a15 a16 a17).W ((dtgA a0 a1 a2 a3 a4 a5 a6 a7 a8 a9 a10 a11 a12 a13 a14 a15 a16 a17).rc v) (putH (dtgA a0 a1 a2 a3 a4 a5 a6 a7 a8 a9 a10 a11 a12 a13 a14 a15 a16 a17).H0 ((dtgA a0 a1 a2 a3 a4 a5 a6 a7 a8 a9 a10 a11 a12 a13 a14 a15 a16 a17).rh v ++ (dtgA a0 a1 a2 a3 a4 a5 a6 a7 a8 a9 a10 a11 a12 a13 a14 a15 a16 a17).rx v)) ((dtgA a0 a1 a2 a3 a4 a5 a6 a7 a8 a9 a10 a11 a12 a13 a14 a15 a16 a17).rn v) :=
  AF.ctr try_ok hM (dtgok a0 a1 a2 a3 a4 a5 a6 a7 a8 a9 a10 a11 a12 a13 a14 a15 a16 a17) (fn := Try.f89) Try.func89 rfl rfl (Nat.le_of_ble_eq_true rfl) rfl (dtghR a0 a1 a2 a3 a4 a5 a6 a7 a8 a9 a10 a11 a12 a13 a14 a15 a16 a17 hM) hv
theorem dtgmem {ρ : Env} : MemoOk Try.prog (ctxOf Try.prog memo0) ρ := memo0_ok
abbrev dtgP : List AQ := [.agg [.bool, .int .i64, .int .i64, .int .i64, .int .i64, .rows [some .i64, some .i64], .rows [some .i64, some .i64, some .i64, some .i64], .int .i64], .agg [.int .i64, .int .i64], .agg [.int .i64, .int .i64]]
noncomputable def dtgF (v : AW) : AF dtgN dtgR := dtgA (v.b.getD 0 false) (v.i.getD 0 0) (v.i.getD 1 0) (v.i.getD 2 0) (v.i.getD 3 0) (v.t.getD 0 .none).n ((v.t.getD 0 .none).c 0) ((v.t.getD 0 .none).c 1) (v.t.getD 1 .none).n ((v.t.getD 1 .none).c 0) ((v.t.getD 1 .none).c 1) ((v.t.getD 1 .none).c 2) ((v.t.getD 1 .none).c 3) (v.i.getD 4 0) (v.i.getD 5 0) (v.i.getD 6 0) (v.i.getD 7 0) (v.i.getD 8 0)
noncomputable def dtgW : dtgR → CV := fun v => .agg [.int .i64 (.x v.1), .int .i64 (.x v.2)]
noncomputable def dtgH : dtgR → List (Nat × Blk) := fun v => []
instance : Inhabited dtgR := ⟨(0, 0)⟩
theorem dtgknown {ρ : Env} (hM : MemoOk Try.prog (ctxOf Try.prog memo0) ρ) : KnownS Try.prog ρ 89 dtgP dtgF dtgW dtgH 2 where
  fn := ⟨Try.f89, Try.func89, rfl⟩
  le := Nat.le_of_ble_eq_true rfl
  full := fun r => rfl
  rg := fun r => rfl
  hg := fun r => fa_nil
  ctr := fun v n r h => dtgctr (v.b.getD 0 false) (v.i.getD 0 0) (v.i.getD 1 0) (v.i.getD 2 0) (v.i.getD 3 0) (v.t.getD 0 .none).n ((v.t.getD 0 .none).c 0) ((v.t.getD 0 .none).c 1) (v.t.getD 1 .none).n ((v.t.getD 1 .none).c 0) ((v.t.getD 1 .none).c 1) ((v.t.getD 1 .none).c 2) ((v.t.getD 1 .none).c 3) (v.i.getD 4 0) (v.i.getD 5 0) (v.i.getD 6 0) (v.i.getD 7 0) (v.i.getD 8 0) hM h
end Go.Proofs.Ythagjhadjpangaa.Cx

/- (acme/die.shop).worn as an automaton. Made by tools/cxauto.py. -/
namespace Go.Proofs.Ythagjhadjpangaa.Cx
set_option linter.unusedVariables false
set_option linter.unusedSimpArgs false
set_option maxRecDepth 100000
open Go Go.Proofs Go.RowKit
noncomputable abbrev dwoCode : Code := funcCode Try.f65
abbrev dwoN := Empty
abbrev dwoR := Int × Int
noncomputable def dwoD0 (a0 : Bool) (a1 a2 a3 a4 : Int) (a5 : Nat) (a6 a7 : Nat → Int) (a8 : Nat) (a9 a10 a11 a12 : Nat → Int) (a13 a14 a15 a16 a17 : Int) : DD (Lf dwoN dwoR) :=
 .must (decide (0 ≤ a16))
   (.must (decide (a16 < (↑a5 : Int)))
   (.must (decide (0 + Int.toNat a16 < a5))
   (.leaf (.done (Ar.run .add .i64 a14 (Ar.run .mul .i64 a17 (a6 (0 + Int.toNat a16))), Ar.run .add .i64 a15 (Ar.run .mul .i64 a17 (a7 (0 + Int.toNat a16)))) []))))

noncomputable def dwoD (a0 : Bool) (a1 a2 a3 a4 : Int) (a5 : Nat) (a6 a7 : Nat → Int) (a8 : Nat) (a9 a10 a11 a12 : Nat → Int) (a13 a14 a15 a16 a17 : Int) : dwoN → DD (Lf dwoN dwoR) := fun a => nomatch a
noncomputable def dwoA (a0 : Bool) (a1 a2 a3 a4 : Int) (a5 : Nat) (a6 a7 : Nat → Int) (a8 : Nat) (a9 a10 a11 a12 : Nat → Int) (a13 a14 a15 a16 a17 : Int) : AF dwoN dwoR where
  code := dwoCode
  base := 2
  nt := 31
  m := 400
  un := []
  W := []
  h0 := [(0, ⟨.arg a5 2 (fun i => [.int .i64 (.x (a6 i)), .int .i64 (.x (a7 i))]) (fun _ => ⟨rfl, rfl⟩), 2, true, none⟩), (1, ⟨.arg a8 4 (fun i => [.int .i64 (.x (a9 i)), .int .i64 (.x (a10 i)), .int .i64 (.x (a11 i)), .int .i64 (.x (a12 i))]) (fun _ => ⟨rfl, rfl⟩), 4, true, none⟩)]
  args := [.agg [.bool (.x a0), .int .i64 (.x a1), .int .i64 (.x a2), .int .i64 (.x a3), .int .i64 (.x a4), .sla 0 2 0 a5, .sla 1 4 0 a8, .int .i64 (.x a13)], .agg [.int .i64 (.x a14), .int .i64 (.x a15)], .int .i64 (.x a16), .int .i64 (.x a17)]
  res := (Try.f65).results.toList
  path := fun a => nomatch a
  pd := fun a => nomatch a
  D0 := dwoD0 a0 a1 a2 a3 a4 a5 a6 a7 a8 a9 a10 a11 a12 a13 a14 a15 a16 a17
  D := dwoD a0 a1 a2 a3 a4 a5 a6 a7 a8 a9 a10 a11 a12 a13 a14 a15 a16 a17
  rc := (fun v => .agg [.int .i64 (.x v.1), .int .i64 (.x v.2)])
  rh := (fun v => [])
  rn := (fun v => 2)
  rx := (fun v => [])
  rgo := (fun _ => none)
theorem dwostart (a0 : Bool) (a1 a2 a3 a4 : Int) (a5 : Nat) (a6 a7 : Nat → Int) (a8 : Nat) (a9 a10 a11 a12 : Nat → Int) (a13 a14 a15 a16 a17 : Int) : AF.edgeOk (dwoA a0 a1 a2 a3 a4 a5 a6 a7 a8 a9 a10 a11 a12 a13 a14 a15 a16 a17) (ctxOf Try.prog memo0) (dwoD0 a0 a1 a2 a3 a4 a5 a6 a7 a8 a9 a10 a11 a12 a13 a14 a15 a16 a17) (AF.run0 (dwoA a0 a1 a2 a3 a4 a5 a6 a7 a8 a9 a10 a11 a12 a13 a14 a15 a16 a17) (ctxOf Try.prog memo0)) := by unfold AF.edgeOk; kernel_rfl
theorem dwook (a0 : Bool) (a1 a2 a3 a4 : Int) (a5 : Nat) (a6 a7 : Nat → Int) (a8 : Nat) (a9 a10 a11 a12 : Nat → Int) (a13 a14 a15 a16 a17 : Int) : (dwoA a0 a1 a2 a3 a4 a5 a6 a7 a8 a9 a10 a11 a12 a13 a14 a15 a16 a17).Ok Try.prog (ctxOf Try.prog memo0) where
  regs := by kernel_rfl
  h0 := by kernel_rfl
  start := dwostart a0 a1 a2 a3 a4 a5 a6 a7 a8 a9 a10 a11 a12 a13 a14 a15 a16 a17
  node := fun a _ => nomatch a
  pd := fun a => nomatch a
  le := fun a => nomatch a
  rd := fun v => ⟨⟨fa_nil, fa_nil, fa_nil, rfl⟩, rfl⟩
  wb := rfl
theorem dwohR {ρ : Env} (a0 : Bool) (a1 a2 a3 a4 : Int) (a5 : Nat) (a6 a7 : Nat → Int) (a8 : Nat) (a9 a10 a11 a12 : Nat → Int) (a13 a14 a15 a16 a17 : Int) (hM : MemoOk Try.prog (ctxOf Try.prog memo0) ρ) : ∀ X a q n D, FxOk ρ X → X.base = (dwoA a0 a1 a2 a3 a4 a5 a6 a7 a8 a9 a10 a11 a12 a13 a14 a15 a16 a17).base → X.nt = (dwoA a0 a1 a2 a3 a4 a5 a6 a7 a8 a9 a10 a11 a12 a13 a14 a15 a16 a17).nt → X.W = (dwoA a0 a1 a2 a3 a4 a5 a6 a7 a8 a9 a10 a11 a12 a13 a14 a15 a16 a17).W → (dwoA a0 a1 a2 a3 a4 a5 a6 a7 a8 a9 a10 a11 a12 a13 a14 a15 a16 a17).rgo a = some q → q n = some D → (dwoA a0 a1 a2 a3 a4 a5 a6 a7 a8 a9 a10 a11 a12 a13 a14 a15 a16 a17).RangeOk Try.prog ρ X a D := AF.noRange rfl
theorem dwoctr {ρ : Env} (a0 : Bool) (a1 a2 a3 a4 : Int) (a5 : Nat) (a6 a7 : Nat → Int) (a8 : Nat) (a9 a10 a11 a12 : Nat → Int) (a13 a14 a15 a16 a17 : Int) {n : Nat} {v : dwoR} (hM : MemoOk Try.prog (ctxOf Try.prog memo0) ρ) (hv : (dwoA a0 a1 a2 a3 a4 a5 a6 a7 a8 a9 a10 a11 a12 a13 a14 a15 a16 a17).run n = some v) :
    Ctr Try.prog ρ 65 (dwoA a0 a1 a2 a3 a4 a5 a6 a7 a8 a9 a10 a11 a12 a13 a14 a15 a16 a17).args (dwoA a0 a1 a2 a3 a4 a5 a6 a7 a8 a9 a10 a11 a12 a13 a14 a15 a16 a17).H0 (dwoA a0 a1 a2 a3 a4 a5 a6 a7 a8 a9 a10 a11 a12 a13 a14 a15 a16 a17).base (dwoA a0 a1 a2 a3 a4 a5 a6 a7 a8 a9 a10 a11 a12 a13 a14 a15 a16 a17).W ((dwoA a0 a1 a2 a3 a4 a5 a6 a7 a8 a9 a10 a11 a12 a13 a14 a15 a16 a17).rc v) (putH (dwoA a0 a1 a2 a3 a4 a5 a6 a7 a8 a9 a10 a11 a12 a13 a14 a15 a16 a17).H0 ((dwoA a0 a1 a2 a3 a4 a5 a6 a7 a8 a9 a10 a11 a12 a13 a14 a15 a16 a17).rh v ++ (dwoA a0 a1 a2 a3 a4 a5 a6 a7 a8 a9 a10 a11 a12 a13 a14 a15 a16 a17).rx v)) ((dwoA a0 a1 a2 a3 a4 a5 a6 a7 a8 a9 a10 a11 a12 a13 a14 a15 a16 a17).rn v) :=
  AF.ctr try_ok hM (dwook a0 a1 a2 a3 a4 a5 a6 a7 a8 a9 a10 a11 a12 a13 a14 a15 a16 a17) (fn := Try.f65) Try.func65 rfl rfl (Nat.le_of_ble_eq_true rfl) rfl (dwohR a0 a1 a2 a3 a4 a5 a6 a7 a8 a9 a10 a11 a12 a13 a14 a15 a16 a17 hM) hv
theorem dwomem {ρ : Env} : MemoOk Try.prog (ctxOf Try.prog memo0) ρ := memo0_ok
abbrev dwoP : List AQ := [.agg [.bool, .int .i64, .int .i64, .int .i64, .int .i64, .rows [some .i64, some .i64], .rows [some .i64, some .i64, some .i64, some .i64], .int .i64], .agg [.int .i64, .int .i64], .int .i64, .int .i64]
noncomputable def dwoF (v : AW) : AF dwoN dwoR := dwoA (v.b.getD 0 false) (v.i.getD 0 0) (v.i.getD 1 0) (v.i.getD 2 0) (v.i.getD 3 0) (v.t.getD 0 .none).n ((v.t.getD 0 .none).c 0) ((v.t.getD 0 .none).c 1) (v.t.getD 1 .none).n ((v.t.getD 1 .none).c 0) ((v.t.getD 1 .none).c 1) ((v.t.getD 1 .none).c 2) ((v.t.getD 1 .none).c 3) (v.i.getD 4 0) (v.i.getD 5 0) (v.i.getD 6 0) (v.i.getD 7 0) (v.i.getD 8 0)
noncomputable def dwoW : dwoR → CV := fun v => .agg [.int .i64 (.x v.1), .int .i64 (.x v.2)]
noncomputable def dwoH : dwoR → List (Nat × Blk) := fun v => []
instance : Inhabited dwoR := ⟨(0, 0)⟩
theorem dwoknown {ρ : Env} (hM : MemoOk Try.prog (ctxOf Try.prog memo0) ρ) : KnownS Try.prog ρ 65 dwoP dwoF dwoW dwoH 2 where
  fn := ⟨Try.f65, Try.func65, rfl⟩
  le := Nat.le_of_ble_eq_true rfl
  full := fun r => rfl
  rg := fun r => rfl
  hg := fun r => fa_nil
  ctr := fun v n r h => dwoctr (v.b.getD 0 false) (v.i.getD 0 0) (v.i.getD 1 0) (v.i.getD 2 0) (v.i.getD 3 0) (v.t.getD 0 .none).n ((v.t.getD 0 .none).c 0) ((v.t.getD 0 .none).c 1) (v.t.getD 1 .none).n ((v.t.getD 1 .none).c 0) ((v.t.getD 1 .none).c 1) ((v.t.getD 1 .none).c 2) ((v.t.getD 1 .none).c 3) (v.i.getD 4 0) (v.i.getD 5 0) (v.i.getD 6 0) (v.i.getD 7 0) (v.i.getD 8 0) hM h
end Go.Proofs.Ythagjhadjpangaa.Cx
