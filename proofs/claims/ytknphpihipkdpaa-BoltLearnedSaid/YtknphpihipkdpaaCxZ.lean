/- CALLS THAT ARE KNOWN FROM AUTOMATA: a function of integers and bools yields what its automaton yields, wherever it is called. -/
import Derived.Test.YtknphpihipkdpaaCxY
set_option linter.unusedSimpArgs false
set_option linter.unusedVariables false
namespace Go.Proofs.Ytknphpihipkdpaa.Cx
open Go Go.RowKit

section
variable {N R : Type} {A : AF N R}

/-- Ranges over functions: more rounds change nothing. -/
def AF.Mono (A : AF N R) : Prop := ∀ a q n m D, A.rgo a = some q → n ≤ m → q n = some D → q m = some D

theorem AF.mono_none (h : ∀ a, A.rgo a = none) : A.Mono := fun a q n m D hq _ _ => by rw [h a] at hq; cases hq

theorem AF.go_mono (hA : A.Mono) : ∀ {n m : Nat} {a : N} {v : R}, n ≤ m → A.go n a = some v → A.go m a = some v
  | 0, m, a, v, _, h => by simp [AF.go] at h
  | n + 1, 0, a, v, hm, h => by omega
  | n + 1, m + 1, a, v, hm, h => by
    simp only [AF.go] at h ⊢
    cases hq : A.rgo a with
    | none =>
      rw [hq] at h
      simp only at h ⊢
      cases hd : (A.D a).eval with
      | none => rw [hd] at h; cases h
      | some l =>
        rw [hd] at h
        cases l with
        | next b r => exact AF.go_mono hA (by omega) h
        | done v r => exact h
    | some q =>
      rw [hq] at h
      simp only at h ⊢
      cases hn : q n with
      | none => rw [hn] at h; cases h
      | some D =>
        rw [hn] at h
        rw [hA a q n m D hq (by omega) hn]
        simp only at h ⊢
        cases hd : D.eval with
        | none => rw [hd] at h; cases h
        | some l =>
          rw [hd] at h
          cases l with
          | next b r => exact AF.go_mono hA (by omega) h
          | done v r => exact h
theorem AF.run_mono (hA : A.Mono) {n m : Nat} {v : R} (hm : n ≤ m) (h : A.run n = some v) : A.run m = some v := by
  unfold AF.run at *
  cases hd : A.D0.eval with
  | none => rw [hd] at h; cases h
  | some l =>
    rw [hd] at h
    cases l with
    | next b r => exact AF.go_mono hA hm h
    | done v r => exact h

/-- What the function yields, if it ends. -/
noncomputable def AF.val [Inhabited R] (A : AF N R) : R := open Classical in if h : ∃ v n, A.run n = some v then h.choose else default
noncomputable def AF.fin (A : AF N R) : Bool := @decide (∃ v n, A.run n = some v) (Classical.propDecidable _)

theorem AF.fin_run [Inhabited R] (h : A.fin = true) : ∃ n, A.run n = some A.val := by
  have h : ∃ v n, A.run n = some v := @of_decide_eq_true _ (Classical.propDecidable _) h
  unfold AF.val
  rw [dif_pos h]
  exact h.choose_spec
theorem AF.val_of [Inhabited R] (hA : A.Mono) {n : Nat} {v : R} (h : A.run n = some v) : A.fin = true ∧ A.val = v := by
  have h1 : A.fin = true := by
    unfold AF.fin
    exact @decide_eq_true _ (Classical.propDecidable _) ⟨v, n, h⟩
  refine ⟨h1, ?_⟩
  obtain ⟨m, hm⟩ := AF.fin_run h1
  have e1 := AF.run_mono hA (Nat.le_max_left n m) h
  have e2 := AF.run_mono hA (Nat.le_max_right n m) hm
  rw [e1] at e2
  exact (Option.some.inj e2).symm
end

/-! ## Arguments -/

inductive AP where
  | int (k : IntKind)
  | bool
  | agg (l : List AP)

structure AV where
  i : List Int
  b : List Bool

mutual
/-- The numbers of a value of this shape, behind others. -/
def AP.get : AP → CV → AV → Option AV
  | .int k, .int k' e, v => bif decide (k = k') then (match e.num with | some n => some ⟨v.i ++ [n], v.b⟩ | none => none) else none
  | .bool, .bool e, v => match e.val with | some b => some ⟨v.i, v.b ++ [b]⟩ | none => none
  | .agg l, .agg m, v => AP.gets l m v
  | _, _, _ => none
def AP.gets : List AP → List CV → AV → Option AV
  | [], [], v => some v
  | p :: l, c :: m, v => match p.get c v with | some v => AP.gets l m v | none => none
  | _, _, _ => none
end

mutual
def AP.ni : AP → Nat
  | .int _ => 1
  | .bool => 0
  | .agg l => AP.nis l
def AP.nis : List AP → Nat
  | [] => 0
  | p :: l => p.ni + AP.nis l
end
mutual
def AP.nb : AP → Nat
  | .int _ => 0
  | .bool => 1
  | .agg l => AP.nbs l
def AP.nbs : List AP → Nat
  | [] => 0
  | p :: l => p.nb + AP.nbs l
end

mutual
/-- The value of this shape with these numbers, from places on. -/
def AP.put (v : AV) : AP → Nat → Nat → CV
  | .int k, i, _ => .int k (.x (v.i.getD i 0))
  | .bool, _, j => .bool (.x (v.b.getD j false))
  | .agg l, i, j => .agg (AP.puts v l i j)
def AP.puts (v : AV) : List AP → Nat → Nat → List CV
  | [], _, _ => []
  | p :: l, i, j => p.put v i j :: AP.puts v l (i + p.ni) (j + p.nb)
end

/-- More numbers behind. -/
def AV.pre (v w : AV) : Prop := (∃ l, w.i = v.i ++ l) ∧ ∃ l, w.b = v.b ++ l

theorem AV.pre_refl (v : AV) : v.pre v := ⟨⟨[], by simp⟩, ⟨[], by simp⟩⟩
theorem AV.pre_trans {u v w : AV} (h : u.pre v) (h' : v.pre w) : u.pre w := by
  obtain ⟨⟨l, e⟩, m, f⟩ := h
  obtain ⟨⟨l', e'⟩, m', f'⟩ := h'
  exact ⟨⟨l ++ l', by rw [e', e, List.append_assoc]⟩, ⟨m ++ m', by rw [f', f, List.append_assoc]⟩⟩

theorem getD_pre {α : Type} {l m : List α} {d : α} {i : Nat} (h : i < l.length) : (l ++ m).getD i d = l.getD i d := by
  simp [List.getD_eq_getElem?_getD, List.getElem?_append_left h]
theorem getD_end {α : Type} {l m : List α} {d x : α} : (l ++ [x] ++ m).getD l.length d = x := by
  simp [List.getD_eq_getElem?_getD]

mutual
theorem AP.get_put : ∀ {p : AP} {c : CV} {v w : AV}, p.get c v = some w → v.pre w ∧ w.i.length = v.i.length + p.ni ∧ w.b.length = v.b.length + p.nb ∧ c.plain = true ∧ ∀ u : AV, w.pre u → c.nrm = p.put u v.i.length v.b.length
  | .int k, c, v, w, h => by
    cases c <;> simp only [AP.get] at h <;> try (cases h; done)
    rename_i k' e
    cases hk : decide (k = k') with
    | false => rw [hk] at h; cases h
    | true =>
      rw [hk, cond_true] at h
      obtain rfl := of_decide_eq_true hk
      cases e <;> simp only [IE.num] at h <;> try (cases h; done)
      all_goals
        cases h
        refine ⟨⟨⟨_, rfl⟩, [], by simp⟩, by simp [AP.ni], by simp [AP.nb], rfl, fun u hu => ?_⟩
        obtain ⟨⟨l, e⟩, _⟩ := hu
        simp only [CV.nrm, AP.put, e, getD_end]
  | .bool, c, v, w, h => by
    cases c <;> simp only [AP.get] at h <;> try (cases h; done)
    rename_i e
    cases e <;> simp only [BE.val] at h <;> try (cases h; done)
    all_goals
      cases h
      refine ⟨⟨⟨[], by simp⟩, _, rfl⟩, by simp [AP.ni], by simp [AP.nb], rfl, fun u hu => ?_⟩
      obtain ⟨_, l, e⟩ := hu
      simp only [CV.nrm, AP.put, e, getD_end]
  | .agg l, c, v, w, h => by
    cases c <;> simp only [AP.get] at h <;> try (cases h; done)
    obtain ⟨h1, h2, h3, h4, h5⟩ := AP.gets_puts h
    exact ⟨h1, h2, h3, h4, fun u hu => by simp only [CV.nrm, AP.put]; rw [h5 u hu]⟩
theorem AP.gets_puts : ∀ {l : List AP} {m : List CV} {v w : AV}, AP.gets l m v = some w → v.pre w ∧ w.i.length = v.i.length + AP.nis l ∧ w.b.length = v.b.length + AP.nbs l ∧ CV.plains m = true ∧ ∀ u : AV, w.pre u → CV.nrml m = AP.puts u l v.i.length v.b.length
  | [], m, v, w, h => by
    cases m <;> simp only [AP.gets] at h <;> try (cases h; done)
    cases h
    exact ⟨v.pre_refl, by simp [AP.nis], by simp [AP.nbs], rfl, fun _ _ => rfl⟩
  | p :: l, m, v, w, h => by
    cases m <;> simp only [AP.gets] at h <;> try (cases h; done)
    rename_i c m
    cases hc : p.get c v with
    | none => rw [hc] at h; cases h
    | some v1 =>
      rw [hc] at h
      obtain ⟨h1, h2, h3, h4, h5⟩ := AP.get_put hc
      obtain ⟨q1, q2, q3, q4, q5⟩ := AP.gets_puts (l := l) h
      refine ⟨AV.pre_trans h1 q1, by rw [q2, h2, AP.nis]; omega, by rw [q3, h3, AP.nbs]; omega, by simp [CV.plains, h4, q4], fun u hu => ?_⟩
      simp only [CV.nrml, AP.puts]
      rw [h5 u (AV.pre_trans q1 hu), q5 u hu, h2, h3]
end

section
variable {P : Program} {ρ : Env}

/-- Calls of a function are known from its automaton. -/
noncomputable def memoA {N R : Type} [Inhabited R] (g : Nat) (ps : List AP) (F : AV → AF N R) (inner : Memo) : Memo := fun f args s =>
  bif Nat.beq f g then
    match AP.gets ps args ⟨[], []⟩ with
    | some v => match s.must (.x (F v).fin) with
      | some s' => some ((F v).rc (F v).val, s', [], [])
      | none => none
    | none => inner f args s
  else inner f args s

theorem VR.plain' {σ τ : Mp} {c : CV} {v : Value} (h : VR ρ σ c v) (hp : c.plain = true) : VR ρ τ c v := h.plain hp

theorem VRl.plain' {σ τ : Mp} : ∀ {l : List CV} {vs : List Value}, VRl ρ σ l vs → CV.plains l = true → VRl ρ τ l vs
  | _, _, .nil, _ => .nil
  | _, _, .cons h t, hp => by
    simp only [CV.plains, Bool.and_eq_true] at hp
    exact .cons (h.plain hp.1) (VRl.plain' t hp.2)

/-- A function of integers and bools, from its automaton. -/
structure KnownA (P : Program) (ρ : Env) (g : Nat) (ps : List AP) {N R : Type} (F : AV → AF N R) : Prop where
  fn : ∃ fn, P.funcs[g]? = some fn ∧ fn.body.isSome = true
  args : ∀ v, (F v).args = AP.puts v ps 0 0
  plain : ∀ v r, ((F v).rc r).plain = true
  ctr : ∀ v n r, (F v).run n = some r → Ctr P ρ g (F v).args .nil 0 [] ((F v).rc r) .nil 0

theorem memoA_ok {N R : Type} [Inhabited R] {g : Nat} {ps : List AP} {F : AV → AF N R} {inner : Memo} (K : KnownA P ρ g ps F) (hi : MemoOk P (ctxOf P inner) ρ) : MemoOk P (ctxOf P (memoA g ps F inner)) ρ := by
  have lift : ∀ {f args s c s' R W}, CallOk P (ctxOf P inner) ρ f args s c s' R W → CallOk P (ctxOf P (memoA g ps F inner)) ρ f args s c s' R W := fun h => ⟨h.fn, h.frm, h.lt, h.run⟩
  intro f args s c s' R' W h0
  have h : memoA g ps F inner f args s = some (c, s', R', W) := h0
  clear h0
  unfold memoA at h
  cases hf : Nat.beq f g with
  | false => rw [hf, cond_false] at h; exact lift (hi _ _ _ _ _ _ _ h)
  | true =>
    rw [hf, cond_true] at h
    obtain rfl := Nat.eq_of_beq_eq_true hf
    split at h
    · rename_i v hv
      split at h
      · rename_i s1 hm
        cases h
        simp only [St.must] at hm
        cases hm
        obtain ⟨h1, h2, h3, h4, h5⟩ := AP.gets_puts hv
        refine Ctr.callOk (base := 0) (n1 := 0) (h0 := .nil) (h1 := .nil) (args := (F v).args) (c := (F v).rc (F v).val) (β := id) (fun hp => ?_) K.fn (Nat.le_refl _) rfl ⟨[_], rfl⟩ (fun b _ => rfl) (fun j hj => by omega) (fun i hi => by omega) (fun b hb => by cases hb) (fun i i' k k' hi => by omega) (fun i hi => by omega) (fun σ l hl => ?_) (fun σ σ2 v hl hv => hv.plain (K.plain _ _))
        · have hfin : (F v).fin = true := hp _ (List.mem_cons_self ..)
          obtain ⟨n, hn⟩ := AF.fin_run hfin
          exact K.ctr v n _ hn
        · rw [K.args, show AP.puts v ps 0 0 = CV.nrml args from (h5 v v.pre_refl).symm]
          exact (VRl.nrm args).1 (hl.plain' h4)
      · cases h
    · exact lift (hi _ _ _ _ _ _ _ h)

end
end Go.Proofs.Ytknphpihipkdpaa.Cx
