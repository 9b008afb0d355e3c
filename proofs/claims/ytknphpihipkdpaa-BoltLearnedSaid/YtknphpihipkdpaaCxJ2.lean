/- What holds at the points of a function's run; what the evaluator's word on a statement says. -/
import Derived.Test.YtknphpihipkdpaaCxJ
import Derived.OrdersIn
import Derived.LoopNIn
set_option linter.unusedSimpArgs false
set_option linter.unusedVariables false
namespace Go.Proofs.Ytknphpihipkdpaa.Cx
open Go Go.RowKit

/-- The fence that lets all in, of an activation or of a round. -/
def fc (r : Option Nat) : Fence := { fn := fun _ => True, depth := none, alive := false, round := r }

theorem callsIn_fc {r r' : Option Nat} {n : Nat} {P : Program} {f : FuncId} {args : Array Value} {w : World} {R : Ending → World → Prop} (h : CallsIn (fc r) n P f args w R) : CallsIn (fc r') n P f args w R := h

/-- Canonical memory behind a step that may also have written to its own numbers from base on. -/
structure FrmB (base : Nat) (s s' : St) (W : List Nat) : Prop where
  next : s.next ≤ s'.next
  get : ∀ b, b ∉ W → ¬ (base ≤ b ∧ b < s'.next) → s'.heap.get b = s.heap.get b
  pc : ∃ l, s'.pc = l ++ s.pc

theorem Frm.toB {s s' : St} {W : List Nat} (h : Frm s s' W) : FrmB s.next s s' W := ⟨h.next, h.get, h.pc⟩

/-- What holds at a point of a function's run, measured at its start. -/
structure Inv (ρ : Env) (σ : Mp) (cur : Cur) (base : Nat) (W : List Nat) (n0 : Nat) (w0 : World) (s : St) (σ' : Mp) (w : World) : Prop where
  ext : Ext σ σ' n0 s.next
  H : HR ρ σ' (upd cur base s.next s.heap W) w
  K : Keeps σ base W w0 w
  F : Fresh σ σ' n0 s.next base W w0

theorem Inv.start {ρ : Env} {σ : Mp} {cur : Cur} {base : Nat} {W : List Nat} {w : World} {s : St} (hH : HR ρ σ cur w) (hA : ∀ b, b ∈ W ∨ (base ≤ b ∧ b < s.next) → cur b = s.heap.get b) : Inv ρ σ cur base W s.next w s σ w := by
  refine ⟨Ext.refl _ _ _, ?_, Keeps.refl _ _ _ _, Fresh.none _ _ _ _ _ _⟩
  have : upd cur base s.next s.heap W = cur := by
    funext b
    unfold upd
    split
    · rename_i h; exact (hA b h).symm
    · rfl
  rw [this]; exact hH

/-- One step more. -/
theorem Inv.step {ρ : Env} {σ σ1 σ2 : Mp} {cur : Cur} {base base2 n0 : Nat} {W W2 : List Nat} {w0 w1 w2 : World} {s1 s2 : St} (h : Inv ρ σ cur base W n0 w0 s1 σ1 w1) (hn0 : n0 ≤ s1.next) (hb : base ≤ base2) (hb2 : base2 ≤ s1.next)
    (hW : ∀ b ∈ W2, b ∈ W ∨ (base ≤ b ∧ b < s1.next)) (hf : FrmB base2 s1 s2 W2) (he : Ext σ1 σ2 s1.next s2.next) (hH : HR ρ σ2 (upd (upd cur base s1.next s1.heap W) base2 s2.next s2.heap W2) w2)
    (hK : Keeps σ1 base2 W2 w1 w2) (hF : Fresh σ1 σ2 s1.next s2.next base2 W2 w1) : Inv ρ σ cur base W n0 w0 s2 σ2 w2 := by
  have hn := hf.next
  have old : ∀ b l, (b ∈ W2 ∨ base2 ≤ b) → σ1 b = some l → w0.heap.size ≤ l.blk ∨ ∃ b0, (b0 ∈ W ∨ base ≤ b0) ∧ ∃ l0, σ b0 = some l0 ∧ l0.blk = l.blk := by
    intro b l hb' hl
    by_cases hr : n0 ≤ b ∧ b < s1.next
    · exact h.F b l hr.1 hr.2 hl
    · rw [h.ext b (by omega)] at hl
      refine .inr ⟨b, ?_, l, hl, rfl⟩
      rcases hb' with hb' | hb'
      · rcases hW b hb' with h | h
        · exact .inl h
        · exact .inr h.1
      · exact .inr (by omega)
  refine ⟨fun b hb' => ?_, ?_, ⟨hK.os.trans h.K.os, hK.tape.trans h.K.tape, hK.output.trans h.K.output, Nat.le_trans h.K.size hK.size, fun k hk hne => ?_, fun k r hr => (h.K.loops k r hr).elim fun r1 h1 => hK.loops k r1 h1, fun k hr => hK.defd k (h.K.defd k hr)⟩, fun b l h1 h2 h3 => ?_⟩
  · rw [he b (by omega), h.ext b (by omega)]
  · have : upd (upd cur base s1.next s1.heap W) base2 s2.next s2.heap W2 = upd cur base s2.next s2.heap W := by
      funext b
      by_cases c1 : b ∈ W2 ∨ (base2 ≤ b ∧ b < s2.next)
      · have c2 : b ∈ W ∨ (base ≤ b ∧ b < s2.next) := by
          rcases c1 with c1 | c1
          · rcases hW b c1 with h | h
            · exact .inl h
            · exact .inr (by omega)
          · exact .inr (by omega)
        show (if b ∈ W2 ∨ (base2 ≤ b ∧ b < s2.next) then _ else _) = (if b ∈ W ∨ (base ≤ b ∧ b < s2.next) then _ else _)
        rw [if_pos c1, if_pos c2]
      · show (if b ∈ W2 ∨ (base2 ≤ b ∧ b < s2.next) then _ else (if b ∈ W ∨ (base ≤ b ∧ b < s1.next) then _ else _)) = (if b ∈ W ∨ (base ≤ b ∧ b < s2.next) then _ else _)
        rw [if_neg c1]
        by_cases c2 : b ∈ W ∨ (base ≤ b ∧ b < s1.next)
        · rw [if_pos c2, if_pos (by rcases c2 with c2 | c2; · exact .inl c2
                                    · exact .inr (by omega))]
          exact (hf.get b (fun h => c1 (.inl h)) (fun h => c1 (.inr h))).symm
        · rw [if_neg c2, if_neg]
          rintro (c3 | c3)
          · exact c2 (.inl c3)
          · exact c1 (.inr (by have : ¬ (b < s1.next) := fun h => c2 (.inr ⟨c3.1, h⟩); omega))
    rw [← this]; exact hH
  · rw [hK.block k (by have := h.K.size; omega) (fun b hb' l hl e => ?_), h.K.block k hk hne]
    rcases old b l hb' hl with h1 | ⟨b0, h0, l0, h1, h2⟩
    · omega
    · exact hne b0 h0 l0 h1 (h2.trans e)
  · by_cases hr : b < s1.next
    · rw [he b (by omega)] at h3
      exact h.F b l h1 hr h3
    · rcases hF b l (by omega) h2 h3 with h4 | ⟨b0, h0, l0, h5, h6⟩
      · exact .inl (by have := h.K.size; omega)
      · rcases old b0 l0 h0 h5 with h7 | ⟨b1, h8, l1, h9, h10⟩
        · exact .inl (by omega)
        · exact .inr ⟨b1, h8, l1, h9, h10.trans h6⟩

theorem Inv.weaken {ρ : Env} {σ σ' : Mp} {cur : Cur} {base n0 : Nat} {W1 W : List Nat} {w0 w : World} {s : St} (h : Inv ρ σ cur base W1 n0 w0 s σ' w) (hs : ∀ b ∈ W1, b ∈ W) (hA : ∀ b ∈ W, b ∉ W1 → ¬ (base ≤ b ∧ b < s.next) → cur b = s.heap.get b) : Inv ρ σ cur base W n0 w0 s σ' w := by
  refine ⟨h.ext, ?_, ⟨h.K.os, h.K.tape, h.K.output, h.K.size, fun k hk hne => h.K.block k hk (fun b hb => hne b (hb.imp (hs b) id)), h.K.loops, h.K.defd⟩, fun b l h1 h2 h3 => ?_⟩
  · have : upd cur base s.next s.heap W1 = upd cur base s.next s.heap W := by
      funext b
      show (if b ∈ W1 ∨ (base ≤ b ∧ b < s.next) then _ else _) = (if b ∈ W ∨ (base ≤ b ∧ b < s.next) then _ else _)
      by_cases c1 : b ∈ W1 ∨ (base ≤ b ∧ b < s.next)
      · rw [if_pos c1, if_pos (c1.imp (hs b) id)]
      · rw [if_neg c1]
        by_cases c2 : b ∈ W
        · rw [if_pos (.inl c2)]; exact hA b c2 (fun h => c1 (.inl h)) (fun h => c1 (.inr h))
        · rw [if_neg (fun h => h.elim c2 (fun h => c1 (.inr h)))]
    rw [← this]; exact h.H
  · rcases h.F b l h1 h2 h3 with h4 | ⟨b0, h5, h6⟩
    · exact .inl h4
    · exact .inr ⟨b0, h5.imp (hs b0) id, h6⟩

theorem join_mem {base : Nat} : ∀ {l m : List Nat} {b : Nat}, b ∈ join base l m ↔ (b ∈ l ∧ b < base) ∨ b ∈ m
  | [], m, b => by simp [join]
  | x :: l, m, b => by
    have hins : ∀ (y : Nat) (L : List Nat), b ∈ ins y L ↔ b = y ∨ b ∈ L := by
      intro y L
      unfold ins
      by_cases h : L.any (Nat.beq y) = true
      · rw [h, cond_true]
        have : y ∈ L := by
          obtain ⟨z, hz, hz2⟩ := List.any_eq_true.1 h
          rw [Nat.eq_of_beq_eq_true hz2]; exact hz
        constructor
        · exact .inr
        · rintro (rfl | h)
          · exact this
          · exact h
      · rw [Bool.not_eq_true] at h; rw [h, cond_false]; simp
    simp only [join]
    by_cases hx : Nat.blt x base = true
    · rw [hx, cond_true, hins, join_mem]
      have : x < base := Nat.lt_of_succ_le (Nat.le_of_ble_eq_true hx)
      constructor
      · rintro (rfl | h | h)
        · exact .inl ⟨by simp, this⟩
        · exact .inl ⟨by simp [h.1], h.2⟩
        · exact .inr h
      · rintro (⟨h, hb⟩ | h)
        · rcases List.mem_cons.1 h with rfl | h
          · exact .inl rfl
          · exact .inr (.inl ⟨h, hb⟩)
        · exact .inr (.inr h)
    · rw [Bool.not_eq_true] at hx
      rw [hx, cond_false, join_mem]
      have : ¬ x < base := fun h => by
        have : Nat.blt x base = true := Nat.ble_eq_true_of_le h
        rw [this] at hx; cases hx
      constructor
      · rintro (⟨h, hb⟩ | h)
        · exact .inl ⟨by simp [h], hb⟩
        · exact .inr h
      · rintro (⟨h, hb⟩ | h)
        · rcases List.mem_cons.1 h with rfl | h
          · exact absurd hb this
          · exact .inl ⟨h, hb⟩
        · exact .inr h

/-- The temporaries of a frame, and that no call waits for its end. -/
def FRn (ρ : Env) (σ : Mp) (nt : Nat) (T : Tr CV) (a0 a : Act) : Prop := a.tmps.size = nt ∧ FR ρ σ T a ∧ a.defers = a0.defers

theorem FRn.put {ρ : Env} {σ σ' : Mp} {nt : Nat} {T T' : Tr CV} {a0 a : Act} {d : Option Tmp} {c : CV} {v : Value} (h : FRn ρ σ nt T a0 a) (hl : σ.le σ') (hp : putT nt T d c = some T') (hv : VR ρ σ' c v) : FRn ρ σ' nt T' a0 (a.put d v) := by
  obtain ⟨h1, h2, h3⟩ := h
  cases d with
  | none => simp only [putT] at hp; cases hp; exact ⟨h1, fun t => (h2 t).mono hl, h3⟩
  | some d =>
    simp only [putT] at hp
    by_cases hd : Nat.blt d nt = true
    · rw [hd, cond_true] at hp
      cases hp
      have hlt : d < a.tmps.size := by rw [h1]; exact Nat.lt_of_succ_le (Nat.le_of_ble_eq_true hd)
      refine ⟨by simp [Act.put, h1], fun t => ?_, h3⟩
      simp only [rd, Tr.get_set, Act.put]
      by_cases e : t = d
      · subst e
        simp only [if_true]
        rw [Array.getD_eq_getD_getElem?, Array.getElem?_setIfInBounds_self_of_lt hlt]
        exact hv
      · rw [if_neg e, Array.getD_eq_getD_getElem?, Array.getElem?_setIfInBounds_ne (fun h => e h.symm), ← Array.getD_eq_getD_getElem?]
        exact (h2 t).mono hl
    · rw [Bool.not_eq_true] at hd; rw [hd, cond_false] at hp; cases hp

theorem Inv.le {ρ : Env} {σ σ' : Mp} {cur : Cur} {base n0 : Nat} {W : List Nat} {w0 w : World} {s : St} (h : Inv ρ σ cur base W n0 w0 s σ' w) (hN : ∀ b, n0 ≤ b → b < s.next → σ b = none) : σ.le σ' := h.ext.le hN

/-- The marks of ranges over functions among a frame's deferred calls, in the order in which they came. -/
def Marks (d0 : List Deferred) (w0 : World) (d : List Deferred) (w : World) : Prop :=
  ∃ l : List Nat, d = l.map (fun D => { target := .collected D, args := #[] }) ++ d0 ∧ l.Nodup ∧ ∀ D ∈ l, w0.heap.size ≤ D ∧ w.heap[D]? = some (.deferred (some []))

theorem Marks.refl (d0 : List Deferred) (w0 w : World) : Marks d0 w0 d0 w := ⟨[], rfl, List.nodup_nil, fun D h => by cases h⟩

theorem Marks.trans {d0 d1 d2 : List Deferred} {w0 w1 w2 : World} (h1 : Marks d0 w0 d1 w1) (hs : w0.heap.size ≤ w1.heap.size) (hd : ∀ (k : Nat), w1.heap[k]? = some (.deferred (some [])) → w2.heap[k]? = some (.deferred (some []))) (h2 : Marks d1 w1 d2 w2) : Marks d0 w0 d2 w2 := by
  obtain ⟨l1, rfl, n1, m1⟩ := h1
  obtain ⟨l2, rfl, n2, m2⟩ := h2
  refine ⟨l2 ++ l1, by simp, ?_, fun D hD => ?_⟩
  · rw [List.nodup_append]
    refine ⟨n2, n1, fun a ha b hb e => ?_⟩
    subst e
    have h1 := (m2 a ha).1
    have h2 := (Array.getElem?_eq_some_iff.1 (m1 a hb).2).1
    omega
  · rcases List.mem_append.1 hD with h | h
    · exact ⟨Nat.le_trans hs (m2 D h).1, (m2 D h).2⟩
    · exact ⟨(m1 D h).1, hd D (m1 D h).2⟩

/-- The temporaries of a frame; its deferred calls are those that it had, and marks. -/
def FRc (ρ : Env) (σ : Mp) (nt : Nat) (T : Tr CV) (a0 a : Act) (w0 w : World) : Prop := a.tmps.size = nt ∧ FR ρ σ T a ∧ Marks a0.defers w0 a.defers w

theorem FRn.marks {ρ : Env} {σ : Mp} {nt : Nat} {T : Tr CV} {a0 a : Act} (h : FRn ρ σ nt T a0 a) (w0 w : World) : FRc ρ σ nt T a0 a w0 w := ⟨h.1, h.2.1, by rw [h.2.2]; exact .refl _ _ _⟩
theorem FRc.self {ρ : Env} {σ : Mp} {nt : Nat} {T : Tr CV} {a0 a : Act} {w0 w : World} (h : FRc ρ σ nt T a0 a w0 w) : FRn ρ σ nt T a a := ⟨h.1, h.2.1, rfl⟩

/-- What is left behind a region. -/
def PostR (ρ : Env) (σ : Mp) (cur : Cur) (base : Nat) (s : St) (w : World) (nt : Nat) (T' : Tr CV) (s' : St) (W : List Nat) (a0 : Act) (a' : Act) (w' : World) : Prop :=
  ∃ σ', Inv ρ σ cur base W s.next w s' σ' w' ∧ FRn ρ σ' nt T' a0 a'

/-- What is left behind a statement. -/
def PostC (ρ : Env) (σ : Mp) (cur : Cur) (base : Nat) (s : St) (w : World) (nt : Nat) (T' : Tr CV) (s' : St) (W : List Nat) (a0 : Act) (a' : Act) (w' : World) : Prop :=
  ∃ σ', Inv ρ σ cur base W s.next w s' σ' w' ∧ FRc ρ σ' nt T' a0 a' w w'

theorem PostR.toC {ρ : Env} {σ : Mp} {cur : Cur} {base : Nat} {s : St} {w : World} {nt : Nat} {T' : Tr CV} {s' : St} {W : List Nat} {a0 a' : Act} {w' : World} (h : PostR ρ σ cur base s w nt T' s' W a0 a' w') : PostC ρ σ cur base s w nt T' s' W a0 a' w' := by
  obtain ⟨σ', h1, h2⟩ := h
  exact ⟨σ', h1, h2.marks _ _⟩

def Ex.conv : Ex → Exit
  | .normal => .normal
  | .exit i => .exit i
  | .ret => .ret

/-- A loop by its rounds, any other statement as it is. -/
def wpL (m : Nat) (ro : Option Nat) (n : Nat) (P : Program) (c : Code) (Q : Exit → Act → World → Prop) (a : Act) (w : World) : Prop :=
  match c with
  | .loop b => Code.roundsIn (fc ro) n P b Q m a w
  | c => c.wpIn (fc ro) n P Q a w

theorem wpL.wpIn {m : Nat} {ro : Option Nat} {n : Nat} {P : Program} {c : Code} {Q : Exit → Act → World → Prop} {a : Act} {w : World} (h : wpL m ro n P c Q a w) : c.wpIn (fc ro) n P Q a w := by
  cases c <;> first | exact wpIn_loop_rounds m h | exact h

/-- The evaluator's word on a statement. -/
structure CodeOk (P : Program) (ρ : Env) (m base : Nat) (c : Code) (nt : Nat) (T : Tr CV) (s : St) (e : Ex) (T' : Tr CV) (s' : St) (R W : List Nat) : Prop where
  frm : FrmB base s s' W
  lt : ∀ b, b ∈ R ∨ b ∈ W → b < base
  run : regsOk c = true → ∀ (Wt : List Nat) (ro : Option Nat) (n : Nat) (Q : Exit → Act → World → Prop) (σ : Mp) (cur : Cur) (w : World) (a0 a : Act), (∀ b ∈ W, b ∈ Wt) → (∀ b ∈ Wt, b < base) → (∀ p ∈ s'.pc, p.holds ρ) → (∀ l, ro = some l → ∃ r, w.heap[l]? = some (.loop r)) → HR ρ σ cur w → (∀ b, b ∈ R ∨ b ∈ Wt ∨ (base ≤ b ∧ b < s.next) → cur b = s.heap.get b) →
    (∀ b, s.next ≤ b → b < s'.next → σ b = none) → FRn ρ σ nt T a0 a → (∀ a' w', PostC ρ σ cur base s w nt T' s' Wt a0 a' w' → Q e.conv a' w') → wpL m ro n P c Q a w

end Go.Proofs.Ytknphpihipkdpaa.Cx
