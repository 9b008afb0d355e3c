/- One operation that calls no Go function: append, the other builtins; then all operations together. -/
import Derived.OrdersIn
import Derived.LoopNIn
import Derived.Test.YtjdldcmcjaaibaaPkFShifts1

namespace Go.Proofs.Ytjdldcmcjaaibaa.Cx
set_option linter.unusedSimpArgs false
set_option linter.unusedVariables false
open Go Go.RowKit
section
variable {P : Program} {C : Ctx} {ρ : Env} {σ : Mp} {cur : Cur} {s : St} {T : Tr CV} {a : Act} {w : World} {o : Oper} {r : OR}
section
variable {sT elem ty yT size n : Nat} {m c : Nat} {y : Value} {vs : List Value} {w' : World} {i : TypeInfo}
theorem append_zero_S {b : Option Addr} (hu : (underlying sT).run P w = .ok (.slice elem) w) (hs : (sizeOf elem).run P w = .ok size w) (hS : SrcS P w size yT y 0 vs) (hv : vs = []) (h : m ≤ c) :
    (Builtin.append_ #[sT, yT] ty #[.slice b m c, y]).run P w = .ok (.slice b m c) w := by
  obtain ⟨e, hd⟩ := hS.d
  subst hv
  cases b <;> simp [Builtin.append_, hu, hs, hd, hS.len, hS.cells, h, storeCells]
theorem append_zero_Z {b : Option Addr} (hu : (underlying sT).run P w = .ok (.slice elem) w) (hs : (sizeOf elem).run P w = .ok size w) (hi : (typeInfo elem).run P w = .ok i w) (hS : SrcZ P w elem size yT y 0 vs) (h : m ≤ c) :
    (Builtin.append_ #[sT, yT] ty #[.slice b m c, y]).run P w = .ok (.slice b m c) w := by
  obtain ⟨k, hd⟩ := hS.d
  obtain ⟨k2, rfl⟩ := hS.y
  have hw := wrap_small (0 : Int) (by omega) (by omega)
  cases b <;> simp [Builtin.append_, hu, hs, hd, hi, asInt, asIntOf, hw, h, storeCells]
end
theorem exec_builtin {b : Builtin} {args : Array Operand} {tys : Array TypeId} (hop : o.op = .call { callee := .builtin b, args := args, argTypes := tys }) :
    ∃ cs, (execOp a.eval o).run P w = (builtin b tys o.type cs (args.map a.eval)).run P w :=
  ⟨_, by simp only [execOp, hop, resolve, pure_bind, invoke]; rfl⟩
theorem zeroCells_length (z : Array Value) (n : Nat) : (Builtin.zeroCells z n).toList.length = n * z.size := by simp [Builtin.zeroCells]
theorem sound_append {q r2 : TyR} {sT yT e ty n : Nat} {d : TypeDesc} {x y : CV} {vx vy : Value} {l : List CV} {R : List Nat} {z₀ : Bool} (hu : (underlying sT).run P w = .ok (.slice e) w) (hq : TyOk P e q) (h1 : 1 ≤ q.size) (hby : q.bytes ≤ 100000) (hr2 : TyOk P yT r2)
    (hsrc : srcE q s r2.desc y = some (l, n, R)) (h : appE q s x l n R z₀ = some r) (hx : VR ρ σ x vx) (hy : VR ρ σ y vy) (hH : HR ρ σ cur w) (hA : ∀ b, b ∈ r.R ∨ b ∈ r.W → cur b = s.heap.get b) (hN : ∀ b, s.next ≤ b → b < r.s.next → σ b = none) :
    ∃ v w', (Builtin.append_ #[sT, yT] ty #[vx, vy]).run P w = .ok v w' ∧ Post ρ σ cur s.next w r.val r.s r.W v w' := by
  have hRr : ∀ b ∈ R, b ∈ r.R := by
    unfold appE at h
    split at h
    · cases hb : Nat.beq n 0 with
      | true => rw [hb, cond_true] at h; cases h; exact fun _ hb => hb
      | false => rw [hb, cond_false] at h; cases h; exact fun _ hb => hb
    · cases hb : Nat.beq n 0 with
      | true => rw [hb, cond_true] at h; cases h; exact fun _ hb => hb
      | false => rw [hb, cond_false] at h; cases h
    · rename_i b off m c
      cases hb : (Nat.beq n 0 && !z₀) with
      | true =>
        rw [hb, cond_true] at h
        cases hb2 : Nat.ble m c with
        | true => rw [hb2, cond_true] at h; cases h; exact fun _ hb => hb
        | false => rw [hb2, cond_false] at h; cases h
      | false =>
        rw [hb, cond_false] at h
        split at h
        · rename_i hh k _ _
          cases hf : (Nat.beq k.esz q.size && Nat.ble (m + n) 10000 && l.all CV.flat && !k.ro && (Nat.ble 1 n || Nat.ble m c)) with
          | true => rw [hf, cond_true] at h; cases h; exact fun _ hb => by simp [hb]
          | false => rw [hf, cond_false] at h; cases h
        · cases h
    · cases h
  obtain ⟨vs, hv, hvl, hn, hS⟩ := src_inv hH hq h1 hr2 hsrc hy (fun b hb => hA b (.inl (hRr b hb)))
  have hs := hq.sizeOf' w
  obtain ⟨i, hi, hi2, hi3⟩ := hq.info w
  obtain ⟨z, hz, hz2⟩ := hq.zeroA
  have hzs : z.cells.size = q.size := by
    have := (VRl.ofVals (ρ := ρ) (σ := σ) hz2).length
    simp only [Array.length_toList] at this
    rw [this, hq.2.2.1]
  -- nothing is appended
  have zero : ∀ (b : Option Addr) (m c : Nat), n = 0 → m ≤ c → (Builtin.append_ #[sT, yT] ty #[.slice b m c, vy]).run P w = .ok (.slice b m c) w := by
    intro b m c hn0 hmc
    subst hn0
    rcases hS with hS | hS
    · exact append_zero_S hu hs hS.1 (List.eq_nil_of_length_eq_zero (by omega)) hmc
    · exact append_zero_Z hu hs hi hS.1 hmc
  -- a new block
  have fresh : ∀ (b : Option Addr) (m c : Nat) (old : List Value), 1 ≤ n → ¬ m + n ≤ c → m + n ≤ 20000 → (Builtin.firstCells q.size m (.slice b m c)).run P w.drew = .ok old.toArray w.drew →
      (Builtin.append_ #[sT, yT] ty #[.slice b m c, vy]).run P w = .ok (.slice (some ⟨w.heap.size, 0, none⟩) (m + n) (newCap w e (m + n) c)) (w.drew.alloc (.cells (old ++ vs ++ (Builtin.zeroCells z.cells (newCap w e (m + n) c - (m + n))).toList).toArray e)) := by
    intro b m c old h1n hroom h20 hold
    rcases hS with hS | hS
    · exact append_new_S hu hq hby (hz _) hS.1 hS.2 hroom h20 hold
    · exact append_new_Z hu hq hby h1 h1n hS.2 hS.1.d (hz _) hroom h20 hold
  unfold appE at h
  split at h
  · -- nil
    rename_i c1 c2
    generalize vx = u at hx
    cases hx
    cases hb : Nat.beq n 0 with
    | true =>
      rw [hb, cond_true] at h; cases h
      exact ⟨_, _, zero none 0 0 (Nat.eq_of_beq_eq_true hb) (Nat.le_refl _), post_pure rfl .slc0 hH⟩
    | false =>
      rw [hb, cond_false] at h; cases h
      have hn0 : n ≠ 0 := fun e => by rw [e] at hb; cases hb
      have hσ := hN s.next (Nat.le_refl _) (by simp [St.new])
      have hr := fresh none 0 0 [] (by omega) (by omega) (by omega) (by simp [Builtin.firstCells])
      refine ⟨_, _, hr, post_drew ?_⟩
      simp only [Nat.zero_add]
      have hge := newCap_ge w e n 0
      refine post_new (s0 := s) (l := l) (vs := [] ++ vs) (K := []) hH.drew hv rfl hσ (fun b hb => by cases hb) ?_
      have hlen : ([] ++ vs ++ (Builtin.zeroCells z.cells (newCap w e n 0 - n)).toList).length = newCap w e n 0 * q.size := by
        simp only [List.length_append, List.length_nil, zeroCells_length, hzs, hvl]
        rw [Nat.zero_add, ← Nat.add_mul]; congr 1; omega
      have := VR.slc (ρ := ρ) (σ := fun b => if b = s.next then some ⟨w.drew.heap.size, 0, ([] ++ vs ++ (Builtin.zeroCells z.cells (newCap w e n 0 - n)).toList).length, q.size⟩ else σ b) (b := s.next) (o := 0) (n := n) (c := n) (c' := newCap w e n 0) (l := ⟨w.drew.heap.size, 0, ([] ++ vs ++ (Builtin.zeroCells z.cells (newCap w e n 0 - n)).toList).length, q.size⟩) (if_pos rfl) hge (by rw [hlen]; simp)
      exact this
  · -- an empty slice somewhere
    cases hb : Nat.beq n 0 with
    | true =>
      rw [hb, cond_true] at h; cases h
      generalize vx = u at hx
      cases hx
      exact ⟨_, _, zero _ 0 _ (Nat.eq_of_beq_eq_true hb) (Nat.zero_le _), post_pure rfl (.emp _ _) hH⟩
    | false => rw [hb, cond_false] at h; cases h
  · rename_i b off m c
    cases hx with
    | slc hl hc hsz =>
      rename_i c' lc
      cases hb : (Nat.beq n 0 && !z₀) with
      | true =>
        rw [hb, cond_true] at h
        simp only [Bool.and_eq_true] at hb
        cases hb2 : Nat.ble m c with
        | true =>
          rw [hb2, cond_true] at h; cases h
          exact ⟨_, _, zero _ m c' (Nat.eq_of_beq_eq_true hb.1) (Nat.le_trans (Nat.le_of_ble_eq_true hb2) hc), post_pure rfl (.slc hl hc hsz) hH⟩
        | false => rw [hb2, cond_false] at h; cases h
      | false =>
        rw [hb, cond_false] at h
        split at h
        · rename_i hh k hld hk
          cases hf : (Nat.beq k.esz q.size && Nat.ble (m + n) 10000 && l.all CV.flat && !k.ro && (Nat.ble 1 n || Nat.ble m c)) with
          | false => rw [hf, cond_false] at h; cases h
          | true =>
            rw [hf, cond_true] at h; cases h
            simp only [Bool.and_eq_true, List.all_eq_true, Bool.not_eq_true', Bool.or_eq_true] at hf
            obtain ⟨⟨⟨⟨hf1, hf2⟩, hf3⟩, hro⟩, hrm⟩ := hf
            have hrm : 1 ≤ n ∨ m ≤ c' := hrm.imp Nat.le_of_ble_eq_true fun h => Nat.le_trans (Nat.le_of_ble_eq_true h) hc
            have hesz := Nat.eq_of_beq_eq_true hf1
            have hmn := Nat.le_of_ble_eq_true hf2
            have hcb := hA b (.inl (by simp))
            have hσ := hN s.next (Nat.le_refl _) (by simp [St.new, kill_next])
            obtain ⟨k', hk', hlive, hle, hhe, _⟩ := ld_parts hld
            rw [hk] at hk'
            obtain rfl := Option.some.inj hk'
            obtain ⟨_, _, _, _, _, _, hez, _⟩ := hH.cell b k lc (hcb.trans hk) hlive hl
            have hbn : b ≠ s.next := fun e => by rw [e, hσ] at hl; cases hl
            obtain ⟨old, ho1, ho2, ho3, ho4⟩ := ld_run (P := P) hH hld hcb hl
            by_cases hroom : m + n ≤ c'
            · -- in place
              have hfit2 : lc.base + off + m * q.size + vs.length ≤ lc.size := by
                rw [← hez, hesz] at hsz
                have : (m + n) * q.size ≤ c' * q.size := Nat.mul_le_mul_right _ hroom
                rw [Nat.add_mul] at this
                omega
              obtain ⟨w', p1, p2, p3⟩ := place_run (P := P) hH hk hro hlive hle hcb hl hv hf3 hfit2 hσ
              have hst : (storeCells ((⟨lc.blk, lc.base + off, none⟩ : Addr).add (m * q.size)) vs).run P w = .ok () w' := by rw [add_none]; exact p1
              refine ⟨.slice (some ⟨lc.blk, lc.base + off, none⟩) (m + n) c', w', ?_, ?_⟩
              · by_cases hn1 : 1 ≤ n
                · rcases hS with hS | hS
                  · exact append_place_S hu hs hS.1 hroom hst
                  · exact append_place_Z hu hs hi (by omega) h1 hn1 hS.1 hroom hst
                · obtain rfl : n = 0 := by omega
                  have hv0 : vs = [] := List.eq_nil_of_length_eq_zero (by omega)
                  rw [hv0] at hst
                  simp only [storeCells, Sem.run_pure, Result.ok.injEq, true_and] at hst
                  rw [← hst]
                  exact zero _ m c' rfl (by omega)
              · rw [hesz, ← hhe] at p2
                have hnx : ((s.kill b).new (hh ++ l) q.size).next = s.next + 1 := by simp [St.new, kill_next]
                refine ⟨_, ?_, ?_, by rw [hnx]; exact p2, p3, ?_⟩
                · intro x hx
                  rw [hnx] at hx
                  show (if x = s.next then _ else σ x) = σ x
                  rw [if_neg (by omega)]
                · have := VR.slc (ρ := ρ) (σ := fun x => if x = s.next then some ⟨lc.blk, lc.base + off, lc.size, lc.esz⟩ else σ x) (b := s.next) (o := 0) (n := m + n) (c := m + n) (c' := c') (l := ⟨lc.blk, lc.base + off, lc.size, lc.esz⟩) (if_pos rfl) hroom (by simpa using hsz)
                  exact this
                · intro x l' h1' h2' h3'
                  rw [hnx] at h2'
                  obtain rfl : x = s.next := by omega
                  simp only [if_true] at h3'
                  obtain rfl := Option.some.inj h3'
                  exact .inr ⟨b, .inl (by simp), lc, hl, rfl⟩
            · have hr := fresh (some ⟨lc.blk, lc.base + off, none⟩) m c' old (by omega) hroom (by omega) (by simp [Builtin.firstCells, ho4])
              refine ⟨_, _, hr, post_drew ?_⟩
              have hge := newCap_ge w e (m + n) c'
              have hlen : (old ++ vs ++ (Builtin.zeroCells z.cells (newCap w e (m + n) c' - (m + n))).toList).length = newCap w e (m + n) c' * q.size := by
                simp only [List.length_append, zeroCells_length, hzs, hvl, ho3]
                rw [← Nat.add_mul, ← Nat.add_mul]; congr 1; omega
              refine post_new (s0 := s) (s := s.kill b) (l := hh ++ l) (vs := old ++ vs) (K := [b]) hH.drew (ho2.append hv) (kill_next s b) hσ (fun x hx => ?_) ?_
              · obtain rfl : x = b := by simpa using hx
                refine ⟨hbn, fun k2 hk2 => ?_⟩
                rw [kill_get hk, if_pos rfl] at hk2
                obtain rfl := Option.some.inj hk2
                exact ⟨rfl, rfl⟩
              · have := VR.slc (ρ := ρ) (σ := fun b => if b = s.next then some ⟨w.drew.heap.size, 0, (old ++ vs ++ (Builtin.zeroCells z.cells (newCap w e (m + n) c' - (m + n))).toList).length, q.size⟩ else σ b) (b := s.next) (o := 0) (n := m + n) (c := m + n) (c' := newCap w e (m + n) c') (l := ⟨w.drew.heap.size, 0, (old ++ vs ++ (Builtin.zeroCells z.cells (newCap w e (m + n) c' - (m + n))).toList).length, q.size⟩) (if_pos rfl) hge (by rw [hlen]; simp)
                exact this
        · cases h
  · cases h
/-! ## Rows appended -/
/-- Blocks that hold the same, said otherwise. -/
theorem HR.imp {cur' : Cur} (h : HR ρ σ cur w) (hc : ∀ b k, cur' b = some k → ∃ k0, cur b = some k0 ∧ k.live = k0.live ∧ k.ext = k0.ext ∧ k.esz = k0.esz ∧ (k.ro = false → k0.ro = false) ∧ ∀ us, VRl ρ σ k0.cells us → VRl ρ σ k.cells us) : HR ρ σ cur' w := by
  refine ⟨fun b k l h1 h2 h3 => ?_, fun b b' k k' l l' h1 h2 h3 h4 h5 h6 h7 h8 => ?_, fun b k x l h1 h2 h3 => ?_, fun b b' k k' x x' l l' h1 h2 h3 h4 h5 h6 h7 => ?_, fun y hy => ⟨(h.glob y hy).1, fun b k l h1 h2 hr h3 => ?_⟩⟩
  · obtain ⟨k0, e1, e2, e3, e4, er, e5⟩ := hc b k h1
    obtain ⟨c, t, ppq1, q1, qqq1, q2, q3, q4, q5⟩ := h.cell b k0 l e1 (e2 ▸ h2) h3
    have l1 := q5.length
    have l2 := (e5 _ q5).length
    have hl : k.cells.length = k0.cells.length := l2.symm.trans l1
    exact ⟨c, t, ppq1, q1, fun h => qqq1 (er h), q2, e4.trans q3, by rw [hl]; exact q4, by rw [hl]; exact e5 _ q5⟩
  · obtain ⟨k0, e1, e2, _, _, er, _⟩ := hc b k h1
    obtain ⟨k1, g1, g2, _, _, gr, _⟩ := hc b' k' h4
    exact h.inj b b' k0 k1 l l' e1 (e2 ▸ h2) h3 g1 (g2 ▸ h5) h6 h7 (h8.imp er gr)
  · obtain ⟨k0, e1, e2, e3, _⟩ := hc b k h1
    exact h.spec b k0 x l e1 (e3 ▸ h2) h3
  · obtain ⟨k0, e1, e2, e3, _⟩ := hc b k h1
    obtain ⟨k1, g1, g2, g3, _⟩ := hc b' k' h4
    exact h.injX b b' k0 k1 x x' l l' e1 (e3 ▸ h2) h3 g1 (g3 ▸ h5) h6 h7
  · obtain ⟨k0, e1, e2, _, _, er, _⟩ := hc b k h1
    exact (h.glob y hy).2 b k0 l e1 (e2 ▸ h2) (er hr) h3
theorem VRl.cut {a b : List CV} {us : List Value} (h : VRl ρ σ (a ++ b) us) : ∃ x y, us = x ++ y ∧ VRl ρ σ a x ∧ VRl ρ σ b y := by
  refine ⟨us.take a.length, us.drop a.length, (List.take_append_drop _ _).symm, ?_, ?_⟩
  · have := h.take a.length; rwa [List.take_append_of_le_length (Nat.le_refl _), List.take_of_length_le (Nat.le_refl _)] at this
  · have := h.drop a.length; rwa [List.drop_append_of_le_length (Nat.le_refl _), List.drop_of_length_le (Nat.le_refl _), List.nil_append] at this
theorem flatR_flat {row : Nat → List CV} (h : ∀ j, (row j).all CV.flat = true) : ∀ n, (flatR row n).all CV.flat = true
  | 0 => rfl
  | n + 1 => by rw [flatR, List.all_append, flatR_flat h n, h n]; rfl
theorem rows_app {A B : Nat → List CV} {m z : Nat} (hA : ∀ j, (A j).length = z ∧ (A j).all CV.flat = true) (hB : ∀ j, (B j).length = z ∧ (B j).all CV.flat = true) : ∀ (n : Nat) (us : List Value), VRl ρ σ (flatR A m ++ flatR B n) us →
    VRl ρ σ (flatR (fun i => selRow (Nat.blt i m) (A i) (B (i - m))) (m + n)) us := by
  have low : ∀ (k : Nat) (us : List Value), k ≤ m → VRl ρ σ (flatR A k) us → VRl ρ σ (flatR (fun i => selRow (Nat.blt i m) (A i) (B (i - m))) k) us := by
    intro k
    induction k with
    | zero => intro us _ h; exact h
    | succ k ih =>
      intro us hk h
      rw [flatR] at h
      obtain ⟨x, y, rfl, h1, h2⟩ := h.cut
      have e : Nat.blt k m = true := Nat.ble_eq_true_of_le (by omega)
      rw [flatR, e]
      exact (ih x (by omega) h1).append (VRl.selT h2 ((hA k).1.trans (hB _).1.symm) (hA k).2)
  intro n
  induction n with
  | zero => intro us h; rw [flatR, List.append_nil] at h; exact low m us (Nat.le_refl _) h
  | succ n ih =>
    intro us h
    rw [flatR, ← List.append_assoc] at h
    obtain ⟨x, y, rfl, h1, h2⟩ := h.cut
    have e : Nat.blt (m + n) m = false := by
      cases hb : Nat.blt (m + n) m with
      | false => rfl
      | true => have := Nat.lt_of_succ_le (Nat.le_of_ble_eq_true hb); omega
    rw [← Nat.add_assoc, flatR, e]
    refine (ih x h1).append (VRl.selF ?_ (hB _).2)
    rw [show m + n - m = n by omega]; exact h2
theorem ld_rows {b z o n M : Nat} {row : Nat → List CV} {hr : ∀ j, (row j).length = z ∧ (row j).all CV.flat = true} {e : Nat} {x : Option BX} (hk : s.heap.get b = some ⟨.rows M z row hr, e, true, x⟩) (hb : Nat.blt b s.next = true) (hle : o + n ≤ M) : s.ld b (o * z) (n * z) = some (flatR (fun i => row (o + i)) n) := by
  unfold St.ld
  rw [hk]
  have hcl : Blk.cells ⟨.rows M z row hr, e, true, x⟩ = flatR row M := rfl
  have hlen := flatR_length (fun j => (hr j).1) M
  simp only [hcl, hlen]
  have e1 : Nat.ble (o * z + n * z) (M * z) = true := Nat.ble_eq_true_of_le (by rw [← Nat.add_mul]; exact Nat.mul_le_mul_right _ hle)
  rw [e1, hb, flatR_part (fun j => (hr j).1) o n M hle]
  rfl
theorem ld_rowsA {b z o n M : Nat} {row : Nat → List CV} {hr : ∀ j, (row j).length = z ∧ (row j).all CV.flat = true} {e : Nat} {x : Option BX} (hk : s.heap.get b = some ⟨.arg M z row hr, e, true, x⟩) (hb : Nat.blt b s.next = true) (hle : o + n ≤ M) : s.ld b (o * z) (n * z) = some (flatR (fun i => row (o + i)) n) := by
  unfold St.ld
  rw [hk]
  have hcl : Blk.cells ⟨.arg M z row hr, e, true, x⟩ = flatR row M := rfl
  have hlen := flatR_length (fun j => (hr j).1) M
  simp only [hcl, hlen]
  have e1 : Nat.ble (o * z + n * z) (M * z) = true := Nat.ble_eq_true_of_le (by rw [← Nat.add_mul]; exact Nat.mul_le_mul_right _ hle)
  rw [e1, hb, flatR_part (fun j => (hr j).1) o n M hle]
  rfl
/-- The source of an append of rows, as cells. -/
theorem lstZ_in {z a : Bool} {n : Nat} : a ∈ lstZ z a n := by cases z <;> simp [lstZ]
theorem lstZ_n {z a : Bool} {n : Nat} (h : ∀ b ∈ lstZ z a n, b = true) : z = true ∨ 1 ≤ n := by
  cases z with
  | true => exact .inl rfl
  | false => exact .inr (of_decide_eq_true (h _ (by simp [lstZ])))
theorem srcX_lit {z₀ : Bool} {q : TyR} {s1 : St} {d : TypeDesc} {y : CV} {rs : RS} {vy : Value} (h : srcX z₀ q s d y = some (rs, s1)) (hy : VR ρ σ y vy) (hp : ∀ p ∈ s1.pc, p.holds ρ) :
    s1.next = s.next ∧ s1.heap = s.heap ∧ (∃ l, s1.pc = l ++ s.pc) ∧ (z₀ = true ∨ 1 ≤ rs.n) ∧ (rs.n ≤ 10000 → ∃ y', VR ρ σ y' vy ∧ srcE q s d y' = some (flatR rs.row rs.n, rs.n, rs.R)) := by
  unfold srcX at h
  split at h
  · rename_i e b z o n c
    split at h
    · rename_i m z' row hr e' x hk
      cases hc : (Nat.beq z z' && Nat.beq z q.size && Nat.blt b s.next) with
      | false => rw [hc, cond_false] at h; cases h
      | true =>
        rw [hc, cond_true] at h
        simp only [Bool.and_eq_true] at hc
        obtain rfl := Nat.eq_of_beq_eq_true hc.1.1
        have hzq := Nat.eq_of_beq_eq_true hc.1.2
        split at h
        · rename_i s2 hm
          cases h
          obtain ⟨a1, a2, a3, a4⟩ := musts_parts (ρ := ρ) hm
          have a4 := a4 hp
          have b1 : o + n ≤ m := of_decide_eq_true (a4 _ lstZ_in)
          have b2 := lstZ_n a4
          refine ⟨a1, a2, a3, b2, fun hn => ⟨_, hy.slx_inv, ?_⟩⟩
          simp only [srcE]
          rw [← hzq, ld_rows hk hc.2 b1]
          have e1 : Nat.ble n 10000 = true := Nat.ble_eq_true_of_le hn
          simp only [e1, cond_true]
        · cases h
    · rename_i m z' row hr e' x hk
      cases hc : (Nat.beq z z' && Nat.beq z q.size && Nat.blt b s.next) with
      | false => rw [hc, cond_false] at h; cases h
      | true =>
        rw [hc, cond_true] at h
        simp only [Bool.and_eq_true] at hc
        obtain rfl := Nat.eq_of_beq_eq_true hc.1.1
        have hzq := Nat.eq_of_beq_eq_true hc.1.2
        split at h
        · rename_i s2 hm
          cases h
          obtain ⟨a1, a2, a3, a4⟩ := musts_parts (ρ := ρ) hm
          have a4 := a4 hp
          have b1 : o + n ≤ m := of_decide_eq_true (a4 _ lstZ_in)
          have b2 := lstZ_n a4
          refine ⟨a1, a2, a3, b2, fun hn => ⟨_, hy.slx_inv, ?_⟩⟩
          simp only [srcE]
          rw [← hzq, ld_rowsA hk hc.2 b1]
          have e1 : Nat.ble n 10000 = true := Nat.ble_eq_true_of_le hn
          simp only [e1, cond_true]
        · cases h
    · cases h
  · rename_i e b z o n
    split at h
    · rename_i m z' row hr e' x hk
      cases hc : (Nat.beq z z' && Nat.beq z q.size && Nat.blt b s.next) with
      | false => rw [hc, cond_false] at h; cases h
      | true =>
        rw [hc, cond_true] at h
        simp only [Bool.and_eq_true] at hc
        obtain rfl := Nat.eq_of_beq_eq_true hc.1.1
        have hzq := Nat.eq_of_beq_eq_true hc.1.2
        split at h
        · rename_i s2 hm
          cases h
          obtain ⟨a1, a2, a3, a4⟩ := musts_parts (ρ := ρ) hm
          have a4 := a4 hp
          have b1 : o + n ≤ m := of_decide_eq_true (a4 _ lstZ_in)
          have b2 := lstZ_n a4
          refine ⟨a1, a2, a3, b2, fun hn => ⟨_, hy, ?_⟩⟩
          simp only [srcE]
          rw [← hzq, ld_rows hk hc.2 b1]
          have e1 : Nat.ble n 10000 = true := Nat.ble_eq_true_of_le hn
          simp only [e1, cond_true]
        · cases h
    · rename_i m z' row hr e' x hk
      cases hc : (Nat.beq z z' && Nat.beq z q.size && Nat.blt b s.next) with
      | false => rw [hc, cond_false] at h; cases h
      | true =>
        rw [hc, cond_true] at h
        simp only [Bool.and_eq_true] at hc
        obtain rfl := Nat.eq_of_beq_eq_true hc.1.1
        have hzq := Nat.eq_of_beq_eq_true hc.1.2
        split at h
        · rename_i s2 hm
          cases h
          obtain ⟨a1, a2, a3, a4⟩ := musts_parts (ρ := ρ) hm
          have a4 := a4 hp
          have b1 : o + n ≤ m := of_decide_eq_true (a4 _ lstZ_in)
          have b2 := lstZ_n a4
          refine ⟨a1, a2, a3, b2, fun hn => ⟨_, hy, ?_⟩⟩
          simp only [srcE]
          rw [← hzq, ld_rowsA hk hc.2 b1]
          have e1 : Nat.ble n 10000 = true := Nat.ble_eq_true_of_le hn
          simp only [e1, cond_true]
        · cases h
    · cases h
  · rename_i e b o c
    split at h
    · rename_i l hl
      split at h
      · rename_i hf
        cases hc : Nat.beq l.length q.size with
        | false => rw [hc, cond_false] at h; cases h
        | true =>
          rw [hc, cond_true] at h
          cases h
          refine ⟨rfl, rfl, ⟨[], rfl⟩, .inr (Nat.le_refl _), fun _ => ⟨_, hy, ?_⟩⟩
          simp only [srcE, Nat.one_mul, hl, flatR, List.nil_append]
          rfl
      · cases h
    · cases h
  · cases h
theorem beq_pos {n : Nat} (h : 1 ≤ n) : Nat.beq n 0 = false := by cases n with | zero => omega | succ n => rfl
/-- An append of rows, as one of cells: its value, and what memory holds. -/
theorem appX_lit {z₀ : Bool} {q : TyR} {x : CV} {rs : RS} {vx : Value} (h : appX z₀ q s x rs = some r) (hn : z₀ = true ∨ 1 ≤ rs.n) (hx : VR ρ σ x vx) (hp : ∀ p ∈ r.s.pc, p.holds ρ) :
    rs.n ≤ 10000 ∧ (∃ l, r.s.pc = l ++ s.pc) ∧ ∃ x' r', VR ρ σ x' vx ∧ appE q s x' (flatR rs.row rs.n) rs.n rs.R z₀ = some r' ∧ r'.R = r.R ∧ r'.W = r.W ∧ r'.s.next = r.s.next ∧ (∀ τ v, VR ρ τ r'.val v → VR ρ τ r.val v) ∧
      ∀ b k, r.s.heap.get b = some k → ∃ k0, r'.s.heap.get b = some k0 ∧ k.live = k0.live ∧ k.ext = k0.ext ∧ k.esz = k0.esz ∧ (k.ro = false → k0.ro = false) ∧ ∀ τ us, VRl ρ τ k0.cells us → VRl ρ τ k.cells us := by
  have hn0 : (Nat.beq rs.n 0 && !z₀) = false := by
    rcases hn with rfl | hn
    · simp
    · rw [beq_pos hn]; rfl
  have hfl := flatR_flat (fun j => (rs.h j).2) rs.n
  unfold appX at h
  split at h
  · rename_i b z o m c
    split at h
    · rename_i M z' row hr e ex hk
      cases hc : (Nat.beq z z' && Nat.beq e q.size && Nat.beq z q.size && Nat.beq rs.z q.size && Nat.blt b s.next) with
      | false => rw [hc, cond_false] at h; cases h
      | true =>
        rw [hc, cond_true] at h
        simp only [Bool.and_eq_true] at hc
        obtain ⟨⟨⟨⟨c1, c2⟩, c3⟩, c4⟩, c5⟩ := hc
        obtain rfl := Nat.eq_of_beq_eq_true c1
        have hz1 := Nat.eq_of_beq_eq_true c3
        have hz2 := Nat.eq_of_beq_eq_true c4
        split at h
        · rename_i s2 hm
          cases h
          obtain ⟨a1, a2, ⟨la, a3⟩, a4⟩ := musts_parts (ρ := ρ) hm
          have a4 := a4 (fun p hp' => hp p (by show p ∈ ((s2.kill b).newB _ _).pc; simpa [St.newB, kill_pc] using hp'))
          have b1 : o + m ≤ M := of_decide_eq_true (a4 _ (by cases z₀ <;> simp [lstA]))
          have b2 : m + rs.n ≤ 10000 := of_decide_eq_true (a4 _ (by cases z₀ <;> simp [lstA]))
          have b3 : (Nat.ble 1 rs.n || Nat.ble m c) = true := by
            have b3 : 1 ≤ rs.n ∨ m ≤ c := by
              rcases hn with rfl | hn
              · exact of_decide_eq_true (a4 _ (by simp [lstA]))
              · exact .inl hn
            rw [Bool.or_eq_true]
            exact b3.imp Nat.ble_eq_true_of_le Nat.ble_eq_true_of_le
          refine ⟨by omega, ⟨la, by simp [St.newB, kill_pc, a3]⟩, _, ⟨.slc (some (s.next, 0)) (m + rs.n) (m + rs.n), (s.kill b).new (flatR (fun i => row (o + i)) m ++ flatR rs.row rs.n) q.size, b :: rs.R, [b]⟩, hx.slx_inv, ?_, rfl, rfl, ?_, ?_, ?_⟩
          · simp only [appE, hn0, cond_false]
            rw [← hz1, ld_rows hk c5 b1, hk]
            have e1 : Nat.ble (m + rs.n) 10000 = true := Nat.ble_eq_true_of_le b2
            simp only [hz1, c2, e1, b3, hfl, Bool.and_self, Bool.true_and]
            rfl
          · simp [St.newB, St.new, kill_next, a1]
          · rintro τ v hv
            refine .slx ?_
            rw [Nat.zero_mul, a1]; exact hv
          · intro b' k' hk'
            rw [newB_get, kill_next, a1] at hk'
            rw [new_get, kill_next]
            by_cases e1 : b' = s.next
            · rw [if_pos e1] at hk' ⊢
              cases hk'
              refine ⟨_, rfl, rfl, rfl, rfl, fun _ => rfl, fun τ us hus => ?_⟩
              exact rows_app (A := fun i => row (o + i)) (fun j => by rw [hz2, ← hz1]; exact hr _) rs.h rs.n us hus
            · rw [if_neg e1] at hk' ⊢
              have hk2 : s2.heap.get b = some ⟨.rows M z row hr, e, true, ex⟩ := by rw [a2]; exact hk
              rw [kill_get hk2] at hk'
              rw [kill_get hk]
              by_cases e2 : b' = b
              · rw [if_pos e2] at hk' ⊢
                cases hk'
                exact ⟨_, rfl, rfl, rfl, rfl, fun h => h, fun _ _ h => h⟩
              · rw [if_neg e2] at hk' ⊢
                rw [a2] at hk'
                exact ⟨_, hk', rfl, rfl, rfl, fun h => h, fun _ _ h => h⟩
        · cases h
    · cases h
  · cases hz : (Nat.beq rs.z q.size && !z₀) with
    | false => rw [hz, cond_false] at h; cases h
    | true =>
      rw [hz, cond_true] at h
      simp only [Bool.and_eq_true, Bool.not_eq_true'] at hz
      have hn1 : Nat.beq rs.n 0 = false := by
        rcases hn with hn | hn
        · rw [hz.2] at hn; cases hn
        · exact beq_pos hn
      split at h
      · rename_i s2 hm
        cases h
        obtain ⟨a1, a2, ⟨la, a3⟩, a4⟩ := musts_parts (ρ := ρ) hm
        have a4 := a4 (fun p hp' => hp p hp')
        have b2 : rs.n ≤ 10000 := of_decide_eq_true (a4 _ (by simp))
        refine ⟨b2, ⟨la, a3⟩, _, ⟨.slc (some (s.next, 0)) rs.n rs.n, s.new (flatR rs.row rs.n) q.size, rs.R, []⟩, hx, by simp only [appE, hn1, cond_false], rfl, rfl, by simp [St.newB, St.new, a1], ?_, ?_⟩
        · rintro τ v hv
          refine .slx ?_
          rw [Nat.zero_mul, a1]; exact hv
        · intro b' k' hk'
          rw [newB_get, a1] at hk'
          rw [new_get]
          by_cases e1 : b' = s.next
          · rw [if_pos e1] at hk' ⊢
            cases hk'
            exact ⟨_, rfl, rfl, rfl, rfl, fun h => h, fun _ _ h => h⟩
          · rw [if_neg e1] at hk' ⊢
            rw [a2] at hk'
            exact ⟨_, hk', rfl, rfl, rfl, fun h => h, fun _ _ h => h⟩
      · cases h
  · rename_i b o c
    split at h
    · rename_i l e ex hk
      cases hc : (Nat.ble o l.length && Nat.beq e q.size && Nat.beq rs.z q.size && Nat.blt b s.next) with
      | false => rw [hc, cond_false] at h; cases h
      | true =>
        rw [hc, cond_true] at h
        simp only [Bool.and_eq_true] at hc
        obtain ⟨⟨⟨c1, c2⟩, c3⟩, c5⟩ := hc
        split at h
        · rename_i s2 hm
          cases h
          obtain ⟨a1, a2, ⟨la, a3⟩, a4⟩ := musts_parts (ρ := ρ) hm
          have a4 := a4 (fun p hp' => hp p (by show p ∈ ((s2.kill b).newB _ _).pc; simpa [St.newB, kill_pc] using hp'))
          have b2 : rs.n ≤ 10000 := of_decide_eq_true (a4 _ (by simp))
          have hcl : Blk.cells ⟨.lit l, e, true, ex⟩ = l := rfl
          have hld : s.ld b o (0 * q.size) = some [] := by
            unfold St.ld
            rw [hk]
            simp only [hcl, Nat.zero_mul, Nat.add_zero, c1, c5, Bool.and_self, cond_true, List.take_zero]
          refine ⟨b2, ⟨la, by simp [St.newB, kill_pc, a3]⟩, _, ⟨.slc (some (s.next, 0)) (0 + rs.n) (0 + rs.n), (s.kill b).new ([] ++ flatR rs.row rs.n) q.size, b :: rs.R, [b]⟩, hx, ?_, rfl, rfl, ?_, ?_, ?_⟩
          · simp only [appE, hn0, cond_false]
            rw [hld, hk]
            have e1 : Nat.ble (0 + rs.n) 10000 = true := Nat.ble_eq_true_of_le (by omega)
            have b3 : (Nat.ble 1 rs.n || Nat.ble 0 c) = true := by rw [show Nat.ble 0 c = true from Nat.ble_eq_true_of_le (Nat.zero_le _)]; simp
            simp only [c2, e1, b3, hfl, Bool.and_self, Bool.true_and]
            rfl
          · simp [St.newB, St.new, kill_next, a1]
          · rintro τ v hv
            refine .slx ?_
            rw [Nat.zero_mul, a1]
            rw [Nat.zero_add] at hv
            exact hv
          · intro b' k' hk'
            rw [newB_get, kill_next, a1] at hk'
            rw [new_get, kill_next]
            by_cases e1 : b' = s.next
            · rw [if_pos e1] at hk' ⊢
              cases hk'
              exact ⟨_, rfl, rfl, rfl, rfl, fun h => h, fun _ _ h => h⟩
            · rw [if_neg e1] at hk' ⊢
              have hk2 : s2.heap.get b = some ⟨.lit l, e, true, ex⟩ := by rw [a2]; exact hk
              rw [kill_get hk2] at hk'
              rw [kill_get hk]
              by_cases e2 : b' = b
              · rw [if_pos e2] at hk' ⊢
                cases hk'
                exact ⟨_, rfl, rfl, rfl, rfl, fun h => h, fun _ _ h => h⟩
              · rw [if_neg e2] at hk' ⊢
                rw [a2] at hk'
                exact ⟨_, hk', rfl, rfl, rfl, fun h => h, fun _ _ h => h⟩
        · cases h
    · cases h
  · cases h
theorem sound_appX {z₀ : Bool} {q r2 : TyR} {s1 : St} {sT yT e ty : Nat} {x y : CV} {vx vy : Value} {rs : RS} (hu : (underlying sT).run P w = .ok (.slice e) w) (hq : TyOk P e q) (h1 : 1 ≤ q.size) (hby : q.bytes ≤ 100000) (hr2 : TyOk P yT r2)
    (hsrc : srcX z₀ q s r2.desc y = some (rs, s1)) (h : appX z₀ q s1 x rs = some r) (hx : VR ρ σ x vx) (hy : VR ρ σ y vy) (hH : HR ρ σ cur w) (hA : ∀ b, b ∈ r.R ∨ b ∈ r.W → cur b = s.heap.get b) (hN : ∀ b, s.next ≤ b → b < r.s.next → σ b = none) (hp : ∀ p ∈ r.s.pc, p.holds ρ) :
    ∃ v w', (Builtin.append_ #[sT, yT] ty #[vx, vy]).run P w = .ok v w' ∧ Post ρ σ cur s.next w r.val r.s r.W v w' := by
  have hpc1 : ∃ l, r.s.pc = l ++ s1.pc := by
    unfold appX at h
    simp only [Bool.cond_eq_ite] at h
    repeat' (first | (cases h; done) | split at h)
    all_goals (rename_i hm; obtain ⟨_, _, ⟨l, a3⟩, _⟩ := musts_parts (ρ := ρ) hm; cases h; exact ⟨l, by simp [St.newB, kill_pc, a3]⟩)
  obtain ⟨l1, hl1⟩ := hpc1
  obtain ⟨n1, n2, n3, hn, hlit⟩ := srcX_lit hsrc hy (fun p hp' => hp p (by rw [hl1]; simp [hp']))
  obtain ⟨hn2, _, x', r', hx', happ, eR, eW, eN, hval, hheap⟩ := appX_lit h hn hx hp
  obtain ⟨y', hy', hsE⟩ := hlit hn2
  have hsE1 : srcE q s1 r2.desc y' = some (flatR rs.row rs.n, rs.n, rs.R) := by
    rw [← hsE]
    unfold srcE St.ld
    rw [n1, n2]
  obtain ⟨v, w', e1, σ', p1, p2, p3, p4, p5⟩ := sound_append (s := s1) (cur := cur) (ty := ty) (d := r2.desc) hu hq h1 hby hr2 hsE1 happ hx' hy' hH (by rw [eR, eW, n2]; exact hA) (by rw [n1, eN]; exact hN)
  rw [n1] at p1 p3 p4 p5
  rw [eN] at p1 p3 p5
  rw [eW] at p3 p4 p5
  refine ⟨v, w', e1, σ', p1, hval _ _ p2, p3.imp ?_, p4, p5⟩
  intro b k hk
  unfold upd at hk ⊢
  split at hk
  · rename_i hb
    rw [if_pos hb]
    obtain ⟨k0, g1, g2, g3, g4, gr, g5⟩ := hheap b k hk
    exact ⟨k0, g1, g2, g3, g4, gr, g5 σ'⟩
  · rename_i hb
    rw [if_neg hb]
    exact ⟨k, hk, rfl, rfl, rfl, fun h => h, fun _ h => h⟩
theorem VR.sla_zero {b z o n : Nat} {v : Value} (h : VR ρ σ (.sla b z o n) v) (hn : ¬ 1 ≤ n) : ∃ a c', v = .slice a 0 c' := by
  obtain rfl : n = 0 := by omega
  cases h with
  | sla hl hc => exact ⟨_, _, rfl⟩
  | sla0 a c' => exact ⟨_, _, rfl⟩
theorem VR.slc_zero {b o n c : Nat} {v : Value} (h : VR ρ σ (.slc (some (b, o)) n c) v) (hn : ¬ 1 ≤ n) : ∃ a c', v = .slice a 0 c' := by
  obtain rfl : n = 0 := by omega
  cases h with
  | slc hl hc hs => exact ⟨_, _, rfl⟩
/-- An append of rows, or of nothing to nil. -/
theorem sound_appN {q r2 : TyR} {sT yT e ty : Nat} {x y : CV} {vx vy : Value} (hu : (underlying sT).run P w = .ok (.slice e) w) (hq : TyOk P e q) (h1 : 1 ≤ q.size) (hby : q.bytes ≤ 100000) (hr2 : TyOk P yT r2)
    (h : appN q s r2.desc x y = some r) (hx : VR ρ σ x vx) (hy : VR ρ σ y vy) (hH : HR ρ σ cur w) (hA : ∀ b, b ∈ r.R ∨ b ∈ r.W → cur b = s.heap.get b) (hN : ∀ b, s.next ≤ b → b < r.s.next → σ b = none) (hp : ∀ p ∈ r.s.pc, p.holds ρ) :
    ∃ v w', (Builtin.append_ #[sT, yT] ty #[vx, vy]).run P w = .ok v w' ∧ Post ρ σ cur s.next w r.val r.s r.W v w' := by
  unfold appN at h
  split at h
  · rename_i s0 hask
    have e0 : s0.next = s.next ∧ s0.heap = s.heap := by
      unfold askN at hask
      split at hask
      · exact ⟨(decide_parts (ρ := ρ) hask).1, (decide_parts (ρ := ρ) hask).2.1⟩
      · exact ⟨(decide_parts (ρ := ρ) hask).1, (decide_parts (ρ := ρ) hask).2.1⟩
      · cases hask; exact ⟨rfl, rfl⟩
    split at h
    · rename_i rs s1 hsrc
      rw [← e0.1]
      exact sound_appX (s := s0) hu hq h1 hby hr2 hsrc h hx hy hH (by rw [e0.2]; exact hA) (by rw [e0.1]; exact hN) hp
    · cases h
  · rename_i s0 hask
    cases h
    have key : (∃ e, r2.desc = .slice e) ∧ (∃ a b, x = .slc none a b) ∧ (∃ a c', vy = .slice a 0 c') ∧ s0.next = s.next := by
      unfold askN at hask
      split at hask
      · rename_i hd
        obtain ⟨a1, _, _, a4⟩ := decide_parts (ρ := ρ) hask
        have h0 := of_decide_eq_false (a4 hp)
        exact ⟨⟨_, hd⟩, ⟨_, _, rfl⟩, hy.sla_zero h0, a1⟩
      · rename_i hd
        obtain ⟨a1, _, _, a4⟩ := decide_parts (ρ := ρ) hask
        have h0 := of_decide_eq_false (a4 hp)
        exact ⟨⟨_, hd⟩, ⟨_, _, rfl⟩, hy.slx_inv.slc_zero h0, a1⟩
      · cases hask
    obtain ⟨⟨e1, hd⟩, ⟨a1, b1, rfl⟩, ⟨a, c', rfl⟩, e0⟩ := key
    generalize vx = u at hx
    cases hx
    refine ⟨_, _, append_zero_S (vs := []) hu (hq.sizeOf' w) ⟨⟨e1, by have := hr2.under w; rwa [hd] at this⟩, by simp [Builtin.lenOf], by cases a <;> simp [Builtin.firstCells, loadCells, loadCellsFrom]⟩ rfl (Nat.le_refl _), post_pure e0 .slc0 hH⟩
  · cases h
theorem VRl.one {c : CV} {l : List Value} (h : VRl ρ σ [c] l) : ∃ v, l = [v] ∧ VR ρ σ c v := by
  cases h with
  | cons h t => cases t; exact ⟨_, rfl, h⟩
theorem VRl.two {c d : CV} {l : List Value} (h : VRl ρ σ [c, d] l) : ∃ v u, l = [v, u] ∧ VR ρ σ c v ∧ VR ρ σ d u := by
  cases h with
  | cons h t => obtain ⟨u, rfl, h2⟩ := t.one; exact ⟨_, _, rfl, h, h2⟩
theorem VRl.three {c d e : CV} {l : List Value} (h : VRl ρ σ [c, d, e] l) : ∃ v u t, l = [v, u, t] ∧ VR ρ σ c v ∧ VR ρ σ d u ∧ VR ρ σ e t := by
  cases h with
  | cons h t => obtain ⟨u, t, rfl, h2, h3⟩ := t.two; exact ⟨_, _, _, rfl, h, h2, h3⟩
theorem tys_two {tys : Array TypeId} {t1 t2 : TypeId} (h1 : tys[0]? = some t1) (h2 : tys[1]? = some t2) (ty : TypeId) (args : Array Value) : Builtin.append_ tys ty args = Builtin.append_ #[t1, t2] ty args := by
  unfold Builtin.append_
  have e0 : (#[t1, t2] : Array TypeId)[0]? = some t1 := rfl
  have e1 : (#[t1, t2] : Array TypeId)[1]? = some t2 := rfl
  rw [h1, h2, e0, e1]
theorem sound_builtin {b : Builtin} {args : Array Operand} {tys : Array TypeId} (hop : o.op = .call { callee := .builtin b, args := args, argTypes := tys }) (h : opE C T s o = some r) (I : Inp P C ρ σ cur s T a w o r) : Gives P o a w (Post ρ σ cur s.next w r.val r.s r.W) := by
  obtain ⟨cns, hex⟩ := exec_builtin (P := P) (a := a) (w := w) hop
  unfold opE at h
  rw [hop] at h
  simp only [opBuiltin] at h
  split at h
  · cases h
  · rename_i vs hvs
    have hV := evs_run (σ := σ) (ρ := ρ) (a := a) (fun t ht => I.T t (by rw [hop]; simpa [Op.operands, Call.operands] using ht)) hvs
    have hargs : ∀ l : List Value, args.toList.map a.eval = l → args.map a.eval = l.toArray := by
      intro l hl
      rw [← hl, ← Array.toList_inj, Array.toList_map]
    have one : ∀ {v : Value} {c : CV} {s1 : St}, s1.next = s.next → (builtin b tys o.type cns (args.map a.eval)).run P w = .ok (.value v) w → VR ρ σ c v → Gives P o a w (Post ρ σ cur s.next w c s1 []) :=
      fun hn hr hv => gives_pure (R := []) hn I.H (hex.trans hr) hv
    split at h
    · -- len
      rename_i x
      obtain ⟨v, hl, hx⟩ := hV.one
      have ha := hargs _ hl
      split at h
      · rename_i t ht
        split at h
        · rename_i q hq
          have hu := (I.ok.ty _ _ hq).under w
          split at h
          · rename_i e p n c hd
            cases h
            rw [hd] at hu
            refine one rfl (v := .int .i64 n) ?_ (.int .i64 (.c n))
            rw [ha]
            generalize v = u at hx
            cases hx <;> simp [builtin, Builtin.len_, ht, hu, goInt]
          · rename_i e b z o n c hd
            cases h
            rw [hd] at hu
            refine one rfl (v := .int .i64 n) ?_ (.int .i64 (.x n))
            rw [ha]
            have hx := hx.slx_inv
            generalize v = u at hx
            cases hx <;> simp [builtin, Builtin.len_, ht, hu, goInt]
          · rename_i e b z o n hd
            cases h
            rw [hd] at hu
            refine one rfl (v := .int .i64 n) ?_ (.int .i64 (.x n))
            rw [ha]
            generalize v = u at hx
            cases hx <;> simp [builtin, Builtin.len_, ht, hu, goInt]
          · rename_i e e' hd
            cases h
            rw [hd] at hu
            generalize v = u at hx ha
            cases hx with
            | sln ad c' hn =>
              rename_i n
              refine one rfl (v := .int .i64 n) ?_ (by rw [← hn]; exact .int .i64 _)
              rw [ha]
              simp [builtin, Builtin.len_, ht, hu, goInt]
          · rename_i e b z N e' hd
            cases h
            rw [hd] at hu
            generalize v = u at hx ha
            cases hx with
            | slr ad c' hn hq' =>
              rename_i n
              refine one rfl (v := .int .i64 n) ?_ (by rw [← hn]; exact .int .i64 _)
              rw [ha]
              simp [builtin, Builtin.len_, ht, hu, goInt]
          · rename_i e hd
            cases h
            rw [hd] at hu
            refine one rfl (v := .int .i64 0) ?_ (.int .i64 (.c 0))
            rw [ha]
            generalize v = u at hx
            cases hx <;> simp [builtin, Builtin.len_, ht, hu, goInt]
          · rename_i n e hd
            cases h
            rw [hd] at hu
            refine one rfl (v := .int .i64 n) ?_ (.int .i64 (.c n))
            rw [ha]
            simp [builtin, Builtin.len_, ht, hu, goInt]
          · cases h
        · cases h
      · cases h
    · -- min
      rename_i k e k' f
      obtain ⟨v, u, hl, hx, hy⟩ := hV.two
      have ha := hargs _ hl
      cases hk : decide (k = k') with
      | false => rw [hk, cond_false] at h; cases h
      | true =>
        rw [hk, cond_true] at h
        obtain rfl : k = k' := by simpa using hk
        cases h
        obtain rfl := hx.int_inv
        obtain rfl := hy.int_inv
        refine one rfl (v := .int k (Ar.run .mn k (e.den ρ) (f.den ρ))) ?_ (by have := VR.int (ρ := ρ) (σ := σ) k (IE.mk .mn k e f); rwa [IE.den_mk] at this)
        rw [ha]
        simp [builtin, Builtin.min_, Builtin.min2, Ar.run]
    · -- max
      rename_i k e k' f
      obtain ⟨v, u, hl, hx, hy⟩ := hV.two
      have ha := hargs _ hl
      cases hk : decide (k = k') with
      | false => rw [hk, cond_false] at h; cases h
      | true =>
        rw [hk, cond_true] at h
        obtain rfl : k = k' := by simpa using hk
        cases h
        obtain rfl := hx.int_inv
        obtain rfl := hy.int_inv
        refine one rfl (v := .int k (Ar.run .mx k (e.den ρ) (f.den ρ))) ?_ (by have := VR.int (ρ := ρ) (σ := σ) k (IE.mk .mx k e f); rwa [IE.den_mk] at this)
        rw [ha]
        simp [builtin, Builtin.max_, Builtin.max2, Ar.run]
    · -- min of three
      rename_i k e k' f k'' g
      obtain ⟨v, u, t, hl, hx, hy, hz⟩ := hV.three
      have ha := hargs _ hl
      cases hk : decide (k = k') with
      | false => rw [hk, Bool.false_and, cond_false] at h; cases h
      | true =>
        cases hk2 : decide (k = k'') with
        | false => rw [hk, hk2, Bool.and_false, cond_false] at h; cases h
        | true =>
          rw [hk, hk2, Bool.and_true, cond_true] at h
          obtain rfl : k = k' := by simpa using hk
          obtain rfl : k = k'' := by simpa using hk2
          cases h
          obtain rfl := hx.int_inv
          obtain rfl := hy.int_inv
          obtain rfl := hz.int_inv
          refine one rfl (v := .int k (Ar.run .mn k (Ar.run .mn k (e.den ρ) (f.den ρ)) (g.den ρ))) ?_ (by have := VR.int (ρ := ρ) (σ := σ) k (IE.mk .mn k (IE.mk .mn k e f) g); rwa [IE.den_mk, IE.den_mk] at this)
          rw [ha]
          simp [builtin, Builtin.min_, Builtin.min2, Ar.run]
          try rfl
    · -- max of three
      rename_i k e k' f k'' g
      obtain ⟨v, u, t, hl, hx, hy, hz⟩ := hV.three
      have ha := hargs _ hl
      cases hk : decide (k = k') with
      | false => rw [hk, Bool.false_and, cond_false] at h; cases h
      | true =>
        cases hk2 : decide (k = k'') with
        | false => rw [hk, hk2, Bool.and_false, cond_false] at h; cases h
        | true =>
          rw [hk, hk2, Bool.and_true, cond_true] at h
          obtain rfl : k = k' := by simpa using hk
          obtain rfl : k = k'' := by simpa using hk2
          cases h
          obtain rfl := hx.int_inv
          obtain rfl := hy.int_inv
          obtain rfl := hz.int_inv
          refine one rfl (v := .int k (Ar.run .mx k (Ar.run .mx k (e.den ρ) (f.den ρ)) (g.den ρ))) ?_ (by have := VR.int (ρ := ρ) (σ := σ) k (IE.mk .mx k (IE.mk .mx k e f) g); rwa [IE.den_mk, IE.den_mk] at this)
          rw [ha]
          simp [builtin, Builtin.max_, Builtin.max2, Ar.run]
          try rfl
    · -- cap
      rename_i c1 c2
      obtain ⟨v, hl, hx⟩ := hV.one
      have ha := hargs _ hl
      split at h
      · rename_i t ht
        split at h
        · rename_i q hq
          have hu := (I.ok.ty _ _ hq).under w
          split at h
          · rename_i e hd
            cases h
            rw [hd] at hu
            refine one rfl (v := .int .i64 0) ?_ (.int .i64 (.c 0))
            rw [ha]
            generalize v = u at hx
            cases hx
            simp [builtin, Builtin.cap_, ht, hu, goInt]
          · cases h
        · cases h
      · cases h
    · -- append
      rename_i x y
      obtain ⟨v, u, hl, hx, hy⟩ := hV.two
      have ha := hargs _ hl
      split at h
      · rename_i t1 t2 ht1 ht2
        split at h
        · rename_i q1 r2 hq1 hr2
          split at h
          · rename_i e hd
            split at h
            · rename_i q hq
              cases hf : (Nat.ble 1 q.size && Nat.ble q.bytes 100000) with
              | false => rw [hf, cond_false] at h; cases h
              | true =>
                rw [hf, cond_true] at h
                simp only [Bool.and_eq_true] at hf
                cases hX : isX x y with
                | true =>
                  rw [hX, cond_true] at h
                  have hu := (I.ok.ty _ _ hq1).under w
                  rw [hd] at hu
                  obtain ⟨v', w', e1, e2⟩ := sound_appN (ty := o.type) (yT := t2) hu (I.ok.ty _ _ hq) (Nat.le_of_ble_eq_true hf.1) (Nat.le_of_ble_eq_true hf.2) (I.ok.ty _ _ hr2) h hx hy I.H I.A I.N I.pc
                  refine ⟨v', w', .inl ?_, e2⟩
                  rw [hex, ha]
                  simp only [builtin, tys_two ht1 ht2, Sem.run_bind, e1, Result.andThen, Sem.run_pure]
                | false =>
                rw [hX, cond_false] at h
                split at h
                · rename_i l n R hsrc
                  have hu := (I.ok.ty _ _ hq1).under w
                  rw [hd] at hu
                  obtain ⟨v', w', e1, e2⟩ := sound_append (ty := o.type) (yT := t2) (d := q1.desc) hu (I.ok.ty _ _ hq) (Nat.le_of_ble_eq_true hf.1) (Nat.le_of_ble_eq_true hf.2) (I.ok.ty _ _ hr2) hsrc h hx hy I.H I.A I.N
                  refine ⟨v', w', .inl ?_, e2⟩
                  rw [hex, ha]
                  simp only [builtin, tys_two ht1 ht2, Sem.run_bind, e1, Result.andThen, Sem.run_pure]
                · cases h
            · cases h
          · cases h
        · cases h
      · cases h
    · cases h
/-- ALL OPERATIONS THAT CALL NO GO FUNCTION. -/
theorem opE_sound (h : opE C T s o = some r) (I : Inp P C ρ σ cur s T a w o r) : Gives P o a w (Post ρ σ cur s.next w r.val r.s r.W) := by
  cases hop : o.op with
  | move x => exact sound_move (.inl hop) h I
  | assign x => exact sound_move (.inr hop) h I
  | pick c x y => exact sound_pick hop h I
  | alloc t => exact sound_alloc hop h I
  | box t x => exact sound_box hop h I
  | build t p => exact sound_build hop h I
  | buildSlice t n p => exact sound_buildSlice hop h I
  | load t x => exact sound_load hop h I
  | store t x y => exact sound_store hop h I
  | nilCheck x => exact sound_nilCheck hop h I
  | binOp op t x y u => exact sound_binOp hop h I
  | unOp op t x => exact sound_unOp hop h I
  | convert st dt x => exact sound_convert hop h I
  | makeFunc f x y => exact sound_makeFunc hop h I
  | makeSlice t x y => exact sound_makeSlice hop h I
  | slice t x lo hi mx =>
    cases mx with
    | none => exact sound_slice hop h I
    | some m => unfold opE at h; rw [hop] at h; cases h
  | fieldAddr t x f => exact sound_fieldAddr hop h I
  | field t x f => exact sound_field hop h I
  | indexAddr t x i => exact sound_indexAddr hop h I
  | index t x i => exact sound_index hop h I
  | extract x i => exact sound_extract hop h I
  | makeMap t r => exact sound_makeMap hop h I
  | lookup t x i ok => exact sound_lookup hop h I
  | mapUpdate t x i y => exact sound_mapUpdate (.inl hop) h I
  | insert t x i y => exact sound_mapUpdate (.inr hop) h I
  | mapEntry t x i => exact sound_mapEntry hop h I
  | entryStore t x i y => exact sound_entryStore hop h I
  | call c =>
    obtain ⟨cal, args, tys⟩ := c
    cases cal with
    | builtin b => exact sound_builtin hop h I
    | value f => unfold opE at h; rw [hop] at h; cases h
    | invoke f m => unfold opE at h; rw [hop] at h; cases h
  | _ => unfold opE at h; rw [hop] at h; cases h
end
end Go.Proofs.Ytjdldcmcjaaibaa.Cx

/- What an operation does to canonical memory: nothing but to the blocks that it names. -/
namespace Go.Proofs.Ytjdldcmcjaaibaa.Cx
set_option linter.unusedSimpArgs false
set_option linter.unusedVariables false
open Go Go.RowKit
/-- Canonical memory behind a step: as before but at W and at the new numbers; the facts of the way are more. -/
structure Frm (s s' : St) (W : List Nat) : Prop where
  next : s.next ≤ s'.next
  get : ∀ b, b ∉ W → ¬ (s.next ≤ b ∧ b < s'.next) → s'.heap.get b = s.heap.get b
  pc : ∃ l, s'.pc = l ++ s.pc
theorem Frm.refl (s : St) (W : List Nat) : Frm s s W := ⟨Nat.le_refl _, fun _ _ _ => rfl, [], rfl⟩
theorem Frm.same {s s' : St} (W : List Nat) (h1 : s'.next = s.next) (h2 : s'.heap = s.heap) (h3 : ∃ l, s'.pc = l ++ s.pc) : Frm s s' W := ⟨by omega, fun _ _ _ => by rw [h2], h3⟩
theorem Frm.new (s : St) (l : List CV) (e : Nat) (W : List Nat) : Frm s (s.new l e) W :=
  ⟨by simp [St.new], fun b _ hb => by rw [new_get, if_neg (fun h => hb (by simp [St.new]; omega))], [], rfl⟩
theorem Frm.trans {s s1 s2 : St} {W1 W2 W : List Nat} (h1 : Frm s s1 W1) (h2 : Frm s1 s2 W2) (hW1 : ∀ b ∈ W1, b ∈ W ∨ (s.next ≤ b ∧ b < s2.next)) (hW2 : ∀ b ∈ W2, b ∈ W ∨ (s.next ≤ b ∧ b < s2.next)) : Frm s s2 W := by
  obtain ⟨l1, p1⟩ := h1.pc
  obtain ⟨l2, p2⟩ := h2.pc
  have n1 := h1.next
  have n2 := h2.next
  refine ⟨Nat.le_trans n1 n2, fun b hb hn => ?_, l2 ++ l1, by rw [p2, p1, List.append_assoc]⟩
  rw [h2.get b (fun h => by rcases hW2 b h with h | h; · exact hb h
                            · exact hn h) (by omega), h1.get b (fun h => by rcases hW1 b h with h | h; · exact hb h
                                                                            · exact hn h) (by omega)]
theorem Frm.decide {s s1 : St} {e : BE} {b : Bool} (h : s.decide e = some (b, s1)) (W : List Nat) : Frm s s1 W := by
  obtain ⟨h1, h2, h3, _⟩ := decide_parts (ρ := ⟨fun _ => 0, fun _ => false⟩) h
  exact .same W h1 h2 h3
theorem Frm.conc {s s1 : St} {e : IE} {n : Int} (h : s.conc e = some (n, s1)) (W : List Nat) : Frm s s1 W := by
  obtain ⟨h1, h2, h3, _⟩ := conc_parts (ρ := ⟨fun _ => 0, fun _ => false⟩) h
  exact .same W h1 h2 h3
theorem Frm.st {s s' : St} {b o : Nat} {l : List CV} (h : s.st b o l = some s') : Frm s s' [b] := by
  obtain ⟨k, hk, _, _, _, _, _, rfl⟩ := st_parts h
  exact ⟨Nat.le_refl _, fun x hx _ => by show (s.heap.set b _).get x = _; rw [Tr.get_set, if_neg (by simpa using hx)], [], rfl⟩
theorem Frm.kill {s : St} {b : Nat} {k : Blk} (h : s.heap.get b = some k) (l : List CV) (e : Nat) : Frm s ((s.kill b).new l e) [b] :=
  ⟨by simp [St.new, kill_next], fun x hx hn => by rw [new_get, kill_next, if_neg (fun h => hn (by simp [St.new, kill_next]; omega)), kill_get h, if_neg (by simpa using hx)], [], by simp [St.new, kill_pc]⟩
theorem Frm.eqCells : ∀ {l m : List CV} {s s1 : St} {v : Bool} (W : List Nat), eqCells s l m = some (v, s1) → Frm s s1 W := by
  have two : ∀ {a b c : St} {W : List Nat}, Frm a b [] → Frm b c W → Frm a c W := fun h1 h2 => h1.trans h2 (fun b hb => by cases hb) (fun b hb => .inl hb)
  intro l
  induction l with
  | nil => intro m s s1 v W h; simp only [Cx.eqCells] at h; cases h; exact .refl _ _
  | cons c l ih =>
    intro m s s1 v W h
    cases m with
    | nil => cases c <;> simp only [Cx.eqCells] at h <;> (cases h; exact .refl _ _)
    | cons d m =>
      cases c <;> cases d <;> simp only [Cx.eqCells] at h <;> try (cases h; exact .refl _ _)
      · split at h
        · rename_i x sa hd
          split at h
          · rename_i y sb hd2
            cases hxy : (x == y) with
            | true => rw [hxy, cond_true] at h; exact two (.decide hd _) (two (.decide hd2 _) (ih W h))
            | false => rw [hxy, cond_false] at h; cases h; exact two (.decide hd _) (.decide hd2 _)
          · cases h
        · cases h
      · split at h
        · rename_i sa hd; exact two (.decide hd _) (ih W h)
        · rename_i sa hd; cases h; exact .decide hd _
        · cases h
theorem appE_frame {q : TyR} {s : St} {x : CV} {l : List CV} {n : Nat} {R : List Nat} {r : OR} {z₀ : Bool} (h : appE q s x l n R z₀ = some r) : Frm s r.s r.W := by
  unfold appE at h
  simp only [Bool.cond_eq_ite] at h
  split at h
  · split at h
    · cases h; exact .refl _ _
    · cases h; exact .new _ _ _ _
  · split at h
    · cases h; exact .refl _ _
    · cases h
  · split at h
    · split at h
      · cases h; exact .refl _ _
      · cases h
    · split at h
      · rename_i hk
        split at h
        · cases h; exact .kill hk _ _
        · cases h
      · cases h
  · cases h
theorem Frm.find {C : Ctx} {kt : TypeId} {key : CV} {es : List (CV × CV)} {i : Nat} {s s1 : St} {res : Option (Nat × CV)} (h : findE C kt key es i s = some (res, s1)) (W : List Nat) : Frm s s1 W := by
  obtain ⟨h1, h2, h3⟩ := findE_frm h
  exact .same W h1 h2 h3
theorem Frm.setX (s : St) (b : Nat) (x : BX) : Frm s (s.setX b x) [b] :=
  ⟨Nat.le_refl _, fun c hc _ => by rw [setX_get, if_neg (by simpa using hc)], [], rfl⟩
theorem Frm.findX {C : Ctx} {kt : TypeId} {key : CV} {es : List (CV × CV)} {i : Nat} {s s1 : St} {res : Option (Nat × CV)} (h : findE C kt key es i s = some (res, s1)) (b : Nat) (x : BX) : Frm s (s1.setX b x) [b] :=
  (Frm.find h []).trans (.setX s1 b x) (by simp) (fun c hc => .inl hc)
theorem sliceArr_parts {C : Ctx} {T : Tr CV} {s : St} {t : TypeId} {x : Operand} {r : OR} (h : opSliceArr C T s t x = some r) : r.s = s ∧ r.W = [] ∧ ∀ b ∈ r.R, b < s.next := by
  simp only [opSliceArr, Bool.cond_eq_ite] at h
  repeat' (first | (cases h; done) | split at h)
  rename_i hb
  simp only [Bool.and_eq_true] at hb
  cases h
  refine ⟨rfl, rfl, fun x hx => ?_⟩
  obtain rfl := List.mem_singleton.1 hx
  exact Nat.lt_of_succ_le (Nat.le_of_ble_eq_true hb.2)
theorem Frm.sliceArr {C : Ctx} {T : Tr CV} {s : St} {t : TypeId} {x : Operand} {r : OR} (h : opSliceArr C T s t x = some r) : Frm s r.s r.W := by
  obtain ⟨h1, h2, _⟩ := sliceArr_parts h
  rw [h1, h2]; exact .refl _ _
theorem sliceArrH_parts {C : Ctx} {T : Tr CV} {s : St} {t : TypeId} {x : Operand} {hi : Option Operand} {r : OR} (h : opSliceArrH C T s t x hi = some r) : (∃ e n, s.conc e = some (n, r.s)) ∧ r.W = [] ∧ ∀ b ∈ r.R, b < s.next := by
  cases hi with
  | none => simp only [opSliceArrH] at h; cases h
  | some y =>
  simp only [opSliceArrH, Bool.cond_eq_ite] at h
  repeat' (first | (cases h; done) | split at h)
  rename_i hc _ _ _ _ _ _ _ _ _ hb
  simp only [Bool.and_eq_true] at hb
  cases h
  refine ⟨⟨_, _, by assumption⟩, rfl, fun x hx => ?_⟩
  obtain rfl := List.mem_singleton.1 hx
  exact Nat.lt_of_succ_le (Nat.le_of_ble_eq_true hb.1.1.2)
theorem Frm.sliceArrH {C : Ctx} {T : Tr CV} {s : St} {t : TypeId} {x : Operand} {hi : Option Operand} {r : OR} (h : opSliceArrH C T s t x hi = some r) : Frm s r.s r.W := by
  obtain ⟨⟨e, n, h1⟩, h2, _⟩ := sliceArrH_parts h
  rw [h2]; exact .conc h1 []
theorem Frm.newX (s : St) (x : BX) (W : List Nat) : Frm s (s.newX x) W :=
  ⟨by simp [St.newX], fun b _ hb => by rw [newX_get, if_neg (fun h => hb (by simp [St.newX]; omega))], [], rfl⟩
theorem Frm.must {s s1 : St} {e : BE} (h : s.must e = some s1) (W : List Nat) : Frm s s1 W := by
  obtain ⟨h1, h2, h3, _⟩ := mustE_parts (ρ := ⟨fun _ => 0, fun _ => false⟩) h
  exact .same W h1 h2 h3
theorem Frm.place {s s1 : St} {x e : IE} {N n : Nat} (h : s.place x e N = some (n, s1)) (W : List Nat) : Frm s s1 W := by
  obtain ⟨h1, h2, h3, _⟩ := place_parts (ρ := ⟨fun _ => 0, fun _ => false⟩) h
  exact .same W h1 h2 h3
theorem Frm.musts {s s1 : St} {l : List Bool} (h : s.musts l = some s1) (W : List Nat) : Frm s s1 W := by
  obtain ⟨h1, h2, h3, _⟩ := musts_parts (ρ := ⟨fun _ => 0, fun _ => false⟩) h
  exact .same W h1 h2 h3
theorem Frm.tell {s s1 : St} {e b : BE} (h : s.tell e = some (b, s1)) (W : List Nat) : Frm s s1 W := by
  obtain ⟨h1, h2, h3, _⟩ := tell_parts (ρ := ⟨fun _ => 0, fun _ => false⟩) h
  exact .same W h1 h2 h3
theorem Frm.ldx {s s1 : St} {b z j f n : Nat} {l : List CV} (h : s.ldx b z j f n = some (l, s1)) (W : List Nat) : Frm s s1 W := by
  obtain ⟨h1, h2, h3, _⟩ := ldx_parts (ρ := ⟨fun _ => 0, fun _ => false⟩) h
  exact .same W h1 h2 h3
theorem Frm.stx {s s1 : St} {b z j f : Nat} {l : List CV} (h : s.stx b z j f l = some s1) : Frm s s1 [b] := by
  obtain ⟨m, row, hr, e, x, hk, _, _, _, h1, h2, _, h3⟩ := stx_parts (ρ := ⟨fun _ => 0, fun _ => false⟩) h
  exact ⟨by omega, fun c hc _ => by rw [h3, Tr.get_set, if_neg (by simpa using hc)], h2⟩
theorem Frm.two {s s1 s2 : St} {W : List Nat} (h1 : Frm s s1 []) (h2 : Frm s1 s2 W) : Frm s s2 W := h1.trans h2 (by simp) (fun c hc => .inl hc)
theorem Frm.concNew {s s1 s2 : St} {e e' : IE} {n m : Int} (h1 : s.conc e = some (n, s1)) (h2 : s1.conc e' = some (m, s2)) (l : List CV) (z : Nat) : Frm s (s2.new l z) [] :=
  ((Frm.conc h1 []).two (.conc h2 [])).two (.new _ _ _ _)
theorem Frm.newB (s : St) (l : BC) (e : Nat) (W : List Nat) : Frm s (s.newB l e) W :=
  ⟨by simp [St.newB], fun b _ hb => by rw [newB_get, if_neg (fun h => hb (by simp [St.newB]; omega))], [], rfl⟩
theorem Frm.killB {s : St} {b : Nat} {k : Blk} (h : s.heap.get b = some k) (l : BC) (e : Nat) : Frm s ((s.kill b).newB l e) [b] :=
  ⟨by simp [St.newB, kill_next], fun x hx hn => by rw [newB_get, kill_next, if_neg (fun h => hn (by simp [St.newB, kill_next]; omega)), kill_get h, if_neg (by simpa using hx)], [], by simp [St.newB, kill_pc]⟩
theorem cmpE_frame {s : St} {b : BE} {r : OR} (h : cmpE s b = some r) : Frm s r.s r.W := by
  unfold cmpE at h
  split at h
  · rename_i ht; cases h; exact .tell ht _
  · cases h
theorem cmpE_lt {s : St} {b : BE} {r : OR} (h : cmpE s b = some r) : r.R = [] ∧ r.W = [] := by
  unfold cmpE at h
  split at h
  · cases h; exact ⟨rfl, rfl⟩
  · cases h
theorem zrows_frame {q : TyR} {s s1 : St} {e : BE} {n : Int} {r : OR} (hm : s.must e = some s1) (h : zrows q s1 n = some r) : Frm s r.s r.W := by
  unfold zrows at h
  simp only [Bool.cond_eq_ite] at h
  repeat' (first | (cases h; done) | split at h)
  rename_i h2
  cases h
  exact (Frm.must hm []).two ((Frm.musts h2 []).two (.newB _ _ _ _))
theorem zrows_lt {q : TyR} {s : St} {n : Int} {r : OR} (h : zrows q s n = some r) : r.R = [] ∧ r.W = [] := by
  unfold zrows at h
  simp only [Bool.cond_eq_ite] at h
  repeat' (first | (cases h; done) | (cases h; exact ⟨rfl, rfl⟩) | split at h)
theorem sliceX_frame {C : Ctx} {T : Tr CV} {s : St} {t : TypeId} {x : Operand} {lo hi : Option Operand} {r : OR} (h : opSliceX C T s t x lo hi = some r) : Frm s r.s r.W := by
  simp only [opSliceX] at h
  split at h
  all_goals (repeat' (first | (cases h; done) | (cases h; exact .musts ‹_› _) | split at h | (simp only [Bool.cond_eq_ite] at h; split at h)))
theorem srcX_frame {z₀ : Bool} {q : TyR} {s s1 : St} {d : TypeDesc} {y : CV} {rs : RS} (h : srcX z₀ q s d y = some (rs, s1)) : Frm s s1 [] := by
  unfold srcX at h
  simp only [Bool.cond_eq_ite] at h
  repeat' (first | (cases h; done) | (cases h; exact .refl _ _) | (cases h; exact .musts ‹_› _) | split at h)
theorem appX_frame {z₀ : Bool} {q : TyR} {s s1 : St} {d : TypeDesc} {x y : CV} {rs : RS} {r : OR} (hs : srcX z₀ q s d y = some (rs, s1)) (h : appX z₀ q s1 x rs = some r) : Frm s r.s r.W := by
  have h0 := srcX_frame hs
  unfold appX at h
  simp only [Bool.cond_eq_ite] at h
  repeat' (first | (cases h; done) | split at h)
  · rename_i hk _ _ _ hm
    cases h
    exact h0.two ((Frm.musts hm []).two (.killB (by rw [(musts_parts (ρ := ⟨fun _ => 0, fun _ => false⟩) hm).2.1]; exact hk) _ _))
  · rename_i hm
    cases h
    exact h0.two ((Frm.musts hm []).two (.newB _ _ _ _))
  · rename_i hk _ _ _ hm
    cases h
    exact h0.two ((Frm.musts hm []).two (.killB (by rw [(musts_parts (ρ := ⟨fun _ => 0, fun _ => false⟩) hm).2.1]; exact hk) _ _))
theorem appN_frame {q : TyR} {s : St} {d : TypeDesc} {x y : CV} {r : OR} (h : appN q s d x y = some r) : Frm s r.s r.W := by
  have ask : ∀ {b : Bool} {s0 : St}, askN s d x y = some (b, s0) → Frm s s0 [] := by
    intro b s0 hask
    unfold askN at hask
    split at hask
    · exact .decide hask _
    · exact .decide hask _
    · cases hask; exact .refl _ _
  unfold appN at h
  split at h
  · rename_i s0 hask
    split at h
    · rename_i hsrc
      exact (ask hask).two (appX_frame hsrc h)
    · cases h
  · rename_i s0 hask
    cases h
    exact ask hask
  · cases h
theorem Frm.sliceS {C : Ctx} {T : Tr CV} {s s1 s2 : St} {t : TypeId} {x : Operand} {lo hi : Option Operand} {r : OR} (h : opSlice C T s2 t x lo hi = some r) (h2 : concOp T s1 hi = some s2) (h1 : concOp T s lo = some s1) : Frm s r.s r.W := by
  obtain ⟨e1, e2, _⟩ := opSlice_parts h
  rw [e1, e2]
  obtain ⟨a1, a2, a3⟩ := concOp_parts h1
  obtain ⟨b1, b2, b3⟩ := concOp_parts h2
  exact (Frm.same [] a1 a2 a3).two (.same [] b1 b2 b3)
set_option maxHeartbeats 4000000 in
theorem opE_frame {C : Ctx} {T : Tr CV} {s : St} {o : Oper} {r : OR} (h : opE C T s o = some r) : Frm s r.s r.W := by
  unfold opE at h
  split at h
  all_goals (try simp only [opMove, opPick, opAlloc, opBox, opBuild, opBuildSlice, opLoad, opStore, opNil, opBin, opBinInt, opBinBool, opBinAgg, opBinNil, opUn, opConv, opFunc, opMakeSlice, opSlices, opMakeMap, opLookup, opMapUpdate, opMapEntry, opEntryStore, opFieldAddr, opField, opIndexAddr, opIndex, opExtract, opBuiltin, Bool.cond_eq_ite] at h)
  all_goals (repeat' (first | (cases h; done) | exact .sliceS h (by assumption) (by assumption) | (cases h; exact .refl _ _) | (cases h; exact .new _ _ _ _) | (cases h; exact .concNew (by assumption) (by assumption) _ _) | (cases h; exact .decide ‹_› _) | (cases h; exact .conc ‹_› _) | (cases h; exact .place ‹_› _) | (cases h; exact .st ‹_›) | (cases h; exact .newX _ _ _) | (cases h; exact .find ‹_› _) | (cases h; exact .findX ‹_› _ _) | (cases h; exact .setX _ _ _) | (cases h; exact .sliceArr ‹_›) | (cases h; exact .sliceArrH ‹_›) | exact appE_frame h | (cases h; exact .eqCells _ ‹_›) | (cases h; exact .must ‹_› _) | (cases h; exact .musts ‹_› _) | (cases h; exact .ldx ‹_› _) | (cases h; exact .stx ‹_›) | exact cmpE_frame h | exact zrows_frame ‹_› h | exact sliceX_frame h | exact appN_frame h | split at h))
  all_goals (rename_i h1 _ _ _ h2; cases h; exact .trans (.decide h1 []) (.decide h2 []) (by simp) (by simp))
/-- The blocks that are named were there. -/
def Lts (s : St) (R W : List Nat) : Prop := (∀ b ∈ R, b < s.next) ∧ ∀ b ∈ W, b < s.next
theorem Lts.nil (s : St) : Lts s [] [] := ⟨fun b hb => (by cases hb), fun b hb => (by cases hb)⟩
theorem Lts.ld {s : St} {b o n : Nat} {l : List CV} (h : s.ld b o n = some l) : Lts s [b] [] := by
  obtain ⟨_, _, _, _, _, h⟩ := ld_parts h
  exact ⟨fun x hx => by obtain rfl : x = b := by simpa using hx
                        exact h, fun b hb => (by cases hb)⟩
theorem Lts.st {s s' : St} {b o : Nat} {l : List CV} (h : s.st b o l = some s') : Lts s [] [b] := by
  obtain ⟨_, _, _, _, _, h, _, _⟩ := st_parts h
  exact ⟨fun b hb => (by cases hb), fun x hx => by obtain rfl : x = b := by simpa using hx
                                                   exact h⟩
theorem Lts.blt {s : St} {b : Nat} (h : Nat.blt b s.next = true) : Lts s [b] [] := by
  have h := Nat.lt_of_succ_le (Nat.le_of_ble_eq_true h)
  exact ⟨fun x hx => by obtain rfl : x = b := by simpa using hx
                        exact h, fun b hb => (by cases hb)⟩
theorem Lts.ldx {s s1 : St} {b z j f n : Nat} {l : List CV} (h : s.ldx b z j f n = some (l, s1)) : Lts s [b] [] := by
  obtain ⟨_, _, _, h, _⟩ := ldx_parts (ρ := ⟨fun _ => 0, fun _ => false⟩) h
  exact ⟨fun x hx => by obtain rfl : x = b := by simpa using hx
                        exact h, fun b hb => (by cases hb)⟩
theorem Lts.stx {s s1 : St} {b z j f : Nat} {l : List CV} (h : s.stx b z j f l = some s1) : Lts s [] [b] := by
  obtain ⟨m, row, hr, e, x, hk, _, _, h, _⟩ := stx_parts (ρ := ⟨fun _ => 0, fun _ => false⟩) h
  exact ⟨fun b hb => (by cases hb), fun x hx => by obtain rfl : x = b := by simpa using hx
                                                   exact h⟩
theorem Lts.none {s : St} {r : OR} (h : r.R = [] ∧ r.W = []) : Lts s r.R r.W := by rw [h.1, h.2]; exact ⟨fun b hb => (by cases hb), fun b hb => (by cases hb)⟩
theorem sliceX_lt {C : Ctx} {T : Tr CV} {s : St} {t : TypeId} {x : Operand} {lo hi : Option Operand} {r : OR} (h : opSliceX C T s t x lo hi = some r) : r.R = [] ∧ r.W = [] := by
  simp only [opSliceX] at h
  split at h
  all_goals (repeat' (first | (cases h; done) | (cases h; exact ⟨rfl, rfl⟩) | split at h | (simp only [Bool.cond_eq_ite] at h; split at h)))
theorem srcX_lt {z₀ : Bool} {q : TyR} {s s1 : St} {d : TypeDesc} {y : CV} {rs : RS} (h : srcX z₀ q s d y = some (rs, s1)) : ∀ b ∈ rs.R, b < s.next := by
  unfold srcX at h
  simp only [Bool.cond_eq_ite] at h
  repeat' (first | (cases h; done) | split at h)
  · rename_i hb _ _ _
    simp only [Bool.and_eq_true] at hb
    cases h
    intro x hx
    obtain rfl := List.mem_singleton.1 hx
    exact Nat.lt_of_succ_le (Nat.le_of_ble_eq_true hb.2)
  · rename_i hb _ _ _
    simp only [Bool.and_eq_true] at hb
    cases h
    intro x hx
    obtain rfl := List.mem_singleton.1 hx
    exact Nat.lt_of_succ_le (Nat.le_of_ble_eq_true hb.2)
  · rename_i hb _ _ _
    simp only [Bool.and_eq_true] at hb
    cases h
    intro x hx
    obtain rfl := List.mem_singleton.1 hx
    exact Nat.lt_of_succ_le (Nat.le_of_ble_eq_true hb.2)
  · rename_i hb _ _ _
    simp only [Bool.and_eq_true] at hb
    cases h
    intro x hx
    obtain rfl := List.mem_singleton.1 hx
    exact Nat.lt_of_succ_le (Nat.le_of_ble_eq_true hb.2)
  · rename_i hl _ _
    cases h
    exact (Lts.ld hl).1
theorem appX_lt {z₀ : Bool} {q : TyR} {s s1 : St} {d : TypeDesc} {x y : CV} {rs : RS} {r : OR} (hs : srcX z₀ q s d y = some (rs, s1)) (h : appX z₀ q s1 x rs = some r) : Lts s r.R r.W := by
  have h0 := srcX_lt hs
  have hn : s1.next = s.next := by
    unfold srcX at hs
    simp only [Bool.cond_eq_ite] at hs
    repeat' (first | (cases hs; done) | (cases hs; rfl) | (cases hs; exact (musts_parts (ρ := ⟨fun _ => 0, fun _ => false⟩) ‹_›).1) | split at hs)
  have two : ∀ {b : Nat}, Nat.blt b s1.next = true → Lts s (b :: rs.R) [b] := fun {b} hb => by
    have hb : b < s.next := by rw [← hn]; exact Nat.lt_of_succ_le (Nat.le_of_ble_eq_true hb)
    exact ⟨fun x hx => by rcases List.mem_cons.1 hx with rfl | hx; · exact hb
                          exact h0 x hx, fun x hx => by obtain rfl := List.mem_singleton.1 hx
                                                        exact hb⟩
  unfold appX at h
  simp only [Bool.cond_eq_ite] at h
  repeat' (first | (cases h; done) | split at h)
  · rename_i hb _ _ _
    simp only [Bool.and_eq_true] at hb
    cases h
    exact two hb.2
  · cases h
    exact ⟨h0, fun b hb => by cases hb⟩
  · rename_i hb _ _ _
    simp only [Bool.and_eq_true] at hb
    cases h
    exact two hb.2
theorem appN_lt {q : TyR} {s : St} {d : TypeDesc} {x y : CV} {r : OR} (h : appN q s d x y = some r) : Lts s r.R r.W := by
  unfold appN at h
  split at h
  · rename_i s0 hask
    have e0 : s0.next = s.next := by
      unfold askN at hask
      split at hask
      · exact (decide_parts (ρ := ⟨fun _ => 0, fun _ => false⟩) hask).1
      · exact (decide_parts (ρ := ⟨fun _ => 0, fun _ => false⟩) hask).1
      · cases hask; rfl
    split at h
    · rename_i hsrc
      have := appX_lt hsrc h
      exact ⟨fun b hb => by rw [← e0]; exact this.1 b hb, fun b hb => by rw [← e0]; exact this.2 b hb⟩
    · cases h
  · cases h
    exact ⟨fun b hb => (by cases hb), fun b hb => (by cases hb)⟩
  · cases h
theorem Lts.getX {s : St} {b : Nat} {x : BX} (h : s.getX b = some x) : Lts s [b] [] := by
  obtain ⟨_, _, _, h⟩ := getX_parts h
  exact ⟨fun x hx => by obtain rfl : x = b := by simpa using hx
                        exact h, fun b hb => (by cases hb)⟩
theorem Lts.sliceArr {C : Ctx} {T : Tr CV} {s : St} {t : TypeId} {x : Operand} {r : OR} (h : opSliceArr C T s t x = some r) : Lts s r.R r.W := by
  obtain ⟨_, h2, h3⟩ := sliceArr_parts h
  rw [h2]; exact ⟨h3, fun b hb => by cases hb⟩
theorem Lts.sliceArrH {C : Ctx} {T : Tr CV} {s : St} {t : TypeId} {x : Operand} {hi : Option Operand} {r : OR} (h : opSliceArrH C T s t x hi = some r) : Lts s r.R r.W := by
  obtain ⟨_, h2, h3⟩ := sliceArrH_parts h
  rw [h2]; exact ⟨h3, fun b hb => by cases hb⟩
theorem Lts.getX2 {s : St} {b : Nat} {x : BX} (h : s.getX b = some x) : Lts s [b] [b] := ⟨(Lts.getX h).1, (Lts.getX h).1⟩
theorem srcE_lt {q : TyR} {s : St} {d : TypeDesc} {y : CV} {l : List CV} {n : Nat} {R : List Nat} (h : srcE q s d y = some (l, n, R)) : ∀ b ∈ R, b < s.next := by
  unfold srcE at h
  simp only [Bool.cond_eq_ite] at h
  split at h
  · split at h
    · cases h; intro b hb; cases hb
    · cases h
  · cases h; intro b hb; cases hb
  · cases h; intro b hb; cases hb
  · split at h
    · rename_i hl
      split at h
      · cases h; exact (Lts.ld hl).1
      · cases h
    · cases h
  · split at h
    · rename_i hl
      split at h
      · cases h; exact (Lts.ld hl).1
      · cases h
    · cases h
  · cases h
theorem appE_lt {q : TyR} {s : St} {x : CV} {l : List CV} {n : Nat} {R : List Nat} {r : OR} {z₀ : Bool} (h : appE q s x l n R z₀ = some r) (hR : ∀ b ∈ R, b < s.next) : Lts s r.R r.W := by
  have none' : ∀ b ∈ ([] : List Nat), b < s.next := fun b hb => (by cases hb)
  unfold appE at h
  simp only [Bool.cond_eq_ite] at h
  split at h
  · split at h
    · cases h; exact ⟨hR, none'⟩
    · cases h; exact ⟨hR, none'⟩
  · split at h
    · cases h; exact ⟨hR, none'⟩
    · cases h
  · rename_i b o m c
    split at h
    · split at h
      · cases h; exact ⟨hR, none'⟩
      · cases h
    · split at h
      · rename_i hl hk
        split at h
        · cases h
          have hb := (Lts.ld hl).1 b (by simp)
          exact ⟨fun x hx => by rcases List.mem_cons.1 hx with rfl | hx; · exact hb
                                exact hR x hx, fun x hx => by obtain rfl : x = b := by simpa using hx
                                                              exact hb⟩
        · cases h
      · cases h
  · cases h
theorem Lts.sliceS {C : Ctx} {T : Tr CV} {s s1 s2 : St} {t : TypeId} {x : Operand} {lo hi : Option Operand} {r : OR} (h : opSlice C T s2 t x lo hi = some r) (h2 : concOp T s1 hi = some s2) (h1 : concOp T s lo = some s1) : Lts s r.R r.W := by
  obtain ⟨e1, e2, e3⟩ := opSlice_parts h
  obtain ⟨a1, _⟩ := concOp_parts h1
  obtain ⟨b1, _⟩ := concOp_parts h2
  rw [e2]
  exact ⟨fun b hb => by have := e3 b hb; rw [b1, a1] at this; exact this, fun b hb => by cases hb⟩
set_option maxHeartbeats 4000000 in
theorem opE_lt {C : Ctx} {T : Tr CV} {s : St} {o : Oper} {r : OR} (h : opE C T s o = some r) : Lts s r.R r.W := by
  unfold opE at h
  split at h
  all_goals (try simp only [opMove, opPick, opAlloc, opBox, opBuild, opBuildSlice, opLoad, opStore, opNil, opBin, opBinInt, opBinBool, opBinAgg, opBinNil, opUn, opConv, opFunc, opMakeSlice, opSlices, opMakeMap, opLookup, opMapUpdate, opMapEntry, opEntryStore, opFieldAddr, opField, opIndexAddr, opIndex, opExtract, opBuiltin, Bool.cond_eq_ite] at h)
  all_goals (repeat' (first | (cases h; done) | exact .sliceS h (by assumption) (by assumption) | (cases h; exact .nil _) | (cases h; exact .ld ‹_›) | (cases h; exact .st ‹_›) | (cases h; exact .getX ‹_›) | (cases h; exact .getX2 ‹_›) | (cases h; exact .sliceArr ‹_›) | (cases h; exact .sliceArrH ‹_›) | exact appE_lt h (srcE_lt ‹_›) | (cases h; exact .ldx ‹_›) | (cases h; exact .stx ‹_›) | exact .none (cmpE_lt h) | exact .none (zrows_lt h) | exact .none (sliceX_lt h) | exact appN_lt h | split at h))
  all_goals (rename_i hb; simp only [Bool.and_eq_true] at hb; cases h; exact .blt hb.2)
end Go.Proofs.Ytjdldcmcjaaibaa.Cx

/- What holds at the points of a function's run; what the evaluator's word on a statement says. -/
namespace Go.Proofs.Ytjdldcmcjaaibaa.Cx
set_option linter.unusedSimpArgs false
set_option linter.unusedVariables false
open Go Go.RowKit
/-- The fence that lets all in, of an activation or of a round. -/
def fc (r : Option Nat) : Fence := { fn := fun _ => True, depth := none, alive := false, round := r }
theorem callsIn_fc {r r' : Option Nat} {n : Nat} {P : Program} {f : FuncId} {args : Array Value} {w : World} {R : Ending → World → Prop} (h : CallsIn (fc r) n P f args w R) : CallsIn (fc r') n P f args w R := h
/-- Canonical memory behind a step that may also have written to its own numbers from base on. -/
structure FrmB (base : Nat) (s s' : St) (W : List Nat) : Prop where
  next : s.next ≤ s'.next
  get : ∀ b, b ∉ W → ¬ (base ≤ b ∧ b < s'.next) → s'.heap.get b = s.heap.get b
  pc : ∃ l, s'.pc = l ++ s.pc
theorem Frm.toB {s s' : St} {W : List Nat} (h : Frm s s' W) : FrmB s.next s s' W := ⟨h.next, h.get, h.pc⟩
/-- What holds at a point of a function's run, measured at its start. -/
structure Inv (ρ : Env) (σ : Mp) (cur : Cur) (base : Nat) (W : List Nat) (n0 : Nat) (w0 : World) (s : St) (σ' : Mp) (w : World) : Prop where
  ext : Ext σ σ' n0 s.next
  H : HR ρ σ' (upd cur base s.next s.heap W) w
  K : Keeps σ base W w0 w
  F : Fresh σ σ' n0 s.next base W w0
theorem Inv.start {ρ : Env} {σ : Mp} {cur : Cur} {base : Nat} {W : List Nat} {w : World} {s : St} (hH : HR ρ σ cur w) (hA : ∀ b, b ∈ W ∨ (base ≤ b ∧ b < s.next) → cur b = s.heap.get b) : Inv ρ σ cur base W s.next w s σ w := by
  refine ⟨Ext.refl _ _ _, ?_, Keeps.refl _ _ _ _, Fresh.none _ _ _ _ _ _⟩
  have : upd cur base s.next s.heap W = cur := by
    funext b
    unfold upd
    split
    · rename_i h; exact (hA b h).symm
    · rfl
  rw [this]; exact hH
/-- One step more. -/
theorem Inv.step {ρ : Env} {σ σ1 σ2 : Mp} {cur : Cur} {base base2 n0 : Nat} {W W2 : List Nat} {w0 w1 w2 : World} {s1 s2 : St} (h : Inv ρ σ cur base W n0 w0 s1 σ1 w1) (hn0 : n0 ≤ s1.next) (hb : base ≤ base2) (hb2 : base2 ≤ s1.next)
    (hW : ∀ b ∈ W2, b ∈ W ∨ (base ≤ b ∧ b < s1.next)) (hf : FrmB base2 s1 s2 W2) (he : Ext σ1 σ2 s1.next s2.next) (hH : HR ρ σ2 (upd (upd cur base s1.next s1.heap W) base2 s2.next s2.heap W2) w2)
    (hK : Keeps σ1 base2 W2 w1 w2) (hF : Fresh σ1 σ2 s1.next s2.next base2 W2 w1) : Inv ρ σ cur base W n0 w0 s2 σ2 w2 := by
  have hn := hf.next
  have old : ∀ b l, (b ∈ W2 ∨ base2 ≤ b) → σ1 b = some l → w0.heap.size ≤ l.blk ∨ ∃ b0, (b0 ∈ W ∨ base ≤ b0) ∧ ∃ l0, σ b0 = some l0 ∧ l0.blk = l.blk := by
    intro b l hb' hl
    by_cases hr : n0 ≤ b ∧ b < s1.next
    · exact h.F b l hr.1 hr.2 hl
    · rw [h.ext b (by omega)] at hl
      refine .inr ⟨b, ?_, l, hl, rfl⟩
      rcases hb' with hb' | hb'
      · rcases hW b hb' with h | h
        · exact .inl h
        · exact .inr h.1
      · exact .inr (by omega)
  refine ⟨fun b hb' => ?_, ?_, ⟨hK.os.trans h.K.os, hK.tape.trans h.K.tape, hK.output.trans h.K.output, Nat.le_trans h.K.size hK.size, fun k hk hne => ?_, fun k r hr => (h.K.loops k r hr).elim fun r1 h1 => hK.loops k r1 h1, fun k hr => hK.defd k (h.K.defd k hr)⟩, fun b l h1 h2 h3 => ?_⟩
  · rw [he b (by omega), h.ext b (by omega)]
  · have : upd (upd cur base s1.next s1.heap W) base2 s2.next s2.heap W2 = upd cur base s2.next s2.heap W := by
      funext b
      by_cases c1 : b ∈ W2 ∨ (base2 ≤ b ∧ b < s2.next)
      · have c2 : b ∈ W ∨ (base ≤ b ∧ b < s2.next) := by
          rcases c1 with c1 | c1
          · rcases hW b c1 with h | h
            · exact .inl h
            · exact .inr (by omega)
          · exact .inr (by omega)
        show (if b ∈ W2 ∨ (base2 ≤ b ∧ b < s2.next) then _ else _) = (if b ∈ W ∨ (base ≤ b ∧ b < s2.next) then _ else _)
        rw [if_pos c1, if_pos c2]
      · show (if b ∈ W2 ∨ (base2 ≤ b ∧ b < s2.next) then _ else (if b ∈ W ∨ (base ≤ b ∧ b < s1.next) then _ else _)) = (if b ∈ W ∨ (base ≤ b ∧ b < s2.next) then _ else _)
        rw [if_neg c1]
        by_cases c2 : b ∈ W ∨ (base ≤ b ∧ b < s1.next)
        · rw [if_pos c2, if_pos (by rcases c2 with c2 | c2; · exact .inl c2
                                    · exact .inr (by omega))]
          exact (hf.get b (fun h => c1 (.inl h)) (fun h => c1 (.inr h))).symm
        · rw [if_neg c2, if_neg]
          rintro (c3 | c3)
          · exact c2 (.inl c3)
          · exact c1 (.inr (by have : ¬ (b < s1.next) := fun h => c2 (.inr ⟨c3.1, h⟩); omega))
    rw [← this]; exact hH
  · rw [hK.block k (by have := h.K.size; omega) (fun b hb' l hl e => ?_), h.K.block k hk hne]
    rcases old b l hb' hl with h1 | ⟨b0, h0, l0, h1, h2⟩
    · omega
    · exact hne b0 h0 l0 h1 (h2.trans e)
  · by_cases hr : b < s1.next
    · rw [he b (by omega)] at h3
      exact h.F b l h1 hr h3
    · rcases hF b l (by omega) h2 h3 with h4 | ⟨b0, h0, l0, h5, h6⟩
      · exact .inl (by have := h.K.size; omega)
      · rcases old b0 l0 h0 h5 with h7 | ⟨b1, h8, l1, h9, h10⟩
        · exact .inl (by omega)
        · exact .inr ⟨b1, h8, l1, h9, h10.trans h6⟩
theorem Inv.weaken {ρ : Env} {σ σ' : Mp} {cur : Cur} {base n0 : Nat} {W1 W : List Nat} {w0 w : World} {s : St} (h : Inv ρ σ cur base W1 n0 w0 s σ' w) (hs : ∀ b ∈ W1, b ∈ W) (hA : ∀ b ∈ W, b ∉ W1 → ¬ (base ≤ b ∧ b < s.next) → cur b = s.heap.get b) : Inv ρ σ cur base W n0 w0 s σ' w := by
  refine ⟨h.ext, ?_, ⟨h.K.os, h.K.tape, h.K.output, h.K.size, fun k hk hne => h.K.block k hk (fun b hb => hne b (hb.imp (hs b) id)), h.K.loops, h.K.defd⟩, fun b l h1 h2 h3 => ?_⟩
  · have : upd cur base s.next s.heap W1 = upd cur base s.next s.heap W := by
      funext b
      show (if b ∈ W1 ∨ (base ≤ b ∧ b < s.next) then _ else _) = (if b ∈ W ∨ (base ≤ b ∧ b < s.next) then _ else _)
      by_cases c1 : b ∈ W1 ∨ (base ≤ b ∧ b < s.next)
      · rw [if_pos c1, if_pos (c1.imp (hs b) id)]
      · rw [if_neg c1]
        by_cases c2 : b ∈ W
        · rw [if_pos (.inl c2)]; exact hA b c2 (fun h => c1 (.inl h)) (fun h => c1 (.inr h))
        · rw [if_neg (fun h => h.elim c2 (fun h => c1 (.inr h)))]
    rw [← this]; exact h.H
  · rcases h.F b l h1 h2 h3 with h4 | ⟨b0, h5, h6⟩
    · exact .inl h4
    · exact .inr ⟨b0, h5.imp (hs b0) id, h6⟩
theorem join_mem {base : Nat} : ∀ {l m : List Nat} {b : Nat}, b ∈ join base l m ↔ (b ∈ l ∧ b < base) ∨ b ∈ m
  | [], m, b => by simp [join]
  | x :: l, m, b => by
    have hins : ∀ (y : Nat) (L : List Nat), b ∈ ins y L ↔ b = y ∨ b ∈ L := by
      intro y L
      unfold ins
      by_cases h : L.any (Nat.beq y) = true
      · rw [h, cond_true]
        have : y ∈ L := by
          obtain ⟨z, hz, hz2⟩ := List.any_eq_true.1 h
          rw [Nat.eq_of_beq_eq_true hz2]; exact hz
        constructor
        · exact .inr
        · rintro (rfl | h)
          · exact this
          · exact h
      · rw [Bool.not_eq_true] at h; rw [h, cond_false]; simp
    simp only [join]
    by_cases hx : Nat.blt x base = true
    · rw [hx, cond_true, hins, join_mem]
      have : x < base := Nat.lt_of_succ_le (Nat.le_of_ble_eq_true hx)
      constructor
      · rintro (rfl | h | h)
        · exact .inl ⟨by simp, this⟩
        · exact .inl ⟨by simp [h.1], h.2⟩
        · exact .inr h
      · rintro (⟨h, hb⟩ | h)
        · rcases List.mem_cons.1 h with rfl | h
          · exact .inl rfl
          · exact .inr (.inl ⟨h, hb⟩)
        · exact .inr (.inr h)
    · rw [Bool.not_eq_true] at hx
      rw [hx, cond_false, join_mem]
      have : ¬ x < base := fun h => by
        have : Nat.blt x base = true := Nat.ble_eq_true_of_le h
        rw [this] at hx; cases hx
      constructor
      · rintro (⟨h, hb⟩ | h)
        · exact .inl ⟨by simp [h], hb⟩
        · exact .inr h
      · rintro (⟨h, hb⟩ | h)
        · rcases List.mem_cons.1 h with rfl | h
          · exact absurd hb this
          · exact .inl ⟨h, hb⟩
        · exact .inr h
/-- The temporaries of a frame, and that no call waits for its end. -/
def FRn (ρ : Env) (σ : Mp) (nt : Nat) (T : Tr CV) (a0 a : Act) : Prop := a.tmps.size = nt ∧ FR ρ σ T a ∧ a.defers = a0.defers
theorem FRn.put {ρ : Env} {σ σ' : Mp} {nt : Nat} {T T' : Tr CV} {a0 a : Act} {d : Option Tmp} {c : CV} {v : Value} (h : FRn ρ σ nt T a0 a) (hl : σ.le σ') (hp : putT nt T d c = some T') (hv : VR ρ σ' c v) : FRn ρ σ' nt T' a0 (a.put d v) := by
  obtain ⟨h1, h2, h3⟩ := h
  cases d with
  | none => simp only [putT] at hp; cases hp; exact ⟨h1, fun t => (h2 t).mono hl, h3⟩
  | some d =>
    simp only [putT] at hp
    by_cases hd : Nat.blt d nt = true
    · rw [hd, cond_true] at hp
      cases hp
      have hlt : d < a.tmps.size := by rw [h1]; exact Nat.lt_of_succ_le (Nat.le_of_ble_eq_true hd)
      refine ⟨by simp [Act.put, h1], fun t => ?_, h3⟩
      simp only [rd, Tr.get_set, Act.put]
      by_cases e : t = d
      · subst e
        simp only [if_true]
        rw [Array.getD_eq_getD_getElem?, Array.getElem?_setIfInBounds_self_of_lt hlt]
        exact hv
      · rw [if_neg e, Array.getD_eq_getD_getElem?, Array.getElem?_setIfInBounds_ne (fun h => e h.symm), ← Array.getD_eq_getD_getElem?]
        exact (h2 t).mono hl
    · rw [Bool.not_eq_true] at hd; rw [hd, cond_false] at hp; cases hp
theorem Inv.le {ρ : Env} {σ σ' : Mp} {cur : Cur} {base n0 : Nat} {W : List Nat} {w0 w : World} {s : St} (h : Inv ρ σ cur base W n0 w0 s σ' w) (hN : ∀ b, n0 ≤ b → b < s.next → σ b = none) : σ.le σ' := h.ext.le hN
/-- The marks of ranges over functions among a frame's deferred calls, in the order in which they came. -/
def Marks (d0 : List Deferred) (w0 : World) (d : List Deferred) (w : World) : Prop :=
  ∃ l : List Nat, d = l.map (fun D => { target := .collected D, args := #[] }) ++ d0 ∧ l.Nodup ∧ ∀ D ∈ l, w0.heap.size ≤ D ∧ w.heap[D]? = some (.deferred (some []))
theorem Marks.refl (d0 : List Deferred) (w0 w : World) : Marks d0 w0 d0 w := ⟨[], rfl, List.nodup_nil, fun D h => by cases h⟩
theorem Marks.trans {d0 d1 d2 : List Deferred} {w0 w1 w2 : World} (h1 : Marks d0 w0 d1 w1) (hs : w0.heap.size ≤ w1.heap.size) (hd : ∀ (k : Nat), w1.heap[k]? = some (.deferred (some [])) → w2.heap[k]? = some (.deferred (some []))) (h2 : Marks d1 w1 d2 w2) : Marks d0 w0 d2 w2 := by
  obtain ⟨l1, rfl, n1, m1⟩ := h1
  obtain ⟨l2, rfl, n2, m2⟩ := h2
  refine ⟨l2 ++ l1, by simp, ?_, fun D hD => ?_⟩
  · rw [List.nodup_append]
    refine ⟨n2, n1, fun a ha b hb e => ?_⟩
    subst e
    have h1 := (m2 a ha).1
    have h2 := (Array.getElem?_eq_some_iff.1 (m1 a hb).2).1
    omega
  · rcases List.mem_append.1 hD with h | h
    · exact ⟨Nat.le_trans hs (m2 D h).1, (m2 D h).2⟩
    · exact ⟨(m1 D h).1, hd D (m1 D h).2⟩
/-- The temporaries of a frame; its deferred calls are those that it had, and marks. -/
def FRc (ρ : Env) (σ : Mp) (nt : Nat) (T : Tr CV) (a0 a : Act) (w0 w : World) : Prop := a.tmps.size = nt ∧ FR ρ σ T a ∧ Marks a0.defers w0 a.defers w
theorem FRn.marks {ρ : Env} {σ : Mp} {nt : Nat} {T : Tr CV} {a0 a : Act} (h : FRn ρ σ nt T a0 a) (w0 w : World) : FRc ρ σ nt T a0 a w0 w := ⟨h.1, h.2.1, by rw [h.2.2]; exact .refl _ _ _⟩
theorem FRc.self {ρ : Env} {σ : Mp} {nt : Nat} {T : Tr CV} {a0 a : Act} {w0 w : World} (h : FRc ρ σ nt T a0 a w0 w) : FRn ρ σ nt T a a := ⟨h.1, h.2.1, rfl⟩
/-- What is left behind a region. -/
def PostR (ρ : Env) (σ : Mp) (cur : Cur) (base : Nat) (s : St) (w : World) (nt : Nat) (T' : Tr CV) (s' : St) (W : List Nat) (a0 : Act) (a' : Act) (w' : World) : Prop :=
  ∃ σ', Inv ρ σ cur base W s.next w s' σ' w' ∧ FRn ρ σ' nt T' a0 a'
/-- What is left behind a statement. -/
def PostC (ρ : Env) (σ : Mp) (cur : Cur) (base : Nat) (s : St) (w : World) (nt : Nat) (T' : Tr CV) (s' : St) (W : List Nat) (a0 : Act) (a' : Act) (w' : World) : Prop :=
  ∃ σ', Inv ρ σ cur base W s.next w s' σ' w' ∧ FRc ρ σ' nt T' a0 a' w w'
theorem PostR.toC {ρ : Env} {σ : Mp} {cur : Cur} {base : Nat} {s : St} {w : World} {nt : Nat} {T' : Tr CV} {s' : St} {W : List Nat} {a0 a' : Act} {w' : World} (h : PostR ρ σ cur base s w nt T' s' W a0 a' w') : PostC ρ σ cur base s w nt T' s' W a0 a' w' := by
  obtain ⟨σ', h1, h2⟩ := h
  exact ⟨σ', h1, h2.marks _ _⟩
def Ex.conv : Ex → Exit
  | .normal => .normal
  | .exit i => .exit i
  | .ret => .ret
/-- A loop by its rounds, any other statement as it is. -/
def wpL (m : Nat) (ro : Option Nat) (n : Nat) (P : Program) (c : Code) (Q : Exit → Act → World → Prop) (a : Act) (w : World) : Prop :=
  match c with
  | .loop b => Code.roundsIn (fc ro) n P b Q m a w
  | c => c.wpIn (fc ro) n P Q a w
theorem wpL.wpIn {m : Nat} {ro : Option Nat} {n : Nat} {P : Program} {c : Code} {Q : Exit → Act → World → Prop} {a : Act} {w : World} (h : wpL m ro n P c Q a w) : c.wpIn (fc ro) n P Q a w := by
  cases c <;> first | exact wpIn_loop_rounds m h | exact h
/-- The evaluator's word on a statement. -/
structure CodeOk (P : Program) (ρ : Env) (m base : Nat) (c : Code) (nt : Nat) (T : Tr CV) (s : St) (e : Ex) (T' : Tr CV) (s' : St) (R W : List Nat) : Prop where
  frm : FrmB base s s' W
  lt : ∀ b, b ∈ R ∨ b ∈ W → b < base
  run : regsOk c = true → ∀ (Wt : List Nat) (ro : Option Nat) (n : Nat) (Q : Exit → Act → World → Prop) (σ : Mp) (cur : Cur) (w : World) (a0 a : Act), (∀ b ∈ W, b ∈ Wt) → (∀ b ∈ Wt, b < base) → (∀ p ∈ s'.pc, p.holds ρ) → (∀ l, ro = some l → ∃ r, w.heap[l]? = some (.loop r)) → HR ρ σ cur w → (∀ b, b ∈ R ∨ b ∈ Wt ∨ (base ≤ b ∧ b < s.next) → cur b = s.heap.get b) →
    (∀ b, s.next ≤ b → b < s'.next → σ b = none) → FRn ρ σ nt T a0 a → (∀ a' w', PostC ρ σ cur base s w nt T' s' Wt a0 a' w' → Q e.conv a' w') → wpL m ro n P c Q a w
end Go.Proofs.Ytjdldcmcjaaibaa.Cx

/- One operation of a region, wanted or not, a call of a Go function included. -/
namespace Go.Proofs.Ytjdldcmcjaaibaa.Cx
set_option linter.unusedSimpArgs false
set_option linter.unusedVariables false
open Go Go.RowKit
/-- A call's end: a value, and what it left behind. -/
def Ret (R : Value → World → Prop) (e : Ending) (w : World) : Prop := ∃ v, e = .returned v ∧ R v w
/-- The evaluator's word on a call holds. -/
structure CallOk (P : Program) (C : Ctx) (ρ : Env) (f : Nat) (args : List CV) (s : St) (c : CV) (s' : St) (R W : List Nat) : Prop where
  fn : ∃ fn, C.fn f = some fn ∧ fn.body.isSome = true
  frm : Frm s s' W
  lt : Lts s R W
  run : ∀ (n : Nat) (σ : Mp) (cur : Cur) (w : World) (args' : Array Value), (∀ p ∈ s'.pc, p.holds ρ) → VRl ρ σ args args'.toList → HR ρ σ cur w → (∀ b, b ∈ R ∨ b ∈ W → cur b = s.heap.get b) →
    (∀ b, s.next ≤ b → b < s'.next → σ b = none) → CallsIn (fc none) n P f args' w (Ret (Post ρ σ cur s.next w c s' W))
/-- The calls that are known are as they are said to be. -/
def MemoOk (P : Program) (C : Ctx) (ρ : Env) : Prop :=
  ∀ f args s c s' R W, C.memo f args s = some (c, s', R, W) → CallOk P C ρ f args s c s' R W
/-- The evaluator's word on calls and on statements that begin at their own numbers holds. -/
structure SelfOk (P : Program) (C : Ctx) (ρ : Env) (sf : Task → St → Option Out) : Prop where
  call : ∀ f args s c s' R W, sf (.call f args) s = some ⟨.val c, s', R, W⟩ → CallOk P C ρ f args s c s' R W
  code : ∀ c nt T s e T' s' R W, sf (.code c nt T) s = some ⟨.code e T', s', R, W⟩ → ∃ m, CodeOk P ρ m s.next c nt T s e T' s' R W
structure CtxOk2 (P : Program) (C : Ctx) : Prop extends CtxOk P C where
  fn : ∀ f fn, C.fn f = some fn → P.funcs[f]? = some fn ∧ (fn.name == "runtime.NumGoroutine") = false
  mixed : P.follows .mixedOrders = true
theorem callFunc_run {P : Program} {C : Ctx} (hC : CtxOk2 P C) {f : Nat} {fn : Func} (h : C.fn f = some fn) (hb : fn.body.isSome = true) (args : Array Value) (w : World) : (callFunc f args).run P w = .ok (.enter f args) w := by
  obtain ⟨h1, h2⟩ := hC.fn f fn h
  have h3 : fn.body.isNone = false := by cases hb' : fn.body <;> simp_all
  simp only [callFunc, Sem.run_bind]
  show (Result.andThen (Result.ok P w) _) = _
  simp only [Result.andThen, h1, h2, h3, Bool.false_eq_true, if_false, Sem.run_pure]
section
variable {P : Program} {C : Ctx} {ρ : Env} {σ : Mp} {cur : Cur} {s : St} {T : Tr CV} {a : Act} {w : World} {o : Oper} {r : OR} {ops : Array Oper} {self : Task → St → Option Out} {ro : Option Nat} {n : Nat} {Q : Exit → Act → World → Prop} {K : Act → World → Prop}
/-- The temporaries that an operation looks at. -/
def Looks (ρ : Env) (σ : Mp) (T : Tr CV) (a : Act) (ops : Array Oper) (o : Oper) : Prop := ∀ t, t ∈ o.looksAt ops → VR ρ σ (rd T t) (a.tmps.getD t Go.undef)
theorem Looks.reads (h : Looks ρ σ T a ops o) : Reads ρ σ T a o.op.operands.toList := fun t ht =>
  h t (List.mem_append_left _ (List.mem_filterMap.2 ⟨.tmp t, ht, rfl⟩))
theorem getD_bool {l : Array Value} {t : Nat} {b : Bool} (h : l.getD t Go.undef = .bool b) : l[t]? = some (.bool b) := by
  rw [Array.getD_eq_getD_getElem?] at h
  cases hl : l[t]? with
  | none => rw [hl] at h; cases h
  | some v => rw [hl] at h; simp at h; rw [h]
theorem wants_run {v : Bool} {s1 : St} (h : wants ops T s o = some (v, s1)) (hL : Looks ρ σ T a ops o) (hp : ∀ p ∈ s1.pc, p.holds ρ) : Region.wanted o (yielded ops a.tmps) = v := by
  unfold wants at h
  unfold Region.wanted
  cases hg : o.guard with
  | none => rw [hg] at h; simp only at h ⊢; cases h; rfl
  | some g =>
    obtain ⟨j, want⟩ := g
    rw [hg] at h
    simp only at h ⊢
    unfold yielded
    split at h
    · rename_i hd; cases h; simp [hd]
    · rename_i t hd
      rw [hd]
      have hv : VR ρ σ (rd T t) (a.tmps.getD t Go.undef) := hL t (List.mem_append_right _ (by rw [hg]; simp [hd]))
      split at h
      · rename_i e he
        rw [he] at hv
        split at h
        · rename_i b s2 hdec
          cases h
          have h1 := getD_bool hv.bool_inv
          have h2 := (decide_parts (ρ := ρ) hdec).2.2.2 hp
          simp only [Option.bind_some, h1, h2]
          cases b <;> cases want <;> rfl
        · cases h
      · rename_i he
        cases h
        rw [he] at hv
        obtain ⟨cs, h1, h2⟩ := hv.tup_inv
        have : cs = #[] := by
          have := h2.length
          simp at this
          exact this
        subst this
        have hno : ∀ b, a.tmps[t]? ≠ some (.bool b) := fun b hb => by
          rw [Array.getD_eq_getD_getElem?, hb] at h1
          simp at h1
        simp only [Option.bind_some]
        first
          | (cases want <;> rfl)
          | (split
             · rename_i b hb; exact absurd hb (hno b)
             · rfl)
      · cases h
theorem wants_frame {v : Bool} {s1 : St} (h : wants ops T s o = some (v, s1)) : s1.next = s.next ∧ s1.heap = s.heap ∧ ∃ l, s1.pc = l ++ s.pc := by
  unfold wants at h
  split at h
  · cases h; exact ⟨rfl, rfl, [], rfl⟩
  · split at h
    · cases h; exact ⟨rfl, rfl, [], rfl⟩
    · split at h
      · split at h
        · rename_i hd
          cases h
          obtain ⟨h1, h2, h3, _⟩ := decide_parts (ρ := ⟨fun _ => 0, fun _ => false⟩) hd
          exact ⟨h1, h2, h3⟩
        · cases h
      · cases h; exact ⟨rfl, rfl, [], rfl⟩
      · cases h
/-- The rule's premise at an operation. -/
def OpGoal (P : Program) (ro : Option Nat) (n : Nat) (ops : Array Oper) (Q : Exit → Act → World → Prop) (o : Oper) (K : Act → World → Prop) (a : Act) (w : World) : Prop :=
  if Region.wanted o (yielded ops a.tmps) then o.wpIn (fc ro) n P a w K Q else (∀ f, o.about P w a.eval = some f → (fc ro).fn f) ∧ K (a.put o.dst Go.undef) w
theorem about_fc (w : World) : ∀ f, o.about P w a.eval = some f → (fc ro).fn f := fun _ _ => trivial
theorem semAt_gives {R : Value → World → Prop} (hd : ∀ c, o.op ≠ .defer c) (h : Gives P o a w R) (hK : ∀ v w', R v w' → K (a.put o.dst v) w') : o.wpIn (fc ro) n P a w K Q := by
  obtain ⟨v, w', hr, hR⟩ := h
  refine ⟨about_fc w, ?_⟩
  rw [Oper.semAt_eq _ _ _ hd]
  rcases hr with hr | ⟨hr, rfl⟩
  · rw [hr]; exact hK v w' hR
  · rw [hr]; exact hK _ w' hR
theorem opE_no_defer (h : opE C T s o = some r) : ∀ c, o.op ≠ .defer c := by
  intro c e
  unfold opE at h
  rw [e] at h
  cases h
/-! ## A round of a range over a function -/
theorem FrmB.toFrm {s s' : St} {W : List Nat} (h : FrmB s.next s s' W) : Frm s s' W := ⟨h.next, h.get, h.pc⟩
theorem roundE_parts {b : Nat} {vs : List CV} (h : roundE self s b vs = some r) : ∃ (r0 r3 r5 : LR) (T1 T2 T4 : Tr CV) (s2 s4 : St) (e : Ex) (R1 W1 R2 W2 : List Nat),
    s.getX b = some (.loop r0) ∧ putTs r0.nt r0.T r0.ps.toList vs = some T1 ∧ self (.code r0.assign r0.nt T1) s = some ⟨.code .normal T2, s2, R1, W1⟩ ∧
    s2.getX b = some (.loop r3) ∧ r3.st = .ready ∧ self (.code r0.body r0.nt T2) (s2.setX b (.loop { r3 with st := .busy })) = some ⟨.code e T4, s4, R2, W2⟩ ∧
    s4.getX b = some (.loop r5) ∧ r = ⟨.bool (.c e.jump.isNone), s4.setX b (.loop { r5 with st := bif e.jump.isNone then .ready else .done, pend := e.jump }), b :: join s.next R1 (join s.next R2 []), b :: join s.next W1 (join s.next W2 [])⟩ := by
  unfold roundE at h
  split at h
  · rename_i T0 nt ps as bd pd hx
    split at h
    · cases h
    · rename_i T1 hT1
      split at h
      · rename_i T2 s2 R1 W1 h1
        split at h
        · rename_i T3 nt3 ps3 as3 bd3 pd3 hx3
          split at h
          · rename_i e T4 s4 R2 W2 h2
            split at h
            · rename_i T5 nt5 ps5 as5 bd5 st5 pd5 hx5
              cases h
              exact ⟨⟨T0, nt, ps, as, bd, .ready, pd⟩, ⟨T3, nt3, ps3, as3, bd3, .ready, pd3⟩, ⟨T5, nt5, ps5, as5, bd5, st5, pd5⟩, T1, T2, T4, s2, s4, e, R1, W1, R2, W2, hx, hT1, h1, hx3, rfl, h2, hx5, rfl⟩
            · cases h
          · cases h
        · cases h
      · cases h
  · cases h
theorem roundE_frm (hS : SelfOk P C ρ self) {b : Nat} {vs : List CV} (h : roundE self s b vs = some r) : Frm s r.s r.W ∧ Lts s r.R r.W := by
  obtain ⟨r0, r3, r5, T1, T2, T4, s2, s4, e, R1, W1, R2, W2, hx, hT, h1, hx3, hst, h2, hx5, rfl⟩ := roundE_parts h
  obtain ⟨_, k1⟩ := hS.code _ _ _ _ _ _ _ _ _ h1
  obtain ⟨_, k2⟩ := hS.code _ _ _ _ _ _ _ _ _ h2
  have hb : b < s.next := (getX_parts hx).choose_spec.2.2
  have n1 := k1.frm.next
  have f2 : Frm (s2.setX b (.loop { r3 with st := .busy })) s4 W2 := FrmB.toFrm k2.frm
  have n2 : s2.next ≤ s4.next := f2.next
  have l2 : ∀ x, x ∈ R2 ∨ x ∈ W2 → x < s2.next := k2.lt
  refine ⟨?_, ?_, ?_⟩
  · refine Frm.trans (W1 := b :: join s.next W1 (join s.next W2 [])) (W2 := [b]) (Frm.trans (W1 := b :: join s.next W1 (join s.next W2 [])) (W2 := W2) (Frm.trans (W1 := W1) (W2 := [b]) (FrmB.toFrm k1.frm) (.setX s2 b _) ?_ ?_) f2 ?_ ?_) (.setX s4 b _) ?_ ?_
    · intro x hx'; exact .inl (List.mem_cons_of_mem _ (join_mem.2 (.inl ⟨hx', k1.lt x (.inr hx')⟩)))
    · intro x hx'; obtain rfl := List.mem_singleton.1 hx'; exact .inl (by simp)
    · intro x hx'; exact .inl hx'
    · intro x hx'
      by_cases hlt : x < s.next
      · exact .inl (List.mem_cons_of_mem _ (join_mem.2 (.inr (join_mem.2 (.inl ⟨hx', hlt⟩)))))
      · exact .inr ⟨by omega, by have := l2 x (.inr hx'); omega⟩
    · intro x hx'; exact .inl hx'
    · intro x hx'; obtain rfl := List.mem_singleton.1 hx'; exact .inl (by simp)
  · intro x hx'
    rcases List.mem_cons.1 hx' with rfl | hx'
    · exact hb
    · rcases join_mem.1 hx' with h | h
      · exact h.2
      · rcases join_mem.1 h with h | h
        · exact h.2
        · cases h
  · intro x hx'
    rcases List.mem_cons.1 hx' with rfl | hx'
    · exact hb
    · rcases join_mem.1 hx' with h | h
      · exact h.2
      · rcases join_mem.1 h with h | h
        · exact h.2
        · cases h
theorem putTs_run {nt : Nat} : ∀ {ds : List Tmp} {cs : List CV} {T T1 : Tr CV} {tmps : Array Value} {vals : List Value}, putTs nt T ds cs = some T1 → tmps.size = nt → (∀ t, VR ρ σ (rd T t) (tmps.getD t Go.undef)) → VRl ρ σ cs vals →
    ds.length = cs.length ∧ ((ds.zip vals).foldl (fun (tmps : Array Value) (p : Tmp × Value) => tmps.setIfInBounds p.1 p.2) tmps).size = nt ∧ ∀ t, VR ρ σ (rd T1 t) (((ds.zip vals).foldl (fun (tmps : Array Value) (p : Tmp × Value) => tmps.setIfInBounds p.1 p.2) tmps).getD t Go.undef)
  | [], [], T, T1, tmps, _, h, hn, hT, .nil => by simp only [putTs] at h; cases h; exact ⟨rfl, hn, hT⟩
  | [], _ :: _, T, T1, tmps, _, h, _, _, _ => by simp [putTs] at h
  | _ :: _, [], T, T1, tmps, _, h, _, _, _ => by simp [putTs] at h
  | d :: ds, c :: cs, T, T1, tmps, _, h, hn, hT, .cons (v := v) (m := m) hv ht => by
    simp only [putTs] at h
    cases hd : Nat.blt d nt with
    | false => rw [hd, cond_false] at h; cases h
    | true =>
      rw [hd, cond_true] at h
      have hlt : d < tmps.size := by rw [hn]; exact Nat.lt_of_succ_le (Nat.le_of_ble_eq_true hd)
      obtain ⟨h1, h2, h3⟩ := putTs_run (tmps := tmps.setIfInBounds d v) h (by simp [hn]) (fun t => by
        simp only [rd, Tr.get_set]
        by_cases e : t = d
        · subst e
          simp only [if_true]
          rw [Array.getD_eq_getD_getElem?, Array.getElem?_setIfInBounds_self_of_lt hlt]
          exact hv
        · rw [if_neg e, Array.getD_eq_getD_getElem?, Array.getElem?_setIfInBounds_ne (fun h => e h.symm), ← Array.getD_eq_getD_getElem?]
          exact hT t) ht
      exact ⟨by simp [h1], h2, h3⟩
/-- What may be read at a point of a run is what canonical memory holds there. -/
theorem upd_get {base : Nat} {s s1 : St} {W : List Nat} {b : Nat} (hf : FrmB base s s1 W) (hb : b < s1.next) (h : b < base → b ∉ W → cur b = s.heap.get b) : upd cur base s1.next s1.heap W b = s1.heap.get b := by
  show (if b ∈ W ∨ (base ≤ b ∧ b < s1.next) then _ else cur b) = _
  by_cases hc : b ∈ W ∨ (base ≤ b ∧ b < s1.next)
  · rw [if_pos hc]
  · rw [if_neg hc, hf.get b (fun h => hc (.inl h)) (fun h => hc (.inr h))]
    exact h (by rcases Nat.lt_or_ge b base with h | h; · exact h
                · exact absurd (.inr ⟨h, hb⟩) hc) (fun h => hc (.inl h))
/-- A record of a loop changes its state, in both memories. -/
theorem loop_set {base n0 b : Nat} {W : List Nat} {w0 w1 : World} {s1 : St} {σ1 : Mp} {r0 r1 : LR} {l : Loc} {f : Loop → Loop} (hI : Inv ρ σ cur base W n0 w0 s1 σ1 w1) (hn0 : n0 ≤ s1.next) (hb0 : base ≤ s1.next) (hx : s1.getX b = some (.loop r0)) (hbW : b ∈ W ∨ (base ≤ b ∧ b < s1.next)) (hl : σ1 b = some l)
    (hf : ∀ q, XR ρ σ1 w1 l.blk (.loop r0) → w1.heap[l.blk]? = some (.loop q) → q.state = r0.st → XR ρ σ1 (w1.putObj l.blk (.loop (f q))) l.blk (.loop r1)) :
    ∃ q, w1.heap[l.blk]? = some (.loop q) ∧ q.state = r0.st ∧ q.pending = r0.pend ∧ Inv ρ σ cur base W n0 w0 (s1.setX b (.loop r1)) σ1 (w1.putObj l.blk (.loop (f q))) ∧ Keeps σ1 s1.next [b] w1 (w1.putObj l.blk (.loop (f q))) := by
  obtain ⟨k, hk, hkx, hlt⟩ := getX_parts hx
  have hcur : upd cur base s1.next s1.heap W b = s1.heap.get b := by
    show (if b ∈ W ∨ (base ≤ b ∧ b < s1.next) then _ else cur b) = _
    rw [if_pos hbW]
  have hX := hI.H.spec b k _ l (hcur.trans hk) hkx hl
  have hX' := hX
  cases hX with
  | loop q hq hs hp hps ha hb' hn hT ra rb =>
    obtain ⟨e1, e2⟩ := setX_run (s := s1) hI.H hx hcur hl (hf q hX' hq hs) (fun _ _ => ⟨_, rfl⟩)
    exact ⟨q, hq, hs, hp, hI.step hn0 hb0 (Nat.le_refl _) (fun x hx' => by obtain rfl := List.mem_singleton.1 hx'; exact hbW) (Frm.setX s1 b _).toB (Ext.refl _ _ _) e1 e2 (Fresh.none _ _ _ _ _ _), e2⟩
theorem XR.loop_state {w : World} {g : Nat} {r : LR} {q : Loop} {st : LoopState} {pd : Option Code} (h : XR ρ σ w g (.loop r)) (hq : w.heap[g]? = some (.loop q)) : XR ρ σ (w.putObj g (.loop { q with state := st, pending := pd })) g (.loop { r with st := st, pend := pd }) := by
  have hlt := h.lt
  cases h with
  | loop q' h' hs hp hps ha hb hn hT ra rb =>
    rw [hq] at h'
    cases h'
    exact .loop { q with state := st, pending := pd } (World.putObj_heap_same hlt) rfl rfl hps ha hb hn hT ra rb
theorem roundE_sound (hS : SelfOk P C ρ self) {b : Nat} {vs : List CV} {l : Loc} {args : Array Value} (h : roundE self s b vs = some r) (hp : ∀ p ∈ r.s.pc, p.holds ρ) (hl : σ b = some l) (hvs : VRl ρ σ vs args.toList) (hH : HR ρ σ cur w)
    (hA : ∀ b, b ∈ r.R ∨ b ∈ r.W → cur b = s.heap.get b) (hN : ∀ b, s.next ≤ b → b < r.s.next → σ b = none) :
    ∃ q, w.heap[l.blk]? = some (.loop q) ∧ args.size = q.params.size ∧ RoundIn (fc ro) n P l.blk q.fn ((q.params.zip args).foldl (fun tmps (t, a) => tmps.setIfInBounds t a) q.tmps) q.assign q.body w (Ret (Post ρ σ cur s.next w r.val r.s r.W)) := by
  obtain ⟨hfr, hlts⟩ := roundE_frm hS h
  obtain ⟨r0, r3, r5, T1, T2, T4, s2, s4, e, R1, W1, R2, W2, hx, hT, h1, hx3, hst, h2, hx5, rfl⟩ := roundE_parts h
  obtain ⟨m1, k1⟩ := hS.code _ _ _ _ _ _ _ _ _ h1
  obtain ⟨m2, k2⟩ := hS.code _ _ _ _ _ _ _ _ _ h2
  simp only at hp hA hN hfr hlts ⊢
  generalize hWt : b :: join s.next W1 (join s.next W2 []) = Wt at *
  obtain ⟨k, hk, hkx, hbn⟩ := getX_parts hx
  have hbW : b ∈ Wt := by rw [← hWt]; simp
  have n1 := k1.frm.next
  have n2 : s2.next ≤ s4.next := k2.frm.next
  have hW1 : ∀ x ∈ W1, x ∈ Wt := fun x hx' => by rw [← hWt]; exact List.mem_cons_of_mem _ (join_mem.2 (.inl ⟨hx', k1.lt x (.inr hx')⟩))
  have hW2 : ∀ x ∈ W2, x ∈ Wt ∨ (s.next ≤ x ∧ x < s2.next) := fun x hx' => by
    by_cases hlt : x < s.next
    · exact .inl (by rw [← hWt]; exact List.mem_cons_of_mem _ (join_mem.2 (.inr (join_mem.2 (.inl ⟨hx', hlt⟩)))))
    · exact .inr ⟨by omega, k2.lt x (.inr hx')⟩
  have hX := hH.spec b k _ l ((hA b (.inr hbW)).trans hk) hkx hl
  cases hX with
  | loop q hq hs hpd hps ha hb' hn hTq ra rb =>
    obtain ⟨t1, t2, t3⟩ := putTs_run hT (by rw [hn]) hTq hvs
    have hvl := hvs.length
    have hps' : q.params.toList = r0.ps.toList := by rw [hps]
    have hsz : args.size = q.params.size := by
      have e1 : args.toList.length = args.size := by simp
      have e2 : q.params.toList.length = q.params.size := by simp
      rw [← e1, ← e2, hps', t1, hvl]
    refine ⟨q, hq, hsz, roundIn_of_wpIn trivial ?_⟩
    have hfold : (q.params.zip args).foldl (fun tmps (t, a) => tmps.setIfInBounds t a) q.tmps = (r0.ps.toList.zip args.toList).foldl (fun (tmps : Array Value) (p : Tmp × Value) => tmps.setIfInBounds p.1 p.2) q.tmps := by
      rw [← Array.foldl_toList, Array.toList_zip, hps']
    rw [hfold, ha, hb']
    have hp4 : ∀ p ∈ s4.pc, p.holds ρ := hp
    have hp2 : ∀ p ∈ s2.pc, p.holds ρ := fun p hp' => hp4 p (by obtain ⟨L, hL⟩ := k2.frm.pc; rw [hL]; exact List.mem_append_right _ hp')
    have hN4 : ∀ x, s.next ≤ x → x < s4.next → σ x = none := hN
    refine wpL.wpIn (k1.run ra Wt (some l.blk) n _ σ cur w { tmps := (r0.ps.toList.zip args.toList).foldl (fun (tmps : Array Value) (p : Tmp × Value) => tmps.setIfInBounds p.1 p.2) q.tmps, defers := [] } _ hW1 hlts.2 hp2 (fun l' hl' => by cases hl'; exact ⟨q, hq⟩) hH (fun x hx' => ?_) (fun x a1 a2 => hN4 x a1 (by omega)) ⟨t2, t3, rfl⟩ (fun a1 w1 hpost => ?_))
    · rcases hx' with hx' | hx' | hx'
      · exact hA x (.inl (List.mem_cons_of_mem _ (join_mem.2 (.inl ⟨hx', k1.lt x (.inl hx')⟩))))
      · exact hA x (.inr hx')
      · omega
    · obtain ⟨σ1, hI1, hF1⟩ := hpost
      have hl1 : σ1 b = some l := by rw [hI1.ext b (.inl hbn)]; exact hl
      obtain ⟨q3, hq3, hq3s, hq3p, hI2, hK2⟩ := loop_set (r1 := { r3 with st := .busy }) (f := fun q => { q with state := .busy }) hI1 n1 n1 hx3 (.inl hbW) hl1 (fun q h1' h2' h3' => by
        have hpd : q.pending = r3.pend := by
          cases h1' with
          | loop q' hq' _ hp' => rw [h2'] at hq'; cases hq'; exact hp'
        have := h1'.loop_state (st := .busy) (pd := r3.pend) h2'
        rw [← hpd] at this
        rw [← hpd]
        exact this)
      refine ⟨_, run_beginRound hq3 (hq3s.trans hst), ?_⟩
      have hf2 : FrmB s.next s (s2.setX b (.loop { r3 with st := .busy })) Wt := by
        have := (FrmB.toFrm k1.frm).trans (W := Wt) (Frm.setX s2 b (.loop { r3 with st := .busy })) (fun x hx' => .inl (hW1 x hx')) (fun x hx' => by obtain rfl := List.mem_singleton.1 hx'; exact .inl hbW)
        exact this.toB
      refine wpL.wpIn (k2.run rb W2 (some l.blk) n _ σ1 (upd cur s.next s2.next (s2.setX b (.loop { r3 with st := .busy })).heap Wt) _ a1 a1 (fun _ h => h) (fun x hx' => k2.lt x (.inr hx')) hp4 (fun l' hl' => by cases hl'; exact hI2.K.loops l.blk q hq) hI2.H (fun x hx' => ?_) (fun x a1' a2' => ?_) hF1.self (fun a2 w4 hpost => ?_))
      · have hlt : x < s2.next := by
          rcases hx' with hx' | hx' | hx'
          · exact k2.lt x (.inl hx')
          · exact k2.lt x (.inr hx')
          · have : (s2.setX b (.loop { r3 with st := .busy })).next = s2.next := rfl
            omega
        refine upd_get hf2 hlt (fun h3 h4 => ?_)
        rcases hx' with hx' | hx' | hx'
        · exact hA x (.inl (List.mem_cons_of_mem _ (join_mem.2 (.inr (join_mem.2 (.inl ⟨hx', h3⟩))))))
        · rcases hW2 x hx' with h | h
          · exact absurd h h4
          · omega
        · have : (s2.setX b (.loop { r3 with st := .busy })).next = s2.next := rfl
          omega
      · have e1 : s2.next ≤ x := a1'
        rw [hI2.ext x (.inr e1)]
        exact hN4 x (by omega) a2'
      · obtain ⟨σ4, hI4', hF4⟩ := hpost
        have hI4 : Inv ρ σ cur s.next Wt s.next w s4 σ4 w4 := hI2.step n1 n1 (Nat.le_refl _) (fun x hx' => hW2 x hx') k2.frm hI4'.ext hI4'.H hI4'.K hI4'.F
        have hl4 : σ4 b = some l := by rw [hI4.ext b (.inl hbn)]; exact hl
        obtain ⟨q5, hq5, _, _, hI5, _⟩ := loop_set (r1 := { r5 with st := bif e.jump.isNone then .ready else .done, pend := e.jump }) (f := fun q => { q with state := if e.jump.isNone then .ready else .done, pending := e.jump }) hI4 (by omega) (by omega) hx5 (.inl hbW) hl4 (fun q h1' h2' h3' => by
          have := h1'.loop_state (st := if e.jump.isNone then .ready else .done) (pd := e.jump) h2'
          have e1 : (bif e.jump.isNone then LoopState.ready else LoopState.done) = (if e.jump.isNone then .ready else .done) := by cases e.jump.isNone <;> rfl
          rw [e1]
          exact this)
        have hend := run_endRound (P := P) e.jump hq5
        have hfin : Ret (Post ρ σ cur s.next w (.bool (.c e.jump.isNone)) (s4.setX b (.loop { r5 with st := bif e.jump.isNone then .ready else .done, pend := e.jump })) Wt) (.returned (.bool e.jump.isNone)) (w4.putObj l.blk (.loop { q5 with state := if e.jump.isNone then .ready else .done, pending := e.jump })) :=
          ⟨_, rfl, σ4, hI5.ext, .bool (.c e.jump.isNone), hI5.H, hI5.K, hI5.F⟩
        cases e with
        | normal => exact ⟨_, _, hend, hfin⟩
        | ret => exact ⟨_, _, hend, hfin⟩
        | exit i => exact ⟨_, _, hend, hfin⟩
theorem oneE0_frame (hS : SelfOk P C ρ self) (h : oneE0 C self ops T s o = some r) : Frm s r.s r.W := by
  unfold oneE0 at h
  split at h
  · cases h
  · rename_i s1 hw
    cases h
    obtain ⟨h1, h2, h3⟩ := wants_frame hw
    exact .same _ h1 h2 h3
  · rename_i s1 hw
    obtain ⟨h1, h2, h3⟩ := wants_frame hw
    have f1 : Frm s s1 [] := .same _ h1 h2 h3
    have comb : ∀ (s2 : St) (W : List Nat), Frm s1 s2 W → Frm s s2 W := fun s2 W f2 => f1.trans f2 (by simp) (fun b hb => .inl hb)
    split at h
    · split at h
      · split at h
        · rename_i c s2 R W hc
          cases h
          exact comb _ _ (hS.call _ _ _ _ _ _ _ hc).frm
        · cases h
      · exact comb _ _ (roundE_frm hS h).1
      · cases h
    · exact comb _ _ (opE_frame h)
theorem oneE0_lt (hS : SelfOk P C ρ self) (h : oneE0 C self ops T s o = some r) : Lts s r.R r.W := by
  unfold oneE0 at h
  split at h
  · cases h
  · cases h; exact .nil _
  · rename_i s1 hw
    obtain ⟨h1, h2, h3⟩ := wants_frame hw
    have comb : ∀ (R W : List Nat), Lts s1 R W → Lts s R W := fun R W hl => ⟨fun b hb => h1 ▸ hl.1 b hb, fun b hb => h1 ▸ hl.2 b hb⟩
    split at h
    · split at h
      · split at h
        · rename_i c s2 R W hc
          cases h
          exact comb _ _ (hS.call _ _ _ _ _ _ _ hc).lt
        · cases h
      · exact comb _ _ (roundE_frm hS h).2
      · cases h
    · exact comb _ _ (opE_lt h)
theorem oneE0_sound (hC : CtxOk2 P C) (hS : SelfOk P C ρ self) (h : oneE0 C self ops T s o = some r) (hp : ∀ p ∈ r.s.pc, p.holds ρ) (hL : Looks ρ σ T a ops o) (hH : HR ρ σ cur w) (hA : ∀ b, b ∈ r.R ∨ b ∈ r.W → cur b = s.heap.get b) (hN : ∀ b, s.next ≤ b → b < r.s.next → σ b = none)
    (hK : ∀ v w', Post ρ σ cur s.next w r.val r.s r.W v w' → K (a.put o.dst v) w') : OpGoal P ro n ops Q o K a w := by
  unfold oneE0 at h
  unfold OpGoal
  split at h
  · cases h
  · rename_i s1 hw
    cases h
    obtain ⟨h1, h2, h3⟩ := wants_frame hw
    rw [wants_run hw hL hp, if_neg (by simp)]
    exact ⟨about_fc w, hK _ _ (post_pure h1 (VR.undef _ _) hH)⟩
  · rename_i s1 hw
    obtain ⟨h1, h2, h3⟩ := wants_frame hw
    have hp1 : ∀ p ∈ s1.pc, p.holds ρ := by
      intro p hp'
      refine hp p ?_
      split at h
      · split at h
        · split at h
          · rename_i c s2 R W hc
            cases h
            obtain ⟨l, hl⟩ := (hS.call _ _ _ _ _ _ _ hc).frm.pc
            rw [hl]; simp [hp']
          · cases h
        · obtain ⟨l, hl⟩ := (roundE_frm hS h).1.pc
          rw [hl]; simp [hp']
        · cases h
      · obtain ⟨l, hl⟩ := (opE_frame h).pc
        rw [hl]; simp [hp']
    rw [wants_run hw hL hp1, if_pos rfl]
    have hA1 : ∀ b, b ∈ r.R ∨ b ∈ r.W → cur b = s1.heap.get b := fun b hb => by rw [h2]; exact hA b hb
    have hN1 : ∀ b, s1.next ≤ b → b < r.s.next → σ b = none := fun b hb => by rw [h1] at hb; exact hN b hb
    rw [← h1] at hK
    split at h
    · rename_i f args tys hop
      split at h
      · rename_i g first captured vs hf hvs
        split at h
        · rename_i c s2 R W hc
          cases h
          have hok := hS.call _ _ _ _ _ _ _ hc
          obtain ⟨fn, hfn, hbody⟩ := hok.fn
          have hrd := hL.reads
          obtain ⟨x', y', hfv, hx, hy⟩ := (hrd.ev (x := f) (by rw [hop]; simp [Op.operands, Call.operands]) hf).fn_inv
          have hav := evs_run (σ := σ) (ρ := ρ) (a := a) (fun t ht => hrd t (by rw [hop]; simp only [Op.operands, Call.operands, Array.toList_append]; exact List.mem_append_right _ ht)) hvs
          have hargs : VRl ρ σ (first ++ vs ++ captured) ((x' ++ args.map a.eval) ++ y').toList := by
            simp only [Array.toList_append, Array.toList_map]
            exact (hx.append hav).append hy
          refine ⟨about_fc w, ?_⟩
          rw [Oper.semAt_eq _ _ _ (fun c e => by rw [hop] at e; cases e)]
          have hex : (execOp a.eval o).run P w = .ok (.enter g ((x' ++ args.map a.eval) ++ y')) w := by
            simp only [execOp, hop, resolve, Deferred.ofValue, hfv, pure_bind, invoke, callFunc_run hC hfn hbody]
          rw [hex]
          refine ⟨(fun h => by cases h), callsIn_fc ((hok.run (n - 1) σ cur w _ hp hargs hH hA1 hN1).mono ?_)⟩
          rintro e w' ⟨v, rfl, hpost⟩
          exact hK v w' hpost
        · cases h
      · rename_i b vs hf hvs
        have hrd := hL.reads
        obtain ⟨l, hl, hfv⟩ := (hrd.ev (x := f) (by rw [hop]; simp [Op.operands, Call.operands]) hf).yld_inv
        have hav := evs_run (σ := σ) (ρ := ρ) (a := a) (fun t ht => hrd t (by rw [hop]; simp only [Op.operands, Call.operands, Array.toList_append]; exact List.mem_append_right _ ht)) hvs
        have hargs : VRl ρ σ vs (args.map a.eval).toList := by
          simp only [Array.toList_map]; exact hav
        obtain ⟨q, hq, hsz, hround⟩ := roundE_sound (ro := ro) (n := n - 1) hS h hp hl hargs hH hA1 hN1
        refine ⟨about_fc w, ?_⟩
        rw [Oper.semAt_eq _ _ _ (fun c e => by rw [hop] at e; cases e)]
        have hex : (execOp a.eval o).run P w = .ok (.round l.blk q.fn ((q.params.zip (args.map a.eval)).foldl (fun tmps (t, a) => tmps.setIfInBounds t a) q.tmps) q.assign q.body) w := by
          simp only [execOp, hop, resolve, Deferred.ofValue, hfv, pure_bind, invoke, Array.empty_append, Array.append_empty]
          exact run_yield hq hsz
        rw [hex]
        refine ⟨(fun h => by cases h), hround.mono ?_⟩
        rintro e w' ⟨v, rfl, hpost⟩
        exact hK v w' hpost
      · cases h
    · exact semAt_gives (opE_no_defer h) (opE_sound h ⟨hC.toCtxOk, hp, hL.reads, hH, hA1, hN1⟩) hK
theorem askG_parts {r0 : OR} (h : askG ops o r0 = some r) : r.R = r0.R ∧ r.W = r0.W ∧ r.s.next = r0.s.next ∧ r.s.heap = r0.s.heap ∧ (∃ l, r.s.pc = l ++ r0.s.pc) ∧ ((∀ p ∈ r.s.pc, p.holds ρ) → ∀ σ v, VR ρ σ r0.val v → VR ρ σ r.val v) := by
  unfold askG at h
  split at h
  · rename_i b hv
    cases hg : isGuard ops o with
    | false => rw [hg, cond_false] at h; cases h; exact ⟨rfl, rfl, rfl, rfl, ⟨[], rfl⟩, fun _ _ _ h => h⟩
    | true =>
      rw [hg, cond_true] at h
      split at h
      · rename_i e s1 ht
        cases h
        obtain ⟨t1, t2, t3, t4⟩ := tell_parts (ρ := ρ) ht
        refine ⟨rfl, rfl, t1, t2, t3, fun hp σ v hvv => ?_⟩
        rw [hv] at hvv
        cases hvv
        have := VR.bool (ρ := ρ) (σ := σ) e
        rwa [t4 hp] at this
      · cases h
  · cases h; exact ⟨rfl, rfl, rfl, rfl, ⟨[], rfl⟩, fun _ _ _ h => h⟩
theorem oneE_frame (hS : SelfOk P C ρ self) (h : oneE C self ops T s o = some r) : Frm s r.s r.W := by
  unfold oneE at h
  split at h
  · rename_i r0 h0
    obtain ⟨a1, a2, a3, a4, a5, _⟩ := askG_parts (ρ := ρ) h
    rw [a2]
    exact (oneE0_frame hS h0).trans (.same [] a3 a4 a5) (fun b hb => .inl hb) (by simp)
  · cases h
theorem oneE_lt (hS : SelfOk P C ρ self) (h : oneE C self ops T s o = some r) : Lts s r.R r.W := by
  unfold oneE at h
  split at h
  · rename_i r0 h0
    obtain ⟨a1, a2, _⟩ := askG_parts (ρ := ρ) h
    rw [a1, a2]
    exact oneE0_lt hS h0
  · cases h
theorem oneE_sound (hC : CtxOk2 P C) (hS : SelfOk P C ρ self) (h : oneE C self ops T s o = some r) (hp : ∀ p ∈ r.s.pc, p.holds ρ) (hL : Looks ρ σ T a ops o) (hH : HR ρ σ cur w) (hA : ∀ b, b ∈ r.R ∨ b ∈ r.W → cur b = s.heap.get b) (hN : ∀ b, s.next ≤ b → b < r.s.next → σ b = none)
    (hK : ∀ v w', Post ρ σ cur s.next w r.val r.s r.W v w' → K (a.put o.dst v) w') : OpGoal P ro n ops Q o K a w := by
  unfold oneE at h
  split at h
  · rename_i r0 h0
    obtain ⟨a1, a2, a3, a4, ⟨l, a5⟩, a6⟩ := askG_parts (ρ := ρ) h
    refine oneE0_sound hC hS h0 (fun p hp0 => hp p (by rw [a5]; exact List.mem_append_right _ hp0)) hL hH (fun b hb => hA b (by rw [a1, a2]; exact hb)) (fun b b1 b2 => hN b b1 (by rw [a3]; exact b2)) (fun v w' hpost => hK v w' ?_)
    obtain ⟨σ', x1, x2, x3, x4, x5⟩ := hpost
    refine ⟨σ', ?_, a6 hp _ _ x2, ?_, ?_, ?_⟩
    · rw [a3]; exact x1
    · rw [a2, a3, a4]; exact x3
    · rw [a2]; exact x4
    · rw [a2, a3]; exact x5
  · cases h
end
end Go.Proofs.Ytjdldcmcjaaibaa.Cx

/- Regions in the order of the text: what holds behind each operation. -/
namespace Go.Proofs.Ytjdldcmcjaaibaa.Cx
set_option linter.unusedSimpArgs false
set_option linter.unusedVariables false
open Go Go.RowKit
/-- A region's run, laid out: memory, temporaries and what each operation yielded. -/
theorem opsE_trace {P : Program} {C : Ctx} {ρ : Env} {self : Task → St → Option Out} {ops : Array Oper} {nt : Nat} (hS : SelfOk P C ρ self) : ∀ {l : List Oper} {T T' : Tr CV} {s s' : St} {ms : List Mk}, opsE C self ops nt l T s = some (T', s', ms) →
    ∃ (st : Nat → St) (tm : Nat → Tr CV) (or : Nat → OR), st 0 = s ∧ tm 0 = T ∧ st l.length = s' ∧ tm l.length = T' ∧ ms.length = l.length ∧
      ∀ i o, l[i]? = some o → oneE C self ops (tm i) (st i) o = some (or i) ∧ putT nt (tm i) o.dst (or i).val = some (tm (i + 1)) ∧ st (i + 1) = (or i).s ∧
        (∀ b ∈ (or i).R, b < (st i).next) ∧ (∀ b ∈ (or i).W, b < (st i).next) ∧ ms[i]? = some ⟨(or i).R, (or i).W, (st i).next, (st (i + 1)).next⟩
  | [], T, T', s, s', ms, h => by
    simp only [opsE] at h
    cases h
    exact ⟨fun _ => s, fun _ => T, fun _ => ⟨undefC, s, [], []⟩, rfl, rfl, rfl, rfl, rfl, fun i o h => by simp at h⟩
  | o :: l, T, T', s, s', ms, h => by
    simp only [opsE] at h
    split at h
    · cases h
    · rename_i r hr
      split at h
      · cases h
      · rename_i T1 hT1
        split at h
        · cases h
        · rename_i T2 s2 ms2 h2
          cases h
          obtain ⟨st, tm, or, e1, e2, e3, e4, e5, e6⟩ := opsE_trace hS h2
          refine ⟨fun | 0 => s | i + 1 => st i, fun | 0 => T | i + 1 => tm i, fun | 0 => r | i + 1 => or i, rfl, rfl, e3, e4, by simp [e5], ?_⟩
          intro i o' ho
          cases i with
          | zero =>
            simp only [List.getElem?_cons_zero] at ho
            obtain rfl := Option.some.inj ho
            have lt := oneE_lt hS hr
            refine ⟨hr, ?_, ?_, lt.1, lt.2, ?_⟩
            · show putT nt T o.dst r.val = some (tm 0); rw [e2]; exact hT1
            · exact e1
            · show some _ = some _; rw [← e1]
          | succ i =>
            simp only [List.getElem?_cons_succ] at ho
            exact e6 i o' ho
theorem sumR_mem {base : Nat} : ∀ {ms : List Mk} {i : Nat} {m : Mk}, ms[i]? = some m → ∀ b ∈ m.R, b < base → b ∈ sumR base ms
  | [], i, m, h, _, _, _ => by simp at h
  | x :: l, 0, m, h, b, hb, hlt => by simp at h; subst h; exact join_mem.2 (.inl ⟨hb, hlt⟩)
  | x :: l, i + 1, m, h, b, hb, hlt => join_mem.2 (.inr (sumR_mem (i := i) (by simpa using h) b hb hlt))
theorem sumW_mem {base : Nat} : ∀ {ms : List Mk} {i : Nat} {m : Mk}, ms[i]? = some m → ∀ b ∈ m.W, b < base → b ∈ sumW base ms
  | [], i, m, h, _, _, _ => by simp at h
  | x :: l, 0, m, h, b, hb, hlt => by simp at h; subst h; exact join_mem.2 (.inl ⟨hb, hlt⟩)
  | x :: l, i + 1, m, h, b, hb, hlt => join_mem.2 (.inr (sumW_mem (i := i) (by simpa using h) b hb hlt))
theorem sumW_lt {base : Nat} : ∀ {ms : List Mk} {b : Nat}, b ∈ sumW base ms → b < base
  | [], b, h => by simp [sumW] at h
  | x :: l, b, h => by
    rcases join_mem.1 h with h | h
    · exact h.2
    · exact sumW_lt h
section
variable {P : Program} {C : Ctx} {ρ : Env} {σ : Mp} {cur : Cur} {self : Task → St → Option Out} {ro : Option Nat} {n : Nat} {Q : Exit → Act → World → Prop} {ops : Array Oper} {nt base : Nat} {T T' : Tr CV} {s s' : St} {ms : List Mk} {a0 a : Act} {w0 : World}
theorem pc_le {st : Nat → St} {l : List Oper} {or : Nat → OR} {tm : Nat → Tr CV} {ops : Array Oper} (hS : SelfOk P C ρ self) (h : ∀ i o, l[i]? = some o → oneE C self ops (tm i) (st i) o = some (or i) ∧ st (i + 1) = (or i).s) : ∀ (k j : Nat), j + k ≤ l.length → (st j).next ≤ (st (j + k)).next ∧ ∃ L, (st (j + k)).pc = L ++ (st j).pc
  | 0, j, _ => ⟨Nat.le_refl _, [], rfl⟩
  | k + 1, j, hj => by
    obtain ⟨h1, L, h2⟩ := pc_le hS h k j (by omega)
    have hlt : j + k < l.length := by omega
    obtain ⟨h3, h4⟩ := h (j + k) _ (List.getElem?_eq_getElem hlt)
    have hf := oneE_frame hS h3
    rw [← h4] at hf
    obtain ⟨L2, h5⟩ := hf.pc
    exact ⟨Nat.le_trans h1 hf.next, L2 ++ L, by rw [show j + (k + 1) = j + k + 1 by omega, h5, h2, List.append_assoc]⟩
/-- A region that has its order from the text. -/
theorem region_text (hC : CtxOk2 P C) (hS : SelfOk P C ρ self) (h : opsE C self ops nt ops.toList T s = some (T', s', ms)) (hp : ∀ p ∈ s'.pc, p.holds ρ) (hH : HR ρ σ cur w0) (hb : base ≤ s.next)
    (hA : ∀ b, b ∈ sumR base ms ∨ b ∈ sumW base ms ∨ (base ≤ b ∧ b < s.next) → cur b = s.heap.get b) (hN : ∀ b, s.next ≤ b → b < s'.next → σ b = none) (hF : FRn ρ σ nt T a0 a)
    (hQ : ∀ a' w', PostR ρ σ cur base s w0 nt T' s' (sumW base ms) a0 a' w' → Q .normal a' w') : wpOpsIn (fc ro) n P ops Q (List.range ops.size) a w0 := by
  obtain ⟨st, tm, or, e1, e2, e3, e4, e5, e6⟩ := opsE_trace hS h
  have hpl := pc_le (l := ops.toList) hS (fun i o ho => ⟨(e6 i o ho).1, (e6 i o ho).2.2.1⟩)
  have key : ∀ (k j : Nat), j + k = ops.size → ∀ σ1 a1 w1, Inv ρ σ cur base (sumW base ms) s.next w0 (st j) σ1 w1 → FRn ρ σ1 nt (tm j) a0 a1 → wpOpsIn (fc ro) n P ops Q (List.range' j k) a1 w1 := by
    intro k
    induction k with
    | zero =>
      intro j hj σ1 a1 w1 hI hF1
      obtain rfl : j = ops.size := by omega
      rw [show ops.size = ops.toList.length by simp] at hI hF1
      rw [e3] at hI; rw [e4] at hF1
      exact hQ a1 w1 ⟨σ1, hI, hF1⟩
    | succ k ih =>
      intro j hj σ1 a1 w1 hI hF1
      have hlt : j < ops.toList.length := by simp; omega
      obtain ⟨ho⟩ : ∃ o, ops.toList[j]? = some o := ⟨_, List.getElem?_eq_getElem hlt⟩
      rename_i hoj
      obtain ⟨g1, g2, g3, g4, g5, g6⟩ := e6 j ho hoj
      have hl0 := hpl j 0 (by simp; omega)
      simp only [Nat.zero_add, e1] at hl0
      have hl1 := hpl (k) (j + 1) (by simp; omega)
      rw [show j + 1 + k = ops.toList.length by simp; omega, e3] at hl1
      have hfr := oneE_frame hS g1
      have hpj : ∀ p ∈ (or j).s.pc, p.holds ρ := fun p hp' => hp p (by obtain ⟨L, hL⟩ := hl1.2; rw [hL, g3]; simp [hp'])
      have hnj : (st j).next ≤ (or j).s.next := hfr.next
      have hnj1 : (or j).s.next ≤ s'.next := by rw [← g3]; exact hl1.1
      have hWj : ∀ b ∈ (or j).W, b ∈ sumW base ms ∨ (base ≤ b ∧ b < (st j).next) := by
        intro b hb'
        by_cases hlt' : b < base
        · exact .inl (sumW_mem g6 b hb' hlt')
        · exact .inr ⟨by omega, g5 b hb'⟩
      rw [List.range'_succ, wpOpsIn_cons]
      have hoj' : ops[j]? = some ho := by rw [← Array.getElem?_toList]; exact hoj
      unfold wpOpIn
      rw [hoj']
      show OpGoal P ro n ops Q ho _ a1 w1
      refine oneE_sound hC hS g1 hpj (fun t _ => hF1.2.1 t) hI.H (fun b hb' => ?_) (fun b h1 h2 => ?_) (fun v w' hpost => ?_)
      · show (if b ∈ sumW base ms ∨ (base ≤ b ∧ b < (st j).next) then _ else cur b) = _
        by_cases hc : b ∈ sumW base ms ∨ (base ≤ b ∧ b < (st j).next)
        · rw [if_pos hc]
        · rw [if_neg hc]
          rcases hb' with hb' | hb'
          · have hbn := g4 b hb'
            have hlt' : b < base := by
              rcases Nat.lt_or_ge b base with h | h
              · exact h
              · exact absurd (.inr ⟨h, hbn⟩) hc
            rw [hA b (.inl (sumR_mem g6 b hb' hlt'))]
            -- nothing has been written to it since
            have : ∀ (i : Nat), i ≤ j → (st i).heap.get b = s.heap.get b := by
              intro i
              induction i with
              | zero => intro _; rw [e1]
              | succ i ihi =>
                intro hi
                have hli : i < ops.toList.length := by simp; omega
                obtain ⟨q1, q2, q3, q4, q5, q6⟩ := e6 i _ (List.getElem?_eq_getElem hli)
                have hfi := oneE_frame hS q1
                have hl2 := hpl i 0 (by simp; omega)
                simp only [Nat.zero_add, e1] at hl2
                rw [q3, hfi.get b (fun hw => hc (.inl (sumW_mem q6 b hw hlt'))) (by omega)]
                exact ihi (by omega)
            exact (this j (Nat.le_refl _)).symm
          · exact absurd (hWj b hb') hc
      · have : σ b = none := hN b (by omega) (by omega)
        rw [hI.ext b (.inr h1)]; exact this
      · obtain ⟨σ2, p1, p2, p3, p4, p5⟩ := hpost
        have hI2 : Inv ρ σ cur base (sumW base ms) s.next w0 (or j).s σ2 w' :=
          hI.step hl0.1 (by omega) (Nat.le_refl _) hWj hfr.toB p1 p3 p4 p5
        have hle : σ1.le σ2 := p1.le (fun b h1 h2 => by rw [hI.ext b (.inr h1)]; exact hN b (by omega) (by omega))
        rw [← g3] at hI2
        exact ih (j + 1) (by omega) σ2 _ w' hI2 (hF1.put hle g2 p2)
  have h0 := key ops.size 0 (by omega) σ a w0 (by
    rw [e1]
    exact Inv.start hH (fun b hb' => hA b (.inr hb'))) (by rw [e2]; exact hF)
  rw [List.range_eq_range']
  exact h0
end
end Go.Proofs.Ytjdldcmcjaaibaa.Cx

/- Regions that draw their order: whatever order the tape picks, memory stands for what the order of the text makes. -/
namespace Go.Proofs.Ytjdldcmcjaaibaa.Cx
set_option linter.unusedSimpArgs false
set_option linter.unusedVariables false
open Go Go.RowKit
/-! ## Which operations come before which -/
theorem preds_acc : ∀ (l : List Oper) (acc : List Nat) (k : Nat), k < acc.length → (preds l acc)[k]? = acc[k]?
  | [], acc, k, h => rfl
  | o :: l, acc, k, h => by
    simp only [preds]
    rw [preds_acc l _ k (by simp; omega), List.getElem?_append_left h]
theorem preds_length : ∀ (l : List Oper) (acc : List Nat), (preds l acc).length = acc.length + l.length
  | [], acc => by simp [preds]
  | o :: l, acc => by simp only [preds, preds_length l, List.length_append, List.length_cons, List.length_nil]; omega
theorem predM_inv {acc : List Nat} : ∀ {l : List Edge} {i : Nat}, (predM acc l).testBit i = true → ∃ e ∈ l, Region.binds .any e = true ∧ (i = e.on ∨ ∃ q, acc[e.on]? = some q ∧ q.testBit i = true)
  | [], i, h => by simp [predM] at h
  | e :: l, i, h => by
    simp only [predM] at h
    cases hb : Region.binds .any e with
    | false =>
      rw [hb, cond_false] at h
      obtain ⟨e', h1, h2, h3⟩ := predM_inv h
      exact ⟨e', by simp [h1], h2, h3⟩
    | true =>
      rw [hb, cond_true] at h
      simp only [Nat.testBit_or, Bool.or_eq_true] at h
      rcases h with (h | h) | h
      · refine ⟨e, by simp, hb, .inl ?_⟩
        rw [Nat.one_shiftLeft, Nat.testBit_two_pow] at h
        exact (of_decide_eq_true h).symm
      · cases ha : acc[e.on]? with
        | none => rw [ha] at h; simp at h
        | some q => rw [ha] at h; exact ⟨e, by simp, hb, .inr ⟨q, ha, h⟩⟩
      · obtain ⟨e', h1, h2, h3⟩ := predM_inv h
        exact ⟨e', by simp [h1], h2, h3⟩
theorem preds_inv : ∀ (l : List Oper) (acc : List Nat) (k : Nat) (p i : Nat), acc.length ≤ k → (preds l acc)[k]? = some p → p.testBit i = true →
    ∃ o, l[k - acc.length]? = some o ∧ ∃ e ∈ o.after.toList, Region.binds .any e = true ∧ (i = e.on ∨ ∃ q, (preds l acc)[e.on]? = some q ∧ q.testBit i = true)
  | [], acc, k, p, i, hk, h, _ => by
    simp only [preds] at h
    rw [List.getElem?_eq_none hk] at h; cases h
  | o :: l, acc, k, p, i, hk, h, hb => by
    simp only [preds] at h ⊢
    by_cases hk' : k = acc.length
    · subst hk'
      rw [preds_acc l _ _ (by simp), List.getElem?_append_right (Nat.le_refl _)] at h
      simp only [Nat.sub_self, List.getElem?_cons_zero, Option.some.injEq] at h
      subst h
      obtain ⟨e, h1, h2, h3⟩ := predM_inv hb
      refine ⟨o, by simp, e, h1, h2, ?_⟩
      rcases h3 with h3 | ⟨q, h3, h4⟩
      · exact .inl h3
      · have hlt := (List.getElem?_eq_some_iff.1 h3).1
        exact .inr ⟨q, by rw [preds_acc l _ _ (by simp; omega), List.getElem?_append_left hlt]; exact h3, h4⟩
    · obtain ⟨o', h1, h2⟩ := preds_inv l (acc ++ [predM acc o.after.toList]) k p i (by simp; omega) h hb
      refine ⟨o', ?_, h2⟩
      simp only [List.length_append, List.length_cons, List.length_nil] at h1
      rw [show k - acc.length = (k - (acc.length + 1)) + 1 by omega, List.getElem?_cons_succ]
      exact h1
theorem apartOk1_inv {ops : Array Oper} {i : Nat} {o : Oper} : ∀ {l : List Oper} {ps : List Nat} {k : Nat} {x : Oper} {p : Nat}, apartOk1 ops i o l ps = true → l[k]? = some x → ps[k]? = some p → p.testBit i = true ∨ o.apart ops x = true
  | y :: l, q :: ps, 0, x, p, h, h1, h2 => by
    simp only [List.getElem?_cons_zero, Option.some.injEq] at h1 h2
    subst h1 h2
    simp only [apartOk1, Bool.and_eq_true, Bool.or_eq_true] at h
    exact h.1
  | y :: l, q :: ps, k + 1, x, p, h, h1, h2 => by
    simp only [apartOk1, Bool.and_eq_true] at h
    exact apartOk1_inv (k := k) h.2 (by simpa using h1) (by simpa using h2)
  | [], _, k, x, p, _, h1, _ => by simp at h1
  | _ :: _, [], k, x, p, _, _, h2 => by simp at h2
theorem apartOk_inv {ops : Array Oper} : ∀ {l : List Oper} {ps : List Nat} {i0 i k : Nat} {o x : Oper} {p : Nat}, apartOk ops i0 l ps = true → l.length = ps.length → i < k → l[i]? = some o → l[k]? = some x → ps[k]? = some p → p.testBit (i0 + i) = true ∨ o.apart ops x = true
  | [], _, _, i, k, o, x, p, _, _, _, h1, _, _ => by simp at h1
  | _ :: _, [], _, i, k, o, x, p, _, hl, _, _, _, _ => by simp at hl
  | y :: l, q :: ps, i0, 0, k, o, x, p, h, hl, hik, h1, h2, h3 => by
    simp only [List.getElem?_cons_zero, Option.some.injEq] at h1
    subst h1
    simp only [apartOk, Bool.and_eq_true] at h
    obtain ⟨k, rfl⟩ : ∃ k', k = k' + 1 := ⟨k - 1, by omega⟩
    exact apartOk1_inv h.1.2 (by simpa using h2) (by simpa using h3)
  | y :: l, q :: ps, i0, i + 1, k, o, x, p, h, hl, hik, h1, h2, h3 => by
    simp only [apartOk, Bool.and_eq_true] at h
    obtain ⟨k, rfl⟩ : ∃ k', k = k' + 1 := ⟨k - 1, by omega⟩
    have := apartOk_inv (i := i) (k := k) h.2 (by simpa using hl) (by omega) (by simpa using h1) (by simpa using h2) (by simpa using h3)
    rw [show i0 + (i + 1) = i0 + 1 + i by omega]
    exact this
theorem apartOk_edges {ops : Array Oper} : ∀ {l : List Oper} {ps : List Nat} {i0 i : Nat} {o : Oper}, apartOk ops i0 l ps = true → l.length = ps.length → l[i]? = some o → ∀ e ∈ o.after.toList, Region.binds .any e = true → e.on < i0 + i
  | [], _, _, i, o, _, _, h1 => by simp at h1
  | _ :: _, [], _, i, o, _, hl, _ => by simp at hl
  | y :: l, q :: ps, i0, 0, o, h, hl, h1 => by
    simp only [List.getElem?_cons_zero, Option.some.injEq] at h1
    subst h1
    simp only [apartOk, Bool.and_eq_true, List.all_eq_true] at h
    intro e he hb
    have := h.1.1 e he
    rw [hb] at this
    simp only [Bool.not_true, Bool.false_or] at this
    exact Nat.lt_of_succ_le (Nat.le_of_ble_eq_true this)
  | y :: l, q :: ps, i0, i + 1, o, h, hl, h1 => by
    simp only [apartOk, Bool.and_eq_true] at h
    intro e he hb
    have := apartOk_edges (i := i) h.2 (by simpa using hl) (by simpa using h1) e he hb
    omega
theorem drawOk1_inv {i : Nat} {m : Mk} : ∀ {ns : List Mk} {ps : List Nat} {k : Nat} {x : Mk} {p : Nat}, drawOk1 i m ns ps = true → ns[k]? = some x → ps[k]? = some p → p.testBit i = true ∨ apartMk m x = true
  | y :: l, q :: ps, 0, x, p, h, h1, h2 => by
    simp only [List.getElem?_cons_zero, Option.some.injEq] at h1 h2
    subst h1 h2
    simp only [drawOk1, Bool.and_eq_true, Bool.or_eq_true] at h
    exact h.1
  | y :: l, q :: ps, k + 1, x, p, h, h1, h2 => by
    simp only [drawOk1, Bool.and_eq_true] at h
    exact drawOk1_inv (k := k) h.2 (by simpa using h1) (by simpa using h2)
  | [], _, k, x, p, _, h1, _ => by simp at h1
  | _ :: _, [], k, x, p, _, _, h2 => by simp at h2
theorem drawOk_inv : ∀ {ms : List Mk} {ps : List Nat} {i0 i k : Nat} {m x : Mk} {p : Nat}, drawOk i0 ms ps = true → ms.length = ps.length → i < k → ms[i]? = some m → ms[k]? = some x → ps[k]? = some p → p.testBit (i0 + i) = true ∨ apartMk m x = true
  | [], _, _, i, k, o, x, p, _, _, _, h1, _, _ => by simp at h1
  | _ :: _, [], _, i, k, o, x, p, _, hl, _, _, _, _ => by simp at hl
  | y :: l, q :: ps, i0, 0, k, o, x, p, h, hl, hik, h1, h2, h3 => by
    simp only [List.getElem?_cons_zero, Option.some.injEq] at h1
    subst h1
    simp only [drawOk, Bool.and_eq_true] at h
    obtain ⟨k, rfl⟩ : ∃ k', k = k' + 1 := ⟨k - 1, by omega⟩
    exact drawOk1_inv h.1 (by simpa using h2) (by simpa using h3)
  | y :: l, q :: ps, i0, i + 1, k, o, x, p, h, hl, hik, h1, h2, h3 => by
    simp only [drawOk, Bool.and_eq_true] at h
    obtain ⟨k, rfl⟩ : ∃ k', k = k' + 1 := ⟨k - 1, by omega⟩
    have := drawOk_inv (i := i) (k := k) h.2 (by simpa using hl) (by omega) (by simpa using h1) (by simpa using h2) (by simpa using h3)
    rw [show i0 + (i + 1) = i0 + 1 + i by omega]
    exact this
theorem apartL_inv {l m : List Nat} (h : apartL l m = true) : ∀ b ∈ l, b ∉ m := by
  intro b hb hm
  have := List.all_eq_true.1 h b hb
  simp only [Bool.not_eq_true'] at this
  rw [List.any_eq_false] at this
  exact this b hm (Nat.beq_refl b)
theorem outside_inv {lo hi : Nat} {l : List Nat} (h : outside lo hi l = true) : ∀ b ∈ l, ¬ (lo ≤ b ∧ b < hi) := by
  intro b hb
  have := List.all_eq_true.1 h b hb
  simp only [Bool.or_eq_true] at this
  rcases this with h | h
  · have : b < lo := Nat.lt_of_succ_le (Nat.le_of_ble_eq_true h); omega
  · have := Nat.le_of_ble_eq_true h; omega
/-- What two operations without an order do to memory does not meet. -/
structure Conf (ri rk : OR) (lo hi : Nat) : Prop where
  r : ∀ b, b ∈ rk.R ∨ b ∈ rk.W → b ∉ ri.W ∧ ¬ (lo ≤ b ∧ b < hi)
  w : ∀ b, b ∈ ri.R ∨ b ∈ ri.W → b ∉ rk.W
section
variable {P : Program} {C : Ctx} {ρ : Env} {σ : Mp} {cur : Cur} {self : Task → St → Option Out} {ro : Option Nat} {n : Nat} {Q : Exit → Act → World → Prop} {ops : Array Oper} {nt base : Nat} {T T' : Tr CV} {s s' : St} {ms : List Mk} {a0 a : Act} {w0 : World}
/-- A region's run laid out, with what its operations' order says. -/
structure Lay (P : Program) (C : Ctx) (ρ : Env) (slf : Task → St → Option Out) (ops : Array Oper) (nt base : Nat) (T T' : Tr CV) (s s' : St) (ms : List Mk) (st : Nat → St) (tm : Nat → Tr CV) (or : Nat → OR) (pr : Nat → Nat → Prop) : Prop where
  st0 : st 0 = s
  tm0 : tm 0 = T
  stN : st ops.size = s'
  tmN : tm ops.size = T'
  one : ∀ i o, ops[i]? = some o → oneE C slf ops (tm i) (st i) o = some (or i) ∧ putT nt (tm i) o.dst (or i).val = some (tm (i + 1)) ∧ st (i + 1) = (or i).s ∧
    (∀ b ∈ (or i).R, b < (st i).next) ∧ (∀ b ∈ (or i).W, b < (st i).next) ∧ ms[i]? = some ⟨(or i).R, (or i).W, (st i).next, (st (i + 1)).next⟩
  frm : ∀ i, i < ops.size → Frm (st i) (st (i + 1)) (or i).W
  mono : ∀ i j, i ≤ j → j ≤ ops.size → (st i).next ≤ (st j).next
  pcs : ∀ i, i ≤ ops.size → ∃ L, s'.pc = L ++ (st i).pc
  edge : ∀ i o, ops[i]? = some o → ∀ e ∈ o.after.toList, Region.binds .any e = true → e.on < i
  pred : ∀ k i, pr k i → ∃ o, ops[k]? = some o ∧ ∃ e ∈ o.after.toList, Region.binds .any e = true ∧ (i = e.on ∨ pr e.on i)
  temps : ∀ i k o x, i < k → ops[i]? = some o → ops[k]? = some x → pr k i ∨ o.apart ops x = true
  conf : ∀ i k, i < k → k < ops.size → pr k i ∨ Conf (or i) (or k) (st i).next (st (i + 1)).next
theorem lay_of (hS : SelfOk P C ρ self) (h : opsE C self ops nt ops.toList T s = some (T', s', ms)) (hr : regOk ops = true) (hd : (quietB s.next ms || drawOk 0 ms (preds ops.toList [])) = true) :
    ∃ st tm or pr, Lay P C ρ self ops nt base T T' s s' ms st tm or pr := by
  obtain ⟨st, tm, or, e1, e2, e3, e4, e5, e6⟩ := opsE_trace hS h
  have hpl := pc_le (l := ops.toList) hS (fun i o ho => ⟨(e6 i o ho).1, (e6 i o ho).2.2.1⟩)
  have hlen : ops.toList.length = (preds ops.toList []).length := by rw [preds_length]; simp
  have hN : ops.toList.length = ops.size := by simp
  have toL : ∀ (i : Nat) (o : Oper), ops[i]? = some o ↔ ops.toList[i]? = some o := fun i o => by rw [Array.getElem?_toList]
  have mono : ∀ i j, i ≤ j → j ≤ ops.size → (st i).next ≤ (st j).next := fun i j hij hj => by
    have := (hpl (j - i) i (by omega)).1
    rwa [show i + (j - i) = j by omega] at this
  refine ⟨st, tm, or, fun k i => ∃ p, (preds ops.toList [])[k]? = some p ∧ p.testBit i = true, e1, e2, by rw [← hN]; exact e3, by rw [← hN]; exact e4, fun i o ho => e6 i o ((toL i o).1 ho), fun i hi => ?_, mono, fun i hi => ?_, fun i o ho e he hb => ?_, fun k i hk => ?_, fun i k o x hik ho hx => ?_, fun i k hik hk => ?_⟩
  · obtain ⟨h1, _, h3, _⟩ := e6 i _ (List.getElem?_eq_getElem (by omega))
    rw [h3]; exact oneE_frame hS h1
  · obtain ⟨L, hL⟩ := (hpl (ops.size - i) i (by omega)).2
    rw [show i + (ops.size - i) = ops.toList.length by omega, e3] at hL
    exact ⟨L, hL⟩
  · have := apartOk_edges hr hlen ((toL i o).1 ho) e he hb
    omega
  · obtain ⟨p, hp, hb⟩ := hk
    obtain ⟨o, h1, e, h2, h3, h4⟩ := preds_inv _ _ k p i (by simp) hp hb
    exact ⟨o, (toL k o).2 (by simpa using h1), e, h2, h3, h4⟩
  · have hk : k < (preds ops.toList []).length := by rw [← hlen]; exact (List.getElem?_eq_some_iff.1 ((toL k x).1 hx)).1
    rcases apartOk_inv hr hlen hik ((toL i o).1 ho) ((toL k x).1 hx) (List.getElem?_eq_getElem hk) with h | h
    · exact .inl ⟨_, List.getElem?_eq_getElem hk, by simpa using h⟩
    · exact .inr h
  · obtain ⟨_, _, _, _, _, hi6⟩ := e6 i _ (List.getElem?_eq_getElem (by omega))
    obtain ⟨_, _, _, hk4, _, hk6⟩ := e6 k _ (List.getElem?_eq_getElem (by omega))
    rcases Bool.or_eq_true _ _ |>.mp hd with hq | hq
    · have hq := List.all_eq_true.1 hq
      have qi := hq _ (List.mem_of_getElem? hi6)
      have qk := hq _ (List.mem_of_getElem? hk6)
      simp only [Bool.and_eq_true, List.isEmpty_iff, Bool.or_eq_true] at qi qk
      refine .inr ⟨fun b hb => ?_, fun b _ => by rw [qk.1]; simp⟩
      rw [qi.1]
      refine ⟨by simp, fun hlo => ?_⟩
      have h0 := mono 0 i (by omega) (by omega)
      rw [e1] at h0
      rcases hb with hb | hb
      · have : b < s.next := by
          rcases qk.2 with q | q
          · have h1 : (st k).next = s.next := Nat.eq_of_beq_eq_true q
            have := hk4 b hb
            omega
          · exact Nat.lt_of_succ_le (Nat.le_of_ble_eq_true (List.all_eq_true.1 q b hb))
        omega
      · rw [qk.1] at hb; cases hb
    · have hk' : k < (preds ops.toList []).length := by omega
      rcases drawOk_inv hq (by omega) hik hi6 hk6 (List.getElem?_eq_getElem hk') with h | h
      · exact .inl ⟨_, List.getElem?_eq_getElem hk', by simpa using h⟩
      · simp only [apartMk, Bool.and_eq_true] at h
        obtain ⟨⟨⟨⟨h1, h2⟩, h3⟩, h4⟩, h5⟩ := h
        refine .inr ⟨fun b hb => ⟨fun hw => ?_, ?_⟩, fun b hb => ?_⟩
        · rcases hb with hb | hb
          · exact apartL_inv h1 b hw hb
          · exact apartL_inv h2 b hw hb
        · rcases hb with hb | hb
          · exact outside_inv h4 b hb
          · exact outside_inv h5 b hb
        · rcases hb with hb | hb
          · exact apartL_inv h3 b hb
          · exact apartL_inv h2 b hb
/-- What an operation changes of canonical memory. -/
def Mod (st : Nat → St) (or : Nat → OR) (i b : Nat) : Prop := b ∈ (or i).W ∨ ((st i).next ≤ b ∧ b < (st (i + 1)).next)
/-- What holds when just the operations of a set have come up. -/
structure InvD (ρ : Env) (σ : Mp) (cur : Cur) (ops : Array Oper) (nt base : Nat) (s s' : St) (ms : List Mk) (st : Nat → St) (tm : Nat → Tr CV) (or : Nat → OR) (pr : Nat → Nat → Prop) (a0 : Act) (w0 : World) (S : Nat → Prop) (σ' : Mp) (cur' : Cur) (cT : Nat → CV) (a : Act) (w : World) : Prop where
  down : ∀ k, S k → ∀ i, pr k i → S i
  ext : ∀ b, (b < s.next ∨ s'.next ≤ b) → σ' b = σ b
  noneS : ∀ i, i < ops.size → ¬ S i → ∀ b, (st i).next ≤ b → b < (st (i + 1)).next → σ' b = none
  H : HR ρ σ' cur' w
  right : ∀ j, j ≤ ops.size → ∀ b, (b ∈ sumR base ms ∨ b ∈ sumW base ms ∨ base ≤ b) → b < (st j).next → (∀ i, i < j → ¬ S i → ¬ Mod st or i b) → (∀ i, j ≤ i → i < ops.size → S i → ¬ Mod st or i b) → cur' b = (st j).heap.get b
  out : ∀ b, (∀ i, i < ops.size → ¬ Mod st or i b) → cur' b = cur b
  K : Keeps σ base (sumW base ms) w0 w
  F : ∀ b l, s.next ≤ b → b < s'.next → σ' b = some l → w0.heap.size ≤ l.blk ∨ ∃ b0, (b0 ∈ sumW base ms ∨ base ≤ b0) ∧ ∃ l0, σ b0 = some l0 ∧ l0.blk = l.blk
  sz : a.tmps.size = nt
  df : a.defers = a0.defers
  T : ∀ t, VR ρ σ' (cT t) (a.tmps.getD t Go.undef)
  rightT : ∀ j, j ≤ ops.size → ∀ t, (∀ i o, i < j → ¬ S i → ops[i]? = some o → o.dst ≠ some t) → (∀ i o, j ≤ i → S i → ops[i]? = some o → o.dst ≠ some t) → cT t = rd (tm j) t
variable {st : Nat → St} {tm : Nat → Tr CV} {or : Nat → OR} {pr : Nat → Nat → Prop}
theorem Lay.nextS (L : Lay P C ρ self ops nt base T T' s s' ms st tm or pr) {i : Nat} (hi : i ≤ ops.size) : s.next ≤ (st i).next ∧ (st i).next ≤ s'.next := by
  have h1 := L.mono 0 i (Nat.zero_le _) hi
  have h2 := L.mono i ops.size hi (Nat.le_refl _)
  rw [L.st0] at h1; rw [L.stN] at h2
  exact ⟨h1, h2⟩
/-- A block that no operation has changed up to j reads as at first. -/
theorem Lay.same (L : Lay P C ρ self ops nt base T T' s s' ms st tm or pr) : ∀ {j k : Nat} {b : Nat}, j ≤ k → k ≤ ops.size → (∀ i, j ≤ i → i < k → ¬ Mod st or i b) → (st k).heap.get b = (st j).heap.get b := by
  intro j k b hjk hk hm
  obtain ⟨d, rfl⟩ : ∃ d, k = j + d := ⟨k - j, by omega⟩
  induction d with
  | zero => rfl
  | succ d ih =>
    have h1 := ih (by omega) (by omega) (fun i h1 h2 => hm i h1 (by omega))
    have h2 := hm (j + d) (by omega) (by omega)
    have hf := L.frm (j + d) (by omega)
    rw [show j + (d + 1) = j + d + 1 by omega, hf.get b (fun h => h2 (.inl h)) (fun h => h2 (.inr h)), h1]
theorem InvD.start (L : Lay P C ρ self ops nt base T T' s s' ms st tm or pr) (hH : HR ρ σ cur w0) (hA : ∀ b, b ∈ sumR base ms ∨ b ∈ sumW base ms ∨ (base ≤ b ∧ b < s.next) → cur b = s.heap.get b) (hN : ∀ b, s.next ≤ b → b < s'.next → σ b = none) (hF : FRn ρ σ nt T a0 a) (hb : base ≤ s.next) :
    InvD ρ σ cur ops nt base s s' ms st tm or pr a0 w0 (fun _ => False) σ cur (rd T) a w0 := by
  refine ⟨fun _ h => h.elim, fun _ _ => rfl, fun i hi _ b h1 h2 => ?_, hH, fun j hj b hD hlt h1 _ => ?_, fun _ _ => rfl, Keeps.refl _ _ _ _, fun b l h1 h2 h3 => ?_, hF.1, hF.2.2, hF.2.1, fun j hj t h1 _ => ?_⟩
  · have := L.nextS (i := i) (by omega)
    have := L.nextS (i := i + 1) (by omega)
    exact hN b (by omega) (by omega)
  · have hs : b < s.next := by
      rcases Nat.lt_or_ge b s.next with h | h
      · exact h
      · exfalso
        -- some operation before j made it
        have : ∀ k, k ≤ j → (st k).next ≤ b := by
          intro k
          induction k with
          | zero => intro _; rw [L.st0]; exact h
          | succ k ih =>
            intro hk
            rcases Nat.lt_or_ge b (st (k + 1)).next with h2 | h2
            · exact absurd (.inr ⟨ih (by omega), h2⟩) (h1 k (by omega) (fun h => h))
            · exact h2
        have := this j (Nat.le_refl _)
        omega
    rw [L.same (Nat.zero_le j) hj (fun i _ hi => h1 i hi (fun h => h)), L.st0]
    refine hA b ?_
    rcases hD with h | h | h
    · exact .inl h
    · exact .inr (.inl h)
    · exact .inr (.inr ⟨h, hs⟩)
  · rw [hN b h1 h2] at h3; cases h3
  · have : ∀ k, k ≤ j → rd (tm k) t = rd T t := by
      intro k
      induction k with
      | zero => intro _; rw [L.tm0]
      | succ k ih =>
        intro hk
        have hlt : k < ops.size := by omega
        obtain ⟨_, h2, _⟩ := L.one k _ (Array.getElem?_eq_getElem hlt)
        have hne := h1 k _ (by omega) (fun h => h) (Array.getElem?_eq_getElem hlt)
        rw [← ih (by omega)]
        unfold putT at h2
        split at h2
        · injection h2 with h2; rw [h2]
        · rename_i d hd
          cases hbl : Nat.blt d nt with
          | false => rw [hbl, cond_false] at h2; cases h2
          | true =>
            rw [hbl, cond_true] at h2
            injection h2 with h2
            rw [← h2]
            simp only [rd, Tr.get_set]
            rw [if_neg (fun h => hne (by rw [hd, h]))]
    exact (this j (Nat.le_refl _)).symm
/-- One operation more. -/
theorem InvD.step {S : Nat → Prop} {σ1 : Mp} {cur1 : Cur} {cT : Nat → CV} {w : World} {k : Nat} {o : Oper} {K : Act → World → Prop} (L : Lay P C ρ self ops nt base T T' s s' ms st tm or pr) (hC : CtxOk2 P C) (hS : SelfOk P C ρ self) (hp : ∀ p ∈ s'.pc, p.holds ρ) (hb : base ≤ s.next) (hN : ∀ b, s.next ≤ b → b < s'.next → σ b = none)
    (I : InvD ρ σ cur ops nt base s s' ms st tm or pr a0 w0 S σ1 cur1 cT a w) (hk : ops[k]? = some o) (hkS : ¬ S k) (hpr : ∀ i, pr k i → S i)
    (hK : ∀ σ2 cur2 cT2 a2 w2, InvD ρ σ cur ops nt base s s' ms st tm or pr a0 w0 (fun i => S i ∨ i = k) σ2 cur2 cT2 a2 w2 → K a2 w2) : OpGoal P ro n ops Q o K a w := by
  obtain ⟨g1, g2, g3, g4, g5, g6⟩ := L.one k o hk
  have hlt : k < ops.size := (Array.getElem?_eq_some_iff.1 hk).1
  have hf := L.frm k hlt
  have hsk := L.nextS (i := k) (by omega)
  have hsk1 := L.nextS (i := k + 1) (by omega)
  have hkk1 := hf.next
  have hfO : Frm (st k) (or k).s (or k).W := by rw [← g3]; exact hf
  have hpk : ∀ p ∈ (or k).s.pc, p.holds ρ := fun p hp' => hp p (by obtain ⟨X, hX⟩ := L.pcs (k + 1) (by omega); rw [hX, g3]; simp [hp'])
  -- what the operation reads and writes is as at its place in the text
  have hD : ∀ b, b ∈ (or k).R ∨ b ∈ (or k).W → (b ∈ sumR base ms ∨ b ∈ sumW base ms ∨ base ≤ b) := by
    intro b hb'
    by_cases h : b < base
    · rcases hb' with hb' | hb'
      · exact .inl (sumR_mem g6 b hb' h)
      · exact .inr (.inl (sumW_mem g6 b hb' h))
    · exact .inr (.inr (by omega))
  have hlt2 : ∀ b, b ∈ (or k).R ∨ b ∈ (or k).W → b < (st k).next := fun b hb' => by
    rcases hb' with hb' | hb'
    · exact g4 b hb'
    · exact g5 b hb'
  -- an operation that came up though it stands behind this one
  have late : ∀ i, k < i → S i → ¬ pr i k := fun i _ hSi hpi => hkS (I.down i hSi k hpi)
  have hA : ∀ b, b ∈ (or k).R ∨ b ∈ (or k).W → cur1 b = (st k).heap.get b := by
    intro b hb'
    refine I.right k (by omega) b (hD b hb') (hlt2 b hb') (fun i hi hSi => ?_) (fun i hi hin hSi => ?_)
    · rcases L.conf i k hi hlt with h | h
      · exact absurd (hpr i h) hSi
      · intro hm
        obtain ⟨h1, h2⟩ := h.r b hb'
        rcases hm with hm | hm
        · exact h1 hm
        · exact h2 hm
    · have hne : i ≠ k := fun e => hkS (e ▸ hSi)
      intro hm
      rcases L.conf k i (by omega) hin with h | h
      · exact late i (by omega) hSi h
      · rcases hm with hm | hm
        · exact h.w b hb' hm
        · have := L.mono k i (by omega) (by omega)
          have := hlt2 b hb'
          omega
  have hNk : ∀ b, (st k).next ≤ b → b < (or k).s.next → σ1 b = none := fun b h1 h2 => I.noneS k hlt hkS b h1 (by rw [g3]; exact h2)
  -- the temporaries that it looks at
  have hL : Looks ρ σ1 (tm k) a ops o := by
    intro t ht
    have := I.T t
    rw [I.rightT k (by omega) t (fun i oi hi hSi hoi hdi => ?_) (fun i oi hi hSi hoi hdi => ?_)] at this
    · exact this
    · rcases L.temps i k oi o hi hoi hk with h | h
      · exact hSi (hpr i h)
      · exact (Oper.apart_spec h).1 t hdi ht
    · have hne : i ≠ k := fun e => hkS (e ▸ hSi)
      rcases L.temps k i o oi (by omega) hk hoi with h | h
      · exact late i (by omega) hSi h
      · exact (Oper.apart_spec h).2.2 t hdi ht
  refine oneE_sound hC hS g1 hpk hL I.H hA hNk (fun v w' hpost => ?_)
  obtain ⟨σ2, p1, p2, p3, p4, p5⟩ := hpost
  have hle : σ1.le σ2 := p1.le hNk
  rw [← g3] at p1 p3 p5
  have hWk : ∀ b ∈ (or k).W, b ∈ sumW base ms ∨ base ≤ b := fun b hb' => by
    by_cases h : b < base
    · exact .inl (sumW_mem g6 b hb' h)
    · exact .inr (by omega)
  have old : ∀ b l, (b ∈ (or k).W ∨ (st k).next ≤ b) → σ1 b = some l → w0.heap.size ≤ l.blk ∨ ∃ b0, (b0 ∈ sumW base ms ∨ base ≤ b0) ∧ ∃ l0, σ b0 = some l0 ∧ l0.blk = l.blk := by
    intro b l hb' hl
    by_cases hr : s.next ≤ b ∧ b < s'.next
    · exact I.F b l hr.1 hr.2 hl
    · rw [I.ext b (by omega)] at hl
      refine .inr ⟨b, ?_, l, hl, rfl⟩
      rcases hb' with hb' | hb'
      · exact hWk b hb'
      · exact .inr (by omega)
  have modk : ∀ b, Mod st or k b ↔ (b ∈ (or k).W ∨ ((st k).next ≤ b ∧ b < (st (k + 1)).next)) := fun _ => Iff.rfl
  refine hK σ2 (upd cur1 (st k).next (st (k + 1)).next (st (k + 1)).heap (or k).W) (fun t => if o.dst = some t then (or k).val else cT t) _ w' ?_
  refine ⟨fun j hj i hi => ?_, fun b hb' => ?_, fun i hi hSi b h1 h2 => ?_, ?_, fun j hj b hDb hltb c1 c2 => ?_, fun b hm => ?_, ?_, fun b l h1 h2 h3 => ?_, ?_, ?_, fun t => ?_, fun j hj t c1 c2 => ?_⟩
  · rcases hj with hj | rfl
    · exact .inl (I.down j hj i hi)
    · exact .inl (hpr i hi)
  · rw [p1 b (by omega), I.ext b hb']
  · have hne : i ≠ k := fun e => hSi (.inr e)
    have : b < (st k).next ∨ (st (k + 1)).next ≤ b := by
      rcases Nat.lt_or_gt_of_ne hne with h | h
      · have := L.mono (i + 1) k (by omega) (by omega); omega
      · have := L.mono (k + 1) i (by omega) (by omega); omega
    rw [p1 b this]
    exact I.noneS i hi (fun h => hSi (.inl h)) b h1 h2
  · rw [g3] at p3 ⊢; exact p3
  · show (if b ∈ (or k).W ∨ ((st k).next ≤ b ∧ b < (st (k + 1)).next) then _ else _) = _
    by_cases hm : Mod st or k b
    · rw [if_pos ((modk b).1 hm)]
      by_cases hkj : k < j
      · -- nothing between changes it
        refine (L.same (by omega) hj (fun i hi1 hi2 hmi => ?_)).symm
        by_cases hSi : S i ∨ i = k
        · rcases hSi with hSi | hSi
          · rcases L.conf k i (by omega) (by omega) with h | h
            · exact late i (by omega) hSi h
            · rcases hmi with hmi | hmi
              · rcases hm with hm | hm
                · exact h.w b (.inr hm) hmi
                · have := (h.r b (.inr hmi)).2; exact this hm
              · rcases hm with hm | hm
                · have := g5 b hm; have := L.mono k i (by omega) (by omega); omega
                · have := L.mono (k + 1) i (by omega) (by omega); omega
          · omega
        · exact c1 i hi2 hSi hmi
      · exact absurd hm (c2 k (by omega) hlt (.inr rfl))
    · rw [if_neg (fun h => hm ((modk b).2 h))]
      refine I.right j hj b hDb hltb (fun i hi hSi => ?_) (fun i hi hin hSi => c2 i hi hin (.inl hSi))
      by_cases e : i = k
      · subst e; exact hm
      · exact c1 i hi (fun h => by rcases h with h | h; · exact hSi h
                                   · exact e h)
  · show (if b ∈ (or k).W ∨ ((st k).next ≤ b ∧ b < (st (k + 1)).next) then _ else _) = _
    rw [if_neg (fun h => hm k hlt ((modk b).2 h))]
    exact I.out b hm
  · refine ⟨p4.os.trans I.K.os, p4.tape.trans I.K.tape, p4.output.trans I.K.output, Nat.le_trans I.K.size p4.size, fun x hx hne => ?_, fun k r hr => (I.K.loops k r hr).elim fun r1 h1 => p4.loops k r1 h1, fun k hr => p4.defd k (I.K.defd k hr)⟩
    rw [p4.block x (by have := I.K.size; omega) (fun b hb' l hl e => ?_), I.K.block x hx hne]
    rcases old b l hb' hl with h1 | ⟨b0, h0, l0, h1, h2⟩
    · omega
    · exact hne b0 h0 l0 h1 (h2.trans e)
  · by_cases hr : (st k).next ≤ b ∧ b < (st (k + 1)).next
    · rcases p5 b l hr.1 hr.2 h3 with h4 | ⟨b0, h0, l0, h5, h6⟩
      · exact .inl (by have := I.K.size; omega)
      · rcases old b0 l0 h0 h5 with h7 | ⟨b1, h8, l1, h9, h10⟩
        · exact .inl (by omega)
        · exact .inr ⟨b1, h8, l1, h9, h10.trans h6⟩
    · rw [p1 b (by omega)] at h3
      exact I.F b l h1 h2 h3
  · cases hd : o.dst with
    | none => simp [Act.put, I.sz]
    | some d => simp [Act.put, I.sz]
  · cases hd : o.dst with
    | none => exact I.df
    | some d => exact I.df
  · cases hd : o.dst with
    | none => simp only [Act.put, if_neg (by simp : ¬ (none = some t))]; exact (I.T t).mono hle
    | some d =>
      simp only [Act.put]
      by_cases e : d = t
      · subst e
        simp only [if_true]
        have hlt' : d < a.tmps.size := by
          rw [hd] at g2
          simp only [putT] at g2
          cases hbl : Nat.blt d nt with
          | false => rw [hbl, cond_false] at g2; cases g2
          | true => rw [I.sz]; exact Nat.lt_of_succ_le (Nat.le_of_ble_eq_true hbl)
        rw [Array.getD_eq_getD_getElem?, Array.getElem?_setIfInBounds_self_of_lt hlt']
        exact p2
      · rw [if_neg (by simpa using e), Array.getD_eq_getD_getElem?, Array.getElem?_setIfInBounds_ne e, ← Array.getD_eq_getD_getElem?]
        exact (I.T t).mono hle
  · show (if o.dst = some t then (or k).val else cT t) = _
    by_cases e : o.dst = some t
    · rw [if_pos e]
      by_cases hkj : k < j
      · -- the value that the operation put there
        have h0 : rd (tm (k + 1)) t = (or k).val := by
          rw [e] at g2
          simp only [putT] at g2
          cases hbl : Nat.blt t nt with
          | false => rw [hbl, cond_false] at g2; cases g2
          | true =>
            rw [hbl, cond_true] at g2
            injection g2 with g2
            rw [← g2]
            simp [rd, Tr.get_set]
        have : ∀ m, k + 1 ≤ m → m ≤ j → rd (tm m) t = (or k).val := by
          intro m
          induction m with
          | zero => intro h; omega
          | succ m ih =>
            intro h1 h2
            by_cases e2 : m = k
            · subst e2; exact h0
            · have hm1 := ih (by omega) (by omega)
              have hml : m < ops.size := by omega
              obtain ⟨_, q2, _⟩ := L.one m _ (Array.getElem?_eq_getElem hml)
              have hdm : ops[m].dst ≠ some t := by
                by_cases hSm : S m ∨ m = k
                · rcases hSm with hSm | hSm
                  · rcases L.temps k m o _ (by omega) hk (Array.getElem?_eq_getElem hml) with h | h
                    · exact absurd h (late m (by omega) hSm)
                    · exact (Oper.apart_spec h).2.1 t e
                  · omega
                · exact c1 m _ (by omega) hSm (Array.getElem?_eq_getElem hml)
              rw [← hm1]
              unfold putT at q2
              split at q2
              · injection q2 with q2; rw [q2]
              · rename_i d hd
                cases hbl : Nat.blt d nt with
                | false => rw [hbl, cond_false] at q2; cases q2
                | true =>
                  rw [hbl, cond_true] at q2
                  injection q2 with q2
                  rw [← q2]
                  simp only [rd, Tr.get_set]
                  rw [if_neg (fun h => hdm (by rw [hd, h]))]
        exact (this j (by omega) (Nat.le_refl _)).symm
      · exact absurd e (c2 k o (by omega) (.inr rfl) hk)
    · rw [if_neg e]
      refine I.rightT j hj t (fun i oi hi hSi hoi => ?_) (fun i oi hi hSi hoi => c2 i oi hi (.inl hSi) hoi)
      by_cases e2 : i = k
      · subst e2; rw [hk] at hoi; obtain rfl := Option.some.inj hoi; exact e
      · exact c1 i oi hi (fun h => by rcases h with h | h; · exact hSi h
                                      · exact e2 h) hoi
end
end Go.Proofs.Ytjdldcmcjaaibaa.Cx

/- Statements and calls: the evaluator's word holds. -/
namespace Go.Proofs.Ytjdldcmcjaaibaa.Cx
set_option linter.unusedSimpArgs false
set_option linter.unusedVariables false
open Go Go.RowKit
section
variable {P : Program} {C : Ctx} {ρ : Env} {σ : Mp} {cur : Cur} {self : Task → St → Option Out} {ro : Option Nat} {n : Nat} {Q : Exit → Act → World → Prop} {ops : Array Oper} {nt base : Nat} {T T' : Tr CV} {s s' : St} {ms : List Mk} {a0 a : Act} {w0 : World}
theorem lt_of_allLt {m : Nat} {l : List Nat} (h : allLt m l = true) : ∀ b ∈ l, b < m := fun b hb => Nat.lt_of_succ_le (Nat.le_of_ble_eq_true (List.all_eq_true.1 h b hb))
theorem getD_set {listed : Array Bool} {k i : Nat} (hk : k < listed.size) : (listed.setIfInBounds k true).getD i false = true ↔ (listed.getD i false = true ∨ i = k) := by
  rw [Array.getD_eq_getD_getElem?, Array.getD_eq_getD_getElem?]
  by_cases e : i = k
  · subst e; rw [Array.getElem?_setIfInBounds_self_of_lt hk]; simp
  · rw [Array.getElem?_setIfInBounds_ne (fun h => e h.symm)]; simp [e]
theorem InvD.congr {ms : List Mk} {st : Nat → St} {tm : Nat → Tr CV} {or : Nat → OR} {pr : Nat → Nat → Prop} {S S' : Nat → Prop} {σ' : Mp} {cur' : Cur} {cT : Nat → CV} {w : World} (h : InvD ρ σ cur ops nt base s s' ms st tm or pr a0 w0 S σ' cur' cT a w) (hS : ∀ i, S i ↔ S' i) : InvD ρ σ cur ops nt base s s' ms st tm or pr a0 w0 S' σ' cur' cT a w := by
  have : S = S' := funext fun i => propext (hS i)
  exact this ▸ h
/-- A region that draws its order. -/
theorem region_draw (hC : CtxOk2 P C) (hS : SelfOk P C ρ self) (h : opsE C self ops nt ops.toList T s = some (T', s', ms)) (hr : regOk ops = true) (hd : (quietB s.next ms || drawOk 0 ms (preds ops.toList [])) = true) (hp : ∀ p ∈ s'.pc, p.holds ρ) (hH : HR ρ σ cur w0) (hb : base ≤ s.next)
    (hA : ∀ b, b ∈ sumR base ms ∨ b ∈ sumW base ms ∨ (base ≤ b ∧ b < s.next) → cur b = s.heap.get b) (hN : ∀ b, s.next ≤ b → b < s'.next → σ b = none) (hF : FRn ρ σ nt T a0 a)
    (hQ : ∀ a' w', PostR ρ σ cur base s w0 nt T' s' (sumW base ms) a0 a' w' → Q .normal a' w') : wpAnyIn (fc ro) n P .any ops Q ops.size (Array.replicate ops.size false) a w0 := by
  obtain ⟨st, tm, or, pr, L⟩ := lay_of (base := base) hS h hr hd
  have fin : ∀ σ1 cur1 cT a1 w1, InvD ρ σ cur ops nt base s s' ms st tm or pr a0 w0 (fun i => i < ops.size) σ1 cur1 cT a1 w1 → Q .normal a1 w1 := by
    intro σ1 cur1 cT a1 w1 I
    have hnx := (L.nextS (i := ops.size) (Nat.le_refl _)).1
    rw [L.stN] at hnx
    have hcur : cur1 = upd cur base s'.next s'.heap (sumW base ms) := by
      funext b
      show _ = (if b ∈ sumW base ms ∨ (base ≤ b ∧ b < s'.next) then _ else _)
      by_cases c : b ∈ sumW base ms ∨ (base ≤ b ∧ b < s'.next)
      · rw [if_pos c]
        have := I.right ops.size (Nat.le_refl _) b (c.elim (fun c => .inr (.inl c)) (fun c => .inr (.inr c.1))) (by rw [L.stN]; exact c.elim (fun c => by have := sumW_lt c; omega) (fun c => c.2)) (fun i hi hn => absurd hi hn) (fun i h1 h2 => by omega)
        rw [L.stN] at this
        exact this
      · rw [if_neg c]
        refine I.out b (fun i hi hm => c ?_)
        obtain ⟨_, _, _, _, g5, g6⟩ := L.one i _ (Array.getElem?_eq_getElem hi)
        have h1 := L.nextS (i := i) (by omega)
        have h2 := L.nextS (i := i + 1) (by omega)
        rcases hm with hm | hm
        · by_cases hlt : b < base
          · exact .inl (sumW_mem g6 b hm hlt)
          · have := g5 b hm; exact .inr ⟨by omega, by omega⟩
        · exact .inr ⟨by omega, by omega⟩
    refine hQ a1 w1 ⟨σ1, ⟨fun b hb' => I.ext b hb', ?_, I.K, I.F⟩, I.sz, fun t => ?_, I.df⟩
    · rw [← hcur]; exact I.H
    · have := I.T t
      rw [I.rightT ops.size (Nat.le_refl _) t (fun i o hi hn => absurd hi hn) (fun i o hi hs ho => by have := (Array.getElem?_eq_some_iff.1 ho).1; omega), L.tmN] at this
      exact this
  have mem : ∀ (listed : Array Bool) (i : Nat), i ∈ Region.ready .any ops listed → i < ops.size ∧ listed.getD i true = false ∧ ∀ o, ops[i]? = some o → ∀ e ∈ o.after.toList, Region.binds .any e = true → listed.getD e.on false = true := by
    intro listed i hi
    simp only [Region.ready, List.mem_filter, List.mem_range, Bool.and_eq_true, Bool.not_eq_true'] at hi
    obtain ⟨h1, h2, h3⟩ := hi
    refine ⟨h1, h2, fun o ho e he hbd => ?_⟩
    rw [ho] at h3
    simp only [Option.map_some, Option.getD_some] at h3
    rw [← Array.all_toList] at h3
    have := List.all_eq_true.1 h3 e he
    rw [hbd] at this
    simpa using this
  have getDf : ∀ (listed : Array Bool) (i : Nat), i < listed.size → (listed.getD i true = listed.getD i false) := by
    intro listed i hi
    rw [Array.getD_eq_getD_getElem?, Array.getD_eq_getD_getElem?, Array.getElem?_eq_getElem hi]; rfl
  -- nothing is ready only where all has come up
  have nil : ∀ (listed : Array Bool), listed.size = ops.size → Region.ready .any ops listed = [] → ∀ i, i < ops.size → listed.getD i false = true := by
    intro listed hsz hrd i
    induction i using Nat.strongRecOn with
    | _ i ih =>
      intro hi
      cases hl : listed.getD i false with
      | true => rfl
      | false =>
        exfalso
        have : i ∈ Region.ready .any ops listed := by
          simp only [Region.ready, List.mem_filter, List.mem_range, Bool.and_eq_true, Bool.not_eq_true']
          refine ⟨hi, by rw [getDf listed i (by omega)]; exact hl, ?_⟩
          rw [Array.getElem?_eq_getElem hi]
          simp only [Option.map_some, Option.getD_some]
          rw [← Array.all_toList, List.all_eq_true]
          intro e he
          cases hbd : Region.binds .any e with
          | false => rfl
          | true =>
            have hlt := L.edge i _ (Array.getElem?_eq_getElem hi) e he hbd
            simpa using ih e.on hlt (by omega)
        rw [hrd] at this; cases this
  have key : ∀ (m : Nat) (listed : Array Bool) σ1 cur1 cT a1 w1, listed.size = ops.size → ((List.range ops.size).filter fun i => !listed.getD i false).length = m →
      InvD ρ σ cur ops nt base s s' ms st tm or pr a0 w0 (fun i => i < ops.size ∧ listed.getD i false = true) σ1 cur1 cT a1 w1 → wpAnyIn (fc ro) n P .any ops Q m listed a1 w1 := by
    intro m
    induction m with
    | zero =>
      intro listed σ1 cur1 cT a1 w1 hsz hcnt I
      have hall : ∀ i, i < ops.size → listed.getD i false = true := by
        intro i hi
        have := List.eq_nil_of_length_eq_zero hcnt
        rw [List.filter_eq_nil_iff] at this
        simpa using this i (List.mem_range.2 hi)
      refine ⟨?_, fin _ _ _ _ _ (I.congr fun i => ⟨fun h => h.1, fun h => ⟨h, hall i h⟩⟩)⟩
      cases hrd : Region.ready .any ops listed with
      | nil => rfl
      | cons x l =>
        exfalso
        obtain ⟨h1, h2, _⟩ := mem listed x (by rw [hrd]; simp)
        rw [getDf listed x (by omega), hall x h1] at h2
        cases h2
    | succ m ih =>
      intro listed σ1 cur1 cT a1 w1 hsz hcnt I
      refine ⟨fun hrd => fin _ _ _ _ _ (I.congr fun i => ⟨fun h => h.1, fun h => ⟨h, nil listed hsz hrd i h⟩⟩), fun k hk => ?_⟩
      obtain ⟨h1, h2, h3⟩ := mem listed k hk
      rw [getDf listed k (by omega)] at h2
      have hkS : ¬ (k < ops.size ∧ listed.getD k false = true) := fun h => by rw [h2] at h; cases h.2
      have hok := Array.getElem?_eq_getElem h1
      have hpr : ∀ i, pr k i → (i < ops.size ∧ listed.getD i false = true) := by
        intro i hpi
        obtain ⟨o, ho, e, he, hbd, hor⟩ := L.pred k i hpi
        have hlt := L.edge k o ho e he hbd
        have hle := h3 o ho e he hbd
        rcases hor with rfl | hor
        · exact ⟨by omega, hle⟩
        · exact I.down e.on ⟨by omega, hle⟩ i hor
      unfold wpOpIn
      rw [hok]
      show OpGoal P ro n ops Q ops[k] _ a1 w1
      refine I.step L hC hS hp hb hN hok hkS hpr (fun σ2 cur2 cT2 a2 w2 I2 => ?_)
      refine ih _ σ2 cur2 cT2 a2 w2 (by simp [hsz]) ?_ (I2.congr fun i => ?_)
      · -- one fewer is left
        have hperm : ((List.range ops.size).filter fun i => !(listed.setIfInBounds k true).getD i false) = ((List.range ops.size).filter fun i => !listed.getD i false).filter (fun i => i != k) := by
          rw [List.filter_filter]
          apply List.filter_congr
          intro i hi
          rw [Bool.eq_iff_iff]
          have := getD_set (listed := listed) (k := k) (i := i) (by omega)
          cases hx : (listed.setIfInBounds k true).getD i false <;> cases hy : listed.getD i false <;> simp [hx, hy] at this ⊢
          all_goals omega
        rw [hperm]
        have hnd : ((List.range ops.size).filter fun i => !listed.getD i false).Nodup := List.Pairwise.filter _ List.nodup_range
        have hmem : k ∈ (List.range ops.size).filter fun i => !listed.getD i false := List.mem_filter.2 ⟨List.mem_range.2 h1, by rw [h2]; rfl⟩
        have := List.Nodup.erase_eq_filter hnd k
        rw [← this, List.length_erase_of_mem hmem, hcnt]; rfl
      · rw [getD_set (by omega)]
        constructor
        · rintro (h | h)
          · exact ⟨h.1, .inl h.2⟩
          · exact ⟨by omega, .inr h⟩
        · rintro ⟨h, h' | h'⟩
          · exact .inl ⟨h, h'⟩
          · exact .inr h'
  refine key ops.size _ σ cur (rd T) a w0 (by simp) ?_ ((InvD.start L hH hA hN hF hb).congr fun i => ⟨fun h => h.elim, fun h => ?_⟩)
  · have : ((List.range ops.size).filter fun i => !(Array.replicate ops.size false).getD i false) = List.range ops.size := by
      rw [List.filter_eq_self]
      intro i hi
      rw [Array.getD_eq_getD_getElem?, Array.getElem?_replicate]
      split <;> rfl
    rw [this]; simp
  · have := h.2
    rw [Array.getD_eq_getD_getElem?, Array.getElem?_replicate] at this
    split at this <;> cases this
end
end Go.Proofs.Ytjdldcmcjaaibaa.Cx

/- Statements and calls: the evaluator's word holds. -/
namespace Go.Proofs.Ytjdldcmcjaaibaa.Cx
set_option linter.unusedSimpArgs false
set_option linter.unusedVariables false
open Go Go.RowKit
/-- A scope that no goto leaves, in a round or not. -/
theorem wpIn_scope {F : Fence} {n : Nat} {P : Program} {Q : Exit → Act → World → Prop} {a : Act} {w : World} {c : Code} (h : c.wpIn F n P (Exit.noGoto Q) a w) : (Code.scope c).wpIn F n P Q a w := by
  intro b k cs hro hb hr
  have s1 : step P (lone (b.atR a (.code (.scope c) :: k)) cs w) = .next (lone (b.atR a (.code c :: .inScope c :: k)) cs w) := step_lone_go (by simp [stepG, stepG.exec, Frame.atR])
  have s2 : ∀ a w, step P (lone (b.atR a (.inScope c :: k)) cs w) = .next (lone (b.atR a k) cs w) := fun a w => step_lone_go (by simp [stepG, stepG.exec, Frame.atR])
  obtain ⟨e, a₁, w₁, hq, harr⟩ := h b (.inScope c :: k) cs hro hb hr
  have h0 : (lone (b.atR a (.code (.scope c) :: k)) cs w).fenced P F := fenced_calm hb hr rfl
  cases e with
  | normal => exact ⟨.normal, a₁, w₁, hq, .head h0 s1 (StepsIn.trans harr (.one (fenced_calm hb hr rfl) (s2 _ _)))⟩
  | exit id => exact ⟨.exit id, a₁, w₁, hq, .of_steps (.one h0 s1) ⟨fun k' hk => harr.1 k' (by simp [exitTo, hk]), fun hr' hk => harr.2 hr' (by simp [exitTo, hk])⟩⟩
  | goto l => exact hq.elim
  | ret => exact ⟨_, a₁, w₁, hq, .of_steps (.one h0 s1) harr⟩
  | panic ch => exact ⟨_, a₁, w₁, hq, .of_steps (.one h0 s1) harr⟩
  | outgrown => exact ⟨_, a₁, w₁, hq, .of_steps (b := b) (k := k) (cs := cs) (e := .outgrown) (.one h0 s1) harr⟩
theorem sumR_lt {base : Nat} : ∀ {ms : List Mk} {b : Nat}, b ∈ sumR base ms → b < base
  | [], b, h => by simp [sumR] at h
  | x :: l, b, h => by
    rcases join_mem.1 h with h | h
    · exact h.2
    · exact sumR_lt h
theorem opsE_frame {P : Program} {C : Ctx} {ρ : Env} {self : Task → St → Option Out} {ops : Array Oper} {nt base : Nat} {T T' : Tr CV} {s s' : St} {ms : List Mk} (hS : SelfOk P C ρ self) (h : opsE C self ops nt ops.toList T s = some (T', s', ms)) (hb : base ≤ s.next) : FrmB base s s' (sumW base ms) := by
  obtain ⟨st, tm, or, e1, e2, e3, e4, e5, e6⟩ := opsE_trace hS h
  have hpl := pc_le (l := ops.toList) hS (fun i o ho => ⟨(e6 i o ho).1, (e6 i o ho).2.2.1⟩)
  have h0 := hpl ops.toList.length 0 (by omega)
  rw [Nat.zero_add, e1, e3] at h0
  refine ⟨h0.1, fun b hb1 hb2 => ?_, h0.2⟩
  have : ∀ i, i ≤ ops.toList.length → (st i).heap.get b = s.heap.get b := by
    intro i
    induction i with
    | zero => intro _; rw [e1]
    | succ i ih =>
      intro hi
      obtain ⟨g1, _, g3, _, g5, g6⟩ := e6 i _ (List.getElem?_eq_getElem (by omega))
      have hf := oneE_frame hS g1
      rw [← g3] at hf
      have l1 := hpl i 0 (by omega)
      rw [Nat.zero_add, e1] at l1
      have l2 := hpl (ops.toList.length - (i + 1)) (i + 1) (by omega)
      rw [show i + 1 + (ops.toList.length - (i + 1)) = ops.toList.length by omega, e3] at l2
      have l3 := hf.next
      rw [hf.get b (fun hw => ?_) (fun hr => hb2 ⟨by omega, by omega⟩)]
      · exact ih (by omega)
      · by_cases hlt : b < base
        · exact hb1 (sumW_mem g6 b hw hlt)
        · have := g5 b hw; exact hb2 ⟨by omega, by omega⟩
  have := this ops.toList.length (Nat.le_refl _)
  rwa [e3] at this
section
variable {P : Program} {C : Ctx} {ρ : Env} {m base nt : Nat} {T T' : Tr CV} {s s' : St} {R W : List Nat} {e : Ex}
theorem FrmB.refl (base : Nat) (s : St) (W : List Nat) : FrmB base s s W := ⟨Nat.le_refl _, fun _ _ _ => rfl, [], rfl⟩
theorem FrmB.trans {s1 s2 : St} {W1 W2 : List Nat} (h1 : FrmB base s s1 W1) (h2 : FrmB base s1 s2 W2) {W : List Nat} (hW1 : ∀ b ∈ W1, b ∈ W) (hW2 : ∀ b ∈ W2, b ∈ W) : FrmB base s s2 W := by
  obtain ⟨l1, p1⟩ := h1.pc
  obtain ⟨l2, p2⟩ := h2.pc
  have n1 := h1.next
  have n2 := h2.next
  refine ⟨Nat.le_trans n1 n2, fun b hb hn => ?_, l2 ++ l1, by rw [p2, p1, List.append_assoc]⟩
  rw [h2.get b (fun h => hb (hW2 b h)) hn, h1.get b (fun h => hb (hW1 b h)) (by omega)]
theorem FrmB.more {W' : List Nat} (h : FrmB base s s' W) (hW : ∀ b ∈ W, b ∈ W') : FrmB base s s' W' := ⟨h.next, fun b hb hn => h.get b (fun h' => hb (hW b h')) hn, h.pc⟩
theorem region_ok {rid : Nat} {ops : Array Oper} {draw : Bool} {self : Task → St → Option Out} {ms : List Mk} (hC : CtxOk2 P C) (hS : SelfOk P C ρ self) (hb : base ≤ s.next) (h : opsE C self ops nt ops.toList T s = some (T', s', ms)) (hd : (!draw || quietB s.next ms || drawOk 0 ms (preds ops.toList [])) = true) :
    CodeOk P ρ m base (.region rid ops draw) nt T s .normal T' s' (sumR base ms) (sumW base ms) := by
  have hfr := opsE_frame (base := base) hS h hb
  refine ⟨hfr, fun b hb => hb.elim sumR_lt sumW_lt, ?_⟩
  intro hr Wt ro n Q σ cur w a0 a hW hWl hp hro hH hA hN hF hQ
  have hA' : ∀ b, b ∈ sumR base ms ∨ b ∈ sumW base ms ∨ (base ≤ b ∧ b < s.next) → cur b = s.heap.get b := fun b hb' => hA b (hb'.imp (fun x => x) (Or.imp (hW b) (fun x => x)))
  have hQ' : ∀ a' w', PostR ρ σ cur base s w nt T' s' (sumW base ms) a0 a' w' → Q .normal a' w' := by
    rintro a' w' ⟨σ', hI, hF'⟩
    refine hQ a' w' (PostR.toC ⟨σ', hI.weaken hW (fun b hb1 hb2 hb3 => ?_), hF'⟩)
    rw [hfr.get b hb2 hb3]
    exact hA b (.inr (.inl hb1))
  show (Code.region rid ops draw).wpIn (fc ro) n P Q a w
  cases draw with
  | false => exact wpIn_region (region_text hC hS h hp hH hb hA' hN hF hQ')
  | true =>
    refine wpIn_region_any hC.mixed ?_
    have hd' : (quietB s.next ms || drawOk 0 ms (preds ops.toList [])) = true := by simpa using hd
    have hr' : regOk ops = true := by simpa [regsOk] using hr
    refine region_draw (w0 := w.drew) hC hS h hr' hd' hp hH.drew hb hA' hN hF ?_
    rintro a' w' ⟨σ', hI, hF'⟩
    exact hQ' a' w' ⟨σ', ⟨hI.ext, hI.H, ⟨hI.K.os, hI.K.tape, hI.K.output, hI.K.size, hI.K.block, hI.K.loops, hI.K.defd⟩, hI.F⟩, hF'⟩
theorem args0_get : ∀ (l : List CV) (i : Nat) (T : Tr CV) (t : Nat), rd (args0 i l T) t = if h : i ≤ t ∧ t < i + l.length then l[t - i] else rd T t
  | [], i, T, t => by
    simp only [args0]
    rw [dif_neg (by simp)]
  | c :: l, i, T, t => by
    simp only [args0]
    rw [args0_get l (i + 1) _ t]
    by_cases h1 : i + 1 ≤ t ∧ t < i + 1 + l.length
    · rw [dif_pos h1, dif_pos (by simp; omega)]
      simp only [show t - i = (t - (i + 1)) + 1 by omega, List.getElem_cons_succ]
    · rw [dif_neg h1]
      simp only [rd, Tr.get_set]
      by_cases h2 : t = i
      · subst h2
        rw [if_pos rfl, dif_pos (by simp)]
        simp
      · rw [if_neg h2, dif_neg (by simp; omega)]
theorem args0_rel {σ : Mp} {args : List CV} {args' : Array Value} {nt : Nat} (h : VRl ρ σ args args'.toList) (hl : args.length ≤ nt) (ds : List Deferred) : FRn ρ σ nt (args0 0 args .nil) ⟨args' ++ Array.replicate (nt - args'.size) Go.undef, []⟩ ⟨args' ++ Array.replicate (nt - args'.size) Go.undef, []⟩ := by
  have hlen := h.length
  simp only [Array.length_toList] at hlen
  refine ⟨by simp; omega, fun t => ?_, rfl⟩
  rw [args0_get, Array.getD_eq_getD_getElem?]
  by_cases ht : 0 ≤ t ∧ t < 0 + args.length
  · rw [dif_pos ht]
    simp only [Nat.zero_add, Nat.sub_zero] at ht ⊢
    obtain ⟨v, h1, h2⟩ := h.get (List.getElem?_eq_getElem ht.2)
    rw [Array.getElem?_toList] at h1
    rw [Array.getElem?_append_left (by omega), h1]
    exact h2
  · rw [dif_neg ht]
    have h0 : rd (.nil : Tr CV) t = .any := by simp [rd, Tr.get_nil]
    rw [h0]
    exact .any _
theorem resE_lt : ∀ {l : List ResultVar} {vs : List CV} {R : List Nat}, resE C T s l = some (vs, R) → ∀ b ∈ R, b < s.next
  | [], vs, R, h => by simp only [resE] at h; cases h; intro b hb; cases hb
  | .tmp t :: l, vs, R, h => by
    simp only [resE] at h
    split at h
    · rename_i h'; cases h; exact resE_lt h'
    · cases h
  | .cell x t :: l, vs, R, h => by
    simp only [resE] at h
    split at h
    · rename_i q b o m R' hq hx h'
      simp only [Bool.cond_eq_ite] at h
      split at h
      · split at h
        · rename_i hl
          cases h
          intro y hy
          rcases List.mem_cons.1 hy with rfl | hy
          · exact (Lts.ld hl).1 _ (by simp)
          · exact resE_lt h' y hy
        · cases h
      · split at h
        · rename_i hl
          cases h
          intro y hy
          rcases List.mem_cons.1 hy with rfl | hy
          · exact (Lts.ld hl).1 _ (by simp)
          · exact resE_lt h' y hy
        · cases h
    · cases h
/-- One result of a function, read at its end. -/
def resF (a : Act) : ResultVar → Sem Value
  | .tmp t => pure (a.tmps.getD t Go.undef)
  | .cell x t => do loadVar t (← asAddr (a.tmps.getD x Go.undef))
theorem res_run {σ : Mp} {cur : Cur} {w : World} {a : Act} (hC : CtxOk P C) (hH : HR ρ σ cur w) (hF : FR ρ σ T a) : ∀ {l : List ResultVar} {vs : List CV} {R : List Nat}, resE C T s l = some (vs, R) → (∀ b ∈ R, cur b = s.heap.get b) →
    ∃ ws : List Value, (l.mapM (resF a)).run P w = .ok ws w ∧ VRl ρ σ vs ws
  | [], vs, R, h, _ => by simp only [resE] at h; cases h; exact ⟨[], rfl, .nil⟩
  | .tmp t :: l, vs, R, h, hA => by
    simp only [resE] at h
    split at h
    · rename_i m R' h'
      cases h
      obtain ⟨ws, h1, h2⟩ := res_run hC hH hF h' hA
      have h3 : (resF a (.tmp t)).run P w = .ok (a.tmps.getD t Go.undef) w := rfl
      exact ⟨a.tmps.getD t Go.undef :: ws, by simp only [List.mapM_cons, Sem.run_bind, Sem.run_pure, Result.andThen, h1, h3], .cons (hF t) h2⟩
    · cases h
  | .cell x t :: l, vs, R, h, hA => by
    simp only [resE] at h
    split at h
    · rename_i q b o m R' hq hx h'
      obtain ⟨lc, hl, hv⟩ := (hx ▸ hF x : VR ρ σ (.ptr (some (b, o))) _).ptr_inv
      have hag := (hC.ty _ _ hq).isAgg' w
      have hsz := (hC.ty _ _ hq).sizeOf' w
      cases hqa : q.agg with
      | true =>
        rw [hqa, cond_true] at h
        split at h
        · rename_i cs hcs
          cases h
          obtain ⟨ws, h1, h2⟩ := res_run hC hH hF h' (fun b hb => hA b (by simp [hb]))
          obtain ⟨us, p1, p2, _, _⟩ := ld_run (P := P) hH hcs (hA b (by simp)) hl
          have h3 : (resF a (.cell x t)).run P w = .ok (.agg us.toArray) w := by
            simp only [resF, Sem.run_bind, hv, asAddr, Sem.run_pure, Result.andThen, loadVar, hag, hqa, if_true, hsz, p1, Sem.run_map]
          refine ⟨.agg us.toArray :: ws, ?_, .cons (.agg p2) h2⟩
          simp only [List.mapM_cons, Sem.run_bind, Sem.run_pure, Result.andThen, h3, h1]
        · cases h
      | false =>
        rw [hqa, cond_false] at h
        split at h
        · rename_i c hcs
          cases h
          obtain ⟨ws, h1, h2⟩ := res_run hC hH hF h' (fun b hb => hA b (by simp [hb]))
          obtain ⟨u, p1, p2⟩ := ld_run1 (P := P) hH hcs (hA b (by simp)) hl
          have h3 : (resF a (.cell x t)).run P w = .ok u w := by
            simp only [resF, Sem.run_bind, hv, asAddr, Sem.run_pure, Result.andThen, loadVar, hag, hqa, Bool.false_eq_true, if_false, p1]
          refine ⟨u :: ws, ?_, .cons p2 h2⟩
          simp only [List.mapM_cons, Sem.run_bind, Sem.run_pure, Result.andThen, h3, h1]
        · cases h
    · cases h
end
end Go.Proofs.Ytjdldcmcjaaibaa.Cx
