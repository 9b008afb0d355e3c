/- Statements and calls: the evaluator's word holds. -/
import Derived.Test.YtknphpihipkdpaaCxN
set_option linter.unusedSimpArgs false
set_option linter.unusedVariables false
namespace Go.Proofs.Ytknphpihipkdpaa.Cx
open Go Go.RowKit

/-- A scope that no goto leaves, in a round or not. -/
theorem wpIn_scope {F : Fence} {n : Nat} {P : Program} {Q : Exit → Act → World → Prop} {a : Act} {w : World} {c : Code} (h : c.wpIn F n P (Exit.noGoto Q) a w) : (Code.scope c).wpIn F n P Q a w := by
  intro b k cs hro hb hr
  have s1 : step P (lone (b.atR a (.code (.scope c) :: k)) cs w) = .next (lone (b.atR a (.code c :: .inScope c :: k)) cs w) := step_lone_go (by simp [stepG, stepG.exec, Frame.atR])
  have s2 : ∀ a w, step P (lone (b.atR a (.inScope c :: k)) cs w) = .next (lone (b.atR a k) cs w) := fun a w => step_lone_go (by simp [stepG, stepG.exec, Frame.atR])
  obtain ⟨e, a₁, w₁, hq, harr⟩ := h b (.inScope c :: k) cs hro hb hr
  have h0 : (lone (b.atR a (.code (.scope c) :: k)) cs w).fenced P F := fenced_calm hb hr rfl
  cases e with
  | normal => exact ⟨.normal, a₁, w₁, hq, .head h0 s1 (StepsIn.trans harr (.one (fenced_calm hb hr rfl) (s2 _ _)))⟩
  | exit id => exact ⟨.exit id, a₁, w₁, hq, .of_steps (.one h0 s1) ⟨fun k' hk => harr.1 k' (by simp [exitTo, hk]), fun hr' hk => harr.2 hr' (by simp [exitTo, hk])⟩⟩
  | goto l => exact hq.elim
  | ret => exact ⟨_, a₁, w₁, hq, .of_steps (.one h0 s1) harr⟩
  | panic ch => exact ⟨_, a₁, w₁, hq, .of_steps (.one h0 s1) harr⟩
  | outgrown => exact ⟨_, a₁, w₁, hq, .of_steps (b := b) (k := k) (cs := cs) (e := .outgrown) (.one h0 s1) harr⟩

theorem sumR_lt {base : Nat} : ∀ {ms : List Mk} {b : Nat}, b ∈ sumR base ms → b < base
  | [], b, h => by simp [sumR] at h
  | x :: l, b, h => by
    rcases join_mem.1 h with h | h
    · exact h.2
    · exact sumR_lt h

theorem opsE_frame {P : Program} {C : Ctx} {ρ : Env} {self : Task → St → Option Out} {ops : Array Oper} {nt base : Nat} {T T' : Tr CV} {s s' : St} {ms : List Mk} (hS : SelfOk P C ρ self) (h : opsE C self ops nt ops.toList T s = some (T', s', ms)) (hb : base ≤ s.next) : FrmB base s s' (sumW base ms) := by
  obtain ⟨st, tm, or, e1, e2, e3, e4, e5, e6⟩ := opsE_trace hS h
  have hpl := pc_le (l := ops.toList) hS (fun i o ho => ⟨(e6 i o ho).1, (e6 i o ho).2.2.1⟩)
  have h0 := hpl ops.toList.length 0 (by omega)
  rw [Nat.zero_add, e1, e3] at h0
  refine ⟨h0.1, fun b hb1 hb2 => ?_, h0.2⟩
  have : ∀ i, i ≤ ops.toList.length → (st i).heap.get b = s.heap.get b := by
    intro i
    induction i with
    | zero => intro _; rw [e1]
    | succ i ih =>
      intro hi
      obtain ⟨g1, _, g3, _, g5, g6⟩ := e6 i _ (List.getElem?_eq_getElem (by omega))
      have hf := oneE_frame hS g1
      rw [← g3] at hf
      have l1 := hpl i 0 (by omega)
      rw [Nat.zero_add, e1] at l1
      have l2 := hpl (ops.toList.length - (i + 1)) (i + 1) (by omega)
      rw [show i + 1 + (ops.toList.length - (i + 1)) = ops.toList.length by omega, e3] at l2
      have l3 := hf.next
      rw [hf.get b (fun hw => ?_) (fun hr => hb2 ⟨by omega, by omega⟩)]
      · exact ih (by omega)
      · by_cases hlt : b < base
        · exact hb1 (sumW_mem g6 b hw hlt)
        · have := g5 b hw; exact hb2 ⟨by omega, by omega⟩
  have := this ops.toList.length (Nat.le_refl _)
  rwa [e3] at this

section
variable {P : Program} {C : Ctx} {ρ : Env} {m base nt : Nat} {T T' : Tr CV} {s s' : St} {R W : List Nat} {e : Ex}

theorem FrmB.refl (base : Nat) (s : St) (W : List Nat) : FrmB base s s W := ⟨Nat.le_refl _, fun _ _ _ => rfl, [], rfl⟩
theorem FrmB.trans {s1 s2 : St} {W1 W2 : List Nat} (h1 : FrmB base s s1 W1) (h2 : FrmB base s1 s2 W2) {W : List Nat} (hW1 : ∀ b ∈ W1, b ∈ W) (hW2 : ∀ b ∈ W2, b ∈ W) : FrmB base s s2 W := by
  obtain ⟨l1, p1⟩ := h1.pc
  obtain ⟨l2, p2⟩ := h2.pc
  have n1 := h1.next
  have n2 := h2.next
  refine ⟨Nat.le_trans n1 n2, fun b hb hn => ?_, l2 ++ l1, by rw [p2, p1, List.append_assoc]⟩
  rw [h2.get b (fun h => hb (hW2 b h)) hn, h1.get b (fun h => hb (hW1 b h)) (by omega)]
theorem FrmB.more {W' : List Nat} (h : FrmB base s s' W) (hW : ∀ b ∈ W, b ∈ W') : FrmB base s s' W' := ⟨h.next, fun b hb hn => h.get b (fun h' => hb (hW b h')) hn, h.pc⟩

theorem region_ok {rid : Nat} {ops : Array Oper} {draw : Bool} {self : Task → St → Option Out} {ms : List Mk} (hC : CtxOk2 P C) (hS : SelfOk P C ρ self) (hb : base ≤ s.next) (h : opsE C self ops nt ops.toList T s = some (T', s', ms)) (hd : (!draw || quietB s.next ms || drawOk 0 ms (preds ops.toList [])) = true) :
    CodeOk P ρ m base (.region rid ops draw) nt T s .normal T' s' (sumR base ms) (sumW base ms) := by
  have hfr := opsE_frame (base := base) hS h hb
  refine ⟨hfr, fun b hb => hb.elim sumR_lt sumW_lt, ?_⟩
  intro hr Wt ro n Q σ cur w a0 a hW hWl hp hro hH hA hN hF hQ
  have hA' : ∀ b, b ∈ sumR base ms ∨ b ∈ sumW base ms ∨ (base ≤ b ∧ b < s.next) → cur b = s.heap.get b := fun b hb' => hA b (hb'.imp (fun x => x) (Or.imp (hW b) (fun x => x)))
  have hQ' : ∀ a' w', PostR ρ σ cur base s w nt T' s' (sumW base ms) a0 a' w' → Q .normal a' w' := by
    rintro a' w' ⟨σ', hI, hF'⟩
    refine hQ a' w' (PostR.toC ⟨σ', hI.weaken hW (fun b hb1 hb2 hb3 => ?_), hF'⟩)
    rw [hfr.get b hb2 hb3]
    exact hA b (.inr (.inl hb1))
  show (Code.region rid ops draw).wpIn (fc ro) n P Q a w
  cases draw with
  | false => exact wpIn_region (region_text hC hS h hp hH hb hA' hN hF hQ')
  | true =>
    refine wpIn_region_any hC.mixed ?_
    have hd' : (quietB s.next ms || drawOk 0 ms (preds ops.toList [])) = true := by simpa using hd
    have hr' : regOk ops = true := by simpa [regsOk] using hr
    refine region_draw (w0 := w.drew) hC hS h hr' hd' hp hH.drew hb hA' hN hF ?_
    rintro a' w' ⟨σ', hI, hF'⟩
    exact hQ' a' w' ⟨σ', ⟨hI.ext, hI.H, ⟨hI.K.os, hI.K.tape, hI.K.output, hI.K.size, hI.K.block, hI.K.loops, hI.K.defd⟩, hI.F⟩, hF'⟩

theorem args0_get : ∀ (l : List CV) (i : Nat) (T : Tr CV) (t : Nat), rd (args0 i l T) t = if h : i ≤ t ∧ t < i + l.length then l[t - i] else rd T t
  | [], i, T, t => by
    simp only [args0]
    rw [dif_neg (by simp)]
  | c :: l, i, T, t => by
    simp only [args0]
    rw [args0_get l (i + 1) _ t]
    by_cases h1 : i + 1 ≤ t ∧ t < i + 1 + l.length
    · rw [dif_pos h1, dif_pos (by simp; omega)]
      simp only [show t - i = (t - (i + 1)) + 1 by omega, List.getElem_cons_succ]
    · rw [dif_neg h1]
      simp only [rd, Tr.get_set]
      by_cases h2 : t = i
      · subst h2
        rw [if_pos rfl, dif_pos (by simp)]
        simp
      · rw [if_neg h2, dif_neg (by simp; omega)]

theorem args0_rel {σ : Mp} {args : List CV} {args' : Array Value} {nt : Nat} (h : VRl ρ σ args args'.toList) (hl : args.length ≤ nt) (ds : List Deferred) : FRn ρ σ nt (args0 0 args .nil) ⟨args' ++ Array.replicate (nt - args'.size) Go.undef, []⟩ ⟨args' ++ Array.replicate (nt - args'.size) Go.undef, []⟩ := by
  have hlen := h.length
  simp only [Array.length_toList] at hlen
  refine ⟨by simp; omega, fun t => ?_, rfl⟩
  rw [args0_get, Array.getD_eq_getD_getElem?]
  by_cases ht : 0 ≤ t ∧ t < 0 + args.length
  · rw [dif_pos ht]
    simp only [Nat.zero_add, Nat.sub_zero] at ht ⊢
    obtain ⟨v, h1, h2⟩ := h.get (List.getElem?_eq_getElem ht.2)
    rw [Array.getElem?_toList] at h1
    rw [Array.getElem?_append_left (by omega), h1]
    exact h2
  · rw [dif_neg ht]
    have h0 : rd (.nil : Tr CV) t = .any := by simp [rd, Tr.get_nil]
    rw [h0]
    exact .any _

theorem resE_lt : ∀ {l : List ResultVar} {vs : List CV} {R : List Nat}, resE C T s l = some (vs, R) → ∀ b ∈ R, b < s.next
  | [], vs, R, h => by simp only [resE] at h; cases h; intro b hb; cases hb
  | .tmp t :: l, vs, R, h => by
    simp only [resE] at h
    split at h
    · rename_i h'; cases h; exact resE_lt h'
    · cases h
  | .cell x t :: l, vs, R, h => by
    simp only [resE] at h
    split at h
    · rename_i q b o m R' hq hx h'
      simp only [Bool.cond_eq_ite] at h
      split at h
      · split at h
        · rename_i hl
          cases h
          intro y hy
          rcases List.mem_cons.1 hy with rfl | hy
          · exact (Lts.ld hl).1 _ (by simp)
          · exact resE_lt h' y hy
        · cases h
      · split at h
        · rename_i hl
          cases h
          intro y hy
          rcases List.mem_cons.1 hy with rfl | hy
          · exact (Lts.ld hl).1 _ (by simp)
          · exact resE_lt h' y hy
        · cases h
    · cases h

/-- One result of a function, read at its end. -/
def resF (a : Act) : ResultVar → Sem Value
  | .tmp t => pure (a.tmps.getD t Go.undef)
  | .cell x t => do loadVar t (← asAddr (a.tmps.getD x Go.undef))

theorem res_run {σ : Mp} {cur : Cur} {w : World} {a : Act} (hC : CtxOk P C) (hH : HR ρ σ cur w) (hF : FR ρ σ T a) : ∀ {l : List ResultVar} {vs : List CV} {R : List Nat}, resE C T s l = some (vs, R) → (∀ b ∈ R, cur b = s.heap.get b) →
    ∃ ws : List Value, (l.mapM (resF a)).run P w = .ok ws w ∧ VRl ρ σ vs ws
  | [], vs, R, h, _ => by simp only [resE] at h; cases h; exact ⟨[], rfl, .nil⟩
  | .tmp t :: l, vs, R, h, hA => by
    simp only [resE] at h
    split at h
    · rename_i m R' h'
      cases h
      obtain ⟨ws, h1, h2⟩ := res_run hC hH hF h' hA
      have h3 : (resF a (.tmp t)).run P w = .ok (a.tmps.getD t Go.undef) w := rfl
      exact ⟨a.tmps.getD t Go.undef :: ws, by simp only [List.mapM_cons, Sem.run_bind, Sem.run_pure, Result.andThen, h1, h3], .cons (hF t) h2⟩
    · cases h
  | .cell x t :: l, vs, R, h, hA => by
    simp only [resE] at h
    split at h
    · rename_i q b o m R' hq hx h'
      obtain ⟨lc, hl, hv⟩ := (hx ▸ hF x : VR ρ σ (.ptr (some (b, o))) _).ptr_inv
      have hag := (hC.ty _ _ hq).isAgg' w
      have hsz := (hC.ty _ _ hq).sizeOf' w
      cases hqa : q.agg with
      | true =>
        rw [hqa, cond_true] at h
        split at h
        · rename_i cs hcs
          cases h
          obtain ⟨ws, h1, h2⟩ := res_run hC hH hF h' (fun b hb => hA b (by simp [hb]))
          obtain ⟨us, p1, p2, _, _⟩ := ld_run (P := P) hH hcs (hA b (by simp)) hl
          have h3 : (resF a (.cell x t)).run P w = .ok (.agg us.toArray) w := by
            simp only [resF, Sem.run_bind, hv, asAddr, Sem.run_pure, Result.andThen, loadVar, hag, hqa, if_true, hsz, p1, Sem.run_map]
          refine ⟨.agg us.toArray :: ws, ?_, .cons (.agg p2) h2⟩
          simp only [List.mapM_cons, Sem.run_bind, Sem.run_pure, Result.andThen, h3, h1]
        · cases h
      | false =>
        rw [hqa, cond_false] at h
        split at h
        · rename_i c hcs
          cases h
          obtain ⟨ws, h1, h2⟩ := res_run hC hH hF h' (fun b hb => hA b (by simp [hb]))
          obtain ⟨u, p1, p2⟩ := ld_run1 (P := P) hH hcs (hA b (by simp)) hl
          have h3 : (resF a (.cell x t)).run P w = .ok u w := by
            simp only [resF, Sem.run_bind, hv, asAddr, Sem.run_pure, Result.andThen, loadVar, hag, hqa, Bool.false_eq_true, if_false, p1]
          refine ⟨u :: ws, ?_, .cons p2 h2⟩
          simp only [List.mapM_cons, Sem.run_bind, Sem.run_pure, Result.andThen, h3, h1]
        · cases h
    · cases h

end
end Go.Proofs.Ytknphpihipkdpaa.Cx
