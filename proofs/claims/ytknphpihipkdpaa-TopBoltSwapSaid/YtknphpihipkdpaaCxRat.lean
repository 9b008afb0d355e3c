/- A call that is known: a ratio in lowest terms. -/
import Derived.Test.YtknphpihipkdpaaCxHand
import Derived.Test.YtknphpihipkdpaaExact
set_option linter.unusedSimpArgs false
set_option linter.unusedVariables false
namespace Go.Proofs.Ytknphpihipkdpaa.Cx
open Go Go.RowKit

/-- A function of two integers that yields their ratio in lowest terms, where the second is above 0. -/
structure KnownR (P : Program) (f : Nat) : Prop where
  fn : ∃ fn, P.funcs[f]? = some fn ∧ fn.body.isSome = true
  run : ∀ n d w, -9223372036854775807 ≤ n → n ≤ 9223372036854775807 → 1 ≤ d → d ≤ 9223372036854775807 → Calls P f #[.int .i64 n, .int .i64 d] w fun e w' => e = .returned (.agg #[.int .i64 (n / Int.gcd n d), .int .i64 (d / Int.gcd n d)]) ∧ Below w.heap.size w w'

/-- All of these tests hold. -/
noncomputable def askAll (s : St) : List BE → Option St
  | [] => some s
  | b :: l => match s.decide b with | some (true, s) => askAll s l | _ => none

theorem askAll_parts {ρ : Env} : ∀ {l : List BE} {s s' : St}, askAll s l = some s' → s'.next = s.next ∧ s'.heap = s.heap ∧ (∃ m, s'.pc = m ++ s.pc) ∧ ((∀ p ∈ s'.pc, p.holds ρ) → ∀ b ∈ l, b.den ρ = true)
  | [], s, s', h => by cases h; exact ⟨rfl, rfl, ⟨[], rfl⟩, fun _ b hb => by cases hb⟩
  | b :: l, s, s', h => by
    unfold askAll at h
    split at h
    · rename_i s1 hd
      obtain ⟨h1, h2, ⟨m, h3⟩, h4⟩ := decide_parts (ρ := ρ) hd
      obtain ⟨g1, g2, ⟨m', g3⟩, g4⟩ := askAll_parts (ρ := ρ) h
      refine ⟨g1.trans h1, g2.trans h2, ⟨m' ++ m, by rw [g3, h3, List.append_assoc]⟩, fun hp x hx => ?_⟩
      rcases List.mem_cons.1 hx with rfl | hx
      · exact h4 fun p hp' => hp p (by rw [g3]; simp [hp'])
      · exact g4 hp x hx
    · cases h

def ratC (n d : IE) : CV := .agg [.int .i64 (.mk .quo .i64 n (.mk .gcd .i64 n d)), .int .i64 (.mk .quo .i64 d (.mk .gcd .i64 n d))]

noncomputable def memoR (r : Nat) (m : Memo) : Memo := fun f args s =>
  match args with
  | [.int .i64 n, .int .i64 d] => bif Nat.beq f r then
      (match askAll s [.mk .leq (.c (-9223372036854775807)) n, .mk .leq n (.c 9223372036854775807), .mk .leq (.c 1) d, .mk .leq d (.c 9223372036854775807)] with | some s' => some (ratC n d, s', [], []) | none => none)
    else m f args s
  | _ => m f args s

theorem quo_gcd {n d : Int} (x : Int) (hx : (Int.gcd n d : Int) ∣ x) (h1 : -9223372036854775807 ≤ x) (h2 : x ≤ 9223372036854775807) (hd : 1 ≤ d) : IntKind.i64.wrap (x.tdiv (Int.gcd n d)) = x / Int.gcd n d := by
  have hg : 0 < Int.gcd n d := Int.gcd_pos_of_ne_zero_right n (by omega)
  have e : x.tdiv (Int.gcd n d) = x / (Int.gcd n d : Int) := by
    obtain ⟨k, rfl⟩ := hx
    rw [Int.mul_tdiv_cancel_left _ (by omega), Int.mul_ediv_cancel_left _ (by omega)]
  rw [e]
  obtain ⟨k, hk⟩ := hx
  have e2 : x / (Int.gcd n d : Int) = k := by rw [hk, Int.mul_ediv_cancel_left _ (by omega)]
  rw [e2]
  have hg' : 1 ≤ (Int.gcd n d : Int) := by omega
  generalize (Int.gcd n d : Int) = g at *
  apply wrap_id
  · rcases Int.le_total 0 k with q | q
    · omega
    · have := Int.mul_le_mul_of_nonpos_right hg' q
      rw [Int.one_mul, ← hk] at this
      omega
  · rcases Int.le_total 0 k with q | q
    · have := Int.mul_le_mul_of_nonneg_right hg' q
      rw [Int.one_mul, ← hk] at this
      omega
    · omega

theorem memoR_ok {P : Program} {ρ : Env} {r : Nat} {m : Memo} (hh : KnownR P r) (hm : MemoOk P (ctxOf P m) ρ) : MemoOk P (ctxOf P (memoR r m)) ρ := by
  have old : ∀ f args s c s' R W, m f args s = some (c, s', R, W) → CallOk P (ctxOf P (memoR r m)) ρ f args s c s' R W := fun f args s c s' R W h0 => by
    have k := hm f args s c s' R W h0
    exact ⟨k.fn, k.frm, k.lt, k.run⟩
  intro f args s c s' R W hq
  have hq' : memoR r m f args s = some (c, s', R, W) := hq
  unfold memoR at hq'
  split at hq'
  · rename_i n d
    cases hf : Nat.beq f r with
    | false => rw [hf, cond_false] at hq'; exact old _ _ _ _ _ _ _ hq'
    | true =>
      rw [hf, cond_true] at hq'
      obtain rfl : f = r := Nat.eq_of_beq_eq_true hf
      split at hq'
      · rename_i s1 hd
        cases hq'
        obtain ⟨h1, h2, h3, h4⟩ := askAll_parts (ρ := ρ) hd
        refine ⟨hh.fn, Frm.same _ h1 h2 h3, ⟨fun b hb => by simp at hb, fun b hb => by simp at hb⟩, ?_⟩
        intro k σ cur w args' hp hargs hH hA hN
        have ht := h4 hp
        obtain ⟨u, v, e0, hu, hv⟩ : ∃ u v, args' = #[u, v] ∧ VR ρ σ (.int .i64 n) u ∧ VR ρ σ (.int .i64 d) v := by
          obtain ⟨l⟩ := args'
          cases hargs with
          | cons hu hr => cases hr with
            | cons hv hr => cases hr; exact ⟨_, _, rfl, hu, hv⟩
        subst e0
        obtain rfl := hu.int_inv
        obtain rfl := hv.int_inv
        have t1 := ht _ (List.mem_cons_self ..)
        have t2 := ht _ (List.mem_cons_of_mem _ (List.mem_cons_self ..))
        have t3 := ht _ (List.mem_cons_of_mem _ (List.mem_cons_of_mem _ (List.mem_cons_self ..)))
        have t4 := ht _ (List.mem_cons_of_mem _ (List.mem_cons_of_mem _ (List.mem_cons_of_mem _ (List.mem_cons_self ..))))
        rw [BE.den_mk] at t1 t2 t3 t4
        have t1 : -9223372036854775807 ≤ n.den ρ := of_decide_eq_true t1
        have t2 : n.den ρ ≤ 9223372036854775807 := of_decide_eq_true t2
        have t3 : 1 ≤ d.den ρ := of_decide_eq_true t3
        have t4 : d.den ρ ≤ 9223372036854775807 := of_decide_eq_true t4
        have hrun := (callsIn_wide (n := k)).2 (hh.run (n.den ρ) (d.den ρ) w t1 t2 t3 t4)
        refine CallsIn.mono (F := fc none) hrun ?_
        rintro e w' ⟨rfl, hB⟩
        refine ⟨_, rfl, σ, (by rw [h1]; exact Ext.refl _ _ _), ?_, ?_, .below hB, (by rw [h1]; exact Fresh.none _ _ _ _ _ _)⟩
        · have q1 := VR.int (ρ := ρ) (σ := σ) .i64 (.mk .quo .i64 n (.mk .gcd .i64 n d))
          have q2 := VR.int (ρ := ρ) (σ := σ) .i64 (.mk .quo .i64 d (.mk .gcd .i64 n d))
          rw [IE.den_mk, IE.den_mk] at q1 q2
          simp only [Ar.run] at q1 q2
          rw [quo_gcd _ (Int.gcd_dvd_left ..) t1 t2 t3] at q1
          rw [quo_gcd _ (Int.gcd_dvd_right ..) (by omega) t4 t3] at q2
          exact .agg (.cons q1 (.cons q2 .nil))
        · rw [h1, upd_none]
          exact hH.below hB
      · cases hq'
  · exact old _ _ _ _ _ _ _ hq'

theorem ratio_known : KnownR Try.prog 87 :=
  ⟨⟨_, Try.func87, rfl⟩, fun n d w h1 h2 h3 h4 => ratio_any n d w h1 h2 h3 h4⟩

end Go.Proofs.Ytknphpihipkdpaa.Cx
