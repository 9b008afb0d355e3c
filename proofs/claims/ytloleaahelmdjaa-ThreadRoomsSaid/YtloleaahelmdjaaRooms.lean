/- ThreadRooms: the statement. Made by tools/gen_rooms.py. -/
import Derived.Test.YtloleaahelmdjaaRooms0
import Derived.Test.YtloleaahelmdjaaRefRoom2
namespace Go.Proofs.Ytloleaahelmdjaa
open Go.ChangeShapes Go.WideShapes Go.ChangeAt Go.RowKit
set_option linter.unusedVariables false
set_option linter.unusedSimpArgs false

theorem rooms_walk (p l r a b s t : Int) (h : Bool) (p' l' r' a' b' s' t' : Int) (h' : Bool) (lo hi : Int) (w : World) :
    Calls Try.prog 6 #[.agg #[.int .i64 p, .int .i64 l, .int .i64 r, .int .i64 a, .int .i64 b, .int .i64 s, .bool h, .int .i64 t], .agg #[.int .i64 p', .int .i64 l', .int .i64 r', .int .i64 a', .int .i64 b', .int .i64 s', .bool h', .int .i64 t'], .agg #[.int .i64 lo, .int .i64 hi]] w fun e w' => e = .returned (.bool true) ∧ Below w.heap.size w w' := by
  cases hk1 : okB ⟨p, l, r, a, b, s, h, t⟩
  · exact rooms_bad1 p l r a b s t h p' l' r' a' b' s' t' h' lo hi (Lib.hid (fun w => room_bad1 p l r a b s t h p' l' r' a' b' s' t' h' lo hi w hk1)) (Lib.hid (fun w => refForm_bad p l r a b s t h w hk1)) w
  cases hk2 : okB ⟨p', l', r', a', b', s', h', t'⟩
  · exact rooms_bad2 p l r a b s t h p' l' r' a' b' s' t' h' lo hi (Lib.hid (fun w => room_bad2 p l r a b s t h p' l' r' a' b' s' t' h' lo hi w hk1 hk2)) (Lib.hid (fun w => refForm_good p l r a b s t h w hk1)) (Lib.hid (fun w => refForm_bad p' l' r' a' b' s' t' h' w hk2)) w
  have HF1 := Lib.hid (fun w => refForm_good p l r a b s t h w hk1)
  have HF2 := Lib.hid (fun w => refForm_good p' l' r' a' b' s' t' h' w hk2)
  have HM := fun w => mates_any p l r a b s t h p' l' r' a' b' s' t' h' w
  by_cases hp : p = p'
  · cases ht : tlB s t h s' t' h'
    · rw [ht, Bool.and_false] at HM
      exact rooms_state p l r a b s t h p' l' r' a' b' s' t' h' lo hi (Lib.hid (fun w => room_turns p l r a b s t h p' l' r' a' b' s' t' h' lo hi w hk1 hk2 hp ht)) HF1 HF2 (Lib.hid HM) w
    · rw [ht, decide_eq_true hp, Bool.and_true] at HM
      have HMt := Lib.hid HM
      cases hv : vspan lo hi (-200000) 200000
      · have HR := Lib.hid (fun w => room_range p l r a b s t h p' l' r' a' b' s' t' h' lo hi w hk1 hk2 hp ht hv)
        have hv' := of_decide_eq_false hv
        by_cases g1 : lo < -200000
        · exact rooms_r1 p l r a b s t h p' l' r' a' b' s' t' h' lo hi HR HF1 HF2 HMt g1 w
        by_cases g2 : hi < lo
        · exact rooms_r2 p l r a b s t h p' l' r' a' b' s' t' h' lo hi HR HF1 HF2 HMt (by omega) g2 w
        · exact rooms_r3 p l r a b s t h p' l' r' a' b' s' t' h' lo hi HR HF1 HF2 HMt (by omega) (by omega) (by omega) w
      · obtain ⟨g1, g2, g3⟩ := of_decide_eq_true hv
        obtain ⟨⟨p0, p1⟩, ⟨l0, l1⟩, ⟨r0, r1⟩, -⟩ := lim_iff.1 (ok_lim hk1)
        obtain ⟨⟨p2, p3⟩, ⟨l2, l3⟩, ⟨r2, r3⟩, -⟩ := lim_iff.1 (ok_lim hk2)
        simp only at p0 p1 l0 l1 r0 r1 p2 p3 l2 l3 r2 r3
        have HG : Hid (∀ (c : Int) (w : World), 0 ≤ c → c ≤ 1200000000 → Calls Try.prog 54 #[.agg #[.int .i64 p, .int .i64 l, .int .i64 r, .int .i64 a, .int .i64 b, .int .i64 s, .bool h, .int .i64 t], .agg #[.int .i64 p', .int .i64 l', .int .i64 r', .int .i64 a', .int .i64 b', .int .i64 s', .bool h', .int .i64 t'], .agg #[.int .i64 lo, .int .i64 hi], .int .i64 c] w fun e w' => e = .returned (.bool (decide (ovl lo hi l l' + ovl lo hi r r' ≤ c * (l + r)))) ∧ Below w.heap.size w w') :=
          Lib.hid (fun c w c0 c1 => goes_any p l r a b s t h p' l' r' a' b' s' t' h' lo hi c w ⟨l0, l1⟩ ⟨r0, r1⟩ ⟨l2, l3⟩ ⟨r2, r3⟩ ⟨c0, c1⟩ ⟨g1, by omega⟩ ⟨by omega, g3⟩)
        have b1 := ovl_bd (lo := lo) (hi := hi) (x := l) (y := l') ⟨l0, l1⟩ ⟨l2, l3⟩ ⟨g1, by omega⟩ ⟨by omega, g3⟩
        have b2 := ovl_bd (lo := lo) (hi := hi) (x := r) (y := r') ⟨r0, r1⟩ ⟨r2, r3⟩ ⟨g1, by omega⟩ ⟨by omega, g3⟩
        by_cases hn : ovl lo hi l l' + ovl lo hi r r' ≤ 0
        · exact rooms_yes p l r a b s t h p' l' r' a' b' s' t' h' lo hi 0 g1 g2 g3 (Lib.hid (fun w => room_zero p l r a b s t h p' l' r' a' b' s' t' h' lo hi w hk1 hk2 hp ht hv hn)) HF1 HF2 HMt (Lib.hid (fun w => refRoom_zero p l r a b s t h p' l' r' a' b' s' t' h' lo hi _ w HG hn)) w
        · by_cases hl : l + r = 0
          · exact rooms_no p l r a b s t h p' l' r' a' b' s' t' h' lo hi g1 g2 g3 (Lib.hid (fun w => room_none p l r a b s t h p' l' r' a' b' s' t' h' lo hi w hk1 hk2 hp ht hv (by omega) hl)) HF1 HF2 HMt (Lib.hid (fun w => refRoom_none p l r a b s t h p' l' r' a' b' s' t' h' lo hi _ w HG l0 l1 r0 r1 (by omega) (by simpa using hl))) w
          · exact rooms_yes p l r a b s t h p' l' r' a' b' s' t' h' lo hi _ g1 g2 g3 (Lib.hid (fun w => room_good p l r a b s t h p' l' r' a' b' s' t' h' lo hi w hk1 hk2 hp ht hv (by omega) hl)) HF1 HF2 HMt (Lib.hid (fun w => refRoom_good p l r a b s t h p' l' r' a' b' s' t' h' lo hi _ w HG l0 l1 r0 r1 (by omega) (by omega) (by simpa using hl) (by omega))) w
  · rw [decide_eq_false hp, Bool.false_and] at HM
    exact rooms_state p l r a b s t h p' l' r' a' b' s' t' h' lo hi (Lib.hid (fun w => room_pitch p l r a b s t h p' l' r' a' b' s' t' h' lo hi w hk1 hk2 hp)) HF1 HF2 (Lib.hid HM) w

theorem rooms_own : ownKnob Try.prog.godebug = none := by kernel_rfl
theorem rooms_laidOut : laidOutB Try.prog = true := by kernel_rfl

set_option maxRecDepth 100000 in
theorem rooms_lifted (os : Os) (started : os.Started) (H : Type) (enc : TypeId × Value → H) :
    ReturnsInHanded {} Try.checked os 6 .any (Rows.threadRoomsSpec.pre6 enc Try.prog Try.f6 Rows.threadRoomsRow.domain false) (Rows.threadRoomsSpec.post enc Try.prog Try.f6 false true false false) := by
  refine returnsInHanded_of_change (C := Try.checked) rooms_own started (by kernel_rfl) Try.func6
    (ChangeSpec.witness6 (enc := enc) (C := Try.checked) false ⟨#[], #[.agg #[.int .i64 0, .int .i64 0, .int .i64 0, .int .i64 0, .int .i64 0, .int .i64 0, .bool false, .int .i64 0], .agg #[.int .i64 0, .int .i64 0, .int .i64 0, .int .i64 0, .int .i64 0, .int .i64 0, .bool false, .int .i64 0], .agg #[.int .i64 0, .int .i64 0]], []⟩ 8 (by kernel_rfl) (by kernel_rfl) (by kernel_rfl) (by kernel_rfl)) ?_
  intro W base args ds gs before hval0 hW hcnd _
  have hval : ∀ (j : Nat) t v, Try.f6.params[j]? = some t → args[j]? = some v → Value.okWide Try.prog W .any base t v := hval0
  have hW' := hW
  obtain ⟨p, q, hA0, hV, rfl, hfz, hnd⟩ := hW
  have hA : DataW.TrodAll enc Try.prog W 0 (fun _ => true) true Try.f6.params.toList args.toList ds p := hA0
  rw [Try.params6] at hA hval
  obtain ⟨v0, vs0, d0, ds0, p0, q0, hargs, rfl, rfl, h0, r0⟩ := trodAll_cons hA
  obtain ⟨v1, vs1, d1, ds1, p1, q1, rfl, rfl, rfl, h1, r1⟩ := trodAll_cons r0
  obtain ⟨v2, vs2, d2, ds2, p2, q2, rfl, rfl, rfl, h2, r2⟩ := trodAll_cons r1
  obtain ⟨rfl, rfl, rfl⟩ := trodAll_nil r2
  obtain rfl : args = #[v0, v1, v2] := by cases args; simp_all
  obtain ⟨rfl, rfl⟩ := trodVars_none hV
  have k0 := h0
  have lt0 : ∀ x ∈ p0, x.block < W.heap.size := by obtain ⟨m, hm⟩ := k0; exact DataW.trod_lt m _ _ _ hm
  have k1 := h1
  have lt1 : ∀ x ∈ p1, x.block < W.heap.size := by obtain ⟨m, hm⟩ := k1; exact DataW.trod_lt m _ _ _ hm
  have k2 := h2
  have lt2 : ∀ x ∈ p2, x.block < W.heap.size := by obtain ⟨m, hm⟩ := k2; exact DataW.trod_lt m _ _ _ hm
  obtain ⟨p, l, r, a, b, s, h, t, rfl, wp, wl, wr, wa, wb, ws, wt⟩ := open_form (hval 0 23 v0 rfl rfl) h0
  obtain ⟨p', l', r', a', b', s', h', t', rfl, wp', wl', wr', wa', wb', ws', wt'⟩ := open_form (hval 1 23 v1 rfl rfl) h1
  obtain ⟨lo, hi, rfl, wlo, whi⟩ := open_span (hval 2 43 v2 rfl rfl) h2
  clear hA0 hval0
  refine (rooms_walk p l r a b s t h p' l' r' a' b' s' t' h' lo hi W ).mono fun e W' ⟨he, bel⟩ => ?_
  subst he
  exact ⟨_, rfl, _, _, _, [], _, [], hW', trodAll_mk1 (shut_bool Try.underlying4 _), (trodAll_cons_mk (Below.trod rooms_laidOut (by kernel_rfl) (of_decide_eq_true (by kernel_rfl)) k0 bel lt0) (trodAll_cons_mk (Below.trod rooms_laidOut (by kernel_rfl) (of_decide_eq_true (by kernel_rfl)) k1 bel lt1) (trodAll_cons_mk (Below.trod rooms_laidOut (by kernel_rfl) (of_decide_eq_true (by kernel_rfl)) k2 bel lt2) trodAll_mk0))), rfl, bel.frame _, fun h => by cases h⟩

theorem rooms_over : Rows.threadRoomsRow.holds Try.pinned (OpenSpec.ofChange Rows.threadRoomsSpec) :=
  OpenClaim.holds_of_wide 6 Try.f6 rfl rfl rfl rfl rfl rfl rfl ⟨rfl, rfl, rfl, rfl, rfl⟩ rfl rfl rfl rfl rfl (by kernel_rfl) Try.func6 (by kernel_rfl)
    (of_decide_eq_true (by kernel_rfl)) (by unfold Func.isWrapper; rw [if_neg (of_decide_eq_false (by kernel_rfl))]; exact ⟨rfl, rfl⟩)
    (fun os started H enc _ => rooms_lifted os started H enc)

theorem rooms_proved : Rows.ThreadRoomsSaid := rooms_over
#print axioms rooms_proved
end Go.Proofs.Ytloleaahelmdjaa
