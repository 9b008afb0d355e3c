/- A call that keeps the world leaves one that has grown; a number within bounds. -/
import Derived.Test.YtkmhmmibdfalpaaGreatRatios
namespace Go.Proofs.YtkmhmmibdfalpaaGreat
open Go.RowKit

theorem below_of_same {P : Program} {f : FuncId} {args : Array Value} {w : World} {v : Value} (h : Calls P f args w fun e w' => e = .returned v ∧ w = w') : Calls P f args w fun e w' => e = .returned v ∧ Below w.heap.size w w' :=
  h.mono fun _ _ ⟨he, hw⟩ => ⟨he, hw ▸ Below.refl _ _⟩

theorem inB_true {lo hi z : Int} (h : inB lo hi z = true) : lo ≤ z ∧ z ≤ hi := by unfold inB at h; exact of_decide_eq_true h

end Go.Proofs.YtkmhmmibdfalpaaGreat
