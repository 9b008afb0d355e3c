/- A call that is known: acmeref01.Lowest. -/
import Derived.Test.YtkmhmmibdfalpaaGreatCxRat
import Derived.Test.YtkmhmmibdfalpaaGreatLowest
namespace Go.Proofs.YtkmhmmibdfalpaaGreat.Cx
open Go Go.RowKit

theorem lowest_known : KnownR Tryz.prog 38 :=
  ⟨⟨_, Tryz.func38, rfl⟩, fun n d w h1 h2 h3 h4 => lowest_any n d w h1 h2 h3 h4⟩

end Go.Proofs.YtkmhmmibdfalpaaGreat.Cx
