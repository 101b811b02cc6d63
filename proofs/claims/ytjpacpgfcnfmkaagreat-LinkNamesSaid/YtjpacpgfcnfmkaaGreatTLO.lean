/- What is known of function 16 may be taken at its word. Conditions: none. -/
import Derived.Test.YtjpacpgfcnfmkaaGreatTLB16
namespace Go.Xe.TLO
open Go Go.Xe Go.Proofs
set_option maxRecDepth 1000000
@[reducible] def orc : Orc Tryz.prog := ⟨0, fun _ => True, fun _ _ _ _ => trivial, TL.orcs1, fun g b h => by
  unfold TL.orcs1 at h
  split at h
  · rename_i hg
    cases h
    subst hg
    exact ⟨fun w r n _ _ => TLB16.call.1 w r n, TLB16.call.2⟩
  · cases h⟩
end Go.Xe.TLO
