/- What is known of function 26 may be taken at its word. Conditions: none. -/
import Derived.Test.YtmalpmlcgkiahaaTAB26
namespace Go.Xe.TAO
open Go Go.Xe Go.Proofs
set_option maxRecDepth 1000000
@[reducible] def orc : Orc Try.prog := ⟨0, fun _ => True, fun _ _ _ _ => trivial, TA.orcs1, fun g b h => by
  unfold TA.orcs1 at h
  split at h
  · rename_i hg
    cases h
    subst hg
    exact ⟨fun w r n _ _ => TAB26.call.1 w r n, TAB26.call.2⟩
  · cases h⟩
end Go.Xe.TAO
