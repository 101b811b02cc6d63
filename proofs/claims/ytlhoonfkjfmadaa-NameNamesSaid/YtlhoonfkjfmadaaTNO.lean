/- What is known of function 15 may be taken at its word. Conditions: none. -/
import Derived.Test.YtlhoonfkjfmadaaTNB15
namespace Go.Xe.TNO
open Go Go.Xe Go.Proofs
set_option maxRecDepth 1000000
@[reducible] def orc : Orc Try.prog := ⟨0, fun _ => True, fun _ _ _ _ => trivial, TN.orcs1, fun g b h => by
  unfold TN.orcs1 at h
  split at h
  · rename_i hg
    cases h
    subst hg
    exact ⟨fun w r n _ _ => TNB15.call.1 w r n, TNB15.call.2⟩
  · cases h⟩
end Go.Xe.TNO
