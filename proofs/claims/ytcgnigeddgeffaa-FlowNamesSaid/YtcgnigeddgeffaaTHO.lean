/- What is known of function 20 may be taken at its word. Conditions: none. -/
import Derived.Test.YtcgnigeddgeffaaTHB20
namespace Go.Xe.THO
open Go Go.Xe Go.Proofs
set_option maxRecDepth 1000000
@[reducible] def orc : Orc Try.prog := ⟨0, fun _ => True, fun _ _ _ _ => trivial, TH.orcs1, fun g b h => by
  unfold TH.orcs1 at h
  split at h
  · rename_i hg
    cases h
    subst hg
    exact ⟨fun w r n _ _ => THB20.call.1 w r n, THB20.call.2⟩
  · cases h⟩
end Go.Xe.THO
