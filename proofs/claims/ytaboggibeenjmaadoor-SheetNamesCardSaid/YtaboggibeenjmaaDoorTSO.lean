/- What is known of function 19 may be taken at its word. Conditions: none. -/
import Derived.Test.YtaboggibeenjmaaDoorTSB19
namespace Go.Xe.TSO
open Go Go.Xe Go.Proofs
set_option maxRecDepth 1000000
@[reducible] def orc : Orc Tryd.prog := ⟨2, TabAt 1 TS.tab, fun _ _ h => TabAt.keep h, TS.orcs1, fun g b h => by
  unfold TS.orcs1 at h
  split at h
  · rename_i hg
    cases h
    subst hg
    exact TSB19.call
  · cases h⟩
end Go.Xe.TSO
