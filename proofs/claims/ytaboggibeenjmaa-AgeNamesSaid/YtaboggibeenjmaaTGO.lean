/- What is known of function 18 may be taken at its word. Conditions: none. -/
import Derived.Test.YtaboggibeenjmaaTGB18
namespace Go.Xe.TGO
open Go Go.Xe Go.Proofs
set_option maxRecDepth 1000000
@[reducible] def orc : Orc Try.prog := ⟨0, fun _ => True, fun _ _ _ _ => trivial, TG.orcs1, fun g b h => by
  unfold TG.orcs1 at h
  split at h
  · rename_i hg
    cases h
    subst hg
    exact ⟨fun w r n _ _ => TGB18.call.1 w r n, TGB18.call.2⟩
  · cases h⟩
end Go.Xe.TGO
