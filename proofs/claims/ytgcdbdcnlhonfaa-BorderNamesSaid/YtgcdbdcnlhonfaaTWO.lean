/- What is known of function 17 may be taken at its word. Conditions: none. -/
import Derived.Test.YtgcdbdcnlhonfaaTWB17
namespace Go.Xe.TWO
open Go Go.Xe Go.Proofs
set_option maxRecDepth 1000000
@[reducible] def orc : Orc Try.prog:=⟨0,fun _=>True,fun _ _ _ _=>trivial,TW.orcs1,fun g b h=>by
 unfold TW.orcs1 at h
 split at h
 ·rename_i hg
  cases h
  subst hg
  exact⟨fun w r n _ _=>TWB17.call.1 w r n,TWB17.call.2⟩
 ·cases h⟩
end Go.Xe.TWO
