/- An executable reading of the model's code over an abstract heap (part 37): closed calls where one table among the package-level variables is known. Conditions: as part 33's; the table lies where the variable lies. -/
import Derived.Test.YtgcdbdcnlhonfaaYj
namespace Go.Xe
open Go
def TabAt (g : Nat) (tab : List Value) (w : World) : Prop:=∃ c el fz,w.heap[g]?=some (.cells c el fz)∧∀ (k : Nat) (v : Value),tab[k]?=some v→c[k]?=some v
theorem TabAt.keep {g : Nat} {tab : List Value} {w w' : World} (hb : ∀ b,b<g+1→w'.heap[b]?=w.heap[b]?) (h : TabAt g tab w) : TabAt g tab w':=by
 obtain⟨c,el,fz,h1,h2⟩:=h
 exact⟨c,el,fz,(hb g (Nat.lt_succ_self g)).trans h1,h2⟩
end Go.Xe
