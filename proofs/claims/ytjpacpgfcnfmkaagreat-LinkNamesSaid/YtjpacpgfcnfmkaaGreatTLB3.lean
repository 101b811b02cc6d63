/- Function 3, called in any world, returns true and leaves the world as it was: its pieces put together. Conditions: none. -/
import Derived.Test.YtjpacpgfcnfmkaaGreatTLP3x0
import Derived.Test.YtjpacpgfcnfmkaaGreatTLP3x1
import Derived.Test.YtjpacpgfcnfmkaaGreatTLO
namespace Go.Xe.TLB3
open Go Go.Xe Go.Proofs
set_option maxRecDepth 1000000
theorem mixed : Tryz.prog.follows .mixedOrders = true := by kernel_rfl
noncomputable def body : Code := match Tryz.f3.body with | some c => c | none => .skip
theorem hb : Tryz.f3.body = some body := by kernel_rfl
theorem hn : Tryz.f3.ntmps = 233 := by kernel_rfl
theorem call : (∀ (w : World) (r : Option Nat) (n : Nat), CallsIn (FW r) n Tryz.prog 3 #[] w (Quiet (.bool true) w)) ∧ ∃ fn, Tryz.prog.funcs[(3 : Nat)]? = some fn ∧ fn.body.isSome = true ∧ (fn.name == "runtime.NumGoroutine") = false := by
  letI := (Gl.none Tryz.prog)
  letI := TLO.orc
  have hF := TL.ok1 TLO.orc rfl
  obtain ⟨hc, hres⟩ := of_entry hb TL.e3
  obtain ⟨tm0, H0, x0, s0⟩ := piece hF hc 0 6 4994 TLP3x0.len TLP3x0.run stOk_start
  obtain ⟨e, a, Hz, y1, y2, y3, y4⟩ := piece_last hF hc 6 4994 TL.o3 hres TLP3x1.run s0
  have hx : exec Tryz.prog 5000 none body ⟨Array.replicate Tryz.f3.ntmps undef, [], Heap.empty⟩ = some (e, a) := by rw [hn]; exact x0.trans (y1)
  obtain ⟨z1, z2⟩ := xcall_of rfl TL.g3 hb TL.o3 hx y2 y3 y4
  obtain ⟨k1, k2⟩ := closed_x TLO.orc mixed (start_x TLO.orc rfl) z1 z2
  exact ⟨fun w r n => k1 w r n (Nat.zero_le _) trivial, k2⟩
end Go.Xe.TLB3
