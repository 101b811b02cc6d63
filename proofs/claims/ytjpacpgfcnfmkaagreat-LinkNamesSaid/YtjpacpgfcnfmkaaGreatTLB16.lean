/- Function 16, called in any world, returns true and leaves the world as it was: its pieces put together. Conditions: none. -/
import Derived.Test.YtjpacpgfcnfmkaaGreatTLP16x0
namespace Go.Xe.TLB16
open Go Go.Xe Go.Proofs
set_option maxRecDepth 1000000
theorem mixed : Tryz.prog.follows .mixedOrders = true := by kernel_rfl
noncomputable def body : Code := match Tryz.f16.body with | some c => c | none => .skip
theorem hb : Tryz.f16.body = some body := by kernel_rfl
theorem hn : Tryz.f16.ntmps = 93 := by kernel_rfl
theorem call : (∀ (w : World) (r : Option Nat) (n : Nat), CallsIn (FW r) n Tryz.prog 16 #[] w (Quiet (.bool true) w)) ∧ ∃ fn, Tryz.prog.funcs[(16 : Nat)]? = some fn ∧ fn.body.isSome = true ∧ (fn.name == "runtime.NumGoroutine") = false := by
  letI := (Gl.none Tryz.prog)
  letI := (Orc.none Tryz.prog)
  have hF := TL.ok0 (Orc.none Tryz.prog) rfl
  obtain ⟨hc, hres⟩ := of_entry hb TL.e16
  obtain ⟨e, a, Hz, y1, y2, y3, y4⟩ := piece_last hF hc 0 5000 TL.o16 hres TLP16x0.run stOk_start
  have hx : exec Tryz.prog 5000 none body ⟨Array.replicate Tryz.f16.ntmps undef, [], Heap.empty⟩ = some (e, a) := by rw [hn]; exact y1
  obtain ⟨z1, z2⟩ := xcall_of rfl TL.g16 hb TL.o16 hx y2 y3 y4
  obtain ⟨k1, k2⟩ := closed_x (Orc.none Tryz.prog) mixed (start_x (Orc.none Tryz.prog) rfl) z1 z2
  exact ⟨fun w r n => k1 w r n (Nat.zero_le _) trivial, k2⟩
end Go.Xe.TLB16
