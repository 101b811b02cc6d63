/- Function 26, called in any world, returns true and leaves the world as it was: its pieces put together. Conditions: none. -/
import Derived.Test.YtmalpmlcgkiahaaTAP26x0
import Derived.Test.YtmalpmlcgkiahaaTAP26x1
import Derived.Test.YtmalpmlcgkiahaaTAP26x2
namespace Go.Xe.TAB26
open Go Go.Xe Go.Proofs
set_option maxRecDepth 1000000
theorem mixed : Try.prog.follows .mixedOrders = true := by kernel_rfl
noncomputable def body : Code := match Try.f26.body with | some c => c | none => .skip
theorem hb : Try.f26.body = some body := by kernel_rfl
theorem hn : Try.f26.ntmps = 108 := by kernel_rfl
theorem call : (∀ (w : World) (r : Option Nat) (n : Nat), CallsIn (FW r) n Try.prog 26 #[] w (Quiet (.bool true) w)) ∧ ∃ fn, Try.prog.funcs[(26 : Nat)]? = some fn ∧ fn.body.isSome = true ∧ (fn.name == "runtime.NumGoroutine") = false := by
  letI := (Gl.none Try.prog)
  letI := (Orc.none Try.prog)
  have hF := TA.ok0 (Orc.none Try.prog) rfl
  obtain ⟨hc, hres⟩ := of_entry hb TA.e26
  obtain ⟨tm0, H0, x0, s0⟩ := piece hF hc 0 3 4997 TAP26x0.len TAP26x0.run stOk_start
  obtain ⟨tm1, H1, x1, s1⟩ := piece hF hc 3 1 4996 TAP26x1.len TAP26x1.run s0
  obtain ⟨e, a, Hz, y1, y2, y3, y4⟩ := piece_last hF hc 4 4996 TA.o26 hres TAP26x2.run s1
  have hx : exec Try.prog 5000 none body ⟨Array.replicate Try.f26.ntmps undef, [], Heap.empty⟩ = some (e, a) := by rw [hn]; exact x0.trans (x1.trans (y1))
  obtain ⟨z1, z2⟩ := xcall_of rfl TA.g26 hb TA.o26 hx y2 y3 y4
  obtain ⟨k1, k2⟩ := closed_x (Orc.none Try.prog) mixed (start_x (Orc.none Try.prog) rfl) z1 z2
  exact ⟨fun w r n => k1 w r n (Nat.zero_le _) trivial, k2⟩
end Go.Xe.TAB26
