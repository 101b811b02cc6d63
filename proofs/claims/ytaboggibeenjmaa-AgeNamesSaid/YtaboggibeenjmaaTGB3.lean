/- Function 3, called in any world, returns true and leaves the world as it was: its pieces put together. Conditions: none. -/
import Derived.Test.YtaboggibeenjmaaTGP3x0
import Derived.Test.YtaboggibeenjmaaTGP3x1
import Derived.Test.YtaboggibeenjmaaTGP3x2
import Derived.Test.YtaboggibeenjmaaTGP3x3
import Derived.Test.YtaboggibeenjmaaTGP3x4
import Derived.Test.YtaboggibeenjmaaTGP3x5
import Derived.Test.YtaboggibeenjmaaTGP3x6
import Derived.Test.YtaboggibeenjmaaTGP3x7
import Derived.Test.YtaboggibeenjmaaTGO
namespace Go.Xe.TGB3
open Go Go.Xe Go.Proofs
set_option maxRecDepth 1000000
theorem mixed : Try.prog.follows .mixedOrders = true := by kernel_rfl
noncomputable def body : Code := match Try.f3.body with | some c => c | none => .skip
theorem hb : Try.f3.body = some body := by kernel_rfl
theorem hn : Try.f3.ntmps = 307 := by kernel_rfl
theorem call : (∀ (w : World) (r : Option Nat) (n : Nat), CallsIn (FW r) n Try.prog 3 #[] w (Quiet (.bool true) w)) ∧ ∃ fn, Try.prog.funcs[(3 : Nat)]? = some fn ∧ fn.body.isSome = true ∧ (fn.name == "runtime.NumGoroutine") = false := by
  letI := Gl.none Try.prog
  letI := TGO.orc
  have hF := TG.ok1 TGO.orc rfl
  obtain ⟨hc, hres⟩ := of_entry hb TG.e3
  obtain ⟨tm0, H0, x0, s0⟩ := piece hF hc 0 6 4994 TGP3x0.len TGP3x0.run stOk_start
  obtain ⟨tm1, H1, x1, s1⟩ := piece hF hc 6 1 4993 TGP3x1.len TGP3x1.run s0
  obtain ⟨tm2, H2, x2, s2⟩ := piece hF hc 7 2 4991 TGP3x2.len TGP3x2.run s1
  obtain ⟨tm3, H3, x3, s3⟩ := piece hF hc 9 1 4990 TGP3x3.len TGP3x3.run s2
  obtain ⟨tm4, H4, x4, s4⟩ := piece hF hc 10 1 4989 TGP3x4.len TGP3x4.run s3
  obtain ⟨tm5, H5, x5, s5⟩ := piece hF hc 11 1 4988 TGP3x5.len TGP3x5.run s4
  obtain ⟨tm6, H6, x6, s6⟩ := piece hF hc 12 2 4986 TGP3x6.len TGP3x6.run s5
  obtain ⟨e, a, Hz, y1, y2, y3, y4⟩ := piece_last hF hc 14 4986 TG.o3 hres TGP3x7.run s6
  have hx : exec Try.prog 5000 none body ⟨Array.replicate Try.f3.ntmps undef, [], Heap.empty⟩ = some (e, a) := by rw [hn]; exact x0.trans (x1.trans (x2.trans (x3.trans (x4.trans (x5.trans (x6.trans (y1)))))))
  obtain ⟨z1, z2⟩ := xcall_of rfl TG.g3 hb TG.o3 hx y2 y3 y4
  obtain ⟨k1, k2⟩ := closed_x TGO.orc mixed (start_x TGO.orc rfl) z1 z2
  exact ⟨fun w r n => k1 w r n (Nat.zero_le _) trivial, k2⟩
end Go.Xe.TGB3
