/- The states between the pieces of function 17: its temporaries, and what its memory holds. Conditions: none. -/
import Derived.Test.YthgjooibimphiaaTR
namespace Go.Xe.TRS17
open Go Go.Xe Go.Proofs
set_option maxRecDepth 1000000
abbrev U : Value:=.tuple ⟨[]⟩
noncomputable def t1 : TT:=(.n (.bool false) (.n (.slice (some ⟨1038,0,none⟩) 2 2) (.n (.int .i64 (.ofNat 0)) (.n U (.n (.slice (some ⟨1038,0,none⟩) 2 2) (.n U (.n U .e .e) (.n U .e .e)) (.n U (.n U .e .e) .e)) (.n U (.n U (.n U .e .e) .e) (.n U (.n U .e .e) .e))) (.n U (.n (.agg ⟨[(.int .i64 (.ofNat 5)),(.slice (some ⟨1045,0,none⟩) 2 2),(.slice none 0 0)]⟩) (.n U (.n U .e .e) (.n U .e .e)) (.n U (.n U .e .e) .e)) (.n U (.n U (.n U .e .e) .e) (.n U (.n U .e .e) .e)))) (.n (.int .i64 (.ofNat 0)) (.n U (.n (.int .i64 (.ofNat 0)) (.n U (.n U .e .e) (.n U .e .e)) (.n U (.n U .e .e) .e)) (.n U (.n U (.n U .e .e) .e) (.n U (.n U .e .e) .e))) (.n (.agg ⟨[(.int .i64 (.ofNat 5)),(.slice (some ⟨3,0,none⟩) 2 2),(.slice none 0 0)]⟩) (.n (.int .i64 (.ofNat 4)) (.n U (.n U .e .e) .e) (.n U (.n U .e .e) .e)) (.n U (.n U (.n U .e .e) .e) (.n U (.n U .e .e) .e))))) (.n (.int .i64 (.ofNat 6)) (.n (.int .i64 (.ofNat 4)) (.n U (.n (.int .i64 (.ofNat 6)) (.n U (.n U .e .e) (.n U .e .e)) (.n U (.n U .e .e) .e)) (.n U (.n U (.n U .e .e) .e) (.n U (.n U .e .e) .e))) (.n (.tuple ⟨[(.slice (some ⟨1038,0,none⟩) 2 2),(.int .i64 (.ofNat 6)),(.int .i64 (.ofNat 0))]⟩) (.n (.tuple ⟨[(.int .i64 (.ofNat 4)),(.int .i64 (.ofNat 0))]⟩) (.n U (.n U .e .e) (.n U .e .e)) (.n U (.n U .e .e) .e)) (.n U (.n U (.n U .e .e) .e) (.n U (.n U .e .e) .e)))) (.n U (.n U (.n (.tuple ⟨[(.int .i64 (.ofNat 4)),(.int .i64 (.ofNat 0))]⟩) (.n U (.n U .e .e) (.n U .e .e)) (.n U (.n U .e .e) .e)) (.n U (.n U (.n U .e .e) .e) (.n U (.n U .e .e) .e))) (.n (.tuple ⟨[(.slice (some ⟨1038,0,none⟩) 2 2),(.int .i64 (.ofNat 6)),(.int .i64 (.ofNat 0))]⟩) (.n (.int .i64 (.ofNat 0)) (.n U (.n U .e .e) .e) (.n U (.n U .e .e) .e)) (.n U (.n U (.n U .e .e) .e) (.n U (.n U .e .e) .e))))))
noncomputable def i1 : List Nat:=[1,2,3,757,811,1038,1043,1044,1045]
noncomputable def E1 : HT:=(.n (.cells [(.int .i64 (.ofNat 3)),(.int .i64 (.ofNat 4))] 3 true) .e (.n (.cells [(.int .i64 (.ofNat 6)),(.int .i64 (.ofNat 2))] 3 true) .e (.n (.cells [(.slice (some ⟨1,0,none⟩) 2 2),(.slice (some ⟨2,0,none⟩) 2 2)] 41 true) .e (.n (.cells [(.int .i64 (.ofNat 5)),(.int .i64 (.ofNat 5))] 3 true) .e (.n (.cells [(.int .i64 (.ofNat 5)),(.int .i64 (.ofNat 0))] 3 true) .e (.n (.cells [(.slice (some ⟨757,0,none⟩) 2 2),(.slice (some ⟨811,0,none⟩) 2 2)] 41 true) .e (.n (.cells [(.int .i64 (.ofNat 3)),(.int .i64 (.ofNat 4))] 3 true) .e (.n (.cells [(.int .i64 (.ofNat 6)),(.int .i64 (.ofNat 2))] 3 true) .e (.n (.cells [(.slice (some ⟨1043,0,none⟩) 2 2),(.slice (some ⟨1044,0,none⟩) 2 2)] 41 true) .e .e)))))))))
end Go.Xe.TRS17
/- Piece 0 of function 17, by the kernel. Conditions: none. -/
namespace Go.Xe.TRP17x0
open Go Go.Xe Go.Proofs
set_option maxRecDepth 1000000
theorem run : startL [] .e (pd 17) (fun T=>segF Try.prog TR.F0 4997 (fstake 3 (fsdrop 0 TR.c17)) (mkTT 101) [] (.mk 0 T) (outR TRS17.i1))=.nx TRS17.t1 [] (.mk 2084 TRS17.E1):=by kernel_rfl
theorem len : (fstake 3 (fsdrop 0 TR.c17)).length=3:=by kernel_rfl
end Go.Xe.TRP17x0
/- Piece 1 of function 17, the last, by the kernel. Conditions: none. -/
namespace Go.Xe.TRP17x1
open Go Go.Xe Go.Proofs
set_option maxRecDepth 1000000
theorem run : startL TRS17.i1 TRS17.E1 (pd 17) (fun T=>afterF (execF Try.prog TR.F0 4997 (fsdrop 3 TR.c17) none [] TRS17.t1 (.mk 2084 T)) [.tmp .o] endT)=.rt .e [] (.mk 0 .e):=by kernel_rfl
end Go.Xe.TRP17x1
/- Function 17, called in any world, returns true and leaves the world as it was: its pieces put together. Conditions: none. -/
namespace Go.Xe.TRB17
open Go Go.Xe Go.Proofs
set_option maxRecDepth 1000000
theorem mixed : Try.prog.follows .mixedOrders=true:=by kernel_rfl
noncomputable def body : Code:=match Try.f17.body with|some c=>c|none=>.skip
theorem hb : Try.f17.body=some body:=by kernel_rfl
theorem hn : Try.f17.ntmps=101:=by kernel_rfl
theorem call : (∀ (w : World) (r : Option Nat) (n : Nat), CallsIn (FW r) n Try.prog 17 #[] w (Quiet (.bool true) w)) ∧ ∃ fn, Try.prog.funcs[(17 : Nat)]? = some fn ∧ fn.body.isSome = true ∧ (fn.name == "runtime.NumGoroutine") = false := by
 letI:=(Gl.none Try.prog)
 letI:=(Orc.none Try.prog)
 have hF:=TR.ok0 (Orc.none Try.prog) rfl
 obtain⟨hc,hres⟩:=of_entry hb TR.e17
 obtain⟨tm0,H0,x0,s0⟩:=piece hF hc 0 3 4997 TRP17x0.len TRP17x0.run stOk_start
 obtain⟨e,a,Hz,y1,y2,y3,y4⟩:=piece_last hF hc 3 4997 TR.o17 hres TRP17x1.run s0
 have hx : exec Try.prog 5000 none body ⟨Array.replicate Try.f17.ntmps undef,[],Heap.empty⟩=some (e,a):=by rw[hn];exact x0.trans (y1)
 obtain⟨z1,z2⟩:=xcall_of rfl TR.g17 hb TR.o17 hx y2 y3 y4
 obtain⟨k1,k2⟩:=closed_x (Orc.none Try.prog) mixed (start_x (Orc.none Try.prog) rfl) z1 z2
 exact⟨fun w r n=>k1 w r n (Nat.zero_le _) trivial,k2⟩
end Go.Xe.TRB17
/- What is known of function 17 may be taken at its word. Conditions: none. -/
namespace Go.Xe.TRO
open Go Go.Xe Go.Proofs
set_option maxRecDepth 1000000
@[reducible] def orc : Orc Try.prog:=⟨0,fun _=>True,fun _ _ _ _=>trivial,TR.orcs1,fun g b h=>by
 unfold TR.orcs1 at h
 split at h
 ·rename_i hg
  cases h
  subst hg
  exact⟨fun w r n _ _=>TRB17.call.1 w r n,TRB17.call.2⟩
 ·cases h⟩
end Go.Xe.TRO
