/- The statement AgeHeaps: called with any list of integers and any integer, in whatever memory, the function returns true and leaves what was there as it was. Conditions: none. -/
import Derived.Test.YtmalpmlcgkiahaaRows
import Derived.WalkKit
import Derived.ProofKit
import Derived.OpenShut
import Derived.Test.YtmalpmlcgkiahaaTAX
import Derived.Test.YtmalpmlcgkiahaaZi
import Derived.Test.YtmalpmlcgkiahaaYh
namespace Go.Proofs.Ytmalpmlcgkiahaa.ageHeaps
open Go.ChangeShapes Go.WideShapes Go.ChangeAt Go.RowKit
set_option linter.unusedVariables false
set_option maxRecDepth 100000

theorem own : ownKnob Try.prog.godebug = none := by kernel_rfl
theorem mixed : Try.prog.follows .mixedOrders = true := by kernel_rfl
theorem laid : laidOutB Try.prog = true := by kernel_rfl
theorem cells3 : Try.prog.cellsOf 3 = 1 := by kernel_rfl

theorem walk {H : Type} {enc : TypeId × Value → H} {w : World} {base : Nat} {v v' : Value} {d : DataW H} {p : List MemPlace} (ho : Value.okWide Try.prog w .any base 45 v) (ho' : Value.okWide Try.prog w .any base 3 v')
    (h : DataW.Trod enc Try.prog w 0 (fun _ => true) true 45 v d p) : Calls Try.prog 5 #[v, v'] w fun e w' => e = .returned (.bool true) ∧ Below w.heap.size w w' := by
  obtain ⟨b, rfl⟩ := okWide_int Try.underlying3 ho'
  have h := Go.Xe.frame (P := Try.prog) (f := 5) (args := [v, .int .i64 b]) (fun _ => rfl) mixed (Nat.zero_le _) trivial (w := w) (fun A hA => by
    obtain ⟨l, hl, _, _⟩ := Go.Xe.arg_ints hA Try.underlying45 Try.underlying3 cells3 (okWide_slice Try.underlying45 ho) h
    exact Go.Xe.TAX.f5_ok hl) none 0
  rw [Go.Xe.FW_none, callsIn_wide] at h
  exact h.mono fun e w' ⟨h1, h2, h3, h4, h5, h6⟩ => ⟨h1, h4, h5, h6, h2, h3⟩

set_option maxRecDepth 100000 in
theorem lifted (os : Os) (started : os.Started) (H : Type) (enc : TypeId × Value → H) :
    ReturnsInHanded {} Try.checked os 5 .any (Rows.ageHeapsSpec.pre6 enc Try.prog Try.f5 Rows.ageHeapsRow.domain false) (Rows.ageHeapsSpec.post enc Try.prog Try.f5 false true false false) := by
  refine returnsInHanded_of_change (C := Try.checked) own started (by kernel_rfl) Try.func5
    (ChangeSpec.witness6 (enc := enc) (C := Try.checked) false ⟨#[], #[.slice none 0 0, .int .i64 0], []⟩ 8 (by kernel_rfl) (by kernel_rfl) (by kernel_rfl) (by kernel_rfl)) ?_
  intro W base args ds gs before hval0 hW hcnd _
  have hval : ∀ (j : Nat) t v, Try.f5.params[j]? = some t → args[j]? = some v → Value.okWide Try.prog W .any base t v := hval0
  have hW' := hW
  obtain ⟨p, q, hA0, hV, rfl, hfz, hnd⟩ := hW
  have hA : DataW.TrodAll enc Try.prog W 0 (fun _ => true) true Try.f5.params.toList args.toList ds p := hA0
  have hP := hA
  rw [Try.params5] at hA hval
  obtain ⟨v, v', d, d', p1, p2, rfl, rfl, rfl, h1, h2⟩ := trodAll_two hA
  obtain ⟨rfl, rfl⟩ := trodVars_none hV
  clear hA0 hval0
  simp only [List.append_nil] at hW'
  refine (walk (hval 0 _ _ rfl rfl) (hval 1 _ _ rfl rfl) h1).mono fun e W' ⟨he, hg⟩ => ?_
  subst he
  refine ⟨_, rfl, Go.Xe.post_of_old (pa := p1 ++ p2) (pv := []) hW' (fun _ _ _ => (trodAll_cons_mk (shut_bool Try.underlying4 _) trodAll_mk0)) (fun sp hs => ?_) (fun _ _ => rfl) (by simp)
    (hg.frame _) (fun a ha => hg.frozen ha) (ok_one (by kernel_rfl) rfl (okWide_bool_mk Try.underlying4 _))⟩
  exact Go.Xe.stays_all laid (by rw [Try.params5]; decide +kernel) hP (fun x hx => hg.same (hW'.lt x hx)) hs

theorem over : Rows.ageHeapsRow.holds Try.pinned (OpenSpec.ofChange Rows.ageHeapsSpec) :=
  OpenClaim.holds_of_wide 5 Try.f5 rfl rfl rfl rfl rfl rfl rfl ⟨rfl, rfl, rfl, rfl, rfl⟩ rfl rfl rfl rfl rfl (by kernel_rfl) Try.func5 (by kernel_rfl)
    (of_decide_eq_true (by kernel_rfl)) (by unfold Func.isWrapper; first | (rw [if_pos (by decide +kernel)]; kernel_rfl) | (rw [if_neg (by decide +kernel)]; exact ⟨rfl, rfl⟩))
    (fun os started H enc _ => lifted os started H enc)

/-- ████ THE STATEMENT ████ -/
theorem proved : Rows.AgeHeapsSaid :=
  over
#print axioms proved
end Go.Proofs.Ytmalpmlcgkiahaa.ageHeaps
