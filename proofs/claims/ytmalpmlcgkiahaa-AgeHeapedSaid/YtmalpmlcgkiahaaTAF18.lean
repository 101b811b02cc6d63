/- The statement AgeHeaped: called with any list of bytes and any byte, in whatever memory, the function returns true and leaves what was there as it was. Conditions: none. -/
import Derived.Test.YtmalpmlcgkiahaaRows
import Derived.WalkKit
import Derived.ProofKit
import Derived.OpenShut
import Derived.Test.YtmalpmlcgkiahaaTAY
import Derived.Test.YtmalpmlcgkiahaaZj
import Derived.Test.YtmalpmlcgkiahaaYh
namespace Go.Proofs.Ytmalpmlcgkiahaa.ageHeaped
open Go.ChangeShapes Go.WideShapes Go.ChangeAt Go.RowKit
set_option linter.unusedVariables false
set_option maxRecDepth 100000

theorem own : ownKnob Try.prog.godebug = none := by kernel_rfl
theorem mixed : Try.prog.follows .mixedOrders = true := by kernel_rfl
theorem laid : laidOutB Try.prog = true := by kernel_rfl
theorem cells5 : Try.prog.cellsOf 5 = 1 := by kernel_rfl

theorem walk {H : Type} {enc : TypeId × Value → H} {w : World} {base : Nat} {v v' : Value} {d d' : DataW H} {p p' : List MemPlace} (ho : Value.okWide Try.prog w .any base 105 v) (ho' : Value.okWide Try.prog w .any base 5 v')
    (h : DataW.Trod enc Try.prog w 0 (fun _ => true) true 105 v d p) (h5 : DataW.Trod enc Try.prog w 0 (fun _ => true) true 5 v' d' p') : Calls Try.prog 18 #[v, v'] w fun e w' => e = .returned (.bool true) ∧ Below w.heap.size w w' := by
  obtain ⟨b, rfl⟩ := okWide_int Try.underlying5 ho'
  have h := Go.Xe.frame (P := Try.prog) (f := 18) (args := [v, .int .u8 b]) (fun _ => rfl) mixed (Nat.zero_le _) trivial (w := w) (fun A hA => by
    obtain ⟨l, hl, _, hw⟩ := Go.Xe.arg_ints hA Try.underlying105 Try.underlying5 cells5 (okWide_slice Try.underlying105 ho) h
    exact Go.Xe.TAX.f18_ok hl (fun x hx => bounds_u8 (hw x hx)) (bounds_u8 (Go.Xe.arg_int Try.underlying5 h5))) none 0
  rw [Go.Xe.FW_none, callsIn_wide] at h
  exact h.mono fun e w' ⟨h1, h2, h3, h4, h5, h6⟩ => ⟨h1, h4, h5, h6, h2, h3⟩

set_option maxRecDepth 100000 in
theorem lifted (os : Os) (started : os.Started) (H : Type) (enc : TypeId × Value → H) :
    ReturnsInHanded {} Try.checked os 18 .any (Rows.ageHeapedSpec.pre6 enc Try.prog Try.f18 Rows.ageHeapedRow.domain false) (Rows.ageHeapedSpec.post enc Try.prog Try.f18 false true false false) := by
  refine returnsInHanded_of_change (C := Try.checked) own started (by kernel_rfl) Try.func18
    (ChangeSpec.witness6 (enc := enc) (C := Try.checked) false ⟨#[], #[.slice none 0 0, .int .u8 0], []⟩ 8 (by kernel_rfl) (by kernel_rfl) (by kernel_rfl) (by kernel_rfl)) ?_
  intro W base args ds gs before hval0 hW hcnd _
  have hval : ∀ (j : Nat) t v, Try.f18.params[j]? = some t → args[j]? = some v → Value.okWide Try.prog W .any base t v := hval0
  have hW' := hW
  obtain ⟨p, q, hA0, hV, rfl, hfz, hnd⟩ := hW
  have hA : DataW.TrodAll enc Try.prog W 0 (fun _ => true) true Try.f18.params.toList args.toList ds p := hA0
  have hP := hA
  rw [Try.params18] at hA hval
  obtain ⟨v, v', d, d', p1, p2, rfl, rfl, rfl, h1, h2⟩ := trodAll_two hA
  obtain ⟨rfl, rfl⟩ := trodVars_none hV
  clear hA0 hval0
  simp only [List.append_nil] at hW'
  refine (walk (hval 0 _ _ rfl rfl) (hval 1 _ _ rfl rfl) h1 h2).mono fun e W' ⟨he, hg⟩ => ?_
  subst he
  refine ⟨_, rfl, Go.Xe.post_of_old (pa := p1 ++ p2) (pv := []) hW' (fun _ _ _ => (trodAll_cons_mk (shut_bool Try.underlying4 _) trodAll_mk0)) (fun sp hs => ?_) (fun _ _ => rfl) (by simp)
    (hg.frame _) (fun a ha => hg.frozen ha) (ok_one (by kernel_rfl) rfl (okWide_bool_mk Try.underlying4 _))⟩
  exact Go.Xe.stays_all laid (by rw [Try.params18]; decide +kernel) hP (fun x hx => hg.same (hW'.lt x hx)) hs

theorem over : Rows.ageHeapedRow.holds Try.pinned (OpenSpec.ofChange Rows.ageHeapedSpec) :=
  OpenClaim.holds_of_wide 18 Try.f18 rfl rfl rfl rfl rfl rfl rfl ⟨rfl, rfl, rfl, rfl, rfl⟩ rfl rfl rfl rfl rfl (by kernel_rfl) Try.func18 (by kernel_rfl)
    (of_decide_eq_true (by kernel_rfl)) (by unfold Func.isWrapper; first | (rw [if_pos (by decide +kernel)]; kernel_rfl) | (rw [if_neg (by decide +kernel)]; exact ⟨rfl, rfl⟩))
    (fun os started H enc _ => lifted os started H enc)

/-- ████ THE STATEMENT ████ -/
theorem proved : Rows.AgeHeapedSaid :=
  over
#print axioms proved
end Go.Proofs.Ytmalpmlcgkiahaa.ageHeaped
