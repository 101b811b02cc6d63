/-
  No cell of these rows narrows 'for every input' (looked for: loops, veiled, ifaces, maps, wideKeys, modest, calm, conditions, laid).
  DERIVED. THE GIVEN ROWS OF THIS SEAT. 11 by the template 'for every input the law returns true; each argument reads behind the call as it read before'; 0 by the template 'total and deterministic' (their statements: YtlhoonfkjfmadaaTotals.lean).
  GIVEN WITH THE SEED: the statements are not yours to turn. If you find one false, say at which input.
  Laid BY PROGRAM, IN A SANDBOX (cutbox-rows.mjs): the forced cells as the released guide's own fill.sh prints them over the translation 2693354bc76a126a… (all of the seat's roots in one cut). By AI agents, Wed Nov 11 2026. No macro, syntax, notation, axiom, sorry.
-/
import Derived.Test.YtlhoonfkjfmadaaChecked
import GoSem.Claim
import GoSem.ClaimJoined
import GoSem.ClaimMapViews
import Derived.JoinedTies
import Derived.KernelRfl
namespace Go.Proofs.Ytlhoonfkjfmadaa
/- THE CELL 'sum', in the pinned program and in every row, IS THE sha256 OF THE DUMP (.gsa) THAT YtlhoonfkjfmadaaProg.lean LOADS. Nothing in Lean hashes anything: it is a label: what it is worth is what the hold of that sum in a sandbox is worth. -/
noncomputable def Try.pinned : Pinned := { name := "ytlhoonfkjfmadaa", sum := "2693354bc76a126a80a72c49a6a8aa4e38c9eccbe4329436549776a91953b9f7", checked := Try.checked }
namespace Rows
def none {H : Type} : Left H := { results := [], args := [] }

/-- 'tithinglaw04.NameCosts': WHATEVER THE INPUT: true; the input reads as it did. -/
def nameCostsSpec : ChangeSpec := { name := "nameCosts", fn := fun _ => fun
  | [d1, d2, d3] => { results := [.lit (.bool true)], args := [d1, d2, d3] }
  | _ => none }
def nameCostsRow : OpenClaim := { program := "ytlhoonfkjfmadaa", sum := "2693354bc76a126a80a72c49a6a8aa4e38c9eccbe4329436549776a91953b9f7", func := "tithing/tithinglaw04.NameCosts", spec := "nameCosts", unfollowed := true, recurses := true, plainKeys := false, apart := false }
def NameCostsSaid : Prop := nameCostsRow.holds Try.pinned (OpenSpec.ofChange nameCostsSpec)

/-- ITS FALSE NEIGHBOUR: 'it returns false'. Refute it at one input. -/
def nameCostsWrong : ChangeSpec := { name := "nameCosts", fn := fun _ => fun
  | [d1, d2, d3] => { results := [.lit (.bool false)], args := [d1, d2, d3] }
  | _ => none }
def NameCostsWrongFalsely : Prop := nameCostsRow.holds Try.pinned (OpenSpec.ofChange nameCostsWrong)

/-- 'tithinglaw04.NameKeys': WHATEVER THE INPUT: true; the input reads as it did. -/
def nameKeysSpec : ChangeSpec := { name := "nameKeys", fn := fun _ => fun
  | [d1, d2] => { results := [.lit (.bool true)], args := [d1, d2] }
  | _ => none }
def nameKeysRow : OpenClaim := { program := "ytlhoonfkjfmadaa", sum := "2693354bc76a126a80a72c49a6a8aa4e38c9eccbe4329436549776a91953b9f7", func := "tithing/tithinglaw04.NameKeys", spec := "nameKeys", unfollowed := true, recurses := true, plainKeys := false, apart := false }
def NameKeysSaid : Prop := nameKeysRow.holds Try.pinned (OpenSpec.ofChange nameKeysSpec)

/-- ITS FALSE NEIGHBOUR: 'it returns false'. Refute it at one input. -/
def nameKeysWrong : ChangeSpec := { name := "nameKeys", fn := fun _ => fun
  | [d1, d2] => { results := [.lit (.bool false)], args := [d1, d2] }
  | _ => none }
def NameKeysWrongFalsely : Prop := nameKeysRow.holds Try.pinned (OpenSpec.ofChange nameKeysWrong)

/-- 'tithinglaw04.NameNears': WHATEVER THE INPUT: true; the input reads as it did. -/
def nameNearsSpec : ChangeSpec := { name := "nameNears", fn := fun _ => fun
  | [d1, d2, d3, d4] => { results := [.lit (.bool true)], args := [d1, d2, d3, d4] }
  | _ => none }
def nameNearsRow : OpenClaim := { program := "ytlhoonfkjfmadaa", sum := "2693354bc76a126a80a72c49a6a8aa4e38c9eccbe4329436549776a91953b9f7", func := "tithing/tithinglaw04.NameNears", spec := "nameNears", unfollowed := true, recurses := true, plainKeys := false, apart := false }
def NameNearsSaid : Prop := nameNearsRow.holds Try.pinned (OpenSpec.ofChange nameNearsSpec)

/-- ITS FALSE NEIGHBOUR: 'it returns false'. Refute it at one input. -/
def nameNearsWrong : ChangeSpec := { name := "nameNears", fn := fun _ => fun
  | [d1, d2, d3, d4] => { results := [.lit (.bool false)], args := [d1, d2, d3, d4] }
  | _ => none }
def NameNearsWrongFalsely : Prop := nameNearsRow.holds Try.pinned (OpenSpec.ofChange nameNearsWrong)

/-- 'tithinglaw04.NameNames': WHATEVER THE INPUT: true; the input reads as it did. -/
def nameNamesSpec : ChangeSpec := { name := "nameNames", fn := fun _ => fun
  | [] => { results := [.lit (.bool true)], args := [] }
  | _ => none }
def nameNamesRow : OpenClaim := { program := "ytlhoonfkjfmadaa", sum := "2693354bc76a126a80a72c49a6a8aa4e38c9eccbe4329436549776a91953b9f7", func := "tithing/tithinglaw04.NameNames", spec := "nameNames", unfollowed := true, recurses := true, plainKeys := false, apart := false }
def NameNamesSaid : Prop := nameNamesRow.holds Try.pinned (OpenSpec.ofChange nameNamesSpec)

/-- ITS FALSE NEIGHBOUR: 'it returns false'. Refute it at one input. -/
def nameNamesWrong : ChangeSpec := { name := "nameNames", fn := fun _ => fun
  | [] => { results := [.lit (.bool false)], args := [] }
  | _ => none }
def NameNamesWrongFalsely : Prop := nameNamesRow.holds Try.pinned (OpenSpec.ofChange nameNamesWrong)

/-- 'tithinglaw04.NameSame': WHATEVER THE INPUT: true; the input reads as it did. -/
def nameSameSpec : ChangeSpec := { name := "nameSame", fn := fun _ => fun
  | [d1, d2, d3] => { results := [.lit (.bool true)], args := [d1, d2, d3] }
  | _ => none }
def nameSameRow : OpenClaim := { program := "ytlhoonfkjfmadaa", sum := "2693354bc76a126a80a72c49a6a8aa4e38c9eccbe4329436549776a91953b9f7", func := "tithing/tithinglaw04.NameSame", spec := "nameSame", unfollowed := true, recurses := true, plainKeys := false, apart := false }
def NameSameSaid : Prop := nameSameRow.holds Try.pinned (OpenSpec.ofChange nameSameSpec)

/-- ITS FALSE NEIGHBOUR: 'it returns false'. Refute it at one input. -/
def nameSameWrong : ChangeSpec := { name := "nameSame", fn := fun _ => fun
  | [d1, d2, d3] => { results := [.lit (.bool false)], args := [d1, d2, d3] }
  | _ => none }
def NameSameWrongFalsely : Prop := nameSameRow.holds Try.pinned (OpenSpec.ofChange nameSameWrong)

/-- 'tithinglaw04.NameLonger': WHATEVER THE INPUT: true; the input reads as it did. -/
def nameLongerSpec : ChangeSpec := { name := "nameLonger", fn := fun _ => fun
  | [d1, d2, d3, d4] => { results := [.lit (.bool true)], args := [d1, d2, d3, d4] }
  | _ => none }
def nameLongerRow : OpenClaim := { program := "ytlhoonfkjfmadaa", sum := "2693354bc76a126a80a72c49a6a8aa4e38c9eccbe4329436549776a91953b9f7", func := "tithing/tithinglaw04.NameLonger", spec := "nameLonger", unfollowed := true, recurses := true, plainKeys := false, apart := false }
def NameLongerSaid : Prop := nameLongerRow.holds Try.pinned (OpenSpec.ofChange nameLongerSpec)

/-- ITS FALSE NEIGHBOUR: 'it returns false'. Refute it at one input. -/
def nameLongerWrong : ChangeSpec := { name := "nameLonger", fn := fun _ => fun
  | [d1, d2, d3, d4] => { results := [.lit (.bool false)], args := [d1, d2, d3, d4] }
  | _ => none }
def NameLongerWrongFalsely : Prop := nameLongerRow.holds Try.pinned (OpenSpec.ofChange nameLongerWrong)

/-- 'tithinglaw04.NameCheaper': WHATEVER THE INPUT: true; the input reads as it did. -/
def nameCheaperSpec : ChangeSpec := { name := "nameCheaper", fn := fun _ => fun
  | [d1, d2, d3, d4, d5] => { results := [.lit (.bool true)], args := [d1, d2, d3, d4, d5] }
  | _ => none }
def nameCheaperRow : OpenClaim := { program := "ytlhoonfkjfmadaa", sum := "2693354bc76a126a80a72c49a6a8aa4e38c9eccbe4329436549776a91953b9f7", func := "tithing/tithinglaw04.NameCheaper", spec := "nameCheaper", unfollowed := true, recurses := true, plainKeys := false, apart := false }
def NameCheaperSaid : Prop := nameCheaperRow.holds Try.pinned (OpenSpec.ofChange nameCheaperSpec)

/-- ITS FALSE NEIGHBOUR: 'it returns false'. Refute it at one input. -/
def nameCheaperWrong : ChangeSpec := { name := "nameCheaper", fn := fun _ => fun
  | [d1, d2, d3, d4, d5] => { results := [.lit (.bool false)], args := [d1, d2, d3, d4, d5] }
  | _ => none }
def NameCheaperWrongFalsely : Prop := nameCheaperRow.holds Try.pinned (OpenSpec.ofChange nameCheaperWrong)

/-- 'tithinglaw04.NameSounds': WHATEVER THE INPUT: true; the input reads as it did. -/
def nameSoundsSpec : ChangeSpec := { name := "nameSounds", fn := fun _ => fun
  | [d1, d2, d3, d4] => { results := [.lit (.bool true)], args := [d1, d2, d3, d4] }
  | _ => none }
def nameSoundsRow : OpenClaim := { program := "ytlhoonfkjfmadaa", sum := "2693354bc76a126a80a72c49a6a8aa4e38c9eccbe4329436549776a91953b9f7", func := "tithing/tithinglaw04.NameSounds", spec := "nameSounds", unfollowed := true, recurses := true, plainKeys := false, apart := false }
def NameSoundsSaid : Prop := nameSoundsRow.holds Try.pinned (OpenSpec.ofChange nameSoundsSpec)

/-- ITS FALSE NEIGHBOUR: 'it returns false'. Refute it at one input. -/
def nameSoundsWrong : ChangeSpec := { name := "nameSounds", fn := fun _ => fun
  | [d1, d2, d3, d4] => { results := [.lit (.bool false)], args := [d1, d2, d3, d4] }
  | _ => none }
def NameSoundsWrongFalsely : Prop := nameSoundsRow.holds Try.pinned (OpenSpec.ofChange nameSoundsWrong)

/-- 'tithinglaw04.NameParts': WHATEVER THE INPUT: true; the input reads as it did. -/
def namePartsSpec : ChangeSpec := { name := "nameParts", fn := fun _ => fun
  | [d1, d2, d3, d4] => { results := [.lit (.bool true)], args := [d1, d2, d3, d4] }
  | _ => none }
def namePartsRow : OpenClaim := { program := "ytlhoonfkjfmadaa", sum := "2693354bc76a126a80a72c49a6a8aa4e38c9eccbe4329436549776a91953b9f7", func := "tithing/tithinglaw04.NameParts", spec := "nameParts", unfollowed := true, recurses := true, plainKeys := false, apart := false }
def NamePartsSaid : Prop := namePartsRow.holds Try.pinned (OpenSpec.ofChange namePartsSpec)

/-- ITS FALSE NEIGHBOUR: 'it returns false'. Refute it at one input. -/
def namePartsWrong : ChangeSpec := { name := "nameParts", fn := fun _ => fun
  | [d1, d2, d3, d4] => { results := [.lit (.bool false)], args := [d1, d2, d3, d4] }
  | _ => none }
def NamePartsWrongFalsely : Prop := namePartsRow.holds Try.pinned (OpenSpec.ofChange namePartsWrong)

/-- 'tithinglaw04.NameBridge': WHATEVER THE INPUT: true; the input reads as it did. -/
def nameBridgeSpec : ChangeSpec := { name := "nameBridge", fn := fun _ => fun
  | [d1, d2, d3] => { results := [.lit (.bool true)], args := [d1, d2, d3] }
  | _ => none }
def nameBridgeRow : OpenClaim := { program := "ytlhoonfkjfmadaa", sum := "2693354bc76a126a80a72c49a6a8aa4e38c9eccbe4329436549776a91953b9f7", func := "tithing/tithinglaw04.NameBridge", spec := "nameBridge", unfollowed := true, recurses := true, plainKeys := false, apart := false }
def NameBridgeSaid : Prop := nameBridgeRow.holds Try.pinned (OpenSpec.ofChange nameBridgeSpec)

/-- ITS FALSE NEIGHBOUR: 'it returns false'. Refute it at one input. -/
def nameBridgeWrong : ChangeSpec := { name := "nameBridge", fn := fun _ => fun
  | [d1, d2, d3] => { results := [.lit (.bool false)], args := [d1, d2, d3] }
  | _ => none }
def NameBridgeWrongFalsely : Prop := nameBridgeRow.holds Try.pinned (OpenSpec.ofChange nameBridgeWrong)

/-- 'tithinglaw04.NameCenter': WHATEVER THE INPUT: true; the input reads as it did. -/
def nameCenterSpec : ChangeSpec := { name := "nameCenter", fn := fun _ => fun
  | [d1, d2, d3] => { results := [.lit (.bool true)], args := [d1, d2, d3] }
  | _ => none }
def nameCenterRow : OpenClaim := { program := "ytlhoonfkjfmadaa", sum := "2693354bc76a126a80a72c49a6a8aa4e38c9eccbe4329436549776a91953b9f7", func := "tithing/tithinglaw04.NameCenter", spec := "nameCenter", unfollowed := true, recurses := true, plainKeys := false, apart := false }
def NameCenterSaid : Prop := nameCenterRow.holds Try.pinned (OpenSpec.ofChange nameCenterSpec)

/-- ITS FALSE NEIGHBOUR: 'it returns false'. Refute it at one input. -/
def nameCenterWrong : ChangeSpec := { name := "nameCenter", fn := fun _ => fun
  | [d1, d2, d3] => { results := [.lit (.bool false)], args := [d1, d2, d3] }
  | _ => none }
def NameCenterWrongFalsely : Prop := nameCenterRow.holds Try.pinned (OpenSpec.ofChange nameCenterWrong)

/- THE SECOND FORM. 'bulk': how many values and letters a reading holds, each counted each time it is reached (what is shared counts as often as it is met; a slice's spare places count too). A statement '..UptoSaid' is the law's where the arguments, and the package variables that the reading takes, are together of bulk at most 1048576: NARROWER than '..Said'. Prove '..Said' where nothing that the law and all that it calls make is longer than what came in: it says more and counts as full. Else prove '..UptoSaid'. A law counts once. -/
mutual
def uptoBulk {H : Type} : DataW H → Nat
  | .lit (.string bytes) => bytes.length + 1
  | .lit _ => 1
  | .nil => 1
  | .ptr d => uptoBulk d + 1
  | .slice elems spare => uptoBulkAll elems + uptoBulkAll spare + 1
  | .agg parts => uptoBulkAll parts + 1
  | .iface _ d => uptoBulk d + 1
  | .map entries => uptoBulkEntries entries + 1
  | .held _ => 1
def uptoBulkAll {H : Type} : List (DataW H) → Nat
  | [] => 0
  | d :: r => uptoBulk d + uptoBulkAll r
def uptoBulkEntries {H : Type} : List (Lit × DataW H) → Nat
  | [] => 0
  | x :: r => uptoBulkEntry x + uptoBulkEntries r
def uptoBulkEntry {H : Type} : Lit × DataW H → Nat
  | (.string bytes, d) => bytes.length + uptoBulk d + 1
  | (_, d) => uptoBulk d + 1
 end
def uptoSmall : (H : Type) → List (DataW H) → Bool := fun _ ds => decide (uptoBulkAll ds ≤ 1048576)
def OpenSpec.upto (s : _root_.Go.ChangeSpec) : _root_.Go.OpenSpec := { _root_.Go.OpenSpec.ofChange s with cond := some uptoSmall }

/-- 'tithinglaw04.NameCosts', WHERE WHAT IT READS IS OF BULK AT MOST 1048576: true; the input reads as it did. -/
def nameCostsUptoRow : OpenClaim := { program := "ytlhoonfkjfmadaa", sum := "2693354bc76a126a80a72c49a6a8aa4e38c9eccbe4329436549776a91953b9f7", func := "tithing/tithinglaw04.NameCosts", spec := "nameCosts", unfollowed := true, recurses := true, plainKeys := false, apart := false, narrowed := true }
def NameCostsUptoSaid : Prop := nameCostsUptoRow.holds Try.pinned (OpenSpec.upto nameCostsSpec)

/-- 'tithinglaw04.NameKeys', WHERE WHAT IT READS IS OF BULK AT MOST 1048576: true; the input reads as it did. -/
def nameKeysUptoRow : OpenClaim := { program := "ytlhoonfkjfmadaa", sum := "2693354bc76a126a80a72c49a6a8aa4e38c9eccbe4329436549776a91953b9f7", func := "tithing/tithinglaw04.NameKeys", spec := "nameKeys", unfollowed := true, recurses := true, plainKeys := false, apart := false, narrowed := true }
def NameKeysUptoSaid : Prop := nameKeysUptoRow.holds Try.pinned (OpenSpec.upto nameKeysSpec)

/-- 'tithinglaw04.NameNears', WHERE WHAT IT READS IS OF BULK AT MOST 1048576: true; the input reads as it did. -/
def nameNearsUptoRow : OpenClaim := { program := "ytlhoonfkjfmadaa", sum := "2693354bc76a126a80a72c49a6a8aa4e38c9eccbe4329436549776a91953b9f7", func := "tithing/tithinglaw04.NameNears", spec := "nameNears", unfollowed := true, recurses := true, plainKeys := false, apart := false, narrowed := true }
def NameNearsUptoSaid : Prop := nameNearsUptoRow.holds Try.pinned (OpenSpec.upto nameNearsSpec)

/-- 'tithinglaw04.NameNames', WHERE WHAT IT READS IS OF BULK AT MOST 1048576: true; the input reads as it did. -/
def nameNamesUptoRow : OpenClaim := { program := "ytlhoonfkjfmadaa", sum := "2693354bc76a126a80a72c49a6a8aa4e38c9eccbe4329436549776a91953b9f7", func := "tithing/tithinglaw04.NameNames", spec := "nameNames", unfollowed := true, recurses := true, plainKeys := false, apart := false, narrowed := true }
def NameNamesUptoSaid : Prop := nameNamesUptoRow.holds Try.pinned (OpenSpec.upto nameNamesSpec)

/-- 'tithinglaw04.NameSame', WHERE WHAT IT READS IS OF BULK AT MOST 1048576: true; the input reads as it did. -/
def nameSameUptoRow : OpenClaim := { program := "ytlhoonfkjfmadaa", sum := "2693354bc76a126a80a72c49a6a8aa4e38c9eccbe4329436549776a91953b9f7", func := "tithing/tithinglaw04.NameSame", spec := "nameSame", unfollowed := true, recurses := true, plainKeys := false, apart := false, narrowed := true }
def NameSameUptoSaid : Prop := nameSameUptoRow.holds Try.pinned (OpenSpec.upto nameSameSpec)

/-- 'tithinglaw04.NameLonger', WHERE WHAT IT READS IS OF BULK AT MOST 1048576: true; the input reads as it did. -/
def nameLongerUptoRow : OpenClaim := { program := "ytlhoonfkjfmadaa", sum := "2693354bc76a126a80a72c49a6a8aa4e38c9eccbe4329436549776a91953b9f7", func := "tithing/tithinglaw04.NameLonger", spec := "nameLonger", unfollowed := true, recurses := true, plainKeys := false, apart := false, narrowed := true }
def NameLongerUptoSaid : Prop := nameLongerUptoRow.holds Try.pinned (OpenSpec.upto nameLongerSpec)

/-- 'tithinglaw04.NameCheaper', WHERE WHAT IT READS IS OF BULK AT MOST 1048576: true; the input reads as it did. -/
def nameCheaperUptoRow : OpenClaim := { program := "ytlhoonfkjfmadaa", sum := "2693354bc76a126a80a72c49a6a8aa4e38c9eccbe4329436549776a91953b9f7", func := "tithing/tithinglaw04.NameCheaper", spec := "nameCheaper", unfollowed := true, recurses := true, plainKeys := false, apart := false, narrowed := true }
def NameCheaperUptoSaid : Prop := nameCheaperUptoRow.holds Try.pinned (OpenSpec.upto nameCheaperSpec)

/-- 'tithinglaw04.NameSounds', WHERE WHAT IT READS IS OF BULK AT MOST 1048576: true; the input reads as it did. -/
def nameSoundsUptoRow : OpenClaim := { program := "ytlhoonfkjfmadaa", sum := "2693354bc76a126a80a72c49a6a8aa4e38c9eccbe4329436549776a91953b9f7", func := "tithing/tithinglaw04.NameSounds", spec := "nameSounds", unfollowed := true, recurses := true, plainKeys := false, apart := false, narrowed := true }
def NameSoundsUptoSaid : Prop := nameSoundsUptoRow.holds Try.pinned (OpenSpec.upto nameSoundsSpec)

/-- 'tithinglaw04.NameParts', WHERE WHAT IT READS IS OF BULK AT MOST 1048576: true; the input reads as it did. -/
def namePartsUptoRow : OpenClaim := { program := "ytlhoonfkjfmadaa", sum := "2693354bc76a126a80a72c49a6a8aa4e38c9eccbe4329436549776a91953b9f7", func := "tithing/tithinglaw04.NameParts", spec := "nameParts", unfollowed := true, recurses := true, plainKeys := false, apart := false, narrowed := true }
def NamePartsUptoSaid : Prop := namePartsUptoRow.holds Try.pinned (OpenSpec.upto namePartsSpec)

/-- 'tithinglaw04.NameBridge', WHERE WHAT IT READS IS OF BULK AT MOST 1048576: true; the input reads as it did. -/
def nameBridgeUptoRow : OpenClaim := { program := "ytlhoonfkjfmadaa", sum := "2693354bc76a126a80a72c49a6a8aa4e38c9eccbe4329436549776a91953b9f7", func := "tithing/tithinglaw04.NameBridge", spec := "nameBridge", unfollowed := true, recurses := true, plainKeys := false, apart := false, narrowed := true }
def NameBridgeUptoSaid : Prop := nameBridgeUptoRow.holds Try.pinned (OpenSpec.upto nameBridgeSpec)

/-- 'tithinglaw04.NameCenter', WHERE WHAT IT READS IS OF BULK AT MOST 1048576: true; the input reads as it did. -/
def nameCenterUptoRow : OpenClaim := { program := "ytlhoonfkjfmadaa", sum := "2693354bc76a126a80a72c49a6a8aa4e38c9eccbe4329436549776a91953b9f7", func := "tithing/tithinglaw04.NameCenter", spec := "nameCenter", unfollowed := true, recurses := true, plainKeys := false, apart := false, narrowed := true }
def NameCenterUptoSaid : Prop := nameCenterUptoRow.holds Try.pinned (OpenSpec.upto nameCenterSpec)

end Rows
end Go.Proofs.Ytlhoonfkjfmadaa
