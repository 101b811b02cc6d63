/-
  No cell of these rows narrows 'for every input' (looked for: loops, veiled, ifaces, maps, wideKeys, modest, calm, conditions, laid).
  DERIVED. THE GIVEN ROWS OF THIS SEAT. 17 by the template 'for every input the law returns true; each argument reads behind the call as it read before'; 0 by the template 'total and deterministic' (their statements: YtelfbgmhleneiaaTotals.lean).
  GIVEN WITH THE SEED: the statements are not yours to turn. If you find one false, say at which input.
  Laid BY PROGRAM, IN A SANDBOX (cutbox-rows.mjs): the forced cells as the released guide's own fill.sh prints them over the translation c9f9851bf367b47e… (all of the seat's roots in one cut). By AI agents, Wed Nov 11 2026. No macro, syntax, notation, axiom, sorry.
-/
import Derived.Test.YtelfbgmhleneiaaChecked
import GoSem.Claim
import GoSem.ClaimJoined
import GoSem.ClaimMapViews
import Derived.JoinedTies
import Derived.KernelRfl
namespace Go.Proofs.Ytelfbgmhleneiaa
/- THE CELL 'sum', in the pinned program and in every row, IS THE sha256 OF THE DUMP (.gsa) THAT YtelfbgmhleneiaaProg.lean LOADS. Nothing in Lean hashes anything: it is a label: what it is worth is what the hold of that sum in a sandbox is worth. -/
noncomputable def Try.pinned : Pinned := { name := "ytelfbgmhleneiaa", sum := "c9f9851bf367b47e316174d289f89a4357c75a478be30dfce6cb93225d84c214", checked := Try.checked }
namespace Rows
def none {H : Type} : Left H := { results := [], args := [] }

/-- 'tithinglaw10.SeatGives': WHATEVER THE INPUT: true; the input reads as it did. -/
def seatGivesSpec : ChangeSpec := { name := "seatGives", fn := fun _ => fun
  | [d1, d2] => { results := [.lit (.bool true)], args := [d1, d2] }
  | _ => none }
def seatGivesRow : OpenClaim := { program := "ytelfbgmhleneiaa", sum := "c9f9851bf367b47e316174d289f89a4357c75a478be30dfce6cb93225d84c214", func := "tithing/tithinglaw10.SeatGives", spec := "seatGives", unfollowed := true, recurses := true, apart := false }
def SeatGivesSaid : Prop := seatGivesRow.holds Try.pinned (OpenSpec.ofChange seatGivesSpec)

/-- ITS FALSE NEIGHBOUR: 'it returns false'. Refute it at one input. -/
def seatGivesWrong : ChangeSpec := { name := "seatGives", fn := fun _ => fun
  | [d1, d2] => { results := [.lit (.bool false)], args := [d1, d2] }
  | _ => none }
def SeatGivesWrongFalsely : Prop := seatGivesRow.holds Try.pinned (OpenSpec.ofChange seatGivesWrong)

/-- 'tithinglaw10.SeatProves': WHATEVER THE INPUT: true; the input reads as it did. -/
def seatProvesSpec : ChangeSpec := { name := "seatProves", fn := fun _ => fun
  | [d1, d2, d3] => { results := [.lit (.bool true)], args := [d1, d2, d3] }
  | _ => none }
def seatProvesRow : OpenClaim := { program := "ytelfbgmhleneiaa", sum := "c9f9851bf367b47e316174d289f89a4357c75a478be30dfce6cb93225d84c214", func := "tithing/tithinglaw10.SeatProves", spec := "seatProves", unfollowed := true, recurses := true, apart := false }
def SeatProvesSaid : Prop := seatProvesRow.holds Try.pinned (OpenSpec.ofChange seatProvesSpec)

/-- ITS FALSE NEIGHBOUR: 'it returns false'. Refute it at one input. -/
def seatProvesWrong : ChangeSpec := { name := "seatProves", fn := fun _ => fun
  | [d1, d2, d3] => { results := [.lit (.bool false)], args := [d1, d2, d3] }
  | _ => none }
def SeatProvesWrongFalsely : Prop := seatProvesRow.holds Try.pinned (OpenSpec.ofChange seatProvesWrong)

/-- 'tithinglaw10.SeatNext': WHATEVER THE INPUT: true; the input reads as it did. -/
def seatNextSpec : ChangeSpec := { name := "seatNext", fn := fun _ => fun
  | [d1, d2] => { results := [.lit (.bool true)], args := [d1, d2] }
  | _ => none }
def seatNextRow : OpenClaim := { program := "ytelfbgmhleneiaa", sum := "c9f9851bf367b47e316174d289f89a4357c75a478be30dfce6cb93225d84c214", func := "tithing/tithinglaw10.SeatNext", spec := "seatNext", unfollowed := true, recurses := true, apart := false }
def SeatNextSaid : Prop := seatNextRow.holds Try.pinned (OpenSpec.ofChange seatNextSpec)

/-- ITS FALSE NEIGHBOUR: 'it returns false'. Refute it at one input. -/
def seatNextWrong : ChangeSpec := { name := "seatNext", fn := fun _ => fun
  | [d1, d2] => { results := [.lit (.bool false)], args := [d1, d2] }
  | _ => none }
def SeatNextWrongFalsely : Prop := seatNextRow.holds Try.pinned (OpenSpec.ofChange seatNextWrong)

/-- 'tithinglaw10.SeatQuotas': WHATEVER THE INPUT: true; the input reads as it did. -/
def seatQuotasSpec : ChangeSpec := { name := "seatQuotas", fn := fun _ => fun
  | [d1, d2] => { results := [.lit (.bool true)], args := [d1, d2] }
  | _ => none }
def seatQuotasRow : OpenClaim := { program := "ytelfbgmhleneiaa", sum := "c9f9851bf367b47e316174d289f89a4357c75a478be30dfce6cb93225d84c214", func := "tithing/tithinglaw10.SeatQuotas", spec := "seatQuotas", unfollowed := true, recurses := true, apart := false }
def SeatQuotasSaid : Prop := seatQuotasRow.holds Try.pinned (OpenSpec.ofChange seatQuotasSpec)

/-- ITS FALSE NEIGHBOUR: 'it returns false'. Refute it at one input. -/
def seatQuotasWrong : ChangeSpec := { name := "seatQuotas", fn := fun _ => fun
  | [d1, d2] => { results := [.lit (.bool false)], args := [d1, d2] }
  | _ => none }
def SeatQuotasWrongFalsely : Prop := seatQuotasRow.holds Try.pinned (OpenSpec.ofChange seatQuotasWrong)

/-- 'tithinglaw10.SeatBounds': WHATEVER THE INPUT: true; the input reads as it did. -/
def seatBoundsSpec : ChangeSpec := { name := "seatBounds", fn := fun _ => fun
  | [d1, d2] => { results := [.lit (.bool true)], args := [d1, d2] }
  | _ => none }
def seatBoundsRow : OpenClaim := { program := "ytelfbgmhleneiaa", sum := "c9f9851bf367b47e316174d289f89a4357c75a478be30dfce6cb93225d84c214", func := "tithing/tithinglaw10.SeatBounds", spec := "seatBounds", unfollowed := true, recurses := true, apart := false }
def SeatBoundsSaid : Prop := seatBoundsRow.holds Try.pinned (OpenSpec.ofChange seatBoundsSpec)

/-- ITS FALSE NEIGHBOUR: 'it returns false'. Refute it at one input. -/
def seatBoundsWrong : ChangeSpec := { name := "seatBounds", fn := fun _ => fun
  | [d1, d2] => { results := [.lit (.bool false)], args := [d1, d2] }
  | _ => none }
def SeatBoundsWrongFalsely : Prop := seatBoundsRow.holds Try.pinned (OpenSpec.ofChange seatBoundsWrong)

/-- 'tithinglaw10.SeatShifts': WHATEVER THE INPUT: true; the input reads as it did. -/
def seatShiftsSpec : ChangeSpec := { name := "seatShifts", fn := fun _ => fun
  | [d1, d2] => { results := [.lit (.bool true)], args := [d1, d2] }
  | _ => none }
def seatShiftsRow : OpenClaim := { program := "ytelfbgmhleneiaa", sum := "c9f9851bf367b47e316174d289f89a4357c75a478be30dfce6cb93225d84c214", func := "tithing/tithinglaw10.SeatShifts", spec := "seatShifts", unfollowed := true, recurses := true, apart := false }
def SeatShiftsSaid : Prop := seatShiftsRow.holds Try.pinned (OpenSpec.ofChange seatShiftsSpec)

/-- ITS FALSE NEIGHBOUR: 'it returns false'. Refute it at one input. -/
def seatShiftsWrong : ChangeSpec := { name := "seatShifts", fn := fun _ => fun
  | [d1, d2] => { results := [.lit (.bool false)], args := [d1, d2] }
  | _ => none }
def SeatShiftsWrongFalsely : Prop := seatShiftsRow.holds Try.pinned (OpenSpec.ofChange seatShiftsWrong)

/-- 'tithinglaw10.SeatNames': WHATEVER THE INPUT: true; the input reads as it did. -/
def seatNamesSpec : ChangeSpec := { name := "seatNames", fn := fun _ => fun
  | [] => { results := [.lit (.bool true)], args := [] }
  | _ => none }
def seatNamesRow : OpenClaim := { program := "ytelfbgmhleneiaa", sum := "c9f9851bf367b47e316174d289f89a4357c75a478be30dfce6cb93225d84c214", func := "tithing/tithinglaw10.SeatNames", spec := "seatNames", unfollowed := true, recurses := true, apart := false }
def SeatNamesSaid : Prop := seatNamesRow.holds Try.pinned (OpenSpec.ofChange seatNamesSpec)

/-- ITS FALSE NEIGHBOUR: 'it returns false'. Refute it at one input. -/
def seatNamesWrong : ChangeSpec := { name := "seatNames", fn := fun _ => fun
  | [] => { results := [.lit (.bool false)], args := [] }
  | _ => none }
def SeatNamesWrongFalsely : Prop := seatNamesRow.holds Try.pinned (OpenSpec.ofChange seatNamesWrong)

/-- 'tithinglaw10.SeatAll': WHATEVER THE INPUT: true; the input reads as it did. -/
def seatAllSpec : ChangeSpec := { name := "seatAll", fn := fun _ => fun
  | [d1, d2] => { results := [.lit (.bool true)], args := [d1, d2] }
  | _ => none }
def seatAllRow : OpenClaim := { program := "ytelfbgmhleneiaa", sum := "c9f9851bf367b47e316174d289f89a4357c75a478be30dfce6cb93225d84c214", func := "tithing/tithinglaw10.SeatAll", spec := "seatAll", unfollowed := true, recurses := true, apart := false }
def SeatAllSaid : Prop := seatAllRow.holds Try.pinned (OpenSpec.ofChange seatAllSpec)

/-- ITS FALSE NEIGHBOUR: 'it returns false'. Refute it at one input. -/
def seatAllWrong : ChangeSpec := { name := "seatAll", fn := fun _ => fun
  | [d1, d2] => { results := [.lit (.bool false)], args := [d1, d2] }
  | _ => none }
def SeatAllWrongFalsely : Prop := seatAllRow.holds Try.pinned (OpenSpec.ofChange seatAllWrong)

/-- 'tithinglaw10.SeatClaims': WHATEVER THE INPUT: true; the input reads as it did. -/
def seatClaimsSpec : ChangeSpec := { name := "seatClaims", fn := fun _ => fun
  | [d1, d2, d3] => { results := [.lit (.bool true)], args := [d1, d2, d3] }
  | _ => none }
def seatClaimsRow : OpenClaim := { program := "ytelfbgmhleneiaa", sum := "c9f9851bf367b47e316174d289f89a4357c75a478be30dfce6cb93225d84c214", func := "tithing/tithinglaw10.SeatClaims", spec := "seatClaims", unfollowed := true, recurses := true, apart := false }
def SeatClaimsSaid : Prop := seatClaimsRow.holds Try.pinned (OpenSpec.ofChange seatClaimsSpec)

/-- ITS FALSE NEIGHBOUR: 'it returns false'. Refute it at one input. -/
def seatClaimsWrong : ChangeSpec := { name := "seatClaims", fn := fun _ => fun
  | [d1, d2, d3] => { results := [.lit (.bool false)], args := [d1, d2, d3] }
  | _ => none }
def SeatClaimsWrongFalsely : Prop := seatClaimsRow.holds Try.pinned (OpenSpec.ofChange seatClaimsWrong)

/-- 'tithinglaw10.SeatWithin': WHATEVER THE INPUT: true; the input reads as it did. -/
def seatWithinSpec : ChangeSpec := { name := "seatWithin", fn := fun _ => fun
  | [d1, d2, d3] => { results := [.lit (.bool true)], args := [d1, d2, d3] }
  | _ => none }
def seatWithinRow : OpenClaim := { program := "ytelfbgmhleneiaa", sum := "c9f9851bf367b47e316174d289f89a4357c75a478be30dfce6cb93225d84c214", func := "tithing/tithinglaw10.SeatWithin", spec := "seatWithin", unfollowed := true, recurses := true, apart := false }
def SeatWithinSaid : Prop := seatWithinRow.holds Try.pinned (OpenSpec.ofChange seatWithinSpec)

/-- ITS FALSE NEIGHBOUR: 'it returns false'. Refute it at one input. -/
def seatWithinWrong : ChangeSpec := { name := "seatWithin", fn := fun _ => fun
  | [d1, d2, d3] => { results := [.lit (.bool false)], args := [d1, d2, d3] }
  | _ => none }
def SeatWithinWrongFalsely : Prop := seatWithinRow.holds Try.pinned (OpenSpec.ofChange seatWithinWrong)

/-- 'tithinglaw10.SeatHouse': WHATEVER THE INPUT: true; the input reads as it did. -/
def seatHouseSpec : ChangeSpec := { name := "seatHouse", fn := fun _ => fun
  | [d1, d2] => { results := [.lit (.bool true)], args := [d1, d2] }
  | _ => none }
def seatHouseRow : OpenClaim := { program := "ytelfbgmhleneiaa", sum := "c9f9851bf367b47e316174d289f89a4357c75a478be30dfce6cb93225d84c214", func := "tithing/tithinglaw10.SeatHouse", spec := "seatHouse", unfollowed := true, recurses := true, apart := false }
def SeatHouseSaid : Prop := seatHouseRow.holds Try.pinned (OpenSpec.ofChange seatHouseSpec)

/-- ITS FALSE NEIGHBOUR: 'it returns false'. Refute it at one input. -/
def seatHouseWrong : ChangeSpec := { name := "seatHouse", fn := fun _ => fun
  | [d1, d2] => { results := [.lit (.bool false)], args := [d1, d2] }
  | _ => none }
def SeatHouseWrongFalsely : Prop := seatHouseRow.holds Try.pinned (OpenSpec.ofChange seatHouseWrong)

/-- 'tithinglaw10.SeatVotes': WHATEVER THE INPUT: true; the input reads as it did. -/
def seatVotesSpec : ChangeSpec := { name := "seatVotes", fn := fun _ => fun
  | [d1, d2, d3, d4] => { results := [.lit (.bool true)], args := [d1, d2, d3, d4] }
  | _ => none }
def seatVotesRow : OpenClaim := { program := "ytelfbgmhleneiaa", sum := "c9f9851bf367b47e316174d289f89a4357c75a478be30dfce6cb93225d84c214", func := "tithing/tithinglaw10.SeatVotes", spec := "seatVotes", unfollowed := true, recurses := true, apart := false }
def SeatVotesSaid : Prop := seatVotesRow.holds Try.pinned (OpenSpec.ofChange seatVotesSpec)

/-- ITS FALSE NEIGHBOUR: 'it returns false'. Refute it at one input. -/
def seatVotesWrong : ChangeSpec := { name := "seatVotes", fn := fun _ => fun
  | [d1, d2, d3, d4] => { results := [.lit (.bool false)], args := [d1, d2, d3, d4] }
  | _ => none }
def SeatVotesWrongFalsely : Prop := seatVotesRow.holds Try.pinned (OpenSpec.ofChange seatVotesWrong)

/-- 'tithinglaw10.SeatQuota': WHATEVER THE INPUT: true; the input reads as it did. -/
def seatQuotaSpec : ChangeSpec := { name := "seatQuota", fn := fun _ => fun
  | [d1, d2] => { results := [.lit (.bool true)], args := [d1, d2] }
  | _ => none }
def seatQuotaRow : OpenClaim := { program := "ytelfbgmhleneiaa", sum := "c9f9851bf367b47e316174d289f89a4357c75a478be30dfce6cb93225d84c214", func := "tithing/tithinglaw10.SeatQuota", spec := "seatQuota", unfollowed := true, recurses := true, apart := false }
def SeatQuotaSaid : Prop := seatQuotaRow.holds Try.pinned (OpenSpec.ofChange seatQuotaSpec)

/-- ITS FALSE NEIGHBOUR: 'it returns false'. Refute it at one input. -/
def seatQuotaWrong : ChangeSpec := { name := "seatQuota", fn := fun _ => fun
  | [d1, d2] => { results := [.lit (.bool false)], args := [d1, d2] }
  | _ => none }
def SeatQuotaWrongFalsely : Prop := seatQuotaRow.holds Try.pinned (OpenSpec.ofChange seatQuotaWrong)

/-- 'tithinglaw10.SeatTimes': WHATEVER THE INPUT: true; the input reads as it did. -/
def seatTimesSpec : ChangeSpec := { name := "seatTimes", fn := fun _ => fun
  | [d1, d2, d3] => { results := [.lit (.bool true)], args := [d1, d2, d3] }
  | _ => none }
def seatTimesRow : OpenClaim := { program := "ytelfbgmhleneiaa", sum := "c9f9851bf367b47e316174d289f89a4357c75a478be30dfce6cb93225d84c214", func := "tithing/tithinglaw10.SeatTimes", spec := "seatTimes", unfollowed := true, recurses := true, apart := false }
def SeatTimesSaid : Prop := seatTimesRow.holds Try.pinned (OpenSpec.ofChange seatTimesSpec)

/-- ITS FALSE NEIGHBOUR: 'it returns false'. Refute it at one input. -/
def seatTimesWrong : ChangeSpec := { name := "seatTimes", fn := fun _ => fun
  | [d1, d2, d3] => { results := [.lit (.bool false)], args := [d1, d2, d3] }
  | _ => none }
def SeatTimesWrongFalsely : Prop := seatTimesRow.holds Try.pinned (OpenSpec.ofChange seatTimesWrong)

/-- 'tithinglaw10.SeatOrder': WHATEVER THE INPUT: true; the input reads as it did. -/
def seatOrderSpec : ChangeSpec := { name := "seatOrder", fn := fun _ => fun
  | [d1, d2, d3] => { results := [.lit (.bool true)], args := [d1, d2, d3] }
  | _ => none }
def seatOrderRow : OpenClaim := { program := "ytelfbgmhleneiaa", sum := "c9f9851bf367b47e316174d289f89a4357c75a478be30dfce6cb93225d84c214", func := "tithing/tithinglaw10.SeatOrder", spec := "seatOrder", unfollowed := true, recurses := true, apart := false }
def SeatOrderSaid : Prop := seatOrderRow.holds Try.pinned (OpenSpec.ofChange seatOrderSpec)

/-- ITS FALSE NEIGHBOUR: 'it returns false'. Refute it at one input. -/
def seatOrderWrong : ChangeSpec := { name := "seatOrder", fn := fun _ => fun
  | [d1, d2, d3] => { results := [.lit (.bool false)], args := [d1, d2, d3] }
  | _ => none }
def SeatOrderWrongFalsely : Prop := seatOrderRow.holds Try.pinned (OpenSpec.ofChange seatOrderWrong)

/-- 'tithinglaw10.SeatShift': WHATEVER THE INPUT: true; the input reads as it did. -/
def seatShiftSpec : ChangeSpec := { name := "seatShift", fn := fun _ => fun
  | [d1, d2, d3, d4] => { results := [.lit (.bool true)], args := [d1, d2, d3, d4] }
  | _ => none }
def seatShiftRow : OpenClaim := { program := "ytelfbgmhleneiaa", sum := "c9f9851bf367b47e316174d289f89a4357c75a478be30dfce6cb93225d84c214", func := "tithing/tithinglaw10.SeatShift", spec := "seatShift", unfollowed := true, recurses := true, apart := false }
def SeatShiftSaid : Prop := seatShiftRow.holds Try.pinned (OpenSpec.ofChange seatShiftSpec)

/-- ITS FALSE NEIGHBOUR: 'it returns false'. Refute it at one input. -/
def seatShiftWrong : ChangeSpec := { name := "seatShift", fn := fun _ => fun
  | [d1, d2, d3, d4] => { results := [.lit (.bool false)], args := [d1, d2, d3, d4] }
  | _ => none }
def SeatShiftWrongFalsely : Prop := seatShiftRow.holds Try.pinned (OpenSpec.ofChange seatShiftWrong)

/-- 'tithinglaw10.SeatKind': WHATEVER THE INPUT: true; the input reads as it did. -/
def seatKindSpec : ChangeSpec := { name := "seatKind", fn := fun _ => fun
  | [d1, d2] => { results := [.lit (.bool true)], args := [d1, d2] }
  | _ => none }
def seatKindRow : OpenClaim := { program := "ytelfbgmhleneiaa", sum := "c9f9851bf367b47e316174d289f89a4357c75a478be30dfce6cb93225d84c214", func := "tithing/tithinglaw10.SeatKind", spec := "seatKind", unfollowed := true, recurses := true, apart := false }
def SeatKindSaid : Prop := seatKindRow.holds Try.pinned (OpenSpec.ofChange seatKindSpec)

/-- ITS FALSE NEIGHBOUR: 'it returns false'. Refute it at one input. -/
def seatKindWrong : ChangeSpec := { name := "seatKind", fn := fun _ => fun
  | [d1, d2] => { results := [.lit (.bool false)], args := [d1, d2] }
  | _ => none }
def SeatKindWrongFalsely : Prop := seatKindRow.holds Try.pinned (OpenSpec.ofChange seatKindWrong)

/- THE SECOND FORM. 'bulk': how many values and letters a reading holds, each counted each time it is reached (what is shared counts as often as it is met; a slice's spare places count too). A statement '..UptoSaid' is the law's where the arguments, and the package variables that the reading takes, are together of bulk at most 1048576: NARROWER than '..Said'. Prove '..Said' where nothing that the law and all that it calls make is longer than what came in: it says more and counts as full. Else prove '..UptoSaid'. A law counts once. -/
mutual
def uptoBulk {H : Type} : DataW H → Nat
  | .lit (.string bytes) => bytes.length + 1
  | .lit _ => 1
  | .nil => 1
  | .ptr d => uptoBulk d + 1
  | .slice elems spare => uptoBulkAll elems + uptoBulkAll spare + 1
  | .agg parts => uptoBulkAll parts + 1
  | .iface _ d => uptoBulk d + 1
  | .map entries => uptoBulkEntries entries + 1
  | .held _ => 1
def uptoBulkAll {H : Type} : List (DataW H) → Nat
  | [] => 0
  | d :: r => uptoBulk d + uptoBulkAll r
def uptoBulkEntries {H : Type} : List (Lit × DataW H) → Nat
  | [] => 0
  | x :: r => uptoBulkEntry x + uptoBulkEntries r
def uptoBulkEntry {H : Type} : Lit × DataW H → Nat
  | (.string bytes, d) => bytes.length + uptoBulk d + 1
  | (_, d) => uptoBulk d + 1
 end
def uptoSmall : (H : Type) → List (DataW H) → Bool := fun _ ds => decide (uptoBulkAll ds ≤ 1048576)
def OpenSpec.upto (s : _root_.Go.ChangeSpec) : _root_.Go.OpenSpec := { _root_.Go.OpenSpec.ofChange s with cond := some uptoSmall }

/-- 'tithinglaw10.SeatGives', WHERE WHAT IT READS IS OF BULK AT MOST 1048576: true; the input reads as it did. -/
def seatGivesUptoRow : OpenClaim := { program := "ytelfbgmhleneiaa", sum := "c9f9851bf367b47e316174d289f89a4357c75a478be30dfce6cb93225d84c214", func := "tithing/tithinglaw10.SeatGives", spec := "seatGives", unfollowed := true, recurses := true, apart := false, narrowed := true }
def SeatGivesUptoSaid : Prop := seatGivesUptoRow.holds Try.pinned (OpenSpec.upto seatGivesSpec)

/-- 'tithinglaw10.SeatProves', WHERE WHAT IT READS IS OF BULK AT MOST 1048576: true; the input reads as it did. -/
def seatProvesUptoRow : OpenClaim := { program := "ytelfbgmhleneiaa", sum := "c9f9851bf367b47e316174d289f89a4357c75a478be30dfce6cb93225d84c214", func := "tithing/tithinglaw10.SeatProves", spec := "seatProves", unfollowed := true, recurses := true, apart := false, narrowed := true }
def SeatProvesUptoSaid : Prop := seatProvesUptoRow.holds Try.pinned (OpenSpec.upto seatProvesSpec)

/-- 'tithinglaw10.SeatNext', WHERE WHAT IT READS IS OF BULK AT MOST 1048576: true; the input reads as it did. -/
def seatNextUptoRow : OpenClaim := { program := "ytelfbgmhleneiaa", sum := "c9f9851bf367b47e316174d289f89a4357c75a478be30dfce6cb93225d84c214", func := "tithing/tithinglaw10.SeatNext", spec := "seatNext", unfollowed := true, recurses := true, apart := false, narrowed := true }
def SeatNextUptoSaid : Prop := seatNextUptoRow.holds Try.pinned (OpenSpec.upto seatNextSpec)

/-- 'tithinglaw10.SeatQuotas', WHERE WHAT IT READS IS OF BULK AT MOST 1048576: true; the input reads as it did. -/
def seatQuotasUptoRow : OpenClaim := { program := "ytelfbgmhleneiaa", sum := "c9f9851bf367b47e316174d289f89a4357c75a478be30dfce6cb93225d84c214", func := "tithing/tithinglaw10.SeatQuotas", spec := "seatQuotas", unfollowed := true, recurses := true, apart := false, narrowed := true }
def SeatQuotasUptoSaid : Prop := seatQuotasUptoRow.holds Try.pinned (OpenSpec.upto seatQuotasSpec)

/-- 'tithinglaw10.SeatBounds', WHERE WHAT IT READS IS OF BULK AT MOST 1048576: true; the input reads as it did. -/
def seatBoundsUptoRow : OpenClaim := { program := "ytelfbgmhleneiaa", sum := "c9f9851bf367b47e316174d289f89a4357c75a478be30dfce6cb93225d84c214", func := "tithing/tithinglaw10.SeatBounds", spec := "seatBounds", unfollowed := true, recurses := true, apart := false, narrowed := true }
def SeatBoundsUptoSaid : Prop := seatBoundsUptoRow.holds Try.pinned (OpenSpec.upto seatBoundsSpec)

/-- 'tithinglaw10.SeatShifts', WHERE WHAT IT READS IS OF BULK AT MOST 1048576: true; the input reads as it did. -/
def seatShiftsUptoRow : OpenClaim := { program := "ytelfbgmhleneiaa", sum := "c9f9851bf367b47e316174d289f89a4357c75a478be30dfce6cb93225d84c214", func := "tithing/tithinglaw10.SeatShifts", spec := "seatShifts", unfollowed := true, recurses := true, apart := false, narrowed := true }
def SeatShiftsUptoSaid : Prop := seatShiftsUptoRow.holds Try.pinned (OpenSpec.upto seatShiftsSpec)

/-- 'tithinglaw10.SeatNames', WHERE WHAT IT READS IS OF BULK AT MOST 1048576: true; the input reads as it did. -/
def seatNamesUptoRow : OpenClaim := { program := "ytelfbgmhleneiaa", sum := "c9f9851bf367b47e316174d289f89a4357c75a478be30dfce6cb93225d84c214", func := "tithing/tithinglaw10.SeatNames", spec := "seatNames", unfollowed := true, recurses := true, apart := false, narrowed := true }
def SeatNamesUptoSaid : Prop := seatNamesUptoRow.holds Try.pinned (OpenSpec.upto seatNamesSpec)

/-- 'tithinglaw10.SeatAll', WHERE WHAT IT READS IS OF BULK AT MOST 1048576: true; the input reads as it did. -/
def seatAllUptoRow : OpenClaim := { program := "ytelfbgmhleneiaa", sum := "c9f9851bf367b47e316174d289f89a4357c75a478be30dfce6cb93225d84c214", func := "tithing/tithinglaw10.SeatAll", spec := "seatAll", unfollowed := true, recurses := true, apart := false, narrowed := true }
def SeatAllUptoSaid : Prop := seatAllUptoRow.holds Try.pinned (OpenSpec.upto seatAllSpec)

/-- 'tithinglaw10.SeatClaims', WHERE WHAT IT READS IS OF BULK AT MOST 1048576: true; the input reads as it did. -/
def seatClaimsUptoRow : OpenClaim := { program := "ytelfbgmhleneiaa", sum := "c9f9851bf367b47e316174d289f89a4357c75a478be30dfce6cb93225d84c214", func := "tithing/tithinglaw10.SeatClaims", spec := "seatClaims", unfollowed := true, recurses := true, apart := false, narrowed := true }
def SeatClaimsUptoSaid : Prop := seatClaimsUptoRow.holds Try.pinned (OpenSpec.upto seatClaimsSpec)

/-- 'tithinglaw10.SeatWithin', WHERE WHAT IT READS IS OF BULK AT MOST 1048576: true; the input reads as it did. -/
def seatWithinUptoRow : OpenClaim := { program := "ytelfbgmhleneiaa", sum := "c9f9851bf367b47e316174d289f89a4357c75a478be30dfce6cb93225d84c214", func := "tithing/tithinglaw10.SeatWithin", spec := "seatWithin", unfollowed := true, recurses := true, apart := false, narrowed := true }
def SeatWithinUptoSaid : Prop := seatWithinUptoRow.holds Try.pinned (OpenSpec.upto seatWithinSpec)

/-- 'tithinglaw10.SeatHouse', WHERE WHAT IT READS IS OF BULK AT MOST 1048576: true; the input reads as it did. -/
def seatHouseUptoRow : OpenClaim := { program := "ytelfbgmhleneiaa", sum := "c9f9851bf367b47e316174d289f89a4357c75a478be30dfce6cb93225d84c214", func := "tithing/tithinglaw10.SeatHouse", spec := "seatHouse", unfollowed := true, recurses := true, apart := false, narrowed := true }
def SeatHouseUptoSaid : Prop := seatHouseUptoRow.holds Try.pinned (OpenSpec.upto seatHouseSpec)

/-- 'tithinglaw10.SeatVotes', WHERE WHAT IT READS IS OF BULK AT MOST 1048576: true; the input reads as it did. -/
def seatVotesUptoRow : OpenClaim := { program := "ytelfbgmhleneiaa", sum := "c9f9851bf367b47e316174d289f89a4357c75a478be30dfce6cb93225d84c214", func := "tithing/tithinglaw10.SeatVotes", spec := "seatVotes", unfollowed := true, recurses := true, apart := false, narrowed := true }
def SeatVotesUptoSaid : Prop := seatVotesUptoRow.holds Try.pinned (OpenSpec.upto seatVotesSpec)

/-- 'tithinglaw10.SeatQuota', WHERE WHAT IT READS IS OF BULK AT MOST 1048576: true; the input reads as it did. -/
def seatQuotaUptoRow : OpenClaim := { program := "ytelfbgmhleneiaa", sum := "c9f9851bf367b47e316174d289f89a4357c75a478be30dfce6cb93225d84c214", func := "tithing/tithinglaw10.SeatQuota", spec := "seatQuota", unfollowed := true, recurses := true, apart := false, narrowed := true }
def SeatQuotaUptoSaid : Prop := seatQuotaUptoRow.holds Try.pinned (OpenSpec.upto seatQuotaSpec)

/-- 'tithinglaw10.SeatTimes', WHERE WHAT IT READS IS OF BULK AT MOST 1048576: true; the input reads as it did. -/
def seatTimesUptoRow : OpenClaim := { program := "ytelfbgmhleneiaa", sum := "c9f9851bf367b47e316174d289f89a4357c75a478be30dfce6cb93225d84c214", func := "tithing/tithinglaw10.SeatTimes", spec := "seatTimes", unfollowed := true, recurses := true, apart := false, narrowed := true }
def SeatTimesUptoSaid : Prop := seatTimesUptoRow.holds Try.pinned (OpenSpec.upto seatTimesSpec)

/-- 'tithinglaw10.SeatOrder', WHERE WHAT IT READS IS OF BULK AT MOST 1048576: true; the input reads as it did. -/
def seatOrderUptoRow : OpenClaim := { program := "ytelfbgmhleneiaa", sum := "c9f9851bf367b47e316174d289f89a4357c75a478be30dfce6cb93225d84c214", func := "tithing/tithinglaw10.SeatOrder", spec := "seatOrder", unfollowed := true, recurses := true, apart := false, narrowed := true }
def SeatOrderUptoSaid : Prop := seatOrderUptoRow.holds Try.pinned (OpenSpec.upto seatOrderSpec)

/-- 'tithinglaw10.SeatShift', WHERE WHAT IT READS IS OF BULK AT MOST 1048576: true; the input reads as it did. -/
def seatShiftUptoRow : OpenClaim := { program := "ytelfbgmhleneiaa", sum := "c9f9851bf367b47e316174d289f89a4357c75a478be30dfce6cb93225d84c214", func := "tithing/tithinglaw10.SeatShift", spec := "seatShift", unfollowed := true, recurses := true, apart := false, narrowed := true }
def SeatShiftUptoSaid : Prop := seatShiftUptoRow.holds Try.pinned (OpenSpec.upto seatShiftSpec)

/-- 'tithinglaw10.SeatKind', WHERE WHAT IT READS IS OF BULK AT MOST 1048576: true; the input reads as it did. -/
def seatKindUptoRow : OpenClaim := { program := "ytelfbgmhleneiaa", sum := "c9f9851bf367b47e316174d289f89a4357c75a478be30dfce6cb93225d84c214", func := "tithing/tithinglaw10.SeatKind", spec := "seatKind", unfollowed := true, recurses := true, apart := false, narrowed := true }
def SeatKindUptoSaid : Prop := seatKindUptoRow.holds Try.pinned (OpenSpec.upto seatKindSpec)

end Rows
end Go.Proofs.Ytelfbgmhleneiaa
