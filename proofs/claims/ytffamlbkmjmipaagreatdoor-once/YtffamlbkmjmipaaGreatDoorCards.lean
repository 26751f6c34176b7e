/-
  DERIVED. GIVEN WITH THE SEED: THE CARDS: each row of YtffamlbkmjmipaaGreatDoorRows.lean that lists a variable, with what it lists TIED to the program's text (the seventh form; the later family's looks); each row that meets fmt, with fmt's text TOLD by the authors' own Lean function (tested against real Go, not proved from fmt's source: count such statements apart). THE CARD IS WHAT COUNTS. Prove the row's statement (the work); the ties are given (YtffamlbkmjmipaaGreatDoorTie.lean); close each card by the builder's one call (the guide's Derived/Test/ToyasCard.lean, 'card_holds'). Laid BY PROGRAM, IN A SANDBOX (cutbox-door.mjs). By AI agents, Wed Nov 11 2026. No macro, syntax, notation, axiom, sorry.
-/
import Derived.Test.YtffamlbkmjmipaaGreatDoorRows
import GoSem.ClaimSeven
namespace Go.Proofs.YtffamlbkmjmipaaGreatDoor
namespace Rows

/-- THE TIED CARD OF 'dispatchlaw.Seals'. -/
def sealsCard : Claim7 := { stood := { row := sealsRow, standIns := [], harness := (true, "47923f7f134f94fa515da21ef1d5312077edaa0f177409dba64d73f3727d1fde"), looks := true }, kinds := [], alts := [], laidByText := true, laidKinds := [.data, .data, .data, .data, .sentinel, .sentinel, .pinned], laidTests := true, laidLooks := .later }
def SealsCardSaid : Prop := Claim7.holds Tryz.pinned (.plain (OpenSpec.ofChange sealsSpec)) sealsCard

/-- THE TIED CARD OF 'dispatchlaw.Bads'. -/
def badsCard : Claim7 := { stood := { row := badsRow, standIns := [], harness := (true, "47923f7f134f94fa515da21ef1d5312077edaa0f177409dba64d73f3727d1fde"), looks := true }, kinds := [], alts := [], laidByText := true, laidKinds := [.data, .data, .data, .data, .sentinel, .sentinel, .pinned], laidTests := true, laidLooks := .later }
def BadsCardSaid : Prop := Claim7.holds Tryz.pinned (.plain (OpenSpec.ofChange badsSpec)) badsCard

/-- THE TIED CARD OF 'dispatchlaw.Queues'. -/
def queuesCard : Claim7 := { stood := { row := queuesRow, standIns := [], harness := (true, "47923f7f134f94fa515da21ef1d5312077edaa0f177409dba64d73f3727d1fde"), looks := true }, kinds := [], alts := [], laidByText := true, laidKinds := [.data, .data, .data, .data, .sentinel, .sentinel, .pinned], laidTests := true, laidLooks := .later }
def QueuesCardSaid : Prop := Claim7.holds Tryz.pinned (.plain (OpenSpec.ofChange queuesSpec)) queuesCard

/-- THE TIED CARD OF 'dispatchlaw.Looks'. -/
def looksCard : Claim7 := { stood := { row := looksRow, standIns := [], harness := (true, "47923f7f134f94fa515da21ef1d5312077edaa0f177409dba64d73f3727d1fde"), looks := true }, kinds := [], alts := [], laidByText := true, laidKinds := [.data, .data, .data, .data, .sentinel, .sentinel, .pinned], laidTests := true, laidLooks := .later }
def LooksCardSaid : Prop := Claim7.holds Tryz.pinned (.plain (OpenSpec.ofChange looksSpec)) looksCard

/-- THE TIED CARD OF 'dispatchlaw.Leases'. -/
def leasesCard : Claim7 := { stood := { row := leasesRow, standIns := [], harness := (true, "47923f7f134f94fa515da21ef1d5312077edaa0f177409dba64d73f3727d1fde"), looks := true }, kinds := [], alts := [], laidByText := true, laidKinds := [.data, .data, .data, .data, .sentinel, .sentinel, .pinned], laidTests := true, laidLooks := .later }
def LeasesCardSaid : Prop := Claim7.holds Tryz.pinned (.plain (OpenSpec.ofChange leasesSpec)) leasesCard

/-- THE TIED CARD OF 'dispatchlaw.All'. -/
def allCard : Claim7 := { stood := { row := allRow, standIns := [], harness := (true, "47923f7f134f94fa515da21ef1d5312077edaa0f177409dba64d73f3727d1fde"), looks := true }, kinds := [], alts := [], laidByText := true, laidKinds := [.data, .data, .data, .data, .sentinel, .sentinel, .pinned], laidTests := true, laidLooks := .later }
def AllCardSaid : Prop := Claim7.holds Tryz.pinned (.plain (OpenSpec.ofChange allSpec)) allCard

/-- THE TIED CARD OF 'dispatchkeep.Turns'. -/
def turnsCard : Claim7 := { stood := { row := turnsRow, standIns := [], harness := (true, "47923f7f134f94fa515da21ef1d5312077edaa0f177409dba64d73f3727d1fde"), looks := true }, kinds := [], alts := [], laidByText := true, laidKinds := [.data, .data, .data, .data, .sentinel, .sentinel, .pinned], laidTests := true, laidLooks := .later }
def TurnsCardSaid : Prop := Claim7.holds Tryz.pinned (.plain (OpenSpec.ofChange turnsSpec)) turnsCard

/-- THE TIED CARD OF 'dispatchkeep.Capped'. -/
def cappedCard : Claim7 := { stood := { row := cappedRow, standIns := [], harness := (true, "47923f7f134f94fa515da21ef1d5312077edaa0f177409dba64d73f3727d1fde"), looks := true }, kinds := [], alts := [], laidByText := true, laidKinds := [.data, .data, .data, .data, .sentinel, .sentinel, .pinned], laidTests := true, laidLooks := .later }
def CappedCardSaid : Prop := Claim7.holds Tryz.pinned (.plain (OpenSpec.ofChange cappedSpec)) cappedCard

/-- THE TIED CARD OF 'dispatchkeep.Leased'. -/
def leasedCard : Claim7 := { stood := { row := leasedRow, standIns := [], harness := (true, "47923f7f134f94fa515da21ef1d5312077edaa0f177409dba64d73f3727d1fde"), looks := true }, kinds := [], alts := [], laidByText := true, laidKinds := [.data, .data, .data, .data, .sentinel, .sentinel, .pinned], laidTests := true, laidLooks := .later }
def LeasedCardSaid : Prop := Claim7.holds Tryz.pinned (.plain (OpenSpec.ofChange leasedSpec)) leasedCard

/-- THE TIED CARD OF 'dispatchkeep.Hedged'. -/
def hedgedCard : Claim7 := { stood := { row := hedgedRow, standIns := [], harness := (true, "47923f7f134f94fa515da21ef1d5312077edaa0f177409dba64d73f3727d1fde"), looks := true }, kinds := [], alts := [], laidByText := true, laidKinds := [.data, .data, .data, .data, .sentinel, .sentinel, .pinned], laidTests := true, laidLooks := .later }
def HedgedCardSaid : Prop := Claim7.holds Tryz.pinned (.plain (OpenSpec.ofChange hedgedSpec)) hedgedCard

/-- THE TIED CARD OF 'dispatchkeep.Drained'. -/
def drainedCard : Claim7 := { stood := { row := drainedRow, standIns := [], harness := (true, "47923f7f134f94fa515da21ef1d5312077edaa0f177409dba64d73f3727d1fde"), looks := true }, kinds := [], alts := [], laidByText := true, laidKinds := [.data, .data, .data, .data, .sentinel, .sentinel, .pinned], laidTests := true, laidLooks := .later }
def DrainedCardSaid : Prop := Claim7.holds Tryz.pinned (.plain (OpenSpec.ofChange drainedSpec)) drainedCard

/-- THE TIED CARD OF 'dispatchkeep.Pieces'. -/
def piecesCard : Claim7 := { stood := { row := piecesRow, standIns := [], harness := (true, "47923f7f134f94fa515da21ef1d5312077edaa0f177409dba64d73f3727d1fde"), looks := true }, kinds := [], alts := [], laidByText := true, laidKinds := [.data, .data, .data, .data, .sentinel, .sentinel, .pinned], laidTests := true, laidLooks := .later }
def PiecesCardSaid : Prop := Claim7.holds Tryz.pinned (.plain (OpenSpec.ofChange piecesSpec)) piecesCard

/-- THE TIED CARD OF 'dispatchkeep.Once'. -/
def onceCard : Claim7 := { stood := { row := onceRow, standIns := [], harness := (true, "47923f7f134f94fa515da21ef1d5312077edaa0f177409dba64d73f3727d1fde"), looks := true }, kinds := [], alts := [], laidByText := true, laidKinds := [.data, .data, .data, .data, .sentinel, .sentinel, .pinned], laidTests := true, laidLooks := .later }
def OnceCardSaid : Prop := Claim7.holds Tryz.pinned (.plain (OpenSpec.ofChange onceSpec)) onceCard

/-- THE TIED CARD OF 'dispatchkeep.Refuses'. -/
def refusesCard : Claim7 := { stood := { row := refusesRow, standIns := [], harness := (true, "47923f7f134f94fa515da21ef1d5312077edaa0f177409dba64d73f3727d1fde"), looks := true }, kinds := [], alts := [], laidByText := true, laidKinds := [.data, .data, .data, .data, .sentinel, .sentinel, .pinned], laidTests := true, laidLooks := .later }
def RefusesCardSaid : Prop := Claim7.holds Tryz.pinned (.plain (OpenSpec.ofChange refusesSpec)) refusesCard

/-- THE TIED CARD OF 'dispatchkeep.Known'. -/
def knownCard : Claim7 := { stood := { row := knownRow, standIns := [], harness := (true, "47923f7f134f94fa515da21ef1d5312077edaa0f177409dba64d73f3727d1fde"), looks := true }, kinds := [], alts := [], laidByText := true, laidKinds := [.data, .data, .data, .data, .sentinel, .sentinel, .pinned], laidTests := true, laidLooks := .later }
def KnownCardSaid : Prop := Claim7.holds Tryz.pinned (.plain (OpenSpec.ofChange knownSpec)) knownCard

/-- THE SECOND FORM's CARD OF 'dispatchlaw.Seals'. -/
def sealsUptoCard : Claim7 := { stood := { row := sealsUptoRow, standIns := [], harness := (true, "47923f7f134f94fa515da21ef1d5312077edaa0f177409dba64d73f3727d1fde"), looks := true }, kinds := [], alts := [], laidByText := true, laidKinds := [.data, .data, .data, .data, .sentinel, .sentinel, .pinned], laidTests := true, laidLooks := .later }
def SealsUptoCardSaid : Prop := Claim7.holds Tryz.pinned (.plain (OpenSpec.upto sealsSpec)) sealsUptoCard

/-- THE SECOND FORM's CARD OF 'dispatchlaw.Bads'. -/
def badsUptoCard : Claim7 := { stood := { row := badsUptoRow, standIns := [], harness := (true, "47923f7f134f94fa515da21ef1d5312077edaa0f177409dba64d73f3727d1fde"), looks := true }, kinds := [], alts := [], laidByText := true, laidKinds := [.data, .data, .data, .data, .sentinel, .sentinel, .pinned], laidTests := true, laidLooks := .later }
def BadsUptoCardSaid : Prop := Claim7.holds Tryz.pinned (.plain (OpenSpec.upto badsSpec)) badsUptoCard

/-- THE SECOND FORM's CARD OF 'dispatchlaw.Queues'. -/
def queuesUptoCard : Claim7 := { stood := { row := queuesUptoRow, standIns := [], harness := (true, "47923f7f134f94fa515da21ef1d5312077edaa0f177409dba64d73f3727d1fde"), looks := true }, kinds := [], alts := [], laidByText := true, laidKinds := [.data, .data, .data, .data, .sentinel, .sentinel, .pinned], laidTests := true, laidLooks := .later }
def QueuesUptoCardSaid : Prop := Claim7.holds Tryz.pinned (.plain (OpenSpec.upto queuesSpec)) queuesUptoCard

/-- THE SECOND FORM's CARD OF 'dispatchlaw.Looks'. -/
def looksUptoCard : Claim7 := { stood := { row := looksUptoRow, standIns := [], harness := (true, "47923f7f134f94fa515da21ef1d5312077edaa0f177409dba64d73f3727d1fde"), looks := true }, kinds := [], alts := [], laidByText := true, laidKinds := [.data, .data, .data, .data, .sentinel, .sentinel, .pinned], laidTests := true, laidLooks := .later }
def LooksUptoCardSaid : Prop := Claim7.holds Tryz.pinned (.plain (OpenSpec.upto looksSpec)) looksUptoCard

/-- THE SECOND FORM's CARD OF 'dispatchlaw.Leases'. -/
def leasesUptoCard : Claim7 := { stood := { row := leasesUptoRow, standIns := [], harness := (true, "47923f7f134f94fa515da21ef1d5312077edaa0f177409dba64d73f3727d1fde"), looks := true }, kinds := [], alts := [], laidByText := true, laidKinds := [.data, .data, .data, .data, .sentinel, .sentinel, .pinned], laidTests := true, laidLooks := .later }
def LeasesUptoCardSaid : Prop := Claim7.holds Tryz.pinned (.plain (OpenSpec.upto leasesSpec)) leasesUptoCard

/-- THE SECOND FORM's CARD OF 'dispatchlaw.All'. -/
def allUptoCard : Claim7 := { stood := { row := allUptoRow, standIns := [], harness := (true, "47923f7f134f94fa515da21ef1d5312077edaa0f177409dba64d73f3727d1fde"), looks := true }, kinds := [], alts := [], laidByText := true, laidKinds := [.data, .data, .data, .data, .sentinel, .sentinel, .pinned], laidTests := true, laidLooks := .later }
def AllUptoCardSaid : Prop := Claim7.holds Tryz.pinned (.plain (OpenSpec.upto allSpec)) allUptoCard

/-- THE SECOND FORM's CARD OF 'dispatchkeep.Turns'. -/
def turnsUptoCard : Claim7 := { stood := { row := turnsUptoRow, standIns := [], harness := (true, "47923f7f134f94fa515da21ef1d5312077edaa0f177409dba64d73f3727d1fde"), looks := true }, kinds := [], alts := [], laidByText := true, laidKinds := [.data, .data, .data, .data, .sentinel, .sentinel, .pinned], laidTests := true, laidLooks := .later }
def TurnsUptoCardSaid : Prop := Claim7.holds Tryz.pinned (.plain (OpenSpec.upto turnsSpec)) turnsUptoCard

/-- THE SECOND FORM's CARD OF 'dispatchkeep.Capped'. -/
def cappedUptoCard : Claim7 := { stood := { row := cappedUptoRow, standIns := [], harness := (true, "47923f7f134f94fa515da21ef1d5312077edaa0f177409dba64d73f3727d1fde"), looks := true }, kinds := [], alts := [], laidByText := true, laidKinds := [.data, .data, .data, .data, .sentinel, .sentinel, .pinned], laidTests := true, laidLooks := .later }
def CappedUptoCardSaid : Prop := Claim7.holds Tryz.pinned (.plain (OpenSpec.upto cappedSpec)) cappedUptoCard

/-- THE SECOND FORM's CARD OF 'dispatchkeep.Leased'. -/
def leasedUptoCard : Claim7 := { stood := { row := leasedUptoRow, standIns := [], harness := (true, "47923f7f134f94fa515da21ef1d5312077edaa0f177409dba64d73f3727d1fde"), looks := true }, kinds := [], alts := [], laidByText := true, laidKinds := [.data, .data, .data, .data, .sentinel, .sentinel, .pinned], laidTests := true, laidLooks := .later }
def LeasedUptoCardSaid : Prop := Claim7.holds Tryz.pinned (.plain (OpenSpec.upto leasedSpec)) leasedUptoCard

/-- THE SECOND FORM's CARD OF 'dispatchkeep.Hedged'. -/
def hedgedUptoCard : Claim7 := { stood := { row := hedgedUptoRow, standIns := [], harness := (true, "47923f7f134f94fa515da21ef1d5312077edaa0f177409dba64d73f3727d1fde"), looks := true }, kinds := [], alts := [], laidByText := true, laidKinds := [.data, .data, .data, .data, .sentinel, .sentinel, .pinned], laidTests := true, laidLooks := .later }
def HedgedUptoCardSaid : Prop := Claim7.holds Tryz.pinned (.plain (OpenSpec.upto hedgedSpec)) hedgedUptoCard

/-- THE SECOND FORM's CARD OF 'dispatchkeep.Drained'. -/
def drainedUptoCard : Claim7 := { stood := { row := drainedUptoRow, standIns := [], harness := (true, "47923f7f134f94fa515da21ef1d5312077edaa0f177409dba64d73f3727d1fde"), looks := true }, kinds := [], alts := [], laidByText := true, laidKinds := [.data, .data, .data, .data, .sentinel, .sentinel, .pinned], laidTests := true, laidLooks := .later }
def DrainedUptoCardSaid : Prop := Claim7.holds Tryz.pinned (.plain (OpenSpec.upto drainedSpec)) drainedUptoCard

/-- THE SECOND FORM's CARD OF 'dispatchkeep.Pieces'. -/
def piecesUptoCard : Claim7 := { stood := { row := piecesUptoRow, standIns := [], harness := (true, "47923f7f134f94fa515da21ef1d5312077edaa0f177409dba64d73f3727d1fde"), looks := true }, kinds := [], alts := [], laidByText := true, laidKinds := [.data, .data, .data, .data, .sentinel, .sentinel, .pinned], laidTests := true, laidLooks := .later }
def PiecesUptoCardSaid : Prop := Claim7.holds Tryz.pinned (.plain (OpenSpec.upto piecesSpec)) piecesUptoCard

/-- THE SECOND FORM's CARD OF 'dispatchkeep.Once'. -/
def onceUptoCard : Claim7 := { stood := { row := onceUptoRow, standIns := [], harness := (true, "47923f7f134f94fa515da21ef1d5312077edaa0f177409dba64d73f3727d1fde"), looks := true }, kinds := [], alts := [], laidByText := true, laidKinds := [.data, .data, .data, .data, .sentinel, .sentinel, .pinned], laidTests := true, laidLooks := .later }
def OnceUptoCardSaid : Prop := Claim7.holds Tryz.pinned (.plain (OpenSpec.upto onceSpec)) onceUptoCard

/-- THE SECOND FORM's CARD OF 'dispatchkeep.Refuses'. -/
def refusesUptoCard : Claim7 := { stood := { row := refusesUptoRow, standIns := [], harness := (true, "47923f7f134f94fa515da21ef1d5312077edaa0f177409dba64d73f3727d1fde"), looks := true }, kinds := [], alts := [], laidByText := true, laidKinds := [.data, .data, .data, .data, .sentinel, .sentinel, .pinned], laidTests := true, laidLooks := .later }
def RefusesUptoCardSaid : Prop := Claim7.holds Tryz.pinned (.plain (OpenSpec.upto refusesSpec)) refusesUptoCard

/-- THE SECOND FORM's CARD OF 'dispatchkeep.Known'. -/
def knownUptoCard : Claim7 := { stood := { row := knownUptoRow, standIns := [], harness := (true, "47923f7f134f94fa515da21ef1d5312077edaa0f177409dba64d73f3727d1fde"), looks := true }, kinds := [], alts := [], laidByText := true, laidKinds := [.data, .data, .data, .data, .sentinel, .sentinel, .pinned], laidTests := true, laidLooks := .later }
def KnownUptoCardSaid : Prop := Claim7.holds Tryz.pinned (.plain (OpenSpec.upto knownSpec)) knownUptoCard
end Rows
end Go.Proofs.YtffamlbkmjmipaaGreatDoor
