/-
  DERIVED. GIVEN WITH THE SEED: THE CARDS: each row of YtgkfkfodeooogaaDoorRows.lean that lists a variable, with what it lists TIED to the program's text (the seventh form; the later family's looks); each row that meets fmt, with fmt's text TOLD by the authors' own Lean function (tested against real Go, not proved from fmt's source: count such statements apart). THE CARD IS WHAT COUNTS. Prove the row's statement (the work); the ties are given (YtgkfkfodeooogaaDoorTie.lean); close each card by the builder's one call (the guide's Derived/Test/ToyasCard.lean, 'card_holds'). Laid BY PROGRAM, IN A SANDBOX (cutbox-door.mjs). By AI agents, Wed Nov 11 2026. No macro, syntax, notation, axiom, sorry.
-/
import Derived.Test.YtgkfkfodeooogaaDoorRows
import GoSem.ClaimSeven
namespace Go.Proofs.YtgkfkfodeooogaaDoor
namespace Rows

/-- THE TIED CARD OF 'cressetlaw01.ShaSums'. -/
def shaSumsCard : Claim7 := { stood := { row := shaSumsRow, standIns := [], harness := (true, "10580d91d631dfd5107acc31ddaeafb52ea17cab8f0de8115736343f3e7ce67c"), looks := false }, kinds := [], alts := [], laidByText := true, laidKinds := [.data, .data], laidTests := true, laidLooks := .later }
def ShaSumsCardSaid : Prop := Claim7.holds Tryd.pinned (.plain (OpenSpec.ofChange shaSumsSpec)) shaSumsCard

/-- THE TIED CARD OF 'cressetlaw01.ShaStreams'. -/
def shaStreamsCard : Claim7 := { stood := { row := shaStreamsRow, standIns := [], harness := (true, "10580d91d631dfd5107acc31ddaeafb52ea17cab8f0de8115736343f3e7ce67c"), looks := false }, kinds := [], alts := [], laidByText := true, laidKinds := [.data, .data], laidTests := true, laidLooks := .later }
def ShaStreamsCardSaid : Prop := Claim7.holds Tryd.pinned (.plain (OpenSpec.ofChange shaStreamsSpec)) shaStreamsCard

/-- THE TIED CARD OF 'cressetlaw02.HkdfMacs'. -/
def hkdfMacsCard : Claim7 := { stood := { row := hkdfMacsRow, standIns := [], harness := (true, "10580d91d631dfd5107acc31ddaeafb52ea17cab8f0de8115736343f3e7ce67c"), looks := false }, kinds := [], alts := [], laidByText := true, laidKinds := [.data, .data], laidTests := true, laidLooks := .later }
def HkdfMacsCardSaid : Prop := Claim7.holds Tryd.pinned (.plain (OpenSpec.ofChange hkdfMacsSpec)) hkdfMacsCard

/-- THE TIED CARD OF 'cressetlaw02.HkdfKeys'. -/
def hkdfKeysCard : Claim7 := { stood := { row := hkdfKeysRow, standIns := [], harness := (true, "10580d91d631dfd5107acc31ddaeafb52ea17cab8f0de8115736343f3e7ce67c"), looks := false }, kinds := [], alts := [], laidByText := true, laidKinds := [.data, .data], laidTests := true, laidLooks := .later }
def HkdfKeysCardSaid : Prop := Claim7.holds Tryd.pinned (.plain (OpenSpec.ofChange hkdfKeysSpec)) hkdfKeysCard

/-- THE TIED CARD OF 'cressetlaw11.XmdExpands'. -/
def xmdExpandsCard : Claim7 := { stood := { row := xmdExpandsRow, standIns := [], harness := (true, "10580d91d631dfd5107acc31ddaeafb52ea17cab8f0de8115736343f3e7ce67c"), looks := false }, kinds := [], alts := [], laidByText := true, laidKinds := [.data, .data], laidTests := true, laidLooks := .later }
def XmdExpandsCardSaid : Prop := Claim7.holds Tryd.pinned (.plain (OpenSpec.ofChange xmdExpandsSpec)) xmdExpandsCard

/-- THE TIED CARD OF 'cressetlaw11.XmdNumbers'. -/
def xmdNumbersCard : Claim7 := { stood := { row := xmdNumbersRow, standIns := [], harness := (true, "10580d91d631dfd5107acc31ddaeafb52ea17cab8f0de8115736343f3e7ce67c"), looks := false }, kinds := [], alts := [], laidByText := true, laidKinds := [.data, .data, .data, .data], laidTests := true, laidLooks := .later }
def XmdNumbersCardSaid : Prop := Claim7.holds Tryd.pinned (.plain (OpenSpec.ofChange xmdNumbersSpec)) xmdNumbersCard

/-- THE TIED CARD OF 'cressetlaw11.XmdApart'. -/
def xmdApartCard : Claim7 := { stood := { row := xmdApartRow, standIns := [], harness := (true, "10580d91d631dfd5107acc31ddaeafb52ea17cab8f0de8115736343f3e7ce67c"), looks := false }, kinds := [], alts := [], laidByText := true, laidKinds := [.data, .data], laidTests := true, laidLooks := .later }
def XmdApartCardSaid : Prop := Claim7.holds Tryd.pinned (.plain (OpenSpec.ofChange xmdApartSpec)) xmdApartCard

/-- THE SECOND FORM's CARD OF 'cressetlaw01.ShaSums'. -/
def shaSumsUptoCard : Claim7 := { stood := { row := shaSumsUptoRow, standIns := [], harness := (true, "10580d91d631dfd5107acc31ddaeafb52ea17cab8f0de8115736343f3e7ce67c"), looks := false }, kinds := [], alts := [], laidByText := true, laidKinds := [.data, .data], laidTests := true, laidLooks := .later }
def ShaSumsUptoCardSaid : Prop := Claim7.holds Tryd.pinned (.plain (OpenSpec.upto shaSumsSpec)) shaSumsUptoCard

/-- THE SECOND FORM's CARD OF 'cressetlaw01.ShaStreams'. -/
def shaStreamsUptoCard : Claim7 := { stood := { row := shaStreamsUptoRow, standIns := [], harness := (true, "10580d91d631dfd5107acc31ddaeafb52ea17cab8f0de8115736343f3e7ce67c"), looks := false }, kinds := [], alts := [], laidByText := true, laidKinds := [.data, .data], laidTests := true, laidLooks := .later }
def ShaStreamsUptoCardSaid : Prop := Claim7.holds Tryd.pinned (.plain (OpenSpec.upto shaStreamsSpec)) shaStreamsUptoCard

/-- THE SECOND FORM's CARD OF 'cressetlaw02.HkdfMacs'. -/
def hkdfMacsUptoCard : Claim7 := { stood := { row := hkdfMacsUptoRow, standIns := [], harness := (true, "10580d91d631dfd5107acc31ddaeafb52ea17cab8f0de8115736343f3e7ce67c"), looks := false }, kinds := [], alts := [], laidByText := true, laidKinds := [.data, .data], laidTests := true, laidLooks := .later }
def HkdfMacsUptoCardSaid : Prop := Claim7.holds Tryd.pinned (.plain (OpenSpec.upto hkdfMacsSpec)) hkdfMacsUptoCard

/-- THE SECOND FORM's CARD OF 'cressetlaw02.HkdfKeys'. -/
def hkdfKeysUptoCard : Claim7 := { stood := { row := hkdfKeysUptoRow, standIns := [], harness := (true, "10580d91d631dfd5107acc31ddaeafb52ea17cab8f0de8115736343f3e7ce67c"), looks := false }, kinds := [], alts := [], laidByText := true, laidKinds := [.data, .data], laidTests := true, laidLooks := .later }
def HkdfKeysUptoCardSaid : Prop := Claim7.holds Tryd.pinned (.plain (OpenSpec.upto hkdfKeysSpec)) hkdfKeysUptoCard

/-- THE SECOND FORM's CARD OF 'cressetlaw11.XmdExpands'. -/
def xmdExpandsUptoCard : Claim7 := { stood := { row := xmdExpandsUptoRow, standIns := [], harness := (true, "10580d91d631dfd5107acc31ddaeafb52ea17cab8f0de8115736343f3e7ce67c"), looks := false }, kinds := [], alts := [], laidByText := true, laidKinds := [.data, .data], laidTests := true, laidLooks := .later }
def XmdExpandsUptoCardSaid : Prop := Claim7.holds Tryd.pinned (.plain (OpenSpec.upto xmdExpandsSpec)) xmdExpandsUptoCard

/-- THE SECOND FORM's CARD OF 'cressetlaw11.XmdNumbers'. -/
def xmdNumbersUptoCard : Claim7 := { stood := { row := xmdNumbersUptoRow, standIns := [], harness := (true, "10580d91d631dfd5107acc31ddaeafb52ea17cab8f0de8115736343f3e7ce67c"), looks := false }, kinds := [], alts := [], laidByText := true, laidKinds := [.data, .data, .data, .data], laidTests := true, laidLooks := .later }
def XmdNumbersUptoCardSaid : Prop := Claim7.holds Tryd.pinned (.plain (OpenSpec.upto xmdNumbersSpec)) xmdNumbersUptoCard

/-- THE SECOND FORM's CARD OF 'cressetlaw11.XmdApart'. -/
def xmdApartUptoCard : Claim7 := { stood := { row := xmdApartUptoRow, standIns := [], harness := (true, "10580d91d631dfd5107acc31ddaeafb52ea17cab8f0de8115736343f3e7ce67c"), looks := false }, kinds := [], alts := [], laidByText := true, laidKinds := [.data, .data], laidTests := true, laidLooks := .later }
def XmdApartUptoCardSaid : Prop := Claim7.holds Tryd.pinned (.plain (OpenSpec.upto xmdApartSpec)) xmdApartUptoCard
end Rows
end Go.Proofs.YtgkfkfodeooogaaDoor
