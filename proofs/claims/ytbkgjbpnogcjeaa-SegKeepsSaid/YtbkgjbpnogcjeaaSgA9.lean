/- Layer 12: the contracts of the code as the walks' premises. -/
import Derived.Test.YtbkgjbpnogcjeaaSgA7
namespace Go.Proofs.Ytbkgjbpnogcjeaa
set_option linter.unusedSimpArgs false
set_option linter.unusedVariables false
open Go.RowKit Go.Lib

theorem saneC12 : SaneC12 := fun v l s w hl hv => sane12_any v l s w (by omega) hv
theorem feedC12 : FeedC12 := fun v l s r w hl hv => feed12_any v l s r w (by omega) hv
theorem endC12 : EndC12 := fun v l s w hl hv => (end12_any v l s w (by omega) hv).mono fun e w' ⟨va, he, ho, hb⟩ => ⟨va, he, ri_of_own ho, hb⟩
theorem allC12 : AllC12 := fun v l w hl hv => all12_any v l w hl hv

end Go.Proofs.Ytbkgjbpnogcjeaa
