/- Layer 14: what the statements on forms and frames ask of the code's dec, nfkc and canon holds. -/
import Derived.Test.YtiidjkhkcckmkaaGreatDoorFwW0
import Derived.Test.YtiidjkhkcckmkaaGreatDoorNfP
import Derived.Test.YtiidjkhkcckmkaaGreatDoorCnP
import Derived.Test.YtiidjkhkcckmkaaGreatDoorG1
import Derived.Lib.ConvBytes
import Derived.Test.YtiidjkhkcckmkaaGreatDoorDcP
import Derived.Test.YtiidjkhkcckmkaaGreatDoorDeP
import Derived.Test.YtiidjkhkcckmkaaGreatDoorMthP
import Derived.Test.YtiidjkhkcckmkaaGreatDoorBasP
import Derived.Deep.CutBlock
import Derived.Test.YtiidjkhkcckmkaaGreatDoorPaP
namespace Go.Proofs.YtiidjkhkcckmkaaGreatDoor
set_option linter.unusedSimpArgs false
set_option linter.unusedVariables false
open Go.RowKit Go.Lib
theorem goodC1 : GoodC1 := fun r w => good_any r w
end Go.Proofs.YtiidjkhkcckmkaaGreatDoor
