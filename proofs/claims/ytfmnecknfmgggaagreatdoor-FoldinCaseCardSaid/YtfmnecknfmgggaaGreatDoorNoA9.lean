/- Layer 9: what the statements ask of the code's functions holds: saneC9, feedC9, endC9, allC9. -/
import Derived.Test.YtfmnecknfmgggaaGreatDoorNoA8
