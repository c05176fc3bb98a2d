/- The plain mathematics of layer 1 (dec): what a beginning is, what one byte more makes of it, and what that means for whole texts. It speaks of lists of bytes alone, of no program and of no memory. -/
import Derived.Test.YtconccgfhdmafaaM0
import Derived.Lib.DecodeNEq
import Derived.Shelf.Unicode.DecodeSlow
namespace Go.Proofs.Ytconccgfhdmafaa
set_option linter.unusedSimpArgs false
set_option linter.unusedVariables false
namespace Dec
open Go.Lib

/-- utf8.FullRuneInString, of a text of n bytes that begins with b0 b1 b2 -/
def fullN (n b0 b1 b2 : Nat) : Bool :=
  decide (n ≠ 0) && (decide (firstT b0 % 8 ≤ n) || (decide (1 < n) && decide (b1 < accLo (firstT b0 / 16) ∨ accHi (firstT b0 / 16) < b1)) || (decide (2 < n) && decide (b2 < 128 ∨ 191 < b2)))

def fullB (s : ByteArray) : Bool := fullN s.size (s.get! 0).toNat (s.get! 1).toNat (s.get! 2).toNat

def begB (s : ByteArray) : Bool := decide (s.size ≠ 0) && !fullB s

/-- what is written of a number -/
def fix (r : Int) : Int := if goodB r then r else 65533

def saneB (s : ByteArray) : Bool := decide (s.size = 0) || begB s

end Dec
end Go.Proofs.Ytconccgfhdmafaa
