set_option linter.unusedSimpArgs false
set_option linter.unusedVariables false
namespace Go.Proofs.YtkofnpkopbnocaaGreatDoor.Var
def putN(n:Nat):List UInt8:=if h:n<128 then [UInt8.ofNat n] else UInt8.ofNat (n % 128+128)::putN (n / 128)
termination_by n
decreasing_by omega
def putI(n:Int):List UInt8:=if 0≤n∧n≤268435455 then putN n.toNat else []
def ends(c:UInt8):Bool:=decide (c.toNat<128)
def valL:List UInt8→Nat
 | []=>0
 | c::r=>c.toNat % 128+128 *valL r
def takeL(b:List UInt8):Int × Int × Int:=match (b.take 4).findIdx? ends with
 | none=>if 4≤b.length then (0,0,3) else (0,0,1)
 | some k=>if 0<k∧b[k]? =some 0 then (0,0,2) else ((valL (b.take (k+1)):Int),(k:Int)+1,0)
theorem Xbh{n:Nat}(h:n<128):putN n= [UInt8.ofNat n]:=by rw[putN,dif_pos h]
theorem XhM{n:Nat}(h:128≤n):putN n=UInt8.ofNat (n % 128+128)::putN (n / 128):=by rw[putN,dif_neg (by omega)]
theorem X6Q{n:Nat}(h:n<128):(putN n).length=1:=by rw[Xbh h];rfl
theorem X6R{n:Nat}(h:128≤n):(putN n).length=(putN (n / 128)).length+1:=by rw[XhM h];rfl
theorem X6S(n:Nat):1≤(putN n).length:=by
 rcases Nat.lt_or_ge n 128 with h | h
 ·rw[X6Q h];exact Nat.le_refl _
 ·rw[X6R h];omega
theorem X8m(n:Nat)(h:n≤268435455):(putN n).length≤4:=by
 rcases Nat.lt_or_ge n 128 with h1 | h1
 ·rw[X6Q h1];omega
 rw[X6R h1];rcases Nat.lt_or_ge (n / 128) 128 with h2 | h2
 ·rw[X6Q h2];omega
 rw[X6R h2];rcases Nat.lt_or_ge (n / 128 / 128) 128 with h3 | h3
 ·rw[X6Q h3];omega
 rw[X6R h3];rw[X6Q (by omega)];omega
end Go.Proofs.YtkofnpkopbnocaaGreatDoor.Var
