/- The number p = 2^255 - 19, as an integer and as a natural one. No program. -/
namespace Go.Proofs.Ytdjdalaghfknoaa

/-- p, the number 2^255 - 19. -/
def pP : Int := 57896044618658097711785492504343953926634992332820282019728792003956564819949
def pN : Nat := 57896044618658097711785492504343953926634992332820282019728792003956564819949
theorem pP_nat : pP = (pN : Int) := rfl

end Go.Proofs.Ytdjdalaghfknoaa
