/- Part 26. -/
import Derived.Test.YtokieocpdcngcaaGreatDoorZ25
import Derived.Laws.Strings3
set_option linter.all false

namespace Go.Proofs.YtokieocpdcngcaaGreatDoor
open Go Go.RowKit Go.Proofs Lim
namespace Sym
section
variable {csz:List Nat}{numc:List Bool}{okT:List Nat}{nt:Nat}{cl:List Cl}{w0:World}{w:World}{v z:Value}{p1 p2 p3 p4:Pat}{res:cK}{c d c1 c2 c3 c4 c5 c6:Nat}{a b l:List UInt8}
end
end Sym
namespace Sym
section
variable {csz:List Nat}{numc:List Bool}{okT:List Nat}{nt:Nat}{cl:List Cl}{w0:World}{w:World}{v z:Value}{p1 p2 p3 p4:Pat}{res:cK}{c d c1 c2 c3 c4 c5 c6:Nat}{a b l:List UInt8}
end
end Sym
namespace Sym
section
variable {csz:List Nat}{numc:List Bool}{okT:List Nat}{nt:Nat}{cl:List Cl}{w0:World}{w:World}{v z:Value}{p1 p2 p3 p4:Pat}{res:cK}{c d c1 c2 c3 c4 c5 c6:Nat}{a b l:List UInt8}{r s:Rat}{k k1 k2:Nat}
end
section
variable {csz:List Nat}{numc:List Bool}{okT:List Nat}{nt:Nat}{cl:List Cl}{w0:World}{w:World}{v z:Value}{p1 p2 p3 p4:Pat}{res:cK}{c d c1 c2 c3 c4 c5 c6:Nat}{a b l:List UInt8}{r s:Rat}{k k1 k2:Nat}
end
end Sym
namespace Sym
section
variable {csz:List Nat}{numc:List Bool}{okT:List Nat}{nt:Nat}{cl:List Cl}{w0:World}{w:World}{v z:Value}{p1 p2 p3 p4:Pat}{res:cK}{c d c1 c2 c3 c4 c5 c6:Nat}{a b l:List UInt8}
end
end Sym
namespace Sym
section
variable {csz:List Nat}{numc:List Bool}{okT:List Nat}{nt:Nat}{cl:List Cl}{w0:World}{w:World}{v z:Value}{p1 p2 p3 p4:Pat}{res:cK}{c d c1 c2 c3 c4 c5 c6:Nat}{a b l:List UInt8}{x:Rat}{k:Nat}
end
section
variable {csz:List Nat}{numc:List Bool}{okT:List Nat}{cl:List Cl}{w0:World}{w:World}{p0 p4 p5 p6:Pat}{neg:Bool}{l T:List UInt8}{i:Nat}{a:Act}
end
section
variable {l T:List UInt8}{i:Nat}{NA NB:List Nat}{x:Rat}{w:World}
end
end Sym
end Go.Proofs.YtokieocpdcngcaaGreatDoor
