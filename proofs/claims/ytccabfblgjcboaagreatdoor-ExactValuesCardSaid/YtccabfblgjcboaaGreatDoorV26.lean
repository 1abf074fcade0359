/- Package exact: RefP RefL RefSpans. -/
import Derived.Test.YtccabfblgjcboaaGreatDoorV24
import Derived.Test.YtccabfblgjcboaaGreatDoorV25
set_option linter.all false

namespace Go.Proofs.YtccabfblgjcboaaGreatDoor
open Go Go.RowKit Go.Proofs Lim
namespace Sym
section
variable {csz : List Nat} {numc : List Bool} {okT : List Nat} {nt : Nat} {cl : List Cl} {w0 : World} {w : World} {v z : Value} {p1 p2 p3 p4 : jw} {res : RPat} {c d c1 c2 c3 c4 c5 c6 : Nat} {r s t r1 r2 r3 r4 : Rat} {k k1 k2 k3 k4 k5 k6 : Nat} {rs : List Rat}
end
section
variable {csz : List Nat} {numc : List Bool} {okT : List Nat} {cl : List Cl} {w0 : World} {w : World} {p0 p4 : jw} {lo hi : Rat} {v : Value} {i : Nat} {a : Act} {c d k k' : Nat}
end
end Sym
open Go Go.RowKit Go.Proofs Lim
namespace Sym
section
variable {csz : List Nat} {numc : List Bool} {okT : List Nat} {nt : Nat} {cl : List Cl} {w0 : World} {w : World} {v z : Value} {p1 p2 p3 p4 : jw} {res : RPat} {c d c1 c2 c3 c4 c5 c6 : Nat} {r s t r1 r2 r3 r4 : Rat} {k k1 k2 k3 k4 k5 k6 : Nat} {rs : List Rat}
end
end Sym
open Go Go.RowKit Go.Proofs Lim
namespace Sym
end Sym
end Go.Proofs.YtccabfblgjcboaaGreatDoor
