/- Part 24. -/
import Derived.Test.YtcgiaclelnmhbabGreatDoorE23
set_option linter.all false

namespace Go.Proofs.YtcgiaclelnmhbabGreatDoor
open Go Go.RowKit Go.Proofs Lim
open Go Go.RowKit Go.Proofs Lim
namespace Sym
end Sym
namespace Sym
end Sym
end Go.Proofs.YtcgiaclelnmhbabGreatDoor
