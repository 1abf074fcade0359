/- Part 22. -/
import Derived.Test.YtcgiaclelnmhbabGreatDoorE6
set_option linter.all false

namespace Go.Proofs.YtcgiaclelnmhbabGreatDoor
open Go Go.RowKit Go.Proofs
namespace Sym
end Sym
end Go.Proofs.YtcgiaclelnmhbabGreatDoor
