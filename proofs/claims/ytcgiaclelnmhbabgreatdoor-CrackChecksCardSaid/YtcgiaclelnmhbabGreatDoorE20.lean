/- Part 20. -/
import Derived.Test.YtcgiaclelnmhbabGreatDoorE18
set_option linter.all false

namespace Go.Proofs.YtcgiaclelnmhbabGreatDoor
open Go Go.RowKit Go.Proofs Lim
end Go.Proofs.YtcgiaclelnmhbabGreatDoor
