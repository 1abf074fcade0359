/- Part 21. -/
import Derived.Test.YtcgiaclelnmhbabGreatDoorE20
import Derived.Test.YtcgiaclelnmhbabGreatDoorE19
set_option linter.all false

namespace Go.Proofs.YtcgiaclelnmhbabGreatDoor.Lim
end Go.Proofs.YtcgiaclelnmhbabGreatDoor.Lim

namespace Go.Proofs.YtcgiaclelnmhbabGreatDoor
open Go Go.RowKit Go.Proofs Lim
open Go Go.RowKit Go.Proofs Lim
end Go.Proofs.YtcgiaclelnmhbabGreatDoor
