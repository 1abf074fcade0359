/- Part 19. -/
import Derived.Test.YtdopipkmcnkdjaaGreatDoorE17
set_option linter.all false

namespace Go.Proofs.YtdopipkmcnkdjaaGreatDoor
open Go Go.RowKit Go.Proofs Lim
end Go.Proofs.YtdopipkmcnkdjaaGreatDoor
