/- Part 19. -/
import Derived.Test.YtokieocpdcngcaaGreatDoorZ17
set_option linter.all false

namespace Go.Proofs.YtokieocpdcngcaaGreatDoor
open Go Go.RowKit Go.Proofs Lim
end Go.Proofs.YtokieocpdcngcaaGreatDoor
