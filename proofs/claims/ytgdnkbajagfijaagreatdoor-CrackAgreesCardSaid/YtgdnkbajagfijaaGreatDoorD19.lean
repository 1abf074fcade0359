/- Part 19. -/
import Derived.Test.YtgdnkbajagfijaaGreatDoorD17
set_option linter.all false

namespace Go.Proofs.YtgdnkbajagfijaaGreatDoor
open Go Go.RowKit Go.Proofs Lim
end Go.Proofs.YtgdnkbajagfijaaGreatDoor
