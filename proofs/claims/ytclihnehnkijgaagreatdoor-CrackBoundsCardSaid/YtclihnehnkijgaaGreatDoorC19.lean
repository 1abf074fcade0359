/- Part 19. -/
import Derived.Test.YtclihnehnkijgaaGreatDoorC17
set_option linter.all false

namespace Go.Proofs.YtclihnehnkijgaaGreatDoor
open Go Go.RowKit Go.Proofs Lim
end Go.Proofs.YtclihnehnkijgaaGreatDoor
