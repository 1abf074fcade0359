/- Part 28. -/
import Derived.Test.YtobfdjojhfpakaaGreatDoorY25
set_option linter.all false
noncomputable section

namespace Go.Proofs.YtobfdjojhfpakaaGreatDoor
open Go Go.RowKit Go.Proofs Lim
namespace Pe
section
variable {w:World}{lo1 lo2:Nat}{ps as':List P3}{t:Tx}
end
end Pe
end Go.Proofs.YtobfdjojhfpakaaGreatDoor
