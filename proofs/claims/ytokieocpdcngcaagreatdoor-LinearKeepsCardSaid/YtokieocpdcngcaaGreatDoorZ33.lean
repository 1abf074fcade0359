/- Part 33. -/
import Derived.Test.YtokieocpdcngcaaGreatDoorZ31
set_option linter.all false
noncomputable section

namespace Go.Proofs.YtokieocpdcngcaaGreatDoor
open Go Go.RowKit Go.Proofs Lim
namespace Pe.Known
theorem part2:jX (Sx false 0) TZ CFx YFx 109 M0 5 false 298 (Ed 1 body1) st1=some (.normal,st2,[]):=by kernel_rfl
end Pe.Known
end Go.Proofs.YtokieocpdcngcaaGreatDoor
