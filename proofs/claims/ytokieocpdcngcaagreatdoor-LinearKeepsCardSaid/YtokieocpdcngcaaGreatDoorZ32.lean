/- Part 32. -/
import Derived.Test.YtokieocpdcngcaaGreatDoorZ31
set_option linter.all false
noncomputable section

namespace Go.Proofs.YtokieocpdcngcaaGreatDoor
open Go Go.RowKit Go.Proofs Lim
namespace Pe.Known
theorem part1:jX (Sx false 0) TZ CFx YFx 109 M0 5 false 300 (Ed 2 body0) st0=some (.normal,st1,[]):=by kernel_rfl
end Pe.Known
end Go.Proofs.YtokieocpdcngcaaGreatDoor
