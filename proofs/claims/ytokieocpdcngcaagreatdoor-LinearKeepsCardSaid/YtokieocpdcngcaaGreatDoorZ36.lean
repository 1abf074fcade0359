/- Part 36. -/
import Derived.Test.YtokieocpdcngcaaGreatDoorZ31
set_option linter.all false
noncomputable section

namespace Go.Proofs.YtokieocpdcngcaaGreatDoor
open Go Go.RowKit Go.Proofs Lim
namespace Pe.Known
theorem part5:jX (Sx false 0) TZ CFx YFx 109 M0 5 false 295 (Ed 1 body4) st4=some (.normal,st5,[]):=by kernel_rfl
end Pe.Known
end Go.Proofs.YtokieocpdcngcaaGreatDoor
