/- Part 25. -/
import Derived.Test.YtcgiaclelnmhbabGreatDoorE24
import Derived.Laws.Strings3
set_option linter.all false

namespace Go.Proofs.YtcgiaclelnmhbabGreatDoor
open Go Go.RowKit Go.Proofs Lim
namespace Sym
end Sym
namespace Sym
end Sym
namespace Sym
end Sym
namespace Sym
end Sym
namespace Sym
end Sym
end Go.Proofs.YtcgiaclelnmhbabGreatDoor
