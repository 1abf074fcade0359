/- Part 23. -/
import Derived.Test.YtcgiaclelnmhbabGreatDoorE22
import Derived.Test.YtcgiaclelnmhbabGreatDoorChecked
import Derived.Test.YtcgiaclelnmhbabGreatDoorE19
set_option linter.all false

namespace Go.Proofs.YtcgiaclelnmhbabGreatDoor
open Go Go.RowKit Go.Proofs Lim
section
variable {P:Program}{ops:Array Oper}{Q:Exit->Act->World->Prop}{md:Region.Mode}
def left (l:Array Bool):Nat:=(l.toList.filter (fun b=>!b)).length
end
namespace Sym
end Sym
namespace Sym
end Sym
namespace Sym
end Sym
namespace Sym
end Sym
namespace Sym
abbrev ii (n:Int):Value:=.int .i64 n
def Dg (w:World) (v:Value) (ds:List Nat):Prop:=∃ ao cap,v=.slice ao ds.length cap/\ds.length<=cap/\(cap:Int)<=9223372036854775807/\
 (0<ds.length->∃ b off,ao=some ⟨b,off,none⟩/\(∃ cs fr,w.heap[b]?=some (.cells cs 3 fr))/\∀ i,i<ds.length->w.cell? ⟨b,off+i,none⟩=some (ii ((ds.getD i 0:Nat):Int)))
end Sym
namespace Sym
end Sym
namespace Sym
end Sym
namespace Sym
def uB (n:Nat):List Nat:=if n=0 then [] else n%10000::uB (n/10000)
end Sym
namespace Sym
end Sym
namespace Sym
end Sym
namespace Sym
end Sym
namespace Sym
end Sym
namespace Sym
end Sym
namespace Sym
end Sym
namespace Sym
end Sym
namespace Sym
end Sym
namespace Sym
def RatP (w:World) (v:Value) (neg:Bool) (m k:Nat):Prop:=∃ a b,v=.agg #[.bool neg,a,b]/\Dg w a (uB m)/\Dg w b (uB k)
end Sym
namespace Sym
end Sym
namespace Sym
end Sym
namespace Sym
end Sym
namespace Sym
def RQ (w:World) (v:Value) (r:Rat):Prop:=RatP w v (decide (r.num<0)) r.num.natAbs r.den
end Sym
namespace Sym
end Sym
end Go.Proofs.YtcgiaclelnmhbabGreatDoor
