/- Part 20. -/
import Derived.Test.YtdopipkmcnkdjaaGreatDoorE19
import Derived.Test.YtdopipkmcnkdjaaGreatDoorE18
set_option linter.all false

namespace Go.Proofs.YtdopipkmcnkdjaaGreatDoor.Lim
def cutI (r:Rat):Int:=if r.num<0 then -((r.num.natAbs/r.den:Nat):Int) else ((r.num.natAbs/r.den:Nat):Int)
theorem chp (r:Rat):(cutI r).natAbs=r.num.natAbs/r.den:=by
 unfold cutI;generalize r.num.natAbs/r.den=q;split<;>omega
end Go.Proofs.YtdopipkmcnkdjaaGreatDoor.Lim

namespace Go.Proofs.YtdopipkmcnkdjaaGreatDoor
open Go Go.RowKit Go.Proofs Lim
open Go Go.RowKit Go.Proofs Lim
theorem Siz.cut {r:Rat}{k:Nat}(h:Siz r k) (hk:1<=k):Siz ((cutI r:Int):Rat) k:=by
 unfold Siz at *;rw[Rat.num_intCast,Rat.den_intCast,chp];refine⟨jP (kX _ _) h.1,?_⟩;exact cI (show 1<B^1 by decide) (jY kn hk)
end Go.Proofs.YtdopipkmcnkdjaaGreatDoor
