/- Part 22. -/
import Derived.Test.YtobfdjojhfpakaaGreatDoorY21
import Derived.Laws.Strings3
set_option linter.all false
open Go.Result (andThen_ok)
open Go.Sem (run_bind run_pure)

namespace Go.Proofs.YtobfdjojhfpakaaGreatDoor
open Go Go.RowKit Go.Proofs Lim
namespace Sym
section
variable {csz:List Nat}{numc:List Bool}{okT:List Nat}{nt:Nat}{cl:List Cl}{w0:World}{w:World}{v z:Value}{p1 p2 p3 p4:Pat}{res:cM}{c d c1 c2 c3 c4 c5 c6:Nat}{a b l:List UInt8}
theorem und_str:Tryz.prog.underlying 9=some .string:=by kernel_rfl
end
end Sym
namespace Sym
section
variable {csz:List Nat}{numc:List Bool}{okT:List Nat}{nt:Nat}{cl:List Cl}{w0:World}{w:World}{v z:Value}{p1 p2 p3 p4:Pat}{res:cM}{c d c1 c2 c3 c4 c5 c6:Nat}{a b l:List UInt8}
end
theorem clVs_ok {okT:List Nat}{B:Nat}(a:List UInt8):(clV (str a)).Ok okT B:=clV_ok rfl
end Sym
namespace Sym
section
variable {csz:List Nat}{numc:List Bool}{okT:List Nat}{nt:Nat}{cl:List Cl}{w0:World}{w:World}{v z:Value}{p1 p2 p3 p4:Pat}{res:cM}{c d c1 c2 c3 c4 c5 c6:Nat}{a b l:List UInt8}{r s:Rat}{k k1 k2:Nat}
end
section
variable {csz:List Nat}{numc:List Bool}{okT:List Nat}{nt:Nat}{cl:List Cl}{w0:World}{w:World}{v z:Value}{p1 p2 p3 p4:Pat}{res:cM}{c d c1 c2 c3 c4 c5 c6:Nat}{a b l:List UInt8}{r s:Rat}{k k1 k2:Nat}
end
end Sym
namespace Sym
section
variable {csz:List Nat}{numc:List Bool}{okT:List Nat}{nt:Nat}{cl:List Cl}{w0:World}{w:World}{v z:Value}{p1 p2 p3 p4:Pat}{res:cM}{c d c1 c2 c3 c4 c5 c6:Nat}{a b l:List UInt8}
theorem e_slen {n:Int}(hn:((l.length:Nat):Int)=n) (h1:PV csz numc okT nt cl w0 p1 (str l)) (h3:RV csz numc okT nt cl w0 res (ii n)):V csz numc okT nt cl w0 (.blt .len [9] 3) [p1] res:=by
 intro w ρ oo xs ho hb hvs;obtain⟨c,hop,hc,hat,hty,rfl⟩:=hd_blt ho;obtain⟨v1,_,e1,h4,e2⟩:=hvs;obtain rfl:=h1 _ _ h4;subst e2;refine⟨_,w,?_,h3 w,Below.refl _ _⟩;have he:c.args.map ρ=#[str l]:=by
  apply Array.ext';simpa using e1
 have hr:=run_len_string (P:=Tryz.prog) w 9 3 ⟨l.toArray⟩ und_str;have hs:goInt (⟨l.toArray⟩:ByteArray).size=ii n:=by
  show Value.int .i64 ((l.length:Nat):Int)=_;rw[hn]
 rw[hs] at hr;show (execOp ρ oo).run Tryz.prog w=_;simp only[execOp,hop,resolve,hc,he,run_bind,run_pure,andThen_ok,invoke,builtin,hat,hty];simp [run_bind,hr,Result.andThen]
end
end Sym
namespace Sym
section
variable {csz:List Nat}{numc:List Bool}{okT:List Nat}{nt:Nat}{cl:List Cl}{w0:World}{w:World}{v z:Value}{p1 p2 p3 p4:Pat}{res:cM}{c d c1 c2 c3 c4 c5 c6:Nat}{a b l:List UInt8}{x:Rat}{k:Nat}
end
section
variable {csz:List Nat}{numc:List Bool}{okT:List Nat}{cl:List Cl}{w0:World}{w:World}{p0 p4 p5 p6:Pat}{neg:Bool}{l T:List UInt8}{i:Nat}{a:Act}
end
section
variable {l T:List UInt8}{i:Nat}{NA NB:List Nat}{x:Rat}{w:World}
end
end Sym
end Go.Proofs.YtobfdjojhfpakaaGreatDoor
