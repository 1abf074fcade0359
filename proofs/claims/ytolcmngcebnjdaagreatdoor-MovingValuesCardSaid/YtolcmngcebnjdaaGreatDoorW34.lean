/- Part 34. -/
import Derived.Test.YtolcmngcebnjdaaGreatDoorW30
import Derived.Test.YtolcmngcebnjdaaGreatDoorW31
import Derived.Test.YtolcmngcebnjdaaGreatDoorW32
import Derived.Test.YtolcmngcebnjdaaGreatDoorW33
import Derived.Deep.Slices
import Derived.Carry
set_option linter.all false
open Bool (and_eq_true eq_false_or_eq_true or_eq_true)
open List (append_assoc length_drop length_map length_take take_append_drop)
open Nat (add_assoc add_mul add_zero div_add_mod eq_zero_or_pos le_refl le_trans lt_or_ge mod_lt mul_comm mul_le_mul_right one_mul zero_le)
noncomputable section

namespace Go.Proofs.YtolcmngcebnjdaaGreatDoor
open Go Go.RowKit Go.Proofs
namespace Pe
variable {D:Type}
def Wk:Nat->Code->Code
 |0,_=>.skip
 |k+1,.seq x y=>.seq x (Wk k y)
 |_+1,c=>c
def cbT:Nat->Code->Code
 |0,c=>c
 |k+1,.seq _ y=>cbT k y
 |_+1,c=>c
def deepK:Nat->Code->Bool
 |0,_=>true
 |k+1,.seq _ y=>deepK k y
 |_+1,_=>false
section
variable {S:Stat D}{TT:FuncId->Tab D}{CF YF:cw D}{nt:Nat}{base:cG D}{fid:FuncId}{inR:Bool}
theorem EE {n:Nat}:∀ (k:Nat) (c:Code) {st st1 st2:St D}{x:Xt}{ob1 ob2:List Prop},uc S TT CF YF nt base fid inR (n+1+k) (Wk k c) st=some (.normal,st1,ob1)->deepK k c=true->uc S TT CF YF nt base fid inR (n+1) (cbT k c) st1=some (x,st2,ob2)->
 uc S TT CF YF nt base fid inR (n+1+k) c st=some (x,st2,ob1++ob2)
 |0,c,st,st1,st2,x,ob1,ob2,h,_,h2=>by
  simp only[Wk,add_zero,uc,Option.some.injEq,Prod.mk.injEq,true_and] at h;obtain⟨rfl,rfl⟩:=h;exact h2
 |k+1,c,st,st1,st2,x,ob1,ob2,h,hd,h2=>by
  cases c with
  |seq a b =>
   have hk:n+1+(k+1)=(n+1+k)+1:=rfl;rw[hk] at h ⊢;simp only[Wk,uc] at h;simp only[uc];split at h
   ·rename_i st' ob h3;split at h
    ·rename_i x2 st3 ob3 h4;injection h with h
     simp only[Prod.mk.injEq] at h;obtain⟨rfl,rfl,rfl⟩:=h;have:=EE k b h4 hd h2;simp only[this,append_assoc]
    ·cases h
   ·rename_i h3;exact absurd h (by
     intro h;exact h3 _ _ h)
  |_=>cases hd
theorem runF_of {g:Nat}{M:cG D}{n0:Nat}{f:FuncId}{l:List AV}{fn:Func}{c:Code}{xt:Xt}{st:St D}{ob:List Prop}{xs:List A1}(h1:S.P.funcs[f]?=some fn) (h2:fn.body=some c) (h3:Nat.ble l.length fn.ntmps=true) (h4:uc S TT CF YF fn.ntmps M f false g c ⟨n0,Ev 0 l,[],[]⟩=some (xt,st,ob)) (h5:xt.ends=true) (h6:Uq st.ms st.m=true) (h7:Yl S.P (fun t=>find t st.sl) (over M (yI st.ms st.m)) fn.results.toList=some xs) :
 cbS S TT CF YF g M n0 f l=some ⟨cbp xs,gcW n0 st.nb xs (yI st.ms st.m),st.nb,ob⟩:=by
 unfold cbS;simp only[h1,h2,h3,h4,h5,h6,h7]
end
end Pe
open Go Go.RowKit Go.Proofs Lim
namespace Pe.Known
abbrev M0:cG Dx:=fun _=>none
noncomputable abbrev CFx:cw Dx:=(zY (Sx false 0) TX 300 39).1
noncomputable abbrev YFx:cw Dx:=(zY (Sx false 0) TX 300 39).2
def s4 (n:Nat) (l:List AC):List AC:=.sym n 0::.sym n 1::.sym n 2::.sym n 3::l
def z4 (l:List AC):List AC:=.lit (.bool false)::.lit (.int .u64 0)::.lit (.int .u64 0)::.lit (.pointer none)::l
def st0:St Dx:=⟨0,[],[],[]⟩
noncomputable def body0:Code:=Tryz.f9.body.getD .skip
noncomputable def body1:Code:=cbT 6 body0
noncomputable def body2:Code:=cbT 3 body1
noncomputable def st1:St Dx:=⟨1043,[(8,.val (.one (.lit (.int .i64 (0))))),(7,.val (.one (.ptr 1042 0))),(40,.val (.one (.lit (.int .i64 (0))))),(39,.val (.agg (s4 722 (s4 1013 [])))),(34,.tup [.agg (s4 722 (s4 1013 [])),.one (.lit (.int .i64 (0)))]),(38,.tup [.agg (s4 722 (s4 1013 [])),.one (.lit (.int .i64 (0)))]),(37,.val (.agg (s4 231 []))),(36,.val (.one (.slc 13 0 2 2))),(35,.val (.one (.slc 9 0 3 3))),(6,.val (.one (.lit (.int .i64 (0))))),(5,.val (.one (.ptr 230 0))),(33,.val (.one (.lit (.int .i64 (0))))),(32,.val (.agg (s4 165 (s4 175 (s4 66 (s4 69 [])))))),(28,.tup [.agg (s4 165 (s4 175 (s4 66 (s4 69 [])))),.one (.lit (.int .i64 (0)))]),(31,.tup [.agg (s4 165 (s4 175 (s4 66 (s4 69 [])))),.one (.lit (.int .i64 (0)))]),(30,.val (.one (.slc 13 0 2 2))),(29,.val (.one (.slc 9 0 3 3))),(4,.val (.one (.lit (.int .i64 (0))))),(3,.val (.one (.ptr 42 0))),(27,.val (.one (.lit (.int .i64 (0))))),(26,.val (.agg (s4 41 []))),(22,.tup [.agg (s4 41 []),.one (.lit (.int .i64 (0)))]),(25,.tup [.agg (s4 41 []),.one (.lit (.int .i64 (0)))]),(24,.val (.agg (s4 14 []))),(23,.val (.one (.slc 9 0 3 3))),(2,.val (.one (.slc 13 0 2 2))),(21,.val (.one (.slc 13 0 2 2))),(20,.val (.agg (s4 12 (z4 [])))),(19,.val (.agg (s4 12 []))),(18,.val (.agg (s4 10 (s4 11 [])))),(17,.val (.agg (s4 11 []))),(16,.val (.agg (s4 10 []))),(1,.val (.one (.slc 9 0 3 3))),(15,.val (.one (.slc 9 0 3 3))),(14,.val (.agg (s4 7 (s4 8 [])))),(13,.val (.agg (s4 4 (s4 5 [])))),(12,.val (.agg (s4 1 (s4 2 [])))),(0,.val (.one (.lit (.bool false))))],[(1042,.blk 69 (s4 722 (s4 1013 [])) none),(1042,.blk 69 (z4 (z4 [])) none),(1013,.cls (.q (20/1) 337)),(722,.cls (.q (0/1) 1)),(231,.cls (.q (1/1) 1)),(230,.blk 119 (s4 165 (s4 175 (s4 66 (s4 69 [])))) none),(230,.blk 119 (z4 (z4 (z4 (z4 [])))) none),(175,.cls (.q (12/1) 79)),(165,.cls (.q (0/1) 8)),(69,.cls (.q (5/1) 3)),(66,.cls (.q (0/1) 3)),(42,.blk 39 (s4 41 []) none),(42,.blk 39 (z4 []) none),(41,.cls (.q (2/5) 11)),(14,.cls (.q (2/1) 1)),(13,.blk 103 (s4 10 (s4 11 (s4 12 (z4 [])))) none),(12,.cls (.q (10/1) 1)),(11,.cls (.q (4/1) 1)),(10,.cls (.q (10/1) 1)),(9,.blk 98 (s4 1 (s4 2 (s4 4 (s4 5 (s4 7 (s4 8 [])))))) none),(8,.cls (.q (0/1) 1)),(7,.cls (.q (10/1) 1)),(5,.cls (.q (1/1) 1)),(4,.cls (.q (5/1) 1)),(2,.cls (.q (0/1) 1)),(1,.cls (.q (0/1) 1))],[]⟩
noncomputable def st2:St Dx:=⟨1149,[(4,.val (.one (.lit (.int .i64 (0))))),(11,.val (.one (.ptr 1148 0))),(103,.val (.one (.lit (.int .i64 (0))))),(102,.val (.agg (s4 1105 (s4 1129 [])))),(90,.tup [.agg (s4 1105 (s4 1129 [])),.one (.lit (.int .i64 (0)))]),(101,.tup [.agg (s4 1105 (s4 1129 [])),.one (.lit (.int .i64 (0)))]),(100,.val (.one (.slc 1067 0 2 2))),(99,.val (.agg (s4 1043 []))),(98,.val (.agg (s4 1066 []))),(97,.val (.one (.slc 1065 0 2 2))),(96,.val (.agg (s4 1055 (s4 1056 [])))),(95,.val (.agg (s4 1056 []))),(94,.val (.agg (s4 1055 []))),(93,.val (.agg (s4 1045 (s4 1046 [])))),(92,.val (.agg (s4 1046 []))),(91,.val (.agg (s4 1045 []))),(10,.val (.one (.lit (.int .i64 (0))))),(9,.val (.one (.ptr 1044 0))),(89,.val (.one (.lit (.int .i64 (0))))),(88,.val (.agg (s4 1043 []))),(86,.tup [.agg (s4 1043 []),.one (.lit (.int .i64 (0)))]),(87,.tup [.agg (s4 1043 []),.one (.lit (.int .i64 (0)))]),(85,.val (.one (.lit (.bool false)))),(84,.val (.one (.lit (.bool false)))),(83,.val (.one (.lit (.string ⟨#[50,48]⟩)))),(82,.val (.agg (s4 1013 []))),(81,.val (.one (.ptr 1042 4))),(80,.val (.one (.lit (.bool false)))),(79,.val (.one (.lit (.bool false)))),(78,.val (.one (.lit (.bool false)))),(77,.val (.one (.lit (.string ⟨#[53]⟩)))),(76,.val (.agg (s4 69 []))),(75,.val (.one (.ptr 230 12))),(74,.val (.one (.lit (.bool false)))),(73,.val (.one (.lit (.bool false)))),(72,.val (.one (.lit (.bool false)))),(71,.val (.one (.lit (.string ⟨#[49,50]⟩)))),(70,.val (.agg (s4 175 []))),(69,.val (.one (.ptr 230 4))),(68,.val (.one (.lit (.bool false)))),(67,.val (.one (.lit (.bool false)))),(66,.val (.one (.lit (.bool false)))),(65,.val (.one (.lit (.string ⟨#[48]⟩)))),(64,.val (.agg (s4 66 []))),(63,.val (.one (.ptr 230 8))),(62,.val (.one (.lit (.bool false)))),(61,.val (.one (.lit (.bool false)))),(60,.val (.one (.lit (.bool false)))),(59,.val (.one (.lit (.string ⟨#[48]⟩)))),(58,.val (.agg (s4 165 []))),(57,.val (.one (.ptr 230 0))),(56,.val (.one (.lit (.bool false)))),(55,.val (.one (.lit (.bool false)))),(54,.val (.one (.lit (.bool false)))),(53,.val (.one (.lit (.string ⟨#[50,47,53]⟩)))),(52,.val (.agg (s4 41 []))),(51,.val (.one (.lit (.bool false)))),(50,.val (.one (.lit (.bool false)))),(49,.val (.one (.lit (.bool false)))),(48,.val (.one (.lit (.int .i64 (0))))),(47,.val (.one (.lit (.bool false)))),(46,.val (.one (.lit (.bool false)))),(45,.val (.one (.lit (.bool false)))),(44,.val (.one (.lit (.int .i64 (0))))),(43,.val (.one (.lit (.bool false)))),(42,.val (.one (.lit (.bool false)))),(41,.val (.one (.lit (.int .i64 (0))))),(8,.val (.one (.lit (.int .i64 (0))))),(7,.val (.one (.ptr 1042 0))),(40,.val (.one (.lit (.int .i64 (0))))),(39,.val (.agg (s4 722 (s4 1013 [])))),(34,.tup [.agg (s4 722 (s4 1013 [])),.one (.lit (.int .i64 (0)))]),(38,.tup [.agg (s4 722 (s4 1013 [])),.one (.lit (.int .i64 (0)))]),(37,.val (.agg (s4 231 []))),(36,.val (.one (.slc 13 0 2 2))),(35,.val (.one (.slc 9 0 3 3))),(6,.val (.one (.lit (.int .i64 (0))))),(5,.val (.one (.ptr 230 0))),(33,.val (.one (.lit (.int .i64 (0))))),(32,.val (.agg (s4 165 (s4 175 (s4 66 (s4 69 [])))))),(28,.tup [.agg (s4 165 (s4 175 (s4 66 (s4 69 [])))),.one (.lit (.int .i64 (0)))]),(31,.tup [.agg (s4 165 (s4 175 (s4 66 (s4 69 [])))),.one (.lit (.int .i64 (0)))]),(30,.val (.one (.slc 13 0 2 2))),(29,.val (.one (.slc 9 0 3 3))),(4,.val (.one (.lit (.int .i64 (0))))),(3,.val (.one (.ptr 42 0))),(27,.val (.one (.lit (.int .i64 (0))))),(26,.val (.agg (s4 41 []))),(22,.tup [.agg (s4 41 []),.one (.lit (.int .i64 (0)))]),(25,.tup [.agg (s4 41 []),.one (.lit (.int .i64 (0)))]),(24,.val (.agg (s4 14 []))),(23,.val (.one (.slc 9 0 3 3))),(2,.val (.one (.slc 13 0 2 2))),(21,.val (.one (.slc 13 0 2 2))),(20,.val (.agg (s4 12 (z4 [])))),(19,.val (.agg (s4 12 []))),(18,.val (.agg (s4 10 (s4 11 [])))),(17,.val (.agg (s4 11 []))),(16,.val (.agg (s4 10 []))),(1,.val (.one (.slc 9 0 3 3))),(15,.val (.one (.slc 9 0 3 3))),(14,.val (.agg (s4 7 (s4 8 [])))),(13,.val (.agg (s4 4 (s4 5 [])))),(12,.val (.agg (s4 1 (s4 2 [])))),(0,.val (.one (.lit (.bool false))))],[(1148,.blk 69 (s4 1105 (s4 1129 [])) none),(1148,.blk 69 (z4 (z4 [])) none),(1129,.cls (.q (99/5) 7)),(1105,.cls (.q (-1/1) 4)),(1067,.blk 39 (s4 1066 (s4 1043 [])) none),(1066,.cls (.q (1/1) 1)),(1065,.blk 69 (s4 1045 (s4 1046 (s4 1055 (s4 1056 [])))) none),(1056,.cls (.q (10/1) 1)),(1055,.cls (.q (-1/1) 1)),(1046,.cls (.q (12/1) 1)),(1045,.cls (.q (0/1) 1)),(1044,.blk 39 (s4 1043 []) none),(1044,.blk 39 (z4 []) none),(1043,.cls (.q (9/10) 2)),(1042,.blk 69 (s4 722 (s4 1013 [])) none),(1042,.blk 69 (z4 (z4 [])) none),(1013,.cls (.q (20/1) 337)),(722,.cls (.q (0/1) 1)),(231,.cls (.q (1/1) 1)),(230,.blk 119 (s4 165 (s4 175 (s4 66 (s4 69 [])))) none),(230,.blk 119 (z4 (z4 (z4 (z4 [])))) none),(175,.cls (.q (12/1) 79)),(165,.cls (.q (0/1) 8)),(69,.cls (.q (5/1) 3)),(66,.cls (.q (0/1) 3)),(42,.blk 39 (s4 41 []) none),(42,.blk 39 (z4 []) none),(41,.cls (.q (2/5) 11)),(14,.cls (.q (2/1) 1)),(13,.blk 103 (s4 10 (s4 11 (s4 12 (z4 [])))) none),(12,.cls (.q (10/1) 1)),(11,.cls (.q (4/1) 1)),(10,.cls (.q (10/1) 1)),(9,.blk 98 (s4 1 (s4 2 (s4 4 (s4 5 (s4 7 (s4 8 [])))))) none),(8,.cls (.q (0/1) 1)),(7,.cls (.q (10/1) 1)),(5,.cls (.q (1/1) 1)),(4,.cls (.q (5/1) 1)),(2,.cls (.q (0/1) 1)),(1,.cls (.q (0/1) 1))],[]⟩
noncomputable def st3:St Dx:=⟨1149,[(0,.val (.one (.lit (.bool true)))),(117,.val (.one (.lit (.bool true)))),(116,.val (.one (.lit (.bool true)))),(115,.val (.one (.lit (.string ⟨#[57,57,47,53]⟩)))),(114,.val (.agg (s4 1129 []))),(113,.val (.one (.ptr 1148 4))),(112,.val (.one (.lit (.bool true)))),(111,.val (.one (.lit (.bool true)))),(110,.val (.one (.lit (.bool true)))),(109,.val (.one (.lit (.string ⟨#[45,49]⟩)))),(108,.val (.agg (s4 1105 []))),(107,.val (.one (.ptr 1148 0))),(106,.val (.one (.lit (.bool true)))),(105,.val (.one (.lit (.bool true)))),(104,.val (.one (.lit (.int .i64 (0))))),(4,.val (.one (.lit (.int .i64 (0))))),(11,.val (.one (.ptr 1148 0))),(103,.val (.one (.lit (.int .i64 (0))))),(102,.val (.agg (s4 1105 (s4 1129 [])))),(90,.tup [.agg (s4 1105 (s4 1129 [])),.one (.lit (.int .i64 (0)))]),(101,.tup [.agg (s4 1105 (s4 1129 [])),.one (.lit (.int .i64 (0)))]),(100,.val (.one (.slc 1067 0 2 2))),(99,.val (.agg (s4 1043 []))),(98,.val (.agg (s4 1066 []))),(97,.val (.one (.slc 1065 0 2 2))),(96,.val (.agg (s4 1055 (s4 1056 [])))),(95,.val (.agg (s4 1056 []))),(94,.val (.agg (s4 1055 []))),(93,.val (.agg (s4 1045 (s4 1046 [])))),(92,.val (.agg (s4 1046 []))),(91,.val (.agg (s4 1045 []))),(10,.val (.one (.lit (.int .i64 (0))))),(9,.val (.one (.ptr 1044 0))),(89,.val (.one (.lit (.int .i64 (0))))),(88,.val (.agg (s4 1043 []))),(86,.tup [.agg (s4 1043 []),.one (.lit (.int .i64 (0)))]),(87,.tup [.agg (s4 1043 []),.one (.lit (.int .i64 (0)))]),(85,.val (.one (.lit (.bool false)))),(84,.val (.one (.lit (.bool false)))),(83,.val (.one (.lit (.string ⟨#[50,48]⟩)))),(82,.val (.agg (s4 1013 []))),(81,.val (.one (.ptr 1042 4))),(80,.val (.one (.lit (.bool false)))),(79,.val (.one (.lit (.bool false)))),(78,.val (.one (.lit (.bool false)))),(77,.val (.one (.lit (.string ⟨#[53]⟩)))),(76,.val (.agg (s4 69 []))),(75,.val (.one (.ptr 230 12))),(74,.val (.one (.lit (.bool false)))),(73,.val (.one (.lit (.bool false)))),(72,.val (.one (.lit (.bool false)))),(71,.val (.one (.lit (.string ⟨#[49,50]⟩)))),(70,.val (.agg (s4 175 []))),(69,.val (.one (.ptr 230 4))),(68,.val (.one (.lit (.bool false)))),(67,.val (.one (.lit (.bool false)))),(66,.val (.one (.lit (.bool false)))),(65,.val (.one (.lit (.string ⟨#[48]⟩)))),(64,.val (.agg (s4 66 []))),(63,.val (.one (.ptr 230 8))),(62,.val (.one (.lit (.bool false)))),(61,.val (.one (.lit (.bool false)))),(60,.val (.one (.lit (.bool false)))),(59,.val (.one (.lit (.string ⟨#[48]⟩)))),(58,.val (.agg (s4 165 []))),(57,.val (.one (.ptr 230 0))),(56,.val (.one (.lit (.bool false)))),(55,.val (.one (.lit (.bool false)))),(54,.val (.one (.lit (.bool false)))),(53,.val (.one (.lit (.string ⟨#[50,47,53]⟩)))),(52,.val (.agg (s4 41 []))),(51,.val (.one (.lit (.bool false)))),(50,.val (.one (.lit (.bool false)))),(49,.val (.one (.lit (.bool false)))),(48,.val (.one (.lit (.int .i64 (0))))),(47,.val (.one (.lit (.bool false)))),(46,.val (.one (.lit (.bool false)))),(45,.val (.one (.lit (.bool false)))),(44,.val (.one (.lit (.int .i64 (0))))),(43,.val (.one (.lit (.bool false)))),(42,.val (.one (.lit (.bool false)))),(41,.val (.one (.lit (.int .i64 (0))))),(8,.val (.one (.lit (.int .i64 (0))))),(7,.val (.one (.ptr 1042 0))),(40,.val (.one (.lit (.int .i64 (0))))),(39,.val (.agg (s4 722 (s4 1013 [])))),(34,.tup [.agg (s4 722 (s4 1013 [])),.one (.lit (.int .i64 (0)))]),(38,.tup [.agg (s4 722 (s4 1013 [])),.one (.lit (.int .i64 (0)))]),(37,.val (.agg (s4 231 []))),(36,.val (.one (.slc 13 0 2 2))),(35,.val (.one (.slc 9 0 3 3))),(6,.val (.one (.lit (.int .i64 (0))))),(5,.val (.one (.ptr 230 0))),(33,.val (.one (.lit (.int .i64 (0))))),(32,.val (.agg (s4 165 (s4 175 (s4 66 (s4 69 [])))))),(28,.tup [.agg (s4 165 (s4 175 (s4 66 (s4 69 [])))),.one (.lit (.int .i64 (0)))]),(31,.tup [.agg (s4 165 (s4 175 (s4 66 (s4 69 [])))),.one (.lit (.int .i64 (0)))]),(30,.val (.one (.slc 13 0 2 2))),(29,.val (.one (.slc 9 0 3 3))),(4,.val (.one (.lit (.int .i64 (0))))),(3,.val (.one (.ptr 42 0))),(27,.val (.one (.lit (.int .i64 (0))))),(26,.val (.agg (s4 41 []))),(22,.tup [.agg (s4 41 []),.one (.lit (.int .i64 (0)))]),(25,.tup [.agg (s4 41 []),.one (.lit (.int .i64 (0)))]),(24,.val (.agg (s4 14 []))),(23,.val (.one (.slc 9 0 3 3))),(2,.val (.one (.slc 13 0 2 2))),(21,.val (.one (.slc 13 0 2 2))),(20,.val (.agg (s4 12 (z4 [])))),(19,.val (.agg (s4 12 []))),(18,.val (.agg (s4 10 (s4 11 [])))),(17,.val (.agg (s4 11 []))),(16,.val (.agg (s4 10 []))),(1,.val (.one (.slc 9 0 3 3))),(15,.val (.one (.slc 9 0 3 3))),(14,.val (.agg (s4 7 (s4 8 [])))),(13,.val (.agg (s4 4 (s4 5 [])))),(12,.val (.agg (s4 1 (s4 2 [])))),(0,.val (.one (.lit (.bool false))))],[(1148,.blk 69 (s4 1105 (s4 1129 [])) none),(1148,.blk 69 (z4 (z4 [])) none),(1129,.cls (.q (99/5) 7)),(1105,.cls (.q (-1/1) 4)),(1067,.blk 39 (s4 1066 (s4 1043 [])) none),(1066,.cls (.q (1/1) 1)),(1065,.blk 69 (s4 1045 (s4 1046 (s4 1055 (s4 1056 [])))) none),(1056,.cls (.q (10/1) 1)),(1055,.cls (.q (-1/1) 1)),(1046,.cls (.q (12/1) 1)),(1045,.cls (.q (0/1) 1)),(1044,.blk 39 (s4 1043 []) none),(1044,.blk 39 (z4 []) none),(1043,.cls (.q (9/10) 2)),(1042,.blk 69 (s4 722 (s4 1013 [])) none),(1042,.blk 69 (z4 (z4 [])) none),(1013,.cls (.q (20/1) 337)),(722,.cls (.q (0/1) 1)),(231,.cls (.q (1/1) 1)),(230,.blk 119 (s4 165 (s4 175 (s4 66 (s4 69 [])))) none),(230,.blk 119 (z4 (z4 (z4 (z4 [])))) none),(175,.cls (.q (12/1) 79)),(165,.cls (.q (0/1) 8)),(69,.cls (.q (5/1) 3)),(66,.cls (.q (0/1) 3)),(42,.blk 39 (s4 41 []) none),(42,.blk 39 (z4 []) none),(41,.cls (.q (2/5) 11)),(14,.cls (.q (2/1) 1)),(13,.blk 103 (s4 10 (s4 11 (s4 12 (z4 [])))) none),(12,.cls (.q (10/1) 1)),(11,.cls (.q (4/1) 1)),(10,.cls (.q (10/1) 1)),(9,.blk 98 (s4 1 (s4 2 (s4 4 (s4 5 (s4 7 (s4 8 [])))))) none),(8,.cls (.q (0/1) 1)),(7,.cls (.q (10/1) 1)),(5,.cls (.q (1/1) 1)),(4,.cls (.q (5/1) 1)),(2,.cls (.q (0/1) 1)),(1,.cls (.q (0/1) 1))],[]⟩
theorem part1:uc (Sx false 0) TX CFx YFx 118 M0 9 false 300 (Wk 6 body0) st0=some (.normal,st1,[]):=by kernel_rfl
theorem part2:uc (Sx false 0) TX CFx YFx 118 M0 9 false 294 (Wk 3 body1) st1=some (.normal,st2,[]):=by kernel_rfl
theorem part3:uc (Sx false 0) TX CFx YFx 118 M0 9 false 291 body2 st2=some (.ret,st3,[]):=by kernel_rfl
theorem from1:uc (Sx false 0) TX CFx YFx 118 M0 9 false 294 body1 st1=some (.ret,st3,[]):=EE (n:=290) 3 body1 part2 (by kernel_rfl) part3
theorem from0:uc (Sx false 0) TX CFx YFx 118 M0 9 false 300 body0 st0=some (.ret,st3,[]):=EE (n:=293) 6 body0 part1 (by kernel_rfl) from1
end Pe.Known
namespace Pe
theorem chR {P : Program} (h : P.funcs.toList.all (fun fn => !(fn.name == "runtime.NumGoroutine")) = true) : ∀ (f : Nat) (fn : Func), P.funcs[f]? = some fn → (fn.name == "runtime.NumGoroutine") = false := by
 intro f fn hf;have hm:fn∈P.funcs.toList:=by
  rw[Array.mem_toList_iff];exact Array.mem_of_getElem? hf
 have:=List.all_eq_true.1 h fn hm;simpa using this
theorem no_name : ∀ (f : Nat) (fn : Func), Tryz.prog.funcs[f]? = some fn → (fn.name == "runtime.NumGoroutine") = false := chR (by kernel_rfl)
namespace Known
theorem ends:cbS (Sx false 0) TX CFx YFx 300 M0 0 9 []=some ⟨cbp [.one (.lit (.bool true))],gcW 0 st3.nb [.one (.lit (.bool true))] (yI st3.ms st3.m),st3.nb,[]⟩ :=
 runF_of Tryz.func9 (c:=body0) rfl (by kernel_rfl) from0 (by kernel_rfl) (by kernel_rfl) (by kernel_rfl)
theorem ceI {S:Stat Dx}{TT:FuncId->Tab Dx}{g n:Nat}:callF S TT g (n+1)=cbS S TT (zY S TT g n).1 (zY S TT g n).2 g:=rfl
theorem views:(fun b=>find b ([]:Ws Dx))=M0:=rfl
theorem call:callF (Sx false 0) TX 300 (39+1) (fun b=>find b ([]:Ws Dx)) 0 9 (kF [])=some ⟨cbp [.one (.lit (.bool true))],gcW 0 st3.nb [.one (.lit (.bool true))] (yI st3.ms st3.m),st3.nb,[]⟩:=by
 rw[ceI,views,show kF []=[] from rfl];exact ends
end Known
theorem cfB {w:World}(hG:Gr w):Calls Tryz.prog 9 #[] w (Val w (.bool true)):=by
 refine(ciG (C:=Cx false 0 w) (cx_ok (zero_le _)) no_name (tx_ok hG) (ps:=[]) (xs:=[]) (ws:=[]) (n0:=0) rfl Known.call trivial (vs:=[]) rfl).mono ?_;rintro en w' ⟨v,e,e',rfl,hl,hv⟩;refine⟨?_,hl.good.below⟩;rw[show v=.bool true from hv]
end Pe
namespace Pe
noncomputable def kMovingValues3_:List Kp:=[.code (codeOf Tryz.f3)]
theorem ciu {lo:Nat}{w0:World}(hG:Gr w0):jz (Cx true lo w0) (.call 9) [] (vr (.bool true)):=by
 refine⟨enters_of Tryz.func9 (by kernel_rfl) rfl,fun w vs hb hvs=>?_⟩;obtain rfl:vs=[]:=hvs;exact(cfB (hG.below hb hG.size)).mono fun _ _ h=>⟨_,h.1,h.2,JB⟩
abbrev exK (lo1 lo2:Nat) (ps as':List P3) (t:Tx) (b:Bool):List (Nat×Con):=[(9,uX [] (vr (.bool true))),(8,uX [kv lo1 lo2 ps as' t] (vr (.bool b)))]
abbrev exP (lo lo1 lo2:Nat) (ps as':List P3) (t:Tx) (a b:Bool):List (Nat×Con) :=
 (10,uX [kv lo1 lo2 ps as' t] (Ym (lnR lo ps)))::(11,uX [kv lo1 lo2 ps as' t] (Ym (vhR lo as'))) ::
 (14,uX [pM lo 100 (cL ps)] (vr (.bool a)))::(15,uX [pM lo 105 (cV as')] (vr (.bool b))) ::
 (16,uX [pL lo 98 (cL ps)] (vrI (er a)))::(17,uX [pL lo 103 (cV as')] (vrI (er b)))::exK lo1 lo2 ps as' t false
section
variable {lo lo1 lo2:Nat}{w0:World}{ps as':List P3}{t:Tx}{a b:Bool}
theorem exK_ok (hN:cM) (hG:Gr w0) (hlo:lo<=w0.heap.size) (h:jw ps as' t=b):CU true lo w0 (exK lo1 lo2 ps as' t b):=by
 subst h;exact cS (jM (ciu hG)) (cS (jM ((cim hN lo1 lo2 ps as' t).val hG hlo (enters_of Tryz.func8 (by kernel_rfl) rfl))) kz)
theorem exP_ok (hN:cM) (hG:Gr w0) (hlo:lo<=w0.heap.size) (h:jw ps as' t=false) (ha:okL (cL ps)=a) (hb:okV (cV as')=b):CU true lo w0 (exP lo lo1 lo2 ps as' t a b):=by
 obtain⟨h1,h2,h3,h4,h5⟩:=zW h;have h6:(cL ps).length<=1000:=by simp only[cL,length_map];omega
 have h7:(cV as').length<=1000:=by simp only[cV,length_map];omega
 subst ha;subst hb;exact cS (jM (cjr hN hG hlo h1 (by omega))) (cS (jM (cdp hN hG hlo h2 (by omega)))
  (cS (jM ((cko hN lo (cL ps) (by omega)).val hG hlo (enters_of Tryz.func14 (by kernel_rfl) rfl))) (cS (jM ((cdJ hN lo (cV as') (by omega)).val hG hlo (enters_of Tryz.func15 (by kernel_rfl) rfl)))
  (cS (jM (EQ hN hG hlo (by omega))) (cS (jM (Gg hN hG hlo (by omega))) (exK_ok hN hG hlo h))))))
end
abbrev vNo:jc Dx:=.tup [pQ 0 1,pI 2]
abbrev exVE (lo lo1 lo2:Nat) (ps as':List P3) (t:Tx) (a b:Bool) (v e:jc Dx):List (Nat×Con) :=
 (18,uX [pL lo 98 (cL ps),pQ (nq t) 4] v)::(19,uX [pL lo 98 (cL ps),pL lo 103 (cV as'),pQ (nq t) 4] e)::exP lo lo1 lo2 ps as' t a b
abbrev vYes (ps:List P3) (t:Tx):jc Dx:=.tup [pQ (kS (cL ps) (nq t)) 64,pI 0]
abbrev eYes (ps as':List P3) (t:Tx):jc Dx:=.tup [pQ (efs (cL ps) (cV as') (nq t) (cV as').length) (204*(cV as').length+1),pI 0]
abbrev exT (lo lo1 lo2:Nat) (ps as':List P3) (t:Tx) (b:Bool) (e:jc Dx):List (Nat×Con) :=
 (22,uX [pM lo 100 (cL ps),pR (nq t) 4] (rr (kS (cL ps) (nq t)) 64))::exVE lo lo1 lo2 ps as' t true b (vYes ps t) e
abbrev exTT (lo lo1 lo2:Nat) (ps as':List P3) (t:Tx):List (Nat×Con) :=
 (23,uX [pM lo 100 (cL ps),pM lo 105 (cV as'),pR (nq t) 4] (rr (efs (cL ps) (cV as') (nq t) (cV as').length) (204*(cV as').length+1)))::exT lo lo1 lo2 ps as' t true (eYes ps as' t)
section
variable {lo lo1 lo2:Nat}{w0:World}{ps as':List P3}{t:Tx}{b:Bool}
theorem cgV (hN:cM) (hG:Gr w0) (hlo:lo<=w0.heap.size) (h:jw ps as' t=false) (ha:okL (cL ps)=false) (hb:okV (cV as')=b):CU true lo w0 (exVE lo lo1 lo2 ps as' t false b vNo vNo):=by
 obtain⟨h1,h2,h3,h4,h5⟩:=zW h;have h6:(cL ps).length<=1000:=by simp only[cL,length_map];omega
 have h7:(cV as').length<=1000:=by simp only[cV,length_map];omega
 exact cS (jM ((Value_f hN lo (cL ps) (nq t) 4 (by omega) ha).numv hG hlo (enters_of Tryz.func18 (by kernel_rfl) rfl))) (cS (jM ((cjG hN lo lo (cL ps) (cV as') (nq t) b (by omega) h7 ha hb).numv hG hlo (enters_of Tryz.func19 (by kernel_rfl) rfl))) (exP_ok hN hG hlo h ha hb))
theorem exT_ok {e:jc Dx}(hN:cM) (hG:Gr w0) (hlo:lo<=w0.heap.size) (h:jw ps as' t=false) (ha:okL (cL ps)=true) (hb:okV (cV as')=b) (he:jz (Cx true lo w0) (.call 19) [pL lo 98 (cL ps),pL lo 103 (cV as'),pQ (nq t) 4] e):CU true lo w0 (exT lo lo1 lo2 ps as' t b e):=by
 obtain⟨h1,h2,h3,h4,h5⟩:=zW h;have h6:(cL ps).length<=1000:=by simp only[cL,length_map];omega
 exact cS (jM ((cbv hN lo (cL ps) (nq t) 4 (by omega) (by omega) (Yz ha) (chk ha).1).rnum hG hlo (enters_of Tryz.func22 (by kernel_rfl) rfl))) (cS (jM ((Value_t hN lo (cL ps) (nq t) 4 (by omega) (by omega) ha).numv hG hlo (enters_of Tryz.func18 (by kernel_rfl) rfl))) (cS (jM he) (exP_ok hN hG hlo h ha hb)))
theorem chY (hN:cM) (hG:Gr w0) (hlo:lo<=w0.heap.size) (h:jw ps as' t=false) (ha:okL (cL ps)=true) (hb:okV (cV as')=false):jz (Cx true lo w0) (.call 19) [pL lo 98 (cL ps),pL lo 103 (cV as'),pQ (nq t) 4] vNo:=by
 obtain⟨h1,h2,h3,h4,h5⟩:=zW h;have h6:(cL ps).length<=1000:=by simp only[cL,length_map];omega
 have h7:(cV as').length<=1000:=by simp only[cV,length_map];omega
 exact(ciV hN lo lo (cL ps) (cV as') (nq t) (by omega) h7 ha hb).numv hG hlo (enters_of Tryz.func19 (by kernel_rfl) rfl)
theorem exTT_ok (hN:cM) (hG:Gr w0) (hlo:lo<=w0.heap.size) (h:jw ps as' t=false) (ha:okL (cL ps)=true) (hb:okV (cV as')=true):CU true lo w0 (exTT lo lo1 lo2 ps as' t):=by
 obtain⟨h1,h2,h3,h4,h5⟩:=zW h;have h6:(cL ps).length<=1000:=by simp only[cL,length_map];omega
 have h7:(cV as').length<=1000:=by simp only[cV,length_map];omega
 exact cS (jM ((cfI hN lo lo (cL ps) (cV as') (nq t) (by omega) (chl hb).2 ha).rnum hG hlo (enters_of Tryz.func23 (by kernel_rfl) rfl)))
  (exT_ok hN hG hlo h ha hb ((cku hN lo lo (cL ps) (cV as') (nq t) (by omega) h7 ha hb).numv hG hlo (enters_of Tryz.func19 (by kernel_rfl) rfl)))
end
theorem lwa {w:World}(lo1 lo2:Nat) (ps as':List P3) (t:Tx):runR w ⟨[],[],exK lo1 lo2 ps as' t true⟩ 3 137 Tryz.f3 kMovingValues3_ (stA [kv lo1 lo2 ps as' t]) (rB true)=some (.ret,[[Pat.agg [Grp.cls (Dx.ls (lst 0 lo1 3 ps f3)),Grp.cls (Dx.ls (lst 0 lo2 3 as' f3)),Grp.lit (str t)]]=[kv lo1 lo2 ps as' t],([]:List (Pat Dx))=[],Value.bool true=Value.bool true]):=by kernel_rfl
theorem lwb {w:World}(lo1 lo2:Nat) (ps as':List P3) (t:Tx) (b:Bool):runR w ⟨[(3,92,true),(3,97,true)],[],exVE w.heap.size lo1 lo2 ps as' t false true vNo vNo⟩ 3 137 Tryz.f3 kMovingValues3_ (stA [kv lo1 lo2 ps as' t]) (rB true)=some (.ret,[[Pat.agg [Grp.cls (Dx.ls (lst 0 lo1 3 ps f3)),Grp.cls (Dx.ls (lst 0 lo2 3 as' f3)),Grp.lit (str t)]]=[kv lo1 lo2 ps as' t],[Pat.agg [Grp.cls (Dx.ls (lst 0 lo1 3 ps f3)),Grp.cls (Dx.ls (lst 0 lo2 3 as' f3)),Grp.lit (str t)]]=[kv lo1 lo2 ps as' t],[Pat.agg [Grp.cls (Dx.ls (lst 0 lo1 3 ps f3)),Grp.cls (Dx.ls (lst 0 lo2 3 as' f3)),Grp.lit (str t)]]=[kv lo1 lo2 ps as' t],List.length t<=60,List.length t<=60,[Pat.one (Grp.cls (Dx.ls (lst w.1.size 100 6 (cL ps) fR)))]=[pM w.1.size 100 (cL ps)],[Pat.one (Grp.cls (Dx.ls (lst w.1.size 105 6 (cV as') fR)))]=[pM w.1.size 105 (cV as')],[Pat.one (Grp.cls (Dx.ls (lst w.1.size 98 8 (cL ps) fQ)))]=[pL w.1.size 98 (cL ps)],[Pat.one (Grp.cls (Dx.ls (lst w.1.size 103 8 (cV as') fQ)))]=[pL w.1.size 103 (cV as')],[Pat.one (Grp.cls (Dx.ls (lst w.1.size 98 8 (cL ps) fQ)))]=[pL w.1.size 98 (cL ps)],[Pat.one (Grp.cls (Dx.ls (lst w.1.size 98 8 (cL ps) fQ))),Pat.agg [Grp.cls (Dx.q (jv t).1 4)]]=[pL w.1.size 98 (cL ps),pQ (nq t) 4],[Pat.one (Grp.cls (Dx.ls (lst w.1.size 98 8 (cL ps) fQ))),Pat.one (Grp.cls (Dx.ls (lst w.1.size 103 8 (cV as') fQ))),Pat.agg [Grp.cls (Dx.q (jv t).1 4)]]=[pL w.1.size 98 (cL ps),pL w.1.size 103 (cV as'),pQ (nq t) 4],decide (jg 0=0)=true,decide (jg 0=0)=true,([]:List (Pat Dx))=[],Value.bool true=Value.bool true]):=by kernel_rfl
theorem lwc {w:World}(lo1 lo2:Nat) (ps as':List P3) (t:Tx) (b:Bool):runR w ⟨[(3,92,true),(3,97,true)],[],exVE w.heap.size lo1 lo2 ps as' t false false vNo vNo⟩ 3 137 Tryz.f3 kMovingValues3_ (stA [kv lo1 lo2 ps as' t]) (rB true)=some (.ret,[[Pat.agg [Grp.cls (Dx.ls (lst 0 lo1 3 ps f3)),Grp.cls (Dx.ls (lst 0 lo2 3 as' f3)),Grp.lit (str t)]]=[kv lo1 lo2 ps as' t],[Pat.agg [Grp.cls (Dx.ls (lst 0 lo1 3 ps f3)),Grp.cls (Dx.ls (lst 0 lo2 3 as' f3)),Grp.lit (str t)]]=[kv lo1 lo2 ps as' t],[Pat.agg [Grp.cls (Dx.ls (lst 0 lo1 3 ps f3)),Grp.cls (Dx.ls (lst 0 lo2 3 as' f3)),Grp.lit (str t)]]=[kv lo1 lo2 ps as' t],List.length t<=60,List.length t<=60,[Pat.one (Grp.cls (Dx.ls (lst w.1.size 100 6 (cL ps) fR)))]=[pM w.1.size 100 (cL ps)],[Pat.one (Grp.cls (Dx.ls (lst w.1.size 105 6 (cV as') fR)))]=[pM w.1.size 105 (cV as')],[Pat.one (Grp.cls (Dx.ls (lst w.1.size 98 8 (cL ps) fQ)))]=[pL w.1.size 98 (cL ps)],[Pat.one (Grp.cls (Dx.ls (lst w.1.size 103 8 (cV as') fQ)))]=[pL w.1.size 103 (cV as')],[Pat.one (Grp.cls (Dx.ls (lst w.1.size 98 8 (cL ps) fQ)))]=[pL w.1.size 98 (cL ps)],[Pat.one (Grp.cls (Dx.ls (lst w.1.size 103 8 (cV as') fQ)))]=[pL w.1.size 103 (cV as')],[Pat.one (Grp.cls (Dx.ls (lst w.1.size 98 8 (cL ps) fQ))),Pat.agg [Grp.cls (Dx.q (jv t).1 4)]]=[pL w.1.size 98 (cL ps),pQ (nq t) 4],[Pat.one (Grp.cls (Dx.ls (lst w.1.size 98 8 (cL ps) fQ))),Pat.one (Grp.cls (Dx.ls (lst w.1.size 103 8 (cV as') fQ))),Pat.agg [Grp.cls (Dx.q (jv t).1 4)]]=[pL w.1.size 98 (cL ps),pL w.1.size 103 (cV as'),pQ (nq t) 4],decide (jg 0=0)=true,decide (jg 0=0)=true,([]:List (Pat Dx))=[],Value.bool true=Value.bool true]):=by kernel_rfl
theorem lwd {w:World}(lo1 lo2:Nat) (ps as':List P3) (t:Tx):runR w ⟨[(3,109,true),(3,119,true)],[],exT w.heap.size lo1 lo2 ps as' t false vNo⟩ 3 137 Tryz.f3 kMovingValues3_ (stA [kv lo1 lo2 ps as' t]) (rB true)=some (.ret,[[Pat.agg [Grp.cls (Dx.ls (lst 0 lo1 3 ps f3)),Grp.cls (Dx.ls (lst 0 lo2 3 as' f3)),Grp.lit (str t)]]=[kv lo1 lo2 ps as' t],[Pat.agg [Grp.cls (Dx.ls (lst 0 lo1 3 ps f3)),Grp.cls (Dx.ls (lst 0 lo2 3 as' f3)),Grp.lit (str t)]]=[kv lo1 lo2 ps as' t],[Pat.agg [Grp.cls (Dx.ls (lst 0 lo1 3 ps f3)),Grp.cls (Dx.ls (lst 0 lo2 3 as' f3)),Grp.lit (str t)]]=[kv lo1 lo2 ps as' t],List.length t<=60,List.length t<=60,[Pat.one (Grp.cls (Dx.ls (lst w.1.size 100 6 (cL ps) fR)))]=[pM w.1.size 100 (cL ps)],[Pat.one (Grp.cls (Dx.ls (lst w.1.size 105 6 (cV as') fR)))]=[pM w.1.size 105 (cV as')],[Pat.one (Grp.cls (Dx.ls (lst w.1.size 98 8 (cL ps) fQ)))]=[pL w.1.size 98 (cL ps)],[Pat.one (Grp.cls (Dx.ls (lst w.1.size 103 8 (cV as') fQ)))]=[pL w.1.size 103 (cV as')],[Pat.one (Grp.cls (Dx.ls (lst w.1.size 103 8 (cV as') fQ)))]=[pL w.1.size 103 (cV as')],[Pat.one (Grp.cls (Dx.ls (lst w.1.size 98 8 (cL ps) fQ))),Pat.agg [Grp.cls (Dx.q (jv t).1 4)]]=[pL w.1.size 98 (cL ps),pQ (nq t) 4],[Pat.one (Grp.cls (Dx.ls (lst w.1.size 98 8 (cL ps) fQ))),Pat.one (Grp.cls (Dx.ls (lst w.1.size 103 8 (cV as') fQ))),Pat.agg [Grp.cls (Dx.q (jv t).1 4)]]=[pL w.1.size 98 (cL ps),pL w.1.size 103 (cV as'),pQ (nq t) 4],[Pat.one (Grp.cls (Dx.ls (lst w.1.size 100 6 (cL ps) fR))),Pat.agg [Grp.cls (Dx.rq (jv t).1 4)]]=[pM w.1.size 100 (cL ps),pR (nq t) 4],decide (kS (cL ps) (nq t)=kS (cL ps) (nq t))=true,64+64<=1000000,decide (jg 0=0)=true,([]:List (Pat Dx))=[],Value.bool true=Value.bool true]):=by kernel_rfl
theorem lwe {w:World}(lo1 lo2:Nat) (ps as':List P3) (t:Tx):runR w ⟨[(3,109,true),(3,132,true)],[],exTT w.heap.size lo1 lo2 ps as' t⟩ 3 137 Tryz.f3 kMovingValues3_ (stA [kv lo1 lo2 ps as' t]) (rB true)=some (.ret,[[Pat.agg [Grp.cls (Dx.ls (lst 0 lo1 3 ps f3)),Grp.cls (Dx.ls (lst 0 lo2 3 as' f3)),Grp.lit (str t)]]=[kv lo1 lo2 ps as' t],[Pat.agg [Grp.cls (Dx.ls (lst 0 lo1 3 ps f3)),Grp.cls (Dx.ls (lst 0 lo2 3 as' f3)),Grp.lit (str t)]]=[kv lo1 lo2 ps as' t],[Pat.agg [Grp.cls (Dx.ls (lst 0 lo1 3 ps f3)),Grp.cls (Dx.ls (lst 0 lo2 3 as' f3)),Grp.lit (str t)]]=[kv lo1 lo2 ps as' t],List.length t<=60,List.length t<=60,[Pat.one (Grp.cls (Dx.ls (lst w.1.size 100 6 (cL ps) fR)))]=[pM w.1.size 100 (cL ps)],[Pat.one (Grp.cls (Dx.ls (lst w.1.size 105 6 (cV as') fR)))]=[pM w.1.size 105 (cV as')],[Pat.one (Grp.cls (Dx.ls (lst w.1.size 98 8 (cL ps) fQ)))]=[pL w.1.size 98 (cL ps)],[Pat.one (Grp.cls (Dx.ls (lst w.1.size 103 8 (cV as') fQ)))]=[pL w.1.size 103 (cV as')],[Pat.one (Grp.cls (Dx.ls (lst w.1.size 98 8 (cL ps) fQ))),Pat.agg [Grp.cls (Dx.q (jv t).1 4)]]=[pL w.1.size 98 (cL ps),pQ (nq t) 4],[Pat.one (Grp.cls (Dx.ls (lst w.1.size 98 8 (cL ps) fQ))),Pat.one (Grp.cls (Dx.ls (lst w.1.size 103 8 (cV as') fQ))),Pat.agg [Grp.cls (Dx.q (jv t).1 4)]]=[pL w.1.size 98 (cL ps),pL w.1.size 103 (cV as'),pQ (nq t) 4],[Pat.one (Grp.cls (Dx.ls (lst w.1.size 100 6 (cL ps) fR))),Pat.agg [Grp.cls (Dx.rq (jv t).1 4)]]=[pM w.1.size 100 (cL ps),pR (nq t) 4],decide (kS (cL ps) (nq t)=kS (cL ps) (nq t))=true,64+64<=1000000,[Pat.one (Grp.cls (Dx.ls (lst w.1.size 100 6 (cL ps) fR))),Pat.one (Grp.cls (Dx.ls (lst w.1.size 105 6 (cV as') fR))),Pat.agg [Grp.cls (Dx.rq (jv t).1 4)]]=[pM w.1.size 100 (cL ps),pM w.1.size 105 (cV as'),pR (nq t) 4],decide (efs (cL ps) (cV as') (nq t) (cV as').length=efs (cL ps) (cV as') (nq t) (cV as').length)=true,204*(cV as').length+1+(204*(cV as').length+1)<=1000000,([]:List (Pat Dx))=[],Value.bool true=Value.bool true]):=by kernel_rfl
theorem values_ok (hN:cM) (lo1 lo2:Nat) (ps as':List P3) (t:Tx):uB 3 [kv lo1 lo2 ps as' t] (fun _=>rB true):=by
 intro w vs hG hp;have fin:∀ {ex:List (Nat×Con)},CU true w.heap.size w ex->((∀ o:Opt,o.ex=ex->KF (W0 w) (TY o))->∀ a,At (W0 w) 137 (stA [kv lo1 lo2 ps as' t]) a w->after Fence.wide 0 Tryz.prog [.code (codeOf Tryz.f3)] (Ret (W0 w) Tryz.f3 (Res (W0 w) (rB true))) .normal a w)->Enters Tryz.prog 3/\Calls Tryz.prog 3 vs.toArray w (fun en w'=>∃ v,en=.returned v/\Res (W0 w) (rB true) v w'):=fun hE hw =>
  uq hG hN hE (fn:=Tryz.f3) Tryz.func3 (c:=codeOf Tryz.f3) (by kernel_rfl) (args:=[kv lo1 lo2 ps as' t]) (by kernel_rfl) hp hw
 rcases eq_false_or_eq_true (jw ps as' t) with hw|hw
 ·refine fin (exK_ok (lo1:=lo1) (lo2:=lo2) hN hG (le_refl _) hw) (fun hR a hA=>?_);refine Gy (lwa lo1 lo2 ps as' t) (hR _ rfl) hA
 obtain⟨h1,h2,h3,h4,h5⟩:=zW hw;have h6:(cL ps).length<=1000:=by simp only[cL,length_map];omega
 have h7:(cV as').length<=1000:=by simp only[cV,length_map];omega
 have s0:decide (jg 0=0)=true:=decide_eq_true (cbg.2 rfl);rcases eq_false_or_eq_true (okL (cL ps)) with ha|ha
 ·rcases eq_false_or_eq_true (okV (cV as')) with hb|hb
  ·refine fin (exTT_ok (lo1:=lo1) (lo2:=lo2) hN hG (le_refl _) hw ha hb) (fun hR a hA=>?_);refine Gy (lwe lo1 lo2 ps as' t) (hR _ rfl) hA
  ·refine fin (exT_ok (lo1:=lo1) (lo2:=lo2) hN hG (le_refl _) hw ha hb (chY hN hG (le_refl _) hw ha hb)) (fun hR a hA=>?_);refine Gy (lwd lo1 lo2 ps as' t) (hR _ rfl) hA
 ·rcases eq_false_or_eq_true (okV (cV as')) with hb|hb
  ·refine fin (cgV (lo1:=lo1) (lo2:=lo2) hN hG (le_refl _) hw ha hb) (fun hR a hA=>?_);refine Gy (lwb lo1 lo2 ps as' t true) (hR _ rfl) hA
  ·refine fin (cgV (lo1:=lo1) (lo2:=lo2) hN hG (le_refl _) hw ha hb) (fun hR a hA=>?_);refine Gy (lwc lo1 lo2 ps as' t true) (hR _ rfl) hA
end Pe
open Go.ChangeShapes Go.WideShapes Go.ChangeAt Go.ChangeMaps
namespace Pe
theorem row_off {P:Program}{fits:TypeId->Bool}{e:TypeId}{count off n:Nat}:∀ {d:Nat},rowAt P fits d e count off n=true->off<=count*P.cellsOf e
 |0,h=>by simp [rowAt] at h
 |d+1,h=>by
  unfold rowAt at h;simp only at h;split at h
  ·cases h
  ·rename_i hs;have hs:0<P.cellsOf e:=by omega
   have hm:=div_add_mod off (P.cellsOf e);have hr:=mod_lt off hs;have key:off/P.cellsOf e+1<=count->off<=count*P.cellsOf e:=fun hc=>by
    have:=mul_le_mul_right (P.cellsOf e) hc;rw[add_mul,one_mul,mul_comm] at this;omega
   rw[or_eq_true] at h;rcases h with h|h
   ·simp only[and_eq_true,beq_iff_eq,decide_eq_true_eq] at h;obtain⟨⟨h1,h2⟩,_⟩:=h;have:=mul_le_mul_right (P.cellsOf e) (show off/P.cellsOf e<=count by omega);rw[mul_comm] at this;omega
   ·rw[and_eq_true] at h;exact key (of_decide_eq_true h.1)
theorem cdy {P:Program}{e:TypeId}{count off:Nat}:∀ {d:Nat}{u:TypeId}{n:Nat},liesAt P d e count off u n=true->off<=count*P.cellsOf e
 |0,u,n,h=>by simp [liesAt] at h
 |d+1,u,n,h=>by
  unfold liesAt at h;rw[or_eq_true] at h;rcases h with h|h
  ·exact row_off h
  ·split at h
   ·exact cdy h
   ·cases h
theorem cia {P:Program}{W:World}{r:Reach}{base:Nat}{a:Addr}{e:TypeId}{n:Nat}(h:W.has P r base a e n):a.spot=none/\∃ arr row fr,W.heap[a.block]?=some (.cells arr row fr)/\a.off<=arr.size:=by
 obtain⟨_,h1,row,cells,h2,h3⟩:=h;refine⟨h1,?_⟩;unfold World.shape? at h2;split at h2
 ·rename_i c el fr hb;injection h2 with h2;injection h2 with h4 h5;subst h4;subst h5
  exact⟨c,el,fr,hb,le_trans (cdy h3) (Nat.div_mul_le_self _ _)⟩
 ·cases h2
theorem ls_of3 {W:World}{k off len cap row:Nat}{arr:Array Value}{fr:Nat×Nat}(hk:W.heap[k]?=some (.cells arr row fr)) (ho:off<=arr.size) (hc:len<=cap)
 (h:∀ i,i<len->∃ x:P3,∀ j u,[str x.1,str x.2.1,str x.2.2][j]?=some u->W.cell? ⟨k,off+(i*3+j),none⟩=some u):∃ xs:List P3,xs.length=len/\DIs W (.ls (lst 0 row 3 xs f3)) [.slice (some ⟨k,off,none⟩) len cap]:=by
 obtain⟨f,hf⟩:=Deep.choose_lt h;have hg:∀ i,i<len->∀ j u,[str (f i).1,str (f i).2.1,str (f i).2.2][j]?=some u->arr.toList[off+(i*3+j)]?=some u:=fun i hi j u hj=>by
  have:=hf i hi j u hj;simp only[World.cell?,hk] at this;simpa using this
 have hlen:off+len*3<=arr.toList.length:=by
  rcases eq_zero_or_pos len with rfl|hp
  ·simpa using ho
  ·have:=hg (len-1) (by omega) 2 _ rfl;have:=(List.getElem?_eq_some_iff.1 this).1;omega
 have hvs:∀ n,n<len*3->((arr.toList.drop off).take (len*3))[n]?=arr.toList[off+n]?:=fun n hn=>by
  rw[List.getElem?_take_of_lt hn,List.getElem?_drop]
 refine⟨(List.range len).map f,by simp,?_⟩;have hL:(lst 0 row 3 ((List.range len).map f) f3).n=len:=by simp [lst]
 have:=DIs.ls (w:=W) (L:=lst 0 row 3 ((List.range len).map f) f3) k off cap arr (arr.toList.take off) ((arr.toList.drop off).take (len*3)) ((arr.toList.drop off).drop (len*3)) (by rw[hL];exact hc) ⟨fr,hk⟩
  (by rw[append_assoc,take_append_drop,take_append_drop]) (by rw[length_take];omega) (by rw[hL,length_take,length_drop];show _=len*3;omega) (zero_le _) ?_ ?_
 ·rw[hL] at this;exact this
 ·intro v hv;obtain⟨n,he⟩:=List.mem_iff_getElem?.1 hv;have hn:=(List.getElem?_eq_some_iff.1 he).1;have hn:n<len*3:=by rw[length_take] at hn;omega
  rw[hvs n hn] at he;have h3:n=n/3*3+n%3:=by omega
  have hj:n%3<3:=mod_lt _ (by omega);obtain⟨u,hu,hone⟩:∃ u,[str (f (n/3)).1,str (f (n/3)).2.1,str (f (n/3)).2.2][n%3]?=some u/\u.oneCell'=true:=by
   match n%3,hj with
   |0,_=>exact⟨_,rfl,rfl⟩
   |1,_=>exact⟨_,rfl,rfl⟩
   |2,_=>exact⟨_,rfl,rfl⟩
  have:=hg (n/3) (by omega) (n%3) u hu;rw[← h3,he] at this;injection this with this
  rw[this];exact hone
 ·intro j hj;rw[hL] at hj;have hx:(lst 0 row 3 ((List.range len).map f) f3).g j=f3 (f j):=by
   show f3 (((List.range len).map f).getD j default)=_;rw[List.getD_eq_getElem?_getD,List.getElem?_map,List.getElem?_range hj];rfl
  rw[hx];have he:(((arr.toList.drop off).take (len*3)).drop (j*3)).take 3=[str (f j).1,str (f j).2.1,str (f j).2.2]:=by
   apply List.ext_getElem?;intro q;rcases lt_or_ge q 3 with hq|hq
   ·rw[List.getElem?_take_of_lt hq,List.getElem?_drop,hvs _ (by omega)];obtain⟨u,hu⟩:∃ u,[str (f j).1,str (f j).2.1,str (f j).2.2][q]?=some u:=⟨_,List.getElem?_eq_getElem (by simpa using hq)⟩;rw[hu];exact hg j hj q u hu
   ·rw[List.getElem?_eq_none (by rw[length_take];omega),List.getElem?_eq_none (by simpa using hq)]
  show GsI W (f3 (f j)) ((((arr.toList.drop off).take (len*3)).drop (j*3)).take 3);rw[he];exact .lit (.lit (.lit .nil))
section
variable {H:Type}{enc:TypeId×Value->H}{W:World}{base:Nat}
set_option maxRecDepth 100000 in
theorem cfV {T sp held}{n:Nat}{cs:List Value}{x:DataW H×List MemPlace}(hT:T=113\/T=115) (h:DataW.trod enc Tryz.prog W 0 sp held n T cs=some x):∃ s t u:ByteArray,cs=[.string s,.string t,.string u]:=by
 rcases hT with rfl|rfl
 ·obtain⟨xs,n,_,rfl,hl,hlen,hf⟩:=DataW.trod_struct Tryz.underlying113 h
  match xs,hlen with
  |[x0,x1,x2],_ =>
   have f0:=hf 0 _ rfl;have f1:=hf 1 _ rfl;have f2:=hf 2 _ rfl;obtain⟨s,e0,_⟩:=DataW.trod_string Tryz.underlying9 f0;obtain⟨t,e1,_⟩:=DataW.trod_string Tryz.underlying9 f1;obtain⟨u,e2,_⟩:=DataW.trod_string Tryz.underlying9 f2;have hl:cs.length=3:=hl.trans (by kernel_rfl)
   match cs,hl with
   |[c0,c1,c2],_ =>
    have e0:[c0]=[Value.string s]:=e0;have e1:[c1]=[Value.string t]:=e1;have e2:[c2]=[Value.string u]:=e2;injection e0 with e0
    injection e1 with e1
    injection e2 with e2
    exact⟨s,t,u,by rw[e0,e1,e2]⟩
 ·obtain⟨xs,n,_,rfl,hl,hlen,hf⟩:=DataW.trod_struct Tryz.underlying115 h
  match xs,hlen with
  |[x0,x1,x2],_ =>
   have f0:=hf 0 _ rfl;have f1:=hf 1 _ rfl;have f2:=hf 2 _ rfl;obtain⟨s,e0,_⟩:=DataW.trod_string Tryz.underlying9 f0;obtain⟨t,e1,_⟩:=DataW.trod_string Tryz.underlying9 f1;obtain⟨u,e2,_⟩:=DataW.trod_string Tryz.underlying9 f2;have hl:cs.length=3:=hl.trans (by kernel_rfl)
   match cs,hl with
   |[c0,c1,c2],_ =>
    have e0:[c0]=[Value.string s]:=e0;have e1:[c1]=[Value.string t]:=e1;have e2:[c2]=[Value.string u]:=e2;injection e0 with e0
    injection e1 with e1
    injection e2 with e2
    exact⟨s,t,u,by rw[e0,e1,e2]⟩
set_option maxRecDepth 100000 in
theorem caL {T S:TypeId}(hS:Tryz.prog.underlying S=some (.slice T)) (hT:T=113\/T=115) {c:Value}(hok:Cell.okWide Tryz.prog W .any base S c) {fuel:Nat}{x:DataW H×List MemPlace}(h:DataW.trod enc Tryz.prog W 0 (fun _=>true) true fuel S [c]=some x):∃ (row:Nat) (xs:List P3),DIs W (.ls (lst 0 row 3 xs f3)) [c]:=by
 rcases Deep.open_slice hS h with⟨h0,_⟩|⟨a,len,cap,m,n,D,Pl,h0,_,hl,hm,hmm,_,hc⟩
 ·injection h0 with h0;subst h0
  exact⟨0,[],.nil rfl⟩
 ·injection h0 with h0;subst h0
  simp only[Cell.okWide,hS,Cell.ok] at hok;obtain⟨_,_,hh⟩:=hok;obtain⟨hs,arr,row,fr,hb,ho⟩:=cia hh;obtain⟨k,off,sp⟩:=a;have hs:sp=none:=hs;subst hs;have hz:Tryz.prog.cellsOf T=3:=by rcases hT with rfl|rfl<;>kernel_rfl
  rw[hz] at hc;obtain⟨xs,_,hx⟩:=ls_of3 (cap:=cap) hb ho hl (fun i hi=>by
   obtain⟨cs,hci,htr⟩:=hc i (by rw[hmm];simp;omega);obtain⟨s,t,u,rfl⟩:=cfV hT htr;obtain⟨_,_,hcell⟩:=World.cells?_some hci;refine⟨(s.data.toList,t.data.toList,u.data.toList),fun j v hj=>?_⟩;have hj3:j<3:=(List.getElem?_eq_some_iff.1 hj).1;have:=hcell j hj3;rw[jA,jA] at this;rw[← add_assoc];rw[this];exact hj)
  exact⟨row,xs,hx⟩
set_option maxRecDepth 100000 in
theorem open_pass {v:Value}{d:DataW H}{p:List MemPlace}(hv:Value.okWide Tryz.prog W .any base 25 v) (hT:DataW.Trod enc Tryz.prog W 0 (fun _=>true) true 25 v d p):∃ r1 r2 ps as' t,cX (W0 W) W [kv r1 r2 ps as' t] [v]:=by
 simp only[Value.okWide,Tryz.underlying25] at hv;obtain⟨cs,rfl,hsz,ts,hts,_,hrow⟩:=hv;have hts2:Tryz.prog.cellTypes Tryz.prog.depth 25=some [22,23,9]:=by kernel_rfl
 rw[hts2] at hts;injection hts with hts
 subst hts;obtain⟨fuel,hf⟩:=hT;have hf:DataW.trod enc Tryz.prog W 0 (fun _=>true) true fuel 25 cs.toList=some (d,p):=hf;obtain⟨xs,n,_,_,hl,hlen,hf⟩:=DataW.trod_struct Tryz.underlying25 hf
 match xs,hlen with
 |[x0,x1,x2],_ =>
  have f0:=hf 0 _ rfl;have f1:=hf 1 _ rfl;have f2:=hf 2 _ rfl;have hl:cs.toList.length=3:=hl.trans (by kernel_rfl);obtain⟨c0,c1,c2,rfl⟩:∃ c0 c1 c2,cs=#[c0,c1,c2]:=by
   obtain⟨l⟩:=cs
   match l,hl with
   |[c0,c1,c2],_=>exact⟨c0,c1,c2,rfl⟩
  obtain⟨s,e2,_⟩:=DataW.trod_string Tryz.underlying9 f2;have e2:[c2]=[Value.string s]:=e2;injection e2 with e2
  subst e2;obtain⟨u0,hu0,k0⟩:=hrow 0 c0 rfl;obtain⟨u1,hu1,k1⟩:=hrow 1 c1 rfl;injection hu0 with hu0;subst hu0
  injection hu1 with hu1;subst hu1
  obtain⟨r1,ps,h1⟩:=caL (S:=22) (T:=113) Tryz.underlying22 (.inl rfl) k0 f0;obtain⟨r2,as',h2⟩:=caL (S:=23) (T:=115) Tryz.underlying23 (.inr rfl) k1 f1;exact⟨r1,r2,ps,as',s.data.toList,_,[],rfl,⟨[c0,c1,.string s],UM (.cls h1 (.cls h2 (.lit .nil))),rfl⟩,rfl⟩
end
end Pe
end Go.Proofs.YtolcmngcebnjdaaGreatDoor
