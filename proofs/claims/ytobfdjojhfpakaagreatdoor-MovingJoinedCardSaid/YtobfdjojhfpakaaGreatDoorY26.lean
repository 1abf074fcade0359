/- Part 26. -/
import Derived.Test.YtobfdjojhfpakaaGreatDoorY25
set_option linter.all false
open Bool (eq_false_or_eq_true)
open Nat (add_sub_cancel beq_refl eq_of_beq_eq_true le_refl not_lt_zero zero_le)
noncomputable section

namespace Go.Proofs.YtobfdjojhfpakaaGreatDoor
open Go Go.RowKit Go.Proofs Lim
namespace Pe
noncomputable def kQ112_:List Kp:=[.code (codeOf Tryz.f112)]
noncomputable def kQ112_n:List Kp:=next kQ112_
noncomputable def kQ112_nl:List Kp:=[.code (uw kQ112_n)]
noncomputable def kQ56_:List Kp:=[.code (codeOf Tryz.f56)]
noncomputable def kLanes18_:List Kp:=[.code (codeOf Tryz.f18)]
noncomputable def kQ112_nt:List Kp:=kQ112_n.tail
noncomputable def kLanes18_n:List Kp:=next kLanes18_
noncomputable def kLanes18_nl:List Kp:=[.code (uw kLanes18_n)]
noncomputable def kLanes18_nt:List Kp:=kLanes18_n.tail
noncomputable def kLanes18_ntn:List Kp:=next kLanes18_nt
noncomputable def kLanes18_ntnl:List Kp:=[.code (uw kLanes18_ntn)]
noncomputable def kLanes18_ntnt:List Kp:=kLanes18_ntn.tail
noncomputable def conBt:Con:=q2 fun r j s k=>ck false (k<=j/\j<=1000000) (sr (jm r [s]) j (cL r [s]) j)
noncomputable def conHu:Con:=s2 fun a i b j c k d l=>ck false (j<=i/\l<=k/\i+k<=1000000) (sr (jm a [b,c,d]) (i+k) (cL a [b,c,d]) (i+k))
theorem cgh {r:Rat}{rs:List Rat}{k:Nat}(h:Siz r k) (hs:∀ x∈rs,Siz x k):Siz (jm r rs) k:=by
 rcases Wb r rs with e|e
 ·rw[e];exact h
 ·exact hs _ e
theorem ceo {r:Rat}{rs:List Rat}{k:Nat}(h:Siz r k) (hs:∀ x∈rs,Siz x k):Siz (cL r rs) k:=by
 rcases KB r rs with e|e
 ·rw[e];exact h
 ·exact hs _ e
theorem KJ {lo:Nat}{w0:World}:∀ l r ob,conBt l=some (r,ob)->cV ob->cO (Cx true lo w0) (.call 30) l r:=by
 intro l res ob h ho;refine UL h (enters_of Tryz.func30 (by kernel_rfl) rfl) (fun r j s k h w v1 v2 hb a1 z1 a2 z2=>?_);obtain⟨hk,rfl⟩:=yk h ho;have y1:Siz r j:=z1;have y2:∀ x∈[s],Siz x j:=by intro x hx;simp at hx;subst hx;exact z2.le (by omega)
 exact(cdP v1 v2 r s j w a1 a2 y1 (z2.le (by omega)) (by omega)).mono fun _ _ h=>res_s (cgh y1 y2) (ceo y1 y2) h
theorem cec {lo:Nat}{w0:World}:∀ l r ob,conHu l=some (r,ob)->cV ob->cO (Cx true lo w0) (.call 60) l r:=by
 intro l res ob h ho;refine ent_s2 h (enters_of Tryz.func60 (by kernel_rfl) rfl) (fun a i b j c k d l h w v1 v2 hb a1 z1 z2 a2 z3 z4=>?_);obtain⟨hk,rfl⟩:=yk h ho;have y1:Siz a (i+k):=z1.le (by omega);have y2:∀ x∈[b,c,d],Siz x (i+k):=by intro x hx;simp at hx;rcases hx with rfl|rfl|rfl;exact z2.le (by omega);exact z3.le (by omega);exact z4.le (by omega)
 exact(cjL v1 v2 a b c d (i+k) w a1 a2 y1 (z2.le (by omega)) (z3.le (by omega)) (z4.le (by omega)) (by omega)).mono fun _ _ h=>res_s (cgh y1 y2) (ceo y1 y2) h
abbrev f1 (r:Rat):List (Grp Dx):=[.cls (.q r 4)]
abbrev pFs (lo:Nat) (F:List Rat):Pat Dx:=.one (.cls (.ls (lst lo 32 4 F f1)))
abbrev pLn (lo:Nat) (X:List R2):Pat Dx:=.one (.cls (.ls (lst lo 44 8 X fQ)))
abbrev bdN (F:List Rat) (i:Nat):Bool:=decide (jA (F.getD i default)<0)
def exNg:List (Nat×Con):=[(57,Ki)]
abbrev inI (lo:Nat) (L:List Rat) (i:Nat):St Dx:=⟨1,[(0,.val (.one (.sym 0 0))),(1,.val (.one (.lit (.func (.func 57) #[] #[])))),(7,.val (.one (.lit (ii (L.length:Int))))),(8,.val (.one (.lit (ii (i:Int)))))],[(0,.cls (.ls (lst lo 32 4 L f1)))],[]⟩
theorem ina {w:World}(lo:Nat) (L:List Rat):run w ⟨[],[],exNg⟩ 112 19 kQ112_ (stA [pFs lo L,pF 57]) (inI lo L 0)=some (.normal,[cK (W0 w) (.ls (lst lo 32 4 L f1)) (.ls (lst lo 32 4 L f1)),Value.func (Fn.func 57) #[] #[]=Value.func (Fn.func 57) #[] #[],ii (L.length:Int)=goInt (L.length:Int),ii (↑0:Int)=Value.int IntKind.i64 0]):=by kernel_rfl
theorem ine {w:World}(lo:Nat) (L:List Rat) (i:Nat):runR w ⟨[],[],exNg⟩ 112 19 Tryz.f112 kQ112_nt (inI lo L i) (rI (ixP L.length (bdN L)))=some (.ret,[Value.int IntKind.i64 (ixP L.length (bdN L))=Value.int IntKind.i64 (-1)]):=by kernel_rfl
noncomputable abbrev inbTe0 (w:World) (l0:Nat) (L:List Rat) (i:Nat) (o:List (Nat×Nat×Bool)):=run w ⟨o,[],exNg⟩ 112 19 kQ112_nl (inI l0 L i) (inI l0 L i)
noncomputable abbrev inbTnal (w:World) (l0:Nat) (L:List Rat) (i:Nat) (o:List (Nat×Nat×Bool)):=run w ⟨o,[],exNg⟩ 112 19 kQ112_nl (inI l0 L i) (inI l0 L (i+1))
noncomputable abbrev inbR (w:World) (l0:Nat) (L:List Rat) (i:Nat) (o:List (Nat×Nat×Bool)):=runR w ⟨o,[],exNg⟩ 112 19 Tryz.f112 kQ112_nl (inI l0 L i) (rI (ixP L.length (bdN L)))
theorem inb0 {w:World}(l0:Nat) (L:List Rat) (i:Nat):inbR w l0 L i [(112,9,true),(112,16,true)]=some (.ret,[decide ((i:Int)<(L.length:Int))=true,i<L.length,i<L.length,decide (jA (L.getD i default)<0)=true,Value.int IntKind.i64 (ixP L.length (bdN L))=ii (i:Int)]):=by kernel_rfl
theorem inb1 {w:World}(l0:Nat) (L:List Rat) (i:Nat):inbTnal w l0 L i [(112,9,true),(112,16,false)]=some (.normal,[decide ((i:Int)<(L.length:Int))=true,i<L.length,i<L.length,decide (jA (L.getD i default)<0)=false,jQ ((i:Int)+1),cK (W0 w) (.ls (lst l0 32 4 L f1)) (.ls (lst l0 32 4 L f1)),Value.func (Fn.func 57) #[] #[]=Value.func (Fn.func 57) #[] #[],ii (L.length:Int)=ii (L.length:Int),ii (↑(i+1):Int)=Value.int IntKind.i64 ((i:Int)+1)]):=by kernel_rfl
theorem inb2 {w:World}(l0:Nat) (L:List Rat) (i:Nat):inbTe0 w l0 L i [(112,9,false)]=some (.exit 0,[decide ((i:Int)<(L.length:Int))=false,cK (W0 w) (.ls (lst l0 32 4 L f1)) (.ls (lst l0 32 4 L f1)),Value.func (Fn.func 57) #[] #[]=Value.func (Fn.func 57) #[] #[],ii (L.length:Int)=ii (L.length:Int),ii (i:Int)=ii (i:Int)]):=by kernel_rfl
theorem ixN_ok (hN:jd) (l0:Nat) (L:List Rat) (hl:L.length<=1000000):zD 112 [pFs l0 L,pF 57] (fun _=>rI (ixP L.length (bdN L))):=by
 intro w vs hG hp;refine yV hG hN (ex:=exNg) (exNeg hN hG (le_refl _)) (fn:=Tryz.f112) Tryz.func112 (c:=codeOf Tryz.f112) (by kernel_rfl) (args:=[pFs l0 L,pF 57]) (by kernel_rfl) hp (fun hR _ hA=>?_);refine uj (ina l0 L) (hR _ rfl) hA (fun a w1 hA=>yv ?_);refine yx (fun i=>inI l0 L i) (fun i=>i<=L.length/\∀ k,k<i->bdN L k=false) (fun i=>L.length-i) (L:=kQ112_n) (ks:=kQ112_nt) (id:=0) (c:=uw kQ112_n) (by kernel_rfl) 0 ⟨zero_le _,by omega⟩ hA (fun i a2 w2 hi hA=>?_);rcases eq_false_or_eq_true (decide ((i:Int)<(L.length:Int))) with q9|q9
 ·skip
  have p9:=of_decide_eq_true q9;rcases eq_false_or_eq_true (bdN L i) with q16|q16
  ·skip
   have e0:=congrArg (Value.int .i64) (cjT (n:=L.length) (p:=bdN L) (i:=i) (by omega) q16 hi.2);refine jK (inb0 l0 L i) (hR _ rfl) hA
  ·skip
   refine uj (inb1 l0 L i) (hR _ rfl) hA (fun aT wT hT=>?_);exact jL (by kernel_rfl) ⟨i+1,⟨by omega,fun k hk=>by rcases Nat.lt_succ_iff_lt_or_eq.1 hk with h|rfl;exact hi.2 k h;exact q16⟩,hT,by omega⟩
 ·skip
  have p9:=of_decide_eq_false q9;refine uj (inb2 l0 L i) (hR _ rfl) hA (fun aT wT hT=>?_);refine kb _ (by kernel_rfl) ?_;refine cey (hR ⟨[],[],exNg⟩ rfl) (.inl rfl) (fun _=>rfl) (fn:=Tryz.f112) (ine l0 L i) ?_ hT (fun _ _ h=>h);exact⟨congrArg (Value.int .i64) (ckb fun k hk=>hi.2 k (by omega)),trivial⟩
abbrev exJN (l0:Nat) (L:List Rat):List (Nat×Con):=[(112,Cy [pFs l0 L,pF 57] (vr (.int .i64 (ixP L.length (bdN L)))))]
theorem exJN_ok {lo l0:Nat}{w0:World}{L:List Rat}(hN:jd) (hG:Gr w0) (hlo:lo<=w0.heap.size) (hl:L.length<=1000000):Cu true lo w0 (exJN l0 L):=jk (Ez ((ixN_ok hN l0 L hl).val hG hlo (enters_of Tryz.func112 (by kernel_rfl) rfl))) jI
noncomputable abbrev cniR (w:World) (l0:Nat) (L:List Rat)  (o:List (Nat×Nat×Bool)):=runR w ⟨o,[],(exJN l0 L)⟩ 56 9 Tryz.f56 kQ56_ (stA [pFs l0 L,pF 57]) (rB (anyP L.length (bdN L)))
theorem cni0 {w:World}(l0:Nat) (L:List Rat):cniR w l0 L [(56,8,true)]=some (.ret,[[Pat.one (Grp.cls (Dx.ls (lst l0 32 4 L f1))),Pat.one (Grp.lit (Value.func (Fn.func 57) #[] #[]))]=[pFs l0 L,pF 57],decide (ixP L.length (bdN L)>=0)=true,Value.bool (anyP L.length (bdN L))=Value.bool true]):=by kernel_rfl
theorem cni1 {w:World}(l0:Nat) (L:List Rat):cniR w l0 L [(56,8,false)]=some (.ret,[[Pat.one (Grp.cls (Dx.ls (lst l0 32 4 L f1))),Pat.one (Grp.lit (Value.func (Fn.func 57) #[] #[]))]=[pFs l0 L,pF 57],decide (ixP L.length (bdN L)>=0)=false,Value.bool (anyP L.length (bdN L))=Value.bool false]):=by kernel_rfl
theorem cdH (hN:jd) (l0:Nat) (L:List Rat) (hl:L.length<=1000000):zD 56 [pFs l0 L,pF 57] (fun _=>rB (anyP L.length (bdN L))):=by
 intro w vs hG hp;refine yV hG hN (ex:=(exJN l0 L)) (exJN_ok hN hG (le_refl _) hl) (fn:=Tryz.f56) Tryz.func56 (c:=codeOf Tryz.f56) (by kernel_rfl) (args:=[pFs l0 L,pF 57]) (by kernel_rfl) hp (fun hR _ hA=>?_);rcases eq_false_or_eq_true (decide (ixP L.length (bdN L)>=0)) with q8|q8
 ·skip
  have p8:=of_decide_eq_true q8
  first|have e0:=congrArg Value.bool (ixP_ge.symm.trans q8)|skip
  refine jK (cni0 l0 L) (hR _ rfl) hA
 ·skip
  have p8:=of_decide_eq_false q8
  first|have e0:=congrArg Value.bool (ixP_ge.symm.trans q8)|skip
  refine jK (cni1 l0 L) (hR _ rfl) hA
abbrev pS2 (r:Rat) (j:Nat) (s:Rat) (k:Nat):Pat Dx:=.agg [.cls (.q r j),.cls (.q s k)]
noncomputable def los (X:List R2):List Rat:=X.map fun x=>jm x.1 [x.2]
noncomputable def his (X:List R2):List Rat:=X.map fun x=>cL x.1 [x.2]
theorem Yb {X:List R2}:(los X).length=X.length:=by simp [los]
theorem Yd {X:List R2}:(his X).length=X.length:=by simp [his]
theorem cce {X:List R2}{f:R2->Rat}{i:Nat}(h:i<X.length):(X.map f).getD i 0=f (X.getD i default):=by
 rw[List.getD_eq_getElem?_getD,List.getElem?_map,List.getD_eq_getElem?_getD,List.getElem?_eq_getElem h];rfl
theorem los_at {X:List R2}{i:Nat}(h:i<X.length) {k:Nat}:[Grp.cls (Dx.q (jm (X.getD i default).1 [(X.getD i default).2]) k)]=fq4 k (los X) i:=by
 show _=[Grp.cls (Dx.q ((los X).getD i 0) k)];rw[los,cce h]
theorem his_at {X:List R2}{i:Nat}(h:i<X.length) {k:Nat}:[Grp.cls (Dx.q (cL (X.getD i default).1 [(X.getD i default).2]) k)]=fq4 k (his X) i:=by
 show _=[Grp.cls (Dx.q ((his X).getD i 0) k)];rw[his,cce h]
noncomputable def lsX (X:List R2):List Rat:=srt cI (los X) X.length
noncomputable def hsX (X:List R2):List Rat:=srt uS (his X) X.length
def pre (xs:List Rat):Nat->Rat
 |0=>0
 |i+1=>pre xs i+xs.getD i 0
noncomputable def spn (xs ys F:List Rat):Nat->Rat×Rat
 |0=>(0,0)
 |i+1=>(jm (spn xs ys F i).1 [(spn xs ys F i).2,jm (pre xs (i+1)*F.getD i default) [pre ys (i+1)*F.getD i default],cL (pre xs (i+1)*F.getD i default) [pre ys (i+1)*F.getD i default]],
  cL (spn xs ys F i).1 [(spn xs ys F i).2,jm (pre xs (i+1)*F.getD i default) [pre ys (i+1)*F.getD i default],cL (pre xs (i+1)*F.getD i default) [pre ys (i+1)*F.getD i default]])
abbrev z4:List AC:=[.lit (.bool false),.lit (.int .u64 0),.lit (.int .u64 0),.lit (.pointer none)]
abbrev z8:List AC:=[.lit (.bool false),.lit (.int .u64 0),.lit (.int .u64 0),.lit (.pointer none),.lit (.bool false),.lit (.int .u64 0),.lit (.int .u64 0),.lit (.pointer none)]
noncomputable abbrev laM (l0 l1:Nat) (X:List R2) (F:List Rat) (n:Nat):Ws Dx:=[(0,.cls (.ls (lst l0 44 8 X fQ))),(1,.cls (.ls (lst l1 32 4 F f1))),(2,.blk 44 z8 none),(3,.gl 32 4 n (fq4 4 (los X))),(4,.gl 32 4 n (fq4 4 (his X)))]
noncomputable abbrev laI (l0 l1:Nat) (X:List R2) (F:List Rat) (i:Nat):St Dx:=⟨5,[(0,.val (.one (.sym 0 0))),(1,.val (.one (.sym 1 0))),(4,.val (.one (.ptr 2 0))),(6,.val (.one (.fn 3))),(7,.val (.one (.fn 4))),(30,.val (.one (.sym 0 0))),(31,.val (.one (.lit (ii (X.length:Int))))),(32,.val (.one (.lit (ii (i:Int)))))],laM l0 l1 X F i,[]⟩
abbrev lbS (n i:Nat):List (Nat×AV):=[(1,.val (.one (.sym 0 0))),(4,.val (.one (.ptr 1 0))),(6,.val (.one (.fn 2))),(7,.val (.one (.fn 3))),(10,.val (.one (.ptr 4 0))),(11,.val (.one (.ptr 5 0))),(12,.val (.one (.ptr 6 0))),(56,.val (.one (.sym 0 0))),(57,.val (.one (.lit (ii (n:Int))))),(58,.val (.one (.lit (ii (i:Int)))))]
noncomputable abbrev lbM (l1:Nat) (xs ys F:List Rat) (n:Nat):Ws Dx:=[(0,.cls (.ls (lst l1 32 4 F f1))),(1,.blk 44 z8 none),(2,.gl 32 4 n (fq4 4 xs)),(3,.gl 32 4 n (fq4 4 ys))]
noncomputable abbrev lb0 (l1:Nat) (xs ys F:List Rat) (n:Nat):St Dx:=⟨7,lbS F.length 0,lbM l1 xs ys F n++[(4,.blk 44 z8 none),(5,.blk 32 z4 none),(6,.blk 32 z4 none)],[]⟩
noncomputable abbrev lb1 (l1:Nat) (xs ys F:List Rat) (n i:Nat):St Dx:=⟨11,lbS F.length i,lbM l1 xs ys F n++[(4,.blk 44 [.sym 7 0,.sym 7 1,.sym 7 2,.sym 7 3,.sym 8 0,.sym 8 1,.sym 8 2,.sym 8 3] none),(5,.blk 32 [.sym 9 0,.sym 9 1,.sym 9 2,.sym 9 3] none),(6,.blk 32 [.sym 10 0,.sym 10 1,.sym 10 2,.sym 10 3] none),(7,.cls (.q (spn xs ys F i).1 (200*i+1))),(8,.cls (.q (spn xs ys F i).2 (200*i+1))),(9,.cls (.q (pre xs i) (10*i+1))),(10,.cls (.q (pre ys i) (10*i+1)))],[]⟩
noncomputable abbrev exB:List (Nat×Con):=[(30,conBt),(60,conHu)]
theorem exB_ok {lo:Nat}{w0:World}:Cu true lo w0 exB:=jk KJ (jk cec jI)
def cex (cf:Nat) (A B:Con):Con:=fun l=>match l with
 |[_,.one (.lit (.func (.func c) _ _))]=>match Nat.beq c cf with
  |true=>A l
  |false=>B l
 |_=>none
theorem chD {C:Ctx Dx}{hd:Hd}{cf:Nat}{A B:Con}(hA:∀ l r ob,A l=some (r,ob)->cV ob->cO C hd l r) (hB:∀ l r ob,B l=some (r,ob)->cV ob->cO C hd l r):∀ l r ob,cex cf A B l=some (r,ob)->cV ob->cO C hd l r:=by
 intro l r ob h ho;unfold cex at h;split at h
 ·split at h
  ·exact hA _ _ _ h ho
  ·exact hB _ _ _ h ho
 ·cases h
noncomputable abbrev exSo (lo:Nat) (X:List R2):List (Nat×Con):=[(1000000+58,cex 49 (Cy (.one (.cls (.ls ⟨lo,32,4,X.length,fq4 4 (los X)⟩))::jC [vF 49]) (.val (.one (.cls (.ls ⟨lo,32,4,X.length,fq4 4 (lsX X)⟩))))) (Cy (.one (.cls (.ls ⟨lo,32,4,X.length,fq4 4 (his X)⟩))::jC [vF 59]) (.val (.one (.cls (.ls ⟨lo,32,4,X.length,fq4 4 (hsX X)⟩))))))]
theorem cgM (hN:jd) {w:World}(hG:Gr w) {X:List R2}(h1:1<=X.length) (h2:X.length<=8):Cu true w.heap.size w (exSo w.heap.size X):=by
 refine GP (chD (Cp ?_) (Cp ?_)) jI
 ·have h:=sA_sort hN hG w.heap.size 4 (los X) (by omega) (by rw[Yb];omega) (by rw[Yb];omega);rw[Yb] at h;exact h
 ·have h:=sB_sort hN hG w.heap.size 4 (his X) (by omega) (by rw[Yd];omega) (by rw[Yd];omega);rw[Yd] at h;exact h
noncomputable abbrev exLn (l1:Nat) (X:List R2) (F:List Rat):List (Nat×Con):=(56,Cy [pFs l1 F,pF 57] (vr (.bool (anyP F.length (bdN F)))))::exB
theorem Ux {w:World}{ex:List (Nat×Con)}(hG:Gr w) (hN:jd) (hE:Cu true w.heap.size w ex):∀ o:Opt,o.ex=ex->uy (W0 w) (TY o):=fun _ ho=>ccB (le_refl _) hG hN (by rw[ho];exact hE)
theorem lan1 {w:World}(l0 l1:Nat) (X:List R2) (F:List Rat):run w ⟨[(18,17,false),(18,23,false),(18,27,false)],[],exLn l1 X F⟩ 18 86 kLanes18_ (stA [pLn l0 X,pFs l1 F]) (laI l0 l1 X F 0)=some (.normal,[decide ((X.length:Int)>8)=false,decide ((F.length:Int)≠(X.length:Int))=false,anyP F.length (bdN F)=false,[Pat.one (Grp.cls (Dx.ls (lst l1 32 4 F f1))),Pat.one (Grp.lit (Value.func (Fn.func 57) #[] #[]))]=[pFs l1 F,pF 57],cK (W0 w) (.ls (lst l0 44 8 X fQ)) (.ls (lst l0 44 8 X fQ)),cK (W0 w) (.ls (lst l1 32 4 F f1)) (.ls (lst l1 32 4 F f1)),Value.bool false=Value.bool false,Value.int IntKind.u64 0=Value.int IntKind.u64 0,Value.int IntKind.u64 0=Value.int IntKind.u64 0,Value.pointer none=Value.pointer none,Value.bool false=Value.bool false,Value.int IntKind.u64 0=Value.int IntKind.u64 0,Value.int IntKind.u64 0=Value.int IntKind.u64 0,Value.pointer none=Value.pointer none,0=0,0=0,0=0,ii (X.length:Int)=goInt (X.length:Int),ii (↑0:Int)=Value.int IntKind.i64 0]):=by kernel_rfl
theorem lan2 {w:World}(l0 l1:Nat) (X:List R2) (F:List Rat) (i:Nat):run w ⟨[(18,33,true)],[],exLn l1 X F⟩ 18 86 kLanes18_nl (laI l0 l1 X F i) (laI l0 l1 X F (i+1))=some (.normal,[decide ((i:Int)<(X.length:Int))=true,i<X.length,i<X.length,4<=4/\4<=1000000,i+1<=1000000,i+1<=1000000,jQ ((i:Int)+1),cK (W0 w) (.ls (lst l0 44 8 X fQ)) (.ls (lst l0 44 8 X fQ)),cK (W0 w) (.ls (lst l1 32 4 F f1)) (.ls (lst l1 32 4 F f1)),Value.bool false=Value.bool false,Value.int IntKind.u64 0=Value.int IntKind.u64 0,Value.int IntKind.u64 0=Value.int IntKind.u64 0,Value.pointer none=Value.pointer none,Value.bool false=Value.bool false,Value.int IntKind.u64 0=Value.int IntKind.u64 0,Value.int IntKind.u64 0=Value.int IntKind.u64 0,Value.pointer none=Value.pointer none,i+1=i+1,∀ (j:Nat),j<i+1->jf (W0 w) (fq4 4 (los X) j) (Gb i (fq4 4 (los X)) (fun(x:Nat)=>[Grp.cls (Dx.q (jm (X.getD i default).1 [(X.getD i default).2]) 4)]) j),i+1=i+1,∀ (j:Nat),j<i+1->jf (W0 w) (fq4 4 (his X) j) (Gb i (fq4 4 (his X)) (fun(x:Nat)=>[Grp.cls (Dx.q (cL (X.getD i default).1 [(X.getD i default).2]) 4)]) j),0=0,ii (X.length:Int)=ii (X.length:Int),ii (↑(i+1):Int)=Value.int IntKind.i64 ((i:Int)+1)]):=by kernel_rfl
theorem lan3 {w:World}(l0 l1:Nat) (X:List R2) (F:List Rat) (i:Nat):run w ⟨[(18,33,false)],[],exLn l1 X F⟩ 18 86 kLanes18_nl (laI l0 l1 X F i) (laI l0 l1 X F i)=some (.exit 0,[decide ((i:Int)<(X.length:Int))=false,cK (W0 w) (.ls (lst l0 44 8 X fQ)) (.ls (lst l0 44 8 X fQ)),cK (W0 w) (.ls (lst l1 32 4 F f1)) (.ls (lst l1 32 4 F f1)),Value.bool false=Value.bool false,Value.int IntKind.u64 0=Value.int IntKind.u64 0,Value.int IntKind.u64 0=Value.int IntKind.u64 0,Value.pointer none=Value.pointer none,Value.bool false=Value.bool false,Value.int IntKind.u64 0=Value.int IntKind.u64 0,Value.int IntKind.u64 0=Value.int IntKind.u64 0,Value.pointer none=Value.pointer none,i=i,∀ (j:Nat),j<i->jf (W0 w) (fq4 4 (los X) j) (fq4 4 (los X) j),i=i,∀ (j:Nat),j<i->jf (W0 w) (fq4 4 (his X) j) (fq4 4 (his X) j),0=0,ii (X.length:Int)=ii (X.length:Int),ii (i:Int)=ii (i:Int)]):=by kernel_rfl
theorem lan4 {w:World}(l0 l1:Nat) (X:List R2) (F:List Rat):run w ⟨[],[],exSo w.heap.size X⟩ 18 86 kLanes18_nt (laI l0 l1 X F X.length) (lb0 l1 (lsX X) (hsX X) F X.length)=some (.normal,[0<X.length,X.length=X.length,Pat.one (Grp.cls (Dx.ls { lo:=w.1.size,ty:=32,z:=4,n:=X.length,g:=fq4 4 (los X) }))::jC [Value.func (Fn.func 49) #[] #[]]=Pat.one (Grp.cls (Dx.ls { lo:=w.1.size,ty:=32,z:=4,n:=X.length,g:=fq4 4 (los X) }))::jC [vF 49],0<X.length,X.length=X.length,Pat.one (Grp.cls (Dx.ls { lo:=w.1.size,ty:=32,z:=4,n:=X.length,g:=fq4 4 (his X) }))::jC [Value.func (Fn.func 59) #[] #[]]=Pat.one (Grp.cls (Dx.ls { lo:=w.1.size,ty:=32,z:=4,n:=X.length,g:=fq4 4 (his X) }))::jC [vF 59],cK (W0 w) (.ls (lst l1 32 4 F f1)) (.ls (lst l1 32 4 F f1)),Value.bool false=Value.bool false,Value.int IntKind.u64 0=Value.int IntKind.u64 0,Value.int IntKind.u64 0=Value.int IntKind.u64 0,Value.pointer none=Value.pointer none,Value.bool false=Value.bool false,Value.int IntKind.u64 0=Value.int IntKind.u64 0,Value.int IntKind.u64 0=Value.int IntKind.u64 0,Value.pointer none=Value.pointer none,X.length=X.length,∀ (j:Nat),j<X.length->jf (W0 w) (fq4 4 (lsX X) j) (fq4 4 (lsX X) j),X.length=X.length,∀ (j:Nat),j<X.length->jf (W0 w) (fq4 4 (hsX X) j) (fq4 4 (hsX X) j),Value.bool false=Value.bool false,Value.int IntKind.u64 0=Value.int IntKind.u64 0,Value.int IntKind.u64 0=Value.int IntKind.u64 0,Value.pointer none=Value.pointer none,Value.bool false=Value.bool false,Value.int IntKind.u64 0=Value.int IntKind.u64 0,Value.int IntKind.u64 0=Value.int IntKind.u64 0,Value.pointer none=Value.pointer none,Value.bool false=Value.bool false,Value.int IntKind.u64 0=Value.int IntKind.u64 0,Value.int IntKind.u64 0=Value.int IntKind.u64 0,Value.pointer none=Value.pointer none,Value.bool false=Value.bool false,Value.int IntKind.u64 0=Value.int IntKind.u64 0,Value.int IntKind.u64 0=Value.int IntKind.u64 0,Value.pointer none=Value.pointer none,0=0,0=0,0=0,0=0,ii (F.length:Int)=goInt (F.length:Int),ii (↑0:Int)=Value.int IntKind.i64 0]):=by kernel_rfl
theorem lan5 {w:World}(l1:Nat) (xs ys F:List Rat) (n:Nat):run w ⟨[(18,59,true)],[],exB⟩ 18 86 kLanes18_ntnl (lb0 l1 xs ys F n) (lb1 l1 xs ys F n 1)=some (.normal,[decide ((↑0:Int)<(F.length:Int))=true,0<F.length,0<F.length,0<n,0<n,1+4+1<=1000000,0<n,0<n,1+4+1<=1000000,1+4+1+4<=1000000,1+4+1+4<=1000000,1+4+1+4<=1+4+1+4/\1+4+1+4<=1000000,1<=1/\1+4+1+4<=1+4+1+4/\1+(1+4+1+4)<=1000000,jQ ((↑0:Int)+1),cK (W0 w) (.ls (lst l1 32 4 F f1)) (.ls (lst l1 32 4 F f1)),Value.bool false=Value.bool false,Value.int IntKind.u64 0=Value.int IntKind.u64 0,Value.int IntKind.u64 0=Value.int IntKind.u64 0,Value.pointer none=Value.pointer none,Value.bool false=Value.bool false,Value.int IntKind.u64 0=Value.int IntKind.u64 0,Value.int IntKind.u64 0=Value.int IntKind.u64 0,Value.pointer none=Value.pointer none,n=n,∀ (j:Nat),j<n->jf (W0 w) (fq4 4 xs j) (fq4 4 xs j),n=n,∀ (j:Nat),j<n->jf (W0 w) (fq4 4 ys j) (fq4 4 ys j),cK (W0 w) (.q (jm 0 [0,jm (pre xs (0+1)*F.getD 0 default) [pre ys (0+1)*F.getD 0 default],cL (pre xs (0+1)*F.getD 0 default) [pre ys (0+1)*F.getD 0 default]]) (200*1+1)) (.q (jm 0 [0,jm ((0+xs.getD 0 0)*F.getD 0 default) [(0+ys.getD 0 0)*F.getD 0 default],cL ((0+xs.getD 0 0)*F.getD 0 default) [(0+ys.getD 0 0)*F.getD 0 default]]) (1+(1+4+1+4))),cK (W0 w) (.q (cL 0 [0,jm (pre xs (0+1)*F.getD 0 default) [pre ys (0+1)*F.getD 0 default],cL (pre xs (0+1)*F.getD 0 default) [pre ys (0+1)*F.getD 0 default]]) (200*1+1)) (.q (cL 0 [0,jm ((0+xs.getD 0 0)*F.getD 0 default) [(0+ys.getD 0 0)*F.getD 0 default],cL ((0+xs.getD 0 0)*F.getD 0 default) [(0+ys.getD 0 0)*F.getD 0 default]]) (1+(1+4+1+4))),cK (W0 w) (.q (pre xs 1) (10*1+1)) (.q (0+xs.getD 0 0) (1+4+1)),cK (W0 w) (.q (pre ys 1) (10*1+1)) (.q (0+ys.getD 0 0) (1+4+1)),0=0,0=0,0=0,0=0,ii (F.length:Int)=ii (F.length:Int),ii (↑1:Int)=Value.int IntKind.i64 ((↑0:Int)+1)]):=by kernel_rfl
theorem lan6 {w:World}(l1:Nat) (xs ys F:List Rat) (n i:Nat):run w ⟨[(18,59,true)],[],exB⟩ 18 86 kLanes18_ntnl (lb1 l1 xs ys F n i) (lb1 l1 xs ys F n (i+1))=some (.normal,[decide ((i:Int)<(F.length:Int))=true,i<F.length,i<F.length,i<n,i<n,10*i+1+4+1<=1000000,i<n,i<n,10*i+1+4+1<=1000000,10*i+1+4+1+4<=1000000,10*i+1+4+1+4<=1000000,10*i+1+4+1+4<=10*i+1+4+1+4/\10*i+1+4+1+4<=1000000,200*i+1<=200*i+1/\10*i+1+4+1+4<=10*i+1+4+1+4/\200*i+1+(10*i+1+4+1+4)<=1000000,jQ ((i:Int)+1),cK (W0 w) (.ls (lst l1 32 4 F f1)) (.ls (lst l1 32 4 F f1)),Value.bool false=Value.bool false,Value.int IntKind.u64 0=Value.int IntKind.u64 0,Value.int IntKind.u64 0=Value.int IntKind.u64 0,Value.pointer none=Value.pointer none,Value.bool false=Value.bool false,Value.int IntKind.u64 0=Value.int IntKind.u64 0,Value.int IntKind.u64 0=Value.int IntKind.u64 0,Value.pointer none=Value.pointer none,n=n,∀ (j:Nat),j<n->jf (W0 w) (fq4 4 xs j) (fq4 4 xs j),n=n,∀ (j:Nat),j<n->jf (W0 w) (fq4 4 ys j) (fq4 4 ys j),cK (W0 w) (.q (jm (spn xs ys F i).1 [(spn xs ys F i).2,jm (pre xs (i+1)*F.getD i default) [pre ys (i+1)*F.getD i default],cL (pre xs (i+1)*F.getD i default) [pre ys (i+1)*F.getD i default]]) (200*(i+1)+1)) (.q (jm (spn xs ys F i).1 [(spn xs ys F i).2,jm ((pre xs i+xs.getD i 0)*F.getD i default) [(pre ys i+ys.getD i 0)*F.getD i default],cL ((pre xs i+xs.getD i 0)*F.getD i default) [(pre ys i+ys.getD i 0)*F.getD i default]]) (200*i+1+(10*i+1+4+1+4))),cK (W0 w) (.q (cL (spn xs ys F i).1 [(spn xs ys F i).2,jm (pre xs (i+1)*F.getD i default) [pre ys (i+1)*F.getD i default],cL (pre xs (i+1)*F.getD i default) [pre ys (i+1)*F.getD i default]]) (200*(i+1)+1)) (.q (cL (spn xs ys F i).1 [(spn xs ys F i).2,jm ((pre xs i+xs.getD i 0)*F.getD i default) [(pre ys i+ys.getD i 0)*F.getD i default],cL ((pre xs i+xs.getD i 0)*F.getD i default) [(pre ys i+ys.getD i 0)*F.getD i default]]) (200*i+1+(10*i+1+4+1+4))),cK (W0 w) (.q (pre xs (i+1)) (10*(i+1)+1)) (.q (pre xs i+xs.getD i 0) (10*i+1+4+1)),cK (W0 w) (.q (pre ys (i+1)) (10*(i+1)+1)) (.q (pre ys i+ys.getD i 0) (10*i+1+4+1)),0=0,0=0,0=0,0=0,ii (F.length:Int)=ii (F.length:Int),ii (↑(i+1):Int)=Value.int IntKind.i64 ((i:Int)+1)]):=by kernel_rfl
theorem lan7 {w:World}(l1:Nat) (xs ys F:List Rat) (n i:Nat):run w ⟨[(18,59,false)],[],exB⟩ 18 86 kLanes18_ntnl (lb1 l1 xs ys F n i) (lb1 l1 xs ys F n i)=some (.exit 2,[decide ((i:Int)<(F.length:Int))=false,cK (W0 w) (.ls (lst l1 32 4 F f1)) (.ls (lst l1 32 4 F f1)),Value.bool false=Value.bool false,Value.int IntKind.u64 0=Value.int IntKind.u64 0,Value.int IntKind.u64 0=Value.int IntKind.u64 0,Value.pointer none=Value.pointer none,Value.bool false=Value.bool false,Value.int IntKind.u64 0=Value.int IntKind.u64 0,Value.int IntKind.u64 0=Value.int IntKind.u64 0,Value.pointer none=Value.pointer none,n=n,∀ (j:Nat),j<n->jf (W0 w) (fq4 4 xs j) (fq4 4 xs j),n=n,∀ (j:Nat),j<n->jf (W0 w) (fq4 4 ys j) (fq4 4 ys j),cK (W0 w) (.q (spn xs ys F i).1 (200*i+1)) (.q (spn xs ys F i).1 (200*i+1)),cK (W0 w) (.q (spn xs ys F i).2 (200*i+1)) (.q (spn xs ys F i).2 (200*i+1)),cK (W0 w) (.q (pre xs i) (10*i+1)) (.q (pre xs i) (10*i+1)),cK (W0 w) (.q (pre ys i) (10*i+1)) (.q (pre ys i) (10*i+1)),0=0,0=0,0=0,0=0,ii (F.length:Int)=ii (F.length:Int),ii (i:Int)=ii (i:Int)]):=by kernel_rfl
theorem lan8 {w:World}(l1:Nat) (xs ys F:List Rat) (n i:Nat):runR w ⟨[],[],exB⟩ 18 86 Tryz.f18 kLanes18_ntnt (lb1 l1 xs ys F n i) [pS2 (spn xs ys F i).1 (200*i+1) (spn xs ys F i).2 (200*i+1),pI 0]=some (.ret,[cK (W0 w) (.q (spn xs ys F i).1 (200*i+1)) (.q (spn xs ys F i).1 (200*i+1)),cK (W0 w) (.q (spn xs ys F i).2 (200*i+1)) (.q (spn xs ys F i).2 (200*i+1)),Value.int IntKind.i64 0=Value.int IntKind.i64 0,uv (W0 w) (.q (spn xs ys F i).1 (200*i+1)),uv (W0 w) (.q (spn xs ys F i).2 (200*i+1))]):=by kernel_rfl
theorem lanz {w:World}(l0 l1:Nat):runA w ⟨[],[],[]⟩ 18 86 Tryz.f18 (stA [pLn l0 [],pFs l1 []]) [pS2 0 1 0 1,pI 0]=some (.ret,[0<=4000000000,jQ 0,jQ 0,jQ 1,0<=4000000000,jQ 0,jQ 0,jQ 1,jf (W0 w) [.cls (.q 0 1),.cls (.q 0 1)] [.lit (.bool false),.lit (.int .u64 0),.lit (.int .u64 0),.lit (.pointer none),.lit (.bool false),.lit (.int .u64 0),.lit (.int .u64 0),.lit (.pointer none)],ii 0=ii 0,uv (W0 w) (.q 0 1),uv (W0 w) (.q 0 1)]):=by kernel_rfl
def WV (X:List R2) (F:List Rat):Bool:=!decide ((X.length:Int)>8)&&!decide ((F.length:Int)≠(X.length:Int))&&!anyP F.length (bdN F)
theorem cgC {lo l1:Nat}{w0:World}{X:List R2}{F:List Rat}(hN:jd) (hG:Gr w0) (hlo:lo<=w0.heap.size) (hl:F.length<=1000000):Cu true lo w0 (exLn l1 X F) :=
 jk (Ez ((cdH hN l1 F hl).val hG hlo (enters_of Tryz.func56 (by kernel_rfl) rfl))) exB_ok
noncomputable abbrev labTnal (w:World) (l0 l1:Nat) (X:List R2) (F:List Rat)   (o:List (Nat×Nat×Bool)):=run w ⟨o,[],(exLn l1 X F)⟩ 18 86 kLanes18_ (stA [pLn l0 X,pFs l1 F]) (laI l0 l1 X F 0)
noncomputable abbrev labR (w:World) (l0 l1:Nat) (X:List R2) (F:List Rat)   (o:List (Nat×Nat×Bool)):=runR w ⟨o,[],(exLn l1 X F)⟩ 18 86 Tryz.f18 kLanes18_ (stA [pLn l0 X,pFs l1 F]) [pS2 0 1 0 1,pI 2]
theorem lab0 {w:World}(l0 l1:Nat) (X:List R2) (F:List Rat):labR w l0 l1 X F [(18,17,true)]=some (.ret,[decide ((X.length:Int)>8)=true,jf (W0 w) [.cls (.q 0 1),.cls (.q 0 1)] [.lit (Value.bool false),.lit (Value.int IntKind.u64 0),.lit (Value.int IntKind.u64 0),.lit (Value.pointer none),.lit (Value.bool false),.lit (Value.int IntKind.u64 0),.lit (Value.int IntKind.u64 0),.lit (Value.pointer none)],Value.int IntKind.i64 2=Value.int IntKind.i64 2,uv (W0 w) (.q 0 1),uv (W0 w) (.q 0 1)]):=by kernel_rfl
theorem lab1 {w:World}(l0 l1:Nat) (X:List R2) (F:List Rat):labR w l0 l1 X F [(18,17,false),(18,23,true)]=some (.ret,[decide ((X.length:Int)>8)=false,decide ((F.length:Int)≠(X.length:Int))=true,jf (W0 w) [.cls (.q 0 1),.cls (.q 0 1)] [.lit (Value.bool false),.lit (Value.int IntKind.u64 0),.lit (Value.int IntKind.u64 0),.lit (Value.pointer none),.lit (Value.bool false),.lit (Value.int IntKind.u64 0),.lit (Value.int IntKind.u64 0),.lit (Value.pointer none)],Value.int IntKind.i64 2=Value.int IntKind.i64 2,uv (W0 w) (.q 0 1),uv (W0 w) (.q 0 1)]):=by kernel_rfl
theorem lab2 {w:World}(l0 l1:Nat) (X:List R2) (F:List Rat):labR w l0 l1 X F [(18,17,false),(18,23,false),(18,27,true)]=some (.ret,[decide ((X.length:Int)>8)=false,decide ((F.length:Int)≠(X.length:Int))=false,anyP F.length (bdN F)=true,[Pat.one (Grp.cls (Dx.ls (lst l1 32 4 F f1))),Pat.one (Grp.lit (Value.func (Fn.func 57) #[] #[]))]=[pFs l1 F,pF 57],jf (W0 w) [.cls (.q 0 1),.cls (.q 0 1)] [.lit (Value.bool false),.lit (Value.int IntKind.u64 0),.lit (Value.int IntKind.u64 0),.lit (Value.pointer none),.lit (Value.bool false),.lit (Value.int IntKind.u64 0),.lit (Value.int IntKind.u64 0),.lit (Value.pointer none)],Value.int IntKind.i64 2=Value.int IntKind.i64 2,uv (W0 w) (.q 0 1),uv (W0 w) (.q 0 1)]):=by kernel_rfl
theorem lab3 {w:World}(l0 l1:Nat) (X:List R2) (F:List Rat):labTnal w l0 l1 X F [(18,17,false),(18,23,false),(18,27,false)]=some (.normal,[decide ((X.length:Int)>8)=false,decide ((F.length:Int)≠(X.length:Int))=false,anyP F.length (bdN F)=false,[Pat.one (Grp.cls (Dx.ls (lst l1 32 4 F f1))),Pat.one (Grp.lit (Value.func (Fn.func 57) #[] #[]))]=[pFs l1 F,pF 57],cK (W0 w) (.ls (lst l0 44 8 X fQ)) (.ls (lst l0 44 8 X fQ)),cK (W0 w) (.ls (lst l1 32 4 F f1)) (.ls (lst l1 32 4 F f1)),Value.bool false=Value.bool false,Value.int IntKind.u64 0=Value.int IntKind.u64 0,Value.int IntKind.u64 0=Value.int IntKind.u64 0,Value.pointer none=Value.pointer none,Value.bool false=Value.bool false,Value.int IntKind.u64 0=Value.int IntKind.u64 0,Value.int IntKind.u64 0=Value.int IntKind.u64 0,Value.pointer none=Value.pointer none,0=0,0=0,0=0,ii (X.length:Int)=goInt (X.length:Int),ii (↑0:Int)=Value.int IntKind.i64 0]):=by kernel_rfl
theorem cig (hN:jd) (l0 l1:Nat) (X:List R2) (F:List Rat) (hl:F.length<=1000000) (hb:WV X F=false):zD 18 [pLn l0 X,pFs l1 F] (fun _=>[pS2 0 1 0 1,pI 2]):=by
 intro w vs hG hp;refine yV hG hN (ex:=(exLn l1 X F)) (cgC hN hG (le_refl _) hl) (fn:=Tryz.f18) Tryz.func18 (c:=codeOf Tryz.f18) (by kernel_rfl) (args:=[pLn l0 X,pFs l1 F]) (by kernel_rfl) hp (fun hR _ hA=>?_);rcases eq_false_or_eq_true (decide ((X.length:Int)>8)) with q17|q17
 ·skip
  have p17:=of_decide_eq_true q17;refine jK (lab0 l0 l1 X F) (hR _ rfl) hA (by (repeat' (first|exact trivial|apply And.intro))<;>first|exact cK.refl _ _|exact fun _ _=>jf.refl _ _|exact jp rfl|exact jv _ _|exact ju _ _|(with_reducible assumption)|omega|with_reducible rfl|(simp only[jb];omega)|(intro j hj;exact absurd hj (not_lt_zero _))|exact KZ rfl rfl|rfl)
 ·skip
  have p17:=of_decide_eq_false q17;rcases eq_false_or_eq_true (decide ((F.length:Int)≠(X.length:Int))) with q23|q23
  ·skip
   have p23:=of_decide_eq_true q23;refine jK (lab1 l0 l1 X F) (hR _ rfl) hA (by (repeat' (first|exact trivial|apply And.intro))<;>first|exact cK.refl _ _|exact fun _ _=>jf.refl _ _|exact jp rfl|exact jv _ _|exact ju _ _|(with_reducible assumption)|omega|with_reducible rfl|(simp only[jb];omega)|(intro j hj;exact absurd hj (not_lt_zero _))|exact KZ rfl rfl|rfl)
  ·skip
   have p23:=of_decide_eq_false q23;rcases eq_false_or_eq_true (anyP F.length (bdN F)) with q27|q27
   ·skip
    refine jK (lab2 l0 l1 X F) (hR _ rfl) hA (by (repeat' (first|exact trivial|apply And.intro))<;>first|exact cK.refl _ _|exact fun _ _=>jf.refl _ _|exact jp rfl|exact jv _ _|exact ju _ _|(with_reducible assumption)|omega|with_reducible rfl|(simp only[jb];omega)|(intro j hj;exact absurd hj (not_lt_zero _))|exact KZ rfl rfl|rfl)
   ·skip
    refine uj (lab3 l0 l1 X F) (hR _ rfl) hA (fun aT wT hT=>?_) (by (repeat' (first|exact trivial|apply And.intro))<;>first|exact cK.refl _ _|exact fun _ _=>jf.refl _ _|exact jp rfl|exact jv _ _|exact ju _ _|(with_reducible assumption)|omega|with_reducible rfl|(simp only[jb];omega)|(intro j hj;exact absurd hj (not_lt_zero _))|exact KZ rfl rfl|rfl);rw[WV,q17,q23,q27] at hb;cases hb
theorem ciF (hN:jd) (l0 l1:Nat):zD 18 [pLn l0 [],pFs l1 []] (fun _=>[pS2 0 1 0 1,pI 0]):=by
 intro w vs hG hp;refine yV hG hN (ex:=[]) jI (fn:=Tryz.f18) Tryz.func18 (c:=codeOf Tryz.f18) (by kernel_rfl) (args:=[pLn l0 [],pFs l1 []]) (by rfl) hp (fun hR _ hA=>?_);exact Er (lanz l0 l1) (hR _ rfl) hA (by (repeat' (first|exact trivial|apply And.intro))<;>first|exact cK.refl _ _|exact fun _ _=>jf.refl _ _|exact jp rfl|exact jv _ _|exact ju _ _|(with_reducible assumption)|omega|with_reducible rfl|(simp only[jb];omega)|(intro j hj;exact absurd hj (not_lt_zero _))|exact KZ rfl rfl|rfl)
theorem ckN (hN:jd) (l0 l1:Nat) (X:List R2) (F:List Rat) (hX:1<=X.length) (hb:WV X F=true):zD 18 [pLn l0 X,pFs l1 F] (fun _=>[pS2 (spn (lsX X) (hsX X) F X.length).1 (200*X.length+1) (spn (lsX X) (hsX X) F X.length).2 (200*X.length+1),pI 0]):=by
 intro w vs hG hp;have q17:decide ((X.length:Int)>8)=false:=by revert hb;unfold WV;cases decide ((X.length:Int)>8)<;>simp
 have q23:decide ((F.length:Int)≠(X.length:Int))=false:=by revert hb;unfold WV;cases decide ((F.length:Int)≠(X.length:Int))<;>simp
 have q27:anyP F.length (bdN F)=false:=by revert hb;unfold WV;cases anyP F.length (bdN F)<;>simp
 have p17:=of_decide_eq_false q17;have p23:=of_decide_eq_false q23;have h8:X.length<=8:=by omega
 have hF:F.length=X.length:=by omega
 clear p17 p23;refine yV hG hN (ex:=exLn l1 X F++exSo w.heap.size X) ?_ (fn:=Tryz.f18) Tryz.func18 (c:=codeOf Tryz.f18) (by kernel_rfl) (args:=[pLn l0 X,pFs l1 F]) (by kernel_rfl) hp (fun _ _ hA=>?_)
 ·exact jk (Ez ((cdH hN l1 F (by omega)).val hG (le_refl _) (enters_of Tryz.func56 (by kernel_rfl) rfl))) (jk KJ (jk cec (cgM hN hG hX h8)))
 have hR1:=Ux hG hN (cgC (X:=X) (F:=F) (l1:=l1) hN hG (le_refl _) (by omega));have hR2:=Ux hG hN (cgM hN hG hX h8);have hR3:=Ux hG hN (exB_ok (lo:=w.heap.size) (w0:=w));refine uj (lan1 l0 l1 X F) (hR1 _ rfl) hA (fun aT wT hT=>yv ?_);refine yx (fun i=>laI l0 l1 X F i) (fun i=>i<=X.length) (fun i=>X.length-i) (L:=kLanes18_n) (ks:=kLanes18_nt) (id:=0) (c:=uw kLanes18_n) (by kernel_rfl) 0 (zero_le _) hT (fun i a2 w2 hi hA=>?_);rcases eq_false_or_eq_true (decide ((i:Int)<(X.length:Int))) with q33|q33
 ·have p33:=of_decide_eq_true q33;have hi':i<X.length:=by omega
  refine uj (lan2 l0 l1 X F i) (hR1 _ rfl) hA (fun aT wT hT=>jL (by kernel_rfl) ⟨i+1,by omega,hT,by omega⟩) (by (repeat' (first|exact trivial|apply And.intro))<;>first|exact cK.refl _ _|exact fun _ _=>jf.refl _ _|exact jp rfl|exact jv _ _|exact ju _ _|(with_reducible assumption)|omega|with_reducible rfl|(simp only[jb];omega)|(intro j hj;exact absurd hj (not_lt_zero _))|exact jp (los_at hi')|exact jp (his_at hi')|rfl)
 ·have p33:=of_decide_eq_false q33;refine uj (lan3 l0 l1 X F i) (hR1 _ rfl) hA (fun aT wT hT=>?_);refine kb _ (by kernel_rfl) ?_;obtain rfl:i=X.length:=by omega
  refine uj (lan4 l0 l1 X F) (hR2 _ rfl) hT (fun aT wT hT=>yv ?_);refine yx (fun i=>match i with|0=>lb0 l1 (lsX X) (hsX X) F X.length|i+1=>lb1 l1 (lsX X) (hsX X) F X.length (i+1)) (fun i=>i<=X.length) (fun i=>X.length-i) (L:=kLanes18_ntn) (ks:=kLanes18_ntnt) (id:=2) (c:=uw kLanes18_ntn) (by kernel_rfl) 0 (zero_le _) hT (fun i a3 w3 hi hA=>?_);cases i with
  |zero =>
   have q59:decide (((0:Nat):Int)<(F.length:Int))=true:=decide_eq_true (by omega);refine uj (lan5 l1 (lsX X) (hsX X) F X.length) (hR3 _ rfl) hA (fun aT wT hT=>jL (by kernel_rfl) ⟨1,by omega,hT,by omega⟩)
  |succ i =>
   have hA:At (W0 w) 86 (lb1 l1 (lsX X) (hsX X) F X.length (i+1)) a3 w3:=hA;rcases eq_false_or_eq_true (decide (((i+1:Nat):Int)<(F.length:Int))) with q59|q59
   ·have p59:=of_decide_eq_true q59;refine uj (lan6 l1 (lsX X) (hsX X) F X.length (i+1)) (hR3 _ rfl) hA (fun aT wT hT=>jL (by kernel_rfl) ⟨i+2,by omega,hT,by omega⟩)
   ·have p59:=of_decide_eq_false q59;refine uj (lan7 l1 (lsX X) (hsX X) F X.length (i+1)) (hR3 _ rfl) hA (fun aT wT hT=>?_);refine kb _ (by kernel_rfl) ?_;obtain hn:i+1=X.length:=by omega
    rw[hn] at hT;refine jK (lan8 l1 (lsX X) (hsX X) F X.length X.length) (hR3 _ rfl) hT
end Pe
namespace Pe
def uk (b:Nat->Bool) (f:Nat->Rat):Nat->Rat
 |0=>0
 |i+1=>match b i with
  |true=>uk b f i+f i
  |false=>uk b f i
def kZ (b:Nat->Bool):Nat->Nat
 |0=>0
 |i+1=>match b i with
  |true=>kZ b i+1
  |false=>kZ b i
abbrev ge0 (xs:List Rat) (i:Nat):Rat:=xs.getD i 0
def swB (b:Nat->Bool) (j:Nat) (i:Nat):Bool:=match Nat.beq i (j-1) with
 |true=>b j
 |false=>match Nat.beq i j with
  |true=>b (j-1)
  |false=>b i
section
variable {b:Nat->Bool}{f g:Nat->Rat}
theorem UI:∀ {n:Nat},kZ b n<=n
 |0=>le_refl _
 |n+1=>by
  have:=UI (n:=n);unfold kZ;split<;>omega
theorem cbh {c:Nat->Bool}:∀ {n:Nat},(∀ i,i<n->b i=c i/\f i=g i)->uk b f n=uk c g n/\kZ b n=kZ c n
 |0,_=>⟨rfl,rfl⟩
 |n+1,h=>by
  obtain⟨h1,h2⟩:=cbh (n:=n) (fun i hi=>h i (by omega));obtain⟨h3,h4⟩:=h n (by omega);unfold uk kZ;rw[h3,h4,h1,h2];exact⟨rfl,rfl⟩
theorem EU {i j:Nat}(h:i≠j):Nat.beq i j=false:=Bool.eq_false_iff.2 fun e=>h (eq_of_beq_eq_true e)
theorem sum_swp {xs:List Rat}{j:Nat}(h0:0<j) (hj:j<xs.length):∀ n,j<n->uk (swB b j) (ge0 (swp xs j)) n=uk b (ge0 xs) n/\kZ (swB b j) n=kZ b n:=by
 obtain⟨m,rfl⟩:∃ m,j=m+1:=⟨j-1,by omega⟩;have hb0:swB b (m+1) m=b (m+1):=by unfold swB;rw[add_sub_cancel,beq_refl]
 have hb1:swB b (m+1) (m+1)=b m:=by unfold swB;rw[add_sub_cancel,EU (by omega),beq_refl]
 have hx0:ge0 (swp xs (m+1)) m=ge0 xs (m+1):=by
  show (swp xs (m+1)).getD m 0=_;rw[EG h0 hj,add_sub_cancel,beq_refl]
 have hx1:ge0 (swp xs (m+1)) (m+1)=ge0 xs m:=by
  show (swp xs (m+1)).getD (m+1) 0=_;rw[EG h0 hj,add_sub_cancel,EU (by omega),beq_refl]
 have ho:∀ i,i≠m->i≠m+1->swB b (m+1) i=b i/\ge0 (swp xs (m+1)) i=ge0 xs i:=by
  intro i h1 h2;refine⟨?_,?_⟩
  ·unfold swB;rw[add_sub_cancel,EU h1,EU h2]
  ·show (swp xs (m+1)).getD i 0=_;rw[EG h0 hj,add_sub_cancel,EU h1,EU h2]
 intro n hn
 induction n with
 |zero=>omega
 |succ n ih =>
  by_cases hnm:n=m+1
  ·subst hnm;obtain⟨e1,e2⟩:=cbh (b:=swB b (m+1)) (c:=b) (f:=ge0 (swp xs (m+1))) (g:=ge0 xs) (n:=m) (fun i hi=>ho i (by omega) (by omega));simp only[uk,kZ,hb0,hb1,hx0,hx1,e1,e2];cases b m<;>cases b (m+1)<;>first|exact⟨rfl,rfl⟩|exact⟨by rw[Rat.add_assoc,Rat.add_comm (ge0 xs (m+1)),← Rat.add_assoc],rfl⟩
  ·obtain⟨e1,e2⟩:=ih (by omega);obtain⟨e3,e4⟩:=ho n (by omega) hnm;simp only[uk,kZ,e1,e2,e3,e4];exact⟨trivial,trivial⟩
variable {cv:Rat->Rat->Int}
theorem chm:∀ {j:Nat}{xs:List Rat}{b:Nat->Bool},j<xs.length->∃ c,uk c (ge0 (bub cv j xs)) xs.length=uk b (ge0 xs) xs.length/\kZ c xs.length=kZ b xs.length
 |0,_,b,_=>⟨b,rfl,rfl⟩
 |j+1,xs,b,hj=>by
  unfold bub;split
  ·obtain⟨e1,e2⟩:=sum_swp (b:=b) (xs:=xs) (j:=j+1) (Nat.succ_pos _) hj xs.length hj;obtain⟨c,e3,e4⟩:=chm (j:=j) (xs:=swp xs (j+1)) (b:=swB b (j+1)) (by rw[JK];omega);rw[JK] at e3 e4;exact⟨c,e3.trans e1,e4.trans e2⟩
  ·exact⟨b,rfl,rfl⟩
theorem ccE {xs:List Rat}{b:Nat->Bool}:∀ {m:Nat},m<=xs.length->∃ c,uk c (ge0 (srt cv xs m)) xs.length=uk b (ge0 xs) xs.length/\kZ c xs.length=kZ b xs.length
 |0,_=>⟨b,rfl,rfl⟩
 |m+1,h=>by
  obtain⟨c,e1,e2⟩:=ccE (xs:=xs) (b:=b) (m:=m) (by omega);obtain⟨d,e3,e4⟩:=chm (cv:=cv) (j:=m) (xs:=srt cv xs m) (b:=c) (by rw[CQ];omega);rw[CQ] at e3 e4;exact⟨d,e3.trans e1,e4.trans e2⟩
variable {R:Rat->Rat->Prop}
theorem cgH (hy:∀ r s,cv r s<0->R r s) (hn:∀ r s,¬ cv r s<0->R s r) (ht:∀ r s t,R r s->R s t->R r t):∀ {j m:Nat}{xs:List Rat},j<=m->m<xs.length->
 (∀ a c,a<c->c<=m->a≠j->c≠j->R (ge0 xs a) (ge0 xs c))->(∀ c,j<c->c<=m->R (ge0 xs j) (ge0 xs c))->∀ a c,a<c->c<=m->R (ge0 (bub cv j xs) a) (ge0 (bub cv j xs) c)
 |0,m,xs,_,_,h1,h2,a,c,hac,hc=>by
  show R (ge0 xs a) (ge0 xs c);cases a with
  |zero=>exact h2 c hac hc
  |succ a=>exact h1 _ _ hac hc (by omega) (by omega)
 |j+1,m,xs,hj,hm,h1,h2,a,c,hac,hc=>by
  unfold bub;split
  ·rename_i hlt;have hlt:=of_decide_eq_true hlt;have hj':j+1<xs.length:=by omega
   have h0':0<j+1:=Nat.succ_pos j;have g0:ge0 (swp xs (j+1)) j=ge0 xs (j+1):=by
    show (swp xs (j+1)).getD j 0=_;rw[EG h0' hj',add_sub_cancel,beq_refl]
   have g1:ge0 (swp xs (j+1)) (j+1)=ge0 xs j:=by
    show (swp xs (j+1)).getD (j+1) 0=_;rw[EG h0' hj',add_sub_cancel,EU (by omega),beq_refl]
   have go:∀ i,i≠j->i≠j+1->ge0 (swp xs (j+1)) i=ge0 xs i:=by
    intro i p q;show (swp xs (j+1)).getD i 0=_;rw[EG h0' hj',add_sub_cancel,EU p,EU q]
   refine cgH hy hn ht (j:=j) (m:=m) (xs:=swp xs (j+1)) (by omega) (by rw[JK];exact hm) ?_ ?_ a c hac hc
   ·intro a c hac hc ha hcj;by_cases q1:a=j+1
    ·subst q1;rw[g1,go c hcj (by omega)];exact h1 j c (by omega) hc (by omega) (by omega)
    ·rw[go a ha q1];by_cases q2:c=j+1
     ·subst q2;rw[g1];exact h1 a j (by omega) (by omega) q1 (by omega)
     ·rw[go c hcj q2];exact h1 a c hac hc q1 q2
   ·intro c hjc hc;rw[g0];by_cases q2:c=j+1
    ·subst q2;rw[g1];exact hy _ _ hlt
    ·rw[go c (by omega) q2];exact h2 c (by omega) hc
  ·rename_i hlt;have hlt:=of_decide_eq_false hlt;have hs:R (ge0 xs j) (ge0 xs (j+1)):=hn _ _ hlt;by_cases q1:a=j+1
   ·subst q1;exact h2 c hac hc
   ·by_cases q2:c=j+1
    ·subst q2;by_cases q3:a=j
     ·subst q3;exact hs
     ·exact ht _ _ _ (h1 a j (by omega) (by omega) q1 (by omega)) hs
    ·exact h1 a c hac hc q1 q2
theorem cby (hy:∀ r s,cv r s<0->R r s) (hn:∀ r s,¬ cv r s<0->R s r) (ht:∀ r s t,R r s->R s t->R r t) {xs:List Rat}:∀ {m:Nat},m<=xs.length->∀ a c,a<c->c<m->R (ge0 (srt cv xs m) a) (ge0 (srt cv xs m) c)
 |0,_,_,_,_,h=>by omega
 |m+1,h,a,c,hac,hc=>by
  refine cgH hy hn ht (j:=m) (m:=m) (xs:=srt cv xs m) (le_refl _) (by rw[CQ];omega) (fun a c h1 h2 h3 h4=>?_) (fun c h1 h2=>by omega) a c hac (by omega);exact cby hy hn ht (m:=m) (by omega) a c h1 (by omega)
end
theorem CR:(∀ r s,cI r s<0->r<=s)/\(∀ r s,¬ cI r s<0->s<=r) :=
 ⟨fun _ _ h=>Rat.le_of_lt (ZE.1 h),fun _ _ h=>Rat.not_lt.1 fun h'=>h (ZE.2 h')⟩
theorem cbd {xs:List Rat}(hs:∀ a c,a<c->c<xs.length->ge0 xs a<=ge0 xs c) {b:Nat->Bool}:∀ {i:Nat},i<=xs.length->pre xs (kZ b i)<=uk b (ge0 xs) i
 |0,_=>Rat.le_refl
 |i+1,h=>by
  have ih:=cbd hs (b:=b) (i:=i) (by omega);have hc:=UI (b:=b) (n:=i);unfold uk kZ;split
  ·show pre xs (kZ b i)+ge0 xs (kZ b i)<=_;refine Rat.le_trans ((Rat.add_le_add_right).2 ih) ((Rat.add_le_add_left).2 ?_);rcases Nat.lt_or_eq_of_le hc with q|q
   ·exact hs _ _ q (by omega)
   ·rw[q];exact Rat.le_refl
  ·exact ih
theorem cdu {xs:List Rat}(hs:∀ a c,a<c->c<xs.length->ge0 xs c<=ge0 xs a) {b:Nat->Bool}:∀ {i:Nat},i<=xs.length->uk b (ge0 xs) i<=pre xs (kZ b i)
 |0,_=>Rat.le_refl
 |i+1,h=>by
  have ih:=cdu hs (b:=b) (i:=i) (by omega);have hc:=UI (b:=b) (n:=i);unfold uk kZ;split
  ·show _<=pre xs (kZ b i)+ge0 xs (kZ b i);refine Rat.le_trans ((Rat.add_le_add_right).2 ih) ((Rat.add_le_add_left).2 ?_);rcases Nat.lt_or_eq_of_le hc with q|q
   ·exact hs _ _ q (by omega)
   ·rw[q];exact Rat.le_refl
  ·exact ih
theorem ckv {xs:List Rat}{b:Nat->Bool}:pre (srt cI xs xs.length) (kZ b xs.length)<=uk b (ge0 xs) xs.length:=by
 obtain⟨c,e1,e2⟩:=ccE (cv:=cI) (xs:=xs) (b:=b) (le_refl _);rw[← e1,← e2];have hl:(srt cI xs xs.length).length=xs.length:=CQ;have:=cbd (xs:=srt cI xs xs.length) (b:=c) (i:=xs.length) (fun a c h1 h2=>cby (R:=(·<=·)) CR.1 CR.2 (fun _ _ _=>Rat.le_trans) (le_refl _) a c h1 (by omega)) (by omega);exact this
theorem hs_most {xs:List Rat}{b:Nat->Bool}:uk b (ge0 xs) xs.length<=pre (srt uS xs xs.length) (kZ b xs.length):=by
 obtain⟨c,e1,e2⟩:=ccE (cv:=uS) (xs:=xs) (b:=b) (le_refl _);rw[← e1,← e2];have hl:(srt uS xs xs.length).length=xs.length:=CQ;have:=cdu (xs:=srt uS xs xs.length) (b:=c) (i:=xs.length) (fun a c h1 h2=>cby (R:=fun r s=>s<=r) (fun r s h=>CR.1 s r h) (fun r s h=>CR.2 s r h) (fun _ _ _ h k=>Rat.le_trans k h) (le_refl _) a c h1 (by omega)) (by omega);exact this
end Pe
end Go.Proofs.YtobfdjojhfpakaaGreatDoor
