/- Part 30. -/
import Derived.Test.YtclihnehnkijgaaGreatDoorC29
set_option linter.all false
noncomputable section

namespace Go.Proofs.YtclihnehnkijgaaGreatDoor
open Go Go.RowKit Go.Proofs Lim
namespace Pe
noncomputable def kGrow15_:List Kp:=[.code (codeOf Tryz.f15)]
noncomputable def kGrow15_n:List Kp:=next kGrow15_
noncomputable def kGrow15_nl:List Kp:=[.code (zO kGrow15_n)]
noncomputable def kGrow15_nt:List Kp:=kGrow15_n.tail
noncomputable def kDeadline11_:List Kp:=[.code (codeOf Tryz.f11)]
noncomputable def kDeadline11_n:List Kp:=next kDeadline11_
noncomputable def kDeadline11_nl:List Kp:=[.code (zO kDeadline11_n)]
noncomputable def kDeadline11_nt:List Kp:=kDeadline11_n.tail
abbrev lI (L:List R3) (g a b:Rat) (i:Nat):Rat:=(itr L g a b i).1
abbrev hI (L:List R3) (g a b:Rat) (i:Nat):Rat:=(itr L g a b i).2
noncomputable abbrev exGn (l0:Nat) (L:List R3) (g a b:Rat) (i:Nat):List (Nat×Con):=[(32,Cs [pC l0 L,pS (lI L g a b i) (4+15*i) (hI L g a b i) (4+15*i),pQ g 4] (sr (lI L g a b (i+1)) (4+15*i+15) (hI L g a b (i+1)) (4+15*i+15)))]
theorem cks {lo l0:Nat}{w0:World}{L:List R3}{a b g:Rat}{i:Nat}(hN:je) (hG:Gr w0) (hlo:lo<=w0.heap.size) (ha:Law L) (h0:0<=a) (hab:a<=b) (hg:0<=g) (hi:i<=500):Ef true lo w0 (exGn l0 L g a b i) :=
 jm (kZ (gn_ent hN hG hlo ha (Uq ha hg h0 hab i).1 (Uq ha hg h0 hab i).2 hg (by omega) (by omega))) jT
noncomputable abbrev exV1 (l0:Nat) (L:List R3) (g a b:Rat):List (Nat×Con):=[(6,Cs [pC l0 L] (vr (ii 0))),(20,Cs [pS a 4 b 4] (vr (.bool true))),(31,Cs [pQ g 4] (vr (.bool false)))]
theorem cgj {lo l0:Nat}{w0:World}{L:List R3}{a b g:Rat}(hN:je) (hG:Gr w0) (hlo:lo<=w0.heap.size) (ha:uz L=true) (h0:0<=a) (hab:a<=b) (hg:0<=g):Ef true lo w0 (exV1 l0 L g a b):=by
 refine jm (kZ ?_) (jm (kZ ?_) (jm (kZ ?_) jT))
 ·have h:=YO (l0:=l0) hN hG hlo (L:=L) (by have:=(cbR ha).le;omega);rw[ha] at h;exact h
 ·have h:=chC hN hG hlo [pS a 4 b 4] _ _ rfl ⟨by omega,trivial⟩;rw[ceT.2 ⟨h0,hab⟩] at h;exact h
 ·have h:=ceL hN hG hlo [pQ g 4] _ _ rfl trivial;rw[cJ (by rw[Wz,cg (Rat.not_lt.2 hg)];split<;>decide)] at h;exact h
noncomputable abbrev exG0 (l0:Nat) (L:List R3) (g a b:Rat) (n:Nat):List (Nat×Con):=(19,Cs [pI 0,pI n,pI 200] (vr (.bool true)))::exV1 l0 L g a b
theorem exG0_ok {lo l0:Nat}{w0:World}{L:List R3}{a b g:Rat}{n:Nat}(hN:je) (hG:Gr w0) (hlo:lo<=w0.heap.size) (ha:uz L=true) (h0:0<=a) (hab:a<=b) (hg:0<=g) (hn:n<=200):Ef true lo w0 (exG0 l0 L g a b n):=by
 refine jm (kZ ?_) (cgj hN hG hlo ha h0 hab hg);have h:=cdJ hN hG hlo [pI 0,pI n,pI 200] _ _ rfl trivial;rw[cH (by omega:(0:Int)<=(n:Int)),cH (by omega:(n:Int)<=200)] at h;exact h
abbrev z8:List AC:=[.lit (.bool false),.lit (.int .u64 0),.lit (.int .u64 0),.lit (.pointer none),.lit (.bool false),.lit (.int .u64 0),.lit (.int .u64 0),.lit (.pointer none)]
abbrev y4 (s:Nat):List AC:=[.sym s 0,.sym s 1,.sym s 2,.sym s 3]
abbrev y8 (s t:Nat):List AC:=[.sym s 0,.sym s 1,.sym s 2,.sym s 3,.sym t 0,.sym t 1,.sym t 2,.sym t 3]
abbrev gwI (l0:Nat) (L:List R3) (g a b:Rat) (n i:Nat):St Dx:=⟨7,[(0,.val (.one (.sym 0 0))),(5,.val (.one (.ptr 4 0))),(7,.val (.one (.ptr 5 0))),(8,.val (.one (.ptr 6 0))),(27,.val (.one (.lit (ii (n:Int))))),(28,.val (.one (.lit (ii (i:Int)))))],[(0,.cls (.ls (lst l0 64 12 L s3q))),(1,.cls (.q (lI L g a b i) (4+15*i))),(2,.cls (.q (hI L g a b i) (4+15*i))),(3,.cls (.q g 4)),(4,.blk 41 (y8 1 2) none),(5,.blk 39 (y4 3) none),(6,.blk 41 z8 none)],[]⟩
theorem gwa {w:World}(l0:Nat) (L:List R3) (g a b:Rat) (n:Nat):run w ⟨[],[],exG0 l0 L g a b n⟩ 15 36 kGrow15_ (stA [pC l0 L,pS a 4 b 4,pI n,pQ g 4]) (gwI l0 L g a b n 0)=some (.normal,[[Pat.one (Grp.cls (Dx.ls (lst l0 64 12 L s3q)))]=[pC l0 L],[Pat.agg [Grp.cls (Dx.q a 4),Grp.cls (Dx.q b 4)]]=[pS a 4 b 4],[Pat.one (Grp.lit (Value.int IntKind.i64 0)),Pat.one (Grp.lit (Value.int IntKind.i64 (n:Int))),Pat.one (Grp.lit (Value.int IntKind.i64 200))]=[pI 0,pI (n:Int),pI 200],[Pat.agg [Grp.cls (Dx.q g 4)]]=[pQ g 4],sD w (.ls (lst l0 64 12 L s3q)),jo (W0 w) (.q (lI L g a b 0) (4+15*0)) (.q a 4),jo (W0 w) (.q (hI L g a b 0) (4+15*0)) (.q b 4),sD w (.q g 4)]++(zV++(zV++[0=0,0=0,0=0,ii (n:Int)=Value.int IntKind.i64 (n:Int),ii (↑0:Int)=Value.int IntKind.i64 0]))):=by kernel_rfl
theorem gwb {w:World}(l0:Nat) (L:List R3) (g a b:Rat) (n i:Nat):run w ⟨[(15,29,true)],[],exGn l0 L g a b i⟩ 15 36 kGrow15_nl (gwI l0 L g a b n i) (gwI l0 L g a b n (i+1))=some (.normal,[decide ((i:Int)<(n:Int))=true,[Pat.one (Grp.cls (Dx.ls (lst l0 64 12 L s3q))),Pat.agg [Grp.cls (Dx.q (lI L g a b i) (4+15*i)),Grp.cls (Dx.q (hI L g a b i) (4+15*i))],Pat.agg [Grp.cls (Dx.q g 4)]]=[pC l0 L,pS (lI L g a b i) (4+15*i) (hI L g a b i) (4+15*i),pQ g 4],yZ ((i:Int)+1),sD w (.ls (lst l0 64 12 L s3q)),jo (W0 w) (.q (lI L g a b (i+1)) (4+15*(i+1))) (.q (lI L g a b (i+1)) (4+15*i+15)),jo (W0 w) (.q (hI L g a b (i+1)) (4+15*(i+1))) (.q (hI L g a b (i+1)) (4+15*i+15)),sD w (.q g 4)]++(zV++(zV++[0=0,0=0,0=0,eA (ii (n:Int)),ii (↑(i+1):Int)=Value.int IntKind.i64 ((i:Int)+1)]))):=by kernel_rfl
theorem gwc {w:World}(l0:Nat) (L:List R3) (g a b:Rat) (n i:Nat):run w ⟨[(15,29,false)],[],[]⟩ 15 36 kGrow15_nl (gwI l0 L g a b n i) (gwI l0 L g a b n i)=some (.exit 0,[decide ((i:Int)<(n:Int))=false,sD w (.ls (lst l0 64 12 L s3q)),sD w (.q (lI L g a b i) (4+15*i)),sD w (.q (hI L g a b i) (4+15*i)),sD w (.q g 4)]++(zV++(zV++[0=0,0=0,0=0,eA (ii (n:Int)),eA (ii (i:Int))]))):=by kernel_rfl
theorem gwd {w:World}(l0:Nat) (L:List R3) (g a b:Rat) (n:Nat):runR w ⟨[],[],[]⟩ 15 36 Tryz.f15 kGrow15_nt (gwI l0 L g a b n n) [pS (lI L g a b n) (4+15*n) (hI L g a b n) (4+15*n),pI 0]=some (.ret,[sD w (.q (lI L g a b n) (4+15*n)),sD w (.q (hI L g a b n) (4+15*n)),eA (Value.int IntKind.i64 0),kN (W0 w) (.q (lI L g a b n) (4+15*n)),kN (W0 w) (.q (hI L g a b n) (4+15*n))]):=by kernel_rfl
theorem grow_ok (hN:je) (l0:Nat) (L:List R3) (g a b:Rat) (n:Nat) (ha:uz L=true) (h0:0<=a) (hab:a<=b) (hg:0<=g) (hn:n<=200):CE 15 [pC l0 L,pS a 4 b 4,pI n,pQ g 4] (fun _=>[pS (lI L g a b n) (4+15*n) (hI L g a b n) (4+15*n),pI 0]):=by
 intro w vs hG hp;refine ze hG hN (ex:=(exG0 l0 L g a b n)) (exG0_ok hN hG (cb _) ha h0 hab hg hn) (fn:=Tryz.f15) Tryz.func15 (c:=codeOf Tryz.f15) (by kernel_rfl) (args:=[pC l0 L,pS a 4 b 4,pI n,pQ g 4]) (by kernel_rfl) hp (fun hR _ hA=>?_);refine uX (gwa l0 L g a b n) (hR _ rfl) hA (fun a1 w1 hA=>Gm ?_) (by (repeat' (first|exact trivial|apply And.intro))<;>first|exact jo.refl _ _|exact fun _ _=>kF.refl _ _|exact cX rfl|exact cZ _ _|exact jb _ _|(with_reducible assumption)|omega|with_reducible rfl|(simp only[cO];omega)|(intro j hj;exact absurd hj (cW _))|exact ET rfl (by omega)|rfl);refine EC (fun i=>gwI l0 L g a b n i) (fun i=>i<=n) (fun i=>n-i) (L:=kGrow15_n) (ks:=kGrow15_nt) (id:=0) (c:=zO kGrow15_n) (by kernel_rfl) 0 (jB _) hA (fun i a2 w2 hi hA=>?_);rcases jZ (decide ((i:Int)<(n:Int))) with q29|q29
 ·have p29:=ji q29;exact uX (gwb l0 L g a b n i) (uP hG hN (cks hN hG (cb _) (cbR ha) h0 hab hg (by omega)) _ rfl) hA (fun a3 w3 hA=>uM (by kernel_rfl) ⟨i+1,by omega,hA,by omega⟩) (by (repeat' (first|exact trivial|apply And.intro))<;>first|exact jo.refl _ _|exact fun _ _=>kF.refl _ _|exact cX rfl|exact cZ _ _|exact jb _ _|(with_reducible assumption)|omega|with_reducible rfl|(simp only[cO];omega)|(intro j hj;exact absurd hj (cW _))|exact ET rfl (by omega)|rfl)
 ·have p29:=ju q29;obtain rfl:i=n:=by omega
  refine uX (gwc l0 L g a b i i) (uP hG hN jT _ rfl) hA (fun a3 w3 hA=>yV _ (by kernel_rfl) ?_);exact kj (gwd l0 L g a b i) (uP hG hN jT _ rfl) hA
theorem chG {lo l0:Nat}{w0:World}{L:List R3}{g a b:Rat}{n:Nat}(hN:je) (hG:Gr w0) (hlo:lo<=w0.heap.size) (ha:uz L=true) (h0:0<=a) (hab:a<=b) (hg:0<=g) (hn:n<=200):jJ (Cx true lo w0) (.call 15) [pC l0 L,pS a 4 b 4,pI n,pQ g 4] (JC [pS (lI L g a b n) (4+15*n) (hI L g a b n) (4+15*n),pI 0]) :=
 (grow_ok hN l0 L g a b n ha h0 hab hg hn).ent hG hlo (ja Tryz.func15 (by kernel_rfl) rfl) (fun _ _=>⟨_,rfl,jo.refl _ _,jo.refl _ _,rfl,trivial⟩)
abbrev dlI (l0:Nat) (L:List R3) (g a b c:Rat) (i:Nat):St Dx:=⟨8,[(0,.val (.one (.sym 0 0))),(5,.val (.one (.ptr 5 0))),(6,.val (.one (.ptr 6 0))),(7,.val (.one (.ptr 7 0))),(29,.val (.one (.lit (ii (i:Int)))))],[(0,.cls (.ls (lst l0 64 12 L s3q))),(1,.cls (.q (lI L g a b i) (4+15*i))),(2,.cls (.q (hI L g a b i) (4+15*i))),(3,.cls (.q c 4)),(4,.cls (.q g 4)),(5,.blk 41 (y8 1 2) none),(6,.blk 39 (y4 3) none),(7,.blk 39 (y4 4) none)],[]⟩
theorem dlo {w:World}(l0:Nat) (L:List R3) (g a b c:Rat):runR w ⟨[(11,28,true)],[],exV1 l0 L g a b⟩ 11 43 Tryz.f11 kDeadline11_ (stA [pC l0 L,pS a 4 b 4,pQ c 4,pQ g 4]) [pI 0,pI 70]=some (.ret,[[Pat.one (Grp.cls (Dx.ls (lst l0 64 12 L s3q)))]=[pC l0 L],[Pat.agg [Grp.cls (Dx.q a 4),Grp.cls (Dx.q b 4)]]=[pS a 4 b 4],[Pat.agg [Grp.cls (Dx.q g 4)]]=[pQ g 4],4+4<=1000000,decide (jh b c>0)=true,eA (Value.int IntKind.i64 0),eA (Value.int IntKind.i64 70)]):=by kernel_rfl
theorem dla {w:World}(l0:Nat) (L:List R3) (g a b c:Rat):run w ⟨[(11,28,false)],[],exV1 l0 L g a b⟩ 11 43 kDeadline11_ (stA [pC l0 L,pS a 4 b 4,pQ c 4,pQ g 4]) (dlI l0 L g a b c 0)=some (.normal,[[Pat.one (Grp.cls (Dx.ls (lst l0 64 12 L s3q)))]=[pC l0 L],[Pat.agg [Grp.cls (Dx.q a 4),Grp.cls (Dx.q b 4)]]=[pS a 4 b 4],[Pat.agg [Grp.cls (Dx.q g 4)]]=[pQ g 4],4+4<=1000000,decide (jh b c>0)=false,sD w (.ls (lst l0 64 12 L s3q)),jo (W0 w) (.q (lI L g a b 0) (4+15*0)) (.q a 4),jo (W0 w) (.q (hI L g a b 0) (4+15*0)) (.q b 4),sD w (.q c 4),sD w (.q g 4),0=0,0=0,0=0,ii (↑0:Int)=Value.int IntKind.i64 0]):=by kernel_rfl
theorem dlb {w:World}(l0:Nat) (L:List R3) (g a b c:Rat) (i:Nat):run w ⟨[(11,30,true),(11,40,false)],[],exGn l0 L g a b i⟩ 11 43 kDeadline11_nl (dlI l0 L g a b c i) (dlI l0 L g a b c (i+1))=some (.normal,[decide ((i:Int)<200)=true,[Pat.one (Grp.cls (Dx.ls (lst l0 64 12 L s3q))),Pat.agg [Grp.cls (Dx.q (lI L g a b i) (4+15*i)),Grp.cls (Dx.q (hI L g a b i) (4+15*i))],Pat.agg [Grp.cls (Dx.q g 4)]]=[pC l0 L,pS (lI L g a b i) (4+15*i) (hI L g a b i) (4+15*i),pQ g 4],4+15*i+15+4<=1000000,decide (jh (hI L g a b (i+1)) c>0)=false,yZ ((i:Int)+1),sD w (.ls (lst l0 64 12 L s3q)),jo (W0 w) (.q (lI L g a b (i+1)) (4+15*(i+1))) (.q (lI L g a b (i+1)) (4+15*i+15)),jo (W0 w) (.q (hI L g a b (i+1)) (4+15*(i+1))) (.q (hI L g a b (i+1)) (4+15*i+15)),sD w (.q c 4),sD w (.q g 4),0=0,0=0,0=0,ii (↑(i+1):Int)=Value.int IntKind.i64 ((i:Int)+1)]):=by kernel_rfl
theorem dlr {w:World}(l0:Nat) (L:List R3) (g a b c:Rat) (i:Nat):runR w ⟨[(11,30,true),(11,40,true)],[],exGn l0 L g a b i⟩ 11 43 Tryz.f11 kDeadline11_nl (dlI l0 L g a b c i) [pI (i:Nat),pI 0]=some (.ret,[decide ((i:Int)<200)=true,[Pat.one (Grp.cls (Dx.ls (lst l0 64 12 L s3q))),Pat.agg [Grp.cls (Dx.q (lI L g a b i) (4+15*i)),Grp.cls (Dx.q (hI L g a b i) (4+15*i))],Pat.agg [Grp.cls (Dx.q g 4)]]=[pC l0 L,pS (lI L g a b i) (4+15*i) (hI L g a b i) (4+15*i),pQ g 4],4+15*i+15+4<=1000000,decide (jh (hI L g a b (i+1)) c>0)=true,Value.int IntKind.i64 (i:Int)=ii (i:Int),eA (Value.int IntKind.i64 0)]):=by kernel_rfl
theorem dlc {w:World}(l0:Nat) (L:List R3) (g a b c:Rat) (i:Nat):run w ⟨[(11,30,false)],[],[]⟩ 11 43 kDeadline11_nl (dlI l0 L g a b c i) (dlI l0 L g a b c i)=some (.exit 1,[decide ((i:Int)<200)=false,sD w (.ls (lst l0 64 12 L s3q)),sD w (.q (lI L g a b i) (4+15*i)),sD w (.q (hI L g a b i) (4+15*i)),sD w (.q c 4),sD w (.q g 4),0=0,0=0,0=0,eA (ii (i:Int))]):=by kernel_rfl
theorem dld {w:World}(l0:Nat) (L:List R3) (g a b c:Rat) (i:Nat):runR w ⟨[],[],[]⟩ 11 43 Tryz.f11 kDeadline11_nt (dlI l0 L g a b c i) [pI 200,pI 0]=some (.ret,[eA (Value.int IntKind.i64 200),eA (Value.int IntKind.i64 0)]):=by kernel_rfl
theorem dov_ok (hN:je) (l0:Nat) (L:List R3) (g a b c:Rat) (ha:uz L=true) (h0:0<=a) (hab:a<=b) (hg:0<=g) (hc:decide (jh b c>0)=true):CE 11 [pC l0 L,pS a 4 b 4,pQ c 4,pQ g 4] (fun _=>[pI 0,pI 70]):=by
 intro w vs hG hp;refine ze hG hN (ex:=(exV1 l0 L g a b)) (cgj hN hG (cb _) ha h0 hab hg) (fn:=Tryz.f11) Tryz.func11 (c:=codeOf Tryz.f11) (by kernel_rfl) (args:=[pC l0 L,pS a 4 b 4,pQ c 4,pQ g 4]) (by kernel_rfl) hp (fun hR _ hA=>?_);exact kj (dlo l0 L g a b c) (hR _ rfl) hA
theorem ddl_ok (hN:je) (l0:Nat) (L:List R3) (g a b c:Rat) (ha:uz L=true) (h0:0<=a) (hab:a<=b) (hg:0<=g) (hc:decide (jh b c>0)=false):CE 11 [pC l0 L,pS a 4 b 4,pQ c 4,pQ g 4] (fun _=>[pI (ddl L g a b c:Nat),pI 0]):=by
 intro w vs hG hp;refine ze hG hN (ex:=(exV1 l0 L g a b)) (cgj hN hG (cb _) ha h0 hab hg) (fn:=Tryz.f11) Tryz.func11 (c:=codeOf Tryz.f11) (by kernel_rfl) (args:=[pC l0 L,pS a 4 b 4,pQ c 4,pQ g 4]) (by kernel_rfl) hp (fun hR _ hA=>?_);refine uX (dla l0 L g a b c) (hR _ rfl) hA (fun a1 w1 hA=>Gm ?_) (by (repeat' (first|exact trivial|apply And.intro))<;>first|exact jo.refl _ _|exact fun _ _=>kF.refl _ _|exact cX rfl|exact cZ _ _|exact jb _ _|(with_reducible assumption)|omega|with_reducible rfl|(simp only[cO];omega)|(intro j hj;exact absurd hj (cW _))|exact ET rfl (by omega)|rfl);refine EC (fun i=>dlI l0 L g a b c i) (fun i=>i<=200/\∀ k,k<i->decide (jh (itr L g a b (k+1)).2 c>0)=false) (fun i=>200-i) (L:=kDeadline11_n) (ks:=kDeadline11_nt) (id:=1) (c:=zO kDeadline11_n) (by kernel_rfl) 0 ⟨jB _,by omega⟩ hA (fun i a2 w2 hi hA=>?_);rcases jZ (decide ((i:Int)<200)) with q30|q30
 ·have p30:=ji q30;have hE:=uP hG hN (cks (l0:=l0) (i:=i) hN hG (cb _) (cbR ha) h0 hab hg (by omega));rcases jZ (decide (jh (itr L g a b (i+1)).2 c>0)) with q40|q40
  ·rw[coG (by omega) q40 hi.2];exact kj (dlr l0 L g a b c i) (hE _ rfl) hA (ho:=⟨q30,rfl,by omega,q40,rfl,rfl,trivial⟩)
  ·exact uX (dlb l0 L g a b c i) (hE _ rfl) hA (fun a3 w3 hA=>uM (by kernel_rfl) ⟨i+1,⟨by omega,fun k hk=>by rcases Nat.lt_succ_iff_lt_or_eq.1 hk with h|rfl;exact hi.2 k h;exact q40⟩,hA,by omega⟩) (by (repeat' (first|exact trivial|apply And.intro))<;>first|exact jo.refl _ _|exact fun _ _=>kF.refl _ _|exact cX rfl|exact cZ _ _|exact jb _ _|(with_reducible assumption)|omega|with_reducible rfl|(simp only[cO];omega)|(intro j hj;exact absurd hj (cW _))|exact ET rfl (by omega)|rfl)
 ·have p30:=ju q30;refine uX (dlc l0 L g a b c i) (uP hG hN jT _ rfl) hA (fun a3 w3 hA=>yV _ (by kernel_rfl) ?_) (by clear hi hc;(repeat' (first|exact trivial|apply And.intro))<;>first|exact jo.refl _ _|exact fun _ _=>kF.refl _ _|exact cX rfl|exact cZ _ _|exact jb _ _|(with_reducible assumption)|omega|with_reducible rfl|(simp only[cO];omega)|(intro j hj;exact absurd hj (cW _))|rfl);rw[coP (fun k hk=>hi.2 k (by omega))];exact kj (dld l0 L g a b c i) (uP hG hN jT _ rfl) hA (ho:=⟨rfl,rfl,trivial⟩)
end Pe
namespace Pe
noncomputable def kSize28_:List Kp:=[.code (codeOf Tryz.f28)]
noncomputable def kspan8_:List Kp:=[.code (codeOf Tryz.f8)]
noncomputable def kBetween18_:List Kp:=[.code (codeOf Tryz.f18)]
noncomputable def kat13_:List Kp:=[.code (codeOf Tryz.f13)]
noncomputable def ksteps4_:List Kp:=[.code (codeOf Tryz.f4)]
noncomputable def ksteps4_n:List Kp:=next ksteps4_
noncomputable def ksteps4_nl:List Kp:=[.code (zO ksteps4_n)]
noncomputable def ksteps4_nt:List Kp:=ksteps4_n.tail
noncomputable def kgrown14_:List Kp:=[.code (codeOf Tryz.f14)]
noncomputable def kgrown14_n:List Kp:=next kgrown14_
noncomputable def kgrown14_nl:List Kp:=[.code (zO kgrown14_n)]
noncomputable def kgrown14_nt:List Kp:=kgrown14_n.tail
abbrev pEn (a b:Tx):Pat Dx:=.agg [.lit (str a),.lit (str b)]
abbrev pRS (r s:Rat):Pat Dx:=.agg [.cls (.rq r 4),.cls (.rq s 4)]
def conSz:Con
 |[.agg [.cls (.rq r j)],.agg [.cls (.rq s k)]]=>some (vr (.bool (okSp r s)),[j+k<=10000])
 |_=>none
theorem cjJ (a:Rat):decide (sign a>=0)=!decide (sign a<0):=by
 by_cases h:sign a<0
 ·rw[cH h,cJ (by omega)];rfl
 ·rw[cJ h,cH (by omega)];rfl
noncomputable abbrev szcR (w:World) (a b:Rat) (j k:Nat)  (o:List (Nat×Nat×Bool)):=runR w ⟨o,[],[]⟩ 28 14 Tryz.f28 kSize28_ (stA [pR a j,pR b k]) (rB (okSp a b))
theorem szc0 {w:World}(a b:Rat) (j k:Nat):szcR w a b j k [(28,7,true),(28,12,true)]=some (.ret,[decide (sign a>=0)=true,j+k<=10000,decide (jh a b<=0)=true,Value.bool (okSp a b)=Value.bool true]):=by kernel_rfl
theorem szc1 {w:World}(a b:Rat) (j k:Nat):szcR w a b j k [(28,7,true),(28,12,false)]=some (.ret,[decide (sign a>=0)=true,j+k<=10000,decide (jh a b<=0)=false,Value.bool (okSp a b)=Value.bool false]):=by kernel_rfl
theorem szc2 {w:World}(a b:Rat) (j k:Nat):szcR w a b j k [(28,7,false)]=some (.ret,[decide (sign a>=0)=false,Value.bool (okSp a b)=Value.bool false]):=by kernel_rfl
theorem sz_ok (hN:je) (a b:Rat) (j k:Nat) (hj:j+k<=10000):CE 28 [pR a j,pR b k] (fun _=>rB (okSp a b)):=by
 intro w vs hG hp;refine ze hG hN (ex:=[]) jT (fn:=Tryz.f28) Tryz.func28 (c:=codeOf Tryz.f28) (by kernel_rfl) (args:=[pR a j,pR b k]) (by kernel_rfl) hp (fun hR _ hA=>?_);rcases jZ (decide (sign a>=0)) with q7|q7
 ·skip
  have p7:=ji q7;rcases jZ (decide (jh a b<=0)) with q12|q12
  ·skip
   have p12:=ji q12;refine kj (szc0 a b j k) (hR _ rfl) hA (by (repeat' (first|exact trivial|apply And.intro))<;>first|exact jo.refl _ _|exact fun _ _=>kF.refl _ _|exact cX rfl|exact cZ _ _|exact jb _ _|(with_reducible assumption)|omega|with_reducible rfl|(simp only[cO];omega)|(intro j hj;exact absurd hj (cW _))|exact cu Value.bool (by unfold okSp;rw[← cjJ,q7];first|rfl|(rw[q12];rfl))|rfl)
  ·skip
   have p12:=ju q12;refine kj (szc1 a b j k) (hR _ rfl) hA (by (repeat' (first|exact trivial|apply And.intro))<;>first|exact jo.refl _ _|exact fun _ _=>kF.refl _ _|exact cX rfl|exact cZ _ _|exact jb _ _|(with_reducible assumption)|omega|with_reducible rfl|(simp only[cO];omega)|(intro j hj;exact absurd hj (cW _))|exact cu Value.bool (by unfold okSp;rw[← cjJ,q7];first|rfl|(rw[q12];rfl))|rfl)
 ·skip
  have p7:=ju q7;refine kj (szc2 a b j k) (hR _ rfl) hA (by (repeat' (first|exact trivial|apply And.intro))<;>first|exact jo.refl _ _|exact fun _ _=>kF.refl _ _|exact cX rfl|exact cZ _ _|exact jb _ _|(with_reducible assumption)|omega|with_reducible rfl|(simp only[cO];omega)|(intro j hj;exact absurd hj (cW _))|exact cu Value.bool (by unfold okSp;rw[← cjJ,q7];first|rfl|(rw[q12];rfl))|rfl)
theorem cnR {lo:Nat}{w0:World}(hN:je) (hG:Gr w0) (hlo:lo<=w0.heap.size):∀ l r ob,conSz l=some (r,ob)->jS ob->jJ (Cx true lo w0) (.call 28) l r:=by
 intro l r ob h ho;unfold conSz at h;split at h
 ·injection h with h;injection h with h1 h2;subst h1;subst h2
  exact(sz_ok hN _ _ _ _ ho.1).val hG hlo (ja Tryz.func28 (by kernel_rfl) rfl)
 ·cases h
abbrev exSz:List (Nat×Con):=[(28,conSz)]
noncomputable abbrev spaR (w:World) (a b:Tx)   (o:List (Nat×Nat×Bool)):=runR w ⟨o,[],exSz⟩ 8 26 Tryz.f8 kspan8_ (stA [pEn a b]) [pS (nq a) 4 (nq b) 4,pRS (nq a) (nq b),.one (.lit (.bool (okSp (nq a) (nq b))))]
theorem spa0 {w:World}(a b:Tx):spaR w a b []=some (.ret,[List.length a<=60,List.length b<=60,List.length a<=60,List.length b<=60,4+4<=10000,jo (W0 w) (.q (nq a) 4) (.q (jN a).1 4),jo (W0 w) (.q (nq b) 4) (.q (jN b).1 4),jo (W0 w) (.rq (nq a) 4) (.rq (jN a).1 4),jo (W0 w) (.rq (nq b) 4) (.rq (jN b).1 4),Value.bool (okSp (nq a) (nq b))=Value.bool (okSp (jN a).1 (jN b).1),kN (W0 w) (.q (nq a) 4),kN (W0 w) (.q (nq b) 4),kN (W0 w) (.rq (nq a) 4),kN (W0 w) (.rq (nq b) 4)]):=by kernel_rfl
theorem span_ok (hN:je) (a b:Tx) (ha:a.length<=60) (hb:b.length<=60):CE 8 [pEn a b] (fun _=>[pS (nq a) 4 (nq b) 4,pRS (nq a) (nq b),.one (.lit (.bool (okSp (nq a) (nq b))))]):=by
 intro w vs hG hp;refine ze hG hN (ex:=exSz) (jm (cnR hN hG (cb _)) jT) (fn:=Tryz.f8) Tryz.func8 (c:=codeOf Tryz.f8) (by kernel_rfl) (args:=[pEn a b]) (by kernel_rfl) hp (fun hR _ hA=>?_);refine kj (spa0 a b) (hR _ rfl) hA
theorem cht {lo:Nat}{w0:World}{a b:Tx}(hN:je) (hG:Gr w0) (hlo:lo<=w0.heap.size) (ha:a.length<=60) (hb:b.length<=60):jJ (Cx true lo w0) (.call 8) [pEn a b] (JC [pS (nq a) 4 (nq b) 4,pRS (nq a) (nq b),.one (.lit (.bool (okSp (nq a) (nq b))))]) :=
 (span_ok hN a b ha hb).ent hG hlo (ja Tryz.func8 (by kernel_rfl) rfl) (fun _ _=>⟨_,rfl,jo.refl _ _,jo.refl _ _,jo.refl _ _,jo.refl _ _,rfl,trivial⟩)
noncomputable abbrev rbtR (w:World) (r s:Rat) (o:List (Nat×Nat×Bool)):=runR w ⟨o,[],[]⟩ 18 12 Tryz.f18 kBetween18_ (stA [pR r 4,pR s 4]) [pRS (Sym.minQ r s) (Sym.maxQ r s)]
theorem rbt0 {w:World}(r s:Rat):rbtR w r s []=some (.ret,[4<=5000/\4=4,4<=5000/\4=4,sD w (.rq (Sym.minQ r s) 4),sD w (.rq (Sym.maxQ r s) 4),kN (W0 w) (.rq (Sym.minQ r s) 4),kN (W0 w) (.rq (Sym.maxQ r s) 4)]):=by kernel_rfl
theorem rbt_ok (hN:je) (r s:Rat):CE 18 [pR r 4,pR s 4] (fun _=>[pRS (Sym.minQ r s) (Sym.maxQ r s)]):=by
 intro w vs hG hp;refine ze hG hN (ex:=[]) jT (fn:=Tryz.f18) Tryz.func18 (c:=codeOf Tryz.f18) (by kernel_rfl) (args:=[pR r 4,pR s 4]) (by kernel_rfl) hp (fun hR _ hA=>?_);refine kj (rbt0 r s) (hR _ rfl) hA
theorem rbt_ent {lo:Nat}{w0:World}{r s:Rat}(hN:je) (hG:Gr w0) (hlo:lo<=w0.heap.size):jJ (Cx true lo w0) (.call 18) [pR r 4,pR s 4] (JC [pRS (Sym.minQ r s) (Sym.maxQ r s)]) :=
 (rbt_ok hN r s).ent hG hlo (ja Tryz.func18 (by kernel_rfl) rfl) (fun _ _=>⟨_,rfl,jo.refl _ _,jo.refl _ _,trivial⟩)
abbrev q3 (x:P3):R3:=(nq x.1,nq x.2.1,nq x.2.2)
abbrev r3 (x:P3):List (Grp Dx):=[.cls (.rq (nq x.1) 4),.cls (.rq (Sym.minQ (nq x.2.1) (nq x.2.2)) 4),.cls (.rq (Sym.maxQ (nq x.2.1) (nq x.2.2)) 4)]
abbrev pL3 (lo ty:Nat) (l:List P3):Pat Dx:=.one (.cls (.ls (lst lo ty 3 l f3)))
abbrev pD (lo:Nat) (l:List P3):Pat Dx:=.one (.cls (.ls (lst lo 68 9 l r3)))
def lg3 (x:P3):Bool:=lgB [x.1,x.2.1,x.2.2]
def okN6 (n:Nat):Bool:=(decide ((n:Int)>6)&&decide ((n:Int)<=30))||decide ((n:Int)>35)
def JF (l:List P3):Bool:=!okN6 l.length&&!anyP l.length (fun i=>lg3 (l.getD i default))
theorem Za {T:List Tx}(h:lgB T=false):∀ t∈T,t.length<=30:=by
 intro t ht;obtain⟨i,hi,rfl⟩:=List.mem_iff_getElem.1 ht;have:=ju (cfV h hi);rw[YT hi] at this;omega
theorem cgm {x:P3}(h:lg3 x=false):x.1.length<=60/\x.2.1.length<=60/\x.2.2.length<=60:=by
 have:=Za h;refine⟨cC (this _ (by simp)) (by decide),cC (this _ (by simp)) (by decide),cC (this _ (by simp)) (by decide)⟩
abbrev caX:List (Nat×Con):=[(5,clu)]
theorem YM {lo:Nat}{w0:World}(hN:je) (hG:Gr w0) (hlo:lo<=w0.heap.size):Ef true lo w0 caX:=jm (cgU hN hG hlo) jT
noncomputable abbrev exSs (x:P3):List (Nat×Con):=(8,Cs [pEn x.2.1 x.2.2] (JC [pS (nq x.2.1) 4 (nq x.2.2) 4,pRS (nq x.2.1) (nq x.2.2),.one (.lit (.bool (okSp (nq x.2.1) (nq x.2.2))))]))::(18,Cs [pR (nq x.2.1) 4,pR (nq x.2.2) 4] (JC [pRS (Sym.minQ (nq x.2.1) (nq x.2.2)) (Sym.maxQ (nq x.2.1) (nq x.2.2))]))::caX
theorem exSs_ok {lo:Nat}{w0:World}{x:P3}(hN:je) (hG:Gr w0) (hlo:lo<=w0.heap.size) (h:lg3 x=false):Ef true lo w0 (exSs x) :=
 jm (kZ (cht hN hG hlo (cgm h).2.1 (cgm h).2.2)) (jm (kZ (rbt_ent hN hG hlo)) (YM hN hG hlo))
abbrev stI (r0 ty:Nat) (l:List P3) (i:Nat):St Dx:=⟨3,[(0,.val (.one (.sym 0 0))),(5,.val (.one (.fn 1))),(6,.val (.one (.fn 2))),(7,.val (.one (.lit (ii (i:Int)))))],[(0,.cls (.ls (lst r0 ty 3 l f3))),(1,.gl 64 12 i (fun j=>s3q (q3 (l.getD j default)))),(2,.gl 68 9 i (fun j=>r3 (l.getD j default)))],[]⟩
abbrev cfv:List (Pat Dx):=[.one (.lit (.slice none 0 0)),.one (.lit (.slice none 0 0)),.one (.lit (.bool false))]
theorem sta1 {w:World}(r0 ty:Nat) (l:List P3):run w ⟨[(4,13,true),(4,17,false),(4,22,false)],[],caX⟩ 4 99 ksteps4_ (stA [pL3 r0 ty l]) (stI r0 ty l 0)=some (.normal,[decide ((l.length:Int)>6)=true,decide ((l.length:Int)<=30)=false,decide ((l.length:Int)>35)=false,sD w (.ls (lst r0 ty 3 l f3)),0=0,∀ (j:Nat),j<0->kF (W0 w) (s3q (q3 (l.getD j default))) [],0=0,∀ (j:Nat),j<0->kF (W0 w) (r3 (l.getD j default)) [],ii (↑0:Int)=Value.int IntKind.i64 0]):=by kernel_rfl
theorem sta2 {w:World}(r0 ty:Nat) (l:List P3):run w ⟨[(4,13,false),(4,22,false)],[],caX⟩ 4 99 ksteps4_ (stA [pL3 r0 ty l]) (stI r0 ty l 0)=some (.normal,[decide ((l.length:Int)>6)=false,decide ((l.length:Int)>35)=false,sD w (.ls (lst r0 ty 3 l f3)),0=0,∀ (j:Nat),j<0->kF (W0 w) (s3q (q3 (l.getD j default))) [],0=0,∀ (j:Nat),j<0->kF (W0 w) (r3 (l.getD j default)) [],ii (↑0:Int)=Value.int IntKind.i64 0]):=by kernel_rfl
theorem stn1 {w:World}(r0 ty:Nat) (l:List P3):runR w ⟨[(4,13,true),(4,17,true)],[],caX⟩ 4 99 Tryz.f4 ksteps4_ (stA [pL3 r0 ty l]) cfv=some (.ret,[decide ((l.length:Int)>6)=true,decide ((l.length:Int)<=30)=true,eA (Value.slice none 0 0),eA (Value.slice none 0 0),eA (Value.bool false)]):=by kernel_rfl
theorem stn2 {w:World}(r0 ty:Nat) (l:List P3):runR w ⟨[(4,13,true),(4,17,false),(4,22,true)],[],caX⟩ 4 99 Tryz.f4 ksteps4_ (stA [pL3 r0 ty l]) cfv=some (.ret,[decide ((l.length:Int)>6)=true,decide ((l.length:Int)<=30)=false,decide ((l.length:Int)>35)=true,eA (Value.slice none 0 0),eA (Value.slice none 0 0),eA (Value.bool false)]):=by kernel_rfl
theorem stn3 {w:World}(r0 ty:Nat) (l:List P3):runR w ⟨[(4,13,false),(4,22,true)],[],caX⟩ 4 99 Tryz.f4 ksteps4_ (stA [pL3 r0 ty l]) cfv=some (.ret,[decide ((l.length:Int)>6)=false,decide ((l.length:Int)>35)=true,eA (Value.slice none 0 0),eA (Value.slice none 0 0),eA (Value.bool false)]):=by kernel_rfl
theorem stb {w:World}(r0 ty:Nat) (l:List P3) (i:Nat):run w ⟨[(4,29,true),(4,50,false)],[(4,71),(4,96)],exSs (l.getD i default)⟩ 4 99 ksteps4_nl (stI r0 ty l i) (stI r0 ty l (i+1))=some (.normal,[decide ((i:Int)<(l.length:Int))=true,i<l.length,i<l.length,i<l.length,i<l.length,i<l.length,i<l.length,lgB [(l.getD i default).1,(l.getD i default).2.1,(l.getD i default).2.2]=false,3=[(l.getD i default).1,(l.getD i default).2.1,(l.getD i default).2.2].length,[(l.getD i default).1,(l.getD i default).2.1,(l.getD i default).2.2].length<=1000000,i<l.length,i<l.length,[Pat.agg [Grp.lit (str (l.getD i default).2.1),Grp.lit (str (l.getD i default).2.2)]]=[pEn (l.getD i default).2.1 (l.getD i default).2.2],i<l.length,i<l.length,List.length (l.getD i default).1<=60,i+1<=1000000,i<l.length,i<l.length,List.length (l.getD i default).1<=60,i<l.length,i<l.length,List.length (l.getD i default).2.1<=60,i<l.length,i<l.length,List.length (l.getD i default).2.2<=60,[Pat.agg [Grp.cls (Dx.rq (jN (l.getD i default).2.1).1 4)],Pat.agg [Grp.cls (Dx.rq (jN (l.getD i default).2.2).1 4)]]=[pR (nq (l.getD i default).2.1) 4,pR (nq (l.getD i default).2.2) 4],i+1<=1000000,yZ ((i:Int)+1),sD w (.ls (lst r0 ty 3 l f3)),i+1=i+1,sN w i (fun j=>s3q (q3 (l.getD j default))) [Grp.cls (Dx.q (jN (l.getD i default).1).1 4),Grp.cls (Dx.q (nq (l.getD i default).2.1) 4),Grp.cls (Dx.q (nq (l.getD i default).2.2) 4)],i+1=i+1,sN w i (fun j=>r3 (l.getD j default)) [Grp.cls (Dx.rq (jN (l.getD i default).1).1 4),Grp.cls (Dx.rq (Sym.minQ (nq (l.getD i default).2.1) (nq (l.getD i default).2.2)) 4),Grp.cls (Dx.rq (Sym.maxQ (nq (l.getD i default).2.1) (nq (l.getD i default).2.2)) 4)],ii (↑(i+1):Int)=Value.int IntKind.i64 ((i:Int)+1)]):=by kernel_rfl
theorem stbr {w:World}(r0 ty:Nat) (l:List P3) (i:Nat):runR w ⟨[(4,29,true),(4,50,true)],[],caX⟩ 4 99 Tryz.f4 ksteps4_nl (stI r0 ty l i) cfv=some (.ret,[decide ((i:Int)<(l.length:Int))=true,i<l.length,i<l.length,i<l.length,i<l.length,i<l.length,i<l.length,lgB [(l.getD i default).1,(l.getD i default).2.1,(l.getD i default).2.2]=true,3=[(l.getD i default).1,(l.getD i default).2.1,(l.getD i default).2.2].length,[(l.getD i default).1,(l.getD i default).2.1,(l.getD i default).2.2].length<=1000000,eA (Value.slice none 0 0),eA (Value.slice none 0 0),eA (Value.bool false)]):=by kernel_rfl
theorem stc {w:World}(r0 ty:Nat) (l:List P3) (i:Nat):run w ⟨[(4,29,false)],[],caX⟩ 4 99 ksteps4_nl (stI r0 ty l i) (stI r0 ty l i)=some (.exit 0,[decide ((i:Int)<(l.length:Int))=false,sD w (.ls (lst r0 ty 3 l f3)),i=i,sG w i (fun j=>s3q (q3 (l.getD j default))),i=i,sG w i (fun j=>r3 (l.getD j default)),eA (ii (i:Int))]):=by kernel_rfl
theorem std {w:World}(r0 ty:Nat) (l:List P3):runR w ⟨[],[],caX⟩ 4 99 Tryz.f4 ksteps4_nt (stI r0 ty l l.length) [pC w.heap.size (l.map q3),pD w.heap.size l,.one (.lit (.bool true))]=some (.ret,[jo (W0 w) (.ls (lst w.1.size 64 12 (List.map q3 l) s3q)) (.ls { lo:=w.1.size,ty:=64,z:=12,n:=l.length,g:=fun(j:Nat)=>s3q (q3 (l.getD j default)) }),jo (W0 w) (.ls (lst w.1.size 68 9 l r3)) (.ls { lo:=w.1.size,ty:=68,z:=9,n:=l.length,g:=fun(j:Nat)=>r3 (l.getD j default) }),eA (Value.bool true),kN (W0 w) (.ls (lst w.1.size 64 12 (List.map q3 l) s3q)),kN (W0 w) (.ls (lst w.1.size 68 9 l r3))]):=by kernel_rfl
theorem okSt_is {l:List P3}(h:JF l=true):okN6 l.length=false/\∀ i,i<l.length->lg3 (l.getD i default)=false:=by
 unfold JF at h;rw[zq,Bool.not_eq_true',Bool.not_eq_true'] at h;exact⟨h.1,fun i hi=>cfV h.2 hi⟩
theorem coW {l:List P3}{i:Nat}(hi:i<l.length) (h:lg3 (l.getD i default)=true):JF l=false:=by
 unfold JF;rw[Zu (p:=fun i=>lg3 (l.getD i default)) hi h,Bool.not_true,GV]
theorem coX {l:List P3}(h:okN6 l.length=false) (hb:∀ i,i<l.length->lg3 (l.getD i default)=false):JF l=true:=by
 unfold JF;rw[h,Yf hb];rfl
section
variable {w:World}{r0 ty:Nat}{l:List P3}
theorem clb (hN:je) (hG:Gr w) {ps:List (Pat Dx)}(hbad:JF l=false->ps=cfv) (hok:JF l=true->ps=[pC w.heap.size (l.map q3),pD w.heap.size l,.one (.lit (.bool true))]) (hn:okN6 l.length=false) {a:Act}{w1:World}(hA:At (W0 w) 99 (stI r0 ty l 0) a w1) :
 after Fence.wide 0 Tryz.prog ksteps4_n (Ret (W0 w) Tryz.f4 (Res (W0 w) ps)) .normal a w1:=by
 have hR:=uP (w:=w) hG hN (YM hN hG (cb _));have hle:l.length<=1000:=by
  unfold okN6 at hn;rw[cgf] at hn;have:=ju hn.2;omega
 refine EC (fun i=>stI r0 ty l i) (fun i=>i<=l.length/\∀ k,k<i->lg3 (l.getD k default)=false) (fun i=>l.length-i) (L:=ksteps4_n) (ks:=ksteps4_nt) (id:=0) (c:=zO ksteps4_n) (by kernel_rfl) 0 ⟨jB _,by omega⟩ hA (fun i a2 w2 hi hA=>?_);rcases jZ (decide ((i:Int)<(l.length:Int))) with q29|q29
 ·have p29:=ji q29;have hlt:i<l.length:=by omega
  rcases jZ (lg3 (l.getD i default)) with q50|q50
  ·rw[hbad (coW hlt q50)];exact kj (stbr r0 ty l i) (hR _ rfl) hA (by (repeat' (first|exact trivial|apply And.intro))<;>first|exact jo.refl _ _|exact fun _ _=>kF.refl _ _|exact cX rfl|exact cZ _ _|exact jb _ _|(with_reducible assumption)|omega|with_reducible rfl|(simp only[cO];omega)|(intro j hj;exact absurd hj (cW _))|exact q50|exact(show (3:Nat)<=1000000 by decide)|rfl)
  ·obtain⟨e1,e2,e3⟩:=cgm q50;exact uX (stb r0 ty l i) (uP hG hN (exSs_ok hN hG (cb _) q50) _ rfl) hA (fun a3 w3 hA=>uM (by kernel_rfl) ⟨i+1,⟨by omega,fun k hk=>by rcases Nat.lt_succ_iff_lt_or_eq.1 hk with h|rfl;exact hi.2 k h;exact q50⟩,hA,by omega⟩) (by (repeat' (first|exact trivial|apply And.intro))<;>first|exact jo.refl _ _|exact fun _ _=>kF.refl _ _|exact cX rfl|exact cZ _ _|exact jb _ _|(with_reducible assumption)|omega|with_reducible rfl|(simp only[cO];omega)|(intro j hj;exact absurd hj (cW _))|exact q50|exact(show (3:Nat)<=1000000 by decide)|exact e1|exact e2|exact e3|rfl)
 ·have p29:=ju q29;obtain rfl:i=l.length:=by omega
  refine uX (stc r0 ty l l.length) (hR _ rfl) hA (fun a3 w3 hA=>yV _ (by kernel_rfl) ?_);rw[hok (coX hn hi.2)];refine kj (std r0 ty l) (hR _ rfl) hA (ho:=⟨sub_map (f:=fun x=>s3q (q3 x)) (fun _=>rfl),jo.refl _ _,rfl,clT (cb _) ?_,clT (cb _) ?_,trivial⟩)
  ·intro j hj d hd;simp [lst,Ek] at hd;rcases hd with rfl|rfl|rfl<;>exact cZ _ _
  ·intro j hj d hd;simp [lst,Ek] at hd;rcases hd with rfl|rfl|rfl<;>exact jb _ _
theorem st_all (hN:je) (hG:Gr w) {ps:List (Pat Dx)}(hbad:JF l=false->ps=cfv) (hok:JF l=true->ps=[pC w.heap.size (l.map q3),pD w.heap.size l,.one (.lit (.bool true))]) {a:Act}{w1:World}(hA:At (W0 w) 99 (stA [pL3 r0 ty l]) a w1) :
 after Fence.wide 0 Tryz.prog ksteps4_ (Ret (W0 w) Tryz.f4 (Res (W0 w) ps)) .normal a w1:=by
 have hR:=uP (w:=w) hG hN (YM hN hG (cb _));have hno:okN6 l.length=true->JF l=false:=fun h=>by unfold JF;rw[h];rfl
 rcases jZ (decide ((l.length:Int)>6)) with q13|q13
 ·rcases jZ (decide ((l.length:Int)<=30)) with q17|q17
  ·rw[hbad (hno (by unfold okN6;rw[q13,q17];rfl))];exact kj (stn1 r0 ty l) (hR _ rfl) hA
  ·rcases jZ (decide ((l.length:Int)>35)) with q22|q22
   ·rw[hbad (hno (by unfold okN6;rw[q22,Bool.or_true]))];exact kj (stn2 r0 ty l) (hR _ rfl) hA
   ·exact uX (sta1 r0 ty l) (hR _ rfl) hA (fun a3 w3 hA=>Gm (clb hN hG hbad hok (by unfold okN6;rw[q13,q17,q22];rfl) hA))
 ·rcases jZ (decide ((l.length:Int)>35)) with q22|q22
  ·rw[hbad (hno (by unfold okN6;rw[q22,Bool.or_true]))];exact kj (stn3 r0 ty l) (hR _ rfl) hA
  ·exact uX (sta2 r0 ty l) (hR _ rfl) hA (fun a3 w3 hA=>Gm (clb hN hG hbad hok (by unfold okN6;rw[q13,q22];rfl) hA))
end
theorem stT_ok (hN:je) (r0 ty:Nat) (l:List P3) (hl:JF l=true):CE 4 [pL3 r0 ty l] (fun lo=>[pC lo (l.map q3),pD lo l,.one (.lit (.bool true))]):=by
 intro w vs hG hp;refine ze hG hN (ex:=caX) (YM hN hG (cb _)) (fn:=Tryz.f4) Tryz.func4 (c:=codeOf Tryz.f4) (by kernel_rfl) (args:=[pL3 r0 ty l]) (by kernel_rfl) hp (fun hR _ hA=>?_);exact st_all hN hG (fun h=>by rw[hl] at h;cases h) (fun _=>rfl) hA
theorem stF_ok (hN:je) (r0 ty:Nat) (l:List P3) (hl:JF l=false):CE 4 [pL3 r0 ty l] (fun _=>cfv):=by
 intro w vs hG hp;refine ze hG hN (ex:=caX) (YM hN hG (cb _)) (fn:=Tryz.f4) Tryz.func4 (c:=codeOf Tryz.f4) (by kernel_rfl) (args:=[pL3 r0 ty l]) (by kernel_rfl) hp (fun hR _ hA=>?_);exact st_all hN hG (fun _=>rfl) (fun h=>by rw[hl] at h;cases h) hA
theorem stT_ent {lo r0 ty:Nat}{w0:World}{l:List P3}(hN:je) (hG:Gr w0) (hlo:lo<=w0.heap.size) (hl:JF l=true):jJ (Cx true lo w0) (.call 4) [pL3 r0 ty l] (JC [pC lo (l.map q3),pD lo l,.one (.lit (.bool true))]) :=
 (stT_ok hN r0 ty l hl).ent hG hlo (ja Tryz.func4 (by kernel_rfl) rfl) (fun hi h=>⟨_,rfl,sub_lo (L:=lst lo _ 12 _ s3q) h,sub_lo (L:=lst lo _ 9 _ r3) h,rfl,trivial⟩)
theorem stF_ent {lo r0 ty:Nat}{w0:World}{l:List P3}(hN:je) (hG:Gr w0) (hlo:lo<=w0.heap.size) (hl:JF l=false):jJ (Cx true lo w0) (.call 4) [pL3 r0 ty l] (JC cfv) :=
 (stF_ok hN r0 ty l hl).ent hG hlo (ja Tryz.func4 (by kernel_rfl) rfl) (fun _ _=>⟨_,rfl,rfl,rfl,rfl,trivial⟩)
def conBw:Con
 |[.agg [.cls (.q a j)],.agg [.cls (.q b k)]]=>ck false (a<=b/\j<=1000000/\k<=1000000) (sr a j b k)
 |_=>none
theorem coe {lo:Nat}{w0:World}:∀ l r ob,conBw l=some (r,ob)->jS ob->jJ (Cx true lo w0) (.call 35) l r:=by
 intro l res ob h ho;unfold conBw at h;split at h
 ·rename_i a j b k;obtain⟨⟨hk,hj,hk'⟩,rfl⟩:=EL h ho;refine⟨ja Tryz.func35 (by kernel_rfl) rfl,fun w vs hb hvs=>?_⟩;obtain⟨v1,_,rfl,h1,v2,_,rfl,h2,rfl⟩:=hvs;obtain⟨h1,z1⟩:=ZM (r:=a) (k:=j) rfl h1;obtain⟨h2,z2⟩:=ZM (r:=b) (k:=k) rfl h2;refine(chr v1 v2 a b (j+k) w h1 h2 (z1.le (by omega)) (z2.le (by omega)) (by omega)).mono fun _ _ h=>?_;rw[cjg hk,cfI hk] at h;exact res_s z1 z2 h
 ·cases h
abbrev exBw:List (Nat×Con):=[(35,conBw)]
theorem exBw_ok {lo:Nat}{w0:World}:Ef true lo w0 exBw:=jm coe jT
abbrev pU8 (u:Nat):Pat Dx:=.one (.lit (.int .u8 (Int.ofNat u)))
noncomputable abbrev atcR (w:World) (a b:Rat) (p:Nat)   (o:List (Nat×Nat×Bool)):=runR w ⟨o,[],exBw⟩ 13 28 Tryz.f13 kat13_ (stA [pS a 4 b 4,pU8 p]) [pQ (atV a b p) 16]
theorem atc0 {w:World}(a b:Rat) (p:Nat):atcR w a b p []=some (.ret,[a<=b/\4<=1000000/\4<=1000000,p<=255,yZ (Int.ofNat p)/\yZ 255/\(255:Int)≠0,4+4+1<=1000000,4+4+1+2<=1000000,4+(4+4+1+2)+1<=1000000,jo (W0 w) (.q (atV a b p) 16) (.q (a+(b-a)*((↑(Int.ofNat p):Rat)/(↑255:Rat))) (4+(4+4+1+2)+1)),kN (W0 w) (.q (atV a b p) 16)]):=by kernel_rfl
theorem at_ok (hN:je) (a b:Rat) (p:Nat) (hab:a<=b) (hp:p<=255):CE 13 [pS a 4 b 4,pU8 p] (fun _=>[pQ (atV a b p) 16]):=by
 intro w vs hG hp;refine ze hG hN (ex:=exBw) exBw_ok (fn:=Tryz.f13) Tryz.func13 (c:=codeOf Tryz.f13) (by kernel_rfl) (args:=[pS a 4 b 4,pU8 p]) (by kernel_rfl) hp (fun hR _ hA=>?_);refine kj (atc0 a b p) (hR _ rfl) hA (by (repeat' (first|exact trivial|apply And.intro))<;>first|exact jo.refl _ _|exact fun _ _=>kF.refl _ _|exact cX rfl|exact cZ _ _|exact jb _ _|(with_reducible assumption)|omega|with_reducible rfl|(simp only[cO];omega)|(intro j hj;exact absurd hj (cW _))|exact⟨hab,by decide,by decide⟩|(refine⟨⟨by omega,by omega⟩,⟨by decide,by decide⟩,by decide⟩)|rfl)
theorem at_ent {lo:Nat}{w0:World}{a b:Rat}{p:Nat}(hN:je) (hG:Gr w0) (hlo:lo<=w0.heap.size) (hab:a<=b) (hp:p<=255):jJ (Cx true lo w0) (.call 13) [pS a 4 b 4,pU8 p] (qr (atV a b p) 16) :=
 (at_ok hN a b p hab hp).num hG hlo (ja Tryz.func13 (by kernel_rfl) rfl)
abbrev lwI (l0:Nat) (L:List R3) (x:Rat) (m p i s:Nat):St Dx:=⟨7,[(0,.val (.one (.sym 0 0))),(2,.val (.one (.lit (.int .u8 (Int.ofNat p))))),(4,.val (.one (.ptr 4 0))),(6,.val (.one (.ptr 5 0))),(7,.val (.one (.ptr 6 0))),(8,.val (.one (.lit (ii (i:Int)))))],[(0,.cls (.ls (lst l0 64 12 L s3q))),(1,.cls (.q x m)),(2,.cls (.q (gl L s) 4)),(3,.cls (.q (gh L s) 4)),(4,.blk 39 (y4 1) none),(5,.blk 39 [.lit (.bool false),.lit (.int .u64 0),.lit (.int .u64 0),.lit (.pointer none)] none),(6,.blk 41 (y8 2 3) none)],[]⟩
noncomputable abbrev exLw (L:List R3) (p s:Nat):List (Nat×Con):=[(13,Cs [pS (gl L s) 4 (gh L s) 4,pU8 p] (qr (atV (gl L s) (gh L s) p) 16))]
theorem lwa {w:World}(l0:Nat) (L:List R3) (x:Rat) (m p:Nat):run w ⟨[],[],[]⟩ 14 37 kgrown14_ (stA [pC l0 L,pQ x m,pU8 p]) (lwI l0 L x m p 0 0)=some (.normal,[0<L.length,0<L.length,sD w (.ls (lst l0 64 12 L s3q)),sD w (.q x m),jo (W0 w) (.q (gl L 0) 4) (.q (L.getD 0 default).2.1 4),jo (W0 w) (.q (gh L 0) 4) (.q (L.getD 0 default).2.2 4)]++(zV++[eA (Value.int IntKind.u8 (Int.ofNat p)),0=0,0=0,0=0,ii (↑0:Int)=Value.int IntKind.i64 0])):=by kernel_rfl
theorem lwb1 {w:World}(l0:Nat) (L:List R3) (x:Rat) (m p i s:Nat):run w ⟨[(14,16,true),(14,26,true)],[],[]⟩ 14 37 kgrown14_nl (lwI l0 L x m p i s) (lwI l0 L x m p (i+1) i)=some (.normal,[decide ((i:Int)<(L.length:Int))=true,i<L.length,i<L.length,4+m<=1000000,decide (jh (L.getD i default).1 x<=0)=true,i<L.length,i<L.length,yZ ((i:Int)+1),sD w (.ls (lst l0 64 12 L s3q)),sD w (.q x m),jo (W0 w) (.q (gl L i) 4) (.q (L.getD i default).2.1 4),jo (W0 w) (.q (gh L i) 4) (.q (L.getD i default).2.2 4)]++(zV++[eA (Value.int IntKind.u8 (Int.ofNat p)),0=0,0=0,0=0,ii (↑(i+1):Int)=Value.int IntKind.i64 ((i:Int)+1)])):=by kernel_rfl
theorem lwb2 {w:World}(l0:Nat) (L:List R3) (x:Rat) (m p i s:Nat):run w ⟨[(14,16,true),(14,26,false)],[],[]⟩ 14 37 kgrown14_nl (lwI l0 L x m p i s) (lwI l0 L x m p (i+1) s)=some (.normal,[decide ((i:Int)<(L.length:Int))=true,i<L.length,i<L.length,4+m<=1000000,decide (jh (L.getD i default).1 x<=0)=false,yZ ((i:Int)+1),sD w (.ls (lst l0 64 12 L s3q)),sD w (.q x m),sD w (.q (gl L s) 4),sD w (.q (gh L s) 4)]++(zV++[eA (Value.int IntKind.u8 (Int.ofNat p)),0=0,0=0,0=0,ii (↑(i+1):Int)=Value.int IntKind.i64 ((i:Int)+1)])):=by kernel_rfl
theorem lwc {w:World}(l0:Nat) (L:List R3) (x:Rat) (m p i s:Nat):run w ⟨[(14,16,false)],[],[]⟩ 14 37 kgrown14_nl (lwI l0 L x m p i s) (lwI l0 L x m p i s)=some (.exit 0,[decide ((i:Int)<(L.length:Int))=false,sD w (.ls (lst l0 64 12 L s3q)),sD w (.q x m),sD w (.q (gl L s) 4),sD w (.q (gh L s) 4)]++(zV++[eA (Value.int IntKind.u8 (Int.ofNat p)),0=0,0=0,0=0,eA (ii (i:Int))])):=by kernel_rfl
theorem lwd {w:World}(l0:Nat) (L:List R3) (x:Rat) (m p i s:Nat):runR w ⟨[],[],exLw L p s⟩ 14 37 Tryz.f14 kgrown14_nt (lwI l0 L x m p i s) [pQ (x+atV (gl L s) (gh L s) p) (m+17)]=some (.ret,[[Pat.agg [Grp.cls (Dx.q (gl L s) 4),Grp.cls (Dx.q (gh L s) 4)],Pat.one (Grp.lit (Value.int IntKind.u8 (Int.ofNat p)))]=[pS (gl L s) 4 (gh L s) 4,pU8 p],m+16+1<=1000000,jo (W0 w) (.q (x+atV (gl L s) (gh L s) p) (m+17)) (.q (x+atV (gl L s) (gh L s) p) (m+16+1)),kN (W0 w) (.q (x+atV (gl L s) (gh L s) p) (m+17))]):=by kernel_rfl
theorem lw_ok (hN:je) (l0:Nat) (L:List R3) (x:Rat) (m p:Nat) (ha:Law L) (hx:0<=x) (hm:m<=9000) (hp5:p<=255):CE 14 [pC l0 L,pQ x m,pU8 p] (fun _=>[pQ (grw L x p) (m+17)]):=by
 intro w vs hG hp;refine ze hG hN (ex:=[]) jT (fn:=Tryz.f14) Tryz.func14 (c:=codeOf Tryz.f14) (by kernel_rfl) (args:=[pC l0 L,pQ x m,pU8 p]) (by kernel_rfl) hp (fun hR _ hA=>?_);have hne:=ha.ne;have hle:=ha.le;refine uX (lwa l0 L x m p) (hR _ rfl) hA (fun a1 w1 hA=>Gm ?_);refine EC (fun t:Nat×Nat=>lwI l0 L x m p t.1 t.2) (fun t=>t.1<=L.length/\t.2<L.length/\fm L t.2<=x/\∀ k,k<t.1->fm L k<=x->k<=t.2) (fun t=>L.length-t.1) (L:=kgrown14_n) (ks:=kgrown14_nt) (id:=0) (c:=zO kgrown14_n) (by kernel_rfl) (0,0) ⟨jB _,hne,by rw[ha.zero];exact hx,fun k hk=>absurd hk (cW _)⟩ hA ?_;rintro⟨i,s⟩ a2 w2 ⟨h1,h2,h3,h4⟩ hA;simp only at h1 h2 h3 h4 hA;rcases jZ (decide ((i:Int)<(L.length:Int))) with q16|q16
 ·have p16:=ji q16;rcases jZ (decide (jh (fm L i) x<=0)) with q26|q26
  ·exact uX (lwb1 l0 L x m p i s) (hR _ rfl) hA (fun a3 w3 hA=>uM (by kernel_rfl) ⟨(i+1,i),⟨by simp only;omega,by simp only;omega,cle.1 (ji q26),fun k hk _=>by simp only at hk ⊢;omega⟩,hA,by simp only;omega⟩)
  ·refine uX (lwb2 l0 L x m p i s) (hR _ rfl) hA (fun a3 w3 hA=>uM (by kernel_rfl) ⟨(i+1,s),⟨by simp only;omega,h2,h3,fun k hk hf=>?_⟩,hA,by simp only;omega⟩);rcases Nat.lt_succ_iff_lt_or_eq.1 hk with h|rfl
   ·exact h4 k h hf
   ·exact absurd (cle.2 hf) (ju q26)
 ·have p16:=ju q16;refine uX (lwc l0 L x m p i s) (hR _ rfl) hA (fun a3 w3 hA=>yV _ (by kernel_rfl) ?_);have hix:IsIx L x s:=⟨h2,h3,fun k hk hl=>Rat.not_le.1 (fun hf=>by have:=h4 k (by omega) hf;omega)⟩;have e:gIx L x=s:=(Jf ha hx).uniq hix;have e2:grw L x p=x+atV (gl L s) (gh L s) p:=by unfold grw;rw[e]
  rw[e2];exact kj (lwd l0 L x m p i s) (uP hG hN (jm (kZ (at_ent hN hG (cb _) (ha.sp s h2).2 hp5)) jT) _ rfl) hA (by (repeat' (first|exact trivial|apply And.intro))<;>first|exact jo.refl _ _|exact fun _ _=>kF.refl _ _|exact cX rfl|exact cZ _ _|exact jb _ _|(with_reducible assumption)|omega|with_reducible rfl|(simp only[cO];omega)|(intro j hj;exact absurd hj (cW _))|exact ET rfl (by omega)|rfl)
theorem lw_ent {lo l0:Nat}{w0:World}{L:List R3}{x:Rat}{m p:Nat}(hN:je) (hG:Gr w0) (hlo:lo<=w0.heap.size) (ha:Law L) (hx:0<=x) (hm:m<=9000) (hp:p<=255):jJ (Cx true lo w0) (.call 14) [pC l0 L,pQ x m,pU8 p] (qr (grw L x p) (m+17)) :=
 (lw_ok hN l0 L x m p ha hx hm hp).num hG hlo (ja Tryz.func14 (by kernel_rfl) rfl)
end Pe
end Go.Proofs.YtclihnehnkijgaaGreatDoor
