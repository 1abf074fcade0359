/- Part 26. -/
import Derived.Test.YtdopipkmcnkdjaaGreatDoorE25
import Derived.Laws.Strings3
set_option linter.all false

namespace Go.Proofs.YtdopipkmcnkdjaaGreatDoor
open Go Go.RowKit Go.Proofs Lim
namespace Sym
section
variable {csz:List Nat}{numc:List Bool}{okT:List Nat}{nt:Nat}{cl:List Cl}{w0:World}{w:World}{v z:Value}{p1 p2 p3 p4:Pat}{res:jH}{c d c1 c2 c3 c4 c5 c6:Nat}{a b l:List UInt8}
theorem Wx:Tryz.prog.underlying 9=some .string:=by kernel_rfl
theorem cka (hl:a.length+b.length<=4000000000000000000) (h1:PV csz numc okT nt cl w0 p1 (str a)) (h2:PV csz numc okT nt cl w0 p2 (str b)) (h3:RV csz numc okT nt cl w0 res (str (a++b))):V csz numc okT nt cl w0 (.bin .add 9) [p1,p2] res:=by
 intro w ρ oo xs ho hb hvs;obtain⟨x,y,u,hop,rfl⟩:=UQ ho;obtain⟨v1,_,e1,h4,v2,_,e2,h5,e3⟩:=hvs;obtain rfl:=h1 _ _ h4;obtain rfl:=h2 _ _ h5;subst e2;simp only[jR,kW,yG] at e1;obtain⟨ea,eb,_⟩:=e1;refine⟨_,w,?_,h3 w,cw _ _⟩;show (execOp ρ oo).run Tryz.prog w=_;have hg:(eqGuard .add 9 x y (str a) (str b)).run Tryz.prog w=.ok () w:=rfl;have hr:(Go.binOp .add 9 (str a) (str b)).run Tryz.prog w=.ok (str (a++b)) w:=by
  have hn:¬ ((a.length+b.length:Nat):Int)>IntKind.i64.max:=by
   show ¬ ((a.length+b.length:Nat):Int)>9223372036854775807;omega
  have e:(⟨a.toArray⟩:ByteArray)++⟨b.toArray⟩=⟨(a++b).toArray⟩:=bapp a b;show (Op.stringOp .add ⟨a.toArray⟩ ⟨b.toArray⟩).run Tryz.prog w=_;unfold Op.stringOp;have hs:((((⟨a.toArray⟩:ByteArray).size+(⟨b.toArray⟩:ByteArray).size:Nat)):Int)=((a.length+b.length:Nat):Int):=rfl;simp only[hs,cg hn,e];rfl
 simp only[execOp,hop,ea,eb,jc,hg,hr,jC];rfl
theorem e_chr {x:Nat}{u:UInt8}(hu:((u.toNat:Nat):Int)=(x:Int)) (h1:∀ w vs,cO (mkC csz numc okT nt cl w0) w [.cls c 1] vs->vs=[.int .u8 (x:Int)]) (h3:RV csz numc okT nt cl w0 res (str [u])):V csz numc okT nt cl w0 (.cv 139 9) [.slc 5 1 [.cls c 1]] res:=by
 intro w ρ oo xs ho hb hvs;obtain⟨y,hop,rfl⟩:=clf ho;obtain⟨v1,_,e1,⟨k,vs,rfl,hk,hg⟩,e2⟩:=hvs;subst e2;simp only[jR,kW,yG] at e1;obtain⟨ea,_⟩:=e1;obtain rfl:=h1 _ _ hg;refine⟨_,w,?_,h3 w,cw _ _⟩;show (execOp ρ oo).run Tryz.prog w=_;have hr:=run_convert_bytes_back (P:=Tryz.prog) w 139 9 5 ⟨k,0,none⟩ 1 [u] (by kernel_rfl) (by kernel_rfl) (by kernel_rfl) (fun j hj=>by
  have hj:j<1:=hj;obtain rfl:j=0:=by omega
  have:w.cell? ⟨k,0,none⟩=some (.int .u8 (x:Int)):=by simp [World.cell?,hk]
  rw[show (⟨k,0,none⟩:Addr).add 0=⟨k,0,none⟩ from jL k 0 0,this];simp [hu])
 have hr:(convert 139 9 (.slice (some ⟨k,0,none⟩) 1 1)).run Tryz.prog w=.ok (.string ⟨#[u]⟩) w:=hr;simp only[execOp,hop,ea,jc,hr,jC];rfl
end
theorem grp1 {csz:List Nat}{numc:List Bool}{okT:List Nat}{nt:Nat}{cl:List Cl}{w0 w:World}{c:Nat}{x:Value}(h:cl[c]?=some (clW x)):∀ w vs,cO (mkC csz numc okT nt cl w0) w [.cls c 1] vs->vs=[x]:=by
 rintro w vs ⟨xs,ys,rfl,⟨f,hE,rfl⟩,hy⟩;rw[show ys=[] from hy];simp only[mkC,h] at hE;have hE:f 0=x:=hE;simp [yW,hE]
theorem cal:∀ (j n:Nat),(digs n).drop j=digs (n/10000^j)
 |0,n=>by simp
 |j+1,n=>by
  by_cases h:n=0
  ·subst h;rw[digs_zero,Nat.zero_div,digs_zero];rfl
  ·rw[digs_pos h,List.drop_succ_cons,cal j,Nat.div_div_eq_div_mul,ji,jf]
theorem cfz {n j:Nat}(h:j<(digs n).length):0<nat ((digs n).drop j):=by
 rw[cal,cW];have:0<((digs n).drop j).length:=by rw[uK];omega
 rw[cal] at this;exact cbI (yO.1 this)
def sof (pre:List Nat):List UInt8:=(pre.map Gl).reverse
theorem cnV (pre:List Nat) (d:Nat):sof (pre++[d])=[Gl d]++sof pre:=by unfold sof;simp
theorem sof_len (pre:List Nat):(sof pre).length=pre.length:=by unfold sof;simp
abbrev CY (x:Value) (ds:List Nat) (i d k:Nat) (s:List UInt8):List Value:=[x,ii (i:Int),ii (d:Int),ii (k:Int),str s,ii (ds.length:Int),ii ((ds.length:Int)-1),Jj x i,ii ((ds.getD i 0:Nat):Int),ii ((d%10:Nat):Int),ii ((48+d%10:Nat):Int),.int .u8 ((48+d%10:Nat):Int),str [Gl (d%10)],str ([Gl (d%10)]++s),ii ((d/10:Nat):Int),ii ((k+1:Nat):Int),ii ((i+1:Nat):Int)]
theorem KC {x:Value}(hx:x.oneCell'=true) (ds:List Nat) (i d k:Nat) (s:List UInt8):∀ v∈CY x ds i d k s,v.oneCell'=true :=
 cf hx (cf rfl (cf rfl (cf rfl (cf rfl (cf rfl (cf rfl (cf (GJ _ _) (cf rfl (cf rfl (cf rfl (cf rfl (cf rfl (cf rfl (cf rfl (cf rfl (cf rfl jI))))))))))))))))
def t_digL (b:Bool):List Ent:=[⟨.blt .len [38] 3,[op 0],.val (op 5)⟩,⟨.bin .lss 3,[op 1,op 5],.val (vp (.bool b))⟩,⟨.bin .add 3,[op 1,vp (ii 1)],.val (op 16)⟩]
theorem dig_L {x:Value}{ds:List Nat}{i d k:Nat}{s:List UInt8}{w:World}(hx:Dg w x ds) (hi:i<1000000000) {b:Bool}(h:decide (i<ds.length)=b):∀ t∈t_digL b,t.Valid (CV 46 (CY x ds i d k s) w) :=
 ce (yY jU (pdW rfl hx) (rvW rfl)) (ce (CH (pvW rfl) (pvW rfl) (by rw[← h];simp)) (ce (zR (by omega) (pvW rfl) pvl (rvW rfl) (by omega)) cj))
def t_digR:List Ent:=[⟨.ix 38,[op 0,op 1],.val (op 7)⟩,⟨.ld 3,[op 7],.val (op 8)⟩]
theorem dig_R {x:Value}{ds:List Nat}{i d k:Nat}{s:List UInt8}{w:World}(hx:Dg w x ds) (hi:i<ds.length):∀ t∈t_digR,t.Valid (CV 46 (CY x ds i d k s) w) :=
 ce (cdZ jU Cb (pvW rfl) hx (pvW rfl) hi (rvW rfl)) (ce (chA (pvW rfl) hx hi (rvW rfl)) cj)
def t_digG (b1 b2 b3:Bool):List Ent:=[⟨.bin .lss 3,[op 3,vp (ii 4)],.val (vp (.bool b1))⟩,⟨.blt .len [38] 3,[op 0],.val (op 5)⟩,⟨.bin .sub 3,[op 5,vp (ii 1)],.val (op 6)⟩,⟨.bin .lss 3,[op 1,op 6],.val (vp (.bool b2))⟩,⟨.bin .gtr 3,[op 2,vp (ii 0)],.val (vp (.bool b3))⟩]
theorem dig_G {x:Value}{ds:List Nat}{i d k:Nat}{s:List UInt8}{w:World}(hx:Dg w x ds) (hl:ds.length<1000000000) {b1 b2 b3:Bool}(h1:decide (k<4)=b1) (h2:decide (i+1<ds.length)=b2) (h3:decide (0<d)=b3):∀ t∈t_digG b1 b2 b3,t.Valid (CV 46 (CY x ds i d k s) w) :=
 ce (CH (pvW rfl) pvl (by rw[← h1];congr 1;apply propext;omega)) (ce (yY jU (pdW rfl hx) (rvW rfl)) (ce (JO rfl (pvW rfl) pvl (rvW rfl) (by omega)) (ce (CH (pvW rfl) (pvW rfl) (by rw[← h2];congr 1;apply propext;omega)) (ce (Ef (pvW rfl) pvl (by rw[← h3];congr 1;apply propext;omega)) cj))))
def t_digB:List Ent:=[⟨.bin .rem 3,[op 2,vp (ii 10)],.val (op 9)⟩,⟨.bin .add 3,[vp (ii 48),op 9],.val (op 10)⟩,⟨.cv 3 5,[op 10],.val (op 11)⟩,⟨.cv 139 9,[.slc 5 1 [.cls 11 1]],.val (op 12)⟩,⟨.bin .add 9,[op 12,op 4],.val (op 13)⟩,
 ⟨.bin .quo 3,[op 2,vp (ii 10)],.val (op 14)⟩,⟨.bin .add 3,[op 3,vp (ii 1)],.val (op 15)⟩]
theorem dig_B {x:Value}{ds:List Nat}{i d k:Nat}{s:List UInt8}{w:World}(hd:d<10000) (hk:k<4) (hs:s.length<4000000000):∀ t∈t_digB,t.Valid (CV 46 (CY x ds i d k s) w) :=
 ce (ckd (k:=.i64) (n:=10) (pvW rfl) pvl (rvW rfl) (by decide)) (ce (zR (by omega) pvl (pvW rfl) (rvW rfl) (by omega)) (ce (e_cv (by kernel_rfl) (by kernel_rfl) (by kernel_rfl) (pvW rfl) (rvW rfl) (by show (((48+d%10:Nat):Int))%256=_;omega))
  (ce (e_chr (x:=48+d%10) (by rw[Jw (by omega)]) (grp1 (w:=w) rfl) (rvW rfl)) (ce (cka (by simp;omega) (pvW rfl) (pvW rfl) (rvW rfl)) (ce (cfa (k:=.i64) (n:=10) (pvW rfl) pvl (rvW rfl) (by decide) (by rw[zH];omega)) (ce (zR (by omega) (pvW rfl) pvl (rvW rfl) (by omega)) cj))))))
noncomputable def b_dig:Code:=EB Tryz.f125
noncomputable def lo_dig:Code:=kq (kq (cE (jQ (cE (cE (cE b_dig))))))
noncomputable def li_dig:Code:=kq (kq (cE (cE (kq (jQ (cE lo_dig))))))
theorem coQ {K:Act->World->Prop}{Q:Exit->Act->World->Prop}{a:Act}{w:World}(h:Q .ret a w):Exit.then K Q .ret a w:=h
theorem chv {nt:Nat}{w:World}{f:FuncId}{fn:Func}{c:Code}(hf:Tryz.prog.funcs[f]?=some fn) (hb:fn.body=some c) (hnt:fn.ntmps=nt) (hlen:Nat.ble 1 nt=true) (x:Value) {Q:Ending->World->Prop}
 (h:∀ a,St' nt [x] [(0,0)] a->c.wp Tryz.prog (bodyPost Tryz.prog fn Q) a w):Calls Tryz.prog f #[x] w Q :=
 Cc (C:=CV nt [x] w) (args:=[op 0]) hf hb hnt (jo hlen) (vs:=[x]) ⟨_,_,rfl,(yX rfl).2 rfl,rfl⟩ (fun a hA=>h a ⟨hA.defers,hA.size,(Ee (is:=[(0,0)]) (rest:=[]) rfl hA.items).1⟩)
theorem cil {R d p U:Nat}(hR:R=d+10*p*U) (h0:R≠0):Lim.digs R=d%10::Lim.digs (d/10+p*U):=by
 rw[Lim.digs_pos h0];have e:R=d+10*(p*U):=by rw[hR,jy]
 rw[show R%10=d%10 by omega,show R/10=d/10+p*U by omega]
theorem ccn (n:Nat):(Lim.digs n).length<=4*(digs n).length:=by
 refine Lim.digs_len ?_;have:=JP (Gv n);rw[cW] at this;rw[Nat.pow_mul];exact this
theorem cmb (x:Value) (n i:Nat) (hi:i<(digs n).length) (hl:(digs n).length<100000000) (pre0:List Nat) (h0:Lim.digs n=pre0++Lim.digs ((digs n).getD i 0+10000*nat ((digs n).drop (i+1)))) (a:Act) (w:World) (hx:Dg w x (digs n))
 (hs:St' 46 (CY x (digs n) i ((digs n).getD i 0) 0 (sof pre0)) [(0,0),(3,4),(4,1),(5,2),(6,3)] a) {Q:Exit->Act->World->Prop}
 (hQ:∀ a' w' pre,Lim.digs n=pre++Lim.digs (nat ((digs n).drop (i+1)))->St' 46 (CY x (digs n) i 0 0 (sof pre)) [(0,0),(3,4),(4,1)] a'->Below w.heap.size w w'->Q .normal a' w'):(Code.block 2 (.loop li_dig)).wp Tryz.prog Q a w:=by
 have hx9:=hx.one;have hU:i+1<(digs n).length->0<nat ((digs n).drop (i+1)):=fun h=>cfz h;have hU0:¬ i+1<(digs n).length->nat ((digs n).drop (i+1))=0:=fun h=>uJ (by omega);have hd0:=jS n i;have hl10:=ccn n;generalize hds:digs n=ds at *;generalize nat (ds.drop (i+1))=U at *;generalize ds.getD i 0=d0 at *;refine uG (Θ:=Nat×Nat×List Nat) (fun θ a w1=>θ.1<=4/\θ.2.1<10^(4 - θ.1)/\Lim.digs n=θ.2.2++Lim.digs (θ.2.1+10^(4 - θ.1)*U)/\St' 46 (CY x ds i θ.2.1 θ.1 (sof θ.2.2)) [(0,0),(3,4),(4,1),(5,2),(6,3)] a/\Below w.heap.size w w1) (fun θ=>4 - θ.1) ?_ (0,d0,pre0) ⟨ju _,hd0,h0,hs,cw _ _⟩;rintro⟨k,d,pre⟩ a w1 ⟨hk,hd,hdig,hs,hb⟩;have hk:k<=4:=hk;have hd:d<10^(4-k):=hd;have hdig:Lim.digs n=pre++Lim.digs (d+10^(4-k)*U):=hdig;have hx1:=hx.below hb (cb _);have hd4:d<10000:=cI hd (jY (by decide) (by omega:4-k<=4));have hpl:(sof pre).length<4000000000:=by
  have:=cQ List.length hdig;rw[kI] at this;rw[sof_len];omega
 have hl9:ds.length<1000000000:=by omega
 have one:=KC hx9 ds i d k (sof pre);by_cases hgo:k<4/\(i+1<ds.length\/0<d)
 ·have key:∀ (Q':Exit->Act->World->Prop),(∀ a' w',St' 46 (CY x ds i d k (sof pre)) [(0,0),(3,4),(4,1),(5,2),(6,3)] a'->Below w1.heap.size w1 w'->Q' .normal a' w')->(jQ li_dig).wp Tryz.prog Q' a w1:=by
   intro Q' hQ';cases h2:decide (i+1<ds.length)<;>cases h3:decide (0<d)
   ·exfalso;rcases hgo.2 with h|h
    ·exact jn h2 h
    ·exact jn h3 h
   all_goals exact kd [(0,0),(3,4),(4,1),(5,2),(6,3)] [(0,0),(3,4),(4,1),(5,2),(6,3)] (n:=30) (x:=.normal) one (dig_G hx1 hl9 (cF hgo.1) h2 h3) hs (by kernel_rfl) rfl rfl hQ'
  refine cB (key _ (fun a5 w5 hs hb5=>?_));have hb:=hb.trans (hb5.mono hb.size);refine cB (CU (cB (kd [(0,0),(3,4),(4,1),(5,2),(6,3)] [(0,0),(3,13),(4,1),(5,2),(6,3)] (n:=30) (x:=.normal) one (dig_B hd4 hgo.1 hpl) hs (by kernel_rfl) rfl rfl (fun a6 w6 hs hb6=>?_))));have hb:=hb.trans (hb6.mono hb.size);refine kd [(0,0),(3,13),(4,1),(5,2),(6,3)] [(0,0),(3,13),(4,1),(5,14),(6,3)] (n:=30) (x:=.normal) one (dig_B hd4 hgo.1 hpl) hs (by kernel_rfl) rfl rfl (fun a7 w7 hs hb7=>?_);have hb:=hb.trans (hb7.mono hb.size);show (cE (cE li_dig)).wp Tryz.prog _ _ _;refine kd [(0,0),(3,13),(4,1),(5,14),(6,3)] [(0,0),(3,13),(4,1),(5,14),(6,15)] (n:=30) (x:=.normal) one (dig_B hd4 hgo.1 hpl) hs (by kernel_rfl) rfl rfl (fun a8 w8 hs hb8=>?_);have hb:=hb.trans (hb8.mono hb.size);have hp:10^(4-k)=10*10^(4-(k+1)):=by rw[show 4-k=4-(k+1)+1 by omega,ji,jf]
  refine⟨(k+1,d/10,pre++[d%10]),⟨hgo.1,?_,?_,?_,hb⟩,?_⟩
  ·show d/10<10^(4-(k+1));rw[hp] at hd;omega
  ·show Lim.digs n=(pre++[d%10])++Lim.digs (d/10+10^(4-(k+1))*U);have hne:d+10^(4-k)*U≠0:=by
    rcases hgo.2 with h|h
    ·have h1:=hU h;have h2:0<10^(4-k):=kQ (by decide);have:=Co h2 h1;omega
    ·omega
   rw[hdig,cil (p:=10^(4-(k+1))) (d:=d) (U:=U) (by rw[← hp]) hne,uM];rfl
  ·have:sof (pre++[d%10])=[Gl (d%10)]++sof pre:=cnV _ _;show St' 46 (CY x ds i (d/10) (k+1) (sof (pre++[d%10]))) _ _;rw[this];exact⟨hs.defers,hs.size,hs.sl⟩
  ·show 4-(k+1)<4-k;omega
 ·have key:∀ (Q':Exit->Act->World->Prop),(∀ a' w',St' 46 (CY x ds i d k (sof pre)) [(0,0),(3,4),(4,1)] a'->Below w1.heap.size w1 w'->Q' (.exit 2) a' w')->(jQ li_dig).wp Tryz.prog Q' a w1:=by
   intro Q' hQ';cases h1:decide (k<4)<;>cases h2:decide (i+1<ds.length)<;>cases h3:decide (0<d)
   all_goals first
    |(exfalso;exact hgo ⟨jh h1,.inl (jh h2)⟩)
    |(exfalso;exact hgo ⟨jh h1,.inr (jh h3)⟩)
    |exact kd [(0,0),(3,4),(4,1),(5,2),(6,3)] [(0,0),(3,4),(4,1)] (n:=30) (x:=.exit 2) one (dig_G hx1 hl9 h1 h2 h3) hs (by kernel_rfl) rfl rfl hQ'
  refine cB (key _ (fun a5 w5 hs hb5=>?_));refine hQ a5 w5 pre ?_ ⟨hs.defers,hs.size,hs.sl⟩ (hb.trans (hb5.mono hb.size));rw[hdig];congr 2;rcases jd k 4 with h4|h4
  ·have hd0:d=0:=by
    rcases kH d with h|h
    ·exact h
    ·exact absurd ⟨h4,.inr h⟩ hgo
   have hu:U=0:=hU0 (fun h=>hgo ⟨h4,.inl h⟩);rw[hd0,hu,Ck]
  ·obtain rfl:k=4:=by omega
   have:d<1:=hd;show d+1*U=U;omega
theorem cnc (x:Value) (n:Nat) (w:World) (hx:Dg w x (digs n)) (hl:(digs n).length<100000000):Calls Tryz.prog 125 #[x] w (fun e w'=>e=.returned (str (cS n))/\Below w.heap.size w w'):=by
 have hx9:=hx.one;refine chv (nt:=46) (f:=125) Tryz.func125 (c:=.seq (jQ b_dig) (.seq (jQ (cE b_dig)) (.seq (jQ (cE (cE b_dig))) (.seq (.seq (jQ (jQ (cE (cE (cE b_dig))))) (.block 0 (.loop lo_dig))) (cE (cE (cE (cE b_dig)))))))) rfl rfl rfl x (fun a hs=>?_);have one1:∀ v∈[x],v.oneCell'=true:=cf hx9 jI;refine cB (kd (T:=[]) [(0,0)] [(0,0)] (n:=30) (x:=.normal) one1 cj hs (by kernel_rfl) rfl rfl (fun a1 w1 hs hb=>?_));have hs:St' 46 [x,ii ((digs n).length:Int)] [(0,0)] a1:=⟨hs.defers,hs.size,hs.sl⟩;have one2:∀ v∈[x,ii ((digs n).length:Int)],v.oneCell'=true:=cf hx9 (cf rfl jI);have hT:∀ b,decide ((digs n).length=0)=b->∀ t∈[(⟨.blt .len [38] 3,[op 0],.val (op 1)⟩:Ent),⟨.bin .eql 3,[op 1,vp (ii 0)],.val (vp (.bool b))⟩],t.Valid (CV 46 [x,ii ((digs n).length:Int)] w1):=fun b h =>
  ce (yY jU (pdW rfl (hx.below hb (cb _))) (rvW rfl)) (ce (chd (pvW rfl) pvl (by rw[← h];congr 1;apply propext;omega)) cj)
 by_cases h0:n=0
 ·have h00:(digs n).length=0:=by rw[h0,digs_zero];rfl
  refine cB (zy [(0,0)] [] [(2,str [48])] (n:=30) (x:=.ret) one2 (hT true (cF h00)) hs (by kernel_rfl) rfl rfl (fun a2 w2 hs hl2 hb2=>?_));refine coQ (ceL rfl hs.defers hl2.1 ⟨?_,hb.trans (hb2.mono hb.size)⟩);rw[h0];rfl
 have hpos:=yO.2 h0;refine cB (kd [(0,0)] [(0,0)] (n:=30) (x:=.normal) one2 (hT false (cK (by omega))) hs (by kernel_rfl) rfl rfl (fun a2 w2 hs hb2=>?_));have hb:=hb.trans (hb2.mono hb.size);refine cB (zy (T:=[]) [(0,0)] [(0,0)] [(3,str [])] (n:=30) (x:=.normal) one2 cj hs (by kernel_rfl) rfl rfl (fun a3 w3 hs hl3 hb3=>?_));have hb:=hb.trans (hb3.mono hb.size);have hs:St' 46 [x,str []] [(0,0),(3,1)] a3:=⟨hs.defers,hs.size,hs.sl.1,hl3.1,trivial⟩;have one3:∀ v∈[x,str []],v.oneCell'=true:=cf hx9 (cf rfl jI);refine cB (cB (zy (T:=[]) [(0,0),(3,1)] [(0,0),(3,1)] [(4,ii 0)] (n:=30) (x:=.normal) one3 cj hs (by kernel_rfl) rfl rfl (fun a4 w4 hs hl4 hb4=>?_)));have hb:=hb.trans (hb4.mono hb.size);have hs:St' 46 (CY x (digs n) 0 0 0 (sof [])) [(0,0),(3,4),(4,1)] a4:=⟨hs.defers,hs.size,hs.sl.1,hs.sl.2.1,hl4.1,trivial⟩;refine uG (Θ:=Nat×List Nat) (fun θ a w1=>θ.1<=(digs n).length/\Lim.digs n=θ.2++Lim.digs (nat ((digs n).drop θ.1))/\St' 46 (CY x (digs n) θ.1 0 0 (sof θ.2)) [(0,0),(3,4),(4,1)] a/\Below w.heap.size w w1) (fun θ=>(digs n).length - θ.1) ?_ (0,[]) ⟨ju _,by rw[ux,cW];rfl,hs,hb⟩;rintro⟨i,pre⟩ a w1 ⟨hi,hdig,hs,hb⟩;have hi:i<=(digs n).length:=hi;have hdig:Lim.digs n=pre++Lim.digs (nat ((digs n).drop i)):=hdig;have hx1:=hx.below hb (cb _);by_cases hend:i<(digs n).length
 ·refine cB (kd [(0,0),(3,4),(4,1)] [(0,0),(3,4),(4,1)] (n:=30) (x:=.normal) (KC hx9 (digs n) i 0 0 (sof pre)) (dig_L hx1 (by omega) (cF hend)) hs (by kernel_rfl) rfl rfl (fun a5 w5 hs hb5=>?_));have hb:=hb.trans (hb5.mono hb.size);refine cB (CU (cB (kd [(0,0),(3,4),(4,1)] [(0,0),(3,4),(4,1),(5,8)] (n:=30) (x:=.normal) (KC hx9 (digs n) i 0 0 (sof pre)) (dig_R (hx.below hb (cb _)) hend) hs (by kernel_rfl) rfl rfl (fun a6 w6 hs hb6=>?_))));have hb:=hb.trans (hb6.mono hb.size);refine cB (zy (T:=[]) [(0,0),(3,4),(4,1),(5,8)] [(0,0),(3,4),(4,1),(5,8)] [(6,ii 0)] (n:=30) (x:=.normal) (KC hx9 (digs n) i 0 0 (sof pre)) cj hs (by kernel_rfl) rfl rfl (fun a7 w7 hs hl7 hb7=>?_));have hb:=hb.trans (hb7.mono hb.size);have hs:St' 46 (CY x (digs n) i ((digs n).getD i 0) 0 (sof pre)) [(0,0),(3,4),(4,1),(5,2),(6,3)] a7:=⟨hs.defers,hs.size,hs.sl.1,hs.sl.2.1,hs.sl.2.2.1,hs.sl.2.2.2.1,hl7.1,trivial⟩;refine cmb x n i hend hl pre (by rw[hdig,GS]) a7 w7 (hx.below hb (cb _)) hs (fun a8 w8 pre' hdig' hs hb8=>?_);have hb:=hb.trans (hb8.mono hb.size);show (cE (cE lo_dig)).wp Tryz.prog _ _ _;refine kd [(0,0),(3,4),(4,1)] [(0,0),(3,4),(4,16)] (n:=30) (x:=.normal) (KC hx9 (digs n) i 0 0 (sof pre')) (dig_L (hx.below hb (cb _)) (by omega) (cF hend)) hs (by kernel_rfl) rfl rfl (fun a9 w9 hs hb9=>?_);have hb:=hb.trans (hb9.mono hb.size);exact⟨(i+1,pre'),⟨hend,hdig',⟨hs.defers,hs.size,hs.sl⟩,hb⟩,by show (digs n).length-(i+1)<(digs n).length-i;omega⟩
 ·refine cB (kd [(0,0),(3,4),(4,1)] [(0,0),(3,4),(4,1)] (n:=30) (x:=.exit 0) (KC hx9 (digs n) i 0 0 (sof pre)) (dig_L hx1 (by omega) (cK hend)) hs (by kernel_rfl) rfl rfl (fun a5 w5 hs hb5=>?_));have hb:=hb.trans (hb5.mono hb.size);refine kd (T:=[]) [(0,0),(3,4),(4,1)] [(2,4)] (n:=30) (x:=.ret) (KC hx9 (digs n) i 0 0 (sof pre)) cj hs (by kernel_rfl) rfl rfl (fun a6 w6 hs hb6=>ceL rfl hs.defers hs.sl.1 ⟨?_,hb.trans (hb6.mono hb.size)⟩);rw[uJ (by omega),Lim.digs_zero,ug] at hdig;show Ending.returned (str (sof pre))=_;unfold cS sof;rw[cg h0,hdig]
end Sym
namespace Sym
section
variable {csz:List Nat}{numc:List Bool}{okT:List Nat}{nt:Nat}{cl:List Cl}{w0:World}{w:World}{v z:Value}{p1 p2 p3 p4:Pat}{res:jH}{c d c1 c2 c3 c4 c5 c6:Nat}{a b l:List UInt8}
theorem cgT {n:Nat}(hl:(digs n).length<100000000) (h1:PD csz numc okT nt cl w0 p1 (digs n)) (h3:RV csz numc okT nt cl w0 res (str (cS n))):V csz numc okT nt cl w0 (.call 125) [p1] res:=by
 refine⟨cY Tryz.func125 (by kernel_rfl) rfl,fun w vs hb hvs=>?_⟩;obtain⟨v1,_,rfl,h4,rfl⟩:=hvs;refine(cnc v1 n w (h1 _ _ hb h4) hl).mono ?_;rintro e w' ⟨rfl,hb⟩;exact⟨_,rfl,h3 w',hb⟩
end
def cdi (s:Bool) (m k:Nat):List UInt8:=(if s then [45] else [])++cS m++(if k=1 then [] else 47::cS k)
theorem rtext_q (r:Rat):cdi (decide (r.num<0)) r.num.natAbs r.den=ul r:=by
 unfold cdi ul;by_cases h:r.num<0<;>simp [h]
theorem YH (n:Nat):(cS n).length<=4*(digs n).length+1:=by
 have:=ccn n;unfold cS;split
 ·simp
 ·simp;omega
abbrev ckR (m k:Nat) (a b:List UInt8):List Cl:=[clD (digs m),clD (digs k),clV (str (cS m)),clV (str b),clD (digs 1),clV (str (a++[47])),clV (str (cS k)),clV (str ((a++[47])++cS k))]
noncomputable abbrev C_text (m k:Nat) (a b:List UInt8) (w:World):Ctx:=mkC [1,1,1,1,1,1,1,1] [false,false,true,true,false,true,true,true] [40] 23 (ckR m k a b) w
theorem yU {okT:List Nat}{B:Nat}(a:List UInt8):(clV (str a)).Ok okT B:=cam rfl
theorem cfG (m k:Nat) (a b:List UInt8) (w:World):(C_text m k a b w).Ok:=uw (cn (jK yk _) (cn (jK yk _) (cn (yU _) (cn (yU _) (cn (jK yk _) (cn (yU _) (cn (yU _) (cn (yU _) kr)))))))) rfl rfl
def t_text (i:Int) (c:Nat):List Ent:=[⟨.call 125,[op 0],.val (op 2)⟩,⟨.bin .add 9,[vp (str [45]),op 2],.val (op 3)⟩,⟨.bs 38 1,[vp (ii 1)],.val (op 4)⟩,⟨.call 126,[op 1,op 4],.val (vp (ii i))⟩,
 ⟨.bin .add 9,[op c,vp (str [47])],.val (op 5)⟩,⟨.call 125,[op 1],.val (op 6)⟩,⟨.bin .add 9,[op 5,op 6],.val (op 7)⟩]
theorem cfq (m k:Nat) (a:List UInt8) (w:World) (h1:(digs m).length<10000000) (h2:(digs k).length<10000000) (ha:a.length<100000000) {i:Int}(hi:Wb k 1=i) {c:Nat}(hc:(ckR m k a ([45]++cS m))[c]?=some (clV (str a))):∀ t∈t_text i c,t.Valid (C_text m k a ([45]++cS m) w):=by
 have l1:=YH m;have l2:=YH k;exact ce (cgT (by omega) (pd rfl) (rv rfl)) (ce (cka (by simp;omega) pvl (pv rfl) (rv rfl)) (ce (ckF (x:=1) pvl (rd (by rw[← UI];rfl))) (ce (cgd (ds:=digs k) (es:=digs 1) (pd rfl) (pd rfl) (jS _) (jS _) (by rw[cW,cW,hi];exact rvl))
  (ce (cka (by simp;omega) (pv hc) pvl (rv rfl)) (ce (cgT (by omega) (pd rfl) (rv rfl)) (ce (cka (by simp;omega) (pv rfl) (pv rfl) (rv rfl)) cj))))))
theorem text_ok (s:Bool) (x:Value) (m k:Nat) (w:World) (hx:Cf w x s m k) (hk:0<k) (h1:(digs m).length<10000000) (h2:(digs k).length<10000000):Calls Tryz.prog 90 #[x] w (Go.Proofs.YtdopipkmcnkdjaaGreatDoor.Val w (str (cdi s m k))):=by
 have l1:=YH m;have ci:k=1\/Wb k 1=1:=by
  rcases jd 1 k with h|h
  ·right;unfold Wb;rw[cg (by omega),co (by omega)]
  ·left;omega
 have c0:Wb 1 1=0:=rfl;cases s with
 |false =>
  have hv:∀ a,jb (C_text m k a ([45]++cS m) w) w [rl false 0 1] [x]:=fun a=>⟨_,_,rfl,(cfk rfl rfl).2 hx,rfl⟩;rcases ci with rfl|hi
  ·refine(kM (cfG _ _ _ _ _) (cfq m 1 (cS m) w h1 h2 (by omega) c0 (c:=2) rfl) 90 Tryz.f90 [rl false 0 1] (.val (op 2)) 60 Tryz.func90 rfl rfl rfl (by kernel_rfl) [x] (hv _)).mono ?_;rintro e w' ⟨v,rfl,hv,hb⟩;rw[(yB (x:=str (cS m)) rfl).1 hv];exact⟨by simp [cdi],hb⟩
  ·have hk1:k≠1:=by rintro rfl;rw[c0] at hi;cases hi
   refine(kM (cfG _ _ _ _ _) (cfq m k (cS m) w h1 h2 (by omega) hi (c:=2) rfl) 90 Tryz.f90 [rl false 0 1] (.val (op 7)) 60 Tryz.func90 rfl rfl rfl (by kernel_rfl) [x] (hv _)).mono ?_;rintro e w' ⟨v,rfl,hv,hb⟩;rw[(yB (x:=str ((cS m++[47])++cS k)) rfl).1 hv];exact⟨by simp [cdi,hk1],hb⟩
 |true =>
  have hv:∀ a,jb (C_text m k a ([45]++cS m) w) w [rl true 0 1] [x]:=fun a=>⟨_,_,rfl,(cfk rfl rfl).2 hx,rfl⟩;rcases ci with rfl|hi
  ·refine(kM (cfG _ _ _ _ _) (cfq m 1 ([45]++cS m) w h1 h2 (by simp;omega) c0 (c:=3) rfl) 90 Tryz.f90 [rl true 0 1] (.val (op 3)) 60 Tryz.func90 rfl rfl rfl (by kernel_rfl) [x] (hv _)).mono ?_;rintro e w' ⟨v,rfl,hv,hb⟩;rw[(yB (x:=str ([45]++cS m)) rfl).1 hv];exact⟨by simp [cdi],hb⟩
  ·have hk1:k≠1:=by rintro rfl;rw[c0] at hi;cases hi
   refine(kM (cfG _ _ _ _ _) (cfq m k ([45]++cS m) w h1 h2 (by simp;omega) hi (c:=3) rfl) 90 Tryz.f90 [rl true 0 1] (.val (op 7)) 60 Tryz.func90 rfl rfl rfl (by kernel_rfl) [x] (hv _)).mono ?_;rintro e w' ⟨v,rfl,hv,hb⟩;rw[(yB (x:=str ((([45]++cS m)++[47])++cS k)) rfl).1 hv];exact⟨by simp [cdi,hk1],hb⟩
theorem chS (x:Value) (r:Rat) (k:Nat) (w:World) (hx:RQ w x r) (z:Siz r k) (hk:k<=1000000):Calls Tryz.prog 90 #[x] w (Go.Proofs.YtdopipkmcnkdjaaGreatDoor.Val w (str (ul r))):=by
 have l1:=ze z.1;have l2:=ze z.2;rw[← rtext_q];exact text_ok _ x _ _ w hx r.den_pos (by omega) (by omega)
end Sym
theorem cmr {r s:Rat}(h:ul r=ul s):r=s:=by
 have nd:∀ {c:UInt8},kT c=true->c≠45/\c≠47:=by
  intro c hc;constructor<;>(rintro rfl;revert hc;decide)
 have hh:∀ (n:Nat) (l:List UInt8),(cS n++l).head?≠some 45:=by
  intro n l e;cases hn:cS n with
  |nil=>exact cpf n hn
  |cons c t =>
   rw[hn] at e;have:c=45:=by simpa using e
   exact(nd (WV n c (by rw[hn];simp))).1 this
 have cut:∀ (l m a b:List UInt8),(∀ c∈l,c≠47)->(∀ c∈m,c≠47)->(a=[]\/a.head?=some 47)->(b=[]\/b.head?=some 47)->l++a=m++b->l=m/\a=b:=by
  intro l
  induction l with
  |nil =>
   intro m a b _ hm ha hb e;cases m with
   |nil=>exact⟨rfl,e⟩
   |cons c m =>
    exfalso;have e:a=c::(m++b):=e;rcases ha with rfl|ha
    ·cases e
    ·rw[e] at ha;have:c=47:=by simpa using ha
     exact hm c (by simp) this
  |cons c l ih =>
   intro m a b hl hm ha hb e;cases m with
   |nil =>
    exfalso;have e:c::(l++a)=b:=e;rcases hb with rfl|hb
    ·cases e
    ·rw[← e] at hb;have:c=47:=by simpa using hb
     exact hl c (by simp) this
   |cons d m =>
    have e:c::(l++a)=d::(m++b):=e;injection e with e1 e2
    obtain⟨q1,q2⟩:=ih m a b (fun x hx=>hl x (by simp [hx])) (fun x hx=>hm x (by simp [hx])) ha hb e2;exact⟨by rw[e1,q1],q2⟩
 have tl:∀ d:Nat,(if d=1 then ([]:List UInt8) else 47::cS d)=[]\/(if d=1 then ([]:List UInt8) else 47::cS d).head?=some 47:=by
  intro d;split
  ·exact .inl rfl
  ·exact .inr rfl
 have key:∀ (a b:Rat),cS a.num.natAbs++(if a.den=1 then [] else 47::cS a.den)=cS b.num.natAbs++(if b.den=1 then [] else 47::cS b.den)->a.num.natAbs=b.num.natAbs/\a.den=b.den:=by
  intro a b e;obtain⟨e1,e2⟩:=cut _ _ _ _ (fun c hc=>(nd (WV _ c hc)).2) (fun c hc=>(nd (WV _ c hc)).2) (tl a.den) (tl b.den) e;refine⟨cem e1,?_⟩;split at e2<;>split at e2
  ·omega
  ·cases e2
  ·cases e2
  ·injection e2 with _ e2
   exact cem e2
 unfold ul at h;rw[uM,uM] at h;by_cases h1:r.num<0<;>by_cases h2:s.num<0
 ·rw[co h1,co h2] at h;obtain⟨q1,q2⟩:=key r s (List.append_cancel_left h);exact Rat.ext (by omega) q2
 ·rw[co h1,cg h2] at h;exact absurd (cQ List.head? h).symm (hh _ _)
 ·rw[cg h1,co h2] at h;exact absurd (cQ List.head? h) (hh _ _)
 ·rw[cg h1,cg h2] at h;obtain⟨q1,q2⟩:=key r s h;exact Rat.ext (by omega) q2
namespace Sym
section
variable {csz:List Nat}{numc:List Bool}{okT:List Nat}{nt:Nat}{cl:List Cl}{w0:World}{w:World}{v z:Value}{p1 p2 p3 p4:Pat}{res:jH}{c d c1 c2 c3 c4 c5 c6:Nat}{a b l:List UInt8}{r s:Rat}{k k1 k2:Nat}
theorem e_eqs {e:Bool}(h1:PV csz numc okT nt cl w0 p1 (str a)) (h2:PV csz numc okT nt cl w0 p2 (str b)) (he:decide (a=b)=e):V csz numc okT nt cl w0 (.bin .eql 9) [p1,p2] (.val (vp (.bool e))):=by
 intro w ρ oo xs ho hb hvs;obtain⟨x,y,u,hop,rfl⟩:=UQ ho;obtain⟨v1,_,e1,h4,v2,_,e2,h5,e3⟩:=hvs;obtain rfl:=h1 _ _ h4;obtain rfl:=h2 _ _ h5;subst e2;simp only[jR,kW,yG] at e1;obtain⟨ea,eb,_⟩:=e1;refine⟨_,w,?_,vp_r _ _ _,cw _ _⟩;show (execOp ρ oo).run Tryz.prog w=_;have hg:(eqGuard .eql 9 x y (str a) (str b)).run Tryz.prog w=.ok () w:=rfl;have hbe:(a == b)=e:=by
  rw[← he];by_cases h:a=b
  ·subst h;simp
  ·simp [h]
 have hr:(Go.binOp .eql 9 (str a) (str b)).run Tryz.prog w=.ok (.bool e) w:=by
  show (Op.stringOp .eql ⟨a.toArray⟩ ⟨b.toArray⟩).run Tryz.prog w=_;unfold Op.stringOp;simp only[ByteArray.toList_eq];show Result.ok (Value.bool (a == b)) w=_;rw[hbe]
 simp only[execOp,hop,ea,eb,jc,hg,hr,jC];rfl
theorem e_text (h1:PQ csz numc okT nt cl w0 p1 r k) (hk:k<=1000000) (h3:RV csz numc okT nt cl w0 res (str (ul r))):V csz numc okT nt cl w0 (.call 16) [p1] res:=by
 refine⟨cY Tryz.func16 (by kernel_rfl) rfl,fun w vs hb hvs=>?_⟩;obtain⟨v1,_,rfl,h4,rfl⟩:=hvs;have h4:=h1 _ _ h4;refine(cgJ v1 r k w h4.1 h4.2 (by omega)).mono ?_;rintro e w' ⟨rfl,hb⟩;exact⟨_,rfl,h3 w',hb⟩
theorem e_rtext (h1:PR csz numc okT nt cl w0 p1 r k) (hk:k<=1000000) (h3:RV csz numc okT nt cl w0 res (str (ul r))):V csz numc okT nt cl w0 (.call 90) [p1] res:=by
 refine⟨cY Tryz.func90 (by kernel_rfl) rfl,fun w vs hb hvs=>?_⟩;obtain⟨v1,_,rfl,h4,rfl⟩:=hvs;have h4:=h1 _ _ h4;refine(chS v1 r k w h4.1 h4.2 hk).mono ?_;rintro e w' ⟨rfl,hb⟩;exact⟨_,rfl,h3 w',hb⟩
end
theorem qrT:(∀ t∈[34,40],t≠31)/\(∀ t∈[34,40],t≠3):=by decide
theorem same_ok (x y:Value) (r s:Rat) (k:Nat) (w:World) (hx:IsQ w x r) (hy:RQ w y s) (z1:Siz r k) (z2:Siz s k) (hk:k<=1000000):Calls Tryz.prog 64 #[x,y] w (Go.Proofs.YtdopipkmcnkdjaaGreatDoor.Val w (.bool (decide (r=s)))):=by
 have hC:(mkC [4,3,1,1] [true,true,true,true] [34,40] 10 [clQ r k,clR s k,clV (str (ul r)),clV (str (ul s))] w).Ok:=uw (cn (clQ_ok qrT.1 _ _) (cn (zW qrT.2 _ _) (cn (yU _) (cn (yU _) kr)))) rfl rfl;have hT:∀ e,decide (r=s)=e->∀ t∈([⟨.call 16,[qp 0],.val (op 2)⟩,⟨.call 90,[rq 1],.val (op 3)⟩,⟨.bin .eql 9,[op 2,op 3],.val (vp (.bool e))⟩]:List Ent),t.Valid (mkC [4,3,1,1] [true,true,true,true] [34,40] 10 [clQ r k,clR s k,clV (str (ul r)),clV (str (ul s))] w):=fun e he =>
  ce (e_text (pq rfl) hk (rv rfl)) (ce (e_rtext (pr rfl) hk (rv rfl)) (ce (e_eqs (pv rfl) (pv rfl) (by rw[← he];congr 1;exact propext ⟨fun h=>cmr h,fun h=>by rw[h]⟩)) cj))
 have hv:jb (mkC [4,3,1,1] [true,true,true,true] [34,40] 10 [clQ r k,clR s k,clV (str (ul r)),clV (str (ul s))] w) w [qp 0,rq 1] [x,y]:=⟨_,_,rfl,(qp_is rfl).2 ⟨hx,z1⟩,_,_,rfl,(yL rfl).2 ⟨hy,z2⟩,rfl⟩;cases he:decide (r=s) with
 |true =>
  refine(kM hC (hT _ he) 64 Tryz.f64 [qp 0,rq 1] (.val (vp (.bool true))) 60 Tryz.func64 rfl rfl rfl (by kernel_rfl) [x,y] hv).mono ?_;rintro e w' ⟨v,rfl,hv,hb⟩;rw[cfZ hv];exact⟨rfl,hb⟩
 |false =>
  refine(kM hC (hT _ he) 64 Tryz.f64 [qp 0,rq 1] (.val (vp (.bool false))) 60 Tryz.func64 rfl rfl rfl (by kernel_rfl) [x,y] hv).mono ?_;rintro e w' ⟨v,rfl,hv,hb⟩;rw[cfZ hv];exact⟨rfl,hb⟩
end Sym
namespace Sym
section
variable {csz:List Nat}{numc:List Bool}{okT:List Nat}{nt:Nat}{cl:List Cl}{w0:World}{w:World}{v z:Value}{p1 p2 p3 p4:Pat}{res:jH}{c d c1 c2 c3 c4 c5 c6:Nat}{a b l:List UInt8}
theorem hd_si {o:Oper}{t:Nat}{xs:List Operand}(h:uA o=some (.si t,xs)):∃ x y,o.op=.index t x y/\xs=[x,y]:=by
 unfold uA at h;split at h<;>first
  |(rename_i h0;simp only[kJ,cr,Hd.si.injEq,reduceCtorEq,GD] at h;try (obtain⟨rfl,rfl⟩:=h;exact⟨_,_,h0,rfl⟩))
  |(split at h<;>simp at h)
  |simp at h
theorem cdb {n:Int}(hn:((l.length:Nat):Int)=n) (h1:PV csz numc okT nt cl w0 p1 (str l)) (h3:RV csz numc okT nt cl w0 res (ii n)):V csz numc okT nt cl w0 (.blt .len [9] 3) [p1] res:=by
 intro w ρ oo xs ho hb hvs;obtain⟨c,hop,hc,hat,hty,rfl⟩:=cgv ho;obtain⟨v1,_,e1,h4,e2⟩:=hvs;obtain rfl:=h1 _ _ h4;subst e2;refine⟨_,w,?_,h3 w,cw _ _⟩;have he:c.args.map ρ=#[str l]:=by
  apply CO;simpa using e1
 have hr:=run_len_string (P:=Tryz.prog) w 9 3 ⟨l.toArray⟩ Wx;have hs:goInt (⟨l.toArray⟩:ByteArray).size=ii n:=by
  show Value.int .i64 ((l.length:Nat):Int)=_;rw[hn]
 rw[hs] at hr;show (execOp ρ oo).run Tryz.prog w=_;simp only[execOp,hop,resolve,hc,he,jc,zk,jC,invoke,builtin,hat,hty];simp [jc,hr,Result.andThen]
theorem ckv {i:Nat}{x:Nat}(hi:i<l.length) (hx:(l.getD i 0).toNat=x) (h1:PV csz numc okT nt cl w0 p1 (str l)) (h2:PV csz numc okT nt cl w0 p2 (ii (i:Int))) (h3:RV csz numc okT nt cl w0 res (.int .u8 (x:Int))):V csz numc okT nt cl w0 (.si 9) [p1,p2] res:=by
 intro w ρ oo xs ho hb hvs;obtain⟨y,u,hop,rfl⟩:=hd_si ho;obtain⟨v1,_,e1,h4,v2,_,e2,h5,e3⟩:=hvs;obtain rfl:=h1 _ _ h4;obtain rfl:=h2 _ _ h5;subst e2;simp only[jR,kW,yG] at e1;obtain⟨ea,eb,_⟩:=e1;refine⟨_,w,?_,h3 w,cw _ _⟩;have hr:=run_index_string (P:=Tryz.prog) w 9 ⟨l.toArray⟩ .i64 (i:Int) Wx;have hs:(0:Int)<=(i:Int)/\(i:Int)<((⟨l.toArray⟩:ByteArray).size:Nat):=⟨by omega,by show (i:Int)<((l.length:Nat):Int);omega⟩;rw[dif_pos hs] at hr;have hv:((⟨l.toArray⟩:ByteArray)[((i:Int)).toNat]'(by have:=hs.2;omega))=l.getD i 0:=by
  show l.toArray[((i:Int)).toNat]'_=_;simp [List.getD,hi]
 rw[hv,hx] at hr;show (execOp ρ oo).run Tryz.prog w=_;simp only[execOp,hop,ea,eb,jc,hr,jC];rfl
theorem e_ltb {t:Nat}{k:IntKind}{x y:Int}{e:Bool}(h1:PV csz numc okT nt cl w0 p1 (.int k x)) (h2:PV csz numc okT nt cl w0 p2 (.int k y)) (he:decide (x>y)=e) (h3:RV csz numc okT nt cl w0 res (.bool e)):V csz numc okT nt cl w0 (.bin .gtr t) [p1,p2] res :=
 Jt h1 h2 h3 (fun w=>by subst he;cases k<;>rfl)
theorem e_sub8 {t:Nat}{x y u:Int}(hz:x-y=u) (h1:PV csz numc okT nt cl w0 p1 (.int .u8 x)) (h2:PV csz numc okT nt cl w0 p2 (.int .u8 y)) (h3:RV csz numc okT nt cl w0 res (.int .u8 u)) (hr:0<=u/\u<=255):V csz numc okT nt cl w0 (.bin .sub t) [p1,p2] res :=
 Jt h1 h2 h3 (fun w=>by
  show Result.ok (Value.int .u8 (IntKind.u8.wrap (x-y))) w=_;rw[hz];have:IntKind.u8.wrap u=u:=by show u%256=u;omega
  rw[this])
end
theorem cdV (c:UInt8):kT c=(!(decide (c.toNat<48))&&!(decide (57<c.toNat))):=by
 unfold kT;by_cases h1:c.toNat<48<;>by_cases h2:57<c.toNat<;>simp [h1,h2]<;>omega
abbrev Jy (l:List UInt8) (z:Value) (i:Nat):List Value:=[str l,z,ii (i:Int),ii (l.length:Int),.int .u8 (((l.getD i 0).toNat:Nat):Int),ii ((i+1:Nat):Int)]
theorem cnT {z:Value}(hz:z.oneCell'=true) (l:List UInt8) (i:Nat):∀ v∈Jy l z i,v.oneCell'=true:=cf rfl (cf hz (cf rfl (cf rfl (cf rfl (cf rfl jI)))))
def t_nat1a (b:Bool):List Ent:=[⟨.blt .len [9] 3,[op 0],.val (op 3)⟩,⟨.bin .lss 3,[op 2,op 3],.val (vp (.bool b))⟩,⟨.bin .add 3,[op 2,vp (ii 1)],.val (op 5)⟩]
def t_nat1b (b1 b2:Bool):List Ent:=[⟨.si 9,[op 0,op 2],.val (op 4)⟩,⟨.bin .lss 5,[op 4,vp (.int .u8 48)],.val (vp (.bool b1))⟩,⟨.bin .gtr 5,[op 4,vp (.int .u8 57)],.val (vp (.bool b2))⟩]
theorem cjG (l:List UInt8) (z:Value) (i:Nat) (hi:i<1000000000) (w:World) {b:Bool}(h:decide (i<l.length)=b):∀ t∈t_nat1a b,t.Valid (CV 58 (Jy l z i) w) :=
 ce (cdb rfl (pvW rfl) (rvW rfl)) (ce (CH (pvW rfl) (pvW rfl) (by rw[← h];congr 1;apply propext;omega)) (ce (zR (by omega) (pvW rfl) pvl (rvW rfl) (by omega)) cj))
theorem nat1_b (l:List UInt8) (z:Value) (i:Nat) (hi:i<l.length) (w:World) {b1 b2:Bool}(h1:decide ((l.getD i 0).toNat<48)=b1) (h2:decide (57<(l.getD i 0).toNat)=b2):∀ t∈t_nat1b b1 b2,t.Valid (CV 58 (Jy l z i) w) :=
 ce (ckv hi rfl (pvW rfl) (pvW rfl) (rvW rfl)) (ce (CH (pvW rfl) pvl (by rw[← h1];congr 1;apply propext;omega)) (ce (Ef (pvW rfl) pvl (by rw[← h2];congr 1;apply propext;omega)) cj))
noncomputable def b_nat:Code:=EB Tryz.f88
noncomputable def l1_nat:Code:=kq (kq (cE (jQ (cE (cE b_nat)))))
noncomputable def l2_nat:Code:=kq (kq (cE (jQ (cE (cE (cE b_nat))))))
noncomputable def l3_nat:Code:=kq (kq (cE (jQ (cE (kq (jQ (cE l2_nat)))))))
theorem ccp {l:List UInt8}{i:Nat}(hi:i<l.length) (E:Nat) (hE:E<=i):jB ((l.take (i+1)).drop E)=10*jB ((l.take i).drop E)+((l.getD i 0).toNat-48):=by
 have:(l.take (i+1)).drop E=(l.take i).drop E++[l.getD i 0]:=by
  rw[List.take_add_one,kb hi];rw[ccz (by rw[jp];omega)];congr 1;simp [List.getD,hi]
 rw[this,ces]
theorem ccl (l:List UInt8) (hd:∀ c∈l,kT c=true) (i E:Nat) (hi:i<=l.length) (h:i<=E+4):jB ((l.take i).drop E)<10000:=by
 have h1:=Wr ((l.take i).drop E) (fun c hc=>hd c (Wo (cbs hc)));have h2:((l.take i).drop E).length<=4:=by rw[uK,jp];omega
 exact cI h1 (jY (by decide) h2)
theorem cbl (l:List UInt8) (e:Nat) (he:e<=l.length):jB (l.take e)=10000*jB (l.take (e-4))+jB ((l.take e).drop (e-4)):=by
 have h:l.take e=l.take (e-4)++(l.take e).drop (e-4):=by
  have:=kv (e-4) (l.take e);rw[List.take_take,uq (by omega)] at this;exact this.symm
 have h2:=cQ jB h;rw[Ux] at h2;rcases jd e 4 with h4|h4
 ·have e0:e-4=0:=by omega
  rw[e0] at h2 ⊢;simp [chK] at h2 ⊢
 ·have hl:((l.take e).drop (e-4)).length=4:=by rw[uK,jp];omega
  rw[hl] at h2;exact h2
abbrev Ea (l:List UInt8) (z:Value) (e:Int) (E i d:Nat):List Value:=[str l,z,ii e,ii (d:Int),ii (i:Int),ii ((10*d:Nat):Int),.int .u8 (((l.getD i 0).toNat:Nat):Int),.int .u8 (((l.getD i 0).toNat-48:Nat):Int),ii (((l.getD i 0).toNat-48:Nat):Int),ii ((10*d+((l.getD i 0).toNat-48):Nat):Int),ii ((i+1:Nat):Int),ii (e-4),ii (E:Int)]
theorem ET {z:Value}(hz:z.oneCell'=true) (l:List UInt8) (e:Int) (E i d:Nat):∀ v∈Ea l z e E i d,v.oneCell'=true :=
 cf rfl (cf hz (cf rfl (cf rfl (cf rfl (cf rfl (cf rfl (cf rfl (cf rfl (cf rfl (cf rfl (cf rfl (cf rfl jI))))))))))))
def ckG (b:Bool):List Ent:=[⟨.bin .lss 3,[op 4,op 2],.val (vp (.bool b))⟩]
def t_nat3b:List Ent:=[⟨.bin .mul 3,[vp (ii 10),op 3],.val (op 5)⟩,⟨.si 9,[op 0,op 4],.val (op 6)⟩,⟨.bin .sub 5,[op 6,vp (.int .u8 48)],.val (op 7)⟩,⟨.cv 5 3,[op 7],.val (op 8)⟩,⟨.bin .add 3,[op 5,op 8],.val (op 9)⟩,⟨.bin .add 3,[op 4,vp (ii 1)],.val (op 10)⟩]
theorem nat3_b (l:List UInt8) (z:Value) (e:Int) (E i d:Nat) (hi:i<l.length) (hl:l.length<1000000) (hd:d<10000) (hc:kT (l.getD i 0)=true) (w:World):∀ t∈t_nat3b,t.Valid (CV 58 (Ea l z e E i d) w):=by
 unfold kT at hc;simp only[EL,Ju] at hc;exact ce (e_mul (by omega) pvl (pvW rfl) (rvW rfl) (by omega)) (ce (ckv hi rfl (pvW rfl) (pvW rfl) (rvW rfl)) (ce (e_sub8 (by omega) (pvW rfl) pvl (rvW rfl) (by omega)) (ce (e_cv (by kernel_rfl) (by kernel_rfl) (by kernel_rfl) (pvW rfl) (rvW rfl) (by rw[zH];omega))
  (ce (zR (by omega) (pvW rfl) (pvW rfl) (rvW rfl) (by omega)) (ce (zR (by omega) (pvW rfl) pvl (rvW rfl) (by omega)) cj)))))
def t_nat3c (b:Bool):List Ent:=[⟨.bin .gtr 3,[op 2,vp (ii 0)],.val (vp (.bool b))⟩,⟨.bin .sub 3,[op 2,vp (ii 4)],.val (op 11)⟩,⟨.blt .max [3,3] 3,[vp (ii 0),op 11],.val (op 12)⟩]
theorem ciJ (l:List UInt8) (z:Value) (e:Int) (E i d:Nat) (he:-100<=e/\e<1000000) (hE:(if e-4>0 then e-4 else 0)=(E:Int)) (w:World) {b:Bool}(hb:decide (0<e)=b):∀ t∈t_nat3c b,t.Valid (CV 58 (Ea l z e E i d) w) :=
 ce (Ef (pvW rfl) pvl hb) (ce (JO rfl (pvW rfl) pvl (rvW rfl) (by omega)) (ce (e_max pvl (pvW rfl) (by rw[hE];exact rvW rfl)) cj))
theorem cnm (l:List UInt8) (hd:∀ c∈l,kT c=true) (hl:l.length<1000000) (z:Value) (hz:z.oneCell'=true) (n E:Nat) (hn:n<=l.length) (hE:E=n-4) (hpos:0<n) (a:Act) (w:World) (hs:St' 58 (Ea l z (n:Int) E E 0) [(0,0),(4,1),(6,2),(7,3),(8,4)] a) {Q:Exit->Act->World->Prop}
 (hQ:∀ a' w',St' 58 (Ea l z (n:Int) E 0 (jB ((l.take n).drop E))) [(0,0),(4,1),(6,2),(7,3)] a'->Below w.heap.size w w'->Q .normal a' w'):(Code.block 4 (.loop l3_nat)).wp Tryz.prog Q a w:=by
 refine uG (Θ:=Nat) (fun i a w1=>E<=i/\i<=n/\St' 58 (Ea l z (n:Int) E i (jB ((l.take i).drop E))) [(0,0),(4,1),(6,2),(7,3),(8,4)] a/\Below w.heap.size w w1) (fun i=>n-i) ?_ E ⟨cb _,by omega,?_,cw _ _⟩
 ·rintro i a w1 ⟨h1,h2,hs,hb⟩;have hg:=ccl l hd i E (by omega) (by omega);by_cases hi:i<n
  ·have hT:∀ w,∀ t∈ckG true,t.Valid (CV 58 (Ea l z (n:Int) E i (jB ((l.take i).drop E))) w):=fun w=>ce (CH (pvW rfl) (pvW rfl) (cF (by omega))) cj;have hc:kT (l.getD i 0)=true:=by
    have hil:i<l.length:=by omega
    have:l.getD i 0=l[i]:=by simp [List.getD,hil]
    rw[this];exact hd _ (Yv hil)
   refine cB (kd [(0,0),(4,1),(6,2),(7,3),(8,4)] [(0,0),(4,1),(6,2),(7,3),(8,4)] (n:=30) (x:=.normal) (ET hz _ _ _ _ _) (hT _) hs (by kernel_rfl) rfl rfl (fun a5 w5 hs hb5=>?_));have hb:=hb.trans (hb5.mono hb.size);refine cB (CU (kd [(0,0),(4,1),(6,2),(7,3),(8,4)] [(0,0),(4,1),(6,2),(7,9),(8,4)] (n:=30) (x:=.normal) (ET hz _ _ _ _ _) (nat3_b l z n E i _ (by omega) hl hg hc _) hs (by kernel_rfl) rfl rfl (fun a6 w6 hs hb6=>?_)));have hb:=hb.trans (hb6.mono hb.size);show (cE (cE l3_nat)).wp Tryz.prog _ _ _;refine kd [(0,0),(4,1),(6,2),(7,9),(8,4)] [(0,0),(4,1),(6,2),(7,9),(8,10)] (n:=30) (x:=.normal) (ET hz _ _ _ _ _) (nat3_b l z n E i _ (by omega) hl hg hc _) hs (by kernel_rfl) rfl rfl (fun a7 w7 hs hb7=>?_);have hb:=hb.trans (hb7.mono hb.size);refine⟨i+1,⟨by omega,hi,?_,hb⟩,by show n-(i+1)<n-i;omega⟩;rw[ccp (by omega) E h1];exact⟨hs.defers,hs.size,hs.sl⟩
  ·obtain rfl:i=n:=by omega
   have hT:∀ t∈ckG false,t.Valid (CV 58 (Ea l z (i:Int) E i (jB ((l.take i).drop E))) w1):=ce (CH (pvW rfl) (pvW rfl) (cK (by omega))) cj;refine cB (kd [(0,0),(4,1),(6,2),(7,3),(8,4)] [(0,0),(4,1),(6,2),(7,3)] (n:=30) (x:=.exit 4) (ET hz _ _ _ _ _) hT hs (by kernel_rfl) rfl rfl (fun a5 w5 hs hb5=>?_));exact hQ a5 w5 ⟨hs.defers,hs.size,hs.sl⟩ (hb.trans (hb5.mono hb.size))
 ·have:jB ((l.take E).drop E)=0:=by
   rw[cfY (by rw[jp];omega)];rfl
  rw[this];exact hs
theorem cjx (l:List UInt8) (w:World) (hl:l.length<100000):Calls Tryz.prog 88 #[str l] w (fun e w'=>∃ v,e=.returned (.tuple #[v,.bool (uR l)])/\Dg w' v (if l.all kT then digs (jB l) else [])/\Below w.heap.size w w'):=by
 refine chv (nt:=58) (f:=88) Tryz.func88 (c:=.seq (jQ b_nat) (.seq (jQ (cE b_nat)) (.seq (.seq (jQ (jQ (cE (cE b_nat)))) (.block 0 (.loop l1_nat))) (.seq (.seq (jQ (jQ (cE (cE (cE b_nat))))) (.block 2 (.loop l2_nat))) (cE (cE (cE (cE b_nat)))))))) rfl rfl rfl (str l) (fun a hs=>?_);have one1:∀ v∈[str l],v.oneCell'=true:=cf rfl jI;refine cB (kd (T:=[]) [(0,0)] [(0,0)] (n:=30) (x:=.normal) one1 cj hs (by kernel_rfl) rfl rfl (fun a1 w1 hs hb1=>?_));refine cB ?_;show (Code.region 1 [_,_].toArray false).wp Tryz.prog _ _ _;refine cbv [(0,0)] (d:=9) (t:=4) hs rfl rfl rfl rfl rfl rfl rfl rfl rfl rfl (B:=w.heap.size) hb1.size (fun z a2 w2 hz hown hs hb2=>?_);have hb:=hb1.trans (hb2.mono hb1.size);have hs:St' 58 [str l,z] [(4,1),(0,0)] a2:=⟨hs.defers,hs.size,hz,hs.sl⟩;have one2:∀ v∈[str l,z],v.oneCell'=true:=cf rfl (cf hown.one jI);refine cB (cB (zy (T:=[]) [(4,1),(0,0)] [(0,0),(4,1)] [(5,ii 0)] (n:=30) (x:=.normal) one2 cj hs (by kernel_rfl) rfl rfl (fun a3 w3 hs hl5 hb3=>?_)));have hown:=hown.below hb3;have hb:=hb.trans (hb3.mono hb.size);have hs:St' 58 (Jy l z 0) [(0,0),(4,1),(5,2)] a3:=⟨hs.defers,hs.size,hs.sl.1,hs.sl.2.1,hl5.1,trivial⟩;refine uG (Θ:=Nat) (fun i a w1=>i<=l.length/\(l.take i).all kT=true/\St' 58 (Jy l z i) [(0,0),(4,1),(5,2)] a/\Own w.heap.size w1 z []/\Below w.heap.size w w1) (fun i=>l.length-i) ?_ 0 ⟨ju _,rfl,hs,hown,hb⟩;rintro i a w1 ⟨hi,hall,hs,hown,hb⟩;have one:=cnT hown.one l i;by_cases hend:i<l.length
 ·refine cB (kd [(0,0),(4,1),(5,2)] [(0,0),(4,1),(5,2)] (n:=30) (x:=.normal) one (cjG l z i (by omega) w1 (cF hend)) hs (by kernel_rfl) rfl rfl (fun a5 w5 hs hb5=>?_));have hown:=hown.below hb5;have hb:=hb.trans (hb5.mono hb.size);have hci:l.getD i 0=l[i]:=by simp [List.getD,hend]
  by_cases hdg:kT (l.getD i 0)=true
  ·have key:∀ {Q':Exit->Act->World->Prop},(∀ a' w',St' 58 (Jy l z i) [(0,0),(4,1),(5,2)] a'->Below w5.heap.size w5 w'->Q' .normal a' w')->(kq (jQ (cE l1_nat))).wp Tryz.prog Q' a5 w5:=by
    intro Q' hQ';rw[cdV] at hdg;cases h1:decide ((l.getD i 0).toNat<48)<;>cases h2:decide (57<(l.getD i 0).toNat)<;>rw[h1,h2] at hdg
    ·exact kd [(0,0),(4,1),(5,2)] [(0,0),(4,1),(5,2)] (n:=30) (x:=.normal) one (nat1_b l z i hend w5 h1 h2) hs (by kernel_rfl) rfl rfl hQ'
    all_goals cases hdg
   refine cB (CU (key (fun a6 w6 hs hb6=>?_)));have hown:=hown.below hb6;have hb:=hb.trans (hb6.mono hb.size);show (cE (cE l1_nat)).wp Tryz.prog _ _ _;refine kd [(0,0),(4,1),(5,2)] [(0,0),(4,1),(5,5)] (n:=30) (x:=.normal) one (cjG l z i (by omega) w6 (cF hend)) hs (by kernel_rfl) rfl rfl (fun a7 w7 hs hb7=>?_);have hown:=hown.below hb7;have hb:=hb.trans (hb7.mono hb.size);refine⟨i+1,⟨hend,?_,⟨hs.defers,hs.size,hs.sl⟩,hown,hb⟩,by show l.length-(i+1)<l.length-i;omega⟩;rw[List.take_add_one,kb hend,List.all_append,hall];rw[hci] at hdg;simp [hdg]
  ·have hf:l.all kT=false:=by
    cases h:l.all kT with
    |false=>rfl
    |true =>
     exfalso;apply hdg;rw[hci];exact List.all_eq_true.1 h _ (Yv hend)
   have hok:uR l=false:=by unfold uR;rw[hf,Bool.and_false]
   have fin:∀ a6 w6,St' 58 (Jy l z i) [(2,1)] a6->Ll a6 [(3,.bool false)]->Below w5.heap.size w5 w6->bodyPost Tryz.prog Tryz.f88 (fun e w'=>∃ v,e=.returned (.tuple #[v,.bool (uR l)])/\Dg w' v (if l.all kT then digs (jB l) else [])/\Below w.heap.size w w') .ret a6 w6:=by
    intro a6 w6 hs hl3 hb6;refine ciX rfl hs.defers hs.sl.1 hl3.1 ⟨z,by rw[hok];rfl,?_,hb.trans (hb6.mono hb.size)⟩;rw[hf];exact(hown.below hb6).dg
   have key:∀ {Q':Exit->Act->World->Prop},(∀ a' w',St' 58 (Jy l z i) [(2,1)] a'->Ll a' [(3,.bool false)]->Below w5.heap.size w5 w'->Q' .ret a' w')->(kq (jQ (cE l1_nat))).wp Tryz.prog Q' a5 w5:=by
    intro Q' hQ';rw[cdV] at hdg;cases h1:decide ((l.getD i 0).toNat<48)<;>cases h2:decide (57<(l.getD i 0).toNat)<;>rw[h1,h2] at hdg
    ·exact absurd rfl hdg
    all_goals exact zy [(0,0),(4,1),(5,2)] [(2,1)] [(3,.bool false)] (n:=30) (x:=.ret) one (nat1_b l z i hend w5 h1 h2) hs (by kernel_rfl) rfl rfl hQ'
   exact cB (CU (key (fun a6 w6 hs hl3 hb6=>fin a6 w6 hs hl3 hb6)))
 ·refine cB (kd [(0,0),(4,1),(5,2)] [(0,0),(4,1)] (n:=30) (x:=.exit 0) one (cjG l z i (by omega) w1 (cK hend)) hs (by kernel_rfl) rfl rfl (fun a5 w5 hs hb5=>?_));have hown:=hown.below hb5;have hb:=hb.trans (hb5.mono hb.size);have hall:l.all kT=true:=by rw[kA (by omega)] at hall;exact hall
  have hdl:∀ c∈l,kT c=true:=List.all_eq_true.1 hall;have hokN:uR l=decide (0<(l.length:Int)):=by
   unfold uR;rw[hall];cases l<;>simp
  show ((Code.seq (.seq (jQ (jQ (cE (cE (cE b_nat))))) (.block 2 (.loop l2_nat))) (cE (cE (cE (cE b_nat)))))).wp Tryz.prog _ a5 w5;have hs:St' 58 [str l,z,ii (l.length:Int)] [(0,0),(4,1)] a5:=⟨hs.defers,hs.size,hs.sl⟩;have one3:∀ v∈[str l,z,ii (l.length:Int)],v.oneCell'=true:=cf rfl (cf hown.one (cf rfl jI));have hT:∀ t∈[(⟨.blt .len [9] 3,[op 0],.val (op 2)⟩:Ent)],t.Valid (CV 58 [str l,z,ii (l.length:Int)] w5):=ce (cdb rfl (pvW rfl) (rvW rfl)) cj;refine cB (cB (kd [(0,0),(4,1)] [(0,0),(4,1),(6,2)] (n:=30) (x:=.normal) one3 hT hs (by kernel_rfl) rfl rfl (fun a6 w6 hs hb6=>?_)));have hown:=hown.below hb6;have hb:=hb.trans (hb6.mono hb.size);refine uG (Θ:=Nat) (fun j a w1=>∃ z ds,ds.length=j/\(∀ d∈ds,d<10000)/\4*j<=l.length+3/\jB l=10000^j*jB (l.take (l.length-4*j))+nat ds/\St' 58 [str l,z,ii ((l.length:Int)-4*(j:Int))] [(0,0),(4,1),(6,2)] a/\Own w.heap.size w1 z ds/\Below w.heap.size w w1) (fun j=>l.length+4-4*j) ?_ 0 ⟨z,[],rfl,by simp,by omega,by simp [nat],⟨hs.defers,hs.size,by simpa using hs.sl⟩,hown,hb⟩;rintro j a w1 ⟨z,ds,hdl9,hdd,hj,hdv,hs,hown,hb⟩;by_cases hgo:4*j<l.length
  ·obtain⟨n,hn⟩:∃ n,l.length-4*j=n:=⟨_,rfl⟩;have hni:(l.length:Int)-4*(j:Int)=(n:Int):=by omega
   rw[hn] at hdv;rw[hni] at hs;have hE:(if (n:Int)-4>0 then (n:Int)-4 else 0)=((n-4:Nat):Int):=by split<;>omega
   have hs:St' 58 (Ea l z (n:Int) (n-4) 0 0) [(0,0),(4,1),(6,2)] a:=⟨hs.defers,hs.size,hs.sl⟩;refine cB (kd [(0,0),(4,1),(6,2)] [(0,0),(4,1),(6,2)] (n:=30) (x:=.normal) (ET hown.one _ _ _ _ _) (ciJ l z n (n-4) 0 0 (by omega) hE w1 (cF (by omega))) hs (by kernel_rfl) rfl rfl (fun a6 w6 hs hb6=>?_));have hown:=hown.below hb6;have hb:=hb.trans (hb6.mono hb.size);refine cB (CU (cB (zy (T:=[]) [(0,0),(4,1),(6,2)] [(0,0),(4,1),(6,2)] [(7,ii 0)] (n:=30) (x:=.normal) (ET hown.one _ _ _ _ _) cj hs (by kernel_rfl) rfl rfl (fun a7 w7 hs hl7 hb7=>?_))));have hown:=hown.below hb7;have hb:=hb.trans (hb7.mono hb.size);have hs:St' 58 (Ea l z (n:Int) (n-4) (n-4) 0) [(0,0),(4,1),(6,2),(7,3)] a7:=⟨hs.defers,hs.size,hs.sl.1,hs.sl.2.1,hs.sl.2.2.1,hl7.1,trivial⟩;refine cB (cB (kd [(0,0),(4,1),(6,2),(7,3)] [(0,0),(4,1),(6,2),(7,3),(8,12)] (n:=30) (x:=.normal) (ET hown.one _ _ _ _ _) (ciJ l z n (n-4) (n-4) 0 (by omega) hE w7 (cF (by omega))) hs (by kernel_rfl) rfl rfl (fun a8 w8 hs hb8=>?_)));have hown:=hown.below hb8;have hb:=hb.trans (hb8.mono hb.size);refine cnm l hdl (by omega) z hown.one n (n-4) (by omega) rfl (by omega) a8 w8 ⟨hs.defers,hs.size,hs.sl⟩ (fun a9 w9 hs hb9=>?_);have hown:=hown.below hb9;have hb:=hb.trans (hb9.mono hb.size);have hg:=ccl l hdl n (n-4) (by omega) (by omega);have hsp:=cbl l n (by omega);generalize jB ((l.take n).drop (n-4))=g at hg hsp hs;show (Code.region 15 (Jz (cE (cE (kq (jQ (cE l2_nat)))))).toArray false).wp Tryz.prog _ _ _;have hs:St' 58 [str l,z,ii (n:Int),ii (g:Int),ii ((n:Int)-4)] [(0,0),(4,1),(6,2),(7,3)] a9:=⟨hs.defers,hs.size,hs.sl⟩;have one5:∀ z:Value,z.oneCell'=true->∀ v∈[str l,z,ii (n:Int),ii (g:Int),ii ((n:Int)-4)],v.oneCell'=true:=fun z hz=>cf rfl (cf hz (cf rfl (cf rfl (cf rfl jI))))
   refine ciU (T:=[]) [(0,0),(4,1),(6,2),(7,3)] [(0,0),(6,2)] 3 (s:=49) (x:=51) (d:=52) (t:=4) (cd:=3) (z:=z) (ds:=ds) (dg:=g) (one5 z hown.one) cj hs 1 (by kernel_rfl) rfl rfl rfl rfl rfl rfl rfl rfl rfl rfl rfl rfl rfl rfl rfl hown hb.size (by omega) (fun z' a10 w10 h4 hown hs hb10=>?_);have hb:=hb.trans hb10;have hs:St' 58 [str l,z',ii (n:Int),ii (g:Int),ii ((n:Int)-4)] [(0,0),(4,1),(6,2)] a10:=⟨hs.defers,hs.size,hs.sl.1,h4,hs.sl.2.1,trivial⟩;have hT:∀ t∈[(⟨.bin .sub 3,[op 2,vp (ii 4)],.val (op 4)⟩:Ent)],t.Valid (CV 58 [str l,z',ii (n:Int),ii (g:Int),ii ((n:Int)-4)] w10):=ce (JO rfl (pvW rfl) pvl (rvW rfl) (by omega)) cj;show (cE (cE l2_nat)).wp Tryz.prog _ _ _;refine kd [(0,0),(4,1),(6,2)] [(0,0),(4,1),(6,4)] (n:=30) (x:=.normal) (one5 z' hown.one) hT hs (by kernel_rfl) rfl rfl (fun a11 w11 hs hb11=>?_);have hown:=hown.below hb11;have hb:=hb.trans (hb11.mono hb.size);have e4:(n:Int)-4=(l.length:Int)-4*((j+1:Nat):Int):=by omega
   refine⟨j+1,⟨z',ds++[g],by simp [hdl9],?_,by omega,?_,⟨hs.defers,hs.size,hs.sl.1,hs.sl.2.1,by rw[← e4];exact hs.sl.2.2.1,trivial⟩,hown,hb⟩,by show l.length+4-4*(j+1)<l.length+4-4*j;omega⟩
   ·intro d hd;rcases List.mem_append.1 hd with h|h
    ·exact hdd d h
    ·have:d=g:=by simpa using h
     omega
   ·rw[show l.length-4*(j+1)=n-4 by omega,UP,hdl9,hdv,hsp,ji];grind
  ·obtain⟨e,he⟩:∃ e,(l.length:Int)-4*(j:Int)=e:=⟨_,rfl⟩;rw[he] at hs;have hs:St' 58 (Ea l z e 0 0 0) [(0,0),(4,1),(6,2)] a:=⟨hs.defers,hs.size,hs.sl⟩;refine cB (kd [(0,0),(4,1),(6,2)] [(0,0),(4,1)] (n:=30) (x:=.exit 2) (ET hown.one _ _ _ _ _) (ciJ l z e 0 0 0 (by omega) (by rw[cg (by omega)];rfl) w1 (cK (by omega))) hs (by kernel_rfl) rfl rfl (fun a6 w6 hs hb6=>?_));have hown:=hown.below hb6;have hb:=hb.trans (hb6.mono hb.size);rw[show l.length-4*j=0 by omega,List.take_zero,chK,Ck,je] at hdv;have hs:St' 58 [str l,z,ii (l.length:Int),.bool (uR l)] [(0,0),(4,1)] a6:=⟨hs.defers,hs.size,hs.sl⟩;have hC:(mkC [1,1,1,1,1] [false,false,false,false,false] [] 58 [clW (str l),clW z,clW (ii (l.length:Int)),clW (.bool (uR l)),clF w.heap.size (uc ds)] w6).Ok:=uw (cn (Ga rfl) (cn (Ga hown.one) (cn (Ga rfl) (cn (Ga rfl) (cn (ccX noT _ _) kr))))) rfl rfl;have hT:∀ t∈[(⟨.call 122,[op 1],.val (op 4)⟩:Ent),⟨.blt .len [9] 3,[op 0],.val (op 2)⟩,⟨.bin .gtr 3,[op 2,vp (ii 0)],.val (op 3)⟩],t.Valid (mkC [1,1,1,1,1] [false,false,false,false,false] [] 58 [clW (str l),clW z,clW (ii (l.length:Int)),clW (.bool (uR l)),clF w.heap.size (uc ds)] w6) :=
    ce (cge (pfW rfl hown.dg (fun k hk=>(hown.lt k hk).1)) (rf rfl)) (ce (cdb rfl (pvW rfl) (rvW rfl)) (ce (e_ltb (pvW rfl) pvl hokN.symm (rvW rfl)) cj))
   show (cE (cE (cE (cE b_nat)))).wp Tryz.prog _ _ _;refine seg_vf (vl:=[str l,z,ii (l.length:Int),.bool (uR l)]) [(0,0),(4,1)] [(3,3)] (t:=2) (ds:=uc ds) hC hT hs 4 (fun i hi=>?_) rfl (n:=30) (x:=.ret) (by kernel_rfl) rfl rfl (fun a7 w7 v h2 hv hfr hs hb7=>ciX rfl hs.defers h2 hs.sl.1 ⟨v,rfl,?_,hb.trans (hb7.mono hb.size)⟩)
   ·have hi:i<4:=hi
    match i,hi with
    |0,_=>rfl
    |1,_=>rfl
    |2,_=>rfl
    |3,_=>rfl
   ·rw[hall,co rfl,hdv,GP hdd];exact hv
end Sym
namespace Sym
section
variable {csz:List Nat}{numc:List Bool}{okT:List Nat}{nt:Nat}{cl:List Cl}{w0:World}{w:World}{v z:Value}{p1 p2 p3 p4:Pat}{res:jH}{c d c1 c2 c3 c4 c5 c6:Nat}{a b l:List UInt8}{x:Rat}{k:Nat}
theorem ceB {ok:Bool}{N:List Nat}(hl:l.length<100000) (h1:PV csz numc okT nt cl w0 p1 (str l)) (hN:(if l.all kT then digs (jB l) else [])=N) (hok:uR l=ok) (h3:cl[c]?=some (clD N)):V csz numc okT nt cl w0 (.call 88) [p1] (.tup [op c,vp (.bool ok)]):=by
 refine⟨cY Tryz.func88 (by kernel_rfl) rfl,fun w vs hb hvs=>?_⟩;obtain⟨v1,_,rfl,h4,rfl⟩:=hvs;obtain rfl:=h1 _ _ h4;refine(cjx l w hl).mono ?_;rintro e w' ⟨v,rfl,hv,hb⟩;rw[hN] at hv;rw[hok];exact⟨_,rfl,⟨_,⟨_,_,rfl,(Gi h3).2 hv,_,_,rfl,Gk.2 rfl,rfl⟩,rfl⟩,hb⟩
theorem e_makeq {neg:Bool}{m n:Nat}(h1:PV csz numc okT nt cl w0 p1 (.bool neg)) (h2:PD csz numc okT nt cl w0 p2 (digs m)) (h3:PD csz numc okT nt cl w0 p3 (digs n)) (hn:0<n) (hl1:(digs m).length<10000000) (hl2:(digs n).length<10000000) (hx:x=mkRat (sgn neg m) n) (z:Siz x k) (g:cl[c]?=some (clR x k)):V csz numc okT nt cl w0 (.call 89) [p1,p2,p3] (.val (rq c)):=by
 refine⟨cY Tryz.func89 (by kernel_rfl) rfl,fun w vs hb hvs=>?_⟩;obtain⟨v1,_,rfl,h4,v2,_,rfl,h5,v3,_,rfl,h6,rfl⟩:=hvs;obtain rfl:=h1 _ _ h4;refine(cjZ neg v2 v3 m n w (h2 _ _ hb h5) (h3 _ _ hb h6) hn hl1 hl2).mono ?_;rintro e w' ⟨v,rfl,hv,hb'⟩;exact⟨_,rfl,(yL g).2 ⟨Cf.rq hn hv hx,z⟩,hb'⟩
theorem e_texta (h1:PR csz numc okT nt cl w0 p1 x k) (hk:k<=1000000) (h3:RV csz numc okT nt cl w0 res (str (ul x))):V csz numc okT nt cl w0 (.call 90) [p1] res:=by
 refine⟨cY Tryz.func90 (by kernel_rfl) rfl,fun w vs hb hvs=>?_⟩;obtain⟨v1,_,rfl,h4,rfl⟩:=hvs;have h4:=h1 _ _ h4;refine(chS v1 x k w h4.1 h4.2 hk).mono ?_;rintro e w' ⟨rfl,hb⟩;exact⟨_,rfl,h3 w',hb⟩
theorem e_neqs {e:Bool}(h1:PV csz numc okT nt cl w0 p1 (str a)) (h2:PV csz numc okT nt cl w0 p2 (str b)) (he:(!decide (a=b))=e):V csz numc okT nt cl w0 (.bin .neq 9) [p1,p2] (.val (vp (.bool e))):=by
 intro w ρ oo xs ho hb hvs;obtain⟨x,y,u,hop,rfl⟩:=UQ ho;obtain⟨v1,_,e1,h4,v2,_,e2,h5,e3⟩:=hvs;obtain rfl:=h1 _ _ h4;obtain rfl:=h2 _ _ h5;subst e2;simp only[jR,kW,yG] at e1;obtain⟨ea,eb,_⟩:=e1;refine⟨_,w,?_,vp_r _ _ _,cw _ _⟩;show (execOp ρ oo).run Tryz.prog w=_;have hg:(eqGuard .neq 9 x y (str a) (str b)).run Tryz.prog w=.ok () w:=rfl;have hbe:(!(a == b))=e:=by
  rw[← he];by_cases h:a=b
  ·subst h;simp
  ·simp [h]
 have hr:(Go.binOp .neq 9 (str a) (str b)).run Tryz.prog w=.ok (.bool e) w:=by
  show (Op.stringOp .neq ⟨a.toArray⟩ ⟨b.toArray⟩).run Tryz.prog w=_;unfold Op.stringOp;simp only[ByteArray.toList_eq];show Result.ok (Value.bool (!(a == b))) w=_;rw[hbe]
 simp only[execOp,hop,ea,eb,jc,hg,hr,jC];rfl
theorem e_neqk {t:Nat}{k:IntKind}{x y:Int}{e:Bool}(h1:PV csz numc okT nt cl w0 p1 (.int k x)) (h2:PV csz numc okT nt cl w0 p2 (.int k y)) (he:(x != y)=e):V csz numc okT nt cl w0 (.bin .neq t) [p1,p2] (.val (vp (.bool e))) :=
 Jt h1 h2 rvl (fun w=>by subst he;cases k<;>rfl)
theorem e_sto {i:Nat}(hi:i<=l.length) (h1:PV csz numc okT nt cl w0 p1 (str l)) (h2:PV csz numc okT nt cl w0 p2 (ii (i:Int))) (h3:RV csz numc okT nt cl w0 res (str (l.take i))):V csz numc okT nt cl w0 (.sl 9 false true false) [p1,p2] res:=by
 intro w ρ oo xs ho hb hvs;obtain⟨a,lo,hi',mx,hop,q1,q2,q3,rfl⟩:=clH ho;obtain rfl:lo=none:=by cases lo<;>simp_all
 obtain rfl:mx=none:=by cases mx<;>simp_all
 obtain⟨b,rfl⟩:=Option.isSome_iff_exists.1 q2;obtain⟨v1,_,e1,h4,v2,_,e2,h5,e3⟩:=hvs;obtain rfl:=h1 _ _ h4;obtain rfl:=h2 _ _ h5;subst e2;simp only[Option.toList,Em,ug,jR,kW,yG] at e1;obtain⟨ea,eb,_⟩:=e1;refine⟨_,w,?_,h3 w,cw _ _⟩;have hr:=run_slice_string_to_if (P:=Tryz.prog) w 9 ⟨l.toArray⟩ .i64 (i:Int) Wx;rw[co ⟨by omega,by show (i:Int)<=((l.length:Nat):Int);omega⟩] at hr;have hx:(⟨l.toArray⟩:ByteArray).extract 0 ((i:Int)).toNat=⟨(l.take i).toArray⟩:=Zy l i;rw[hx] at hr;show (execOp ρ oo).run Tryz.prog w=_;simp only[execOp,hop,ea,eb,jc,KV,Option.map_some,run_sliceAt_string _ _ _ _ _ _ Wx,hr,jC];rfl
theorem cky {i:Nat}(hi:i<=l.length) (h1:PV csz numc okT nt cl w0 p1 (str l)) (h2:PV csz numc okT nt cl w0 p2 (ii (i:Int))) (h3:RV csz numc okT nt cl w0 res (str (l.drop i))):V csz numc okT nt cl w0 (.sl 9 true false false) [p1,p2] res:=by
 intro w ρ oo xs ho hb hvs;obtain⟨a,lo,hi',mx,hop,q1,q2,q3,rfl⟩:=clH ho;obtain rfl:hi'=none:=by cases hi'<;>simp_all
 obtain rfl:mx=none:=by cases mx<;>simp_all
 obtain⟨b,rfl⟩:=Option.isSome_iff_exists.1 q1;obtain⟨v1,_,e1,h4,v2,_,e2,h5,e3⟩:=hvs;obtain rfl:=h1 _ _ h4;obtain rfl:=h2 _ _ h5;subst e2;simp only[Option.toList,JB,Em,ug,jR,kW,yG] at e1;obtain⟨ea,eb,_⟩:=e1;refine⟨_,w,?_,h3 w,cw _ _⟩;have hr:=run_slice_string_from_if (P:=Tryz.prog) w 9 ⟨l.toArray⟩ .i64 (i:Int) Wx;rw[co ⟨by omega,by show (i:Int)<=((l.length:Nat):Int);omega⟩] at hr;have hx:(⟨l.toArray⟩:ByteArray).extract ((i:Int)).toNat (⟨l.toArray⟩:ByteArray).size=⟨(l.drop i).toArray⟩:=Zq l i;rw[hx] at hr;show (execOp ρ oo).run Tryz.prog w=_;simp only[execOp,hop,ea,eb,jc,KV,Option.map_some,run_sliceAt_string _ _ _ _ _ _ Wx,hr,jC];rfl
end
theorem ckL {C:Ctx}{a:Act}{w:World}{fn:Func}{t ty s:Nat}{gs:List Grp}{q:Pat}{l:List Item}{d:TypeDesc}{inf:TypeInfo}(hr:fn.results=#[.cell t ty,.tmp s]) (hd:C.P.underlying ty=some d) (hag:Gg d=true) (hi:C.P.info? ty=some inf) (hA:At C (.box t ty gs::.val s q::l) a w) (hlen:∀ vs,cO C w gs vs->vs.length=inf.size)
 {Q:Ending->World->Prop} (h:∀ vs u,cO C w gs vs->q.is C w u->Q (.returned (.tuple #[.agg vs.toArray,u])) w):bodyPost C.P fn Q .ret a w:=by
 obtain⟨k,vs,h1,_,_,h3,h4,⟨u,h5,h6⟩,_⟩:=hA.items;refine⟨hA.defers,.tuple #[.agg vs.toArray,u],?_,h vs u h4 h6⟩;rw[yP,hr];have e1:a.tmps.getD t undef=.pointer (some ⟨k,0,none⟩):=by rw[uX,h1];rfl
 have e2:a.tmps.getD s undef=u:=by rw[uX,h5];rfl
 have hl:=cfu (P:=C.P) (w:=w) ⟨k,0,none⟩ vs (fun j v hj=>by rw[jL,je];simpa [World.cell?,h3] using hj);rw[hlen vs h4] at hl;have hv:(loadVar ty ⟨k,0,none⟩).run C.P w=.ok (.agg vs.toArray) w:=by simp [loadVar,uu hd,hag,jZ hi,hl]
 simp [ZO,e1,e2,asAddr,hv]
theorem chU:Tryz.prog.underlying 40=some (match Tryz.prog.underlying 40 with|some d=>d|none=>.bool):=by kernel_rfl
theorem cng:(Tryz.prog.info? 40).map (fun i=>i.size)=some 3:=by kernel_rfl
theorem cju (T:List UInt8):∀ (i:Nat),(∀ c∈T.take i,c≠47)->(T.length<=i\/T.getD i 0=47)->T.takeWhile (· != 47)=T.take i/\T.dropWhile (· != 47)=T.drop i:=by
 induction T with
 |nil=>intro i _ _;simp
 |cons c T ih =>
  intro i h1 h2;cases i with
  |zero =>
   have:c=47:=by
    rcases h2 with h|h
    ·simp at h
    ·simpa using h
   subst this;simp
  |succ i =>
   have hc:c≠47:=h1 c (by simp);have:=ih i (fun x hx=>h1 x (by simp [hx])) (by
    rcases h2 with h|h
    ·exact .inl (by simpa using h)
    ·exact .inr (by simpa using h))
   simp [hc,this.1,this.2]
theorem ceN (neg:Bool) (m n:Nat):CA neg m*((n:Nat):Rat)⁻¹=mkRat (sgn neg m) n:=by
 rw[Rat.mkRat_eq_div,Rat.div_def];congr 1;unfold CA sgn;split
 ·rw[Rat.intCast_neg];rfl
 ·rfl
theorem cno {l:List UInt8}{k n:Nat}(h:l.all kT=true) (hl:l.length<=k) (hk:k<=19*n):jB l<B^n :=
 cI (cI (Wr l (List.all_eq_true.1 h)) (jY (by omega) hl)) (KY hk)
theorem ZU {l:List UInt8}(h:l.all kT=true) (hl:l.length<=4000):jB l<B^220:=cno h hl (by omega)
theorem mk_siz {neg:Bool}{m n k:Nat}(hn:0<n) (h1:m<B^k) (h2:n<B^k):Siz (mkRat (sgn neg m) n) k:=by
 obtain⟨e1,e2,_⟩:=cht neg (m:=m) hn;refine⟨?_,?_⟩
 ·rw[e1];exact jP (kX _ _) h1
 ·rw[e2];exact jP (kX _ _) h2
def RdS (w0:World) (l T:List UInt8) (neg:Bool) (i:Nat) (a:Act) (w:World):Prop:=Below w0.heap.size w0 w/\a.defers=[]/\a.tmps.size=81/\∃ b,a.tmps[2]?=some (.pointer (some ⟨b,0,none⟩))/\w0.heap.size<=b/\w.heap[b]?=some (.cells #[.bool false,.slice none 0 0,.slice none 0 0] 40 (0,0))/\a.tmps[0]?=some (str l)/\a.tmps[4]?=some (str T)/\a.tmps[5]?=some (.bool neg)/\a.tmps[6]?=some (ii (i:Int))
def zr:List Grp:=[.lit (.bool false),.lit (.slice none 0 0),.lit (.slice none 0 0)]
section
variable {csz:List Nat}{numc:List Bool}{okT:List Nat}{cl:List Cl}{w0:World}{w:World}{p0 p4 p5 p6:Pat}{neg:Bool}{l T:List UInt8}{i:Nat}{a:Act}
theorem at_rds (h:At (mkC csz numc okT 81 cl w0) [.box 2 40 zr,.val 0 p0,.val 4 p4,.val 5 p5,.val 6 p6] a w) (h0:∀ w v,p0.is (mkC csz numc okT 81 cl w0) w v->v=str l) (h4:∀ w v,p4.is (mkC csz numc okT 81 cl w0) w v->v=str T) (h5:∀ w v,p5.is (mkC csz numc okT 81 cl w0) w v->v=.bool neg) (h6:∀ w v,p6.is (mkC csz numc okT 81 cl w0) w v->v=ii (i:Int)):RdS w0 l T neg i a w:=by
 obtain⟨b,vs,q1,q2,_,q3,⟨xs,ys,rfl,rfl,xs2,ys2,rfl,rfl,xs3,ys3,rfl,rfl,e5⟩,⟨v0,q4,q5⟩,⟨v4,q6,q7⟩,⟨v5,q8,q9⟩,⟨v6,q10,q11⟩,_⟩:=h.items;rw[show ys3=[] from e5] at q3;rw[h0 _ _ q5] at q4;rw[h4 _ _ q7] at q6;rw[h5 _ _ q9] at q8;rw[h6 _ _ q11] at q10;exact⟨h.below,h.defers,h.size,b,q1,q2.1,q3,q4,q6,q8,q10⟩
theorem rds_at (h:RdS w0 l T neg i a w) (h0:p0.is (mkC csz numc okT 81 cl w0) w (str l)) (h4:p4.is (mkC csz numc okT 81 cl w0) w (str T)) (h5:p5.is (mkC csz numc okT 81 cl w0) w (.bool neg)) (h6:p6.is (mkC csz numc okT 81 cl w0) w (ii (i:Int))) (hL:cl.flatMap (·.L)=[]:=by rfl):At (mkC csz numc okT 81 cl w0) [.box 2 40 zr,.val 0 p0,.val 4 p4,.val 5 p5,.val 6 p6] a w:=by
 obtain⟨g1,g2,g3,b,q1,q2,q3,q4,q5,q6,q7⟩:=h;exact⟨g1,g2,g3,⟨b,[.bool false,.slice none 0 0,.slice none 0 0],q1,⟨q2,fun hk=>noL hL hk⟩,by simp,q3,⟨[.bool false],[.slice none 0 0,.slice none 0 0],rfl,rfl,[.slice none 0 0],[.slice none 0 0],rfl,rfl,[.slice none 0 0],[],rfl,rfl,rfl⟩,⟨_,q4,h0⟩,⟨_,q5,h4⟩,⟨_,q6,h5⟩,⟨_,q7,h6⟩,trivial⟩,fun k hk=>noL hL hk⟩
end
noncomputable def b_read:Code:=EB Tryz.f51
noncomputable def x_read:Code:=cE (cE (cE (cE (cE b_read))))
noncomputable def l_read:Code:=kq (kq (jQ x_read))
def Uk (w:World) (l:List UInt8) (e:Ending) (w':World):Prop:=∃ v,e=.returned (.tuple #[v,.int .i64 (kG l).2])/\RQ w' v (kG l).1/\Below w.heap.size w w'
abbrev cl_r0 (l:List UInt8):List Cl:=[clV (str l),clV (str (l.drop 1)),clV (ii (l.length:Int)),clV (.int .u8 (((l.getD 0 0).toNat:Nat):Int)),clR ((0:Int):Rat) 220]
noncomputable abbrev C_r0 (l:List UInt8) (w:World):Ctx:=mkC [1,1,1,1,3] [true,true,true,true,true] [40] 81 (cl_r0 l) w
theorem cdH (l:List UInt8) (w:World):(C_r0 l w).Ok:=uw (cn (yU _) (cn (yU _) (cn (kx _) (cn (cam rfl) (cn (zW yk _ _) kr))))) rfl rfl
def t_r0 (b1 b2:Bool):List Ent:=[⟨.blt .len [9] 3,[op 0],.val (op 2)⟩,⟨.bin .gtr 3,[op 2,vp (ii 4000)],.val (vp (.bool b1))⟩,⟨.bin .gtr 3,[op 2,vp (ii 0)],.val (vp (.bool b2))⟩,⟨.call 62,[vp (ii 0)],.val (rq 4)⟩]
theorem r0_T (l:List UInt8) (w:World) {b1 b2:Bool}(h1:decide (4000<l.length)=b1) (h2:decide (0<l.length)=b2):∀ t∈t_r0 b1 b2,t.Valid (C_r0 l w) :=
 ce (cdb rfl (pv rfl) (rv rfl)) (ce (Ef (pv rfl) pvl (by rw[← h1];congr 1;apply propext;omega)) (ce (Ef (pv rfl) pvl (by rw[← h2];congr 1;apply propext;omega)) (ce (e_rint (by decide) (by decide) rfl (by decide)) cj)))
def t_r1 (b:Bool):List Ent:=[⟨.si 9,[op 0,vp (ii 0)],.val (op 3)⟩,⟨.bin .eql 5,[op 3,vp (.int .u8 45)],.val (vp (.bool b))⟩,⟨.sl 9 true false false,[op 0,vp (ii 1)],.val (op 1)⟩]
theorem r1_T (l:List UInt8) (w:World) (hl:0<l.length) {b:Bool}(h:decide ((l.getD 0 0).toNat=45)=b):∀ t∈t_r1 b,t.Valid (C_r0 l w) :=
 ce (ckv (i:=0) hl rfl (pv rfl) pvl (rv rfl)) (ce (chd (pv rfl) pvl (by rw[← h];congr 1;apply propext;omega)) (ce (cky (i:=1) hl (pv rfl) pvl (rv rfl)) cj))
theorem Es {C:Ctx}{l1 l2:List Ent}(h1:∀ t∈l1,t.Valid C) (h2:∀ t∈l2,t.Valid C):∀ t∈l1++l2,t.Valid C:=fun t ht=>(List.mem_append.1 ht).elim (h1 t) (h2 t)
theorem cmY (l:List UInt8) (w:World) (h:4000<l.length):Calls Tryz.prog 51 #[str l] w (Uk w l):=by
 refine(kM (cdH l w) (r0_T l w (cF h) rfl) 51 Tryz.f51 [op 0] (.tup [rq 4,vp (ii 5)]) 60 Tryz.func51 rfl rfl rfl (by kernel_rfl) [str l] ⟨_,_,rfl,(yB rfl).2 rfl,rfl⟩).mono ?_;rintro e w' ⟨v,rfl,⟨vs,⟨v1,_,rfl,g1,v2,_,rfl,g2,rfl⟩,rfl⟩,hb⟩;obtain rfl:=Gk.1 g2;have hr:kG l=(0,5):=by unfold kG;rw[co h]
 unfold Uk;rw[hr];exact⟨v1,rfl,((yL rfl).1 g1).1,hb⟩
abbrev cgW (l T:List UInt8) (i:Nat) (NA NB:List Nat) (x:Rat):List Cl:=[clV (str l),clV (str T),clV (ii (i:Int)),clV (ii (T.length:Int)),clV (.int .u8 (((T.getD i 0).toNat:Nat):Int)),clV (ii ((i+1:Nat):Int)),clV (str (T.take i)),clV (str (T.drop (i+1))),clD NA,clD NB,clD (digs 1),clR ((0:Int):Rat) 220,clR x 220,clV (str (ul x)),clV (ii (NB.length:Int))]
noncomputable abbrev C_rl (l T:List UInt8) (i:Nat) (NA NB:List Nat) (x:Rat) (w:World):Ctx:=mkC [1,1,1,1,1,1,1,1,1,1,1,3,3,1,1] [true,true,true,true,true,true,true,true,false,false,false,true,true,true,true] [40] 81 (cgW l T i NA NB x) w
theorem rl_C (l T:List UInt8) (i:Nat) (NA NB:List Nat) (x:Rat) (w:World):(C_rl l T i NA NB x w).Ok:=uw (cn (yU _) (cn (yU _) (cn (kx _) (cn (kx _) (cn (cam rfl) (cn (kx _) (cn (yU _) (cn (yU _) (cn (jK yk _) (cn (jK yk _) (cn (jK yk _) (cn (zW yk _ _) (cn (zW yk _ _) (cn (yU _) (cn (kx _) kr))))))))))))))) rfl rfl
def t_rA (b:Bool):List Ent:=[⟨.blt .len [9] 3,[op 1],.val (op 3)⟩,⟨.bin .lss 3,[op 2,op 3],.val (vp (.bool b))⟩,⟨.bin .add 3,[op 2,vp (ii 1)],.val (op 5)⟩]
def t_rB (b:Bool):List Ent:=[⟨.si 9,[op 1,op 2],.val (op 4)⟩,⟨.bin .neq 5,[op 4,vp (.int .u8 47)],.val (vp (.bool b))⟩]
def t_rC (ok:Bool):List Ent:=[⟨.sl 9 false true false,[op 1,op 2],.val (op 6)⟩,⟨.call 88,[op 6],.tup [op 8,vp (.bool ok)]⟩,⟨.bs 38 1,[vp (ii 1)],.val (op 10)⟩,⟨.call 62,[vp (ii 0)],.val (rq 11)⟩,⟨.blt .len [38] 3,[op 10],.val (vp (ii 1))⟩]
def t_rD (ok e:Bool):List Ent:=[⟨.sl 9 true false false,[op 1,op 5],.val (op 7)⟩,⟨.call 88,[op 7],.tup [op 9,vp (.bool ok)]⟩,⟨.blt .len [38] 3,[op 9],.val (op 14)⟩,⟨.bin .eql 3,[op 14,vp (ii 0)],.val (vp (.bool e))⟩]
def t_rE (s:Bool) (c:Nat) (e:Bool):List Ent:=[⟨.call 89,[vp (.bool s),op 8,op c],.val (rq 12)⟩,⟨.call 90,[rq 12],.val (op 13)⟩,⟨.bin .neq 9,[op 13,op 0],.val (vp (.bool e))⟩]
section
variable {l T:List UInt8}{i:Nat}{NA NB:List Nat}{x:Rat}{w:World}
theorem cgz {b:Bool}(hi:i<100000) (h:decide (i<T.length)=b):∀ t∈t_rA b,t.Valid (C_rl l T i NA NB x w) :=
 ce (cdb rfl (pv rfl) (rv rfl)) (ce (CH (pv rfl) (pv rfl) (by rw[← h];congr 1;apply propext;omega)) (ce (zR (by omega) (pv rfl) pvl (rv rfl) (by omega)) cj))
theorem rB_T {b:Bool}(hi:i<T.length) (h:decide (T.getD i 0≠47)=b):∀ t∈t_rB b,t.Valid (C_rl l T i NA NB x w) :=
 ce (ckv hi rfl (pv rfl) (pv rfl) (rv rfl)) (ce (e_neqk (pv rfl) pvl (by
  rw[← h];by_cases h0:T.getD i 0=47
  ·rw[h0];rfl
  ·have:(T.getD i 0).toNat≠47:=fun e=>h0 (UInt8.toNat_inj.1 (by rw[e];rfl));rw[cF h0];exact bne_iff_ne.2 (fun e=>this (by omega)))) cj)
theorem rC_T {ok:Bool}(hi:i<=T.length) (hl:T.length<100000) (hN:(if (T.take i).all kT then digs (jB (T.take i)) else [])=NA) (hok:uR (T.take i)=ok):∀ t∈t_rC ok,t.Valid (C_rl l T i NA NB x w) :=
 ce (e_sto hi (pv rfl) (pv rfl) (rv rfl)) (ce (ceB (by rw[jp];omega) (pv rfl) hN hok rfl) (ce (ckF (x:=1) pvl (rd (by rw[← UI];rfl))) (ce (e_rint (by decide) (by decide) rfl (by decide)) (ce (yY jU (pd rfl) (by rw[UI];exact rvl)) cj))))
theorem rD_T {ok e:Bool}(hi:i<T.length) (hl:T.length<100000) (hN:(if (T.drop (i+1)).all kT then digs (jB (T.drop (i+1))) else [])=NB) (hok:uR (T.drop (i+1))=ok) (he:decide (NB.length=0)=e):∀ t∈t_rD ok e,t.Valid (C_rl l T i NA NB x w) :=
 ce (cky hi (pv rfl) (pv rfl) (rv rfl)) (ce (ceB (by rw[uK];omega) (pv rfl) hN hok rfl) (ce (yY jU (pd rfl) (rv rfl)) (ce (chd (pv rfl) pvl (by rw[← he];congr 1;apply propext;omega)) cj)))
theorem rE_T {s e:Bool}{m n c:Nat}(hA:NA=digs m) (hc:PD [1,1,1,1,1,1,1,1,1,1,1,3,3,1,1] [true,true,true,true,true,true,true,true,false,false,false,true,true,true,true] [40] 81 (cgW l T i NA NB x) w (op c) (digs n)) (hn:0<n) (hm:m<B^220) (hn2:n<B^220) (hx:x=mkRat (sgn s m) n) (he:(!decide (ul x=l))=e):∀ t∈t_rE s c e,t.Valid (C_rl l T i NA NB x w):=by
 have h1:=ze hm;have h2:=ze hn2;subst hA;exact ce (e_makeq pvl (pd rfl) hc hn (by omega) (by omega) hx (by rw[hx];exact mk_siz hn hm hn2) rfl) (ce (e_texta (pr rfl) (by decide) (rv rfl)) (ce (e_neqs (pv rfl) (pv rfl) he) cj))
end
theorem chn (neg:Bool) (l T:List UInt8) (i:Nat) (w:World) (hl:l.length<=4000) (hT:T=uz l) (hm:kK l=neg) (hi:i<=T.length) (htake:∀ c∈T.take i,c≠47) (hend:T.length<=i\/T.getD i 0=47) (a1:Act) (w1:World) (hR:RdS w l T neg i a1 w1):(cE x_read).wp Tryz.prog (bodyPost Tryz.prog Tryz.f51 (Uk w l)) a1 w1:=by
 have hTl:T.length<=4000:=by
  have:=Jf l;rw[← hT] at this;omega
 obtain⟨inf,hinf,hsz⟩:=Option.map_eq_some_iff.1 cng;obtain⟨t1,t2⟩:=cju T i htake hend;have hab:uj l=T.take i:=by unfold uj;rw[← hT];exact t1
 have hlen3:∀ {C:Ctx} {w:World} {c:Nat} vs,cO C w [.cls c 3] vs->vs.length=inf.size:=by
  rintro C w c vs ⟨xs,ys,rfl,⟨f,_,rfl⟩,hy⟩;rw[show ys=[] from hy,hsz];rfl
 have cells:∀ {NA NB:List Nat} {x:Rat} {c:Nat} {r:Rat} {k:Nat} {w':World} vs,(cgW l T i NA NB x)[c]?=some (clR r k)->cO (C_rl l T i NA NB x w) w' [.cls c 3] vs->RQ w' (.agg vs.toArray) r:=by
  intro NA NB x c r k w' vs hc h;exact((yL hc).1 ⟨vs,h,rfl⟩).1
 have at0:∀ (NA NB:List Nat) (x:Rat),At (C_rl l T i NA NB x w) [.box 2 40 zr,.val 0 (op 0),.val 4 (op 1),.val 5 (vp (.bool neg)),.val 6 (op 2)] a1 w1:=fun NA NB x=>rds_at hR ((yB rfl).2 rfl) ((yB rfl).2 rfl) (Gk.2 rfl) ((yB rfl).2 rfl);have bad:∀ {NA NB:List Nat} {x:Rat} {Tb:List Ent},(∀ t∈Tb,t.Valid (C_rl l T i NA NB x w))->kG l=(0,4)->cdG (C_rl l T i NA NB x w).toStat Tb 60 (cE x_read) [.box 2 40 zr,.val 0 (op 0),.val 4 (op 1),.val 5 (vp (.bool neg)),.val 6 (op 2)] .ret [.box 2 40 [.cls 11 3],.val 3 (vp (ii 4))]=true->(cE x_read).wp Tryz.prog (bodyPost Tryz.prog Tryz.f51 (Uk w l)) a1 w1:=by
  intro NA NB x Tb hTb hq hrun;refine kf (rl_C _ _ _ _ _ _ _) hTb hrun (at0 NA NB x) (fun a2 w2 hA=>ckL (C:=C_rl l T i NA NB x w) (fn:=Tryz.f51) (t:=2) (ty:=40) (s:=3) rfl chU (by cases neg<;>kernel_rfl) hinf hA (fun vs h=>hlen3 vs h) (fun vs u h1 h2=>?_));obtain rfl:=Gk.1 h2;unfold Uk;rw[hq];exact⟨_,rfl,cells vs rfl h1,hA.below⟩
 have good:∀ {NA NB:List Nat} {x:Rat} {Tb:List Ent},(∀ t∈Tb,t.Valid (C_rl l T i NA NB x w))->kG l=(x,0)->cdG (C_rl l T i NA NB x w).toStat Tb 60 (cE x_read) [.box 2 40 zr,.val 0 (op 0),.val 4 (op 1),.val 5 (vp (.bool neg)),.val 6 (op 2)] .ret [.box 2 40 [.cls 12 3],.val 3 (vp (ii 0))]=true->(cE x_read).wp Tryz.prog (bodyPost Tryz.prog Tryz.f51 (Uk w l)) a1 w1:=by
  intro NA NB x Tb hTb hq hrun;refine kf (rl_C _ _ _ _ _ _ _) hTb hrun (at0 NA NB x) (fun a2 w2 hA=>ckL (C:=C_rl l T i NA NB x w) (fn:=Tryz.f51) (t:=2) (ty:=40) (s:=3) rfl chU (by cases neg<;>kernel_rfl) hinf hA (fun vs h=>hlen3 vs h) (fun vs u h1 h2=>?_));obtain rfl:=Gk.1 h2;unfold Uk;rw[hq];exact⟨_,rfl,cells vs rfl h1,hA.below⟩
 have hnl:¬ 4000<l.length:=by omega
 have hit:i<100000:=by omega
 have okAll:∀ {b:List UInt8},uR b=true->b.all kT=true:=by
  intro b h;unfold uR at h;simp only[EL] at h;exact h.2
 by_cases hs:i<T.length
 ·-- a slash
  have hbe:jM l=T.drop (i+1):=by
   unfold jM;rw[← hT,t2];have:T.drop i=T[i]::T.drop (i+1):=KM hs;rw[this];rfl
  cases ok1:uR (T.take i) with
  |false =>
   have hq:kG l=(0,4):=uE hnl (by unfold uF;rw[hab,ok1];rfl);cases ok2:uR (T.drop (i+1)) <;>
    exact bad (x:=0) (Es (cgz hit (cF hs)) (Es (rC_T hi (by omega) rfl ok1) (rD_T hs (by omega) rfl ok2 rfl))) hq (by cases neg<;>kernel_rfl)
  |true =>
   have hAd:=okAll ok1;cases ok2:uR (T.drop (i+1)) with
   |false =>
    have hq:kG l=(0,4):=uE hnl (by unfold uF;rw[hab,hbe,ok1,ok2];rfl);exact bad (x:=0) (Es (cgz hit (cF hs)) (Es (rC_T hi (by omega) rfl ok1) (rD_T hs (by omega) rfl ok2 rfl))) hq (by cases neg<;>kernel_rfl)
   |true =>
    have hBd:=okAll ok2;by_cases hz:jB (T.drop (i+1))=0
    ·have hq:kG l=(0,4):=uE hnl (by unfold uF;rw[hab,hbe,ok1,ok2,hz];rfl);exact bad (x:=0) (Es (cgz hit (cF hs)) (Es (rC_T hi (by omega) rfl ok1) (rD_T (e:=true) (NB:=[]) hs (by omega) (by rw[co hBd,hz,digs_zero]) ok2 rfl))) hq (by cases neg<;>kernel_rfl)
    ·have hp:uF l=some (mkRat (sgn neg (jB (T.take i))) (jB (T.drop (i+1)))):=by
      unfold uF;rw[hab,hbe,ok1,ok2,hm,ceN];simp [hz]
     have hn0:0<jB (T.drop (i+1)):=by omega
     have hq:=KB hnl hp;have hlz:decide ((digs (jB (T.drop (i+1)))).length=0)=false:=by
      have:=yO.2 hz;exact cK (by omega)
     have base:=fun(x:Rat)=>Es (cgz (l:=l) (x:=x) (w:=w) hit (cF hs)) (Es (rC_T (NB:=digs (jB (T.drop (i+1)))) hi (by omega) (co hAd) ok1) (rD_T hs (by omega) (co hBd) ok2 hlz));have s1:=ZU hAd (by rw[jp];omega);have s2:=ZU hBd (by rw[uK];omega);by_cases he:ul (mkRat (sgn neg (jB (T.take i))) (jB (T.drop (i+1))))=l
     ·rw[co he] at hq;exact good (Es (base _) (rE_T (s:=neg) (e:=false) (c:=9) rfl (pd rfl) hn0 s1 s2 rfl (by simp [he]))) hq (by cases neg<;>kernel_rfl)
     ·rw[cg he] at hq;exact bad (Es (base _) (rE_T (s:=neg) (e:=true) (c:=9) rfl (pd rfl) hn0 s1 s2 rfl (by simp [he]))) hq (by cases neg<;>kernel_rfl)
 ·have hbe:jM l=[49]:=by
   unfold jM;rw[← hT,t2,cfY (by omega)];rfl
  have k49:uR [49]=true:=rfl;have d49:jB [49]=1:=rfl;cases ok1:uR (T.take i) with
  |false =>
   have hq:kG l=(0,4):=uE hnl (by unfold uF;rw[hab,ok1];rfl);exact bad (x:=0) (NB:=[]) (Es (cgz hit (cK hs)) (rC_T hi (by omega) rfl ok1)) hq (by cases neg<;>kernel_rfl)
  |true =>
   have hAd:=okAll ok1;have hp:uF l=some (mkRat (sgn neg (jB (T.take i))) 1):=by
    unfold uF;rw[hab,hbe,ok1,k49,hm,d49,ceN];rfl
   have hq:=KB hnl hp;have base:=fun(x:Rat)=>Es (cgz (l:=l) (x:=x) (NB:=[]) (w:=w) hit (cK hs)) (rC_T hi (by omega) (co hAd) ok1);have s1:=ZU hAd (by rw[jp];omega);have s2:1<B^220:=YO (by decide);by_cases he:ul (mkRat (sgn neg (jB (T.take i))) 1)=l
   ·rw[co he] at hq;exact good (Es (base _) (rE_T (s:=neg) (e:=false) (c:=10) rfl (pd rfl) (by decide) s1 s2 rfl (by simp [he]))) hq (by cases neg<;>kernel_rfl)
   ·rw[cg he] at hq;exact bad (Es (base _) (rE_T (s:=neg) (e:=true) (c:=10) rfl (pd rfl) (by decide) s1 s2 rfl (by simp [he]))) hq (by cases neg<;>kernel_rfl)
theorem cmD (neg:Bool) (l:List UInt8) (w:World) (hl:l.length<=4000) (hm:kK l=neg) (a:Act) (w1:World) (hR:RdS w l (uz l) neg 0 a w1):x_read.wp Tryz.prog (bodyPost Tryz.prog Tryz.f51 (Uk w l)) a w1:=by
 have hTl:(uz l).length<=4000:=cA (Jf l) hl;obtain⟨T,hT⟩:∃ T,T=uz l:=⟨_,rfl⟩;rw[← hT] at hR hTl;show (Code.seq (.block 0 (.loop l_read)) (cE x_read)).wp Tryz.prog _ a w1;refine cB (uG (Θ:=Nat) (fun i a w1=>i<=T.length/\(∀ c∈T.take i,c≠47)/\RdS w l T neg i a w1) (fun i=>T.length-i) ?_ 0 ⟨ju _,by simp,hR⟩);rintro i a w1 ⟨hi,htk,hR⟩;have hA:=rds_at (csz:=[1,1,1,1,1,1,1,1,1,1,1,3,3,1,1]) (numc:=[true,true,true,true,true,true,true,true,false,false,false,true,true,true,true]) (okT:=[40]) (cl:=cgW l T i [] [] 0) (p0:=op 0) (p4:=op 1) (p5:=vp (.bool neg)) (p6:=op 2) hR ((yB rfl).2 rfl) ((yB rfl).2 rfl) (Gk.2 rfl) ((yB rfl).2 rfl);have back:∀ {c j:Nat} {a':Act} {w':World},(cgW l T i [] [] 0)[c]?=some (clV (ii (j:Int)))->At (C_rl l T i [] [] 0 w) [.box 2 40 zr,.val 0 (op 0),.val 4 (op 1),.val 5 (vp (.bool neg)),.val 6 (op c)] a' w'->RdS w l T neg j a' w':=fun hc hA=>at_rds hA (fun w v hv=>(yB rfl).1 hv) (fun w v hv=>(yB rfl).1 hv) (fun w v hv=>Gk.1 hv) (fun w v hv=>(yB hc).1 hv);by_cases hs:i<T.length
 ·have hg:T.getD i 0=T[i]:=by simp [List.getD,hs]
  by_cases h47:T.getD i 0=47
  ·refine kf (rl_C _ _ _ _ _ _ _) (Es (cgz (by omega) (cF hs)) (rB_T (b:=false) hs (cK (fun h=>h h47)))) (x:=.exit 0) (n:=30) (post:=[.box 2 40 zr,.val 0 (op 0),.val 4 (op 1),.val 5 (vp (.bool neg)),.val 6 (op 2)]) (by cases neg<;>kernel_rfl) hA (fun a2 w2 hA=>?_);exact chn neg l T i w hl hT hm hi htk (.inr h47) a2 w2 (back rfl hA)
  ·refine kf (rl_C _ _ _ _ _ _ _) (Es (cgz (by omega) (cF hs)) (rB_T (b:=true) hs (cF h47))) (x:=.normal) (n:=30) (post:=[.box 2 40 zr,.val 0 (op 0),.val 4 (op 1),.val 5 (vp (.bool neg)),.val 6 (op 5)]) (by cases neg<;>kernel_rfl) hA (fun a2 w2 hA=>⟨i+1,⟨hs,?_,back rfl hA⟩,by show T.length-(i+1)<T.length-i;omega⟩);intro c hc;rw[List.take_add_one,kb hs] at hc;rcases List.mem_append.1 hc with h|h
   ·exact htk c h
   ·have:c=T[i]:=by simpa using h
    rw[this,← hg];exact h47
 ·refine kf (rl_C _ _ _ _ _ _ _) (cgz (by omega) (cK hs)) (x:=.exit 0) (n:=30) (post:=[.box 2 40 zr,.val 0 (op 0),.val 4 (op 1),.val 5 (vp (.bool neg)),.val 6 (op 2)]) (by cases neg<;>kernel_rfl) hA (fun a2 w2 hA=>?_);exact chn neg l T i w hl hT hm hi htk (.inl (by omega)) a2 w2 (back rfl hA)
theorem read_ok (l:List UInt8) (w:World) (hl:l.length<=4000):Calls Tryz.prog 51 #[str l] w (Uk w l):=by
 have hs:decide (4000<l.length)=false:=cK (by omega);refine Cc (C:=C_r0 l w) (f:=51) (args:=[op 0]) Tryz.func51 (c:=.seq (jQ b_read) (.seq (jQ (cE b_read)) (.seq (jQ (cE (cE b_read))) (.seq (jQ (cE (cE (cE b_read)))) (.seq (jQ (cE (cE (cE (cE b_read))))) x_read))))) rfl rfl (jo rfl) (vs:=[str l]) ⟨_,_,rfl,(yB rfl).2 rfl,rfl⟩ (fun a hA=>?_);refine cB (kf (cdH _ _) (T:=[]) cj (x:=.normal) (n:=30) (post:=[.box 2 40 zr,.val 0 (op 0)]) (by kernel_rfl) hA (fun a1 w1 hA=>?_));refine cB (kf (cdH _ _) (r0_T l w hs rfl) (x:=.normal) (n:=30) (post:=[.box 2 40 zr,.val 0 (op 0)]) (by kernel_rfl) hA (fun a2 w2 hA=>?_));refine cB (kf (cdH _ _) (T:=[]) cj (x:=.normal) (n:=30) (post:=[.box 2 40 zr,.val 0 (op 0),.val 4 (op 0),.val 5 (vp (.bool false))]) (by kernel_rfl) hA (fun a3 w3 hA=>?_));have more:∀ {c:Nat} {s:Bool} {a:Act} {w1:World},(cl_r0 l)[c]?=some (clV (str (uz l)))->kK l=s->At (C_r0 l w) [.box 2 40 zr,.val 0 (op 0),.val 4 (op c),.val 5 (vp (.bool s)),.val 6 (vp (ii 0))] a w1->x_read.wp Tryz.prog (bodyPost Tryz.prog Tryz.f51 (Uk w l)) a w1:=by
  intro c s a w1 hc hm hA;have hR:=at_rds (l:=l) (T:=uz l) (neg:=s) (i:=0) hA (fun w v hv=>(yB rfl).1 hv) (fun w v hv=>(yB hc).1 hv) (fun w v hv=>Gk.1 hv) (fun w v hv=>Gk.1 hv);exact cmD s l w hl hm a w1 hR
 by_cases h0:0<l.length
 ·have hg:l.getD 0 0=l[0]:=by simp [List.getD,h0]
  have hmi:kK l=decide ((l.getD 0 0).toNat=45):=by
   unfold kK;rw[hg];cases l with
   |nil=>simp at h0
   |cons c l =>
    by_cases hc:c=45
    ·subst hc;rfl
    ·have:¬ c.toNat=45:=fun e=>hc (UInt8.toNat_inj.1 (by rw[e];rfl));simp [hc,this]
  cases hm:decide ((l.getD 0 0).toNat=45) with
  |true =>
   rw[hm] at hmi;refine cB (kf (cdH _ _) (Es (r0_T l w hs (cF h0)) (r1_T l w h0 hm)) (x:=.normal) (n:=30) (post:=[.box 2 40 zr,.val 0 (op 0),.val 4 (op 1),.val 5 (vp (.bool true))]) (by kernel_rfl) hA (fun a4 w4 hA=>?_));refine cB (kf (cdH _ _) (T:=[]) cj (x:=.normal) (n:=30) (post:=[.box 2 40 zr,.val 0 (op 0),.val 4 (op 1),.val 5 (vp (.bool true)),.val 6 (vp (ii 0))]) (by kernel_rfl) hA (fun a5 w5 hA=>?_));exact more (c:=1) (by show some (clV (str (l.drop 1)))=_;unfold uz;rw[hmi];simp) hmi hA
  |false =>
   rw[hm] at hmi;refine cB (kf (cdH _ _) (Es (r0_T l w hs (cF h0)) (r1_T l w h0 hm)) (x:=.normal) (n:=30) (post:=[.box 2 40 zr,.val 0 (op 0),.val 4 (op 0),.val 5 (vp (.bool false))]) (by kernel_rfl) hA (fun a4 w4 hA=>?_));refine cB (kf (cdH _ _) (T:=[]) cj (x:=.normal) (n:=30) (post:=[.box 2 40 zr,.val 0 (op 0),.val 4 (op 0),.val 5 (vp (.bool false)),.val 6 (vp (ii 0))]) (by kernel_rfl) hA (fun a5 w5 hA=>?_));exact more (c:=0) (by show some (clV (str l))=_;unfold uz;rw[hmi];rfl) hmi hA
 ·have hmi:kK l=false:=by
   cases l with
   |nil=>rfl
   |cons c l=>simp at h0
  refine cB (kf (cdH _ _) (r0_T l w hs (cK h0)) (x:=.normal) (n:=30) (post:=[.box 2 40 zr,.val 0 (op 0),.val 4 (op 0),.val 5 (vp (.bool false))]) (by kernel_rfl) hA (fun a4 w4 hA=>?_));refine cB (kf (cdH _ _) (T:=[]) cj (x:=.normal) (n:=30) (post:=[.box 2 40 zr,.val 0 (op 0),.val 4 (op 0),.val 5 (vp (.bool false)),.val 6 (vp (ii 0))]) (by kernel_rfl) hA (fun a5 w5 hA=>?_));exact more (c:=0) (by show some (clV (str l))=_;unfold uz;rw[hmi];rfl) hmi hA
theorem cml (l:List UInt8) (w:World):Calls Tryz.prog 51 #[str l] w (Uk w l):=by
 by_cases h:4000<l.length
 ·exact cmY l w h
 ·exact read_ok l w (by omega)
end Sym
end Go.Proofs.YtdopipkmcnkdjaaGreatDoor
