/- Part 16. -/
import Derived.RangeFuncIn
import Derived.RangeFuncSeq
import Derived.OwnWalkIn
import Derived.TacticsInMore
import Derived.LoopNIn
import Derived.LoopIn
import Derived.Test.YtcgiaclelnmhbabGreatDoorE14
import Derived.Test.YtcgiaclelnmhbabGreatDoorE15
set_option linter.all false

namespace Go.Proofs.YtcgiaclelnmhbabGreatDoor
open Go Go.RowKit
structure Gz (m:Nat) (A B:World):Prop where
 size:A.heap.size<=B.heap.size
 block:∀ k,m<=k->k<A.heap.size->B.heap[k]?=A.heap[k]?
theorem Gz.trans {m:Nat}{A B C:World}(h:Gz m A B) (k:Gz m B C):Gz m A C :=
 ⟨cB h.size k.size,fun i hm hi=>(k.block i hm (cT hi h.size)).trans (h.block i hm hi)⟩
theorem Gz.mono {m m':Nat}{A B:World}(h:Gz m A B) (hm:m<=m'):Gz m' A B:=⟨h.size,fun k h1 h2=>h.block k (cB hm h1) h2⟩
theorem Gz.putObj {m l:Nat}(A:World) (o:Obj) (h:l<m):Gz m A (A.putObj l o):=⟨by simp,fun k hm _=>uQ (by omega)⟩
theorem zC {m l:Nat}(A:World) (o:Obj) (h:m<=l):Below m A (A.putObj l o):=⟨rfl,rfl,rfl,by simp,fun k hk=>uQ (by omega)⟩
def Lies {β:Type}(B:Nat) (I:β->World->Prop):Prop:=∀ s A C,I s A->Below B A C->I s C
def SeqOwn {α:Type}(F:Fence) (n:Nat) (P:Program) (g:Nat) (lb:Array Value) (enc:α->Value) (ok:List α->α->Prop) (S:List α->Prop) (w:World):Prop :=
 ∀ (l:Nat) (J:List α->World->Prop) (W:World),Below w.heap.size w W->Lies W.heap.size J->
  (∀ pre x A,J pre A->ok pre x->YieldAt F (n-1) P l #[enc x] A fun e C=>e=.returned (.bool true)/\J (pre++[x]) C/\Gz W.heap.size A C)->
  J [] W->
  CallsIn F n P g (#[.func (.yield l) #[] #[]]++lb) W fun e W'=>(∃ v,e=.returned v)/\∃ xs,S xs/\J xs W'
variable {F:Fence}{n:Nat}{P:Program}
def cig {α:Type}(B:Nat) (I:List α->World->Prop) (xs:List α) (W:World):Exit->Act->World->Prop
 |.normal,_,W'=>Gz B W W'/\I xs W'
 |_,_,_=>False
theorem GE {α:Type}{g:Operand}{ps:Array Tmp}{assign body:Code}{Q:Exit->Act->World->Prop}{a:Act}{w:World}
 (hro:F.round=none) (h1:1<=n) {gf:Nat} {lb:Array Value} (hg:a.eval g=.func (.func gf) #[] lb) (hFg:F.fn gf) (eg:∀ args w,(callFunc gf args).run P w=.ok (.enter gf args) w)
 {enc:α->Value} {ok:List α->α->Prop} {S:List α->Prop} {w0:World} (hseq:SeqOwn F (n-1) P gf lb enc ok S w0) (hb0:Below w0.heap.size w0 w) (hps:ps.size=1)
 (I:List α->World->Prop) (hI:Lies w.heap.size I) (h0:I [] w) (a₁:α->Act)
 (hassign:∀ (l:Nat) (x:α) (W:World) (K:Act->World->Prop),K (a₁ x) W->
  assign.wpIn (F.inRound l) (n-1-1) P (Exit.then K (fun _ _ _=>False)) { tmps:=(ps.zip #[enc x]).foldl (fun t (p,v)=>t.setIfInBounds p v) a.tmps,defers:=[] } W)
 (hbody:∀ (l:Nat) (pre:List α) (x:α) (W:World),I pre W->ok pre x->w.heap.size<=W.heap.size->body.wpIn (F.inRound l) (n-1-1) P (cig w.heap.size I (pre++[x]) W) (a₁ x) W)
 (hdone:∀ (xs:List α) (W:World),S xs->I xs W->w.heap.size<W.heap.size->W.heap[w.heap.size]?=some (.deferred (some []))->Q .normal { a with defers:={ target:=.collected w.heap.size,args:=#[] }::a.defers } W) :
 (Code.rangeFunc g ps assign body).wpIn F n P Q a w:=by
 refine wpIn_rangeFunc ?_;intro fn hfn;rw[hro];obtain⟨rec,hrec⟩:∃ rec:LoopState->Option Code->Loop,rec=fun st pe=>{ state:=st,pending:=pe,fn,tmps:=a.tmps,params:=ps,assign,body,defers:=w.heap.size }:=⟨_,rfl⟩;obtain⟨W1,hW1⟩:∃ W1,(w.alloc (.deferred (some []))).alloc (.loop (rec .ready none))=W1:=⟨_,rfl⟩;have hs1:W1.heap.size=w.heap.size+2:=by rw[← hW1,JG,JG]
 have hL1:W1.heap[w.heap.size+1]?=some (.loop (rec .ready none)):=by
  rw[← hW1];have:=World.alloc_heap_new (w.alloc (.deferred (some []))) (.loop (rec .ready none))
  rwa [JG] at this
 have hb1:Below w.heap.size w W1:=by rw[← hW1];exact(((cF _ w).alloc (cb _) _).alloc (by simp) _)
 have hK1:W1.heap[w.heap.size]?=some (.deferred (some [])):=by
  rw[← hW1];exact(Below.heap_alloc _ _ _ (by simp)).trans (World.alloc_heap_new w _)
 refine⟨w.heap.size+1,[{ target:=.collected w.heap.size,args:=#[] }],W1,{ target:=.fn (.func gf) lb,args:=#[.func (.yield (w.heap.size+1)) #[] #[]] },W1,gf,
  #[.func (.yield (w.heap.size+1)) #[] #[]]++lb,W1,?_,?_,?_,?_,fun _=>h1,?_⟩
 ·rw[← hW1,hrec];exact cdQ _ _ _ _ _
 ·simp only[resolve,hg];simp [go_sem]
 ·intro f' hf';simp [Target.leads] at hf';subst hf';exact hFg
 ·simp [invoke,go_sem,eg]
 ·refine(hseq (w.heap.size+1)
   (fun pre W=>I pre W/\W.heap[w.heap.size+1]?=some (.loop (rec .ready none))/\W.heap[w.heap.size]?=some (.deferred (some [])))
   W1 (hb0.trans (hb1.mono hb0.size)) ?_ ?_ ⟨hI _ _ _ h0 hb1,hL1,hK1⟩).mono ?_
  ·rintro s A C ⟨hs,hl,hk⟩ hAC;rw[hs1] at hAC;exact⟨hI _ _ _ hs (hAC.mono (by omega)),(hAC.block _ (by omega)).trans hl,(hAC.block _ (by omega)).trans hk⟩
  ·rintro pre x A ⟨hi,hl,hk⟩ hok;have hlt:w.heap.size+1<A.heap.size:=(Array.getElem?_eq_some_iff.1 hl).1;have hy:=run_yield (P:=P) (args:=#[enc x]) hl (by rw[hrec];simp [hps]);rw[hrec] at hy;refine⟨fn,_,assign,body,hy,roundIn_of_wpIn hfn (hassign _ x A _ ⟨_,run_beginRound hl (by rw[hrec]),?_⟩)⟩;have hl2:(A.putObj (w.heap.size+1) (.loop { rec .ready none with state:=.busy })).heap[w.heap.size+1]?=some (.loop { rec .ready none with state:=.busy }):=zp hlt;have hk2:(A.putObj (w.heap.size+1) (.loop { rec .ready none with state:=.busy })).heap[w.heap.size]?=some (.deferred (some [])):=(uQ (by omega)).trans hk;refine uS (hbody _ pre x _ (hI _ _ _ hi (zC _ _ (by omega))) hok (by rw[World.putObj_size];omega)) ?_;rintro e a3 W3 hp;cases e with
   |normal =>
    obtain⟨hk3,hi3⟩:=hp;have hl3:=(hk3.block (w.heap.size+1) (by omega) (by rw[World.putObj_size];omega)).trans hl2;have hd3:=(hk3.block w.heap.size (by omega) (by rw[World.putObj_size];omega)).trans hk2;have hr:=caZ (P:=P) none hl3;rw[hrec] at hr;refine⟨_,_,hr,rfl,⟨hI _ _ _ hi3 (zC _ _ (by omega)),?_,(uQ (by omega)).trans hd3⟩,?_⟩
    ·rw[hrec];exact zp (Array.getElem?_eq_some_iff.1 hl3).1
    ·rw[hs1];exact((Gz.putObj _ _ (by omega)).trans (hk3.mono (by omega))).trans (Gz.putObj _ _ (by omega))
   |ret=>exact hp.elim
   |exit id=>exact hp.elim
   |goto t=>exact hp.elim
   |panic ch=>exact hp.elim
   |outgrown=>exact hp.elim
  ·rintro e W2 ⟨⟨v,rfl⟩,xs,hS,hi,hl,hk⟩;have hr:=Us (P:=P) hl (by rw[hrec];simp);rw[hrec] at hr;refine⟨none,_,hr,hdone xs _ hS (hI _ _ _ hi (zC _ _ (by omega))) ?_ ((uQ (by omega)).trans hk)⟩;rw[World.putObj_size];have:=(Array.getElem?_eq_some_iff.1 hk).1;omega
open Go Go.RowKit Go.Proofs Lim
theorem trim_at (b n cap:Nat) (L:List Nat) (w:World) (hL:Blk w b L) (hn:n<=L.length) (hc1:n<=cap) (hc2:(cap:Int)<=9223372036854775807) :
 Calls Tryz.prog 91 #[.slice (some ⟨b,0,none⟩) n cap] w (fun e w'=>∃ m,e=.returned (.slice (some ⟨b,0,none⟩) m m)/\m<=n/\val (L.take m)=val (L.take n)/\YM (L.take m)/\w=w'):=by
 have HR:=ca hL;clear hL
 go_enter Tryz.func91,Tryz.ntmps91
 go_wp2_with fail
 go_loop [3] (fun i=>∃ k,k<=n/\i=.int .i64 (k:Int)/\val (L.take k)=val (L.take n)) (fun i=>(intOf i).toNat)
 case atStart=>exact⟨n,cb _,rfl,rfl⟩
 case round =>
  obtain⟨k,hk,rfl,hval⟩:=hrel;have HV:=ca hval;clear hval;by_cases hk0:0<k
  ·obtain⟨j,rfl⟩:∃ j,k=j+1:=⟨k-1,by omega⟩;have hcell:w.cell? ⟨b,j,none⟩=some (u (L[j]?.getD 0)):=HR.out.cell j (by omega);by_cases hz:L[j]?.getD 0=0
   ·have hzz:=hz;rw[hz] at hcell;have HZ:=ca hzz;clear hz hzz;go_wp2_with fail
    go_round
    case rel=>exact⟨j,by omega,rfl,by rw[← HV.out,Jp (by omega) HZ.out]⟩
    case measure=>simp [intOf]
   ·have HZ:=ca hz;have hb:(((L[j]?.getD 0:Nat):Int) == 0)=false:=by rw[jn];omega
    generalize hsg:L[j]?.getD 0=s at *;have H2:=ca hsg;clear hsg hz;go_wp2_with fail
    go_ret
    exact⟨j+1,rfl,hk,HV.out,caj (by omega) (by rw[H2.out];intro h;subst h;simp at hb),rfl⟩
  ·obtain rfl:k=0:=by omega
   clear hk0;go_wp2_with fail
   go_ret
   exact⟨0,rfl,cQ _,HV.out,fun h=>absurd rfl h,rfl⟩
abbrev KA (d:Nat):Value:=.int .u8 (48+(d:Int))
def cdW (N B0:Nat) (J:List Nat->World->Prop) (s:Value) (wr:World):Prop :=
 ∃ pre bl m cap L,s=.slice (some ⟨bl,0,none⟩) m cap/\m<=cap/\(cap:Int)<=9223372036854775807/\(m:Int)<=1073741824/\m<=L.length/\B0<=bl/\Blk wr bl L/\Ok L/\YM (L.take m)/\uB N=pre++uB (val (L.take m))/\J pre wr
attribute [local go_sem] Oper.semAt_some
def GrpRel (N:Nat) (J:List Nat->World->Prop) (bl m:Nat) (L:List Nat) (s i:Value) (wr:World):Prop :=
 ∃ pre G j,s=u G/\i=.int .i64 ((j:Nat):Int)/\j<=19/\G<10^(19-j)/\Blk wr bl L/\uB N=pre++uB (G+10^(19-j)*val (L.take m))/\J pre wr
theorem cbE {P:Program}{f:FuncId}{args:Array Value}{w:World}{R:Ending->World->Prop}{n:Nat}(h:Calls P f args w R):CallsIn Fence.wide n P f args w R:=callsIn_wide.2 h
set_option maxRecDepth 100000 in
set_option maxHeartbeats 2000000 in
theorem cel (n:Nat) (hn:1<=n) (b0:Nat) (v:Value) (N k:Nat) (w:World) (hc:w.cell? ⟨b0,0,none⟩=some v) (hv:cr w v N) (hN:0<N) (hNk:N<B^k) (hk:(k:Int)<=1073741824) :
 SeqOwn Fence.wide n Tryz.prog 92 #[.pointer (some ⟨b0,0,none⟩)] KA (fun pre d=>(pre++[d]) <+: uB N) (fun xs=>xs=uB N) w:=by
 intro l J W hW hJ hY h0;have hc1:W.cell? ⟨b0,0,none⟩=some v:=(hW.cell (p:=⟨b0,0,none⟩) (kA w _ hc)).trans hc;have hv1:=hv.below hW (cb _);obtain⟨xs,⟨⟨xa,xc,rfl,h1,h2,hr⟩,ok⟩,ht,hval⟩:=hv1;have hxl:=cr.len ht hval hNk;have hx0:0<xs.length:=by
  rcases xs with _|⟨x,xs⟩
  ·simp [val] at hval;omega
  ·simp
 obtain⟨xb,xo,rfl,row⟩:=hr hx0;have HCl:=ca (Ue ⟨xb,xo,none⟩ xs xc W (by omega) (fun j hj=>by rw[YB];exact row j hj));have HY:=ca hY;have HJ:=ca hJ;have H0:=ca h0;have HOk:=ca ok;have HT:=ca ht;have HVal:=ca hval;clear hv hc hW hr row hY hJ h0 ok ht hval hNk;refine callsIn_of_wp Tryz.func92 rfl trivial ?_ rfl;simp only[Tryz.ntmps92,Gt,CA,List.length_nil,Nat.reduceAdd,Nat.reduceSub,Array.replicate_succ,Array.replicate_zero,List.push_toArray,List.append_toArray,EU,WY]
 gi_wp2
 refine⟨trivial,(cbE HCl.out).mono ?_⟩;rintro e W1 ⟨bl,cap,rfl,hbl,hB,hcc1,hcc2,hb⟩;have H1:Hid (cdW N W.heap.size J (.slice (some ⟨bl,0,none⟩) xs.length cap) W1):=by
  refine⟨[],bl,xs.length,cap,xs,rfl,hcc1,?_,by omega,cb _,hbl,hB,HOk.out,?_,?_,HJ.out _ _ _ H0.out hb⟩
  ·unfold maxLen at hcc2;omega
  ·rw[uO];exact HT.out
  ·rw[uO,HVal.out];rfl
 clear hB hb hcc1 hcc2 hbl
 gi_wp2
 gi_loopw [3,4,14] (fun s _ _ wr=>Hid (cdW N W.heap.size J s wr)) (fun s _ _ wr=>natOf wr s)
 case atStart=>exact H1
 case round =>
  clear H1 HCl H0 HT HVal HOk;obtain⟨pre,bl,m,cap,L,rfl,hmc,hcm,hm30,hmL,hbl,hB,hO,hT,hdig,hJp⟩:=hrel.out;clear hrel;by_cases hm:0<m
  ·have hmi:(0:Int)<(m:Int):=by omega
   have HDv:=ca (show Calls Tryz.prog 94 #[.slice (some ⟨bl,0,none⟩) m cap,.int .u64 10000000000000000000] wr (cfL wr bl m L 10000000000000000000) from CM bl m cap L 10000000000000000000 wr hB hmL (by omega) (by decide) (by decide) hO);have HDig:=ca hdig;have HJp:=ca hJp;have HO':=ca hO;have HIs:Hid (cr wr (.slice (some ⟨bl,0,none⟩) m cap) (val (L.take m))):=by
    have hl:(L.take m).length=m:=by rw[ji];omega
    have:=Sl.of_blk hB hO 0 m cap (by omega) hmc (by unfold maxLen;omega);rw[kr] at this;exact⟨L.take m,this,hT,rfl⟩
   have HPos:Hid (0<val (L.take m)):=by
    have hl:(L.take m).length=m:=by rw[ji];omega
    have:=kj hT (by intro e;rw[e] at hl;simp at hl;omega);exact cT (jV jE) this
   clear hB hO hT hdig hJp
   gi_wp2
   refine⟨trivial,(cbE HDv.out).mono ?_⟩;rintro e W2 ⟨G0,L',rfl,hOn,hB',hD⟩;have hlen:L'.length=L.length:=hD.len;have HTr:=ca (trim_at bl m cap L' W2 hB' (by omega) hmc (by omega));have HB':=ca hB';have HJ2:=ca (HJ.out _ _ _ HJp.out (hOn.below hbl));have HD':=ca hD;clear hOn hB' hD HDv hlen
   gi_wp2
   refine⟨trivial,(cbE HTr.out).mono ?_⟩;rintro e w2' ⟨m',rfl,hm',hval',hT',rfl⟩;have HV':=ca hval';have HT':=ca hT';have hsum:val (L.take m)=val (L'.take m')*10000000000000000000+G0:=by
    have:=HD'.out.sum;rw[kr,kr] at this;rw[this,HV'.out]
   have hGlt:G0<10000000000000000000:=HD'.out.rest;have HSum:=ca hsum;have HGlt:=ca hGlt;have HG:Hid (GrpRel N J bl m' L' (u G0) (.int .i64 0) W2):=by
    refine⟨pre,G0,0,rfl,rfl,by omega,hGlt,HB'.out,?_,HJ2.out⟩;rw[HDig.out,hsum];congr 2;rw[GS,jf]
   clear hval' hT' hsum hGlt HTr HJ2
   gi_wp2
   gi_loopw [4,14] (fun s i wr'=>Hid (GrpRel N J bl m' L' s i wr')) (fun _ i _=>19-(intOf i).toNat)
   case atStart=>exact HG
   case round =>
    clear HG;obtain⟨pre1,G,j,rfl,rfl,hj,hG,hB1,hd1,hJ1⟩:=hrel.out;clear hrel;have HG:=ca hG;have HB1:=ca hB1;have Hd1:=ca hd1;have HJ1:=ca hJ1;clear hG hB1 hd1 hJ1;by_cases hj19:j<19
    ·have hji:(j:Int)<19:=by omega
     by_cases hz:G=0/\m'=0
     ·obtain⟨hz1,hz2⟩:=hz;have e1:(((G:Nat):Int) == 0)=true:=by subst hz1;rfl
      have e2:(((m':Nat):Int) == 0)=true:=by subst hz2;rfl
      have hfin:pre1=uB N:=by
       rw[Hd1.out,hz1,hz2];simp [val,uX]
      have HFin:=ca hfin;clear hz1 hz2 hfin
      gi_wp2
      refine⟨fun _ h=>(by cases h),?_⟩
      gi_wp2
      refine jT (results_none rfl _ _ _) rfl ?_;exact⟨⟨_,rfl⟩,pre1,HFin.out,HJ1.out⟩
     ·have hV0:G+10^(19-j)*val (L'.take m')≠0:=by
       intro e;have hG0:G=0:=by omega
       refine hz ⟨hG0,?_⟩;rcases jr m' with h|h
       ·exact h
       ·exfalso;have hl:(L'.take m').length=m':=by rw[ji,HD'.out.len];omega
        have h1:=kj HT'.out (by intro e;rw[e] at hl;simp at hl;omega);have h2:0<B^((L'.take m').length-1):=jV jE;have h3:0<10^(19-j):=jV (by omega);have h4:=Nat.mul_pos h3 (cT h2 h1);omega
      have e10:10^(19-j)=10*10^(19-(j+1)):=by rw[show 19-j=19-(j+1)+1 from by omega,js,jf]
      have hmod:(G+10^(19-j)*val (L'.take m'))%10=G%10:=by rw[e10,jk,Ki]
      have hdiv:(G+10^(19-j)*val (L'.take m'))/10=G/10+10^(19-(j+1))*val (L'.take m'):=by rw[e10,jk,Nat.add_mul_div_left _ _ (by omega)]
      have hd2:uB N=(pre1++[G%10])++uB (G/10+10^(19-(j+1))*val (L'.take m')):=by
       rw[Hd1.out,CR hV0,hmod,hdiv,uU];rfl
      obtain⟨fn,tmps,assign,body,hy,hR⟩:=HY.out pre1 (G%10) wr HJ1.out ⟨_,hd2.symm⟩;have HD2:=ca hd2;have hG10:G/10<10^(19-(j+1)):=by
       have:=HG.out;rw[e10] at this;exact uM this
      have HG10:=ca hG10;have HR:=ca hR;have hd10:G%10<10:=jJ _ (by omega);have t1:Int.tmod ((G:Nat):Int) 10=((G%10:Nat):Int):=by rw[Int.tmod_eq_emod_of_nonneg (by omega)];omega
      have t2:((G:Nat):Int)%10=((G%10:Nat):Int):=by omega
      have t3:Int.tdiv ((G:Nat):Int) 10=((G/10:Nat):Int):=by rw[Uh (by omega)];omega
      have t4:((G:Nat):Int)/10=((G/10:Nat):Int):=by omega
      have hGB:G<B:=by
       refine Je HG.out ?_;exact jH (jP (by omega) (show 19-j<=19 by omega)) (by decide)
      have w1:IntKind.u64.wrap ((G/10:Nat):Int)=((G/10:Nat):Int):=jX (by omega);have w4:IntKind.u64.wrap ((G%10:Nat):Int)=((G%10:Nat):Int):=jX (by omega);clear hd2 hG10 hR hmod hdiv e10 hV0 hGB;unfold KA at hy;generalize G%10=d at *;generalize G/10=G' at *;have w2:IntKind.u8.wrap ((d:Nat):Int)=(d:Int):=by rw[IntKind.wrap_u8];omega
      have w3:IntKind.u8.wrap (48+((d:Nat):Int))=48+(d:Int):=by rw[IntKind.wrap_u8];omega
      by_cases hG0:G=0
      ·have e1:(((G:Nat):Int) == 0)=true:=by subst hG0;rfl
       have e2:(((m':Nat):Int) == 0)=false:=by rw[jn];intro e;exact hz ⟨hG0,by omega⟩
       clear hz hG0
       gi_wp2
       refine HR.out.mono ?_;rintro e W3 ⟨rfl,hJ3,hK3⟩;have HJ3:=ca hJ3;have HB3:=ca (HB1.out.of_block (hK3.block bl hbl HB1.out.lt));clear hJ3 hK3 HR hy
       gi_wp2
       go_roundw
       case rel=>exact⟨pre1++[d],G',j+1,rfl,by go_num,by omega,HG10.out,HB3.out,HD2.out,HJ3.out⟩
       case measure=>simp [intOf];omega
      ·have e1:(((G:Nat):Int) == 0)=false:=by rw[jn];omega
       clear hz hG0
       gi_wp2
       refine HR.out.mono ?_;rintro e W3 ⟨rfl,hJ3,hK3⟩;have HJ3:=ca hJ3;have HB3:=ca (HB1.out.of_block (hK3.block bl hbl HB1.out.lt));clear hJ3 hK3 HR hy
       gi_wp2
       go_roundw
       case rel=>exact⟨pre1++[d],G',j+1,rfl,by go_num,by omega,HG10.out,HB3.out,HD2.out,HJ3.out⟩
       case measure=>simp [intOf];omega
    ·obtain rfl:j=19:=by omega
     clear hj19;have HG0:Hid (cdW N W.heap.size J (.slice (some ⟨bl,0,none⟩) m' m') wr):=by
      have h1:=HG.out;have h2:=Hd1.out;have h3:G=0:=by simpa using h1
      rw[h3] at h2;have hl2:=HD'.out.len;refine⟨pre1,bl,m',m',L',rfl,cb _,by omega,by omega,by omega,hbl,HB1.out,HD'.out.ok,HT'.out,?_,HJ1.out⟩;simpa using h2
     have HIs':Hid (cr wr (.slice (some ⟨bl,0,none⟩) m' m') (val (L'.take m'))):=by
      have hl2:=HD'.out.len;have hl:(L'.take m').length=m':=by rw[ji];omega
      have:=Sl.of_blk HB1.out HD'.out.ok 0 m' m' (by omega) (cb _) (by unfold maxLen;omega);rw[kr] at this;exact⟨L'.take m',this,HT'.out,rfl⟩
     clear HG
     gi_wp2
     go_roundw
     case rel=>exact HG0
     case measure =>
      rw[Km HIs'.out,Km HIs.out];have:=HSum.out;have:=HPos.out;omega
  ·obtain rfl:m=0:=by omega
   have hfin:pre=uB N:=by
    rw[hdig];simp [val,uX]
   have HFin:=ca hfin;have HJp:=ca hJp;clear hB hO hT hdig hJp hfin hm
   gi_wp2
   refine bodyPost_end (results_none rfl _ _ _) rfl ?_;exact⟨⟨_,rfl⟩,pre,HFin.out,HJp.out⟩
end Go.Proofs.YtcgiaclelnmhbabGreatDoor
