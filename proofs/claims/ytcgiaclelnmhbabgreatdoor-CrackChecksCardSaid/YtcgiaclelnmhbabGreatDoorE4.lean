/- Part 4. -/
import Derived.Test.YtcgiaclelnmhbabGreatDoorE3
set_option linter.all false
noncomputable section

namespace Go.Proofs.YtcgiaclelnmhbabGreatDoor
open Go Go.RowKit Go.Proofs
namespace Pe
variable {D:Type}
def ixOp (S:Stat D) (T:Tab D) (V:cR) (M:ct D) (n0:Nat) (o:Oper):Option (Out D) :=
 match o.op with
 |.indexAddr t x i=>match glM T o.dst with
  |true=>match UZ S M (CV V x),lit? (CV V i) with
   |some s,some (.int .i64 z)=>match xIx S n0 t s z.toNat with
    |some r=>some ⟨r.x,r.ws,r.n1,(0<=z)::r.ob⟩
    |none=>none
   |_,_=>none
  |false=>none
 |_=>none
def apOp (S:Stat D) (V:cR) (M:ct D) (n0:Nat) (o:Oper):Option (Out D) :=
 match o.op with
 |.call c=>match c.callee with
  |.builtin .append=>match c.args.toList,c.argTypes.toList with
   |[s,x],[t,t']=>match CV V s with
    |some (.val (.one (.slc _ _ 0 0)))=>match UZ S M (CV V x),Nat.beq t t',ur S.P t with
     |some q,true,some (e,i)=>match i.zero with
      |some z0=>match Nat.beq z0.cells.size i.size,Nat.blt 0 i.size,Nat.ble i.bytes 1000,Nat.beq q.L.z i.size with
       |true,true,true,true=>some ⟨.val (.one (.sym n0 0)),[(n0,.cls (S.mkL ⟨S.lo,e,i.size,q.L.n,q.L.g⟩))],n0+1,[q.L.n<=1000000]⟩
       |_,_,_,_=>none
      |none=>none
     |_,_,_=>none
    |_=>none
   |_,_=>none
  |_=>none
 |_=>none
def ccP (S:Stat D) (T:Tab D) (CF YF:cz D) (V:cR) (M:ct D) (n0:Nat) (o:Oper):Option (Out D) :=
 match apOp S V M n0 o with
 |some r=>some r
 |none=>match ixOp S T V M n0 o with
 |some r=>some r
 |none=>match mfOp S T V M n0 o with
 |some r=>some r
 |none=>match ZA S V M n0 o with
 |some r=>some r
 |none=>match esOp S V M n0 o with
 |some r=>some r
 |none=>match Zt S T V M n0 o with
  |some r=>some r
  |none=>match ccF S T CF V M n0 o with
   |some r=>some r
   |none=>cjq S T CF YF V M n0 o
section
variable {F:Fence}{m:Nat}{YF:cz D}
variable {C:Ctx D}{e:Env}{a:Act}{w:World}{V:cR}{M:ct D}{T:Tab D}{CF:cz D}{n0:Nat}{K:Act->World->Prop}{Q:Exit->Act->World->Prop}{o:Oper}{t:Out D}
theorem xIx_is (hC:C.Ok) (hV:cN e a V) (hM:cA C e w M) (hg:Kv C e w) {ty:Nat}{x:Operand}{s:Src D}{j:Nat}(hs:UZ C.toStat M (CV V x)=some s) (hu:xIx C.toStat n0 ty s j=some t) (hf:jC n0 t.n1 e) (ho:cX t.ob) :
 ∃ v,(Instr.indexAt ty (a.eval x) (.int .i64 (.ofNat j))).run C.P w=.ok v w/\jG C e w n0 t v w:=by
 unfold xIx at hu;split at hu
 rotate_left
 ·cases hu
 rename_i el inf he;obtain⟨hel,hi⟩:=ka he;split at hu
 rotate_left
 ·cases hu
 rename_i hz;have hz:=cn hz;injection hu with hu;subst hu
 have hj:j<s.L.n:=ho.1;obtain⟨h1,h2⟩:=Ka hC hV hM hg hs;rcases h1 with⟨h1,_⟩|⟨k,o,c,arr,pre,vs,rest,h3,_⟩
 ·omega
 have h0:(0:Int)<=Int.ofNat j/\Int.ofNat j<s.L.n:=⟨Uy j,Int.ofNat_lt.2 hj⟩;refine⟨.pointer (some ⟨k,o+j*s.L.z,none⟩),?_,?_⟩
 ·simp only[h3,Instr.indexAt,asIntOf,underlying,jA,ER,Ju,kG,hel,cq h0,jD hi,jt,hz];rfl
 ·cases hown:s.own with
  |true =>
   rw[hown] at h2;obtain⟨h4,h5⟩:=h2;obtain⟨v,q1,q2⟩:=hM _ _ h5;rw[h4] at q1;injection q1 with q1;subst q1
   rcases q2 with⟨q2,_⟩|⟨k',c',arr',vs',rest',q3,_,q5,_⟩
   ·omega
   rw[h3] at q5;injection q5 with q5;injection q5 with q5;injection q5 with q5 q6
   subst q5;subst q6;obtain⟨e',p1,p2⟩:=ue (v:=.pointer (some ⟨k,0+j*s.L.z,none⟩)) (ob:=.ep s.id j s.L.z 0) hg hf (fun e' hx p=>⟨k,hx.ρ _ _ q3,by rw[p,jb,jz]⟩);exact⟨e',p1,p2⟩
  |false =>
   rw[hown] at h2;obtain⟨h4,_⟩:=h2;rw[h3] at h4;obtain⟨e',p1,p2⟩:=ue (v:=.pointer (some ⟨k,o+j*s.L.z,none⟩)) (ob:=.cp s.id j s.L.z 0) hg hf (fun e' hx p=>⟨k,o,_,c,hx.ν _ _ h4,by rw[p,jz]⟩);exact⟨e',p1,p2⟩
theorem xFa_is (hV:cN e a V) (hM:cA C e w M) (hg:Kv C e w) {s f:Nat}{x:Operand}(hu:xFa C.toStat M n0 s f (CV V x)=some t) (hf:jC n0 t.n1 e) :
 ∃ v,(Instr.fieldAt s (a.eval x) f).run C.P w=.ok v w/\jG C e w n0 t v w:=by
 unfold xFa at hu;split at hu
 rotate_left
 ·cases hu
 rename_i b hx;have hv:e.φ b=some (a.eval x):=cM hV hx;split at hu
 rotate_left
 ·cases hu
 rename_i fl hfl;obtain⟨fs,g1,g2⟩:=Gf hfl;split at hu
 rotate_left
 ·cases hu
 rename_i inf hinf;split at hu
 ·cases hu
 rename_i n hsz;split at hu
 ·rename_i l i z o hb;injection hu with hu;subst hu
  obtain⟨k,h1,h2⟩:=hM _ _ hb;rw[hv] at h2;injection h2 with h2
  obtain⟨e',p1,p2⟩:=ue (v:=.pointer (some ⟨k,i*z+o+fl.offset,none⟩)) (ob:=.ep l i z (o+fl.offset)) hg hf (fun e' hx p=>⟨k,hx.ρ _ _ h1,by rw[p,Ck]⟩);refine⟨_,?_,e',p1,p2⟩;simp [h2,Instr.fieldAt,underlying,g1,g2,Instr.sureAddr,fieldPlace,jD hinf,hsz,jt]
 ·rename_i l i z o hb;injection hu with hu;subst hu
  obtain⟨k,p,n',c,h1,h2⟩:=hM _ _ hb;rw[hv] at h2;injection h2 with h2
  obtain⟨e',p1,p2⟩:=ue (v:=.pointer (some ⟨k,p+(i*z+o)+fl.offset,none⟩)) (ob:=.cp l i z (o+fl.offset)) hg hf (fun e' hx q=>⟨k,p,n',c,hx.ν _ _ h1,by rw[q,Ck,Ck]⟩);refine⟨_,?_,e',p1,p2⟩;simp [h2,Instr.fieldAt,underlying,g1,g2,Instr.sureAddr,fieldPlace,jD hinf,hsz,jt]
 ·cases hu
theorem ciY {α:Type}(vs:List α) {l h z j:Nat}(hj:j<h-l):((((vs.drop (l*z)).take ((h-l)*z)).drop (j*z)).take z)=(vs.drop ((l+j)*z)).take z:=by
 apply yz;intro q;have h1:(j+1)*z<=(h-l)*z:=cK z (by omega);rw[cD,jI] at h1;have h2:(l+j)*z=l*z+j*z:=cD l j z;rw[kB,kB];split
 ·rename_i hq;rw[kJ,kB,cq (by omega),kJ,kJ,h2];congr 1;omega
 ·rfl
theorem cfY {L:Lt D}{w:World}{l h k o c n:Nat}(h1:EN C w L (.slice (some ⟨k,o,none⟩) n c)) (hl:l<h) (hh:h<=L.n):EN C w ⟨L.lo,L.ty,L.z,h-l,fun j=>L.g (l+j)⟩ (.slice (some ⟨k,o+l*L.z,none⟩) (h-l) (c-l)):=by
 rcases h1 with⟨q1,_⟩|⟨k',o',c',arr,pre,vs,rest,q1,q2,q3,q4,q5,q6,q7,q8,q9⟩
 ·omega
 injection q1 with q1 q1' q1''
 injection q1 with q1
 injection q1 with q1 qo
 subst q1;subst qo;subst q1'';have hz:L.n*L.z=l*L.z+((h-l)*L.z+(L.n-h)*L.z):=by
  rw[← cD,← cD];congr 1;omega
 have hvs:vs=vs.take (l*L.z)++((vs.drop (l*L.z)).take ((h-l)*L.z)++(vs.drop (l*L.z)).drop ((h-l)*L.z)):=by
  rw[jZ,jZ]
 refine .inr ⟨k,o+l*L.z,c-l,arr,pre++vs.take (l*L.z),(vs.drop (l*L.z)).take ((h-l)*L.z),(vs.drop (l*L.z)).drop ((h-l)*L.z)++rest,rfl,?_,q3,?_,?_,?_,q7,?_,?_⟩
 ·show h-l<=c-l;omega
 ·rw[q4]
  conv=>lhs;rw[hvs]
  simp only[uU]
 ·rw[kp,q5,ji];omega
 ·show _=(h-l)*L.z;rw[ji,kL];omega
 ·exact fun v hv=>q8 v (caK (cbG hv))
 ·intro j hj;have hj:j<h-l:=hj;show Gw C w (L.g (l+j)) _;rw[ciY vs hj];exact q9 (l+j) (by omega)
theorem xSl_is (hC:C.Ok) (hV:cN e a V) (hM:cA C e w M) (hg:Kv C e w) {ty:Nat}{x:Operand}{lo hi:Option Operand}(hu:xSl C.toStat n0 ty (UZ C.toStat M (CV V x)) (kI V lo) (kI V hi)=some t) (hf:jC n0 t.n1 e) (ho:cX t.ob) :
 ∃ v,(Instr.sliceAt ty (a.eval x) (lo.map a.eval) (hi.map a.eval) none).run C.P w=.ok v w/\jG C e w n0 t v w:=by
 cases hs:UZ C.toStat M (CV V x) with
 |none=>rw[hs] at hu;simp [xSl] at hu
 |some s =>
 cases hlo:kI V lo with
 |none=>rw[hs,hlo] at hu;simp [xSl] at hu
 |some l =>
 cases hhi:kI V hi with
 |none=>rw[hs,hlo,hhi] at hu;simp [xSl] at hu
 |some h =>
 rw[hs,hlo,hhi] at hu;unfold xSl at hu;simp only at hu;obtain⟨hr,h2⟩:=Ka hC hV hM hg hs;split at hu
 rotate_left
 ·cases hu
 rename_i el inf hown he;obtain⟨hel,hinf⟩:=ka he;rw[hown] at h2;obtain⟨hν,d,hd,hL⟩:=h2;split at hu
 rotate_left
 ·cases hu
 rename_i hz;have hz:=cn hz;injection hu with hu;subst hu
 obtain⟨h3,h4,_⟩:=ho;rcases hr with⟨h5,_⟩|⟨k,o,c,arr,pre,vs,rest,h5,h6,_⟩
 ·omega
 obtain⟨f,q1,q2⟩:=hM _ _ hd;rw[hν] at q1;injection q1 with q1;subst q1
 have hrob:Cd C e w [.cls (C.mkL ⟨s.L.lo,s.L.ty,s.L.z,h.getD s.L.n-l.getD 0,fun j=>s.L.g (l.getD 0+j)⟩)] [.slice (some ⟨k,o+l.getD 0*s.L.z,none⟩) (h.getD s.L.n-l.getD 0) (c-l.getD 0)]:=by
  intro w' hk;obtain⟨v,q3,q4⟩:=hC.unlist _ _ _ _ hL (q2 w' hk);injection q3 with q3;subst q3
  rw[h5] at q4;exact GD hC (hC.lists _ _ _ (cfY q4 h3 h4))
 have hsz:=hC.len _ _ _ (hC.lists _ _ _ (cfY (by
  obtain⟨v,q3,q4⟩:=hC.unlist _ _ _ _ hL (q2 w (jy.refl e w));injection q3 with q3;subst q3
  rw[h5] at q4;exact q4) h3 h4))
 have hsz:C.csz (C.mkL ⟨s.L.lo,s.L.ty,s.L.z,h.getD s.L.n-l.getD 0,fun j=>s.L.g (l.getD 0+j)⟩)=1:=hsz.symm;obtain⟨e',p1,v,ws,p2,p3,p4⟩:=Jg (cs:=[.sym n0 0]) (ws:=[(n0,.cls (C.mkL ⟨s.L.lo,s.L.ty,s.L.z,h.getD s.L.n-l.getD 0,fun j=>s.L.g (l.getD 0+j)⟩))]) (n1:=n0+1) hC hg (by simp only[cji,hsz,zY,JM]) hf hrob;injection p2 with p2 _
 subst p2;refine⟨_,?_,e',p1,p3⟩;have hb:=zF (C:=C) (w:=w) (n:=s.L.n) (c:=c) (mx:=none) (mx':=none) hV hlo hhi rfl (fun k h=>by cases h) (uK h3) (by simp only[Cr];omega) (by simp);simp only[Cr,Option.map_none] at hb;have hne:¬ c=l.getD 0:=by omega
 simp [Instr.sliceAt,Instr.slice,h5,jm hel,hb,jD hinf,hne,jt,hz]
theorem cdh (hC:C.Ok) (hM:cA C e w M):∀ {cs:List AC}{vs:List Value},CB (ky M) cs=true->cjd e cs vs->∀ v∈vs,v.oneCell'=true
 |[],vs,_,h,v,hv=>by rw[show vs=[] from h] at hv;simp at hv
 |c::cs,_,h,⟨u,us,rfl,h1,h2⟩,v,hv=>by
  unfold CB at h;split at h
  ·rename_i hc;rcases List.mem_cons.1 hv with rfl|hv
   ·exact CX hC hM hc h1
   ·exact cdh hC hM h h2 v hv
  ·cases h
theorem jM.same {n1:Nat}{ws ws':Ws D}{e':Env}{w':World}(h:jM C e w n0 n1 ws e' w') (hs:∀ b,find b ws'=find b ws):jM C e w n0 n1 ws' e' w' :=
 ⟨h.le,h.adv,h.new,h.good,fun b o ho=>h.wrote b o (by rw[← hs];exact ho),fun b o ho hn=>h.kept b o ho (by rw[← hs];exact hn)⟩
theorem xBox_is (hC : C.Ok) (hV : cN e a V) (hM : cA C e w M) (hg : Kv C e w) {ty : Nat} {x : Operand} (hu : xBox C.toStat M n0 ty (CV V x) = some t) (hf : jC n0 t.n1 e) :
    jG C e w n0 t (.pointer (some ⟨w.heap.size, 0, none⟩)) { w with heap := w.heap.push (.cells (a.eval x).cells ty) } := by
  unfold xBox at hu
  split at hu
  rotate_left
  · cases hu
  rename_i y hy
  split at hu
  rotate_left
  · cases hu
  rename_i gs hs hgs hpos
  injection hu with hu; subst hu
  have hx : y.is e (a.eval x) := cM hV hy
  have hcs := A1.cells_are hC hM hx hs
  have hone := cdh hC hM hs hcs
  have hlen := hcs.length
  have hb := yI w (.cells (a.eval x).cells ty)
  have hk : (w.heap.push (.cells (a.eval x).cells ty))[w.heap.size]? = some (.cells (a.eval x).cells ty) := by simp
  have hrob := (Ep hC hM hgs hcs).adv (Adv.below hg hb)
  generalize hw : ({ w with heap := w.heap.push (.cells (a.eval x).cells ty) } : World) = w' at hb hrob ⊢
  have hk : w'.heap[w.heap.size]? = some (.cells (a.eval x).cells ty) := by rw [← hw]; exact hk
  have hlt : w.heap.size < w'.heap.size := (Array.getElem?_eq_some_iff.1 hk).1
  have hL : ∀ w'', jy e w' w'' → EN C w'' ⟨C.lo, ty, y.cells.length, 1, fun _ => gs⟩ (.slice (some ⟨w.heap.size, 0, none⟩) 1 1) := by
    intro w'' hkp
    refine .inr ⟨w.heap.size, 0, 1, (a.eval x).cells, [], (a.eval x).cells.toList, [], rfl, cb _, ⟨(0, 0), ?_⟩, by simp, rfl, ?_, cB hC.los hg.below.size, hone, fun j hj => ?_⟩
    · rw [hkp.block _ hlt (fun b hb' => by have := hg.lt hb'; omega) (fun ho => by have := (ot_lt hg hg ho).1; omega)]
      exact hk
    · show _ = 1 * y.cells.length
      rw [hlen, jI]
    · obtain rfl : j = 0 := Nat.lt_one_iff.1 hj
      have := hrob w'' hkp
      rw [Cg, kr, kH (show _ ≤ y.cells.length by omega)]
      exact this
  have hsz : C.csz (C.mkL ⟨C.lo, ty, y.cells.length, 1, fun _ => gs⟩) = 1 := (hC.len _ _ _ (hC.lists _ _ _ (hL w' (jy.refl _ _)))).symm
  have l1 := jM.below (n0 := n0) hg hb
  obtain ⟨e1, l2, u, us, p2, p3, p4⟩ := Jg (cs := [.sym n0 0]) (ws := [(n0, .cls (C.mkL ⟨C.lo, ty, y.cells.length, 1, fun _ => gs⟩))]) (n1 := n0 + 1) (gs := [.cls (C.mkL ⟨C.lo, ty, y.cells.length, 1, fun _ => gs⟩)]) (vs := [.slice (some ⟨w.heap.size, 0, none⟩) 1 1]) hC l1.good (by simp only [cji, hsz, zY, JM]) (fun b h1 h2 => hf b h1 (Nat.lt_succ_of_lt h2)) (fun w'' hkp => GD hC (hC.lists _ _ _ (hL w'' hkp)))
  injection p2 with p2 _
  subst p2
  obtain ⟨l, q1, q2, _⟩ := p3
  have hν : e1.ν n0 = some [.slice (some ⟨w.heap.size, 0, none⟩) 1 1] := by
    obtain ⟨f, r1, r2⟩ := l2.wrote n0 (.cls (C.mkL ⟨C.lo, ty, y.cells.length, 1, fun _ => gs⟩)) (by simp [cC])
    rw [q1] at r1; injection r1 with r1; subst r1
    obtain ⟨v, r3, _⟩ : ∃ v, l = [v] ∧ True := by
      have := hC.len _ _ _ r2.out
      rw [hsz] at this
      match l, this with
      | [v], _ => exact ⟨v, rfl, trivial⟩
    subst r3
    rw [q1]
    have q2 : [v][0]? = some _ := q2
    injection q2 with q2
    rw [q2]
  have hf2 : jC (n0 + 1) (n0 + 1 + 1) e1 := fun b h1 h2 => by
    obtain ⟨f1, f2, f3⟩ := hf b (by omega) h2
    refine ⟨?_, ?_, ?_⟩
    · cases hb : e1.ρ b with
      | none => rfl
      | some z => rcases l2.new.ρ b z hb with h | h
                  · rw [f1] at h; cases h
                  · omega
    · cases hb : e1.ν b with
      | none => rfl
      | some z => rcases l2.new.ν b z hb with h | h
                  · rw [f2] at h; cases h
                  · omega
    · cases hb : e1.φ b with
      | none => rfl
      | some z => rcases l2.new.φ b z hb with h | h
                  · rw [f3] at h; cases h
                  · omega
  obtain ⟨e2, l3, hφ⟩ := ue (v := .pointer (some ⟨w.heap.size, 0, none⟩)) (ob := .cp n0 0 y.cells.length 0) l2.good hf2 (fun e' hx p => ⟨w.heap.size, 0, 1, 1, hx.ν _ _ hν, by rw [p]; simp⟩)
  refine ⟨e2, ((l1.trans l2).trans l3).same (fun b => ?_), hφ⟩
  simp only [uP, cC, cP]
  cases Nat.beq (n0 + 1) b <;> cases Nat.beq n0 b <;> rfl
theorem epOb {n1 ty:Nat}{p:Epo D}(hu:ZQ C.toStat n1 ty p=some t) (ho:cX t.ob):p.i<p.L.n:=by
 unfold ZQ at hu
 repeat' (split at hu<;>try (cases hu;done))
 all_goals (injection hu with hu;subst hu;exact ho.1)
theorem epOb' {n1 ty:Nat}{p:Epo D}{cs:List AC}(hu:KQ C.toStat M n1 ty p cs=some t) (ho:cX t.ob):p.i<p.L.n:=by
 unfold KQ at hu
 repeat' (split at hu<;>try (cases hu;done))
 all_goals (injection hu with hu;subst hu;exact ho.1)
theorem UC (hV:cN e a V):∀ {l:List (Nat×Operand)}{vs:List (Nat×Value)},EJ V l=some vs->l.map (fun p=>(p.1,a.eval p.2))=vs
 |[],vs,h=>by simp [EJ] at h;subst h;rfl
 |p::l,vs,h=>by
  unfold EJ at h;split at h
  ·rename_i v hv;split at h
   ·rename_i us hus;injection h with h;subst h
    rw[uf,UC hV hus,yY hV hv]
   ·cases h
  ·cases h
theorem ciI (hW:Wd F) (hC:C.Ok) (hV:cN e a V) (hM:cA C e w M) (hg:Kv C e w) (hu:Zt C.toStat T V M n0 o=some t) (hf:jC n0 t.n1 e) (ho:cX t.ob)
 (hK:∀ v w',jG C e w n0 t v w'->K (a.put o.dst v) w'):o.wpIn F m C.P a w K Q:=by
 have hnd:ui o:=by
  intro c hc;unfold Zt at hu;rw[hc] at hu;cases hu
 unfold Zt at hu;split at hu
 ·rename_i ty x hop;split at hu
  rotate_left
  ·cases hu
  rename_i p hp;have hi:=epOb hu ho;obtain⟨k,o',arr,pre,vs,rest,h1,h2,h3,h4,h5,h6,_,_⟩:=cgf hC hV hM hg hp hi;obtain⟨v,h7,h8⟩:=cim hC hg hu hf h2 h3 h4 (h6 _ hi);exact cJ hW hnd (by simp [execOp,hop,h1,Instr.loadAt,Instr.sureAddr,h7]) (hK _ _ h8)
 ·rename_i ty x y hop;split at hu
  rotate_left
  ·cases hu
  rename_i p hp;split at hu
  rotate_left
  ·cases hu
  rename_i z hz;have hi:=epOb' hu ho;obtain⟨k,o',arr,pre,vs,rest,h1,h2,h3,h4,h5,h6,h7,h8⟩:=cgf hC hV hM hg hp hi;obtain⟨w',h9,h10⟩:=chq hC hM hg (cM hV hz) hu hi h2 h3 h5 h6 h7 h8;have:(execOp a.eval o).run C.P w=.ok .skip w':=by simp [execOp,hop,h1,Instr.storeAt,Instr.sureAddr,h9]
  refine⟨fun f _=>hW.fn f,?_⟩;rw[Ei _ _ _ hnd,this];exact hK _ _ h10
 ·rename_i ty x i hop;split at hu
  rotate_left
  ·split at hu
   rotate_left
   ·cases hu
   rename_i b p j len el hx hj hel;split at hu
   rotate_left
   ·cases hu
   rename_i inf hlt hinf;have hlt:=cjh hlt;obtain⟨k,hk,hx⟩:=Zb hV hx;have hi:=ki hV hj;have h0:(0:Int)<=Int.ofNat j/\Int.ofNat j<len:=⟨Uy j,Int.ofNat_lt.2 hlt⟩;have hr:(Instr.indexAt ty (.pointer (some ⟨k,p,none⟩)) (.int .i64 (.ofNat j))).run C.P w=.ok (.pointer (some ⟨k,p+j*inf.size,none⟩)) w:=by
    simp only[Instr.indexAt,asIntOf,underlying,jA,ER,Ju,kG,hel,Instr.sureAddr,cq h0,jD hinf,jt];rfl
   injection hu with hu;subst hu
   exact cJ hW hnd (v:=.pointer (some ⟨k,p+j*inf.size,none⟩)) (w':=w) (by simp only[execOp,hop,hx,hi,jA,hr];rfl) (hK _ _ (jG.here hg ⟨k,hk,rfl⟩))
  rename_i s hs;split at hu
  rotate_left
  ·cases hu
  rename_i j hj;have hi:=ki hV hj;obtain⟨v,h1,h2⟩:=xIx_is hC hV hM hg hs hu hf ho;exact cJ hW hnd (v:=v) (w':=w) (by simp only[execOp,hop,hi,jA,h1];rfl) (hK _ _ h2)
 ·rename_i s x f hop;obtain⟨v,h1,h2⟩:=xFa_is hV hM hg hu hf;exact cJ hW hnd (v:=v) (w':=w) (by simp only[execOp,hop,jA,h1];rfl) (hK _ _ h2)
 ·rename_i x hop;split at hu
  rotate_left
  ·cases hu
  rename_i b hx;split at hu
  rotate_left
  ·cases hu
  rename_i hb;have hv:e.φ b=some (a.eval x):=cM hV hx;obtain⟨k,_,h2⟩:=hM _ _ hb;rw[hv] at h2;injection h2 with h2
  injection hu with hu;subst hu
  exact cJ hW hnd (v:=a.eval x) (w':=w) (by simp only[execOp,hop,h2];rfl) (hK _ _ (jG.here hg hv))
 ·rename_i ty x lo hi hop;obtain⟨v,h1,h2⟩:=xSl_is hC hV hM hg hu hf ho;exact cJ hW hnd (v:=v) (w':=w) (by simp only[execOp,hop,Option.map_none,jA,h1];rfl) (hK _ _ h2)
 ·rename_i ty l c hop;split at hu
  rotate_left
  ·cases hu
  cases hl:lit? (CV V l) with
  |none=>rw[hl] at hu;simp [xMk] at hu
  |some vl =>
   cases hc:lit? (CV V c) with
   |none=>rw[hl,hc] at hu;unfold xMk at hu;split at hu<;>simp_all
   |some vc =>
    rw[hl,hc] at hu;obtain⟨v,w',h1,h2⟩:=xMk_is hC hg hu hf ho;exact cJ hW hnd (w':=w') (by simp [execOp,hop,ki hV hl,ki hV hc,h1]) (hK _ _ h2)
 ·rename_i ty hop;have key:∃ v w',(Instr.buildSlice ty 0 #[]).run C.P w=.ok v w'/\jG C e w n0 t v w':=by
   split at hu
   ·exact xBp_is hg hu hf
   ·exact xBs_is hg hu hf
  obtain⟨v,w',h1,h2⟩:=key;refine cJ hW hnd (w':=w') ?_ (hK _ _ h2);simp only[execOp,hop,jA];rw[show (Array.map (fun x:Nat×Operand=>(x.1,a.eval x.2)) { toList:=[] })=#[] by simp,h1];rfl
 ·rename_i ty x hop;split at hu
  ·cases hu
  refine cJ hW hnd (v:=.pointer (some ⟨w.heap.size,0,none⟩)) (w':={ w with heap:=w.heap.push (.cells (a.eval x).cells ty) }) ?_ (hK _ _ (xBox_is hC hV hM hg hu hf));simp [execOp,hop,Instr.box,JA]
 ·rename_i ty parts hop;split at hu
  rotate_left
  ·cases hu
  split at hu
  rotate_left
  ·cases hu
  rename_i vs hvs;have hp:parts.map (fun p:Nat×Operand=>(p.1,a.eval p.2))=vs.toArray:=by
   apply uJ;rw[Array.toList_map,UC hV hvs]
  refine zK hW hnd hg hu (fun v w' h=>?_) hK;simp only[execOp,hop,jA];rw[show (Array.map (fun x:Nat×Operand=>(x.1,a.eval x.2)) parts)=vs.toArray from hp,h];rfl
 ·rename_i ty x y u hop;split at hu
  rotate_left
  ·cases hu
  rename_i p el hx hy hel;obtain⟨b,o',n⟩:=p;obtain⟨k,cp,hk,hx⟩:=cbk hV hx;have hy:=ki hV hy;refine kY hW hnd hg hu (v:=.bool false) ?_ rfl hK;have hgd:(eqGuard .eql ty x y (.slice (some ⟨k,o',none⟩) n cp) (.slice none 0 0)).run C.P w=.ok () w:=rfl;have he:(Go.binOp .eql ty (.slice (some ⟨k,o',none⟩) n cp) (.slice none 0 0)).run C.P w=.ok (.bool false) w:=by
   have h0:(Op.equalIn (9999+1) ty (.slice (some ⟨k,o',none⟩) n cp) (.slice none 0 0)).run C.P w=.ok false w:=by
    generalize 9999=d;simp [Op.equalIn,jm hel]
   have h1:(Op.equal ty (.slice (some ⟨k,o',none⟩) n cp) (.slice none 0 0)).run C.P w=.ok false w:=h0;simp [Go.binOp,h1]
  simp only[execOp,hop,hx,hy,jA,hgd,he,kG];rfl
 ·rename_i c hop;split at hu
  ·rename_i hcal;split at hu
   rotate_left
   ·cases hu
   rename_i x hargs;have ha:c.args.map a.eval=#[a.eval x]:=by
    apply uJ;simp [hargs]
   split at hu
   rotate_left
   ·cases hu
   rename_i s ty hs hty;split at hu
   rotate_left
   ·cases hu
   rename_i el hel;obtain⟨ao,cp,hx,_⟩:=(Ka hC hV hM hg hs).1.shape;refine kY hW hnd hg hu (v:=goInt s.L.n) ?_ rfl hK;have hty':c.argTypes[0]?=some ty:=hty;simp [execOp,hop,resolve,hcal,ha,invoke,builtin,Builtin.len_,hty',jm hel,hx]
  ·rename_i hcal;split at hu
   rotate_left
   ·cases hu
   rename_i s x hargs;have ha:c.args.map a.eval=#[a.eval s,a.eval x]:=by
    apply uJ;simp [hargs]
   obtain⟨v,w',h1,h2⟩:=xApp_is hC hV hM hg hu hf ho o.type;have h1:(Builtin.append_ c.argTypes o.type #[a.eval s,a.eval x]).run C.P w=.ok v w':=by simpa using h1
   exact cJ hW hnd (w':=w') (by simp [execOp,hop,resolve,hcal,ha,invoke,builtin,h1]) (hK _ _ h2)
  ·cases hu
 ·cases hu
theorem apOp_is (hW:Wd F) (hC:C.Ok) (hV:cN e a V) (hM:cA C e w M) (hg:Kv C e w) (hu:apOp C.toStat V M n0 o=some t) (hf:jC n0 t.n1 e) (ho:cX t.ob)
 (hK:∀ v w',jG C e w n0 t v w'->K (a.put o.dst v) w'):o.wpIn F m C.P a w K Q:=by
 unfold apOp at hu;split at hu
 rotate_left
 ·cases hu
 rename_i cl hop;have hnd:ui o:=by
  intro c hc;rw[hop] at hc;cases hc
 split at hu
 rotate_left
 ·cases hu
 rename_i hcal;split at hu
 rotate_left
 ·cases hu
 rename_i s x T1 T2 hargs hats;split at hu
 rotate_left
 ·cases hu
 rename_i b o1 hsv;split at hu
 rotate_left
 ·cases hu
 rename_i q el inf hq hT he;obtain rfl:=cn hT;obtain⟨hel,hi⟩:=ka he;split at hu
 rotate_left
 ·cases hu
 rename_i z0 hz0;split at hu
 rotate_left
 ·cases hu
 rename_i h1 h2 h3 h4;have h1:=cn h1;have h2:=cjh h2;have h3:=jh h3;have h4:=cn h4;injection hu with hu;subst hu
 have hnm:q.L.n<=1000000:=ho.1;have ht:Yj C.toStat M inf.size (CV V x)=some (q.L.n,q.L.g):=by
  unfold Yj;rw[hq];simp only[h4,Nat.beq_refl]
 obtain⟨ao,c,us,hx,hul,hu1,hsrc,hrob⟩:=cah hC hV hM hg ht;obtain⟨k,hk,hs⟩:=cM hV hsv;have hby:∀ k,k<=2000000->k*inf.bytes<=140737488355328:=fun k hk=>cB (uN hk h3) (by decide);have key:∀ v w1,Below w.heap.size w w1->(Builtin.append_ #[T1,T1] o.type #[a.eval s,a.eval x]).run C.P w=.ok v w1->(∀ w2,jy e w1 w2->EN C w2 ⟨C.lo,el,inf.size,q.L.n,q.L.g⟩ v)->o.wpIn F m C.P a w K Q:=by
  intro v w1 hb hrun hl;have hL1:=jM.below hg hb n0;obtain⟨e',hL2,hν⟩:=cdc (v:=v) hC hL1.good (hf.mono (cb _) (cb _)) (fun w2 hk2=>hC.lists _ _ _ (hl w2 hk2));have ha:c=c:=rfl;have hargs':cl.args.map a.eval=#[a.eval s,a.eval x]:=by
   apply uJ;simp [hargs]
  have hats':cl.argTypes=#[T1,T1]:=by
   apply uJ;rw[hats]
  have hone:v.oneCell'=true:=hC.cell _ _ _ (hC.lists _ _ _ (hl w1 (jy.refl _ _))) v (by simp);refine cJ hW hnd (v:=v) (w':=w1) ?_ (hK _ _ ⟨e',hL1.trans hL2,⟨_,hν,rfl,hone⟩⟩);simp [execOp,hop,resolve,hcal,hargs',hats',invoke,builtin,hrun]
 rw[show a.eval s=.slice (some ⟨k,o1,none⟩) 0 0 from hs,hx] at key;rcases jr q.L.n with hm|hm
 ·rw[hm,Cg] at hul;obtain rfl:us=[]:=List.eq_nil_of_length_eq_zero hul;rw[hm] at key;refine key (.slice (some ⟨k,o1,none⟩) 0 0) w (cF _ _) ?_ (fun w2 _=>.inl ⟨rfl,_,rfl⟩);cases ao with
  |none=>simp [Builtin.append_,jm hel,sizeOf,typeInfo,hi,Builtin.lenOf,ced,storeCells]
  |some p =>
   have hf0:=ceS (P:=C.P) w inf.size 0 p 0 c [] (by simp) (fun j v h=>by simp at h);simp [Builtin.append_,jm hel,sizeOf,typeInfo,hi,Builtin.lenOf,hf0,storeCells]
 ·obtain⟨p,rfl,hget⟩:=hsrc hm;have hrun:=cbI (P:=C.P) w T1 o.type el inf z0 hel hi hz0 ⟨k,o1,none⟩ 0 0 [] (by simp) (fun j v h=>by simp at h) p q.L.n c us hul hget (by omega) (by omega) (caA (by omega) (hby _ (by omega)));have hb:Below w.heap.size w (w.drew.alloc (.cells (#[]++us.toArray++Builtin.zeroCells z0.cells (grownCap w (0+q.L.n) 0 el-(0+q.L.n))) el)):=(cF _ w).drew.alloc (cb _) _;have hcap:=UB w (0+q.L.n) 0 el;refine key _ _ hb hrun (fun w2 hk2=>?_);have hown:∀ b,e.ρ b≠some w.heap.size:=fun b h=>Nat.lt_irrefl _ (hg.lt h);have hot:¬ e.ot w.heap.size:=fun h=>by
   obtain⟨_,ob,h1,_⟩:=hg.fr.1 _ h;exact Nat.lt_irrefl _ (Array.getElem?_eq_some_iff.1 h1).1
  have hnew:(w.drew.alloc (.cells (#[]++us.toArray++Builtin.zeroCells z0.cells (grownCap w (0+q.L.n) 0 el-(0+q.L.n))) el)).heap[w.heap.size]?=some (.cells (#[]++us.toArray++Builtin.zeroCells z0.cells (grownCap w (0+q.L.n) 0 el-(0+q.L.n))) el (0,0)):=by
   show (w.heap.push _)[w.heap.size]?=_;simp
  have hlt:=(Array.getElem?_eq_some_iff.1 hnew).1;have hk3:=(hk2.block w.heap.size hlt hown hot).trans hnew;refine .inr ⟨w.heap.size,0,grownCap w (0+q.L.n) 0 el,_,[],us,(Builtin.zeroCells z0.cells (grownCap w (0+q.L.n) 0 el-(0+q.L.n))).toList,by simp,by simpa using hcap,⟨_,hk3⟩,by simp,rfl,hul,cB hC.los hg.below.size,hu1,fun j hj=>?_⟩;exact(hrob j hj).adv (Adv.below hg hb) w2 hk2
theorem ixOp_is (hW:Wd F) (hC:C.Ok) (hV:cN e a V) (hM:cA C e w M) (hg:Kv C e w) (hu:ixOp C.toStat T V M n0 o=some t) (hf:jC n0 t.n1 e) (ho:cX t.ob)
 (hK:∀ v w',jG C e w n0 t v w'->K (a.put o.dst v) w'):o.wpIn F m C.P a w K Q:=by
 unfold ixOp at hu;split at hu
 rotate_left
 ·cases hu
 rename_i ty x i hop;have hnd:ui o:=by
  intro c hc;rw[hop] at hc;cases hc
 split at hu
 rotate_left
 ·cases hu
 split at hu
 rotate_left
 ·cases hu
 rename_i s z hs hi;split at hu
 rotate_left
 ·cases hu
 rename_i r hr;injection hu with hu;subst hu
 have hz:0<=z:=ho.1;obtain⟨v,h1,h2⟩:=xIx_is hC hV hM hg hs hr hf ho.2;have hi:=ki hV hi;have h1:(Instr.indexAt ty (a.eval x) (.int .i64 z)).run C.P w=.ok v w:=by
  rw[← Ev hz];exact h1
 refine cJ hW hnd (v:=v) (w':=w) (by simp only[execOp,hop,hi,jA,h1];rfl) (hK _ _ ?_);exact h2
theorem ciS (hW:Wd F) (hC:C.Ok) (hT:T.Ok C) (hF:CF.Ok C) (hY:uy C YF) (hV:cN e a V) (hM:cA C e w M) (hg:Kv C e w) (hu:ccP C.toStat T CF YF V M n0 o=some t) (hf:jC n0 t.n1 e) (ho:cX t.ob)
 (hK:∀ v w',jG C e w n0 t v w'->K (a.put o.dst v) w'):o.wpIn F m C.P a w K Q:=by
 unfold ccP at hu;split at hu
 ·rename_i r hr;injection hu with hu;subst hu
  exact apOp_is hW hC hV hM hg hr hf ho hK
 split at hu
 ·rename_i r hr;injection hu with hu;subst hu
  exact ixOp_is hW hC hV hM hg hr hf ho hK
 split at hu
 ·rename_i r hr;injection hu with hu;subst hu
  exact mfOp_is hW hT hV hM hg hr hf ho hK
 split at hu
 ·rename_i r hr;injection hu with hu;subst hu
  exact cij hW hV hM hg hr hf hK
 split at hu
 ·rename_i r hr;injection hu with hu;subst hu
  exact esOp_is hW hV hM hg hr hf ho hK
 split at hu
 ·rename_i r hr;injection hu with hu;subst hu
  exact ciI hW hC hV hM hg hr hf ho hK
 split at hu
 ·rename_i r hr;injection hu with hu;subst hu
  exact chX hW hC hT hF hV hM hg hr hf ho hK
 ·exact cgO hW hC hT hF hY hV hM hg hu hf ho hK
end
section
variable {S:Stat D}{T:Tab D}{V:cR}{M:ct D}{n0:Nat}{o:Oper}{t:Out D}
theorem ciG {CF:cz D}(hu:ccF S T CF V M n0 o=some t):n0<=t.n1:=by
 unfold ccF at hu;split at hu
 rotate_left
 ·cases hu
 split at hu
 rotate_left
 ·cases hu
 split at hu
 rotate_left
 ·cases hu
 split at hu
 rotate_left
 ·cases hu
 split at hu
 rotate_left
 ·cases hu
 rename_i f pre cap l hun hl;generalize hp:YA S.csz n0 pre=r1 at hu;obtain⟨xs,ws1,n1⟩:=r1;simp only at hu;generalize hc:zm S n1 cap=r2 at hu;obtain⟨ys,ws2,n2⟩:=r2;simp only at hu;split at hu
 rotate_left
 ·cases hu
 split at hu
 rotate_left
 ·cases hu
 rename_i hb;injection hu with hu;subst hu
 exact cB (ccY hp) (cB (Jf hc) (jh hb))
theorem apOp_le (hu:apOp S V M n0 o=some t):n0<=t.n1:=by
 unfold apOp at hu
 repeat' (split at hu<;>try (cases hu;done))
 injection hu with hu;subst hu;exact jQ _
theorem ixOp_le (hu:ixOp S T V M n0 o=some t):n0<=t.n1:=by
 unfold ixOp at hu
 repeat' (split at hu<;>try (cases hu;done))
 rename_i hr;injection hu with hu;subst hu
 unfold xIx at hr
 repeat' (split at hr<;>try (cases hr;done))
 all_goals (injection hr with hr;subst hr;exact jQ _)
theorem civ (hu:Zt S T V M n0 o=some t):n0<=t.n1:=by
 unfold Zt at hu
 repeat' (split at hu<;>try (cases hu;done))
 ·unfold ZQ at hu
  repeat' (split at hu<;>try (cases hu;done))
  all_goals (rename_i hm;injection hu with hu;subst hu;exact Ec hm)
 ·unfold KQ at hu
  repeat' (split at hu<;>try (cases hu;done))
  all_goals (injection hu with hu;subst hu;exact cb _)
 ·unfold xIx at hu
  repeat' (split at hu<;>try (cases hu;done))
  all_goals (injection hu with hu;subst hu;exact jQ _)
 ·injection hu with hu;subst hu;exact cb _
 ·unfold xFa at hu
  repeat' (split at hu<;>try (cases hu;done))
  all_goals (injection hu with hu;subst hu;exact jQ _)
 ·injection hu with hu;subst hu;exact cb _
 ·unfold xSl at hu
  repeat' (split at hu<;>try (cases hu;done))
  all_goals (injection hu with hu;subst hu;exact jQ _)
 ·unfold xMk at hu
  repeat' (split at hu<;>try (cases hu;done))
  all_goals (injection hu with hu;subst hu;exact jQ _)
 ·unfold xBp uu at hu
  repeat' (split at hu<;>try (cases hu;done))
  all_goals (injection hu with hu;subst hu;exact jQ _)
 ·unfold xBs at hu
  repeat' (split at hu<;>try (cases hu;done))
  all_goals (injection hu with hu;subst hu;exact jQ _)
 ·unfold xBox at hu
  repeat' (split at hu<;>try (cases hu;done))
  all_goals (injection hu with hu;subst hu;exact Nat.le_add_right _ 2)
 ·unfold kX at hu;split at hu
  ·injection hu with hu;subst hu;exact cb _
  ·cases hu
 ·injection hu with hu;subst hu;exact cb _
 ·injection hu with hu;subst hu;exact cb _
 ·unfold xApp at hu
  repeat' (split at hu<;>try (cases hu;done))
  all_goals (injection hu with hu;subst hu;exact jQ _)
end
variable {D:Type}
structure St (D:Type) where
 nb:Nat
 sl:List (Nat×AV)
 m:Ws D
 ms:List Nat
def caP (nt:Nat) (dst:Option Tmp) (x:AV) (sl:List (Nat×AV)):Option (List (Nat×AV)) :=
 match dst with
 |none=>some sl
 |some d=>match Nat.blt d nt with
  |true=>some (jK [(d,x)] sl)
  |false=>none
def cbo (V:cR) (ops:List Oper) (o:Oper):Option Bool :=
 match o.guard with
 |none=>some true
 |some (j,want)=>match ops[j]? with
  |some oj=>match oj.dst with
   |some t=>match lit? (V t) with
    |some (.bool b)=>match b,want with
     |true,true=>some true
     |false,false=>some true
     |_,_=>some false
    |some (.tuple ⟨[]⟩)=>some false
    |_=>none
   |none=>none
  |none=>none
def Yc (S:Stat D) (T:Tab D) (CF YF:cz D) (V:cR) (M:ct D) (n0:Nat) (ops:List Oper) (o:Oper):Option (Out D) :=
 match cbo V ops o with
 |some true=>ccP S T CF YF V M n0 o
 |some false=>out n0 cjl
 |none=>none
def GF (S:Stat D) (T:Tab D) (CF YF:cz D) (nt:Nat) (base:ct D) (ops:List Oper):List Oper->St D->Option (St D×List Prop)
 |[],st=>some (st,[])
 |o::l,st=>match Yc S T CF YF (fun t=>find t st.sl) (over base st.m) st.nb ops o with
  |some t=>match caP nt o.dst t.x st.sl with
   |some sl=>match GF S T CF YF nt base ops l ⟨t.n1,sl,jK t.ws st.m,st.ms⟩ with
    |some (st',ob)=>some (st',t.ob++ob)
    |none=>none
   |none=>none
  |none=>none
def cz.Mono (CF:cz D):Prop:=∀ M n0 f l t,CF M n0 f l=some t->n0<=t.n1
section
variable {S:Stat D}{T:Tab D}{CF YF:cz D}{V:cR}{M:ct D}{n0:Nat}{t:Out D}
theorem mkR_le {csz:D->Nat}{p:RPat D}{s s':Nat}{x:AV}{l:Ws D}(h:mkR csz s p=some (x,l,s')):s<=s':=by
 cases p with
 |val p =>
  simp only[mkR] at h;split at h
  ·rename_i hp;injection h with h
   simp only[co] at h;have:=mkP_le hp;omega
  ·cases h
 |tup ps =>
  simp only[mkR] at h;split at h
  ·rename_i hp;injection h with h
   simp only[co] at h;have:=cbw hp;omega
  ·cases h
theorem cbT {x:AV}(h:(out n0 x:Option (Out D))=some t):n0<=t.n1:=by
 injection h with h;subst h;exact cb _
theorem cjb {P:Program}{s:Sem Value}(h:(kX P n0 s:Option (Out D))=some t):n0<=t.n1:=by
 unfold kX at h;split at h
 ·exact cbT h
 ·cases h
theorem Ji {ty:Nat}{cs:List AC}{z:Option Nat}{x:AC}(h:uu S n0 ty cs z x=some t):n0<=t.n1:=by
 unfold uu at h;split at h
 ·injection h with h;subst h;exact jQ _
 ·cases h
theorem cfd {h:Hd}{d:Nat}{xs:List Operand}(hu:yQ S T V M n0 d h xs=some t):n0<=t.n1:=by
 unfold yQ at hu
 repeat' (split at hu<;>try (cases hu;done))
 rename_i hm;injection hu with hu;subst hu
 exact mkR_le hm
theorem chQ (hF:CF.Mono) {f:FuncId}{d:Nat}{l:List AV}(hu:JR S T CF M n0 d f l=some t):n0<=t.n1:=by
 unfold JR at hu;split at hu
 ·rename_i hr;injection hu with hu;subst hu
  unfold memA at hr
  repeat' (split at hr<;>try (cases hr;done))
  ·injection hr with hr;subst hr
   exact cb _
  ·injection hr with hr;subst hr
   exact jQ _
 split at hu
 ·rename_i hr;injection hu with hu;subst hu
  unfold boxA at hr
  repeat' (split at hr<;>try (cases hr;done))
  injection hr with hr;subst hr
  exact cb _
 split at hu
 ·repeat' (split at hu<;>try (cases hu;done))
  rename_i hm;injection hu with hu;subst hu
  exact mkR_le hm
 ·exact hF _ _ _ _ _ hu
theorem cgT {ty b o:Nat}{cs:List AC}(hu:Ug S M n0 ty b o cs=some t):n0<=t.n1:=by
 unfold Ug at hu
 repeat' (split at hu<;>try (cases hu;done))
 injection hu with hu;subst hu
 exact cb _
theorem bsA_le {ty n:Nat}{ps:Array (Nat×Operand)}(hu:bsA S V M n0 ty n ps=some t):n0<=t.n1:=by
 unfold bsA at hu
 repeat' (split at hu<;>try (cases hu;done))
 exact Ji hu
theorem mkA_le {ty:Nat}{l c:Option Value}(hu:mkA S n0 ty l c=some t):n0<=t.n1:=by
 unfold mkA at hu
 repeat' (split at hu<;>try (cases hu;done))
 exact Ji hu
theorem cdO {ats:List Nat}{s:AV}{x:Option AV}(hu:GX S M n0 ats s x=some t):n0<=t.n1:=by
 unfold GX at hu
 repeat' (split at hu<;>try (cases hu;done))
 all_goals first
  |exact Ji hu
  |(injection hu with hu;subst hu;first|exact cb _|exact jQ _)
theorem cgu {ats:List Nat}{x:Option AV}(hu:KS S M n0 ats x=some t):n0<=t.n1:=by
 unfold KS at hu
 repeat' (split at hu<;>try (cases hu;done))
 injection hu with hu;subst hu
 exact cb _
theorem chz {ty:Nat}{x:Option AV}{lo hi mx:Option Operand}(hu:Uf S V M n0 ty x lo hi mx=some t):n0<=t.n1:=by
 unfold Uf at hu
 repeat' (split at hu<;>try (cases hu;done))
 all_goals exact cbT hu
theorem che (hF:CF.Mono) (hYF:YF.Mono) {o:Oper}(hu:cjq S T CF YF V M n0 o=some t):n0<=t.n1:=by
 rw[KO] at hu;unfold Wn at hu;simp only at hu
 repeat' (split at hu<;>try (cases hu;done))
 all_goals first
  |exact cbT hu
  |exact cjb hu
  |exact Ji hu
  |exact cfd hu
  |exact chQ hF hu
  |exact cgT hu
  |exact bsA_le hu
  |exact cdO hu
  |exact cgu hu
  |exact hYF _ _ _ _ _ hu
  |(injection hu with hu;subst hu;rename_i h;first|exact chz h|exact mkA_le h|exact cfd h)
  |(injection hu with hu;subst hu;exact jQ _)
theorem chG (hF:CF.Mono) (hYF:YF.Mono) {o:Oper}(hu:ccP S T CF YF V M n0 o=some t):n0<=t.n1:=by
 unfold ccP at hu;split at hu
 ·rename_i r hr;injection hu with hu;subst hu
  exact apOp_le hr
 split at hu
 ·rename_i r hr;injection hu with hu;subst hu
  exact ixOp_le hr
 split at hu
 ·rename_i r hr;injection hu with hu;subst hu
  exact mfOp_le hr
 split at hu
 ·rename_i r hr;injection hu with hu;subst hu
  exact chV hr
 split at hu
 ·rename_i r hr;injection hu with hu;subst hu
  exact esOp_le hr
 split at hu
 ·rename_i r hr;injection hu with hu;subst hu
  exact civ hr
 split at hu
 ·rename_i r hr;injection hu with hu;subst hu
  exact ciG hr
 ·exact che hF hYF hu
theorem cdm (hF:CF.Mono) (hYF:YF.Mono) {ops:List Oper}{o:Oper}(hu:Yc S T CF YF V M n0 ops o=some t):n0<=t.n1:=by
 unfold Yc at hu;split at hu
 ·exact chG hF hYF hu
 ·exact cbT hu
 ·cases hu
theorem KM (hF:CF.Mono) (hYF:YF.Mono) {nt:Nat}{base:ct D}{ops:List Oper}:∀ {l:List Oper}{st st':St D}{ob:List Prop},GF S T CF YF nt base ops l st=some (st',ob)->st.nb<=st'.nb
 |[],st,st',ob,h=>by
  simp only[GF,kC,co] at h;rw[h.1];exact cb _
 |o::l,st,st',ob,h=>by
  simp only[GF] at h;split at h
  ·rename_i t ht;split at h
   ·split at h
    ·rename_i st1 ob1 hs;injection h with h;injection h with h1 h2;subst h1
     exact cB (cdm hF hYF ht) (KM hF hYF hs)
    ·cases h
   ·cases h
  ·cases h
end
def uV (r:Nat):Deferred:={ target:=.collected r,args:=#[] }
def Cq (e:Env):List Nat->List Nat->Prop
 |[],rs=>rs=[]
 |b::bs,rs=>∃ r rs',rs=r::rs'/\e.ρ b=some r/\Cq e bs rs'
theorem Cq.ext {e e':Env}(h:Ext e e'):∀ {bs rs:List Nat},Cq e bs rs->Cq e' bs rs
 |[],_,hm=>hm
 |_::_,_,⟨r,rs',h1,h2,h3⟩=>⟨r,rs',h1,h.ρ _ _ h2,Cq.ext h h3⟩
structure Sat (C:Ctx D) (nt:Nat) (e0:Env) (w0:World) (n0:Nat) (st:St D) (a:Act) (w:World):Prop where
 ex:∃ e,jM C e0 w0 n0 st.nb st.m e w/\cN e a (fun t=>find t st.sl)/\∃ rs,a.defers=rs.map uV/\Cq e st.ms rs
 size:a.tmps.size=nt
section
variable {F:Fence}{m:Nat}
variable {C:Ctx D}{e0 e:Env}{w0 w w':World}{a:Act}{T:Tab D}{CF YF:cz D}{n0 nt:Nat}{base:ct D}{Q:Exit->Act->World->Prop}
theorem cjr (a:Act) (d:Option Tmp) (v:Value):(a.put d v).tmps.size=a.tmps.size:=by cases d<;>simp [Act.put]
theorem cjp (a:Act) (d:Option Tmp) (v:Value):(a.put d v).defers=a.defers:=by cases d<;>rfl
theorem kn (hb:cA C e0 w0 base) {m:Ws D}{n1:Nat}(h:jM C e0 w0 n0 n1 m e w):cA C e w (over base m):=fun b o ho=>by
 unfold over at ho;split at ho
 ·rename_i o' hf;injection ho with ho;subst ho
  exact h.wrote b _ hf
 ·rename_i hn;exact h.kept b o (hb b o ho) hn
theorem YD {e e':Env}{dst:Option Tmp}{x:AV}{sl sl':List (Nat×AV)}(hs:a.tmps.size=nt) (hV:cN e a (fun t=>find t sl)) (hp:caP nt dst x sl=some sl') (hx:Ext e e') {v:Value}(hv:x.is e' v):cN e' (a.put dst v) (fun t=>find t sl'):=by
 unfold caP at hp;split at hp
 ·injection hp with hp;subst hp
  exact hV.ext hx
 ·rename_i d;split at hp
  ·rename_i hd;have hd:=cjh hd;injection hp with hp;subst hp
   intro t y hy;have hy:find t (jK [(d,x)] sl)=some y:=hy;rw[uP] at hy;by_cases hdt:d=t
   ·subst hdt;simp only[cP,cC,Nat.beq_refl] at hy;injection hy with hy;subst hy
    exact⟨v,by simp [Act.put,hs,hd],hv⟩
   ·have hb:Nat.beq d t=false:=by
     cases h:Nat.beq d t with
     |false=>rfl
     |true=>exact absurd (cn h) hdt
    simp only[cP,cC,hb] at hy;obtain⟨u,h1,h2⟩:=hV.ext hx t y hy;exact⟨u,by simp [Act.put,hdt,h1],h2⟩
  ·cases hp
theorem cej {ops:Array Oper}{a:Act}{oj:Oper}{j:Nat}{t:Tmp}{b:Bool}(ho:ops[j]?=some oj) (hd:oj.dst=some t) (he:a.eval (.tmp t)=.bool b):yielded ops a.tmps j=some b:=by
 unfold yielded;simp only[ho,Option.bind_some,hd];simp only[Act.eval,WG] at he;cases h:a.tmps[t]? with
 |none=>rw[h] at he;simp [undef] at he
 |some x=>rw[h] at he;simp at he;rw[he]
theorem ccG (hW:Wd F) (hC:C.Ok) (hT:T.Ok C) (hF:CF.Ok C) (hY:uy C YF) {V:cR}{M:ct D}(hV:cN e a V) (hM:cA C e w M) (hg:Kv C e w) {ops:Array Oper}{o:Oper}{n:Nat}{t:Out D}(hu:Yc C.toStat T CF YF V M n ops.toList o=some t) (hf:jC n t.n1 e) (ho:cX t.ob) {K:Act->World->Prop}
 (hK:∀ v w',jG C e w n t v w'->K (a.put o.dst v) w'):if Region.wanted o (yielded ops a.tmps) then o.wpIn F m C.P a w K Q else K (a.put o.dst undef) w:=by
 unfold Yc at hu;have hgo:∀ g,cbo V ops.toList o=some g->Region.wanted o (yielded ops a.tmps)=g:=by
  intro g hg;unfold cbo at hg;split at hg
  ·rename_i hgu;injection hg with hg;subst hg
   simp [Region.wanted,hgu]
  ·rename_i j want hgu;split at hg
   ·rename_i oj hoj;have hoj:ops[j]?=some oj:=by simpa using hoj
    split at hg
    ·rename_i t ht;split at hg
     ·rename_i b hb;have hy:=cej hoj ht (ki hV (x:=.tmp t) hb);split at hg<;>injection hg with hg<;>subst hg
      ·simp [Region.wanted,hgu,hy]
      ·simp [Region.wanted,hgu,hy]
      ·rename_i n1 n2;simp only[Region.wanted,hgu,hy];cases b<;>cases want<;>simp_all
     ·rename_i hb;have he:a.eval (.tmp t)=.tuple #[]:=ki hV (x:=.tmp t) hb;injection hg with hg;subst hg
      have hy:yielded ops a.tmps j=none:=by
       unfold yielded;simp only[hoj,Option.bind_some,ht];simp only[Act.eval,WG] at he;cases h:a.tmps[t]? with
       |none=>rfl
       |some x=>rw[h] at he;simp at he;rw[he]
      simp [Region.wanted,hgu,hy]
     ·cases hg
    ·cases hg
   ·cases hg
 split at hu
 ·rename_i hgu;rw[hgo _ hgu,cq rfl];exact ciS hW hC hT hF hY hV hM hg hu hf ho hK
 ·rename_i hgu;rw[hgo _ hgu,cf (by simp)];injection hu with hu;subst hu
  exact hK _ _ (jG.here hg rfl)
 ·cases hu
theorem Zz (hW:Wd F) (hC:C.Ok) (hT:T.Ok C) (hF:CF.Ok C) (hFm:CF.Mono) (hY:uy C YF) (hYm:YF.Mono) (hb:cA C e0 w0 base) {ops:Array Oper}:∀ (k:Nat) (l:List Oper) (i:Nat) (st st':St D) (ob:List Prop),l.length=k->ops.toList.drop i=l->GF C.toStat T CF YF nt base ops.toList l st=some (st',ob)->cX ob->jC n0 st'.nb e0->
 (∀ a w,Sat C nt e0 w0 n0 st' a w->Q .normal a w)->∀ a w,Sat C nt e0 w0 n0 st a w->wpOpsIn F m C.P ops Q (List.range' i k) a w
 |0,l,i,st,st',ob,hl,hd,h,ho,hf,hQ,a,w,hs=>by
  have:l=[]:=by simpa using hl
  subst this;simp only[GF,kC,co] at h;rw[← h.1] at hQ;exact hQ a w hs
 |k+1,[],i,st,st',ob,hl,hd,h,ho,hf,hQ,a,w,hs=>by simp at hl
 |k+1,o::l,i,st,st',ob,hl,hd,h,ho,hf,hQ,a,w,hs=>by
  simp only[GF] at h;split at h
  ·rename_i t ht;split at h
   ·rename_i sl hsl;split at h
    ·rename_i st1 ob1 hrest;injection h with h;injection h with h1 h2;subst h1;subst h2
     obtain⟨ho1,ho2⟩:=ho.append;have hmono:=KM hFm hYm hrest;obtain⟨⟨e,hL,hV,rs,hdf,hmk⟩,hsz⟩:=hs;have hio:ops[i]?=some o:=by
      have:=cw (fun l=>l[0]?) hd;simpa using this
     have hf1:jC st.nb t.n1 e:=(hf.new (hL.new.mono (cb _) (cb _)) hL.le).mono (cb _) hmono;have hstep:=ccG (F:=F) (m:=m) (Q:=Q) (K:=wpOpsIn F m C.P ops Q (List.range' (i+1) k)) hW hC hT hF hY hV (kn hb hL) hL.good ht hf1 ho1 (fun v w' hD=>by
      obtain⟨e',hL',hx⟩:=hD;refine Zz hW hC hT hF hFm hY hYm hb k l (i+1) ⟨t.n1,sl,jK t.ws st.m,st.ms⟩ st1 ob1 (by simpa using hl) ?_ hrest ho2 hf hQ _ _ ⟨⟨e',hL.trans hL',YD hsz hV hsl hL'.adv.ext hx,rs,by rw[cjp,hdf],hmk.ext hL'.adv.ext⟩,by rw[cjr,hsz]⟩;rw[← uF,hd];rfl)
     rw[List.range'_succ];simp only[wpOpsIn,hio];split at hstep
     ·rename_i hw;rw[cq hw];exact hstep
     ·rename_i hw;rw[cf hw];exact⟨fun f _=>hW.fn f,hstep⟩
    ·cases h
   ·cases h
  ·cases h
end
variable {D:Type}
section
variable {F:Fence}{m:Nat}{P:Program}{ops:Array Oper}{Q:Exit->Act->World->Prop}{md:Region.Mode}
def cbO (l:Array Bool):Nat:=(l.toList.filter (fun b=>!b)).length
theorem cdr {l:Array Bool}{i:Nat}(h:l[i]?=some false):cbO (l.setIfInBounds i true)+1=cbO l:=by
 obtain⟨xs⟩:=l;unfold cbO;simp only[List.getElem?_toArray] at h;simp only[List.setIfInBounds_toArray]
 induction xs generalizing i with
 |nil=>simp at h
 |cons x xs ih =>
  cases i with
  |zero=>simp at h;subst h;simp
  |succ i =>
   simp at h;have:=ih h;cases x<;>simp [List.set_cons_succ]<;>omega
theorem GJ {l:Array Bool}{i:Nat}(hm:i∈Region.ready md ops l):l[i]?=some false:=by
 have h1:=(mem_ready.1 hm).1;have hlt:i<l.size:=by
  rcases jj i l.size with h|h
  ·exact h
  ·simp [lemZ4 h] at h1
 rw[cfI hlt];simp [hlt] at h1;rw[h1]
theorem any_inv (Inv:Array Bool->Act->World->Prop)
 (step:∀ l a w i,l.size=ops.size->Inv l a w->i∈Region.ready md ops l->wpOpIn F m P ops Q i (fun a' w'=>Inv (l.setIfInBounds i true) a' w') a w)
 (done:∀ l a w,l.size=ops.size->Inv l a w->Region.ready md ops l=[]->Q .normal a w) :
 ∀ (fuel:Nat) (l:Array Bool) (a:Act) (w:World),l.size=ops.size->cbO l<=fuel->Inv l a w->wpAnyIn F m P md ops Q fuel l a w:=by
 intro fuel
 induction fuel with
 |zero =>
  intro l a w hs hl hi;have hr:Region.ready md ops l=[]:=by
   cases hx:Region.ready md ops l with
   |nil=>rfl
   |cons i is =>
    have hm:i∈Region.ready md ops l:=by rw[hx];simp
    have:=cdr (GJ hm);omega
  exact⟨hr,done l a w hs hi hr⟩
 |succ fuel ih =>
  intro l a w hs hl hi;refine⟨fun hr=>done l a w hs hi hr,fun i hm=>?_⟩;have h3:=cdr (GJ hm);exact wpOpIn_mono (fun a' w' h=>ih _ a' w' (by simpa using hs) (by omega) h) (step l a w i hs hi hm)
theorem ciR {l:Array Bool}(hs:l.size=ops.size) (ht:∀ (i:Nat) (o:Oper),ops[i]?=some o->∀ e∈o.after,Region.binds md e=true->e.on<i) (hr:Region.ready md ops l=[]) :
 ∀ i,i<ops.size->l[i]?=some true:=by
 intro i
 induction i using Nat.strongRecOn with
 |ind i ih =>
  intro hi;have hl:i<l.size:=by omega
  rw[cfI hl];cases hb:l[i] with
  |true=>rfl
  |false =>
   exfalso;have hm:i∈Region.ready md ops l:=by
    refine mem_ready.2 ⟨by simp [hl,hb],ops[i],cfI hi,fun e he hbi=>?_⟩;have h1:=ht i ops[i] (cfI hi) e he hbi;have h2:=ih e.on h1 (by omega);simp [h2]
   rw[hr] at hm;cases hm
end
def EF (pres:List Nat):List Edge->Nat
 |[]=>0
 |ed::l=>match Region.binds .any ed with
  |true=>2^ed.on||| pres.getD ed.on 0||| EF pres l
  |false=>EF pres l
def cje:List Nat->List Oper->List Nat
 |acc,[]=>acc
 |acc,o::l=>cje (acc++[EF acc o.after.toList]) l
theorem Ul {pres:List Nat}{j:Nat}:∀ {l:List Edge},(EF pres l).testBit j=true->∃ ed∈l,Region.binds .any ed=true/\(ed.on=j\/(pres.getD ed.on 0).testBit j=true)
 |[],h=>by simp [EF] at h
 |ed::l,h=>by
  unfold EF at h;split at h
  ·rename_i hb;simp only[Nat.testBit_or,Bool.or_eq_true] at h;rcases h with(h|h)|h
   ·rw[Nat.testBit_two_pow] at h;exact⟨ed,by simp,hb,.inl (by simpa using h)⟩
   ·exact⟨ed,by simp,hb,.inr h⟩
   ·obtain⟨d,h1,h2⟩:=Ul h;exact⟨d,zG _ h1,h2⟩
  ·obtain⟨d,h1,h2⟩:=Ul h;exact⟨d,zG _ h1,h2⟩
theorem Jn:∀ (l:List Oper) (acc:List Nat),∃ r,cje acc l=acc++r/\r.length=l.length
 |[],acc=>⟨[],by simp [cje],rfl⟩
 |o::l,acc=>by
  obtain⟨r,h1,h2⟩:=Jn l (acc++[EF acc o.after.toList]);exact⟨EF acc o.after.toList::r,by simp [cje,h1],by simp [h2]⟩
theorem Ga:∀ (l:List Oper) (acc:List Nat) (i:Nat) (o:Oper),l[i]?=some o->∀ j,((cje acc l).getD (acc.length+i) 0).testBit j=true->
 ∃ ed∈o.after.toList,Region.binds .any ed=true/\(ed.on=j\/((cje acc l).getD ed.on 0).testBit j=true)
 |[],acc,i,o,h,j,hj=>by simp at h
 |o'::l,acc,0,o,h,j,hj=>by
  simp at h;subst h;obtain⟨r,h1,h2⟩:=Jn l (acc++[EF acc o'.after.toList]);have h3:cje acc (o'::l)=acc++(EF acc o'.after.toList::r):=by simp [cje,h1]
  rw[h3] at hj ⊢;simp at hj;obtain⟨ed,h4,h5,h6⟩:=Ul hj;refine⟨ed,h4,h5,h6.imp (fun h=>h) fun h6=>?_⟩;have hlt:ed.on<acc.length:=by
   rcases jj ed.on acc.length with h|h
   ·exact h
   ·simp [List.getD,uC h] at h6
  simpa [List.getD,JO hlt] using h6
 |o'::l,acc,i+1,o,h,j,hj=>by
  have:=Ga l (acc++[EF acc o'.after.toList]) i o (by simpa using h) j (by
   have h1:acc.length+(i+1)=(acc++[EF acc o'.after.toList]).length+i:=by simp;omega
   rw[← h1];exact hj)
  exact this
def cjn:List Oper->Nat->Bool
 |[],_=>true
 |o::l,i=>match o.after.toList.all (fun ed=>match Region.binds .any ed with
  |true=>Nat.blt ed.on i
  |false=>true) with
  |true=>cjn l (i+1)
  |false=>false
theorem Ez:∀ {l:List Oper}{i:Nat},cjn l i=true->∀ j o,l[j]?=some o->∀ ed∈o.after,Region.binds .any ed=true->ed.on<i+j
 |[],i,_,j,o,hj=>by simp at hj
 |x::l,i,h,j,o,hj=>by
  unfold cjn at h;split at h
  ·rename_i hx;cases j with
   |zero =>
    simp at hj;subst hj;intro ed hed hb;have:=List.all_eq_true.1 hx ed (by simpa using hed);simp only[hb] at this;simpa using cjh this
   |succ j =>
    intro ed hed hb;have:=Ez h j o (by simpa using hj) ed hed hb;omega
  ·cases h
theorem pre_lt {ops:List Oper}(h:cjn ops 0=true):∀ (i:Nat),i<ops.length->∀ j,((cje [] ops).getD i 0).testBit j=true->j<i:=by
 intro i
 induction i using Nat.strongRecOn with
 |ind i ih =>
  intro hi j hj;obtain⟨ed,h1,h2,h3⟩:=Ga ops [] i ops[i] (jl hi) j (by simpa using hj);have h4:=Ez h i ops[i] (jl hi) ed (by simpa using h1) h2;rw[jb] at h4;rcases h3 with rfl|h3
  ·exact h4
  ·exact Je (ih ed.on h4 (Je h4 hi) j h3) h4
def Gu (pres:List Nat) (i j:Nat):Bool :=
 match Nat.beq i j with
 |true=>false
 |false=>match (pres.getD i 0).testBit j with
  |true=>false
  |false=>match (pres.getD j 0).testBit i with
   |true=>false
   |false=>true
def UY (k:Nat):List Nat->Bool
 |[]=>false
 |b::l=>match Nat.beq b k with
  |true=>true
  |false=>UY k l
def blksC:AC->List Nat
 |.ptr b _=>[b]
 |.slc b _ _ _=>[b]
 |.gsl b _=>[b]
 |.gso b _ _ _=>[b]
 |.fn b=>[b]
 |.yld b=>[b]
 |_=>[]
def ccp:A1->List Nat
 |.one c=>blksC c
 |.agg cs=>cs.flatMap blksC
def KE:Option AV->List Nat
 |some (.val a)=>ccp a
 |some (.tup l)=>l.flatMap ccp
 |none=>[]
def blksO:Option (kU D)->List Nat
 |some (.blk _ cs _)=>cs.flatMap blksC
 |some (.clo _ pre cap)=>pre.flatMap ccp++cap.flatMap ccp
 |some (.loop _ sl ..)=>sl.flatMap fun p=>KE (some p.2)
 |some (.ep b ..)=>[b]
 |some (.es b ..)=>[b]
 |some (.mp es _)=>es.flatMap fun p=>ccp p.2.1
 |_=>[]
def fnsC:AC->List Nat
 |.fn b=>[b]
 |_=>[]
def Ks:Option AV->List Nat
 |some (.val (.one c))=>fnsC c
 |some (.val (.agg cs))=>cs.flatMap fnsC
 |_=>[]
def epsV (M:ct D):Option AV->List Nat
 |some (.val (.one (.fn b)))=>match M b with
  |some (.ep l ..)=>[l]
  |some (.es l ..)=>[l]
  |_=>[]
 |_=>[]
def cbC (M:ct D):Nat->List Nat->List Nat->List Nat
 |0,_,seen=>seen
 |_+1,[],seen=>seen
 |n+1,b::l,seen=>match UY b seen with
  |true=>cbC M n l seen
  |false=>cbC M n (blksO (M b)++l) (b::seen)
def looks (V:cR) (M:ct D) (o:Oper):List Nat :=
 match o.op with
 |.load _ x=>KE (CV V x)++epsV M (CV V x)
 |.store _ x y=>KE (CV V x)++(epsV M (CV V x)++Ks (CV V y))
 |.indexAddr _ x _=>Ks (CV V x)++epsV M (CV V x)
 |.box _ x=>Ks (CV V x)
 |.build _ ps=>ps.toList.flatMap fun p=>Ks (CV V p.2)
 |.buildSlice _ _ ps=>ps.toList.flatMap fun p=>Ks (CV V p.2)
 |.call c=>match c.callee with
  |.builtin .len=>c.args.toList.flatMap fun x=>Ks (CV V x)
  |.builtin .clear=>c.args.toList.flatMap fun x=>KE (CV V x)++epsV M (CV V x)
  |.builtin .append=>cbC M 1000 (c.args.toList.flatMap fun x=>KE (CV V x)) []
  |.builtin _=>c.args.toList.flatMap fun x=>KE (CV V x)
  |.value f=>cbC M 1000 (KE (CV V f)++c.args.toList.flatMap fun x=>KE (CV V x)) []
  |_=>[]
 |.slice _ x ..=>KE (CV V x)++epsV M (CV V x)
 |.lookup _ x _ _=>Ks (CV V x)
 |.mapUpdate _ x _ y=>Ks (CV V x)++Ks (CV V y)
 |.insert _ x _ y=>Ks (CV V x)++Ks (CV V y)
 |.mapEntry _ x _=>Ks (CV V x)
 |.entryStore _ x y _=>Ks (CV V x)++Ks (CV V y)
 |_=>[]
abbrev Acc (D:Type):=List (Nat×Out D)
def jd (p:Nat->Bool) (b:Nat):Acc D->Nat->Option (kU D)->Option (kU D)
 |[],_,cur=>cur
 |t::W,j,cur=>match p j with
  |true=>match find b t.2.ws with
   |some o=>jd p b W (j+1) (some o)
   |none=>jd p b W (j+1) cur
  |false=>jd p b W (j+1) cur
def cW (p:Nat->Bool) (t:Nat):List Oper->Acc D->Nat->Option AV->Option AV
 |o::ops,x::W,j,cur=>match p j with
  |true=>match o.dst with
   |some d=>match Nat.beq d t with
    |true=>cW p t ops W (j+1) (some x.2.x)
    |false=>cW p t ops W (j+1) cur
   |none=>cW p t ops W (j+1) cur
  |false=>cW p t ops W (j+1) cur
 |_,_,_,cur=>cur
def Eb (pres:List Nat) (i t:Nat):List Oper->Nat->Bool
 |[],_=>false
 |o::l,j=>match o.dst with
  |some d=>match Nat.beq d t with
   |true=>match Gu pres i j with
    |true=>true
    |false=>Eb pres i t l (j+1)
   |false=>Eb pres i t l (j+1)
  |none=>Eb pres i t l (j+1)
def CO (pres:List Nat) (ops:List Oper) (acc:Acc D) (base:cR) (i:Nat):cR:=fun t =>
 match Eb pres i t ops 0 with
 |true=>none
 |false=>cW (pres.getD i 0).testBit t ops acc 0 (base t)
def Zf (pres:List Nat) (acc:Acc D) (base:ct D) (nb i:Nat):ct D:=fun b =>
 jd (pres.getD i 0).testBit b acc 0 (match Nat.ble nb b with
  |true=>none
  |false=>base b)
def UM (pres:List Nat) (acc:Acc D) (base:ct D) (nb i:Nat) (q:List Nat):ct D:=fun b =>
 match Zf pres acc base nb i b with
 |some (.blk ty cs z)=>match UY b q with
  |false=>none
  |true=>some (.blk ty cs z)
 |some (.gl ty z n g)=>match UY b q with
  |false=>none
  |true=>some (.gl ty z n g)
 |some (.mp es ck)=>match UY b q with
  |false=>none
  |true=>some (.mp es ck)
 |some (.mf nk vk g pe)=>match UY b q with
  |false=>none
  |true=>some (.mf nk vk g pe)
 |some .dead=>none
 |r=>r
def Yg (S:Stat D) (T:Tab D) (CF YF:cz D) (pres:List Nat) (ops:List Oper) (bs:cR) (bm:ct D) (nb:Nat):List Oper->Nat->Nat->Acc D->Option (Acc D×Nat×List Prop)
 |[],_,n,acc=>some (acc,n,[])
 |o::l,i,n,acc=>match Yc S T CF YF (CO pres ops acc bs i) (UM pres acc bm nb i (looks (CO pres ops acc bs i) (Zf pres acc bm nb i) o)) n ops o with
  |some t=>match Yg S T CF YF pres ops bs bm nb l (i+1) t.n1 (acc++[(n,t)]) with
   |some (W,n',ob)=>some (W,n',t.ob++ob)
   |none=>none
  |none=>none
def catO:Option (List Prop)->Option (List Prop)->Option (List Prop)
 |some a,some b=>some (a++b)
 |_,_=>none
def weakO:kU D->kU D->Option (List Prop)
 |.mf nk vk g _,.mf nk' vk' g' none=>match Nat.beq nk nk' with
  |true=>some [vk=vk',∀ k,g k=g' k]
  |false=>none
 |_,_=>none
def Kq (M:ct D) (ws:Ws D):Ws D->Option (List Prop)
 |[]=>some []
 |p::l=>match memN p.1 ws with
  |true=>none
  |false=>match M p.1 with
   |some o=>catO (weakO p.2 o) (Kq M ws l)
   |none=>Kq M ws l
def Gg (pres:List Nat) (M:ct D) (ws:Ws D) (i:Nat):Acc D->Nat->Option (List Prop)
 |[],_=>some []
 |t::W,j=>match t.2.ws with
  |[]=>Gg pres M ws i W (j+1)
  |p::l=>match Gu pres i j with
   |true=>catO (Kq M ws (p::l)) (Gg pres M ws i W (j+1))
   |false=>Gg pres M ws i W (j+1)
def cfx (pres:List Nat) (ops:List Oper) (W:Acc D) (bs:cR) (bm:ct D) (nb:Nat):List Oper->Acc D->Nat->Option (List Prop)
 |o::l,t::W',i=>match (match o.dst with
  |some d=>Eb pres i d ops 0
  |none=>false) with
  |true=>none
  |false=>catO (Gg pres (UM pres W bm nb i (looks (CO pres ops W bs i) (Zf pres W bm nb i) o)) t.2.ws i W 0) (cfx pres ops W bs bm nb l W' (i+1))
 |[],[],_=>some []
 |_,_,_=>none
def Gc (nt:Nat):List Oper->Acc D->List (Nat×AV)->Option (List (Nat×AV))
 |o::l,t::W,sl=>match caP nt o.dst t.2.x sl with
  |some sl'=>Gc nt l W sl'
  |none=>none
 |_,_,sl=>some sl
def catW:Acc D->Ws D->Ws D
 |[],m=>m
 |t::W,m=>catW W (jK t.2.ws m)
def KD (S:Stat D) (T:Tab D) (CF YF:cz D) (nt:Nat) (base:ct D) (ops:List Oper) (st:St D):Option (St D×List Prop) :=
 match cjn ops 0 with
 |false=>none
 |true=>match Yg S T CF YF (cje [] ops) ops (fun t=>find t st.sl) (over base st.m) st.nb ops 0 st.nb [] with
  |none=>none
  |some (W,n,ob)=>match cfx (cje [] ops) ops W (fun t=>find t st.sl) (over base st.m) st.nb ops W 0 with
   |none=>none
   |some ob2=>match Gc nt ops W st.sl with
    |some sl=>some (⟨n,sl,jK (catW W []) st.m,st.ms⟩,ob2++ob)
    |none=>none
section
variable {pres:List Nat}
theorem ccU {i j:Nat}(h:Gu pres i j=false):i=j\/(pres.getD i 0).testBit j=true\/(pres.getD j 0).testBit i=true:=by
 unfold Gu at h;split at h
 ·rename_i hb;exact .inl (cn hb)
 ·split at h
  ·rename_i hb;exact .inr (.inl hb)
  ·split at h
   ·rename_i hb;exact .inr (.inr hb)
   ·cases h
theorem cdC {i j:Nat}(h1:i≠j) (h2:(pres.getD i 0).testBit j=false) (h3:(pres.getD j 0).testBit i=false):Gu pres i j=true:=by
 unfold Gu;have:Nat.beq i j=false:=by
  cases h:Nat.beq i j with
  |false=>rfl
  |true=>exact absurd (cn h) h1
 simp [this];rw[List.getD] at h2 h3;simp [h2,h3]
theorem um {p:Nat->Bool}{b:Nat}:∀ {W:Acc D}{j:Nat}{cur:Option (kU D)},jd p b W j cur=(match jd p b W j none with|some o=>some o|none=>cur)
 |[],j,cur=>rfl
 |t::W,j,cur=>by
  unfold jd;split
  ·split
   ·rw[um];cases jd p b W (j+1) none<;>rfl
   ·exact um
  ·exact um
theorem Ex {p q:Nat->Bool}{b:Nat}:∀ {W:Acc D}{j:Nat}{cur:Option (kU D)},(∀ x t,W[x]?=some t->find b t.2.ws≠none->p (j+x)=q (j+x))->jd p b W j cur=jd q b W j cur
 |[],j,cur,_=>rfl
 |t::W,j,cur,h=>by
  have hr:∀ cur,jd p b W (j+1) cur=jd q b W (j+1) cur:=fun cur=>Ex (fun x t' hx hf=>by
   have:=h (x+1) t' (by simpa using hx) hf;rw[show j+1+x=j+(x+1) by omega];exact this)
  unfold jd;cases hf:find b t.2.ws with
  |none =>
   simp only[];rw[hr];cases p j<;>cases q j<;>rfl
  |some o =>
   have:=h 0 t (by simp) (by rw[hf];simp);rw[jz] at this;rw[this];simp only[];rw[hr,hr]
theorem UI {p:Nat->Bool}{b:Nat}:∀ {W:Acc D}{j i:Nat}{cur:Option (kU D)},(∀ x,j+i<=x->p x=false)->jd p b (W.take i) j cur=jd p b W j cur
 |[],j,i,cur,_=>by simp
 |t::W,j,0,cur,h=>by
  have:∀ (W:Acc D) (j:Nat),(∀ x,j<=x->p x=false)->jd p b W j cur=cur:=by
   intro W
   induction W with
   |nil=>intro j _;rfl
   |cons t W ih =>
    intro j hj;unfold jd;rw[hj j (cb _)];exact ih (j+1) (fun x hx=>hj x (by omega))
  rw[this (t::W) j (fun x hx=>h x (by omega))];rfl
 |t::W,j,i+1,cur,h=>by
  have hr:∀ cur,jd p b (W.take i) (j+1) cur=jd p b W (j+1) cur:=fun cur=>UI (fun x hx=>h x (by omega));rw[Kz];unfold jd;simp only[hr]
theorem UF {p:Nat->Bool}{b i:Nat}{o:kU D}:∀ {W:Acc D}{j:Nat}{cur:Option (kU D)}{t:Nat×Out D},W[i]?=some t->p (j+i)=true->find b t.2.ws=some o->(∀ x t',i<x->W[x]?=some t'->p (j+x)=true->find b t'.2.ws=none)->jd p b W j cur=some o:=by
 intro W
 induction W generalizing i with
 |nil=>intro j cur t h;simp at h
 |cons t0 W ih =>
  intro j cur t h hp hf hx;cases i with
  |zero =>
   simp at h;subst h;unfold jd;rw[jz] at hp;rw[hp,hf];simp only[];have:∀ (W:Acc D) (j:Nat) (cur:Option (kU D)),(∀ x t',W[x]?=some t'->p (j+x)=true->find b t'.2.ws=none)->jd p b W j cur=cur:=by
    intro W
    induction W with
    |nil=>intro j cur _;rfl
    |cons t W ih =>
     intro j cur hj;unfold jd;have hr:=ih (j+1) cur (fun x t' h1 h2=>hj (x+1) t' (by simpa using h1) (by rw[show j+(x+1)=j+1+x by omega];exact h2));cases hpj:p j with
     |true =>
      have:=hj 0 t (by simp) (by simpa using hpj);simp only[this];exact hr
     |false=>exact hr
   exact this W (j+1) _ (fun x t' h1 h2=>hx (x+1) t' (by omega) (by simpa using h1) (by rw[show j+(x+1)=j+1+x by omega];exact h2))
  |succ i =>
   have hr:∀ cur,jd p b W (j+1) cur=some o:=fun cur=>ih (by simpa using h) (by rw[show j+1+i=j+(i+1) by omega];exact hp) hf (fun x t' h1 h2 h3=>hx (x+1) t' (by omega) (by simpa using h2) (by rw[show j+(x+1)=j+1+x by omega];exact h3));unfold jd;simp only[hr];cases p j<;>simp only[]<;>cases find b t0.2.ws<;>rfl
theorem yT {p q:Nat->Bool}{t:Nat}:∀ {ops:List Oper}{W:Acc D}{j:Nat}{cur:Option AV},(∀ x o,ops[x]?=some o->o.dst=some t->p (j+x)=q (j+x))->cW p t ops W j cur=cW q t ops W j cur
 |[],W,j,cur,_=>by simp [cW]
 |o::ops,[],j,cur,_=>by simp [cW]
 |o::ops,x::W,j,cur,h=>by
  have hr:∀ cur,cW p t ops W (j+1) cur=cW q t ops W (j+1) cur:=fun cur=>yT (fun x o' hx hd=>by
   have:=h (x+1) o' (by simpa using hx) hd;rw[show j+1+x=j+(x+1) by omega];exact this)
  unfold cW;simp only[hr];cases hd:o.dst with
  |none=>simp only[];cases p j<;>cases q j<;>rfl
  |some d =>
   simp only[];cases hb:Nat.beq d t with
   |true =>
    have:=h 0 o (by simp) (by rw[hd,cn hb]);rw[jz] at this;rw[this]
   |false=>simp only[];cases p j<;>cases q j<;>rfl
theorem EC {p:Nat->Bool}{t:Nat}:∀ {ops:List Oper}{W:Acc D}{j i:Nat}{cur:Option AV},(∀ x,j+i<=x->p x=false)->cW p t ops (W.take i) j cur=cW p t ops W j cur
 |[],W,j,i,cur,_=>by simp [cW]
 |o::ops,[],j,i,cur,_=>by simp [cW]
 |o::ops,x::W,j,0,cur,h=>by
  have:∀ (ops:List Oper) (W:Acc D) (j:Nat),(∀ x,j<=x->p x=false)->cW p t ops W j cur=cur:=by
   intro ops
   induction ops with
   |nil=>intro W j _;simp [cW]
   |cons o ops ih =>
    intro W j hj;cases W with
    |nil=>simp [cW]
    |cons x W =>
     unfold cW;rw[hj j (cb _)];exact ih W (j+1) (fun x hx=>hj x (by omega))
  rw[this (o::ops) (x::W) j (fun x hx=>h x (by omega))];simp [cW]
 |o::ops,x::W,j,i+1,cur,h=>by
  have hr:∀ cur,cW p t ops (W.take i) (j+1) cur=cW p t ops W (j+1) cur:=fun cur=>EC (fun x hx=>h x (by omega));rw[Kz];unfold cW;simp only[hr]
theorem cbJ {p:Nat->Bool}{t i:Nat}{o:Oper}{x:Nat×Out D}:∀ {ops:List Oper}{W:Acc D}{j:Nat}{cur:Option AV},ops[i]?=some o->W[i]?=some x->p (j+i)=true->o.dst=some t->(∀ y o',i<y->ops[y]?=some o'->p (j+y)=true->o'.dst≠some t)->cW p t ops W j cur=some x.2.x:=by
 intro ops
 induction ops generalizing i with
 |nil=>intro W j cur h;simp at h
 |cons o0 ops ih =>
  intro W j cur h hw hp hd hx;cases W with
  |nil=>simp at hw
  |cons w0 W =>
   cases i with
   |zero =>
    simp at h hw;subst h;subst hw;unfold cW;rw[jz] at hp;rw[hp,hd];simp only[Nat.beq_refl];have:∀ (ops:List Oper) (W:Acc D) (j:Nat) (cur:Option AV),(∀ y o',ops[y]?=some o'->p (j+y)=true->o'.dst≠some t)->cW p t ops W j cur=cur:=by
     intro ops
     induction ops with
     |nil=>intro W j cur _;simp [cW]
     |cons o ops ih =>
      intro W j cur hj;cases W with
      |nil=>simp [cW]
      |cons x W =>
       unfold cW;have hr:=ih W (j+1) cur (fun y o' h1 h2=>hj (y+1) o' (by simpa using h1) (by rw[show j+(y+1)=j+1+y by omega];exact h2));cases hpj:p j with
       |true =>
        have:=hj 0 o (by simp) (by simpa using hpj);simp only[];cases hod:o.dst with
        |none=>exact hr
        |some d =>
         simp only[];cases hb:Nat.beq d t with
         |true=>exact absurd (by rw[hod,cn hb]) this
         |false=>exact hr
       |false=>exact hr
    exact this ops W (j+1) _ (fun y o' h1 h2=>hx (y+1) o' (by omega) (by simpa using h1) (by rw[show j+(y+1)=j+1+y by omega];exact h2))
   |succ i =>
    have hr:∀ cur,cW p t ops W (j+1) cur=some x.2.x:=fun cur=>ih (by simpa using h) (by simpa using hw) (by rw[show j+1+i=j+(i+1) by omega];exact hp) hd (fun y o' h1 h2 h3=>hx (y+1) o' (by omega) (by simpa using h2) (by rw[show j+(y+1)=j+1+y by omega];exact h3));unfold cW;simp only[hr];cases p j<;>simp only[];cases o0.dst with
    |none=>rfl
    |some d=>simp only[];cases Nat.beq d t<;>rfl
theorem EB {i t:Nat}:∀ {l:List Oper}{j:Nat},Eb pres i t l j=false->∀ x o,l[x]?=some o->o.dst=some t->Gu pres i (j+x)=false
 |[],j,_,x,o,h=>by simp at h
 |o0::l,j,hc,x,o,h=>by
  intro hd;unfold Eb at hc;cases x with
  |zero =>
   simp at h;subst h;rw[hd] at hc;simp only[Nat.beq_refl] at hc;rw[jz];split at hc
   ·cases hc
   ·rename_i hu;exact hu
  |succ x =>
   have hr:Eb pres i t l (j+1)=false:=by
    split at hc
    ·split at hc
     ·split at hc
      ·cases hc
      ·exact hc
     ·exact hc
    ·exact hc
   have:=EB hr x o (by simpa using h) hd;rw[show j+(x+1)=j+1+x by omega];exact this
theorem Gj {p:Nat->Bool}{b:Nat}:∀ {W:Acc D}{j:Nat},jd p b W j none=none->∀ x t,W[x]?=some t->p (j+x)=true->find b t.2.ws=none
 |[],j,_,x,t,h=>by simp at h
 |t0::W,j,hg,x,t,h=>by
  intro hp;unfold jd at hg;cases x with
  |zero =>
   simp at h;subst h;rw[jz] at hp;rw[hp] at hg;simp only at hg;split at hg
   ·rw[um] at hg;split at hg<;>cases hg
   ·assumption
  |succ x =>
   have hr:jd p b W (j+1) none=none:=by
    split at hg
    ·split at hg
     ·rw[um] at hg;split at hg<;>cases hg
     ·exact hg
    ·exact hg
   exact Gj hr x t (by simpa using h) (by rw[show j+1+x=j+(x+1) by omega];exact hp)
theorem Jj {a b:Option (List Prop)}{ob:List Prop}(h:catO a b=some ob) (ho:cX ob):∃ x y,a=some x/\b=some y/\cX x/\cX y:=by
 unfold catO at h;split at h
 ·injection h with h;subst h
  exact⟨_,_,rfl,rfl,ho.append.1,ho.append.2⟩
 ·cases h
theorem chR {o o':kU D}{ob:List Prop}(h:weakO o o'=some ob) (ho:cX ob) {C:Ctx D}{e:Env}{w:World}{b:Nat}(hh:cjg C e w b o):cjg C e w b o':=by
 unfold weakO at h;split at h
 ·split at h
  ·rename_i hn;obtain rfl:=cn hn;injection h with h;subst h
   obtain⟨rfl,hg,_⟩:=ho;obtain⟨kk,arr,ck,l,p1,p2,p3,p4,p5,p6⟩:=hh;exact⟨kk,arr,ck,l,p1,p2,p3,p4,⟨p5.ents,p5.wide,p5.born,p5.apart,fun k=>(p5.val k).trans (hg k)⟩,fun _ _ h=>by cases h⟩
  ·cases h
 ·cases h
def Weak (M:ct D) (b:Nat) (o:kU D):Prop:=∀ o',M b=some o'->∀ (C:Ctx D) (e:Env) (w:World),cjg C e w b o->cjg C e w b o'
theorem JC {M:ct D}{ws:Ws D}:∀ {l:Ws D}{ob:List Prop},Kq M ws l=some ob->cX ob->∀ b o,find b l=some o->Weak M b o/\find b ws=none
 |[],_,_,_,b,o,h=>by simp [cP,cC] at h
 |p::l,ob,hc,ho,b,o,h=>by
  unfold Kq at hc;split at hc
  ·cases hc
  rename_i hm;rw[cC] at h;split at hc
  ·rename_i o1 hM;obtain⟨x,y,h1,h2,h3,h4⟩:=Jj hc ho;split at h
   ·rename_i hb;injection h with h;subst h
    obtain rfl:=cn hb;refine⟨fun o' ho' C e w hh=>?_,KN hm⟩;rw[hM] at ho';injection ho' with ho';subst ho'
    exact chR h1 h3 hh
   ·exact JC h2 h4 b o h
  ·rename_i hM;split at h
   ·rename_i hb;obtain rfl:=cn hb;exact⟨fun o' ho'=>(by rw[hM] at ho';cases ho'),KN hm⟩
   ·exact JC hc ho b o h
theorem ZE {M:ct D}{ws:Ws D}{i:Nat}:∀ {W:Acc D}{j:Nat}{ob:List Prop},Gg pres M ws i W j=some ob->cX ob->∀ x t,W[x]?=some t->Gu pres i (j+x)=true->∀ b o,find b t.2.ws=some o->Weak M b o/\find b ws=none
 |[],j,_,_,_,x,t,h=>by simp at h
 |t0::W,j,ob,hp,ho,x,t,h=>by
  intro hu;unfold Gg at hp;cases x with
  |zero =>
   simp at h;subst h;rw[jz] at hu;split at hp
   ·rename_i he;intro b o hb;rw[he,cP] at hb;cases hb
   ·rename_i p l he;rw[hu] at hp;simp only at hp;obtain⟨x,y,h1,h2,h3,h4⟩:=Jj hp ho;rw[he];exact JC h1 h3
  |succ x =>
   have hr:∃ ob',Gg pres M ws i W (j+1)=some ob'/\cX ob':=by
    split at hp
    ·exact⟨ob,hp,ho⟩
    ·split at hp
     ·obtain⟨x,y,h1,h2,h3,h4⟩:=Jj hp ho;exact⟨y,h2,h4⟩
     ·exact⟨ob,hp,ho⟩
   obtain⟨ob',hr,ho'⟩:=hr;exact ZE hr ho' x t (by simpa using h) (by rw[show j+1+x=j+(x+1) by omega];exact hu)
theorem ccT {ops:List Oper}{W:Acc D}{bs:cR}{bm:ct D}{nb:Nat}:∀ {l:List Oper}{W':Acc D}{i:Nat}{ob:List Prop},cfx pres ops W bs bm nb l W' i=some ob->cX ob->∀ x o t,l[x]?=some o->W'[x]?=some t->(∀ d,o.dst=some d->Eb pres (i+x) d ops 0=false)/\∃ ob',Gg pres (UM pres W bm nb (i+x) (looks (CO pres ops W bs (i+x)) (Zf pres W bm nb (i+x)) o)) t.2.ws (i+x) W 0=some ob'/\cX ob'
 |[],W',i,_,_,_,x,o,t,h=>by simp at h
 |o0::l,[],i,_,_,_,x,o,t,h=>by intro h2;simp at h2
 |o0::l,t0::W',i,ob,hp,ho,x,o,t,h=>by
  intro h2;unfold cfx at hp;split at hp
  ·cases hp
  ·rename_i hd;obtain⟨y,z,h3,h4,h5,h6⟩:=Jj hp ho;cases x with
   |zero =>
    simp at h h2;subst h;subst h2;rw[jz];exact⟨fun d hd'=>by rw[hd'] at hd;exact hd,y,h3,h5⟩
   |succ x =>
    have:=ccT h4 h6 x o t (by simpa using h) (by simpa using h2);rw[show i+(x+1)=i+1+x by omega];exact this
theorem GC {p:Nat->Bool}{b:Nat}{o:kU D}:∀ {W:Acc D}{j:Nat},jd p b W j none=some o->∃ x t,W[x]?=some t/\p (j+x)=true/\find b t.2.ws=some o/\∀ y t',x<y->W[y]?=some t'->p (j+y)=true->find b t'.2.ws=none
 |[],j,h=>by cases h
 |t::W,j,h=>by
  have up:∀ o',jd p b W (j+1) none=some o'->∃ x t',(t::W)[x]?=some t'/\p (j+x)=true/\find b t'.2.ws=some o'/\∀ y t',x<y->(t::W)[y]?=some t'->p (j+y)=true->find b t'.2.ws=none:=by
   intro o' h;obtain⟨x,t',h1,h2,h3,h4⟩:=GC h;refine⟨x+1,t',by simpa using h1,by rw[show j+(x+1)=j+1+x by omega];exact h2,h3,fun y t2 hy h5 h6=>?_⟩;obtain⟨z,rfl⟩:∃ z,y=z+1:=⟨y-1,by omega⟩;exact h4 z t2 (by omega) (by simpa using h5) (by rw[show j+1+z=j+(z+1) by omega];exact h6)
  unfold jd at h;split at h
  ·rename_i hj;split at h
   ·rename_i o1 hf;rw[um] at h;split at h
    ·rename_i o2 h2;injection h with h;subst h
     exact up _ h2
    ·rename_i hn;injection h with h;subst h
     refine⟨0,t,rfl,hj,hf,fun y t' hy h5 h6=>?_⟩;obtain⟨z,rfl⟩:∃ z,y=z+1:=⟨y-1,by omega⟩;cases hz:find b t'.2.ws with
     |none=>rfl
     |some o3 =>
      exfalso;have:=Gj (p:=p) (b:=b) hn z t' (by simpa using h5) (by rw[show j+1+z=j+(z+1) by omega];exact h6);rw[hz] at this;cases this
   ·exact up _ h
  ·exact up _ h
theorem ZG {b:Nat}:∀ {W:Acc D}{j:Nat}{m:Ws D},find b (catW W m)=(match jd (fun _=>true) b W j none with|some o=>some o|none=>find b m)
 |[],j,m=>rfl
 |t::W,j,m=>by
  unfold catW jd;rw[ZG (j:=j+1),uP];simp only[];cases hf:find b t.2.ws with
  |none=>rfl
  |some o =>
   simp only[];rw[um (cur:=some o)];cases jd (fun _=>true) b W (j+1) none<;>rfl
def KY (dst:Option Tmp) (x:AV) (t:Nat) (cur:Option AV):Option AV :=
 match dst with
 |some d=>match Nat.beq d t with
  |true=>some x
  |false=>cur
 |none=>cur
theorem cgl {nt:Nat}{dst:Option Tmp}{x:AV}{sl sl':List (Nat×AV)}(h:caP nt dst x sl=some sl') (t:Nat):find t sl'=KY dst x t (find t sl):=by
 unfold caP at h;unfold KY;cases dst with
 |none=>injection h with h;subst h;rfl
 |some d =>
  simp only at h;split at h
  ·injection h with h;subst h
   rw[uP];simp only[cP,cC];cases Nat.beq d t<;>rfl
  ·cases h
theorem UQ {nt:Nat}{t:Nat}:∀ {l:List Oper}{W:Acc D}{j:Nat}{sl sl':List (Nat×AV)},Gc nt l W sl=some sl'->find t sl'=cW (fun _=>true) t l W j (find t sl)
 |[],W,j,sl,sl',h=>by
  simp only[Gc,kC] at h;subst h;simp [cW]
 |o::l,[],j,sl,sl',h=>by
  simp only[Gc,kC] at h;subst h;simp [cW]
 |o::l,x::W,j,sl,sl',h=>by
  simp only[Gc] at h;split at h
  ·rename_i sl1 hs;rw[UQ (j:=j+1) h,cgl hs];unfold KY
   conv=>rhs;unfold cW
   simp only[];cases o.dst with
   |none=>rfl
   |some d=>simp only[];cases Nat.beq d t<;>rfl
  ·cases h
theorem cas {nt:Nat}:∀ {l:List Oper}{W:Acc D}{sl sl':List (Nat×AV)},Gc nt l W sl=some sl'->∀ (x:Nat) (o:Oper) (t:Nat×Out D),l[x]?=some o->W[x]?=some t->∀ d,o.dst=some d->d<nt
 |[],W,sl,sl',_,x,o,t,h=>by simp at h
 |o0::l,[],sl,sl',_,x,o,t,h=>by intro h2;simp at h2
 |o0::l,x0::W,sl,sl',hp,x,o,t,h=>by
  intro h2 d hd;simp only[Gc] at hp;split at hp
  ·rename_i sl1 hs;cases x with
   |zero =>
    simp at h;subst h;unfold caP at hs;rw[hd] at hs;simp only at hs;split at hs
    ·rename_i hlt;exact cjh hlt
    ·cases hs
   |succ x=>exact cas hp x o t (by simpa using h) (by simpa using h2) d hd
  ·cases hp
end
variable {D:Type}
section
variable {S:Stat D}{T:Tab D}{CF YF:cz D}{pres:List Nat}{ops:List Oper}{bs:cR}{bm:ct D}{nb:Nat}
theorem Gn (hF:CF.Mono) (hYF:YF.Mono):∀ {l:List Oper}{i n n':Nat}{acc W:Acc D}{ob:List Prop},Yg S T CF YF pres ops bs bm nb l i n acc=some (W,n',ob)->acc.length=i->
 (∃ r,W=acc++r)/\W.length=i+l.length/\n<=n'/\
 (∀ j o,l[j]?=some o->∃ n1 t,W[i+j]?=some (n1,t)/\Yc S T CF YF (CO pres ops (W.take (i+j)) bs (i+j)) (UM pres (W.take (i+j)) bm nb (i+j) (looks (CO pres ops (W.take (i+j)) bs (i+j)) (Zf pres (W.take (i+j)) bm nb (i+j)) o)) n1 ops o=some t/\n<=n1/\t.n1<=n'/\(cX ob->cX t.ob))/\
 (∀ (j k:Nat) (tj tk:Nat×Out D),i<=j->j<k->W[j]?=some tj->W[k]?=some tk->tj.2.n1<=tk.1)
 |[],i,n,n',acc,W,ob,h,hl=>by
  simp only[Yg,kC,co] at h;obtain⟨rfl,rfl,rfl⟩:=h;refine⟨⟨[],by simp⟩,by simp [hl],cb _,fun j o h=>by simp at h,fun j k tj tk hij hjk hj hk=>?_⟩;have:=(List.getElem?_eq_some_iff.1 hj).1;omega
 |o::l,i,n,n',acc,W,ob,h,hl=>by
  simp only[Yg] at h;split at h
  ·rename_i t ht;split at h
   ·rename_i W1 n1 ob1 hrest;injection h with h
    simp only[co] at h;obtain⟨rfl,rfl,rfl⟩:=h;obtain⟨⟨r,hr⟩,h2,h3,h4,h5⟩:=Gn hF hYF hrest (by simp [hl]);have hle:=cdm hF hYF ht;have hWi:W1[i]?=some (n,t):=by
     rw[hr,uU,Yp (by omega)];simp [hl]
    have htk:W1.take i=acc:=by
     rw[hr,uU,WN (by omega),kH (by omega)]
    refine⟨⟨(n,t)::r,by rw[hr];simp⟩,by rw[h2];simp;omega,cB hle h3,?_,?_⟩
    ·intro j o' hj;cases j with
     |zero =>
      simp at hj;subst hj;refine⟨n,t,hWi,?_,cb _,h3,fun ha=>(cX.append ha).1⟩;rw[jz,htk];exact ht
     |succ j =>
      obtain⟨n2,t2,q1,q2,q3,q4,q5⟩:=h4 j o' (by simpa using hj);rw[show i+1+j=i+(j+1) by omega] at q1 q2;exact⟨n2,t2,q1,q2,by omega,q4,fun ha=>q5 (cX.append ha).2⟩
    ·intro j k tj tk hij hjk hj hk;rcases jj i j with hlt|hge
     ·exact h5 j k tj tk hlt hjk hj hk
     ·have:j=i:=by omega
      subst this;rw[hWi] at hj;injection hj with hj
      subst hj;obtain⟨x,rfl⟩:∃ x,k=j+1+x:=⟨k-(j+1),by omega⟩;have hx:x<l.length:=by
       have:=(List.getElem?_eq_some_iff.1 hk).1;omega
      obtain⟨n2,t2,q1,q2,q3,q4,q5⟩:=h4 x l[x] (jl hx);rw[hk] at q1;injection q1 with q1
      subst q1;exact q3
   ·cases h
  ·cases h
end
structure Inv (C : Ctx D) (nt : Nat) (e : Env) (w : World) (ops : Array Oper) (W : Acc D) (base : cR) (ds : List Deferred) (l : Array Bool) (a' : Act) (w' : World) : Prop where
  size : l.size = ops.size
  down : ∀ i, l.getD i false = true → ∀ j, ((cje [] ops.toList).getD i 0).testBit j = true → l.getD j false = true
  defers : a'.defers = ds
  tmps : a'.tmps.size = nt
  ex : ∃ e', Adv e w e' w' ∧ Kv C e' w' ∧
    ((∀ b k, e'.ρ b = some k → e.ρ b = some k ∨ ∃ j t, W[j]? = some t ∧ l.getD j false = true ∧ t.1 ≤ b ∧ b < t.2.n1) ∧
     (∀ b k, e'.ν b = some k → e.ν b = some k ∨ ∃ j t, W[j]? = some t ∧ l.getD j false = true ∧ t.1 ≤ b ∧ b < t.2.n1) ∧
     (∀ b k, e'.φ b = some k → e.φ b = some k ∨ ∃ j t, W[j]? = some t ∧ l.getD j false = true ∧ t.1 ≤ b ∧ b < t.2.n1)) ∧
    (∀ b o, jd (fun j => l.getD j false) b W 0 none = some o → cjg C e' w' b o) ∧
    (∀ b o, cjg C e w b o → jd (fun j => l.getD j false) b W 0 none = none → cjg C e' w' b o) ∧
    cN e' a' (fun t => cW (fun j => l.getD j false) t ops.toList W 0 (base t))
theorem yy {l:Array Bool}{i j:Nat}(hi:i<l.size):(l.setIfInBounds i true).getD j false=if j=i then true else l.getD j false:=by
 simp only[WG,lemZ7];by_cases h:j=i
 ·subst h;simp [hi]
 ·rw[cf (fun e=>h e.symm),cf h]
section
variable {F:Fence}{m:Nat}
variable {C:Ctx D}{e0 e:Env}{w0 w w':World}{a:Act}{T:Tab D}{CF YF:cz D}{n0 nt:Nat}{base:ct D}{Q:Exit->Act->World->Prop}{ops:Array Oper}
theorem cer (hW:Wd F) (hC:C.Ok) (hT:T.Ok C) (hF:CF.Ok C) (hFm:CF.Mono) (hY:uy C YF) (hYm:YF.Mono) (hb:cA C e0 w0 base) {rid:Nat}{st st':St D}{ob:List Prop}(h:KD C.toStat T CF YF nt base ops.toList st=some (st',ob)) (ho:cX ob) (hf:jC n0 st'.nb e0)
 (hQ:∀ a w,Sat C nt e0 w0 n0 st' a w->Q .normal a w) {a:Act} {w:World} (hs:Sat C nt e0 w0 n0 st a w):(Code.region rid ops true).wpIn F m C.P Q a w:=by
 unfold KD at h;split at h
 ·cases h
 rename_i hord;split at h
 ·cases h
 rename_i W n ob' hgo;split at h
 ·cases h
 rename_i hpairs;split at h
 rotate_left
 ·cases h
 rename_i sl hput;injection h with h
 injection h with h h'
 subst h;subst h';obtain⟨_,hWl,hnn,hWs,hdis⟩:=Gn hFm hYm hgo rfl;simp only[jb] at hWl hWs;obtain⟨⟨e,hL,hV,rs,hdf,hmk⟩,hsz⟩:=hs;have hlen:ops.toList.length=ops.size:=by simp
 have hbd:Below w.heap.size w { w with drawn:=w.drawn+1 }:=⟨rfl,rfl,rfl,cb _,fun _ _=>rfl⟩;have hLd:jM C e0 w0 n0 st.nb st.m e { w with drawn:=w.drawn+1 }:=by
  have:=hL.trans (jM.below hL.good hbd st.nb);exact this
 generalize hwd:({ w with drawn:=w.drawn+1 }:World)=wd at hLd;have hM:=kn hb hLd;have hFree:jC st.nb n e:=(hf.new (hLd.new.mono (cb _) (cb _)) hLd.le);refine wpIn_region_any hC.mixed ?_;rw[hwd];refine any_inv (Inv C nt e wd ops W (fun t=>find t st.sl) a.defers) ?_ ?_ ops.size _ a _ (by simp) (by unfold cbO;simp) ?_
 ·-- a step
  intro l a1 w1 i hls hI hrdy;obtain⟨hsz1,hdown,hdf1,htm1,e1,hadv,hgood,⟨hρ,hν,hφ⟩,hw1,hk1,hs1⟩:=hI;have hfalse':=GJ hrdy;have hil:i<l.size:=by
   rcases jj i l.size with h|h
   ·exact h
   ·simp [lemZ4 h] at hfalse'
  have hfalse:l.getD i false=false:=by simp [WG,hfalse']
  obtain⟨_,o,hio,hr⟩:=mem_ready.1 hrdy;have hiol:ops.toList[i]?=some o:=by simpa using hio
  obtain⟨ni,t,hWi,hstep,hni,hti,hobt⟩:=hWs i o hiol;obtain⟨hclash,obi,hpi,hobi⟩:=ccT hpairs ho.append.1 i o (ni,t) hiol hWi;simp only[jb] at hclash hpi;have hpi:=fun x t' h1 h2=>ZE hpi hobi x t' h1 (by simpa using h2);have hilen:i<ops.toList.length:=by omega
  have hpre:∀ j,((cje [] ops.toList).getD i 0).testBit j=true->l.getD j false=true:=by
   intro j hj;obtain⟨ed,h4,h5,h6⟩:=Ga ops.toList [] i o hiol j (by simpa using hj);have h7:=hr ed (by simpa using h4) h5;rcases h6 with rfl|h6
   ·exact h7
   ·exact hdown ed.on h7 j h6
  have hpost:∀ j,((cje [] ops.toList).getD j 0).testBit i=true->l.getD j false=false:=by
   intro j hj;cases hlj:l.getD j false with
   |false=>rfl
   |true =>
    have:=hdown j hlj i hj;rw[hfalse] at this;cases this
  have hpii:∀ x,i<=x->((cje [] ops.toList).getD i 0).testBit x=false:=by
   intro x hx;cases hb:((cje [] ops.toList).getD i 0).testBit x with
   |false=>rfl
   |true=>have:=pre_lt hord i hilen x hb;omega
  have hcong:∀ j,Gu (cje [] ops.toList) i j=false->((cje [] ops.toList).getD i 0).testBit j=l.getD j false:=by
   intro j hu;rcases ccU hu with h|h|h
   ·subst h;rw[hfalse,hpii i (cb _)]
   ·rw[h,hpre j h]
   ·rw[hpost j h];cases hb:((cje [] ops.toList).getD i 0).testBit j with
    |false=>rfl
    |true =>
     have h1:=hpre j hb;rw[hpost j h] at h1;cases h1
  have hVi:cN e1 a1 (CO (cje [] ops.toList) ops.toList (W.take i) (fun t=>find t st.sl) i):=by
   intro tt x hx;unfold CO at hx;split at hx
   ·cases hx
   ·rename_i hcl;rw[EC (fun x hx=>hpii x (by omega))] at hx;rw[yT (q:=fun j=>l.getD j false) (fun x o' h1 h2=>by
     have:=EB hcl x o' h1 h2;rw[jb] at this ⊢;exact hcong x this)] at hx
    exact hs1 tt x hx
  have hraw:Zf (cje [] ops.toList) (W.take i) (over base st.m) st.nb i=Zf (cje [] ops.toList) W (over base st.m) st.nb i:=by
   funext b;exact UI (fun x hx=>hpii x (by omega))
  have hvs:CO (cje [] ops.toList) ops.toList (W.take i) (fun t=>find t st.sl) i=CO (cje [] ops.toList) ops.toList W (fun t=>find t st.sl) i:=by
   funext t;unfold CO;split
   ·rfl
   ·exact EC (fun x hx=>hpii x (by omega))
  have hMi:cA C e1 w1 (UM (cje [] ops.toList) (W.take i) (over base st.m) st.nb i (looks (CO (cje [] ops.toList) ops.toList (W.take i) (fun t=>find t st.sl) i) (Zf (cje [] ops.toList) (W.take i) (over base st.m) st.nb i) o)):=by
   intro b ob1 hob;rw[hvs,hraw] at hob;have hnone:UM (cje [] ops.toList) W (over base st.m) st.nb i (looks (CO (cje [] ops.toList) ops.toList W (fun t=>find t st.sl) i) (Zf (cje [] ops.toList) W (over base st.m) st.nb i) o) b=some ob1:=by
    unfold UM at hob ⊢
    rwa [hraw] at hob
   have hg:jd ((cje [] ops.toList).getD i 0).testBit b W 0 (match Nat.ble st.nb b with|true=>none|false=>over base st.m b)=some ob1:=by
    unfold UM Zf at hnone;split at hnone
    ·rename_i ty cs z hq;split at hnone
     ·cases hnone
     ·injection hnone with hnone;subst hnone;exact hq
    ·rename_i ty z n g hq;split at hnone
     ·cases hnone
     ·injection hnone with hnone;subst hnone;exact hq
    ·rename_i es ck hq;split at hnone
     ·cases hnone
     ·injection hnone with hnone;subst hnone;exact hq
    ·rename_i nk vk g pe hq;split at hnone
     ·cases hnone
     ·injection hnone with hnone;subst hnone;exact hq
    ·cases hnone
    ·exact hnone
   cases hl:jd (fun j=>l.getD j false) b W 0 none with
   |some o2 =>
    obtain⟨x,t',h1,h2,h3,h4⟩:=GC hl;simp only[jb] at h2 h4;have ho2:=hw1 b o2 hl;cases hu:Gu (cje [] ops.toList) i x with
    |true=>exact(hpi x t' h1 hu b o2 h3).1 ob1 hnone C e1 w1 ho2
    |false =>
     have hpx:((cje [] ops.toList).getD i 0).testBit x=true:=(hcong x hu).trans h2;rw[UF h1 (by rw[jb];exact hpx) h3 (fun y t2 hy h5 h6=>h4 y t2 hy h5 (hpre y (by rw[jb] at h6;exact h6)))] at hg;injection hg with hg;subst hg
     exact ho2
   |none =>
    have hn:jd ((cje [] ops.toList).getD i 0).testBit b W 0 none=none:=by
     cases hg2:jd ((cje [] ops.toList).getD i 0).testBit b W 0 none with
     |none=>rfl
     |some o3 =>
      exfalso;obtain⟨x,t',h1,h2,h3,_⟩:=GC hg2;rw[jb] at h2;have:=Gj hl x t' h1 (by simp only[jb];exact hpre x h2);rw[h3] at this;cases this
    rw[um,hn] at hg;simp only at hg;split at hg
    ·cases hg
    ·exact hk1 b ob1 (hM b ob1 hg) hl
  have hfree:jC ni t.n1 e1:=by
   intro b h1 h2;obtain⟨q1,q2,q3⟩:=hFree b (by omega) (by omega);have hno:¬ ∃ j t',W[j]?=some t'/\l.getD j false=true/\t'.1<=b/\b<t'.2.n1:=by
    rintro⟨j,t',r1,r2,r3,r4⟩;rcases Kc j i with hj|hj|hj
    ·have:=hdis j i t' (ni,t) (cQ _) hj r1 hWi;simp only at this;omega
    ·subst hj;rw[hfalse] at r2;cases r2
    ·have:=hdis i j (ni,t) t' (cQ _) hj hWi r1;simp only at this;omega
   refine⟨?_,?_,?_⟩
   ·cases hx:e1.ρ b with
    |none=>rfl
    |some x=>rcases hρ b x hx with h|h;(rw[q1] at h;cases h);exact absurd h hno
   ·cases hx:e1.ν b with
    |none=>rfl
    |some x=>rcases hν b x hx with h|h;(rw[q2] at h;cases h);exact absurd h hno
   ·cases hx:e1.φ b with
    |none=>rfl
    |some x=>rcases hφ b x hx with h|h;(rw[q3] at h;cases h);exact absurd h hno
  have hres:=ccG (F:=F) (m:=m) (Q:=Q) (K:=fun a' w'=>Inv C nt e wd ops W (fun t=>find t st.sl) a.defers (l.setIfInBounds i true) a' w') hW hC hT hF hY hVi hMi hgood hstep hfree (hobt ho.append.2) (fun v w2 hD=>by
   obtain⟨e2,hL2,hx2⟩:=hD;have hrng:∀ b,(ni<=b/\b<t.n1)->∃ j t',W[j]?=some t'/\(l.setIfInBounds i true).getD j false=true/\t'.1<=b/\b<t'.2.n1:=fun b hb=>⟨i,(ni,t),hWi,by rw[yy hil,cq rfl],hb.1,hb.2⟩;have hkeep:∀ b,(∃ j t',W[j]?=some t'/\l.getD j false=true/\t'.1<=b/\b<t'.2.n1)->∃ j t',W[j]?=some t'/\(l.setIfInBounds i true).getD j false=true/\t'.1<=b/\b<t'.2.n1:=by
    rintro b ⟨j,t',r1,r2,r3⟩;refine⟨j,t',r1,?_,r3⟩;rw[yy hil];split
    ·rfl
    ·exact r2
   have hgs:∀ b o2,find b t.ws=some o2->jd (fun j=>(l.setIfInBounds i true).getD j false) b W 0 none=some o2:=by
    intro b o2 hfb;refine UF hWi (by simp only[jb];rw[yy hil,cq rfl]) hfb ?_;intro x t' hx hWx hlx;rw[jb,yy hil,cf (by omega)] at hlx;cases hfx:find b t'.2.ws with
    |none=>rfl
    |some o3 =>
     have hu:Gu (cje [] ops.toList) i x=true:=by
      refine cdC (by omega) (hpii x (by omega)) ?_;cases hb:((cje [] ops.toList).getD x 0).testBit i with
      |false=>rfl
      |true=>rw[hpost x hb] at hlx;cases hlx
     have:=(hpi x t' hWx hu b o3 hfx).2;rw[hfb] at this;cases this
   have hgn:∀ b,find b t.ws=none->jd (fun j=>(l.setIfInBounds i true).getD j false) b W 0 none=jd (fun j=>l.getD j false) b W 0 none:=by
    intro b hfb;refine Ex (fun x t' h1 h2=>?_);simp only[jb];rw[yy hil];split
    ·rename_i hxi;subst hxi;rw[hWi] at h1;injection h1 with h1
     subst h1;exact absurd hfb h2
    ·rfl
   refine⟨by simpa using hsz1,?_,by rw[cjp,hdf1],by rw[cjr,htm1],e2,hadv.trans hL2.adv,hL2.good,⟨?_,?_,?_⟩,?_,?_,?_⟩
   ·intro x hxl j hj;rw[yy hil] at hxl ⊢;by_cases hji:j=i
    ·rw[cq hji]
    ·rw[cf hji];by_cases hxi:x=i
     ·subst hxi;exact hpre j hj
     ·rw[cf hxi] at hxl;exact hdown x hxl j hj
   ·intro b k hbk;rcases hL2.new.ρ b k hbk with h|h
    ·exact(hρ b k h).imp id (hkeep b)
    ·exact .inr (hrng b h)
   ·intro b k hbk;rcases hL2.new.ν b k hbk with h|h
    ·exact(hν b k h).imp id (hkeep b)
    ·exact .inr (hrng b h)
   ·intro b k hbk;rcases hL2.new.φ b k hbk with h|h
    ·exact(hφ b k h).imp id (hkeep b)
    ·exact .inr (hrng b h)
   ·intro b o2 hob;cases hfb:find b t.ws with
    |some o3 =>
     rw[hgs b o3 hfb] at hob;injection hob with hob;subst hob
     exact hL2.wrote b _ hfb
    |none =>
     rw[hgn b hfb] at hob;exact hL2.kept b o2 (hw1 b o2 hob) hfb
   ·intro b o2 hob hn;cases hfb:find b t.ws with
    |some o3 =>
     rw[hgs b o3 hfb] at hn;cases hn
    |none =>
     rw[hgn b hfb] at hn;exact hL2.kept b o2 (hk1 b o2 hob hn) hfb
   ·intro tt x hx;have hx:cW (fun j=>(l.setIfInBounds i true).getD j false) tt ops.toList W 0 (find tt st.sl)=some x:=hx;by_cases hd:o.dst=some tt
    ·have:=cbJ (p:=fun j=>(l.setIfInBounds i true).getD j false) (j:=0) (cur:=find tt st.sl) hiol hWi (by simp only[jb];rw[yy hil,cq rfl]) hd (fun y o' h1 h2 h3 h4=>by
      rw[jb,yy hil,cf (by omega)] at h3;have hu:=EB (hclash tt hd) y o' h2 h4;rw[jb] at hu;have h5:=hcong y hu;rw[h3,hpii y (by omega)] at h5;cases h5)
     rw[this] at hx;injection hx with hx;subst hx
     have hlt:=cas hput i o (ni,t) hiol hWi tt hd;rw[hd];refine⟨v,?_,hx2⟩;have:tt<a1.tmps.size:=by rw[htm1];exact hlt
     simp [Act.put,this]
    ·rw[yT (q:=fun j=>l.getD j false) (fun y o' h1 h2=>by
      rw[jb,yy hil];split
      ·rename_i hyi;subst hyi;rw[hiol] at h1;injection h1 with h1
       subst h1;exact absurd h2 hd
      ·rfl)] at hx
     obtain⟨u,h1,h2⟩:=hs1.ext hL2.adv.ext tt x hx;refine⟨u,?_,h2⟩;cases hdd:o.dst with
     |none=>exact h1
     |some d =>
      have:d≠tt:=fun h=>hd (by rw[hdd,h]);simp [Act.put,this,h1])
  unfold wpOpIn;simp only[hio];split at hres
  ·rename_i hw;rw[cq hw];exact hres
  ·rename_i hw;rw[cf hw];exact⟨fun f _=>hW.fn f,hres⟩
 ·-- the end
  intro l a1 w1 hls hI hrdy;obtain⟨hsz1,hdown,hdf1,htm1,e1,hadv,hgood,⟨hρ,hν,hφ⟩,hw1,hk1,hs1⟩:=hI;have hall:=ciR hls (fun i o hio ed hed hbi=>by
   have:=Ez hord i o (by simpa using hio) ed hed hbi;simpa using this) hrdy
  have hall':∀ i,i<ops.size->l.getD i false=true:=fun i hi=>by
   simp [WG,hall i hi]
  have hWlt:∀ x t,W[x]?=some t->x<ops.size:=fun x t hx=>by
   have:=(List.getElem?_eq_some_iff.1 hx).1;omega
  have hg:∀ b,jd (fun j=>l.getD j false) b W 0 none=jd (fun _=>true) b W 0 none:=fun b=>Ex (fun x t hx _=>by
   simp only[jb];exact hall' x (hWlt x t hx))
  have hrng:∀ b,(∃ j t,W[j]?=some t/\l.getD j false=true/\t.1<=b/\b<t.2.n1)->st.nb<=b/\b<n:=by
   rintro b ⟨j,t,r1,r2,r3,r4⟩;have hj:j<ops.toList.length:=by have:=hWlt j t r1;omega
   obtain⟨n2,t2,q1,q2,q3,q4,q5⟩:=hWs j _ (jl hj);rw[r1] at q1;injection q1 with q1
   subst q1;simp only at r3 r4;exact⟨by omega,by omega⟩
  have hcat:∀ b,find b (catW W ([]:Ws D))=jd (fun _=>true) b W 0 none:=fun b=>by
   rw[ZG (j:=0)];cases jd (fun _=>true) b W 0 none<;>rfl
  refine hQ a1 w1 ⟨⟨e1,hLd.trans (n2:=n) ⟨hnn,hadv,⟨fun b k h=>(hρ b k h).imp id (hrng b),fun b k h=>(hν b k h).imp id (hrng b),fun b k h=>(hφ b k h).imp id (hrng b)⟩,hgood,fun b o h=>?_,fun b o h1 h2=>?_⟩,?_,rs,hdf1.trans hdf,hmk.ext hadv.ext⟩,htm1⟩
  ·rw[hcat,← hg] at h;exact hw1 b o h
  ·rw[hcat,← hg] at h2;exact hk1 b o h1 h2
  ·intro tt x hx;have hx:find tt sl=some x:=hx;rw[UQ (j:=0) hput,← yT (p:=fun j=>l.getD j false) (fun y o' h1 h2=>by
    have:=(List.getElem?_eq_some_iff.1 h1).1;simp only[jb];exact hall' y (by omega))] at hx
   exact hs1 tt x hx
 ·-- the beginning
  have hf0:∀ j,(Array.replicate ops.size false).getD j false=false:=by
   intro j;simp only[WG,Array.getElem?_replicate];split<;>rfl
  have hfun:(fun j=>(Array.replicate ops.size false).getD j false)=fun _=>false:=funext hf0;have hg0:∀ b,jd (fun j=>(Array.replicate ops.size false).getD j false) b W 0 none=none:=by
   intro b;rw[hfun];have:∀ (W:Acc D) (j:Nat),jd (fun _=>false) b W j none=none:=by
    intro W
    induction W with
    |nil=>intro j;rfl
    |cons t W ih=>intro j;unfold jd;exact ih (j+1)
   exact this W 0
  have hs0:∀ (tt:Nat) (cur:Option AV),cW (fun j=>(Array.replicate ops.size false).getD j false) tt ops.toList W 0 cur=cur:=by
   intro tt cur;rw[hfun];have:∀ (ol:List Oper) (W:Acc D) (j:Nat),cW (fun _=>false) tt ol W j cur=cur:=by
    intro ol
    induction ol with
    |nil=>intro W j;simp [cW]
    |cons o ol ih =>
     intro W j;cases W with
     |nil=>simp [cW]
     |cons t W=>unfold cW;exact ih W (j+1)
   exact this _ W 0
  refine⟨by simp,fun i hi=>(by rw[hf0] at hi;cases hi),rfl,hsz,e,Adv.refl _ _,hLd.good,⟨fun _ _ h=>.inl h,fun _ _ h=>.inl h,fun _ _ h=>.inl h⟩,fun b o h=>(by rw[hg0] at h;cases h),fun b o h _=>h,?_⟩;intro tt x hx;have hx:cW (fun j=>(Array.replicate ops.size false).getD j false) tt ops.toList W 0 (find tt st.sl)=some x:=hx;rw[hs0] at hx;exact hV tt x hx
end
end Pe
end Go.Proofs.YtcgiaclelnmhbabGreatDoor
