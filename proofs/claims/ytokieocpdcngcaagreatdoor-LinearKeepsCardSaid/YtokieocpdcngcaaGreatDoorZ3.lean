/- Part 3. -/
import Derived.Test.YtokieocpdcngcaaGreatDoorZ2
set_option linter.all false
open List (append_assoc append_nil cons_append drop_drop drop_zero length_append length_drop length_take map_cons mem_cons_of_mem nil_append take_append_drop take_of_length_le)
open Nat (add_assoc add_mul add_zero eq_of_beq_eq_true le_of_lt le_refl le_succ le_trans lt_or_ge mul_le_mul_right one_mul zero_add zero_le)
open Go.Result (andThen_ok)
open Go.Sem (run_bind run_pure)
noncomputable section

namespace Go.Proofs.YtokieocpdcngcaaGreatDoor
open Go Go.RowKit Go.Proofs
namespace Pe
variable {D:Type}
def caZ (S:Stat D) (T:Tab D) (CF YF:cj D) (V:cI) (M:cn D) (n0:Nat) (o:Oper):Option (Out D) :=
 match Zi S T V M n0 o with
 |some r=>some r
 |none=>zj S T CF YF V M n0 o
section
variable {F:Fence}{m:Nat}{YF:cj D}
variable {C:Ctx D}{e:Env}{a:Act}{w:World}{V:cI}{M:cn D}{T:Tab D}{CF:cj D}{n0:Nat}{K:Act->World->Prop}{Q:Exit->Act->World->Prop}{o:Oper}{t:Out D}
theorem xIx_is (hC:C.Ok) (hV:cU e a V) (hM:cJ C e w M) (hg:cL C e w) {ty:Nat}{x:Operand}{s:Src D}{j:Nat}(hs:YC C.toStat M (cq V x)=some s) (hu:xIx C.toStat n0 ty s j=some t) (hf:jM n0 t.n1 e) (ho:jc t.ob) :
 ∃ v,(Instr.indexAt ty (a.eval x) (.int .i64 (.ofNat j))).run C.P w=.ok v w/\kn C e w n0 t v w:=by
 unfold xIx at hu;split at hu
 rotate_left
 ·cases hu
 rename_i el inf he;obtain⟨hel,hi⟩:=ku he;split at hu
 rotate_left
 ·cases hu
 rename_i hz;have hz:=eq_of_beq_eq_true hz;injection hu with hu;subst hu
 have hj:j<s.L.n:=ho.1;obtain⟨h1,h2⟩:=JU hC hV hM hg hs;rcases h1 with⟨h1,_⟩|⟨k,o,c,arr,pre,vs,rest,h3,_⟩
 ·omega
 have h0:(0:Int)<=Int.ofNat j/\Int.ofNat j<s.L.n:=⟨Int.natCast_nonneg j,Int.ofNat_lt.2 hj⟩;refine⟨.pointer (some ⟨k,o+j*s.L.z,none⟩),?_,?_⟩
 ·simp only[h3,Instr.indexAt,asIntOf,underlying,run_bind,run_pure,run_program,andThen_ok,hel,if_pos h0,jd hi,cY,hz];rfl
 ·cases hown:s.own with
  |true =>
   rw[hown] at h2;obtain⟨h4,h5⟩:=h2;obtain⟨v,q1,q2⟩:=hM _ _ h5;rw[h4] at q1;injection q1 with q1;subst q1
   rcases q2 with⟨q2,_⟩|⟨k',c',arr',vs',rest',q3,_,q5,_⟩
   ·omega
   rw[h3] at q5;injection q5 with q5;injection q5 with q5;injection q5 with q5 q6
   subst q5;subst q6;obtain⟨e',p1,p2⟩:=zJ (v:=.pointer (some ⟨k,0+j*s.L.z,none⟩)) (ob:=.ep s.id j s.L.z 0) hg hf (fun e' hx p=>⟨k,hx.ρ _ _ q3,by rw[p,zero_add,add_zero]⟩);exact⟨e',p1,p2⟩
  |false =>
   rw[hown] at h2;obtain⟨h4,_⟩:=h2;rw[h3] at h4;obtain⟨e',p1,p2⟩:=zJ (v:=.pointer (some ⟨k,o+j*s.L.z,none⟩)) (ob:=.cp s.id j s.L.z 0) hg hf (fun e' hx p=>⟨k,o,_,c,hx.ν _ _ h4,by rw[p,add_zero]⟩);exact⟨e',p1,p2⟩
theorem xFa_is (hV:cU e a V) (hM:cJ C e w M) (hg:cL C e w) {s f:Nat}{x:Operand}(hu:xFa C.toStat M n0 s f (cq V x)=some t) (hf:jM n0 t.n1 e) :
 ∃ v,(Instr.fieldAt s (a.eval x) f).run C.P w=.ok v w/\kn C e w n0 t v w:=by
 unfold xFa at hu;split at hu
 rotate_left
 ·cases hu
 rename_i b hx;have hv:e.φ b=some (a.eval x):=cw hV hx;split at hu
 rotate_left
 ·cases hu
 rename_i fl hfl;obtain⟨fs,g1,g2⟩:=uO hfl;split at hu
 rotate_left
 ·cases hu
 rename_i inf hinf;split at hu
 ·cases hu
 rename_i n hsz;split at hu
 ·rename_i l i z o hb;injection hu with hu;subst hu
  obtain⟨k,h1,h2⟩:=hM _ _ hb;rw[hv] at h2;injection h2 with h2
  obtain⟨e',p1,p2⟩:=zJ (v:=.pointer (some ⟨k,i*z+o+fl.offset,none⟩)) (ob:=.ep l i z (o+fl.offset)) hg hf (fun e' hx p=>⟨k,hx.ρ _ _ h1,by rw[p,add_assoc]⟩);refine⟨_,?_,e',p1,p2⟩;simp [h2,Instr.fieldAt,underlying,g1,g2,Instr.sureAddr,fieldPlace,jd hinf,hsz,cY]
 ·rename_i l i z o hb;injection hu with hu;subst hu
  obtain⟨k,p,n',c,h1,h2⟩:=hM _ _ hb;rw[hv] at h2;injection h2 with h2
  obtain⟨e',p1,p2⟩:=zJ (v:=.pointer (some ⟨k,p+(i*z+o)+fl.offset,none⟩)) (ob:=.cp l i z (o+fl.offset)) hg hf (fun e' hx q=>⟨k,p,n',c,hx.ν _ _ h1,by rw[q,add_assoc,add_assoc]⟩);refine⟨_,?_,e',p1,p2⟩;simp [h2,Instr.fieldAt,underlying,g1,g2,Instr.sureAddr,fieldPlace,jd hinf,hsz,cY]
 ·cases hu
theorem chn {α:Type}(vs:List α) {l h z j:Nat}(hj:j<h-l):((((vs.drop (l*z)).take ((h-l)*z)).drop (j*z)).take z)=(vs.drop ((l+j)*z)).take z:=by
 apply List.ext_getElem?;intro q;have h1:(j+1)*z<=(h-l)*z:=mul_le_mul_right z (by omega);rw[add_mul,one_mul] at h1;have h2:(l+j)*z=l*z+j*z:=add_mul l j z;rw[List.getElem?_take,List.getElem?_take];split
 ·rename_i hq;rw[List.getElem?_drop,List.getElem?_take,if_pos (by omega),List.getElem?_drop,List.getElem?_drop,h2];congr 1;omega
 ·rfl
theorem ceP {L:Lt D}{w:World}{l h k o c n:Nat}(h1:Yv C w L (.slice (some ⟨k,o,none⟩) n c)) (hl:l<h) (hh:h<=L.n):Yv C w ⟨L.lo,L.ty,L.z,h-l,fun j=>L.g (l+j)⟩ (.slice (some ⟨k,o+l*L.z,none⟩) (h-l) (c-l)):=by
 rcases h1 with⟨q1,_⟩|⟨k',o',c',arr,pre,vs,rest,q1,q2,q3,q4,q5,q6,q7,q8,q9⟩
 ·omega
 injection q1 with q1 q1' q1''
 injection q1 with q1
 injection q1 with q1 qo
 subst q1;subst qo;subst q1'';have hz:L.n*L.z=l*L.z+((h-l)*L.z+(L.n-h)*L.z):=by
  rw[← add_mul,← add_mul];congr 1;omega
 have hvs:vs=vs.take (l*L.z)++((vs.drop (l*L.z)).take ((h-l)*L.z)++(vs.drop (l*L.z)).drop ((h-l)*L.z)):=by
  rw[take_append_drop,take_append_drop]
 refine .inr ⟨k,o+l*L.z,c-l,arr,pre++vs.take (l*L.z),(vs.drop (l*L.z)).take ((h-l)*L.z),(vs.drop (l*L.z)).drop ((h-l)*L.z)++rest,rfl,?_,q3,?_,?_,?_,q7,?_,?_⟩
 ·show h-l<=c-l;omega
 ·rw[q4]
  conv=>lhs;rw[hvs]
  simp only[append_assoc]
 ·rw[length_append,q5,length_take];omega
 ·show _=(h-l)*L.z;rw[length_take,length_drop];omega
 ·exact fun v hv=>q8 v (List.mem_of_mem_drop (List.mem_of_mem_take hv))
 ·intro j hj;have hj:j<h-l:=hj;show cu C w (L.g (l+j)) _;rw[chn vs hj];exact q9 (l+j) (by omega)
theorem xSl_is (hC:C.Ok) (hV:cU e a V) (hM:cJ C e w M) (hg:cL C e w) {ty:Nat}{x:Operand}{lo hi:Option Operand}(hu:xSl C.toStat n0 ty (YC C.toStat M (cq V x)) (uX V lo) (uX V hi)=some t) (hf:jM n0 t.n1 e) (ho:jc t.ob) :
 ∃ v,(Instr.sliceAt ty (a.eval x) (lo.map a.eval) (hi.map a.eval) none).run C.P w=.ok v w/\kn C e w n0 t v w:=by
 cases hs:YC C.toStat M (cq V x) with
 |none=>rw[hs] at hu;simp [xSl] at hu
 |some s =>
 cases hlo:uX V lo with
 |none=>rw[hs,hlo] at hu;simp [xSl] at hu
 |some l =>
 cases hhi:uX V hi with
 |none=>rw[hs,hlo,hhi] at hu;simp [xSl] at hu
 |some h =>
 rw[hs,hlo,hhi] at hu;unfold xSl at hu;simp only at hu;obtain⟨hr,h2⟩:=JU hC hV hM hg hs;split at hu
 rotate_left
 ·cases hu
 rename_i el inf hown he;obtain⟨hel,hinf⟩:=ku he;rw[hown] at h2;obtain⟨hν,d,hd,hL⟩:=h2;split at hu
 rotate_left
 ·cases hu
 rename_i hz;have hz:=eq_of_beq_eq_true hz;injection hu with hu;subst hu
 obtain⟨h3,h4,_⟩:=ho;rcases hr with⟨h5,_⟩|⟨k,o,c,arr,pre,vs,rest,h5,h6,_⟩
 ·omega
 obtain⟨f,q1,q2⟩:=hM _ _ hd;rw[hν] at q1;injection q1 with q1;subst q1
 have hrob:Cp C e w [.cls (C.mkL ⟨s.L.lo,s.L.ty,s.L.z,h.getD s.L.n-l.getD 0,fun j=>s.L.g (l.getD 0+j)⟩)] [.slice (some ⟨k,o+l.getD 0*s.L.z,none⟩) (h.getD s.L.n-l.getD 0) (c-l.getD 0)]:=by
  intro w' hk;obtain⟨v,q3,q4⟩:=hC.unlist _ _ _ _ hL (q2 w' hk);injection q3 with q3;subst q3
  rw[h5] at q4;exact Ga hC (hC.lists _ _ _ (ceP q4 h3 h4))
 have hsz:=hC.len _ _ _ (hC.lists _ _ _ (ceP (by
  obtain⟨v,q3,q4⟩:=hC.unlist _ _ _ _ hL (q2 w (jT.refl e w));injection q3 with q3;subst q3
  rw[h5] at q4;exact q4) h3 h4))
 have hsz:C.csz (C.mkL ⟨s.L.lo,s.L.ty,s.L.z,h.getD s.L.n-l.getD 0,fun j=>s.L.g (l.getD 0+j)⟩)=1:=hsz.symm;obtain⟨e',p1,v,ws,p2,p3,p4⟩:=GB (cs:=[.sym n0 0]) (ws:=[(n0,.cls (C.mkL ⟨s.L.lo,s.L.ty,s.L.z,h.getD s.L.n-l.getD 0,fun j=>s.L.g (l.getD 0+j)⟩))]) (n1:=n0+1) hC hg (by simp only[jZ,hsz,uA,append_nil]) hf hrob;injection p2 with p2 _
 subst p2;refine⟨_,?_,e',p1,p3⟩;have hb:=CE (C:=C) (w:=w) (n:=s.L.n) (c:=c) (mx:=none) (mx':=none) hV hlo hhi rfl (fun k h=>by cases h) (le_of_lt h3) (by simp only[Option.getD_none];omega) (by simp);simp only[Option.getD_none,Option.map_none] at hb;have hne:¬ c=l.getD 0:=by omega
 simp [Instr.sliceAt,Instr.slice,h5,run_underlying hel,hb,jd hinf,hne,cY,hz]
theorem cbT (hC:C.Ok) (hM:cJ C e w M):∀ {cs:List AC}{vs:List Value},uR (jf M) cs=true->cA e cs vs->∀ v∈vs,v.oneCell'=true
 |[],vs,_,h,v,hv=>by rw[show vs=[] from h] at hv;simp at hv
 |c::cs,_,h,⟨u,us,rfl,h1,h2⟩,v,hv=>by
  unfold uR at h;split at h
  ·rename_i hc;rcases List.mem_cons.1 hv with rfl|hv
   ·exact ud hC hM hc h1
   ·exact cbT hC hM h h2 v hv
  ·cases h
theorem jY.same {n1:Nat}{ws ws':Ws D}{e':Env}{w':World}(h:jY C e w n0 n1 ws e' w') (hs:∀ b,find b ws'=find b ws):jY C e w n0 n1 ws' e' w' :=
 ⟨h.le,h.adv,h.new,h.good,fun b o ho=>h.wrote b o (by rw[← hs];exact ho),fun b o ho hn=>h.kept b o ho (by rw[← hs];exact hn)⟩
theorem xBox_is (hC : C.Ok) (hV : cU e a V) (hM : cJ C e w M) (hg : cL C e w) {ty : Nat} {x : Operand} (hu : xBox C.toStat M n0 ty (cq V x) = some t) (hf : jM n0 t.n1 e) :
    kn C e w n0 t (.pointer (some ⟨w.heap.size, 0, none⟩)) { w with heap := w.heap.push (.cells (a.eval x).cells ty) } := by
  unfold xBox at hu
  split at hu
  rotate_left
  · cases hu
  rename_i y hy
  split at hu
  rotate_left
  · cases hu
  rename_i gs hs hgs hpos
  injection hu with hu; subst hu
  have hx : y.is e (a.eval x) := cw hV hy
  have hcs := A1.cells_are hC hM hx hs
  have hone := cbT hC hM hs hcs
  have hlen := hcs.length
  have hb := yN w (.cells (a.eval x).cells ty)
  have hk : (w.heap.push (.cells (a.eval x).cells ty))[w.heap.size]? = some (.cells (a.eval x).cells ty) := by simp
  have hrob := (El hC hM hgs hcs).adv (Adv.below hg hb)
  generalize hw : ({ w with heap := w.heap.push (.cells (a.eval x).cells ty) } : World) = w' at hb hrob ⊢
  have hk : w'.heap[w.heap.size]? = some (.cells (a.eval x).cells ty) := by rw [← hw]; exact hk
  have hlt : w.heap.size < w'.heap.size := (Array.getElem?_eq_some_iff.1 hk).1
  have hL : ∀ w'', jT e w' w'' → Yv C w'' ⟨C.lo, ty, y.cells.length, 1, fun _ => gs⟩ (.slice (some ⟨w.heap.size, 0, none⟩) 1 1) := by
    intro w'' hkp
    refine .inr ⟨w.heap.size, 0, 1, (a.eval x).cells, [], (a.eval x).cells.toList, [], rfl, le_refl _, ⟨(0, 0), ?_⟩, by simp, rfl, ?_, le_trans hC.los hg.below.size, hone, fun j hj => ?_⟩
    · rw [hkp.block _ hlt (fun b hb' => by have := hg.lt hb'; omega)]
      exact hk
    · show _ = 1 * y.cells.length
      rw [hlen, one_mul]
    · obtain rfl : j = 0 := Nat.lt_one_iff.1 hj
      have := hrob w'' hkp
      rw [Nat.zero_mul, drop_zero, take_of_length_le (show _ ≤ y.cells.length by omega)]
      exact this
  have hsz : C.csz (C.mkL ⟨C.lo, ty, y.cells.length, 1, fun _ => gs⟩) = 1 := (hC.len _ _ _ (hC.lists _ _ _ (hL w' (jT.refl _ _)))).symm
  have l1 := jY.below (n0 := n0) hg hb
  obtain ⟨e1, l2, u, us, p2, p3, p4⟩ := GB (cs := [.sym n0 0]) (ws := [(n0, .cls (C.mkL ⟨C.lo, ty, y.cells.length, 1, fun _ => gs⟩))]) (n1 := n0 + 1) (gs := [.cls (C.mkL ⟨C.lo, ty, y.cells.length, 1, fun _ => gs⟩)]) (vs := [.slice (some ⟨w.heap.size, 0, none⟩) 1 1]) hC l1.good (by simp only [jZ, hsz, uA, append_nil]) (fun b h1 h2 => hf b h1 (Nat.lt_succ_of_lt h2)) (fun w'' hkp => Ga hC (hC.lists _ _ _ (hL w'' hkp)))
  injection p2 with p2 _
  subst p2
  obtain ⟨l, q1, q2, _⟩ := p3
  have hν : e1.ν n0 = some [.slice (some ⟨w.heap.size, 0, none⟩) 1 1] := by
    obtain ⟨f, r1, r2⟩ := l2.wrote n0 (.cls (C.mkL ⟨C.lo, ty, y.cells.length, 1, fun _ => gs⟩)) (by simp [ct])
    rw [q1] at r1; injection r1 with r1; subst r1
    obtain ⟨v, r3, _⟩ : ∃ v, l = [v] ∧ True := by
      have := hC.len _ _ _ r2.out
      rw [hsz] at this
      match l, this with
      | [v], _ => exact ⟨v, rfl, trivial⟩
    subst r3
    rw [q1]
    have q2 : [v][0]? = some _ := q2
    injection q2 with q2
    rw [q2]
  have hf2 : jM (n0 + 1) (n0 + 1 + 1) e1 := fun b h1 h2 => by
    obtain ⟨f1, f2, f3⟩ := hf b (by omega) h2
    refine ⟨?_, ?_, ?_⟩
    · cases hb : e1.ρ b with
      | none => rfl
      | some z => rcases l2.new.ρ b z hb with h | h
                  · rw [f1] at h; cases h
                  · omega
    · cases hb : e1.ν b with
      | none => rfl
      | some z => rcases l2.new.ν b z hb with h | h
                  · rw [f2] at h; cases h
                  · omega
    · cases hb : e1.φ b with
      | none => rfl
      | some z => rcases l2.new.φ b z hb with h | h
                  · rw [f3] at h; cases h
                  · omega
  obtain ⟨e2, l3, hφ⟩ := zJ (v := .pointer (some ⟨w.heap.size, 0, none⟩)) (ob := .cp n0 0 y.cells.length 0) l2.good hf2 (fun e' hx p => ⟨w.heap.size, 0, 1, 1, hx.ν _ _ hν, by rw [p]; simp⟩)
  refine ⟨e2, ((l1.trans l2).trans l3).same (fun b => ?_), hφ⟩
  simp only [yB, ct, cC]
  cases Nat.beq (n0 + 1) b <;> cases Nat.beq n0 b <;> rfl
theorem epOb {n1 ty:Nat}{p:Epo D}(hu:ZK C.toStat n1 ty p=some t) (ho:jc t.ob):p.i<p.L.n:=by
 unfold ZK at hu
 repeat' (split at hu<;>try (cases hu;done))
 all_goals (injection hu with hu;subst hu;exact ho.1)
theorem epOb' {n1 ty:Nat}{p:Epo D}{cs:List AC}(hu:KM C.toStat M n1 ty p cs=some t) (ho:jc t.ob):p.i<p.L.n:=by
 unfold KM at hu
 repeat' (split at hu<;>try (cases hu;done))
 all_goals (injection hu with hu;subst hu;exact ho.1)
theorem Un (hV:cU e a V):∀ {l:List (Nat×Operand)}{vs:List (Nat×Value)},Ex V l=some vs->l.map (fun p=>(p.1,a.eval p.2))=vs
 |[],vs,h=>by simp [Ex] at h;subst h;rfl
 |p::l,vs,h=>by
  unfold Ex at h;split at h
  ·rename_i v hv;split at h
   ·rename_i us hus;injection h with h;subst h
    rw[map_cons,Un hV hus,JL hV hv]
   ·cases h
  ·cases h
theorem cgU (hW:Wd F) (hC:C.Ok) (hV:cU e a V) (hM:cJ C e w M) (hg:cL C e w) (hu:Zi C.toStat T V M n0 o=some t) (hf:jM n0 t.n1 e) (ho:jc t.ob)
 (hK:∀ v w',kn C e w n0 t v w'->K (a.put o.dst v) w'):o.wpIn F m C.P a w K Q:=by
 have hnd:Cg o:=by
  intro c hc;unfold Zi at hu;rw[hc] at hu;cases hu
 unfold Zi at hu;split at hu
 ·rename_i ty x hop;split at hu
  rotate_left
  ·cases hu
  rename_i p hp;have hi:=epOb hu ho;obtain⟨k,o',arr,pre,vs,rest,h1,h2,h3,h4,h5,h6,_,_⟩:=ces hC hV hM hg hp hi;obtain⟨v,h7,h8⟩:=chS hC hg hu hf h2 h3 h4 (h6 _ hi);exact co hW hnd (by simp [execOp,hop,h1,Instr.loadAt,Instr.sureAddr,h7]) (hK _ _ h8)
 ·rename_i ty x y hop;split at hu
  rotate_left
  ·cases hu
  rename_i p hp;split at hu
  rotate_left
  ·cases hu
  rename_i z hz;have hi:=epOb' hu ho;obtain⟨k,o',arr,pre,vs,rest,h1,h2,h3,h4,h5,h6,h7,h8⟩:=ces hC hV hM hg hp hi;obtain⟨w',h9,h10⟩:=cfJ hC hM hg (cw hV hz) hu hi h2 h3 h5 h6 h7 h8;have:(execOp a.eval o).run C.P w=.ok .skip w':=by simp [execOp,hop,h1,Instr.storeAt,Instr.sureAddr,h9]
  refine⟨fun f _=>hW.fn f,?_⟩;rw[Oper.semAt_eq _ _ _ hnd,this];exact hK _ _ h10
 ·rename_i ty x i hop;split at hu
  rotate_left
  ·split at hu
   rotate_left
   ·cases hu
   rename_i b p j len el hx hj hel;split at hu
   rotate_left
   ·cases hu
   rename_i inf hlt hinf;have hlt:=kg hlt;obtain⟨k,hk,hx⟩:=zX hV hx;have hi:=jl hV hj;have h0:(0:Int)<=Int.ofNat j/\Int.ofNat j<len:=⟨Int.natCast_nonneg j,Int.ofNat_lt.2 hlt⟩;have hr:(Instr.indexAt ty (.pointer (some ⟨k,p,none⟩)) (.int .i64 (.ofNat j))).run C.P w=.ok (.pointer (some ⟨k,p+j*inf.size,none⟩)) w:=by
    simp only[Instr.indexAt,asIntOf,underlying,run_bind,run_pure,run_program,andThen_ok,hel,Instr.sureAddr,if_pos h0,jd hinf,cY];rfl
   injection hu with hu;subst hu
   exact co hW hnd (v:=.pointer (some ⟨k,p+j*inf.size,none⟩)) (w':=w) (by simp only[execOp,hop,hx,hi,run_bind,hr];rfl) (hK _ _ (kn.here hg ⟨k,hk,rfl⟩))
  rename_i s hs;split at hu
  rotate_left
  ·cases hu
  rename_i j hj;have hi:=jl hV hj;obtain⟨v,h1,h2⟩:=xIx_is hC hV hM hg hs hu hf ho;exact co hW hnd (v:=v) (w':=w) (by simp only[execOp,hop,hi,run_bind,h1];rfl) (hK _ _ h2)
 ·rename_i s x f hop;obtain⟨v,h1,h2⟩:=xFa_is hV hM hg hu hf;exact co hW hnd (v:=v) (w':=w) (by simp only[execOp,hop,run_bind,h1];rfl) (hK _ _ h2)
 ·rename_i ty x lo hi hop;obtain⟨v,h1,h2⟩:=xSl_is hC hV hM hg hu hf ho;exact co hW hnd (v:=v) (w':=w) (by simp only[execOp,hop,Option.map_none,run_bind,h1];rfl) (hK _ _ h2)
 ·rename_i ty l c hop;split at hu
  rotate_left
  ·cases hu
  cases hl:lit? (cq V l) with
  |none=>rw[hl] at hu;simp [xMk] at hu
  |some vl =>
   cases hc:lit? (cq V c) with
   |none=>rw[hl,hc] at hu;unfold xMk at hu;split at hu<;>simp_all
   |some vc =>
    rw[hl,hc] at hu;obtain⟨v,w',h1,h2⟩:=xMk_is hC hg hu hf ho;exact co hW hnd (w':=w') (by simp [execOp,hop,jl hV hl,jl hV hc,h1]) (hK _ _ h2)
 ·rename_i ty hop;have key:∃ v w',(Instr.buildSlice ty 0 #[]).run C.P w=.ok v w'/\kn C e w n0 t v w':=by
   split at hu
   ·exact xBp_is hg hu hf
   ·exact xBs_is hg hu hf
  obtain⟨v,w',h1,h2⟩:=key;refine co hW hnd (w':=w') ?_ (hK _ _ h2);simp only[execOp,hop,run_bind];rw[show (Array.map (fun x:Nat×Operand=>(x.1,a.eval x.2)) { toList:=[] })=#[] by simp,h1];rfl
 ·rename_i ty x hop;split at hu
  ·cases hu
  refine co hW hnd (v:=.pointer (some ⟨w.heap.size,0,none⟩)) (w':={ w with heap:=w.heap.push (.cells (a.eval x).cells ty) }) ?_ (hK _ _ (xBox_is hC hV hM hg hu hf));simp [execOp,hop,Instr.box,yD]
 ·rename_i ty parts hop;split at hu
  rotate_left
  ·cases hu
  split at hu
  rotate_left
  ·cases hu
  rename_i vs hvs;have hp:parts.map (fun p:Nat×Operand=>(p.1,a.eval p.2))=vs.toArray:=by
   apply Array.ext';rw[Array.toList_map,Un hV hvs]
  refine Cs hW hnd hg hu (fun v w' h=>?_) hK;simp only[execOp,hop,run_bind];rw[show (Array.map (fun x:Nat×Operand=>(x.1,a.eval x.2)) parts)=vs.toArray from hp,h];rfl
 ·rename_i ty x y u hop;split at hu
  rotate_left
  ·cases hu
  rename_i p el hx hy hel;obtain⟨b,o',n⟩:=p;obtain⟨k,cp,hk,hx⟩:=Ua hV hx;have hy:=jl hV hy;refine kO hW hnd hg hu (v:=.bool false) ?_ rfl hK;have hgd:(eqGuard .eql ty x y (.slice (some ⟨k,o',none⟩) n cp) (.slice none 0 0)).run C.P w=.ok () w:=rfl;have he:(Go.binOp .eql ty (.slice (some ⟨k,o',none⟩) n cp) (.slice none 0 0)).run C.P w=.ok (.bool false) w:=by
   have h0:(Op.equalIn (9999+1) ty (.slice (some ⟨k,o',none⟩) n cp) (.slice none 0 0)).run C.P w=.ok false w:=by
    generalize 9999=d;simp [Op.equalIn,run_underlying hel]
   have h1:(Op.equal ty (.slice (some ⟨k,o',none⟩) n cp) (.slice none 0 0)).run C.P w=.ok false w:=h0;simp [Go.binOp,h1]
  simp only[execOp,hop,hx,hy,run_bind,hgd,he,andThen_ok];rfl
 ·rename_i c hop;split at hu
  ·rename_i hcal;split at hu
   rotate_left
   ·cases hu
   rename_i x hargs;have ha:c.args.map a.eval=#[a.eval x]:=by
    apply Array.ext';simp [hargs]
   split at hu
   rotate_left
   ·cases hu
   rename_i s ty hs hty;split at hu
   rotate_left
   ·cases hu
   rename_i el hel;obtain⟨ao,cp,hx,_⟩:=(JU hC hV hM hg hs).1.shape;refine kO hW hnd hg hu (v:=goInt s.L.n) ?_ rfl hK;have hty':c.argTypes[0]?=some ty:=hty;simp [execOp,hop,resolve,hcal,ha,invoke,builtin,Builtin.len_,hty',run_underlying hel,hx]
  ·rename_i hcal;split at hu
   rotate_left
   ·cases hu
   rename_i s x hargs;have ha:c.args.map a.eval=#[a.eval s,a.eval x]:=by
    apply Array.ext';simp [hargs]
   obtain⟨v,w',h1,h2⟩:=xApp_is hC hV hM hg hu hf ho o.type;have h1:(Builtin.append_ c.argTypes o.type #[a.eval s,a.eval x]).run C.P w=.ok v w':=by simpa using h1
   exact co hW hnd (w':=w') (by simp [execOp,hop,resolve,hcal,ha,invoke,builtin,h1]) (hK _ _ h2)
  ·cases hu
 ·cases hu
theorem cgZ (hW:Wd F) (hC:C.Ok) (hT:T.Ok C) (hF:CF.Ok C) (hY:uC C YF) (hV:cU e a V) (hM:cJ C e w M) (hg:cL C e w) (hu:caZ C.toStat T CF YF V M n0 o=some t) (hf:jM n0 t.n1 e) (ho:jc t.ob)
 (hK:∀ v w',kn C e w n0 t v w'->K (a.put o.dst v) w'):o.wpIn F m C.P a w K Q:=by
 unfold caZ at hu;split at hu
 ·rename_i r hr;injection hu with hu;subst hu
  exact cgU hW hC hV hM hg hr hf ho hK
 ·exact zG hW hC hT hF hY hV hM hg hu hf ho hK
end
section
variable {S:Stat D}{T:Tab D}{V:cI}{M:cn D}{n0:Nat}{o:Oper}{t:Out D}
theorem chu (hu:Zi S T V M n0 o=some t):n0<=t.n1:=by
 unfold Zi at hu
 repeat' (split at hu<;>try (cases hu;done))
 ·unfold ZK at hu
  repeat' (split at hu<;>try (cases hu;done))
  all_goals (rename_i hm;injection hu with hu;subst hu;exact uD hm)
 ·unfold KM at hu
  repeat' (split at hu<;>try (cases hu;done))
  all_goals (injection hu with hu;subst hu;exact le_refl _)
 ·unfold xIx at hu
  repeat' (split at hu<;>try (cases hu;done))
  all_goals (injection hu with hu;subst hu;exact le_succ _)
 ·injection hu with hu;subst hu;exact le_refl _
 ·unfold xFa at hu
  repeat' (split at hu<;>try (cases hu;done))
  all_goals (injection hu with hu;subst hu;exact le_succ _)
 ·unfold xSl at hu
  repeat' (split at hu<;>try (cases hu;done))
  all_goals (injection hu with hu;subst hu;exact le_succ _)
 ·unfold xMk at hu
  repeat' (split at hu<;>try (cases hu;done))
  all_goals (injection hu with hu;subst hu;exact le_succ _)
 ·unfold xBp kW at hu
  repeat' (split at hu<;>try (cases hu;done))
  all_goals (injection hu with hu;subst hu;exact le_succ _)
 ·unfold xBs at hu
  repeat' (split at hu<;>try (cases hu;done))
  all_goals (injection hu with hu;subst hu;exact le_succ _)
 ·unfold xBox at hu
  repeat' (split at hu<;>try (cases hu;done))
  all_goals (injection hu with hu;subst hu;exact Nat.le_add_right _ 2)
 ·unfold ke at hu;split at hu
  ·injection hu with hu;subst hu;exact le_refl _
  ·cases hu
 ·injection hu with hu;subst hu;exact le_refl _
 ·injection hu with hu;subst hu;exact le_refl _
 ·unfold xApp at hu
  repeat' (split at hu<;>try (cases hu;done))
  all_goals (injection hu with hu;subst hu;exact le_succ _)
end
end Pe
namespace Pe
variable {D:Type}
structure St (D:Type) where
 nb:Nat
 sl:List (Nat×AV)
 m:Ws D
 ms:List Nat
def over (base:cn D) (m:Ws D):cn D:=fun b=>match find b m with
 |some o=>some o
 |none=>base b
def ZY (nt:Nat) (dst:Option Tmp) (x:AV) (sl:List (Nat×AV)):Option (List (Nat×AV)) :=
 match dst with
 |none=>some sl
 |some d=>match Nat.blt d nt with
  |true=>some (jy [(d,x)] sl)
  |false=>none
def caV (V:cI) (ops:List Oper) (o:Oper):Option Bool :=
 match o.guard with
 |none=>some true
 |some (j,want)=>match ops[j]? with
  |some oj=>match oj.dst with
   |some t=>match lit? (V t) with
    |some (.bool b)=>match b,want with
     |true,true=>some true
     |false,false=>some true
     |_,_=>some false
    |some (.tuple ⟨[]⟩)=>some false
    |_=>none
   |none=>none
  |none=>none
def Uk (S:Stat D) (T:Tab D) (CF YF:cj D) (V:cI) (M:cn D) (n0:Nat) (ops:List Oper) (o:Oper):Option (Out D) :=
 match caV V ops o with
 |some true=>caZ S T CF YF V M n0 o
 |some false=>out n0 JG
 |none=>none
def Gl (S:Stat D) (T:Tab D) (CF YF:cj D) (nt:Nat) (base:cn D) (ops:List Oper):List Oper->St D->Option (St D×List Prop)
 |[],st=>some (st,[])
 |o::l,st=>match Uk S T CF YF (fun t=>find t st.sl) (over base st.m) st.nb ops o with
  |some t=>match ZY nt o.dst t.x st.sl with
   |some sl=>match Gl S T CF YF nt base ops l ⟨t.n1,sl,jy t.ws st.m,st.ms⟩ with
    |some (st',ob)=>some (st',t.ob++ob)
    |none=>none
   |none=>none
  |none=>none
def cj.Mono (CF:cj D):Prop:=∀ M n0 f l t,CF M n0 f l=some t->n0<=t.n1
section
variable {S:Stat D}{T:Tab D}{CF YF:cj D}{V:cI}{M:cn D}{n0:Nat}{t:Out D}
theorem mkR_le {csz:D->Nat}{p:cK D}{s s':Nat}{x:AV}{l:Ws D}(h:mkR csz s p=some (x,l,s')):s<=s':=by
 cases p with
 |val p =>
  simp only[mkR] at h;split at h
  ·rename_i hp;injection h with h
   simp only[Prod.mk.injEq] at h;have:=caf hp;omega
  ·cases h
 |tup ps =>
  simp only[mkR] at h;split at h
  ·rename_i hp;injection h with h
   simp only[Prod.mk.injEq] at h;have:=GM hp;omega
  ·cases h
theorem cah {x:AV}(h:(out n0 x:Option (Out D))=some t):n0<=t.n1:=by
 injection h with h;subst h;exact le_refl _
theorem cib {P:Program}{s:Sem Value}(h:(ke P n0 s:Option (Out D))=some t):n0<=t.n1:=by
 unfold ke at h;split at h
 ·exact cah h
 ·cases h
theorem GV {ty:Nat}{cs:List AC}{z:Option Nat}{x:AC}(h:kW S n0 ty cs z x=some t):n0<=t.n1:=by
 unfold kW at h;split at h
 ·injection h with h;subst h;exact le_succ _
 ·cases h
theorem ceK {h:Hd}{d:Nat}{xs:List Operand}(hu:yM S T V M n0 d h xs=some t):n0<=t.n1:=by
 unfold yM at hu
 repeat' (split at hu<;>try (cases hu;done))
 rename_i hm;injection hu with hu;subst hu
 exact mkR_le hm
theorem chV (hF:CF.Mono) {f:FuncId}{d:Nat}{l:List AV}(hu:Uu S T CF M n0 d f l=some t):n0<=t.n1:=by
 unfold Uu at hu;split at hu
 ·rename_i hr;injection hu with hu;subst hu
  unfold memA at hr
  repeat' (split at hr<;>try (cases hr;done))
  injection hr with hr;subst hr
  exact le_refl _
 split at hu
 ·repeat' (split at hu<;>try (cases hu;done))
  rename_i hm;injection hu with hu;subst hu
  exact mkR_le hm
 ·exact hF _ _ _ _ _ hu
theorem cfB {ty b o:Nat}{cs:List AC}(hu:Ku S M n0 ty b o cs=some t):n0<=t.n1:=by
 unfold Ku at hu
 repeat' (split at hu<;>try (cases hu;done))
 injection hu with hu;subst hu
 exact le_refl _
theorem bsA_le {ty n:Nat}{ps:Array (Nat×Operand)}(hu:bsA S V M n0 ty n ps=some t):n0<=t.n1:=by
 unfold bsA at hu
 repeat' (split at hu<;>try (cases hu;done))
 exact GV hu
theorem mkA_le {ty:Nat}{l c:Option Value}(hu:mkA S n0 ty l c=some t):n0<=t.n1:=by
 unfold mkA at hu
 repeat' (split at hu<;>try (cases hu;done))
 exact GV hu
theorem cct {ats:List Nat}{s:AV}{x:Option AV}(hu:Gy S M n0 ats s x=some t):n0<=t.n1:=by
 unfold Gy at hu
 repeat' (split at hu<;>try (cases hu;done))
 all_goals first
  |exact GV hu
  |(injection hu with hu;subst hu;first|exact le_refl _|exact le_succ _)
theorem cgb {ats:List Nat}{x:Option AV}(hu:KL S M n0 ats x=some t):n0<=t.n1:=by
 unfold KL at hu
 repeat' (split at hu<;>try (cases hu;done))
 injection hu with hu;subst hu
 exact le_refl _
theorem cfw {ty:Nat}{x:Option AV}{lo hi mx:Option Operand}(hu:KR S V M n0 ty x lo hi mx=some t):n0<=t.n1:=by
 unfold KR at hu
 repeat' (split at hu<;>try (cases hu;done))
 all_goals exact cah hu
theorem cfq (hF:CF.Mono) (hYF:YF.Mono) {o:Oper}(hu:zj S T CF YF V M n0 o=some t):n0<=t.n1:=by
 rw[Kz] at hu;unfold UI at hu;simp only at hu
 repeat' (split at hu<;>try (cases hu;done))
 all_goals first
  |exact cah hu
  |exact cib hu
  |exact GV hu
  |exact ceK hu
  |exact chV hF hu
  |exact cfB hu
  |exact bsA_le hu
  |exact cct hu
  |exact cgb hu
  |exact hYF _ _ _ _ _ hu
  |(injection hu with hu;subst hu;rename_i h;first|exact cfw h|exact mkA_le h|exact ceK h)
  |(injection hu with hu;subst hu;exact le_succ _)
theorem chf (hF:CF.Mono) (hYF:YF.Mono) {o:Oper}(hu:caZ S T CF YF V M n0 o=some t):n0<=t.n1:=by
 unfold caZ at hu;split at hu
 ·rename_i r hr;injection hu with hu;subst hu
  exact chu hr
 ·exact cfq hF hYF hu
theorem cbH (hF:CF.Mono) (hYF:YF.Mono) {ops:List Oper}{o:Oper}(hu:Uk S T CF YF V M n0 ops o=some t):n0<=t.n1:=by
 unfold Uk at hu;split at hu
 ·exact chf hF hYF hu
 ·exact cah hu
 ·cases hu
theorem KH (hF:CF.Mono) (hYF:YF.Mono) {nt:Nat}{base:cn D}{ops:List Oper}:∀ {l:List Oper}{st st':St D}{ob:List Prop},Gl S T CF YF nt base ops l st=some (st',ob)->st.nb<=st'.nb
 |[],st,st',ob,h=>by
  simp only[Gl,Option.some.injEq,Prod.mk.injEq] at h;rw[h.1];exact le_refl _
 |o::l,st,st',ob,h=>by
  simp only[Gl] at h;split at h
  ·rename_i t ht;split at h
   ·split at h
    ·rename_i st1 ob1 hs;injection h with h;injection h with h1 h2;subst h1
     exact le_trans (cbH hF hYF ht) (KH hF hYF hs)
    ·cases h
   ·cases h
  ·cases h
end
def Ey (r:Nat):Deferred:={ target:=.collected r,args:=#[] }
def Jc (e:Env):List Nat->List Nat->Prop
 |[],rs=>rs=[]
 |b::bs,rs=>∃ r rs',rs=r::rs'/\e.ρ b=some r/\Jc e bs rs'
theorem Jc.ext {e e':Env}(h:Ext e e'):∀ {bs rs:List Nat},Jc e bs rs->Jc e' bs rs
 |[],_,hm=>hm
 |_::_,_,⟨r,rs',h1,h2,h3⟩=>⟨r,rs',h1,h.ρ _ _ h2,Jc.ext h h3⟩
structure Sat (C:Ctx D) (nt:Nat) (e0:Env) (w0:World) (n0:Nat) (st:St D) (a:Act) (w:World):Prop where
 ex:∃ e,jY C e0 w0 n0 st.nb st.m e w/\cU e a (fun t=>find t st.sl)/\∃ rs,a.defers=rs.map Ey/\Jc e st.ms rs
 size:a.tmps.size=nt
section
variable {F:Fence}{m:Nat}
variable {C:Ctx D}{e0 e:Env}{w0 w w':World}{a:Act}{T:Tab D}{CF YF:cj D}{n0 nt:Nat}{base:cn D}{Q:Exit->Act->World->Prop}
theorem jR (a:Act) (d:Option Tmp) (v:Value):(a.put d v).tmps.size=a.tmps.size:=by cases d<;>simp [Act.put]
theorem jC (a:Act) (d:Option Tmp) (v:Value):(a.put d v).defers=a.defers:=by cases d<;>rfl
theorem kr (hb:cJ C e0 w0 base) {m:Ws D}{n1:Nat}(h:jY C e0 w0 n0 n1 m e w):cJ C e w (over base m):=fun b o ho=>by
 unfold over at ho;split at ho
 ·rename_i o' hf;injection ho with ho;subst ho
  exact h.wrote b _ hf
 ·rename_i hn;exact h.kept b o (hb b o ho) hn
theorem Yn {e e':Env}{dst:Option Tmp}{x:AV}{sl sl':List (Nat×AV)}(hs:a.tmps.size=nt) (hV:cU e a (fun t=>find t sl)) (hp:ZY nt dst x sl=some sl') (hx:Ext e e') {v:Value}(hv:x.is e' v):cU e' (a.put dst v) (fun t=>find t sl'):=by
 unfold ZY at hp;split at hp
 ·injection hp with hp;subst hp
  exact hV.ext hx
 ·rename_i d;split at hp
  ·rename_i hd;have hd:=kg hd;injection hp with hp;subst hp
   intro t y hy;have hy:find t (jy [(d,x)] sl)=some y:=hy;rw[yB] at hy;by_cases hdt:d=t
   ·subst hdt;simp only[cC,ct,Nat.beq_refl] at hy;injection hy with hy;subst hy
    exact⟨v,by simp [Act.put,hs,hd],hv⟩
   ·have hb:Nat.beq d t=false:=by
     cases h:Nat.beq d t with
     |false=>rfl
     |true=>exact absurd (eq_of_beq_eq_true h) hdt
    simp only[cC,ct,hb] at hy;obtain⟨u,h1,h2⟩:=hV.ext hx t y hy;exact⟨u,by simp [Act.put,hdt,h1],h2⟩
  ·cases hp
theorem JB {ops:Array Oper}{a:Act}{oj:Oper}{j:Nat}{t:Tmp}{b:Bool}(ho:ops[j]?=some oj) (hd:oj.dst=some t) (he:a.eval (.tmp t)=.bool b):yielded ops a.tmps j=some b:=by
 unfold yielded;simp only[ho,Option.bind_some,hd];simp only[Act.eval,Array.getD_eq_getD_getElem?] at he;cases h:a.tmps[t]? with
 |none=>rw[h] at he;simp [undef] at he
 |some x=>rw[h] at he;simp at he;rw[he]
theorem cbM (hW:Wd F) (hC:C.Ok) (hT:T.Ok C) (hF:CF.Ok C) (hY:uC C YF) {V:cI}{M:cn D}(hV:cU e a V) (hM:cJ C e w M) (hg:cL C e w) {ops:Array Oper}{o:Oper}{n:Nat}{t:Out D}(hu:Uk C.toStat T CF YF V M n ops.toList o=some t) (hf:jM n t.n1 e) (ho:jc t.ob) {K:Act->World->Prop}
 (hK:∀ v w',kn C e w n t v w'->K (a.put o.dst v) w'):if Region.wanted o (yielded ops a.tmps) then o.wpIn F m C.P a w K Q else K (a.put o.dst undef) w:=by
 unfold Uk at hu;have hgo:∀ g,caV V ops.toList o=some g->Region.wanted o (yielded ops a.tmps)=g:=by
  intro g hg;unfold caV at hg;split at hg
  ·rename_i hgu;injection hg with hg;subst hg
   simp [Region.wanted,hgu]
  ·rename_i j want hgu;split at hg
   ·rename_i oj hoj;have hoj:ops[j]?=some oj:=by simpa using hoj
    split at hg
    ·rename_i t ht;split at hg
     ·rename_i b hb;have hy:=JB hoj ht (jl hV (x:=.tmp t) hb);split at hg<;>injection hg with hg<;>subst hg
      ·simp [Region.wanted,hgu,hy]
      ·simp [Region.wanted,hgu,hy]
      ·rename_i n1 n2;simp only[Region.wanted,hgu,hy];cases b<;>cases want<;>simp_all
     ·rename_i hb;have he:a.eval (.tmp t)=.tuple #[]:=jl hV (x:=.tmp t) hb;injection hg with hg;subst hg
      have hy:yielded ops a.tmps j=none:=by
       unfold yielded;simp only[hoj,Option.bind_some,ht];simp only[Act.eval,Array.getD_eq_getD_getElem?] at he;cases h:a.tmps[t]? with
       |none=>rfl
       |some x=>rw[h] at he;simp at he;rw[he]
      simp [Region.wanted,hgu,hy]
     ·cases hg
    ·cases hg
   ·cases hg
 split at hu
 ·rename_i hgu;rw[hgo _ hgu,if_pos rfl];exact cgZ hW hC hT hF hY hV hM hg hu hf ho hK
 ·rename_i hgu;rw[hgo _ hgu,if_neg (by simp)];injection hu with hu;subst hu
  exact hK _ _ (kn.here hg rfl)
 ·cases hu
theorem Zx (hW:Wd F) (hC:C.Ok) (hT:T.Ok C) (hF:CF.Ok C) (hFm:CF.Mono) (hY:uC C YF) (hYm:YF.Mono) (hb:cJ C e0 w0 base) {ops:Array Oper}:∀ (k:Nat) (l:List Oper) (i:Nat) (st st':St D) (ob:List Prop),l.length=k->ops.toList.drop i=l->Gl C.toStat T CF YF nt base ops.toList l st=some (st',ob)->jc ob->jM n0 st'.nb e0->
 (∀ a w,Sat C nt e0 w0 n0 st' a w->Q .normal a w)->∀ a w,Sat C nt e0 w0 n0 st a w->wpOpsIn F m C.P ops Q (List.range' i k) a w
 |0,l,i,st,st',ob,hl,hd,h,ho,hf,hQ,a,w,hs=>by
  have:l=[]:=by simpa using hl
  subst this;simp only[Gl,Option.some.injEq,Prod.mk.injEq] at h;rw[← h.1] at hQ;exact hQ a w hs
 |k+1,[],i,st,st',ob,hl,hd,h,ho,hf,hQ,a,w,hs=>by simp at hl
 |k+1,o::l,i,st,st',ob,hl,hd,h,ho,hf,hQ,a,w,hs=>by
  simp only[Gl] at h;split at h
  ·rename_i t ht;split at h
   ·rename_i sl hsl;split at h
    ·rename_i st1 ob1 hrest;injection h with h;injection h with h1 h2;subst h1;subst h2
     obtain⟨ho1,ho2⟩:=ho.append;have hmono:=KH hFm hYm hrest;obtain⟨⟨e,hL,hV,rs,hdf,hmk⟩,hsz⟩:=hs;have hio:ops[i]?=some o:=by
      have:=congrArg (fun l=>l[0]?) hd;simpa using this
     have hf1:jM st.nb t.n1 e:=(hf.new (hL.new.mono (le_refl _) (le_refl _)) hL.le).mono (le_refl _) hmono;have hstep:=cbM (F:=F) (m:=m) (Q:=Q) (K:=wpOpsIn F m C.P ops Q (List.range' (i+1) k)) hW hC hT hF hY hV (kr hb hL) hL.good ht hf1 ho1 (fun v w' hD=>by
      obtain⟨e',hL',hx⟩:=hD;refine Zx hW hC hT hF hFm hY hYm hb k l (i+1) ⟨t.n1,sl,jy t.ws st.m,st.ms⟩ st1 ob1 (by simpa using hl) ?_ hrest ho2 hf hQ _ _ ⟨⟨e',hL.trans hL',Yn hsz hV hsl hL'.adv.ext hx,rs,by rw[jC,hdf],hmk.ext hL'.adv.ext⟩,by rw[jR,hsz]⟩;rw[← drop_drop,hd];rfl)
     rw[List.range'_succ];simp only[wpOpsIn,hio];split at hstep
     ·rename_i hw;rw[if_pos hw];exact hstep
     ·rename_i hw;rw[if_neg hw];exact⟨fun f _=>hW.fn f,hstep⟩
    ·cases h
   ·cases h
  ·cases h
end
end Pe
namespace Pe
variable {D:Type}
section
variable {F:Fence}{m:Nat}{P:Program}{ops:Array Oper}{Q:Exit->Act->World->Prop}{md:Region.Mode}
def cam (l:Array Bool):Nat:=(l.toList.filter (fun b=>!b)).length
theorem cbZ {l:Array Bool}{i:Nat}(h:l[i]?=some false):cam (l.setIfInBounds i true)+1=cam l:=by
 obtain⟨xs⟩:=l;unfold cam;simp only[List.getElem?_toArray] at h;simp only[List.setIfInBounds_toArray]
 induction xs generalizing i with
 |nil=>simp at h
 |cons x xs ih =>
  cases i with
  |zero=>simp at h;subst h;simp
  |succ i =>
   simp at h;have:=ih h;cases x<;>simp [List.set_cons_succ]<;>omega
theorem EA {l:Array Bool}{i:Nat}(hm:i∈Region.ready md ops l):l[i]?=some false:=by
 have h1:=(mem_ready.1 hm).1;have hlt:i<l.size:=by
  rcases lt_or_ge i l.size with h|h
  ·exact h
  ·simp [Array.getElem?_eq_none h] at h1
 rw[Array.getElem?_eq_getElem hlt];simp [hlt] at h1;rw[h1]
theorem any_inv (Inv:Array Bool->Act->World->Prop)
 (step:∀ l a w i,l.size=ops.size->Inv l a w->i∈Region.ready md ops l->wpOpIn F m P ops Q i (fun a' w'=>Inv (l.setIfInBounds i true) a' w') a w)
 (done:∀ l a w,l.size=ops.size->Inv l a w->Region.ready md ops l=[]->Q .normal a w) :
 ∀ (fuel:Nat) (l:Array Bool) (a:Act) (w:World),l.size=ops.size->cam l<=fuel->Inv l a w->wpAnyIn F m P md ops Q fuel l a w:=by
 intro fuel
 induction fuel with
 |zero =>
  intro l a w hs hl hi;have hr:Region.ready md ops l=[]:=by
   cases hx:Region.ready md ops l with
   |nil=>rfl
   |cons i is =>
    have hm:i∈Region.ready md ops l:=by rw[hx];simp
    have:=cbZ (EA hm);omega
  exact⟨hr,done l a w hs hi hr⟩
 |succ fuel ih =>
  intro l a w hs hl hi;refine⟨fun hr=>done l a w hs hi hr,fun i hm=>?_⟩;have h3:=cbZ (EA hm);exact wpOpIn_mono (fun a' w' h=>ih _ a' w' (by simpa using hs) (by omega) h) (step l a w i hs hi hm)
theorem cht {l:Array Bool}(hs:l.size=ops.size) (ht:∀ (i:Nat) (o:Oper),ops[i]?=some o->∀ e∈o.after,Region.binds md e=true->e.on<i) (hr:Region.ready md ops l=[]) :
 ∀ i,i<ops.size->l[i]?=some true:=by
 intro i
 induction i using Nat.strongRecOn with
 |ind i ih =>
  intro hi;have hl:i<l.size:=by omega
  rw[Array.getElem?_eq_getElem hl];cases hb:l[i] with
  |true=>rfl
  |false =>
   exfalso;have hm:i∈Region.ready md ops l:=by
    refine mem_ready.2 ⟨by simp [hl,hb],ops[i],Array.getElem?_eq_getElem hi,fun e he hbi=>?_⟩;have h1:=ht i ops[i] (Array.getElem?_eq_getElem hi) e he hbi;have h2:=ih e.on h1 (by omega);simp [h2]
   rw[hr] at hm;cases hm
end
def kI (pres:List Nat):List Edge->Nat
 |[]=>0
 |ed::l=>match Region.binds .any ed with
  |true=>2^ed.on||| pres.getD ed.on 0||| kI pres l
  |false=>kI pres l
def cB:List Nat->List Oper->List Nat
 |acc,[]=>acc
 |acc,o::l=>cB (acc++[kI acc o.after.toList]) l
theorem yR {pres:List Nat}{j:Nat}:∀ {l:List Edge},(kI pres l).testBit j=true->∃ ed∈l,Region.binds .any ed=true/\(ed.on=j\/(pres.getD ed.on 0).testBit j=true)
 |[],h=>by simp [kI] at h
 |ed::l,h=>by
  unfold kI at h;split at h
  ·rename_i hb;simp only[Nat.testBit_or,Bool.or_eq_true] at h;rcases h with(h|h)|h
   ·rw[Nat.testBit_two_pow] at h;exact⟨ed,by simp,hb,.inl (by simpa using h)⟩
   ·exact⟨ed,by simp,hb,.inr h⟩
   ·obtain⟨d,h1,h2⟩:=yR h;exact⟨d,mem_cons_of_mem _ h1,h2⟩
  ·obtain⟨d,h1,h2⟩:=yR h;exact⟨d,mem_cons_of_mem _ h1,h2⟩
theorem uz:∀ (l:List Oper) (acc:List Nat),∃ r,cB acc l=acc++r/\r.length=l.length
 |[],acc=>⟨[],by simp [cB],rfl⟩
 |o::l,acc=>by
  obtain⟨r,h1,h2⟩:=uz l (acc++[kI acc o.after.toList]);exact⟨kI acc o.after.toList::r,by simp [cB,h1],by simp [h2]⟩
theorem uP:∀ (l:List Oper) (acc:List Nat) (i:Nat) (o:Oper),l[i]?=some o->∀ j,((cB acc l).getD (acc.length+i) 0).testBit j=true->
 ∃ ed∈o.after.toList,Region.binds .any ed=true/\(ed.on=j\/((cB acc l).getD ed.on 0).testBit j=true)
 |[],acc,i,o,h,j,hj=>by simp at h
 |o'::l,acc,0,o,h,j,hj=>by
  simp at h;subst h;obtain⟨r,h1,h2⟩:=uz l (acc++[kI acc o'.after.toList]);have h3:cB acc (o'::l)=acc++(kI acc o'.after.toList::r):=by simp [cB,h1]
  rw[h3] at hj ⊢;simp at hj;obtain⟨ed,h4,h5,h6⟩:=yR hj;refine⟨ed,h4,h5,h6.imp (fun h=>h) fun h6=>?_⟩;have hlt:ed.on<acc.length:=by
   rcases lt_or_ge ed.on acc.length with h|h
   ·exact h
   ·simp [List.getD,List.getElem?_eq_none h] at h6
  simpa [List.getD,List.getElem?_append_left hlt] using h6
 |o'::l,acc,i+1,o,h,j,hj=>by
  have:=uP l (acc++[kI acc o'.after.toList]) i o (by simpa using h) j (by
   have h1:acc.length+(i+1)=(acc++[kI acc o'.after.toList]).length+i:=by simp;omega
   rw[← h1];exact hj)
  exact this
def uB:List Oper->Nat->Bool
 |[],_=>true
 |o::l,i=>match o.after.toList.all (fun ed=>match Region.binds .any ed with
  |true=>Nat.blt ed.on i
  |false=>true) with
  |true=>uB l (i+1)
  |false=>false
theorem kE:∀ {l:List Oper}{i:Nat},uB l i=true->∀ j o,l[j]?=some o->∀ ed∈o.after,Region.binds .any ed=true->ed.on<i+j
 |[],i,_,j,o,hj=>by simp at hj
 |x::l,i,h,j,o,hj=>by
  unfold uB at h;split at h
  ·rename_i hx;cases j with
   |zero =>
    simp at hj;subst hj;intro ed hed hb;have:=List.all_eq_true.1 hx ed (by simpa using hed);simp only[hb] at this;simpa using kg this
   |succ j =>
    intro ed hed hb;have:=kE h j o (by simpa using hj) ed hed hb;omega
  ·cases h
theorem pre_lt {ops:List Oper}(h:uB ops 0=true):∀ (i:Nat),i<ops.length->∀ j,((cB [] ops).getD i 0).testBit j=true->j<i:=by
 intro i
 induction i using Nat.strongRecOn with
 |ind i ih =>
  intro hi j hj;obtain⟨ed,h1,h2,h3⟩:=uP ops [] i ops[i] (List.getElem?_eq_getElem hi) j (by simpa using hj);have h4:=kE h i ops[i] (List.getElem?_eq_getElem hi) ed (by simpa using h1) h2;rw[zero_add] at h4;rcases h3 with rfl|h3
  ·exact h4
  ·exact Nat.lt_trans (ih ed.on h4 (Nat.lt_trans h4 hi) j h3) h4
def zp (pres:List Nat) (i j:Nat):Bool :=
 match Nat.beq i j with
 |true=>false
 |false=>match (pres.getD i 0).testBit j with
  |true=>false
  |false=>match (pres.getD j 0).testBit i with
   |true=>false
   |false=>true
def caP (k:Nat):List Nat->Bool
 |[]=>false
 |b::l=>match Nat.beq b k with
  |true=>true
  |false=>caP k l
def blksC:AC->List Nat
 |.ptr b _=>[b]
 |.slc b _ _ _=>[b]
 |.gsl b _=>[b]
 |.gso b _ _ _=>[b]
 |.fn b=>[b]
 |.yld b=>[b]
 |_=>[]
def cen:A1->List Nat
 |.one c=>blksC c
 |.agg cs=>cs.flatMap blksC
def Wv:Option AV->List Nat
 |some (.val a)=>cen a
 |some (.tup l)=>l.flatMap cen
 |none=>[]
def blksO:Option (uY D)->List Nat
 |some (.blk _ cs _)=>cs.flatMap blksC
 |some (.clo _ pre cap)=>pre.flatMap cen++cap.flatMap cen
 |some (.loop _ sl ..)=>sl.flatMap fun p=>Wv (some p.2)
 |some (.ep b ..)=>[b]
 |_=>[]
def fnsC:AC->List Nat
 |.fn b=>[b]
 |_=>[]
def fnsV:Option AV->List Nat
 |some (.val (.one c))=>fnsC c
 |some (.val (.agg cs))=>cs.flatMap fnsC
 |_=>[]
def epsV (M:cn D):Option AV->List Nat
 |some (.val (.one (.fn b)))=>match M b with
  |some (.ep l ..)=>[l]
  |_=>[]
 |_=>[]
def ccK (M:cn D):Nat->List Nat->List Nat->List Nat
 |0,_,seen=>seen
 |_+1,[],seen=>seen
 |n+1,b::l,seen=>match caP b seen with
  |true=>ccK M n l seen
  |false=>ccK M n (blksO (M b)++l) (b::seen)
def looks (V:cI) (M:cn D) (o:Oper):List Nat :=
 match o.op with
 |.load _ x=>Wv (cq V x)++epsV M (cq V x)
 |.store _ x y=>Wv (cq V x)++(epsV M (cq V x)++fnsV (cq V y))
 |.indexAddr _ x _=>fnsV (cq V x)
 |.box _ x=>fnsV (cq V x)
 |.build _ ps=>ps.toList.flatMap fun p=>fnsV (cq V p.2)
 |.buildSlice _ _ ps=>ps.toList.flatMap fun p=>fnsV (cq V p.2)
 |.call c=>match c.callee with
  |.builtin .len=>c.args.toList.flatMap fun x=>fnsV (cq V x)
  |.builtin _=>c.args.toList.flatMap fun x=>Wv (cq V x)
  |.value f=>ccK M 1000 (Wv (cq V f)++c.args.toList.flatMap fun x=>Wv (cq V x)) []
  |_=>[]
 |.slice _ x ..=>Wv (cq V x)
 |_=>[]
abbrev Acc (D:Type):=List (Nat×Out D)
def cT (p:Nat->Bool) (b:Nat):Acc D->Nat->Option (uY D)->Option (uY D)
 |[],_,cur=>cur
 |t::W,j,cur=>match p j with
  |true=>match find b t.2.ws with
   |some o=>cT p b W (j+1) (some o)
   |none=>cT p b W (j+1) cur
  |false=>cT p b W (j+1) cur
def cE (p:Nat->Bool) (t:Nat):List Oper->Acc D->Nat->Option AV->Option AV
 |o::ops,x::W,j,cur=>match p j with
  |true=>match o.dst with
   |some d=>match Nat.beq d t with
    |true=>cE p t ops W (j+1) (some x.2.x)
    |false=>cE p t ops W (j+1) cur
   |none=>cE p t ops W (j+1) cur
  |false=>cE p t ops W (j+1) cur
 |_,_,_,cur=>cur
def zh (pres:List Nat) (i t:Nat):List Oper->Nat->Bool
 |[],_=>false
 |o::l,j=>match o.dst with
  |some d=>match Nat.beq d t with
   |true=>match zp pres i j with
    |true=>true
    |false=>zh pres i t l (j+1)
   |false=>zh pres i t l (j+1)
  |none=>zh pres i t l (j+1)
def zn (pres:List Nat) (ops:List Oper) (acc:Acc D) (base:cI) (i:Nat):cI:=fun t =>
 match zh pres i t ops 0 with
 |true=>none
 |false=>cE (pres.getD i 0).testBit t ops acc 0 (base t)
def UG (pres:List Nat) (acc:Acc D) (base:cn D) (nb i:Nat):cn D:=fun b =>
 cT (pres.getD i 0).testBit b acc 0 (match Nat.ble nb b with
  |true=>none
  |false=>base b)
def Jh (pres:List Nat) (acc:Acc D) (base:cn D) (nb i:Nat) (q:List Nat):cn D:=fun b =>
 match UG pres acc base nb i b with
 |some (.blk ty cs z)=>match caP b q with
  |false=>none
  |true=>some (.blk ty cs z)
 |some (.gl ty z n g)=>match caP b q with
  |false=>none
  |true=>some (.gl ty z n g)
 |some .dead=>none
 |r=>r
def zi (S:Stat D) (T:Tab D) (CF YF:cj D) (pres:List Nat) (ops:List Oper) (bs:cI) (bm:cn D) (nb:Nat):List Oper->Nat->Nat->Acc D->Option (Acc D×Nat×List Prop)
 |[],_,n,acc=>some (acc,n,[])
 |o::l,i,n,acc=>match Uk S T CF YF (zn pres ops acc bs i) (Jh pres acc bm nb i (looks (zn pres ops acc bs i) (UG pres acc bm nb i) o)) n ops o with
  |some t=>match zi S T CF YF pres ops bs bm nb l (i+1) t.n1 (acc++[(n,t)]) with
   |some (W,n',ob)=>some (W,n',t.ob++ob)
   |none=>none
  |none=>none
def GG (M:cn D) (ws:Ws D):Ws D->Bool
 |[]=>true
 |p::l=>match M p.1 with
  |some _=>false
  |none=>match memN p.1 ws with
   |true=>false
   |false=>GG M ws l
def Cr (pres:List Nat) (M:cn D) (ws:Ws D) (i:Nat):Acc D->Nat->Bool
 |[],_=>true
 |t::W,j=>match t.2.ws with
  |[]=>Cr pres M ws i W (j+1)
  |p::l=>match zp pres i j with
   |true=>match GG M ws (p::l) with
    |true=>Cr pres M ws i W (j+1)
    |false=>false
   |false=>Cr pres M ws i W (j+1)
def WW (pres:List Nat) (ops:List Oper) (W:Acc D) (bs:cI) (bm:cn D) (nb:Nat):List Oper->Acc D->Nat->Bool
 |o::l,t::W',i=>match (match o.dst with
  |some d=>zh pres i d ops 0
  |none=>false) with
  |true=>false
  |false=>match Cr pres (Jh pres W bm nb i (looks (zn pres ops W bs i) (UG pres W bm nb i) o)) t.2.ws i W 0 with
   |true=>WW pres ops W bs bm nb l W' (i+1)
   |false=>false
 |[],[],_=>true
 |_,_,_=>false
def CY (nt:Nat):List Oper->Acc D->List (Nat×AV)->Option (List (Nat×AV))
 |o::l,t::W,sl=>match ZY nt o.dst t.2.x sl with
  |some sl'=>CY nt l W sl'
  |none=>none
 |_,_,sl=>some sl
def Uz:Acc D->Ws D->Ws D
 |[],m=>m
 |t::W,m=>Uz W (jy t.2.ws m)
def GO (S:Stat D) (T:Tab D) (CF YF:cj D) (nt:Nat) (base:cn D) (ops:List Oper) (st:St D):Option (St D×List Prop) :=
 match uB ops 0 with
 |false=>none
 |true=>match zi S T CF YF (cB [] ops) ops (fun t=>find t st.sl) (over base st.m) st.nb ops 0 st.nb [] with
  |none=>none
  |some (W,n,ob)=>match WW (cB [] ops) ops W (fun t=>find t st.sl) (over base st.m) st.nb ops W 0 with
   |false=>none
   |true=>match CY nt ops W st.sl with
    |some sl=>some (⟨n,sl,jy (Uz W []) st.m,st.ms⟩,ob)
    |none=>none
section
variable {pres:List Nat}
theorem cbR {i j:Nat}(h:zp pres i j=false):i=j\/(pres.getD i 0).testBit j=true\/(pres.getD j 0).testBit i=true:=by
 unfold zp at h;split at h
 ·rename_i hb;exact .inl (eq_of_beq_eq_true hb)
 ·split at h
  ·rename_i hb;exact .inr (.inl hb)
  ·split at h
   ·rename_i hb;exact .inr (.inr hb)
   ·cases h
theorem cdg {i j:Nat}(h1:i≠j) (h2:(pres.getD i 0).testBit j=false) (h3:(pres.getD j 0).testBit i=false):zp pres i j=true:=by
 unfold zp;have:Nat.beq i j=false:=by
  cases h:Nat.beq i j with
  |false=>rfl
  |true=>exact absurd (eq_of_beq_eq_true h) h1
 simp [this];rw[List.getD] at h2 h3;simp [h2,h3]
theorem zP {p:Nat->Bool}{b:Nat}:∀ {W:Acc D}{j:Nat}{cur:Option (uY D)},cT p b W j cur=(match cT p b W j none with|some o=>some o|none=>cur)
 |[],j,cur=>rfl
 |t::W,j,cur=>by
  unfold cT;split
  ·split
   ·rw[zP];cases cT p b W (j+1) none<;>rfl
   ·exact zP
  ·exact zP
theorem yf {p q:Nat->Bool}{b:Nat}:∀ {W:Acc D}{j:Nat}{cur:Option (uY D)},(∀ x t,W[x]?=some t->find b t.2.ws≠none->p (j+x)=q (j+x))->cT p b W j cur=cT q b W j cur
 |[],j,cur,_=>rfl
 |t::W,j,cur,h=>by
  have hr:∀ cur,cT p b W (j+1) cur=cT q b W (j+1) cur:=fun cur=>yf (fun x t' hx hf=>by
   have:=h (x+1) t' (by simpa using hx) hf;rw[show j+1+x=j+(x+1) by omega];exact this)
  unfold cT;cases hf:find b t.2.ws with
  |none =>
   simp only[];rw[hr];cases p j<;>cases q j<;>rfl
  |some o =>
   have:=h 0 t (by simp) (by rw[hf];simp);rw[add_zero] at this;rw[this];simp only[];rw[hr,hr]
theorem Ur {p:Nat->Bool}{b:Nat}:∀ {W:Acc D}{j i:Nat}{cur:Option (uY D)},(∀ x,j+i<=x->p x=false)->cT p b (W.take i) j cur=cT p b W j cur
 |[],j,i,cur,_=>by simp
 |t::W,j,0,cur,h=>by
  have:∀ (W:Acc D) (j:Nat),(∀ x,j<=x->p x=false)->cT p b W j cur=cur:=by
   intro W
   induction W with
   |nil=>intro j _;rfl
   |cons t W ih =>
    intro j hj;unfold cT;rw[hj j (le_refl _)];exact ih (j+1) (fun x hx=>hj x (by omega))
  rw[this (t::W) j (fun x hx=>h x (by omega))];rfl
 |t::W,j,i+1,cur,h=>by
  have hr:∀ cur,cT p b (W.take i) (j+1) cur=cT p b W (j+1) cur:=fun cur=>Ur (fun x hx=>h x (by omega));rw[List.take_succ_cons];unfold cT;simp only[hr]
theorem cci {p:Nat->Bool}{b i:Nat}{o:uY D}:∀ {W:Acc D}{j:Nat}{cur:Option (uY D)}{t:Nat×Out D},W[i]?=some t->p (j+i)=true->find b t.2.ws=some o->(∀ x t',i<x->W[x]?=some t'->p (j+x)=true->find b t'.2.ws=none)->cT p b W j cur=some o:=by
 intro W
 induction W generalizing i with
 |nil=>intro j cur t h;simp at h
 |cons t0 W ih =>
  intro j cur t h hp hf hx;cases i with
  |zero =>
   simp at h;subst h;unfold cT;rw[add_zero] at hp;rw[hp,hf];simp only[];have:∀ (W:Acc D) (j:Nat) (cur:Option (uY D)),(∀ x t',W[x]?=some t'->p (j+x)=true->find b t'.2.ws=none)->cT p b W j cur=cur:=by
    intro W
    induction W with
    |nil=>intro j cur _;rfl
    |cons t W ih =>
     intro j cur hj;unfold cT;have hr:=ih (j+1) cur (fun x t' h1 h2=>hj (x+1) t' (by simpa using h1) (by rw[show j+(x+1)=j+1+x by omega];exact h2));cases hpj:p j with
     |true =>
      have:=hj 0 t (by simp) (by simpa using hpj);simp only[this];exact hr
     |false=>exact hr
   exact this W (j+1) _ (fun x t' h1 h2=>hx (x+1) t' (by omega) (by simpa using h1) (by rw[show j+(x+1)=j+1+x by omega];exact h2))
  |succ i =>
   have hr:∀ cur,cT p b W (j+1) cur=some o:=fun cur=>ih (by simpa using h) (by rw[show j+1+i=j+(i+1) by omega];exact hp) hf (fun x t' h1 h2 h3=>hx (x+1) t' (by omega) (by simpa using h2) (by rw[show j+(x+1)=j+1+x by omega];exact h3));unfold cT;simp only[hr];cases p j<;>simp only[]<;>cases find b t0.2.ws<;>rfl
theorem yX {p q:Nat->Bool}{t:Nat}:∀ {ops:List Oper}{W:Acc D}{j:Nat}{cur:Option AV},(∀ x o,ops[x]?=some o->o.dst=some t->p (j+x)=q (j+x))->cE p t ops W j cur=cE q t ops W j cur
 |[],W,j,cur,_=>by simp [cE]
 |o::ops,[],j,cur,_=>by simp [cE]
 |o::ops,x::W,j,cur,h=>by
  have hr:∀ cur,cE p t ops W (j+1) cur=cE q t ops W (j+1) cur:=fun cur=>yX (fun x o' hx hd=>by
   have:=h (x+1) o' (by simpa using hx) hd;rw[show j+1+x=j+(x+1) by omega];exact this)
  unfold cE;simp only[hr];cases hd:o.dst with
  |none=>simp only[];cases p j<;>cases q j<;>rfl
  |some d =>
   simp only[];cases hb:Nat.beq d t with
   |true =>
    have:=h 0 o (by simp) (by rw[hd,eq_of_beq_eq_true hb]);rw[add_zero] at this;rw[this]
   |false=>simp only[];cases p j<;>cases q j<;>rfl
theorem Ej {p:Nat->Bool}{t:Nat}:∀ {ops:List Oper}{W:Acc D}{j i:Nat}{cur:Option AV},(∀ x,j+i<=x->p x=false)->cE p t ops (W.take i) j cur=cE p t ops W j cur
 |[],W,j,i,cur,_=>by simp [cE]
 |o::ops,[],j,i,cur,_=>by simp [cE]
 |o::ops,x::W,j,0,cur,h=>by
  have:∀ (ops:List Oper) (W:Acc D) (j:Nat),(∀ x,j<=x->p x=false)->cE p t ops W j cur=cur:=by
   intro ops
   induction ops with
   |nil=>intro W j _;simp [cE]
   |cons o ops ih =>
    intro W j hj;cases W with
    |nil=>simp [cE]
    |cons x W =>
     unfold cE;rw[hj j (le_refl _)];exact ih W (j+1) (fun x hx=>hj x (by omega))
  rw[this (o::ops) (x::W) j (fun x hx=>h x (by omega))];simp [cE]
 |o::ops,x::W,j,i+1,cur,h=>by
  have hr:∀ cur,cE p t ops (W.take i) (j+1) cur=cE p t ops W (j+1) cur:=fun cur=>Ej (fun x hx=>h x (by omega));rw[List.take_succ_cons];unfold cE;simp only[hr]
theorem caU {p:Nat->Bool}{t i:Nat}{o:Oper}{x:Nat×Out D}:∀ {ops:List Oper}{W:Acc D}{j:Nat}{cur:Option AV},ops[i]?=some o->W[i]?=some x->p (j+i)=true->o.dst=some t->(∀ y o',i<y->ops[y]?=some o'->p (j+y)=true->o'.dst≠some t)->cE p t ops W j cur=some x.2.x:=by
 intro ops
 induction ops generalizing i with
 |nil=>intro W j cur h;simp at h
 |cons o0 ops ih =>
  intro W j cur h hw hp hd hx;cases W with
  |nil=>simp at hw
  |cons w0 W =>
   cases i with
   |zero =>
    simp at h hw;subst h;subst hw;unfold cE;rw[add_zero] at hp;rw[hp,hd];simp only[Nat.beq_refl];have:∀ (ops:List Oper) (W:Acc D) (j:Nat) (cur:Option AV),(∀ y o',ops[y]?=some o'->p (j+y)=true->o'.dst≠some t)->cE p t ops W j cur=cur:=by
     intro ops
     induction ops with
     |nil=>intro W j cur _;simp [cE]
     |cons o ops ih =>
      intro W j cur hj;cases W with
      |nil=>simp [cE]
      |cons x W =>
       unfold cE;have hr:=ih W (j+1) cur (fun y o' h1 h2=>hj (y+1) o' (by simpa using h1) (by rw[show j+(y+1)=j+1+y by omega];exact h2));cases hpj:p j with
       |true =>
        have:=hj 0 o (by simp) (by simpa using hpj);simp only[];cases hod:o.dst with
        |none=>exact hr
        |some d =>
         simp only[];cases hb:Nat.beq d t with
         |true=>exact absurd (by rw[hod,eq_of_beq_eq_true hb]) this
         |false=>exact hr
       |false=>exact hr
    exact this ops W (j+1) _ (fun y o' h1 h2=>hx (y+1) o' (by omega) (by simpa using h1) (by rw[show j+(y+1)=j+1+y by omega];exact h2))
   |succ i =>
    have hr:∀ cur,cE p t ops W (j+1) cur=some x.2.x:=fun cur=>ih (by simpa using h) (by simpa using hw) (by rw[show j+1+i=j+(i+1) by omega];exact hp) hd (fun y o' h1 h2 h3=>hx (y+1) o' (by omega) (by simpa using h2) (by rw[show j+(y+1)=j+1+y by omega];exact h3));unfold cE;simp only[hr];cases p j<;>simp only[];cases o0.dst with
    |none=>rfl
    |some d=>simp only[];cases Nat.beq d t<;>rfl
theorem CZ {i t:Nat}:∀ {l:List Oper}{j:Nat},zh pres i t l j=false->∀ x o,l[x]?=some o->o.dst=some t->zp pres i (j+x)=false
 |[],j,_,x,o,h=>by simp at h
 |o0::l,j,hc,x,o,h=>by
  intro hd;unfold zh at hc;cases x with
  |zero =>
   simp at h;subst h;rw[hd] at hc;simp only[Nat.beq_refl] at hc;rw[add_zero];split at hc
   ·cases hc
   ·rename_i hu;exact hu
  |succ x =>
   have hr:zh pres i t l (j+1)=false:=by
    split at hc
    ·split at hc
     ·split at hc
      ·cases hc
      ·exact hc
     ·exact hc
    ·exact hc
   have:=CZ hr x o (by simpa using h) hd;rw[show j+(x+1)=j+1+x by omega];exact this
theorem WE {M:cn D}{ws:Ws D}:∀ {l:Ws D},GG M ws l=true->∀ b,find b l≠none->M b=none/\find b ws=none
 |[],_,b,h=>by simp [cC,ct] at h
 |p::l,hc,b,h=>by
  unfold GG at hc;split at hc
  ·cases hc
  ·rename_i hM;split at hc
   ·cases hc
   ·rename_i hm;by_cases hb:p.1=b
    ·subst hb;exact⟨hM,Zn hm⟩
    ·have hb':Nat.beq p.1 b=false:=by
      cases h:Nat.beq p.1 b with
      |false=>rfl
      |true=>exact absurd (eq_of_beq_eq_true h) hb
     simp only[cC,ct,hb'] at h;exact WE hc b h
theorem YM {M:cn D}{ws:Ws D}{i:Nat}:∀ {W:Acc D}{j:Nat},Cr pres M ws i W j=true->∀ x t,W[x]?=some t->zp pres i (j+x)=true->∀ b,find b t.2.ws≠none->M b=none/\find b ws=none
 |[],j,_,x,t,h=>by simp at h
 |t0::W,j,hp,x,t,h=>by
  intro hu;unfold Cr at hp;cases x with
  |zero =>
   simp at h;subst h;rw[add_zero] at hu;split at hp
   ·rename_i he;intro b hb;rw[he] at hb;exact absurd rfl hb
   ·rename_i p l he;rw[hu] at hp;simp only at hp;split at hp
    ·rename_i hc;rw[he];exact WE hc
    ·cases hp
  |succ x =>
   have hr:Cr pres M ws i W (j+1)=true:=by
    split at hp
    ·exact hp
    ·split at hp
     ·split at hp
      ·exact hp
      ·cases hp
     ·exact hp
   exact YM hr x t (by simpa using h) (by rw[show j+1+x=j+(x+1) by omega];exact hu)
theorem cca {ops:List Oper}{W:Acc D}{bs:cI}{bm:cn D}{nb:Nat}:∀ {l:List Oper}{W':Acc D}{i:Nat},WW pres ops W bs bm nb l W' i=true->∀ x o t,l[x]?=some o->W'[x]?=some t->(∀ d,o.dst=some d->zh pres (i+x) d ops 0=false)/\Cr pres (Jh pres W bm nb (i+x) (looks (zn pres ops W bs (i+x)) (UG pres W bm nb (i+x)) o)) t.2.ws (i+x) W 0=true
 |[],W',i,_,x,o,t,h=>by simp at h
 |o0::l,[],i,_,x,o,t,h=>by intro h2;simp at h2
 |o0::l,t0::W',i,hp,x,o,t,h=>by
  intro h2;unfold WW at hp;split at hp
  ·cases hp
  ·rename_i hd;split at hp
   ·rename_i hpi;cases x with
    |zero =>
     simp at h h2;subst h;subst h2;rw[add_zero];exact⟨fun d hd'=>by rw[hd'] at hd;exact hd,hpi⟩
    |succ x =>
     have:=cca hp x o t (by simpa using h) (by simpa using h2);rw[show i+(x+1)=i+1+x by omega];exact this
   ·cases hp
theorem YH {b:Nat}:∀ {W:Acc D}{j:Nat}{m:Ws D},find b (Uz W m)=(match cT (fun _=>true) b W j none with|some o=>some o|none=>find b m)
 |[],j,m=>rfl
 |t::W,j,m=>by
  unfold Uz cT;rw[YH (j:=j+1),yB];simp only[];cases hf:find b t.2.ws with
  |none=>rfl
  |some o =>
   simp only[];rw[zP (cur:=some o)];cases cT (fun _=>true) b W (j+1) none<;>rfl
def KI (dst:Option Tmp) (x:AV) (t:Nat) (cur:Option AV):Option AV :=
 match dst with
 |some d=>match Nat.beq d t with
  |true=>some x
  |false=>cur
 |none=>cur
theorem cfW {nt:Nat}{dst:Option Tmp}{x:AV}{sl sl':List (Nat×AV)}(h:ZY nt dst x sl=some sl') (t:Nat):find t sl'=KI dst x t (find t sl):=by
 unfold ZY at h;unfold KI;cases dst with
 |none=>injection h with h;subst h;rfl
 |some d =>
  simp only at h;split at h
  ·injection h with h;subst h
   rw[yB];simp only[cC,ct];cases Nat.beq d t<;>rfl
  ·cases h
theorem Ug {nt:Nat}{t:Nat}:∀ {l:List Oper}{W:Acc D}{j:Nat}{sl sl':List (Nat×AV)},CY nt l W sl=some sl'->find t sl'=cE (fun _=>true) t l W j (find t sl)
 |[],W,j,sl,sl',h=>by
  simp only[CY,Option.some.injEq] at h;subst h;simp [cE]
 |o::l,[],j,sl,sl',h=>by
  simp only[CY,Option.some.injEq] at h;subst h;simp [cE]
 |o::l,x::W,j,sl,sl',h=>by
  simp only[CY] at h;split at h
  ·rename_i sl1 hs;rw[Ug (j:=j+1) h,cfW hs];unfold KI
   conv=>rhs;unfold cE
   simp only[];cases o.dst with
   |none=>rfl
   |some d=>simp only[];cases Nat.beq d t<;>rfl
  ·cases h
theorem Zj {nt:Nat}:∀ {l:List Oper}{W:Acc D}{sl sl':List (Nat×AV)},CY nt l W sl=some sl'->∀ (x:Nat) (o:Oper) (t:Nat×Out D),l[x]?=some o->W[x]?=some t->∀ d,o.dst=some d->d<nt
 |[],W,sl,sl',_,x,o,t,h=>by simp at h
 |o0::l,[],sl,sl',_,x,o,t,h=>by intro h2;simp at h2
 |o0::l,x0::W,sl,sl',hp,x,o,t,h=>by
  intro h2 d hd;simp only[CY] at hp;split at hp
  ·rename_i sl1 hs;cases x with
   |zero =>
    simp at h;subst h;unfold ZY at hs;rw[hd] at hs;simp only at hs;split at hs
    ·rename_i hlt;exact kg hlt
    ·cases hs
   |succ x=>exact Zj hp x o t (by simpa using h) (by simpa using h2) d hd
  ·cases hp
end
end Pe
namespace Pe
variable {D:Type}
section
variable {S:Stat D}{T:Tab D}{CF YF:cj D}{pres:List Nat}{ops:List Oper}{bs:cI}{bm:cn D}{nb:Nat}
theorem EU (hF:CF.Mono) (hYF:YF.Mono):∀ {l:List Oper}{i n n':Nat}{acc W:Acc D}{ob:List Prop},zi S T CF YF pres ops bs bm nb l i n acc=some (W,n',ob)->acc.length=i->
 (∃ r,W=acc++r)/\W.length=i+l.length/\n<=n'/\
 (∀ j o,l[j]?=some o->∃ n1 t,W[i+j]?=some (n1,t)/\Uk S T CF YF (zn pres ops (W.take (i+j)) bs (i+j)) (Jh pres (W.take (i+j)) bm nb (i+j) (looks (zn pres ops (W.take (i+j)) bs (i+j)) (UG pres (W.take (i+j)) bm nb (i+j)) o)) n1 ops o=some t/\n<=n1/\t.n1<=n'/\(jc ob->jc t.ob))/\
 (∀ (j k:Nat) (tj tk:Nat×Out D),i<=j->j<k->W[j]?=some tj->W[k]?=some tk->tj.2.n1<=tk.1)
 |[],i,n,n',acc,W,ob,h,hl=>by
  simp only[zi,Option.some.injEq,Prod.mk.injEq] at h;obtain⟨rfl,rfl,rfl⟩:=h;refine⟨⟨[],by simp⟩,by simp [hl],le_refl _,fun j o h=>by simp at h,fun j k tj tk hij hjk hj hk=>?_⟩;have:=(List.getElem?_eq_some_iff.1 hj).1;omega
 |o::l,i,n,n',acc,W,ob,h,hl=>by
  simp only[zi] at h;split at h
  ·rename_i t ht;split at h
   ·rename_i W1 n1 ob1 hrest;injection h with h
    simp only[Prod.mk.injEq] at h;obtain⟨rfl,rfl,rfl⟩:=h;obtain⟨⟨r,hr⟩,h2,h3,h4,h5⟩:=EU hF hYF hrest (by simp [hl]);have hle:=cbH hF hYF ht;have hWi:W1[i]?=some (n,t):=by
     rw[hr,append_assoc,List.getElem?_append_right (by omega)];simp [hl]
    have htk:W1.take i=acc:=by
     rw[hr,append_assoc,List.take_append_of_le_length (by omega),take_of_length_le (by omega)]
    refine⟨⟨(n,t)::r,by rw[hr];simp⟩,by rw[h2];simp;omega,le_trans hle h3,?_,?_⟩
    ·intro j o' hj;cases j with
     |zero =>
      simp at hj;subst hj;refine⟨n,t,hWi,?_,le_refl _,h3,fun ha=>(jc.append ha).1⟩;rw[add_zero,htk];exact ht
     |succ j =>
      obtain⟨n2,t2,q1,q2,q3,q4,q5⟩:=h4 j o' (by simpa using hj);rw[show i+1+j=i+(j+1) by omega] at q1 q2;exact⟨n2,t2,q1,q2,by omega,q4,fun ha=>q5 (jc.append ha).2⟩
    ·intro j k tj tk hij hjk hj hk;rcases lt_or_ge i j with hlt|hge
     ·exact h5 j k tj tk hlt hjk hj hk
     ·have:j=i:=by omega
      subst this;rw[hWi] at hj;injection hj with hj
      subst hj;obtain⟨x,rfl⟩:∃ x,k=j+1+x:=⟨k-(j+1),by omega⟩;have hx:x<l.length:=by
       have:=(List.getElem?_eq_some_iff.1 hk).1;omega
      obtain⟨n2,t2,q1,q2,q3,q4,q5⟩:=h4 x l[x] (List.getElem?_eq_getElem hx);rw[hk] at q1;injection q1 with q1
      subst q1;exact q3
   ·cases h
  ·cases h
end
structure Inv (C : Ctx D) (nt : Nat) (e : Env) (w : World) (ops : Array Oper) (W : Acc D) (base : cI) (ds : List Deferred) (l : Array Bool) (a' : Act) (w' : World) : Prop where
  size : l.size = ops.size
  down : ∀ i, l.getD i false = true → ∀ j, ((cB [] ops.toList).getD i 0).testBit j = true → l.getD j false = true
  defers : a'.defers = ds
  tmps : a'.tmps.size = nt
  ex : ∃ e', Adv e w e' w' ∧ cL C e' w' ∧
    ((∀ b k, e'.ρ b = some k → e.ρ b = some k ∨ ∃ j t, W[j]? = some t ∧ l.getD j false = true ∧ t.1 ≤ b ∧ b < t.2.n1) ∧
     (∀ b k, e'.ν b = some k → e.ν b = some k ∨ ∃ j t, W[j]? = some t ∧ l.getD j false = true ∧ t.1 ≤ b ∧ b < t.2.n1) ∧
     (∀ b k, e'.φ b = some k → e.φ b = some k ∨ ∃ j t, W[j]? = some t ∧ l.getD j false = true ∧ t.1 ≤ b ∧ b < t.2.n1)) ∧
    (∀ b o, cT (fun j => l.getD j false) b W 0 none = some o → jj C e' w' b o) ∧
    (∀ b o, jj C e w b o → cT (fun j => l.getD j false) b W 0 none = none → jj C e' w' b o) ∧
    cU e' a' (fun t => cE (fun j => l.getD j false) t ops.toList W 0 (base t))
theorem ju {l:Array Bool}{i j:Nat}(hi:i<l.size):(l.setIfInBounds i true).getD j false=if j=i then true else l.getD j false:=by
 simp only[Array.getD_eq_getD_getElem?,Array.getElem?_setIfInBounds];by_cases h:j=i
 ·subst h;simp [hi]
 ·rw[if_neg (fun e=>h e.symm),if_neg h]
section
variable {F:Fence}{m:Nat}
variable {C:Ctx D}{e0 e:Env}{w0 w w':World}{a:Act}{T:Tab D}{CF YF:cj D}{n0 nt:Nat}{base:cn D}{Q:Exit->Act->World->Prop}{ops:Array Oper}
theorem cdQ (hW:Wd F) (hC:C.Ok) (hT:T.Ok C) (hF:CF.Ok C) (hFm:CF.Mono) (hY:uC C YF) (hYm:YF.Mono) (hb:cJ C e0 w0 base) {rid:Nat}{st st':St D}{ob:List Prop}(h:GO C.toStat T CF YF nt base ops.toList st=some (st',ob)) (ho:jc ob) (hf:jM n0 st'.nb e0)
 (hQ:∀ a w,Sat C nt e0 w0 n0 st' a w->Q .normal a w) {a:Act} {w:World} (hs:Sat C nt e0 w0 n0 st a w):(Code.region rid ops true).wpIn F m C.P Q a w:=by
 unfold GO at h;split at h
 ·cases h
 rename_i hord;split at h
 ·cases h
 rename_i W n ob' hgo;split at h
 ·cases h
 rename_i hpairs;split at h
 rotate_left
 ·cases h
 rename_i sl hput;injection h with h
 injection h with h h'
 subst h;subst h';obtain⟨_,hWl,hnn,hWs,hdis⟩:=EU hFm hYm hgo rfl;simp only[zero_add] at hWl hWs;obtain⟨⟨e,hL,hV,rs,hdf,hmk⟩,hsz⟩:=hs;have hlen:ops.toList.length=ops.size:=by simp
 have hbd:Below w.heap.size w { w with drawn:=w.drawn+1 }:=⟨rfl,rfl,rfl,le_refl _,fun _ _=>rfl⟩;have hLd:jY C e0 w0 n0 st.nb st.m e { w with drawn:=w.drawn+1 }:=by
  have:=hL.trans (jY.below hL.good hbd st.nb);exact this
 generalize hwd:({ w with drawn:=w.drawn+1 }:World)=wd at hLd;have hM:=kr hb hLd;have hFree:jM st.nb n e:=(hf.new (hLd.new.mono (le_refl _) (le_refl _)) hLd.le);refine wpIn_region_any hC.mixed ?_;rw[hwd];refine any_inv (Inv C nt e wd ops W (fun t=>find t st.sl) a.defers) ?_ ?_ ops.size _ a _ (by simp) (by unfold cam;simp) ?_
 ·-- a step
  intro l a1 w1 i hls hI hrdy;obtain⟨hsz1,hdown,hdf1,htm1,e1,hadv,hgood,⟨hρ,hν,hφ⟩,hw1,hk1,hs1⟩:=hI;have hfalse':=EA hrdy;have hil:i<l.size:=by
   rcases lt_or_ge i l.size with h|h
   ·exact h
   ·simp [Array.getElem?_eq_none h] at hfalse'
  have hfalse:l.getD i false=false:=by simp [Array.getD_eq_getD_getElem?,hfalse']
  obtain⟨_,o,hio,hr⟩:=mem_ready.1 hrdy;have hiol:ops.toList[i]?=some o:=by simpa using hio
  obtain⟨ni,t,hWi,hstep,hni,hti,hobt⟩:=hWs i o hiol;obtain⟨hclash,hpi⟩:=cca hpairs i o (ni,t) hiol hWi;simp only[zero_add] at hclash hpi;have hpi:=fun x t' h1 h2=>YM hpi x t' h1 (by simpa using h2);have hilen:i<ops.toList.length:=by omega
  have hpre:∀ j,((cB [] ops.toList).getD i 0).testBit j=true->l.getD j false=true:=by
   intro j hj;obtain⟨ed,h4,h5,h6⟩:=uP ops.toList [] i o hiol j (by simpa using hj);have h7:=hr ed (by simpa using h4) h5;rcases h6 with rfl|h6
   ·exact h7
   ·exact hdown ed.on h7 j h6
  have hpost:∀ j,((cB [] ops.toList).getD j 0).testBit i=true->l.getD j false=false:=by
   intro j hj;cases hlj:l.getD j false with
   |false=>rfl
   |true =>
    have:=hdown j hlj i hj;rw[hfalse] at this;cases this
  have hpii:∀ x,i<=x->((cB [] ops.toList).getD i 0).testBit x=false:=by
   intro x hx;cases hb:((cB [] ops.toList).getD i 0).testBit x with
   |false=>rfl
   |true=>have:=pre_lt hord i hilen x hb;omega
  have hcong:∀ j,zp (cB [] ops.toList) i j=false->((cB [] ops.toList).getD i 0).testBit j=l.getD j false:=by
   intro j hu;rcases cbR hu with h|h|h
   ·subst h;rw[hfalse,hpii i (le_refl _)]
   ·rw[h,hpre j h]
   ·rw[hpost j h];cases hb:((cB [] ops.toList).getD i 0).testBit j with
    |false=>rfl
    |true =>
     have h1:=hpre j hb;rw[hpost j h] at h1;cases h1
  have hVi:cU e1 a1 (zn (cB [] ops.toList) ops.toList (W.take i) (fun t=>find t st.sl) i):=by
   intro tt x hx;unfold zn at hx;split at hx
   ·cases hx
   ·rename_i hcl;rw[Ej (fun x hx=>hpii x (by omega))] at hx;rw[yX (q:=fun j=>l.getD j false) (fun x o' h1 h2=>by
     have:=CZ hcl x o' h1 h2;rw[zero_add] at this ⊢;exact hcong x this)] at hx
    exact hs1 tt x hx
  have hraw:UG (cB [] ops.toList) (W.take i) (over base st.m) st.nb i=UG (cB [] ops.toList) W (over base st.m) st.nb i:=by
   funext b;exact Ur (fun x hx=>hpii x (by omega))
  have hvs:zn (cB [] ops.toList) ops.toList (W.take i) (fun t=>find t st.sl) i=zn (cB [] ops.toList) ops.toList W (fun t=>find t st.sl) i:=by
   funext t;unfold zn;split
   ·rfl
   ·exact Ej (fun x hx=>hpii x (by omega))
  have hMi:cJ C e1 w1 (Jh (cB [] ops.toList) (W.take i) (over base st.m) st.nb i (looks (zn (cB [] ops.toList) ops.toList (W.take i) (fun t=>find t st.sl) i) (UG (cB [] ops.toList) (W.take i) (over base st.m) st.nb i) o)):=by
   intro b ob1 hob;rw[hvs,hraw] at hob;have hnone:Jh (cB [] ops.toList) W (over base st.m) st.nb i (looks (zn (cB [] ops.toList) ops.toList W (fun t=>find t st.sl) i) (UG (cB [] ops.toList) W (over base st.m) st.nb i) o) b=some ob1:=by
    unfold Jh at hob ⊢
    rwa [hraw] at hob
   have hcl:∀ x t',W[x]?=some t'->find b t'.2.ws≠none->((cB [] ops.toList).getD i 0).testBit (0+x)=l.getD (0+x) false:=by
    intro x t' h1 h2;rw[zero_add];cases hu:zp (cB [] ops.toList) i x with
    |false=>exact hcong x hu
    |true =>
     have:=(hpi x t' h1 hu b h2).1;rw[hnone] at this;cases this
   have hg:cT ((cB [] ops.toList).getD i 0).testBit b W 0 (match Nat.ble st.nb b with|true=>none|false=>over base st.m b)=some ob1:=by
    unfold Jh UG at hnone;split at hnone
    ·rename_i ty cs z hq;split at hnone
     ·cases hnone
     ·injection hnone with hnone;subst hnone;exact hq
    ·rename_i ty z n g hq;split at hnone
     ·cases hnone
     ·injection hnone with hnone;subst hnone;exact hq
    ·cases hnone
    ·exact hnone
   rw[zP] at hg;split at hg
   ·rename_i o2 ho2;injection hg with hg;subst hg
    rw[yf (q:=fun j=>l.getD j false) hcl] at ho2;exact hw1 b _ ho2
   ·rename_i hn;rw[yf (q:=fun j=>l.getD j false) hcl] at hn;split at hg
    ·cases hg
    ·exact hk1 b ob1 (hM b ob1 hg) hn
  have hfree:jM ni t.n1 e1:=by
   intro b h1 h2;obtain⟨q1,q2,q3⟩:=hFree b (by omega) (by omega);have hno:¬ ∃ j t',W[j]?=some t'/\l.getD j false=true/\t'.1<=b/\b<t'.2.n1:=by
    rintro⟨j,t',r1,r2,r3,r4⟩;rcases Nat.lt_trichotomy j i with hj|hj|hj
    ·have:=hdis j i t' (ni,t) (zero_le _) hj r1 hWi;simp only at this;omega
    ·subst hj;rw[hfalse] at r2;cases r2
    ·have:=hdis i j (ni,t) t' (zero_le _) hj hWi r1;simp only at this;omega
   refine⟨?_,?_,?_⟩
   ·cases hx:e1.ρ b with
    |none=>rfl
    |some x=>rcases hρ b x hx with h|h;(rw[q1] at h;cases h);exact absurd h hno
   ·cases hx:e1.ν b with
    |none=>rfl
    |some x=>rcases hν b x hx with h|h;(rw[q2] at h;cases h);exact absurd h hno
   ·cases hx:e1.φ b with
    |none=>rfl
    |some x=>rcases hφ b x hx with h|h;(rw[q3] at h;cases h);exact absurd h hno
  have hres:=cbM (F:=F) (m:=m) (Q:=Q) (K:=fun a' w'=>Inv C nt e wd ops W (fun t=>find t st.sl) a.defers (l.setIfInBounds i true) a' w') hW hC hT hF hY hVi hMi hgood hstep hfree (hobt ho) (fun v w2 hD=>by
   obtain⟨e2,hL2,hx2⟩:=hD;have hrng:∀ b,(ni<=b/\b<t.n1)->∃ j t',W[j]?=some t'/\(l.setIfInBounds i true).getD j false=true/\t'.1<=b/\b<t'.2.n1:=fun b hb=>⟨i,(ni,t),hWi,by rw[ju hil,if_pos rfl],hb.1,hb.2⟩;have hkeep:∀ b,(∃ j t',W[j]?=some t'/\l.getD j false=true/\t'.1<=b/\b<t'.2.n1)->∃ j t',W[j]?=some t'/\(l.setIfInBounds i true).getD j false=true/\t'.1<=b/\b<t'.2.n1:=by
    rintro b ⟨j,t',r1,r2,r3⟩;refine⟨j,t',r1,?_,r3⟩;rw[ju hil];split
    ·rfl
    ·exact r2
   have hgs:∀ b o2,find b t.ws=some o2->cT (fun j=>(l.setIfInBounds i true).getD j false) b W 0 none=some o2:=by
    intro b o2 hfb;refine cci hWi (by simp only[zero_add];rw[ju hil,if_pos rfl]) hfb ?_;intro x t' hx hWx hlx;rw[zero_add,ju hil,if_neg (by omega)] at hlx;cases hfx:find b t'.2.ws with
    |none=>rfl
    |some o3 =>
     have hu:zp (cB [] ops.toList) i x=true:=by
      refine cdg (by omega) (hpii x (by omega)) ?_;cases hb:((cB [] ops.toList).getD x 0).testBit i with
      |false=>rfl
      |true=>rw[hpost x hb] at hlx;cases hlx
     have:=(hpi x t' hWx hu b (by rw[hfx];simp)).2;rw[hfb] at this;cases this
   have hgn:∀ b,find b t.ws=none->cT (fun j=>(l.setIfInBounds i true).getD j false) b W 0 none=cT (fun j=>l.getD j false) b W 0 none:=by
    intro b hfb;refine yf (fun x t' h1 h2=>?_);simp only[zero_add];rw[ju hil];split
    ·rename_i hxi;subst hxi;rw[hWi] at h1;injection h1 with h1
     subst h1;exact absurd hfb h2
    ·rfl
   refine⟨by simpa using hsz1,?_,by rw[jC,hdf1],by rw[jR,htm1],e2,hadv.trans hL2.adv,hL2.good,⟨?_,?_,?_⟩,?_,?_,?_⟩
   ·intro x hxl j hj;rw[ju hil] at hxl ⊢;by_cases hji:j=i
    ·rw[if_pos hji]
    ·rw[if_neg hji];by_cases hxi:x=i
     ·subst hxi;exact hpre j hj
     ·rw[if_neg hxi] at hxl;exact hdown x hxl j hj
   ·intro b k hbk;rcases hL2.new.ρ b k hbk with h|h
    ·exact(hρ b k h).imp id (hkeep b)
    ·exact .inr (hrng b h)
   ·intro b k hbk;rcases hL2.new.ν b k hbk with h|h
    ·exact(hν b k h).imp id (hkeep b)
    ·exact .inr (hrng b h)
   ·intro b k hbk;rcases hL2.new.φ b k hbk with h|h
    ·exact(hφ b k h).imp id (hkeep b)
    ·exact .inr (hrng b h)
   ·intro b o2 hob;cases hfb:find b t.ws with
    |some o3 =>
     rw[hgs b o3 hfb] at hob;injection hob with hob;subst hob
     exact hL2.wrote b _ hfb
    |none =>
     rw[hgn b hfb] at hob;exact hL2.kept b o2 (hw1 b o2 hob) hfb
   ·intro b o2 hob hn;cases hfb:find b t.ws with
    |some o3 =>
     rw[hgs b o3 hfb] at hn;cases hn
    |none =>
     rw[hgn b hfb] at hn;exact hL2.kept b o2 (hk1 b o2 hob hn) hfb
   ·intro tt x hx;have hx:cE (fun j=>(l.setIfInBounds i true).getD j false) tt ops.toList W 0 (find tt st.sl)=some x:=hx;by_cases hd:o.dst=some tt
    ·have:=caU (p:=fun j=>(l.setIfInBounds i true).getD j false) (j:=0) (cur:=find tt st.sl) hiol hWi (by simp only[zero_add];rw[ju hil,if_pos rfl]) hd (fun y o' h1 h2 h3 h4=>by
      rw[zero_add,ju hil,if_neg (by omega)] at h3;have hu:=CZ (hclash tt hd) y o' h2 h4;rw[zero_add] at hu;have h5:=hcong y hu;rw[h3,hpii y (by omega)] at h5;cases h5)
     rw[this] at hx;injection hx with hx;subst hx
     have hlt:=Zj hput i o (ni,t) hiol hWi tt hd;rw[hd];refine⟨v,?_,hx2⟩;have:tt<a1.tmps.size:=by rw[htm1];exact hlt
     simp [Act.put,this]
    ·rw[yX (q:=fun j=>l.getD j false) (fun y o' h1 h2=>by
      rw[zero_add,ju hil];split
      ·rename_i hyi;subst hyi;rw[hiol] at h1;injection h1 with h1
       subst h1;exact absurd h2 hd
      ·rfl)] at hx
     obtain⟨u,h1,h2⟩:=hs1.ext hL2.adv.ext tt x hx;refine⟨u,?_,h2⟩;cases hdd:o.dst with
     |none=>exact h1
     |some d =>
      have:d≠tt:=fun h=>hd (by rw[hdd,h]);simp [Act.put,this,h1])
  unfold wpOpIn;simp only[hio];split at hres
  ·rename_i hw;rw[if_pos hw];exact hres
  ·rename_i hw;rw[if_neg hw];exact⟨fun f _=>hW.fn f,hres⟩
 ·-- the end
  intro l a1 w1 hls hI hrdy;obtain⟨hsz1,hdown,hdf1,htm1,e1,hadv,hgood,⟨hρ,hν,hφ⟩,hw1,hk1,hs1⟩:=hI;have hall:=cht hls (fun i o hio ed hed hbi=>by
   have:=kE hord i o (by simpa using hio) ed hed hbi;simpa using this) hrdy
  have hall':∀ i,i<ops.size->l.getD i false=true:=fun i hi=>by
   simp [Array.getD_eq_getD_getElem?,hall i hi]
  have hWlt:∀ x t,W[x]?=some t->x<ops.size:=fun x t hx=>by
   have:=(List.getElem?_eq_some_iff.1 hx).1;omega
  have hg:∀ b,cT (fun j=>l.getD j false) b W 0 none=cT (fun _=>true) b W 0 none:=fun b=>yf (fun x t hx _=>by
   simp only[zero_add];exact hall' x (hWlt x t hx))
  have hrng:∀ b,(∃ j t,W[j]?=some t/\l.getD j false=true/\t.1<=b/\b<t.2.n1)->st.nb<=b/\b<n:=by
   rintro b ⟨j,t,r1,r2,r3,r4⟩;have hj:j<ops.toList.length:=by have:=hWlt j t r1;omega
   obtain⟨n2,t2,q1,q2,q3,q4,q5⟩:=hWs j _ (List.getElem?_eq_getElem hj);rw[r1] at q1;injection q1 with q1
   subst q1;simp only at r3 r4;exact⟨by omega,by omega⟩
  have hcat:∀ b,find b (Uz W ([]:Ws D))=cT (fun _=>true) b W 0 none:=fun b=>by
   rw[YH (j:=0)];cases cT (fun _=>true) b W 0 none<;>rfl
  refine hQ a1 w1 ⟨⟨e1,hLd.trans (n2:=n) ⟨hnn,hadv,⟨fun b k h=>(hρ b k h).imp id (hrng b),fun b k h=>(hν b k h).imp id (hrng b),fun b k h=>(hφ b k h).imp id (hrng b)⟩,hgood,fun b o h=>?_,fun b o h1 h2=>?_⟩,?_,rs,hdf1.trans hdf,hmk.ext hadv.ext⟩,htm1⟩
  ·rw[hcat,← hg] at h;exact hw1 b o h
  ·rw[hcat,← hg] at h2;exact hk1 b o h1 h2
  ·intro tt x hx;have hx:find tt sl=some x:=hx;rw[Ug (j:=0) hput,← yX (p:=fun j=>l.getD j false) (fun y o' h1 h2=>by
    have:=(List.getElem?_eq_some_iff.1 h1).1;simp only[zero_add];exact hall' y (by omega))] at hx
   exact hs1 tt x hx
 ·-- the beginning
  have hf0:∀ j,(Array.replicate ops.size false).getD j false=false:=by
   intro j;simp only[Array.getD_eq_getD_getElem?,Array.getElem?_replicate];split<;>rfl
  have hfun:(fun j=>(Array.replicate ops.size false).getD j false)=fun _=>false:=funext hf0;have hg0:∀ b,cT (fun j=>(Array.replicate ops.size false).getD j false) b W 0 none=none:=by
   intro b;rw[hfun];have:∀ (W:Acc D) (j:Nat),cT (fun _=>false) b W j none=none:=by
    intro W
    induction W with
    |nil=>intro j;rfl
    |cons t W ih=>intro j;unfold cT;exact ih (j+1)
   exact this W 0
  have hs0:∀ (tt:Nat) (cur:Option AV),cE (fun j=>(Array.replicate ops.size false).getD j false) tt ops.toList W 0 cur=cur:=by
   intro tt cur;rw[hfun];have:∀ (ol:List Oper) (W:Acc D) (j:Nat),cE (fun _=>false) tt ol W j cur=cur:=by
    intro ol
    induction ol with
    |nil=>intro W j;simp [cE]
    |cons o ol ih =>
     intro W j;cases W with
     |nil=>simp [cE]
     |cons t W=>unfold cE;exact ih W (j+1)
   exact this _ W 0
  refine⟨by simp,fun i hi=>(by rw[hf0] at hi;cases hi),rfl,hsz,e,Adv.refl _ _,hLd.good,⟨fun _ _ h=>.inl h,fun _ _ h=>.inl h,fun _ _ h=>.inl h⟩,fun b o h=>(by rw[hg0] at h;cases h),fun b o h _=>h,?_⟩;intro tt x hx;have hx:cE (fun j=>(Array.replicate ops.size false).getD j false) tt ops.toList W 0 (find tt st.sl)=some x:=hx;rw[hs0] at hx;exact hV tt x hx
end
end Pe
namespace Pe
variable {D:Type}
def Eu (p:Nat->Bool) (t:Nat):List Oper->Nat->List Nat
 |[],_=>[]
 |o::l,j=>match p j with
  |true=>match o.dst with
   |some d=>match Nat.beq d t with
    |true=>Eu p t l (j+1)++[j]
    |false=>Eu p t l (j+1)
   |none=>Eu p t l (j+1)
  |false=>Eu p t l (j+1)
def nthX:Acc D->Nat->Option AV
 |[],_=>none
 |x::_,0=>some x.2.x
 |_::l,n+1=>nthX l n
def cez (i:Nat) (W:Acc D) (cur:Option AV):List Nat->Option AV
 |[]=>cur
 |j::l=>match nthX W (i-1-j) with
  |some x=>some x
  |none=>cez i W cur l
def wrs:Acc D->Nat->List (Nat×Ws D)
 |[],_=>[]
 |t::W,j=>match t.2.ws with
  |[]=>wrs W (j+1)
  |p::l=>(j,p::l)::wrs W (j+1)
def GD (p:Nat->Bool) (b:Nat):List (Nat×Ws D)->Option (uY D)->Option (uY D)
 |[],cur=>cur
 |t::l,cur=>match p t.1 with
  |true=>match find b t.2 with
   |some o=>GD p b l (some o)
   |none=>GD p b l cur
  |false=>GD p b l cur
def caG (pres:List Nat) (ops:List Oper) (acc:Acc D) (base:cI) (i:Nat):cI:=fun t =>
 match zh pres i t ops 0 with
 |true=>none
 |false=>cez i acc (base t) (Eu (pres.getD i 0).testBit t ops 0)
def ceN (pres:List Nat) (wr:List (Nat×Ws D)) (base:cn D) (nb i:Nat):cn D:=fun b =>
 GD (pres.getD i 0).testBit b wr (match Nat.ble nb b with
  |true=>none
  |false=>base b)
def car (pres:List Nat) (wr:List (Nat×Ws D)) (base:cn D) (nb i:Nat) (q:List Nat):cn D:=fun b =>
 match ceN pres wr base nb i b with
 |some (.blk ty cs z)=>match caP b q with
  |false=>none
  |true=>some (.blk ty cs z)
 |some (.gl ty z n g)=>match caP b q with
  |false=>none
  |true=>some (.gl ty z n g)
 |some .dead=>none
 |r=>r
def addW (i:Nat) (ws:Ws D) (wr:List (Nat×Ws D)):List (Nat×Ws D):=match ws with
 |[]=>wr
 |p::l=>wr++[(i,p::l)]
def JN (S:Stat D) (T:Tab D) (CF YF:cj D) (pres:List Nat) (ops:List Oper) (bs:cI) (bm:cn D) (nb:Nat):List Oper->Nat->Nat->Acc D->List (Nat×Ws D)->Option (Acc D×Nat×List Prop)
 |[],_,n,acc,_=>some (acc.reverse,n,[])
 |o::l,i,n,acc,wr=>match Uk S T CF YF (caG pres ops acc bs i) (car pres wr bm nb i (looks (caG pres ops acc bs i) (ceN pres wr bm nb i) o)) n ops o with
  |some t=>match JN S T CF YF pres ops bs bm nb l (i+1) t.n1 ((n,t)::acc) (addW i t.ws wr) with
   |some (W,n',ob)=>some (W,n',t.ob++ob)
   |none=>none
  |none=>none
def Gf (pres:List Nat) (M:cn D) (ws:Ws D) (i:Nat):List (Nat×Ws D)->Bool
 |[]=>true
 |t::l=>match zp pres i t.1 with
  |true=>match GG M ws t.2 with
   |true=>Gf pres M ws i l
   |false=>false
  |false=>Gf pres M ws i l
def Uc (pres:List Nat) (ops:List Oper):List Oper->Nat->Bool
 |o::l,i=>match (match o.dst with
  |some d=>zh pres i d ops 0
  |none=>false) with
  |true=>false
  |false=>Uc pres ops l (i+1)
 |[],_=>true
def Zd (pres:List Nat) (j:Nat):List Oper->Nat->Bool
 |[],_=>true
 |_::l,i=>match zp pres i j with
  |true=>false
  |false=>Zd pres j l (i+1)
def totAt (pres:List Nat) (ops:List Oper):Nat->Bool
 |0=>Zd pres 0 ops 0
 |k+1=>Zd pres (k+1) ops 0
def WG (pres:List Nat) (ops:List Oper):List (Nat×Ws D)->List (Nat×Ws D)
 |[]=>[]
 |t::l=>match totAt pres ops t.1 with
  |true=>WG pres ops l
  |false=>t::WG pres ops l
def Kt (pres:List Nat) (ops:List Oper) (W:Acc D) (wr lw:List (Nat×Ws D)) (bs:cI) (bm:cn D) (nb:Nat):List Oper->Acc D->Nat->Bool
 |o::l,t::W',i=>match Gf pres (car pres wr bm nb i (looks (zn pres ops W bs i) (ceN pres wr bm nb i) o)) t.2.ws i lw with
  |true=>Kt pres ops W wr lw bs bm nb l W' (i+1)
  |false=>false
 |[],[],_=>true
 |_,_,_=>false
def cds (pres:List Nat) (ops:List Oper) (W:Acc D) (wr:List (Nat×Ws D)) (bs:cI) (bm:cn D) (nb:Nat):Bool :=
 match WG pres ops wr with
 |[]=>true
 |p::l=>Kt pres ops W wr (p::l) bs bm nb ops W 0
def Yf (S:Stat D) (T:Tab D) (CF YF:cj D) (nt:Nat) (base:cn D) (ops:List Oper) (st:St D):Option (St D×List Prop) :=
 match uB ops 0 with
 |false=>none
 |true=>match JN S T CF YF (cB [] ops) ops (fun t=>find t st.sl) (over base st.m) st.nb ops 0 st.nb [] [] with
  |none=>none
  |some (W,n,ob)=>match Uc (cB [] ops) ops ops 0 with
   |false=>none
   |true=>match cds (cB [] ops) ops W (wrs W 0) (fun t=>find t st.sl) (over base st.m) st.nb with
    |false=>none
    |true=>match CY nt ops W st.sl with
     |some sl=>some (⟨n,sl,jy (Uz W []) st.m,st.ms⟩,ob)
     |none=>none
theorem cbD:∀ (W:Acc D) (k:Nat),nthX W k=W[k]?.map (fun x=>x.2.x)
 |[],k=>by simp [nthX]
 |x::W,0=>by simp [nthX]
 |x::W,k+1=>by simp [nthX,cbD W k]
def zO (j0:Nat) (W:Acc D) (cur:Option AV):List Nat->Option AV
 |[]=>cur
 |j::l=>match W[j-j0]? with
  |some x=>some x.2.x
  |none=>zO j0 W cur l
theorem YO {j0:Nat}{cur:Option AV}:∀ (L:List Nat),zO (D:=D) j0 [] cur L=cur
 |[]=>rfl
 |j::l=>by simp only[zO,List.getElem?_nil];exact YO l
theorem Wl {j0 k:Nat}{W:Acc D}{cur:Option AV}:∀ (L:List Nat),zO j0 W cur (L++[k])=zO j0 W (match W[k-j0]? with|some x=>some x.2.x|none=>cur) L
 |[]=>by cases h:W[k-j0]?<;>simp [zO,h]
 |j::l=>by
  simp only[cons_append,zO];rw[Wl l]
theorem WP {j0:Nat}{x:Nat×Out D}{W:Acc D}{cur:Option AV}:∀ (L:List Nat),(∀ k∈L,j0+1<=k)->zO j0 (x::W) cur L=zO (j0+1) W cur L
 |[],_=>rfl
 |j::l,h=>by
  have hj:=h j (by simp);have e:j-j0=(j-(j0+1))+1:=by omega
  simp only[zO];rw[e,List.getElem?_cons_succ,WP l (fun k hk=>h k (by simp [hk]))]
theorem CP {p:Nat->Bool}{t:Nat}:∀ (ops:List Oper) (j:Nat),∀ k∈Eu p t ops j,j<=k/\p k=true
 |[],j,k,hk=>by simp [Eu] at hk
 |o::l,j,k,hk=>by
  unfold Eu at hk;split at hk
  ·rename_i hp;split at hk
   ·split at hk
    ·rcases List.mem_append.1 hk with hk|hk
     ·have:=CP l (j+1) k hk;exact⟨by omega,this.2⟩
     ·simp at hk;subst hk;exact⟨le_refl _,hp⟩
    ·have:=CP l (j+1) k hk;exact⟨by omega,this.2⟩
   ·have:=CP l (j+1) k hk;exact⟨by omega,this.2⟩
  ·have:=CP l (j+1) k hk;exact⟨by omega,this.2⟩
theorem ur {p:Nat->Bool}{t:Nat}:∀ (ops:List Oper) (W:Acc D) (j:Nat) (cur:Option AV),cE p t ops W j cur=zO j W cur (Eu p t ops j)
 |[],W,j,cur=>by cases W<;>rfl
 |o::l,[],j,cur=>by rw[YO];rfl
 |o::l,x::W,j,cur=>by
  have hs:∀ c,zO j (x::W) c (Eu p t l (j+1))=zO (j+1) W c (Eu p t l (j+1)):=fun c=>WP _ (fun k hk=>(CP l (j+1) k hk).1);unfold cE Eu;cases hp:p j with
  |false=>simp only[];rw[ur l W (j+1)];exact(hs _).symm
  |true =>
   cases hd:o.dst with
   |none=>simp only[];rw[ur l W (j+1)];exact(hs _).symm
   |some d =>
    simp only[];cases hb:Nat.beq d t with
    |false=>simp only[];rw[ur l W (j+1)];exact(hs _).symm
    |true =>
     simp only[];rw[Wl,ur l W (j+1),Nat.sub_self,List.getElem?_cons_zero];exact(hs _).symm
theorem YR {W:Acc D}{cur:Option AV}:∀ (L:List Nat),(∀ k∈L,k<W.length)->cez W.length W cur L=zO 0 W.reverse cur L
 |[],_=>rfl
 |j::l,h=>by
  have hj:=h j (by simp);simp only[cez,zO];rw[cbD,Nat.sub_zero,List.getElem?_reverse hj,YR l (fun k hk=>h k (by simp [hk]))];cases W[W.length-1-j]?<;>rfl
theorem zY {p:Nat->Bool}{b:Nat}:∀ (W:Acc D) (j:Nat) (cur:Option (uY D)),cT p b W j cur=GD p b (wrs W j) cur
 |[],j,cur=>rfl
 |t::W,j,cur=>by
  unfold cT wrs;cases hw:t.2.ws with
  |nil =>
   simp only[cC];cases p j<;>exact zY W (j+1) cur
  |cons q l =>
   simp only[GD];cases p j with
   |false=>exact zY W (j+1) _
   |true =>
    simp only[];cases find b (q::l) with
    |none=>exact zY W (j+1) _
    |some o=>exact zY W (j+1) _
theorem ccn {x:Nat×Out D}:∀ (W:Acc D) (j:Nat),wrs (W++[x]) j=addW (j+W.length) x.2.ws (wrs W j)
 |[],j=>by
  simp only[nil_append,wrs,addW,List.length_nil,add_zero]
 |t::W,j=>by
  have e:j+1+W.length=j+(t::W).length:=by simp;omega
  simp only[cons_append,wrs];rw[ccn W (j+1),e];cases t.2.ws with
  |nil=>rfl
  |cons q l =>
   unfold addW;cases x.2.ws<;>rfl
section
variable {S:Stat D}{T:Tab D}{CF YF:cj D}{pres:List Nat}{ops:List Oper}{bs:cI}{bm:cn D}{nb:Nat}
theorem WY {W:Acc D}{i:Nat}:ceN pres (wrs W 0) bm nb i=UG pres W bm nb i:=by
 funext b;exact(zY W 0 _).symm
theorem ZJ {W:Acc D}{i:Nat}{q:List Nat}:car pres (wrs W 0) bm nb i q=Jh pres W bm nb i q:=by
 funext b;unfold car Jh;rw[WY]<;>(rcases UG pres W bm nb i b with _|o;rfl;cases o<;>rfl)
theorem cgk {acc:Acc D}(hp:∀ j,(pres.getD acc.length 0).testBit j=true->j<acc.length):caG pres ops acc bs acc.length=zn pres ops acc.reverse bs acc.length:=by
 funext t;unfold caG zn;split
 ·rename_i h;first|rfl|simp only[h]
 ·rename_i h
  try simp only[h]
  rw[ur,YR _ (fun k hk=>hp k (CP ops 0 k hk).2)]
theorem Wu:∀ (l:List Oper) (n:Nat) (acc:Acc D),(∀ k,k<acc.length+l.length->∀ j,(pres.getD k 0).testBit j=true->j<k)->JN S T CF YF pres ops bs bm nb l acc.length n acc (wrs acc.reverse 0)=zi S T CF YF pres ops bs bm nb l acc.length n acc.reverse
 |[],n,acc,_=>rfl
 |o::l,n,acc,h=>by
  have hS:=cgk (ops:=ops) (bs:=bs) (acc:=acc) (h acc.length (by simp));unfold JN zi;rw[hS,ZJ,WY];split
  ·rename_i t ht;have e1:addW acc.length t.ws (wrs acc.reverse 0)=wrs ((n,t)::acc).reverse 0:=by
    rw[List.reverse_cons,ccn,List.length_reverse,zero_add]
   have e2:acc.length+1=((n,t)::acc).length:=rfl;have ih:=Wu l t.n1 ((n,t)::acc) (fun k hk=>h k (by simp at hk ⊢;omega));rw[e1,e2,ih,List.reverse_cons]<;>first|rfl|(simp only[ht];rfl)
  ·rename_i ht
   first|rfl|simp only[ht]
theorem UZ:∀ (l:List Oper) (i n:Nat) (acc W:Acc D) (n':Nat) (ob:List Prop),zi S T CF YF pres ops bs bm nb l i n acc=some (W,n',ob)->W.length=acc.length+l.length
 |[],i,n,acc,W,n',ob,h=>by
  simp only[zi,Option.some.injEq,Prod.mk.injEq] at h;rw[← h.1];rfl
 |o::l,i,n,acc,W,n',ob,h=>by
  unfold zi at h;split at h
  ·split at h
   ·rename_i h2;injection h with h
    simp only[Prod.mk.injEq] at h;have:=UZ l _ _ _ _ _ _ h2;rw[← h.1,this];simp;omega
   ·cases h
  ·cases h
theorem WO {j:Nat}:∀ (l:List Oper) (i:Nat),Zd pres j l i=true->∀ k,i<=k->k<i+l.length->zp pres k j=false
 |[],i,_,k,h1,h2=>by simp at h2;omega
 |o::l,i,h,k,h1,h2=>by
  unfold Zd at h;split at h
  ·cases h
  ·rename_i hu;by_cases hk:k=i
   ·subst hk;exact hu
   ·exact WO l (i+1) h k (by omega) (by simp at h2;omega)
theorem ccT {j:Nat}(h:totAt pres ops j=true) {i:Nat}(hi:i<ops.length):zp pres i j=false:=by
 have:Zd pres j ops 0=true:=by cases j<;>exact h
 exact WO ops 0 this i (zero_le _) (by omega)
theorem EP {M:cn D}{ws:Ws D}{i:Nat}(hi:i<ops.length):∀ (wr:List (Nat×Ws D)),Gf pres M ws i wr=Gf pres M ws i (WG pres ops wr)
 |[]=>rfl
 |t::l=>by
  unfold WG;split
  ·rename_i h;rw[show Gf pres M ws i (t::l)=Gf pres M ws i l from by simp only[Gf,ccT h hi]];exact EP hi l
  ·simp only[Gf];rw[EP hi l]
theorem Jr {M:cn D}{ws:Ws D}{i:Nat}:∀ (W:Acc D) (j:Nat),Cr pres M ws i W j=Gf pres M ws i (wrs W j)
 |[],j=>rfl
 |t::W,j=>by
  unfold Cr wrs;cases hw:t.2.ws with
  |nil=>exact Jr W (j+1)
  |cons q l =>
   simp only[Gf];rw[Jr W (j+1)]<;>(cases zp pres i j<;>first|rfl|(simp only[];cases GG M ws (q::l)<;>rfl))
theorem cbv {W:Acc D}:∀ (l:List Oper) (W':Acc D) (i:Nat),i+l.length<=ops.length->WW pres ops W bs bm nb l W' i=(Uc pres ops l i&&Kt pres ops W (wrs W 0) (WG pres ops (wrs W 0)) bs bm nb l W' i)
 |[],[],i,_=>rfl
 |[],_::_,i,_=>rfl
 |o::l,[],i,_=>by
  rw[show Kt pres ops W (wrs W 0) (WG pres ops (wrs W 0)) bs bm nb (o::l) [] i=false from rfl,Bool.and_false];rfl
 |o::l,t::W',i,h=>by
  have ih:=cbv (W:=W) l W' (i+1) (by simp at h;omega);unfold WW Uc Kt;rw[Jr,EP (ops:=ops) (by simp at h;omega),ZJ,WY];cases o.dst with
  |none =>
   simp only[];split
   ·rename_i h2;first|exact ih|(simp only[h2];exact ih)
   ·rename_i h2;first|exact(Bool.and_false _).symm|simp only[h2,Bool.and_false]|simp only[Bool.and_false]
  |some d =>
   simp only[];cases zh pres i d ops 0 with
   |true=>rfl
   |false =>
    simp only[];split
    ·rename_i h2;first|exact ih|(simp only[h2];exact ih)
    ·rename_i h2;first|exact(Bool.and_false _).symm|simp only[h2,Bool.and_false]|simp only[Bool.and_false]
theorem WK {W:Acc D}{wr:List (Nat×Ws D)}:∀ (l:List Oper) (W':Acc D) (i:Nat),W'.length=l.length->Kt pres ops W wr [] bs bm nb l W' i=true
 |[],[],i,_=>rfl
 |[],_::_,i,h=>by simp at h
 |o::l,[],i,h=>by simp at h
 |o::l,t::W',i,h=>WK l W' (i+1) (by simpa using h)
theorem cfy {W:Acc D}(h:W.length=ops.length):WW pres ops W bs bm nb ops W 0=(Uc pres ops ops 0&&cds pres ops W (wrs W 0) bs bm nb):=by
 rw[cbv ops W 0 (by omega)];unfold cds;split
 ·rename_i h2;rw[h2,WK ops W 0 h]
 ·rename_i h2;rw[h2]
theorem Ut {nt:Nat}{base:cn D}{st:St D}:Yf S T CF YF nt base ops st=GO S T CF YF nt base ops st:=by
 unfold Yf GO;cases hio:uB ops 0 with
 |false=>rfl
 |true =>
  simp only[];have e:=Wu (S:=S) (T:=T) (CF:=CF) (YF:=YF) (pres:=cB [] ops) (ops:=ops) (bs:=fun t=>find t st.sl) (bm:=over base st.m) (nb:=st.nb) ops st.nb [] (fun k hk=>pre_lt hio k (by simpa using hk));have e:JN S T CF YF (cB [] ops) ops (fun t=>find t st.sl) (over base st.m) st.nb ops 0 st.nb [] []=zi S T CF YF (cB [] ops) ops (fun t=>find t st.sl) (over base st.m) st.nb ops 0 st.nb []:=e;rw[e];cases hgo:zi S T CF YF (cB [] ops) ops (fun t=>find t st.sl) (over base st.m) st.nb ops 0 st.nb [] with
  |none=>rfl
  |some r =>
   obtain⟨W,n,ob⟩:=r;have hl:=UZ _ _ _ _ _ _ _ hgo;simp only[];rw[cfy (by simpa using hl)];cases Uc (cB [] ops) ops ops 0<;>rfl
end
end Pe
end Go.Proofs.YtokieocpdcngcaaGreatDoor
