/- Part 3. -/
import Derived.Test.YtokieocpdcngcabGreatDoorV2
set_option linter.all false
open List (append_assoc append_nil drop_drop drop_zero length_append length_drop length_take mem_cons_of_mem take_append_drop take_of_length_le)
open Nat (add_assoc add_mul add_zero beq_refl eq_of_beq_eq_true le_of_lt le_refl le_succ le_trans lt_or_ge mul_le_mul_right one_mul zero_add zero_le)
open Option (map_none)
open Go.Result (andThen_ok)
open Go.Sem (run_bind run_pure)
noncomputable section

namespace Go.Proofs.YtokieocpdcngcabGreatDoor
open Go Go.RowKit Go.Proofs
namespace Pe
variable {D:Type}
def ceo (S:Stat D) (T:Tab D) (CF YF:cq D) (V:cV) (M:cB D) (n0:Nat) (o:Oper):Option (Out D) :=
 match cal S T V M n0 o with
 |some r=>some r
 |none=>zX S T CF YF V M n0 o
section
variable {F:Fence}{m:Nat}{YF:cq D}
variable {C:Ctx D}{e:Env}{a:Act}{w:World}{V:cV}{M:cB D}{T:Tab D}{CF:cq D}{n0:Nat}{K:Act->World->Prop}{Q:Exit->Act->World->Prop}{o:Oper}{t:Out D}
theorem xIx_is (hC:C.Ok) (hV:ji e a V) (hM:cP C e w M) (hg:cQ C e w) {ty:Nat}{x:Operand}{s:Src D}{j:Nat}(hs:ZU C.toStat M (cu V x)=some s) (hu:xIx C.toStat n0 ty s j=some t) (hf:kt n0 t.n1 e) (ho:cU t.ob) :
 ∃ v,(Instr.indexAt ty (a.eval x) (.int .i64 (.ofNat j))).run C.P w=.ok v w/\ue C e w n0 t v w:=by
 unfold xIx at hu;split at hu
 rotate_left
 ·cases hu
 rename_i el inf he;obtain⟨hel,hi⟩:=ut he;split at hu
 rotate_left
 ·cases hu
 rename_i hz;have hz:=eq_of_beq_eq_true hz;injection hu with hu;subst hu
 have hj:j<s.L.n:=ho.1;obtain⟨h1,h2⟩:=Un hC hV hM hg hs;rcases h1 with⟨h1,_⟩|⟨k,o,c,arr,pre,vs,rest,h3,_⟩
 ·omega
 have h0:(0:Int)<=Int.ofNat j/\Int.ofNat j<s.L.n:=⟨Int.natCast_nonneg j,Int.ofNat_lt.2 hj⟩;refine⟨.pointer (some ⟨k,o+j*s.L.z,none⟩),?_,?_⟩
 ·simp only[h3,Instr.indexAt,asIntOf,underlying,run_bind,run_pure,run_program,andThen_ok,hel,if_pos h0,jq hi,jg,hz];rfl
 ·cases hown:s.own with
  |true =>
   rw[hown] at h2;obtain⟨h4,h5⟩:=h2;obtain⟨v,q1,q2⟩:=hM _ _ h5;rw[h4] at q1;injection q1 with q1;subst q1
   rcases q2 with⟨q2,_⟩|⟨k',c',arr',vs',rest',q3,_,q5,_⟩
   ·omega
   rw[h3] at q5;injection q5 with q5;injection q5 with q5;injection q5 with q5 q6
   subst q5;subst q6;obtain⟨e',p1,p2⟩:=Ct (v:=.pointer (some ⟨k,0+j*s.L.z,none⟩)) (ob:=.ep s.id j s.L.z 0) hg hf (fun e' hx p=>⟨k,hx.ρ _ _ q3,by rw[p,zero_add,add_zero]⟩);exact⟨e',p1,p2⟩
  |false =>
   rw[hown] at h2;obtain⟨h4,_⟩:=h2;rw[h3] at h4;obtain⟨e',p1,p2⟩:=Ct (v:=.pointer (some ⟨k,o+j*s.L.z,none⟩)) (ob:=.cp s.id j s.L.z 0) hg hf (fun e' hx p=>⟨k,o,_,c,hx.ν _ _ h4,by rw[p,add_zero]⟩);exact⟨e',p1,p2⟩
theorem xFa_is (hV:ji e a V) (hM:cP C e w M) (hg:cQ C e w) {s f:Nat}{x:Operand}(hu:xFa C.toStat M n0 s f (cu V x)=some t) (hf:kt n0 t.n1 e) :
 ∃ v,(Instr.fieldAt s (a.eval x) f).run C.P w=.ok v w/\ue C e w n0 t v w:=by
 unfold xFa at hu;split at hu
 rotate_left
 ·cases hu
 rename_i b hx;have hv:e.φ b=some (a.eval x):=cF hV hx;split at hu
 rotate_left
 ·cases hu
 rename_i fl hfl;obtain⟨fs,g1,g2⟩:=yJ hfl;split at hu
 rotate_left
 ·cases hu
 rename_i inf hinf;split at hu
 ·cases hu
 rename_i n hsz;split at hu
 ·rename_i l i z o hb;injection hu with hu;subst hu
  obtain⟨k,h1,h2⟩:=hM _ _ hb;rw[hv] at h2;injection h2 with h2
  obtain⟨e',p1,p2⟩:=Ct (v:=.pointer (some ⟨k,i*z+o+fl.offset,none⟩)) (ob:=.ep l i z (o+fl.offset)) hg hf (fun e' hx p=>⟨k,hx.ρ _ _ h1,by rw[p,add_assoc]⟩);refine⟨_,?_,e',p1,p2⟩;simp [h2,Instr.fieldAt,underlying,g1,g2,Instr.sureAddr,fieldPlace,jq hinf,hsz,jg]
 ·rename_i l i z o hb;injection hu with hu;subst hu
  obtain⟨k,p,n',c,h1,h2⟩:=hM _ _ hb;rw[hv] at h2;injection h2 with h2
  obtain⟨e',p1,p2⟩:=Ct (v:=.pointer (some ⟨k,p+(i*z+o)+fl.offset,none⟩)) (ob:=.cp l i z (o+fl.offset)) hg hf (fun e' hx q=>⟨k,p,n',c,hx.ν _ _ h1,by rw[q,add_assoc,add_assoc]⟩);refine⟨_,?_,e',p1,p2⟩;simp [h2,Instr.fieldAt,underlying,g1,g2,Instr.sureAddr,fieldPlace,jq hinf,hsz,jg]
 ·cases hu
theorem ckI {α:Type}(vs:List α) {l h z j:Nat}(hj:j<h-l):((((vs.drop (l*z)).take ((h-l)*z)).drop (j*z)).take z)=(vs.drop ((l+j)*z)).take z:=by
 apply List.ext_getElem?;intro q;have h1:(j+1)*z<=(h-l)*z:=mul_le_mul_right z (by omega);rw[add_mul,one_mul] at h1;have h2:(l+j)*z=l*z+j*z:=add_mul l j z;rw[List.getElem?_take,List.getElem?_take];split
 ·rename_i hq;rw[List.getElem?_drop,List.getElem?_take,if_pos (by omega),List.getElem?_drop,List.getElem?_drop,h2];congr 1;omega
 ·rfl
theorem cgq {L:Lt D}{w:World}{l h k o c n:Nat}(h1:WT C w L (.slice (some ⟨k,o,none⟩) n c)) (hl:l<h) (hh:h<=L.n):WT C w ⟨L.lo,L.ty,L.z,h-l,fun j=>L.g (l+j)⟩ (.slice (some ⟨k,o+l*L.z,none⟩) (h-l) (c-l)):=by
 rcases h1 with⟨q1,_⟩|⟨k',o',c',arr,pre,vs,rest,q1,q2,q3,q4,q5,q6,q7,q8,q9⟩
 ·omega
 injection q1 with q1 q1' q1''
 injection q1 with q1
 injection q1 with q1 qo
 subst q1;subst qo;subst q1'';have hz:L.n*L.z=l*L.z+((h-l)*L.z+(L.n-h)*L.z):=by
  rw[← add_mul,← add_mul];congr 1;omega
 have hvs:vs=vs.take (l*L.z)++((vs.drop (l*L.z)).take ((h-l)*L.z)++(vs.drop (l*L.z)).drop ((h-l)*L.z)):=by
  rw[take_append_drop,take_append_drop]
 refine .inr ⟨k,o+l*L.z,c-l,arr,pre++vs.take (l*L.z),(vs.drop (l*L.z)).take ((h-l)*L.z),(vs.drop (l*L.z)).drop ((h-l)*L.z)++rest,rfl,?_,q3,?_,?_,?_,q7,?_,?_⟩
 ·show h-l<=c-l;omega
 ·rw[q4]
  conv=>lhs;rw[hvs]
  simp only[append_assoc]
 ·rw[length_append,q5,length_take];omega
 ·show _=(h-l)*L.z;rw[length_take,length_drop];omega
 ·exact fun v hv=>q8 v (List.mem_of_mem_drop (List.mem_of_mem_take hv))
 ·intro j hj;have hj:j<h-l:=hj;show cr C w (L.g (l+j)) _;rw[ckI vs hj];exact q9 (l+j) (by omega)
theorem xSl_is (hC:C.Ok) (hV:ji e a V) (hM:cP C e w M) (hg:cQ C e w) {ty:Nat}{x:Operand}{lo hi:Option Operand}(hu:xSl C.toStat n0 ty (ZU C.toStat M (cu V x)) (ze V lo) (ze V hi)=some t) (hf:kt n0 t.n1 e) (ho:cU t.ob) :
 ∃ v,(Instr.sliceAt ty (a.eval x) (lo.map a.eval) (hi.map a.eval) none).run C.P w=.ok v w/\ue C e w n0 t v w:=by
 cases hs:ZU C.toStat M (cu V x) with
 |none=>rw[hs] at hu;simp [xSl] at hu
 |some s =>
 cases hlo:ze V lo with
 |none=>rw[hs,hlo] at hu;simp [xSl] at hu
 |some l =>
 cases hhi:ze V hi with
 |none=>rw[hs,hlo,hhi] at hu;simp [xSl] at hu
 |some h =>
 rw[hs,hlo,hhi] at hu;unfold xSl at hu;simp only at hu;obtain⟨hr,h2⟩:=Un hC hV hM hg hs;split at hu
 rotate_left
 ·cases hu
 rename_i el inf hown he;obtain⟨hel,hinf⟩:=ut he;rw[hown] at h2;obtain⟨hν,d,hd,hL⟩:=h2;split at hu
 rotate_left
 ·cases hu
 rename_i hz;have hz:=eq_of_beq_eq_true hz;injection hu with hu;subst hu
 obtain⟨h3,h4,_⟩:=ho;rcases hr with⟨h5,_⟩|⟨k,o,c,arr,pre,vs,rest,h5,h6,_⟩
 ·omega
 obtain⟨f,q1,q2⟩:=hM _ _ hd;rw[hν] at q1;injection q1 with q1;subst q1
 have hrob:En C e w [.cls (C.mkL ⟨s.L.lo,s.L.ty,s.L.z,h.getD s.L.n-l.getD 0,fun j=>s.L.g (l.getD 0+j)⟩)] [.slice (some ⟨k,o+l.getD 0*s.L.z,none⟩) (h.getD s.L.n-l.getD 0) (c-l.getD 0)]:=by
  intro w' hk;obtain⟨v,q3,q4⟩:=hC.unlist _ _ _ _ hL (q2 w' hk);injection q3 with q3;subst q3
  rw[h5] at q4;exact Gz hC (hC.lists _ _ _ (cgq q4 h3 h4))
 have hsz:=hC.len _ _ _ (hC.lists _ _ _ (cgq (by
  obtain⟨v,q3,q4⟩:=hC.unlist _ _ _ _ hL (q2 w (kR.refl e w));injection q3 with q3;subst q3
  rw[h5] at q4;exact q4) h3 h4))
 have hsz:C.csz (C.mkL ⟨s.L.lo,s.L.ty,s.L.z,h.getD s.L.n-l.getD 0,fun j=>s.L.g (l.getD 0+j)⟩)=1:=hsz.symm;obtain⟨e',p1,v,ws,p2,p3,p4⟩:=JZ (cs:=[.sym n0 0]) (ws:=[(n0,.cls (C.mkL ⟨s.L.lo,s.L.ty,s.L.z,h.getD s.L.n-l.getD 0,fun j=>s.L.g (l.getD 0+j)⟩))]) (n1:=n0+1) hC hg (by simp only[kF,hsz,yt,append_nil]) hf hrob;injection p2 with p2 _
 subst p2;refine⟨_,?_,e',p1,p3⟩;have hb:=JY (C:=C) (w:=w) (n:=s.L.n) (c:=c) (mx:=none) (mx':=none) hV hlo hhi rfl (fun k h=>by cases h) (le_of_lt h3) (by simp only[Option.getD_none];omega) (by simp);simp only[Option.getD_none,map_none] at hb;have hne:¬ c=l.getD 0:=by omega
 simp [Instr.sliceAt,Instr.slice,h5,run_underlying hel,hb,jq hinf,hne,jg,hz]
theorem cdR (hC:C.Ok) (hM:cP C e w M):∀ {cs:List AC}{vs:List Value},yP (jB M) cs=true->cG e cs vs->∀ v∈vs,v.oneCell'=true
 |[],vs,_,h,v,hv=>by rw[show vs=[] from h] at hv;simp at hv
 |c::cs,_,h,⟨u,us,rfl,h1,h2⟩,v,hv=>by
  unfold yP at h;split at h
  ·rename_i hc;rcases List.mem_cons.1 hv with rfl|hv
   ·exact uL hC hM hc h1
   ·exact cdR hC hM h h2 v hv
  ·cases h
theorem ky.same {n1:Nat}{ws ws':Ws D}{e':Env}{w':World}(h:ky C e w n0 n1 ws e' w') (hs:∀ b,find b ws'=find b ws):ky C e w n0 n1 ws' e' w' :=
 ⟨h.le,h.adv,h.new,h.good,fun b o ho=>h.wrote b o (by rw[← hs];exact ho),fun b o ho hn=>h.kept b o ho (by rw[← hs];exact hn)⟩
theorem xBox_is (hC : C.Ok) (hV : ji e a V) (hM : cP C e w M) (hg : cQ C e w) {ty : Nat} {x : Operand} (hu : xBox C.toStat M n0 ty (cu V x) = some t) (hf : kt n0 t.n1 e) :
    ue C e w n0 t (.pointer (some ⟨w.heap.size, 0, none⟩)) { w with heap := w.heap.push (.cells (a.eval x).cells ty) } := by
  unfold xBox at hu
  split at hu
  rotate_left
  · cases hu
  rename_i y hy
  split at hu
  rotate_left
  · cases hu
  rename_i gs hs hgs hpos
  injection hu with hu; subst hu
  have hx : y.is e (a.eval x) := cF hV hy
  have hcs := A1.cells_are hC hM hx hs
  have hone := cdR hC hM hs hcs
  have hlen := hcs.length
  have hb := CK w (.cells (a.eval x).cells ty)
  have hk : (w.heap.push (.cells (a.eval x).cells ty))[w.heap.size]? = some (.cells (a.eval x).cells ty) := by simp
  have hrob := (Gh hC hM hgs hcs).adv (Adv.below hg hb)
  generalize hw : ({ w with heap := w.heap.push (.cells (a.eval x).cells ty) } : World) = w' at hb hrob ⊢
  have hk : w'.heap[w.heap.size]? = some (.cells (a.eval x).cells ty) := by rw [← hw]; exact hk
  have hlt : w.heap.size < w'.heap.size := (Array.getElem?_eq_some_iff.1 hk).1
  have hL : ∀ w'', kR e w' w'' → WT C w'' ⟨C.lo, ty, y.cells.length, 1, fun _ => gs⟩ (.slice (some ⟨w.heap.size, 0, none⟩) 1 1) := by
    intro w'' hkp
    refine .inr ⟨w.heap.size, 0, 1, (a.eval x).cells, [], (a.eval x).cells.toList, [], rfl, le_refl _, ⟨(0, 0), ?_⟩, by simp, rfl, ?_, le_trans hC.los hg.below.size, hone, fun j hj => ?_⟩
    · rw [hkp.block _ hlt (fun b hb' => by have := hg.lt hb'; omega)]
      exact hk
    · show _ = 1 * y.cells.length
      rw [hlen, one_mul]
    · obtain rfl : j = 0 := Nat.lt_one_iff.1 hj
      have := hrob w'' hkp
      rw [Nat.zero_mul, drop_zero, take_of_length_le (show _ ≤ y.cells.length by omega)]
      exact this
  have hsz : C.csz (C.mkL ⟨C.lo, ty, y.cells.length, 1, fun _ => gs⟩) = 1 := (hC.len _ _ _ (hC.lists _ _ _ (hL w' (kR.refl _ _)))).symm
  have l1 := ky.below (n0 := n0) hg hb
  obtain ⟨e1, l2, u, us, p2, p3, p4⟩ := JZ (cs := [.sym n0 0]) (ws := [(n0, .cls (C.mkL ⟨C.lo, ty, y.cells.length, 1, fun _ => gs⟩))]) (n1 := n0 + 1) (gs := [.cls (C.mkL ⟨C.lo, ty, y.cells.length, 1, fun _ => gs⟩)]) (vs := [.slice (some ⟨w.heap.size, 0, none⟩) 1 1]) hC l1.good (by simp only [kF, hsz, yt, append_nil]) (fun b h1 h2 => hf b h1 (Nat.lt_succ_of_lt h2)) (fun w'' hkp => Gz hC (hC.lists _ _ _ (hL w'' hkp)))
  injection p2 with p2 _
  subst p2
  obtain ⟨l, q1, q2, _⟩ := p3
  have hν : e1.ν n0 = some [.slice (some ⟨w.heap.size, 0, none⟩) 1 1] := by
    obtain ⟨f, r1, r2⟩ := l2.wrote n0 (.cls (C.mkL ⟨C.lo, ty, y.cells.length, 1, fun _ => gs⟩)) (by simp [cC])
    rw [q1] at r1; injection r1 with r1; subst r1
    obtain ⟨v, r3, _⟩ : ∃ v, l = [v] ∧ True := by
      have := hC.len _ _ _ r2.out
      rw [hsz] at this
      match l, this with
      | [v], _ => exact ⟨v, rfl, trivial⟩
    subst r3
    rw [q1]
    have q2 : [v][0]? = some _ := q2
    injection q2 with q2
    rw [q2]
  have hf2 : kt (n0 + 1) (n0 + 1 + 1) e1 := fun b h1 h2 => by
    obtain ⟨f1, f2, f3⟩ := hf b (by omega) h2
    refine ⟨?_, ?_, ?_⟩
    · cases hb : e1.ρ b with
      | none => rfl
      | some z => rcases l2.new.ρ b z hb with h | h
                  · rw [f1] at h; cases h
                  · omega
    · cases hb : e1.ν b with
      | none => rfl
      | some z => rcases l2.new.ν b z hb with h | h
                  · rw [f2] at h; cases h
                  · omega
    · cases hb : e1.φ b with
      | none => rfl
      | some z => rcases l2.new.φ b z hb with h | h
                  · rw [f3] at h; cases h
                  · omega
  obtain ⟨e2, l3, hφ⟩ := Ct (v := .pointer (some ⟨w.heap.size, 0, none⟩)) (ob := .cp n0 0 y.cells.length 0) l2.good hf2 (fun e' hx p => ⟨w.heap.size, 0, 1, 1, hx.ν _ _ hν, by rw [p]; simp⟩)
  refine ⟨e2, ((l1.trans l2).trans l3).same (fun b => ?_), hφ⟩
  simp only [zF, cC, cI]
  cases Nat.beq (n0 + 1) b <;> cases Nat.beq n0 b <;> rfl
theorem epOb {n1 ty:Nat}{p:Epo D}(hu:caN C.toStat n1 ty p=some t) (ho:cU t.ob):p.i<p.L.n:=by
 unfold caN at hu
 repeat' (split at hu<;>try (cases hu;done))
 all_goals (injection hu with hu;subst hu;exact ho.1)
theorem epOb' {n1 ty:Nat}{p:Epo D}{cs:List AC}(hu:UN C.toStat M n1 ty p cs=some t) (ho:cU t.ob):p.i<p.L.n:=by
 unfold UN at hu
 repeat' (split at hu<;>try (cases hu;done))
 all_goals (injection hu with hu;subst hu;exact ho.1)
theorem cjK (hW:Wd F) (hC:C.Ok) (hV:ji e a V) (hM:cP C e w M) (hg:cQ C e w) (hu:cal C.toStat T V M n0 o=some t) (hf:kt n0 t.n1 e) (ho:cU t.ob)
 (hK:∀ v w',ue C e w n0 t v w'->K (a.put o.dst v) w'):o.wpIn F m C.P a w K Q:=by
 have hnd:CW o:=by
  intro c hc;unfold cal at hu;rw[hc] at hu;cases hu
 unfold cal at hu;split at hu
 ·rename_i ty x hop;split at hu
  rotate_left
  ·cases hu
  rename_i p hp;have hi:=epOb hu ho;obtain⟨k,o',arr,pre,vs,rest,h1,h2,h3,h4,h5,h6,_,_⟩:=cho hC hV hM hg hp hi;obtain⟨v,h7,h8⟩:=ckD hC hg hu hf h2 h3 h4 (h6 _ hi);exact ct hW hnd (by simp [execOp,hop,h1,Instr.loadAt,Instr.sureAddr,h7]) (hK _ _ h8)
 ·rename_i ty x y hop;split at hu
  rotate_left
  ·cases hu
  rename_i p hp;split at hu
  rotate_left
  ·cases hu
  rename_i z hz;have hi:=epOb' hu ho;obtain⟨k,o',arr,pre,vs,rest,h1,h2,h3,h4,h5,h6,h7,h8⟩:=cho hC hV hM hg hp hi;obtain⟨w',h9,h10⟩:=ciT hC hM hg (cF hV hz) hu hi h2 h3 h5 h6 h7 h8;have:(execOp a.eval o).run C.P w=.ok .skip w':=by simp [execOp,hop,h1,Instr.storeAt,Instr.sureAddr,h9]
  refine⟨fun f _=>hW.fn f,?_⟩;rw[Oper.semAt_eq _ _ _ hnd,this];exact hK _ _ h10
 ·rename_i ty x i hop;split at hu
  rotate_left
  ·cases hu
  rename_i s hs;split at hu
  rotate_left
  ·cases hu
  rename_i j hj;have hi:=jK hV hj;obtain⟨v,h1,h2⟩:=xIx_is hC hV hM hg hs hu hf ho;exact ct hW hnd (v:=v) (w':=w) (by simp only[execOp,hop,hi,run_bind,h1];rfl) (hK _ _ h2)
 ·rename_i s x f hop;obtain⟨v,h1,h2⟩:=xFa_is hV hM hg hu hf;exact ct hW hnd (v:=v) (w':=w) (by simp only[execOp,hop,run_bind,h1];rfl) (hK _ _ h2)
 ·rename_i ty x lo hi hop;obtain⟨v,h1,h2⟩:=xSl_is hC hV hM hg hu hf ho;exact ct hW hnd (v:=v) (w':=w) (by simp only[execOp,hop,map_none,run_bind,h1];rfl) (hK _ _ h2)
 ·rename_i ty l c hop;split at hu
  rotate_left
  ·cases hu
  cases hl:lit? (cu V l) with
  |none=>rw[hl] at hu;simp [xMk] at hu
  |some vl =>
   cases hc:lit? (cu V c) with
   |none=>rw[hl,hc] at hu;unfold xMk at hu;split at hu<;>simp_all
   |some vc =>
    rw[hl,hc] at hu;obtain⟨v,w',h1,h2⟩:=xMk_is hC hg hu hf ho;exact ct hW hnd (w':=w') (by simp [execOp,hop,jK hV hl,jK hV hc,h1]) (hK _ _ h2)
 ·rename_i ty hop;obtain⟨v,w',h1,h2⟩:=xBs_is hg hu hf;refine ct hW hnd (w':=w') ?_ (hK _ _ h2);simp only[execOp,hop,run_bind];rw[show (Array.map (fun x:Nat×Operand=>(x.1,a.eval x.2)) { toList:=[] })=#[] by simp,h1];rfl
 ·rename_i ty x hop;split at hu
  ·cases hu
  refine ct hW hnd (v:=.pointer (some ⟨w.heap.size,0,none⟩)) (w':={ w with heap:=w.heap.push (.cells (a.eval x).cells ty) }) ?_ (hK _ _ (xBox_is hC hV hM hg hu hf));simp [execOp,hop,Instr.box,zx]
 ·rename_i c hop;split at hu
  ·rename_i hcal;split at hu
   rotate_left
   ·cases hu
   rename_i x hargs;have ha:c.args.map a.eval=#[a.eval x]:=by
    apply Array.ext';simp [hargs]
   split at hu
   rotate_left
   ·cases hu
   rename_i s ty hs hty;split at hu
   rotate_left
   ·cases hu
   rename_i el hel;obtain⟨ao,cp,hx,_⟩:=(Un hC hV hM hg hs).1.shape;refine uA hW hnd hg hu (v:=goInt s.L.n) ?_ rfl hK;have hty':c.argTypes[0]?=some ty:=hty;simp [execOp,hop,resolve,hcal,ha,invoke,builtin,Builtin.len_,hty',run_underlying hel,hx]
  ·rename_i hcal;split at hu
   rotate_left
   ·cases hu
   rename_i s x hargs;have ha:c.args.map a.eval=#[a.eval s,a.eval x]:=by
    apply Array.ext';simp [hargs]
   obtain⟨v,w',h1,h2⟩:=xApp_is hC hV hM hg hu hf ho o.type;have h1:(Builtin.append_ c.argTypes o.type #[a.eval s,a.eval x]).run C.P w=.ok v w':=by simpa using h1
   exact ct hW hnd (w':=w') (by simp [execOp,hop,resolve,hcal,ha,invoke,builtin,h1]) (hK _ _ h2)
  ·cases hu
 ·cases hu
theorem ckE (hW:Wd F) (hC:C.Ok) (hT:T.Ok C) (hF:CF.Ok C) (hY:uQ C YF) (hV:ji e a V) (hM:cP C e w M) (hg:cQ C e w) (hu:ceo C.toStat T CF YF V M n0 o=some t) (hf:kt n0 t.n1 e) (ho:cU t.ob)
 (hK:∀ v w',ue C e w n0 t v w'->K (a.put o.dst v) w'):o.wpIn F m C.P a w K Q:=by
 unfold ceo at hu;split at hu
 ·rename_i r hr;injection hu with hu;subst hu
  exact cjK hW hC hV hM hg hr hf ho hK
 ·exact Cs hW hC hT hF hY hV hM hg hu hf ho hK
end
section
variable {S:Stat D}{T:Tab D}{V:cV}{M:cB D}{n0:Nat}{o:Oper}{t:Out D}
theorem cjM (hu:cal S T V M n0 o=some t):n0<=t.n1:=by
 unfold cal at hu
 repeat' (split at hu<;>try (cases hu;done))
 ·unfold caN at hu
  repeat' (split at hu<;>try (cases hu;done))
  all_goals (rename_i hm;injection hu with hu;subst hu;exact yu hm)
 ·unfold UN at hu
  repeat' (split at hu<;>try (cases hu;done))
  all_goals (injection hu with hu;subst hu;exact le_refl _)
 ·unfold xIx at hu
  repeat' (split at hu<;>try (cases hu;done))
  all_goals (injection hu with hu;subst hu;exact le_succ _)
 ·unfold xFa at hu
  repeat' (split at hu<;>try (cases hu;done))
  all_goals (injection hu with hu;subst hu;exact le_succ _)
 ·unfold xSl at hu
  repeat' (split at hu<;>try (cases hu;done))
  all_goals (injection hu with hu;subst hu;exact le_succ _)
 ·unfold xMk at hu
  repeat' (split at hu<;>try (cases hu;done))
  all_goals (injection hu with hu;subst hu;exact le_succ _)
 ·unfold xBs at hu
  repeat' (split at hu<;>try (cases hu;done))
  all_goals (injection hu with hu;subst hu;exact le_succ _)
 ·unfold xBox at hu
  repeat' (split at hu<;>try (cases hu;done))
  all_goals (injection hu with hu;subst hu;exact Nat.le_add_right _ 2)
 ·injection hu with hu;subst hu;exact le_refl _
 ·unfold xApp at hu
  repeat' (split at hu<;>try (cases hu;done))
  all_goals (injection hu with hu;subst hu;exact le_succ _)
end
end Pe
namespace Pe
variable {D:Type}
structure St (D:Type) where
 nb:Nat
 sl:List (Nat×AV)
 m:Ws D
 ms:List Nat
def over (base:cB D) (m:Ws D):cB D:=fun b=>match find b m with
 |some o=>some o
 |none=>base b
def ccA (nt:Nat) (dst:Option Tmp) (x:AV) (sl:List (Nat×AV)):Option (List (Nat×AV)) :=
 match dst with
 |none=>some sl
 |some d=>match Nat.blt d nt with
  |true=>some (jT [(d,x)] sl)
  |false=>none
def ccm (V:cV) (ops:List Oper) (o:Oper):Option Bool :=
 match o.guard with
 |none=>some true
 |some (j,want)=>match ops[j]? with
  |some oj=>match oj.dst with
   |some t=>match lit? (V t) with
    |some (.bool b)=>match b,want with
     |true,true=>some true
     |false,false=>some true
     |_,_=>some false
    |some (.tuple ⟨[]⟩)=>some false
    |_=>none
   |none=>none
  |none=>none
def ZK (S:Stat D) (T:Tab D) (CF YF:cq D) (V:cV) (M:cB D) (n0:Nat) (ops:List Oper) (o:Oper):Option (Out D) :=
 match ccm V ops o with
 |some true=>ceo S T CF YF V M n0 o
 |some false=>out n0 Ku
 |none=>none
def Jq (S:Stat D) (T:Tab D) (CF YF:cq D) (nt:Nat) (base:cB D) (ops:List Oper):List Oper->St D->Option (St D×List Prop)
 |[],st=>some (st,[])
 |o::l,st=>match ZK S T CF YF (fun t=>find t st.sl) (over base st.m) st.nb ops o with
  |some t=>match ccA nt o.dst t.x st.sl with
   |some sl=>match Jq S T CF YF nt base ops l ⟨t.n1,sl,jT t.ws st.m,st.ms⟩ with
    |some (st',ob)=>some (st',t.ob++ob)
    |none=>none
   |none=>none
  |none=>none
def cq.Mono (CF:cq D):Prop:=∀ M n0 f l t,CF M n0 f l=some t->n0<=t.n1
section
variable {S:Stat D}{T:Tab D}{CF YF:cq D}{V:cV}{M:cB D}{n0:Nat}{t:Out D}
theorem mkR_le {csz:D->Nat}{p:cL D}{s s':Nat}{x:AV}{l:Ws D}(h:mkR csz s p=some (x,l,s')):s<=s':=by
 cases p with
 |val p =>
  simp only[mkR] at h;split at h
  ·rename_i hp;injection h with h
   simp only[Prod.mk.injEq] at h;have:=ccf hp;omega
  ·cases h
 |tup ps =>
  simp only[mkR] at h;split at h
  ·rename_i hp;injection h with h
   simp only[Prod.mk.injEq] at h;have:=JB hp;omega
  ·cases h
theorem cbP {x:AV}(h:(out n0 x:Option (Out D))=some t):n0<=t.n1:=by
 injection h with h;subst h;exact le_refl _
theorem ckw {P:Program}{s:Sem Value}(h:(kX P n0 s:Option (Out D))=some t):n0<=t.n1:=by
 unfold kX at h;split at h
 ·exact cbP h
 ·cases h
theorem JN {ty:Nat}{cs:List AC}{z:Option Nat}{x:AC}(h:yA S n0 ty cs z x=some t):n0<=t.n1:=by
 unfold yA at h;split at h
 ·injection h with h;subst h;exact le_succ _
 ·cases h
theorem cgt {h:Hd}{d:Nat}{xs:List Operand}(hu:zD S T V M n0 d h xs=some t):n0<=t.n1:=by
 unfold zD at hu
 repeat' (split at hu<;>try (cases hu;done))
 rename_i hm;injection hu with hu;subst hu
 exact mkR_le hm
theorem ckA (hF:CF.Mono) {f:FuncId}{d:Nat}{l:List AV}(hu:WL S T CF M n0 d f l=some t):n0<=t.n1:=by
 unfold WL at hu;split at hu
 ·rename_i hr;injection hu with hu;subst hu
  unfold memA at hr
  repeat' (split at hr<;>try (cases hr;done))
  injection hr with hr;subst hr
  exact le_refl _
 split at hu
 ·repeat' (split at hu<;>try (cases hu;done))
  rename_i hm;injection hu with hu;subst hu
  exact mkR_le hm
 ·exact hF _ _ _ _ _ hu
theorem ciO {ty b o:Nat}{cs:List AC}(hu:Uw S M n0 ty b o cs=some t):n0<=t.n1:=by
 unfold Uw at hu
 repeat' (split at hu<;>try (cases hu;done))
 injection hu with hu;subst hu
 exact le_refl _
theorem bsA_le {ty n:Nat}{ps:Array (Nat×Operand)}(hu:bsA S V M n0 ty n ps=some t):n0<=t.n1:=by
 unfold bsA at hu
 repeat' (split at hu<;>try (cases hu;done))
 exact JN hu
theorem mkA_le {ty:Nat}{l c:Option Value}(hu:mkA S n0 ty l c=some t):n0<=t.n1:=by
 unfold mkA at hu
 repeat' (split at hu<;>try (cases hu;done))
 exact JN hu
theorem ceT {ats:List Nat}{s:AV}{x:Option AV}(hu:JU S M n0 ats s x=some t):n0<=t.n1:=by
 unfold JU at hu
 repeat' (split at hu<;>try (cases hu;done))
 all_goals first
  |exact JN hu
  |(injection hu with hu;subst hu;first|exact le_refl _|exact le_succ _)
theorem ciM {ats:List Nat}{x:Option AV}(hu:UP S M n0 ats x=some t):n0<=t.n1:=by
 unfold UP at hu
 repeat' (split at hu<;>try (cases hu;done))
 injection hu with hu;subst hu
 exact le_refl _
theorem chV {ty:Nat}{x:Option AV}{lo hi mx:Option Operand}(hu:UC S V M n0 ty x lo hi mx=some t):n0<=t.n1:=by
 unfold UC at hu
 repeat' (split at hu<;>try (cases hu;done))
 all_goals exact cbP hu
theorem cij (hF:CF.Mono) (hYF:YF.Mono) {o:Oper}(hu:zX S T CF YF V M n0 o=some t):n0<=t.n1:=by
 rw[UG] at hu;unfold Yn at hu;simp only at hu
 repeat' (split at hu<;>try (cases hu;done))
 all_goals first
  |exact cbP hu
  |exact ckw hu
  |exact JN hu
  |exact cgt hu
  |exact ckA hF hu
  |exact ciO hu
  |exact bsA_le hu
  |exact ceT hu
  |exact ciM hu
  |exact hYF _ _ _ _ _ hu
  |(injection hu with hu;subst hu;rename_i h;first|exact chV h|exact mkA_le h|exact cgt h)
  |(injection hu with hu;subst hu;exact le_succ _)
theorem ckj (hF:CF.Mono) (hYF:YF.Mono) {o:Oper}(hu:ceo S T CF YF V M n0 o=some t):n0<=t.n1:=by
 unfold ceo at hu;split at hu
 ·rename_i r hr;injection hu with hu;subst hu
  exact cjM hr
 ·exact cij hF hYF hu
theorem cep (hF:CF.Mono) (hYF:YF.Mono) {ops:List Oper}{o:Oper}(hu:ZK S T CF YF V M n0 ops o=some t):n0<=t.n1:=by
 unfold ZK at hu;split at hu
 ·exact ckj hF hYF hu
 ·exact cbP hu
 ·cases hu
theorem UL (hF:CF.Mono) (hYF:YF.Mono) {nt:Nat}{base:cB D}{ops:List Oper}:∀ {l:List Oper}{st st':St D}{ob:List Prop},Jq S T CF YF nt base ops l st=some (st',ob)->st.nb<=st'.nb
 |[],st,st',ob,h=>by
  simp only[Jq,Option.some.injEq,Prod.mk.injEq] at h;rw[h.1];exact le_refl _
 |o::l,st,st',ob,h=>by
  simp only[Jq] at h;split at h
  ·rename_i t ht;split at h
   ·split at h
    ·rename_i st1 ob1 hs;injection h with h;injection h with h1 h2;subst h1
     exact le_trans (cep hF hYF ht) (UL hF hYF hs)
    ·cases h
   ·cases h
  ·cases h
end
def Jp (r:Nat):Deferred:={ target:=.collected r,args:=#[] }
def Km (e:Env):List Nat->List Nat->Prop
 |[],rs=>rs=[]
 |b::bs,rs=>∃ r rs',rs=r::rs'/\e.ρ b=some r/\Km e bs rs'
theorem Km.ext {e e':Env}(h:Ext e e'):∀ {bs rs:List Nat},Km e bs rs->Km e' bs rs
 |[],_,hm=>hm
 |_::_,_,⟨r,rs',h1,h2,h3⟩=>⟨r,rs',h1,h.ρ _ _ h2,Km.ext h h3⟩
structure Sat (C:Ctx D) (nt:Nat) (e0:Env) (w0:World) (n0:Nat) (st:St D) (a:Act) (w:World):Prop where
 ex:∃ e,ky C e0 w0 n0 st.nb st.m e w/\ji e a (fun t=>find t st.sl)/\∃ rs,a.defers=rs.map Jp/\Km e st.ms rs
 size:a.tmps.size=nt
section
variable {F:Fence}{m:Nat}
variable {C:Ctx D}{e0 e:Env}{w0 w w':World}{a:Act}{T:Tab D}{CF YF:cq D}{n0 nt:Nat}{base:cB D}{Q:Exit->Act->World->Prop}
theorem kx (a:Act) (d:Option Tmp) (v:Value):(a.put d v).tmps.size=a.tmps.size:=by cases d<;>simp [Act.put]
theorem jZ (a:Act) (d:Option Tmp) (v:Value):(a.put d v).defers=a.defers:=by cases d<;>rfl
theorem kH (hb:cP C e0 w0 base) {m:Ws D}{n1:Nat}(h:ky C e0 w0 n0 n1 m e w):cP C e w (over base m):=fun b o ho=>by
 unfold over at ho;split at ho
 ·rename_i o' hf;injection ho with ho;subst ho
  exact h.wrote b _ hf
 ·rename_i hn;exact h.kept b o (hb b o ho) hn
theorem ZI {e e':Env}{dst:Option Tmp}{x:AV}{sl sl':List (Nat×AV)}(hs:a.tmps.size=nt) (hV:ji e a (fun t=>find t sl)) (hp:ccA nt dst x sl=some sl') (hx:Ext e e') {v:Value}(hv:x.is e' v):ji e' (a.put dst v) (fun t=>find t sl'):=by
 unfold ccA at hp;split at hp
 ·injection hp with hp;subst hp
  exact hV.ext hx
 ·rename_i d;split at hp
  ·rename_i hd;have hd:=kU hd;injection hp with hp;subst hp
   intro t y hy;have hy:find t (jT [(d,x)] sl)=some y:=hy;rw[zF] at hy;by_cases hdt:d=t
   ·subst hdt;simp only[cI,cC,beq_refl] at hy;injection hy with hy;subst hy
    exact⟨v,by simp [Act.put,hs,hd],hv⟩
   ·have hb:Nat.beq d t=false:=by
     cases h:Nat.beq d t with
     |false=>rfl
     |true=>exact absurd (eq_of_beq_eq_true h) hdt
    simp only[cI,cC,hb] at hy;obtain⟨u,h1,h2⟩:=hV.ext hx t y hy;exact⟨u,by simp [Act.put,hdt,h1],h2⟩
  ·cases hp
theorem KF {ops:Array Oper}{a:Act}{oj:Oper}{j:Nat}{t:Tmp}{b:Bool}(ho:ops[j]?=some oj) (hd:oj.dst=some t) (he:a.eval (.tmp t)=.bool b):yielded ops a.tmps j=some b:=by
 unfold yielded;simp only[ho,Option.bind_some,hd];simp only[Act.eval,Array.getD_eq_getD_getElem?] at he;cases h:a.tmps[t]? with
 |none=>rw[h] at he;simp [undef] at he
 |some x=>rw[h] at he;simp at he;rw[he]
theorem cen (hW:Wd F) (hC:C.Ok) (hT:T.Ok C) (hF:CF.Ok C) (hY:uQ C YF) {V:cV}{M:cB D}(hV:ji e a V) (hM:cP C e w M) (hg:cQ C e w) {ops:Array Oper}{o:Oper}{n:Nat}{t:Out D}(hu:ZK C.toStat T CF YF V M n ops.toList o=some t) (hf:kt n t.n1 e) (ho:cU t.ob) {K:Act->World->Prop}
 (hK:∀ v w',ue C e w n t v w'->K (a.put o.dst v) w'):if Region.wanted o (yielded ops a.tmps) then o.wpIn F m C.P a w K Q else K (a.put o.dst undef) w:=by
 unfold ZK at hu;have hgo:∀ g,ccm V ops.toList o=some g->Region.wanted o (yielded ops a.tmps)=g:=by
  intro g hg;unfold ccm at hg;split at hg
  ·rename_i hgu;injection hg with hg;subst hg
   simp [Region.wanted,hgu]
  ·rename_i j want hgu;split at hg
   ·rename_i oj hoj;have hoj:ops[j]?=some oj:=by simpa using hoj
    split at hg
    ·rename_i t ht;split at hg
     ·rename_i b hb;have hy:=KF hoj ht (jK hV (x:=.tmp t) hb);split at hg<;>injection hg with hg<;>subst hg
      ·simp [Region.wanted,hgu,hy]
      ·simp [Region.wanted,hgu,hy]
      ·rename_i n1 n2;simp only[Region.wanted,hgu,hy];cases b<;>cases want<;>simp_all
     ·rename_i hb;have he:a.eval (.tmp t)=.tuple #[]:=jK hV (x:=.tmp t) hb;injection hg with hg;subst hg
      have hy:yielded ops a.tmps j=none:=by
       unfold yielded;simp only[hoj,Option.bind_some,ht];simp only[Act.eval,Array.getD_eq_getD_getElem?] at he;cases h:a.tmps[t]? with
       |none=>rfl
       |some x=>rw[h] at he;simp at he;rw[he]
      simp [Region.wanted,hgu,hy]
     ·cases hg
    ·cases hg
   ·cases hg
 split at hu
 ·rename_i hgu;rw[hgo _ hgu,if_pos rfl];exact ckE hW hC hT hF hY hV hM hg hu hf ho hK
 ·rename_i hgu;rw[hgo _ hgu,if_neg (by simp)];injection hu with hu;subst hu
  exact hK _ _ (ue.here hg rfl)
 ·cases hu
theorem cay (hW:Wd F) (hC:C.Ok) (hT:T.Ok C) (hF:CF.Ok C) (hFm:CF.Mono) (hY:uQ C YF) (hYm:YF.Mono) (hb:cP C e0 w0 base) {ops:Array Oper}:∀ (k:Nat) (l:List Oper) (i:Nat) (st st':St D) (ob:List Prop),l.length=k->ops.toList.drop i=l->Jq C.toStat T CF YF nt base ops.toList l st=some (st',ob)->cU ob->kt n0 st'.nb e0->
 (∀ a w,Sat C nt e0 w0 n0 st' a w->Q .normal a w)->∀ a w,Sat C nt e0 w0 n0 st a w->wpOpsIn F m C.P ops Q (List.range' i k) a w
 |0,l,i,st,st',ob,hl,hd,h,ho,hf,hQ,a,w,hs=>by
  have:l=[]:=by simpa using hl
  subst this;simp only[Jq,Option.some.injEq,Prod.mk.injEq] at h;rw[← h.1] at hQ;exact hQ a w hs
 |k+1,[],i,st,st',ob,hl,hd,h,ho,hf,hQ,a,w,hs=>by simp at hl
 |k+1,o::l,i,st,st',ob,hl,hd,h,ho,hf,hQ,a,w,hs=>by
  simp only[Jq] at h;split at h
  ·rename_i t ht;split at h
   ·rename_i sl hsl;split at h
    ·rename_i st1 ob1 hrest;injection h with h;injection h with h1 h2;subst h1;subst h2
     obtain⟨ho1,ho2⟩:=ho.append;have hmono:=UL hFm hYm hrest;obtain⟨⟨e,hL,hV,rs,hdf,hmk⟩,hsz⟩:=hs;have hio:ops[i]?=some o:=by
      have:=congrArg (fun l=>l[0]?) hd;simpa using this
     have hf1:kt st.nb t.n1 e:=(hf.new (hL.new.mono (le_refl _) (le_refl _)) hL.le).mono (le_refl _) hmono;have hstep:=cen (F:=F) (m:=m) (Q:=Q) (K:=wpOpsIn F m C.P ops Q (List.range' (i+1) k)) hW hC hT hF hY hV (kH hb hL) hL.good ht hf1 ho1 (fun v w' hD=>by
      obtain⟨e',hL',hx⟩:=hD;refine cay hW hC hT hF hFm hY hYm hb k l (i+1) ⟨t.n1,sl,jT t.ws st.m,st.ms⟩ st1 ob1 (by simpa using hl) ?_ hrest ho2 hf hQ _ _ ⟨⟨e',hL.trans hL',ZI hsz hV hsl hL'.adv.ext hx,rs,by rw[jZ,hdf],hmk.ext hL'.adv.ext⟩,by rw[kx,hsz]⟩;rw[← drop_drop,hd];rfl)
     rw[List.range'_succ];simp only[wpOpsIn,hio];split at hstep
     ·rename_i hw;rw[if_pos hw];exact hstep
     ·rename_i hw;rw[if_neg hw];exact⟨fun f _=>hW.fn f,hstep⟩
    ·cases h
   ·cases h
  ·cases h
end
end Pe
namespace Pe
variable {D:Type}
section
variable {F:Fence}{m:Nat}{P:Program}{ops:Array Oper}{Q:Exit->Act->World->Prop}{md:Region.Mode}
def ccI (l:Array Bool):Nat:=(l.toList.filter (fun b=>!b)).length
theorem cdf {l:Array Bool}{i:Nat}(h:l[i]?=some false):ccI (l.setIfInBounds i true)+1=ccI l:=by
 obtain⟨xs⟩:=l;unfold ccI;simp only[List.getElem?_toArray] at h;simp only[List.setIfInBounds_toArray]
 induction xs generalizing i with
 |nil=>simp at h
 |cons x xs ih =>
  cases i with
  |zero=>simp at h;subst h;simp
  |succ i =>
   simp at h;have:=ih h;cases x<;>simp [List.set_cons_succ]<;>omega
theorem GV {l:Array Bool}{i:Nat}(hm:i∈Region.ready md ops l):l[i]?=some false:=by
 have h1:=(mem_ready.1 hm).1;have hlt:i<l.size:=by
  rcases lt_or_ge i l.size with h|h
  ·exact h
  ·simp [Array.getElem?_eq_none h] at h1
 rw[Array.getElem?_eq_getElem hlt];simp [hlt] at h1;rw[h1]
theorem any_inv (Inv:Array Bool->Act->World->Prop)
 (step:∀ l a w i,l.size=ops.size->Inv l a w->i∈Region.ready md ops l->wpOpIn F m P ops Q i (fun a' w'=>Inv (l.setIfInBounds i true) a' w') a w)
 (done:∀ l a w,l.size=ops.size->Inv l a w->Region.ready md ops l=[]->Q .normal a w) :
 ∀ (fuel:Nat) (l:Array Bool) (a:Act) (w:World),l.size=ops.size->ccI l<=fuel->Inv l a w->wpAnyIn F m P md ops Q fuel l a w:=by
 intro fuel
 induction fuel with
 |zero =>
  intro l a w hs hl hi;have hr:Region.ready md ops l=[]:=by
   cases hx:Region.ready md ops l with
   |nil=>rfl
   |cons i is =>
    have hm:i∈Region.ready md ops l:=by rw[hx];simp
    have:=cdf (GV hm);omega
  exact⟨hr,done l a w hs hi hr⟩
 |succ fuel ih =>
  intro l a w hs hl hi;refine⟨fun hr=>done l a w hs hi hr,fun i hm=>?_⟩;have h3:=cdf (GV hm);exact wpOpIn_mono (fun a' w' h=>ih _ a' w' (by simpa using hs) (by omega) h) (step l a w i hs hi hm)
theorem cjH {l:Array Bool}(hs:l.size=ops.size) (ht:∀ (i:Nat) (o:Oper),ops[i]?=some o->∀ e∈o.after,Region.binds md e=true->e.on<i) (hr:Region.ready md ops l=[]) :
 ∀ i,i<ops.size->l[i]?=some true:=by
 intro i
 induction i using Nat.strongRecOn with
 |ind i ih =>
  intro hi;have hl:i<l.size:=by omega
  rw[Array.getElem?_eq_getElem hl];cases hb:l[i] with
  |true=>rfl
  |false =>
   exfalso;have hm:i∈Region.ready md ops l:=by
    refine mem_ready.2 ⟨by simp [hl,hb],ops[i],Array.getElem?_eq_getElem hi,fun e he hbi=>?_⟩;have h1:=ht i ops[i] (Array.getElem?_eq_getElem hi) e he hbi;have h2:=ih e.on h1 (by omega);simp [h2]
   rw[hr] at hm;cases hm
end
def uo (pres:List Nat):List Edge->Nat
 |[]=>0
 |ed::l=>match Region.binds .any ed with
  |true=>2^ed.on||| pres.getD ed.on 0||| uo pres l
  |false=>uo pres l
def cJ:List Nat->List Oper->List Nat
 |acc,[]=>acc
 |acc,o::l=>cJ (acc++[uo acc o.after.toList]) l
theorem zv {pres:List Nat}{j:Nat}:∀ {l:List Edge},(uo pres l).testBit j=true->∃ ed∈l,Region.binds .any ed=true/\(ed.on=j\/(pres.getD ed.on 0).testBit j=true)
 |[],h=>by simp [uo] at h
 |ed::l,h=>by
  unfold uo at h;split at h
  ·rename_i hb;simp only[Nat.testBit_or,Bool.or_eq_true] at h;rcases h with(h|h)|h
   ·rw[Nat.testBit_two_pow] at h;exact⟨ed,by simp,hb,.inl (by simpa using h)⟩
   ·exact⟨ed,by simp,hb,.inr h⟩
   ·obtain⟨d,h1,h2⟩:=zv h;exact⟨d,mem_cons_of_mem _ h1,h2⟩
  ·obtain⟨d,h1,h2⟩:=zv h;exact⟨d,mem_cons_of_mem _ h1,h2⟩
theorem yq:∀ (l:List Oper) (acc:List Nat),∃ r,cJ acc l=acc++r/\r.length=l.length
 |[],acc=>⟨[],by simp [cJ],rfl⟩
 |o::l,acc=>by
  obtain⟨r,h1,h2⟩:=yq l (acc++[uo acc o.after.toList]);exact⟨uo acc o.after.toList::r,by simp [cJ,h1],by simp [h2]⟩
theorem yN:∀ (l:List Oper) (acc:List Nat) (i:Nat) (o:Oper),l[i]?=some o->∀ j,((cJ acc l).getD (acc.length+i) 0).testBit j=true->
 ∃ ed∈o.after.toList,Region.binds .any ed=true/\(ed.on=j\/((cJ acc l).getD ed.on 0).testBit j=true)
 |[],acc,i,o,h,j,hj=>by simp at h
 |o'::l,acc,0,o,h,j,hj=>by
  simp at h;subst h;obtain⟨r,h1,h2⟩:=yq l (acc++[uo acc o'.after.toList]);have h3:cJ acc (o'::l)=acc++(uo acc o'.after.toList::r):=by simp [cJ,h1]
  rw[h3] at hj ⊢;simp at hj;obtain⟨ed,h4,h5,h6⟩:=zv hj;refine⟨ed,h4,h5,h6.imp (fun h=>h) fun h6=>?_⟩;have hlt:ed.on<acc.length:=by
   rcases lt_or_ge ed.on acc.length with h|h
   ·exact h
   ·simp [List.getD,List.getElem?_eq_none h] at h6
  simpa [List.getD,List.getElem?_append_left hlt] using h6
 |o'::l,acc,i+1,o,h,j,hj=>by
  have:=yN l (acc++[uo acc o'.after.toList]) i o (by simpa using h) j (by
   have h1:acc.length+(i+1)=(acc++[uo acc o'.after.toList]).length+i:=by simp;omega
   rw[← h1];exact hj)
  exact this
def zI:List Oper->Nat->Bool
 |[],_=>true
 |o::l,i=>match o.after.toList.all (fun ed=>match Region.binds .any ed with
  |true=>Nat.blt ed.on i
  |false=>true) with
  |true=>zI l (i+1)
  |false=>false
theorem uk:∀ {l:List Oper}{i:Nat},zI l i=true->∀ j o,l[j]?=some o->∀ ed∈o.after,Region.binds .any ed=true->ed.on<i+j
 |[],i,_,j,o,hj=>by simp at hj
 |x::l,i,h,j,o,hj=>by
  unfold zI at h;split at h
  ·rename_i hx;cases j with
   |zero =>
    simp at hj;subst hj;intro ed hed hb;have:=List.all_eq_true.1 hx ed (by simpa using hed);simp only[hb] at this;simpa using kU this
   |succ j =>
    intro ed hed hb;have:=uk h j o (by simpa using hj) ed hed hb;omega
  ·cases h
theorem pre_lt {ops:List Oper}(h:zI ops 0=true):∀ (i:Nat),i<ops.length->∀ j,((cJ [] ops).getD i 0).testBit j=true->j<i:=by
 intro i
 induction i using Nat.strongRecOn with
 |ind i ih =>
  intro hi j hj;obtain⟨ed,h1,h2,h3⟩:=yN ops [] i ops[i] (List.getElem?_eq_getElem hi) j (by simpa using hj);have h4:=uk h i ops[i] (List.getElem?_eq_getElem hi) ed (by simpa using h1) h2;rw[zero_add] at h4;rcases h3 with rfl|h3
  ·exact h4
  ·exact Nat.lt_trans (ih ed.on h4 (Nat.lt_trans h4 hi) j h3) h4
def Jg (pres:List Nat) (i j:Nat):Bool :=
 match Nat.beq i j with
 |true=>false
 |false=>match (pres.getD i 0).testBit j with
  |true=>false
  |false=>match (pres.getD j 0).testBit i with
   |true=>false
   |false=>true
def memL (k:Nat):List Nat->Bool
 |[]=>false
 |b::l=>match Nat.beq b k with
  |true=>true
  |false=>memL k l
def blksC:AC->List Nat
 |.ptr b _=>[b]
 |.slc b _ _ _=>[b]
 |.gsl b _=>[b]
 |.gso b _ _ _=>[b]
 |.fn b=>[b]
 |.yld b=>[b]
 |_=>[]
def cgp:A1->List Nat
 |.one c=>blksC c
 |.agg cs=>cs.flatMap blksC
def YD:Option AV->List Nat
 |some (.val a)=>cgp a
 |some (.tup l)=>l.flatMap cgp
 |none=>[]
def blksO:Option (zP D)->List Nat
 |some (.blk _ cs _)=>cs.flatMap blksC
 |some (.clo _ pre cap)=>pre.flatMap cgp++cap.flatMap cgp
 |some (.loop _ sl ..)=>sl.flatMap fun p=>YD (some p.2)
 |some (.ep b ..)=>[b]
 |_=>[]
def fnsC:AC->List Nat
 |.fn b=>[b]
 |_=>[]
def fnsV:Option AV->List Nat
 |some (.val (.one c))=>fnsC c
 |some (.val (.agg cs))=>cs.flatMap fnsC
 |_=>[]
def epsV (M:cB D):Option AV->List Nat
 |some (.val (.one (.fn b)))=>match M b with
  |some (.ep l ..)=>[l]
  |_=>[]
 |_=>[]
def cfZ (M:cB D):Nat->List Nat->List Nat->List Nat
 |0,_,seen=>seen
 |_+1,[],seen=>seen
 |n+1,b::l,seen=>match memL b seen with
  |true=>cfZ M n l seen
  |false=>cfZ M n (blksO (M b)++l) (b::seen)
def looks (V:cV) (M:cB D) (o:Oper):List Nat :=
 match o.op with
 |.load _ x=>YD (cu V x)++epsV M (cu V x)
 |.store _ x y=>YD (cu V x)++(epsV M (cu V x)++fnsV (cu V y))
 |.indexAddr _ x _=>fnsV (cu V x)
 |.box _ x=>fnsV (cu V x)
 |.build _ ps=>ps.toList.flatMap fun p=>fnsV (cu V p.2)
 |.buildSlice _ _ ps=>ps.toList.flatMap fun p=>fnsV (cu V p.2)
 |.call c=>match c.callee with
  |.builtin .len=>c.args.toList.flatMap fun x=>fnsV (cu V x)
  |.builtin _=>c.args.toList.flatMap fun x=>YD (cu V x)
  |.value f=>cfZ M 1000 (YD (cu V f)++c.args.toList.flatMap fun x=>YD (cu V x)) []
  |_=>[]
 |.slice _ x ..=>YD (cu V x)
 |_=>[]
abbrev Acc (D:Type):=List (Nat×Out D)
def jj (p:Nat->Bool) (b:Nat):Acc D->Nat->Option (zP D)->Option (zP D)
 |[],_,cur=>cur
 |t::W,j,cur=>match p j with
  |true=>match find b t.2.ws with
   |some o=>jj p b W (j+1) (some o)
   |none=>jj p b W (j+1) cur
  |false=>jj p b W (j+1) cur
def cM (p:Nat->Bool) (t:Nat):List Oper->Acc D->Nat->Option AV->Option AV
 |o::ops,x::W,j,cur=>match p j with
  |true=>match o.dst with
   |some d=>match Nat.beq d t with
    |true=>cM p t ops W (j+1) (some x.2.x)
    |false=>cM p t ops W (j+1) cur
   |none=>cM p t ops W (j+1) cur
  |false=>cM p t ops W (j+1) cur
 |_,_,_,cur=>cur
def EQ (pres:List Nat) (i t:Nat):List Oper->Nat->Bool
 |[],_=>false
 |o::l,j=>match o.dst with
  |some d=>match Nat.beq d t with
   |true=>match Jg pres i j with
    |true=>true
    |false=>EQ pres i t l (j+1)
   |false=>EQ pres i t l (j+1)
  |none=>EQ pres i t l (j+1)
def EB (pres:List Nat) (ops:List Oper) (acc:Acc D) (base:cV) (i:Nat):cV:=fun t =>
 match EQ pres i t ops 0 with
 |true=>none
 |false=>cM (pres.getD i 0).testBit t ops acc 0 (base t)
def caa (pres:List Nat) (acc:Acc D) (base:cB D) (nb i:Nat):cB D:=fun b =>
 jj (pres.getD i 0).testBit b acc 0 (match Nat.ble nb b with
  |true=>none
  |false=>base b)
def WI (pres:List Nat) (acc:Acc D) (base:cB D) (nb i:Nat) (q:List Nat):cB D:=fun b =>
 match caa pres acc base nb i b with
 |some (.blk ty cs z)=>match memL b q with
  |false=>none
  |true=>some (.blk ty cs z)
 |some (.gl ty z n g)=>match memL b q with
  |false=>none
  |true=>some (.gl ty z n g)
 |some .dead=>none
 |r=>r
def Zu (S:Stat D) (T:Tab D) (CF YF:cq D) (pres:List Nat) (ops:List Oper) (bs:cV) (bm:cB D) (nb:Nat):List Oper->Nat->Nat->Acc D->Option (Acc D×Nat×List Prop)
 |[],_,n,acc=>some (acc,n,[])
 |o::l,i,n,acc=>match ZK S T CF YF (EB pres ops acc bs i) (WI pres acc bm nb i (looks (EB pres ops acc bs i) (caa pres acc bm nb i) o)) n ops o with
  |some t=>match Zu S T CF YF pres ops bs bm nb l (i+1) t.n1 (acc++[(n,t)]) with
   |some (W,n',ob)=>some (W,n',t.ob++ob)
   |none=>none
  |none=>none
def Ym (M:cB D) (ws:Ws D):Ws D->Bool
 |[]=>true
 |p::l=>match M p.1 with
  |some _=>false
  |none=>match memN p.1 ws with
   |true=>false
   |false=>Ym M ws l
def Jf (pres:List Nat) (M:cB D) (ws:Ws D) (i:Nat):Acc D->Nat->Bool
 |[],_=>true
 |t::W,j=>match t.2.ws with
  |[]=>Jf pres M ws i W (j+1)
  |p::l=>match Jg pres i j with
   |true=>match Ym M ws (p::l) with
    |true=>Jf pres M ws i W (j+1)
    |false=>false
   |false=>Jf pres M ws i W (j+1)
def chb (pres:List Nat) (ops:List Oper) (W:Acc D) (bs:cV) (bm:cB D) (nb:Nat):List Oper->Acc D->Nat->Bool
 |o::l,t::W',i=>match (match o.dst with
  |some d=>EQ pres i d ops 0
  |none=>false) with
  |true=>false
  |false=>match Jf pres (WI pres W bm nb i (looks (EB pres ops W bs i) (caa pres W bm nb i) o)) t.2.ws i W 0 with
   |true=>chb pres ops W bs bm nb l W' (i+1)
   |false=>false
 |[],[],_=>true
 |_,_,_=>false
def Jn (nt:Nat):List Oper->Acc D->List (Nat×AV)->Option (List (Nat×AV))
 |o::l,t::W,sl=>match ccA nt o.dst t.2.x sl with
  |some sl'=>Jn nt l W sl'
  |none=>none
 |_,_,sl=>some sl
def Zd:Acc D->Ws D->Ws D
 |[],m=>m
 |t::W,m=>Zd W (jT t.2.ws m)
def Us (S:Stat D) (T:Tab D) (CF YF:cq D) (nt:Nat) (base:cB D) (ops:List Oper) (st:St D):Option (St D×List Prop) :=
 match zI ops 0 with
 |false=>none
 |true=>match Zu S T CF YF (cJ [] ops) ops (fun t=>find t st.sl) (over base st.m) st.nb ops 0 st.nb [] with
  |none=>none
  |some (W,n,ob)=>match chb (cJ [] ops) ops W (fun t=>find t st.sl) (over base st.m) st.nb ops W 0 with
   |false=>none
   |true=>match Jn nt ops W st.sl with
    |some sl=>some (⟨n,sl,jT (Zd W []) st.m,st.ms⟩,ob)
    |none=>none
section
variable {pres:List Nat}
theorem cec {i j:Nat}(h:Jg pres i j=false):i=j\/(pres.getD i 0).testBit j=true\/(pres.getD j 0).testBit i=true:=by
 unfold Jg at h;split at h
 ·rename_i hb;exact .inl (eq_of_beq_eq_true hb)
 ·split at h
  ·rename_i hb;exact .inr (.inl hb)
  ·split at h
   ·rename_i hb;exact .inr (.inr hb)
   ·cases h
theorem cfG {i j:Nat}(h1:i≠j) (h2:(pres.getD i 0).testBit j=false) (h3:(pres.getD j 0).testBit i=false):Jg pres i j=true:=by
 unfold Jg;have:Nat.beq i j=false:=by
  cases h:Nat.beq i j with
  |false=>rfl
  |true=>exact absurd (eq_of_beq_eq_true h) h1
 simp [this];rw[List.getD] at h2 h3;simp [h2,h3]
theorem CL {p:Nat->Bool}{b:Nat}:∀ {W:Acc D}{j:Nat}{cur:Option (zP D)},jj p b W j cur=(match jj p b W j none with|some o=>some o|none=>cur)
 |[],j,cur=>rfl
 |t::W,j,cur=>by
  unfold jj;split
  ·split
   ·rw[CL];cases jj p b W (j+1) none<;>rfl
   ·exact CL
  ·exact CL
theorem yR {p q:Nat->Bool}{b:Nat}:∀ {W:Acc D}{j:Nat}{cur:Option (zP D)},(∀ x t,W[x]?=some t->find b t.2.ws≠none->p (j+x)=q (j+x))->jj p b W j cur=jj q b W j cur
 |[],j,cur,_=>rfl
 |t::W,j,cur,h=>by
  have hr:∀ cur,jj p b W (j+1) cur=jj q b W (j+1) cur:=fun cur=>yR (fun x t' hx hf=>by
   have:=h (x+1) t' (by simpa using hx) hf;rw[show j+1+x=j+(x+1) by omega];exact this)
  unfold jj;cases hf:find b t.2.ws with
  |none =>
   simp only[];rw[hr];cases p j<;>cases q j<;>rfl
  |some o =>
   have:=h 0 t (by simp) (by rw[hf];simp);rw[add_zero] at this;rw[this];simp only[];rw[hr,hr]
theorem WB {p:Nat->Bool}{b:Nat}:∀ {W:Acc D}{j i:Nat}{cur:Option (zP D)},(∀ x,j+i<=x->p x=false)->jj p b (W.take i) j cur=jj p b W j cur
 |[],j,i,cur,_=>by simp
 |t::W,j,0,cur,h=>by
  have:∀ (W:Acc D) (j:Nat),(∀ x,j<=x->p x=false)->jj p b W j cur=cur:=by
   intro W
   induction W with
   |nil=>intro j _;rfl
   |cons t W ih =>
    intro j hj;unfold jj;rw[hj j (le_refl _)];exact ih (j+1) (fun x hx=>hj x (by omega))
  rw[this (t::W) j (fun x hx=>h x (by omega))];rfl
 |t::W,j,i+1,cur,h=>by
  have hr:∀ cur,jj p b (W.take i) (j+1) cur=jj p b W (j+1) cur:=fun cur=>WB (fun x hx=>h x (by omega));rw[List.take_succ_cons];unfold jj;simp only[hr]
theorem cdL {p:Nat->Bool}{b i:Nat}{o:zP D}:∀ {W:Acc D}{j:Nat}{cur:Option (zP D)}{t:Nat×Out D},W[i]?=some t->p (j+i)=true->find b t.2.ws=some o->(∀ x t',i<x->W[x]?=some t'->p (j+x)=true->find b t'.2.ws=none)->jj p b W j cur=some o:=by
 intro W
 induction W generalizing i with
 |nil=>intro j cur t h;simp at h
 |cons t0 W ih =>
  intro j cur t h hp hf hx;cases i with
  |zero =>
   simp at h;subst h;unfold jj;rw[add_zero] at hp;rw[hp,hf];simp only[];have:∀ (W:Acc D) (j:Nat) (cur:Option (zP D)),(∀ x t',W[x]?=some t'->p (j+x)=true->find b t'.2.ws=none)->jj p b W j cur=cur:=by
    intro W
    induction W with
    |nil=>intro j cur _;rfl
    |cons t W ih =>
     intro j cur hj;unfold jj;have hr:=ih (j+1) cur (fun x t' h1 h2=>hj (x+1) t' (by simpa using h1) (by rw[show j+(x+1)=j+1+x by omega];exact h2));cases hpj:p j with
     |true =>
      have:=hj 0 t (by simp) (by simpa using hpj);simp only[this];exact hr
     |false=>exact hr
   exact this W (j+1) _ (fun x t' h1 h2=>hx (x+1) t' (by omega) (by simpa using h1) (by rw[show j+(x+1)=j+1+x by omega];exact h2))
  |succ i =>
   have hr:∀ cur,jj p b W (j+1) cur=some o:=fun cur=>ih (by simpa using h) (by rw[show j+1+i=j+(i+1) by omega];exact hp) hf (fun x t' h1 h2 h3=>hx (x+1) t' (by omega) (by simpa using h2) (by rw[show j+(x+1)=j+1+x by omega];exact h3));unfold jj;simp only[hr];cases p j<;>simp only[]<;>cases find b t0.2.ws<;>rfl
theorem zJ {p q:Nat->Bool}{t:Nat}:∀ {ops:List Oper}{W:Acc D}{j:Nat}{cur:Option AV},(∀ x o,ops[x]?=some o->o.dst=some t->p (j+x)=q (j+x))->cM p t ops W j cur=cM q t ops W j cur
 |[],W,j,cur,_=>by simp [cM]
 |o::ops,[],j,cur,_=>by simp [cM]
 |o::ops,x::W,j,cur,h=>by
  have hr:∀ cur,cM p t ops W (j+1) cur=cM q t ops W (j+1) cur:=fun cur=>zJ (fun x o' hx hd=>by
   have:=h (x+1) o' (by simpa using hx) hd;rw[show j+1+x=j+(x+1) by omega];exact this)
  unfold cM;simp only[hr];cases hd:o.dst with
  |none=>simp only[];cases p j<;>cases q j<;>rfl
  |some d =>
   simp only[];cases hb:Nat.beq d t with
   |true =>
    have:=h 0 o (by simp) (by rw[hd,eq_of_beq_eq_true hb]);rw[add_zero] at this;rw[this]
   |false=>simp only[];cases p j<;>cases q j<;>rfl
theorem Gc {p:Nat->Bool}{t:Nat}:∀ {ops:List Oper}{W:Acc D}{j i:Nat}{cur:Option AV},(∀ x,j+i<=x->p x=false)->cM p t ops (W.take i) j cur=cM p t ops W j cur
 |[],W,j,i,cur,_=>by simp [cM]
 |o::ops,[],j,i,cur,_=>by simp [cM]
 |o::ops,x::W,j,0,cur,h=>by
  have:∀ (ops:List Oper) (W:Acc D) (j:Nat),(∀ x,j<=x->p x=false)->cM p t ops W j cur=cur:=by
   intro ops
   induction ops with
   |nil=>intro W j _;simp [cM]
   |cons o ops ih =>
    intro W j hj;cases W with
    |nil=>simp [cM]
    |cons x W =>
     unfold cM;rw[hj j (le_refl _)];exact ih W (j+1) (fun x hx=>hj x (by omega))
  rw[this (o::ops) (x::W) j (fun x hx=>h x (by omega))];simp [cM]
 |o::ops,x::W,j,i+1,cur,h=>by
  have hr:∀ cur,cM p t ops (W.take i) (j+1) cur=cM p t ops W (j+1) cur:=fun cur=>Gc (fun x hx=>h x (by omega));rw[List.take_succ_cons];unfold cM;simp only[hr]
theorem ccj {p:Nat->Bool}{t i:Nat}{o:Oper}{x:Nat×Out D}:∀ {ops:List Oper}{W:Acc D}{j:Nat}{cur:Option AV},ops[i]?=some o->W[i]?=some x->p (j+i)=true->o.dst=some t->(∀ y o',i<y->ops[y]?=some o'->p (j+y)=true->o'.dst≠some t)->cM p t ops W j cur=some x.2.x:=by
 intro ops
 induction ops generalizing i with
 |nil=>intro W j cur h;simp at h
 |cons o0 ops ih =>
  intro W j cur h hw hp hd hx;cases W with
  |nil=>simp at hw
  |cons w0 W =>
   cases i with
   |zero =>
    simp at h hw;subst h;subst hw;unfold cM;rw[add_zero] at hp;rw[hp,hd];simp only[beq_refl];have:∀ (ops:List Oper) (W:Acc D) (j:Nat) (cur:Option AV),(∀ y o',ops[y]?=some o'->p (j+y)=true->o'.dst≠some t)->cM p t ops W j cur=cur:=by
     intro ops
     induction ops with
     |nil=>intro W j cur _;simp [cM]
     |cons o ops ih =>
      intro W j cur hj;cases W with
      |nil=>simp [cM]
      |cons x W =>
       unfold cM;have hr:=ih W (j+1) cur (fun y o' h1 h2=>hj (y+1) o' (by simpa using h1) (by rw[show j+(y+1)=j+1+y by omega];exact h2));cases hpj:p j with
       |true =>
        have:=hj 0 o (by simp) (by simpa using hpj);simp only[];cases hod:o.dst with
        |none=>exact hr
        |some d =>
         simp only[];cases hb:Nat.beq d t with
         |true=>exact absurd (by rw[hod,eq_of_beq_eq_true hb]) this
         |false=>exact hr
       |false=>exact hr
    exact this ops W (j+1) _ (fun y o' h1 h2=>hx (y+1) o' (by omega) (by simpa using h1) (by rw[show j+(y+1)=j+1+y by omega];exact h2))
   |succ i =>
    have hr:∀ cur,cM p t ops W (j+1) cur=some x.2.x:=fun cur=>ih (by simpa using h) (by simpa using hw) (by rw[show j+1+i=j+(i+1) by omega];exact hp) hd (fun y o' h1 h2 h3=>hx (y+1) o' (by omega) (by simpa using h2) (by rw[show j+(y+1)=j+1+y by omega];exact h3));unfold cM;simp only[hr];cases p j<;>simp only[];cases o0.dst with
    |none=>rfl
    |some d=>simp only[];cases Nat.beq d t<;>rfl
theorem EZ {i t:Nat}:∀ {l:List Oper}{j:Nat},EQ pres i t l j=false->∀ x o,l[x]?=some o->o.dst=some t->Jg pres i (j+x)=false
 |[],j,_,x,o,h=>by simp at h
 |o0::l,j,hc,x,o,h=>by
  intro hd;unfold EQ at hc;cases x with
  |zero =>
   simp at h;subst h;rw[hd] at hc;simp only[beq_refl] at hc;rw[add_zero];split at hc
   ·cases hc
   ·rename_i hu;exact hu
  |succ x =>
   have hr:EQ pres i t l (j+1)=false:=by
    split at hc
    ·split at hc
     ·split at hc
      ·cases hc
      ·exact hc
     ·exact hc
    ·exact hc
   have:=EZ hr x o (by simpa using h) hd;rw[show j+(x+1)=j+1+x by omega];exact this
theorem Zi {M:cB D}{ws:Ws D}:∀ {l:Ws D},Ym M ws l=true->∀ b,find b l≠none->M b=none/\find b ws=none
 |[],_,b,h=>by simp [cI,cC] at h
 |p::l,hc,b,h=>by
  unfold Ym at hc;split at hc
  ·cases hc
  ·rename_i hM;split at hc
   ·cases hc
   ·rename_i hm;by_cases hb:p.1=b
    ·subst hb;exact⟨hM,cbi hm⟩
    ·have hb':Nat.beq p.1 b=false:=by
      cases h:Nat.beq p.1 b with
      |false=>rfl
      |true=>exact absurd (eq_of_beq_eq_true h) hb
     simp only[cI,cC,hb'] at h;exact Zi hc b h
theorem cau {M:cB D}{ws:Ws D}{i:Nat}:∀ {W:Acc D}{j:Nat},Jf pres M ws i W j=true->∀ x t,W[x]?=some t->Jg pres i (j+x)=true->∀ b,find b t.2.ws≠none->M b=none/\find b ws=none
 |[],j,_,x,t,h=>by simp at h
 |t0::W,j,hp,x,t,h=>by
  intro hu;unfold Jf at hp;cases x with
  |zero =>
   simp at h;subst h;rw[add_zero] at hu;split at hp
   ·rename_i he;intro b hb;rw[he] at hb;exact absurd rfl hb
   ·rename_i p l he;rw[hu] at hp;simp only at hp;split at hp
    ·rename_i hc;rw[he];exact Zi hc
    ·cases hp
  |succ x =>
   have hr:Jf pres M ws i W (j+1)=true:=by
    split at hp
    ·exact hp
    ·split at hp
     ·split at hp
      ·exact hp
      ·cases hp
     ·exact hp
   exact cau hr x t (by simpa using h) (by rw[show j+1+x=j+(x+1) by omega];exact hu)
theorem cde {ops:List Oper}{W:Acc D}{bs:cV}{bm:cB D}{nb:Nat}:∀ {l:List Oper}{W':Acc D}{i:Nat},chb pres ops W bs bm nb l W' i=true->∀ x o t,l[x]?=some o->W'[x]?=some t->(∀ d,o.dst=some d->EQ pres (i+x) d ops 0=false)/\Jf pres (WI pres W bm nb (i+x) (looks (EB pres ops W bs (i+x)) (caa pres W bm nb (i+x)) o)) t.2.ws (i+x) W 0=true
 |[],W',i,_,x,o,t,h=>by simp at h
 |o0::l,[],i,_,x,o,t,h=>by intro h2;simp at h2
 |o0::l,t0::W',i,hp,x,o,t,h=>by
  intro h2;unfold chb at hp;split at hp
  ·cases hp
  ·rename_i hd;split at hp
   ·rename_i hpi;cases x with
    |zero =>
     simp at h h2;subst h;subst h2;rw[add_zero];exact⟨fun d hd'=>by rw[hd'] at hd;exact hd,hpi⟩
    |succ x =>
     have:=cde hp x o t (by simpa using h) (by simpa using h2);rw[show i+(x+1)=i+1+x by omega];exact this
   ·cases hp
theorem cbn {b:Nat}:∀ {W:Acc D}{j:Nat}{m:Ws D},find b (Zd W m)=(match jj (fun _=>true) b W j none with|some o=>some o|none=>find b m)
 |[],j,m=>rfl
 |t::W,j,m=>by
  unfold Zd jj;rw[cbn (j:=j+1),zF];simp only[];cases hf:find b t.2.ws with
  |none=>rfl
  |some o =>
   simp only[];rw[CL (cur:=some o)];cases jj (fun _=>true) b W (j+1) none<;>rfl
def Wl (dst:Option Tmp) (x:AV) (t:Nat) (cur:Option AV):Option AV :=
 match dst with
 |some d=>match Nat.beq d t with
  |true=>some x
  |false=>cur
 |none=>cur
theorem ciP {nt:Nat}{dst:Option Tmp}{x:AV}{sl sl':List (Nat×AV)}(h:ccA nt dst x sl=some sl') (t:Nat):find t sl'=Wl dst x t (find t sl):=by
 unfold ccA at h;unfold Wl;cases dst with
 |none=>injection h with h;subst h;rfl
 |some d =>
  simp only at h;split at h
  ·injection h with h;subst h
   rw[zF];simp only[cI,cC];cases Nat.beq d t<;>rfl
  ·cases h
theorem WD {nt:Nat}{t:Nat}:∀ {l:List Oper}{W:Acc D}{j:Nat}{sl sl':List (Nat×AV)},Jn nt l W sl=some sl'->find t sl'=cM (fun _=>true) t l W j (find t sl)
 |[],W,j,sl,sl',h=>by
  simp only[Jn,Option.some.injEq] at h;subst h;simp [cM]
 |o::l,[],j,sl,sl',h=>by
  simp only[Jn,Option.some.injEq] at h;subst h;simp [cM]
 |o::l,x::W,j,sl,sl',h=>by
  simp only[Jn] at h;split at h
  ·rename_i sl1 hs;rw[WD (j:=j+1) h,ciP hs];unfold Wl
   conv=>rhs;unfold cM
   simp only[];cases o.dst with
   |none=>rfl
   |some d=>simp only[];cases Nat.beq d t<;>rfl
  ·cases h
theorem cad {nt:Nat}:∀ {l:List Oper}{W:Acc D}{sl sl':List (Nat×AV)},Jn nt l W sl=some sl'->∀ (x:Nat) (o:Oper) (t:Nat×Out D),l[x]?=some o->W[x]?=some t->∀ d,o.dst=some d->d<nt
 |[],W,sl,sl',_,x,o,t,h=>by simp at h
 |o0::l,[],sl,sl',_,x,o,t,h=>by intro h2;simp at h2
 |o0::l,x0::W,sl,sl',hp,x,o,t,h=>by
  intro h2 d hd;simp only[Jn] at hp;split at hp
  ·rename_i sl1 hs;cases x with
   |zero =>
    simp at h;subst h;unfold ccA at hs;rw[hd] at hs;simp only at hs;split at hs
    ·rename_i hlt;exact kU hlt
    ·cases hs
   |succ x=>exact cad hp x o t (by simpa using h) (by simpa using h2) d hd
  ·cases hp
end
end Pe
namespace Pe
variable {D:Type}
section
variable {S:Stat D}{T:Tab D}{CF YF:cq D}{pres:List Nat}{ops:List Oper}{bs:cV}{bm:cB D}{nb:Nat}
theorem Jl (hF:CF.Mono) (hYF:YF.Mono):∀ {l:List Oper}{i n n':Nat}{acc W:Acc D}{ob:List Prop},Zu S T CF YF pres ops bs bm nb l i n acc=some (W,n',ob)->acc.length=i->
 (∃ r,W=acc++r)/\W.length=i+l.length/\n<=n'/\
 (∀ j o,l[j]?=some o->∃ n1 t,W[i+j]?=some (n1,t)/\ZK S T CF YF (EB pres ops (W.take (i+j)) bs (i+j)) (WI pres (W.take (i+j)) bm nb (i+j) (looks (EB pres ops (W.take (i+j)) bs (i+j)) (caa pres (W.take (i+j)) bm nb (i+j)) o)) n1 ops o=some t/\n<=n1/\t.n1<=n'/\(cU ob->cU t.ob))/\
 (∀ (j k:Nat) (tj tk:Nat×Out D),i<=j->j<k->W[j]?=some tj->W[k]?=some tk->tj.2.n1<=tk.1)
 |[],i,n,n',acc,W,ob,h,hl=>by
  simp only[Zu,Option.some.injEq,Prod.mk.injEq] at h;obtain⟨rfl,rfl,rfl⟩:=h;refine⟨⟨[],by simp⟩,by simp [hl],le_refl _,fun j o h=>by simp at h,fun j k tj tk hij hjk hj hk=>?_⟩;have:=(List.getElem?_eq_some_iff.1 hj).1;omega
 |o::l,i,n,n',acc,W,ob,h,hl=>by
  simp only[Zu] at h;split at h
  ·rename_i t ht;split at h
   ·rename_i W1 n1 ob1 hrest;injection h with h
    simp only[Prod.mk.injEq] at h;obtain⟨rfl,rfl,rfl⟩:=h;obtain⟨⟨r,hr⟩,h2,h3,h4,h5⟩:=Jl hF hYF hrest (by simp [hl]);have hle:=cep hF hYF ht;have hWi:W1[i]?=some (n,t):=by
     rw[hr,append_assoc,List.getElem?_append_right (by omega)];simp [hl]
    have htk:W1.take i=acc:=by
     rw[hr,append_assoc,List.take_append_of_le_length (by omega),take_of_length_le (by omega)]
    refine⟨⟨(n,t)::r,by rw[hr];simp⟩,by rw[h2];simp;omega,le_trans hle h3,?_,?_⟩
    ·intro j o' hj;cases j with
     |zero =>
      simp at hj;subst hj;refine⟨n,t,hWi,?_,le_refl _,h3,fun ha=>(cU.append ha).1⟩;rw[add_zero,htk];exact ht
     |succ j =>
      obtain⟨n2,t2,q1,q2,q3,q4,q5⟩:=h4 j o' (by simpa using hj);rw[show i+1+j=i+(j+1) by omega] at q1 q2;exact⟨n2,t2,q1,q2,by omega,q4,fun ha=>q5 (cU.append ha).2⟩
    ·intro j k tj tk hij hjk hj hk;rcases lt_or_ge i j with hlt|hge
     ·exact h5 j k tj tk hlt hjk hj hk
     ·have:j=i:=by omega
      subst this;rw[hWi] at hj;injection hj with hj
      subst hj;obtain⟨x,rfl⟩:∃ x,k=j+1+x:=⟨k-(j+1),by omega⟩;have hx:x<l.length:=by
       have:=(List.getElem?_eq_some_iff.1 hk).1;omega
      obtain⟨n2,t2,q1,q2,q3,q4,q5⟩:=h4 x l[x] (List.getElem?_eq_getElem hx);rw[hk] at q1;injection q1 with q1
      subst q1;exact q3
   ·cases h
  ·cases h
end
structure Inv (C : Ctx D) (nt : Nat) (e : Env) (w : World) (ops : Array Oper) (W : Acc D) (base : cV) (ds : List Deferred) (l : Array Bool) (a' : Act) (w' : World) : Prop where
  size : l.size = ops.size
  down : ∀ i, l.getD i false = true → ∀ j, ((cJ [] ops.toList).getD i 0).testBit j = true → l.getD j false = true
  defers : a'.defers = ds
  tmps : a'.tmps.size = nt
  ex : ∃ e', Adv e w e' w' ∧ cQ C e' w' ∧
    ((∀ b k, e'.ρ b = some k → e.ρ b = some k ∨ ∃ j t, W[j]? = some t ∧ l.getD j false = true ∧ t.1 ≤ b ∧ b < t.2.n1) ∧
     (∀ b k, e'.ν b = some k → e.ν b = some k ∨ ∃ j t, W[j]? = some t ∧ l.getD j false = true ∧ t.1 ≤ b ∧ b < t.2.n1) ∧
     (∀ b k, e'.φ b = some k → e.φ b = some k ∨ ∃ j t, W[j]? = some t ∧ l.getD j false = true ∧ t.1 ≤ b ∧ b < t.2.n1)) ∧
    (∀ b o, jj (fun j => l.getD j false) b W 0 none = some o → jF C e' w' b o) ∧
    (∀ b o, jF C e w b o → jj (fun j => l.getD j false) b W 0 none = none → jF C e' w' b o) ∧
    ji e' a' (fun t => cM (fun j => l.getD j false) t ops.toList W 0 (base t))
theorem jQ {l:Array Bool}{i j:Nat}(hi:i<l.size):(l.setIfInBounds i true).getD j false=if j=i then true else l.getD j false:=by
 simp only[Array.getD_eq_getD_getElem?,Array.getElem?_setIfInBounds];by_cases h:j=i
 ·subst h;simp [hi]
 ·rw[if_neg (fun e=>h e.symm),if_neg h]
section
variable {F:Fence}{m:Nat}
variable {C:Ctx D}{e0 e:Env}{w0 w w':World}{a:Act}{T:Tab D}{CF YF:cq D}{n0 nt:Nat}{base:cB D}{Q:Exit->Act->World->Prop}{ops:Array Oper}
theorem cew (hW:Wd F) (hC:C.Ok) (hT:T.Ok C) (hF:CF.Ok C) (hFm:CF.Mono) (hY:uQ C YF) (hYm:YF.Mono) (hb:cP C e0 w0 base) {rid:Nat}{st st':St D}{ob:List Prop}(h:Us C.toStat T CF YF nt base ops.toList st=some (st',ob)) (ho:cU ob) (hf:kt n0 st'.nb e0)
 (hQ:∀ a w,Sat C nt e0 w0 n0 st' a w->Q .normal a w) {a:Act} {w:World} (hs:Sat C nt e0 w0 n0 st a w):(Code.region rid ops true).wpIn F m C.P Q a w:=by
 unfold Us at h;split at h
 ·cases h
 rename_i hord;split at h
 ·cases h
 rename_i W n ob' hgo;split at h
 ·cases h
 rename_i hpairs;split at h
 rotate_left
 ·cases h
 rename_i sl hput;injection h with h
 injection h with h h'
 subst h;subst h';obtain⟨_,hWl,hnn,hWs,hdis⟩:=Jl hFm hYm hgo rfl;simp only[zero_add] at hWl hWs;obtain⟨⟨e,hL,hV,rs,hdf,hmk⟩,hsz⟩:=hs;have hlen:ops.toList.length=ops.size:=by simp
 have hbd:Below w.heap.size w { w with drawn:=w.drawn+1 }:=⟨rfl,rfl,rfl,le_refl _,fun _ _=>rfl⟩;have hLd:ky C e0 w0 n0 st.nb st.m e { w with drawn:=w.drawn+1 }:=by
  have:=hL.trans (ky.below hL.good hbd st.nb);exact this
 generalize hwd:({ w with drawn:=w.drawn+1 }:World)=wd at hLd;have hM:=kH hb hLd;have hFree:kt st.nb n e:=(hf.new (hLd.new.mono (le_refl _) (le_refl _)) hLd.le);refine wpIn_region_any hC.mixed ?_;rw[hwd];refine any_inv (Inv C nt e wd ops W (fun t=>find t st.sl) a.defers) ?_ ?_ ops.size _ a _ (by simp) (by unfold ccI;simp) ?_
 ·-- a step
  intro l a1 w1 i hls hI hrdy;obtain⟨hsz1,hdown,hdf1,htm1,e1,hadv,hgood,⟨hρ,hν,hφ⟩,hw1,hk1,hs1⟩:=hI;have hfalse':=GV hrdy;have hil:i<l.size:=by
   rcases lt_or_ge i l.size with h|h
   ·exact h
   ·simp [Array.getElem?_eq_none h] at hfalse'
  have hfalse:l.getD i false=false:=by simp [Array.getD_eq_getD_getElem?,hfalse']
  obtain⟨_,o,hio,hr⟩:=mem_ready.1 hrdy;have hiol:ops.toList[i]?=some o:=by simpa using hio
  obtain⟨ni,t,hWi,hstep,hni,hti,hobt⟩:=hWs i o hiol;obtain⟨hclash,hpi⟩:=cde hpairs i o (ni,t) hiol hWi;simp only[zero_add] at hclash hpi;have hpi:=fun x t' h1 h2=>cau hpi x t' h1 (by simpa using h2);have hilen:i<ops.toList.length:=by omega
  have hpre:∀ j,((cJ [] ops.toList).getD i 0).testBit j=true->l.getD j false=true:=by
   intro j hj;obtain⟨ed,h4,h5,h6⟩:=yN ops.toList [] i o hiol j (by simpa using hj);have h7:=hr ed (by simpa using h4) h5;rcases h6 with rfl|h6
   ·exact h7
   ·exact hdown ed.on h7 j h6
  have hpost:∀ j,((cJ [] ops.toList).getD j 0).testBit i=true->l.getD j false=false:=by
   intro j hj;cases hlj:l.getD j false with
   |false=>rfl
   |true =>
    have:=hdown j hlj i hj;rw[hfalse] at this;cases this
  have hpii:∀ x,i<=x->((cJ [] ops.toList).getD i 0).testBit x=false:=by
   intro x hx;cases hb:((cJ [] ops.toList).getD i 0).testBit x with
   |false=>rfl
   |true=>have:=pre_lt hord i hilen x hb;omega
  have hcong:∀ j,Jg (cJ [] ops.toList) i j=false->((cJ [] ops.toList).getD i 0).testBit j=l.getD j false:=by
   intro j hu;rcases cec hu with h|h|h
   ·subst h;rw[hfalse,hpii i (le_refl _)]
   ·rw[h,hpre j h]
   ·rw[hpost j h];cases hb:((cJ [] ops.toList).getD i 0).testBit j with
    |false=>rfl
    |true =>
     have h1:=hpre j hb;rw[hpost j h] at h1;cases h1
  have hVi:ji e1 a1 (EB (cJ [] ops.toList) ops.toList (W.take i) (fun t=>find t st.sl) i):=by
   intro tt x hx;unfold EB at hx;split at hx
   ·cases hx
   ·rename_i hcl;rw[Gc (fun x hx=>hpii x (by omega))] at hx;rw[zJ (q:=fun j=>l.getD j false) (fun x o' h1 h2=>by
     have:=EZ hcl x o' h1 h2;rw[zero_add] at this ⊢;exact hcong x this)] at hx
    exact hs1 tt x hx
  have hraw:caa (cJ [] ops.toList) (W.take i) (over base st.m) st.nb i=caa (cJ [] ops.toList) W (over base st.m) st.nb i:=by
   funext b;exact WB (fun x hx=>hpii x (by omega))
  have hvs:EB (cJ [] ops.toList) ops.toList (W.take i) (fun t=>find t st.sl) i=EB (cJ [] ops.toList) ops.toList W (fun t=>find t st.sl) i:=by
   funext t;unfold EB;split
   ·rfl
   ·exact Gc (fun x hx=>hpii x (by omega))
  have hMi:cP C e1 w1 (WI (cJ [] ops.toList) (W.take i) (over base st.m) st.nb i (looks (EB (cJ [] ops.toList) ops.toList (W.take i) (fun t=>find t st.sl) i) (caa (cJ [] ops.toList) (W.take i) (over base st.m) st.nb i) o)):=by
   intro b ob1 hob;rw[hvs,hraw] at hob;have hnone:WI (cJ [] ops.toList) W (over base st.m) st.nb i (looks (EB (cJ [] ops.toList) ops.toList W (fun t=>find t st.sl) i) (caa (cJ [] ops.toList) W (over base st.m) st.nb i) o) b=some ob1:=by
    unfold WI at hob ⊢
    rwa [hraw] at hob
   have hcl:∀ x t',W[x]?=some t'->find b t'.2.ws≠none->((cJ [] ops.toList).getD i 0).testBit (0+x)=l.getD (0+x) false:=by
    intro x t' h1 h2;rw[zero_add];cases hu:Jg (cJ [] ops.toList) i x with
    |false=>exact hcong x hu
    |true =>
     have:=(hpi x t' h1 hu b h2).1;rw[hnone] at this;cases this
   have hg:jj ((cJ [] ops.toList).getD i 0).testBit b W 0 (match Nat.ble st.nb b with|true=>none|false=>over base st.m b)=some ob1:=by
    unfold WI caa at hnone;split at hnone
    ·rename_i ty cs z hq;split at hnone
     ·cases hnone
     ·injection hnone with hnone;subst hnone;exact hq
    ·rename_i ty z n g hq;split at hnone
     ·cases hnone
     ·injection hnone with hnone;subst hnone;exact hq
    ·cases hnone
    ·exact hnone
   rw[CL] at hg;split at hg
   ·rename_i o2 ho2;injection hg with hg;subst hg
    rw[yR (q:=fun j=>l.getD j false) hcl] at ho2;exact hw1 b _ ho2
   ·rename_i hn;rw[yR (q:=fun j=>l.getD j false) hcl] at hn;split at hg
    ·cases hg
    ·exact hk1 b ob1 (hM b ob1 hg) hn
  have hfree:kt ni t.n1 e1:=by
   intro b h1 h2;obtain⟨q1,q2,q3⟩:=hFree b (by omega) (by omega);have hno:¬ ∃ j t',W[j]?=some t'/\l.getD j false=true/\t'.1<=b/\b<t'.2.n1:=by
    rintro⟨j,t',r1,r2,r3,r4⟩;rcases Nat.lt_trichotomy j i with hj|hj|hj
    ·have:=hdis j i t' (ni,t) (zero_le _) hj r1 hWi;simp only at this;omega
    ·subst hj;rw[hfalse] at r2;cases r2
    ·have:=hdis i j (ni,t) t' (zero_le _) hj hWi r1;simp only at this;omega
   refine⟨?_,?_,?_⟩
   ·cases hx:e1.ρ b with
    |none=>rfl
    |some x=>rcases hρ b x hx with h|h;(rw[q1] at h;cases h);exact absurd h hno
   ·cases hx:e1.ν b with
    |none=>rfl
    |some x=>rcases hν b x hx with h|h;(rw[q2] at h;cases h);exact absurd h hno
   ·cases hx:e1.φ b with
    |none=>rfl
    |some x=>rcases hφ b x hx with h|h;(rw[q3] at h;cases h);exact absurd h hno
  have hres:=cen (F:=F) (m:=m) (Q:=Q) (K:=fun a' w'=>Inv C nt e wd ops W (fun t=>find t st.sl) a.defers (l.setIfInBounds i true) a' w') hW hC hT hF hY hVi hMi hgood hstep hfree (hobt ho) (fun v w2 hD=>by
   obtain⟨e2,hL2,hx2⟩:=hD;have hrng:∀ b,(ni<=b/\b<t.n1)->∃ j t',W[j]?=some t'/\(l.setIfInBounds i true).getD j false=true/\t'.1<=b/\b<t'.2.n1:=fun b hb=>⟨i,(ni,t),hWi,by rw[jQ hil,if_pos rfl],hb.1,hb.2⟩;have hkeep:∀ b,(∃ j t',W[j]?=some t'/\l.getD j false=true/\t'.1<=b/\b<t'.2.n1)->∃ j t',W[j]?=some t'/\(l.setIfInBounds i true).getD j false=true/\t'.1<=b/\b<t'.2.n1:=by
    rintro b ⟨j,t',r1,r2,r3⟩;refine⟨j,t',r1,?_,r3⟩;rw[jQ hil];split
    ·rfl
    ·exact r2
   have hgs:∀ b o2,find b t.ws=some o2->jj (fun j=>(l.setIfInBounds i true).getD j false) b W 0 none=some o2:=by
    intro b o2 hfb;refine cdL hWi (by simp only[zero_add];rw[jQ hil,if_pos rfl]) hfb ?_;intro x t' hx hWx hlx;rw[zero_add,jQ hil,if_neg (by omega)] at hlx;cases hfx:find b t'.2.ws with
    |none=>rfl
    |some o3 =>
     have hu:Jg (cJ [] ops.toList) i x=true:=by
      refine cfG (by omega) (hpii x (by omega)) ?_;cases hb:((cJ [] ops.toList).getD x 0).testBit i with
      |false=>rfl
      |true=>rw[hpost x hb] at hlx;cases hlx
     have:=(hpi x t' hWx hu b (by rw[hfx];simp)).2;rw[hfb] at this;cases this
   have hgn:∀ b,find b t.ws=none->jj (fun j=>(l.setIfInBounds i true).getD j false) b W 0 none=jj (fun j=>l.getD j false) b W 0 none:=by
    intro b hfb;refine yR (fun x t' h1 h2=>?_);simp only[zero_add];rw[jQ hil];split
    ·rename_i hxi;subst hxi;rw[hWi] at h1;injection h1 with h1
     subst h1;exact absurd hfb h2
    ·rfl
   refine⟨by simpa using hsz1,?_,by rw[jZ,hdf1],by rw[kx,htm1],e2,hadv.trans hL2.adv,hL2.good,⟨?_,?_,?_⟩,?_,?_,?_⟩
   ·intro x hxl j hj;rw[jQ hil] at hxl ⊢;by_cases hji:j=i
    ·rw[if_pos hji]
    ·rw[if_neg hji];by_cases hxi:x=i
     ·subst hxi;exact hpre j hj
     ·rw[if_neg hxi] at hxl;exact hdown x hxl j hj
   ·intro b k hbk;rcases hL2.new.ρ b k hbk with h|h
    ·exact(hρ b k h).imp id (hkeep b)
    ·exact .inr (hrng b h)
   ·intro b k hbk;rcases hL2.new.ν b k hbk with h|h
    ·exact(hν b k h).imp id (hkeep b)
    ·exact .inr (hrng b h)
   ·intro b k hbk;rcases hL2.new.φ b k hbk with h|h
    ·exact(hφ b k h).imp id (hkeep b)
    ·exact .inr (hrng b h)
   ·intro b o2 hob;cases hfb:find b t.ws with
    |some o3 =>
     rw[hgs b o3 hfb] at hob;injection hob with hob;subst hob
     exact hL2.wrote b _ hfb
    |none =>
     rw[hgn b hfb] at hob;exact hL2.kept b o2 (hw1 b o2 hob) hfb
   ·intro b o2 hob hn;cases hfb:find b t.ws with
    |some o3 =>
     rw[hgs b o3 hfb] at hn;cases hn
    |none =>
     rw[hgn b hfb] at hn;exact hL2.kept b o2 (hk1 b o2 hob hn) hfb
   ·intro tt x hx;have hx:cM (fun j=>(l.setIfInBounds i true).getD j false) tt ops.toList W 0 (find tt st.sl)=some x:=hx;by_cases hd:o.dst=some tt
    ·have:=ccj (p:=fun j=>(l.setIfInBounds i true).getD j false) (j:=0) (cur:=find tt st.sl) hiol hWi (by simp only[zero_add];rw[jQ hil,if_pos rfl]) hd (fun y o' h1 h2 h3 h4=>by
      rw[zero_add,jQ hil,if_neg (by omega)] at h3;have hu:=EZ (hclash tt hd) y o' h2 h4;rw[zero_add] at hu;have h5:=hcong y hu;rw[h3,hpii y (by omega)] at h5;cases h5)
     rw[this] at hx;injection hx with hx;subst hx
     have hlt:=cad hput i o (ni,t) hiol hWi tt hd;rw[hd];refine⟨v,?_,hx2⟩;have:tt<a1.tmps.size:=by rw[htm1];exact hlt
     simp [Act.put,this]
    ·rw[zJ (q:=fun j=>l.getD j false) (fun y o' h1 h2=>by
      rw[zero_add,jQ hil];split
      ·rename_i hyi;subst hyi;rw[hiol] at h1;injection h1 with h1
       subst h1;exact absurd h2 hd
      ·rfl)] at hx
     obtain⟨u,h1,h2⟩:=hs1.ext hL2.adv.ext tt x hx;refine⟨u,?_,h2⟩;cases hdd:o.dst with
     |none=>exact h1
     |some d =>
      have:d≠tt:=fun h=>hd (by rw[hdd,h]);simp [Act.put,this,h1])
  unfold wpOpIn;simp only[hio];split at hres
  ·rename_i hw;rw[if_pos hw];exact hres
  ·rename_i hw;rw[if_neg hw];exact⟨fun f _=>hW.fn f,hres⟩
 ·-- the end
  intro l a1 w1 hls hI hrdy;obtain⟨hsz1,hdown,hdf1,htm1,e1,hadv,hgood,⟨hρ,hν,hφ⟩,hw1,hk1,hs1⟩:=hI;have hall:=cjH hls (fun i o hio ed hed hbi=>by
   have:=uk hord i o (by simpa using hio) ed hed hbi;simpa using this) hrdy
  have hall':∀ i,i<ops.size->l.getD i false=true:=fun i hi=>by
   simp [Array.getD_eq_getD_getElem?,hall i hi]
  have hWlt:∀ x t,W[x]?=some t->x<ops.size:=fun x t hx=>by
   have:=(List.getElem?_eq_some_iff.1 hx).1;omega
  have hg:∀ b,jj (fun j=>l.getD j false) b W 0 none=jj (fun _=>true) b W 0 none:=fun b=>yR (fun x t hx _=>by
   simp only[zero_add];exact hall' x (hWlt x t hx))
  have hrng:∀ b,(∃ j t,W[j]?=some t/\l.getD j false=true/\t.1<=b/\b<t.2.n1)->st.nb<=b/\b<n:=by
   rintro b ⟨j,t,r1,r2,r3,r4⟩;have hj:j<ops.toList.length:=by have:=hWlt j t r1;omega
   obtain⟨n2,t2,q1,q2,q3,q4,q5⟩:=hWs j _ (List.getElem?_eq_getElem hj);rw[r1] at q1;injection q1 with q1
   subst q1;simp only at r3 r4;exact⟨by omega,by omega⟩
  have hcat:∀ b,find b (Zd W ([]:Ws D))=jj (fun _=>true) b W 0 none:=fun b=>by
   rw[cbn (j:=0)];cases jj (fun _=>true) b W 0 none<;>rfl
  refine hQ a1 w1 ⟨⟨e1,hLd.trans (n2:=n) ⟨hnn,hadv,⟨fun b k h=>(hρ b k h).imp id (hrng b),fun b k h=>(hν b k h).imp id (hrng b),fun b k h=>(hφ b k h).imp id (hrng b)⟩,hgood,fun b o h=>?_,fun b o h1 h2=>?_⟩,?_,rs,hdf1.trans hdf,hmk.ext hadv.ext⟩,htm1⟩
  ·rw[hcat,← hg] at h;exact hw1 b o h
  ·rw[hcat,← hg] at h2;exact hk1 b o h1 h2
  ·intro tt x hx;have hx:find tt sl=some x:=hx;rw[WD (j:=0) hput,← zJ (p:=fun j=>l.getD j false) (fun y o' h1 h2=>by
    have:=(List.getElem?_eq_some_iff.1 h1).1;simp only[zero_add];exact hall' y (by omega))] at hx
   exact hs1 tt x hx
 ·-- the beginning
  have hf0:∀ j,(Array.replicate ops.size false).getD j false=false:=by
   intro j;simp only[Array.getD_eq_getD_getElem?,Array.getElem?_replicate];split<;>rfl
  have hfun:(fun j=>(Array.replicate ops.size false).getD j false)=fun _=>false:=funext hf0;have hg0:∀ b,jj (fun j=>(Array.replicate ops.size false).getD j false) b W 0 none=none:=by
   intro b;rw[hfun];have:∀ (W:Acc D) (j:Nat),jj (fun _=>false) b W j none=none:=by
    intro W
    induction W with
    |nil=>intro j;rfl
    |cons t W ih=>intro j;unfold jj;exact ih (j+1)
   exact this W 0
  have hs0:∀ (tt:Nat) (cur:Option AV),cM (fun j=>(Array.replicate ops.size false).getD j false) tt ops.toList W 0 cur=cur:=by
   intro tt cur;rw[hfun];have:∀ (ol:List Oper) (W:Acc D) (j:Nat),cM (fun _=>false) tt ol W j cur=cur:=by
    intro ol
    induction ol with
    |nil=>intro W j;simp [cM]
    |cons o ol ih =>
     intro W j;cases W with
     |nil=>simp [cM]
     |cons t W=>unfold cM;exact ih W (j+1)
   exact this _ W 0
  refine⟨by simp,fun i hi=>(by rw[hf0] at hi;cases hi),rfl,hsz,e,Adv.refl _ _,hLd.good,⟨fun _ _ h=>.inl h,fun _ _ h=>.inl h,fun _ _ h=>.inl h⟩,fun b o h=>(by rw[hg0] at h;cases h),fun b o h _=>h,?_⟩;intro tt x hx;have hx:cM (fun j=>(Array.replicate ops.size false).getD j false) tt ops.toList W 0 (find tt st.sl)=some x:=hx;rw[hs0] at hx;exact hV tt x hx
end
end Pe
end Go.Proofs.YtokieocpdcngcabGreatDoor
