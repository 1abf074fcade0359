/- Package exact: Inv Run Seg ClsB ClsI SegC RefA RefB RefV. -/
import Derived.Orders
import Derived.Test.YtccabfblgjcboaaGreatDoorV1
import Derived.Test.YtccabfblgjcboaaGreatDoorV2
import Derived.Test.YtccabfblgjcboaaGreatDoorChecked
import Derived.Laws.AppendOwn
set_option linter.all false

namespace Go.Proofs.YtccabfblgjcboaaGreatDoor
open Go Go.RowKit Go.Proofs Lim
section
variable {P : Program} {ops : Array Oper} {Q : Exit → Act → World → Prop} {md : Region.Mode}
def left (l : Array Bool) : Nat := (l.toList.filter (fun b => !b)).length
theorem left_set {l : Array Bool} {i : Nat} (h : l[i]? = some false) : left (l.setIfInBounds i true) + 1 = left l := by
 obtain ⟨xs⟩ := l
 unfold left
 simp only [List.getElem?_toArray] at h
 simp only [List.setIfInBounds_toArray]
 induction xs generalizing i with
 | nil => simp at h
 | cons x xs ih =>
  cases i with
  | zero => simp at h; subst h; simp
  | succ i =>
   simp at h
   have := ih h
   cases x <;> simp [List.set_cons_succ] <;> omega
theorem wpAny_inv (Inv : Array Bool → Act → World → Prop)
 (step : ∀ l a w i, l.size = ops.size → Inv l a w → i ∈ Region.ready md ops l → wpOp P ops Q i (fun a' w' => Inv (l.setIfInBounds i true) a' w') a w)
 (done : ∀ l a w, l.size = ops.size → Inv l a w → Region.ready md ops l = [] → Q .normal a w) :
 ∀ (fuel : Nat) (l : Array Bool) (a : Act) (w : World), l.size = ops.size → left l ≤ fuel → Inv l a w → wpAny P md ops Q fuel l a w := by
 intro fuel
 induction fuel with
 | zero =>
  intro l a w hs hl hi
  have hr : Region.ready md ops l = [] := by
   cases hx : Region.ready md ops l with
   | nil => rfl
   | cons i is =>
    have hm : i ∈ Region.ready md ops l := by rw [hx]; simp
    have h1 := (mem_ready.1 hm).1
    have hlt : i < l.size := by
     rcases Nat.lt_or_ge i l.size with h | h
     · exact h
     · simp [Array.getElem?_eq_none h] at h1
    have h2 : l[i]? = some false := by
     rw [Array.getElem?_eq_getElem hlt]
     simp [hlt] at h1
     rw [h1]
    have := left_set h2
    omega
  exact ⟨hr, done l a w hs hi hr⟩
 | succ fuel ih =>
  intro l a w hs hl hi
  refine ⟨fun hr => done l a w hs hi hr, fun i hm => ?_⟩
  have h1 := (mem_ready.1 hm).1
  have hlt : i < l.size := by
   rcases Nat.lt_or_ge i l.size with h | h
   · exact h
   · simp [Array.getElem?_eq_none h] at h1
  have h2 : l[i]? = some false := by
   rw [Array.getElem?_eq_getElem hlt]
   simp [hlt] at h1
   rw [h1]
  have h3 := left_set h2
  exact wpOp_mono (fun a' w' h => ih _ a' w' (by simpa using hs) (by omega) h) (step l a w i hs hi hm)
theorem all_of_done {l : Array Bool} (hs : l.size = ops.size) (ht : ∀ (i : Nat) (o : Oper), ops[i]? = some o → ∀ e ∈ o.after, Region.binds md e = true → e.on < i) (hr : Region.ready md ops l = []) :
 ∀ i, i < ops.size → l[i]? = some true := by
 intro i
 induction i using Nat.strongRecOn with
 | ind i ih =>
  intro hi
  have hl : i < l.size := by omega
  rw [Array.getElem?_eq_getElem hl]
  cases hb : l[i] with
  | true => rfl
  | false =>
   exfalso
   have hm : i ∈ Region.ready md ops l := by
    refine mem_ready.2 ⟨by simp [hl, hb], ops[i], Array.getElem?_eq_getElem hi, fun e he hbi => ?_⟩
    have h1 := ht i ops[i] (Array.getElem?_eq_getElem hi) e he hbi
    have h2 := ih e.on h1 (by omega)
    simp [h2]
   rw [hr] at hm
   cases hm
end
end Go.Proofs.YtccabfblgjcboaaGreatDoor

namespace Go.Proofs.YtccabfblgjcboaaGreatDoor
open Go Go.RowKit Go.Proofs
namespace Sym
section
variable {C : Ctx} {T : List Ent} {ops : Array Oper} {Q : Exit → Act → World → Prop}
theorem jb.drew (hC : C.Ok) {e : Env} {a : Act} {w : World} {V : jt} (hg : Good C e a w) (hV : jb C e a w V) : jb C e a { w with drawn := w.drawn + 1 } V :=
 jb.below hC hg ⟨rfl, rfl, rfl, Nat.le_refl _, fun _ _ => rfl⟩ hV
theorem Good.drew {e : Env} {a : Act} {w : World} (hg : Good C e a w) : Good C e a { w with drawn := w.drawn + 1 } :=
 hg.later ⟨rfl, rfl, rfl, Nat.le_refl _, fun _ _ => rfl⟩
theorem Inv.first {K : List (List Key)} {W : List Ws} {st : St} {pres : List Nat} {n : Nat} {a : Act} {w : World} (h : Sat C st a w) : Inv C K W (fun k => jm k st.m) st.nb pres n (Array.replicate n false) a w := by
 obtain ⟨e, hk, hg, h1, h2⟩ := h
 have hf : ∀ j, (Array.replicate n false).getD j false = false := by
  intro j
  simp only [Array.getD_eq_getD_getElem?, Array.getElem?_replicate]
  split <;> rfl
 refine ⟨by simp, fun i hi => absurd hi (by rw [hf]; simp), e, ?_, hg, fun b k hb => .inl (h1 b k hb), fun s f hs => .inl (h2 s f hs)⟩
 intro k v hkv
 apply hk k v
 have hkv : jk W (Array.replicate n false) k K 0 (jm k st.m) = some v := hkv
 rw [seen_none (fun x ks _ _ => hf _)] at hkv
 exact hkv
theorem wpOps_inv {I : Array Bool → Act → World → Prop} (step : ∀ l a w i, I l a w → l[i]? = some false → (∀ j, j < i → l.getD j false = true) → wpOp C.P ops Q i (fun a' w' => I (l.setIfInBounds i true) a' w') a w)
 (done : ∀ l a w, I l a w → (∀ j, j < ops.size → l.getD j false = true) → Q .normal a w) (hsz : ∀ l a w, I l a w → l.size = ops.size) :
 ∀ (n i : Nat) (l : Array Bool) (a : Act) (w : World), i + n = ops.size → I l a w → (∀ j, j < i → l.getD j false = true) → (∀ j, i ≤ j → j < ops.size → l[j]? = some false) → wpOps C.P ops Q (List.range' i n) a w
 | 0, i, l, a, w, hin, hI, h1, h2 => done l a w hI (fun j hj => h1 j (by omega))
 | n + 1, i, l, a, w, hin, hI, h1, h2 => by
  rw [List.range'_succ, wpOps_cons]
  have hil : i < l.size := by rw [hsz l a w hI]; omega
  refine wpOp_mono (fun a' w' h => ?_) (step l a w i hI (h2 i (Nat.le_refl _) (by omega)) h1)
  refine wpOps_inv step done hsz n (i + 1) _ a' w' (by omega) h ?_ ?_
  · intro j hj
    rw [getD_set hil]
    split
    · rfl
    · exact h1 j (by omega)
  · intro j hj hjs
    rw [Array.getElem?_setIfInBounds, if_neg (by omega)]
    exact h2 j (by omega) hjs
theorem region_is (hC : C.Ok) (hT : ∀ t ∈ T, t.Valid C) {id : Nat} {draw : Bool} {st st' : St} (h : region C.toStat T ops.toList st = some st') {a : Act} {w : World} (hs : Sat C st a w) (hQ : ∀ a' w', Sat C st' a' w' → Q .normal a' w') :
 (Code.region id ops draw).wp C.P Q a w := by
 unfold region at h
 split at h
 · cases h
 · rename_i hord
   split at h
   · cases h
   · rename_i K hK
     split at h
     · cases h
     · rename_i hKl
       split at h
       · cases h
       · rename_i hu
         split at h
         · rename_i W hW
           injection h with h
           subst h
           cases draw with
           | true =>
            refine wp_region_any hC.mixed ?_
            have hs' : Sat C st a { w with drawn := w.drawn + 1 } := by
             obtain ⟨e, hk, hg, h1, h2⟩ := hs
             exact ⟨e, hk.drew hC hg, hg.drew, h1, h2⟩
            refine wpAny_inv (Inv C K W (fun k => jm k st.m) st.nb (jn [] ops.toList) ops.size) ?_ ?_ ops.size _ a _ (by simp) (by unfold left; simp) (Inv.first hs')
            · intro l a w i hsz hI hi
              obtain ⟨hi1, o, ho, hr⟩ := mem_ready.1 hi
              have hlt : i < l.size := by
               rcases Nat.lt_or_ge i l.size with h | h
               · exact h
               · simp [Array.getElem?_eq_none h] at hi1
              refine Inv.step hC hT hKl hu hW hI ?_ ?_
              · rw [Array.getElem?_eq_getElem hlt]
                simp [hlt] at hi1
                rw [hi1]
              · intro o' ho'
                rw [ho] at ho'
                injection ho' with ho'; subst ho'
                exact hr
            · intro l a w hsz hI hr
              refine hQ a w (Inv.done hKl hW hI ?_)
              have := all_of_done (ops := ops) (md := .any) hsz (fun i o ho ed hed hb => by
               have := inOrder_spec hord i o (by simpa using ho) ed hed hb
               simpa using this) hr
              intro i hi
              simp [Array.getD_eq_getD_getElem?, this i hi]
           | false =>
            refine wp_region ?_
            rw [List.range_eq_range']
            refine wpOps_inv (I := Inv C K W (fun k => jm k st.m) st.nb (jn [] ops.toList) ops.size) ?_ ?_ ?_ ops.size 0 (Array.replicate ops.size false) a w (by omega) (Inv.first hs) (fun j hj => by omega) ?_
            · intro l a w i hI hi hlt
              refine Inv.step hC hT hKl hu hW hI hi ?_
              intro o ho ed hed hb
              have := inOrder_spec hord i o (by simpa using ho) ed hed hb
              exact hlt ed.on (by simpa using this)
            · intro l a w hI hall
              exact hQ a w (Inv.done hKl hW hI hall)
            · intro l a w hI; exact hI.size
            · intro j _ hj
              simp [Array.getElem?_replicate, hj]
         · cases h
inductive Xt where
 | normal
 | exit (id : Nat)
 | ret
def Xt.to : Xt → Exit
 | .normal => .normal
 | .exit id => .exit id
 | .ret => .ret
def rounds (f : St → Option (Xt × St)) : Nat → St → Option (Xt × St)
 | 0, _ => none
 | n + 1, st => match f st with
  | some (.normal, st') => rounds f n st'
  | r => r
def exec (S : Stat) (T : List Ent) : Nat → Code → St → Option (Xt × St)
 | 0, _, _ => none
 | n + 1, c, st => match c with
  | .skip => some (.normal, st)
  | .label _ => some (.normal, st)
  | .exit id => some (.exit id, st)
  | .ret => some (.ret, st)
  | .region _ ops _ => match region S T ops.toList st with
   | some st' => some (.normal, st')
   | none => none
  | .seq x y => match exec S T n x st with
   | some (.normal, st') => exec S T n y st'
   | r => r
  | .cond x c d => match lit? (opnd (fun k => jm k st.m) x) with
   | some (.bool true) => exec S T n c st
   | some (.bool false) => exec S T n d st
   | _ => none
  | .block id c => match exec S T n c st with
   | some (.exit j, st') => match Nat.beq j id with
    | true => some (.normal, st')
    | false => some (.exit j, st')
   | r => r
  | .scope c => exec S T n c st
  | .loop c => rounds (fun st => exec S T n c st) n st
  | _ => none
def Leaves (C : Ctx) (x : Xt) (st : St) : Exit → Act → World → Prop := fun e a w => e = x.to ∧ Sat C st a w
theorem wp_rounds {c : Code} {f : St → Option (Xt × St)} (hf : ∀ st x st', f st = some (x, st') → ∀ a w, Sat C st a w → c.wp C.P (Leaves C x st') a w) :
 ∀ (n : Nat) (st : St) (x : Xt) (st' : St), rounds f n st = some (x, st') → ∀ a w, Sat C st a w → x ≠ .normal ∧ ∀ (b : Frame) (k : List Item) (cs : List Frame),
  ∃ e a' w', Leaves C x st' e a' w' ∧ Arrives C.P (lone (b.at a (.code c :: .inLoop c :: k)) cs w) b k cs e a' w'
 | 0, st, x, st', h, a, w, hs => by simp [rounds] at h
 | n + 1, st, x, st', h, a, w, hs => by
  unfold rounds at h
  split at h
  · rename_i st1 h1
    have hb := hf _ _ _ h1 a w hs
    constructor
    · obtain ⟨e, a₁, w₁, ⟨rfl, hq⟩, harr⟩ := hb default [] []
      exact (wp_rounds hf n st1 x st' h a₁ w₁ hq).1
    · intro b k cs
      obtain ⟨e, a₁, w₁, ⟨rfl, hq⟩, harr⟩ := hb b (.inLoop c :: k) cs
      obtain ⟨e₂, a₂, w₂, hq₂, harr₂⟩ := (wp_rounds hf n st1 x st' h a₁ w₁ hq).2 b k cs
      exact ⟨e₂, a₂, w₂, hq₂, .of_steps (Steps.trans harr (.one step_inLoop)) harr₂⟩
  · rename_i hne
    have hb := hf _ _ _ h a w hs
    constructor
    · intro hx
      subst hx
      exact hne st' h
    · intro b k cs
      obtain ⟨e, a₁, w₁, ⟨rfl, hq⟩, harr⟩ := hb b (.inLoop c :: k) cs
      cases x with
      | normal => exact absurd h (hne st')
      | exit id => exact ⟨_, a₁, w₁, ⟨rfl, hq⟩, .pass (x := .inLoop c) rfl (fun _ _ => .inl (by simp [Xt.to])) harr⟩
      | ret => exact ⟨_, a₁, w₁, ⟨rfl, hq⟩, .pass (x := .inLoop c) rfl (fun _ _ => .inl (by simp [Xt.to])) harr⟩
theorem exec_is (hC : C.Ok) (hT : ∀ t ∈ T, t.Valid C) : ∀ (n : Nat) (c : Code) (st : St) (x : Xt) (st' : St), exec C.toStat T n c st = some (x, st') → ∀ a w, Sat C st a w → c.wp C.P (Leaves C x st') a w
 | 0, c, st, x, st', h, a, w, hs => by simp [exec] at h
 | n + 1, c, st, x, st', h, a, w, hs => by
  unfold exec at h
  split at h
  · injection h with h; injection h with h1 h2; subst h1; subst h2
    exact wp_skip ⟨rfl, hs⟩
  · injection h with h; injection h with h1 h2; subst h1; subst h2
    exact wp_label ⟨rfl, hs⟩
  · injection h with h; injection h with h1 h2; subst h1; subst h2
    exact wp_exit ⟨rfl, hs⟩
  · injection h with h; injection h with h1 h2; subst h1; subst h2
    exact wp_ret ⟨rfl, hs⟩
  · split at h
    · rename_i st1 h1
      injection h with h; injection h with h3 h2; subst h3; subst h2
      exact region_is hC hT h1 hs (fun a' w' h => ⟨rfl, h⟩)
    · cases h
  · rename_i x1 y1
    apply wp_seq
    split at h
    · rename_i st1 h1
      refine wp_mono (exec_is hC hT n _ _ _ _ h1 a w hs) ?_
      rintro e a' w' ⟨rfl, hs'⟩
      exact exec_is hC hT n _ _ _ _ h a' w' hs'
    · rename_i hne
      refine wp_mono (exec_is hC hT n _ _ _ _ h a w hs) ?_
      rintro e a' w' ⟨rfl, hs'⟩
      cases x with
      | normal => exact absurd h (hne st')
      | exit id => exact ⟨rfl, hs'⟩
      | ret => exact ⟨rfl, hs'⟩
  · rename_i x1 c1 d1
    obtain ⟨e, hk, hg, h1, h2⟩ := hs
    split at h
    · rename_i hl
      exact wp_cond_true (lit_is hk hl) (exec_is hC hT n _ _ _ _ h a w ⟨e, hk, hg, h1, h2⟩)
    · rename_i hl
      exact wp_cond_false (lit_is hk hl) (exec_is hC hT n _ _ _ _ h a w ⟨e, hk, hg, h1, h2⟩)
    · cases h
  · rename_i id1 c1
    apply wp_block
    split at h
    · rename_i j st1 h1
      split at h
      · rename_i hj
        injection h with h; injection h with h3 h2; subst h3; subst h2
        refine wp_mono (exec_is hC hT n _ _ _ _ h1 a w hs) ?_
        rintro e a' w' ⟨rfl, hs'⟩
        simp only [Xt.to, Exit.inBlock, Nat.eq_of_beq_eq_true hj, if_true]
        exact ⟨rfl, hs'⟩
      · rename_i hj
        injection h with h; injection h with h3 h2; subst h3; subst h2
        refine wp_mono (exec_is hC hT n _ _ _ _ h1 a w hs) ?_
        rintro e a' w' ⟨rfl, hs'⟩
        have : ¬ j = id1 := by
         rintro rfl
         simp at hj
        simp only [Xt.to, Exit.inBlock, if_neg this]
        exact ⟨rfl, hs'⟩
    · rename_i hne
      refine wp_mono (exec_is hC hT n _ _ _ _ h a w hs) ?_
      rintro e a' w' ⟨rfl, hs'⟩
      cases x with
      | normal => exact ⟨rfl, hs'⟩
      | exit id => exact absurd h (hne id st')
      | ret => exact ⟨rfl, hs'⟩
  · apply wp_scope_straight
    refine wp_mono (exec_is hC hT n _ _ _ _ h a w hs) ?_
    rintro e a' w' ⟨rfl, hs'⟩
    cases x <;> exact ⟨rfl, hs'⟩
  · intro b k cs
    obtain ⟨e, a', w', h1, h2⟩ := (wp_rounds (fun st x st' h => exec_is hC hT n _ st x st' h) n st x st' h a w hs).2 b k cs
    exact ⟨e, a', w', h1, .of_steps (.one step_loop) h2⟩
  · cases h
def resA (P : Program) (V : jt) : List ResultVar → Option (List A1)
 | [] => some []
 | r :: l => match resA P V l with
  | none => none
  | some xs => match r with
   | .tmp t => match opnd V (.tmp t) with
    | some (.val x) => some (x :: xs)
    | _ => none
   | .cell a t => match ptr? (opnd V (.tmp a)) with
    | some (b, o) => match loadA P V t b o with
     | some x => some (x :: xs)
     | none => none
    | none => none
def resF (tmps : Array Value) : ResultVar → Sem Value
 | .tmp t => pure (tmps.getD t undef)
 | .cell p t => do loadVar t (← asAddr (tmps.getD p undef))
theorem results_eq (fn : Func) (tmps : Array Value) : results fn tmps = (do let vs ← fn.results.mapM (resF tmps); pure (if h : vs.size = 1 then vs[0] else .tuple vs)) := by
 unfold results
 congr
theorem resA_is {e : Env} {a : Act} {w : World} {V : jt} (hV : jb C e a w V) : ∀ {l : List ResultVar} {xs : List A1}, resA C.P V l = some xs →
 ∃ vs, (l.mapM (resF a.tmps)).run C.P w = .ok vs w ∧ AsAre e xs vs
 | [], xs, h => by
  simp [resA] at h; subst h
  exact ⟨[], by simp, rfl⟩
 | r :: l, xs, h => by
  simp only [resA] at h
  split at h
  · cases h
  · rename_i ys hys
    obtain ⟨vs, h1, h2⟩ := resA_is hV hys
    split at h
    · rename_i t
      split at h
      · rename_i x hx
        injection h with h; subst h
        refine ⟨a.eval (.tmp t) :: vs, ?_, _, _, rfl, opnd_is hV hx, h2⟩
        rw [List.mapM_cons]
        simp only [resF, Sem.run_bind, Sem.run_pure, Result.andThen_ok, h1]
        rfl
      · cases h
    · rename_i p t
      split at h
      · rename_i b o hb
        obtain ⟨k, hk, hx⟩ := ptr_is hV hb
        split at h
        · rename_i y hy
          injection h with h; subst h
          obtain ⟨v, h3, h4⟩ := loadA_run hV hk hy
          refine ⟨v :: vs, ?_, _, _, rfl, h4, h2⟩
          have hx' : a.tmps.getD p undef = .pointer (some ⟨k, o, none⟩) := hx
          rw [List.mapM_cons]
          simp only [resF, Sem.run_bind, hx', asAddr, Sem.run_pure, Result.andThen_ok, h1, h3]
        · cases h
      · cases h
def Xt.ends : Xt → Bool
 | .normal => true
 | .ret => true
 | _ => false
def valsOf : List A1 → List AV
 | [] => []
 | x :: l => .val x :: valsOf l
def matchR (V : jt) : RPat → List A1 → Bool
 | .val p, [x] => matchP V p (.val x)
 | .tup ps, [] => matchPs V ps []
 | .tup ps, x :: y :: l => matchPs V ps (valsOf (x :: y :: l))
 | _, _ => false
def slotsW : Nat → List A1 → Ws
 | _, [] => []
 | t, x :: l => (.slot t, .av (.val x)) :: slotsW (t + 1) l
def start (args : List jw) : Option St :=
 match mkPs 0 args with
 | some (xs, lv, s') => some ⟨s' / 8 + 1, slotsW 0 xs ++ lv⟩
 | none => none
def runB (S : Stat) (T : List Ent) (n : Nat) (c : Code) (rs : List ResultVar) (args : List jw) (res : RPat) : Bool :=
 match start args with
 | some st => match exec S T n c st with
  | some (xt, st') => match xt.ends with
   | true => match resA S.P (fun k => jm k st'.m) rs with
    | some x => matchR (fun k => jm k st'.m) res x
    | none => false
   | false => false
  | none => false
 | none => false
theorem vals_are {e : Env} : ∀ {l : List A1} {vs : List Value}, AsAre e l vs → VsAre e (valsOf l) vs
 | [], _, h => h
 | x :: l, _, ⟨v, ws, h1, h2, h3⟩ => ⟨v, ws, h1, h2, vals_are h3⟩
theorem slotsW_mem {k : Key} {v : Kv} : ∀ {l : List A1} {t : Nat}, (k, v) ∈ slotsW t l → ∃ j x, l[j]? = some x ∧ k = .slot (t + j) ∧ v = .av (.val x)
 | [], t, h => by simp [slotsW] at h
 | x :: l, t, h => by
  simp only [slotsW, List.mem_cons, Prod.mk.injEq] at h
  rcases h with ⟨rfl, rfl⟩ | h
  · exact ⟨0, x, rfl, rfl, rfl⟩
  · obtain ⟨j, y, h1, h2, h3⟩ := slotsW_mem h
    exact ⟨j + 1, y, by simpa using h1, by rw [h2]; congr 1; omega, h3⟩
theorem PatsAre.length : ∀ {ps : List jw} {vs : List Value} {w : World}, PatsAre C w ps vs → vs.length = ps.length
 | [], _, w, h => by rw [h]; rfl
 | p :: ps, _, w, ⟨v, ws, h1, h2, h3⟩ => by rw [h1]; simp [h3.length]
theorem calls_run (hC : C.Ok) (hT : ∀ t ∈ T, t.Valid C) {f : FuncId} {fn : Func} {c : Code} {rs : List ResultVar} (hf : C.P.funcs[f]? = some fn) (hb : fn.body = some c) (hrs : fn.results.toList = rs) (hnt : fn.ntmps = C.nt) {args : List jw} {res : RPat} {n : Nat}
 (hL : C.L = []) (hlen : args.length ≤ C.nt) (hrun : runB C.toStat T n c rs args res = true) (vs : List Value) (hvs : PatsAre C C.w0 args vs) :
 Calls C.P f vs.toArray C.w0 (fun e w' => ∃ v, e = .returned v ∧ res.is C w' v ∧ Below C.w0.heap.size C.w0 w') := by
 unfold runB at hrun
 split at hrun
 · rename_i st hst
   split at hrun
   · rename_i xt st' he
     split at hrun
     · rename_i hx
       split at hrun
       · rename_i xs hr
         have hs : Sat C st { tmps := vs.toArray ++ Array.replicate (fn.ntmps - vs.toArray.size) undef, defers := [] } C.w0 := by
          unfold start at hst
          split at hst
          · rename_i ys lv s' hm
            injection hst with hst; subst hst
            obtain ⟨e, g, hxs⟩ := mkPs_is (e := ⟨fun _ => none, fun _ => none⟩) hm (Nat.le_refl _) (fun _ _ _ => rfl) hvs
            have hρ : ∀ b k, e.ρ b = some k → False := fun b k h => by rw [g.ρ] at h; cases h
            refine ⟨e, ?_, ⟨Below.refl _ _, rfl, ?_, fun b b' k h => (hρ b k h).elim, fun b k h => (hρ b k h).elim, fun k h => by rw [hL] at h; simp at h⟩, fun b k h => (hρ b k h).elim, ?_⟩
            · intro k v hkv
              rcases List.mem_append.1 (find_mem hkv) with h | h
              · obtain ⟨j, x, h1, rfl, rfl⟩ := slotsW_mem h
                obtain ⟨v, h2, h3⟩ := hxs.get j x h1
                refine ⟨v, ?_, h3⟩
                have hjl : j < vs.length := by
                 rcases Nat.lt_or_ge j vs.length with h | h
                 · exact h
                 · simp [List.getElem?_eq_none h] at h2
                show (vs.toArray ++ Array.replicate (fn.ntmps - vs.toArray.size) undef)[0 + j]? = some v
                rw [Nat.zero_add, Array.getElem?_append_left (by simpa using hjl)]
                simpa using h2
              · obtain ⟨x, cl, rfl, rfl, f, h4, h5⟩ := g.live k v h
                exact ⟨f, h4, h5⟩
            · have := hvs.length
              simp only [Array.size_append, List.size_toArray, Array.size_replicate]
              omega
            · intro s f hsf
              rcases g.ν s f hsf with h | h
              · cases h
              · show s / 8 < s' / 8 + 1
                omega
          · cases hst
         refine calls_of_wp hf hb (wp_mono (exec_is hC hT n c st xt st' he _ _ hs) ?_)
         rintro e a' w' ⟨rfl, env, hk, hg, h1, h2⟩
         have : bodyPost C.P fn (fun e w' => ∃ v, e = .returned v ∧ res.is C w' v ∧ Below C.w0.heap.size C.w0 w') .ret a' w' := by
          obtain ⟨us, h3, h4⟩ := resA_is hk hr
          have h5 : (results fn a'.tmps).run C.P w' = .ok (if h : us.toArray.size = 1 then us.toArray[0] else .tuple us.toArray) w' := by
           rw [results_eq, Array.mapM_eq_mapM_toList, hrs]
           simp only [Sem.run_bind, Sem.run_map, h3, Result.andThen_ok]
           rfl
          refine ⟨hg.defers, _, h5, _, rfl, ?_, hg.below⟩
          unfold matchR at hrun
          split at hrun
          · rename_i p x
            obtain ⟨v, ws, rfl, h6, h7⟩ := h4
            rw [show ws = [] from h7]
            exact matchP_is hk hrun h6
          · rw [show us = [] from h4]
            exact ⟨[], matchPs_is hk hrun rfl, rfl⟩
          · rename_i ps x y l
            have hl : us.toArray.size ≠ 1 := by
             obtain ⟨v, ws, rfl, _, v', ws', rfl, _⟩ := h4
             simp
            rw [dif_neg hl]
            exact ⟨us, matchPs_is hk hrun (vals_are h4), rfl⟩
          · cases hrun
         cases xt with
         | normal => exact this
         | ret => exact this
         | exit id => cases hx
       · cases hrun
     · cases hrun
   · cases hrun
 · cases hrun
end
end Sym
end Go.Proofs.YtccabfblgjcboaaGreatDoor

namespace Go.Proofs.YtccabfblgjcboaaGreatDoor
open Go Go.RowKit Go.Proofs
namespace Sym
inductive Item where
 | val (t : Nat) (p : jw)
 | box (t ty : Nat) (gs : List Grp)
 /-- It holds a slice that is the whole of a box of the call's own. (At the end of a piece only.) -/
 | own (t ty n : Nat) (gs : List Grp)
section
variable {C : Ctx} {T : List Ent} {Q : Exit → Act → World → Prop} {a : Act} {w : World}
def ItemsAre (C : Ctx) (a : Act) (w : World) : List Item → List Nat → Prop
 | [], _ => True
 | .val t p :: l, bs => (∃ v, a.tmps[t]? = some v ∧ p.is C w v) ∧ ItemsAre C a w l bs
 | .box t ty gs :: l, bs => ∃ k vs, a.tmps[t]? = some (.pointer (some ⟨k, 0, none⟩)) ∧ (C.w0.heap.size ≤ k ∧ k ∉ C.L) ∧ k ∉ bs ∧ w.heap[k]? = some (.cells vs.toArray ty (0, 0)) ∧ GrpsAre C w gs vs ∧ ItemsAre C a w l (k :: bs)
 | .own t ty n gs :: l, bs => (∃ k vs, a.tmps[t]? = some (.slice (some ⟨k, 0, none⟩) n n) ∧ (C.w0.heap.size ≤ k ∧ k ∉ C.L) ∧ w.heap[k]? = some (.cells vs.toArray ty (0, 0)) ∧ GrpsAre C w gs vs) ∧ ItemsAre C a w l bs
structure At (C : Ctx) (l : List Item) (a : Act) (w : World) : Prop where
 below : Below C.w0.heap.size C.w0 w
 defers : a.defers = []
 size : a.tmps.size = C.nt
 items : ItemsAre C a w l []
 lim : ∀ k ∈ C.L, C.w0.heap.size ≤ k ∧ k < w.heap.size
def entry : List Item → Nat → Option Ws
 | [], _ => some []
 | .val t p :: l, j => match mkP (j * 8) p with
  | some (x, lv, s') => match Nat.ble s' (j * 8 + 8) with
   | true => match entry l (j + 1) with
    | some ws => some ((.slot t, .av (.val x)) :: lv ++ ws)
    | none => none
   | false => none
  | none => none
 | .box t ty gs :: l, j => match mkGs (j * 8) gs with
  | (cs, lv, s') => match Nat.ble s' (j * 8 + 8) with
   | true => match entry l (j + 1) with
    | some ws => some ((.slot t, .av (.val (.one (.ptr j 0)))) :: (.box j, .box ty cs.length) :: cellsW j 0 cs ++ lv ++ ws)
    | none => none
   | false => none
 | .own _ _ _ _ :: _, _ => none
def meets (V : jt) : List Item → List Nat → Bool
 | [], _ => true
 | .val t p :: l, bs => match opnd V (.tmp t) with
  | some x => match matchP V p x with
   | true => meets V l bs
   | false => false
  | none => false
 | .box t ty gs :: l, bs => match ptr? (opnd V (.tmp t)) with
  | some (b, 0) => match elemN b bs with
   | true => false
   | false => match V (.box b) with
    | some (.box ty' n) => match Nat.beq ty' ty with
     | true => match cellsFrom V b 0 n with
      | some cs => match matchGs V gs cs with
       | true => meets V l (b :: bs)
       | false => false
      | none => false
     | false => false
    | _ => false
  | _ => false
 | .own t ty n gs :: l, bs => match opnd V (.tmp t) with
  | some (.val (.one (.slc b 0 n1 n2))) => match Nat.beq n1 n, Nat.beq n2 n with
   | true, true => match V (.box b) with
    | some (.box ty' m) => match Nat.beq ty' ty with
     | true => match cellsFrom V b 0 m with
      | some cs => match matchGs V gs cs with
       | true => meets V l bs
       | false => false
      | none => false
     | false => false
    | _ => false
   | _, _ => false
  | _ => false
theorem opnd_tmp {e : Env} {V : jt} (hV : jb C e a w V) {t : Nat} {x : AV} (h : opnd V (.tmp t) = some x) : ∃ v, a.tmps[t]? = some v ∧ x.is e v := by
 unfold opnd at h
 simp only at h
 split at h
 · rename_i y hy
   injection h with h; subst h
   exact hV _ _ hy
 · cases h
theorem elemN_false {n : Nat} : ∀ {l : List Nat}, elemN n l = false → n ∉ l
 | [], _ => by simp
 | m :: l, h => by
  unfold elemN at h
  split at h
  · cases h
  · rename_i hm
    have := elemN_false h
    simp only [List.mem_cons, not_or]
    refine ⟨fun e => ?_, this⟩
    subst e
    simp at hm
theorem meets_is {e : Env} {V : jt} (hV : jb C e a w V) (hg : Good C e a w) : ∀ {l : List Item} {bs ks : List Nat}, meets V l bs = true → (∀ k ∈ ks, ∃ b ∈ bs, e.ρ b = some k) → ItemsAre C a w l ks
 | [], _, _, _, _ => trivial
 | .val t p :: l, bs, ks, h, hk => by
  unfold meets at h
  split at h
  · rename_i x hx
    split at h
    · rename_i hm
      obtain ⟨v, h1, h2⟩ := opnd_tmp hV hx
      exact ⟨⟨v, h1, matchP_is hV hm h2⟩, meets_is hV hg h hk⟩
    · cases h
  · cases h
 | .box t ty gs :: l, bs, ks, h, hk => by
  unfold meets at h
  split at h
  · rename_i b hb
    split at h
    · cases h
    · rename_i hnb
      split at h
      · rename_i ty' n hbox
        split at h
        · rename_i hty
          split at h
          · rename_i cs hcs
            split at h
            · rename_i hm
              have hb' : opnd V (.tmp t) = some (.val (.one (.ptr b 0))) := by
               unfold ptr? at hb
               split at hb
               · rename_i hx
                 injection hb with hb; simp only [Prod.mk.injEq] at hb
                 rw [hx, hb.1, hb.2]
               · cases hb
              obtain ⟨v, h1, k, hρ, rfl⟩ := opnd_tmp hV hb'
              obtain ⟨k', arr, q1, q2, q3⟩ := hV _ _ hbox
              rw [hρ] at q1
              injection q1 with q1; subst q1
              obtain ⟨h4, vs, h5, h6⟩ := cellsFrom_are hV hρ _ _ _ hcs
              have hvs : arr = vs.toArray := by
               apply Array.ext
               · simp [q3, h5.length, h4]
               · intro i h7 h8
                 have h9 : i < vs.length := by simpa using h8
                 have := h6 i vs[i] (List.getElem?_eq_getElem h9)
                 simp only [Nat.zero_add, World.cell?, q2] at this
                 simp [h7] at this
                 simpa using this
              refine ⟨k, vs, h1, (hg.own b k hρ).1, ?_, by rw [q2, hvs, Nat.eq_of_beq_eq_true hty], matchGs_is hV hm h5, meets_is hV hg h ?_⟩
              · intro hmem
                obtain ⟨b', hb', hρ'⟩ := hk k hmem
                have := hg.inj b b' k hρ hρ'
                subst this
                exact elemN_false hnb hb'
              · intro k' hk'
                rcases List.mem_cons.1 hk' with rfl | hk'
                · exact ⟨b, by simp, hρ⟩
                · obtain ⟨b', hb', hρ'⟩ := hk k' hk'
                  exact ⟨b', List.mem_cons_of_mem _ hb', hρ'⟩
            · cases h
          · cases h
        · cases h
      · cases h
  · cases h
 | .own t ty n gs :: l, bs, ks, h, hk => by
  unfold meets at h
  split at h
  · rename_i b n1 n2 hx
    split at h
    · rename_i e1 e2
      split at h
      · rename_i ty' m hbox
        split at h
        · rename_i hty
          split at h
          · rename_i cs hcs
            split at h
            · rename_i hm
              obtain ⟨v, h1, k, hρ, rfl⟩ := opnd_tmp hV hx
              obtain ⟨k', arr, q1, q2, q3⟩ := hV _ _ hbox
              rw [hρ] at q1
              injection q1 with q1; subst q1
              obtain ⟨h4, vs, h5, h6⟩ := cellsFrom_are hV hρ _ _ _ hcs
              have hvs : arr = vs.toArray := by
               apply Array.ext
               · simp [q3, h5.length, h4]
               · intro i h7 h8
                 have h9 : i < vs.length := by simpa using h8
                 have := h6 i vs[i] (List.getElem?_eq_getElem h9)
                 simp only [Nat.zero_add, World.cell?, q2] at this
                 simp [h7] at this
                 simpa using this
              rw [Nat.eq_of_beq_eq_true e1, Nat.eq_of_beq_eq_true e2] at h1
              exact ⟨⟨k, vs, h1, (hg.own b k hρ).1, by rw [q2, hvs, Nat.eq_of_beq_eq_true hty], matchGs_is hV hm h5⟩, meets_is hV hg h hk⟩
            · cases h
          · cases h
        · cases h
      · cases h
    · cases h
  · cases h
theorem entry_is : ∀ {l : List Item} {j : Nat} {ws : Ws} {e : Env} {ks : List Nat}, entry l j = some ws → ItemsAre C a w l ks → (∀ b k, e.ρ b = some k → b < j ∧ k ∈ ks) → (∀ s f, e.ν s = some f → s / 8 < j) →
 (∀ b b' k, e.ρ b = some k → e.ρ b' = some k → b = b') → (∀ b k, e.ρ b = some k → (C.w0.heap.size ≤ k ∧ k ∉ C.L) ∧ k < w.heap.size) →
 ∃ e', Ext e e' ∧ (∀ k v, (k, v) ∈ ws → holds C e' a w k v) ∧ (∀ b k, e'.ρ b = some k → b < j + l.length) ∧ (∀ s f, e'.ν s = some f → s / 8 < j + l.length) ∧
  (∀ b b' k, e'.ρ b = some k → e'.ρ b' = some k → b = b') ∧ (∀ b k, e'.ρ b = some k → (C.w0.heap.size ≤ k ∧ k ∉ C.L) ∧ k < w.heap.size)
 | [], j, ws, e, ks, h, _, hρ, hν, hi, ho => by
  simp [entry] at h; subst h
  exact ⟨e, Ext.refl e, fun k v h => by simp at h, fun b k h => (hρ b k h).1, hν, hi, ho⟩
 | .val t p :: l, j, ws, e, ks, h, ⟨⟨v, h1, h2⟩, h3⟩, hρ, hν, hi, ho => by
  unfold entry at h
  split at h
  · rename_i x lv s' hm
    split at h
    · rename_i hs
      split at h
      · rename_i ws1 hws
        injection h with h; subst h
        have hs := Nat.le_of_ble_eq_true hs
        obtain ⟨e1, g, hx⟩ := mkP_is (e := e) hm hs (fun x hx hxB => by
         cases hc : e.ν x with
         | none => rfl
         | some f => have := hν x f hc; omega) h2
        obtain ⟨e', q1, q2, q3, q4, q5, q6⟩ := entry_is (e := e1) hws h3 (fun b k hb => by rw [g.ρ] at hb; have := hρ b k hb; exact ⟨by omega, this.2⟩) (fun s f hs' => by
         rcases g.ν s f hs' with h | h
         · have := hν s f h; omega
         · omega) (by rw [g.ρ]; exact hi) (by rw [g.ρ]; exact ho)
        refine ⟨e', g.ext.trans q1, ?_, fun b k hb => by have := q3 b k hb; simp only [List.length_cons]; omega, fun s f hs => by have := q4 s f hs; simp only [List.length_cons]; omega, q5, q6⟩
        intro k y hk
        simp only [List.cons_append, List.mem_cons, Prod.mk.injEq, List.mem_append] at hk
        rcases hk with ⟨rfl, rfl⟩ | hk | hk
        · exact ⟨v, h1, hx.ext q1⟩
        · obtain ⟨x, c, rfl, rfl, f, h4, h5⟩ := g.live k y hk
          exact ⟨f, q1.ν _ _ h4, h5⟩
        · exact q2 k y hk
      · cases h
    · cases h
  · cases h
 | .box t ty gs :: l, j, ws, e, ks, h, ⟨k0, vs, h1, h2, h3, h4, h5, h6⟩, hρ, hν, hi, ho => by
  unfold entry at h
  generalize hm : mkGs (j * 8) gs = r at h
  obtain ⟨cs, lv, s'⟩ := r
  simp only at h
  split at h
  · rename_i hs
    split at h
    · rename_i ws1 hws
      injection h with h; subst h
      have hs := Nat.le_of_ble_eq_true hs
      obtain ⟨e1, g, hx⟩ := mkGs_is (e := e) hm hs (fun x hx hxB => by
       cases hc : e.ν x with
       | none => rfl
       | some f => have := hν x f hc; omega) h5
      let e2 : Env := { e1 with ρ := fun b => if b = j then some k0 else e1.ρ b }
      have hj : e2.ρ j = some k0 := by simp [e2]
      have hold : ∀ b k, e2.ρ b = some k → (e.ρ b = some k ∧ b < j) ∨ (b = j ∧ k = k0) := by
       intro b k hb
       by_cases hbj : b = j
       · right
         refine ⟨hbj, ?_⟩
         rw [hbj, hj] at hb
         injection hb with hb
         exact hb.symm
       · left
         have : (if b = j then some k0 else e1.ρ b) = some k := hb
         rw [if_neg hbj, g.ρ] at this
         exact ⟨this, (hρ b k this).1⟩
      have hx2 : Ext e1 e2 := ⟨fun b k hb => by
       show (if b = j then some k0 else e1.ρ b) = some k
       rw [if_neg (fun e0 => by rw [e0, g.ρ] at hb; have := (hρ j k hb).1; omega), hb], fun _ _ h => h⟩
      have hk0 : k0 < w.heap.size := (Array.getElem?_eq_some_iff.1 h4).1
      obtain ⟨e', q1, q2, q3, q4, q5, q6⟩ := entry_is (e := e2) hws h6 (fun b k hb => by
       rcases hold b k hb with ⟨h, hlt⟩ | ⟨rfl, rfl⟩
       · exact ⟨by omega, List.mem_cons_of_mem _ (hρ b k h).2⟩
       · exact ⟨by omega, by simp⟩) (fun s f hs' => by
       rcases g.ν s f hs' with h | h
       · have := hν s f h; omega
       · omega) (fun b b' k hb hb' => by
       rcases hold b k hb with ⟨h, hlt⟩ | ⟨h7, h8⟩ <;> rcases hold b' k hb' with ⟨h', hlt'⟩ | ⟨h9, h10⟩
       · exact hi b b' k h h'
       · exact absurd (h10 ▸ (hρ b k h).2) h3
       · exact absurd (h8 ▸ (hρ b' k h').2) h3
       · rw [h7, h9]) (fun b k hb => by
       rcases hold b k hb with ⟨h, hlt⟩ | ⟨h7, h8⟩
       · exact ho b k h
       · rw [h8]; exact ⟨h2, hk0⟩)
      refine ⟨e', (g.ext.trans hx2).trans q1, ?_, fun b k hb => by have := q3 b k hb; simp only [List.length_cons]; omega, fun s f hs => by have := q4 s f hs; simp only [List.length_cons]; omega, q5, q6⟩
      have hj' : e'.ρ j = some k0 := q1.ρ _ _ hj
      intro k y hk
      simp only [List.cons_append, List.append_assoc, List.mem_cons, Prod.mk.injEq, List.mem_append] at hk
      rcases hk with ⟨rfl, rfl⟩ | ⟨rfl, rfl⟩ | hk | hk | hk
      · exact ⟨_, h1, k0, hj', rfl⟩
      · exact ⟨k0, vs.toArray, hj', h4, by simp [hx.length]⟩
      · obtain ⟨i, c, h7, rfl, rfl⟩ := cellsW_mem hk
        obtain ⟨v, h8, h9⟩ := hx.atA h7
        exact ⟨k0, _, _, v, hj', h4, by simpa using h8, (h9.ext hx2).ext q1⟩
      · obtain ⟨x, c, rfl, rfl, f, h4, h5⟩ := g.live k y hk
        exact ⟨f, q1.ν _ _ (hx2.ν _ _ h4), h5⟩
      · exact q2 k y hk
    · cases h
  · cases h
 | .own _ _ _ _ :: _, _, _, _, _, h, _, _, _, _, _ => by simp [entry] at h
def segB (S : Stat) (T : List Ent) (n : Nat) (c : Code) (pre : List Item) (x : Xt) (post : List Item) : Bool :=
 match entry pre 0 with
 | some ws => match exec S T n c ⟨pre.length, ws⟩ with
  | some (y, st') => match x, y with
   | .normal, .normal => meets (fun k => jm k st'.m) post []
   | .ret, .ret => meets (fun k => jm k st'.m) post []
   | .exit i, .exit j => match Nat.beq i j with
    | true => meets (fun k => jm k st'.m) post []
    | false => false
   | _, _ => false
  | none => false
 | none => false
theorem At.sat {pre : List Item} {ws : Ws} (h : entry pre 0 = some ws) (hA : At C pre a w) : Sat C ⟨pre.length, ws⟩ a w := by
 obtain ⟨e, _, h1, h2, h3, h4, h5⟩ := entry_is (C := C) (a := a) (w := w) (e := ⟨fun _ => none, fun _ => none⟩) (ks := []) h hA.items (fun _ _ h => by cases h) (fun _ _ h => by cases h) (fun _ _ _ h => by cases h) (fun _ _ h => by cases h)
 refine ⟨e, fun k v hk => h1 k v (find_mem hk), ⟨hA.below, hA.defers, hA.size, h4, h5, hA.lim⟩, fun b k hb => ?_, fun s f hs => ?_⟩
 · have := h2 b k hb; simpa using this
 · have := h3 s f hs; simpa using this
theorem Sat.meet {st : St} {post : List Item} (hs : Sat C st a w) (h : meets (fun k => jm k st.m) post [] = true) : At C post a w := by
 obtain ⟨e, hk, hg, _, _⟩ := hs
 exact ⟨hg.below, hg.defers, hg.size, meets_is hk hg h (fun k hk => by simp at hk), hg.lim⟩
theorem jf (hC : C.Ok) (hT : ∀ t ∈ T, t.Valid C) {n : Nat} {c : Code} {pre post : List Item} {x : Xt} (h : segB C.toStat T n c pre x post = true) (hA : At C pre a w) (hQ : ∀ a' w', At C post a' w' → Q x.to a' w') : c.wp C.P Q a w := by
 unfold segB at h
 split at h
 · rename_i ws hws
   split at h
   · rename_i y st' he
     have key : ∀ z : Xt, y = z → meets (fun k => jm k st'.m) post [] = true → (∀ a' w', At C post a' w' → Q z.to a' w') → c.wp C.P Q a w := by
      intro z hz hm hQ
      subst hz
      refine wp_mono (exec_is hC hT n c _ _ _ he a w (hA.sat hws)) ?_
      rintro e a' w' ⟨rfl, hs⟩
      exact hQ a' w' (hs.meet hm)
     split at h
     · exact key .normal rfl h hQ
     · exact key .ret rfl h hQ
     · rename_i i j
       split at h
       · rename_i hij
         have hij := Nat.eq_of_beq_eq_true hij
         subst hij
         exact key (.exit i) rfl h hQ
       · cases h
     · cases h
   · cases h
 · cases h
theorem loop_is {P : Program} {c : Code} {Θ : Type} (I : Θ → Act → World → Prop) (μ : Θ → Nat)
 (round : ∀ θ a w, I θ a w → c.wp P (Exit.then (fun a' w' => ∃ θ', I θ' a' w' ∧ μ θ' < μ θ) Q) a w) (θ : Θ) (h0 : I θ a w) : (Code.loop c).wp P Q a w := by
 intro b k cs
 have key : ∀ n θ a w, μ θ = n → I θ a w →
  ∃ e a' w', Q e a' w' ∧ Arrives P (lone (b.at a (.code c :: .inLoop c :: k)) cs w) b k cs e a' w' := by
  intro n
  induction n using Nat.strongRecOn with
  | _ n ih =>
   intro θ a w hn hI
   obtain ⟨e, a₁, w₁, hq, harr⟩ := round θ a w hI b (.inLoop c :: k) cs
   cases e with
   | normal =>
    obtain ⟨θ', hI₁, hlt⟩ := hq
    obtain ⟨e₂, a₂, w₂, hq₂, harr₂⟩ := ih (μ θ') (hn ▸ hlt) θ' a₁ w₁ rfl hI₁
    exact ⟨e₂, a₂, w₂, hq₂, .of_steps (Steps.trans harr (.one step_inLoop)) harr₂⟩
   | exit id => exact ⟨_, a₁, w₁, hq, .pass (x := .inLoop c) rfl (fun _ _ => .inl (by simp)) harr⟩
   | goto l => exact ⟨_, a₁, w₁, hq, .pass (x := .inLoop c) rfl (fun _ _ => .inl (by simp)) harr⟩
   | ret => exact ⟨_, a₁, w₁, hq, .pass (x := .inLoop c) rfl (fun _ _ => .inl (by simp)) harr⟩
   | panic ch => exact ⟨_, a₁, w₁, hq, .pass (x := .inLoop c) rfl (fun _ _ => .inl (by simp)) harr⟩
   | outgrown => exact ⟨_, a₁, w₁, hq, .pass (x := .inLoop c) rfl (fun _ _ => .inl (by simp)) harr⟩
 obtain ⟨e, a', w', hq, harr⟩ := key _ θ a w rfl h0
 exact ⟨e, a', w', hq, .of_steps (.one step_loop) harr⟩
end
def seqL : Code → Code
 | .seq a _ => a
 | c => c
def seqR : Code → Code
 | .seq _ b => b
 | c => c
def inner : Code → Code
 | .block _ c => c
 | .loop c => c
 | .scope c => c
 | c => c
def Grp.re (r : Nat → Nat) : Grp → Grp
 | .lit v => .lit v
 | .cls c n => .cls (r c) n
def jw.re (r : Nat → Nat) : jw → jw
 | .one g => .one (g.re r)
 | .agg gs => .agg (gs.map (Grp.re r))
 | .slc t n gs => .slc t n (gs.map (Grp.re r))
def Item.re (r : Nat → Nat) : Item → Item
 | .val t p => .val t (p.re r)
 | .box t ty gs => .box t ty (gs.map (Grp.re r))
 | .own t ty n gs => .own t ty n (gs.map (Grp.re r))
section
variable {C C' : Ctx} {r : Nat → Nat} {w : World}
theorem Grp.re_is (h : ∀ c f, C.E (r c) w f → C'.E c w f) {g : Grp} {vs : List Value} (hg : (g.re r).is C w vs) : g.is C' w vs := by
 cases g with
 | lit v => exact hg
 | cls c n => obtain ⟨f, h1, h2⟩ := hg; exact ⟨f, h c f h1, h2⟩
theorem Grps.re_are (h : ∀ c f, C.E (r c) w f → C'.E c w f) : ∀ {gs : List Grp} {vs : List Value}, GrpsAre C w (gs.map (Grp.re r)) vs → GrpsAre C' w gs vs
 | [], _, hg => hg
 | g :: gs, _, ⟨xs, ys, h1, h2, h3⟩ => ⟨xs, ys, h1, g.re_is h h2, Grps.re_are h h3⟩
theorem jw.re_is (h : ∀ c f, C.E (r c) w f → C'.E c w f) {p : jw} {v : Value} (hp : (p.re r).is C w v) : p.is C' w v := by
 cases p with
 | one g => exact Grp.re_is h hp
 | agg gs => obtain ⟨vs, h1, h2⟩ := hp; exact ⟨vs, Grps.re_are h h1, h2⟩
 | slc t n gs => obtain ⟨k, vs, h1, h2, h3⟩ := hp; exact ⟨k, vs, h1, h2, Grps.re_are h h3⟩
theorem Items.re_are (h : ∀ c f, C.E (r c) w f → C'.E c w f) (h0 : C'.w0 = C.w0) (hL : ∀ k ∈ C'.L, k ∈ C.L) {a : Act} : ∀ {l : List Item} {bs : List Nat}, ItemsAre C a w (l.map (Item.re r)) bs → ItemsAre C' a w l bs
 | [], _, _ => trivial
 | .val t p :: l, bs, ⟨⟨v, h1, h2⟩, h3⟩ => ⟨⟨v, h1, jw.re_is h h2⟩, Items.re_are h h0 hL h3⟩
 | .box t ty gs :: l, bs, ⟨k, vs, h1, h2, h3, h4, h5, h6⟩ => ⟨k, vs, h1, ⟨by rw [h0]; exact h2.1, fun hm => h2.2 (hL _ hm)⟩, h3, h4, Grps.re_are h h5, Items.re_are h h0 hL h6⟩
 | .own t ty n gs :: l, bs, ⟨⟨k, vs, h1, h2, h4, h5⟩, h6⟩ => ⟨⟨k, vs, h1, ⟨by rw [h0]; exact h2.1, fun hm => h2.2 (hL _ hm)⟩, h4, Grps.re_are h h5⟩, Items.re_are h h0 hL h6⟩
theorem At.re (h : ∀ c f, C.E (r c) w f → C'.E c w f) (h0 : C'.w0 = C.w0) (hL : ∀ k ∈ C'.L, k ∈ C.L) (hn : C'.nt = C.nt) {a : Act} {l l' : List Item} (hl : l' = l.map (Item.re r)) (hA : At C l' a w) : At C' l a w := by
 subst hl
 exact ⟨by rw [h0]; exact hA.below, hA.defers, hA.size.trans hn.symm, Items.re_are h h0 hL hA.items, fun k hk => by rw [h0]; exact hA.lim k (hL k hk)⟩
end
end Sym
open Go Go.RowKit Go.Proofs Lim
namespace Sym
structure Gw where
 /-- A list that grows: its block; the cells in use; the cells of an element; what the next one is. -/
 R : Nat
 m : Nat
 n : Nat
 t : Nat
 e : World → List Value → Prop
def sepT (t : Nat) : Prop := t ≠ 23 ∧ t ≠ 3 ∧ t ≠ 9
def Grew (g : Gw) (w w' : World) : Prop := ∃ cs vs, w.heap[g.R]? = some (.cells cs g.t (0, 0)) ∧ sepT g.t ∧ (∀ x, cs[0]? = some x → noSl x = true) ∧ vs.length = g.n ∧ g.m + g.n ≤ cs.size ∧ (∀ x, vs[0]? = some x → noSl x = true) ∧
 w'.heap[g.R]? = some (.cells (cs.toList.take g.m ++ vs ++ cs.toList.drop (g.m + g.n)).toArray g.t (0, 0)) ∧ g.e w' vs ∧ cN g.R w w'
structure Cl where
 L : List Gw
 n : Nat
 num : Bool
 p : World → (Nat → Value) → Prop
structure Cl.Ok (okT : List Nat) (B : Nat) (x : Cl) : Prop where
 below : ∀ w w' f, Below w.heap.size w w' → x.p w f → x.p w' f
 only : ∀ w w' R f cs t, B ≤ R → R ∉ x.L.map (·.R) → w.heap[R]? = some (.cells cs t (0, 0)) → t ∈ okT → (∀ x, cs[0]? = some x → noSl x = true) → boxFull Tryz.prog t cs.size = true → cN R w w' → x.p w f → x.p w' f
 num : ∀ w f, x.num = true → x.p w f → noSl (f 0) = true
 cell : ∀ w f j, x.p w f → j < x.n → (f j).oneCell' = true
noncomputable def mkC (csz : List Nat) (numc : List Bool) (okT : List Nat) (nt : Nat) (cl : List Cl) (w0 : World) : Ctx :=
 { P := Tryz.prog, csz, numc, okT, nt, E := fun c w f => match cl[c]? with | some x => x.p w f | none => False, w0, L := (cl.flatMap (·.L)).map (·.R), G := fun w w' => ∃ g ∈ cl.flatMap (·.L), Grew g w w' }
theorem noL {csz : List Nat} {numc : List Bool} {okT : List Nat} {nt : Nat} {cl : List Cl} {w0 : World} {P : Prop} (hL : cl.flatMap (·.L) = []) {k : Nat} (hk : k ∈ (mkC csz numc okT nt cl w0).L) : P := by
 have hk : k ∈ (cl.flatMap (·.L)).map (·.R) := hk
 rw [hL] at hk
 simp at hk
def Cl.Grows (l : List Gw) (x : Cl) : Prop := ∀ g ∈ l, ∀ w w' f, Grew g w w' → x.p w f → x.p w' f
theorem mkC_ok {csz : List Nat} {numc : List Bool} {okT : List Nat} {nt : Nat} {cl : List Cl} {w0 : World} (h : ∀ x ∈ cl, x.Ok okT w0.heap.size) (h1 : cl.map (·.n) = csz) (h2 : cl.map (·.num) = numc) (hg : cl.flatMap (·.L) = [] ∨ ∀ x ∈ cl, x.Grows (cl.flatMap (·.L)) := by exact .inl rfl) : (mkC csz numc okT nt cl w0).Ok := by
 refine ⟨?_, ?_, ?_, ?_, by kernel_rfl, ?_, ?_⟩
 · intro c w w' f hb hE
   simp only [mkC] at hE ⊢
   split at hE
   · rename_i x hx
     exact (h x (List.mem_of_getElem? hx)).below w w' f hb hE
   · exact hE
 · intro c w w' R f cs t hB hL ho ht hz hf hb hE
   simp only [mkC] at hE ⊢
   split at hE
   · rename_i x hx
     exact (h x (List.mem_of_getElem? hx)).only w w' R f cs t hB (fun hm => hL (by
      obtain ⟨g, hg, e⟩ := List.mem_map.1 hm
      exact List.mem_map.2 ⟨g, List.mem_flatMap.2 ⟨x, List.mem_of_getElem? hx, hg⟩, e⟩)) ho ht hz hf hb hE
   · exact hE
 · intro c w f hn hE
   simp only [mkC] at hE hn
   split at hE
   · rename_i x hx
     refine (h x (List.mem_of_getElem? hx)).num w f ?_ hE
     rw [← h2] at hn
     simpa [List.getD, hx] using hn
   · exact hE.elim
 · intro c w f j hE hj
   simp only [mkC] at hE hj
   split at hE
   · rename_i x hx
     refine (h x (List.mem_of_getElem? hx)).cell w f j hE ?_
     rw [← h1] at hj
     simpa [List.getD, hx] using hj
   · exact hE.elim
 · rintro c w w' f ⟨g, hg1, hg2⟩ hE
   rcases hg with hg | hg
   · rw [hg] at hg1; simp at hg1
   · simp only [mkC] at hE ⊢
     split at hE
     · rename_i x hx
       exact hg x (List.mem_of_getElem? hx) g hg1 w w' f hg2 hE
     · exact hE
 · rintro w w' ⟨g, hg1, _, _, _, _, _, _, _, _, _, _, ho⟩
   exact ⟨ho.os, ho.tape, ho.output, ho.size, fun k hk => ho.block k (fun e => hk (List.mem_map.2 ⟨g, hg1, e.symm⟩))⟩
def clV (v : Value) : Cl := ⟨[], 1, noSl v, fun _ f => f 0 = v⟩
theorem clV_ok {okT : List Nat} {B : Nat} {v : Value} (hv : v.oneCell' = true) : (clV v).Ok okT B := by
 refine ⟨fun w w' f hb h => h, fun w w' R f cs t _ _ ho hm hz _ hb h => h, ?_, ?_⟩
 · intro w f h1 h
   rw [show f 0 = v from h]
   exact h1
 · intro w f j h hj
   have hj : j < 1 := hj
   obtain rfl : j = 0 := by omega
   rw [show f 0 = v from h]
   exact hv
def vp (v : Value) : jw := .one (.lit v)
def op (c : Nat) : jw := .one (.cls c 1)
section
variable {csz : List Nat} {numc : List Bool} {okT : List Nat} {nt : Nat} {cl : List Cl} {w0 : World} {w : World} {v : Value} {c d c1 c2 c3 c4 c5 c6 : Nat}
theorem op_is {x : Value} (h : cl[c]? = some (clV x)) : (op c).is (mkC csz numc okT nt cl w0) w v ↔ v = x := by
 constructor
 · rintro ⟨f, hE, hv⟩
   simp only [mkC, h] at hE
   have : v = f 0 := by simpa [List.range_succ] using hv
   rw [this]; exact hE
 · rintro rfl
   refine ⟨fun _ => v, ?_, rfl⟩
   simp only [mkC, h]
   rfl
theorem vp_is {C : Ctx} {x : Value} : (vp x).is C w v ↔ v = x := by
 constructor
 · intro h
   have h : [v] = [x] := h
   simpa using h
 · rintro rfl; exact rfl
theorem vp_r (C : Ctx) (w : World) (x : Value) : RPat.is C w (.val (vp x)) x := rfl
abbrev V (csz : List Nat) (numc : List Bool) (okT : List Nat) (nt : Nat) (cl : List Cl) (w0 : World) (hd : Hd) (args : List jw) (res : RPat) : Prop := Ent.Valid (mkC csz numc okT nt cl w0) ⟨hd, args, res⟩
theorem cA {P : Ent → Prop} : ∀ t ∈ ([] : List Ent), P t := fun t h => by simp at h
theorem cg {P : Ent → Prop} {a : Ent} {l : List Ent} (h : P a) (k : ∀ t ∈ l, P t) : ∀ t ∈ a :: l, P t := fun t ht => by
 rcases List.mem_cons.1 ht with rfl | ht
 · exact h
 · exact k t ht
theorem oks_nil {okT : List Nat} {B : Nat} : ∀ x ∈ ([] : List Cl), x.Ok okT B := fun t h => by simp at h
theorem ci {okT : List Nat} {B : Nat} {a : Cl} {l : List Cl} (h : a.Ok okT B) (k : ∀ t ∈ l, t.Ok okT B) : ∀ t ∈ a :: l, t.Ok okT B := fun t ht => by
 rcases List.mem_cons.1 ht with rfl | ht
 · exact h
 · exact k t ht
def bodyOf (fn : Func) : Code := match fn.body with | some c => c | none => .skip
theorem val_of {C : Ctx} {w : World} {x v : Value} (h : RPat.is C w (.val (vp x)) v) : v = x := by
 have h : [v] = [x] := h
 simpa using h
theorem run_mk {T : List Ent} (hC : (mkC csz numc okT nt cl w0).Ok) (hT : ∀ t ∈ T, t.Valid (mkC csz numc okT nt cl w0)) (f : FuncId) (fn : Func) (args : List jw) (res : RPat) (n : Nat) (hf : Tryz.prog.funcs[f]? = some fn) (hb : fn.body = some (bodyOf fn)) (hnt : fn.ntmps = nt)
 (hlen : Nat.ble args.length nt = true) (hrun : runB ⟨Tryz.prog, csz, numc, okT, nt⟩ T n (bodyOf fn) fn.results.toList args res = true) (vs : List Value) (hvs : PatsAre (mkC csz numc okT nt cl w0) w0 args vs) (hL : cl.flatMap (·.L) = [] := by rfl) :
 Calls Tryz.prog f vs.toArray w0 (fun e w' => ∃ v, e = .returned v ∧ res.is (mkC csz numc okT nt cl w0) w' v ∧ Below w0.heap.size w0 w') :=
 calls_run hC hT hf hb rfl hnt (by show (cl.flatMap (·.L)).map (·.R) = []; rw [hL]; rfl) (Nat.le_of_ble_eq_true hlen) hrun vs hvs
end
end Sym
open Go Go.RowKit Go.Proofs Lim
namespace Sym
abbrev ii (n : Int) : Value := .int .i64 n
def Dg (w : World) (v : Value) (ds : List Nat) : Prop := ∃ ao cap, v = .slice ao ds.length cap ∧ ds.length ≤ cap ∧ (cap : Int) ≤ 9223372036854775807 ∧
 (0 < ds.length → ∃ b off, ao = some ⟨b, off, none⟩ ∧ (∃ cs fr, w.heap[b]? = some (.cells cs 3 fr)) ∧ ∀ i, i < ds.length → w.cell? ⟨b, off + i, none⟩ = some (ii ((ds.getD i 0 : Nat) : Int)))
def clD (ds : List Nat) : Cl := ⟨[], 1, false, fun w f => Dg w (f 0) ds⟩
def clF (B : Nat) (ds : List Nat) : Cl := ⟨[], 1, false, fun w f => Dg w (f 0) ds ∧ ∀ k, (f 0).ownBlock = some k → B ≤ k⟩
section
variable {csz : List Nat} {numc : List Bool} {okT : List Nat} {nt : Nat} {cl : List Cl} {w0 : World} {w : World} {v z : Value} {p1 p2 p3 : jw} {res : RPat} {c d c1 c2 c3 c4 c5 c6 : Nat} {ds es : List Nat} {x y : Int}
def PV (csz : List Nat) (numc : List Bool) (okT : List Nat) (nt : Nat) (cl : List Cl) (w0 : World) (p : jw) (x : Value) : Prop := ∀ w v, p.is (mkC csz numc okT nt cl w0) w v → v = x
def RV (csz : List Nat) (numc : List Bool) (okT : List Nat) (nt : Nat) (cl : List Cl) (w0 : World) (r : RPat) (x : Value) : Prop := ∀ w, r.is (mkC csz numc okT nt cl w0) w x
def RD (csz : List Nat) (numc : List Bool) (okT : List Nat) (nt : Nat) (cl : List Cl) (w0 : World) (r : RPat) (ds : List Nat) : Prop := ∀ w v, Dg w v ds → r.is (mkC csz numc okT nt cl w0) w v
theorem pv (h : cl[c]? = some (clV v)) : PV csz numc okT nt cl w0 (op c) v := fun _ _ h1 => (op_is h).1 h1
theorem pvl : PV csz numc okT nt cl w0 (vp v) v := fun _ _ h1 => vp_is.1 h1
theorem rv (h : cl[c]? = some (clV v)) : RV csz numc okT nt cl w0 (.val (op c)) v := fun _ => (op_is h).2 rfl
theorem rvl : RV csz numc okT nt cl w0 (.val (vp v)) v := fun _ => vp_r _ _ _
theorem op_isD (h : cl[c]? = some (clD ds)) : (op c).is (mkC csz numc okT nt cl w0) w v ↔ Dg w v ds := by
 constructor
 · rintro ⟨f, hE, hv⟩
   simp only [mkC, h] at hE
   have : v = f 0 := by simpa [List.range_succ] using hv
   rw [this]; exact hE
 · intro hv
   refine ⟨fun _ => v, ?_, rfl⟩
   simp only [mkC, h]
   exact hv
def RF (csz : List Nat) (numc : List Bool) (okT : List Nat) (nt : Nat) (cl : List Cl) (w0 : World) (r : RPat) (B : Nat) (ds : List Nat) : Prop := ∀ w v, Dg w v ds → (∀ k, v.ownBlock = some k → B ≤ k) → r.is (mkC csz numc okT nt cl w0) w v
theorem op_isF {B : Nat} (h : cl[c]? = some (clF B ds)) : (op c).is (mkC csz numc okT nt cl w0) w v ↔ Dg w v ds ∧ ∀ k, v.ownBlock = some k → B ≤ k := by
 constructor
 · rintro ⟨f, hE, hv⟩
   simp only [mkC, h] at hE
   have : v = f 0 := by simpa [List.range_succ] using hv
   rw [this]; exact hE
 · intro hv
   refine ⟨fun _ => v, ?_, rfl⟩
   simp only [mkC, h]
   exact hv
theorem rf {B : Nat} (h : cl[c]? = some (clF B ds)) : RF csz numc okT nt cl w0 (.val (op c)) B ds := fun _ _ h1 h2 => (op_isF h).2 ⟨h1, h2⟩
theorem rd (h : cl[c]? = some (clD ds)) : RD csz numc okT nt cl w0 (.val (op c)) ds := fun _ _ h1 => (op_isD h).2 h1
theorem hd_bin {o : Oper} {op : BinOp} {t : Nat} {xs : List Operand} (h : opHd o = some (.bin op t, xs)) : ∃ x y u, o.op = .binOp op t x y u ∧ xs = [x, y] := by
 unfold opHd at h
 split at h <;> first
  | (rename_i h0; simp only [Option.some.injEq, Prod.mk.injEq, Hd.bin.injEq, reduceCtorEq, false_and] at h; try (obtain ⟨⟨rfl, rfl⟩, rfl⟩ := h; exact ⟨_, _, _, h0, rfl⟩))
  | (split at h <;> simp at h)
  | simp at h
theorem hd_ix {o : Oper} {t : Nat} {xs : List Operand} (h : opHd o = some (.ix t, xs)) : ∃ x y, o.op = .indexAddr t x y ∧ xs = [x, y] := by
 unfold opHd at h
 split at h <;> first
  | (rename_i h0; simp only [Option.some.injEq, Prod.mk.injEq, Hd.ix.injEq, reduceCtorEq, false_and] at h; try (obtain ⟨rfl, rfl⟩ := h; exact ⟨_, _, h0, rfl⟩))
  | (split at h <;> simp at h)
  | simp at h
theorem hd_ld {o : Oper} {t : Nat} {xs : List Operand} (h : opHd o = some (.ld t, xs)) : ∃ x, o.op = .load t x ∧ xs = [x] := by
 unfold opHd at h
 split at h <;> first
  | (rename_i h0; simp only [Option.some.injEq, Prod.mk.injEq, Hd.ld.injEq, reduceCtorEq, false_and] at h; try (obtain ⟨rfl, rfl⟩ := h; exact ⟨_, h0, rfl⟩))
  | (split at h <;> simp at h)
  | simp at h
theorem hd_blt {o : Oper} {b : Builtin} {ats : List Nat} {t : Nat} {xs : List Operand} (h : opHd o = some (.blt b ats t, xs)) : ∃ c, o.op = .call c ∧ c.callee = .builtin b ∧ c.argTypes = ats.toArray ∧ o.type = t ∧ xs = c.args.toList := by
  unfold opHd at h
  split at h <;> first
    | (rename_i c h0
       split at h
       · rename_i b' h1
         simp only [Option.some.injEq, Prod.mk.injEq, Hd.blt.injEq] at h
         obtain ⟨⟨rfl, rfl, rfl⟩, rfl⟩ := h
         exact ⟨_, h0, h1, by simp, rfl, rfl⟩
       · simp at h)
    | (split at h <;> simp at h)
    | simp at h
theorem e_bin {o : BinOp} {t : Nat} {k : IntKind} (h1 : PV csz numc okT nt cl w0 p1 (.int k x)) (h2 : PV csz numc okT nt cl w0 p2 (.int k y)) (h3 : RV csz numc okT nt cl w0 res z)
 (hr : ∀ w, (Go.binOp o t (.int k x) (.int k y)).run Tryz.prog w = .ok z w) : V csz numc okT nt cl w0 (.bin o t) [p1, p2] res := by
 intro w ρ oo xs ho hb hvs
 obtain ⟨a, b, u, hop, rfl⟩ := hd_bin ho
 obtain ⟨v1, _, e1, h4, v2, _, e2, h5, e3⟩ := hvs
 obtain rfl := h1 _ _ h4
 obtain rfl := h2 _ _ h5
 subst e2
 simp only [List.map_cons, List.map_nil, List.cons.injEq] at e1
 obtain ⟨ea, eb, _⟩ := e1
 refine ⟨z, w, ?_, h3 w, Below.refl _ _⟩
 have hg : (eqGuard o t a b (.int k x) (.int k y)).run Tryz.prog w = .ok () w := by
  unfold eqGuard
  cases o <;> rfl
 show (execOp ρ oo).run Tryz.prog w = _
 simp only [execOp, hop, ea, eb, Sem.run_bind, hg, hr w, Result.andThen_ok]
 rfl
theorem e_add {t : Nat} {u : Int} (hz : x + y = u) (h1 : PV csz numc okT nt cl w0 p1 (ii x)) (h2 : PV csz numc okT nt cl w0 p2 (ii y)) (h3 : RV csz numc okT nt cl w0 res (ii u)) (hr : -9223372036854775808 ≤ u ∧ u ≤ 9223372036854775807) : V csz numc okT nt cl w0 (.bin .add t) [p1, p2] res :=
 e_bin h1 h2 h3 (fun w => by
  show Result.ok (Value.int .i64 (IntKind.i64.wrap (x + y))) w = _
  rw [hz, show IntKind.i64.wrap u = u by rw [IntKind.wrap_i64]; omega])
theorem e_lss {t : Nat} {k : IntKind} {b : Bool} (h1 : PV csz numc okT nt cl w0 p1 (.int k x)) (h2 : PV csz numc okT nt cl w0 p2 (.int k y)) (hb : decide (x < y) = b) : V csz numc okT nt cl w0 (.bin .lss t) [p1, p2] (.val (vp (.bool b))) :=
 e_bin h1 h2 rvl (fun w => by subst hb; cases k <;> rfl)
theorem e_gtr {t : Nat} {k : IntKind} {b : Bool} (h1 : PV csz numc okT nt cl w0 p1 (.int k x)) (h2 : PV csz numc okT nt cl w0 p2 (.int k y)) (hb : decide (x > y) = b) : V csz numc okT nt cl w0 (.bin .gtr t) [p1, p2] (.val (vp (.bool b))) :=
 e_bin h1 h2 rvl (fun w => by subst hb; cases k <;> rfl)
theorem e_geq {t : Nat} {k : IntKind} {b : Bool} (h1 : PV csz numc okT nt cl w0 p1 (.int k x)) (h2 : PV csz numc okT nt cl w0 p2 (.int k y)) (hb : decide (x ≥ y) = b) : V csz numc okT nt cl w0 (.bin .geq t) [p1, p2] (.val (vp (.bool b))) :=
 e_bin h1 h2 rvl (fun w => by subst hb; cases k <;> rfl)
end
end Sym
open Go Go.RowKit Go.Proofs Lim
namespace Sym
def argItems : Nat → List jw → List Item
 | _, [] => []
 | j, p :: ps => .val j p :: argItems (j + 1) ps
section
variable {C : Ctx} {T : List Ent} {a : Act} {w : World}
theorem argItems_are : ∀ {ps : List jw} {vs : List Value} {j : Nat} {bs : List Nat}, PatsAre C w ps vs → (∀ i v, vs[i]? = some v → a.tmps[j + i]? = some v) → ItemsAre C a w (argItems j ps) bs
 | [], _, _, _, _, _ => trivial
 | p :: ps, _, j, bs, ⟨v, ws, h1, h2, h3⟩, hs => by
  subst h1
  exact ⟨⟨v, by simpa using hs 0 v rfl, h2⟩, argItems_are h3 (fun i x hx => by
   have := hs (i + 1) x (by simpa using hx)
   rw [show j + 1 + i = j + (i + 1) by omega]
   exact this)⟩
theorem calls_at {f : FuncId} {fn : Func} {c : Code} (hf : C.P.funcs[f]? = some fn) (hb : fn.body = some c) (hnt : fn.ntmps = C.nt) {args : List jw} (hlen : args.length ≤ C.nt) {vs : List Value} (hvs : PatsAre C C.w0 args vs) {Q : Ending → World → Prop}
 (h : ∀ a, At C (argItems 0 args) a C.w0 → c.wp C.P (bodyPost C.P fn Q) a C.w0) (hL : C.L = [] := by rfl) : Calls C.P f vs.toArray C.w0 Q := by
 refine calls_of_wp hf hb (h _ ⟨Below.refl _ _, rfl, ?_, ?_, fun k hk => by rw [hL] at hk; simp at hk⟩)
 · have := hvs.length
   simp only [Array.size_append, List.size_toArray, Array.size_replicate]
   omega
 · refine argItems_are hvs (fun i v hi => ?_)
   have hil : i < vs.length := by
    rcases Nat.lt_or_ge i vs.length with h | h
    · exact h
    · simp [List.getElem?_eq_none h] at hi
   show (vs.toArray ++ Array.replicate (fn.ntmps - vs.toArray.size) undef)[0 + i]? = some v
   rw [Nat.zero_add, Array.getElem?_append_left (by simpa using hil)]
   simpa using hi
theorem at_ret {fn : Func} {t : Nat} {p : jw} {l : List Item} (hr : fn.results = #[.tmp t]) (hA : At C (.val t p :: l) a w) {Q : Ending → World → Prop} (h : ∀ v, p.is C w v → Q (.returned v) w) : bodyPost C.P fn Q .ret a w := by
 obtain ⟨⟨v, h1, h2⟩, _⟩ := hA.items
 refine ⟨hA.defers, v, ?_, h v h2⟩
 rw [results_eq, hr]
 have : a.tmps.getD t undef = v := by rw [Array.getD_eq_getD_getElem?, h1]; rfl
 simp [resF, this]
theorem while_is {P : Program} {id : Nat} {c : Code} {Q : Exit → Act → World → Prop} {Θ : Type} (I : Θ → Act → World → Prop) (μ : Θ → Nat)
 (round : ∀ θ a w, I θ a w → c.wp P (Exit.then (fun a' w' => ∃ θ', I θ' a' w' ∧ μ θ' < μ θ) (Exit.inBlock id Q)) a w) (θ : Θ) (h0 : I θ a w) : (Code.block id (.loop c)).wp P Q a w :=
 wp_block (loop_is I μ round θ h0)
def rOf : List (Nat × Nat) → Nat → Nat
 | [], _ => 1000000
 | (c, d) :: l, x => if x = c then d else rOf l x
theorem rOf_some {cl cl' : List Cl} (hz : cl[1000000]? = none) : ∀ {l : List (Nat × Nat)} {c : Nat} {x : Cl}, (∀ p ∈ l, cl[p.2]? = cl'[p.1]?) → cl[rOf l c]? = some x → cl'[c]? = some x
 | [], c, x, _, hx => by
  simp only [rOf, hz] at hx
  cases hx
 | (c0, d) :: l, c, x, h, hx => by
  unfold rOf at hx
  split at hx
  · rename_i hc
    subst hc
    have := h (c, d) (by simp)
    rw [← this]
    exact hx
  · exact rOf_some hz (fun p hp => h p (List.mem_cons_of_mem _ hp)) hx
theorem prs_nil {P : Nat × Nat → Prop} : ∀ t ∈ ([] : List (Nat × Nat)), P t := fun t h => by simp at h
theorem cH {P : Nat × Nat → Prop} {a : Nat × Nat} {l : List (Nat × Nat)} (h : P a) (k : ∀ t ∈ l, P t) : ∀ t ∈ a :: l, P t := fun t ht => by
 rcases List.mem_cons.1 ht with rfl | ht
 · exact h
 · exact k t ht
end
section
variable {C : Ctx} {T : List Ent} {a : Act} {w : World} {Q : Exit → Act → World → Prop} {ops : Array Oper}
end
def clW (v : Value) : Cl := ⟨[], 1, false, fun _ f => f 0 = v⟩
theorem cZ {okT : List Nat} {B : Nat} {v : Value} (hv : v.oneCell' = true) : (clW v).Ok okT B := by
 refine ⟨fun w w' f hb h => h, fun w w' R f cs t _ _ ho hm hz _ hb h => h, fun _ _ h _ => absurd h (by simp [clW]), ?_⟩
 intro w f j h hj
 have hj : j < 1 := hj
 obtain rfl : j = 0 := by omega
 rw [show f 0 = v from h]
 exact hv
section
variable {csz : List Nat} {numc : List Bool} {okT : List Nat} {nt : Nat} {cl : List Cl} {w0 : World} {w : World} {v : Value} {c : Nat} {a : Act}
theorem cE {x : Value} (h : cl[c]? = some (clW x)) : (op c).is (mkC csz numc okT nt cl w0) w v ↔ v = x := by
 constructor
 · rintro ⟨f, hE, hv⟩
   simp only [mkC, h] at hE
   have : v = f 0 := by simpa [List.range_succ] using hv
   rw [this]; exact hE
 · rintro rfl
   refine ⟨fun _ => v, ?_, rfl⟩
   simp only [mkC, h]
   rfl
theorem pvW {x : Value} (h : cl[c]? = some (clW x)) : PV csz numc okT nt cl w0 (op c) x := fun _ _ h1 => (cE h).1 h1
theorem rvW {x : Value} (h : cl[c]? = some (clW x)) : RV csz numc okT nt cl w0 (.val (op c)) x := fun _ => (cE h).2 rfl
end
end Sym
open Go Go.RowKit Go.Proofs Lim
namespace Sym
theorem ju {okT : List Nat} {B : Nat} (n : Int) : (clV (ii n)).Ok okT B := clV_ok rfl
theorem noT {x : Nat} : ∀ t ∈ ([] : List Nat), t ≠ x := fun t h => by simp at h
section
variable {csz : List Nat} {numc : List Bool} {okT : List Nat} {nt : Nat} {cl : List Cl} {w0 : World} {p1 p2 : jw} {res : RPat} {ds : List Nat} {i : Nat}
end
section
variable {csz : List Nat} {numc : List Bool} {okT : List Nat} {nt : Nat} {cl : List Cl} {w0 : World} {p1 p2 : jw} {res : RPat} {ds : List Nat}
end
end Sym
open Go Go.RowKit Go.Proofs Lim
namespace Sym
end Sym
open Go Go.RowKit Go.Proofs Lim
namespace Sym
section
variable {nt : Nat} {vl : List Value} {w : World} {a : Act} {T : List Ent} {Q : Exit → Act → World → Prop}
end
def cT : Value → Nat → Value
 | .slice (some ⟨b, off, none⟩) _ _, n => .pointer (some ⟨b, off + n, none⟩)
 | _, _ => .pointer none
theorem ptrAt_one (v : Value) (n : Nat) : (cT v n).oneCell' = true := by unfold cT; split <;> rfl
section
variable {csz : List Nat} {numc : List Bool} {okT : List Nat} {nt : Nat} {cl : List Cl} {w0 : World} {p1 p2 : jw} {res : RPat} {ds : List Nat} {n : Nat} {x : Value}
end
end Sym
end Go.Proofs.YtccabfblgjcboaaGreatDoor
