/- Package exact: Dec. -/
set_option linter.all false

namespace Go.Proofs.YtccabfblgjcboaaGreatDoor.Lim
def digs (n : Nat) : List Nat := if n = 0 then [] else n % 10 :: digs (n / 10)
 termination_by n
 decreasing_by omega
theorem digs_zero : digs 0 = [] := by rw [digs]; simp
theorem digs_pos {n : Nat} (h : n ≠ 0) : digs n = n % 10 :: digs (n / 10) := by rw [digs, if_neg h]
def dbyte (d : Nat) : UInt8 := UInt8.ofNat (48 + d)
def cz (n : Nat) : List UInt8 := if n = 0 then [48] else ((digs n).map dbyte).reverse
def cU (l : List UInt8) : Nat := l.foldl (fun a c => 10 * a + (c.toNat - 48)) 0
def isDig (c : UInt8) : Bool := 48 ≤ c.toNat && c.toNat ≤ 57
theorem dbyte_toNat {d : Nat} (h : d < 10) : (dbyte d).toNat = 48 + d := by
 unfold dbyte
 rw [UInt8.toNat_ofNat']
 omega
theorem digs_lt (n : Nat) : ∀ d ∈ digs n, d < 10 := by
 induction n using Nat.strongRecOn with
 | ind n ih =>
  by_cases h : n = 0
  · subst h; rw [digs_zero]; intro d hd; cases hd
  · rw [digs_pos h]
    intro d hd
    rcases List.mem_cons.1 hd with rfl | hd
    · omega
    · exact ih (n / 10) (by omega) d hd
theorem dval_snoc (l : List UInt8) (c : UInt8) : cU (l ++ [c]) = 10 * cU l + (c.toNat - 48) := by
 unfold cU; rw [List.foldl_append]; rfl
theorem dval_append (l m : List UInt8) : cU (l ++ m) = 10 ^ m.length * cU l + cU m := by
 have h : ∀ (m : List UInt8) (a : Nat), m.foldl (fun a c => 10 * a + (c.toNat - 48)) a = 10 ^ m.length * a + m.foldl (fun a c => 10 * a + (c.toNat - 48)) 0 := by
  intro m
  induction m with
  | nil => intro a; simp
  | cons c m ih =>
   intro a
   simp only [List.foldl_cons, List.length_cons]
   rw [ih, ih (10 * 0 + (c.toNat - 48)), Nat.pow_succ]
   grind
 unfold cU
 rw [List.foldl_append, h]
theorem dval_digs (n : Nat) : cU ((digs n).map dbyte).reverse = n := by
 induction n using Nat.strongRecOn with
 | ind n ih =>
  by_cases h : n = 0
  · subst h; rw [digs_zero]; rfl
  · rw [digs_pos h, List.map_cons, List.reverse_cons, dval_snoc, ih (n / 10) (by omega), dbyte_toNat (by omega)]
    omega
theorem dval_ntext (n : Nat) : cU (cz n) = n := by
 unfold cz
 split
 · rename_i h; subst h; rfl
 · exact dval_digs n
theorem isDig_dbyte {d : Nat} (h : d < 10) : isDig (dbyte d) = true := by
 unfold isDig
 rw [dbyte_toNat h]
 simp; omega
theorem ntext_dig (n : Nat) : ∀ c ∈ cz n, isDig c = true := by
 unfold cz
 split
 · intro c hc; simp at hc; subst hc; decide
 · intro c hc
   rw [List.mem_reverse, List.mem_map] at hc
   obtain ⟨d, hd, rfl⟩ := hc
   exact isDig_dbyte (digs_lt n d hd)
theorem digs_len {n j : Nat} (h : n < 10 ^ j) : (digs n).length ≤ j := by
  induction j generalizing n with
  | zero => have : n = 0 := by simpa using h
            subst this; rw [digs_zero]; simp
  | succ j ih =>
    by_cases h0 : n = 0
    · subst h0; rw [digs_zero]; simp
    · rw [digs_pos h0, List.length_cons]
      have := ih (n := n / 10) (by rw [Nat.div_lt_iff_lt_mul (by omega)]; rw [Nat.pow_succ] at h; exact h)
      omega
theorem dval_lt (l : List UInt8) (h : ∀ c ∈ l, isDig c = true) : cU l < 10 ^ l.length := by
 induction l with
 | nil => decide
 | cons c l ih =>
  have h1 := ih (fun x hx => h x (by simp [hx]))
  have h2 := h c (by simp)
  unfold isDig at h2
  simp at h2
  have h3 := dval_append [c] l
  rw [show cU [c] = c.toNat - 48 from by simp [cU]] at h3
  rw [show c :: l = [c] ++ l from rfl, h3, List.length_append, Nat.pow_add, Nat.mul_comm (10 ^ [c].length)]
  have h4 : 10 ^ l.length * (c.toNat - 48 + 1) ≤ 10 ^ l.length * 10 ^ [c].length := Nat.mul_le_mul_left _ (by simp; omega)
  rw [Nat.mul_add] at h4
  omega
def qtext (r : Rat) : List UInt8 := (if r.num < 0 then [45] else []) ++ cz r.num.natAbs ++ (if r.den = 1 then [] else 47 :: cz r.den)
def jd (s : List UInt8) : Bool := s.head? == some 45
def restOf (s : List UInt8) : List UInt8 := if jd s then s.tail else s
def okNat (l : List UInt8) : Bool := !l.isEmpty && l.all isDig
def jj (s : List UInt8) : List UInt8 := (restOf s).takeWhile (· != 47)
def cM (s : List UInt8) : List UInt8 := if ((restOf s).dropWhile (· != 47)).isEmpty then [49] else ((restOf s).dropWhile (· != 47)).tail
def signed (neg : Bool) (n : Nat) : Rat := if neg then -(n : Rat) else (n : Rat)
def parsed (s : List UInt8) : Option Rat :=
 if okNat (jj s) && okNat (cM s) && cU (cM s) != 0 then some (signed (jd s) (cU (jj s)) * ((cU (cM s) : Nat) : Rat)⁻¹) else none
def readQ (s : List UInt8) : Rat × Int :=
 if 4000 < s.length then (0, 5) else
 match parsed s with
 | none => (0, 4)
 | some r => if qtext r = s then (r, 0) else (0, 4)
theorem readQ_ok {s : List UInt8} (h : (readQ s).2 = 0) : qtext (readQ s).1 = s := by
 unfold readQ at *
 by_cases hl : 4000 < s.length
 · rw [if_pos hl] at h; cases h
 · rw [if_neg hl] at h ⊢
   cases hp : parsed s with
   | none => rw [hp] at h; cases h
   | some r =>
    rw [hp] at h
    by_cases hq : qtext r = s
    · simp [hq]
    · simp [hq] at h
theorem readQ_len {s : List UInt8} (h : (readQ s).2 ≠ 0) : (readQ s).1 = 0 := by
 unfold readQ at *
 by_cases hl : 4000 < s.length
 · rw [if_pos hl]
 · rw [if_neg hl] at h ⊢
   cases hp : parsed s with
   | none => rfl
   | some r =>
    rw [hp] at h
    by_cases hq : qtext r = s
    · simp [hq] at h
    · simp [hq]
theorem ntext_lt (n : Nat) : n < 10 ^ (cz n).length := by
 have := dval_lt (cz n) (ntext_dig n)
 rwa [dval_ntext] at this
theorem qtext_size (r : Rat) {L : Nat} (h : (qtext r).length ≤ L) (h1 : 1 ≤ L) : r.num.natAbs < 10 ^ L ∧ r.den < 10 ^ L := by
 have e : (qtext r).length = (if r.num < 0 then [45] else ([] : List UInt8)).length + (cz r.num.natAbs).length + (if r.den = 1 then [] else 47 :: cz r.den).length := by
  unfold qtext; rw [List.length_append, List.length_append]
 refine ⟨Nat.lt_of_lt_of_le (ntext_lt _) (Nat.pow_le_pow_right (by omega) (by omega)), ?_⟩
 by_cases hd : r.den = 1
 · rw [hd]
   exact Nat.lt_of_lt_of_le (by decide : 1 < 10 ^ 1) (Nat.pow_le_pow_right (by omega) h1)
 · rw [if_neg hd, List.length_cons] at e
   exact Nat.lt_of_lt_of_le (ntext_lt _) (Nat.pow_le_pow_right (by omega) (by omega))
theorem readQ_size (s : List UInt8) {L : Nat} (h : s.length ≤ L) (h1 : 1 ≤ L) : (readQ s).1.num.natAbs < 10 ^ L ∧ (readQ s).1.den < 10 ^ L := by
 by_cases hk : (readQ s).2 = 0
 · have := readQ_ok hk
   exact qtext_size _ (by rw [this]; exact h) h1
 · rw [readQ_len hk]
   have : 1 < 10 ^ L := Nat.lt_of_lt_of_le (by decide : 1 < 10 ^ 1) (Nat.pow_le_pow_right (by omega) h1)
   exact ⟨by simp; omega, by simp; omega⟩
end Go.Proofs.YtccabfblgjcboaaGreatDoor.Lim
