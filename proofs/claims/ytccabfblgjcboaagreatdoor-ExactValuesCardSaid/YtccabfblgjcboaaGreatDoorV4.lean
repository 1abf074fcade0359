/- Package exact: Limbs Take. -/
import Derived.Test.YtccabfblgjcboaaGreatDoorV1
import Derived.Test.YtccabfblgjcboaaGreatDoorShelf
import Derived.Shelf.Spec.BitsCarry
import Derived.KernelRfl
set_option linter.all false

namespace Go.Proofs.YtccabfblgjcboaaGreatDoor
open Go Go.RowKit Go.Proofs Lim
theorem run_add64 (x y : Nat) (w : World) :
 (callFunc 149 #[.int .u64 (x : Int), .int .u64 (y : Int), .int .u64 0]).run Tryz.prog w =
  .ok (.value (.tuple #[u (sumLo x y), u (sumHi x y)])) w := by
 rw [run_callFunc_extern Tryz.func149 (by kernel_rfl) (by kernel_rfl) (by kernel_rfl) (e := add64Entry) (by kernel_rfl)]
 rfl
theorem run_sub64 (x y : Nat) (w : World) :
 (callFunc 180 #[.int .u64 (x : Int), .int .u64 (y : Int), .int .u64 0]).run Tryz.prog w =
  .ok (.value (.tuple #[u (difLo x y), u (difHi x y)])) w := by
 rw [run_callFunc_extern Tryz.func180 (by kernel_rfl) (by kernel_rfl) (by kernel_rfl) (e := sub64Entry) (by kernel_rfl)]
 rfl
theorem mul64 (x y : Nat) (hx : x < B) (hy : y < B) (w : World) :
 Calls Tryz.prog 132 #[u x, u y] w fun e w' => e = .returned (.tuple #[u (ja x y), u (cL x y)]) ∧ w = w' :=
 (Tryz.bits_Mul64 x y hx hy w).mono fun _ _ ⟨h, h'⟩ => ⟨h, h'.symm⟩
theorem mul_step {s y f c : Nat} (hs : s < B) (hy : y < B) (hf : f < B) (hc : c < B) :
 sumLo s (sumLo (cL y f) c) + B * (ja y f + sumHi (cL y f) c + sumHi s (sumLo (cL y f) c)) = s + y * f + c ∧
  ja y f + sumHi (cL y f) c + sumHi s (sumLo (cL y f) c) < B := by
 have h1 := prod_eq y f
 have h2 := sum_eq (cL y f) c
 have h3 := sum_eq s (sumLo (cL y f) c)
 have e : sumLo s (sumLo (cL y f) c) + B * (ja y f + sumHi (cL y f) c + sumHi s (sumLo (cL y f) c)) = s + y * f + c := by
  rw [Nat.mul_add, Nat.mul_add]; omega
 refine ⟨e, ?_⟩
 have i1 : y * f ≤ (B - 1) * (B - 1) := Nat.mul_le_mul (by omega) (by omega)
 have i2 : (B - 1) * (B - 1) + 2 * (B - 1) + 1 = B * B := by
  have : B = (B - 1) + 1 := by have := cO; omega
  generalize B - 1 = k at *
  rw [this]; grind
 have i3 : B * (ja y f + sumHi (cL y f) c + sumHi s (sumLo (cL y f) c)) < B * B := by omega
 exact Nat.lt_of_mul_lt_mul_left i3
attribute [local go_sem] run_add64 run_sub64
structure Added (L L' : List Nat) (so n x c : Nat) : Prop where
 len : L'.length = L.length
 ok : Ok L'
 low : L'.take so = L.take so
 high : L'.drop (so + n) = L.drop (so + n)
 sum : val L' + B ^ (so + n) * c = val L + B ^ so * x
structure Taken (L L' : List Nat) (so n x c : Nat) : Prop where
 len : L'.length = L.length
 ok : Ok L'
 low : L'.take so = L.take so
 high : L'.drop (so + n) = L.drop (so + n)
 sum : val L' + B ^ so * x = val L + B ^ (so + n) * c
theorem take_set_lt (l : List Nat) (k v so : Nat) (h : so ≤ k) : (l.set k v).take so = l.take so := by
 rw [List.take_set, List.set_eq_of_length_le (by simp; omega)]
theorem drop_set_lt (l : List Nat) (k v so : Nat) (h : k < so) : (l.set k v).drop so = l.drop so := by
 rw [List.drop_set, if_pos h]
theorem Added.start (L : List Nat) (so : Nat) (h : Ok L) : Added L L so 0 0 0 := ⟨rfl, h, rfl, rfl, by simp⟩
theorem Taken.start (L : List Nat) (so : Nat) (h : Ok L) : Taken L L so 0 0 0 := ⟨rfl, h, rfl, rfl, by simp⟩
theorem Added.step {L L' : List Nat} {so k x c s' c' y : Nat} (h : Added L L' so k x c) (hk : so + k < L.length) (hs' : s' < B)
 (e : s' + B * c' = L'[so + k]?.getD 0 + y + c) : Added L (L'.set (so + k) s') so (k + 1) (x + B ^ k * y) c' := by
 refine ⟨by rw [List.length_set, h.len], h.ok.set _ _ hs', by rw [take_set_lt _ _ _ _ (by omega), h.low], ?_, ?_⟩
 · rw [drop_set_lt _ _ _ _ (by omega), show so + (k + 1) = so + k + 1 from rfl, ← List.drop_drop, h.high, List.drop_drop]
 · have h1 := val_set L' (so + k) s' (by rw [h.len]; exact hk)
   have h2 := h.sum
   have e2 : B ^ (so + k) * s' + B ^ (so + k) * B * c' = B ^ (so + k) * L'[so + k]?.getD 0 + B ^ (so + k) * y + B ^ (so + k) * c := by
    rw [Nat.mul_assoc, ← Nat.mul_add, e, Nat.mul_add, Nat.mul_add]
   have e3 : B ^ (so + (k + 1)) = B ^ (so + k) * B := by rw [← Nat.add_assoc, Nat.pow_succ]
   have e4 : B ^ so * (x + B ^ k * y) = B ^ so * x + B ^ (so + k) * y := by rw [Nat.mul_add, ← Nat.mul_assoc, ← Nat.pow_add]
   rw [e3, e4]
   omega
theorem Taken.step {L L' : List Nat} {so k x c s' c' y : Nat} (h : Taken L L' so k x c) (hk : so + k < L.length) (hs' : s' < B)
 (e : s' + y + c = L'[so + k]?.getD 0 + B * c') : Taken L (L'.set (so + k) s') so (k + 1) (x + B ^ k * y) c' := by
 refine ⟨by rw [List.length_set, h.len], h.ok.set _ _ hs', by rw [take_set_lt _ _ _ _ (by omega), h.low], ?_, ?_⟩
 · rw [drop_set_lt _ _ _ _ (by omega), show so + (k + 1) = so + k + 1 from rfl, ← List.drop_drop, h.high, List.drop_drop]
 · have h1 := val_set L' (so + k) s' (by rw [h.len]; exact hk)
   have h2 := h.sum
   have e2 : B ^ (so + k) * s' + B ^ (so + k) * y + B ^ (so + k) * c = B ^ (so + k) * L'[so + k]?.getD 0 + B ^ (so + k) * B * c' := by
    rw [Nat.mul_assoc, ← Nat.mul_add, ← Nat.mul_add, e, Nat.mul_add]
   have e3 : B ^ (so + (k + 1)) = B ^ (so + k) * B := by rw [← Nat.add_assoc, Nat.pow_succ]
   have e4 : B ^ so * (x + B ^ k * y) = B ^ so * x + B ^ (so + k) * y := by rw [Nat.mul_add, ← Nat.mul_assoc, ← Nat.pow_add]
   rw [e3, e4]
   omega
theorem Added.wider {L L' : List Nat} {so k n x : Nat} (h : Added L L' so k x 0) (hk : k ≤ n) : Added L L' so n x 0 := by
 refine ⟨h.len, h.ok, h.low, ?_, by simpa using h.sum⟩
 rw [show so + n = so + k + (n - k) from by omega, ← List.drop_drop, h.high, List.drop_drop]
theorem Taken.wider {L L' : List Nat} {so k n x : Nat} (h : Taken L L' so k x 0) (hk : k ≤ n) : Taken L L' so n x 0 := by
 refine ⟨h.len, h.ok, h.low, ?_, by simpa using h.sum⟩
 rw [show so + n = so + k + (n - k) from by omega, ← List.drop_drop, h.high, List.drop_drop]
def AddPost (w : World) (b so n : Nat) (L : List Nat) (x : Nat) (e : Ending) (w' : World) : Prop :=
 e = .returned (.tuple #[]) ∧ cN b w w' ∧ ∃ c L', Blk w' b L' ∧ Added L L' so n x c
def AddRel (w : World) (b so : Nat) (L : List Nat) (k x : Nat) (carry i : Value) (wr : World) : Prop :=
 ∃ c L', i = .int .i64 (k : Int) ∧ carry = u c ∧ c < B ∧ Blk wr b L' ∧ Added L L' so k x c ∧ cN b w wr
theorem addMultiple_any (b so n : Nat) (scap ycap : Nat) (L Y : List Nat) (ya : Option Addr) (f : Nat) (w : World)
 (hL : Blk w b L) (hn : so + n ≤ L.length) (hlen : Y.length ≤ n) (hmax : (n : Int) ≤ 4611686018427387904) (hf : f < B) (okL : Ok L) (okY : Ok Y)
 (hY : 0 < Y.length → ∃ yb yo, ya = some ⟨yb, yo, none⟩ ∧ yb ≠ b ∧ Row w yb yo Y) :
 Calls Tryz.prog 142 #[.slice (some ⟨b, so, none⟩) n scap, .slice ya Y.length ycap, u f] w (AddPost w b so n L (f * val Y)) := by
 have HY := Lib.hid hY
 have HL := Lib.hid hL
 have HokL := Lib.hid okL
 have HokY := Lib.hid okY
 clear hY hL okL okY
 go_enter Tryz.func142, Tryz.ntmps142
 go_wp2_with fail
 go_loopw [6, 15] (fun carry i wr => ∃ k, k ≤ Y.length ∧ AddRel w b so L k (f * val (Y.take k)) carry i wr) (fun _ i _ => Y.length - (intOf i).toNat)
 case atStart => exact ⟨0, Nat.zero_le _, 0, L, rfl, rfl, cO, HL.out, by simpa [val] using Added.start L so HokL.out, cN.refl b w⟩
 case round =>
  obtain ⟨k, hk, c, L', rfl, rfl, hc, hB, hA, hO⟩ := hrel
  by_cases hlt : k < Y.length
  · obtain ⟨yb, yo, rfl, hyb, hrow⟩ := HY.out (by omega)
    have hlen' : L'.length = L.length := hA.len
    have hyc : wr.cell? ⟨yb, yo + k, none⟩ = some (u (Y[k]?.getD 0)) := (hO.cell (p := ⟨yb, yo + k, none⟩) hyb).trans (hrow k hlt)
    have hsc : wr.cell? ⟨b, so + k, none⟩ = some (u (L'[so + k]?.getD 0)) := hB.cell (so + k) (by omega)
    have hfz : wr.frozen? ⟨b, so + k, none⟩ = false := hB.frozen _
    have hy : Y[k]?.getD 0 < B := HokY.out.get k
    have hs : L'[so + k]?.getD 0 < B := hA.ok.get _
    generalize hyg : Y[k]?.getD 0 = y at *
    generalize hsg : L'[so + k]?.getD 0 = s at *
    have HA := Lib.hid hA
    have HB := Lib.hid hB
    have HO := Lib.hid hO
    have H1 := Lib.hid hyg
    have H2 := Lib.hid hsg
    have H3 := Lib.hid hlen'
    have H4 := Lib.hid (mul_step hs hy hf hc)
    clear hA hB hO hyg hsg hlen' hrow
    go_wp2_with (go_at_call 132; refine (mul64 _ _ (by assumption) (by assumption) _).mono ?_; rintro e w' ⟨rfl, rfl⟩)
    go_roundw
    case rel =>
     refine ⟨k + 1, by omega, _, _, by go_num, by rw [wrap_add3 H4.out.2], H4.out.2, HB.out.set (so + k) _ (by have := HA.out.len; omega), ?_, HO.out.set (so + k) _⟩
     rw [cG _ _ hlt, H1.out, Nat.mul_add, show f * (B ^ k * y) = B ^ k * (y * f) from by grind]
     exact HA.out.step (by omega) (sumLo_lt _ _) (by rw [H2.out]; exact H4.out.1)
    case measure => simp [intOf]; omega
  · have hkn : k = Y.length := by omega
    subst hkn
    have HA := Lib.hid hA
    have HB := Lib.hid hB
    have HO := Lib.hid hO
    clear hA hB hO
    go_wp2_with fail
    have hle := hlen
    obtain ⟨k0, hk0⟩ : ∃ k0, k0 = Y.length := ⟨_, rfl⟩
    have HK := Lib.hid hk0
    obtain ⟨w1, hw1⟩ : ∃ w1, w1 = wr := ⟨_, rfl⟩
    subst hw1
    go_loopw [6, 12] (fun carry i wr => ∃ k, Y.length ≤ k ∧ k ≤ n ∧ AddRel w b so L k (f * val Y) carry i wr) (fun _ i _ => n - (intOf i).toNat)
    case atStart => exact ⟨Y.length, Nat.le_refl _, hlen, c, L', rfl, rfl, hc, HB.out, by simpa using HA.out, HO.out⟩
    case round =>
     clear HA HB HO
     obtain ⟨k, hk1, hk2, c, L', rfl, rfl, hc, hB, hA, hO⟩ := hrel
     have HA := Lib.hid hA
     have HB := Lib.hid hB
     have HO := Lib.hid hO
     clear hA hB hO
     by_cases hc0 : c = 0
     · have hcb : (((c : Nat) : Int) != 0) = false := by subst hc0; rfl
       clear hc0
       go_wp2_with fail
       go_end0
       refine ⟨rfl, HO.out, 0, L', HB.out, ?_⟩
       have h0 : c = 0 := by simpa using hcb
       subst h0
       exact HA.out.wider hk2
     · have hcb : (((c : Nat) : Int) != 0) = true := by rw [bne_iff_ne]; omega
       clear hc0
       by_cases hlt2 : k < n
       · have hlen' : L'.length = L.length := HA.out.len
         have hsc : wr.cell? ⟨b, so + k, none⟩ = some (u (L'[so + k]?.getD 0)) := HB.out.cell (so + k) (by omega)
         have hfz : wr.frozen? ⟨b, so + k, none⟩ = false := HB.out.frozen _
         generalize hsg : L'[so + k]?.getD 0 = s at *
         have H2 := Lib.hid hsg
         have H3 := Lib.hid hlen'
         have H4 := sum_eq s c
         have HH4 := Lib.hid H4
         clear H4 hsg hlen'
         go_wp2_with fail
         go_roundw
         case rel =>
          refine ⟨k + 1, by omega, by omega, _, _, by go_num, rfl, ?_, HB.out.set (so + k) _ (by have := HA.out.len; omega), ?_, HO.out.set (so + k) _⟩
          · exact Nat.lt_of_le_of_lt (sumHi_le (by rw [← H2.out]; exact HA.out.ok.get _) hc) (by decide)
          · have := HA.out.step (y := 0) (by omega) (sumLo_lt s c) (c' := sumHi s c) (by rw [H2.out, HH4.out]; omega)
            simpa using this
         case measure => simp [intOf]; omega
       · go_wp2_with fail
         go_end0
         obtain rfl : k = n := by omega
         exact ⟨rfl, HO.out, c, L', HB.out, HA.out⟩
theorem addMultiple_one (b so n : Nat) (scap ycap : Nat) (L Y : List Nat) (ya : Option Addr) (w : World)
 (hL : Blk w b L) (hn : so + n ≤ L.length) (hlen : Y.length ≤ n) (hmax : (n : Int) ≤ 4611686018427387904) (okL : Ok L) (okY : Ok Y)
 (hY : 0 < Y.length → ∃ yb yo, ya = some ⟨yb, yo, none⟩ ∧ yb ≠ b ∧ Row w yb yo Y) :
 Calls Tryz.prog 142 #[.slice (some ⟨b, so, none⟩) n scap, .slice ya Y.length ycap, .int .u64 1] w (AddPost w b so n L (val Y)) := by
 have := addMultiple_any b so n scap ycap L Y ya 1 w hL hn hlen hmax (by decide) okL okY hY
 rw [Nat.one_mul] at this
 exact this
open Go Go.RowKit Go.Proofs Lim
attribute [local go_sem] run_add64 run_sub64
theorem take_step {s y f c : Nat} (hs : s < B) (hy : y < B) (hf : f < B) (hc : c < B) :
 difLo s (sumLo (cL y f) c) + y * f + c = s + B * (ja y f + sumHi (cL y f) c + difHi s (sumLo (cL y f) c)) ∧
  ja y f + sumHi (cL y f) c + difHi s (sumLo (cL y f) c) < B := by
 have h1 := prod_eq y f
 have h2 := sum_eq (cL y f) c
 have h3 := dif_eq hs (sumLo_lt (cL y f) c)
 have h4 := difLo_lt s (sumLo (cL y f) c)
 have e : difLo s (sumLo (cL y f) c) + y * f + c = s + B * (ja y f + sumHi (cL y f) c + difHi s (sumLo (cL y f) c)) := by
  rw [Nat.mul_add, Nat.mul_add]; omega
 refine ⟨e, ?_⟩
 have i1 : y * f ≤ (B - 1) * (B - 1) := Nat.mul_le_mul (by omega) (by omega)
 have i2 : (B - 1) * (B - 1) + 2 * (B - 1) + 1 = B * B := by
  have : B = (B - 1) + 1 := by have := cO; omega
  generalize B - 1 = k at *
  rw [this]; grind
 have i3 : B * (ja y f + sumHi (cL y f) c + difHi s (sumLo (cL y f) c)) < B * B := by omega
 exact Nat.lt_of_mul_lt_mul_left i3
def TakePost (w : World) (b so n : Nat) (L : List Nat) (x : Nat) (e : Ending) (w' : World) : Prop :=
 ∃ c L', c < B ∧ e = .returned (u c) ∧ cN b w w' ∧ Blk w' b L' ∧ Taken L L' so n x c
def TakeRel (w : World) (b so : Nat) (L : List Nat) (k x : Nat) (carry i : Value) (wr : World) : Prop :=
 ∃ c L', i = .int .i64 (k : Int) ∧ carry = u c ∧ c < B ∧ Blk wr b L' ∧ Taken L L' so k x c ∧ cN b w wr
theorem takeMultiple_any (b so n : Nat) (scap ycap : Nat) (L Y : List Nat) (ya : Option Addr) (f : Nat) (w : World)
 (hL : Blk w b L) (hn : so + n ≤ L.length) (hlen : Y.length ≤ n) (hmax : (n : Int) ≤ 4611686018427387904) (hf : f < B) (okL : Ok L) (okY : Ok Y)
 (hY : 0 < Y.length → ∃ yb yo, ya = some ⟨yb, yo, none⟩ ∧ yb ≠ b ∧ Row w yb yo Y) :
 Calls Tryz.prog 171 #[.slice (some ⟨b, so, none⟩) n scap, .slice ya Y.length ycap, u f] w (TakePost w b so n L (f * val Y)) := by
 have HY := Lib.hid hY
 have HL := Lib.hid hL
 have HokL := Lib.hid okL
 have HokY := Lib.hid okY
 clear hY hL okL okY
 go_enter Tryz.func171, Tryz.ntmps171
 go_wp2_with fail
 go_loopw [6, 15] (fun carry i wr => ∃ k, k ≤ Y.length ∧ TakeRel w b so L k (f * val (Y.take k)) carry i wr) (fun _ i _ => Y.length - (intOf i).toNat)
 case atStart => exact ⟨0, Nat.zero_le _, 0, L, rfl, rfl, cO, HL.out, by simpa [val] using Taken.start L so HokL.out, cN.refl b w⟩
 case round =>
  obtain ⟨k, hk, c, L', rfl, rfl, hc, hB, hA, hO⟩ := hrel
  by_cases hlt : k < Y.length
  · obtain ⟨yb, yo, rfl, hyb, hrow⟩ := HY.out (by omega)
    have hlen' : L'.length = L.length := hA.len
    have hyc : wr.cell? ⟨yb, yo + k, none⟩ = some (u (Y[k]?.getD 0)) := (hO.cell (p := ⟨yb, yo + k, none⟩) hyb).trans (hrow k hlt)
    have hsc : wr.cell? ⟨b, so + k, none⟩ = some (u (L'[so + k]?.getD 0)) := hB.cell (so + k) (by omega)
    have hfz : wr.frozen? ⟨b, so + k, none⟩ = false := hB.frozen _
    have hy : Y[k]?.getD 0 < B := HokY.out.get k
    have hs : L'[so + k]?.getD 0 < B := hA.ok.get _
    generalize hyg : Y[k]?.getD 0 = y at *
    generalize hsg : L'[so + k]?.getD 0 = s at *
    have HA := Lib.hid hA
    have HB := Lib.hid hB
    have HO := Lib.hid hO
    have H1 := Lib.hid hyg
    have H2 := Lib.hid hsg
    have H3 := Lib.hid hlen'
    have H4 := Lib.hid (take_step hs hy hf hc)
    clear hA hB hO hyg hsg hlen' hrow
    go_wp2_with (go_at_call 132; refine (mul64 _ _ (by assumption) (by assumption) _).mono ?_; rintro e w' ⟨rfl, rfl⟩)
    go_roundw
    case rel =>
     refine ⟨k + 1, by omega, _, _, by go_num, by rw [wrap_add3 H4.out.2], H4.out.2, HB.out.set (so + k) _ (by have := HA.out.len; omega), ?_, HO.out.set (so + k) _⟩
     rw [cG _ _ hlt, H1.out, Nat.mul_add, show f * (B ^ k * y) = B ^ k * (y * f) from by grind]
     exact HA.out.step (by omega) (difLo_lt _ _) (by rw [H2.out]; exact H4.out.1)
    case measure => simp [intOf]; omega
  · have hkn : k = Y.length := by omega
    subst hkn
    have HA := Lib.hid hA
    have HB := Lib.hid hB
    have HO := Lib.hid hO
    clear hA hB hO
    go_wp2_with fail
    have hle := hlen
    obtain ⟨k0, hk0⟩ : ∃ k0, k0 = Y.length := ⟨_, rfl⟩
    have HK := Lib.hid hk0
    obtain ⟨w1, hw1⟩ : ∃ w1, w1 = wr := ⟨_, rfl⟩
    subst hw1
    go_loopw [6, 12] (fun carry i wr => ∃ k, Y.length ≤ k ∧ k ≤ n ∧ TakeRel w b so L k (f * val Y) carry i wr) (fun _ i _ => n - (intOf i).toNat)
    case atStart => exact ⟨Y.length, Nat.le_refl _, hlen, c, L', rfl, rfl, hc, HB.out, by simpa using HA.out, HO.out⟩
    case round =>
     clear HA HB HO
     obtain ⟨k, hk1, hk2, c, L', rfl, rfl, hc, hB, hA, hO⟩ := hrel
     have HA := Lib.hid hA
     have HB := Lib.hid hB
     have HO := Lib.hid hO
     clear hA hB hO
     by_cases hc0 : c = 0
     · have hcb : (((c : Nat) : Int) != 0) = false := by subst hc0; rfl
       clear hc0
       go_wp2_with fail
       go_ret
       have h0 : c = 0 := by simpa using hcb
       subst h0
       exact ⟨0, L', cO, rfl, HO.out, HB.out, HA.out.wider hk2⟩
     · have hcb : (((c : Nat) : Int) != 0) = true := by rw [bne_iff_ne]; omega
       clear hc0
       by_cases hlt2 : k < n
       · have hlen' : L'.length = L.length := HA.out.len
         have hsc : wr.cell? ⟨b, so + k, none⟩ = some (u (L'[so + k]?.getD 0)) := HB.out.cell (so + k) (by omega)
         have hfz : wr.frozen? ⟨b, so + k, none⟩ = false := HB.out.frozen _
         generalize hsg : L'[so + k]?.getD 0 = s at *
         have H2 := Lib.hid hsg
         have H3 := Lib.hid hlen'
         have H4 := dif_eq (x := s) (y := c) (by rw [← hsg]; exact HA.out.ok.get _) hc
         have HH4 := Lib.hid H4
         clear H4 hsg hlen'
         go_wp2_with fail
         go_roundw
         case rel =>
          refine ⟨k + 1, by omega, by omega, _, _, by go_num, rfl, ?_, HB.out.set (so + k) _ (by have := HA.out.len; omega), ?_, HO.out.set (so + k) _⟩
          · exact Nat.lt_of_le_of_lt (difHi_le s c) (by decide)
          · have := HA.out.step (y := 0) (by omega) (difLo_lt s c) (c' := difHi s c) (by rw [H2.out, ← HH4.out]; omega)
            simpa using this
         case measure => simp [intOf]; omega
       · go_wp2_with fail
         go_ret
         obtain rfl : k = n := by omega
         exact ⟨c, L', hc, rfl, HO.out, HB.out, HA.out⟩
theorem takeMultiple_one (b so n : Nat) (scap ycap : Nat) (L Y : List Nat) (ya : Option Addr) (w : World)
 (hL : Blk w b L) (hn : so + n ≤ L.length) (hlen : Y.length ≤ n) (hmax : (n : Int) ≤ 4611686018427387904) (okL : Ok L) (okY : Ok Y)
 (hY : 0 < Y.length → ∃ yb yo, ya = some ⟨yb, yo, none⟩ ∧ yb ≠ b ∧ Row w yb yo Y) :
 Calls Tryz.prog 171 #[.slice (some ⟨b, so, none⟩) n scap, .slice ya Y.length ycap, .int .u64 1] w (TakePost w b so n L (val Y)) := by
 have := takeMultiple_any b so n scap ycap L Y ya 1 w hL hn hlen hmax (by decide) okL okY hY
 rw [Nat.one_mul] at this
 exact this
end Go.Proofs.YtccabfblgjcboaaGreatDoor
