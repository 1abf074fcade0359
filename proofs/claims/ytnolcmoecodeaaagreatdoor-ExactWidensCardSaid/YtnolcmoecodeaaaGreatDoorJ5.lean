/- Package exact, part 5: what its functions answer, as laws on the numbers that their values stand for (Ended ClsEnd). -/
import Derived.Test.YtnolcmoecodeaaaGreatDoorJ4
set_option linter.unusedVariables false
set_option linter.unusedSimpArgs false

/- law.ended: both ends of a span are results of ends, for each of the four operations. -/
namespace Go.Proofs.YtnolcmoecodeaaaGreatDoor
open Go Go.RowKit Go.Proofs Lim
namespace Sym

theorem no4 {rl p q r s : Rat} (h1 : decide (p = rl) = false) (h2 : decide (q = rl) = false) (h3 : decide (r = rl) = false) (h4 : decide (s = rl) = false) (h : rl = p ∨ rl = q ∨ rl = r ∨ rl = s) : False := by
  have h1 := of_decide_eq_false h1
  have h2 := of_decide_eq_false h2
  have h3 := of_decide_eq_false h3
  have h4 := of_decide_eq_false h4
  rcases h with h | h | h | h
  · exact h1 h.symm
  · exact h2 h.symm
  · exact h3 h.symm
  · exact h4 h.symm

noncomputable def cl_ended_plus_1 (rl : Rat) (rh : Rat) (a : Rat) (b : Rat) (c : Rat) (d : Rat) : List Cl := [
  clQ (rl) 100000,
  clQ (rh) 100000,
  clQ (a) 100000,
  clQ (b) 100000,
  clQ (c) 100000,
  clQ (d) 100000,
  clQ ((a) + (c)) 200001,
  clQ ((b) + (c)) 200001,
  clQ ((a) + (d)) 200001,
  clQ ((b) + (d)) 200001]

def t_ended_plus_1 : List Ent := [
  ⟨.call 29, [qp 2, qp 4], (.val (qp 6))⟩,
  ⟨.call 77, [qp 6, qp 0], (.val (vp (.bool true)))⟩,
  ⟨.call 77, [qp 6, qp 1], (.val (vp (.bool true)))⟩,
  ⟨.call 29, [qp 3, qp 4], (.val (qp 7))⟩,
  ⟨.call 29, [qp 2, qp 5], (.val (qp 8))⟩,
  ⟨.call 29, [qp 3, qp 5], (.val (qp 9))⟩]

noncomputable def cl_ended_plus_2 (rl : Rat) (rh : Rat) (a : Rat) (b : Rat) (c : Rat) (d : Rat) : List Cl := [
  clQ (rl) 100000,
  clQ (rh) 100000,
  clQ (a) 100000,
  clQ (b) 100000,
  clQ (c) 100000,
  clQ (d) 100000,
  clQ ((a) + (c)) 200001,
  clQ ((b) + (c)) 200001,
  clQ ((a) + (d)) 200001,
  clQ ((b) + (d)) 200001]

def t_ended_plus_2 : List Ent := [
  ⟨.call 29, [qp 2, qp 4], (.val (qp 6))⟩,
  ⟨.call 77, [qp 6, qp 0], (.val (vp (.bool true)))⟩,
  ⟨.call 77, [qp 6, qp 1], (.val (vp (.bool false)))⟩,
  ⟨.call 29, [qp 3, qp 4], (.val (qp 7))⟩,
  ⟨.call 77, [qp 7, qp 1], (.val (vp (.bool true)))⟩,
  ⟨.call 29, [qp 2, qp 5], (.val (qp 8))⟩,
  ⟨.call 29, [qp 3, qp 5], (.val (qp 9))⟩]

noncomputable def cl_ended_plus_3 (rl : Rat) (rh : Rat) (a : Rat) (b : Rat) (c : Rat) (d : Rat) : List Cl := [
  clQ (rl) 100000,
  clQ (rh) 100000,
  clQ (a) 100000,
  clQ (b) 100000,
  clQ (c) 100000,
  clQ (d) 100000,
  clQ ((a) + (c)) 200001,
  clQ ((b) + (c)) 200001,
  clQ ((a) + (d)) 200001,
  clQ ((b) + (d)) 200001]

def t_ended_plus_3 : List Ent := [
  ⟨.call 29, [qp 2, qp 4], (.val (qp 6))⟩,
  ⟨.call 77, [qp 6, qp 0], (.val (vp (.bool true)))⟩,
  ⟨.call 77, [qp 6, qp 1], (.val (vp (.bool false)))⟩,
  ⟨.call 29, [qp 3, qp 4], (.val (qp 7))⟩,
  ⟨.call 77, [qp 7, qp 1], (.val (vp (.bool false)))⟩,
  ⟨.call 29, [qp 2, qp 5], (.val (qp 8))⟩,
  ⟨.call 77, [qp 8, qp 1], (.val (vp (.bool true)))⟩,
  ⟨.call 29, [qp 3, qp 5], (.val (qp 9))⟩]

noncomputable def cl_ended_plus_4 (rl : Rat) (rh : Rat) (a : Rat) (b : Rat) (c : Rat) (d : Rat) : List Cl := [
  clQ (rl) 100000,
  clQ (rh) 100000,
  clQ (a) 100000,
  clQ (b) 100000,
  clQ (c) 100000,
  clQ (d) 100000,
  clQ ((a) + (c)) 200001,
  clQ ((b) + (c)) 200001,
  clQ ((a) + (d)) 200001,
  clQ ((b) + (d)) 200001]

def t_ended_plus_4 : List Ent := [
  ⟨.call 29, [qp 2, qp 4], (.val (qp 6))⟩,
  ⟨.call 77, [qp 6, qp 0], (.val (vp (.bool true)))⟩,
  ⟨.call 77, [qp 6, qp 1], (.val (vp (.bool false)))⟩,
  ⟨.call 29, [qp 3, qp 4], (.val (qp 7))⟩,
  ⟨.call 77, [qp 7, qp 1], (.val (vp (.bool false)))⟩,
  ⟨.call 29, [qp 2, qp 5], (.val (qp 8))⟩,
  ⟨.call 77, [qp 8, qp 1], (.val (vp (.bool false)))⟩,
  ⟨.call 29, [qp 3, qp 5], (.val (qp 9))⟩,
  ⟨.call 77, [qp 9, qp 1], (.val (vp (.bool true)))⟩]

noncomputable def cl_ended_plus_5 (rl : Rat) (rh : Rat) (a : Rat) (b : Rat) (c : Rat) (d : Rat) : List Cl := [
  clQ (rl) 100000,
  clQ (rh) 100000,
  clQ (a) 100000,
  clQ (b) 100000,
  clQ (c) 100000,
  clQ (d) 100000,
  clQ ((a) + (c)) 200001,
  clQ ((b) + (c)) 200001,
  clQ ((a) + (d)) 200001,
  clQ ((b) + (d)) 200001]

def t_ended_plus_5 : List Ent := [
  ⟨.call 29, [qp 2, qp 4], (.val (qp 6))⟩,
  ⟨.call 77, [qp 6, qp 0], (.val (vp (.bool false)))⟩,
  ⟨.call 77, [qp 6, qp 1], (.val (vp (.bool true)))⟩,
  ⟨.call 29, [qp 3, qp 4], (.val (qp 7))⟩,
  ⟨.call 77, [qp 7, qp 0], (.val (vp (.bool true)))⟩,
  ⟨.call 29, [qp 2, qp 5], (.val (qp 8))⟩,
  ⟨.call 29, [qp 3, qp 5], (.val (qp 9))⟩]

noncomputable def cl_ended_plus_6 (rl : Rat) (rh : Rat) (a : Rat) (b : Rat) (c : Rat) (d : Rat) : List Cl := [
  clQ (rl) 100000,
  clQ (rh) 100000,
  clQ (a) 100000,
  clQ (b) 100000,
  clQ (c) 100000,
  clQ (d) 100000,
  clQ ((a) + (c)) 200001,
  clQ ((b) + (c)) 200001,
  clQ ((a) + (d)) 200001,
  clQ ((b) + (d)) 200001]

def t_ended_plus_6 : List Ent := [
  ⟨.call 29, [qp 2, qp 4], (.val (qp 6))⟩,
  ⟨.call 77, [qp 6, qp 0], (.val (vp (.bool false)))⟩,
  ⟨.call 77, [qp 6, qp 1], (.val (vp (.bool true)))⟩,
  ⟨.call 29, [qp 3, qp 4], (.val (qp 7))⟩,
  ⟨.call 77, [qp 7, qp 0], (.val (vp (.bool false)))⟩,
  ⟨.call 29, [qp 2, qp 5], (.val (qp 8))⟩,
  ⟨.call 77, [qp 8, qp 0], (.val (vp (.bool true)))⟩,
  ⟨.call 29, [qp 3, qp 5], (.val (qp 9))⟩]

noncomputable def cl_ended_plus_7 (rl : Rat) (rh : Rat) (a : Rat) (b : Rat) (c : Rat) (d : Rat) : List Cl := [
  clQ (rl) 100000,
  clQ (rh) 100000,
  clQ (a) 100000,
  clQ (b) 100000,
  clQ (c) 100000,
  clQ (d) 100000,
  clQ ((a) + (c)) 200001,
  clQ ((b) + (c)) 200001,
  clQ ((a) + (d)) 200001,
  clQ ((b) + (d)) 200001]

def t_ended_plus_7 : List Ent := [
  ⟨.call 29, [qp 2, qp 4], (.val (qp 6))⟩,
  ⟨.call 77, [qp 6, qp 0], (.val (vp (.bool false)))⟩,
  ⟨.call 77, [qp 6, qp 1], (.val (vp (.bool true)))⟩,
  ⟨.call 29, [qp 3, qp 4], (.val (qp 7))⟩,
  ⟨.call 77, [qp 7, qp 0], (.val (vp (.bool false)))⟩,
  ⟨.call 29, [qp 2, qp 5], (.val (qp 8))⟩,
  ⟨.call 77, [qp 8, qp 0], (.val (vp (.bool false)))⟩,
  ⟨.call 29, [qp 3, qp 5], (.val (qp 9))⟩,
  ⟨.call 77, [qp 9, qp 0], (.val (vp (.bool true)))⟩]

noncomputable def cl_ended_plus_8 (rl : Rat) (rh : Rat) (a : Rat) (b : Rat) (c : Rat) (d : Rat) : List Cl := [
  clQ (rl) 100000,
  clQ (rh) 100000,
  clQ (a) 100000,
  clQ (b) 100000,
  clQ (c) 100000,
  clQ (d) 100000,
  clQ ((a) + (c)) 200001,
  clQ ((b) + (c)) 200001,
  clQ ((a) + (d)) 200001,
  clQ ((b) + (d)) 200001]

def t_ended_plus_8 : List Ent := [
  ⟨.call 29, [qp 2, qp 4], (.val (qp 6))⟩,
  ⟨.call 77, [qp 6, qp 0], (.val (vp (.bool false)))⟩,
  ⟨.call 77, [qp 6, qp 1], (.val (vp (.bool false)))⟩,
  ⟨.call 29, [qp 3, qp 4], (.val (qp 7))⟩,
  ⟨.call 77, [qp 7, qp 0], (.val (vp (.bool true)))⟩,
  ⟨.call 77, [qp 7, qp 1], (.val (vp (.bool true)))⟩,
  ⟨.call 29, [qp 2, qp 5], (.val (qp 8))⟩,
  ⟨.call 29, [qp 3, qp 5], (.val (qp 9))⟩]

noncomputable def cl_ended_plus_9 (rl : Rat) (rh : Rat) (a : Rat) (b : Rat) (c : Rat) (d : Rat) : List Cl := [
  clQ (rl) 100000,
  clQ (rh) 100000,
  clQ (a) 100000,
  clQ (b) 100000,
  clQ (c) 100000,
  clQ (d) 100000,
  clQ ((a) + (c)) 200001,
  clQ ((b) + (c)) 200001,
  clQ ((a) + (d)) 200001,
  clQ ((b) + (d)) 200001]

def t_ended_plus_9 : List Ent := [
  ⟨.call 29, [qp 2, qp 4], (.val (qp 6))⟩,
  ⟨.call 77, [qp 6, qp 0], (.val (vp (.bool false)))⟩,
  ⟨.call 77, [qp 6, qp 1], (.val (vp (.bool false)))⟩,
  ⟨.call 29, [qp 3, qp 4], (.val (qp 7))⟩,
  ⟨.call 77, [qp 7, qp 0], (.val (vp (.bool true)))⟩,
  ⟨.call 77, [qp 7, qp 1], (.val (vp (.bool false)))⟩,
  ⟨.call 29, [qp 2, qp 5], (.val (qp 8))⟩,
  ⟨.call 77, [qp 8, qp 1], (.val (vp (.bool true)))⟩,
  ⟨.call 29, [qp 3, qp 5], (.val (qp 9))⟩]

noncomputable def cl_ended_plus_10 (rl : Rat) (rh : Rat) (a : Rat) (b : Rat) (c : Rat) (d : Rat) : List Cl := [
  clQ (rl) 100000,
  clQ (rh) 100000,
  clQ (a) 100000,
  clQ (b) 100000,
  clQ (c) 100000,
  clQ (d) 100000,
  clQ ((a) + (c)) 200001,
  clQ ((b) + (c)) 200001,
  clQ ((a) + (d)) 200001,
  clQ ((b) + (d)) 200001]

def t_ended_plus_10 : List Ent := [
  ⟨.call 29, [qp 2, qp 4], (.val (qp 6))⟩,
  ⟨.call 77, [qp 6, qp 0], (.val (vp (.bool false)))⟩,
  ⟨.call 77, [qp 6, qp 1], (.val (vp (.bool false)))⟩,
  ⟨.call 29, [qp 3, qp 4], (.val (qp 7))⟩,
  ⟨.call 77, [qp 7, qp 0], (.val (vp (.bool true)))⟩,
  ⟨.call 77, [qp 7, qp 1], (.val (vp (.bool false)))⟩,
  ⟨.call 29, [qp 2, qp 5], (.val (qp 8))⟩,
  ⟨.call 77, [qp 8, qp 1], (.val (vp (.bool false)))⟩,
  ⟨.call 29, [qp 3, qp 5], (.val (qp 9))⟩,
  ⟨.call 77, [qp 9, qp 1], (.val (vp (.bool true)))⟩]

noncomputable def cl_ended_plus_11 (rl : Rat) (rh : Rat) (a : Rat) (b : Rat) (c : Rat) (d : Rat) : List Cl := [
  clQ (rl) 100000,
  clQ (rh) 100000,
  clQ (a) 100000,
  clQ (b) 100000,
  clQ (c) 100000,
  clQ (d) 100000,
  clQ ((a) + (c)) 200001,
  clQ ((b) + (c)) 200001,
  clQ ((a) + (d)) 200001,
  clQ ((b) + (d)) 200001]

def t_ended_plus_11 : List Ent := [
  ⟨.call 29, [qp 2, qp 4], (.val (qp 6))⟩,
  ⟨.call 77, [qp 6, qp 0], (.val (vp (.bool false)))⟩,
  ⟨.call 77, [qp 6, qp 1], (.val (vp (.bool false)))⟩,
  ⟨.call 29, [qp 3, qp 4], (.val (qp 7))⟩,
  ⟨.call 77, [qp 7, qp 0], (.val (vp (.bool false)))⟩,
  ⟨.call 77, [qp 7, qp 1], (.val (vp (.bool true)))⟩,
  ⟨.call 29, [qp 2, qp 5], (.val (qp 8))⟩,
  ⟨.call 77, [qp 8, qp 0], (.val (vp (.bool true)))⟩,
  ⟨.call 29, [qp 3, qp 5], (.val (qp 9))⟩]

noncomputable def cl_ended_plus_12 (rl : Rat) (rh : Rat) (a : Rat) (b : Rat) (c : Rat) (d : Rat) : List Cl := [
  clQ (rl) 100000,
  clQ (rh) 100000,
  clQ (a) 100000,
  clQ (b) 100000,
  clQ (c) 100000,
  clQ (d) 100000,
  clQ ((a) + (c)) 200001,
  clQ ((b) + (c)) 200001,
  clQ ((a) + (d)) 200001,
  clQ ((b) + (d)) 200001]

def t_ended_plus_12 : List Ent := [
  ⟨.call 29, [qp 2, qp 4], (.val (qp 6))⟩,
  ⟨.call 77, [qp 6, qp 0], (.val (vp (.bool false)))⟩,
  ⟨.call 77, [qp 6, qp 1], (.val (vp (.bool false)))⟩,
  ⟨.call 29, [qp 3, qp 4], (.val (qp 7))⟩,
  ⟨.call 77, [qp 7, qp 0], (.val (vp (.bool false)))⟩,
  ⟨.call 77, [qp 7, qp 1], (.val (vp (.bool true)))⟩,
  ⟨.call 29, [qp 2, qp 5], (.val (qp 8))⟩,
  ⟨.call 77, [qp 8, qp 0], (.val (vp (.bool false)))⟩,
  ⟨.call 29, [qp 3, qp 5], (.val (qp 9))⟩,
  ⟨.call 77, [qp 9, qp 0], (.val (vp (.bool true)))⟩]

noncomputable def cl_ended_plus_13 (rl : Rat) (rh : Rat) (a : Rat) (b : Rat) (c : Rat) (d : Rat) : List Cl := [
  clQ (rl) 100000,
  clQ (rh) 100000,
  clQ (a) 100000,
  clQ (b) 100000,
  clQ (c) 100000,
  clQ (d) 100000,
  clQ ((a) + (c)) 200001,
  clQ ((b) + (c)) 200001,
  clQ ((a) + (d)) 200001,
  clQ ((b) + (d)) 200001]

def t_ended_plus_13 : List Ent := [
  ⟨.call 29, [qp 2, qp 4], (.val (qp 6))⟩,
  ⟨.call 77, [qp 6, qp 0], (.val (vp (.bool false)))⟩,
  ⟨.call 77, [qp 6, qp 1], (.val (vp (.bool false)))⟩,
  ⟨.call 29, [qp 3, qp 4], (.val (qp 7))⟩,
  ⟨.call 77, [qp 7, qp 0], (.val (vp (.bool false)))⟩,
  ⟨.call 77, [qp 7, qp 1], (.val (vp (.bool false)))⟩,
  ⟨.call 29, [qp 2, qp 5], (.val (qp 8))⟩,
  ⟨.call 77, [qp 8, qp 0], (.val (vp (.bool true)))⟩,
  ⟨.call 77, [qp 8, qp 1], (.val (vp (.bool true)))⟩,
  ⟨.call 29, [qp 3, qp 5], (.val (qp 9))⟩]

noncomputable def cl_ended_plus_14 (rl : Rat) (rh : Rat) (a : Rat) (b : Rat) (c : Rat) (d : Rat) : List Cl := [
  clQ (rl) 100000,
  clQ (rh) 100000,
  clQ (a) 100000,
  clQ (b) 100000,
  clQ (c) 100000,
  clQ (d) 100000,
  clQ ((a) + (c)) 200001,
  clQ ((b) + (c)) 200001,
  clQ ((a) + (d)) 200001,
  clQ ((b) + (d)) 200001]

def t_ended_plus_14 : List Ent := [
  ⟨.call 29, [qp 2, qp 4], (.val (qp 6))⟩,
  ⟨.call 77, [qp 6, qp 0], (.val (vp (.bool false)))⟩,
  ⟨.call 77, [qp 6, qp 1], (.val (vp (.bool false)))⟩,
  ⟨.call 29, [qp 3, qp 4], (.val (qp 7))⟩,
  ⟨.call 77, [qp 7, qp 0], (.val (vp (.bool false)))⟩,
  ⟨.call 77, [qp 7, qp 1], (.val (vp (.bool false)))⟩,
  ⟨.call 29, [qp 2, qp 5], (.val (qp 8))⟩,
  ⟨.call 77, [qp 8, qp 0], (.val (vp (.bool true)))⟩,
  ⟨.call 77, [qp 8, qp 1], (.val (vp (.bool false)))⟩,
  ⟨.call 29, [qp 3, qp 5], (.val (qp 9))⟩,
  ⟨.call 77, [qp 9, qp 1], (.val (vp (.bool true)))⟩]

noncomputable def cl_ended_plus_15 (rl : Rat) (rh : Rat) (a : Rat) (b : Rat) (c : Rat) (d : Rat) : List Cl := [
  clQ (rl) 100000,
  clQ (rh) 100000,
  clQ (a) 100000,
  clQ (b) 100000,
  clQ (c) 100000,
  clQ (d) 100000,
  clQ ((a) + (c)) 200001,
  clQ ((b) + (c)) 200001,
  clQ ((a) + (d)) 200001,
  clQ ((b) + (d)) 200001]

def t_ended_plus_15 : List Ent := [
  ⟨.call 29, [qp 2, qp 4], (.val (qp 6))⟩,
  ⟨.call 77, [qp 6, qp 0], (.val (vp (.bool false)))⟩,
  ⟨.call 77, [qp 6, qp 1], (.val (vp (.bool false)))⟩,
  ⟨.call 29, [qp 3, qp 4], (.val (qp 7))⟩,
  ⟨.call 77, [qp 7, qp 0], (.val (vp (.bool false)))⟩,
  ⟨.call 77, [qp 7, qp 1], (.val (vp (.bool false)))⟩,
  ⟨.call 29, [qp 2, qp 5], (.val (qp 8))⟩,
  ⟨.call 77, [qp 8, qp 0], (.val (vp (.bool false)))⟩,
  ⟨.call 77, [qp 8, qp 1], (.val (vp (.bool true)))⟩,
  ⟨.call 29, [qp 3, qp 5], (.val (qp 9))⟩,
  ⟨.call 77, [qp 9, qp 0], (.val (vp (.bool true)))⟩]

noncomputable def cl_ended_plus_16 (rl : Rat) (rh : Rat) (a : Rat) (b : Rat) (c : Rat) (d : Rat) : List Cl := [
  clQ (rl) 100000,
  clQ (rh) 100000,
  clQ (a) 100000,
  clQ (b) 100000,
  clQ (c) 100000,
  clQ (d) 100000,
  clQ ((a) + (c)) 200001,
  clQ ((b) + (c)) 200001,
  clQ ((a) + (d)) 200001,
  clQ ((b) + (d)) 200001]

def t_ended_plus_16 : List Ent := [
  ⟨.call 29, [qp 2, qp 4], (.val (qp 6))⟩,
  ⟨.call 77, [qp 6, qp 0], (.val (vp (.bool false)))⟩,
  ⟨.call 77, [qp 6, qp 1], (.val (vp (.bool false)))⟩,
  ⟨.call 29, [qp 3, qp 4], (.val (qp 7))⟩,
  ⟨.call 77, [qp 7, qp 0], (.val (vp (.bool false)))⟩,
  ⟨.call 77, [qp 7, qp 1], (.val (vp (.bool false)))⟩,
  ⟨.call 29, [qp 2, qp 5], (.val (qp 8))⟩,
  ⟨.call 77, [qp 8, qp 0], (.val (vp (.bool false)))⟩,
  ⟨.call 77, [qp 8, qp 1], (.val (vp (.bool false)))⟩,
  ⟨.call 29, [qp 3, qp 5], (.val (qp 9))⟩,
  ⟨.call 77, [qp 9, qp 0], (.val (vp (.bool true)))⟩,
  ⟨.call 77, [qp 9, qp 1], (.val (vp (.bool true)))⟩]

set_option maxRecDepth 100000 in
theorem ended_plus (v1 v2 v3 : Value) (rl rh a b c d : Rat) (w : World) (hG : Gr w) (q1 : IsS w v1 rl rh) (q2 : IsS w v2 a b) (q3 : IsS w v3 c d) (z1 : Siz rl 100000) (z2 : Siz rh 100000) (z3 : Siz a 100000) (z4 : Siz b 100000) (z5 : Siz c 100000) (z6 : Siz d 100000) (hl : rl = (a) + (c) ∨ rl = (b) + (c) ∨ rl = (a) + (d) ∨ rl = (b) + (d)) (hh : rh = (a) + (c) ∨ rh = (b) + (c) ∨ rh = (a) + (d) ∨ rh = (b) + (d)) :
    Calls Tryz.prog 79 #[v1, v2, v3, .func (.func 29) #[] #[]] w (Go.Proofs.YtnolcmoecodeaaaGreatDoor.Val w (.bool true)) := by
  cases h1 : decide (((a) + (c)) = (rl)) with
  | true =>
    cases h2 : decide (((a) + (c)) = (rh)) with
    | true =>
      have hC : (mkC [4, 4, 4, 4, 4, 4, 4, 4, 4, 4] [true, true, true, true, true, true, true, true, true, true] [26, 66, 64, 104] 55 (cl_ended_plus_1 rl rh a b c d) w).Ok := mkC_ok (oks_cons (clQ_ok (by decide) _ _) <| oks_cons (clQ_ok (by decide) _ _) <| oks_cons (clQ_ok (by decide) _ _) <| oks_cons (clQ_ok (by decide) _ _) <| oks_cons (clQ_ok (by decide) _ _) <| oks_cons (clQ_ok (by decide) _ _) <| oks_cons (clQ_ok (by decide) _ _) <| oks_cons (clQ_ok (by decide) _ _) <| oks_cons (clQ_ok (by decide) _ _) <| oks_cons (clQ_ok (by decide) _ _) <| oks_nil) rfl rfl
      have hT : ∀ t ∈ t_ended_plus_1, t.Valid (mkC [4, 4, 4, 4, 4, 4, 4, 4, 4, 4] [true, true, true, true, true, true, true, true, true, true] [26, 66, 64, 104] 55 (cl_ended_plus_1 rl rh a b c d) w) :=
        forall_cons (e_plus hG (pq rfl) (pq rfl) rfl rfl) <|
        forall_cons (e_equal (pq rfl) (pq rfl) rfl h1) <|
        forall_cons (e_equal (pq rfl) (pq rfl) rfl h2) <|
        forall_cons (e_plus hG (pq rfl) (pq rfl) rfl rfl) <|
        forall_cons (e_plus hG (pq rfl) (pq rfl) rfl rfl) <|
        forall_cons (e_plus hG (pq rfl) (pq rfl) rfl rfl) <|
        forall_nil
      refine Calls.mono (run_mk hC hT 79 Tryz.f79 [sp 0 1, sp 2 3, sp 4 5, vp (.func (.func 29) #[] #[])] (.val (vp (.bool true))) 200 Tryz.func79 rfl rfl rfl (by kernel_rfl) [v1, v2, v3, .func (.func 29) #[] #[]] ⟨v1, _, rfl, (sp_is rfl rfl).2 ⟨q1, z1, z2⟩, v2, _, rfl, (sp_is rfl rfl).2 ⟨q2, z3, z4⟩, v3, _, rfl, (sp_is rfl rfl).2 ⟨q3, z5, z6⟩, _, _, rfl, vp_is.2 rfl, rfl⟩) ?_
      rintro e w' ⟨v, rfl, hv, hb⟩; obtain rfl := val_of hv; exact ⟨rfl, hb⟩
    | false =>
      cases h3 : decide (((b) + (c)) = (rh)) with
      | true =>
        have hC : (mkC [4, 4, 4, 4, 4, 4, 4, 4, 4, 4] [true, true, true, true, true, true, true, true, true, true] [26, 66, 64, 104] 55 (cl_ended_plus_2 rl rh a b c d) w).Ok := mkC_ok (oks_cons (clQ_ok (by decide) _ _) <| oks_cons (clQ_ok (by decide) _ _) <| oks_cons (clQ_ok (by decide) _ _) <| oks_cons (clQ_ok (by decide) _ _) <| oks_cons (clQ_ok (by decide) _ _) <| oks_cons (clQ_ok (by decide) _ _) <| oks_cons (clQ_ok (by decide) _ _) <| oks_cons (clQ_ok (by decide) _ _) <| oks_cons (clQ_ok (by decide) _ _) <| oks_cons (clQ_ok (by decide) _ _) <| oks_nil) rfl rfl
        have hT : ∀ t ∈ t_ended_plus_2, t.Valid (mkC [4, 4, 4, 4, 4, 4, 4, 4, 4, 4] [true, true, true, true, true, true, true, true, true, true] [26, 66, 64, 104] 55 (cl_ended_plus_2 rl rh a b c d) w) :=
          forall_cons (e_plus hG (pq rfl) (pq rfl) rfl rfl) <|
          forall_cons (e_equal (pq rfl) (pq rfl) rfl h1) <|
          forall_cons (e_equal (pq rfl) (pq rfl) rfl h2) <|
          forall_cons (e_plus hG (pq rfl) (pq rfl) rfl rfl) <|
          forall_cons (e_equal (pq rfl) (pq rfl) rfl h3) <|
          forall_cons (e_plus hG (pq rfl) (pq rfl) rfl rfl) <|
          forall_cons (e_plus hG (pq rfl) (pq rfl) rfl rfl) <|
          forall_nil
        refine Calls.mono (run_mk hC hT 79 Tryz.f79 [sp 0 1, sp 2 3, sp 4 5, vp (.func (.func 29) #[] #[])] (.val (vp (.bool true))) 200 Tryz.func79 rfl rfl rfl (by kernel_rfl) [v1, v2, v3, .func (.func 29) #[] #[]] ⟨v1, _, rfl, (sp_is rfl rfl).2 ⟨q1, z1, z2⟩, v2, _, rfl, (sp_is rfl rfl).2 ⟨q2, z3, z4⟩, v3, _, rfl, (sp_is rfl rfl).2 ⟨q3, z5, z6⟩, _, _, rfl, vp_is.2 rfl, rfl⟩) ?_
        rintro e w' ⟨v, rfl, hv, hb⟩; obtain rfl := val_of hv; exact ⟨rfl, hb⟩
      | false =>
        cases h4 : decide (((a) + (d)) = (rh)) with
        | true =>
          have hC : (mkC [4, 4, 4, 4, 4, 4, 4, 4, 4, 4] [true, true, true, true, true, true, true, true, true, true] [26, 66, 64, 104] 55 (cl_ended_plus_3 rl rh a b c d) w).Ok := mkC_ok (oks_cons (clQ_ok (by decide) _ _) <| oks_cons (clQ_ok (by decide) _ _) <| oks_cons (clQ_ok (by decide) _ _) <| oks_cons (clQ_ok (by decide) _ _) <| oks_cons (clQ_ok (by decide) _ _) <| oks_cons (clQ_ok (by decide) _ _) <| oks_cons (clQ_ok (by decide) _ _) <| oks_cons (clQ_ok (by decide) _ _) <| oks_cons (clQ_ok (by decide) _ _) <| oks_cons (clQ_ok (by decide) _ _) <| oks_nil) rfl rfl
          have hT : ∀ t ∈ t_ended_plus_3, t.Valid (mkC [4, 4, 4, 4, 4, 4, 4, 4, 4, 4] [true, true, true, true, true, true, true, true, true, true] [26, 66, 64, 104] 55 (cl_ended_plus_3 rl rh a b c d) w) :=
            forall_cons (e_plus hG (pq rfl) (pq rfl) rfl rfl) <|
            forall_cons (e_equal (pq rfl) (pq rfl) rfl h1) <|
            forall_cons (e_equal (pq rfl) (pq rfl) rfl h2) <|
            forall_cons (e_plus hG (pq rfl) (pq rfl) rfl rfl) <|
            forall_cons (e_equal (pq rfl) (pq rfl) rfl h3) <|
            forall_cons (e_plus hG (pq rfl) (pq rfl) rfl rfl) <|
            forall_cons (e_equal (pq rfl) (pq rfl) rfl h4) <|
            forall_cons (e_plus hG (pq rfl) (pq rfl) rfl rfl) <|
            forall_nil
          refine Calls.mono (run_mk hC hT 79 Tryz.f79 [sp 0 1, sp 2 3, sp 4 5, vp (.func (.func 29) #[] #[])] (.val (vp (.bool true))) 200 Tryz.func79 rfl rfl rfl (by kernel_rfl) [v1, v2, v3, .func (.func 29) #[] #[]] ⟨v1, _, rfl, (sp_is rfl rfl).2 ⟨q1, z1, z2⟩, v2, _, rfl, (sp_is rfl rfl).2 ⟨q2, z3, z4⟩, v3, _, rfl, (sp_is rfl rfl).2 ⟨q3, z5, z6⟩, _, _, rfl, vp_is.2 rfl, rfl⟩) ?_
          rintro e w' ⟨v, rfl, hv, hb⟩; obtain rfl := val_of hv; exact ⟨rfl, hb⟩
        | false =>
          cases h5 : decide (((b) + (d)) = (rh)) with
          | true =>
            have hC : (mkC [4, 4, 4, 4, 4, 4, 4, 4, 4, 4] [true, true, true, true, true, true, true, true, true, true] [26, 66, 64, 104] 55 (cl_ended_plus_4 rl rh a b c d) w).Ok := mkC_ok (oks_cons (clQ_ok (by decide) _ _) <| oks_cons (clQ_ok (by decide) _ _) <| oks_cons (clQ_ok (by decide) _ _) <| oks_cons (clQ_ok (by decide) _ _) <| oks_cons (clQ_ok (by decide) _ _) <| oks_cons (clQ_ok (by decide) _ _) <| oks_cons (clQ_ok (by decide) _ _) <| oks_cons (clQ_ok (by decide) _ _) <| oks_cons (clQ_ok (by decide) _ _) <| oks_cons (clQ_ok (by decide) _ _) <| oks_nil) rfl rfl
            have hT : ∀ t ∈ t_ended_plus_4, t.Valid (mkC [4, 4, 4, 4, 4, 4, 4, 4, 4, 4] [true, true, true, true, true, true, true, true, true, true] [26, 66, 64, 104] 55 (cl_ended_plus_4 rl rh a b c d) w) :=
              forall_cons (e_plus hG (pq rfl) (pq rfl) rfl rfl) <|
              forall_cons (e_equal (pq rfl) (pq rfl) rfl h1) <|
              forall_cons (e_equal (pq rfl) (pq rfl) rfl h2) <|
              forall_cons (e_plus hG (pq rfl) (pq rfl) rfl rfl) <|
              forall_cons (e_equal (pq rfl) (pq rfl) rfl h3) <|
              forall_cons (e_plus hG (pq rfl) (pq rfl) rfl rfl) <|
              forall_cons (e_equal (pq rfl) (pq rfl) rfl h4) <|
              forall_cons (e_plus hG (pq rfl) (pq rfl) rfl rfl) <|
              forall_cons (e_equal (pq rfl) (pq rfl) rfl h5) <|
              forall_nil
            refine Calls.mono (run_mk hC hT 79 Tryz.f79 [sp 0 1, sp 2 3, sp 4 5, vp (.func (.func 29) #[] #[])] (.val (vp (.bool true))) 200 Tryz.func79 rfl rfl rfl (by kernel_rfl) [v1, v2, v3, .func (.func 29) #[] #[]] ⟨v1, _, rfl, (sp_is rfl rfl).2 ⟨q1, z1, z2⟩, v2, _, rfl, (sp_is rfl rfl).2 ⟨q2, z3, z4⟩, v3, _, rfl, (sp_is rfl rfl).2 ⟨q3, z5, z6⟩, _, _, rfl, vp_is.2 rfl, rfl⟩) ?_
            rintro e w' ⟨v, rfl, hv, hb⟩; obtain rfl := val_of hv; exact ⟨rfl, hb⟩
          | false =>
            exact (no4 h2 h3 h4 h5 hh).elim
  | false =>
    cases h2 : decide (((a) + (c)) = (rh)) with
    | true =>
      cases h3 : decide (((b) + (c)) = (rl)) with
      | true =>
        have hC : (mkC [4, 4, 4, 4, 4, 4, 4, 4, 4, 4] [true, true, true, true, true, true, true, true, true, true] [26, 66, 64, 104] 55 (cl_ended_plus_5 rl rh a b c d) w).Ok := mkC_ok (oks_cons (clQ_ok (by decide) _ _) <| oks_cons (clQ_ok (by decide) _ _) <| oks_cons (clQ_ok (by decide) _ _) <| oks_cons (clQ_ok (by decide) _ _) <| oks_cons (clQ_ok (by decide) _ _) <| oks_cons (clQ_ok (by decide) _ _) <| oks_cons (clQ_ok (by decide) _ _) <| oks_cons (clQ_ok (by decide) _ _) <| oks_cons (clQ_ok (by decide) _ _) <| oks_cons (clQ_ok (by decide) _ _) <| oks_nil) rfl rfl
        have hT : ∀ t ∈ t_ended_plus_5, t.Valid (mkC [4, 4, 4, 4, 4, 4, 4, 4, 4, 4] [true, true, true, true, true, true, true, true, true, true] [26, 66, 64, 104] 55 (cl_ended_plus_5 rl rh a b c d) w) :=
          forall_cons (e_plus hG (pq rfl) (pq rfl) rfl rfl) <|
          forall_cons (e_equal (pq rfl) (pq rfl) rfl h1) <|
          forall_cons (e_equal (pq rfl) (pq rfl) rfl h2) <|
          forall_cons (e_plus hG (pq rfl) (pq rfl) rfl rfl) <|
          forall_cons (e_equal (pq rfl) (pq rfl) rfl h3) <|
          forall_cons (e_plus hG (pq rfl) (pq rfl) rfl rfl) <|
          forall_cons (e_plus hG (pq rfl) (pq rfl) rfl rfl) <|
          forall_nil
        refine Calls.mono (run_mk hC hT 79 Tryz.f79 [sp 0 1, sp 2 3, sp 4 5, vp (.func (.func 29) #[] #[])] (.val (vp (.bool true))) 200 Tryz.func79 rfl rfl rfl (by kernel_rfl) [v1, v2, v3, .func (.func 29) #[] #[]] ⟨v1, _, rfl, (sp_is rfl rfl).2 ⟨q1, z1, z2⟩, v2, _, rfl, (sp_is rfl rfl).2 ⟨q2, z3, z4⟩, v3, _, rfl, (sp_is rfl rfl).2 ⟨q3, z5, z6⟩, _, _, rfl, vp_is.2 rfl, rfl⟩) ?_
        rintro e w' ⟨v, rfl, hv, hb⟩; obtain rfl := val_of hv; exact ⟨rfl, hb⟩
      | false =>
        cases h4 : decide (((a) + (d)) = (rl)) with
        | true =>
          have hC : (mkC [4, 4, 4, 4, 4, 4, 4, 4, 4, 4] [true, true, true, true, true, true, true, true, true, true] [26, 66, 64, 104] 55 (cl_ended_plus_6 rl rh a b c d) w).Ok := mkC_ok (oks_cons (clQ_ok (by decide) _ _) <| oks_cons (clQ_ok (by decide) _ _) <| oks_cons (clQ_ok (by decide) _ _) <| oks_cons (clQ_ok (by decide) _ _) <| oks_cons (clQ_ok (by decide) _ _) <| oks_cons (clQ_ok (by decide) _ _) <| oks_cons (clQ_ok (by decide) _ _) <| oks_cons (clQ_ok (by decide) _ _) <| oks_cons (clQ_ok (by decide) _ _) <| oks_cons (clQ_ok (by decide) _ _) <| oks_nil) rfl rfl
          have hT : ∀ t ∈ t_ended_plus_6, t.Valid (mkC [4, 4, 4, 4, 4, 4, 4, 4, 4, 4] [true, true, true, true, true, true, true, true, true, true] [26, 66, 64, 104] 55 (cl_ended_plus_6 rl rh a b c d) w) :=
            forall_cons (e_plus hG (pq rfl) (pq rfl) rfl rfl) <|
            forall_cons (e_equal (pq rfl) (pq rfl) rfl h1) <|
            forall_cons (e_equal (pq rfl) (pq rfl) rfl h2) <|
            forall_cons (e_plus hG (pq rfl) (pq rfl) rfl rfl) <|
            forall_cons (e_equal (pq rfl) (pq rfl) rfl h3) <|
            forall_cons (e_plus hG (pq rfl) (pq rfl) rfl rfl) <|
            forall_cons (e_equal (pq rfl) (pq rfl) rfl h4) <|
            forall_cons (e_plus hG (pq rfl) (pq rfl) rfl rfl) <|
            forall_nil
          refine Calls.mono (run_mk hC hT 79 Tryz.f79 [sp 0 1, sp 2 3, sp 4 5, vp (.func (.func 29) #[] #[])] (.val (vp (.bool true))) 200 Tryz.func79 rfl rfl rfl (by kernel_rfl) [v1, v2, v3, .func (.func 29) #[] #[]] ⟨v1, _, rfl, (sp_is rfl rfl).2 ⟨q1, z1, z2⟩, v2, _, rfl, (sp_is rfl rfl).2 ⟨q2, z3, z4⟩, v3, _, rfl, (sp_is rfl rfl).2 ⟨q3, z5, z6⟩, _, _, rfl, vp_is.2 rfl, rfl⟩) ?_
          rintro e w' ⟨v, rfl, hv, hb⟩; obtain rfl := val_of hv; exact ⟨rfl, hb⟩
        | false =>
          cases h5 : decide (((b) + (d)) = (rl)) with
          | true =>
            have hC : (mkC [4, 4, 4, 4, 4, 4, 4, 4, 4, 4] [true, true, true, true, true, true, true, true, true, true] [26, 66, 64, 104] 55 (cl_ended_plus_7 rl rh a b c d) w).Ok := mkC_ok (oks_cons (clQ_ok (by decide) _ _) <| oks_cons (clQ_ok (by decide) _ _) <| oks_cons (clQ_ok (by decide) _ _) <| oks_cons (clQ_ok (by decide) _ _) <| oks_cons (clQ_ok (by decide) _ _) <| oks_cons (clQ_ok (by decide) _ _) <| oks_cons (clQ_ok (by decide) _ _) <| oks_cons (clQ_ok (by decide) _ _) <| oks_cons (clQ_ok (by decide) _ _) <| oks_cons (clQ_ok (by decide) _ _) <| oks_nil) rfl rfl
            have hT : ∀ t ∈ t_ended_plus_7, t.Valid (mkC [4, 4, 4, 4, 4, 4, 4, 4, 4, 4] [true, true, true, true, true, true, true, true, true, true] [26, 66, 64, 104] 55 (cl_ended_plus_7 rl rh a b c d) w) :=
              forall_cons (e_plus hG (pq rfl) (pq rfl) rfl rfl) <|
              forall_cons (e_equal (pq rfl) (pq rfl) rfl h1) <|
              forall_cons (e_equal (pq rfl) (pq rfl) rfl h2) <|
              forall_cons (e_plus hG (pq rfl) (pq rfl) rfl rfl) <|
              forall_cons (e_equal (pq rfl) (pq rfl) rfl h3) <|
              forall_cons (e_plus hG (pq rfl) (pq rfl) rfl rfl) <|
              forall_cons (e_equal (pq rfl) (pq rfl) rfl h4) <|
              forall_cons (e_plus hG (pq rfl) (pq rfl) rfl rfl) <|
              forall_cons (e_equal (pq rfl) (pq rfl) rfl h5) <|
              forall_nil
            refine Calls.mono (run_mk hC hT 79 Tryz.f79 [sp 0 1, sp 2 3, sp 4 5, vp (.func (.func 29) #[] #[])] (.val (vp (.bool true))) 200 Tryz.func79 rfl rfl rfl (by kernel_rfl) [v1, v2, v3, .func (.func 29) #[] #[]] ⟨v1, _, rfl, (sp_is rfl rfl).2 ⟨q1, z1, z2⟩, v2, _, rfl, (sp_is rfl rfl).2 ⟨q2, z3, z4⟩, v3, _, rfl, (sp_is rfl rfl).2 ⟨q3, z5, z6⟩, _, _, rfl, vp_is.2 rfl, rfl⟩) ?_
            rintro e w' ⟨v, rfl, hv, hb⟩; obtain rfl := val_of hv; exact ⟨rfl, hb⟩
          | false =>
            exact (no4 h1 h3 h4 h5 hl).elim
    | false =>
      cases h3 : decide (((b) + (c)) = (rl)) with
      | true =>
        cases h4 : decide (((b) + (c)) = (rh)) with
        | true =>
          have hC : (mkC [4, 4, 4, 4, 4, 4, 4, 4, 4, 4] [true, true, true, true, true, true, true, true, true, true] [26, 66, 64, 104] 55 (cl_ended_plus_8 rl rh a b c d) w).Ok := mkC_ok (oks_cons (clQ_ok (by decide) _ _) <| oks_cons (clQ_ok (by decide) _ _) <| oks_cons (clQ_ok (by decide) _ _) <| oks_cons (clQ_ok (by decide) _ _) <| oks_cons (clQ_ok (by decide) _ _) <| oks_cons (clQ_ok (by decide) _ _) <| oks_cons (clQ_ok (by decide) _ _) <| oks_cons (clQ_ok (by decide) _ _) <| oks_cons (clQ_ok (by decide) _ _) <| oks_cons (clQ_ok (by decide) _ _) <| oks_nil) rfl rfl
          have hT : ∀ t ∈ t_ended_plus_8, t.Valid (mkC [4, 4, 4, 4, 4, 4, 4, 4, 4, 4] [true, true, true, true, true, true, true, true, true, true] [26, 66, 64, 104] 55 (cl_ended_plus_8 rl rh a b c d) w) :=
            forall_cons (e_plus hG (pq rfl) (pq rfl) rfl rfl) <|
            forall_cons (e_equal (pq rfl) (pq rfl) rfl h1) <|
            forall_cons (e_equal (pq rfl) (pq rfl) rfl h2) <|
            forall_cons (e_plus hG (pq rfl) (pq rfl) rfl rfl) <|
            forall_cons (e_equal (pq rfl) (pq rfl) rfl h3) <|
            forall_cons (e_equal (pq rfl) (pq rfl) rfl h4) <|
            forall_cons (e_plus hG (pq rfl) (pq rfl) rfl rfl) <|
            forall_cons (e_plus hG (pq rfl) (pq rfl) rfl rfl) <|
            forall_nil
          refine Calls.mono (run_mk hC hT 79 Tryz.f79 [sp 0 1, sp 2 3, sp 4 5, vp (.func (.func 29) #[] #[])] (.val (vp (.bool true))) 200 Tryz.func79 rfl rfl rfl (by kernel_rfl) [v1, v2, v3, .func (.func 29) #[] #[]] ⟨v1, _, rfl, (sp_is rfl rfl).2 ⟨q1, z1, z2⟩, v2, _, rfl, (sp_is rfl rfl).2 ⟨q2, z3, z4⟩, v3, _, rfl, (sp_is rfl rfl).2 ⟨q3, z5, z6⟩, _, _, rfl, vp_is.2 rfl, rfl⟩) ?_
          rintro e w' ⟨v, rfl, hv, hb⟩; obtain rfl := val_of hv; exact ⟨rfl, hb⟩
        | false =>
          cases h5 : decide (((a) + (d)) = (rh)) with
          | true =>
            have hC : (mkC [4, 4, 4, 4, 4, 4, 4, 4, 4, 4] [true, true, true, true, true, true, true, true, true, true] [26, 66, 64, 104] 55 (cl_ended_plus_9 rl rh a b c d) w).Ok := mkC_ok (oks_cons (clQ_ok (by decide) _ _) <| oks_cons (clQ_ok (by decide) _ _) <| oks_cons (clQ_ok (by decide) _ _) <| oks_cons (clQ_ok (by decide) _ _) <| oks_cons (clQ_ok (by decide) _ _) <| oks_cons (clQ_ok (by decide) _ _) <| oks_cons (clQ_ok (by decide) _ _) <| oks_cons (clQ_ok (by decide) _ _) <| oks_cons (clQ_ok (by decide) _ _) <| oks_cons (clQ_ok (by decide) _ _) <| oks_nil) rfl rfl
            have hT : ∀ t ∈ t_ended_plus_9, t.Valid (mkC [4, 4, 4, 4, 4, 4, 4, 4, 4, 4] [true, true, true, true, true, true, true, true, true, true] [26, 66, 64, 104] 55 (cl_ended_plus_9 rl rh a b c d) w) :=
              forall_cons (e_plus hG (pq rfl) (pq rfl) rfl rfl) <|
              forall_cons (e_equal (pq rfl) (pq rfl) rfl h1) <|
              forall_cons (e_equal (pq rfl) (pq rfl) rfl h2) <|
              forall_cons (e_plus hG (pq rfl) (pq rfl) rfl rfl) <|
              forall_cons (e_equal (pq rfl) (pq rfl) rfl h3) <|
              forall_cons (e_equal (pq rfl) (pq rfl) rfl h4) <|
              forall_cons (e_plus hG (pq rfl) (pq rfl) rfl rfl) <|
              forall_cons (e_equal (pq rfl) (pq rfl) rfl h5) <|
              forall_cons (e_plus hG (pq rfl) (pq rfl) rfl rfl) <|
              forall_nil
            refine Calls.mono (run_mk hC hT 79 Tryz.f79 [sp 0 1, sp 2 3, sp 4 5, vp (.func (.func 29) #[] #[])] (.val (vp (.bool true))) 200 Tryz.func79 rfl rfl rfl (by kernel_rfl) [v1, v2, v3, .func (.func 29) #[] #[]] ⟨v1, _, rfl, (sp_is rfl rfl).2 ⟨q1, z1, z2⟩, v2, _, rfl, (sp_is rfl rfl).2 ⟨q2, z3, z4⟩, v3, _, rfl, (sp_is rfl rfl).2 ⟨q3, z5, z6⟩, _, _, rfl, vp_is.2 rfl, rfl⟩) ?_
            rintro e w' ⟨v, rfl, hv, hb⟩; obtain rfl := val_of hv; exact ⟨rfl, hb⟩
          | false =>
            cases h6 : decide (((b) + (d)) = (rh)) with
            | true =>
              have hC : (mkC [4, 4, 4, 4, 4, 4, 4, 4, 4, 4] [true, true, true, true, true, true, true, true, true, true] [26, 66, 64, 104] 55 (cl_ended_plus_10 rl rh a b c d) w).Ok := mkC_ok (oks_cons (clQ_ok (by decide) _ _) <| oks_cons (clQ_ok (by decide) _ _) <| oks_cons (clQ_ok (by decide) _ _) <| oks_cons (clQ_ok (by decide) _ _) <| oks_cons (clQ_ok (by decide) _ _) <| oks_cons (clQ_ok (by decide) _ _) <| oks_cons (clQ_ok (by decide) _ _) <| oks_cons (clQ_ok (by decide) _ _) <| oks_cons (clQ_ok (by decide) _ _) <| oks_cons (clQ_ok (by decide) _ _) <| oks_nil) rfl rfl
              have hT : ∀ t ∈ t_ended_plus_10, t.Valid (mkC [4, 4, 4, 4, 4, 4, 4, 4, 4, 4] [true, true, true, true, true, true, true, true, true, true] [26, 66, 64, 104] 55 (cl_ended_plus_10 rl rh a b c d) w) :=
                forall_cons (e_plus hG (pq rfl) (pq rfl) rfl rfl) <|
                forall_cons (e_equal (pq rfl) (pq rfl) rfl h1) <|
                forall_cons (e_equal (pq rfl) (pq rfl) rfl h2) <|
                forall_cons (e_plus hG (pq rfl) (pq rfl) rfl rfl) <|
                forall_cons (e_equal (pq rfl) (pq rfl) rfl h3) <|
                forall_cons (e_equal (pq rfl) (pq rfl) rfl h4) <|
                forall_cons (e_plus hG (pq rfl) (pq rfl) rfl rfl) <|
                forall_cons (e_equal (pq rfl) (pq rfl) rfl h5) <|
                forall_cons (e_plus hG (pq rfl) (pq rfl) rfl rfl) <|
                forall_cons (e_equal (pq rfl) (pq rfl) rfl h6) <|
                forall_nil
              refine Calls.mono (run_mk hC hT 79 Tryz.f79 [sp 0 1, sp 2 3, sp 4 5, vp (.func (.func 29) #[] #[])] (.val (vp (.bool true))) 200 Tryz.func79 rfl rfl rfl (by kernel_rfl) [v1, v2, v3, .func (.func 29) #[] #[]] ⟨v1, _, rfl, (sp_is rfl rfl).2 ⟨q1, z1, z2⟩, v2, _, rfl, (sp_is rfl rfl).2 ⟨q2, z3, z4⟩, v3, _, rfl, (sp_is rfl rfl).2 ⟨q3, z5, z6⟩, _, _, rfl, vp_is.2 rfl, rfl⟩) ?_
              rintro e w' ⟨v, rfl, hv, hb⟩; obtain rfl := val_of hv; exact ⟨rfl, hb⟩
            | false =>
              exact (no4 h2 h4 h5 h6 hh).elim
      | false =>
        cases h4 : decide (((b) + (c)) = (rh)) with
        | true =>
          cases h5 : decide (((a) + (d)) = (rl)) with
          | true =>
            have hC : (mkC [4, 4, 4, 4, 4, 4, 4, 4, 4, 4] [true, true, true, true, true, true, true, true, true, true] [26, 66, 64, 104] 55 (cl_ended_plus_11 rl rh a b c d) w).Ok := mkC_ok (oks_cons (clQ_ok (by decide) _ _) <| oks_cons (clQ_ok (by decide) _ _) <| oks_cons (clQ_ok (by decide) _ _) <| oks_cons (clQ_ok (by decide) _ _) <| oks_cons (clQ_ok (by decide) _ _) <| oks_cons (clQ_ok (by decide) _ _) <| oks_cons (clQ_ok (by decide) _ _) <| oks_cons (clQ_ok (by decide) _ _) <| oks_cons (clQ_ok (by decide) _ _) <| oks_cons (clQ_ok (by decide) _ _) <| oks_nil) rfl rfl
            have hT : ∀ t ∈ t_ended_plus_11, t.Valid (mkC [4, 4, 4, 4, 4, 4, 4, 4, 4, 4] [true, true, true, true, true, true, true, true, true, true] [26, 66, 64, 104] 55 (cl_ended_plus_11 rl rh a b c d) w) :=
              forall_cons (e_plus hG (pq rfl) (pq rfl) rfl rfl) <|
              forall_cons (e_equal (pq rfl) (pq rfl) rfl h1) <|
              forall_cons (e_equal (pq rfl) (pq rfl) rfl h2) <|
              forall_cons (e_plus hG (pq rfl) (pq rfl) rfl rfl) <|
              forall_cons (e_equal (pq rfl) (pq rfl) rfl h3) <|
              forall_cons (e_equal (pq rfl) (pq rfl) rfl h4) <|
              forall_cons (e_plus hG (pq rfl) (pq rfl) rfl rfl) <|
              forall_cons (e_equal (pq rfl) (pq rfl) rfl h5) <|
              forall_cons (e_plus hG (pq rfl) (pq rfl) rfl rfl) <|
              forall_nil
            refine Calls.mono (run_mk hC hT 79 Tryz.f79 [sp 0 1, sp 2 3, sp 4 5, vp (.func (.func 29) #[] #[])] (.val (vp (.bool true))) 200 Tryz.func79 rfl rfl rfl (by kernel_rfl) [v1, v2, v3, .func (.func 29) #[] #[]] ⟨v1, _, rfl, (sp_is rfl rfl).2 ⟨q1, z1, z2⟩, v2, _, rfl, (sp_is rfl rfl).2 ⟨q2, z3, z4⟩, v3, _, rfl, (sp_is rfl rfl).2 ⟨q3, z5, z6⟩, _, _, rfl, vp_is.2 rfl, rfl⟩) ?_
            rintro e w' ⟨v, rfl, hv, hb⟩; obtain rfl := val_of hv; exact ⟨rfl, hb⟩
          | false =>
            cases h6 : decide (((b) + (d)) = (rl)) with
            | true =>
              have hC : (mkC [4, 4, 4, 4, 4, 4, 4, 4, 4, 4] [true, true, true, true, true, true, true, true, true, true] [26, 66, 64, 104] 55 (cl_ended_plus_12 rl rh a b c d) w).Ok := mkC_ok (oks_cons (clQ_ok (by decide) _ _) <| oks_cons (clQ_ok (by decide) _ _) <| oks_cons (clQ_ok (by decide) _ _) <| oks_cons (clQ_ok (by decide) _ _) <| oks_cons (clQ_ok (by decide) _ _) <| oks_cons (clQ_ok (by decide) _ _) <| oks_cons (clQ_ok (by decide) _ _) <| oks_cons (clQ_ok (by decide) _ _) <| oks_cons (clQ_ok (by decide) _ _) <| oks_cons (clQ_ok (by decide) _ _) <| oks_nil) rfl rfl
              have hT : ∀ t ∈ t_ended_plus_12, t.Valid (mkC [4, 4, 4, 4, 4, 4, 4, 4, 4, 4] [true, true, true, true, true, true, true, true, true, true] [26, 66, 64, 104] 55 (cl_ended_plus_12 rl rh a b c d) w) :=
                forall_cons (e_plus hG (pq rfl) (pq rfl) rfl rfl) <|
                forall_cons (e_equal (pq rfl) (pq rfl) rfl h1) <|
                forall_cons (e_equal (pq rfl) (pq rfl) rfl h2) <|
                forall_cons (e_plus hG (pq rfl) (pq rfl) rfl rfl) <|
                forall_cons (e_equal (pq rfl) (pq rfl) rfl h3) <|
                forall_cons (e_equal (pq rfl) (pq rfl) rfl h4) <|
                forall_cons (e_plus hG (pq rfl) (pq rfl) rfl rfl) <|
                forall_cons (e_equal (pq rfl) (pq rfl) rfl h5) <|
                forall_cons (e_plus hG (pq rfl) (pq rfl) rfl rfl) <|
                forall_cons (e_equal (pq rfl) (pq rfl) rfl h6) <|
                forall_nil
              refine Calls.mono (run_mk hC hT 79 Tryz.f79 [sp 0 1, sp 2 3, sp 4 5, vp (.func (.func 29) #[] #[])] (.val (vp (.bool true))) 200 Tryz.func79 rfl rfl rfl (by kernel_rfl) [v1, v2, v3, .func (.func 29) #[] #[]] ⟨v1, _, rfl, (sp_is rfl rfl).2 ⟨q1, z1, z2⟩, v2, _, rfl, (sp_is rfl rfl).2 ⟨q2, z3, z4⟩, v3, _, rfl, (sp_is rfl rfl).2 ⟨q3, z5, z6⟩, _, _, rfl, vp_is.2 rfl, rfl⟩) ?_
              rintro e w' ⟨v, rfl, hv, hb⟩; obtain rfl := val_of hv; exact ⟨rfl, hb⟩
            | false =>
              exact (no4 h1 h3 h5 h6 hl).elim
        | false =>
          cases h5 : decide (((a) + (d)) = (rl)) with
          | true =>
            cases h6 : decide (((a) + (d)) = (rh)) with
            | true =>
              have hC : (mkC [4, 4, 4, 4, 4, 4, 4, 4, 4, 4] [true, true, true, true, true, true, true, true, true, true] [26, 66, 64, 104] 55 (cl_ended_plus_13 rl rh a b c d) w).Ok := mkC_ok (oks_cons (clQ_ok (by decide) _ _) <| oks_cons (clQ_ok (by decide) _ _) <| oks_cons (clQ_ok (by decide) _ _) <| oks_cons (clQ_ok (by decide) _ _) <| oks_cons (clQ_ok (by decide) _ _) <| oks_cons (clQ_ok (by decide) _ _) <| oks_cons (clQ_ok (by decide) _ _) <| oks_cons (clQ_ok (by decide) _ _) <| oks_cons (clQ_ok (by decide) _ _) <| oks_cons (clQ_ok (by decide) _ _) <| oks_nil) rfl rfl
              have hT : ∀ t ∈ t_ended_plus_13, t.Valid (mkC [4, 4, 4, 4, 4, 4, 4, 4, 4, 4] [true, true, true, true, true, true, true, true, true, true] [26, 66, 64, 104] 55 (cl_ended_plus_13 rl rh a b c d) w) :=
                forall_cons (e_plus hG (pq rfl) (pq rfl) rfl rfl) <|
                forall_cons (e_equal (pq rfl) (pq rfl) rfl h1) <|
                forall_cons (e_equal (pq rfl) (pq rfl) rfl h2) <|
                forall_cons (e_plus hG (pq rfl) (pq rfl) rfl rfl) <|
                forall_cons (e_equal (pq rfl) (pq rfl) rfl h3) <|
                forall_cons (e_equal (pq rfl) (pq rfl) rfl h4) <|
                forall_cons (e_plus hG (pq rfl) (pq rfl) rfl rfl) <|
                forall_cons (e_equal (pq rfl) (pq rfl) rfl h5) <|
                forall_cons (e_equal (pq rfl) (pq rfl) rfl h6) <|
                forall_cons (e_plus hG (pq rfl) (pq rfl) rfl rfl) <|
                forall_nil
              refine Calls.mono (run_mk hC hT 79 Tryz.f79 [sp 0 1, sp 2 3, sp 4 5, vp (.func (.func 29) #[] #[])] (.val (vp (.bool true))) 200 Tryz.func79 rfl rfl rfl (by kernel_rfl) [v1, v2, v3, .func (.func 29) #[] #[]] ⟨v1, _, rfl, (sp_is rfl rfl).2 ⟨q1, z1, z2⟩, v2, _, rfl, (sp_is rfl rfl).2 ⟨q2, z3, z4⟩, v3, _, rfl, (sp_is rfl rfl).2 ⟨q3, z5, z6⟩, _, _, rfl, vp_is.2 rfl, rfl⟩) ?_
              rintro e w' ⟨v, rfl, hv, hb⟩; obtain rfl := val_of hv; exact ⟨rfl, hb⟩
            | false =>
              cases h7 : decide (((b) + (d)) = (rh)) with
              | true =>
                have hC : (mkC [4, 4, 4, 4, 4, 4, 4, 4, 4, 4] [true, true, true, true, true, true, true, true, true, true] [26, 66, 64, 104] 55 (cl_ended_plus_14 rl rh a b c d) w).Ok := mkC_ok (oks_cons (clQ_ok (by decide) _ _) <| oks_cons (clQ_ok (by decide) _ _) <| oks_cons (clQ_ok (by decide) _ _) <| oks_cons (clQ_ok (by decide) _ _) <| oks_cons (clQ_ok (by decide) _ _) <| oks_cons (clQ_ok (by decide) _ _) <| oks_cons (clQ_ok (by decide) _ _) <| oks_cons (clQ_ok (by decide) _ _) <| oks_cons (clQ_ok (by decide) _ _) <| oks_cons (clQ_ok (by decide) _ _) <| oks_nil) rfl rfl
                have hT : ∀ t ∈ t_ended_plus_14, t.Valid (mkC [4, 4, 4, 4, 4, 4, 4, 4, 4, 4] [true, true, true, true, true, true, true, true, true, true] [26, 66, 64, 104] 55 (cl_ended_plus_14 rl rh a b c d) w) :=
                  forall_cons (e_plus hG (pq rfl) (pq rfl) rfl rfl) <|
                  forall_cons (e_equal (pq rfl) (pq rfl) rfl h1) <|
                  forall_cons (e_equal (pq rfl) (pq rfl) rfl h2) <|
                  forall_cons (e_plus hG (pq rfl) (pq rfl) rfl rfl) <|
                  forall_cons (e_equal (pq rfl) (pq rfl) rfl h3) <|
                  forall_cons (e_equal (pq rfl) (pq rfl) rfl h4) <|
                  forall_cons (e_plus hG (pq rfl) (pq rfl) rfl rfl) <|
                  forall_cons (e_equal (pq rfl) (pq rfl) rfl h5) <|
                  forall_cons (e_equal (pq rfl) (pq rfl) rfl h6) <|
                  forall_cons (e_plus hG (pq rfl) (pq rfl) rfl rfl) <|
                  forall_cons (e_equal (pq rfl) (pq rfl) rfl h7) <|
                  forall_nil
                refine Calls.mono (run_mk hC hT 79 Tryz.f79 [sp 0 1, sp 2 3, sp 4 5, vp (.func (.func 29) #[] #[])] (.val (vp (.bool true))) 200 Tryz.func79 rfl rfl rfl (by kernel_rfl) [v1, v2, v3, .func (.func 29) #[] #[]] ⟨v1, _, rfl, (sp_is rfl rfl).2 ⟨q1, z1, z2⟩, v2, _, rfl, (sp_is rfl rfl).2 ⟨q2, z3, z4⟩, v3, _, rfl, (sp_is rfl rfl).2 ⟨q3, z5, z6⟩, _, _, rfl, vp_is.2 rfl, rfl⟩) ?_
                rintro e w' ⟨v, rfl, hv, hb⟩; obtain rfl := val_of hv; exact ⟨rfl, hb⟩
              | false =>
                exact (no4 h2 h4 h6 h7 hh).elim
          | false =>
            cases h6 : decide (((a) + (d)) = (rh)) with
            | true =>
              cases h7 : decide (((b) + (d)) = (rl)) with
              | true =>
                have hC : (mkC [4, 4, 4, 4, 4, 4, 4, 4, 4, 4] [true, true, true, true, true, true, true, true, true, true] [26, 66, 64, 104] 55 (cl_ended_plus_15 rl rh a b c d) w).Ok := mkC_ok (oks_cons (clQ_ok (by decide) _ _) <| oks_cons (clQ_ok (by decide) _ _) <| oks_cons (clQ_ok (by decide) _ _) <| oks_cons (clQ_ok (by decide) _ _) <| oks_cons (clQ_ok (by decide) _ _) <| oks_cons (clQ_ok (by decide) _ _) <| oks_cons (clQ_ok (by decide) _ _) <| oks_cons (clQ_ok (by decide) _ _) <| oks_cons (clQ_ok (by decide) _ _) <| oks_cons (clQ_ok (by decide) _ _) <| oks_nil) rfl rfl
                have hT : ∀ t ∈ t_ended_plus_15, t.Valid (mkC [4, 4, 4, 4, 4, 4, 4, 4, 4, 4] [true, true, true, true, true, true, true, true, true, true] [26, 66, 64, 104] 55 (cl_ended_plus_15 rl rh a b c d) w) :=
                  forall_cons (e_plus hG (pq rfl) (pq rfl) rfl rfl) <|
                  forall_cons (e_equal (pq rfl) (pq rfl) rfl h1) <|
                  forall_cons (e_equal (pq rfl) (pq rfl) rfl h2) <|
                  forall_cons (e_plus hG (pq rfl) (pq rfl) rfl rfl) <|
                  forall_cons (e_equal (pq rfl) (pq rfl) rfl h3) <|
                  forall_cons (e_equal (pq rfl) (pq rfl) rfl h4) <|
                  forall_cons (e_plus hG (pq rfl) (pq rfl) rfl rfl) <|
                  forall_cons (e_equal (pq rfl) (pq rfl) rfl h5) <|
                  forall_cons (e_equal (pq rfl) (pq rfl) rfl h6) <|
                  forall_cons (e_plus hG (pq rfl) (pq rfl) rfl rfl) <|
                  forall_cons (e_equal (pq rfl) (pq rfl) rfl h7) <|
                  forall_nil
                refine Calls.mono (run_mk hC hT 79 Tryz.f79 [sp 0 1, sp 2 3, sp 4 5, vp (.func (.func 29) #[] #[])] (.val (vp (.bool true))) 200 Tryz.func79 rfl rfl rfl (by kernel_rfl) [v1, v2, v3, .func (.func 29) #[] #[]] ⟨v1, _, rfl, (sp_is rfl rfl).2 ⟨q1, z1, z2⟩, v2, _, rfl, (sp_is rfl rfl).2 ⟨q2, z3, z4⟩, v3, _, rfl, (sp_is rfl rfl).2 ⟨q3, z5, z6⟩, _, _, rfl, vp_is.2 rfl, rfl⟩) ?_
                rintro e w' ⟨v, rfl, hv, hb⟩; obtain rfl := val_of hv; exact ⟨rfl, hb⟩
              | false =>
                exact (no4 h1 h3 h5 h7 hl).elim
            | false =>
              cases h7 : decide (((b) + (d)) = (rl)) with
              | true =>
                cases h8 : decide (((b) + (d)) = (rh)) with
                | true =>
                  have hC : (mkC [4, 4, 4, 4, 4, 4, 4, 4, 4, 4] [true, true, true, true, true, true, true, true, true, true] [26, 66, 64, 104] 55 (cl_ended_plus_16 rl rh a b c d) w).Ok := mkC_ok (oks_cons (clQ_ok (by decide) _ _) <| oks_cons (clQ_ok (by decide) _ _) <| oks_cons (clQ_ok (by decide) _ _) <| oks_cons (clQ_ok (by decide) _ _) <| oks_cons (clQ_ok (by decide) _ _) <| oks_cons (clQ_ok (by decide) _ _) <| oks_cons (clQ_ok (by decide) _ _) <| oks_cons (clQ_ok (by decide) _ _) <| oks_cons (clQ_ok (by decide) _ _) <| oks_cons (clQ_ok (by decide) _ _) <| oks_nil) rfl rfl
                  have hT : ∀ t ∈ t_ended_plus_16, t.Valid (mkC [4, 4, 4, 4, 4, 4, 4, 4, 4, 4] [true, true, true, true, true, true, true, true, true, true] [26, 66, 64, 104] 55 (cl_ended_plus_16 rl rh a b c d) w) :=
                    forall_cons (e_plus hG (pq rfl) (pq rfl) rfl rfl) <|
                    forall_cons (e_equal (pq rfl) (pq rfl) rfl h1) <|
                    forall_cons (e_equal (pq rfl) (pq rfl) rfl h2) <|
                    forall_cons (e_plus hG (pq rfl) (pq rfl) rfl rfl) <|
                    forall_cons (e_equal (pq rfl) (pq rfl) rfl h3) <|
                    forall_cons (e_equal (pq rfl) (pq rfl) rfl h4) <|
                    forall_cons (e_plus hG (pq rfl) (pq rfl) rfl rfl) <|
                    forall_cons (e_equal (pq rfl) (pq rfl) rfl h5) <|
                    forall_cons (e_equal (pq rfl) (pq rfl) rfl h6) <|
                    forall_cons (e_plus hG (pq rfl) (pq rfl) rfl rfl) <|
                    forall_cons (e_equal (pq rfl) (pq rfl) rfl h7) <|
                    forall_cons (e_equal (pq rfl) (pq rfl) rfl h8) <|
                    forall_nil
                  refine Calls.mono (run_mk hC hT 79 Tryz.f79 [sp 0 1, sp 2 3, sp 4 5, vp (.func (.func 29) #[] #[])] (.val (vp (.bool true))) 200 Tryz.func79 rfl rfl rfl (by kernel_rfl) [v1, v2, v3, .func (.func 29) #[] #[]] ⟨v1, _, rfl, (sp_is rfl rfl).2 ⟨q1, z1, z2⟩, v2, _, rfl, (sp_is rfl rfl).2 ⟨q2, z3, z4⟩, v3, _, rfl, (sp_is rfl rfl).2 ⟨q3, z5, z6⟩, _, _, rfl, vp_is.2 rfl, rfl⟩) ?_
                  rintro e w' ⟨v, rfl, hv, hb⟩; obtain rfl := val_of hv; exact ⟨rfl, hb⟩
                | false =>
                  exact (no4 h2 h4 h6 h8 hh).elim
              | false =>
                cases h8 : decide (((b) + (d)) = (rh)) with
                | true =>
                  exact (no4 h1 h3 h5 h7 hl).elim
                | false =>
                  exact (no4 h1 h3 h5 h7 hl).elim

noncomputable def cl_ended_minus_1 (rl : Rat) (rh : Rat) (a : Rat) (b : Rat) (c : Rat) (d : Rat) : List Cl := [
  clQ (rl) 100000,
  clQ (rh) 100000,
  clQ (a) 100000,
  clQ (b) 100000,
  clQ (c) 100000,
  clQ (d) 100000,
  clQ ((a) - (c)) 200001,
  clQ ((b) - (c)) 200001,
  clQ ((a) - (d)) 200001,
  clQ ((b) - (d)) 200001]

def t_ended_minus_1 : List Ent := [
  ⟨.call 31, [qp 2, qp 4], (.val (qp 6))⟩,
  ⟨.call 77, [qp 6, qp 0], (.val (vp (.bool true)))⟩,
  ⟨.call 77, [qp 6, qp 1], (.val (vp (.bool true)))⟩,
  ⟨.call 31, [qp 3, qp 4], (.val (qp 7))⟩,
  ⟨.call 31, [qp 2, qp 5], (.val (qp 8))⟩,
  ⟨.call 31, [qp 3, qp 5], (.val (qp 9))⟩]

noncomputable def cl_ended_minus_2 (rl : Rat) (rh : Rat) (a : Rat) (b : Rat) (c : Rat) (d : Rat) : List Cl := [
  clQ (rl) 100000,
  clQ (rh) 100000,
  clQ (a) 100000,
  clQ (b) 100000,
  clQ (c) 100000,
  clQ (d) 100000,
  clQ ((a) - (c)) 200001,
  clQ ((b) - (c)) 200001,
  clQ ((a) - (d)) 200001,
  clQ ((b) - (d)) 200001]

def t_ended_minus_2 : List Ent := [
  ⟨.call 31, [qp 2, qp 4], (.val (qp 6))⟩,
  ⟨.call 77, [qp 6, qp 0], (.val (vp (.bool true)))⟩,
  ⟨.call 77, [qp 6, qp 1], (.val (vp (.bool false)))⟩,
  ⟨.call 31, [qp 3, qp 4], (.val (qp 7))⟩,
  ⟨.call 77, [qp 7, qp 1], (.val (vp (.bool true)))⟩,
  ⟨.call 31, [qp 2, qp 5], (.val (qp 8))⟩,
  ⟨.call 31, [qp 3, qp 5], (.val (qp 9))⟩]

noncomputable def cl_ended_minus_3 (rl : Rat) (rh : Rat) (a : Rat) (b : Rat) (c : Rat) (d : Rat) : List Cl := [
  clQ (rl) 100000,
  clQ (rh) 100000,
  clQ (a) 100000,
  clQ (b) 100000,
  clQ (c) 100000,
  clQ (d) 100000,
  clQ ((a) - (c)) 200001,
  clQ ((b) - (c)) 200001,
  clQ ((a) - (d)) 200001,
  clQ ((b) - (d)) 200001]

def t_ended_minus_3 : List Ent := [
  ⟨.call 31, [qp 2, qp 4], (.val (qp 6))⟩,
  ⟨.call 77, [qp 6, qp 0], (.val (vp (.bool true)))⟩,
  ⟨.call 77, [qp 6, qp 1], (.val (vp (.bool false)))⟩,
  ⟨.call 31, [qp 3, qp 4], (.val (qp 7))⟩,
  ⟨.call 77, [qp 7, qp 1], (.val (vp (.bool false)))⟩,
  ⟨.call 31, [qp 2, qp 5], (.val (qp 8))⟩,
  ⟨.call 77, [qp 8, qp 1], (.val (vp (.bool true)))⟩,
  ⟨.call 31, [qp 3, qp 5], (.val (qp 9))⟩]

noncomputable def cl_ended_minus_4 (rl : Rat) (rh : Rat) (a : Rat) (b : Rat) (c : Rat) (d : Rat) : List Cl := [
  clQ (rl) 100000,
  clQ (rh) 100000,
  clQ (a) 100000,
  clQ (b) 100000,
  clQ (c) 100000,
  clQ (d) 100000,
  clQ ((a) - (c)) 200001,
  clQ ((b) - (c)) 200001,
  clQ ((a) - (d)) 200001,
  clQ ((b) - (d)) 200001]

def t_ended_minus_4 : List Ent := [
  ⟨.call 31, [qp 2, qp 4], (.val (qp 6))⟩,
  ⟨.call 77, [qp 6, qp 0], (.val (vp (.bool true)))⟩,
  ⟨.call 77, [qp 6, qp 1], (.val (vp (.bool false)))⟩,
  ⟨.call 31, [qp 3, qp 4], (.val (qp 7))⟩,
  ⟨.call 77, [qp 7, qp 1], (.val (vp (.bool false)))⟩,
  ⟨.call 31, [qp 2, qp 5], (.val (qp 8))⟩,
  ⟨.call 77, [qp 8, qp 1], (.val (vp (.bool false)))⟩,
  ⟨.call 31, [qp 3, qp 5], (.val (qp 9))⟩,
  ⟨.call 77, [qp 9, qp 1], (.val (vp (.bool true)))⟩]

noncomputable def cl_ended_minus_5 (rl : Rat) (rh : Rat) (a : Rat) (b : Rat) (c : Rat) (d : Rat) : List Cl := [
  clQ (rl) 100000,
  clQ (rh) 100000,
  clQ (a) 100000,
  clQ (b) 100000,
  clQ (c) 100000,
  clQ (d) 100000,
  clQ ((a) - (c)) 200001,
  clQ ((b) - (c)) 200001,
  clQ ((a) - (d)) 200001,
  clQ ((b) - (d)) 200001]

def t_ended_minus_5 : List Ent := [
  ⟨.call 31, [qp 2, qp 4], (.val (qp 6))⟩,
  ⟨.call 77, [qp 6, qp 0], (.val (vp (.bool false)))⟩,
  ⟨.call 77, [qp 6, qp 1], (.val (vp (.bool true)))⟩,
  ⟨.call 31, [qp 3, qp 4], (.val (qp 7))⟩,
  ⟨.call 77, [qp 7, qp 0], (.val (vp (.bool true)))⟩,
  ⟨.call 31, [qp 2, qp 5], (.val (qp 8))⟩,
  ⟨.call 31, [qp 3, qp 5], (.val (qp 9))⟩]

noncomputable def cl_ended_minus_6 (rl : Rat) (rh : Rat) (a : Rat) (b : Rat) (c : Rat) (d : Rat) : List Cl := [
  clQ (rl) 100000,
  clQ (rh) 100000,
  clQ (a) 100000,
  clQ (b) 100000,
  clQ (c) 100000,
  clQ (d) 100000,
  clQ ((a) - (c)) 200001,
  clQ ((b) - (c)) 200001,
  clQ ((a) - (d)) 200001,
  clQ ((b) - (d)) 200001]

def t_ended_minus_6 : List Ent := [
  ⟨.call 31, [qp 2, qp 4], (.val (qp 6))⟩,
  ⟨.call 77, [qp 6, qp 0], (.val (vp (.bool false)))⟩,
  ⟨.call 77, [qp 6, qp 1], (.val (vp (.bool true)))⟩,
  ⟨.call 31, [qp 3, qp 4], (.val (qp 7))⟩,
  ⟨.call 77, [qp 7, qp 0], (.val (vp (.bool false)))⟩,
  ⟨.call 31, [qp 2, qp 5], (.val (qp 8))⟩,
  ⟨.call 77, [qp 8, qp 0], (.val (vp (.bool true)))⟩,
  ⟨.call 31, [qp 3, qp 5], (.val (qp 9))⟩]

noncomputable def cl_ended_minus_7 (rl : Rat) (rh : Rat) (a : Rat) (b : Rat) (c : Rat) (d : Rat) : List Cl := [
  clQ (rl) 100000,
  clQ (rh) 100000,
  clQ (a) 100000,
  clQ (b) 100000,
  clQ (c) 100000,
  clQ (d) 100000,
  clQ ((a) - (c)) 200001,
  clQ ((b) - (c)) 200001,
  clQ ((a) - (d)) 200001,
  clQ ((b) - (d)) 200001]

def t_ended_minus_7 : List Ent := [
  ⟨.call 31, [qp 2, qp 4], (.val (qp 6))⟩,
  ⟨.call 77, [qp 6, qp 0], (.val (vp (.bool false)))⟩,
  ⟨.call 77, [qp 6, qp 1], (.val (vp (.bool true)))⟩,
  ⟨.call 31, [qp 3, qp 4], (.val (qp 7))⟩,
  ⟨.call 77, [qp 7, qp 0], (.val (vp (.bool false)))⟩,
  ⟨.call 31, [qp 2, qp 5], (.val (qp 8))⟩,
  ⟨.call 77, [qp 8, qp 0], (.val (vp (.bool false)))⟩,
  ⟨.call 31, [qp 3, qp 5], (.val (qp 9))⟩,
  ⟨.call 77, [qp 9, qp 0], (.val (vp (.bool true)))⟩]

noncomputable def cl_ended_minus_8 (rl : Rat) (rh : Rat) (a : Rat) (b : Rat) (c : Rat) (d : Rat) : List Cl := [
  clQ (rl) 100000,
  clQ (rh) 100000,
  clQ (a) 100000,
  clQ (b) 100000,
  clQ (c) 100000,
  clQ (d) 100000,
  clQ ((a) - (c)) 200001,
  clQ ((b) - (c)) 200001,
  clQ ((a) - (d)) 200001,
  clQ ((b) - (d)) 200001]

def t_ended_minus_8 : List Ent := [
  ⟨.call 31, [qp 2, qp 4], (.val (qp 6))⟩,
  ⟨.call 77, [qp 6, qp 0], (.val (vp (.bool false)))⟩,
  ⟨.call 77, [qp 6, qp 1], (.val (vp (.bool false)))⟩,
  ⟨.call 31, [qp 3, qp 4], (.val (qp 7))⟩,
  ⟨.call 77, [qp 7, qp 0], (.val (vp (.bool true)))⟩,
  ⟨.call 77, [qp 7, qp 1], (.val (vp (.bool true)))⟩,
  ⟨.call 31, [qp 2, qp 5], (.val (qp 8))⟩,
  ⟨.call 31, [qp 3, qp 5], (.val (qp 9))⟩]

noncomputable def cl_ended_minus_9 (rl : Rat) (rh : Rat) (a : Rat) (b : Rat) (c : Rat) (d : Rat) : List Cl := [
  clQ (rl) 100000,
  clQ (rh) 100000,
  clQ (a) 100000,
  clQ (b) 100000,
  clQ (c) 100000,
  clQ (d) 100000,
  clQ ((a) - (c)) 200001,
  clQ ((b) - (c)) 200001,
  clQ ((a) - (d)) 200001,
  clQ ((b) - (d)) 200001]

def t_ended_minus_9 : List Ent := [
  ⟨.call 31, [qp 2, qp 4], (.val (qp 6))⟩,
  ⟨.call 77, [qp 6, qp 0], (.val (vp (.bool false)))⟩,
  ⟨.call 77, [qp 6, qp 1], (.val (vp (.bool false)))⟩,
  ⟨.call 31, [qp 3, qp 4], (.val (qp 7))⟩,
  ⟨.call 77, [qp 7, qp 0], (.val (vp (.bool true)))⟩,
  ⟨.call 77, [qp 7, qp 1], (.val (vp (.bool false)))⟩,
  ⟨.call 31, [qp 2, qp 5], (.val (qp 8))⟩,
  ⟨.call 77, [qp 8, qp 1], (.val (vp (.bool true)))⟩,
  ⟨.call 31, [qp 3, qp 5], (.val (qp 9))⟩]

noncomputable def cl_ended_minus_10 (rl : Rat) (rh : Rat) (a : Rat) (b : Rat) (c : Rat) (d : Rat) : List Cl := [
  clQ (rl) 100000,
  clQ (rh) 100000,
  clQ (a) 100000,
  clQ (b) 100000,
  clQ (c) 100000,
  clQ (d) 100000,
  clQ ((a) - (c)) 200001,
  clQ ((b) - (c)) 200001,
  clQ ((a) - (d)) 200001,
  clQ ((b) - (d)) 200001]

def t_ended_minus_10 : List Ent := [
  ⟨.call 31, [qp 2, qp 4], (.val (qp 6))⟩,
  ⟨.call 77, [qp 6, qp 0], (.val (vp (.bool false)))⟩,
  ⟨.call 77, [qp 6, qp 1], (.val (vp (.bool false)))⟩,
  ⟨.call 31, [qp 3, qp 4], (.val (qp 7))⟩,
  ⟨.call 77, [qp 7, qp 0], (.val (vp (.bool true)))⟩,
  ⟨.call 77, [qp 7, qp 1], (.val (vp (.bool false)))⟩,
  ⟨.call 31, [qp 2, qp 5], (.val (qp 8))⟩,
  ⟨.call 77, [qp 8, qp 1], (.val (vp (.bool false)))⟩,
  ⟨.call 31, [qp 3, qp 5], (.val (qp 9))⟩,
  ⟨.call 77, [qp 9, qp 1], (.val (vp (.bool true)))⟩]

noncomputable def cl_ended_minus_11 (rl : Rat) (rh : Rat) (a : Rat) (b : Rat) (c : Rat) (d : Rat) : List Cl := [
  clQ (rl) 100000,
  clQ (rh) 100000,
  clQ (a) 100000,
  clQ (b) 100000,
  clQ (c) 100000,
  clQ (d) 100000,
  clQ ((a) - (c)) 200001,
  clQ ((b) - (c)) 200001,
  clQ ((a) - (d)) 200001,
  clQ ((b) - (d)) 200001]

def t_ended_minus_11 : List Ent := [
  ⟨.call 31, [qp 2, qp 4], (.val (qp 6))⟩,
  ⟨.call 77, [qp 6, qp 0], (.val (vp (.bool false)))⟩,
  ⟨.call 77, [qp 6, qp 1], (.val (vp (.bool false)))⟩,
  ⟨.call 31, [qp 3, qp 4], (.val (qp 7))⟩,
  ⟨.call 77, [qp 7, qp 0], (.val (vp (.bool false)))⟩,
  ⟨.call 77, [qp 7, qp 1], (.val (vp (.bool true)))⟩,
  ⟨.call 31, [qp 2, qp 5], (.val (qp 8))⟩,
  ⟨.call 77, [qp 8, qp 0], (.val (vp (.bool true)))⟩,
  ⟨.call 31, [qp 3, qp 5], (.val (qp 9))⟩]

noncomputable def cl_ended_minus_12 (rl : Rat) (rh : Rat) (a : Rat) (b : Rat) (c : Rat) (d : Rat) : List Cl := [
  clQ (rl) 100000,
  clQ (rh) 100000,
  clQ (a) 100000,
  clQ (b) 100000,
  clQ (c) 100000,
  clQ (d) 100000,
  clQ ((a) - (c)) 200001,
  clQ ((b) - (c)) 200001,
  clQ ((a) - (d)) 200001,
  clQ ((b) - (d)) 200001]

def t_ended_minus_12 : List Ent := [
  ⟨.call 31, [qp 2, qp 4], (.val (qp 6))⟩,
  ⟨.call 77, [qp 6, qp 0], (.val (vp (.bool false)))⟩,
  ⟨.call 77, [qp 6, qp 1], (.val (vp (.bool false)))⟩,
  ⟨.call 31, [qp 3, qp 4], (.val (qp 7))⟩,
  ⟨.call 77, [qp 7, qp 0], (.val (vp (.bool false)))⟩,
  ⟨.call 77, [qp 7, qp 1], (.val (vp (.bool true)))⟩,
  ⟨.call 31, [qp 2, qp 5], (.val (qp 8))⟩,
  ⟨.call 77, [qp 8, qp 0], (.val (vp (.bool false)))⟩,
  ⟨.call 31, [qp 3, qp 5], (.val (qp 9))⟩,
  ⟨.call 77, [qp 9, qp 0], (.val (vp (.bool true)))⟩]

noncomputable def cl_ended_minus_13 (rl : Rat) (rh : Rat) (a : Rat) (b : Rat) (c : Rat) (d : Rat) : List Cl := [
  clQ (rl) 100000,
  clQ (rh) 100000,
  clQ (a) 100000,
  clQ (b) 100000,
  clQ (c) 100000,
  clQ (d) 100000,
  clQ ((a) - (c)) 200001,
  clQ ((b) - (c)) 200001,
  clQ ((a) - (d)) 200001,
  clQ ((b) - (d)) 200001]

def t_ended_minus_13 : List Ent := [
  ⟨.call 31, [qp 2, qp 4], (.val (qp 6))⟩,
  ⟨.call 77, [qp 6, qp 0], (.val (vp (.bool false)))⟩,
  ⟨.call 77, [qp 6, qp 1], (.val (vp (.bool false)))⟩,
  ⟨.call 31, [qp 3, qp 4], (.val (qp 7))⟩,
  ⟨.call 77, [qp 7, qp 0], (.val (vp (.bool false)))⟩,
  ⟨.call 77, [qp 7, qp 1], (.val (vp (.bool false)))⟩,
  ⟨.call 31, [qp 2, qp 5], (.val (qp 8))⟩,
  ⟨.call 77, [qp 8, qp 0], (.val (vp (.bool true)))⟩,
  ⟨.call 77, [qp 8, qp 1], (.val (vp (.bool true)))⟩,
  ⟨.call 31, [qp 3, qp 5], (.val (qp 9))⟩]

noncomputable def cl_ended_minus_14 (rl : Rat) (rh : Rat) (a : Rat) (b : Rat) (c : Rat) (d : Rat) : List Cl := [
  clQ (rl) 100000,
  clQ (rh) 100000,
  clQ (a) 100000,
  clQ (b) 100000,
  clQ (c) 100000,
  clQ (d) 100000,
  clQ ((a) - (c)) 200001,
  clQ ((b) - (c)) 200001,
  clQ ((a) - (d)) 200001,
  clQ ((b) - (d)) 200001]

def t_ended_minus_14 : List Ent := [
  ⟨.call 31, [qp 2, qp 4], (.val (qp 6))⟩,
  ⟨.call 77, [qp 6, qp 0], (.val (vp (.bool false)))⟩,
  ⟨.call 77, [qp 6, qp 1], (.val (vp (.bool false)))⟩,
  ⟨.call 31, [qp 3, qp 4], (.val (qp 7))⟩,
  ⟨.call 77, [qp 7, qp 0], (.val (vp (.bool false)))⟩,
  ⟨.call 77, [qp 7, qp 1], (.val (vp (.bool false)))⟩,
  ⟨.call 31, [qp 2, qp 5], (.val (qp 8))⟩,
  ⟨.call 77, [qp 8, qp 0], (.val (vp (.bool true)))⟩,
  ⟨.call 77, [qp 8, qp 1], (.val (vp (.bool false)))⟩,
  ⟨.call 31, [qp 3, qp 5], (.val (qp 9))⟩,
  ⟨.call 77, [qp 9, qp 1], (.val (vp (.bool true)))⟩]

noncomputable def cl_ended_minus_15 (rl : Rat) (rh : Rat) (a : Rat) (b : Rat) (c : Rat) (d : Rat) : List Cl := [
  clQ (rl) 100000,
  clQ (rh) 100000,
  clQ (a) 100000,
  clQ (b) 100000,
  clQ (c) 100000,
  clQ (d) 100000,
  clQ ((a) - (c)) 200001,
  clQ ((b) - (c)) 200001,
  clQ ((a) - (d)) 200001,
  clQ ((b) - (d)) 200001]

def t_ended_minus_15 : List Ent := [
  ⟨.call 31, [qp 2, qp 4], (.val (qp 6))⟩,
  ⟨.call 77, [qp 6, qp 0], (.val (vp (.bool false)))⟩,
  ⟨.call 77, [qp 6, qp 1], (.val (vp (.bool false)))⟩,
  ⟨.call 31, [qp 3, qp 4], (.val (qp 7))⟩,
  ⟨.call 77, [qp 7, qp 0], (.val (vp (.bool false)))⟩,
  ⟨.call 77, [qp 7, qp 1], (.val (vp (.bool false)))⟩,
  ⟨.call 31, [qp 2, qp 5], (.val (qp 8))⟩,
  ⟨.call 77, [qp 8, qp 0], (.val (vp (.bool false)))⟩,
  ⟨.call 77, [qp 8, qp 1], (.val (vp (.bool true)))⟩,
  ⟨.call 31, [qp 3, qp 5], (.val (qp 9))⟩,
  ⟨.call 77, [qp 9, qp 0], (.val (vp (.bool true)))⟩]

noncomputable def cl_ended_minus_16 (rl : Rat) (rh : Rat) (a : Rat) (b : Rat) (c : Rat) (d : Rat) : List Cl := [
  clQ (rl) 100000,
  clQ (rh) 100000,
  clQ (a) 100000,
  clQ (b) 100000,
  clQ (c) 100000,
  clQ (d) 100000,
  clQ ((a) - (c)) 200001,
  clQ ((b) - (c)) 200001,
  clQ ((a) - (d)) 200001,
  clQ ((b) - (d)) 200001]

def t_ended_minus_16 : List Ent := [
  ⟨.call 31, [qp 2, qp 4], (.val (qp 6))⟩,
  ⟨.call 77, [qp 6, qp 0], (.val (vp (.bool false)))⟩,
  ⟨.call 77, [qp 6, qp 1], (.val (vp (.bool false)))⟩,
  ⟨.call 31, [qp 3, qp 4], (.val (qp 7))⟩,
  ⟨.call 77, [qp 7, qp 0], (.val (vp (.bool false)))⟩,
  ⟨.call 77, [qp 7, qp 1], (.val (vp (.bool false)))⟩,
  ⟨.call 31, [qp 2, qp 5], (.val (qp 8))⟩,
  ⟨.call 77, [qp 8, qp 0], (.val (vp (.bool false)))⟩,
  ⟨.call 77, [qp 8, qp 1], (.val (vp (.bool false)))⟩,
  ⟨.call 31, [qp 3, qp 5], (.val (qp 9))⟩,
  ⟨.call 77, [qp 9, qp 0], (.val (vp (.bool true)))⟩,
  ⟨.call 77, [qp 9, qp 1], (.val (vp (.bool true)))⟩]

set_option maxRecDepth 100000 in
theorem ended_minus (v1 v2 v3 : Value) (rl rh a b c d : Rat) (w : World) (hG : Gr w) (q1 : IsS w v1 rl rh) (q2 : IsS w v2 a b) (q3 : IsS w v3 c d) (z1 : Siz rl 100000) (z2 : Siz rh 100000) (z3 : Siz a 100000) (z4 : Siz b 100000) (z5 : Siz c 100000) (z6 : Siz d 100000) (hl : rl = (a) - (c) ∨ rl = (b) - (c) ∨ rl = (a) - (d) ∨ rl = (b) - (d)) (hh : rh = (a) - (c) ∨ rh = (b) - (c) ∨ rh = (a) - (d) ∨ rh = (b) - (d)) :
    Calls Tryz.prog 79 #[v1, v2, v3, .func (.func 31) #[] #[]] w (Go.Proofs.YtnolcmoecodeaaaGreatDoor.Val w (.bool true)) := by
  cases h1 : decide (((a) - (c)) = (rl)) with
  | true =>
    cases h2 : decide (((a) - (c)) = (rh)) with
    | true =>
      have hC : (mkC [4, 4, 4, 4, 4, 4, 4, 4, 4, 4] [true, true, true, true, true, true, true, true, true, true] [26, 66, 64, 104] 55 (cl_ended_minus_1 rl rh a b c d) w).Ok := mkC_ok (oks_cons (clQ_ok (by decide) _ _) <| oks_cons (clQ_ok (by decide) _ _) <| oks_cons (clQ_ok (by decide) _ _) <| oks_cons (clQ_ok (by decide) _ _) <| oks_cons (clQ_ok (by decide) _ _) <| oks_cons (clQ_ok (by decide) _ _) <| oks_cons (clQ_ok (by decide) _ _) <| oks_cons (clQ_ok (by decide) _ _) <| oks_cons (clQ_ok (by decide) _ _) <| oks_cons (clQ_ok (by decide) _ _) <| oks_nil) rfl rfl
      have hT : ∀ t ∈ t_ended_minus_1, t.Valid (mkC [4, 4, 4, 4, 4, 4, 4, 4, 4, 4] [true, true, true, true, true, true, true, true, true, true] [26, 66, 64, 104] 55 (cl_ended_minus_1 rl rh a b c d) w) :=
        forall_cons (e_minus hG (pq rfl) (pq rfl) rfl rfl) <|
        forall_cons (e_equal (pq rfl) (pq rfl) rfl h1) <|
        forall_cons (e_equal (pq rfl) (pq rfl) rfl h2) <|
        forall_cons (e_minus hG (pq rfl) (pq rfl) rfl rfl) <|
        forall_cons (e_minus hG (pq rfl) (pq rfl) rfl rfl) <|
        forall_cons (e_minus hG (pq rfl) (pq rfl) rfl rfl) <|
        forall_nil
      refine Calls.mono (run_mk hC hT 79 Tryz.f79 [sp 0 1, sp 2 3, sp 4 5, vp (.func (.func 31) #[] #[])] (.val (vp (.bool true))) 200 Tryz.func79 rfl rfl rfl (by kernel_rfl) [v1, v2, v3, .func (.func 31) #[] #[]] ⟨v1, _, rfl, (sp_is rfl rfl).2 ⟨q1, z1, z2⟩, v2, _, rfl, (sp_is rfl rfl).2 ⟨q2, z3, z4⟩, v3, _, rfl, (sp_is rfl rfl).2 ⟨q3, z5, z6⟩, _, _, rfl, vp_is.2 rfl, rfl⟩) ?_
      rintro e w' ⟨v, rfl, hv, hb⟩; obtain rfl := val_of hv; exact ⟨rfl, hb⟩
    | false =>
      cases h3 : decide (((b) - (c)) = (rh)) with
      | true =>
        have hC : (mkC [4, 4, 4, 4, 4, 4, 4, 4, 4, 4] [true, true, true, true, true, true, true, true, true, true] [26, 66, 64, 104] 55 (cl_ended_minus_2 rl rh a b c d) w).Ok := mkC_ok (oks_cons (clQ_ok (by decide) _ _) <| oks_cons (clQ_ok (by decide) _ _) <| oks_cons (clQ_ok (by decide) _ _) <| oks_cons (clQ_ok (by decide) _ _) <| oks_cons (clQ_ok (by decide) _ _) <| oks_cons (clQ_ok (by decide) _ _) <| oks_cons (clQ_ok (by decide) _ _) <| oks_cons (clQ_ok (by decide) _ _) <| oks_cons (clQ_ok (by decide) _ _) <| oks_cons (clQ_ok (by decide) _ _) <| oks_nil) rfl rfl
        have hT : ∀ t ∈ t_ended_minus_2, t.Valid (mkC [4, 4, 4, 4, 4, 4, 4, 4, 4, 4] [true, true, true, true, true, true, true, true, true, true] [26, 66, 64, 104] 55 (cl_ended_minus_2 rl rh a b c d) w) :=
          forall_cons (e_minus hG (pq rfl) (pq rfl) rfl rfl) <|
          forall_cons (e_equal (pq rfl) (pq rfl) rfl h1) <|
          forall_cons (e_equal (pq rfl) (pq rfl) rfl h2) <|
          forall_cons (e_minus hG (pq rfl) (pq rfl) rfl rfl) <|
          forall_cons (e_equal (pq rfl) (pq rfl) rfl h3) <|
          forall_cons (e_minus hG (pq rfl) (pq rfl) rfl rfl) <|
          forall_cons (e_minus hG (pq rfl) (pq rfl) rfl rfl) <|
          forall_nil
        refine Calls.mono (run_mk hC hT 79 Tryz.f79 [sp 0 1, sp 2 3, sp 4 5, vp (.func (.func 31) #[] #[])] (.val (vp (.bool true))) 200 Tryz.func79 rfl rfl rfl (by kernel_rfl) [v1, v2, v3, .func (.func 31) #[] #[]] ⟨v1, _, rfl, (sp_is rfl rfl).2 ⟨q1, z1, z2⟩, v2, _, rfl, (sp_is rfl rfl).2 ⟨q2, z3, z4⟩, v3, _, rfl, (sp_is rfl rfl).2 ⟨q3, z5, z6⟩, _, _, rfl, vp_is.2 rfl, rfl⟩) ?_
        rintro e w' ⟨v, rfl, hv, hb⟩; obtain rfl := val_of hv; exact ⟨rfl, hb⟩
      | false =>
        cases h4 : decide (((a) - (d)) = (rh)) with
        | true =>
          have hC : (mkC [4, 4, 4, 4, 4, 4, 4, 4, 4, 4] [true, true, true, true, true, true, true, true, true, true] [26, 66, 64, 104] 55 (cl_ended_minus_3 rl rh a b c d) w).Ok := mkC_ok (oks_cons (clQ_ok (by decide) _ _) <| oks_cons (clQ_ok (by decide) _ _) <| oks_cons (clQ_ok (by decide) _ _) <| oks_cons (clQ_ok (by decide) _ _) <| oks_cons (clQ_ok (by decide) _ _) <| oks_cons (clQ_ok (by decide) _ _) <| oks_cons (clQ_ok (by decide) _ _) <| oks_cons (clQ_ok (by decide) _ _) <| oks_cons (clQ_ok (by decide) _ _) <| oks_cons (clQ_ok (by decide) _ _) <| oks_nil) rfl rfl
          have hT : ∀ t ∈ t_ended_minus_3, t.Valid (mkC [4, 4, 4, 4, 4, 4, 4, 4, 4, 4] [true, true, true, true, true, true, true, true, true, true] [26, 66, 64, 104] 55 (cl_ended_minus_3 rl rh a b c d) w) :=
            forall_cons (e_minus hG (pq rfl) (pq rfl) rfl rfl) <|
            forall_cons (e_equal (pq rfl) (pq rfl) rfl h1) <|
            forall_cons (e_equal (pq rfl) (pq rfl) rfl h2) <|
            forall_cons (e_minus hG (pq rfl) (pq rfl) rfl rfl) <|
            forall_cons (e_equal (pq rfl) (pq rfl) rfl h3) <|
            forall_cons (e_minus hG (pq rfl) (pq rfl) rfl rfl) <|
            forall_cons (e_equal (pq rfl) (pq rfl) rfl h4) <|
            forall_cons (e_minus hG (pq rfl) (pq rfl) rfl rfl) <|
            forall_nil
          refine Calls.mono (run_mk hC hT 79 Tryz.f79 [sp 0 1, sp 2 3, sp 4 5, vp (.func (.func 31) #[] #[])] (.val (vp (.bool true))) 200 Tryz.func79 rfl rfl rfl (by kernel_rfl) [v1, v2, v3, .func (.func 31) #[] #[]] ⟨v1, _, rfl, (sp_is rfl rfl).2 ⟨q1, z1, z2⟩, v2, _, rfl, (sp_is rfl rfl).2 ⟨q2, z3, z4⟩, v3, _, rfl, (sp_is rfl rfl).2 ⟨q3, z5, z6⟩, _, _, rfl, vp_is.2 rfl, rfl⟩) ?_
          rintro e w' ⟨v, rfl, hv, hb⟩; obtain rfl := val_of hv; exact ⟨rfl, hb⟩
        | false =>
          cases h5 : decide (((b) - (d)) = (rh)) with
          | true =>
            have hC : (mkC [4, 4, 4, 4, 4, 4, 4, 4, 4, 4] [true, true, true, true, true, true, true, true, true, true] [26, 66, 64, 104] 55 (cl_ended_minus_4 rl rh a b c d) w).Ok := mkC_ok (oks_cons (clQ_ok (by decide) _ _) <| oks_cons (clQ_ok (by decide) _ _) <| oks_cons (clQ_ok (by decide) _ _) <| oks_cons (clQ_ok (by decide) _ _) <| oks_cons (clQ_ok (by decide) _ _) <| oks_cons (clQ_ok (by decide) _ _) <| oks_cons (clQ_ok (by decide) _ _) <| oks_cons (clQ_ok (by decide) _ _) <| oks_cons (clQ_ok (by decide) _ _) <| oks_cons (clQ_ok (by decide) _ _) <| oks_nil) rfl rfl
            have hT : ∀ t ∈ t_ended_minus_4, t.Valid (mkC [4, 4, 4, 4, 4, 4, 4, 4, 4, 4] [true, true, true, true, true, true, true, true, true, true] [26, 66, 64, 104] 55 (cl_ended_minus_4 rl rh a b c d) w) :=
              forall_cons (e_minus hG (pq rfl) (pq rfl) rfl rfl) <|
              forall_cons (e_equal (pq rfl) (pq rfl) rfl h1) <|
              forall_cons (e_equal (pq rfl) (pq rfl) rfl h2) <|
              forall_cons (e_minus hG (pq rfl) (pq rfl) rfl rfl) <|
              forall_cons (e_equal (pq rfl) (pq rfl) rfl h3) <|
              forall_cons (e_minus hG (pq rfl) (pq rfl) rfl rfl) <|
              forall_cons (e_equal (pq rfl) (pq rfl) rfl h4) <|
              forall_cons (e_minus hG (pq rfl) (pq rfl) rfl rfl) <|
              forall_cons (e_equal (pq rfl) (pq rfl) rfl h5) <|
              forall_nil
            refine Calls.mono (run_mk hC hT 79 Tryz.f79 [sp 0 1, sp 2 3, sp 4 5, vp (.func (.func 31) #[] #[])] (.val (vp (.bool true))) 200 Tryz.func79 rfl rfl rfl (by kernel_rfl) [v1, v2, v3, .func (.func 31) #[] #[]] ⟨v1, _, rfl, (sp_is rfl rfl).2 ⟨q1, z1, z2⟩, v2, _, rfl, (sp_is rfl rfl).2 ⟨q2, z3, z4⟩, v3, _, rfl, (sp_is rfl rfl).2 ⟨q3, z5, z6⟩, _, _, rfl, vp_is.2 rfl, rfl⟩) ?_
            rintro e w' ⟨v, rfl, hv, hb⟩; obtain rfl := val_of hv; exact ⟨rfl, hb⟩
          | false =>
            exact (no4 h2 h3 h4 h5 hh).elim
  | false =>
    cases h2 : decide (((a) - (c)) = (rh)) with
    | true =>
      cases h3 : decide (((b) - (c)) = (rl)) with
      | true =>
        have hC : (mkC [4, 4, 4, 4, 4, 4, 4, 4, 4, 4] [true, true, true, true, true, true, true, true, true, true] [26, 66, 64, 104] 55 (cl_ended_minus_5 rl rh a b c d) w).Ok := mkC_ok (oks_cons (clQ_ok (by decide) _ _) <| oks_cons (clQ_ok (by decide) _ _) <| oks_cons (clQ_ok (by decide) _ _) <| oks_cons (clQ_ok (by decide) _ _) <| oks_cons (clQ_ok (by decide) _ _) <| oks_cons (clQ_ok (by decide) _ _) <| oks_cons (clQ_ok (by decide) _ _) <| oks_cons (clQ_ok (by decide) _ _) <| oks_cons (clQ_ok (by decide) _ _) <| oks_cons (clQ_ok (by decide) _ _) <| oks_nil) rfl rfl
        have hT : ∀ t ∈ t_ended_minus_5, t.Valid (mkC [4, 4, 4, 4, 4, 4, 4, 4, 4, 4] [true, true, true, true, true, true, true, true, true, true] [26, 66, 64, 104] 55 (cl_ended_minus_5 rl rh a b c d) w) :=
          forall_cons (e_minus hG (pq rfl) (pq rfl) rfl rfl) <|
          forall_cons (e_equal (pq rfl) (pq rfl) rfl h1) <|
          forall_cons (e_equal (pq rfl) (pq rfl) rfl h2) <|
          forall_cons (e_minus hG (pq rfl) (pq rfl) rfl rfl) <|
          forall_cons (e_equal (pq rfl) (pq rfl) rfl h3) <|
          forall_cons (e_minus hG (pq rfl) (pq rfl) rfl rfl) <|
          forall_cons (e_minus hG (pq rfl) (pq rfl) rfl rfl) <|
          forall_nil
        refine Calls.mono (run_mk hC hT 79 Tryz.f79 [sp 0 1, sp 2 3, sp 4 5, vp (.func (.func 31) #[] #[])] (.val (vp (.bool true))) 200 Tryz.func79 rfl rfl rfl (by kernel_rfl) [v1, v2, v3, .func (.func 31) #[] #[]] ⟨v1, _, rfl, (sp_is rfl rfl).2 ⟨q1, z1, z2⟩, v2, _, rfl, (sp_is rfl rfl).2 ⟨q2, z3, z4⟩, v3, _, rfl, (sp_is rfl rfl).2 ⟨q3, z5, z6⟩, _, _, rfl, vp_is.2 rfl, rfl⟩) ?_
        rintro e w' ⟨v, rfl, hv, hb⟩; obtain rfl := val_of hv; exact ⟨rfl, hb⟩
      | false =>
        cases h4 : decide (((a) - (d)) = (rl)) with
        | true =>
          have hC : (mkC [4, 4, 4, 4, 4, 4, 4, 4, 4, 4] [true, true, true, true, true, true, true, true, true, true] [26, 66, 64, 104] 55 (cl_ended_minus_6 rl rh a b c d) w).Ok := mkC_ok (oks_cons (clQ_ok (by decide) _ _) <| oks_cons (clQ_ok (by decide) _ _) <| oks_cons (clQ_ok (by decide) _ _) <| oks_cons (clQ_ok (by decide) _ _) <| oks_cons (clQ_ok (by decide) _ _) <| oks_cons (clQ_ok (by decide) _ _) <| oks_cons (clQ_ok (by decide) _ _) <| oks_cons (clQ_ok (by decide) _ _) <| oks_cons (clQ_ok (by decide) _ _) <| oks_cons (clQ_ok (by decide) _ _) <| oks_nil) rfl rfl
          have hT : ∀ t ∈ t_ended_minus_6, t.Valid (mkC [4, 4, 4, 4, 4, 4, 4, 4, 4, 4] [true, true, true, true, true, true, true, true, true, true] [26, 66, 64, 104] 55 (cl_ended_minus_6 rl rh a b c d) w) :=
            forall_cons (e_minus hG (pq rfl) (pq rfl) rfl rfl) <|
            forall_cons (e_equal (pq rfl) (pq rfl) rfl h1) <|
            forall_cons (e_equal (pq rfl) (pq rfl) rfl h2) <|
            forall_cons (e_minus hG (pq rfl) (pq rfl) rfl rfl) <|
            forall_cons (e_equal (pq rfl) (pq rfl) rfl h3) <|
            forall_cons (e_minus hG (pq rfl) (pq rfl) rfl rfl) <|
            forall_cons (e_equal (pq rfl) (pq rfl) rfl h4) <|
            forall_cons (e_minus hG (pq rfl) (pq rfl) rfl rfl) <|
            forall_nil
          refine Calls.mono (run_mk hC hT 79 Tryz.f79 [sp 0 1, sp 2 3, sp 4 5, vp (.func (.func 31) #[] #[])] (.val (vp (.bool true))) 200 Tryz.func79 rfl rfl rfl (by kernel_rfl) [v1, v2, v3, .func (.func 31) #[] #[]] ⟨v1, _, rfl, (sp_is rfl rfl).2 ⟨q1, z1, z2⟩, v2, _, rfl, (sp_is rfl rfl).2 ⟨q2, z3, z4⟩, v3, _, rfl, (sp_is rfl rfl).2 ⟨q3, z5, z6⟩, _, _, rfl, vp_is.2 rfl, rfl⟩) ?_
          rintro e w' ⟨v, rfl, hv, hb⟩; obtain rfl := val_of hv; exact ⟨rfl, hb⟩
        | false =>
          cases h5 : decide (((b) - (d)) = (rl)) with
          | true =>
            have hC : (mkC [4, 4, 4, 4, 4, 4, 4, 4, 4, 4] [true, true, true, true, true, true, true, true, true, true] [26, 66, 64, 104] 55 (cl_ended_minus_7 rl rh a b c d) w).Ok := mkC_ok (oks_cons (clQ_ok (by decide) _ _) <| oks_cons (clQ_ok (by decide) _ _) <| oks_cons (clQ_ok (by decide) _ _) <| oks_cons (clQ_ok (by decide) _ _) <| oks_cons (clQ_ok (by decide) _ _) <| oks_cons (clQ_ok (by decide) _ _) <| oks_cons (clQ_ok (by decide) _ _) <| oks_cons (clQ_ok (by decide) _ _) <| oks_cons (clQ_ok (by decide) _ _) <| oks_cons (clQ_ok (by decide) _ _) <| oks_nil) rfl rfl
            have hT : ∀ t ∈ t_ended_minus_7, t.Valid (mkC [4, 4, 4, 4, 4, 4, 4, 4, 4, 4] [true, true, true, true, true, true, true, true, true, true] [26, 66, 64, 104] 55 (cl_ended_minus_7 rl rh a b c d) w) :=
              forall_cons (e_minus hG (pq rfl) (pq rfl) rfl rfl) <|
              forall_cons (e_equal (pq rfl) (pq rfl) rfl h1) <|
              forall_cons (e_equal (pq rfl) (pq rfl) rfl h2) <|
              forall_cons (e_minus hG (pq rfl) (pq rfl) rfl rfl) <|
              forall_cons (e_equal (pq rfl) (pq rfl) rfl h3) <|
              forall_cons (e_minus hG (pq rfl) (pq rfl) rfl rfl) <|
              forall_cons (e_equal (pq rfl) (pq rfl) rfl h4) <|
              forall_cons (e_minus hG (pq rfl) (pq rfl) rfl rfl) <|
              forall_cons (e_equal (pq rfl) (pq rfl) rfl h5) <|
              forall_nil
            refine Calls.mono (run_mk hC hT 79 Tryz.f79 [sp 0 1, sp 2 3, sp 4 5, vp (.func (.func 31) #[] #[])] (.val (vp (.bool true))) 200 Tryz.func79 rfl rfl rfl (by kernel_rfl) [v1, v2, v3, .func (.func 31) #[] #[]] ⟨v1, _, rfl, (sp_is rfl rfl).2 ⟨q1, z1, z2⟩, v2, _, rfl, (sp_is rfl rfl).2 ⟨q2, z3, z4⟩, v3, _, rfl, (sp_is rfl rfl).2 ⟨q3, z5, z6⟩, _, _, rfl, vp_is.2 rfl, rfl⟩) ?_
            rintro e w' ⟨v, rfl, hv, hb⟩; obtain rfl := val_of hv; exact ⟨rfl, hb⟩
          | false =>
            exact (no4 h1 h3 h4 h5 hl).elim
    | false =>
      cases h3 : decide (((b) - (c)) = (rl)) with
      | true =>
        cases h4 : decide (((b) - (c)) = (rh)) with
        | true =>
          have hC : (mkC [4, 4, 4, 4, 4, 4, 4, 4, 4, 4] [true, true, true, true, true, true, true, true, true, true] [26, 66, 64, 104] 55 (cl_ended_minus_8 rl rh a b c d) w).Ok := mkC_ok (oks_cons (clQ_ok (by decide) _ _) <| oks_cons (clQ_ok (by decide) _ _) <| oks_cons (clQ_ok (by decide) _ _) <| oks_cons (clQ_ok (by decide) _ _) <| oks_cons (clQ_ok (by decide) _ _) <| oks_cons (clQ_ok (by decide) _ _) <| oks_cons (clQ_ok (by decide) _ _) <| oks_cons (clQ_ok (by decide) _ _) <| oks_cons (clQ_ok (by decide) _ _) <| oks_cons (clQ_ok (by decide) _ _) <| oks_nil) rfl rfl
          have hT : ∀ t ∈ t_ended_minus_8, t.Valid (mkC [4, 4, 4, 4, 4, 4, 4, 4, 4, 4] [true, true, true, true, true, true, true, true, true, true] [26, 66, 64, 104] 55 (cl_ended_minus_8 rl rh a b c d) w) :=
            forall_cons (e_minus hG (pq rfl) (pq rfl) rfl rfl) <|
            forall_cons (e_equal (pq rfl) (pq rfl) rfl h1) <|
            forall_cons (e_equal (pq rfl) (pq rfl) rfl h2) <|
            forall_cons (e_minus hG (pq rfl) (pq rfl) rfl rfl) <|
            forall_cons (e_equal (pq rfl) (pq rfl) rfl h3) <|
            forall_cons (e_equal (pq rfl) (pq rfl) rfl h4) <|
            forall_cons (e_minus hG (pq rfl) (pq rfl) rfl rfl) <|
            forall_cons (e_minus hG (pq rfl) (pq rfl) rfl rfl) <|
            forall_nil
          refine Calls.mono (run_mk hC hT 79 Tryz.f79 [sp 0 1, sp 2 3, sp 4 5, vp (.func (.func 31) #[] #[])] (.val (vp (.bool true))) 200 Tryz.func79 rfl rfl rfl (by kernel_rfl) [v1, v2, v3, .func (.func 31) #[] #[]] ⟨v1, _, rfl, (sp_is rfl rfl).2 ⟨q1, z1, z2⟩, v2, _, rfl, (sp_is rfl rfl).2 ⟨q2, z3, z4⟩, v3, _, rfl, (sp_is rfl rfl).2 ⟨q3, z5, z6⟩, _, _, rfl, vp_is.2 rfl, rfl⟩) ?_
          rintro e w' ⟨v, rfl, hv, hb⟩; obtain rfl := val_of hv; exact ⟨rfl, hb⟩
        | false =>
          cases h5 : decide (((a) - (d)) = (rh)) with
          | true =>
            have hC : (mkC [4, 4, 4, 4, 4, 4, 4, 4, 4, 4] [true, true, true, true, true, true, true, true, true, true] [26, 66, 64, 104] 55 (cl_ended_minus_9 rl rh a b c d) w).Ok := mkC_ok (oks_cons (clQ_ok (by decide) _ _) <| oks_cons (clQ_ok (by decide) _ _) <| oks_cons (clQ_ok (by decide) _ _) <| oks_cons (clQ_ok (by decide) _ _) <| oks_cons (clQ_ok (by decide) _ _) <| oks_cons (clQ_ok (by decide) _ _) <| oks_cons (clQ_ok (by decide) _ _) <| oks_cons (clQ_ok (by decide) _ _) <| oks_cons (clQ_ok (by decide) _ _) <| oks_cons (clQ_ok (by decide) _ _) <| oks_nil) rfl rfl
            have hT : ∀ t ∈ t_ended_minus_9, t.Valid (mkC [4, 4, 4, 4, 4, 4, 4, 4, 4, 4] [true, true, true, true, true, true, true, true, true, true] [26, 66, 64, 104] 55 (cl_ended_minus_9 rl rh a b c d) w) :=
              forall_cons (e_minus hG (pq rfl) (pq rfl) rfl rfl) <|
              forall_cons (e_equal (pq rfl) (pq rfl) rfl h1) <|
              forall_cons (e_equal (pq rfl) (pq rfl) rfl h2) <|
              forall_cons (e_minus hG (pq rfl) (pq rfl) rfl rfl) <|
              forall_cons (e_equal (pq rfl) (pq rfl) rfl h3) <|
              forall_cons (e_equal (pq rfl) (pq rfl) rfl h4) <|
              forall_cons (e_minus hG (pq rfl) (pq rfl) rfl rfl) <|
              forall_cons (e_equal (pq rfl) (pq rfl) rfl h5) <|
              forall_cons (e_minus hG (pq rfl) (pq rfl) rfl rfl) <|
              forall_nil
            refine Calls.mono (run_mk hC hT 79 Tryz.f79 [sp 0 1, sp 2 3, sp 4 5, vp (.func (.func 31) #[] #[])] (.val (vp (.bool true))) 200 Tryz.func79 rfl rfl rfl (by kernel_rfl) [v1, v2, v3, .func (.func 31) #[] #[]] ⟨v1, _, rfl, (sp_is rfl rfl).2 ⟨q1, z1, z2⟩, v2, _, rfl, (sp_is rfl rfl).2 ⟨q2, z3, z4⟩, v3, _, rfl, (sp_is rfl rfl).2 ⟨q3, z5, z6⟩, _, _, rfl, vp_is.2 rfl, rfl⟩) ?_
            rintro e w' ⟨v, rfl, hv, hb⟩; obtain rfl := val_of hv; exact ⟨rfl, hb⟩
          | false =>
            cases h6 : decide (((b) - (d)) = (rh)) with
            | true =>
              have hC : (mkC [4, 4, 4, 4, 4, 4, 4, 4, 4, 4] [true, true, true, true, true, true, true, true, true, true] [26, 66, 64, 104] 55 (cl_ended_minus_10 rl rh a b c d) w).Ok := mkC_ok (oks_cons (clQ_ok (by decide) _ _) <| oks_cons (clQ_ok (by decide) _ _) <| oks_cons (clQ_ok (by decide) _ _) <| oks_cons (clQ_ok (by decide) _ _) <| oks_cons (clQ_ok (by decide) _ _) <| oks_cons (clQ_ok (by decide) _ _) <| oks_cons (clQ_ok (by decide) _ _) <| oks_cons (clQ_ok (by decide) _ _) <| oks_cons (clQ_ok (by decide) _ _) <| oks_cons (clQ_ok (by decide) _ _) <| oks_nil) rfl rfl
              have hT : ∀ t ∈ t_ended_minus_10, t.Valid (mkC [4, 4, 4, 4, 4, 4, 4, 4, 4, 4] [true, true, true, true, true, true, true, true, true, true] [26, 66, 64, 104] 55 (cl_ended_minus_10 rl rh a b c d) w) :=
                forall_cons (e_minus hG (pq rfl) (pq rfl) rfl rfl) <|
                forall_cons (e_equal (pq rfl) (pq rfl) rfl h1) <|
                forall_cons (e_equal (pq rfl) (pq rfl) rfl h2) <|
                forall_cons (e_minus hG (pq rfl) (pq rfl) rfl rfl) <|
                forall_cons (e_equal (pq rfl) (pq rfl) rfl h3) <|
                forall_cons (e_equal (pq rfl) (pq rfl) rfl h4) <|
                forall_cons (e_minus hG (pq rfl) (pq rfl) rfl rfl) <|
                forall_cons (e_equal (pq rfl) (pq rfl) rfl h5) <|
                forall_cons (e_minus hG (pq rfl) (pq rfl) rfl rfl) <|
                forall_cons (e_equal (pq rfl) (pq rfl) rfl h6) <|
                forall_nil
              refine Calls.mono (run_mk hC hT 79 Tryz.f79 [sp 0 1, sp 2 3, sp 4 5, vp (.func (.func 31) #[] #[])] (.val (vp (.bool true))) 200 Tryz.func79 rfl rfl rfl (by kernel_rfl) [v1, v2, v3, .func (.func 31) #[] #[]] ⟨v1, _, rfl, (sp_is rfl rfl).2 ⟨q1, z1, z2⟩, v2, _, rfl, (sp_is rfl rfl).2 ⟨q2, z3, z4⟩, v3, _, rfl, (sp_is rfl rfl).2 ⟨q3, z5, z6⟩, _, _, rfl, vp_is.2 rfl, rfl⟩) ?_
              rintro e w' ⟨v, rfl, hv, hb⟩; obtain rfl := val_of hv; exact ⟨rfl, hb⟩
            | false =>
              exact (no4 h2 h4 h5 h6 hh).elim
      | false =>
        cases h4 : decide (((b) - (c)) = (rh)) with
        | true =>
          cases h5 : decide (((a) - (d)) = (rl)) with
          | true =>
            have hC : (mkC [4, 4, 4, 4, 4, 4, 4, 4, 4, 4] [true, true, true, true, true, true, true, true, true, true] [26, 66, 64, 104] 55 (cl_ended_minus_11 rl rh a b c d) w).Ok := mkC_ok (oks_cons (clQ_ok (by decide) _ _) <| oks_cons (clQ_ok (by decide) _ _) <| oks_cons (clQ_ok (by decide) _ _) <| oks_cons (clQ_ok (by decide) _ _) <| oks_cons (clQ_ok (by decide) _ _) <| oks_cons (clQ_ok (by decide) _ _) <| oks_cons (clQ_ok (by decide) _ _) <| oks_cons (clQ_ok (by decide) _ _) <| oks_cons (clQ_ok (by decide) _ _) <| oks_cons (clQ_ok (by decide) _ _) <| oks_nil) rfl rfl
            have hT : ∀ t ∈ t_ended_minus_11, t.Valid (mkC [4, 4, 4, 4, 4, 4, 4, 4, 4, 4] [true, true, true, true, true, true, true, true, true, true] [26, 66, 64, 104] 55 (cl_ended_minus_11 rl rh a b c d) w) :=
              forall_cons (e_minus hG (pq rfl) (pq rfl) rfl rfl) <|
              forall_cons (e_equal (pq rfl) (pq rfl) rfl h1) <|
              forall_cons (e_equal (pq rfl) (pq rfl) rfl h2) <|
              forall_cons (e_minus hG (pq rfl) (pq rfl) rfl rfl) <|
              forall_cons (e_equal (pq rfl) (pq rfl) rfl h3) <|
              forall_cons (e_equal (pq rfl) (pq rfl) rfl h4) <|
              forall_cons (e_minus hG (pq rfl) (pq rfl) rfl rfl) <|
              forall_cons (e_equal (pq rfl) (pq rfl) rfl h5) <|
              forall_cons (e_minus hG (pq rfl) (pq rfl) rfl rfl) <|
              forall_nil
            refine Calls.mono (run_mk hC hT 79 Tryz.f79 [sp 0 1, sp 2 3, sp 4 5, vp (.func (.func 31) #[] #[])] (.val (vp (.bool true))) 200 Tryz.func79 rfl rfl rfl (by kernel_rfl) [v1, v2, v3, .func (.func 31) #[] #[]] ⟨v1, _, rfl, (sp_is rfl rfl).2 ⟨q1, z1, z2⟩, v2, _, rfl, (sp_is rfl rfl).2 ⟨q2, z3, z4⟩, v3, _, rfl, (sp_is rfl rfl).2 ⟨q3, z5, z6⟩, _, _, rfl, vp_is.2 rfl, rfl⟩) ?_
            rintro e w' ⟨v, rfl, hv, hb⟩; obtain rfl := val_of hv; exact ⟨rfl, hb⟩
          | false =>
            cases h6 : decide (((b) - (d)) = (rl)) with
            | true =>
              have hC : (mkC [4, 4, 4, 4, 4, 4, 4, 4, 4, 4] [true, true, true, true, true, true, true, true, true, true] [26, 66, 64, 104] 55 (cl_ended_minus_12 rl rh a b c d) w).Ok := mkC_ok (oks_cons (clQ_ok (by decide) _ _) <| oks_cons (clQ_ok (by decide) _ _) <| oks_cons (clQ_ok (by decide) _ _) <| oks_cons (clQ_ok (by decide) _ _) <| oks_cons (clQ_ok (by decide) _ _) <| oks_cons (clQ_ok (by decide) _ _) <| oks_cons (clQ_ok (by decide) _ _) <| oks_cons (clQ_ok (by decide) _ _) <| oks_cons (clQ_ok (by decide) _ _) <| oks_cons (clQ_ok (by decide) _ _) <| oks_nil) rfl rfl
              have hT : ∀ t ∈ t_ended_minus_12, t.Valid (mkC [4, 4, 4, 4, 4, 4, 4, 4, 4, 4] [true, true, true, true, true, true, true, true, true, true] [26, 66, 64, 104] 55 (cl_ended_minus_12 rl rh a b c d) w) :=
                forall_cons (e_minus hG (pq rfl) (pq rfl) rfl rfl) <|
                forall_cons (e_equal (pq rfl) (pq rfl) rfl h1) <|
                forall_cons (e_equal (pq rfl) (pq rfl) rfl h2) <|
                forall_cons (e_minus hG (pq rfl) (pq rfl) rfl rfl) <|
                forall_cons (e_equal (pq rfl) (pq rfl) rfl h3) <|
                forall_cons (e_equal (pq rfl) (pq rfl) rfl h4) <|
                forall_cons (e_minus hG (pq rfl) (pq rfl) rfl rfl) <|
                forall_cons (e_equal (pq rfl) (pq rfl) rfl h5) <|
                forall_cons (e_minus hG (pq rfl) (pq rfl) rfl rfl) <|
                forall_cons (e_equal (pq rfl) (pq rfl) rfl h6) <|
                forall_nil
              refine Calls.mono (run_mk hC hT 79 Tryz.f79 [sp 0 1, sp 2 3, sp 4 5, vp (.func (.func 31) #[] #[])] (.val (vp (.bool true))) 200 Tryz.func79 rfl rfl rfl (by kernel_rfl) [v1, v2, v3, .func (.func 31) #[] #[]] ⟨v1, _, rfl, (sp_is rfl rfl).2 ⟨q1, z1, z2⟩, v2, _, rfl, (sp_is rfl rfl).2 ⟨q2, z3, z4⟩, v3, _, rfl, (sp_is rfl rfl).2 ⟨q3, z5, z6⟩, _, _, rfl, vp_is.2 rfl, rfl⟩) ?_
              rintro e w' ⟨v, rfl, hv, hb⟩; obtain rfl := val_of hv; exact ⟨rfl, hb⟩
            | false =>
              exact (no4 h1 h3 h5 h6 hl).elim
        | false =>
          cases h5 : decide (((a) - (d)) = (rl)) with
          | true =>
            cases h6 : decide (((a) - (d)) = (rh)) with
            | true =>
              have hC : (mkC [4, 4, 4, 4, 4, 4, 4, 4, 4, 4] [true, true, true, true, true, true, true, true, true, true] [26, 66, 64, 104] 55 (cl_ended_minus_13 rl rh a b c d) w).Ok := mkC_ok (oks_cons (clQ_ok (by decide) _ _) <| oks_cons (clQ_ok (by decide) _ _) <| oks_cons (clQ_ok (by decide) _ _) <| oks_cons (clQ_ok (by decide) _ _) <| oks_cons (clQ_ok (by decide) _ _) <| oks_cons (clQ_ok (by decide) _ _) <| oks_cons (clQ_ok (by decide) _ _) <| oks_cons (clQ_ok (by decide) _ _) <| oks_cons (clQ_ok (by decide) _ _) <| oks_cons (clQ_ok (by decide) _ _) <| oks_nil) rfl rfl
              have hT : ∀ t ∈ t_ended_minus_13, t.Valid (mkC [4, 4, 4, 4, 4, 4, 4, 4, 4, 4] [true, true, true, true, true, true, true, true, true, true] [26, 66, 64, 104] 55 (cl_ended_minus_13 rl rh a b c d) w) :=
                forall_cons (e_minus hG (pq rfl) (pq rfl) rfl rfl) <|
                forall_cons (e_equal (pq rfl) (pq rfl) rfl h1) <|
                forall_cons (e_equal (pq rfl) (pq rfl) rfl h2) <|
                forall_cons (e_minus hG (pq rfl) (pq rfl) rfl rfl) <|
                forall_cons (e_equal (pq rfl) (pq rfl) rfl h3) <|
                forall_cons (e_equal (pq rfl) (pq rfl) rfl h4) <|
                forall_cons (e_minus hG (pq rfl) (pq rfl) rfl rfl) <|
                forall_cons (e_equal (pq rfl) (pq rfl) rfl h5) <|
                forall_cons (e_equal (pq rfl) (pq rfl) rfl h6) <|
                forall_cons (e_minus hG (pq rfl) (pq rfl) rfl rfl) <|
                forall_nil
              refine Calls.mono (run_mk hC hT 79 Tryz.f79 [sp 0 1, sp 2 3, sp 4 5, vp (.func (.func 31) #[] #[])] (.val (vp (.bool true))) 200 Tryz.func79 rfl rfl rfl (by kernel_rfl) [v1, v2, v3, .func (.func 31) #[] #[]] ⟨v1, _, rfl, (sp_is rfl rfl).2 ⟨q1, z1, z2⟩, v2, _, rfl, (sp_is rfl rfl).2 ⟨q2, z3, z4⟩, v3, _, rfl, (sp_is rfl rfl).2 ⟨q3, z5, z6⟩, _, _, rfl, vp_is.2 rfl, rfl⟩) ?_
              rintro e w' ⟨v, rfl, hv, hb⟩; obtain rfl := val_of hv; exact ⟨rfl, hb⟩
            | false =>
              cases h7 : decide (((b) - (d)) = (rh)) with
              | true =>
                have hC : (mkC [4, 4, 4, 4, 4, 4, 4, 4, 4, 4] [true, true, true, true, true, true, true, true, true, true] [26, 66, 64, 104] 55 (cl_ended_minus_14 rl rh a b c d) w).Ok := mkC_ok (oks_cons (clQ_ok (by decide) _ _) <| oks_cons (clQ_ok (by decide) _ _) <| oks_cons (clQ_ok (by decide) _ _) <| oks_cons (clQ_ok (by decide) _ _) <| oks_cons (clQ_ok (by decide) _ _) <| oks_cons (clQ_ok (by decide) _ _) <| oks_cons (clQ_ok (by decide) _ _) <| oks_cons (clQ_ok (by decide) _ _) <| oks_cons (clQ_ok (by decide) _ _) <| oks_cons (clQ_ok (by decide) _ _) <| oks_nil) rfl rfl
                have hT : ∀ t ∈ t_ended_minus_14, t.Valid (mkC [4, 4, 4, 4, 4, 4, 4, 4, 4, 4] [true, true, true, true, true, true, true, true, true, true] [26, 66, 64, 104] 55 (cl_ended_minus_14 rl rh a b c d) w) :=
                  forall_cons (e_minus hG (pq rfl) (pq rfl) rfl rfl) <|
                  forall_cons (e_equal (pq rfl) (pq rfl) rfl h1) <|
                  forall_cons (e_equal (pq rfl) (pq rfl) rfl h2) <|
                  forall_cons (e_minus hG (pq rfl) (pq rfl) rfl rfl) <|
                  forall_cons (e_equal (pq rfl) (pq rfl) rfl h3) <|
                  forall_cons (e_equal (pq rfl) (pq rfl) rfl h4) <|
                  forall_cons (e_minus hG (pq rfl) (pq rfl) rfl rfl) <|
                  forall_cons (e_equal (pq rfl) (pq rfl) rfl h5) <|
                  forall_cons (e_equal (pq rfl) (pq rfl) rfl h6) <|
                  forall_cons (e_minus hG (pq rfl) (pq rfl) rfl rfl) <|
                  forall_cons (e_equal (pq rfl) (pq rfl) rfl h7) <|
                  forall_nil
                refine Calls.mono (run_mk hC hT 79 Tryz.f79 [sp 0 1, sp 2 3, sp 4 5, vp (.func (.func 31) #[] #[])] (.val (vp (.bool true))) 200 Tryz.func79 rfl rfl rfl (by kernel_rfl) [v1, v2, v3, .func (.func 31) #[] #[]] ⟨v1, _, rfl, (sp_is rfl rfl).2 ⟨q1, z1, z2⟩, v2, _, rfl, (sp_is rfl rfl).2 ⟨q2, z3, z4⟩, v3, _, rfl, (sp_is rfl rfl).2 ⟨q3, z5, z6⟩, _, _, rfl, vp_is.2 rfl, rfl⟩) ?_
                rintro e w' ⟨v, rfl, hv, hb⟩; obtain rfl := val_of hv; exact ⟨rfl, hb⟩
              | false =>
                exact (no4 h2 h4 h6 h7 hh).elim
          | false =>
            cases h6 : decide (((a) - (d)) = (rh)) with
            | true =>
              cases h7 : decide (((b) - (d)) = (rl)) with
              | true =>
                have hC : (mkC [4, 4, 4, 4, 4, 4, 4, 4, 4, 4] [true, true, true, true, true, true, true, true, true, true] [26, 66, 64, 104] 55 (cl_ended_minus_15 rl rh a b c d) w).Ok := mkC_ok (oks_cons (clQ_ok (by decide) _ _) <| oks_cons (clQ_ok (by decide) _ _) <| oks_cons (clQ_ok (by decide) _ _) <| oks_cons (clQ_ok (by decide) _ _) <| oks_cons (clQ_ok (by decide) _ _) <| oks_cons (clQ_ok (by decide) _ _) <| oks_cons (clQ_ok (by decide) _ _) <| oks_cons (clQ_ok (by decide) _ _) <| oks_cons (clQ_ok (by decide) _ _) <| oks_cons (clQ_ok (by decide) _ _) <| oks_nil) rfl rfl
                have hT : ∀ t ∈ t_ended_minus_15, t.Valid (mkC [4, 4, 4, 4, 4, 4, 4, 4, 4, 4] [true, true, true, true, true, true, true, true, true, true] [26, 66, 64, 104] 55 (cl_ended_minus_15 rl rh a b c d) w) :=
                  forall_cons (e_minus hG (pq rfl) (pq rfl) rfl rfl) <|
                  forall_cons (e_equal (pq rfl) (pq rfl) rfl h1) <|
                  forall_cons (e_equal (pq rfl) (pq rfl) rfl h2) <|
                  forall_cons (e_minus hG (pq rfl) (pq rfl) rfl rfl) <|
                  forall_cons (e_equal (pq rfl) (pq rfl) rfl h3) <|
                  forall_cons (e_equal (pq rfl) (pq rfl) rfl h4) <|
                  forall_cons (e_minus hG (pq rfl) (pq rfl) rfl rfl) <|
                  forall_cons (e_equal (pq rfl) (pq rfl) rfl h5) <|
                  forall_cons (e_equal (pq rfl) (pq rfl) rfl h6) <|
                  forall_cons (e_minus hG (pq rfl) (pq rfl) rfl rfl) <|
                  forall_cons (e_equal (pq rfl) (pq rfl) rfl h7) <|
                  forall_nil
                refine Calls.mono (run_mk hC hT 79 Tryz.f79 [sp 0 1, sp 2 3, sp 4 5, vp (.func (.func 31) #[] #[])] (.val (vp (.bool true))) 200 Tryz.func79 rfl rfl rfl (by kernel_rfl) [v1, v2, v3, .func (.func 31) #[] #[]] ⟨v1, _, rfl, (sp_is rfl rfl).2 ⟨q1, z1, z2⟩, v2, _, rfl, (sp_is rfl rfl).2 ⟨q2, z3, z4⟩, v3, _, rfl, (sp_is rfl rfl).2 ⟨q3, z5, z6⟩, _, _, rfl, vp_is.2 rfl, rfl⟩) ?_
                rintro e w' ⟨v, rfl, hv, hb⟩; obtain rfl := val_of hv; exact ⟨rfl, hb⟩
              | false =>
                exact (no4 h1 h3 h5 h7 hl).elim
            | false =>
              cases h7 : decide (((b) - (d)) = (rl)) with
              | true =>
                cases h8 : decide (((b) - (d)) = (rh)) with
                | true =>
                  have hC : (mkC [4, 4, 4, 4, 4, 4, 4, 4, 4, 4] [true, true, true, true, true, true, true, true, true, true] [26, 66, 64, 104] 55 (cl_ended_minus_16 rl rh a b c d) w).Ok := mkC_ok (oks_cons (clQ_ok (by decide) _ _) <| oks_cons (clQ_ok (by decide) _ _) <| oks_cons (clQ_ok (by decide) _ _) <| oks_cons (clQ_ok (by decide) _ _) <| oks_cons (clQ_ok (by decide) _ _) <| oks_cons (clQ_ok (by decide) _ _) <| oks_cons (clQ_ok (by decide) _ _) <| oks_cons (clQ_ok (by decide) _ _) <| oks_cons (clQ_ok (by decide) _ _) <| oks_cons (clQ_ok (by decide) _ _) <| oks_nil) rfl rfl
                  have hT : ∀ t ∈ t_ended_minus_16, t.Valid (mkC [4, 4, 4, 4, 4, 4, 4, 4, 4, 4] [true, true, true, true, true, true, true, true, true, true] [26, 66, 64, 104] 55 (cl_ended_minus_16 rl rh a b c d) w) :=
                    forall_cons (e_minus hG (pq rfl) (pq rfl) rfl rfl) <|
                    forall_cons (e_equal (pq rfl) (pq rfl) rfl h1) <|
                    forall_cons (e_equal (pq rfl) (pq rfl) rfl h2) <|
                    forall_cons (e_minus hG (pq rfl) (pq rfl) rfl rfl) <|
                    forall_cons (e_equal (pq rfl) (pq rfl) rfl h3) <|
                    forall_cons (e_equal (pq rfl) (pq rfl) rfl h4) <|
                    forall_cons (e_minus hG (pq rfl) (pq rfl) rfl rfl) <|
                    forall_cons (e_equal (pq rfl) (pq rfl) rfl h5) <|
                    forall_cons (e_equal (pq rfl) (pq rfl) rfl h6) <|
                    forall_cons (e_minus hG (pq rfl) (pq rfl) rfl rfl) <|
                    forall_cons (e_equal (pq rfl) (pq rfl) rfl h7) <|
                    forall_cons (e_equal (pq rfl) (pq rfl) rfl h8) <|
                    forall_nil
                  refine Calls.mono (run_mk hC hT 79 Tryz.f79 [sp 0 1, sp 2 3, sp 4 5, vp (.func (.func 31) #[] #[])] (.val (vp (.bool true))) 200 Tryz.func79 rfl rfl rfl (by kernel_rfl) [v1, v2, v3, .func (.func 31) #[] #[]] ⟨v1, _, rfl, (sp_is rfl rfl).2 ⟨q1, z1, z2⟩, v2, _, rfl, (sp_is rfl rfl).2 ⟨q2, z3, z4⟩, v3, _, rfl, (sp_is rfl rfl).2 ⟨q3, z5, z6⟩, _, _, rfl, vp_is.2 rfl, rfl⟩) ?_
                  rintro e w' ⟨v, rfl, hv, hb⟩; obtain rfl := val_of hv; exact ⟨rfl, hb⟩
                | false =>
                  exact (no4 h2 h4 h6 h8 hh).elim
              | false =>
                cases h8 : decide (((b) - (d)) = (rh)) with
                | true =>
                  exact (no4 h1 h3 h5 h7 hl).elim
                | false =>
                  exact (no4 h1 h3 h5 h7 hl).elim

noncomputable def cl_ended_times_1 (rl : Rat) (rh : Rat) (a : Rat) (b : Rat) (c : Rat) (d : Rat) : List Cl := [
  clQ (rl) 100000,
  clQ (rh) 100000,
  clQ (a) 100000,
  clQ (b) 100000,
  clQ (c) 100000,
  clQ (d) 100000,
  clQ ((a) * (c)) 200000,
  clQ ((b) * (c)) 200000,
  clQ ((a) * (d)) 200000,
  clQ ((b) * (d)) 200000]

def t_ended_times_1 : List Ent := [
  ⟨.call 33, [qp 2, qp 4], (.val (qp 6))⟩,
  ⟨.call 77, [qp 6, qp 0], (.val (vp (.bool true)))⟩,
  ⟨.call 77, [qp 6, qp 1], (.val (vp (.bool true)))⟩,
  ⟨.call 33, [qp 3, qp 4], (.val (qp 7))⟩,
  ⟨.call 33, [qp 2, qp 5], (.val (qp 8))⟩,
  ⟨.call 33, [qp 3, qp 5], (.val (qp 9))⟩]

noncomputable def cl_ended_times_2 (rl : Rat) (rh : Rat) (a : Rat) (b : Rat) (c : Rat) (d : Rat) : List Cl := [
  clQ (rl) 100000,
  clQ (rh) 100000,
  clQ (a) 100000,
  clQ (b) 100000,
  clQ (c) 100000,
  clQ (d) 100000,
  clQ ((a) * (c)) 200000,
  clQ ((b) * (c)) 200000,
  clQ ((a) * (d)) 200000,
  clQ ((b) * (d)) 200000]

def t_ended_times_2 : List Ent := [
  ⟨.call 33, [qp 2, qp 4], (.val (qp 6))⟩,
  ⟨.call 77, [qp 6, qp 0], (.val (vp (.bool true)))⟩,
  ⟨.call 77, [qp 6, qp 1], (.val (vp (.bool false)))⟩,
  ⟨.call 33, [qp 3, qp 4], (.val (qp 7))⟩,
  ⟨.call 77, [qp 7, qp 1], (.val (vp (.bool true)))⟩,
  ⟨.call 33, [qp 2, qp 5], (.val (qp 8))⟩,
  ⟨.call 33, [qp 3, qp 5], (.val (qp 9))⟩]

noncomputable def cl_ended_times_3 (rl : Rat) (rh : Rat) (a : Rat) (b : Rat) (c : Rat) (d : Rat) : List Cl := [
  clQ (rl) 100000,
  clQ (rh) 100000,
  clQ (a) 100000,
  clQ (b) 100000,
  clQ (c) 100000,
  clQ (d) 100000,
  clQ ((a) * (c)) 200000,
  clQ ((b) * (c)) 200000,
  clQ ((a) * (d)) 200000,
  clQ ((b) * (d)) 200000]

def t_ended_times_3 : List Ent := [
  ⟨.call 33, [qp 2, qp 4], (.val (qp 6))⟩,
  ⟨.call 77, [qp 6, qp 0], (.val (vp (.bool true)))⟩,
  ⟨.call 77, [qp 6, qp 1], (.val (vp (.bool false)))⟩,
  ⟨.call 33, [qp 3, qp 4], (.val (qp 7))⟩,
  ⟨.call 77, [qp 7, qp 1], (.val (vp (.bool false)))⟩,
  ⟨.call 33, [qp 2, qp 5], (.val (qp 8))⟩,
  ⟨.call 77, [qp 8, qp 1], (.val (vp (.bool true)))⟩,
  ⟨.call 33, [qp 3, qp 5], (.val (qp 9))⟩]

noncomputable def cl_ended_times_4 (rl : Rat) (rh : Rat) (a : Rat) (b : Rat) (c : Rat) (d : Rat) : List Cl := [
  clQ (rl) 100000,
  clQ (rh) 100000,
  clQ (a) 100000,
  clQ (b) 100000,
  clQ (c) 100000,
  clQ (d) 100000,
  clQ ((a) * (c)) 200000,
  clQ ((b) * (c)) 200000,
  clQ ((a) * (d)) 200000,
  clQ ((b) * (d)) 200000]

def t_ended_times_4 : List Ent := [
  ⟨.call 33, [qp 2, qp 4], (.val (qp 6))⟩,
  ⟨.call 77, [qp 6, qp 0], (.val (vp (.bool true)))⟩,
  ⟨.call 77, [qp 6, qp 1], (.val (vp (.bool false)))⟩,
  ⟨.call 33, [qp 3, qp 4], (.val (qp 7))⟩,
  ⟨.call 77, [qp 7, qp 1], (.val (vp (.bool false)))⟩,
  ⟨.call 33, [qp 2, qp 5], (.val (qp 8))⟩,
  ⟨.call 77, [qp 8, qp 1], (.val (vp (.bool false)))⟩,
  ⟨.call 33, [qp 3, qp 5], (.val (qp 9))⟩,
  ⟨.call 77, [qp 9, qp 1], (.val (vp (.bool true)))⟩]

noncomputable def cl_ended_times_5 (rl : Rat) (rh : Rat) (a : Rat) (b : Rat) (c : Rat) (d : Rat) : List Cl := [
  clQ (rl) 100000,
  clQ (rh) 100000,
  clQ (a) 100000,
  clQ (b) 100000,
  clQ (c) 100000,
  clQ (d) 100000,
  clQ ((a) * (c)) 200000,
  clQ ((b) * (c)) 200000,
  clQ ((a) * (d)) 200000,
  clQ ((b) * (d)) 200000]

def t_ended_times_5 : List Ent := [
  ⟨.call 33, [qp 2, qp 4], (.val (qp 6))⟩,
  ⟨.call 77, [qp 6, qp 0], (.val (vp (.bool false)))⟩,
  ⟨.call 77, [qp 6, qp 1], (.val (vp (.bool true)))⟩,
  ⟨.call 33, [qp 3, qp 4], (.val (qp 7))⟩,
  ⟨.call 77, [qp 7, qp 0], (.val (vp (.bool true)))⟩,
  ⟨.call 33, [qp 2, qp 5], (.val (qp 8))⟩,
  ⟨.call 33, [qp 3, qp 5], (.val (qp 9))⟩]

noncomputable def cl_ended_times_6 (rl : Rat) (rh : Rat) (a : Rat) (b : Rat) (c : Rat) (d : Rat) : List Cl := [
  clQ (rl) 100000,
  clQ (rh) 100000,
  clQ (a) 100000,
  clQ (b) 100000,
  clQ (c) 100000,
  clQ (d) 100000,
  clQ ((a) * (c)) 200000,
  clQ ((b) * (c)) 200000,
  clQ ((a) * (d)) 200000,
  clQ ((b) * (d)) 200000]

def t_ended_times_6 : List Ent := [
  ⟨.call 33, [qp 2, qp 4], (.val (qp 6))⟩,
  ⟨.call 77, [qp 6, qp 0], (.val (vp (.bool false)))⟩,
  ⟨.call 77, [qp 6, qp 1], (.val (vp (.bool true)))⟩,
  ⟨.call 33, [qp 3, qp 4], (.val (qp 7))⟩,
  ⟨.call 77, [qp 7, qp 0], (.val (vp (.bool false)))⟩,
  ⟨.call 33, [qp 2, qp 5], (.val (qp 8))⟩,
  ⟨.call 77, [qp 8, qp 0], (.val (vp (.bool true)))⟩,
  ⟨.call 33, [qp 3, qp 5], (.val (qp 9))⟩]

noncomputable def cl_ended_times_7 (rl : Rat) (rh : Rat) (a : Rat) (b : Rat) (c : Rat) (d : Rat) : List Cl := [
  clQ (rl) 100000,
  clQ (rh) 100000,
  clQ (a) 100000,
  clQ (b) 100000,
  clQ (c) 100000,
  clQ (d) 100000,
  clQ ((a) * (c)) 200000,
  clQ ((b) * (c)) 200000,
  clQ ((a) * (d)) 200000,
  clQ ((b) * (d)) 200000]

def t_ended_times_7 : List Ent := [
  ⟨.call 33, [qp 2, qp 4], (.val (qp 6))⟩,
  ⟨.call 77, [qp 6, qp 0], (.val (vp (.bool false)))⟩,
  ⟨.call 77, [qp 6, qp 1], (.val (vp (.bool true)))⟩,
  ⟨.call 33, [qp 3, qp 4], (.val (qp 7))⟩,
  ⟨.call 77, [qp 7, qp 0], (.val (vp (.bool false)))⟩,
  ⟨.call 33, [qp 2, qp 5], (.val (qp 8))⟩,
  ⟨.call 77, [qp 8, qp 0], (.val (vp (.bool false)))⟩,
  ⟨.call 33, [qp 3, qp 5], (.val (qp 9))⟩,
  ⟨.call 77, [qp 9, qp 0], (.val (vp (.bool true)))⟩]

noncomputable def cl_ended_times_8 (rl : Rat) (rh : Rat) (a : Rat) (b : Rat) (c : Rat) (d : Rat) : List Cl := [
  clQ (rl) 100000,
  clQ (rh) 100000,
  clQ (a) 100000,
  clQ (b) 100000,
  clQ (c) 100000,
  clQ (d) 100000,
  clQ ((a) * (c)) 200000,
  clQ ((b) * (c)) 200000,
  clQ ((a) * (d)) 200000,
  clQ ((b) * (d)) 200000]

def t_ended_times_8 : List Ent := [
  ⟨.call 33, [qp 2, qp 4], (.val (qp 6))⟩,
  ⟨.call 77, [qp 6, qp 0], (.val (vp (.bool false)))⟩,
  ⟨.call 77, [qp 6, qp 1], (.val (vp (.bool false)))⟩,
  ⟨.call 33, [qp 3, qp 4], (.val (qp 7))⟩,
  ⟨.call 77, [qp 7, qp 0], (.val (vp (.bool true)))⟩,
  ⟨.call 77, [qp 7, qp 1], (.val (vp (.bool true)))⟩,
  ⟨.call 33, [qp 2, qp 5], (.val (qp 8))⟩,
  ⟨.call 33, [qp 3, qp 5], (.val (qp 9))⟩]

noncomputable def cl_ended_times_9 (rl : Rat) (rh : Rat) (a : Rat) (b : Rat) (c : Rat) (d : Rat) : List Cl := [
  clQ (rl) 100000,
  clQ (rh) 100000,
  clQ (a) 100000,
  clQ (b) 100000,
  clQ (c) 100000,
  clQ (d) 100000,
  clQ ((a) * (c)) 200000,
  clQ ((b) * (c)) 200000,
  clQ ((a) * (d)) 200000,
  clQ ((b) * (d)) 200000]

def t_ended_times_9 : List Ent := [
  ⟨.call 33, [qp 2, qp 4], (.val (qp 6))⟩,
  ⟨.call 77, [qp 6, qp 0], (.val (vp (.bool false)))⟩,
  ⟨.call 77, [qp 6, qp 1], (.val (vp (.bool false)))⟩,
  ⟨.call 33, [qp 3, qp 4], (.val (qp 7))⟩,
  ⟨.call 77, [qp 7, qp 0], (.val (vp (.bool true)))⟩,
  ⟨.call 77, [qp 7, qp 1], (.val (vp (.bool false)))⟩,
  ⟨.call 33, [qp 2, qp 5], (.val (qp 8))⟩,
  ⟨.call 77, [qp 8, qp 1], (.val (vp (.bool true)))⟩,
  ⟨.call 33, [qp 3, qp 5], (.val (qp 9))⟩]

noncomputable def cl_ended_times_10 (rl : Rat) (rh : Rat) (a : Rat) (b : Rat) (c : Rat) (d : Rat) : List Cl := [
  clQ (rl) 100000,
  clQ (rh) 100000,
  clQ (a) 100000,
  clQ (b) 100000,
  clQ (c) 100000,
  clQ (d) 100000,
  clQ ((a) * (c)) 200000,
  clQ ((b) * (c)) 200000,
  clQ ((a) * (d)) 200000,
  clQ ((b) * (d)) 200000]

def t_ended_times_10 : List Ent := [
  ⟨.call 33, [qp 2, qp 4], (.val (qp 6))⟩,
  ⟨.call 77, [qp 6, qp 0], (.val (vp (.bool false)))⟩,
  ⟨.call 77, [qp 6, qp 1], (.val (vp (.bool false)))⟩,
  ⟨.call 33, [qp 3, qp 4], (.val (qp 7))⟩,
  ⟨.call 77, [qp 7, qp 0], (.val (vp (.bool true)))⟩,
  ⟨.call 77, [qp 7, qp 1], (.val (vp (.bool false)))⟩,
  ⟨.call 33, [qp 2, qp 5], (.val (qp 8))⟩,
  ⟨.call 77, [qp 8, qp 1], (.val (vp (.bool false)))⟩,
  ⟨.call 33, [qp 3, qp 5], (.val (qp 9))⟩,
  ⟨.call 77, [qp 9, qp 1], (.val (vp (.bool true)))⟩]

noncomputable def cl_ended_times_11 (rl : Rat) (rh : Rat) (a : Rat) (b : Rat) (c : Rat) (d : Rat) : List Cl := [
  clQ (rl) 100000,
  clQ (rh) 100000,
  clQ (a) 100000,
  clQ (b) 100000,
  clQ (c) 100000,
  clQ (d) 100000,
  clQ ((a) * (c)) 200000,
  clQ ((b) * (c)) 200000,
  clQ ((a) * (d)) 200000,
  clQ ((b) * (d)) 200000]

def t_ended_times_11 : List Ent := [
  ⟨.call 33, [qp 2, qp 4], (.val (qp 6))⟩,
  ⟨.call 77, [qp 6, qp 0], (.val (vp (.bool false)))⟩,
  ⟨.call 77, [qp 6, qp 1], (.val (vp (.bool false)))⟩,
  ⟨.call 33, [qp 3, qp 4], (.val (qp 7))⟩,
  ⟨.call 77, [qp 7, qp 0], (.val (vp (.bool false)))⟩,
  ⟨.call 77, [qp 7, qp 1], (.val (vp (.bool true)))⟩,
  ⟨.call 33, [qp 2, qp 5], (.val (qp 8))⟩,
  ⟨.call 77, [qp 8, qp 0], (.val (vp (.bool true)))⟩,
  ⟨.call 33, [qp 3, qp 5], (.val (qp 9))⟩]

noncomputable def cl_ended_times_12 (rl : Rat) (rh : Rat) (a : Rat) (b : Rat) (c : Rat) (d : Rat) : List Cl := [
  clQ (rl) 100000,
  clQ (rh) 100000,
  clQ (a) 100000,
  clQ (b) 100000,
  clQ (c) 100000,
  clQ (d) 100000,
  clQ ((a) * (c)) 200000,
  clQ ((b) * (c)) 200000,
  clQ ((a) * (d)) 200000,
  clQ ((b) * (d)) 200000]

def t_ended_times_12 : List Ent := [
  ⟨.call 33, [qp 2, qp 4], (.val (qp 6))⟩,
  ⟨.call 77, [qp 6, qp 0], (.val (vp (.bool false)))⟩,
  ⟨.call 77, [qp 6, qp 1], (.val (vp (.bool false)))⟩,
  ⟨.call 33, [qp 3, qp 4], (.val (qp 7))⟩,
  ⟨.call 77, [qp 7, qp 0], (.val (vp (.bool false)))⟩,
  ⟨.call 77, [qp 7, qp 1], (.val (vp (.bool true)))⟩,
  ⟨.call 33, [qp 2, qp 5], (.val (qp 8))⟩,
  ⟨.call 77, [qp 8, qp 0], (.val (vp (.bool false)))⟩,
  ⟨.call 33, [qp 3, qp 5], (.val (qp 9))⟩,
  ⟨.call 77, [qp 9, qp 0], (.val (vp (.bool true)))⟩]

noncomputable def cl_ended_times_13 (rl : Rat) (rh : Rat) (a : Rat) (b : Rat) (c : Rat) (d : Rat) : List Cl := [
  clQ (rl) 100000,
  clQ (rh) 100000,
  clQ (a) 100000,
  clQ (b) 100000,
  clQ (c) 100000,
  clQ (d) 100000,
  clQ ((a) * (c)) 200000,
  clQ ((b) * (c)) 200000,
  clQ ((a) * (d)) 200000,
  clQ ((b) * (d)) 200000]

def t_ended_times_13 : List Ent := [
  ⟨.call 33, [qp 2, qp 4], (.val (qp 6))⟩,
  ⟨.call 77, [qp 6, qp 0], (.val (vp (.bool false)))⟩,
  ⟨.call 77, [qp 6, qp 1], (.val (vp (.bool false)))⟩,
  ⟨.call 33, [qp 3, qp 4], (.val (qp 7))⟩,
  ⟨.call 77, [qp 7, qp 0], (.val (vp (.bool false)))⟩,
  ⟨.call 77, [qp 7, qp 1], (.val (vp (.bool false)))⟩,
  ⟨.call 33, [qp 2, qp 5], (.val (qp 8))⟩,
  ⟨.call 77, [qp 8, qp 0], (.val (vp (.bool true)))⟩,
  ⟨.call 77, [qp 8, qp 1], (.val (vp (.bool true)))⟩,
  ⟨.call 33, [qp 3, qp 5], (.val (qp 9))⟩]

noncomputable def cl_ended_times_14 (rl : Rat) (rh : Rat) (a : Rat) (b : Rat) (c : Rat) (d : Rat) : List Cl := [
  clQ (rl) 100000,
  clQ (rh) 100000,
  clQ (a) 100000,
  clQ (b) 100000,
  clQ (c) 100000,
  clQ (d) 100000,
  clQ ((a) * (c)) 200000,
  clQ ((b) * (c)) 200000,
  clQ ((a) * (d)) 200000,
  clQ ((b) * (d)) 200000]

def t_ended_times_14 : List Ent := [
  ⟨.call 33, [qp 2, qp 4], (.val (qp 6))⟩,
  ⟨.call 77, [qp 6, qp 0], (.val (vp (.bool false)))⟩,
  ⟨.call 77, [qp 6, qp 1], (.val (vp (.bool false)))⟩,
  ⟨.call 33, [qp 3, qp 4], (.val (qp 7))⟩,
  ⟨.call 77, [qp 7, qp 0], (.val (vp (.bool false)))⟩,
  ⟨.call 77, [qp 7, qp 1], (.val (vp (.bool false)))⟩,
  ⟨.call 33, [qp 2, qp 5], (.val (qp 8))⟩,
  ⟨.call 77, [qp 8, qp 0], (.val (vp (.bool true)))⟩,
  ⟨.call 77, [qp 8, qp 1], (.val (vp (.bool false)))⟩,
  ⟨.call 33, [qp 3, qp 5], (.val (qp 9))⟩,
  ⟨.call 77, [qp 9, qp 1], (.val (vp (.bool true)))⟩]

noncomputable def cl_ended_times_15 (rl : Rat) (rh : Rat) (a : Rat) (b : Rat) (c : Rat) (d : Rat) : List Cl := [
  clQ (rl) 100000,
  clQ (rh) 100000,
  clQ (a) 100000,
  clQ (b) 100000,
  clQ (c) 100000,
  clQ (d) 100000,
  clQ ((a) * (c)) 200000,
  clQ ((b) * (c)) 200000,
  clQ ((a) * (d)) 200000,
  clQ ((b) * (d)) 200000]

def t_ended_times_15 : List Ent := [
  ⟨.call 33, [qp 2, qp 4], (.val (qp 6))⟩,
  ⟨.call 77, [qp 6, qp 0], (.val (vp (.bool false)))⟩,
  ⟨.call 77, [qp 6, qp 1], (.val (vp (.bool false)))⟩,
  ⟨.call 33, [qp 3, qp 4], (.val (qp 7))⟩,
  ⟨.call 77, [qp 7, qp 0], (.val (vp (.bool false)))⟩,
  ⟨.call 77, [qp 7, qp 1], (.val (vp (.bool false)))⟩,
  ⟨.call 33, [qp 2, qp 5], (.val (qp 8))⟩,
  ⟨.call 77, [qp 8, qp 0], (.val (vp (.bool false)))⟩,
  ⟨.call 77, [qp 8, qp 1], (.val (vp (.bool true)))⟩,
  ⟨.call 33, [qp 3, qp 5], (.val (qp 9))⟩,
  ⟨.call 77, [qp 9, qp 0], (.val (vp (.bool true)))⟩]

noncomputable def cl_ended_times_16 (rl : Rat) (rh : Rat) (a : Rat) (b : Rat) (c : Rat) (d : Rat) : List Cl := [
  clQ (rl) 100000,
  clQ (rh) 100000,
  clQ (a) 100000,
  clQ (b) 100000,
  clQ (c) 100000,
  clQ (d) 100000,
  clQ ((a) * (c)) 200000,
  clQ ((b) * (c)) 200000,
  clQ ((a) * (d)) 200000,
  clQ ((b) * (d)) 200000]

def t_ended_times_16 : List Ent := [
  ⟨.call 33, [qp 2, qp 4], (.val (qp 6))⟩,
  ⟨.call 77, [qp 6, qp 0], (.val (vp (.bool false)))⟩,
  ⟨.call 77, [qp 6, qp 1], (.val (vp (.bool false)))⟩,
  ⟨.call 33, [qp 3, qp 4], (.val (qp 7))⟩,
  ⟨.call 77, [qp 7, qp 0], (.val (vp (.bool false)))⟩,
  ⟨.call 77, [qp 7, qp 1], (.val (vp (.bool false)))⟩,
  ⟨.call 33, [qp 2, qp 5], (.val (qp 8))⟩,
  ⟨.call 77, [qp 8, qp 0], (.val (vp (.bool false)))⟩,
  ⟨.call 77, [qp 8, qp 1], (.val (vp (.bool false)))⟩,
  ⟨.call 33, [qp 3, qp 5], (.val (qp 9))⟩,
  ⟨.call 77, [qp 9, qp 0], (.val (vp (.bool true)))⟩,
  ⟨.call 77, [qp 9, qp 1], (.val (vp (.bool true)))⟩]

set_option maxRecDepth 100000 in
theorem ended_times (v1 v2 v3 : Value) (rl rh a b c d : Rat) (w : World) (hG : Gr w) (q1 : IsS w v1 rl rh) (q2 : IsS w v2 a b) (q3 : IsS w v3 c d) (z1 : Siz rl 100000) (z2 : Siz rh 100000) (z3 : Siz a 100000) (z4 : Siz b 100000) (z5 : Siz c 100000) (z6 : Siz d 100000) (hl : rl = (a) * (c) ∨ rl = (b) * (c) ∨ rl = (a) * (d) ∨ rl = (b) * (d)) (hh : rh = (a) * (c) ∨ rh = (b) * (c) ∨ rh = (a) * (d) ∨ rh = (b) * (d)) :
    Calls Tryz.prog 79 #[v1, v2, v3, .func (.func 33) #[] #[]] w (Go.Proofs.YtnolcmoecodeaaaGreatDoor.Val w (.bool true)) := by
  cases h1 : decide (((a) * (c)) = (rl)) with
  | true =>
    cases h2 : decide (((a) * (c)) = (rh)) with
    | true =>
      have hC : (mkC [4, 4, 4, 4, 4, 4, 4, 4, 4, 4] [true, true, true, true, true, true, true, true, true, true] [26, 66, 64, 104] 55 (cl_ended_times_1 rl rh a b c d) w).Ok := mkC_ok (oks_cons (clQ_ok (by decide) _ _) <| oks_cons (clQ_ok (by decide) _ _) <| oks_cons (clQ_ok (by decide) _ _) <| oks_cons (clQ_ok (by decide) _ _) <| oks_cons (clQ_ok (by decide) _ _) <| oks_cons (clQ_ok (by decide) _ _) <| oks_cons (clQ_ok (by decide) _ _) <| oks_cons (clQ_ok (by decide) _ _) <| oks_cons (clQ_ok (by decide) _ _) <| oks_cons (clQ_ok (by decide) _ _) <| oks_nil) rfl rfl
      have hT : ∀ t ∈ t_ended_times_1, t.Valid (mkC [4, 4, 4, 4, 4, 4, 4, 4, 4, 4] [true, true, true, true, true, true, true, true, true, true] [26, 66, 64, 104] 55 (cl_ended_times_1 rl rh a b c d) w) :=
        forall_cons (e_times hG (pq rfl) (pq rfl) rfl rfl) <|
        forall_cons (e_equal (pq rfl) (pq rfl) rfl h1) <|
        forall_cons (e_equal (pq rfl) (pq rfl) rfl h2) <|
        forall_cons (e_times hG (pq rfl) (pq rfl) rfl rfl) <|
        forall_cons (e_times hG (pq rfl) (pq rfl) rfl rfl) <|
        forall_cons (e_times hG (pq rfl) (pq rfl) rfl rfl) <|
        forall_nil
      refine Calls.mono (run_mk hC hT 79 Tryz.f79 [sp 0 1, sp 2 3, sp 4 5, vp (.func (.func 33) #[] #[])] (.val (vp (.bool true))) 200 Tryz.func79 rfl rfl rfl (by kernel_rfl) [v1, v2, v3, .func (.func 33) #[] #[]] ⟨v1, _, rfl, (sp_is rfl rfl).2 ⟨q1, z1, z2⟩, v2, _, rfl, (sp_is rfl rfl).2 ⟨q2, z3, z4⟩, v3, _, rfl, (sp_is rfl rfl).2 ⟨q3, z5, z6⟩, _, _, rfl, vp_is.2 rfl, rfl⟩) ?_
      rintro e w' ⟨v, rfl, hv, hb⟩; obtain rfl := val_of hv; exact ⟨rfl, hb⟩
    | false =>
      cases h3 : decide (((b) * (c)) = (rh)) with
      | true =>
        have hC : (mkC [4, 4, 4, 4, 4, 4, 4, 4, 4, 4] [true, true, true, true, true, true, true, true, true, true] [26, 66, 64, 104] 55 (cl_ended_times_2 rl rh a b c d) w).Ok := mkC_ok (oks_cons (clQ_ok (by decide) _ _) <| oks_cons (clQ_ok (by decide) _ _) <| oks_cons (clQ_ok (by decide) _ _) <| oks_cons (clQ_ok (by decide) _ _) <| oks_cons (clQ_ok (by decide) _ _) <| oks_cons (clQ_ok (by decide) _ _) <| oks_cons (clQ_ok (by decide) _ _) <| oks_cons (clQ_ok (by decide) _ _) <| oks_cons (clQ_ok (by decide) _ _) <| oks_cons (clQ_ok (by decide) _ _) <| oks_nil) rfl rfl
        have hT : ∀ t ∈ t_ended_times_2, t.Valid (mkC [4, 4, 4, 4, 4, 4, 4, 4, 4, 4] [true, true, true, true, true, true, true, true, true, true] [26, 66, 64, 104] 55 (cl_ended_times_2 rl rh a b c d) w) :=
          forall_cons (e_times hG (pq rfl) (pq rfl) rfl rfl) <|
          forall_cons (e_equal (pq rfl) (pq rfl) rfl h1) <|
          forall_cons (e_equal (pq rfl) (pq rfl) rfl h2) <|
          forall_cons (e_times hG (pq rfl) (pq rfl) rfl rfl) <|
          forall_cons (e_equal (pq rfl) (pq rfl) rfl h3) <|
          forall_cons (e_times hG (pq rfl) (pq rfl) rfl rfl) <|
          forall_cons (e_times hG (pq rfl) (pq rfl) rfl rfl) <|
          forall_nil
        refine Calls.mono (run_mk hC hT 79 Tryz.f79 [sp 0 1, sp 2 3, sp 4 5, vp (.func (.func 33) #[] #[])] (.val (vp (.bool true))) 200 Tryz.func79 rfl rfl rfl (by kernel_rfl) [v1, v2, v3, .func (.func 33) #[] #[]] ⟨v1, _, rfl, (sp_is rfl rfl).2 ⟨q1, z1, z2⟩, v2, _, rfl, (sp_is rfl rfl).2 ⟨q2, z3, z4⟩, v3, _, rfl, (sp_is rfl rfl).2 ⟨q3, z5, z6⟩, _, _, rfl, vp_is.2 rfl, rfl⟩) ?_
        rintro e w' ⟨v, rfl, hv, hb⟩; obtain rfl := val_of hv; exact ⟨rfl, hb⟩
      | false =>
        cases h4 : decide (((a) * (d)) = (rh)) with
        | true =>
          have hC : (mkC [4, 4, 4, 4, 4, 4, 4, 4, 4, 4] [true, true, true, true, true, true, true, true, true, true] [26, 66, 64, 104] 55 (cl_ended_times_3 rl rh a b c d) w).Ok := mkC_ok (oks_cons (clQ_ok (by decide) _ _) <| oks_cons (clQ_ok (by decide) _ _) <| oks_cons (clQ_ok (by decide) _ _) <| oks_cons (clQ_ok (by decide) _ _) <| oks_cons (clQ_ok (by decide) _ _) <| oks_cons (clQ_ok (by decide) _ _) <| oks_cons (clQ_ok (by decide) _ _) <| oks_cons (clQ_ok (by decide) _ _) <| oks_cons (clQ_ok (by decide) _ _) <| oks_cons (clQ_ok (by decide) _ _) <| oks_nil) rfl rfl
          have hT : ∀ t ∈ t_ended_times_3, t.Valid (mkC [4, 4, 4, 4, 4, 4, 4, 4, 4, 4] [true, true, true, true, true, true, true, true, true, true] [26, 66, 64, 104] 55 (cl_ended_times_3 rl rh a b c d) w) :=
            forall_cons (e_times hG (pq rfl) (pq rfl) rfl rfl) <|
            forall_cons (e_equal (pq rfl) (pq rfl) rfl h1) <|
            forall_cons (e_equal (pq rfl) (pq rfl) rfl h2) <|
            forall_cons (e_times hG (pq rfl) (pq rfl) rfl rfl) <|
            forall_cons (e_equal (pq rfl) (pq rfl) rfl h3) <|
            forall_cons (e_times hG (pq rfl) (pq rfl) rfl rfl) <|
            forall_cons (e_equal (pq rfl) (pq rfl) rfl h4) <|
            forall_cons (e_times hG (pq rfl) (pq rfl) rfl rfl) <|
            forall_nil
          refine Calls.mono (run_mk hC hT 79 Tryz.f79 [sp 0 1, sp 2 3, sp 4 5, vp (.func (.func 33) #[] #[])] (.val (vp (.bool true))) 200 Tryz.func79 rfl rfl rfl (by kernel_rfl) [v1, v2, v3, .func (.func 33) #[] #[]] ⟨v1, _, rfl, (sp_is rfl rfl).2 ⟨q1, z1, z2⟩, v2, _, rfl, (sp_is rfl rfl).2 ⟨q2, z3, z4⟩, v3, _, rfl, (sp_is rfl rfl).2 ⟨q3, z5, z6⟩, _, _, rfl, vp_is.2 rfl, rfl⟩) ?_
          rintro e w' ⟨v, rfl, hv, hb⟩; obtain rfl := val_of hv; exact ⟨rfl, hb⟩
        | false =>
          cases h5 : decide (((b) * (d)) = (rh)) with
          | true =>
            have hC : (mkC [4, 4, 4, 4, 4, 4, 4, 4, 4, 4] [true, true, true, true, true, true, true, true, true, true] [26, 66, 64, 104] 55 (cl_ended_times_4 rl rh a b c d) w).Ok := mkC_ok (oks_cons (clQ_ok (by decide) _ _) <| oks_cons (clQ_ok (by decide) _ _) <| oks_cons (clQ_ok (by decide) _ _) <| oks_cons (clQ_ok (by decide) _ _) <| oks_cons (clQ_ok (by decide) _ _) <| oks_cons (clQ_ok (by decide) _ _) <| oks_cons (clQ_ok (by decide) _ _) <| oks_cons (clQ_ok (by decide) _ _) <| oks_cons (clQ_ok (by decide) _ _) <| oks_cons (clQ_ok (by decide) _ _) <| oks_nil) rfl rfl
            have hT : ∀ t ∈ t_ended_times_4, t.Valid (mkC [4, 4, 4, 4, 4, 4, 4, 4, 4, 4] [true, true, true, true, true, true, true, true, true, true] [26, 66, 64, 104] 55 (cl_ended_times_4 rl rh a b c d) w) :=
              forall_cons (e_times hG (pq rfl) (pq rfl) rfl rfl) <|
              forall_cons (e_equal (pq rfl) (pq rfl) rfl h1) <|
              forall_cons (e_equal (pq rfl) (pq rfl) rfl h2) <|
              forall_cons (e_times hG (pq rfl) (pq rfl) rfl rfl) <|
              forall_cons (e_equal (pq rfl) (pq rfl) rfl h3) <|
              forall_cons (e_times hG (pq rfl) (pq rfl) rfl rfl) <|
              forall_cons (e_equal (pq rfl) (pq rfl) rfl h4) <|
              forall_cons (e_times hG (pq rfl) (pq rfl) rfl rfl) <|
              forall_cons (e_equal (pq rfl) (pq rfl) rfl h5) <|
              forall_nil
            refine Calls.mono (run_mk hC hT 79 Tryz.f79 [sp 0 1, sp 2 3, sp 4 5, vp (.func (.func 33) #[] #[])] (.val (vp (.bool true))) 200 Tryz.func79 rfl rfl rfl (by kernel_rfl) [v1, v2, v3, .func (.func 33) #[] #[]] ⟨v1, _, rfl, (sp_is rfl rfl).2 ⟨q1, z1, z2⟩, v2, _, rfl, (sp_is rfl rfl).2 ⟨q2, z3, z4⟩, v3, _, rfl, (sp_is rfl rfl).2 ⟨q3, z5, z6⟩, _, _, rfl, vp_is.2 rfl, rfl⟩) ?_
            rintro e w' ⟨v, rfl, hv, hb⟩; obtain rfl := val_of hv; exact ⟨rfl, hb⟩
          | false =>
            exact (no4 h2 h3 h4 h5 hh).elim
  | false =>
    cases h2 : decide (((a) * (c)) = (rh)) with
    | true =>
      cases h3 : decide (((b) * (c)) = (rl)) with
      | true =>
        have hC : (mkC [4, 4, 4, 4, 4, 4, 4, 4, 4, 4] [true, true, true, true, true, true, true, true, true, true] [26, 66, 64, 104] 55 (cl_ended_times_5 rl rh a b c d) w).Ok := mkC_ok (oks_cons (clQ_ok (by decide) _ _) <| oks_cons (clQ_ok (by decide) _ _) <| oks_cons (clQ_ok (by decide) _ _) <| oks_cons (clQ_ok (by decide) _ _) <| oks_cons (clQ_ok (by decide) _ _) <| oks_cons (clQ_ok (by decide) _ _) <| oks_cons (clQ_ok (by decide) _ _) <| oks_cons (clQ_ok (by decide) _ _) <| oks_cons (clQ_ok (by decide) _ _) <| oks_cons (clQ_ok (by decide) _ _) <| oks_nil) rfl rfl
        have hT : ∀ t ∈ t_ended_times_5, t.Valid (mkC [4, 4, 4, 4, 4, 4, 4, 4, 4, 4] [true, true, true, true, true, true, true, true, true, true] [26, 66, 64, 104] 55 (cl_ended_times_5 rl rh a b c d) w) :=
          forall_cons (e_times hG (pq rfl) (pq rfl) rfl rfl) <|
          forall_cons (e_equal (pq rfl) (pq rfl) rfl h1) <|
          forall_cons (e_equal (pq rfl) (pq rfl) rfl h2) <|
          forall_cons (e_times hG (pq rfl) (pq rfl) rfl rfl) <|
          forall_cons (e_equal (pq rfl) (pq rfl) rfl h3) <|
          forall_cons (e_times hG (pq rfl) (pq rfl) rfl rfl) <|
          forall_cons (e_times hG (pq rfl) (pq rfl) rfl rfl) <|
          forall_nil
        refine Calls.mono (run_mk hC hT 79 Tryz.f79 [sp 0 1, sp 2 3, sp 4 5, vp (.func (.func 33) #[] #[])] (.val (vp (.bool true))) 200 Tryz.func79 rfl rfl rfl (by kernel_rfl) [v1, v2, v3, .func (.func 33) #[] #[]] ⟨v1, _, rfl, (sp_is rfl rfl).2 ⟨q1, z1, z2⟩, v2, _, rfl, (sp_is rfl rfl).2 ⟨q2, z3, z4⟩, v3, _, rfl, (sp_is rfl rfl).2 ⟨q3, z5, z6⟩, _, _, rfl, vp_is.2 rfl, rfl⟩) ?_
        rintro e w' ⟨v, rfl, hv, hb⟩; obtain rfl := val_of hv; exact ⟨rfl, hb⟩
      | false =>
        cases h4 : decide (((a) * (d)) = (rl)) with
        | true =>
          have hC : (mkC [4, 4, 4, 4, 4, 4, 4, 4, 4, 4] [true, true, true, true, true, true, true, true, true, true] [26, 66, 64, 104] 55 (cl_ended_times_6 rl rh a b c d) w).Ok := mkC_ok (oks_cons (clQ_ok (by decide) _ _) <| oks_cons (clQ_ok (by decide) _ _) <| oks_cons (clQ_ok (by decide) _ _) <| oks_cons (clQ_ok (by decide) _ _) <| oks_cons (clQ_ok (by decide) _ _) <| oks_cons (clQ_ok (by decide) _ _) <| oks_cons (clQ_ok (by decide) _ _) <| oks_cons (clQ_ok (by decide) _ _) <| oks_cons (clQ_ok (by decide) _ _) <| oks_cons (clQ_ok (by decide) _ _) <| oks_nil) rfl rfl
          have hT : ∀ t ∈ t_ended_times_6, t.Valid (mkC [4, 4, 4, 4, 4, 4, 4, 4, 4, 4] [true, true, true, true, true, true, true, true, true, true] [26, 66, 64, 104] 55 (cl_ended_times_6 rl rh a b c d) w) :=
            forall_cons (e_times hG (pq rfl) (pq rfl) rfl rfl) <|
            forall_cons (e_equal (pq rfl) (pq rfl) rfl h1) <|
            forall_cons (e_equal (pq rfl) (pq rfl) rfl h2) <|
            forall_cons (e_times hG (pq rfl) (pq rfl) rfl rfl) <|
            forall_cons (e_equal (pq rfl) (pq rfl) rfl h3) <|
            forall_cons (e_times hG (pq rfl) (pq rfl) rfl rfl) <|
            forall_cons (e_equal (pq rfl) (pq rfl) rfl h4) <|
            forall_cons (e_times hG (pq rfl) (pq rfl) rfl rfl) <|
            forall_nil
          refine Calls.mono (run_mk hC hT 79 Tryz.f79 [sp 0 1, sp 2 3, sp 4 5, vp (.func (.func 33) #[] #[])] (.val (vp (.bool true))) 200 Tryz.func79 rfl rfl rfl (by kernel_rfl) [v1, v2, v3, .func (.func 33) #[] #[]] ⟨v1, _, rfl, (sp_is rfl rfl).2 ⟨q1, z1, z2⟩, v2, _, rfl, (sp_is rfl rfl).2 ⟨q2, z3, z4⟩, v3, _, rfl, (sp_is rfl rfl).2 ⟨q3, z5, z6⟩, _, _, rfl, vp_is.2 rfl, rfl⟩) ?_
          rintro e w' ⟨v, rfl, hv, hb⟩; obtain rfl := val_of hv; exact ⟨rfl, hb⟩
        | false =>
          cases h5 : decide (((b) * (d)) = (rl)) with
          | true =>
            have hC : (mkC [4, 4, 4, 4, 4, 4, 4, 4, 4, 4] [true, true, true, true, true, true, true, true, true, true] [26, 66, 64, 104] 55 (cl_ended_times_7 rl rh a b c d) w).Ok := mkC_ok (oks_cons (clQ_ok (by decide) _ _) <| oks_cons (clQ_ok (by decide) _ _) <| oks_cons (clQ_ok (by decide) _ _) <| oks_cons (clQ_ok (by decide) _ _) <| oks_cons (clQ_ok (by decide) _ _) <| oks_cons (clQ_ok (by decide) _ _) <| oks_cons (clQ_ok (by decide) _ _) <| oks_cons (clQ_ok (by decide) _ _) <| oks_cons (clQ_ok (by decide) _ _) <| oks_cons (clQ_ok (by decide) _ _) <| oks_nil) rfl rfl
            have hT : ∀ t ∈ t_ended_times_7, t.Valid (mkC [4, 4, 4, 4, 4, 4, 4, 4, 4, 4] [true, true, true, true, true, true, true, true, true, true] [26, 66, 64, 104] 55 (cl_ended_times_7 rl rh a b c d) w) :=
              forall_cons (e_times hG (pq rfl) (pq rfl) rfl rfl) <|
              forall_cons (e_equal (pq rfl) (pq rfl) rfl h1) <|
              forall_cons (e_equal (pq rfl) (pq rfl) rfl h2) <|
              forall_cons (e_times hG (pq rfl) (pq rfl) rfl rfl) <|
              forall_cons (e_equal (pq rfl) (pq rfl) rfl h3) <|
              forall_cons (e_times hG (pq rfl) (pq rfl) rfl rfl) <|
              forall_cons (e_equal (pq rfl) (pq rfl) rfl h4) <|
              forall_cons (e_times hG (pq rfl) (pq rfl) rfl rfl) <|
              forall_cons (e_equal (pq rfl) (pq rfl) rfl h5) <|
              forall_nil
            refine Calls.mono (run_mk hC hT 79 Tryz.f79 [sp 0 1, sp 2 3, sp 4 5, vp (.func (.func 33) #[] #[])] (.val (vp (.bool true))) 200 Tryz.func79 rfl rfl rfl (by kernel_rfl) [v1, v2, v3, .func (.func 33) #[] #[]] ⟨v1, _, rfl, (sp_is rfl rfl).2 ⟨q1, z1, z2⟩, v2, _, rfl, (sp_is rfl rfl).2 ⟨q2, z3, z4⟩, v3, _, rfl, (sp_is rfl rfl).2 ⟨q3, z5, z6⟩, _, _, rfl, vp_is.2 rfl, rfl⟩) ?_
            rintro e w' ⟨v, rfl, hv, hb⟩; obtain rfl := val_of hv; exact ⟨rfl, hb⟩
          | false =>
            exact (no4 h1 h3 h4 h5 hl).elim
    | false =>
      cases h3 : decide (((b) * (c)) = (rl)) with
      | true =>
        cases h4 : decide (((b) * (c)) = (rh)) with
        | true =>
          have hC : (mkC [4, 4, 4, 4, 4, 4, 4, 4, 4, 4] [true, true, true, true, true, true, true, true, true, true] [26, 66, 64, 104] 55 (cl_ended_times_8 rl rh a b c d) w).Ok := mkC_ok (oks_cons (clQ_ok (by decide) _ _) <| oks_cons (clQ_ok (by decide) _ _) <| oks_cons (clQ_ok (by decide) _ _) <| oks_cons (clQ_ok (by decide) _ _) <| oks_cons (clQ_ok (by decide) _ _) <| oks_cons (clQ_ok (by decide) _ _) <| oks_cons (clQ_ok (by decide) _ _) <| oks_cons (clQ_ok (by decide) _ _) <| oks_cons (clQ_ok (by decide) _ _) <| oks_cons (clQ_ok (by decide) _ _) <| oks_nil) rfl rfl
          have hT : ∀ t ∈ t_ended_times_8, t.Valid (mkC [4, 4, 4, 4, 4, 4, 4, 4, 4, 4] [true, true, true, true, true, true, true, true, true, true] [26, 66, 64, 104] 55 (cl_ended_times_8 rl rh a b c d) w) :=
            forall_cons (e_times hG (pq rfl) (pq rfl) rfl rfl) <|
            forall_cons (e_equal (pq rfl) (pq rfl) rfl h1) <|
            forall_cons (e_equal (pq rfl) (pq rfl) rfl h2) <|
            forall_cons (e_times hG (pq rfl) (pq rfl) rfl rfl) <|
            forall_cons (e_equal (pq rfl) (pq rfl) rfl h3) <|
            forall_cons (e_equal (pq rfl) (pq rfl) rfl h4) <|
            forall_cons (e_times hG (pq rfl) (pq rfl) rfl rfl) <|
            forall_cons (e_times hG (pq rfl) (pq rfl) rfl rfl) <|
            forall_nil
          refine Calls.mono (run_mk hC hT 79 Tryz.f79 [sp 0 1, sp 2 3, sp 4 5, vp (.func (.func 33) #[] #[])] (.val (vp (.bool true))) 200 Tryz.func79 rfl rfl rfl (by kernel_rfl) [v1, v2, v3, .func (.func 33) #[] #[]] ⟨v1, _, rfl, (sp_is rfl rfl).2 ⟨q1, z1, z2⟩, v2, _, rfl, (sp_is rfl rfl).2 ⟨q2, z3, z4⟩, v3, _, rfl, (sp_is rfl rfl).2 ⟨q3, z5, z6⟩, _, _, rfl, vp_is.2 rfl, rfl⟩) ?_
          rintro e w' ⟨v, rfl, hv, hb⟩; obtain rfl := val_of hv; exact ⟨rfl, hb⟩
        | false =>
          cases h5 : decide (((a) * (d)) = (rh)) with
          | true =>
            have hC : (mkC [4, 4, 4, 4, 4, 4, 4, 4, 4, 4] [true, true, true, true, true, true, true, true, true, true] [26, 66, 64, 104] 55 (cl_ended_times_9 rl rh a b c d) w).Ok := mkC_ok (oks_cons (clQ_ok (by decide) _ _) <| oks_cons (clQ_ok (by decide) _ _) <| oks_cons (clQ_ok (by decide) _ _) <| oks_cons (clQ_ok (by decide) _ _) <| oks_cons (clQ_ok (by decide) _ _) <| oks_cons (clQ_ok (by decide) _ _) <| oks_cons (clQ_ok (by decide) _ _) <| oks_cons (clQ_ok (by decide) _ _) <| oks_cons (clQ_ok (by decide) _ _) <| oks_cons (clQ_ok (by decide) _ _) <| oks_nil) rfl rfl
            have hT : ∀ t ∈ t_ended_times_9, t.Valid (mkC [4, 4, 4, 4, 4, 4, 4, 4, 4, 4] [true, true, true, true, true, true, true, true, true, true] [26, 66, 64, 104] 55 (cl_ended_times_9 rl rh a b c d) w) :=
              forall_cons (e_times hG (pq rfl) (pq rfl) rfl rfl) <|
              forall_cons (e_equal (pq rfl) (pq rfl) rfl h1) <|
              forall_cons (e_equal (pq rfl) (pq rfl) rfl h2) <|
              forall_cons (e_times hG (pq rfl) (pq rfl) rfl rfl) <|
              forall_cons (e_equal (pq rfl) (pq rfl) rfl h3) <|
              forall_cons (e_equal (pq rfl) (pq rfl) rfl h4) <|
              forall_cons (e_times hG (pq rfl) (pq rfl) rfl rfl) <|
              forall_cons (e_equal (pq rfl) (pq rfl) rfl h5) <|
              forall_cons (e_times hG (pq rfl) (pq rfl) rfl rfl) <|
              forall_nil
            refine Calls.mono (run_mk hC hT 79 Tryz.f79 [sp 0 1, sp 2 3, sp 4 5, vp (.func (.func 33) #[] #[])] (.val (vp (.bool true))) 200 Tryz.func79 rfl rfl rfl (by kernel_rfl) [v1, v2, v3, .func (.func 33) #[] #[]] ⟨v1, _, rfl, (sp_is rfl rfl).2 ⟨q1, z1, z2⟩, v2, _, rfl, (sp_is rfl rfl).2 ⟨q2, z3, z4⟩, v3, _, rfl, (sp_is rfl rfl).2 ⟨q3, z5, z6⟩, _, _, rfl, vp_is.2 rfl, rfl⟩) ?_
            rintro e w' ⟨v, rfl, hv, hb⟩; obtain rfl := val_of hv; exact ⟨rfl, hb⟩
          | false =>
            cases h6 : decide (((b) * (d)) = (rh)) with
            | true =>
              have hC : (mkC [4, 4, 4, 4, 4, 4, 4, 4, 4, 4] [true, true, true, true, true, true, true, true, true, true] [26, 66, 64, 104] 55 (cl_ended_times_10 rl rh a b c d) w).Ok := mkC_ok (oks_cons (clQ_ok (by decide) _ _) <| oks_cons (clQ_ok (by decide) _ _) <| oks_cons (clQ_ok (by decide) _ _) <| oks_cons (clQ_ok (by decide) _ _) <| oks_cons (clQ_ok (by decide) _ _) <| oks_cons (clQ_ok (by decide) _ _) <| oks_cons (clQ_ok (by decide) _ _) <| oks_cons (clQ_ok (by decide) _ _) <| oks_cons (clQ_ok (by decide) _ _) <| oks_cons (clQ_ok (by decide) _ _) <| oks_nil) rfl rfl
              have hT : ∀ t ∈ t_ended_times_10, t.Valid (mkC [4, 4, 4, 4, 4, 4, 4, 4, 4, 4] [true, true, true, true, true, true, true, true, true, true] [26, 66, 64, 104] 55 (cl_ended_times_10 rl rh a b c d) w) :=
                forall_cons (e_times hG (pq rfl) (pq rfl) rfl rfl) <|
                forall_cons (e_equal (pq rfl) (pq rfl) rfl h1) <|
                forall_cons (e_equal (pq rfl) (pq rfl) rfl h2) <|
                forall_cons (e_times hG (pq rfl) (pq rfl) rfl rfl) <|
                forall_cons (e_equal (pq rfl) (pq rfl) rfl h3) <|
                forall_cons (e_equal (pq rfl) (pq rfl) rfl h4) <|
                forall_cons (e_times hG (pq rfl) (pq rfl) rfl rfl) <|
                forall_cons (e_equal (pq rfl) (pq rfl) rfl h5) <|
                forall_cons (e_times hG (pq rfl) (pq rfl) rfl rfl) <|
                forall_cons (e_equal (pq rfl) (pq rfl) rfl h6) <|
                forall_nil
              refine Calls.mono (run_mk hC hT 79 Tryz.f79 [sp 0 1, sp 2 3, sp 4 5, vp (.func (.func 33) #[] #[])] (.val (vp (.bool true))) 200 Tryz.func79 rfl rfl rfl (by kernel_rfl) [v1, v2, v3, .func (.func 33) #[] #[]] ⟨v1, _, rfl, (sp_is rfl rfl).2 ⟨q1, z1, z2⟩, v2, _, rfl, (sp_is rfl rfl).2 ⟨q2, z3, z4⟩, v3, _, rfl, (sp_is rfl rfl).2 ⟨q3, z5, z6⟩, _, _, rfl, vp_is.2 rfl, rfl⟩) ?_
              rintro e w' ⟨v, rfl, hv, hb⟩; obtain rfl := val_of hv; exact ⟨rfl, hb⟩
            | false =>
              exact (no4 h2 h4 h5 h6 hh).elim
      | false =>
        cases h4 : decide (((b) * (c)) = (rh)) with
        | true =>
          cases h5 : decide (((a) * (d)) = (rl)) with
          | true =>
            have hC : (mkC [4, 4, 4, 4, 4, 4, 4, 4, 4, 4] [true, true, true, true, true, true, true, true, true, true] [26, 66, 64, 104] 55 (cl_ended_times_11 rl rh a b c d) w).Ok := mkC_ok (oks_cons (clQ_ok (by decide) _ _) <| oks_cons (clQ_ok (by decide) _ _) <| oks_cons (clQ_ok (by decide) _ _) <| oks_cons (clQ_ok (by decide) _ _) <| oks_cons (clQ_ok (by decide) _ _) <| oks_cons (clQ_ok (by decide) _ _) <| oks_cons (clQ_ok (by decide) _ _) <| oks_cons (clQ_ok (by decide) _ _) <| oks_cons (clQ_ok (by decide) _ _) <| oks_cons (clQ_ok (by decide) _ _) <| oks_nil) rfl rfl
            have hT : ∀ t ∈ t_ended_times_11, t.Valid (mkC [4, 4, 4, 4, 4, 4, 4, 4, 4, 4] [true, true, true, true, true, true, true, true, true, true] [26, 66, 64, 104] 55 (cl_ended_times_11 rl rh a b c d) w) :=
              forall_cons (e_times hG (pq rfl) (pq rfl) rfl rfl) <|
              forall_cons (e_equal (pq rfl) (pq rfl) rfl h1) <|
              forall_cons (e_equal (pq rfl) (pq rfl) rfl h2) <|
              forall_cons (e_times hG (pq rfl) (pq rfl) rfl rfl) <|
              forall_cons (e_equal (pq rfl) (pq rfl) rfl h3) <|
              forall_cons (e_equal (pq rfl) (pq rfl) rfl h4) <|
              forall_cons (e_times hG (pq rfl) (pq rfl) rfl rfl) <|
              forall_cons (e_equal (pq rfl) (pq rfl) rfl h5) <|
              forall_cons (e_times hG (pq rfl) (pq rfl) rfl rfl) <|
              forall_nil
            refine Calls.mono (run_mk hC hT 79 Tryz.f79 [sp 0 1, sp 2 3, sp 4 5, vp (.func (.func 33) #[] #[])] (.val (vp (.bool true))) 200 Tryz.func79 rfl rfl rfl (by kernel_rfl) [v1, v2, v3, .func (.func 33) #[] #[]] ⟨v1, _, rfl, (sp_is rfl rfl).2 ⟨q1, z1, z2⟩, v2, _, rfl, (sp_is rfl rfl).2 ⟨q2, z3, z4⟩, v3, _, rfl, (sp_is rfl rfl).2 ⟨q3, z5, z6⟩, _, _, rfl, vp_is.2 rfl, rfl⟩) ?_
            rintro e w' ⟨v, rfl, hv, hb⟩; obtain rfl := val_of hv; exact ⟨rfl, hb⟩
          | false =>
            cases h6 : decide (((b) * (d)) = (rl)) with
            | true =>
              have hC : (mkC [4, 4, 4, 4, 4, 4, 4, 4, 4, 4] [true, true, true, true, true, true, true, true, true, true] [26, 66, 64, 104] 55 (cl_ended_times_12 rl rh a b c d) w).Ok := mkC_ok (oks_cons (clQ_ok (by decide) _ _) <| oks_cons (clQ_ok (by decide) _ _) <| oks_cons (clQ_ok (by decide) _ _) <| oks_cons (clQ_ok (by decide) _ _) <| oks_cons (clQ_ok (by decide) _ _) <| oks_cons (clQ_ok (by decide) _ _) <| oks_cons (clQ_ok (by decide) _ _) <| oks_cons (clQ_ok (by decide) _ _) <| oks_cons (clQ_ok (by decide) _ _) <| oks_cons (clQ_ok (by decide) _ _) <| oks_nil) rfl rfl
              have hT : ∀ t ∈ t_ended_times_12, t.Valid (mkC [4, 4, 4, 4, 4, 4, 4, 4, 4, 4] [true, true, true, true, true, true, true, true, true, true] [26, 66, 64, 104] 55 (cl_ended_times_12 rl rh a b c d) w) :=
                forall_cons (e_times hG (pq rfl) (pq rfl) rfl rfl) <|
                forall_cons (e_equal (pq rfl) (pq rfl) rfl h1) <|
                forall_cons (e_equal (pq rfl) (pq rfl) rfl h2) <|
                forall_cons (e_times hG (pq rfl) (pq rfl) rfl rfl) <|
                forall_cons (e_equal (pq rfl) (pq rfl) rfl h3) <|
                forall_cons (e_equal (pq rfl) (pq rfl) rfl h4) <|
                forall_cons (e_times hG (pq rfl) (pq rfl) rfl rfl) <|
                forall_cons (e_equal (pq rfl) (pq rfl) rfl h5) <|
                forall_cons (e_times hG (pq rfl) (pq rfl) rfl rfl) <|
                forall_cons (e_equal (pq rfl) (pq rfl) rfl h6) <|
                forall_nil
              refine Calls.mono (run_mk hC hT 79 Tryz.f79 [sp 0 1, sp 2 3, sp 4 5, vp (.func (.func 33) #[] #[])] (.val (vp (.bool true))) 200 Tryz.func79 rfl rfl rfl (by kernel_rfl) [v1, v2, v3, .func (.func 33) #[] #[]] ⟨v1, _, rfl, (sp_is rfl rfl).2 ⟨q1, z1, z2⟩, v2, _, rfl, (sp_is rfl rfl).2 ⟨q2, z3, z4⟩, v3, _, rfl, (sp_is rfl rfl).2 ⟨q3, z5, z6⟩, _, _, rfl, vp_is.2 rfl, rfl⟩) ?_
              rintro e w' ⟨v, rfl, hv, hb⟩; obtain rfl := val_of hv; exact ⟨rfl, hb⟩
            | false =>
              exact (no4 h1 h3 h5 h6 hl).elim
        | false =>
          cases h5 : decide (((a) * (d)) = (rl)) with
          | true =>
            cases h6 : decide (((a) * (d)) = (rh)) with
            | true =>
              have hC : (mkC [4, 4, 4, 4, 4, 4, 4, 4, 4, 4] [true, true, true, true, true, true, true, true, true, true] [26, 66, 64, 104] 55 (cl_ended_times_13 rl rh a b c d) w).Ok := mkC_ok (oks_cons (clQ_ok (by decide) _ _) <| oks_cons (clQ_ok (by decide) _ _) <| oks_cons (clQ_ok (by decide) _ _) <| oks_cons (clQ_ok (by decide) _ _) <| oks_cons (clQ_ok (by decide) _ _) <| oks_cons (clQ_ok (by decide) _ _) <| oks_cons (clQ_ok (by decide) _ _) <| oks_cons (clQ_ok (by decide) _ _) <| oks_cons (clQ_ok (by decide) _ _) <| oks_cons (clQ_ok (by decide) _ _) <| oks_nil) rfl rfl
              have hT : ∀ t ∈ t_ended_times_13, t.Valid (mkC [4, 4, 4, 4, 4, 4, 4, 4, 4, 4] [true, true, true, true, true, true, true, true, true, true] [26, 66, 64, 104] 55 (cl_ended_times_13 rl rh a b c d) w) :=
                forall_cons (e_times hG (pq rfl) (pq rfl) rfl rfl) <|
                forall_cons (e_equal (pq rfl) (pq rfl) rfl h1) <|
                forall_cons (e_equal (pq rfl) (pq rfl) rfl h2) <|
                forall_cons (e_times hG (pq rfl) (pq rfl) rfl rfl) <|
                forall_cons (e_equal (pq rfl) (pq rfl) rfl h3) <|
                forall_cons (e_equal (pq rfl) (pq rfl) rfl h4) <|
                forall_cons (e_times hG (pq rfl) (pq rfl) rfl rfl) <|
                forall_cons (e_equal (pq rfl) (pq rfl) rfl h5) <|
                forall_cons (e_equal (pq rfl) (pq rfl) rfl h6) <|
                forall_cons (e_times hG (pq rfl) (pq rfl) rfl rfl) <|
                forall_nil
              refine Calls.mono (run_mk hC hT 79 Tryz.f79 [sp 0 1, sp 2 3, sp 4 5, vp (.func (.func 33) #[] #[])] (.val (vp (.bool true))) 200 Tryz.func79 rfl rfl rfl (by kernel_rfl) [v1, v2, v3, .func (.func 33) #[] #[]] ⟨v1, _, rfl, (sp_is rfl rfl).2 ⟨q1, z1, z2⟩, v2, _, rfl, (sp_is rfl rfl).2 ⟨q2, z3, z4⟩, v3, _, rfl, (sp_is rfl rfl).2 ⟨q3, z5, z6⟩, _, _, rfl, vp_is.2 rfl, rfl⟩) ?_
              rintro e w' ⟨v, rfl, hv, hb⟩; obtain rfl := val_of hv; exact ⟨rfl, hb⟩
            | false =>
              cases h7 : decide (((b) * (d)) = (rh)) with
              | true =>
                have hC : (mkC [4, 4, 4, 4, 4, 4, 4, 4, 4, 4] [true, true, true, true, true, true, true, true, true, true] [26, 66, 64, 104] 55 (cl_ended_times_14 rl rh a b c d) w).Ok := mkC_ok (oks_cons (clQ_ok (by decide) _ _) <| oks_cons (clQ_ok (by decide) _ _) <| oks_cons (clQ_ok (by decide) _ _) <| oks_cons (clQ_ok (by decide) _ _) <| oks_cons (clQ_ok (by decide) _ _) <| oks_cons (clQ_ok (by decide) _ _) <| oks_cons (clQ_ok (by decide) _ _) <| oks_cons (clQ_ok (by decide) _ _) <| oks_cons (clQ_ok (by decide) _ _) <| oks_cons (clQ_ok (by decide) _ _) <| oks_nil) rfl rfl
                have hT : ∀ t ∈ t_ended_times_14, t.Valid (mkC [4, 4, 4, 4, 4, 4, 4, 4, 4, 4] [true, true, true, true, true, true, true, true, true, true] [26, 66, 64, 104] 55 (cl_ended_times_14 rl rh a b c d) w) :=
                  forall_cons (e_times hG (pq rfl) (pq rfl) rfl rfl) <|
                  forall_cons (e_equal (pq rfl) (pq rfl) rfl h1) <|
                  forall_cons (e_equal (pq rfl) (pq rfl) rfl h2) <|
                  forall_cons (e_times hG (pq rfl) (pq rfl) rfl rfl) <|
                  forall_cons (e_equal (pq rfl) (pq rfl) rfl h3) <|
                  forall_cons (e_equal (pq rfl) (pq rfl) rfl h4) <|
                  forall_cons (e_times hG (pq rfl) (pq rfl) rfl rfl) <|
                  forall_cons (e_equal (pq rfl) (pq rfl) rfl h5) <|
                  forall_cons (e_equal (pq rfl) (pq rfl) rfl h6) <|
                  forall_cons (e_times hG (pq rfl) (pq rfl) rfl rfl) <|
                  forall_cons (e_equal (pq rfl) (pq rfl) rfl h7) <|
                  forall_nil
                refine Calls.mono (run_mk hC hT 79 Tryz.f79 [sp 0 1, sp 2 3, sp 4 5, vp (.func (.func 33) #[] #[])] (.val (vp (.bool true))) 200 Tryz.func79 rfl rfl rfl (by kernel_rfl) [v1, v2, v3, .func (.func 33) #[] #[]] ⟨v1, _, rfl, (sp_is rfl rfl).2 ⟨q1, z1, z2⟩, v2, _, rfl, (sp_is rfl rfl).2 ⟨q2, z3, z4⟩, v3, _, rfl, (sp_is rfl rfl).2 ⟨q3, z5, z6⟩, _, _, rfl, vp_is.2 rfl, rfl⟩) ?_
                rintro e w' ⟨v, rfl, hv, hb⟩; obtain rfl := val_of hv; exact ⟨rfl, hb⟩
              | false =>
                exact (no4 h2 h4 h6 h7 hh).elim
          | false =>
            cases h6 : decide (((a) * (d)) = (rh)) with
            | true =>
              cases h7 : decide (((b) * (d)) = (rl)) with
              | true =>
                have hC : (mkC [4, 4, 4, 4, 4, 4, 4, 4, 4, 4] [true, true, true, true, true, true, true, true, true, true] [26, 66, 64, 104] 55 (cl_ended_times_15 rl rh a b c d) w).Ok := mkC_ok (oks_cons (clQ_ok (by decide) _ _) <| oks_cons (clQ_ok (by decide) _ _) <| oks_cons (clQ_ok (by decide) _ _) <| oks_cons (clQ_ok (by decide) _ _) <| oks_cons (clQ_ok (by decide) _ _) <| oks_cons (clQ_ok (by decide) _ _) <| oks_cons (clQ_ok (by decide) _ _) <| oks_cons (clQ_ok (by decide) _ _) <| oks_cons (clQ_ok (by decide) _ _) <| oks_cons (clQ_ok (by decide) _ _) <| oks_nil) rfl rfl
                have hT : ∀ t ∈ t_ended_times_15, t.Valid (mkC [4, 4, 4, 4, 4, 4, 4, 4, 4, 4] [true, true, true, true, true, true, true, true, true, true] [26, 66, 64, 104] 55 (cl_ended_times_15 rl rh a b c d) w) :=
                  forall_cons (e_times hG (pq rfl) (pq rfl) rfl rfl) <|
                  forall_cons (e_equal (pq rfl) (pq rfl) rfl h1) <|
                  forall_cons (e_equal (pq rfl) (pq rfl) rfl h2) <|
                  forall_cons (e_times hG (pq rfl) (pq rfl) rfl rfl) <|
                  forall_cons (e_equal (pq rfl) (pq rfl) rfl h3) <|
                  forall_cons (e_equal (pq rfl) (pq rfl) rfl h4) <|
                  forall_cons (e_times hG (pq rfl) (pq rfl) rfl rfl) <|
                  forall_cons (e_equal (pq rfl) (pq rfl) rfl h5) <|
                  forall_cons (e_equal (pq rfl) (pq rfl) rfl h6) <|
                  forall_cons (e_times hG (pq rfl) (pq rfl) rfl rfl) <|
                  forall_cons (e_equal (pq rfl) (pq rfl) rfl h7) <|
                  forall_nil
                refine Calls.mono (run_mk hC hT 79 Tryz.f79 [sp 0 1, sp 2 3, sp 4 5, vp (.func (.func 33) #[] #[])] (.val (vp (.bool true))) 200 Tryz.func79 rfl rfl rfl (by kernel_rfl) [v1, v2, v3, .func (.func 33) #[] #[]] ⟨v1, _, rfl, (sp_is rfl rfl).2 ⟨q1, z1, z2⟩, v2, _, rfl, (sp_is rfl rfl).2 ⟨q2, z3, z4⟩, v3, _, rfl, (sp_is rfl rfl).2 ⟨q3, z5, z6⟩, _, _, rfl, vp_is.2 rfl, rfl⟩) ?_
                rintro e w' ⟨v, rfl, hv, hb⟩; obtain rfl := val_of hv; exact ⟨rfl, hb⟩
              | false =>
                exact (no4 h1 h3 h5 h7 hl).elim
            | false =>
              cases h7 : decide (((b) * (d)) = (rl)) with
              | true =>
                cases h8 : decide (((b) * (d)) = (rh)) with
                | true =>
                  have hC : (mkC [4, 4, 4, 4, 4, 4, 4, 4, 4, 4] [true, true, true, true, true, true, true, true, true, true] [26, 66, 64, 104] 55 (cl_ended_times_16 rl rh a b c d) w).Ok := mkC_ok (oks_cons (clQ_ok (by decide) _ _) <| oks_cons (clQ_ok (by decide) _ _) <| oks_cons (clQ_ok (by decide) _ _) <| oks_cons (clQ_ok (by decide) _ _) <| oks_cons (clQ_ok (by decide) _ _) <| oks_cons (clQ_ok (by decide) _ _) <| oks_cons (clQ_ok (by decide) _ _) <| oks_cons (clQ_ok (by decide) _ _) <| oks_cons (clQ_ok (by decide) _ _) <| oks_cons (clQ_ok (by decide) _ _) <| oks_nil) rfl rfl
                  have hT : ∀ t ∈ t_ended_times_16, t.Valid (mkC [4, 4, 4, 4, 4, 4, 4, 4, 4, 4] [true, true, true, true, true, true, true, true, true, true] [26, 66, 64, 104] 55 (cl_ended_times_16 rl rh a b c d) w) :=
                    forall_cons (e_times hG (pq rfl) (pq rfl) rfl rfl) <|
                    forall_cons (e_equal (pq rfl) (pq rfl) rfl h1) <|
                    forall_cons (e_equal (pq rfl) (pq rfl) rfl h2) <|
                    forall_cons (e_times hG (pq rfl) (pq rfl) rfl rfl) <|
                    forall_cons (e_equal (pq rfl) (pq rfl) rfl h3) <|
                    forall_cons (e_equal (pq rfl) (pq rfl) rfl h4) <|
                    forall_cons (e_times hG (pq rfl) (pq rfl) rfl rfl) <|
                    forall_cons (e_equal (pq rfl) (pq rfl) rfl h5) <|
                    forall_cons (e_equal (pq rfl) (pq rfl) rfl h6) <|
                    forall_cons (e_times hG (pq rfl) (pq rfl) rfl rfl) <|
                    forall_cons (e_equal (pq rfl) (pq rfl) rfl h7) <|
                    forall_cons (e_equal (pq rfl) (pq rfl) rfl h8) <|
                    forall_nil
                  refine Calls.mono (run_mk hC hT 79 Tryz.f79 [sp 0 1, sp 2 3, sp 4 5, vp (.func (.func 33) #[] #[])] (.val (vp (.bool true))) 200 Tryz.func79 rfl rfl rfl (by kernel_rfl) [v1, v2, v3, .func (.func 33) #[] #[]] ⟨v1, _, rfl, (sp_is rfl rfl).2 ⟨q1, z1, z2⟩, v2, _, rfl, (sp_is rfl rfl).2 ⟨q2, z3, z4⟩, v3, _, rfl, (sp_is rfl rfl).2 ⟨q3, z5, z6⟩, _, _, rfl, vp_is.2 rfl, rfl⟩) ?_
                  rintro e w' ⟨v, rfl, hv, hb⟩; obtain rfl := val_of hv; exact ⟨rfl, hb⟩
                | false =>
                  exact (no4 h2 h4 h6 h8 hh).elim
              | false =>
                cases h8 : decide (((b) * (d)) = (rh)) with
                | true =>
                  exact (no4 h1 h3 h5 h7 hl).elim
                | false =>
                  exact (no4 h1 h3 h5 h7 hl).elim

noncomputable def cl_ended_over_1 (rl : Rat) (rh : Rat) (a : Rat) (b : Rat) (c : Rat) (d : Rat) : List Cl := [
  clQ (rl) 100000,
  clQ (rh) 100000,
  clQ (a) 100000,
  clQ (b) 100000,
  clQ (c) 100000,
  clQ (d) 100000,
  clQ ((a) / (c)) 200000,
  clQ ((b) / (c)) 200000,
  clQ ((a) / (d)) 200000,
  clQ ((b) / (d)) 200000]

def t_ended_over_1 : List Ent := [
  ⟨.call 80, [qp 2, qp 4], (.val (qp 6))⟩,
  ⟨.call 77, [qp 6, qp 0], (.val (vp (.bool true)))⟩,
  ⟨.call 77, [qp 6, qp 1], (.val (vp (.bool true)))⟩,
  ⟨.call 80, [qp 3, qp 4], (.val (qp 7))⟩,
  ⟨.call 80, [qp 2, qp 5], (.val (qp 8))⟩,
  ⟨.call 80, [qp 3, qp 5], (.val (qp 9))⟩]

noncomputable def cl_ended_over_2 (rl : Rat) (rh : Rat) (a : Rat) (b : Rat) (c : Rat) (d : Rat) : List Cl := [
  clQ (rl) 100000,
  clQ (rh) 100000,
  clQ (a) 100000,
  clQ (b) 100000,
  clQ (c) 100000,
  clQ (d) 100000,
  clQ ((a) / (c)) 200000,
  clQ ((b) / (c)) 200000,
  clQ ((a) / (d)) 200000,
  clQ ((b) / (d)) 200000]

def t_ended_over_2 : List Ent := [
  ⟨.call 80, [qp 2, qp 4], (.val (qp 6))⟩,
  ⟨.call 77, [qp 6, qp 0], (.val (vp (.bool true)))⟩,
  ⟨.call 77, [qp 6, qp 1], (.val (vp (.bool false)))⟩,
  ⟨.call 80, [qp 3, qp 4], (.val (qp 7))⟩,
  ⟨.call 77, [qp 7, qp 1], (.val (vp (.bool true)))⟩,
  ⟨.call 80, [qp 2, qp 5], (.val (qp 8))⟩,
  ⟨.call 80, [qp 3, qp 5], (.val (qp 9))⟩]

noncomputable def cl_ended_over_3 (rl : Rat) (rh : Rat) (a : Rat) (b : Rat) (c : Rat) (d : Rat) : List Cl := [
  clQ (rl) 100000,
  clQ (rh) 100000,
  clQ (a) 100000,
  clQ (b) 100000,
  clQ (c) 100000,
  clQ (d) 100000,
  clQ ((a) / (c)) 200000,
  clQ ((b) / (c)) 200000,
  clQ ((a) / (d)) 200000,
  clQ ((b) / (d)) 200000]

def t_ended_over_3 : List Ent := [
  ⟨.call 80, [qp 2, qp 4], (.val (qp 6))⟩,
  ⟨.call 77, [qp 6, qp 0], (.val (vp (.bool true)))⟩,
  ⟨.call 77, [qp 6, qp 1], (.val (vp (.bool false)))⟩,
  ⟨.call 80, [qp 3, qp 4], (.val (qp 7))⟩,
  ⟨.call 77, [qp 7, qp 1], (.val (vp (.bool false)))⟩,
  ⟨.call 80, [qp 2, qp 5], (.val (qp 8))⟩,
  ⟨.call 77, [qp 8, qp 1], (.val (vp (.bool true)))⟩,
  ⟨.call 80, [qp 3, qp 5], (.val (qp 9))⟩]

noncomputable def cl_ended_over_4 (rl : Rat) (rh : Rat) (a : Rat) (b : Rat) (c : Rat) (d : Rat) : List Cl := [
  clQ (rl) 100000,
  clQ (rh) 100000,
  clQ (a) 100000,
  clQ (b) 100000,
  clQ (c) 100000,
  clQ (d) 100000,
  clQ ((a) / (c)) 200000,
  clQ ((b) / (c)) 200000,
  clQ ((a) / (d)) 200000,
  clQ ((b) / (d)) 200000]

def t_ended_over_4 : List Ent := [
  ⟨.call 80, [qp 2, qp 4], (.val (qp 6))⟩,
  ⟨.call 77, [qp 6, qp 0], (.val (vp (.bool true)))⟩,
  ⟨.call 77, [qp 6, qp 1], (.val (vp (.bool false)))⟩,
  ⟨.call 80, [qp 3, qp 4], (.val (qp 7))⟩,
  ⟨.call 77, [qp 7, qp 1], (.val (vp (.bool false)))⟩,
  ⟨.call 80, [qp 2, qp 5], (.val (qp 8))⟩,
  ⟨.call 77, [qp 8, qp 1], (.val (vp (.bool false)))⟩,
  ⟨.call 80, [qp 3, qp 5], (.val (qp 9))⟩,
  ⟨.call 77, [qp 9, qp 1], (.val (vp (.bool true)))⟩]

noncomputable def cl_ended_over_5 (rl : Rat) (rh : Rat) (a : Rat) (b : Rat) (c : Rat) (d : Rat) : List Cl := [
  clQ (rl) 100000,
  clQ (rh) 100000,
  clQ (a) 100000,
  clQ (b) 100000,
  clQ (c) 100000,
  clQ (d) 100000,
  clQ ((a) / (c)) 200000,
  clQ ((b) / (c)) 200000,
  clQ ((a) / (d)) 200000,
  clQ ((b) / (d)) 200000]

def t_ended_over_5 : List Ent := [
  ⟨.call 80, [qp 2, qp 4], (.val (qp 6))⟩,
  ⟨.call 77, [qp 6, qp 0], (.val (vp (.bool false)))⟩,
  ⟨.call 77, [qp 6, qp 1], (.val (vp (.bool true)))⟩,
  ⟨.call 80, [qp 3, qp 4], (.val (qp 7))⟩,
  ⟨.call 77, [qp 7, qp 0], (.val (vp (.bool true)))⟩,
  ⟨.call 80, [qp 2, qp 5], (.val (qp 8))⟩,
  ⟨.call 80, [qp 3, qp 5], (.val (qp 9))⟩]

noncomputable def cl_ended_over_6 (rl : Rat) (rh : Rat) (a : Rat) (b : Rat) (c : Rat) (d : Rat) : List Cl := [
  clQ (rl) 100000,
  clQ (rh) 100000,
  clQ (a) 100000,
  clQ (b) 100000,
  clQ (c) 100000,
  clQ (d) 100000,
  clQ ((a) / (c)) 200000,
  clQ ((b) / (c)) 200000,
  clQ ((a) / (d)) 200000,
  clQ ((b) / (d)) 200000]

def t_ended_over_6 : List Ent := [
  ⟨.call 80, [qp 2, qp 4], (.val (qp 6))⟩,
  ⟨.call 77, [qp 6, qp 0], (.val (vp (.bool false)))⟩,
  ⟨.call 77, [qp 6, qp 1], (.val (vp (.bool true)))⟩,
  ⟨.call 80, [qp 3, qp 4], (.val (qp 7))⟩,
  ⟨.call 77, [qp 7, qp 0], (.val (vp (.bool false)))⟩,
  ⟨.call 80, [qp 2, qp 5], (.val (qp 8))⟩,
  ⟨.call 77, [qp 8, qp 0], (.val (vp (.bool true)))⟩,
  ⟨.call 80, [qp 3, qp 5], (.val (qp 9))⟩]

noncomputable def cl_ended_over_7 (rl : Rat) (rh : Rat) (a : Rat) (b : Rat) (c : Rat) (d : Rat) : List Cl := [
  clQ (rl) 100000,
  clQ (rh) 100000,
  clQ (a) 100000,
  clQ (b) 100000,
  clQ (c) 100000,
  clQ (d) 100000,
  clQ ((a) / (c)) 200000,
  clQ ((b) / (c)) 200000,
  clQ ((a) / (d)) 200000,
  clQ ((b) / (d)) 200000]

def t_ended_over_7 : List Ent := [
  ⟨.call 80, [qp 2, qp 4], (.val (qp 6))⟩,
  ⟨.call 77, [qp 6, qp 0], (.val (vp (.bool false)))⟩,
  ⟨.call 77, [qp 6, qp 1], (.val (vp (.bool true)))⟩,
  ⟨.call 80, [qp 3, qp 4], (.val (qp 7))⟩,
  ⟨.call 77, [qp 7, qp 0], (.val (vp (.bool false)))⟩,
  ⟨.call 80, [qp 2, qp 5], (.val (qp 8))⟩,
  ⟨.call 77, [qp 8, qp 0], (.val (vp (.bool false)))⟩,
  ⟨.call 80, [qp 3, qp 5], (.val (qp 9))⟩,
  ⟨.call 77, [qp 9, qp 0], (.val (vp (.bool true)))⟩]

noncomputable def cl_ended_over_8 (rl : Rat) (rh : Rat) (a : Rat) (b : Rat) (c : Rat) (d : Rat) : List Cl := [
  clQ (rl) 100000,
  clQ (rh) 100000,
  clQ (a) 100000,
  clQ (b) 100000,
  clQ (c) 100000,
  clQ (d) 100000,
  clQ ((a) / (c)) 200000,
  clQ ((b) / (c)) 200000,
  clQ ((a) / (d)) 200000,
  clQ ((b) / (d)) 200000]

def t_ended_over_8 : List Ent := [
  ⟨.call 80, [qp 2, qp 4], (.val (qp 6))⟩,
  ⟨.call 77, [qp 6, qp 0], (.val (vp (.bool false)))⟩,
  ⟨.call 77, [qp 6, qp 1], (.val (vp (.bool false)))⟩,
  ⟨.call 80, [qp 3, qp 4], (.val (qp 7))⟩,
  ⟨.call 77, [qp 7, qp 0], (.val (vp (.bool true)))⟩,
  ⟨.call 77, [qp 7, qp 1], (.val (vp (.bool true)))⟩,
  ⟨.call 80, [qp 2, qp 5], (.val (qp 8))⟩,
  ⟨.call 80, [qp 3, qp 5], (.val (qp 9))⟩]

noncomputable def cl_ended_over_9 (rl : Rat) (rh : Rat) (a : Rat) (b : Rat) (c : Rat) (d : Rat) : List Cl := [
  clQ (rl) 100000,
  clQ (rh) 100000,
  clQ (a) 100000,
  clQ (b) 100000,
  clQ (c) 100000,
  clQ (d) 100000,
  clQ ((a) / (c)) 200000,
  clQ ((b) / (c)) 200000,
  clQ ((a) / (d)) 200000,
  clQ ((b) / (d)) 200000]

def t_ended_over_9 : List Ent := [
  ⟨.call 80, [qp 2, qp 4], (.val (qp 6))⟩,
  ⟨.call 77, [qp 6, qp 0], (.val (vp (.bool false)))⟩,
  ⟨.call 77, [qp 6, qp 1], (.val (vp (.bool false)))⟩,
  ⟨.call 80, [qp 3, qp 4], (.val (qp 7))⟩,
  ⟨.call 77, [qp 7, qp 0], (.val (vp (.bool true)))⟩,
  ⟨.call 77, [qp 7, qp 1], (.val (vp (.bool false)))⟩,
  ⟨.call 80, [qp 2, qp 5], (.val (qp 8))⟩,
  ⟨.call 77, [qp 8, qp 1], (.val (vp (.bool true)))⟩,
  ⟨.call 80, [qp 3, qp 5], (.val (qp 9))⟩]

noncomputable def cl_ended_over_10 (rl : Rat) (rh : Rat) (a : Rat) (b : Rat) (c : Rat) (d : Rat) : List Cl := [
  clQ (rl) 100000,
  clQ (rh) 100000,
  clQ (a) 100000,
  clQ (b) 100000,
  clQ (c) 100000,
  clQ (d) 100000,
  clQ ((a) / (c)) 200000,
  clQ ((b) / (c)) 200000,
  clQ ((a) / (d)) 200000,
  clQ ((b) / (d)) 200000]

def t_ended_over_10 : List Ent := [
  ⟨.call 80, [qp 2, qp 4], (.val (qp 6))⟩,
  ⟨.call 77, [qp 6, qp 0], (.val (vp (.bool false)))⟩,
  ⟨.call 77, [qp 6, qp 1], (.val (vp (.bool false)))⟩,
  ⟨.call 80, [qp 3, qp 4], (.val (qp 7))⟩,
  ⟨.call 77, [qp 7, qp 0], (.val (vp (.bool true)))⟩,
  ⟨.call 77, [qp 7, qp 1], (.val (vp (.bool false)))⟩,
  ⟨.call 80, [qp 2, qp 5], (.val (qp 8))⟩,
  ⟨.call 77, [qp 8, qp 1], (.val (vp (.bool false)))⟩,
  ⟨.call 80, [qp 3, qp 5], (.val (qp 9))⟩,
  ⟨.call 77, [qp 9, qp 1], (.val (vp (.bool true)))⟩]

noncomputable def cl_ended_over_11 (rl : Rat) (rh : Rat) (a : Rat) (b : Rat) (c : Rat) (d : Rat) : List Cl := [
  clQ (rl) 100000,
  clQ (rh) 100000,
  clQ (a) 100000,
  clQ (b) 100000,
  clQ (c) 100000,
  clQ (d) 100000,
  clQ ((a) / (c)) 200000,
  clQ ((b) / (c)) 200000,
  clQ ((a) / (d)) 200000,
  clQ ((b) / (d)) 200000]

def t_ended_over_11 : List Ent := [
  ⟨.call 80, [qp 2, qp 4], (.val (qp 6))⟩,
  ⟨.call 77, [qp 6, qp 0], (.val (vp (.bool false)))⟩,
  ⟨.call 77, [qp 6, qp 1], (.val (vp (.bool false)))⟩,
  ⟨.call 80, [qp 3, qp 4], (.val (qp 7))⟩,
  ⟨.call 77, [qp 7, qp 0], (.val (vp (.bool false)))⟩,
  ⟨.call 77, [qp 7, qp 1], (.val (vp (.bool true)))⟩,
  ⟨.call 80, [qp 2, qp 5], (.val (qp 8))⟩,
  ⟨.call 77, [qp 8, qp 0], (.val (vp (.bool true)))⟩,
  ⟨.call 80, [qp 3, qp 5], (.val (qp 9))⟩]

noncomputable def cl_ended_over_12 (rl : Rat) (rh : Rat) (a : Rat) (b : Rat) (c : Rat) (d : Rat) : List Cl := [
  clQ (rl) 100000,
  clQ (rh) 100000,
  clQ (a) 100000,
  clQ (b) 100000,
  clQ (c) 100000,
  clQ (d) 100000,
  clQ ((a) / (c)) 200000,
  clQ ((b) / (c)) 200000,
  clQ ((a) / (d)) 200000,
  clQ ((b) / (d)) 200000]

def t_ended_over_12 : List Ent := [
  ⟨.call 80, [qp 2, qp 4], (.val (qp 6))⟩,
  ⟨.call 77, [qp 6, qp 0], (.val (vp (.bool false)))⟩,
  ⟨.call 77, [qp 6, qp 1], (.val (vp (.bool false)))⟩,
  ⟨.call 80, [qp 3, qp 4], (.val (qp 7))⟩,
  ⟨.call 77, [qp 7, qp 0], (.val (vp (.bool false)))⟩,
  ⟨.call 77, [qp 7, qp 1], (.val (vp (.bool true)))⟩,
  ⟨.call 80, [qp 2, qp 5], (.val (qp 8))⟩,
  ⟨.call 77, [qp 8, qp 0], (.val (vp (.bool false)))⟩,
  ⟨.call 80, [qp 3, qp 5], (.val (qp 9))⟩,
  ⟨.call 77, [qp 9, qp 0], (.val (vp (.bool true)))⟩]

noncomputable def cl_ended_over_13 (rl : Rat) (rh : Rat) (a : Rat) (b : Rat) (c : Rat) (d : Rat) : List Cl := [
  clQ (rl) 100000,
  clQ (rh) 100000,
  clQ (a) 100000,
  clQ (b) 100000,
  clQ (c) 100000,
  clQ (d) 100000,
  clQ ((a) / (c)) 200000,
  clQ ((b) / (c)) 200000,
  clQ ((a) / (d)) 200000,
  clQ ((b) / (d)) 200000]

def t_ended_over_13 : List Ent := [
  ⟨.call 80, [qp 2, qp 4], (.val (qp 6))⟩,
  ⟨.call 77, [qp 6, qp 0], (.val (vp (.bool false)))⟩,
  ⟨.call 77, [qp 6, qp 1], (.val (vp (.bool false)))⟩,
  ⟨.call 80, [qp 3, qp 4], (.val (qp 7))⟩,
  ⟨.call 77, [qp 7, qp 0], (.val (vp (.bool false)))⟩,
  ⟨.call 77, [qp 7, qp 1], (.val (vp (.bool false)))⟩,
  ⟨.call 80, [qp 2, qp 5], (.val (qp 8))⟩,
  ⟨.call 77, [qp 8, qp 0], (.val (vp (.bool true)))⟩,
  ⟨.call 77, [qp 8, qp 1], (.val (vp (.bool true)))⟩,
  ⟨.call 80, [qp 3, qp 5], (.val (qp 9))⟩]

noncomputable def cl_ended_over_14 (rl : Rat) (rh : Rat) (a : Rat) (b : Rat) (c : Rat) (d : Rat) : List Cl := [
  clQ (rl) 100000,
  clQ (rh) 100000,
  clQ (a) 100000,
  clQ (b) 100000,
  clQ (c) 100000,
  clQ (d) 100000,
  clQ ((a) / (c)) 200000,
  clQ ((b) / (c)) 200000,
  clQ ((a) / (d)) 200000,
  clQ ((b) / (d)) 200000]

def t_ended_over_14 : List Ent := [
  ⟨.call 80, [qp 2, qp 4], (.val (qp 6))⟩,
  ⟨.call 77, [qp 6, qp 0], (.val (vp (.bool false)))⟩,
  ⟨.call 77, [qp 6, qp 1], (.val (vp (.bool false)))⟩,
  ⟨.call 80, [qp 3, qp 4], (.val (qp 7))⟩,
  ⟨.call 77, [qp 7, qp 0], (.val (vp (.bool false)))⟩,
  ⟨.call 77, [qp 7, qp 1], (.val (vp (.bool false)))⟩,
  ⟨.call 80, [qp 2, qp 5], (.val (qp 8))⟩,
  ⟨.call 77, [qp 8, qp 0], (.val (vp (.bool true)))⟩,
  ⟨.call 77, [qp 8, qp 1], (.val (vp (.bool false)))⟩,
  ⟨.call 80, [qp 3, qp 5], (.val (qp 9))⟩,
  ⟨.call 77, [qp 9, qp 1], (.val (vp (.bool true)))⟩]

noncomputable def cl_ended_over_15 (rl : Rat) (rh : Rat) (a : Rat) (b : Rat) (c : Rat) (d : Rat) : List Cl := [
  clQ (rl) 100000,
  clQ (rh) 100000,
  clQ (a) 100000,
  clQ (b) 100000,
  clQ (c) 100000,
  clQ (d) 100000,
  clQ ((a) / (c)) 200000,
  clQ ((b) / (c)) 200000,
  clQ ((a) / (d)) 200000,
  clQ ((b) / (d)) 200000]

def t_ended_over_15 : List Ent := [
  ⟨.call 80, [qp 2, qp 4], (.val (qp 6))⟩,
  ⟨.call 77, [qp 6, qp 0], (.val (vp (.bool false)))⟩,
  ⟨.call 77, [qp 6, qp 1], (.val (vp (.bool false)))⟩,
  ⟨.call 80, [qp 3, qp 4], (.val (qp 7))⟩,
  ⟨.call 77, [qp 7, qp 0], (.val (vp (.bool false)))⟩,
  ⟨.call 77, [qp 7, qp 1], (.val (vp (.bool false)))⟩,
  ⟨.call 80, [qp 2, qp 5], (.val (qp 8))⟩,
  ⟨.call 77, [qp 8, qp 0], (.val (vp (.bool false)))⟩,
  ⟨.call 77, [qp 8, qp 1], (.val (vp (.bool true)))⟩,
  ⟨.call 80, [qp 3, qp 5], (.val (qp 9))⟩,
  ⟨.call 77, [qp 9, qp 0], (.val (vp (.bool true)))⟩]

noncomputable def cl_ended_over_16 (rl : Rat) (rh : Rat) (a : Rat) (b : Rat) (c : Rat) (d : Rat) : List Cl := [
  clQ (rl) 100000,
  clQ (rh) 100000,
  clQ (a) 100000,
  clQ (b) 100000,
  clQ (c) 100000,
  clQ (d) 100000,
  clQ ((a) / (c)) 200000,
  clQ ((b) / (c)) 200000,
  clQ ((a) / (d)) 200000,
  clQ ((b) / (d)) 200000]

def t_ended_over_16 : List Ent := [
  ⟨.call 80, [qp 2, qp 4], (.val (qp 6))⟩,
  ⟨.call 77, [qp 6, qp 0], (.val (vp (.bool false)))⟩,
  ⟨.call 77, [qp 6, qp 1], (.val (vp (.bool false)))⟩,
  ⟨.call 80, [qp 3, qp 4], (.val (qp 7))⟩,
  ⟨.call 77, [qp 7, qp 0], (.val (vp (.bool false)))⟩,
  ⟨.call 77, [qp 7, qp 1], (.val (vp (.bool false)))⟩,
  ⟨.call 80, [qp 2, qp 5], (.val (qp 8))⟩,
  ⟨.call 77, [qp 8, qp 0], (.val (vp (.bool false)))⟩,
  ⟨.call 77, [qp 8, qp 1], (.val (vp (.bool false)))⟩,
  ⟨.call 80, [qp 3, qp 5], (.val (qp 9))⟩,
  ⟨.call 77, [qp 9, qp 0], (.val (vp (.bool true)))⟩,
  ⟨.call 77, [qp 9, qp 1], (.val (vp (.bool true)))⟩]

set_option maxRecDepth 100000 in
theorem ended_over (v1 v2 v3 : Value) (rl rh a b c d : Rat) (w : World) (hG : Gr w) (q1 : IsS w v1 rl rh) (q2 : IsS w v2 a b) (q3 : IsS w v3 c d) (z1 : Siz rl 100000) (z2 : Siz rh 100000) (z3 : Siz a 100000) (z4 : Siz b 100000) (z5 : Siz c 100000) (z6 : Siz d 100000) (nc : decide ((c) = 0) = false) (nd : decide ((d) = 0) = false) (hl : rl = (a) / (c) ∨ rl = (b) / (c) ∨ rl = (a) / (d) ∨ rl = (b) / (d)) (hh : rh = (a) / (c) ∨ rh = (b) / (c) ∨ rh = (a) / (d) ∨ rh = (b) / (d)) :
    Calls Tryz.prog 79 #[v1, v2, v3, .func (.func 80) #[] #[]] w (Go.Proofs.YtnolcmoecodeaaaGreatDoor.Val w (.bool true)) := by
  cases h1 : decide (((a) / (c)) = (rl)) with
  | true =>
    cases h2 : decide (((a) / (c)) = (rh)) with
    | true =>
      have hC : (mkC [4, 4, 4, 4, 4, 4, 4, 4, 4, 4] [true, true, true, true, true, true, true, true, true, true] [26, 66, 64, 104] 55 (cl_ended_over_1 rl rh a b c d) w).Ok := mkC_ok (oks_cons (clQ_ok (by decide) _ _) <| oks_cons (clQ_ok (by decide) _ _) <| oks_cons (clQ_ok (by decide) _ _) <| oks_cons (clQ_ok (by decide) _ _) <| oks_cons (clQ_ok (by decide) _ _) <| oks_cons (clQ_ok (by decide) _ _) <| oks_cons (clQ_ok (by decide) _ _) <| oks_cons (clQ_ok (by decide) _ _) <| oks_cons (clQ_ok (by decide) _ _) <| oks_cons (clQ_ok (by decide) _ _) <| oks_nil) rfl rfl
      have hT : ∀ t ∈ t_ended_over_1, t.Valid (mkC [4, 4, 4, 4, 4, 4, 4, 4, 4, 4] [true, true, true, true, true, true, true, true, true, true] [26, 66, 64, 104] 55 (cl_ended_over_1 rl rh a b c d) w) :=
        forall_cons (e_quot hG (pq rfl) (pq rfl) rfl rfl nc) <|
        forall_cons (e_equal (pq rfl) (pq rfl) rfl h1) <|
        forall_cons (e_equal (pq rfl) (pq rfl) rfl h2) <|
        forall_cons (e_quot hG (pq rfl) (pq rfl) rfl rfl nc) <|
        forall_cons (e_quot hG (pq rfl) (pq rfl) rfl rfl nd) <|
        forall_cons (e_quot hG (pq rfl) (pq rfl) rfl rfl nd) <|
        forall_nil
      refine Calls.mono (run_mk hC hT 79 Tryz.f79 [sp 0 1, sp 2 3, sp 4 5, vp (.func (.func 80) #[] #[])] (.val (vp (.bool true))) 200 Tryz.func79 rfl rfl rfl (by kernel_rfl) [v1, v2, v3, .func (.func 80) #[] #[]] ⟨v1, _, rfl, (sp_is rfl rfl).2 ⟨q1, z1, z2⟩, v2, _, rfl, (sp_is rfl rfl).2 ⟨q2, z3, z4⟩, v3, _, rfl, (sp_is rfl rfl).2 ⟨q3, z5, z6⟩, _, _, rfl, vp_is.2 rfl, rfl⟩) ?_
      rintro e w' ⟨v, rfl, hv, hb⟩; obtain rfl := val_of hv; exact ⟨rfl, hb⟩
    | false =>
      cases h3 : decide (((b) / (c)) = (rh)) with
      | true =>
        have hC : (mkC [4, 4, 4, 4, 4, 4, 4, 4, 4, 4] [true, true, true, true, true, true, true, true, true, true] [26, 66, 64, 104] 55 (cl_ended_over_2 rl rh a b c d) w).Ok := mkC_ok (oks_cons (clQ_ok (by decide) _ _) <| oks_cons (clQ_ok (by decide) _ _) <| oks_cons (clQ_ok (by decide) _ _) <| oks_cons (clQ_ok (by decide) _ _) <| oks_cons (clQ_ok (by decide) _ _) <| oks_cons (clQ_ok (by decide) _ _) <| oks_cons (clQ_ok (by decide) _ _) <| oks_cons (clQ_ok (by decide) _ _) <| oks_cons (clQ_ok (by decide) _ _) <| oks_cons (clQ_ok (by decide) _ _) <| oks_nil) rfl rfl
        have hT : ∀ t ∈ t_ended_over_2, t.Valid (mkC [4, 4, 4, 4, 4, 4, 4, 4, 4, 4] [true, true, true, true, true, true, true, true, true, true] [26, 66, 64, 104] 55 (cl_ended_over_2 rl rh a b c d) w) :=
          forall_cons (e_quot hG (pq rfl) (pq rfl) rfl rfl nc) <|
          forall_cons (e_equal (pq rfl) (pq rfl) rfl h1) <|
          forall_cons (e_equal (pq rfl) (pq rfl) rfl h2) <|
          forall_cons (e_quot hG (pq rfl) (pq rfl) rfl rfl nc) <|
          forall_cons (e_equal (pq rfl) (pq rfl) rfl h3) <|
          forall_cons (e_quot hG (pq rfl) (pq rfl) rfl rfl nd) <|
          forall_cons (e_quot hG (pq rfl) (pq rfl) rfl rfl nd) <|
          forall_nil
        refine Calls.mono (run_mk hC hT 79 Tryz.f79 [sp 0 1, sp 2 3, sp 4 5, vp (.func (.func 80) #[] #[])] (.val (vp (.bool true))) 200 Tryz.func79 rfl rfl rfl (by kernel_rfl) [v1, v2, v3, .func (.func 80) #[] #[]] ⟨v1, _, rfl, (sp_is rfl rfl).2 ⟨q1, z1, z2⟩, v2, _, rfl, (sp_is rfl rfl).2 ⟨q2, z3, z4⟩, v3, _, rfl, (sp_is rfl rfl).2 ⟨q3, z5, z6⟩, _, _, rfl, vp_is.2 rfl, rfl⟩) ?_
        rintro e w' ⟨v, rfl, hv, hb⟩; obtain rfl := val_of hv; exact ⟨rfl, hb⟩
      | false =>
        cases h4 : decide (((a) / (d)) = (rh)) with
        | true =>
          have hC : (mkC [4, 4, 4, 4, 4, 4, 4, 4, 4, 4] [true, true, true, true, true, true, true, true, true, true] [26, 66, 64, 104] 55 (cl_ended_over_3 rl rh a b c d) w).Ok := mkC_ok (oks_cons (clQ_ok (by decide) _ _) <| oks_cons (clQ_ok (by decide) _ _) <| oks_cons (clQ_ok (by decide) _ _) <| oks_cons (clQ_ok (by decide) _ _) <| oks_cons (clQ_ok (by decide) _ _) <| oks_cons (clQ_ok (by decide) _ _) <| oks_cons (clQ_ok (by decide) _ _) <| oks_cons (clQ_ok (by decide) _ _) <| oks_cons (clQ_ok (by decide) _ _) <| oks_cons (clQ_ok (by decide) _ _) <| oks_nil) rfl rfl
          have hT : ∀ t ∈ t_ended_over_3, t.Valid (mkC [4, 4, 4, 4, 4, 4, 4, 4, 4, 4] [true, true, true, true, true, true, true, true, true, true] [26, 66, 64, 104] 55 (cl_ended_over_3 rl rh a b c d) w) :=
            forall_cons (e_quot hG (pq rfl) (pq rfl) rfl rfl nc) <|
            forall_cons (e_equal (pq rfl) (pq rfl) rfl h1) <|
            forall_cons (e_equal (pq rfl) (pq rfl) rfl h2) <|
            forall_cons (e_quot hG (pq rfl) (pq rfl) rfl rfl nc) <|
            forall_cons (e_equal (pq rfl) (pq rfl) rfl h3) <|
            forall_cons (e_quot hG (pq rfl) (pq rfl) rfl rfl nd) <|
            forall_cons (e_equal (pq rfl) (pq rfl) rfl h4) <|
            forall_cons (e_quot hG (pq rfl) (pq rfl) rfl rfl nd) <|
            forall_nil
          refine Calls.mono (run_mk hC hT 79 Tryz.f79 [sp 0 1, sp 2 3, sp 4 5, vp (.func (.func 80) #[] #[])] (.val (vp (.bool true))) 200 Tryz.func79 rfl rfl rfl (by kernel_rfl) [v1, v2, v3, .func (.func 80) #[] #[]] ⟨v1, _, rfl, (sp_is rfl rfl).2 ⟨q1, z1, z2⟩, v2, _, rfl, (sp_is rfl rfl).2 ⟨q2, z3, z4⟩, v3, _, rfl, (sp_is rfl rfl).2 ⟨q3, z5, z6⟩, _, _, rfl, vp_is.2 rfl, rfl⟩) ?_
          rintro e w' ⟨v, rfl, hv, hb⟩; obtain rfl := val_of hv; exact ⟨rfl, hb⟩
        | false =>
          cases h5 : decide (((b) / (d)) = (rh)) with
          | true =>
            have hC : (mkC [4, 4, 4, 4, 4, 4, 4, 4, 4, 4] [true, true, true, true, true, true, true, true, true, true] [26, 66, 64, 104] 55 (cl_ended_over_4 rl rh a b c d) w).Ok := mkC_ok (oks_cons (clQ_ok (by decide) _ _) <| oks_cons (clQ_ok (by decide) _ _) <| oks_cons (clQ_ok (by decide) _ _) <| oks_cons (clQ_ok (by decide) _ _) <| oks_cons (clQ_ok (by decide) _ _) <| oks_cons (clQ_ok (by decide) _ _) <| oks_cons (clQ_ok (by decide) _ _) <| oks_cons (clQ_ok (by decide) _ _) <| oks_cons (clQ_ok (by decide) _ _) <| oks_cons (clQ_ok (by decide) _ _) <| oks_nil) rfl rfl
            have hT : ∀ t ∈ t_ended_over_4, t.Valid (mkC [4, 4, 4, 4, 4, 4, 4, 4, 4, 4] [true, true, true, true, true, true, true, true, true, true] [26, 66, 64, 104] 55 (cl_ended_over_4 rl rh a b c d) w) :=
              forall_cons (e_quot hG (pq rfl) (pq rfl) rfl rfl nc) <|
              forall_cons (e_equal (pq rfl) (pq rfl) rfl h1) <|
              forall_cons (e_equal (pq rfl) (pq rfl) rfl h2) <|
              forall_cons (e_quot hG (pq rfl) (pq rfl) rfl rfl nc) <|
              forall_cons (e_equal (pq rfl) (pq rfl) rfl h3) <|
              forall_cons (e_quot hG (pq rfl) (pq rfl) rfl rfl nd) <|
              forall_cons (e_equal (pq rfl) (pq rfl) rfl h4) <|
              forall_cons (e_quot hG (pq rfl) (pq rfl) rfl rfl nd) <|
              forall_cons (e_equal (pq rfl) (pq rfl) rfl h5) <|
              forall_nil
            refine Calls.mono (run_mk hC hT 79 Tryz.f79 [sp 0 1, sp 2 3, sp 4 5, vp (.func (.func 80) #[] #[])] (.val (vp (.bool true))) 200 Tryz.func79 rfl rfl rfl (by kernel_rfl) [v1, v2, v3, .func (.func 80) #[] #[]] ⟨v1, _, rfl, (sp_is rfl rfl).2 ⟨q1, z1, z2⟩, v2, _, rfl, (sp_is rfl rfl).2 ⟨q2, z3, z4⟩, v3, _, rfl, (sp_is rfl rfl).2 ⟨q3, z5, z6⟩, _, _, rfl, vp_is.2 rfl, rfl⟩) ?_
            rintro e w' ⟨v, rfl, hv, hb⟩; obtain rfl := val_of hv; exact ⟨rfl, hb⟩
          | false =>
            exact (no4 h2 h3 h4 h5 hh).elim
  | false =>
    cases h2 : decide (((a) / (c)) = (rh)) with
    | true =>
      cases h3 : decide (((b) / (c)) = (rl)) with
      | true =>
        have hC : (mkC [4, 4, 4, 4, 4, 4, 4, 4, 4, 4] [true, true, true, true, true, true, true, true, true, true] [26, 66, 64, 104] 55 (cl_ended_over_5 rl rh a b c d) w).Ok := mkC_ok (oks_cons (clQ_ok (by decide) _ _) <| oks_cons (clQ_ok (by decide) _ _) <| oks_cons (clQ_ok (by decide) _ _) <| oks_cons (clQ_ok (by decide) _ _) <| oks_cons (clQ_ok (by decide) _ _) <| oks_cons (clQ_ok (by decide) _ _) <| oks_cons (clQ_ok (by decide) _ _) <| oks_cons (clQ_ok (by decide) _ _) <| oks_cons (clQ_ok (by decide) _ _) <| oks_cons (clQ_ok (by decide) _ _) <| oks_nil) rfl rfl
        have hT : ∀ t ∈ t_ended_over_5, t.Valid (mkC [4, 4, 4, 4, 4, 4, 4, 4, 4, 4] [true, true, true, true, true, true, true, true, true, true] [26, 66, 64, 104] 55 (cl_ended_over_5 rl rh a b c d) w) :=
          forall_cons (e_quot hG (pq rfl) (pq rfl) rfl rfl nc) <|
          forall_cons (e_equal (pq rfl) (pq rfl) rfl h1) <|
          forall_cons (e_equal (pq rfl) (pq rfl) rfl h2) <|
          forall_cons (e_quot hG (pq rfl) (pq rfl) rfl rfl nc) <|
          forall_cons (e_equal (pq rfl) (pq rfl) rfl h3) <|
          forall_cons (e_quot hG (pq rfl) (pq rfl) rfl rfl nd) <|
          forall_cons (e_quot hG (pq rfl) (pq rfl) rfl rfl nd) <|
          forall_nil
        refine Calls.mono (run_mk hC hT 79 Tryz.f79 [sp 0 1, sp 2 3, sp 4 5, vp (.func (.func 80) #[] #[])] (.val (vp (.bool true))) 200 Tryz.func79 rfl rfl rfl (by kernel_rfl) [v1, v2, v3, .func (.func 80) #[] #[]] ⟨v1, _, rfl, (sp_is rfl rfl).2 ⟨q1, z1, z2⟩, v2, _, rfl, (sp_is rfl rfl).2 ⟨q2, z3, z4⟩, v3, _, rfl, (sp_is rfl rfl).2 ⟨q3, z5, z6⟩, _, _, rfl, vp_is.2 rfl, rfl⟩) ?_
        rintro e w' ⟨v, rfl, hv, hb⟩; obtain rfl := val_of hv; exact ⟨rfl, hb⟩
      | false =>
        cases h4 : decide (((a) / (d)) = (rl)) with
        | true =>
          have hC : (mkC [4, 4, 4, 4, 4, 4, 4, 4, 4, 4] [true, true, true, true, true, true, true, true, true, true] [26, 66, 64, 104] 55 (cl_ended_over_6 rl rh a b c d) w).Ok := mkC_ok (oks_cons (clQ_ok (by decide) _ _) <| oks_cons (clQ_ok (by decide) _ _) <| oks_cons (clQ_ok (by decide) _ _) <| oks_cons (clQ_ok (by decide) _ _) <| oks_cons (clQ_ok (by decide) _ _) <| oks_cons (clQ_ok (by decide) _ _) <| oks_cons (clQ_ok (by decide) _ _) <| oks_cons (clQ_ok (by decide) _ _) <| oks_cons (clQ_ok (by decide) _ _) <| oks_cons (clQ_ok (by decide) _ _) <| oks_nil) rfl rfl
          have hT : ∀ t ∈ t_ended_over_6, t.Valid (mkC [4, 4, 4, 4, 4, 4, 4, 4, 4, 4] [true, true, true, true, true, true, true, true, true, true] [26, 66, 64, 104] 55 (cl_ended_over_6 rl rh a b c d) w) :=
            forall_cons (e_quot hG (pq rfl) (pq rfl) rfl rfl nc) <|
            forall_cons (e_equal (pq rfl) (pq rfl) rfl h1) <|
            forall_cons (e_equal (pq rfl) (pq rfl) rfl h2) <|
            forall_cons (e_quot hG (pq rfl) (pq rfl) rfl rfl nc) <|
            forall_cons (e_equal (pq rfl) (pq rfl) rfl h3) <|
            forall_cons (e_quot hG (pq rfl) (pq rfl) rfl rfl nd) <|
            forall_cons (e_equal (pq rfl) (pq rfl) rfl h4) <|
            forall_cons (e_quot hG (pq rfl) (pq rfl) rfl rfl nd) <|
            forall_nil
          refine Calls.mono (run_mk hC hT 79 Tryz.f79 [sp 0 1, sp 2 3, sp 4 5, vp (.func (.func 80) #[] #[])] (.val (vp (.bool true))) 200 Tryz.func79 rfl rfl rfl (by kernel_rfl) [v1, v2, v3, .func (.func 80) #[] #[]] ⟨v1, _, rfl, (sp_is rfl rfl).2 ⟨q1, z1, z2⟩, v2, _, rfl, (sp_is rfl rfl).2 ⟨q2, z3, z4⟩, v3, _, rfl, (sp_is rfl rfl).2 ⟨q3, z5, z6⟩, _, _, rfl, vp_is.2 rfl, rfl⟩) ?_
          rintro e w' ⟨v, rfl, hv, hb⟩; obtain rfl := val_of hv; exact ⟨rfl, hb⟩
        | false =>
          cases h5 : decide (((b) / (d)) = (rl)) with
          | true =>
            have hC : (mkC [4, 4, 4, 4, 4, 4, 4, 4, 4, 4] [true, true, true, true, true, true, true, true, true, true] [26, 66, 64, 104] 55 (cl_ended_over_7 rl rh a b c d) w).Ok := mkC_ok (oks_cons (clQ_ok (by decide) _ _) <| oks_cons (clQ_ok (by decide) _ _) <| oks_cons (clQ_ok (by decide) _ _) <| oks_cons (clQ_ok (by decide) _ _) <| oks_cons (clQ_ok (by decide) _ _) <| oks_cons (clQ_ok (by decide) _ _) <| oks_cons (clQ_ok (by decide) _ _) <| oks_cons (clQ_ok (by decide) _ _) <| oks_cons (clQ_ok (by decide) _ _) <| oks_cons (clQ_ok (by decide) _ _) <| oks_nil) rfl rfl
            have hT : ∀ t ∈ t_ended_over_7, t.Valid (mkC [4, 4, 4, 4, 4, 4, 4, 4, 4, 4] [true, true, true, true, true, true, true, true, true, true] [26, 66, 64, 104] 55 (cl_ended_over_7 rl rh a b c d) w) :=
              forall_cons (e_quot hG (pq rfl) (pq rfl) rfl rfl nc) <|
              forall_cons (e_equal (pq rfl) (pq rfl) rfl h1) <|
              forall_cons (e_equal (pq rfl) (pq rfl) rfl h2) <|
              forall_cons (e_quot hG (pq rfl) (pq rfl) rfl rfl nc) <|
              forall_cons (e_equal (pq rfl) (pq rfl) rfl h3) <|
              forall_cons (e_quot hG (pq rfl) (pq rfl) rfl rfl nd) <|
              forall_cons (e_equal (pq rfl) (pq rfl) rfl h4) <|
              forall_cons (e_quot hG (pq rfl) (pq rfl) rfl rfl nd) <|
              forall_cons (e_equal (pq rfl) (pq rfl) rfl h5) <|
              forall_nil
            refine Calls.mono (run_mk hC hT 79 Tryz.f79 [sp 0 1, sp 2 3, sp 4 5, vp (.func (.func 80) #[] #[])] (.val (vp (.bool true))) 200 Tryz.func79 rfl rfl rfl (by kernel_rfl) [v1, v2, v3, .func (.func 80) #[] #[]] ⟨v1, _, rfl, (sp_is rfl rfl).2 ⟨q1, z1, z2⟩, v2, _, rfl, (sp_is rfl rfl).2 ⟨q2, z3, z4⟩, v3, _, rfl, (sp_is rfl rfl).2 ⟨q3, z5, z6⟩, _, _, rfl, vp_is.2 rfl, rfl⟩) ?_
            rintro e w' ⟨v, rfl, hv, hb⟩; obtain rfl := val_of hv; exact ⟨rfl, hb⟩
          | false =>
            exact (no4 h1 h3 h4 h5 hl).elim
    | false =>
      cases h3 : decide (((b) / (c)) = (rl)) with
      | true =>
        cases h4 : decide (((b) / (c)) = (rh)) with
        | true =>
          have hC : (mkC [4, 4, 4, 4, 4, 4, 4, 4, 4, 4] [true, true, true, true, true, true, true, true, true, true] [26, 66, 64, 104] 55 (cl_ended_over_8 rl rh a b c d) w).Ok := mkC_ok (oks_cons (clQ_ok (by decide) _ _) <| oks_cons (clQ_ok (by decide) _ _) <| oks_cons (clQ_ok (by decide) _ _) <| oks_cons (clQ_ok (by decide) _ _) <| oks_cons (clQ_ok (by decide) _ _) <| oks_cons (clQ_ok (by decide) _ _) <| oks_cons (clQ_ok (by decide) _ _) <| oks_cons (clQ_ok (by decide) _ _) <| oks_cons (clQ_ok (by decide) _ _) <| oks_cons (clQ_ok (by decide) _ _) <| oks_nil) rfl rfl
          have hT : ∀ t ∈ t_ended_over_8, t.Valid (mkC [4, 4, 4, 4, 4, 4, 4, 4, 4, 4] [true, true, true, true, true, true, true, true, true, true] [26, 66, 64, 104] 55 (cl_ended_over_8 rl rh a b c d) w) :=
            forall_cons (e_quot hG (pq rfl) (pq rfl) rfl rfl nc) <|
            forall_cons (e_equal (pq rfl) (pq rfl) rfl h1) <|
            forall_cons (e_equal (pq rfl) (pq rfl) rfl h2) <|
            forall_cons (e_quot hG (pq rfl) (pq rfl) rfl rfl nc) <|
            forall_cons (e_equal (pq rfl) (pq rfl) rfl h3) <|
            forall_cons (e_equal (pq rfl) (pq rfl) rfl h4) <|
            forall_cons (e_quot hG (pq rfl) (pq rfl) rfl rfl nd) <|
            forall_cons (e_quot hG (pq rfl) (pq rfl) rfl rfl nd) <|
            forall_nil
          refine Calls.mono (run_mk hC hT 79 Tryz.f79 [sp 0 1, sp 2 3, sp 4 5, vp (.func (.func 80) #[] #[])] (.val (vp (.bool true))) 200 Tryz.func79 rfl rfl rfl (by kernel_rfl) [v1, v2, v3, .func (.func 80) #[] #[]] ⟨v1, _, rfl, (sp_is rfl rfl).2 ⟨q1, z1, z2⟩, v2, _, rfl, (sp_is rfl rfl).2 ⟨q2, z3, z4⟩, v3, _, rfl, (sp_is rfl rfl).2 ⟨q3, z5, z6⟩, _, _, rfl, vp_is.2 rfl, rfl⟩) ?_
          rintro e w' ⟨v, rfl, hv, hb⟩; obtain rfl := val_of hv; exact ⟨rfl, hb⟩
        | false =>
          cases h5 : decide (((a) / (d)) = (rh)) with
          | true =>
            have hC : (mkC [4, 4, 4, 4, 4, 4, 4, 4, 4, 4] [true, true, true, true, true, true, true, true, true, true] [26, 66, 64, 104] 55 (cl_ended_over_9 rl rh a b c d) w).Ok := mkC_ok (oks_cons (clQ_ok (by decide) _ _) <| oks_cons (clQ_ok (by decide) _ _) <| oks_cons (clQ_ok (by decide) _ _) <| oks_cons (clQ_ok (by decide) _ _) <| oks_cons (clQ_ok (by decide) _ _) <| oks_cons (clQ_ok (by decide) _ _) <| oks_cons (clQ_ok (by decide) _ _) <| oks_cons (clQ_ok (by decide) _ _) <| oks_cons (clQ_ok (by decide) _ _) <| oks_cons (clQ_ok (by decide) _ _) <| oks_nil) rfl rfl
            have hT : ∀ t ∈ t_ended_over_9, t.Valid (mkC [4, 4, 4, 4, 4, 4, 4, 4, 4, 4] [true, true, true, true, true, true, true, true, true, true] [26, 66, 64, 104] 55 (cl_ended_over_9 rl rh a b c d) w) :=
              forall_cons (e_quot hG (pq rfl) (pq rfl) rfl rfl nc) <|
              forall_cons (e_equal (pq rfl) (pq rfl) rfl h1) <|
              forall_cons (e_equal (pq rfl) (pq rfl) rfl h2) <|
              forall_cons (e_quot hG (pq rfl) (pq rfl) rfl rfl nc) <|
              forall_cons (e_equal (pq rfl) (pq rfl) rfl h3) <|
              forall_cons (e_equal (pq rfl) (pq rfl) rfl h4) <|
              forall_cons (e_quot hG (pq rfl) (pq rfl) rfl rfl nd) <|
              forall_cons (e_equal (pq rfl) (pq rfl) rfl h5) <|
              forall_cons (e_quot hG (pq rfl) (pq rfl) rfl rfl nd) <|
              forall_nil
            refine Calls.mono (run_mk hC hT 79 Tryz.f79 [sp 0 1, sp 2 3, sp 4 5, vp (.func (.func 80) #[] #[])] (.val (vp (.bool true))) 200 Tryz.func79 rfl rfl rfl (by kernel_rfl) [v1, v2, v3, .func (.func 80) #[] #[]] ⟨v1, _, rfl, (sp_is rfl rfl).2 ⟨q1, z1, z2⟩, v2, _, rfl, (sp_is rfl rfl).2 ⟨q2, z3, z4⟩, v3, _, rfl, (sp_is rfl rfl).2 ⟨q3, z5, z6⟩, _, _, rfl, vp_is.2 rfl, rfl⟩) ?_
            rintro e w' ⟨v, rfl, hv, hb⟩; obtain rfl := val_of hv; exact ⟨rfl, hb⟩
          | false =>
            cases h6 : decide (((b) / (d)) = (rh)) with
            | true =>
              have hC : (mkC [4, 4, 4, 4, 4, 4, 4, 4, 4, 4] [true, true, true, true, true, true, true, true, true, true] [26, 66, 64, 104] 55 (cl_ended_over_10 rl rh a b c d) w).Ok := mkC_ok (oks_cons (clQ_ok (by decide) _ _) <| oks_cons (clQ_ok (by decide) _ _) <| oks_cons (clQ_ok (by decide) _ _) <| oks_cons (clQ_ok (by decide) _ _) <| oks_cons (clQ_ok (by decide) _ _) <| oks_cons (clQ_ok (by decide) _ _) <| oks_cons (clQ_ok (by decide) _ _) <| oks_cons (clQ_ok (by decide) _ _) <| oks_cons (clQ_ok (by decide) _ _) <| oks_cons (clQ_ok (by decide) _ _) <| oks_nil) rfl rfl
              have hT : ∀ t ∈ t_ended_over_10, t.Valid (mkC [4, 4, 4, 4, 4, 4, 4, 4, 4, 4] [true, true, true, true, true, true, true, true, true, true] [26, 66, 64, 104] 55 (cl_ended_over_10 rl rh a b c d) w) :=
                forall_cons (e_quot hG (pq rfl) (pq rfl) rfl rfl nc) <|
                forall_cons (e_equal (pq rfl) (pq rfl) rfl h1) <|
                forall_cons (e_equal (pq rfl) (pq rfl) rfl h2) <|
                forall_cons (e_quot hG (pq rfl) (pq rfl) rfl rfl nc) <|
                forall_cons (e_equal (pq rfl) (pq rfl) rfl h3) <|
                forall_cons (e_equal (pq rfl) (pq rfl) rfl h4) <|
                forall_cons (e_quot hG (pq rfl) (pq rfl) rfl rfl nd) <|
                forall_cons (e_equal (pq rfl) (pq rfl) rfl h5) <|
                forall_cons (e_quot hG (pq rfl) (pq rfl) rfl rfl nd) <|
                forall_cons (e_equal (pq rfl) (pq rfl) rfl h6) <|
                forall_nil
              refine Calls.mono (run_mk hC hT 79 Tryz.f79 [sp 0 1, sp 2 3, sp 4 5, vp (.func (.func 80) #[] #[])] (.val (vp (.bool true))) 200 Tryz.func79 rfl rfl rfl (by kernel_rfl) [v1, v2, v3, .func (.func 80) #[] #[]] ⟨v1, _, rfl, (sp_is rfl rfl).2 ⟨q1, z1, z2⟩, v2, _, rfl, (sp_is rfl rfl).2 ⟨q2, z3, z4⟩, v3, _, rfl, (sp_is rfl rfl).2 ⟨q3, z5, z6⟩, _, _, rfl, vp_is.2 rfl, rfl⟩) ?_
              rintro e w' ⟨v, rfl, hv, hb⟩; obtain rfl := val_of hv; exact ⟨rfl, hb⟩
            | false =>
              exact (no4 h2 h4 h5 h6 hh).elim
      | false =>
        cases h4 : decide (((b) / (c)) = (rh)) with
        | true =>
          cases h5 : decide (((a) / (d)) = (rl)) with
          | true =>
            have hC : (mkC [4, 4, 4, 4, 4, 4, 4, 4, 4, 4] [true, true, true, true, true, true, true, true, true, true] [26, 66, 64, 104] 55 (cl_ended_over_11 rl rh a b c d) w).Ok := mkC_ok (oks_cons (clQ_ok (by decide) _ _) <| oks_cons (clQ_ok (by decide) _ _) <| oks_cons (clQ_ok (by decide) _ _) <| oks_cons (clQ_ok (by decide) _ _) <| oks_cons (clQ_ok (by decide) _ _) <| oks_cons (clQ_ok (by decide) _ _) <| oks_cons (clQ_ok (by decide) _ _) <| oks_cons (clQ_ok (by decide) _ _) <| oks_cons (clQ_ok (by decide) _ _) <| oks_cons (clQ_ok (by decide) _ _) <| oks_nil) rfl rfl
            have hT : ∀ t ∈ t_ended_over_11, t.Valid (mkC [4, 4, 4, 4, 4, 4, 4, 4, 4, 4] [true, true, true, true, true, true, true, true, true, true] [26, 66, 64, 104] 55 (cl_ended_over_11 rl rh a b c d) w) :=
              forall_cons (e_quot hG (pq rfl) (pq rfl) rfl rfl nc) <|
              forall_cons (e_equal (pq rfl) (pq rfl) rfl h1) <|
              forall_cons (e_equal (pq rfl) (pq rfl) rfl h2) <|
              forall_cons (e_quot hG (pq rfl) (pq rfl) rfl rfl nc) <|
              forall_cons (e_equal (pq rfl) (pq rfl) rfl h3) <|
              forall_cons (e_equal (pq rfl) (pq rfl) rfl h4) <|
              forall_cons (e_quot hG (pq rfl) (pq rfl) rfl rfl nd) <|
              forall_cons (e_equal (pq rfl) (pq rfl) rfl h5) <|
              forall_cons (e_quot hG (pq rfl) (pq rfl) rfl rfl nd) <|
              forall_nil
            refine Calls.mono (run_mk hC hT 79 Tryz.f79 [sp 0 1, sp 2 3, sp 4 5, vp (.func (.func 80) #[] #[])] (.val (vp (.bool true))) 200 Tryz.func79 rfl rfl rfl (by kernel_rfl) [v1, v2, v3, .func (.func 80) #[] #[]] ⟨v1, _, rfl, (sp_is rfl rfl).2 ⟨q1, z1, z2⟩, v2, _, rfl, (sp_is rfl rfl).2 ⟨q2, z3, z4⟩, v3, _, rfl, (sp_is rfl rfl).2 ⟨q3, z5, z6⟩, _, _, rfl, vp_is.2 rfl, rfl⟩) ?_
            rintro e w' ⟨v, rfl, hv, hb⟩; obtain rfl := val_of hv; exact ⟨rfl, hb⟩
          | false =>
            cases h6 : decide (((b) / (d)) = (rl)) with
            | true =>
              have hC : (mkC [4, 4, 4, 4, 4, 4, 4, 4, 4, 4] [true, true, true, true, true, true, true, true, true, true] [26, 66, 64, 104] 55 (cl_ended_over_12 rl rh a b c d) w).Ok := mkC_ok (oks_cons (clQ_ok (by decide) _ _) <| oks_cons (clQ_ok (by decide) _ _) <| oks_cons (clQ_ok (by decide) _ _) <| oks_cons (clQ_ok (by decide) _ _) <| oks_cons (clQ_ok (by decide) _ _) <| oks_cons (clQ_ok (by decide) _ _) <| oks_cons (clQ_ok (by decide) _ _) <| oks_cons (clQ_ok (by decide) _ _) <| oks_cons (clQ_ok (by decide) _ _) <| oks_cons (clQ_ok (by decide) _ _) <| oks_nil) rfl rfl
              have hT : ∀ t ∈ t_ended_over_12, t.Valid (mkC [4, 4, 4, 4, 4, 4, 4, 4, 4, 4] [true, true, true, true, true, true, true, true, true, true] [26, 66, 64, 104] 55 (cl_ended_over_12 rl rh a b c d) w) :=
                forall_cons (e_quot hG (pq rfl) (pq rfl) rfl rfl nc) <|
                forall_cons (e_equal (pq rfl) (pq rfl) rfl h1) <|
                forall_cons (e_equal (pq rfl) (pq rfl) rfl h2) <|
                forall_cons (e_quot hG (pq rfl) (pq rfl) rfl rfl nc) <|
                forall_cons (e_equal (pq rfl) (pq rfl) rfl h3) <|
                forall_cons (e_equal (pq rfl) (pq rfl) rfl h4) <|
                forall_cons (e_quot hG (pq rfl) (pq rfl) rfl rfl nd) <|
                forall_cons (e_equal (pq rfl) (pq rfl) rfl h5) <|
                forall_cons (e_quot hG (pq rfl) (pq rfl) rfl rfl nd) <|
                forall_cons (e_equal (pq rfl) (pq rfl) rfl h6) <|
                forall_nil
              refine Calls.mono (run_mk hC hT 79 Tryz.f79 [sp 0 1, sp 2 3, sp 4 5, vp (.func (.func 80) #[] #[])] (.val (vp (.bool true))) 200 Tryz.func79 rfl rfl rfl (by kernel_rfl) [v1, v2, v3, .func (.func 80) #[] #[]] ⟨v1, _, rfl, (sp_is rfl rfl).2 ⟨q1, z1, z2⟩, v2, _, rfl, (sp_is rfl rfl).2 ⟨q2, z3, z4⟩, v3, _, rfl, (sp_is rfl rfl).2 ⟨q3, z5, z6⟩, _, _, rfl, vp_is.2 rfl, rfl⟩) ?_
              rintro e w' ⟨v, rfl, hv, hb⟩; obtain rfl := val_of hv; exact ⟨rfl, hb⟩
            | false =>
              exact (no4 h1 h3 h5 h6 hl).elim
        | false =>
          cases h5 : decide (((a) / (d)) = (rl)) with
          | true =>
            cases h6 : decide (((a) / (d)) = (rh)) with
            | true =>
              have hC : (mkC [4, 4, 4, 4, 4, 4, 4, 4, 4, 4] [true, true, true, true, true, true, true, true, true, true] [26, 66, 64, 104] 55 (cl_ended_over_13 rl rh a b c d) w).Ok := mkC_ok (oks_cons (clQ_ok (by decide) _ _) <| oks_cons (clQ_ok (by decide) _ _) <| oks_cons (clQ_ok (by decide) _ _) <| oks_cons (clQ_ok (by decide) _ _) <| oks_cons (clQ_ok (by decide) _ _) <| oks_cons (clQ_ok (by decide) _ _) <| oks_cons (clQ_ok (by decide) _ _) <| oks_cons (clQ_ok (by decide) _ _) <| oks_cons (clQ_ok (by decide) _ _) <| oks_cons (clQ_ok (by decide) _ _) <| oks_nil) rfl rfl
              have hT : ∀ t ∈ t_ended_over_13, t.Valid (mkC [4, 4, 4, 4, 4, 4, 4, 4, 4, 4] [true, true, true, true, true, true, true, true, true, true] [26, 66, 64, 104] 55 (cl_ended_over_13 rl rh a b c d) w) :=
                forall_cons (e_quot hG (pq rfl) (pq rfl) rfl rfl nc) <|
                forall_cons (e_equal (pq rfl) (pq rfl) rfl h1) <|
                forall_cons (e_equal (pq rfl) (pq rfl) rfl h2) <|
                forall_cons (e_quot hG (pq rfl) (pq rfl) rfl rfl nc) <|
                forall_cons (e_equal (pq rfl) (pq rfl) rfl h3) <|
                forall_cons (e_equal (pq rfl) (pq rfl) rfl h4) <|
                forall_cons (e_quot hG (pq rfl) (pq rfl) rfl rfl nd) <|
                forall_cons (e_equal (pq rfl) (pq rfl) rfl h5) <|
                forall_cons (e_equal (pq rfl) (pq rfl) rfl h6) <|
                forall_cons (e_quot hG (pq rfl) (pq rfl) rfl rfl nd) <|
                forall_nil
              refine Calls.mono (run_mk hC hT 79 Tryz.f79 [sp 0 1, sp 2 3, sp 4 5, vp (.func (.func 80) #[] #[])] (.val (vp (.bool true))) 200 Tryz.func79 rfl rfl rfl (by kernel_rfl) [v1, v2, v3, .func (.func 80) #[] #[]] ⟨v1, _, rfl, (sp_is rfl rfl).2 ⟨q1, z1, z2⟩, v2, _, rfl, (sp_is rfl rfl).2 ⟨q2, z3, z4⟩, v3, _, rfl, (sp_is rfl rfl).2 ⟨q3, z5, z6⟩, _, _, rfl, vp_is.2 rfl, rfl⟩) ?_
              rintro e w' ⟨v, rfl, hv, hb⟩; obtain rfl := val_of hv; exact ⟨rfl, hb⟩
            | false =>
              cases h7 : decide (((b) / (d)) = (rh)) with
              | true =>
                have hC : (mkC [4, 4, 4, 4, 4, 4, 4, 4, 4, 4] [true, true, true, true, true, true, true, true, true, true] [26, 66, 64, 104] 55 (cl_ended_over_14 rl rh a b c d) w).Ok := mkC_ok (oks_cons (clQ_ok (by decide) _ _) <| oks_cons (clQ_ok (by decide) _ _) <| oks_cons (clQ_ok (by decide) _ _) <| oks_cons (clQ_ok (by decide) _ _) <| oks_cons (clQ_ok (by decide) _ _) <| oks_cons (clQ_ok (by decide) _ _) <| oks_cons (clQ_ok (by decide) _ _) <| oks_cons (clQ_ok (by decide) _ _) <| oks_cons (clQ_ok (by decide) _ _) <| oks_cons (clQ_ok (by decide) _ _) <| oks_nil) rfl rfl
                have hT : ∀ t ∈ t_ended_over_14, t.Valid (mkC [4, 4, 4, 4, 4, 4, 4, 4, 4, 4] [true, true, true, true, true, true, true, true, true, true] [26, 66, 64, 104] 55 (cl_ended_over_14 rl rh a b c d) w) :=
                  forall_cons (e_quot hG (pq rfl) (pq rfl) rfl rfl nc) <|
                  forall_cons (e_equal (pq rfl) (pq rfl) rfl h1) <|
                  forall_cons (e_equal (pq rfl) (pq rfl) rfl h2) <|
                  forall_cons (e_quot hG (pq rfl) (pq rfl) rfl rfl nc) <|
                  forall_cons (e_equal (pq rfl) (pq rfl) rfl h3) <|
                  forall_cons (e_equal (pq rfl) (pq rfl) rfl h4) <|
                  forall_cons (e_quot hG (pq rfl) (pq rfl) rfl rfl nd) <|
                  forall_cons (e_equal (pq rfl) (pq rfl) rfl h5) <|
                  forall_cons (e_equal (pq rfl) (pq rfl) rfl h6) <|
                  forall_cons (e_quot hG (pq rfl) (pq rfl) rfl rfl nd) <|
                  forall_cons (e_equal (pq rfl) (pq rfl) rfl h7) <|
                  forall_nil
                refine Calls.mono (run_mk hC hT 79 Tryz.f79 [sp 0 1, sp 2 3, sp 4 5, vp (.func (.func 80) #[] #[])] (.val (vp (.bool true))) 200 Tryz.func79 rfl rfl rfl (by kernel_rfl) [v1, v2, v3, .func (.func 80) #[] #[]] ⟨v1, _, rfl, (sp_is rfl rfl).2 ⟨q1, z1, z2⟩, v2, _, rfl, (sp_is rfl rfl).2 ⟨q2, z3, z4⟩, v3, _, rfl, (sp_is rfl rfl).2 ⟨q3, z5, z6⟩, _, _, rfl, vp_is.2 rfl, rfl⟩) ?_
                rintro e w' ⟨v, rfl, hv, hb⟩; obtain rfl := val_of hv; exact ⟨rfl, hb⟩
              | false =>
                exact (no4 h2 h4 h6 h7 hh).elim
          | false =>
            cases h6 : decide (((a) / (d)) = (rh)) with
            | true =>
              cases h7 : decide (((b) / (d)) = (rl)) with
              | true =>
                have hC : (mkC [4, 4, 4, 4, 4, 4, 4, 4, 4, 4] [true, true, true, true, true, true, true, true, true, true] [26, 66, 64, 104] 55 (cl_ended_over_15 rl rh a b c d) w).Ok := mkC_ok (oks_cons (clQ_ok (by decide) _ _) <| oks_cons (clQ_ok (by decide) _ _) <| oks_cons (clQ_ok (by decide) _ _) <| oks_cons (clQ_ok (by decide) _ _) <| oks_cons (clQ_ok (by decide) _ _) <| oks_cons (clQ_ok (by decide) _ _) <| oks_cons (clQ_ok (by decide) _ _) <| oks_cons (clQ_ok (by decide) _ _) <| oks_cons (clQ_ok (by decide) _ _) <| oks_cons (clQ_ok (by decide) _ _) <| oks_nil) rfl rfl
                have hT : ∀ t ∈ t_ended_over_15, t.Valid (mkC [4, 4, 4, 4, 4, 4, 4, 4, 4, 4] [true, true, true, true, true, true, true, true, true, true] [26, 66, 64, 104] 55 (cl_ended_over_15 rl rh a b c d) w) :=
                  forall_cons (e_quot hG (pq rfl) (pq rfl) rfl rfl nc) <|
                  forall_cons (e_equal (pq rfl) (pq rfl) rfl h1) <|
                  forall_cons (e_equal (pq rfl) (pq rfl) rfl h2) <|
                  forall_cons (e_quot hG (pq rfl) (pq rfl) rfl rfl nc) <|
                  forall_cons (e_equal (pq rfl) (pq rfl) rfl h3) <|
                  forall_cons (e_equal (pq rfl) (pq rfl) rfl h4) <|
                  forall_cons (e_quot hG (pq rfl) (pq rfl) rfl rfl nd) <|
                  forall_cons (e_equal (pq rfl) (pq rfl) rfl h5) <|
                  forall_cons (e_equal (pq rfl) (pq rfl) rfl h6) <|
                  forall_cons (e_quot hG (pq rfl) (pq rfl) rfl rfl nd) <|
                  forall_cons (e_equal (pq rfl) (pq rfl) rfl h7) <|
                  forall_nil
                refine Calls.mono (run_mk hC hT 79 Tryz.f79 [sp 0 1, sp 2 3, sp 4 5, vp (.func (.func 80) #[] #[])] (.val (vp (.bool true))) 200 Tryz.func79 rfl rfl rfl (by kernel_rfl) [v1, v2, v3, .func (.func 80) #[] #[]] ⟨v1, _, rfl, (sp_is rfl rfl).2 ⟨q1, z1, z2⟩, v2, _, rfl, (sp_is rfl rfl).2 ⟨q2, z3, z4⟩, v3, _, rfl, (sp_is rfl rfl).2 ⟨q3, z5, z6⟩, _, _, rfl, vp_is.2 rfl, rfl⟩) ?_
                rintro e w' ⟨v, rfl, hv, hb⟩; obtain rfl := val_of hv; exact ⟨rfl, hb⟩
              | false =>
                exact (no4 h1 h3 h5 h7 hl).elim
            | false =>
              cases h7 : decide (((b) / (d)) = (rl)) with
              | true =>
                cases h8 : decide (((b) / (d)) = (rh)) with
                | true =>
                  have hC : (mkC [4, 4, 4, 4, 4, 4, 4, 4, 4, 4] [true, true, true, true, true, true, true, true, true, true] [26, 66, 64, 104] 55 (cl_ended_over_16 rl rh a b c d) w).Ok := mkC_ok (oks_cons (clQ_ok (by decide) _ _) <| oks_cons (clQ_ok (by decide) _ _) <| oks_cons (clQ_ok (by decide) _ _) <| oks_cons (clQ_ok (by decide) _ _) <| oks_cons (clQ_ok (by decide) _ _) <| oks_cons (clQ_ok (by decide) _ _) <| oks_cons (clQ_ok (by decide) _ _) <| oks_cons (clQ_ok (by decide) _ _) <| oks_cons (clQ_ok (by decide) _ _) <| oks_cons (clQ_ok (by decide) _ _) <| oks_nil) rfl rfl
                  have hT : ∀ t ∈ t_ended_over_16, t.Valid (mkC [4, 4, 4, 4, 4, 4, 4, 4, 4, 4] [true, true, true, true, true, true, true, true, true, true] [26, 66, 64, 104] 55 (cl_ended_over_16 rl rh a b c d) w) :=
                    forall_cons (e_quot hG (pq rfl) (pq rfl) rfl rfl nc) <|
                    forall_cons (e_equal (pq rfl) (pq rfl) rfl h1) <|
                    forall_cons (e_equal (pq rfl) (pq rfl) rfl h2) <|
                    forall_cons (e_quot hG (pq rfl) (pq rfl) rfl rfl nc) <|
                    forall_cons (e_equal (pq rfl) (pq rfl) rfl h3) <|
                    forall_cons (e_equal (pq rfl) (pq rfl) rfl h4) <|
                    forall_cons (e_quot hG (pq rfl) (pq rfl) rfl rfl nd) <|
                    forall_cons (e_equal (pq rfl) (pq rfl) rfl h5) <|
                    forall_cons (e_equal (pq rfl) (pq rfl) rfl h6) <|
                    forall_cons (e_quot hG (pq rfl) (pq rfl) rfl rfl nd) <|
                    forall_cons (e_equal (pq rfl) (pq rfl) rfl h7) <|
                    forall_cons (e_equal (pq rfl) (pq rfl) rfl h8) <|
                    forall_nil
                  refine Calls.mono (run_mk hC hT 79 Tryz.f79 [sp 0 1, sp 2 3, sp 4 5, vp (.func (.func 80) #[] #[])] (.val (vp (.bool true))) 200 Tryz.func79 rfl rfl rfl (by kernel_rfl) [v1, v2, v3, .func (.func 80) #[] #[]] ⟨v1, _, rfl, (sp_is rfl rfl).2 ⟨q1, z1, z2⟩, v2, _, rfl, (sp_is rfl rfl).2 ⟨q2, z3, z4⟩, v3, _, rfl, (sp_is rfl rfl).2 ⟨q3, z5, z6⟩, _, _, rfl, vp_is.2 rfl, rfl⟩) ?_
                  rintro e w' ⟨v, rfl, hv, hb⟩; obtain rfl := val_of hv; exact ⟨rfl, hb⟩
                | false =>
                  exact (no4 h2 h4 h6 h8 hh).elim
              | false =>
                cases h8 : decide (((b) / (d)) = (rh)) with
                | true =>
                  exact (no4 h1 h3 h5 h7 hl).elim
                | false =>
                  exact (no4 h1 h3 h5 h7 hl).elim

end Sym
end Go.Proofs.YtnolcmoecodeaaaGreatDoor

/- Entries of law.ended; the mathematics of ExactHolds. -/
namespace Go.Proofs.YtnolcmoecodeaaaGreatDoor
open Go Go.RowKit Go.Proofs Lim
namespace Sym
section
variable {csz : List Nat} {numc : List Bool} {okT : List Nat} {nt : Nat} {cl : List Cl} {w0 : World} {p1 p2 p3 p4 : Pat} {c1 c2 c3 c4 c5 c6 : Nat} {r s a b c d g lo hi : Rat} {k k1 k2 k3 k4 k5 k6 : Nat}
def larges (l : List Nat) : Bool := l.all (fun k => Nat.ble k 100000)
theorem larges_le {l : List Nat} (h : larges l = true) : ∀ k ∈ l, k ≤ 100000 := fun k hk => Nat.le_of_ble_eq_true (List.all_eq_true.1 h k hk)
theorem mem4 {x p q r s : Rat} (h : x = p ∨ x = q ∨ x = r ∨ x = s) : x = p ∨ x = r ∨ x = q ∨ x = s := by
  rcases h with h | h | h | h <;> simp [h]
theorem e_ended_plus (hG : Gr w0) (h1 : PS csz numc okT nt cl w0 p1 (wLow (fun r s => r + s) a b c d) k1 (wHigh (fun r s => r + s) a b c d) k2) (h2 : PS csz numc okT nt cl w0 p2 a k3 b k4) (h3 : PS csz numc okT nt cl w0 p3 c k5 d k6) (hk : larges [k1, k2, k3, k4, k5, k6] = true) :
    V csz numc okT nt cl w0 (.call 79) [p1, p2, p3, vp (.func (.func 29) #[] #[])] (.val (vp (.bool true))) := by
  have hk := larges_le hk
  refine ⟨enters_of Tryz.func79 (by kernel_rfl) rfl, fun w vs hb hvs => ?_⟩
  obtain ⟨v1, _, rfl, h7, v2, _, rfl, h8, v3, _, rfl, h9, v4, _, rfl, h10, rfl⟩ := hvs
  obtain ⟨q1, z1, z2⟩ := h1 _ _ h7
  obtain ⟨q2, z3, z4⟩ := h2 _ _ h8
  obtain ⟨q3, z5, z6⟩ := h3 _ _ h9
  obtain rfl := vp_is.1 h10
  refine (ended_plus v1 v2 v3 _ _ a b c d w (hG.below hb hG.size) q1 q2 q3 (z1.le (hk k1 (by simp))) (z2.le (hk k2 (by simp))) (z3.le (hk k3 (by simp))) (z4.le (hk k4 (by simp))) (z5.le (hk k5 (by simp))) (z6.le (hk k6 (by simp))) (mem4 (wLow_mem _ a b c d)) (mem4 (wHigh_mem _ a b c d))).mono ?_
  rintro e w' ⟨rfl, hb'⟩
  exact ⟨_, rfl, vp_r _ _ _, hb'⟩
theorem e_ended_minus (hG : Gr w0) (h1 : PS csz numc okT nt cl w0 p1 (wLow (fun r s => r - s) a b c d) k1 (wHigh (fun r s => r - s) a b c d) k2) (h2 : PS csz numc okT nt cl w0 p2 a k3 b k4) (h3 : PS csz numc okT nt cl w0 p3 c k5 d k6) (hk : larges [k1, k2, k3, k4, k5, k6] = true) :
    V csz numc okT nt cl w0 (.call 79) [p1, p2, p3, vp (.func (.func 31) #[] #[])] (.val (vp (.bool true))) := by
  have hk := larges_le hk
  refine ⟨enters_of Tryz.func79 (by kernel_rfl) rfl, fun w vs hb hvs => ?_⟩
  obtain ⟨v1, _, rfl, h7, v2, _, rfl, h8, v3, _, rfl, h9, v4, _, rfl, h10, rfl⟩ := hvs
  obtain ⟨q1, z1, z2⟩ := h1 _ _ h7
  obtain ⟨q2, z3, z4⟩ := h2 _ _ h8
  obtain ⟨q3, z5, z6⟩ := h3 _ _ h9
  obtain rfl := vp_is.1 h10
  refine (ended_minus v1 v2 v3 _ _ a b c d w (hG.below hb hG.size) q1 q2 q3 (z1.le (hk k1 (by simp))) (z2.le (hk k2 (by simp))) (z3.le (hk k3 (by simp))) (z4.le (hk k4 (by simp))) (z5.le (hk k5 (by simp))) (z6.le (hk k6 (by simp))) (mem4 (wLow_mem _ a b c d)) (mem4 (wHigh_mem _ a b c d))).mono ?_
  rintro e w' ⟨rfl, hb'⟩
  exact ⟨_, rfl, vp_r _ _ _, hb'⟩
theorem e_ended_times (hG : Gr w0) (h1 : PS csz numc okT nt cl w0 p1 (wLow (fun r s => r * s) a b c d) k1 (wHigh (fun r s => r * s) a b c d) k2) (h2 : PS csz numc okT nt cl w0 p2 a k3 b k4) (h3 : PS csz numc okT nt cl w0 p3 c k5 d k6) (hk : larges [k1, k2, k3, k4, k5, k6] = true) :
    V csz numc okT nt cl w0 (.call 79) [p1, p2, p3, vp (.func (.func 33) #[] #[])] (.val (vp (.bool true))) := by
  have hk := larges_le hk
  refine ⟨enters_of Tryz.func79 (by kernel_rfl) rfl, fun w vs hb hvs => ?_⟩
  obtain ⟨v1, _, rfl, h7, v2, _, rfl, h8, v3, _, rfl, h9, v4, _, rfl, h10, rfl⟩ := hvs
  obtain ⟨q1, z1, z2⟩ := h1 _ _ h7
  obtain ⟨q2, z3, z4⟩ := h2 _ _ h8
  obtain ⟨q3, z5, z6⟩ := h3 _ _ h9
  obtain rfl := vp_is.1 h10
  refine (ended_times v1 v2 v3 _ _ a b c d w (hG.below hb hG.size) q1 q2 q3 (z1.le (hk k1 (by simp))) (z2.le (hk k2 (by simp))) (z3.le (hk k3 (by simp))) (z4.le (hk k4 (by simp))) (z5.le (hk k5 (by simp))) (z6.le (hk k6 (by simp))) (mem4 (wLow_mem _ a b c d)) (mem4 (wHigh_mem _ a b c d))).mono ?_
  rintro e w' ⟨rfl, hb'⟩
  exact ⟨_, rfl, vp_r _ _ _, hb'⟩
theorem e_ended_over (hG : Gr w0) (h1 : PS csz numc okT nt cl w0 p1 (wLow (fun r s => r * s⁻¹) a b c d) k1 (wHigh (fun r s => r * s⁻¹) a b c d) k2) (h2 : PS csz numc okT nt cl w0 p2 a k3 b k4) (h3 : PS csz numc okT nt cl w0 p3 c k5 d k6) (hk : larges [k1, k2, k3, k4, k5, k6] = true) (h0 : hasQ c d 0 = false) :
    V csz numc okT nt cl w0 (.call 79) [p1, p2, p3, vp (.func (.func 80) #[] #[])] (.val (vp (.bool true))) := by
  have hk := larges_le hk
  have nc : c ≠ 0 := fun e => num_of_has h0 (.inl rfl) (num_zero.2 e)
  have nd : d ≠ 0 := fun e => num_of_has h0 (.inr rfl) (num_zero.2 e)
  refine ⟨enters_of Tryz.func79 (by kernel_rfl) rfl, fun w vs hb hvs => ?_⟩
  obtain ⟨v1, _, rfl, h7, v2, _, rfl, h8, v3, _, rfl, h9, v4, _, rfl, h10, rfl⟩ := hvs
  obtain ⟨q1, z1, z2⟩ := h1 _ _ h7
  obtain ⟨q2, z3, z4⟩ := h2 _ _ h8
  obtain ⟨q3, z5, z6⟩ := h3 _ _ h9
  obtain rfl := vp_is.1 h10
  have m1 := mem4 (wLow_mem (fun r s => r * s⁻¹) a b c d)
  have m2 := mem4 (wHigh_mem (fun r s => r * s⁻¹) a b c d)
  simp only [← Rat.div_def] at m1 m2
  simp only [← Rat.div_def] at q1 z1 z2
  refine (ended_over v1 v2 v3 _ _ a b c d w (hG.below hb hG.size) q1 q2 q3 (z1.le (hk k1 (by simp))) (z2.le (hk k2 (by simp))) (z3.le (hk k3 (by simp))) (z4.le (hk k4 (by simp))) (z5.le (hk k5 (by simp))) (z6.le (hk k6 (by simp))) (decide_eq_false nc) (decide_eq_false nd) m1 m2).mono ?_
  rintro e w' ⟨rfl, hb'⟩
  exact ⟨_, rfl, vp_r _ _ _, hb'⟩
end

/-! What two spans have in common. -/
theorem lowOf_one (a b : Rat) : lowOf a [b] = if b < a then b else a := rfl
theorem highOf_one (a b : Rat) : highOf a [b] = if a < b then b else a := rfl
theorem cmp_ne1 {x y : Rat} (h : cmpQ x y ≠ 1) : x ≤ y := by
  unfold cmpQ at h
  by_cases h1 : y < x
  · rw [if_neg (by grind), if_pos h1] at h
    exact absurd rfl h
  · exact Rat.not_lt.1 h1
theorem cmp_eq1 {x y : Rat} (h : cmpQ x y = 1) : y < x := by
  unfold cmpQ at h
  split at h
  · cases h
  · split at h
    · assumption
    · cases h
theorem has_of {a b x : Rat} (h1 : lowOf a [b] ≤ x) (h2 : x ≤ highOf a [b]) : hasQ a b x = true := by
  simp [hasQ, h1, h2]
theorem has_le {a b x : Rat} (h : hasQ a b x = true) : lowOf a [b] ≤ x ∧ x ≤ highOf a [b] := by
  simpa [hasQ] using h
theorem high1 (a b : Rat) : a ≤ highOf a [b] ∧ b ≤ highOf a [b] := ⟨le_highOf_head _ _, le_highOf_mem (by simp)⟩
theorem low1 (a b : Rat) : lowOf a [b] ≤ a ∧ lowOf a [b] ≤ b := ⟨lowOf_le_head _ _, lowOf_le_mem (by simp)⟩
theorem high1_le {a b x : Rat} (h1 : a ≤ x) (h2 : b ≤ x) : highOf a [b] ≤ x := by rw [highOf_one]; split <;> assumption
theorem low1_le {a b x : Rat} (h1 : x ≤ a) (h2 : x ≤ b) : x ≤ lowOf a [b] := by rw [lowOf_one]; split <;> assumption
section
variable {a b c d x : Rat}
theorem meet_low_s (h : cmpQ (highOf (lowOf a [b]) [lowOf c [d]]) (lowOf (highOf a [b]) [highOf c [d]]) ≠ 1) : hasQ a b (highOf (lowOf a [b]) [lowOf c [d]]) = true :=
  has_of (high1 _ _).1 (Rat.le_trans (cmp_ne1 h) (low1 _ _).1)
theorem meet_low_t (h : cmpQ (highOf (lowOf a [b]) [lowOf c [d]]) (lowOf (highOf a [b]) [highOf c [d]]) ≠ 1) : hasQ c d (highOf (lowOf a [b]) [lowOf c [d]]) = true :=
  has_of (high1 _ _).2 (Rat.le_trans (cmp_ne1 h) (low1 _ _).2)
theorem meet_high_s (h : cmpQ (highOf (lowOf a [b]) [lowOf c [d]]) (lowOf (highOf a [b]) [highOf c [d]]) ≠ 1) : hasQ a b (lowOf (highOf a [b]) [highOf c [d]]) = true :=
  has_of (Rat.le_trans (high1 _ _).1 (cmp_ne1 h)) (low1 _ _).1
theorem meet_high_t (h : cmpQ (highOf (lowOf a [b]) [lowOf c [d]]) (lowOf (highOf a [b]) [highOf c [d]]) ≠ 1) : hasQ c d (lowOf (highOf a [b]) [highOf c [d]]) = true :=
  has_of (Rat.le_trans (high1 _ _).2 (cmp_ne1 h)) (low1 _ _).2
theorem meet_not (h : cmpQ (highOf (lowOf a [b]) [lowOf c [d]]) (lowOf (highOf a [b]) [highOf c [d]]) = 1) (hc : Btw c d x) : hasQ a b x = false := by
  cases hh : hasQ a b x with
  | false => rfl
  | true =>
    exfalso
    have h1 := has_le hh
    have h2 := has_le ((hasQ_iff c d x).2 hc)
    have h3 := cmp_eq1 h
    have h4 : highOf (lowOf a [b]) [lowOf c [d]] ≤ x := high1_le h1.1 h2.1
    have h5 : x ≤ lowOf (highOf a [b]) [highOf c [d]] := low1_le h1.2 h2.2
    grind
theorem meet_not' (h : cmpQ (highOf (lowOf a [b]) [lowOf c [d]]) (lowOf (highOf a [b]) [highOf c [d]]) = 1) (hc : Btw a b x) : hasQ c d x = false := by
  cases hh : hasQ c d x with
  | false => rfl
  | true =>
    have := meet_not h ((hasQ_iff c d x).1 hh)
    rw [(hasQ_iff a b x).2 hc] at this
    cases this
theorem meet_has (h : cmpQ (highOf (lowOf a [b]) [lowOf c [d]]) (lowOf (highOf a [b]) [highOf c [d]]) ≠ 1) (hx : Btw a b x) : hasQ (highOf (lowOf a [b]) [lowOf c [d]]) (lowOf (highOf a [b]) [highOf c [d]]) x = hasQ c d x := by
  have h1 := has_le ((hasQ_iff a b x).2 hx)
  have h3 := cmp_ne1 h
  have e1 : lowOf (highOf (lowOf a [b]) [lowOf c [d]]) [lowOf (highOf a [b]) [highOf c [d]]] = highOf (lowOf a [b]) [lowOf c [d]] := by
    rw [lowOf_one, if_neg (by grind)]
  have e2 : highOf (highOf (lowOf a [b]) [lowOf c [d]]) [lowOf (highOf a [b]) [highOf c [d]]] = lowOf (highOf a [b]) [highOf c [d]] := by
    rw [highOf_one]
    split
    · rfl
    · grind
  have i1 : highOf (lowOf a [b]) [lowOf c [d]] ≤ x ↔ lowOf c [d] ≤ x := ⟨fun h => Rat.le_trans (high1 _ _).2 h, fun h => high1_le h1.1 h⟩
  have i2 : x ≤ lowOf (highOf a [b]) [highOf c [d]] ↔ x ≤ highOf c [d] := ⟨fun h => Rat.le_trans h (low1 _ _).2, fun h => low1_le h1.2 h⟩
  unfold hasQ
  rw [e1, e2, decide_eq_decide.2 i1, decide_eq_decide.2 i2]
end
theorem not_zero {c d y : Rat} (h0 : hasQ c d 0 = false) (hy : Btw c d y) : decide (y = 0) = false := by
  refine decide_eq_false ?_
  rintro rfl
  exact hasQ_false h0 hy
theorem over_has {a b c d x y : Rat} (hx : Btw a b x) (hy : Btw c d y) (h0 : hasQ c d 0 = false) : hasQ (wLow (fun r s => r * s⁻¹) a b c d) (wHigh (fun r s => r * s⁻¹) a b c d) (x / y) = true := by
  rw [Rat.div_def]
  exact (hasQ_iff _ _ _).2 (over_in hx hy (hasQ_false h0))
end Sym
end Go.Proofs.YtnolcmoecodeaaaGreatDoor
