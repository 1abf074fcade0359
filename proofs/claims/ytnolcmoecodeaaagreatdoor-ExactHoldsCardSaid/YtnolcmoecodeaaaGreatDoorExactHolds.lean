/- ExactHolds: for all texts and places the call returns true: results of numbers of spans lie in the spans of results, whose ends are results of ends. No condition. -/
import Derived.Test.YtnolcmoecodeaaaGreatDoorJ5
import Derived.Test.YtnolcmoecodeaaaGreatDoorJF
set_option linter.unusedVariables false
set_option linter.unusedSimpArgs false

/- ExactHolds: for all texts and places the call returns true: results of numbers of spans lie in the spans of results, whose ends are results of ends. No condition. -/
namespace Go.Proofs.YtnolcmoecodeaaaGreatDoor
open Go Go.RowKit Go.Proofs Lim
namespace Sym

noncomputable def cl_holds_1 (la : List UInt8) (lb : List UInt8) (lc : List UInt8) (ld : List UInt8) (le : List UInt8) (lf : List UInt8) (lg : List UInt8) (xa : Rat) (xb : Rat) (xc : Rat) (xd : Rat) (m : Nat) (n : Nat) : List Cl := [
  clV (str la),
  clV (str lb),
  clV (str lc),
  clV (str ld),
  clV (str le),
  clV (str lf),
  clV (.int .u8 (m : Int)),
  clV (.int .u8 (n : Int)),
  clV (str lg)]

def t_holds_1 : List Ent := [
  ⟨.call 27, [.slc 9 4 [.cls 0 1, .cls 1 1, .cls 2 1, .cls 3 1]], (.val (vp (.bool true)))⟩,
  ⟨.call 14, [], (.val (vp (.bool true)))⟩]

noncomputable def cl_holds_2 (la : List UInt8) (lb : List UInt8) (lc : List UInt8) (ld : List UInt8) (le : List UInt8) (lf : List UInt8) (lg : List UInt8) (xa : Rat) (xb : Rat) (xc : Rat) (xd : Rat) (m : Nat) (n : Nat) : List Cl := [
  clV (str la),
  clV (str lb),
  clV (str lc),
  clV (str ld),
  clV (str le),
  clV (str lf),
  clV (.int .u8 (m : Int)),
  clV (.int .u8 (n : Int)),
  clV (str lg),
  clQ (xa) 121,
  clQ (xb) 121,
  clQ (lowOf (xa) [xb]) 242,
  clQ (highOf (xa) [xb]) 242,
  clQ (xc) 121,
  clQ (xd) 121,
  clQ (lowOf (xc) [xd]) 242,
  clQ (highOf (xc) [xd]) 242,
  clQ ((lowOf (xa) [xb]) + ((highOf (xa) [xb]) - (lowOf (xa) [xb])) * partOf m) 70,
  clQ ((lowOf (xc) [xd]) + ((highOf (xc) [xd]) - (lowOf (xc) [xd])) * partOf n) 70,
  clQ (wLow (fun r s => r + s) (lowOf (xa) [xb]) (highOf (xa) [xb]) (lowOf (xc) [xd]) (highOf (xc) [xd])) 1937,
  clQ (wHigh (fun r s => r + s) (lowOf (xa) [xb]) (highOf (xa) [xb]) (lowOf (xc) [xd]) (highOf (xc) [xd])) 1937,
  clQ (((lowOf (xa) [xb]) + ((highOf (xa) [xb]) - (lowOf (xa) [xb])) * partOf m) + ((lowOf (xc) [xd]) + ((highOf (xc) [xd]) - (lowOf (xc) [xd])) * partOf n)) 141,
  clQ (wLow (fun r s => r - s) (lowOf (xa) [xb]) (highOf (xa) [xb]) (lowOf (xc) [xd]) (highOf (xc) [xd])) 1937,
  clQ (wHigh (fun r s => r - s) (lowOf (xa) [xb]) (highOf (xa) [xb]) (lowOf (xc) [xd]) (highOf (xc) [xd])) 1937,
  clQ (((lowOf (xa) [xb]) + ((highOf (xa) [xb]) - (lowOf (xa) [xb])) * partOf m) - ((lowOf (xc) [xd]) + ((highOf (xc) [xd]) - (lowOf (xc) [xd])) * partOf n)) 141,
  clQ (wLow (fun r s => r * s) (lowOf (xa) [xb]) (highOf (xa) [xb]) (lowOf (xc) [xd]) (highOf (xc) [xd])) 1937,
  clQ (wHigh (fun r s => r * s) (lowOf (xa) [xb]) (highOf (xa) [xb]) (lowOf (xc) [xd]) (highOf (xc) [xd])) 1937,
  clQ (((lowOf (xa) [xb]) + ((highOf (xa) [xb]) - (lowOf (xa) [xb])) * partOf m) * ((lowOf (xc) [xd]) + ((highOf (xc) [xd]) - (lowOf (xc) [xd])) * partOf n)) 140,
  clQ (lowOf ((lowOf (xa) [xb]) * (lowOf (xa) [xb])) (turnVals (hasQ (lowOf (xa) [xb]) (highOf (xa) [xb]) 0) ((highOf (xa) [xb]) * (highOf (xa) [xb])) (0 * 0))) 968,
  clQ (highOf ((lowOf (xa) [xb]) * (lowOf (xa) [xb])) (turnVals (hasQ (lowOf (xa) [xb]) (highOf (xa) [xb]) 0) ((highOf (xa) [xb]) * (highOf (xa) [xb])) (0 * 0))) 968,
  clQ (((lowOf (xa) [xb]) + ((highOf (xa) [xb]) - (lowOf (xa) [xb])) * partOf m) * ((lowOf (xa) [xb]) + ((highOf (xa) [xb]) - (lowOf (xa) [xb])) * partOf m)) 140,
  clQ (lowOf (absQ (lowOf (xa) [xb])) (turnVals (hasQ (lowOf (xa) [xb]) (highOf (xa) [xb]) 0) (absQ (highOf (xa) [xb])) (absQ 0))) 968,
  clQ (highOf (absQ (lowOf (xa) [xb])) (turnVals (hasQ (lowOf (xa) [xb]) (highOf (xa) [xb]) 0) (absQ (highOf (xa) [xb])) (absQ 0))) 968,
  clQ (absQ ((lowOf (xa) [xb]) + ((highOf (xa) [xb]) - (lowOf (xa) [xb])) * partOf m)) 70,
  clQ (lowOf (lowOf (xa) [xb]) [highOf (xa) [xb], lowOf (xc) [xd], highOf (xc) [xd]]) 968,
  clQ (highOf (lowOf (xa) [xb]) [highOf (xa) [xb], lowOf (xc) [xd], highOf (xc) [xd]]) 968,
  clQ (0) 300000]

def t_holds_2 : List Ent := [
  ⟨.call 27, [.slc 9 4 [.cls 0 1, .cls 1 1, .cls 2 1, .cls 3 1]], (.val (vp (.bool false)))⟩,
  ⟨.call 76, [op 0], (.val (qp 9))⟩,
  ⟨.call 76, [op 1], (.val (qp 10))⟩,
  ⟨.call 59, [qp 9, qp 10], (.val (sp 11 12))⟩,
  ⟨.call 76, [op 2], (.val (qp 13))⟩,
  ⟨.call 76, [op 3], (.val (qp 14))⟩,
  ⟨.call 59, [qp 13, qp 14], (.val (sp 15 16))⟩,
  ⟨.call 78, [sp 11 12, op 6], (.val (qp 17))⟩,
  ⟨.call 78, [sp 15 16, op 7], (.val (qp 18))⟩,
  ⟨.call 60, [sp 11 12, qp 17], (.val (vp (.bool true)))⟩,
  ⟨.call 60, [sp 15 16, qp 18], (.val (vp (.bool true)))⟩,
  ⟨.call 51, [sp 11 12, sp 15 16], (.val (sp 19 20))⟩,
  ⟨.call 29, [qp 17, qp 18], (.val (qp 21))⟩,
  ⟨.call 60, [sp 19 20, qp 21], (.val (vp (.bool true)))⟩,
  ⟨.call 53, [sp 11 12, sp 15 16], (.val (sp 22 23))⟩,
  ⟨.call 31, [qp 17, qp 18], (.val (qp 24))⟩,
  ⟨.call 60, [sp 22 23, qp 24], (.val (vp (.bool true)))⟩,
  ⟨.call 55, [sp 11 12, sp 15 16], (.val (sp 25 26))⟩,
  ⟨.call 33, [qp 17, qp 18], (.val (qp 27))⟩,
  ⟨.call 60, [sp 25 26, qp 27], (.val (vp (.bool true)))⟩,
  ⟨.call 62, [sp 11 12], (.val (sp 28 29))⟩,
  ⟨.call 33, [qp 17, qp 17], (.val (qp 30))⟩,
  ⟨.call 60, [sp 28 29, qp 30], (.val (vp (.bool true)))⟩,
  ⟨.call 64, [sp 11 12], (.val (sp 31 32))⟩,
  ⟨.call 43, [qp 17], (.val (qp 33))⟩,
  ⟨.call 60, [sp 31 32, qp 33], (.val (vp (.bool true)))⟩,
  ⟨.call 57, [sp 11 12, sp 15 16], (.val (sp 34 35))⟩,
  ⟨.call 60, [sp 34 35, qp 17], (.val (vp (.bool true)))⟩,
  ⟨.call 60, [sp 34 35, qp 18], (.val (vp (.bool true)))⟩,
  ⟨.call 68, [sp 11 12, sp 15 16], (.tup [sp 36 36, vp (.int .i64 10)])⟩,
  ⟨.call 60, [sp 15 16, zq], (.val (vp (.bool true)))⟩,
  ⟨.call 79, [sp 19 20, sp 11 12, sp 15 16, vp (.func (.func 29) #[] #[])], (.val (vp (.bool true)))⟩,
  ⟨.call 79, [sp 22 23, sp 11 12, sp 15 16, vp (.func (.func 31) #[] #[])], (.val (vp (.bool true)))⟩,
  ⟨.call 79, [sp 25 26, sp 11 12, sp 15 16, vp (.func (.func 33) #[] #[])], (.val (vp (.bool true)))⟩,
  ⟨.call 66, [sp 11 12, sp 15 16], (.tup [sp 36 36, vp (.bool false)])⟩,
  ⟨.call 60, [sp 11 12, qp 18], (.val (vp (.bool false)))⟩,
  ⟨.call 60, [sp 15 16, qp 17], (.val (vp (.bool false)))⟩,
  ⟨.call 14, [], (.val (vp (.bool true)))⟩]

noncomputable def cl_holds_3 (la : List UInt8) (lb : List UInt8) (lc : List UInt8) (ld : List UInt8) (le : List UInt8) (lf : List UInt8) (lg : List UInt8) (xa : Rat) (xb : Rat) (xc : Rat) (xd : Rat) (m : Nat) (n : Nat) : List Cl := [
  clV (str la),
  clV (str lb),
  clV (str lc),
  clV (str ld),
  clV (str le),
  clV (str lf),
  clV (.int .u8 (m : Int)),
  clV (.int .u8 (n : Int)),
  clV (str lg),
  clQ (xa) 121,
  clQ (xb) 121,
  clQ (lowOf (xa) [xb]) 242,
  clQ (highOf (xa) [xb]) 242,
  clQ (xc) 121,
  clQ (xd) 121,
  clQ (lowOf (xc) [xd]) 242,
  clQ (highOf (xc) [xd]) 242,
  clQ ((lowOf (xa) [xb]) + ((highOf (xa) [xb]) - (lowOf (xa) [xb])) * partOf m) 70,
  clQ ((lowOf (xc) [xd]) + ((highOf (xc) [xd]) - (lowOf (xc) [xd])) * partOf n) 70,
  clQ (wLow (fun r s => r + s) (lowOf (xa) [xb]) (highOf (xa) [xb]) (lowOf (xc) [xd]) (highOf (xc) [xd])) 1937,
  clQ (wHigh (fun r s => r + s) (lowOf (xa) [xb]) (highOf (xa) [xb]) (lowOf (xc) [xd]) (highOf (xc) [xd])) 1937,
  clQ (((lowOf (xa) [xb]) + ((highOf (xa) [xb]) - (lowOf (xa) [xb])) * partOf m) + ((lowOf (xc) [xd]) + ((highOf (xc) [xd]) - (lowOf (xc) [xd])) * partOf n)) 141,
  clQ (wLow (fun r s => r - s) (lowOf (xa) [xb]) (highOf (xa) [xb]) (lowOf (xc) [xd]) (highOf (xc) [xd])) 1937,
  clQ (wHigh (fun r s => r - s) (lowOf (xa) [xb]) (highOf (xa) [xb]) (lowOf (xc) [xd]) (highOf (xc) [xd])) 1937,
  clQ (((lowOf (xa) [xb]) + ((highOf (xa) [xb]) - (lowOf (xa) [xb])) * partOf m) - ((lowOf (xc) [xd]) + ((highOf (xc) [xd]) - (lowOf (xc) [xd])) * partOf n)) 141,
  clQ (wLow (fun r s => r * s) (lowOf (xa) [xb]) (highOf (xa) [xb]) (lowOf (xc) [xd]) (highOf (xc) [xd])) 1937,
  clQ (wHigh (fun r s => r * s) (lowOf (xa) [xb]) (highOf (xa) [xb]) (lowOf (xc) [xd]) (highOf (xc) [xd])) 1937,
  clQ (((lowOf (xa) [xb]) + ((highOf (xa) [xb]) - (lowOf (xa) [xb])) * partOf m) * ((lowOf (xc) [xd]) + ((highOf (xc) [xd]) - (lowOf (xc) [xd])) * partOf n)) 140,
  clQ (lowOf ((lowOf (xa) [xb]) * (lowOf (xa) [xb])) (turnVals (hasQ (lowOf (xa) [xb]) (highOf (xa) [xb]) 0) ((highOf (xa) [xb]) * (highOf (xa) [xb])) (0 * 0))) 968,
  clQ (highOf ((lowOf (xa) [xb]) * (lowOf (xa) [xb])) (turnVals (hasQ (lowOf (xa) [xb]) (highOf (xa) [xb]) 0) ((highOf (xa) [xb]) * (highOf (xa) [xb])) (0 * 0))) 968,
  clQ (((lowOf (xa) [xb]) + ((highOf (xa) [xb]) - (lowOf (xa) [xb])) * partOf m) * ((lowOf (xa) [xb]) + ((highOf (xa) [xb]) - (lowOf (xa) [xb])) * partOf m)) 140,
  clQ (lowOf (absQ (lowOf (xa) [xb])) (turnVals (hasQ (lowOf (xa) [xb]) (highOf (xa) [xb]) 0) (absQ (highOf (xa) [xb])) (absQ 0))) 968,
  clQ (highOf (absQ (lowOf (xa) [xb])) (turnVals (hasQ (lowOf (xa) [xb]) (highOf (xa) [xb]) 0) (absQ (highOf (xa) [xb])) (absQ 0))) 968,
  clQ (absQ ((lowOf (xa) [xb]) + ((highOf (xa) [xb]) - (lowOf (xa) [xb])) * partOf m)) 70,
  clQ (lowOf (lowOf (xa) [xb]) [highOf (xa) [xb], lowOf (xc) [xd], highOf (xc) [xd]]) 968,
  clQ (highOf (lowOf (xa) [xb]) [highOf (xa) [xb], lowOf (xc) [xd], highOf (xc) [xd]]) 968,
  clQ (0) 300000,
  clQ (highOf (lowOf (lowOf (xa) [xb]) [highOf (xa) [xb]]) [lowOf (lowOf (xc) [xd]) [highOf (xc) [xd]]]) 10000,
  clQ (lowOf (highOf (lowOf (xa) [xb]) [highOf (xa) [xb]]) [highOf (lowOf (xc) [xd]) [highOf (xc) [xd]]]) 10000]

def t_holds_3 : List Ent := [
  ⟨.call 27, [.slc 9 4 [.cls 0 1, .cls 1 1, .cls 2 1, .cls 3 1]], (.val (vp (.bool false)))⟩,
  ⟨.call 76, [op 0], (.val (qp 9))⟩,
  ⟨.call 76, [op 1], (.val (qp 10))⟩,
  ⟨.call 59, [qp 9, qp 10], (.val (sp 11 12))⟩,
  ⟨.call 76, [op 2], (.val (qp 13))⟩,
  ⟨.call 76, [op 3], (.val (qp 14))⟩,
  ⟨.call 59, [qp 13, qp 14], (.val (sp 15 16))⟩,
  ⟨.call 78, [sp 11 12, op 6], (.val (qp 17))⟩,
  ⟨.call 78, [sp 15 16, op 7], (.val (qp 18))⟩,
  ⟨.call 60, [sp 11 12, qp 17], (.val (vp (.bool true)))⟩,
  ⟨.call 60, [sp 15 16, qp 18], (.val (vp (.bool true)))⟩,
  ⟨.call 51, [sp 11 12, sp 15 16], (.val (sp 19 20))⟩,
  ⟨.call 29, [qp 17, qp 18], (.val (qp 21))⟩,
  ⟨.call 60, [sp 19 20, qp 21], (.val (vp (.bool true)))⟩,
  ⟨.call 53, [sp 11 12, sp 15 16], (.val (sp 22 23))⟩,
  ⟨.call 31, [qp 17, qp 18], (.val (qp 24))⟩,
  ⟨.call 60, [sp 22 23, qp 24], (.val (vp (.bool true)))⟩,
  ⟨.call 55, [sp 11 12, sp 15 16], (.val (sp 25 26))⟩,
  ⟨.call 33, [qp 17, qp 18], (.val (qp 27))⟩,
  ⟨.call 60, [sp 25 26, qp 27], (.val (vp (.bool true)))⟩,
  ⟨.call 62, [sp 11 12], (.val (sp 28 29))⟩,
  ⟨.call 33, [qp 17, qp 17], (.val (qp 30))⟩,
  ⟨.call 60, [sp 28 29, qp 30], (.val (vp (.bool true)))⟩,
  ⟨.call 64, [sp 11 12], (.val (sp 31 32))⟩,
  ⟨.call 43, [qp 17], (.val (qp 33))⟩,
  ⟨.call 60, [sp 31 32, qp 33], (.val (vp (.bool true)))⟩,
  ⟨.call 57, [sp 11 12, sp 15 16], (.val (sp 34 35))⟩,
  ⟨.call 60, [sp 34 35, qp 17], (.val (vp (.bool true)))⟩,
  ⟨.call 60, [sp 34 35, qp 18], (.val (vp (.bool true)))⟩,
  ⟨.call 68, [sp 11 12, sp 15 16], (.tup [sp 36 36, vp (.int .i64 10)])⟩,
  ⟨.call 60, [sp 15 16, zq], (.val (vp (.bool true)))⟩,
  ⟨.call 79, [sp 19 20, sp 11 12, sp 15 16, vp (.func (.func 29) #[] #[])], (.val (vp (.bool true)))⟩,
  ⟨.call 79, [sp 22 23, sp 11 12, sp 15 16, vp (.func (.func 31) #[] #[])], (.val (vp (.bool true)))⟩,
  ⟨.call 79, [sp 25 26, sp 11 12, sp 15 16, vp (.func (.func 33) #[] #[])], (.val (vp (.bool true)))⟩,
  ⟨.call 66, [sp 11 12, sp 15 16], (.tup [sp 37 38, vp (.bool true)])⟩,
  ⟨.call 60, [sp 11 12, qp 37], (.val (vp (.bool true)))⟩,
  ⟨.call 60, [sp 11 12, qp 38], (.val (vp (.bool true)))⟩,
  ⟨.call 60, [sp 15 16, qp 37], (.val (vp (.bool true)))⟩,
  ⟨.call 60, [sp 15 16, qp 38], (.val (vp (.bool true)))⟩,
  ⟨.call 60, [sp 37 38, qp 17], (.val (vp (.bool true)))⟩,
  ⟨.call 60, [sp 15 16, qp 17], (.val (vp (.bool true)))⟩,
  ⟨.call 14, [], (.val (vp (.bool true)))⟩]

noncomputable def cl_holds_4 (la : List UInt8) (lb : List UInt8) (lc : List UInt8) (ld : List UInt8) (le : List UInt8) (lf : List UInt8) (lg : List UInt8) (xa : Rat) (xb : Rat) (xc : Rat) (xd : Rat) (m : Nat) (n : Nat) : List Cl := [
  clV (str la),
  clV (str lb),
  clV (str lc),
  clV (str ld),
  clV (str le),
  clV (str lf),
  clV (.int .u8 (m : Int)),
  clV (.int .u8 (n : Int)),
  clV (str lg),
  clQ (xa) 121,
  clQ (xb) 121,
  clQ (lowOf (xa) [xb]) 242,
  clQ (highOf (xa) [xb]) 242,
  clQ (xc) 121,
  clQ (xd) 121,
  clQ (lowOf (xc) [xd]) 242,
  clQ (highOf (xc) [xd]) 242,
  clQ ((lowOf (xa) [xb]) + ((highOf (xa) [xb]) - (lowOf (xa) [xb])) * partOf m) 70,
  clQ ((lowOf (xc) [xd]) + ((highOf (xc) [xd]) - (lowOf (xc) [xd])) * partOf n) 70,
  clQ (wLow (fun r s => r + s) (lowOf (xa) [xb]) (highOf (xa) [xb]) (lowOf (xc) [xd]) (highOf (xc) [xd])) 1937,
  clQ (wHigh (fun r s => r + s) (lowOf (xa) [xb]) (highOf (xa) [xb]) (lowOf (xc) [xd]) (highOf (xc) [xd])) 1937,
  clQ (((lowOf (xa) [xb]) + ((highOf (xa) [xb]) - (lowOf (xa) [xb])) * partOf m) + ((lowOf (xc) [xd]) + ((highOf (xc) [xd]) - (lowOf (xc) [xd])) * partOf n)) 141,
  clQ (wLow (fun r s => r - s) (lowOf (xa) [xb]) (highOf (xa) [xb]) (lowOf (xc) [xd]) (highOf (xc) [xd])) 1937,
  clQ (wHigh (fun r s => r - s) (lowOf (xa) [xb]) (highOf (xa) [xb]) (lowOf (xc) [xd]) (highOf (xc) [xd])) 1937,
  clQ (((lowOf (xa) [xb]) + ((highOf (xa) [xb]) - (lowOf (xa) [xb])) * partOf m) - ((lowOf (xc) [xd]) + ((highOf (xc) [xd]) - (lowOf (xc) [xd])) * partOf n)) 141,
  clQ (wLow (fun r s => r * s) (lowOf (xa) [xb]) (highOf (xa) [xb]) (lowOf (xc) [xd]) (highOf (xc) [xd])) 1937,
  clQ (wHigh (fun r s => r * s) (lowOf (xa) [xb]) (highOf (xa) [xb]) (lowOf (xc) [xd]) (highOf (xc) [xd])) 1937,
  clQ (((lowOf (xa) [xb]) + ((highOf (xa) [xb]) - (lowOf (xa) [xb])) * partOf m) * ((lowOf (xc) [xd]) + ((highOf (xc) [xd]) - (lowOf (xc) [xd])) * partOf n)) 140,
  clQ (lowOf ((lowOf (xa) [xb]) * (lowOf (xa) [xb])) (turnVals (hasQ (lowOf (xa) [xb]) (highOf (xa) [xb]) 0) ((highOf (xa) [xb]) * (highOf (xa) [xb])) (0 * 0))) 968,
  clQ (highOf ((lowOf (xa) [xb]) * (lowOf (xa) [xb])) (turnVals (hasQ (lowOf (xa) [xb]) (highOf (xa) [xb]) 0) ((highOf (xa) [xb]) * (highOf (xa) [xb])) (0 * 0))) 968,
  clQ (((lowOf (xa) [xb]) + ((highOf (xa) [xb]) - (lowOf (xa) [xb])) * partOf m) * ((lowOf (xa) [xb]) + ((highOf (xa) [xb]) - (lowOf (xa) [xb])) * partOf m)) 140,
  clQ (lowOf (absQ (lowOf (xa) [xb])) (turnVals (hasQ (lowOf (xa) [xb]) (highOf (xa) [xb]) 0) (absQ (highOf (xa) [xb])) (absQ 0))) 968,
  clQ (highOf (absQ (lowOf (xa) [xb])) (turnVals (hasQ (lowOf (xa) [xb]) (highOf (xa) [xb]) 0) (absQ (highOf (xa) [xb])) (absQ 0))) 968,
  clQ (absQ ((lowOf (xa) [xb]) + ((highOf (xa) [xb]) - (lowOf (xa) [xb])) * partOf m)) 70,
  clQ (lowOf (lowOf (xa) [xb]) [highOf (xa) [xb], lowOf (xc) [xd], highOf (xc) [xd]]) 968,
  clQ (highOf (lowOf (xa) [xb]) [highOf (xa) [xb], lowOf (xc) [xd], highOf (xc) [xd]]) 968,
  clQ (0) 300000,
  clQ (highOf (lowOf (lowOf (xa) [xb]) [highOf (xa) [xb]]) [lowOf (lowOf (xc) [xd]) [highOf (xc) [xd]]]) 10000,
  clQ (lowOf (highOf (lowOf (xa) [xb]) [highOf (xa) [xb]]) [highOf (lowOf (xc) [xd]) [highOf (xc) [xd]]]) 10000]

def t_holds_4 : List Ent := [
  ⟨.call 27, [.slc 9 4 [.cls 0 1, .cls 1 1, .cls 2 1, .cls 3 1]], (.val (vp (.bool false)))⟩,
  ⟨.call 76, [op 0], (.val (qp 9))⟩,
  ⟨.call 76, [op 1], (.val (qp 10))⟩,
  ⟨.call 59, [qp 9, qp 10], (.val (sp 11 12))⟩,
  ⟨.call 76, [op 2], (.val (qp 13))⟩,
  ⟨.call 76, [op 3], (.val (qp 14))⟩,
  ⟨.call 59, [qp 13, qp 14], (.val (sp 15 16))⟩,
  ⟨.call 78, [sp 11 12, op 6], (.val (qp 17))⟩,
  ⟨.call 78, [sp 15 16, op 7], (.val (qp 18))⟩,
  ⟨.call 60, [sp 11 12, qp 17], (.val (vp (.bool true)))⟩,
  ⟨.call 60, [sp 15 16, qp 18], (.val (vp (.bool true)))⟩,
  ⟨.call 51, [sp 11 12, sp 15 16], (.val (sp 19 20))⟩,
  ⟨.call 29, [qp 17, qp 18], (.val (qp 21))⟩,
  ⟨.call 60, [sp 19 20, qp 21], (.val (vp (.bool true)))⟩,
  ⟨.call 53, [sp 11 12, sp 15 16], (.val (sp 22 23))⟩,
  ⟨.call 31, [qp 17, qp 18], (.val (qp 24))⟩,
  ⟨.call 60, [sp 22 23, qp 24], (.val (vp (.bool true)))⟩,
  ⟨.call 55, [sp 11 12, sp 15 16], (.val (sp 25 26))⟩,
  ⟨.call 33, [qp 17, qp 18], (.val (qp 27))⟩,
  ⟨.call 60, [sp 25 26, qp 27], (.val (vp (.bool true)))⟩,
  ⟨.call 62, [sp 11 12], (.val (sp 28 29))⟩,
  ⟨.call 33, [qp 17, qp 17], (.val (qp 30))⟩,
  ⟨.call 60, [sp 28 29, qp 30], (.val (vp (.bool true)))⟩,
  ⟨.call 64, [sp 11 12], (.val (sp 31 32))⟩,
  ⟨.call 43, [qp 17], (.val (qp 33))⟩,
  ⟨.call 60, [sp 31 32, qp 33], (.val (vp (.bool true)))⟩,
  ⟨.call 57, [sp 11 12, sp 15 16], (.val (sp 34 35))⟩,
  ⟨.call 60, [sp 34 35, qp 17], (.val (vp (.bool true)))⟩,
  ⟨.call 60, [sp 34 35, qp 18], (.val (vp (.bool true)))⟩,
  ⟨.call 68, [sp 11 12, sp 15 16], (.tup [sp 36 36, vp (.int .i64 10)])⟩,
  ⟨.call 60, [sp 15 16, zq], (.val (vp (.bool true)))⟩,
  ⟨.call 79, [sp 19 20, sp 11 12, sp 15 16, vp (.func (.func 29) #[] #[])], (.val (vp (.bool true)))⟩,
  ⟨.call 79, [sp 22 23, sp 11 12, sp 15 16, vp (.func (.func 31) #[] #[])], (.val (vp (.bool true)))⟩,
  ⟨.call 79, [sp 25 26, sp 11 12, sp 15 16, vp (.func (.func 33) #[] #[])], (.val (vp (.bool true)))⟩,
  ⟨.call 66, [sp 11 12, sp 15 16], (.tup [sp 37 38, vp (.bool true)])⟩,
  ⟨.call 60, [sp 11 12, qp 37], (.val (vp (.bool true)))⟩,
  ⟨.call 60, [sp 11 12, qp 38], (.val (vp (.bool true)))⟩,
  ⟨.call 60, [sp 15 16, qp 37], (.val (vp (.bool true)))⟩,
  ⟨.call 60, [sp 15 16, qp 38], (.val (vp (.bool true)))⟩,
  ⟨.call 60, [sp 37 38, qp 17], (.val (vp (.bool false)))⟩,
  ⟨.call 60, [sp 15 16, qp 17], (.val (vp (.bool false)))⟩,
  ⟨.call 14, [], (.val (vp (.bool true)))⟩]

noncomputable def cl_holds_5 (la : List UInt8) (lb : List UInt8) (lc : List UInt8) (ld : List UInt8) (le : List UInt8) (lf : List UInt8) (lg : List UInt8) (xa : Rat) (xb : Rat) (xc : Rat) (xd : Rat) (m : Nat) (n : Nat) : List Cl := [
  clV (str la),
  clV (str lb),
  clV (str lc),
  clV (str ld),
  clV (str le),
  clV (str lf),
  clV (.int .u8 (m : Int)),
  clV (.int .u8 (n : Int)),
  clV (str lg),
  clQ (xa) 121,
  clQ (xb) 121,
  clQ (lowOf (xa) [xb]) 242,
  clQ (highOf (xa) [xb]) 242,
  clQ (xc) 121,
  clQ (xd) 121,
  clQ (lowOf (xc) [xd]) 242,
  clQ (highOf (xc) [xd]) 242,
  clQ ((lowOf (xa) [xb]) + ((highOf (xa) [xb]) - (lowOf (xa) [xb])) * partOf m) 70,
  clQ ((lowOf (xc) [xd]) + ((highOf (xc) [xd]) - (lowOf (xc) [xd])) * partOf n) 70,
  clQ (wLow (fun r s => r + s) (lowOf (xa) [xb]) (highOf (xa) [xb]) (lowOf (xc) [xd]) (highOf (xc) [xd])) 1937,
  clQ (wHigh (fun r s => r + s) (lowOf (xa) [xb]) (highOf (xa) [xb]) (lowOf (xc) [xd]) (highOf (xc) [xd])) 1937,
  clQ (((lowOf (xa) [xb]) + ((highOf (xa) [xb]) - (lowOf (xa) [xb])) * partOf m) + ((lowOf (xc) [xd]) + ((highOf (xc) [xd]) - (lowOf (xc) [xd])) * partOf n)) 141,
  clQ (wLow (fun r s => r - s) (lowOf (xa) [xb]) (highOf (xa) [xb]) (lowOf (xc) [xd]) (highOf (xc) [xd])) 1937,
  clQ (wHigh (fun r s => r - s) (lowOf (xa) [xb]) (highOf (xa) [xb]) (lowOf (xc) [xd]) (highOf (xc) [xd])) 1937,
  clQ (((lowOf (xa) [xb]) + ((highOf (xa) [xb]) - (lowOf (xa) [xb])) * partOf m) - ((lowOf (xc) [xd]) + ((highOf (xc) [xd]) - (lowOf (xc) [xd])) * partOf n)) 141,
  clQ (wLow (fun r s => r * s) (lowOf (xa) [xb]) (highOf (xa) [xb]) (lowOf (xc) [xd]) (highOf (xc) [xd])) 1937,
  clQ (wHigh (fun r s => r * s) (lowOf (xa) [xb]) (highOf (xa) [xb]) (lowOf (xc) [xd]) (highOf (xc) [xd])) 1937,
  clQ (((lowOf (xa) [xb]) + ((highOf (xa) [xb]) - (lowOf (xa) [xb])) * partOf m) * ((lowOf (xc) [xd]) + ((highOf (xc) [xd]) - (lowOf (xc) [xd])) * partOf n)) 140,
  clQ (lowOf ((lowOf (xa) [xb]) * (lowOf (xa) [xb])) (turnVals (hasQ (lowOf (xa) [xb]) (highOf (xa) [xb]) 0) ((highOf (xa) [xb]) * (highOf (xa) [xb])) (0 * 0))) 968,
  clQ (highOf ((lowOf (xa) [xb]) * (lowOf (xa) [xb])) (turnVals (hasQ (lowOf (xa) [xb]) (highOf (xa) [xb]) 0) ((highOf (xa) [xb]) * (highOf (xa) [xb])) (0 * 0))) 968,
  clQ (((lowOf (xa) [xb]) + ((highOf (xa) [xb]) - (lowOf (xa) [xb])) * partOf m) * ((lowOf (xa) [xb]) + ((highOf (xa) [xb]) - (lowOf (xa) [xb])) * partOf m)) 140,
  clQ (lowOf (absQ (lowOf (xa) [xb])) (turnVals (hasQ (lowOf (xa) [xb]) (highOf (xa) [xb]) 0) (absQ (highOf (xa) [xb])) (absQ 0))) 968,
  clQ (highOf (absQ (lowOf (xa) [xb])) (turnVals (hasQ (lowOf (xa) [xb]) (highOf (xa) [xb]) 0) (absQ (highOf (xa) [xb])) (absQ 0))) 968,
  clQ (absQ ((lowOf (xa) [xb]) + ((highOf (xa) [xb]) - (lowOf (xa) [xb])) * partOf m)) 70,
  clQ (lowOf (lowOf (xa) [xb]) [highOf (xa) [xb], lowOf (xc) [xd], highOf (xc) [xd]]) 968,
  clQ (highOf (lowOf (xa) [xb]) [highOf (xa) [xb], lowOf (xc) [xd], highOf (xc) [xd]]) 968,
  clQ (wLow (fun r s => r * s⁻¹) (lowOf (xa) [xb]) (highOf (xa) [xb]) (lowOf (xc) [xd]) (highOf (xc) [xd])) 1937,
  clQ (wHigh (fun r s => r * s⁻¹) (lowOf (xa) [xb]) (highOf (xa) [xb]) (lowOf (xc) [xd]) (highOf (xc) [xd])) 1937,
  clQ (((lowOf (xa) [xb]) + ((highOf (xa) [xb]) - (lowOf (xa) [xb])) * partOf m) / ((lowOf (xc) [xd]) + ((highOf (xc) [xd]) - (lowOf (xc) [xd])) * partOf n)) 140,
  clQ (0) 300000]

def t_holds_5 : List Ent := [
  ⟨.call 27, [.slc 9 4 [.cls 0 1, .cls 1 1, .cls 2 1, .cls 3 1]], (.val (vp (.bool false)))⟩,
  ⟨.call 76, [op 0], (.val (qp 9))⟩,
  ⟨.call 76, [op 1], (.val (qp 10))⟩,
  ⟨.call 59, [qp 9, qp 10], (.val (sp 11 12))⟩,
  ⟨.call 76, [op 2], (.val (qp 13))⟩,
  ⟨.call 76, [op 3], (.val (qp 14))⟩,
  ⟨.call 59, [qp 13, qp 14], (.val (sp 15 16))⟩,
  ⟨.call 78, [sp 11 12, op 6], (.val (qp 17))⟩,
  ⟨.call 78, [sp 15 16, op 7], (.val (qp 18))⟩,
  ⟨.call 60, [sp 11 12, qp 17], (.val (vp (.bool true)))⟩,
  ⟨.call 60, [sp 15 16, qp 18], (.val (vp (.bool true)))⟩,
  ⟨.call 51, [sp 11 12, sp 15 16], (.val (sp 19 20))⟩,
  ⟨.call 29, [qp 17, qp 18], (.val (qp 21))⟩,
  ⟨.call 60, [sp 19 20, qp 21], (.val (vp (.bool true)))⟩,
  ⟨.call 53, [sp 11 12, sp 15 16], (.val (sp 22 23))⟩,
  ⟨.call 31, [qp 17, qp 18], (.val (qp 24))⟩,
  ⟨.call 60, [sp 22 23, qp 24], (.val (vp (.bool true)))⟩,
  ⟨.call 55, [sp 11 12, sp 15 16], (.val (sp 25 26))⟩,
  ⟨.call 33, [qp 17, qp 18], (.val (qp 27))⟩,
  ⟨.call 60, [sp 25 26, qp 27], (.val (vp (.bool true)))⟩,
  ⟨.call 62, [sp 11 12], (.val (sp 28 29))⟩,
  ⟨.call 33, [qp 17, qp 17], (.val (qp 30))⟩,
  ⟨.call 60, [sp 28 29, qp 30], (.val (vp (.bool true)))⟩,
  ⟨.call 64, [sp 11 12], (.val (sp 31 32))⟩,
  ⟨.call 43, [qp 17], (.val (qp 33))⟩,
  ⟨.call 60, [sp 31 32, qp 33], (.val (vp (.bool true)))⟩,
  ⟨.call 57, [sp 11 12, sp 15 16], (.val (sp 34 35))⟩,
  ⟨.call 60, [sp 34 35, qp 17], (.val (vp (.bool true)))⟩,
  ⟨.call 60, [sp 34 35, qp 18], (.val (vp (.bool true)))⟩,
  ⟨.call 68, [sp 11 12, sp 15 16], (.tup [sp 36 37, vp (.int .i64 0)])⟩,
  ⟨.call 38, [qp 17, qp 18], (.tup [qp 38, vp (.int .i64 0)])⟩,
  ⟨.call 60, [sp 36 37, qp 38], (.val (vp (.bool true)))⟩,
  ⟨.call 79, [sp 36 37, sp 11 12, sp 15 16, vp (.func (.func 80) #[] #[])], (.val (vp (.bool true)))⟩,
  ⟨.call 79, [sp 19 20, sp 11 12, sp 15 16, vp (.func (.func 29) #[] #[])], (.val (vp (.bool true)))⟩,
  ⟨.call 79, [sp 22 23, sp 11 12, sp 15 16, vp (.func (.func 31) #[] #[])], (.val (vp (.bool true)))⟩,
  ⟨.call 79, [sp 25 26, sp 11 12, sp 15 16, vp (.func (.func 33) #[] #[])], (.val (vp (.bool true)))⟩,
  ⟨.call 66, [sp 11 12, sp 15 16], (.tup [sp 39 39, vp (.bool false)])⟩,
  ⟨.call 60, [sp 11 12, qp 18], (.val (vp (.bool false)))⟩,
  ⟨.call 60, [sp 15 16, qp 17], (.val (vp (.bool false)))⟩,
  ⟨.call 14, [], (.val (vp (.bool true)))⟩]

noncomputable def cl_holds_6 (la : List UInt8) (lb : List UInt8) (lc : List UInt8) (ld : List UInt8) (le : List UInt8) (lf : List UInt8) (lg : List UInt8) (xa : Rat) (xb : Rat) (xc : Rat) (xd : Rat) (m : Nat) (n : Nat) : List Cl := [
  clV (str la),
  clV (str lb),
  clV (str lc),
  clV (str ld),
  clV (str le),
  clV (str lf),
  clV (.int .u8 (m : Int)),
  clV (.int .u8 (n : Int)),
  clV (str lg),
  clQ (xa) 121,
  clQ (xb) 121,
  clQ (lowOf (xa) [xb]) 242,
  clQ (highOf (xa) [xb]) 242,
  clQ (xc) 121,
  clQ (xd) 121,
  clQ (lowOf (xc) [xd]) 242,
  clQ (highOf (xc) [xd]) 242,
  clQ ((lowOf (xa) [xb]) + ((highOf (xa) [xb]) - (lowOf (xa) [xb])) * partOf m) 70,
  clQ ((lowOf (xc) [xd]) + ((highOf (xc) [xd]) - (lowOf (xc) [xd])) * partOf n) 70,
  clQ (wLow (fun r s => r + s) (lowOf (xa) [xb]) (highOf (xa) [xb]) (lowOf (xc) [xd]) (highOf (xc) [xd])) 1937,
  clQ (wHigh (fun r s => r + s) (lowOf (xa) [xb]) (highOf (xa) [xb]) (lowOf (xc) [xd]) (highOf (xc) [xd])) 1937,
  clQ (((lowOf (xa) [xb]) + ((highOf (xa) [xb]) - (lowOf (xa) [xb])) * partOf m) + ((lowOf (xc) [xd]) + ((highOf (xc) [xd]) - (lowOf (xc) [xd])) * partOf n)) 141,
  clQ (wLow (fun r s => r - s) (lowOf (xa) [xb]) (highOf (xa) [xb]) (lowOf (xc) [xd]) (highOf (xc) [xd])) 1937,
  clQ (wHigh (fun r s => r - s) (lowOf (xa) [xb]) (highOf (xa) [xb]) (lowOf (xc) [xd]) (highOf (xc) [xd])) 1937,
  clQ (((lowOf (xa) [xb]) + ((highOf (xa) [xb]) - (lowOf (xa) [xb])) * partOf m) - ((lowOf (xc) [xd]) + ((highOf (xc) [xd]) - (lowOf (xc) [xd])) * partOf n)) 141,
  clQ (wLow (fun r s => r * s) (lowOf (xa) [xb]) (highOf (xa) [xb]) (lowOf (xc) [xd]) (highOf (xc) [xd])) 1937,
  clQ (wHigh (fun r s => r * s) (lowOf (xa) [xb]) (highOf (xa) [xb]) (lowOf (xc) [xd]) (highOf (xc) [xd])) 1937,
  clQ (((lowOf (xa) [xb]) + ((highOf (xa) [xb]) - (lowOf (xa) [xb])) * partOf m) * ((lowOf (xc) [xd]) + ((highOf (xc) [xd]) - (lowOf (xc) [xd])) * partOf n)) 140,
  clQ (lowOf ((lowOf (xa) [xb]) * (lowOf (xa) [xb])) (turnVals (hasQ (lowOf (xa) [xb]) (highOf (xa) [xb]) 0) ((highOf (xa) [xb]) * (highOf (xa) [xb])) (0 * 0))) 968,
  clQ (highOf ((lowOf (xa) [xb]) * (lowOf (xa) [xb])) (turnVals (hasQ (lowOf (xa) [xb]) (highOf (xa) [xb]) 0) ((highOf (xa) [xb]) * (highOf (xa) [xb])) (0 * 0))) 968,
  clQ (((lowOf (xa) [xb]) + ((highOf (xa) [xb]) - (lowOf (xa) [xb])) * partOf m) * ((lowOf (xa) [xb]) + ((highOf (xa) [xb]) - (lowOf (xa) [xb])) * partOf m)) 140,
  clQ (lowOf (absQ (lowOf (xa) [xb])) (turnVals (hasQ (lowOf (xa) [xb]) (highOf (xa) [xb]) 0) (absQ (highOf (xa) [xb])) (absQ 0))) 968,
  clQ (highOf (absQ (lowOf (xa) [xb])) (turnVals (hasQ (lowOf (xa) [xb]) (highOf (xa) [xb]) 0) (absQ (highOf (xa) [xb])) (absQ 0))) 968,
  clQ (absQ ((lowOf (xa) [xb]) + ((highOf (xa) [xb]) - (lowOf (xa) [xb])) * partOf m)) 70,
  clQ (lowOf (lowOf (xa) [xb]) [highOf (xa) [xb], lowOf (xc) [xd], highOf (xc) [xd]]) 968,
  clQ (highOf (lowOf (xa) [xb]) [highOf (xa) [xb], lowOf (xc) [xd], highOf (xc) [xd]]) 968,
  clQ (wLow (fun r s => r * s⁻¹) (lowOf (xa) [xb]) (highOf (xa) [xb]) (lowOf (xc) [xd]) (highOf (xc) [xd])) 1937,
  clQ (wHigh (fun r s => r * s⁻¹) (lowOf (xa) [xb]) (highOf (xa) [xb]) (lowOf (xc) [xd]) (highOf (xc) [xd])) 1937,
  clQ (((lowOf (xa) [xb]) + ((highOf (xa) [xb]) - (lowOf (xa) [xb])) * partOf m) / ((lowOf (xc) [xd]) + ((highOf (xc) [xd]) - (lowOf (xc) [xd])) * partOf n)) 140,
  clQ (highOf (lowOf (lowOf (xa) [xb]) [highOf (xa) [xb]]) [lowOf (lowOf (xc) [xd]) [highOf (xc) [xd]]]) 10000,
  clQ (lowOf (highOf (lowOf (xa) [xb]) [highOf (xa) [xb]]) [highOf (lowOf (xc) [xd]) [highOf (xc) [xd]]]) 10000]

def t_holds_6 : List Ent := [
  ⟨.call 27, [.slc 9 4 [.cls 0 1, .cls 1 1, .cls 2 1, .cls 3 1]], (.val (vp (.bool false)))⟩,
  ⟨.call 76, [op 0], (.val (qp 9))⟩,
  ⟨.call 76, [op 1], (.val (qp 10))⟩,
  ⟨.call 59, [qp 9, qp 10], (.val (sp 11 12))⟩,
  ⟨.call 76, [op 2], (.val (qp 13))⟩,
  ⟨.call 76, [op 3], (.val (qp 14))⟩,
  ⟨.call 59, [qp 13, qp 14], (.val (sp 15 16))⟩,
  ⟨.call 78, [sp 11 12, op 6], (.val (qp 17))⟩,
  ⟨.call 78, [sp 15 16, op 7], (.val (qp 18))⟩,
  ⟨.call 60, [sp 11 12, qp 17], (.val (vp (.bool true)))⟩,
  ⟨.call 60, [sp 15 16, qp 18], (.val (vp (.bool true)))⟩,
  ⟨.call 51, [sp 11 12, sp 15 16], (.val (sp 19 20))⟩,
  ⟨.call 29, [qp 17, qp 18], (.val (qp 21))⟩,
  ⟨.call 60, [sp 19 20, qp 21], (.val (vp (.bool true)))⟩,
  ⟨.call 53, [sp 11 12, sp 15 16], (.val (sp 22 23))⟩,
  ⟨.call 31, [qp 17, qp 18], (.val (qp 24))⟩,
  ⟨.call 60, [sp 22 23, qp 24], (.val (vp (.bool true)))⟩,
  ⟨.call 55, [sp 11 12, sp 15 16], (.val (sp 25 26))⟩,
  ⟨.call 33, [qp 17, qp 18], (.val (qp 27))⟩,
  ⟨.call 60, [sp 25 26, qp 27], (.val (vp (.bool true)))⟩,
  ⟨.call 62, [sp 11 12], (.val (sp 28 29))⟩,
  ⟨.call 33, [qp 17, qp 17], (.val (qp 30))⟩,
  ⟨.call 60, [sp 28 29, qp 30], (.val (vp (.bool true)))⟩,
  ⟨.call 64, [sp 11 12], (.val (sp 31 32))⟩,
  ⟨.call 43, [qp 17], (.val (qp 33))⟩,
  ⟨.call 60, [sp 31 32, qp 33], (.val (vp (.bool true)))⟩,
  ⟨.call 57, [sp 11 12, sp 15 16], (.val (sp 34 35))⟩,
  ⟨.call 60, [sp 34 35, qp 17], (.val (vp (.bool true)))⟩,
  ⟨.call 60, [sp 34 35, qp 18], (.val (vp (.bool true)))⟩,
  ⟨.call 68, [sp 11 12, sp 15 16], (.tup [sp 36 37, vp (.int .i64 0)])⟩,
  ⟨.call 38, [qp 17, qp 18], (.tup [qp 38, vp (.int .i64 0)])⟩,
  ⟨.call 60, [sp 36 37, qp 38], (.val (vp (.bool true)))⟩,
  ⟨.call 79, [sp 36 37, sp 11 12, sp 15 16, vp (.func (.func 80) #[] #[])], (.val (vp (.bool true)))⟩,
  ⟨.call 79, [sp 19 20, sp 11 12, sp 15 16, vp (.func (.func 29) #[] #[])], (.val (vp (.bool true)))⟩,
  ⟨.call 79, [sp 22 23, sp 11 12, sp 15 16, vp (.func (.func 31) #[] #[])], (.val (vp (.bool true)))⟩,
  ⟨.call 79, [sp 25 26, sp 11 12, sp 15 16, vp (.func (.func 33) #[] #[])], (.val (vp (.bool true)))⟩,
  ⟨.call 66, [sp 11 12, sp 15 16], (.tup [sp 39 40, vp (.bool true)])⟩,
  ⟨.call 60, [sp 11 12, qp 39], (.val (vp (.bool true)))⟩,
  ⟨.call 60, [sp 11 12, qp 40], (.val (vp (.bool true)))⟩,
  ⟨.call 60, [sp 15 16, qp 39], (.val (vp (.bool true)))⟩,
  ⟨.call 60, [sp 15 16, qp 40], (.val (vp (.bool true)))⟩,
  ⟨.call 60, [sp 39 40, qp 17], (.val (vp (.bool true)))⟩,
  ⟨.call 60, [sp 15 16, qp 17], (.val (vp (.bool true)))⟩,
  ⟨.call 14, [], (.val (vp (.bool true)))⟩]

noncomputable def cl_holds_7 (la : List UInt8) (lb : List UInt8) (lc : List UInt8) (ld : List UInt8) (le : List UInt8) (lf : List UInt8) (lg : List UInt8) (xa : Rat) (xb : Rat) (xc : Rat) (xd : Rat) (m : Nat) (n : Nat) : List Cl := [
  clV (str la),
  clV (str lb),
  clV (str lc),
  clV (str ld),
  clV (str le),
  clV (str lf),
  clV (.int .u8 (m : Int)),
  clV (.int .u8 (n : Int)),
  clV (str lg),
  clQ (xa) 121,
  clQ (xb) 121,
  clQ (lowOf (xa) [xb]) 242,
  clQ (highOf (xa) [xb]) 242,
  clQ (xc) 121,
  clQ (xd) 121,
  clQ (lowOf (xc) [xd]) 242,
  clQ (highOf (xc) [xd]) 242,
  clQ ((lowOf (xa) [xb]) + ((highOf (xa) [xb]) - (lowOf (xa) [xb])) * partOf m) 70,
  clQ ((lowOf (xc) [xd]) + ((highOf (xc) [xd]) - (lowOf (xc) [xd])) * partOf n) 70,
  clQ (wLow (fun r s => r + s) (lowOf (xa) [xb]) (highOf (xa) [xb]) (lowOf (xc) [xd]) (highOf (xc) [xd])) 1937,
  clQ (wHigh (fun r s => r + s) (lowOf (xa) [xb]) (highOf (xa) [xb]) (lowOf (xc) [xd]) (highOf (xc) [xd])) 1937,
  clQ (((lowOf (xa) [xb]) + ((highOf (xa) [xb]) - (lowOf (xa) [xb])) * partOf m) + ((lowOf (xc) [xd]) + ((highOf (xc) [xd]) - (lowOf (xc) [xd])) * partOf n)) 141,
  clQ (wLow (fun r s => r - s) (lowOf (xa) [xb]) (highOf (xa) [xb]) (lowOf (xc) [xd]) (highOf (xc) [xd])) 1937,
  clQ (wHigh (fun r s => r - s) (lowOf (xa) [xb]) (highOf (xa) [xb]) (lowOf (xc) [xd]) (highOf (xc) [xd])) 1937,
  clQ (((lowOf (xa) [xb]) + ((highOf (xa) [xb]) - (lowOf (xa) [xb])) * partOf m) - ((lowOf (xc) [xd]) + ((highOf (xc) [xd]) - (lowOf (xc) [xd])) * partOf n)) 141,
  clQ (wLow (fun r s => r * s) (lowOf (xa) [xb]) (highOf (xa) [xb]) (lowOf (xc) [xd]) (highOf (xc) [xd])) 1937,
  clQ (wHigh (fun r s => r * s) (lowOf (xa) [xb]) (highOf (xa) [xb]) (lowOf (xc) [xd]) (highOf (xc) [xd])) 1937,
  clQ (((lowOf (xa) [xb]) + ((highOf (xa) [xb]) - (lowOf (xa) [xb])) * partOf m) * ((lowOf (xc) [xd]) + ((highOf (xc) [xd]) - (lowOf (xc) [xd])) * partOf n)) 140,
  clQ (lowOf ((lowOf (xa) [xb]) * (lowOf (xa) [xb])) (turnVals (hasQ (lowOf (xa) [xb]) (highOf (xa) [xb]) 0) ((highOf (xa) [xb]) * (highOf (xa) [xb])) (0 * 0))) 968,
  clQ (highOf ((lowOf (xa) [xb]) * (lowOf (xa) [xb])) (turnVals (hasQ (lowOf (xa) [xb]) (highOf (xa) [xb]) 0) ((highOf (xa) [xb]) * (highOf (xa) [xb])) (0 * 0))) 968,
  clQ (((lowOf (xa) [xb]) + ((highOf (xa) [xb]) - (lowOf (xa) [xb])) * partOf m) * ((lowOf (xa) [xb]) + ((highOf (xa) [xb]) - (lowOf (xa) [xb])) * partOf m)) 140,
  clQ (lowOf (absQ (lowOf (xa) [xb])) (turnVals (hasQ (lowOf (xa) [xb]) (highOf (xa) [xb]) 0) (absQ (highOf (xa) [xb])) (absQ 0))) 968,
  clQ (highOf (absQ (lowOf (xa) [xb])) (turnVals (hasQ (lowOf (xa) [xb]) (highOf (xa) [xb]) 0) (absQ (highOf (xa) [xb])) (absQ 0))) 968,
  clQ (absQ ((lowOf (xa) [xb]) + ((highOf (xa) [xb]) - (lowOf (xa) [xb])) * partOf m)) 70,
  clQ (lowOf (lowOf (xa) [xb]) [highOf (xa) [xb], lowOf (xc) [xd], highOf (xc) [xd]]) 968,
  clQ (highOf (lowOf (xa) [xb]) [highOf (xa) [xb], lowOf (xc) [xd], highOf (xc) [xd]]) 968,
  clQ (wLow (fun r s => r * s⁻¹) (lowOf (xa) [xb]) (highOf (xa) [xb]) (lowOf (xc) [xd]) (highOf (xc) [xd])) 1937,
  clQ (wHigh (fun r s => r * s⁻¹) (lowOf (xa) [xb]) (highOf (xa) [xb]) (lowOf (xc) [xd]) (highOf (xc) [xd])) 1937,
  clQ (((lowOf (xa) [xb]) + ((highOf (xa) [xb]) - (lowOf (xa) [xb])) * partOf m) / ((lowOf (xc) [xd]) + ((highOf (xc) [xd]) - (lowOf (xc) [xd])) * partOf n)) 140,
  clQ (highOf (lowOf (lowOf (xa) [xb]) [highOf (xa) [xb]]) [lowOf (lowOf (xc) [xd]) [highOf (xc) [xd]]]) 10000,
  clQ (lowOf (highOf (lowOf (xa) [xb]) [highOf (xa) [xb]]) [highOf (lowOf (xc) [xd]) [highOf (xc) [xd]]]) 10000]

def t_holds_7 : List Ent := [
  ⟨.call 27, [.slc 9 4 [.cls 0 1, .cls 1 1, .cls 2 1, .cls 3 1]], (.val (vp (.bool false)))⟩,
  ⟨.call 76, [op 0], (.val (qp 9))⟩,
  ⟨.call 76, [op 1], (.val (qp 10))⟩,
  ⟨.call 59, [qp 9, qp 10], (.val (sp 11 12))⟩,
  ⟨.call 76, [op 2], (.val (qp 13))⟩,
  ⟨.call 76, [op 3], (.val (qp 14))⟩,
  ⟨.call 59, [qp 13, qp 14], (.val (sp 15 16))⟩,
  ⟨.call 78, [sp 11 12, op 6], (.val (qp 17))⟩,
  ⟨.call 78, [sp 15 16, op 7], (.val (qp 18))⟩,
  ⟨.call 60, [sp 11 12, qp 17], (.val (vp (.bool true)))⟩,
  ⟨.call 60, [sp 15 16, qp 18], (.val (vp (.bool true)))⟩,
  ⟨.call 51, [sp 11 12, sp 15 16], (.val (sp 19 20))⟩,
  ⟨.call 29, [qp 17, qp 18], (.val (qp 21))⟩,
  ⟨.call 60, [sp 19 20, qp 21], (.val (vp (.bool true)))⟩,
  ⟨.call 53, [sp 11 12, sp 15 16], (.val (sp 22 23))⟩,
  ⟨.call 31, [qp 17, qp 18], (.val (qp 24))⟩,
  ⟨.call 60, [sp 22 23, qp 24], (.val (vp (.bool true)))⟩,
  ⟨.call 55, [sp 11 12, sp 15 16], (.val (sp 25 26))⟩,
  ⟨.call 33, [qp 17, qp 18], (.val (qp 27))⟩,
  ⟨.call 60, [sp 25 26, qp 27], (.val (vp (.bool true)))⟩,
  ⟨.call 62, [sp 11 12], (.val (sp 28 29))⟩,
  ⟨.call 33, [qp 17, qp 17], (.val (qp 30))⟩,
  ⟨.call 60, [sp 28 29, qp 30], (.val (vp (.bool true)))⟩,
  ⟨.call 64, [sp 11 12], (.val (sp 31 32))⟩,
  ⟨.call 43, [qp 17], (.val (qp 33))⟩,
  ⟨.call 60, [sp 31 32, qp 33], (.val (vp (.bool true)))⟩,
  ⟨.call 57, [sp 11 12, sp 15 16], (.val (sp 34 35))⟩,
  ⟨.call 60, [sp 34 35, qp 17], (.val (vp (.bool true)))⟩,
  ⟨.call 60, [sp 34 35, qp 18], (.val (vp (.bool true)))⟩,
  ⟨.call 68, [sp 11 12, sp 15 16], (.tup [sp 36 37, vp (.int .i64 0)])⟩,
  ⟨.call 38, [qp 17, qp 18], (.tup [qp 38, vp (.int .i64 0)])⟩,
  ⟨.call 60, [sp 36 37, qp 38], (.val (vp (.bool true)))⟩,
  ⟨.call 79, [sp 36 37, sp 11 12, sp 15 16, vp (.func (.func 80) #[] #[])], (.val (vp (.bool true)))⟩,
  ⟨.call 79, [sp 19 20, sp 11 12, sp 15 16, vp (.func (.func 29) #[] #[])], (.val (vp (.bool true)))⟩,
  ⟨.call 79, [sp 22 23, sp 11 12, sp 15 16, vp (.func (.func 31) #[] #[])], (.val (vp (.bool true)))⟩,
  ⟨.call 79, [sp 25 26, sp 11 12, sp 15 16, vp (.func (.func 33) #[] #[])], (.val (vp (.bool true)))⟩,
  ⟨.call 66, [sp 11 12, sp 15 16], (.tup [sp 39 40, vp (.bool true)])⟩,
  ⟨.call 60, [sp 11 12, qp 39], (.val (vp (.bool true)))⟩,
  ⟨.call 60, [sp 11 12, qp 40], (.val (vp (.bool true)))⟩,
  ⟨.call 60, [sp 15 16, qp 39], (.val (vp (.bool true)))⟩,
  ⟨.call 60, [sp 15 16, qp 40], (.val (vp (.bool true)))⟩,
  ⟨.call 60, [sp 39 40, qp 17], (.val (vp (.bool false)))⟩,
  ⟨.call 60, [sp 15 16, qp 17], (.val (vp (.bool false)))⟩,
  ⟨.call 14, [], (.val (vp (.bool true)))⟩]

set_option maxRecDepth 100000 in
set_option maxHeartbeats 4000000 in
theorem holds_walk (la lb lc ld le lf lg : List UInt8) (m n : Nat) (hm : m ≤ 255) (hn : n ≤ 255) (w : World) (hG : Gr w) :
    Calls Tryz.prog 11 #[.agg #[str la, str lb, str lc, str ld, str le, str lf, .int .u8 (m : Int), .int .u8 (n : Int), str lg]] w (Go.Proofs.YtnolcmoecodeaaaGreatDoor.Val w (.bool true)) := by
  obtain ⟨xa, hxa⟩ : ∃ x, (readQ la).1 = x := ⟨_, rfl⟩
  obtain ⟨xb, hxb⟩ : ∃ x, (readQ lb).1 = x := ⟨_, rfl⟩
  obtain ⟨xc, hxc⟩ : ∃ x, (readQ lc).1 = x := ⟨_, rfl⟩
  obtain ⟨xd, hxd⟩ : ∃ x, (readQ ld).1 = x := ⟨_, rfl⟩
  have hx : Btw (lowOf (xa) [xb]) (highOf (xa) [xb]) ((lowOf (xa) [xb]) + ((highOf (xa) [xb]) - (lowOf (xa) [xb])) * partOf m) := place_in (partOf_range hm).1 (partOf_range hm).2
  have hy : Btw (lowOf (xc) [xd]) (highOf (xc) [xd]) ((lowOf (xc) [xd]) + ((highOf (xc) [xd]) - (lowOf (xc) [xd])) * partOf n) := place_in (partOf_range hn).1 (partOf_range hn).2
  cases h1 : [la, lb, lc, ld].any (fun x => decide (120 < x.length)) with
  | true =>
    have hC : (mkC [1, 1, 1, 1, 1, 1, 1, 1, 1] [true, true, true, true, true, true, true, true, true] [26, 66, 64, 104] 250 (cl_holds_1 la lb lc ld le lf lg xa xb xc xd m n) w).Ok := mkC_ok (oks_cons (clV_ok rfl) <| oks_cons (clV_ok rfl) <| oks_cons (clV_ok rfl) <| oks_cons (clV_ok rfl) <| oks_cons (clV_ok rfl) <| oks_cons (clV_ok rfl) <| oks_cons (clV_ok rfl) <| oks_cons (clV_ok rfl) <| oks_cons (clV_ok rfl) <| oks_nil) rfl rfl
    have hT : ∀ t ∈ t_holds_1, t.Valid (mkC [1, 1, 1, 1, 1, 1, 1, 1, 1] [true, true, true, true, true, true, true, true, true] [26, 66, 64, 104] 250 (cl_holds_1 la lb lc ld le lf lg xa xb xc xd m n) w) :=
      forall_cons (e_long (ls := [la, lb, lc, ld]) ⟨_, _, rfl, rfl, ⟨_, _, rfl, rfl, ⟨_, _, rfl, rfl, ⟨_, _, rfl, rfl, rfl⟩⟩⟩⟩ rfl rfl h1) <|
      forall_cons (e_known hG) <|
      forall_nil
    refine Calls.mono (run_mk hC hT 11 Tryz.f11 [.agg [.cls 0 1, .cls 1 1, .cls 2 1, .cls 3 1, .cls 4 1, .cls 5 1, .cls 6 1, .cls 7 1, .cls 8 1]] (.val (vp (.bool true))) 200 Tryz.func11 rfl rfl rfl (by kernel_rfl) [.agg #[str la, str lb, str lc, str ld, str le, str lf, .int .u8 (m : Int), .int .u8 (n : Int), str lg]] ⟨_, _, rfl, ⟨_, ⟨[str la], _, rfl, ⟨fun _ => str la, rfl, rfl⟩, ⟨[str lb], _, rfl, ⟨fun _ => str lb, rfl, rfl⟩, ⟨[str lc], _, rfl, ⟨fun _ => str lc, rfl, rfl⟩, ⟨[str ld], _, rfl, ⟨fun _ => str ld, rfl, rfl⟩, ⟨[str le], _, rfl, ⟨fun _ => str le, rfl, rfl⟩, ⟨[str lf], _, rfl, ⟨fun _ => str lf, rfl, rfl⟩, ⟨[.int .u8 (m : Int)], _, rfl, ⟨fun _ => .int .u8 (m : Int), rfl, rfl⟩, ⟨[.int .u8 (n : Int)], _, rfl, ⟨fun _ => .int .u8 (n : Int), rfl, rfl⟩, ⟨[str lg], _, rfl, ⟨fun _ => str lg, rfl, rfl⟩, rfl⟩⟩⟩⟩⟩⟩⟩⟩⟩, rfl⟩, rfl⟩) ?_
    rintro e w' ⟨v, rfl, hv, hb⟩; obtain rfl := val_of hv; exact ⟨rfl, hb⟩
  | false =>
    cases h2 : hasQ (lowOf (xc) [xd]) (highOf (xc) [xd]) (0) with
    | true =>
      by_cases h3 : cmpQ (highOf (lowOf (lowOf (xa) [xb]) [highOf (xa) [xb]]) [lowOf (lowOf (xc) [xd]) [highOf (xc) [xd]]]) (lowOf (highOf (lowOf (xa) [xb]) [highOf (xa) [xb]]) [highOf (lowOf (xc) [xd]) [highOf (xc) [xd]]]) = 1
      · skip
        have hC : (mkC [1, 1, 1, 1, 1, 1, 1, 1, 1, 4, 4, 4, 4, 4, 4, 4, 4, 4, 4, 4, 4, 4, 4, 4, 4, 4, 4, 4, 4, 4, 4, 4, 4, 4, 4, 4, 4] [true, true, true, true, true, true, true, true, true, true, true, true, true, true, true, true, true, true, true, true, true, true, true, true, true, true, true, true, true, true, true, true, true, true, true, true, true] [26, 66, 64, 104] 250 (cl_holds_2 la lb lc ld le lf lg xa xb xc xd m n) w).Ok := mkC_ok (oks_cons (clV_ok rfl) <| oks_cons (clV_ok rfl) <| oks_cons (clV_ok rfl) <| oks_cons (clV_ok rfl) <| oks_cons (clV_ok rfl) <| oks_cons (clV_ok rfl) <| oks_cons (clV_ok rfl) <| oks_cons (clV_ok rfl) <| oks_cons (clV_ok rfl) <| oks_cons (clQ_ok (by decide) _ _) <| oks_cons (clQ_ok (by decide) _ _) <| oks_cons (clQ_ok (by decide) _ _) <| oks_cons (clQ_ok (by decide) _ _) <| oks_cons (clQ_ok (by decide) _ _) <| oks_cons (clQ_ok (by decide) _ _) <| oks_cons (clQ_ok (by decide) _ _) <| oks_cons (clQ_ok (by decide) _ _) <| oks_cons (clQ_ok (by decide) _ _) <| oks_cons (clQ_ok (by decide) _ _) <| oks_cons (clQ_ok (by decide) _ _) <| oks_cons (clQ_ok (by decide) _ _) <| oks_cons (clQ_ok (by decide) _ _) <| oks_cons (clQ_ok (by decide) _ _) <| oks_cons (clQ_ok (by decide) _ _) <| oks_cons (clQ_ok (by decide) _ _) <| oks_cons (clQ_ok (by decide) _ _) <| oks_cons (clQ_ok (by decide) _ _) <| oks_cons (clQ_ok (by decide) _ _) <| oks_cons (clQ_ok (by decide) _ _) <| oks_cons (clQ_ok (by decide) _ _) <| oks_cons (clQ_ok (by decide) _ _) <| oks_cons (clQ_ok (by decide) _ _) <| oks_cons (clQ_ok (by decide) _ _) <| oks_cons (clQ_ok (by decide) _ _) <| oks_cons (clQ_ok (by decide) _ _) <| oks_cons (clQ_ok (by decide) _ _) <| oks_cons (clQ_ok (by decide) _ _) <| oks_nil) rfl rfl
        have hT : ∀ t ∈ t_holds_2, t.Valid (mkC [1, 1, 1, 1, 1, 1, 1, 1, 1, 4, 4, 4, 4, 4, 4, 4, 4, 4, 4, 4, 4, 4, 4, 4, 4, 4, 4, 4, 4, 4, 4, 4, 4, 4, 4, 4, 4] [true, true, true, true, true, true, true, true, true, true, true, true, true, true, true, true, true, true, true, true, true, true, true, true, true, true, true, true, true, true, true, true, true, true, true, true, true] [26, 66, 64, 104] 250 (cl_holds_2 la lb lc ld le lf lg xa xb xc xd m n) w) :=
          forall_cons (e_long (ls := [la, lb, lc, ld]) ⟨_, _, rfl, rfl, ⟨_, _, rfl, rfl, ⟨_, _, rfl, rfl, ⟨_, _, rfl, rfl, rfl⟩⟩⟩⟩ rfl rfl h1) <|
          forall_cons (e_number' hG rfl hxa rfl (long_lens h1 la (by simp)) rfl rfl) <|
          forall_cons (e_number' hG rfl hxb rfl (long_lens h1 lb (by simp)) rfl rfl) <|
          forall_cons (e_between (pq rfl) (pq rfl) rfl rfl rfl rfl) <|
          forall_cons (e_number' hG rfl hxc rfl (long_lens h1 lc (by simp)) rfl rfl) <|
          forall_cons (e_number' hG rfl hxd rfl (long_lens h1 ld (by simp)) rfl rfl) <|
          forall_cons (e_between (pq rfl) (pq rfl) rfl rfl rfl rfl) <|
          forall_cons (e_at hG hm (ps rfl rfl) rfl rfl ((siz_l1 (hxa ▸ sz_read (long_lens h1 la (by simp))) (hxb ▸ sz_read (long_lens h1 lb (by simp)))).le (by decide)) ((siz_h1 (hxa ▸ sz_read (long_lens h1 la (by simp))) (hxb ▸ sz_read (long_lens h1 lb (by simp)))).le (by decide)) rfl) <|
          forall_cons (e_at hG hn (ps rfl rfl) rfl rfl ((siz_l1 (hxc ▸ sz_read (long_lens h1 lc (by simp))) (hxd ▸ sz_read (long_lens h1 ld (by simp)))).le (by decide)) ((siz_h1 (hxc ▸ sz_read (long_lens h1 lc (by simp))) (hxd ▸ sz_read (long_lens h1 ld (by simp)))).le (by decide)) rfl) <|
          forall_cons (e_has (ps rfl rfl) (pq rfl) rfl ((hasQ_iff _ _ _).2 hx)) <|
          forall_cons (e_has (ps rfl rfl) (pq rfl) rfl ((hasQ_iff _ _ _).2 hy)) <|
          forall_cons (e_spplus hG (ps rfl rfl) (ps rfl rfl) rfl rfl rfl rfl) <|
          forall_cons (e_plus hG (pq rfl) (pq rfl) rfl rfl) <|
          forall_cons (e_has (ps rfl rfl) (pq rfl) rfl ((hasQ_iff _ _ _).2 (plus_in hx hy))) <|
          forall_cons (e_spminus hG (ps rfl rfl) (ps rfl rfl) rfl rfl rfl rfl) <|
          forall_cons (e_minus hG (pq rfl) (pq rfl) rfl rfl) <|
          forall_cons (e_has (ps rfl rfl) (pq rfl) rfl ((hasQ_iff _ _ _).2 (minus_in hx hy))) <|
          forall_cons (e_sptimes hG (ps rfl rfl) (ps rfl rfl) rfl rfl rfl rfl) <|
          forall_cons (e_times hG (pq rfl) (pq rfl) rfl rfl) <|
          forall_cons (e_has (ps rfl rfl) (pq rfl) rfl ((hasQ_iff _ _ _).2 (times_in hx hy))) <|
          forall_cons (e_square hG (ps rfl rfl) rfl rfl rfl rfl) <|
          forall_cons (e_times hG (pq rfl) (pq rfl) rfl rfl) <|
          forall_cons (e_has (ps rfl rfl) (pq rfl) rfl ((hasQ_iff _ _ _).2 (square_in hx))) <|
          forall_cons (e_spabs hG (ps rfl rfl) rfl rfl rfl rfl) <|
          forall_cons (e_abs (pq rfl) rfl rfl) <|
          forall_cons (e_has (ps rfl rfl) (pq rfl) rfl ((hasQ_iff _ _ _).2 (abs_in hx))) <|
          forall_cons (e_hull (ps rfl rfl) (ps rfl rfl) rfl rfl rfl rfl) <|
          forall_cons (e_has (ps rfl rfl) (pq rfl) rfl ((hasQ_iff _ _ _).2 (hull_low hx))) <|
          forall_cons (e_has (ps rfl rfl) (pq rfl) rfl ((hasQ_iff _ _ _).2 (hull_high hy))) <|
          forall_cons (e_spover0 (ps rfl rfl) (ps rfl rfl) rfl rfl h2) <|
          forall_cons (e_has (ps rfl rfl) pq0 rfl h2) <|
          forall_cons (e_ended_plus hG (ps rfl rfl) (ps rfl rfl) (ps rfl rfl) rfl) <|
          forall_cons (e_ended_minus hG (ps rfl rfl) (ps rfl rfl) (ps rfl rfl) rfl) <|
          forall_cons (e_ended_times hG (ps rfl rfl) (ps rfl rfl) (ps rfl rfl) rfl) <|
          forall_cons (e_meet0 hG (ps rfl rfl) (ps rfl rfl) rfl rfl rfl h3) <|
          forall_cons (e_has (ps rfl rfl) (pq rfl) rfl (meet_not h3 hy)) <|
          forall_cons (e_has (ps rfl rfl) (pq rfl) rfl (meet_not' h3 hx)) <|
          forall_cons (e_known hG) <|
          forall_nil
        refine Calls.mono (run_mk hC hT 11 Tryz.f11 [.agg [.cls 0 1, .cls 1 1, .cls 2 1, .cls 3 1, .cls 4 1, .cls 5 1, .cls 6 1, .cls 7 1, .cls 8 1]] (.val (vp (.bool true))) 200 Tryz.func11 rfl rfl rfl (by kernel_rfl) [.agg #[str la, str lb, str lc, str ld, str le, str lf, .int .u8 (m : Int), .int .u8 (n : Int), str lg]] ⟨_, _, rfl, ⟨_, ⟨[str la], _, rfl, ⟨fun _ => str la, rfl, rfl⟩, ⟨[str lb], _, rfl, ⟨fun _ => str lb, rfl, rfl⟩, ⟨[str lc], _, rfl, ⟨fun _ => str lc, rfl, rfl⟩, ⟨[str ld], _, rfl, ⟨fun _ => str ld, rfl, rfl⟩, ⟨[str le], _, rfl, ⟨fun _ => str le, rfl, rfl⟩, ⟨[str lf], _, rfl, ⟨fun _ => str lf, rfl, rfl⟩, ⟨[.int .u8 (m : Int)], _, rfl, ⟨fun _ => .int .u8 (m : Int), rfl, rfl⟩, ⟨[.int .u8 (n : Int)], _, rfl, ⟨fun _ => .int .u8 (n : Int), rfl, rfl⟩, ⟨[str lg], _, rfl, ⟨fun _ => str lg, rfl, rfl⟩, rfl⟩⟩⟩⟩⟩⟩⟩⟩⟩, rfl⟩, rfl⟩) ?_
        rintro e w' ⟨v, rfl, hv, hb⟩; obtain rfl := val_of hv; exact ⟨rfl, hb⟩
      · skip
        cases h4 : hasQ (lowOf (xc) [xd]) (highOf (xc) [xd]) ((lowOf (xa) [xb]) + ((highOf (xa) [xb]) - (lowOf (xa) [xb])) * partOf m) with
        | true =>
          have hC : (mkC [1, 1, 1, 1, 1, 1, 1, 1, 1, 4, 4, 4, 4, 4, 4, 4, 4, 4, 4, 4, 4, 4, 4, 4, 4, 4, 4, 4, 4, 4, 4, 4, 4, 4, 4, 4, 4, 4, 4] [true, true, true, true, true, true, true, true, true, true, true, true, true, true, true, true, true, true, true, true, true, true, true, true, true, true, true, true, true, true, true, true, true, true, true, true, true, true, true] [26, 66, 64, 104] 250 (cl_holds_3 la lb lc ld le lf lg xa xb xc xd m n) w).Ok := mkC_ok (oks_cons (clV_ok rfl) <| oks_cons (clV_ok rfl) <| oks_cons (clV_ok rfl) <| oks_cons (clV_ok rfl) <| oks_cons (clV_ok rfl) <| oks_cons (clV_ok rfl) <| oks_cons (clV_ok rfl) <| oks_cons (clV_ok rfl) <| oks_cons (clV_ok rfl) <| oks_cons (clQ_ok (by decide) _ _) <| oks_cons (clQ_ok (by decide) _ _) <| oks_cons (clQ_ok (by decide) _ _) <| oks_cons (clQ_ok (by decide) _ _) <| oks_cons (clQ_ok (by decide) _ _) <| oks_cons (clQ_ok (by decide) _ _) <| oks_cons (clQ_ok (by decide) _ _) <| oks_cons (clQ_ok (by decide) _ _) <| oks_cons (clQ_ok (by decide) _ _) <| oks_cons (clQ_ok (by decide) _ _) <| oks_cons (clQ_ok (by decide) _ _) <| oks_cons (clQ_ok (by decide) _ _) <| oks_cons (clQ_ok (by decide) _ _) <| oks_cons (clQ_ok (by decide) _ _) <| oks_cons (clQ_ok (by decide) _ _) <| oks_cons (clQ_ok (by decide) _ _) <| oks_cons (clQ_ok (by decide) _ _) <| oks_cons (clQ_ok (by decide) _ _) <| oks_cons (clQ_ok (by decide) _ _) <| oks_cons (clQ_ok (by decide) _ _) <| oks_cons (clQ_ok (by decide) _ _) <| oks_cons (clQ_ok (by decide) _ _) <| oks_cons (clQ_ok (by decide) _ _) <| oks_cons (clQ_ok (by decide) _ _) <| oks_cons (clQ_ok (by decide) _ _) <| oks_cons (clQ_ok (by decide) _ _) <| oks_cons (clQ_ok (by decide) _ _) <| oks_cons (clQ_ok (by decide) _ _) <| oks_cons (clQ_ok (by decide) _ _) <| oks_cons (clQ_ok (by decide) _ _) <| oks_nil) rfl rfl
          have hT : ∀ t ∈ t_holds_3, t.Valid (mkC [1, 1, 1, 1, 1, 1, 1, 1, 1, 4, 4, 4, 4, 4, 4, 4, 4, 4, 4, 4, 4, 4, 4, 4, 4, 4, 4, 4, 4, 4, 4, 4, 4, 4, 4, 4, 4, 4, 4] [true, true, true, true, true, true, true, true, true, true, true, true, true, true, true, true, true, true, true, true, true, true, true, true, true, true, true, true, true, true, true, true, true, true, true, true, true, true, true] [26, 66, 64, 104] 250 (cl_holds_3 la lb lc ld le lf lg xa xb xc xd m n) w) :=
            forall_cons (e_long (ls := [la, lb, lc, ld]) ⟨_, _, rfl, rfl, ⟨_, _, rfl, rfl, ⟨_, _, rfl, rfl, ⟨_, _, rfl, rfl, rfl⟩⟩⟩⟩ rfl rfl h1) <|
            forall_cons (e_number' hG rfl hxa rfl (long_lens h1 la (by simp)) rfl rfl) <|
            forall_cons (e_number' hG rfl hxb rfl (long_lens h1 lb (by simp)) rfl rfl) <|
            forall_cons (e_between (pq rfl) (pq rfl) rfl rfl rfl rfl) <|
            forall_cons (e_number' hG rfl hxc rfl (long_lens h1 lc (by simp)) rfl rfl) <|
            forall_cons (e_number' hG rfl hxd rfl (long_lens h1 ld (by simp)) rfl rfl) <|
            forall_cons (e_between (pq rfl) (pq rfl) rfl rfl rfl rfl) <|
            forall_cons (e_at hG hm (ps rfl rfl) rfl rfl ((siz_l1 (hxa ▸ sz_read (long_lens h1 la (by simp))) (hxb ▸ sz_read (long_lens h1 lb (by simp)))).le (by decide)) ((siz_h1 (hxa ▸ sz_read (long_lens h1 la (by simp))) (hxb ▸ sz_read (long_lens h1 lb (by simp)))).le (by decide)) rfl) <|
            forall_cons (e_at hG hn (ps rfl rfl) rfl rfl ((siz_l1 (hxc ▸ sz_read (long_lens h1 lc (by simp))) (hxd ▸ sz_read (long_lens h1 ld (by simp)))).le (by decide)) ((siz_h1 (hxc ▸ sz_read (long_lens h1 lc (by simp))) (hxd ▸ sz_read (long_lens h1 ld (by simp)))).le (by decide)) rfl) <|
            forall_cons (e_has (ps rfl rfl) (pq rfl) rfl ((hasQ_iff _ _ _).2 hx)) <|
            forall_cons (e_has (ps rfl rfl) (pq rfl) rfl ((hasQ_iff _ _ _).2 hy)) <|
            forall_cons (e_spplus hG (ps rfl rfl) (ps rfl rfl) rfl rfl rfl rfl) <|
            forall_cons (e_plus hG (pq rfl) (pq rfl) rfl rfl) <|
            forall_cons (e_has (ps rfl rfl) (pq rfl) rfl ((hasQ_iff _ _ _).2 (plus_in hx hy))) <|
            forall_cons (e_spminus hG (ps rfl rfl) (ps rfl rfl) rfl rfl rfl rfl) <|
            forall_cons (e_minus hG (pq rfl) (pq rfl) rfl rfl) <|
            forall_cons (e_has (ps rfl rfl) (pq rfl) rfl ((hasQ_iff _ _ _).2 (minus_in hx hy))) <|
            forall_cons (e_sptimes hG (ps rfl rfl) (ps rfl rfl) rfl rfl rfl rfl) <|
            forall_cons (e_times hG (pq rfl) (pq rfl) rfl rfl) <|
            forall_cons (e_has (ps rfl rfl) (pq rfl) rfl ((hasQ_iff _ _ _).2 (times_in hx hy))) <|
            forall_cons (e_square hG (ps rfl rfl) rfl rfl rfl rfl) <|
            forall_cons (e_times hG (pq rfl) (pq rfl) rfl rfl) <|
            forall_cons (e_has (ps rfl rfl) (pq rfl) rfl ((hasQ_iff _ _ _).2 (square_in hx))) <|
            forall_cons (e_spabs hG (ps rfl rfl) rfl rfl rfl rfl) <|
            forall_cons (e_abs (pq rfl) rfl rfl) <|
            forall_cons (e_has (ps rfl rfl) (pq rfl) rfl ((hasQ_iff _ _ _).2 (abs_in hx))) <|
            forall_cons (e_hull (ps rfl rfl) (ps rfl rfl) rfl rfl rfl rfl) <|
            forall_cons (e_has (ps rfl rfl) (pq rfl) rfl ((hasQ_iff _ _ _).2 (hull_low hx))) <|
            forall_cons (e_has (ps rfl rfl) (pq rfl) rfl ((hasQ_iff _ _ _).2 (hull_high hy))) <|
            forall_cons (e_spover0 (ps rfl rfl) (ps rfl rfl) rfl rfl h2) <|
            forall_cons (e_has (ps rfl rfl) pq0 rfl h2) <|
            forall_cons (e_ended_plus hG (ps rfl rfl) (ps rfl rfl) (ps rfl rfl) rfl) <|
            forall_cons (e_ended_minus hG (ps rfl rfl) (ps rfl rfl) (ps rfl rfl) rfl) <|
            forall_cons (e_ended_times hG (ps rfl rfl) (ps rfl rfl) (ps rfl rfl) rfl) <|
            forall_cons (e_meet hG (ps rfl rfl) (ps rfl rfl) rfl rfl rfl rfl rfl h3) <|
            forall_cons (e_has (ps rfl rfl) (pq rfl) rfl (meet_low_s h3)) <|
            forall_cons (e_has (ps rfl rfl) (pq rfl) rfl (meet_high_s h3)) <|
            forall_cons (e_has (ps rfl rfl) (pq rfl) rfl (meet_low_t h3)) <|
            forall_cons (e_has (ps rfl rfl) (pq rfl) rfl (meet_high_t h3)) <|
            forall_cons (e_has (ps rfl rfl) (pq rfl) rfl ((meet_has h3 hx).trans h4)) <|
            forall_cons (e_has (ps rfl rfl) (pq rfl) rfl h4) <|
            forall_cons (e_known hG) <|
            forall_nil
          refine Calls.mono (run_mk hC hT 11 Tryz.f11 [.agg [.cls 0 1, .cls 1 1, .cls 2 1, .cls 3 1, .cls 4 1, .cls 5 1, .cls 6 1, .cls 7 1, .cls 8 1]] (.val (vp (.bool true))) 200 Tryz.func11 rfl rfl rfl (by kernel_rfl) [.agg #[str la, str lb, str lc, str ld, str le, str lf, .int .u8 (m : Int), .int .u8 (n : Int), str lg]] ⟨_, _, rfl, ⟨_, ⟨[str la], _, rfl, ⟨fun _ => str la, rfl, rfl⟩, ⟨[str lb], _, rfl, ⟨fun _ => str lb, rfl, rfl⟩, ⟨[str lc], _, rfl, ⟨fun _ => str lc, rfl, rfl⟩, ⟨[str ld], _, rfl, ⟨fun _ => str ld, rfl, rfl⟩, ⟨[str le], _, rfl, ⟨fun _ => str le, rfl, rfl⟩, ⟨[str lf], _, rfl, ⟨fun _ => str lf, rfl, rfl⟩, ⟨[.int .u8 (m : Int)], _, rfl, ⟨fun _ => .int .u8 (m : Int), rfl, rfl⟩, ⟨[.int .u8 (n : Int)], _, rfl, ⟨fun _ => .int .u8 (n : Int), rfl, rfl⟩, ⟨[str lg], _, rfl, ⟨fun _ => str lg, rfl, rfl⟩, rfl⟩⟩⟩⟩⟩⟩⟩⟩⟩, rfl⟩, rfl⟩) ?_
          rintro e w' ⟨v, rfl, hv, hb⟩; obtain rfl := val_of hv; exact ⟨rfl, hb⟩
        | false =>
          have hC : (mkC [1, 1, 1, 1, 1, 1, 1, 1, 1, 4, 4, 4, 4, 4, 4, 4, 4, 4, 4, 4, 4, 4, 4, 4, 4, 4, 4, 4, 4, 4, 4, 4, 4, 4, 4, 4, 4, 4, 4] [true, true, true, true, true, true, true, true, true, true, true, true, true, true, true, true, true, true, true, true, true, true, true, true, true, true, true, true, true, true, true, true, true, true, true, true, true, true, true] [26, 66, 64, 104] 250 (cl_holds_4 la lb lc ld le lf lg xa xb xc xd m n) w).Ok := mkC_ok (oks_cons (clV_ok rfl) <| oks_cons (clV_ok rfl) <| oks_cons (clV_ok rfl) <| oks_cons (clV_ok rfl) <| oks_cons (clV_ok rfl) <| oks_cons (clV_ok rfl) <| oks_cons (clV_ok rfl) <| oks_cons (clV_ok rfl) <| oks_cons (clV_ok rfl) <| oks_cons (clQ_ok (by decide) _ _) <| oks_cons (clQ_ok (by decide) _ _) <| oks_cons (clQ_ok (by decide) _ _) <| oks_cons (clQ_ok (by decide) _ _) <| oks_cons (clQ_ok (by decide) _ _) <| oks_cons (clQ_ok (by decide) _ _) <| oks_cons (clQ_ok (by decide) _ _) <| oks_cons (clQ_ok (by decide) _ _) <| oks_cons (clQ_ok (by decide) _ _) <| oks_cons (clQ_ok (by decide) _ _) <| oks_cons (clQ_ok (by decide) _ _) <| oks_cons (clQ_ok (by decide) _ _) <| oks_cons (clQ_ok (by decide) _ _) <| oks_cons (clQ_ok (by decide) _ _) <| oks_cons (clQ_ok (by decide) _ _) <| oks_cons (clQ_ok (by decide) _ _) <| oks_cons (clQ_ok (by decide) _ _) <| oks_cons (clQ_ok (by decide) _ _) <| oks_cons (clQ_ok (by decide) _ _) <| oks_cons (clQ_ok (by decide) _ _) <| oks_cons (clQ_ok (by decide) _ _) <| oks_cons (clQ_ok (by decide) _ _) <| oks_cons (clQ_ok (by decide) _ _) <| oks_cons (clQ_ok (by decide) _ _) <| oks_cons (clQ_ok (by decide) _ _) <| oks_cons (clQ_ok (by decide) _ _) <| oks_cons (clQ_ok (by decide) _ _) <| oks_cons (clQ_ok (by decide) _ _) <| oks_cons (clQ_ok (by decide) _ _) <| oks_cons (clQ_ok (by decide) _ _) <| oks_nil) rfl rfl
          have hT : ∀ t ∈ t_holds_4, t.Valid (mkC [1, 1, 1, 1, 1, 1, 1, 1, 1, 4, 4, 4, 4, 4, 4, 4, 4, 4, 4, 4, 4, 4, 4, 4, 4, 4, 4, 4, 4, 4, 4, 4, 4, 4, 4, 4, 4, 4, 4] [true, true, true, true, true, true, true, true, true, true, true, true, true, true, true, true, true, true, true, true, true, true, true, true, true, true, true, true, true, true, true, true, true, true, true, true, true, true, true] [26, 66, 64, 104] 250 (cl_holds_4 la lb lc ld le lf lg xa xb xc xd m n) w) :=
            forall_cons (e_long (ls := [la, lb, lc, ld]) ⟨_, _, rfl, rfl, ⟨_, _, rfl, rfl, ⟨_, _, rfl, rfl, ⟨_, _, rfl, rfl, rfl⟩⟩⟩⟩ rfl rfl h1) <|
            forall_cons (e_number' hG rfl hxa rfl (long_lens h1 la (by simp)) rfl rfl) <|
            forall_cons (e_number' hG rfl hxb rfl (long_lens h1 lb (by simp)) rfl rfl) <|
            forall_cons (e_between (pq rfl) (pq rfl) rfl rfl rfl rfl) <|
            forall_cons (e_number' hG rfl hxc rfl (long_lens h1 lc (by simp)) rfl rfl) <|
            forall_cons (e_number' hG rfl hxd rfl (long_lens h1 ld (by simp)) rfl rfl) <|
            forall_cons (e_between (pq rfl) (pq rfl) rfl rfl rfl rfl) <|
            forall_cons (e_at hG hm (ps rfl rfl) rfl rfl ((siz_l1 (hxa ▸ sz_read (long_lens h1 la (by simp))) (hxb ▸ sz_read (long_lens h1 lb (by simp)))).le (by decide)) ((siz_h1 (hxa ▸ sz_read (long_lens h1 la (by simp))) (hxb ▸ sz_read (long_lens h1 lb (by simp)))).le (by decide)) rfl) <|
            forall_cons (e_at hG hn (ps rfl rfl) rfl rfl ((siz_l1 (hxc ▸ sz_read (long_lens h1 lc (by simp))) (hxd ▸ sz_read (long_lens h1 ld (by simp)))).le (by decide)) ((siz_h1 (hxc ▸ sz_read (long_lens h1 lc (by simp))) (hxd ▸ sz_read (long_lens h1 ld (by simp)))).le (by decide)) rfl) <|
            forall_cons (e_has (ps rfl rfl) (pq rfl) rfl ((hasQ_iff _ _ _).2 hx)) <|
            forall_cons (e_has (ps rfl rfl) (pq rfl) rfl ((hasQ_iff _ _ _).2 hy)) <|
            forall_cons (e_spplus hG (ps rfl rfl) (ps rfl rfl) rfl rfl rfl rfl) <|
            forall_cons (e_plus hG (pq rfl) (pq rfl) rfl rfl) <|
            forall_cons (e_has (ps rfl rfl) (pq rfl) rfl ((hasQ_iff _ _ _).2 (plus_in hx hy))) <|
            forall_cons (e_spminus hG (ps rfl rfl) (ps rfl rfl) rfl rfl rfl rfl) <|
            forall_cons (e_minus hG (pq rfl) (pq rfl) rfl rfl) <|
            forall_cons (e_has (ps rfl rfl) (pq rfl) rfl ((hasQ_iff _ _ _).2 (minus_in hx hy))) <|
            forall_cons (e_sptimes hG (ps rfl rfl) (ps rfl rfl) rfl rfl rfl rfl) <|
            forall_cons (e_times hG (pq rfl) (pq rfl) rfl rfl) <|
            forall_cons (e_has (ps rfl rfl) (pq rfl) rfl ((hasQ_iff _ _ _).2 (times_in hx hy))) <|
            forall_cons (e_square hG (ps rfl rfl) rfl rfl rfl rfl) <|
            forall_cons (e_times hG (pq rfl) (pq rfl) rfl rfl) <|
            forall_cons (e_has (ps rfl rfl) (pq rfl) rfl ((hasQ_iff _ _ _).2 (square_in hx))) <|
            forall_cons (e_spabs hG (ps rfl rfl) rfl rfl rfl rfl) <|
            forall_cons (e_abs (pq rfl) rfl rfl) <|
            forall_cons (e_has (ps rfl rfl) (pq rfl) rfl ((hasQ_iff _ _ _).2 (abs_in hx))) <|
            forall_cons (e_hull (ps rfl rfl) (ps rfl rfl) rfl rfl rfl rfl) <|
            forall_cons (e_has (ps rfl rfl) (pq rfl) rfl ((hasQ_iff _ _ _).2 (hull_low hx))) <|
            forall_cons (e_has (ps rfl rfl) (pq rfl) rfl ((hasQ_iff _ _ _).2 (hull_high hy))) <|
            forall_cons (e_spover0 (ps rfl rfl) (ps rfl rfl) rfl rfl h2) <|
            forall_cons (e_has (ps rfl rfl) pq0 rfl h2) <|
            forall_cons (e_ended_plus hG (ps rfl rfl) (ps rfl rfl) (ps rfl rfl) rfl) <|
            forall_cons (e_ended_minus hG (ps rfl rfl) (ps rfl rfl) (ps rfl rfl) rfl) <|
            forall_cons (e_ended_times hG (ps rfl rfl) (ps rfl rfl) (ps rfl rfl) rfl) <|
            forall_cons (e_meet hG (ps rfl rfl) (ps rfl rfl) rfl rfl rfl rfl rfl h3) <|
            forall_cons (e_has (ps rfl rfl) (pq rfl) rfl (meet_low_s h3)) <|
            forall_cons (e_has (ps rfl rfl) (pq rfl) rfl (meet_high_s h3)) <|
            forall_cons (e_has (ps rfl rfl) (pq rfl) rfl (meet_low_t h3)) <|
            forall_cons (e_has (ps rfl rfl) (pq rfl) rfl (meet_high_t h3)) <|
            forall_cons (e_has (ps rfl rfl) (pq rfl) rfl ((meet_has h3 hx).trans h4)) <|
            forall_cons (e_has (ps rfl rfl) (pq rfl) rfl h4) <|
            forall_cons (e_known hG) <|
            forall_nil
          refine Calls.mono (run_mk hC hT 11 Tryz.f11 [.agg [.cls 0 1, .cls 1 1, .cls 2 1, .cls 3 1, .cls 4 1, .cls 5 1, .cls 6 1, .cls 7 1, .cls 8 1]] (.val (vp (.bool true))) 200 Tryz.func11 rfl rfl rfl (by kernel_rfl) [.agg #[str la, str lb, str lc, str ld, str le, str lf, .int .u8 (m : Int), .int .u8 (n : Int), str lg]] ⟨_, _, rfl, ⟨_, ⟨[str la], _, rfl, ⟨fun _ => str la, rfl, rfl⟩, ⟨[str lb], _, rfl, ⟨fun _ => str lb, rfl, rfl⟩, ⟨[str lc], _, rfl, ⟨fun _ => str lc, rfl, rfl⟩, ⟨[str ld], _, rfl, ⟨fun _ => str ld, rfl, rfl⟩, ⟨[str le], _, rfl, ⟨fun _ => str le, rfl, rfl⟩, ⟨[str lf], _, rfl, ⟨fun _ => str lf, rfl, rfl⟩, ⟨[.int .u8 (m : Int)], _, rfl, ⟨fun _ => .int .u8 (m : Int), rfl, rfl⟩, ⟨[.int .u8 (n : Int)], _, rfl, ⟨fun _ => .int .u8 (n : Int), rfl, rfl⟩, ⟨[str lg], _, rfl, ⟨fun _ => str lg, rfl, rfl⟩, rfl⟩⟩⟩⟩⟩⟩⟩⟩⟩, rfl⟩, rfl⟩) ?_
          rintro e w' ⟨v, rfl, hv, hb⟩; obtain rfl := val_of hv; exact ⟨rfl, hb⟩
    | false =>
      by_cases h3 : cmpQ (highOf (lowOf (lowOf (xa) [xb]) [highOf (xa) [xb]]) [lowOf (lowOf (xc) [xd]) [highOf (xc) [xd]]]) (lowOf (highOf (lowOf (xa) [xb]) [highOf (xa) [xb]]) [highOf (lowOf (xc) [xd]) [highOf (xc) [xd]]]) = 1
      · skip
        have hC : (mkC [1, 1, 1, 1, 1, 1, 1, 1, 1, 4, 4, 4, 4, 4, 4, 4, 4, 4, 4, 4, 4, 4, 4, 4, 4, 4, 4, 4, 4, 4, 4, 4, 4, 4, 4, 4, 4, 4, 4, 4] [true, true, true, true, true, true, true, true, true, true, true, true, true, true, true, true, true, true, true, true, true, true, true, true, true, true, true, true, true, true, true, true, true, true, true, true, true, true, true, true] [26, 66, 64, 104] 250 (cl_holds_5 la lb lc ld le lf lg xa xb xc xd m n) w).Ok := mkC_ok (oks_cons (clV_ok rfl) <| oks_cons (clV_ok rfl) <| oks_cons (clV_ok rfl) <| oks_cons (clV_ok rfl) <| oks_cons (clV_ok rfl) <| oks_cons (clV_ok rfl) <| oks_cons (clV_ok rfl) <| oks_cons (clV_ok rfl) <| oks_cons (clV_ok rfl) <| oks_cons (clQ_ok (by decide) _ _) <| oks_cons (clQ_ok (by decide) _ _) <| oks_cons (clQ_ok (by decide) _ _) <| oks_cons (clQ_ok (by decide) _ _) <| oks_cons (clQ_ok (by decide) _ _) <| oks_cons (clQ_ok (by decide) _ _) <| oks_cons (clQ_ok (by decide) _ _) <| oks_cons (clQ_ok (by decide) _ _) <| oks_cons (clQ_ok (by decide) _ _) <| oks_cons (clQ_ok (by decide) _ _) <| oks_cons (clQ_ok (by decide) _ _) <| oks_cons (clQ_ok (by decide) _ _) <| oks_cons (clQ_ok (by decide) _ _) <| oks_cons (clQ_ok (by decide) _ _) <| oks_cons (clQ_ok (by decide) _ _) <| oks_cons (clQ_ok (by decide) _ _) <| oks_cons (clQ_ok (by decide) _ _) <| oks_cons (clQ_ok (by decide) _ _) <| oks_cons (clQ_ok (by decide) _ _) <| oks_cons (clQ_ok (by decide) _ _) <| oks_cons (clQ_ok (by decide) _ _) <| oks_cons (clQ_ok (by decide) _ _) <| oks_cons (clQ_ok (by decide) _ _) <| oks_cons (clQ_ok (by decide) _ _) <| oks_cons (clQ_ok (by decide) _ _) <| oks_cons (clQ_ok (by decide) _ _) <| oks_cons (clQ_ok (by decide) _ _) <| oks_cons (clQ_ok (by decide) _ _) <| oks_cons (clQ_ok (by decide) _ _) <| oks_cons (clQ_ok (by decide) _ _) <| oks_cons (clQ_ok (by decide) _ _) <| oks_nil) rfl rfl
        have hT : ∀ t ∈ t_holds_5, t.Valid (mkC [1, 1, 1, 1, 1, 1, 1, 1, 1, 4, 4, 4, 4, 4, 4, 4, 4, 4, 4, 4, 4, 4, 4, 4, 4, 4, 4, 4, 4, 4, 4, 4, 4, 4, 4, 4, 4, 4, 4, 4] [true, true, true, true, true, true, true, true, true, true, true, true, true, true, true, true, true, true, true, true, true, true, true, true, true, true, true, true, true, true, true, true, true, true, true, true, true, true, true, true] [26, 66, 64, 104] 250 (cl_holds_5 la lb lc ld le lf lg xa xb xc xd m n) w) :=
          forall_cons (e_long (ls := [la, lb, lc, ld]) ⟨_, _, rfl, rfl, ⟨_, _, rfl, rfl, ⟨_, _, rfl, rfl, ⟨_, _, rfl, rfl, rfl⟩⟩⟩⟩ rfl rfl h1) <|
          forall_cons (e_number' hG rfl hxa rfl (long_lens h1 la (by simp)) rfl rfl) <|
          forall_cons (e_number' hG rfl hxb rfl (long_lens h1 lb (by simp)) rfl rfl) <|
          forall_cons (e_between (pq rfl) (pq rfl) rfl rfl rfl rfl) <|
          forall_cons (e_number' hG rfl hxc rfl (long_lens h1 lc (by simp)) rfl rfl) <|
          forall_cons (e_number' hG rfl hxd rfl (long_lens h1 ld (by simp)) rfl rfl) <|
          forall_cons (e_between (pq rfl) (pq rfl) rfl rfl rfl rfl) <|
          forall_cons (e_at hG hm (ps rfl rfl) rfl rfl ((siz_l1 (hxa ▸ sz_read (long_lens h1 la (by simp))) (hxb ▸ sz_read (long_lens h1 lb (by simp)))).le (by decide)) ((siz_h1 (hxa ▸ sz_read (long_lens h1 la (by simp))) (hxb ▸ sz_read (long_lens h1 lb (by simp)))).le (by decide)) rfl) <|
          forall_cons (e_at hG hn (ps rfl rfl) rfl rfl ((siz_l1 (hxc ▸ sz_read (long_lens h1 lc (by simp))) (hxd ▸ sz_read (long_lens h1 ld (by simp)))).le (by decide)) ((siz_h1 (hxc ▸ sz_read (long_lens h1 lc (by simp))) (hxd ▸ sz_read (long_lens h1 ld (by simp)))).le (by decide)) rfl) <|
          forall_cons (e_has (ps rfl rfl) (pq rfl) rfl ((hasQ_iff _ _ _).2 hx)) <|
          forall_cons (e_has (ps rfl rfl) (pq rfl) rfl ((hasQ_iff _ _ _).2 hy)) <|
          forall_cons (e_spplus hG (ps rfl rfl) (ps rfl rfl) rfl rfl rfl rfl) <|
          forall_cons (e_plus hG (pq rfl) (pq rfl) rfl rfl) <|
          forall_cons (e_has (ps rfl rfl) (pq rfl) rfl ((hasQ_iff _ _ _).2 (plus_in hx hy))) <|
          forall_cons (e_spminus hG (ps rfl rfl) (ps rfl rfl) rfl rfl rfl rfl) <|
          forall_cons (e_minus hG (pq rfl) (pq rfl) rfl rfl) <|
          forall_cons (e_has (ps rfl rfl) (pq rfl) rfl ((hasQ_iff _ _ _).2 (minus_in hx hy))) <|
          forall_cons (e_sptimes hG (ps rfl rfl) (ps rfl rfl) rfl rfl rfl rfl) <|
          forall_cons (e_times hG (pq rfl) (pq rfl) rfl rfl) <|
          forall_cons (e_has (ps rfl rfl) (pq rfl) rfl ((hasQ_iff _ _ _).2 (times_in hx hy))) <|
          forall_cons (e_square hG (ps rfl rfl) rfl rfl rfl rfl) <|
          forall_cons (e_times hG (pq rfl) (pq rfl) rfl rfl) <|
          forall_cons (e_has (ps rfl rfl) (pq rfl) rfl ((hasQ_iff _ _ _).2 (square_in hx))) <|
          forall_cons (e_spabs hG (ps rfl rfl) rfl rfl rfl rfl) <|
          forall_cons (e_abs (pq rfl) rfl rfl) <|
          forall_cons (e_has (ps rfl rfl) (pq rfl) rfl ((hasQ_iff _ _ _).2 (abs_in hx))) <|
          forall_cons (e_hull (ps rfl rfl) (ps rfl rfl) rfl rfl rfl rfl) <|
          forall_cons (e_has (ps rfl rfl) (pq rfl) rfl ((hasQ_iff _ _ _).2 (hull_low hx))) <|
          forall_cons (e_has (ps rfl rfl) (pq rfl) rfl ((hasQ_iff _ _ _).2 (hull_high hy))) <|
          forall_cons (e_spover hG (ps rfl rfl) (ps rfl rfl) rfl rfl rfl rfl h2) <|
          forall_cons (e_over hG (pq rfl) (pq rfl) rfl rfl (of_decide_eq_false (not_zero h2 hy))) <|
          forall_cons (e_has (ps rfl rfl) (pq rfl) rfl (over_has hx hy h2)) <|
          forall_cons (e_ended_over hG (ps rfl rfl) (ps rfl rfl) (ps rfl rfl) rfl h2) <|
          forall_cons (e_ended_plus hG (ps rfl rfl) (ps rfl rfl) (ps rfl rfl) rfl) <|
          forall_cons (e_ended_minus hG (ps rfl rfl) (ps rfl rfl) (ps rfl rfl) rfl) <|
          forall_cons (e_ended_times hG (ps rfl rfl) (ps rfl rfl) (ps rfl rfl) rfl) <|
          forall_cons (e_meet0 hG (ps rfl rfl) (ps rfl rfl) rfl rfl rfl h3) <|
          forall_cons (e_has (ps rfl rfl) (pq rfl) rfl (meet_not h3 hy)) <|
          forall_cons (e_has (ps rfl rfl) (pq rfl) rfl (meet_not' h3 hx)) <|
          forall_cons (e_known hG) <|
          forall_nil
        refine Calls.mono (run_mk hC hT 11 Tryz.f11 [.agg [.cls 0 1, .cls 1 1, .cls 2 1, .cls 3 1, .cls 4 1, .cls 5 1, .cls 6 1, .cls 7 1, .cls 8 1]] (.val (vp (.bool true))) 200 Tryz.func11 rfl rfl rfl (by kernel_rfl) [.agg #[str la, str lb, str lc, str ld, str le, str lf, .int .u8 (m : Int), .int .u8 (n : Int), str lg]] ⟨_, _, rfl, ⟨_, ⟨[str la], _, rfl, ⟨fun _ => str la, rfl, rfl⟩, ⟨[str lb], _, rfl, ⟨fun _ => str lb, rfl, rfl⟩, ⟨[str lc], _, rfl, ⟨fun _ => str lc, rfl, rfl⟩, ⟨[str ld], _, rfl, ⟨fun _ => str ld, rfl, rfl⟩, ⟨[str le], _, rfl, ⟨fun _ => str le, rfl, rfl⟩, ⟨[str lf], _, rfl, ⟨fun _ => str lf, rfl, rfl⟩, ⟨[.int .u8 (m : Int)], _, rfl, ⟨fun _ => .int .u8 (m : Int), rfl, rfl⟩, ⟨[.int .u8 (n : Int)], _, rfl, ⟨fun _ => .int .u8 (n : Int), rfl, rfl⟩, ⟨[str lg], _, rfl, ⟨fun _ => str lg, rfl, rfl⟩, rfl⟩⟩⟩⟩⟩⟩⟩⟩⟩, rfl⟩, rfl⟩) ?_
        rintro e w' ⟨v, rfl, hv, hb⟩; obtain rfl := val_of hv; exact ⟨rfl, hb⟩
      · skip
        cases h4 : hasQ (lowOf (xc) [xd]) (highOf (xc) [xd]) ((lowOf (xa) [xb]) + ((highOf (xa) [xb]) - (lowOf (xa) [xb])) * partOf m) with
        | true =>
          have hC : (mkC [1, 1, 1, 1, 1, 1, 1, 1, 1, 4, 4, 4, 4, 4, 4, 4, 4, 4, 4, 4, 4, 4, 4, 4, 4, 4, 4, 4, 4, 4, 4, 4, 4, 4, 4, 4, 4, 4, 4, 4, 4] [true, true, true, true, true, true, true, true, true, true, true, true, true, true, true, true, true, true, true, true, true, true, true, true, true, true, true, true, true, true, true, true, true, true, true, true, true, true, true, true, true] [26, 66, 64, 104] 250 (cl_holds_6 la lb lc ld le lf lg xa xb xc xd m n) w).Ok := mkC_ok (oks_cons (clV_ok rfl) <| oks_cons (clV_ok rfl) <| oks_cons (clV_ok rfl) <| oks_cons (clV_ok rfl) <| oks_cons (clV_ok rfl) <| oks_cons (clV_ok rfl) <| oks_cons (clV_ok rfl) <| oks_cons (clV_ok rfl) <| oks_cons (clV_ok rfl) <| oks_cons (clQ_ok (by decide) _ _) <| oks_cons (clQ_ok (by decide) _ _) <| oks_cons (clQ_ok (by decide) _ _) <| oks_cons (clQ_ok (by decide) _ _) <| oks_cons (clQ_ok (by decide) _ _) <| oks_cons (clQ_ok (by decide) _ _) <| oks_cons (clQ_ok (by decide) _ _) <| oks_cons (clQ_ok (by decide) _ _) <| oks_cons (clQ_ok (by decide) _ _) <| oks_cons (clQ_ok (by decide) _ _) <| oks_cons (clQ_ok (by decide) _ _) <| oks_cons (clQ_ok (by decide) _ _) <| oks_cons (clQ_ok (by decide) _ _) <| oks_cons (clQ_ok (by decide) _ _) <| oks_cons (clQ_ok (by decide) _ _) <| oks_cons (clQ_ok (by decide) _ _) <| oks_cons (clQ_ok (by decide) _ _) <| oks_cons (clQ_ok (by decide) _ _) <| oks_cons (clQ_ok (by decide) _ _) <| oks_cons (clQ_ok (by decide) _ _) <| oks_cons (clQ_ok (by decide) _ _) <| oks_cons (clQ_ok (by decide) _ _) <| oks_cons (clQ_ok (by decide) _ _) <| oks_cons (clQ_ok (by decide) _ _) <| oks_cons (clQ_ok (by decide) _ _) <| oks_cons (clQ_ok (by decide) _ _) <| oks_cons (clQ_ok (by decide) _ _) <| oks_cons (clQ_ok (by decide) _ _) <| oks_cons (clQ_ok (by decide) _ _) <| oks_cons (clQ_ok (by decide) _ _) <| oks_cons (clQ_ok (by decide) _ _) <| oks_cons (clQ_ok (by decide) _ _) <| oks_nil) rfl rfl
          have hT : ∀ t ∈ t_holds_6, t.Valid (mkC [1, 1, 1, 1, 1, 1, 1, 1, 1, 4, 4, 4, 4, 4, 4, 4, 4, 4, 4, 4, 4, 4, 4, 4, 4, 4, 4, 4, 4, 4, 4, 4, 4, 4, 4, 4, 4, 4, 4, 4, 4] [true, true, true, true, true, true, true, true, true, true, true, true, true, true, true, true, true, true, true, true, true, true, true, true, true, true, true, true, true, true, true, true, true, true, true, true, true, true, true, true, true] [26, 66, 64, 104] 250 (cl_holds_6 la lb lc ld le lf lg xa xb xc xd m n) w) :=
            forall_cons (e_long (ls := [la, lb, lc, ld]) ⟨_, _, rfl, rfl, ⟨_, _, rfl, rfl, ⟨_, _, rfl, rfl, ⟨_, _, rfl, rfl, rfl⟩⟩⟩⟩ rfl rfl h1) <|
            forall_cons (e_number' hG rfl hxa rfl (long_lens h1 la (by simp)) rfl rfl) <|
            forall_cons (e_number' hG rfl hxb rfl (long_lens h1 lb (by simp)) rfl rfl) <|
            forall_cons (e_between (pq rfl) (pq rfl) rfl rfl rfl rfl) <|
            forall_cons (e_number' hG rfl hxc rfl (long_lens h1 lc (by simp)) rfl rfl) <|
            forall_cons (e_number' hG rfl hxd rfl (long_lens h1 ld (by simp)) rfl rfl) <|
            forall_cons (e_between (pq rfl) (pq rfl) rfl rfl rfl rfl) <|
            forall_cons (e_at hG hm (ps rfl rfl) rfl rfl ((siz_l1 (hxa ▸ sz_read (long_lens h1 la (by simp))) (hxb ▸ sz_read (long_lens h1 lb (by simp)))).le (by decide)) ((siz_h1 (hxa ▸ sz_read (long_lens h1 la (by simp))) (hxb ▸ sz_read (long_lens h1 lb (by simp)))).le (by decide)) rfl) <|
            forall_cons (e_at hG hn (ps rfl rfl) rfl rfl ((siz_l1 (hxc ▸ sz_read (long_lens h1 lc (by simp))) (hxd ▸ sz_read (long_lens h1 ld (by simp)))).le (by decide)) ((siz_h1 (hxc ▸ sz_read (long_lens h1 lc (by simp))) (hxd ▸ sz_read (long_lens h1 ld (by simp)))).le (by decide)) rfl) <|
            forall_cons (e_has (ps rfl rfl) (pq rfl) rfl ((hasQ_iff _ _ _).2 hx)) <|
            forall_cons (e_has (ps rfl rfl) (pq rfl) rfl ((hasQ_iff _ _ _).2 hy)) <|
            forall_cons (e_spplus hG (ps rfl rfl) (ps rfl rfl) rfl rfl rfl rfl) <|
            forall_cons (e_plus hG (pq rfl) (pq rfl) rfl rfl) <|
            forall_cons (e_has (ps rfl rfl) (pq rfl) rfl ((hasQ_iff _ _ _).2 (plus_in hx hy))) <|
            forall_cons (e_spminus hG (ps rfl rfl) (ps rfl rfl) rfl rfl rfl rfl) <|
            forall_cons (e_minus hG (pq rfl) (pq rfl) rfl rfl) <|
            forall_cons (e_has (ps rfl rfl) (pq rfl) rfl ((hasQ_iff _ _ _).2 (minus_in hx hy))) <|
            forall_cons (e_sptimes hG (ps rfl rfl) (ps rfl rfl) rfl rfl rfl rfl) <|
            forall_cons (e_times hG (pq rfl) (pq rfl) rfl rfl) <|
            forall_cons (e_has (ps rfl rfl) (pq rfl) rfl ((hasQ_iff _ _ _).2 (times_in hx hy))) <|
            forall_cons (e_square hG (ps rfl rfl) rfl rfl rfl rfl) <|
            forall_cons (e_times hG (pq rfl) (pq rfl) rfl rfl) <|
            forall_cons (e_has (ps rfl rfl) (pq rfl) rfl ((hasQ_iff _ _ _).2 (square_in hx))) <|
            forall_cons (e_spabs hG (ps rfl rfl) rfl rfl rfl rfl) <|
            forall_cons (e_abs (pq rfl) rfl rfl) <|
            forall_cons (e_has (ps rfl rfl) (pq rfl) rfl ((hasQ_iff _ _ _).2 (abs_in hx))) <|
            forall_cons (e_hull (ps rfl rfl) (ps rfl rfl) rfl rfl rfl rfl) <|
            forall_cons (e_has (ps rfl rfl) (pq rfl) rfl ((hasQ_iff _ _ _).2 (hull_low hx))) <|
            forall_cons (e_has (ps rfl rfl) (pq rfl) rfl ((hasQ_iff _ _ _).2 (hull_high hy))) <|
            forall_cons (e_spover hG (ps rfl rfl) (ps rfl rfl) rfl rfl rfl rfl h2) <|
            forall_cons (e_over hG (pq rfl) (pq rfl) rfl rfl (of_decide_eq_false (not_zero h2 hy))) <|
            forall_cons (e_has (ps rfl rfl) (pq rfl) rfl (over_has hx hy h2)) <|
            forall_cons (e_ended_over hG (ps rfl rfl) (ps rfl rfl) (ps rfl rfl) rfl h2) <|
            forall_cons (e_ended_plus hG (ps rfl rfl) (ps rfl rfl) (ps rfl rfl) rfl) <|
            forall_cons (e_ended_minus hG (ps rfl rfl) (ps rfl rfl) (ps rfl rfl) rfl) <|
            forall_cons (e_ended_times hG (ps rfl rfl) (ps rfl rfl) (ps rfl rfl) rfl) <|
            forall_cons (e_meet hG (ps rfl rfl) (ps rfl rfl) rfl rfl rfl rfl rfl h3) <|
            forall_cons (e_has (ps rfl rfl) (pq rfl) rfl (meet_low_s h3)) <|
            forall_cons (e_has (ps rfl rfl) (pq rfl) rfl (meet_high_s h3)) <|
            forall_cons (e_has (ps rfl rfl) (pq rfl) rfl (meet_low_t h3)) <|
            forall_cons (e_has (ps rfl rfl) (pq rfl) rfl (meet_high_t h3)) <|
            forall_cons (e_has (ps rfl rfl) (pq rfl) rfl ((meet_has h3 hx).trans h4)) <|
            forall_cons (e_has (ps rfl rfl) (pq rfl) rfl h4) <|
            forall_cons (e_known hG) <|
            forall_nil
          refine Calls.mono (run_mk hC hT 11 Tryz.f11 [.agg [.cls 0 1, .cls 1 1, .cls 2 1, .cls 3 1, .cls 4 1, .cls 5 1, .cls 6 1, .cls 7 1, .cls 8 1]] (.val (vp (.bool true))) 200 Tryz.func11 rfl rfl rfl (by kernel_rfl) [.agg #[str la, str lb, str lc, str ld, str le, str lf, .int .u8 (m : Int), .int .u8 (n : Int), str lg]] ⟨_, _, rfl, ⟨_, ⟨[str la], _, rfl, ⟨fun _ => str la, rfl, rfl⟩, ⟨[str lb], _, rfl, ⟨fun _ => str lb, rfl, rfl⟩, ⟨[str lc], _, rfl, ⟨fun _ => str lc, rfl, rfl⟩, ⟨[str ld], _, rfl, ⟨fun _ => str ld, rfl, rfl⟩, ⟨[str le], _, rfl, ⟨fun _ => str le, rfl, rfl⟩, ⟨[str lf], _, rfl, ⟨fun _ => str lf, rfl, rfl⟩, ⟨[.int .u8 (m : Int)], _, rfl, ⟨fun _ => .int .u8 (m : Int), rfl, rfl⟩, ⟨[.int .u8 (n : Int)], _, rfl, ⟨fun _ => .int .u8 (n : Int), rfl, rfl⟩, ⟨[str lg], _, rfl, ⟨fun _ => str lg, rfl, rfl⟩, rfl⟩⟩⟩⟩⟩⟩⟩⟩⟩, rfl⟩, rfl⟩) ?_
          rintro e w' ⟨v, rfl, hv, hb⟩; obtain rfl := val_of hv; exact ⟨rfl, hb⟩
        | false =>
          have hC : (mkC [1, 1, 1, 1, 1, 1, 1, 1, 1, 4, 4, 4, 4, 4, 4, 4, 4, 4, 4, 4, 4, 4, 4, 4, 4, 4, 4, 4, 4, 4, 4, 4, 4, 4, 4, 4, 4, 4, 4, 4, 4] [true, true, true, true, true, true, true, true, true, true, true, true, true, true, true, true, true, true, true, true, true, true, true, true, true, true, true, true, true, true, true, true, true, true, true, true, true, true, true, true, true] [26, 66, 64, 104] 250 (cl_holds_7 la lb lc ld le lf lg xa xb xc xd m n) w).Ok := mkC_ok (oks_cons (clV_ok rfl) <| oks_cons (clV_ok rfl) <| oks_cons (clV_ok rfl) <| oks_cons (clV_ok rfl) <| oks_cons (clV_ok rfl) <| oks_cons (clV_ok rfl) <| oks_cons (clV_ok rfl) <| oks_cons (clV_ok rfl) <| oks_cons (clV_ok rfl) <| oks_cons (clQ_ok (by decide) _ _) <| oks_cons (clQ_ok (by decide) _ _) <| oks_cons (clQ_ok (by decide) _ _) <| oks_cons (clQ_ok (by decide) _ _) <| oks_cons (clQ_ok (by decide) _ _) <| oks_cons (clQ_ok (by decide) _ _) <| oks_cons (clQ_ok (by decide) _ _) <| oks_cons (clQ_ok (by decide) _ _) <| oks_cons (clQ_ok (by decide) _ _) <| oks_cons (clQ_ok (by decide) _ _) <| oks_cons (clQ_ok (by decide) _ _) <| oks_cons (clQ_ok (by decide) _ _) <| oks_cons (clQ_ok (by decide) _ _) <| oks_cons (clQ_ok (by decide) _ _) <| oks_cons (clQ_ok (by decide) _ _) <| oks_cons (clQ_ok (by decide) _ _) <| oks_cons (clQ_ok (by decide) _ _) <| oks_cons (clQ_ok (by decide) _ _) <| oks_cons (clQ_ok (by decide) _ _) <| oks_cons (clQ_ok (by decide) _ _) <| oks_cons (clQ_ok (by decide) _ _) <| oks_cons (clQ_ok (by decide) _ _) <| oks_cons (clQ_ok (by decide) _ _) <| oks_cons (clQ_ok (by decide) _ _) <| oks_cons (clQ_ok (by decide) _ _) <| oks_cons (clQ_ok (by decide) _ _) <| oks_cons (clQ_ok (by decide) _ _) <| oks_cons (clQ_ok (by decide) _ _) <| oks_cons (clQ_ok (by decide) _ _) <| oks_cons (clQ_ok (by decide) _ _) <| oks_cons (clQ_ok (by decide) _ _) <| oks_cons (clQ_ok (by decide) _ _) <| oks_nil) rfl rfl
          have hT : ∀ t ∈ t_holds_7, t.Valid (mkC [1, 1, 1, 1, 1, 1, 1, 1, 1, 4, 4, 4, 4, 4, 4, 4, 4, 4, 4, 4, 4, 4, 4, 4, 4, 4, 4, 4, 4, 4, 4, 4, 4, 4, 4, 4, 4, 4, 4, 4, 4] [true, true, true, true, true, true, true, true, true, true, true, true, true, true, true, true, true, true, true, true, true, true, true, true, true, true, true, true, true, true, true, true, true, true, true, true, true, true, true, true, true] [26, 66, 64, 104] 250 (cl_holds_7 la lb lc ld le lf lg xa xb xc xd m n) w) :=
            forall_cons (e_long (ls := [la, lb, lc, ld]) ⟨_, _, rfl, rfl, ⟨_, _, rfl, rfl, ⟨_, _, rfl, rfl, ⟨_, _, rfl, rfl, rfl⟩⟩⟩⟩ rfl rfl h1) <|
            forall_cons (e_number' hG rfl hxa rfl (long_lens h1 la (by simp)) rfl rfl) <|
            forall_cons (e_number' hG rfl hxb rfl (long_lens h1 lb (by simp)) rfl rfl) <|
            forall_cons (e_between (pq rfl) (pq rfl) rfl rfl rfl rfl) <|
            forall_cons (e_number' hG rfl hxc rfl (long_lens h1 lc (by simp)) rfl rfl) <|
            forall_cons (e_number' hG rfl hxd rfl (long_lens h1 ld (by simp)) rfl rfl) <|
            forall_cons (e_between (pq rfl) (pq rfl) rfl rfl rfl rfl) <|
            forall_cons (e_at hG hm (ps rfl rfl) rfl rfl ((siz_l1 (hxa ▸ sz_read (long_lens h1 la (by simp))) (hxb ▸ sz_read (long_lens h1 lb (by simp)))).le (by decide)) ((siz_h1 (hxa ▸ sz_read (long_lens h1 la (by simp))) (hxb ▸ sz_read (long_lens h1 lb (by simp)))).le (by decide)) rfl) <|
            forall_cons (e_at hG hn (ps rfl rfl) rfl rfl ((siz_l1 (hxc ▸ sz_read (long_lens h1 lc (by simp))) (hxd ▸ sz_read (long_lens h1 ld (by simp)))).le (by decide)) ((siz_h1 (hxc ▸ sz_read (long_lens h1 lc (by simp))) (hxd ▸ sz_read (long_lens h1 ld (by simp)))).le (by decide)) rfl) <|
            forall_cons (e_has (ps rfl rfl) (pq rfl) rfl ((hasQ_iff _ _ _).2 hx)) <|
            forall_cons (e_has (ps rfl rfl) (pq rfl) rfl ((hasQ_iff _ _ _).2 hy)) <|
            forall_cons (e_spplus hG (ps rfl rfl) (ps rfl rfl) rfl rfl rfl rfl) <|
            forall_cons (e_plus hG (pq rfl) (pq rfl) rfl rfl) <|
            forall_cons (e_has (ps rfl rfl) (pq rfl) rfl ((hasQ_iff _ _ _).2 (plus_in hx hy))) <|
            forall_cons (e_spminus hG (ps rfl rfl) (ps rfl rfl) rfl rfl rfl rfl) <|
            forall_cons (e_minus hG (pq rfl) (pq rfl) rfl rfl) <|
            forall_cons (e_has (ps rfl rfl) (pq rfl) rfl ((hasQ_iff _ _ _).2 (minus_in hx hy))) <|
            forall_cons (e_sptimes hG (ps rfl rfl) (ps rfl rfl) rfl rfl rfl rfl) <|
            forall_cons (e_times hG (pq rfl) (pq rfl) rfl rfl) <|
            forall_cons (e_has (ps rfl rfl) (pq rfl) rfl ((hasQ_iff _ _ _).2 (times_in hx hy))) <|
            forall_cons (e_square hG (ps rfl rfl) rfl rfl rfl rfl) <|
            forall_cons (e_times hG (pq rfl) (pq rfl) rfl rfl) <|
            forall_cons (e_has (ps rfl rfl) (pq rfl) rfl ((hasQ_iff _ _ _).2 (square_in hx))) <|
            forall_cons (e_spabs hG (ps rfl rfl) rfl rfl rfl rfl) <|
            forall_cons (e_abs (pq rfl) rfl rfl) <|
            forall_cons (e_has (ps rfl rfl) (pq rfl) rfl ((hasQ_iff _ _ _).2 (abs_in hx))) <|
            forall_cons (e_hull (ps rfl rfl) (ps rfl rfl) rfl rfl rfl rfl) <|
            forall_cons (e_has (ps rfl rfl) (pq rfl) rfl ((hasQ_iff _ _ _).2 (hull_low hx))) <|
            forall_cons (e_has (ps rfl rfl) (pq rfl) rfl ((hasQ_iff _ _ _).2 (hull_high hy))) <|
            forall_cons (e_spover hG (ps rfl rfl) (ps rfl rfl) rfl rfl rfl rfl h2) <|
            forall_cons (e_over hG (pq rfl) (pq rfl) rfl rfl (of_decide_eq_false (not_zero h2 hy))) <|
            forall_cons (e_has (ps rfl rfl) (pq rfl) rfl (over_has hx hy h2)) <|
            forall_cons (e_ended_over hG (ps rfl rfl) (ps rfl rfl) (ps rfl rfl) rfl h2) <|
            forall_cons (e_ended_plus hG (ps rfl rfl) (ps rfl rfl) (ps rfl rfl) rfl) <|
            forall_cons (e_ended_minus hG (ps rfl rfl) (ps rfl rfl) (ps rfl rfl) rfl) <|
            forall_cons (e_ended_times hG (ps rfl rfl) (ps rfl rfl) (ps rfl rfl) rfl) <|
            forall_cons (e_meet hG (ps rfl rfl) (ps rfl rfl) rfl rfl rfl rfl rfl h3) <|
            forall_cons (e_has (ps rfl rfl) (pq rfl) rfl (meet_low_s h3)) <|
            forall_cons (e_has (ps rfl rfl) (pq rfl) rfl (meet_high_s h3)) <|
            forall_cons (e_has (ps rfl rfl) (pq rfl) rfl (meet_low_t h3)) <|
            forall_cons (e_has (ps rfl rfl) (pq rfl) rfl (meet_high_t h3)) <|
            forall_cons (e_has (ps rfl rfl) (pq rfl) rfl ((meet_has h3 hx).trans h4)) <|
            forall_cons (e_has (ps rfl rfl) (pq rfl) rfl h4) <|
            forall_cons (e_known hG) <|
            forall_nil
          refine Calls.mono (run_mk hC hT 11 Tryz.f11 [.agg [.cls 0 1, .cls 1 1, .cls 2 1, .cls 3 1, .cls 4 1, .cls 5 1, .cls 6 1, .cls 7 1, .cls 8 1]] (.val (vp (.bool true))) 200 Tryz.func11 rfl rfl rfl (by kernel_rfl) [.agg #[str la, str lb, str lc, str ld, str le, str lf, .int .u8 (m : Int), .int .u8 (n : Int), str lg]] ⟨_, _, rfl, ⟨_, ⟨[str la], _, rfl, ⟨fun _ => str la, rfl, rfl⟩, ⟨[str lb], _, rfl, ⟨fun _ => str lb, rfl, rfl⟩, ⟨[str lc], _, rfl, ⟨fun _ => str lc, rfl, rfl⟩, ⟨[str ld], _, rfl, ⟨fun _ => str ld, rfl, rfl⟩, ⟨[str le], _, rfl, ⟨fun _ => str le, rfl, rfl⟩, ⟨[str lf], _, rfl, ⟨fun _ => str lf, rfl, rfl⟩, ⟨[.int .u8 (m : Int)], _, rfl, ⟨fun _ => .int .u8 (m : Int), rfl, rfl⟩, ⟨[.int .u8 (n : Int)], _, rfl, ⟨fun _ => .int .u8 (n : Int), rfl, rfl⟩, ⟨[str lg], _, rfl, ⟨fun _ => str lg, rfl, rfl⟩, rfl⟩⟩⟩⟩⟩⟩⟩⟩⟩, rfl⟩, rfl⟩) ?_
          rintro e w' ⟨v, rfl, hv, hb⟩; obtain rfl := val_of hv; exact ⟨rfl, hb⟩

end Sym
end Go.Proofs.YtnolcmoecodeaaaGreatDoor

/- ExactHolds: the statement, out of the walk. -/
namespace Go.Proofs.YtnolcmoecodeaaaGreatDoor
open Go Go.RowKit Go.Proofs Lim
open Go.ChangeShapes Go.WideShapes Go.ChangeAt Go.ChangeMaps

namespace lawExactHolds

set_option maxRecDepth 100000 in
theorem contract (H : Type) (enc : TypeId × Value → H) (W : World) (base : Nat) (args : Array Value) (ds gs : List (DataW H)) (before : List MemPlace)
    (hval : ∀ (j : Nat) t v, Tryz.f11.params[j]? = some t → args[j]? = some v → Value.okWide Tryz.prog W .any base t v)
    (hW : DataW.Whole enc Tryz.prog Tryz.f11.params.toList Rows.exactHoldsSpec.vars false W args.toList ds gs before) (hG : Gr W) :
    Calls Tryz.prog 11 args W fun e W' => ∃ v, e = .returned v ∧ Rows.exactHoldsSpec.post enc Tryz.prog Tryz.f11 false true false false W args v W' := by
  have hW' := hW
  obtain ⟨p, q, hA0, hV, rfl, hfz, hnd⟩ := hW
  have hA : DataW.TrodAll enc Tryz.prog W 0 (fun _ => true) true Tryz.f11.params.toList args.toList ds p := hA0
  rw [Tryz.params11] at hA hval
  obtain ⟨v0, vs0, d0, ds0, p0, q0, hargs0, rfl, rfl, h0, r0⟩ := trodAll_cons hA
  obtain ⟨rfl, rfl, rfl⟩ := trodAll_nil r0
  obtain rfl : args = #[v0] := by cases args; simp_all
  obtain ⟨rfl, rfl⟩ := trodVars_none hV
  clear hA0
  have hlt0 : ∀ x ∈ p0, x.block < W.heap.size := fun x hx => by simpa using hW'.lt x (by simp [hx])
  obtain ⟨s0, s1, s2, s3, s4, s5, s8, m, n, rfl, hm, hn⟩ := open_pair (hval 0 104 v0 rfl rfl) h0
  have walk := Sym.holds_walk s0.data.toList s1.data.toList s2.data.toList s3.data.toList s4.data.toList s5.data.toList s8.data.toList m n hm hn W hG
  refine walk.mono fun e W' ⟨he, hb⟩ => ?_
  subst he
  refine ⟨_, rfl, _, _, _, [], p0 ++ [], [], hW', ?_, ?_, ?_, hb.frame _, fun h => by cases h⟩
  · exact trodAll_cons_mk (shut_bool Tryz.underlying4 _) trodAll_mk0
  · exact trodAll_cons_mk (Below.trod laidOut (by kernel_rfl) (of_decide_eq_true (by kernel_rfl)) h0 hb hlt0) trodAll_mk0
  · trivial

theorem reads (os : Os) {H : Type} (enc : TypeId × Value → H) : ∃ places, DataW.whole enc Tryz.prog ((World.doorLaid Tryz.prog 400 os).forCall (fun _ _ => 0) ⟨#[], #[.agg #[.string ⟨#[]⟩, .string ⟨#[]⟩, .string ⟨#[]⟩, .string ⟨#[]⟩, .string ⟨#[]⟩, .string ⟨#[]⟩, .int .u8 0, .int .u8 0, .string ⟨#[]⟩]], []⟩).memory Tryz.f11.params.toList Rows.exactHoldsSpec.vars false #[Value.agg #[.string ⟨#[]⟩, .string ⟨#[]⟩, .string ⟨#[]⟩, .string ⟨#[]⟩, .string ⟨#[]⟩, .string ⟨#[]⟩, .int .u8 0, .int .u8 0, .string ⟨#[]⟩]].toList 8 = some ([.agg [.agg [.lit (.string []), .lit (.string [])], .agg [.lit (.string []), .lit (.string [])], .agg [.lit (.string []), .lit (.string [])], .lit (.int .u8 0), .lit (.int .u8 0), .lit (.string [])]], [], places) :=
  ⟨[], by kernel_rfl⟩

set_option maxRecDepth 100000 in
theorem lifted (os : Os) (started : os.Started) (H : Type) (enc : TypeId × Value → H) (F : Stop.Interp) :
    ReturnsInHanded {} Tryz.checked os 11 .any ((OpenSpec.ofChange Rows.exactHoldsSpec).preRow enc Tryz.prog Tryz.f11 Rows.exactHoldsRow.domain false Rows.exactHoldsRow.laid) (((OpenSpec.ofChange Rows.exactHoldsSpec).at F).post enc Tryz.prog Tryz.f11 false true false false) := by
  obtain ⟨places, hx⟩ := reads os enc
  refine returnsInHanded_of_row (C := Tryz.checked) (s := OpenSpec.ofChange Rows.exactHoldsSpec) own started (by kernel_rfl) Tryz.func11
    (witness_row_atRef (enc := enc) (C := Tryz.checked) false (World.doorLaid Tryz.prog 400 os) #[Value.agg #[.string ⟨#[]⟩, .string ⟨#[]⟩, .string ⟨#[]⟩, .string ⟨#[]⟩, .string ⟨#[]⟩, .string ⟨#[]⟩, .int .u8 0, .int .u8 0, .string ⟨#[]⟩]] rfl (by kernel_rfl) (by kernel_rfl) (by kernel_rfl)
      (OpenSpec.preRow_of_cond 8 hx (by kernel_rfl) (fun k hk => by cases hk) (by kernel_rfl) (door_met os _))) ?_
  intro W base args ds gs before hval hW _ _ _ hL hS _
  exact contract H enc W base args ds gs before hval hW (gr_of_laid hL hS)

theorem said : Rows.ExactHoldsSaid :=
  OpenClaim.holds_of_cond 11 Tryz.f11 rfl rfl rfl rfl rfl rfl rfl ⟨rfl, rfl, rfl, rfl, rfl⟩ rfl rfl rfl rfl rfl (by kernel_rfl) Tryz.func11 (by kernel_rfl)
    (of_decide_eq_true (by kernel_rfl)) (by unfold Func.isWrapper; first | (rw [if_pos (by decide +kernel)]; kernel_rfl) | (rw [if_neg (by decide +kernel)]; exact ⟨rfl, rfl⟩))
    (fun os started H enc _ F => by rw [OpenClaim.pre_eq_preRow]; exact lifted os started H enc F)

theorem plain (f : FuncId) (fn : Func) (hf : Tryz.pinned.checked.prog.funcNamed "voussoir/voussoirlaw01.ExactHolds" = some f) (hfn : Tryz.pinned.checked.prog.funcs[f]? = some fn) :
    true = Tryz.pinned.checked.prog.looks [] ∧ ∀ (j : Nat) t, fn.params[j]? = some t → Tryz.pinned.checked.prog.wantsStandIn t = false := by
  obtain rfl : f = 11 := Option.some.inj ((show Tryz.prog.funcNamed "voussoir/voussoirlaw01.ExactHolds" = some 11 by kernel_rfl).symm.trans hf) |>.symm
  obtain rfl : fn = Tryz.f11 := (Option.some.inj (Tryz.func11.symm.trans hfn)).symm
  refine ⟨by kernel_rfl, fun j t ht => ?_⟩
  rw [Tryz.params11] at ht
  have hm : t ∈ [104] := by simpa using Array.mem_of_getElem? ht
  have hall : ([104].all fun u => !Tryz.prog.wantsStandIn u) = true := by kernel_rfl
  exact (show Tryz.prog.wantsStandIn t = false by simpa using List.all_eq_true.1 hall t hm)

/-- The statement. -/
theorem card : Rows.ExactHoldsCardSaid :=
  Claim7.holds_tied_plain_at .later [] _ _ _ _ said (fun _ h => by cases h) (by kernel_rfl) (fun _ h => by cases h) exactHolds_row_tie rfl ⟨rfl, rfl⟩ (by kernel_rfl) rfl plain (by kernel_rfl)
#print axioms card

end lawExactHolds
end Go.Proofs.YtnolcmoecodeaaaGreatDoor
