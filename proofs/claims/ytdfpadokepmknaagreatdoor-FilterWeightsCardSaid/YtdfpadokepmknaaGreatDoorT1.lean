/- Tides: their check. -/
import Derived.Test.YtdfpadokepmknaaGreatDoorH3
set_option linter.all false
/- Tides: rows of two integers, their checks. -/
namespace Go.Proofs.YtdfpadokepmknaaGreatDoor
open Go Go.Ab Go.Fl
attribute [local irreducible] SeqQ BlkQ LpQ RetQ Wc Wo WD WX Op1 Op1q Op1a Cf Cl From
attribute [local irreducible] Ieee.Format.order Ieee.Format.read Ieee.Format.nearest Ieee.Format.write Ieee.Format.mul Ieee.Format.div Ieee.Datum.order Ieee.Datum.integral smpE smp smpW K J U sumN lchk tchk trE hdrE appL undL undA undI wr ghoL rnd mulL dghL dghA rngE notN innL lowN lowD madeE pairE subL subF anyLarge subE remE difL
set_option maxRecDepth 10000
variable {G : Base} {h : H}

/-- The first error of a row. -/
def rowE (t : Int × Int) : Int := firstNZ [rngE t.1 0 100000, rngE t.2 (-64) 64]
theorem c155 (x : Int) : Cl (mz G) (.func (.func 155) #[] #[]) [.int .i64 x] h (.bool false) h := by
  refine cl_of_cf (cf_enter0 6 [.tmp 2] Tryz.func155 rfl rfl rfl rfl ?_)
  repeat' (first | with_reducible refine wo_nil ?_ | ((with_reducible refine wo_any ?_); first | ((with_reducible refine ik_move ?_); refine wo_op rfl (op_move rfl) rfl rfl ?_) | ((with_reducible refine ik_assign ?_); refine wo_op rfl (op_assign rfl) rfl rfl ?_) | ((with_reducible refine ik_bin ?_); refine wo_op rfl (op_neq rfl rfl) rfl rfl ?_)) | with_reducible refine sq_norm ?_ | with_reducible refine wc_seq ?_ | with_reducible refine wc_region ?_ | with_reducible refine wc_ret ?_)
  exact rq1 rfl ⟨by simp, rfl⟩
end Go.Proofs.YtdfpadokepmknaaGreatDoor

/- Tides: copies of rows, the check of their order. -/
namespace Go.Proofs.YtdfpadokepmknaaGreatDoor
open Go Go.Ab Go.Fl
attribute [local irreducible] SeqQ BlkQ LpQ RetQ Wc Wo WD WX Op1 Op1q Op1a Cf Cl From
attribute [local irreducible] Ieee.Format.order Ieee.Format.read Ieee.Format.nearest Ieee.Format.write Ieee.Format.mul Ieee.Format.div Ieee.Datum.order Ieee.Datum.integral smpE smp smpW K J U sumN lchk tchk trE hdrE appL undL undA undI wr ghoL rnd mulL dghL dghA rngE notN innL lowN lowD madeE pairE subL subF anyLarge subE remE difL rowE
set_option maxRecDepth 10000
variable {G : Base} {h : H}

/-- The first value that isn't 0. -/
def errN (f : Nat → Int) : Nat → Int
  | 0 => 0
  | k + 1 => if errN f k ≠ 0 then errN f k else f k
def tdG (ts : List (Int × Int)) (i : Nat) : Int × Int := ts.getD i (0, 0)
def errT (ts : List (Int × Int)) (i : Nat) : Int := if rowE (tdG ts i) ≠ 0 then rowE (tdG ts i) else if 0 < i ∧ (tdG ts i).1 ≤ (tdG ts (i - 1)).1 then 11 else 0
def tidE (ts : List (Int × Int)) : Int := if ts.length = 0 then 12 else if 16 < ts.length then 5 else errN (errT ts) ts.length
end Go.Proofs.YtdfpadokepmknaaGreatDoor

/- Tides: the check of their order by the program. -/
namespace Go.Proofs.YtdfpadokepmknaaGreatDoor
open Go Go.Ab Go.Fl
attribute [local irreducible] SeqQ BlkQ LpQ RetQ Wc Wo WD WX Op1 Op1q Op1a Cf Cl From
attribute [local irreducible] Ieee.Format.order Ieee.Format.read Ieee.Format.nearest Ieee.Format.write Ieee.Format.mul Ieee.Format.div Ieee.Datum.order Ieee.Datum.integral smpE smp smpW K J U sumN lchk tchk trE hdrE appL undL undA undI wr ghoL rnd mulL dghL dghA rngE notN innL lowN lowD madeE pairE subL subF anyLarge subE remE difL rowE tidE errT
set_option maxRecDepth 10000
variable {G : Base} {h : H}

end Go.Proofs.YtdfpadokepmknaaGreatDoor
