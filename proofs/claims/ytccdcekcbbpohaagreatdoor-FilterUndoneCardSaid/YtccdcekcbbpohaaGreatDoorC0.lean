/- The checks of samples, for each word. -/
import Derived.Test.YtccdcekcbbpohaaGreatDoorK2
import Derived.Test.YtccdcekcbbpohaaGreatDoorS1
import Derived.WalkKit
import Derived.ProofKit
import Derived.Laws.Cover2
import Derived.Laws.Cover3
import Derived.Laws.FloatArith
import Derived.Test.YtccdcekcbbpohaaGreatDoorProg
import Derived.Outline
import Derived.BigQuiet
import Derived.Test.YtccdcekcbbpohaaGreatDoorW4
set_option linter.all false
/- The samples: what the two checks return, of numbers and infinities. -/
namespace Go.Proofs.YtccdcekcbbpohaaGreatDoor
open Go Go.Ab Go.Fl Ieee
attribute [local irreducible] SeqQ BlkQ LpQ RetQ Wc Wo WD WX Op1 Op1q Op1a Cf Cl From
noncomputable def mz0 (G : Base) : Mc := ⟨Tryz.prog, G, ext0⟩
set_option maxRecDepth 10000
variable {G : Base} {h : H}

theorem c167 {w : Nat} {v : Int} (hw : Num double w v) : Cl (mz0 G) (.func (.func 167) #[] #[]) [.float .f64 w] h (.bool false) h := by
  refine cl_of_cf (cf_enter0 6 [.tmp 2] Tryz.func167 rfl rfl rfl rfl ?_)
  repeat' (first | with_reducible refine wo_nil ?_ | ((with_reducible refine wo_any ?_); first | ((with_reducible refine ik_move ?_); refine wo_op rfl (op_move rfl) rfl rfl ?_) | ((with_reducible refine ik_assign ?_); refine wo_op rfl (op_assign rfl) rfl rfl ?_) | ((with_reducible refine ik_bin ?_); refine wo_op rfl (op_fneq rfl rfl (hw.feq hw)) rfl rfl ?_)) | with_reducible refine sq_norm ?_ | with_reducible refine wc_seq ?_ | with_reducible refine wc_region ?_ | with_reducible refine wc_ret ?_)
  refine rq1 rfl ⟨?_, rfl⟩
  simp
theorem c167i (s : Bool) : Cl (mz0 G) (.func (.func 167) #[] #[]) [.float .f64 (double.word s double.infRung)] h (.bool false) h := by
  have ho : (double.order (double.word s double.infRung) (double.word s double.infRung) == some .eq) = true := by cases s <;> decide +kernel
  refine cl_of_cf (cf_enter0 6 [.tmp 2] Tryz.func167 rfl rfl rfl rfl ?_)
  repeat' (first | with_reducible refine wo_nil ?_ | ((with_reducible refine wo_any ?_); first | ((with_reducible refine ik_move ?_); refine wo_op rfl (op_move rfl) rfl rfl ?_) | ((with_reducible refine ik_assign ?_); refine wo_op rfl (op_assign rfl) rfl rfl ?_) | ((with_reducible refine ik_bin ?_); refine wo_op rfl (op_fneq rfl rfl ho) rfl rfl ?_)) | with_reducible refine sq_norm ?_ | with_reducible refine wc_seq ?_ | with_reducible refine wc_region ?_ | with_reducible refine wc_ret ?_)
  refine rq1 rfl ⟨?_, rfl⟩
  simp

theorem bits_ext {w : Nat} (hw : w < 2 ^ 64) : (pureExt Extern.MathFloatBits.float64bits) [.float .f64 w] h = some (.int .u64 w, h) := by
  unfold pureExt
  have : prun Tryz.prog (Extern.MathFloatBits.float64bits ⟨[.float .f64 w]⟩) = some (.int .u64 w) := rfl
  rw [this]; rfl
theorem frombits_ext (n : Nat) : (pureExt Extern.MathFloatBits.float64frombits) [.int .u64 n] h = some (.float .f64 n, h) := by
  unfold pureExt
  have : prun Tryz.prog (Extern.MathFloatBits.float64frombits ⟨[.int .u64 n]⟩) = some (.float .f64 n) := rfl
  rw [this]; rfl
theorem word_lt (f : Format) (s : Bool) {r : Nat} (hr : r ≤ f.infRung) : f.word s r < 2 * f.signWeight := by
  have := infRung_lt f
  unfold Format.word
  cases s <;> simp only [if_true, Bool.false_eq_true, if_false] <;> omega
theorem nearest_lt (s : Bool) (m : Nat) (e : Int) : double.nearest s m e < 2 ^ 64 := by
  have h2 : 2 * double.signWeight = 2 ^ 64 := rfl
  rw [← h2]
  unfold Format.nearest
  split
  · exact word_lt double s (Nat.zero_le _)
  · exact word_lt double s (Nat.min_le_right _ _)

theorem strike_sign {w : Nat} (hw : w < 2 ^ 64) : IntKind.wrap .u64 ((BitVec.ofInt 64 (w : Int) &&& ~~~BitVec.ofInt 64 9223372036854775808).toNat : Int) = ((w % 2 ^ 63 : Nat) : Int) := by
  have h1 : (~~~BitVec.ofInt 64 9223372036854775808).toNat = 2 ^ 63 - 1 := by decide
  have h2 : (BitVec.ofInt 64 (w : Int)).toNat = w := by
    rw [BitVec.toNat_ofInt]; omega
  rw [BitVec.toNat_and, h1, h2, Nat.and_two_pow_sub_one_eq_mod]
  rw [wu64 (by omega) (by omega)]
theorem op_andNot {M : Mc} {l : KL} {x : Operand} {t ty : TypeId} {w : Nat} (hx : val l x = some (.int .u64 w)) (hw : w < 2 ^ 64) : Op1 M (.binOp .andNot t x (.const (.int .u64 9223372036854775808)) ty) l h (.int .u64 ((w % 2 ^ 63 : Nat) : Int)) h := by
  rw [← strike_sign hw]
  exact op_bin hx rfl rfl rfl rfl rfl

theorem c159 {w : Nat} (hw : w < 2 ^ 64) : Cl (mz0 G) (.func (.func 159) #[] #[]) [.float .f64 w] h (.float .f64 (w % 2 ^ 63)) h := by
  refine cl_of_cf (cf_enter0 7 [.tmp 2] Tryz.func159 rfl rfl rfl rfl ?_)
  repeat' (first | with_reducible refine wo_nil ?_ | ((with_reducible refine wo_any ?_); first | ((with_reducible refine ik_move ?_); refine wo_op rfl (op_move rfl) rfl rfl ?_) | ((with_reducible refine ik_assign ?_); refine wo_op rfl (op_assign rfl) rfl rfl ?_) | ((with_reducible refine ik_bin ?_); refine wo_op rfl (op_andNot rfl hw) rfl rfl ?_) | ((with_reducible refine ik_callv ?_); first | refine wo_op rfl (op_call rfl rfl (cl_ext (x := pureExt Extern.MathFloatBits.float64bits) rfl (bits_ext hw))) rfl rfl ?_ | refine wo_op rfl (op_call rfl rfl (cl_ext (x := pureExt Extern.MathFloatBits.float64frombits) rfl (frombits_ext _))) rfl rfl ?_)) | with_reducible refine sq_norm ?_ | with_reducible refine wc_seq ?_ | with_reducible refine wc_region ?_ | with_reducible refine wc_ret ?_)
  exact rq1 rfl ⟨rfl, rfl⟩

/-- MaxFloat64. -/
def J : Nat := 971
theorem hJ : J = 971 := rfl
def big : Nat := (2 ^ 53 - 1) * 2 ^ J
theorem max_num : Num double 9218868437227405311 ((big * 2 ^ K : Nat) : Int) := by
  have h1 : double.read 9218868437227405311 = .number false (2 ^ 53 - 1) 971 := by decide +kernel
  have := Num.of_read h1 (by omega)
  rw [show (971 + 1074 : Int).toNat = J + K from rfl] at this
  have e : signed false (2 ^ 53 - 1) (J + K) = ((big * 2 ^ K : Nat) : Int) := by
    unfold signed big
    rw [if_neg (by decide), Nat.shiftLeft_eq, Nat.pow_add, ← Nat.mul_assoc]
  rwa [e] at this

theorem c168 {w : Nat} {v : Int} (hw : Num double w v) (hlt : w < 2 ^ 64) (hv : (v.natAbs : Int) ≤ ((big * 2 ^ K : Nat) : Int)) : Cl (mz0 G) (.func (.func 168) #[] #[]) [.float .f64 w, .int .i64 0] h (.bool false) h := by
  have hg := (abs_num hw).fgt max_num
  rw [decide_eq_false (by omega)] at hg
  refine cl_of_cf (cf_enter0 15 [.tmp 4] Tryz.func168 rfl rfl rfl rfl ?_)
  repeat' (first | with_reducible refine wo_nil ?_ | ((with_reducible refine wo_any ?_); first | ((with_reducible refine ik_move ?_); refine wo_op rfl (op_move rfl) rfl rfl ?_) | ((with_reducible refine ik_assign ?_); refine wo_op rfl (op_assign rfl) rfl rfl ?_) | ((with_reducible refine ik_bin ?_); first | refine wo_op rfl (op_fgtr rfl rfl hg) rfl rfl ?_ | refine wo_op rfl (op_eql rfl rfl) rfl rfl ?_) | ((with_reducible refine ik_callF (f := 159) ?_); refine wo_op rfl (op_call rfl rfl (c159 hlt)) rfl rfl ?_)) | with_reducible refine sq_norm ?_ | with_reducible refine wc_seq ?_ | with_reducible refine wc_region ?_ | with_reducible refine wc_ret ?_ | refine wc_ift rfl ?_)
  exact rq1 rfl ⟨rfl, rfl⟩
theorem c168i (s : Bool) : Cl (mz0 G) (.func (.func 168) #[] #[]) [.float .f64 (double.word s double.infRung), .int .i64 0] h (.bool true) h := by
  have hg : (double.order (double.word s double.infRung % 2 ^ 63) 9218868437227405311 == some .gt) = true := by cases s <;> decide +kernel
  refine cl_of_cf (cf_enter0 15 [.tmp 4] Tryz.func168 rfl rfl rfl rfl ?_)
  repeat' (first | with_reducible refine wo_nil ?_ | ((with_reducible refine wo_any ?_); first | ((with_reducible refine ik_move ?_); refine wo_op rfl (op_move rfl) rfl rfl ?_) | ((with_reducible refine ik_assign ?_); refine wo_op rfl (op_assign rfl) rfl rfl ?_) | ((with_reducible refine ik_bin ?_); first | refine wo_op rfl (op_fgtr rfl rfl hg) rfl rfl ?_ | refine wo_op rfl (op_eql rfl rfl) rfl rfl ?_) | ((with_reducible refine ik_callF (f := 159) ?_); refine wo_op rfl (op_call rfl rfl (c159 (by cases s <;> decide +kernel))) rfl rfl ?_)) | with_reducible refine sq_norm ?_ | with_reducible refine wc_seq ?_ | with_reducible refine wc_region ?_ | with_reducible refine wc_ret ?_ | refine wc_ift rfl ?_)
  exact rq1 rfl ⟨rfl, rfl⟩

section
attribute [local irreducible] FloatKind.decode
theorem to_integral {w : Nat} {s : Bool} {m : Nat} {e : Int} {name : String} {way : Toward} (hw : FloatKind.f64.decode w = .number s m e) : prun Tryz.prog (Extern.MathFloor.toIntegral name way ⟨[.float .f64 w]⟩) = some (.float .f64 (double.write ((double.read w).integral way))) := by
  have hr : double.read w = .number s m e := by rw [← hw]; unfold FloatKind.decode; rfl
  conv => lhs; arg 2; whnf
  rw [hw, hr]; rfl
end
theorem trunc_ext {w : Nat} {s : Bool} {m : Nat} {e : Int} (hw : double.read w = .number s m e) : (pureExt (Extern.MathFloor.toIntegral "math.archTrunc" .zero)) [.float .f64 w] h = some (.float .f64 (double.write ((double.read w).integral .zero)), h) := by
  unfold pureExt
  have : prun Tryz.prog (Extern.MathFloor.toIntegral "math.archTrunc" .zero ⟨[.float .f64 w]⟩) = some (.float .f64 (double.write ((double.read w).integral .zero))) := by
    have hw' : FloatKind.f64.decode w = .number s m e := hw
    exact to_integral (name := "math.archTrunc") (way := .zero) hw'
  rw [this]; rfl
theorem floor_ext {w : Nat} {s : Bool} {m : Nat} {e : Int} (hw : double.read w = .number s m e) : (pureExt (Extern.MathFloor.toIntegral "math.archFloor" .down)) [.float .f64 w] h = some (.float .f64 (double.write ((double.read w).integral .down)), h) := by
  unfold pureExt
  have : prun Tryz.prog (Extern.MathFloor.toIntegral "math.archFloor" .down ⟨[.float .f64 w]⟩) = some (.float .f64 (double.write ((double.read w).integral .down))) := by
    have hw' : FloatKind.f64.decode w = .number s m e := hw
    exact to_integral (name := "math.archFloor") (way := .down) hw'
  rw [this]; rfl
theorem c158 {w : Nat} {v : Int} (hw : Num double w v) : Cl (mz0 G) (.func (.func 158) #[] #[]) [.float .f64 w] h (.float .f64 (double.write ((double.read w).integral .zero))) h := by
  obtain ⟨s, m, e, h1, _, _⟩ := hw.is
  refine cl_of_cf (cf_enter0 7 [.tmp 2] Tryz.func158 rfl rfl rfl rfl ?_)
  repeat' (first | with_reducible refine wo_nil ?_ | ((with_reducible refine wo_any ?_); first | ((with_reducible refine ik_move ?_); refine wo_op rfl (op_move rfl) rfl rfl ?_) | ((with_reducible refine ik_assign ?_); refine wo_op rfl (op_assign rfl) rfl rfl ?_) | ((with_reducible refine ik_callv ?_); refine wo_op rfl (op_call rfl rfl (cl_ext (x := pureExt (Extern.MathFloor.toIntegral "math.archTrunc" .zero)) rfl (trunc_ext h1))) rfl rfl ?_)) | with_reducible refine sq_norm ?_ | with_reducible refine wc_seq ?_ | with_reducible refine wc_region ?_ | with_reducible refine wc_ret ?_ | with_reducible refine sq_ret ?_ | refine wc_ift rfl ?_)
  exact rq1 rfl ⟨rfl, rfl⟩
theorem c169 {w : Nat} {v : Int} (hw : Num double w v) : Cl (mz0 G) (.func (.func 169) #[] #[]) [.float .f64 w] h (.float .f64 (double.write ((double.read w).integral .down))) h := by
  obtain ⟨s, m, e, h1, _, _⟩ := hw.is
  refine cl_of_cf (cf_enter0 7 [.tmp 2] Tryz.func169 rfl rfl rfl rfl ?_)
  repeat' (first | with_reducible refine wo_nil ?_ | ((with_reducible refine wo_any ?_); first | ((with_reducible refine ik_move ?_); refine wo_op rfl (op_move rfl) rfl rfl ?_) | ((with_reducible refine ik_assign ?_); refine wo_op rfl (op_assign rfl) rfl rfl ?_) | ((with_reducible refine ik_callv ?_); refine wo_op rfl (op_call rfl rfl (cl_ext (x := pureExt (Extern.MathFloor.toIntegral "math.archFloor" .down)) rfl (floor_ext h1))) rfl rfl ?_)) | with_reducible refine sq_norm ?_ | with_reducible refine wc_seq ?_ | with_reducible refine wc_region ?_ | with_reducible refine wc_ret ?_ | with_reducible refine sq_ret ?_ | refine wc_ift rfl ?_)
  exact rq1 rfl ⟨rfl, rfl⟩

/-- The conversion of a single to a double. -/
theorem conv_num {P : Program} {b : Nat} {s : Bool} {m : Nat} {e : Int} (hb : single.read b = .number s m e) : prun P (Conv.floatToFloat .f32 b .f64) = some (.float .f64 (double.nearest s m e)) := by
  obtain ⟨b1, b2, b3⟩ := read_single hb
  obtain ⟨t, n, j, h1, _, _⟩ := (finite_conv (s := s) b1 b2 b3).is
  have h1' : FloatKind.f64.decode (FloatKind.f64.encode (.number s m e)) = .number t n j := h1
  have hb' : FloatKind.f32.decode b = .number s m e := hb
  unfold Conv.floatToFloat
  rw [if_neg (by decide), hb']
  simp only [h1', Datum.isInfinity]
  rfl
theorem conv_inf {P : Program} {b : Nat} {s : Bool} (hb : single.read b = .infinity s) : prun P (Conv.floatToFloat .f32 b .f64) = some (.float .f64 (double.word s double.infRung)) := by
  have hb' : FloatKind.f32.decode b = .infinity s := hb
  unfold Conv.floatToFloat
  rw [if_neg (by decide), hb']
  rfl

theorem small_v {s : Bool} {m : Nat} {e : Int} (hm : m < 2 ^ 24) (h2 : e ≤ 104) (h1 : -149 ≤ e) : ((signed s m (e + 1074).toNat).natAbs : Int) ≤ ((big * 2 ^ K : Nat) : Int) := by
  have e1 : (signed s m (e + 1074).toNat).natAbs = m * 2 ^ (e + 1074).toNat := by
    unfold signed
    rw [Nat.shiftLeft_eq]
    cases s with
    | true => simp only [if_true, Int.natAbs_neg, Int.natAbs_natCast]
    | false => simp only [Bool.false_eq_true, if_false, Int.natAbs_natCast]
  rw [e1]
  refine Int.ofNat_le.2 ?_
  have a1 : 2 ^ (e + 1074).toNat ≤ 2 ^ J * 2 ^ K := by
    rw [← Nat.pow_add]
    exact Nat.pow_le_pow_right (by omega) (by have := hK; have := hJ; omega)
  unfold big
  rw [Nat.mul_assoc]
  exact Nat.mul_le_mul (by omega) a1

attribute [local irreducible] Ieee.Format.order Ieee.Format.read Ieee.Format.nearest Ieee.Format.write Ieee.Format.mul Ieee.Format.div Ieee.Datum.order Ieee.Datum.integral smpE smp K J U
theorem c157 {b : Nat} {s : Bool} {m : Nat} {e : Int} (hb : single.read b = .number s m e) : Cl (mz0 G) (.func (.func 157) #[] #[]) [.float .f32 b] h (.bool true) h := by
  obtain ⟨b1, b2, b3⟩ := read_single hb
  have hn := finite_conv (s := s) b1 b2 b3
  refine cl_of_cf (cf_enter0 13 [.tmp 2] Tryz.func157 rfl rfl rfl rfl ?_)
  repeat' (first | with_reducible refine wo_nil ?_ | ((with_reducible refine wo_any ?_); first | ((with_reducible refine ik_move ?_); refine wo_op rfl (op_move rfl) rfl rfl ?_) | ((with_reducible refine ik_assign ?_); refine wo_op rfl (op_assign rfl) rfl rfl ?_) | ((with_reducible refine ik_convert ?_); refine wo_op rfl (op_cvff rfl Tryz.underlying36 Tryz.underlying52 (conv_num hb)) rfl rfl ?_) | ((with_reducible refine ik_un ?_); refine wo_op rfl (op_not rfl) rfl rfl ?_) | ((with_reducible refine ik_pick ?_); refine wo_op rfl (op_pickt rfl rfl) rfl rfl ?_) | ((with_reducible refine ik_callF (f := 167) ?_); refine wo_op rfl (op_call rfl rfl (c167 hn)) rfl rfl ?_) | ((with_reducible refine ik_g ?_); first | ((with_reducible refine ig_move ?_); refine wo_grun rfl rfl rfl (op_move rfl) rfl rfl ?_) | ((with_reducible refine ig_convert ?_); refine wo_grun rfl rfl rfl (op_cvff rfl Tryz.underlying36 Tryz.underlying52 (conv_num hb)) rfl rfl ?_) | ((with_reducible refine ig_un ?_); refine wo_grun rfl rfl rfl (op_not rfl) rfl rfl ?_) | ((with_reducible refine ig_callF (f := 168) ?_); refine wo_grun rfl rfl rfl (op_call rfl rfl (c168 hn (nearest_lt _ _ _) (small_v b1 b3 b2))) rfl rfl ?_))) | with_reducible refine sq_norm ?_ | with_reducible refine wc_seq ?_ | with_reducible refine wc_region ?_ | with_reducible refine wc_ret ?_)
  exact rq1 rfl ⟨rfl, rfl⟩
theorem c157i {b : Nat} {s : Bool} (hb : single.read b = .infinity s) : Cl (mz0 G) (.func (.func 157) #[] #[]) [.float .f32 b] h (.bool false) h := by
  refine cl_of_cf (cf_enter0 13 [.tmp 2] Tryz.func157 rfl rfl rfl rfl ?_)
  repeat' (first | with_reducible refine wo_nil ?_ | ((with_reducible refine wo_any ?_); first | ((with_reducible refine ik_move ?_); refine wo_op rfl (op_move rfl) rfl rfl ?_) | ((with_reducible refine ik_assign ?_); refine wo_op rfl (op_assign rfl) rfl rfl ?_) | ((with_reducible refine ik_convert ?_); refine wo_op rfl (op_cvff rfl Tryz.underlying36 Tryz.underlying52 (conv_inf hb)) rfl rfl ?_) | ((with_reducible refine ik_un ?_); refine wo_op rfl (op_not rfl) rfl rfl ?_) | ((with_reducible refine ik_pick ?_); refine wo_op rfl (op_pickt rfl rfl) rfl rfl ?_) | ((with_reducible refine ik_callF (f := 167) ?_); refine wo_op rfl (op_call rfl rfl (c167i s)) rfl rfl ?_) | ((with_reducible refine ik_g ?_); first | ((with_reducible refine ig_move ?_); refine wo_grun rfl rfl rfl (op_move rfl) rfl rfl ?_) | ((with_reducible refine ig_convert ?_); refine wo_grun rfl rfl rfl (op_cvff rfl Tryz.underlying36 Tryz.underlying52 (conv_inf hb)) rfl rfl ?_) | ((with_reducible refine ig_un ?_); refine wo_grun rfl rfl rfl (op_not rfl) rfl rfl ?_) | ((with_reducible refine ig_callF (f := 168) ?_); refine wo_grun rfl rfl rfl (op_call rfl rfl (c168i s)) rfl rfl ?_))) | with_reducible refine sq_norm ?_ | with_reducible refine wc_seq ?_ | with_reducible refine wc_region ?_ | with_reducible refine wc_ret ?_)
  exact rq1 rfl ⟨rfl, rfl⟩

theorem grained_iff (v : Int) : (16 * v = (16 * v).tdiv U * U) ↔ 16 * v % U = 0 := by
  generalize 16 * v = n
  have hu := U_pos
  generalize U = u at hu
  constructor
  · intro q
    rw [q, Int.mul_emod_left]
  · intro q
    have hd : u ∣ n := Int.dvd_of_emod_eq_zero q
    obtain ⟨c, rfl⟩ := hd
    rw [Int.mul_tdiv_cancel_left _ (by omega), Int.mul_comm]
theorem floored_iff (v : Int) : (16 * v = 16 * v / U * U) ↔ 16 * v % U = 0 := by
  generalize 16 * v = n
  have hu := U_pos
  generalize U = u at hu
  have hd := Int.mul_ediv_add_emod n u
  rw [Int.mul_comm] at hd
  constructor <;> intro q <;> omega

theorem most_num : Num double 4670232813583204352 (16384 * U) := by
  have h1 : double.read 4670232813583204352 = .number false (2 ^ 52) (-38) := by decide +kernel
  have := Num.of_read h1 (by omega)
  rw [signed_eq, show (-38 + 1074 : Int).toNat = K - 38 by have := hK; omega] at this
  have e : signed false (2 ^ 52) 0 * 2 ^ (K - 38) = 16384 * U := by
    rw [show U = 2 ^ K by unfold U; rfl, show (2 : Int) ^ K = 2 ^ 38 * 2 ^ (K - 38) by rw [← Int.pow_add]; congr 1; have := hK; omega, ← Int.mul_assoc]; rfl
  rwa [e] at this

theorem near_k16 : FloatKind.nearest .f64 16384 = 4670232813583204352 := by decide +kernel
theorem c142 {b : Nat} {s : Bool} {m : Nat} {e : Int} (hb : single.read b = .number s m e) : Cl (mz0 G) (.func (.func 142) #[] #[]) [.float .f32 b, .int .i64 16384] h (.int .i64 (smpE b)) h := by
  obtain ⟨b1, b2, b3⟩ := read_single hb
  have hn : Num double (double.nearest s m (e + 4)) (16 * signed s m (e + 1074).toNat) := by
    rw [← mul16_signed s m (by omega)]
    exact double_exact s (Nat.lt_of_lt_of_le b1 (by decide)) (by omega) (by omega)
  have ht := trunc_num hn
  have ha := abs_num hn
  have he := hn.feq ht
  have hl := ha.fgt most_num
  have hs : smpE b = if 16 * signed s m (e + 1074).toNat % U = 0 ∧ -(16384 * U) ≤ 16 * signed s m (e + 1074).toNat ∧ 16 * signed s m (e + 1074).toNat ≤ 16384 * U then 0 else 3 := by
    unfold smpE; rw [hb]
  have hg := grained_iff (signed s m (e + 1074).toNat)
  generalize signed s m (e + 1074).toNat = v at hn ht ha he hl hs hg
  by_cases hd : 16 * v % U = 0
  · rw [decide_eq_true (hg.2 hd)] at he
    by_cases hx : 16384 * U < ((16 * v).natAbs : Int)
    · rw [decide_eq_true hx] at hl
      refine cl_of_cf (cf_enter0 23 [.tmp 4] Tryz.func142 rfl rfl rfl rfl ?_)
      repeat' (first | with_reducible refine wo_nil ?_ | ((with_reducible refine wo_any ?_); first | ((with_reducible refine ik_move ?_); refine wo_op rfl (op_move rfl) rfl rfl ?_) | ((with_reducible refine ik_assign ?_); refine wo_op rfl (op_assign rfl) rfl rfl ?_) | ((with_reducible refine ik_convert ?_); refine wo_op rfl (op_cvff rfl Tryz.underlying36 Tryz.underlying52 (conv_num hb)) rfl rfl ?_) | ((with_reducible refine ik_bin ?_); first | refine wo_op rfl (op_fmul rfl rfl (double_mul16 s b1 b2 b3)) rfl rfl ?_ | refine wo_op rfl (op_fneq rfl rfl he) rfl rfl ?_) | ((with_reducible refine ik_un ?_); refine wo_op rfl (op_not rfl) rfl rfl ?_) | ((with_reducible refine ik_pick ?_); refine wo_op rfl (op_pickf rfl rfl) rfl rfl ?_) | ((with_reducible refine ik_callF (f := 157) ?_); refine wo_op rfl (op_call rfl rfl (c157 hb)) rfl rfl ?_) | ((with_reducible refine ik_callF (f := 158) ?_); refine wo_op rfl (op_call rfl rfl (c158 hn)) rfl rfl ?_) | ((with_reducible refine ik_g ?_); first | ((with_reducible refine ig_move ?_); refine wo_grun rfl rfl rfl (op_move rfl) rfl rfl ?_) | ((with_reducible refine ig_convert ?_); refine wo_grun rfl rfl rfl (op_cvif rfl Tryz.underlying3 Tryz.underlying52 near_k16) rfl rfl ?_) | ((with_reducible refine ig_bin ?_); refine wo_grun rfl rfl rfl (op_fgtr rfl rfl hl) rfl rfl ?_) | ((with_reducible refine ig_callF (f := 159) ?_); refine wo_grun rfl rfl rfl (op_call rfl rfl (c159 (nearest_lt _ _ _))) rfl rfl ?_))) | with_reducible refine sq_norm ?_ | with_reducible refine wc_seq ?_ | with_reducible refine wc_region ?_ | with_reducible refine wc_skip ?_ | with_reducible refine wc_ret ?_ | with_reducible refine sq_ret ?_ | refine wc_ift rfl ?_ | refine wc_iff rfl ?_)
      refine rq1 rfl ⟨?_, rfl⟩
      rw [hs, if_neg (fun q => by have hu := U_pos; generalize U = u at *; omega)]
    · rw [decide_eq_false hx] at hl
      refine cl_of_cf (cf_enter0 23 [.tmp 4] Tryz.func142 rfl rfl rfl rfl ?_)
      repeat' (first | with_reducible refine wo_nil ?_ | ((with_reducible refine wo_any ?_); first | ((with_reducible refine ik_move ?_); refine wo_op rfl (op_move rfl) rfl rfl ?_) | ((with_reducible refine ik_assign ?_); refine wo_op rfl (op_assign rfl) rfl rfl ?_) | ((with_reducible refine ik_convert ?_); refine wo_op rfl (op_cvff rfl Tryz.underlying36 Tryz.underlying52 (conv_num hb)) rfl rfl ?_) | ((with_reducible refine ik_bin ?_); first | refine wo_op rfl (op_fmul rfl rfl (double_mul16 s b1 b2 b3)) rfl rfl ?_ | refine wo_op rfl (op_fneq rfl rfl he) rfl rfl ?_) | ((with_reducible refine ik_un ?_); refine wo_op rfl (op_not rfl) rfl rfl ?_) | ((with_reducible refine ik_pick ?_); refine wo_op rfl (op_pickf rfl rfl) rfl rfl ?_) | ((with_reducible refine ik_callF (f := 157) ?_); refine wo_op rfl (op_call rfl rfl (c157 hb)) rfl rfl ?_) | ((with_reducible refine ik_callF (f := 158) ?_); refine wo_op rfl (op_call rfl rfl (c158 hn)) rfl rfl ?_) | ((with_reducible refine ik_g ?_); first | ((with_reducible refine ig_move ?_); refine wo_grun rfl rfl rfl (op_move rfl) rfl rfl ?_) | ((with_reducible refine ig_convert ?_); refine wo_grun rfl rfl rfl (op_cvif rfl Tryz.underlying3 Tryz.underlying52 near_k16) rfl rfl ?_) | ((with_reducible refine ig_bin ?_); refine wo_grun rfl rfl rfl (op_fgtr rfl rfl hl) rfl rfl ?_) | ((with_reducible refine ig_callF (f := 159) ?_); refine wo_grun rfl rfl rfl (op_call rfl rfl (c159 (nearest_lt _ _ _))) rfl rfl ?_))) | with_reducible refine sq_norm ?_ | with_reducible refine wc_seq ?_ | with_reducible refine wc_region ?_ | with_reducible refine wc_skip ?_ | with_reducible refine wc_ret ?_ | refine wc_iff rfl ?_)
      refine rq1 rfl ⟨?_, rfl⟩
      rw [hs, if_pos (by have hu := U_pos; generalize U = u at *; exact ⟨hd, by omega, by omega⟩)]
  · rw [decide_eq_false (fun q => hd (hg.1 q))] at he
    refine cl_of_cf (cf_enter0 23 [.tmp 4] Tryz.func142 rfl rfl rfl rfl ?_)
    repeat' (first | with_reducible refine wo_nil ?_ | ((with_reducible refine wo_any ?_); first | ((with_reducible refine ik_move ?_); refine wo_op rfl (op_move rfl) rfl rfl ?_) | ((with_reducible refine ik_assign ?_); refine wo_op rfl (op_assign rfl) rfl rfl ?_) | ((with_reducible refine ik_convert ?_); refine wo_op rfl (op_cvff rfl Tryz.underlying36 Tryz.underlying52 (conv_num hb)) rfl rfl ?_) | ((with_reducible refine ik_bin ?_); first | refine wo_op rfl (op_fmul rfl rfl (double_mul16 s b1 b2 b3)) rfl rfl ?_ | refine wo_op rfl (op_fneq rfl rfl he) rfl rfl ?_) | ((with_reducible refine ik_un ?_); refine wo_op rfl (op_not rfl) rfl rfl ?_) | ((with_reducible refine ik_pick ?_); refine wo_op rfl (op_pickt rfl rfl) rfl rfl ?_) | ((with_reducible refine ik_callF (f := 157) ?_); refine wo_op rfl (op_call rfl rfl (c157 hb)) rfl rfl ?_) | ((with_reducible refine ik_callF (f := 158) ?_); refine wo_op rfl (op_call rfl rfl (c158 hn)) rfl rfl ?_) | ((with_reducible refine ik_g ?_); refine wo_gskip rfl rfl rfl rfl rfl rfl ?_)) | with_reducible refine sq_norm ?_ | with_reducible refine wc_seq ?_ | with_reducible refine wc_region ?_ | with_reducible refine wc_skip ?_ | with_reducible refine wc_ret ?_ | with_reducible refine sq_ret ?_ | refine wc_ift rfl ?_ | refine wc_iff rfl ?_)
    refine rq1 rfl ⟨?_, rfl⟩
    rw [hs, if_neg (fun q => hd q.1)]
theorem c142i {b : Nat} {s : Bool} (hb : single.read b = .infinity s) : Cl (mz0 G) (.func (.func 142) #[] #[]) [.float .f32 b, .int .i64 16384] h (.int .i64 (smpE b)) h := by
  refine cl_of_cf (cf_enter0 23 [.tmp 4] Tryz.func142 rfl rfl rfl rfl ?_)
  repeat' (first | with_reducible refine wo_nil ?_ | ((with_reducible refine wo_any ?_); first | ((with_reducible refine ik_move ?_); refine wo_op rfl (op_move rfl) rfl rfl ?_) | ((with_reducible refine ik_assign ?_); refine wo_op rfl (op_assign rfl) rfl rfl ?_) | ((with_reducible refine ik_un ?_); refine wo_op rfl (op_not rfl) rfl rfl ?_) | ((with_reducible refine ik_callF (f := 157) ?_); refine wo_op rfl (op_call rfl rfl (c157i hb)) rfl rfl ?_)) | with_reducible refine sq_norm ?_ | with_reducible refine wc_seq ?_ | with_reducible refine wc_region ?_ | with_reducible refine wc_ret ?_ | with_reducible refine sq_ret ?_ | refine wc_ift rfl ?_)
  refine rq1 rfl ⟨?_, rfl⟩
  unfold smpE; rw [hb]
theorem c107n {b : Nat} {s : Bool} {m : Nat} {e : Int} (hb : single.read b = .number s m e) : Cl (mz0 G) (.func (.func 107) #[] #[]) [.float .f32 b] h (.int .i64 (smpE b)) h := by
  refine cl_of_cf (cf_enter0 5 [.tmp 2] Tryz.func107 rfl rfl rfl rfl ?_)
  repeat' (first | with_reducible refine wo_nil ?_ | ((with_reducible refine wo_any ?_); first | ((with_reducible refine ik_move ?_); refine wo_op rfl (op_move rfl) rfl rfl ?_) | ((with_reducible refine ik_assign ?_); refine wo_op rfl (op_assign rfl) rfl rfl ?_) | ((with_reducible refine ik_callF (f := 142) ?_); refine wo_op rfl (op_call rfl rfl (c142 hb)) rfl rfl ?_)) | with_reducible refine sq_norm ?_ | with_reducible refine wc_seq ?_ | with_reducible refine wc_region ?_ | with_reducible refine wc_ret ?_)
  exact rq1 rfl ⟨rfl, rfl⟩
theorem c107i {b : Nat} {s : Bool} (hb : single.read b = .infinity s) : Cl (mz0 G) (.func (.func 107) #[] #[]) [.float .f32 b] h (.int .i64 (smpE b)) h := by
  refine cl_of_cf (cf_enter0 5 [.tmp 2] Tryz.func107 rfl rfl rfl rfl ?_)
  repeat' (first | with_reducible refine wo_nil ?_ | ((with_reducible refine wo_any ?_); first | ((with_reducible refine ik_move ?_); refine wo_op rfl (op_move rfl) rfl rfl ?_) | ((with_reducible refine ik_assign ?_); refine wo_op rfl (op_assign rfl) rfl rfl ?_) | ((with_reducible refine ik_callF (f := 142) ?_); refine wo_op rfl (op_call rfl rfl (c142i hb)) rfl rfl ?_)) | with_reducible refine sq_norm ?_ | with_reducible refine wc_seq ?_ | with_reducible refine wc_region ?_ | with_reducible refine wc_ret ?_)
  exact rq1 rfl ⟨rfl, rfl⟩

/-- 1024 and -1024. -/
theorem k_num : Num double 4652218415073722368 (1024 * U) := by
  have h1 : double.read 4652218415073722368 = .number false (2 ^ 52) (-42) := by decide +kernel
  have := Num.of_read h1 (by omega)
  rw [signed_eq, show (-42 + 1074 : Int).toNat = K - 42 by have := hK; omega] at this
  have e : signed false (2 ^ 52) 0 * 2 ^ (K - 42) = 1024 * U := by
    rw [show U = 2 ^ K by unfold U; rfl, show (2 : Int) ^ K = 2 ^ 42 * 2 ^ (K - 42) by rw [← Int.pow_add]; congr 1; have := hK; omega, ← Int.mul_assoc]; rfl
  rwa [e] at this
theorem km_num : Num double 13875590451928498176 (-(1024 * U)) := by
  have h1 : double.read 13875590451928498176 = .number true (2 ^ 52) (-42) := by decide +kernel
  have := Num.of_read h1 (by omega)
  rw [signed_eq, show (-42 + 1074 : Int).toNat = K - 42 by have := hK; omega] at this
  have e : signed true (2 ^ 52) 0 * 2 ^ (K - 42) = -(1024 * U) := by
    rw [show U = 2 ^ K by unfold U; rfl, show (2 : Int) ^ K = 2 ^ 42 * 2 ^ (K - 42) by rw [← Int.pow_add]; congr 1; have := hK; omega, ← Int.mul_assoc, ← Int.neg_mul]; rfl
  rwa [e] at this
theorem near_k : FloatKind.nearest .f64 1024 = 4652218415073722368 := by decide +kernel
theorem near_km : FloatKind.nearest .f64 (-1024) = 13875590451928498176 := by decide +kernel

theorem c44z (b : Bool) (v : Int) : Cl (mz0 G) (.func (.func 44) #[] #[]) [.bool b, .int .i64 v] h (.int .i64 (if b then v else 0)) h := by
  refine cl_of_cf (cf_enter0 7 [.tmp 4] Tryz.func44 rfl rfl rfl rfl ?_)
  repeat' (first | with_reducible refine wo_nil ?_ | ((with_reducible refine wo_any ?_); first | ((with_reducible refine ik_move ?_); refine wo_op rfl (op_move rfl) rfl rfl ?_) | ((with_reducible refine ik_assign ?_); refine wo_op rfl (op_assign rfl) rfl rfl ?_)) | with_reducible refine sq_norm ?_ | with_reducible refine wc_seq ?_ | with_reducible refine wc_region ?_ | with_reducible refine wc_skip ?_ | with_reducible refine wc_ret ?_ | with_reducible refine sq_ret ?_ | (refine wc_if rfl (fun hb => ?_) (fun hb => ?_) <;> (try simp only [decide_eq_true_eq, decide_eq_false_iff_not, Bool.not_eq_true', Bool.not_eq_false', Int.not_lt, Int.not_le, Decidable.not_not, not_true_eq_false, not_false_eq_true, beq_self_eq_true, reduceCtorEq] at hb) <;> (try (exfalso; omega))))
  all_goals refine rq1 rfl ⟨?_, rfl⟩
  all_goals simp [hb]

theorem c123n {b : Nat} {s : Bool} {m : Nat} {e : Int} (hb : single.read b = .number s m e) : Cl (mz0 G) (.func (.func 151) #[] #[]) [.float .f32 b, .int .i64 1024] h (.int .i64 (smpE b)) h := by
  obtain ⟨b1, b2, b3⟩ := read_single hb
  have hy := finite_conv (s := s) b1 b2 b3
  have hn : Num double (double.nearest s m (e + 4)) (16 * signed s m (e + 1074).toNat) := by
    rw [← mul16_signed s m (by omega)]
    exact double_exact s (Nat.lt_of_lt_of_le b1 (by decide)) (by omega) (by omega)
  have hl := floor_num hn
  have hA := hy.fgt k_num
  have hB := hy.flt km_num
  have hC := hn.feq hl
  have hs : smpE b = if 16 * signed s m (e + 1074).toNat % U = 0 ∧ -(16384 * U) ≤ 16 * signed s m (e + 1074).toNat ∧ 16 * signed s m (e + 1074).toNat ≤ 16384 * U then 0 else 3 := by
    unfold smpE; rw [hb]
  have hg := floored_iff (signed s m (e + 1074).toNat)
  have hsm := small_v (s := s) b1 b3 b2
  generalize signed s m (e + 1074).toNat = v at hy hn hl hA hB hC hs hg hsm
  have hu := U_pos
  have fin : ∀ r : Bool, (r = true ↔ ¬(16 * v % U = 0 ∧ -(16384 * U) ≤ 16 * v ∧ 16 * v ≤ 16384 * U)) → (if r = true then (3 : Int) else 0) = smpE b := by
    intro r hr
    rw [hs]
    by_cases q : 16 * v % U = 0 ∧ -(16384 * U) ≤ 16 * v ∧ 16 * v ≤ 16384 * U
    · rw [if_pos q, if_neg (fun z => (hr.1 z) q)]
    · rw [if_neg q, if_pos (hr.2 q)]
  by_cases g1 : 1024 * U < v
  · rw [decide_eq_true g1] at hA
    refine cl_of_cf (cf_enter0 34 [.tmp 4] Tryz.func151 rfl rfl rfl rfl ?_)
    repeat' (first | with_reducible refine wo_nil ?_ | ((with_reducible refine wo_any ?_); first | ((with_reducible refine ik_move ?_); refine wo_op rfl (op_move rfl) rfl rfl ?_) | ((with_reducible refine ik_assign ?_); refine wo_op rfl (op_assign rfl) rfl rfl ?_) | ((with_reducible refine ik_convert ?_); first | refine wo_op rfl (op_cvff rfl Tryz.underlying36 Tryz.underlying52 (conv_num hb)) rfl rfl ?_ | refine wo_op rfl (op_cvif rfl Tryz.underlying3 Tryz.underlying52 near_k) rfl rfl ?_) | ((with_reducible refine ik_bin ?_); refine wo_op rfl (op_fgtr rfl rfl hA) rfl rfl ?_) | ((with_reducible refine ik_pick ?_); first | refine wo_op rfl (op_pickt rfl rfl) rfl rfl ?_ | refine wo_op rfl (op_pickf rfl rfl) rfl rfl ?_) | ((with_reducible refine ik_callF (f := 167) ?_); refine wo_op rfl (op_call rfl rfl (c167 hy)) rfl rfl ?_) | ((with_reducible refine ik_callF (f := 44) ?_); refine wo_op rfl (op_call rfl rfl (c44z _ _)) rfl rfl ?_) | ((with_reducible refine ik_g ?_); first | refine wo_gskip rfl rfl rfl rfl rfl rfl ?_ | ((with_reducible refine ig_move ?_); refine wo_grun rfl rfl rfl (op_move rfl) rfl rfl ?_) | ((with_reducible refine ig_callF (f := 168) ?_); refine wo_grun rfl rfl rfl (op_call rfl rfl (c168 hy (nearest_lt _ _ _) hsm)) rfl rfl ?_))) | with_reducible refine sq_norm ?_ | with_reducible refine wc_seq ?_ | with_reducible refine wc_region ?_ | with_reducible refine wc_skip ?_ | with_reducible refine wc_ret ?_ | refine wc_iff rfl ?_)
    refine rq1 rfl ⟨?_, rfl⟩
    rw [fin true (by constructor <;> intro q <;> first | omega | rfl)]
  · rw [decide_eq_false g1] at hA
    by_cases g2 : v < -(1024 * U)
    · rw [decide_eq_true g2] at hB
      refine cl_of_cf (cf_enter0 34 [.tmp 4] Tryz.func151 rfl rfl rfl rfl ?_)
      repeat' (first | with_reducible refine wo_nil ?_ | ((with_reducible refine wo_any ?_); first | ((with_reducible refine ik_move ?_); refine wo_op rfl (op_move rfl) rfl rfl ?_) | ((with_reducible refine ik_assign ?_); refine wo_op rfl (op_assign rfl) rfl rfl ?_) | ((with_reducible refine ik_convert ?_); first | refine wo_op rfl (op_cvff rfl Tryz.underlying36 Tryz.underlying52 (conv_num hb)) rfl rfl ?_ | refine wo_op rfl (op_cvif rfl Tryz.underlying3 Tryz.underlying52 near_k) rfl rfl ?_) | ((with_reducible refine ik_bin ?_); refine wo_op rfl (op_fgtr rfl rfl hA) rfl rfl ?_) | ((with_reducible refine ik_pick ?_); first | refine wo_op rfl (op_pickt rfl rfl) rfl rfl ?_ | refine wo_op rfl (op_pickf rfl rfl) rfl rfl ?_) | ((with_reducible refine ik_callF (f := 167) ?_); refine wo_op rfl (op_call rfl rfl (c167 hy)) rfl rfl ?_) | ((with_reducible refine ik_callF (f := 44) ?_); refine wo_op rfl (op_call rfl rfl (c44z _ _)) rfl rfl ?_) | ((with_reducible refine ik_g ?_); first | refine wo_gskip rfl rfl rfl rfl rfl rfl ?_ | ((with_reducible refine ig_move ?_); refine wo_grun rfl rfl rfl (op_move rfl) rfl rfl ?_) | ((with_reducible refine ig_convert ?_); refine wo_grun rfl rfl rfl (op_cvif rfl Tryz.underlying3 Tryz.underlying52 near_km) rfl rfl ?_) | ((with_reducible refine ig_bin ?_); first | refine wo_grun rfl rfl rfl (op_flss rfl rfl hB) rfl rfl ?_ | refine wo_grun rfl rfl rfl (op_sub' rfl rfl (w64 (by omega) (by omega))) rfl rfl ?_) | ((with_reducible refine ig_callF (f := 168) ?_); refine wo_grun rfl rfl rfl (op_call rfl rfl (c168 hy (nearest_lt _ _ _) hsm)) rfl rfl ?_))) | with_reducible refine sq_norm ?_ | with_reducible refine wc_seq ?_ | with_reducible refine wc_region ?_ | with_reducible refine wc_skip ?_ | with_reducible refine wc_ret ?_ | refine wc_iff rfl ?_)
      refine rq1 rfl ⟨?_, rfl⟩
      rw [fin true (by constructor <;> intro q <;> first | omega | rfl)]
    · rw [decide_eq_false g2] at hB
      refine cl_of_cf (cf_enter0 34 [.tmp 4] Tryz.func151 rfl rfl rfl rfl ?_)
      repeat' (first | with_reducible refine wo_nil ?_ | ((with_reducible refine wo_any ?_); first | ((with_reducible refine ik_move ?_); refine wo_op rfl (op_move rfl) rfl rfl ?_) | ((with_reducible refine ik_assign ?_); refine wo_op rfl (op_assign rfl) rfl rfl ?_) | ((with_reducible refine ik_convert ?_); first | refine wo_op rfl (op_cvff rfl Tryz.underlying36 Tryz.underlying52 (conv_num hb)) rfl rfl ?_ | refine wo_op rfl (op_cvif rfl Tryz.underlying3 Tryz.underlying52 near_k) rfl rfl ?_) | ((with_reducible refine ik_bin ?_); refine wo_op rfl (op_fgtr rfl rfl hA) rfl rfl ?_) | ((with_reducible refine ik_pick ?_); refine wo_op rfl (op_pickf rfl rfl) rfl rfl ?_) | ((with_reducible refine ik_callF (f := 167) ?_); refine wo_op rfl (op_call rfl rfl (c167 hy)) rfl rfl ?_) | ((with_reducible refine ik_callF (f := 44) ?_); refine wo_op rfl (op_call rfl rfl (c44z _ _)) rfl rfl ?_) | ((with_reducible refine ik_g ?_); first | ((with_reducible refine ig_move ?_); refine wo_grun rfl rfl rfl (op_move rfl) rfl rfl ?_) | ((with_reducible refine ig_convert ?_); refine wo_grun rfl rfl rfl (op_cvif rfl Tryz.underlying3 Tryz.underlying52 near_km) rfl rfl ?_) | ((with_reducible refine ig_bin ?_); first | refine wo_grun rfl rfl rfl (op_fmul rfl rfl (double_mul16 s b1 b2 b3)) rfl rfl ?_ | refine wo_grun rfl rfl rfl (op_flss rfl rfl hB) rfl rfl ?_ | refine wo_grun rfl rfl rfl (op_fneq rfl rfl hC) rfl rfl ?_ | refine wo_grun rfl rfl rfl (op_sub' rfl rfl (w64 (by omega) (by omega))) rfl rfl ?_) | ((with_reducible refine ig_callF (f := 168) ?_); refine wo_grun rfl rfl rfl (op_call rfl rfl (c168 hy (nearest_lt _ _ _) hsm)) rfl rfl ?_) | ((with_reducible refine ig_callF (f := 169) ?_); refine wo_grun rfl rfl rfl (op_call rfl rfl (c169 hn)) rfl rfl ?_))) | with_reducible refine sq_norm ?_ | with_reducible refine wc_seq ?_ | with_reducible refine wc_region ?_ | with_reducible refine wc_skip ?_ | with_reducible refine wc_ret ?_ | refine wc_iff rfl ?_)
      refine rq1 rfl ⟨?_, rfl⟩
      rw [fin _ ?_]
      rw [Bool.not_eq_true', decide_eq_false_iff_not, hg]
      constructor
      · intro q z; exact q z.1
      · intro q z; exact q ⟨z, by omega, by omega⟩
theorem c123i {b : Nat} {s : Bool} (hb : single.read b = .infinity s) : Cl (mz0 G) (.func (.func 151) #[] #[]) [.float .f32 b, .int .i64 1024] h (.int .i64 (smpE b)) h := by
  refine cl_of_cf (cf_enter0 34 [.tmp 4] Tryz.func151 rfl rfl rfl rfl ?_)
  repeat' (first | with_reducible refine wo_nil ?_ | ((with_reducible refine wo_any ?_); first | ((with_reducible refine ik_move ?_); refine wo_op rfl (op_move rfl) rfl rfl ?_) | ((with_reducible refine ik_assign ?_); refine wo_op rfl (op_assign rfl) rfl rfl ?_) | ((with_reducible refine ik_convert ?_); refine wo_op rfl (op_cvff rfl Tryz.underlying36 Tryz.underlying52 (conv_inf hb)) rfl rfl ?_) | ((with_reducible refine ik_pick ?_); refine wo_op rfl (op_pickf rfl rfl) rfl rfl ?_) | ((with_reducible refine ik_callF (f := 167) ?_); refine wo_op rfl (op_call rfl rfl (c167i s)) rfl rfl ?_) | ((with_reducible refine ik_g ?_); first | ((with_reducible refine ig_move ?_); refine wo_grun rfl rfl rfl (op_move rfl) rfl rfl ?_) | ((with_reducible refine ig_callF (f := 168) ?_); refine wo_grun rfl rfl rfl (op_call rfl rfl (c168i s)) rfl rfl ?_))) | with_reducible refine sq_norm ?_ | with_reducible refine wc_seq ?_ | with_reducible refine wc_region ?_ | with_reducible refine wc_ret ?_ | with_reducible refine sq_ret ?_ | refine wc_ift rfl ?_)
  refine rq1 rfl ⟨?_, rfl⟩
  unfold smpE; rw [hb]

theorem c123 {b : Nat} (hc : Cl (mz0 G) (.func (.func 151) #[] #[]) [.float .f32 b, .int .i64 1024] h (.int .i64 (smpE b)) h) : Cl (mz0 G) (.func (.func 123) #[] #[]) [.float .f32 b] h (.int .i64 (smpE b)) h := by
  refine cl_of_cf (cf_enter0 5 [.tmp 2] Tryz.func123 rfl rfl rfl rfl ?_)
  repeat' (first | with_reducible refine wo_nil ?_ | ((with_reducible refine wo_any ?_); first | ((with_reducible refine ik_move ?_); refine wo_op rfl (op_move rfl) rfl rfl ?_) | ((with_reducible refine ik_assign ?_); refine wo_op rfl (op_assign rfl) rfl rfl ?_) | ((with_reducible refine ik_callv ?_); refine wo_op rfl (op_call rfl rfl (hc)) rfl rfl ?_)) | with_reducible refine sq_norm ?_ | with_reducible refine wc_seq ?_ | with_reducible refine wc_region ?_ | with_reducible refine wc_ret ?_)
  exact rq1 rfl ⟨rfl, rfl⟩
end Go.Proofs.YtccdcekcbbpohaaGreatDoor

namespace Go.Proofs.YtccdcekcbbpohaaGreatDoor
open Go Go.Ab Go.Fl Ieee
noncomputable def smpX (xs : List Value) (h : H) : Option (Value × H) := match xs with
  | [.float .f32 b] => some (.int .i64 (smpE b), h)
  | _ => none
/-- What is answered at once: awake, the two checks of a sample, and Go's own functions. -/
noncomputable def extz : Ext := fun f => match f with
  | 10 => some fun xs h => match xs with | [] => some (.bool true, h) | _ => none
  | 107 => some smpX
  | 123 => some smpX
  | f => ext0 f

end Go.Proofs.YtccdcekcbbpohaaGreatDoor

namespace Go.Proofs.YtccdcekcbbpohaaGreatDoor
open Go
open Go.Ab Go.Fl Go.RowKit Ieee
theorem nan167 (x : Nat) (W : World) (hx : FloatKind.f64.format.order x x = none) : Calls Tryz.prog 167 #[.float .f64 x] W fun e W' => e = .returned (.bool true) ∧ W' = W := by
  go_enter Tryz.func167, Tryz.ntmps167
  go_wp2
  go_ret
  exact ⟨rfl, rfl⟩
/-- A NaN, widened: some NaN. -/
theorem conv_nan (b : Nat) (W : World) (s : Bool) (t : Nat) (hb : FloatKind.f32.decode b = .nan s t) : ∃ x, FloatKind.f64.format.order x x = none ∧ (convert 36 52 (.float .f32 b)).run Tryz.prog W = .ok (.float .f64 x) W.drew := by
  refine ⟨(Question.nanConv .f64 b).cut (W.tape W.drawn (.nanConv .f64 b)), ?_, ?_⟩
  · generalize W.tape W.drawn (.nanConv .f64 b) = n
    show Ieee.double.order ((n % 2) * 2 ^ 63 + 0x7ff0000000000000 + 1 + (n / 2) % (2 ^ 52 - 1)) ((n % 2) * 2 ^ 63 + 0x7ff0000000000000 + 1 + (n / 2) % (2 ^ 52 - 1)) = none
    generalize hr : (n / 2) % (2 ^ 52 - 1) = r
    have hr : r < 2 ^ 52 - 1 := by rw [← hr]; exact Nat.mod_lt _ (by decide)
    generalize n % 2 = k
    have h1 : ∃ s f, Ieee.double.read (k * 2 ^ 63 + 0x7ff0000000000000 + 1 + r) = .nan s f := by
      unfold Ieee.Format.read
      have hs : Ieee.double.signWeight = 2 ^ 63 := rfl
      have hb : Ieee.double.binade = 2 ^ 52 := rfl
      have hi : Ieee.double.infRung = 2047 * 2 ^ 52 := rfl
      simp only [hs, hb, hi]
      rw [if_neg (by omega), if_neg (by omega), if_neg (by omega)]
      exact ⟨_, _, rfl⟩
    obtain ⟨s, f, h1⟩ := h1
    unfold Ieee.Format.order
    rw [h1]; rfl
  · simp [convert, run_underlying Tryz.underlying36, run_underlying Tryz.underlying52, Conv.floatToFloat, hb, Question.forced]
set_option maxRecDepth 100000 in
theorem nan157 (b : Nat) (W : World) (s : Bool) (t : Nat) (hb : FloatKind.f32.decode b = .nan s t) : Calls Tryz.prog 157 #[.float .f32 b] W fun e W' => e = .returned (.bool false) ∧ W' = W.drew := by
  obtain ⟨x, hx, hr⟩ := conv_nan b W s t hb
  clear hb
  go_enter Tryz.func157, Tryz.ntmps157
  go_wp2_with (go_at_call 167; refine (nan167 x _ hx).mono ?_; rintro e w' ⟨rfl, rfl⟩)
  go_ret
  exact ⟨rfl, rfl⟩
set_option maxRecDepth 100000 in
theorem nan142 (b : Nat) (W : World) (s : Bool) (t : Nat) (hb : FloatKind.f32.decode b = .nan s t) : Calls Tryz.prog 142 #[.float .f32 b, .int .i64 16384] W fun e W' => e = .returned (.int .i64 1) ∧ W' = W.drew := by
  go_enter Tryz.func142, Tryz.ntmps142
  go_wp2_with (go_at_call 157; refine (nan157 b _ s t hb).mono ?_; rintro e w' ⟨rfl, rfl⟩)
  go_ret
  exact ⟨rfl, rfl⟩
set_option maxRecDepth 100000 in
theorem nan107 (b : Nat) (W : World) (s : Bool) (t : Nat) (hb : FloatKind.f32.decode b = .nan s t) : Calls Tryz.prog 107 #[.float .f32 b] W fun e W' => e = .returned (.int .i64 1) ∧ W' = W.drew := by
  go_enter Tryz.func107, Tryz.ntmps107
  go_wp2_with (go_at_call 142; refine (nan142 b _ s t hb).mono ?_; rintro e w' ⟨rfl, rfl⟩)
  go_ret
  exact ⟨rfl, rfl⟩
set_option maxRecDepth 100000 in
theorem nan151 (b : Nat) (W : World) (s : Bool) (t : Nat) (hb : FloatKind.f32.decode b = .nan s t) : Calls Tryz.prog 151 #[.float .f32 b, .int .i64 1024] W fun e W' => e = .returned (.int .i64 1) ∧ W' = W.drew := by
  obtain ⟨x, hx, hr⟩ := conv_nan b W s t hb
  clear hb
  go_enter Tryz.func151, Tryz.ntmps151
  go_wp2_with (go_at_call 167; refine (nan167 x _ hx).mono ?_; rintro e w' ⟨rfl, rfl⟩)
  go_ret
  exact ⟨rfl, rfl⟩
set_option maxRecDepth 100000 in
theorem nan123 (b : Nat) (W : World) (s : Bool) (t : Nat) (hb : FloatKind.f32.decode b = .nan s t) : Calls Tryz.prog 123 #[.float .f32 b] W fun e W' => e = .returned (.int .i64 1) ∧ W' = W.drew := by
  go_enter Tryz.func123, Tryz.ntmps123
  go_wp2_with (go_at_call 151; refine (nan151 b _ s t hb).mono ?_; rintro e w' ⟨rfl, rfl⟩)
  go_ret
  exact ⟨rfl, rfl⟩

/-- A call that the evaluator tells. -/
theorem call_eq (f : FuncId) (xs : List Value) : (do let d ← Deferred.ofValue (.func (.func f) #[] #[]) ⟨xs⟩; invoke d.target d.args) = callFunc f xs.toArray := by
  simp [Deferred.ofValue, invoke]
theorem endsOfCl {B : Nat} {G : Base} {ρ : Ctx} {h h' : H} {w : World} {f : FuncId} {xs xs' : List Value} {v : Value} (R : Rep B G ρ h w) (A : LRel ρ xs xs') (hc : Cl (mz0 G) (.func (.func f) #[] #[]) xs h v h') (c : Frame) (cs : List Frame) : Ab.Ends Tryz.prog B G ρ h w c cs (callFunc f xs'.toArray) v h' := by
  obtain ⟨n, hn⟩ := hc
  have := door_sound (B := B) (G := G) n _ _ _ _ _ (hn n (Nat.le_refl _)) ρ w (.func (.func f) #[] #[]) xs' R (.gd_refl rfl) A c cs
  exact this.of_eq (call_eq f xs')

/-- AWAKE, IN THE MIDST OF AN EVALUATION. -/
theorem awake_ends {B : Nat} {G : Base} (hG : ∀ a v, laidBase a = some v → G a = some v) {ρ : Ctx} {h : H} {w : World} (R : Rep B G ρ h w) (c : Frame) (cs : List Frame) : Ab.Ends Tryz.prog B G ρ h w c cs (callFunc 10 #[]) (.bool true) h := by
  have hB : BaseOk w.heap.size laidBase w := ⟨fun a v e => by
    obtain ⟨q1, q2, q3⟩ := R.base.cell a v (hG a v e)
    exact ⟨q1, Nat.lt_of_lt_of_le q2 R.base.size, q3⟩, Nat.le_refl _⟩
  exact endsOfCalls R Tryz.func10 (show Tryz.f10.body = some aw_c by rfl) rfl (awake_calls hB) c cs

theorem smp_nan {b : Nat} {s : Bool} {t : Nat} (hb : single.read b = .nan s t) : smpE b = 1 := by
  unfold smpE; rw [hb]

theorem extz_sound {B : Nat} {G : Base} (hG : ∀ a v, laidBase a = some v → G a = some v) : ExtSound Tryz.prog B G extz := by
  intro f x hx args h v h' hv ρ w args' R A c cs
  have hsmp : ∀ {f : FuncId} {fn : Func} {c0 : Code}, Tryz.prog.funcs[f]? = some fn → fn.body = some c0 → (∀ b W s t, FloatKind.f32.decode b = .nan s t → Calls Tryz.prog f #[.float .f32 b] W fun e W' => e = .returned (.int .i64 1) ∧ W' = W.drew) →
      (∀ b h, (∀ s t, single.read b ≠ .nan s t) → Cl (mz0 G) (.func (.func f) #[] #[]) [.float .f32 b] h (.int .i64 (smpE b)) h) → smpX args h = some (v, h') → Ab.Ends Tryz.prog B G ρ h w c cs (callFunc f args'.toArray) v h' := by
    intro f fn c0 hf hb h1 h2 hv
    unfold smpX at hv
    split at hv
    · rename_i b _
      cases hv
      match args', A with
      | [x'], A =>
        have hx' : x' = .float .f32 b := (A.2 0 _ _ rfl rfl).gd_eq rfl
        subst hx'
        cases hd : single.read b with
        | nan s t =>
          rw [smp_nan hd]
          exact endsOfCalls R hf hb rfl ((h1 b w s t hd).mono fun e W' ⟨q1, q2⟩ => ⟨q1, by rw [q2]; exact below_drew w⟩) c cs
        | number s m e => exact endsOfCl R A (h2 b h (by rw [hd]; intro s t q; cases q)) c cs
        | infinity s => exact endsOfCl R A (h2 b h (by rw [hd]; intro s t q; cases q)) c cs
      | [], A => exact absurd A.1 (by simp)
      | _ :: _ :: _, A => exact absurd A.1 (by simp)
    · cases hv
  unfold extz at hx
  split at hx
  · cases hx
    match args, args', A with
    | [], [], _ =>
      simp only [Option.some.injEq, Prod.mk.injEq] at hv
      obtain ⟨rfl, rfl⟩ := hv
      exact awake_ends hG R c cs
    | [], _ :: _, A => exact absurd A.1 (by simp)
    | _ :: _, _, _ => simp at hv
  · cases hx
    exact hsmp Tryz.func107 (show Tryz.f107.body = some (Tryz.f107.body.getD .skip) by rfl) nan107 (fun b h hn => by
      cases hd : single.read b with
      | nan s t => exact absurd hd (hn s t)
      | number s m e => exact c107n hd
      | infinity s => exact c107i hd) hv
  · cases hx
    exact hsmp Tryz.func123 (show Tryz.f123.body = some (Tryz.f123.body.getD .skip) by rfl) nan123 (fun b h hn => by
      cases hd : single.read b with
      | nan s t => exact absurd hd (hn s t)
      | number s m e => exact c123 (c123n hd)
      | infinity s => exact c123 (c123i hd)) hv
  · exact ext_sound f x hx args h v h' hv ρ w args' R A c cs
end Go.Proofs.YtccdcekcbbpohaaGreatDoor

/- Basics: ranges, first errors, divisors, ratios. -/
namespace Go.Proofs.YtccdcekcbbpohaaGreatDoor
open Go Go.Ab Go.Fl
attribute [local irreducible] SeqQ BlkQ LpQ RetQ Wc Wo WD WX Op1 Op1q Op1a Cf Cl From
attribute [local irreducible] Ieee.Format.order Ieee.Format.read Ieee.Format.nearest Ieee.Format.write Ieee.Format.mul Ieee.Format.div Ieee.Datum.order Ieee.Datum.integral smpE smp K J U
set_option maxRecDepth 10000
noncomputable def mz (G : Base) : Mc := ⟨Tryz.prog, G, extz⟩
variable {G : Base} {h : H}

/-! equality of ratios and of headers -/
theorem c10 : Cl (mz G) (.func (.func 10) #[] #[]) [] h (.bool true) h := cl_ext (x := fun xs h => match xs with | [] => some (.bool true, h) | _ => none) rfl rfl
theorem c107 (b : Nat) : Cl (mz G) (.func (.func 107) #[] #[]) [.float .f32 b] h (.int .i64 (smpE b)) h := cl_ext (x := smpX) rfl rfl
theorem c123s (b : Nat) : Cl (mz G) (.func (.func 123) #[] #[]) [.float .f32 b] h (.int .i64 (smpE b)) h := cl_ext (x := smpX) rfl rfl

theorem c44 (b : Bool) (v : Int) : Cl (mz G) (.func (.func 44) #[] #[]) [.bool b, .int .i64 v] h (.int .i64 (if b then v else 0)) h := by
  refine cl_of_cf (cf_enter0 7 [.tmp 4] Tryz.func44 rfl rfl rfl rfl ?_)
  repeat' (first | with_reducible refine wo_nil ?_ | ((with_reducible refine wo_any ?_); first | ((with_reducible refine ik_move ?_); refine wo_op rfl (op_move rfl) rfl rfl ?_) | ((with_reducible refine ik_assign ?_); refine wo_op rfl (op_assign rfl) rfl rfl ?_)) | with_reducible refine sq_norm ?_ | with_reducible refine wc_seq ?_ | with_reducible refine wc_region ?_ | with_reducible refine wc_skip ?_ | with_reducible refine wc_ret ?_ | with_reducible refine sq_ret ?_ | (refine wc_if rfl (fun hb => ?_) (fun hb => ?_) <;> (try simp only [decide_eq_true_eq, decide_eq_false_iff_not, Bool.not_eq_true', Bool.not_eq_false', Int.not_lt, Int.not_le, Decidable.not_not, not_true_eq_false, not_false_eq_true, beq_self_eq_true, reduceCtorEq] at hb) <;> (try (exfalso; omega))))
  all_goals refine rq1 rfl ⟨?_, rfl⟩
  all_goals simp [hb]
def rngE (x lo hi : Int) : Int := if x < lo ∨ hi < x then 3 else 0
theorem c89 (x lo hi : Int) : Cl (mz G) (.func (.func 89) #[] #[]) [.int .i64 x, .int .i64 lo, .int .i64 hi] h (.int .i64 (rngE x lo hi)) h := by
  refine cl_of_cf (cf_enter0 15 [.tmp 6] Tryz.func89 rfl rfl rfl rfl ?_)
  repeat' (first | with_reducible refine wo_nil ?_ | ((with_reducible refine wo_any ?_); first | ((with_reducible refine ik_move ?_); refine wo_op rfl (op_move rfl) rfl rfl ?_) | ((with_reducible refine ik_assign ?_); refine wo_op rfl (op_assign rfl) rfl rfl ?_) | ((with_reducible refine ik_bin ?_); refine wo_op rfl (op_lss rfl rfl) rfl rfl ?_) | ((with_reducible refine ik_pick ?_); first | refine wo_op rfl (op_pickt rfl rfl) rfl rfl ?_ | refine wo_op rfl (op_pickf rfl rfl) rfl rfl ?_) | ((with_reducible refine ik_g ?_); first | refine wo_gskip rfl rfl rfl rfl rfl rfl ?_ | ((with_reducible refine ig_move ?_); refine wo_grun rfl rfl rfl (op_move rfl) rfl rfl ?_) | ((with_reducible refine ig_bin ?_); refine wo_grun rfl rfl rfl (op_gtr rfl rfl) rfl rfl ?_) | (refine wo_gsplit rfl rfl rfl (fun hb => ?_) (fun hb => ?_) <;> (try simp only [decide_eq_true_eq, decide_eq_false_iff_not, Bool.not_eq_true', Bool.not_eq_false', Int.not_lt, Int.not_le, Decidable.not_not, not_true_eq_false, not_false_eq_true, beq_self_eq_true, reduceCtorEq] at hb) <;> (try (exfalso; omega))))) | with_reducible refine sq_norm ?_ | with_reducible refine wc_seq ?_ | with_reducible refine wc_region ?_ | with_reducible refine wc_skip ?_ | with_reducible refine wc_ret ?_ | with_reducible refine sq_ret ?_ | refine wc_ift rfl ?_ | (refine wc_if rfl (fun hb => ?_) (fun hb => ?_) <;> (try simp only [decide_eq_true_eq, decide_eq_false_iff_not, Bool.not_eq_true', Bool.not_eq_false', Int.not_lt, Int.not_le, Decidable.not_not, not_true_eq_false, not_false_eq_true, beq_self_eq_true, reduceCtorEq] at hb) <;> (try (exfalso; omega))))
  all_goals refine rq1 rfl ⟨?_, rfl⟩
  all_goals (unfold rngE; congr 1; first | rw [if_pos (by omega)] | rw [if_neg (by omega)])
theorem c36 (x lo hi : Int) : Cl (mz G) (.func (.func 36) #[] #[]) [.int .i64 x, .int .i64 lo, .int .i64 hi] h (.int .i64 (rngE x lo hi)) h := by
  refine cl_of_cf (cf_enter0 16 [.tmp 6] Tryz.func36 rfl rfl rfl rfl ?_)
  repeat' (first | with_reducible refine wo_nil ?_ | ((with_reducible refine wo_any ?_); first | ((with_reducible refine ik_move ?_); refine wo_op rfl (op_move rfl) rfl rfl ?_) | ((with_reducible refine ik_assign ?_); refine wo_op rfl (op_assign rfl) rfl rfl ?_) | ((with_reducible refine ik_bin ?_); refine wo_op rfl (op_lss rfl rfl) rfl rfl ?_) | ((with_reducible refine ik_pick ?_); first | refine wo_op rfl (op_pickt rfl rfl) rfl rfl ?_ | refine wo_op rfl (op_pickf rfl rfl) rfl rfl ?_) | ((with_reducible refine ik_callF (f := 44) ?_); refine wo_op rfl (op_call rfl rfl (c44 _ _)) rfl rfl ?_) | ((with_reducible refine ik_g ?_); first | refine wo_gskip rfl rfl rfl rfl rfl rfl ?_ | ((with_reducible refine ig_move ?_); refine wo_grun rfl rfl rfl (op_move rfl) rfl rfl ?_) | ((with_reducible refine ig_bin ?_); refine wo_grun rfl rfl rfl (op_gtr rfl rfl) rfl rfl ?_) | (refine wo_gsplit rfl rfl rfl (fun hb => ?_) (fun hb => ?_) <;> (try simp only [decide_eq_true_eq, decide_eq_false_iff_not, Bool.not_eq_true', Bool.not_eq_false', Int.not_lt, Int.not_le, Decidable.not_not, not_true_eq_false, not_false_eq_true, beq_self_eq_true, reduceCtorEq] at hb) <;> (try (exfalso; omega))))) | with_reducible refine sq_norm ?_ | with_reducible refine wc_seq ?_ | with_reducible refine wc_region ?_ | with_reducible refine wc_ret ?_)
  all_goals refine rq1 rfl ⟨?_, rfl⟩
  all_goals unfold rngE
  · rw [if_pos rfl, if_pos (.inl hb)]
  · by_cases hc : hi < x
    · rw [decide_eq_true hc, if_pos rfl, if_pos (.inr hc)]
    · rw [decide_eq_false hc, if_neg (by decide), if_neg (by omega)]

def firstNZ : List Int → Int
  | [] => 0
  | e :: l => if e = 0 then firstNZ l else e
theorem c72 {v : Value} {n : Nat} {es : List Int} (s : Sl G h 1 v n (es.map (.int .i64))) (hn : n < 1000000) : Cl (mz G) (.func (.func 72) #[] #[]) [v] h (.int .i64 (firstNZ es)) h := by
  obtain ⟨a, c, rfl⟩ := s.form
  have hl := s.length
  simp at hl
  refine cl_of_cf (cf_enter0 15 [.tmp 2] Tryz.func72 rfl rfl rfl rfl ?_)
  repeat' (first | with_reducible refine wo_nil ?_ | ((with_reducible refine wo_any ?_); first | ((with_reducible refine ik_move ?_); refine wo_op rfl (op_move rfl) rfl rfl ?_) | ((with_reducible refine ik_assign ?_); refine wo_op rfl (op_assign rfl) rfl rfl ?_) | ((with_reducible refine ik_callb ?_); refine wo_op rfl (op_lenSl rfl Tryz.underlying163) rfl rfl ?_)) | with_reducible refine sq_norm ?_ | with_reducible refine wc_seq ?_ | with_reducible refine wc_region ?_ | with_reducible refine wc_block ?_)
  refine wc_loop (fun k => n - k) (fun k : Nat => [(5, .slice a n c), (6, .int .i64 n), (7, .int .i64 k)]) (fun k h' => h' = h ∧ k ≤ n ∧ firstNZ (es.drop k) = firstNZ es) 0 (within_lk ⟨rfl, rfl, rfl, trivial⟩) ⟨rfl, Nat.zero_le _, rfl⟩ ?_
  rintro k h' ⟨rfl, hk, hi⟩
  by_cases hlt : k < n
  · obtain ⟨ad, h1, h2⟩ := s.addr (M := mz G) Tryz.underlying163 (es := 1) zs29 (i := k) (k := .i64) (by omega) (by omega)
    have h3 : acell G h' ad = some (.int .i64 (es[k]'(by omega))) := h2.get 0 _ (by simp)
    rw [List.drop_eq_getElem_cons (by omega), firstNZ] at hi
    repeat' (first | with_reducible refine wo_nil ?_ | ((with_reducible refine wo_any ?_); first | ((with_reducible refine ik_move ?_); refine wo_op rfl (op_move rfl) rfl rfl ?_) | ((with_reducible refine ik_assign ?_); refine wo_op rfl (op_assign rfl) rfl rfl ?_) | ((with_reducible refine ik_indexAddr ?_); refine wo_op rfl (op_indexAddr rfl rfl h1) rfl rfl ?_) | ((with_reducible refine ik_load ?_); refine wo_op rfl (op_ldCell rfl Tryz.underlying29 rfl h3) rfl rfl ?_) | ((with_reducible refine ik_bin ?_); first | refine wo_op rfl (op_lss rfl rfl) rfl rfl ?_ | refine wo_op rfl (op_neq rfl rfl) rfl rfl ?_ | refine wo_op rfl (op_add' rfl rfl (w64 (by omega) (by omega))) rfl rfl ?_)) | with_reducible refine sq_norm ?_ | with_reducible refine wc_seq ?_ | with_reducible refine wc_region ?_ | with_reducible refine wc_skip ?_ | with_reducible refine wc_ret ?_ | with_reducible refine wc_block ?_ | with_reducible refine bq_norm ?_ | with_reducible refine bq_ret ?_ | with_reducible refine sq_ret ?_ | with_reducible refine lq_ret ?_ | (refine wc_if rfl (fun hb => ?_) (fun hb => ?_) <;> (try simp only [decide_eq_true_eq, decide_eq_false_iff_not, Bool.not_eq_true', Bool.not_eq_false', Int.not_lt, Int.not_le, Decidable.not_not, not_true_eq_false, not_false_eq_true, beq_self_eq_true, reduceCtorEq] at hb) <;> (try (exfalso; omega))))
    · refine rq1 rfl ⟨?_, rfl⟩
      rw [if_neg hb] at hi; rw [hi]
    · refine lq_norm (k + 1) (by omega) (within_lk ⟨rfl, rfl, rfl, trivial⟩) ⟨rfl, by omega, ?_⟩
      rw [if_pos hb] at hi; exact hi
  · repeat' (first | with_reducible refine wo_nil ?_ | ((with_reducible refine wo_any ?_); first | ((with_reducible refine ik_assign ?_); refine wo_op rfl (op_assign rfl) rfl rfl ?_) | ((with_reducible refine ik_bin ?_); refine wo_op rfl (op_lss rfl rfl) rfl rfl ?_)) | with_reducible refine sq_norm ?_ | with_reducible refine wc_seq ?_ | with_reducible refine wc_region ?_ | with_reducible refine wc_ret ?_ | with_reducible refine wc_exit ?_ | with_reducible refine sq_exit ?_ | with_reducible refine lq_exit ?_ | refine bq_eq rfl ?_ | (refine wc_if rfl (fun hb => ?_) (fun hb => ?_) <;> (try simp only [decide_eq_true_eq, decide_eq_false_iff_not, Bool.not_eq_true', Bool.not_eq_false', Int.not_lt, Int.not_le, Decidable.not_not, not_true_eq_false, not_false_eq_true, beq_self_eq_true, reduceCtorEq] at hb) <;> (try (exfalso; omega))))
    refine rq1 rfl ⟨?_, rfl⟩
    rw [List.drop_eq_nil_of_le (by omega)] at hi
    rw [← hi]; rfl
theorem c23 {v : Value} {n : Nat} {es : List Int} (s : Sl G h 1 v n (es.map (.int .i64))) (hn : n < 1000000) : Cl (mz G) (.func (.func 23) #[] #[]) [v] h (.int .i64 (firstNZ es)) h := by
  obtain ⟨a, c, rfl⟩ := s.form
  have hl := s.length
  simp at hl
  refine cl_of_cf (cf_enter0 19 [.tmp 2] Tryz.func23 rfl rfl rfl rfl ?_)
  repeat' (first | with_reducible refine wo_nil ?_ | ((with_reducible refine wo_any ?_); ((with_reducible refine ik_assign ?_); refine wo_op rfl (op_assign rfl) rfl rfl ?_)) | with_reducible refine sq_norm ?_ | with_reducible refine wc_seq ?_ | with_reducible refine wc_region ?_ | with_reducible refine wc_block ?_)
  refine wc_loop (fun k => n - k) (fun k : Nat => [(0, .slice a n c), (3, .int .i64 k)]) (fun k h' => h' = h ∧ k ≤ n ∧ firstNZ (es.drop k) = firstNZ es) 0 (within_lk ⟨rfl, rfl, trivial⟩) ⟨rfl, Nat.zero_le _, rfl⟩ ?_
  rintro k h' ⟨rfl, hk, hi⟩
  by_cases hlt : k < n
  · obtain ⟨ad, h1, h2⟩ := s.addr (M := mz G) Tryz.underlying22 (es := 1) zs3 (i := k) (k := .i64) (by omega) (by omega)
    have h3 : acell G h' ad = some (.int .i64 (es[k]'(by omega))) := h2.get 0 _ (by simp)
    rw [List.drop_eq_getElem_cons (by omega), firstNZ] at hi
    repeat' (first | with_reducible refine wo_nil ?_ | ((with_reducible refine wo_any ?_); first | ((with_reducible refine ik_move ?_); refine wo_op rfl (op_move rfl) rfl rfl ?_) | ((with_reducible refine ik_assign ?_); refine wo_op rfl (op_assign rfl) rfl rfl ?_) | ((with_reducible refine ik_indexAddr ?_); refine wo_op rfl (op_indexAddr rfl rfl h1) rfl rfl ?_) | ((with_reducible refine ik_load ?_); refine wo_op rfl (op_ldCell rfl Tryz.underlying3 rfl h3) rfl rfl ?_) | ((with_reducible refine ik_callb ?_); refine wo_op rfl (op_lenSl rfl Tryz.underlying22) rfl rfl ?_) | ((with_reducible refine ik_bin ?_); first | refine wo_op rfl (op_lss rfl rfl) rfl rfl ?_ | refine wo_op rfl (op_neq rfl rfl) rfl rfl ?_ | refine wo_op rfl (op_add' rfl rfl (w64 (by omega) (by omega))) rfl rfl ?_)) | with_reducible refine sq_norm ?_ | with_reducible refine wc_seq ?_ | with_reducible refine wc_region ?_ | with_reducible refine wc_skip ?_ | with_reducible refine wc_ret ?_ | with_reducible refine wc_block ?_ | with_reducible refine bq_norm ?_ | with_reducible refine bq_ret ?_ | with_reducible refine sq_ret ?_ | with_reducible refine lq_ret ?_ | (refine wc_if rfl (fun hb => ?_) (fun hb => ?_) <;> (try simp only [decide_eq_true_eq, decide_eq_false_iff_not, Bool.not_eq_true', Bool.not_eq_false', Int.not_lt, Int.not_le, Decidable.not_not, not_true_eq_false, not_false_eq_true, beq_self_eq_true, reduceCtorEq] at hb) <;> (try (exfalso; omega))))
    · refine rq1 rfl ⟨?_, rfl⟩
      rw [if_neg hb] at hi; rw [hi]
    · refine lq_norm (k + 1) (by omega) (within_lk ⟨rfl, rfl, trivial⟩) ⟨rfl, by omega, ?_⟩
      rw [if_pos hb] at hi; exact hi
  · repeat' (first | with_reducible refine wo_nil ?_ | ((with_reducible refine wo_any ?_); first | ((with_reducible refine ik_move ?_); refine wo_op rfl (op_move rfl) rfl rfl ?_) | ((with_reducible refine ik_assign ?_); refine wo_op rfl (op_assign rfl) rfl rfl ?_) | ((with_reducible refine ik_callb ?_); refine wo_op rfl (op_lenSl rfl Tryz.underlying22) rfl rfl ?_) | ((with_reducible refine ik_bin ?_); refine wo_op rfl (op_lss rfl rfl) rfl rfl ?_)) | with_reducible refine sq_norm ?_ | with_reducible refine wc_seq ?_ | with_reducible refine wc_region ?_ | with_reducible refine wc_ret ?_ | with_reducible refine wc_exit ?_ | with_reducible refine sq_exit ?_ | with_reducible refine lq_exit ?_ | refine bq_eq rfl ?_ | (refine wc_if rfl (fun hb => ?_) (fun hb => ?_) <;> (try simp only [decide_eq_true_eq, decide_eq_false_iff_not, Bool.not_eq_true', Bool.not_eq_false', Int.not_lt, Int.not_le, Decidable.not_not, not_true_eq_false, not_false_eq_true, beq_self_eq_true, reduceCtorEq] at hb) <;> (try (exfalso; omega))))
    refine rq1 rfl ⟨?_, rfl⟩
    rw [List.drop_eq_nil_of_le (by omega)] at hi
    rw [← hi]; rfl
/-! divisors -/
end Go.Proofs.YtccdcekcbbpohaaGreatDoor
