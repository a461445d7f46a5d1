/- The checks of samples, for each word. -/
import Derived.Test.YthnnndkfpamacaaGreatDoorK2
import Derived.Test.YthnnndkfpamacaaGreatDoorS1
import Derived.WalkKit
import Derived.ProofKit
import Derived.Laws.Cover2
import Derived.Laws.Cover3
import Derived.Laws.FloatArith
import Derived.Test.YthnnndkfpamacaaGreatDoorProg
import Derived.Outline
import Derived.BigQuiet
import Derived.Test.YthnnndkfpamacaaGreatDoorW1
set_option linter.all false
/- The samples: what the two checks return, of numbers and infinities. -/
namespace Go.Proofs.YthnnndkfpamacaaGreatDoor
open Go Go.Ab Go.Fl Ieee
attribute [local irreducible] SeqQ BlkQ LpQ RetQ Wc Wo WD WX Op1 Op1q Op1a Cf Cl From
noncomputable def mz0 (G : Base) : Mc := ⟨Tryz.prog, G, ext0⟩
set_option maxRecDepth 10000
variable {G : Base} {h : H}
theorem c155 {w : Nat} {v : Int} (hw : Num double w v) : Cl (mz0 G) (.func (.func 155) #[] #[]) [.float .f64 w] h (.bool false) h := by
 refine bg_ (ar_ 6 [.tmp 2] Tryz.func155 rfl rfl rfl rfl ?_)
 repeat' (first | with_reducible refine am_ ?_ | ((with_reducible refine al_ ?_); first | ((with_reducible refine ak_ ?_); refine ac_ (ag_ rfl) ?_) | ((with_reducible refine ae_ ?_); refine ac_ (ad_ rfl) ?_) | ((with_reducible refine av_ ?_); refine ac_ (op_fneq rfl rfl (hw.feq hw)) ?_)) | (with_reducible first | refine ah_ ?_ | refine ao_ ?_ | refine ab_ ?_ | refine aA_ ?_))
 refine rq1 rfl ⟨?_, rfl⟩
 simp
theorem c155i (s : Bool) : Cl (mz0 G) (.func (.func 155) #[] #[]) [.float .f64 (double.word s double.infRung)] h (.bool false) h := by
 have ho : (double.order (double.word s double.infRung) (double.word s double.infRung) == some .eq) = true := by cases s <;> decide +kernel
 refine bg_ (ar_ 6 [.tmp 2] Tryz.func155 rfl rfl rfl rfl ?_)
 repeat' (first | with_reducible refine am_ ?_ | ((with_reducible refine al_ ?_); first | ((with_reducible refine ak_ ?_); refine ac_ (ag_ rfl) ?_) | ((with_reducible refine ae_ ?_); refine ac_ (ad_ rfl) ?_) | ((with_reducible refine av_ ?_); refine ac_ (op_fneq rfl rfl ho) ?_)) | (with_reducible first | refine ah_ ?_ | refine ao_ ?_ | refine ab_ ?_ | refine aA_ ?_))
 refine rq1 rfl ⟨?_, rfl⟩
 simp
theorem bits_ext {w : Nat} (hw : w < 2 ^ 64) : (pureExt Extern.MathFloatBits.float64bits) [.float .f64 w] h = some (.int .u64 w, h) := by
 unfold pureExt
 have : prun Tryz.prog (Extern.MathFloatBits.float64bits ⟨[.float .f64 w]⟩) = some (.int .u64 w) := rfl
 rw [this]; rfl
theorem frombits_ext (n : Nat) : (pureExt Extern.MathFloatBits.float64frombits) [.int .u64 n] h = some (.float .f64 n, h) := by
 unfold pureExt
 have : prun Tryz.prog (Extern.MathFloatBits.float64frombits ⟨[.int .u64 n]⟩) = some (.float .f64 n) := rfl
 rw [this]; rfl
theorem word_lt (f : Format) (s : Bool) {r : Nat} (hr : r ≤ f.infRung) : f.word s r < 2 * f.signWeight := by
 have := infRung_lt f
 unfold Format.word
 cases s <;> simp only [if_true, Bool.false_eq_true, if_false] <;> omega
theorem nearest_lt (s : Bool) (m : Nat) (e : Int) : double.nearest s m e < 2 ^ 64 := by
 have h2 : 2 * double.signWeight = 2 ^ 64 := rfl
 rw [← h2]
 unfold Format.nearest
 split
 · exact word_lt double s (Nat.zero_le _)
 · exact word_lt double s (Nat.min_le_right _ _)
theorem strike_sign {w : Nat} (hw : w < 2 ^ 64) : IntKind.wrap .u64 ((BitVec.ofInt 64 (w : Int) &&& ~~~BitVec.ofInt 64 9223372036854775808).toNat : Int) = ((w % 2 ^ 63 : Nat) : Int) := by
 have h1 : (~~~BitVec.ofInt 64 9223372036854775808).toNat = 2 ^ 63 - 1 := by decide
 have h2 : (BitVec.ofInt 64 (w : Int)).toNat = w := by
   rw [BitVec.toNat_ofInt]; omega
 rw [BitVec.toNat_and, h1, h2, Nat.and_two_pow_sub_one_eq_mod]
 rw [wu64 (by omega) (by omega)]
theorem op_andNot {M : Mc} {l : KL} {x : Operand} {t ty : TypeId} {w : Nat} (hx : val l x = some (.int .u64 w)) (hw : w < 2 ^ 64) : Op1 M (.binOp .andNot t x (.const (.int .u64 9223372036854775808)) ty) l h (.int .u64 ((w % 2 ^ 63 : Nat) : Int)) h := by
 rw [← strike_sign hw]
 exact cO_ hx rfl rfl rfl rfl rfl
theorem c158 {w : Nat} (hw : w < 2 ^ 64) : Cl (mz0 G) (.func (.func 158) #[] #[]) [.float .f64 w] h (.float .f64 (w % 2 ^ 63)) h := by
 refine bg_ (ar_ 7 [.tmp 2] Tryz.func158 rfl rfl rfl rfl ?_)
 repeat' (first | with_reducible refine am_ ?_ | ((with_reducible refine al_ ?_); first | ((with_reducible refine ak_ ?_); refine ac_ (ag_ rfl) ?_) | ((with_reducible refine ae_ ?_); refine ac_ (ad_ rfl) ?_) | ((with_reducible refine av_ ?_); refine ac_ (op_andNot rfl hw) ?_) | ((with_reducible refine aN_ ?_); first | refine ac_ (aJ_ rfl rfl (cl_ext (x := pureExt Extern.MathFloatBits.float64bits) rfl (bits_ext hw))) ?_ | refine ac_ (aJ_ rfl rfl (cl_ext (x := pureExt Extern.MathFloatBits.float64frombits) rfl (frombits_ext _))) ?_)) | (with_reducible first | refine ah_ ?_ | refine ao_ ?_ | refine ab_ ?_ | refine aA_ ?_))
 exact rq1 rfl ⟨rfl, rfl⟩
def J : Nat := 971
theorem hJ : J = 971 := rfl
def big : Nat := (2 ^ 53 - 1) * 2 ^ J
theorem max_num : Num double 9218868437227405311 ((big * 2 ^ K : Nat) : Int) := by
 have h1 : double.read 9218868437227405311 = .number false (2 ^ 53 - 1) 971 := by decide +kernel
 have := Num.of_read h1 (by omega)
 rw [show (971 + 1074 : Int).toNat = J + K from rfl] at this
 have e : signed false (2 ^ 53 - 1) (J + K) = ((big * 2 ^ K : Nat) : Int) := by
   unfold signed big
   rw [if_neg (by decide), Nat.shiftLeft_eq, Nat.pow_add, ← Nat.mul_assoc]
 rwa [e] at this
theorem c156 {w : Nat} {v : Int} (hw : Num double w v) (hlt : w < 2 ^ 64) (hv : (v.natAbs : Int) ≤ ((big * 2 ^ K : Nat) : Int)) : Cl (mz0 G) (.func (.func 156) #[] #[]) [.float .f64 w, .int .i64 0] h (.bool false) h := by
 have hg := (abs_num hw).fgt max_num
 rw [decide_eq_false (by omega)] at hg
 refine bg_ (ar_ 15 [.tmp 4] Tryz.func156 rfl rfl rfl rfl ?_)
 repeat' (first | with_reducible refine am_ ?_ | ((with_reducible refine al_ ?_); first | ((with_reducible refine ak_ ?_); refine ac_ (ag_ rfl) ?_) | ((with_reducible refine ae_ ?_); refine ac_ (ad_ rfl) ?_) | ((with_reducible refine av_ ?_); first | refine ac_ (op_fgtr rfl rfl hg) ?_ | refine ac_ (cM_ rfl rfl) ?_) | ((with_reducible refine ba_ (f := 158) ?_); refine ac_ (aJ_ rfl rfl (c158 hlt)) ?_)) | (with_reducible first | refine ah_ ?_ | refine ao_ ?_ | refine ab_ ?_ | refine aA_ ?_) | refine bP_ rfl ?_)
 exact rq1 rfl ⟨rfl, rfl⟩
theorem c156i (s : Bool) : Cl (mz0 G) (.func (.func 156) #[] #[]) [.float .f64 (double.word s double.infRung), .int .i64 0] h (.bool true) h := by
 have hg : (double.order (double.word s double.infRung % 2 ^ 63) 9218868437227405311 == some .gt) = true := by cases s <;> decide +kernel
 refine bg_ (ar_ 15 [.tmp 4] Tryz.func156 rfl rfl rfl rfl ?_)
 repeat' (first | with_reducible refine am_ ?_ | ((with_reducible refine al_ ?_); first | ((with_reducible refine ak_ ?_); refine ac_ (ag_ rfl) ?_) | ((with_reducible refine ae_ ?_); refine ac_ (ad_ rfl) ?_) | ((with_reducible refine av_ ?_); first | refine ac_ (op_fgtr rfl rfl hg) ?_ | refine ac_ (cM_ rfl rfl) ?_) | ((with_reducible refine ba_ (f := 158) ?_); refine ac_ (aJ_ rfl rfl (c158 (by cases s <;> decide +kernel))) ?_)) | (with_reducible first | refine ah_ ?_ | refine ao_ ?_ | refine ab_ ?_ | refine aA_ ?_) | refine bP_ rfl ?_)
 exact rq1 rfl ⟨rfl, rfl⟩
section
attribute [local irreducible] FloatKind.decode
theorem to_integral {w : Nat} {s : Bool} {m : Nat} {e : Int} {name : String} {way : Toward} (hw : FloatKind.f64.decode w = .number s m e) : prun Tryz.prog (Extern.MathFloor.toIntegral name way ⟨[.float .f64 w]⟩) = some (.float .f64 (double.write ((double.read w).integral way))) := by
 have hr : double.read w = .number s m e := by rw [← hw]; unfold FloatKind.decode; rfl
 conv => lhs; arg 2; whnf
 rw [hw, hr]; rfl
end
theorem trunc_ext {w : Nat} {s : Bool} {m : Nat} {e : Int} (hw : double.read w = .number s m e) : (pureExt (Extern.MathFloor.toIntegral "math.archTrunc" .zero)) [.float .f64 w] h = some (.float .f64 (double.write ((double.read w).integral .zero)), h) := by
 unfold pureExt
 have : prun Tryz.prog (Extern.MathFloor.toIntegral "math.archTrunc" .zero ⟨[.float .f64 w]⟩) = some (.float .f64 (double.write ((double.read w).integral .zero))) := by
   have hw' : FloatKind.f64.decode w = .number s m e := hw
   exact to_integral (name := "math.archTrunc") (way := .zero) hw'
 rw [this]; rfl
theorem floor_ext {w : Nat} {s : Bool} {m : Nat} {e : Int} (hw : double.read w = .number s m e) : (pureExt (Extern.MathFloor.toIntegral "math.archFloor" .down)) [.float .f64 w] h = some (.float .f64 (double.write ((double.read w).integral .down)), h) := by
 unfold pureExt
 have : prun Tryz.prog (Extern.MathFloor.toIntegral "math.archFloor" .down ⟨[.float .f64 w]⟩) = some (.float .f64 (double.write ((double.read w).integral .down))) := by
   have hw' : FloatKind.f64.decode w = .number s m e := hw
   exact to_integral (name := "math.archFloor") (way := .down) hw'
 rw [this]; rfl
theorem c157 {w : Nat} {v : Int} (hw : Num double w v) : Cl (mz0 G) (.func (.func 157) #[] #[]) [.float .f64 w] h (.float .f64 (double.write ((double.read w).integral .zero))) h := by
 obtain ⟨s, m, e, h1, _, _⟩ := hw.is
 refine bg_ (ar_ 7 [.tmp 2] Tryz.func157 rfl rfl rfl rfl ?_)
 repeat' (first | with_reducible refine am_ ?_ | ((with_reducible refine al_ ?_); first | ((with_reducible refine ak_ ?_); refine ac_ (ag_ rfl) ?_) | ((with_reducible refine ae_ ?_); refine ac_ (ad_ rfl) ?_) | ((with_reducible refine aN_ ?_); refine ac_ (aJ_ rfl rfl (cl_ext (x := pureExt (Extern.MathFloor.toIntegral "math.archTrunc" .zero)) rfl (trunc_ext h1))) ?_)) | (with_reducible first | refine ah_ ?_ | refine ao_ ?_ | refine ab_ ?_ | refine aA_ ?_ | refine bd_ ?_) | refine bP_ rfl ?_)
 exact rq1 rfl ⟨rfl, rfl⟩
theorem c159 {w : Nat} {v : Int} (hw : Num double w v) : Cl (mz0 G) (.func (.func 159) #[] #[]) [.float .f64 w] h (.float .f64 (double.write ((double.read w).integral .down))) h := by
 obtain ⟨s, m, e, h1, _, _⟩ := hw.is
 refine bg_ (ar_ 7 [.tmp 2] Tryz.func159 rfl rfl rfl rfl ?_)
 repeat' (first | with_reducible refine am_ ?_ | ((with_reducible refine al_ ?_); first | ((with_reducible refine ak_ ?_); refine ac_ (ag_ rfl) ?_) | ((with_reducible refine ae_ ?_); refine ac_ (ad_ rfl) ?_) | ((with_reducible refine aN_ ?_); refine ac_ (aJ_ rfl rfl (cl_ext (x := pureExt (Extern.MathFloor.toIntegral "math.archFloor" .down)) rfl (floor_ext h1))) ?_)) | (with_reducible first | refine ah_ ?_ | refine ao_ ?_ | refine ab_ ?_ | refine aA_ ?_ | refine bd_ ?_) | refine bP_ rfl ?_)
 exact rq1 rfl ⟨rfl, rfl⟩
theorem conv_num {P : Program} {b : Nat} {s : Bool} {m : Nat} {e : Int} (hb : single.read b = .number s m e) : prun P (Conv.floatToFloat .f32 b .f64) = some (.float .f64 (double.nearest s m e)) := by
 obtain ⟨b1, b2, b3⟩ := cs_ hb
 obtain ⟨t, n, j, h1, _, _⟩ := (finite_conv (s := s) b1 b2 b3).is
 have h1' : FloatKind.f64.decode (FloatKind.f64.encode (.number s m e)) = .number t n j := h1
 have hb' : FloatKind.f32.decode b = .number s m e := hb
 unfold Conv.floatToFloat
 rw [if_neg (by decide), hb']
 simp only [h1', Datum.isInfinity]
 rfl
theorem conv_inf {P : Program} {b : Nat} {s : Bool} (hb : single.read b = .infinity s) : prun P (Conv.floatToFloat .f32 b .f64) = some (.float .f64 (double.word s double.infRung)) := by
 have hb' : FloatKind.f32.decode b = .infinity s := hb
 unfold Conv.floatToFloat
 rw [if_neg (by decide), hb']
 rfl
theorem small_v {s : Bool} {m : Nat} {e : Int} (hm : m < 2 ^ 24) (h2 : e ≤ 104) (h1 : -149 ≤ e) : ((signed s m (e + 1074).toNat).natAbs : Int) ≤ ((big * 2 ^ K : Nat) : Int) := by
 have e1 : (signed s m (e + 1074).toNat).natAbs = m * 2 ^ (e + 1074).toNat := by
   unfold signed
   rw [Nat.shiftLeft_eq]
   cases s with
   | true => simp only [if_true, Int.natAbs_neg, Int.natAbs_natCast]
   | false => simp only [Bool.false_eq_true, if_false, Int.natAbs_natCast]
 rw [e1]
 refine Int.ofNat_le.2 ?_
 have a1 : 2 ^ (e + 1074).toNat ≤ 2 ^ J * 2 ^ K := by
   rw [← Nat.pow_add]
   exact Nat.pow_le_pow_right (by omega) (by have := hK; have := hJ; omega)
 unfold big
 rw [Nat.mul_assoc]
 exact Nat.mul_le_mul (by omega) a1
attribute [local irreducible] Ieee.Format.order Ieee.Format.read Ieee.Format.nearest Ieee.Format.write Ieee.Format.mul Ieee.Format.div Ieee.Datum.order Ieee.Datum.integral smpE smp K J U
theorem c100 {b : Nat} {s : Bool} {m : Nat} {e : Int} (hb : single.read b = .number s m e) : Cl (mz0 G) (.func (.func 100) #[] #[]) [.float .f32 b] h (.bool true) h := by
 obtain ⟨b1, b2, b3⟩ := cs_ hb
 have hn := finite_conv (s := s) b1 b2 b3
 refine bg_ (ar_ 13 [.tmp 2] Tryz.func100 rfl rfl rfl rfl ?_)
 repeat' (first | with_reducible refine am_ ?_ | ((with_reducible refine al_ ?_); first | ((with_reducible refine ak_ ?_); refine ac_ (ag_ rfl) ?_) | ((with_reducible refine ae_ ?_); refine ac_ (ad_ rfl) ?_) | ((with_reducible refine cm_ ?_); refine ac_ (op_cvff rfl Tryz.underlying23 Tryz.underlying156 (conv_num hb)) ?_) | ((with_reducible refine cj_ ?_); refine ac_ (bv_ rfl) ?_) | ((with_reducible refine aS_ ?_); refine ac_ (aT_ rfl rfl) ?_) | ((with_reducible refine ba_ (f := 155) ?_); refine ac_ (aJ_ rfl rfl (c155 hn)) ?_) | ((with_reducible refine cG_ ?_); first | ((with_reducible refine bB_ ?_); refine aj_ rfl rfl rfl (ag_ rfl) rfl rfl ?_) | ((with_reducible refine ig_convert ?_); refine aj_ rfl rfl rfl (op_cvff rfl Tryz.underlying23 Tryz.underlying156 (conv_num hb)) rfl rfl ?_) | ((with_reducible refine ig_un ?_); refine aj_ rfl rfl rfl (bv_ rfl) rfl rfl ?_) | ((with_reducible refine cr_ (f := 156) ?_); refine aj_ rfl rfl rfl (aJ_ rfl rfl (c156 hn (nearest_lt _ _ _) (small_v b1 b3 b2))) rfl rfl ?_))) | (with_reducible first | refine ah_ ?_ | refine ao_ ?_ | refine ab_ ?_ | refine aA_ ?_))
 exact rq1 rfl ⟨rfl, rfl⟩
theorem c100i {b : Nat} {s : Bool} (hb : single.read b = .infinity s) : Cl (mz0 G) (.func (.func 100) #[] #[]) [.float .f32 b] h (.bool false) h := by
 refine bg_ (ar_ 13 [.tmp 2] Tryz.func100 rfl rfl rfl rfl ?_)
 repeat' (first | with_reducible refine am_ ?_ | ((with_reducible refine al_ ?_); first | ((with_reducible refine ak_ ?_); refine ac_ (ag_ rfl) ?_) | ((with_reducible refine ae_ ?_); refine ac_ (ad_ rfl) ?_) | ((with_reducible refine cm_ ?_); refine ac_ (op_cvff rfl Tryz.underlying23 Tryz.underlying156 (conv_inf hb)) ?_) | ((with_reducible refine cj_ ?_); refine ac_ (bv_ rfl) ?_) | ((with_reducible refine aS_ ?_); refine ac_ (aT_ rfl rfl) ?_) | ((with_reducible refine ba_ (f := 155) ?_); refine ac_ (aJ_ rfl rfl (c155i s)) ?_) | ((with_reducible refine cG_ ?_); first | ((with_reducible refine bB_ ?_); refine aj_ rfl rfl rfl (ag_ rfl) rfl rfl ?_) | ((with_reducible refine ig_convert ?_); refine aj_ rfl rfl rfl (op_cvff rfl Tryz.underlying23 Tryz.underlying156 (conv_inf hb)) rfl rfl ?_) | ((with_reducible refine ig_un ?_); refine aj_ rfl rfl rfl (bv_ rfl) rfl rfl ?_) | ((with_reducible refine cr_ (f := 156) ?_); refine aj_ rfl rfl rfl (aJ_ rfl rfl (c156i s)) rfl rfl ?_))) | (with_reducible first | refine ah_ ?_ | refine ao_ ?_ | refine ab_ ?_ | refine aA_ ?_))
 exact rq1 rfl ⟨rfl, rfl⟩
theorem grained_iff (v : Int) : (16 * v = (16 * v).tdiv U * U) ↔ 16 * v % U = 0 := by
 generalize 16 * v = n
 have hu := U_pos
 generalize U = u at hu
 constructor
 · intro q
   rw [q, Int.mul_emod_left]
 · intro q
   have hd : u ∣ n := Int.dvd_of_emod_eq_zero q
   obtain ⟨c, rfl⟩ := hd
   rw [Int.mul_tdiv_cancel_left _ (by omega), Int.mul_comm]
theorem floored_iff (v : Int) : (16 * v = 16 * v / U * U) ↔ 16 * v % U = 0 := by
 generalize 16 * v = n
 have hu := U_pos
 generalize U = u at hu
 have hd := Int.mul_ediv_add_emod n u
 rw [Int.mul_comm] at hd
 constructor <;> intro q <;> omega
theorem most_num : Num double 4670232813583204352 (16384 * U) := by
 have h1 : double.read 4670232813583204352 = .number false (2 ^ 52) (-38) := by decide +kernel
 have := Num.of_read h1 (by omega)
 rw [cd_, show (-38 + 1074 : Int).toNat = K - 38 by have := hK; omega] at this
 have e : signed false (2 ^ 52) 0 * 2 ^ (K - 38) = 16384 * U := by
   rw [show U = 2 ^ K by unfold U; rfl, show (2 : Int) ^ K = 2 ^ 38 * 2 ^ (K - 38) by rw [← Int.pow_add]; congr 1; have := hK; omega, ← Int.mul_assoc]; rfl
 rwa [e] at this
theorem c101 {b : Nat} {s : Bool} {m : Nat} {e : Int} (hb : single.read b = .number s m e) : Cl (mz0 G) (.func (.func 101) #[] #[]) [.float .f32 b, .float .f64 4670232813583204352] h (.bool (decide (smpE b = 0))) h := by
 obtain ⟨b1, b2, b3⟩ := cs_ hb
 have hn : Num double (double.nearest s m (e + 4)) (16 * signed s m (e + 1074).toNat) := by
   rw [← mul16_signed s m (by omega)]
   exact cF_ s (Nat.lt_of_lt_of_le b1 (by decide)) (by omega) (by omega)
 have ht := trunc_num hn
 have ha := abs_num hn
 have he := hn.feq ht
 have hl := ha.flt most_num
 have hq := ha.feq most_num
 have hs : smpE b = if 16 * signed s m (e + 1074).toNat % U = 0 ∧ -(16384 * U) ≤ 16 * signed s m (e + 1074).toNat ∧ 16 * signed s m (e + 1074).toNat ≤ 16384 * U then 0 else 3 := by
   unfold smpE; rw [hb]
 have hg := grained_iff (signed s m (e + 1074).toNat)
 generalize signed s m (e + 1074).toNat = v at hn ht ha he hl hq hs hg
 by_cases hd : 16 * v % U = 0
 · rw [decide_eq_true (hg.2 hd)] at he
   refine bg_ (ar_ 19 [.tmp 4] Tryz.func101 rfl rfl rfl rfl ?_)
   repeat' (first | with_reducible refine am_ ?_ | ((with_reducible refine al_ ?_); first | ((with_reducible refine ak_ ?_); refine ac_ (ag_ rfl) ?_) | ((with_reducible refine ae_ ?_); refine ac_ (ad_ rfl) ?_) | ((with_reducible refine cm_ ?_); refine ac_ (op_cvff rfl Tryz.underlying23 Tryz.underlying156 (conv_num hb)) ?_) | ((with_reducible refine av_ ?_); first | refine ac_ (op_fmul rfl rfl (double_mul16 s b1 b2 b3)) ?_ | refine ac_ (op_feql rfl rfl he) ?_) | ((with_reducible refine aS_ ?_); refine ac_ (aT_ rfl rfl) ?_) | ((with_reducible refine ba_ (f := 157) ?_); refine ac_ (aJ_ rfl rfl (c157 hn)) ?_) | ((with_reducible refine cG_ ?_); first | ((with_reducible refine bB_ ?_); refine aj_ rfl rfl rfl (ag_ rfl) rfl rfl ?_) | ((with_reducible refine bE_ ?_); refine aj_ rfl rfl rfl (op_fleq rfl rfl hl hq) rfl rfl ?_) | ((with_reducible refine cr_ (f := 158) ?_); refine aj_ rfl rfl rfl (aJ_ rfl rfl (c158 (nearest_lt _ _ _))) rfl rfl ?_))) | (with_reducible first | refine ah_ ?_ | refine ao_ ?_ | refine ab_ ?_ | refine aA_ ?_))
   refine rq1 rfl ⟨?_, rfl⟩
   congr 1
   rw [hs, Bool.eq_iff_iff]
   simp only [Bool.or_eq_true, decide_eq_true_eq]
   have hu := U_pos
   generalize U = u at *
   constructor
   · intro q; rw [if_pos ⟨hd, by omega, by omega⟩]
   · intro q
     split at q
     · omega
     · omega
 · rw [decide_eq_false (fun q => hd (hg.1 q))] at he
   refine bg_ (ar_ 19 [.tmp 4] Tryz.func101 rfl rfl rfl rfl ?_)
   repeat' (first | with_reducible refine am_ ?_ | ((with_reducible refine al_ ?_); first | ((with_reducible refine ak_ ?_); refine ac_ (ag_ rfl) ?_) | ((with_reducible refine ae_ ?_); refine ac_ (ad_ rfl) ?_) | ((with_reducible refine cm_ ?_); refine ac_ (op_cvff rfl Tryz.underlying23 Tryz.underlying156 (conv_num hb)) ?_) | ((with_reducible refine av_ ?_); first | refine ac_ (op_fmul rfl rfl (double_mul16 s b1 b2 b3)) ?_ | refine ac_ (op_feql rfl rfl he) ?_) | ((with_reducible refine aS_ ?_); refine ac_ (aO_ rfl rfl) ?_) | ((with_reducible refine ba_ (f := 157) ?_); refine ac_ (aJ_ rfl rfl (c157 hn)) ?_) | ((with_reducible refine cG_ ?_); refine bC_ rfl rfl rfl rfl rfl rfl ?_)) | (with_reducible first | refine ah_ ?_ | refine ao_ ?_ | refine ab_ ?_ | refine aA_ ?_))
   refine rq1 rfl ⟨?_, rfl⟩
   rw [hs, if_neg (fun q => hd q.1)]
   rfl
theorem c26n {b : Nat} {s : Bool} {m : Nat} {e : Int} (hb : single.read b = .number s m e) : Cl (mz0 G) (.func (.func 26) #[] #[]) [.float .f32 b] h (.int .i64 (smpE b)) h := by
 have hs : smpE b = 0 ∨ smpE b = 3 := by
   unfold smpE; rw [hb]; simp only
   split
   · exact .inl rfl
   · exact .inr rfl
 rcases hs with hs | hs
 · have h1 : Cl (mz0 G) (.func (.func 101) #[] #[]) [.float .f32 b, .float .f64 4670232813583204352] h (.bool true) h := by
     have := c101 (G := G) (h := h) hb; rwa [decide_eq_true hs] at this
   refine bg_ (ar_ 9 [.tmp 2] Tryz.func26 rfl rfl rfl rfl ?_)
   repeat' (first | with_reducible refine am_ ?_ | ((with_reducible refine al_ ?_); first | ((with_reducible refine ak_ ?_); refine ac_ (ag_ rfl) ?_) | ((with_reducible refine ae_ ?_); refine ac_ (ad_ rfl) ?_) | ((with_reducible refine cj_ ?_); refine ac_ (bv_ rfl) ?_) | ((with_reducible refine ba_ (f := 100) ?_); refine ac_ (aJ_ rfl rfl (c100 hb)) ?_) | ((with_reducible refine aN_ ?_); refine ac_ (aJ_ rfl rfl (h1)) ?_)) | (with_reducible first | refine ah_ ?_ | refine ao_ ?_ | refine ab_ ?_ | refine az_ ?_ | refine aA_ ?_) | refine bs_ rfl ?_)
   refine rq1 rfl ⟨?_, rfl⟩
   rw [hs]
 · have h1 : Cl (mz0 G) (.func (.func 101) #[] #[]) [.float .f32 b, .float .f64 4670232813583204352] h (.bool false) h := by
     have := c101 (G := G) (h := h) hb; rwa [decide_eq_false (by omega)] at this
   refine bg_ (ar_ 9 [.tmp 2] Tryz.func26 rfl rfl rfl rfl ?_)
   repeat' (first | with_reducible refine am_ ?_ | ((with_reducible refine al_ ?_); first | ((with_reducible refine ak_ ?_); refine ac_ (ag_ rfl) ?_) | ((with_reducible refine ae_ ?_); refine ac_ (ad_ rfl) ?_) | ((with_reducible refine cj_ ?_); refine ac_ (bv_ rfl) ?_) | ((with_reducible refine ba_ (f := 100) ?_); refine ac_ (aJ_ rfl rfl (c100 hb)) ?_) | ((with_reducible refine aN_ ?_); refine ac_ (aJ_ rfl rfl (h1)) ?_)) | (with_reducible first | refine ah_ ?_ | refine ao_ ?_ | refine ab_ ?_ | refine az_ ?_ | refine aA_ ?_ | refine bd_ ?_) | refine bP_ rfl ?_ | refine bs_ rfl ?_)
   refine rq1 rfl ⟨?_, rfl⟩
   rw [hs]
theorem c26i {b : Nat} {s : Bool} (hb : single.read b = .infinity s) : Cl (mz0 G) (.func (.func 26) #[] #[]) [.float .f32 b] h (.int .i64 (smpE b)) h := by
 refine bg_ (ar_ 9 [.tmp 2] Tryz.func26 rfl rfl rfl rfl ?_)
 repeat' (first | with_reducible refine am_ ?_ | ((with_reducible refine al_ ?_); first | ((with_reducible refine ak_ ?_); refine ac_ (ag_ rfl) ?_) | ((with_reducible refine ae_ ?_); refine ac_ (ad_ rfl) ?_) | ((with_reducible refine cj_ ?_); refine ac_ (bv_ rfl) ?_) | ((with_reducible refine ba_ (f := 100) ?_); refine ac_ (aJ_ rfl rfl (c100i hb)) ?_)) | (with_reducible first | refine ah_ ?_ | refine ao_ ?_ | refine ab_ ?_ | refine aA_ ?_ | refine bd_ ?_) | refine bP_ rfl ?_)
 refine rq1 rfl ⟨?_, rfl⟩
 unfold smpE; rw [hb]
theorem k_num : Num double 4652218415073722368 (1024 * U) := by
 have h1 : double.read 4652218415073722368 = .number false (2 ^ 52) (-42) := by decide +kernel
 have := Num.of_read h1 (by omega)
 rw [cd_, show (-42 + 1074 : Int).toNat = K - 42 by have := hK; omega] at this
 have e : signed false (2 ^ 52) 0 * 2 ^ (K - 42) = 1024 * U := by
   rw [show U = 2 ^ K by unfold U; rfl, show (2 : Int) ^ K = 2 ^ 42 * 2 ^ (K - 42) by rw [← Int.pow_add]; congr 1; have := hK; omega, ← Int.mul_assoc]; rfl
 rwa [e] at this
theorem km_num : Num double 13875590451928498176 (-(1024 * U)) := by
 have h1 : double.read 13875590451928498176 = .number true (2 ^ 52) (-42) := by decide +kernel
 have := Num.of_read h1 (by omega)
 rw [cd_, show (-42 + 1074 : Int).toNat = K - 42 by have := hK; omega] at this
 have e : signed true (2 ^ 52) 0 * 2 ^ (K - 42) = -(1024 * U) := by
   rw [show U = 2 ^ K by unfold U; rfl, show (2 : Int) ^ K = 2 ^ 42 * 2 ^ (K - 42) by rw [← Int.pow_add]; congr 1; have := hK; omega, ← Int.mul_assoc, ← Int.neg_mul]; rfl
 rwa [e] at this
theorem near_k : FloatKind.nearest .f64 1024 = 4652218415073722368 := by decide +kernel
theorem near_km : FloatKind.nearest .f64 (-1024) = 13875590451928498176 := by decide +kernel
theorem c93z (b : Bool) (v : Int) : Cl (mz0 G) (.func (.func 93) #[] #[]) [.bool b, .int .i64 v] h (.int .i64 (if b then v else 0)) h := by
 refine bg_ (ar_ 7 [.tmp 4] Tryz.func93 rfl rfl rfl rfl ?_)
 repeat' (first | with_reducible refine am_ ?_ | ((with_reducible refine al_ ?_); first | ((with_reducible refine ak_ ?_); refine ac_ (ag_ rfl) ?_) | ((with_reducible refine ae_ ?_); refine ac_ (ad_ rfl) ?_)) | (with_reducible first | refine ah_ ?_ | refine ao_ ?_ | refine ab_ ?_ | refine az_ ?_ | refine aA_ ?_ | refine bd_ ?_) | (refine aK_ rfl (fun hb => ?_) (fun hb => ?_) <;> (try simp only [bj_, reduceCtorEq] at hb) <;> (try (exfalso; omega))))
 all_goals refine rq1 rfl ⟨?_, rfl⟩
 all_goals simp [hb]
theorem c27n {b : Nat} {s : Bool} {m : Nat} {e : Int} (hb : single.read b = .number s m e) : Cl (mz0 G) (.func (.func 102) #[] #[]) [.float .f32 b, .int .i64 1024] h (.int .i64 (smpE b)) h := by
 obtain ⟨b1, b2, b3⟩ := cs_ hb
 have hy := finite_conv (s := s) b1 b2 b3
 have hn : Num double (double.nearest s m (e + 4)) (16 * signed s m (e + 1074).toNat) := by
   rw [← mul16_signed s m (by omega)]
   exact cF_ s (Nat.lt_of_lt_of_le b1 (by decide)) (by omega) (by omega)
 have hl := floor_num hn
 have hA := hy.fgt k_num
 have hB := hy.flt km_num
 have hC := hn.feq hl
 have hs : smpE b = if 16 * signed s m (e + 1074).toNat % U = 0 ∧ -(16384 * U) ≤ 16 * signed s m (e + 1074).toNat ∧ 16 * signed s m (e + 1074).toNat ≤ 16384 * U then 0 else 3 := by
   unfold smpE; rw [hb]
 have hg := floored_iff (signed s m (e + 1074).toNat)
 have hsm := small_v (s := s) b1 b3 b2
 generalize signed s m (e + 1074).toNat = v at hy hn hl hA hB hC hs hg hsm
 have hu := U_pos
 have fin : ∀ r : Bool, (r = true ↔ ¬(16 * v % U = 0 ∧ -(16384 * U) ≤ 16 * v ∧ 16 * v ≤ 16384 * U)) → (if r = true then (3 : Int) else 0) = smpE b := by
   intro r hr
   rw [hs]
   by_cases q : 16 * v % U = 0 ∧ -(16384 * U) ≤ 16 * v ∧ 16 * v ≤ 16384 * U
   · rw [if_pos q, if_neg (fun z => (hr.1 z) q)]
   · rw [if_neg q, if_pos (hr.2 q)]
 by_cases g1 : 1024 * U < v
 · rw [decide_eq_true g1] at hA
   refine bg_ (ar_ 34 [.tmp 4] Tryz.func102 rfl rfl rfl rfl ?_)
   repeat' (first | with_reducible refine am_ ?_ | ((with_reducible refine al_ ?_); first | ((with_reducible refine ak_ ?_); refine ac_ (ag_ rfl) ?_) | ((with_reducible refine ae_ ?_); refine ac_ (ad_ rfl) ?_) | ((with_reducible refine cm_ ?_); first | refine ac_ (op_cvff rfl Tryz.underlying23 Tryz.underlying156 (conv_num hb)) ?_ | refine ac_ (op_cvif rfl Tryz.underlying3 Tryz.underlying156 near_k) ?_) | ((with_reducible refine av_ ?_); refine ac_ (op_fgtr rfl rfl hA) ?_) | ((with_reducible refine aS_ ?_); first | refine ac_ (aT_ rfl rfl) ?_ | refine ac_ (aO_ rfl rfl) ?_) | ((with_reducible refine ba_ (f := 155) ?_); refine ac_ (aJ_ rfl rfl (c155 hy)) ?_) | ((with_reducible refine ba_ (f := 93) ?_); refine ac_ (aJ_ rfl rfl (c93z _ _)) ?_) | ((with_reducible refine cG_ ?_); first | refine bC_ rfl rfl rfl rfl rfl rfl ?_ | ((with_reducible refine bB_ ?_); refine aj_ rfl rfl rfl (ag_ rfl) rfl rfl ?_) | ((with_reducible refine cr_ (f := 156) ?_); refine aj_ rfl rfl rfl (aJ_ rfl rfl (c156 hy (nearest_lt _ _ _) hsm)) rfl rfl ?_))) | (with_reducible first | refine ah_ ?_ | refine ao_ ?_ | refine ab_ ?_ | refine az_ ?_ | refine aA_ ?_) | refine bs_ rfl ?_)
   refine rq1 rfl ⟨?_, rfl⟩
   rw [fin true (by constructor <;> intro q <;> first | omega | rfl)]
 · rw [decide_eq_false g1] at hA
   by_cases g2 : v < -(1024 * U)
   · rw [decide_eq_true g2] at hB
     refine bg_ (ar_ 34 [.tmp 4] Tryz.func102 rfl rfl rfl rfl ?_)
     repeat' (first | with_reducible refine am_ ?_ | ((with_reducible refine al_ ?_); first | ((with_reducible refine ak_ ?_); refine ac_ (ag_ rfl) ?_) | ((with_reducible refine ae_ ?_); refine ac_ (ad_ rfl) ?_) | ((with_reducible refine cm_ ?_); first | refine ac_ (op_cvff rfl Tryz.underlying23 Tryz.underlying156 (conv_num hb)) ?_ | refine ac_ (op_cvif rfl Tryz.underlying3 Tryz.underlying156 near_k) ?_) | ((with_reducible refine av_ ?_); refine ac_ (op_fgtr rfl rfl hA) ?_) | ((with_reducible refine aS_ ?_); first | refine ac_ (aT_ rfl rfl) ?_ | refine ac_ (aO_ rfl rfl) ?_) | ((with_reducible refine ba_ (f := 155) ?_); refine ac_ (aJ_ rfl rfl (c155 hy)) ?_) | ((with_reducible refine ba_ (f := 93) ?_); refine ac_ (aJ_ rfl rfl (c93z _ _)) ?_) | ((with_reducible refine cG_ ?_); first | refine bC_ rfl rfl rfl rfl rfl rfl ?_ | ((with_reducible refine bB_ ?_); refine aj_ rfl rfl rfl (ag_ rfl) rfl rfl ?_) | ((with_reducible refine ig_convert ?_); refine aj_ rfl rfl rfl (op_cvif rfl Tryz.underlying3 Tryz.underlying156 near_km) rfl rfl ?_) | ((with_reducible refine bE_ ?_); first | refine aj_ rfl rfl rfl (op_flss rfl rfl hB) rfl rfl ?_ | refine aj_ rfl rfl rfl (op_sub' rfl rfl (w64 (by omega) (by omega))) rfl rfl ?_) | ((with_reducible refine cr_ (f := 156) ?_); refine aj_ rfl rfl rfl (aJ_ rfl rfl (c156 hy (nearest_lt _ _ _) hsm)) rfl rfl ?_))) | (with_reducible first | refine ah_ ?_ | refine ao_ ?_ | refine ab_ ?_ | refine az_ ?_ | refine aA_ ?_) | refine bs_ rfl ?_)
     refine rq1 rfl ⟨?_, rfl⟩
     rw [fin true (by constructor <;> intro q <;> first | omega | rfl)]
   · rw [decide_eq_false g2] at hB
     refine bg_ (ar_ 34 [.tmp 4] Tryz.func102 rfl rfl rfl rfl ?_)
     repeat' (first | with_reducible refine am_ ?_ | ((with_reducible refine al_ ?_); first | ((with_reducible refine ak_ ?_); refine ac_ (ag_ rfl) ?_) | ((with_reducible refine ae_ ?_); refine ac_ (ad_ rfl) ?_) | ((with_reducible refine cm_ ?_); first | refine ac_ (op_cvff rfl Tryz.underlying23 Tryz.underlying156 (conv_num hb)) ?_ | refine ac_ (op_cvif rfl Tryz.underlying3 Tryz.underlying156 near_k) ?_) | ((with_reducible refine av_ ?_); refine ac_ (op_fgtr rfl rfl hA) ?_) | ((with_reducible refine aS_ ?_); refine ac_ (aO_ rfl rfl) ?_) | ((with_reducible refine ba_ (f := 155) ?_); refine ac_ (aJ_ rfl rfl (c155 hy)) ?_) | ((with_reducible refine ba_ (f := 93) ?_); refine ac_ (aJ_ rfl rfl (c93z _ _)) ?_) | ((with_reducible refine cG_ ?_); first | ((with_reducible refine bB_ ?_); refine aj_ rfl rfl rfl (ag_ rfl) rfl rfl ?_) | ((with_reducible refine ig_convert ?_); refine aj_ rfl rfl rfl (op_cvif rfl Tryz.underlying3 Tryz.underlying156 near_km) rfl rfl ?_) | ((with_reducible refine bE_ ?_); first | refine aj_ rfl rfl rfl (op_fmul rfl rfl (double_mul16 s b1 b2 b3)) rfl rfl ?_ | refine aj_ rfl rfl rfl (op_flss rfl rfl hB) rfl rfl ?_ | refine aj_ rfl rfl rfl (op_fneq rfl rfl hC) rfl rfl ?_ | refine aj_ rfl rfl rfl (op_sub' rfl rfl (w64 (by omega) (by omega))) rfl rfl ?_) | ((with_reducible refine cr_ (f := 156) ?_); refine aj_ rfl rfl rfl (aJ_ rfl rfl (c156 hy (nearest_lt _ _ _) hsm)) rfl rfl ?_) | ((with_reducible refine cr_ (f := 159) ?_); refine aj_ rfl rfl rfl (aJ_ rfl rfl (c159 hn)) rfl rfl ?_))) | (with_reducible first | refine ah_ ?_ | refine ao_ ?_ | refine ab_ ?_ | refine az_ ?_ | refine aA_ ?_) | refine bs_ rfl ?_)
     refine rq1 rfl ⟨?_, rfl⟩
     rw [fin _ ?_]
     rw [Bool.not_eq_true', decide_eq_false_iff_not, hg]
     constructor
     · intro q z; exact q z.1
     · intro q z; exact q ⟨z, by omega, by omega⟩
theorem c27i {b : Nat} {s : Bool} (hb : single.read b = .infinity s) : Cl (mz0 G) (.func (.func 102) #[] #[]) [.float .f32 b, .int .i64 1024] h (.int .i64 (smpE b)) h := by
 refine bg_ (ar_ 34 [.tmp 4] Tryz.func102 rfl rfl rfl rfl ?_)
 repeat' (first | with_reducible refine am_ ?_ | ((with_reducible refine al_ ?_); first | ((with_reducible refine ak_ ?_); refine ac_ (ag_ rfl) ?_) | ((with_reducible refine ae_ ?_); refine ac_ (ad_ rfl) ?_) | ((with_reducible refine cm_ ?_); refine ac_ (op_cvff rfl Tryz.underlying23 Tryz.underlying156 (conv_inf hb)) ?_) | ((with_reducible refine aS_ ?_); refine ac_ (aO_ rfl rfl) ?_) | ((with_reducible refine ba_ (f := 155) ?_); refine ac_ (aJ_ rfl rfl (c155i s)) ?_) | ((with_reducible refine cG_ ?_); first | ((with_reducible refine bB_ ?_); refine aj_ rfl rfl rfl (ag_ rfl) rfl rfl ?_) | ((with_reducible refine cr_ (f := 156) ?_); refine aj_ rfl rfl rfl (aJ_ rfl rfl (c156i s)) rfl rfl ?_))) | (with_reducible first | refine ah_ ?_ | refine ao_ ?_ | refine ab_ ?_ | refine aA_ ?_ | refine bd_ ?_) | refine bP_ rfl ?_)
 refine rq1 rfl ⟨?_, rfl⟩
 unfold smpE; rw [hb]
theorem c27 {b : Nat} (hc : Cl (mz0 G) (.func (.func 102) #[] #[]) [.float .f32 b, .int .i64 1024] h (.int .i64 (smpE b)) h) : Cl (mz0 G) (.func (.func 27) #[] #[]) [.float .f32 b] h (.int .i64 (smpE b)) h := by
 refine bg_ (ar_ 5 [.tmp 2] Tryz.func27 rfl rfl rfl rfl ?_)
 repeat' (first | with_reducible refine am_ ?_ | ((with_reducible refine al_ ?_); first | ((with_reducible refine ak_ ?_); refine ac_ (ag_ rfl) ?_) | ((with_reducible refine ae_ ?_); refine ac_ (ad_ rfl) ?_) | ((with_reducible refine aN_ ?_); refine ac_ (aJ_ rfl rfl (hc)) ?_)) | (with_reducible first | refine ah_ ?_ | refine ao_ ?_ | refine ab_ ?_ | refine aA_ ?_))
 exact rq1 rfl ⟨rfl, rfl⟩
end Go.Proofs.YthnnndkfpamacaaGreatDoor
namespace Go.Proofs.YthnnndkfpamacaaGreatDoor
open Go
open Go.Ab Go.Fl Go.RowKit Ieee
theorem nan154 (x : Nat) (W : World) (hx : FloatKind.f64.format.order x x = none) : Calls Tryz.prog 155 #[.float .f64 x] W fun e W' => e = .returned (.bool true) ∧ W' = W := by
 go_enter Tryz.func155, Tryz.ntmps154
 go_wp2
 go_ret
 exact ⟨rfl, rfl⟩
theorem conv_nan (b : Nat) (W : World) (s : Bool) (t : Nat) (hb : FloatKind.f32.decode b = .nan s t) : ∃ x, FloatKind.f64.format.order x x = none ∧ (convert 23 156 (.float .f32 b)).run Tryz.prog W = .ok (.float .f64 x) W.drew := by
 refine ⟨(Question.nanConv .f64 b).cut (W.tape W.drawn (.nanConv .f64 b)), ?_, ?_⟩
 · generalize W.tape W.drawn (.nanConv .f64 b) = n
   show Ieee.double.order ((n % 2) * 2 ^ 63 + 0x7ff0000000000000 + 1 + (n / 2) % (2 ^ 52 - 1)) ((n % 2) * 2 ^ 63 + 0x7ff0000000000000 + 1 + (n / 2) % (2 ^ 52 - 1)) = none
   generalize hr : (n / 2) % (2 ^ 52 - 1) = r
   have hr : r < 2 ^ 52 - 1 := by rw [← hr]; exact Nat.mod_lt _ (by decide)
   generalize n % 2 = k
   have h1 : ∃ s f, Ieee.double.read (k * 2 ^ 63 + 0x7ff0000000000000 + 1 + r) = .nan s f := by
     unfold Ieee.Format.read
     have hs : Ieee.double.signWeight = 2 ^ 63 := rfl
     have hb : Ieee.double.binade = 2 ^ 52 := rfl
     have hi : Ieee.double.infRung = 2047 * 2 ^ 52 := rfl
     simp only [hs, hb, hi]
     rw [if_neg (by omega), if_neg (by omega), if_neg (by omega)]
     exact ⟨_, _, rfl⟩
   obtain ⟨s, f, h1⟩ := h1
   unfold Ieee.Format.order
   rw [h1]; rfl
 · simp [convert, run_underlying Tryz.underlying23, run_underlying Tryz.underlying156, Conv.floatToFloat, hb, Question.forced]
set_option maxRecDepth 100000 in
theorem nan100 (b : Nat) (W : World) (s : Bool) (t : Nat) (hb : FloatKind.f32.decode b = .nan s t) : Calls Tryz.prog 100 #[.float .f32 b] W fun e W' => e = .returned (.bool false) ∧ W' = W.drew := by
 obtain ⟨x, hx, hr⟩ := conv_nan b W s t hb
 clear hb
 go_enter Tryz.func100, Tryz.ntmps100
 go_wp2_with (go_at_call 155; refine (nan154 x _ hx).mono ?_; rintro e w' ⟨rfl, rfl⟩)
 go_ret
 exact ⟨rfl, rfl⟩
set_option maxRecDepth 100000 in
theorem nan26 (b : Nat) (W : World) (s : Bool) (t : Nat) (hb : FloatKind.f32.decode b = .nan s t) : Calls Tryz.prog 26 #[.float .f32 b] W fun e W' => e = .returned (.int .i64 1) ∧ W' = W.drew := by
 go_enter Tryz.func26, Tryz.ntmps26
 go_wp2_with (go_at_call 100; refine (nan100 b _ s t hb).mono ?_; rintro e w' ⟨rfl, rfl⟩)
 go_ret
 exact ⟨rfl, rfl⟩
set_option maxRecDepth 100000 in
theorem nan102 (b : Nat) (W : World) (s : Bool) (t : Nat) (hb : FloatKind.f32.decode b = .nan s t) : Calls Tryz.prog 102 #[.float .f32 b, .int .i64 1024] W fun e W' => e = .returned (.int .i64 1) ∧ W' = W.drew := by
 obtain ⟨x, hx, hr⟩ := conv_nan b W s t hb
 clear hb
 go_enter Tryz.func102, Tryz.ntmps102
 go_wp2_with (go_at_call 155; refine (nan154 x _ hx).mono ?_; rintro e w' ⟨rfl, rfl⟩)
 go_ret
 exact ⟨rfl, rfl⟩
set_option maxRecDepth 100000 in
theorem nan27 (b : Nat) (W : World) (s : Bool) (t : Nat) (hb : FloatKind.f32.decode b = .nan s t) : Calls Tryz.prog 27 #[.float .f32 b] W fun e W' => e = .returned (.int .i64 1) ∧ W' = W.drew := by
 go_enter Tryz.func27, Tryz.ntmps27
 go_wp2_with (go_at_call 102; refine (nan102 b _ s t hb).mono ?_; rintro e w' ⟨rfl, rfl⟩)
 go_ret
 exact ⟨rfl, rfl⟩
theorem below_drew (W : World) : RowKit.Below W.heap.size W W.drew := ⟨rfl, rfl, rfl, Nat.le_refl _, fun _ _ => rfl⟩
theorem endsOfCalls {B : Nat} {G : Base} {ρ : Ctx} {h : H} {w : World} {f : FuncId} {fn : Func} {c0 : Code} {xs : Array Value} {v : Value} (R : Rep B G ρ h w) (hf : Tryz.prog.funcs[f]? = some fn) (hb : fn.body = some c0) (hv : gd v = true)
   (hc : Calls Tryz.prog f xs w fun e w' => e = .returned v ∧ Below w.heap.size w w') (c : Frame) (cs : List Frame) : Ab.Ends Tryz.prog B G ρ h w c cs (callFunc f xs) v h := by
 obtain ⟨e, w', fr, ⟨rfl, hb'⟩, hs, hf', hl⟩ := hc (c :: cs)
 have hs' : Steps Tryz.prog (lone (Frame.enter Tryz.prog f xs .normal) (c :: cs) w) (lone fr (c :: cs) w') := hs
 exact ⟨v, w', ρ, .gd_refl hv, R.elsewhere (fun r hr _ => hb'.block r hr) hb'.size,
   ⟨fun _ _ => rfl, Nat.le_refl _, hb'.size, hb'.os, hb'.tape, hb'.output, fun r hr _ => hb'.block r hr, fun _ _ l => l, fun _ _ g => g⟩,
   .enter f xs, w, callFunc_run no_count hf hb xs w, hs'.trans (.one (step_leave_returned hl))⟩
theorem call_eq (f : FuncId) (xs : List Value) : (do let d ← Deferred.ofValue (.func (.func f) #[] #[]) ⟨xs⟩; invoke d.target d.args) = callFunc f xs.toArray := by
 simp [Deferred.ofValue, invoke]
theorem endsOfCl {B : Nat} {G : Base} {ρ : Ctx} {h h' : H} {w : World} {f : FuncId} {xs xs' : List Value} {v : Value} (R : Rep B G ρ h w) (A : LRel ρ xs xs') (hc : Cl (mz0 G) (.func (.func f) #[] #[]) xs h v h') (c : Frame) (cs : List Frame) : Ab.Ends Tryz.prog B G ρ h w c cs (callFunc f xs'.toArray) v h' := by
 obtain ⟨n, hn⟩ := hc
 have := door_sound (B := B) (G := G) n _ _ _ _ _ (hn n (Nat.le_refl _)) ρ w (.func (.func f) #[] #[]) xs' R (.gd_refl rfl) A c cs
 exact this.of_eq (call_eq f xs')
theorem awake_ends {B : Nat} {G : Base} (hG : ∀ a v, laidBase a = some v → G a = some v) {ρ : Ctx} {h : H} {w : World} (R : Rep B G ρ h w) (c : Frame) (cs : List Frame) : Ab.Ends Tryz.prog B G ρ h w c cs (callFunc 16 #[]) (.bool true) h := by
 have hB : BaseOk w.heap.size laidBase w := ⟨fun a v e => by
   obtain ⟨q1, q2, q3⟩ := R.base.cell a v (hG a v e)
   exact ⟨q1, Nat.lt_of_lt_of_le q2 R.base.size, q3⟩, Nat.le_refl _⟩
 exact endsOfCalls R Tryz.func16 (show Tryz.f16.body = some aw_c by rfl) rfl (awake_calls hB) c cs
noncomputable def smpX (xs : List Value) (h : H) : Option (Value × H) := match xs with
 | [.float .f32 b] => some (.int .i64 (smpE b), h)
 | _ => none
noncomputable def extz : Ext := fun f => match f with
 | 16 => some fun xs h => match xs with | [] => some (.bool true, h) | _ => none
 | 26 => some smpX
 | 27 => some smpX
 | f => ext0 f
theorem smp_nan {b : Nat} {s : Bool} {t : Nat} (hb : single.read b = .nan s t) : smpE b = 1 := by
 unfold smpE; rw [hb]
theorem extz_sound {B : Nat} {G : Base} (hG : ∀ a v, laidBase a = some v → G a = some v) : ExtSound Tryz.prog B G extz := by
 intro f x hx args h v h' hv ρ w args' R A c cs
 have hsmp : ∀ {f : FuncId} {fn : Func} {c0 : Code}, Tryz.prog.funcs[f]? = some fn → fn.body = some c0 → (∀ b W s t, FloatKind.f32.decode b = .nan s t → Calls Tryz.prog f #[.float .f32 b] W fun e W' => e = .returned (.int .i64 1) ∧ W' = W.drew) →
     (∀ b h, (∀ s t, single.read b ≠ .nan s t) → Cl (mz0 G) (.func (.func f) #[] #[]) [.float .f32 b] h (.int .i64 (smpE b)) h) → smpX args h = some (v, h') → Ab.Ends Tryz.prog B G ρ h w c cs (callFunc f args'.toArray) v h' := by
   intro f fn c0 hf hb h1 h2 hv
   unfold smpX at hv
   split at hv
   · rename_i b _
     cases hv
     match args', A with
     | [x'], A =>
       have hx' : x' = .float .f32 b := (A.2 0 _ _ rfl rfl).gd_eq rfl
       subst hx'
       cases hd : single.read b with
       | nan s t =>
         rw [smp_nan hd]
         exact endsOfCalls R hf hb rfl ((h1 b w s t hd).mono fun e W' ⟨q1, q2⟩ => ⟨q1, by rw [q2]; exact below_drew w⟩) c cs
       | number s m e => exact endsOfCl R A (h2 b h (by rw [hd]; intro s t q; cases q)) c cs
       | infinity s => exact endsOfCl R A (h2 b h (by rw [hd]; intro s t q; cases q)) c cs
     | [], A => exact absurd A.1 (by simp)
     | _ :: _ :: _, A => exact absurd A.1 (by simp)
   · cases hv
 unfold extz at hx
 split at hx
 · cases hx
   match args, args', A with
   | [], [], _ =>
     simp only [Option.some.injEq, Prod.mk.injEq] at hv
     obtain ⟨rfl, rfl⟩ := hv
     exact awake_ends hG R c cs
   | [], _ :: _, A => exact absurd A.1 (by simp)
   | _ :: _, _, _ => simp at hv
 · cases hx
   exact hsmp Tryz.func26 (show Tryz.f26.body = some (Tryz.f26.body.getD .skip) by rfl) nan26 (fun b h hn => by
     cases hd : single.read b with
     | nan s t => exact absurd hd (hn s t)
     | number s m e => exact c26n hd
     | infinity s => exact c26i hd) hv
 · cases hx
   exact hsmp Tryz.func27 (show Tryz.f27.body = some (Tryz.f27.body.getD .skip) by rfl) nan27 (fun b h hn => by
     cases hd : single.read b with
     | nan s t => exact absurd hd (hn s t)
     | number s m e => exact c27 (c27n hd)
     | infinity s => exact c27 (c27i hd)) hv
 · exact ext_sound f x hx args h v h' hv ρ w args' R A c cs
end Go.Proofs.YthnnndkfpamacaaGreatDoor
/- Basics: ranges, first errors, divisors, ratios. -/
namespace Go.Proofs.YthnnndkfpamacaaGreatDoor
open Go Go.Ab Go.Fl
attribute [local irreducible] SeqQ BlkQ LpQ RetQ Wc Wo WD WX Op1 Op1q Op1a Cf Cl From
attribute [local irreducible] Ieee.Format.order Ieee.Format.read Ieee.Format.nearest Ieee.Format.write Ieee.Format.mul Ieee.Format.div Ieee.Datum.order Ieee.Datum.integral smpE smp K J U
set_option maxRecDepth 10000
noncomputable def mz (G : Base) : Mc := ⟨Tryz.prog, G, extz⟩
variable {G : Base} {h : H}
theorem eg33 : Tryz.prog.eqGuardType Tryz.prog.depth 33 = false := by kernel_rfl
theorem eqv33 (a b c d : Int) : eqV Tryz.prog 3 33 [.int .i64 a, .int .i64 b] [.int .i64 c, .int .i64 d] = some (decide (a = c) && (decide (b = d) && true)) := by kernel_rfl
theorem eg44 : Tryz.prog.eqGuardType Tryz.prog.depth 44 = false := by kernel_rfl
theorem eqv44 (a0 a1 a2 a3 a4 a5 a6 a7 b0 b1 b2 b3 b4 b5 b6 b7 : Int) : eqV Tryz.prog 3 44 [.int .i64 a0, .int .i64 a1, .int .i64 a2, .int .i64 a3, .int .i64 a4, .int .i64 a5, .int .i64 a6, .int .i64 a7] [.int .i64 b0, .int .i64 b1, .int .i64 b2, .int .i64 b3, .int .i64 b4, .int .i64 b5, .int .i64 b6, .int .i64 b7] =
   some (decide (a0 = b0) && (decide (a1 = b1) && (decide (a2 = b2) && (decide (a3 = b3) && (decide (a4 = b4) && (decide (a5 = b5) && (decide (a6 = b6) && (decide (a7 = b7) && true)))))))) := by kernel_rfl
theorem c16 : Cl (mz G) (.func (.func 16) #[] #[]) [] h (.bool true) h := cl_ext (x := fun xs h => match xs with | [] => some (.bool true, h) | _ => none) rfl rfl
theorem c26 (b : Nat) : Cl (mz G) (.func (.func 26) #[] #[]) [.float .f32 b] h (.int .i64 (smpE b)) h := cl_ext (x := smpX) rfl rfl
theorem c27s (b : Nat) : Cl (mz G) (.func (.func 27) #[] #[]) [.float .f32 b] h (.int .i64 (smpE b)) h := cl_ext (x := smpX) rfl rfl
theorem c93 (b : Bool) (v : Int) : Cl (mz G) (.func (.func 93) #[] #[]) [.bool b, .int .i64 v] h (.int .i64 (if b then v else 0)) h := by
 refine bg_ (ar_ 7 [.tmp 4] Tryz.func93 rfl rfl rfl rfl ?_)
 repeat' (first | with_reducible refine am_ ?_ | ((with_reducible refine al_ ?_); first | ((with_reducible refine ak_ ?_); refine ac_ (ag_ rfl) ?_) | ((with_reducible refine ae_ ?_); refine ac_ (ad_ rfl) ?_)) | (with_reducible first | refine ah_ ?_ | refine ao_ ?_ | refine ab_ ?_ | refine az_ ?_ | refine aA_ ?_ | refine bd_ ?_) | (refine aK_ rfl (fun hb => ?_) (fun hb => ?_) <;> (try simp only [bj_, reduceCtorEq] at hb) <;> (try (exfalso; omega))))
 all_goals refine rq1 rfl ⟨?_, rfl⟩
 all_goals simp [hb]
def rngE (x lo hi : Int) : Int := if x < lo ∨ hi < x then 3 else 0
theorem c91 (x lo hi : Int) : Cl (mz G) (.func (.func 91) #[] #[]) [.int .i64 x, .int .i64 lo, .int .i64 hi] h (.int .i64 (rngE x lo hi)) h := by
 refine bg_ (ar_ 15 [.tmp 6] Tryz.func91 rfl rfl rfl rfl ?_)
 repeat' (first | with_reducible refine am_ ?_ | ((with_reducible refine al_ ?_); first | ((with_reducible refine ak_ ?_); refine ac_ (ag_ rfl) ?_) | ((with_reducible refine ae_ ?_); refine ac_ (ad_ rfl) ?_) | ((with_reducible refine av_ ?_); refine ac_ (aF_ rfl rfl) ?_) | ((with_reducible refine aS_ ?_); first | refine ac_ (aT_ rfl rfl) ?_ | refine ac_ (aO_ rfl rfl) ?_) | ((with_reducible refine cG_ ?_); first | refine bC_ rfl rfl rfl rfl rfl rfl ?_ | ((with_reducible refine bB_ ?_); refine aj_ rfl rfl rfl (ag_ rfl) rfl rfl ?_) | ((with_reducible refine bE_ ?_); refine aj_ rfl rfl rfl (bZ_ rfl rfl) rfl rfl ?_) | (refine bb_ rfl rfl rfl (fun hb => ?_) (fun hb => ?_) <;> (try simp only [bj_, reduceCtorEq] at hb) <;> (try (exfalso; omega))))) | (with_reducible first | refine ah_ ?_ | refine ao_ ?_ | refine ab_ ?_ | refine az_ ?_ | refine aA_ ?_ | refine bd_ ?_) | refine bP_ rfl ?_ | (refine aK_ rfl (fun hb => ?_) (fun hb => ?_) <;> (try simp only [bj_, reduceCtorEq] at hb) <;> (try (exfalso; omega))))
 all_goals refine rq1 rfl ⟨?_, rfl⟩
 all_goals (unfold rngE; congr 1; first | rw [if_pos (by omega)] | rw [if_neg (by omega)])
theorem c19 (x lo hi : Int) : Cl (mz G) (.func (.func 19) #[] #[]) [.int .i64 x, .int .i64 lo, .int .i64 hi] h (.int .i64 (rngE x lo hi)) h := by
 refine bg_ (ar_ 16 [.tmp 6] Tryz.func19 rfl rfl rfl rfl ?_)
 repeat' (first | with_reducible refine am_ ?_ | ((with_reducible refine al_ ?_); first | ((with_reducible refine ak_ ?_); refine ac_ (ag_ rfl) ?_) | ((with_reducible refine ae_ ?_); refine ac_ (ad_ rfl) ?_) | ((with_reducible refine av_ ?_); refine ac_ (aF_ rfl rfl) ?_) | ((with_reducible refine aS_ ?_); first | refine ac_ (aT_ rfl rfl) ?_ | refine ac_ (aO_ rfl rfl) ?_) | ((with_reducible refine ba_ (f := 93) ?_); refine ac_ (aJ_ rfl rfl (c93 _ _)) ?_) | ((with_reducible refine cG_ ?_); first | refine bC_ rfl rfl rfl rfl rfl rfl ?_ | ((with_reducible refine bB_ ?_); refine aj_ rfl rfl rfl (ag_ rfl) rfl rfl ?_) | ((with_reducible refine bE_ ?_); refine aj_ rfl rfl rfl (bZ_ rfl rfl) rfl rfl ?_) | (refine bb_ rfl rfl rfl (fun hb => ?_) (fun hb => ?_) <;> (try simp only [bj_, reduceCtorEq] at hb) <;> (try (exfalso; omega))))) | (with_reducible first | refine ah_ ?_ | refine ao_ ?_ | refine ab_ ?_ | refine aA_ ?_))
 all_goals refine rq1 rfl ⟨?_, rfl⟩
 all_goals unfold rngE
 · rw [if_pos rfl, if_pos (.inl hb)]
 · by_cases hc : hi < x
   · rw [decide_eq_true hc, if_pos rfl, if_pos (.inr hc)]
   · rw [decide_eq_false hc, if_neg (by decide), if_neg (by omega)]
def firstNZ : List Int → Int
 | [] => 0
 | e :: l => if e = 0 then firstNZ l else e
theorem c90 {v : Value} {n : Nat} {es : List Int} (s : Sl G h 1 v n (es.map (.int .i64))) (hn : n < 1000000) : Cl (mz G) (.func (.func 90) #[] #[]) [v] h (.int .i64 (firstNZ es)) h := by
 obtain ⟨a, c, rfl⟩ := s.form
 have hl := s.length
 simp at hl
 refine bg_ (ar_ 15 [.tmp 2] Tryz.func90 rfl rfl rfl rfl ?_)
 repeat' (first | with_reducible refine am_ ?_ | ((with_reducible refine al_ ?_); first | ((with_reducible refine ak_ ?_); refine ac_ (ag_ rfl) ?_) | ((with_reducible refine ae_ ?_); refine ac_ (ad_ rfl) ?_) | ((with_reducible refine aC_ ?_); refine ac_ (ax_ rfl Tryz.underlying219) ?_)) | (with_reducible first | refine ah_ ?_ | refine ao_ ?_ | refine ab_ ?_ | refine at_ ?_))
 refine bq_ (fun k => n - k) (fun k : Nat => [(5, .slice a n c), (6, .int .i64 n), (7, .int .i64 k)]) (fun k h' => h' = h ∧ k ≤ n ∧ firstNZ (es.drop k) = firstNZ es) 0 (ai_ ⟨rfl, rfl, rfl, trivial⟩) ⟨rfl, Nat.zero_le _, rfl⟩ ?_
 rintro k h' ⟨rfl, hk, hi⟩
 by_cases hlt : k < n
 · obtain ⟨ad, h1, h2⟩ := s.addr (M := mz G) Tryz.underlying219 (es := 1) zs26 (i := k) (k := .i64) (by omega) (by omega)
   have h3 : acell G h' ad = some (.int .i64 (es[k]'(by omega))) := h2.get 0 _ (by simp)
   rw [List.drop_eq_getElem_cons (by omega), firstNZ] at hi
   repeat' (first | with_reducible refine am_ ?_ | ((with_reducible refine al_ ?_); first | ((with_reducible refine ak_ ?_); refine ac_ (ag_ rfl) ?_) | ((with_reducible refine ae_ ?_); refine ac_ (ad_ rfl) ?_) | ((with_reducible refine aw_ ?_); refine ac_ (as_ rfl rfl h1) ?_) | ((with_reducible refine au_ ?_); refine ac_ (aI_ rfl Tryz.underlying26 rfl h3) ?_) | ((with_reducible refine av_ ?_); first | refine ac_ (aF_ rfl rfl) ?_ | refine ac_ (bm_ rfl rfl) ?_ | refine ac_ (aR_ rfl rfl (w64 (by omega) (by omega))) ?_)) | (with_reducible first | refine ah_ ?_ | refine ao_ ?_ | refine ab_ ?_ | refine az_ ?_ | refine aA_ ?_ | refine at_ ?_ | refine aP_ ?_ | refine bV_ ?_ | refine bd_ ?_ | refine cx_ ?_) | (refine aK_ rfl (fun hb => ?_) (fun hb => ?_) <;> (try simp only [bj_, reduceCtorEq] at hb) <;> (try (exfalso; omega))))
   · refine rq1 rfl ⟨?_, rfl⟩
     rw [if_neg hb] at hi; rw [hi]
   · refine aX_ (k + 1) (by omega) (ai_ ⟨rfl, rfl, rfl, trivial⟩) ⟨rfl, by omega, ?_⟩
     rw [if_pos hb] at hi; exact hi
 · repeat' (first | with_reducible refine am_ ?_ | ((with_reducible refine al_ ?_); first | ((with_reducible refine ae_ ?_); refine ac_ (ad_ rfl) ?_) | ((with_reducible refine av_ ?_); refine ac_ (aF_ rfl rfl) ?_)) | (with_reducible first | refine ah_ ?_ | refine ao_ ?_ | refine ab_ ?_ | refine aA_ ?_ | refine be_ ?_ | refine bf_ ?_ | refine bi_ ?_) | refine bS_ rfl ?_ | (refine aK_ rfl (fun hb => ?_) (fun hb => ?_) <;> (try simp only [bj_, reduceCtorEq] at hb) <;> (try (exfalso; omega))))
   refine rq1 rfl ⟨?_, rfl⟩
   rw [List.drop_eq_nil_of_le (by omega)] at hi
   rw [← hi]; rfl
theorem c92 {v : Value} {n : Nat} {es : List Int} (s : Sl G h 1 v n (es.map (.int .i64))) (hn : n < 1000000) : Cl (mz G) (.func (.func 92) #[] #[]) [v] h (.int .i64 (firstNZ es)) h := by
 obtain ⟨a, c, rfl⟩ := s.form
 have hl := s.length
 simp at hl
 refine bg_ (ar_ 19 [.tmp 2] Tryz.func92 rfl rfl rfl rfl ?_)
 repeat' (first | with_reducible refine am_ ?_ | ((with_reducible refine al_ ?_); ((with_reducible refine ae_ ?_); refine ac_ (ad_ rfl) ?_)) | (with_reducible first | refine ah_ ?_ | refine ao_ ?_ | refine ab_ ?_ | refine at_ ?_))
 refine bq_ (fun k => n - k) (fun k : Nat => [(0, .slice a n c), (3, .int .i64 k)]) (fun k h' => h' = h ∧ k ≤ n ∧ firstNZ (es.drop k) = firstNZ es) 0 (ai_ ⟨rfl, rfl, trivial⟩) ⟨rfl, Nat.zero_le _, rfl⟩ ?_
 rintro k h' ⟨rfl, hk, hi⟩
 by_cases hlt : k < n
 · obtain ⟨ad, h1, h2⟩ := s.addr (M := mz G) Tryz.underlying25 (es := 1) zs3 (i := k) (k := .i64) (by omega) (by omega)
   have h3 : acell G h' ad = some (.int .i64 (es[k]'(by omega))) := h2.get 0 _ (by simp)
   rw [List.drop_eq_getElem_cons (by omega), firstNZ] at hi
   repeat' (first | with_reducible refine am_ ?_ | ((with_reducible refine al_ ?_); first | ((with_reducible refine ak_ ?_); refine ac_ (ag_ rfl) ?_) | ((with_reducible refine ae_ ?_); refine ac_ (ad_ rfl) ?_) | ((with_reducible refine aw_ ?_); refine ac_ (as_ rfl rfl h1) ?_) | ((with_reducible refine au_ ?_); refine ac_ (aI_ rfl Tryz.underlying3 rfl h3) ?_) | ((with_reducible refine aC_ ?_); refine ac_ (ax_ rfl Tryz.underlying25) ?_) | ((with_reducible refine av_ ?_); first | refine ac_ (aF_ rfl rfl) ?_ | refine ac_ (bm_ rfl rfl) ?_ | refine ac_ (aR_ rfl rfl (w64 (by omega) (by omega))) ?_)) | (with_reducible first | refine ah_ ?_ | refine ao_ ?_ | refine ab_ ?_ | refine az_ ?_ | refine aA_ ?_ | refine at_ ?_ | refine aP_ ?_ | refine bV_ ?_ | refine bd_ ?_ | refine cx_ ?_) | (refine aK_ rfl (fun hb => ?_) (fun hb => ?_) <;> (try simp only [bj_, reduceCtorEq] at hb) <;> (try (exfalso; omega))))
   · refine rq1 rfl ⟨?_, rfl⟩
     rw [if_neg hb] at hi; rw [hi]
   · refine aX_ (k + 1) (by omega) (ai_ ⟨rfl, rfl, trivial⟩) ⟨rfl, by omega, ?_⟩
     rw [if_pos hb] at hi; exact hi
 · repeat' (first | with_reducible refine am_ ?_ | ((with_reducible refine al_ ?_); first | ((with_reducible refine ak_ ?_); refine ac_ (ag_ rfl) ?_) | ((with_reducible refine ae_ ?_); refine ac_ (ad_ rfl) ?_) | ((with_reducible refine aC_ ?_); refine ac_ (ax_ rfl Tryz.underlying25) ?_) | ((with_reducible refine av_ ?_); refine ac_ (aF_ rfl rfl) ?_)) | (with_reducible first | refine ah_ ?_ | refine ao_ ?_ | refine ab_ ?_ | refine aA_ ?_ | refine be_ ?_ | refine bf_ ?_ | refine bi_ ?_) | refine bS_ rfl ?_ | (refine aK_ rfl (fun hb => ?_) (fun hb => ?_) <;> (try simp only [bj_, reduceCtorEq] at hb) <;> (try (exfalso; omega))))
   refine rq1 rfl ⟨?_, rfl⟩
   rw [List.drop_eq_nil_of_le (by omega)] at hi
   rw [← hi]; rfl
theorem c18 {v : Value} {n : Nat} {es : List Int} (s : Sl G h 1 v n (es.map (.int .i64))) (hn : n < 1000000) : Cl (mz G) (.func (.func 18) #[] #[]) [v] h (.int .i64 (firstNZ es)) h := by
 refine bg_ (ar_ 5 [.tmp 2] Tryz.func18 rfl rfl rfl rfl ?_)
 repeat' (first | with_reducible refine am_ ?_ | ((with_reducible refine al_ ?_); first | ((with_reducible refine ak_ ?_); refine ac_ (ag_ rfl) ?_) | ((with_reducible refine ae_ ?_); refine ac_ (ad_ rfl) ?_) | ((with_reducible refine ba_ (f := 92) ?_); refine ac_ (aJ_ rfl rfl (c92 s hn)) ?_)) | (with_reducible first | refine ah_ ?_ | refine ao_ ?_ | refine ab_ ?_ | refine aA_ ?_))
 exact rq1 rfl ⟨rfl, rfl⟩
theorem natAbs_tmod_lt (x : Int) {y : Int} (hy : ¬y = 0) : (x.tmod y).natAbs < y.natAbs := by
 rw [Int.natAbs_tmod]; exact Nat.mod_lt _ (by omega)
end Go.Proofs.YthnnndkfpamacaaGreatDoor
