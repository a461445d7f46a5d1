/- Survey: ranges, first errors, points, vessels and watches; lists of records. -/
import Derived.Test.YtlioomhcdlicmaaGreatDoorW4
import Derived.Test.YtlioomhcdlicmaaGreatDoorK4
set_option linter.all false
/- Survey: ranges, first errors, points, vessels and watches; lists of records. -/
namespace Go.Proofs.YtlioomhcdlicmaaGreatDoor
open Go Go.Ab Go.Fl
attribute [local irreducible] SeqQ BlkQ LpQ RetQ Wc Wo WD WX Op1 Op1q Op1a Cf Cl From
attribute [local irreducible] Ieee.Format.order Ieee.Format.read Ieee.Format.nearest Ieee.Format.write Ieee.Format.mul Ieee.Format.div Ieee.Format.sqrt Ieee.Datum.order Ieee.Datum.integral K U 
set_option maxRecDepth 10000
variable {G : Base} {h : H}
theorem e_ik_bin {p q : Prop} (i : q) (h : q → p := by first | exact fun x => bf_ rfl (cI_ rfl rfl) rfl rfl x | exact fun x => bf_ rfl (op_add' rfl rfl (w64 (by omega) (by omega))) rfl rfl x | exact fun x => bf_ rfl (cH_ rfl rfl) rfl rfl x | exact fun x => bf_ rfl (bM_ rfl rfl) rfl rfl x | exact fun x => bf_ rfl (op_eql rfl rfl) rfl rfl x | exact fun x => bf_ rfl (bY_ rfl rfl (w64 (by omega) (by omega))) rfl rfl x | exact fun x => bf_ rfl (op_leq rfl rfl) rfl rfl x | exact fun x => bf_ rfl (op_geq rfl rfl) rfl rfl x | exact fun x => bf_ rfl (op_mul' rfl rfl (w64 (by omega) (by omega))) rfl rfl x) : p := h i
theorem e_ik_box {p q : Prop} (i : q) (h : q → p := by exact fun x => by first | ((with_reducible refine cF_ (t := 114) ?_); exact bf_ rfl (ca_ rfl cs_ rfl) rfl rfl x) | ((with_reducible refine cF_ (t := 79) ?_); exact bf_ rfl (ca_ rfl zs79 rfl) rfl rfl x) | ((with_reducible refine cF_ (t := 157) ?_); exact bf_ rfl (ca_ rfl zs157 rfl) rfl rfl x) | ((with_reducible refine cF_ (t := 208) ?_); exact bf_ rfl (ca_ rfl bR_ rfl) rfl rfl x) | ((with_reducible refine cF_ (t := 35) ?_); exact bf_ rfl (ca_ rfl zs35 rfl) rfl rfl x) | ((with_reducible refine cF_ (t := 133) ?_); exact bf_ rfl (ca_ rfl bt_ rfl) rfl rfl x) | ((with_reducible refine cF_ (t := 161) ?_); exact bf_ rfl (ca_ rfl cz_ rfl) rfl rfl x) | ((with_reducible refine cF_ (t := 191) ?_); exact bf_ rfl (ca_ rfl ce_ rfl) rfl rfl x) | ((with_reducible refine cF_ (t := 45) ?_); exact bf_ rfl (ca_ rfl zs45 rfl) rfl rfl x) | ((with_reducible refine cF_ (t := 241) ?_); exact bf_ rfl (ca_ rfl cv_ rfl) rfl rfl x) | ((with_reducible refine cF_ (t := 105) ?_); exact bf_ rfl (ca_ rfl zs105 rfl) rfl rfl x) | ((with_reducible refine cF_ (t := 46) ?_); exact bf_ rfl (ca_ rfl zs46 rfl) rfl rfl x) | ((with_reducible refine cF_ (t := 127) ?_); exact bf_ rfl (ca_ rfl zs127 rfl) rfl rfl x) | ((with_reducible refine cF_ (t := 37) ?_); exact bf_ rfl (ca_ rfl zs37 rfl) rfl rfl x) | ((with_reducible refine cF_ (t := 29) ?_); exact bf_ rfl (ca_ rfl zs29 rfl) rfl rfl x) | ((with_reducible refine cF_ (t := 39) ?_); exact bf_ rfl (ca_ rfl zs39 rfl) rfl rfl x)) : p := h i
theorem e_ik_fieldAddr {p q : Prop} (i : q) (h : q → p := by exact fun x => by first | ((with_reducible refine bp_ (t := 29) ?_); first | exact bf_ rfl (ab_ (o := 7) rfl Tryz.underlying29 rfl zs3 rfl) rfl rfl x | exact bf_ rfl (ab_ (o := 6) rfl Tryz.underlying29 rfl zs3 rfl) rfl rfl x | exact bf_ rfl (ab_ (o := 0) rfl Tryz.underlying29 rfl zs22 rfl) rfl rfl x) | ((with_reducible refine bp_ (t := 79) ?_); first | exact bf_ rfl (ab_ (o := 0) rfl Tryz.underlying79 rfl zs3 rfl) rfl rfl x | exact bf_ rfl (ab_ (o := 1) rfl Tryz.underlying79 rfl zs3 rfl) rfl rfl x) | ((with_reducible refine bp_ (t := 208) ?_); first | exact bf_ rfl (ab_ (o := 0) rfl Tryz.underlying208 rfl zs9 rfl) rfl rfl x | exact bf_ rfl (ab_ (o := 1) rfl Tryz.underlying208 rfl zs3 rfl) rfl rfl x | exact bf_ rfl (ab_ (o := 2) rfl Tryz.underlying208 rfl zs3 rfl) rfl rfl x) | ((with_reducible refine bp_ (t := 127) ?_); first | exact bf_ rfl (ab_ (o := 0) rfl Tryz.underlying127 rfl zs37 rfl) rfl rfl x | exact bf_ rfl (ab_ (o := 5) rfl Tryz.underlying127 rfl zs70 rfl) rfl rfl x) | ((with_reducible refine bp_ (t := 191) ?_); first | exact bf_ rfl (ab_ (o := 0) rfl Tryz.underlying191 rfl zs9 rfl) rfl rfl x | exact bf_ rfl (ab_ (o := 2) rfl Tryz.underlying191 rfl zs189 rfl) rfl rfl x) | ((with_reducible refine bp_ (t := 184) ?_); first | exact bf_ rfl (ab_ (o := 0) rfl Tryz.underlying184 rfl zs79 rfl) rfl rfl x | exact bf_ rfl (ab_ (o := 2) rfl Tryz.underlying184 rfl zs9 rfl) rfl rfl x) | ((with_reducible refine bp_ (t := 207) ?_); exact bf_ rfl (ab_ (o := 0) rfl Tryz.underlying207 rfl zs9 rfl) rfl rfl x) | ((with_reducible refine bp_ (t := 70) ?_); exact bf_ rfl (ab_ (o := 5) rfl Tryz.underlying70 rfl zs40 rfl) rfl rfl x) | ((with_reducible refine bp_ (t := 161) ?_); first | exact bf_ rfl (ab_ (o := 0) rfl Tryz.underlying161 rfl zs3 rfl) rfl rfl x | exact bf_ rfl (ab_ (o := 1) rfl Tryz.underlying161 rfl zs35 rfl) rfl rfl x) | ((with_reducible refine bp_ (t := 133) ?_); first | exact bf_ rfl (ab_ (o := 0) rfl Tryz.underlying133 rfl zs79 rfl) rfl rfl x | exact bf_ rfl (ab_ (o := 2) rfl Tryz.underlying133 rfl zs9 rfl) rfl rfl x) | ((with_reducible refine bp_ (t := 241) ?_); first | exact bf_ rfl (ab_ (o := 0) rfl Tryz.underlying241 rfl zs3 rfl) rfl rfl x | exact bf_ rfl (ab_ (o := 1) rfl Tryz.underlying241 rfl zs3 rfl) rfl rfl x) | ((with_reducible refine bp_ (t := 157) ?_); first | exact bf_ rfl (ab_ (o := 0) rfl Tryz.underlying157 rfl zs46 rfl) rfl rfl x | exact bf_ rfl (ab_ (o := 5) rfl Tryz.underlying157 rfl zs3 rfl) rfl rfl x) | ((with_reducible refine bp_ (t := 105) ?_); first | exact bf_ rfl (ab_ (o := 6) rfl Tryz.underlying105 rfl zs3 rfl) rfl rfl x | exact bf_ rfl (ab_ (o := 2) rfl Tryz.underlying105 rfl zs3 rfl) rfl rfl x | exact bf_ rfl (ab_ (o := 0) rfl Tryz.underlying105 rfl zs3 rfl) rfl rfl x | exact bf_ rfl (ab_ (o := 1) rfl Tryz.underlying105 rfl zs3 rfl) rfl rfl x | exact bf_ rfl (ab_ (o := 3) rfl Tryz.underlying105 rfl zs3 rfl) rfl rfl x | exact bf_ rfl (ab_ (o := 4) rfl Tryz.underlying105 rfl zs3 rfl) rfl rfl x | exact bf_ rfl (ab_ (o := 5) rfl Tryz.underlying105 rfl zs3 rfl) rfl rfl x) | ((with_reducible refine bp_ (t := 37) ?_); exact bf_ rfl (ab_ (o := 4) rfl Tryz.underlying37 rfl zs3 rfl) rfl rfl x) | ((with_reducible refine bp_ (t := 45) ?_); first | exact bf_ rfl (ab_ (o := 4) rfl Tryz.underlying45 rfl zs3 rfl) rfl rfl x | exact bf_ rfl (ab_ (o := 0) rfl Tryz.underlying45 rfl zs35 rfl) rfl rfl x | exact bf_ rfl (ab_ (o := 2) rfl Tryz.underlying45 rfl zs35 rfl) rfl rfl x) | ((with_reducible refine bp_ (t := 114) ?_); first | exact bf_ rfl (ab_ (o := 7) rfl Tryz.underlying114 rfl zs3 rfl) rfl rfl x | exact bf_ rfl (ab_ (o := 8) rfl Tryz.underlying114 rfl zs3 rfl) rfl rfl x | exact bf_ rfl (ab_ (o := 0) rfl Tryz.underlying114 rfl zs3 rfl) rfl rfl x | exact bf_ rfl (ab_ (o := 1) rfl Tryz.underlying114 rfl zs3 rfl) rfl rfl x | exact bf_ rfl (ab_ (o := 2) rfl Tryz.underlying114 rfl zs3 rfl) rfl rfl x | exact bf_ rfl (ab_ (o := 3) rfl Tryz.underlying114 rfl zs3 rfl) rfl rfl x | exact bf_ rfl (ab_ (o := 4) rfl Tryz.underlying114 rfl zs3 rfl) rfl rfl x | exact bf_ rfl (ab_ (o := 5) rfl Tryz.underlying114 rfl zs3 rfl) rfl rfl x) | ((with_reducible refine bp_ (t := 46) ?_); first | exact bf_ rfl (ab_ (o := 0) rfl Tryz.underlying46 rfl zs3 rfl) rfl rfl x | exact bf_ rfl (ab_ (o := 1) rfl Tryz.underlying46 rfl zs3 rfl) rfl rfl x | exact bf_ rfl (ab_ (o := 4) rfl Tryz.underlying46 rfl zs3 rfl) rfl rfl x) | ((with_reducible refine bp_ (t := 35) ?_); first | exact bf_ rfl (ab_ (o := 0) rfl Tryz.underlying35 rfl zs3 rfl) rfl rfl x | exact bf_ rfl (ab_ (o := 1) rfl Tryz.underlying35 rfl zs3 rfl) rfl rfl x)) : p := h i
theorem e_ik_alloc {p q : Prop} (i : q) (h : q → p := by exact fun x => by first | ((with_reducible refine bL_ (t := 191) ?_); exact bf_ rfl (bP_ zz191 ce_ rfl rfl rfl) rfl rfl x) | ((with_reducible refine bL_ (t := 208) ?_); exact bf_ rfl (bP_ zz208 bR_ rfl rfl rfl) rfl rfl x) | ((with_reducible refine bL_ (t := 133) ?_); exact bf_ rfl (bP_ zz133 bt_ rfl rfl rfl) rfl rfl x) | ((with_reducible refine bL_ (t := 29) ?_); exact bf_ rfl (bP_ zz29 zs29 rfl rfl rfl) rfl rfl x) | ((with_reducible refine bL_ (t := 241) ?_); exact bf_ rfl (bP_ zz241 cv_ rfl rfl rfl) rfl rfl x) | ((with_reducible refine bL_ (t := 22) ?_); exact bf_ rfl (bP_ zz22 zs22 rfl rfl rfl) rfl rfl x) | ((with_reducible refine bL_ (t := 161) ?_); exact bf_ rfl (bP_ zz161 cz_ rfl rfl rfl) rfl rfl x) | ((with_reducible refine bL_ (t := 157) ?_); exact bf_ rfl (bP_ zz157 zs157 rfl rfl rfl) rfl rfl x) | ((with_reducible refine bL_ (t := 192) ?_); exact bf_ rfl (bP_ zz192 zs192 rfl rfl rfl) rfl rfl x) | ((with_reducible refine bL_ (t := 145) ?_); exact bf_ rfl (bP_ zz145 zs145 rfl rfl rfl) rfl rfl x) | ((with_reducible refine bL_ (t := 35) ?_); exact bf_ rfl (bP_ zz35 zs35 rfl rfl rfl) rfl rfl x) | ((with_reducible refine bL_ (t := 79) ?_); exact bf_ rfl (bP_ zz79 zs79 rfl rfl rfl) rfl rfl x) | ((with_reducible refine bL_ (t := 184) ?_); exact bf_ rfl (bP_ zz184 zs184 rfl rfl rfl) rfl rfl x) | ((with_reducible refine bL_ (t := 207) ?_); exact bf_ rfl (bP_ zz207 zs207 rfl rfl rfl) rfl rfl x) | ((with_reducible refine bL_ (t := 3) ?_); exact bf_ rfl (bP_ zz3 zs3 rfl rfl rfl) rfl rfl x) | ((with_reducible refine bL_ (t := 25) ?_); exact bf_ rfl (bP_ zz25 zs25 rfl rfl rfl) rfl rfl x) | ((with_reducible refine bL_ (t := 200) ?_); exact bf_ rfl (bP_ zz200 zs200 rfl rfl rfl) rfl rfl x) | ((with_reducible refine bL_ (t := 246) ?_); exact bf_ rfl (bP_ zz246 zs246 rfl rfl rfl) rfl rfl x) | ((with_reducible refine bL_ (t := 216) ?_); exact bf_ rfl (bP_ zz216 zs216 rfl rfl rfl) rfl rfl x) | ((with_reducible refine bL_ (t := 105) ?_); exact bf_ rfl (bP_ zz105 zs105 rfl rfl rfl) rfl rfl x)) : p := h i
theorem e_ik_build {p q : Prop} (i : q) (h : q → p := by first | exact fun x => bf_ rfl (op_buildT rfl zz29 zp29 rfl rfl) rfl rfl x | exact fun x => bf_ rfl (op_buildT rfl zz157 zp157 rfl rfl) rfl rfl x | exact fun x => bf_ rfl (op_buildT rfl zz79 zp79 rfl rfl) rfl rfl x | exact fun x => bf_ rfl (op_buildT rfl zz191 zp191 rfl rfl) rfl rfl x | exact fun x => bf_ rfl (op_buildT rfl zz192 zp192 rfl rfl) rfl rfl x | exact fun x => bf_ rfl (op_buildT rfl zz35 zp35 rfl rfl) rfl rfl x | exact fun x => bf_ rfl (op_buildT rfl zz22 zp22 rfl rfl) rfl rfl x) : p := h i
theorem ao_ {p q : Prop} (i : q) (h : q → p := by first | exact fun x => (by (with_reducible refine ik_move ?_); first | exact bf_ rfl (aD_ rfl) rfl rfl x) | exact fun x => (by (with_reducible refine cx_ ?_); first | exact bf_ rfl (aW_ rfl) rfl rfl x) | exact fun x => (by (with_reducible refine bG_ ?_); exact e_ik_bin x) | exact fun x => (by (with_reducible refine ik_pick ?_); first | exact bf_ rfl (ct_ rfl rfl) rfl rfl x | exact bf_ rfl (cb_ rfl rfl) rfl rfl x) | exact fun x => (by (with_reducible refine cF_ ?_); exact e_ik_box x) | exact fun x => (by (with_reducible refine bp_ ?_); exact e_ik_fieldAddr x) | exact fun x => (by (with_reducible refine bL_ ?_); exact e_ik_alloc x) | exact fun x => (by (with_reducible refine ik_build ?_); exact e_ik_build x) | exact fun x => (by (with_reducible refine an_ ?_); first | exact bf_ rfl (op_idxSl (o := 0) rfl rfl Tryz.underlying52 zs79 (by omega) (by omega) (by omega)) rfl rfl x) | exact fun x => (by (with_reducible refine ik_un ?_); first | exact bf_ rfl (cG_ rfl) rfl rfl x) | exact fun x => (by (with_reducible refine ik_slice ?_); first | exact bf_ rfl (op_sliceArr rfl ah_ Tryz.underlying192 ce_) rfl rfl x) | exact fun x => (by (with_reducible refine ik_extract ?_); first | exact bf_ rfl (op_extract rfl rfl) rfl rfl x) | exact fun x => (by (with_reducible refine ik_range ?_); first | exact bf_ rfl (op_range rfl Tryz.underlying9) rfl rfl x)) : p := h i
def rngE (x lo hi : Int) : Int := if x < lo ∨ hi < x then 3 else 0
theorem rng_ok {x lo hi : Int} (h : rngE x lo hi = 0) : lo ≤ x ∧ x ≤ hi := by
 unfold rngE at h
 split at h
 · cases h
 · omega
theorem rng_of {x lo hi : Int} (h1 : lo ≤ x) (h2 : x ≤ hi) : rngE x lo hi = 0 := by
 unfold rngE; rw [if_neg (by omega)]
def firstNZ : List Int → Int
 | [] => 0
 | e :: l => if e = 0 then firstNZ l else e
theorem bX_ : ∀ {l : List Int}, firstNZ l = 0 → ∀ x ∈ l, x = 0
 | [], _, x, hx => by simp at hx
 | e :: l, h, x, hx => by
   unfold firstNZ at h
   split at h
   · rename_i he
     rcases List.mem_cons.1 hx with rfl | hx
     · exact he
     · exact bX_ h x hx
   · rename_i he; exact absurd h he
theorem firstNZ_one {E : Int} {l : List Int} (h : E ≠ 0) : firstNZ (E :: l) = E := by
 unfold firstNZ; rw [if_neg h]
theorem cm_ {l : List Int} : firstNZ (0 :: l) = firstNZ l := by
 rw [firstNZ, if_pos rfl]
theorem sing_nz (v : Int) : firstNZ [v] = v := by
 by_cases h : v = 0
 · subst h; rw [cm_]; simp [firstNZ]
 · exact firstNZ_one h
def errN (f : Nat → Int) : Nat → Int
 | 0 => 0
 | k + 1 => if errN f k ≠ 0 then errN f k else f k
theorem cM_ (f : Nat → Int) : errN f 0 = 0 := by simp [errN]
theorem errN_hit {f : Nat → Int} {k n : Nat} (hk : k ≤ n) (h : errN f k ≠ 0) : errN f n = errN f k := by
 induction n with
 | zero => have : k = 0 := by omega
           rw [this]
 | succ n ih =>
   by_cases q : k = n + 1
   · rw [q]
   · have := ih (by omega)
     show (if errN f n ≠ 0 then errN f n else f n) = errN f k
     rw [this, if_pos h]
theorem cB_ {f : Nat → Int} {k : Nat} (h : errN f k = 0) : errN f (k + 1) = f k := by
 show (if errN f k ≠ 0 then errN f k else f k) = f k
 rw [if_neg (by omega)]
theorem c96 (x lo hi : Int) : Cl (mz G) (.func (.func 96) #[] #[]) [.int .i64 x, .int .i64 lo, .int .i64 hi] h (.int .i64 (rngE x lo hi)) h := by
 refine cu_ (ak_ 15 [.tmp 6] Tryz.func96 rfl rfl rfl rfl ?_)
 repeat' (first | with_reducible refine ad_ ?_ | ((with_reducible refine ac_ ?_); first | ((with_reducible refine cC_ ?_); first | refine bn_ rfl rfl rfl rfl rfl rfl ?_ | ((with_reducible refine bH_ ?_); refine ai_ rfl rfl rfl (aD_ rfl) rfl rfl ?_) | ((with_reducible refine bB_ ?_); refine ai_ rfl rfl rfl (bM_ rfl rfl) rfl rfl ?_) | (refine aY_ rfl rfl rfl (fun hb => ?_) (fun hb => ?_) <;> (try simp only [aX_, reduceCtorEq] at hb) <;> (try (exfalso; omega)))) | refine ao_ ?_) | refine ap_ ?_ | (refine aG_ rfl (fun hb => ?_) (fun hb => ?_) <;> (try simp only [aX_, reduceCtorEq] at hb) <;> (try (exfalso; omega))))
 all_goals refine rq1 rfl ⟨?_, rfl⟩
 all_goals (unfold rngE; congr 1; first | rw [if_pos (by omega)] | rw [if_neg (by omega)])
theorem c143 (b : Bool) (v : Int) : Cl (mz G) (.func (.func 143) #[] #[]) [.bool b, .int .i64 v] h (.int .i64 (if b then v else 0)) h := by
 refine cu_ (ak_ 7 [.tmp 4] Tryz.func143 rfl rfl rfl rfl ?_)
 repeat' (first | with_reducible refine ad_ ?_ | ((with_reducible refine ac_ ?_); refine ao_ ?_) | refine ap_ ?_ | (refine aG_ rfl (fun hb => ?_) (fun hb => ?_) <;> (try simp only [aX_, reduceCtorEq] at hb) <;> (try (exfalso; omega))))
 all_goals refine rq1 rfl ⟨?_, rfl⟩
 all_goals simp [hb]
theorem c72 (x lo hi : Int) : Cl (mz G) (.func (.func 72) #[] #[]) [.int .i64 x, .int .i64 lo, .int .i64 hi] h (.int .i64 (rngE x lo hi)) h := by
 refine cu_ (ak_ 16 [.tmp 6] Tryz.func72 rfl rfl rfl rfl ?_)
 repeat' (first | with_reducible refine ad_ ?_ | ((with_reducible refine ac_ ?_); first | ((with_reducible refine bK_ (f := 143) ?_); refine aq_ (aK_ rfl rfl (c143 _ _)) ?_) | ((with_reducible refine cC_ ?_); first | refine bn_ rfl rfl rfl rfl rfl rfl ?_ | ((with_reducible refine bH_ ?_); refine ai_ rfl rfl rfl (aD_ rfl) rfl rfl ?_) | ((with_reducible refine bB_ ?_); refine ai_ rfl rfl rfl (bM_ rfl rfl) rfl rfl ?_) | (refine aY_ rfl rfl rfl (fun hb => ?_) (fun hb => ?_) <;> (try simp only [aX_, reduceCtorEq] at hb) <;> (try (exfalso; omega)))) | refine ao_ ?_) | refine ap_ ?_)
 all_goals refine rq1 rfl ⟨?_, rfl⟩
 all_goals unfold rngE
 · rw [if_pos rfl, if_pos (.inl hb)]
 · by_cases hc : hi < x
   · rw [decide_eq_true hc, if_pos rfl, if_pos (.inr hc)]
   · rw [decide_eq_false hc, if_neg (by decide), if_neg (by omega)]
theorem c93 {v : Value} {n : Nat} {es : List Int} (s : Sl G h 1 v n (es.map (.int .i64))) (hn : n < 1000000) : Cl (mz G) (.func (.func 93) #[] #[]) [v] h (.int .i64 (firstNZ es)) h := by
 obtain ⟨a, c, rfl⟩ := s.form
 have hl := s.length
 simp at hl
 refine cu_ (ak_ 15 [.tmp 2] Tryz.func93 rfl rfl rfl rfl ?_)
 repeat' (first | with_reducible refine ad_ ?_ | ((with_reducible refine ac_ ?_); first | ((with_reducible refine av_ ?_); refine aq_ (ax_ rfl Tryz.underlying238) ?_) | refine ao_ ?_) | refine ap_ ?_)
 refine bo_ (fun k => n - k) (fun k : Nat => [(5, .slice a n c), (6, .int .i64 n), (7, .int .i64 k)]) (fun k h' => h' = h ∧ k ≤ n ∧ firstNZ (es.drop k) = firstNZ es) 0 (af_ ⟨rfl, rfl, rfl, trivial⟩) ⟨rfl, Nat.zero_le _, rfl⟩ ?_
 rintro k h' ⟨rfl, hk, hi⟩
 by_cases hlt : k < n
 · obtain ⟨ad, h1, h2⟩ := s.addr (M := mz G) Tryz.underlying238 (es := 1) zs26 (i := k) (k := .i64) (by omega) (by omega)
   have h3 : acell G h' ad = some (.int .i64 (es[k]'(by omega))) := h2.get 0 _ (by simp)
   rw [List.drop_eq_getElem_cons (by omega), firstNZ] at hi
   repeat' (first | with_reducible refine ad_ ?_ | ((with_reducible refine ac_ ?_); first | ((with_reducible refine an_ ?_); refine aq_ (ag_ rfl rfl h1) ?_) | ((with_reducible refine al_ ?_); refine aq_ (az_ rfl Tryz.underlying26 rfl h3) ?_) | refine ao_ ?_) | refine ap_ ?_ | (refine aG_ rfl (fun hb => ?_) (fun hb => ?_) <;> (try simp only [aX_, reduceCtorEq] at hb) <;> (try (exfalso; omega))))
   · refine rq1 rfl ⟨?_, rfl⟩
     rw [if_neg hb] at hi; rw [hi]
   · refine aI_ (k + 1) (by omega) (af_ ⟨rfl, rfl, rfl, trivial⟩) ⟨rfl, by omega, ?_⟩
     rw [if_pos hb] at hi; exact hi
 · repeat' (first | with_reducible refine ad_ ?_ | ((with_reducible refine ac_ ?_); refine ao_ ?_) | refine ap_ ?_ | (refine aG_ rfl (fun hb => ?_) (fun hb => ?_) <;> (try simp only [aX_, reduceCtorEq] at hb) <;> (try (exfalso; omega))))
   refine rq1 rfl ⟨?_, rfl⟩
   rw [List.drop_eq_nil_of_le (by omega)] at hi
   rw [← hi]; rfl
theorem c91 {v : Value} {n : Nat} {es : List Int} (s : Sl G h 1 v n (es.map (.int .i64))) (hn : n < 1000000) : Cl (mz G) (.func (.func 91) #[] #[]) [v] h (.int .i64 (firstNZ es)) h := by
 obtain ⟨a, c, rfl⟩ := s.form
 have hl := s.length
 simp at hl
 refine cu_ (ak_ 19 [.tmp 2] Tryz.func91 rfl rfl rfl rfl ?_)
 repeat' (first | with_reducible refine ad_ ?_ | ((with_reducible refine ac_ ?_); ((with_reducible refine cx_ ?_); refine aq_ (aW_ rfl) ?_)) | refine ap_ ?_)
 refine bo_ (fun k => n - k) (fun k : Nat => [(0, .slice a n c), (3, .int .i64 k)]) (fun k h' => h' = h ∧ k ≤ n ∧ firstNZ (es.drop k) = firstNZ es) 0 (af_ ⟨rfl, rfl, trivial⟩) ⟨rfl, Nat.zero_le _, rfl⟩ ?_
 rintro k h' ⟨rfl, hk, hi⟩
 by_cases hlt : k < n
 · obtain ⟨ad, h1, h2⟩ := s.addr (M := mz G) Tryz.underlying49 (es := 1) zs3 (i := k) (k := .i64) (by omega) (by omega)
   have h3 : acell G h' ad = some (.int .i64 (es[k]'(by omega))) := h2.get 0 _ (by simp)
   rw [List.drop_eq_getElem_cons (by omega), firstNZ] at hi
   repeat' (first | with_reducible refine ad_ ?_ | ((with_reducible refine ac_ ?_); first | ((with_reducible refine an_ ?_); refine aq_ (ag_ rfl rfl h1) ?_) | ((with_reducible refine al_ ?_); refine aq_ (az_ rfl Tryz.underlying3 rfl h3) ?_) | ((with_reducible refine av_ ?_); refine aq_ (ax_ rfl Tryz.underlying49) ?_) | refine ao_ ?_) | refine ap_ ?_ | (refine aG_ rfl (fun hb => ?_) (fun hb => ?_) <;> (try simp only [aX_, reduceCtorEq] at hb) <;> (try (exfalso; omega))))
   · refine rq1 rfl ⟨?_, rfl⟩
     rw [if_neg hb] at hi; rw [hi]
   · refine aI_ (k + 1) (by omega) (af_ ⟨rfl, rfl, trivial⟩) ⟨rfl, by omega, ?_⟩
     rw [if_pos hb] at hi; exact hi
 · repeat' (first | with_reducible refine ad_ ?_ | ((with_reducible refine ac_ ?_); first | ((with_reducible refine av_ ?_); refine aq_ (ax_ rfl Tryz.underlying49) ?_) | refine ao_ ?_) | refine ap_ ?_ | (refine aG_ rfl (fun hb => ?_) (fun hb => ?_) <;> (try simp only [aX_, reduceCtorEq] at hb) <;> (try (exfalso; omega))))
   refine rq1 rfl ⟨?_, rfl⟩
   rw [List.drop_eq_nil_of_le (by omega)] at hi
   rw [← hi]; rfl
def ptE (x y L : Int) : Int := firstNZ [rngE x (-L) L, rngE y (-L) L]
def vesE (x y u v t : Int) : Int := firstNZ [ptE x y 100000, ptE u v 1000, rngE t 1 4096]
def watE (r sp lo cl so : Int) : Int := firstNZ [rngE r 0 10000, rngE sp 0 1000, rngE lo 0 1000, rngE cl 0 1000, rngE so 0 1000]
theorem pt_ok {x y L : Int} (h : ptE x y L = 0) : (-L ≤ x ∧ x ≤ L) ∧ -L ≤ y ∧ y ≤ L := by
 have a := bX_ h
 exact ⟨rng_ok (a _ (by simp)), rng_ok (a _ (by simp))⟩
theorem ves_ok {x y u v t : Int} (h : vesE x y u v t = 0) : ((-100000 ≤ x ∧ x ≤ 100000) ∧ -100000 ≤ y ∧ y ≤ 100000) ∧ ((-1000 ≤ u ∧ u ≤ 1000) ∧ -1000 ≤ v ∧ v ≤ 1000) ∧ 1 ≤ t ∧ t ≤ 4096 := by
 have a := bX_ h
 exact ⟨pt_ok (a _ (by simp)), pt_ok (a _ (by simp)), rng_ok (a _ (by simp))⟩
theorem wat_ok {r sp lo cl so : Int} (h : watE r sp lo cl so = 0) : (0 ≤ r ∧ r ≤ 10000) ∧ (0 ≤ sp ∧ sp ≤ 1000) ∧ (0 ≤ lo ∧ lo ≤ 1000) ∧ (0 ≤ cl ∧ cl ≤ 1000) ∧ 0 ≤ so ∧ so ≤ 1000 := by
 have a := bX_ h
 exact ⟨rng_ok (a _ (by simp)), rng_ok (a _ (by simp)), rng_ok (a _ (by simp)), rng_ok (a _ (by simp)), rng_ok (a _ (by simp))⟩
theorem c94 {x y : Int} (hw : Wf h) : Cf (mz G) (.func (.func 94) #[] #[]) [.agg ⟨[.int .i64 x, .int .i64 y]⟩] h fun r h' => r = .int .i64 (ptE x y 100000) ∧ Grow h h' := by
 have qf := fun (h' : H) (v : Value) (s : Sl G h' 1 v 2 ([rngE x (-100000) 100000, rngE y (-100000) 100000].map (.int .i64))) => c93 s (by omega)
 rw [show firstNZ [rngE x (-100000) 100000, rngE y (-100000) 100000] = ptE x y 100000 from rfl] at qf
 refine ak_ 11 [.tmp 2] Tryz.func94 rfl rfl rfl rfl ?_
 repeat' (first | with_reducible refine ad_ ?_ | ((with_reducible refine ac_ ?_); refine ao_ ?_) | ((with_reducible refine bb_ ?_); first | ((with_reducible refine bd_ ?_); first | ((with_reducible refine aC_ ?_); first | refine aH_ (aa_ rfl) rfl rfl (ar_ rfl (ab_ (o := 0) rfl Tryz.underlying35 rfl zs3 rfl)) rfl rfl rfl ?_ | refine aH_ (aa_ rfl) rfl rfl (ar_ rfl (ab_ (o := 1) rfl Tryz.underlying35 rfl zs3 rfl)) rfl rfl rfl ?_) | ((with_reducible refine aZ_ ?_); refine aO_ (aa_ rfl) rfl (ar_ rfl (ae_ rfl ah_ Tryz.underlying3 rfl rfl)) rfl rfl rfl ?_) | ((with_reducible refine bg_ ?_); refine wx_a0 (aa_ rfl) rfl (bh_ rfl Tryz.underlying238 zs26 zz26 rfl rfl) rfl rfl ?_) | ((with_reducible refine bw_ (f := 96) ?_); refine wx_ee (aa_ rfl) rfl rfl (aK_ rfl rfl (c96 _ _ _)) rfl rfl ?_)) | ((with_reducible refine bm_ ?_); refine aH_ (aa_ rfl) rfl rfl (ar_ rfl (aW_ rfl)) rfl rfl rfl ?_) | ((with_reducible refine aV_ ?_); ((with_reducible refine cq_ ?_); refine wx_e1 (aa_ rfl) rfl rfl rfl (aK_ rfl rfl (qf _ _ (Sl.ofAt (show At _ _ (.cells [.int .i64 (rngE x (-100000) 100000), .int .i64 (rngE y (-100000) 100000)] 26 1 false) from ah_) rfl (Nat.le_refl _)))) rfl rfl ?_)) | refine bU_ ?_ ?_ rfl rfl ?_) | with_reducible exact aP_ | with_reducible refine aJ_ ?_ ?_ | ((with_reducible refine bi_ ?_); first | exact aS_ | refine aQ_ rfl ?_ | refine am_ rfl rfl (ar_ rfl (ae_ rfl ah_ Tryz.underlying3 rfl (by rfl))) ?_) | with_reducible exact bV_ | with_reducible refine bE_ ?_ ?_ | ((with_reducible refine ck_ ?_); first | exact bW_ rfl rfl | exact bu_ rfl rfl aA_ gr_B) | refine ap_ ?_ | refine aF_ (id := 1) 9 [0, 1, 3, 0, 8, 31, 63, 127, 255] [0, 1, 2, 3, 4, 5, 6, 7, 8] (by kernel_rfl) (by kernel_rfl) rfl rfl ?_)
 exact rq1 rfl ⟨rfl, au_⟩
theorem c95 {x y : Int} (hw : Wf h) : Cf (mz G) (.func (.func 95) #[] #[]) [.agg ⟨[.int .i64 x, .int .i64 y]⟩] h fun r h' => r = .int .i64 (ptE x y 1000) ∧ Grow h h' := by
 have qf := fun (h' : H) (v : Value) (s : Sl G h' 1 v 2 ([rngE x (-1000) 1000, rngE y (-1000) 1000].map (.int .i64))) => c93 s (by omega)
 rw [show firstNZ [rngE x (-1000) 1000, rngE y (-1000) 1000] = ptE x y 1000 from rfl] at qf
 refine ak_ 11 [.tmp 2] Tryz.func95 rfl rfl rfl rfl ?_
 repeat' (first | with_reducible refine ad_ ?_ | ((with_reducible refine ac_ ?_); refine ao_ ?_) | ((with_reducible refine bb_ ?_); first | ((with_reducible refine bd_ ?_); first | ((with_reducible refine aC_ ?_); first | refine aH_ (aa_ rfl) rfl rfl (ar_ rfl (ab_ (o := 0) rfl Tryz.underlying35 rfl zs3 rfl)) rfl rfl rfl ?_ | refine aH_ (aa_ rfl) rfl rfl (ar_ rfl (ab_ (o := 1) rfl Tryz.underlying35 rfl zs3 rfl)) rfl rfl rfl ?_) | ((with_reducible refine aZ_ ?_); refine aO_ (aa_ rfl) rfl (ar_ rfl (ae_ rfl ah_ Tryz.underlying3 rfl rfl)) rfl rfl rfl ?_) | ((with_reducible refine bg_ ?_); refine wx_a0 (aa_ rfl) rfl (bh_ rfl Tryz.underlying238 zs26 zz26 rfl rfl) rfl rfl ?_) | ((with_reducible refine bw_ (f := 96) ?_); refine wx_ee (aa_ rfl) rfl rfl (aK_ rfl rfl (c96 _ _ _)) rfl rfl ?_)) | ((with_reducible refine bm_ ?_); refine aH_ (aa_ rfl) rfl rfl (ar_ rfl (aW_ rfl)) rfl rfl rfl ?_) | ((with_reducible refine aV_ ?_); ((with_reducible refine cq_ ?_); refine wx_e1 (aa_ rfl) rfl rfl rfl (aK_ rfl rfl (qf _ _ (Sl.ofAt (show At _ _ (.cells [.int .i64 (rngE x (-1000) 1000), .int .i64 (rngE y (-1000) 1000)] 26 1 false) from ah_) rfl (Nat.le_refl _)))) rfl rfl ?_)) | refine bU_ ?_ ?_ rfl rfl ?_) | with_reducible exact aP_ | with_reducible refine aJ_ ?_ ?_ | ((with_reducible refine bi_ ?_); first | exact aS_ | refine aQ_ rfl ?_ | refine am_ rfl rfl (ar_ rfl (ae_ rfl ah_ Tryz.underlying3 rfl (by rfl))) ?_) | with_reducible exact bV_ | with_reducible refine bE_ ?_ ?_ | ((with_reducible refine ck_ ?_); first | exact bW_ rfl rfl | exact bu_ rfl rfl aA_ gr_B) | refine ap_ ?_ | refine aF_ (id := 1) 9 [0, 1, 3, 0, 8, 31, 63, 127, 255] [0, 1, 2, 3, 4, 5, 6, 7, 8] (by kernel_rfl) (by kernel_rfl) rfl rfl ?_)
 exact rq1 rfl ⟨rfl, au_⟩
theorem c97 {x y L : Int} (h0 : 0 ≤ L) (h1 : L < 1000000000000) (hw : Wf h) : Cf (mz G) (.func (.func 97) #[] #[]) [.agg ⟨[.int .i64 x, .int .i64 y]⟩, .int .i64 L] h fun r h' => r = .int .i64 (ptE x y L) ∧ Grow h h' := by
 have q9 := fun (h' : H) (v : Value) (s : Sl G h' 1 v 2 ([rngE x (-L) L, rngE y (-L) L].map (.int .i64))) => c91 s (by omega)
 have q43 : ∀ (h : H) (x : Int), Cl (mz G) (.func (.func 72) #[] #[]) [.int .i64 x, .int .i64 (0 - L), .int .i64 L] h (.int .i64 (rngE x (-L) L)) h := fun h x => by
   have := c72 (G := G) (h := h) x (0 - L) L
   rw [Int.zero_sub] at this ⊢
   exact this
 rw [show firstNZ [rngE x (-L) L, rngE y (-L) L] = ptE x y L from rfl] at q9
 refine ak_ 19 [.tmp 4] Tryz.func97 rfl rfl rfl rfl ?_
 repeat' (first | with_reducible refine ad_ ?_ | ((with_reducible refine ac_ ?_); refine ao_ ?_) | ((with_reducible refine bb_ ?_); first | ((with_reducible refine bd_ ?_); first | ((with_reducible refine ba_ ?_); refine aH_ (aa_ rfl) rfl rfl (ar_ rfl (aD_ rfl)) rfl rfl rfl ?_) | ((with_reducible refine aC_ ?_); first | refine aH_ (aa_ rfl) rfl rfl (ar_ rfl (ab_ (o := 0) rfl Tryz.underlying35 rfl zs3 rfl)) rfl rfl rfl ?_ | refine aH_ (aa_ rfl) rfl rfl (ar_ rfl (ab_ (o := 1) rfl Tryz.underlying35 rfl zs3 rfl)) rfl rfl rfl ?_) | ((with_reducible refine aZ_ ?_); refine aO_ (aa_ rfl) rfl (ar_ rfl (ae_ rfl ah_ Tryz.underlying3 rfl rfl)) rfl rfl rfl ?_) | ((with_reducible refine bD_ ?_); refine aH_ (aa_ rfl) rfl rfl (ar_ rfl (bY_ rfl rfl (w64 (by omega) (by omega)))) rfl rfl rfl ?_) | ((with_reducible refine bg_ ?_); refine wx_a0 (aa_ rfl) rfl (bh_ rfl Tryz.underlying49 zs3 zz3 rfl rfl) rfl rfl ?_) | ((with_reducible refine aV_ ?_); refine wx_ee (aa_ rfl) rfl rfl (aK_ rfl rfl (q43 _ _)) rfl rfl ?_)) | ((with_reducible refine bm_ ?_); refine aH_ (aa_ rfl) rfl rfl (ar_ rfl (aW_ rfl)) rfl rfl rfl ?_) | ((with_reducible refine aV_ ?_); ((with_reducible refine cq_ ?_); refine wx_e1 (aa_ rfl) rfl rfl rfl (aK_ rfl rfl (q9 _ _ (Sl.ofAt (show At _ _ (.cells [.int .i64 (rngE x (-L) L), .int .i64 (rngE y (-L) L)] 3 1 false) from ah_) rfl (Nat.le_refl _)))) rfl rfl ?_)) | refine bU_ ?_ ?_ rfl rfl ?_) | with_reducible exact aP_ | with_reducible refine aJ_ ?_ ?_ | ((with_reducible refine bi_ ?_); first | exact aS_ | refine aQ_ rfl ?_ | refine am_ rfl rfl (ar_ rfl (ae_ rfl ah_ Tryz.underlying3 rfl (by rfl))) ?_) | with_reducible exact bV_ | with_reducible refine bE_ ?_ ?_ | ((with_reducible refine ck_ ?_); first | exact bW_ rfl rfl | exact bu_ rfl rfl aA_ gr_B) | refine ap_ ?_ | refine aF_ (id := 1) 15 [0, 1, 0, 4, 0, 31, 0, 64, 0, 256, 0, 2047, 4095, 8191, 16383] [0, 1, 2, 3, 4, 5, 6, 7, 8, 9, 10, 11, 12, 13, 14] (by kernel_rfl) (by kernel_rfl) rfl rfl ?_)
 exact rq1 rfl ⟨rfl, au_⟩
set_option maxHeartbeats 2000000 in
theorem c25 {x y u v t : Int} (hw : Wf h) : Cf (mz G) (.func (.func 25) #[] #[]) [.agg ⟨[.int .i64 x, .int .i64 y, .int .i64 u, .int .i64 v, .int .i64 t]⟩] h fun rr h' => rr = .int .i64 (vesE x y u v t) ∧ Grow h h' := by
 have qf := fun (h' : H) (vv : Value) (s : Sl G h' 1 vv 3 ([ptE x y 100000, ptE u v 1000, rngE t 1 4096].map (.int .i64))) => c93 s (by omega)
 rw [show firstNZ [ptE x y 100000, ptE u v 1000, rngE t 1 4096] = vesE x y u v t from rfl] at qf
 refine ak_ 14 [.tmp 2] Tryz.func25 rfl rfl rfl rfl ?_
 repeat' (first | with_reducible refine ad_ ?_ | ((with_reducible refine ac_ ?_); refine ao_ ?_) | ((with_reducible refine bb_ ?_); first | ((with_reducible refine bd_ ?_); first | ((with_reducible refine aC_ ?_); first | refine aH_ (aa_ rfl) rfl rfl (ar_ rfl (ab_ (o := 0) rfl Tryz.underlying45 rfl zs35 rfl)) rfl rfl rfl ?_ | refine aH_ (aa_ rfl) rfl rfl (ar_ rfl (ab_ (o := 2) rfl Tryz.underlying45 rfl zs35 rfl)) rfl rfl rfl ?_ | refine aH_ (aa_ rfl) rfl rfl (ar_ rfl (ab_ (o := 4) rfl Tryz.underlying45 rfl zs3 rfl)) rfl rfl rfl ?_) | ((with_reducible refine aZ_ ?_); first | refine aO_ (aa_ rfl) rfl (ar_ rfl (aj_ rfl ah_ Tryz.underlying35 rfl zs35 rfl rfl)) rfl rfl rfl ?_ | refine aO_ (aa_ rfl) rfl (ar_ rfl (ae_ rfl ah_ Tryz.underlying3 rfl rfl)) rfl rfl rfl ?_) | ((with_reducible refine bg_ ?_); refine wx_a0 (aa_ rfl) rfl (bh_ rfl Tryz.underlying238 zs26 zz26 rfl rfl) rfl rfl ?_) | ((with_reducible refine bw_ (f := 96) ?_); refine wx_ee (aa_ rfl) rfl rfl (aK_ rfl rfl (c96 _ _ _)) rfl rfl ?_) | ((with_reducible refine bw_ (f := 94) ?_); (refine aM_ (aa_ rfl) rfl rfl rfl rfl (c94 aA_) rfl rfl ?_; rintro _ _ ⟨rfl, hq⟩; all_goals (try (have hqn := hq.nx); try simp only [aU_] at hqn))) | ((with_reducible refine bw_ (f := 95) ?_); (refine aM_ (aa_ rfl) rfl rfl rfl rfl (c95 aA_) rfl rfl ?_; rintro _ _ ⟨rfl, hq⟩; all_goals (try (have hqn := hq.nx); try simp only [aU_] at hqn)))) | ((with_reducible refine bm_ ?_); refine aH_ (aa_ rfl) rfl rfl (ar_ rfl (aW_ rfl)) rfl rfl rfl ?_) | ((with_reducible refine aV_ ?_); ((with_reducible refine cq_ ?_); refine wx_e1 (aa_ rfl) rfl rfl rfl (aK_ rfl rfl (qf _ _ (Sl.ofAt (show At _ _ (.cells [.int .i64 (ptE x y 100000), .int .i64 (ptE u v 1000), .int .i64 (rngE t 1 4096)] 26 1 false) from ah_) rfl (Nat.le_refl _)))) rfl rfl ?_)) | refine bU_ ?_ ?_ rfl rfl ?_) | with_reducible exact aP_ | with_reducible refine aJ_ ?_ ?_ | ((with_reducible refine bi_ ?_); first | exact aS_ | refine aQ_ rfl ?_ | refine am_ rfl rfl (ar_ rfl (aj_ rfl ah_ Tryz.underlying35 rfl zs35 (by rfl) rfl)) ?_ | refine am_ rfl rfl (ar_ rfl (ae_ rfl ah_ Tryz.underlying3 rfl (by rfl))) ?_) | with_reducible exact bV_ | with_reducible refine bE_ ?_ ?_ | ((with_reducible refine ck_ ?_); first | exact bW_ rfl rfl | exact bu_ rfl rfl aA_ gr_B) | refine ap_ ?_ | refine aF_ (id := 1) 12 [0, 1, 3, 0, 8, 31, 0, 64, 255, 511, 1023, 2047] [0, 1, 2, 3, 4, 5, 6, 7, 8, 9, 10, 11] (by kernel_rfl) (by kernel_rfl) rfl rfl ?_)
 exact rq1 rfl ⟨rfl, au_⟩
set_option maxHeartbeats 2000000 in
theorem c27 {r sp lo cl so : Int} (hw : Wf h) : Cf (mz G) (.func (.func 27) #[] #[]) [.agg ⟨[.int .i64 r, .int .i64 sp, .int .i64 lo, .int .i64 cl, .int .i64 so]⟩] h fun rr h' => rr = .int .i64 (watE r sp lo cl so) ∧ Grow h h' := by
 have qf := fun (h' : H) (vv : Value) (s : Sl G h' 1 vv 5 ([rngE r 0 10000, rngE sp 0 1000, rngE lo 0 1000, rngE cl 0 1000, rngE so 0 1000].map (.int .i64))) => c93 s (by omega)
 rw [show firstNZ [rngE r 0 10000, rngE sp 0 1000, rngE lo 0 1000, rngE cl 0 1000, rngE so 0 1000] = watE r sp lo cl so from rfl] at qf
 refine ak_ 20 [.tmp 2] Tryz.func27 rfl rfl rfl rfl ?_
 repeat' (first | with_reducible refine ad_ ?_ | ((with_reducible refine ac_ ?_); refine ao_ ?_) | ((with_reducible refine bb_ ?_); first | ((with_reducible refine bd_ ?_); first | ((with_reducible refine aC_ ?_); first | refine aH_ (aa_ rfl) rfl rfl (ar_ rfl (ab_ (o := 0) rfl Tryz.underlying46 rfl zs3 rfl)) rfl rfl rfl ?_ | refine aH_ (aa_ rfl) rfl rfl (ar_ rfl (ab_ (o := 1) rfl Tryz.underlying46 rfl zs3 rfl)) rfl rfl rfl ?_ | refine aH_ (aa_ rfl) rfl rfl (ar_ rfl (ab_ (o := 2) rfl Tryz.underlying46 rfl zs3 rfl)) rfl rfl rfl ?_ | refine aH_ (aa_ rfl) rfl rfl (ar_ rfl (ab_ (o := 3) rfl Tryz.underlying46 rfl zs3 rfl)) rfl rfl rfl ?_ | refine aH_ (aa_ rfl) rfl rfl (ar_ rfl (ab_ (o := 4) rfl Tryz.underlying46 rfl zs3 rfl)) rfl rfl rfl ?_) | ((with_reducible refine aZ_ ?_); refine aO_ (aa_ rfl) rfl (ar_ rfl (ae_ rfl ah_ Tryz.underlying3 rfl rfl)) rfl rfl rfl ?_) | ((with_reducible refine bg_ ?_); refine wx_a0 (aa_ rfl) rfl (bh_ rfl Tryz.underlying238 zs26 zz26 rfl rfl) rfl rfl ?_) | ((with_reducible refine bw_ (f := 96) ?_); refine wx_ee (aa_ rfl) rfl rfl (aK_ rfl rfl (c96 _ _ _)) rfl rfl ?_)) | ((with_reducible refine bm_ ?_); refine aH_ (aa_ rfl) rfl rfl (ar_ rfl (aW_ rfl)) rfl rfl rfl ?_) | ((with_reducible refine aV_ ?_); ((with_reducible refine cq_ ?_); refine wx_e1 (aa_ rfl) rfl rfl rfl (aK_ rfl rfl (qf _ _ (Sl.ofAt (show At _ _ (.cells [.int .i64 (rngE r 0 10000), .int .i64 (rngE sp 0 1000), .int .i64 (rngE lo 0 1000), .int .i64 (rngE cl 0 1000), .int .i64 (rngE so 0 1000)] 26 1 false) from ah_) rfl (Nat.le_refl _)))) rfl rfl ?_)) | refine bU_ ?_ ?_ rfl rfl ?_) | with_reducible exact aP_ | with_reducible refine aJ_ ?_ ?_ | ((with_reducible refine bi_ ?_); first | exact aS_ | refine aQ_ rfl ?_ | refine am_ rfl rfl (ar_ rfl (ae_ rfl ah_ Tryz.underlying3 rfl (by rfl))) ?_) | with_reducible exact bV_ | with_reducible refine bE_ ?_ ?_ | ((with_reducible refine ck_ ?_); first | exact bW_ rfl rfl | exact bu_ rfl rfl aA_ gr_B) | refine ap_ ?_ | refine aF_ (id := 1) 18 [0, 1, 3, 0, 8, 31, 0, 64, 255, 0, 512, 2047, 0, 4096, 16383, 32767, 65535, 131071] [0, 1, 2, 3, 4, 5, 6, 7, 8, 9, 10, 11, 12, 13, 14, 15, 16, 17] (by kernel_rfl) (by kernel_rfl) rfl rfl ?_)
 exact rq1 rfl ⟨rfl, au_⟩
set_option maxHeartbeats 2000000 in
theorem c26 {x y u v t : Int} (hw : Wf h) : Cf (mz G) (.func (.func 26) #[] #[]) [.agg ⟨[.int .i64 x, .int .i64 y, .int .i64 u, .int .i64 v, .int .i64 t]⟩] h fun rr h' => rr = .int .i64 (vesE x y u v t) ∧ Grow h h' := by
 have qf := fun (h' : H) (vv : Value) (s : Sl G h' 1 vv 3 ([ptE x y 100000, ptE u v 1000, rngE t 1 4096].map (.int .i64))) => c91 s (by omega)
 rw [show firstNZ [ptE x y 100000, ptE u v 1000, rngE t 1 4096] = vesE x y u v t from rfl] at qf
 refine ak_ 14 [.tmp 2] Tryz.func26 rfl rfl rfl rfl ?_
 repeat' (first | with_reducible refine ad_ ?_ | ((with_reducible refine ac_ ?_); refine ao_ ?_) | ((with_reducible refine bb_ ?_); first | ((with_reducible refine bd_ ?_); first | ((with_reducible refine aC_ ?_); first | refine aH_ (aa_ rfl) rfl rfl (ar_ rfl (ab_ (o := 0) rfl Tryz.underlying37 rfl zs35 rfl)) rfl rfl rfl ?_ | refine aH_ (aa_ rfl) rfl rfl (ar_ rfl (ab_ (o := 2) rfl Tryz.underlying37 rfl zs35 rfl)) rfl rfl rfl ?_ | refine aH_ (aa_ rfl) rfl rfl (ar_ rfl (ab_ (o := 4) rfl Tryz.underlying37 rfl zs3 rfl)) rfl rfl rfl ?_) | ((with_reducible refine aZ_ ?_); first | refine aO_ (aa_ rfl) rfl (ar_ rfl (aj_ rfl ah_ Tryz.underlying35 rfl zs35 rfl rfl)) rfl rfl rfl ?_ | refine aO_ (aa_ rfl) rfl (ar_ rfl (ae_ rfl ah_ Tryz.underlying3 rfl rfl)) rfl rfl rfl ?_) | ((with_reducible refine bg_ ?_); refine wx_a0 (aa_ rfl) rfl (bh_ rfl Tryz.underlying49 zs3 zz3 rfl rfl) rfl rfl ?_) | ((with_reducible refine bw_ (f := 72) ?_); refine wx_ee (aa_ rfl) rfl rfl (aK_ rfl rfl (c72 _ _ _)) rfl rfl ?_) | ((with_reducible refine bw_ (f := 97) ?_); (refine aM_ (aa_ rfl) rfl rfl rfl rfl (c97 (by decide) (by decide) aA_) rfl rfl ?_; rintro _ _ ⟨rfl, hq⟩; all_goals (try (have hqn := hq.nx); try simp only [aU_] at hqn)))) | ((with_reducible refine bm_ ?_); refine aH_ (aa_ rfl) rfl rfl (ar_ rfl (aW_ rfl)) rfl rfl rfl ?_) | ((with_reducible refine aV_ ?_); ((with_reducible refine cq_ ?_); refine wx_e1 (aa_ rfl) rfl rfl rfl (aK_ rfl rfl (qf _ _ (Sl.ofAt (show At _ _ (.cells [.int .i64 (ptE x y 100000), .int .i64 (ptE u v 1000), .int .i64 (rngE t 1 4096)] 3 1 false) from ah_) rfl (Nat.le_refl _)))) rfl rfl ?_)) | refine bU_ ?_ ?_ rfl rfl ?_) | with_reducible exact aP_ | with_reducible refine aJ_ ?_ ?_ | ((with_reducible refine bi_ ?_); first | exact aS_ | refine aQ_ rfl ?_ | refine am_ rfl rfl (ar_ rfl (aj_ rfl ah_ Tryz.underlying35 rfl zs35 (by rfl) rfl)) ?_ | refine am_ rfl rfl (ar_ rfl (ae_ rfl ah_ Tryz.underlying3 rfl (by rfl))) ?_) | with_reducible exact bV_ | with_reducible refine bE_ ?_ ?_ | ((with_reducible refine ck_ ?_); first | exact bW_ rfl rfl | exact bu_ rfl rfl aA_ gr_B) | refine ap_ ?_ | refine aF_ (id := 1) 12 [0, 1, 3, 0, 8, 31, 0, 64, 255, 511, 1023, 2047] [0, 1, 2, 3, 4, 5, 6, 7, 8, 9, 10, 11] (by kernel_rfl) (by kernel_rfl) rfl rfl ?_)
 exact rq1 rfl ⟨rfl, au_⟩
set_option maxHeartbeats 2000000 in
theorem c28 {r sp lo cl so : Int} (hw : Wf h) : Cf (mz G) (.func (.func 28) #[] #[]) [.agg ⟨[.int .i64 r, .int .i64 sp, .int .i64 lo, .int .i64 cl, .int .i64 so]⟩] h fun rr h' => rr = .int .i64 (watE r sp lo cl so) ∧ Grow h h' := by
 have qf := fun (h' : H) (vv : Value) (s : Sl G h' 1 vv 5 ([rngE r 0 10000, rngE sp 0 1000, rngE lo 0 1000, rngE cl 0 1000, rngE so 0 1000].map (.int .i64))) => c91 s (by omega)
 rw [show firstNZ [rngE r 0 10000, rngE sp 0 1000, rngE lo 0 1000, rngE cl 0 1000, rngE so 0 1000] = watE r sp lo cl so from rfl] at qf
 refine ak_ 20 [.tmp 2] Tryz.func28 rfl rfl rfl rfl ?_
 repeat' (first | with_reducible refine ad_ ?_ | ((with_reducible refine ac_ ?_); refine ao_ ?_) | ((with_reducible refine bb_ ?_); first | ((with_reducible refine bd_ ?_); first | ((with_reducible refine aC_ ?_); first | refine aH_ (aa_ rfl) rfl rfl (ar_ rfl (ab_ (o := 0) rfl Tryz.underlying39 rfl zs3 rfl)) rfl rfl rfl ?_ | refine aH_ (aa_ rfl) rfl rfl (ar_ rfl (ab_ (o := 1) rfl Tryz.underlying39 rfl zs3 rfl)) rfl rfl rfl ?_ | refine aH_ (aa_ rfl) rfl rfl (ar_ rfl (ab_ (o := 2) rfl Tryz.underlying39 rfl zs3 rfl)) rfl rfl rfl ?_ | refine aH_ (aa_ rfl) rfl rfl (ar_ rfl (ab_ (o := 3) rfl Tryz.underlying39 rfl zs3 rfl)) rfl rfl rfl ?_ | refine aH_ (aa_ rfl) rfl rfl (ar_ rfl (ab_ (o := 4) rfl Tryz.underlying39 rfl zs3 rfl)) rfl rfl rfl ?_) | ((with_reducible refine aZ_ ?_); refine aO_ (aa_ rfl) rfl (ar_ rfl (ae_ rfl ah_ Tryz.underlying3 rfl rfl)) rfl rfl rfl ?_) | ((with_reducible refine bg_ ?_); refine wx_a0 (aa_ rfl) rfl (bh_ rfl Tryz.underlying49 zs3 zz3 rfl rfl) rfl rfl ?_) | ((with_reducible refine bw_ (f := 72) ?_); refine wx_ee (aa_ rfl) rfl rfl (aK_ rfl rfl (c72 _ _ _)) rfl rfl ?_)) | ((with_reducible refine bm_ ?_); refine aH_ (aa_ rfl) rfl rfl (ar_ rfl (aW_ rfl)) rfl rfl rfl ?_) | ((with_reducible refine aV_ ?_); ((with_reducible refine cq_ ?_); refine wx_e1 (aa_ rfl) rfl rfl rfl (aK_ rfl rfl (qf _ _ (Sl.ofAt (show At _ _ (.cells [.int .i64 (rngE r 0 10000), .int .i64 (rngE sp 0 1000), .int .i64 (rngE lo 0 1000), .int .i64 (rngE cl 0 1000), .int .i64 (rngE so 0 1000)] 3 1 false) from ah_) rfl (Nat.le_refl _)))) rfl rfl ?_)) | refine bU_ ?_ ?_ rfl rfl ?_) | with_reducible exact aP_ | with_reducible refine aJ_ ?_ ?_ | ((with_reducible refine bi_ ?_); first | exact aS_ | refine aQ_ rfl ?_ | refine am_ rfl rfl (ar_ rfl (ae_ rfl ah_ Tryz.underlying3 rfl (by rfl))) ?_) | with_reducible exact bV_ | with_reducible refine bE_ ?_ ?_ | ((with_reducible refine ck_ ?_); first | exact bW_ rfl rfl | exact bu_ rfl rfl aA_ gr_B) | refine ap_ ?_ | refine aF_ (id := 1) 18 [0, 1, 3, 0, 8, 31, 0, 64, 255, 0, 512, 2047, 0, 4096, 16383, 32767, 65535, 131071] [0, 1, 2, 3, 4, 5, 6, 7, 8, 9, 10, 11, 12, 13, 14, 15, 16, 17] (by kernel_rfl) (by kernel_rfl) rfl rfl ?_)
 exact rq1 rfl ⟨rfl, au_⟩
theorem cells_left {G : Base} {h : H} {a : Addr} {x y : List Value} (c : Cells G h a (x ++ y)) : Cells G h a x := ⟨c.lt, fun i v q => c.get i v (by rw [List.getElem?_append_left (List.getElem?_eq_some_iff.1 q).1]; exact q), c.spot, c.own⟩
theorem cells_sub {G : Base} {h : H} {a : Addr} {x : List Value} (c : Cells G h a x) (k : Nat) : Cells G h (aadd a k) (x.drop k) := ⟨c.lt, fun i v q => by
 have := c.get (k + i) v (by rw [List.getElem?_drop] at q; exact q)
 rw [show aadd (aadd a k) i = aadd a (k + i) by simp [aadd, Nat.add_assoc]]; exact this, c.spot, c.own⟩
theorem aN_ {M : Mc} {l : KL} {h : H} {t : TypeId} {x : Operand} {a : Addr} {c : List Value} {d : TypeDesc} {n : Nat} (hx : val l x = some (.pointer (some a))) (hu : M.P.underlying t = some d) (hd : isAggD d = true) (hn : tsz M.P t = some n) (hc : acells M.G h n a = some c) : Op1 M (.load t x) l h (.agg ⟨c⟩) h :=
 op_load hx (ld_agg hu hd hn hc)
theorem flat_len {α : Type} {f : α → List Value} {w : Nat} (hf : ∀ a, (f a).length = w) : ∀ l : List α, (l.flatMap f).length = l.length * w
 | [] => by simp
 | p :: ps => by rw [List.flatMap_cons, List.length_append, flat_len hf ps, hf, List.length_cons, Nat.succ_mul]; omega
theorem flat_drop {α : Type} {f : α → List Value} {w : Nat} (hf : ∀ a, (f a).length = w) (d : α) : ∀ (l : List α) (k : Nat), k < l.length → (l.flatMap f).drop (k * w) = f (l.getD k d) ++ (l.drop (k + 1)).flatMap f
 | p :: ps, 0, _ => by simp
 | p :: ps, k + 1, hk => by
   have ih := flat_drop hf d ps k (by simpa using hk)
   have e : ((p :: ps).flatMap f).drop ((k + 1) * w) = (ps.flatMap f).drop (k * w) := by
     rw [List.flatMap_cons, show (k + 1) * w = (f p).length + k * w by rw [hf, Nat.succ_mul]; omega, List.drop_append]
     simp
   rw [e, ih]; rfl
theorem cw_ {α : Type} {f : α → List Value} {w : Nat} (hf : ∀ a, (f a).length = w) (d : α) {v : Value} {n : Nat} {l : List α} (s : Sl G h w v n (l.flatMap f)) (hl : l.length = n) {st et : TypeId} (hu : Tryz.prog.underlying st = some (.slice et)) (hz : tsz Tryz.prog et = some w) {i : Int} {q : Nat} (hq : q < n) (hi : i = (q : Int)) :
   ∃ ad, aindexAddr Tryz.prog st v (.int .i64 i) = some (.pointer (some ad)) ∧ ∀ h', Grow h h' → Cells G h' ad (f (l.getD q d)) := by
 have key : ∀ h', Grow h h' → ∃ ad, aindexAddr Tryz.prog st v (.int .i64 i) = some (.pointer (some ad)) ∧ Cells G h' ad (f (l.getD q d)) := fun h' g => by
   obtain ⟨ad, h1, h2⟩ := (s.grow g).addr (M := mz G) hu (es := w) hz (i := i) (k := .i64) (by omega) (by omega)
   rw [show i.toNat * w = q * w by rw [hi, Int.toNat_natCast], flat_drop hf d l q (by omega)] at h2
   exact ⟨ad, h1, cells_left h2⟩
 obtain ⟨ad, h1, _⟩ := key h (Grow.refl _)
 refine ⟨ad, h1, fun h' g => ?_⟩
 obtain ⟨ad', k1, k2⟩ := key h' g
 rw [h1] at k1
 cases k1
 exact k2
theorem cf_ {α : Type} {l : List α} {k : Nat} (d : α) (h : k < l.length) : l.take (k + 1) = l.take k ++ [l.getD k d] := by
 rw [List.take_succ_eq_append_getElem h]; simp [List.getD, List.getElem?_eq_getElem h]
theorem drop_next {α : Type} {l : List α} {k : Nat} (d : α) (h : k < l.length) : l.drop k = l.getD k d :: l.drop (k + 1) := by
 rw [List.drop_eq_getElem_cons h]; simp [List.getD, List.getElem?_eq_getElem h]
end Go.Proofs.YtlioomhcdlicmaaGreatDoor
