/- Survey: names; results, roll calls, results checked by the program. -/
import Derived.Test.YtlioomhcdlicmaaGreatDoorC1
import Derived.Test.YtlioomhcdlicmaaGreatDoorK2
import Derived.Test.YtlioomhcdlicmaaGreatDoorC12
set_option linter.all false
/- Survey: names. -/
namespace Go.Proofs.YtlioomhcdlicmaaGreatDoor
open Go Go.Ab Go.Fl
attribute [local irreducible] SeqQ BlkQ LpQ RetQ Wc Wo WD WX Op1 Op1q Op1a Cf Cl From
attribute [local irreducible] Ieee.Format.order Ieee.Format.read Ieee.Format.nearest Ieee.Format.write Ieee.Format.mul Ieee.Format.div Ieee.Format.sqrt Ieee.Datum.order Ieee.Datum.integral K U rngE errN ptE firstNZ vesE watE
set_option maxRecDepth 10000
variable {G : Base} {h : H}
def letB (n : Int) : Bool := decide (65 ≤ n ∧ n ≤ 90) || decide (97 ≤ n ∧ n ≤ 122)
def digB (n : Int) : Bool := decide (48 ≤ n ∧ n ≤ 57)
theorem c186 (n : Int) : Cl (mz G) (.func (.func 186) #[] #[]) [.int .i32 n] h (.bool (letB n)) h := by
 refine cu_ (ak_ 17 [.tmp 2] Tryz.func186 rfl rfl rfl rfl ?_)
 repeat' (first | with_reducible refine ad_ ?_ | ((with_reducible refine ac_ ?_); first | ((with_reducible refine cC_ ?_); first | refine bn_ rfl rfl rfl rfl rfl rfl ?_ | refine wo_gskip' rfl rfl rfl rfl rfl ?_ | ((with_reducible refine bH_ ?_); refine ai_ rfl rfl rfl (aD_ rfl) rfl rfl ?_) | ((with_reducible refine bB_ ?_); first | refine ai_ rfl rfl rfl (op_geq rfl rfl) rfl rfl ?_ | refine ai_ rfl rfl rfl (op_leq rfl rfl) rfl rfl ?_) | ((with_reducible refine ig_pick ?_); first | refine ai_ rfl rfl rfl (cb_ rfl rfl) rfl rfl ?_ | refine ai_ rfl rfl rfl (ct_ rfl rfl) rfl rfl ?_) | (refine aY_ rfl rfl rfl (fun hb => ?_) (fun hb => ?_) <;> (try simp only [aX_, reduceCtorEq] at hb) <;> (try (exfalso; omega)))) | refine ao_ ?_) | refine ap_ ?_)
 all_goals refine rq1 rfl ⟨?_, rfl⟩
 all_goals (congr 1; unfold letB; rw [Bool.eq_iff_iff]; simp; omega)
theorem c184 (n : Int) : Cl (mz G) (.func (.func 184) #[] #[]) [.int .u8 n] h (.bool (letB n)) h := by
 refine cu_ (ak_ 17 [.tmp 2] Tryz.func184 rfl rfl rfl rfl ?_)
 repeat' (first | with_reducible refine ad_ ?_ | ((with_reducible refine ac_ ?_); first | ((with_reducible refine cC_ ?_); first | refine bn_ rfl rfl rfl rfl rfl rfl ?_ | refine wo_gskip' rfl rfl rfl rfl rfl ?_ | ((with_reducible refine bH_ ?_); refine ai_ rfl rfl rfl (aD_ rfl) rfl rfl ?_) | ((with_reducible refine bB_ ?_); refine ai_ rfl rfl rfl (op_leq rfl rfl) rfl rfl ?_) | ((with_reducible refine ig_pick ?_); first | refine ai_ rfl rfl rfl (cb_ rfl rfl) rfl rfl ?_ | refine ai_ rfl rfl rfl (ct_ rfl rfl) rfl rfl ?_) | (refine aY_ rfl rfl rfl (fun hb => ?_) (fun hb => ?_) <;> (try simp only [aX_, reduceCtorEq] at hb) <;> (try (exfalso; omega)))) | refine ao_ ?_) | refine ap_ ?_)
 all_goals refine rq1 rfl ⟨?_, rfl⟩
 all_goals (congr 1; unfold letB; rw [Bool.eq_iff_iff]; simp; omega)
theorem c187 (n : Int) : Cl (mz G) (.func (.func 187) #[] #[]) [.int .i32 n] h (.bool (digB n)) h := by
 refine cu_ (ak_ 9 [.tmp 2] Tryz.func187 rfl rfl rfl rfl ?_)
 repeat' (first | with_reducible refine ad_ ?_ | ((with_reducible refine ac_ ?_); first | ((with_reducible refine cC_ ?_); first | refine bn_ rfl rfl rfl rfl rfl rfl ?_ | ((with_reducible refine bH_ ?_); refine ai_ rfl rfl rfl (aD_ rfl) rfl rfl ?_) | ((with_reducible refine bB_ ?_); refine ai_ rfl rfl rfl (op_leq rfl rfl) rfl rfl ?_) | (refine aY_ rfl rfl rfl (fun hb => ?_) (fun hb => ?_) <;> (try simp only [aX_, reduceCtorEq] at hb) <;> (try (exfalso; omega)))) | refine ao_ ?_) | refine ap_ ?_)
 all_goals refine rq1 rfl ⟨?_, rfl⟩
 all_goals (congr 1; unfold digB; rw [Bool.eq_iff_iff]; simp; omega)
theorem c185 (n : Int) : Cl (mz G) (.func (.func 185) #[] #[]) [.int .u8 n] h (.bool (digB n)) h := by
 refine cu_ (ak_ 9 [.tmp 2] Tryz.func185 rfl rfl rfl rfl ?_)
 repeat' (first | with_reducible refine ad_ ?_ | ((with_reducible refine ac_ ?_); first | ((with_reducible refine cC_ ?_); first | refine bn_ rfl rfl rfl rfl rfl rfl ?_ | ((with_reducible refine bH_ ?_); refine ai_ rfl rfl rfl (aD_ rfl) rfl rfl ?_) | ((with_reducible refine bB_ ?_); refine ai_ rfl rfl rfl (op_leq rfl rfl) rfl rfl ?_) | (refine aY_ rfl rfl rfl (fun hb => ?_) (fun hb => ?_) <;> (try simp only [aX_, reduceCtorEq] at hb) <;> (try (exfalso; omega)))) | refine ao_ ?_) | refine ap_ ?_)
 all_goals refine rq1 rfl ⟨?_, rfl⟩
 all_goals (congr 1; unfold digB; rw [Bool.eq_iff_iff]; simp; omega)
def bv (s : ByteArray) (i : Nat) : Nat := (s.get! i).toNat
theorem bv_get {s : ByteArray} {i : Nat} (hi : i < s.size) : s[i]? = some (s.get! i) := by
 rw [getElem?_pos s i hi]
 congr 1
 show s.data[i] = s.data[i]!
 rw [getElem!_pos s.data i hi]
theorem dec_low {s : ByteArray} {i : Nat} (hb : bv s i < 128) : Utf8.decode s i = (bv s i, 1) := by
 unfold bv at *
 unfold Utf8.decode
 simp only [Nat.add_zero]
 rw [if_pos hb]
theorem dec_high {s : ByteArray} {i : Nat} (hb : 128 ≤ bv s i) : 128 ≤ (Utf8.decode s i).1 ∧ 1 ≤ (Utf8.decode s i).2 := by
 unfold bv at *
 unfold Utf8.decode Utf8.runeError
 simp only [Nat.add_zero]
 rw [if_neg (by omega)]
 repeat' split
 all_goals simp_all
 all_goals omega
def okAt (s : ByteArray) (i : Nat) : Bool := letB (bv s i) || (decide (i ≠ 0) && (digB (bv s i) || decide (bv s i = 95)))
def isNameB (s : ByteArray) : Bool := decide (1 ≤ s.size ∧ s.size ≤ 24) && (List.range s.size).all (okAt s)
theorem isNameB_bad {s : ByteArray} {i : Nat} (hi : i < s.size) (h : okAt s i = false) : isNameB s = false := by
 unfold isNameB
 have : (List.range s.size).all (okAt s) = false := by
   rw [List.all_eq_false]
   exact ⟨i, List.mem_range.2 hi, by simp [h]⟩
 rw [this, Bool.and_false]
theorem isNameB_good {s : ByteArray} (hl : 1 ≤ s.size ∧ s.size ≤ 24) (h : ∀ j, j < s.size → okAt s j = true) : isNameB s = true := by
 unfold isNameB
 rw [decide_eq_true hl, Bool.true_and, List.all_eq_true]
 exact fun j hj => h j (List.mem_range.1 hj)
theorem isNameB_len {s : ByteArray} (hl : ¬(1 ≤ s.size ∧ s.size ≤ 24)) : isNameB s = false := by
 unfold isNameB
 rw [decide_eq_false hl, Bool.false_and]
theorem c170 (s : ByteArray) : Cf (mz G) (.func (.func 170) #[] #[]) [.string s] h fun v h' => v = .bool (isNameB s) ∧ Grow h h' := by
 by_cases hl : 1 ≤ s.size ∧ s.size ≤ 24
 · refine ak_ 32 [.tmp 2] Tryz.func170 rfl rfl rfl rfl ?_
   repeat' (first | with_reducible refine ad_ ?_ | ((with_reducible refine ac_ ?_); first | ((with_reducible refine av_ ?_); refine aq_ (cd_ rfl Tryz.underlying9) ?_) | ((with_reducible refine cC_ ?_); first | ((with_reducible refine bH_ ?_); refine ai_ rfl rfl rfl (aD_ rfl) rfl rfl ?_) | ((with_reducible refine ig_callb ?_); refine ai_ rfl rfl rfl (cd_ rfl Tryz.underlying9) rfl rfl ?_) | ((with_reducible refine bB_ ?_); refine ai_ rfl rfl rfl (bM_ rfl rfl) rfl rfl ?_) | (refine aY_ rfl rfl rfl (fun hb => ?_) (fun hb => ?_) <;> (try simp only [aX_, reduceCtorEq] at hb) <;> (try (exfalso; omega)))) | refine ao_ ?_) | refine ap_ ?_ | (refine aG_ rfl (fun hb => ?_) (fun hb => ?_) <;> (try simp only [aX_, reduceCtorEq] at hb) <;> (try (exfalso; omega))))
   refine bo_ (fun p => s.size - p) (fun p : Nat => [(14, .pointer (some ⟨h.nx, 0, some 0⟩))]) (fun p h' => Grow h h' ∧ At h' h.nx (.iter s p) ∧ ∀ j, j < p → okAt s j = true) 0 (af_ ⟨rfl, trivial⟩) ⟨au_, ah_, fun j hj => by omega⟩ ?_
   rintro p h' ⟨hgr, hat, hok⟩
   by_cases hp : p < s.size
   · by_cases hlow : bv s p < 128
     · have hd := dec_low hlow
       have step : ∀ h2, okAt s p = true → h2 = h'.set h.nx (.iter s (p + 1)) → Grow h h2 ∧ At h2 h.nx (.iter s (p + 1)) ∧ ∀ j, j < p + 1 → okAt s j = true := by
         rintro h2 ho rfl
         refine ⟨au_, ah_, fun j hj => ?_⟩
         by_cases q : j = p
         · rw [q]; exact ho
         · exact hok j (by omega)
       have hok' : okAt s p = (letB (bv s p) || (decide (¬(p : Int) = 0) && (digB (bv s p) || decide ((bv s p : Int) = 95)))) := by
         unfold okAt
         congr 2
         · rw [Bool.eq_iff_iff]; simp
         · congr 1; rw [Bool.eq_iff_iff]; simp; omega
       repeat' (first | with_reducible refine ad_ ?_ | ((with_reducible refine ac_ ?_); first | ((with_reducible refine ik_next ?_); refine aq_ (op_nextAs rfl hat hp hd) ?_) | ((with_reducible refine bK_ (f := 186) ?_); refine aq_ (aK_ rfl rfl (c186 _)) ?_) | ((with_reducible refine cC_ ?_); first | refine bn_ rfl rfl rfl rfl rfl rfl ?_ | refine wo_gskip' rfl rfl rfl rfl rfl ?_ | ((with_reducible refine bH_ ?_); refine ai_ rfl rfl rfl (aD_ rfl) rfl rfl ?_) | ((with_reducible refine bB_ ?_); refine ai_ rfl rfl rfl (cH_ rfl rfl) rfl rfl ?_) | ((with_reducible refine ig_pick ?_); first | refine ai_ rfl rfl rfl (cb_ rfl rfl) rfl rfl ?_ | refine ai_ rfl rfl rfl (ct_ rfl rfl) rfl rfl ?_) | ((with_reducible refine ig_un ?_); refine ai_ rfl rfl rfl (cG_ rfl) rfl rfl ?_) | ((with_reducible refine ig_callF (f := 187) ?_); refine ai_ rfl rfl rfl (aK_ rfl rfl (c187 _)) rfl rfl ?_) | (refine aY_ rfl rfl rfl (fun hb => ?_) (fun hb => ?_) <;> (try simp only [aX_, reduceCtorEq] at hb) <;> (try (exfalso; omega)))) | refine ao_ ?_) | refine ap_ ?_ | (refine aG_ rfl (fun hb => ?_) (fun hb => ?_) <;> (try simp only [aX_, reduceCtorEq] at hb) <;> (try (exfalso; omega))))
       all_goals first
         | (refine aI_ (p + 1) (by omega) (af_ ⟨rfl, trivial⟩) (step _ ?_ rfl); rw [hok']; clear step hok' hok; generalize letB ((bv s p : Nat) : Int) = L at *; generalize digB ((bv s p : Nat) : Int) = D at *; simp_all; done)
         | (refine rq1 rfl ⟨?_, au_⟩; rw [isNameB_bad hp]; rw [hok']; clear step hok' hok; generalize letB ((bv s p : Nat) : Int) = L at *; generalize digB ((bv s p : Nat) : Int) = D at *; simp_all; done)
     · obtain ⟨g1, g2⟩ := dec_high (s := s) (i := p) (by omega)
       have k1 : letB ((Utf8.decode s p).1 : Int) = false := by unfold letB; simp; omega
       have k2 : digB ((Utf8.decode s p).1 : Int) = false := by unfold digB; simp; omega
       have k3 : okAt s p = false := by unfold okAt letB digB; simp; omega
       have k4 : ∀ h, Cl (mz G) (.func (.func 186) #[] #[]) [.int .i32 ((Utf8.decode s p).1 : Int)] h (.bool false) h := fun h => by rw [← k1]; exact c186 _
       have k5 : ∀ h, Cl (mz G) (.func (.func 187) #[] #[]) [.int .i32 ((Utf8.decode s p).1 : Int)] h (.bool false) h := fun h => by rw [← k2]; exact c187 _
       repeat' (first | with_reducible refine ad_ ?_ | ((with_reducible refine ac_ ?_); first | ((with_reducible refine ik_next ?_); refine aq_ (op_next rfl hat hp) ?_) | ((with_reducible refine at_ ?_); refine aq_ (aK_ rfl rfl (k4 _)) ?_) | ((with_reducible refine cC_ ?_); first | refine bn_ rfl rfl rfl rfl rfl rfl ?_ | refine wo_gskip' rfl rfl rfl rfl rfl ?_ | ((with_reducible refine bH_ ?_); refine ai_ rfl rfl rfl (aD_ rfl) rfl rfl ?_) | ((with_reducible refine bB_ ?_); refine ai_ rfl rfl rfl (cH_ rfl rfl) rfl rfl ?_) | ((with_reducible refine ig_pick ?_); refine ai_ rfl rfl rfl (cb_ rfl rfl) rfl rfl ?_) | ((with_reducible refine ig_un ?_); refine ai_ rfl rfl rfl (cG_ rfl) rfl rfl ?_) | ((with_reducible refine cL_ ?_); refine ai_ rfl rfl rfl (aK_ rfl rfl (k5 _)) rfl rfl ?_) | (refine aY_ rfl rfl rfl (fun hb => ?_) (fun hb => ?_) <;> (try simp only [aX_, reduceCtorEq] at hb) <;> (try (exfalso; omega)))) | refine ao_ ?_) | refine ap_ ?_ | (refine aG_ rfl (fun hb => ?_) (fun hb => ?_) <;> (try simp only [aX_, reduceCtorEq] at hb) <;> (try (exfalso; omega))))
       all_goals (refine rq1 rfl ⟨?_, au_⟩; rw [isNameB_bad hp k3])
   · repeat' (first | with_reducible refine ad_ ?_ | ((with_reducible refine ac_ ?_); first | ((with_reducible refine ik_next ?_); refine aq_ (op_nextEnd rfl hat hp) ?_) | refine ao_ ?_) | refine ap_ ?_)
     refine rq1 rfl ⟨?_, hgr⟩
     rw [isNameB_good hl fun j hj => hok j (by omega)]
 · refine ak_ 32 [.tmp 2] Tryz.func170 rfl rfl rfl rfl ?_
   repeat' (first | with_reducible refine ad_ ?_ | ((with_reducible refine ac_ ?_); first | ((with_reducible refine av_ ?_); refine aq_ (cd_ rfl Tryz.underlying9) ?_) | ((with_reducible refine cC_ ?_); first | refine bn_ rfl rfl rfl rfl rfl rfl ?_ | ((with_reducible refine bH_ ?_); refine ai_ rfl rfl rfl (aD_ rfl) rfl rfl ?_) | ((with_reducible refine ig_callb ?_); refine ai_ rfl rfl rfl (cd_ rfl Tryz.underlying9) rfl rfl ?_) | ((with_reducible refine bB_ ?_); refine ai_ rfl rfl rfl (bM_ rfl rfl) rfl rfl ?_) | (refine aY_ rfl rfl rfl (fun hb => ?_) (fun hb => ?_) <;> (try simp only [aX_, reduceCtorEq] at hb) <;> (try (exfalso; omega)))) | refine ao_ ?_) | refine ap_ ?_ | (refine aG_ rfl (fun hb => ?_) (fun hb => ?_) <;> (try simp only [aX_, reduceCtorEq] at hb) <;> (try (exfalso; omega))))
   all_goals refine rq1 rfl ⟨?_, .refl _⟩
   all_goals rw [isNameB_len hl]
theorem c168 (s : ByteArray) (hs : s.size ≤ 1000000) : Cl (mz G) (.func (.func 168) #[] #[]) [.string s] h (.bool (isNameB s)) h := by
 by_cases hl : 1 ≤ s.size ∧ s.size ≤ 24
 · have h0 : s[(0 : Int).toNat]? = some (s.get! 0) := bv_get (by omega)
   have k0 : okAt s 0 = letB (bv s 0) := by unfold okAt; simp
   refine cu_ (ak_ 42 [.tmp 2] Tryz.func168 rfl rfl rfl rfl ?_)
   repeat' (first | with_reducible refine ad_ ?_ | ((with_reducible refine ac_ ?_); first | ((with_reducible refine av_ ?_); refine aq_ (cd_ rfl Tryz.underlying9) ?_) | ((with_reducible refine cC_ ?_); first | ((with_reducible refine bH_ ?_); refine ai_ rfl rfl rfl (aD_ rfl) rfl rfl ?_) | ((with_reducible refine ig_index ?_); refine ai_ rfl rfl rfl (op_idxStr rfl rfl Tryz.underlying9 (by omega) h0) rfl rfl ?_) | ((with_reducible refine ig_callb ?_); refine ai_ rfl rfl rfl (cd_ rfl Tryz.underlying9) rfl rfl ?_) | ((with_reducible refine bB_ ?_); refine ai_ rfl rfl rfl (bM_ rfl rfl) rfl rfl ?_) | ((with_reducible refine ig_un ?_); refine ai_ rfl rfl rfl (cG_ rfl) rfl rfl ?_) | ((with_reducible refine ig_callF (f := 184) ?_); refine ai_ rfl rfl rfl (aK_ rfl rfl (c184 _)) rfl rfl ?_) | (refine aY_ rfl rfl rfl (fun hb => ?_) (fun hb => ?_) <;> (try simp only [aX_, reduceCtorEq] at hb) <;> (try (exfalso; omega)))) | refine ao_ ?_) | refine ap_ ?_ | (refine aG_ rfl (fun hb => ?_) (fun hb => ?_) <;> (try simp only [aX_, reduceCtorEq] at hb) <;> (try (exfalso; omega))))
   · refine rq1 rfl ⟨?_, rfl⟩
     rw [isNameB_bad (by omega) (k0.trans hb)]
   · refine bo_ (fun p => s.size - p) (fun p : Nat => [(0, .string s), (3, .int .i64 p)]) (fun p h' => h' = h ∧ 1 ≤ p ∧ p ≤ s.size ∧ ∀ j, j < p → okAt s j = true) 1 (af_ ⟨rfl, rfl, trivial⟩) ⟨rfl, by omega, by omega, fun j hj => by rw [show j = 0 by omega]; exact k0.trans hb⟩ ?_
     rintro p h' ⟨rfl, h1, h2, hok⟩
     by_cases hp : p < s.size
     · have hg : s[((p : Nat) : Int).toNat]? = some (s.get! p) := bv_get hp
       have hok' : okAt s p = (letB (bv s p) || (digB (bv s p) || decide ((bv s p : Int) = 95))) := by
         unfold okAt
         rw [decide_eq_true (show p ≠ 0 by omega), Bool.true_and]
         congr 2; rw [Bool.eq_iff_iff]; simp; omega
       have step : okAt s p = true → ∀ j, j < p + 1 → okAt s j = true := by
         intro ho j hj
         by_cases q : j = p
         · rw [q]; exact ho
         · exact hok j (by omega)
       repeat' (first | with_reducible refine ad_ ?_ | ((with_reducible refine ac_ ?_); first | ((with_reducible refine bv_ ?_); refine aq_ (op_idxStr rfl rfl Tryz.underlying9 (by omega) hg) ?_) | ((with_reducible refine av_ ?_); refine aq_ (cd_ rfl Tryz.underlying9) ?_) | ((with_reducible refine bK_ (f := 184) ?_); refine aq_ (aK_ rfl rfl (c184 _)) ?_) | ((with_reducible refine cC_ ?_); first | refine bn_ rfl rfl rfl rfl rfl rfl ?_ | ((with_reducible refine bH_ ?_); refine ai_ rfl rfl rfl (aD_ rfl) rfl rfl ?_) | ((with_reducible refine ig_index ?_); refine ai_ rfl rfl rfl (op_idxStr rfl rfl Tryz.underlying9 (by omega) hg) rfl rfl ?_) | ((with_reducible refine bB_ ?_); refine ai_ rfl rfl rfl (cH_ rfl rfl) rfl rfl ?_) | ((with_reducible refine ig_un ?_); refine ai_ rfl rfl rfl (cG_ rfl) rfl rfl ?_) | ((with_reducible refine ig_callF (f := 185) ?_); refine ai_ rfl rfl rfl (aK_ rfl rfl (c185 _)) rfl rfl ?_) | (refine aY_ rfl rfl rfl (fun hb => ?_) (fun hb => ?_) <;> (try simp only [aX_, reduceCtorEq] at hb) <;> (try (exfalso; omega)))) | refine ao_ ?_) | refine ap_ ?_ | (refine aG_ rfl (fun hb => ?_) (fun hb => ?_) <;> (try simp only [aX_, reduceCtorEq] at hb) <;> (try (exfalso; omega))))
       all_goals first
         | (refine aI_ (p + 1) (by omega) (af_ ⟨rfl, rfl, trivial⟩) ⟨rfl, by omega, by omega, step ?_⟩; rw [hok']; simp_all [bv]; done)
         | (refine rq1 rfl ⟨?_, rfl⟩; rw [isNameB_bad hp]; rw [hok']; simp_all [bv]; done)
     · repeat' (first | with_reducible refine ad_ ?_ | ((with_reducible refine ac_ ?_); first | ((with_reducible refine av_ ?_); refine aq_ (cd_ rfl Tryz.underlying9) ?_) | refine ao_ ?_) | refine ap_ ?_ | (refine aG_ rfl (fun hb => ?_) (fun hb => ?_) <;> (try simp only [aX_, reduceCtorEq] at hb) <;> (try (exfalso; omega))))
       refine rq1 rfl ⟨?_, rfl⟩
       rw [isNameB_good hl fun j hj => hok j (by omega)]
 · by_cases hz : s.size = 0
   · refine cu_ (ak_ 42 [.tmp 2] Tryz.func168 rfl rfl rfl rfl ?_)
     repeat' (first | with_reducible refine ad_ ?_ | ((with_reducible refine ac_ ?_); first | ((with_reducible refine av_ ?_); refine aq_ (cd_ rfl Tryz.underlying9) ?_) | ((with_reducible refine cC_ ?_); first | refine bn_ rfl rfl rfl rfl rfl rfl ?_ | (refine aY_ rfl rfl rfl (fun hb => ?_) (fun hb => ?_) <;> (try simp only [aX_, reduceCtorEq] at hb) <;> (try (exfalso; omega)))) | refine ao_ ?_) | refine ap_ ?_)
     all_goals refine rq1 rfl ⟨?_, rfl⟩
     all_goals rw [isNameB_len hl]
   · have h0 : s[(0 : Int).toNat]? = some (s.get! 0) := bv_get (by omega)
     refine cu_ (ak_ 42 [.tmp 2] Tryz.func168 rfl rfl rfl rfl ?_)
     repeat' (first | with_reducible refine ad_ ?_ | ((with_reducible refine ac_ ?_); first | ((with_reducible refine av_ ?_); refine aq_ (cd_ rfl Tryz.underlying9) ?_) | ((with_reducible refine cC_ ?_); first | refine bn_ rfl rfl rfl rfl rfl rfl ?_ | ((with_reducible refine bH_ ?_); refine ai_ rfl rfl rfl (aD_ rfl) rfl rfl ?_) | ((with_reducible refine ig_callb ?_); refine ai_ rfl rfl rfl (cd_ rfl Tryz.underlying9) rfl rfl ?_) | ((with_reducible refine bB_ ?_); refine ai_ rfl rfl rfl (bM_ rfl rfl) rfl rfl ?_) | (refine aY_ rfl rfl rfl (fun hb => ?_) (fun hb => ?_) <;> (try simp only [aX_, reduceCtorEq] at hb) <;> (try (exfalso; omega)))) | refine ao_ ?_) | refine ap_ ?_)
     all_goals refine rq1 rfl ⟨?_, rfl⟩
     all_goals rw [isNameB_len hl]
def nmE (s : ByteArray) : Int := if isNameB s = true then 0 else 8
theorem c124 (s : ByteArray) (hs : s.size ≤ 1000000) : Cl (mz G) (.func (.func 124) #[] #[]) [.string s] h (.int .i64 (nmE s)) h := by
 have q1 := fun (h : H) => c168 (G := G) (h := h) s hs
 unfold nmE
 generalize isNameB s = b at q1 ⊢
 cases b with
 | true =>
   refine cu_ (ak_ 7 [.tmp 2] Tryz.func124 rfl rfl rfl rfl ?_)
   repeat' (first | with_reducible refine ad_ ?_ | ((with_reducible refine ac_ ?_); first | ((with_reducible refine at_ ?_); refine aq_ (aK_ rfl rfl (q1 _)) ?_) | ((with_reducible refine bK_ (f := 143) ?_); refine aq_ (aK_ rfl rfl (c143 _ _)) ?_) | refine ao_ ?_) | refine ap_ ?_)
   exact rq1 rfl ⟨rfl, rfl⟩
 | false =>
   refine cu_ (ak_ 7 [.tmp 2] Tryz.func124 rfl rfl rfl rfl ?_)
   repeat' (first | with_reducible refine ad_ ?_ | ((with_reducible refine ac_ ?_); first | ((with_reducible refine at_ ?_); refine aq_ (aK_ rfl rfl (q1 _)) ?_) | ((with_reducible refine bK_ (f := 143) ?_); refine aq_ (aK_ rfl rfl (c143 _ _)) ?_) | refine ao_ ?_) | refine ap_ ?_)
   exact rq1 rfl ⟨rfl, rfl⟩
end Go.Proofs.YtlioomhcdlicmaaGreatDoor
/- Survey: results; roll calls by the program. -/
namespace Go.Proofs.YtlioomhcdlicmaaGreatDoor
open Go Go.Ab Go.Fl
attribute [local irreducible] SeqQ BlkQ LpQ RetQ Wc Wo WD WX Op1 Op1q Op1a Cf Cl From
attribute [local irreducible] Ieee.Format.order Ieee.Format.read Ieee.Format.nearest Ieee.Format.write Ieee.Format.mul Ieee.Format.div Ieee.Format.sqrt Ieee.Datum.order Ieee.Datum.integral K U rngE errN ptE firstNZ vesE watE sgE sgsE allE hitB sqD insB qsL lvl rn rl altB isNameB nmE
set_option maxRecDepth 10000
variable {G : Base} {h : H}
theorem u246 : Tryz.prog.underlying 246 = some (.map 9 4) := by kernel_rfl
structure Rs where
 nm : ByteArray
 fo : Int
 wa : Int
@[reducible] def Rs.cells (p : Rs) : List Value := [.string p.nm, .int .i64 p.fo, .int .i64 p.wa]
theorem Rs.len (p : Rs) : p.cells.length = 3 := rfl
theorem Rs.flat {l : List Rs} : (l.flatMap Rs.cells).length = l.length * 3 := flat_len Rs.len l
set_option maxHeartbeats 4000000 in
theorem c55 {v : Value} {n : Nat} {l : List Rs} (s : Sl G h 3 v n (l.flatMap Rs.cells)) (hl : l.length = n) (hn : n < 1000000) (hw : Wf h) : Cf (mz G) (.func (.func 55) #[] #[]) [v] h fun r h' => Sl G h' 3 r n (l.flatMap Rs.cells) ∧ Grow h h' := by
 obtain ⟨a, c, rfl⟩ := s.form
 refine ak_ 18 [.tmp 2] Tryz.func55 rfl rfl rfl rfl ?_
 repeat' (first | with_reducible refine ad_ ?_ | ((with_reducible refine ac_ ?_); first | ((with_reducible refine av_ ?_); refine aq_ (ax_ rfl Tryz.underlying106) ?_) | refine ao_ ?_) | refine ap_ ?_)
 refine bo_ (fun p : Nat × Value => n - p.1) (fun p => [(3, p.2), (6, .slice a n c), (7, .int .i64 n), (8, .int .i64 (p.1 : Nat))]) (fun p h' => (Wf h' ∧ Grow h h') ∧ p.1 ≤ n ∧ ((p.2 = .slice none 0 0 ∧ p.1 = 0) ∨ ∃ e, h.nx ≤ e ∧ p.2 = .slice (some ⟨e, 0, some 0⟩) p.1 p.1 ∧ At h' e (.cells ((l.take p.1).flatMap Rs.cells) 208 3 true))) (0, .slice none 0 0) (af_ ⟨rfl, rfl, rfl, rfl, trivial⟩) ⟨⟨aA_, au_⟩, Nat.zero_le _, .inl ⟨rfl, rfl⟩⟩ ?_
 rintro ⟨k, v⟩ h1 ⟨⟨w1, g1⟩, hk, hv⟩
 simp only at hk hv ⊢
 have n1 := g1.nx
 by_cases hlt : k < n
 · obtain ⟨id, i1, i3⟩ := cw_ Rs.len ⟨.empty, 0, 0⟩ (s.grow g1) hl Tryz.underlying106 zs207 (i := (k : Int)) hlt rfl
   obtain ⟨p, hp⟩ : ∃ p, l.getD k ⟨.empty, 0, 0⟩ = p := ⟨_, rfl⟩
   have e1 : (l.take (k + 1)).flatMap Rs.cells = (l.take k).flatMap Rs.cells ++ p.cells := by
     rw [cf_ ⟨.empty, 0, 0⟩ (by omega), hp, List.flatMap_append]; simp
   rw [hp] at i3
   obtain ⟨nm, fo, wa⟩ := p
   dsimp only [Rs.cells] at i3
   rcases hv with ⟨rfl, rfl⟩ | ⟨e, hb, rfl, hat⟩
   · repeat' (first | with_reducible refine ad_ ?_ | ((with_reducible refine ac_ ?_); first | ((with_reducible refine an_ ?_); refine aq_ (ag_ rfl rfl i1) ?_) | ((with_reducible refine al_ ?_); first | refine aq_ (aN_ rfl Tryz.underlying207 rfl zs207 (i3 _ au_).all) ?_ | refine aq_ (aj_ rfl ah_ Tryz.underlying207 rfl zs207 rfl rfl) ?_) | ((with_reducible refine av_ ?_); refine aq_ (bl_ rfl rfl (bz_ (M := mz G) (st := 110) (xt := 110) (m := 1) Tryz.underlying110 Tryz.underlying110 rfl bR_ zb208 zz208 rfl (Sl.ofAt ah_ rfl (Nat.le_refl _)) rfl (by omega) (by omega))) ?_) | ((with_reducible refine ay_ ?_); refine bQ_ (aB_ rfl rfl ah_ zs207 rfl rfl rfl rfl) ?_) | ((with_reducible refine aE_ ?_); refine aq_ (aR_ rfl Tryz.underlying110 bR_ zz208 rfl rfl) ?_) | refine ao_ ?_) | refine ap_ ?_ | (refine aG_ rfl (fun hb => ?_) (fun hb => aw_ hb); (try simp only [aX_, reduceCtorEq] at hb)))
     exact aI_ (0 + 1, .slice (some ⟨_, 0, some 0⟩) (0 + 1) (0 + 1)) (by simp only; omega) (af_ ⟨rfl, rfl, rfl, rfl, trivial⟩) ⟨⟨aA_, au_⟩, by simp only; omega, .inr ⟨_, by simp only [H.nx_push, H.nx_set, H.nx_bump, H.nx_kill]; omega, rfl, by simp only; rw [e1]; exact ah_⟩⟩
   · have l1 := hat.lt
     repeat' (first | with_reducible refine ad_ ?_ | ((with_reducible refine ac_ ?_); first | ((with_reducible refine an_ ?_); refine aq_ (ag_ rfl rfl i1) ?_) | ((with_reducible refine al_ ?_); first | refine aq_ (aN_ rfl Tryz.underlying207 rfl zs207 (i3 _ au_).all) ?_ | refine aq_ (aj_ rfl ah_ Tryz.underlying207 rfl zs207 rfl rfl) ?_) | ((with_reducible refine av_ ?_); refine aq_ (bl_ rfl rfl (br_ (M := mz G) (st := 110) (xt := 110) (m := 1) Tryz.underlying110 Tryz.underlying110 rfl bR_ zb208 zz208 rfl (Sl.ofAt ah_ rfl (Nat.le_refl _)) rfl (b := e) (c := (l.take k).flatMap Rs.cells) ah_ (by rw [Rs.flat, List.length_take]; omega) (by omega) (by omega))) ?_) | ((with_reducible refine ay_ ?_); refine bQ_ (aB_ rfl rfl ah_ zs207 rfl rfl rfl rfl) ?_) | ((with_reducible refine aE_ ?_); refine aq_ (aR_ rfl Tryz.underlying110 bR_ zz208 rfl rfl) ?_) | refine ao_ ?_) | refine ap_ ?_ | (refine aG_ rfl (fun hb => ?_) (fun hb => aw_ hb); (try simp only [aX_, reduceCtorEq] at hb)))
     exact aI_ (k + 1, .slice (some ⟨_, 0, some 0⟩) (k + 1) (k + 1)) (by simp only; omega) (af_ ⟨rfl, rfl, rfl, rfl, trivial⟩) ⟨⟨aA_, au_⟩, by simp only; omega, .inr ⟨_, by simp only [H.nx_push, H.nx_set, H.nx_bump, H.nx_kill]; omega, rfl, by simp only; rw [e1]; exact ah_⟩⟩
 · have hkn : k = n := by omega
   subst hkn
   rw [show l.take k = l by rw [List.take_of_length_le (by omega)]] at hv
   repeat' (first | with_reducible refine ad_ ?_ | ((with_reducible refine ac_ ?_); refine ao_ ?_) | refine ap_ ?_ | (refine aG_ rfl (fun hb => ?_) (fun hb => ?_) <;> (try simp only [aX_, reduceCtorEq] at hb) <;> (try (exfalso; omega))))
   refine rq1 rfl ⟨?_, au_⟩
   rcases hv with ⟨rfl, rfl⟩ | ⟨e, hb, rfl, hat⟩
   · have htn : l = [] := by simpa using hl
     subst htn
     exact .nil
   · exact Sl.ofAt hat (by rw [Rs.flat, hl]) (Nat.le_refl _)
def shoR (l : List Rs) : Bool := l.all (fun e => decide (e.nm.size ≤ 40)) && decide (l.length ≤ 8 ∨ l.length = 65)
set_option maxHeartbeats 4000000 in
theorem c53 {v : Value} {n : Nat} {l : List Rs} (s : Sl G h 3 v n (l.flatMap Rs.cells)) (hl : l.length = n) (hn : n ≤ maxLen) (hw : Wf h) : Cf (mz G) (.func (.func 53) #[] #[]) [v] h fun r h' => r = .bool (shoR l) ∧ Grow h h' := by
 obtain ⟨a, c, rfl⟩ := s.form
 have hml : maxLen = 9223372036854775807 := rfl
 refine ak_ 25 [.tmp 2] Tryz.func53 rfl rfl rfl rfl ?_
 repeat' (first | with_reducible refine ad_ ?_ | ((with_reducible refine ac_ ?_); ((with_reducible refine cx_ ?_); refine aq_ (aW_ rfl) ?_)) | refine ap_ ?_)
 refine bo_ (fun i => n - i) (fun i : Nat => [(0, .slice a n c), (3, .int .i64 (i : Nat))]) (fun i h' => (Wf h' ∧ Grow h h') ∧ i ≤ n ∧ (l.take i).all (fun e => decide (e.nm.size ≤ 40)) = true) 0 (af_ ⟨rfl, rfl, trivial⟩) ⟨⟨aA_, au_⟩, Nat.zero_le _, rfl⟩ ?_
 rintro i h1 ⟨⟨w1, g1⟩, hi, hp⟩
 have n1 := g1.nx
 by_cases hlt : i < n
 · obtain ⟨id, i1, i3⟩ := cw_ Rs.len ⟨.empty, 0, 0⟩ (s.grow g1) hl Tryz.underlying106 zs207 (i := (i : Int)) hlt rfl
   have nx : (l.take (i + 1)).all (fun e => decide (e.nm.size ≤ 40)) = ((l.take i).all (fun e => decide (e.nm.size ≤ 40)) && decide ((l.getD i ⟨.empty, 0, 0⟩).nm.size ≤ 40)) := by
     rw [cf_ ⟨.empty, 0, 0⟩ (by omega), List.all_append]; simp
   have hm : l.getD i ⟨.empty, 0, 0⟩ ∈ l := by simp [List.getD, List.getElem?_eq_getElem (show i < l.length by omega)]
   rw [hp, Bool.true_and] at nx
   obtain ⟨x0, hx⟩ : ∃ x, l.getD i ⟨.empty, 0, 0⟩ = x := ⟨_, rfl⟩
   rw [hx] at i3 nx hm
   obtain ⟨nm, fo, wa⟩ := x0
   have ic := fun (h' : H) (g' : Grow h1 h') => (show acell G h' (aadd id 0) = some (.string nm) from (i3 h' g').get 0 _ rfl)
   dsimp only at nx
   by_cases h40 : nm.size ≤ 40
   · rw [decide_eq_true h40] at nx
     repeat' (first | with_reducible refine ad_ ?_ | ((with_reducible refine ac_ ?_); first | ((with_reducible refine an_ ?_); refine aq_ (ag_ rfl rfl i1) ?_) | ((with_reducible refine al_ ?_); refine aq_ (az_ rfl Tryz.underlying9 rfl (ic _ au_)) ?_) | ((with_reducible refine av_ ?_); first | refine aq_ (ax_ rfl Tryz.underlying106) ?_ | refine aq_ (cd_ rfl Tryz.underlying9) ?_) | refine ao_ ?_) | refine ap_ ?_ | (refine aG_ rfl (fun hb => aw_ hb) (fun hb => ?_); (try simp only [aX_, reduceCtorEq] at hb)) | (refine aG_ rfl (fun hb => ?_) (fun hb => aw_ hb); (try simp only [aX_, reduceCtorEq] at hb)))
     exact aI_ (i + 1) (by omega) (af_ ⟨rfl, rfl, trivial⟩) ⟨⟨aA_, au_⟩, by omega, nx⟩
   · have hf : shoR l = false := by
       unfold shoR
       have : l.all (fun e => decide (e.nm.size ≤ 40)) = false := by
         rw [← Bool.not_eq_true, List.all_eq_true]
         exact fun q => h40 (of_decide_eq_true (q _ hm))
       rw [this, Bool.false_and]
     rw [hf]
     repeat' (first | with_reducible refine ad_ ?_ | ((with_reducible refine ac_ ?_); first | ((with_reducible refine an_ ?_); refine aq_ (ag_ rfl rfl i1) ?_) | ((with_reducible refine al_ ?_); refine aq_ (az_ rfl Tryz.underlying9 rfl (ic _ au_)) ?_) | ((with_reducible refine av_ ?_); first | refine aq_ (ax_ rfl Tryz.underlying106) ?_ | refine aq_ (cd_ rfl Tryz.underlying9) ?_) | refine ao_ ?_) | refine ap_ ?_ | (refine aG_ rfl (fun hb => ?_) (fun hb => aw_ hb); (try simp only [aX_, reduceCtorEq] at hb)))
     exact rq1 rfl ⟨rfl, au_⟩
 · rw [List.take_of_length_le (by omega)] at hp
   have hf : shoR l = decide (n ≤ 8 ∨ n = 65) := by unfold shoR; rw [hp, Bool.true_and, hl]
   rw [hf]
   repeat' (first | with_reducible refine ad_ ?_ | ((with_reducible refine ac_ ?_); first | ((with_reducible refine av_ ?_); refine aq_ (ax_ rfl Tryz.underlying106) ?_) | ((with_reducible refine cC_ ?_); first | refine bn_ rfl rfl rfl rfl rfl rfl ?_ | ((with_reducible refine bH_ ?_); refine ai_ rfl rfl rfl (aD_ rfl) rfl rfl ?_) | ((with_reducible refine ig_callb ?_); refine ai_ rfl rfl rfl (ax_ rfl Tryz.underlying106) rfl rfl ?_) | ((with_reducible refine bB_ ?_); refine ai_ rfl rfl rfl (op_eql rfl rfl) rfl rfl ?_) | (refine aY_ rfl rfl rfl (fun hb => ?_) (fun hb => ?_) <;> (try simp only [aX_, reduceCtorEq] at hb) <;> (try (exfalso; omega)))) | refine ao_ ?_) | refine ap_ ?_ | (refine aG_ rfl (fun hb => ?_) (fun hb => ?_) <;> (try simp only [aX_, reduceCtorEq] at hb) <;> (try (exfalso; omega))))
   all_goals refine rq1 rfl ⟨?_, au_⟩
   all_goals first
     | (congr 1; exact (decide_eq_true (by omega)).symm)
     | (congr 1; exact (decide_eq_false (by omega)).symm)
     | (congr 1; rw [decide_eq_decide]; omega)
theorem c121 {nm : ByteArray} {fo wa : Int} (hw : Wf h) : Cf (mz G) (.func (.func 121) #[] #[]) [.agg ⟨[.string nm, .int .i64 fo, .int .i64 wa]⟩] h fun r h' => r = .bool (decide (wa ≤ fo)) ∧ Grow h h' := by
 refine ak_ 8 [.tmp 2] Tryz.func121 rfl rfl rfl rfl ?_
 repeat' (first | with_reducible refine ad_ ?_ | ((with_reducible refine ac_ ?_); first | ((with_reducible refine al_ ?_); refine aq_ (ae_ rfl ah_ Tryz.underlying3 rfl rfl) ?_) | refine ao_ ?_) | refine ap_ ?_)
 exact rq1 rfl ⟨by congr 1, au_⟩
theorem c129 {nm : ByteArray} {fo wa : Int} (hw : Wf h) : Cf (mz G) (.func (.func 129) #[] #[]) [.agg ⟨[.string nm, .int .i64 fo, .int .i64 wa]⟩] h fun r h' => r = .int .i64 (nmE nm) ∧ Grow h h' := by
 have q1 := fun (h : H) => c170 (G := G) (h := h) nm
 unfold nmE
 generalize isNameB nm = b at q1 ⊢
 cases b with
 | true =>
   refine ak_ 7 [.tmp 2] Tryz.func129 rfl rfl rfl rfl ?_
   repeat' (first | with_reducible refine ad_ ?_ | ((with_reducible refine ac_ ?_); first | ((with_reducible refine al_ ?_); refine aq_ (ae_ rfl ah_ Tryz.underlying9 rfl rfl) ?_) | ((with_reducible refine at_ ?_); (refine as_ rfl rfl rfl rfl (q1 _) rfl rfl ?_; rintro _ _ ⟨rfl, hq⟩; all_goals (try (have hqn := hq.nx); try simp only [aU_] at hqn))) | refine ao_ ?_) | refine ap_ ?_)
   exact rq1 rfl ⟨rfl, au_⟩
 | false =>
   refine ak_ 7 [.tmp 2] Tryz.func129 rfl rfl rfl rfl ?_
   repeat' (first | with_reducible refine ad_ ?_ | ((with_reducible refine ac_ ?_); first | ((with_reducible refine al_ ?_); refine aq_ (ae_ rfl ah_ Tryz.underlying9 rfl rfl) ?_) | ((with_reducible refine at_ ?_); (refine as_ rfl rfl rfl rfl (q1 _) rfl rfl ?_; rintro _ _ ⟨rfl, hq⟩; all_goals (try (have hqn := hq.nx); try simp only [aU_] at hqn))) | refine ao_ ?_) | refine ap_ ?_)
   exact rq1 rfl ⟨rfl, au_⟩
theorem c130 {nm : ByteArray} {fo wa : Int} (hw : Wf h) : Cf (mz G) (.func (.func 130) #[] #[]) [.agg ⟨[.string nm, .int .i64 fo, .int .i64 wa]⟩] h fun r h' => r = .string nm ∧ Grow h h' := by
 refine ak_ 5 [.tmp 2] Tryz.func130 rfl rfl rfl rfl ?_
 repeat' (first | with_reducible refine ad_ ?_ | ((with_reducible refine ac_ ?_); first | ((with_reducible refine al_ ?_); refine aq_ (ae_ rfl ah_ Tryz.underlying9 rfl rfl) ?_) | refine ao_ ?_) | refine ap_ ?_)
 exact rq1 rfl ⟨rfl, au_⟩
def foE (fo wa : Int) : Int := firstNZ [rngE fo 0 10000, rngE wa 0 10000]
theorem c133 {nm : ByteArray} {fo wa : Int} (hw : Wf h) : Cf (mz G) (.func (.func 133) #[] #[]) [.agg ⟨[.string nm, .int .i64 fo, .int .i64 wa]⟩] h fun r h' => r = .int .i64 (foE fo wa) ∧ Grow h h' := by
 have qf := fun (h' : H) (v : Value) (s : Sl G h' 1 v 2 ([rngE fo 0 10000, rngE wa 0 10000].map (.int .i64))) => c93 s (by omega)
 rw [show firstNZ [rngE fo 0 10000, rngE wa 0 10000] = foE fo wa from rfl] at qf
 refine ak_ 11 [.tmp 2] Tryz.func133 rfl rfl rfl rfl ?_
 repeat' (first | with_reducible refine ad_ ?_ | ((with_reducible refine ac_ ?_); refine ao_ ?_) | ((with_reducible refine bb_ ?_); first | ((with_reducible refine bd_ ?_); first | ((with_reducible refine aC_ ?_); first | refine aH_ (aa_ rfl) rfl rfl (ar_ rfl (ab_ (o := 1) rfl Tryz.underlying208 rfl zs3 rfl)) rfl rfl rfl ?_ | refine aH_ (aa_ rfl) rfl rfl (ar_ rfl (ab_ (o := 2) rfl Tryz.underlying208 rfl zs3 rfl)) rfl rfl rfl ?_) | ((with_reducible refine aZ_ ?_); refine aO_ (aa_ rfl) rfl (ar_ rfl (ae_ rfl ah_ Tryz.underlying3 rfl rfl)) rfl rfl rfl ?_) | ((with_reducible refine bg_ ?_); refine wx_a0 (aa_ rfl) rfl (bh_ rfl Tryz.underlying238 zs26 zz26 rfl rfl) rfl rfl ?_) | ((with_reducible refine bw_ (f := 96) ?_); refine wx_ee (aa_ rfl) rfl rfl (aK_ rfl rfl (c96 _ _ _)) rfl rfl ?_)) | ((with_reducible refine bm_ ?_); refine aH_ (aa_ rfl) rfl rfl (ar_ rfl (aW_ rfl)) rfl rfl rfl ?_) | ((with_reducible refine aV_ ?_); ((with_reducible refine cq_ ?_); refine wx_e1 (aa_ rfl) rfl rfl rfl (aK_ rfl rfl (qf _ _ (Sl.ofAt (show At _ _ (.cells [.int .i64 (rngE fo 0 10000), .int .i64 (rngE wa 0 10000)] 26 1 false) from ah_) rfl (Nat.le_refl _)))) rfl rfl ?_)) | refine bU_ ?_ ?_ rfl rfl ?_) | with_reducible exact aP_ | with_reducible refine aJ_ ?_ ?_ | ((with_reducible refine bi_ ?_); first | exact aS_ | refine aQ_ rfl ?_ | refine am_ rfl rfl (ar_ rfl (ae_ rfl ah_ Tryz.underlying3 rfl (by rfl))) ?_) | with_reducible exact bV_ | with_reducible refine bE_ ?_ ?_ | ((with_reducible refine ck_ ?_); first | exact bW_ rfl rfl | exact bu_ rfl rfl aA_ gr_B) | refine ap_ ?_ | refine aF_ (id := 1) 9 [0, 1, 3, 0, 8, 31, 63, 127, 255] [0, 1, 2, 3, 4, 5, 6, 7, 8] (by kernel_rfl) (by kernel_rfl) rfl rfl ?_)
 exact rq1 rfl ⟨rfl, au_⟩
def inN (s : ByteArray) (tl : List ByteArray) : Bool := tl.any fun a => decide (s = a)
def told (tl : List ByteArray) : List (Value × Value) := tl.map fun s => (.string s, .bool true)
theorem find_str (s : ByteArray) : ∀ (tl : List ByteArray) (i : Nat), (inN s tl = false ∧ afind .string (.string s) (told tl) i = some none) ∨ (inN s tl = true ∧ ∃ j, afind .string (.string s) (told tl) i = some (some (j, .bool true)))
 | [], i => .inl ⟨rfl, rfl⟩
 | a :: tl, i => by
   have e : afind .string (.string s) (told (a :: tl)) i = (match some (s == a) with | some true => some (some (i, .bool true)) | some false => afind .string (.string s) (told tl) (i + 1) | none => none) := rfl
   have e2 : inN s (a :: tl) = (decide (s = a) || inN s tl) := rfl
   rw [e, e2, ba_bq]
   by_cases h : s = a
   · rw [decide_eq_true h]; exact .inr ⟨rfl, _, rfl⟩
   · rw [decide_eq_false h]
     rcases find_str s tl (i + 1) with ⟨h1, h2⟩ | ⟨h1, j, h2⟩
     · exact .inl ⟨by rw [h1]; rfl, h2⟩
     · exact .inr ⟨by rw [h1]; rfl, j, h2⟩
theorem lk_names {h : H} {b : Nat} {tl : List ByteArray} {s : ByteArray} {v : Bool} (at1 : At h b (.map (told tl))) (hm : inN s tl = v) : alookup (mz G).P h 246 (.map (some b)) (.string s) false = some (.bool v) := by
 have zz : tzero Tryz.prog 4 = some (.bool false) := zz4
 show alookup Tryz.prog h 246 _ _ _ = _
 unfold alookup
 simp only [u246, Tryz.underlying9, zz, plainKey, plainVal, show gd (Value.bool false) = true from rfl, Bool.and_self, at1.get]
 rcases find_str s tl 0 with ⟨h1, h2⟩ | ⟨h1, j, h2⟩
 · rw [h2, ← hm, h1]; rfl
 · rw [h2, ← hm, h1]; rfl
theorem upd_names {h : H} {b : Nat} {tl : List ByteArray} {s : ByteArray} (at1 : At h b (.map (told tl))) (hm : inN s tl = false) : amapUpdate (mz G).P h 246 (.map (some b)) (.string s) (.bool true) = some (h.set b (.map (told (tl ++ [s])))) := by
 show amapUpdate Tryz.prog h 246 _ _ _ = _
 unfold amapUpdate
 simp only [u246, Tryz.underlying9, plainKey, plainVal, Bool.and_self, at1.get]
 rcases find_str s tl 0 with ⟨h1, h2⟩ | ⟨h1, j, h2⟩
 · rw [h2]; simp [told]
 · rw [hm] at h1; cases h1
@[reducible] def rcF (A B C : Nat) : Value := .func (.func 169) #[] #[.pointer (some ⟨A, 0, some 0⟩), .pointer (some ⟨B, 0, some 0⟩), .pointer (some ⟨C, 0, some 0⟩)]
theorem at_C {h : H} {b : Nat} {o : AObj} (q : At h b o := by (first | refine At.lay ?_ | refine At.set_ne (At.lay ?_) ?_ _); all_goals ((try dsimp only); simp only [H.nx_push, H.nx_set]; omega)) : At h b o := q
set_option maxHeartbeats 4000000 in
theorem c128 (hw : Wf h) : Cf (mz G) (.func (.func 128) #[] #[]) [.func (.func 129) #[] #[], .func (.func 130) #[] #[]] h fun r h' => r = rcF h.nx (h.nx + 3) (h.nx + 1) ∧ At h' (h.nx + 2) (.map (told [])) ∧ At h' (h.nx + 3) (.cells [.map (some (h.nx + 2))] 246 1 false) ∧ At h' h.nx (.cells [.func (.func 129) #[] #[]] 216 1 false) ∧ At h' (h.nx + 1) (.cells [.func (.func 130) #[] #[]] 218 1 false) ∧ Grow h h' := by
 refine ak_ 8 [.tmp 4] Tryz.func128 rfl rfl rfl rfl ?_
 repeat' (first | with_reducible refine ad_ ?_ | ((with_reducible refine ac_ ?_); first | ((with_reducible refine cE_ ?_); refine aq_ (co_ (fun _ q => by cases q) rfl rfl) ?_) | ((with_reducible refine cF_ ?_); refine aq_ (op_box1 rfl rfl zs216) ?_) | ((with_reducible refine ay_ ?_); refine bQ_ (op_st1 rfl rfl ah_ rfl zs246 rfl rfl rfl) ?_) | refine ao_ ?_) | refine ap_ ?_ | ((with_reducible refine ac_ ?_); refine aq_ (op_mkMap (M := mz G)) ?_))
 exact rq1 rfl ⟨rfl, ah_, at_C, ah_, ah_, au_⟩
set_option maxHeartbeats 4000000 in
theorem c169 {nm : ByteArray} {fo wa : Int} {tl : List ByteArray} {b A B C : Nat} (hw : Wf h) (at1 : At h b (.map (told tl))) (at2 : At h B (.cells [.map (some b)] 246 1 false)) (at3 : At h A (.cells [.func (.func 129) #[] #[]] 216 1 false)) (at4 : At h C (.cells [.func (.func 130) #[] #[]] 218 1 false)) : Cf (mz G) (rcF A B C) [.agg ⟨[.string nm, .int .i64 fo, .int .i64 wa]⟩] h fun r h' => r = .int .i64 (if nmE nm ≠ 0 then nmE nm else if inN nm tl = true then 9 else 0) ∧ Keep1 b h h' ∧ Wf h' ∧ (nmE nm = 0 → inN nm tl = false → At h' b (.map (told (tl ++ [nm])))) := by
 have qc := fun (h' : H) (w' : Wf h') => c129 (G := G) (h := h') (nm := nm) (fo := fo) (wa := wa) w'
 have qn := fun (h' : H) (w' : Wf h') => c130 (G := G) (h := h') (nm := nm) (fo := fo) (wa := wa) w'
 have l1 := at1.lt
 have l2 := at2.lt
 have l3 := at3.lt
 have l4 := at4.lt
 obtain ⟨E, hE⟩ : ∃ E, nmE nm = E := ⟨_, rfl⟩
 rw [hE] at qc ⊢
 by_cases hz : E = 0
 · subst hz
   rw [if_neg (by simp)]
   cases hm : inN nm tl with
   | true =>
     have hmem := hm
     rw [if_pos rfl]
     refine ch_ (sz := 22) (rs := [.tmp 5]) (all := [.agg ⟨[.string nm, .int .i64 fo, .int .i64 wa]⟩, .pointer (some ⟨A, 0, some 0⟩), .pointer (some ⟨B, 0, some 0⟩), .pointer (some ⟨C, 0, some 0⟩)]) Tryz.func169 rfl rfl rfl rfl rfl ?_
     repeat' (first | with_reducible refine ad_ ?_ | ((with_reducible refine ac_ ?_); first | ((with_reducible refine al_ ?_); first | refine aq_ (ae_ rfl ah_ Tryz.underlying216 rfl rfl) ?_ | refine aq_ (aj_ rfl ah_ Tryz.underlying208 rfl bR_ rfl rfl) ?_) | ((with_reducible refine at_ ?_); (refine as_ rfl rfl rfl rfl (qc _ aA_) rfl rfl ?_; rintro _ _ ⟨rfl, hq⟩; all_goals (try (have hqn := hq.nx); try simp only [aU_] at hqn))) | refine ao_ ?_) | ((with_reducible refine bb_ ?_); ((with_reducible refine bd_ ?_); first | ((with_reducible refine aZ_ ?_); first | refine aO_ (aa_ rfl) rfl (ar_ rfl (aj_ rfl ah_ Tryz.underlying208 rfl bR_ rfl rfl)) rfl rfl rfl ?_ | refine aO_ (aa_ rfl) rfl (ar_ rfl (ae_ rfl ah_ Tryz.underlying246 rfl rfl)) rfl rfl rfl ?_ | refine aO_ (aa_ rfl) rfl (ar_ rfl (ae_ rfl ah_ Tryz.underlying218 rfl rfl)) rfl rfl rfl ?_) | ((with_reducible refine aV_ ?_); (refine aM_ (aa_ rfl) rfl rfl rfl rfl (qn _ aA_) rfl rfl ?_; rintro _ _ ⟨rfl, hq⟩; all_goals (try (have hqn := hq.nx); try simp only [aU_] at hqn))) | with_reducible refine bj_ ?_ ?_)) | with_reducible exact aP_ | with_reducible refine aJ_ ?_ ?_ | ((with_reducible refine bi_ ?_); first | exact aS_ | refine aQ_ rfl ?_ | refine am_ rfl rfl (ar_ rfl (aj_ rfl ah_ Tryz.underlying208 rfl bR_ (by rfl) rfl)) ?_ | refine am_ rfl rfl (ar_ rfl (ae_ rfl ah_ Tryz.underlying246 rfl (by rfl))) ?_ | refine am_ rfl rfl (ar_ rfl (ae_ rfl ah_ Tryz.underlying218 rfl (by rfl))) ?_) | refine ap_ ?_ | refine aF_ (id := 4) 5 [0, 0, 0, 6, 15] [0, 1, 2, 3, 4] (by kernel_rfl) (by kernel_rfl) rfl rfl ?_ | (refine aO_ (aa_ rfl) rfl (ar_ rfl (cc_ rfl rfl (lk_names ah_ hmem))) rfl rfl rfl ?_) | (refine am_ rfl rfl (ar_ rfl (cc_ rfl rfl (lk_names ah_ hmem))) ?_))
     exact rq1 rfl ⟨rfl, Keep1.refl.grow au_, aA_, fun _ q => by cases q⟩
   | false =>
     have hmem := hm
     have hnot := hm
     rw [if_neg (by decide)]
     refine ch_ (sz := 22) (rs := [.tmp 5]) (all := [.agg ⟨[.string nm, .int .i64 fo, .int .i64 wa]⟩, .pointer (some ⟨A, 0, some 0⟩), .pointer (some ⟨B, 0, some 0⟩), .pointer (some ⟨C, 0, some 0⟩)]) Tryz.func169 rfl rfl rfl rfl rfl ?_
     repeat' (first | with_reducible refine ad_ ?_ | ((with_reducible refine ac_ ?_); first | ((with_reducible refine al_ ?_); first | refine aq_ (ae_ rfl ah_ Tryz.underlying216 rfl rfl) ?_ | refine aq_ (aj_ rfl ah_ Tryz.underlying208 rfl bR_ rfl rfl) ?_) | ((with_reducible refine at_ ?_); (refine as_ rfl rfl rfl rfl (qc _ aA_) rfl rfl ?_; rintro _ _ ⟨rfl, hq⟩; all_goals (try (have hqn := hq.nx); try simp only [aU_] at hqn))) | refine ao_ ?_) | ((with_reducible refine bb_ ?_); ((with_reducible refine bd_ ?_); first | ((with_reducible refine aZ_ ?_); first | refine aO_ (aa_ rfl) rfl (ar_ rfl (aj_ rfl ah_ Tryz.underlying208 rfl bR_ rfl rfl)) rfl rfl rfl ?_ | refine aO_ (aa_ rfl) rfl (ar_ rfl (ae_ rfl ah_ Tryz.underlying246 rfl rfl)) rfl rfl rfl ?_ | refine aO_ (aa_ rfl) rfl (ar_ rfl (ae_ rfl ah_ Tryz.underlying218 rfl rfl)) rfl rfl rfl ?_) | ((with_reducible refine aV_ ?_); (refine aM_ (aa_ rfl) rfl rfl rfl rfl (qn _ aA_) rfl rfl ?_; rintro _ _ ⟨rfl, hq⟩; all_goals (try (have hqn := hq.nx); try simp only [aU_] at hqn))) | with_reducible refine bj_ ?_ ?_)) | with_reducible exact aP_ | with_reducible refine aJ_ ?_ ?_ | ((with_reducible refine bi_ ?_); first | exact aS_ | refine aQ_ rfl ?_ | refine am_ rfl rfl (ar_ rfl (aj_ rfl ah_ Tryz.underlying208 rfl bR_ (by rfl) rfl)) ?_ | refine am_ rfl rfl (ar_ rfl (ae_ rfl ah_ Tryz.underlying246 rfl (by rfl))) ?_ | refine am_ rfl rfl (ar_ rfl (ae_ rfl ah_ Tryz.underlying218 rfl (by rfl))) ?_) | refine ap_ ?_ | refine aF_ (id := 4) 5 [0, 0, 0, 6, 15] [0, 1, 2, 3, 4] (by kernel_rfl) (by kernel_rfl) rfl rfl ?_ | refine aF_ (id := 6) 5 [0, 0, 0, 6, 15] [0, 1, 2, 3, 4] (by kernel_rfl) (by kernel_rfl) rfl rfl ?_ | (refine aO_ (aa_ rfl) rfl (ar_ rfl (cc_ rfl rfl (lk_names ah_ hmem))) rfl rfl rfl ?_) | (refine am_ rfl rfl (ar_ rfl (cc_ rfl rfl (lk_names ah_ hmem))) ?_) | (refine wx_ee0 (aa_ rfl) rfl rfl (op_mapUpd rfl rfl rfl (upd_names ah_ hnot)) rfl ?_))
     exact rq1 rfl ⟨rfl, (Keep1.refl.grow (show Grow h _ from au_)).set (At.lt (o := .map (told tl)) ah_) _, aA_, fun _ _ => ah_⟩
 · rw [if_pos hz]
   refine ch_ (sz := 22) (rs := [.tmp 5]) (all := [.agg ⟨[.string nm, .int .i64 fo, .int .i64 wa]⟩, .pointer (some ⟨A, 0, some 0⟩), .pointer (some ⟨B, 0, some 0⟩), .pointer (some ⟨C, 0, some 0⟩)]) Tryz.func169 rfl rfl rfl rfl rfl ?_
   repeat' (first | with_reducible refine ad_ ?_ | ((with_reducible refine ac_ ?_); first | ((with_reducible refine al_ ?_); first | refine aq_ (ae_ rfl ah_ Tryz.underlying216 rfl rfl) ?_ | refine aq_ (aj_ rfl ah_ Tryz.underlying208 rfl bR_ rfl rfl) ?_) | ((with_reducible refine at_ ?_); (refine as_ rfl rfl rfl rfl (qc _ aA_) rfl rfl ?_; rintro _ _ ⟨rfl, hq⟩; all_goals (try (have hqn := hq.nx); try simp only [aU_] at hqn))) | refine ao_ ?_) | refine ap_ ?_ | (refine aG_ rfl (fun hb => ?_) (fun hb => aw_ hb); (try simp only [aX_, reduceCtorEq] at hb)))
   exact rq1 rfl ⟨rfl, Keep1.refl.grow au_, aA_, fun q => absurd q hz⟩
end Go.Proofs.YtlioomhcdlicmaaGreatDoor
/- Survey: results checked by the program. -/
namespace Go.Proofs.YtlioomhcdlicmaaGreatDoor
open Go Go.Ab Go.Fl
attribute [local irreducible] SeqQ BlkQ LpQ RetQ Wc Wo WD WX Op1 Op1q Op1a Cf Cl From
attribute [local irreducible] Ieee.Format.order Ieee.Format.read Ieee.Format.nearest Ieee.Format.write Ieee.Format.mul Ieee.Format.div Ieee.Format.sqrt Ieee.Datum.order Ieee.Datum.integral K U rngE errN ptE firstNZ vesE watE sgE sgsE allE hitB sqD insB qsL lvl rn rl altB isNameB nmE foE
set_option maxRecDepth 10000
variable {G : Base} {h : H}
theorem Sl.keep1 {es n b : Nat} {w : Value} {L : List Value} {h' : H} {m : List (Value × Value)} (sl : Sl G h es w n L) (hb : At h b (.map m)) (k : Keep1 b h h') : Sl G h' es w n L := by
 cases sl with
 | nil => exact .nil
 | end' b o => exact .end' b o
 | mem a _ cc _ hl hc hnc ho =>
   have hne : a.spot = some 0 → a.block ≠ b := fun q e => by
     obtain ⟨c1, e1, s1, hg⟩ := ho q
     rw [e, hb.get] at hg
     cases hg
   refine .mem a n cc L hl ⟨fun q => Nat.lt_of_lt_of_le (hc.lt q) k.nx, fun i v q => ?_, hc.spot, fun q => ?_⟩ hnc fun q => ?_
   · have := hc.get i v q
     unfold acell at this ⊢
     rcases hc.spot with hs | hs
     · simp only [aadd, hs] at this ⊢; exact this
     · simp only [aadd, hs] at this ⊢
       rw [k.get _ (hc.lt hs) (hne hs)]; exact this
   · rw [k.get _ (hc.lt q) (hne q)]; exact hc.own q
   · rw [k.get _ (hc.lt q) (hne q)]; exact ho q
theorem Keep1.trans {b : Nat} {h1 h2 h3 : H} (x : Keep1 b h1 h2) (y : Keep1 b h2 h3) : Keep1 b h1 h3 := ⟨Nat.le_trans x.nx y.nx, fun n hn q => (y.get n (Nat.lt_of_lt_of_le hn x.nx) q).trans (x.get n hn q), fun w => y.wf (x.wf w)⟩
theorem Keep1.setN {b m : Nat} {h h' : H} (k : Keep1 b h h') (hm : h.nx ≤ m) (hl : m < h'.nx) (o : AObj) : Keep1 b h (h'.set m o) := ⟨by simp only [H.nx_set]; exact k.nx, fun n h1 q => by rw [H.get_set, if_neg (by omega)]; exact k.get n h1 q, fun w => Wf.set (k.wf w) hl _⟩
theorem firstNZ_two {E F : Int} : firstNZ [E, F] = if E ≠ 0 then E else F := by
 by_cases h : E = 0
 · subst h; rw [cm_, sing_nz, if_neg (by simp)]
 · rw [firstNZ_one h, if_pos h]
theorem stk_one {A j N : Nat} {o : AObj} {g : H} (hn : g.get (N + j) = none) : ([(j, o)].all fun q => A.testBit q.1 || (g.get (N + q.1)).isNone) = true := by simp [hn]
def clE (nm : ByteArray) (tl : List ByteArray) : Int := if nmE nm ≠ 0 then nmE nm else if inN nm tl = true then 9 else 0
set_option maxHeartbeats 4000000 in
theorem c132 {nm : ByteArray} {fo wa : Int} {tl : List ByteArray} {b A B C D : Nat} (hw : Wf h) (at1 : At h b (.map (told tl))) (at2 : At h B (.cells [.map (some b)] 246 1 false)) (at3 : At h A (.cells [.func (.func 129) #[] #[]] 216 1 false)) (at4 : At h C (.cells [.func (.func 130) #[] #[]] 218 1 false)) (at5 : At h D (.cells [rcF A B C] 216 1 false)) (hDb : D ≠ b) : Cf (mz G) (.func (.func 132) #[] #[.pointer (some ⟨D, 0, some 0⟩)]) [.agg ⟨[.string nm, .int .i64 fo, .int .i64 wa]⟩] h fun r h' => r = .int .i64 (if (clE nm tl) ≠ 0 then (clE nm tl) else foE fo wa) ∧ Keep1 b h h' ∧ Wf h' ∧ ((clE nm tl) = 0 → At h' b (.map (told (tl ++ [nm])))) := by
 have l1 := at1.lt
 have l2 := at2.lt
 have l3 := at3.lt
 have l4 := at4.lt
 have l5 := at5.lt
 have q169 := fun (h' : H) (g : Grow h h') (w' : Wf h') (abox : At h' h.nx (.cells [.string nm, .int .i64 fo, .int .i64 wa] 208 3 false)) => (c169 (G := G) (nm := nm) (fo := fo) (wa := wa) w' (at1.grow g) (at2.grow g) (at3.grow g) (at4.grow g)).mono (Q' := fun r h2 => r = .int .i64 (clE nm tl) ∧ Keep1 b h' h2 ∧ Wf h2 ∧ ((clE nm tl) = 0 → At h2 b (.map (told (tl ++ [nm])))) ∧ At h2 h.nx (.cells [.string nm, .int .i64 fo, .int .i64 wa] 208 3 false) ∧ At h2 D (.cells [rcF A B C] 216 1 false) ∧ (∀ m, h.nx < m → m < h'.nx → h'.get m = none → h2.get m = none) ∧ Keep1 b h' h2) (fun r h2 ⟨q1, q2, q3, q4⟩ => by
   refine ⟨q1, q2, q3, fun z => ?_, q2.at (by omega) abox, q2.at hDb (at5.grow g), fun m m1 m2 m3 => (q2.get m m2 (by omega)).trans m3, q2⟩
   have hn : nmE nm = 0 := by
     unfold clE at z
     by_cases hn : nmE nm = 0
     · exact hn
     · rw [if_pos hn] at z; exact z
   refine q4 hn ?_
   unfold clE at z
   rw [if_neg (by simpa using hn)] at z
   cases hi : inN nm tl with
   | false => rfl
   | true => rw [hi, if_pos rfl] at z; cases z)
 have q133 := fun (h' : H) (w' : Wf h') => c133 (G := G) (h := h') (nm := nm) (fo := fo) (wa := wa) w'
 have qf := fun (h' : H) (v : Value) (s : Sl G h' 1 v 2 ([(clE nm tl), foE fo wa].map (.int .i64))) => c93 s (by omega)
 rw [firstNZ_two] at qf
 obtain ⟨E, hE⟩ : ∃ E, (clE nm tl) = E := ⟨_, rfl⟩
 obtain ⟨F, hF⟩ : ∃ F, foE fo wa = F := ⟨_, rfl⟩
 rw [hE] at q169 qf ⊢
 rw [hF] at q133 qf ⊢
 clear hE hF
 refine ch_ (sz := 11) (rs := [.tmp 3]) (all := [.agg ⟨[.string nm, .int .i64 fo, .int .i64 wa]⟩, .pointer (some ⟨D, 0, some 0⟩)]) Tryz.func132 rfl rfl rfl rfl rfl ?_
 repeat' (first | with_reducible refine ad_ ?_ | ((with_reducible refine ac_ ?_); refine ao_ ?_) | ((with_reducible refine bb_ ?_); first | ((with_reducible refine bd_ ?_); first | ((with_reducible refine aZ_ ?_); first | refine aO_ (aa_ rfl) rfl (ar_ rfl (ae_ rfl ah_ Tryz.underlying216 rfl rfl)) rfl rfl rfl ?_ | refine aO_ (aa_ rfl) rfl (ar_ rfl (aj_ rfl ah_ Tryz.underlying208 rfl bR_ rfl rfl)) rfl rfl rfl ?_) | ((with_reducible refine bg_ ?_); refine wx_a0 (aa_ rfl) rfl (bh_ rfl Tryz.underlying238 zs26 zz26 rfl rfl) rfl rfl ?_) | ((with_reducible refine aV_ ?_); first | (refine aM_ (aa_ rfl) rfl rfl rfl rfl (q169 _ au_ aA_ ah_) rfl rfl ?_; rintro _ _ ⟨rfl, hq, w2, hu, ab, ad, hnn, hk⟩; all_goals (try (have hqn := hq.nx); try simp only [aU_] at hqn)) | (refine aM_ (aa_ rfl) rfl rfl rfl rfl (q133 _ aA_) rfl rfl ?_; rintro _ _ ⟨rfl, hq⟩; all_goals (try (have hqn := hq.nx); try simp only [aU_] at hqn)))) | ((with_reducible refine bm_ ?_); refine aH_ (aa_ rfl) rfl rfl (ar_ rfl (aW_ rfl)) rfl rfl rfl ?_) | ((with_reducible refine aV_ ?_); ((with_reducible refine cq_ ?_); refine wx_e1 (aa_ rfl) rfl rfl rfl (aK_ rfl rfl (qf _ _ (Sl.ofAt (show At _ _ (.cells [.int .i64 E, .int .i64 F] 26 1 false) from ah_) rfl (Nat.le_refl _)))) rfl rfl ?_)) | refine bU_ ?_ ?_ rfl rfl ?_) | with_reducible exact aP_ | with_reducible refine aJ_ ?_ ?_ | ((with_reducible refine bi_ ?_); first | exact aS_ | refine aQ_ rfl ?_ | refine am_ rfl rfl (ar_ rfl (ae_ rfl ah_ Tryz.underlying216 rfl (by rfl))) ?_ | refine am_ rfl rfl (ar_ rfl (aj_ rfl ah_ Tryz.underlying208 rfl bR_ (by rfl) rfl)) ?_) | with_reducible exact bV_ | with_reducible refine bE_ ?_ ?_ | ((with_reducible refine ck_ ?_); first | exact bW_ rfl rfl | exact bu_ rfl rfl aA_ gr_B) | refine ap_ ?_ | refine aF_ (id := 1) 8 [0, 0, 3, 0, 15, 31, 63, 127] [0, 1, 2, 3, 4, 5, 6, 7] (by kernel_rfl) (by kernel_rfl) rfl rfl ?_ | (refine stk_one ?_; have e5 := hnn (h.nx + 1 + 5) (by omega) (by simp only [H.nx_push, H.nx_bump]; omega) (none_bump (none_new (Wf.push hw _))); first | exact e5 | exact none_grow hq (by simp only [H.nx_push]; omega) e5))
 have hk2 := ((Keep1.refl.grow (show Grow h _ from au_)).trans hk).grow hq
 refine rq1 rfl ⟨rfl, hk2.setN (by simp only [H.nx_push]; omega) (by simp only [H.nx_push]; omega) _, aA_, fun z => ?_⟩
 have hz := (hu z).grow hq
 exact ah_
def resE : List Rs → List ByteArray → Int
 | [], _ => 0
 | r :: l, tl => if clE r.nm tl ≠ 0 then clE r.nm tl else if foE r.fo r.wa ≠ 0 then foE r.fo r.wa else resE l (tl ++ [r.nm])
def nmsR (l : List Rs) : List ByteArray := l.map fun r => r.nm
def rssE (l : List Rs) : Int := if 64 < l.length then 5 else resE l []
attribute [local irreducible] clE
set_option maxHeartbeats 8000000 in
theorem c131 {v : Value} {n b A B C D : Nat} {l : List Rs} (s : Sl G h 3 v n (l.flatMap Rs.cells)) (hl : l.length = n) (hn : n < 1000000) (hw : Wf h) (at1 : At h b (.map (told []))) (at2 : At h B (.cells [.map (some b)] 246 1 false)) (at3 : At h A (.cells [.func (.func 129) #[] #[]] 216 1 false)) (at4 : At h C (.cells [.func (.func 130) #[] #[]] 218 1 false)) (at5 : At h D (.cells [rcF A B C] 216 1 false)) (hbB : B ≠ b) (hbA : A ≠ b) (hbC : C ≠ b) (hDb : D ≠ b) : Cf (mz G) (.func (.func 131) #[] #[]) [v, (.func (.func 132) #[] #[.pointer (some ⟨D, 0, some 0⟩)])] h fun r h' => r = .int .i64 (resE l []) ∧ Keep1 b h h' ∧ Wf h' := by
 obtain ⟨a, c, rfl⟩ := s.form
 refine ak_ 21 [.tmp 4] Tryz.func131 rfl rfl rfl rfl ?_
 repeat' (first | with_reducible refine ad_ ?_ | ((with_reducible refine ac_ ?_); first | ((with_reducible refine av_ ?_); refine aq_ (ax_ rfl Tryz.underlying110) ?_) | refine ao_ ?_) | refine ap_ ?_)
 refine bo_ (fun k => n - k) (fun k : Nat => [(1, (.func (.func 132) #[] #[.pointer (some ⟨D, 0, some 0⟩)])), (8, .slice a n c), (9, .int .i64 n), (10, .int .i64 k)]) (fun k h' => (Wf h' ∧ Keep1 b h h' ∧ At h' b (.map (told (nmsR (l.take k))))) ∧ k ≤ n ∧ resE (l.drop k) (nmsR (l.take k)) = resE l []) 0 (af_ ⟨rfl, rfl, rfl, rfl, trivial⟩) ⟨⟨hw, .refl, at1⟩, Nat.zero_le _, rfl⟩ ?_
 rintro k h1 ⟨⟨w1, k1, m1⟩, hk, hi⟩
 have s1 := Sl.keep1 s at1 k1
 have b1 := k1.at hbB at2
 have b3 := k1.at hbA at3
 have b4 := k1.at hbC at4
 have b5 := k1.at hDb at5
 by_cases hlt : k < n
 · obtain ⟨id, i1, i3⟩ := cw_ Rs.len ⟨.empty, 0, 0⟩ s1 hl Tryz.underlying110 bR_ (i := (k : Int)) hlt rfl
   have e1 : nmsR (l.take (k + 1)) = nmsR (l.take k) ++ [(l.getD k ⟨.empty, 0, 0⟩).nm] := by
     unfold nmsR; rw [cf_ ⟨.empty, 0, 0⟩ (by omega), List.map_append, List.map_singleton]
   rw [drop_next ⟨.empty, 0, 0⟩ (by omega)] at hi
   obtain ⟨t, ht⟩ : ∃ t, l.getD k ⟨.empty, 0, 0⟩ = t := ⟨_, rfl⟩
   rw [ht] at i3 e1 hi
   obtain ⟨nm, fo, wa⟩ := t
   dsimp only [Rs.cells] at i3
   dsimp only at e1 hi
   obtain ⟨tl, htl⟩ : ∃ tl, nmsR (l.take k) = tl := ⟨_, rfl⟩
   rw [htl] at m1 e1 hi
   rw [resE] at hi
   dsimp only at hi
   have q132 := fun (h' : H) (g : Grow h1 h') (w' : Wf h') => c132 (G := G) (nm := nm) (fo := fo) (wa := wa) w' (m1.grow g) (b1.grow g) (b3.grow g) (b4.grow g) (b5.grow g) hDb
   have lm := m1.lt
   have lb := b1.lt
   obtain ⟨E, hE⟩ : ∃ E, (clE nm tl) = E := ⟨_, rfl⟩
   obtain ⟨F, hF⟩ : ∃ F, foE fo wa = F := ⟨_, rfl⟩
   rw [hE] at q132 hi
   rw [hF] at q132 hi
   clear ht htl hE hF at1 at2 at3 at4 at5
   by_cases hz : E = 0
   · subst hz
     rw [if_neg (by simp)] at hi
     rw [if_neg (by simp)] at q132
     by_cases hf : F = 0
     · subst hf
       rw [if_neg (by simp)] at hi
       repeat' (first | with_reducible refine ad_ ?_ | ((with_reducible refine ac_ ?_); first | ((with_reducible refine an_ ?_); refine aq_ (ag_ rfl rfl i1) ?_) | ((with_reducible refine al_ ?_); first | refine aq_ (aN_ rfl Tryz.underlying208 rfl bR_ (i3 _ au_).all) ?_ | refine aq_ (aj_ rfl ah_ Tryz.underlying208 rfl bR_ rfl rfl) ?_) | ((with_reducible refine ay_ ?_); refine bQ_ (aB_ rfl rfl ah_ bR_ rfl rfl rfl rfl) ?_) | ((with_reducible refine at_ ?_); (refine as_ rfl rfl rfl rfl (q132 _ au_ aA_) rfl rfl ?_; rintro _ _ ⟨rfl, hq, w2, hu⟩; all_goals (try (have hqn := hq.nx); try simp only [aU_] at hqn))) | refine ao_ ?_) | refine ap_ ?_ | (refine aG_ rfl (fun hb => ?_) (fun hb => aw_ hb); (try simp only [aX_, reduceCtorEq] at hb)))
       exact aI_ (k + 1) (by omega) (af_ ⟨rfl, rfl, rfl, rfl, trivial⟩) ⟨⟨w2, (k1.grow (show Grow h1 _ from au_)).trans hq, by rw [e1]; exact hu rfl⟩, by omega, by rw [e1]; exact hi⟩
     · rw [if_pos hf] at hi
       rw [← hi]
       repeat' (first | with_reducible refine ad_ ?_ | ((with_reducible refine ac_ ?_); first | ((with_reducible refine an_ ?_); refine aq_ (ag_ rfl rfl i1) ?_) | ((with_reducible refine al_ ?_); first | refine aq_ (aN_ rfl Tryz.underlying208 rfl bR_ (i3 _ au_).all) ?_ | refine aq_ (aj_ rfl ah_ Tryz.underlying208 rfl bR_ rfl rfl) ?_) | ((with_reducible refine ay_ ?_); refine bQ_ (aB_ rfl rfl ah_ bR_ rfl rfl rfl rfl) ?_) | ((with_reducible refine at_ ?_); (refine as_ rfl rfl rfl rfl (q132 _ au_ aA_) rfl rfl ?_; rintro _ _ ⟨rfl, hq, w2, hu⟩; all_goals (try (have hqn := hq.nx); try simp only [aU_] at hqn))) | refine ao_ ?_) | refine ap_ ?_ | (refine aG_ rfl (fun hb => ?_) (fun hb => aw_ hb); (try simp only [aX_, reduceCtorEq] at hb)))
       exact rq1 rfl ⟨rfl, (k1.grow (show Grow h1 _ from au_)).trans hq, w2⟩
   · rw [if_pos hz] at hi
     rw [← hi]
     rw [if_pos hz] at q132
     repeat' (first | with_reducible refine ad_ ?_ | ((with_reducible refine ac_ ?_); first | ((with_reducible refine an_ ?_); refine aq_ (ag_ rfl rfl i1) ?_) | ((with_reducible refine al_ ?_); first | refine aq_ (aN_ rfl Tryz.underlying208 rfl bR_ (i3 _ au_).all) ?_ | refine aq_ (aj_ rfl ah_ Tryz.underlying208 rfl bR_ rfl rfl) ?_) | ((with_reducible refine ay_ ?_); refine bQ_ (aB_ rfl rfl ah_ bR_ rfl rfl rfl rfl) ?_) | ((with_reducible refine at_ ?_); (refine as_ rfl rfl rfl rfl (q132 _ au_ aA_) rfl rfl ?_; rintro _ _ ⟨rfl, hq, w2, hu⟩; all_goals (try (have hqn := hq.nx); try simp only [aU_] at hqn))) | refine ao_ ?_) | refine ap_ ?_ | (refine aG_ rfl (fun hb => ?_) (fun hb => aw_ hb); (try simp only [aX_, reduceCtorEq] at hb)))
     exact rq1 rfl ⟨rfl, (k1.grow (show Grow h1 _ from au_)).trans hq, w2⟩
 · have hkn : k = n := by omega
   subst hkn
   repeat' (first | with_reducible refine ad_ ?_ | ((with_reducible refine ac_ ?_); refine ao_ ?_) | refine ap_ ?_ | (refine aG_ rfl (fun hb => ?_) (fun hb => ?_) <;> (try simp only [aX_, reduceCtorEq] at hb) <;> (try (exfalso; omega))))
   refine rq1 rfl ⟨?_, k1, w1⟩
   rw [← hi, List.drop_eq_nil_of_le (by omega)]
   rfl
set_option maxHeartbeats 4000000 in
theorem c64 {v : Value} {n : Nat} {l : List Rs} (s : Sl G h 3 v n (l.flatMap Rs.cells)) (hl : l.length = n) (hn : n < 1000000) (hw : Wf h) : Cf (mz G) (.func (.func 64) #[] #[]) [v] h fun r h' => r = .int .i64 (rssE l) ∧ Grow h h' := by
 have hR : rssE l = if 64 < n then 5 else resE l [] := by unfold rssE; rw [hl]
 rw [hR]
 have q131 := fun (h' : H) (A D : Nat) (g : Grow h h') (w' : Wf h') (a1 : At h' (A + 2) (.map (told []))) (a2 : At h' (A + 3) (.cells [.map (some (A + 2))] 246 1 false)) (a3 : At h' A (.cells [.func (.func 129) #[] #[]] 216 1 false)) (a4 : At h' (A + 1) (.cells [.func (.func 130) #[] #[]] 218 1 false)) (a5 : At h' D (.cells [rcF A (A + 3) (A + 1)] 216 1 false)) (hb : h.nx ≤ A) (hD : A + 3 < D) => (c131 (s.grow g) hl hn w' a1 a2 a3 a4 a5 (by omega) (by omega) (by omega) (by omega)).mono (Q' := fun r h2 => r = .int .i64 (resE l []) ∧ Grow h h2) (fun r h2 q => ⟨q.1, q.2.1.base g (by omega)⟩)
 have q128 := fun (h' : H) (w' : Wf h') => (c128 (G := G) (h := h') w').mono (Q' := fun r h2 => r = rcF h'.nx (h'.nx + 3) (h'.nx + 1) ∧ At h2 (h'.nx + 2) (.map (told [])) ∧ At h2 (h'.nx + 3) (.cells [.map (some (h'.nx + 2))] 246 1 false) ∧ At h2 h'.nx (.cells [.func (.func 129) #[] #[]] 216 1 false) ∧ At h2 (h'.nx + 1) (.cells [.func (.func 130) #[] #[]] 218 1 false) ∧ Grow h' h2 ∧ h'.nx + 3 < h2.nx) (fun r h2 ⟨q1, q2, q3, q4, q5, q6⟩ => ⟨q1, q2, q3, q4, q5, q6, q3.lt⟩)
 obtain ⟨a, c, rfl⟩ := s.form
 generalize resE l [] = E at q131 ⊢
 by_cases h64 : 64 < n
 · rw [if_pos h64]
   refine ak_ 11 [.tmp 2] Tryz.func64 rfl rfl rfl rfl ?_
   repeat' (first | with_reducible refine ad_ ?_ | ((with_reducible refine ac_ ?_); first | ((with_reducible refine av_ ?_); refine aq_ (ax_ rfl Tryz.underlying110) ?_) | refine ao_ ?_) | refine ap_ ?_ | (refine aG_ rfl (fun hb => ?_) (fun hb => aw_ hb); (try simp only [aX_, reduceCtorEq] at hb)))
   exact rq1 rfl ⟨rfl, au_⟩
 · rw [if_neg h64]
   refine ak_ 11 [.tmp 2] Tryz.func64 rfl rfl rfl rfl ?_
   repeat' (first | with_reducible refine ad_ ?_ | ((with_reducible refine ac_ ?_); first | ((with_reducible refine cE_ ?_); refine aq_ (co_ (fun _ q => by cases q) rfl rfl) ?_) | ((with_reducible refine av_ ?_); refine aq_ (ax_ rfl Tryz.underlying110) ?_) | ((with_reducible refine ay_ ?_); refine bQ_ (op_st1 rfl rfl ah_ rfl zs216 rfl rfl rfl) ?_) | ((with_reducible refine at_ ?_); first | (refine as_ rfl rfl rfl rfl (q128 _ aA_) rfl rfl ?_; rintro _ _ ⟨rfl, ma, ca, ma3, ma4, hq, hl3⟩; all_goals (try (have hqn := hq.nx); try simp only [aU_] at hqn)) | (refine as_ rfl rfl rfl rfl (q131 _ h.nx _ au_ aA_ ah_ ah_ ah_ ah_ ah_ (by omega) (by omega)) rfl rfl ?_; rintro _ _ ⟨rfl, hq⟩; all_goals (try (have hqn := hq.nx); try simp only [aU_] at hqn))) | refine ao_ ?_) | refine ap_ ?_ | (refine aG_ rfl (fun hb => aw_ hb) (fun hb => ?_); (try simp only [aX_, reduceCtorEq] at hb)))
   exact rq1 rfl ⟨rfl, au_⟩
end Go.Proofs.YtlioomhcdlicmaaGreatDoor
