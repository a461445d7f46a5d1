/- Contracts of functions on lists of samples: checks, copies, convolutions. -/
import Derived.Test.YthnnndkfpamacaaGreatDoorC2
import Derived.Test.YthnnndkfpamacaaGreatDoorK3
import Derived.Test.YthnnndkfpamacaaGreatDoorK2
set_option linter.all false
/- Lists of samples: their checks, integers and samples. -/
namespace Go.Proofs.YthnnndkfpamacaaGreatDoor
open Go Go.Ab Go.Fl
attribute [local irreducible] SeqQ BlkQ LpQ RetQ Wc Wo WD WX Op1 Op1q Op1a Cf Cl From
attribute [local irreducible] Ieee.Format.order Ieee.Format.read Ieee.Format.nearest Ieee.Format.write Ieee.Format.mul Ieee.Format.div Ieee.Datum.order Ieee.Datum.integral smpE smp smpW K J U
set_option maxRecDepth 10000
variable {G : Base} {h : H}
theorem c126 {x : Nat} (hx : smpE x = 0) : Cl (mz G) (.func (.func 126) #[] #[]) [.float .f32 x] h (.int .i64 (smp x)) h := by
 obtain ⟨c, h1, h2⟩ := mul16 hx
 obtain ⟨_, _, _, _, _, h3, h4⟩ := smp_read hx
 refine bg_ (ar_ 6 [.tmp 2] Tryz.func126 rfl rfl rfl rfl ?_)
 repeat' (first | with_reducible refine am_ ?_ | ((with_reducible refine al_ ?_); first | ((with_reducible refine ak_ ?_); refine ac_ (ag_ rfl) ?_) | ((with_reducible refine ae_ ?_); refine ac_ (ad_ rfl) ?_) | ((with_reducible refine av_ ?_); refine ac_ (op_fmul rfl rfl h1) ?_) | ((with_reducible refine cm_ ?_); refine ac_ (op_cvfi rfl Tryz.underlying23 Tryz.underlying3 (floatInt_num h2 h3 h4)) ?_)) | (with_reducible first | refine ah_ ?_ | refine ao_ ?_ | refine ab_ ?_ | refine aA_ ?_))
 exact rq1 rfl ⟨rfl, rfl⟩
theorem c152 {n : Int} (hn : n.natAbs ≤ 16384) : Cl (mz G) (.func (.func 152) #[] #[]) [.int .i64 n] h (.float .f32 (smpW n)) h := by
 obtain ⟨h1, _⟩ := div16 hn
 refine bg_ (ar_ 6 [.tmp 2] Tryz.func152 rfl rfl rfl rfl ?_)
 repeat' (first | with_reducible refine am_ ?_ | ((with_reducible refine al_ ?_); first | ((with_reducible refine ak_ ?_); refine ac_ (ag_ rfl) ?_) | ((with_reducible refine ae_ ?_); refine ac_ (ad_ rfl) ?_) | ((with_reducible refine cm_ ?_); refine ac_ (op_cvif rfl Tryz.underlying3 Tryz.underlying23 rfl) ?_) | ((with_reducible refine av_ ?_); refine ac_ (op_fdiv rfl rfl h1) ?_)) | (with_reducible first | refine ah_ ?_ | refine ao_ ?_ | refine ab_ ?_ | refine aA_ ?_))
 exact rq1 rfl ⟨rfl, rfl⟩
def isLargeB (n : Int) : Bool := decide (16384 < n ∨ n < -16384)
def lchk (l : List Nat) : Int := if 1024 < l.length then 5 else firstNZ (l.map smpE)
theorem c150 {v : Value} {n : Nat} {l : List Nat} (s : Sl G h 1 v n (l.map (.float .f32))) (hn : n < 1000000) : Cl (mz G) (.func (.func 150) #[] #[]) [v, .func (.func 26) #[] #[]] h (.int .i64 (firstNZ (l.map smpE))) h := by
 obtain ⟨a, c, rfl⟩ := s.form
 have hl := s.length
 simp at hl
 refine bg_ (ar_ 21 [.tmp 4] Tryz.func150 rfl rfl rfl rfl ?_)
 repeat' (first | with_reducible refine am_ ?_ | ((with_reducible refine al_ ?_); first | ((with_reducible refine ak_ ?_); refine ac_ (ag_ rfl) ?_) | ((with_reducible refine ae_ ?_); refine ac_ (ad_ rfl) ?_) | ((with_reducible refine aC_ ?_); refine ac_ (ax_ rfl Tryz.underlying45) ?_)) | (with_reducible first | refine ah_ ?_ | refine ao_ ?_ | refine ab_ ?_ | refine at_ ?_))
 refine bq_ (fun k => n - k) (fun k : Nat => [(1, .func (.func 26) #[] #[]), (8, .slice a n c), (9, .int .i64 n), (10, .int .i64 k)]) (fun k h' => h' = h ∧ k ≤ n ∧ firstNZ ((l.drop k).map smpE) = firstNZ (l.map smpE)) 0 (ai_ ⟨rfl, rfl, rfl, rfl, trivial⟩) ⟨rfl, Nat.zero_le _, rfl⟩ ?_
 rintro k h' ⟨rfl, hk, hi⟩
 by_cases hlt : k < n
 · obtain ⟨ad, h1, h2⟩ := s.addr (M := mz G) Tryz.underlying45 (es := 1) zs23 (i := k) (k := .i64) (by omega) (by omega)
   have h3 : acell G h' ad = some (.float .f32 (l[k]'(by omega))) := h2.get 0 _ (by simp)
   rw [List.drop_eq_getElem_cons (by omega), List.map_cons, firstNZ] at hi
   repeat' (first | with_reducible refine am_ ?_ | ((with_reducible refine al_ ?_); first | ((with_reducible refine ak_ ?_); refine ac_ (ag_ rfl) ?_) | ((with_reducible refine ae_ ?_); refine ac_ (ad_ rfl) ?_) | ((with_reducible refine aw_ ?_); refine ac_ (as_ rfl rfl h1) ?_) | ((with_reducible refine au_ ?_); refine ac_ (aI_ rfl Tryz.underlying23 rfl h3) ?_) | ((with_reducible refine av_ ?_); first | refine ac_ (aF_ rfl rfl) ?_ | refine ac_ (bm_ rfl rfl) ?_ | refine ac_ (aR_ rfl rfl (w64 (by omega) (by omega))) ?_) | ((with_reducible refine aN_ ?_); refine ac_ (aJ_ rfl rfl ((c26 _))) ?_)) | (with_reducible first | refine ah_ ?_ | refine ao_ ?_ | refine ab_ ?_ | refine az_ ?_ | refine aA_ ?_ | refine at_ ?_ | refine aP_ ?_ | refine bV_ ?_ | refine bd_ ?_ | refine cx_ ?_) | (refine aK_ rfl (fun hb => ?_) (fun hb => ?_) <;> (try simp only [bj_, reduceCtorEq] at hb) <;> (try (exfalso; omega))))
   · refine rq1 rfl ⟨?_, rfl⟩
     rw [if_neg hb] at hi; rw [hi]
   · refine aX_ (k + 1) (by omega) (ai_ ⟨rfl, rfl, rfl, rfl, trivial⟩) ⟨rfl, by omega, ?_⟩
     rw [if_pos hb] at hi; exact hi
 · repeat' (first | with_reducible refine am_ ?_ | ((with_reducible refine al_ ?_); first | ((with_reducible refine ae_ ?_); refine ac_ (ad_ rfl) ?_) | ((with_reducible refine av_ ?_); refine ac_ (aF_ rfl rfl) ?_)) | (with_reducible first | refine ah_ ?_ | refine ao_ ?_ | refine ab_ ?_ | refine aA_ ?_ | refine be_ ?_ | refine bf_ ?_ | refine bi_ ?_) | refine bS_ rfl ?_ | (refine aK_ rfl (fun hb => ?_) (fun hb => ?_) <;> (try simp only [bj_, reduceCtorEq] at hb) <;> (try (exfalso; omega))))
   refine rq1 rfl ⟨?_, rfl⟩
   rw [List.drop_eq_nil_of_le (by omega)] at hi
   rw [← hi]; rfl
theorem c136 {v : Value} {n : Nat} {l : List Nat} (s : Sl G h 1 v n (l.map (.float .f32))) (hn : n < 1000000) : Cl (mz G) (.func (.func 136) #[] #[]) [v] h (.int .i64 (firstNZ (l.map smpE))) h := by
 obtain ⟨a, c, rfl⟩ := s.form
 have hl := s.length
 simp at hl
 refine bg_ (ar_ 19 [.tmp 2] Tryz.func136 rfl rfl rfl rfl ?_)
 repeat' (first | with_reducible refine am_ ?_ | ((with_reducible refine al_ ?_); ((with_reducible refine ae_ ?_); refine ac_ (ad_ rfl) ?_)) | (with_reducible first | refine ah_ ?_ | refine ao_ ?_ | refine ab_ ?_ | refine at_ ?_))
 refine bq_ (fun k => n - k) (fun k : Nat => [(0, .slice a n c), (3, .int .i64 k)]) (fun k h' => h' = h ∧ k ≤ n ∧ firstNZ ((l.drop k).map smpE) = firstNZ (l.map smpE)) 0 (ai_ ⟨rfl, rfl, trivial⟩) ⟨rfl, Nat.zero_le _, rfl⟩ ?_
 rintro k h' ⟨rfl, hk, hi⟩
 by_cases hlt : k < n
 · obtain ⟨ad, h1, h2⟩ := s.addr (M := mz G) Tryz.underlying45 (es := 1) zs23 (i := k) (k := .i64) (by omega) (by omega)
   have h3 : acell G h' ad = some (.float .f32 (l[k]'(by omega))) := h2.get 0 _ (by simp)
   rw [List.drop_eq_getElem_cons (by omega), List.map_cons, firstNZ] at hi
   repeat' (first | with_reducible refine am_ ?_ | ((with_reducible refine al_ ?_); first | ((with_reducible refine ak_ ?_); refine ac_ (ag_ rfl) ?_) | ((with_reducible refine ae_ ?_); refine ac_ (ad_ rfl) ?_) | ((with_reducible refine aw_ ?_); refine ac_ (as_ rfl rfl h1) ?_) | ((with_reducible refine au_ ?_); refine ac_ (aI_ rfl Tryz.underlying23 rfl h3) ?_) | ((with_reducible refine aC_ ?_); refine ac_ (ax_ rfl Tryz.underlying45) ?_) | ((with_reducible refine av_ ?_); first | refine ac_ (aF_ rfl rfl) ?_ | refine ac_ (bm_ rfl rfl) ?_ | refine ac_ (aR_ rfl rfl (w64 (by omega) (by omega))) ?_) | ((with_reducible refine ba_ (f := 27) ?_); refine ac_ (aJ_ rfl rfl (c27s _)) ?_)) | (with_reducible first | refine ah_ ?_ | refine ao_ ?_ | refine ab_ ?_ | refine az_ ?_ | refine aA_ ?_ | refine at_ ?_ | refine aP_ ?_ | refine bV_ ?_ | refine bd_ ?_ | refine cx_ ?_) | (refine aK_ rfl (fun hb => ?_) (fun hb => ?_) <;> (try simp only [bj_, reduceCtorEq] at hb) <;> (try (exfalso; omega))))
   · refine rq1 rfl ⟨?_, rfl⟩
     rw [if_neg hb] at hi; rw [hi]
   · refine aX_ (k + 1) (by omega) (ai_ ⟨rfl, rfl, trivial⟩) ⟨rfl, by omega, ?_⟩
     rw [if_pos hb] at hi; exact hi
 · repeat' (first | with_reducible refine am_ ?_ | ((with_reducible refine al_ ?_); first | ((with_reducible refine ak_ ?_); refine ac_ (ag_ rfl) ?_) | ((with_reducible refine ae_ ?_); refine ac_ (ad_ rfl) ?_) | ((with_reducible refine aC_ ?_); refine ac_ (ax_ rfl Tryz.underlying45) ?_) | ((with_reducible refine av_ ?_); refine ac_ (aF_ rfl rfl) ?_)) | (with_reducible first | refine ah_ ?_ | refine ao_ ?_ | refine ab_ ?_ | refine aA_ ?_ | refine be_ ?_ | refine bf_ ?_ | refine bi_ ?_) | refine bS_ rfl ?_ | (refine aK_ rfl (fun hb => ?_) (fun hb => ?_) <;> (try simp only [bj_, reduceCtorEq] at hb) <;> (try (exfalso; omega))))
   refine rq1 rfl ⟨?_, rfl⟩
   rw [List.drop_eq_nil_of_le (by omega)] at hi
   rw [← hi]; rfl
theorem c107 {v : Value} {n : Nat} {l : List Nat} (s : Sl G h 1 v n (l.map (.float .f32))) (hn : n < 1000000) : Cl (mz G) (.func (.func 107) #[] #[]) [v] h (.int .i64 (lchk l)) h := by
 obtain ⟨a, c, rfl⟩ := s.form
 have hl := s.length
 simp at hl
 unfold lchk
 rw [hl]
 refine bg_ (ar_ 8 [.tmp 2] Tryz.func107 rfl rfl rfl rfl ?_)
 repeat' (first | with_reducible refine am_ ?_ | ((with_reducible refine al_ ?_); first | ((with_reducible refine ak_ ?_); refine ac_ (ag_ rfl) ?_) | ((with_reducible refine ae_ ?_); refine ac_ (ad_ rfl) ?_) | ((with_reducible refine aC_ ?_); refine ac_ (ax_ rfl Tryz.underlying45) ?_) | ((with_reducible refine av_ ?_); refine ac_ (bZ_ rfl rfl) ?_) | ((with_reducible refine ba_ (f := 150) ?_); refine ac_ (aJ_ rfl rfl (c150 s hn)) ?_)) | (with_reducible first | refine ah_ ?_ | refine ao_ ?_ | refine ab_ ?_ | refine az_ ?_ | refine aA_ ?_ | refine bd_ ?_) | (refine aK_ rfl (fun hb => ?_) (fun hb => ?_) <;> (try simp only [bj_, reduceCtorEq] at hb) <;> (try (exfalso; omega))))
 · refine rq1 rfl ⟨?_, rfl⟩
   rw [if_pos (by omega)]
 · refine rq1 rfl ⟨?_, rfl⟩
   rw [if_neg (by omega)]
theorem c64 {v : Value} {n : Nat} {l : List Nat} (s : Sl G h 1 v n (l.map (.float .f32))) (hn : n < 1000000) : Cl (mz G) (.func (.func 64) #[] #[]) [v] h (.int .i64 (lchk l)) h := by
 obtain ⟨a, c, rfl⟩ := s.form
 have hl := s.length
 simp at hl
 unfold lchk
 rw [hl]
 refine bg_ (ar_ 8 [.tmp 2] Tryz.func64 rfl rfl rfl rfl ?_)
 repeat' (first | with_reducible refine am_ ?_ | ((with_reducible refine al_ ?_); first | ((with_reducible refine ak_ ?_); refine ac_ (ag_ rfl) ?_) | ((with_reducible refine ae_ ?_); refine ac_ (ad_ rfl) ?_) | ((with_reducible refine aC_ ?_); refine ac_ (ax_ rfl Tryz.underlying45) ?_) | ((with_reducible refine av_ ?_); refine ac_ (bZ_ rfl rfl) ?_) | ((with_reducible refine ba_ (f := 136) ?_); refine ac_ (aJ_ rfl rfl (c136 s hn)) ?_)) | (with_reducible first | refine ah_ ?_ | refine ao_ ?_ | refine ab_ ?_ | refine az_ ?_ | refine aA_ ?_ | refine bd_ ?_) | (refine aK_ rfl (fun hb => ?_) (fun hb => ?_) <;> (try simp only [bj_, reduceCtorEq] at hb) <;> (try (exfalso; omega))))
 · refine rq1 rfl ⟨?_, rfl⟩
   rw [if_pos (by omega)]
 · refine rq1 rfl ⟨?_, rfl⟩
   rw [if_neg (by omega)]
theorem c57 {a : Option Addr} {n c : Nat} : Cl (mz G) (.func (.func 57) #[] #[]) [.slice a n c] h (.bool (decide (n ≤ 32 ∨ n = 1025))) h := by
 refine bg_ (ar_ 11 [.tmp 2] Tryz.func57 rfl rfl rfl rfl ?_)
 repeat' (first | with_reducible refine am_ ?_ | ((with_reducible refine al_ ?_); first | ((with_reducible refine ak_ ?_); refine ac_ (ag_ rfl) ?_) | ((with_reducible refine ae_ ?_); refine ac_ (ad_ rfl) ?_) | ((with_reducible refine aC_ ?_); refine ac_ (ax_ rfl Tryz.underlying45) ?_) | ((with_reducible refine av_ ?_); refine ac_ (op_leq rfl rfl) ?_) | ((with_reducible refine aS_ ?_); first | refine ac_ (aT_ rfl rfl) ?_ | refine ac_ (aO_ rfl rfl) ?_) | ((with_reducible refine cG_ ?_); first | refine bC_ rfl rfl rfl rfl rfl rfl ?_ | ((with_reducible refine bB_ ?_); refine aj_ rfl rfl rfl (ag_ rfl) rfl rfl ?_) | ((with_reducible refine bW_ ?_); refine aj_ rfl rfl rfl (ax_ rfl Tryz.underlying45) rfl rfl ?_) | ((with_reducible refine bE_ ?_); refine aj_ rfl rfl rfl (cM_ rfl rfl) rfl rfl ?_) | (refine bb_ rfl rfl rfl (fun hb => ?_) (fun hb => ?_) <;> (try simp only [bj_, reduceCtorEq] at hb) <;> (try (exfalso; omega))))) | (with_reducible first | refine ah_ ?_ | refine ao_ ?_ | refine ab_ ?_ | refine aA_ ?_))
 all_goals refine rq1 rfl ⟨?_, rfl⟩
 all_goals first
   | rw [decide_eq_true (by omega)]
   | rw [decide_eq_false (by omega)]
   | (congr 1; rw [decide_eq_decide]; omega)
/- Lists of samples: copies, integers, samples; taps. -/
theorem all_one_map {α : Type} {f : α → Value} (hf : ∀ a, one (f a) = true) (l : List α) : (l.map f).all one = true := by
 rw [List.all_eq_true]; intro v hv
 obtain ⟨a, _, rfl⟩ := List.mem_map.1 hv
 exact hf a
theorem fill_step {α : Type} {f : α → Value} {z u : Value} {l : List α} {k n : Nat} (hn : l.length = n) (hk : k < n) (hu : u = f (l[k]'(by omega))) : ((l.take k).map f ++ List.replicate (n - k) z).set k u = (l.take (k + 1)).map f ++ List.replicate (n - (k + 1)) z := by
 subst hu
 have e : ((l.take k).map f).length = k := by simp; omega
 rw [List.set_append_right _ _ (by omega), e, Nat.sub_self]
 obtain ⟨m, hm⟩ : ∃ m, n - k = m + 1 := ⟨n - k - 1, by omega⟩
 rw [hm, show n - (k + 1) = m by omega, List.replicate_succ, List.take_succ_eq_append_getElem (by omega), List.map_append, List.append_assoc]
 rfl
theorem fill_end {α : Type} {f : α → Value} {z : Value} {l : List α} {n : Nat} (hn : l.length = n) : (l.take n).map f ++ List.replicate (n - n) z = l.map f := by
 rw [List.take_of_length_le (by omega), Nat.sub_self]; simp
/- Taps; lists convolved. -/
def anyLarge (l : List Int) : Bool := l.any isLargeB
end Go.Proofs.YthnnndkfpamacaaGreatDoor
/- Lists convolved. -/
namespace Go.Proofs.YthnnndkfpamacaaGreatDoor
open Go Go.Ab Go.Fl
attribute [local irreducible] SeqQ BlkQ LpQ RetQ Wc Wo WD WX Op1 Op1q Op1a Cf Cl From
attribute [local irreducible] Ieee.Format.order Ieee.Format.read Ieee.Format.nearest Ieee.Format.write Ieee.Format.mul Ieee.Format.div Ieee.Datum.order Ieee.Datum.integral smpE smp smpW K J U spread sumN
set_option maxRecDepth 10000
variable {G : Base} {h : H}
theorem getD_bound {l : List Int} {A : Nat} (h : ∀ x ∈ l, x.natAbs ≤ A) (i : Nat) : (l.getD i 0).natAbs ≤ A := by
 by_cases q : i < l.length
 · have : l.getD i 0 = l[i] := by simp [List.getD, List.getElem?_eq_getElem q]
   rw [this]; exact h _ (List.getElem_mem _)
 · simp [List.getD, List.getElem?_eq_none (by omega : l.length ≤ i)]
theorem getElem_getD {l : List Int} {i : Nat} (h : i < l.length) : l[i] = l.getD i 0 := by simp [List.getD, List.getElem?_eq_getElem h]
end Go.Proofs.YthnnndkfpamacaaGreatDoor
