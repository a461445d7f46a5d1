/- Survey: entries checked both ways; a map of numbers. -/
import Derived.Test.YtlioomhcdlicmaaGreatDoorC10
import Derived.Test.YtlioomhcdlicmaaGreatDoorC11
set_option linter.all false
/- Survey: entries checked by the program; a map of numbers. -/
namespace Go.Proofs.YtlioomhcdlicmaaGreatDoor
open Go Go.Ab Go.Fl
attribute [local irreducible] SeqQ BlkQ LpQ RetQ Wc Wo WD WX Op1 Op1q Op1a Cf Cl From
attribute [local irreducible] Ieee.Format.order Ieee.Format.read Ieee.Format.nearest Ieee.Format.write Ieee.Format.mul Ieee.Format.div Ieee.Format.sqrt Ieee.Datum.order Ieee.Datum.integral K U rngE errN ptE firstNZ vesE watE sgE sgsE allE hitB sqD insB qsL lvl rn rl altB
set_option maxRecDepth 10000
variable {G : Base} {h : H}
theorem u200 : Tryz.prog.underlying 200 = some (.map 9 3) := by kernel_rfl
theorem by_ {M : Mc} {l : KL} {h : H} {x y : Operand} {t : TypeId} {v : Value} {cs : Array Value} {i : Int} {k : IntKind} {len m : Nat} {et : TypeId} (hx : val l x = some (.agg cs)) (hy : val l y = some (.int k i)) (hu : M.P.underlying t = some (.array len et)) (hn : tsz M.P et = some m) (h0 : 0 ≤ i) (h1 : i < len) (hv : apart M.P et cs (i.toNat * m) = some v) : Op1 M (.index t x y) l h v h := op_idxArr hx hy hu hn h0 h1 hv
theorem cc_ {M : Mc} {l : KL} {h : H} {t : TypeId} {x k : Operand} {ok : Bool} {m key v : Value} (hx : val l x = some m) (hk : val l k = some key) (hv : alookup M.P h t m key ok = some v) : Op1 M (.lookup t x k ok) l h v h :=
 ci_ (fun _ q => by cases q) fun e he => by simp only [aop, he.val (x := x) (by simp [Op.operands]) hx, he.val (x := k) (by simp [Op.operands]) hk, hv]
theorem op_mapUpd {M : Mc} {l : KL} {h h' : H} {t : TypeId} {x k y : Operand} {m key v : Value} (hx : val l x = some m) (hk : val l k = some key) (hy : val l y = some v) (hv : amapUpdate M.P h t m key v = some h') : Op1 M (.mapUpdate t x k y) l h undef h' :=
 ci_ (fun _ q => by cases q) fun e he => by simp only [aop, he.val (x := x) (by simp [Op.operands]) hx, he.val (x := k) (by simp [Op.operands]) hk, he.val (x := y) (by simp [Op.operands]) hy, hv]
theorem op_mkMap {M : Mc} {l : KL} {h : H} {t : TypeId} : Op1 M (.makeMap t none) l h (.map (some h.nx)) (h.push (.map [])) :=
 ci_ (fun _ q => by cases q) fun e he => by simp [aop, amakeMap]
theorem ba_bq (s a : ByteArray) : (s == a) = decide (s = a) := by
 show (s.data == a.data) = _
 by_cases h : s = a
 · subst h; simp
 · rw [decide_eq_false h]
   have : s.data ≠ a.data := fun q => h (by cases s; cases a; simp at q; rw [q])
   simpa using this
def numM : List (Value × Value) := [(.string ⟨⟨[115, 104, 111, 111, 116]⟩⟩, .int .i64 0), (.string ⟨⟨[116, 117, 114, 110]⟩⟩, .int .i64 1), (.string ⟨⟨[119, 101, 97, 116, 104, 101, 114]⟩⟩, .int .i64 2), (.string ⟨⟨[97, 110, 105, 109, 97, 108]⟩⟩, .int .i64 3), (.string ⟨⟨[103, 101, 97, 114]⟩⟩, .int .i64 4), (.string ⟨⟨[115, 104, 97, 114, 101]⟩⟩, .int .i64 5)]
def cauW : List ByteArray := [⟨⟨[115, 104, 111, 111, 116]⟩⟩, ⟨⟨[116, 117, 114, 110]⟩⟩, ⟨⟨[119, 101, 97, 116, 104, 101, 114]⟩⟩, ⟨⟨[97, 110, 105, 109, 97, 108]⟩⟩, ⟨⟨[103, 101, 97, 114]⟩⟩, ⟨⟨[115, 104, 97, 114, 101]⟩⟩]
def cnum (s : ByteArray) : List ByteArray → Int → Int
 | [], _ => -1
 | a :: l, i => if s = a then i else cnum s l (i + 1)
def cauN (s : ByteArray) : Int := cnum s cauW 0
def pairs : List ByteArray → Int → List (Value × Value)
 | [], _ => []
 | a :: l, i => (.string a, .int .i64 i) :: pairs l (i + 1)
theorem find_num (s : ByteArray) : ∀ (l : List ByteArray) (k : Int) (i : Nat), 0 ≤ k → (cnum s l k = -1 ∧ afind .string (.string s) (pairs l k) i = some none) ∨ (0 ≤ cnum s l k ∧ ∃ j, afind .string (.string s) (pairs l k) i = some (some (j, .int .i64 (cnum s l k))))
 | [], k, i, _ => .inl ⟨rfl, rfl⟩
 | a :: l, k, i, hk => by
   have e : afind .string (.string s) (pairs (a :: l) k) i = (match some (s == a) with | some true => some (some (i, .int .i64 k)) | some false => afind .string (.string s) (pairs l (k + 1)) (i + 1) | none => none) := rfl
   have e2 : cnum s (a :: l) k = if s = a then k else cnum s l (k + 1) := rfl
   rw [e, e2, ba_bq]
   by_cases h : s = a
   · rw [decide_eq_true h, if_pos h]; exact .inr ⟨hk, _, rfl⟩
   · rw [decide_eq_false h, if_neg h]
     exact find_num s l (k + 1) (i + 1) (by omega)
theorem lk_num {h : H} {b : Nat} {s : ByteArray} (at1 : At h b (.map numM)) : alookup (mz G).P h 200 (.map (some b)) (.string s) true = some (.tuple #[.int .i64 (if 0 ≤ cauN s then cauN s else 0), .bool (decide (0 ≤ cauN s))]) := by
 have zz : tzero Tryz.prog 3 = some (.int .i64 0) := zz3
 have en : numM = pairs cauW 0 := rfl
 show alookup Tryz.prog h 200 _ _ _ = _
 unfold alookup
 simp only [u200, Tryz.underlying9, zz, plainKey, plainVal, show gd (Value.int .i64 0) = true from rfl, Bool.and_self, at1.get, en]
 unfold cauN
 rcases find_num s cauW 0 0 (by omega) with ⟨h1, h2⟩ | ⟨h1, j, h2⟩
 · rw [h2, h1]; rfl
 · rw [h2, if_pos h1, decide_eq_true h1]; rfl
theorem upd_num {h : H} {b i : Nat} {w : ByteArray} (at1 : At h b (.map (numM.take i))) (hf : afind .string (.string w) (numM.take i) 0 = some none) (hn : numM.take (i + 1) = numM.take i ++ [(.string w, .int .i64 (i : Nat))]) : amapUpdate (mz G).P h 200 (.map (some b)) (.string w) (.int .i64 (i : Nat)) = some (h.set b (.map (numM.take (i + 1)))) := by
 show amapUpdate Tryz.prog h 200 _ _ _ = _
 unfold amapUpdate
 simp only [u200, Tryz.underlying9, plainKey, plainVal, Bool.and_self, at1.get]
 rw [hf, hn]
theorem c109v (hw : Wf h) : Cf (mz G) (.func (.func 109) #[] #[]) [] h fun r h' => r = .agg ⟨[.string ⟨⟨[115, 104, 111, 111, 116]⟩⟩, .bool false, .func (.func 156) #[] #[], .string ⟨⟨[116, 117, 114, 110]⟩⟩, .bool false, .func (.func 157) #[] #[], .string ⟨⟨[119, 101, 97, 116, 104, 101, 114]⟩⟩, .bool true, .func (.func 158) #[] #[], .string ⟨⟨[97, 110, 105, 109, 97, 108]⟩⟩, .bool true, .func (.func 159) #[] #[], .string ⟨⟨[103, 101, 97, 114]⟩⟩, .bool true, .func (.func 160) #[] #[], .string ⟨⟨[115, 104, 97, 114, 101]⟩⟩, .bool true, .func (.func 161) #[] #[]]⟩ ∧ Grow h h' := by
 refine ak_ 8 [.cell 0 192] Tryz.func109 rfl rfl rfl rfl ?_
 repeat' (first | with_reducible refine ad_ ?_ | ((with_reducible refine ac_ ?_); first | ((with_reducible refine ay_ ?_); refine bQ_ (aB_ rfl rfl ah_ zs192 rfl rfl rfl rfl) ?_) | refine ao_ ?_) | refine ap_ ?_)
 exact rqc1 rfl (ldAgg ah_ Tryz.underlying192 rfl zs192 rfl rfl) ⟨rfl, au_⟩
set_option maxHeartbeats 8000000 in
theorem c116 (hw : Wf h) : Cf (mz G) (.func (.func 116) #[] #[]) [] h fun r h' => r = .map (some h.nx) ∧ At h' h.nx (.map numM) ∧ Grow h h' := by
 have q109 := fun (h' : H) (w' : Wf h') => c109v (G := G) (h := h') w'
 refine ak_ 16 [.tmp 0] Tryz.func116 rfl rfl rfl rfl ?_
 repeat' (first | with_reducible refine ad_ ?_ | ((with_reducible refine ac_ ?_); first | ((with_reducible refine at_ ?_); (refine as_ rfl rfl rfl rfl (q109 _ aA_) rfl rfl ?_; rintro _ _ ⟨rfl, hq⟩; all_goals (try (have hqn := hq.nx); try simp only [aU_] at hqn))) | refine ao_ ?_) | refine ap_ ?_ | ((with_reducible refine ac_ ?_); refine aq_ (op_mkMap (M := mz G)) ?_))
 refine bo_ (fun i => 6 - i) (fun i : Nat => [(1, .map (some h.nx)), (5, .agg ⟨[.string ⟨⟨[115, 104, 111, 111, 116]⟩⟩, .bool false, .func (.func 156) #[] #[], .string ⟨⟨[116, 117, 114, 110]⟩⟩, .bool false, .func (.func 157) #[] #[], .string ⟨⟨[119, 101, 97, 116, 104, 101, 114]⟩⟩, .bool true, .func (.func 158) #[] #[], .string ⟨⟨[97, 110, 105, 109, 97, 108]⟩⟩, .bool true, .func (.func 159) #[] #[], .string ⟨⟨[103, 101, 97, 114]⟩⟩, .bool true, .func (.func 160) #[] #[], .string ⟨⟨[115, 104, 97, 114, 101]⟩⟩, .bool true, .func (.func 161) #[] #[]]⟩), (6, .int .i64 (i : Nat))]) (fun i h' => (Wf h' ∧ Grow h h') ∧ i ≤ 6 ∧ At h' h.nx (.map (numM.take i))) 0 (af_ ⟨rfl, rfl, rfl, trivial⟩) ⟨⟨aA_, au_⟩, by omega, ah_⟩ ?_
 rintro i h1 ⟨⟨w1, g1⟩, hi, at1⟩
 have n1 := g1.nx
 have l1 := at1.lt
 by_cases hlt : i < 6
 · match i, hlt with
   | 0, _ =>
     repeat' (first | with_reducible refine ad_ ?_ | ((with_reducible refine ac_ ?_); first | ((with_reducible refine bv_ ?_); refine aq_ (by_ (v := .agg ⟨[.string ⟨⟨[115, 104, 111, 111, 116]⟩⟩, .bool false, .func (.func 156) #[] #[]]⟩) rfl rfl Tryz.underlying192 ce_ (by decide) (by decide) rfl) ?_) | ((with_reducible refine ay_ ?_); refine bQ_ (aB_ rfl rfl ah_ ce_ rfl rfl rfl rfl) ?_) | ((with_reducible refine al_ ?_); refine aq_ (ae_ rfl ah_ Tryz.underlying9 rfl rfl) ?_) | refine ao_ ?_) | refine ap_ ?_ | ((with_reducible refine ac_ ?_); refine bQ_ (op_mapUpd rfl rfl rfl (upd_num (i := 0) (w := ⟨⟨[115, 104, 111, 111, 116]⟩⟩) ah_ rfl rfl)) ?_))
     exact aI_ (0 + 1) (by omega) (af_ ⟨rfl, rfl, rfl, trivial⟩) ⟨⟨aA_, au_⟩, by omega, ah_⟩
   | 1, _ =>
     repeat' (first | with_reducible refine ad_ ?_ | ((with_reducible refine ac_ ?_); first | ((with_reducible refine bv_ ?_); refine aq_ (by_ (v := .agg ⟨[.string ⟨⟨[116, 117, 114, 110]⟩⟩, .bool false, .func (.func 157) #[] #[]]⟩) rfl rfl Tryz.underlying192 ce_ (by decide) (by decide) rfl) ?_) | ((with_reducible refine ay_ ?_); refine bQ_ (aB_ rfl rfl ah_ ce_ rfl rfl rfl rfl) ?_) | ((with_reducible refine al_ ?_); refine aq_ (ae_ rfl ah_ Tryz.underlying9 rfl rfl) ?_) | refine ao_ ?_) | refine ap_ ?_ | ((with_reducible refine ac_ ?_); refine bQ_ (op_mapUpd rfl rfl rfl (upd_num (i := 1) (w := ⟨⟨[116, 117, 114, 110]⟩⟩) ah_ rfl rfl)) ?_))
     exact aI_ (1 + 1) (by omega) (af_ ⟨rfl, rfl, rfl, trivial⟩) ⟨⟨aA_, au_⟩, by omega, ah_⟩
   | 2, _ =>
     repeat' (first | with_reducible refine ad_ ?_ | ((with_reducible refine ac_ ?_); first | ((with_reducible refine bv_ ?_); refine aq_ (by_ (v := .agg ⟨[.string ⟨⟨[119, 101, 97, 116, 104, 101, 114]⟩⟩, .bool true, .func (.func 158) #[] #[]]⟩) rfl rfl Tryz.underlying192 ce_ (by decide) (by decide) rfl) ?_) | ((with_reducible refine ay_ ?_); refine bQ_ (aB_ rfl rfl ah_ ce_ rfl rfl rfl rfl) ?_) | ((with_reducible refine al_ ?_); refine aq_ (ae_ rfl ah_ Tryz.underlying9 rfl rfl) ?_) | refine ao_ ?_) | refine ap_ ?_ | ((with_reducible refine ac_ ?_); refine bQ_ (op_mapUpd rfl rfl rfl (upd_num (i := 2) (w := ⟨⟨[119, 101, 97, 116, 104, 101, 114]⟩⟩) ah_ rfl rfl)) ?_))
     exact aI_ (2 + 1) (by omega) (af_ ⟨rfl, rfl, rfl, trivial⟩) ⟨⟨aA_, au_⟩, by omega, ah_⟩
   | 3, _ =>
     repeat' (first | with_reducible refine ad_ ?_ | ((with_reducible refine ac_ ?_); first | ((with_reducible refine bv_ ?_); refine aq_ (by_ (v := .agg ⟨[.string ⟨⟨[97, 110, 105, 109, 97, 108]⟩⟩, .bool true, .func (.func 159) #[] #[]]⟩) rfl rfl Tryz.underlying192 ce_ (by decide) (by decide) rfl) ?_) | ((with_reducible refine ay_ ?_); refine bQ_ (aB_ rfl rfl ah_ ce_ rfl rfl rfl rfl) ?_) | ((with_reducible refine al_ ?_); refine aq_ (ae_ rfl ah_ Tryz.underlying9 rfl rfl) ?_) | refine ao_ ?_) | refine ap_ ?_ | ((with_reducible refine ac_ ?_); refine bQ_ (op_mapUpd rfl rfl rfl (upd_num (i := 3) (w := ⟨⟨[97, 110, 105, 109, 97, 108]⟩⟩) ah_ rfl rfl)) ?_))
     exact aI_ (3 + 1) (by omega) (af_ ⟨rfl, rfl, rfl, trivial⟩) ⟨⟨aA_, au_⟩, by omega, ah_⟩
   | 4, _ =>
     repeat' (first | with_reducible refine ad_ ?_ | ((with_reducible refine ac_ ?_); first | ((with_reducible refine bv_ ?_); refine aq_ (by_ (v := .agg ⟨[.string ⟨⟨[103, 101, 97, 114]⟩⟩, .bool true, .func (.func 160) #[] #[]]⟩) rfl rfl Tryz.underlying192 ce_ (by decide) (by decide) rfl) ?_) | ((with_reducible refine ay_ ?_); refine bQ_ (aB_ rfl rfl ah_ ce_ rfl rfl rfl rfl) ?_) | ((with_reducible refine al_ ?_); refine aq_ (ae_ rfl ah_ Tryz.underlying9 rfl rfl) ?_) | refine ao_ ?_) | refine ap_ ?_ | ((with_reducible refine ac_ ?_); refine bQ_ (op_mapUpd rfl rfl rfl (upd_num (i := 4) (w := ⟨⟨[103, 101, 97, 114]⟩⟩) ah_ rfl rfl)) ?_))
     exact aI_ (4 + 1) (by omega) (af_ ⟨rfl, rfl, rfl, trivial⟩) ⟨⟨aA_, au_⟩, by omega, ah_⟩
   | 5, _ =>
     repeat' (first | with_reducible refine ad_ ?_ | ((with_reducible refine ac_ ?_); first | ((with_reducible refine bv_ ?_); refine aq_ (by_ (v := .agg ⟨[.string ⟨⟨[115, 104, 97, 114, 101]⟩⟩, .bool true, .func (.func 161) #[] #[]]⟩) rfl rfl Tryz.underlying192 ce_ (by decide) (by decide) rfl) ?_) | ((with_reducible refine ay_ ?_); refine bQ_ (aB_ rfl rfl ah_ ce_ rfl rfl rfl rfl) ?_) | ((with_reducible refine al_ ?_); refine aq_ (ae_ rfl ah_ Tryz.underlying9 rfl rfl) ?_) | refine ao_ ?_) | refine ap_ ?_ | ((with_reducible refine ac_ ?_); refine bQ_ (op_mapUpd rfl rfl rfl (upd_num (i := 5) (w := ⟨⟨[115, 104, 97, 114, 101]⟩⟩) ah_ rfl rfl)) ?_))
     exact aI_ (5 + 1) (by omega) (af_ ⟨rfl, rfl, rfl, trivial⟩) ⟨⟨aA_, au_⟩, by omega, ah_⟩
 · have e : i = 6 := by omega
   subst e
   repeat' (first | with_reducible refine ad_ ?_ | ((with_reducible refine ac_ ?_); refine ao_ ?_) | refine ap_ ?_)
   exact rq1 rfl ⟨rfl, at1, g1⟩
def enE (e : En) : Int := if spE ⟨e.f, e.t⟩ ≠ 0 then spE ⟨e.f, e.t⟩ else if 0 ≤ cauN e.c then 0 else 13
def enO (x y : En) : Bool := decide (y.t ≤ x.f)
def ensE (l : List En) : Int := if 64 < l.length then 5 else errN (sucA ⟨0, 0, .empty⟩ enE enO l) l.length
attribute [local irreducible] spE cauN numM
theorem c164 {e : En} (hw : Wf h) : Cf (mz G) (.func (.func 164) #[] #[]) [.agg ⟨e.cells⟩] h fun r h' => r = .agg ⟨(⟨e.f, e.t⟩ : Spn).cells⟩ ∧ Grow h h' := by
 obtain ⟨f, t, cz⟩ := e
 dsimp only [En.cells, Spn.cells]
 refine ak_ 5 [.cell 2 241] Tryz.func164 rfl rfl rfl rfl ?_
 repeat' (first | with_reducible refine ad_ ?_ | ((with_reducible refine ac_ ?_); first | ((with_reducible refine al_ ?_); refine aq_ (aj_ rfl ah_ Tryz.underlying79 rfl zs79 rfl rfl) ?_) | ((with_reducible refine ay_ ?_); refine bQ_ (aB_ rfl rfl ah_ cv_ rfl rfl rfl rfl) ?_) | refine ao_ ?_) | refine ap_ ?_)
 exact rqc1 rfl (ldAgg ah_ Tryz.underlying241 rfl cv_ rfl rfl) ⟨rfl, au_⟩
theorem c118 {x y : En} (hw : Wf h) : Cf (mz G) (.func (.func 118) #[] #[]) [.agg ⟨x.cells⟩, .agg ⟨y.cells⟩] h fun r h' => r = .bool (enO x y) ∧ Grow h h' := by
 have q1 := fun (h' : H) (w' : Wf h') => c164 (G := G) (h := h') (e := x) w'
 have q2 := fun (h' : H) (w' : Wf h') => c164 (G := G) (h := h') (e := y) w'
 have q3 := fun (h' : H) (w' : Wf h') => c165 (G := G) (h := h') (x := ⟨x.f, x.t⟩) (y := ⟨y.f, y.t⟩) w'
 have e : spO ⟨x.f, x.t⟩ ⟨y.f, y.t⟩ = enO x y := rfl
 rw [e] at q3
 clear e
 generalize enO x y = B at q3 ⊢
 obtain ⟨f, t, cz⟩ := x
 obtain ⟨g, u, dz⟩ := y
 dsimp only [En.cells, Spn.cells] at q1 q2 q3 ⊢
 refine ak_ 10 [.tmp 4] Tryz.func118 rfl rfl rfl rfl ?_
 repeat' (first | with_reducible refine ad_ ?_ | ((with_reducible refine ac_ ?_); refine ao_ ?_) | ((with_reducible refine bb_ ?_); ((with_reducible refine bd_ ?_); first | ((with_reducible refine bm_ ?_); refine aH_ (aa_ rfl) rfl rfl (ar_ rfl (aW_ rfl)) rfl rfl rfl ?_) | ((with_reducible refine aZ_ ?_); refine aO_ (aa_ rfl) rfl (ar_ rfl (aj_ rfl ah_ Tryz.underlying133 rfl bt_ rfl rfl)) rfl rfl rfl ?_) | ((with_reducible refine aV_ ?_); first | (refine aM_ (aa_ rfl) rfl rfl rfl rfl (q1 _ aA_) rfl rfl ?_; rintro _ _ ⟨rfl, hq⟩; all_goals (try (have hqn := hq.nx); try simp only [aU_] at hqn)) | (refine aM_ (aa_ rfl) rfl rfl rfl rfl (q2 _ aA_) rfl rfl ?_; rintro _ _ ⟨rfl, hq⟩; all_goals (try (have hqn := hq.nx); try simp only [aU_] at hqn)) | (refine aM_ (aa_ rfl) rfl rfl rfl rfl (q3 _ aA_) rfl rfl ?_; rintro _ _ ⟨rfl, hq⟩; all_goals (try (have hqn := hq.nx); try simp only [aU_] at hqn))) | with_reducible refine bj_ ?_ ?_)) | with_reducible exact aP_ | with_reducible refine aJ_ ?_ ?_ | ((with_reducible refine bi_ ?_); first | exact aS_ | refine aQ_ rfl ?_ | refine am_ rfl rfl (ar_ rfl (aj_ rfl ah_ Tryz.underlying133 rfl bt_ (by rfl) rfl)) ?_) | refine ap_ ?_ | refine aF_ (id := 1) 6 [0, 1, 0, 7, 15, 31] [0, 1, 2, 3, 4, 5] (by kernel_rfl) (by kernel_rfl) rfl rfl ?_)
 exact rq1 rfl ⟨rfl, au_⟩
set_option maxHeartbeats 4000000 in
theorem c120 {e : En} {b : Nat} (hb : At h b (.map numM)) (hw : Wf h) : Cf (mz G) (.func (.func 120) #[] #[]) [.agg ⟨e.cells⟩, .map (some b)] h fun r h' => r = .int .i64 (enE e) ∧ Grow h h' := by
 have q1 := fun (h' : H) (w' : Wf h') => c164 (G := G) (h := h') (e := e) w'
 have q2 := fun (h' : H) (w' : Wf h') => c166 (G := G) (h := h') (s := ⟨e.f, e.t⟩) w'
 have hE : enE e = if spE ⟨e.f, e.t⟩ ≠ 0 then spE ⟨e.f, e.t⟩ else if 0 ≤ cauN e.c then 0 else 13 := rfl
 rw [hE]
 have lb := hb.lt
 obtain ⟨f, t, cz⟩ := e
 dsimp only [En.cells, Spn.cells] at q1 q2 ⊢
 generalize spE ⟨f, t⟩ = E at q2 ⊢
 by_cases h0 : E = 0
 · subst h0
   rw [if_neg (by decide)]
   by_cases hc : 0 ≤ cauN cz
   · rw [if_pos hc]
     have lkn := fun (h' : H) (at1 : At h' b (.map numM)) => lk_num (G := G) (s := cz) at1
     rw [if_pos hc, decide_eq_true hc] at lkn
     refine ak_ 23 [.tmp 4] Tryz.func120 rfl rfl rfl rfl ?_
     repeat' (first | with_reducible refine ad_ ?_ | ((with_reducible refine ac_ ?_); first | ((with_reducible refine al_ ?_); first | refine aq_ (aj_ rfl ah_ Tryz.underlying133 rfl bt_ rfl rfl) ?_ | refine aq_ (ae_ rfl ah_ Tryz.underlying9 rfl rfl) ?_) | ((with_reducible refine at_ ?_); first | (refine as_ rfl rfl rfl rfl (q1 _ aA_) rfl rfl ?_; rintro _ _ ⟨rfl, hq⟩; all_goals (try (have hqn := hq.nx); try simp only [aU_] at hqn)) | (refine as_ rfl rfl rfl rfl (q2 _ aA_) rfl rfl ?_; rintro _ _ ⟨rfl, hq⟩; all_goals (try (have hqn := hq.nx); try simp only [aU_] at hqn))) | refine ao_ ?_) | refine ap_ ?_ | ((with_reducible refine ac_ ?_); refine aq_ (cc_ rfl rfl (lkn _ ah_)) ?_))
     exact rq1 rfl ⟨rfl, au_⟩
   · rw [if_neg hc]
     have lkn := fun (h' : H) (at1 : At h' b (.map numM)) => lk_num (G := G) (s := cz) at1
     rw [if_neg hc, decide_eq_false hc] at lkn
     refine ak_ 23 [.tmp 4] Tryz.func120 rfl rfl rfl rfl ?_
     repeat' (first | with_reducible refine ad_ ?_ | ((with_reducible refine ac_ ?_); first | ((with_reducible refine al_ ?_); first | refine aq_ (aj_ rfl ah_ Tryz.underlying133 rfl bt_ rfl rfl) ?_ | refine aq_ (ae_ rfl ah_ Tryz.underlying9 rfl rfl) ?_) | ((with_reducible refine at_ ?_); first | (refine as_ rfl rfl rfl rfl (q1 _ aA_) rfl rfl ?_; rintro _ _ ⟨rfl, hq⟩; all_goals (try (have hqn := hq.nx); try simp only [aU_] at hqn)) | (refine as_ rfl rfl rfl rfl (q2 _ aA_) rfl rfl ?_; rintro _ _ ⟨rfl, hq⟩; all_goals (try (have hqn := hq.nx); try simp only [aU_] at hqn))) | refine ao_ ?_) | refine ap_ ?_ | ((with_reducible refine ac_ ?_); refine aq_ (cc_ rfl rfl (lkn _ ah_)) ?_))
     exact rq1 rfl ⟨rfl, au_⟩
 · rw [if_pos h0]
   refine ak_ 23 [.tmp 4] Tryz.func120 rfl rfl rfl rfl ?_
   repeat' (first | with_reducible refine ad_ ?_ | ((with_reducible refine ac_ ?_); first | ((with_reducible refine al_ ?_); refine aq_ (aj_ rfl ah_ Tryz.underlying133 rfl bt_ rfl rfl) ?_) | ((with_reducible refine at_ ?_); first | (refine as_ rfl rfl rfl rfl (q1 _ aA_) rfl rfl ?_; rintro _ _ ⟨rfl, hq⟩; all_goals (try (have hqn := hq.nx); try simp only [aU_] at hqn)) | (refine as_ rfl rfl rfl rfl (q2 _ aA_) rfl rfl ?_; rintro _ _ ⟨rfl, hq⟩; all_goals (try (have hqn := hq.nx); try simp only [aU_] at hqn))) | refine ao_ ?_) | refine ap_ ?_ | (refine aG_ rfl (fun hb => ?_) (fun hb => aw_ hb); (try simp only [aX_, reduceCtorEq] at hb)))
   exact rq1 rfl ⟨rfl, au_⟩
theorem c119 {A b : Nat} {e : En} (hA : At h A (.cells [.map (some b)] 200 1 false)) (hb : At h b (.map numM)) (hw : Wf h) : Cf (mz G) (.func (.func 119) #[] #[.pointer (some ⟨A, 0, some 0⟩)]) [.agg ⟨e.cells⟩] h fun r h' => r = .int .i64 (enE e) ∧ Grow h h' := by
 have q1 := fun (h' : H) (g : Grow h h') (w' : Wf h') => c120 (G := G) (e := e) (hb.grow g) w'
 generalize enE e = E at q1 ⊢
 obtain ⟨f, t, cz⟩ := e
 dsimp only [En.cells] at q1 ⊢
 have lA := hA.lt
 refine ch_ (sz := 7) (rs := [.tmp 3]) (all := [.agg ⟨[.int .i64 f, .int .i64 t, .string cz]⟩, .pointer (some ⟨A, 0, some 0⟩)]) Tryz.func119 rfl rfl rfl rfl rfl ?_
 repeat' (first | with_reducible refine ad_ ?_ | ((with_reducible refine ac_ ?_); first | ((with_reducible refine al_ ?_); first | refine aq_ (aj_ rfl ah_ Tryz.underlying133 rfl bt_ rfl rfl) ?_ | refine aq_ (ae_ rfl ah_ Tryz.underlying200 rfl rfl) ?_) | ((with_reducible refine at_ ?_); (refine as_ rfl rfl rfl rfl (q1 _ au_ aA_) rfl rfl ?_; rintro _ _ ⟨rfl, hq⟩; all_goals (try (have hqn := hq.nx); try simp only [aU_] at hqn))) | refine ao_ ?_) | refine ap_ ?_)
 exact rq1 rfl ⟨rfl, au_⟩
set_option maxHeartbeats 4000000 in
theorem c117 {v : Value} {A : Nat} {n : Nat} {l : List En} (e : En → Int) (ok : En → En → Bool) (s : Sl G h 3 v n (l.flatMap En.cells)) (hl : l.length = n) (hn : n < 1000000) (hw : Wf h) (hq1 : ∀ h' x, Grow h h' → Wf h' → Cf (mz G) (.func (.func 119) #[] #[.pointer (some ⟨A, 0, some 0⟩)]) [.agg ⟨En.cells x⟩] h' fun r h2 => r = .int .i64 (e x) ∧ Grow h' h2) (hq2 : ∀ h' x y, Wf h' → Cf (mz G) (.func (.func 118) #[] #[]) [.agg ⟨En.cells x⟩, .agg ⟨En.cells y⟩] h' fun r h2 => r = .bool (ok x y) ∧ Grow h' h2) :
   Cf (mz G) (.func (.func 117) #[] #[]) [v, .func (.func 118) #[] #[], .func (.func 119) #[] #[.pointer (some ⟨A, 0, some 0⟩)]] h fun r h' => r = .int .i64 (errN (sucA ⟨0, 0, .empty⟩ e ok l) n) ∧ Grow h h' := by
 obtain ⟨a, c, rfl⟩ := s.form
 refine ak_ 37 [.tmp 6] Tryz.func117 rfl rfl rfl rfl ?_
 repeat' (first | with_reducible refine ad_ ?_ | ((with_reducible refine ac_ ?_); first | ((with_reducible refine av_ ?_); refine aq_ (ax_ rfl Tryz.underlying85) ?_) | refine ao_ ?_) | refine ap_ ?_)
 refine bo_ (fun k => n - k) (fun k : Nat => [(0, .slice a n c), (1, .func (.func 118) #[] #[]), (2, .func (.func 119) #[] #[.pointer (some ⟨A, 0, some 0⟩)]), (10, .slice a n c), (11, .int .i64 n), (12, .int .i64 k)]) (fun k h' => (Wf h' ∧ Grow h h') ∧ k ≤ n ∧ errN (sucA ⟨0, 0, .empty⟩ e ok l) k = 0) 0 (af_ ⟨rfl, rfl, rfl, rfl, rfl, rfl, trivial⟩) ⟨⟨aA_, au_⟩, Nat.zero_le _, cM_ _⟩ ?_
 rintro k h1 ⟨⟨w1, g1⟩, hk, hz⟩
 have n1 := g1.nx
 by_cases hlt : k < n
 · obtain ⟨id, i1, i3⟩ := cw_ En.len ⟨0, 0, .empty⟩ (s.grow g1) hl Tryz.underlying85 bt_ (i := (k : Int)) hlt rfl
   have nxt := cB_ hz
   have hit := fun (q : (sucA ⟨0, 0, .empty⟩ e ok l) k ≠ 0) => (errN_hit (f := (sucA ⟨0, 0, .empty⟩ e ok l)) (k := k + 1) (n := n) (by omega) (by rw [nxt]; exact q)).trans nxt
   obtain ⟨x0, hx⟩ : ∃ x, l.getD k ⟨0, 0, .empty⟩ = x := ⟨_, rfl⟩
   have hF : (sucA ⟨0, 0, .empty⟩ e ok l) k = if e x0 ≠ 0 then e x0 else if 0 < k ∧ ok x0 (l.getD (k - 1) ⟨0, 0, .empty⟩) = false then 11 else 0 := by unfold sucA; rw [hx]
   rw [hx] at i3
   have q1 := fun (h' : H) (g' : Grow h1 h') (w' : Wf h') => hq1 h' x0 (g1.trans g') w'
   obtain ⟨E, hE⟩ : ∃ E, e x0 = E := ⟨_, rfl⟩
   rw [hE] at q1 hF
   by_cases he : E = 0
   · rw [he] at q1
     rw [if_neg (by omega)] at hF
     by_cases hk0 : 0 < k
     · obtain ⟨jd, j1, j3⟩ := cw_ En.len ⟨0, 0, .empty⟩ (s.grow g1) hl Tryz.underlying85 bt_ (i := (k : Int) - 1) (q := k - 1) (by omega) (by omega)
       obtain ⟨y0, hy⟩ : ∃ y, l.getD (k - 1) ⟨0, 0, .empty⟩ = y := ⟨_, rfl⟩
       rw [hy] at j3 hF
       have q2 := fun (h' : H) (w' : Wf h') => hq2 h' x0 y0 w'
       obtain ⟨B, hB⟩ : ∃ B, ok x0 y0 = B := ⟨_, rfl⟩
       rw [hB] at q2 hF
       clear hx hy hE
       obtain ⟨f, t, cz⟩ := x0
       dsimp only [En.cells] at i3 j3 q1 q2
       cases B with
       | false =>
         rw [if_pos ⟨hk0, rfl⟩] at hF
         rw [hit (by rw [hF]; decide), hF]
         clear hF hit nxt
         repeat' (first | with_reducible refine ad_ ?_ | ((with_reducible refine ac_ ?_); first | ((with_reducible refine an_ ?_); refine aq_ (ag_ rfl rfl i1) ?_) | ((with_reducible refine al_ ?_); first | refine aq_ (aN_ rfl Tryz.underlying133 rfl bt_ (i3 _ au_).all) ?_ | refine aq_ (aj_ rfl ah_ Tryz.underlying133 rfl bt_ rfl rfl) ?_) | ((with_reducible refine ay_ ?_); refine bQ_ (aB_ rfl rfl ah_ bt_ rfl rfl rfl rfl) ?_) | ((with_reducible refine at_ ?_); (refine as_ rfl rfl rfl rfl (q1 _ au_ aA_) rfl rfl ?_; rintro _ _ ⟨rfl, hq⟩; all_goals (try (have hqn := hq.nx); try simp only [aU_] at hqn))) | refine ao_ ?_) | ((with_reducible refine bb_ ?_); ((with_reducible refine bd_ ?_); first | ((with_reducible refine ba_ ?_); refine aH_ (aa_ rfl) rfl rfl (ar_ rfl (aD_ rfl)) rfl rfl rfl ?_) | ((with_reducible refine bD_ ?_); refine aH_ (aa_ rfl) rfl rfl (ar_ rfl (bM_ rfl rfl)) rfl rfl rfl ?_) | ((with_reducible refine cj_ ?_); refine aH_ (aa_ rfl) rfl rfl (ar_ rfl (cb_ rfl rfl)) rfl rfl rfl ?_) | ((with_reducible refine xk_g ?_); first | ((with_reducible refine cJ_ ?_); refine aH_ (aL_ rfl rfl rfl) rfl rfl (ar_ rfl (aD_ rfl)) rfl rfl rfl ?_) | ((with_reducible refine bJ_ ?_); refine aH_ (aL_ rfl rfl rfl) rfl rfl (ar_ rfl (ag_ rfl rfl j1)) rfl rfl rfl ?_) | ((with_reducible refine cK_ ?_); first | refine aO_ (aL_ rfl rfl rfl) rfl (ar_ rfl (aN_ rfl Tryz.underlying133 rfl bt_ (j3 _ au_).all)) rfl rfl rfl ?_ | refine aO_ (aL_ rfl rfl rfl) rfl (ar_ rfl (aj_ rfl ah_ Tryz.underlying133 rfl bt_ rfl rfl)) rfl rfl rfl ?_) | ((with_reducible refine xg_bin ?_); refine aH_ (aL_ rfl rfl rfl) rfl rfl (ar_ rfl (bY_ rfl rfl (w64 (by omega) (by omega)))) rfl rfl rfl ?_) | ((with_reducible refine xg_un ?_); refine aH_ (aL_ rfl rfl rfl) rfl rfl (ar_ rfl (cG_ rfl)) rfl rfl rfl ?_) | ((with_reducible refine xg_callv ?_); (refine aM_ (aL_ rfl rfl rfl) rfl rfl rfl rfl (q2 _ aA_) rfl rfl ?_; rintro _ _ ⟨rfl, hq⟩; all_goals (try (have hqn := hq.nx); try simp only [aU_] at hqn))) | (refine bO_ rfl rfl rfl (fun hb => ?_) (fun hb => aw_ hb); (try simp only [aX_, reduceCtorEq] at hb))) | with_reducible refine bj_ ?_ ?_)) | with_reducible exact aP_ | with_reducible refine aJ_ ?_ ?_ | ((with_reducible refine bi_ ?_); first | exact aS_ | refine aQ_ rfl ?_ | refine am_ rfl rfl (ar_ rfl (aN_ rfl Tryz.underlying133 rfl bt_ (j3 _ au_).all)) ?_ | refine am_ rfl rfl (ar_ rfl (aj_ rfl ah_ Tryz.underlying133 rfl bt_ (by rfl) rfl)) ?_) | refine ap_ ?_ | (refine aG_ rfl (fun hb => ?_) (fun hb => aw_ hb); (try simp only [aX_, reduceCtorEq] at hb)) | refine aF_ (id := 7) 13 [0, 1, 3, 7, 7, 7, 7, 71, 231, 487, 1023, 2047, 4095] [0, 1, 2, 3, 4, 5, 6, 7, 8, 9, 10, 11, 12] (by kernel_rfl) (by kernel_rfl) rfl rfl ?_)
         all_goals exact rq1 rfl ⟨rfl, au_⟩
       | true =>
         rw [if_neg (by simp)] at hF
         rw [hF] at nxt
         clear hF hit
         repeat' (first | with_reducible refine ad_ ?_ | ((with_reducible refine ac_ ?_); first | ((with_reducible refine an_ ?_); refine aq_ (ag_ rfl rfl i1) ?_) | ((with_reducible refine al_ ?_); first | refine aq_ (aN_ rfl Tryz.underlying133 rfl bt_ (i3 _ au_).all) ?_ | refine aq_ (aj_ rfl ah_ Tryz.underlying133 rfl bt_ rfl rfl) ?_) | ((with_reducible refine ay_ ?_); refine bQ_ (aB_ rfl rfl ah_ bt_ rfl rfl rfl rfl) ?_) | ((with_reducible refine at_ ?_); (refine as_ rfl rfl rfl rfl (q1 _ au_ aA_) rfl rfl ?_; rintro _ _ ⟨rfl, hq⟩; all_goals (try (have hqn := hq.nx); try simp only [aU_] at hqn))) | refine ao_ ?_) | ((with_reducible refine bb_ ?_); ((with_reducible refine bd_ ?_); first | ((with_reducible refine ba_ ?_); refine aH_ (aa_ rfl) rfl rfl (ar_ rfl (aD_ rfl)) rfl rfl rfl ?_) | ((with_reducible refine bD_ ?_); refine aH_ (aa_ rfl) rfl rfl (ar_ rfl (bM_ rfl rfl)) rfl rfl rfl ?_) | ((with_reducible refine cj_ ?_); refine aH_ (aa_ rfl) rfl rfl (ar_ rfl (cb_ rfl rfl)) rfl rfl rfl ?_) | ((with_reducible refine xk_g ?_); first | ((with_reducible refine cJ_ ?_); refine aH_ (aL_ rfl rfl rfl) rfl rfl (ar_ rfl (aD_ rfl)) rfl rfl rfl ?_) | ((with_reducible refine bJ_ ?_); refine aH_ (aL_ rfl rfl rfl) rfl rfl (ar_ rfl (ag_ rfl rfl j1)) rfl rfl rfl ?_) | ((with_reducible refine cK_ ?_); first | refine aO_ (aL_ rfl rfl rfl) rfl (ar_ rfl (aN_ rfl Tryz.underlying133 rfl bt_ (j3 _ au_).all)) rfl rfl rfl ?_ | refine aO_ (aL_ rfl rfl rfl) rfl (ar_ rfl (aj_ rfl ah_ Tryz.underlying133 rfl bt_ rfl rfl)) rfl rfl rfl ?_) | ((with_reducible refine xg_bin ?_); refine aH_ (aL_ rfl rfl rfl) rfl rfl (ar_ rfl (bY_ rfl rfl (w64 (by omega) (by omega)))) rfl rfl rfl ?_) | ((with_reducible refine xg_un ?_); refine aH_ (aL_ rfl rfl rfl) rfl rfl (ar_ rfl (cG_ rfl)) rfl rfl rfl ?_) | ((with_reducible refine xg_callv ?_); (refine aM_ (aL_ rfl rfl rfl) rfl rfl rfl rfl (q2 _ aA_) rfl rfl ?_; rintro _ _ ⟨rfl, hq⟩; all_goals (try (have hqn := hq.nx); try simp only [aU_] at hqn))) | (refine bO_ rfl rfl rfl (fun hb => ?_) (fun hb => aw_ hb); (try simp only [aX_, reduceCtorEq] at hb))) | with_reducible refine bj_ ?_ ?_)) | with_reducible exact aP_ | with_reducible refine aJ_ ?_ ?_ | ((with_reducible refine bi_ ?_); first | exact aS_ | refine aQ_ rfl ?_ | refine am_ rfl rfl (ar_ rfl (aN_ rfl Tryz.underlying133 rfl bt_ (j3 _ au_).all)) ?_ | refine am_ rfl rfl (ar_ rfl (aj_ rfl ah_ Tryz.underlying133 rfl bt_ (by rfl) rfl)) ?_) | refine ap_ ?_ | (refine aG_ rfl (fun hb => ?_) (fun hb => aw_ hb); (try simp only [aX_, reduceCtorEq] at hb)) | refine aF_ (id := 7) 13 [0, 1, 3, 7, 7, 7, 7, 71, 231, 487, 1023, 2047, 4095] [0, 1, 2, 3, 4, 5, 6, 7, 8, 9, 10, 11, 12] (by kernel_rfl) (by kernel_rfl) rfl rfl ?_)
         all_goals exact aI_ (k + 1) (by omega) (af_ ⟨rfl, rfl, rfl, rfl, rfl, rfl, trivial⟩) ⟨⟨aA_, au_⟩, by omega, nxt⟩
     · rw [if_neg (by omega)] at hF
       rw [hF] at nxt
       clear hx hE hF hit
       obtain ⟨f, t, cz⟩ := x0
       dsimp only [En.cells] at i3 q1
       repeat' (first | with_reducible refine ad_ ?_ | ((with_reducible refine ac_ ?_); first | ((with_reducible refine an_ ?_); refine aq_ (ag_ rfl rfl i1) ?_) | ((with_reducible refine al_ ?_); first | refine aq_ (aN_ rfl Tryz.underlying133 rfl bt_ (i3 _ au_).all) ?_ | refine aq_ (aj_ rfl ah_ Tryz.underlying133 rfl bt_ rfl rfl) ?_) | ((with_reducible refine ay_ ?_); refine bQ_ (aB_ rfl rfl ah_ bt_ rfl rfl rfl rfl) ?_) | ((with_reducible refine at_ ?_); (refine as_ rfl rfl rfl rfl (q1 _ au_ aA_) rfl rfl ?_; rintro _ _ ⟨rfl, hq⟩; all_goals (try (have hqn := hq.nx); try simp only [aU_] at hqn))) | refine ao_ ?_) | ((with_reducible refine bb_ ?_); ((with_reducible refine bd_ ?_); first | ((with_reducible refine ba_ ?_); refine aH_ (aa_ rfl) rfl rfl (ar_ rfl (aD_ rfl)) rfl rfl rfl ?_) | ((with_reducible refine bD_ ?_); refine aH_ (aa_ rfl) rfl rfl (ar_ rfl (bM_ rfl rfl)) rfl rfl rfl ?_) | ((with_reducible refine cj_ ?_); refine aH_ (aa_ rfl) rfl rfl (ar_ rfl (ct_ rfl rfl)) rfl rfl rfl ?_) | ((with_reducible refine xk_g ?_); first | refine wx_s (wt_skip rfl rfl rfl rfl) rfl rfl ?_ | (refine bO_ rfl rfl rfl (fun hb => aw_ hb) (fun hb => ?_); (try simp only [aX_, reduceCtorEq] at hb))) | with_reducible refine bj_ ?_ ?_)) | with_reducible exact aP_ | refine ap_ ?_ | (refine aG_ rfl (fun hb => ?_) (fun hb => aw_ hb); (try simp only [aX_, reduceCtorEq] at hb)) | refine aF_ (id := 7) 13 [0, 1, 3, 7, 7, 7, 7, 71, 231, 487, 1023, 2047, 4095] [0, 1, 2, 3, 4, 5, 6, 7, 8, 9, 10, 11, 12] (by kernel_rfl) (by kernel_rfl) rfl rfl ?_)
       all_goals exact aI_ (k + 1) (by omega) (af_ ⟨rfl, rfl, rfl, rfl, rfl, rfl, trivial⟩) ⟨⟨aA_, au_⟩, by omega, nxt⟩
   · rw [if_pos he] at hF
     rw [hit (by rw [hF]; exact he), hF]
     clear hF hit nxt hx hE
     obtain ⟨f, t, cz⟩ := x0
     dsimp only [En.cells] at i3 q1
     repeat' (first | with_reducible refine ad_ ?_ | ((with_reducible refine ac_ ?_); first | ((with_reducible refine an_ ?_); refine aq_ (ag_ rfl rfl i1) ?_) | ((with_reducible refine al_ ?_); first | refine aq_ (aN_ rfl Tryz.underlying133 rfl bt_ (i3 _ au_).all) ?_ | refine aq_ (aj_ rfl ah_ Tryz.underlying133 rfl bt_ rfl rfl) ?_) | ((with_reducible refine ay_ ?_); refine bQ_ (aB_ rfl rfl ah_ bt_ rfl rfl rfl rfl) ?_) | ((with_reducible refine at_ ?_); (refine as_ rfl rfl rfl rfl (q1 _ au_ aA_) rfl rfl ?_; rintro _ _ ⟨rfl, hq⟩; all_goals (try (have hqn := hq.nx); try simp only [aU_] at hqn))) | refine ao_ ?_) | refine ap_ ?_ | (refine aG_ rfl (fun hb => ?_) (fun hb => aw_ hb); (try simp only [aX_, reduceCtorEq] at hb)))
     all_goals exact rq1 rfl ⟨rfl, au_⟩
 · have : k = n := by omega
   subst this
   rw [hz]
   repeat' (first | with_reducible refine ad_ ?_ | ((with_reducible refine ac_ ?_); refine ao_ ?_) | refine ap_ ?_ | (refine aG_ rfl (fun hb => ?_) (fun hb => ?_) <;> (try simp only [aX_, reduceCtorEq] at hb) <;> (try (exfalso; omega))))
   exact rq1 rfl ⟨rfl, au_⟩
theorem c49 {v : Value} {n : Nat} {l : List En} (s : Sl G h 3 v n (l.flatMap En.cells)) (hl : l.length = n) (hn : n < 1000000) (hw : Wf h) : Cf (mz G) (.func (.func 49) #[] #[]) [v] h fun r h' => r = .int .i64 (ensE l) ∧ Grow h h' := by
 have q116 := fun (h' : H) (w' : Wf h') => (c116 (G := G) (h := h') w').mono (Q' := fun r h2 => (∃ b, r = .map (some b) ∧ b < h2.nx ∧ At h2 b (.map numM)) ∧ Grow h' h2) (fun r h2 ⟨e1, e2, e3⟩ => ⟨⟨_, e1, e2.lt, e2⟩, e3⟩)
 have q117 := fun (h' : H) (A b : Nat) (hA : At h' A (.cells [.map (some b)] 200 1 false)) (hb : At h' b (.map numM)) (g : Grow h h') (w' : Wf h') => c117 (A := A) enE enO (s.grow g) hl hn w' (fun h2 x g2 w2 => c119 (hA.grow g2) (hb.grow g2) w2) (fun h2 x y w2 => c118 w2)
 have hE : ensE l = if 64 < n then 5 else errN (sucA ⟨0, 0, .empty⟩ enE enO l) n := by unfold ensE; rw [hl]
 rw [hE]
 obtain ⟨a, c, rfl⟩ := s.form
 by_cases h6 : 64 < n
 · rw [if_pos h6]
   refine ak_ 11 [.tmp 2] Tryz.func49 rfl rfl rfl rfl ?_
   repeat' (first | with_reducible refine ad_ ?_ | ((with_reducible refine ac_ ?_); first | ((with_reducible refine av_ ?_); refine aq_ (ax_ rfl Tryz.underlying85) ?_) | refine ao_ ?_) | refine ap_ ?_ | (refine aG_ rfl (fun hb => ?_) (fun hb => aw_ hb); (try simp only [aX_, reduceCtorEq] at hb)))
   exact rq1 rfl ⟨rfl, au_⟩
 · rw [if_neg h6]
   refine ak_ 11 [.tmp 2] Tryz.func49 rfl rfl rfl rfl ?_
   repeat' (first | with_reducible refine ad_ ?_ | ((with_reducible refine ac_ ?_); first | ((with_reducible refine cE_ ?_); refine aq_ (co_ (fun _ q => by cases q) rfl rfl) ?_) | ((with_reducible refine av_ ?_); refine aq_ (ax_ rfl Tryz.underlying85) ?_) | ((with_reducible refine ay_ ?_); refine bQ_ (op_st1 rfl rfl ah_ rfl zs200 rfl rfl rfl) ?_) | ((with_reducible refine at_ ?_); first | (refine as_ rfl rfl rfl rfl (q116 _ aA_) rfl rfl ?_; rintro _ _ ⟨⟨b, rfl, ltb, atb⟩, hq⟩; all_goals (try (have hqn := hq.nx); try simp only [aU_] at hqn)) | (refine as_ rfl rfl rfl rfl (q117 _ _ b ah_ ah_ au_ aA_) rfl rfl ?_; rintro _ _ ⟨rfl, hq⟩; all_goals (try (have hqn := hq.nx); try simp only [aU_] at hqn))) | refine ao_ ?_) | refine ap_ ?_ | (refine aG_ rfl (fun hb => aw_ hb) (fun hb => ?_); (try simp only [aX_, reduceCtorEq] at hb)))
   exact rq1 rfl ⟨rfl, au_⟩
end Go.Proofs.YtlioomhcdlicmaaGreatDoor
/- Survey: entries checked by the reference. -/
namespace Go.Proofs.YtlioomhcdlicmaaGreatDoor
open Go Go.Ab Go.Fl
attribute [local irreducible] SeqQ BlkQ LpQ RetQ Wc Wo WD WX Op1 Op1q Op1a Cf Cl From
attribute [local irreducible] Ieee.Format.order Ieee.Format.read Ieee.Format.nearest Ieee.Format.write Ieee.Format.mul Ieee.Format.div Ieee.Format.sqrt Ieee.Datum.order Ieee.Datum.integral K U rngE errN ptE firstNZ vesE watE sgE sgsE allE hitB sqD insB qsL lvl rn rl altB
set_option maxRecDepth 10000
variable {G : Base} {h : H}
attribute [local irreducible] spE numM
theorem cau_ws : WS = cauW := rfl
theorem cauN_nil {s : ByteArray} {i : Int} : cnum s [] i = -1 := rfl
theorem cnum_next {s : ByteArray} {l : List ByteArray} {k : Nat} {i : Int} (hk : k < l.length) : cnum s (l.drop k) i = if s = l.getD k .empty then i else cnum s (l.drop (k + 1)) (i + 1) := by
 rw [drop_next .empty hk]; rfl
attribute [local irreducible] cauW cnum
set_option maxHeartbeats 4000000 in
theorem c112 {s : ByteArray} (hw : Wf h) : Cf (mz G) (.func (.func 112) #[] #[]) [.string s] h fun r h' => r = .int .i64 (cauN s) ∧ Grow h h' := by
 have q48 := fun (h' : H) (w' : Wf h') => c48 (G := G) (h := h') w'
 rw [cau_ws] at q48
 have hl6 : cauW.length = 6 := by unfold cauW; rfl
 refine ak_ 19 [.tmp 2] Tryz.func112 rfl rfl rfl rfl ?_
 repeat' (first | with_reducible refine ad_ ?_ | ((with_reducible refine ac_ ?_); first | ((with_reducible refine at_ ?_); (refine as_ rfl rfl rfl rfl (q48 _ aA_) rfl rfl ?_; rintro _ _ ⟨⟨a, c, rfl, s3⟩, hq⟩; all_goals (try (have hqn := hq.nx); try simp only [aU_] at hqn))) | refine ao_ ?_) | refine ap_ ?_)
 refine wc_cut (ι := Unit) (fun _ => [(0, .string s), (3, .slice a 6 c), (4, .int .i64 0)]) (fun _ h' => (Wf h' ∧ Grow h h') ∧ Sl G h' 1 (.slice a 6 c) 6 (cauW.map Value.string)) () (af_ ⟨rfl, rfl, rfl, trivial⟩) ⟨⟨aA_, au_⟩, s3.grow au_⟩ ?_
 clear s3 q48
 rintro _ h0 ⟨⟨w1, g0⟩, s3⟩
 refine bo_ (fun i => 6 - i) (fun i : Nat => [(0, .string s), (3, .slice a 6 c), (4, .int .i64 (i : Nat))]) (fun i h' => (Wf h' ∧ Grow h0 h') ∧ i ≤ 6 ∧ cnum s (cauW.drop i) (i : Nat) = cauN s) 0 (af_ ⟨rfl, rfl, rfl, trivial⟩) ⟨⟨w1, Grow.refl _⟩, by omega, rfl⟩ ?_
 clear w1
 rintro i h1 ⟨⟨w1, g1⟩, hi, hc⟩
 have n1 := g1.nx
 have gg := g0.trans g1
 by_cases hlt : i < 6
 · obtain ⟨id, i1, i3⟩ := in_atV Value.string .empty (s3.grow g1) Tryz.underlying25 zs9 (i := (i : Int)) hlt rfl
   rw [cnum_next (by omega)] at hc
   generalize cauW.getD i .empty = w0 at i3 hc
   by_cases hs : s = w0
   · rw [if_pos hs] at hc
     rw [← hc]
     clear hc
     repeat' (first | with_reducible refine ad_ ?_ | ((with_reducible refine ac_ ?_); first | ((with_reducible refine an_ ?_); refine aq_ (ag_ rfl rfl i1) ?_) | ((with_reducible refine al_ ?_); refine aq_ (az_ rfl Tryz.underlying9 rfl (i3 _ au_)) ?_) | ((with_reducible refine bG_ ?_); refine aq_ (op_seqE rfl rfl hs.symm) ?_) | ((with_reducible refine av_ ?_); refine aq_ (ax_ rfl Tryz.underlying25) ?_) | refine ao_ ?_) | refine ap_ ?_ | (refine aG_ rfl (fun hb => ?_) (fun hb => aw_ hb); (try simp only [aX_, reduceCtorEq] at hb)))
     exact rq1 rfl ⟨rfl, au_⟩
   · rw [if_neg hs] at hc
     repeat' (first | with_reducible refine ad_ ?_ | ((with_reducible refine ac_ ?_); first | ((with_reducible refine an_ ?_); refine aq_ (ag_ rfl rfl i1) ?_) | ((with_reducible refine al_ ?_); refine aq_ (az_ rfl Tryz.underlying9 rfl (i3 _ au_)) ?_) | ((with_reducible refine bG_ ?_); refine aq_ (op_seqN rfl rfl (fun q => hs q.symm)) ?_) | ((with_reducible refine av_ ?_); refine aq_ (ax_ rfl Tryz.underlying25) ?_) | refine ao_ ?_) | refine ap_ ?_ | (refine aG_ rfl (fun hb => ?_) (fun hb => aw_ hb); (try simp only [aX_, reduceCtorEq] at hb)))
     exact aI_ (i + 1) (by omega) (af_ ⟨rfl, rfl, rfl, trivial⟩) ⟨⟨aA_, au_⟩, by omega, hc⟩
 · rw [List.drop_eq_nil_of_le (by omega), cauN_nil] at hc
   rw [← hc]
   repeat' (first | with_reducible refine ad_ ?_ | ((with_reducible refine ac_ ?_); first | ((with_reducible refine av_ ?_); refine aq_ (ax_ rfl Tryz.underlying25) ?_) | refine ao_ ?_) | refine ap_ ?_ | (refine aG_ rfl (fun hb => aw_ hb) (fun hb => ?_); (try simp only [aX_, reduceCtorEq] at hb)))
   exact rq1 rfl ⟨rfl, au_⟩
theorem enE_def (e : En) : enE e = if spE ⟨e.f, e.t⟩ ≠ 0 then spE ⟨e.f, e.t⟩ else if 0 ≤ cauN e.c then 0 else 13 := rfl
attribute [local irreducible] cauN enE
set_option maxHeartbeats 8000000 in
theorem c43 {v : Value} {n : Nat} {l : List En} (s : Sl G h 3 v n (l.flatMap En.cells)) (hl : l.length = n) (hn : n < 1000000) (hw : Wf h) : Cf (mz G) (.func (.func 43) #[] #[]) [v] h fun r h' => r = .int .i64 (ensE l) ∧ Grow h h' := by
 obtain ⟨a, c, rfl⟩ := s.form
 have hE : ensE l = if 64 < n then 5 else errN (sucA ⟨0, 0, .empty⟩ enE enO l) n := by unfold ensE; rw [hl]
 rw [hE]
 by_cases h64 : 64 < n
 · rw [if_pos h64]
   refine ak_ 44 [.tmp 2] Tryz.func43 rfl rfl rfl rfl ?_
   repeat' (first | with_reducible refine ad_ ?_ | ((with_reducible refine ac_ ?_); first | ((with_reducible refine av_ ?_); refine aq_ (ax_ rfl Tryz.underlying83) ?_) | refine ao_ ?_) | refine ap_ ?_ | (refine aG_ rfl (fun hb => ?_) (fun hb => aw_ hb); (try simp only [aX_, reduceCtorEq] at hb)))
   exact rq1 rfl ⟨rfl, au_⟩
 · rw [if_neg h64]
   refine ak_ 44 [.tmp 2] Tryz.func43 rfl rfl rfl rfl ?_
   repeat' (first | with_reducible refine ad_ ?_ | ((with_reducible refine ac_ ?_); first | ((with_reducible refine av_ ?_); refine aq_ (ax_ rfl Tryz.underlying83) ?_) | refine ao_ ?_) | refine ap_ ?_ | (refine aG_ rfl (fun hb => aw_ hb) (fun hb => ?_); (try simp only [aX_, reduceCtorEq] at hb)))
   refine bo_ (fun k => n - k) (fun k : Nat => [(0, .slice a n c), (3, .int .i64 k)]) (fun k h' => (Wf h' ∧ Grow h h') ∧ k ≤ n ∧ errN (sucA ⟨0, 0, .empty⟩ enE enO l) k = 0) 0 (af_ ⟨rfl, rfl, trivial⟩) ⟨⟨aA_, au_⟩, Nat.zero_le _, cM_ _⟩ ?_
   rintro k h1 ⟨⟨w1, g1⟩, hk, hz⟩
   have n1 := g1.nx
   by_cases hlt : k < n
   · obtain ⟨id, i1, i3⟩ := cw_ En.len ⟨0, 0, .empty⟩ (s.grow g1) hl Tryz.underlying83 zs184 (i := (k : Int)) hlt rfl
     have nxt := cB_ hz
     have hit := fun (q : (sucA ⟨0, 0, .empty⟩ enE enO l) k ≠ 0) => (errN_hit (f := (sucA ⟨0, 0, .empty⟩ enE enO l)) (k := k + 1) (n := n) (by omega) (by rw [nxt]; exact q)).trans nxt
     obtain ⟨x0, hx⟩ : ∃ x, l.getD k ⟨0, 0, .empty⟩ = x := ⟨_, rfl⟩
     have hF : (sucA ⟨0, 0, .empty⟩ enE enO l) k = if enE x0 ≠ 0 then enE x0 else if 0 < k ∧ enO x0 (l.getD (k - 1) ⟨0, 0, .empty⟩) = false then 11 else 0 := by unfold sucA; rw [hx]
     rw [hx] at i3
     clear hx
     have hd := enE_def x0
     have qf := fun (h' : H) (w' : Wf h') => c111 (G := G) (h := h') (s := ⟨x0.f, x0.t⟩) w'
     have qn := fun (h' : H) (w' : Wf h') => c112 (G := G) (h := h') (s := x0.c) w'
     have two := spE_two ⟨x0.f, x0.t⟩
     generalize enE x0 = E at hF hd
     obtain ⟨f, t, cz⟩ := x0
     have hO : ∀ y, enO ⟨f, t, cz⟩ y = decide (y.t ≤ f) := fun y => rfl
     have if_ := fun (h' : H) (g' : Grow h1 h') => (show acell G h' (aadd (aadd id 0) 0) = some (.int .i64 f) from (i3 h' g').get 0 _ rfl)
     have isp := fun (h' : H) (g' : Grow h1 h') => (show Cells G h' (aadd id 0) [.int .i64 f, .int .i64 t] from ((i3 h' g').drop 0).take 2)
     have ic := fun (h' : H) (g' : Grow h1 h') => (show acell G h' (aadd id 2) = some (.string cz) from (i3 h' g').get 2 _ rfl)
     dsimp only at hd qf qn two
     generalize spE ⟨f, t⟩ = P at qf hd two
     generalize cauN cz = C at qn hd
     dsimp only [Spn.cells] at qf
     rw [hO] at hF
     clear hO i3
     by_cases hp : P = 0
     · subst hp
       rw [if_neg (by decide)] at hd
       rw [decide_eq_false (by decide)] at qf
       by_cases hc : 0 ≤ C
       · rw [if_pos hc] at hd
         subst hd
         rw [if_neg (by decide)] at hF
         by_cases hk0 : 0 < k
         · obtain ⟨jd, j1, j3⟩ := cw_ En.len ⟨0, 0, .empty⟩ (s.grow g1) hl Tryz.underlying83 zs184 (i := (k : Int) - 1) (q := k - 1) (by omega) (by omega)
           obtain ⟨y0, hy⟩ : ∃ y, l.getD (k - 1) ⟨0, 0, .empty⟩ = y := ⟨_, rfl⟩
           rw [hy] at j3 hF
           clear hy
           obtain ⟨g, u, dz⟩ := y0
           have ju := fun (h' : H) (g' : Grow h1 h') => (show acell G h' (aadd (aadd jd 0) 1) = some (.int .i64 u) from (j3 h' g').get 1 _ rfl)
           clear j3
           dsimp only at hF
           by_cases hut : u ≤ f
           · rw [decide_eq_true hut, if_neg (by simp)] at hF
             rw [hF] at nxt
             clear hF hit
             repeat' (first | with_reducible refine ad_ ?_ | ((with_reducible refine ac_ ?_); first | ((with_reducible refine an_ ?_); refine aq_ (ag_ rfl rfl i1) ?_) | ((with_reducible refine al_ ?_); first | refine aq_ (aN_ rfl Tryz.underlying79 rfl zs79 (isp _ au_).all) ?_ | refine aq_ (az_ rfl Tryz.underlying9 rfl (ic _ au_)) ?_) | ((with_reducible refine av_ ?_); refine aq_ (ax_ rfl Tryz.underlying83) ?_) | ((with_reducible refine at_ ?_); first | (refine as_ rfl rfl rfl rfl (qf _ aA_) rfl rfl ?_; rintro _ _ ⟨rfl, hq⟩; all_goals (try (have hqn := hq.nx); try simp only [aU_] at hqn)) | (refine as_ rfl rfl rfl rfl (qn _ aA_) rfl rfl ?_; rintro _ _ ⟨rfl, hq⟩; all_goals (try (have hqn := hq.nx); try simp only [aU_] at hqn))) | refine ao_ ?_) | ((with_reducible refine bb_ ?_); ((with_reducible refine bd_ ?_); first | ((with_reducible refine ba_ ?_); refine aH_ (aa_ rfl) rfl rfl (ar_ rfl (aD_ rfl)) rfl rfl rfl ?_) | ((with_reducible refine bD_ ?_); refine aH_ (aa_ rfl) rfl rfl (ar_ rfl (bM_ rfl rfl)) rfl rfl rfl ?_) | ((with_reducible refine cj_ ?_); refine aH_ (aa_ rfl) rfl rfl (ar_ rfl (cb_ rfl rfl)) rfl rfl rfl ?_) | ((with_reducible refine xk_g ?_); first | ((with_reducible refine cJ_ ?_); refine aH_ (aL_ rfl rfl rfl) rfl rfl (ar_ rfl (aD_ rfl)) rfl rfl rfl ?_) | ((with_reducible refine bJ_ ?_); first | refine aH_ (aL_ rfl rfl rfl) rfl rfl (ar_ rfl (ag_ rfl rfl i1)) rfl rfl rfl ?_ | refine aH_ (aL_ rfl rfl rfl) rfl rfl (ar_ rfl (ag_ rfl rfl j1)) rfl rfl rfl ?_) | ((with_reducible refine cK_ ?_); first | refine aO_ (aL_ rfl rfl rfl) rfl (ar_ rfl (az_ rfl Tryz.underlying3 rfl (if_ _ au_))) rfl rfl rfl ?_ | refine aO_ (aL_ rfl rfl rfl) rfl (ar_ rfl (az_ rfl Tryz.underlying3 rfl (ju _ au_))) rfl rfl rfl ?_) | ((with_reducible refine xg_bin ?_); first | refine aH_ (aL_ rfl rfl rfl) rfl rfl (ar_ rfl (cI_ rfl rfl)) rfl rfl rfl ?_ | refine aH_ (aL_ rfl rfl rfl) rfl rfl (ar_ rfl (bY_ rfl rfl (w64 (by omega) (by omega)))) rfl rfl rfl ?_) | ((with_reducible refine cl_ ?_); first | refine aH_ (aL_ rfl rfl rfl) rfl rfl (ar_ rfl (ab_ (o := 0) rfl Tryz.underlying184 rfl zs79 rfl)) rfl rfl rfl ?_ | refine aH_ (aL_ rfl rfl rfl) rfl rfl (ar_ rfl (ab_ (o := 0) rfl Tryz.underlying79 rfl zs3 rfl)) rfl rfl rfl ?_ | refine aH_ (aL_ rfl rfl rfl) rfl rfl (ar_ rfl (ab_ (o := 1) rfl Tryz.underlying79 rfl zs3 rfl)) rfl rfl rfl ?_) | (refine bO_ rfl rfl rfl (fun hb => ?_) (fun hb => aw_ hb); (try simp only [aX_, reduceCtorEq] at hb))) | with_reducible refine bj_ ?_ ?_)) | with_reducible exact aP_ | with_reducible refine aJ_ ?_ ?_ | ((with_reducible refine bi_ ?_); first | exact aS_ | refine am_ rfl rfl (ar_ rfl (az_ rfl Tryz.underlying3 rfl (if_ _ au_))) ?_ | refine am_ rfl rfl (ar_ rfl (az_ rfl Tryz.underlying3 rfl (ju _ au_))) ?_) | refine ap_ ?_ | (refine aG_ rfl (fun hb => aw_ hb) (fun hb => ?_); (try simp only [aX_, reduceCtorEq] at hb)) | (refine aG_ rfl (fun hb => ?_) (fun hb => aw_ hb); (try simp only [aX_, reduceCtorEq] at hb)) | refine aF_ (id := 10) 18 [0, 1, 3, 7, 7, 31, 63, 127, 255, 7, 7, 1031, 3591, 7687, 15879, 32263, 65535, 131071] [0, 1, 2, 3, 4, 5, 6, 7, 8, 9, 10, 11, 12, 13, 14, 15, 16, 17] (by kernel_rfl) (by kernel_rfl) rfl rfl ?_)
             all_goals exact aI_ (k + 1) (by omega) (af_ ⟨rfl, rfl, trivial⟩) ⟨⟨aA_, au_⟩, by omega, nxt⟩
           · rw [decide_eq_false hut, if_pos ⟨hk0, rfl⟩] at hF
             rw [hit (by rw [hF]; decide), hF]
             clear hF hit nxt
             repeat' (first | with_reducible refine ad_ ?_ | ((with_reducible refine ac_ ?_); first | ((with_reducible refine an_ ?_); refine aq_ (ag_ rfl rfl i1) ?_) | ((with_reducible refine al_ ?_); first | refine aq_ (aN_ rfl Tryz.underlying79 rfl zs79 (isp _ au_).all) ?_ | refine aq_ (az_ rfl Tryz.underlying9 rfl (ic _ au_)) ?_) | ((with_reducible refine av_ ?_); refine aq_ (ax_ rfl Tryz.underlying83) ?_) | ((with_reducible refine at_ ?_); first | (refine as_ rfl rfl rfl rfl (qf _ aA_) rfl rfl ?_; rintro _ _ ⟨rfl, hq⟩; all_goals (try (have hqn := hq.nx); try simp only [aU_] at hqn)) | (refine as_ rfl rfl rfl rfl (qn _ aA_) rfl rfl ?_; rintro _ _ ⟨rfl, hq⟩; all_goals (try (have hqn := hq.nx); try simp only [aU_] at hqn))) | refine ao_ ?_) | ((with_reducible refine bb_ ?_); ((with_reducible refine bd_ ?_); first | ((with_reducible refine ba_ ?_); refine aH_ (aa_ rfl) rfl rfl (ar_ rfl (aD_ rfl)) rfl rfl rfl ?_) | ((with_reducible refine bD_ ?_); refine aH_ (aa_ rfl) rfl rfl (ar_ rfl (bM_ rfl rfl)) rfl rfl rfl ?_) | ((with_reducible refine cj_ ?_); refine aH_ (aa_ rfl) rfl rfl (ar_ rfl (cb_ rfl rfl)) rfl rfl rfl ?_) | ((with_reducible refine xk_g ?_); first | ((with_reducible refine cJ_ ?_); refine aH_ (aL_ rfl rfl rfl) rfl rfl (ar_ rfl (aD_ rfl)) rfl rfl rfl ?_) | ((with_reducible refine bJ_ ?_); first | refine aH_ (aL_ rfl rfl rfl) rfl rfl (ar_ rfl (ag_ rfl rfl i1)) rfl rfl rfl ?_ | refine aH_ (aL_ rfl rfl rfl) rfl rfl (ar_ rfl (ag_ rfl rfl j1)) rfl rfl rfl ?_) | ((with_reducible refine cK_ ?_); first | refine aO_ (aL_ rfl rfl rfl) rfl (ar_ rfl (az_ rfl Tryz.underlying3 rfl (if_ _ au_))) rfl rfl rfl ?_ | refine aO_ (aL_ rfl rfl rfl) rfl (ar_ rfl (az_ rfl Tryz.underlying3 rfl (ju _ au_))) rfl rfl rfl ?_) | ((with_reducible refine xg_bin ?_); first | refine aH_ (aL_ rfl rfl rfl) rfl rfl (ar_ rfl (cI_ rfl rfl)) rfl rfl rfl ?_ | refine aH_ (aL_ rfl rfl rfl) rfl rfl (ar_ rfl (bY_ rfl rfl (w64 (by omega) (by omega)))) rfl rfl rfl ?_) | ((with_reducible refine cl_ ?_); first | refine aH_ (aL_ rfl rfl rfl) rfl rfl (ar_ rfl (ab_ (o := 0) rfl Tryz.underlying184 rfl zs79 rfl)) rfl rfl rfl ?_ | refine aH_ (aL_ rfl rfl rfl) rfl rfl (ar_ rfl (ab_ (o := 0) rfl Tryz.underlying79 rfl zs3 rfl)) rfl rfl rfl ?_ | refine aH_ (aL_ rfl rfl rfl) rfl rfl (ar_ rfl (ab_ (o := 1) rfl Tryz.underlying79 rfl zs3 rfl)) rfl rfl rfl ?_) | (refine bO_ rfl rfl rfl (fun hb => ?_) (fun hb => aw_ hb); (try simp only [aX_, reduceCtorEq] at hb))) | with_reducible refine bj_ ?_ ?_)) | with_reducible exact aP_ | with_reducible refine aJ_ ?_ ?_ | ((with_reducible refine bi_ ?_); first | exact aS_ | refine am_ rfl rfl (ar_ rfl (az_ rfl Tryz.underlying3 rfl (if_ _ au_))) ?_ | refine am_ rfl rfl (ar_ rfl (az_ rfl Tryz.underlying3 rfl (ju _ au_))) ?_) | refine ap_ ?_ | (refine aG_ rfl (fun hb => aw_ hb) (fun hb => ?_); (try simp only [aX_, reduceCtorEq] at hb)) | (refine aG_ rfl (fun hb => ?_) (fun hb => aw_ hb); (try simp only [aX_, reduceCtorEq] at hb)) | refine aF_ (id := 10) 18 [0, 1, 3, 7, 7, 31, 63, 127, 255, 7, 7, 1031, 3591, 7687, 15879, 32263, 65535, 131071] [0, 1, 2, 3, 4, 5, 6, 7, 8, 9, 10, 11, 12, 13, 14, 15, 16, 17] (by kernel_rfl) (by kernel_rfl) rfl rfl ?_)
             all_goals exact rq1 rfl ⟨rfl, au_⟩
         · rw [if_neg (by omega)] at hF
           rw [hF] at nxt
           clear hF hit
           repeat' (first | with_reducible refine ad_ ?_ | ((with_reducible refine ac_ ?_); first | ((with_reducible refine an_ ?_); refine aq_ (ag_ rfl rfl i1) ?_) | ((with_reducible refine al_ ?_); first | refine aq_ (aN_ rfl Tryz.underlying79 rfl zs79 (isp _ au_).all) ?_ | refine aq_ (az_ rfl Tryz.underlying9 rfl (ic _ au_)) ?_) | ((with_reducible refine av_ ?_); refine aq_ (ax_ rfl Tryz.underlying83) ?_) | ((with_reducible refine at_ ?_); first | (refine as_ rfl rfl rfl rfl (qf _ aA_) rfl rfl ?_; rintro _ _ ⟨rfl, hq⟩; all_goals (try (have hqn := hq.nx); try simp only [aU_] at hqn)) | (refine as_ rfl rfl rfl rfl (qn _ aA_) rfl rfl ?_; rintro _ _ ⟨rfl, hq⟩; all_goals (try (have hqn := hq.nx); try simp only [aU_] at hqn))) | refine ao_ ?_) | ((with_reducible refine bb_ ?_); ((with_reducible refine bd_ ?_); first | ((with_reducible refine ba_ ?_); refine aH_ (aa_ rfl) rfl rfl (ar_ rfl (aD_ rfl)) rfl rfl rfl ?_) | ((with_reducible refine bD_ ?_); refine aH_ (aa_ rfl) rfl rfl (ar_ rfl (bM_ rfl rfl)) rfl rfl rfl ?_) | ((with_reducible refine cj_ ?_); refine aH_ (aa_ rfl) rfl rfl (ar_ rfl (ct_ rfl rfl)) rfl rfl rfl ?_) | ((with_reducible refine xk_g ?_); first | refine wx_s (wt_skip rfl rfl rfl rfl) rfl rfl ?_ | (refine bO_ rfl rfl rfl (fun hb => aw_ hb) (fun hb => ?_); (try simp only [aX_, reduceCtorEq] at hb))) | with_reducible refine bj_ ?_ ?_)) | with_reducible exact aP_ | refine ap_ ?_ | (refine aG_ rfl (fun hb => aw_ hb) (fun hb => ?_); (try simp only [aX_, reduceCtorEq] at hb)) | (refine aG_ rfl (fun hb => ?_) (fun hb => aw_ hb); (try simp only [aX_, reduceCtorEq] at hb)) | refine aF_ (id := 10) 18 [0, 1, 3, 7, 7, 31, 63, 127, 255, 7, 7, 1031, 3591, 7687, 15879, 32263, 65535, 131071] [0, 1, 2, 3, 4, 5, 6, 7, 8, 9, 10, 11, 12, 13, 14, 15, 16, 17] (by kernel_rfl) (by kernel_rfl) rfl rfl ?_)
           all_goals exact aI_ (k + 1) (by omega) (af_ ⟨rfl, rfl, trivial⟩) ⟨⟨aA_, au_⟩, by omega, nxt⟩
       · rw [if_neg hc] at hd
         subst hd
         rw [if_pos (by decide)] at hF
         rw [hit (by rw [hF]; decide), hF]
         clear hF hit nxt
         repeat' (first | with_reducible refine ad_ ?_ | ((with_reducible refine ac_ ?_); first | ((with_reducible refine an_ ?_); refine aq_ (ag_ rfl rfl i1) ?_) | ((with_reducible refine al_ ?_); first | refine aq_ (aN_ rfl Tryz.underlying79 rfl zs79 (isp _ au_).all) ?_ | refine aq_ (az_ rfl Tryz.underlying9 rfl (ic _ au_)) ?_) | ((with_reducible refine av_ ?_); refine aq_ (ax_ rfl Tryz.underlying83) ?_) | ((with_reducible refine at_ ?_); first | (refine as_ rfl rfl rfl rfl (qf _ aA_) rfl rfl ?_; rintro _ _ ⟨rfl, hq⟩; all_goals (try (have hqn := hq.nx); try simp only [aU_] at hqn)) | (refine as_ rfl rfl rfl rfl (qn _ aA_) rfl rfl ?_; rintro _ _ ⟨rfl, hq⟩; all_goals (try (have hqn := hq.nx); try simp only [aU_] at hqn))) | refine ao_ ?_) | refine ap_ ?_ | (refine aG_ rfl (fun hb => ?_) (fun hb => aw_ hb); (try simp only [aX_, reduceCtorEq] at hb)))
         all_goals exact rq1 rfl ⟨rfl, au_⟩
     · rw [if_pos hp] at hd
       have h14 : P = 14 := by omega
       subst h14
       subst hd
       rw [if_pos (by decide)] at hF
       rw [hit (by rw [hF]; decide), hF]
       rw [decide_eq_true (by decide)] at qf
       clear hF hit nxt
       repeat' (first | with_reducible refine ad_ ?_ | ((with_reducible refine ac_ ?_); first | ((with_reducible refine an_ ?_); refine aq_ (ag_ rfl rfl i1) ?_) | ((with_reducible refine al_ ?_); refine aq_ (aN_ rfl Tryz.underlying79 rfl zs79 (isp _ au_).all) ?_) | ((with_reducible refine av_ ?_); refine aq_ (ax_ rfl Tryz.underlying83) ?_) | ((with_reducible refine at_ ?_); (refine as_ rfl rfl rfl rfl (qf _ aA_) rfl rfl ?_; rintro _ _ ⟨rfl, hq⟩; all_goals (try (have hqn := hq.nx); try simp only [aU_] at hqn))) | refine ao_ ?_) | refine ap_ ?_ | (refine aG_ rfl (fun hb => ?_) (fun hb => aw_ hb); (try simp only [aX_, reduceCtorEq] at hb)))
       all_goals exact rq1 rfl ⟨rfl, au_⟩
   · have hkn : k = n := by omega
     subst hkn
     rw [hz]
     repeat' (first | with_reducible refine ad_ ?_ | ((with_reducible refine ac_ ?_); first | ((with_reducible refine av_ ?_); refine aq_ (ax_ rfl Tryz.underlying83) ?_) | refine ao_ ?_) | refine ap_ ?_ | (refine aG_ rfl (fun hb => aw_ hb) (fun hb => ?_); (try simp only [aX_, reduceCtorEq] at hb)))
     exact rq1 rfl ⟨rfl, au_⟩
end Go.Proofs.YtlioomhcdlicmaaGreatDoor
