/- Survey: the causes; what differs between two invoices. -/
import Derived.Test.YtlioomhcdlicmaaGreatDoorC4
import Derived.Test.YtlioomhcdlicmaaGreatDoorK4
set_option linter.all false
/- Survey: what differs between two invoices. -/
namespace Go.Proofs.YtlioomhcdlicmaaGreatDoor
open Go Go.Ab Go.Fl
attribute [local irreducible] SeqQ BlkQ LpQ RetQ Wc Wo WD WX Op1 Op1q Op1a Cf Cl From
attribute [local irreducible] Ieee.Format.order Ieee.Format.read Ieee.Format.nearest Ieee.Format.write Ieee.Format.mul Ieee.Format.div Ieee.Format.sqrt Ieee.Datum.order Ieee.Datum.integral K U rngE errN ptE firstNZ vesE watE sgE sgsE allE hitB sqD insB qsL lvl
set_option maxRecDepth 10000
variable {G : Base} {h : H}
theorem op_snes {M : Mc} {l : KL} {h : H} {t ty : TypeId} {x y : Operand} {a : ByteArray} (hx : val l x = some (.string a)) (hy : val l y = some (.string a)) : Op1 M (.binOp .neq t x y ty) l h (.bool false) h := by
 have := op_sne (M := M) (h := h) (t := t) (ty := ty) hx hy
 rwa [show decide (¬a = a) = false by simp] at this
theorem bs_ {M : Mc} {l : KL} {h : H} {t et : TypeId} {x y : Operand} {b k len : Nat} {i : Int} (hx : val l x = some (.pointer (some ⟨b, 0, some 0⟩))) (hy : val l y = some (.int .i64 i)) (hi : i = (k : Int)) (hu : M.P.underlying t = some (.array len et)) (hn : tsz M.P et = some 1) (hk : k < len) : Op1 M (.indexAddr t x y) l h (.pointer (some ⟨b, k, some 0⟩)) h := by
 subst hi
 have := op_idxArr' (M := M) (h := h) hx hy hu hn (by omega) (by omega)
 rwa [show aadd ⟨b, 0, some 0⟩ ((k : Int).toNat * 1) = ⟨b, k, some 0⟩ by simp [aadd]] at this
structure CsR where
 w : ByteArray
 d : Bool
 f : Nat
@[reducible] def CsR.cells (p : CsR) : List Value := [.string p.w, .bool p.d, .func (.func p.f) #[] #[]]
theorem CsR.len (p : CsR) : p.cells.length = 3 := rfl
def CSL : List CsR := [⟨⟨⟨[115, 104, 111, 111, 116]⟩⟩, false, 156⟩, ⟨⟨⟨[116, 117, 114, 110]⟩⟩, false, 157⟩, ⟨⟨⟨[119, 101, 97, 116, 104, 101, 114]⟩⟩, true, 158⟩, ⟨⟨⟨[97, 110, 105, 109, 97, 108]⟩⟩, true, 159⟩, ⟨⟨⟨[103, 101, 97, 114]⟩⟩, true, 160⟩, ⟨⟨⟨[115, 104, 97, 114, 101]⟩⟩, true, 161⟩]
def WS : List ByteArray := CSL.map (·.w)
def difK (A B : List Int) (i : Nat) : List ByteArray := ((List.range i).filter fun j => decide (A.getD j 0 ≠ B.getD j 0)).map fun j => WS.getD j .empty
def difL (A B : List Int) (p q r s : Int) : List ByteArray := difK A B 6 ++ (if p ≠ q then [⟨⟨[108, 105, 110, 101, 115]⟩⟩] else []) ++ (if r ≠ s then [⟨⟨[116, 111, 116, 97, 108]⟩⟩] else [])
theorem difK_zero {A B : List Int} : difK A B 0 = [] := rfl
theorem difK_next (A B : List Int) (k : Nat) : difK A B (k + 1) = difK A B k ++ (if A.getD k 0 ≠ B.getD k 0 then [WS.getD k .empty] else []) := by
 unfold difK
 rw [List.range_succ, List.filter_append, List.map_append]
 by_cases h : A.getD k 0 ≠ B.getD k 0
 · rw [if_pos h]; simp only [List.filter_cons, decide_eq_true h]; rfl
 · rw [if_neg h]; simp only [List.filter_cons, decide_eq_false h]; rfl
theorem difK_len {A B : List Int} (k : Nat) : (difK A B k).length ≤ k := by
 unfold difK
 rw [List.length_map]
 exact Nat.le_trans (List.length_filter_le _ _) (by simp)
theorem c109 (hw : Wf h) : Cf (mz G) (.func (.func 109) #[] #[]) [] h fun r h' => r = .agg ⟨[.string ⟨⟨[115, 104, 111, 111, 116]⟩⟩, .bool false, .func (.func 156) #[] #[], .string ⟨⟨[116, 117, 114, 110]⟩⟩, .bool false, .func (.func 157) #[] #[], .string ⟨⟨[119, 101, 97, 116, 104, 101, 114]⟩⟩, .bool true, .func (.func 158) #[] #[], .string ⟨⟨[97, 110, 105, 109, 97, 108]⟩⟩, .bool true, .func (.func 159) #[] #[], .string ⟨⟨[103, 101, 97, 114]⟩⟩, .bool true, .func (.func 160) #[] #[], .string ⟨⟨[115, 104, 97, 114, 101]⟩⟩, .bool true, .func (.func 161) #[] #[]]⟩ ∧ Grow h h' := by
 refine ak_ 8 [.cell 0 192] Tryz.func109 rfl rfl rfl rfl ?_
 repeat' (first | with_reducible refine ad_ ?_ | ((with_reducible refine ac_ ?_); first | ((with_reducible refine ay_ ?_); refine bQ_ (aB_ rfl rfl ah_ zs192 rfl rfl rfl rfl) ?_) | refine ao_ ?_) | refine ap_ ?_)
 exact rqc1 rfl (ldAgg ah_ Tryz.underlying192 rfl zs192 rfl rfl) ⟨rfl, au_⟩
theorem c115 {x : CsR} (hw : Wf h) : Cf (mz G) (.func (.func 115) #[] #[]) [.agg ⟨x.cells⟩] h fun r h' => r = .string x.w ∧ Grow h h' := by
 obtain ⟨w, d, f⟩ := x
 dsimp only [CsR.cells]
 refine ak_ 5 [.tmp 2] Tryz.func115 rfl rfl rfl rfl ?_
 repeat' (first | with_reducible refine ad_ ?_ | ((with_reducible refine ac_ ?_); first | ((with_reducible refine al_ ?_); refine aq_ (ae_ rfl ah_ Tryz.underlying9 rfl rfl) ?_) | refine ao_ ?_) | refine ap_ ?_)
 exact rq1 rfl ⟨rfl, au_⟩
theorem fill_stepW {l : List CsR} {k n : Nat} (hn : l.length = n) (hk : k < n) : ((l.take k).map (fun x : CsR => Value.string x.w) ++ List.replicate (n - k) (Value.string .empty)).set k (.string (l.getD k ⟨.empty, false, 0⟩).w) = (l.take (k + 1)).map (fun x : CsR => Value.string x.w) ++ List.replicate (n - (k + 1)) (Value.string .empty) :=
 fill_step (f := fun x : CsR => Value.string x.w) hn hk (by simp [List.getD, List.getElem?_eq_getElem (show k < l.length by omega)])
set_option maxHeartbeats 4000000 in
theorem c114 {a : Option Addr} {n c : Nat} {l : List CsR} (hidx : ∀ k, k < n → ∃ ad, aindexAddr Tryz.prog 198 (.slice a n c) (.int .i64 (k : Int)) = some (.pointer (some ad)) ∧ ∀ h', Grow h h' → Cells G h' ad (CsR.cells (l.getD k ⟨.empty, false, 0⟩))) (hl : l.length = n) (hn : n < 1000000) (hw : Wf h) :
   Cf (mz G) (.func (.func 114) #[] #[]) [.slice a n c, .func (.func 115) #[] #[]] h fun r h' => r = .slice (some ⟨h.nx, 0, some 0⟩) n n ∧ At h' h.nx (.cells ((l.map (·.w)).map Value.string) 9 1 false) ∧ Grow h h' := by
 refine ak_ 26 [.tmp 4] Tryz.func114 rfl rfl rfl rfl ?_
 repeat' (first | with_reducible refine ad_ ?_ | ((with_reducible refine ac_ ?_); first | ((with_reducible refine ik_makeSlice ?_); refine aq_ (op_mkSl rfl rfl Tryz.underlying25 zs9 zb9 zz9 rfl (by omega) (by omega)) ?_) | ((with_reducible refine av_ ?_); refine aq_ (ax_ rfl Tryz.underlying198) ?_) | refine ao_ ?_) | refine ap_ ?_)
 refine bo_ (fun k => n - k) (fun k : Nat => [(1, .func (.func 115) #[] #[]), (5, .slice (some ⟨h.nx, 0, some 0⟩) n n), (11, .slice a n c), (12, .int .i64 n), (13, .int .i64 k)]) (fun k h' => (Wf h' ∧ Grow h h') ∧ At h' h.nx (.cells ((l.take k).map (fun x : CsR => Value.string x.w) ++ List.replicate (n - k) (Value.string .empty)) 9 1 false) ∧ k ≤ n) 0 (af_ ⟨rfl, rfl, rfl, rfl, rfl, trivial⟩) ⟨⟨aA_, au_⟩, by simpa using At.new h _, Nat.zero_le _⟩ ?_
 rintro k h1 ⟨⟨w1, g1⟩, hat, hk⟩
 have n1 := g1.nx
 have l1 := hat.lt
 by_cases hlt : k < n
 · obtain ⟨id, i1, i3'⟩ := hidx k hlt
   have i3 := fun (h' : H) (g : Grow h1 h') => i3' h' (g1.trans g)
   clear i3'
   have fs := fill_stepW hl hlt
   have hlen : ((l.take k).map (fun x : CsR => Value.string x.w) ++ List.replicate (n - k) (Value.string .empty)).length = n := by simp; omega
   obtain ⟨x0, hx⟩ : ∃ x, l.getD k ⟨.empty, false, 0⟩ = x := ⟨_, rfl⟩
   rw [hx] at i3 fs
   have q1 := fun (h' : H) (w' : Wf h') => c115 (G := G) (h := h') (x := x0) w'
   clear hx
   obtain ⟨L, hL⟩ : ∃ L, (l.take k).map (fun x : CsR => Value.string x.w) ++ List.replicate (n - k) (Value.string .empty) = L := ⟨_, rfl⟩
   rw [hL] at hat fs hlen
   obtain ⟨L2, hL2⟩ : ∃ L, (l.take (k + 1)).map (fun x : CsR => Value.string x.w) ++ List.replicate (n - (k + 1)) (Value.string .empty) = L := ⟨_, rfl⟩
   rw [hL2] at fs
   clear hL
   obtain ⟨w0, d0, f0⟩ := x0
   dsimp only [CsR.cells] at i3 q1 fs
   repeat' (first | with_reducible refine ad_ ?_ | ((with_reducible refine ac_ ?_); first | ((with_reducible refine an_ ?_); first | refine aq_ (ag_ rfl rfl i1) ?_ | refine aq_ (op_idxSl (o := k) rfl rfl Tryz.underlying25 zs9 (by omega) (by omega) (by omega)) ?_) | ((with_reducible refine al_ ?_); first | refine aq_ (aN_ rfl Tryz.underlying191 rfl ce_ (i3 _ au_).all) ?_ | refine aq_ (aj_ rfl ah_ Tryz.underlying191 rfl ce_ rfl rfl) ?_) | ((with_reducible refine ay_ ?_); first | refine bQ_ (bA_ rfl rfl ah_ rfl zs9 (by omega) rfl fs) ?_ | refine bQ_ (aB_ rfl rfl ah_ ce_ rfl rfl rfl rfl) ?_) | ((with_reducible refine at_ ?_); (refine as_ rfl rfl rfl rfl (q1 _ aA_) rfl rfl ?_; rintro _ _ ⟨rfl, hq⟩; all_goals (try (have hqn := hq.nx); try simp only [aU_] at hqn))) | refine ao_ ?_) | refine ap_ ?_ | (refine aG_ rfl (fun hb => ?_) (fun hb => aw_ hb); (try simp only [aX_, reduceCtorEq] at hb)))
   exact aI_ (k + 1) (by omega) (af_ ⟨rfl, rfl, rfl, rfl, rfl, trivial⟩) ⟨⟨aA_, au_⟩, by rw [hL2]; exact ah_, by omega⟩
 · have hkn : k = n := by omega
   subst hkn
   repeat' (first | with_reducible refine ad_ ?_ | ((with_reducible refine ac_ ?_); refine ao_ ?_) | refine ap_ ?_ | (refine aG_ rfl (fun hb => ?_) (fun hb => ?_) <;> (try simp only [aX_, reduceCtorEq] at hb) <;> (try (exfalso; omega))))
   rw [fill_end hl] at hat
   exact rq1 rfl ⟨rfl, by rw [List.map_map]; exact hat, au_⟩
theorem arr_at {b k : Nat} (hat : At h b (.cells [.string ⟨⟨[115, 104, 111, 111, 116]⟩⟩, .bool false, .func (.func 156) #[] #[], .string ⟨⟨[116, 117, 114, 110]⟩⟩, .bool false, .func (.func 157) #[] #[], .string ⟨⟨[119, 101, 97, 116, 104, 101, 114]⟩⟩, .bool true, .func (.func 158) #[] #[], .string ⟨⟨[97, 110, 105, 109, 97, 108]⟩⟩, .bool true, .func (.func 159) #[] #[], .string ⟨⟨[103, 101, 97, 114]⟩⟩, .bool true, .func (.func 160) #[] #[], .string ⟨⟨[115, 104, 97, 114, 101]⟩⟩, .bool true, .func (.func 161) #[] #[]] 192 18 false)) (hk : k < 6) : ∃ ad, aindexAddr Tryz.prog 198 (.slice (some ⟨b, 0, some 0⟩) 6 6) (.int .i64 (k : Int)) = some (.pointer (some ad)) ∧ ∀ h', Grow h h' → Cells G h' ad (CsR.cells (CSL.getD k ⟨.empty, false, 0⟩)) := by
 have zz : tsz Tryz.prog 191 = some 3 := ce_
 refine ⟨aadd ⟨b, 0, some 0⟩ (k * 3), ?_, fun h' g => ?_⟩
 · simp only [aindexAddr, asInt?, Tryz.underlying198, zz, decide_eq_true (And.intro (show (0 : Int) ≤ (k : Int) by omega) (show (k : Int) < ((6 : Nat) : Int) by omega)), Int.toNat_natCast]
 · have e := (show At h' b (.cells (CSL.flatMap CsR.cells) 192 18 false) from hat.grow g).cells (G := G) |>.drop (k * 3)
   rw [flat_drop CsR.len ⟨.empty, false, 0⟩ CSL k hk] at e
   exact cells_left e
theorem c47 (hw : Wf h) : Cf (mz G) (.func (.func 47) #[] #[]) [] h fun r h' => (∃ a c, r = .slice a 6 c ∧ Sl G h' 1 (.slice a 6 c) 6 (WS.map Value.string)) ∧ Grow h h' := by
 have q114 := fun (h' : H) (b : Nat) (hat : At h' b (.cells [.string ⟨⟨[115, 104, 111, 111, 116]⟩⟩, .bool false, .func (.func 156) #[] #[], .string ⟨⟨[116, 117, 114, 110]⟩⟩, .bool false, .func (.func 157) #[] #[], .string ⟨⟨[119, 101, 97, 116, 104, 101, 114]⟩⟩, .bool true, .func (.func 158) #[] #[], .string ⟨⟨[97, 110, 105, 109, 97, 108]⟩⟩, .bool true, .func (.func 159) #[] #[], .string ⟨⟨[103, 101, 97, 114]⟩⟩, .bool true, .func (.func 160) #[] #[], .string ⟨⟨[115, 104, 97, 114, 101]⟩⟩, .bool true, .func (.func 161) #[] #[]] 192 18 false)) (w' : Wf h') => c114 (G := G) (h := h') (a := some ⟨b, 0, some 0⟩) (c := 6) (l := CSL) (n := 6) (fun k hk => arr_at hat hk) rfl (by omega) w'
 refine ak_ 5 [.tmp 0] Tryz.func47 rfl rfl rfl rfl ?_
 repeat' (first | with_reducible refine ad_ ?_ | ((with_reducible refine ac_ ?_); first | ((with_reducible refine ay_ ?_); refine bQ_ (aB_ rfl rfl ah_ zs192 rfl rfl rfl rfl) ?_) | ((with_reducible refine bK_ (f := 109) ?_); (refine as_ rfl rfl rfl rfl (c109 aA_) rfl rfl ?_; rintro _ _ ⟨rfl, hq⟩; all_goals (try (have hqn := hq.nx); try simp only [aU_] at hqn))) | ((with_reducible refine at_ ?_); (refine as_ rfl rfl rfl rfl (q114 _ _ ah_ aA_) rfl rfl ?_; rintro _ _ ⟨rfl, ats, hq⟩; all_goals (try (have hqn := hq.nx); try simp only [aU_] at hqn))) | refine ao_ ?_) | refine ap_ ?_)
 exact rq1 rfl ⟨⟨_, _, rfl, Sl.ofAt ats rfl (Nat.le_refl 6)⟩, au_⟩
theorem c48 (hw : Wf h) : Cf (mz G) (.func (.func 48) #[] #[]) [] h fun r h' => (∃ a c, r = .slice a 6 c ∧ Sl G h' 1 (.slice a 6 c) 6 (WS.map Value.string)) ∧ Grow h h' := by
 refine ak_ 2 [.tmp 0] Tryz.func48 rfl rfl rfl rfl ?_
 repeat' (first | with_reducible refine ad_ ?_ | ((with_reducible refine ac_ ?_); first | ((with_reducible refine aE_ ?_); refine aq_ (aR_ rfl Tryz.underlying25 zs9 zz9 rfl rfl) ?_) | refine ao_ ?_) | refine ap_ ?_)
 exact rq1 rfl ⟨⟨_, _, rfl, Sl.ofAt ah_ rfl (Nat.le_refl 6)⟩, au_⟩
end Go.Proofs.YtlioomhcdlicmaaGreatDoor
