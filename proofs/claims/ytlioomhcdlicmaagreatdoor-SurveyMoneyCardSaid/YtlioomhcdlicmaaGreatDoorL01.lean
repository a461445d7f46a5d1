/- What differs between two invoices; the law SurveyBills, whose helpers are used. -/
import Derived.Test.YtlioomhcdlicmaaGreatDoorC11
import Derived.Test.YtlioomhcdlicmaaGreatDoorC20
import Derived.Test.YtlioomhcdlicmaaGreatDoorC19
set_option linter.all false
/- The law SurveyDifferences. -/
namespace Go.Proofs.YtlioomhcdlicmaaGreatDoor
open Go Go.Ab Go.Fl
attribute [local irreducible] SeqQ BlkQ LpQ RetQ Wc Wo WD WX Op1 Op1q Op1a Cf Cl From
attribute [local irreducible] Ieee.Format.order Ieee.Format.read Ieee.Format.nearest Ieee.Format.write Ieee.Format.mul Ieee.Format.div Ieee.Format.sqrt Ieee.Datum.order Ieee.Datum.integral K U rngE errN ptE firstNZ vesE watE sgE sgsE allE hitB sqD insB qsL lvl difK difL WS
set_option maxRecDepth 10000
variable {G : Base} {h : H}
set_option maxHeartbeats 16000000 in
theorem c12 {a0 a1 a2 a3 a4 a5 a6 a7 b0 b1 b2 b3 b4 b5 b6 b7 : Int} (hw : Wf h) : Cf (mz G) (.func (.func 12) #[] #[]) [.agg ⟨[.int .i64 a0, .int .i64 a1, .int .i64 a2, .int .i64 a3, .int .i64 a4, .int .i64 a5, .int .i64 a6, .int .i64 a7]⟩, .agg ⟨[.int .i64 b0, .int .i64 b1, .int .i64 b2, .int .i64 b3, .int .i64 b4, .int .i64 b5, .int .i64 b6, .int .i64 b7]⟩] h fun r h' => (∃ X, r = .tuple #[X, .int .i64 0] ∧ Sl G h' 1 X (difL [a0, a1, a2, a3, a4, a5] [b0, b1, b2, b3, b4, b5] a6 b6 a7 b7).length ((difL [a0, a1, a2, a3, a4, a5] [b0, b1, b2, b3, b4, b5] a6 b6 a7 b7).map Value.string)) ∧ Grow h h' := by
 refine ak_ 47 [.tmp 4, .tmp 5] Tryz.func12 rfl rfl rfl rfl ?_
 repeat' (first | with_reducible refine ad_ ?_ | ((with_reducible refine ac_ ?_); first | ((with_reducible refine av_ ?_); refine aq_ (ax_ rfl Tryz.underlying25) ?_) | ((with_reducible refine bK_ (f := 47) ?_); (refine as_ rfl rfl rfl rfl (c47 aA_) rfl rfl ?_; rintro _ _ ⟨⟨wa, wc, rfl, sw0⟩, hq⟩; all_goals (try (have hqn := hq.nx); try simp only [aU_] at hqn))) | refine ao_ ?_) | refine ap_ ?_)
 rename_i g0
 have n0 := hq.nx
 refine bo_ (fun p : Nat × Value => 6 - p.1) (fun p => [(2, .pointer (some ⟨h.nx, 0, some 0⟩)), (3, .pointer (some ⟨h.nx + 1, 0, some 0⟩)), (6, p.2), (9, .slice wa 6 wc), (10, .int .i64 6), (11, .int .i64 (p.1 : Nat))]) (fun p h' => (Wf h' ∧ Grow g0 h' ∧ Grow h h') ∧ (At h' h.nx (.cells [.int .i64 a0, .int .i64 a1, .int .i64 a2, .int .i64 a3, .int .i64 a4, .int .i64 a5, .int .i64 a6, .int .i64 a7] 29 8 false) ∧ At h' (h.nx + 1) (.cells [.int .i64 b0, .int .i64 b1, .int .i64 b2, .int .i64 b3, .int .i64 b4, .int .i64 b5, .int .i64 b6, .int .i64 b7] 29 8 false)) ∧ p.1 ≤ 6 ∧ OutG g0.nx h' p.2 (difK [a0, a1, a2, a3, a4, a5] [b0, b1, b2, b3, b4, b5] p.1).length ((difK [a0, a1, a2, a3, a4, a5] [b0, b1, b2, b3, b4, b5] p.1).map Value.string) 9 1) (0, .slice none 0 0) (af_ ⟨rfl, rfl, rfl, rfl, rfl, rfl, trivial⟩) ⟨⟨aA_, au_, au_⟩, ⟨ah_, ah_⟩, Nat.zero_le _, .inl ⟨rfl, by show (difK _ _ 0).length = 0; rw [difK_zero]; rfl, by show (difK _ _ 0).map Value.string = []; rw [difK_zero]; rfl⟩⟩ ?_
 rintro ⟨k, v⟩ h1 ⟨⟨w1, gz1, g1⟩, ⟨at1, at2⟩, hk, hv⟩
 simp only at hk hv ⊢
 have n1 := g1.nx
 have nz1 := gz1.nx
 have l2 := at2.lt
 have hlen := difK_len (A := [a0, a1, a2, a3, a4, a5]) (B := [b0, b1, b2, b3, b4, b5]) k
 by_cases hlt : k < 6
 · obtain ⟨id, i1, i3⟩ := in_atV Value.string .empty (sw0.grow gz1) Tryz.underlying25 zs9 (i := (k : Int)) hlt rfl
   have nx := difK_next [a0, a1, a2, a3, a4, a5] [b0, b1, b2, b3, b4, b5] k
   have hA : ([.int .i64 a0, .int .i64 a1, .int .i64 a2, .int .i64 a3, .int .i64 a4, .int .i64 a5, .int .i64 a6, .int .i64 a7] : List Value)[k]? = some (.int .i64 ([a0, a1, a2, a3, a4, a5].getD k 0)) := by
     match k, hlt with
     | 0, _ | 1, _ | 2, _ | 3, _ | 4, _ | 5, _ => rfl
   have hB : ([.int .i64 b0, .int .i64 b1, .int .i64 b2, .int .i64 b3, .int .i64 b4, .int .i64 b5, .int .i64 b6, .int .i64 b7] : List Value)[k]? = some (.int .i64 ([b0, b1, b2, b3, b4, b5].getD k 0)) := by
     match k, hlt with
     | 0, _ | 1, _ | 2, _ | 3, _ | 4, _ | 5, _ => rfl
   generalize ([a0, a1, a2, a3, a4, a5] : List Int).getD k 0 = Ak at nx hA
   generalize ([b0, b1, b2, b3, b4, b5] : List Int).getD k 0 = Bk at nx hB
   generalize WS.getD k .empty = z at nx i3
   obtain ⟨D, hD⟩ : ∃ D, difK [a0, a1, a2, a3, a4, a5] [b0, b1, b2, b3, b4, b5] k = D := ⟨_, rfl⟩
   rw [hD] at nx hv hlen
   clear hD
   by_cases hab : Ak = Bk
   · subst hab
     rw [if_neg (by simp), List.append_nil] at nx
     rcases hv with ⟨rfl, hv1, hv2⟩ | ⟨e, he, rfl, hat⟩
     · repeat' (first | with_reducible refine ad_ ?_ | ((with_reducible refine ac_ ?_); first | ((with_reducible refine an_ ?_); refine aq_ (ag_ rfl rfl i1) ?_) | ((with_reducible refine al_ ?_); refine aq_ (az_ rfl Tryz.underlying9 rfl (i3 _ au_)) ?_) | refine ao_ ?_) | ((with_reducible refine bb_ ?_); ((with_reducible refine bd_ ?_); first | ((with_reducible refine ba_ ?_); refine aH_ (aa_ rfl) rfl rfl (ar_ rfl (aD_ rfl)) rfl rfl rfl ?_) | ((with_reducible refine aT_ ?_); refine aH_ (aa_ rfl) rfl rfl (ar_ rfl (bs_ rfl rfl (k := k) rfl Tryz.underlying22 zs3 (by omega))) rfl rfl rfl ?_) | ((with_reducible refine aZ_ ?_); first | refine aO_ (aa_ rfl) rfl (ar_ rfl (ae_ (b := h.nx) (off := k) rfl ah_ Tryz.underlying3 rfl hA)) rfl rfl rfl ?_ | refine aO_ (aa_ rfl) rfl (ar_ rfl (ae_ (b := h.nx + 1) (off := k) rfl ah_ Tryz.underlying3 rfl hB)) rfl rfl rfl ?_) | ((with_reducible refine bD_ ?_); refine aH_ (aa_ rfl) rfl rfl (ar_ rfl (cH_ rfl rfl)) rfl rfl rfl ?_) | ((with_reducible refine aC_ ?_); refine aH_ (aa_ rfl) rfl rfl (ar_ rfl (ab_ (o := 0) rfl Tryz.underlying29 rfl zs22 rfl)) rfl rfl rfl ?_) | with_reducible refine bj_ ?_ ?_)) | with_reducible exact aP_ | with_reducible refine aJ_ ?_ ?_ | ((with_reducible refine bi_ ?_); first | exact aS_ | refine am_ rfl rfl (ar_ rfl (ae_ (b := h.nx) (off := k) rfl ah_ Tryz.underlying3 rfl hA)) ?_ | refine am_ rfl rfl (ar_ rfl (ae_ (b := h.nx + 1) (off := k) rfl ah_ Tryz.underlying3 rfl hB)) ?_) | refine ap_ ?_ | (refine aG_ rfl (fun hb => ?_) (fun hb => aw_ hb); (try simp only [aX_, reduceCtorEq] at hb)) | (refine aG_ rfl (fun hb => (of_decide_eq_true hb rfl).elim) (fun hb => ?_); (try simp only [aX_, reduceCtorEq] at hb)) | refine aF_ (id := 5) 9 [0, 0, 3, 7, 0, 0, 48, 112, 255] [0, 1, 2, 3, 4, 5, 6, 7, 8] (by kernel_rfl) (by kernel_rfl) rfl rfl ?_)
       exact aI_ (k + 1, .slice none 0 0) (by simp only; omega) (af_ ⟨rfl, rfl, rfl, rfl, rfl, rfl, trivial⟩) ⟨⟨aA_, au_, au_⟩, ⟨ah_, ah_⟩, by simp only; omega, by simp only; rw [nx]; exact .inl ⟨rfl, hv1, hv2⟩⟩
     · have l1 := hat.lt
       repeat' (first | with_reducible refine ad_ ?_ | ((with_reducible refine ac_ ?_); first | ((with_reducible refine an_ ?_); refine aq_ (ag_ rfl rfl i1) ?_) | ((with_reducible refine al_ ?_); refine aq_ (az_ rfl Tryz.underlying9 rfl (i3 _ au_)) ?_) | refine ao_ ?_) | ((with_reducible refine bb_ ?_); ((with_reducible refine bd_ ?_); first | ((with_reducible refine ba_ ?_); refine aH_ (aa_ rfl) rfl rfl (ar_ rfl (aD_ rfl)) rfl rfl rfl ?_) | ((with_reducible refine aT_ ?_); refine aH_ (aa_ rfl) rfl rfl (ar_ rfl (bs_ rfl rfl (k := k) rfl Tryz.underlying22 zs3 (by omega))) rfl rfl rfl ?_) | ((with_reducible refine aZ_ ?_); first | refine aO_ (aa_ rfl) rfl (ar_ rfl (ae_ (b := h.nx) (off := k) rfl ah_ Tryz.underlying3 rfl hA)) rfl rfl rfl ?_ | refine aO_ (aa_ rfl) rfl (ar_ rfl (ae_ (b := h.nx + 1) (off := k) rfl ah_ Tryz.underlying3 rfl hB)) rfl rfl rfl ?_) | ((with_reducible refine bD_ ?_); refine aH_ (aa_ rfl) rfl rfl (ar_ rfl (cH_ rfl rfl)) rfl rfl rfl ?_) | ((with_reducible refine aC_ ?_); refine aH_ (aa_ rfl) rfl rfl (ar_ rfl (ab_ (o := 0) rfl Tryz.underlying29 rfl zs22 rfl)) rfl rfl rfl ?_) | with_reducible refine bj_ ?_ ?_)) | with_reducible exact aP_ | with_reducible refine aJ_ ?_ ?_ | ((with_reducible refine bi_ ?_); first | exact aS_ | refine am_ rfl rfl (ar_ rfl (ae_ (b := h.nx) (off := k) rfl ah_ Tryz.underlying3 rfl hA)) ?_ | refine am_ rfl rfl (ar_ rfl (ae_ (b := h.nx + 1) (off := k) rfl ah_ Tryz.underlying3 rfl hB)) ?_) | refine ap_ ?_ | (refine aG_ rfl (fun hb => ?_) (fun hb => aw_ hb); (try simp only [aX_, reduceCtorEq] at hb)) | (refine aG_ rfl (fun hb => (of_decide_eq_true hb rfl).elim) (fun hb => ?_); (try simp only [aX_, reduceCtorEq] at hb)) | refine aF_ (id := 5) 9 [0, 0, 3, 7, 0, 0, 48, 112, 255] [0, 1, 2, 3, 4, 5, 6, 7, 8] (by kernel_rfl) (by kernel_rfl) rfl rfl ?_)
       exact aI_ (k + 1, .slice (some ⟨e, 0, some 0⟩) D.length D.length) (by simp only; omega) (af_ ⟨rfl, rfl, rfl, rfl, rfl, rfl, trivial⟩) ⟨⟨aA_, au_, au_⟩, ⟨ah_, ah_⟩, by simp only; omega, by simp only; rw [nx]; exact .inr ⟨e, he, rfl, ah_⟩⟩
   · rw [if_pos hab] at nx
     have e7 : (D ++ [z]).length = D.length + 1 := by simp
     have e8 : (D ++ [z]).map Value.string = D.map Value.string ++ [.string z] := by simp
     have hml : (D.map Value.string).length = D.length * 1 := by simp
     rcases hv with ⟨rfl, hv1, hv2⟩ | ⟨e, he, rfl, hat⟩
     · have hDn : D = [] := by simpa using hv1
       subst hDn
       repeat' (first | with_reducible refine ad_ ?_ | ((with_reducible refine ac_ ?_); first | ((with_reducible refine an_ ?_); refine aq_ (ag_ rfl rfl i1) ?_) | ((with_reducible refine al_ ?_); refine aq_ (az_ rfl Tryz.underlying9 rfl (i3 _ au_)) ?_) | ((with_reducible refine av_ ?_); refine aq_ (bl_ rfl rfl (bz_ (M := mz G) (st := 25) (xt := 25) (m := 1) Tryz.underlying25 Tryz.underlying25 rfl zs9 zb9 zz9 rfl (Sl.ofAt ah_ rfl (Nat.le_refl _)) rfl (by omega) (by omega))) ?_) | ((with_reducible refine aE_ ?_); refine aq_ (aR_ rfl Tryz.underlying25 zs9 zz9 rfl rfl) ?_) | refine ao_ ?_) | ((with_reducible refine bb_ ?_); ((with_reducible refine bd_ ?_); first | ((with_reducible refine ba_ ?_); refine aH_ (aa_ rfl) rfl rfl (ar_ rfl (aD_ rfl)) rfl rfl rfl ?_) | ((with_reducible refine aT_ ?_); refine aH_ (aa_ rfl) rfl rfl (ar_ rfl (bs_ rfl rfl (k := k) rfl Tryz.underlying22 zs3 (by omega))) rfl rfl rfl ?_) | ((with_reducible refine aZ_ ?_); first | refine aO_ (aa_ rfl) rfl (ar_ rfl (ae_ (b := h.nx) (off := k) rfl ah_ Tryz.underlying3 rfl hA)) rfl rfl rfl ?_ | refine aO_ (aa_ rfl) rfl (ar_ rfl (ae_ (b := h.nx + 1) (off := k) rfl ah_ Tryz.underlying3 rfl hB)) rfl rfl rfl ?_) | ((with_reducible refine bD_ ?_); refine aH_ (aa_ rfl) rfl rfl (ar_ rfl (cH_ rfl rfl)) rfl rfl rfl ?_) | ((with_reducible refine aC_ ?_); refine aH_ (aa_ rfl) rfl rfl (ar_ rfl (ab_ (o := 0) rfl Tryz.underlying29 rfl zs22 rfl)) rfl rfl rfl ?_) | with_reducible refine bj_ ?_ ?_)) | with_reducible exact aP_ | with_reducible refine aJ_ ?_ ?_ | ((with_reducible refine bi_ ?_); first | exact aS_ | refine am_ rfl rfl (ar_ rfl (ae_ (b := h.nx) (off := k) rfl ah_ Tryz.underlying3 rfl hA)) ?_ | refine am_ rfl rfl (ar_ rfl (ae_ (b := h.nx + 1) (off := k) rfl ah_ Tryz.underlying3 rfl hB)) ?_) | refine ap_ ?_ | (refine aG_ rfl (fun hb => ?_) (fun hb => aw_ hb); (try simp only [aX_, reduceCtorEq] at hb)) | refine aF_ (id := 5) 9 [0, 0, 3, 7, 0, 0, 48, 112, 255] [0, 1, 2, 3, 4, 5, 6, 7, 8] (by kernel_rfl) (by kernel_rfl) rfl rfl ?_)
       exact aI_ (k + 1, .slice (some ⟨_, 0, some 0⟩) (0 + 1) (0 + 1)) (by simp only; omega) (af_ ⟨rfl, rfl, rfl, rfl, rfl, rfl, trivial⟩) ⟨⟨aA_, au_, au_⟩, ⟨ah_, ah_⟩, by simp only; omega, by simp only; rw [nx]; exact .inr ⟨_, by simp only [H.nx_push, H.nx_set, H.nx_bump, H.nx_kill]; omega, rfl, (show At _ _ (.cells [.string z] 9 1 true) from ah_)⟩⟩
     · have l1 := hat.lt
       repeat' (first | with_reducible refine ad_ ?_ | ((with_reducible refine ac_ ?_); first | ((with_reducible refine an_ ?_); refine aq_ (ag_ rfl rfl i1) ?_) | ((with_reducible refine al_ ?_); refine aq_ (az_ rfl Tryz.underlying9 rfl (i3 _ au_)) ?_) | ((with_reducible refine av_ ?_); refine aq_ (bl_ rfl rfl (br_ (M := mz G) (st := 25) (xt := 25) (m := 1) Tryz.underlying25 Tryz.underlying25 rfl zs9 zb9 zz9 rfl (Sl.ofAt ah_ rfl (Nat.le_refl _)) rfl (b := e) (c := D.map Value.string) ah_ hml (by omega) (by omega))) ?_) | ((with_reducible refine aE_ ?_); refine aq_ (aR_ rfl Tryz.underlying25 zs9 zz9 rfl rfl) ?_) | refine ao_ ?_) | ((with_reducible refine bb_ ?_); ((with_reducible refine bd_ ?_); first | ((with_reducible refine ba_ ?_); refine aH_ (aa_ rfl) rfl rfl (ar_ rfl (aD_ rfl)) rfl rfl rfl ?_) | ((with_reducible refine aT_ ?_); refine aH_ (aa_ rfl) rfl rfl (ar_ rfl (bs_ rfl rfl (k := k) rfl Tryz.underlying22 zs3 (by omega))) rfl rfl rfl ?_) | ((with_reducible refine aZ_ ?_); first | refine aO_ (aa_ rfl) rfl (ar_ rfl (ae_ (b := h.nx) (off := k) rfl ah_ Tryz.underlying3 rfl hA)) rfl rfl rfl ?_ | refine aO_ (aa_ rfl) rfl (ar_ rfl (ae_ (b := h.nx + 1) (off := k) rfl ah_ Tryz.underlying3 rfl hB)) rfl rfl rfl ?_) | ((with_reducible refine bD_ ?_); refine aH_ (aa_ rfl) rfl rfl (ar_ rfl (cH_ rfl rfl)) rfl rfl rfl ?_) | ((with_reducible refine aC_ ?_); refine aH_ (aa_ rfl) rfl rfl (ar_ rfl (ab_ (o := 0) rfl Tryz.underlying29 rfl zs22 rfl)) rfl rfl rfl ?_) | with_reducible refine bj_ ?_ ?_)) | with_reducible exact aP_ | with_reducible refine aJ_ ?_ ?_ | ((with_reducible refine bi_ ?_); first | exact aS_ | refine am_ rfl rfl (ar_ rfl (ae_ (b := h.nx) (off := k) rfl ah_ Tryz.underlying3 rfl hA)) ?_ | refine am_ rfl rfl (ar_ rfl (ae_ (b := h.nx + 1) (off := k) rfl ah_ Tryz.underlying3 rfl hB)) ?_) | refine ap_ ?_ | (refine aG_ rfl (fun hb => ?_) (fun hb => aw_ hb); (try simp only [aX_, reduceCtorEq] at hb)) | refine aF_ (id := 5) 9 [0, 0, 3, 7, 0, 0, 48, 112, 255] [0, 1, 2, 3, 4, 5, 6, 7, 8] (by kernel_rfl) (by kernel_rfl) rfl rfl ?_)
       exact aI_ (k + 1, .slice (some ⟨_, 0, some 0⟩) (D.length + 1) (D.length + 1)) (by simp only; omega) (af_ ⟨rfl, rfl, rfl, rfl, rfl, rfl, trivial⟩) ⟨⟨aA_, au_, au_⟩, ⟨ah_, ah_⟩, by simp only; omega, by simp only; rw [nx, e7, e8]; exact .inr ⟨_, by simp only [H.nx_push, H.nx_set, H.nx_bump, H.nx_kill]; omega, rfl, ah_⟩⟩
 · have hk6 : k = 6 := by omega
   subst hk6
   obtain ⟨D, hD⟩ : ∃ D, difK [a0, a1, a2, a3, a4, a5] [b0, b1, b2, b3, b4, b5] 6 = D := ⟨_, rfl⟩
   rw [hD] at hv hlen
   rcases hv with ⟨rfl, hv1, hv2⟩ | ⟨e, he, rfl, hat⟩
   · have hDn : D = [] := by simpa using hv1
     subst hDn
     clear hv1 hv2
     by_cases h6 : a6 = b6
     · by_cases h7 : a7 = b7
       · subst h6 h7
         have hL : difL [a0, a1, a2, a3, a4, a5] [b0, b1, b2, b3, b4, b5] a6 a6 a7 a7 = ([] : List ByteArray) ++ [] := by unfold difL; rw [hD]; simp
         have hLn : (([] : List ByteArray) ++ []).length = 0 := rfl
         have hLm : (([] : List ByteArray) ++ [] : List ByteArray).map Value.string = [] := by simp
         rw [hL, hLn, hLm]
         clear hD hL hLn hLm
         repeat' (first | with_reducible refine ad_ ?_ | ((with_reducible refine ac_ ?_); first | ((with_reducible refine al_ ?_); refine aq_ (ae_ rfl ah_ Tryz.underlying3 rfl rfl) ?_) | refine ao_ ?_) | refine ap_ ?_ | (refine aG_ rfl (fun hb => (of_decide_eq_true hb rfl).elim) (fun hb => ?_); (try simp only [aX_, reduceCtorEq] at hb)))
         exact rq2 rfl rfl ⟨⟨_, rfl, .nil⟩, au_⟩
       · subst h6
         have hL : difL [a0, a1, a2, a3, a4, a5] [b0, b1, b2, b3, b4, b5] a6 a6 a7 b7 = ([] : List ByteArray) ++ [⟨⟨[116, 111, 116, 97, 108]⟩⟩] := by unfold difL; rw [hD]; simp [h7]
         have hLn : (([] : List ByteArray) ++ [⟨⟨[116, 111, 116, 97, 108]⟩⟩] : List ByteArray).length = 1 := by simp
         have hLm : (([] : List ByteArray) ++ [⟨⟨[116, 111, 116, 97, 108]⟩⟩] : List ByteArray).map Value.string = [Value.string ⟨⟨[116, 111, 116, 97, 108]⟩⟩] := by simp
         rw [hL, hLn, hLm]
         clear hD hL hLn hLm
         repeat' (first | with_reducible refine ad_ ?_ | ((with_reducible refine ac_ ?_); first | ((with_reducible refine av_ ?_); refine aq_ (bl_ rfl rfl (bz_ (M := mz G) (st := 25) (xt := 25) (m := 1) Tryz.underlying25 Tryz.underlying25 rfl zs9 zb9 zz9 rfl (Sl.ofAt ah_ rfl (Nat.le_refl _)) rfl (by omega) (by omega))) ?_) | ((with_reducible refine al_ ?_); refine aq_ (ae_ rfl ah_ Tryz.underlying3 rfl rfl) ?_) | ((with_reducible refine aE_ ?_); refine aq_ (aR_ rfl Tryz.underlying25 zs9 zz9 rfl rfl) ?_) | refine ao_ ?_) | refine ap_ ?_ | (refine aG_ rfl (fun hb => ?_) (fun hb => aw_ hb); (try simp only [aX_, reduceCtorEq] at hb)) | (refine aG_ rfl (fun hb => (of_decide_eq_true hb rfl).elim) (fun hb => ?_); (try simp only [aX_, reduceCtorEq] at hb)))
         exact rq2 rfl rfl ⟨⟨_, rfl, Sl.ofAt (show At _ _ (.cells ([Value.string ⟨⟨[116, 111, 116, 97, 108]⟩⟩]) 9 1 true) from ah_) rfl (Nat.le_refl 1)⟩, au_⟩
     · by_cases h7 : a7 = b7
       · subst h7
         have hL : difL [a0, a1, a2, a3, a4, a5] [b0, b1, b2, b3, b4, b5] a6 b6 a7 a7 = ([] : List ByteArray) ++ [⟨⟨[108, 105, 110, 101, 115]⟩⟩] := by unfold difL; rw [hD]; simp [h6]
         have hLn : (([] : List ByteArray) ++ [⟨⟨[108, 105, 110, 101, 115]⟩⟩] : List ByteArray).length = 1 := by simp
         have hLm : (([] : List ByteArray) ++ [⟨⟨[108, 105, 110, 101, 115]⟩⟩] : List ByteArray).map Value.string = [Value.string ⟨⟨[108, 105, 110, 101, 115]⟩⟩] := by simp
         rw [hL, hLn, hLm]
         clear hD hL hLn hLm
         repeat' (first | with_reducible refine ad_ ?_ | ((with_reducible refine ac_ ?_); first | ((with_reducible refine av_ ?_); refine aq_ (bl_ rfl rfl (bz_ (M := mz G) (st := 25) (xt := 25) (m := 1) Tryz.underlying25 Tryz.underlying25 rfl zs9 zb9 zz9 rfl (Sl.ofAt ah_ rfl (Nat.le_refl _)) rfl (by omega) (by omega))) ?_) | ((with_reducible refine al_ ?_); refine aq_ (ae_ rfl ah_ Tryz.underlying3 rfl rfl) ?_) | ((with_reducible refine aE_ ?_); refine aq_ (aR_ rfl Tryz.underlying25 zs9 zz9 rfl rfl) ?_) | refine ao_ ?_) | refine ap_ ?_ | (refine aG_ rfl (fun hb => ?_) (fun hb => aw_ hb); (try simp only [aX_, reduceCtorEq] at hb)) | (refine aG_ rfl (fun hb => (of_decide_eq_true hb rfl).elim) (fun hb => ?_); (try simp only [aX_, reduceCtorEq] at hb)))
         exact rq2 rfl rfl ⟨⟨_, rfl, Sl.ofAt (show At _ _ (.cells ([Value.string ⟨⟨[108, 105, 110, 101, 115]⟩⟩]) 9 1 true) from ah_) rfl (Nat.le_refl 1)⟩, au_⟩
       · have hL : difL [a0, a1, a2, a3, a4, a5] [b0, b1, b2, b3, b4, b5] a6 b6 a7 b7 = ([] : List ByteArray) ++ [⟨⟨[108, 105, 110, 101, 115]⟩⟩, ⟨⟨[116, 111, 116, 97, 108]⟩⟩] := by unfold difL; rw [hD]; simp [h6, h7]
         have hLn : (([] : List ByteArray) ++ [⟨⟨[108, 105, 110, 101, 115]⟩⟩, ⟨⟨[116, 111, 116, 97, 108]⟩⟩] : List ByteArray).length = 2 := by simp
         have hLm : (([] : List ByteArray) ++ [⟨⟨[108, 105, 110, 101, 115]⟩⟩, ⟨⟨[116, 111, 116, 97, 108]⟩⟩] : List ByteArray).map Value.string = [Value.string ⟨⟨[108, 105, 110, 101, 115]⟩⟩] ++ [Value.string ⟨⟨[116, 111, 116, 97, 108]⟩⟩] := by simp
         rw [hL, hLn, hLm]
         clear hD hL hLn hLm
         repeat' (first | with_reducible refine ad_ ?_ | ((with_reducible refine ac_ ?_); first | ((with_reducible refine av_ ?_); first | refine aq_ (bl_ rfl rfl (bz_ (M := mz G) (st := 25) (xt := 25) (m := 1) Tryz.underlying25 Tryz.underlying25 rfl zs9 zb9 zz9 rfl (Sl.ofAt ah_ rfl (Nat.le_refl _)) rfl (by omega) (by omega))) ?_ | refine aq_ (bl_ rfl rfl (br_ (M := mz G) (st := 25) (xt := 25) (m := 1) Tryz.underlying25 Tryz.underlying25 rfl zs9 zb9 zz9 rfl (Sl.ofAt ah_ rfl (Nat.le_refl _)) rfl (b := _) (c := [Value.string ⟨⟨[108, 105, 110, 101, 115]⟩⟩]) ah_ rfl (by omega) (by omega))) ?_) | ((with_reducible refine al_ ?_); refine aq_ (ae_ rfl ah_ Tryz.underlying3 rfl rfl) ?_) | ((with_reducible refine aE_ ?_); refine aq_ (aR_ rfl Tryz.underlying25 zs9 zz9 rfl rfl) ?_) | refine ao_ ?_) | refine ap_ ?_ | (refine aG_ rfl (fun hb => ?_) (fun hb => aw_ hb); (try simp only [aX_, reduceCtorEq] at hb)))
         exact rq2 rfl rfl ⟨⟨_, rfl, Sl.ofAt (show At _ _ (.cells ([Value.string ⟨⟨[108, 105, 110, 101, 115]⟩⟩] ++ [Value.string ⟨⟨[116, 111, 116, 97, 108]⟩⟩]) 9 1 true) from ah_) rfl (Nat.le_refl 2)⟩, au_⟩
   · have l1 := hat.lt
     by_cases h6 : a6 = b6
     · by_cases h7 : a7 = b7
       · subst h6 h7
         have hL : difL [a0, a1, a2, a3, a4, a5] [b0, b1, b2, b3, b4, b5] a6 a6 a7 a7 = D ++ [] := by unfold difL; rw [hD]; simp
         have hLn : (D ++ [] : List ByteArray).length = D.length := by simp
         have hLm : (D ++ [] : List ByteArray).map Value.string = D.map Value.string := by simp
         rw [hL, hLn, hLm]
         have hat9 : ∀ h' : H, Grow h1 h' → Sl G h' 1 (.slice (some ⟨e, 0, some 0⟩) D.length D.length) D.length (D.map Value.string) := fun h' g => (Sl.ofAt hat (by simp) (Nat.le_refl _)).grow g
         clear hD hL hLn hLm
         repeat' (first | with_reducible refine ad_ ?_ | ((with_reducible refine ac_ ?_); first | ((with_reducible refine al_ ?_); refine aq_ (ae_ rfl ah_ Tryz.underlying3 rfl rfl) ?_) | refine ao_ ?_) | refine ap_ ?_ | (refine aG_ rfl (fun hb => (of_decide_eq_true hb rfl).elim) (fun hb => ?_); (try simp only [aX_, reduceCtorEq] at hb)))
         exact rq2 rfl rfl ⟨⟨_, rfl, hat9 _ au_⟩, au_⟩
       · subst h6
         have hL : difL [a0, a1, a2, a3, a4, a5] [b0, b1, b2, b3, b4, b5] a6 a6 a7 b7 = D ++ [⟨⟨[116, 111, 116, 97, 108]⟩⟩] := by unfold difL; rw [hD]; simp [h7]
         have hLn : (D ++ [⟨⟨[116, 111, 116, 97, 108]⟩⟩] : List ByteArray).length = D.length + 1 := by simp
         have hLm : (D ++ [⟨⟨[116, 111, 116, 97, 108]⟩⟩] : List ByteArray).map Value.string = D.map Value.string ++ [Value.string ⟨⟨[116, 111, 116, 97, 108]⟩⟩] := by simp
         rw [hL, hLn, hLm]
         clear hD hL hLn hLm
         repeat' (first | with_reducible refine ad_ ?_ | ((with_reducible refine ac_ ?_); first | ((with_reducible refine av_ ?_); refine aq_ (bl_ rfl rfl (br_ (M := mz G) (st := 25) (xt := 25) (m := 1) Tryz.underlying25 Tryz.underlying25 rfl zs9 zb9 zz9 rfl (Sl.ofAt ah_ rfl (Nat.le_refl _)) rfl (b := e) (c := D.map Value.string) ah_ (by simp) (by omega) (by omega))) ?_) | ((with_reducible refine al_ ?_); refine aq_ (ae_ rfl ah_ Tryz.underlying3 rfl rfl) ?_) | ((with_reducible refine aE_ ?_); refine aq_ (aR_ rfl Tryz.underlying25 zs9 zz9 rfl rfl) ?_) | refine ao_ ?_) | refine ap_ ?_ | (refine aG_ rfl (fun hb => ?_) (fun hb => aw_ hb); (try simp only [aX_, reduceCtorEq] at hb)) | (refine aG_ rfl (fun hb => (of_decide_eq_true hb rfl).elim) (fun hb => ?_); (try simp only [aX_, reduceCtorEq] at hb)))
         exact rq2 rfl rfl ⟨⟨_, rfl, Sl.ofAt (show At _ _ (.cells (D.map Value.string ++ [Value.string ⟨⟨[116, 111, 116, 97, 108]⟩⟩]) 9 1 true) from ah_) (by simp) (Nat.le_refl _)⟩, au_⟩
     · by_cases h7 : a7 = b7
       · subst h7
         have hL : difL [a0, a1, a2, a3, a4, a5] [b0, b1, b2, b3, b4, b5] a6 b6 a7 a7 = D ++ [⟨⟨[108, 105, 110, 101, 115]⟩⟩] := by unfold difL; rw [hD]; simp [h6]
         have hLn : (D ++ [⟨⟨[108, 105, 110, 101, 115]⟩⟩] : List ByteArray).length = D.length + 1 := by simp
         have hLm : (D ++ [⟨⟨[108, 105, 110, 101, 115]⟩⟩] : List ByteArray).map Value.string = D.map Value.string ++ [Value.string ⟨⟨[108, 105, 110, 101, 115]⟩⟩] := by simp
         rw [hL, hLn, hLm]
         clear hD hL hLn hLm
         repeat' (first | with_reducible refine ad_ ?_ | ((with_reducible refine ac_ ?_); first | ((with_reducible refine av_ ?_); refine aq_ (bl_ rfl rfl (br_ (M := mz G) (st := 25) (xt := 25) (m := 1) Tryz.underlying25 Tryz.underlying25 rfl zs9 zb9 zz9 rfl (Sl.ofAt ah_ rfl (Nat.le_refl _)) rfl (b := e) (c := D.map Value.string) ah_ (by simp) (by omega) (by omega))) ?_) | ((with_reducible refine al_ ?_); refine aq_ (ae_ rfl ah_ Tryz.underlying3 rfl rfl) ?_) | ((with_reducible refine aE_ ?_); refine aq_ (aR_ rfl Tryz.underlying25 zs9 zz9 rfl rfl) ?_) | refine ao_ ?_) | refine ap_ ?_ | (refine aG_ rfl (fun hb => ?_) (fun hb => aw_ hb); (try simp only [aX_, reduceCtorEq] at hb)) | (refine aG_ rfl (fun hb => (of_decide_eq_true hb rfl).elim) (fun hb => ?_); (try simp only [aX_, reduceCtorEq] at hb)))
         exact rq2 rfl rfl ⟨⟨_, rfl, Sl.ofAt (show At _ _ (.cells (D.map Value.string ++ [Value.string ⟨⟨[108, 105, 110, 101, 115]⟩⟩]) 9 1 true) from ah_) (by simp) (Nat.le_refl _)⟩, au_⟩
       · have hL : difL [a0, a1, a2, a3, a4, a5] [b0, b1, b2, b3, b4, b5] a6 b6 a7 b7 = D ++ [⟨⟨[108, 105, 110, 101, 115]⟩⟩, ⟨⟨[116, 111, 116, 97, 108]⟩⟩] := by unfold difL; rw [hD]; simp [h6, h7]
         have hLn : (D ++ [⟨⟨[108, 105, 110, 101, 115]⟩⟩, ⟨⟨[116, 111, 116, 97, 108]⟩⟩] : List ByteArray).length = D.length + 2 := by simp
         have hLm : (D ++ [⟨⟨[108, 105, 110, 101, 115]⟩⟩, ⟨⟨[116, 111, 116, 97, 108]⟩⟩] : List ByteArray).map Value.string = D.map Value.string ++ [Value.string ⟨⟨[108, 105, 110, 101, 115]⟩⟩] ++ [Value.string ⟨⟨[116, 111, 116, 97, 108]⟩⟩] := by simp
         rw [hL, hLn, hLm]
         clear hD hL hLn hLm
         repeat' (first | with_reducible refine ad_ ?_ | ((with_reducible refine ac_ ?_); first | ((with_reducible refine av_ ?_); first | refine aq_ (bl_ rfl rfl (br_ (M := mz G) (st := 25) (xt := 25) (m := 1) Tryz.underlying25 Tryz.underlying25 rfl zs9 zb9 zz9 rfl (Sl.ofAt ah_ rfl (Nat.le_refl _)) rfl (b := e) (c := D.map Value.string) ah_ (by simp) (by omega) (by omega))) ?_ | refine aq_ (bl_ rfl rfl (br_ (M := mz G) (st := 25) (xt := 25) (m := 1) Tryz.underlying25 Tryz.underlying25 rfl zs9 zb9 zz9 rfl (Sl.ofAt ah_ rfl (Nat.le_refl _)) rfl (b := _) (c := D.map Value.string ++ [Value.string ⟨⟨[108, 105, 110, 101, 115]⟩⟩]) ah_ (by simp) (by omega) (by omega))) ?_) | ((with_reducible refine al_ ?_); refine aq_ (ae_ rfl ah_ Tryz.underlying3 rfl rfl) ?_) | ((with_reducible refine aE_ ?_); refine aq_ (aR_ rfl Tryz.underlying25 zs9 zz9 rfl rfl) ?_) | refine ao_ ?_) | refine ap_ ?_ | (refine aG_ rfl (fun hb => ?_) (fun hb => aw_ hb); (try simp only [aX_, reduceCtorEq] at hb)))
         exact rq2 rfl rfl ⟨⟨_, rfl, Sl.ofAt (show At _ _ (.cells (D.map Value.string ++ [Value.string ⟨⟨[108, 105, 110, 101, 115]⟩⟩] ++ [Value.string ⟨⟨[116, 111, 116, 97, 108]⟩⟩]) 9 1 true) from ah_) (by simp) (Nat.le_refl _)⟩, au_⟩
end Go.Proofs.YtlioomhcdlicmaaGreatDoor
/- The law SurveyBills. -/
namespace Go.Proofs.YtlioomhcdlicmaaGreatDoor
open Go Go.Ab Go.Fl
attribute [local irreducible] SeqQ BlkQ LpQ RetQ Wc Wo WD WX Op1 Op1q Op1a Cf Cl From
attribute [local irreducible] Ieee.Format.order Ieee.Format.read Ieee.Format.nearest Ieee.Format.write Ieee.Format.mul Ieee.Format.div Ieee.Format.sqrt Ieee.Datum.order Ieee.Datum.integral K U rngE errN ptE firstNZ vesE watE sgE sgsE allE hitB sqD insB qsL lvl rn rl altB isNameB nmE foE clE accL othL rtE ctE
set_option maxRecDepth 10000
variable {G : Base} {h : H}
attribute [local irreducible] spE numM cauW cnum cauN enE hrK ensE rssE lowN lowD bilC bilE outC freeI cntK
theorem bilE_parts {c0 c1 c2 c3 c4 c5 c6 c7 c8 : Int} {l : List En} {rs : List Rs} (hh : bilE c0 c1 c2 c3 c4 c5 c6 c7 c8 l rs = 0) : ctE c0 c1 c2 c3 c4 c5 c6 c7 c8 = 0 ∧ ensE l = 0 ∧ rssE rs = 0 := by
 unfold bilE at hh
 have e := bX_ hh
 exact ⟨e _ (by simp), e _ (by simp), e _ (by simp)⟩
theorem bilC_good {c0 c1 c2 c3 c4 c5 c6 c7 c8 : Int} {l : List En} {rs : List Rs} (hh : bilE c0 c1 c2 c3 c4 c5 c6 c7 c8 l rs = 0) : bilC c0 c1 c2 c3 c4 c5 c6 c7 c8 l rs = (bilL (hrK l l.length) c0 c1 c2 c3 c4 c5 c6 c7 c8 (accL rs).length (othL rs).length).map (.int .i64) := by
 unfold bilC; rw [if_pos hh]
theorem wc_midB {M : Mc} {ro : Option Nat} {a b : Code} {sz : Nat} {l : KL} {h : H} {Q : X → KL → H → Prop} {ι : Type} (L : ι → KL) (I : ι → H → Prop) (hA : Wc M ro a sz l h (fun x l' h' => (x = .norm ∧ ∃ i, (∀ t v, lk (L i) t = some v → lk l' t = some v) ∧ I i h') ∨ (x = .ret ∧ Q .ret l' h'))) (hB : ∀ i h, I i h → Wc M ro b sz (L i) h Q) : Wc M ro (a.seq b) sz l h Q :=
 wc_seq (wc_mono hA fun x l' h' q => by
   rcases q with ⟨e, i, hl, hi⟩ | ⟨e, q⟩
   · subst e
     exact sq_norm (wc_less hl (hB i h' hi))
   · subst e
     exact sq_ret q)
end Go.Proofs.YtlioomhcdlicmaaGreatDoor
