/- Survey: results by the reference; accepted lines both ways. -/
import Derived.Test.YtlioomhcdlicmaaGreatDoorC16
import Derived.Test.YtlioomhcdlicmaaGreatDoorC11
import Derived.Test.YtlioomhcdlicmaaGreatDoorC9
set_option linter.all false
/- Survey: results by the reference; accepted lines both ways. -/
namespace Go.Proofs.YtlioomhcdlicmaaGreatDoor
open Go Go.Ab Go.Fl
attribute [local irreducible] SeqQ BlkQ LpQ RetQ Wc Wo WD WX Op1 Op1q Op1a Cf Cl From
attribute [local irreducible] Ieee.Format.order Ieee.Format.read Ieee.Format.nearest Ieee.Format.write Ieee.Format.mul Ieee.Format.div Ieee.Format.sqrt Ieee.Datum.order Ieee.Datum.integral K U rngE errN ptE firstNZ vesE watE sgE sgsE allE hitB sqD insB qsL lvl rn rl altB isNameB nmE foE clE
set_option maxRecDepth 10000
variable {G : Base} {h : H}
theorem inN_snoc {s a : ByteArray} {tl : List ByteArray} : inN s (tl ++ [a]) = (inN s tl || decide (s = a)) := by
 unfold inN; rw [List.any_append]; simp
set_option maxHeartbeats 4000000 in
theorem c125 {v : Value} {n : Nat} {tl : List ByteArray} {x : ByteArray} (s : Sl G h 1 v n (tl.map Value.string)) (hn : n < 1000000) (hw : Wf h) : Cf (mz G) (.func (.func 125) #[] #[]) [v, .string x] h fun r h' => r = .bool (inN x tl) ∧ Grow h h' := by
 obtain ⟨a, c, rfl⟩ := s.form
 have hl : tl.length = n := by have := s.length; simpa using this
 refine ak_ 18 [.tmp 4] Tryz.func125 rfl rfl rfl rfl ?_
 repeat' (first | with_reducible refine ad_ ?_ | ((with_reducible refine ac_ ?_); ((with_reducible refine cx_ ?_); refine aq_ (aW_ rfl) ?_)) | refine ap_ ?_)
 refine bo_ (fun i => n - i) (fun i : Nat => [(0, .slice a n c), (1, .string x), (5, .int .i64 (i : Nat))]) (fun i h' => (Wf h' ∧ Grow h h') ∧ i ≤ n ∧ inN x (tl.take i) = false) 0 (af_ ⟨rfl, rfl, rfl, trivial⟩) ⟨⟨aA_, au_⟩, Nat.zero_le _, rfl⟩ ?_
 rintro i h1 ⟨⟨w1, g1⟩, hi, hp⟩
 have n1 := g1.nx
 by_cases hlt : i < n
 · obtain ⟨id, i1, i3⟩ := in_atV Value.string .empty (s.grow g1) Tryz.underlying25 zs9 (i := (i : Int)) hlt rfl
   have e1 : inN x (tl.take (i + 1)) = decide (x = tl.getD i .empty) := by
     rw [cf_ .empty (by omega), inN_snoc, hp, Bool.false_or]
   have hm : tl.getD i .empty ∈ tl := by simp [List.getD, List.getElem?_eq_getElem (show i < tl.length by omega)]
   generalize tl.getD i .empty = y at i3 e1 hm
   by_cases hxy : y = x
   · have hf : inN x tl = true := by
       unfold inN
       rw [List.any_eq_true]
       exact ⟨y, hm, decide_eq_true hxy.symm⟩
     rw [hf]
     repeat' (first | with_reducible refine ad_ ?_ | ((with_reducible refine ac_ ?_); first | ((with_reducible refine an_ ?_); refine aq_ (ag_ rfl rfl i1) ?_) | ((with_reducible refine al_ ?_); refine aq_ (az_ rfl Tryz.underlying9 rfl (i3 _ au_)) ?_) | ((with_reducible refine bG_ ?_); refine aq_ (op_seqE rfl rfl hxy) ?_) | ((with_reducible refine av_ ?_); refine aq_ (ax_ rfl Tryz.underlying25) ?_) | refine ao_ ?_) | refine ap_ ?_ | (refine aG_ rfl (fun hb => ?_) (fun hb => aw_ hb); (try simp only [aX_, reduceCtorEq] at hb)))
     exact rq1 rfl ⟨rfl, au_⟩
   · rw [decide_eq_false (fun q => hxy q.symm)] at e1
     repeat' (first | with_reducible refine ad_ ?_ | ((with_reducible refine ac_ ?_); first | ((with_reducible refine an_ ?_); refine aq_ (ag_ rfl rfl i1) ?_) | ((with_reducible refine al_ ?_); refine aq_ (az_ rfl Tryz.underlying9 rfl (i3 _ au_)) ?_) | ((with_reducible refine bG_ ?_); refine aq_ (op_seqN rfl rfl hxy) ?_) | ((with_reducible refine av_ ?_); refine aq_ (ax_ rfl Tryz.underlying25) ?_) | refine ao_ ?_) | refine ap_ ?_ | (refine aG_ rfl (fun hb => ?_) (fun hb => aw_ hb); (try simp only [aX_, reduceCtorEq] at hb)))
     exact aI_ (i + 1) (by omega) (af_ ⟨rfl, rfl, rfl, trivial⟩) ⟨⟨aA_, au_⟩, by omega, e1⟩
 · rw [List.take_of_length_le (by omega)] at hp
   rw [hp]
   repeat' (first | with_reducible refine ad_ ?_ | ((with_reducible refine ac_ ?_); first | ((with_reducible refine av_ ?_); refine aq_ (ax_ rfl Tryz.underlying25) ?_) | refine ao_ ?_) | refine ap_ ?_ | (refine aG_ rfl (fun hb => ?_) (fun hb => ?_) <;> (try simp only [aX_, reduceCtorEq] at hb) <;> (try (exfalso; omega))))
   exact rq1 rfl ⟨rfl, au_⟩
theorem nmsR_len (l : List Rs) : (nmsR l).length = l.length := List.length_map ..
set_option maxHeartbeats 8000000 in
theorem c58 {v : Value} {n : Nat} {l : List Rs} (s : Sl G h 3 v n (l.flatMap Rs.cells)) (hl : l.length = n) (hn : n < 1000000) (hsz : ∀ r ∈ l, r.nm.size ≤ 1000000) (hw : Wf h) : Cf (mz G) (.func (.func 58) #[] #[]) [v] h fun r h' => r = .int .i64 (rssE l) ∧ Grow h h' := by
 have hR : rssE l = if 64 < n then 5 else resE l [] := by unfold rssE; rw [hl]
 rw [hR]
 obtain ⟨a, c, rfl⟩ := s.form
 by_cases h64 : 64 < n
 · rw [if_pos h64]
   refine ak_ 57 [.tmp 2] Tryz.func58 rfl rfl rfl rfl ?_
   repeat' (first | with_reducible refine ad_ ?_ | ((with_reducible refine ac_ ?_); first | ((with_reducible refine av_ ?_); refine aq_ (ax_ rfl Tryz.underlying106) ?_) | refine ao_ ?_) | refine ap_ ?_ | (refine aG_ rfl (fun hb => ?_) (fun hb => aw_ hb); (try simp only [aX_, reduceCtorEq] at hb)))
   exact rq1 rfl ⟨rfl, au_⟩
 rw [if_neg h64]
 refine ak_ 57 [.tmp 2] Tryz.func58 rfl rfl rfl rfl ?_
 repeat' (first | with_reducible refine ad_ ?_ | ((with_reducible refine ac_ ?_); first | ((with_reducible refine av_ ?_); refine aq_ (ax_ rfl Tryz.underlying106) ?_) | refine ao_ ?_) | refine ap_ ?_ | (refine aG_ rfl (fun hb => aw_ hb) (fun hb => ?_); (try simp only [aX_, reduceCtorEq] at hb)))
 refine bo_ (fun p : Nat × Value => n - p.1) (fun p => [(0, .slice a n c), (3, p.2), (4, .int .i64 (p.1 : Nat))]) (fun p h' => (Wf h' ∧ Grow h h') ∧ p.1 ≤ n ∧ OutG h.nx h' p.2 p.1 ((nmsR (l.take p.1)).map Value.string) 9 1 ∧ resE (l.drop p.1) (nmsR (l.take p.1)) = resE l []) (0, .slice none 0 0) (af_ ⟨rfl, rfl, rfl, trivial⟩) ⟨⟨aA_, au_⟩, Nat.zero_le _, .inl ⟨rfl, rfl, rfl⟩, rfl⟩ ?_
 rintro ⟨k, v⟩ h1 ⟨⟨w1, g1⟩, hk, hv, hi⟩
 simp only at hk hv hi ⊢
 have n1 := g1.nx
 by_cases hlt : k < n
 · obtain ⟨id, i1, i3⟩ := cw_ Rs.len ⟨.empty, 0, 0⟩ (s.grow g1) hl Tryz.underlying106 zs207 (i := (k : Int)) hlt rfl
   have e1 : nmsR (l.take (k + 1)) = nmsR (l.take k) ++ [(l.getD k ⟨.empty, 0, 0⟩).nm] := by
     unfold nmsR; rw [cf_ ⟨.empty, 0, 0⟩ (by omega), List.map_append, List.map_singleton]
   rw [drop_next ⟨.empty, 0, 0⟩ (by omega)] at hi
   have hm : l.getD k ⟨.empty, 0, 0⟩ ∈ l := by simp [List.getD, List.getElem?_eq_getElem (show k < l.length by omega)]
   have hs1 := hsz _ hm
   obtain ⟨t, ht⟩ : ∃ t, l.getD k ⟨.empty, 0, 0⟩ = t := ⟨_, rfl⟩
   rw [ht] at i3 e1 hi hs1
   obtain ⟨nm, fo, wa⟩ := t
   dsimp only [Rs.cells] at i3
   dsimp only at e1 hi hs1
   have htk : (nmsR (l.take k)).length = k := by rw [nmsR_len, List.length_take]; omega
   obtain ⟨tl, htl⟩ : ∃ tl, nmsR (l.take k) = tl := ⟨_, rfl⟩
   rw [htl] at hv e1 hi htk
   rw [resE] at hi
   dsimp only at hi
   have inm := fun (h' : H) (g' : Grow h1 h') => (show acell G h' (aadd id 0) = some (.string nm) from (i3 h' g').get 0 _ rfl)
   have ifo := fun (h' : H) (g' : Grow h1 h') => (show acell G h' (aadd id 1) = some (.int .i64 fo) from (i3 h' g').get 1 _ rfl)
   have iwa := fun (h' : H) (g' : Grow h1 h') => (show acell G h' (aadd id 2) = some (.int .i64 wa) from (i3 h' g').get 2 _ rfl)
   have q124 := fun (h' : H) => c124 (G := G) (h := h') nm hs1
   have hsl : Sl G h1 1 v k (tl.map Value.string) := hv.sl (by simp; omega)
   have q125 := fun (h' : H) (g' : Grow h1 h') (w' : Wf h') => c125 (x := nm) (hsl.grow g') (by omega) w'
   have qf := fun (h' : H) (vv : Value) (s : Sl G h' 1 vv 2 ([rngE fo 0 10000, rngE wa 0 10000].map (.int .i64))) => c91 s (by omega)
   rw [show firstNZ [rngE fo 0 10000, rngE wa 0 10000] = foE fo wa from by unfold foE; rfl] at qf
   have hcl : clE nm tl = if nmE nm ≠ 0 then nmE nm else if inN nm tl = true then 9 else 0 := by unfold clE; rfl
   rw [hcl] at hi
   obtain ⟨E, hE⟩ : ∃ E, nmE nm = E := ⟨_, rfl⟩
   rw [hE] at q124 hi
   obtain ⟨F, hF⟩ : ∃ F, foE fo wa = F := ⟨_, rfl⟩
   rw [hF] at qf hi
   obtain ⟨B, hB⟩ : ∃ B, inN nm tl = B := ⟨_, rfl⟩
   rw [hB] at q125 hi
   clear ht htl hE hF hB hcl hm hsl
   by_cases hz : E = 0
   · subst hz
     rw [if_neg (show ¬((0 : Int) ≠ 0) by simp)] at hi
     cases B with
     | true =>
       rw [if_pos rfl, if_pos (by decide)] at hi
       rw [← hi]
       obtain ⟨va, vc, rfl⟩ : ∃ va vc, v = .slice va k vc := by
         rcases hv with ⟨rfl, rfl, _⟩ | ⟨e, _, rfl, _⟩
         · exact ⟨_, _, rfl⟩
         · exact ⟨_, _, rfl⟩
       repeat' (first | with_reducible refine ad_ ?_ | ((with_reducible refine ac_ ?_); first | ((with_reducible refine an_ ?_); refine aq_ (ag_ rfl rfl i1) ?_) | ((with_reducible refine al_ ?_); refine aq_ (az_ rfl Tryz.underlying9 rfl (inm _ au_)) ?_) | ((with_reducible refine av_ ?_); refine aq_ (ax_ rfl Tryz.underlying106) ?_) | ((with_reducible refine at_ ?_); first | refine aq_ (aK_ rfl rfl (q124 _)) ?_ | (refine as_ rfl rfl rfl rfl (q125 _ au_ aA_) rfl rfl ?_; rintro _ _ ⟨rfl, hq⟩; all_goals (try (have hqn := hq.nx); try simp only [aU_] at hqn))) | refine ao_ ?_) | refine ap_ ?_ | (refine aG_ rfl (fun hb => ?_) (fun hb => aw_ hb); (try simp only [aX_, reduceCtorEq] at hb)))
       exact rq1 rfl ⟨rfl, au_⟩
     | false =>
       rw [if_neg (by decide)] at hi
       have RUN := True
       by_cases hf : F = 0
       · subst hf
         rw [if_neg (by simp)] at hi
         rcases hv with ⟨rfl, rfl, hc0⟩ | ⟨e, he, rfl, hat⟩
         · have htn : tl = [] := by simpa using hc0
           subst htn
           repeat' (first | with_reducible refine ad_ ?_ | ((with_reducible refine ac_ ?_); first | ((with_reducible refine an_ ?_); refine aq_ (ag_ rfl rfl i1) ?_) | ((with_reducible refine al_ ?_); refine aq_ (az_ rfl Tryz.underlying9 rfl (inm _ au_)) ?_) | ((with_reducible refine av_ ?_); first | refine aq_ (bl_ rfl rfl (bz_ (M := mz G) (st := 25) (xt := 25) (m := 1) Tryz.underlying25 Tryz.underlying25 rfl zs9 zb9 zz9 rfl (Sl.ofAt ah_ rfl (Nat.le_refl _)) rfl (by omega) (by omega))) ?_ | refine aq_ (ax_ rfl Tryz.underlying106) ?_) | ((with_reducible refine aE_ ?_); refine aq_ (aR_ rfl Tryz.underlying25 zs9 zz9 rfl rfl) ?_) | ((with_reducible refine at_ ?_); first | refine aq_ (aK_ rfl rfl (q124 _)) ?_ | (refine as_ rfl rfl rfl rfl (q125 _ au_ aA_) rfl rfl ?_; rintro _ _ ⟨rfl, hq⟩; all_goals (try (have hqn := hq.nx); try simp only [aU_] at hqn))) | refine ao_ ?_) | ((with_reducible refine bb_ ?_); first | ((with_reducible refine bd_ ?_); first | ((with_reducible refine ba_ ?_); refine aH_ (aa_ rfl) rfl rfl (ar_ rfl (aD_ rfl)) rfl rfl rfl ?_) | ((with_reducible refine aT_ ?_); refine aH_ (aa_ rfl) rfl rfl (ar_ rfl (ag_ rfl rfl i1)) rfl rfl rfl ?_) | ((with_reducible refine aZ_ ?_); first | refine aO_ (aa_ rfl) rfl (ar_ rfl (az_ rfl Tryz.underlying3 rfl (ifo _ au_))) rfl rfl rfl ?_ | refine aO_ (aa_ rfl) rfl (ar_ rfl (az_ rfl Tryz.underlying3 rfl (iwa _ au_))) rfl rfl rfl ?_) | ((with_reducible refine aC_ ?_); first | refine aH_ (aa_ rfl) rfl rfl (ar_ rfl (ab_ (o := 1) rfl Tryz.underlying207 rfl zs3 rfl)) rfl rfl rfl ?_ | refine aH_ (aa_ rfl) rfl rfl (ar_ rfl (ab_ (o := 2) rfl Tryz.underlying207 rfl zs3 rfl)) rfl rfl rfl ?_) | ((with_reducible refine bg_ ?_); refine wx_a0 (aa_ rfl) rfl (bh_ rfl Tryz.underlying49 zs3 zz3 rfl rfl) rfl rfl ?_) | ((with_reducible refine bw_ (f := 72) ?_); refine wx_ee (aa_ rfl) rfl rfl (aK_ rfl rfl (c72 _ _ _)) rfl rfl ?_)) | ((with_reducible refine bm_ ?_); refine aH_ (aa_ rfl) rfl rfl (ar_ rfl (aW_ rfl)) rfl rfl rfl ?_) | ((with_reducible refine aV_ ?_); ((with_reducible refine cq_ ?_); refine wx_e1 (aa_ rfl) rfl rfl rfl (aK_ rfl rfl (qf _ _ (Sl.ofAt (show At _ _ (.cells [.int .i64 (rngE fo 0 10000), .int .i64 (rngE wa 0 10000)] 3 1 false) from ah_) rfl (Nat.le_refl _)))) rfl rfl ?_)) | refine bU_ ?_ ?_ rfl rfl ?_) | with_reducible exact aP_ | with_reducible refine aJ_ ?_ ?_ | ((with_reducible refine bi_ ?_); first | exact aS_ | refine aQ_ rfl ?_ | refine am_ rfl rfl (ar_ rfl (az_ rfl Tryz.underlying3 rfl (ifo _ au_))) ?_ | refine am_ rfl rfl (ar_ rfl (az_ rfl Tryz.underlying3 rfl (iwa _ au_))) ?_) | with_reducible exact bV_ | with_reducible refine bE_ ?_ ?_ | ((with_reducible refine ck_ ?_); first | exact bW_ rfl rfl | exact bu_ rfl rfl aA_ gr_B) | refine ap_ ?_ | (refine aG_ rfl (fun hb => ?_) (fun hb => aw_ hb); (try simp only [aX_, reduceCtorEq] at hb)) | refine aF_ (id := 12) 15 [0, 0, 3, 7, 15, 31, 0, 0, 192, 448, 960, 2047, 4095, 8191, 16383] [0, 1, 2, 3, 4, 5, 6, 7, 8, 9, 10, 11, 12, 13, 14] (by kernel_rfl) (by kernel_rfl) rfl rfl ?_)
           exact aI_ (0 + 1, .slice (some ⟨_, 0, some 0⟩) (0 + 1) (0 + 1)) (by simp only; omega) (af_ ⟨rfl, rfl, rfl, trivial⟩) ⟨⟨aA_, au_⟩, by simp only; omega, .inr ⟨_, by simp only [H.nx_push, H.nx_set, H.nx_bump, H.nx_kill]; omega, rfl, by simp only; rw [e1]; exact ah_⟩, by simp only; rw [e1]; exact hi⟩
         · have le := hat.lt
           repeat' (first | with_reducible refine ad_ ?_ | ((with_reducible refine ac_ ?_); first | ((with_reducible refine an_ ?_); refine aq_ (ag_ rfl rfl i1) ?_) | ((with_reducible refine al_ ?_); refine aq_ (az_ rfl Tryz.underlying9 rfl (inm _ au_)) ?_) | ((with_reducible refine av_ ?_); first | refine aq_ (bl_ rfl rfl (br_ (M := mz G) (st := 25) (xt := 25) (m := 1) Tryz.underlying25 Tryz.underlying25 rfl zs9 zb9 zz9 rfl (Sl.ofAt ah_ rfl (Nat.le_refl _)) rfl (b := e) (c := tl.map Value.string) ah_ (by simp; omega) (by omega) (by omega))) ?_ | refine aq_ (ax_ rfl Tryz.underlying106) ?_) | ((with_reducible refine aE_ ?_); refine aq_ (aR_ rfl Tryz.underlying25 zs9 zz9 rfl rfl) ?_) | ((with_reducible refine at_ ?_); first | refine aq_ (aK_ rfl rfl (q124 _)) ?_ | (refine as_ rfl rfl rfl rfl (q125 _ au_ aA_) rfl rfl ?_; rintro _ _ ⟨rfl, hq⟩; all_goals (try (have hqn := hq.nx); try simp only [aU_] at hqn))) | refine ao_ ?_) | ((with_reducible refine bb_ ?_); first | ((with_reducible refine bd_ ?_); first | ((with_reducible refine ba_ ?_); refine aH_ (aa_ rfl) rfl rfl (ar_ rfl (aD_ rfl)) rfl rfl rfl ?_) | ((with_reducible refine aT_ ?_); refine aH_ (aa_ rfl) rfl rfl (ar_ rfl (ag_ rfl rfl i1)) rfl rfl rfl ?_) | ((with_reducible refine aZ_ ?_); first | refine aO_ (aa_ rfl) rfl (ar_ rfl (az_ rfl Tryz.underlying3 rfl (ifo _ au_))) rfl rfl rfl ?_ | refine aO_ (aa_ rfl) rfl (ar_ rfl (az_ rfl Tryz.underlying3 rfl (iwa _ au_))) rfl rfl rfl ?_) | ((with_reducible refine aC_ ?_); first | refine aH_ (aa_ rfl) rfl rfl (ar_ rfl (ab_ (o := 1) rfl Tryz.underlying207 rfl zs3 rfl)) rfl rfl rfl ?_ | refine aH_ (aa_ rfl) rfl rfl (ar_ rfl (ab_ (o := 2) rfl Tryz.underlying207 rfl zs3 rfl)) rfl rfl rfl ?_) | ((with_reducible refine bg_ ?_); refine wx_a0 (aa_ rfl) rfl (bh_ rfl Tryz.underlying49 zs3 zz3 rfl rfl) rfl rfl ?_) | ((with_reducible refine bw_ (f := 72) ?_); refine wx_ee (aa_ rfl) rfl rfl (aK_ rfl rfl (c72 _ _ _)) rfl rfl ?_)) | ((with_reducible refine bm_ ?_); refine aH_ (aa_ rfl) rfl rfl (ar_ rfl (aW_ rfl)) rfl rfl rfl ?_) | ((with_reducible refine aV_ ?_); ((with_reducible refine cq_ ?_); refine wx_e1 (aa_ rfl) rfl rfl rfl (aK_ rfl rfl (qf _ _ (Sl.ofAt (show At _ _ (.cells [.int .i64 (rngE fo 0 10000), .int .i64 (rngE wa 0 10000)] 3 1 false) from ah_) rfl (Nat.le_refl _)))) rfl rfl ?_)) | refine bU_ ?_ ?_ rfl rfl ?_) | with_reducible exact aP_ | with_reducible refine aJ_ ?_ ?_ | ((with_reducible refine bi_ ?_); first | exact aS_ | refine aQ_ rfl ?_ | refine am_ rfl rfl (ar_ rfl (az_ rfl Tryz.underlying3 rfl (ifo _ au_))) ?_ | refine am_ rfl rfl (ar_ rfl (az_ rfl Tryz.underlying3 rfl (iwa _ au_))) ?_) | with_reducible exact bV_ | with_reducible refine bE_ ?_ ?_ | ((with_reducible refine ck_ ?_); first | exact bW_ rfl rfl | exact bu_ rfl rfl aA_ gr_B) | refine ap_ ?_ | (refine aG_ rfl (fun hb => ?_) (fun hb => aw_ hb); (try simp only [aX_, reduceCtorEq] at hb)) | refine aF_ (id := 12) 15 [0, 0, 3, 7, 15, 31, 0, 0, 192, 448, 960, 2047, 4095, 8191, 16383] [0, 1, 2, 3, 4, 5, 6, 7, 8, 9, 10, 11, 12, 13, 14] (by kernel_rfl) (by kernel_rfl) rfl rfl ?_)
           exact aI_ (k + 1, .slice (some ⟨_, 0, some 0⟩) (k + 1) (k + 1)) (by simp only; omega) (af_ ⟨rfl, rfl, rfl, trivial⟩) ⟨⟨aA_, au_⟩, by simp only; omega, .inr ⟨_, by simp only [H.nx_push, H.nx_set, H.nx_bump, H.nx_kill]; omega, rfl, by simp only; rw [e1, List.map_append]; exact ah_⟩, by simp only; rw [e1]; exact hi⟩
       · rw [if_pos hf] at hi
         rw [← hi]
         obtain ⟨va, vc, rfl⟩ : ∃ va vc, v = .slice va k vc := by
           rcases hv with ⟨rfl, rfl, _⟩ | ⟨e, _, rfl, _⟩
           · exact ⟨_, _, rfl⟩
           · exact ⟨_, _, rfl⟩
         repeat' (first | with_reducible refine ad_ ?_ | ((with_reducible refine ac_ ?_); first | ((with_reducible refine an_ ?_); refine aq_ (ag_ rfl rfl i1) ?_) | ((with_reducible refine al_ ?_); refine aq_ (az_ rfl Tryz.underlying9 rfl (inm _ au_)) ?_) | ((with_reducible refine av_ ?_); refine aq_ (ax_ rfl Tryz.underlying106) ?_) | ((with_reducible refine at_ ?_); first | refine aq_ (aK_ rfl rfl (q124 _)) ?_ | (refine as_ rfl rfl rfl rfl (q125 _ au_ aA_) rfl rfl ?_; rintro _ _ ⟨rfl, hq⟩; all_goals (try (have hqn := hq.nx); try simp only [aU_] at hqn))) | refine ao_ ?_) | ((with_reducible refine bb_ ?_); first | ((with_reducible refine bd_ ?_); first | ((with_reducible refine ba_ ?_); refine aH_ (aa_ rfl) rfl rfl (ar_ rfl (aD_ rfl)) rfl rfl rfl ?_) | ((with_reducible refine aT_ ?_); refine aH_ (aa_ rfl) rfl rfl (ar_ rfl (ag_ rfl rfl i1)) rfl rfl rfl ?_) | ((with_reducible refine aZ_ ?_); first | refine aO_ (aa_ rfl) rfl (ar_ rfl (az_ rfl Tryz.underlying3 rfl (ifo _ au_))) rfl rfl rfl ?_ | refine aO_ (aa_ rfl) rfl (ar_ rfl (az_ rfl Tryz.underlying3 rfl (iwa _ au_))) rfl rfl rfl ?_) | ((with_reducible refine aC_ ?_); first | refine aH_ (aa_ rfl) rfl rfl (ar_ rfl (ab_ (o := 1) rfl Tryz.underlying207 rfl zs3 rfl)) rfl rfl rfl ?_ | refine aH_ (aa_ rfl) rfl rfl (ar_ rfl (ab_ (o := 2) rfl Tryz.underlying207 rfl zs3 rfl)) rfl rfl rfl ?_) | ((with_reducible refine bg_ ?_); refine wx_a0 (aa_ rfl) rfl (bh_ rfl Tryz.underlying49 zs3 zz3 rfl rfl) rfl rfl ?_) | ((with_reducible refine bw_ (f := 72) ?_); refine wx_ee (aa_ rfl) rfl rfl (aK_ rfl rfl (c72 _ _ _)) rfl rfl ?_)) | ((with_reducible refine bm_ ?_); refine aH_ (aa_ rfl) rfl rfl (ar_ rfl (aW_ rfl)) rfl rfl rfl ?_) | ((with_reducible refine aV_ ?_); ((with_reducible refine cq_ ?_); refine wx_e1 (aa_ rfl) rfl rfl rfl (aK_ rfl rfl (qf _ _ (Sl.ofAt (show At _ _ (.cells [.int .i64 (rngE fo 0 10000), .int .i64 (rngE wa 0 10000)] 3 1 false) from ah_) rfl (Nat.le_refl _)))) rfl rfl ?_)) | refine bU_ ?_ ?_ rfl rfl ?_) | with_reducible exact aP_ | with_reducible refine aJ_ ?_ ?_ | ((with_reducible refine bi_ ?_); first | exact aS_ | refine aQ_ rfl ?_ | refine am_ rfl rfl (ar_ rfl (az_ rfl Tryz.underlying3 rfl (ifo _ au_))) ?_ | refine am_ rfl rfl (ar_ rfl (az_ rfl Tryz.underlying3 rfl (iwa _ au_))) ?_) | with_reducible exact bV_ | with_reducible refine bE_ ?_ ?_ | ((with_reducible refine ck_ ?_); first | exact bW_ rfl rfl | exact bu_ rfl rfl aA_ gr_B) | refine ap_ ?_ | (refine aG_ rfl (fun hb => ?_) (fun hb => aw_ hb); (try simp only [aX_, reduceCtorEq] at hb)) | refine aF_ (id := 12) 15 [0, 0, 3, 7, 15, 31, 0, 0, 192, 448, 960, 2047, 4095, 8191, 16383] [0, 1, 2, 3, 4, 5, 6, 7, 8, 9, 10, 11, 12, 13, 14] (by kernel_rfl) (by kernel_rfl) rfl rfl ?_)
         exact rq1 rfl ⟨rfl, au_⟩
   · rw [if_pos hz, if_pos hz] at hi
     rw [← hi]
     repeat' (first | with_reducible refine ad_ ?_ | ((with_reducible refine ac_ ?_); first | ((with_reducible refine an_ ?_); refine aq_ (ag_ rfl rfl i1) ?_) | ((with_reducible refine al_ ?_); refine aq_ (az_ rfl Tryz.underlying9 rfl (inm _ au_)) ?_) | ((with_reducible refine av_ ?_); refine aq_ (ax_ rfl Tryz.underlying106) ?_) | ((with_reducible refine at_ ?_); refine aq_ (aK_ rfl rfl (q124 _)) ?_) | refine ao_ ?_) | refine ap_ ?_ | (refine aG_ rfl (fun hb => ?_) (fun hb => aw_ hb); (try simp only [aX_, reduceCtorEq] at hb)))
     exact rq1 rfl ⟨rfl, au_⟩
 · have hkn : k = n := by omega
   subst hkn
   rw [List.drop_eq_nil_of_le (by omega)] at hi
   rw [← hi]
   repeat' (first | with_reducible refine ad_ ?_ | ((with_reducible refine ac_ ?_); first | ((with_reducible refine av_ ?_); refine aq_ (ax_ rfl Tryz.underlying106) ?_) | refine ao_ ?_) | refine ap_ ?_ | (refine aG_ rfl (fun hb => aw_ hb) (fun hb => ?_); (try simp only [aX_, reduceCtorEq] at hb)))
   exact rq1 rfl ⟨rfl, au_⟩
def accL (l : List Rs) : List ByteArray := (l.filter fun r => decide (r.wa ≤ r.fo)).map fun r => r.nm
def othL (l : List Rs) : List ByteArray := (l.filter fun r => !decide (r.wa ≤ r.fo)).map fun r => r.nm
theorem acc_next {l : List Rs} {k : Nat} (hk : k < l.length) : accL (l.take (k + 1)) = if (l.getD k ⟨.empty, 0, 0⟩).wa ≤ (l.getD k ⟨.empty, 0, 0⟩).fo then accL (l.take k) ++ [(l.getD k ⟨.empty, 0, 0⟩).nm] else accL (l.take k) := by
 unfold accL
 rw [cf_ ⟨.empty, 0, 0⟩ hk, List.filter_append, List.map_append]
 generalize l.getD k ⟨.empty, 0, 0⟩ = r
 by_cases hc : r.wa ≤ r.fo
 · rw [if_pos hc]; simp [hc]
 · rw [if_neg hc, List.filter_cons_of_neg (by simpa using hc)]; simp
theorem oth_next {l : List Rs} {k : Nat} (hk : k < l.length) : othL (l.take (k + 1)) = if (l.getD k ⟨.empty, 0, 0⟩).wa ≤ (l.getD k ⟨.empty, 0, 0⟩).fo then othL (l.take k) else othL (l.take k) ++ [(l.getD k ⟨.empty, 0, 0⟩).nm] := by
 unfold othL
 rw [cf_ ⟨.empty, 0, 0⟩ hk, List.filter_append, List.map_append]
 generalize l.getD k ⟨.empty, 0, 0⟩ = r
 by_cases hc : r.wa ≤ r.fo
 · rw [if_pos hc, List.filter_cons_of_neg (by simpa using hc)]; simp
 · rw [if_neg hc, List.filter_cons_of_pos (by simpa using hc)]; rfl
theorem acc_cnt (l : List Rs) : (accL l).length + (othL l).length = l.length := by
 unfold accL othL
 rw [List.length_map, List.length_map]
 induction l with
 | nil => rfl
 | cons r l ih =>
   rw [List.filter_cons, List.filter_cons]
   by_cases hc : r.wa ≤ r.fo
   · simp [hc]; omega
   · simp [hc]; omega
theorem acc_le {l : List Rs} (k : Nat) : (accL (l.take k)).length + (othL (l.take k)).length ≤ k := by
 rw [acc_cnt, List.length_take]; omega
def Two (lo : Nat) (h : H) (v w : Value) (A O : List ByteArray) : Prop := OutG lo h v A.length (A.map Value.string) 9 1 ∧ OutG lo h w O.length (O.map Value.string) 9 1 ∧ ∀ e f n m, v = .slice (some ⟨e, 0, some 0⟩) n n → w = .slice (some ⟨f, 0, some 0⟩) m m → e ≠ f
theorem OutG.mk' {lo b n et w : Nat} {h : H} {c : List Value} (a : At h b (.cells c et w true)) (hlo : lo ≤ b) : OutG lo h (.slice (some ⟨b, 0, some 0⟩) n n) n c et w := .inr ⟨b, hlo, rfl, a⟩
theorem two_start {lo : Nat} {h : H} {l : List Rs} : Two lo h (.slice none 0 0) (.slice none 0 0) (accL (l.take 0)) (othL (l.take 0)) := ⟨.inl ⟨rfl, rfl, rfl⟩, .inl ⟨rfl, rfl, rfl⟩, fun _ _ _ _ q _ => by cases q⟩
attribute [local irreducible] accL othL
set_option maxHeartbeats 16000000 in
theorem c54 {v : Value} {n : Nat} {l : List Rs} (s : Sl G h 3 v n (l.flatMap Rs.cells)) (hl : l.length = n) (hn : n < 1000000) (hw : Wf h) : Cf (mz G) (.func (.func 54) #[] #[]) [v] h fun r h' => (∃ x y, r = .tuple #[x, y, .int .i64 (rssE l)] ∧ Two h.nx h' x y (if rssE l = 0 then accL l else []) (if rssE l = 0 then othL l else [])) ∧ Grow h h' := by
 have q64 := fun (h' : H) (g : Grow h h') (w' : Wf h') => c64 (s.grow g) hl hn w'
 obtain ⟨E, hE⟩ : ∃ E, rssE l = E := ⟨_, rfl⟩
 rw [hE] at q64 ⊢
 obtain ⟨a, c, rfl⟩ := s.form
 by_cases he : E = 0
 case neg =>
   rw [if_neg he, if_neg he]
   refine ak_ 36 [.tmp 2, .tmp 3, .tmp 4] Tryz.func54 rfl rfl rfl rfl ?_
   repeat' (first | with_reducible refine ad_ ?_ | ((with_reducible refine ac_ ?_); first | ((with_reducible refine at_ ?_); (refine as_ rfl rfl rfl rfl (q64 _ au_ aA_) rfl rfl ?_; rintro _ _ ⟨rfl, hq⟩; all_goals (try (have hqn := hq.nx); try simp only [aU_] at hqn))) | refine ao_ ?_) | refine ap_ ?_ | (refine aG_ rfl (fun hb => ?_) (fun hb => aw_ hb); (try simp only [aX_, reduceCtorEq] at hb)))
   exact rq3 rfl rfl rfl ⟨⟨_, _, rfl, .inl ⟨rfl, rfl, rfl⟩, .inl ⟨rfl, rfl, rfl⟩, fun _ _ _ _ q _ => by cases q⟩, au_⟩
 subst he
 rw [if_pos rfl, if_pos rfl]
 clear hE
 refine ak_ 36 [.tmp 2, .tmp 3, .tmp 4] Tryz.func54 rfl rfl rfl rfl ?_
 repeat' (first | with_reducible refine ad_ ?_ | ((with_reducible refine ac_ ?_); first | ((with_reducible refine av_ ?_); refine aq_ (ax_ rfl Tryz.underlying110) ?_) | ((with_reducible refine at_ ?_); (refine as_ rfl rfl rfl rfl (q64 _ au_ aA_) rfl rfl ?_; rintro _ _ ⟨rfl, hq⟩; all_goals (try (have hqn := hq.nx); try simp only [aU_] at hqn))) | refine ao_ ?_) | refine ap_ ?_)
 refine bo_ (fun p : Nat × Value × Value => n - p.1) (fun p => [(6, p.2.1), (7, p.2.2), (15, .slice a n c), (16, .int .i64 n), (17, .int .i64 (p.1 : Nat))]) (fun p h' => (Wf h' ∧ Grow h h') ∧ p.1 ≤ n ∧ Two h.nx h' p.2.1 p.2.2 (accL (l.take p.1)) (othL (l.take p.1))) (0, .slice none 0 0, .slice none 0 0) (af_ ⟨rfl, rfl, rfl, rfl, rfl, trivial⟩) ⟨⟨aA_, au_⟩, Nat.zero_le _, two_start⟩ ?_
 rintro ⟨k, v, w⟩ h1 ⟨⟨w1, g1⟩, hk, hv, hww, hvw⟩
 simp only at hk hv hww hvw ⊢
 have n1 := g1.nx
 by_cases hlt : k < n
 · obtain ⟨id, i1, i3⟩ := cw_ Rs.len ⟨.empty, 0, 0⟩ (s.grow g1) hl Tryz.underlying110 bR_ (i := (k : Int)) hlt rfl
   have a1 := acc_next (l := l) (k := k) (by omega)
   have o1 := oth_next (l := l) (k := k) (by omega)
   obtain ⟨t, ht⟩ : ∃ t, l.getD k ⟨.empty, 0, 0⟩ = t := ⟨_, rfl⟩
   rw [ht] at i3 a1 o1
   obtain ⟨nm, fo, wa⟩ := t
   dsimp only [Rs.cells] at i3
   dsimp only at a1 o1
   have ln1 := acc_le (l := l) k
   obtain ⟨A, hA⟩ : ∃ A, accL (l.take k) = A := ⟨_, rfl⟩
   obtain ⟨O, hO⟩ : ∃ O, othL (l.take k) = O := ⟨_, rfl⟩
   rw [hA, hO] at ln1
   rw [hA] at a1 hv
   rw [hO] at o1 hww
   have inm := fun (h' : H) (g' : Grow h1 h') => (show acell G h' (aadd id 0) = some (.string nm) from (i3 h' g').get 0 _ rfl)
   have ifo := fun (h' : H) (g' : Grow h1 h') => (show acell G h' (aadd id 1) = some (.int .i64 fo) from (i3 h' g').get 1 _ rfl)
   have iwa := fun (h' : H) (g' : Grow h1 h') => (show acell G h' (aadd id 2) = some (.int .i64 wa) from (i3 h' g').get 2 _ rfl)
   clear ht hA hO
   by_cases hc : wa ≤ fo
   · rw [if_pos hc] at a1 o1
     have e1 := a1
     have e2 := o1
     have q121 := fun (h' : H) (w' : Wf h') => c121 (G := G) (h := h') (nm := nm) (fo := fo) (wa := wa) w'
     rw [decide_eq_true hc] at q121
     rcases hv with ⟨rfl, hv1, _⟩ | ⟨e, he, rfl, hat⟩
     · have hA0 : A = [] := by simpa using hv1
       subst hA0
       clear hv1
       rcases hww with ⟨rfl, hw1, _⟩ | ⟨f, hf, rfl, haf⟩
       · have hO0 : O = [] := by simpa using hw1
         subst hO0
         clear hw1
         repeat' (first | with_reducible refine ad_ ?_ | ((with_reducible refine ac_ ?_); first | ((with_reducible refine an_ ?_); refine aq_ (ag_ rfl rfl i1) ?_) | ((with_reducible refine al_ ?_); first | refine aq_ (aN_ rfl Tryz.underlying208 rfl bR_ (i3 _ au_).all) ?_ | refine aq_ (aj_ rfl ah_ Tryz.underlying208 rfl bR_ rfl rfl) ?_ | refine aq_ (ae_ rfl ah_ Tryz.underlying9 rfl rfl) ?_) | ((with_reducible refine av_ ?_); refine aq_ (bl_ rfl rfl (bz_ (M := mz G) (st := 25) (xt := 25) (m := 1) Tryz.underlying25 Tryz.underlying25 rfl zs9 zb9 zz9 rfl (Sl.ofAt ah_ rfl (Nat.le_refl _)) rfl (by omega) (by omega))) ?_) | ((with_reducible refine ay_ ?_); refine bQ_ (aB_ rfl rfl ah_ bR_ rfl rfl rfl rfl) ?_) | ((with_reducible refine aE_ ?_); refine aq_ (aR_ rfl Tryz.underlying25 zs9 zz9 rfl rfl) ?_) | ((with_reducible refine at_ ?_); (refine as_ rfl rfl rfl rfl (q121 _ aA_) rfl rfl ?_; rintro _ _ ⟨rfl, hq⟩; all_goals (try (have hqn := hq.nx); try simp only [aU_] at hqn))) | refine ao_ ?_) | refine ap_ ?_ | (refine aG_ rfl (fun hb => ?_) (fun hb => aw_ hb); (try simp only [aX_, reduceCtorEq] at hb)))
         exact aI_ (k + 1, (.slice (some ⟨_, 0, some 0⟩) (0 + 1) (0 + 1)), (.slice none 0 0)) (by simp only; omega) (af_ ⟨rfl, rfl, rfl, rfl, rfl, trivial⟩) ⟨⟨aA_, au_⟩, by simp only; omega, by simp only; rw [e1, e2]; exact ⟨OutG.mk' (n := 1) ah_ (by first | omega | (simp only [H.nx_push, H.nx_set, H.nx_bump, H.nx_kill]; omega)), .inl ⟨rfl, rfl, rfl⟩, fun _ _ _ _ q1 q2 => by cases q2⟩⟩
       · have lf := haf.lt
         repeat' (first | with_reducible refine ad_ ?_ | ((with_reducible refine ac_ ?_); first | ((with_reducible refine an_ ?_); refine aq_ (ag_ rfl rfl i1) ?_) | ((with_reducible refine al_ ?_); first | refine aq_ (aN_ rfl Tryz.underlying208 rfl bR_ (i3 _ au_).all) ?_ | refine aq_ (aj_ rfl ah_ Tryz.underlying208 rfl bR_ rfl rfl) ?_ | refine aq_ (ae_ rfl ah_ Tryz.underlying9 rfl rfl) ?_) | ((with_reducible refine av_ ?_); refine aq_ (bl_ rfl rfl (bz_ (M := mz G) (st := 25) (xt := 25) (m := 1) Tryz.underlying25 Tryz.underlying25 rfl zs9 zb9 zz9 rfl (Sl.ofAt ah_ rfl (Nat.le_refl _)) rfl (by omega) (by omega))) ?_) | ((with_reducible refine ay_ ?_); refine bQ_ (aB_ rfl rfl ah_ bR_ rfl rfl rfl rfl) ?_) | ((with_reducible refine aE_ ?_); refine aq_ (aR_ rfl Tryz.underlying25 zs9 zz9 rfl rfl) ?_) | ((with_reducible refine at_ ?_); (refine as_ rfl rfl rfl rfl (q121 _ aA_) rfl rfl ?_; rintro _ _ ⟨rfl, hq⟩; all_goals (try (have hqn := hq.nx); try simp only [aU_] at hqn))) | refine ao_ ?_) | refine ap_ ?_ | (refine aG_ rfl (fun hb => ?_) (fun hb => aw_ hb); (try simp only [aX_, reduceCtorEq] at hb)))
         exact aI_ (k + 1, (.slice (some ⟨_, 0, some 0⟩) (0 + 1) (0 + 1)), (.slice (some ⟨f, 0, some 0⟩) O.length O.length)) (by simp only; omega) (af_ ⟨rfl, rfl, rfl, rfl, rfl, trivial⟩) ⟨⟨aA_, au_⟩, by simp only; omega, by simp only; rw [e1, e2]; exact ⟨OutG.mk' (n := 1) ah_ (by first | omega | (simp only [H.nx_push, H.nx_set, H.nx_bump, H.nx_kill]; omega)), .inr ⟨f, by omega, rfl, ah_⟩, fun _ _ _ _ q1 q2 => by cases q1; cases q2; first | omega | (simp only [H.nx_push, H.nx_set, H.nx_bump, H.nx_kill]; omega)⟩⟩
     · have le := hat.lt
       rcases hww with ⟨rfl, hw1, _⟩ | ⟨f, hf, rfl, haf⟩
       · have hO0 : O = [] := by simpa using hw1
         subst hO0
         clear hw1
         repeat' (first | with_reducible refine ad_ ?_ | ((with_reducible refine ac_ ?_); first | ((with_reducible refine an_ ?_); refine aq_ (ag_ rfl rfl i1) ?_) | ((with_reducible refine al_ ?_); first | refine aq_ (aN_ rfl Tryz.underlying208 rfl bR_ (i3 _ au_).all) ?_ | refine aq_ (aj_ rfl ah_ Tryz.underlying208 rfl bR_ rfl rfl) ?_ | refine aq_ (ae_ rfl ah_ Tryz.underlying9 rfl rfl) ?_) | ((with_reducible refine av_ ?_); refine aq_ (bl_ rfl rfl (br_ (M := mz G) (st := 25) (xt := 25) (m := 1) Tryz.underlying25 Tryz.underlying25 rfl zs9 zb9 zz9 rfl (Sl.ofAt ah_ rfl (Nat.le_refl _)) rfl (b := e) (c := A.map Value.string) ah_ (by simp) (by omega) (by omega))) ?_) | ((with_reducible refine ay_ ?_); refine bQ_ (aB_ rfl rfl ah_ bR_ rfl rfl rfl rfl) ?_) | ((with_reducible refine aE_ ?_); refine aq_ (aR_ rfl Tryz.underlying25 zs9 zz9 rfl rfl) ?_) | ((with_reducible refine at_ ?_); (refine as_ rfl rfl rfl rfl (q121 _ aA_) rfl rfl ?_; rintro _ _ ⟨rfl, hq⟩; all_goals (try (have hqn := hq.nx); try simp only [aU_] at hqn))) | refine ao_ ?_) | refine ap_ ?_ | (refine aG_ rfl (fun hb => ?_) (fun hb => aw_ hb); (try simp only [aX_, reduceCtorEq] at hb)))
         exact aI_ (k + 1, (.slice (some ⟨_, 0, some 0⟩) (A.length + 1) (A.length + 1)), (.slice none 0 0)) (by simp only; omega) (af_ ⟨rfl, rfl, rfl, rfl, rfl, trivial⟩) ⟨⟨aA_, au_⟩, by simp only; omega, by simp only; rw [e1, e2]; exact ⟨(by rw [List.length_append, List.map_append]; exact OutG.mk' (n := A.length + 1) ah_ (by first | omega | (simp only [H.nx_push, H.nx_set, H.nx_bump, H.nx_kill]; omega))), .inl ⟨rfl, rfl, rfl⟩, fun _ _ _ _ q1 q2 => by cases q2⟩⟩
       · have lf := haf.lt
         have hef := hvw e f _ _ rfl rfl
         repeat' (first | with_reducible refine ad_ ?_ | ((with_reducible refine ac_ ?_); first | ((with_reducible refine an_ ?_); refine aq_ (ag_ rfl rfl i1) ?_) | ((with_reducible refine al_ ?_); first | refine aq_ (aN_ rfl Tryz.underlying208 rfl bR_ (i3 _ au_).all) ?_ | refine aq_ (aj_ rfl ah_ Tryz.underlying208 rfl bR_ rfl rfl) ?_ | refine aq_ (ae_ rfl ah_ Tryz.underlying9 rfl rfl) ?_) | ((with_reducible refine av_ ?_); refine aq_ (bl_ rfl rfl (br_ (M := mz G) (st := 25) (xt := 25) (m := 1) Tryz.underlying25 Tryz.underlying25 rfl zs9 zb9 zz9 rfl (Sl.ofAt ah_ rfl (Nat.le_refl _)) rfl (b := e) (c := A.map Value.string) ah_ (by simp) (by omega) (by omega))) ?_) | ((with_reducible refine ay_ ?_); refine bQ_ (aB_ rfl rfl ah_ bR_ rfl rfl rfl rfl) ?_) | ((with_reducible refine aE_ ?_); refine aq_ (aR_ rfl Tryz.underlying25 zs9 zz9 rfl rfl) ?_) | ((with_reducible refine at_ ?_); (refine as_ rfl rfl rfl rfl (q121 _ aA_) rfl rfl ?_; rintro _ _ ⟨rfl, hq⟩; all_goals (try (have hqn := hq.nx); try simp only [aU_] at hqn))) | refine ao_ ?_) | refine ap_ ?_ | (refine aG_ rfl (fun hb => ?_) (fun hb => aw_ hb); (try simp only [aX_, reduceCtorEq] at hb)))
         exact aI_ (k + 1, (.slice (some ⟨_, 0, some 0⟩) (A.length + 1) (A.length + 1)), (.slice (some ⟨f, 0, some 0⟩) O.length O.length)) (by simp only; omega) (af_ ⟨rfl, rfl, rfl, rfl, rfl, trivial⟩) ⟨⟨aA_, au_⟩, by simp only; omega, by simp only; rw [e1, e2]; exact ⟨(by rw [List.length_append, List.map_append]; exact OutG.mk' (n := A.length + 1) ah_ (by first | omega | (simp only [H.nx_push, H.nx_set, H.nx_bump, H.nx_kill]; omega))), .inr ⟨f, by omega, rfl, ah_⟩, fun _ _ _ _ q1 q2 => by cases q1; cases q2; first | omega | (simp only [H.nx_push, H.nx_set, H.nx_bump, H.nx_kill]; omega)⟩⟩
   · rw [if_neg hc] at a1 o1
     have e1 := a1
     have e2 := o1
     have q121 := fun (h' : H) (w' : Wf h') => c121 (G := G) (h := h') (nm := nm) (fo := fo) (wa := wa) w'
     rw [decide_eq_false hc] at q121
     rcases hww with ⟨rfl, hw1, _⟩ | ⟨f, hf, rfl, haf⟩
     · have hO0 : O = [] := by simpa using hw1
       subst hO0
       clear hw1
       rcases hv with ⟨rfl, hv1, _⟩ | ⟨e, he, rfl, hat⟩
       · have hA0 : A = [] := by simpa using hv1
         subst hA0
         clear hv1
         repeat' (first | with_reducible refine ad_ ?_ | ((with_reducible refine ac_ ?_); first | ((with_reducible refine an_ ?_); refine aq_ (ag_ rfl rfl i1) ?_) | ((with_reducible refine al_ ?_); first | refine aq_ (aN_ rfl Tryz.underlying208 rfl bR_ (i3 _ au_).all) ?_ | refine aq_ (aj_ rfl ah_ Tryz.underlying208 rfl bR_ rfl rfl) ?_ | refine aq_ (ae_ rfl ah_ Tryz.underlying9 rfl rfl) ?_) | ((with_reducible refine av_ ?_); refine aq_ (bl_ rfl rfl (bz_ (M := mz G) (st := 25) (xt := 25) (m := 1) Tryz.underlying25 Tryz.underlying25 rfl zs9 zb9 zz9 rfl (Sl.ofAt ah_ rfl (Nat.le_refl _)) rfl (by omega) (by omega))) ?_) | ((with_reducible refine ay_ ?_); refine bQ_ (aB_ rfl rfl ah_ bR_ rfl rfl rfl rfl) ?_) | ((with_reducible refine aE_ ?_); refine aq_ (aR_ rfl Tryz.underlying25 zs9 zz9 rfl rfl) ?_) | ((with_reducible refine at_ ?_); (refine as_ rfl rfl rfl rfl (q121 _ aA_) rfl rfl ?_; rintro _ _ ⟨rfl, hq⟩; all_goals (try (have hqn := hq.nx); try simp only [aU_] at hqn))) | refine ao_ ?_) | refine ap_ ?_ | (refine aG_ rfl (fun hb => ?_) (fun hb => aw_ hb); (try simp only [aX_, reduceCtorEq] at hb)))
         exact aI_ (k + 1, (.slice none 0 0), (.slice (some ⟨_, 0, some 0⟩) (0 + 1) (0 + 1))) (by simp only; omega) (af_ ⟨rfl, rfl, rfl, rfl, rfl, trivial⟩) ⟨⟨aA_, au_⟩, by simp only; omega, by simp only; rw [e1, e2]; exact ⟨.inl ⟨rfl, rfl, rfl⟩, OutG.mk' (n := 1) ah_ (by first | omega | (simp only [H.nx_push, H.nx_set, H.nx_bump, H.nx_kill]; omega)), fun _ _ _ _ q1 q2 => by cases q1⟩⟩
       · have le := hat.lt
         repeat' (first | with_reducible refine ad_ ?_ | ((with_reducible refine ac_ ?_); first | ((with_reducible refine an_ ?_); refine aq_ (ag_ rfl rfl i1) ?_) | ((with_reducible refine al_ ?_); first | refine aq_ (aN_ rfl Tryz.underlying208 rfl bR_ (i3 _ au_).all) ?_ | refine aq_ (aj_ rfl ah_ Tryz.underlying208 rfl bR_ rfl rfl) ?_ | refine aq_ (ae_ rfl ah_ Tryz.underlying9 rfl rfl) ?_) | ((with_reducible refine av_ ?_); refine aq_ (bl_ rfl rfl (bz_ (M := mz G) (st := 25) (xt := 25) (m := 1) Tryz.underlying25 Tryz.underlying25 rfl zs9 zb9 zz9 rfl (Sl.ofAt ah_ rfl (Nat.le_refl _)) rfl (by omega) (by omega))) ?_) | ((with_reducible refine ay_ ?_); refine bQ_ (aB_ rfl rfl ah_ bR_ rfl rfl rfl rfl) ?_) | ((with_reducible refine aE_ ?_); refine aq_ (aR_ rfl Tryz.underlying25 zs9 zz9 rfl rfl) ?_) | ((with_reducible refine at_ ?_); (refine as_ rfl rfl rfl rfl (q121 _ aA_) rfl rfl ?_; rintro _ _ ⟨rfl, hq⟩; all_goals (try (have hqn := hq.nx); try simp only [aU_] at hqn))) | refine ao_ ?_) | refine ap_ ?_ | (refine aG_ rfl (fun hb => ?_) (fun hb => aw_ hb); (try simp only [aX_, reduceCtorEq] at hb)))
         exact aI_ (k + 1, (.slice (some ⟨e, 0, some 0⟩) A.length A.length), (.slice (some ⟨_, 0, some 0⟩) (0 + 1) (0 + 1))) (by simp only; omega) (af_ ⟨rfl, rfl, rfl, rfl, rfl, trivial⟩) ⟨⟨aA_, au_⟩, by simp only; omega, by simp only; rw [e1, e2]; exact ⟨.inr ⟨e, by omega, rfl, ah_⟩, OutG.mk' (n := 1) ah_ (by first | omega | (simp only [H.nx_push, H.nx_set, H.nx_bump, H.nx_kill]; omega)), fun _ _ _ _ q1 q2 => by cases q1; cases q2; first | omega | (simp only [H.nx_push, H.nx_set, H.nx_bump, H.nx_kill]; omega)⟩⟩
     · have lf := haf.lt
       rcases hv with ⟨rfl, hv1, _⟩ | ⟨e, he, rfl, hat⟩
       · have hA0 : A = [] := by simpa using hv1
         subst hA0
         clear hv1
         repeat' (first | with_reducible refine ad_ ?_ | ((with_reducible refine ac_ ?_); first | ((with_reducible refine an_ ?_); refine aq_ (ag_ rfl rfl i1) ?_) | ((with_reducible refine al_ ?_); first | refine aq_ (aN_ rfl Tryz.underlying208 rfl bR_ (i3 _ au_).all) ?_ | refine aq_ (aj_ rfl ah_ Tryz.underlying208 rfl bR_ rfl rfl) ?_ | refine aq_ (ae_ rfl ah_ Tryz.underlying9 rfl rfl) ?_) | ((with_reducible refine av_ ?_); refine aq_ (bl_ rfl rfl (br_ (M := mz G) (st := 25) (xt := 25) (m := 1) Tryz.underlying25 Tryz.underlying25 rfl zs9 zb9 zz9 rfl (Sl.ofAt ah_ rfl (Nat.le_refl _)) rfl (b := f) (c := O.map Value.string) ah_ (by simp) (by omega) (by omega))) ?_) | ((with_reducible refine ay_ ?_); refine bQ_ (aB_ rfl rfl ah_ bR_ rfl rfl rfl rfl) ?_) | ((with_reducible refine aE_ ?_); refine aq_ (aR_ rfl Tryz.underlying25 zs9 zz9 rfl rfl) ?_) | ((with_reducible refine at_ ?_); (refine as_ rfl rfl rfl rfl (q121 _ aA_) rfl rfl ?_; rintro _ _ ⟨rfl, hq⟩; all_goals (try (have hqn := hq.nx); try simp only [aU_] at hqn))) | refine ao_ ?_) | refine ap_ ?_ | (refine aG_ rfl (fun hb => ?_) (fun hb => aw_ hb); (try simp only [aX_, reduceCtorEq] at hb)))
         exact aI_ (k + 1, (.slice none 0 0), (.slice (some ⟨_, 0, some 0⟩) (O.length + 1) (O.length + 1))) (by simp only; omega) (af_ ⟨rfl, rfl, rfl, rfl, rfl, trivial⟩) ⟨⟨aA_, au_⟩, by simp only; omega, by simp only; rw [e1, e2]; exact ⟨.inl ⟨rfl, rfl, rfl⟩, (by rw [List.length_append, List.map_append]; exact OutG.mk' (n := O.length + 1) ah_ (by first | omega | (simp only [H.nx_push, H.nx_set, H.nx_bump, H.nx_kill]; omega))), fun _ _ _ _ q1 q2 => by cases q1⟩⟩
       · have le := hat.lt
         have hef := hvw e f _ _ rfl rfl
         repeat' (first | with_reducible refine ad_ ?_ | ((with_reducible refine ac_ ?_); first | ((with_reducible refine an_ ?_); refine aq_ (ag_ rfl rfl i1) ?_) | ((with_reducible refine al_ ?_); first | refine aq_ (aN_ rfl Tryz.underlying208 rfl bR_ (i3 _ au_).all) ?_ | refine aq_ (aj_ rfl ah_ Tryz.underlying208 rfl bR_ rfl rfl) ?_ | refine aq_ (ae_ rfl ah_ Tryz.underlying9 rfl rfl) ?_) | ((with_reducible refine av_ ?_); refine aq_ (bl_ rfl rfl (br_ (M := mz G) (st := 25) (xt := 25) (m := 1) Tryz.underlying25 Tryz.underlying25 rfl zs9 zb9 zz9 rfl (Sl.ofAt ah_ rfl (Nat.le_refl _)) rfl (b := f) (c := O.map Value.string) ah_ (by simp) (by omega) (by omega))) ?_) | ((with_reducible refine ay_ ?_); refine bQ_ (aB_ rfl rfl ah_ bR_ rfl rfl rfl rfl) ?_) | ((with_reducible refine aE_ ?_); refine aq_ (aR_ rfl Tryz.underlying25 zs9 zz9 rfl rfl) ?_) | ((with_reducible refine at_ ?_); (refine as_ rfl rfl rfl rfl (q121 _ aA_) rfl rfl ?_; rintro _ _ ⟨rfl, hq⟩; all_goals (try (have hqn := hq.nx); try simp only [aU_] at hqn))) | refine ao_ ?_) | refine ap_ ?_ | (refine aG_ rfl (fun hb => ?_) (fun hb => aw_ hb); (try simp only [aX_, reduceCtorEq] at hb)))
         exact aI_ (k + 1, (.slice (some ⟨e, 0, some 0⟩) A.length A.length), (.slice (some ⟨_, 0, some 0⟩) (O.length + 1) (O.length + 1))) (by simp only; omega) (af_ ⟨rfl, rfl, rfl, rfl, rfl, trivial⟩) ⟨⟨aA_, au_⟩, by simp only; omega, by simp only; rw [e1, e2]; exact ⟨.inr ⟨e, by omega, rfl, ah_⟩, (by rw [List.length_append, List.map_append]; exact OutG.mk' (n := O.length + 1) ah_ (by first | omega | (simp only [H.nx_push, H.nx_set, H.nx_bump, H.nx_kill]; omega))), fun _ _ _ _ q1 q2 => by cases q1; cases q2; first | omega | (simp only [H.nx_push, H.nx_set, H.nx_bump, H.nx_kill]; omega)⟩⟩
 · have hkn : k = n := by omega
   subst hkn
   rw [List.take_of_length_le (by omega)] at hv hww
   repeat' (first | with_reducible refine ad_ ?_ | ((with_reducible refine ac_ ?_); refine ao_ ?_) | refine ap_ ?_ | (refine aG_ rfl (fun hb => aw_ hb) (fun hb => ?_); (try simp only [aX_, reduceCtorEq] at hb)))
   exact rq3 rfl rfl rfl ⟨⟨_, _, rfl, hv, hww, hvw⟩, au_⟩
end Go.Proofs.YtlioomhcdlicmaaGreatDoor
