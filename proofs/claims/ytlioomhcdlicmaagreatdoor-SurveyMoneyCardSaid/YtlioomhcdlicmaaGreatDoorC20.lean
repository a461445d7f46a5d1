/- Survey: invoices tick by tick. -/
import Derived.Test.YtlioomhcdlicmaaGreatDoorC19
set_option linter.all false
/- Survey: ticks of entries one by one. -/
namespace Go.Proofs.YtlioomhcdlicmaaGreatDoor
open Go Go.Ab Go.Fl
attribute [local irreducible] SeqQ BlkQ LpQ RetQ Wc Wo WD WX Op1 Op1q Op1a Cf Cl From
attribute [local irreducible] Ieee.Format.order Ieee.Format.read Ieee.Format.nearest Ieee.Format.write Ieee.Format.mul Ieee.Format.div Ieee.Format.sqrt Ieee.Datum.order Ieee.Datum.integral K U rngE errN ptE firstNZ vesE watE sgE sgsE allE hitB sqD insB qsL lvl rn rl altB isNameB nmE foE clE accL othL rtE ctE
set_option maxRecDepth 10000
variable {G : Base} {h : H}
attribute [local irreducible] spE numM cauW cnum cauN enE hrK ensE rssE lowN lowD
theorem wc_rangeFunc2 {M : Mc} {f : Operand} {ps : Array Tmp} {assign body : Code} {sz : Nat} {l : KL} {h : H} {Q : X → KL → H → Prop} {fv : Value} (hf : val l f = some fv)
   (w : ∀ e lp, Has sz l e → lp = AObj.loop .ready none e ps assign body → Cf M fv [.func (.yield h.nx) #[] #[]] (h.push lp) fun _ h2 => RfQ h.nx l Q h2) : Wc M none (.rangeFunc f ps assign body) sz l h Q :=
 wc_rangeFunc hf fun e he => w e _ he rfl
def tkN (l : List En) (i : Nat) : Nat := ((l.getD i ⟨0, 0, .empty⟩).t - (l.getD i ⟨0, 0, .empty⟩).f).toNat
def cntK (l : List En) (i k : Nat) : List Int := addH (hrK l i) (cauN (l.getD i ⟨0, 0, .empty⟩).c).toNat (k : Int)
theorem cntK_len {l : List En} {i k : Nat} : (cntK l i k).length = 6 := by unfold cntK addH; rw [List.length_set]; exact hrK_len i
theorem cntK_zero {l : List En} {i : Nat} : cntK l i 0 = hrK l i := by
 unfold cntK addH
 generalize hrK l i = H
 generalize (cauN (l.getD i ⟨0, 0, .empty⟩).c).toNat = j
 apply List.ext_getElem?
 intro m
 rw [List.getElem?_set]
 split
 · rename_i q
   subst q
   split
   · rename_i q; rw [List.getD_eq_getElem?_getD, List.getElem?_eq_getElem q]; simp
   · rename_i q; rw [List.getElem?_eq_none (by omega)]
 · rfl
theorem cntK_end {l : List En} {i : Nat} (hi : i < l.length) (hv : ∀ e ∈ l, enE e = 0) : cntK l i (tkN l i) = hrK l (i + 1) := by
 have hm : l.getD i ⟨0, 0, .empty⟩ ∈ l := by simp [List.getD, List.getElem?_eq_getElem hi]
 obtain ⟨⟨a, b, c⟩, d⟩ := enE_ok (hv _ hm)
 rw [hrK_next hi]
 unfold cntK tkN
 rw [show (((((l.getD i ⟨0, 0, .empty⟩).t - (l.getD i ⟨0, 0, .empty⟩).f).toNat : Nat)) : Int) = (l.getD i ⟨0, 0, .empty⟩).t - (l.getD i ⟨0, 0, .empty⟩).f by omega]
theorem addH_two {H : List Int} {j : Nat} {a b : Int} (hl : j < H.length) : addH (addH H j a) j b = addH H j (a + b) := by
 unfold addH
 rw [List.set_set, List.getD_eq_getElem?_getD, List.getElem?_set_self hl, Option.getD_some, Int.add_assoc]
theorem cau_k0 : cauN ⟨⟨[115, 104, 111, 111, 116]⟩⟩ = 0 := by unfold cauN cauW; simp [cnum]
theorem cau_k1 : cauN ⟨⟨[116, 117, 114, 110]⟩⟩ = 1 := by unfold cauN cauW; simp [cnum]
theorem cau_k2 : cauN ⟨⟨[119, 101, 97, 116, 104, 101, 114]⟩⟩ = 2 := by unfold cauN cauW; simp [cnum]
theorem cau_k3 : cauN ⟨⟨[97, 110, 105, 109, 97, 108]⟩⟩ = 3 := by unfold cauN cauW; simp [cnum]
theorem cau_k4 : cauN ⟨⟨[103, 101, 97, 114]⟩⟩ = 4 := by unfold cauN cauW; simp [cnum]
theorem cau_k5 : cauN ⟨⟨[115, 104, 97, 114, 101]⟩⟩ = 5 := by unfold cauN cauW; simp [cnum]
theorem cauN_eq {s : ByteArray} : cauN s = if s = ⟨⟨[115, 104, 111, 111, 116]⟩⟩ then 0 else if s = ⟨⟨[116, 117, 114, 110]⟩⟩ then 1 else if s = ⟨⟨[119, 101, 97, 116, 104, 101, 114]⟩⟩ then 2 else if s = ⟨⟨[97, 110, 105, 109, 97, 108]⟩⟩ then 3 else if s = ⟨⟨[103, 101, 97, 114]⟩⟩ then 4 else if s = ⟨⟨[115, 104, 97, 114, 101]⟩⟩ then 5 else -1 := by
 unfold cauN cauW
 simp only [cnum]
 rfl
theorem cau_six {s : ByteArray} (h : 0 ≤ cauN s) : (s = ⟨⟨[115, 104, 111, 111, 116]⟩⟩ ∧ cauN s = 0) ∨ (s = ⟨⟨[116, 117, 114, 110]⟩⟩ ∧ cauN s = 1) ∨ (s = ⟨⟨[119, 101, 97, 116, 104, 101, 114]⟩⟩ ∧ cauN s = 2) ∨ (s = ⟨⟨[97, 110, 105, 109, 97, 108]⟩⟩ ∧ cauN s = 3) ∨ (s = ⟨⟨[103, 101, 97, 114]⟩⟩ ∧ cauN s = 4) ∨ (s = ⟨⟨[115, 104, 97, 114, 101]⟩⟩ ∧ cauN s = 5) := by
 rw [cauN_eq] at h
 by_cases e0 : s = ⟨⟨[115, 104, 111, 111, 116]⟩⟩
 · exact .inl ⟨e0, by rw [e0]; exact cau_k0⟩
 rw [if_neg e0] at h
 by_cases e1 : s = ⟨⟨[116, 117, 114, 110]⟩⟩
 · exact .inr (.inl ⟨e1, by rw [e1]; exact cau_k1⟩)
 rw [if_neg e1] at h
 by_cases e2 : s = ⟨⟨[119, 101, 97, 116, 104, 101, 114]⟩⟩
 · exact .inr (.inr (.inl ⟨e2, by rw [e2]; exact cau_k2⟩))
 rw [if_neg e2] at h
 by_cases e3 : s = ⟨⟨[97, 110, 105, 109, 97, 108]⟩⟩
 · exact .inr (.inr (.inr (.inl ⟨e3, by rw [e3]; exact cau_k3⟩)))
 rw [if_neg e3] at h
 by_cases e4 : s = ⟨⟨[103, 101, 97, 114]⟩⟩
 · exact .inr (.inr (.inr (.inr (.inl ⟨e4, by rw [e4]; exact cau_k4⟩))))
 rw [if_neg e4] at h
 by_cases e5 : s = ⟨⟨[115, 104, 97, 114, 101]⟩⟩
 · exact .inr (.inr (.inr (.inr (.inr (⟨e5, by rw [e5]; exact cau_k5⟩)))))
 rw [if_neg e5] at h
 omega
theorem cntK_next {l : List En} {i k : Nat} (hi : i < l.length) (hv : ∀ e ∈ l, enE e = 0) : cntK l i (k + 1) = addH (cntK l i k) (cauN (l.getD i ⟨0, 0, .empty⟩).c).toNat 1 := by
 have hm : l.getD i ⟨0, 0, .empty⟩ ∈ l := by simp [List.getD, List.getElem?_eq_getElem hi]
 obtain ⟨_, d⟩ := enE_ok (hv _ hm)
 have := cauN_lt (s := (l.getD i ⟨0, 0, .empty⟩).c)
 unfold cntK
 rw [addH_two (by rw [hrK_len]; omega)]
 rfl
theorem cntK_bd {l : List En} {i k : Nat} (hi : i < l.length) (hk : k ≤ tkN l i) (hv : ∀ e ∈ l, enE e = 0) (h64 : l.length ≤ 64) (m : Nat) : 0 ≤ (cntK l i k).getD m 0 ∧ (cntK l i k).getD m 0 ≤ 6400000 := by
 have hm : l.getD i ⟨0, 0, .empty⟩ ∈ l := by simp [List.getD, List.getElem?_eq_getElem hi]
 obtain ⟨⟨a, b, c⟩, d⟩ := enE_ok (hv _ hm)
 have b1 := hrK_bd hv i
 unfold tkN at hk
 have hk : (k : Int) ≤ (l.getD i ⟨0, 0, .empty⟩).t - (l.getD i ⟨0, 0, .empty⟩).f := by omega
 unfold cntK addH
 generalize (cauN (l.getD i ⟨0, 0, .empty⟩).c).toNat = j
 rw [List.getD_eq_getElem?_getD, List.getElem?_set]
 split
 · rename_i q
   subst q
   split
   · have := b1 j
     simp only [Option.getD_some]
     omega
   · simp
 · have := b1 m
   rw [List.getD_eq_getElem?_getD] at this
   omega
@[reducible] def tcF (B : Nat) : Value := .func (.func 167) #[] #[.pointer (some ⟨B, 0, some 0⟩)]
theorem c123 {a : Option Addr} {n c : Nat} : Cf (mz G) (.func (.func 123) #[] #[]) [.slice a n c] h fun r h' => r = tcF h.nx ∧ h' = h.push (.cells [.slice a n c] 85 1 false) := by
 refine ak_ 4 [.tmp 2] Tryz.func123 rfl rfl rfl rfl ?_
 repeat' (first | with_reducible refine ad_ ?_ | ((with_reducible refine ac_ ?_); first | ((with_reducible refine cE_ ?_); refine aq_ (co_ (fun _ q => by cases q) rfl rfl) ?_) | ((with_reducible refine cF_ ?_); refine aq_ (op_box1 rfl rfl zs85) ?_) | refine ao_ ?_) | refine ap_ ?_)
 exact rq1 rfl ⟨rfl, rfl⟩
def LaterA (N : Nat) (g g' : H) : Prop := ∀ b o, N ≤ b → At g b o → At g' b o
set_option maxHeartbeats 8000000 in
theorem c167 {Y B N n c : Nat} {a : Option Addr} {l : List En} (J : Nat → Nat → H → Prop) (hl : l.length = n) (hn : n ≤ 64) (hv : ∀ e ∈ l, enE e = 0)
   (hB : ∀ i k g, J i k g → At g B (.cells [.slice a n c] 85 1 false) ∧ Sl G g 3 (.slice a n c) n (l.flatMap En.cells) ∧ N ≤ g.nx ∧ Wf g)
   (hst : ∀ i k g g', J i k g → Grow g g' → Wf g' → J i k g')
   (hr : ∀ i g, i < n → J i (tkN l i) g → J (i + 1) 0 g)
   (hy : ∀ i k g, i < n → k < tkN l i → J i k g → Cf (mz G) (.func (.yield Y) #[] #[]) [.string (l.getD i ⟨0, 0, .empty⟩).c] g fun v g' => v = .bool true ∧ J i (k + 1) g' ∧ LaterA N g g')
   (h0 : J 0 0 h) : Cf (mz G) (tcF B) [.func (.yield Y) #[] #[]] h fun _ g => J n 0 g := by
 obtain ⟨e1, sl, e2, e3⟩ := hB 0 0 h h0
 refine ch_ (sz := 27) (rs := []) (all := [.func (.yield Y) #[] #[], .pointer (some ⟨B, 0, some 0⟩)]) Tryz.func167 rfl rfl rfl rfl rfl ?_
 repeat' (first | with_reducible refine ad_ ?_ | ((with_reducible refine ac_ ?_); first | ((with_reducible refine al_ ?_); refine aq_ (ae_ rfl ah_ Tryz.underlying85 rfl rfl) ?_) | ((with_reducible refine av_ ?_); refine aq_ (ax_ rfl Tryz.underlying85) ?_) | refine ao_ ?_) | refine ap_ ?_)
 refine bo_ (fun i => n - i) (fun i : Nat => [(0, .func (.yield Y) #[] #[]), (1, .pointer (some ⟨B, 0, some 0⟩)), (5, .slice a n c), (6, .int .i64 n), (7, .int .i64 i)]) (fun i g => i ≤ n ∧ J i 0 g) 0 (af_ ⟨rfl, rfl, rfl, rfl, rfl, trivial⟩) ⟨Nat.zero_le _, h0⟩ ?_
 clear e1 e2 e3 sl
 rintro i g ⟨hi, hJ⟩
 obtain ⟨e1, sl, e2, e3⟩ := hB i 0 g hJ
 have lB := e1.lt
 by_cases hlt : i < n
 · obtain ⟨id, i1, i3⟩ := cw_ En.len ⟨0, 0, .empty⟩ sl hl Tryz.underlying85 bt_ (i := (i : Int)) hlt rfl
   have hm : l.getD i ⟨0, 0, .empty⟩ ∈ l := by simp [List.getD, List.getElem?_eq_getElem (show i < l.length by omega)]
   obtain ⟨⟨v1, v2, v3⟩, v4⟩ := enE_ok (hv _ hm)
   have hr1 := hr i
   have hy1 := hy i
   have ht : tkN l i = ((l.getD i ⟨0, 0, .empty⟩).t - (l.getD i ⟨0, 0, .empty⟩).f).toNat := rfl
   obtain ⟨T, hT⟩ : ∃ T, tkN l i = T := ⟨_, rfl⟩
   rw [hT] at hr1 hy1 ht
   obtain ⟨x0, hx⟩ : ∃ x, l.getD i ⟨0, 0, .empty⟩ = x := ⟨_, rfl⟩
   rw [hx] at i3 hy1 v1 v2 v3 ht
   clear hx hT hm v4
   obtain ⟨f, t, cz⟩ := x0
   dsimp only [En.cells] at i3
   dsimp only at hy1 v1 v2 v3 ht
   have hJ' := fun g' (gr : Grow g g') (w : Wf g') => hst i 0 g g' hJ gr w
   have htT : t - f = (T : Int) := by omega
   have hTb : T ≤ 100000 := by omega
   repeat' (first | with_reducible refine ad_ ?_ | ((with_reducible refine ac_ ?_); first | ((with_reducible refine an_ ?_); refine aq_ (ag_ rfl rfl i1) ?_) | ((with_reducible refine al_ ?_); first | refine aq_ (aN_ rfl Tryz.underlying133 rfl bt_ (i3 _ au_).all) ?_ | refine aq_ (ae_ (b := g.nx) (off := 1) rfl ah_ Tryz.underlying3 rfl rfl) ?_ | refine aq_ (ae_ (b := g.nx) (off := 0) rfl ah_ Tryz.underlying3 rfl rfl) ?_) | ((with_reducible refine bG_ ?_); refine aq_ (op_subE rfl rfl htT (by omega)) ?_) | ((with_reducible refine ay_ ?_); refine bQ_ (aB_ rfl rfl ah_ bt_ rfl rfl rfl rfl) ?_) | refine ao_ ?_) | refine ap_ ?_ | (refine aG_ rfl (fun hb => ?_) (fun hb => aw_ hb); (try simp only [aX_, reduceCtorEq] at hb)))
   refine wc_cut (ι := Nat) (fun b => [(0, .func (.yield Y) #[] #[]), (1, .pointer (some ⟨B, 0, some 0⟩)), (4, .pointer (some ⟨b, 0, some 0⟩)), (5, .slice a n c), (6, .int .i64 n), (7, .int .i64 i), (17, .int .i64 (T : Nat)), (18, .int .i64 0)]) (fun b g' => N ≤ b ∧ J i 0 g' ∧ At g' b (.cells [.int .i64 f, .int .i64 t, .string cz] 133 3 false)) g.nx (af_ ⟨rfl, rfl, rfl, rfl, rfl, rfl, rfl, rfl, trivial⟩) (by refine ⟨e2, hJ' _ au_ aA_, ?_⟩; show At _ g.nx _; exact ah_) ?_
   clear hJ' hJ e1 e2 e3 lB sl i1 i3 htT ht
   rintro b4 g1 ⟨z1, hJ1, a4⟩
   refine bo_ (fun k => T - k) (fun k : Nat => [(0, .func (.yield Y) #[] #[]), (1, .pointer (some ⟨B, 0, some 0⟩)), (4, .pointer (some ⟨b4, 0, some 0⟩)), (5, .slice a n c), (6, .int .i64 n), (7, .int .i64 i), (17, .int .i64 (T : Nat)), (18, .int .i64 k)]) (fun k g => k ≤ T ∧ J i k g ∧ At g b4 (.cells [.int .i64 f, .int .i64 t, .string cz] 133 3 false)) 0 (af_ ⟨rfl, rfl, rfl, rfl, rfl, rfl, rfl, rfl, trivial⟩) ⟨Nat.zero_le _, hJ1, a4⟩ ?_
   clear hJ1 a4
   rintro k g2 ⟨hk, hJ2, a4⟩
   obtain ⟨e1, sl, e2, e3⟩ := hB i k g2 hJ2
   have lB := e1.lt
   have l4 := a4.lt
   by_cases hkc : k < T
   · have hyk := fun g' (gr : Grow g2 g') (w : Wf g') => hy1 k g' hlt hkc (hst i k g2 g' hJ2 gr w)
     repeat' (first | with_reducible refine ad_ ?_ | ((with_reducible refine ac_ ?_); first | ((with_reducible refine al_ ?_); refine aq_ (ae_ (b := b4) (off := 2) rfl ah_ Tryz.underlying9 rfl rfl) ?_) | ((with_reducible refine at_ ?_); (refine as_ rfl rfl rfl rfl ((hyk _ au_ aA_)) rfl rfl ?_; rintro _ _ ⟨rfl, hj, hla⟩; all_goals (try (have hqn := hq.nx); try simp only [aU_] at hqn))) | refine ao_ ?_) | refine ap_ ?_ | (refine aG_ rfl (fun hb => ?_) (fun hb => aw_ hb); (try simp only [aX_, reduceCtorEq] at hb)))
     exact aI_ (k + 1) (by omega) (af_ ⟨rfl, rfl, rfl, rfl, rfl, rfl, rfl, rfl, trivial⟩) ⟨by omega, hj, hla _ _ z1 ah_⟩
   · have hke : k = T := by omega
     subst hke
     repeat' (first | with_reducible refine ad_ ?_ | ((with_reducible refine ac_ ?_); refine ao_ ?_) | refine ap_ ?_ | (refine aG_ rfl (fun hb => aw_ hb) (fun hb => ?_); (try simp only [aX_, reduceCtorEq] at hb)))
     exact aI_ (i + 1) (by omega) (af_ ⟨rfl, rfl, rfl, rfl, rfl, trivial⟩) ⟨by omega, hr1 _ hlt hJ2⟩
 · have hkn : i = n := by omega
   subst hkn
   repeat' (first | with_reducible refine ad_ ?_ | ((with_reducible refine ac_ ?_); ((with_reducible refine bG_ ?_); refine aq_ (cI_ rfl rfl) ?_)) | refine ap_ ?_ | (refine aG_ rfl (fun hb => aw_ hb) (fun hb => ?_); (try simp only [aX_, reduceCtorEq] at hb)))
   exact rq0n hJ
/- Survey: invoices tick by tick. -/
theorem cn_ {M : Mc} {l : KL} {h : H} {t : TypeId} {x y : Operand} {ty : TypeId} {A B v : Int} (hx : val l x = some (.int .i64 A)) (hy : val l y = some (.int .i64 B)) (hv : A + B = v) (h1 : -1000000000000 ≤ v ∧ v ≤ 1000000000000) : Op1 M (.binOp .add t x y ty) l h (.int .i64 v) h :=
 op_add' hx hy (by rw [hv]; exact w64 (by omega) (by omega))
theorem wx_e03 {M : Mc} {ops : Array Oper} {rest : List Oper} {sz nx0 : Nat} {R : KL → H → Prop} {m i abs j1 j2 j3 : Nat} {o1 o2 o3 : AObj} {ms ix es' : List Nat} {l : KL} {g g1 : H} {v : Value} {sts : List Stage} {obs : List OB} {o : Oper} (hw : Wt ops o sz l true) (hc : cls M.P o.op = .e) (hes : ((es'.all fun x => m.testBit x) && Nat.beq (m ||| abs) m) = true) (h1 : unseen m abs j1 = true) (h2 : unseen m abs j2 = true) (h3 : unseen m abs j3 = true) (hop : Op1 M o.op l (((g.set (nx0 + j1) o1).set (nx0 + j2) o2).set (nx0 + j3) o3) v g1) (hdo : o.dst = none)
   (next : WX M ops nx0 sz R rest ms ix l g1 m (i :: es') [(j1, o1), (j2, o2), (j3, o3)] (⟨g, abs, some i⟩ :: sts) obs) : WX M ops nx0 sz R (o :: rest) (m :: ms) (i :: ix) l g abs es' [(j1, o1), (j2, o2), (j3, o3)] sts obs := wx_e0 hw hc hes (by simp only [addAs, h1, h2, h3]) hop hdo next
def outC (H : List Int) (c0 c1 c2 c3 c4 c5 c6 : Int) : List Value := [.int .i64 (H.getD 0 0 * c0), .int .i64 (H.getD 1 0 * c1), .int .i64 (max (H.getD 2 0 - c6) 0 * c2), .int .i64 (H.getD 3 0 * c3), .int .i64 (H.getD 4 0 * c4), .int .i64 (H.getD 5 0 * c5), .int .i64 0, .int .i64 0]
def freeI (H : List Int) (c6 : Int) : Int := max (c6 - H.getD 2 0) 0
theorem outC_eq {z0 z1 z2 z3 z4 z5 c0 c1 c2 c3 c4 c5 c6 : Int} : outC [z0, z1, z2, z3, z4, z5] c0 c1 c2 c3 c4 c5 c6 = [.int .i64 (z0 * c0), .int .i64 (z1 * c1), .int .i64 (max (z2 - c6) 0 * c2), .int .i64 (z3 * c3), .int .i64 (z4 * c4), .int .i64 (z5 * c5), .int .i64 0, .int .i64 0] := rfl
theorem freeI_eq {z0 z1 z2 z3 z4 z5 c6 : Int} : freeI [z0, z1, z2, z3, z4, z5] c6 = max (c6 - z2) 0 := rfl
theorem suc_mul {a b y : Int} (hh : a * b = y) : (a + 1) * b = y + b := by rw [Int.add_mul, Int.one_mul, hh]
attribute [local irreducible] outC freeI cntK
theorem lin_bd {a b : Nat} {c7 c8 : Int} (h1 : a ≤ 64) (h2 : b ≤ 64) (h3 : 0 ≤ c7 ∧ c7 ≤ 10000) (h4 : 0 ≤ c8 ∧ c8 ≤ 10000) : -128000000000 ≤ (a : Int) * c7 - (b : Int) * c8 ∧ (a : Int) * c7 - (b : Int) * c8 ≤ 128000000000 := by
 have m7 := cg_ (a := (a : Int)) (b := c7) (by omega) (by omega)
 have m8 := cg_ (a := (b : Int)) (b := c8) (by omega) (by omega)
 omega
set_option maxHeartbeats 64000000 in
theorem c57 {c0 c1 c2 c3 c4 c5 c6 c7 c8 : Int} {va ra : Option Addr} {n vc m rc : Nat} {l : List En} {rs : List Rs} (s : Sl G h 3 (.slice va n vc) n (l.flatMap En.cells)) (hl : l.length = n) (hn : n < 1000000) (sr : Sl G h 3 (.slice ra m rc) m (rs.flatMap Rs.cells)) (hrl : rs.length = m) (hm : m < 1000000) (hw : Wf h) : Cf (mz G) (.func (.func 57) #[] #[]) [.agg ⟨[.int .i64 c0, .int .i64 c1, .int .i64 c2, .int .i64 c3, .int .i64 c4, .int .i64 c5, .int .i64 c6, .int .i64 c7, .int .i64 c8]⟩, .slice va n vc, .slice ra m rc] h fun r h' => r = .tuple #[.agg ⟨bilC c0 c1 c2 c3 c4 c5 c6 c7 c8 l rs⟩, .int .i64 (bilE c0 c1 c2 c3 c4 c5 c6 c7 c8 l rs)] ∧ Grow h h' := by
 have q62 := fun (h' : H) (w' : Wf h') => c62 (G := G) (h := h') (c0 := c0) (c1 := c1) (c2 := c2) (c3 := c3) (c4 := c4) (c5 := c5) (c6 := c6) (c7 := c7) (c8 := c8) w'
 have q49 := fun (h' : H) (g : Grow h h') (w' : Wf h') => c49 (s.grow g) hl hn w'
 have q64 := fun (h' : H) (g : Grow h h') (w' : Wf h') => c64 (sr.grow g) hrl hm w'
 have qf := fun (h' : H) (v : Value) (s : Sl G h' 1 v 3 ([ctE c0 c1 c2 c3 c4 c5 c6 c7 c8, ensE l, rssE rs].map (.int .i64))) => c93 s (by omega)
 rw [show firstNZ [ctE c0 c1 c2 c3 c4 c5 c6 c7 c8, ensE l, rssE rs] = bilE c0 c1 c2 c3 c4 c5 c6 c7 c8 l rs from by unfold bilE; rfl] at qf
 by_cases hE : bilE c0 c1 c2 c3 c4 c5 c6 c7 c8 l rs = 0
 case neg =>
   have hb0 : bilC c0 c1 c2 c3 c4 c5 c6 c7 c8 l rs = [.int .i64 0, .int .i64 0, .int .i64 0, .int .i64 0, .int .i64 0, .int .i64 0, .int .i64 0, .int .i64 0] := by unfold bilC; rw [if_neg hE]
   rw [hb0]
   clear hb0
   generalize bilE c0 c1 c2 c3 c4 c5 c6 c7 c8 l rs = Y at hE qf ⊢
   generalize ctE c0 c1 c2 c3 c4 c5 c6 c7 c8 = A at q62 qf
   generalize ensE l = B at q49 qf
   generalize rssE rs = C at q64 qf
   refine ak_ 83 [.cell 6 29, .tmp 7] Tryz.func57 rfl rfl rfl rfl ?_
   repeat' (first | with_reducible refine ad_ ?_ | ((with_reducible refine ac_ ?_); first | ((with_reducible refine al_ ?_); refine aq_ (aj_ rfl ah_ Tryz.underlying114 rfl cs_ rfl rfl) ?_) | ((with_reducible refine aE_ ?_); refine aq_ (aR_ rfl Tryz.underlying238 zs26 zz26 rfl rfl) ?_) | ((with_reducible refine ay_ ?_); refine bQ_ (aB_ rfl rfl ah_ zs29 rfl rfl rfl rfl) ?_) | ((with_reducible refine at_ ?_); first | refine aq_ (aK_ rfl rfl (qf _ _ (Sl.ofAt (show At _ _ (.cells [.int .i64 A, .int .i64 B, .int .i64 C] 26 1 false) from ah_) rfl (Nat.le_refl _)))) ?_ | (refine as_ rfl rfl rfl rfl (q62 _ aA_) rfl rfl ?_; rintro _ _ ⟨rfl, hq⟩; all_goals (try (have hqn := hq.nx); try simp only [aU_] at hqn)) | (refine as_ rfl rfl rfl rfl (q49 _ au_ aA_) rfl rfl ?_; rintro _ _ ⟨rfl, hq⟩; all_goals (try (have hqn := hq.nx); try simp only [aU_] at hqn)) | (refine as_ rfl rfl rfl rfl (q64 _ au_ aA_) rfl rfl ?_; rintro _ _ ⟨rfl, hq⟩; all_goals (try (have hqn := hq.nx); try simp only [aU_] at hqn))) | refine ao_ ?_) | refine ap_ ?_ | (refine aG_ rfl (fun hb => ?_) (fun hb => aw_ hb); (try simp only [aX_, reduceCtorEq] at hb)))
   exact rqc2 rfl (ldAgg ah_ Tryz.underlying29 rfl zs29 rfl rfl) rfl ⟨rfl, au_⟩
 have hz0 : ∀ x ∈ [ctE c0 c1 c2 c3 c4 c5 c6 c7 c8, ensE l, rssE rs], x = 0 := by unfold bilE at hE; exact bX_ hE
 have hc : ctE c0 c1 c2 c3 c4 c5 c6 c7 c8 = 0 := hz0 _ (by simp)
 have he : ensE l = 0 := hz0 _ (by simp)
 have hr : rssE rs = 0 := hz0 _ (by simp)
 have hBC : bilC c0 c1 c2 c3 c4 c5 c6 c7 c8 l rs = (bilL (hrK l l.length) c0 c1 c2 c3 c4 c5 c6 c7 c8 (accL rs).length (othL rs).length).map (.int .i64) := by unfold bilC; rw [if_pos hE]
 rw [hBC, hE]
 rw [hE] at qf
 rw [hc] at q62 qf
 rw [he] at q49 qf
 rw [hr] at q64 qf
 obtain ⟨h64, hv⟩ := ens_ok he
 obtain ⟨⟨r0, s0⟩, ⟨r1, s1⟩, ⟨r2, s2⟩, ⟨r3, s3⟩, ⟨r4, s4⟩, ⟨r5, s5⟩, ⟨r6, s6⟩, ⟨r7, s7⟩, r8, s8⟩ := ct_ok hc
 have h64r := rss_len hr
 have q109 := fun (h' : H) (w' : Wf h') => c109v (G := G) (h := h') w'
 have q116 := fun (h' : H) (w' : Wf h') => (c116 (G := G) (h := h') w').mono (Q' := fun r h2 => (∃ b, r = .map (some b) ∧ h'.nx ≤ b ∧ b < h2.nx ∧ At h2 b (.map numM)) ∧ Grow h' h2) (fun r h2 ⟨e1, e2, e3⟩ => ⟨⟨_, e1, Nat.le_refl _, e2.lt, e2⟩, e3⟩)
 have qr0 := fun (h' : H) (w' : Wf h') => c156 (G := G) (h := h') (c0 := c0) (c1 := c1) (c2 := c2) (c3 := c3) (c4 := c4) (c5 := c5) (c6 := c6) (c7 := c7) (c8 := c8) w'
 have qr1 := fun (h' : H) (w' : Wf h') => c157 (G := G) (h := h') (c0 := c0) (c1 := c1) (c2 := c2) (c3 := c3) (c4 := c4) (c5 := c5) (c6 := c6) (c7 := c7) (c8 := c8) w'
 have qr2 := fun (h' : H) (w' : Wf h') => c158 (G := G) (h := h') (c0 := c0) (c1 := c1) (c2 := c2) (c3 := c3) (c4 := c4) (c5 := c5) (c6 := c6) (c7 := c7) (c8 := c8) w'
 have qr3 := fun (h' : H) (w' : Wf h') => c159 (G := G) (h := h') (c0 := c0) (c1 := c1) (c2 := c2) (c3 := c3) (c4 := c4) (c5 := c5) (c6 := c6) (c7 := c7) (c8 := c8) w'
 have qr4 := fun (h' : H) (w' : Wf h') => c160 (G := G) (h := h') (c0 := c0) (c1 := c1) (c2 := c2) (c3 := c3) (c4 := c4) (c5 := c5) (c6 := c6) (c7 := c7) (c8 := c8) w'
 have qr5 := fun (h' : H) (w' : Wf h') => c161 (G := G) (h := h') (c0 := c0) (c1 := c1) (c2 := c2) (c3 := c3) (c4 := c4) (c5 := c5) (c6 := c6) (c7 := c7) (c8 := c8) w'
 clear hz0 hBC hE hc he hr
 refine ak_ 83 [.cell 6 29, .tmp 7] Tryz.func57 rfl rfl rfl rfl ?_
 refine bq_ (ι := Unit) (fun _ => [(1, .slice va n vc), (2, .slice ra m rc), (3, .pointer (some ⟨h.nx, 0, some 0⟩)), (6, .pointer (some ⟨h.nx + 1, 0, some 0⟩))]) (fun _ h' => (Wf h' ∧ Grow h h') ∧ At h' h.nx (.cells [.int .i64 c0, .int .i64 c1, .int .i64 c2, .int .i64 c3, .int .i64 c4, .int .i64 c5, .int .i64 c6, .int .i64 c7, .int .i64 c8] 114 9 false) ∧ At h' (h.nx + 1) (.cells [.int .i64 0, .int .i64 0, .int .i64 0, .int .i64 0, .int .i64 0, .int .i64 0, .int .i64 0, .int .i64 0] 29 8 false)) ?_ ?_
 · clear qr0 qr1 qr2 qr3 qr4 qr5
   repeat' (first | with_reducible refine ad_ ?_ | ((with_reducible refine ac_ ?_); refine ao_ ?_) | with_reducible refine bk_ ?_)
   exact ⟨rfl, (), af_ ⟨rfl, rfl, rfl, rfl, trivial⟩, ⟨aA_, au_⟩, ah_, ah_⟩
 rintro _ h1 ⟨⟨w1, g1⟩, aC, aI⟩
 refine bq_ (ι := Unit) (fun _ => [(1, .slice va n vc), (2, .slice ra m rc), (3, .pointer (some ⟨h.nx, 0, some 0⟩)), (6, .pointer (some ⟨h.nx + 1, 0, some 0⟩))]) (fun _ h' => Wf h' ∧ Grow h1 h') ?_ ?_
 · clear qr0 qr1 qr2 qr3 qr4 qr5
   have lC := aC.lt
   have n1 := g1.nx
   repeat' (first | with_reducible refine ad_ ?_ | ((with_reducible refine ac_ ?_); first | ((with_reducible refine al_ ?_); refine aq_ (aj_ rfl ah_ Tryz.underlying114 rfl cs_ rfl rfl) ?_) | ((with_reducible refine aE_ ?_); refine aq_ (aR_ rfl Tryz.underlying238 zs26 zz26 rfl rfl) ?_) | ((with_reducible refine at_ ?_); first | refine aq_ (aK_ rfl rfl (qf _ _ (Sl.ofAt (show At _ _ (.cells [.int .i64 0, .int .i64 0, .int .i64 0] 26 1 false) from ah_) rfl (Nat.le_refl _)))) ?_ | (refine as_ rfl rfl rfl rfl (q62 _ aA_) rfl rfl ?_; rintro _ _ ⟨rfl, hq⟩; all_goals (try (have hqn := hq.nx); try simp only [aU_] at hqn)) | (refine as_ rfl rfl rfl rfl (q49 _ (g1.trans au_) aA_) rfl rfl ?_; rintro _ _ ⟨rfl, hq⟩; all_goals (try (have hqn := hq.nx); try simp only [aU_] at hqn)) | (refine as_ rfl rfl rfl rfl (q64 _ (g1.trans au_) aA_) rfl rfl ?_; rintro _ _ ⟨rfl, hq⟩; all_goals (try (have hqn := hq.nx); try simp only [aU_] at hqn))) | refine ao_ ?_) | refine ap_ ?_)
   exact ⟨rfl, (), af_ ⟨rfl, rfl, rfl, rfl, trivial⟩, aA_, au_⟩
 clear w1 q62 q49 q64 qf
 rintro _ h2 ⟨w1, g2⟩
 have aC := aC.grow g2
 have aI := aI.grow g2
 have g1 := g1.trans g2
 clear g2
 have lC0 := aC.lt
 have lI0 := aI.lt
 have n0 := g1.nx
 refine bq_ (ι := Nat) (fun b9 => [(1, .slice va n vc), (2, .slice ra m rc), (3, .pointer (some ⟨h.nx, 0, some 0⟩)), (6, .pointer (some ⟨h.nx + 1, 0, some 0⟩)), (9, .pointer (some ⟨b9, 0, some 0⟩))]) (fun b9 h' => (Wf h' ∧ Grow h2 h') ∧ h2.nx ≤ b9 ∧ At h' b9 (.cells [.int .i64 0, .int .i64 0, .int .i64 0, .int .i64 0, .int .i64 0, .int .i64 0, .int .i64 0, .int .i64 0] 29 8 false)) ?_ ?_
 · repeat' (first | with_reducible refine ad_ ?_ | ((with_reducible refine ac_ ?_); ((with_reducible refine bL_ ?_); refine aq_ (bP_ zz29 zs29 rfl rfl rfl) ?_)) | with_reducible refine bk_ ?_)
   exact ⟨rfl, h2.nx, af_ ⟨rfl, rfl, rfl, rfl, rfl, trivial⟩, ⟨aA_, au_⟩, Nat.le_refl _, ah_⟩
 clear w1
 rintro b9 h3 ⟨⟨w1, g2⟩, hb9, a9⟩
 have aC := aC.grow g2
 have aI := aI.grow g2
 have g1 := g1.trans g2
 have lb9 := a9.lt
 have n2 := g2.nx
 clear g2
 refine bq_ (ι := Nat × Nat × Nat × Nat) (fun b => [(1, .slice va n vc), (2, .slice ra m rc), (3, .pointer (some ⟨h.nx, 0, some 0⟩)), (6, .pointer (some ⟨h.nx + 1, 0, some 0⟩)), (9, .pointer (some ⟨b9, 0, some 0⟩)), (10, .pointer (some ⟨b.1, 0, some 0⟩)), (11, .pointer (some ⟨b.2.1, 0, some 0⟩)), (12, .pointer (some ⟨b.2.2.1, 0, some 0⟩))]) (fun b h' => (Wf h' ∧ Grow h3 h') ∧ ((h3.nx ≤ b.1 ∧ h3.nx ≤ b.2.1 ∧ h3.nx ≤ b.2.2.1 ∧ h3.nx ≤ b.2.2.2) ∧ b.2.2.1 ≠ b.1 ∧ b.2.2.1 ≠ b.2.1 ∧ b.2.2.1 ≠ b.2.2.2) ∧ At h' b.1 (.cells [.string ⟨⟨[115, 104, 111, 111, 116]⟩⟩, .bool false, .func (.func 156) #[] #[], .string ⟨⟨[116, 117, 114, 110]⟩⟩, .bool false, .func (.func 157) #[] #[], .string ⟨⟨[119, 101, 97, 116, 104, 101, 114]⟩⟩, .bool true, .func (.func 158) #[] #[], .string ⟨⟨[97, 110, 105, 109, 97, 108]⟩⟩, .bool true, .func (.func 159) #[] #[], .string ⟨⟨[103, 101, 97, 114]⟩⟩, .bool true, .func (.func 160) #[] #[], .string ⟨⟨[115, 104, 97, 114, 101]⟩⟩, .bool true, .func (.func 161) #[] #[]] 192 18 false) ∧ At h' b.2.1 (.cells [.map (some b.2.2.2)] 200 1 false) ∧ At h' b.2.2.1 (.cells [.int .i64 c6] 3 1 false) ∧ At h' b.2.2.2 (.map numM)) ?_ ?_
 · clear qr0 qr1 qr2 qr3 qr4 qr5
   have lC := aC.lt
   repeat' (first | ((with_reducible refine bb_ ?_); first | ((with_reducible refine bd_ ?_); first | ((with_reducible refine aZ_ ?_); refine aO_ (aa_ rfl) rfl (ar_ rfl (ae_ (b := h.nx) (off := 6) rfl ah_ Tryz.underlying3 rfl rfl)) rfl rfl rfl ?_) | ((with_reducible refine xk_alloc ?_); refine wx_a0 (aa_ rfl) rfl (oa_alloc zz192 zs192 rfl rfl rfl) rfl rfl ?_) | ((with_reducible refine aC_ ?_); refine aH_ (aa_ rfl) rfl rfl (ar_ rfl (ab_ (o := 6) rfl Tryz.underlying114 rfl zs3 rfl)) rfl rfl rfl ?_) | ((with_reducible refine aV_ ?_); first | (refine aM_ (aa_ rfl) rfl rfl rfl rfl (q109 _ aA_) rfl rfl ?_; rintro _ _ ⟨rfl, hq⟩; all_goals (try (have hqn := hq.nx); try simp only [aU_] at hqn)) | (refine aM_ (aa_ rfl) rfl rfl rfl rfl (q116 _ aA_) rfl rfl ?_; rintro _ _ ⟨⟨bm, rfl, lbm0, lbm, atm⟩, hq⟩; all_goals (try (have hqn := hq.nx); try simp only [aU_] at hqn)))) | ((with_reducible refine xk_alloc ?_); first | refine wx_a (aa_ rfl) rfl rfl (oa_alloc zz200 zs200 rfl rfl rfl) rfl rfl rfl ?_ | refine wx_a (aa_ rfl) rfl rfl (oa_alloc zz3 zs3 rfl rfl rfl) rfl rfl rfl ?_) | ((with_reducible refine bN_ ?_); refine wx_e0n (aa_ rfl) rfl rfl rfl rfl (op_st1 rfl rfl ah_ rfl zs200 rfl rfl rfl) rfl ?_) | refine bU_ ?_ ?_ rfl rfl ?_) | with_reducible exact aP_ | with_reducible refine aJ_ ?_ ?_ | ((with_reducible refine bi_ ?_); first | exact aS_ | refine aQ_ rfl ?_ | refine am_ rfl rfl (ar_ rfl (ae_ (b := h.nx) (off := 6) rfl ah_ Tryz.underlying3 rfl (by rfl))) ?_) | with_reducible exact bV_ | with_reducible refine bE_ ?_ ?_ | ((with_reducible refine ck_ ?_); first | exact bW_ rfl rfl | exact bu_ rfl rfl aA_ gr_B) | refine aF_ (id := 5) 10 [0, 1, 0, 4, 0, 0, 0, 115, 243, 511] [0, 1, 2, 3, 4, 5, 6, 7, 8, 9] (by kernel_rfl) (by kernel_rfl) rfl rfl ?_ | ((with_reducible refine bb_ ?_); (with_reducible refine bN_ ?_); refine wx_e03 (aa_ rfl) rfl rfl rfl rfl rfl (aB_ rfl rfl ah_ zs192 rfl rfl rfl rfl) rfl ?_))
   exact ⟨rfl, (h3.nx + 4, h3.nx + 5, h3.nx + 6, bm), af_ ⟨rfl, rfl, rfl, rfl, rfl, rfl, rfl, rfl, trivial⟩, ⟨aA_, au_⟩, ⟨by simp only; omega, by simp only; omega⟩, by simp only; exact ah_, by simp only; exact ah_, by simp only; exact ah_, by simp only; exact ah_⟩
 clear w1 q109 q116
 rintro ⟨b10, b11, b12, bm⟩ h4 ⟨⟨w1, g2⟩, ⟨⟨z10, z11, z12, zm⟩, n10, n11, nm⟩, a10, a11, a12, am⟩
 simp only at z10 z11 z12 zm n10 n11 nm a10 a11 a12 am ⊢
 have aC := aC.grow g2
 have aI := aI.grow g2
 have a9 := a9.grow g2
 have g1 := g1.trans g2
 have n3 := g2.nx
 clear g2
 refine bq_ (ι := Unit) (fun _ => [(2, .slice ra m rc), (3, .pointer (some ⟨h.nx, 0, some 0⟩)), (6, .pointer (some ⟨h.nx + 1, 0, some 0⟩)), (9, .pointer (some ⟨b9, 0, some 0⟩))]) (fun _ h' => (Wf h' ∧ Grow h h') ∧ (At h' h.nx (.cells [.int .i64 c0, .int .i64 c1, .int .i64 c2, .int .i64 c3, .int .i64 c4, .int .i64 c5, .int .i64 c6, .int .i64 c7, .int .i64 c8] 114 9 false) ∧ At h' (h.nx + 1) (.cells [.int .i64 0, .int .i64 0, .int .i64 0, .int .i64 0, .int .i64 0, .int .i64 0, .int .i64 0, .int .i64 0] 29 8 false)) ∧ At h' b9 (.cells (outC (hrK l l.length) c0 c1 c2 c3 c4 c5 c6) 29 8 false)) ?_ ?_
 · have q123 := fun (h' : H) => c123 (G := G) (h := h') (a := va) (n := n) (c := vc)
   repeat' (first | with_reducible refine ad_ ?_ | ((with_reducible refine ac_ ?_); first | ((with_reducible refine at_ ?_); (refine as_ rfl rfl rfl rfl (q123 _) rfl rfl ?_; rintro _ _ ⟨rfl, rfl⟩; all_goals (try (have hqn := hq.nx); try simp only [aU_] at hqn))) | refine ao_ ?_) | refine ap_ ?_)
   refine wc_cut (ι := Nat) (fun bB => [(2, .slice ra m rc), (3, .pointer (some ⟨h.nx, 0, some 0⟩)), (6, .pointer (some ⟨h.nx + 1, 0, some 0⟩)), (9, .pointer (some ⟨b9, 0, some 0⟩)), (10, .pointer (some ⟨b10, 0, some 0⟩)), (11, .pointer (some ⟨b11, 0, some 0⟩)), (12, .pointer (some ⟨b12, 0, some 0⟩)), (34, tcF bB)]) (fun bB h' => (Wf h' ∧ Grow h h') ∧ h4.nx ≤ bB ∧ At h' bB (.cells [.slice va n vc] 85 1 false) ∧ (At h' h.nx (.cells [.int .i64 c0, .int .i64 c1, .int .i64 c2, .int .i64 c3, .int .i64 c4, .int .i64 c5, .int .i64 c6, .int .i64 c7, .int .i64 c8] 114 9 false) ∧ At h' (h.nx + 1) (.cells [.int .i64 0, .int .i64 0, .int .i64 0, .int .i64 0, .int .i64 0, .int .i64 0, .int .i64 0, .int .i64 0] 29 8 false)) ∧ At h' b9 (.cells [.int .i64 0, .int .i64 0, .int .i64 0, .int .i64 0, .int .i64 0, .int .i64 0, .int .i64 0, .int .i64 0] 29 8 false) ∧ At h' b10 (.cells [.string ⟨⟨[115, 104, 111, 111, 116]⟩⟩, .bool false, .func (.func 156) #[] #[], .string ⟨⟨[116, 117, 114, 110]⟩⟩, .bool false, .func (.func 157) #[] #[], .string ⟨⟨[119, 101, 97, 116, 104, 101, 114]⟩⟩, .bool true, .func (.func 158) #[] #[], .string ⟨⟨[97, 110, 105, 109, 97, 108]⟩⟩, .bool true, .func (.func 159) #[] #[], .string ⟨⟨[103, 101, 97, 114]⟩⟩, .bool true, .func (.func 160) #[] #[], .string ⟨⟨[115, 104, 97, 114, 101]⟩⟩, .bool true, .func (.func 161) #[] #[]] 192 18 false) ∧ At h' b11 (.cells [.map (some bm)] 200 1 false) ∧ At h' b12 (.cells [.int .i64 c6] 3 1 false) ∧ At h' bm (.map numM)) h4.nx (af_ ⟨rfl, rfl, rfl, rfl, rfl, rfl, rfl, rfl, trivial⟩) ⟨⟨aA_, au_⟩, Nat.le_refl _, ah_, ⟨ah_, ah_⟩, ah_, ah_, ah_, ah_, ah_⟩ ?_
   have l9 := a9.lt
   have l10 := a10.lt
   have l11 := a11.lt
   have l12 := a12.lt
   have lm := am.lt
   clear w1 aC aI a9 a10 a11 a12 am q123
   rintro bB h0 ⟨⟨w1, g0⟩, hbB, aB, ⟨aC, aI⟩, a9, a10, a11, a12, am⟩
   have lB := aB.lt
   have g0n := g0.nx
   have l9' := a9.lt
   have l10' := a10.lt
   have l11' := a11.lt
   have l12' := a12.lt
   have lm' := am.lt
   have lC' := aC.lt
   have lI' := aI.lt
   refine wc_rangeFunc2 rfl fun e0 lp he hlp => ?_
   refine (c167 (a := va) (c := vc) (N := h0.nx + 1) (l := l) (fun i k g => (Wf g ∧ Grow h g ∧ h0.nx + 1 ≤ g.nx) ∧ At g bB (.cells [.slice va n vc] 85 1 false) ∧ At g h0.nx lp ∧ At g h.nx (.cells [.int .i64 c0, .int .i64 c1, .int .i64 c2, .int .i64 c3, .int .i64 c4, .int .i64 c5, .int .i64 c6, .int .i64 c7, .int .i64 c8] 114 9 false) ∧ At g (h.nx + 1) (.cells [.int .i64 0, .int .i64 0, .int .i64 0, .int .i64 0, .int .i64 0, .int .i64 0, .int .i64 0, .int .i64 0] 29 8 false) ∧ At g b9 (.cells (outC (cntK l i k) c0 c1 c2 c3 c4 c5 c6) 29 8 false) ∧ At g b10 (.cells [.string ⟨⟨[115, 104, 111, 111, 116]⟩⟩, .bool false, .func (.func 156) #[] #[], .string ⟨⟨[116, 117, 114, 110]⟩⟩, .bool false, .func (.func 157) #[] #[], .string ⟨⟨[119, 101, 97, 116, 104, 101, 114]⟩⟩, .bool true, .func (.func 158) #[] #[], .string ⟨⟨[97, 110, 105, 109, 97, 108]⟩⟩, .bool true, .func (.func 159) #[] #[], .string ⟨⟨[103, 101, 97, 114]⟩⟩, .bool true, .func (.func 160) #[] #[], .string ⟨⟨[115, 104, 97, 114, 101]⟩⟩, .bool true, .func (.func 161) #[] #[]] 192 18 false) ∧ At g b11 (.cells [.map (some bm)] 200 1 false) ∧ At g b12 (.cells [.int .i64 (freeI (cntK l i k) c6)] 3 1 false) ∧ At g bm (.map numM)) hl (by omega) hv ?_ ?_ ?_ ?_ ?_).mono ?_
   · rintro i k g ⟨⟨w, gr, nx'⟩, b', _⟩
     exact ⟨b', s.grow gr, nx', w⟩
   · rintro i k g g' ⟨⟨w, gr, nx'⟩, t1, t2, t3, t4, t5, t6, t7, t8, t9⟩ st ww
     exact ⟨⟨ww, gr.trans st, Nat.le_trans nx' st.nx⟩, t1.grow st, t2.grow st, t3.grow st, t4.grow st, t5.grow st, t6.grow st, t7.grow st, t8.grow st, t9.grow st⟩
   · rintro i g hi ⟨q1, q2, q3, q4, q5, q6, q7, q8, q9, q10⟩
     have e := cntK_end (l := l) (i := i) (by omega) hv
     rw [e, ← cntK_zero] at q6 q9
     exact ⟨q1, q2, q3, q4, q5, q6, q7, q8, q9, q10⟩
   · rintro i k g' hi hk ⟨⟨wg, gr, nx'⟩, t1, t2, t3, t4, t5, t6, t7, t8, t9⟩
     have hi' : i < l.length := by omega
     have hm' : l.getD i ⟨0, 0, .empty⟩ ∈ l := by simp [List.getD, List.getElem?_eq_getElem hi']
     obtain ⟨_, hd⟩ := enE_ok (hv _ hm')
     have grn := gr.nx
     obtain ⟨z0, z1, z2, z3, z4, z5, hz⟩ := six (cntK_len (l := l) (i := i) (k := k))
     have bd := cntK_bd (k := k) hi' (by omega) hv (by omega)
     rw [hz] at bd t5 t8
     have b0 := bd 0
     have b1 := bd 1
     have b2 := bd 2
     have b3 := bd 3
     have b4 := bd 4
     have b5 := bd 5
     simp only [List.getD, List.getElem?_cons_zero, List.getElem?_cons_succ, Option.getD_some] at b0 b1 b2 b3 b4 b5
     rw [outC_eq] at t5
     rw [freeI_eq] at t8
     obtain ⟨P, hP⟩ : ∃ P, max (z2 - c6) 0 = P := ⟨_, rfl⟩
     have hPb : 0 ≤ P ∧ P ≤ 6400000 := by omega
     obtain ⟨F, hF⟩ : ∃ F, max (c6 - z2) 0 = F := ⟨_, rfl⟩
     have hFb : 0 ≤ F ∧ F ≤ 100000 := by omega
     rw [hP] at t5
     rw [hF] at t8
     have m0 := cg_ (a := z0) (b := c0) (by omega) (by omega)
     have m1 := cg_ (a := z1) (b := c1) (by omega) (by omega)
     have m2 := cg_ (a := P) (b := c2) (by omega) (by omega)
     have m3 := cg_ (a := z3) (b := c3) (by omega) (by omega)
     have m4 := cg_ (a := z4) (b := c4) (by omega) (by omega)
     have m5 := cg_ (a := z5) (b := c5) (by omega) (by omega)
     obtain ⟨y0, hy0⟩ : ∃ y, z0 * c0 = y := ⟨_, rfl⟩
     obtain ⟨y1, hy1⟩ : ∃ y, z1 * c1 = y := ⟨_, rfl⟩
     obtain ⟨y2, hy2⟩ : ∃ y, P * c2 = y := ⟨_, rfl⟩
     obtain ⟨y3, hy3⟩ : ∃ y, z3 * c3 = y := ⟨_, rfl⟩
     obtain ⟨y4, hy4⟩ : ∃ y, z4 * c4 = y := ⟨_, rfl⟩
     obtain ⟨y5, hy5⟩ : ∃ y, z5 * c5 = y := ⟨_, rfl⟩
     rw [hy0, hy1, hy2, hy3, hy4, hy5] at t5
     rw [hy0] at m0
     rw [hy1] at m1
     rw [hy2] at m2
     rw [hy3] at m3
     rw [hy4] at m4
     rw [hy5] at m5
     have lc1 := t1.lt
     have lc3 := t3.lt
     have lc4 := t4.lt
     have lc5 := t5.lt
     have lc6 := t6.lt
     have lc7 := t7.lt
     have lc8 := t8.lt
     have lc9 := t9.lt
     subst hlp
     refine cf_round t2.get he rfl rfl ?_
     repeat' (first | with_reducible refine ad_ ?_ | ((with_reducible refine ac_ ?_); ((with_reducible refine cx_ ?_); refine aq_ (aW_ rfl) ?_)) | with_reducible refine bk_ ?_)
     refine ⟨rfl, _, _, _, _, _, At.get (b := h0.nx) (o := .loop .ready none e0 _ _ _) ah_, ?_⟩
     rcases cau_six hd with ⟨he1, he2⟩ | ⟨he1, he2⟩ | ⟨he1, he2⟩ | ⟨he1, he2⟩ | ⟨he1, he2⟩ | ⟨he1, he2⟩
     · have hcn : cntK l i (k + 1) = [z0 + 1, z1, z2, z3, z4, z5] := by rw [cntK_next (by omega) hv, hz, he2]; rfl
       have lkn := fun (h' : H) (at1 : At h' bm (.map numM)) => lk_num0 (G := G) (j := 0) at1 cau_k0
       rw [he1]
       clear he1 he2 hz
       have hnx : outC (cntK l i (k + 1)) c0 c1 c2 c3 c4 c5 c6 = [.int .i64 (y0 + c0), .int .i64 y1, .int .i64 y2, .int .i64 y3, .int .i64 y4, .int .i64 y5, .int .i64 0, .int .i64 0] := by rw [hcn, outC_eq, suc_mul hy0, hy1, hP, hy2, hy3, hy4, hy5]
       have hfx : freeI (cntK l i (k + 1)) c6 = F := by rw [hcn, freeI_eq, hF]
       clear hcn hP hF hy0 hy1 hy2 hy3 hy4 hy5
       repeat' (first | with_reducible refine ad_ ?_ | ((with_reducible refine ac_ ?_); first | ((with_reducible refine bG_ ?_); refine aq_ (op_seqN rfl rfl (by decide)) ?_) | ((with_reducible refine al_ ?_); refine aq_ (ae_ (b := b11) (off := 0) rfl ah_ Tryz.underlying200 rfl rfl) ?_) | ((with_reducible refine cC_ ?_); refine bn_ rfl rfl rfl rfl rfl rfl ?_) | refine ao_ ?_) | ((with_reducible refine bb_ ?_); ((with_reducible refine bd_ ?_); first | ((with_reducible refine ba_ ?_); refine aH_ (aa_ rfl) rfl rfl (ar_ rfl (aD_ rfl)) rfl rfl rfl ?_) | ((with_reducible refine bD_ ?_); refine aH_ (aa_ rfl) rfl rfl (ar_ rfl (cn_ rfl rfl (v := y0 + c0) rfl (by omega))) rfl rfl rfl ?_) | ((with_reducible refine aZ_ ?_); first | refine aO_ (aa_ rfl) rfl (ar_ rfl (ae_ (b := b9) (off := 0) rfl ah_ Tryz.underlying3 rfl rfl)) rfl rfl rfl ?_ | refine aO_ (aa_ rfl) rfl (ar_ rfl (ae_ (b := b10) (off := 2) rfl ah_ Tryz.underlying189 rfl rfl)) rfl rfl rfl ?_ | refine aO_ (aa_ rfl) rfl (ar_ rfl (aj_ (b := h.nx) (off := 0) rfl ah_ Tryz.underlying114 rfl cs_ rfl rfl)) rfl rfl rfl ?_) | ((with_reducible refine aT_ ?_); first | refine aH_ (aa_ rfl) rfl rfl (ar_ rfl (bs_ rfl rfl (k := 0) rfl Tryz.underlying22 zs3 (by omega))) rfl rfl rfl ?_ | refine aH_ (aa_ rfl) rfl rfl (ar_ rfl (op_idxArr' rfl rfl Tryz.underlying192 ce_ (by omega) (by omega))) rfl rfl rfl ?_) | ((with_reducible refine bN_ ?_); refine wx_ee0 (aa_ rfl) rfl rfl (bA_ (b := b9) (o := 0) (cs := [.int .i64 (y0 + c0), .int .i64 y1, .int .i64 y2, .int .i64 y3, .int .i64 y4, .int .i64 y5, .int .i64 0, .int .i64 0]) rfl rfl ah_ rfl zs3 (Nat.le_of_ble_eq_true rfl) rfl rfl) rfl ?_) | ((with_reducible refine aC_ ?_); first | refine aH_ (aa_ rfl) rfl rfl (ar_ rfl (ab_ (o := 0) rfl Tryz.underlying29 rfl zs22 rfl)) rfl rfl rfl ?_ | refine aH_ (aa_ rfl) rfl rfl (ar_ rfl (ab_ (o := 2) rfl Tryz.underlying191 rfl zs189 rfl)) rfl rfl rfl ?_) | ((with_reducible refine aV_ ?_); (refine aM_ (aa_ rfl) rfl rfl rfl rfl (qr0 _ aA_) rfl rfl ?_; rintro _ _ ⟨rfl, hq⟩; all_goals (try (have hqn := hq.nx); try simp only [aU_] at hqn))) | with_reducible refine bj_ ?_ ?_)) | with_reducible exact aP_ | with_reducible refine aJ_ ?_ ?_ | ((with_reducible refine bi_ ?_); first | exact aS_ | refine aQ_ rfl ?_ | refine am_ rfl rfl (ar_ rfl (ae_ (b := b9) (off := 0) rfl ah_ Tryz.underlying3 rfl (by rfl))) ?_ | refine am_ rfl rfl (ar_ rfl (ae_ (b := b10) (off := 2) rfl ah_ Tryz.underlying189 rfl (by rfl))) ?_ | refine am_ rfl rfl (ar_ rfl (aj_ (b := h.nx) (off := 0) rfl ah_ Tryz.underlying114 rfl cs_ (by rfl) rfl)) ?_) | refine ap_ ?_ | refine aF_ (id := 11) 14 [0, 0, 3, 7, 0, 16, 48, 112, 0, 496, 1023, 0, 4095, 8191] [0, 1, 2, 3, 4, 5, 6, 7, 8, 9, 10, 11, 12, 13] (by kernel_rfl) (by kernel_rfl) rfl rfl ?_ | ((with_reducible refine ac_ ?_); refine aq_ (cc_ rfl rfl (lkn _ ah_)) ?_))
       refine ⟨_, _, _, _, _, _, At.get (b := h0.nx) (o := .loop .busy none e0 _ _ _) ah_, ⟨rfl, ⟨⟨aA_, au_, ?_⟩, ah_, ah_, ah_, ah_, by rw [hnx]; exact ah_, ah_, ah_, by rw [hfx]; exact ah_, ah_⟩, ?_⟩⟩
       · simp only [H.nx_push, H.nx_set, H.nx_bump, H.nx_kill]; omega
       · exact fun b' o hb ha => by have lb := ha.lt; exact ah_
     · have hcn : cntK l i (k + 1) = [z0, z1 + 1, z2, z3, z4, z5] := by rw [cntK_next (by omega) hv, hz, he2]; rfl
       have lkn := fun (h' : H) (at1 : At h' bm (.map numM)) => lk_num0 (G := G) (j := 1) at1 cau_k1
       rw [he1]
       clear he1 he2 hz
       have hnx : outC (cntK l i (k + 1)) c0 c1 c2 c3 c4 c5 c6 = [.int .i64 y0, .int .i64 (y1 + c1), .int .i64 y2, .int .i64 y3, .int .i64 y4, .int .i64 y5, .int .i64 0, .int .i64 0] := by rw [hcn, outC_eq, suc_mul hy1, hy0, hP, hy2, hy3, hy4, hy5]
       have hfx : freeI (cntK l i (k + 1)) c6 = F := by rw [hcn, freeI_eq, hF]
       clear hcn hP hF hy0 hy1 hy2 hy3 hy4 hy5
       repeat' (first | with_reducible refine ad_ ?_ | ((with_reducible refine ac_ ?_); first | ((with_reducible refine bG_ ?_); refine aq_ (op_seqN rfl rfl (by decide)) ?_) | ((with_reducible refine al_ ?_); refine aq_ (ae_ (b := b11) (off := 0) rfl ah_ Tryz.underlying200 rfl rfl) ?_) | ((with_reducible refine cC_ ?_); refine bn_ rfl rfl rfl rfl rfl rfl ?_) | refine ao_ ?_) | ((with_reducible refine bb_ ?_); ((with_reducible refine bd_ ?_); first | ((with_reducible refine ba_ ?_); refine aH_ (aa_ rfl) rfl rfl (ar_ rfl (aD_ rfl)) rfl rfl rfl ?_) | ((with_reducible refine bD_ ?_); refine aH_ (aa_ rfl) rfl rfl (ar_ rfl (cn_ rfl rfl (v := y1 + c1) rfl (by omega))) rfl rfl rfl ?_) | ((with_reducible refine aZ_ ?_); first | refine aO_ (aa_ rfl) rfl (ar_ rfl (ae_ (b := b9) (off := 1) rfl ah_ Tryz.underlying3 rfl rfl)) rfl rfl rfl ?_ | refine aO_ (aa_ rfl) rfl (ar_ rfl (ae_ (b := b10) (off := 5) rfl ah_ Tryz.underlying189 rfl rfl)) rfl rfl rfl ?_ | refine aO_ (aa_ rfl) rfl (ar_ rfl (aj_ (b := h.nx) (off := 0) rfl ah_ Tryz.underlying114 rfl cs_ rfl rfl)) rfl rfl rfl ?_) | ((with_reducible refine aT_ ?_); first | refine aH_ (aa_ rfl) rfl rfl (ar_ rfl (bs_ rfl rfl (k := 1) rfl Tryz.underlying22 zs3 (by omega))) rfl rfl rfl ?_ | refine aH_ (aa_ rfl) rfl rfl (ar_ rfl (op_idxArr' rfl rfl Tryz.underlying192 ce_ (by omega) (by omega))) rfl rfl rfl ?_) | ((with_reducible refine bN_ ?_); refine wx_ee0 (aa_ rfl) rfl rfl (bA_ (b := b9) (o := 1) (cs := [.int .i64 y0, .int .i64 (y1 + c1), .int .i64 y2, .int .i64 y3, .int .i64 y4, .int .i64 y5, .int .i64 0, .int .i64 0]) rfl rfl ah_ rfl zs3 (Nat.le_of_ble_eq_true rfl) rfl rfl) rfl ?_) | ((with_reducible refine aC_ ?_); first | refine aH_ (aa_ rfl) rfl rfl (ar_ rfl (ab_ (o := 0) rfl Tryz.underlying29 rfl zs22 rfl)) rfl rfl rfl ?_ | refine aH_ (aa_ rfl) rfl rfl (ar_ rfl (ab_ (o := 2) rfl Tryz.underlying191 rfl zs189 rfl)) rfl rfl rfl ?_) | ((with_reducible refine aV_ ?_); (refine aM_ (aa_ rfl) rfl rfl rfl rfl (qr1 _ aA_) rfl rfl ?_; rintro _ _ ⟨rfl, hq⟩; all_goals (try (have hqn := hq.nx); try simp only [aU_] at hqn))) | with_reducible refine bj_ ?_ ?_)) | with_reducible exact aP_ | with_reducible refine aJ_ ?_ ?_ | ((with_reducible refine bi_ ?_); first | exact aS_ | refine aQ_ rfl ?_ | refine am_ rfl rfl (ar_ rfl (ae_ (b := b9) (off := 1) rfl ah_ Tryz.underlying3 rfl (by rfl))) ?_ | refine am_ rfl rfl (ar_ rfl (ae_ (b := b10) (off := 5) rfl ah_ Tryz.underlying189 rfl (by rfl))) ?_ | refine am_ rfl rfl (ar_ rfl (aj_ (b := h.nx) (off := 0) rfl ah_ Tryz.underlying114 rfl cs_ (by rfl) rfl)) ?_) | refine ap_ ?_ | refine aF_ (id := 11) 14 [0, 0, 3, 7, 0, 16, 48, 112, 0, 496, 1023, 0, 4095, 8191] [0, 1, 2, 3, 4, 5, 6, 7, 8, 9, 10, 11, 12, 13] (by kernel_rfl) (by kernel_rfl) rfl rfl ?_ | ((with_reducible refine ac_ ?_); refine aq_ (cc_ rfl rfl (lkn _ ah_)) ?_))
       refine ⟨_, _, _, _, _, _, At.get (b := h0.nx) (o := .loop .busy none e0 _ _ _) ah_, ⟨rfl, ⟨⟨aA_, au_, ?_⟩, ah_, ah_, ah_, ah_, by rw [hnx]; exact ah_, ah_, ah_, by rw [hfx]; exact ah_, ah_⟩, ?_⟩⟩
       · simp only [H.nx_push, H.nx_set, H.nx_bump, H.nx_kill]; omega
       · exact fun b' o hb ha => by have lb := ha.lt; exact ah_
     · have hcn : cntK l i (k + 1) = [z0, z1, z2 + 1, z3, z4, z5] := by rw [cntK_next (by omega) hv, hz, he2]; rfl
       have lkn := fun (h' : H) (at1 : At h' bm (.map numM)) => lk_num0 (G := G) (j := 2) at1 cau_k2
       rw [he1]
       clear he1 he2 hz
       by_cases hf0 : 0 < F
       · have hnx : outC (cntK l i (k + 1)) c0 c1 c2 c3 c4 c5 c6 = [.int .i64 y0, .int .i64 y1, .int .i64 y2, .int .i64 y3, .int .i64 y4, .int .i64 y5, .int .i64 0, .int .i64 0] := by rw [hcn, outC_eq, show max (z2 + 1 - c6) 0 = P by omega, hy0, hy1, hy2, hy3, hy4, hy5]
         have hfx : freeI (cntK l i (k + 1)) c6 = F - 1 := by rw [hcn, freeI_eq]; omega
         clear hcn hP hF hy0 hy1 hy2 hy3 hy4 hy5
         repeat' (first | with_reducible refine ad_ ?_ | ((with_reducible refine ac_ ?_); first | ((with_reducible refine bG_ ?_); first | refine aq_ (op_seqE rfl rfl rfl) ?_ | refine aq_ (op_subE rfl rfl (v := F - 1) rfl (by omega)) ?_) | ((with_reducible refine al_ ?_); refine aq_ (ae_ (b := b12) (off := 0) rfl ah_ Tryz.underlying3 rfl rfl) ?_) | ((with_reducible refine ay_ ?_); refine bQ_ (bA_ (b := b12) (o := 0) (cs := [.int .i64 (F - 1)]) rfl rfl ah_ rfl zs3 (Nat.le_of_ble_eq_true rfl) rfl rfl) ?_) | ((with_reducible refine cC_ ?_); first | ((with_reducible refine bB_ ?_); refine ai_ rfl rfl rfl (bM_ rfl rfl) rfl rfl ?_) | ((with_reducible refine bF_ ?_); refine ai_ rfl rfl rfl (ae_ (b := b12) (off := 0) rfl ah_ Tryz.underlying3 rfl rfl) rfl rfl ?_)) | refine ao_ ?_) | refine ap_ ?_ | (refine aG_ rfl (fun hb => ?_) (fun hb => aw_ hb); (try simp only [aX_, reduceCtorEq] at hb)))
         refine ⟨_, _, _, _, _, _, At.get (b := h0.nx) (o := .loop .busy none e0 _ _ _) ah_, ⟨rfl, ⟨⟨aA_, au_, ?_⟩, ah_, ah_, ah_, ah_, by rw [hnx]; exact ah_, ah_, ah_, by rw [hfx]; exact ah_, ah_⟩, ?_⟩⟩
         · simp only [H.nx_push, H.nx_set, H.nx_bump, H.nx_kill]; omega
         · exact fun b' o hb ha => by have lb := ha.lt; exact ah_
       · have hnx : outC (cntK l i (k + 1)) c0 c1 c2 c3 c4 c5 c6 = [.int .i64 y0, .int .i64 y1, .int .i64 (y2 + c2), .int .i64 y3, .int .i64 y4, .int .i64 y5, .int .i64 0, .int .i64 0] := by rw [hcn, outC_eq, show max (z2 + 1 - c6) 0 = P + 1 by omega, suc_mul hy2, hy0, hy1, hy3, hy4, hy5]
         have hfx : freeI (cntK l i (k + 1)) c6 = F := by rw [hcn, freeI_eq]; omega
         clear hcn hP hF hy0 hy1 hy2 hy3 hy4 hy5
         repeat' (first | with_reducible refine ad_ ?_ | ((with_reducible refine ac_ ?_); first | ((with_reducible refine bG_ ?_); refine aq_ (op_seqE rfl rfl rfl) ?_) | ((with_reducible refine al_ ?_); refine aq_ (ae_ (b := b11) (off := 0) rfl ah_ Tryz.underlying200 rfl rfl) ?_) | ((with_reducible refine cC_ ?_); first | ((with_reducible refine bB_ ?_); refine ai_ rfl rfl rfl (bM_ rfl rfl) rfl rfl ?_) | ((with_reducible refine bF_ ?_); refine ai_ rfl rfl rfl (ae_ (b := b12) (off := 0) rfl ah_ Tryz.underlying3 rfl rfl) rfl rfl ?_)) | refine ao_ ?_) | ((with_reducible refine bb_ ?_); ((with_reducible refine bd_ ?_); first | ((with_reducible refine ba_ ?_); refine aH_ (aa_ rfl) rfl rfl (ar_ rfl (aD_ rfl)) rfl rfl rfl ?_) | ((with_reducible refine bD_ ?_); refine aH_ (aa_ rfl) rfl rfl (ar_ rfl (cn_ rfl rfl (v := y2 + c2) rfl (by omega))) rfl rfl rfl ?_) | ((with_reducible refine aZ_ ?_); first | refine aO_ (aa_ rfl) rfl (ar_ rfl (ae_ (b := b9) (off := 2) rfl ah_ Tryz.underlying3 rfl rfl)) rfl rfl rfl ?_ | refine aO_ (aa_ rfl) rfl (ar_ rfl (ae_ (b := b10) (off := 8) rfl ah_ Tryz.underlying189 rfl rfl)) rfl rfl rfl ?_ | refine aO_ (aa_ rfl) rfl (ar_ rfl (aj_ (b := h.nx) (off := 0) rfl ah_ Tryz.underlying114 rfl cs_ rfl rfl)) rfl rfl rfl ?_) | ((with_reducible refine aT_ ?_); first | refine aH_ (aa_ rfl) rfl rfl (ar_ rfl (bs_ rfl rfl (k := 2) rfl Tryz.underlying22 zs3 (by omega))) rfl rfl rfl ?_ | refine aH_ (aa_ rfl) rfl rfl (ar_ rfl (op_idxArr' rfl rfl Tryz.underlying192 ce_ (by omega) (by omega))) rfl rfl rfl ?_) | ((with_reducible refine bN_ ?_); refine wx_ee0 (aa_ rfl) rfl rfl (bA_ (b := b9) (o := 2) (cs := [.int .i64 y0, .int .i64 y1, .int .i64 (y2 + c2), .int .i64 y3, .int .i64 y4, .int .i64 y5, .int .i64 0, .int .i64 0]) rfl rfl ah_ rfl zs3 (Nat.le_of_ble_eq_true rfl) rfl rfl) rfl ?_) | ((with_reducible refine aC_ ?_); first | refine aH_ (aa_ rfl) rfl rfl (ar_ rfl (ab_ (o := 0) rfl Tryz.underlying29 rfl zs22 rfl)) rfl rfl rfl ?_ | refine aH_ (aa_ rfl) rfl rfl (ar_ rfl (ab_ (o := 2) rfl Tryz.underlying191 rfl zs189 rfl)) rfl rfl rfl ?_) | ((with_reducible refine aV_ ?_); (refine aM_ (aa_ rfl) rfl rfl rfl rfl (qr2 _ aA_) rfl rfl ?_; rintro _ _ ⟨rfl, hq⟩; all_goals (try (have hqn := hq.nx); try simp only [aU_] at hqn))) | with_reducible refine bj_ ?_ ?_)) | with_reducible exact aP_ | with_reducible refine aJ_ ?_ ?_ | ((with_reducible refine bi_ ?_); first | exact aS_ | refine aQ_ rfl ?_ | refine am_ rfl rfl (ar_ rfl (ae_ (b := b9) (off := 2) rfl ah_ Tryz.underlying3 rfl (by rfl))) ?_ | refine am_ rfl rfl (ar_ rfl (ae_ (b := b10) (off := 8) rfl ah_ Tryz.underlying189 rfl (by rfl))) ?_ | refine am_ rfl rfl (ar_ rfl (aj_ (b := h.nx) (off := 0) rfl ah_ Tryz.underlying114 rfl cs_ (by rfl) rfl)) ?_) | refine ap_ ?_ | (refine aG_ rfl (fun hb => aw_ hb) (fun hb => ?_); (try simp only [aX_, reduceCtorEq] at hb)) | refine aF_ (id := 11) 14 [0, 0, 3, 7, 0, 16, 48, 112, 0, 496, 1023, 0, 4095, 8191] [0, 1, 2, 3, 4, 5, 6, 7, 8, 9, 10, 11, 12, 13] (by kernel_rfl) (by kernel_rfl) rfl rfl ?_ | ((with_reducible refine ac_ ?_); refine aq_ (cc_ rfl rfl (lkn _ ah_)) ?_))
         refine ⟨_, _, _, _, _, _, At.get (b := h0.nx) (o := .loop .busy none e0 _ _ _) ah_, ⟨rfl, ⟨⟨aA_, au_, ?_⟩, ah_, ah_, ah_, ah_, by rw [hnx]; exact ah_, ah_, ah_, by rw [hfx]; exact ah_, ah_⟩, ?_⟩⟩
         · simp only [H.nx_push, H.nx_set, H.nx_bump, H.nx_kill]; omega
         · exact fun b' o hb ha => by have lb := ha.lt; exact ah_
     · have hcn : cntK l i (k + 1) = [z0, z1, z2, z3 + 1, z4, z5] := by rw [cntK_next (by omega) hv, hz, he2]; rfl
       have lkn := fun (h' : H) (at1 : At h' bm (.map numM)) => lk_num0 (G := G) (j := 3) at1 cau_k3
       rw [he1]
       clear he1 he2 hz
       have hnx : outC (cntK l i (k + 1)) c0 c1 c2 c3 c4 c5 c6 = [.int .i64 y0, .int .i64 y1, .int .i64 y2, .int .i64 (y3 + c3), .int .i64 y4, .int .i64 y5, .int .i64 0, .int .i64 0] := by rw [hcn, outC_eq, suc_mul hy3, hy0, hy1, hP, hy2, hy4, hy5]
       have hfx : freeI (cntK l i (k + 1)) c6 = F := by rw [hcn, freeI_eq, hF]
       clear hcn hP hF hy0 hy1 hy2 hy3 hy4 hy5
       repeat' (first | with_reducible refine ad_ ?_ | ((with_reducible refine ac_ ?_); first | ((with_reducible refine bG_ ?_); refine aq_ (op_seqN rfl rfl (by decide)) ?_) | ((with_reducible refine al_ ?_); refine aq_ (ae_ (b := b11) (off := 0) rfl ah_ Tryz.underlying200 rfl rfl) ?_) | ((with_reducible refine cC_ ?_); refine bn_ rfl rfl rfl rfl rfl rfl ?_) | refine ao_ ?_) | ((with_reducible refine bb_ ?_); ((with_reducible refine bd_ ?_); first | ((with_reducible refine ba_ ?_); refine aH_ (aa_ rfl) rfl rfl (ar_ rfl (aD_ rfl)) rfl rfl rfl ?_) | ((with_reducible refine bD_ ?_); refine aH_ (aa_ rfl) rfl rfl (ar_ rfl (cn_ rfl rfl (v := y3 + c3) rfl (by omega))) rfl rfl rfl ?_) | ((with_reducible refine aZ_ ?_); first | refine aO_ (aa_ rfl) rfl (ar_ rfl (ae_ (b := b9) (off := 3) rfl ah_ Tryz.underlying3 rfl rfl)) rfl rfl rfl ?_ | refine aO_ (aa_ rfl) rfl (ar_ rfl (ae_ (b := b10) (off := 11) rfl ah_ Tryz.underlying189 rfl rfl)) rfl rfl rfl ?_ | refine aO_ (aa_ rfl) rfl (ar_ rfl (aj_ (b := h.nx) (off := 0) rfl ah_ Tryz.underlying114 rfl cs_ rfl rfl)) rfl rfl rfl ?_) | ((with_reducible refine aT_ ?_); first | refine aH_ (aa_ rfl) rfl rfl (ar_ rfl (bs_ rfl rfl (k := 3) rfl Tryz.underlying22 zs3 (by omega))) rfl rfl rfl ?_ | refine aH_ (aa_ rfl) rfl rfl (ar_ rfl (op_idxArr' rfl rfl Tryz.underlying192 ce_ (by omega) (by omega))) rfl rfl rfl ?_) | ((with_reducible refine bN_ ?_); refine wx_ee0 (aa_ rfl) rfl rfl (bA_ (b := b9) (o := 3) (cs := [.int .i64 y0, .int .i64 y1, .int .i64 y2, .int .i64 (y3 + c3), .int .i64 y4, .int .i64 y5, .int .i64 0, .int .i64 0]) rfl rfl ah_ rfl zs3 (Nat.le_of_ble_eq_true rfl) rfl rfl) rfl ?_) | ((with_reducible refine aC_ ?_); first | refine aH_ (aa_ rfl) rfl rfl (ar_ rfl (ab_ (o := 0) rfl Tryz.underlying29 rfl zs22 rfl)) rfl rfl rfl ?_ | refine aH_ (aa_ rfl) rfl rfl (ar_ rfl (ab_ (o := 2) rfl Tryz.underlying191 rfl zs189 rfl)) rfl rfl rfl ?_) | ((with_reducible refine aV_ ?_); (refine aM_ (aa_ rfl) rfl rfl rfl rfl (qr3 _ aA_) rfl rfl ?_; rintro _ _ ⟨rfl, hq⟩; all_goals (try (have hqn := hq.nx); try simp only [aU_] at hqn))) | with_reducible refine bj_ ?_ ?_)) | with_reducible exact aP_ | with_reducible refine aJ_ ?_ ?_ | ((with_reducible refine bi_ ?_); first | exact aS_ | refine aQ_ rfl ?_ | refine am_ rfl rfl (ar_ rfl (ae_ (b := b9) (off := 3) rfl ah_ Tryz.underlying3 rfl (by rfl))) ?_ | refine am_ rfl rfl (ar_ rfl (ae_ (b := b10) (off := 11) rfl ah_ Tryz.underlying189 rfl (by rfl))) ?_ | refine am_ rfl rfl (ar_ rfl (aj_ (b := h.nx) (off := 0) rfl ah_ Tryz.underlying114 rfl cs_ (by rfl) rfl)) ?_) | refine ap_ ?_ | refine aF_ (id := 11) 14 [0, 0, 3, 7, 0, 16, 48, 112, 0, 496, 1023, 0, 4095, 8191] [0, 1, 2, 3, 4, 5, 6, 7, 8, 9, 10, 11, 12, 13] (by kernel_rfl) (by kernel_rfl) rfl rfl ?_ | ((with_reducible refine ac_ ?_); refine aq_ (cc_ rfl rfl (lkn _ ah_)) ?_))
       refine ⟨_, _, _, _, _, _, At.get (b := h0.nx) (o := .loop .busy none e0 _ _ _) ah_, ⟨rfl, ⟨⟨aA_, au_, ?_⟩, ah_, ah_, ah_, ah_, by rw [hnx]; exact ah_, ah_, ah_, by rw [hfx]; exact ah_, ah_⟩, ?_⟩⟩
       · simp only [H.nx_push, H.nx_set, H.nx_bump, H.nx_kill]; omega
       · exact fun b' o hb ha => by have lb := ha.lt; exact ah_
     · have hcn : cntK l i (k + 1) = [z0, z1, z2, z3, z4 + 1, z5] := by rw [cntK_next (by omega) hv, hz, he2]; rfl
       have lkn := fun (h' : H) (at1 : At h' bm (.map numM)) => lk_num0 (G := G) (j := 4) at1 cau_k4
       rw [he1]
       clear he1 he2 hz
       have hnx : outC (cntK l i (k + 1)) c0 c1 c2 c3 c4 c5 c6 = [.int .i64 y0, .int .i64 y1, .int .i64 y2, .int .i64 y3, .int .i64 (y4 + c4), .int .i64 y5, .int .i64 0, .int .i64 0] := by rw [hcn, outC_eq, suc_mul hy4, hy0, hy1, hP, hy2, hy3, hy5]
       have hfx : freeI (cntK l i (k + 1)) c6 = F := by rw [hcn, freeI_eq, hF]
       clear hcn hP hF hy0 hy1 hy2 hy3 hy4 hy5
       repeat' (first | with_reducible refine ad_ ?_ | ((with_reducible refine ac_ ?_); first | ((with_reducible refine bG_ ?_); refine aq_ (op_seqN rfl rfl (by decide)) ?_) | ((with_reducible refine al_ ?_); refine aq_ (ae_ (b := b11) (off := 0) rfl ah_ Tryz.underlying200 rfl rfl) ?_) | ((with_reducible refine cC_ ?_); refine bn_ rfl rfl rfl rfl rfl rfl ?_) | refine ao_ ?_) | ((with_reducible refine bb_ ?_); ((with_reducible refine bd_ ?_); first | ((with_reducible refine ba_ ?_); refine aH_ (aa_ rfl) rfl rfl (ar_ rfl (aD_ rfl)) rfl rfl rfl ?_) | ((with_reducible refine bD_ ?_); refine aH_ (aa_ rfl) rfl rfl (ar_ rfl (cn_ rfl rfl (v := y4 + c4) rfl (by omega))) rfl rfl rfl ?_) | ((with_reducible refine aZ_ ?_); first | refine aO_ (aa_ rfl) rfl (ar_ rfl (ae_ (b := b9) (off := 4) rfl ah_ Tryz.underlying3 rfl rfl)) rfl rfl rfl ?_ | refine aO_ (aa_ rfl) rfl (ar_ rfl (ae_ (b := b10) (off := 14) rfl ah_ Tryz.underlying189 rfl rfl)) rfl rfl rfl ?_ | refine aO_ (aa_ rfl) rfl (ar_ rfl (aj_ (b := h.nx) (off := 0) rfl ah_ Tryz.underlying114 rfl cs_ rfl rfl)) rfl rfl rfl ?_) | ((with_reducible refine aT_ ?_); first | refine aH_ (aa_ rfl) rfl rfl (ar_ rfl (bs_ rfl rfl (k := 4) rfl Tryz.underlying22 zs3 (by omega))) rfl rfl rfl ?_ | refine aH_ (aa_ rfl) rfl rfl (ar_ rfl (op_idxArr' rfl rfl Tryz.underlying192 ce_ (by omega) (by omega))) rfl rfl rfl ?_) | ((with_reducible refine bN_ ?_); refine wx_ee0 (aa_ rfl) rfl rfl (bA_ (b := b9) (o := 4) (cs := [.int .i64 y0, .int .i64 y1, .int .i64 y2, .int .i64 y3, .int .i64 (y4 + c4), .int .i64 y5, .int .i64 0, .int .i64 0]) rfl rfl ah_ rfl zs3 (Nat.le_of_ble_eq_true rfl) rfl rfl) rfl ?_) | ((with_reducible refine aC_ ?_); first | refine aH_ (aa_ rfl) rfl rfl (ar_ rfl (ab_ (o := 0) rfl Tryz.underlying29 rfl zs22 rfl)) rfl rfl rfl ?_ | refine aH_ (aa_ rfl) rfl rfl (ar_ rfl (ab_ (o := 2) rfl Tryz.underlying191 rfl zs189 rfl)) rfl rfl rfl ?_) | ((with_reducible refine aV_ ?_); (refine aM_ (aa_ rfl) rfl rfl rfl rfl (qr4 _ aA_) rfl rfl ?_; rintro _ _ ⟨rfl, hq⟩; all_goals (try (have hqn := hq.nx); try simp only [aU_] at hqn))) | with_reducible refine bj_ ?_ ?_)) | with_reducible exact aP_ | with_reducible refine aJ_ ?_ ?_ | ((with_reducible refine bi_ ?_); first | exact aS_ | refine aQ_ rfl ?_ | refine am_ rfl rfl (ar_ rfl (ae_ (b := b9) (off := 4) rfl ah_ Tryz.underlying3 rfl (by rfl))) ?_ | refine am_ rfl rfl (ar_ rfl (ae_ (b := b10) (off := 14) rfl ah_ Tryz.underlying189 rfl (by rfl))) ?_ | refine am_ rfl rfl (ar_ rfl (aj_ (b := h.nx) (off := 0) rfl ah_ Tryz.underlying114 rfl cs_ (by rfl) rfl)) ?_) | refine ap_ ?_ | refine aF_ (id := 11) 14 [0, 0, 3, 7, 0, 16, 48, 112, 0, 496, 1023, 0, 4095, 8191] [0, 1, 2, 3, 4, 5, 6, 7, 8, 9, 10, 11, 12, 13] (by kernel_rfl) (by kernel_rfl) rfl rfl ?_ | ((with_reducible refine ac_ ?_); refine aq_ (cc_ rfl rfl (lkn _ ah_)) ?_))
       refine ⟨_, _, _, _, _, _, At.get (b := h0.nx) (o := .loop .busy none e0 _ _ _) ah_, ⟨rfl, ⟨⟨aA_, au_, ?_⟩, ah_, ah_, ah_, ah_, by rw [hnx]; exact ah_, ah_, ah_, by rw [hfx]; exact ah_, ah_⟩, ?_⟩⟩
       · simp only [H.nx_push, H.nx_set, H.nx_bump, H.nx_kill]; omega
       · exact fun b' o hb ha => by have lb := ha.lt; exact ah_
     · have hcn : cntK l i (k + 1) = [z0, z1, z2, z3, z4, z5 + 1] := by rw [cntK_next (by omega) hv, hz, he2]; rfl
       have lkn := fun (h' : H) (at1 : At h' bm (.map numM)) => lk_num0 (G := G) (j := 5) at1 cau_k5
       rw [he1]
       clear he1 he2 hz
       have hnx : outC (cntK l i (k + 1)) c0 c1 c2 c3 c4 c5 c6 = [.int .i64 y0, .int .i64 y1, .int .i64 y2, .int .i64 y3, .int .i64 y4, .int .i64 (y5 + c5), .int .i64 0, .int .i64 0] := by rw [hcn, outC_eq, suc_mul hy5, hy0, hy1, hP, hy2, hy3, hy4]
       have hfx : freeI (cntK l i (k + 1)) c6 = F := by rw [hcn, freeI_eq, hF]
       clear hcn hP hF hy0 hy1 hy2 hy3 hy4 hy5
       repeat' (first | with_reducible refine ad_ ?_ | ((with_reducible refine ac_ ?_); first | ((with_reducible refine bG_ ?_); refine aq_ (op_seqN rfl rfl (by decide)) ?_) | ((with_reducible refine al_ ?_); refine aq_ (ae_ (b := b11) (off := 0) rfl ah_ Tryz.underlying200 rfl rfl) ?_) | ((with_reducible refine cC_ ?_); refine bn_ rfl rfl rfl rfl rfl rfl ?_) | refine ao_ ?_) | ((with_reducible refine bb_ ?_); ((with_reducible refine bd_ ?_); first | ((with_reducible refine ba_ ?_); refine aH_ (aa_ rfl) rfl rfl (ar_ rfl (aD_ rfl)) rfl rfl rfl ?_) | ((with_reducible refine bD_ ?_); refine aH_ (aa_ rfl) rfl rfl (ar_ rfl (cn_ rfl rfl (v := y5 + c5) rfl (by omega))) rfl rfl rfl ?_) | ((with_reducible refine aZ_ ?_); first | refine aO_ (aa_ rfl) rfl (ar_ rfl (ae_ (b := b9) (off := 5) rfl ah_ Tryz.underlying3 rfl rfl)) rfl rfl rfl ?_ | refine aO_ (aa_ rfl) rfl (ar_ rfl (ae_ (b := b10) (off := 17) rfl ah_ Tryz.underlying189 rfl rfl)) rfl rfl rfl ?_ | refine aO_ (aa_ rfl) rfl (ar_ rfl (aj_ (b := h.nx) (off := 0) rfl ah_ Tryz.underlying114 rfl cs_ rfl rfl)) rfl rfl rfl ?_) | ((with_reducible refine aT_ ?_); first | refine aH_ (aa_ rfl) rfl rfl (ar_ rfl (bs_ rfl rfl (k := 5) rfl Tryz.underlying22 zs3 (by omega))) rfl rfl rfl ?_ | refine aH_ (aa_ rfl) rfl rfl (ar_ rfl (op_idxArr' rfl rfl Tryz.underlying192 ce_ (by omega) (by omega))) rfl rfl rfl ?_) | ((with_reducible refine bN_ ?_); refine wx_ee0 (aa_ rfl) rfl rfl (bA_ (b := b9) (o := 5) (cs := [.int .i64 y0, .int .i64 y1, .int .i64 y2, .int .i64 y3, .int .i64 y4, .int .i64 (y5 + c5), .int .i64 0, .int .i64 0]) rfl rfl ah_ rfl zs3 (Nat.le_of_ble_eq_true rfl) rfl rfl) rfl ?_) | ((with_reducible refine aC_ ?_); first | refine aH_ (aa_ rfl) rfl rfl (ar_ rfl (ab_ (o := 0) rfl Tryz.underlying29 rfl zs22 rfl)) rfl rfl rfl ?_ | refine aH_ (aa_ rfl) rfl rfl (ar_ rfl (ab_ (o := 2) rfl Tryz.underlying191 rfl zs189 rfl)) rfl rfl rfl ?_) | ((with_reducible refine aV_ ?_); (refine aM_ (aa_ rfl) rfl rfl rfl rfl (qr5 _ aA_) rfl rfl ?_; rintro _ _ ⟨rfl, hq⟩; all_goals (try (have hqn := hq.nx); try simp only [aU_] at hqn))) | with_reducible refine bj_ ?_ ?_)) | with_reducible exact aP_ | with_reducible refine aJ_ ?_ ?_ | ((with_reducible refine bi_ ?_); first | exact aS_ | refine aQ_ rfl ?_ | refine am_ rfl rfl (ar_ rfl (ae_ (b := b9) (off := 5) rfl ah_ Tryz.underlying3 rfl (by rfl))) ?_ | refine am_ rfl rfl (ar_ rfl (ae_ (b := b10) (off := 17) rfl ah_ Tryz.underlying189 rfl (by rfl))) ?_ | refine am_ rfl rfl (ar_ rfl (aj_ (b := h.nx) (off := 0) rfl ah_ Tryz.underlying114 rfl cs_ (by rfl) rfl)) ?_) | refine ap_ ?_ | refine aF_ (id := 11) 14 [0, 0, 3, 7, 0, 16, 48, 112, 0, 496, 1023, 0, 4095, 8191] [0, 1, 2, 3, 4, 5, 6, 7, 8, 9, 10, 11, 12, 13] (by kernel_rfl) (by kernel_rfl) rfl rfl ?_ | ((with_reducible refine ac_ ?_); refine aq_ (cc_ rfl rfl (lkn _ ah_)) ?_))
       refine ⟨_, _, _, _, _, _, At.get (b := h0.nx) (o := .loop .busy none e0 _ _ _) ah_, ⟨rfl, ⟨⟨aA_, au_, ?_⟩, ah_, ah_, ah_, ah_, by rw [hnx]; exact ah_, ah_, ah_, by rw [hfx]; exact ah_, ah_⟩, ?_⟩⟩
       · simp only [H.nx_push, H.nx_set, H.nx_bump, H.nx_kill]; omega
       · exact fun b' o hb ha => by have lb := ha.lt; exact ah_
   · refine ⟨⟨aA_, au_, (by simp only [H.nx_push]; omega)⟩, ah_, ah_, ah_, ah_, ?_, ah_, ah_, ?_, ah_⟩
     · rw [cntK_zero, hrK_zero, outC_eq]
       have : At (h0.push lp) b9 (.cells [.int .i64 0, .int .i64 0, .int .i64 0, .int .i64 0, .int .i64 0, .int .i64 0, .int .i64 0, .int .i64 0] 29 8 false) := ah_
       rw [show max (0 - c6) 0 = 0 by omega]
       simpa using this
     · rw [cntK_zero, hrK_zero, freeI_eq]
       have : At (h0.push lp) b12 (.cells [.int .i64 c6] 3 1 false) := ah_
       rwa [show max (c6 - 0) 0 = c6 by omega]
   · rintro _ g' ⟨⟨wg, gr, nx'⟩, t1, t2, t3, t4, t5, t6, t7, t8, t9⟩
     have lc3 := t3.lt
     have lc4 := t4.lt
     have lc5 := t5.lt
     rw [cntK_zero, ← hl] at t5
     subst hlp
     refine ⟨_, _, _, _, _, _, t2.get, by simp, ?_⟩
     repeat' (with_reducible refine bq_norm ?_)
     exact ⟨rfl, (), af_ ⟨rfl, rfl, rfl, rfl, trivial⟩, ⟨aA_, au_⟩, ⟨ah_, ah_⟩, ah_⟩
 clear w1 g1 aC aI a9 a10 a11 a12 am qr0 qr1 qr2 qr3 qr4 qr5 z10 z11 z12 zm n10 n11 nm
 rintro _ h5 ⟨⟨w1, g1⟩, ⟨aC, aI⟩, a9⟩
 obtain ⟨z0, z1, z2, z3, z4, z5, hz⟩ := six (hrK_len (l := l) l.length)
 obtain ⟨⟨p0, q0⟩, ⟨p1, q1⟩, ⟨p2, q2⟩, ⟨p3, q3⟩, ⟨p4, q4⟩, p5, q5⟩ := six_bd hv (n := l.length) (by omega) hz
 rw [hz, outC_eq] at a9
 rw [hz, bilL_eq]
 dsimp only [List.map]
 obtain ⟨P, hP⟩ : ∃ P, max (z2 - c6) 0 = P := ⟨_, rfl⟩
 have hPb : 0 ≤ P ∧ P ≤ 6400000 := by omega
 rw [hP] at a9 ⊢
 have m0 := cg_ (a := z0) (b := c0) (by omega) (by omega)
 have m1 := cg_ (a := z1) (b := c1) (by omega) (by omega)
 have m2 := cg_ (a := P) (b := c2) (by omega) (by omega)
 have m3 := cg_ (a := z3) (b := c3) (by omega) (by omega)
 have m4 := cg_ (a := z4) (b := c4) (by omega) (by omega)
 have m5 := cg_ (a := z5) (b := c5) (by omega) (by omega)
 obtain ⟨y0, hy0⟩ : ∃ y, z0 * c0 = y := ⟨_, rfl⟩
 obtain ⟨y1, hy1⟩ : ∃ y, z1 * c1 = y := ⟨_, rfl⟩
 obtain ⟨y2, hy2⟩ : ∃ y, P * c2 = y := ⟨_, rfl⟩
 obtain ⟨y3, hy3⟩ : ∃ y, z3 * c3 = y := ⟨_, rfl⟩
 obtain ⟨y4, hy4⟩ : ∃ y, z4 * c4 = y := ⟨_, rfl⟩
 obtain ⟨y5, hy5⟩ : ∃ y, z5 * c5 = y := ⟨_, rfl⟩
 rw [hy0] at m0
 rw [hy1] at m1
 rw [hy2] at m2
 rw [hy3] at m3
 rw [hy4] at m4
 rw [hy5] at m5
 rw [hy0, hy1, hy2, hy3, hy4, hy5] at a9 ⊢
 clear hv hz hP hy0 hy1 hy2 hy3 hy4 hy5 p0 q0 p1 q1 p2 q2 p3 q3 p4 q4 p5 q5 r0 s0 r1 s1 r2 s2 r3 s3 r4 s4 r5 s5 r6 s6
 have hacc := acc_le (l := rs)
 refine bq_ (ι := Unit) (fun _ => [(3, .pointer (some ⟨h.nx, 0, some 0⟩)), (6, .pointer (some ⟨h.nx + 1, 0, some 0⟩)), (9, .pointer (some ⟨b9, 0, some 0⟩))]) (fun _ h' => (Wf h' ∧ Grow h h') ∧ (At h' h.nx (.cells [.int .i64 c0, .int .i64 c1, .int .i64 c2, .int .i64 c3, .int .i64 c4, .int .i64 c5, .int .i64 c6, .int .i64 c7, .int .i64 c8] 114 9 false) ∧ At h' (h.nx + 1) (.cells [.int .i64 0, .int .i64 0, .int .i64 0, .int .i64 0, .int .i64 0, .int .i64 0, .int .i64 0, .int .i64 0] 29 8 false)) ∧ At h' b9 (.cells [.int .i64 y0, .int .i64 y1, .int .i64 y2, .int .i64 y3, .int .i64 y4, .int .i64 y5, .int .i64 (((accL rs).length : Int) * c7 - ((othL rs).length : Int) * c8), .int .i64 0] 29 8 false)) ?_ ?_
 · refine bq_ (ι := Unit) (fun _ => [(3, .pointer (some ⟨h.nx, 0, some 0⟩)), (6, .pointer (some ⟨h.nx + 1, 0, some 0⟩)), (9, .pointer (some ⟨b9, 0, some 0⟩)), (60, .slice ra m rc), (61, .int .i64 (m : Nat)), (62, .int .i64 (0 : Nat))]) (fun _ h' => h5 = h') ?_ ?_
   · repeat' (first | with_reducible refine ad_ ?_ | ((with_reducible refine ac_ ?_); first | ((with_reducible refine av_ ?_); refine aq_ (ax_ rfl Tryz.underlying110) ?_) | refine ao_ ?_) | with_reducible refine bk_ ?_)
     exact ⟨rfl, (), af_ ⟨rfl, rfl, rfl, rfl, rfl, rfl, trivial⟩, rfl⟩
   rintro _ _ rfl
   have A0 : At h5 b9 (.cells [.int .i64 y0, .int .i64 y1, .int .i64 y2, .int .i64 y3, .int .i64 y4, .int .i64 y5, .int .i64 (((accL (rs.take 0)).length : Int) * c7 - ((othL (rs.take 0)).length : Int) * c8), .int .i64 0] 29 8 false) := by
     have e1 : (accL (rs.take 0)).length = 0 := by have := hacc 0; omega
     have e2 : (othL (rs.take 0)).length = 0 := by have := hacc 0; omega
     rw [e1, e2]; simpa using a9
   refine wc_block ?_
   refine bo_ (fun k => m - k) (fun k : Nat => [(3, .pointer (some ⟨h.nx, 0, some 0⟩)), (6, .pointer (some ⟨h.nx + 1, 0, some 0⟩)), (9, .pointer (some ⟨b9, 0, some 0⟩)), (60, .slice ra m rc), (61, .int .i64 (m : Nat)), (62, .int .i64 (k : Nat))]) (fun k h' => (Wf h' ∧ Grow h h') ∧ k ≤ m ∧ (At h' h.nx (.cells [.int .i64 c0, .int .i64 c1, .int .i64 c2, .int .i64 c3, .int .i64 c4, .int .i64 c5, .int .i64 c6, .int .i64 c7, .int .i64 c8] 114 9 false) ∧ At h' (h.nx + 1) (.cells [.int .i64 0, .int .i64 0, .int .i64 0, .int .i64 0, .int .i64 0, .int .i64 0, .int .i64 0, .int .i64 0] 29 8 false)) ∧ At h' b9 (.cells [.int .i64 y0, .int .i64 y1, .int .i64 y2, .int .i64 y3, .int .i64 y4, .int .i64 y5, .int .i64 (((accL (rs.take k)).length : Int) * c7 - ((othL (rs.take k)).length : Int) * c8), .int .i64 0] 29 8 false)) 0 (af_ ⟨rfl, rfl, rfl, rfl, rfl, rfl, trivial⟩) ⟨⟨w1, g1⟩, Nat.zero_le _, ⟨aC, aI⟩, A0⟩ ?_
   clear w1 g1 aC aI a9 A0
   rintro k h6 ⟨⟨w1, g1⟩, hk, ⟨aC, aI⟩, a9⟩
   have n6 := g1.nx
   have l9 := a9.lt
   have lI := aI.lt
   have lC := aC.lt
   by_cases hlt : k < m
   · obtain ⟨id, i1, i3⟩ := cw_ Rs.len ⟨.empty, 0, 0⟩ (sr.grow g1) hrl Tryz.underlying110 bR_ (i := (k : Int)) hlt rfl
     have o1 := acc_next (l := rs) (k := k) (by omega)
     have o2 := oth_next (l := rs) (k := k) (by omega)
     have ac := hacc k
     have ac1 := hacc (k + 1)
     obtain ⟨x0, hx⟩ : ∃ x, rs.getD k ⟨.empty, 0, 0⟩ = x := ⟨_, rfl⟩
     rw [hx] at i3 o1 o2
     clear hx
     obtain ⟨nm, fo, wa⟩ := x0
     dsimp only [Rs.cells] at i3
     dsimp only at o1 o2
     have q121 := fun (h' : H) (w' : Wf h') => c121 (G := G) (h := h') (nm := nm) (fo := fo) (wa := wa) w'
     have lb := lin_bd (a := (accL (rs.take k)).length) (b := (othL (rs.take k)).length) (c7 := c7) (c8 := c8) (by omega) (by omega) (by omega) (by omega)
     by_cases hc : wa ≤ fo
     · rw [if_pos hc] at o1 o2
       rw [decide_eq_true hc] at q121
       have hL : ((accL (rs.take (k + 1))).length : Int) * c7 - ((othL (rs.take (k + 1))).length : Int) * c8 = ((accL (rs.take k)).length : Int) * c7 - ((othL (rs.take k)).length : Int) * c8 + c7 := by
         rw [o1, o2, List.length_append]
         simp only [List.length_cons, List.length_nil, Nat.zero_add, Int.natCast_add, Int.cast_ofNat_Int, Int.add_mul, Int.one_mul]
         omega
       generalize ((accL (rs.take k)).length : Int) * c7 - ((othL (rs.take k)).length : Int) * c8 = L at a9 lb hL
       repeat' (first | with_reducible refine ad_ ?_ | ((with_reducible refine ac_ ?_); first | ((with_reducible refine an_ ?_); refine aq_ (ag_ rfl rfl i1) ?_) | ((with_reducible refine al_ ?_); first | refine aq_ (aN_ rfl Tryz.underlying208 rfl bR_ (i3 _ au_).all) ?_ | refine aq_ (ae_ (b := b9) (off := 6) rfl ah_ Tryz.underlying3 rfl rfl) ?_ | refine aq_ (ae_ (b := h.nx) (off := 7) rfl ah_ Tryz.underlying3 rfl rfl) ?_ | refine aq_ (aj_ rfl ah_ Tryz.underlying208 rfl bR_ rfl rfl) ?_) | ((with_reducible refine bG_ ?_); refine aq_ (cn_ rfl rfl (v := L + c7) rfl (by omega)) ?_) | ((with_reducible refine ay_ ?_); first | refine bQ_ (bA_ (b := b9) (o := 6) (cs := [.int .i64 y0, .int .i64 y1, .int .i64 y2, .int .i64 y3, .int .i64 y4, .int .i64 y5, .int .i64 (L + c7), .int .i64 0]) rfl rfl ah_ rfl zs3 (Nat.le_of_ble_eq_true rfl) rfl rfl) ?_ | refine bQ_ (aB_ rfl rfl ah_ bR_ rfl rfl rfl rfl) ?_) | ((with_reducible refine at_ ?_); (refine as_ rfl rfl rfl rfl (q121 _ aA_) rfl rfl ?_; rintro _ _ ⟨rfl, hq⟩; all_goals (try (have hqn := hq.nx); try simp only [aU_] at hqn))) | refine ao_ ?_) | refine ap_ ?_ | (refine aG_ rfl (fun hb => ?_) (fun hb => aw_ hb); (try simp only [aX_, reduceCtorEq] at hb)))
       exact aI_ (k + 1) (by omega) (af_ ⟨rfl, rfl, rfl, rfl, rfl, rfl, trivial⟩) ⟨⟨aA_, au_⟩, by omega, ⟨ah_, ah_⟩, (by rw [hL]; exact ah_)⟩
     · rw [if_neg hc] at o1 o2
       rw [decide_eq_false hc] at q121
       have hL : ((accL (rs.take (k + 1))).length : Int) * c7 - ((othL (rs.take (k + 1))).length : Int) * c8 = ((accL (rs.take k)).length : Int) * c7 - ((othL (rs.take k)).length : Int) * c8 - c8 := by
         rw [o1, o2, List.length_append]
         simp only [List.length_cons, List.length_nil, Nat.zero_add, Int.natCast_add, Int.cast_ofNat_Int, Int.add_mul, Int.one_mul]
         omega
       generalize ((accL (rs.take k)).length : Int) * c7 - ((othL (rs.take k)).length : Int) * c8 = L at a9 lb hL
       repeat' (first | with_reducible refine ad_ ?_ | ((with_reducible refine ac_ ?_); first | ((with_reducible refine an_ ?_); refine aq_ (ag_ rfl rfl i1) ?_) | ((with_reducible refine al_ ?_); first | refine aq_ (aN_ rfl Tryz.underlying208 rfl bR_ (i3 _ au_).all) ?_ | refine aq_ (ae_ (b := b9) (off := 6) rfl ah_ Tryz.underlying3 rfl rfl) ?_ | refine aq_ (ae_ (b := h.nx) (off := 8) rfl ah_ Tryz.underlying3 rfl rfl) ?_ | refine aq_ (aj_ rfl ah_ Tryz.underlying208 rfl bR_ rfl rfl) ?_) | ((with_reducible refine bG_ ?_); refine aq_ (op_subE rfl rfl (v := L - c8) rfl (by omega)) ?_) | ((with_reducible refine ay_ ?_); first | refine bQ_ (bA_ (b := b9) (o := 6) (cs := [.int .i64 y0, .int .i64 y1, .int .i64 y2, .int .i64 y3, .int .i64 y4, .int .i64 y5, .int .i64 (L - c8), .int .i64 0]) rfl rfl ah_ rfl zs3 (Nat.le_of_ble_eq_true rfl) rfl rfl) ?_ | refine bQ_ (aB_ rfl rfl ah_ bR_ rfl rfl rfl rfl) ?_) | ((with_reducible refine at_ ?_); (refine as_ rfl rfl rfl rfl (q121 _ aA_) rfl rfl ?_; rintro _ _ ⟨rfl, hq⟩; all_goals (try (have hqn := hq.nx); try simp only [aU_] at hqn))) | refine ao_ ?_) | refine ap_ ?_ | (refine aG_ rfl (fun hb => ?_) (fun hb => aw_ hb); (try simp only [aX_, reduceCtorEq] at hb)))
       exact aI_ (k + 1) (by omega) (af_ ⟨rfl, rfl, rfl, rfl, rfl, rfl, trivial⟩) ⟨⟨aA_, au_⟩, by omega, ⟨ah_, ah_⟩, (by rw [hL]; exact ah_)⟩
   · have hkm : k = m := by omega
     subst hkm
     rw [List.take_of_length_le (by omega)] at a9
     repeat' (first | with_reducible refine ad_ ?_ | ((with_reducible refine ac_ ?_); ((with_reducible refine bG_ ?_); refine aq_ (cI_ rfl rfl) ?_)) | refine ap_ ?_ | (refine aG_ rfl (fun hb => aw_ hb) (fun hb => ?_); (try simp only [aX_, reduceCtorEq] at hb)))
     exact ⟨rfl, (), af_ ⟨rfl, rfl, rfl, trivial⟩, ⟨w1, g1⟩, ⟨aC, aI⟩, a9⟩
 clear w1 g1 aC aI a9
 rintro _ h6 ⟨⟨w1, g1⟩, ⟨aC, aI⟩, a9⟩
 have n6 := g1.nx
 have l9 := a9.lt
 have lI := aI.lt
 have na := acc_len rs
 have no := oth_len rs
 have lb := lin_bd (a := (accL rs).length) (b := (othL rs).length) (c7 := c7) (c8 := c8) (by omega) (by omega) (by omega) (by omega)
 generalize ((accL rs).length : Int) * c7 - ((othL rs).length : Int) * c8 = L at a9 lb ⊢
 have q122 := fun (h' : H) (w' : Wf h') => c122 (G := G) (h := h') (L := L) (T := 0) (a0 := y0) (a1 := y1) (a2 := y2) (a3 := y3) (a4 := y4) (a5 := y5) (by omega) (by omega) (by omega) (by omega) (by omega) (by omega) (by omega) w'
 repeat' (first | with_reducible refine ad_ ?_ | ((with_reducible refine ac_ ?_); first | ((with_reducible refine al_ ?_); refine aq_ (aj_ (b := b9) (off := 0) rfl ah_ Tryz.underlying29 rfl zs29 rfl rfl) ?_) | ((with_reducible refine ay_ ?_); refine bQ_ (aB_ rfl rfl ah_ zs29 rfl rfl rfl rfl) ?_) | ((with_reducible refine at_ ?_); (refine as_ rfl rfl rfl rfl (q122 _ aA_) rfl rfl ?_; rintro _ _ ⟨rfl, hq⟩; all_goals (try (have hqn := hq.nx); try simp only [aU_] at hqn))) | refine ao_ ?_) | refine ap_ ?_)
 exact rqc2 rfl (ldAgg ah_ Tryz.underlying29 rfl zs29 rfl rfl) rfl ⟨rfl, au_⟩
end Go.Proofs.YtlioomhcdlicmaaGreatDoor
